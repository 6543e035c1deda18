import PyProof.Rows.All
import Wide.All
import OpenK.AllK
import Wide.FinOn
import Lean
import PyProof.EqAt
import PyProof.EqKinds
import PyProof.TupleCall
import PyProof.StrLawsChain
import PyProof.StrLawsFirst
import PyProof.Rows.StrNews2
import OpenK.AllK
import PySem.SetOps
import PyProof.DictItems
import OpenK.AllK
import PyProof.DictValues
import OpenK.AllK
import PyProof.ReprBulk
import PySem.Challenge.RW_primer_k43_knots_apart
set_option Elab.async false
set_option linter.all false
set_option bootstrap.genMatcherCode false
set_option maxRecDepth 100000
set_option maxHeartbeats 4000000
set_option genInjectivity false
set_option genSizeOf false
set_option autoImplicit true
set_option relaxedAutoImplicit true
open Option renaming some->bD,none->cb,map_eq_some_iff->eH,bind_eq_some_iff->r6,map_some->O_,isNone_iff_eq_none->Qt,isSome_iff_exists->QM,map_eq_none_iff->Q0,isSome_map->Tu,getD_some->X9,getD_none->X_
open PySem renaming wpAny_bind->b5,sizeLine->df,wpAny_pure->dt,Value->dV,wpAny->et,Shared->gs,Addr->hA,model->hH,starEach->i2,wpAny_setState_of->lg,Expr->mh,wpAny_mono->tA,wpAny_holding->t4,wpAny_Call_Name_kw->uk,rawInt->ve,bootBuiltins->vr,eval->wk,backTo->x2,wpAny_newObj_type->DD,Program->D9,scanBound->Hw,World->HL,isSubtype_type->HZ,mainGlobals->H8,wpAny_call_entry->II,Heap->IZ,keywordEach->Jp,wpAny_truthy_bool->JC,cLine->Kx,Keyword->KX,compareOp->Ll,codeAny_builtin->Lm,foldedSetIterable->Lo,holding->LY,wpAny_setField->L4,Scope->L5,sysModules->Mx,wpAny_passesOwn->MC,Stmt->ME,call->MK,builtinLookup_eq_fast->MM,Around->MN,Builtin->M4,wpAny_rule->Ng,binaryOp->Nh,backToKw->Ni,SetTable->Nk,NameKind->Nr,wpAny_isInstance->NW,wpAny_pyIter_tuple->Ot,tupleKind_room_in1->Ow,assignEach->Ox,wpAny_getItem_str_slice->OE,wpAny_callSpecial?_slot->OF,isSubtype->OM,wpAny_askSetting->PM,swapsWith->PZ,swapsWithSole->Qe,codeAny->Qf,behindInMarks->Qi,attributeBase->Qj,sliceBounds->Ql,wpAny_updateSeq->QA,typeLookup_type->QB,wpAny_setEntries_of->QK,assign->QX,FuncData->QY,wpAny_pyIter_list->Ro,plainId_quiet->RA,wpAny_Call_method0_late->RO,setItem->Sd,relabel->Se,pyNext->Sg,codeAny_mono->Sh,callerA->Sj,call_meetsIn->Sk,wpAny_specialOf->SS,wpAny_loadPart'->SW,post_val_or_str->SX,letOwnedTupleGo->S0,call_isinstance->S3,wpAny_seqItems->Tv,wpAny_field->Tw,firstArgMember->Tx,valueAt->TF,tupleKind->TQ,notedBy->TR,swappedStores->Ue,typeLookup->UC,call_meets->UD,wpAny_typeOf->UO,wpAny_storeSet_of->UP,wpAny_setEpoch_of->UW,wpAny_pyIter_enum->UX,sub_set_self->UY,setNext->UZ,setField->U0,release->U3,getItem->Vk,fits_of_scanBound->Vl,concat_meets->Vu,compEnvC->Vv,seqIndex?->V0,pickOrder->V2,noFill_tuple_add->V9,PassesOwn->V_,wpAny_of_eq->Wc,unsupported->We,subscripted->Wr,wpAny_execs_nil->W0,standAt->W6,wpAny_runValue->Xb,typeIs_str->Xh,relayAll->Xi,raiseNew->Xj,pyIter->Xl,entryFor_alias->Xm,atKey->Xn,wpAny_standAt->XG,wpAny_newList->XM,wpAny_comprehension_free->XW,seq_tuple_add->XX,seqItems?->X4,bindL->X5,bindC->X6,wpAny_Call_method_late->Yc,setNextDrawn->Yd,newExc->Ye,collect->Yf,Params->Yi,IsEnum->Yj,BindsTo->Yl,wpAny_isTrue_Compare1->Yv,step->YD,seqIndex_of->YE,entryFor->YF,codeAny_extend_loopS->YG,Operator->YH,GenState->YI,wpAny_load->YY,wpAny_Name->YZ,typeOf->Y0,setsByText->Y1,builtinsNs->Y2,argsOk->Y3,WalksS->Y4,JoinOk->Y6,wpAny_pyIter_slot->Zd,wpAny_assign_Name->Ze,wpAny_Call_method->Zf,spliced->Zg,slot_list_getitem->Zh,newList->Zi,ItemsOf->Zo,wpAny_setScan_of->Zt,wpAny_eqBool_str->Zu,wpAny_eqBool_int->Zv,updateSeq->Zw,setDiscardHashed->Zx,rule->Zy,meets_dict_items->Zz,cellsFrom->ZA,codeAny_of_tree->ZJ,truthy->ZP,recursionLimit->ZQ,newTuple->ZR,isSubtype_stop->ZS,field->ZT,bindArgs->ZU,augStore->ZV,again->ZW
open Bool renaming true->b6,false->cK,and_eq_true->cL,false_ne_true->i6,not_eq_true'->ux,and_eq_true_iff->G',eq_iff_iff->Jk,false_eq_true->Kr,or_eq_true->KR,and_false->Sa,or_false->WZ,false_and->YX,not_true->Za,and_true->Zb,and_self->Zc
open Decidable renaming decide->cc
open List renaming length_map->c2,getElem?_eq_some_iff->d3,map_cons->eh,getElem?_set_self->ez,mem_cons->gj,map_map->hh,size_toArray->hE,range->hQ,nil_append->hU,mem_singleton->hV,length_append->i0,getElem?_set_ne->i1,mem_append->i3,replicate->i5,getElem?_map->i7,mem_map->js,map_append->ka,length_cons->ke,length_filter_le->ki,mem_filter->kl,all_eq_true->ko,nodup_cons->l0,mem_append_right->l',map_congr_left->mu,mem_of_getElem?->mx,getElem?_eq_getElem->mA,getElem?_append_right->nC,nodup_append->oT,filter_cons->p5,mem_cons_self->ri,append_nil->rr,lookup_cons->td,mem_cons_of_mem->ti,getElem?_append_left->u5,mem_range->u7,perm_ext_iff_of_nodup->vu,filter_sublist->w6,length_range->x3,length_take->G1,isEmpty_iff->G2,filter_eq_nil_iff->HF,length->HU,getElem?_replicate->Jb,map_nil->JL,not_mem_nil->J2,getElem_mem->J4,zip_cons_cons->Kf,getElem?_drop->Kj,filter_append->Km,filterMap_cons->Lp,ext_getElem->Lq,find?_cons->Mh,length_singleton->Mu,mem_append_left->MG,getD->M8,flatten_append->Nd,filter_eq_self->Nf,filter_cons_of_pos->N1,filter_cons_of_neg->N4,take_of_length_le->Oc,flatten_cons->Oq,eraseIdx_eq_take_drop_succ->ON,length_replicate->O2,getElem?_eq_none->O3,map->O',of_mem_zip->Pt,filter_nil->PH,length_pos_iff->P7,getElem_of_mem->P9,pairwise_cons->Qx,reverse_cons->QQ,map_id->QR,length_eq_zero_iff->Q1,getElem?_cons_succ->Q2,eraseIdx_cons_succ->Rg,all_map->Rr,foldl_cons->RC,mem_iff_getElem?->RK,nodup_nil->R6,getElem?_zipIdx->R',length_reverse->Tb,any_cons->Tj,findIdx?_eq_some_iff_getElem->Tz,eraseIdxIfInBounds_toArray->T',eq_nil_iff_forall_not_mem->Uv,any_eq_true->UB,length_zip->UI,length_nil->UJ,forIn_cons->UL,drop_left'->UM,dropLast_concat_getLast->UN,getD_eq_getElem?_getD->VY,findIdx?_eq_none_iff->Wa,drop_eq_getElem_cons->Wb,length_erase_of_mem->WL,getElem?_take_of_lt->WQ,findIdx?->WV,all_cons->WX,length_pos_of_mem->W_,length_eq_one_iff->W',dropLast_eq_take->Xq,mem_iff_getElem->XC,mem_erase_of_ne->XE,length_eraseIdx->XF,mem_map_of_mem->X1,mem_filterMap->X',map_singleton->Ya,take_sublist->Yr,filter_congr->Ys,ext_getElem?->Yt,append_assoc->Yu,map_fst_zip->Yx,length_drop->Yy,getElem_map->Yz,getElem_inj->YA,drop_length->YB,cons_append->YC,range_succ->YP,length_set->YQ,forIn_nil->YW,map_take->Y_,map_drop->Y',range'->ZG
open PySem.Heap renaming get?_push_of_some->c4,get?_push_size->fx,lt_size->gc,SameBut->my,get?_update_self->uv,get?_update_other->LZ,get?_update_ne->Nc,size_push->VM,ExtBut->ZC
open Array renaming length_toList->hY,getElem?_toList->qs,getElem?_eq_getElem->M',size_map->Qr,getD->Tr,forIn_toList->Ts,size_append->TC,toList->W4,toList_extract->Xr,toArray_toList->Xs,toList_push->Yb
open Nat renaming ne_of_lt->hZ,le_refl->ix,zero_le->i8,lt_of_lt_of_le->i9,lt_irrefl->u3,le_trans->u6,ne_of_gt->Iq,le_succ->KY,lt_succ_self->Nb,zero_add->Oz,le_of_lt->OB,lt_succ_of_lt->QW,lt_trans->T6,mod_lt->V',add_sub_cancel_left->W9,succ_pos->Xo,le_of_eq->Xp,lt_of_le_of_lt->Yq,not_lt_of_lt->YO,add_zero->ZF
open PySem.Value renaming ref->kj,none->nc,type->ro,str->tj,bool->LH,isStrOf->S8,int->Ws,isStrOf_shape->Xt,isInt->Zl
open Sum renaming inr->kr,inl->T2
open PySem.Obj renaming mapSeq->nH,data_mapFields->L6,putSet->N0,isFreed_of_fields->R0,cls_mapFields->T5,mapFields->Zm
open Ne renaming symm->rz
open Option.some renaming inj->sx,injEq->Pf
open PySem.Builtin.List renaming listExtendWith->sL,listTooLong->Kc,listSameRef->My,listLengthHint->Tf,listItems->Ug,listUpdate->ZL
open PySem.Str renaming empty->tr,ofString->Qo,length->ZX
open PySem.SetTable.layClean renaming free->va
open Int renaming eq_ofNat_of_zero_le->vl,toNat_natCast->OD,emod_nonneg->Qd,emod_lt_of_pos->QI,le_trans->ZI
open PySem.Calls renaming callWith_builtin->wh,evalArgs_plain->KC,spliced_cons->LO,spliced_nil->N8,Name_function_global->VD,call_function_entry->VP
open PySem.Heap.SameBut renaming update->D',refl->H0
open PyProof.Rows renaming seqObj->G0,size_push'->KN,callWith_type1->LA,StrsAre->O6,callWith_builtin1->R4,envOfC->SG,AllBare->SH,subscriptTail->Ui,listUpdate_at->Uu,subscriptTail_builtinR->Ym,listItems_at->Yn,IntsAre->Yp,seqEpoch_at->YN,sortedHeap->Y8,Subscript_->Y9,slot_str_getitem->ZE,get?_update_seq->ZM,entry_list_sort->ZN,call_isinstance_yes->ZO,sortedHeap_old->ZZ,slot_list_sort->Z1,isTrue_and_nil->Z2,args_list_sort->Z3,IsTup->Z4
open PySem.Builtin.Frozenset renaming isAnySet->Ig,difference->NZ,sizeOf->OQ,differenceUpdate->QN,unchanged->RH,copyOf->Sx,baseOf->Sy,addrOf->Sz,slot1->Ta,updateFrom->YK,slot0->YL,newClass->YM
open PySem.Builtin.SmallTypes renaming nextOf->IT
open PySem.SetTable renaming sizeAbove->JK,below->K2,grown->Mr,bits->MZ,eraseAt->N9,turns->Pa,layClean->Qq,fits->Qs,laid->RZ,runEnd->TU,relaid->T1,fill->UG,orStandIn->W8,fresh->X7,leap->Yg,drop->Yh
open Classical renaming byContradiction->J5
open List.Perm renaming refl->K1,swap->X2,cons->X3
open List.cons renaming injEq->LB
open PySem.NameKind renaming free->LK
open PyProof.Rows.F renaming plain_set_update_loop->L8,entry_set_update_loop->QS
open PySem.Around renaming under_plainId->Mz
open PySem.W renaming kas_sort->MD,kas_ask->Zj
open False renaming elim->MF
open PySem.AutoSeq1 renaming wpAny_loadPart'->M7,sub_tuple_tuple->UH,sub_tuple_list->VE,sub_list_tuple->VF,sub_list_list->VX,idx_int->Xw
open ForInStep renaming yield->M9
open LT renaming lt->O8
open PySem.Shared renaming TypeIs->QL
open PySem.SeqAt renaming EqAt->Rk,ne_of_list_tuple->W2,RcAt->X0,RcNeAt->Y5
open Sum.inr renaming inj->Rt
open ToString renaming toString->RL
open PySem.Data renaming fields->R3,cell->W3
open PyProof.Rows.LSm renaming kept_iter->R5,range_any->YS,range_all->YT
open PySem.Txt renaming join->Sq
open True renaming intro->Tt
open PySem.pickOrder renaming go->Ve
open PySem.SetTable.below renaming go->VC
open Prod.mk renaming injEq->VG
open List.Nodup renaming sublist->WY
open PySem.PassesOwn renaming never->Xv
open PySem.Walks renaming list->XY
open PySem.Code renaming quiet_builtin->X8
open PySem.F renaming args_list_extend_2->Yk,entry_list_extend->Yw,slot_list_extend->YJ,entry_list_pop->Y7,slot_list_pop->Zq
open PyProof.Rows.IsTup renaming new->Yo
open PySem.ItemsOf renaming nil->YR
open Prod renaming fst->YU,ext->YV
open PySem.W.WShape renaming has->Zk
open PySem.Moved renaming trans->Zn
open PySem.Heap.IsSliceOf renaming new->Zp
open LE renaming le->Zr
open ForIn renaming forIn->Zs
open PySem.Builtin.Range renaming rangeSize->ZD
open List.Pairwise renaming nil->ZH
open PySem.W.WData renaming int->ZK
open PySem.Heap.DictOf renaming new->ZY
abbrev Z5:=@decide_eq_true_eq
abbrev Z6:=@if_pos
abbrev Z7:=@if_neg
abbrev Z8:=@decide_eq_false
abbrev Z9:=@decide_eq_true
abbrev Z_:=@congrArg
abbrev Z':=@of_decide_eq_true
local macro_rules|`(def $a:declId $b* : $t :=$v)=>`(theorem $a:declId $b* : $t :=$v)
local macro_rules|`(abbrev $a:declId $b:optDeclSig $c:declVal)=>`(noncomputable def $a:declId $b:optDeclSig $c:declVal)
local macro_rules|`(tactic|show $t)=>`(tactic|refine $t)
local macro_rules|`(tactic|have⟨$a,*⟩:=$t)=>do let p<-a.getElems.mapM fun x=>`(Lean.Parser.Tactic.rcasesPatLo|$(⟨x⟩):ident);`(tactic|obtain⟨$p,*⟩:=$t)
local macro_rules|`(⋯)=>`(by lia)
local macro_rules|`(∅)=>`(by(first|exact trivial|exact⟨⟨_,rfl,rfl⟩,trivial⟩|exact⟨⟨_,rfl,rfl⟩,⟨_,rfl,rfl⟩,trivial⟩))
namespace L2
open PySem PySem.Spec PyProof.Rows
@[reducible]def Key:=Sum Int Str
abbrev ju:Key->dV->Bool
 |.inl k,v=>Zl k v
 |.inr x,v=>S8 x v
abbrev Gz(w:HL):Key->Int
 |.inl k=>hashInt k
 |.inr x=>hashStr w x
theorem bp:∀{k:Key}{v:dV},ju k v=b6->(∃i t,k=T2 i/\v=Ws i t)\/(∃x t,k=kr x/\v=tj x t)
 |.inl i,v,h=>by
  have⟨t,e⟩:=Value.isInt_shape (k:=i) (v:=v) h;show .inl ⟨i,t,rfl,e⟩
 |.inr x,v,h=>by
  have⟨t,e⟩:=Xt (x:=x) (v:=v) h;show .inr ⟨x,t,rfl,e⟩
def uI(i:Int)(t:Tok):ju (.inl i) (.int i t)=b6:=by simp[ju,Zl]
def uJ(x:Str)(t:Tok):ju (.inr x) (.str x t)=b6:=by simp[ju,S8]
def Co(a b:Int):cc ((T2 a:Key)=T2 b)=(a==b):=by
 by_cases e:a=b
 .subst e;simp
 .have h:¬(T2 a:Key)=T2 b:=λq=>e (Sum.inl.inj q);rw[Z8 h];show(beq_eq_false_iff_ne.mpr e).symm
def Cp(a b:Str):cc ((kr a:Key)=kr b)=cc (a=b):=by
 by_cases e:a=b
 .subst e;simp
 .have h:¬(kr a:Key)=kr b:=λq=>e (Rt q);rw[Z8 h,Z8 e]
def Cq(a:Int)(b:Str):cc ((T2 a:Key)=kr b)=cK:=Z8 (λq=>nomatch q)
def Cr(a:Str)(b:Int):cc ((kr a:Key)=T2 b)=cK:=Z8 (λq=>nomatch q)
abbrev aO(prog:D9)(w:HL):PySem.KeyKind prog w Key where
 is:=ju
 hash:=Gz w
 inj:=λv a b g f=>by
  rcases bp g with⟨i,t,rfl,rfl⟩|⟨x,t,rfl,rfl⟩
  .rcases bp f with⟨j,u,rfl,e⟩|⟨y,u,rfl,e⟩
   .injection e with c _;rw[c]
   .show nomatch e
  .rcases bp f with⟨j,u,rfl,e⟩|⟨y,u,rfl,e⟩
   .show nomatch e
   .injection e with c _;rw[c]
 byValue:=λk v h=>by
  rcases bp h with⟨i,t,rfl,rfl⟩|⟨x,t,rfl,rfl⟩<;>rfl
 pyHash:=λd h=>by
  rcases bp d with⟨i,t,rfl,rfl⟩|⟨x,t,rfl,rfl⟩
  .show wpAny_pyHash_int h
  .show wpAny_pyHash_str h
 eqBool:=λl d h=>by
  rcases bp l with⟨i,t,rfl,rfl⟩|⟨x,t,rfl,rfl⟩
  .rcases bp d with⟨j,u,rfl,rfl⟩|⟨y,u,rfl,rfl⟩
   .rw[Co]at h;show Zv h
   .rw[Cq]at h;show SeqAt.EqAt.int_str i t y u _ _ _ _ h
  .rcases bp d with⟨j,u,rfl,rfl⟩|⟨y,u,rfl,rfl⟩
   .rw[Cr]at h;show SeqAt.EqAt.str_int x t j u _ _ _ _ h
   .rw[Cp]at h;show Zu h
 «strs»:=λk x t v h=>by
  rcases bp h with⟨i,u,rfl,e⟩|⟨y,u,rfl,e⟩
  .show nomatch e
  .injection e with c _
   subst c;cases v<;>rfl
def o_(prog:D9)(w:HL)(i:Int)(t:Tok):(aO prog w).is (.inl i) (.int i t)=b6:=uI i t
def pb(prog:D9)(w:HL)(x:Str)(t:Tok):(aO prog w).is (.inr x) (.str x t)=b6:=uJ x t
inductive V where
 |Hs|bl (b:Bool)|int (i:Int)|str (x:Str)|Pb (b:Array UInt8)|Pc (b:UInt64)|ref (a:hA)|ty (n:String)
 deriving DecidableEq
def RelV:V->dV->Prop
 |.Hs,u=>u=nc
 |.bl b,u=>u=LH b
 |.int i,u=>∃t,u=Ws i t
 |.str x,u=>∃t,u=tj x t
 |.Pb b,u=>∃t,u=Value.bytes b t
 |.Pc b,u=>∃t,u=Value.float b t
 |.ref a,u=>u=kj a
 |.ty n,u=>u=ro n
@[reducible]def Vals:List V->List dV->Prop:=Paired RelV
def Vals.length(r:Vals xs us):xs.length=us.length:=Paired.length r
theorem Vals.get:∀{xs:List V}{us:List dV}{i:Nat}{x:V},Vals xs us->xs[i]?=bD x->∃u,us[i]?=bD u/\RelV x u
 |_,_,_,_,.nil,e=>by simp at e
 |_,_,0,_,.cons r _,e=>by simp at e;subst e;show⟨_,rfl,r⟩
 |_,_,i+1,x,.cons _ t,e=>by
  have⟨u,a,b⟩:=Vals.get (i:=i) (x:=x) t (by simpa using e);show⟨u,by simpa using a,b⟩
theorem Vals.set(r:RelV x u):∀{xs:List V}{us:List dV} (i:Nat),Vals xs us->Vals (xs.set i x) (us.set i u)
 |_,_,_,.nil=>.nil
 |_,_,0,.cons _ t=>.cons r t
 |_,_,i+1,.cons q t=>.cons q (Vals.set r i t)
theorem Vals.append:∀{xs a:List V}{us ws:List dV},Vals xs us->Vals a ws->Vals (xs++a) (us++ws)
 |_,_,_,_,.nil,s=>s
 |_,_,_,_,.cons r t,s=>.cons r (Vals.append t s)
theorem Vals.take:∀{xs:List V}{us:List dV} (n:Nat),Vals xs us->Vals (xs.take n) (us.take n)
 |_,_,0,_=>.nil
 |_,_,_+1,.nil=>.nil
 |_,_,n+1,.cons r t=>.cons r (Vals.take n t)
theorem Vals.drop:∀{xs:List V}{us:List dV} (n:Nat),Vals xs us->Vals (xs.drop n) (us.drop n)
 |_,_,0,r=>r
 |_,_,_+1,.nil=>.nil
 |_,_,n+1,.cons _ t=>Vals.drop n t
def iV:Option V->Option dV->Prop
 |some v,bD u=>RelV v u
 |none,cb=>True
 |_,_=>False
abbrev KV{κ:Type}:List (κ×V)->List (κ×dV)->Prop:=Paired λ(p:κ×V) (q:κ×dV)=>p.1=q.1/\RelV p.2 q.2
abbrev kV:Key->V
 |.inl i=>.int i
 |.inr x=>.str x
inductive HO where
 |lst (xs:List V)
 |tup (xs:List V)
 |dK (kvs:List (Key×V))|dT (kvs:List (List Key×V))
 |set (S:Int->Bool) (n:Nat)
 |ins (C dx:hA) (fs:List (Str×V))
 |own (x:hA)
 |xd (fs:List (Str×V))
 |met (f x:hA)
 |Qk (lo hi:Int)
 |Ir (o:Obj) (u:HO)
 |Mt (ps:Array dV)
 |ext (φ:IZ->Prop)
@[reducible]def Hp:=hA->Option HO
abbrev upd(H:Hp)(a:hA)(o:HO):Hp:=λb=>if b=a then bD o else H b
def ax:upd H a o a=bD o:=by unfold upd;rw[Z6 rfl]
def ak(h:b≠a):upd H a o b=H b:=by unfold upd;rw[Z7 h]
def EI{H:Hp}(h:H a=bD o)(h':H b=bD u)(d:o≠u):a≠b:=by
 intro e;subst e;rw[h]at h';show d (sx h')
def bK{H:Hp}(h:H a=bD o)(h':H b=cb):a≠b:=by
 intro e;subst e;rw[h]at h';cases h'
section
variable(P:D9)(w:HL)
def bN(H:Hp)(h:IZ)(a:hA):HO->Prop
 |.lst xs=>xs.length<=df/\∃(c:List dV) (n:Nat),Vals xs c/\h.get? a=bD {cls:=.type "list",data:=.seq c.toArray n}
 |.tup xs=>xs.length<=df/\∃c:List dV,Vals xs c/\Z4 h a c.toArray
 |.dK kvs=>kvs.length<=df/\(a==Mx)=cK/\∃vs,KV kvs vs/\h.DictOf (aO P w) a vs
 |.dT kvs=>kvs.length<=df/\(a==Mx)=cK/\∃xs:List (List Key×hA×dV),
   Paired (λ(p:List Key×V) (q:List Key×hA×dV)=>p.1=q.1/\H q.2.1=bD (.tup (p.1.map kV))/\RelV p.2 q.2.2) kvs xs /\
   ∃o es ep,h.get? a=bD o/\o.ExactDict/\o.data=.dict es ep/\es.toList=xs.map (entryOfKey (TQ (aO P w)))/\(xs.map (·.1)).Nodup
 |.set S n=>h.SetOf (intKind P w) a S n
 |.ins C e d=>H e=bD (.own a)/\d.length<=1000/\e≠a/\h.get? a=bD (PySem.W.instObj C e) /\
   ∃b,h.Ns1 e b/\(∀f,iV (d.lookup f) (b f))/\PySem.Within b (d.map (·.1))
 |.own _=>∃o,h.get? a=bD o
 |.xd d=>∃b,h.Ns1 a b/\∀f,iV (d.lookup f) (b f)
 |.Qk lo j=>∃t u v,h.get? a=bD {cls:=.type "range",data:=.fields #[.int lo t,.int j u,.int 1 v]}
 |.Ir o u=>h.get? a=bD o/\bN H h a u
 |.Mt ps=>h.get? a=bD {cls:=.none,data:=.fields ps}
 |.met f x=>h.get? a=bD (PySem.W.methodObj (.ref f) (.ref x))
 |.ext φ=>φ h/\(∃o,h.get? a=bD o)/\∀g i:IZ,φ g->(∀o,g.get? a=bD o->i.get? a=bD o)->φ i
abbrev IE(H:Hp)(h:IZ):Prop:=∀a o,H a=bD o->bN P w H h a o
end
section
def bN.lt(x:bN P w H h a o):a<h.objs.size:=by
 cases o with
 |lst xs=>obtain⟨_,_,_,_,e⟩:=x;show gc e
 |tup xs=>obtain⟨_,_,_,p⟩:=x;show p.lt
 |set S n=>obtain⟨o,_,_,_,e,_⟩:=x;show gc e
 |ins C c b=>obtain⟨_,_,_,e,_⟩:=x;show gc e
 |own y=>obtain⟨_,e⟩:=x;show gc e
 |xd b=>obtain⟨_,⟨_,_,_,e,_⟩,_⟩:=x;show gc e
 |Qk lo d=>obtain⟨_,_,_,e⟩:=x;show gc e
 |Ir g u=>obtain⟨e,_⟩:=x;show gc e
 |Mt ps=>show gc (show h.get? a=bD _ from x)
 |met f y=>show gc (show h.get? a=bD _ from x)
 |ext φ=>obtain⟨_,⟨_,e⟩,_⟩:=x;show gc e
 |_=>obtain⟨_,_,_,_,o,_,_,e,_⟩:=x;show gc e
theorem Paired.Cu:∀{c:List α}{d:List β},Paired F c d->(∀a b,F a b->G a b)->Paired G c d
 |_,_,.nil,_=>.nil
 |_,_,.cons r t,f=>.cons (f _ _ r) (Paired.Cu t f)
def bN.gQ(x:bN P w H h a o)(k:∀b u,(b=a\/H b=bD (.own a))->h.get? b=bD u->h'.get? b=bD u)
  (ho:∀b,H b=bD (.own a)->H' b=bD (.own a)) (m:∀b xs,H b=bD (.tup xs)->H' b=bD (.tup xs)):bN P w H' h' a o:=by
 induction o with
 |lst xs=>have⟨z,i,n,r,e⟩:=x;show⟨z,i,n,r,k _ _ (.inl rfl) e⟩
 |tup xs=>have⟨z,i,r,g,e,c⟩:=x;show⟨z,i,r,g,k _ _ (.inl rfl) e,c⟩
 |dK kvs=>have⟨z,y,vs,r,g,es,ep,e,c⟩:=x;show⟨z,y,vs,r,g,es,ep,k _ _ (.inl rfl) e,c⟩
 |dT kvs =>
  have⟨z,y,xs,r,g,es,ep,e,c⟩:=x;show⟨z,y,xs,Paired.Cu r λp q z=>⟨z.1,m _ _ z.2.1,z.2.2⟩,g,es,ep,k _ _ (.inl rfl) e,c⟩
 |set S n=>have⟨g,es,ep,t,e,c⟩:=x;show⟨g,es,ep,t,k _ _ (.inl rfl) e,c⟩
 |ins C G s =>
  obtain⟨d,z,A,e,j,⟨l,es,ep,B,c⟩,r⟩:=x;show⟨ho _ d,z,A,k _ _ (.inl rfl) e,j,⟨l,es,ep,k _ _ (.inr d) B,c⟩,r⟩
 |own y=>have⟨g,e⟩:=x;show⟨g,k _ _ (.inl rfl) e⟩
 |xd s=>obtain⟨j,⟨l,es,ep,e,c⟩,r⟩:=x;show⟨j,⟨l,es,ep,k _ _ (.inl rfl) e,c⟩,r⟩
 |Qk lo I=>have⟨t,u,v,e⟩:=x;show⟨t,u,v,k _ _ (.inl rfl) e⟩
 |Ir g u D=>have⟨e,q⟩:=x;show⟨k _ _ (.inl rfl) e,D q⟩
 |Mt ps =>
  have e:h.get? a=bD {cls:=.none,data:=.fields ps}:=x;change h'.get? a=bD {cls:=.none,data:=.fields ps};show k a _ (.inl rfl) e
 |met f y =>
  have e:h.get? a=bD (PySem.W.methodObj (.ref f) (.ref y)):=x;change h'.get? a=bD (PySem.W.methodObj (.ref f) (.ref y));show k a _ (.inl rfl) e
 |ext φ=>obtain⟨p,⟨o,e⟩,st⟩:=x;show⟨st _ _ p λo q=>k _ _ (.inl rfl) q,⟨o,k _ _ (.inl rfl) e⟩,st⟩
def IE.lt(x:IE P w H h)(e:H a=bD o):a<h.objs.size:=(x a o e).lt
def IE.fresh(x:IE P w H h)(e:h.objs.size<=a):H a=cb:=by
 cases q:H a with
 |none=>rfl
 |some u=>show absurd (i9 (x.lt q) e) (u3 _)
def IE.kept(x:IE P w H h)(k:∀b u,h.get? b=bD u->h'.get? b=bD u):IE P w H h':=λa o e =>
 (x a o e).gQ (λb u _ q=>k b u q) (λ_ q=>q) λ_ _ q=>q
def IE.laid(x:IE P w H h)(k:∀b u,h.get? b=bD u->h'.get? b=bD u)(g:h.objs.size<=a)(new:bN P w (upd H a o) h' a o):IE P w (upd H a o) h':=λb u e=>by
 have d:=x.fresh g;by_cases f:b=a
 .subst f;rw[ax]at e;cases e;show new
 .rw[ak f]at e;show(x b u e).gQ (λc v _ q=>k c v q) (λc q=>by rw[ak (bK q d)];show q) λc xs q=>by rw[ak (bK q d)];show q
end
abbrev Rd(H:Hp)(a:hA)(u:HO):Prop:=H a=bD u\/∃o,H a=bD (.Ir o u)
def Rd.ok(r:Rd H a u)(x:IE P w H h):bN P w H h a u:=by
 rcases r with r|⟨o,r⟩
 .show x a u r
 .obtain⟨_,q⟩:=x a _ r;show q
def NV:Option HO->Prop
 |some (.lst _)=>True
 |some (.dK _)=>True
 |some (.dT _)=>True
 |some (.set _ _)=>True
 |some (.ins _ _ _)=>True
 |some (.ext _)=>True
 |_=>False
section
def IE.write(l:IE P w H h)(a:NV (H x))(g:e=x\/H e=bD (.own x))(k:∀b u,b≠e->h.get? b=bD u->h'.get? b=bD u)(m:∃u,h'.get? e=bD u)
  (new:bN P w (upd H x o') h' x o'):IE P w (upd H x o') h':=λb u q=>by
 have i:∀c y,H c=bD (.own y)->c≠x:=λc y r z=>by subst z;rw[r]at a;show a
 have n:∀c xs,H c=bD (.tup xs)->c≠x:=λc xs r z=>by subst z;rw[r]at a;show a
 by_cases d:b=x
 .subst d;rw[ax]at q;cases q;show new
 .rw[ak d]at q;by_cases f:b=e
  .have j:H b=bD (.own x):=by
    rcases g with z|z
    .show absurd (f.trans z) d
    .rw[f];show z
   rw[q]at j;cases j;have⟨v,o⟩:=m;show⟨v,by rw[f];show o⟩
  .show(l b u q).gQ (λc v hc r=>k c v ?_ r) (λc r=>by rw[ak (i c b r)];show r) λc xs r=>by rw[ak (n c xs r)];show r
   rcases hc with rfl|hc
   .show f
   .rintro rfl;rcases g with z|z
    .show i c b hc z
    .rw[hc]at z;cases z;show d rfl
end
structure Un(fs ex:List hA)(H H':Hp)(h h':IZ):Prop where
 keep:∀b o,h.get? b=bD o->H b=cb->b∉fs->b∉ex->h'.get? b=bD o
 slot:∀b o,h.get? b=bD o->H b=cb->b∈fs->b∉ex->∃sl,h'.get? b=bD {o with slots:=sl}
 free:∀b o,h.get? b=bD o->H b=cb->b∉ex->H' b=cb
 there:∀b o,h.get? b=bD o->b∉ex->∃o',h'.get? b=bD o'
 jN:∀b xs,H b=bD (.tup xs)->H' b=bD (.tup xs)
 Jm:∀b o u,H b=bD (.Ir o u)->H' b=bD (.Ir o u)
 Jw:∀b ps,H b=bD (.Mt ps)->∃more,H' b=bD (.Mt (ps++more))
section
def Un.any(u:Un e ex H i h f)(q:h.get? b=bD a)(n:H b=cb)(c:b∉ex):∃g,f.get? b=bD {a with slots:=g}:=by
 by_cases d:b∈e
 .show u.slot b a q n d c
 .show⟨a.slots,u.keep b a q n d c⟩
def Un.kept(k:∀b u,h.get? b=bD u->h'.get? b=bD u):Un c ex H H h h' :=
 ⟨λb a q _ _ _=>k b a q,λb a q _ _ _=>⟨a.slots,k b a q⟩,λ_ _ _ n _=>n,λb a q _=>⟨a,k b a q⟩,λ_ _ q=>q,λ_ _ _ q=>q,λ_ ps q=>⟨#[],by rw[q];simp⟩⟩
def Un.refl:Un a ex H H h h:=Un.kept λ_ _ q=>q
def Un.laid(k:∀b u,h.get? b=bD u->h'.get? b=bD u)(d:h.objs.size<=a)(c:H a=cb):Un e ex H (upd H a o) h h' where
 keep:=λb u q _ _ _=>k b u q
 slot:=λb u q _ _ _=>⟨u.slots,k b u q⟩
 free:=λb u q n _=>by rw[ak (hZ (i9 (gc q) d))];show n
 there:=λb u q _=>⟨u,k b u q⟩
 jN:=λb xs q=>by rw[ak (bK q c)];show q
 Jm:=λb u xs q=>by rw[ak (bK q c)];show q
 Jw:=λb ps q=>⟨#[],by rw[ak (bK q c),q];simp⟩
def Un.write(a:NV (H x))(i:e=x\/H e=bD (.own x))(k:∀b u,b≠e->h.get? b=bD u->h'.get? b=bD u)(j:∃u,h'.get? e=bD u):Un m ex H (upd H x o) h h':=by
 have d:∀b,H b=cb->b≠x:=λb n z=>by subst z;rw[n]at a;show a
 have f:∀b,H b=cb->b≠e:=λb n z=>by
  subst z;rcases i with r|r
  .show d b n r
  .rw[n]at r;cases r
 have c:∀b u,H b=bD u->¬NV (bD u)->b≠x:=λb u q l z=>by subst z;rw[q]at a;show l a
 show⟨λb u q n _ _=>k b u (f b n) q,λb u q n _ _=>⟨u.slots,k b u (f b n) q⟩,λb u q n _=>by rw[ak (d b n)];show n,λb u q _=>?_,
  λb xs q=>by rw[ak (c b _ q λz=>z)];show q,λb u xs q=>by rw[ak (c b _ q λz=>z)];show q,λb ps q=>⟨#[],by rw[ak (c b _ q λz=>z),q];simp⟩⟩
 by_cases g:b=e
 .subst g;show j
 .show⟨u,k b u g q⟩
end
abbrev Pd(h:IZ)(H:Hp):List hA:=(hQ h.objs.size).filter λa=>(H a).isSome
abbrev nB(h:IZ)(H:Hp):IZ:=PySem.W.hideAll h (Pd h H)
def uK(h:IZ)(H:Hp):(nB h H).objs.size=h.objs.size:=PySem.W.hideAll_size _ _
def v5(e:h.get? b=bD o)(n:H b=cb):(nB h H).get? b=bD o :=
 PySem.W.hideAll_get _ e λa=>by
  have q:(H b).isSome=b6:=(kl.mp a).2;rw[n]at q;simp at q
def zt(e:(nB h H).get? b=bD o):h.get? b=bD o/\H b=cb:=by
 have a:h.get? b=bD o:=PySem.W.of_hideAll (Pd h H) e;show⟨a,?_⟩;cases q:H b with
 |none=>rfl
 |some x =>
  have c:b∈Pd h H:=kl.mpr ⟨u7.mpr (gc a),by simp[q]⟩;have z:(nB h H).get? b=cb:=PySem.W.hideAll_none (Pd h H) c;rw[z]at e;cases e
structure Mod(K:PySem.W.Frag)(mg:Str->Option dV)(base:IZ):Prop where
 NX:K.In base
 glob:base.Ns H8 mg
 blt:∃mb,base.Ns Y2 mb/\∀x:Str,x≠"__name__"->mb x=vr x
 nolimit:base.NoLimit
structure Cx where
 prog:D9
 w:HL
 K:PySem.W.Frag
 mg:Str->Option dV
 base:IZ
 A:MN
 N:List Str
 s₀:gs
 H₀:Hp
 env:Env
 outer:List Env
 stack:List Env
 ex:List hA
 fn:Str->Bool
 calm:Bool
 pn:List (hA×Obj)
 xe:dV->gs->Prop
abbrev Ke(l:List Env):List hA:=l.filterMap (·.frame)
noncomputable abbrev Cx.fs(X:Cx):List hA:=Ke X.outer
abbrev Js(a:L5)(x:Str):Prop:=a.names.lookup x=bD .local\/a.names.lookup x=bD .cell\/a.names.lookup x=bD .free
abbrev Loc(a:L5)(x:Str):Prop:=a.names.lookup x=bD .local\/a.names.lookup x=bD .cell
abbrev Look(env:Env)(h:IZ)(m:Str->Option dV)(x:Str)(u:dV):Prop :=
 (env.kindOf x=bD .local/\m x=bD u)\/((env.kindOf x=bD .cell\/env.kindOf x=bD .free)/\∃c,env.cells.lookup x=bD c/\h.IsCell c (bD u))
structure Cx.Ok(X:Cx):Prop where
 mod:Mod X.K X.mg X.base
 kind:X.env.scope.kind=.function
 glob:X.env.globals=H8
 blt:X.env.builtins=Y2
 above:X.s₀.heap.objs.size<=X.env.locals
 inj:∀x y c,X.env.cells.lookup x=bD c->X.env.cells.lookup y=bD c->x=y
 has:∀x,(X.env.kindOf x=bD .cell\/X.env.kindOf x=bD .free)->∃c,X.env.cells.lookup x=bD c
 NY:∀x c,X.fn x=b6->X.env.cells.lookup x=bD c->X.s₀.heap.objs.size<=c
 hd:X.calm=b6->X.A.handled=cb
 frames:X.A.frames=bD X.stack
 Pe:X.stack=X.outer\/(X.stack=X.env::X.outer/\X.env.frame=bD X.env.locals)
 SY:∀b∈X.ex,b≠X.env.locals/\∀x c,X.env.cells.lookup x=bD c->c≠b
 bs:∀b o,X.base.get? b=bD o->X.s₀.heap.get? b=bD o/\X.H₀ b=cb
 L0:X.base.objs.size<=X.s₀.heap.objs.size
 KQ:∀b o,X.base.get? b=bD o->b∉X.ex
 LD:∀b∈X.ex,b∉X.fs
 j7:X.s₀.heap.FunFrames X.base X.outer
 Nl:∀b∈X.fs,X.H₀ b=cb
structure Inv(X:Cx)(pins:List (hA×Obj))(σ:List (Option V))(H:Hp)(s:gs):Prop where
 ok:X.Ok
 os:s.os=X.s₀.os
 bare:SH s.gens
 base:Un X.fs X.ex X.H₀ H X.s₀.heap s.heap
 loc:∃m,s.heap.Ns X.env.locals m/\∀(i:Nat) (x:Str) (v:V),X.N[i]?=bD x->σ[i]?=bD (bD v)->Js X.env.scope x->∃u,RelV v u/\Look X.env s.heap m x u
 cell:∀x c,X.env.cells.lookup x=bD c->∃v,s.heap.IsCell c v
 free:H X.env.locals=cb
 Ic:∀x c,X.env.cells.lookup x=bD c->H c=cb
 pin:∀p∈X.pn++pins,s.heap.get? p.1=bD p.2/\H p.1=cb/\p.1≠X.env.locals/\p.1∉X.fs/\∀v,p.2.data≠.cell v
 Hr:IE X.prog X.w H s.heap
 len:σ.length=X.N.length
section
variable{X:Cx}{pins:List (hA×Obj)}{σ:List (Option V)}{H H':Hp}{s:gs}{h':IZ}
def Cx.Ok.GA(a:X.Ok)(e:X.base.get? b=bD o):b∉X.fs:=λc=>by
 have:=(a.j7.mem c).1;rw[e]at this;cases this
def Inv.bs(I:Inv X pins σ H s):∀b o,X.base.get? b=bD o->s.heap.get? b=bD o/\H b=cb:=λb o e =>
 ⟨I.base.keep b o (I.ok.bs b o e).1 (I.ok.bs b o e).2 (I.ok.GA e) (I.ok.KQ b o e),I.base.free b o (I.ok.bs b o e).1 (I.ok.bs b o e).2 (I.ok.KQ b o e)⟩
def Inv.bk(I:Inv X pins σ H s):∀b o,X.base.get? b=bD o->s.heap.get? b=bD o:=λb o e=>(I.bs b o e).1
def Inv.mod(I:Inv X pins σ H s):Mod X.K X.mg X.base:=I.ok.mod
def Inv.L3(I:Inv X pins σ H s):X.K.In s.heap:=I.ok.mod.NX.keeps I.bk
def Inv.lt(I:Inv X pins σ H s):X.env.locals<s.heap.objs.size:=let ⟨_,a,_⟩:=I.loc;a.lt
def Inv.sz(I:Inv X pins σ H s):X.s₀.heap.objs.size<=s.heap.objs.size:=u6 I.ok.above (OB I.lt)
def Inv.Cv(I:Inv X pins σ H s)(h:s.heap.objs.size<=a):a∉X.fs:=λb=>by
 obtain⟨_,o,ho,_⟩:=I.ok.j7.mem b;show absurd (i9 (gc ho) (u6 I.sz h)) (u3 _)
def Inv.Mw(I:Inv X pins σ H s):∀x c,X.env.cells.lookup x=bD c->c≠X.env.locals:=λx c e z=>by
 have⟨v,o,ho,a⟩:=I.cell x c e;obtain⟨m,⟨o',es,ep,b,d,_⟩,_⟩:=I.loc;rw[z,b]at ho;cases ho;rw[d]at a;cases a
def Inv.j7(I:Inv X pins σ H s):s.heap.FunFrames X.base X.outer:=by
 have all:∀(l:List Env),(∀b∈Ke l,b∈X.fs)->X.s₀.heap.FunFrames X.base l->s.heap.FunFrames X.base l:=by
  intro l;induction l with
  |nil=>intro _ _;trivial
  |cons env r f =>
   intro hs hl;obtain⟨hk,⟨L,o,a,g,ho,h⟩,i⟩:=hl;have c:L∈X.fs:=hs L (by unfold Ke;rw[Lp,a];show ri);have⟨j,e⟩:=I.base.slot L o ho (I.ok.Nl L c) c λz=>I.ok.LD L z c;show⟨hk,⟨L,_,a,g,e,h⟩,f (λb d=>hs b (by unfold Ke;rw[Lp,a];show ti _ d)) i⟩
 show all X.outer (λ_ d=>d) I.ok.j7
def Inv.stack(I:Inv X pins σ H s):s.heap.FunFrames X.base X.stack:=by
 rcases I.ok.Pe with e|⟨e,a⟩
 .rw[e];show I.j7
 .rw[e];obtain⟨m,b,_⟩:=I.loc;show .cons (by rw[I.ok.kind];decide) a b ?_ I.j7;show Heap.get?_none_of_le (u6 I.ok.L0 I.ok.above)
def Inv.j8(I:Inv X pins σ H s):∀b∈Ke X.stack,b∈X.env.locals::X.fs:=λb a=>by
 rcases I.ok.Pe with e|⟨e,c⟩
 .rw[e]at a;show ti _ a
 .rw[e]at a;unfold Ke at a;rw[Lp,c]at a;show a
def Inv.sN(I:Inv X pins σ H s):∀b∈Ke X.stack,H b=cb:=λb hb=>by
 rcases gj.mp (I.j8 b hb) with e|hb
 .rw[e];show I.free
 .obtain⟨_,o,ho,_⟩:=I.ok.j7.mem hb;show I.base.free b o ho (I.ok.Nl b hb) λz=>I.ok.LD b z hb
def Inv.step{ch:List hA}(I:Inv X pins σ H s)
  (j:∀b∈ch,(b∈X.ex\/X.s₀.heap.objs.size<=b)/\b≠X.env.locals/\(∀x c,X.env.cells.lookup x=bD c->c≠b)/\∀p∈X.pn++pins,p.1≠b)
  (keep:∀b o,b≠X.env.locals->b∉X.fs->b∉ch->s.heap.get? b=bD o->H b=cb->h'.get? b=bD o)
  (slot:∀b o,b≠X.env.locals->b∈X.fs->b∉ch->s.heap.get? b=bD o->H b=cb->∃B,h'.get? b=bD {o with slots:=B}) (free:∀b o,b∉ch->s.heap.get? b=bD o->H b=cb->H' b=cb)
  (there:∀b o,b∉ch->s.heap.get? b=bD o->∃o',h'.get? b=bD o')
  (jN:∀b xs,H b=bD (.tup xs)->H' b=bD (.tup xs)) (Jm:∀b o u,H b=bD (.Ir o u)->H' b=bD (.Ir o u)) (Jw:∀b ps,H b=bD (.Mt ps)->∃more,H' b=bD (.Mt (ps++more)))
  (ns:∀m,s.heap.Ns X.env.locals m->h'.Ns X.env.locals m) (O:IE X.prog X.w H' h') (Q:SH g') :
  Inv X pins σ H' {s with heap:=h',gens:=g',drawn:=d',toks:=t' }:=by
 have D:∀b o,X.s₀.heap.get? b=bD o->b≠X.env.locals:=λb o e=>hZ (i9 (gc e) I.ok.above);have A:∀b o,X.s₀.heap.get? b=bD o->b∉X.ex->b∉ch:=λb o e a h=>by
  rcases(j b h).1 with z|z
  .show a z
  .show absurd (i9 (gc e) z) (u3 _)
 have f:∀x c,X.env.cells.lookup x=bD c->∀v,s.heap.IsCell c v->h'.IsCell c v:=λx c e v T=>by
  have⟨o,ho,C⟩:=T;have t:c∉ch:=λz=>(j c z).2.2.1 x c e rfl;by_cases G:c∈X.fs
  .have⟨B,q⟩:=slot c o (I.Mw x c e) G t ho (I.Ic x c e);show⟨_,q,C⟩
  .show⟨o,keep c o (I.Mw x c e) G t ho (I.Ic x c e),C⟩
 show⟨I.ok,I.os,Q,⟨λb o e n h a=>?_,λb o e n h a=>?_,λb o e n a=>?_,λb o e a=>?_,λb xs e=>jN b xs (I.base.jN b xs e),λb o xs e=>Jm b o xs (I.base.Jm b o xs e),λb ps e=>?_⟩,?_,λx c e=>?_,?_,λx c e=>?_,λp J=>?_,O,I.len⟩
 .show keep b o (D b o e) h (A b o e a) (I.base.keep b o e n h a) (I.base.free b o e n a)
 .have⟨B,g⟩:=I.base.slot b o e n h a;have⟨Y,y⟩:=slot b _ (D b o e) h (A b o e a) g (I.base.free b o e n a);show⟨Y,y⟩
 .have⟨o',g⟩:=I.base.there b o e a;show free b o' (A b o e a) g (I.base.free b o e n a)
 .have⟨o',g⟩:=I.base.there b o e a;show there b o' (A b o e a) g
 .have⟨m1,g⟩:=I.base.Jw b ps e;have⟨m2,y⟩:=Jw b _ g;show⟨m1++m2,by rw[y,Array.append_assoc]⟩
 .have⟨m,hn,hl⟩:=I.loc;show⟨m,ns m hn,λi x v g y e3=>?_⟩;have⟨u,r,l⟩:=hl i x v g y e3;show⟨u,r,?_⟩;rcases l with l|⟨k,c,e,z⟩
  .show .inl l
  .show .inr ⟨k,c,e,f x c e _ z⟩
 .have⟨v,z⟩:=I.cell x c e;show⟨v,f x c e v z⟩
 .obtain⟨m,⟨o,_,_,ho,_⟩,_⟩:=I.loc;show free _ o (λz=>(j _ z).2.1 rfl) ho I.free
 .have⟨v,o,ho,C⟩:=I.cell x c e;show free c o (λz=>(j c z).2.2.1 x c e rfl) ho (I.Ic x c e)
 .have⟨e,n,L,N,d⟩:=I.pin p J;have t:p.1∉ch:=λz=>(j p.1 z).2.2.2 p J rfl;show⟨keep p.1 p.2 L N t e n,free p.1 p.2 t e n,L,N,d⟩
def Inv.un(I:Inv X pins σ H s)(u:Un X.fs [] H H' s.heap h')(d:IE X.prog X.w H' h'):Inv X pins σ H' {s with heap:=h',toks:=t' }:=by
 obtain⟨m,⟨o,es,ep,ho,r⟩,_⟩:=id I.loc;have⟨k,f⟩:=u.any ho I.free (by simp);show I.step (g':=s.gens) (d':=s.drawn) (ch:=[]) (λ_ z=>nomatch z) (λb o _ a _ e n=>u.keep b o e n a (by simp)) (λb o _ a _ e n=>u.slot b o e n a (by simp)) (λb o _ e n=>u.free b o e n (by simp)) (λb o _ e=>u.there b o e (by simp)) u.jN u.Jm u.Jw (λl g=>by
  have⟨o',h,i,c,j⟩:=g;rw[ho]at c;cases c;show⟨_,h,i,f,j⟩) d I.bare
def Inv.call(I:Inv X pins σ H s)(u:Un (Ke X.stack) ch H H' s.heap h')(h:IE X.prog X.w H' h')(i:SH g')
  (f:∀b∈ch,(b∈X.ex\/X.s₀.heap.objs.size<=b)/\b≠X.env.locals/\(∀x c,X.env.cells.lookup x=bD c->c≠b)/\∀p∈X.pn++pins,p.1≠b) :
  Inv X pins σ H' {s with heap:=h',gens:=g',drawn:=d',toks:=t' }:=by
 obtain⟨m,⟨o,es,ep,ho,r⟩,_⟩:=id I.loc;have⟨v,d⟩:=u.any ho I.free λz=>(f _ z).2.1 rfl;show I.step (ch:=ch) f (λb o d j a e n=>u.keep b o e n (λz=>(gj.mp (I.j8 b z)).elim d j) a) (λb o _ _ a e n=>u.any e n a) (λb o a e n=>u.free b o e n a) (λb o a e=>u.there b o e a) u.jN u.Jm u.Jw (λy k=>by
  have⟨o',l,q,g,t⟩:=k;rw[ho]at g;cases g;show⟨_,l,q,d,t⟩) h i
def Inv.turned(I:Inv X pins σ H s)(k:∀b o,b≠it->s.heap.get? b=bD o->h'.get? b=bD o)(g:H it=cb)(d:it≠X.env.locals)
  (h:it∈X.ex\/X.s₀.heap.objs.size<=it) (i:∀x c,X.env.cells.lookup x=bD c->c≠it) (j:∀p∈X.pn++pins,p.1≠it):Inv X pins σ H {s with heap:=h',toks:=t' }:=by
 have f:∀b u,H b=bD u->b≠it:=λb u e z=>by rw[z,g]at e;cases e
 show I.step (g':=s.gens) (d':=s.drawn) (ch:=[it]) (λb l=>?_) (λb o _ _ a e _=>k b o (λz=>a (by simp[z])) e) (λb o _ _ a e _=>⟨o.slots,k b o (λz=>a (by simp[z])) e⟩) (λ_ _ _ _ n=>n)
  (λb o a e=>⟨o,k b o (λz=>a (by simp[z])) e⟩) (λ_ _ e=>e) (λ_ _ _ e=>e) (λb ps e=>⟨#[],by rw[e];simp⟩) (λm t=>?_) (λb u e=>?_) I.bare
 .have e:b=it:=by simpa using l
  subst e;show⟨h,d,i,j⟩
 .have⟨o,es,ep,ho,r⟩:=t;show⟨o,es,ep,k _ o (rz d) ho,r⟩
 .show(I.Hr b u e).gQ (λc v a q=>k c v ?_ q) (λ_ q=>q) λ_ _ q=>q;rcases a with z|z
  .rw[z];show f b u e
  .show f c _ z
def Inv.tok(I:Inv X pins σ H s)(t:Nat):Inv X pins σ H {s with toks:=t}:=I.un (h':=s.heap) (t':=t) Un.refl I.Hr
def Inv.kept(I:Inv X pins σ H s)(k:∀b u,s.heap.get? b=bD u->h'.get? b=bD u):Inv X pins σ H {s with heap:=h',toks:=t' }:=I.un (Un.kept k) (I.Hr.kept k)
def Inv.laid(I:Inv X pins σ H s)(k:∀b u,s.heap.get? b=bD u->h'.get? b=bD u)(c:s.heap.objs.size<=a)(new:bN X.prog X.w (upd H a o) h' a o):
  Inv X pins σ (upd H a o) {s with heap:=h',toks:=t' }:=I.un (Un.laid k c (I.Hr.fresh c)) (I.Hr.laid k c new)
def Inv.write(I:Inv X pins σ H s)(a:NV (H x))(c:e=x\/H e=bD (.own x))(k:∀b u,b≠e->s.heap.get? b=bD u->h'.get? b=bD u)(d:∃u,h'.get? e=bD u)
  (new:bN X.prog X.w (upd H x o) h' x o):Inv X pins σ (upd H x o) {s with heap:=h',toks:=t' }:=I.un (Un.write a c k d) (I.Hr.write a c k d new)
def Inv.weak(I:Inv X pins σ H s)(hl:a.length=σ.length)(w:∀(i:Nat) v,a[i]?=bD (bD v)->σ[i]?=bD (bD v)):Inv X pins a H s :=
 ⟨I.ok,I.os,I.bare,I.base,let ⟨m,b,c⟩:=I.loc;⟨m,b,λi x v d e f=>c i x v d (w i v e) f⟩,I.cell,I.free,I.Ic,I.pin,I.Hr,hl.trans I.len⟩
def Inv.eB(I:Inv X pins σ H s)(h:∀p∈a,s.heap.get? p.1=bD p.2/\H p.1=cb/\p.1≠X.env.locals/\p.1∉X.fs/\∀v,p.2.data≠.cell v):Inv X a σ H s :=
 ⟨I.ok,I.os,I.bare,I.base,I.loc,I.cell,I.free,I.Ic,λp b=>(i3.mp b).elim (λz=>I.pin p (MG _ z)) (h p),I.Hr,I.len⟩
def j9{N:List Str}(c:N.Nodup){i j:Nat}(a:N[i]?=bD x)(b:N[j]?=bD x):i=j:=by
 have⟨f,d⟩:=d3.mp a;have⟨g,e⟩:=d3.mp b;show(YA c).mp (d.trans e.symm)
def lZ(I:Inv X pins σ H s)(hN:X.N.Nodup)(D:X.N[i]?=bD x)(l:Loc X.env.scope x)(r:RelV v u)
  (h:∀s',Inv X pins (σ.set i (bD v)) H s'->(∃a,my a s.heap s'.heap/\(a=X.env.locals\/X.env.cells.lookup x=bD a))->Q () s') (hf:X.fn x=b6\/X.env.scope.names.lookup x=bD .local:=by first|show .inl rfl|show .inr rfl|assumption):et M A (storeName X.env x u) Q E s:=by
 have⟨m,O,hl⟩:=id I.loc;have Qm:(X.env.scope.kind==.class||(X.env.scope.kind==.module&&X.env.locals != X.env.globals))=cK:=by rw[I.ok.kind];rfl
 have S4:i < σ.length:=by rw[I.len];show(d3.mp D).1
 have T:=I.Mw;have f:∀{a:hA} {h':IZ},(∃o,s.heap.get? a=bD o/\H a=cb)->my a s.heap h'->IE X.prog X.w H h':=λ{a h'} ha hs b ob e=>by
  obtain⟨_,_,Im⟩:=ha;show(I.Hr b ob e).gQ (λc G hc q=>(hs.2 c ?_).trans q) (λ_ q=>q) λ_ _ q=>q;rintro rfl;rcases hc with rfl|hc
  .rw[Im]at e;cases e
  .rw[Im]at hc;cases hc
 rcases l with hk|hk
 .show wpAny_storeName_local hk O (λh' Ph hs=>?_) Qm;obtain⟨oL,_,_,LG,_⟩:=id O;show h _ ⟨I.ok,I.os,I.bare,⟨λb o e n B l=>?_,λb o e n B l=>?_,I.base.free,λb o e l=>?_,I.base.jN,I.base.Jm,I.base.Jw⟩,⟨_,Ph,λj y Y g t e3=>?_⟩,λy c e=>?_,I.free,I.Ic,λp hp=>?_,f ⟨oL,LG,I.free⟩ hs,by simpa using I.len⟩ ⟨_,hs,.inl rfl⟩
  .show(hs.2 b (hZ (i9 (gc e) I.ok.above))).trans (I.base.keep b o e n B l)
  .have⟨sl,g⟩:=I.base.slot b o e n B l;show⟨sl,(hs.2 b (hZ (i9 (gc e) I.ok.above))).trans g⟩
  .have⟨o',g⟩:=I.base.there b o e l;show⟨o',(hs.2 b (hZ (i9 (gc e) I.ok.above))).trans g⟩
  .by_cases C:j=i
   .subst C;rw[D]at g;cases g;rw[ez S4]at t;cases t;show⟨u,r,.inl ⟨hk,by simp⟩⟩
   .rw[i1 (rz C)]at t;have⟨u',r',q⟩:=hl j y Y g t e3;show⟨u',r',?_⟩;rcases q with⟨k,e⟩|⟨k,c,e,z⟩
    .show .inl ⟨k,?_⟩;have:y≠x:=λe=>C (j9 hN g (e▸D));simp[this,e]
    .show .inr ⟨k,c,e,z.sameBut hs (T y c e)⟩
  .have⟨G,z⟩:=I.cell y c e;show⟨G,z.sameBut hs (T y c e)⟩
  .have⟨e,n,J,nf,d⟩:=I.pin p hp;show⟨(hs.2 p.1 J).trans e,n,J,nf,d⟩
 .have JZ:X.fn x=b6:=by
   rcases hf with z|z
   .show z
   .rw[z]at hk;cases hk
  have⟨c,hc⟩:=I.ok.has x (.inl hk);have⟨G,z⟩:=I.cell x c hc;show wpAny_storeName_cell I.ok.kind hk hc z (λh' Nm hs=>?_);have⟨oc,S5,Qn⟩:=id z;show h {s with heap:=h' } ⟨I.ok,I.os,I.bare,⟨λb o e n B l=>?_,λb o e n B l=>?_,I.base.free,λb o e l=>?_,I.base.jN,I.base.Jm,I.base.Jw⟩,⟨m,O.sameBut hs (rz (T x c hc)),λj y Y g t e3=>?_⟩,λy L e=>?_,I.free,I.Ic,λp hp=>?_,f ⟨oc,S5,I.Ic x c hc⟩ hs,by simpa using I.len⟩ ⟨c,hs,.inr hc⟩
  .show(hs.2 b (hZ (i9 (gc e) (I.ok.NY x c JZ hc)))).trans (I.base.keep b o e n B l)
  .have⟨sl,g⟩:=I.base.slot b o e n B l;show⟨sl,(hs.2 b (hZ (i9 (gc e) (I.ok.NY x c JZ hc)))).trans g⟩
  .have⟨o',g⟩:=I.base.there b o e l;show⟨o',(hs.2 b (hZ (i9 (gc e) (I.ok.NY x c JZ hc)))).trans g⟩
  .by_cases C:j=i
   .subst C;rw[D]at g;cases g;rw[ez S4]at t;cases t;show⟨u,r,.inr ⟨.inl hk,c,hc,Nm⟩⟩
   .rw[i1 (rz C)]at t;have⟨u',r',q⟩:=hl j y Y g t e3;show⟨u',r',?_⟩;rcases q with q|⟨k,L,e,z'⟩
    .show .inl q
    .show .inr ⟨k,L,e,z'.sameBut hs ?_⟩;rintro rfl;show C (j9 hN g (I.ok.inj _ _ _ e hc▸D))
  .by_cases S6:L=c
   .subst S6;show⟨_,Nm⟩
   .have⟨w2,z2⟩:=I.cell y L e;show⟨w2,z2.sameBut hs S6⟩
  .have⟨e,n,J,nf,d⟩:=I.pin p hp;show⟨(hs.2 p.1 ?_).trans e,n,J,nf,d⟩;intro q;rw[q,S5]at e;have q':oc=p.2:=sx e;show d G (by rw[<-q'];show Qn)
def pd(I:Inv X pins σ H s)(a:X.N.Nodup)(b:X.N[i]?=bD x)(c:Loc X.env.scope x)(r:RelV v u)
  (h:∀s',Inv X pins (σ.set i (bD v)) H s'->Q () s') (d:X.fn x=b6\/X.env.scope.names.lookup x=bD .local:=by first|show .inl rfl|show .inr rfl|assumption):et M A (storeName X.env x u) Q E s :=
 lZ I a b c r (λs' e _=>h s' e) d
def Inv.EJ(I:Inv X pins σ H s)(ho:s'.os=s.os)(u:Un (Ke X.stack) ch H H' s.heap s'.heap)(a:IE X.prog X.w H' s'.heap)(d:SH s'.gens)
  (f:∀b∈ch,(b∈X.ex\/X.s₀.heap.objs.size<=b)/\b≠X.env.locals/\(∀x c,X.env.cells.lookup x=bD c->c≠b)/\∀p∈X.pn++pins,p.1≠b):Inv X pins σ H' s':=by
 have⟨h',g',d',t',o'⟩:=s';have e:o'=s.os:=ho;subst e;show I.call (g':=g') (t':=t') (d':=d') u a d f
end
@[reducible]def XK:=dV->Option hA->Hp->Prop
@[reducible]def St:=List (Option V)
@[reducible]def VK:=V->Hp->Prop
@[reducible]def TE:=St->Hp->VK->Prop
@[reducible]def TT:=St->Hp->(Bool->Hp->Prop)->Prop
@[reducible]def TA:=St->Hp->(List V->Hp->Prop)->Prop
structure Ends where
 nx:St->Hp->Prop
 rt:VK
 bk:St->Hp->Prop:=λ_ _=>False
 ct:St->Hp->Prop:=λ_ _=>False
@[reducible]def TS:=Ends->St->Hp->Prop
abbrev EP(X:Cx)(a:List (hA×Obj))(σ:St)(Q:VK)(u:dV)(s':gs):Prop:=∃v H',Inv X a σ H' s'/\RelV v u/\Q v H'
abbrev TP(X:Cx)(a:List (hA×Obj))(σ:St)(Q:Bool->Hp->Prop)(b:Bool)(s':gs):Prop:=∃H',Inv X a σ H' s'/\Q b H'
abbrev AP(X:Cx)(a:List (hA×Obj))(σ:St)(Q:List V->Hp->Prop)(us:List dV)(s':gs):Prop:=∃vs H',Inv X a σ H' s'/\Vals vs us/\Q vs H'
abbrev SP(X:Cx)(a:List (hA×Obj))(D:Ends)(f:Flow)(s':gs):Prop :=
 match f with
 |.next=>∃b H',Inv X a b H' s'/\D.nx b H'
 |.brk=>∃b H',Inv X a b H' s'/\D.bk b H'
 |.cont=>∃b H',Inv X a b H' s'/\D.ct b H'
 |.ret u=>∃v b H',Inv X a b H' s'/\RelV v u/\D.rt v H'
abbrev PE(X:Cx)(e:mh)(t:TE):Prop :=
 ∀(a:List (hA×Obj)) (s:gs) (σ:St) (H:Hp) (Q:VK),Inv X a σ H s->t σ H Q->et (hH X.prog X.w) X.A (wk e X.env) (EP X a σ Q) X.xe s
abbrev PT(X:Cx)(e:mh)(t:TT):Prop :=
 ∀(a:List (hA×Obj)) (s:gs) (σ:St) (H:Hp) (Q:Bool->Hp->Prop),Inv X a σ H s->t σ H Q->et (hH X.prog X.w) X.A (isTrue e X.env (wk e X.env)) (TP X a σ Q) X.xe s
abbrev PW(X:Cx)(e:mh)(t:TT):Prop :=
 ∀(b:Sem dV) (a:List (hA×Obj)) (s:gs) (σ:St) (H:Hp) (Q:Bool->Hp->Prop),Inv X a σ H s->t σ H Q->et (hH X.prog X.w) X.A (isTrue e X.env b) (TP X a σ Q) X.xe s
def PW.pt(h:PW X e t):PT X e t:=h _
abbrev PA(X:Cx)(es:List mh)(t:TA):Prop :=
 ∀(pos:Pos) (a:List (hA×Obj)) (s:gs) (σ:St) (H:Hp) (Q:List V->Hp->Prop),Inv X a σ H s->t σ H Q->et (hH X.prog X.w) X.A (Zg (x2 pos (i2 es X.env))) (AP X a σ Q) X.xe s
abbrev PS(X:Cx)(st:ME)(t:TS):Prop :=
 ∀(a:List (hA×Obj)) (s:gs) (σ:St) (H:Hp) (D:Ends),Inv X a σ H s->t D σ H->et (hH X.prog X.w) X.A (exec st X.env) (SP X a D) X.xe s
abbrev IJ(X:Cx)(st:List ME)(t:TS):Prop :=
 ∀(a:List (hA×Obj)) (s:gs) (σ:St) (H:Hp) (D:Ends),Inv X a σ H s->t D σ H->et (hH X.prog X.w) X.A (execs st X.env) (SP X a D) X.xe s
def Hu(h:et M A t Q E s)(b:∀a s,Q a s->Q' a s):et M A t Q' E s:=tA h b λ_ _ x=>x
section
abbrev GB(i:Nat):TE:=λσ H Q=>∃v,σ[i]?=bD (bD v)/\Q v H
abbrev tC(v:V):TE:=λ_ H Q=>Q v H
def b9(j:X.N[i]?=bD x)(k:Js X.env.scope x)(d:(x==("__debug__":Str))=cK:=by decide)(n:(x==("__classdict__":Str))=cK:=by decide):PE X (.Name x pos) (GB i):=by
 intro b s σ H Q I h;have⟨v,e,h⟩:=h;have⟨m,o,hl⟩:=I.loc;have⟨u,r,l⟩:=hl i x v j e k;have a:EP X b σ Q u s:=⟨v,H,I,r,h⟩
 rcases l with⟨hk,p⟩|⟨hk,c,f,g⟩
 .show YZ (wpAny_loadName_local I.ok.kind hk o p a) d
 .rcases hk with hk|hk
  .show YZ (wpAny_loadName_cell I.ok.kind hk f g a) d
  .show YZ (wpAny_loadName_free I.ok.kind hk f g a n) d
def v7:PE X (.Constant (.int i) j pos) (tC (.int i)):=λ_ _ _ H _ I h=>wpAny_Constant_int ⟨.int i,H,I.tok _,⟨_,rfl⟩,h⟩
def BM:PE X (.Constant (.bool b) j pos) (tC (.bl b)):=λ_ _ _ H _ I h=>Constant_bool ⟨.bl b,H,I,rfl,h⟩
def v8:PE X (.Constant .none j pos) (tC .Hs):=λ_ _ _ H _ I h=>Constant_none ⟨.Hs,H,I,rfl,h⟩
def v9:PE X (.Constant (.str x) j pos) (tC (.str x)):=λ_ _ _ H _ I h=>Calls.Constant_str ⟨.str x,H,I.tok _,⟨_,rfl⟩,h⟩
abbrev Gl(X:Cx)(x:Str):Prop:=X.env.kindOf x=bD .globalImplicit
def nE(I:Inv X a σ H s)(b:Gl X x)(c:X.mg x=bD u)(h:Q u s)
  (d:(x==("__debug__":Str))=cK:=by decide):et (hH X.prog X.w) X.A (wk (.Name x pos) X.env) Q E s :=
 VD I.ok.kind b (Calls.loadGlobal_global (by rw[I.ok.glob];show I.mod.glob.keeps I.bk) c h) d
def dB(I:Inv X a σ H s)(b:Gl X x)(c:X.mg x=cb)(d:vr x=bD u)(h:Q u s)
  (e:x≠"__name__":=by decide) (f:(x==("__debug__":Str))=cK:=by decide):et (hH X.prog X.w) X.A (wk (.Name x pos) X.env) Q E s:=by
 have⟨j,g,i⟩:=I.mod.blt;show VD I.ok.kind b (Calls.loadGlobal_builtin (by rw[I.ok.glob];show I.mod.glob.keeps I.bk) c (by rw[I.ok.blt];show g.keeps I.bk) ((i x e).trans d) h) f
def zu(a:Gl X x)(b:X.mg x=cb)(c:vr x=bD u)(r:RelV v u)(d:x≠"__name__":=by decide)(e:(x==("__debug__":Str))=cK:=by decide):PE X (.Name x pos) (tC v) :=
 λ_ _ _ H _ I h=>dB I a b c ⟨v,H,I,r,h⟩ d e
abbrev PC(X:Cx)(d:CmpOp)(a b:mh)(t:TE):Prop :=
 ∀(c:List (hA×Obj)) (s:gs) (σ:St) (H:Hp) (Q:VK),Inv X c σ H s->t σ H Q ->
  et (hH X.prog X.w) X.A (wk a X.env) (λv e=>et (hH X.prog X.w) X.A (wk b X.env) (λu f=>et (hH X.prog X.w) X.A (Ll d v u) (EP X c σ Q) X.xe f) X.xe e) X.xe s
abbrev tB(t:TE):TT:=λσ H Q=>t σ H λx a=>∃c,x=.bl c/\Q c a
def v_(h:PC X g a b t)(f:Qi g b=cK:=by first|show o _ (by decide) (by decide)|rfl):PT X (.Compare a [g] [b] pos) (tB t):=by
 intro e s σ H Q I i;show Yv (Hu (h e s σ H _ I i) λv s1 f=>Hu f λu s2 j=>Hu j λc s3 ⟨x,k,l,m,n⟩=>?_) f;have⟨d,rfl,q⟩:=n;cases m;show JC ⟨k,l,q⟩
abbrev GC(t u:TT):TT:=λσ H Q=>t σ H λc a=>if c=b6 then u σ a Q else Q cK a
abbrev UE(t u:TT):TT:=λσ H Q=>t σ H λc a=>if c=b6 then Q b6 a else u σ a Q
abbrev GD(t:TT):TT:=λσ H Q=>t σ H λc a=>Q (!c) a
def zv(d:PT X a f):PW X (.BoolOp .And [a] pos) f:=by
 intro g b s σ H Q I h;show isTrue_and (Hu (d b s σ H Q I h) λc s1 e=>?_);cases c with
 |true=>show Z2 e
 |false=>show e
def Cw(d:PT X a f):PW X (.BoolOp .Or [a] pos) f:=by
 intro g b s σ H Q I h;show isTrue_or (Hu (d b s σ H Q I h) λc s1 e=>?_);cases c with
 |false=>show isTrue_or_nil e
 |true=>show e
def Cy(i:PT X a j)(k:PW X (.BoolOp .And (b::rest) pos) l):PW X (.BoolOp .And (a::b::rest) pos) (GC j l):=by
 intro m d s σ H Q I h;show isTrue_and (Hu (i d s σ H _ I h) λc s1 n=>?_);have⟨e,f,g⟩:=n;cases c with
 |true=>show k m d s1 σ e Q f g
 |false=>show⟨e,f,g⟩
def EK(i:PT X a j)(k:PW X (.BoolOp .Or (b::rest) pos) l):PW X (.BoolOp .Or (a::b::rest) pos) (UE j l):=by
 intro m d s σ H Q I h;show isTrue_or (Hu (i d s σ H _ I h) λc s1 n=>?_);have⟨e,f,g⟩:=n;cases c with
 |true=>show⟨e,f,g⟩
 |false=>show k m d s1 σ e Q f g
def Cz(d:PT X a e):PT X (.UnaryOp .Not a pos) (GD e):=by
 intro b s σ H Q I h;show isTrue_not (d b s σ H (λc f=>Q (!c) f) I h)
abbrev EL(b d:TE):TE:=λσ H Q=>b σ H λx a=>∃c,x=.bl c/\if c=b6 then d σ a Q else Q (.bl cK) a
abbrev EM(a:TE):TE:=λσ H Q=>a σ H λx b=>∃c,x=.bl c/\Q (.bl (!c)) b
def CA(h:PE X a t):PE X (.BoolOp d [a] pos) t:=λb s σ H Q I c=>BoolOp_one (h b s σ H Q I c)
def CB(i:PE X a j)(k:PE X (.BoolOp .And (b::rest) pos) l):PE X (.BoolOp .And (a::b::rest) pos) (EL j l):=by
 intro d s σ H Q I h;show BoolOp_and (Hu (i d s σ H _ I h) λv s1 m=>?_);have⟨x,f,g,n,e⟩:=m;have⟨c,rfl,e⟩:=e;cases n;show JC ?_;cases c with
 |true=>show k d s1 σ f Q g e
 |false=>show⟨.bl cK,f,g,rfl,e⟩
def CC(e:PE X a f):PE X (.UnaryOp .Not a pos) (EM f):=by
 intro b s σ H Q I h;show UnaryOp_ (Hu (e b s σ H _ I h) λv s1 g=>?_);have⟨x,i,j,k,d⟩:=g;have⟨c,rfl,d⟩:=d;cases k;show not_of (JC ⟨.bl (!c),i,j,rfl,d⟩)
abbrev UK(t:TT)(b d:TE):TE:=λσ H Q=>t σ H λc a=>if c=b6 then b σ a Q else d σ a Q
def wa(j:PT X c k)(l:PE X a m)(n:PE X b o):PE X (.IfExp c a b pos) (UK k m o):=by
 intro e s σ H Q I h;show wpAny_IfExp (Hu (j e s σ H _ I h) λd s1 p=>?_);have⟨f,g,i⟩:=p;cases d with
 |true=>show l e s1 σ f Q g i
 |false=>show n e s1 σ f Q g i
end
abbrev HX(K:PySem.W.Frag)(H:Hp)(a:hA)(xs:List V):Prop :=
 Rd H a (.lst xs) \/
  ∃(o:Obj) (b:Array dV) (n:Nat),K.lookup a=bD o/\o.cls=.type "list"/\o.dict=cb/\o.data=.seq b n/\b.size<=df/\Vals xs b.toList
abbrev Ie(K:PySem.W.Frag)(H:Hp)(a:hA)(xs:List V):Prop :=
 Rd H a (.tup xs) \/
  ∃(o:Obj) (b:Array dV) (n:Nat),K.lookup a=bD o/\o.cls=.type "tuple"/\o.data=.seq b n/\b.size<=df/\Vals xs b.toList
abbrev GF:dV->Option V
 |.none=>bD .Hs
 |.bool b=>bD (.bl b)
 |.int i _=>bD (.int i)
 |.str x _=>bD (.str x)
 |.bytes b _=>bD (.Pb b)
 |.float b _=>bD (.Pc b)
 |.ref a=>bD (.ref a)
 |.type n=>bD (.ty n)
 |_=>cb
def RelV.abs(r:RelV x u):GF u=bD x:=by
 cases x with
 |Hs=>cases r;rfl
 |bl _=>cases r;rfl
 |ref _=>cases r;rfl
 |ty _=>cases r;rfl
 |_=>have⟨t,rfl⟩:=r;rfl
def RelV.inj(r:RelV x u)(q:RelV y u):x=y:=sx (r.abs.symm.trans q.abs)
theorem Vals.inj:∀{xs a:List V}{us:List dV},Vals xs us->Vals a us->xs=a
 |_,_,_,.nil,.nil=>rfl
 |_,_,_,.cons r t,.cons b t'=>by rw[r.inj b,Vals.inj t t']
section
def HX.of{K:PySem.W.Frag}(h:H a=bD (.lst xs)):HX K H a xs:=.inl (.inl h)
def Ie.of{K:PySem.W.Frag}(h:H a=bD (.tup xs)):Ie K H a xs:=.inl (.inl h)
def Inv.list(I:Inv X c σ H s)(h:HX X.K H a xs):∃b:List dV,Vals xs b/\PlainL s.heap a b.toArray/\xs.length<=df:=by
 rcases h with h|⟨o,b,n,hk,d,f,hs,hz,r⟩
 .have⟨z,b,n,r,e⟩:=h.ok I.Hr;show⟨b,r,⟨_,n,e,rfl,rfl,rfl⟩,z⟩
 .show⟨b.toList,r,⟨o,n,I.L3 a o hk,d,f,by simpa using hs⟩,?_⟩;have e:=r.length;simp only[hY]at e;lia
def Inv.tuple(I:Inv X c σ H s)(h:Ie X.K H a xs):∃b:List dV,Vals xs b/\Z4 s.heap a b.toArray/\xs.length<=df:=by
 rcases h with h|⟨o,b,n,hk,d,hs,hz,r⟩
 .have⟨z,b,r,p⟩:=h.ok I.Hr;show⟨b,r,p,z⟩
 .show⟨b.toList,r,⟨o,I.L3 a o hk,d,n,by simpa using hs⟩,?_⟩;have e:=r.length;simp only[hY]at e;lia
def Inv.pe(I:Inv X b σ H s)(h:HX X.K H a xs)(h':HX X.K H a f):xs=f:=by
 obtain⟨g,r,⟨o,n,e,_,_,d⟩,_⟩:=I.list h;obtain⟨its',i,⟨o',k,c,_,_,d'⟩,_⟩:=I.list h';rw[e]at c;cases c;rw[d]at d';injection d' with j _
 have:g=its':=by simpa using Z_ W4 j
 subst this;show r.inj i
def Inv.l8(I:Inv X b σ H s)(h:Ie X.K H a xs)(h':Ie X.K H a f):xs=f:=by
 obtain⟨g,r,⟨o,e,_,n,d⟩,_⟩:=I.tuple h;obtain⟨its',i,⟨o',c,_,k,d'⟩,_⟩:=I.tuple h';rw[e]at c;cases c;rw[d]at d';injection d' with j _
 have:g=its':=by simpa using Z_ W4 j
 subst this;show r.inj i
end
@[reducible]def Cx.lN(X:Cx)(E:dV->gs->Prop):Cx:={X with xe:=E}
@[reducible]def Cx.Nn(X:Cx):Cx:=X.lN λ_ _=>False
def Cx.Ok.lN{X:Cx}(a:X.Ok)(E:dV->gs->Prop):(X.lN E).Ok :=
 ⟨a.mod,a.kind,a.glob,a.blt,a.above,a.inj,a.has,a.NY,a.hd,a.frames,a.Pe,a.SY,a.bs,a.L0,a.KQ,a.LD,a.j7,a.Nl⟩
def Cx.Ok.iW{X:Cx}(a:(X.lN E).Ok):X.Ok :=
 ⟨a.mod,a.kind,a.glob,a.blt,a.above,a.inj,a.has,a.NY,a.hd,a.frames,a.Pe,a.SY,a.bs,a.L0,a.KQ,a.LD,a.j7,a.Nl⟩
section
def Inv.lN(I:Inv X a σ H s)(E:dV->gs->Prop):Inv (X.lN E) a σ H s:=⟨I.ok.lN E,I.os,I.bare,I.base,I.loc,I.cell,I.free,I.Ic,I.pin,I.Hr,I.len⟩
def Inv.iW(I:Inv (X.lN E) a σ H s):Inv X a σ H s:=⟨I.ok.iW,I.os,I.bare,I.base,I.loc,I.cell,I.free,I.Ic,I.pin,I.Hr,I.len⟩
def SP.iW(h:SP (X.lN E) a D f s'):SP X a D f s':=by
 cases f with
 |ret u=>have⟨v,b,H',I,r,q⟩:=h;show⟨v,b,H',I.iW,r,q⟩
 |_=>have⟨b,H',I,q⟩:=h;show⟨b,H',I.iW,q⟩
def IJ.Nn{st:List ME}(h:IJ X.Nn st t):IJ X st t:=λa s σ H D I b =>
 tA (h a s σ H D (I.lN _) b) (λ_ _ q=>q.iW) λ_ _ z=>MF z
end
section
variable{X:Cx}{st:ME}{rest:List ME}{t u:TS}{e:mh}{te:TE}{pos:Pos}
abbrev EN:TS:=λD σ H=>D.nx σ H
abbrev GG(t u:TS):TS:=λD σ H=>t {D with nx:=u D} σ H
def zw:IJ X [] EN:=λ_ _ σ H _ I h=>W0 ⟨σ,H,I,h⟩
def wb(b:PS X st t)(c:IJ X rest u):IJ X (st::rest) (GG t u):=by
 intro a s σ H D I h;show wpAny_execs_cons (Hu (b a s σ H {D with nx:=u D} I h) λf s1 q=>?_);cases f with
 |next =>
  have⟨d,H',g,q⟩:=q;show c a s1 d H' D g q
 |_=>show q
def Inv.quiet(I:Inv X a σ H s):interactive X.env=cK:=by simp[interactive,I.ok.kind]
abbrev EO(te:TE):TS:=λD σ H=>te σ H λ_ a=>D.nx σ a
def ig(b:PE X e te)(hs:PZ e cb pos.line X.env=pure cK:=by rfl):PS X (.Expr e pos) (EO te):=by
 intro a s σ H D I h;show wpAny_Expr_any (Hu (b a s σ H _ I h) λv s1 ⟨x,c,d,g,f⟩=>⟨σ,c,d,f⟩) I.quiet hs
abbrev GH(te:TE):TS:=λD σ H=>te σ H D.rt
def wc(b:PE X e te):PS X (.Return (bD e) pos) (GH te):=by
 intro a s σ H D I h;show wpAny_Return_some (Hu (b a s σ H _ I h) λv s1 ⟨x,c,d,f,g⟩=>⟨x,σ,c,d,f,g⟩)
abbrev ER:TS:=λD _ H=>D.rt .Hs H
def zx:PS X (.Return cb pos) ER:=λ_ _ σ H _ I h=>wpAny_Return_none ⟨.Hs,σ,H,I,rfl,h⟩
abbrev GI(c:TT)(t u:TS):TS:=λD σ H=>c σ H λb a=>if b=b6 then t D σ a else u D σ a
def ES(k:PT X c l)(m:IJ X a t)(n:IJ X b u):PS X (.If c a b pos) (GI l t u):=by
 intro f s σ H D I h;show wpAny_If (Hu (k f s σ H _ I h) λd s1 o=>?_);have⟨g,i,j⟩:=o;cases d with
 |true=>show m f s1 σ g D i j
 |false=>show n f s1 σ g D i j
end
@[reducible]def TG:=V->St->Hp->(St->Hp->Prop)->Prop
@[reducible]def Np:=List V->St->Hp->(St->Hp->Prop)->Prop
abbrev PG(X:Cx)(a:mh)(t:TG):Prop :=
 ∀(b:List (hA×Obj)) (s:gs) (σ:St) (H:Hp) (v:V) (u:dV) (Q:St->Hp->Prop),Inv X b σ H s->RelV v u->t v σ H Q ->
  et (hH X.prog X.w) X.A (QX a X.env u) (λ_ s'=>∃c H',Inv X b c H' s'/\Q c H') X.xe s
abbrev N2(X:Cx)(ts:List mh)(t:Np):Prop :=
 ∀(a:List (hA×Obj)) (s:gs) (σ:St) (H:Hp) (vs:List V) (us:List dV) (Q:St->Hp->Prop),Inv X a σ H s->Vals vs us->t vs σ H Q ->
  et (hH X.prog X.w) X.A (assignInOrder ((Ox ts X.env).map (·.2)) us) (λ_ s'=>∃b H',Inv X a b H' s'/\Q b H') X.xe s
@[reducible]def CD:=V->V->V->Hp->(Hp->Prop)->Prop
abbrev nF(X:Cx)(t:CD):Prop :=
 ∀(a:List (hA×Obj)) (s:gs) (σ:St) (H:Hp) (o i v:V) (b c u:dV) (Q:Hp->Prop),Inv X a σ H s->RelV o b->RelV i c->RelV v u->t o i v H Q ->
  et (hH X.prog X.w) X.A (Sd b c u) (λ_ s'=>∃H',Inv X a σ H' s'/\Q H') X.xe s
@[reducible]def Qp:=V->V->Hp->VK->Prop
abbrev Pj(X:Cx)(b:YH)(t:Qp):Prop :=
 ∀(a:List (hA×Obj)) (s:gs) (σ:St) (H:Hp) (x y:V) (v u:dV) (Q:VK),Inv X a σ H s->RelV x v->RelV y u->t x y H Q ->
  et (hH X.prog X.w) X.A (inplaceOp b v u) (EP X a σ Q) X.xe s
section
abbrev sO(i:Nat):TG:=λv σ H Q=>Q (σ.set i (bD v)) H
def sQ(b:X.N.Nodup)(c:X.N[i]?=bD x)(d:Loc X.env.scope x)(e:X.fn x=b6\/X.env.scope.names.lookup x=bD .local:=by first|show .inl rfl|show .inr rfl|assumption):PG X (.Name x pos) (sO i):=by
 intro a s σ H v u Q I r h;show Ze (pd I b c d r (λs' f=>⟨_,H,f,h⟩) e)
abbrev ET:Np:=λvs σ H Q=>vs=[]/\Q σ H
abbrev BN(t:TG)(u:Np):Np:=λvs σ H Q=>∃v r,vs=v::r/\t v σ H λa H'=>u r a H' Q
def zy:N2 X [] ET:=by
 intro a s σ H vs us Q I r h;have⟨e,h⟩:=h;subst e;cases r;show assignInOrder_nil ⟨σ,H,I,h⟩
def we(b:PG X e t)(c:N2 X es u)
  (hs:(Ox (e::es) X.env).map (·.2)=QX e X.env::(Ox es X.env).map (·.2):=by rfl):N2 X (e::es) (BN t u):=by
 intro a s σ H vs us Q I r h;have⟨v,m,d,h⟩:=h;subst d;cases r with
 |cons r f =>
  rw[hs];show assignInOrder_cons (Hu (b a s σ H _ _ _ I r h) λ_ s1 g=>?_);have⟨i,j,k,l⟩:=g;show c a s1 i j _ _ Q k f l
abbrev GJ(K:PySem.W.Frag)(n:Nat)(t:Np):TG:=λv σ H Q=>∃a xs,v=.ref a/\Ie K H a xs/\xs.length=n/\t xs σ H Q
def CF(f:X.calm=b6)(h:N2 X es t)
  (g:(Ox es X.env).length=n:=by rfl) (i:(Ox es X.env).findIdx? (·.1)=cb:=by rfl):PG X (.Tuple es k pos) (GJ X.K n t):=by
 intro c s σ H v u Q I r d;have⟨a,xs,j,l,hl,d⟩:=d;subst j;cases r;have⟨w,rv,m,hz⟩:=I.tuple l;show assign_Tuple_tuple (I.ok.hd f) m (by simp[g,<-hl,rv.length]) i λh' p=>?_;have q:Inv X c σ H {s with heap:=h' }:=I.kept (t':=s.toks) λb o e=>p b o (hZ (gc e)) e;show h c _ σ H xs _ Q q (by simpa using rv) d
abbrev GK(a b:TE)(t:CD):TG:=λv σ H Q=>a σ H λo c=>b σ c λi d=>t o i v d λe=>Q σ e
def wg(ho:PE X o d)(e:PE X i f)(hs:nF X t)
  (g:∀v,QX (.Subscript o i pos) X.env v=(do
   let b <-LY [v] (wk o X.env)
   let c <-LY [v,b] (wk i X.env)
   W6 pos
   LY [v,b,c] (Sd b c v)
   U3 [v,b,c] []):=by intro _;rfl):PG X (.Subscript o i pos) (GK d f t):=by
 intro a s σ H v u Q I r h;rw[g];show b5 (t4 (Hu (ho a s σ H _ I h) λb s1 j=>?_));have⟨x,k,l,m,n⟩:=j;show b5 (t4 (Hu (e a s1 σ k _ l n) λc s2 p=>?_));have⟨y,q,w,z,A⟩:=p;show b5 (XG (b5 (t4 (Hu (hs a s2 σ q x y v b c u _ w m z r A) λ_ s3 B=>?_))));have⟨C,D,G⟩:=B;show wpAny_release ⟨σ,C,D,G⟩
abbrev CG(a:TE)(g:TG):TS:=λD σ H=>a σ H λx b=>g x σ b D.nx
def qP(c:PE X e d)(f:PG X b g)(hs:Qe [b] e pos.line X.env=pure cK:=by rfl)(i:Ue [b] e X.env=pure cb:=by rfl)
  (j:(Ox [b] X.env).map (·.2)=[QX b X.env]:=by rfl):PS X (.Assign [b] e pos) (CG d g):=by
 intro a s σ H D I h;show wpAny_Assign_stores (Hu (c a s σ H _ I h) λv s1 ⟨x,k,l,m,n⟩=>?_) hs i;rw[j];show Hu (f a s1 σ k x v _ l m n) λ_ s2 q=>q
def wj(c:X.N.Nodup)(d:X.N[i]?=bD x)(f:Loc X.env.scope x)(g:PE X e j)(hs:PZ e (bD (.Name x a)) pos.line X.env=pure cK:=by rfl)(k:X.fn x=b6\/X.env.scope.names.lookup x=bD .local:=by first|show .inl rfl|show .inr rfl|assumption):
  PS X (.Assign [.Name x a] e pos) (CG j (sO i)):=by
 intro b s σ H D I h;show wpAny_Assign_Name (Hu (g b s σ H _ I h) λv s1 ⟨y,l,m,n,o⟩=>?_) hs;show pd m c d f n (λs2 p=>⟨_,l,p,o⟩) k
abbrev EU(a b c:TE)(d:V->V->Hp->VK->Prop)(e:Qp)(f:CD):TS:=λD σ H=>a σ H λo g=>b σ g λi h=>d o i h λx j=>c σ j λy k=>e x y k λz l=>f o i z l λm=>D.nx σ m
abbrev EV(X:Cx)(t:V->V->Hp->VK->Prop):Prop :=
 ∀(a:List (hA×Obj)) (s:gs) (σ:St) (H:Hp) (o i:V) (b c:dV) (Q:VK),Inv X a σ H s->RelV o b->RelV i c->t o i H Q ->
  et (hH X.prog X.w) X.A (Vk b c) (EP X a σ Q) X.xe s
def zA(ho:PE X o l)(m:PE X i n)(p:EV X q)(r:PE X e t)(u:Pj X w x)(hs:nF X y)
  (z:∀b c new,ZV i b c new=(do LY [new,b,c] (Sd b c new);U3 [new,b,c] [];pure .next):=by intros;rfl):PS X (.AugAssign (.Subscript o i UQ) w e pos) (EU l n t q x y):=by
 intro a s σ H D I h;show wpAny_AugAssign_SubscriptAny (Hu (ho a s σ H _ I h) λb s1 ⟨f,A,B,g,C⟩=>?_) z;show Hu (m a s1 σ A _ B C) λc s2 G=>?_;have⟨j,J,L,k,N⟩:=G;show Hu (p a s2 σ J f j b c _ L g k N) λd s3 O=>?_;have⟨Q,T,Y,r3,q3⟩:=O;show Hu (r a s3 σ T _ Y q3) λv s4 Qu=>?_;have⟨x4,H4,I4,r4,q4⟩:=Qu;show Hu (u a s4 σ H4 Q x4 d v _ I4 r3 r4 q4) λnew s5 Qv=>?_;have⟨x5,H5,I5,r5,q5⟩:=Qv;show Hu (hs a s5 σ H5 f j x5 b c new _ I5 g k r5 q5) λ_ s6 ⟨H6,I6,q6⟩=>⟨σ,H6,I6,q6⟩
abbrev Qw(f:Int->Int->Int):Qp:=λx y H Q=>∃i j,x=.int i/\y=.int j/\Q (.int (f i j)) H
def CH:Pj X .Add (Qw λi j=>i+j):=by
 intro a s σ H x y v u Q I b c h;have⟨i,j,d,e,q⟩:=h;subst d;subst e;have⟨t,rfl⟩:=b;have⟨t',rfl⟩:=c;show iadd_int ⟨.int _,H,I.tok _,⟨_,rfl⟩,q⟩
def CI:Pj X .Sub (Qw λi j=>i - j):=by
 intro a s σ H x y v u Q I b c h;have⟨i,j,d,e,q⟩:=h;subst d;subst e;have⟨t,rfl⟩:=b;have⟨t',rfl⟩:=c;show isub_int ⟨.int _,H,I.tok _,⟨_,rfl⟩,q⟩
end
section
abbrev CJ(c:TT)(f:TS):TS:=λD σ H=>∃W:Nat->St->Hp->Prop,(∃m,W m σ H)/\∀m σ H,W m σ H ->
 c σ H λb a=>if b=b6 then ∃N:St->Hp->Prop,(∀d H',N d H'->∃e,e<m/\W e d H')/\f {D with nx:=N,ct:=N,bk:=D.nx} σ a else D.nx σ a
def wm(r:V_ (hH X.prog X.w) X.A X.env X.xe)(z:PT X c B)(C:IJ X body G):PS X (.While c body [] pos) (CJ B G):=by
 intro a s σ H D I h;obtain⟨W,⟨m0,J⟩,d⟩:=h;show wpAny_While (codeAny_whileLoop (λn s'=>∃t H',Inv X a t H' s'/\W n t H') ?_ m0 ⟨σ,H,I,J⟩);rintro n s1 ⟨i,u,L,O⟩;show MC r (Hu (z a s1 i u _ L (d n i u O)) λb s2 Q=>?_);have⟨v,x,j⟩:=Q;cases b with
 |true =>
  have⟨N,y,j⟩:=j;rw[Z6 rfl];show MC r (Hu (C a s2 i v _ x j) λf s3 k=>?_);cases f with
  |next =>
   have⟨e,g,l,m⟩:=k;have⟨o,p,q⟩:=y e g m;show⟨o,p,e,g,l,q⟩
  |cont =>
   have⟨e,g,l,m⟩:=k;have⟨o,p,q⟩:=y e g m;show⟨o,p,e,g,l,q⟩
  |_=>show k
 |false =>
  rw[Z7 i6];show W0 ⟨i,v,x,j⟩
end
structure It where
 go:Nat->Hp->Prop
 Pk:Nat->Hp->V->Hp->Prop
 stop:Nat->Hp->Prop
abbrev ij(X:Cx)(a:List (hA×Obj))(H:Hp)(b:hA):Prop :=
 H b=cb/\b≠X.env.locals/\b∉X.fs/\(b∈X.ex\/X.s₀.heap.objs.size<=b)/\(∀x c,X.env.cells.lookup x=bD c->c≠b)/\∀p∈X.pn++a,p.1≠b
def Inv.wo(I:Inv X a σ H s)(d:s.heap.objs.size<=b)(f:H' b=cb):ij X a H' b:=by
 show⟨f,Iq (i9 I.lt d),I.Cv d,.inr (u6 I.sz d),λx c e z=>?_,λp g z=>?_⟩
 .have⟨v,q⟩:=I.cell x c e;show absurd (i9 q.lt (by rw[z];show d)) (u3 _)
 .show absurd (i9 (gc (I.pin p g).1) (by rw[z];show d)) (u3 _)
structure Turn(P:D9)(w:HL)(K:PySem.W.Frag)(tg:mh)(J:It)(fp:List hA)(it:hA)(tn:Nat->IZ->Prop):Prop where
 mem:it∈fp
 obj:∀i h,tn i h->∀b∈fp,∃o,h.get? b=bD o/\∀v,o.data≠.cell v
 keep:∀i h h',tn i h->(∀b∈fp,∀o,h.get? b=bD o->h'.get? b=bD o)->tn i h'
 item:∀(X:Cx),X.prog=P->X.w=w->X.K=K->X.calm=b6->∀(i:Nat) (pins:List (hA×Obj)) (s:gs) (σ:St) (H:Hp) (E:dV->gs->Prop),Inv X pins σ H s->(∀b∈fp,ij X pins H b)->tn i s.heap->J.go i H ->
  et (hH P w) X.A (Sg (.ref it)) (λr s1=>∃u,r=bD u /\
   et (hH P w) X.A (S0 tg (.ref it) u) (λ_ s2=>∃x H',Inv X pins σ H' s2/\RelV x u/\J.Pk i H x H'/\tn (i+1) s2.heap/\∀b∈fp,H' b=cb) E s1) E s
 done:∀(X:Cx),X.prog=P->X.w=w->X.K=K->X.calm=b6->∀(i:Nat) (pins:List (hA×Obj)) (s:gs) (σ:St) (H:Hp) (E:dV->gs->Prop),Inv X pins σ H s->(∀b∈fp,ij X pins H b)->tn i s.heap->J.stop i H ->
  et (hH P w) X.A (Sg (.ref it)) (λr s1=>r=cb/\Inv X pins σ H s1) E s
 self:∀(A:MN) (i:Nat) (s:gs) (Q:dV->gs->Prop) (E:dV->gs->Prop),tn i s.heap->Q (.ref it) s->et (hH P w) A (Xl (.ref it)) Q E s
@[reducible]def TI:=St->Hp->(It->Hp->Prop)->Prop
abbrev S7(X:Cx)(a:List (hA×Obj))(σ:St)(e:mh)(R:It->Hp->Prop)(f:dV)(s2:gs):Prop :=
 ∃(it:hA) (c:List hA) (d:Nat->IZ->Prop) (J:It) (H':Hp),f=.ref it/\Inv X a σ H' s2/\Turn X.prog X.w X.K e J c it d/\d 0 s2.heap/\(∀b∈c,ij X a H' b)/\R J H'
abbrev PI(X:Cx)(c b:mh)(d:TI):Prop :=
 ∀(a:List (hA×Obj)) (s:gs) (σ:St) (H:Hp) (R:It->Hp->Prop),Inv X a σ H s->d σ H R ->
  et (hH X.prog X.w) X.A (wk b X.env) (λv s1=>et (hH X.prog X.w) X.A (Xl v) (S7 X a σ c R) X.xe s1) X.xe s
def wq(ho:s.heap.get? it=bD o)(b:o.cls=.type n)(c:o.data=.fields vs)
    (d:["enumerate","zip","dict_itemiterator","dict_reverseitemiterator","odict_iterator","itertools.zip_longest","itertools.pairwise"].contains n=cK) (a:Q () s):et M A (S0 e (.ref it) u) Q E s:=by
  unfold S0;cases e<;>first
    | show dt a
    | (cases u<;>first
        | show dt a
        | (show b5 (YY ho ?_)
           rw[b,c];change et M A (if (["enumerate","zip","dict_itemiterator","dict_reverseitemiterator","odict_iterator","itertools.zip_longest","itertools.pairwise"].contains n&&vs[0]?==bD (ve _))=b6 then _ else _) Q E s;rw[Z7 (by intro h;rw[d,YX]at h;cases h)];show dt a))
abbrev Qy(K:PySem.W.Frag)(a:hA):It :=
 ⟨λi H=>∃xs x,HX K H a xs/\xs[i]?=bD x,λi H x H'=>H'=H/\∀xs,HX K H a xs->xs[i]?=bD x,λi H=>∃xs,HX K H a xs/\xs.length<=i⟩
abbrev Qz(K:PySem.W.Frag)(a:hA):It :=
 ⟨λi H=>∃xs x,Ie K H a xs/\xs[i]?=bD x,λi H x H'=>H'=H/\∀xs,Ie K H a xs->xs[i]?=bD x,λi H=>∃xs,Ie K H a xs/\xs.length<=i⟩
abbrev Pn(lo:Int)(n:Nat):It:=⟨λi _=>i<n,λi H x H'=>H'=H/\x=.int (lo+i),λi _=>n<=i⟩
def uL{K:PySem.W.Frag}(a it:hA):Turn P w K tg (Qy K a) [it] it (λi h=>h.IsListIter it a i) where
 mem:=by simp
 obj:=λi h st b g=>by
  have e:b=it:=by simpa using g
  subst e;have⟨o,e,c,d⟩:=st;show⟨o,e,λv z=>by rw[d]at z;cases z⟩
 keep:=λi h h' st k=>st.at λo e=>k it (by simp) o e
 item:=by
  intro X m n q G i f s σ H E I j st r;subst m n q;have⟨xs,x,l,t⟩:=r;have⟨J,rv,p,hz⟩:=I.list l;have⟨u,L,N⟩:=rv.get t;have⟨y,A,O,B,C,D⟩:=j it (by simp);show wpAny_pyNext_list_item st p.isList (x:=u) (by simpa using L) λh' st' Q=>?_;have T:Inv X f σ H {s with heap:=h' }:=I.turned (t':=s.toks) (λb o g e=>(Q.2 b g).trans e) y A B C D;have⟨o,e,c,d⟩:=id st';show⟨u,rfl,wq (s:={s with heap:=h' }) e c d (by decide) ⟨x,H,T,N,⟨rfl,λys Y=>by rw[I.pe Y l];show t⟩,st',λb g=>(j b g).1⟩⟩
 done:=by
  intro X m n q G i f s σ H E I j st r;subst m n q;have⟨xs,l,t⟩:=r;have⟨J,rv,p,hz⟩:=I.list l;have⟨y,A,O,B,C,D⟩:=j it (by simp);have hl:=rv.length;show wpAny_pyNext_list_end (I.ok.hd G) st p.isList (by simp;lia) λh' eb=>⟨rfl,I.turned (t':=s.toks) (λb o g e=>eb b o g e) y A B C D⟩
 self:=λ_ _ _ _ _ st h=>wpAny_pyIter_listiter st h
def qQ{K:PySem.W.Frag}(a it:hA):Turn P w K tg (Qz K a) [it] it (λi h=>h.IsTupleIter it a i) where
 mem:=by simp
 obj:=λi h st b g=>by
  have e:b=it:=by simpa using g
  subst e;have⟨o,e,c,d⟩:=st;show⟨o,e,λv z=>by rw[d]at z;cases z⟩
 keep:=λi h h' st k=>st.at λo e=>k it (by simp) o e
 item:=by
  intro X m n q J i f s σ H E I j st r;subst m n q;have⟨xs,x,l,t⟩:=r;have⟨y,rv,p,hz⟩:=I.tuple l;have⟨u,L,N⟩:=rv.get t;have⟨A,B,O,C,D,G⟩:=j it (by simp);show wpAny_pyNext_tuple_item st (show s.heap.IsTuple a y.toArray from p) (x:=u) (by simpa using L) λh' st' Q=>?_;have T:Inv X f σ H {s with heap:=h' }:=I.turned (t':=s.toks) (λb o g e=>(Q.2 b g).trans e) A B C D G;have⟨o,e,c,d⟩:=id st';show⟨u,rfl,wq (s:={s with heap:=h' }) e c d (by decide) ⟨x,H,T,N,⟨rfl,λys Y=>by rw[I.l8 Y l];show t⟩,st',λb g=>(j b g).1⟩⟩
 done:=by
  intro X m n q J i f s σ H E I j st r;subst m n q;have⟨xs,l,t⟩:=r;have⟨y,rv,p,hz⟩:=I.tuple l;have⟨A,B,O,C,D,G⟩:=j it (by simp);have hl:=rv.length;show wpAny_pyNext_tuple_end (I.ok.hd J) st (show s.heap.IsTuple a y.toArray from p) (by simp;lia) λh' eb=>⟨rfl,I.turned (t':=s.toks) (λb o g e=>eb b o g e) A B C D G⟩
 self:=λ_ _ _ _ _ st h=>wpAny_pyIter_tupleiter st h
def qR{K:PySem.W.Frag}(it:hA)(lo:Int)(n:Nat):Turn P w K L (Pn lo n) [it] it (λi h=>IsRangeIter h it (lo+(i:Nat) * 1) ((n:Int) - (i:Nat)) 1) where
 mem:=by simp
 obj:=λi h st b c=>by
  have e:b=it:=by simpa using c
  subst e;show⟨_,st,λv z=>by
   have A:R3 _=W3 v:=z;cases A⟩
 keep:=λi h h' st k=>k it (by simp) _ st
 item:=by
  intro X f g j l i a s σ H E I d st m;subst f g j;have⟨p,q,B,r,u,x⟩:=d it (by simp);have W:=Walks.range (prog:=X.prog) (w:=X.w) (I.ok.hd l) it lo 1 n;show W.item i s _ _ m st λv h' y C st' D=>?_;have⟨t,rfl⟩:=C;have G:Inv X a σ H {s with heap:=h',toks:=y}:=I.turned (λb o c e=>D b o (by simpa using c) e) p q r u x;show⟨_,rfl,wq (s:={s with heap:=h',toks:=y}) (n:="range_iterator") st' rfl rfl (by decide) ⟨.int (lo+i),H,G,⟨t,?_⟩,⟨rfl,rfl⟩,st',λb c=>(d b c).1⟩⟩;rw[Int.mul_one]
 done:=by
  intro X f g j l i a s σ H E I d st m;subst f g j;have⟨p,q,B,r,u,x⟩:=d it (by simp);show wpAny_pyNext_range_end (I.ok.hd l) st (by have:n<=i:=m;lia) λh' J=>⟨rfl,I.turned (t':=s.toks) (λb o c e=>J b o c e) p q r u x⟩
 self:=λ_ _ _ _ _ st h=>wpAny_pyIter_rangeiter st h
section
abbrev EW(K:PySem.W.Frag)(c:TE):TI:=λσ H R=>c σ H λx b=>∃a,x=.ref a/\(∃xs,HX K b a xs)/\R (Qy K a) b
abbrev GL(K:PySem.W.Frag)(c:TE):TI:=λσ H R=>c σ H λx b=>∃a,x=.ref a/\(∃xs,Ie K b a xs)/\R (Qz K a) b
def zB(hl:PE X l f):PI X r l (EW X.K f):=by
 intro c s σ H R I h;show Hu (hl c s σ H _ I h) λv s1 g=>?_;have⟨x,i,d,j,k⟩:=g;obtain⟨a,e,⟨xs,m⟩,q⟩:=k;subst e;cases j;have⟨t,rv,p,hz⟩:=d.list m;show Ro p.isList ?_;show⟨s1.heap.objs.size,[s1.heap.objs.size],_,_,i,rfl,d.kept (t':=s1.toks) λb o e=>c4 _ e,uL a _,⟨_,fx _ rfl,rfl,rfl⟩,λb n=>?_,q⟩;have e:b=s1.heap.objs.size:=by simpa using n
 subst e;show d.wo (ix _) (d.Hr.fresh (ix _))
def CK(hl:PE X l f):PI X t l (GL X.K f):=by
 intro c s σ H R I h;show Hu (hl c s σ H _ I h) λv s1 g=>?_;have⟨x,i,d,j,k⟩:=g;obtain⟨a,e,⟨xs,m⟩,q⟩:=k;subst e;cases j;have⟨n,rv,p,hz⟩:=d.tuple m;show Ot (show s1.heap.IsTuple a n.toArray from p) ?_;show⟨s1.heap.objs.size,[s1.heap.objs.size],_,_,i,rfl,d.kept (t':=s1.toks) λb o e=>c4 _ e,qQ a _,⟨_,fx _ rfl,rfl,rfl⟩,λb r=>?_,q⟩;have e:b=s1.heap.objs.size:=by simpa using r
 subst e;show d.wo (ix _) (d.Hr.fresh (ix _))
def wt{lo a:Int}(I:Inv X c σ H s)(g:-(2 ^ 62)<=lo)(h:lo<2 ^ 62)(i:-(2 ^ 62)<=a)(j:a<2 ^ 62)
  (q:R (Pn lo (a - lo).toNat) H):et (hH X.prog X.w) X.A (Xl (.ref s.heap.objs.size)) (S7 X c σ n R) E {s with heap:=s.heap.push {cls:=.type "range",data:=.fields #[.int lo t,.int a u,.int 1 v]},toks:=f}:=by
 show wpAny_pyIter_range (IsRange.new ..) (small_one g h i j) ?_;have d:Inv X c σ H {s with heap:=s.heap.push {cls:=.type "range",data:=.fields #[.int lo t,.int a u,.int 1 v]},toks:=f}:=I.kept λb o e=>c4 _ e;show⟨(s.heap.push {cls:=.type "range",data:=.fields #[.int lo t,.int a u,.int 1 v]}).objs.size,[(s.heap.push {cls:=.type "range",data:=.fields #[.int lo t,.int a u,.int 1 v]}).objs.size],_,_,H,rfl,
  d.kept (t':=f) λb o e=>c4 _ e,qR _ lo (a - lo).toNat,?_,λb k=>?_,q⟩
 .have l:lo+((0:Nat):Int) * 1=lo:=by simp
  have m:(((a - lo).toNat:Nat):Int) - ((0:Nat):Int)=ZD lo a 1:=by rw[rangeSize_one];split<;>lia
  change IsRangeIter _ _ (lo+((0:Nat):Int) * 1) ((((a - lo).toNat:Nat):Int) - ((0:Nat):Int)) 1;rw[l,m];show fx _ rfl
 .have e:b=(s.heap.push {cls:=.type "range",data:=.fields #[.int lo t,.int a u,.int 1 v]}).objs.size:=by simpa using k
  subst e;show d.wo (ix _) (d.Hr.fresh (ix _))
abbrev EX(a:TA):TI:=λσ H R=>a σ H λvs b=>∃j:Int,vs=[.int j]/\-(2 ^ 62)<=j/\j<2 ^ 62/\R (Pn 0 j.toNat) b
def uM(d:Gl X "range")(f:X.mg "range"=cb)(g:PA X [a] i)(hs:i2 [a] X.env=[(cK,wk a X.env)]:=by rfl):PI X o (.Call (.Name "range" p) [a] [] pos) (EX i):=by
 intro b s σ H R I h;show Call_ (dB I d f boot_range (LA (Hu (g pos b s σ H _ I h) λus s1 ⟨vs,u,k,l,c⟩=>?_) hs rfl));have⟨j,e,c,m,q⟩:=c;subst e;cases l with
 |cons r n =>
  cases n;have⟨t,rfl⟩:=r;show call_range_1 (wt k ⋯ ⋯ c m (by simpa using q))
abbrev GN(c:TI)(g:TG)(d:TS):TS:=λD σ H=>c σ H λJ e=>∃W:Nat->Nat->St->Hp->Prop,(∃m,W 0 m σ e)/\∀i m σ H,W i m σ H ->
 (J.stop i H/\D.nx σ H)\/(J.go i H/\∃N:St->Hp->Prop,(∀a H',N a H'->∃b,b<m/\W (i+1) b a H')/\∀x H',J.Pk i H x H'->g x σ H' λf h=>d {D with nx:=N,ct:=N,bk:=D.nx} f h)
abbrev j_(a:List hA)(h:IZ):List (hA×Obj):=a.filterMap λb=>(h.get? b).map λo=>(b,o)
def fc(a:b∈c)(e:h.get? b=bD o):(b,o)∈j_ c h:=X'.mpr ⟨b,a,by rw[e];rfl⟩
def uN(a:p∈j_ c h):p.1∈c/\h.get? p.1=bD p.2:=by
 have⟨b,d,e⟩:=X'.mp a;cases q:h.get? b with
 |none=>rw[q]at e;cases e
 |some o =>
  rw[q]at e;have f:(b,o)=p:=sx e;subst f;show⟨d,q⟩
def Inv.pinned(I:Inv X a σ H s)(h:∀b∈c,ij X a H b)(ho:∀b∈c,∃o,s.heap.get? b=bD o/\∀v,o.data≠.cell v):Inv X (a++j_ c s.heap) σ H s :=
 I.eB λp i=>(i3.mp i).elim (λz=>I.pin p (l' _ z)) λz=>by
  have⟨f,e⟩:=uN z;obtain⟨j,k,l,_⟩:=h p.1 f;have⟨o,g,d⟩:=ho p.1 f;rw[e]at g;cases g;show⟨e,j,k,l,d⟩
def Inv.kb(I:Inv X (a++c) σ H s):Inv X a σ H s:=I.eB λp b=>I.pin p (l' _ (MG _ b))
def CL(t:V_ (hH X.prog X.w) X.A X.env X.xe)(hc:X.calm=b6)(hi:PI X tg p wi)(hg:PG X tg g)(c:IJ X body tb)
  (hs:∀x,Lo p X.env x=pure x:=by intro _;rfl):PS X (.For tg p body [] pos) (GN wi g tb):=by
 intro a s σ H D I h;show wpAny_For (Hu (hi a s σ H _ I h) λv s1 h1=>Hu h1 λPl s2 h2=>?_) hs;obtain⟨it,y,tn,J,H2,e,I2,T,st2,f2,W,⟨m0,w0⟩,z⟩:=h2;subst e;have O:∀{H':Hp},(∀b∈y,H' b=cb)->∀b∈y,ij X a H' b:=λhn b c=>⟨hn b c,(f2 b c).2⟩
 show codeAny_forLoop_any (λn s'=>∃i B H',Inv X a B H' s'/\tn i s'.heap/\(∀b∈y,H' b=cb)/\W i n B H') ?_ m0 ⟨0,σ,H2,I2,st2,λb c=>(f2 b c).1,w0⟩;rintro n s3 ⟨i,C,L,I3,H9,N3,w3⟩;rcases z i n C L w3 with⟨G,qn⟩|⟨go,N,hN,YD⟩
 .show MC t (Hu (T.done X rfl rfl rfl hc i a s3 C L X.xe I3 (O N3) H9 G) λr s4 QC=>?_);have⟨Q,I4⟩:=QC;subst Q;show W0 ⟨C,L,I4,qn⟩
 .show MC t (Hu (T.item X rfl rfl rfl hc i a s3 C L X.xe I3 (O N3) H9 go) λr s4 QD=>?_);have⟨u,Q,h4⟩:=QD;subst Q;show MC t (Hu h4 λ_ s5 QE=>?_);have⟨x,H5,I5,r5,y5,Y,QF⟩:=QE;have QG:=I5.pinned (O QF) (T.obj _ _ Y);show MC t (Hu (hg _ s5 C H5 x u _ QG r5 (YD x H5 y5)) λ_ s6 QH=>?_);have⟨σ6,H6,I6,q6⟩:=QH;show MC t (Hu (c _ s6 σ6 H6 _ I6 q6) λf s7 q=>?_);have ZW:∀{j:St} {k:Hp},Inv X (a++j_ y s5.heap) j k s7->N j k->∃m,m<n/\∃i B H',Inv X a B H' s7/\tn i s7.heap/\(∀b∈y,H' b=cb)/\W i m B H':=λ{j k} l n7=>by
   have⟨m',hm,w7⟩:=hN j k n7;show⟨m',hm,i+1,j,k,l.kb,T.keep _ _ _ Y λb c o e=>(l.pin (b,o) (l' _ (l' _ (fc c e)))).1,λb c=>?_,w7⟩;have⟨o,e,d⟩:=T.obj _ _ Y b c;show(l.pin (b,o) (l' _ (l' _ (fc c e)))).2.1
  cases f with
  |brk=>have⟨j,k,l,q⟩:=q;show⟨j,k,l.kb,q⟩
  |ret v=>have⟨x7,j,k,l,r7,q⟩:=q;show⟨x7,j,k,l.kb,r7,q⟩
  |_=>have⟨j,k,l,n7⟩:=q;show ZW l n7
end
@[reducible]def R2:=V->V->Hp->VK->Prop
abbrev Jn(X:Cx)(f:dV->dV->Sem dV)(r:R2):Prop :=
 ∀(a:List (hA×Obj)) (s:gs) (σ:St) (H:Hp) (x y:V) (v u:dV) (Q:VK),Inv X a σ H s->RelV x v->RelV y u->r x y H Q ->
  et (hH X.prog X.w) X.A (f v u) (EP X a σ Q) X.xe s
abbrev gy(X:Cx)(f:dV)(r:List V->Hp->VK->Prop):Prop :=
 ∀(a:List (hA×Obj)) (s:gs) (σ:St) (H:Hp) (xs:List V) (us:List dV) (Q:VK),Inv X a σ H s->Vals xs us->r xs H Q ->
  et (hH X.prog X.w) X.A (MK f us) (EP X a σ Q) X.xe s
abbrev GO(X:Cx)(r:V->Hp->(Bool->Hp->Prop)->Prop):Prop :=
 ∀(a:List (hA×Obj)) (s:gs) (σ:St) (H:Hp) (x:V) (v:dV) (Q:Bool->Hp->Prop),Inv X a σ H s->RelV x v->r x H Q ->
  et (hH X.prog X.w) X.A (ZP v) (TP X a σ Q) X.xe s
abbrev rI(C:Int->Int->Prop)(g:Int->Int->V):R2:=λx y H Q=>∃i j,x=.int i/\y=.int j/\C i j/\Q (g i j) H
abbrev MA(g:Int->Int->V):R2:=λx y H Q=>∃i j,x=.int i/\y=.int j/\Q (g i j) H
section
def Po{g:Int->Int->Int}
  (Zy:∀(i j:Int) (t u:Tok) (s:gs) (Q:dV->gs->Prop) (E:dV->gs->Prop),C i j->Q (.int (g i j) s.toks) {s with toks:=s.toks+1}->et (hH X.prog X.w) X.A (f (.int i t) (.int j u)) Q E s) :
  Jn X f (rI C λi j=>.int (g i j)):=by
 intro a s σ H x y v u Q I b c h;have⟨i,j,rfl,rfl,d,q⟩:=h;have⟨t,rfl⟩:=b;have⟨t',rfl⟩:=c;show Zy i j t t' s _ _ d ⟨.int (g i j),H,I.tok _,⟨_,rfl⟩,q⟩
def EY{g:Int->Int->Int}
  (Zy:∀(i j:Int) (t u:Tok) (s:gs) (Q:dV->gs->Prop) (E:dV->gs->Prop),Q (.int (g i j) s.toks) {s with toks:=s.toks+1}->et (hH X.prog X.w) X.A (f (.int i t) (.int j u)) Q E s) :
  Jn X f (MA λi j=>.int (g i j)):=by
 intro a s σ H x y v u Q I b c h;have⟨i,j,rfl,rfl,q⟩:=h;have⟨t,rfl⟩:=b;have⟨t',rfl⟩:=c;show Zy i j t t' s _ _ ⟨.int (g i j),H,I.tok _,⟨_,rfl⟩,q⟩
def CM{g:Int->Int->Bool}
  (Zy:∀(i j:Int) (t u:Tok) (s:gs) (Q:dV->gs->Prop) (E:dV->gs->Prop),Q (.bool (g i j)) s->et (hH X.prog X.w) X.A (f (.int i t) (.int j u)) Q E s) :
  Jn X f (MA λi j=>.bl (g i j)):=by
 intro a s σ H x y v u Q I b c h;have⟨i,j,rfl,rfl,q⟩:=h;have⟨t,rfl⟩:=b;have⟨t',rfl⟩:=c;show Zy i j t t' s _ _ ⟨.bl (g i j),H,I,rfl,q⟩
abbrev GP(i j:Int):Prop:=0<j/\j<1073741824
abbrev GQ(i j:Int):Prop:=0<=j/\j<=1000000/\i.natAbs<2 ^ 64
abbrev CN(i j:Int):Prop:=(-(2 ^ 64)<i/\i<2 ^ 64)\/(-(2 ^ 64)<j/\j<2 ^ 64)
def CN.ok(h:CN i j):IntMulOk i j:=by
 rcases h with⟨a,b⟩|⟨a,b⟩
 .show .of_left (intBits_le_64 a b)
 .show .of_right (intBits_le_64 a b)
def cB:Jn X (Nh .Add) (MA λi j=>.int (i+j)):=EY λ_ _ _ _ _ _ _ q=>add_int q
def qS:Jn X (Nh .Sub) (MA λi j=>.int (i - j)):=EY λ_ _ _ _ _ _ _ q=>sub_int q
def kf:Jn X (Nh .Mult) (rI CN λi j=>.int (i * j)):=Po λ_ _ _ _ _ _ _ a q=>mul_int q a.ok
def zC:Jn X (Nh .FloorDiv) (rI GP λi j=>.int (i / j)):=Po λi j _ _ _ _ _ a q=>by
 have b:(0:Int)<j:=a.1;have c:j<1073741824:=a.2;show floordiv_int ⋯ (by rw[Int.fdiv_eq_ediv_of_nonneg i ⋯];show q) (.inl (PyProof.noPylong_small ⋯))
def eF:Jn X (Nh .Mod) (rI (λ_ j=>0<j) λi j=>.int (i % j)):=Po λi j _ _ _ _ _ a q=>by
 have b:(0:Int)<j:=a;show mod_int' ⋯ (by rw[Int.fmod_eq_emod_of_nonneg i ⋯];show q)
def nG:Jn X (Nh .Pow) (rI GQ λi j=>.int (i ^ j.toNat)):=Po λ_ _ _ _ _ _ _ a q=>pow_int_small a.1 a.2.1 a.2.2 q
end
section
def nI(I:Inv X a σ H s)(q:Q (.bl k) H)(e:k=k'):EP X a σ Q (.bool k') s:=by
 subst e;show⟨.bl k,H,I,rfl,q⟩
def EZ:Jn X (Ll .Lt) (MA λi j=>.bl (cc (i<j))):=CM λ_ _ _ _ _ _ _ q=>lt_int q
def E1:Jn X (Ll .Gt) (MA λi j=>.bl (cc (j<i))):=CM λ_ _ _ _ _ _ _ q=>gt_int q
def E2:Jn X (Ll .GtE) (MA λi j=>.bl (cc (j<=i))):=CM λ_ _ _ _ _ _ _ q=>ge_int q
def CO:Jn X (Ll .Is) (λx y H Q=>y=.Hs/\Q (.bl (cc (x=.Hs))) H):=by
 intro a s σ H x y v u Q I b c h;have⟨rfl,q⟩:=h;cases c;show is_none_gen (nI I q ?_);cases x<;>first
  |(cases b;rfl)
  |(have⟨t,rfl⟩:=b;rfl)
def zD:Jn X (Ll .IsNot) (λx y H Q=>y=.Hs/\Q (.bl (!cc (x=.Hs))) H):=by
 intro a s σ H x y v u Q I b c h;have⟨rfl,q⟩:=h;cases c;show isnot_none_gen (nI I q ?_);cases x<;>first
  |(cases b;rfl)
  |(have⟨t,rfl⟩:=b;rfl)
abbrev E3(K:PySem.W.Frag)(x:V)(H:Hp)(k:Bool):Prop :=
 match x with
 |.Hs=>k=cK
 |.bl b=>k=b
 |.int i=>k=(i != 0)
 |.str y=>y.length<=df/\k=((y.length:Int) != 0)
 |.Pb y=>y.size<=df/\k=((y.size:Int) != 0)
 |.ref p=>(∃xs,HX K H p xs/\k=!xs.isEmpty)\/(∃xs,Ie K H p xs/\k=!xs.isEmpty)\/∃kvs,H p=bD (.dK kvs)/\k=!kvs.isEmpty
 |_=>False
def qT(r:KV kvs vs):(!vs.isEmpty)=!kvs.isEmpty:=by
 cases r<;>rfl
def kg(r:Vals xs a):(!a.toArray.isEmpty)=!xs.isEmpty:=by
 cases r<;>simp
def fe:(df:Nat)<2 ^ 63:=by rw[sizeLine_eq];decide
def CP:GO X (λx H Q=>∃k,E3 X.K x H k/\Q k H):=by
 intro j s σ H x v Q I d h;have⟨k,e,q⟩:=h;have hl:=fe;have hs:df=16777216:=sizeLine_eq;cases x with
 |Hs =>
  cases d;have a:k=cK:=e;subst a;show truthy_none ⟨H,I,q⟩
 |bl b =>
  cases d;have a:k=b:=e;subst a;show JC ⟨H,I,q⟩
 |int i =>
  have⟨t,rfl⟩:=d;have a:k=(i != 0):=e;subst a;show PySem.P.truthy_int ⟨H,I,q⟩
 |str y =>
  have⟨t,rfl⟩:=d;obtain⟨l,a⟩:y.length<=df/\k=((y.length:Int) != 0):=e;subst a;show PySem.P.truthy_str ⋯ ⟨H,I.tok _,q⟩
 |Pb y =>
  have⟨t,rfl⟩:=d;obtain⟨l,a⟩:y.size<=df/\k=((y.size:Int) != 0):=e;subst a;show PySem.W.truthy_bytes ⋯ ⟨H,I.tok _,q⟩
 |ref p =>
  cases d;have a:(∃xs,HX X.K H p xs/\k=!xs.isEmpty)\/(∃xs,Ie X.K H p xs/\k=!xs.isEmpty)\/∃kvs,H p=bD (.dK kvs)/\k=!kvs.isEmpty:=e;rcases a with⟨xs,f,a⟩|⟨xs,f,a⟩|⟨kvs,f,a⟩
  .subst a;have⟨n,r,g,hz⟩:=I.list f;have c:=r.length;show wpAny_truthy_list g.isList (by simp only[hE];lia) ⟨H,I.tok _,by rw[kg r];show q⟩
  .subst a;have⟨n,r,g,hz⟩:=I.tuple f;have c:=r.length;show truthy_tuple g (by simp only[hE];lia) ⟨H,I.tok _,by rw[kg r];show q⟩
  .subst a;obtain⟨hz,o,vs,r,m⟩:kvs.length<=df/\(p==Mx)=cK/\∃vs,KV kvs vs/\s.heap.DictOf (aO X.prog X.w) p vs:=I.Hr p _ f;have c:kvs.length=vs.length:=Paired.length r;show wpAny_truthy_dict o m ⋯ ⟨H,I.tok _,by rw[qT r];show q⟩
 |_=>show(show False from e).elim
def wu(d:PE X a e)(f:∀b,isTrue a X.env b=(do let v <-b;W6 a.pos;LY [v] (ZP v))):
  PT X a (λσ H Q=>e σ H λx H'=>∃k,E3 X.K x H' k/\Q k H'):=by
 intro c s σ H Q I h;show isTrue_plain (Hu (d c s σ H _ I h) λv s1 ⟨x,g,i,j,l⟩=>CP c s1 σ g x v Q i j l) (f _)
def qU:Jn X (Nh .Add) (λx y H Q=>∃i j,x=.str i/\y=.str j/\i.length+j.length<=df/\Q (.str (i++j)) H):=by
 intro a s σ H x y v u Q I b c h;have⟨i,j,rfl,rfl,hz,q⟩:=h;have⟨t,rfl⟩:=b;have⟨t',rfl⟩:=c;show add_str (λt' d=>⟨.str (i++j),H,I.tok _,⟨_,rfl⟩,q⟩) hz
def vals1(r:Vals [x] us):∃u,us=[u]/\RelV x u:=by
 cases r with
 |cons a b=>cases b;show⟨_,rfl,a⟩
def vals2(r:Vals [x,y] us):∃u a,us=[u,a]/\RelV x u/\RelV y a:=by
 cases r with
 |cons b c =>
  cases c with
  |cons d e=>cases e;show⟨_,_,rfl,b,d⟩
def nJ:gy X (.type "str") (λxs H Q=>∃i,xs=[.int i]/\i.natAbs.log2<1920/\Q (.str (RL i)) H):=by
 intro a s σ H xs us Q I r h;have⟨i,rfl,hz,q⟩:=h;have⟨u,rfl,t,rfl⟩:=vals1 r;show PySem.P.str_of_int hz ⟨.str _,H,I.tok _,⟨_,rfl⟩,q⟩
end
section
end
def iV.some_of(r:iV (bD v) o):∃u,o=bD u/\RelV v u:=by
 cases o with
 |none=>show(show False from r).elim
 |some u=>show⟨u,rfl,r⟩
section
end
structure UR(K:PySem.W.Frag)(C:hA):Prop where
 pg:PySem.W.plainGet K C tr=b6
 hd:PySem.W.hasDictIn K C=b6
 po:PySem.W.plainOver K C=b6
 sa:PySem.W.findIn K (.ref C) "__setattr__"=bD (bD (.builtin "object.__setattr__"))
section
end
section
end
section
inductive kh(K:PySem.W.Frag)(H:Hp):V->dV->Prop where
 |Hs:kh K H .Hs (.type "NoneType")
 |bl (x:Bool):kh K H (.bl x) (.type "bool")
 |int (i:Int):kh K H (.int i) (.type "int")
 |str (x:Str):kh K H (.str x) (.type "str")
 |Pc (x:UInt64):kh K H (.Pc x) (.type "float")
 |lst {a:hA} {xs:List V} (e:H a=bD (.lst xs)):kh K H (.ref a) (.type "list")
 |Ir {a:hA} {o:Obj} {xs:List V} (e:H a=bD (.Ir o (.lst xs))):kh K H (.ref a) (.type "list")
 |tup {a:hA} {xs:List V} (e:H a=bD (.tup xs)):kh K H (.ref a) (.type "tuple")
 |dK {a:hA} {kvs:List (Key×V)} (e:H a=bD (.dK kvs)):kh K H (.ref a) (.type "dict")
 |dT {a:hA} {kvs:List (List Key×V)} (e:H a=bD (.dT kvs)):kh K H (.ref a) (.type "dict")
 |ins {a C dx:hA} {fs:List (Str×V)} (e:H a=bD (.ins C dx fs)) (cl:UR K C) (ha:PySem.W.findIn K (.ref C) "__class__"=bD (bD (.builtin "object.__class__")))
   (hn:PySem.W.specialIn K (.builtin "object.__class__") "__get__"=bD (bD (.builtin "getset_descriptor.__get__"))) (US:PySem.W.takesIn K (.builtin "object.__class__")=bD b6)
   (hm:PySem.W.mroIn K C (.type "object")=bD b6):kh K H (.ref a) (.ref C)
end
structure fJ(k:Nat)(A:MN):Prop where
 hd:A.handled=cb
 dp:A.depth+3 * k+5<ZQ
 un:A.units+16 * k+200<Kx
 gd:A.guards=bD []
def fJ.deeper(r:fJ (k+1) A)(env:Env):fJ k (A.deeper env) :=
 ⟨r.hd,by have:=r.dp;change A.depth+1+3 * k+5 < _;lia,by have:=r.un;change A.units+3+16 * k+200 < _;lia,r.gd⟩
def fJ.depth(r:fJ k A):A.depth<ZQ:=by have:=r.dp;lia
abbrev GR:TA:=λ_ H Q=>Q [] H
abbrev E4(a:TE)(b:TA):TA:=λσ H Q=>a σ H λx c=>b σ c λxs d=>Q (x::xs) d
section
def iX:PA X [] GR:=λ_ _ _ _ H Q I h=>N8 ⟨[],H,I,.nil,h⟩
def ff(b:PE X e c)(d:PA X es t)(hs:i2 (e::es) X.env=(cK,wk e X.env)::i2 es X.env:=by rfl):PA X (e::es) (E4 c t):=by
 intro pos a s σ H Q I h;rw[hs];change et _ _ (Zg ((cK,wk e X.env)::x2 pos (i2 es X.env))) _ _ s;show LO (Hu (b a s σ H _ I h) λu s1 f=>?_);have⟨x,g,i,j,k⟩:=f;show Hu (d pos a s1 σ g _ i k) λus s2 ⟨xs,l,m,n,o⟩=>⟨x::xs,l,m,.cons j n,o⟩
end
@[reducible]def Sp:=List V->Hp->VK->XK->Prop
@[reducible]def Nq:=List Env->Hp->gs->XK->dV->gs->Prop
structure zE(P:D9)(w:HL)(K:PySem.W.Frag)(mg:Str->Option dV)(base:IZ)(A:MN)(outer:List Env)(s:gs)(H:Hp):Prop where
 frames:A.frames=bD outer
 mod:Mod K mg base
 bs:∀b o,base.get? b=bD o->s.heap.get? b=bD o/\H b=cb
 L0:base.objs.size<=s.heap.objs.size
 j7:s.heap.FunFrames base outer
 Nl:∀b∈Ke outer,H b=cb
 Hr:IE P w H s.heap
 bare:SH s.gens
abbrev CE(outer:List Env)(P:D9)(w:HL)(H:Hp)(s:gs)(Q:VK)(u:dV)(s':gs):Prop :=
 ∃v H',s'.os=s.os/\SH s'.gens/\Un (Ke outer) [] H H' s.heap s'.heap/\IE P w H' s'.heap/\RelV v u/\Q v H'
abbrev CR(CX:Nq)(outer:List Env)(P:D9)(w:HL)(H:Hp)(s:gs)(Q:VK)(E:XK)(r:Result)(s':gs):Prop :=
 match r with
 |.ok (.ret u)=>CE outer P w H s Q u s'
 |.ok _=>False
 |.error e=>CX outer H s E e s'
structure jJ(P:D9)(w:HL)(K:PySem.W.Frag)(mg:Str->Option dV)(base:IZ)(CX:Nq)(k:Nat)(f:hA)(fd:QY)(ps:List Str)(sp:Sp):Prop where
 len:∀vs H Q E,sp vs H Q E->vs.length=ps.length
 run:∀(A:MN) (outer:List Env) (s:gs) (H:Hp) (args:Args) (us:List dV) (vs:List V) (Q:VK) (E:XK),fJ k A->zE P w K mg base A outer s H->Yl s fd args (ps.zip us)->Vals vs us->sp vs H Q E ->
  Qf (hH P w) A (.call (.ref f) args) (CR CX outer P w H s Q E) s
section
def Inv.GS(I:Inv X a σ H s):zE X.prog X.w X.K X.mg X.base X.A X.stack s H :=
 ⟨I.ok.frames,I.ok.mod,I.bs,u6 I.ok.L0 I.sz,I.stack,I.sN,I.Hr,I.bare⟩
def Inv.after(I:Inv X a σ H s)(h:CE X.stack X.prog X.w H s Q u s'):EP X a σ Q u s':=by
 have⟨v,H',os,c,e,f,r,q⟩:=h;have⟨i,g,d,t,j⟩:=s';obtain rfl:j=s.os:=os;show⟨v,H',I.call (h':=i) (g':=g) (d':=d) (t':=t) (ch:=[]) e f c (λb z=>absurd z (by simp)),r,q⟩
end
abbrev Binds(K:PySem.W.Frag)(b:QY)(ps:List Str)(a:List dV):Prop :=
 ∀(s:gs) (us:List dV),K.In s.heap->(us++a).length=ps.length->Yl s b ⟨us,[]⟩ (ps.zip (us++a))
def Binds.all{K:PySem.W.Frag}(h:∀us:List dV,us.length=ps.length->ZU a ⟨us,[]⟩=pure (ps.zip us)):Binds K a ps []:=λs us _ hl=>by
 rw[rr]at hl ⊢;show .of_eq (h us hl)
abbrev Passes(CX:Nq)(X:Cx)(E:XK):Prop:=∀(a:List (hA×Obj)) (σ:St) (H:Hp) (s:gs) (e:dV) (s':gs),Inv X a σ H s->CX X.stack H s E e s'->X.xe e s'
section
def qV(F:jJ X.prog X.w X.K X.mg X.base CX k f i ps sp)(j:fJ k X.A)(l:Binds X.K i ps b)(m:Vals c b)(n:Passes CX X E)
  (I:Inv X a σ H s) (r:Vals vs us) (h:sp (vs++c) H Q E):et (hH X.prog X.w) X.A (MK (.ref f) us) (EP X a σ Q) X.xe s:=by
 have g:Vals (vs++c) (us++b):=r.append m;have hl:(us++b).length=ps.length:=by rw[<-g.length];show F.len _ _ _ _ h
 show wpAny_call (Sh (F.run X.A X.stack s H ⟨us,[]⟩ (us++b) (vs++c) Q E j I.GS (l s us I.L3 hl) g h) λr s' d=>?_);cases r with
 |error e=>show n a σ H s e s' I d
 |ok o =>
  cases o with
  |ret u=>show I.after d
  |_=>show MF d
end
section
end
structure eC(N P:List Str)(sc:L5):Prop where
 kind:sc.kind=.function
 co:sc.isCoroutine=cK
 gen:sc.isGenerator=cK
 nd:N.Nodup
 pre:N.take P.length=P
 par:∀x∈P,sc.names.lookup x=bD .local\/sc.names.lookup x=bD .cell
 MB:∀y∈sc.names,y.2≠.free
theorem l9{kindOf:Str->Option Nr}:∀{a:List (Str×dV)}{m:Str->Option dV},(∀v,(x,v)∉a)->X5 kindOf a m x=m x
 |[],_,_=>rfl
 |(n,v)::r,m,h=>by
  unfold X5;rw[l9 λw b=>h w (ti _ b)];split
  .have:x≠n:=by rintro rfl;show h v ri
   simp[this]
  .rfl
theorem l_{kindOf:Str->Option Nr}:∀{a:List (Str×dV)}{m:Str->Option dV},(∀v,(x,v)∉a)->X6 kindOf a m x=m x
 |[],_,_=>rfl
 |(n,v)::r,m,h=>by
  unfold X6;rw[l_ λw b=>h w (ti _ b)];split
  .rfl
  .have:x≠n:=by rintro rfl;show h v ri
   simp[this]
theorem mf{kindOf:Str->Option Nr}:∀{P:List Str}{vs:List dV}{i:Nat}{m:Str->Option dV},P.Nodup->P[i]?=bD x->vs[i]?=bD v->kindOf x=bD .local ->
  X5 kindOf (P.zip vs) m x=bD v
 |[],_,_,_,_,h,_,_=>by simp at h
 |_::_,[],_,_,_,_,h,_=>by simp at h
 |p::P,w::vs,0,m,c,a,b,hk=>by
  simp at a b;subst a;subst b;change X5 kindOf ((p,w)::P.zip vs) m p=_;unfold X5;rw[l9 λv d=>(l0.mp c).1 (Pt d).1,Z6 hk];simp
 |p::P,w::vs,i+1,m,c,a,b,hk=>by
  change X5 kindOf ((p,w)::P.zip vs) m x=_;unfold X5;show mf (i:=i) (l0.mp c).2 (by simpa using a) (by simpa using b) hk
theorem mj{kindOf:Str->Option Nr}:∀{P:List Str}{vs:List dV}{i:Nat}{m:Str->Option dV},P.Nodup->P[i]?=bD x->vs[i]?=bD v->kindOf x≠bD .local ->
  X6 kindOf (P.zip vs) m x=bD v
 |[],_,_,_,_,h,_,_=>by simp at h
 |_::_,[],_,_,_,_,h,_=>by simp at h
 |p::P,w::vs,0,m,c,a,b,hk=>by
  simp at a b;subst a;subst b;change X6 kindOf ((p,w)::P.zip vs) m p=_;unfold X6;rw[l_ λv d=>(l0.mp c).1 (Pt d).1,Z7 hk];simp
 |p::P,w::vs,i+1,m,c,a,b,hk=>by
  change X6 kindOf ((p,w)::P.zip vs) m x=_;unfold X6;show mj (i:=i) (l0.mp c).2 (by simpa using a) (by simpa using b) hk
abbrev start(N:List Str)(vs:List V):St:=vs.map bD++i5 (N.length - vs.length) cb
abbrev pf(CX:Nq)(P:D9)(w:HL)(K:PySem.W.Frag)(mg:Str->Option dV)(base:IZ)(N:List Str)(a:Str)(scope:L5)(f:hA)(b:dV)(A:MN)(outer:List Env)(s:gs)(H:Hp)(E:XK):Cx where
 prog:=P
 w:=w
 K:=K
 mg:=mg
 base:=base
 A:=A.deeper (SG a scope s.heap.objs.size f b)
 N:=N
 s₀:=s
 H₀:=H
 env:=SG a scope s.heap.objs.size f b
 outer:=outer
 stack:=SG a scope s.heap.objs.size f b::outer
 ex:=[]
 calm:=b6
 fn:=λ_=>b6
 pn:=[]
 xe:=λe s'=>et (hH P w) (A.deeper (SG a scope s.heap.objs.size f b)) (leaving (SG a scope s.heap.objs.size f b) e) (λ_ c=>CX outer H s E e c) (λd c=>CX outer H s E d c) s'
def ph{a:L5}(h:a.names.lookup x=bD .cell):∃c,(ZA n a.names []).lookup x=bD c:=by
 have q:=PySem.W.cellsFrom_some a.names n [] (.inl h);show QM.mp q
def uO{K:PySem.W.Frag}
  (S:eC N ps scope) (G:A.handled=cb) (j:zE P w K mg base A outer s H) (hl:vs.length=ps.length) (r:Vals vs us)
  (x:InCallC s s.heap.objs.size (X5 (SG g scope s.heap.objs.size f t).kindOf (ps.zip us) λ_=>cb) (ZA (s.heap.objs.size+1) scope.names []) (X6 (SG g scope s.heap.objs.size f t).kindOf (ps.zip us) λ_=>cb) s1) :
  Inv (pf CX P w K mg base N g scope f t A outer s H E) [] (start N vs) H s1:=by
 have J:ps.length<=N.length:=by have:=Z_ HU S.pre;rw[G1]at this;lia
 have⟨m,L,rfl,hk⟩:=x.done;have B:∀b:hA,b∉(pf CX P w K mg base N g scope f t A outer s H E).ex:=λb z=>absurd (show b∈([]:List hA) from z) (by simp);show⟨⟨j.mod,S.kind,rfl,rfl,ix _,λy z c m d=>?_,λy hy=>?_,λy c _ h=>?_,λ_=>G,Around.frames_deeper j.frames,.inr ⟨rfl,rfl⟩,λb z=>absurd z (B b),j.bs,j.L0,λb _ _=>B b,λb z=>absurd z (B b),j.j7,j.Nl⟩,
  rfl,j.bare,Un.kept hk,⟨_,x.toInCall.ns,λi y v m d O=>?_⟩,λy c h=>⟨_,x.cell y c h⟩,j.Hr.fresh (ix _),λy c h=>?_,λp l=>absurd (show p∈([]:List (hA×Obj)) from l) (by simp),j.Hr.kept hk,?_⟩
 .show name_of_addr x.apart (PySem.mem_of_lookup m) (PySem.mem_of_lookup d)
 .have hy:scope.names.lookup y=bD .cell\/scope.names.lookup y=bD .free:=hy;rcases hy with hy|hy
  .show ph hy
  .show absurd rfl (S.MB _ (PySem.mem_of_lookup hy))
 .show OB (x.above y c (PySem.mem_of_lookup h))
 .have o:i<vs.length:=by
   unfold start at d;by_cases o:i<vs.length
   .show o
   .rw[nC (by simpa using o)]at d;rw[Jb]at d;split at d<;>cases d
  have I:vs[i]?=bD v:=by
   unfold start at d;rw[u5 (by simpa using o),i7]at d;cases e:vs[i]? with
   |none=>rw[e]at d;cases d
   |some a=>rw[e]at d;cases d;rfl
  have⟨u,C,rv⟩:=r.get I;have l:ps[i]?=bD y:=by
   rw[<-S.pre,WQ ⋯];show m
  have D:ps.Nodup:=by rw[<-S.pre];show S.nd.sublist (Yr _ _)
  show⟨u,rv,?_⟩;rcases S.par y (mx l) with k|k
  .show .inl ⟨k,mf D l C k⟩
  .have⟨c,e⟩:=ph (n:=s.heap.objs.size+1) k;show .inr ⟨.inl k,c,e,?_⟩;have q:=x.cell y c e;rw[mj D l C (by change scope.names.lookup y≠_;rw[k];decide)]at q;show q
 .show j.Hr.fresh (OB (x.above y c (PySem.mem_of_lookup h)))
 .unfold start;change _=N.length;rw[i0,c2,O2];lia
def E5{K:PySem.W.Frag}{z kV g B d ct G:dV}
 (lk:K.lookup f=bD ⟨G,od,.func (PySem.W.fnOf name a c body scope z kV g B L d ct),N6⟩) (O:PySem.W.codeIn K d a=b6) (S:eC N ps scope)
    (h:∀vs H Q E,sp vs H Q E->vs.length=ps.length)
    (T:∀(A:MN) (outer:List Env) (s:gs) (H:Hp) (vs:List V) (Q:VK) (E:XK),fJ k (A.deeper (SG a scope s.heap.objs.size f d))->sp vs H Q E ->
      ∃t,IJ (pf CX P w K mg base N a scope f d A outer s H E) body t/\t {nx:=λ_ H'=>Q .Hs H',rt:=Q} (start N vs) H) :
    jJ P w K mg base CX (k+1) f (PySem.W.fnOf name a c body scope z kV g B L d ct) ps sp:=by
  show⟨h,λA outer s H args us vs Q E m i Y r C=>?_⟩;have hl:=h _ _ _ _ C;have D:K.In s.heap:=i.mod.NX.keeps λb o e=>(i.bs b o e).1;have p:s.heap.NoLimit:=i.mod.nolimit.keeps λb o e=>(i.bs b o e).1;have N7:∀y∈ps.zip us,scope.names.lookup y.1=bD .local\/(scope.names.lookup y.1=bD .cell/\((ZA (s.heap.objs.size+1) scope.names []).lookup y.1).isSome=b6):=λ⟨n,v⟩ hy=>by
    rcases S.par n (Pt hy).1 with q|q
    . show .inl q
    . show .inr ⟨q,PySem.W.cellsFrom_some _ _ _ (.inl q)⟩
  show codeAny_call_function m.depth (D _ _ lk) rfl S.co S.gen rfl (PySem.W.codeRec_of D O) (Y _ _ _ _ ?_);show wpAny_newFunctionEnv_cells S.kind N7 λenv he s1 x=>?_;subst he;show⟨p.keeps x.toInCall.keep,codeAny_func ?_⟩;have⟨t,ht,hq⟩:=T A outer s H vs Q E (m.deeper _) C;have I:Inv (pf CX P w K mg base N a scope f d A outer s H E) [] (start N vs) H s1:=uO S m.hd i hl r x;show tA (ht [] s1 (start N vs) H _ I hq) (λfl s' hs=>?_) λe s' hs=>hs;have j:∀{l:St} {H':Hp} {v:V} {u:dV},Inv (pf CX P w K mg base N a scope f d A outer s H E) [] l H' s'->RelV v u->Q v H'->CE outer P w H s Q u s' :=
    λ{l H' v u} J rv q=>⟨v,H',J.os,J.bare,J.base,J.Hr,rv,q⟩
  cases fl with
  | ret u =>
    have⟨v,l,H',J,rv,q⟩:=hs;show j J rv q
  | next =>
    have⟨l,H',J,q⟩:=hs;show j (v:=V.Hs) (u:=nc) J rfl q
  | brk =>
    obtain⟨_,_,_,q⟩:=hs;show MF q
  | cont =>
    obtain⟨_,_,_,q⟩:=hs;show MF q
section
end
end L2
namespace HT
open PySem PyProof.Rows
section
open PySem.SeqAt
open PySem.AutoSeq1 (wpAny_loadPart')
open PySem.MeetsSeq PySem.MeetsSeq2 PySem.MeetsSeq3
end
section
def zF(p:Z4 s.heap t vs.toArray)(q:Z4 s.heap b ws.toArray)(f:vs≠[])
  (r:ws=[]->Q (.ref t) s) (u:ws≠[]->Q (.ref s.heap.objs.size) {s with heap:=s.heap.push {cls:=.type "tuple",data:=.seq (vs++ws).toArray}})
  (hsz:vs.length+ws.length<=df):et (hH prog w) A (Nh .Add (.ref t) (.ref b)) Q E s:=by
 obtain⟨⟨cls,g,data,h⟩,ho,i,n,j⟩:=id p;obtain⟨⟨v,k,data2,l⟩,c,m,o,a⟩:=id q;simp only at i j m a;subst i j m a;have e:vs.toArray++ws.toArray=(vs++ws).toArray:=by simp
 by_cases d:ws=[]
 .show Vu ⟨_,ho,rfl⟩ ⟨_,c,rfl⟩ V9 XX PySem.F.slot_tuple_add PySem.F.entry_tuple_add (PySem.F.args_tuple_add_2 _ _)
   (tuple_addW1 t b vs.toArray ws.toArray n o g k h l (by simpa using f) (by simp[d])) ⟨ho,c,r d⟩
 .show Vu ⟨_,ho,rfl⟩ ⟨_,c,rfl⟩ V9 XX PySem.F.slot_tuple_add PySem.F.entry_tuple_add (PySem.F.args_tuple_add_2 _ _)
   (tuple_addW2 t b vs.toArray ws.toArray n o g k h l (by simpa using f) (by simpa using d) (by rw[hE,hE];show hsz)) ⟨ho,c,?_⟩
  rw[e];show u d
abbrev JE(n d:Nat):Option Int->Nat
 |none=>d
 |some v=>if v<0 then(v+(n:Int)).toNat else min v.toNat n
end
end HT
namespace L2
open PySem PySem.Spec PyProof.Rows
@[reducible]def TO:=St->Hp->(Option Int->Hp->Prop)->Prop
abbrev PO(X:Cx)(e:Option mh)(t:TO):Prop :=
 ∀(a:List (hA×Obj)) (s:gs) (σ:St) (H:Hp) (Q:Option Int->Hp->Prop),Inv X a σ H s->t σ H Q ->
  et (hH X.prog X.w) X.A (evalPart e X.env) (λu s'=>∃o H',Inv X a σ H' s'/\IsPart u o/\Q o H') X.xe s
abbrev zG:TO:=λ_ H Q=>Q cb H
abbrev E6(t:TE):TO:=λσ H Q=>t σ H λx a=>∃i,x=.int i/\Q (bD i) a
section
variable{X:Cx}{e:mh}{te:TE}{lo hi:Option mh}{tl th:TO}{pos p2:Pos}
def zH:PO X cb zG:=by
 intro a s σ H Q I h;rw[evalPart_none];show dt ⟨cb,H,I,.none,h⟩
def zI(h:PE X e te):PO X (bD e) (E6 te):=by
 intro a s σ H Q I b;rw[evalPart_some];show Hu (h a s σ H _ I b) λu s1 c=>?_;have⟨x,d,f,g,j⟩:=c;have⟨i,rfl,q⟩:=j;have⟨t,rfl⟩:=g;show⟨bD i,d,f,.int i t,q⟩
abbrev L9(X:Cx)(r:V->Option Int->Option Int->Hp->VK->Prop):Prop :=
 ∀(a:List (hA×Obj)) (s:gs) (σ:St) (H:Hp) (x:V) (v b c:dV) (lo hi:Option Int) (d:hA) (Q:VK),Inv X a σ H s->RelV x v->s.heap.IsSliceOf d b c .none->IsPart b lo->IsPart c hi->r x lo hi H Q ->
  ∃T id,UC (.type T) "__getitem__"=pure (bD (.builtin id))/\s.TypeIs v T/\et (hH X.prog X.w) X.A (Vk v (.ref d)) (EP X a σ Q) X.xe s
def L9.or(h:L9 X r)(h':L9 X j):L9 X (λx lo hi H Q=>r x lo hi H Q\/j x lo hi H Q):=by
 intro a s σ H x v b c lo hi d Q I f hs g i q;rcases q with q|q
 .show h a s σ H x v b c lo hi d Q I f hs g i q
 .show h' a s σ H x v b c lo hi d Q I f hs g i q
abbrev UT(r:V->Option Int->Option Int->Hp->VK->Prop)(te:TE)(tl th:TO):TE:=λσ H Q=>te σ H λx a=>tl σ a λl b=>th σ b λu c=>r x l u c Q
def wx(g:L9 X r)(i:PE X e te)(hl:PO X lo tl)(j:PO X hi th):PE X (.Subscript e (.Slice lo hi cb p2) pos) (UT r te tl th):=by
 intro a s σ H Q I h;show Y9 (Hu (i a s σ H _ I h) λv s1 k=>?_);have⟨x,m,n,o,p⟩:=k;show wpAny_Slice (Hu (hl a s1 σ m _ n p) λc s2 ⟨l,t,y,z,B⟩=>Hu (j a s2 σ t _ y B) λd s3 C=>?_);have⟨u,f,D,G,J⟩:=C;rw[evalPart_none];show dt ?_;have L:Inv X a σ f {s3 with heap:=s3.heap.push {cls:=.type "slice",data:=.fields #[c,d,.none]}}:=D.kept (t':=s3.toks) λb ob q=>c4 _ q;have⟨T,id,N,O,Y⟩:=g a {s3 with heap:=s3.heap.push {cls:=.type "slice",data:=.fields #[c,d,.none]}} σ f x v c d l u s3.heap.objs.size Q L o (Zp ..) z G J;change et (hH X.prog X.w) X.A (Ui e (.Slice lo hi cb p2) v (.ref s3.heap.objs.size)) (EP X a σ Q) X.xe {s3 with heap:=s3.heap.push {cls:=.type "slice",data:=.fields #[c,d,.none]}};show tail_any (ops:=[.ref s3.heap.objs.size,v]) O N Y (by with_unfolding_all rfl)
abbrev uP(xs:List V)(lo hi:Option Int):List V:=(xs.drop (HT.JE xs.length 0 lo)).take (HT.JE xs.length xs.length hi - HT.JE xs.length 0 lo)
def pj(xs:List V)(lo hi:Option Int):(uP xs lo hi).length<=xs.length:=by
 unfold uP;rw[G1,Yy];lia
abbrev E7(K:PySem.W.Frag):R2:=λx y H Q=>∃a b xs c,x=.ref a/\y=.ref b/\Ie K H a xs/\Ie K H b c/\xs≠[]/\xs.length+c.length<=df /\
 (c=[]->Q (.ref a) H)/\(c≠[]->∀p,H p=cb->Q (.ref p) (upd H p (.tup (xs++c))))
def Vals.nK(r:Vals xs us):us=[]↔xs=[]:=by
 cases r with
 |_=>simp
def zJ:Jn X (Nh .Add) (E7 X.K):=by
 intro f s σ H x y v u Q I g i h;have⟨a,b,xs,j,rfl,rfl,k,l,m,hz,n,p⟩:=h;cases g;cases i;obtain⟨t,d,r,_⟩:=I.tuple k;obtain⟨A,c,p2,_⟩:=I.tuple l;show HT.zF r p2 (λz=>m (d.nK.mp z)) (λz=>⟨.ref a,H,I,rfl,n (c.nK.mp z)⟩) (λz=>?_) (by rw[<-d.length,<-c.length];show hz);show⟨.ref s.heap.objs.size,_,I.laid (t':=s.toks) (o:=.tup (xs++j)) (λb B q=>c4 _ q) (ix _) ?_,rfl,p (λw=>z (c.nK.mpr w)) _ (I.Hr.fresh (ix _))⟩;show⟨by rw[i0];show hz,_,d.append c,Yo _ _⟩
end
abbrev KS(n:Nat)(i:Int):Option Nat:=if 0<=i then(if i<n then bD i.toNat else cb) else if -(n:Int)<=i then bD (i+n).toNat else cb
abbrev Iv{α:Type}(xs:List α)(i:Int):Option α:=(KS xs.length i).bind λj=>xs[j]?
def sR{n:Nat}(h:KS n i=bD j):V0 i n=bD j/\j<n/\-(n:Int)<=i/\i<n:=by
 unfold KS at h;by_cases b:0<=i
 .rw[Z6 b]at h;by_cases a:i<n
  .rw[Z6 a]at h;have e:i.toNat=j:=sx h;show⟨by rw[YE b a,e],⋯,⋯,a⟩
  .rw[Z7 a]at h;cases h
 .rw[Z7 b]at h;by_cases a:-(n:Int)<=i
  .rw[Z6 a]at h;have e:(i+n).toNat=j:=sx h;show⟨by rw[seqIndex_neg ⋯ a,e],⋯,a,⋯⟩
  .rw[Z7 a]at h;cases h
def nL(h:Iv xs i=bD v):∃j,V0 i xs.length=bD j/\xs[j]?=bD v/\j<xs.length/\-(xs.length:Int)<=i/\i<xs.length:=by
 unfold Iv at h;cases e:KS xs.length i with
 |none=>rw[e]at h;cases h
 |some j =>
  rw[e]at h;have⟨a,b,c,d⟩:=sR e;show⟨j,a,h,b,c,d⟩
def fg{j:Nat}(h:xs[j]?=bD v):Iv xs (j:Int)=bD v:=by
 have a:j<xs.length:=(d3.mp h).1;have e:KS xs.length (j:Int)=bD j:=by
  unfold KS;rw[Z6 ⋯,Z6 ⋯];simp
 unfold Iv;rw[e];show h
abbrev nM(b:mh):Prop:=∀o i,Wr b cK o i=operate [o,i] (Vk o i)
abbrev QO(X:Cx)(r:R2):Prop :=
 ∀(c a:mh) (b:List (hA×Obj)) (s:gs) (σ:St) (H:Hp) (x y:V) (v u:dV) (Q:VK),Inv X b σ H s->RelV x v->RelV y u->r x y H Q ->
  Wr a cK v u=operate [v,u] (Vk v u)->et (hH X.prog X.w) X.A (Ui c a v u) (EP X b σ Q) X.xe s
abbrev QP(X:Cx)(id:String)(r:V->List V->Hp->VK->Prop):Prop :=
 ∀(a:List (hA×Obj)) (s:gs) (σ:St) (H:Hp) (x:V) (xs:List V) (v:dV) (us:List dV) (Q:VK),Inv X a σ H s->RelV x v->Vals xs us->r x xs H Q ->
  et (hH X.prog X.w) X.A (MK (.builtin id) (v::us)) (EP X a σ Q) X.xe s
section
abbrev GU(K:PySem.W.Frag):R2:=λx y H Q=>∃p xs i v,x=.ref p/\y=.int i/\HX K H p xs/\Iv xs i=bD v/\Q v H
abbrev GV(K:PySem.W.Frag):R2:=λx y H Q=>∃p xs i v,x=.ref p/\y=.int i/\Ie K H p xs/\Iv xs i=bD v/\Q v H
abbrev GW:R2:=λx y H Q=>∃z i c,x=.str z/\y=.int i/\z.length<=df/\Iv z.cps.toList i=bD c/\Q (.str ⟨#[c]⟩) H
def zK:QO X (GU X.K):=by
 intro d f a s σ H x y v u Q I n A h hs;have⟨p,xs,i,z,rfl,rfl,B,C,q⟩:=h;cases n;have⟨t,rfl⟩:=A;have⟨D,r,g,hz⟩:=I.list B;have⟨j,c,G,O,J,L⟩:=nL C;have⟨w,l,N⟩:=r.get G;have hl:=r.length;have Y:=fe;have b:EP X a σ Q w s:=⟨z,H,I,N,q⟩
 by_cases m:0<=i
 .have k:i.toNat=j:=by
   rw[YE m L]at c;show sx c
  show item_listR g.isList m ⋯ (by rw[k];simpa using l) b hs
 .have k:(i+(D.toArray.size:Int)).toNat=j:=by
   rw[seqIndex_neg ⋯ J]at c;rw[hE,<-hl];show sx c
  show Ym (x:=w) g.isList.typeIs Zh.lookup
   (wpAny_getItem_list_neg (Q:=λr s'=>r=w/\EP X a σ Q r s') g.isList ⋯ (by rw[hE]<;>lia) ⋯ (by rw[k];simpa using l) ⟨rfl,b⟩) hs
def dc:QO X (GV X.K):=by
 intro b c a s σ H x y v u Q I g k h hs;have⟨p,xs,i,z,rfl,rfl,l,m,q⟩:=h;cases g;have⟨t,rfl⟩:=k;have⟨D,r,f,hz⟩:=I.tuple l;have⟨j,n,A,G,J,L⟩:=nL m;have⟨w,B,C⟩:=r.get A;have hl:=r.length;have N:=fe;have d:EP X a σ Q w s:=⟨z,H,I,C,q⟩
 show Ym (x:=w) f.typeIs slot_tuple_getitem.lookup
  (getItem_tuple (j:=j) (Q:=λr s'=>r=w/\EP X a σ Q r s') f ⋯ ⋯ (by rw[hE,<-hl];show n) (by simpa using B) ⟨rfl,d⟩) hs
def nN:QO X GW:=by
 intro a b d s σ H x y v u Q I g k h hs;have⟨z,i,c,rfl,rfl,hz,l,q⟩:=h;have⟨t,rfl⟩:=g;have⟨t',rfl⟩:=k;have⟨j,f,m,B,n,p⟩:=nL l;have hl:z.cps.toList.length=z.length:=by simp[ZX]
 rw[hl]at f n p;have C:=fe;show tail_any (Xh s z t) ZE.lookup (getItem_str (c:=c) (by
  have w:cc (i < -(2 ^ 63:Int))=cK:=Z8 ⋯;have A:cc (i >= 2 ^ 63)=cK:=Z8 ⋯;rw[w,A,WZ]) (by rw[f];simpa using m) ⟨.str ⟨#[c]⟩,H,I.tok _,⟨_,rfl⟩,q⟩) hs
def qW(a:List dV)(n j:Nat)(u:dV):nH (·.setIfInBounds j u) {cls:=.type "list",data:=.seq a.toArray n}={cls:=.type "list",data:=.seq (a.set j u).toArray n}:=by
 simp[nH]
def Inv.lst(I:Inv X b σ H s)(h:H p=bD (.lst xs)):
  ∃(a:List dV) (n:Nat),Vals xs a/\s.heap.get? p=bD {cls:=.type "list",data:=.seq a.toArray n}/\xs.length<=df:=by
 have⟨z,a,n,r,e⟩:=I.Hr p _ h;show⟨a,n,r,e,z⟩
def Inv.CQ{c its':List dV}(I:Inv X a σ H s)(h:H p=bD (.lst xs))
  (ho:s.heap.get? p=bD {cls:=.type "list",data:=.seq c.toArray n}) (d:f {cls:=.type "list",data:=.seq c.toArray n}={cls:=.type "list",data:=.seq its'.toArray g }) (r:Vals i its') (hz:i.length<=df) (t:Nat) :
  Inv X a σ (upd H p (.lst i)) {s with heap:=s.heap.update p f,toks:=t}:=by
 have e:(s.heap.update p f).get? p=bD {cls:=.type "list",data:=.seq its'.toArray g }:=by
  rw[uv f ho (by rw[d]<;>rfl),d]
 show I.write (x:=p) (e:=p) (by rw[h];trivial) (.inl rfl) (λb u j q=>(LZ _ _ (rz j)).trans q) ⟨_,e⟩ ?_;show⟨hz,its',g,r,e⟩
abbrev E8:V->V->V->Hp->(Hp->Prop)->Prop:=λo i v H Q=>∃p xs k j,o=.ref p/\i=.int k/\H p=bD (.lst xs)/\KS xs.length k=bD j/\Q (upd H p (.lst (xs.set j v)))
def set_list:nF X E8:=by
 intro a s σ H o i v z A u Q I w x rv h;have⟨p,xs,k,j,rfl,rfl,c,y,q⟩:=h;cases w;have⟨t,rfl⟩:=x;have⟨d,n,r,ho,hz⟩:=I.lst c;have⟨b,B,f,g⟩:=sR y;have hl:=r.length;have C:=fe;have l:Inv X a σ (upd H p (.lst (xs.set j v))) {s with heap:=s.heap.update p (nH (·.setIfInBounds j u))} :=
  I.CQ c ho (qW d n j u) (r.set rv j) (by rw[YQ];show hz) s.toks
 by_cases m:0<=k
 .have hk:k.toNat=j:=by
   rw[YE m g]at b;show sx b
  show PySem.W.ki_setAt ho m ⋯ (by rw[hE,<-hl];show g) (by rw[hk];show⟨_,l,q⟩)
 .have hk:(k+(d.toArray.size:Int)).toNat=j:=by
   rw[seqIndex_neg ⋯ f]at b;rw[hE,<-hl];show sx b
  show PySem.W.ki_setBack ho ⋯ (by rw[hE,<-hl];show f) ⋯ (by rw[hk];show⟨_,l,q⟩)
def nO(lo a:Option Int)(n:Nat):(Ql lo a cb n).1=((HT.JE n 0 lo:Nat):Int)/\(Ql lo a cb n).2.1=((HT.JE n n a:Nat):Int)/\(Ql lo a cb n).2.2=1:=by
 show⟨?_,?_,rfl⟩
 .cases lo with
  |none=>simp[Ql,HT.JE]
  |some i =>
   simp only[Ql,HT.JE,X_,show(1:Int)>0 by decide,if_true];by_cases h:i<0
   .simp only[h,if_true]<;>lia
   .simp only[h,if_false]<;>lia
 .cases a with
  |none=>simp[Ql,HT.JE]
  |some i =>
   simp only[Ql,HT.JE,X_,show(1:Int)>0 by decide,if_true];by_cases h:i<0
   .simp only[h,if_true]<;>lia
   .simp only[h,if_false]<;>lia
def lO(a:List dV)(lo b:Option Int):slicePick a.toArray lo b cb=((a.drop (HT.JE a.length 0 lo)).take (HT.JE a.length a.length b - HT.JE a.length 0 lo)).toArray:=by
 have⟨c,d,f⟩:=nO lo b a.toArray.size;unfold slicePick;rw[c,d,f];simp only[sliceRange_one,pick_run,hE]<;>rfl
abbrev E9(K:PySem.W.Frag):V->Option Int->Option Int->Hp->VK->Prop:=λx lo b H Q=>∃a xs,x=.ref a/\HX K H a xs/\∀p,H p=cb->Q (.ref p) (upd H p (.lst (uP xs lo b)))
def zL:L9 X (E9 X.K):=by
 intro f s σ H x v m n lo d p Q I i hs j k h;have⟨a,xs,rfl,l,q⟩:=h;cases i;have⟨u,r,g,hz⟩:=I.list l;have c:=r.length;show⟨"list",_,Zh.lookup,g.isList.typeIs,?_⟩;show wpAny_getItem_list_slice g.isList hs j k .none (by simp) ?_ (by rw[hE]<;>lia);rw[lO,<-c];show⟨.ref s.heap.objs.size,_,I.laid (t':=s.toks) (o:=.lst (uP xs lo d)) (λb w q=>c4 _ q) (ix _) ?_,rfl,q _ (I.Hr.fresh (ix _))⟩;show⟨u6 (pj xs lo d) hz,_,0,(r.drop (HT.JE xs.length 0 lo)).take (HT.JE xs.length xs.length d - HT.JE xs.length 0 lo),fx _ rfl⟩
def il:gy X (.builtin "len") (λxs H Q=>∃p b,xs=[.ref p]/\(HX X.K H p b\/Ie X.K H p b)/\Q (.int b.length) H):=by
 intro f s σ H xs us Q I r h;have⟨p,b,rfl,hq,q⟩:=h;have⟨u,rfl,g⟩:=vals1 r;cases g;have j:=fe;rcases hq with hq|hq
 .have⟨i,c,d,hz⟩:=I.list hq;have a:=c.length;show Calls.call_len_list d.isList (by simp only[hE]<;>lia) ⟨.int b.length,H,I.tok _,⟨s.toks+1,by rw[hE,a]⟩,q⟩
 .have⟨i,c,d,hz⟩:=I.tuple hq;have a:=c.length;show len_tuple d (by simp only[hE]<;>lia) ⟨.int b.length,H,I.tok _,⟨s.toks+1,by rw[hE,a]⟩,q⟩
def nP:gy X (.builtin "len") (λxs H Q=>∃z,xs=[.str z]/\z.length<=df/\Q (.int z.length) H):=by
 intro a s σ H xs us Q I r h;have⟨z,rfl,hz,q⟩:=h;have⟨u,rfl,t,rfl⟩:=vals1 r;have b:=fe;show len_str ⋯ ⟨.int z.length,H,I.tok _,⟨_,rfl⟩,q⟩
def gz:gy X (.type "tuple") (λxs H Q=>∃p c,xs=[.ref p]/\((HX X.K H p c/\∀l,H l=cb->Q (.ref l) (upd H l (.tup c)))\/(Ie X.K H p c/\Q (.ref p) H))):=by
 intro a s σ H xs us Q I r h;have⟨p,c,rfl,h⟩:=h;have⟨u,rfl,m⟩:=vals1 r;cases m;rcases h with⟨d,q⟩|⟨d,q⟩
 .have⟨f,g,i,hz⟩:=I.list d;have j:=g.length;show call_tuple_list i.isList (λh' n=>?_) (by simp only[hE]<;>lia);have k:Inv X a σ H {s with heap:=h' }:=I.kept (t':=s.toks) n;have v:Inv X a σ (upd H h'.objs.size (.tup c)) {s with heap:=h'.push {cls:=.type "tuple",data:=.seq f.toArray}} :=
   k.laid (t':=s.toks) (λb o e=>c4 _ e) (ix _) (show bN X.prog X.w _ _ _ (.tup c) from⟨hz,f,g,Yo _ _⟩)
  show⟨.ref h'.objs.size,_,v,rfl,q _ (k.Hr.fresh (ix _))⟩
 .have⟨f,g,i,hz⟩:=I.tuple d;show call_tuple_same i ⟨.ref p,H,I,rfl,q⟩
abbrev Pp(K:PySem.W.Frag)(T:String)(x:V)(H:Hp):Prop:=match x with
 |.str _=>T="str"
 |.int _=>T="int"
 |.ref p=>(T="list"/\∃xs,HX K H p xs)\/(T="tuple"/\∃o,K.lookup p=bD o/\o.cls=.type "tuple"/\o.dict=cb) \/
   (T="dict"/\((∃kvs,H p=bD (.dK kvs))\/∃kvs,H p=bD (.dT kvs)))\/(T="set"/\∃S n,H p=bD (.set S n))
 |_=>False
def nQ(I:Inv X g σ H s)(r:RelV x v)(b:Pp X.K T x H):
  s.TypeIs v T/\∀a,v=.ref a->∃h,s.heap.get? a=bD h/\h.dict=cb:=by
 cases x with
 |str z =>
  have⟨t,rfl⟩:=r;cases(show T="str" from b);show⟨Xh s z t,λ_ e=>nomatch e⟩
 |int i =>
  have⟨t,rfl⟩:=r;cases(show T="int" from b);show⟨typeIs_int s i t,λ_ e=>nomatch e⟩
 |ref p =>
  cases r;rcases b with⟨rfl,xs,k⟩|⟨rfl,o,hk,l,d⟩|⟨rfl,hk⟩|⟨rfl,S,n,hk⟩
  .obtain⟨m,_,j,_⟩:=I.list k;show⟨j.isList.typeIs,λa e=>?_⟩;cases e;obtain⟨o,n,e,c,d,_⟩:=j;show⟨o,e,d⟩
  .show⟨⟨o,I.L3 p o hk,l⟩,λa e=>?_⟩;cases e;show⟨o,I.L3 _ o hk,d⟩
  .have z:∃o,s.heap.get? p=bD o/\o.ExactDict:=by
    rcases hk with⟨kvs,hk⟩|⟨kvs,hk⟩
    .obtain⟨_,_,_,_,o,_,_,e,ex,_⟩:=I.Hr p _ hk;show⟨o,e,ex⟩
    .obtain⟨_,_,_,_,o,_,_,e,ex,_⟩:=I.Hr p _ hk;show⟨o,e,ex⟩
   have⟨o,e,ex⟩:=z;show⟨⟨o,e,ex.1⟩,λa f=>?_⟩;cases f;show⟨o,e,ex.2.1⟩
  .obtain⟨o,_,_,_,e,ex,_⟩:=I.Hr p _ hk;show⟨⟨o,e,ex.1⟩,λa f=>?_⟩;cases f;show⟨o,e,ex.2.1⟩
 |_=>show MF b
abbrev GX(K:PySem.W.Frag)(T:String)(r:V->List V->Hp->VK->Prop)(to:TE):TE:=λσ H Q=>to σ H λx a=>Pp K T x a/\r x [] a Q
abbrev UU(K:PySem.W.Frag)(T:String)(r:V->List V->Hp->VK->Prop)(to:TE)(t:TA):TE:=λσ H Q=>to σ H λx a=>Pp K T x a/\t σ a λxs b=>r x xs b Q
variable{o e:mh}{es:List mh}{to:TE}{t:TA}{name:Str}{apos F':Pos}{T id:String}{r:V->List V->Hp->VK->Prop}
def CS(d:PlainAttrs T)(slot:Slot T name id)(f:Y0 (.builtin id)=pure (.type "method_descriptor"))(g:QP X id r)(ho:PE X o to)
  (i:Qj o name X.env (wk o X.env)=wk o X.env:=by rfl) (j:(apos.endLine==F'.line)=b6:=by rfl):PE X (.Call (.Attribute o name apos) [] [] F') (GX X.K T r to):=by
 intro a s σ H Q I h;show RO i j (Hu (ho a s σ H _ I h) λv s1 k=>?_);have⟨x,l,b,c,m,n⟩:=k;have⟨p,q⟩:=nQ b c m;show⟨T,id,d,slot,f,p,q,wh rfl (PySem.evalArgs_none (g a s1 σ l x [] v [] Q b c .nil n))⟩
def sT(f:PlainAttrs T)(slot:Slot T name id)(g:Y0 (.builtin id)=pure (.type "method_descriptor"))(i:QP X id r)(ho:PE X o to)(j:PA X (e::es) t)
  (k:Qj o name X.env (wk o X.env)=wk o X.env:=by rfl)
  (l:((x2 F' (i2 (e::es) X.env)).all (λx=>!x.1)&&(Ni F' (Jp [] X.env)).all (λx=>x.1.isSome)
   && cc ((e::es).length+([]:List KX).length+(if ([]:List KX).isEmpty then 0 else 1)<30))=b6:=by rfl)
  (m:(apos.endLine==F'.line)=b6:=by rfl) (hs:i2 (e::es) X.env=(cK,wk e X.env)::i2 es X.env:=by rfl) (n:(x2 F' (i2 es X.env)).any (·.1)=cK:=by rfl) :
  PE X (.Call (.Attribute o name apos) (e::es) [] F') (UU X.K T r to t):=by
 intro a s σ H Q I h;show Yc k l m rfl (Hu (ho a s σ H _ I h) λv s1 p=>?_);have⟨x,q,b,c,u,w⟩:=p;have⟨y,z⟩:=nQ b c u;show⟨T,id,f,slot,g,y,z,?_⟩;have d:=j F' a s1 σ q _ b w;rw[hs]at d ⊢;show wh (by change(cK||(x2 F' (i2 es X.env)).any (·.1))=cK;rw[n]<;>rfl) (KC ?_);show Hu d λus s2 ⟨vs,A,B,C,D⟩=>i a s2 σ A x vs v us Q B c C D
end
abbrev Pq(X:Cx)(id:String)(r:V->List V->Hp->VK->Prop):Prop :=
 ∀(a:List (hA×Obj)) (s:gs) (σ:St) (H:Hp) (x:V) (xs:List V) (v:dV) (us:List dV) (Q:VK),Inv X a σ H s->RelV x v->Vals xs us->r x xs H Q ->
  et (hH X.prog X.w) X.A (MK (.builtin id) (v::us)) (EP X a σ Q) X.xe s
theorem Vals.one:∀{x:V}{us:List dV},Vals [x] us->∃u,us=[u]/\RelV x u
 |_,_,.cons r .nil=>⟨_,rfl,r⟩
theorem Vals.zero:∀{us:List dV},Vals [] us->us=[]
 |_,.nil=>rfl
def Vals.dropLast(h:Vals xs us):Vals xs.dropLast us.dropLast:=by
 induction h with
 |nil=>show .nil
 |cons r t a =>
  cases t with
  |nil=>show .nil
  |cons q t'=>show .cons r a
theorem Vals.eraseIdx:∀{xs:List V}{us:List dV} (i:Nat),Vals xs us->Vals (xs.eraseIdx i) (us.eraseIdx i)
 |_,_,_,.nil=>.nil
 |_,_,0,.cons _ t=>t
 |_,_,i+1,.cons r t=>.cons r (Vals.eraseIdx i t)
def Vals.reverse(h:Vals xs us):Vals xs.reverse us.reverse:=by
 induction h with
 |nil=>show .nil
 |cons r t a=>rw[QQ,QQ];show Vals.append a (.cons r .nil)
def qX(l:List α):l.eraseIdx (l.length - 1)=l.dropLast:=by
 induction l with
 |nil=>rfl
 |cons a r c =>
  cases r with
  |nil=>rfl
  |cons b r =>
   have e:(a::b::r).length - 1=((b::r).length - 1)+1:=by
    have d:(a::b::r).length=r.length+2:=rfl;have f:(b::r).length=r.length+1:=rfl;lia
   rw[e,Rg,c]
   all_goals rfl
theorem mn:∀(l:List α) (i:Nat),(l.eraseIdx i).length<=l.length
 |[],_=>ix _
 |_::_,0=>KY _
 |_::r,i+1=>Nat.succ_le_succ (mn r i)
section
def Inv.iY{b its':List dV}(I:Inv X a σ H s)(d:H l=bD (.lst xs))
  (e:s.heap.get? l=bD {cls:=.type "list",data:=.seq b.toArray n}) (g:f b.toArray=its'.toArray) (h:Vals c its') (hz:c.length<=df) :
  Inv X a σ (upd H l (.lst c)) {s with heap:=s.heap.update l (nH f),toks:=t' }:=by
 have q:=PySem.IsL.update e f;rw[g]at q;show I.write (x:=l) (e:=l) (by rw[d];show trivial) (.inl rfl) (λk u i j=>(LZ s.heap (nH f) (rz i)).trans j) ⟨_,q⟩ ?_;show⟨hz,its',_,h,q⟩
def Inv.GY(I:Inv X a σ H s)(d:Vals b c)(hz:b.length<=df):
  Inv X a σ (upd H s.heap.objs.size (.lst b)) {s with heap:=s.heap.push {cls:=.type "list",data:=.seq c.toArray},toks:=t' } :=
 I.laid (λ_ _ q=>c4 _ q) (ix _) ⟨hz,c,0,d,fx _ rfl⟩
def Inv.fresh(I:Inv X a σ H s):H s.heap.objs.size=cb:=I.Hr.fresh (ix _)
def Inv.zM(I:Inv X b σ H s)(c:H l=bD (.lst xs)):xs.length<=df/\∃(a:List dV) (n:Nat),Vals xs a/\xs.length=a.length/\s.heap.get? l=bD {cls:=.type "list",data:=.seq a.toArray n}:=by
 have⟨z,a,n,r,e⟩:=I.Hr l _ c;show⟨z,a,n,r,r.length,e⟩
def wy(h:n<=df):Kc n=cK:=by
 unfold Kc;show Z8 ⋯
end
section
abbrev zN:V->List V->Hp->VK->Prop:=λx vs H Q=>∃l xs y,x=.ref l/\vs=[y]/\H l=bD (.lst xs)/\xs.length<df/\Q .Hs (upd H l (.lst (xs++[y])))
def mq:Pq X "list.append" zN:=by
 intro a s σ H x vs v us Q I d rv h;have⟨l,xs,y,rfl,rfl,b,hz,q⟩:=h;cases d;have⟨u,rfl,f⟩:=rv.one;have⟨z,c,n,r,hl,e⟩:=I.zM b;show UD F.slot_list_append ⟨_,e,rfl⟩ F.entry_list_append (F.args_list_append_2 _ _) (PySem.list_append l c.toArray n u (by rw[hE];lia)) ⟨e,?_⟩;show⟨.Hs,_,I.iY (its':=c++[u]) b e (by simp) (r.append (.cons f .nil)) ?_,rfl,q⟩;rw[i0,Mu];lia
abbrev GZ:V->List V->Hp->VK->Prop:=λx vs H Q=>∃l xs y,x=.ref l/\vs=[]/\H l=bD (.lst xs)/\xs[xs.length - 1]?=bD y/\Q y (upd H l (.lst xs.dropLast))
def CT:Pq X "list.pop" GZ:=by
 intro b s σ H x vs v us Q I d rv h;have⟨l,xs,y,rfl,rfl,c,f,q⟩:=h;cases d;have g:=rv.zero;subst g;have⟨z,a,n,r,hl,e⟩:=I.zM c;have⟨u,i,j⟩:=r.get f;have k:a.toArray[a.toArray.size - 1]?=bD u:=by
  change a.toArray[a.length - 1]?=bD u;rw[<-qs,<-hl];show i
 show UD Zq ⟨_,e,rfl⟩ Y7 (F.args_list_pop_1 _) (MeetsSeq.list_pop_last l a.toArray n u k (by rw[hE];lia)) ⟨e,?_⟩;show⟨y,_,I.iY (its':=a.dropLast) c e ?_ r.dropLast ?_,j,q⟩
 .change a.toArray.eraseIdxIfInBounds (a.toArray.size - 1)=a.dropLast.toArray;rw[hE,T',qX]
 .rw[List.length_dropLast];lia
abbrev CU:V->List V->Hp->VK->Prop:=λx vs H Q=>∃l xs i k y,x=.ref l/\vs=[.int i]/\H l=bD (.lst xs)/\-(2 ^ 63)<=i/\i<2 ^ 63/\V0 i xs.length=bD k/\xs[k]?=bD y/\Q y (upd H l (.lst (xs.eraseIdx k)))
def wz:Pq X "list.pop" CU:=by
 intro b s σ H x vs v us Q I d rv h;have⟨l,xs,i,k,y,rfl,rfl,c,f,g,hk,j,q⟩:=h;cases d;have⟨u,rfl,m⟩:=rv.one;have⟨t,rfl⟩:=m;have⟨z,a,n,r,hl,e⟩:=I.zM c;have⟨w,o,p⟩:=r.get j;show UD Zq ⟨_,e,rfl⟩ Y7 (F.args_list_pop_2 _ _)
  (MeetsSeq.list_pop_at l a.toArray n i t k w (fitsIndex_both f g) (by rw[hE,<-hl];show hk) (by rw[<-qs];show o) (by rw[hE];lia)) ⟨e,?_⟩
 show⟨y,_,I.iY (its':=a.eraseIdx k) c e ?_ (r.eraseIdx k) ?_,p,q⟩
 .change a.toArray.eraseIdxIfInBounds k=(a.eraseIdx k).toArray;rw[T']
 .have:=mn xs k;lia
end
section
set_option maxRecDepth 100000 in
end
section
end
end L2
namespace S9
open PySem PySem.W PySem.Calls PyProof.Rows
def jK:∀(ns:List Int) (vs:List dV),WellAll P h vs (ns.map ZK)->Yp vs ns:=by
 intro ns;induction ns with
 |nil =>
  intro vs w;rw[JL]at w;cases w;show .nil
 |cons n ns c =>
  intro vs w;rw[eh]at w;cases w with
  |cons a b =>
   cases a;show .cons _ _ (c _ b)
def uQ{l:OpenLaw}(i:l.most=bD n)
  (f:l.row.toRowW.claim.pre args=b6) (j:WellAll P h vals args) :
  ∃a vs ns,vals=[kj a]/\args=[WData.list (ns.map ZK)]/\h.get? a=bD {cls:=.type "list",data:=.seq vs.toArray}/\Yp vs ns/\ns.length<=n:=by
 have k:WShape.hasAll [] args [.list .int]=b6:=(pre_splitW f).1;have g:l.pre.holds [] {args:=args}=b6:=(pre_splitW f).2;have⟨d,r,rfl,m,o⟩:=hasAllW_cons k;obtain rfl:=hasAllW_nil o;have⟨xs,rfl,p⟩:=hasW_list m;have⟨ns,rfl⟩:=items_int p;have b:ns.length<=n:=by
  unfold OpenLaw.pre at g;have c:(WTm.not (.lt (.lit (.int (n:Int))) (.len (.arg 0)))).holds [] {args:=[.list (ns.map .int)]}=b6:=by
   have c:=(holds_andW g).1;rw[i]at c;show c
  have e:=condW_of c (w_not (w_lt w_lit (w_len_list (w_arg rfl))));rw[c2]at e;show Nat.le_of_not_lt λq=>?_;have s:(n:Int)<((ns.length:Nat):Int):=by lia
  first
   |(rw[Z9 s]at e;show absurd e (by decide))
   |(simp at e;lia)
 cases j with
 |cons t u =>
  cases u;cases t with
  |list ho v=>show⟨_,_,ns,rfl,rfl,ho,jK ns _ v,b⟩
def uR(l:OpenLaw)(args:List WData):l.row.toRowW.claim.post args (.bool b6) args=b6 :=
 postW_of (r:=l.row.toRowW) (X:=(b6==b6))
  (show Zk [] (.bool b6) .bool=b6 by first|rfl|decide|simp[Zk,WShape.arms,WShape.armsAll])
  (show(WTm.eq .res (.lit (.bool b6))).value [] {args:=args,res:=bD (.bool b6),after:=args}=bD (.bool (b6==b6)) from w_eq_bool (w_res rfl) w_lit) rfl
def pk{l:OpenLaw}
  (p:l.most=bD n) (s:d.params.defaults=[])
  (MK:∀(w:HL) (s₀ b:gs) (mg j:Str->Option dV) (fa:hA) (o:Obj) (k i c:dV) (a:hA) (vs:List dV) (ns:List Int),
   Ground q e [] t w s₀ mg j b.heap->u w b.heap ->
   b.heap.get? fa=bD o->o.data=.func (docDef d.name d.params d.body d.scope k i c)->b.heap.CodeRec i d.name->mg d.name=bD (.ref fa) ->
   b.heap.get? a=bD {cls:=.type "list",data:=.seq vs.toArray}->Yp vs ns->ns.length<=n->b.gens=#[] ->
   Qf (hH l.prog w) Sj (.call (.ref fa) ⟨[.ref a],[]⟩) (λr s'=>r=.ok (.ret (.bool b6))/\OldK b.heap s'.heap/\s'.os=b.os/\SH s'.gens) b) :
  WalkO q e t u l.row.toRowW d [] (λf vs=>PySem.call f vs):=by
 intro w s₀ b mg j G Y fa o k i c v kV ho x y m z A args vals as B O Q C T;obtain rfl:v=.none:=Dflts.none m s;obtain rfl:kV=.none:=Dflts.noKw m;have⟨a,vs,ns,rfl,rfl,D,g,h⟩:=uQ p B C;show enter_call (Sh (MK w s₀ b mg j fa o k i c a vs ns G Y ho (fd_plain x) y z D g h A) λr s' H=>?_);have⟨rfl,I,J,L⟩:=H;show⟨.inl ⟨.bool b6,.bool b6,[],rfl,λ_=>rfl,.bool b6,uR l _,λ_=>⟨ZH,λ_ N=>(nomatch N)⟩⟩,I,J,L⟩
section
end
end S9
namespace L2
open PySem PySem.Spec PyProof.Rows
theorem mr:∀{vs:List dV}{ns:List Int},Yp vs ns->Vals (ns.map V.int) vs
 |_,_,.nil=>.nil
 |_,_,.cons n t h=>.cons ⟨t,rfl⟩ (mr h)
abbrev CV(H:Hp):Prop:=∀b,H b=cb\/∃o xs,H b=bD (.Ir o (.lst xs))
def wA{K:PySem.W.Frag}
  (y:K.In c.heap) (A:c.heap.Ns H8 mg) (f:c.heap.Ns Y2 B) (O:∀x:Str,x≠"__name__"->B x=vr x) (Q:c.heap.NoLimit) (T:c.gens=#[])
  (l:c.heap.get? a=bD {cls:=.type "list",data:=.seq vs.toArray}) (C:Yp vs ns) (hl:ns.length<=df) (Y:fJ k Sj)
  (F:∀base:IZ,K.In base->base.Ns H8 mg->jJ P w K mg base CX k fa fd [x] sp) (N':∀(s:gs) (u:dV),Yl s fd ⟨[u],[]⟩ [(x,u)])
  (JD:∀H:Hp,CV H->HX K H a (ns.map V.int)->sp [.ref a] H (λv _=>v=.bl b6) λ_ _ _=>False)
  (QT:∀H e s',CX [] H c (λ_ _ _=>False) e s'->False) :
  Qf (hH P w) Sj (.call (.ref fa) ⟨[.ref a],[]⟩) (λr s'=>r=.ok (.ret (.bool b6))/\OldK c.heap s'.heap/\s'.os=c.os/\SH s'.gens) c:=by
 have rv:=mr C;have QU:=C.length;have g:∀H:Hp,CV H->HX K H a (ns.map V.int)->IE P w H c.heap->(∀b,H b≠cb->b=a)->(H a≠cb->K.lookup a=cb) ->
   Qf (hH P w) Sj (.call (.ref fa) ⟨[.ref a],[]⟩) (λr s'=>r=.ok (.ret (.bool b6))/\OldK c.heap s'.heap/\s'.os=c.os/\SH s'.gens) c:=by
  intro H D hS G I hK;have jZ:∀{b:hA} {o:Obj},c.heap.get? b=bD o->H b=cb->(nB c.heap H).get? b=bD o:=λe n=>v5 e n;have N5:∀{b:hA} {o:Obj} {es:Array DictEntry} {ep:Nat},c.heap.get? b=bD o->o.data=.dict es ep->H b=cb:=λ{b o es ep} e d=>by
   cases q:H b with
   |none=>rfl
   |some u =>
    have t:b=a:=I b (by rw[q];simp);subst t;rw[l]at e;cases e;have d':Data.seq vs.toArray _=Data.dict es ep:=d;cases d'
  have p:∀{b:hA} {m:Str->Option dV},c.heap.Ns b m->(nB c.heap H).Ns b m:=λ{b m} ⟨o,es,ep,e,d,r⟩=>⟨o,es,ep,jZ e (N5 e d),d,r⟩
  have J:K.In (nB c.heap H):=λb o e=>jZ (y b o e) (by
   cases q:H b with
   |none=>rfl
   |some u =>
    have t:b=a:=I b (by rw[q];simp);subst t;rw[hK (by rw[q];simp)]at e;cases e)
  have hM:Mod K mg (nB c.heap H):=⟨J,p A,⟨B,p f,O⟩,let ⟨mc,h1,h2⟩:=Q;⟨mc,p h1,h2⟩⟩
  have e0:zE P w K mg (nB c.heap H) Sj [] c H:=⟨rfl,hM,λb o e=>zt e,Xp (uK _ _),trivial,λb f=>absurd (show b∈([]:List hA) from f) (by simp),G,.of_eq T⟩
  show Sh ((F _ J (p A)).run Sj [] c H ⟨[.ref a],[]⟩ [.ref a] [.ref a] _ _ Y e0 (N' c (.ref a)) (.cons rfl .nil) (JD H D hS)) λr s' h=>?_;cases r with
  |error e=>show(QT H e s' h).elim
  |ok fl =>
   cases fl with
   |ret u =>
    have⟨v,H',os,i,L,QV,r',q⟩:=h;have q':v=.bl b6:=q;subst q';obtain rfl:u=LH b6:=r';show⟨rfl,OldK.of_keep λb o e=>?_,os,i⟩;cases q:H b with
    |none=>show L.keep b o e q (by intro z;show absurd (show b∈([]:List hA) from z) (by simp)) (by simp)
    |some u =>
     rcases D b with z|⟨ob,xs,z⟩
     .rw[q]at z;cases z
     .have z2:=L.Jm b ob _ z;obtain⟨N,_⟩:=G b _ z;obtain⟨e2,_⟩:=QV b _ z2;rw[e]at N;cases N;show e2
   |_=>show MF h
 cases hk:K.lookup a with
 |some o =>
  have e:=y a o hk;rw[l]at e;cases e;show g (λ_=>cb) (λ_=>.inl rfl) (.inr ⟨_,vs.toArray,_,hk,rfl,rfl,rfl,by rw[hE,QU];show hl,by simpa using rv⟩) (λb u z=>by have j:(cb:Option HO)=bD u:=z;cases j) (λb z=>absurd rfl z) λz=>absurd rfl z
 |none =>
  show g (λb=>if b=a then bD (.Ir {cls:=.type "list",data:=.seq vs.toArray} (.lst (ns.map V.int))) else cb) (λb=>?_) (.inl (.inr ⟨{cls:=.type "list",data:=.seq vs.toArray},Z6 rfl⟩)) (λb u z=>?_) (λb z=>?_) λ_=>hk
  .by_cases f:b=a
   .show .inr ⟨_,_,Z6 f⟩
   .show .inl (Z7 f)
  .by_cases f:b=a
   .have j:=(Z6 f).symm.trans z;cases j;subst f;show⟨l,by rw[c2];show hl,vs,_,rv,l⟩
   .have j:=(Z7 f).symm.trans z;cases j
  .by_cases f:b=a
   .show f
   .show absurd (Z7 f) z
def zO{l:PySem.W.OpenLaw}{K:Yi->PySem.W.Frag}{CX:HL->Nq}{sp:HL->Sp}
  (r:l.most=bD n) (t:n<=df) (y:d.params.defaults=[]) (z:fJ k Sj)
  (A:∀(w:HL) (h:IZ),B w h->(K w.params).In h)
  (F:∀(w:HL) (mg:Str->Option dV) (fa:hA) (h:IZ),(K w.params).In h->h.Ns H8 mg->mg d.name=bD (.ref fa) ->
   ∃j:QY,(∀(s:gs) (u:dV),Yl s j ⟨[u],[]⟩ [(x,u)]) /\
    ∀base:IZ,(K w.params).In base->base.Ns H8 mg->jJ l.prog w (K w.params) mg base (CX w) k fa j [x] (sp w))
  (C:∀(w:HL) (H:Hp) (a:hA) (ns:List Int),ns.length<=n->CV H->HX (K w.params) H a (ns.map V.int)->sp w [.ref a] H (λv _=>v=.bl b6) λ_ _ _=>False)
  (D:∀(w:HL) (H:Hp) (s:gs) (e:dV) (s':gs),CX w [] H s (λ_ _ _=>False) e s'->False) :
  PySem.W.WalkO q m XP B l.row.toRowW d [] (λf vs=>PySem.call f vs):=by
 show S9.pk r y λw s₀ I mg mb fa o pm cd J a vs ns G Y ho hd HW L N i c O=>?_;have p:=A w _ Y;have⟨j,Q,hF⟩:=F w mg fa _ p G.T.g L;show wA p G.T.g G.T.b G.T.builtins G.T.nolimit O N i (u6 c t) z hF Q (λH hO hS=>C w H a ns c hO hS) λH e s'=>D w H I e s'
abbrev f9(s:ME):Arguments:=match s with
 |.FunctionDef _ a _ _ _ _ _ _ _ _=>a
 |_=>{posonlyargs:=[],args:=[],vararg:=cb,kwonlyargs:=[],kw_defaults:=[],kwarg:=cb,defaults:=[]}
abbrev cV(s:ME):List ME:=match s with
 |.FunctionDef _ _ b _ _ _ _ _ _ _=>b
 |_=>[]
abbrev aU(s:ME):L5:=match s with
 |.FunctionDef _ _ _ _ _ _ a _ _ _=>a
 |_=>{kind:=.function,names:=[],isGenerator:=cK,isCoroutine:=cK}
@[reducible]def Ko:Nq:=λ_ _ _ _ _ _=>False
@[reducible]def E0:XK:=λ_ _ _=>False
def wB:Passes Ko X E0:=λ_ _ _ _ _ _ _ h=>h.elim
structure L_(K:PySem.W.Frag)(x qual:Str)(st:ME)(f:hA)(fd:QY):Prop where
 ex:∃(oc:dV) (od:Option hA) (kV doc pm:dV) (an:Option hA) (IK ct:dV) (N6:Array (Option dV)),
  fd=PySem.W.fnOf x qual (f9 st) (cV st) (aU st) .none kV doc pm an IK ct/\K.lookup f=bD ⟨oc,od,.func fd,N6⟩/\PySem.W.codeIn K IK qual=b6
 kp:PySem.W.keepIn K (.ref f)=b6
section
variable{P:D9}{w:HL}{K:PySem.W.Frag}{mg:Str->Option dV}{base:IZ}
def L_.ok{st:ME}(F:L_ K x a st f d)(S:eC N ps (aU st))(c:∀vs H Q E,sp vs H Q E->vs.length=ps.length)
  (e:∀(b:dV) (A:MN) (outer:List Env) (s:gs) (H:Hp) (vs:List V) (Q:VK) (E:XK),fJ k (A.deeper (SG a (aU st) s.heap.objs.size f b))->sp vs H Q E ->
   ∃t,IJ (pf Ko P w K mg base N a (aU st) f b A outer s H E).Nn (cV st) t/\t {nx:=λ_ H'=>Q .Hs H',rt:=Q} (start N vs) H):jJ P w K mg base Ko (k+1) f d ps sp:=by
 have⟨m,n,kV,g,o,p,b,ct,r,rfl,lk,i⟩:=F.ex;show E5 lk i S c λA outer s H vs Q E j l=>?_;have⟨t,h,q⟩:=e b A outer s H vs Q E j l;show⟨t,h.Nn,q⟩
def CW{st:ME}{kV b e d ct:dV}(l:K.lookup f=bD ⟨h,i,.func (PySem.W.fnOf x a (f9 st) (cV st) (aU st) .none kV b e g d ct),j⟩)
  (c:PySem.W.codeIn K d a=b6) (k:PySem.W.keepIn K (.ref f)=b6):L_ K x a st f (PySem.W.fnOf x a (f9 st) (cV st) (aU st) .none kV b e g d ct):=⟨⟨h,i,kV,b,e,g,d,ct,j,rfl,l,c⟩,k⟩
end
section
end
abbrev zP(H H':Hp):Prop:=∀b o,H b=bD o->H' b=bD o
section
variable{κ:Type}[DecidableEq κ]
abbrev de(kvs:List (κ×V))(k:κ):Option V:=(kvs.find? λkv=>cc (kv.1=k)).map (·.2)
abbrev putK(kvs:List (κ×V))(k:κ)(v:V):List (κ×V) :=
 if (kvs.any λkv=>cc (kv.1=k))=b6 then kvs.map (λkv=>if kv.1=k then(kv.1,v) else kv) else kvs++[(k,v)]
abbrev ip(kvs:List (κ×V))(k:κ):List (κ×V):=kvs.filter λkv=>cc (kv.1≠k)
def dP{p:κ×V}{k:κ}(e:p.1=k):de (p::r) k=bD p.2:=by simp[de,Mh,e]
def dQ{p:κ×V}{k:κ}(e:¬p.1=k):de (p::r) k=de r k:=by simp[de,Mh,e]
theorem iq(k:κ):∀kvs:List (κ×V),(kvs.any λkv=>cc (kv.1=k))=(de kvs k).isSome
 |[]=>rfl
 |p::r=>by
  rw[Tj];by_cases e:p.1=k
  .simp only[dP e,Z9 e,Bool.true_or,Option.isSome_some]
  .rw[dQ e,Z8 e,Bool.false_or];show iq k r
def jv(kvs:List (κ×V))(k:κ)(v:V):(putK kvs k v).length<=kvs.length+1:=by
 unfold putK;split
 .rw[c2];lia
 .rw[i0,ke,UJ];lia
def wC{k:κ}(v:V)(h:de kvs k=cb):putK kvs k v=kvs++[(k,v)]:=by
 unfold putK;rw[iq,h];show Z7 (by decide)
def iV.eM(r:iV o u):o.isSome=u.isSome:=by
 cases o with
 |none=>cases u with
  |none=>rfl
  |some _=>show(show False from r).elim
 |some _=>cases u with
  |none=>show(show False from r).elim
  |some _=>rfl
def iV.getD(r:iV o u)(a:RelV d d'):RelV (o.getD d) (u.getD d'):=by
 cases o with
 |none=>cases u with
  |none=>show a
  |some _=>show(show False from r).elim
 |some _=>cases u with
  |none=>show(show False from r).elim
  |some _=>show r
def KV.val(r:KV kvs vs)(k:κ):iV (de kvs k) (TF vs k):=by
 unfold KV at r;induction r with
 |nil=>show Tt
 |@cons p q ps a h t f =>
  have⟨d,g⟩:=h;by_cases e:p.1=k
  .have c:q.1=k:=d.symm.trans e;have b:TF (q::a) k=bD q.2:=by simp[TF,Mh,c]
   rw[dP e,b];show g
  .have c:¬q.1=k:=λz=>e (d.trans z);have b:TF (q::a) k=TF a k:=by simp[TF,Mh,c]
   rw[dQ e,b];show f
def KV.any(r:KV kvs vs)(k:κ):(kvs.any λkv=>cc (kv.1=k))=vs.any λkv=>cc (kv.1=k):=by
 unfold KV at r;induction r with
 |nil=>rfl
 |cons h t a=>rw[Tj,Tj,a,h.1]
def KV.CY(r:KV kvs vs)(k:κ)(b:RelV y u):
  KV (kvs.map λkv=>if kv.1=k then(kv.1,y) else kv) (vs.map λkv=>if kv.1=k then(kv.1,u) else kv):=by
 unfold KV at r ⊢;induction r with
 |nil=>show .nil
 |@cons p q ps f h t c =>
  rw[eh,eh];show .cons ?_ c;have⟨a,d⟩:=h;by_cases e:p.1=k
  .rw[Z6 e,Z6 (a.symm.trans e)];show⟨a,b⟩
  .rw[Z7 e,Z7 (λz=>e (a.trans z))];show⟨a,d⟩
def KV.put(r:KV kvs vs)(k:κ)(a:RelV y u):KV (putK kvs k y) (stored vs k u):=by
 unfold putK stored;rw[r.any k];by_cases e:(vs.any λkv=>cc (kv.1=k))=b6
 .rw[Z6 e,Z6 e];show r.CY k a
 .rw[Z7 e,Z7 e];show Paired.snoc r ⟨rfl,a⟩
def KV.drop(r:KV kvs vs)(k:κ):KV (ip kvs k) (without vs k):=by
 unfold KV at r ⊢;unfold ip without;induction r with
 |nil=>show .nil
 |@cons p q ps i h t d =>
  have⟨c,f⟩:=h;rw[p5,p5];by_cases e:p.1=k
  .have a:¬cc (p.1≠k)=b6:=by simp[e]
   have b:¬cc (q.1≠k)=b6:=by simp[c.symm.trans e]
   rw[Z7 a,Z7 b];show d
  .have g:¬q.1=k:=λz=>e (c.trans z);have a:cc (p.1≠k)=b6:=by simp[e]
   have b:cc (q.1≠k)=b6:=by simp[g]
   rw[Z6 a,Z6 b];show .cons ⟨c,f⟩ d
def KV.length(r:KV kvs vs):kvs.length=vs.length:=Paired.length r
def wD(kvs:List (κ×V))(k:κ):(ip kvs k).length<=kvs.length:=ki _ _
end
def km(r:RelV (kV k) u):(aO P w).is k u=b6:=by
 cases k with
 |inl i=>have⟨t,e⟩:=(show ∃t,u=Ws i t from r);subst e;show o_ P w i t
 |inr x=>have⟨t,e⟩:=(show ∃t,u=tj x t from r);subst e;show pb P w x t
theorem mw:∀{ks:List Key}{us:List dV},Vals (ks.map kV) us->ItemsAre (aO P w) ks us
 |[],_,r=>by rw[JL]at r;cases r;show .nil
 |k::ks,_,r=>by
  rw[eh]at r;cases r with
  |cons h t=>show .cons (km h) (mw t)
@[reducible]def KT(H:Hp):List (List Key×V)->List (List Key×hA×dV)->Prop:=Paired λp q=>p.1=q.1/\H q.2.1=bD (.tup (p.1.map kV))/\RelV p.2 q.2.2
def KT.val(r:KT H kvs xs)(k:List Key):iV (de kvs k) ((Xn xs k).map (·.2)):=by
 induction r with
 |nil=>show Tt
 |@cons p q ps a h t f =>
  obtain⟨d,_,g⟩:=h;by_cases e:p.1=k
  .have c:q.1=k:=d.symm.trans e;have b:Xn (q::a) k=bD q.2:=by simp[Xn,Mh,c]
   rw[dP e,b];show g
  .have c:¬q.1=k:=λz=>e (d.trans z);have b:Xn (q::a) k=Xn a k:=by simp[Xn,Mh,c]
   rw[dQ e,b];show f
def KT.CY(r:KT H kvs xs)(k:List Key)(c:RelV y u):
  KT H (kvs.map λkv=>if kv.1=k then(kv.1,y) else kv) (xs.map (putAt k u)):=by
 induction r with
 |nil=>show .nil
 |@cons p q ps g h t d =>
  rw[eh,eh];show .cons ?_ d;have⟨a,b,f⟩:=h;unfold putAt;by_cases e:p.1=k
  .rw[Z6 e,Z6 (a.symm.trans e)];show⟨a,b,c⟩
  .rw[Z7 e,Z7 (λz=>e (a.trans z))];show⟨a,b,f⟩
def KT.put(r:KT H kvs xs)(k:List Key)(c:H b=bD (.tup (k.map kV)))(a:RelV y u):
  KT H (putK kvs k y) (storedH xs k b u):=by
 have e:(kvs.any λkv=>cc (kv.1=k))=(Xn xs k).isSome:=by
  rw[iq,(r.val k).eM,Tu]
 unfold putK storedH;rw[e];by_cases q:(Xn xs k).isSome=b6
 .rw[Z6 q,Z6 q];show r.CY k a
 .rw[Z7 q,Z7 q];show Paired.snoc r ⟨rfl,c,a⟩
def KT.keeps(r:KT H kvs xs)(c:∀b a,H b=bD (.tup a)->H' b=bD (.tup a)):KT H' kvs xs :=
 Paired.Cu r λ_ _ z=>⟨z.1,c _ _ z.2.1,z.2.2⟩
section
def BO(b:IE P w H h)(e:Rd H a u):bN P w H h a u:=e.ok b
def kq(b:IE P w H h)(e:Rd H a (.dK kvs)):kvs.length<=df/\(a==Mx)=cK/\∃vs,KV kvs vs/\h.DictOf (aO P w) a vs :=
 show bN P w H h a (.dK kvs) from BO b e
def pq(b:IE P w H h)(e:H a=bD (.dK kvs)):kvs.length<=df/\(a==Mx)=cK/\∃vs,KV kvs vs/\h.DictOf (aO P w) a vs:=kq b (.inl e)
def iZ(b:IE P w H h)(e:H a=bD (.tup (ks.map kV))):(TQ (aO P w)).is h ks a:=by
 obtain⟨_,c,r,o,d,f,n,g⟩:=(show bN P w H h a (.tup (ks.map kV)) from b a _ e)
 show⟨o,c.toArray,n,d,f,g,by simpa using mw r⟩
def ku(b:IE P w H h)(e:Rd H a (.dT kvs)):kvs.length<=df/\(a==Mx)=cK /\
  ∃xs,KT H kvs xs/\h.DictOfH (TQ (aO P w)) a xs:=by
 have⟨z,y,xs,r,o,es,ep,d,f,g,i,j⟩:=(show bN P w H h a (.dT kvs) from BO b e)
 show⟨z,y,xs,r,o,es,ep,d,f,g,i,λx hx=>?_,j⟩;have all:∀{l:List (List Key×V)} {m:List (List Key×hA×dV)},KT H l m->∀x∈m,(TQ (aO P w)).is h x.1 x.2.1:=by
  intro l m q;induction q with
  |nil=>intro x hx;show nomatch hx
  |@cons p q ps n c t k =>
   intro x hx;rcases gj.mp hx with e|hx
   .subst e;show iZ b (by rw[<-c.1];show c.2.1)
   .show k x hx
 show all r x hx
def E_(b:IE P w H h)(e:H a=bD (.dT kvs)):kvs.length<=df/\(a==Mx)=cK /\
  ∃xs,KT H kvs xs/\h.DictOfH (TQ (aO P w)) a xs:=ku b (.inl e)
end
abbrev fh(H:Hp)(a:hA)(y:V)(r:Option V):Prop :=
 (∃kvs k,Rd H a (.dK kvs)/\y=kV k/\r=de kvs k)\/∃kvs k b,Rd H a (.dT kvs)/\y=.ref b/\H b=bD (.tup (k.map kV))/\r=de kvs k
abbrev uS(H:Hp)(a:hA)(y v:V)(H':Hp):Prop :=
 (∃kvs k,H a=bD (.dK kvs)/\y=kV k/\kvs.length<df/\H'=upd H a (.dK (putK kvs k v))) \/
 ∃kvs k b,H a=bD (.dT kvs)/\y=.ref b/\H b=bD (.tup (k.map kV))/\kvs.length<df/\H'=upd H a (.dT (putK kvs k v))
def fh.k{H:Hp}{a:hA}{kvs:List (Key×V)}{k:Key}(e:H a=bD (.dK kvs)):fh H a (kV k) (de kvs k):=.inl ⟨kvs,k,.inl e,rfl,rfl⟩
def uS.k{H:Hp}{a:hA}{kvs:List (Key×V)}{k:Key}{v:V}(e:H a=bD (.dK kvs))(hl:kvs.length<df):uS H a (kV k) v (upd H a (.dK (putK kvs k v))):=.inl ⟨kvs,k,e,rfl,hl,rfl⟩
section
def Inv.big(I:Inv X a σ H s):Mx<s.heap.objs.size:=by
 have h:H8<s.heap.objs.size:=(I.mod.glob.keeps I.bk).lt;show T6 (by decide) h
def uT(r:A.units+1<Kx)(I:Inv X f σ H s)(g:fh H a y (bD v))(q:RelV y u)(h:∀d s',Inv X f σ H s'->RelV v d->Q d s'):
  et (hH X.prog X.w) A (Vk (.ref a) u) Q E s:=by
 rcases g with⟨kvs,k,e,i,l⟩|⟨kvs,k,b,e,i,t,l⟩
 .subst i;have⟨z,x,vs,c,j⟩:=kq I.Hr e;have⟨d,m,n⟩:=iV.some_of (v:=v) (o:=TF vs k) (by rw[l];show c.val k);show wpAny_getItem_of (km q) j.mapOf m (h d _ (I.tok _) n)
 .subst i;cases(show u=kj b from q);have⟨z,x,xs,c,j⟩:=ku I.Hr e;have⟨d,m,n⟩:=iV.some_of (v:=v) (o:=(Xn xs k).map (·.2)) (by rw[l];show c.val k);have⟨p,B,C⟩:=eH.mp m;show wpAny_getItem_heap (Ow r) (iZ I.Hr t) j B ?_;rw[C];show h d _ (I.tok _) n
def Fb(n:A.units+1<Kx)(I:Inv X d σ H s)(g:fh H a y o)(m:RelV y u)(h:∀s',Inv X d σ H s'->Q (.bool o.isSome) s'):
  et (hH X.prog X.w) A (Ll .In u (.ref a)) Q E s:=by
 rcases g with⟨kvs,k,e,f,l⟩|⟨kvs,k,b,e,f,p,l⟩
 .subst f;have⟨z,i,vs,c,j⟩:=kq I.Hr e;show wpAny_in_of (km m) i j.mapOf ?_;rw[<-(c.val k).eM,<-l];show h _ (I.tok _)
 .subst f;cases(show u=kj b from m);have⟨z,i,xs,c,j⟩:=ku I.Hr e;show wpAny_in_heap (Ow n) (iZ I.Hr p) i j ?_;have q:=(c.val k).eM;rw[Tu]at q;rw[<-q,<-l];show h _ (I.tok _)
def sU(n:A.units+1<Kx)(I:Inv X d σ H s)(g:fh H a y o)(m:RelV y u)(h:∀s',Inv X d σ H s'->Q (.bool (!o.isSome)) s'):
  et (hH X.prog X.w) A (Ll .NotIn u (.ref a)) Q E s:=by
 rcases g with⟨kvs,k,e,f,l⟩|⟨kvs,k,b,e,f,p,l⟩
 .subst f;have⟨z,i,vs,c,j⟩:=kq I.Hr e;show wpAny_notIn_of (km m) i j.mapOf ?_;rw[<-(c.val k).eM,<-l];show h _ (I.tok _)
 .subst f;cases(show u=kj b from m);have⟨z,i,xs,c,j⟩:=ku I.Hr e;show wpAny_notIn_heap (Ow n) (iZ I.Hr p) i j ?_;have q:=(c.val k).eM;rw[Tu]at q;rw[<-q,<-l];show h _ (I.tok _)
def nS(I:Inv X c σ H s)(f:NV (H a))(hs:my a s.heap h')(g:∃q,h'.get? a=bD q)(new:bN X.prog X.w (upd H a d) h' a d):
  Inv X c σ (upd H a d) {s with heap:=h',toks:=t' } :=
 I.write (x:=a) (e:=a) f (.inl rfl) (λb q h z=>(hs.2 b h).trans z) g new
def wF(z:kvs.length<=df)(c:(a==Mx)=cK)(b:KV kvs vs)(d:h'.DictOf (aO P w) a vs):
  bN P w H' h' a (.dK kvs):=⟨z,c,vs,b,d⟩
def uU(C:A.units+1<Kx)(I:Inv X f σ H s)(g:uS H a y v H')(t:RelV y u)(rv:RelV v r)(h:∀s',Inv X f σ H' s'->Q () s'):
  et (hH X.prog X.w) A (Sd (.ref a) u r) Q E s:=by
 rcases g with⟨kvs,k,e,m,l,n⟩|⟨kvs,k,b,e,m,x,l,n⟩
 .subst m n;have⟨z,o,vs,d,p⟩:=pq I.Hr e;have hz:vs.length<=df:=by rw[<-d.length];show z
  have hl:(putK kvs k v).length<=df:=by have:=jv kvs k v;lia
  show wpAny_setItem_pairs (hsz:=hz) (km t) p λh' i hs=>h _ ?_;have D:∃q,h'.get? a=bD q:=let ⟨q,_,_,j,_⟩:=i;⟨q,j⟩;show nS I (by rw[e];show Tt) hs D (wF hl o (d.put k rv) i)
 .subst m n;cases(show u=kj b from t);have⟨z,o,xs,d,p⟩:=E_ I.Hr e;have hz:xs.length<=df:=by rw[<-Paired.length d];show z
  have hl:(putK kvs k v).length<=df:=by have:=jv kvs k v;lia
  show wpAny_setItem_heap (hsz:=hz) (Ow C) (iZ I.Hr x) p λh' i hs=>h _ ?_;obtain⟨q,es,ep,j,G,J,L,_,N⟩:=i;show nS I (by rw[e];show Tt) hs ⟨q,j⟩ ⟨hl,o,_,(d.put k x rv).keeps λc O B=>?_,q,es,ep,j,G,J,L,N⟩;rw[ak (EI B e (λz=>nomatch z))];show B
end
section
def Fc(I:Inv X c σ H s)(e:H a=bD (.dK kvs))(f:RelV (kV k) u)(l:de kvs k=bD v)(g:more=[]\/∃x,more=[x])
  (h:∀d s',Inv X c σ (upd H a (.dK (ip kvs k))) s'->RelV v d->Q d s'):et (hH X.prog X.w) A (MK (.builtin "dict.pop") (.ref a::u::more)) Q E s:=by
 have⟨z,n,vs,b,j⟩:=pq I.Hr e;have⟨d,p,r⟩:=iV.some_of (v:=v) (o:=TF vs k) (by rw[<-l];show b.val k);have y:(keyPart u).isSome=b6:=by
  cases k with
  |inl i=>have⟨t,q⟩:=(show ∃t,u=Ws i t from f);subst q;rfl
  |inr x=>have⟨t,q⟩:=(show ∃t,u=tj x t from f);subst q;rfl
 have B:Y3 "dict.pop" ⟨.ref a::u::more,[]⟩:=by
  rcases g with q|⟨x,q⟩
  .subst q;show PySem.F.args_dict_pop_2 _ _
  .subst q;show PySem.F.args_dict_pop_3 _ _ _
 show Sk PySem.F.slot_dict_pop j.typeIs PySem.F.entry_dict_pop B (meets_dict_pop_there (aO X.prog X.w) a (km f) more g y)
  ⟨vs,d,j,by rw[<-b.length];show z,p,λh' m hs=>h d _ ?_ r⟩
 have C:∃q,h'.get? a=bD q:=let ⟨q,_,_,D,_⟩:=m;⟨q,D⟩;show nS I (by rw[e];show Tt) hs C (wF (u6 (wD kvs k) z) n (b.drop k) m)
end
abbrev CZ(i:mh):Prop:=∀a b,Wr i cK a b=operate [a,b] (Vk a b)
def zQ{T id:String}
  (hl:UC (.type T) "__getitem__"=pure (bD (.builtin id))) (hs:CZ a)
  (h:et (hH prog w) A (wk b env) (λo f=>et (hH prog w) A (wk a env) (λi d=>d.TypeIs o T/\et (hH prog w) A (Vk o i) Q E d) E f) E s) :
  et (hH prog w) A (wk (.Subscript b a pos) env) Q E s:=by
 show Y9 (tA h (λo f k=>tA k (λi d e=>?_) λ_ _ x=>x) λ_ _ x=>x);have⟨g,e⟩:=e;unfold Ui;show b5 ?_;rw[getitemInPython_of_ne g.not_modules];show b5 (SS g hl ?_);have c:et (hH prog w) A (Wr a cK o i) (λr j=>et (hH prog w) A (letTemporaryGo b o r >>= λ_=>pure r) Q E j) E d:=by
  rw[hs o i];show wpAny_operating (tA e (λr j l=>b5 (wpAny_letTemporaryGo (dt l))) λ_ _ x=>x)
 first
  |show dt (b5 c)
  |show b5 (dt (b5 c))
  |show b5 c
def pv(I:Inv X d σ H s)(g:fh H a y o):s.TypeIs (.ref a) "dict":=by
 rcases g with⟨kvs,k,e,_,_⟩|⟨kvs,k,b,e,_,_,_⟩
 .obtain⟨_,_,vs,_,c⟩:=kq I.Hr e;show c.typeIs
 .obtain⟨_,_,xs,_,c⟩:=ku I.Hr e;show c.typeIs
abbrev Fd(c d:TE):TE:=λσ H Q=>c σ H λx e=>d σ e λy b=>∃a v,x=.ref a/\fh b a y (bD v)/\Q v b
abbrev G3(c d:TE):TE:=λσ H Q=>c σ H λy e=>d σ e λx b=>∃a o,x=.ref a/\fh b a y o/\Q (.bl o.isSome) b
abbrev zR(c d:TE):TE:=λσ H Q=>c σ H λy e=>d σ e λx b=>∃a o,x=.ref a/\fh b a y o/\Q (.bl (!o.isSome)) b
section
def zS(d:X.A.units+1<Kx)(ho:PE X o e)(f:PE X i j)(hs:CZ i):PE X (.Subscript o i pos) (Fd e j):=by
 intro b s σ H Q I h;show zQ PySem.F.slot_dict_getitem.lookup hs (Hu (ho b s σ H _ I h) λu s1 ⟨x,k,l,m,n⟩=>Hu (f b s1 σ k _ l n) λB s2 p=>?_);have⟨y,q,c,r,a,v,ex,g,t⟩:=p;subst ex;obtain rfl:u=kj a:=m;show⟨pv c g,uT d c g r λC s3 w z=>⟨v,q,w,z,t⟩⟩
def C0(c:X.A.units+1<Kx)(d:PE X i e)(ho:PE X o f):PC X .In i o (G3 e f):=by
 intro b s σ H Q I h;show Hu (d b s σ H _ I h) λz s1 ⟨y,j,k,l,m⟩=>Hu (ho b s1 σ j _ k m) λu s2 n=>?_;have⟨x,p,q,r,a,t,ex,g,v⟩:=n;subst ex;obtain rfl:u=kj a:=r;show Fb c q g l λs3 w=>⟨.bl t.isSome,p,w,rfl,v⟩
def uV(c:X.A.units+1<Kx)(d:PE X i e)(ho:PE X o f):PC X .NotIn i o (zR e f):=by
 intro b s σ H Q I h;show Hu (d b s σ H _ I h) λz s1 ⟨y,j,k,l,m⟩=>Hu (ho b s1 σ j _ k m) λu s2 n=>?_;have⟨x,p,q,r,a,t,ex,g,v⟩:=n;subst ex;obtain rfl:u=kj a:=r;show sU c q g l λs3 w=>⟨.bl (!t.isSome),p,w,rfl,v⟩
end
def wG(h:IZ)(a:Mx<h.objs.size):bN P w H (h.push {cls:=.type "dict",data:=.dict #[]}) h.objs.size (.dK []) :=
 ⟨i8 _,beq_eq_false_iff_ne.mpr (rz (hZ a)),[],.nil,ZY h⟩
abbrev C1:TE:=λ_ H Q=>∀p,H p=cb->Q (.ref p) (upd H p (.dK []))
section
def pw:PE X (.Dict [] [] pos) C1:=λb s σ H Q I h =>
 wpAny_Dict_empty ⟨.ref s.heap.objs.size,_,I.laid (a:=s.heap.objs.size) (o:=.dK []) (t':=s.toks) (λ_ _ q=>c4 _ q) (ix _) (wG s.heap I.big),rfl,h _ (I.Hr.fresh (ix _))⟩
end
structure M1(X:Cx)(o:mh)(m:Str)(apos:Pos)(e:mh)(F':Pos):Prop where
 base:Qj o m X.env (wk o X.env)=wk o X.env
 KU:((x2 F' (i2 [e] X.env)).all (λx=>!x.1)&&(Ni F' (Jp [] X.env)).all (λx=>x.1.isSome)
  && cc (([e]:List mh).length+([]:List KX).length+(if ([]:List KX).isEmpty then 0 else 1)<30))=b6
 line:(apos.endLine==F'.line)=b6
 trees:x2 F' (i2 [e] X.env)=[(cK,wk e X.env)]
structure M2(X:Cx)(o:mh)(m:Str)(apos:Pos)(e f:mh)(F':Pos):Prop where
 base:Qj o m X.env (wk o X.env)=wk o X.env
 KU:((x2 F' (i2 [e,f] X.env)).all (λx=>!x.1)&&(Ni F' (Jp [] X.env)).all (λx=>x.1.isSome)
  && cc (([e,f]:List mh).length+([]:List KX).length+(if ([]:List KX).isEmpty then 0 else 1)<30))=b6
 line:(apos.endLine==F'.line)=b6
 trees:x2 F' (i2 [e,f] X.env)=[(cK,wk e X.env),(cK,wk f X.env)]
abbrev QZ(H:Hp)(a:hA):Prop:=(∃kvs,Rd H a (.dK kvs))\/∃kvs,Rd H a (.dT kvs)
def wH(I:Inv X j σ H s)(d:QZ H a):
  s.TypeIs (.ref a) "dict"/\(∀b,kj a=.ref b->∃c,s.heap.get? b=bD c/\c.dict=cb)/\(a==Mx)=cK:=by
 rcases d with⟨kvs,e⟩|⟨kvs,e⟩
 .obtain⟨_,g,vs,_,f⟩:=kq I.Hr e;show⟨f.typeIs,λb q=>?_,g⟩;cases q;obtain⟨c,_,_,h,i,_⟩:=f;show⟨c,h,i.2.1⟩
 .obtain⟨_,g,xs,_,f⟩:=ku I.Hr e;show⟨f.typeIs,λb q=>?_,g⟩;cases q;obtain⟨c,_,_,h,i,_⟩:=f;show⟨c,h,i.2.1⟩
section
def C2(t:A.units+1<Kx)(I:Inv X f σ H s)(g:fh H a y o)(n:RelV y u)(p:RelV d r)(h:∀q s',Inv X f σ H s'->RelV (o.getD d) q->Q q s'):
  et (hH X.prog X.w) A (MK (.builtin "dict.get") [.ref a,u,r]) Q E s:=by
 rcases g with⟨kvs,k,e,j,l⟩|⟨kvs,k,b,e,j,v,l⟩
 .subst j;have⟨z,m,vs,c,i⟩:=kq I.Hr e;show Sk PySem.F.slot_dict_get i.typeIs PySem.F.entry_dict_get (PySem.F.args_dict_get_3 _ _ _) (meets_dict_get_default (aO X.prog X.w) a (km n) m r) ⟨_,i.mapOf,h _ _ (I.tok _) ?_⟩;rw[l];show(c.val k).getD p
 .subst j;cases(show u=kj b from n);have⟨z,m,xs,c,i⟩:=ku I.Hr e;show Sk PySem.F.slot_dict_get i.typeIs PySem.F.entry_dict_get (PySem.F.args_dict_get_3 _ _ _) (meetsH_dict_get_default (TQ (aO X.prog X.w)) a b m r) ⟨Ow t,k,xs,iZ I.Hr v,i,h _ _ (I.tok _) ?_⟩;rw[l];show(c.val k).getD p
end
abbrev C3(d e f:TE):TE:=λσ H Q=>d σ H λx b=>∃a,x=.ref a/\QZ b a/\e σ b λy g=>f σ g λz c=>∃o,fh c a y o/\Q (o.getD z) c
abbrev C4(d e:TE):TE:=λσ H Q=>d σ H λx b=>∃a,x=.ref a/\QZ b a/\e σ b λy c=>∃kvs k v,c a=bD (.dK kvs)/\y=kV k/\de kvs k=bD v/\Q v (upd c a (.dK (ip kvs k)))
section
def wI(j:X.A.units+1<Kx)(ho:PE X o k)(l:PE X e n)(p:PE X f q)(m:M2 X o "get" c e f r):PE X (.Call (.Attribute o "get" c) [e,f] [] r) (C3 k n q):=by
 intro b s σ H Q I h;show Zf m.base m.KU m.line PySem.F.plainAttrs_dict PySem.F.slot_dict_get PySem.F.type_dict_get (Hu (ho b s σ H _ I h) λu s1 t=>?_);have⟨x,v,i,w,a,ex,d,B⟩:=t;subst ex;obtain rfl:u=kj a:=w;obtain⟨C,D,_⟩:=wH i d;show⟨C,D,?_⟩;rw[m.trees];show wh rfl (KC (LO (Hu (l b s1 σ v _ i B) λiv s2 ⟨y,G,J,L,N⟩ =>
  LO (Hu (p b s2 σ G _ J N) λfv s3 ⟨z,O,T,Y,ov,g,q3⟩=>N8 ?_))))
 show C2 j T g L Y λw' s4 I4 Jx=>⟨_,O,I4,Jx,q3⟩
def wJ(ho:PE X o g)(i:PE X e j)(m:M1 X o "pop" c e n):PE X (.Call (.Attribute o "pop" c) [e] [] n) (C4 g j):=by
 intro b s σ H Q I h;show Zf m.base m.KU m.line PySem.F.plainAttrs_dict PySem.F.slot_dict_pop PySem.F.type_dict_pop (Hu (ho b s σ H _ I h) λu s1 p=>?_);have⟨x,q,f,r,a,ex,d,t⟩:=p;subst ex;obtain rfl:u=kj a:=r;obtain⟨w,z,_⟩:=wH f d;show⟨w,z,?_⟩;rw[m.trees];show wh rfl (KC (LO (Hu (i b s1 σ q _ f t) λN s2 ⟨y,O,A,B,kvs,k,v,C,D,l,G⟩=>N8 ?_)));subst D;show Fc A C B l (.inl rfl) λT s3 J L=>⟨v,_,J,L,G⟩
end
section
end
section
end
end L2
namespace HN
open PySem PySem.Builtin.Str PySem.StrLaws
abbrev wK(i:Int):Str:=Qo (RL i)
def app_list(x y:Str):(x++y).cps.toList=x.cps.toList++y.cps.toList:=by
 change(x.cps++y.cps).toList=_;simp
end HN
namespace L2
open PySem PySem.Spec PyProof.Rows
abbrev bG(env:Env):List (Str×Nr)->List (Str×hA)->List (Str×hA)
 |[],b=>b
 |(n,k)::r,b=>bG env r (if k==.free then(match env.cells.lookup n with|some a=>(n,a)::b|none=>b) else b)
def eN(h:∀y∈scope.names,y.2=.free->∃a,env.cells.lookup y.1=bD a):closureFor scope env=pure (bG env scope.names []):=by
 unfold closureFor;generalize scope.names=names at h
 suffices H:∀b,(Zs names b (λ(x:Str×Nr) (r:List (Str×hA))=>if (x.2==LK)=b6 then do let a <-cellOf env x.1;pure (M9 ((x.1,a)::r)) else pure (M9 r)):Sem (List (Str×hA)))=pure (bG env names b) by
  have:=H [];show Z_ (λ(m:Sem (List (Str×hA)))=>m >>= pure) this
 induction names with
 |nil=>intro b;rfl
 |cons y r d =>
  intro b;have⟨n,k⟩:=y;rw[UL];have c:=d λy e=>h y (ti _ e);by_cases hk:(k==LK)=b6
  .have⟨a,f⟩:=h (n,k) ri (by simpa using hk);have g:env.cells.lookup n=bD a:=f;simp only[hk,if_true,cellOf,g,bG];show c _
  .simp only[hk,if_false,bG];show c _
theorem fi:∀(names:List (Str×Nr)) (b:List (Str×hA)),(∀n c,b.lookup n=bD c->env.cells.lookup n=bD c)->∀n c,(bG env names b).lookup n=bD c->env.cells.lookup n=bD c
 |[],_,h=>h
 |(m,k)::r,b,h=>by
  unfold bG;show fi r _ λn c e=>?_;by_cases hk:(k==LK)=b6
  .rw[Z6 hk]at e;cases q:env.cells.lookup m with
   |none=>rw[q]at e;show h n c e
   |some a =>
    rw[q]at e;simp only[td]at e;cases d:n==m with
    |true =>
     rw[d]at e;have f:n=m:=by simpa using d
     subst f;simp only at e;rw[q];show e
    |false=>rw[d]at e;show h n c e
  .rw[Z7 hk]at e;show h n c e
theorem jw(d:env.cells.lookup n=bD a):∀(names:List (Str×Nr)) (c:List (Str×hA)),c.lookup n=bD a->(bG env names c).lookup n=bD a
 |[],_,h=>h
 |(m,k)::r,c,h=>by
  unfold bG;show jw d r _ ?_;by_cases hk:(k==LK)=b6
  .rw[Z6 hk];cases q:env.cells.lookup m with
   |none=>show h
   |some b =>
    simp only[td];cases e:n==m with
    |true =>
     have f:n=m:=by simpa using e
     subst f;rw[d]at q;cases q;rfl
    |false=>show h
  .rw[Z7 hk];show h
theorem gR(b:env.cells.lookup n=bD a):∀(names:List (Str×Nr)) (c:List (Str×hA)),(n,LK)∈names->(bG env names c).lookup n=bD a
 |[],_,h=>by cases h
 |(m,k)::r,c,h=>by
  unfold bG;rcases gj.mp h with e|e
  .cases e;show jw b r _ ?_;rw[Z6 (by decide),b];simp[td]
  .show gR b r _ e
theorem bU{env:Env}:∀{names:List (Str×Nr)}{x:Str}{k:Nr},
  (names.map λ(n,k)=>if (k==LK&&env.scope.kind==.function&&env.kindOf n==bD .cell) then(n,NameKind.cell) else(n,k)).lookup x=bD k ->
  names.lookup x=bD k\/(k=.cell/\names.lookup x=bD .free)
 |[],_,_,h=>by simp at h
 |(n,k0)::r,x,k,h=>by
  have e:=@bU env r x k;rw[eh]at h;by_cases b:(k0==LK&&env.scope.kind==.function&&env.kindOf n==bD .cell)=b6
  .simp only[Z6 b,td]at h;cases a:x==n with
   |true =>
    rw[a]at h;have f:k0=.free:=by
     have:=(G'.mp (G'.mp b).1).1;simpa using this
    show .inr ⟨by simpa using h.symm,by simp[td,a,f]⟩
   |false =>
    rw[a]at h;rcases e h with z|⟨c,d⟩
    .show .inl (by simp[td,a,z])
    .show .inr ⟨c,by simp[td,a,d]⟩
  .simp only[Z7 b,td]at h;cases a:x==n with
   |true=>rw[a]at h;show .inl (by simpa[td,a] using h)
   |false =>
    rw[a]at h;rcases e h with z|⟨c,d⟩
    .show .inl (by simp[td,a,z])
    .show .inr ⟨c,by simp[td,a,d]⟩
abbrev IC(X:Cx)(N:List Str)(scope:L5)(C:hA)(s:gs)(H:Hp)(ex:List hA):Cx where
 prog:=X.prog
 w:=X.w
 K:=X.K
 mg:=X.mg
 base:=X.base
 A:=X.A
 N:=N
 s₀:=s
 H₀:=H
 env:=Vv scope (bG X.env scope.names []) C X.env
 outer:=X.stack
 stack:=X.stack
 ex:=ex
 fn:=λ_=>cK
 calm:=X.calm
 pn:=[]
 xe:=λ_ _=>False
abbrev eG(D N:List Str):Prop:=D.length=N.length/\∀(i:Nat) (y:Str),D[i]?=bD y->N[i]?=bD y\/y="."\/y=".."
def eG.refl(N:List Str):eG N N:=⟨rfl,λ_ _ h=>.inl h⟩
def eG.set{D N:List Str}(h:eG D N)(j:Nat){m:Str}(b:m="."\/m=".."):eG (D.set j m) N:=by
 show⟨by rw[YQ];show h.1,λi y e=>?_⟩;by_cases a:j=i
 .subst a;rw[List.getElem?_set,Z6 rfl]at e;split at e
  .cases e;show .inr b
  .cases e
 .rw[i1 a]at e;show h.2 i y e
structure dR(X:Cx)(N own:List Str)(scope:L5):Prop where
 kind:scope.kind=.function
 J1:∀y∈scope.names,y.2≠.cell
 names:∀y∈scope.names,y.2=.local->scope.names.lookup y.1=bD .local
 nd:N.Nodup
 pre:N.take own.length=own
 loc:∀y∈scope.names,y.2=.local->y.1∈own\/y.1=".0"
 U1:(".0":Str)∉N
 tail:eG (N.drop own.length) X.N
 free:∀y∈scope.names,y.2=.free->X.env.scope.names.lookup y.1=bD .cell\/X.env.scope.names.lookup y.1=bD .free
 dot:∀y∈scope.names,y.1≠"."/\y.1≠".."
def mem_lookup{names:List (Str×Nr)}(h:names.lookup x=bD k):(x,k)∈names:=PySem.mem_of_lookup h
def dR.cells(S:dR X N c scope)(b:X.Ok):∀y∈scope.names,y.2=.free->∃a,X.env.cells.lookup y.1=bD a:=λy d e=>by
 rcases S.free y d e with z|z
 .show b.has y.1 (.inl z)
 .show b.has y.1 (.inr z)
def wL(S:dR X N d scope)(I:Inv X A σ H s)
  (G:s.heap.objs.size<=C) (Q3:s4.os=s.os) (hg:s4.gens=s.gens) (keep:∀b o,s.heap.get? b=bD o->s4.heap.get? b=bD o) (ns:∃m,s4.heap.Ns C m)
  (f:∀b∈ex,ij X A H b/\b<s.heap.objs.size):Inv (IC X N scope C s H ex) [] (i5 d.length cb++σ) H s4:=by
 have⟨m0,Pu⟩:=ns;have sub:=fi (env:=X.env) scope.names [] (λn c e=>by simp at e);have Q4:∀b∈ex,b<C:=λb g=>i9 (f b g).2 G;have tl:d.length<=N.length:=by have:=Z_ HU S.pre;rw[G1]at this;lia
 show⟨⟨I.ok.mod,?_,I.ok.glob,I.ok.blt,G,λx y c B w=>I.ok.inj x y c (sub x c B) (sub y c w),λx hx=>?_,λx c h _=>absurd (show cK=b6 from h) (by decide),I.ok.hd,I.ok.frames,.inl rfl,λb g=>⟨hZ (Q4 b g),λx c e=>?_⟩,λb o e=>I.bs b o e,?_,λb o e g=>?_,λb g=>?_,I.stack,I.sN⟩,
  Q3,(by rw[hg];show I.bare),Un.kept keep,⟨m0,Pu,λi y v B w h3=>?_⟩,λx c e=>?_,I.Hr.fresh G,λx c e=>I.Ic x c (sub x c e),λp hp=>absurd (show p∈([]:List (hA×Obj)) from hp) (by simp),I.Hr.kept keep,?_⟩
 .change(Se scope X.env).kind=.function;show S.kind
 .
  have Oa:(Se scope X.env).names.lookup x=bD .cell\/(Se scope X.env).names.lookup x=bD .free:=hx;have t:scope.names.lookup x=bD .free:=by
   rcases Oa with z|z
   .rcases bU z with q|⟨_,q⟩
    .show absurd rfl (S.J1 _ (mem_lookup q))
    .show q
   .rcases bU z with q|⟨q,_⟩
    .show q
    .cases q
  have⟨a,ha⟩:=S.cells I.ok (x,.free) (mem_lookup t) rfl;show⟨a,gR ha scope.names [] (mem_lookup t)⟩
 .show(f b g).1.2.2.2.2.1 x c (sub x c e)
 .show u6 I.ok.L0 I.sz
 .have⟨f0,O,Q,T,f4,f5⟩:=(f b g).1;rcases T with z|z
  .show I.ok.KQ b o e z
  .show absurd (i9 (gc e) (u6 I.ok.L0 z)) (u3 _)
 .intro Je;have⟨f0,O,Q,T,f4,f5⟩:=(f b g).1;rcases gj.mp (I.j8 b Je) with z|z
  .show O z
  .show Q z
 .
  have J:d.length<=i:=by
   by_cases J:i<d.length
   .rw[u5 (by simpa using J),Jb]at w;split at w<;>cases w
   .lia
  rw[nC (by simpa using J),O2]at w;have U2:(N.drop d.length)[i - d.length]?=bD y:=by
   rw[Kj];have e:d.length+(i - d.length)=i:=by lia
   rw[e];show B
  have Y:(Se scope X.env).names.lookup y=bD .local\/(Se scope X.env).names.lookup y=bD .cell\/(Se scope X.env).names.lookup y=bD .free:=h3;have t:scope.names.lookup y=bD .free:=by
   rcases Y with z|z|z
   .rcases bU z with q|⟨q,_⟩
    .exfalso
     have Jo:y∈d:=by
      rcases S.loc (y,.local) (mem_lookup q) rfl with z|z
      .show z
      .have z':y=".0":=z;show absurd (mx B) (by rw[z'];show S.U1)
     have⟨j,hj,ej⟩:=P9 Jo;have Kz:N[j]?=bD y:=by
      have e1:(N.take d.length)[j]?=bD y:=by rw[S.pre,mA hj,ej]
      rw[WQ hj]at e1;show e1
     have:=j9 S.nd Kz B;lia
    .cases q
   .rcases bU z with q|⟨_,q⟩
    .show absurd rfl (S.J1 _ (mem_lookup q))
    .show q
   .rcases bU z with q|⟨q,_⟩
    .show q
    .cases q
  have hX:X.N[i - d.length]?=bD y:=by
   rcases S.tail.2 _ _ U2 with e|e|e
   .show e
   .show absurd e (S.dot _ (mem_lookup t)).1
   .show absurd e (S.dot _ (mem_lookup t)).2
  have⟨m,hn,hl⟩:=I.loc;have hv:X.env.scope.names.lookup y=bD .cell\/X.env.scope.names.lookup y=bD .free:=S.free (y,.free) (mem_lookup t) rfl;have⟨u,r,l⟩:=hl _ y v hX w (.inr hv);show⟨u,r,?_⟩;rcases l with⟨k,_⟩|⟨k,c,e,z⟩
  .have k':X.env.scope.names.lookup y=bD .local:=k;rcases hv with q|q<;>(rw[k']at q;cases q)
  .have hk:(Se scope X.env).names.lookup y=bD .cell\/(Se scope X.env).names.lookup y=bD .free:=by
    rcases Y with q|q|q
    .rcases bU q with D|⟨D,_⟩
     .rw[t]at D;cases D
     .cases D
    .show .inl q
    .show .inr q
   have⟨o,ho,L⟩:=z;show .inr ⟨hk,c,gR e scope.names [] (mem_lookup t),o,keep c o ho,L⟩
 .have⟨v,o,ho,L⟩:=I.cell x c (sub x c e);show⟨v,o,keep c o ho,L⟩
 .rw[i0,O2,I.len];have e:N.length=d.length+(N.drop d.length).length:=by rw[Yy];lia
  change _=N.length;rw[e,S.tail.1]
def pz(I:Inv X f σ H s)
  (d:Inv (IC X N scope C s H ex) T Y k s4) (w:s.heap.objs.size<=D) (x:s.heap.objs.size<=C) (y:D≠C) (h:k D=cb) (rv:Vals m p) (A:s4.heap.PlainList D p.toArray) (hl:m.length<=df)
  (i:my C s4.heap h') (l:∀b∈ex,ij X f H b):Inv X f σ (upd k D (.lst m)) {s4 with heap:=h' }:=by
 have r:k C=cb:=d.free;have lt:∀{b:hA} {o:Obj},s.heap.get? b=bD o->b≠C/\b≠D:=λe=>⟨hZ (i9 (gc e) x),hZ (i9 (gc e) w)⟩
 show I.EJ (s':={s4 with heap:=h' }) (ch:=ex) d.os ⟨λb o e n j g=>?_,λb o e n j g=>?_,λb o e n g=>?_,λb o e g=>?_,λb xs e=>?_,λb o u e=>?_,λb ps e=>?_⟩ (λa o e=>?_) d.bare λb j=>?_
 .show(i.2 b (lt e).1).trans (d.base.keep b o e n j g)
 .have⟨B,q⟩:=d.base.slot b o e n j g;show⟨B,(i.2 b (lt e).1).trans q⟩
 .rw[ak (lt e).2];show d.base.free b o e n g
 .have⟨o',q⟩:=d.base.there b o e g;show⟨o',(i.2 b (lt e).1).trans q⟩
 .have q:=d.base.jN b xs e;rw[ak (bK q h)];show q
 .have q:=d.base.Jm b o u e;rw[ak (bK q h)];show q
 .have⟨more,q⟩:=d.base.Jw b ps e;show⟨more,by rw[ak (bK q h)];show q⟩
 .by_cases t:a=D
  .subst t;rw[ax]at e;cases e;have⟨n,q⟩:=A;show⟨hl,p,n,rv,(i.2 _ y).trans q⟩
  .rw[ak t]at e;show(d.Hr a o e).gQ (λc v G q=>(i.2 c ?_).trans q) (λc q=>?_) λc xs q=>?_
   .rintro rfl;rcases G with z|z
    .rw[<-z,r]at e;cases e
    .rw[r]at z;cases z
   .rw[ak (bK q h)];show q
   .rw[ak (bK q h)];show q
 .have⟨f0,J,f2,L,O,Q⟩:=l b j;show⟨L,J,O,Q⟩
section
def nU(I:Nat->gs->Prop)
  (b:∀n s,I n s->et (hH prog w) A (Sg it) (λr d=>match r with
   |none=>R (.ok .next) d
   |some v=>et (hH prog w) A (S0 a it v) (λ_ d=>et (hH prog w) A (QX a env v) (λ_ j =>
     et (hH prog w) A (Zs f b6 λc r=>if r=b6 then do let ok <-isTrue c env (wk c env);pure (M9 ok) else pure (M9 r)) (λok i =>
      if ok=b6 then et (hH prog w) A (wk elt env) (λx k =>
       et (hH prog w) A (MK (.builtin "list.append") [acc,x]) (λ_ l=>∃m,m<n/\I m l) (TR (hH prog w) A env λe s'=>R (.error e) s') k) (TR (hH prog w) A env λe s'=>R (.error e) s') i
      else ∃m,m<n/\I m i) (TR (hH prog w) A env λe s'=>R (.error e) s') j) (TR (hH prog w) A env λe s'=>R (.error e) s') d) (TR (hH prog w) A env λe s'=>R (.error e) s') d) (TR (hH prog w) A env λe s'=>R (.error e) s') s)
  (n:Nat) (h:I n s) :
  Qf (hH prog w) A (.compLoop (.ListComp elt [⟨a,g,f,0⟩] scope pos) 0 it acc env) R s:=by
 show codeAny_loop rfl I (λn s q=>?_) n h;change et _ A ((compTurn (.ListComp elt [⟨a,g,f,0⟩] scope pos) 0 it acc env).onRaise (λx=>do noteFrame x env;theTreesLotGoes x)) _ _ s;show wpAny_noted ?_;rw[compTurn_list];show b5 (XG (b5 (tA (b n s q) (λr d o=>?_) λ_ _ h'=>h')));cases r with
 |none=>show dt o
 |some v =>
  show b5 (tA o (λ_ B t=>?_) λ_ _ h'=>h');show b5 (tA t (λ_ j u=>b5 (tA u (λok i p=>?_) λ_ _ h'=>h')) λ_ _ h'=>h');cases ok with
  |false=>show dt ⟨rfl,p⟩
  |true =>
   show b5 (b5 (tA p (λx k y=>b5 (tA y (λ_ l z=>dt (dt ⟨rfl,z⟩)) λ_ _ h'=>h')) λ_ _ h'=>h'))
end
abbrev Ls(X:Cx)(b:List mh)(t:TT):Prop :=
 ∀(a:List (hA×Obj)) (s:gs) (σ:St) (H:Hp) (Q:Bool->Hp->Prop),Inv X a σ H s->t σ H Q ->
  et (hH X.prog X.w) X.A (Zs b b6 λc r=>if r=b6 then do let d <-isTrue c X.env (wk c X.env);pure (M9 d) else pure (M9 r)) (TP X a σ Q) X.xe s
abbrev G4:TT:=λ_ H Q=>Q b6 H
def nV:Ls X [] G4:=λ_ _ _ H _ I h=>wpAny_tests_nil ⟨H,I,h⟩
def sV(h:PT X c t):Ls X [c] t:=λa s σ H Q I q=>wpAny_tests_one (h a s σ H Q I q)
abbrev sW(k:Nat)(J:It)(g:TG)(l:TT)(n:TE)(Q:VK)(σ:St)(o:Hp):Prop :=
  ∃W:Nat->Nat->List V->Hp->Prop,(∃m,W 0 m [] o)/\∀i m a H,W i m a H->a.length<=df /\
    ((J.stop i H/\∀p,H p=cb->Q (.ref p) (upd H p (.lst a))) \/
     (J.go i H/\∃d:List V->Hp->Prop,(∀f H',d f H'->∃h,h<m/\W (i+1) h f H')/\∀x H',J.Pk i H x H'->g x (i5 k cb++σ) H' λe q=>∃c:St,c.length=k/\e=c++σ /\
        l e q λb j=>if b=b6 then n e j λy r=>d (a++[y]) r else d a j))
abbrev wM(k:Nat)(a:TI)(g:TG)(b:TT)(c:TE):TE:=λσ H Q=>a σ H λJ d=>sW k J g b c Q σ d
section
def wN
  (S:dR X N B scope) (hc:X.calm=b6) (hg:∀C s H ex,PG (IC X N scope C s H ex) tg g) (hf:∀C s H ex,Ls (IC X N scope C s H ex) am tt) (he:∀C s H ex,PE (IC X N scope C s H ex) elt te)
  (I:Inv X an σ H s) (T:Turn X.prog X.w X.K tg J G it tn) (st:tn 0 s.heap) (f2:∀b∈G,ij X an H b) (W:sW B.length J g tt te Q σ H)
  (hD:@Eq Nat D s.heap.objs.size) (hC:@Eq Nat C (s.heap.objs.size+1)) (Q3:s4.os=s.os) (U4:s4.gens=s.gens) (keep:∀b o,s.heap.get? b=bD o->s4.heap.get? b=bD o) (ns:∃m,s4.heap.Ns C m) (pl:s4.heap.PlainList D #[])
  (ap:∀s5 Y O k,Inv (IC X N scope C s H G) [] (i5 B.length cb++σ) Y s5->Y D=cb->Vals O k->s5.heap.PlainList D k.toArray->O.length<=df->(∀p,Y p=cb->Q (.ref p) (upd Y p (.lst O)))->R (.ok .next) s5) :
  Qf (hH X.prog X.w) X.A (.compStart (.ListComp elt [⟨tg,ar,am,0⟩] scope pos) 0 (.ref it) (.ref D) (Vv scope (bG X.env scope.names []) C X.env)) R s4:=by
 have LJ:∀b∈G,@O8 Nat _ b s.heap.objs.size:=λb h=>by
  obtain⟨o,e,_⟩:=T.obj 0 s.heap st b h;show gc e
 have I4:Inv (IC X N scope C s H G) [] (i5 B.length cb++σ) H s4:=wL S I ⋯ Q3 U4 keep ns λb h=>⟨f2 b h,LJ b h⟩
 have Nw:tn 0 s4.heap:=T.keep 0 s.heap s4.heap st λb _ o e=>keep b o e;have nD:H D=cb:=I.Hr.fresh ⋯;obtain⟨W,⟨m0,w0⟩,YD⟩:=W;generalize l:IC X N scope C s H G=f at I4 ap;have eP:f.prog=X.prog:=by rw[<-l];rfl
 have ew:f.w=X.w:=by rw[<-l];rfl
 have eK:f.K=X.K:=by rw[<-l];rfl
 have ec:f.calm=b6:=by rw[<-l];show hc
 have eA:f.A=X.A:=by rw[<-l];rfl
 have ee:f.env=Vv scope (bG X.env scope.names []) C X.env:=by rw[<-l];rfl
 have Q6:f.xe=λ_ _=>False:=by rw[<-l];rfl
 have el:f.env.locals=C:=by rw[ee];rfl
 have Q7:PG f tg g:=by rw[<-l];show hg _ _ _ _
 have Q8:Ls f am tt:=by rw[<-l];show hf _ _ _ _
 have Q9:PE f elt te:=by rw[<-l];show he _ _ _ _
 have s0:f.s₀=s:=by rw[<-l];rfl
 have Ob:f.pn=[]:=by rw[<-l];rfl
 have Q_:∀{H':Hp} {o:Obj},(∀b∈G,H' b=cb)->∀b∈G,ij f [(D,o)] H' b:=λ{H' o} hn b h=>by
  have ex:f.ex=G:=by rw[<-l];rfl
  show⟨hn b h,?_,?_,.inl (by rw[ex];show h),λx c e=>?_,λp L=>?_⟩
  .rw[el];have:=LJ b h;show hZ (by change @O8 Nat _ b C;lia)
  .have e1:f.fs=Ke X.stack:=by rw[<-l];rfl
   rw[e1];intro z;have⟨f0,f1,U5,f3,f4,f5⟩:=f2 b h;rcases gj.mp (I.j8 b z) with q|q
   .show f1 q
   .show U5 q
  .have e1:f.env.cells=bG X.env scope.names []:=by rw[ee];rfl
   rw[e1]at e;show(f2 b h).2.2.2.2.1 x c (fi scope.names [] (λn c e=>by simp at e) x c e)
  .rw[Ob,hU]at L;have:p=(D,o):=by simpa using L
   subst this;have:=LJ b h;show Iq (by change @O8 Nat _ b D;lia)
 have Ra:∀{σ':St} {H':Hp} {s':gs} {o:Obj},Inv f [] σ' H' s'->H' D=cb->s'.heap.get? D=bD o->(∀v,o.data≠.cell v)->Inv f [(D,o)] σ' H' s':=λ{σ' H' s' o} I' n e d =>
  I'.eB λp L=>by
   have:p=(D,o):=by simpa using L
   subst this;show⟨e,n,?_,?_,d⟩
   .rw[el];show hZ (by change @O8 Nat _ D C;lia)
   .have e1:f.fs=Ke X.stack:=by rw[<-l];rfl
    rw[e1];intro z;have zz:(D:hA)∈Ke X.stack:=z;rcases gj.mp (I.j8 D zz) with q|q
    .have:=I.lt;rw[<-q]at this;show absurd this (by change ¬@O8 Nat _ D s.heap.objs.size;lia)
    .show I.Cv (a:=D) ⋯ q
 have start:∀s':gs,s'=s4->Qf (hH X.prog X.w) X.A (.compLoop (.ListComp elt [⟨tg,ar,am,0⟩] scope pos) 0 (.ref it) (.ref D) (Vv scope (bG X.env scope.names []) C X.env)) R s':=by
  rintro s' rfl;show nU (λn s'=>∃i O k H',Inv f [] (i5 B.length cb++σ) H' s'/\tn i s'.heap/\(∀b∈G,H' b=cb)/\H' D=cb/\Vals O k/\s'.heap.PlainList D k.toArray/\W i n O H') ?_ m0
   ⟨0,[],[],H,I4,Nw,λb h=>(f2 b h).1,nD,.nil,pl,w0⟩
  rintro n s3 ⟨i,O,k,H3,I3,H9,N3,Tc,Pw,⟨nn,U6⟩,w3⟩;have⟨ac,Kg⟩:=YD i n O H3 w3;have IP:=Ra I3 Tc U6 (λv z=>by have z':Data.seq _ _=W3 v:=z;cases z');rcases Kg with⟨as,qn⟩|⟨go,NN,Td,a0⟩
  .have d:=T.done f eP ew eK ec i _ s3 _ H3 (TR (hH X.prog X.w) X.A (Vv scope (bG X.env scope.names []) C X.env) λe s'=>R (.error e) s') IP (Q_ N3) H9 as;rw[eA]at d;show Hu d λr s4 Rb=>?_;have⟨hr,I5⟩:=Rb;subst hr;have e5:=(I5.pin (D,({cls:=.type "list",data:=.seq k.toArray nn}:Obj)) (by rw[Ob];simp)).1;show ap s4 H3 O k (I5.eB λp L=>by cases L) Tc Pw ⟨nn,e5⟩ ac qn
  .have d:=T.item f eP ew eK ec i _ s3 _ H3 (TR (hH X.prog X.w) X.A (Vv scope (bG X.env scope.names []) C X.env) λe s'=>R (.error e) s') IP (Q_ N3) H9 go;rw[eA]at d;show Hu d λr s4 Rc=>?_;have⟨u,hr,h4⟩:=Rc;subst hr;show Hu h4 λ_ s5 Rf=>?_;have⟨x,Y,I5,r5,y5,Ky,QF⟩:=Rf;have Xx:Y D=cb:=(I5.pin (D,({cls:=.type "list",data:=.seq k.toArray nn}:Obj)) (by rw[Ob];simp)).2.1;have QG:=I5.pinned (Q_ QF) (T.obj _ _ Ky);have a6:=Q7 _ s5 _ Y x u _ QG r5 (a0 x Y y5);rw[eP,ew,eA,ee,Q6]at a6;show tA a6 (λ_ s6 ⟨σ6,H6,I6,q6⟩=>?_) λ_ _ z=>MF z;have⟨ow,a1,rfl,q6⟩:=q6;have a7:=Q8 _ s6 _ H6 _ I6 q6;rw[eP,ew,eA,ee,Q6]at a7;show tA a7 (λb s7 ⟨H7,I7,q7⟩=>?_) λ_ _ z=>MF z;have ag:∀{s8:gs} {t:Hp} {Jy:List V} {its':List dV} {nn':Nat},Inv f [] (ow++σ) t s8->tn (i+1) s8.heap->(∀b∈G,t b=cb)->t D=cb->Vals Jy its'->s8.heap.PlainList D its'.toArray->(∃m',m'<n/\W (i+1) m' Jy t) ->
     ∃m,m<n/\∃i O k H',Inv f [] (i5 B.length cb++σ) H' s8/\tn i s8.heap/\(∀b∈G,H' b=cb)/\H' D=cb/\Vals O k/\s8.heap.PlainList D k.toArray/\W i m O H':=λ{s8 t Jy its' nn'} I8 U7 U8 n8 U9 U_ w8=>by
    have⟨m',hm,w8⟩:=w8;show⟨m',hm,i+1,Jy,its',t,I8.weak (by simp[a1]) (λj v e=>?_),U7,U8,n8,U9,U_,w8⟩;by_cases hj:j<B.length
    .rw[u5 (by simpa using hj),Jb]at e;split at e<;>cases e
    .rw[nC (by simpa using(Nat.not_lt.mp hj)),O2]at e;rw[nC ⋯,a1];show e
   have al:∀{σ':St} {t:Hp} {s8:gs},Inv f ([(D,({cls:=.type "list",data:=.seq k.toArray nn}:Obj))]++j_ G s5.heap) σ' t s8->s8.heap.get? D=bD {cls:=.type "list",data:=.seq k.toArray nn}/\t D=cb/\tn (i+1) s8.heap/\∀b∈G,t b=cb:=λ{σ' t s8} I8=>by
    have p1:=I8.pin (D,({cls:=.type "list",data:=.seq k.toArray nn}:Obj)) (by rw[Ob];simp);show⟨p1.1,p1.2.1,T.keep _ _ _ Ky λb h o e=>(I8.pin (b,o) (l' _ (l' _ (fc h e)))).1,λb h=>?_⟩;have⟨o,e,d⟩:=T.obj _ _ Ky b h;show(I8.pin (b,o) (l' _ (l' _ (fc h e)))).2.1
   cases b with
   |false =>
    rw[Z7 i6]at q7 ⊢;have⟨p1,p2,p3,p4⟩:=al I7;show ag (nn':=0) (I7.eB λp L=>by cases L) p3 p4 p2 Pw ⟨nn,p1⟩ (Td _ _ q7)
   |true =>
    rw[Z6 rfl]at q7 ⊢;have a8:=Q9 _ s7 _ H7 _ I7 q7;rw[eP,ew,eA,ee,Q6]at a8;show tA a8 (λy s8 ⟨yv,t,I8,r8,q8⟩=>?_) λ_ _ z=>MF z;have⟨p1,p2,p3,p4⟩:=al I8;have hsz:k.toArray.size<=df:=by rw[hE,<-Pw.length];show ac
    show wpAny_list_append_plain (hsz:=hsz) ⟨nn,p1⟩ λh9 U' Te=>?_;have Va:Inv f [] (ow++σ) t s8:=I8.eB λp L=>by cases L
    have Px:∀x c,f.env.cells.lookup x=bD c->c≠D:=λx c e=>by
     have e1:f.env.cells=bG X.env scope.names []:=by rw[ee];rfl
     rw[e1]at e;have q:=fi scope.names [] (λn c e=>by simp at e) x c e;have⟨v,z⟩:=I.cell x c q;have:@O8 Nat _ c s.heap.objs.size:=z.lt;show hZ (by change @O8 Nat _ c D;lia)
    have I9:Inv f [] (ow++σ) t {s8 with heap:=h9,toks:=s8.toks}:=Va.turned (it:=D) (λb o h e=>(Te.2 b h).trans e) p2 (by rw[el];show hZ (by change @O8 Nat _ D C;lia)) (.inr (by rw[s0];change @Zr Nat _ s.heap.objs.size D;lia)) Px (λp L=>by rw[Ob]at L;cases L);have Vb:(k++[y]).toArray=k.toArray.push y:=by simp
    show ag (nn':=0) (s8:={s8 with heap:=h9,toks:=s8.toks}) I9 (T.keep _ _ _ p3 λb h o e=>(Te.2 b ?_).trans e) p4 p2 (Pw.append (.cons r8 .nil)) (by rw[Vb];show U') (Td _ _ q8);have:=LJ b h;show hZ (by change @O8 Nat _ b D;lia)
 show codeAny_compStart_list (start _ rfl) (T.self _ _ _ _ _ Nw (start _ rfl))
def kA{RR:dV->hA->Result->gs->Prop}
    (S:dR X N d scope) (L:X.calm=b6) (O:∀C s H ex,PG (IC X N scope C s H ex) x g) (Y:∀C s H ex,Ls (IC X N scope C s H ex) m tt) (he:∀C s H ex,PE (IC X N scope C s H ex) elt te)
 (I:Inv X f σ H s) (T:Turn X.prog X.w X.K x J z it tn) (st:tn 0 s.heap) (f2:∀b∈z,ij X f H b) (W:sW d.length J g tt te Q σ H)
    (n:∀D C h c i k,@Eq Nat D s.heap.objs.size->@Eq Nat C (s.heap.objs.size+1)->Inv (IC X N scope C s H z) [] (i5 d.length cb++σ) c h->c D=cb->Vals i k->h.heap.PlainList D k.toArray->i.length<=df->(∀p,c p=cb->Q (.ref p) (upd c p (.lst i)))->RR (.ref D) C (.ok .next) h) :
    et (hH X.prog X.w) X.A (Zi []) (λacc s₃=>et (hH X.prog X.w) X.A (newFunctionEnv scope X.env.globals (bG X.env scope.names []) [] X.env.qual cb .none (bD X.env)) (λB s₄ =>
      Qf (hH X.prog X.w) X.A (.compStart (.ListComp elt [⟨x,G,m,0⟩] scope pos) 0 (.ref it) acc {B with scope:=Se scope X.env}) (RR acc B.locals) s₄) E s₃) E s:=by
  show DD (wpAny_newFunctionEnv S.J1 (by intro y hy;simp at hy) (λq r l=>?_) S.kind)
  dsimp only at r l ⊢
  generalize t:s.heap.push {cls:=.type "list",dict:=cb,data:=.seq ([]:List dV).toArray}=j at r l ⊢;have u:j.objs.size=s.heap.objs.size+1:=by rw[<-t,VM]
  have Q5:s.heap.objs.size≠j.objs.size:=by rw[u];show hZ (Nb _)
  have a:∀b:hA,b<s.heap.objs.size->b≠j.objs.size:=λb hb=>hZ (by have Je:@O8 Nat _ b s.heap.objs.size:=hb;change @O8 Nat _ b j.objs.size;lia);have v:∀b o,s.heap.get? b=bD o->q.get? b=bD o:=λb o e=>l.extBut b o (a b (gc e)) (c4 _ (t▸c4 _ e));have Iy:q.PlainList s.heap.objs.size #[]:=⟨_,l.extBut _ _ Q5 (c4 _ (t▸fx _ rfl))⟩
  show wN (s:=s) (s4:={s with heap:=q,toks:=s.toks+([]:List (Str×dV)).length}) (C:=j.objs.size) (D:=s.heap.objs.size) S L O Y he I T st f2 W rfl u rfl rfl v ⟨_,r⟩ Iy
    λh c i k I5 n5 Oe Of Og q5=>n _ _ h c i k rfl u I5 n5 Oe Of Og q5
def sX(S:dR X N c scope)(m:X.calm=b6)(n:PI X f a o)(p:∀C s H ex,PG (IC X N scope C s H ex) f g)(q:∀C s H ex,Ls (IC X N scope C s H ex) d r)(t:∀C s H ex,PE (IC X N scope C s H ex) elt u)
  (hs:∀x,Lo a X.env x=pure x:=by intro _;rfl):PE X (.ListComp elt [⟨f,a,d,0⟩] scope pos) (wM c.length o g r u):=by
 intro b s σ H Q I h;rw[eval_ListComp];show XW (use:=cb) (cl:=bG X.env scope.names []) rfl hs (eN (S.cells I.ok)) S.kind S.names ?_;show Hu (n b s σ H _ I h) λv s1 y=>Hu y λPl s2 z=>?_;have⟨it,fp,tn,J,H2,e,i,T,st2,j,W⟩:=z;subst e;show kA (RR:=λacc C=>compPost (hH X.prog X.w) X.A X.xe cb (EP X b σ Q) acc C) S m p q t i T st2 j W ?_;intro D C s5 H5 ys B' B hC k l G L O Y;obtain⟨m5,Rh,_⟩:=k.loc;show⟨m5,Rh,λh' sb=>⟨.ref D,_,pz i k (Xp B.symm) (by change @Zr Nat _ s2.heap.objs.size C;lia) (hZ (by change @O8 Nat _ D C;lia)) l G L O sb j,rfl,Y D l⟩⟩
def zT(S:dR X N r scope)(hc:X.calm=b6)(hN:X.N.Nodup)(Py:X.N[i]?=bD y)(G:X.env.scope.names.lookup y=bD .local)
  (hi:PI X n d wi) (hg:∀C s H ex,PG (IC X N scope C s H ex) n g) (hf:∀C s H ex,Ls (IC X N scope C s H ex) k tt) (he:∀C s H ex,PE (IC X N scope C s H ex) elt te)
  (Ma:PZ (.ListComp elt [⟨n,d,k,0⟩] scope pos) (bD (.Name y m)) Kp.line X.env=pure b6:=by rfl)
  (hs:∀x,Lo d X.env x=pure x:=by intro _;rfl):PS X (.Assign [.Name y m] (.ListComp elt [⟨n,d,k,0⟩] scope pos) Kp) (CG (wM r.length wi g tt te) (sO i)):=by
 intro f s σ H D I h;rw[exec_Assign_Name_used _ _ _ _ Ma];show b5 (XG (b5 ?_));change et _ X.A (do let _ <-comprehension (.ListComp elt [⟨n,d,k,0⟩] scope pos) scope X.env _ (Zi []) cK (wk d X.env) (bD (QX (.Name y m) X.env))) _ _ s;show b5 (tA (XW (use:=bD (QX (.Name y m) X.env)) (cl:=bG X.env scope.names []) (Q:=λ_ s'=>SP X f D .next s') rfl hs (eN (S.cells I.ok)) S.kind S.names ?_) (λ_ s' hq=>dt (dt hq)) λ_ _ e=>e);show Hu (hi f s σ H _ I h) λv s1 h1=>Hu h1 λPl s2 h2=>?_;have⟨it,fp,tn,J,H2,e,l,T,st2,L,W⟩:=h2;subst e;show kA (RR:=λacc C=>compPost (hH X.prog X.w) X.A X.xe (bD (QX (.Name y m) X.env)) (λ_ s'=>SP X f D .next s') acc C) S hc hg hf he l T st2 L W ?_;intro j C q t O B' hD hC u Y Oe Of Og q5;obtain⟨m5,Rh,_⟩:=u.loc;have Vc:t C=cb:=u.free;have B:Inv X f σ (upd t j (.lst O)) {q with heap:=q.heap}:=pz l u (Xp hD.symm) (by change @Zr Nat _ s2.heap.objs.size C;lia) (hZ (by change @O8 Nat _ j C;lia)) Y Oe Of Og (H0 ..) L;change et _ X.A (QX (.Name y m) X.env (.ref j)) _ _ q;show Ze (lZ (s:=q) B hN Py (.inl G) (show RelV (.ref j) (.ref j) from rfl) (λs6 I6 ⟨a,sb,ha⟩=>?_) (.inr G));have Px:@O8 Nat _ X.env.locals C:=by have:@O8 Nat _ X.env.locals s2.heap.objs.size:=l.lt;lia
 have KW:∀x c,X.env.cells.lookup x=bD c->c≠C:=λx c e=>by
  have⟨v,z⟩:=l.cell x c e;have:@O8 Nat _ c s2.heap.objs.size:=z.lt;show hZ (by change @O8 Nat _ c C;lia)
 have Vd:C≠a:=by
  rcases ha with z|z
  .rw[z];show Iq Px
  .show(KW _ _ z).symm
 show⟨m5,Rh.sameBut sb Vd,λh' Oh=>?_⟩;show⟨σ.set i (bD (.ref j)),upd t j (.lst O),I6.turned (it:=C) (t':=s6.toks) (λb o hb e=>(Oh.2 b hb).trans e) ?_ (Iq Px) (.inr (by have:@Zr Nat _ X.s₀.heap.objs.size s2.heap.objs.size:=l.sz;change @Zr Nat _ X.s₀.heap.objs.size C;lia)) KW (λp hp=>?_),q5 j Y⟩
 .rw[ak (Iq (by change @O8 Nat _ j C;lia))];show Vc
 .have:@O8 Nat _ p.1 s2.heap.objs.size:=gc (l.pin p hp).1;show hZ (by change @O8 Nat _ p.1 C;lia)
end
section
end
section
abbrev Fe:V->Option Int->Option Int->Hp->VK->Prop:=λx lo a H Q=>∃z,x=.str z/\z.length<=df/\Q (.str (PySem.StrLaws.sliceText z lo a)) H
def lP(x:Str)(lo a:Option Int)(hz:x.length<=df):(PySem.StrLaws.sliceText x lo a).length<=df:=u6 (Txt.slice_le x lo a) hz
def C5:L9 X Fe:=by
 intro b s σ H x v n o lo c p Q I g hs m e h;have⟨z,rfl,hz,q⟩:=h;have⟨t,rfl⟩:=g;show⟨"str",_,ZE.lookup,Xh _ _ _,?_⟩;have a:(PySem.StrLaws.sliceText z lo c).length<=df/\∀t' k,EP X b σ Q (.str (PySem.StrLaws.sliceText z lo c) t') {s with toks:=k}:=⟨lP z lo c hz,λt' k=>⟨.str _,H,I.tok k,⟨_,rfl⟩,q⟩⟩
 cases m with
 |none =>
  cases e with
  |none=>show OE (l:=cb) (u:=cb) (st:=cb) hs rfl (SX a)
  |int j d=>show OE (l:=cb) (u:=bD (j,d)) (st:=cb) hs rfl (SX a)
 |int i f =>
  cases e with
  |none=>show OE (l:=bD (i,f)) (u:=cb) (st:=cb) hs rfl (SX a)
  |int j d=>show OE (l:=bD (i,f)) (u:=bD (j,d)) (st:=cb) hs rfl (SX a)
theorem ir:∀{a:List Str}{b:List dV},Vals (a.map V.str) b->∃l:List (Str×Tok),b=strValues l/\l.map (·.1)=a
 |[],_,.nil=>⟨[],rfl,rfl⟩
 |y::a,_,.cons r t=>by
  have⟨c,rfl⟩:=r;have⟨l,rfl,e⟩:=ir t;show⟨(y,c)::l,rfl,by rw[eh,e]⟩
def zU:QP X "str.join" (λx xs H Q=>∃a p b,x=.str a/\xs=[.ref p]/\HX X.K H p (b.map V.str)/\Y6 a b=b6/\Q (.str (Sq a b)) H):=by
 intro c s σ H x xs v us Q I d rs h;have⟨a,p,b,rfl,rfl,f,g,q⟩:=h;have⟨t,rfl⟩:=d;have⟨u,rfl,r⟩:=vals1 rs;cases r;have⟨j,rv,i,hz⟩:=I.list f;have⟨l,rfl,e⟩:=ir rv;show SC.join i.isList e g λt' k=>⟨.str _,H,I.tok k,⟨_,rfl⟩,q⟩
theorem fK:∀{a:List Bool}{c:List dV},Vals (a.map V.bl) c->c=a.map LH
 |[],_,.nil=>rfl
 |b::a,_,.cons r t=>by
  cases r;rw[fK t];rfl
def wO:X.calm=b6->gy X (.builtin "all") (λxs H Q=>∃(p:hA) (a:List Bool),xs=[.ref p]/\HX X.K H p (a.map V.bl)/\Q (.bl (a.all id)) H):=by
 intro j f s σ H xs us Q I rs h;have⟨p,a,rfl,k,q⟩:=h;have⟨u,rfl,r⟩:=vals1 rs;cases r;have⟨o,rv,d,hz⟩:=I.list k;have e:=fK rv;subst e;have l:p<s.heap.objs.size:=by obtain⟨_,_,e,_⟩:=d;show gc e
 show call_all_walk (Ro d.isList ?_);show⟨s.heap.objs.size,[s.heap.objs.size,p],[s.heap.objs.size],(a.map LH).toArray.size,_,_,λi=>(a[i]?).getD b6,rfl,XY (A:=X.A.in1) (I.ok.hd j) _ p (hZ l) (a.map LH).toArray,
  ⟨⟨_,fx _ rfl,rfl,rfl⟩,d.isList.push _⟩,λi v s' Q' t m g=>?_,λh' n hk=>?_⟩
 .have c:(a.map LH)[i]?=bD v:=by simpa using m
  rw[i7]at c;cases e:a[i]? with
  |none=>rw[e]at c;cases c
  |some b =>
   rw[e]at c;cases c;simp only[e,X9]at g;show JC g
 .have e:((hQ (a.map LH).toArray.size).all λi=>(a[i]?).getD b6)=a.all id:=by
   rw[hE,c2];show YT a
  rw[e];show⟨.bl _,H,I.kept (t':=n) (R5 hk),rfl,q⟩
end
section
end
abbrev zV(N a:List Str)(scope:L5)(out:List (Str×Nr)):Bool :=
 cc (scope.kind=.function)&&scope.names.all (λy=>cc (y.2≠.cell))&&scope.names.all (λy=>cc (y.2≠.local)||decide (scope.names.lookup y.1=bD .local))&&decide N.Nodup&&cc (N.take a.length=a) &&
 scope.names.all (λy=>cc (y.2≠.local)||decide (y.1∈a)||decide (y.1=".0"))&&cc ((".0":Str)∉N)&&scope.names.all (λy=>cc (y.2≠.free)||decide (out.lookup y.1=bD .cell)||decide (out.lookup y.1=bD .free))&&scope.names.all (λy=>cc (y.1≠".")&&cc (y.1≠".."))
def qY(c:X.env.scope.names=out)(d:eG (N.drop a.length) X.N)(h:zV N a scope out=b6):dR X N a scope:=by
 unfold zV at h;simp only[cL,ko,KR,Z5]at h;obtain⟨⟨⟨⟨⟨⟨⟨⟨f,g⟩,i⟩,j⟩,k⟩,l⟩,m⟩,n⟩,o⟩:=h;show⟨f,g,λy b e=>?_,j,k,λy b e=>?_,m,d,λy b e=>?_,o⟩
 .rcases i y b with z|z
  .show absurd e z
  .show z
 .rcases l y b with(z|z)|z
  .show absurd e z
  .show .inl z
  .show .inr z
 .rw[c];rcases n y b with(z|z)|z
  .show absurd e z
  .show .inl z
  .show .inr z
section
end
section
end
abbrev JF(a b:Str):Bool:=!cc (b.cps.toList<a.cps.toList)
def jT(a b:Str):JF a b=b6↔a.cps.toList<=b.cps.toList:=by
 simp only[JF,ux,decide_eq_false_iff_not];show List.not_lt
def mz(a b c:Str)(d:JF a b=b6)(e:JF b c=b6):JF a c=b6:=by
 rw[jT]at d e ⊢;show List.le_trans d e
def uW(a b:Str):(JF a b||JF b a)=b6:=by
 rw[KR,jT,jT];show List.le_total _ _
def wQ{x y:Str}(h:x.cps.toList=y.cps.toList):x=y:=by
 cases x;cases y;congr
 show Array.toList_inj.mp h
def nW(c:JF a b=b6)(d:JF b a=b6):a=b:=by
 rw[jT]at c d;show wQ (List.le_antisymm c d)
abbrev aK(l:List Str):List Str:=l.mergeSort JF
def bL(l:List Str):(aK l).Perm l:=List.mergeSort_perm l JF
def b_(l:List Str):(aK l).Pairwise (λa b=>JF a b=b6):=List.pairwise_mergeSort mz uW l
theorem iu:∀(l:List Str) (p:Str),risingS p l=b6->(p::l).Pairwise (λa b=>JF a b=b6)
 |[],p,_=>by simp
 |x::r,p,h=>by
  have h':(!ltCps x.cps.toList p.cps.toList&&risingS x r)=b6:=h;have⟨c,g⟩:=G'.mp h';have d:=iu r x g;have f:JF p x=b6:=by rw[ltCps_eq]at c;show c
  show Qx.mpr ⟨λy i=>?_,d⟩;rcases gj.mp i with e|e
  .rw[e];show f
  .show mz _ _ _ f ((Qx.mp d).1 y e)
def nX(h:sortedS l=b6):l.Pairwise (λa b=>JF a b=b6):=by
 cases l with
 |nil=>show .nil
 |cons x r=>show iu r x h
theorem eO:∀{l m:List Str},l.Perm m->l.Pairwise (λa b=>JF a b=b6)->m.Pairwise (λa b=>JF a b=b6)->l=m
 |[],m,c,_,_=>(List.Perm.nil_eq c)
 |x::l,m,c,d,f=>by
  cases m with
  |nil=>show absurd c.length_eq (by simp)
  |cons y m =>
   have⟨g,h⟩:=Qx.mp d;have⟨b1,i⟩:=Qx.mp f;have j:x=y:=by
    have m1:x∈y::m:=c.mem_iff.mp ri;have m2:y∈x::l:=c.mem_iff.mpr ri;rcases gj.mp m1 with e|e
    .show e
    .rcases gj.mp m2 with e'|e'
     .show e'.symm
     .show nW (g y e') (b1 x e)
   subst j;rw[eO (List.Perm.cons_inv c) h i]
def wR(a:l.Perm m)(hs:sortedS l=b6):l=aK m:=eO (a.trans (bL m).symm) (nX hs) (b_ m)
def fL(a:l.Perm m):aK l=aK m:=eO ((bL l).trans (a.trans (bL m).symm)) (b_ l) (b_ m)
def cv(l:List Str):(aK l).length=l.length:=(bL l).length_eq
section
theorem cM:∀{a:List Str}{b:List dV},Vals (a.map V.str) b->O6 b a
 |[],_,.nil=>.nil
 |y::a,_,.cons r t=>by
  have⟨c,rfl⟩:=r;show .cons y c (cM t)
theorem dH:∀{a:List dV}{b:List Str},O6 a b->Vals (b.map V.str) a
 |_,_,.nil=>.nil
 |_,_,.cons x t h=>.cons ⟨t,rfl⟩ (dH h)
theorem fj(hc:et (hH prog w) A.in1 (Yf x) (λvs s1=>∃ss,O6 vs ss/\vs.length<64 /\
      ∀(h':IZ) (HQ:List dV) (e:Nat),(∀b o,s1.heap.get? b=bD o->h'.get? b=bD o)->h'.get? s1.heap.objs.size=bD (G0 "list" HQ.toArray e)->O6 HQ (aK ss)->Q (.ref s1.heap.objs.size) {s1 with heap:=h' }) E s) :
    et (hH prog w) A (MK (.builtin "sorted") [x]) Q E s:=by
  refine VP kind_sorted plain_sorted entry_sorted (args_sorted1 _) ?_;unfold M4.«sorted»;refine b5 (m:=checkCount "sorted" 1 1 _) (dt ?_);refine b5 (tA hc (λvs s1 h1=>?_) λ_ _ e=>e);obtain⟨ss,hS,JT,h⟩:=h1
  refine wpAny_bind (wpAny_newList ?_ (by have : (64 : Nat) ≤ sizeLine := by decide
                                          lia))
  have LG:(s1.heap.push (G0 "list" vs.toArray 0)).get? s1.heap.objs.size=bD (G0 "list" vs.toArray 0):=fx _ rfl;show et _ _ _ _ _ {s1 with heap:=s1.heap.push (G0 "list" vs.toArray 0)};refine b5 (t4 (II Z1 ⟨_,LG,rfl⟩ ZN (list_sort_treeK strKind_oneLt LG hS.keysOf (λv₁ v₂ rest e=>keyKind_strs (by rw[<-e];exact hS)) JT λst' a1 a2=>⟨_,rfl,?_⟩) (Z3 _)));obtain⟨J3,b1,b2,b3⟩:=sorted_out_str hS a1 a2;obtain⟨e,he⟩:=sortedHeap_at (out:=(arrOf st').map (·.2)) LG;rw[wR b2 b3]at b1;refine dt ⟨_,rfl,h _ ((arrOf st').map (·.2)).toList e (λb o q=>?_) (by rw[Xs];exact he) b1⟩;have HI:b<s1.heap.objs.size:=gc q;show(Y8 (s1.heap.push (G0 "list" vs.toArray 0)) s1.heap.objs.size vs ((arrOf st').map (·.2))).get? b=bD o;rw[ZZ (hZ HI) (by rw[KN];exact QW HI)];exact c4 _ q
def lQ(hl:Z4 s.heap l vs.toArray)
  (h:Q vs {s with heap:=(s.heap.push (G0 "list" #[] 0)).update s.heap.objs.size (nH (·++vs.toArray))}) (hsz:vs.length<=df) :
  et (hH prog w) A (Yf (.ref l)) Q E s:=by
 have⟨o,ho,b,n,c⟩:=id hl;unfold Yf;show b5 (Xb (Lm entry_proto_collect' ?_));change et _ _ (do ZW (.builtin "list.__iadd__" ⟨[<-Zi [],.ref l],[]⟩)) _ _ s;show b5 (XM (dt ⟨X8 _ (by decide +kernel),Lm entry_list_iadd' ?_⟩));change et _ _ (sL (.ref s.heap.objs.size) (.ref l) (.ref s.heap.objs.size)) _ _ {s with heap:=s.heap.push (G0 "list" #[] 0)};unfold sL;have a:(s.heap.push (G0 "list" #[] 0)).get? l=bD o:=c4 _ ho;show b5 (UO (T:="tuple") ⟨o,a,b⟩ ?_);have d:(ro "tuple"==ro "tuple")=b6:=by rfl
 rw[Z6 (by rw[d];simp)];show b5 (Yn a c ?_);show b5 (Yn (xs:=#[]) (n:=0) (fx _ rfl) rfl ?_);rw[Z7 (by simp)];show b5 (Uu (xs:=#[]) (n:=0) (fx _ rfl) rfl ?_ (i8 _) (by change(#[]++vs.toArray).size<=df+1;simp only[TC,hE,UJ];lia));show dt ?_;change et (hH prog w) A (do
   let o <-load s.heap.objs.size
   match o.data with
   |.seq xs _=>pure xs.toList
   |_=>We "internal:collect") Q E {s with heap:=(s.heap.push (G0 "list" #[] 0)).update s.heap.objs.size (nH (·++vs.toArray))}
 show b5 (YY (ZM (fx _ rfl) _) ?_);change et _ _ (pure ((#[]:Array dV)++vs.toArray).toList) Q E _;rw[show((#[]:Array dV)++vs.toArray).toList=vs by simp];show dt h
end
section
def lR{h:IZ}{vs:List dV}(e:h.get? b=bD o):((h.push (G0 "list" #[] 0)).update h.objs.size (nH (·++vs.toArray))).get? b=bD o:=by
 rw[Nc _ _ _ _ (hZ (gc e))];show c4 _ e
def pA(I:Inv X a σ H s)(k1:∀b o,s.heap.get? b=bD o->s1.heap.get? b=bD o)(i:∃d c,s1={s with heap:=d,toks:=c})
  (hk:∀b o,s1.heap.get? b=bD o->h'.get? b=bD o) (j:h'.get? s1.heap.objs.size=bD (G0 "list" g.toArray e)) (k:O6 g (aK f)) (hsz:s.heap.objs.size<=s1.heap.objs.size) (hl:f.length<=df)
  (q:∀p,H p=cb->Q (.ref p) (upd H p (.lst ((aK f).map V.str)))):EP X a σ Q (.ref s1.heap.objs.size) {s1 with heap:=h' }:=by
 have⟨d,c,rfl⟩:=i;have h:Inv X a σ H {s with heap:=d,toks:=c}:=I.kept (t':=c) k1;show⟨.ref d.objs.size,_,h.laid (t':=c) (o:=.lst ((aK f).map V.str)) hk (ix _) ⟨by rw[c2,cv];show hl,g,e,dH k,j⟩,rfl,q _ (h.Hr.fresh (ix _))⟩
def jx:gy X (.builtin "sorted") (λxs H Q=>∃(p:hA) (c:List Str),xs=[.ref p]/\(HX X.K H p (c.map V.str)\/Ie X.K H p (c.map V.str))/\c.length<64/\∀q,H q=cb->Q (.ref q) (upd H q (.lst ((aK c).map V.str)))):=by
 intro f s σ H xs us Q I rs h;have⟨p,c,rfl,hq,l,q⟩:=h;have⟨u,rfl,r⟩:=vals1 rs;cases r;have hl:c.length<=df:=OB (i9 l (by decide));have g:∀(a:List dV),Vals (c.map V.str) a->∀(h':IZ) (d:List dV) (e:Nat),(∀b o,((s.heap.push (G0 "list" #[] 0)).update s.heap.objs.size (nH (·++a.toArray))).get? b=bD o->h'.get? b=bD o) ->
   h'.get? ((s.heap.push (G0 "list" #[] 0)).update s.heap.objs.size (nH (·++a.toArray))).objs.size=bD (G0 "list" d.toArray e)->O6 d (aK c) ->
   EP X f σ Q (.ref ((s.heap.push (G0 "list" #[] 0)).update s.heap.objs.size (nH (·++a.toArray))).objs.size) {s with heap:=h' }:=λa rv h' d e hk i j =>
  pA (s1:={s with heap:=(s.heap.push (G0 "list" #[] 0)).update s.heap.objs.size (nH (·++a.toArray))}) I (λb o z=>lR z) ⟨_,s.toks,rfl⟩ hk i j (by change s.heap.objs.size<=((s.heap.push (G0 "list" #[] 0)).update s.heap.objs.size (nH (·++a.toArray))).objs.size;rw[Heap.size_update,KN];show KY _) hl q
 rcases hq with hq|hq
 .have⟨a,rv,k,hz⟩:=I.list hq;have m:a.length=c.length:=by rw[<-rv.length,c2]
  show fj (collect_list k.isList ⟨c,cM rv,⋯,λh' d e hk i j=>g a rv h' d e hk i j⟩ ⋯)
 .have⟨a,rv,k,hz⟩:=I.tuple hq;have m:a.length=c.length:=by rw[<-rv.length,c2]
  show fj (lQ k ⟨c,cM rv,⋯,λh' d e hk i j=>g a rv h' d e hk i j⟩ ⋯)
end
@[reducible]def sK(P:D9)(w:HL):=PySem.strKind P w
abbrev aT(P:D9)(w:HL)(h:IZ)(a:hA)(led:Bool)(D:List Str):Prop :=
 ∃(L:List (Str×Tok)) (es:Array (Int×dV)) (ep:Nat) (t:Nk),h.get? a=bD {cls:=.type "set",dict:=cb,data:=.set es ep t}/\es.toList=L.map (λp=>((sK P w).hash p.1,tj p.1 p.2)) /\
  (L.map (·.1)).Perm D/\D.Nodup/\t.fits es.size=b6/\es.size<Hw/\t.led=led/\(es.size=0\/t.plain=cK)
section
def kB{L:List (Str×Tok)}:ElemsOf (sK prog w) (L.map λp=>((sK prog w).hash p.1,tj p.1 p.2)):=by
 intro e a;obtain⟨p,_,rfl⟩:=js.mp a;show⟨⟨p.1,by simp[PySem.strKind,S8],rfl⟩,rfl⟩
def gA(x y:Str)(t:Tok):(sK prog w).is x (.str y t)=cc (x=y):=by
 rw[Jk];simp[PySem.strKind,S8];show⟨λh=>h.symm,λh=>h.symm⟩
def qZ(t:Nk)(es:Array (Int×dV))(h:Int)(x:dV):(layNew t es h x).2.1.led=t.led:=by
 unfold layNew;split
 .change(W8 (t.put _).1 _).led=t.led;unfold W8;split<;>rfl
 .rfl
def nY(t:Nk)(es:Array (Int×dV))(n:Nat):(Xi t es n).2.1.led=t.led:=by
 unfold Xi;split
 .rename_i t' b a;have:t'.led=t.led:=by
   unfold T1 RZ at a;cases c:Qq (JK n - 1) (es.map (·.1)) with
   |none=>rw[c]at a;cases a
   |some o=>rw[c]at a;cases a;rfl
  dsimp only
  split
  .show this
  .rfl
 .rfl
def kC(t:Nk)(es:Array (Int×dV))(n:Nat)(h:t.plain=cK):(Xi t es n).2.1.plain=cK:=by
 unfold Xi;split
 .rename_i t' b a;have:t'.plain=t.plain:=by
   unfold T1 RZ at a;cases c:Qq (JK n - 1) (es.map (·.1)) with
   |none=>rw[c]at a;cases a
   |some o=>rw[c]at a;cases a;rfl
  dsimp only
  split
  .rw[this];show h
  .rfl
 .rfl
def dg(h:l.Perm (L.map λp=>((sK prog w).hash p.1,tj p.1 p.2))):∃L':List (Str×Tok),l=L'.map (λp=>((sK prog w).hash p.1,tj p.1 p.2))/\L'.Perm L:=by
 have all:∀e∈l,∃p:Str×Tok,e=((sK prog w).hash p.1,tj p.1 p.2):=λe a=>by
  obtain⟨p,_,rfl⟩:=js.mp (h.mem_iff.mp a);show⟨p,rfl⟩
 have ex:∀l:List (Int×dV),(∀e∈l,∃p:Str×Tok,e=((sK prog w).hash p.1,tj p.1 p.2))->∃L':List (Str×Tok),l=L'.map (λp=>((sK prog w).hash p.1,tj p.1 p.2)):=by
  intro l;induction l with
  |nil=>intro _;show⟨[],rfl⟩
  |cons e l c =>
   intro b;have⟨p,rfl⟩:=b e ri;have⟨L',rfl⟩:=c λe a=>b e (ti _ a);show⟨p::L',rfl⟩
 have⟨L',rfl⟩:=ex l all;show⟨L',rfl,?_⟩;have g:(L'.map λp=>((sK prog w).hash p.1,tj p.1 p.2)).map (λe=>match e.2 with|.str x t=>(x,t)|_=>(tr,0))=L':=by
  rw[hh];show QR _
 have d:(L.map λp=>((sK prog w).hash p.1,tj p.1 p.2)).map (λe=>match e.2 with|.str x t=>(x,t)|_=>(tr,0))=L:=by
  rw[hh];show QR _
 have:=h.map (λe=>match e.2 with|.str x t=>(x,t)|_=>(tr,0));rw[g,d]at this;show this
theorem kD(hS:aT prog w s.heap a led D)(Mb:D.length+1<Hw)
    (h:∀h',my a s.heap h'->aT prog w h' a led (if x∈D then D else D++[x])->Q (cc (x∉D)) {s with heap:=h' }) :
    et (hH prog w) A (setAddHashed a (.str x tk) ((sK prog w).hash x)) Q E s:=by
  obtain⟨L,es,ep,t,ho,Ij,Hq,HJ,hf,hb,Io,Ii⟩:=hS;have MH:(sK prog w).is x (.str x tk)=b6:=by rw[gA];simp
  have Oi:ElemsOf (sK prog w) es.toList:=by rw[Ij];exact kB
  have hlen:es.size=D.length:=by rw[<-hY,Ij,c2,<-c2 (f:=YU) (as:=L),Hq.length_eq]
  unfold setAddHashed setAddHashedIn;refine t4 (b5 (lg ho rfl hf ?_))
  dsimp only
  rw[byScan_of (knd:=sK prog w) rfl hb Oi];simp only[↓reduceIte];unfold setAddByScan;refine b5 ?_;refine b5 (Ng ?_);refine b5 (Zt (knd:=sK prog w) MH ho rfl hf Oi ?_);have mem_iff:(∃e∈es.toList,(sK prog w).is x e.2=b6)↔x∈D:=by
    rw[Ij,<-Hq.mem_iff,js];constructor
    · rintro⟨e,he,hi⟩
      obtain⟨p,hp,rfl⟩:=js.mp he;rw[gA,Z5]at hi;exact⟨p,hp,hi.symm⟩
    · rintro⟨p,hp,e⟩
      exact⟨_,js.mpr ⟨p,hp,rfl⟩,by rw[gA];simp[e]⟩
  cases hr:WV (λe=>(sK prog w).is x e.2) es.toList with
  | some j =>
    dsimp only
    obtain⟨hj,Pz,_⟩:=Tz.mp hr;have hx:x∈D:=mem_iff.mp ⟨es.toList[j],J4 hj,Pz⟩;refine dt (dt ?_);have e:s={s with heap:=s.heap}:=by cases s;rfl
    have:=h s.heap (H0 a s.heap) (by rw[Z6 hx];exact⟨L,es,ep,t,ho,Ij,Hq,HJ,hf,hb,Io,Ii⟩);rw[Z8 (λz=>z hx)]at this;rw[e];exact this
  | none =>
    dsimp only
    have hx:x∉D:=λhx=>by
      obtain⟨e,he,hp⟩:=mem_iff.mpr hx;have:=Wa.mp hr e he;rw[hp]at this;exact Bool.noConfusion this
    have Vf:∀(b:Bool) {s₁:gs} {Q':Unit->gs->Prop},Q' () s₁->et (hH prog w) A (match b with|true=>Zy "set.scan.the-table-gave-way"|false=>pure ()) Q' E s₁ :=
      λb s₁ Q' hq=>by cases b<;>first|exact dt hq|exact Ng hq
    have Ny:=layNew_perm t es ((sK prog w).hash x) (.str x tk);have Kh:=layNew_fits t es ((sK prog w).hash x) (.str x tk);have JU:=qZ t es ((sK prog w).hash x) (.str x tk);generalize hL:layNew t es ((sK prog w).hash x) (.str x tk)=NL at Ny Kh JU ⊢;obtain⟨H_,t1,KZ,Vg⟩:=NL
    dsimp only at Ny Kh JU ⊢
    rw[Yb,Ij,show [((sK prog w).hash x,tj x tk)]=[(x,tk)].map (λp=>((sK prog w).hash p.1,tj p.1 p.2)) from rfl,<-ka]at Ny;obtain⟨L1,e1,Vh⟩:=dg Ny;have MI:H_.size=D.length+1:=by rw[<-hY,Ny.length_eq,c2,i0,<-hlen,<-hY,Ij,c2];rfl
    have Tg:H_.size<Hw:=by lia
    have Mc:(L1.map (·.1)).Perm (D++[x]):=(Vh.map _).trans (by rw[ka];exact Hq.append_right _);have Th:(D++[x]).Nodup:=by
      rw[oT]
      exact ⟨HJ, by simp, fun y hy z hz => by have : z = x := by simpa using hz
                                              subst this;rintro rfl;exact hx hy⟩
    refine b5 (Vf _ ?_);have LL:∀h',my a s.heap h'->aT prog w h' a led (D++[x])->Q b6 {s with heap:=h' }:=λh' sb hs=>by
      have:=h h' sb (by rw[Z7 hx];exact hs);rw[Z9 hx]at this;exact this
    have tail:∀(g:Bool->Sem Unit),(∀(b:Bool) (s₁:gs) (Q':Unit->gs->Prop),Q' () s₁->et (hH prog w) A (g b) Q' E s₁)->∀(R:Option Bool->gs->Prop),(∀h',my a s.heap h'->aT prog w h' a led (D++[x])->R (bD b6) {s with heap:=h' })->∀t2:Nk,t2.fits H_.size=b6->t2.led=led->t2.plain=cK->et (hH prog w) A (do
        storeSet a H_ t2
        if (!KZ&&t2.tooFull)=true then do
            g (relayAll t2 H_ (SetTable.grown H_.size)).2.2
            storeSet a (relayAll t2 H_ (SetTable.grown H_.size)).1 (relayAll t2 H_ (SetTable.grown H_.size)).2.1
            pure (some true)
          else pure (bD b6)) R E s:=by
      intro g hg R hR t2 Vi K3 LM;refine b5 (UP ho rfl ?_ (Vl Tg));have Lu:(s.heap.update a (N0 H_ t2)).get? a=bD {cls:=.type "set",dict:=cb,data:=.set H_ (ep+1) t2}:=by
        have:=uv (N0 H_ t2) ho rfl;exact this
      have Oj:=D' s.heap a (N0 H_ t2);split
      · have hp:=relayAll_perm t2 H_ (Mr H_.size)
        have Lv:=relayAll_fits t2 H_ (Mr H_.size);have Ri:=nY t2 H_ (Mr H_.size);have Nz:=kC t2 H_ (Mr H_.size) LM;generalize Rj:Xi t2 H_ (Mr H_.size)=Rl at hp Lv Ri Nz ⊢;obtain⟨Md,t3,Ti⟩:=Rl
        dsimp only at hp Lv Ri Nz ⊢
        rw[e1]at hp;obtain⟨L2,e2,Vj⟩:=dg hp;have hsz:Md.size=H_.size:=by rw[<-hY,hp.length_eq,<-e1,hY]
        refine b5 (hg _ _ _ ?_);refine b5 (UP Lu rfl ?_ (Vl ⋯));have Mg:((s.heap.update a (N0 H_ t2)).update a (N0 Md t3)).get? a=bD {cls:=.type "set",dict:=cb,data:=.set Md (ep+1+1) t3}:=uv (N0 Md t3) Lu rfl;refine dt (hR _ (Oj.trans (D' _ a _)) ⟨L2,Md,_,t3,Mg,e2,(Vj.map _).trans Mc,Th,Lv,⋯,Ri.trans K3,.inr Nz⟩)
      · exact dt (hR _ Oj ⟨L1,H_,_,t2,Lu,e1,Mc,Th,Vi,Tg,K3,.inr LM⟩)
    split
    · rename_i hp
      refine b5 ?_;rw[hashByValue_scannable 8 rfl];refine dt ?_;have ep:(if plainKind (tj x tk)=b6 then t1 else {t1 with plain:=cK})={t1 with plain:=cK}:=rfl;rw[ep];refine tail _ ?_ _ ?_ {t1 with plain:=cK} (SetTable.fits_plain_off Kh) (JU.trans Io) rfl
      · intro b s₁ Q' hq;cases b<;>first|exact dt hq|exact Ng hq
      · intro h' Kq Jt;dsimp only;exact dt (LL h' Kq Jt)
    · rename_i hp
      refine b5 (dt ?_);simp only[↓reduceIte];refine tail _ ?_ _ ?_ t1 Kh (JU.trans Io) (Bool.eq_false_iff.mpr hp)
      · intro b s₁ Q' hq;cases b<;>first|exact dt hq|exact Ng hq
      · intro h' Kq Jt;dsimp only;exact dt (LL h' Kq Jt)
end
abbrev jL(D:List Str)(x:Str):List Str:=if x∈D then D else D++[x]
abbrev ay(l:List Str):List Str:=l.foldl jL []
theorem q9(h:D.Nodup):(jL D x).Nodup:=by
  unfold jL;split
  · exact h
  · rename_i hx
    rw[oT]
    exact ⟨h, by simp, fun y hy z hz => by have : z = x := by simpa using hz
                                           subst this;rintro rfl;exact hx hy⟩
theorem fk:∀(l D:List Str),D.Nodup->(l.foldl jL D).Nodup/\(∀x,x∈l.foldl jL D↔x∈D\/x∈l)/\(l.foldl jL D).length<=D.length+l.length
 |[],D,h=>⟨h,by simp,by simp⟩
 |y::l,D,h=>by
  have⟨a,b,f⟩:=fk l (jL D y) (q9 h);have c:∀x,x∈jL D y↔x∈D\/x=y:=λx=>by
   unfold jL;split
   .rename_i d;show⟨.inl,λz=>z.elim id (λe=>e▸d)⟩
   .simp
  have hl:(jL D y).length<=D.length+1:=by
   unfold jL;split
   .lia
   .simp
  show⟨a,λx=>?_,by rw[RC,ke];lia⟩;rw[RC,b,c,gj,or_assoc]
def aX(l:List Str):(ay l).Nodup:=(fk l [] R6).1
def aN(l:List Str)(x:Str):x∈ay l↔x∈l:=by rw[ay,(fk l [] R6).2.1];simp
def gS(l:List Str):(ay l).length<=l.length:=by have:=(fk l [] R6).2.2;simpa[ay] using this
def pB(l:List Str)(x:Str):ay (l++[x])=jL (ay l) x:=by unfold ay;rw[List.foldl_append];rfl
section
variable{prog:D9}{w:HL}{A:MN}{R:Result->gs->Prop}{I:hA}{fp wr:List hA}{G:Array YI->Array YI->Prop}{n:Nat}{P:Nat->dV->Prop}{St:Nat->gs->Prop}
def i_(W:Y4 prog w A.in1 I fp wr G n P St)(S:hA)(l:S∉fp)(led:Bool)
  (a:List Str) (hn:a.length=n) (u:∀i v,P i v->∃x t,a[i]?=bD x/\v=.str x t) (c:n+1<Hw) :
  ∀(k i:Nat) (s:gs),n - i=k->i<=n->St i s->aT prog w s.heap S led (ay (a.take i)) ->
   (∀s',Moved (S::wr) G s s'->aT prog w s'.heap S led (ay a)->R (.ok (.ret .none)) s') ->
   Qf (hH prog w) A (.builtin "set.update.loop" ⟨[.ref S,.ref I],[]⟩) R s:=by
 have m:S∉wr:=λh=>l (W.sub _ h);have p:∀b∈wr,b∈S::wr:=λb c=>ti _ c;intro k;induction k with
 |zero =>
  intro i s hk y g f j;have z:i=n:=by lia
  subst z;show Lm QS ?_;rw[Mz L8 _];change et _ A.in1 (Sg (.ref I) >>= _) _ _ s;show b5 (W.done s _ _ g λs' d=>?_);change et _ A.in1 (ret nc) _ _ s';rw[Oc ⋯]at f;show dt (j s' (d.mono p) (by
   have⟨L,es,ep,t,ho,rest⟩:=f;show⟨L,es,ep,t,d.heap S _ m ho,rest⟩))
 |succ k B =>
  intro i s hk y g f j;have q:i<n:=by lia
  show Lm QS ?_;rw[Mz L8 _];change et _ A.in1 (Sg (.ref I) >>= _) _ _ s;show b5 (W.item i s _ _ q g λv s' C D d=>?_);have⟨x,t,H,rfl⟩:=u i v C;have J:aT prog w s'.heap S led (ay (a.take i)):=by
   have⟨L,es,ep,N,ho,rest⟩:=f;show⟨L,es,ep,N,d.heap S _ m ho,rest⟩
  change et _ A.in1 (LY [tj x t] (setAdd S (.str x t)) >>= _) _ _ s';show b5 (t4 ?_);unfold setAdd;show t4 ?_;show b5 ((sK prog w).pyHash (k:=x) (by rw[gA];simp) ?_);have O:(ay (a.take i)).length+1<Hw:=by have:=gS (a.take i);rw[G1]at this;lia
  show kD (s:={s' with toks:=s'.toks+1}) J O λh' r Q=>?_;have T:aT prog w h' S led (ay (a.take (i+1))):=by
   rw[List.take_add_one,H];change aT prog w h' S led (ay (a.take i++[x]));rw[pB];show Q
  show dt ⟨RA L8 _,B (i+1) _ ⋯ q (W.frame _ s' _ _ D (KY _) λb c o e=>?_) T λY Rm Rn=>?_⟩
  .rw[r.2 b (λh:b=S=>l (by rw[<-h];show c))];show e
  .show j Y (Zn W.gtrans ((d.mono p).then_heap (KY _) λb o c e=>?_) Rm) Rn;rw[r.2 b (λh:b=S=>c (by rw[h];show ri))];show e
end
section
def lS(a:dV)
  (h:Q₁ (.ref s.heap.objs.size) {s with heap:=s.heap.push {cls:=.type "set",dict:=cb,data:=.set #[] 0 (.fresh 0 0 (!w.params.followText "set-order"))}}) :
  Qf (hH prog w) A (.call (.builtin "set.__new__") ⟨[.type "set",a],[]⟩) (wants Q₁ E) s:=by
 show ZJ ?_;change et _ A.in1 (do checkBuiltinCall "set.__new__" ⟨[.type "set",a],[]⟩;ZW (.builtin "set.__new__" ⟨[.type "set",a],[]⟩)) _ _ s;show b5 (Wc (PySem.F.newCall_set_1 a) (dt ⟨RA PySem.F.plain_set_new _,Lm PySem.F.entry_set_new ?_⟩));rw[Mz PySem.F.plain_set_new _];unfold M4.«set.__new__» YM;have b:=UY;have⟨c,g,d,e,os⟩:=s
 dsimp only
 wp_walk
 show PM (dt ?_)
 dsimp only
 simp only[newObj];show b5 (wpAny_alloc (dt ?_));show dt h
def gT(b:h.get? a=bD {cls:=.type "set",dict:=cb,data:=.set #[] 0 (.fresh 0 0 led)}):aT prog w h a led [] :=
 ⟨[],#[],0,_,b,rfl,.nil,R6,rfl,by unfold Hw;decide,rfl,.inl rfl⟩
end
def sub_tuple_set:OM (.type "tuple") (.type "set")=pure cK:=by rw[HZ];kernel_rfl
def sub_tuple_frozenset:OM (.type "tuple") (.type "frozenset")=pure cK:=by rw[HZ];kernel_rfl
section
@[reducible]def aD(w:HL):Bool:=!w.params.followText "set-order"
@[reducible]def q_(led:Bool):Obj:={cls:=.type "set",dict:=cb,data:=.set #[] 0 (.fresh 0 0 led)}
def iw
  (L:s.TypeIs (.ref l) T) (Vm:OM (.type T) (.type "set")=pure cK) (Vn:OM (.type T) (.type "frozenset")=pure cK) (Ih:(ro T==ro "dict")=cK)
  (N:a.length+1<Hw)
  (k:∀(s1:gs) (B:MN) (Q':dV->gs->Prop),B.handled=A.handled->(∀b o,s.heap.get? b=bD o->s1.heap.get? b=bD o)->s.heap.objs.size<s1.heap.objs.size ->
   (∀I m n G P St d,Y4 prog w B.in1 I m n G a.length P St->(∀g g',G g g'->g'=g)->s.heap.objs.size∉m->(∀b∈n,s.heap.objs.size<b)->(∀i v,P i v->∃x t,a[i]?=bD x/\v=.str x t)->St 0 {s1 with heap:=d}->(∀b o,s1.heap.get? b=bD o->d.get? b=bD o)->Q' (.ref I) {s1 with heap:=d})->et (hH prog w) B (Xl (.ref l)) Q' E s1)
  (h:∀(h':IZ) (f:Nat),aT prog w h' s.heap.objs.size (aD w) (ay a)->(∀b o,b<s.heap.objs.size->s.heap.get? b=bD o->h'.get? b=bD o)->Q (.ref s.heap.objs.size) {s with heap:=h',toks:=f}) :
  et (hH prog w) A (MK (.type "set") [.ref l]) Q E s:=by
 have⟨c,tl,Vo⟩:=PySem.F.called_set.mro;have Tn:=PySem.F.called_set.made;have K5:=PySem.F.called_set.sub;show wpAny_call (ZJ ?_);change et _ _ (callAny (.type "set") _) _ _ _;show dt ⟨X8 _ (by decide +kernel),Lm PySem.F.entry_type_call ?_⟩;rw[Around.under_plain (weight_type_call_type "set" [.ref l] []) rfl];have d:=PySem.F.called_set.notType;have h2:=PySem.F.called_set.canCreate;have Xy:=PySem.F.typeCall_set_1 (.ref l)
 repeat (any_goals (first|assumption|wp_step))
 show Sh (lS (.ref l) (E:=E) (Q₁:=λobj C=>obj=.ref s.heap.objs.size/\C={s with heap:=s.heap.push (q_ (aD w))}) ⟨rfl,rfl⟩) λr C p=>?_;cases r with
 |error e=>show p
 |ok O =>
  cases O with
  |ret obj =>
   have⟨rfl,rfl⟩:=p;have D:(s.heap.push (q_ (aD w))).get? s.heap.objs.size=bD (q_ (aD w)):=fx _ rfl;have Y:QL {s with heap:=s.heap.push (q_ (aD w))} (.ref s.heap.objs.size) "set":=⟨_,D,rfl⟩
   have Xz:=PySem.F.called_set.init.lookup;have XA:=PySem.F.called_set.init.bind (.ref s.heap.objs.size)
   repeat (any_goals (first|assumption|wp_step))
   show Sh (codeAny_call_builtin (R:=wants (λr H=>r=.none/\∃h' f,H={s with heap:=h',toks:=f} /\
     aT prog w h' s.heap.objs.size (aD w) (ay a) /\
     (∀b o,b<s.heap.objs.size->s.heap.get? b=bD o->h'.get? b=bD o)) E) PySem.F.called_set.init.plain PySem.F.entry_set_init (check_set_init_1 Y ?_)) λr₂ H q=>?_
   .have⟨ol,Ol,J⟩:=L;have⟨Vp,Om,Oo,MJ⟩:=ol;simp only at J;subst J;have Rp:(s.heap.push (q_ (aD w))).get? l=bD {cls:=.type T,dict:=Om,data:=Oo,slots:=MJ}:=c4 _ Ol;have To:QL {s with heap:=s.heap.push (q_ (aD w))} (.ref l) T:=⟨_,Rp,rfl⟩
    unfold M4.«set.__init__» noKeywords YK;generalize Vq:Xl=PI
    wp_walk
    subst Vq;show k {s with heap:=s.heap.push (q_ (aD w))} _ _ rfl (λb o e=>c4 _ e) (by rw[KN];show Nb _) λI m n G P St d W hG hf Vr K4 Hx hk=>?_;show b5 (Xb ?_);show i_ W s.heap.objs.size hf (aD w) a rfl K4 N (a.length - 0) 0 _ ⋯ (i8 _) Hx (gT (hk _ _ D)) ?_;intro s' j u;have⟨h',g',d',Vs,QJ⟩:=s';have eg:g'=s.gens:=hG _ _ j.gens;have ed:d'=s.drawn:=j.drawn;have eo:QJ=s.os:=j.os;subst eg;subst ed;subst eo;change et _ _ _ _ _ _;show dt ?_;change et _ _ (ret nc) _ _ _;show dt ⟨rfl,h',Vs,rfl,u,λb o y e=>?_⟩;show j.heap b o (λz=>by
     rcases gj.mp z with z|z
     .rw[z]at y;show u3 _ y
     .show absurd (Vr b z) (YO y)) (hk _ _ (c4 _ e))
   .cases r₂ with
    |error e=>show q
    |ok Vt =>
     cases Vt with
     |ret r =>
      have⟨rfl,h',f,rfl,u,Il⟩:=q
      repeat (any_goals (first|assumption|wp_step))
      show h _ _ u Il
     |_=>show q.elim
  |_=>show p.elim
end
section
theorem nZ:∀{vs:List dV}{a:List Str},O6 vs a->∀(i:Nat) (v:dV),vs[i]?=bD v->∃x t,a[i]?=bD x/\v=.str x t
 |_,_,.nil,i,v,h=>by simp at h
 |_,_,.cons x t h,0,v,e=>by simp at e;show⟨x,t,rfl,e.symm⟩
 |_,_,.cons x t h,i+1,v,e=>by rw[Q2]at e;rw[Q2];show nZ h i v e
theorem iy:∀{vs:List dV}{a:List Str},O6 vs a->vs.length=a.length
 |_,_,.nil=>rfl
 |_,_,.cons x t h=>by simp[iy h]
def sY(a:n≠S)(b:n≠l):n∉[S,l]:=by simp[a,b]
def fM(j:A.handled=cb)(hl:s.heap.IsList l vs.toArray)(f:O6 vs a)(c:a.length+1<Hw)
  (h:∀(h':IZ) (k:Nat),aT prog w h' s.heap.objs.size (aD w) (ay a)->(∀b o,b<s.heap.objs.size->s.heap.get? b=bD o->h'.get? b=bD o)->Q (.ref s.heap.objs.size) {s with heap:=h',toks:=k}) :
  et (hH prog w) A (MK (.type "set") [.ref l]) Q E s:=by
 have g:l<s.heap.objs.size:=let ⟨o,ho,_⟩:=hl;gc ho;show iw hl.typeIs PySem.F.sub_list_set PySem.F.sub_list_frozenset (by decide) c (λs1 B Q' m hk d n=>?_) h;have JU:s1.heap.IsList l vs.toArray:=let ⟨o,ho,r⟩:=hl;⟨o,hk _ _ ho,r⟩;show Ro JU ?_;have p:l≠s1.heap.objs.size:=hZ (T6 g d);have W:=(XY (prog:=prog) (w:=w) (A:=B.in1) (by simp[m,j]) s1.heap.objs.size l p vs.toArray).toS;have q:vs.toArray.size=a.length:=by simp[iy f]
 rw[q]at W;show n _ _ _ _ _ _ _ W (λ_ _ e=>e) (sY (hZ d) (Iq g)) (λb c=>by rw[hV.mp c];show d) (λi v t=>nZ f i v (by simpa using t)) ⟨⟨_,fx _ rfl,rfl,rfl⟩,JU.push _⟩ λb o e=>c4 _ e
def gB(j:A.handled=cb)(hl:s.heap.IsTuple l vs.toArray)(f:O6 vs a)(c:a.length+1<Hw)
  (h:∀(h':IZ) (k:Nat),aT prog w h' s.heap.objs.size (aD w) (ay a)->(∀b o,b<s.heap.objs.size->s.heap.get? b=bD o->h'.get? b=bD o)->Q (.ref s.heap.objs.size) {s with heap:=h',toks:=k}) :
  et (hH prog w) A (MK (.type "set") [.ref l]) Q E s:=by
 have g:l<s.heap.objs.size:=let ⟨o,ho,_⟩:=hl;gc ho;show iw hl.typeIs sub_tuple_set sub_tuple_frozenset (by decide) c (λs1 B Q' m hk d n=>?_) h;have JU:s1.heap.IsTuple l vs.toArray:=let ⟨o,ho,r⟩:=hl;⟨o,hk _ _ ho,r⟩;show Ot JU ?_;have p:l≠s1.heap.objs.size:=hZ (T6 g d);have W:=(Walks.tuple (prog:=prog) (w:=w) (A:=B.in1) (by simp[m,j]) s1.heap.objs.size l p vs.toArray).toS;have q:vs.toArray.size=a.length:=by simp[iy f]
 rw[q]at W;show n _ _ _ _ _ _ _ W (λ_ _ e=>e) (sY (hZ d) (Iq g)) (λb c=>by rw[hV.mp c];show d) (λi v t=>nZ f i v (by simpa using t)) ⟨⟨_,fx _ rfl,rfl,rfl⟩,let ⟨o,ho,r⟩:=JU;⟨o,c4 _ ho,r⟩⟩ λb o e=>c4 _ e
def n9(a:n≠0)(h:∀i<n,Q i {s with drawn:=s.drawn.bump src}):et M A (choose src n) Q E s:=λΓ p b=>by
 change Sem.wp M Γ (.choose src n .pure) _ _ p s;rw[Sem.wp_choose];show⟨a,h _ (V' _ (Nat.pos_of_ne_zero a))⟩
theorem gU:∀{xs:List α}{i:Nat}{x:α},xs[i]?=bD x->(x::xs.eraseIdx i).Perm xs
 |[],i,x,h=>by simp at h
 |y::a,0,x,h=>by simp at h;subst h;show .refl _
 |y::a,i+1,x,h=>by
  rw[Q2]at h;rw[Rg];show(X2 y x _).trans ((gU h).cons y)
theorem gC:∀(n:Nat) (xs:List α) (s:gs) (Q:List α->gs->Prop),xs.length=n->(∀a d,a.Perm xs->Q a {s with drawn:=d})->et M A (drawOrder n xs) Q E s
 |0,xs,s,Q,b,h=>by
  have:xs=[]:=Q1.mp b;subst this;show dt (h [] s.drawn (.refl _))
 |n+1,[],s,Q,b,h=>by simp at b
 |n+1,y::a,s,Q,b,h=>by
  change et M A (choose .order (y::a).length >>= _) Q E s;show b5 (n9 (by simp) λi c=>?_);have e:(y::a)[i]?=bD ((y::a)[i]'c):=mA c;have f:=gU e;generalize (y::a)[i]'c=x at e f;simp only[e];show b5 (gC n _ _ _ (by have:=f.length_eq;simp at this b ⊢;lia) λg d hz=>?_);show dt (h (x::g) d ((hz.cons x).trans f))
theorem jy(next:Nat->Nat):∀(fuel k:Nat) (left:List α) (out:Array α),left.length=fuel->(Ve next fuel k left out).toList.Perm (out.toList++left)
 |0,k,left,out,hl=>by
  have:left=[]:=Q1.mp hl;subst this;simp[Ve]
 |fuel+1,k,left,out,hl=>by
  unfold Ve;have a:next k % left.length<left.length:=V' _ ⋯;have e:left[next k % left.length]?=bD (left[next k % left.length]'a):=mA a;have b:=gU e;generalize left[next k % left.length]'a=x at e b;simp only[e];show(jy next fuel _ _ _ (by have:=b.length_eq;simp at this;lia)).trans ?_;rw[Yb,Yu];show(b.append_left _)
def dS(next:Nat->Nat)(xs:Array α):(V2 next xs).toList.Perm xs.toList:=by
 have:=jy next xs.size 0 xs.toList #[] (by simp);simpa[V2] using this
end
namespace SI
def pC:Manifest.owners.lookup (String.ofList ['r','o','t','a','r','e','t','i','_','t','e','s'].reverse)=bD Manifest.sig_set_iterator:=by kernel_rfl
def slot_next:Slot "set_iterator" "__next__" "set_iterator.__next__" :=
 .of (owner:="set_iterator") (n:="__next__") (by rw[QB,MM];kernel_rfl) (by decide +kernel) (by decide +kernel) (by decide +kernel)
  (by first|show .inl (by decide +kernel)|show .inr (by decide +kernel)) (by rw[HZ];kernel_rfl)
def entry_next:YF table "set_iterator.__next__"=bD M4.«set_iterator.__next__»:=entryFor_of_tree (by kernel_rfl)
def args_next(a:dV):Y3 "set_iterator.__next__" ⟨[a],[]⟩:=by
 unfold Y3;rw[signature?_of (id:="set_iterator.__next__") (n:=['_','_','t','x','e','n','_','_']) (o:=['r','o','t','a','r','e','t','i','_','t','e','s']) (by kernel_rfl) pC];kernel_rfl
def mB:Slot "set_iterator" "__iter__" "set_iterator.__iter__" :=
 .of (owner:="set_iterator") (n:="__iter__") (by rw[QB,MM];kernel_rfl) (by decide +kernel) (by decide +kernel) (by decide +kernel)
  (by first|show .inl (by decide +kernel)|show .inr (by decide +kernel)) (by rw[HZ];kernel_rfl)
def uX(a:dV):Y3 "set_iterator.__iter__" ⟨[a],[]⟩:=by
 unfold Y3;rw[signature?_of (id:="set_iterator.__iter__") (n:=['_','_','r','e','t','i','_','_']) (o:=['r','o','t','a','r','e','t','i','_','t','e','s']) (by kernel_rfl) pC];kernel_rfl
def ra:YF table "set_iterator.__iter__"=bD M4.«dict_keyiterator.__iter__» :=
 Xm (id':="dict_keyiterator.__iter__") (by kernel_rfl) (by first|rfl|decide +kernel|(unfold String.splitOn;simp +decide [String.splitOnAux])) (by decide +kernel) (by kernel_rfl)
def kF:YF table "set.__iter__"=bD M4.«frozenset.__iter__» :=
 Xm (id':="frozenset.__iter__") (by kernel_rfl) rfl (by decide +kernel) (by kernel_rfl)
end SI
section
variable{prog:D9}{w:HL}{A:MN}{E:dV->gs->Prop}{s:gs}
abbrev gV(h:IZ)(I:hA)(first:dV)(i:Nat)(S:hA)(n ep:Nat):Prop:=∃o,h.get? I=bD o/\o.cls=.type "set_iterator"/\o.data=.fields #[first,ve i,.ref S,ve n,ve ep]
def gV.typeIs(x:gV s.heap I f i S n ep):s.TypeIs (.ref I) "set_iterator":=let ⟨o,ho,a,_⟩:=x;⟨o,ho,a⟩
def zW(a:gV s.heap I f i S n ep)(h:Q (.ref I) s):et (hH prog w) A (Xl (.ref I)) Q E s:=by
 show Zd a.typeIs SI.mB (II SI.mB a.typeIs SI.ra ?_ (SI.uX _));change et _ _ (ret (.ref I)) _ _ s;show dt ⟨_,rfl,"set_iterator",_,a.typeIs,SI.slot_next.lookup,h⟩
def cN(h:Q (M.w.params.followText "set-order") s):et M A Y1 Q E s:=by
 unfold Y1;show b5 (PM (dt h))
end
end L2
namespace L2
open PySem PySem.Spec PyProof.Rows
section
variable{prog:D9}{w:HL}{A:MN}{E:dV->gs->Prop}{s:gs}
@[reducible]def n_(es:Array (Int×dV))(ep:Nat)(t:Nk):Obj:={cls:=.type "set",dict:=cb,data:=.set es ep t}
def pD{I:hA}{B:MN}{Q:Option dV->gs->Prop}{c:IZ}{k:dV->Sem (Option dV)}(d:B.handled=cb)
  (f:∀h',(∀b o,c.get? b=bD o->h'.get? b=bD o)->∀e,QL {s with heap:=h' } e "StopIteration"->E e {s with heap:=h' }) {Q':Fin->gs->Prop} :
  et (hH prog w) B (Ye (.type "StopIteration") [] >>= λe=>(Xj e:Sem Fin)) Q' E {s with heap:=c}:=by
 show b5 ?_;simp only[Ye,ZR];show b5 (DD ?_ (by size_fits));show b5 (m:=Tx _ _) (Wc (a:=nc) (by first|rfl|(simp only[Tx];rfl)) ?_);show DD ?_ (by size_fits);simp only[Xj];show b5 (wpAny_handled ?_);rw[d];show b5 (dt (wpAny_throw ?_));show f _ (λb o e=>c4 _ (c4 _ e)) _ ⟨_,fx _ rfl,rfl⟩
def sZ{I S:hA}{first:dV}{i ep:Nat}{es:Array (Int×dV)}{t:Nk}(d:gV s.heap I first i S es.size ep)(ho:s.heap.get? S=bD (n_ es ep t))(j:t.fits es.size=b6)
  (k:∀(Q':Fin->gs->Prop) (h:dV->gs->Prop) ,(∀v s',Q (bD v) s'->Q' (.done (.ret v)) s')->(∀e s',s'.TypeIs e "StopIteration"->Q cb s'->h e s') ->
   et (hH prog w) A.in1 (if let .int slot _:=first then(do
     match <-UZ S slot.toNat i ep with
     |some (x,next) =>
      U0 (.ref I) 0 (ve next)
      U0 (.ref I) 1 (ve ((i:Int)+1))
      ret x
     |none=>U0 (.ref I) 2 .none;Xj (<-Ye (.type "StopIteration") []))
    else(do
     let bD c <-X4 first|unsupported "internal:set_iterator"
     match c[i]? with
     |some (.int f _) =>
      let x <-Yd S f.toNat ep
      U0 (.ref I) 1 (ve ((i:Int)+1))
      ret x
     |some _=>We "internal:set_iterator"
     |none=>U0 (.ref I) 0 (ve 0);U0 (.ref I) 2 .none;Xj (<-Ye (.type "StopIteration") []))) Q' h s):et (hH prog w) A (Sg (.ref I)) Q E s:=by
 have⟨o,l,n,m⟩:=id d;unfold Sg;show b5 (wpAny_attempt (OF (name:=Qo "__next__") d.typeIs SI.slot_next
  (II SI.slot_next d.typeIs SI.entry_next ?_ (SI.args_next _))))
 unfold M4.«set_iterator.__next__»;show b5 (Wc (a:=(kj I,[])) rfl ?_)
 try dsimp only
 show b5 (wpAny_fieldsOf l m ?_)
 try dsimp only
 show b5 (QK ho rfl j ?_);rw[Z7 (by simp)];show tA (k (λg s'=>∃r,g=.done (.ret r)/\Q (bD r) s') (λe s'=>s'.TypeIs e "StopIteration"/\Q cb s') (λv s' q=>⟨v,rfl,q⟩) λe s' z q=>⟨z,q⟩) ?_ ?_
 .rintro g s' ⟨r,rfl,q⟩;show⟨r,rfl,dt q⟩
 .rintro e s' ⟨z,q⟩;show b5 (NW (T:="StopIteration") (b:=b6) z ZS ?_);show dt q
end
section
def s9{I S:hA}{f f':dV}{i n ep:Nat}{h:IZ}{o:Obj}(b:h.get? I=bD o)(c:o.cls=.type "set_iterator")(a:o.data=.fields #[f,ve i,.ref S,ve n,ve ep]):
  gV (h.update I (Zm (·.setIfInBounds 1 (ve ((i:Int)+1))))) I f (i+1) S n ep :=
 ⟨_,uv _ b (R0 (L6 a _)),(T5 ..).trans c,by rw[L6 a];simp⟩
def pE{h:IZ}(b:h.get? I=bD o)(c:o.cls=.type "set_iterator")(a:o.data=.fields #[f,ve i,.ref S,ve n,ve ep]):
  ∃o',(h.update I (Zm (·.setIfInBounds 0 f'))).get? I=bD o'/\o'.cls=.type "set_iterator"/\o'.data=.fields #[f',ve i,.ref S,ve n,ve ep] :=
 ⟨_,uv _ b (R0 (L6 a _)),(T5 ..).trans c,by rw[L6 a];simp⟩
def wU{I S:hA}{slot i ep:Nat}{es:Array (Int×dV)}{t:Nk}{Q:Option dV->gs->Prop}(a:gV s.heap I (ve slot) i S es.size ep)(ho:s.heap.get? S=bD (n_ es ep t))(j:t.fits es.size=b6)(l:A.handled=cb)
  {r:Option (dV×Nat)} (m:∀(B:MN) (f:dV->gs->Prop) (Q':Option (dV×Nat)->gs->Prop),Q' r s->et (hH prog w) B (UZ S slot i ep) Q' f s)
  (n:∀x nx,r=bD (x,nx)->∀h',gV h' I (ve nx) (i+1) S es.size ep->my I s.heap h'->Q (bD x) {s with heap:=h' })
  (q:r=cb->∀h',(∀b o,b≠I->s.heap.get? b=bD o->h'.get? b=bD o)->Q cb {s with heap:=h' }):et (hH prog w) A (Sg (.ref I)) Q E s:=by
 show sZ a ho j λQ' f u v=>?_;have⟨o,c,y,d⟩:=id a;change et _ _ (UZ S slot i ep >>= _) _ _ s;show b5 (m _ _ _ ?_);cases r with
 |some p =>
  have⟨x,nx⟩:=p
  dsimp only
  show b5 (L4 c d (by simp) ?_);have⟨o',g,z,h⟩:=pE (f':=ve nx) c y d;show b5 (L4 (s:={s with heap:=_}) g h (by simp) ?_);show dt (u _ _ (n x nx rfl _ (s9 (f':=ve nx) g z h) ((D' ..).trans (D' ..))))
 |none =>
  dsimp only
  show b5 (L4 c d (by simp) ?_);show pD (I:=I) (k:=λ_=>pure cb) (Q:=λ_ _=>True) (s:=s) (by simpa using l) λh' hk e C=>v e _ C (q rfl h' λb D G H=>hk b D ?_);rw[Nc _ _ _ _ G];show H
def C6{I S T:hA}{i ep:Nat}{es:Array (Int×dV)}{t:Nk}{a:List Nat}{Q:Option dV->gs->Prop}(c:gV s.heap I (.ref T) i S es.size ep)(ho:s.heap.get? S=bD (n_ es ep t))(m:t.fits es.size=b6)(r:A.handled=cb)
  (u:s.heap.IsTuple T ((a.map λ(j:Nat)=>ve j).toArray))
  (v:∀(j:Nat) (e:Int×dV),a[i]?=bD j->es[j]?=bD e->∀h',gV h' I (.ref T) (i+1) S es.size ep->my I s.heap h'->Q (bD e.2) {s with heap:=h' })
  (x:∀j∈a,j<es.size)
  (y:a[i]?=cb->∀h',(∀b o,b≠I->s.heap.get? b=bD o->h'.get? b=bD o)->Q cb {s with heap:=h' }):et (hH prog w) A (Sg (.ref I)) Q E s:=by
 show sZ c ho m λQ' O z B=>?_;have⟨o,d,n,f⟩:=id c;have⟨Y,C,XB,nT,D⟩:=u;change et _ _ (X4 (.ref T) >>= _) _ _ s;show b5 (Tv C D ?_);cases e:a[i]? with
 |some j =>
  have g:(a.map λ(j:Nat)=>ve j).toArray[i]?=bD (ve j):=by simp[e]
  simp only[g];have h:j<es.size:=x j (mx e);have l:es[j]?=bD (es[j]'h):=by simp[h]
  change et _ _ (Yd S (j:Int).toNat ep >>= _) _ _ s;unfold Yd;rw[OD];show b5 (b5 (lg ho rfl m ?_))
  dsimp only
  rw[Z7 (by simp)];generalize es[j]'h=p at l;simp only[l];show dt ?_;show b5 (L4 d f (by simp) ?_);show dt (z _ _ (v j p e l _ (s9 (f':=.ref T) d n f) (D' ..)))
 |none =>
  have g:(a.map λ(j:Nat)=>ve j).toArray[i]?=cb:=by simp at e ⊢;show e
  simp only[g];show b5 (L4 d f (by simp) ?_);have⟨o',G,e2,H⟩:=pE (f':=ve 0) d n f;show b5 (L4 (s:={s with heap:=_}) G H (by simp) ?_);show pD (I:=I) (k:=λ_=>pure cb) (Q:=λ_ _=>True) (s:=s) (by simpa using r) λh' hk ex J=>B ex _ J (y e h' λb L q N=>hk b L ?_);rw[Nc _ _ _ _ q,Nc _ _ _ _ q];show N
end
section
def gV.at(x:gV h I f i S n ep)(e:∀o,h.get? I=bD o->h'.get? I=bD o):gV h' I f i S n ep:=let ⟨o,ho,r⟩:=x;⟨o,e _ ho,r⟩
def kG(r:A.handled=cb)(n:S≠I)(u:t.fits es.size=b6)(T:hA)(p:T≠I)(c:List dV)(k:c.length=es.size)
  (first:Nat->dV) (a:IZ->Prop) (l:∀h h',a h->(∀o,h.get? T=bD o->h'.get? T=bD o)->a h')
  (m:∀(s:gs) (i:Nat) (E:dV->gs->Prop) (Q:Option dV->gs->Prop),i<=es.size->a s.heap->gV s.heap I (first i) i S es.size ep->s.heap.get? S=bD (n_ es ep t) ->
   (∀x,c[i]?=bD x->∀h',gV h' I (first (i+1)) (i+1) S es.size ep->my I s.heap h'->Q (bD x) {s with heap:=h' }) ->
   (c[i]?=cb->∀h',(∀b o,b≠I->s.heap.get? b=bD o->h'.get? b=bD o)->Q cb {s with heap:=h' })->et (hH prog w) A (Sg (.ref I)) Q E s) :
  Walks prog w A I [I,S,T] [I] es.size (λi v=>c[i]?=bD v) (λi h=>i<=es.size/\gV h I (first i) i S es.size ep/\h.get? S=bD (n_ es ep t)/\a h) where
 sub:=λb d=>by rw[hV.mp d];simp
 frame:=λi h h' x hk=>⟨x.1,x.2.1.at λo e=>hk I (by simp) o e,hk S (by simp) _ x.2.2.1,l h h' x.2.2.2 λo e=>hk T (by simp) o e⟩
 item:=λi s Q E q x f=>by
  show m s i E Q x.1 x.2.2.2 x.2.1 x.2.2.1 (λv g h' j hs=>?_) λz=>absurd z (by simp;lia);show f v h' s.toks g ⟨q,j,?_,l _ h' x.2.2.2 λo e=>?_⟩ λb o d e=>?_
  .rw[hs.2 S n];show x.2.2.1
  .rw[hs.2 T p];show e
  .rw[hs.2 b λz=>d (by simp[z])];show e
 done:=λs Q E x f=>by
  show m s es.size E Q x.1 x.2.2.2 x.2.1 x.2.2.1 (λv g=>absurd g (by rw[O3 ⋯];simp)) λ_ h' hk=>f h' s.toks λb o d e=>hk b o (λz=>d (by simp[z])) e
 self:=λi s Q E x f=>zW x.2.1 f
def oa(ho:s.heap.get? S=bD (n_ es ep t))(a:t.fits es.size=b6)(h:Q (!w.params.followText "set-order"&&(!t.plain&&cc (es.size>1))) s):et (hH prog w) A (setDrawn S) Q E s:=by
 unfold setDrawn;show b5 (lg ho rfl a ?_)
 dsimp only
 show b5 (cN (dt h))
def og(a:w.params.followText "set-order"=b6)(ho:s.heap.get? S=bD (n_ es ep t))(b:t.fits es.size=b6)
  (h:Q ((V2 (w.params.setOrder S ep) es)[i]?.map λe=>(e.2,0)) s):et (hH prog w) A (UZ S 0 i ep) Q E s:=by
 unfold UZ;show b5 (lg ho rfl b ?_)
 dsimp only
 show b5 (cN ?_);change et _ _ (if (w.params.followText "set-order")=b6 then _ else _) _ _ s;rw[Z6 a];rw[Z7 (by simp)];unfold setWalk;show b5 (b5 (lg ho rfl b ?_))
 dsimp only
 show b5 (cN ?_);change et _ _ (if (w.params.followText "set-order")=b6 then _ else _) _ _ s;rw[Z6 a];show b5 (PM (dt ?_));show dt h
theorem pF(hw:w.params.followText "set-order"=cK)(ho:s.heap.get? S=bD (n_ es ep t))(hf:t.fits es.size=b6)(hl:t.led=b6)(h1:es.size<=1)
    (h:Q (match es[K2 t.place slot]?,t.place[K2 t.place slot]? with|some (_,x),bD j=>bD (x,j+1)|_,_=>cb) s):et (hH prog w) A (UZ S slot i ep) Q E s:=by
  unfold UZ;refine b5 (lg ho rfl hf ?_)
  dsimp only
  refine b5 (cN ?_);show et _ _ (if (w.params.followText "set-order")=b6 then _ else _) _ _ s;rw[Z7 (by rw[hw];simp)];show et _ _ (if (!t.plain&&cc (es.size>1))=b6 then _ else _) _ _ s
  rw [if_neg (by have : decide (es.size > 1) = false := decide_eq_false (by lia)
                 rw[this];simp)]
  show et _ _ ((if (!t.led&&!es.isEmpty)=b6 then _ else _) >>= _) _ _ s;rw[Z7 (by rw[hl];simp)];exact b5 (dt (dt h))
def pG(es:Array (Int×dV))(a:Array Nat)(i:Nat)(c:es.size<=1)(d:a.size=es.size)(b:i<=es.size):
  (match es[K2 a (if i=0 then 0 else(a[0]?).getD 0+1)]?,a[K2 a (if i=0 then 0 else(a[0]?).getD 0+1)]? with|some (_,x),bD j=>bD (x,j+1)|_,_=>cb)=es[i]?.map λe=>(e.2,(a[0]?).getD 0+1):=by
 have⟨es⟩:=es;have⟨a⟩:=a
 match es,a,c,d,b with
 |[],[],_,_,b=>simp
 |[e],[p],_,_,b =>
  match i,b with
  |0,_ =>
   have:K2 #[p] 0=0:=by simp[K2,VC]
   simp[this]
  |1,_ =>
   have:K2 #[p] (p+1)=1:=by simp[K2,VC]
   simp[this]
  |n+2,h=>simp at h
 |[],_::_,_,h,_=>simp at h
 |[_],[],_,h,_=>simp at h
 |[_],_::_::_,_,h,_=>simp at h
 |_::_::_,_,h,_,_=>simp at h
def wV(G:B.handled=cb)(hS:aT prog w s.heap S (aD w) D)
  (h:∀(I:hA) (fp:List hA) (n:Nat) (P:Nat->dV->Prop) (St:Nat->IZ->Prop) (c:List Str) (h':IZ) (d':Drawn),Walks prog w B I fp [I] n P St->c.Perm D->n=c.length->(∀i v,P i v->∃x Y,c[i]?=bD x/\v=.str x Y)->s.heap.objs.size<=I->(∀b∈fp,b=S\/s.heap.objs.size<=b)->St 0 h' ->
   (∀b o,s.heap.get? b=bD o->h'.get? b=bD o)->Q (.ref I) {s with heap:=h',drawn:=d' }):et (hH prog w) A (Xl (.ref S)) Q E s:=by
 have⟨L,es,ep,t,ho,Ij,Hq,HJ,a,d,Io,Ii⟩:=hS;have Tq:s.TypeIs (.ref S) "set":=⟨_,ho,rfl⟩
 have K6:S<s.heap.objs.size:=gc ho;show Zd Tq PySem.F.slot_set_iter (II PySem.F.slot_set_iter Tq SI.kF ?_ (PySem.F.args_set_iter_1 _));unfold M4.«frozenset.__iter__» YL slotArgs;simp only[List.isEmpty_nil,Za,Kr,↓reduceIte,bind_assoc,UJ,bne_self_eq_false];unfold Sz OQ;show b5 (dt ?_)
 try dsimp only
 show b5 (dt ?_);show b5 (b5 (QK ho rfl a (dt ?_)));have Vw:D.length=es.size:=by rw[<-Hq.length_eq,c2,<-hY,Ij,c2]
 have f:∀(l:List (Int×dV)),l.Perm es.toList->∃c:List Str,c.Perm D/\c.length=es.size/\∀(i:Nat) (v:dV),(l.map (·.2))[i]?=bD v->∃(x:Str) (Y:Tok),c[i]?=bD x/\v=tj x Y:=by
  intro l hl;rw[Ij]at hl;have⟨L',e',p'⟩:=dg hl;show⟨L'.map (·.1),(p'.map _).trans Hq,by rw[((p'.map _).trans Hq).length_eq,Vw],λi v H=>?_⟩;subst e';rw[hh,i7]at H;rw[i7];cases q:L'[i]? with
  |none=>rw[q]at H;simp at H
  |some p=>rw[q]at H;simp at H;show⟨p.1,p.2,rfl,H.symm⟩
 show b5 (oa ho a ?_);cases hw:w.params.followText "set-order" with
 |true =>
  simp only[Za,YX,Kr,↓reduceIte];show b5 (dt ?_);show b5 (b5 (lg ho rfl a (dt ?_)));show b5 (DD ?_);have u:S≠s.heap.objs.size:=hZ K6;have⟨c,J,N,O⟩:=f (V2 (w.params.setOrder S ep) es).toList (dS _ _);have W:=kG (prog:=prog) (w:=w) (A:=B) (I:=s.heap.objs.size) (S:=S) (es:=es) (ep:=ep) (t:=t) G u a S u ((V2 (w.params.setOrder S ep) es).toList.map (·.2)) (by rw[c2,(dS _ _).length_eq,hY]) (λ_=>ve 0) (λ_=>True) (λ_ _ _ _=>trivial)
   (λs i E Q _ _ g y k1 k2=>wU (slot:=0) g y a G (λB E' Q' q=>og hw y a q) (λx nx e h' T hs=>by
    rw[eH]at e;have⟨p,C,e2⟩:=e;cases e2;show k1 _ (by rw[i7,qs,C];rfl) h' T hs) (λe=>k2 (by rw[i7,qs,Q0];rwa [Q0]at e)))
  show dt ⟨_,rfl,"set_iterator",_,⟨_,fx _ rfl,rfl⟩,SI.slot_next.lookup,?_⟩;show h _ _ _ _ _ c _ s.drawn W J N.symm O (ix _) (λb d=>by
   simp only[gj,J2,or_false]at d;rcases d with rfl|rfl|rfl
   .show .inr (ix _)
   .show .inl rfl
   .show .inl rfl) ⟨i8 _,⟨_,fx _ rfl,rfl,rfl⟩,c4 _ ho,trivial⟩ λb o e=>c4 _ e
 |false =>
  by_cases hsz:es.size>1
  .have IB:t.plain=cK:=by
    rcases Ii with z|z
    .lia
    .show z
   have C:(!cK&&(!t.plain&&cc (es.size>1)))=b6:=by rw[IB,Z9 hsz];rfl
   rw[C];simp only[↓reduceIte];show b5 (gC _ _ _ _ x3 λm d' hp=>?_);simp only[ZR];have LM:∀j∈m,j<es.size:=λj hj=>by have:=hp.mem_iff.mp hj;simpa using this
   have Ou:m.length=es.size:=by rw[hp.length_eq];simp
   show b5 (DD ?_ (by
    change(m.map λ(j:Nat)=>ve j).toArray.size<=_;have:es.size<4096:=d;simp only[hE,c2,Ou];have:(4096:Nat)<=df:=by decide
    lia))
   have Ks:(s.heap.push {cls:=.type "tuple",data:=.seq (m.map λ(j:Nat)=>ve j).toArray}).get? S=bD (n_ es ep t):=c4 _ ho;show b5 (b5 (lg (s:={s with heap:=_,drawn:=d' }) Ks rfl a (dt ?_)));show b5 (DD ?_);have Vx:s.heap.objs.size≠(s.heap.push {cls:=.type "tuple",data:=.seq (m.map λ(j:Nat)=>ve j).toArray}).objs.size:=by rw[KN];show hZ (Nb _)
   have u:S≠(s.heap.push {cls:=.type "tuple",data:=.seq (m.map λ(j:Nat)=>ve j).toArray}).objs.size:=by rw[KN];show hZ (QW K6)
   have ML:(m.map λj=>(es[j]?).getD (0,nc)).Perm es.toList:=by
    show(hp.map _).trans ?_;have:(hQ es.size).map (λj=>(es[j]?).getD (0,nc))=es.toList:=by
     apply Lq
     .simp
     .intro i h1 h2;simp at h1 ⊢;simp[h1]
    rw[this]
   have⟨c,J,N,O⟩:=f _ ML;have W:=kG (prog:=prog) (w:=w) (A:=B) (I:=(s.heap.push {cls:=.type "tuple",data:=.seq (m.map λ(j:Nat)=>ve j).toArray}).objs.size) (S:=S) (es:=es) (ep:=ep) (t:=t) G u a s.heap.objs.size Vx ((m.map λj=>(es[j]?).getD (0,nc)).map (·.2)) (by simp[Ou]) (λ_=>.ref s.heap.objs.size) (λh=>h.IsTuple s.heap.objs.size (m.map λ(j:Nat)=>ve j).toArray) (λh h' ⟨o,ho,r⟩ k=>⟨o,k _ ho,r⟩)
    (λs' i E Q _ Ki g y k1 k2=>C6 g y a G Ki (λj e ej ee h' T hs=>k1 _ (by rw[i7,i7,ej];simp[ee]) h' T hs) LM (λe=>k2 (by rw[i7,i7,e];rfl)))
   show dt ⟨_,rfl,"set_iterator",_,⟨_,fx _ rfl,rfl⟩,SI.slot_next.lookup,?_⟩;show h _ _ _ _ _ c _ d' W J N.symm O (by rw[KN];show KY _) (λb d=>?_) ⟨i8 _,⟨_,fx _ rfl,rfl,rfl⟩,c4 _ Ks,⟨_,c4 _ (fx _ rfl),rfl,_,rfl⟩⟩ λb o e=>c4 _ (c4 _ e);rw[KN]at d;simp only[gj,J2,or_false]at d;rcases d with rfl|rfl|rfl
   .show .inr (KY _)
   .show .inl rfl
   .show .inr (ix _)
  .have C:(!cK&&(!t.plain&&cc (es.size>1)))=cK:=by rw[Z8 hsz];simp
   rw[C];simp only[Kr,↓reduceIte];show b5 (dt ?_);show b5 (b5 (lg ho rfl a (dt ?_)));show b5 (DD ?_);have u:S≠s.heap.objs.size:=hZ K6;have Vy:t.led=b6:=by rw[Io];change(!w.params.followText "set-order")=b6;rw[hw];rfl
   have⟨c,J,N,O⟩:=f es.toList (.refl _);have JV:t.place.size=es.size:=by
    unfold Qs at a;simp only[cL,beq_iff_eq]at a;show a.1
   have W:=kG (prog:=prog) (w:=w) (A:=B) (I:=s.heap.objs.size) (S:=S) (es:=es) (ep:=ep) (t:=t) G u a S u (es.toList.map (·.2)) (by simp) (λi=>ve ((if i=0 then 0 else(t.place[0]?).getD 0+1:Nat):Nat)) (λ_=>True) (λ_ _ _ _=>trivial)
    (λs' i E Q hi _ g y k1 k2=>wU (slot:=if i=0 then 0 else(t.place[0]?).getD 0+1) g y a G (λB E' Q' q=>pF hw y a Vy ⋯ q) (λx nx e h' T hs=>by
     rw[pG es t.place i ⋯ JV hi,eH]at e;have⟨p,C,e2⟩:=e;cases e2;show k1 _ (by rw[i7,qs,C];rfl) h' ?_ hs;rw[Z7 (Nat.succ_ne_zero i)];show T) (λe=>by
     rw[pG es t.place i ⋯ JV hi,Q0]at e;show k2 (by rw[i7,qs,e];rfl)))
   show dt ⟨_,rfl,"set_iterator",_,⟨_,fx _ rfl,rfl⟩,SI.slot_next.lookup,?_⟩;show h _ _ _ _ _ c _ s.drawn W J N.symm O (ix _) (λb d=>by
    simp only[gj,J2,or_false]at d;rcases d with rfl|rfl|rfl
    .show .inr (ix _)
    .show .inl rfl
    .show .inl rfl) ⟨i8 _,⟨_,fx _ rfl,rfl,rfl⟩,c4 _ ho,trivial⟩ λb o e=>c4 _ e
end
def pH:UC (.type "set") "__len__"=pure (bD (.builtin "set.__len__")):=by rw[QB,MM];kernel_rfl
section
theorem kH:∀{vs:List dV}{a:List Str},vs.length=a.length->(∀(i:Nat) (v:dV),vs[i]?=bD v->∃x t,a[i]?=bD x/\v=.str x t)->O6 vs a
 |[],[],_,_=>.nil
 |[],_::_,h,_=>by simp at h
 |_::_,[],h,_=>by simp at h
 |v::vs,y::a,h,k=>by
  have⟨x,t,b,c⟩:=k 0 v rfl;cases b;subst c;show .cons y t (kH (by simpa using h) λi w d=>k (i+1) w d)
def pI(J:A.handled=cb)(N:aT prog w s.heap S (aD w) D)(O:D.length<=df)
  (T:∀(vs:List dV) (c:List Str) (h':IZ) (d':Drawn) (h:Nat),c.Perm D->O6 vs c->s.heap.objs.size<=h'.objs.size->s.toks<=h->(∀b o,s.heap.get? b=bD o->h'.get? b=bD o)->Q vs {s with heap:=h',drawn:=d',toks:=h}) :
  et (hH prog w) A (Yf (.ref S)) Q E s:=by
 have⟨L,es,ep,t,ho,rest⟩:=id N;have Y:S<s.heap.objs.size:=gc ho;unfold Yf;show b5 (Xb (Lm PySem.F.entry_proto_collect ?_));rw[Mz PySem.F.plain_proto_collect _];change et _ A.in1 (Zi [] >>= λl=>ZW (.builtin "list.__iadd__" ⟨[l,.ref S],[]⟩)) _ _ s;show b5 (DD ?_);show dt ⟨RA PySem.F.plain_list_iadd _,Lm PySem.F.entry_list_iadd ?_⟩;rw[Mz PySem.F.plain_list_iadd _];have f:(s.heap.push {cls:=.type "list",data:=.seq ([]:List dV).toArray}).get? S=bD {cls:=.type "set",dict:=cb,data:=.set es ep t}:=c4 _ ho;have hT:QL {s with heap:=s.heap.push {cls:=.type "list",data:=.seq ([]:List dV).toArray}} (.ref S) "set":=⟨_,f,rfl⟩
 change et _ A.in1 (sL (.ref s.heap.objs.size) (.ref S) (.ref s.heap.objs.size)) _ _ _;unfold sL;show b5 (UO hT ?_);have j:s.heap.objs.size≠S:=Iq Y;have h1:My (.ref s.heap.objs.size) (.ref S)=cK:=by simp[My,j]
 have h2:(ro "set"==ro "list")=cK:=by decide
 have h3:(ro "set"==ro "tuple")=cK:=by decide
 simp only[h1,h2,h3,WZ,Kr,if_false];show b5 (wV (B:=A.in1) (by simpa using J) ⟨L,es,ep,t,f,rest⟩ ?_);intro I fp n P St c h' d' W k m hP p Rq Hx hk;have g:QL {s with heap:=h',drawn:=d' } (.ref S) "set":=⟨_,hk _ _ f,rfl⟩
 show b5 (t4 ?_);unfold Tf;show b5 (SS g pH ?_);have JD:splitId "set.__len__"=bD ("set","__len__"):=by decide +kernel
 dsimp only
 rw[JD]
 dsimp only
 show b5 (NW g UY ?_);rw[Z7 (by decide)];rw[Z6 (by decide +kernel)];show b5 (UO g ?_);show dt ?_;rw[Z6 (by decide +kernel)];have q:s.heap.objs.size∉fp:=λa=>by
  rcases Rq _ a with z|z
  .show j z
  .rw[KN]at z;show absurd z (Nat.not_succ_le_self _)
 have r:h'.get? s.heap.objs.size=bD {cls:=.type "list",data:=.seq ([]:List dV).toArray}:=hk _ _ (fx _ rfl);show b5 (Ng ?_);show b5 ?_;change et _ A.in1 (Zw s.heap.objs.size (·.push .none) >>= λ_=>Zw s.heap.objs.size (·.pop)) _ _ _;show b5 (QA r rfl ?_);have u:=uv (nH (·.push nc)) r rfl;show QA u rfl ?_;have Vz:=uv (nH (·.pop)) u rfl;have x:∀b o,b≠s.heap.objs.size->h'.get? b=bD o->((h'.update s.heap.objs.size (nH (·.push nc))).update s.heap.objs.size (nH (·.pop))).get? b=bD o :=
  λb o d e=>(LZ _ _ (rz d)).trans ((LZ _ _ (rz d)).trans e)
 show dt ⟨RA PySem.F.plain_extend_loop _,YG W.toS (by rw[m,k.length_eq];show O) _ q _ n 0 _ _ _ rfl (i8 _) (W.frame 0 h' _ Hx λb d o e=>x b o (λz=>q (z▸d)) e) Vz (YR P) λs' Ip c' a y C=>?_⟩;change et _ A (load s.heap.objs.size >>= _) _ _ s';show b5 (YY y ?_);have⟨PF,g2,G,VA,VB⟩:=s';have eg:g2=s.gens:=a.gens;have ed:G=d':=a.drawn;have eo:VB=s.os:=a.os;subst eg;subst ed;subst eo;show dt (T _ c PF G VA k (kH (by rw[hY,C.1,m]) λi v hv=>hP i v (C.2 i v (by rwa [qs]at hv))) (OB (gc y)) a.toks λb o e=>?_);have H:b≠s.heap.objs.size:=λz=>by rw[z]at e;show absurd (gc e) (u3 _)
 show a.heap b o (λz=>?_) (x b o H (hk _ _ (c4 _ e)));rcases gj.mp z with z|z
 .show H z
 .rw[hV.mp z]at e;have:=gc e;rw[KN]at p;show absurd (i9 this (u6 (KY _) p)) (u3 _)
end
section
def Inv.drawn(I:Inv X a σ H s)(d:Drawn):Inv X a σ H {s with drawn:=d}:=⟨I.ok,I.os,I.bare,I.base,I.loc,I.cell,I.free,I.Ic,I.pin,I.Hr,I.len⟩
def iz(l:X.calm=b6)(I:Inv X c σ H s)(hq:HX X.K H p (d.map V.str)\/Ie X.K H p (d.map V.str))(i:d.length+1<Hw)
  (h:∀(S:hA) (h':IZ) (a:Nat),aT X.prog X.w h' S (aD X.w) (ay d)->Inv X c σ H {s with heap:=h',toks:=a}->Q (.ref S) {s with heap:=h',toks:=a}) :
  et (hH X.prog X.w) X.A (MK (.type "set") [.ref p]) Q X.xe s:=by
 have j:X.A.handled=cb:=I.ok.hd l;rcases hq with hq|hq
 .have⟨m,rv,f,hz⟩:=I.list hq;show fM j f.isList (cM rv) i λh' a g k=>h _ h' a g (I.kept λb o e=>k b o (gc e) e)
 .have⟨m,rv,f,hz⟩:=I.tuple hq;show gB j f (cM rv) i λh' a g k=>h _ h' a g (I.kept λb o e=>k b o (gc e) e)
def gD(i:X.calm=b6)(I:Inv X a σ H s)(j:aT X.prog X.w s.heap S (aD X.w) D)(d:D.length<64)
  (q:∀p,H p=cb->Q (.ref p) (upd H p (.lst ((aK D).map V.str)))):et (hH X.prog X.w) X.A (MK (.builtin "sorted") [.ref S]) (EP X a σ Q) X.xe s:=by
 have k:X.A.handled=cb:=I.ok.hd i;have hl:D.length<=df:=OB (i9 d (by decide));show fj (pI (A:=X.A.in1) (by simpa using k) j hl λvs l h' d' b f g hsz r hk=>⟨l,g,by rw[iy g,f.length_eq];show d,λt m e k2 c s2=>?_⟩);rw[fL f]at s2;have n:Inv X a σ H {s with heap:=h',toks:=b}:=I.kept (t':=b) hk;have h:Inv X a σ H {s with heap:=h',drawn:=d',toks:=b}:=n.drawn d';show⟨.ref h'.objs.size,_,h.laid (t':=b) (o:=.lst ((aK D).map V.str)) k2 (ix _) ⟨by rw[c2,cv];show hl,m,e,dH s2,c⟩,rfl,q _ (h.Hr.fresh (ix _))⟩
def kI(I:Inv X a σ H s)(c:aT X.prog X.w s.heap S (aD X.w) D)
  (q:Q (.int D.length) H):et (hH X.prog X.w) X.A (MK (.builtin "len") [.ref S]) (EP X a σ Q) X.xe s:=by
 have⟨L,es,ep,t,ho,d,g,j,h,i,k,l⟩:=c;have b:es.size=D.length:=by rw[<-hY,d,c2,<-c2 (f:=YU) (as:=L),g.length_eq]
 have m:es.size<4096:=i;show call_len_set ho ⟨rfl,rfl,rfl⟩ rfl h ⋯ ?_;show⟨.int es.size,_,I.kept (t':=s.toks+1+1) (λ_ _ e=>e),⟨_,rfl⟩,by rw[b];show q⟩
end
end L2
namespace L2
open PySem
abbrev dU(mask:Nat):Nat->Nat×Nat->Nat×Nat
 |0,q=>q
 |t+1,q=>dU mask t (Yg mask q.1 q.2)
theorem mC(mask:Nat):∀(a b:Nat) (q:Nat×Nat),dU mask (a+b) q=dU mask b (dU mask a q)
 |0,b,q=>by rw[Oz];rfl
 |a+1,b,q=>by rw[show a+1+b=(a+b)+1 by lia];show mC mask a b _
theorem mD(mask:Nat):∀(t:Nat) (q:Nat×Nat),(dU mask t q).2=q.2 / 32 ^ t
 |0,q=>by simp[dU]
 |t+1,q=>by
  change(dU mask t (Yg mask q.1 q.2)).2=_;rw[mD mask t];change q.2 / 32 / 32 ^ t=_;rw[Nat.div_div_eq_div_mul,Nat.pow_succ,Nat.mul_comm]
theorem pJ(mask:Nat):∀(t:Nat) (q:Nat×Nat),q.1<mask+1->(dU mask t q).1<mask+1
 |0,q,h=>h
 |t+1,q,h=>pJ mask t _ (V' _ (Xo _))
abbrev K8(m:Nat):Nat->Nat->Nat
 |0,i=>i
 |t+1,i=>K8 m t ((i * 5+1) % m)
theorem mE(mask:Nat):∀(t i:Nat),dU mask t (i,0)=(K8 (mask+1) t i,0)
 |0,i=>rfl
 |t+1,i=>by
  change dU mask t ((i * 5+1+0 / 32) % (mask+1),0 / 32)=(K8 (mask+1) t ((i * 5+1) % (mask+1)),0)
  rw[Nat.zero_div,ZF];show mE mask t _
theorem jU(m:Nat):∀(a b i:Nat),K8 m (a+b) i=K8 m b (K8 m a i)
 |0,b,i=>by rw[Oz];rfl
 |a+1,b,i=>by rw[show a+1+b=(a+b)+1 by lia];show jU m a b _
abbrev uY(m:Nat):Nat->Nat->List Nat
 |0,_=>[]
 |t+1,i=>i::uY m t ((i * 5+1) % m)
theorem s_(m:Nat):∀(n i t:Nat),t<n->(uY m n i)[t]?=bD (K8 m t i)
 |0,_,_,h=>by lia
 |n+1,i,0,_=>rfl
 |n+1,i,t+1,h=>by
  change(uY m n ((i * 5+1) % m))[t]?=_;show s_ m n _ t ⋯
theorem pK(m:Nat):∀(n i:Nat),(uY m n i).length=n
 |0,_=>rfl
 |n+1,i=>by change(uY m n _).length+1=_;rw[pK m n]
abbrev Full(m:Nat):Bool:=(hQ m).all (λj=>(uY m m 0).contains j)&&(K8 m m 0==0)
def BP:Full 8=b6:=by decide +kernel
def wW:Full 16=b6:=by decide +kernel
def wX:Full 32=b6:=by decide +kernel
def wY:Full 64=b6:=by decide +kernel
def tf:Full 128=b6:=by decide +kernel
def uZ(h:Full m=b6)(l:i<m)(n:j<m):∃t,t<m/\K8 m t i=j:=by
 unfold Full at h;rw[cL,ko]at h;have⟨o,d⟩:=h;have d:K8 m m 0=0:=by simpa using d
 have get:∀k,k<m->∃a,a<m/\K8 m a 0=k:=λk hk=>by
  have:=o k (u7.mpr hk);rw[List.contains_iff_mem]at this;have⟨a,c⟩:=RK.mp this;have e:a<m:=by have:=(d3.mp c).1;rw[pK]at this;show this
  rw[s_ m m 0 a e]at c;show⟨a,e,by simpa using c⟩
 have⟨a,c,f⟩:=get i l;have⟨b,p,g⟩:=get j n;by_cases q:a<=b
 .show⟨b - a,⋯,by rw[<-f,<-jU,show a+(b - a)=b by lia,g]⟩
 .show⟨m - a+b,⋯,?_⟩;rw[<-f,<-jU,show a+(m - a+b)=m+b by lia,jU,d,g]
theorem mF:∀(f i p:Nat),va mask owner f i p=cb->∀t,t<f->(owner.getD (dU mask t (i,p)).1 (bD 0)).isNone=cK
 |0,_,_,_,t,h=>by lia
 |f+1,i,p,h,t,b=>by
  unfold va at h;cases a:(hQ (TU mask i+1 - i)).find? (λk=>(owner.getD (i+k) (bD 0)).isNone) with
  |some k=>rw[a]at h;cases h
  |none =>
   rw[a]at h;cases t with
   |zero =>
    have:=List.find?_eq_none.mp a 0 (u7.mpr (by unfold TU;split<;>lia));rw[ZF]at this;change(owner.getD i (bD 0)).isNone=cK;cases e:(owner.getD i (bD 0)).isNone with
    |false=>rfl
    |true=>show absurd e this
   |succ t=>show mF f _ _ h t ⋯
theorem mG:∀(f i p j:Nat),va mask owner f i p=bD j->owner[j]?=bD cb
 |0,_,_,_,h=>by cases h
 |f+1,i,p,j,h=>by
  unfold va at h;cases b:(hQ (TU mask i+1 - i)).find? (λk=>(owner.getD (i+k) (bD 0)).isNone) with
  |some k =>
   rw[b]at h;cases h;have a:=List.find?_some b;have c:i+k<owner.size:=by
    show J5 λz=>?_;have:owner.getD (i+k) (bD 0)=bD 0:=by simp[Tr,z]
    rw[this]at a;cases a
   have d:owner.getD (i+k) (bD 0)=owner[i+k]:=by simp[Tr,c]
   rw[d]at a;rw[M' c];cases e:owner[i+k] with
   |none=>rfl
   |some _=>rw[e]at a;cases a
  |none =>
   rw[b]at h;show mG f _ _ j h
def zX(c:Full (mask+1)=b6){j0:Nat}(a:owner[j0]?=bD cb)(hsz:owner.size=mask+1)(d:i<mask+1)(f:p<2 ^ 64):∃j,va mask owner (Pa mask) i p=bD j/\owner[j]?=bD cb:=by
 cases e:va mask owner (Pa mask) i p with
 |some j=>show⟨j,rfl,mG _ _ _ _ e⟩
 |none =>
  have g:j0<mask+1:=by rw[<-hsz];show(Array.getElem?_eq_some_iff.mp a).1
  have h:(dU mask 13 (i,p)).2=0:=by
   rw[mD];show Nat.div_eq_of_lt (T6 f (by decide))
  have⟨t,n,k⟩:=uZ c (pJ mask 13 (i,p) d) g;have l:dU mask (13+t) (i,p)=(j0,0):=by
   rw[mC,show dU mask 13 (i,p)=((dU mask 13 (i,p)).1,0) from YV rfl h,mE,k]
  have:=mF _ _ _ e (13+t) (by unfold Pa;lia);rw[l]at this;have m:owner.getD j0 (bD 0)=cb:=by
   have b:j0<owner.size:=by lia
   rw[M' b]at a;simp[Tr,b];show sx a
  rw[m]at this;cases this
abbrev vals(L:List (Option Nat)):List Nat:=L.filterMap id
theorem pL:∀{L:List (Option Nat)}{j:Nat},L[j]?=bD cb->(vals (L.set j (bD k))).Perm (k::vals L)
 |[],j,h=>by simp at h
 |x::L,0,h=>by
  have:x=cb:=by simpa using h
  subst this;show K1 _
 |x::L,j+1,h=>by
  have a:=pL (k:=k) (L:=L) (j:=j) (by simpa using h);cases x with
  |none=>show a
  |some y =>
   change(y::vals (L.set j (bD k))).Perm (k::y::vals L);show(X3 y a).trans (X2 k y _)
theorem mH:∀{L:List (Option Nat)},(vals L).length<L.length->∃j:Nat,L[j]?=bD cb
 |[],h=>by simp at h
 |none::L,_=>⟨0,rfl⟩
 |some y::L,h=>by
  have⟨j,a⟩:=mH (L:=L) (by
   have:(vals L).length+1<L.length+1:=h;lia)
  show⟨j+1,by simpa using a⟩
theorem wZ(d:Full (mask+1)=b6):∀(hs:List Int) (owner:Array (Option Nat)) (k:Nat),owner.size=mask+1->(vals owner.toList).Perm (hQ k)->k+hs.length<=mask ->
  ∃c,hs.foldl (λacc h=>do
   let (owner,k) <-acc
   let j <-va mask owner (Pa mask) (MZ h % (mask+1)) (MZ h)
   pure (owner.setIfInBounds j (bD k),k+1)) (bD (owner,k))=bD (c,k+hs.length)/\c.size=mask+1/\(vals c.toList).Perm (hQ (k+hs.length))
 |[],owner,k,a,b,_=>⟨owner,rfl,a,b⟩
 |h::hs,owner,k,a,b,f=>by
  rw[ke]at f;have⟨j0,g⟩:=mH (L:=owner.toList) (by rw[b.length_eq,x3,hY];lia);have⟨j,e,l⟩:=zX d (owner:=owner) (j0:=j0) (by rw[<-qs];show g) a (i:=MZ h % (mask+1)) (p:=MZ h) (V' _ (Xo _)) (by unfold MZ;lia);have m:owner.toList[j]?=bD cb:=by rw[qs];show l
  have n:(vals (owner.setIfInBounds j (bD k)).toList).Perm (hQ (k+1)):=by
   rw[Array.toList_setIfInBounds,YP];show(pL m).trans ((X3 k b).trans (List.perm_append_singleton k _).symm)
  have⟨o',o,q,r⟩:=wZ d hs (owner.setIfInBounds j (bD k)) (k+1) (by rw[Array.size_setIfInBounds];show a) n ⋯;show⟨o',?_,q,by rw[show k+(h::hs).length=k+1+hs.length by simp;lia];show r⟩;rw[RC,show k+(h::hs).length=k+1+hs.length by simp;lia,<-o];congr 1
  change(va mask owner (Pa mask) (MZ h % (mask+1)) (MZ h)).bind _=_;rw[e];rfl
def rb(L:List (Option Nat)):(hQ L.length).filterMap (λj=>L.getD j cb)=vals L:=by
 have h:(hQ L.length).map (λj=>L.getD j cb)=L:=by
  apply Lq
  .simp
  .intro i b a;simp[M8,a]
 have a:vals ((hQ L.length).map (λj=>L.getD j cb))=vals L:=Z_ vals h;unfold vals at a;rw[List.filterMap_map]at a;show a
def tm{led plain:Bool}(e:Full (mask+1)=b6)(f:hs.size<=mask):∃t a,RZ mask finger moves led plain hs=bD (t,a)/\t.fits hs.size=b6/\t.led=led/\t.plain=plain/\t.mask=mask/\t.dummies=#[]/\a.toList.Perm (hQ hs.size):=by
 have⟨owner,c,g,b⟩:=wZ e hs.toList (Array.replicate (mask+1) cb) 0 (by simp) (by
  have:∀n:Nat,vals (i5 n cb)=[]:=λn=>by
   induction n with
   |zero=>rfl
   |succ n h=>rw[List.replicate_succ];show h
  rw[Array.toList_replicate,this];show K1 _) (by rw[hY];lia)
 rw[Oz,hY]at c b;have i:Qq mask hs=bD owner:=by
  unfold Qq;rw[<-Array.foldl_toList];rw[c];rfl
 have k:((hQ (mask+1)).filterMap λj=>owner.getD j cb)=vals owner.toList:=by
  rw[<-rb,hY,g];congr 1
  funext j
  simp only[Array.getD_eq_getD_getElem?,VY,qs]
 have d:(((hQ (mask+1)).filterMap λj=>(owner.getD j cb).map (j,·)).map (·.2))=vals owner.toList:=by
  rw[<-k,List.map_filterMap];congr 1
  funext j
  cases owner.getD j cb<;>rfl
 have hl:((hQ (mask+1)).filterMap λj=>(owner.getD j cb).map (j,·)).length=hs.size:=by
  have:=Z_ HU d;rw[c2,b.length_eq,x3]at this;show this
 show⟨_,_,by unfold RZ;rw[i];rfl,?_,rfl,rfl,rfl,rfl,?_⟩
 .unfold Qs UG;simp only[hE,c2,hl];simp;show f
 .change(((hQ (mask+1)).filterMap λj=>(owner.getD j cb).map (j,·)).map (·.2)).Perm _;rw[d];show b
end L2
namespace L2
open PySem PySem.Spec PyProof.Rows
abbrev C7(P:D9)(w:HL)(p:Str×Tok):Int×dV:=((sK P w).hash p.1,tj p.1 p.2)
section
def aT.perm(b:aT prog w h a led D)(p:D.Perm c):aT prog w h a led c :=
 let ⟨L,es,ep,t,d,e,f,g,i⟩:=b;⟨L,es,ep,t,d,e,f.trans p,p.nodup_iff.mp g,i⟩
def aT.at(b:aT prog w h a led D)(k:∀o,h.get? a=bD o->h'.get? a=bD o):aT prog w h' a led D :=
 let ⟨L,es,ep,t,c,d⟩:=b;⟨L,es,ep,t,k _ c,d⟩
def aT.sz{h:IZ}{a:hA}{led:Bool}{D:List Str}{L:List (Str×Tok)}{es:Array (Int×dV)}(b:es.toList=L.map (λp=>((sK prog w).hash p.1,tj p.1 p.2)))(c:(L.map (·.1)).Perm D):es.size=D.length:=by
 rw[<-hY,b,c2,<-c.length_eq,c2]
def aT.of(g:aT prog w h a led D):h.SetOf (sK prog w) a (λx=>cc (x∈D)) D.length:=by
 have⟨L,es,ep,t,ho,b,d,l,i,j,m,n⟩:=g;show⟨_,es,ep,t,ho,⟨rfl,rfl,rfl⟩,rfl,by rw[b];show kB,λx=>?_,j,i,aT.sz (h:=h) (a:=a) (led:=led) b d⟩;rw[Z5,b,<-d.mem_iff,js];constructor
 .rintro⟨p,c,e⟩;show⟨_,js.mpr ⟨p,c,rfl⟩,by rw[gA];simp[e]⟩
 .rintro⟨e,k,f⟩;have⟨p,c,rfl⟩:=js.mp k;rw[gA,Z5]at f;show⟨p,c,f.symm⟩
def pM(b:aT prog w s.heap a led D)(h:∀r:Option Nat,r.isSome=cc (x∈D)->Q r s):
  et (hH prog w) A (setFind a (.str x c) ((sK prog w).hash x)) Q E s :=
 wpAny_setFind_of (knd:=sK prog w) (by rw[gA];simp) rfl b.of h
def eQ{L':List (Str×Tok)}(ho:s.heap.get? a=bD {cls:=.type "set",dict:=cb,data:=.set es ep t})(f:b.toList=L'.map (λp=>((sK prog w).hash p.1,tj p.1 p.2)))(g:(L'.map (·.1)).Perm c)(i:c.Nodup)
  (j:t'.fits b.size=b6) (d:b.size<Hw) (hl:t'.led=led) (k:b.size=0\/t'.plain=cK) (h:∀h',my a s.heap h'->h'.get? a=bD {cls:=.type "set",dict:=cb,data:=.set b (ep+1) t' }->aT prog w h' a led c->Q () {s with heap:=h' }) :
  et (hH prog w) A (storeSet a b t') Q E s:=by
 show UP ho rfl ?_ (Vl d);have e:(s.heap.update a (N0 b t')).get? a=bD {cls:=.type "set",dict:=cb,data:=.set b (ep+1) t' }:=uv (N0 b t') ho rfl;show h _ (D' s.heap a (N0 b t')) e ⟨L',b,ep+1,t',e,f,g,i,j,d,hl,k⟩
def fm(xs:Array α)(i:Nat):(N9 xs i).toList=xs.toList.eraseIdx i:=by
 unfold N9;rw[Array.toList_append,Xr,Xr,ON];simp[List.extract];rw[Oc (by simp)]
def u9{t:Nk}(h:t.fits n=b6)(e:i<n):(t.drop i).fits (n - 1)=b6:=by
 simp only[Qs,cL,beq_iff_eq,Z5]at h;have⟨f,b⟩:=h;have a:i<t.place.size:=by lia
 have c:(N9 t.place i).size=t.place.size - 1:=by
  rw[<-hY,fm,XF,Z6 (by simpa using a),hY]
 have d:∀p x,(SetTable.insertAt t.dummies p x).size=t.dummies.size+1:=λp x=>by
  have:=(SetTable.insertAt_perm t.dummies p x).length_eq;rw[hY,hY,Array.size_push]at this;show this
 unfold Yh;rw[M' a];simp only[Qs,UG,cL,beq_iff_eq,Z5,c,d]at b ⊢;constructor<;>lia
def w9(t:Nk)(i:Nat):(t.drop i).led=t.led/\(t.drop i).plain=t.plain:=by
 unfold Yh;split<;>show⟨rfl,rfl⟩
theorem erase_filter:∀{l:List Str}{j:Nat}{x:Str},l.Nodup->l[j]?=bD x->l.eraseIdx j=l.filter λy=>cc (y≠x)
 |[],j,x,_,h=>by simp at h
 |y::l,0,x,a,h=>by
  have⟨b,c⟩:=l0.mp a;have:y=x:=by simpa using h
  subst this;rw[List.eraseIdx_cons_zero,N4 (by simp)];show(Nf.mpr λz hz=>by
   have:z≠y:=λe=>b (e▸hz);simpa using this).symm
 |y::l,j+1,x,a,h=>by
  have⟨b,c⟩:=l0.mp a;have d:l[j]?=bD x:=by simpa using h
  have:y≠x:=λe=>b (e▸mx d);rw[Rg,erase_filter c d,N1 (by simpa using this)]
theorem fN(f:α->β):∀(l:List α) (j:Nat),(l.map f).eraseIdx j=(l.eraseIdx j).map f
 |[],_=>rfl
 |x::l,0=>rfl
 |x::l,j+1=>by
  change f x::(l.map f).eraseIdx j=f x::(l.eraseIdx j).map f;rw[fN f l j]
def pN{a:hA}{led:Bool}{D:List Str}{x:Str}{k:Tok}{Q:Bool->gs->Prop}(l:aT prog w s.heap a led D)(h:∀b h',my a s.heap h'->aT prog w h' a led (D.filter λy=>cc (y≠x))->Q b {s with heap:=h' }):
  et (hH prog w) A (Zx a (.str x k) ((sK prog w).hash x)) Q E s:=by
 have u:=l;have⟨L,es,ep,t,ho,c,d,m,f,v,B,C⟩:=l;have G:(sK prog w).is x (.str x k)=b6:=by rw[gA];simp
 have n:ElemsOf (sK prog w) es.toList:=by rw[c];show kB
 have hsz:=aT.sz (h:=s.heap) (a:=a) (led:=led) c d;unfold Zx setFind setFindIn;show b5 (b5 (lg ho rfl f ?_))
 dsimp only
 rw[byScan_of (knd:=sK prog w) rfl v n];simp only[↓reduceIte];show b5 (Ng ?_);show b5 (Zt (knd:=sK prog w) G ho rfl f n ?_);cases o:WV (λe=>(sK prog w).is x e.2) es.toList with
 |none =>
  dsimp only
  show dt (dt ?_);have g:x∉D:=λg=>by
   rw[<-d.mem_iff,js]at g;have⟨p,H,e⟩:=g;have I:((sK prog w).hash p.1,tj p.1 p.2)∈es.toList:=by rw[c];show js.mpr ⟨p,H,rfl⟩
   have:=Wa.mp o _ I;rw[gA,decide_eq_false_iff_not]at this;show this e.symm
  have e:D.filter (λy=>cc (y≠x))=D:=Nf.mpr λz hz=>by
   have:z≠x:=λe=>g (e▸hz);simpa using this
  have J:s={s with heap:=s.heap}:=by cases s;rfl
  rw[J];show h cK s.heap (H0 a s.heap) (by rw[e];show u)
 |some j =>
  dsimp only
  obtain⟨i,q,_⟩:=Tz.mp o;rw[Oz];show dt ?_
  dsimp only
  show b5 (lg ho rfl f ?_)
  dsimp only
  have N:j<L.length:=by rw[c,c2]at i;show i
  have O:j<es.size:=by simpa using i
  have T:L[j].1=x:=by
   have e:es.toList[j]=((sK prog w).hash L[j].1,tj L[j].1 L[j].2):=by simp[c]
   rw[e,gA,Z5]at q;show q.symm
  have Y:(L.map (·.1)).Nodup:=d.nodup_iff.mpr m;have VH:(L.eraseIdx j).map (·.1)=(L.map (·.1)).filter λy=>cc (y≠x):=by
   rw[<-erase_filter Y (j:=j) (by simp[N,T]),fN]
  have Ru:(N9 es j).toList=(L.eraseIdx j).map (λp=>((sK prog w).hash p.1,tj p.1 p.2)):=by
   rw[fm,c,fN]
  have r:(N9 es j).size=es.size - 1:=by rw[<-hY,fm,XF,Z6 i,hY]
  have⟨d1,d2⟩:=w9 t j;show b5 (eQ (t':=t.drop j) (led:=led) ho Ru (by rw[VH];show d.filter _) (WY w6 m) (by rw[r];show u9 f O) (by rw[r];lia) (d1.trans B) (.inr (d2.trans (C.resolve_left ⋯))) λh' sb hg Jf=>?_);show b5 (wpAny_point ?_);show dt (h b6 h' sb Jf)
end
def zY:Full 256=b6:=by decide +kernel
section
def iA{es:Array (Int×dV)}{a:Array Nat}(h:a.toList.Perm (hQ es.size)):(a.filterMap (es[·]?)).toList.Perm es.toList:=by
 rw[Array.toList_filterMap];show(h.filterMap _).trans (by rw[filterMap_getElem?_range])
def mI{L:List (Str×Tok)}(ho:s.heap.get? a=bD {cls:=.type "set",dict:=cb,data:=.set es ep t})(n:es.toList=L.map (λp=>((sK prog w).hash p.1,tj p.1 p.2)))(o:(L.map (·.1)).Perm D)(q:D.Nodup)
  (r:t.fits es.size=b6) (u:es.size<Hw) (i:t.led=led) (v:es.size=0\/t.plain=cK) (j:JK c=m+1) (x:Full (m+1)=b6) (y:es.size<=m) (Y:m<1000)
  (h:∀h' (d:Array (Int×dV)) (t':Nk) (z:Nat),my a s.heap h'->h'.get? a=bD {cls:=.type "set",dict:=cb,data:=.set d z t' }->aT prog w h' a led D->t'.fits d.size=b6->t'.mask=m->t'.dummies=#[]->t'.led=led->d.size=es.size->Q () {s with heap:=h' }) :
  et (hH prog w) A (setRelay a c) Q E s:=by
 have B:(2000:Nat)<=df:=by decide
 have⟨t',b,C,f,k,G,H,I,l⟩:=tm (mask:=m) (finger:=t.finger) (moves:=t.movedTo m) (led:=t.led) (plain:=t.plain) (hs:=es.map (·.1)) x (by rw[Qr];show y);rw[Qr]at f l;have e:t.relaid (es.map (·.1)) c=bD (t',b):=by
  unfold T1;rw[j,Nat.add_sub_cancel];show C
 unfold setRelay;show b5 (lg ho rfl r ?_)
 dsimp only
 rw[Z7 (by rw[j];lia)];show b5 ?_;rw[e];change et (hH prog w) A (if ((b.filterMap (es[·]?)).size != es.size)=b6 then((We "internal:set-table-lost-an-element":Sem Unit) >>= λ_=>pure (b.filterMap (es[·]?),t')) else pure (b.filterMap (es[·]?),t')) _ E s;have g:=iA l;have hsz:(b.filterMap (es[·]?)).size=es.size:=by rw[<-hY,g.length_eq,hY]
 rw[Z7 (by rw[hsz];simp)];show dt ?_;rw[n]at g;have⟨L',J,N⟩:=dg g;show eQ (led:=led) ho J ((N.map _).trans o) q (by rw[hsz];show f) (by rw[hsz];show u) (k.trans i) (by rw[hsz,G];show v) λh' O T hs=>h h' _ t' _ O T hs (by rw[hsz];show f) H I (k.trans i) hsz
def w_(b:5<=n)(a:n<64):∃m,JK (2 * n)=m+1/\Full (m+1)=b6/\n<=m/\m<1000:=by
 have:∀n:_root_.Fin 64,JK (2 * n.val)=(if n.val<4 then 8 else if n.val<8 then 16 else if n.val<16 then 32 else if n.val<32 then 64 else 128):=by decide +kernel
 have e:=this ⟨n,a⟩
 dsimp only at e
 rw[e,Z7 ⋯];split
 .show⟨15,rfl,wW,⋯,⋯⟩
 .split
  .show⟨31,rfl,wX,⋯,⋯⟩
  .split
   .show⟨63,rfl,wY,⋯,⋯⟩
   .show⟨127,rfl,tf,⋯,⋯⟩
def u_(a:n<64):∃m,JK (Mr n)=m+1/\Full (m+1)=b6/\n<=m/\m<1000:=by
 have:∀n:_root_.Fin 64,JK (Mr n.val)=(if n.val<2 then 8 else if n.val<4 then 16 else if n.val<8 then 32 else if n.val<16 then 64 else if n.val<32 then 128 else 256):=by decide +kernel
 have e:=this ⟨n,a⟩
 dsimp only at e
 rw[e];split
 .show⟨7,rfl,BP,⋯,⋯⟩
 .split
  .show⟨15,rfl,wW,⋯,⋯⟩
  .split
   .show⟨31,rfl,wX,⋯,⋯⟩
   .split
    .show⟨63,rfl,wY,⋯,⋯⟩
    .split
     .show⟨127,rfl,tf,⋯,⋯⟩
     .show⟨255,rfl,zY,⋯,⋯⟩
def xa{a:hA}{led:Bool}{D:List Str}{Q:Unit->gs->Prop}(b:aT prog w s.heap a led D)(p:D.length<64)(h:∀h',my a s.heap h'->aT prog w h' a led D->Q () {s with heap:=h' }):
  et (hH prog w) A (setTidy a) Q E s:=by
 have f:=b;have⟨L,es,ep,t,ho,c,d,g,e,i,j,k⟩:=b;have hsz:=aT.sz (h:=s.heap) (a:=a) (led:=led) c d;unfold setTidy;show b5 (lg ho rfl e ?_)
 dsimp only
 split
 .have⟨m,m1,m2,m3,m4⟩:=u_ (n:=es.size) ⋯;show mI ho c d g e i j k m1 m2 m3 m4 λh' _ _ _ l _ hs _ _ _ _ _=>h h' l hs
 .have o:s={s with heap:=s.heap}:=by cases s;rfl
  show dt ?_;rw[o];show h s.heap (H0 a s.heap) f
def vb{a b:hA}{es:Array (Int×dV)}{D:List Str}{Q:Unit->gs->Prop}(v:a≠b)(ho:s.heap.get? a=bD {cls:=.type "set",dict:=cb,data:=.set #[] 0 (.fresh 0 0 (aD w))})(x:aT prog w s.heap b (aD w) D)(JT:D.length<64)
  (h:∀h',my a s.heap h'->aT prog w h' a (aD w) D->Q () {s with heap:=h' }):et (hH prog w) A (setMerge a b) Q E s:=by
 have NB:=x;have⟨L,d,VJ,f,y,l,n,B,C,G,Oy,Rv⟩:=x;have hsz:=aT.sz (h:=s.heap) (a:=b) (led:=aD w) l n;have o:(X7 0 0 (aD w)).fits (#[]:Array (Int×dV)).size=b6:=rfl;unfold setMerge;rw[Z7 (by simpa using v)];show b5 (lg y rfl C ?_)
 dsimp only
 split
 .rename_i Rw;have hD:D=[]:=by
   have:d.size=0:=by simpa using Rw
   show List.eq_nil_of_length_eq_zero ⋯
  subst hD;have p:s={s with heap:=s.heap}:=by cases s;rfl
  show dt ?_;rw[p];show h s.heap (H0 a s.heap) (gT ho)
 .rename_i Ih;have Rx:d.size≠0:=λz=>Ih (by simpa using z);show b5 ?_;unfold setRoomFor;show b5 (lg ho rfl o ?_)
  dsimp only
  show tA (Q:=λ_ s1=>∃(g:IZ) (ts:Nk) (H:Nat) (k:Array (Int×dV)),s1={s with heap:=g}/\k.size=0/\my a s.heap g/\g.get? a=bD {cls:=.type "set",dict:=cb,data:=.set k H ts}/\ts.fits k.size=b6/\Full (ts.mask+1)=b6/\d.size<=ts.mask/\ts.dummies=#[]/\ts.led=aD w) ?_ (λ_ s1 ⟨g,ts,H,k,e,z,i,j,I,hF,q,Ry,hl⟩=>?_) λ_ _ e=>e
  .unfold SetTable.roomFor;by_cases h5:5<=d.size
   .rw[Z6 (by change(0+d.size) * 5 >= 7 * 3;lia)]
    dsimp only
    have⟨m,m1,m2,m3,m4⟩:=w_ h5 ⋯;have ew:((X7 0 0 (aD w)).place.size+d.size) * 2=2 * d.size:=by change(0+d.size) * 2=_;lia
    rw[ew];show mI (L:=[]) (D:=[]) (led:=aD w) ho rfl (K1 _) .nil o (by decide) rfl (.inl rfl) m1 m2 (by change 0<=m;lia) m4 λh' Hm t' LF i j _ Q8 J hd hl hz=>⟨h',t',LF,Hm,rfl,hz,i,j,Q8,by rw[J];show m2,by rw[J];show m3,hd,hl⟩
   .rw[Z7 (by change ¬(0+d.size) * 5 >= 7 * 3;lia)]
    dsimp only
    have p:s={s with heap:=s.heap}:=by cases s;rfl
    show dt ⟨s.heap,_,0,#[],p,rfl,H0 a s.heap,ho,o,BP,by change d.size<=7;lia,rfl,rfl⟩
  .subst e;show b5 (lg j rfl I ?_)
   dsimp only
   have Rz:ts.place.size=0:=by
    simp only[Qs,cL,beq_iff_eq]at I;lia
   have OA:ts.road f=if ts.mask==f.mask&&f.dummies.isEmpty then .slotForSlot else .clean:=by
    unfold SetTable.road UG;rw[Rz,Ry];rfl
   have VL:g.get? b=bD {cls:=.type "set",dict:=cb,data:=.set d VJ f}:=(i.2 b (rz v)).trans y;have N:(ts.plain&&f.plain)=cK:=by rw[Rv.resolve_left Rx,Sa]
   have O:(ts.led&&f.led)=aD w:=by rw[hl,Oy,Zc]
   rw[OA];by_cases T:(ts.mask==f.mask&&f.dummies.isEmpty)=b6
   .rw[Z6 T]
    dsimp only
    show eQ (s:={s with heap:=g}) (led:=aD w) (L':=L) (t':={f with finger:=ts.finger,led:=ts.led&&f.led,moves:=ts.moves,plain:=ts.plain&&f.plain}) j l n B C G O (.inr N) λh' r _ hs=>h h' (i.trans r) hs
   .rw[Z7 T]
    dsimp only
    have⟨t',c,q1,Y,q3,q4,q5,q6,q7⟩:=tm (mask:=ts.mask) (finger:=ts.finger) (moves:=ts.moves) (led:=ts.led&&f.led) (plain:=ts.plain&&f.plain) (hs:=d.map (·.1)) hF (by rw[Qr];show q);rw[Qr]at Y q7;show b5 ?_;rw[q1];change et (hH prog w) A (if ((c.filterMap (d[·]?)).size != d.size)=b6 then((We "internal:set-table-lost-an-element":Sem Unit) >>= λ_=>pure (c.filterMap (d[·]?),t')) else pure (c.filterMap (d[·]?),t')) _ E _;have t:=iA q7;have u:(c.filterMap (d[·]?)).size=d.size:=by rw[<-hY,t.length_eq,hY]
    rw[Z7 (by rw[u];simp)];show dt ?_;rw[l]at t;have⟨L',e',p'⟩:=dg t;show eQ (s:={s with heap:=g}) (led:=aD w) j e' ((p'.map _).trans n) B (by rw[u];show Y) (by rw[u];show G) (q3.trans O) (.inr (q4.trans N)) λh' r _ hs=>h h' (i.trans r) hs
end
section
theorem gW:∀{l:List α},(∀x∈l,∀Q':ForInStep β->gs->Prop,Q' (.yield b) s->et M A (body x b) Q' E s)->Q b s->et M A (Zs l b body) Q E s
 |[],_,h=>by rw[YW];show dt h
 |x::l,a,h=>by
  rw[UL];show b5 (a x (by simp) _ (gW (λy c=>a y (by simp[c])) h))
def vc(hs:∀b∈sets,∃led D,aT prog w s.heap b led D)(h:Q b6 s):et (hH prog w) A (setsQuiet sets) Q E s:=by
 unfold setsQuiet;show b5 (gW (λb c Q' d=>?_) (dt h));have⟨led,D,L,es,ep,t,f,g,k,l,i,m,n,o⟩:=hs b c;show b5 (QK f rfl i ?_);rw[<-Ts];show b5 (gW (λe a q j=>?_) (dt d));rw[g]at a;obtain⟨p,_,rfl⟩:=js.mp a;show dt j
def pO(l:aT prog w s.heap a (aD w) D)(ho:∀b∈others,∃led B,aT prog w s.heap b led B)(m:∀r,f=bD r->aT prog w s.heap r (aD w) [])
  (h:∀(es:Array (Int×dV)) (L:List (Str×Tok)) (h':IZ),es.toList=L.map (C7 prog w)->(L.map (·.1)).Perm D->(f=cb->h'=s.heap)->(∀r,f=bD r->my r s.heap h'/\aT prog w h' r (aD w) [])->Q es {s with heap:=h' }) :
  et (hH prog w) A (setWalkUnseen a others f) Q E s:=by
 have C:=l;have⟨L,es,ep,t,j,n,o,HJ,k,hb,G,H⟩:=l;have I:s={s with heap:=s.heap}:=by cases s;rfl
 have c:∀(d:Array (Int×dV)),d.toList.Perm es.toList->Q d s:=λd p=>by
  rw[n]at p;have⟨L',J,N⟩:=dg p;rw[I];show h d L' s.heap J ((N.map _).trans o) (λ_=>rfl) λr e=>⟨H0 r s.heap,m r e⟩
 unfold setWalkUnseen;show b5 (lg j rfl k ?_)
 dsimp only
 show b5 (cN ?_);cases g:w.params.followText "set-order" with
 |true =>
  rw[Z6 (by change(w.params.followText "set-order"||t.led&&t.plain||decide (es.size<=1))=b6;rw[g];rfl)];unfold setWalk;show b5 (lg j rfl k ?_)
  dsimp only
  show b5 (cN ?_);rw[Z6 (by show g)];show b5 (PM ?_);show dt (c _ (dS _ _))
 |false =>
  by_cases q:es.size<=1
  .rw[Z6 (by rw[Z9 q];simp)];unfold setWalk;show b5 (lg j rfl k ?_)
   dsimp only
   show b5 (cN ?_);rw[Z7 (by change ¬w.params.followText "set-order"=b6;rw[g];simp)];change et _ _ (if (!t.plain&&cc (es.size>1))=b6 then _ else _) _ _ s;rw[Z7 (by rw[Z8 (show ¬es.size>1 by lia)];simp)];change et _ _ ((if (!t.led&&cc (es.size>1))=b6 then _ else _) >>= _) _ _ s;rw[Z7 (by rw[Z8 (show ¬es.size>1 by lia)];simp)];show b5 (dt (dt (c es (K1 _))))
  .have O:t.plain=cK:=H.resolve_left ⋯;rw[Z7 (by change ¬(w.params.followText "set-order"||t.led&&t.plain||decide (es.size<=1))=b6;rw[g,O,Z8 q];simp)];show b5 (vc (λb Je=>by
    rcases gj.mp Je with rfl|Je
    .show⟨_,_,C⟩
    .show ho b Je) ?_)
   rw[Z7 (by simp)];show b5 (Ng ?_);cases f with
   |none=>show dt (c es (K1 _))
   |some r =>
    dsimp only
    have⟨Lr,T,XD,i,u,v,x,Y,y,VN,OC,VO⟩:=m r rfl;show b5 (lg u rfl y ?_)
    dsimp only
    have NC:T.size=0:=by
     have:=aT.sz (h:=s.heap) (a:=r) (led:=aD w) v x;simpa using this
    split
    .show b5 (eQ (t':={i with led:=i.led&&t.led,plain:=i.plain&&t.plain}) (led:=aD w) u v x Y y VN (by change(i.led&&t.led)=_;rw[OC,G,Zc]) (.inl NC) λh' sb _ hs=>?_);show dt (h es L h' n o (λz=>nomatch z) λr' e=>by cases e;show⟨sb,hs⟩)
    .show dt (c es (K1 _))
end
section
variable{prog:D9}{w:HL}{A:MN}{E:dV->gs->Prop}{s:gs}
theorem ja(J:List (Str×Tok)->gs->Prop)(a:∀d p r s,d++p::r=L->J d s->∀Q':ForInStep PUnit->gs->Prop,(∀s',J (d++[p]) s'->Q' (.yield ⟨⟩) s')->et M A (body (C7 prog w p) ⟨⟩) Q' E s)(b:∀s',J L s'->Q ⟨⟩ s'):
  ∀(r d:List (Str×Tok)) (s:gs),d++r=L->J d s->et M A (Zs (r.map (C7 prog w)) ⟨⟩ body) Q E s
 |[],d,s,e,h=>by
  rw[rr]at e;subst e;rw[JL,YW];show dt (b s h)
 |p::r,d,s,e,h=>by
  rw[eh,UL];show b5 (a d p r s e h _ λs' h'=>ja J a b r (d++[p]) s' (by rw[<-e];simp) h')
def aT.ty(h:aT prog w s.heap a led D):s.TypeIs (.ref a) "set":=let ⟨_,_,_,_,ho,_⟩:=h;⟨_,ho,rfl⟩
def f_(b:aT prog w s.heap a led D)(h:Q b6 s):et (hH prog w) A (Ig (.ref a)) Q E s:=by
 unfold Ig;show b5 (NW b.ty UY ?_);show dt h
def iB{a:hA}{led:Bool}{D:List Str}{Q:Nat->gs->Prop}(b:aT prog w s.heap a led D)(h:Q D.length s):et (hH prog w) A (OQ a) Q E s:=by
 obtain⟨L,es,ep,t,ho,c,d,f,e,_⟩:=b;unfold OQ;show b5 (QK ho rfl e (dt ?_));rw[aT.sz (h:=s.heap) (a:=a) (led:=led) c d];show h
def pP(b:aT prog w s.heap a led D)(h:Q (.type "set") s):et (hH prog w) A (Sy a) Q E s:=by
 unfold Sy;show b5 (NW b.ty UY ?_);show dt h
def tq(h:Q (.ref s.heap.objs.size) {s with heap:=s.heap.push {cls:=.type "set",dict:=cb,data:=.set #[] 0 (.fresh 0 0 (aD w))}}):et (hH prog w) A (newSet (.type "set")) Q E s:=by
 unfold newSet Y1;show b5 (b5 (PM (dt ?_)))
 dsimp only
 simp only[newObj];show b5 (wpAny_alloc (dt h))
def xb{a:hA}{D:List Str}{Q:dV->gs->Prop}(b:aT prog w s.heap a (aD w) D)(c:D.length<64)(h:∀h',my s.heap.objs.size (s.heap.push {cls:=.type "set",dict:=cb,data:=.set #[] 0 (.fresh 0 0 (aD w))}) h'->aT prog w h' s.heap.objs.size (aD w) D->Q (.ref s.heap.objs.size) {s with heap:=h' }):
  et (hH prog w) A (Sx a) Q E s:=by
 unfold Sx;show b5 (pP b (b5 (tq ?_)));show b5 (dt ?_);have d:s.heap.objs.size≠a:=λe=>by obtain⟨_,_,_,_,ho,_⟩:=b;show u3 _ (e▸gc ho)
 show b5 (vb (es:=#[]) (s:={s with heap:=s.heap.push {cls:=.type "set",dict:=cb,data:=.set #[] 0 (.fresh 0 0 (aD w))}}) d (fx _ rfl) (b.at λo e=>c4 _ e) c λh' f hs=>?_);show dt (h h' f hs)
def kJ{id:String}(ho:s.heap.get? a=bD {cls:=.type "set",dict:=cb,data:=.set es ep t})(b:t.fits es.size=b6)(h:Q () s):et (hH prog w) A (RH id a ep) Q E s:=by
 unfold RH;show b5 (UW ho rfl b ?_);rw[Z7 (by simp)];show dt h
def xc{id:String}(v:a≠b)(o:aT prog w s.heap a (aD w) g)(j:aT prog w s.heap b (aD w) q)(B:g.length<64)(i:q.length<=g.length)
  (h:∀h',my a s.heap h'->aT prog w h' a (aD w) (g.filter λx=>cc (x∉q))->Q () {s with heap:=h' }):et (hH prog w) A (QN id a (.ref b)) Q E s:=by
 unfold QN;rw[Z7 (by simpa using rz v)];show b5 (f_ j ?_);rw[Z6 rfl];show b5 (dt ?_);show b5 (iB j (b5 (iB o ?_)));rw[Z7 ⋯];have⟨L2,I,J,N,y,O,T,Y,z,S_,TB,VQ⟩:=_root_.id j;show b5 (UW y rfl z ?_);show b5 (t4 ?_);show b5 (pO j (others:=[a]) (f:=cb) (λc C=>by rw[hV.mp C];show⟨_,_,o⟩) (λr e=>nomatch e) λes L h0 D G t _=>?_);have t:=t rfl;subst t;rw[<-Ts,D];show b5 (ja (prog:=prog) (w:=w) (L:=L) (λd s'=>∃h',s'={s with heap:=h' }/\my a s.heap h'/\aT prog w h' a (aD w) (g.filter λx=>cc (x∉d.map (·.1)))) (λd p r s' ed ⟨h',u,k,l⟩ Q' H=>?_) (λs' ⟨h',u,k,l⟩=>?_) L [] _ rfl ⟨s.heap,by cases s;rfl,H0 a s.heap,by rw[Nf.mpr λx _=>by simp];show o⟩)
 .subst u;show b5 (t4 (pN (s:={s with heap:=h' }) l λb' i m n=>?_));show b5 (kJ (s:={s with heap:=i}) (((k.trans m).2 b (rz v)).trans y) z ?_);show dt (H _ ⟨i,rfl,k.trans m,?_⟩);rw[List.filter_filter]at n;have e:(g.filter λx=>cc (x≠p.1)&&cc (x∉d.map (·.1)))=g.filter λx=>cc (x∉(d++[p]).map (·.1)):=by
   show Ys λx _=>?_;rw[Jk];simp[not_or,and_comm]
  rw[<-e];show n
 .subst u;show dt ?_;have e:(g.filter λx=>cc (x∉L.map (·.1)))=g.filter λx=>cc (x∉q):=by
   show Ys λx _=>?_;rw[Jk];simp only[Z5];rw[G.mem_iff]
  rw[e]at l;show xa (s:={s with heap:=h' }) l (Yq (ki _ _) B) λi m n=>h i (k.trans m) n
def xf{id:String}(K9:a≠b)(l:aT prog w s.heap a (aD w) m)(j:aT prog w s.heap b (aD w) g)(D:m.length<64)(k:g.length<64)
  (h:∀h',(∀c o,s.heap.get? c=bD o->h'.get? c=bD o)->aT prog w h' s.heap.objs.size (aD w) (m.filter λx=>cc (x∉g))->Q (.ref s.heap.objs.size) {s with heap:=h' }):et (hH prog w) A (NZ id a (.ref b)) Q E s:=by
 have keep:∀h',my s.heap.objs.size (s.heap.push {cls:=.type "set",dict:=cb,data:=.set #[] 0 (.fresh 0 0 (aD w))}) h'->∀c o,s.heap.get? c=bD o->h'.get? c=bD o:=λh' i c o e =>
  (i.2 c (hZ (gc e))).trans (c4 _ e)
 have G:a<s.heap.objs.size:=by obtain⟨_,_,_,_,ho,_⟩:=l;show gc ho
 have v:b<s.heap.objs.size:=by obtain⟨_,_,_,_,ho,_⟩:=j;show gc ho
 unfold NZ
 dsimp only
 show b5 (f_ j ?_);rw[Z7 (by simp)];show b5 (dt ?_);rw[Z7 (by simp),Z6 rfl];show b5 (iB j (b5 (iB l ?_)));by_cases H:m.length / 4>g.length
 .rw[Z6 H];show b5 (Ng ?_);show b5 (xb l D λh' i hs=>?_);show b5 (dt ?_);show b5 (t4 (xc (s:={s with heap:=h' }) (Iq v) hs (j.at λo e=>keep h' i b o e) D ⋯ λk n t=>?_));show dt (h k (keep k (i.trans n)) t)
 .rw[Z7 H];show b5 (pP l (b5 (tq ?_)));show b5 (dt ?_);have I:=l.at (h':=s.heap.push {cls:=.type "set",dict:=cb,data:=.set #[] 0 (.fresh 0 0 (aD w))}) λo e=>c4 _ e;have To:=j.at (h':=s.heap.push {cls:=.type "set",dict:=cb,data:=.set #[] 0 (.fresh 0 0 (aD w))}) λo e=>c4 _ e;have J:aT prog w (s.heap.push {cls:=.type "set",dict:=cb,data:=.set #[] 0 (.fresh 0 0 (aD w))}) s.heap.objs.size (aD w) []:=gT (fx _ rfl);have⟨La,ea,VR,ta,N,TH,XH,RB,y,XI,TJ,VS⟩:=_root_.id I;show b5 (UW N rfl y ?_);show b5 (t4 ?_);rw[Z6 rfl];show b5 (pO (s:={s with heap:=s.heap.push {cls:=.type "set",dict:=cb,data:=.set #[] 0 (.fresh 0 0 (aD w))}}) I (others:=[b,s.heap.objs.size]) (f:=bD s.heap.objs.size) (λc hc=>by
   rcases gj.mp hc with rfl|hc
   .show⟨_,_,To⟩
   .rw[hV.mp hc];show⟨_,_,J⟩) (λr e=>by cases e;show J) λes L h0 he B _ e0=>?_)
  have⟨VT,PJ⟩:=e0 _ rfl;rw[<-Ts,he];have VU:L.length=m.length:=by rw[<-B.length_eq,c2]
  show b5 (ja (prog:=prog) (w:=w) (L:=L) (λd s'=>∃h',s'={s with heap:=h' }/\my s.heap.objs.size (s.heap.push {cls:=.type "set",dict:=cb,data:=.set #[] 0 (.fresh 0 0 (aD w))}) h'/\aT prog w h' s.heap.objs.size (aD w) ((d.map (·.1)).filter λx=>cc (x∉g))) (λd p r s' O ⟨h',C,i,u⟩ Q' T=>?_) (λs' ⟨h',C,i,u⟩=>?_) L [] _ rfl ⟨h0,rfl,VT,PJ⟩)
  .subst C;have Y:(L.map (·.1)).Nodup:=B.nodup_iff.mpr RB;have VV:p.1∉d.map (·.1):=λz=>by
    rw[<-O,ka,oT]at Y;show Y.2.2 p.1 z p.1 (by simp) rfl
   have VW:aT prog w h' b (aD w) g:=j.at λo e=>keep h' i b o e;have TK:h'.get? a=bD {cls:=.type "set",dict:=cb,data:=.set ea VR ta}:=(i.2 a (hZ G)).trans N;have Kk:d.length<64:=by have:=Z_ HU O;simp at this;lia
   show b5 (t4 ?_);rw[Z6 rfl];show b5 (pM (s:={s with heap:=h' }) VW λr hr=>?_);show b5 (dt ?_);have em:((d++[p]).map (·.1)).filter (λx=>cc (x∉g))=(d.map (·.1)).filter (λx=>cc (x∉g))++if p.1∈g then [] else [p.1]:=by
    rw[ka,Km];congr 1
    by_cases z:p.1∈g<;>simp[z]
   by_cases z:p.1∈g
   .rw[Z7 (by rw[hr,Z9 z];simp)];show dt ?_;show b5 (kJ (s:={s with heap:=h' }) TK y ?_);show dt (T _ ⟨h',rfl,i,?_⟩);rw[em,Z6 z,rr];show u
   .rw[Z6 (by rw[hr,Z8 z];rfl)];show b5 (kD (s:={s with heap:=h' }) u (by
     have:((d.map (·.1)).filter λx=>cc (x∉g)).length<=d.length:=u6 (ki _ _) (by simp);have Kq:Hw=4096:=rfl;lia) λk n t=>?_)
    show dt ?_;show b5 (kJ (s:={s with heap:=k}) ((n.2 a (hZ G)).trans TK) y ?_);show dt (T _ ⟨k,rfl,i.trans n,?_⟩);rw[em,Z7 z];rw[Z7 (λq=>VV (kl.mp q).1)]at t;show t
  .subst C;show dt ?_;show dt (h h' (keep h' i) (u.perm ?_));show B.filter _
end
def lT:YF table "set.__sub__"=bD M4.«frozenset.__sub__» :=
 Xm (id':="frozenset.__sub__") (by kernel_rfl) rfl (by decide +kernel) (by kernel_rfl)
section
def jV(n:a≠b)(g:aT prog w s.heap a (aD w) j)(i:aT prog w s.heap b (aD w) k)(p:j.length<64)(q:k.length<64)
  (h:∀h',(∀c o,s.heap.get? c=bD o->h'.get? c=bD o)->aT prog w h' s.heap.objs.size (aD w) (j.filter λx=>cc (x∉k))->Q (.ref s.heap.objs.size) {s with heap:=h' }):et (hH prog w) A (Nh .Sub (.ref a) (.ref b)) Q E s:=by
 show wpAny_binaryOp_same (T:="set") g.ty i.ty PySem.F.fills_set_sub PySem.F.slot_set_sub (II PySem.F.slot_set_sub g.ty lT ?_ (PySem.F.args_set_sub_2 _ _));unfold M4.«frozenset.__sub__»;change et (hH prog w) _ (do
  let x <-Ta "__sub__" ⟨[.ref a,.ref b],[]⟩
  match x with
  |(self,f) =>
   match if cK=b6 then(f,self) else(self,f) with
   |(l,r)=>do
    let c <-Ig l <&&> Ig r
    if (!c)=b6 then do
      Zy (RL "frozenset."++RL "__sub__"++RL ".declined")
      ret Value.notImplemented
     else do
      let d <-Sz l
      let e <-NZ (RL "frozenset."++RL "__sub__") d r
      ret e) _ _ _
 show b5 (m:=Ta "__sub__" ⟨[.ref a,.ref b],[]⟩) (dt (a:=(kj a,kj b)) ?_)
 dsimp only
 show b5 (b5 (f_ g ?_));change et _ _ (Ig (.ref b)) _ _ _;show f_ i ?_;rw[Z7 (by simp)];show b5 (dt ?_);show b5 (xf n g i p q λh' hk hs=>?_);show dt ⟨_,rfl,(λz=>by cases z),h h' hk hs⟩
end
section
def rf(n:X.calm=b6)(I:Inv X a σ H s)(hq:HX X.K H p (g.map V.str)\/Ie X.K H p (g.map V.str))(j:g.length+1<Hw)
  (h:∀(S:hA) (o:Obj) (s1:gs),s.heap.objs.size<=S->s1.heap.get? S=bD o->aT X.prog X.w s1.heap S (aD X.w) (ay g)->Inv X ((S,o)::a) σ H s1->Q (.ref S) s1) :
  et (hH X.prog X.w) X.A (MK (.type "set") [.ref p]) Q X.xe s:=by
 have l:X.A.handled=cb:=I.ok.hd n;have f:∀(h':IZ) (c:Nat),aT X.prog X.w h' s.heap.objs.size (aD X.w) (ay g)->(∀b o,b<s.heap.objs.size->s.heap.get? b=bD o->h'.get? b=bD o)->Q (.ref s.heap.objs.size) {s with heap:=h',toks:=c}:=λh' c d k=>by
  have⟨L,es,ep,t,ho,r⟩:=_root_.id d;have m:Inv X a σ H {s with heap:=h',toks:=c}:=I.kept λb o e=>k b o (gc e) e;show h _ _ _ (ix _) ho d (m.eB λq hq=>?_);rcases gj.mp hq with rfl|hq
  .show⟨ho,I.Hr.fresh (ix _),Iq I.lt,I.Cv (ix _),λv z=>nomatch z⟩
  .show m.pin q (l' _ hq)
 rcases hq with hq|hq
 .have⟨u,rv,i,hz⟩:=I.list hq;show fM l i.isList (cM rv) j λh' c d k=>f h' c d k
 .have⟨u,rv,i,hz⟩:=I.tuple hq;show gB l i (cM rv) j λh' c d k=>f h' c d k
end
def rg:UC (.type "list_reverseiterator") "__len__"=pure cb:=by rw[QB,MM];kernel_rfl
def xg:UC (.type "list_reverseiterator") "__length_hint__"=pure (bD (.builtin "list_reverseiterator.__length_hint__")):=by rw[QB,MM];kernel_rfl
def oh:OM (.type "list_reverseiterator") (.type "list_reverseiterator")=pure b6:=by rw[HZ];kernel_rfl
section
variable{I:hA}{fp wr:List hA}{G:Array YI->Array YI->Prop}{n:Nat}{P:Nat->dV->Prop}{St:Nat->gs->Prop}
def rh(W:Y4 prog w A.in1 I fp wr G n P St)(c:∀i s,St i s->s.TypeIs (.ref I) "list_reverseiterator")(S:hA)(res:dV)(j:Nat)(a:St 0 s)(h:S∉fp)(k:I∈fp)
  (l:s.heap.get? S=bD {cls:=.type "list",data:=.seq #[] j})
  (m:∀s' d b,Moved (S::wr) G s s'->s'.heap.get? S=bD {cls:=.type "list",dict:=cb,data:=.seq d b,slots:=#[]}->Zo P d n->R (.ok (.ret res)) s') (o:n<=df) :
  et (hH prog w) A.in1 (sL (.ref S) (.ref I) res)
   (λg s'=>match g with|.done f=>R (.ok f) s'|.again b=>b.quiet=b6/\Qf (hH prog w) A b R s') (λe s'=>R (.error e) s') s:=by
 have p:S≠I:=λe=>h (e▸k);unfold sL;show b5 (UO (c 0 _ a) ?_);have q:My (.ref S) (.ref I)=cK:=by simp[My,p]
 have r:(ro "list_reverseiterator"==ro "list")=cK:=by decide
 have t:(ro "list_reverseiterator"==ro "tuple")=cK:=by decide
 simp only[q,r,t,WZ,Kr,if_false];show b5 (W.self 0 _ _ _ a ?_);show b5 (t4 ?_);unfold Tf;show b5 (SS (c 0 _ a) rg ?_);change et _ A.in1 (specialOf (kj I) (Qo "__length_hint__") >>= _) _ _ _;show b5 (SS (c 0 _ a) xg ?_);have u:splitId "list_reverseiterator.__length_hint__"=bD ("list_reverseiterator","__length_hint__"):=by decide +kernel
 dsimp only
 rw[u]
 dsimp only
 show b5 (NW (c 0 _ a) oh ?_);rw[Z7 (by decide)];rw[Z6 (by decide +kernel)];rw[Z7 (by decide +kernel)];show dt ?_;rw[Z7 (by decide +kernel)];show dt ⟨RA PySem.F.plain_extend_loop _,YG W o _ h _ n 0 _ _ _ rfl (i8 _) a l (YR P) λs' d b v x y=>?_⟩;show m s' d b v x y
def lU(W:Y4 prog w A.in1 I fp wr G n P St)(p:∀i s,St i s->s.TypeIs (.ref I) "list_reverseiterator")(S:hA)(q:St 0 s)(l:S∉fp)(r:I∈fp)
  (g:s.heap.get? S=bD {cls:=.type "list",data:=.seq #[]})
  (t:∀s' d a,Moved (S::wr) G s s'->s'.heap.get? S=bD {cls:=.type "list",dict:=cb,data:=.seq d a,slots:=#[]}->Zo P d n->R (.ok (.ret .none)) s') (u:n<=df) :
  et (hH prog w) A.in1 (M4.«list.__init__» ⟨[.ref S,.ref I],[]⟩)
   (λj s'=>match j with|.done f=>R (.ok f) s'|.again a=>a.quiet=b6/\Qf (hH prog w) A a R s') (λe s'=>R (.error e) s') s:=by
 change et _ A.in1 (do let k <-Ug (.ref S);ZL (.ref S) (λ_=>#[]);letGo k.toList.reverse;sL (.ref S) (.ref I) .none) _ _ s;show b5 ?_;unfold Ug;show b5 (Tv g rfl (dt ?_));change et _ A.in1 (Zw S (λ_=>#[]) >>= λ_=>letGo (#[]:Array dV).toList.reverse >>= λ_=>sL (.ref S) (.ref I) .none) _ _ s;show b5 (QA g rfl ?_);have v:=uv (nH (λ_=>(#[]:Array dV))) g rfl;have m:∀b o,b≠S->s.heap.get? b=bD o->(s.heap.update S (nH (λ_=>(#[]:Array dV)))).get? b=bD o :=
  λb o c e=>(LZ _ _ (rz c)).trans e
 show b5 (wpAny_letGo ?_);show rh W p S .none _ (W.frame 0 s _ s.toks q (ix _) λb c o e=>m b o (λh=>l (h▸c)) e) l r v (λs' d a x y z=>?_) u;show t s' d a (Zn W.gtrans ((Moved.refl W.grefl).then_heap (ix _) λb o c e=>m b o (λh=>c (h▸ri)) e) x) y z
def pQ(W:Y4 prog w A.in1.in1 I fp wr G n P St)(h:∀i s,St i s->s.TypeIs (.ref I) "list_reverseiterator")(j:St 0 s)(k:∀b∈fp,b<s.heap.objs.size)(l:I∈fp)
  (m:∀s' a c,Moved (s.heap.objs.size::wr) G {s with heap:=s.heap.push {cls:=.type "list",data:=.seq #[]}} s' ->
   s'.heap.get? s.heap.objs.size=bD {cls:=.type "list",dict:=cb,data:=.seq a c,slots:=#[]}->Zo P a n->Q (.ref s.heap.objs.size) s') (p:n<=df) :
  et (hH prog w) A (MK (.type "list") [.ref I]) Q E s:=by
 have q:s.heap.objs.size∉fp:=λd=>u3 _ (k _ d);show callType_codes (Q₁:=λobj f=>obj=.ref s.heap.objs.size/\f={s with heap:=s.heap.push {cls:=.type "list",data:=.seq #[]}}) PySem.F.called_list (PySem.F.typeCall_list_1 _) PySem.F.entry_list_init
  (code_list_new _ ⟨rfl,rfl⟩) λobj f r=>?_
 have⟨rfl,rfl⟩:=r;have g:(s.heap.push {cls:=.type "list",data:=.seq #[]}).get? s.heap.objs.size=bD {cls:=.type "list",data:=.seq #[]}:=fx _ rfl;show⟨⟨_,g,rfl⟩,PySem.F.args_list_init_2 _ _,lU W h _ (W.frame 0 s _ s.toks j (ix _) λb _ o e=>c4 _ e) q l g (λs' a c d t u=>?_) p⟩;show⟨rfl,m s' a c d t u⟩
open AutoSeq1 (wpAny_loadPart') in
end
section
def iC(a:s.heap.IsTupleIter it l i)
  (hl:s.heap.IsTuple l b) (d:b[i]?=bD x)
  (e:∀h',h'.IsTupleIter it l (i+1)->my it s.heap h'->Q x {s with heap:=h' }) :
  et (hH prog w) A (IT (.ref it)) Q E s:=by
 have⟨o,ho,f,c⟩:=id a;obtain⟨j,g,_,k,h⟩:=hl;unfold IT;show b5 (OF (name:=Qo "__next__") a.typeIs PySem.F.slot_tuple_iterator_next
  (II PySem.F.slot_tuple_iterator_next a.typeIs PySem.F.entry_tuple_iterator_next ?_ (PySem.F.args_tuple_iterator_next_1 _)))
 change et _ _ (ZT (.ref it) 0 >>= _) _ _ s;show b5 (Tw ho c (x:=.ref l) rfl ?_);change et _ _ (if (kj l==nc)=b6 then _ else _) _ _ s;rw[Z7 (show ¬((kj l==nc)=b6) from i6)];change et _ _ (ZT (.ref it) 1 >>= _) _ _ s;show b5 (Tw ho c (x:=.int i 0) rfl ?_);change et _ _ (X4 (.ref l) >>= _) _ _ s;show b5 (Tv g h ?_);simp only[OD,d];show b5 (L4 ho c (by simp) (dt ⟨x,rfl,dt (e _ ?_ (D' ..))⟩));show⟨_,uv _ ho (R0 (L6 c _)),(T5 ..).trans f,by
  rw[L6 c];simp[ve]⟩
def eR(f:A.handled=cb)
  (b:s.heap.IsTupleIter it l i) (hl:s.heap.IsTuple l c) (g:c[i]?=cb)
  (h:∀h' e,ZC it s.heap h'->(∃o,h'.get? e=bD o/\o.cls=.type "StopIteration")->E (.ref e) {s with heap:=h' }) :
  et (hH prog w) A (IT (.ref it)) Q E s:=by
 have⟨o,ho,n,d⟩:=id b;obtain⟨p,j,_,q,k⟩:=hl;unfold IT;show b5 (OF (name:=Qo "__next__") b.typeIs PySem.F.slot_tuple_iterator_next
  (II PySem.F.slot_tuple_iterator_next b.typeIs PySem.F.entry_tuple_iterator_next ?_ (PySem.F.args_tuple_iterator_next_1 _)))
 change et _ _ (ZT (.ref it) 0 >>= _) _ _ s;show b5 (Tw ho d (x:=.ref l) rfl ?_);change et _ _ (if (kj l==nc)=b6 then _ else _) _ _ s;rw[Z7 (show ¬((kj l==nc)=b6) from i6)];change et _ _ (ZT (.ref it) 1 >>= _) _ _ s;show b5 (Tw ho d (x:=.int i 0) rfl ?_);change et _ _ (X4 (.ref l) >>= _) _ _ s;show b5 (Tv j k ?_);simp only[OD,g];show b5 (Ng (b5 (L4 ho d (by simp) ?_)));change et _ _ (Ye (.type "StopIteration") [] >>= _) _ _ _;show b5 ?_;simp only[Ye,ZR];show b5 (DD ?_ (by size_fits));show b5 (m:=Tx _ _) (Wc (a:=nc) (by first|rfl|(simp only[Tx];rfl)) ?_);show DD ?_ (by size_fits);simp only[Xj];show b5 (wpAny_handled ?_)
 first|rw[show A.in1.handled=cb from f]|rw[f]
 show b5 (dt (wpAny_throw ?_));show h _ _ (((D' ..).extBut.push _).push _) ⟨_,fx _ rfl,rfl⟩
end
def pR(d:A.handled=cb)(it l:hA)(f:l≠it)(a:Array dV):
  Draws prog w A it [it,l] a.size (λi v=>a[i]?=bD v) (λi h=>h.IsTupleIter it l i/\h.IsTuple l a) where
 live:=λ_ _ st=>let ⟨o,ho,_⟩:=st.1;⟨o,ho⟩
 frame:=λ_ _ _ st hk=>⟨st.1.at λo e=>hk it (by simp) o e,let ⟨o,ho,r⟩:=st.2;⟨o,hk l (by simp) o ho,r⟩⟩
 item:=λi s Q E b st g=>by
  show iC st.1 st.2 (x:=a[i]) (by simp[b]) λh' j c=>?_;show g _ h' s.toks (by simp[b]) ⟨j,let ⟨o,ho,r⟩:=st.2;⟨o,(c.2 l f).trans ho,r⟩⟩ c
 done:=λs Q E st k=>eR d st.1 st.2 (by simp) k
open AutoSeq1 (wpAny_loadPart') in
def kK(l:hA)(a:Array dV)(n:Nat)(e:Option hA)(f:Array (Option dV)):
  Meets (M4.«enumerate.__new__» ⟨[.type "enumerate",.ref l],[]⟩) (λ_ R s=>s.heap.get? l=bD {cls:=.type "tuple",dict:=e,data:=.seq a n,slots:=f} /\
   R (.ok (.ret (.ref (s.heap.push {cls:=.type "tuple_iterator",data:=.fields #[.ref l,.int 0 0]}).objs.size)))
    {s with heap:=(s.heap.push {cls:=.type "tuple_iterator",data:=.fields #[.ref l,.int 0 0]}).push {cls:=.type "enumerate",data:=.fields #[.none,.bool cK,.ref s.heap.objs.size,ve 0,.none,.none]}}) :=
 .of_wp λprog w A R s h=>by
  have⟨i,g,d,j,os⟩:=s;have⟨hl,h⟩:=h;have k:=sub_enumerate;have b:Heap.IsTuple (Shared.heap ⟨i,g,d,j,os⟩) l a:=⟨_,hl,rfl,n,rfl⟩
  wp_walk using SW hl
  show wpAny_stack_any λst=>dt ?_;split
  .rename_i c _ _ _ _ _;cases(c==ro "enumerate")
   .wp_walk using SW hl,Ot b
    show⟨_,rfl,h⟩
   .wp_walk using SW hl,Ot b
    show⟨_,rfl,h⟩
  .wp_walk using SW hl,Ot b
   show⟨_,rfl,h⟩
section
def fO(g:s.heap.IsTuple l a)
  (h:∀h',Yj h' (s.heap.objs.size+1) s.heap.objs.size 0 .none->h'.IsTupleIter s.heap.objs.size l 0->h'.objs.size=s.heap.objs.size+2 ->
   (∀b o,s.heap.get? b=bD o->h'.get? b=bD o)->Q (.ref (s.heap.objs.size+1)) {s with heap:=h' }) :
  et (hH prog w) A (MK (.type "enumerate") [.ref l]) Q E s:=by
 obtain⟨⟨c,i,j,k⟩,hl,d,n,e⟩:=g
 replace d:c=.type "tuple":=d
 replace e:j=.seq a n:=e
 subst d e;show callType_new PySem.F.called_enumerate (by decide) (PySem.F.typeCall_enumerate_1 _) (PySem.F.newCall_enumerate_1 _) (λobj=>PySem.F.args_object_init_2 obj _) PySem.F.entry_enumerate_new
  (kK l a n i k) ⟨hl,?_⟩
 have hz:(s.heap.push {cls:=.type "tuple_iterator",data:=.fields #[.ref l,.int 0 0]}).objs.size=s.heap.objs.size+1:=VM ..;change _/\_;rw[hz];have f:Yj ((s.heap.push {cls:=.type "tuple_iterator",data:=.fields #[.ref l,.int 0 0]}).push
   {cls:=.type "enumerate",data:=.fields #[.none,.bool cK,.ref s.heap.objs.size,ve 0,.none,.none]}) (s.heap.objs.size+1) s.heap.objs.size 0 .none:=by
  have:=fx (s.heap.push {cls:=.type "tuple_iterator",data:=.fields #[.ref l,.int 0 0]})
   (o:={cls:=.type "enumerate",data:=.fields #[.none,.bool cK,.ref s.heap.objs.size,ve 0,.none,.none]}) rfl
  rw[hz]at this;show this
 show⟨⟨_,f,rfl⟩,h _ f ⟨_,c4 _ (fx _ rfl),rfl,rfl⟩ (by rw[VM,hz]) λb o x=>c4 _ (c4 _ x)⟩
end
end L2
namespace L2
open PySem PySem.Spec PyProof.Rows
section
def Inv.oi{ch:List hA}(I:Inv X a σ H s)(f:∀b∈ch,ij X a H b)(k:∀b o,b∉ch->s.heap.get? b=bD o->h'.get? b=bD o):Inv X a σ H {s with heap:=h',toks:=t' }:=by
 have g:∀b u,H b=bD u->b∉ch:=λb u e z=>by rw[(f b z).1]at e;cases e
 show I.step (g':=s.gens) (d':=s.drawn) (ch:=ch) (λb h=>?_) (λb o _ _ d e _=>k b o d e) (λb o _ _ d e _=>⟨o.slots,k b o d e⟩) (λ_ _ _ _ n=>n)
  (λb o d e=>⟨o,k b o d e⟩) (λ_ _ e=>e) (λ_ _ _ e=>e) (λb ps e=>⟨#[],by rw[e];simp⟩) (λm i=>?_) (λb u e=>?_) I.bare
 .have⟨w,j,x,l,p,t⟩:=f b h;show⟨l,j,p,t⟩
 .have⟨o,es,ep,ho,r⟩:=i;show⟨o,es,ep,k _ o (λz=>(f _ z).2.1 rfl) ho,r⟩
 .show(I.Hr b u e).gQ (λc v d q=>k c v ?_ q) (λ_ q=>q) λ_ _ q=>q;rcases d with z|z
  .rw[z];show g b u e
  .show g c _ z
def Inv.kL{ch:List hA}(I:Inv X a σ H s)(h:∀b∈ch,ij X a H b)(k:∀b o,b∉ch->s.heap.get? b=bD o->h'.get? b=bD o)(i:s.heap.objs.size<=T)(new:bN X.prog X.w (upd H T o) h' T o):
  Inv X a σ (upd H T o) {s with heap:=h',toks:=t' }:=by
 have j:Inv X a σ H {s with heap:=h',toks:=t' }:=I.oi h k;have l:H T=cb:=I.Hr.fresh i;have p:∀b o,s.heap.get? b=bD o->b≠T:=λb o e z=>by rw[z]at e;show absurd (i9 (gc e) i) (u3 _)
 have d:∀b u,H b=bD u->b≠T:=λb u e z=>by rw[z,l]at e;cases e
 show I.step (g':=s.gens) (d':=s.drawn) (ch:=ch) (λb g=>?_) (λb o _ _ f e _=>k b o f e) (λb o _ _ f e _=>⟨o.slots,k b o f e⟩) (λb o _ e n=>by rw[ak (p b o e)];show n)
  (λb o f e=>⟨o,k b o f e⟩) (λb _ e=>by rw[ak (d b _ e)];show e) (λb _ _ e=>by rw[ak (d b _ e)];show e) (λb ps e=>⟨#[],by rw[ak (d b _ e),e];simp⟩) (λm t=>?_) (λb u e=>?_) I.bare
 .have⟨C,x,D,y,A,B⟩:=h b g;show⟨y,x,A,B⟩
 .have⟨o,es,ep,ho,r⟩:=t;show⟨o,es,ep,k _ o (λz=>(h _ z).2.1 rfl) ho,r⟩
 .by_cases g:b=T
  .subst g;rw[ax]at e;cases e;show new
  .rw[ak g]at e;show(j.Hr b u e).gQ (λc v _ q=>q) (λc q=>by rw[ak (d c _ q)];show q) λc xs q=>by rw[ak (d c _ q)];show q
end
abbrev ND(a:Hp->List V->Prop):It :=
 ⟨λi H=>∃xs x,a H xs/\xs[i]?=bD x,λi H x H'=>∃p,H p=cb/\x=.ref p/\∀xs v,a H xs->xs[i]?=bD v->H'=upd H p (.tup [.int i,v]),λi H=>∃xs,a H xs/\xs.length<=i⟩
def mJ{K:PySem.W.Frag}(r:Hp->List V->Prop)(a e it:hA)(O:e≠it)(At:Nat->IZ->Prop)(t:IZ->Array dV->Prop)
  (JG:∀i h h',At i h->(∀o,h.get? it=bD o->h'.get? it=bD o)->At i h') (TL:∀i h,At i h->∃o,h.get? it=bD o/\∀v,o.data≠.cell v)
  (PK:∀(X:Cx) (d:List (hA×Obj)) (s:gs) (σ:St) (H:Hp) (xs:List V),X.K=K->Inv X d σ H s->r H xs->∃l:List dV,Vals xs l/\t s.heap l.toArray)
  (RE:∀(X:Cx) (d:List (hA×Obj)) (s:gs) (σ:St) (H:Hp) (xs B:List V),X.K=K->Inv X d σ H s->r H xs->r H B->xs=B)
  (TH:∀h c i f,t h c->Yj h e it i f->e≠a)
  (hD:∀(A:MN) (c:Array dV),A.handled=cb->Draws P w A it [it,a] c.size (λi v=>c[i]?=bD v) (λi h=>At i h/\t h c))
  (LL:∀(A:MN) (s:gs) (i:Nat) (c:Array dV) (Q:dV->gs->Prop) (E:dV->gs->Prop),A.handled=cb->At i s.heap->t s.heap c->c[i]?=cb ->
   (∀h' x,ZC it s.heap h'->(∃o,h'.get? x=bD o/\o.cls=.type "StopIteration")->E (.ref x) {s with heap:=h' })->et (hH P w) A (IT (.ref it)) Q E s) :
  Turn P w K (.Tuple es kx ps) (ND r) [e,it] e (λi h=>(∃f,Yj h e it i f)/\At i h) where
 mem:=by simp
 obj:=λi h st b g=>by
  obtain⟨⟨f,j⟩,hl⟩:=st;rcases gj.mp g with z|z
  .rw[z];show⟨_,j,λv z=>by
    have z':R3 _=W3 v:=z;cases z'⟩
  .rw[hV.mp z];show TL i h hl
 keep:=λi h h' ⟨⟨f,j⟩,hl⟩ k=>⟨⟨f,k e (by simp) _ j⟩,JG i h h' hl λo q=>k it (by simp) o q⟩
 item:=by
  intro X Y hw C hc i d s σ H E I G ⟨⟨f,j⟩,hl⟩ hg;subst Y hw;have⟨xs,x,J,hx⟩:=hg;have⟨l,rv,p⟩:=PK X d s σ H xs C I J;have⟨u,hu,ru⟩:=rv.get hx;have HI:i<l.toArray.size:=by simpa using(d3.mp hu).1
  have D:=hD X.A.in1 l.toArray (by simpa using I.ok.hd hc);have RF:=TH _ _ _ _ p j;show wpAny_pyNext_enum_itemD D j ⟨hl,p⟩ HI O (by simp[O,RF]) λy h1 m L ho st1 N hsz hk=>?_;have ey:y=u:=by
   have:l.toArray[i]?=bD u:=by simpa using hu
   rw[this]at L;cases L;rfl
  subst ey;show⟨_,rfl,wpAny_letOwnedTupleGo_enum (s:={s with heap:=h1,toks:=m+1}) ho λn PL IY=>?_⟩;have TN:e<s.heap.objs.size:=gc j;have RG:n.get? s.heap.objs.size=bD {cls:=.type "tuple",data:=.seq #[.int i m,y]}:=(IY.2 _ (Iq TN)).trans N;have k2:∀b o,b∉[e,it]->s.heap.get? b=bD o->n.get? b=bD o:=λb o g q=>by
   simp only[gj,J2,or_false,not_or]at g;show(IY.2 b g.1).trans (hk b o g.1 g.2 q)
  have I2:Inv X d σ (upd H s.heap.objs.size (.tup [.int i,x])) {s with heap:=n,toks:=m+1}:=I.kL G k2 (ix _)
   (show bN X.prog X.w _ n _ (.tup [.int i,x]) from⟨by change 2<=df;decide,[.int i m,y],.cons ⟨m,rfl⟩ (.cons ru .nil),⟨_,RG,rfl,_,rfl⟩⟩)
  show⟨.ref s.heap.objs.size,_,I2,rfl,⟨_,I.Hr.fresh (ix _),rfl,λB v L hv=>?_⟩,⟨⟨_,PL⟩,JG (i+1) h1 n st1.1 λo q=>(IY.2 it (rz O)).trans q⟩,λb g=>?_⟩
  .have:=RE X d s σ H B xs C I L J;subst this;rw[hx]at hv;cases hv;rfl
  .have Je:b≠s.heap.objs.size:=by
    rcases gj.mp g with z|z
    .rw[z];show hZ TN
    .rw[hV.mp z];obtain⟨o,q,_⟩:=TL i _ hl;show hZ (gc q)
   rw[ak Je];show(G b g).1
 done:=by
  intro X Y hw C hc i d s σ H E I G ⟨⟨f,j⟩,hl⟩ hg;subst Y hw;have⟨xs,J,hx⟩:=hg;have⟨l,rv,p⟩:=PK X d s σ H xs C I J;have ac:=rv.length;have N:s.TypeIs (.ref e) "enumerate":=⟨_,j,rfl⟩
  unfold Sg;show b5 (wpAny_attempt (OF (name:=Qo "__next__") N PySem.F.slot_enumerate_next
   (II PySem.F.slot_enumerate_next N PySem.F.entry_enumerate_next ?_ (PySem.F.args_enumerate_next_1 _))))
  change et _ _ (ZT (.ref e) 2 >>= _) _ _ _;show b5 (Tw j rfl (x:=.ref it) rfl ?_);show b5 (LL _ _ i l.toArray _ _ (by simpa using I.ok.hd hc) hl p (by simp;lia) λh' x Q9 Oa=>?_);have⟨o,ho,PB⟩:=Oa;show b5 (NW (T:="StopIteration") (b:=b6) ⟨o,ho,PB⟩ ZS ?_);show dt ⟨rfl,I.oi (t':=s.toks) (ch:=[it]) (λb g=>G b (ti _ g)) λb o g q=>Q9 b o (λz=>g (by simp[z])) q⟩
 self:=λA i s Q E ⟨⟨f,j⟩,hl⟩ h=>UX j h
section
variable{X:Cx}{es:List mh}{kx:Nat}{ps p pos:Pos}
def vd:vr "enumerate"=bD (.type "enumerate"):=by decide +kernel
abbrev G5(K:PySem.W.Frag)(c:TA):TI:=λσ H R=>c σ H λvs b=>∃a,vs=[.ref a]/\((∃xs,HX K b a xs)/\R (ND λH xs=>HX K H a xs) b\/(∃xs,Ie K b a xs)/\R (ND λH xs=>Ie K H a xs) b)
def C8(a e it:hA)(q:e≠it)(r:a≠it):Turn X.prog X.w X.K (.Tuple es kx ps) (ND λH xs=>HX X.K H a xs) [e,it] e (λi h=>(∃c,Yj h e it i c)/\h.IsListIter it a i):=by
 show mJ _ a e it q (λi h=>h.IsListIter it a i) (λh b=>h.IsList a b) (λi h h' x k=>x.at k) (λi h ⟨o,ho,l,t⟩=>⟨o,ho,λv z=>by rw[t]at z;cases z⟩)
  (λY d s σ H xs g I m=>?_) (λY d s σ H xs G g I f n=>?_) (λh b i c ⟨o,ho,l,_⟩ u z=>?_) (λA b j=>Draws.list j it a r b) (λA s i b Q E j hl y f B=>wpAny_nextOf_list_end j hl y f B)
 .rw[<-g]at m;have⟨C,rv,p,hz⟩:=I.list m;show⟨C,rv,p.isList⟩
 .rw[<-g]at f n;show I.pe f n
 .rw[<-z,u]at ho;cases ho;have D:ro "enumerate"=ro "list":=l;show absurd D (by decide)
def C9(a e it:hA)(q:e≠it)(r:a≠it):Turn X.prog X.w X.K (.Tuple es kx ps) (ND λH xs=>Ie X.K H a xs) [e,it] e (λi h=>(∃c,Yj h e it i c)/\h.IsTupleIter it a i):=by
 show mJ _ a e it q (λi h=>h.IsTupleIter it a i) (λh b=>h.IsTuple a b) (λi h h' x k=>x.at k) (λi h ⟨o,ho,l,t⟩=>⟨o,ho,λv z=>by rw[t]at z;cases z⟩)
  (λY d s σ H xs g I m=>?_) (λY d s σ H xs G g I f n=>?_) (λh b i c ⟨o,ho,l,_⟩ u z=>?_) (λA b j=>pR j it a r b) (λA s i b Q E j hl y f B=>eR j hl y f B)
 .rw[<-g]at m;have⟨C,rv,p,hz⟩:=I.tuple m;show⟨C,rv,p⟩
 .rw[<-g]at f n;show I.l8 f n
 .rw[<-z,u]at ho;cases ho;have D:ro "enumerate"=ro "tuple":=l;show absurd D (by decide)
def zZ(n:Gl X "enumerate")(t:X.mg "enumerate"=cb)(v:PA X [a] w)(hs:i2 [a] X.env=[(cK,wk a X.env)]):PI X (.Tuple es kx ps) (.Call (.Name "enumerate" p) [a] [] pos) (G5 X.K w):=by
 intro c s σ H R I h;show Call_ (dB I n t vd (LA (Hu (v pos c s σ H _ I h) λus s1 ⟨vs,j,d,x,y⟩=>?_) hs rfl));have⟨a',e,q⟩:=y;subst e;have⟨u,rfl,r⟩:=vals1 x;cases r;have f:s1.heap.objs.size+1≠s1.heap.objs.size:=Nat.succ_ne_self _;have g:∀(h':IZ),(∀b∈[s1.heap.objs.size+1,s1.heap.objs.size],ij X c j b):=λh' b A=>by
  have m:s1.heap.objs.size<=b:=by
   rcases gj.mp A with z|z
   .rw[z];show KY _
   .rw[hV.mp z];show ix _
  show d.wo m (d.Hr.fresh m)
 rcases q with⟨⟨xs,k⟩,q⟩|⟨⟨xs,k⟩,q⟩
 .have⟨B,rv,p,hz⟩:=d.list k;have l:a'<s1.heap.objs.size:=let ⟨o,ho,_⟩:=p.isList;gc ho;show call_enumerate_list p.isList λh' i hl hsz hk=>?_;show UX i ⟨_,[s1.heap.objs.size+1,s1.heap.objs.size],_,_,j,rfl,d.kept (t':=s1.toks) hk,C8 a' _ _ f (hZ l),⟨⟨_,i⟩,hl⟩,g h',q⟩
 .have⟨B,rv,p,hz⟩:=d.tuple k;have l:a'<s1.heap.objs.size:=let ⟨o,ho,_⟩:=p;gc ho;show fO p λh' i hl hsz hk=>?_;show UX i ⟨_,[s1.heap.objs.size+1,s1.heap.objs.size],_,_,j,rfl,d.kept (t':=s1.toks) hk,C9 a' _ _ f (hZ l),⟨⟨_,i⟩,hl⟩,g h',q⟩
end
def z_{a:List dV}(h:Zo (λi v=>a.toArray[a.toArray.size - 1 - i]?=bD v) acc a.toArray.size):acc.toList=a.reverse:=by
 apply Yt;intro i;have hs:acc.size=a.length:=by have:=h.1;simpa using this
 by_cases c:i<a.length
 .have b:i<acc.size:=by lia
  have:=h.2 i (acc[i]'b) (by simp[b]);rw[qs,M' b,List.getElem?_reverse c];simpa using this.symm
 .rw[O3 (by rw[hY];lia),O3 (by rw[Tb];lia)]
section
def xh(j:X.calm=b6)(I:Inv X f σ H s)(k:HX X.K H a xs)
  (h:∀c,Vals xs c->xs.length<=df->∀(R:hA) (d:IZ),R=s.heap.objs.size->d.objs.size=s.heap.objs.size+1->(∀b o,s.heap.get? b=bD o->d.get? b=bD o)->(∀B:MN,B.handled=X.A.handled ->
   Walks X.prog X.w B R [R,a] [R] c.toArray.size (λi v=>c.toArray[c.toArray.size - 1 - i]?=bD v) (λi h=>i<=c.toArray.size/\h.IsRevIter R a ((c.toArray.size:Int) - 1 - (i:Int))/\h.IsList a c.toArray)) ->
   d.IsRevIter R a ((c.toArray.size:Int) - 1 - ((0:Nat):Int))->d.IsList a c.toArray->a<s.heap.objs.size->Q (.ref R) {s with heap:=d}):et (hH X.prog X.w) X.A (MK (.type "reversed") [.ref a]) Q X.xe s:=by
 have⟨c,rv,p,hz⟩:=I.list k;have g:a<s.heap.objs.size:=let ⟨o,ho,_⟩:=p.isList;gc ho;show call_reversed_list p.isList (h c rv hz _ _ rfl (by rw[KN]) (λb o e=>c4 _ e) (λB l=>Walks.listRev (by rw[l];show I.ok.hd j) _ a (hZ g) c.toArray) ?_ (p.isList.push _) g);show⟨_,fx _ rfl,rfl,?_⟩;change R3 _=R3 _;congr 3
 simp
def xi(p:X.calm=b6)(I:Inv X c σ H s)(r:HX X.K H a xs)(q:∀l,H l=cb->Q (.ref l) (upd H l (.lst xs.reverse))):
  et (hH X.prog X.w) X.A (MK (.type "reversed") [.ref a]) (λv s1=>et (hH X.prog X.w) X.A (MK (.type "list") [v]) (EP X c σ Q) X.xe s1) X.xe s:=by
 show xh p I r λh rv hz R d j hsz hk t u hl x=>?_;have Y:h.length=xs.length:=rv.length.symm;show pQ (s:={s with heap:=d}) (t X.A.in1.in1 rfl).toS (λi s st=>st.2.1.typeIs) ⟨i8 _,u,hl⟩ (λb f=>?_) (by simp) (λs' acc k g y B=>?_) (by simp;lia)
 .change b<d.objs.size;rw[hsz];rcases gj.mp f with z|z
  .rw[z,j];show Nb _
  .rw[hV.mp z];show QW x
 .have⟨m,C,D,G,o2⟩:=s';have J:C=s.gens:=g.gens;have L:D=s.drawn:=g.drawn;have N:o2=s.os:=g.os;subst J L N;have k2:∀b o,s.heap.get? b=bD o->m.get? b=bD o:=λb o e=>g.heap b o (λz=>by
   have f:=gc e;rcases gj.mp z with z|z
   .rw[z]at f;have n:d.objs.size<s.heap.objs.size:=f;rw[hsz]at n;show absurd n (YO (Nb _))
   .rw[hV.mp z,j]at e;show absurd (gc e) (u3 _)) (c4 _ (hk b o e))
  have O:=z_ B;show⟨.ref d.objs.size,_,I.laid (t':=G) (o:=.lst xs.reverse) k2 (by rw[hsz];show KY _) ⟨by rw[Tb];show hz,h.reverse,k,rv.reverse,?_⟩,rfl,q _ (I.Hr.fresh (by rw[hsz];show KY _))⟩;have T:m.get? d.objs.size=bD {cls:=.type "list",dict:=cb,data:=.seq acc k,slots:=#[]}:=y;rw[T,<-O,Xs]
end
end L2
namespace L2
open PySem PySem.W PyProof.Rows
section
def Inv.freeze(I:Inv X a σ H s)(c:H r=bD (.dK kvs))(ho:s.heap.get? r=bD o):Inv X a σ (upd H r (.Ir o (.dK kvs))) s:=by
 have d:∀b u,H b=bD u->u≠.dK kvs->b≠r:=λb u e n z=>by subst z;rw[c]at e;cases e;show n rfl
 show I.write (t':=s.toks) (x:=r) (e:=r) (by rw[c];trivial) (.inl rfl) (λb u _ q=>q) ⟨o,ho⟩ ⟨ho,(I.Hr r _ c).gQ (λ_ _ _ q=>q) (λb q=>by rw[ak (d b _ q (λz=>by cases z))];show q) λb xs q=>by rw[ak (d b _ q (λz=>by cases z))];show q⟩
def C_(h:PE X e c):PE X e (λσ H Q=>∃r kvs,H r=bD (.dK kvs)/\∀o,c σ (upd H r (.Ir o (.dK kvs))) Q):=by
 intro a s σ H Q I ⟨r,kvs,b,d⟩;obtain⟨_,_,vs,_,o,es,ep,ho,_⟩:=(show bN X.prog X.w H s.heap r (.dK kvs) from I.Hr r _ b)
 show h a s σ _ Q (I.freeze b ho) (d o)
end
abbrev RJ(r:hA)(o:Obj)(kvs:List (Key×V)):It :=
 ⟨λi H=>H r=bD (.Ir o (.dK kvs))/\i<kvs.length,λi H x H'=>∃p,H p=cb/\x=.ref p/\∀k v,kvs[i]?=bD (k,v)->H'=upd H p (.tup [kV k,v]),λi H=>H r=bD (.Ir o (.dK kvs))/\kvs.length<=i⟩
def Dc(h:(aO P w).is k u=b6):RelV (kV k) u:=by
 rcases bp (show ju k u=b6 from h) with⟨i,t,rfl,rfl⟩|⟨y,t,rfl,rfl⟩
 .show⟨t,rfl⟩
 .show⟨t,rfl⟩
theorem BQ:∀{kvs:List (Key×V)}{vs:List (Key×dV)},KV kvs vs->∀(i:Nat) (h:i<kvs.length) (h':i<vs.length),kvs[i].1=vs[i].1/\RelV kvs[i].2 vs[i].2
 |_,_,.cons a _,0,_,_=>a
 |_,_,.cons _ b,i+1,h,h'=>BQ b i (by simpa using h) (by simpa using h')
def rj{K:PySem.W.Frag}(l:o.data=.dict L ep):
  Turn P w K (.Tuple es kx ps) (RJ r o kvs) [it] it (λi h=>∃d e,IsItemIter h it r i kvs.length ep d e) where
 mem:=by simp
 obj:=λi h ⟨d,e,st⟩ b a=>by
  rw[hV.mp a];show⟨_,st,λv z=>by
    have z':R3 _=W3 v:=z;cases z'⟩
 keep:=λi h h' ⟨d,e,st⟩ k=>⟨d,e,k it (by simp) _ st⟩
 item:=by
  intro X t u hK N i c s σ H E I m ⟨d,e,st⟩ x;subst t u;have⟨y,B⟩:=x;have⟨ho,z1,z2,vs,kv,o',VZ,LF,f,C,g,D⟩:=(show bN X.prog X.w H s.heap r (.Ir o (.dK kvs)) from I.Hr r _ y)
  rw[ho]at f;cases f;rw[l]at g;cases g;have hl:vs.length=kvs.length:=(Paired.length kv).symm;have G:s.heap.DictAt (aO X.prog X.w) r vs ep:=⟨o,L,ho,C,l,D⟩
  obtain⟨q,hq,e1,e2⟩:∃q,vs[i]?=bD q/\kvs[i].1=q.1/\RelV kvs[i].2 q.2:=by
   have O:i<vs.length:=by lia
   show⟨vs[i],by simp[O],?_⟩;show BQ kv i B O
  rw[<-hl]at st;show wpAny_pyNext_items_item st G (k:=q.1) (v:=q.2) hq λj h1 hk J hT hsz MO=>⟨_,rfl,wpAny_letOwnedTupleGo_items (s:={s with heap:=h1}) J λn T Y=>?_⟩
  have HI:it<s.heap.objs.size:=gc st;have RG:n.get? s.heap.objs.size=bD {cls:=.type "tuple",data:=.seq #[j,q.2]}:=(Y.2 _ (Iq HI)).trans hT;have k2:∀b o,b∉[it]->s.heap.get? b=bD o->n.get? b=bD o:=λb o a q=>by
   have p:b≠it:=λz=>a (by simp[z]);show(Y.2 b p).trans (MO b o p q)
  have I2:Inv X c σ (upd H s.heap.objs.size (.tup [kV kvs[i].1,kvs[i].2])) {s with heap:=n,toks:=s.toks}:=I.kL m k2 (ix _)
   (show bN X.prog X.w _ n _ (.tup [kV kvs[i].1,kvs[i].2]) from⟨by change 2<=df;decide,[j,q.2],.cons (by rw[e1];show Dc hk) (.cons e2 .nil),⟨_,RG,rfl,_,rfl⟩⟩)
  show⟨.ref s.heap.objs.size,_,I2,rfl,⟨_,I.Hr.fresh (ix _),rfl,λk v PN=>?_⟩,⟨_,_,by rw[hl]at T;show T⟩,λb a=>?_⟩
  .rw[mA B]at PN;rw[sx PN]
  .have p:b≠s.heap.objs.size:=by rw[hV.mp a];show hZ HI
   rw[ak p];show(m b a).1
 done:=by
  intro X t u hK N i c s σ H E I m ⟨d,e,st⟩ x;subst t u;have⟨y,B⟩:=x;have⟨ho,z1,z2,vs,kv,o',VZ,LF,f,C,g,D⟩:=(show bN X.prog X.w H s.heap r (.Ir o (.dK kvs)) from I.Hr r _ y)
  rw[ho]at f;cases f;rw[l]at g;cases g;have hl:vs.length=kvs.length:=(Paired.length kv).symm;have G:s.heap.DictAt (aO X.prog X.w) r vs ep:=⟨o,L,ho,C,l,D⟩
  rw[<-hl]at st;show wpAny_pyNext_items_end (by simpa using I.ok.hd N) st G (O3 ⋯) λh' Oa=>⟨rfl,I.oi (t':=s.toks) m λb o a q=>Oa b o (λz=>a (by simp[z])) q⟩
 self:=λA i s Q E ⟨d,e,st⟩ h=>kcp_self st h
section
abbrev G6(i:Nat):TI:=λσ H R=>∃r o kvs,σ[i]?=bD (bD (.ref r))/\H r=bD (.Ir o (.dK kvs))/\R (RJ r o kvs) H
def xj(t:X.N[i]?=bD x)(y:Js X.env.scope x)(A:(x==("__debug__":Str))=cK)(B:(x==("__classdict__":Str))=cK)(C:(c.endLine==D.line)=b6):
  PI X (.Tuple es kx ps) (.Call (.Attribute (.Name x px) "items" c) [] [] D) (G6 i):=by
 intro d s σ H R I ⟨r,o,kvs,hs,G,J⟩;show RO rfl C (Hu (b9 t y A B d s σ H (λv g=>v=.ref r/\g=H) I ⟨_,hs,rfl,rfl⟩) λv s1 L=>?_);have⟨x1,g,h,O,m,Q⟩:=L;subst m Q;cases(show v=kj r from O);have⟨ho,m,lo,vs,kv,o',k,ep,n,f,j,l⟩:=(show bN X.prog X.w g s1.heap r (.Ir o (.dK kvs)) from h.Hr r _ G)
 rw[ho]at n;cases n;have hl:vs.length=kvs.length:=(Paired.length kv).symm;have hm:s1.heap.DictAt (aO X.prog X.w) r vs ep:=⟨o,k,ho,f,j,l⟩
 have p:s1.TypeIs (.ref r) "dict":=⟨o,ho,f.1⟩
 show⟨"dict","dict.items",PySem.F.plainAttrs_dict,PySem.F.slot_dict_items,PySem.F.type_dict_items,p,λa e=>⟨o,by cases e;show ho,f.2.1⟩,wh rfl (PySem.evalArgs_none (Sk PySem.F.slot_dict_items p PySem.F.entry_dict_items (PySem.F.args_dict_items_1 _) (Zz (aO X.prog X.w) r lo) ⟨⟨vs,o,k,ep,ho,f,j,l⟩,?_⟩))⟩;have k1:∀b u,s1.heap.get? b=bD u->(s1.heap.push {cls:=.type "dict_items",data:=.fields #[.ref r]}).get? b=bD u:=λb u z=>c4 _ z;have T:(s1.heap.push {cls:=.type "dict_items",data:=.fields #[.ref r]}).DictAt (aO X.prog X.w) r vs ep:=⟨o,k,k1 _ _ ho,f,j,l⟩
 show wpAny_pyIter_items (s:={s1 with heap:=s1.heap.push {cls:=.type "dict_items",data:=.fields #[.ref r]}}) ⟨_,fx _ rfl,rfl,rfl⟩ T ?_;have hsz:(s1.heap.push {cls:=.type "dict_items",data:=.fields #[.ref r]}).objs.size=s1.heap.objs.size+1:=KN ..;have Y:=h.kept (t':=s1.toks) (h':=(s1.heap.push {cls:=.type "dict_items",data:=.fields #[.ref r]}).push {cls:=.type "dict_itemiterator",data:=.fields #[.none,.bool cK,.ref r,.int 0 0,.int vs.length 0,.int ep 0,.none,.none]}) λb u z=>c4 _ (k1 b u z);show⟨_,[_],_,_,g,rfl,Y,rj (kvs:=kvs) j,⟨.none,.none,by rw[<-hl];show fx _ rfl⟩,λb hb=>?_,J⟩;rw[hV.mp hb];have q:s1.heap.objs.size<=(s1.heap.push {cls:=.type "dict_items",data:=.fields #[.ref r]}).objs.size:=by rw[hsz];show KY _
 show h.wo q (h.Hr.fresh q)
end
end L2
namespace L2
open PySem PySem.Spec PyProof.Rows
def vf(l:hA)(a:Array dV)(n:Nat)(b:hA)(c:Array dV)(e:Nat)(f:Option hA)(i:Array (Option dV))(p:¬(!a.isEmpty&&Kc (a.size+c.size))=b6)(j:a.size<=df)(k:a.size+c.size<=df+1):
  Meets (M4.«list.extend» ⟨[.ref l,.ref b],[]⟩) (λ_ R s=>s.heap.get? l=bD {cls:=.type "list",dict:=cb,data:=.seq a n,slots:=#[]}/\s.heap.get? b=bD {cls:=.type "list",dict:=f,data:=.seq c e,slots:=i}/\R (.ok (.ret nc)) {s with heap:=s.heap.update l (nH λx=>x++c),toks:=s.toks}) :=
 .of_wp λprog w A R s h=>by
  have⟨q,g,d,r,os⟩:=s;have⟨hl,m,h⟩:=h;have t:=Xw;have u:=UH;have v:=VX;have y:=VE;have z:=VF;
  have o:(a++c).size<=df+1:=by rw[TC];show k
  wp_walk using(QA hl rfl (hz:=j) (_hz':=o)),M7 hl,M7 m;show⟨_,rfl,h⟩
def vg(l:hA)(a:Array dV)(n:Nat)(b:hA)(c:Array dV)(e:Nat)(f:Option hA)(i:Array (Option dV))(p:¬(!a.isEmpty&&Kc (a.size+c.size))=b6)(j:a.size<=df)(k:a.size+c.size<=df+1):
  Meets (M4.«list.extend» ⟨[.ref l,.ref b],[]⟩) (λ_ R s=>s.heap.get? l=bD {cls:=.type "list",dict:=cb,data:=.seq a n,slots:=#[]}/\s.heap.get? b=bD {cls:=.type "tuple",dict:=f,data:=.seq c e,slots:=i}/\R (.ok (.ret nc)) {s with heap:=s.heap.update l (nH λx=>x++c),toks:=s.toks}) :=
 .of_wp λprog w A R s h=>by
  have⟨q,g,d,r,os⟩:=s;have⟨hl,m,h⟩:=h;have t:=Xw;have u:=UH;have v:=VX;have y:=VE;have z:=VF;
  have o:(a++c).size<=df+1:=by rw[TC];show k
  wp_walk using(QA hl rfl (hz:=j) (_hz':=o)),M7 hl,M7 m;show⟨_,rfl,h⟩
section
def rm:Pq X "list.extend" (λx vs H Q=>∃l b xs c,x=.ref l/\vs=[.ref b]/\H l=bD (.lst xs)/\(HX X.K H b c\/Ie X.K H b c)/\xs.length+c.length<=df/\Q .Hs (upd H l (.lst (xs++c)))):=by
 intro g s σ H x vs v us Q I B rv h;have⟨l,b,xs,c,rfl,rfl,y,hB,hz,q⟩:=h;cases B;have⟨u,rfl,C⟩:=rv.one;cases C;have⟨z,f,n,r,hl,e⟩:=I.zM y;have i:∀a:List dV,Vals c a->EP X g σ Q nc {s with heap:=s.heap.update l (nH λx=>x++a.toArray),toks:=s.toks}:=λa d=>by
  show⟨.Hs,_,I.iY (its':=f++a) y e (by simp) (r.append d) ?_,rfl,q⟩;rw[i0];lia
 have m:∀a:List dV,c.length=a.length->f.toArray.size+a.toArray.size<=df:=λa h=>by rw[hE,hE];lia
 have A:∀a:List dV,c.length=a.length->¬(!f.toArray.isEmpty&&Kc (f.toArray.size+a.toArray.size))=b6:=λa h=>by
  rw[wy (m a h),Sa];show i6
 rcases hB with hB|hB
 .obtain⟨a,d,o,_⟩:=I.list hB;obtain⟨⟨cls,p,data,t⟩,ho,j,w,k⟩:=o.isList;simp only at j k;subst j k;have K3:=d.length;have D:=m a K3;show UD YJ ⟨_,e,rfl⟩ Yw (Yk _ _) (vf l f.toArray n b a.toArray w p t (A a K3) ⋯ ⋯) ⟨e,ho,i a d⟩
 .obtain⟨a,d,o,_⟩:=I.tuple hB;obtain⟨⟨cls,p,data,t⟩,ho,j,w,k⟩:=o;simp only at j k;subst j k;have K3:=d.length;have D:=m a K3;show UD YJ ⟨_,e,rfl⟩ Yw (Yk _ _) (vg l f.toArray n b a.toArray w p t (A a K3) ⋯ ⋯) ⟨e,ho,i a d⟩
end
end L2
namespace L2
open PySem PySem.W PyProof.Rows
section
end
section
def xk:X.calm=b6->gy X (.builtin "any") (λxs H Q=>∃(p:hA) (a:List Bool),xs=[.ref p]/\HX X.K H p (a.map V.bl)/\Q (.bl (a.any id)) H):=by
 intro j f s σ H xs us Q I rs h;have⟨p,a,rfl,k,q⟩:=h;have⟨u,rfl,r⟩:=vals1 rs;cases r;have⟨o,rv,d,hz⟩:=I.list k;have e:=fK rv;subst e;have l:p<s.heap.objs.size:=by obtain⟨_,_,e,_⟩:=d;show gc e
 show call_any_walk (Ro d.isList ?_);show⟨s.heap.objs.size,[s.heap.objs.size,p],[s.heap.objs.size],(a.map LH).toArray.size,_,_,λi=>(a[i]?).getD cK,rfl,XY (A:=X.A.in1) (I.ok.hd j) _ p (hZ l) (a.map LH).toArray,
  ⟨⟨_,fx _ rfl,rfl,rfl⟩,d.isList.push _⟩,λi v s' Q' t m g=>?_,λh' n hk=>?_⟩
 .have c:(a.map LH)[i]?=bD v:=by simpa using m
  rw[i7]at c;cases e:a[i]? with
  |none=>rw[e]at c;cases c
  |some b =>
   rw[e]at c;cases c;simp only[e,X9]at g;show JC g
 .have e:((hQ (a.map LH).toArray.size).any λi=>(a[i]?).getD cK)=a.any id:=by
   rw[hE,c2];show YS a
  rw[e];show⟨.bl _,H,I.kept (t':=n) (R5 hk),rfl,q⟩
end
section
def vh{vs:List (Key×dV)}(hk:vs.map (·.1)=ks.map kr)(hl:acc.length=vs.length)(h:∀(j:Nat) (v:dV),acc[j]?=bD v->∃k x,vs[j]?=bD (k,x)/\(aO P w).is k v=b6):O6 acc ks:=by
 induction acc generalizing ks vs with
 |nil =>
  cases vs with
  |nil=>cases ks with
   |nil=>show .nil
   |cons _ _=>cases hk
  |cons _ _=>cases hl
 |cons v acc b =>
  cases vs with
  |nil=>cases hl
  |cons p vs =>
   cases ks with
   |nil=>cases hk
   |cons k ks =>
    simp only[eh,LB]at hk;have⟨k',x,a,c⟩:=h 0 v rfl;simp only[List.getElem?_cons_zero,Pf]at a;subst a;have d:k'=kr k:=hk.1;subst d;rcases bp (show ju (kr k) v=b6 from c) with⟨i,t,e,rfl⟩|⟨y,t,e,rfl⟩
    .cases e
    .cases e;show .cons _ _ (b hk.2 (by simpa using hl) λj u f=>h (j+1) u (by simpa using f))
def jb:X.calm=b6->gy X (.builtin "sorted") (λxs H Q=>∃(d:hA) (kvs:List (Key×V)) (ks:List Str),xs=[.ref d]/\H d=bD (.dK kvs)/\kvs.map (·.1)=ks.map kr/\ks.length<64/\∀q,H q=cb->Q (.ref q) (upd H q (.lst ((aK ks).map V.str)))):=by
 intro m a s σ H xs us Q I rs h;have⟨d,kvs,ks,rfl,e,hk,G,q⟩:=h;have⟨u,rfl,r⟩:=vals1 rs;cases r;have⟨hz,lo,vs,kv,k⟩:=pq I.Hr e;have b:vs.length=kvs.length:=(Paired.length kv).symm;have n:kvs.length=ks.length:=by rw[<-c2 (f:=(·.1)),hk,c2]
 have p:vs.map (·.1)=ks.map kr:=by
  rw[<-hk];clear k b hk n e q hz;induction kv with
  |nil=>rfl
  |cons r _ t=>rw[eh,eh,t,r.1]
 have⟨o,es,ep,x⟩:=id k;have y:(64:Nat)<=df:=by decide
 show fj (kdu_collect (A:=X.A.in1) (kdl_dict (knd:=aO X.prog X.w) (kvs:=vs) (ep:=ep) lo) (I.ok.hd m) ⟨o,es,x⟩ ⋯ λh' c acc z g=>⟨ks,vh p (by rw[hY];show g.1) (λj v B=>g.2 j v (by rw[<-qs];show B)),by rw[hY,g.1];lia,λJ C D k2 i s2=>?_⟩);have l:Inv X a σ H {s with heap:=h',toks:=c}:=I.kept (t':=c) z;show⟨.ref h'.objs.size,_,l.laid (t':=c) (o:=.lst ((aK ks).map V.str)) k2 (ix _) ⟨by rw[c2,cv];lia,C,D,dH s2,i⟩,rfl,q _ (l.Hr.fresh (ix _))⟩
end
section
def pS:gy X (.builtin "len") (λxs H Q=>∃(d:hA) (kvs:List (Key×V)),xs=[.ref d]/\H d=bD (.dK kvs)/\Q (.int kvs.length) H):=by
 intro b s σ H xs us Q I rs h;have⟨d,kvs,rfl,e,q⟩:=h;have⟨u,rfl,r⟩:=vals1 rs;cases r;have⟨hz,lo,vs,kv,c⟩:=pq I.Hr e;have a:vs.length=kvs.length:=(Paired.length kv).symm;have f:=fe;show call_len_dict lo c ⋯ ⟨.int kvs.length,H,I.tok _,⟨_,by rw[a]⟩,q⟩
end
abbrev gX{α:Type}(lt:Nat->Nat->Bool):KasT α->α
 |.ret x=>x
 |.ask i j k=>gX lt (k (lt i j))
def IV{α:Type}(n:Nat)(P:α->Prop):KasT α->Prop
 |.ret x=>P x
 |.ask i j k=>i<n/\j<n/\∀b,IV n P (k b)
theorem IV.NF{P:α->Prop}{Q:β->Prop}{f:α->KasT β}(a:∀x,P x->IV n Q (f x)):∀{t:KasT α},IV n P t->IV n Q (t.bind f)
 |.ret x,h=>a x h
 |.ask i j k,h=>⟨h.1,h.2.1,λb=>IV.NF a (h.2.2 b)⟩
theorem IV.got:∀{t:KasT α},IV n P t->P (gX lt t)
 |.ret _,h=>h
 |.ask i j k,h=>IV.got (t:=k (lt i j)) (h.2.2 _)
theorem IV.wp(b:∀i j,i<n->j<n->∀C:Bool->gs->Prop,C (lt i j) s->a i j C s):
  ∀{t:KasT α},IV n P t->Q (gX lt t) s->t.kasWp a Q s
 |.ret _,_,q=>q
 |.ask i j k,h,q=>b i j h.1 h.2.1 _ (IV.wp b (t:=k (lt i j)) (h.2.2 _) q)
abbrev Pm(n:Nat)(p:Array Nat):Prop:=p.toList.Perm (hQ n)
section
variable{n:Nat}(hn:0<n)
include hn
def Pm.at(h:Pm n p)(i:Nat):p.getD i 0<n:=by
 by_cases a:i<p.size
 .have:p.getD i 0=p[i]:=by simp[Tr,a]
  rw[this];have b:p[i]∈p.toList:=by simp
  show u7.mp (h.mem_iff.mp b)
 .have:p.getD i 0=0:=by simp[Tr,a]
  rw[this];show hn
omit hn in
def Pm.rev(h:Pm n p)(i j:Nat):Pm n (kas_rev p i j):=(mirror_perm p i j _).toList.trans h
omit hn in
def Pm.V1(h:Pm n p)(i j:Nat):Pm n (bubble p i j):=(bubble_perm p i j).toList.trans h
theorem rn(h:Pm n p):∀(f m:Nat),IV n (λ_=>True) (kas_asc p f m)
 |0,m=>trivial
 |f+1,m=>⟨h.at hn _,h.at hn _,λb=>by
  cases b
  .show rn h f (m+1)
  .show trivial⟩
theorem jW:∀(f:Nat) (p:Array Nat) (m q:Nat),Pm n p->IV n (λr=>Pm n r.1) (kas_desc f p m q)
 |0,p,m,q,h=>h
 |f+1,p,m,q,h=>⟨h.at hn _,h.at hn _,λb=>by
  cases b
  .show⟨h.at hn _,h.at hn _,λb=>by
    cases b
    .show jW f p (m+1) (q+1) h
    .show h⟩
  .change IV n _ (if q>0 then _ else _);split
   .show jW f _ _ _ (h.rev _ _)
   .show jW f _ _ _ h⟩
def tu(h:Pm n p)(m r:Nat):IV n (λx=>Pm n x.2) (kas_tail3 m r p):=by
 unfold kas_tail3;show IV.NF (λx _=>?_) (rn hn (h.rev _ _) _ _);show h.rev _ _
def tv(h:Pm n p)(m r:Nat):IV n (λx=>Pm n x.2) (kas_descPart m r p):=by
 unfold kas_descPart;show IV.NF (λx a=>?_) (jW hn _ _ _ _ h);split
 .show tu hn (a.rev _ _) _ _
 .show tu hn a _ _
def xl(h:Pm n p)(r:Nat):IV n (λx=>Pm n x.2) (kas_count r p):=by
 unfold kas_count;show IV.NF (λm _=>?_) (rn hn h _ _);split
 .show h
 .split
  .show⟨h.at hn _,h.at hn _,λb=>by
    cases b
    .show tv hn (h.rev _ _) _ _
    .show h⟩
  .show tv hn h _ _
theorem kM(h:Pm n p)(k:Nat):∀(f l r:Nat),IV n (λ_=>True) (kas_place p k f l r)
 |0,l,r=>trivial
 |f+1,l,r=>by
  unfold kas_place;split
  .show trivial
  .show⟨h.at hn _,h.at hn _,λb=>by
    cases b
    .show kM h k f _ _
    .show kM h k f _ _⟩
theorem xm:∀(f:Nat) (p:Array Nat) (k:Nat),Pm n p->IV n (Pm n) (kas_bin f p k)
 |0,p,k,h=>h
 |f+1,p,k,h=>IV.NF (λl _=>xm f _ _ (h.V1 _ _)) (kM hn h _ _ _ _)
def tw:IV n (Pm n) (MD n):=by
 unfold MD;show IV.NF (λx a=>?_) (xl hn (p:=List.toArray (hQ n)) (by unfold Pm;simp) n);split
 .show xm hn _ _ _ a
 .show a
end
def kN(lt:Nat->Nat->Bool)(n:Nat):(gX lt (MD n)).toList.Perm (hQ n):=by
 cases n with
 |zero=>show K1 _
 |succ n=>show(tw (Xo n)).got
section
def vi(ho:s.heap.get? a=bD (G0 "list" vs.toArray n))(l:vs.length<64)
  (m:2<=vs.length->∀s1:gs,(∀b o,b≠a->s.heap.get? b=bD o->s1.heap.get? b=bD o)->et (hH prog w) A (keyKind' vs.toArray) (λκ s'=>s'=s1/\∀i j,i<vs.length->j<vs.length->∀C:Bool->gs->Prop,C (lt i j) s1->Zj prog w A κ vs i j C s1) (λ_ _=>False) s1)
  (h:P (.done (.ret .none)) {s with heap:=Y8 s.heap a vs (((gX lt (MD vs.length)).toList.map λi=>vs.getD i nc).toArray)}) :
  et (hH prog w) A (M4.«list.sort» ⟨[.ref a],[]⟩) P E s:=by
 have N:a<s.heap.objs.size:=gc ho;have u:(64:Nat)<=df:=by decide
 rw[list_sort_plain];show b5 (Yn ho rfl (b5 (Uu ho rfl ?_ (by rw[hE];lia) (i8 _))));obtain⟨k,q⟩:∃k,(s.heap.update a (nH λ_=>(#[]:Array dV))).get? a=bD (G0 "list" #[] k):=⟨_,ZM ho λ_=>#[]⟩
 show b5 (YN q rfl (b5 (wpAny_newTuple (b5 (XM (t4 ?_) (i8 _))) (by change vs.length<=_;lia))));have d:(((s.heap.update a (nH λ_=>(#[]:Array dV))).push (G0 "tuple" vs.toArray 0)).push (G0 "list" #[] 0)).get? a=bD (G0 "list" #[] k):=c4 _ (c4 _ q);have f:∀b o,b≠a->s.heap.get? b=bD o->(((s.heap.update a (nH λ_=>(#[]:Array dV))).push (G0 "tuple" vs.toArray 0)).push (G0 "list" #[] 0)).get? b=bD o:=λb o y e =>
  c4 _ (c4 _ (by rw[Nc _ _ _ _ y];show e))
 change et (hH prog w) A _ P E {s with heap:=((s.heap.update a (nH λ_=>(#[]:Array dV))).push (G0 "tuple" vs.toArray 0)).push (G0 "list" #[] 0)}
 dsimp only
 have r:((gX lt (MD vs.length)).toList.map λi=>vs.getD i nc).length=vs.length:=by rw[c2,(kN lt _).length_eq,x3]
 by_cases c:vs.toArray.size<2
 .rw[Z6 c,Z6 c];show b5 (dt ?_);rw[StateT.run_pure];show b5 (dt ?_);have z:((gX lt (MD vs.length)).toList.map λi=>vs.getD i nc).toArray=(vs.toArray.zip vs.toArray).map (·.2):=by
   have g:=kN lt vs.length;clear h m r f d ho l
   match vs,c,g with
   |[],_,g=>rw[show(gX lt (MD ([]:List dV).length)).toList=[] from List.perm_nil.mp g];simp
   |[v],_,g=>rw[show(gX lt (MD [v].length)).toList=[0] from List.perm_singleton.mp g];simp
   |_::_::_,c,_=>simp at c;lia
  rw[z]at h
  dsimp only
  show b5 (YN d rfl (b5 (Uu d rfl ?_ (i8 _) (by rw[Qr];change(pairsOf vs).size<=_;rw[pairsOf_size];lia))));simp only[bne_self_eq_false,Kr,if_false];show dt h
 .rw[Z7 c,Z7 c];have t:2<=vs.length:=by rw[hE]at c;lia
  show b5 (tA (m t _ f) (λκ O hk=>?_) λ_ _ x=>x.elim);have⟨rfl,hk⟩:=hk;show b5 (tA (kat_run (κ:=κ) (ks:=vs) (vs:=vs) (G:=λp s'=>p=gX lt (MD vs.length)/\s'={s with heap:=((s.heap.update a (nH λ_=>(#[]:Array dV))).push (G0 "tuple" vs.toArray 0)).push (G0 "list" #[] 0)})
   (Q:=λst' s'=>∃p:Array Nat,arrOf st'=p.map (kas_item (vs.toArray.zip vs.toArray))/\failedOf st'=cb/\p=gX lt (MD vs.length)/\s'={s with heap:=((s.heap.update a (nH λ_=>(#[]:Array dV))).push (G0 "tuple" vs.toArray 0)).push (G0 "list" #[] 0)})
   rfl t l (λp st' s' T B D H=>⟨p,B,D,H⟩) (IV.wp hk (tw ⋯) ⟨rfl,rfl⟩)) ?_ λ_ _ e=>e)
  rintro⟨⟨⟩,st'⟩ s' ⟨p,I,J,rfl,rfl⟩
  dsimp only
  have L:=kat_snds rfl I;rw[L,J];show b5 (YN d rfl (b5 (Uu d rfl ?_ (i8 _) (by rw[hE,r];lia))));simp only[bne_self_eq_false,Kr,if_false];show dt h
end
@[reducible]def Aa:=Str×Int
abbrev Mi(ks:List Str)(i j:Nat):Bool:=cc ((ks.getD i tr).cps.toList<(ks.getD j tr).cps.toList)
abbrev jM(ks:List Str):List Nat:=(gX (Mi ks) (MD ks.length)).toList
def gb(ks:List Str):(jM ks).Perm (hQ ks.length):=kN _ _
abbrev Ff(x:Str)(n:Int)(t u:Tok):Obj:={cls:=.type "tuple",data:=.seq #[.str x t,.int n u]}
abbrev fB(h:IZ)(as:List hA)(ps:List Aa):Prop:=as.length=ps.length/\∀(j:Nat) (a:hA),as[j]?=bD a->∃p t u,ps[j]?=bD p/\h.get? a=bD (Ff p.1 p.2 t u)
def fB.keeps(x:fB h as ps)(k:∀b o,b∈as->h.get? b=bD o->h'.get? b=bD o):fB h' as ps :=
 ⟨x.1,λj a e=>let ⟨p,t,u,c,d⟩:=x.2 j a e;⟨p,t,u,c,k a _ (mx e) d⟩⟩
def fB.tail(x:fB h (a::as) (p::ps)):fB h as ps :=
 ⟨by have:=x.1;simpa using this,λj b e=>by
  have⟨q,t,u,c,d⟩:=x.2 (j+1) b (by simpa using e);show⟨q,t,u,by simpa using c,d⟩⟩
theorem fB.jN:∀{as:List hA}{ps:List Aa},fB h as ps->∃b:List dV,KatTups h (as.map kj) b/\b.length=as.length/\∀v∈b,∃x t,v=tj x t
 |[],_,_=>⟨[],KatTups.nil,rfl,by simp⟩
 |a::as,[],x=>by have:=x.1;simp at this
 |a::as,p::ps,x=>by
  have⟨b,c,d,e⟩:=fB.jN x.tail;have⟨q,t,u,g,f⟩:=x.2 0 a rfl;show⟨.str q.1 t::b,KatTups.cons f rfl rfl rfl c,by simp[d],λv hv=>?_⟩;rcases gj.mp hv with rfl|hv
  .show⟨_,_,rfl⟩
  .show e v hv
theorem mK:∀{l:List α}{m:List β}{i:Nat}{x:α},Paired F l m->l[i]?=bD x->∃y,m[i]?=bD y/\F x y
 |_,_,_,_,.nil,e=>by simp at e
 |_,_,0,_,.cons r _,e=>by simp at e;subst e;show⟨_,rfl,r⟩
 |_,_,i+1,x,.cons _ t,e=>by
  have⟨u,a,b⟩:=mK (i:=i) (x:=x) t (by simpa using e);show⟨u,by simpa using a,b⟩
section
def Dd(x:fB s.heap as ps)(g:(ps.map (·.1)).Nodup)(e:i<as.length)(f:j<as.length)(q:C (Mi (ps.map (·.1)) i j) s):
  Zj prog w A (tuples' b6) (as.map kj) i j C s:=by
 have⟨p,t,u,d,k⟩:=x.2 i as[i] (by simp[e]);have⟨a,t',u',c,l⟩:=x.2 j as[j] (by simp[f]);have hl:=x.1;have m:i<ps.length:=by lia
 have n:j<ps.length:=by lia
 have o:(as.map kj).getD i nc=.ref as[i]:=by simp[M8,e]
 have r:(as.map kj).getD j nc=.ref as[j]:=by simp[M8,f]
 have v:(ps.map (·.1)).getD i tr=p.1:=by simp[M8,d]
 have y:(ps.map (·.1)).getD j tr=a.1:=by simp[M8,c]
 unfold Zj;rw[o,r];show kat_lt (b:=b6) k rfl l rfl ?_;unfold Mi at q;rw[v,y]at q;change KatLex prog w A b6 (cc (2<2)) C [(.str p.1 t,.str a.1 t'),(.int p.2 u,.int a.2 u')] 0 s;show kat_cons (Zu ?_);by_cases h:p.1=a.1
 .have z:i=j:=by
   have B:(ps.map (·.1))[i]'(by simpa using m)=(ps.map (·.1))[j]'(by simpa using n):=by
    obtain⟨_,D⟩:=d3.mp d;obtain⟨_,G⟩:=d3.mp c;simp[D,G,h]
   show(YA g).mp B
  subst z;rw[d]at c;cases c;rw[Z9 rfl];show kat_yes (kat_cons (Zv ?_));rw[show(p.2==p.2)=b6 by simp];show kat_yes (kat_nil ?_);have:cc (p.1.cps.toList<p.1.cps.toList)=cK:=Z8 (List.lt_irrefl _);rw[this]at q;show q
 .rw[Z8 h];show kat_no (oneLt_str q)
def De(x:fB s.heap as ps)(c:(ps.map (·.1)).Nodup)(g:2<=as.length):
  et (hH prog w) A (keyKind' (as.map kj).toArray) (λκ s'=>s'=s/\∀i j,i<(as.map kj).length->j<(as.map kj).length->∀C:Bool->gs->Prop,C (Mi (ps.map (·.1)) i j) s->Zj prog w A κ (as.map kj) i j C s) (λ_ _=>False) s:=by
 have⟨h,d,k,e⟩:=x.jN;show kat_kind (T:=.type "str") d ⋯ (λv f=>?_) rfl ⟨rfl,λi j a b C q=>?_⟩
 .have⟨y,t,rfl⟩:=e v f;show Looks.of_pure rfl
 .rw[c2]at a b;show Dd x c a b q
end
abbrev jO(H:Hp):List (hA×List V)->Hp
 |[]=>H
 |(a,vs)::r=>upd (jO H r) a (.tup vs)
theorem kO:∀{l:List (hA×List V)}{b:hA}{o:HO},jO H l b=bD o->(∃vs,(b,vs)∈l/\o=.tup vs)\/H b=bD o
 |[],b,o,h=>.inr h
 |(a,vs)::r,b,o,h=>by
  by_cases c:b=a
  .subst c;rw[jO,ax]at h;cases h;show .inl ⟨vs,by simp,rfl⟩
  .rw[jO,ak c]at h;rcases kO h with⟨ws,d,e⟩|q
   .show .inl ⟨ws,by simp[d],e⟩
   .show .inr q
theorem kP:∀{l:List (hA×List V)}{b:hA},(∀p∈l,p.1≠b)->jO H l b=H b
 |[],b,_=>rfl
 |(a,vs)::r,b,h=>by
  rw[jO,ak (rz (h _ ri))];show kP λp c=>h p (by simp[c])
theorem tD:∀{l:List (hA×List V)}{b:hA}{vs:List V},(l.map (·.1)).Nodup->(b,vs)∈l->jO H l b=bD (.tup vs)
 |(a,ws)::r,b,vs,d,h=>by
  have c:a∉r.map (·.1)/\(r.map (·.1)).Nodup:=by simpa using d
  rcases gj.mp h with h|h
  .cases h;show ax
  .have:b≠a:=λz=>c.1 (by rw[<-z];show js.mpr ⟨_,h,rfl⟩);rw[jO,ak this];show tD c.2 h
section
def Inv.many(I:Inv X a σ H s)(k:∀b u,s.heap.get? b=bD u->h'.get? b=bD u)(d:∀b o,H b=bD o->H' b=bD o)
  (f:∀b o,H' b=bD o->H b=bD o\/(s.heap.objs.size<=b/\bN X.prog X.w H' h' b o)):Inv X a σ H' {s with heap:=h',toks:=t' }:=by
 show I.un ⟨λb u q _ _ _=>k b u q,λb u q _ _ _=>⟨u.slots,k b u q⟩,λb u q n _=>?_,λb u q _=>⟨u,k b u q⟩,λb xs q=>d b _ q,λb u xs q=>d b _ q,λb ps q=>⟨#[],by rw[d b _ q];simp⟩⟩ λb o e=>?_
 .cases e:H' b with
  |none=>rfl
  |some o =>
   rcases f b o e with z|⟨z,_⟩
   .rw[n]at z;cases z
   .show absurd (i9 (gc q) z) (u3 _)
 .rcases f b o e with z|⟨_,z⟩
  .show(I.Hr b o z).gQ (λc v _ q=>k c v q) (λc q=>d c _ q) λc xs q=>d c _ q
  .show z
abbrev Lw(p:Aa):List V:=[.str p.1,.int p.2]
def oj{ps:List Aa}(hc:X.calm=b6)(I:Inv X g σ H s)(e:H d=bD (.dK (ps.map λp=>((kr p.1:Key),V.int p.2))))(HJ:(ps.map (·.1)).Nodup)(JT:ps.length<64)
  (q:∀(as:List hA) (L:hA),as.length=ps.length->as.Nodup->(∀a∈L::as,H a=cb)->L∉as->Q (.ref L) (upd (jO H (as.zip (ps.map Lw))) L (.lst ((jM (ps.map (·.1))).map λi=>V.ref (as.getD i 0))))) :
  et (hH X.prog X.w) X.A (MK (.builtin "dict.items") [.ref d]) (λv s1=>et (hH X.prog X.w) X.A (MK (.builtin "sorted") [v]) (EP X g σ Q) X.xe s1) X.xe s:=by
 have ac:(64:Nat)<=df:=by decide
 have⟨hz,lo,vs,kv,dd⟩:=pq I.Hr e;have C:vs.length=ps.length:=by
  have:=Paired.length kv;simpa using this.symm
 have⟨o,es,ep,r⟩:=id dd;show Sk PySem.F.slot_dict_items (show s.TypeIs (.ref d) "dict" from⟨o,r.1,r.2.1.1⟩) PySem.F.entry_dict_items (PySem.F.args_dict_items_1 _) (Zz (aO X.prog X.w) d lo) ⟨⟨vs,dd⟩,?_⟩;change et (hH X.prog X.w) X.A (MK (.builtin "sorted") [.ref s.heap.objs.size]) (EP X g σ Q) X.xe {s with heap:=s.heap.push {cls:=.type "dict_items",data:=.fields #[.ref d]}};have k1:∀b u,s.heap.get? b=bD u->(s.heap.push {cls:=.type "dict_items",data:=.fields #[.ref d]}).get? b=bD u:=λb u z=>c4 _ z;have XJ:(s.heap.push {cls:=.type "dict_items",data:=.fields #[.ref d]}).DictOf (aO X.prog X.w) d vs:=⟨o,es,ep,k1 _ _ r.1,r.2⟩
 have JG:(s.heap.push {cls:=.type "dict_items",data:=.fields #[.ref d]}).DictAt (aO X.prog X.w) d vs ep:=⟨o,es,k1 _ _ r.1,r.2⟩
 show VP kind_sorted plain_sorted entry_sorted (args_sorted1 _) ?_;unfold M4.«sorted»;show b5 (m:=checkCount "sorted" 1 1 _) (dt ?_);show b5 (kdx_collect (A:=X.A.in1) (knd:=aO X.prog X.w) (kvs:=vs) (ep:=ep) (I.ok.hd hc) ⟨_,fx _ rfl,rfl,rfl⟩ JG ⋯ λc tk as hk hl D=>?_);have G:as.length=ps.length:=hl.trans C;have f:∀a∈as,s.heap.objs.size<=a:=λa ha=>by
  have:=D.above a ha;have z:(s.heap.push {cls:=.type "dict_items",data:=.fields #[.ref d]}).objs.size=s.heap.objs.size+1:=KN ..;have TV:(s.heap.push {cls:=.type "dict_items",data:=.fields #[.ref d]}).objs.size<a:=this;lia
 have pa:fB c as ps:=⟨G,λj a ea=>by
  have⟨N,k,x,O,T,e3⟩:=D.pairs j a ea;have B:j<ps.length:=by rw[<-G];show(d3.mp ea).1
  have⟨y,ey,r1,r2⟩:=mK kv (i:=j) (x:=((kr ps[j].1:Key),V.int ps[j].2)) (by simp[B]);rw[O]at ey;cases ey;obtain⟨tx,rfl⟩:∃t,x=.int ps[j].2 t:=r2;have V3:k=kr ps[j].1:=r1.symm;subst V3;have⟨t,rfl⟩:=Xt (x:=ps[j].1) (v:=N) T;show⟨ps[j],t,tx,by simp[B],e3⟩⟩
 have nd:as.Nodup:=D.rise.imp λh=>hZ h;show b5 (XM ?_ (by rw[c2];lia));have Y:(c.push (G0 "list" (as.map kj).toArray 0)).get? c.objs.size=bD (G0 "list" (as.map kj).toArray 0):=fx _ rfl;change et _ _ _ _ _ {s with heap:=c.push (G0 "list" (as.map kj).toArray 0),toks:=tk};have TX:∀a∈as,a<c.objs.size:=λa ha=>D.there ha;show b5 (t4 (II Z1 ⟨_,Y,rfl⟩ ZN (vi (lt:=Mi (ps.map (·.1))) Y (by rw[c2];lia) (λh2 s1 ks=>?_) ⟨_,rfl,?_⟩) (Z3 _)))
 .show De (pa.keeps λb o J z=>ks b o (hZ (TX b J)) (c4 _ z)) HJ (by rw[c2]at h2;show h2)
 .have⟨ee,he⟩:=sortedHeap_at (out:=((gX (Mi (ps.map (·.1))) (MD (as.map kj).length)).toList.map λi=>(as.map kj).getD i nc).toArray) Y;have n:∀b o,c.get? b=bD o->(Y8 (c.push (G0 "list" (as.map kj).toArray 0)) c.objs.size (as.map kj) ((gX (Mi (ps.map (·.1))) (MD (as.map kj).length)).toList.map λi=>(as.map kj).getD i nc).toArray).get? b=bD o:=λb o z=>by
   have HI:b<c.objs.size:=gc z;rw[ZZ (hZ HI) (by rw[KN];show QW HI)];show c4 _ z
  have MI:s.heap.objs.size<=c.objs.size:=OB (gc (hk _ _ (fx _ rfl)));have eP:((gX (Mi (ps.map (·.1))) (MD (as.map kj).length)).toList)=jM (ps.map (·.1)):=by
   unfold jM;rw[c2,c2,G]
  have NG:H c.objs.size=cb:=I.Hr.fresh MI;have V4:c.objs.size∉as:=λz=>u3 _ (TX _ z);have TY:∀a∈as,H a=cb:=λa ha=>I.Hr.fresh (f a ha);have RQ:∀{b:hA} {ws:List V},(b,ws)∈as.zip (ps.map Lw)->b∈as:=λz=>(Pt z).1;show dt ⟨_,rfl,.ref c.objs.size,upd (jO H (as.zip (ps.map Lw))) c.objs.size (.lst ((jM (ps.map (·.1))).map λi=>V.ref (as.getD i 0))),?_,rfl,q as _ G nd (λa ha=>?_) V4⟩
  .show I.many (λb u z=>n b u (hk b u (k1 b u z))) (λb o z=>?_) λb o z=>?_
   .have n1:b≠c.objs.size:=λy=>by rw[y,NG]at z;cases z
    rw[ak n1,kP λp hp y=>?_]
    .show z
    .have:=TY p.1 (RQ (b:=p.1) (ws:=p.2) hp);rw[y,z]at this;cases this
   .by_cases J:b=c.objs.size
    .subst J;rw[ax]at z;cases z;show .inr ⟨MI,by rw[c2,(gb _).length_eq,x3,c2];lia,(jM (ps.map (·.1))).map λi=>(as.map kj).getD i nc,ee,?_,?_⟩
     .have IU:∀i∈jM (ps.map (·.1)),i<as.length:=λi hi=>by
       have:=u7.mp ((gb _).mem_iff.mp hi);rw[c2]at this;lia
      generalize jM (ps.map (·.1))=l at IU;induction l with
      |nil=>show .nil
      |cons i l ih =>
       show .cons ?_ (ih λj B=>IU j (by simp[B]));have hi:=IU i (by simp);change RelV (.ref (as.getD i 0)) ((as.map kj).getD i nc);have:(as.map kj).getD i nc=.ref (as.getD i 0):=by simp[M8,hi]
       rw[this];rfl
     .rw[<-eP];show he
    .rw[ak J]at z;rcases kO z with⟨ws,z1,rfl⟩|z1
     .have⟨j,B,ej⟩:=XC.mp z1;have RS:j<as.length:=by simp at B;lia
      have RP:j<ps.length:=by lia
      have V5:as[j]=b/\Lw ps[j]=ws:=by simpa using ej
      have⟨rfl,rfl⟩:=V5;have⟨p,t,u,O,T⟩:=pa.2 j as[j] (by simp[RS]);have:p=ps[j]:=by simpa[RP] using O.symm
      subst this;show .inr ⟨f _ (by simp),by change 2<=df;lia,[.str ps[j].1 t,.int ps[j].2 u],.cons ⟨t,rfl⟩ (.cons ⟨u,rfl⟩ .nil),_,n _ _ T,rfl,0,rfl⟩
     .show .inl z1
  .rcases gj.mp ha with rfl|ha
   .show NG
   .show TY a ha
end
end L2
namespace TM
open PySem L2
inductive U where
 |Hs|bl (b:Bool)|int (i:Int)|str (x:Str)
 |tup (xs:List U)|lst (xs:List U)
 |Hn (ks:List Str) (vs:List U)
mutual
noncomputable def HM:U->Bool
 |.tup xs=>cC xs
 |.lst _=>cK
 |.Hn _ _=>cK
 |.Hs=>b6|.bl _=>b6|.int _=>b6|.str _=>b6
noncomputable def cC:List U->Bool
 |[]=>b6
 |u::us=>HM u&&cC us
end
inductive Kd where|own|io|loc|any|bor (j:Nat)|Hl
deriving DecidableEq
abbrev Kd.root:Kd->Bool
 |.own=>b6
 |.io=>b6
 |_=>cK
@[reducible]def au:=List (Option (Kd×U))
structure Ct where
 P:D9
 w:HL
 K:PySem.W.Frag
 H₀:Hp
 J6:hA->Prop
 IO:hA->Prop
abbrev KL(K:PySem.W.Frag)(a:hA)(xs:List V):Prop :=
 ∃(o:Obj) (b:Array dV) (n:Nat),K.lookup a=bD o/\o.cls=.type "list"/\o.dict=cb/\o.data=.seq b n/\b.size<=df/\Vals xs b.toList
abbrev OG(K:PySem.W.Frag)(S:hA->Prop)(H:Hp)(a:hA)(vs:List V):Prop:=(S a/\Rd H a (.lst vs))\/KL K a vs
def OG.sq(h:OG K S H a vs):HX K H a vs:=h.elim (λz=>.inl z.2) .inr
abbrev Mj(H:Hp)(R:List V->Prop)(a:hA)(ks:List Str):Prop:=∃kvs:List (Key×V),H a=bD (.dK kvs)/\kvs.map (·.1)=ks.map kr/\R (kvs.map (·.2))
section
variable(C:Ct)(S:hA->Prop)(H:Hp)
mutual
def Rep:U->V->Prop
 |.Hs,v=>v=.Hs
 |.bl b,v=>v=.bl b
 |.int i,v=>v=.int i
 |.str x,v=>v=.str x
 |.tup us,v=>∃a vs,v=.ref a/\Ie C.K H a vs/\aq us vs
 |.lst us,v=>∃a vs,v=.ref a/\OG C.K S H a vs/\aq us vs
 |.Hn ks us,v=>∃a,v=.ref a/\S a/\Mj H (aq us) a ks
def aq:List U->List V->Prop
 |[],vs=>vs=[]
 |u::us,vs=>∃v r,vs=v::r/\Rep u v/\aq us r
end
end
def Tp:HO->Prop
 |.tup _=>True
 |.Ir _ (.tup _)=>True
 |_=>False
structure Mv(S:hA->Prop)(H:Hp)(S':hA->Prop)(H':Hp):Prop where
 sub:∀a,S a->S' a
 OH:∀a o,H a=bD o->Tp o->H' a=bD o
 RT:∀a o,S a->H a=bD o->H' a=bD o
def Mv.V6(m:Mv S H S' H')(h:Ie K H a vs):Ie K H' a vs:=by
 rcases h with(h|⟨o,h⟩)|h
 .show .inl (.inl (m.OH a _ h trivial))
 .show .inl (.inr ⟨o,m.OH a _ h trivial⟩)
 .show .inr h
def Mv.V7(m:Mv S H S' H')(h:OG K S H a vs):OG K S' H' a vs:=by
 rcases h with⟨s,h|⟨o,h⟩⟩|h
 .show .inl ⟨m.sub a s,.inl (m.RT a _ s h)⟩
 .show .inl ⟨m.sub a s,.inr ⟨o,m.RT a _ s h⟩⟩
 .show .inr h
def Mj.mv(b:∀o,H a=bD o->H' a=bD o)(c:∀vs,R vs->d vs)(h:Mj H R a ks):Mj H' d a ks :=
 let ⟨kvs,e,f,g⟩:=h;⟨kvs,b _ e,f,c _ g⟩
section
mutual
theorem Rep.Mk(m:Mv S H S' H'):∀(u:U) (v:V),Rep C S H u v->Rep C S' H' u v
 |.Hs,_,h=>h
 |.bl _,_,h=>h
 |.int _,_,h=>h
 |.str _,_,h=>h
 |.tup us,v,h=>by
  have⟨a,vs,e,b,c⟩:=h;show⟨a,vs,e,m.V6 b,aq.Mk m us vs c⟩
 |.lst us,v,h=>by
  have⟨a,vs,e,b,c⟩:=h;show⟨a,vs,e,m.V7 b,aq.Mk m us vs c⟩
 |.Hn ks us,v,h=>by
  have⟨a,e,b,c⟩:=h;show⟨a,e,m.sub a b,c.mv (λo q=>m.RT a o b q) λvs q=>aq.Mk m us vs q⟩
theorem aq.Mk(m:Mv S H S' H'):∀(us:List U) (vs:List V),aq C S H us vs->aq C S' H' us vs
 |[],_,h=>h
 |u::us,vs,h=>by
  have⟨v,r,e,a,b⟩:=h;show⟨v,r,e,Rep.Mk m u v a,aq.Mk m us r b⟩
end
mutual
theorem Rep.vj:∀(u:U) (v:V),HM u=b6->Rep C S H u v->Rep C S' H u v
 |.Hs,_,_,h=>h
 |.bl _,_,_,h=>h
 |.int _,_,_,h=>h
 |.str _,_,_,h=>h
 |.tup us,v,i,h=>by
  have⟨a,vs,e,b,c⟩:=h;show⟨a,vs,e,b,aq.vj us vs (by simpa[TM.HM] using i) c⟩
 |.lst us,v,i,h=>by simp[TM.HM]at i
 |.Hn ks us,v,i,h=>by simp[TM.HM]at i
theorem aq.vj:∀(us:List U) (vs:List V),cC us=b6->aq C S H us vs->aq C S' H us vs
 |[],_,_,h=>h
 |u::us,vs,i,h=>by
  have⟨v,r,e,b,c⟩:=h;have a:TM.HM u=b6/\cC us=b6:=by simpa[cC] using i
  show⟨v,r,e,Rep.vj u v a.1 b,aq.vj us r a.2 c⟩
end
def Rep.mv(m:Mv S H S' H')(h:Rep C S H u v):Rep C S' H' u v:=Rep.Mk m u v h
def aq.mv(m:Mv S H S' H')(h:aq C S H us vs):aq C S' H' us vs:=aq.Mk m us vs h
def Rep.HM(i:TM.HM u=b6)(h:Rep C S H u v):Rep C S' H u v:=Rep.vj u v i h
def aq.HM(i:cC us=b6)(h:aq C S H us vs):aq C S' H us vs:=aq.vj us vs i h
def Mv.up(sub:∀a,S a->S' a):Mv S H S' H:=⟨sub,λ_ _ h _=>h,λ_ _ _ h=>h⟩
theorem aq.len:∀{us:List U}{vs:List V},aq C S H us vs->us.length=vs.length
 |[],_,h=>by cases h;rfl
 |u::us,vs,h=>by
  obtain⟨v,r,rfl,_,a⟩:=h;rw[ke,ke,aq.len a]
theorem aq.get:∀{us:List U}{vs:List V}{i:Nat}{u:U},aq C S H us vs->us[i]?=bD u->∃v,vs[i]?=bD v/\Rep C S H u v
 |[],_,_,_,_,e=>by simp at e
 |u::us,vs,0,w,h,e=>by
  obtain⟨v,r,rfl,a,_⟩:=h;simp at e;subst e;show⟨v,rfl,a⟩
 |u::us,vs,i+1,w,h,e=>by
  obtain⟨v,r,rfl,_,b⟩:=h;have⟨c,d,h'⟩:=aq.get (i:=i) (u:=w) b (by simpa using e);show⟨c,by simpa using d,h'⟩
theorem aq.append:∀{us ws:List U}{vs a:List V},aq C S H us vs->aq C S H ws a->aq C S H (us++ws) (vs++a)
 |[],_,_,_,h,h'=>by cases h;show h'
 |u::us,ws,vs,a,h,h'=>by
  have⟨v,r,rfl,b,c⟩:=h;show⟨v,r++a,rfl,b,c.append h'⟩
theorem aq.take:∀{us:List U}{vs:List V} (n:Nat),aq C S H us vs->aq C S H (us.take n) (vs.take n)
 |_,_,0,_=>by simp[aq]
 |[],_,n+1,h=>by cases h;simp[aq]
 |u::us,vs,n+1,h=>by
  have⟨v,r,rfl,a,b⟩:=h;show⟨v,r.take n,rfl,a,b.take n⟩
theorem aq.drop:∀{us:List U}{vs:List V} (n:Nat),aq C S H us vs->aq C S H (us.drop n) (vs.drop n)
 |_,_,0,h=>h
 |[],_,n+1,h=>by cases h;simp[aq]
 |u::us,vs,n+1,h=>by
  have⟨v,r,rfl,b,a⟩:=h;show a.drop n
theorem aq.set:∀{us:List U}{vs:List V} (n:Nat) {u:U}{v:V},aq C S H us vs->Rep C S H u v->aq C S H (us.set n u) (vs.set n v)
 |[],_,n,_,_,h,_=>by cases h;simp[aq]
 |u::us,vs,0,_,_,h,h'=>by
  have⟨v,r,rfl,b,a⟩:=h;show⟨_,r,rfl,h',a⟩
 |u::us,vs,n+1,_,_,h,h'=>by
  have⟨v,r,rfl,b,a⟩:=h;show⟨v,_,rfl,b,a.set n h'⟩
def aq.snoc(h:aq C S H us vs)(h':Rep C S H u v):aq C S H (us++[u]) (vs++[v]):=h.append ⟨v,[],rfl,h',rfl⟩
theorem aq.strs:∀{xs:List Str}{vs:List V},aq C S H (xs.map .str) vs↔vs=xs.map V.str
 |[],vs=>by simp[aq]
 |x::xs,vs=>by
  constructor
  .rintro⟨v,r,rfl,a,b⟩;rw[aq.strs.mp b];have:v=.str x:=a;rw[this];rfl
  .rintro rfl;show⟨_,_,rfl,rfl,aq.strs.mpr rfl⟩
end
structure Ct.Eqv(C C':Ct):Prop where
 P:C.P=C'.P
 w:C.w=C'.w
 K:C.K=C'.K
section
mutual
theorem Rep.Ml(q:C.Eqv d):∀(u:U) (v:V),Rep C S H u v->Rep d S H u v
 |.Hs,_,h=>h
 |.bl _,_,h=>h
 |.int _,_,h=>h
 |.str _,_,h=>h
 |.tup us,v,h=>by
  have⟨a,vs,e,b,c⟩:=h;show⟨a,vs,e,q.K▸b,aq.Ml q us vs c⟩
 |.lst us,v,h=>by
  have⟨a,vs,e,b,c⟩:=h;show⟨a,vs,e,q.K▸b,aq.Ml q us vs c⟩
 |.Hn ks us,v,h=>by
  have⟨a,e,b,c⟩:=h;show⟨a,e,b,c.mv (λ_ q=>q) λvs z=>aq.Ml q us vs z⟩
theorem aq.Ml(q:C.Eqv a):∀(us:List U) (vs:List V),aq C S H us vs->aq a S H us vs
 |[],_,h=>h
 |u::us,vs,h=>by
  have⟨v,r,e,b,c⟩:=h;show⟨v,r,e,Rep.Ml q u v b,aq.Ml q us r c⟩
end
def Rep.cg(q:C.Eqv a)(h:Rep C S H u v):Rep a S H u v:=Rep.Ml q u v h
def aq.cg(q:C.Eqv a)(h:aq C S H us vs):aq a S H us vs:=aq.Ml q us vs h
end
def cW(C:Ct)(S:hA->Prop)(H:Hp)(r:hA):U->Prop
 |.lst us=>∃vs,H r=bD (.lst vs)/\aq C S H us vs
 |.Hn ks us=>Mj H (aq C S H us) r ks
 |_=>False
def cW.mv(m:Mv S H S' H')(a:∀o,H r=bD o->H' r=bD o)(h:cW C S H r u):cW C S' H' r u:=by
 cases u with
 |lst us=>have⟨vs,b,c⟩:=h;show⟨vs,a _ b,c.mv m⟩
 |Hn ks us=>show Mj.mv a (λvs q=>q.mv m) h
 |_=>show h
def cW.rep(hs:∀a,S a->S' a)(b:S' r)(h:cW C S H r u):Rep C S' H u (.ref r):=by
 cases u with
 |lst us=>have⟨vs,c,d⟩:=h;show⟨r,vs,rfl,.inl ⟨b,.inl c⟩,d.mv (.up hs)⟩
 |Hn ks us=>show⟨r,rfl,b,Mj.mv (λ_ q=>q) (λvs q=>q.mv (.up hs)) h⟩
 |_=>show h.elim
def cW.cg(q:C.Eqv a)(h:cW C S H r u):cW a S H r u:=by
 cases u with
 |lst us=>have⟨vs,b,c⟩:=h;show⟨vs,b,c.cg q⟩
 |Hn ks us=>show Mj.mv (λ_ q=>q) (λvs z=>z.cg q) h
 |_=>show h
def cW.some(h:cW C S H r u):∃o,H r=bD o/\¬Tp o:=by
 cases u with
 |lst us=>obtain⟨vs,a,_⟩:=h;show⟨_,a,λz=>z⟩
 |Hn ks us=>obtain⟨kvs,a,_⟩:=h;show⟨_,a,λz=>z⟩
 |_=>show h.elim
structure Cf where
 S:hA->Prop
 H:Hp
 σ:St
 st:au
 kid:Nat->List hA
abbrev Cf.R1(c:Cf)(a:hA):Prop:=∃(j:Nat) (k:Kd) (u:U),k.root=b6/\c.st[j]?=bD (bD (k,u))/\c.σ[j]?=bD (bD (.ref a))
abbrev Cf.RD(c:Cf)(j:Nat)(a:hA):Prop:=∃(u:U) (r:hA),c.st[j]?=bD (bD (.Hl,u))/\c.σ[j]?=bD (bD (.ref r))/\(a=r\/a∈c.kid j)
abbrev Cf.R(c:Cf)(a:hA):Prop:=c.R1 a\/∃j,c.RD j a
abbrev Cf.NH(c:Cf)(a:hA):Prop:=∃j,c.RD j a
abbrev PS(C:Ct)(S:hA->Prop):hA->Prop:=λa=>C.J6 a\/S a
def eI(C:Ct)(S:hA->Prop)(H:Hp):Kd->U->V->Prop
 |.own,u,v=>∃r,v=.ref r/\¬S r/\¬C.J6 r/\C.H₀ r=cb/\cW C S H r u
 |.io,u,v=>∃r,v=.ref r/\¬S r/\¬C.J6 r/\C.IO r/\cW C S H r u
 |.loc,u,v=>Rep C S H u v
 |.any,u,v=>Rep C (PS C S) H u v
 |.bor _,_,_=>False
 |.Hl,_,v=>∃r,v=.ref r
def dq(C:Ct)(S:hA->Prop)(H:Hp):List U->List hA->Prop
 |[],as=>as=[]
 |u::us,as=>∃a as' b vs,as=a::as'/\u=.lst b/\H a=bD (.lst vs)/\aq C S H b vs/\dq C S H us as'
def cA(C:Ct)(S:hA->Prop)(H:Hp)(r:hA)(as:List hA):U->Prop
 |.Hn ks us=>∃kvs:List (Key×V),H r=bD (.dK kvs)/\kvs.map (·.1)=ks.map kr/\kvs.map (·.2)=as.map V.ref/\(r::as).Nodup/\(∀a∈r::as,¬S a/\¬C.J6 a/\C.H₀ a=cb)/\dq C S H us as
 |_=>False
structure KA(C:Ct)(c:Cf):Prop where
 kd:∀(j:Nat) (u:U) (r:hA),c.st[j]?=bD (bD (.Hl,u))->c.σ[j]?=bD (bD (.ref r))->cA C c.S c.H r (c.kid j) u
 dj:∀(i j:Nat) (a:hA),c.RD i a->c.RD j a->i=j
 d1:∀(j:Nat) (a:hA),c.RD j a->¬c.R1 a
structure Ok(C:Ct)(c:Cf):Prop where
 same:∀a o,C.H₀ a=bD o->¬C.IO a->c.H a=bD o
 JA:∀a,c.S a->C.H₀ a=cb/\∃o,c.H a=bD o
 par:∀a,C.J6 a->(∃o,C.H₀ a=bD o)/\¬C.IO a
 io:∀a,C.IO a->(∃o,C.H₀ a=bD o)/\∃o,c.H a=bD o
 len:c.st.length=c.σ.length
 sl:∀(i:Nat) (k:Kd) (u:U),c.st[i]?=bD (bD (k,u))->∃v,c.σ[i]?=bD (bD v)/\eI C c.S c.H k u v
 inj:∀(i j:Nat) (k k':Kd) (u u':U) (r:hA),k.root=b6->k'.root=b6->c.st[i]?=bD (bD (k,u))->c.st[j]?=bD (bD (k',u'))->c.σ[i]?=bD (bD (.ref r))->c.σ[j]?=bD (bD (.ref r))->i=j
 dd:KA C c
structure Ns(c c':Cf):Prop where
 keep:∀a o,c.H a=bD o->¬c.R a->c'.H a=bD o
 there:∀a o,c.H a=bD o->∃o',c'.H a=bD o'
 roots:∀a,c'.R a->c.R a\/c.H a=cb
 sub:∀a,c.S a->c'.S a
 new:∀a,c'.S a->c.S a\/c.R a\/c.H a=cb
section
def Ns.refl(c:Cf):Ns c c:=⟨λ_ _ h _=>h,λ_ o h=>⟨o,h⟩,λ_ h=>.inl h,λ_ h=>h,λ_ h=>.inl h⟩
def Ns.none(n:Ns c b)(h:b.H a=.none):c.H a=.none:=by
 cases e:c.H a with
 |none=>rfl
 |some o=>have⟨o',q⟩:=n.there a o e;rw[h]at q;cases q
def Ns.trans(m:Ns c d)(n:Ns d e):Ns c e where
 keep:=λa o h b=>by
  show n.keep a o (m.keep a o h b) λz=>?_;rcases m.roots a z with z|z
  .show b z
  .rw[h]at z;cases z
 there:=λa o h=>let ⟨o',h'⟩:=m.there a o h;n.there a o' h'
 roots:=λa h=>by
  rcases n.roots a h with z|z
  .show m.roots a z
  .show .inr (m.none z)
 sub:=λa h=>n.sub a (m.sub a h)
 new:=λa h=>by
  rcases n.new a h with z|z|z
  .show m.new a z
  .rcases m.roots a z with z|z
   .show .inr (.inl z)
   .show .inr (.inr z)
  .show .inr (.inr (m.none z))
def eI.rt(hk:k.root=b6)(h:eI C S H k u v):∃r,v=.ref r/\¬S r/\¬C.J6 r/\(C.H₀ r=cb\/C.IO r)/\cW C S H r u:=by
 cases k with
 |own=>have⟨r,a,b,c,d,e⟩:=h;show⟨r,a,b,c,.inl d,e⟩
 |io=>have⟨r,a,b,c,d,e⟩:=h;show⟨r,a,b,c,.inr d,e⟩
 |_=>cases hk
theorem dq.mem:∀{us:List U}{as:List hA}{a:hA},dq C S H us as->a∈as->∃vs,H a=bD (.lst vs)
 |[],as,a,h,ha=>by cases h;cases ha
 |u::us,as,a,h,ha=>by
  obtain⟨a',as',d,vs,rfl,_,b,_,c⟩:=h;rcases gj.mp ha with rfl|ha
  .show⟨vs,b⟩
  .show dq.mem c ha
theorem dq.mv(m:Mv S H S' H'):∀{us:List U}{as:List hA},(∀a∈as,∀o,H a=bD o->H' a=bD o)->dq C S H us as->dq C S' H' us as
 |[],as,_,h=>h
 |u::us,as,b,h=>by
  have⟨a,as',c,vs,rfl,e,d,f,g⟩:=h;show⟨a,as',c,vs,rfl,e,b a (by simp) _ d,f.mv m,dq.mv m (λa i=>b a (by simp[i])) g⟩
def cA.fr(h:cA C S H r as u):∀a∈r::as,¬S a/\¬C.J6 a/\C.H₀ a=cb:=by
 cases u<;>first|show h.elim|(obtain⟨kvs,_,_,_,_,b,_⟩:=h;show b)
def cA.there(h:cA C S H r as u):∀a∈r::as,∃o,H a=bD o/\¬Tp o:=by
 cases u<;>first|show h.elim|skip
 obtain⟨kvs,b,_,_,_,_,c⟩:=h;intro a ha;rcases gj.mp ha with rfl|ha
 .show⟨_,b,λz=>z⟩
 .have⟨vs,e⟩:=c.mem ha;show⟨_,e,λz=>z⟩
def cA.mv(m:Mv S H S' H')(c:∀a∈r::as,¬S' a/\∀o,H a=bD o->H' a=bD o)(h:cA C S H r as u):cA C S' H' r as u:=by
 cases u<;>first|show h.elim|skip
 have⟨kvs,d,e,f,g,i,j⟩:=h;show⟨kvs,(c r (by simp)).2 _ d,e,f,g,λa b=>⟨(c a b).1,(i a b).2⟩,j.mv m λa b=>(c a (by simp[b])).2⟩
def KA.of(d:KA C c)(hk:e.kid=c.kid)(p:∀(j:Nat) (u:U),e.st[j]?=bD (bD (.Hl,u))->c.st[j]?=bD (bD (.Hl,u))/\e.σ[j]?=c.σ[j]?)(s:∀a,e.R1 a->c.R1 a\/∀j,¬c.RD j a)
  (m:Mv c.S c.H e.S e.H) (t:∀j a,c.RD j a->¬e.S a/\∀o,c.H a=bD o->e.H a=bD o):KA C e:=by
 have b:∀j a,e.RD j a->c.RD j a:=λj a v=>by
  have⟨u,r,k,f,q⟩:=v;have⟨g,l⟩:=p j u k;rw[l]at f;rw[hk]at q;show⟨u,r,g,f,q⟩
 show⟨λj u r k f=>?_,λi j a h n=>d.dj i j a (b i a h) (b j a n),λj a h n=>?_⟩
 .have⟨g,l⟩:=p j u k;rw[l]at f;rw[hk];show cA.mv m (λa w=>t j a ⟨u,r,g,f,gj.mp w⟩) (d.kd j u r g f)
 .rcases s a n with z|z
  .show d.d1 j a (b j a h) z
  .show z j (b j a h)
def KA.hs(d:KA C c)(m:Mv c.S c.H S' H')(b:∀j a,c.RD j a->¬S' a/\∀o,c.H a=bD o->H' a=bD o):KA C {c with H:=H',S:=S' } :=
 d.of rfl (λ_ _ e=>⟨e,rfl⟩) (λ_ z=>.inl z) m b
def Ok.root(f:Ok C c)(h:c.R r):¬c.S r/\¬C.J6 r/\(C.H₀ r=cb\/C.IO r)/\∃o,c.H r=bD o/\¬Tp o:=by
 rcases h with⟨j,k,u,hk,b,d⟩|⟨j,u,g,b,d,a⟩
 .have⟨v,e,hs⟩:=f.sl j _ _ b;have⟨g,ev,a,l,m,n⟩:=hs.rt hk;rw[d]at e;cases e;cases ev;show⟨a,l,m,n.some⟩
 .have i:=f.dd.kd j u g b d;have⟨p,q,s⟩:=cA.fr i r (gj.mpr a);show⟨p,q,.inl s,cA.there i r (gj.mpr a)⟩
def Ok.mv(b:Ok C c)(n:Ns c d):Mv c.S c.H d.S d.H:=⟨n.sub,λa o h t=>n.keep a o h λz=>by
  obtain⟨_,_,_,o',h',e⟩:=b.root z;rw[h]at h';cases h';show e t,λa o s h=>n.keep a o h λz=>(b.root z).1 s⟩
def Ok.LP(b:Ok C c)(n:Ns c d):Mv (PS C c.S) c.H (PS C d.S) d.H:=⟨λa h=>h.imp id (n.sub a),(b.mv n).OH,λa o s h=>n.keep a o h λz=>by
  rcases s with s|s
  .show(b.root z).2.1 s
  .show(b.root z).1 s⟩
def Ok.jP(a:Ok C c)(h:c.H p=cb):C.H₀ p=cb/\¬c.S p/\¬C.J6 p/\¬C.IO p/\¬c.R p:=by
 have b:¬C.IO p:=λz=>by obtain⟨_,o,q⟩:=a.io p z;rw[h]at q;cases q
 have d:C.H₀ p=cb:=by
  cases e:C.H₀ p with
  |none=>rfl
  |some o=>have:=a.same p o e b;rw[h]at this;cases this
 show⟨d,λz=>?_,λz=>?_,b,λz=>?_⟩
 .obtain⟨_,o,q⟩:=a.JA p z;rw[h]at q;cases q
 .obtain⟨⟨o,q⟩,_⟩:=a.par p z;rw[d]at q;cases q
 .obtain⟨_,_,_,o,q,_⟩:=a.root z;rw[h]at q;cases q
def eI.mv(m:Mv S H S' H')(i:Mv (PS C S) H (PS C S') H')(g:k.root=b6->∀r,v=.ref r->¬S' r/\∀o,H r=bD o->H' r=bD o)(h:eI C S H k u v):eI C S' H' k u v:=by
 cases k with
 |own =>
  have⟨r,e,l,a,b,c⟩:=h;have⟨d,f⟩:=g rfl r e;show⟨r,e,d,a,b,c.mv m f⟩
 |io =>
  have⟨r,e,l,a,b,c⟩:=h;have⟨d,f⟩:=g rfl r e;show⟨r,e,d,a,b,c.mv m f⟩
 |loc=>show Rep.mv m h
 |any=>show Rep.mv i h
 |bor j=>show h.elim
 |Hl=>show h
structure Nx(c c':Cf):Prop extends Ns c c' where
 dk:∀a,c'.NH a->c.NH a/\∀o,c.H a=bD o->c'.H a=bD o
instance {c a:Cf}:Coe (Nx c a) (Ns c a):=⟨Nx.toNs⟩
def Nx.refl(c:Cf):Nx c c:=⟨.refl c,λ_ h=>⟨h,λ_ e=>e⟩⟩
def Nx.trans(m:Nx c b)(n:Nx b d):Nx c d:=⟨m.toNs.trans n.toNs,λa h=>⟨(m.dk a (n.dk a h).1).1,λo e=>(n.dk a h).2 o ((m.dk a (n.dk a h).1).2 o e)⟩⟩
def Nx.none(n:Nx c b)(h:b.H a=.none):c.H a=.none:=n.toNs.none h
def Ok.lay(b:Ok C c)(h:c.H p=cb):Ok C {c with H:=upd c.H p o}/\Nx c {c with H:=upd c.H p o}:=by
 have l:∀{a:hA} {o':HO},c.H a=bD o'->a≠p:=λe z=>by subst z;rw[h]at e;cases e
 have d:∀a o',c.H a=bD o'->(upd c.H p o) a=bD o':=λa o' e=>by rw[ak (l e)];show e
 have nx:Nx c {c with H:=upd c.H p o}:=⟨⟨λa o' e _=>d a o' e,λa o' e=>⟨o',d a o' e⟩,λa z=>.inl z,λ_ z=>z,λ_ z=>.inl z⟩,λa h=>⟨h,d a⟩⟩
 show⟨⟨λa o' e z=>d a o' (b.same a o' e z),λa z=>⟨(b.JA a z).1,let ⟨o',q⟩:=(b.JA a z).2;⟨o',d a o' q⟩⟩,b.par,λa z=>⟨(b.io a z).1,let ⟨o',q⟩:=(b.io a z).2;⟨o',d a o' q⟩⟩,b.len,λi k u e=>?_,b.inj,b.dd.hs (b.mv nx.toNs) λj a z=>⟨(b.root (.inr ⟨j,z⟩)).1,λo' e=>d a o' e⟩⟩,nx⟩;have⟨v,m,f⟩:=b.sl i k u e;show⟨v,m,f.mv (b.mv nx.toNs) (b.LP nx.toNs) λhk r n=>?_⟩;obtain⟨t,g,s,_⟩:=f.rt hk;rw[n]at g;cases g;show⟨s,λo' e=>d r o' e⟩
def Ok.grow(b:Ok C c)(hs:zP c.H H')(g:∀a,S' a->c.S a\/(c.H a=cb/\∃o,H' a=bD o))(s:∀a,c.S a->S' a):Ok C {c with H:=H',S:=S' }/\Nx c {c with H:=H',S:=S' }:=by
 have nx:Nx c {c with H:=H',S:=S' }:=⟨⟨λa o' e _=>hs a o' e,λa o' e=>⟨o',hs a o' e⟩,λa z=>.inl z,s,λa z=>(g a z).imp id λq=>.inr q.1⟩,λa h=>⟨h,hs a⟩⟩
 show⟨⟨λa o' e z=>hs a o' (b.same a o' e z),λa z=>?_,b.par,λa z=>⟨(b.io a z).1,let ⟨o',q⟩:=(b.io a z).2;⟨o',hs a o' q⟩⟩,b.len,λi k u e=>?_,b.inj,b.dd.hs (b.mv nx.toNs) λj a z=>⟨λd=>?_,λo' e=>hs a o' e⟩⟩,nx⟩
 rotate_left 2
 .obtain⟨f,_,_,o,l,_⟩:=b.root (.inr ⟨j,z⟩);rcases g a d with d|⟨d,_⟩
  .show f d
  .rw[l]at d;cases d
 .rcases g a z with q|⟨f,m⟩
  .show⟨(b.JA a q).1,let ⟨o',q⟩:=(b.JA a q).2;⟨o',hs a o' q⟩⟩
  .show⟨(b.jP f).1,m⟩
 .have⟨v,t,n⟩:=b.sl i k u e;show⟨v,t,n.mv (b.mv nx.toNs) (b.LP nx.toNs) λhk r w=>?_⟩;have⟨x,p,f,m,y,l⟩:=n.rt hk;rw[w]at p;cases p;obtain⟨o,ho,_⟩:=l.some;show⟨λz=>?_,λo' e=>hs r o' e⟩;rcases g r z with z|⟨z,_⟩
  .show f z
  .rw[z]at ho;cases ho
def aQ(C:Ct)(c0 c:Cf):Kd->U->V->Prop
 |.own,u,v=>∃r,v=.ref r/\c0.H r=cb/\¬c.S r/\¬c.R r/\cW C c.S c.H r u
 |.loc,u,v=>Rep C c.S c.H u v
 |.any,u,v=>Rep C (PS C c.S) c.H u v
 |.bor j,u,v=>(∃k:Kd,k.root=b6/\c.st[j]?=bD (bD (k,u)))/\c.σ[j]?=bD (bD v)
 |.io,_,_=>False
 |.Hl,_,_=>False
def fP(C:Ct)(c0 c:Cf):Kd->U->V->Prop
 |.own,u,v=>∃r,v=.ref r/\c0.H r=cb/\¬c.S r/\¬c.R r/\cW C c.S c.H r u
 |.loc,u,v=>Rep C c.S c.H u v
 |.any,u,v=>Rep C (PS C c.S) c.H u v
 |.bor j,u,v=>c.σ[j]?=bD (bD v)
 |.io,_,_=>False
 |.Hl,_,_=>False
def aQ.w(h:aQ C c0 c k u v):fP C c0 c k u v:=by
 cases k with
 |bor j=>show h.2
 |_=>show h
def fP.TZ(a:Ok C c)(n:Ns c b)(g:∀j,k=.bor j->b.σ[j]?=c.σ[j]?)(h:fP C c0 c k u v):fP C c0 b k u v:=by
 cases k with
 |own =>
  have⟨r,e,i,l,d,f⟩:=h;obtain⟨o,ho,_⟩:=f.some;show⟨r,e,i,λz=>?_,λz=>?_,f.mv (a.mv n) λo q=>n.keep r o q d⟩
  .rcases n.new r z with z|z|z
   .show l z
   .show d z
   .rw[z]at ho;cases ho
  .rcases n.roots r z with z|z
   .show d z
   .rw[z]at ho;cases ho
 |loc=>show Rep.mv (a.mv n) h
 |any=>show Rep.mv (a.LP n) h
 |bor j=>change b.σ[j]?=_;rw[g j rfl];show h
 |_=>show h
def fP.on(b:Ok C c)(n:Ns c a)(d:a.σ=c.σ)(h:fP C c0 c k u v):fP C c0 a k u v:=h.TZ b n λj _=>by rw[d]
def fP.from(n:Ns c0 c1)(h:fP C c1 c k u v):fP C c0 c k u v:=by
 cases k with
 |own=>have⟨r,e,a,b⟩:=h;show⟨r,e,n.none a,b⟩
 |_=>show h
def aQ.from(n:Ns c0 c1)(h:aQ C c1 c k u v):aQ C c0 c k u v:=by
 cases k with
 |own=>have⟨r,e,a,b⟩:=h;show⟨r,e,n.none a,b⟩
 |_=>show h
def SK(C:Ct)(c:Cf):Kd->hA->Prop
 |.any=>PS C c.S
 |_=>c.S
abbrev kE:Kd->Kd
 |.any=>.any
 |_=>.loc
def Ok.rootOf(b:Ok C c){j:Nat}(h:∃k:Kd,k.root=b6/\c.st[j]?=bD (bD (k,u)))(e:c.σ[j]?=bD (bD v)):∃r,v=.ref r/\¬c.S r/\¬C.J6 r/\(C.H₀ r=cb\/C.IO r)/\cW C c.S c.H r u:=by
 have⟨k,hk,h⟩:=h;have⟨f,a,d⟩:=b.sl j _ _ h;rw[e]at a;cases a;show d.rt hk
def aQ.list(f:Ok C c)(h:aQ C c0 c k (.lst us) v):∃a vs,v=.ref a/\HX C.K c.H a vs/\aq C (SK C c k) c.H us vs:=by
 cases k with
 |own=>obtain⟨r,e,_,_,_,vs,b,d⟩:=h;show⟨r,vs,e,HX.of b,d⟩
 |bor j=>obtain⟨r,e,_,_,_,vs,b,d⟩:=f.rootOf h.1 h.2;show⟨r,vs,e,HX.of b,d⟩
 |io=>show h.elim
 |Hl=>show h.elim
 |_=>have⟨a,vs,e,b,d⟩:=h;show⟨a,vs,e,b.sq,d⟩
def aQ.tuple(b:Ok C c)(h:aQ C c0 c k (.tup us) v):∃a vs,v=.ref a/\Ie C.K c.H a vs/\aq C (SK C c k) c.H us vs:=by
 cases k with
 |own=>obtain⟨r,e,_,_,_,h⟩:=h;show h.elim
 |bor j=>obtain⟨r,e,_,_,_,h⟩:=b.rootOf h.1 h.2;show h.elim
 |io=>show h.elim
 |Hl=>show h.elim
 |_=>have⟨a,vs,e,d,f⟩:=h;show⟨a,vs,e,d,f⟩
def aQ.flat(b:Ok C c)(a:HM u=b6)(h:aQ C c0 c k u v):Rep C c.S c.H u v:=by
 cases k with
 |own=>obtain⟨r,e,_,_,_,h⟩:=h;cases u<;>simp[HM]at a<;>show h.elim
 |loc=>show h
 |any=>show Rep.HM a h
 |bor j=>obtain⟨r,e,_,_,_,h⟩:=b.rootOf h.1 h.2;cases u<;>simp[HM]at a<;>show h.elim
 |_=>show h.elim
def aQ.int(a:Ok C c)(h:aQ C c0 c k (.int i) v):v=.int i:=h.flat a rfl
def aQ.str(a:Ok C c)(h:aQ C c0 c k (.str x) v):v=.str x:=h.flat a rfl
def aQ.bl(a:Ok C c)(h:aQ C c0 c k (.bl b) v):v=.bl b:=h.flat a rfl
def aQ.Hs(a:Ok C c)(h:aQ C c0 c k .Hs v):v=.Hs:=h.flat a rfl
def aQ.item(h:Rep C (SK C c k) c.H u v):aQ C c0 c (kE k) u v:=by
 cases k<;>show h
abbrev JX(H:Hp):hA->Prop:=λa=>∃o,H a=bD o
def Ok.xn(b:Ok C c):∀a,c.S a->JX c.H a:=λa h=>(b.JA a h).2
def Ok.Fg(b:Ok C c):∀a,PS C c.S a->JX c.H a:=λa h=>by
 rcases h with h|h
 .obtain⟨⟨o,e⟩,n⟩:=b.par a h;show⟨o,b.same a o e n⟩
 .show b.xn a h
def aQ.read(a:Ok C c)(h:aQ C c0 c k u v):Rep C (JX c.H) c.H u v:=by
 cases k with
 |own =>
  obtain⟨r,e,_,_,_,b⟩:=h;rw[e];obtain⟨o,ho,_⟩:=b.some;show b.rep a.xn ⟨o,ho⟩
 |loc=>show Rep.mv (.up a.xn) h
 |any=>show Rep.mv (.up a.Fg) h
 |bor j =>
  obtain⟨r,e,_,_,_,b⟩:=a.rootOf h.1 h.2;rw[e];obtain⟨o,ho,_⟩:=b.some;show b.rep a.xn ⟨o,ho⟩
 |_=>show h.elim
def Ok.newList(a:Ok C c)(n:Nx c0 c)(h:c.H p=cb)(d:aq C c.S c.H us vs):
  Ok C {c with H:=upd c.H p (.lst vs)}/\Nx c0 {c with H:=upd c.H p (.lst vs)}/\aQ C c0 {c with H:=upd c.H p (.lst vs)} .own (.lst us) (.ref p):=by
 have⟨e,b⟩:=a.lay (o:=.lst vs) h;have⟨i,f,j,k,g⟩:=a.jP h;show⟨e,n.trans b,p,rfl,n.none h,f,g,vs,ax,d.mv (a.mv b.toNs)⟩
def Ok.Df(a:Ok C c)(n:Nx c0 c)(h:c.H p=cb)(d:aq C c.S c.H us vs):
  Ok C {c with H:=upd c.H p (.tup vs)}/\Nx c0 {c with H:=upd c.H p (.tup vs)}/\aQ C c0 {c with H:=upd c.H p (.tup vs)} .loc (.tup us) (.ref p):=by
 have⟨e,b⟩:=a.lay (o:=.tup vs) h;show⟨e,n.trans b,p,vs,rfl,Ie.of ax,d.mv (a.mv b.toNs)⟩
end
inductive Ex(α:Type) where|ok (a:α)|exc (c:Str)
abbrev M(α:Type):=au->Option (Ex α×au)
namespace M
abbrev pure(a:α):M α:=λst=>bD (.ok a,st)
abbrev fail:M α:=λ_=>cb
abbrev bind(m:M α)(f:α->M β):M β:=λst=>match m st with
 |none=>cb
 |some (.ok a,st')=>f a st'
 |some (.exc c,st')=>bD (.exc c,st')
abbrev HG(o:Option α):M α:=λst=>match o with
 |none=>cb
 |some a=>bD (.ok a,st)
end M
noncomputable instance:Monad M:={pure:=M.pure,bind:=M.bind}
abbrev W{α:Type}(m:M α)(st:au)(Q:α->au->Prop):Prop:=∃a st',m st=bD (.ok a,st')/\Q a st'
section
def ao:W (pure a) st Q↔Q a st:=by
 constructor
 .rintro⟨b,st',e,h⟩;cases e;show h
 .intro h;show⟨a,st,rfl,h⟩
def ah:W (m >>= f) st Q↔W m st λa st'=>W (f a) st' Q:=by
 constructor
 .rintro⟨b,st',e,h⟩;have d:M.bind m f st=bD (.ok b,st'):=e;unfold M.bind at d;cases q:m st with
  |none=>rw[q]at d;cases d
  |some r =>
   have⟨r,s1⟩:=r;rw[q]at d;cases r with
   |ok a=>show⟨a,s1,q,b,st',d,h⟩
   |exc c=>cases d
 .rintro⟨a,s1,q,b,st',e,h⟩;show⟨b,st',?_,h⟩;change M.bind m f st=_;unfold M.bind;rw[q];show e
def cj:W (M.HG o) st Q↔∃a,o=bD a/\Q a st:=by
 cases o with
 |none=>show⟨λ⟨_,_,e,_⟩=>(by cases e),λ⟨_,e,_⟩=>(by cases e)⟩
 |some a=>show⟨λ⟨_,_,e,h⟩=>(by cases e;show⟨a,rfl,h⟩),λ⟨_,e,h⟩=>(by cases e;show⟨a,st,rfl,h⟩)⟩
def bf:W (M.fail:M α) st Q↔False:=⟨λ⟨_,_,e,_⟩=>(by cases e),MF⟩
def W.mono(h:W m st Q)(i:∀a s,Q a s->Q' a s):W m st Q':=let ⟨a,s,e,q⟩:=h;⟨a,s,e,i a s q⟩
end
inductive PQ where|add|sub|mul|MP|mod|pow
deriving DecidableEq
inductive OI where|eq|ne|lt|le|gt|ge|isin|Hz|is|MQ
deriving DecidableEq
inductive Bf where|len|sorted|list|tuple|str|int|repr|max|min|all|any
deriving DecidableEq
inductive B2 where|Ku|JM|sset|iY
deriving DecidableEq
inductive Mf where|split|join|partition|endswith
deriving DecidableEq
inductive JN where|str|list|tuple|int|bool
deriving DecidableEq
inductive Ik where|seq|IG|V8|MR|zip|rev
deriving DecidableEq
inductive E where
 |var (i:Nat)
 |cst (u:U)
 |PR (x:Str) (u:U)
 |bin (op:PQ) (a b:E)
 |cmp (op:OI) (a b:E)
 |K_ (o1 o2:OI) (a b c:E)
 |and (es:List E)|or (es:List E)|not (a:E)
 |ite (c a b:E)
 |tup (es:List E)|lst (es:List E)|Ji (r:Bool)
 |idx (a b:E)
 |LQ (a:E) (lo hi:List E)
 |bi (f:Bf) (es:List E)
 |Lx (f:B2) (es:List E)
 |Mm (m:Mf) (a:E) (es:List E)
 |call (f:Str) (es:List E)
 |comp (k:Nat) (t:Bool) (ik:Ik) (src:List E) (cond:List E) (e:E)
 |neg (a:E)|bad|KD (a:E) (T:JN)|fst (es:List E)|inD (neg:Bool) (a:E) (i:Nat)|NI (i:Nat)|J7 (i:Nat) (k d:E)|NJ (i:Nat)|K' (ln:Bool) (a b:E)
 |Ho (f:Str) (es:List E) (is:List Nat)
 |pop (i:Nat)|J8 (i:Nat) (e:E)
 |Ir (a:E)|JO (f:Str) (es:List E)
inductive S where
 |set (i:Nat) (e:E)
 |LR (is:List Nat) (e:E)
 |put (i:Nat) (k v:E)
 |app (i:Nat) (e:E)|ext (i:Nat) (e:E)|bad|newD (i:Nat)|putD (i:Nat) (k v:E)|Jq (i:Nat) (k v:E)|aug (sub:Bool) (i:Nat) (k v:E)|PU (i:Nat)
 |exp (e:E)
 |ret (e:E)|Kv
 |J9 (i:Nat) (e:E)
 |ite (c:E) (a b:List S)
 |HC (t:Bool) (is:List Nat) (ik:Ik) (src:List E) (body:List S)
 |Ly (c:E) (body:List S)
 |brk|cnt|PV
 |KG (is:List Nat)
 |LS (i:Nat) (e:E)
abbrev isAny:Kd->Bool
 |.any=>b6
 |_=>cK
abbrev fQ(k:Kd)(xs:List U):Bool:=!isAny k||cC xs
abbrev kT(k k':Kd):Kd:=if isAny k||isAny k' then .any else .loc
abbrev cut{α:Type}(xs:List α)(lo a:Option Int):List α:=(xs.drop (HT.JE xs.length 0 lo)).take (HT.JE xs.length xs.length a - HT.JE xs.length 0 lo)
abbrev xo:Kd×U->Kd×U->Option (Kd×U)
 |(_,.int i),(_,.int j)=>bD (.loc,.int (i+j))
 |(_,.str x),(_,.str y)=>if x.length+y.length<=df then bD (.loc,.str (x++y)) else cb
 |(k,.lst xs),(k',.lst a)=>if xs.length+a.length<=df/\fQ k xs=b6/\fQ k' a=b6 then bD (.own,.lst (xs++a)) else cb
 |(k,.tup xs),(k',.tup a)=>if xs.length+a.length<=df then bD (kT k k',.tup (xs++a)) else cb
 |_,_=>cb
abbrev rp(f:Int->Int->Option Int):U->U->Option (Kd×U)
 |.int i,.int j=>(f i j).map λn=>(.loc,.int n)
 |_,_=>cb
abbrev Ab(i j:Int):Option Int:=if ((-(2 ^ 64)<i/\i<2 ^ 64)\/(-(2 ^ 64)<j/\j<2 ^ 64)) then bD (i * j) else cb
abbrev Ac(i j:Int):Option Int:=if 0<j/\j<1073741824 then bD (i / j) else cb
abbrev Ad(i j:Int):Option Int:=if 0<j then bD (i % j) else cb
abbrev Ae(i j:Int):Option Int:=if 0<=j/\j<=1000000/\i.natAbs<2 ^ 64 then bD (i ^ j.toNat) else cb
abbrev Kl(a:PQ)(x y:Kd×U):Option (Kd×U):=match a with
 |.add=>xo x y
 |.sub=>rp (λi j=>bD (i - j)) x.2 y.2
 |.mul=>rp Ab x.2 y.2
 |.MP=>rp Ac x.2 y.2
 |.mod=>rp Ad x.2 y.2
 |.pow=>rp Ae x.2 y.2
mutual
noncomputable def Jg:Nat->U->Bool
 |_,.Hn _ _=>cK
 |0,.tup _=>cK
 |0,.lst _=>cK
 |n+1,.tup xs=>dr n xs
 |n+1,.lst xs=>dr n xs
 |_,.Hs=>b6|_,.bl _=>b6|_,.int _=>b6|_,.str _=>b6
noncomputable def dr:Nat->List U->Bool
 |_,[]=>b6
 |n,u::us=>Jg n u&&dr n us
end
mutual
noncomputable def cI:U->U->Bool
 |.Hs,.Hs=>b6
 |.bl a,.bl b=>a==b
 |.bl a,.int b=>(if a then 1 else 0)==b
 |.int a,.bl b=>a==(if b then 1 else 0)
 |.int a,.int b=>a==b
 |.str a,.str b=>a==b
 |.tup xs,.tup c=>cX xs c
 |.lst xs,.lst c=>cX xs c
 |_,_=>cK
noncomputable def cX:List U->List U->Bool
 |[],[]=>b6
 |u::us,w::ws=>cI u w&&cX us ws
 |_,_=>cK
end
abbrev MS(x:U)(a:List U):Option Bool:=if Jg 50 x=b6/\dr 50 a=b6 then bD (a.any λy=>cI y x) else cb
abbrev strsOf:List U->Option (List Str)
 |[]=>bD []
 |.str x::us=>(strsOf us).map (x::·)
 |_::_=>cb
abbrev Af:U->U->Option Bool
 |x,.lst a=>MS x a
 |x,.tup a=>MS x a
 |.str x,.Hn ks _=>bD (cc (x∈ks))
 |_,_=>cb
abbrev dI:List Str->List U->Str->Option U
 |y::ks,u::us,x=>if y=x then bD u else dI ks us x
 |_,_,_=>cb
abbrev dput(ks:List Str)(us:List U)(x:Str)(u:U):List Str×List U :=
 if x∈ks then(ks,(ks.zip us).map λp=>if p.1=x then u else p.2) else(ks++[x],us++[u])
abbrev mL:U->Bool
 |.Hs=>b6
 |_=>cK
abbrev bO:OI->U->U->Option Bool
 |.eq,a,b=>if Jg 50 a=b6/\Jg 50 b=b6 then bD (cI a b) else cb
 |.ne,a,b=>if Jg 50 a=b6/\Jg 50 b=b6 then bD (!cI a b) else cb
 |.lt,.int i,.int j=>bD (cc (i<j))
 |.gt,.int i,.int j=>bD (cc (j<i))
 |.ge,.int i,.int j=>bD (cc (j<=i))
 |.isin,x,y=>Af x y
 |.Hz,x,y=>(Af x y).map (!·)
 |.is,x,.Hs=>bD (mL x)
 |.MQ,x,.Hs=>bD (!mL x)
 |.is,.bl x,.bl y=>bD (x==y)
 |.MQ,.bl x,.bl y=>bD (!(x==y))
 |_,_,_=>cb
abbrev fR:List U->Option (List Bool)
 |[]=>bD []
 |.bl x::us=>(fR us).map (x::·)
 |_::_=>cb
abbrev gY:Kd×U->U->Option (Kd×U)
 |(k,.lst xs),.int i=>(Iv xs i).map λu=>(kE k,u)
 |(k,.tup xs),.int i=>(Iv xs i).map λu=>(kE k,u)
 |(_,.str x),.int i=>if x.length<=df then(Iv x.cps.toList i).map λc=>(.loc,.str ⟨#[c]⟩) else cb
 |_,_=>cb
abbrev pT:Kd×U->Option Int->Option Int->Option (Kd×U)
 |(k,.lst xs),lo,a=>if fQ k xs=b6 then bD (.own,.lst (cut xs lo a)) else cb
 |(_,.str x),lo,a=>if x.length<=df then bD (.loc,.str (PySem.StrLaws.sliceText x lo a)) else cb
 |_,_,_=>cb
abbrev Dg:U->Option Nat
 |.lst xs=>bD xs.length
 |.tup xs=>bD xs.length
 |.str x=>if x.length<=df then bD x.length else cb
 |.Hn ks _=>bD ks.length
 |_=>cb
abbrev gZ{β:Type}(f:Kd×U->Option β):List (Kd×U)->Option β
 |[x]=>f x
 |_=>cb
abbrev intsOf:List U->Option (List Int)
 |[]=>bD []
 |.int x::us=>(intsOf us).map (x::·)
 |_::_=>cb
abbrev Dh:Kd×U->Option (Kd×U)
 |(_,.lst xs)=>(strsOf xs).bind λa=>if a.length<64 then bD (.own,.lst ((aK a).map .str)) else cb
 |(_,.Hn ks _)=>if ks.length<64 then bD (.own,.lst ((aK ks).map .str)) else cb
 |(_,.tup xs)=>(strsOf xs).bind λa=>if a.length<64 then bD (.own,.lst ((aK a).map .str)) else cb
 |_=>cb
abbrev Di:Kd×U->Option (Kd×U)
 |(k,.lst xs)=>bD (kE k,.tup xs)
 |(k,.tup xs)=>bD (kE k,.tup xs)
 |_=>cb
abbrev Ag:Kd×U->Option (Kd×U)
 |(_,.int i)=>if i.natAbs.log2<1920 then bD (.loc,.str (RL i)) else cb
 |_=>cb
abbrev Dj:Kd×U->Option (Kd×U)
 |(_,.lst xs)=>(fR xs).map λa=>(.loc,.bl (a.all id))
 |_=>cb
abbrev Dk:Kd×U->Option (Kd×U)
 |(_,.lst xs)=>(fR xs).map λa=>(.loc,.bl (a.any id))
 |_=>cb
abbrev JI(f:Bf)(rs:List (Kd×U)):Option (Kd×U):=match f with
 |.len=>gZ (λx=>(Dg x.2).map λ(n:Nat)=>(Kd.loc,U.int (n:Int))) rs
 |.sorted=>gZ Dh rs
 |.tuple=>gZ Di rs
 |.str=>gZ Ag rs
 |.all=>gZ Dj rs
 |.any=>gZ Dk rs
 |_=>cb
abbrev fF:U->Option (List Str)
 |.lst xs=>(strsOf xs).bind λa=>if a.length+1<Hw then bD (ay a) else cb
 |.tup xs=>(strsOf xs).bind λa=>if a.length+1<Hw then bD (ay a) else cb
 |_=>cb
abbrev Dl:Kd×U->Option (Kd×U)
 |(k,.lst xs)=>if fQ k xs=b6 then bD (.own,.lst xs.reverse) else cb
 |_=>cb
abbrev pU(f:B2)(rs:List (Kd×U)):Option (Kd×U):=match f with
 |.Ku=>cb
 |.JM=>gZ Dl rs
 |.sset=>gZ (λx=>(fF x.2).bind λa=>if a.length<64 then bD (.own,.lst ((aK a).map .str)) else cb) rs
 |.iY=>gZ (λx=>(fF x.2).map λa=>(.loc,.int a.length)) rs
abbrev lV:Mf->U->List (Kd×U)->Option (Kd×U)
 |.join,.str a,[(_,.lst xs)]=>(strsOf xs).bind λb=>if Y6 a b=b6 then bD (.loc,.str (Sq a b)) else cb
 |_,_,_=>cb
abbrev G7:Kd×U->Option (List (Kd×U))
 |(k,.lst xs)=>bD (xs.map λu=>(kE k,u))
 |(k,.tup xs)=>bD (xs.map λu=>(kE k,u))
 |_=>cb
abbrev xp:Kd×U->Option (List (Kd×U))
 |(_,.int n)=>if n<2 ^ 62/\-(2 ^ 62)<n then bD ((hQ n.toNat).map λi:Nat=>(Kd.loc,U.int (0+(i:Int)))) else cb
 |_=>cb
abbrev Dm:Kd×U->Option (List (Kd×U))
 |(k,.lst xs)=>bD (xs.zipIdx.map λp=>(kE k,.tup [.int p.2,p.1]))
 |(k,.tup xs)=>bD (xs.zipIdx.map λp=>(kE k,.tup [.int p.2,p.1]))
 |_=>cb
abbrev om(d:List Str×List U):List (Kd×U):=(d.1.zip d.2).map λp=>(Kd.loc,U.tup [.str p.1,p.2])
abbrev Ju(ik:Ik)(rs:List (Kd×U)):Option (List (Kd×U)):=match ik with
 |.seq=>gZ G7 rs
 |.IG=>gZ xp rs
 |.MR=>gZ Dm rs
 |_=>cb
abbrev Ah(ps:List (Str×Int)):List (Str×Int):=(jM (ps.map (·.1))).map λi=>ps.getD i (tr,0)
abbrev vk(p:Str×Int):U:=.tup [.str p.1,.int p.2]
abbrev xq:U->Option (Kd×U)
 |.Hn ks us=>(intsOf us).bind λns=>if ks.length<64/\ks.Nodup/\ks.length=ns.length then bD (.own,.lst ((Ah (ks.zip ns)).map vk)) else cb
 |_=>cb
abbrev lW(ln:Bool)(a b:List Str):Option (Kd×U):=if a.length<64/\b.length<64 then bD (if ln=b6 then(.loc,.int ((a.filter λx=>cc (x∉b)).length:Nat)) else(.own,.lst ((aK (a.filter λx=>cc (x∉b))).map .str))) else cb
abbrev rq:U->Option Bool
 |.bl b=>bD b
 |.lst xs=>bD !xs.isEmpty
 |.tup xs=>bD !xs.isEmpty
 |.str x=>if x.length<=df then bD ((x.length:Int) != 0) else cb
 |_=>cb
abbrev lift:Kd×U->M U
 |(.own,u)=>pure u
 |(.loc,u)=>pure u
 |(.any,u)=>if HM u=b6 then pure u else M.fail
 |(.bor j,_)=>λst=>match st[j]? with
  |some (bD (.own,u))=>bD (.ok u,st.set j (bD (.loc,u)))
  |_=>cb
 |(.io,_)=>M.fail
 |(.Hl,_)=>M.fail
abbrev du:List (Kd×U)->M (List U)
 |[]=>pure []
 |r::rs=>do let u <-lift r;let us <-du rs;pure (u::us)
abbrev eJ(i:Nat):Kd×U->M Unit
 |(.bor j,_)=>λst=>match st[j]? with
  |some (bD (.own,u))=>bD (.ok (),(st.set j (bD (.loc,u))).set i (bD (.loc,u)))
  |_=>cb
 |(.io,_)=>M.fail
 |(.Hl,_)=>M.fail
 |(k,u)=>λst=>bD (.ok (),st.set i (bD (k,u)))
def bq:List (Kd×U)->au->Prop
 |[],_=>True
 |(.bor j,u)::rs,st=>(∃k:Kd,k.root=b6/\st[j]?=bD (bD (k,u)))/\bq rs st
 |_::rs,st=>bq rs st
open Classical in
abbrev aE(rs:List (Kd×U)):M Unit:=λst=>if bq rs st then bD (.ok (),st) else cb
@[reducible]def Tab:=Str->List U->Option (Ex (Kd×U))
abbrev kQ(Γ:Tab)(f:Str)(us:List U):M (Kd×U):=λst=>match Γ f us with
 |some (.ok (.any,_))=>cb
 |none=>cb
 |some r=>bD (r,st)
abbrev pV(Γ:Tab)(f:Str)(rs:List (Kd×U)):M (Kd×U):=λst=>if rs.all (λr=>cc (r.1=.loc))=b6 then match Γ f (rs.map (·.2)) with
 |some (.ok (k,u))=>bD (.ok (if k=.any then .loc else k,u),st)
 |_=>cb
 else cb
abbrev g9(rs:List (Kd×U))(p:Nat):Option Nat:=match rs[p]? with
 |some (.bor j,.lst us)=>if cC us=b6 then bD j else cb
 |_=>cb
abbrev pW(a:List (Option Nat)):Kd×U->Bool
 |(.bor j,_)=>cc (bD j∉a)
 |_=>b6
abbrev pX(rs:List (Kd×U))(is:List Nat):Bool:=is.all (λp=>(g9 rs p).isSome)&&cc ((is.map (g9 rs)).Nodup)&&(hQ rs.length).all λq=>cc (q∈is)||pW (is.map (g9 rs)) (rs.getD q (.loc,.Hs))
abbrev gE(rs:List (Kd×U)):List Nat->List U->au->Option au
 |[],[],st=>bD st
 |p::is,w::ws,st=>match g9 rs p with
  |some j=>match w,st[j]? with
   |.lst us,bD (bD (k,_))=>gE rs is ws (st.set j (bD (k,.lst us)))
   |_,_=>cb
  |none=>cb
 |_,_,_=>cb
abbrev RU:Kd×U->Option (Kd×U×List U)
 |(.own,.tup (u::ws))=>bD (.own,u,ws)
 |(.loc,.tup (u::ws))=>bD (.loc,u,ws)
 |_=>cb
abbrev d8(st:au):Kd×U->Kd×U
 |(.bor j,u)=>(.bor j,match st[j]? with|some (bD (k,u'))=>if k.root=b6 then u' else u|_=>u)
 |r=>r
abbrev Ai(rs:List (Kd×U)):M (List (Kd×U)):=λst=>bD (.ok (rs.map (d8 st)),st)
abbrev pY(Γ:Tab)(f:Str)(rs:List (Kd×U))(is:List Nat):M (Kd×U):=λst=>match Γ f (rs.map (·.2)) with
 |some (.ok r)=>match RU r with
  |some (k,u,ws)=>if pX rs is=b6 then(match gE rs is ws st with|some st'=>bD (.ok (k,u),st')|none=>cb) else cb
  |none=>cb
 |_=>cb
abbrev xr(i:Nat):M (Kd×U):=λst=>match st[i]? with
 |some (bD (k,.lst us))=>if k.root=b6 then(match us[us.length - 1]? with|some u=>bD (.ok (.loc,u),st.set i (bD (k,.lst us.dropLast)))|none=>cb) else cb
 |_=>cb
abbrev vm(i:Nat):U->M (Kd×U)
 |.int j=>λst=>match st[i]? with
  |some (bD (k,.lst us))=>if k.root=b6/\0<=j/\j<1000000 then(match us[j.toNat]? with|some u=>bD (.ok (.loc,u),st.set i (bD (k,.lst (us.eraseIdx j.toNat))))|none=>cb) else cb
  |_=>cb
 |_=>M.fail
abbrev c_(i:Nat):M (Kd×U):=λst=>match st[i]? with
 |some (bD (.Hl,_))=>cb
 |some (bD (k,u))=>bD (.ok (if k.root=b6 then .bor i else k,u),st)
 |_=>cb
abbrev iD(i:Nat):M (List Str×List U):=λst=>match st[i]? with
 |some (bD (.Hl,.Hn ks us))=>bD (.ok (ks,us),st)
 |_=>cb
abbrev jQ(x:Kd×U):M Str:=match x.2 with
 |.str y=>pure y
 |_=>M.fail
abbrev RV(neg:Bool)(y:Str)(ks:List Str):Bool:=if neg=b6 then !cc (y∈ks) else cc (y∈ks)
abbrev xu(i:Nat):M (Kd×U):=λst=>match st[i]? with
 |some (bD (.Hl,u))=>bD (.ok (.bor i,u),st.set i (bD (.own,u)))
 |_=>c_ i st
abbrev pZ(i:Nat):M (List Str×List U):=λst=>match st[i]? with
 |some (bD (.Hl,.Hn ks us))=>bD (.ok (ks,us),st.set i cb)
 |_=>cb
abbrev BR(i:Nat):M Unit:=λst=>bD (.ok (),st.set i (bD (.Hl,.Hn [] [])))
abbrev kR(i:Nat)(y:Str):Kd×U->M Unit
 |(.own,.lst us)=>λst=>match st[i]? with
  |some (bD (.Hl,.Hn ks vs))=>if y∉ks/\ks.length<df then bD (.ok (),st.set i (bD (.Hl,.Hn (ks++[y]) (vs++[.lst us])))) else cb
  |_=>cb
 |_=>M.fail
abbrev jc:List Str->List U->Str->U->List U
 |k::ks,v::vs,y,u=>if k=y then u::vs else v::jc ks vs y u
 |_,vs,_,_=>vs
abbrev kS(i:Nat)(y:Str)(u:U):M Unit:=λst=>match st[i]? with
 |some (bD (.Hl,.Hn ks vs))=>match dI ks vs y with
  |some (.lst xs)=>if xs.length<df then bD (.ok (),st.set i (bD (.Hl,.Hn ks (jc ks vs y (.lst (xs++[u])))))) else cb
  |_=>cb
 |_=>cb
abbrev RW:U->M Unit
 |.Hn _ _=>pure ()
 |_=>M.fail
abbrev Aj(x:Kd×U)(y:Str)(u:U):Option (Kd×U):=match x with
 |(k,.Hn ks us)=>bD (match dI ks us y with|some v=>(kE k,v)|none=>(.loc,u))
 |_=>cb
abbrev p6(i:Nat):M (List U):=λst=>match st[i]? with
 |some (bD (k,.lst us))=>if k.root=b6 then bD (.ok us,st) else cb
 |_=>cb
abbrev vn(x:Kd×U):M Int:=match x.2 with
 |.int j=>pure j
 |_=>M.fail
abbrev p7(us:List U)(j:Int):Option Int:=if 0<=j then(match us[j.toNat]? with|some (.int o)=>bD o|_=>cb) else cb
abbrev vp(sub:Bool)(o w:Int):Int:=if sub=b6 then o - w else o+w
abbrev G8:U->Option U
 |.lst us=>bD (.lst us.reverse)
 |_=>cb
abbrev sets:List Nat->List (Kd×U)->M Unit
 |[],[]=>pure ()
 |i::is,r::rs=>do eJ i r;sets is rs
 |_,_=>M.fail
abbrev dv(t:Bool)(is:List Nat)(r:Kd×U):M Unit:=match t,is,r with
 |false,[i],r=>eJ i r
 |true,is,(k,.tup xs)=>sets is (xs.map λu=>(kE k,u))
 |_,_,_=>M.fail
abbrev inScope{α:Type}(k:Nat)(m:M α):M α:=λst=>match m (i5 k cb++st) with
 |none=>cb
 |some (r,st')=>bD (r,st'.drop k)
abbrev bP(k:Nat)(t:Bool)(cond:M Bool)(elt:M (Kd×U))(src:List (Kd×U)):List (Kd×U)->List U->M (List U)
 |[],acc=>do aE src;pure acc
 |x::xs,acc=>do
  aE src
  let r <-inScope k (dv t (hQ k) x >>= λ_=>cond >>= λb=>if b=b6 then(elt >>= λr=>lift r >>= λu=>pure (bD u)) else pure cb)
  match r with
  |some u=>if acc.length<df then bP k t cond elt src xs (acc++[u]) else M.fail
  |none=>bP k t cond elt src xs acc
abbrev oo:U->JN->Option Bool
 |.str _,T=>bD (cc (T=.str))
 |.int _,T=>bD (cc (T=.int))
 |.bl _,.bool=>bD b6
 |.bl _,.int=>bD b6
 |.lst _,T=>bD (cc (T=.list))
 |.tup _,T=>bD (cc (T=.tuple))
 |_,_=>cb
abbrev G9:Kd×U->Option (Kd×U)
 |(_,.int i)=>bD (.loc,.int (-i))
 |_=>cb
abbrev Dn(x:Kd×U):M (Option Int):=match x.2 with
 |.int i=>pure (bD i)
 |_=>M.fail
abbrev LU:U->M Unit
 |.lst _=>pure ()
 |_=>M.fail
abbrev Dp:U->M Unit
 |.Hn _ _=>pure ()
 |_=>M.fail
abbrev Dq(x:Kd×U):M Str:=match x.2 with
 |.str k=>pure k
 |_=>M.fail
abbrev tE(k:Str):U->Option U
 |.Hn ks us=>if k∈ks then bD (.Hn (((ks.zip us).filter λp=>cc (p.1≠k)).map (·.1)) (((ks.zip us).filter λp=>cc (p.1≠k)).map (·.2))) else cb
 |_=>cb
section
variable(Γ:Tab)
mutual
noncomputable def ev:E->M (Kd×U)
 |.var i=>c_ i
 |.cst u=>pure (.loc,u)
 |.PR _ u=>pure (.loc,u)
 |.bin g a b=>do
  let x <-ev a
  let y <-ev b
  aE [x,y]
  M.HG (Kl g x y)
 |.cmp g a b=>do
  let x <-ev a
  let y <-ev b
  aE [x,y]
  let c <-M.HG (bO g x.2 y.2)
  pure (.loc,.bl c)
 |.K_ _ _ _ _ _=>M.fail
 |.and es=>iE es
 |.or _=>M.fail
 |.not a=>do
  let x <-ev a
  match x.2 with
  |.bl c=>pure (.loc,.bl !c)
  |_=>M.fail
 |.ite c a b=>do
  let p <-HH c
  if p=b6 then ev a else ev b
 |.tup es=>do
  let rs <-bA es
  aE rs
  let us <-du rs
  if us.length<=df then pure (.loc,.tup us) else M.fail
 |.lst es=>do
  let rs <-bA es
  aE rs
  let us <-du rs
  if us.length<=df then pure (.own,.lst us) else M.fail
 |.Ji r=>pure (.own,.Hn [] [])
 |.idx a b=>do
  let x <-ev a
  let y <-ev b
  aE [x,y]
  M.HG (gY x y.2)
 |.LQ a lo j=>do
  let x <-ev a
  let l <-MT lo
  let h <-MT j
  aE [x]
  M.HG (pT x l h)
 |.bi f es=>do
  let rs <-bA es
  aE rs
  M.HG (JI f rs)
 |.Lx f es=>do
  let rs <-bA es
  aE rs
  M.HG (pU f rs)
 |.Mm m a es=>do
  let x <-ev a
  let rs <-bA es
  aE (x::rs)
  M.HG (lV m x.2 rs)
 |.call f es=>do
  let rs <-bA es
  aE rs
  kQ Γ f (rs.map (·.2))
 |.comp k t ik src cond e=>do
  let rs <-bA src
  aE rs
  let xs <-M.HG (Ju ik rs)
  let us <-bP k t (aL cond) (ev e) rs xs []
  pure (.own,.lst us)
 |.neg a=>do
  let x <-ev a
  M.HG (G9 x)
 |.bad=>M.fail
 |.inD _ _ _=>M.fail
 |.NI i=>xu i
 |.J7 i k d=>do
  let x <-c_ i
  RW x.2
  let y <-ev k
  let y <-jQ y
  let z <-ev d
  let u <-lift z
  let x <-c_ i
  M.HG (Aj x y u)
 |.NJ i=>do
  let x <-c_ i
  M.HG (xq x.2)
 |.Ho f es is=>do
  let rs <-(bA es >>= Ai)
  aE rs
  pY Γ f rs is
 |.pop i=>xr i
 |.J8 i e=>do
  let x <-c_ i
  LU x.2
  let y <-ev e
  vm i y.2
 |.Ir a=>do
  let r <-ev a
  let u <-lift r
  pure (.loc,u)
 |.JO f es=>do
  let rs <-bA es
  aE rs
  pV Γ f rs
 |.K' ln a b=>do
  let x <-ev a
  let n <-M.HG (fF x.2)
  let y <-ev b
  let o <-M.HG (fF y.2)
  M.HG (lW ln n o)
 |.fst es=>M.fail
 |.KD a T=>do
  let x <-ev a
  let b <-M.HG (oo x.2 T)
  pure (.loc,.bl b)
noncomputable def bA:List E->M (List (Kd×U))
 |[]=>pure []
 |e::es=>do let r <-ev e;let rs <-bA es;pure (r::rs)
noncomputable def MT:List E->M (Option Int)
 |[]=>pure cb
 |[e]=>do let x <-ev e;Dn x
 |_=>M.fail
noncomputable def iE:List E->M (Kd×U)
 |[]=>M.fail
 |[e]=>ev e
 |e::es=>do
  let x <-ev e
  match x.2 with
  |.bl b6=>iE es
  |.bl cK=>pure (.loc,.bl cK)
  |_=>M.fail
noncomputable def HH:E->M Bool
 |.and es=>aL es
 |.or es=>jz es
 |.not a=>do let b <-HH a;pure !b
 |.cmp e a b=>do
  let x <-ev a
  let y <-ev b
  aE [x,y]
  M.HG (bO e x.2 y.2)
 |.var i=>do let x <-c_ i;M.HG (rq x.2)
 |.bi f es=>do
  let rs <-bA es
  aE rs
  let r <-M.HG (JI f rs)
  M.HG (rq r.2)
 |.call f es=>do
  let rs <-bA es
  aE rs
  let r <-kQ Γ f (rs.map (·.2))
  M.HG (rq r.2)
 |.K_ o1 o2 a b c=>do
  let x <-ev a
  let y <-ev b
  aE [x,y]
  let p <-M.HG (bO o1 x.2 y.2)
  if p=b6 then do
   let z <-ev c
   aE [y,z]
   M.HG (bO o2 y.2 z.2)
  else pure cK
 |.inD neg a i=>do
  let x <-ev a
  let y <-jQ x
  let d <-iD i
  pure (RV neg y d.1)
 |.KD a T=>do
  let x <-ev a
  M.HG (oo x.2 T)
 |_=>M.fail
noncomputable def aL:List E->M Bool
 |[]=>pure b6
 |[e]=>HH e
 |e::es=>do let b <-HH e;if b=b6 then aL es else pure cK
noncomputable def jz:List E->M Bool
 |[]=>pure cK
 |[e]=>HH e
 |e::es=>do let b <-HH e;if b=b6 then pure b6 else jz es
end
inductive Fl where|nx|rt (k:Kd) (u:U)|bk|ct
abbrev retS:Kd×U->M Fl
 |(.own,u)=>pure (.rt .own u)
 |(.loc,u)=>pure (.rt .loc u)
 |(.any,u)=>if HM u=b6 then pure (.rt .loc u) else pure (.rt .any u)
 |(.bor j,_)=>λst=>match st[j]? with
  |some (bD (.own,u))=>bD (.ok (.rt .own u),st.set j cb)
  |_=>cb
 |(.io,_)=>M.fail
 |(.Hl,_)=>M.fail
abbrev forM(t:Bool)(is:List Nat)(body:M Fl)(src:List (Kd×U)):List (Kd×U)->M Fl
 |[]=>do aE src;pure .nx
 |x::xs=>do
  aE src
  dv t is x
  let f <-body
  match f with
  |.nx=>forM t is body src xs
  |.ct=>forM t is body src xs
  |.bk=>pure .nx
  |.rt k u=>pure (.rt k u)
abbrev fG(c:M Bool)(body:M Fl):Nat->M Fl
 |0=>M.fail
 |n+1=>do
  let b <-c
  if b=b6 then do
   let f <-body
   match f with
   |.nx=>fG c body n
   |.ct=>fG c body n
   |.bk=>pure .nx
   |.rt k u=>pure (.rt k u)
  else pure .nx
abbrev modS(i:Nat)(f:U->Option U):M Unit:=λst=>match st[i]? with
 |some (bD (k,u))=>if k.root=b6 then match f u with
   |some u'=>bD (.ok (),st.set i (bD (k,u')))
   |none=>cb
  else cb
 |_=>cb
abbrev xv(u:U):U->Option U
 |.lst xs=>if xs.length<df then bD (.lst (xs++[u])) else cb
 |_=>cb
abbrev kU:Kd×U->U->Option U
 |(k,.lst a),.lst xs=>if xs.length+a.length<=df/\fQ k a=b6 then bD (.lst (xs++a)) else cb
 |(k,.tup a),.lst xs=>if xs.length+a.length<=df/\fQ k a=b6 then bD (.lst (xs++a)) else cb
 |_,_=>cb
abbrev d9(x u:U):U->Option U
 |.Hn ks vs=>match x with
  |.str y=>if ks.length<df then bD (.Hn (dput ks vs y u).1 (dput ks vs y u).2) else cb
  |_=>cb
 |.lst xs=>match x with
  |.int i=>(KS xs.length i).map λj=>.lst (xs.set j u)
  |_=>cb
 |_=>cb
abbrev tF:List U->U->Option U
 |[u,x]=>d9 x u
 |_=>λ_=>cb
abbrev fuel:Nat:=1000000000000
mutual
noncomputable def PX:S->Nat->Bool
 |.set i _,j=>cc (j≠i)
 |.LR is _,j=>cc (j∉is)
 |.ite _ a b,j=>Jv a j&&Jv b j
 |.HC _ is _ _ body,j=>cc (j∉is)&&Jv body j
 |.Ly _ body,j=>Jv body j
 |.put _ _ _,_=>b6
 |.app _ _,_=>b6
 |.ext _ _,_=>b6
 |.bad,_=>b6
 |.newD i,j=>cc (j≠i)
 |.putD _ _ _,_=>b6
 |.Jq _ _ _,_=>b6
 |.aug _ _ _ _,_=>b6
 |.PU _,_=>b6
 |.exp _,_=>b6
 |.ret _,_=>b6
 |.J9 _ _,_=>b6
 |.Kv,_=>b6
 |.brk,_=>b6
 |.cnt,_=>b6
 |.PV,_=>b6
 |.KG _,_=>b6
 |.LS _ _,_=>b6
noncomputable def Jv:List S->Nat->Bool
 |[],_=>b6
 |s::a,j=>PX s j&&Jv a j
end
abbrev tH(rs:List (Kd×U))(is:List Nat)(body:List S):Bool:=rs.all λr=>match r.1 with
 |.bor j=>cc (j∉is)&&Jv body j
 |_=>b6
mutual
noncomputable def exec:S->M Fl
 |.set i e=>do let r <-ev Γ e;eJ i r;pure .nx
 |.LR is e=>do let r <-ev Γ e;dv b6 is r;pure .nx
 |.put i k v=>do
  let r <-ev Γ v
  let _ <-c_ i
  let x <-ev Γ k
  let us <-du [r,x]
  modS i (tF us)
  pure .nx
 |.app i e=>do
  let x <-c_ i
  LU x.2
  let r <-ev Γ e
  let u <-lift r
  modS i (xv u)
  pure .nx
 |.ext i e=>do
  let x <-c_ i
  LU x.2
  let r <-ev Γ e
  modS i (kU r)
  pure .nx
 |.bad=>M.fail
 |.newD i=>do BR i;pure .nx
 |.putD i k v=>do
  let r <-ev Γ v
  let d <-iD i
  let x <-ev Γ k
  let y <-jQ x
  kR i y r
  pure .nx
 |.Jq i k v=>do
  let _ <-iD i
  let x <-ev Γ k
  let y <-jQ x
  let d <-iD i
  if y∈d.1 then do
   let r <-ev Γ v
   let u <-lift r
   kS i y u
   pure .nx
  else M.fail
 |.aug sub i k v=>do
  let _ <-p6 i
  let y <-ev Γ k
  let j <-vn y
  let us <-p6 i
  let o <-M.HG (p7 us j)
  let z <-ev Γ v
  let w <-vn z
  modS i (d9 (.int j) (.int (vp sub o w)))
  pure .nx
 |.PU i=>do
  modS i G8
  pure .nx
 |.exp e=>do let _ <-ev Γ e;pure .nx
 |.ret e=>do let r <-ev Γ e;retS r
 |.J9 i e=>do
  let d <-pZ i
  let us <-bP 2 b6 (pure b6) (ev Γ e) [] (om d) []
  retS (.own,.lst us)
 |.Kv=>pure (.rt .loc .Hs)
 |.ite c a b=>do let p <-HH Γ c;if p=b6 then execs a else execs b
 |.HC t is ik src body=>do
  let rs <-bA Γ src
  aE rs
  let xs <-M.HG (Ju ik rs)
  if tH rs is body=b6 then forM t is (execs body) rs xs else M.fail
 |.Ly c body=>fG (HH Γ c) (execs body) fuel
 |.brk=>pure .bk
 |.cnt=>pure .ct
 |.PV=>pure .nx
 |.KG _=>M.fail
 |.LS i e=>c_ i >>= λx=>Dp x.2 >>= λ_=>ev Γ e >>= λy=>Dq y >>= λk=>modS i (tE k) >>= λ_=>pure .nx
noncomputable def execs:List S->M Fl
 |[]=>pure .nx
 |s::a=>do
  let f <-exec s
  match f with
  |.nx=>execs a
  |f=>pure f
end
end
structure Fn where
 name:Str
 np:Nat
 ns:Nat
 body:List S
abbrev start(us:List U)(n:Nat):au:=us.map (λu=>bD (if HM u=b6 then Kd.loc else Kd.any,u))++i5 (n - us.length) cb
abbrev cY(Γ:Tab)(fn:Fn)(us:List U):Option (Ex (Kd×U)):=if us.length=fn.np then match execs Γ fn.body (start us fn.ns) with
  |some (.ok (.rt .own u),_)=>bD (.ok (.own,u))
  |some (.ok (.rt .loc u),_)=>bD (.ok (.loc,u))
  |some (.ok (.rt .any u),_)=>bD (.ok (.any,u))
  |some (.ok .nx,_)=>bD (.ok (.loc,.Hs))
  |some (.exc c,_)=>bD (.exc c)
  |_=>cb
 else cb
abbrev cZ(is:List Nat)(us:List U)(n:Nat):au:=(us.zipIdx.map λp=>bD (if p.2∈is then Kd.io else if HM p.1=b6 then Kd.loc else Kd.any,p.1))++i5 (n - us.length) cb
abbrev MU:List Nat->au->Option (List U)
 |[],_=>bD []
 |i::is,st=>match st[i]? with
  |some (bD (.io,u))=>(MU is st).map (u::·)
  |_=>cb
abbrev PY:Fl->Option (Kd×U)
 |.rt .own u=>bD (.own,u)
 |.rt .loc u=>bD (.loc,u)
 |.nx=>bD (.loc,.Hs)
 |_=>cb
abbrev gv(Γ:Tab)(fn:Fn)(is:List Nat)(body:List S)(us:List U):Option (Ex (Kd×U)):=if us.length=fn.np then match execs Γ body (cZ is us fn.ns) with
  |some (.ok f,st)=>(PY f).bind λr=>(MU is st).map λws=>.ok (r.1,.tup (r.2::ws))
  |_=>cb
 else cb
abbrev Fn.io(fn:Fn):Option (List Nat×List S):=match fn.body with
 |.KG is::body=>bD (is,body)
 |_=>cb
abbrev jd(Γ:Tab)(fn:Fn)(us:List U):Option (Ex (Kd×U)):=match fn.io with
 |some (is,body)=>gv Γ fn is body us
 |none=>cY Γ fn us
abbrev HA(P:List Fn):Nat->Tab
 |0=>λ_ _=>cb
 |d+1=>λf us=>match P.find? λfn=>cc (fn.name=f) with
  |some fn=>jd (HA P d) fn us
  |none=>cb
end TM
namespace TM
open PySem L2
section
variable{X:Cx}{pins:List (hA×Obj)}{σ:St}{H:Hp}{s:gs}{C:Ct}{S:hA->Prop}
def tI(I:Inv X pins σ H s)(h:HX X.K H a vs):∃b:List dV,Vals vs b/\s.heap.IsList a b.toArray/\vs.length<=df:=by
 have⟨b,r,p,z⟩:=I.list h;show⟨b,r,p.isList,z⟩
inductive Ia(s:gs):Nat->U->dV->Prop where
 |Hs {n:Nat}:Ia s n .Hs .none
 |bl {n:Nat} {b:Bool}:Ia s n (.bl b) (.bool b)
 |int {n:Nat} {i:Int} {t:Tok}:Ia s n (.int i) (.int i t)
 |str {n:Nat} {y:Str} {t:Tok}:Ia s n (.str y) (.str y t)
 |tup {n:Nat} {us:List U} {B':List dV} {a:hA}:us.length=B'.length->(∀j (hj:j<B'.length),Ia s n (us.getD j .Hs) B'[j])->cX us us=b6->s.heap.IsTuple a B'.toArray->Ia s (n+1) (.tup us) (.ref a)
 |lst {n:Nat} {us:List U} {B':List dV} {a:hA}:us.length=B'.length->(∀j (hj:j<B'.length),Ia s n (us.getD j .Hs) B'[j])->cX us us=b6->s.heap.IsList a B'.toArray->Ia s (n+1) (.lst us) (.ref a)
def Ia.self(h:Ia s n u x):cI u u=b6:=by
 cases h<;>first|assumption|simp[cI]
theorem Ia.Ak(f:∀u v x,Jg n u=b6->Rep C S H u v->RelV v x->Ia s n u x):∀{us:List U}{vs:List V}{a:List dV},dr n us=b6->aq C S H us vs->Vals vs a->us.length=a.length/\(∀j (b:j<a.length),Ia s n (us.getD j .Hs) a[j])/\cX us us=b6
 |[],_,_,_,h,r=>by cases h;cases r;show⟨rfl,λj b=>(nomatch b),rfl⟩
 |u::us,_,_,e,h,r=>by
  have⟨v,vs,rfl,c,g⟩:=h;simp only[dr,cL]at e;cases r with
  |cons d i =>
   have⟨l,k,y⟩:=Ia.Ak f e.2 g i;show⟨by simp[l],λj b=>?_,by rw[cX,(f _ _ _ e.1 c d).self,y];rfl⟩;cases j with
   |zero=>show f _ _ _ e.1 c d
   |succ j=>show k j (by simpa using b)
def Ia.of(I:Inv X pins σ H s)(d:C.K=X.K):∀(n:Nat) (u:U) (v:V) (x:dV),Jg n u=b6->Rep C S H u v->RelV v x->Ia s n u x:=by
 intro n;induction n with
 |zero=>intro u v x e h r;cases u<;>first|(simp[Jg]at e;done)|(simp only[Rep]at h;subst h;first|(cases r;constructor)|(have⟨t,rfl⟩:=r;constructor))
 |succ n f =>
  intro u v x e h r;cases u with
  |tup us =>
   have⟨a,vs,rfl,b,c⟩:=h;cases r;obtain⟨g,rv,p,_⟩:=I.tuple (d▸b);have⟨l,k,y⟩:=Ia.Ak f (by simpa[Jg] using e) c rv;show .tup l k y p
  |lst us =>
   have⟨a,vs,rfl,b,c⟩:=h;cases r;obtain⟨g,rv,p,_⟩:=tI I (d▸b.sq);have⟨l,k,y⟩:=Ia.Ak f (by simpa[Jg] using e) c rv;show .lst l k y p
  |_=>first|(simp[Jg]at e;done)|(simp only[Rep]at h;subst h;first|(cases r;constructor)|(have⟨t,rfl⟩:=r;constructor))
def Ia.inj:∀{n:Nat}{u w:U}{x:dV},Ia s n u x->Ia s n w x->u=w:=by
 intro n;induction n with
 |zero=>intro u w x h h';cases h<;>cases h'<;>rfl
 |succ n r =>
  have go:∀{us ws:List U} {c its':List dV} {a:hA} {o o':Obj} {m i:Nat},us.length=c.length->(∀j (t:j<c.length),Ia s n (us.getD j .Hs) c[j])->ws.length=its'.length->(∀j (t:j<its'.length),Ia s n (ws.getD j .Hs) its'[j])->s.heap.get? a=bD o->o.data=.seq c.toArray m->s.heap.get? a=bD o'->o'.data=.seq its'.toArray i->us=ws:=by
   intro us ws c its' a o o' m i l k f k' e d g d';rw[e]at g;cases g;rw[d]at d';injection d' with v _
   have:c=its':=by simpa using Z_ W4 v
   subst this;show Lq ⋯ λj z A=>?_;have:=r (k j ⋯) (k' j ⋯);simpa[z,A] using this
  intro u w x h h';cases h with
  |tup l k y p =>
   cases h' with
   |tup f k' q b=>obtain⟨o,e,_,m,d⟩:=p;obtain⟨o',g,_,i,d'⟩:=b;rw[go l k f k' e d g d']
   |lst f k' q b=>show absurd rfl (W2 b p)
  |lst l k y p =>
   cases h' with
   |lst f k' q b=>obtain⟨o,e,_,m,d⟩:=p;obtain⟨o',g,_,i,d'⟩:=b;rw[go l k f k' e d g d']
   |tup f k' q b=>show absurd rfl (W2 p b)
  |_=>cases h';rfl
theorem je:∀{us ws:List U},us.length≠ws.length->cX us ws=cK
 |[],[],h=>absurd rfl h
 |[],_::_,_=>rfl
 |_::_,[],_=>rfl
 |u::us,w::ws,h=>by
  rw[cX,je (us:=us) (ws:=ws) (λe=>h (by simp[e])),Sa]
theorem fS:∀{us ws:List U},us.length=ws.length->cX us ws=(hQ us.length).all λj=>cI (us.getD j .Hs) (ws.getD j .Hs)
 |[],[],_=>rfl
 |[],_::_,h=>by simp at h
 |_::_,[],h=>by simp at h
 |u::us,w::ws,h=>by
  have h':us.length=ws.length:=by simpa using h
  rw[cX,fS h',ke,List.range_succ_eq_map,WX,Rr];rfl
def Fh{a its':List dV}(c:us.length=a.length)(d:ws.length=its'.length):cX us ws=((hQ (min a.toArray.size its'.toArray.size)).all (λj=>cI (us.getD j .Hs) (ws.getD j .Hs))&&a.toArray.size==its'.toArray.size):=by
 simp only[hE];by_cases b:us.length=ws.length
 .rw[fS b,show min a.length its'.length=us.length by lia,show(a.length==its'.length)=b6 by simp;lia,Zb]
 .rw[je b,show(a.length==its'.length)=cK by simp;lia,Sa]
def tJ(b:Ia s n u y)(h:X0 A s y x k)(hs:y=x->k=b6):Rk A s y x k:=λprog w E Q a=>by
 unfold eqBool;show t4 ?_;show wpAny_ite_split (λc=>?_) (λ_=>?_)
 .rw[hs (eq_of_beq c)]at a;show b5 (Ng (dt a))
 .cases b<;>show b5 (h prog w E _ (JC a))
def RX(r:∀m,m+1=n->∀{u w:U}{x f:dV}{A:MN},Ia s m u x->Ia s m w f->A.units+m<Kx->Rk A s x f (cI u w))(h:Ia s n u x)(h':Ia s n w f)(v:A.units+n<Kx):X0 A s x f (cI u w)/\Y5 A s x f (!cI u w):=by
 have a:A.units<Kx:=by lia
 have go:∀{m:Nat} {us ws:List U} {g its':List dV},m+1=n->(∀j (t:j<g.length),Ia s m (us.getD j .Hs) g[j])->(∀j (t:j<its'.length),Ia s m (ws.getD j .Hs) its'[j])->∀j (i:j<g.toArray.size) (o:j<its'.toArray.size),Rk A.in1 s g.toArray[j] its'.toArray[j] (cI (us.getD j .Hs) (ws.getD j .Hs)):=λ{m us ws g its'} e k k' j i o=>r m e (k j i) (k' j o) (by change A.units+1+m < _;lia);cases h with
 |Hs =>
  cases h' with
  |Hs=>show⟨.none_none,.none_none⟩
  |bl=>show⟨.none_bool _,.none_bool _⟩
  |int=>show⟨.none_int _ _,.none_int _ _⟩
  |str=>show⟨.none_str _ _,.none_str _ _⟩
  |tup c k' d b=>show⟨.none_tuple b a,.none_tuple b a⟩
  |lst c k' d b=>show⟨.none_list b a,.none_list b a⟩
 |bl =>
  cases h' with
  |Hs=>show⟨.bool_none _,.bool_none _⟩
  |bl=>show⟨.bool_bool _ _,.bool_bool _ _⟩
  |int=>show⟨.bool_int _ _ _,.bool_int _ _ _⟩
  |str=>show⟨.bool_str _ _ _,.bool_str _ _ _⟩
  |tup c k' d b=>show⟨.bool_tuple _ b a,.bool_tuple _ b a⟩
  |lst c k' d b=>show⟨.bool_list _ b a,.bool_list _ b a⟩
 |int =>
  cases h' with
  |Hs=>show⟨.int_none _ _,.int_none _ _⟩
  |bl=>show⟨.int_bool _ _ _,.int_bool _ _ _⟩
  |int=>show⟨.int_int _ _ _ _,.int_int _ _ _ _⟩
  |str=>show⟨.int_str _ _ _ _,.int_str _ _ _ _⟩
  |tup c k' d b=>show⟨.int_tuple _ _ b a,.int_tuple _ _ b a⟩
  |lst c k' d b=>show⟨.int_list _ _ b a,.int_list _ _ b a⟩
 |str =>
  cases h' with
  |Hs=>show⟨.str_none _ _,.str_none _ _⟩
  |bl=>show⟨.str_bool _ _ _,.str_bool _ _ _⟩
  |int=>show⟨.str_int _ _ _ _,.str_int _ _ _ _⟩
  |str=>show⟨.str_str _ _ _ _,.str_str _ _ _ _⟩
  |tup c k' d b=>show⟨.str_tuple _ _ b a,.str_tuple _ _ b a⟩
  |lst c k' d b=>show⟨.str_list _ _ b a,.str_list _ _ b a⟩
 |tup l k y p =>
  cases h' with
  |Hs=>show⟨.tuple_none p a,.tuple_none p a⟩
  |bl=>show⟨.tuple_bool _ p a,.tuple_bool _ p a⟩
  |int=>show⟨.tuple_int _ _ p a,.tuple_int _ _ p a⟩
  |str=>show⟨.tuple_str _ _ p a,.tuple_str _ _ p a⟩
  |tup c k' d b=>rw[show cI (.tup _) (.tup _)=_ from Fh l c];show⟨.tuples p b a (go rfl k k'),.tuples p b a (go rfl k k')⟩
  |lst c k' d b=>show⟨.tuple_list p b a,.tuple_list p b a⟩
 |lst l k y p =>
  cases h' with
  |Hs=>show⟨.list_none p a,.list_none p a⟩
  |bl=>show⟨.list_bool _ p a,.list_bool _ p a⟩
  |int=>show⟨.list_int _ _ p a,.list_int _ _ p a⟩
  |str=>show⟨.list_str _ _ p a,.list_str _ _ p a⟩
  |tup c k' d b=>show⟨.list_tuple p b a,.list_tuple p b a⟩
  |lst c k' d b =>
   rename_i us _ _ ws _ _;by_cases q:us.length=ws.length
   .rw[show cI (.lst us) (.lst ws)=_ from fS q,l,<-hE];show⟨.lists p b (by simp;lia) a (go rfl k k'),.lists p b (by simp;lia) a (go rfl k k')⟩
   .rw[show cI (.lst us) (.lst ws)=cK from je q];show⟨.lists_lengths p b (by simp;lia) a,.lists_lengths p b (by simp;lia) a⟩
def Fi:∀{n:Nat}{u w:U}{x a:dV}{A:MN},Ia s n u x->Ia s n w a->A.units+n<Kx->Rk A s x a (cI u w):=by
 intro n;induction n with
 |zero=>intro u w x a A h h' b;show tJ h (RX (λm e=>by cases e) h h' b).1 λe=>by subst e;rw[h.inj h'];show h'.self
 |succ n c=>intro u w x a A h h' b;show tJ h (RX (λm e=>by cases e;show c) h h' b).1 λe=>by subst e;rw[h.inj h'];show h'.self
def Fj(h:Ia s n u x)(h':Ia s n w a)(b:A.units+n<Kx):X0 A s x a (cI u w)/\Y5 A s x a (!cI u w):=RX (λm e=>by cases e;show Fi) h h' b
end
end TM
namespace TM
open PySem L2 PyProof.Rows
abbrev Ht(C:Ct)(m:M (Kd×U)):TE:=λσ H Q=>∃c0:Cf,c0.σ=σ/\c0.H=H/\Ok C c0/\W m c0.st λr st'=>∀c v,c.σ=σ->c.st=st'->Ok C c->Nx c0 c->aQ C c0 c r.1 r.2 v->Q v c.H
abbrev IW(C:Ct)(m:M Bool):TT:=λσ H Q=>∃c0:Cf,c0.σ=σ/\c0.H=H/\Ok C c0/\W m c0.st λb st'=>∀c,c.σ=σ->c.st=st'->Ok C c->Nx c0 c->Q b c.H
def bZ(C:Ct)(c0 c:Cf):List (Kd×U)->List V->Prop
 |[],vs=>vs=[]
 |r::rs,vs=>∃v t,vs=v::t/\fP C c0 c r.1 r.2 v/\bZ C c0 c rs t/\(r.1=.own->∀(i:Nat) a b,rs[i]?=bD a->t[i]?=bD b->a.1=.own->b≠v)
abbrev IX(C:Ct)(m:M (List (Kd×U))):TA:=λσ H Q=>∃c0:Cf,c0.σ=σ/\c0.H=H/\Ok C c0/\W m c0.st λrs st'=>∀c vs,c.σ=σ->c.st=st'->Ok C c->Nx c0 c->bZ C c0 c rs vs->Q vs c.H
section
def PE.weak(h:PE X e t)(i:∀σ H Q,t' σ H Q->t σ H Q):PE X e t':=λa s σ H Q I q=>h a s σ H Q I (i σ H Q q)
def PT.weak(h:PT X e t)(i:∀σ H Q,t' σ H Q->t σ H Q):PT X e t':=λa s σ H Q I q=>h a s σ H Q I (i σ H Q q)
def cJ{st:au}:W (aE rs) st Q↔bq rs st/\Q () st:=by
 constructor
 .rintro⟨a,st',e,h⟩;unfold aE at e;split at e
  .cases e;show⟨by assumption,h⟩
  .cases e
 .rintro⟨b,c⟩;show⟨(),st,by unfold aE;rw[Z6 b],c⟩
def gf{st:au}:bq (r::rs) st↔bq [r] st/\bq rs st:=by
 have⟨k,u⟩:=r;cases k<;>simp[bq]
def fP.t(h:fP C c0 c k u v)(s:bq [(k,u)] c.st):aQ C c0 c k u v:=by
 cases k with
 |bor j=>show⟨s.1,h⟩
 |_=>show h
structure OJ(C:Ct)(c0 c:Cf)(x y:Kd×U)(vx vy:V):Prop where
 hσ:c.σ=c0.σ
 ok:Ok C c
 nx:Nx c0 c
 rx:aQ C c0 c x.1 x.2 vx
 ry:aQ C c0 c y.1 y.2 vy
 ne:x.1=.own->y.1=.own->vy≠vx
def oq(h:fP C c0 c1 k u v)(h':fP C c1 c k' u' b):k=.own->k'=.own->b≠v:=by
 rintro rfl rfl e;obtain⟨r,d,_,_,_,f⟩:=h;obtain⟨i,g,a,_⟩:=h';obtain⟨o,ho,_⟩:=f.some;subst d;rw[g]at e;cases e;rw[ho]at a;cases a
def two{k:Kd×U->Kd×U->M β}{m:β->au->Prop}{f:dV->dV->Sem α}{Q':dV->dV->α->gs->Prop}(N:PE X a (Ht C O))(Q:PE X b (Ht C z))(I:Inv X d c0.σ c0.H s)(T:Ok C c0)
  (h:W (O >>= λx=>z >>= λy=>aE [x,y] >>= λ_=>k x y) c0.st m)
  (Y:∀x y c e i v u s2,OJ C c0 c x y e i->Inv X d c.σ c.H s2->RelV e v->RelV i u->W (k x y) c.st m->et (hH X.prog X.w) X.A (f v u) (Q' v u) X.xe s2) :
  et (hH X.prog X.w) X.A (wk a X.env) (λv s₁=>et (hH X.prog X.w) X.A (wk b X.env) (λu s₂=>et (hH X.prog X.w) X.A (f v u) (Q' v u) X.xe s₂) X.xe s₁) X.xe s:=by
 rw[ah]at h;show Hu (N d s c0.σ c0.H (λe B=>∃x c1,c1.H=B/\c1.σ=c0.σ/\Ok C c1/\Nx c0 c1/\aQ C c0 c1 x.1 x.2 e/\W (z >>= λy=>aE [x,y] >>= λ_=>k x y) c1.st m) I ⟨c0,rfl,rfl,T,h.mono λx st1 n c1 e o e2 p q r=>⟨x,c1,rfl,o,p,q,r,by rw[e2];show n⟩⟩) ?_;rintro v s1 ⟨e,B,I1,rv,x,c1,rfl,o,p,q,r,n⟩;rw[ah]at n;show Hu (Q d s1 c0.σ c1.H (λi D=>∃y g,g.H=D/\OJ C c0 g x y e i/\W (k x y) g.st m) I1 ⟨c1,o,rfl,p,n.mono λy st2 j g i G e4 HP J L=>?_⟩) ?_
 .rw[ah,cJ]at j;subst e4;rw[gf]at j;show⟨y,g,rfl,⟨G,HP,q.trans J,(r.w.on p J (G.trans o.symm)).t j.1.1,(L.from q),oq r.w L.w⟩,j.2⟩
 .rintro u s2 ⟨i,D,I2,ru,y,g,rfl,l,j⟩;have hs:g.σ=c0.σ:=l.hσ;show Y x y g e i v u s2 l (by rw[hs];show I2) rv ru j
structure LV(C:Ct)(c0 c:Cf)(x:Kd×U)(vx:V):Prop where
 hσ:c.σ=c0.σ
 ok:Ok C c
 nx:Nx c0 c
 rx:aQ C c0 c x.1 x.2 vx
def one{k:Kd×U->M β}{e:β->au->Prop}{f:dV->Sem α}{Q':α->gs->Prop}(l:PE X a (Ht C m))(I:Inv X b c0.σ c0.H s)(n:Ok C c0)
  (h:W (m >>= λx=>k x) c0.st e)
  (o:∀x c d v s2,LV C c0 c x d->Inv X b c.σ c.H s2->RelV d v->W (k x) c.st e->et (hH X.prog X.w) X.A (f v) Q' X.xe s2) :
  et (hH X.prog X.w) X.A (wk a X.env) (λv p=>et (hH X.prog X.w) X.A (f v) Q' X.xe p) X.xe s:=by
 rw[ah]at h;show Hu (l b s c0.σ c0.H (λd i=>∃x c1,c1.H=i/\LV C c0 c1 x d/\W (k x) c1.st e) I ⟨c0,rfl,rfl,n,h.mono λx st1 g c1 d q r t u y=>⟨x,c1,rfl,⟨q,t,u,y⟩,by rw[r];show g⟩⟩) ?_;rintro v s1 ⟨d,i,z,rv,x,c1,rfl,j,g⟩;show o x c1 d v s1 j (by rw[j.hσ];show z) rv g
abbrev cw(C:Ct)(c0:Cf)(Q:VK)(r:Kd×U)(st':au):Prop:=∀c v,c.σ=c0.σ->c.st=st'->Ok C c->Nx c0 c->aQ C c0 c r.1 r.2 v->Q v c.H
section
def cw.flat(h:cw C c0 Q (.loc,u) c.st)(a:c.σ=c0.σ)(b:Ok C c)(n:Nx c0 c)(r:Rep C c.S c.H u v):Q v c.H:=h c v a rfl b n r
def cw.list(h:cw C c0 Q (.own,.lst us) c.st)(a:c.σ=c0.σ)(b:Ok C c)(n:Nx c0 c)(r:aq C c.S c.H us vs)(p:hA)(d:c.H p=cb):Q (.ref p) (upd c.H p (.lst vs)):=by
 have⟨e,f,g⟩:=b.newList n d r;show h {c with H:=upd c.H p (.lst vs)} _ a rfl e f g
def cw.tup(h:cw C c0 Q (.loc,.tup us) c.st)(a:c.σ=c0.σ)(b:Ok C c)(n:Nx c0 c)(r:aq C c.S c.H us vs)(p:hA)(d:c.H p=cb):Q (.ref p) (upd c.H p (.tup vs)):=by
 have⟨e,f,g⟩:=b.Df n d r;show h {c with H:=upd c.H p (.tup vs)} _ a rfl e f g
def cw.tupK(h:cw C c0 Q (kE k,.tup us) c.st)(d:c.σ=c0.σ)(a:Ok C c)(n:Nx c0 c)(r:aq C (SK C c k) c.H us vs)(p:hA)(e:c.H p=cb):Q (.ref p) (upd c.H p (.tup vs)):=by
 have⟨f,b⟩:=a.lay (o:=.tup vs) e;show h {c with H:=upd c.H p (.tup vs)} _ d rfl f (n.trans b) (aQ.item ?_);cases k<;>show⟨p,vs,rfl,Ie.of ax,by first|show r.mv (a.LP b)|show r.mv (a.mv b)⟩
def eS(h:fQ k us=b6)(r:aq C (SK C c k) c.H us vs):aq C c.S c.H us vs:=by
 cases k with
 |any=>show r.HM (by simpa[fQ,isAny] using h)
 |_=>show r
end
def Dr(k k':Kd):∀a,SK C c k a->SK C c (kT k k') a:=by
 intro a h;cases k<;>cases k'<;>first|show h|show .inr h
def Al(k k':Kd):∀a,SK C c k' a->SK C c (kT k k') a:=by
 intro a h;cases k<;>cases k'<;>first|show h|show .inr h
def Fm(k k':Kd):kE (kT k k')=kT k k':=by cases k<;>cases k'<;>rfl
def Am:Jn X (Nh .Add) (λx y H Q=>∃l b xs c,x=.ref l/\y=.ref b/\HX X.K H l xs/\HX X.K H b c/\xs.length+c.length<=df/\∀p,H p=cb->Q (.ref p) (upd H p (.lst (xs++c)))):=by
 intro f s σ H x y v u Q I o t h;have⟨l,b,xs,c,rfl,rfl,w,A,hz,q⟩:=h;cases o;cases t;have⟨d,r,B,z⟩:=I.list w;have⟨e,g,C,T⟩:=I.list A;have hl:=r.length;have K3:=g.length;obtain⟨⟨cls,D,data,G⟩,ho,i,n,j⟩:=B.isList;obtain⟨⟨Y,J,data2,L⟩,k,m,N,a⟩:=C.isList;simp only at i j m a;subst i j m a;show Vu ⟨_,ho,rfl⟩ ⟨_,k,rfl⟩ noFill_list_add seq_list_add PySem.F.slot_list_add PySem.F.entry_list_add (PySem.F.args_list_add_2 _ _)
   (list_addW l b d.toArray e.toArray n N D J G L (by rw[hE,hE];lia)) ⟨ho,k,?_⟩
 have O:d.toArray++e.toArray=(d++e).toArray:=by simp
 rw[O];show⟨.ref _,_,I.GY (t':=s.toks) (r.append g) (by rw[i0];lia),rfl,q _ I.fresh⟩
end
section
variable{X:Cx}{C:Ct}{pins:List (hA×Obj)}{s:gs}{c0 c:Cf}{Q:VK}
def xw:Jn X (Nh .Add) (λx y H Q=>∃a b e,x=.ref a/\y=.ref b/\Ie X.K H a []/\Ie X.K H b e/\Q (.ref b) H):=by
 intro pins s σ H x y v u Q I k l h;have⟨a,b,e,rfl,rfl,m,o,q⟩:=h;cases k;cases l;obtain⟨G,p,r,_⟩:=I.tuple m;obtain⟨t,J,p2,_⟩:=I.tuple o;cases p;obtain⟨⟨cls,w,data,z⟩,ho,f,n,g⟩:=id r;obtain⟨⟨L,A,data2,B⟩,i,j,D,d⟩:=id p2;simp only at f g j d;subst f g j d;show Vu ⟨_,ho,rfl⟩ ⟨_,i,rfl⟩ V9 XX PySem.F.slot_tuple_add PySem.F.entry_tuple_add (PySem.F.args_tuple_add_2 _ _)
   (tuple_addW0 a b _ t.toArray n D w A z B (by rfl)) ⟨ho,i,.ref b,H,I,rfl,q⟩
abbrev PQ.op:PQ->YH
 |.add=>.Add|.sub=>.Sub|.mul=>.Mult|.MP=>.FloorDiv|.mod=>.Mod|.pow=>.Pow
def eT(h:rp f a b=bD r):∃i j o,a=.int i/\b=.int j/\f i j=bD o/\r=(.loc,.int o):=by
 unfold rp at h;split at h
 .rw[eH]at h;have⟨o,e,rfl⟩:=h;show⟨_,_,o,rfl,rfl,e,rfl⟩
 .cases h
def Ds(Y:C.K=X.K)(t:OJ C c0 c x y g l)(I:Inv X pins c.σ c.H s)(z:RelV g v)(B:RelV l u)(h:Kl op x y=bD r)(q:cw C c0 Q r c.st):
  et (hH X.prog X.w) X.A (Nh op.op v u) (EP X pins c.σ Q) X.xe s:=by
 obtain⟨m,d,n,D,G,_⟩:=t;cases op with
 |add =>
  have h:xo x y=bD r:=h;unfold xo at h;split at h
  .have ex:=D.int d;have e:=G.int d;cases h;show cB pins s c.σ c.H g l v u Q I z B ⟨_,_,ex,e,q.flat m d n rfl⟩
  .have ex:=D.str d;have e:=G.str d;split at h
   .cases h;show qU pins s c.σ c.H g l v u Q I z B ⟨_,_,ex,e,by assumption,q.flat m d n rfl⟩
   .cases h
  .have⟨a,vs,ex,O,J⟩:=D.list d;have⟨b,ws,e,T,L⟩:=G.list d;split at h
   .rename_i N;cases h;show Am pins s c.σ c.H g l v u Q I z B ⟨a,b,vs,ws,ex,e,Y▸O,Y▸T,by rw[<-J.len,<-L.len];show N.1,λp hp=>q.list m d n ((eS N.2.1 J).append (eS N.2.2 L)) p hp⟩
   .cases h
  .rename_i k xs k' ys _ _;have⟨a,vs,ex,O,J⟩:=D.tuple d;have⟨b,ws,e,T,L⟩:=G.tuple d;have J_:=O;have Nv:=T;rw[Y]at J_ Nv;split at h
   .rename_i N;cases h;have m1:aq C (SK C c (kT k k')) c.H xs vs:=J.mv (.up (Dr k k'));have m2:aq C (SK C c (kT k k')) c.H ys ws:=L.mv (.up (Al k k'));have q':cw C c0 Q (kE (kT k k'),.tup (xs++ys)) c.st:=by rw[Fm];show q
    by_cases e1:vs=[]
    .subst e1;show xw pins s c.σ c.H g l v u Q I z B ⟨a,b,ws,ex,e,J_,Nv,?_⟩;show q' c (.ref b) m rfl d n (aQ.item ⟨b,ws,rfl,T,?_⟩);have:xs=[]:=by have:=m1.len;simpa using this
     rw[this];show m2
    .show zJ pins s c.σ c.H g l v u Q I z B ⟨a,b,vs,ws,ex,e,J_,Nv,e1,by rw[<-J.len,<-L.len];show N,λe2=>?_,λ_ p hp=>q'.tupK m d n (m1.append m2) p hp⟩;subst e2;show q' c (.ref a) m rfl d n (aQ.item ⟨a,vs,rfl,O,?_⟩);have:ys=[]:=by have:=m2.len;simpa using this
     rw[this,rr];show m1
   .cases h
  .cases h
 |sub =>
  have⟨i,j,o,ex,e,f,rfl⟩:=eT h;have ex:=(ex▸D).int d;have e:=(e▸G).int d;cases f;show qS pins s c.σ c.H g l v u Q I z B ⟨_,_,ex,e,q.flat m d n rfl⟩
 |mul =>
  have⟨i,j,o,ex,e,f,rfl⟩:=eT h;have ex:=(ex▸D).int d;have e:=(e▸G).int d;unfold Ab at f;split at f
  .cases f;show kf pins s c.σ c.H g l v u Q I z B ⟨_,_,ex,e,by assumption,q.flat m d n rfl⟩
  .cases f
 |MP =>
  have⟨i,j,o,ex,e,f,rfl⟩:=eT h;have ex:=(ex▸D).int d;have e:=(e▸G).int d;unfold Ac at f;split at f
  .cases f;show zC pins s c.σ c.H g l v u Q I z B ⟨_,_,ex,e,by assumption,q.flat m d n rfl⟩
  .cases f
 |mod =>
  have⟨i,j,o,ex,e,f,rfl⟩:=eT h;have ex:=(ex▸D).int d;have e:=(e▸G).int d;unfold Ad at f;split at f
  .cases f;show eF pins s c.σ c.H g l v u Q I z B ⟨_,_,ex,e,by assumption,q.flat m d n rfl⟩
  .cases f
 |pow =>
  have⟨i,j,o,ex,e,f,rfl⟩:=eT h;have ex:=(ex▸D).int d;have e:=(e▸G).int d;unfold Ae at f;split at f
  .cases f;show nG pins s c.σ c.H g l v u Q I z B ⟨_,_,ex,e,by assumption,q.flat m d n rfl⟩
  .cases f
def An(d:C.K=X.K)(f:PE X a (Ht C g))(i:PE X b (Ht C j)):PE X (.BinOp a k.op b pos) (Ht C (g >>= λx=>j >>= λy=>aE [x,y] >>= λ_=>M.HG (Kl k x y))):=by
 rintro pins s σ H Q I ⟨c0,rfl,rfl,l,h⟩;show wpAny_BinOp (two f i I l h λx y c p A v u s2 t m n o w=>?_);have⟨r,e,q⟩:=cj.mp w;show Hu (Ds d t m n o e q) λ_ _ z=>by rw[t.hσ]at z;show z
abbrev OI.op:OI->CmpOp
 |.eq=>.Eq|.ne=>.NotEq|.lt=>.Lt|.le=>.LtE|.gt=>.Gt|.ge=>.GtE|.isin=>.In|.Hz=>.NotIn|.is=>.Is|.MQ=>.IsNot
def Fo{neg:Bool}(I:Inv X pins c.σ c.H s)(m:C.K=X.K)(N:X.A.units+60<Kx){S:hA->Prop}(o:Rep C S c.H x n)(r:RelV n v)(t:aq C S c.H i vs)
  (ha:HX C.K c.H a vs\/Ie C.K c.H a vs) (u:Jg 50 x=b6) (z:dr 50 i=b6) {Q:dV->gs->Prop} (q:Q (.bool (if neg then !(i.any λy=>cI y x) else i.any λy=>cI y x)) s) :
  et (hH X.prog X.w) X.A (Ll (if neg then .NotIn else .In) v (.ref a)) Q X.xe s:=by
 have B:=Ia.of I m 50 x n v u o r;have go:∀d:List dV,Vals vs d->∃e:dV->Bool,(∀y,y∈d.toArray->Rk X.A.in1 s y v (e y))/\d.toArray.any e=i.any λy=>cI y x:=by
  intro d rv;obtain⟨l,k,_⟩:=Ia.Ak (Ia.of I m 50) z t rv
  classical
  have q:∀j (b:j<d.length),cc (∃w,Ia s 50 w d[j]/\cI w x=b6)=cI (i.getD j .Hs) x:=λj b=>by
   rw[Jk,decide_eq_true_iff];show⟨λ⟨w,f,g⟩=>by rw[<-f.inj (k j b)];show g,λh=>⟨_,k j b,h⟩⟩
  show⟨λy=>cc (∃w,Ia s 50 w y/\cI w x=b6),λy D=>?_,?_⟩
  .have⟨j,b,e⟩:=P9 (show y∈d by simpa using D);subst e;change Rk _ _ _ _ (decide _);rw[q j b];show Fi (k j b) B (by change X.A.units+1+50 < _;lia)
  .rw[Jk];simp only[List.any_toArray,UB];constructor
   .rintro⟨y,G,h⟩;have⟨j,b,rfl⟩:=P9 G;rw[q j b]at h;show⟨_,J4 (l▸b),by simpa[l▸b] using h⟩
   .rintro⟨w,J,L⟩;have⟨j,b,rfl⟩:=P9 J;show⟨_,J4 (l▸b),by rw[q j (l▸b)];simpa[b] using L⟩
 rcases ha with ha|ha
 .obtain⟨d,rv,p,_⟩:=tI I (m▸ha);have⟨e,f,g⟩:=go d rv;cases neg with
  |false=>show SeqAt.in_listAt e p f (by rw[g];show q)
  |true=>show SeqAt.notIn_listAt e p f (by rw[g];show q)
 .rw[m]at ha;obtain⟨d,rv,p,_⟩:=I.tuple ha;have⟨e,f,g⟩:=go d rv;cases neg with
  |false=>show SeqAt.in_tupleAt e p f (by rw[g];show q)
  |true=>show SeqAt.notIn_tupleAt e p f (by rw[g];show q)
end
section
theorem cP:∀{us:List U}{a:List Str},strsOf us=bD a->us=a.map .str
 |[],a,h=>by cases h;rfl
 |.str x::us,a,h=>by
  simp only[strsOf,eH]at h;have⟨t,b,rfl⟩:=h;rw[cP b];rfl
 |.Hs::_,_,h=>by cases h
 |.bl _::_,_,h=>by cases h
 |.int _::_,_,h=>by cases h
 |.tup _::_,_,h=>by cases h
 |.lst _::_,_,h=>by cases h
 |.Hn _ _::_,_,h=>by cases h
theorem jA:∀{us:List U}{ns:List Int},intsOf us=bD ns->us=ns.map .int
 |[],ns,h=>by cases h;rfl
 |u::us,ns,h=>by
  cases u<;>first|(cases h;done)|skip
  rename_i x;have h':(intsOf us).map (x::·)=bD ns:=h;rw[eH]at h';have⟨ms,e,rfl⟩:=h';rw[jA e];rfl
theorem aq.ints{S:hA->Prop}:∀{ns:List Int}{vs:List V},aq C S H (ns.map .int) vs->vs=ns.map V.int
 |[],vs,h=>h
 |n::ns,vs,h=>by
  have⟨v,r,rfl,a,b⟩:=h;rw[aq.ints b];have:v=.int n:=a;rw[this];rfl
theorem g_:∀{us:List U}{a:List Bool},fR us=bD a->us=a.map .bl
 |[],a,h=>by cases h;rfl
 |.bl x::us,a,h=>by
  simp only[fR,eH]at h;have⟨t,b,rfl⟩:=h;rw[g_ b];rfl
 |.Hs::_,_,h=>by cases h
 |.str _::_,_,h=>by cases h
 |.int _::_,_,h=>by cases h
 |.tup _::_,_,h=>by cases h
 |.lst _::_,_,h=>by cases h
 |.Hn _ _::_,_,h=>by cases h
theorem aq.RY{S:hA->Prop}:∀{xs:List Bool}{vs:List V},aq C S H (xs.map .bl) vs->vs=xs.map V.bl
 |[],vs,h=>h
 |x::xs,vs,h=>by
  have⟨v,r,rfl,a,b⟩:=h;rw[aq.RY b];have:v=.bl x:=a;rw[this];rfl
abbrev Dt(X:Cx)(a:List (hA×Obj))(c:Cf)(b:Bool)(v:dV)(s':gs):Prop:=v=.bool b/\Inv X a c.σ c.H s'
def fq(o:Jn X f r)(I:Inv X a c.σ c.H s)(g:RelV d v)(i:RelV e u)(h:r d e c.H λx H'=>x=.bl b/\H'=c.H):
  et (hH X.prog X.w) X.A (f v u) (Dt X a c b) X.xe s :=
 Hu (o a s c.σ c.H d e v u _ I g i h) λw s' j=>by
  have⟨z,H',k,r,l,m⟩:=j;subst l m;show⟨r,k⟩
def aQ.dict(g:Ok C c)(h:aQ C c0 c k (.Hn ks us) v):∃a kvs,v=.ref a/\c.H a=bD (.dK kvs)/\kvs.map (·.1)=ks.map kr/\aq C (SK C c k) c.H us (kvs.map (·.2)):=by
 cases k with
 |own=>obtain⟨r,e,_,_,_,kvs,b,d,f⟩:=h;show⟨r,kvs,e,b,d,f⟩
 |bor j=>obtain⟨r,e,_,_,_,kvs,b,d,f⟩:=g.rootOf h.1 h.2;show⟨r,kvs,e,b,d,f⟩
 |io=>show h.elim
 |Hl=>show h.elim
 |_=>obtain⟨a,e,_,kvs,b,d,f⟩:=h;show⟨a,kvs,e,b,d,f⟩
theorem dN{S:hA->Prop}:∀{ks:List Str}{us:List U}{kvs:List (Key×V)},kvs.map (·.1)=ks.map kr->aq C S H us (kvs.map (·.2)) ->
  (∀u,dI ks us x=bD u->∃v,de kvs (kr x)=bD v/\Rep C S H u v)/\(de kvs (kr x)).isSome=cc (x∈ks)
 |[],us,kvs,a,b=>by
  have:kvs=[]:=by simpa using a
  subst this;show⟨λu h=>by cases us<;>simp[dI]at h,by simp[de]⟩
 |k::ks,us,[],a,b=>by simp at a
 |k::ks,[],p::kvs,a,b=>by simp[aq]at b
 |k::ks,j::us,p::kvs,a,b=>by
  have⟨v,r,e,d,f⟩:=b;rw[eh]at e;cases e;rw[eh,eh,LB]at a;have⟨g,i⟩:=dN (x:=x) a.2 f;by_cases hk:k=x
  .subst hk;show⟨λu h=>?_,?_⟩
   .simp[dI]at h;subst h;show⟨p.2,dP a.1,d⟩
   .rw[dP a.1];simp
  .have c:¬p.1=kr x:=by rw[a.1];intro z;show hk (Rt z)
   show⟨λu h=>?_,?_⟩
   .simp[dI,hk]at h;have⟨v,e,q⟩:=g u h;show⟨v,by rw[dQ c];show e,q⟩
   .rw[dQ c,i];simp[rz hk]
def Rep.mL{S:hA->Prop}(h:Rep C S H u v):cc (v=.Hs)=mL u:=by
 cases u with
 |Hs=>have:v=.Hs:=h;subst this;rfl
 |bl b=>have:v=.bl b:=h;subst this;rfl
 |int b=>have:v=.int b:=h;subst this;rfl
 |str b=>have:v=.str b:=h;subst this;rfl
 |Hn ks us=>obtain⟨a,rfl,_⟩:=h;rfl
 |_=>obtain⟨a,vs,rfl,_⟩:=h;rfl
def xx:Jn X (Ll .Is) (λx y H Q=>∃i j,x=.bl i/\y=.bl j/\Q (.bl (i==j)) H):=by
 intro a s σ H x y v u Q I b c h;have⟨i,j,rfl,rfl,q⟩:=h;cases b;cases c;cases i<;>cases j<;>show dt (nI I q rfl)
def rA:Jn X (Ll .IsNot) (λx y H Q=>∃i j,x=.bl i/\y=.bl j/\Q (.bl (!(i==j))) H):=by
 intro a s σ H x y v u Q I b c h;have⟨i,j,rfl,rfl,q⟩:=h;cases b;cases c;cases i<;>cases j<;>show dt (nI I q rfl)
def xy(hP:C.P=X.prog)(hw:C.w=X.w)(p:C.K=X.K)(J:X.A.units+60<Kx)(t:OJ C c0 c x y L O)(I:Inv X m c.σ c.H s)(f:RelV L v)(g:RelV O u)(h:bO Q x.2 y.2=bD b):
  et (hH X.prog X.w) X.A (Ll Q.op v u) (Dt X m c b) X.xe s:=by
 obtain⟨hσ,d,n,j,i,_⟩:=t;have⟨kx,T⟩:=x;have⟨ky,Y⟩:=y
 dsimp only at h j i
 have r:∀neg:Bool,∀q,Af T Y=bD q->et (hH X.prog X.w) X.A (Ll (if neg then .NotIn else .In) v u) (Dt X m c (if neg then !q else q)) X.xe s:=by
  intro neg q h;have D:=j.read d;have N:=i.read d;unfold Af at h;split at h
  .have⟨a,vs,rfl,o,B⟩:=N;cases g;unfold MS at h;split at h
   .rename_i l;cases h;show Fo I p J D f B (.inl o.sq) l.1 l.2 ⟨by cases neg<;>rfl,I⟩
   .cases h
  .have⟨a,vs,rfl,o,B⟩:=N;cases g;unfold MS at h;split at h
   .rename_i l;cases h;show Fo I p J D f B (.inr o) l.1 l.2 ⟨by cases neg<;>rfl,I⟩
   .cases h
  .cases h;have ex:L=_:=D;have⟨a,kvs,rfl,o,B,h3⟩:=i.dict d;cases g;subst ex;have hs:=λz:Str=>(dN (x:=z) B h3).2;cases neg with
   |false=>show Fb ⋯ I (fh.k (k:=kr _) o) f λs' G=>⟨by rw[hs];rfl,G⟩
   |true=>show sU ⋯ I (fh.k (k:=kr _) o) f λs' G=>⟨by rw[hs];rfl,G⟩
  .cases h
 unfold bO at h;split at h
 .split at h
  .rename_i l;cases h;show(Fj (n:=50) (.of I p _ _ _ _ l.1 (j.read d) f) (.of I p _ _ _ _ l.2 (i.read d) g) ⋯).1 _ _ _ _ ⟨rfl,I⟩
  .cases h
 .split at h
  .rename_i l;cases h;show(Fj (n:=50) (.of I p _ _ _ _ l.1 (j.read d) f) (.of I p _ _ _ _ l.2 (i.read d) g) ⋯).2 _ _ _ _ ⟨rfl,I⟩
  .cases h
 .cases h;show fq EZ I f g ⟨_,_,j.int d,i.int d,rfl,rfl⟩
 .cases h;show fq E1 I f g ⟨_,_,j.int d,i.int d,rfl,rfl⟩
 .cases h;show fq E2 I f g ⟨_,_,j.int d,i.int d,rfl,rfl⟩
 .show r cK b h
 .rw[eH]at h;have⟨q,o,rfl⟩:=h;show r b6 q o
 .cases h;have e:=i.Hs d;show fq CO I f g ⟨e,by rw[(j.read d).mL],rfl⟩
 .cases h;have e:=i.Hs d;show fq zD I f g ⟨e,by rw[(j.read d).mL],rfl⟩
 .cases h;show fq xx I f g ⟨_,_,j.bl d,i.bl d,rfl,rfl⟩
 .cases h;show fq rA I f g ⟨_,_,j.bl d,i.bl d,rfl,rfl⟩
 .cases h
def Ao(g:C.P=X.prog)(i:C.w=X.w)(j:C.K=X.K)(k:X.A.units+60<Kx)(l:PE X a (Ht C m))(n:PE X b (Ht C o))(p:Qi d.op b=cK):
  PE X (.Compare a [d.op] [b] pos) (Ht C (m >>= λx=>o >>= λy=>aE [x,y] >>= λ_=>M.HG (bO d x.2 y.2) >>= λc=>pure (.loc,.bl c))):=by
 rintro f s σ H Q I ⟨c0,rfl,rfl,B,h⟩;show wpAny_Compare1 (two l n I B h λx y c O T v u s2 t D G J w=>?_) p;rw[ah]at w;have⟨r,e,q⟩:=cj.mp w;rw[ao]at q;show Hu (xy g i j k t D G J e) λz s' L=>?_;have⟨e,N⟩:=L;subst e;show⟨.bl r,c.H,by rw[<-t.hσ];show N,rfl,q c (.bl r) t.hσ rfl t.ok t.nx rfl⟩
def Ap(i:C.P=X.prog)(j:C.w=X.w)(k:C.K=X.K)(l:X.A.units+60<Kx)(m:PE X a (Ht C n))(o:PE X b (Ht C p))(B:Qi g.op b=cK):
  PT X (.Compare a [g.op] [b] pos) (IW C (n >>= λx=>p >>= λy=>aE [x,y] >>= λ_=>M.HG (bO g x.2 y.2))):=by
 rintro d s σ H Q I ⟨c0,rfl,rfl,D,h⟩;show Yv (two (f:=λv u=>Ll g.op v u) (Q':=λ_ _ c s=>et (hH X.prog X.w) X.A (ZP c) (TP X d c0.σ Q) X.xe s) m o I D h λx y c T Y v u s2 t G J L w=>?_) B;have⟨r,e,q⟩:=cj.mp w;show Hu (xy i j k l t G J L e) λz s' N=>?_;have⟨e,O⟩:=N;subst e;show JC ⟨c.H,by rw[<-t.hσ];show O,q c t.hσ rfl t.ok t.nx⟩
end
section
abbrev Fp(C:Ct)(c0:Cf)(Q:Bool->Hp->Prop)(b:Bool)(st':au):Prop:=∀c,c.σ=c0.σ->c.st=st'->Ok C c->Nx c0 c->Q b c.H
def rB(a:c1.σ=c0.σ)(b:Ok C c1)(n:Nx c0 c1)(h:W m c1.st (cw C c0 Q)):Ht C m c0.σ c1.H Q :=
 ⟨c1,a,rfl,b,h.mono λr st c d v e f g i j=>c d v e f g (n.trans i) (j.from n)⟩
def xA(a:c1.σ=c0.σ)(b:Ok C c1)(n:Nx c0 c1)(h:W m c1.st (Fp C c0 Q)):IW C m c0.σ c1.H Q :=
 ⟨c1,a,rfl,b,h.mono λr st c d e f g i=>c d e f g (n.trans i)⟩
def aP(a:Ok C c0)(h:W (b >>= k) c0.st d)
  (hz:∀x c v,LV C c0 c x v->W (k x) c.st d->Z v c.H):Ht C b c0.σ c0.H Z:=by
 rw[ah]at h;show⟨c0,rfl,rfl,a,h.mono λx st1 e c1 f g i j l m=>hz x c1 f ⟨g,j,l,m⟩ (by rw[i];show e)⟩
def eU(a:Ok C c0)(h:W (d >>= k) c0.st e)
  (hz:∀b c,c.σ=c0.σ->Ok C c->Nx c0 c->W (k b) c.st e->Z b c.H):IW C d c0.σ c0.H Z:=by
 rw[ah]at h;show⟨c0,rfl,rfl,a,h.mono λx st1 f c1 g i j l=>hz x c1 g j l (by rw[i];show f)⟩
abbrev Fq(m:M (Kd×U))(x:Kd×U):M (Kd×U):=match x.2 with
 |.bl b6=>m
 |.bl cK=>pure (.loc,.bl cK)
 |_=>M.fail
abbrev Fs(x:Kd×U):M (Kd×U):=match x.2 with
 |.bl c=>pure (.loc,.bl !c)
 |_=>M.fail
def snd_and(g:PE X a (Ht C i))(j:PE X (.BoolOp .And (b::rest) pos) (Ht C l)):PE X (.BoolOp .And (a::b::rest) pos) (Ht C (i >>= Fq l)):=by
 show PE.weak (CB g j) ?_;rintro σ H Q ⟨c0,rfl,rfl,m,h⟩;show aP m h λx c v t w=>?_;have⟨k,u⟩:=x;have⟨f,d,n,r⟩:=t;unfold Fq at w;split at w
 .rename_i e
  dsimp only at e r
  subst e;show⟨b6,r.bl d,by rw[Z6 rfl];show rB f d n w⟩
 .rename_i e
  dsimp only at e r
  subst e;rw[ao]at w;show⟨cK,r.bl d,by rw[Z7 i6];show w c (.bl cK) f rfl d n rfl⟩
 .show(bf.mp w).elim
def Aq(d:PE X a (Ht C f)):PE X (.UnaryOp .Not a pos) (Ht C (f >>= Fs)):=by
 show PE.weak (CC d) ?_;rintro σ H Q ⟨c0,rfl,rfl,g,h⟩;show aP g h λx c v t w=>?_;have⟨k,u⟩:=x;have⟨i,b,n,r⟩:=t;unfold Fs at w;split at w
 .rename_i e
  dsimp only at e r
  subst e;rw[ao]at w;show⟨_,r.bl b,w c (.bl _) i rfl b n rfl⟩
 .show(bf.mp w).elim
def Ar(g:PT X d (IW C i))(j:PE X a (Ht C k))(l:PE X b (Ht C m)):PE X (.IfExp d a b pos) (Ht C (i >>= λp=>if p=b6 then k else m)):=by
 show PE.weak (wa g j l) ?_;rintro σ H Q ⟨c0,rfl,rfl,o,h⟩;show eU o h λp c e f n w=>?_;cases p with
 |true=>rw[Z6 rfl]at w ⊢;show rB e f n w
 |false=>rw[Z7 i6]at w ⊢;show rB e f n w
def As(d:PT X a (IW C e)):PT X (.UnaryOp .Not a pos) (IW C (e >>= λb=>pure !b)):=by
 show PT.weak (Cz d) ?_;rintro σ H Q ⟨c0,rfl,rfl,f,h⟩;show eU f h λp c g i n w=>?_;rw[ao]at w;show w c g rfl i n
def Au(g:PT X a (IW C i))(j:PW X (.BoolOp .And (b::rest) pos) (IW C k)):PW X (.BoolOp .And (a::b::rest) pos) (IW C (i >>= λp=>if p=b6 then k else pure cK)):=by
 have l:=Cy g j;rintro m d s σ H Q I ⟨c0,rfl,rfl,o,h⟩;show l m d s c0.σ c0.H Q I (eU o h λp c e f n w=>?_);cases p with
 |true=>rw[Z6 rfl]at w ⊢;show xA e f n w
 |false=>rw[Z7 i6]at w ⊢;rw[ao]at w;show w c e rfl f n
def Du(g:PT X a (IW C i))(j:PW X (.BoolOp .Or (b::rest) pos) (IW C k)):PW X (.BoolOp .Or (a::b::rest) pos) (IW C (i >>= λp=>if p=b6 then pure b6 else k)):=by
 have l:=EK g j;rintro m d s σ H Q I ⟨c0,rfl,rfl,o,h⟩;show l m d s c0.σ c0.H Q I (eU o h λp c e f n w=>?_);cases p with
 |true=>rw[Z6 rfl]at w ⊢;rw[ao]at w;show w c e rfl f n
 |false=>rw[Z7 i6]at w ⊢;show xA e f n w
def tK{us:List α}{vs:List β}(h:us.length=vs.length):(!us.isEmpty)=!vs.isEmpty:=by
 cases us<;>cases vs<;>simp_all
def jX(j:PE X a (Ht C l))(i:C.K=X.K)(m:∀b,isTrue a X.env b=(do let v <-b;W6 a.pos;LY [v] (ZP v))):PT X a (IW C (l >>= λx=>M.HG (rq x.2))):=by
 show PT.weak (wu j m) ?_;rintro σ H Q ⟨c0,rfl,rfl,o,h⟩;show aP o h λx c v t w=>?_;have⟨k,u⟩:=x;have⟨s,d,n,r⟩:=t;have⟨p,e,q⟩:=cj.mp w
 dsimp only at e r
 show⟨p,?_,q c s rfl d n⟩;unfold rq at e;split at e
 .cases e;rw[r.bl d];rfl
 .cases e;have⟨a,vs,rfl,f,g⟩:=r.list d;show .inl ⟨vs,i▸f,tK g.len⟩
 .cases e;have⟨a,vs,rfl,f,g⟩:=r.tuple d;rw[i]at f;show .inr (.inl ⟨vs,f,tK g.len⟩)
 .split at e
  .cases e;rw[r.str d];show⟨by assumption,rfl⟩
  .cases e
 .cases e
end
section
def bZ.from(n:Nx c0 c1):bZ C c1 c rs vs->bZ C c0 c rs vs:=by
 intro h;induction rs generalizing vs with
 |nil=>show h
 |cons r rs a=>have⟨v,t,e,b,d,f⟩:=h;show⟨v,t,e,b.from n,a d,f⟩
def bZ.get{i:Nat}(h:bZ C c0 c rs vs)(e:rs[i]?=bD r)(a:vs[i]?=bD v):fP C c0 c r.1 r.2 v:=by
 induction rs generalizing vs i with
 |nil=>simp at e
 |cons g rs b =>
  have⟨j,t,rfl,d,f,k⟩:=h;cases i with
  |zero=>simp at e a;subst e a;show d
  |succ i=>show b f (by simpa using e) (by simpa using a)
def Av:PA X [] (IX C (pure [])):=by
 rintro pos a s σ H Q I ⟨c0,rfl,rfl,b,h⟩;rw[ao]at h;show iX pos a s c0.σ c0.H Q I (h c0 [] rfl rfl b (Nx.refl c0) rfl)
def xB(g:PE X e (Ht C m))(j:PA X es (IX C ms))(hs:i2 (e::es) X.env=(cK,wk e X.env)::i2 es X.env):PA X (e::es) (IX C (m >>= λr=>ms >>= λrs=>pure (r::rs))):=by
 rintro pos a s σ H Q I ⟨c0,rfl,rfl,k,h⟩;show ff g j hs pos a s c0.σ c0.H Q I (aP k h λr c1 v t w=>?_);rw[ah]at w;show⟨c1,t.hσ,rfl,t.ok,w.mono λrs st2 b l vs c n o d f=>?_⟩;rw[ao]at b;show b l (v::vs) c n o (t.nx.trans d) ⟨v,vs,rfl,t.rx.w.on t.ok d (c.trans t.hσ.symm),f.from t.nx,λhk i x y p q u=>?_⟩;show oq t.rx.w (f.get p q) hk u
structure J'(C:Ct)(c0 c:Cf)(rs:List (Kd×U))(vs:List V):Prop where
 hσ:c.σ=c0.σ
 ok:Ok C c
 nx:Nx c0 c
 rep:bZ C c0 c rs vs
 MV:bq rs c.st
def args{k:List (Kd×U)->M β}{b:β->au->Prop}(f:PA X es (IX C ms))(I:Inv X a c0.σ c0.H s)(g:Ok C c0)(h:W (ms >>= λrs=>aE rs >>= λ_=>k rs) c0.st b)(pos:Pos):
  et (hH X.prog X.w) X.A (Zg (x2 pos (i2 es X.env))) (λus s1=>∃rs c vs,J' C c0 c rs vs/\Inv X a c.σ c.H s1/\Vals vs us/\W (k rs) c.st b) X.xe s:=by
 rw[ah]at h;show Hu (f pos a s c0.σ c0.H (λvs e=>∃rs c,c.H=e/\J' C c0 c rs vs/\W (k rs) c.st b) I ⟨c0,rfl,rfl,g,h.mono λrs st1 d c1 vs i j l m n=>?_⟩) ?_
 .rw[ah,cJ]at d;subst j;show⟨rs,c1,rfl,⟨i,l,m,n,d.1⟩,d.2⟩
 .rintro us s1 ⟨vs,e,o,rv,rs,c1,rfl,t,w⟩;show⟨rs,c1,vs,t,by rw[t.hσ];show o,rv,w⟩
def J'.one(t:J' C c0 c [r] vs):∃v,vs=[v]/\aQ C c0 c r.1 r.2 v:=by
 obtain⟨v,t',rfl,a,b,_⟩:=t.rep;cases b;show⟨v,rfl,a.t t.MV⟩
def Ok.share(b:Ok C c)(g:C.H₀ r=cb)(h:∃o,c.H r=bD o)(hl:st'.length=c.st.length)
  (d:∀(i:Nat) k u,st'[i]?=bD (bD (k,u))->(∃v,c.σ[i]?=bD (bD v)/\eI C (λa=>c.S a\/a=r) c.H k u v)/\(k.root=b6->c.st[i]?=bD (bD (k,u)))) (l:KA C {c with S:=λa=>c.S a\/a=r,st:=st' }) :
  Ok C {c with S:=λa=>c.S a\/a=r,st:=st' }:=by
 show⟨b.same,λa z=>?_,b.par,b.io,by rw[show({c with S:=λa=>c.S a\/a=r,st:=st' }:Cf).st.length=st'.length from rfl,hl];show b.len,λi k u e=>(d i k u e).1,λi j k k' u u' m hk f n p q s=>?_,l⟩
 .rcases z with z|rfl
  .show b.JA a z
  .show⟨g,h⟩
 .show b.inj i j k k' u u' m hk f ((d i k u n).2 hk) ((d j k' u' p).2 f) q s
def Ok.Dv(p:Ok C c0)(b:Ok C c)(n:Nx c0 c)(d:c0.H r=cb)(f:¬c.R r)(s:cW C c.S c.H r u):
  Ok C {c with S:=λa=>c.S a\/a=r}/\Nx c0 {c with S:=λa=>c.S a\/a=r}:=by
 obtain⟨o,ho,_⟩:=s.some;show⟨b.share (st':=c.st) (p.jP d).1 ⟨o,ho⟩ rfl (λi k u e=>⟨?_,λ_=>e⟩) (b.dd.hs (.up λa=>.inl) λj a z=>⟨λq=>q.elim (b.root (.inr ⟨j,z⟩)).1 λe=>f (.inr ⟨j,e▸z⟩),λo q=>q⟩),⟨⟨n.keep,n.there,n.roots,λa z=>.inl (n.sub a z),λa z=>?_⟩,n.dk⟩⟩
 .have⟨v,g,h⟩:=b.sl i k u e;have t:Mv c.S c.H (λa=>c.S a\/a=r) c.H:=.up λa=>.inl;show⟨v,g,h.mv t (.up λa z=>z.imp id .inl) λhk x l=>⟨?_,λo q=>q⟩⟩;obtain⟨y,m,w,_⟩:=h.rt hk;rw[l]at m;cases m;rintro(z|rfl)
  .show w z
  .show f (.inl ⟨i,k,u,hk,e,by rw[g,l]⟩)
 .rcases z with z|rfl
  .show n.new a z
  .show .inr (.inr d)
def Ok.xC(f:Ok C c)(n:Nx c0 c)(l:c.st[j]?=bD (bD (.own,u)))(m:c.σ[j]?=bD (bD (.ref r))):
  Ok C {c with S:=λa=>c.S a\/a=r,st:=c.st.set j (bD (.loc,u))}/\Nx c0 {c with S:=λa=>c.S a\/a=r,st:=c.st.set j (bD (.loc,u))}/\Rep C (λa=>c.S a\/a=r) c.H u (.ref r):=by
 have⟨T,b,g,p,Y,q2,G,A⟩:=f.sl j _ _ l;rw[m]at b;cases b;cases p;have B:Rep C (λa=>c.S a\/a=r) c.H u (.ref r):=A.rep (λa=>.inl) (.inr rfl);obtain⟨o,ho,_⟩:=A.some;have s:j<c.st.length:=(d3.mp l).1;have t:∀(i:Nat) k u',(c.st.set j (bD (.loc,u)))[i]?=bD (bD (k,u'))->i≠j->c.st[i]?=bD (bD (k,u')):=λi k u' e I=>by rw[i1 (rz I)]at e;show e
 have J:c.R1 r:=⟨j,.own,u,rfl,l,m⟩
 have w:∀(i:Nat) (u':U),(c.st.set j (bD (.loc,u)))[i]?=bD (bD (.Hl,u'))->c.st[i]?=bD (bD (.Hl,u')):=λi u' e=>by
  by_cases d:i=j
  .subst d;rw[ez s]at e;cases e
  .show t i .Hl u' e d
 have b1:∀a,({c with S:=λa=>c.S a\/a=r,st:=c.st.set j (bD (.loc,u))}:Cf).R1 a->c.R1 a:=λa L=>by
  have⟨i,k,u',hk,e,N⟩:=L;by_cases d:i=j
  .subst d;rw[ez s]at e;cases e;cases hk
  .show⟨i,k,u',hk,t i k u' e d,N⟩
 have O:KA C {c with S:=λa=>c.S a\/a=r,st:=c.st.set j (bD (.loc,u))}:=f.dd.of rfl (λi u' e=>⟨w i u' e,rfl⟩) (λa z=>.inl (b1 a z)) (.up λa=>.inl) λi a z=>⟨λq=>q.elim (f.root (.inr ⟨i,z⟩)).1 λe=>f.dd.d1 i a z (e▸J),λo q=>q⟩
 show⟨f.share (st':=c.st.set j (bD (.loc,u))) G ⟨o,ho⟩ (by simp) (λi k u' e=>?_) O,⟨⟨n.keep,n.there,λa z=>?_,λa z=>.inl (n.sub a z),λa z=>?_⟩,λa ⟨i,u',g,b,h,x⟩=>n.dk a ⟨i,u',g,w i u' b,h,x⟩⟩,B⟩
 .by_cases d:i=j
  .subst d;rw[ez s]at e;cases e;show⟨⟨.ref r,m,B⟩,λz=>nomatch z⟩
  .have y:=t i k u' e d;have⟨v,b,h⟩:=f.sl i k u' y;show⟨⟨v,b,h.mv (.up λa=>.inl) (.up λa z=>z.imp id .inl) λhk g p=>⟨?_,λo q=>q⟩⟩,λ_=>y⟩;obtain⟨OK,D,Q,_⟩:=h.rt hk;rw[p]at D;cases D;rintro(z|rfl)
   .show Q z
   .show d (f.inj i j k .own u' u g hk rfl y l (by rw[b,p]) m)
 .rcases z with z|⟨i,u',g,b,h,x⟩
  .show n.roots a (.inl (b1 a z))
  .show n.roots a (.inr ⟨i,u',g,w i u' b,h,x⟩)
 .rcases z with z|rfl
  .show n.new a z
  .rcases n.roots a (.inl ⟨j,.own,u,rfl,l,m⟩) with z|z
   .show .inr (.inl z)
   .show .inr (.inr z)
def gh(A:Ok C c0)(b:Ok C c)(n:Nx c0 c)(d:fP C c0 c r.1 r.2 v)(h:W (lift r) c.st B):
  ∃(S':hA->Prop) (st':au) (u:U),(∀a,c.S a->S' a)/\Ok C {c with S:=S',st:=st' }/\Nx c0 {c with S:=S',st:=st' }/\Rep C S' c.H u v/\B u st' /\
   (∀a,S' a->c.S a\/v=.ref a/\(r.1=.own\/c.R a))/\∀a,({c with S:=S',st:=st' }:Cf).R a->c.R a:=by
 have⟨k,u⟩:=r;cases k with
 |own =>
  rw[show lift (.own,u)=pure u from rfl,ao]at h;have⟨r,e,D,O,G,t⟩:=d;have⟨l,m⟩:=Ok.Dv A b n D G t;show⟨_,c.st,u,λa=>.inl,l,m,by rw[e];show t.rep (λa=>.inl) (.inr rfl),h,λa z=>?_,λa z=>z⟩;rcases z with z|rfl
  .show .inl z
  .show .inr ⟨e,.inl rfl⟩
 |loc =>
  rw[show lift (.loc,u)=pure u from rfl,ao]at h;show⟨c.S,c.st,u,λa=>id,b,n,d,h,λa z=>.inl z,λa z=>z⟩
 |any =>
  rw[show lift (.any,u)=if HM u=b6 then pure u else M.fail from rfl]at h;split at h
  .rw[ao]at h;show⟨c.S,c.st,u,λa=>id,b,n,Rep.HM (by assumption) d,h,λa z=>.inl z,λa z=>z⟩
  .show(bf.mp h).elim
 |bor j =>
  have⟨x,st',e,I⟩:=h;rw[show lift (.bor j,u) c.st=match c.st[j]? with|some (bD (.own,u))=>bD (Ex.ok u,c.st.set j (bD (.loc,u)))|_=>cb from rfl]at e;split at e
  .rename_i w f;cases e;obtain⟨Q,y,r,J,_⟩:=b.sl j _ _ f;have o:c.σ[j]?=bD (bD v):=d;rw[o]at y;cases y;subst J;have⟨l,m,p⟩:=b.xC n f o;show⟨_,_,_,λa=>.inl,l,m,p,I,λa z=>?_,λa z=>?_⟩
   .rcases z with z|rfl
    .show .inl z
    .show .inr ⟨rfl,.inr (.inl ⟨j,.own,_,rfl,f,o⟩)⟩
   .rcases z with⟨i,k,u',hk,e,q⟩|⟨i,u',L,e,q,N⟩
    rotate_left 1
    .by_cases g:i=j
     .subst g;have s:i<c.st.length:=(d3.mp f).1;rw[ez s]at e;cases e
     .rw[i1 (rz g)]at e;show .inr ⟨i,u',L,e,q,N⟩
    by_cases g:i=j
    .subst g;have s:i<c.st.length:=(d3.mp f).1;rw[ez s]at e;cases e;cases hk
    .rw[i1 (rz g)]at e;show .inl ⟨i,k,u',hk,e,q⟩
  .cases e
 |_=>show d.elim
theorem iF:∀{rs:List (Kd×U)}{vs:List V}{c:Cf}{f:List U->au->Prop},Ok C c0->Ok C c->Nx c0 c->bZ C c0 c rs vs->W (du rs) c.st f ->
  ∃(S':hA->Prop) (st':au) (us:List U),(∀a,c.S a->S' a)/\Ok C {c with S:=S',st:=st' }/\Nx c0 {c with S:=S',st:=st' }/\aq C S' c.H us vs/\f us st'
 |[],vs,c,f,m,p,n,s,h=>by
  rw[show du []=pure [] from rfl,ao]at h;show⟨c.S,c.st,[],λa=>id,p,n,s,h⟩
 |r::rs,vs,c,f,m,p,n,s,h=>by
  have⟨v,t,rfl,J,L,N⟩:=s;rw[show du (r::rs)=lift r >>= λu=>du rs >>= λus=>pure (u::us) from rfl,ah]at h;have⟨S1,st1,u,s1,O,Q,b,x,T,Y⟩:=gh m p n J h;rw[ah]at x;have OL:bZ C c0 {c with S:=S1,st:=st1} rs t:=by
   clear h x;have y:∀(l:List (Kd×U)) (w:List V),bZ C c0 c l w->(r.1=.own->∀(i:Nat) g j,l[i]?=bD g->w[i]?=bD j->g.1=.own->j≠v)->bZ C c0 {c with S:=S1,st:=st1} l w:=by
    intro l;induction l with
    |nil=>intro w q _;show q
    |cons r2 l ih =>
     intro w q A;have⟨B,D,rfl,k,q2,q3⟩:=q;show⟨B,D,rfl,?_,ih D q2 (λhk i g j e1 e2 Il=>A hk (i+1) g j (by simpa using e1) (by simpa using e2) Il),q3⟩;have⟨k2,u2⟩:=r2;cases k2 with
     |own =>
      have⟨a,e,p1,p2,G,p4⟩:=k;show⟨a,e,p1,λz=>?_,λz=>G (Y a z),p4.mv (.up s1) λo q=>q⟩;rcases T a z with z|⟨z,z'|z'⟩
      .show p2 z
      .show A z' 0 _ B rfl rfl rfl (e.trans z.symm)
      .show G z'
     |loc=>show Rep.mv (.up s1) k
     |any=>show Rep.mv (.up λa z=>z.imp id (s1 a)) k
     |_=>show k
   show y rs t L N
  have⟨S2,st2,us,s2,HP,n2,d,I⟩:=iF (c:={c with S:=S1,st:=st1}) m O Q OL x;rw[ao]at I;show⟨S2,st2,u::us,λa z=>s2 a (s1 a z),HP,n2,⟨v,t,rfl,b.mv (.up s2),d⟩,I⟩
def Aw(j:PA X es (IX C ms)):PE X (.Tuple es p pos) (Ht C (ms >>= λrs=>aE rs >>= λ_=>du rs >>= λus=>if us.length<=df then pure (.loc,.tup us) else M.fail)):=by
 rintro a s σ H Q I ⟨c0,rfl,rfl,g,h⟩;show wpAny_Tuple_spliced (Hu (args j I g h pos) λus s1 k=>?_);have⟨rs,c,vs,t,i,rv,w⟩:=k;rw[ah]at w;have⟨S',st',ws,q,l,m,d,f⟩:=iF g t.ok t.nx t.rep w;split at f
 .rename_i hz;rw[ao]at f;have hl:vs.length<=df:=by rw[<-d.len];show hz
  show⟨by rw[<-rv.length];show hl,?_⟩;have n:c.H s1.heap.objs.size=cb:=i.Hr.fresh (ix _);have o:Inv X a c0.σ c.H s1:=by rw[<-t.hσ];show i
  show⟨.ref s1.heap.objs.size,upd c.H s1.heap.objs.size (.tup vs),o.laid (t':=s1.toks) (λb u e=>c4 _ e) (ix _) ⟨hl,us,rv,Yo _ _⟩,rfl,?_⟩;show cw.tup (c:={c with S:=S',st:=st' }) f t.hσ l m d _ n
 .show(bf.mp f).elim
def Ax(j:PA X es (IX C ms)):PE X (.List es pos) (Ht C (ms >>= λrs=>aE rs >>= λ_=>du rs >>= λus=>if us.length<=df then pure (.own,.lst us) else M.fail)):=by
 rintro a s σ H Q I ⟨c0,rfl,rfl,g,h⟩;show wpAny_List_spliced (Hu (args j I g h pos) λus s1 k=>?_);have⟨rs,c,vs,t,i,rv,w⟩:=k;rw[ah]at w;have⟨S',st',ws,p,l,m,d,f⟩:=iF g t.ok t.nx t.rep w;split at f
 .rename_i hz;rw[ao]at f;have hl:vs.length<=df:=by rw[<-d.len];show hz
  show⟨by rw[<-rv.length];show hl,?_⟩;have n:c.H s1.heap.objs.size=cb:=i.Hr.fresh (ix _);have o:Inv X a c0.σ c.H s1:=by rw[<-t.hσ];show i
  show⟨.ref s1.heap.objs.size,upd c.H s1.heap.objs.size (.lst vs),o.laid (t':=s1.toks) (λb u e=>c4 _ e) (ix _) ⟨hl,us,0,rv,fx _ rfl⟩,rfl,?_⟩;show cw.list (c:={c with S:=S',st:=st' }) f t.hσ l m d _ n
 .show(bf.mp f).elim
end
section
def ot(d:X.N[i]?=bD x)(f:Js X.env.scope x)(g:(x==("__debug__":Str))=cK)(l:(x==("__classdict__":Str))=cK):PE X (.Name x pos) (Ht C (c_ i)):=by
 show PE.weak (b9 d f g l) ?_;rintro σ H Q ⟨c0,rfl,rfl,b,r,st',e,h⟩;unfold c_ at e;split at e
 .cases e
 .rename_i k u m hs;cases e;have⟨v,c,a⟩:=b.sl i k u hs;show⟨v,c,h c0 v rfl rfl b (Nx.refl c0) ?_⟩;by_cases hk:k.root=b6
  .rw[Z6 hk];show⟨⟨k,hk,hs⟩,c⟩
  .rw[Z7 hk];cases k with
   |loc=>show a
   |any=>show a
   |bor j=>show a.elim
   |Hl=>show(m rfl).elim
   |_=>show absurd rfl hk
 .cases e
def jY(h:PE X e (tC v))(r:∀S H,Rep C S H u v):PE X e (Ht C (pure (.loc,u))):=by
 show PE.weak h ?_;rintro σ H Q ⟨c0,rfl,rfl,a,h⟩;rw[ao]at h;show h c0 v rfl rfl a (Nx.refl c0) (r _ _)
def cw.root(h:cw C c0 Q (.own,u) c.st)(d:c.σ=c0.σ)(b:Ok C c)(n:Nx c0 c)(p:hA)(a:c.H p=cb)(r:cW C c.S (upd c.H p o) p u):Q (.ref p) (upd c.H p o):=by
 have⟨e,f⟩:=b.lay (o:=o) a;have⟨j,g,k,l,i⟩:=b.jP a;show h {c with H:=upd c.H p o} _ d rfl e (n.trans f) ⟨p,rfl,n.none a,g,i,r⟩
def xD(c:C.P=X.prog)(d:C.w=X.w)(r:Bool):PE X (.Dict [] [] pos) (Ht C (pure (.own,.Hn [] []))):=by
 show PE.weak pw ?_;rintro σ H Q ⟨c0,rfl,rfl,a,h⟩ p b;rw[ao]at h;show cw.root h rfl a (Nx.refl c0) p b ⟨[],ax,rfl,rfl⟩
def aq.Iv{S:hA->Prop}(h:aq C S H us vs)(e:Iv us i=bD u):∃v,L2.Iv vs i=bD v/\Rep C S H u v:=by
 unfold L2.Iv at e ⊢;rw[h.len]at e;cases q:KS vs.length i with
 |none=>rw[q]at e;cases e
 |some j =>
  rw[q]at e;show h.get e
def Dw(L:C.K=X.K)(N:X.A.units+60<Kx)(hs:nM b)(t:OJ C c0 c x y g j)(I:Inv X d c.σ c.H s)(o:RelV g v)(p:RelV j u)(h:gY x y.2=bD r)(q:cw C c0 Q r c.st):
  et (hH X.prog X.w) X.A (Ui a b v u) (EP X d c.σ Q) X.xe s:=by
 obtain⟨z,f,n,B,l,-⟩:=t;have⟨O,T⟩:=y
 dsimp only at h l
 unfold gY at h;split at h
 .rename_i k xs i;rw[eH]at h;have⟨w,e,rfl⟩:=h;have⟨a',vs,ex,m,D⟩:=B.list f;have⟨vw,G,J⟩:=D.Iv e;show zK a b d s c.σ c.H g j v u Q I o p ⟨a',vs,i,vw,ex,l.int f,L▸m,G,q c vw z rfl f n (aQ.item J)⟩ (hs _ _)
 .rename_i k xs i;rw[eH]at h;have⟨w,e,rfl⟩:=h;have⟨a',vs,ex,m,D⟩:=B.tuple f;have⟨vw,G,J⟩:=D.Iv e;rw[L]at m;show dc a b d s c.σ c.H g j v u Q I o p ⟨a',vs,i,vw,ex,l.int f,m,G,q c vw z rfl f n (aQ.item J)⟩ (hs _ _)
 .split at h
  .rw[eH]at h;have⟨w,e,rfl⟩:=h;show nN a b d s c.σ c.H g j v u Q I o p ⟨_,_,w,B.str f,l.int f,by assumption,e,q c _ z rfl f n rfl⟩ (hs _ _)
  .cases h
 .cases h
def Ay(f:C.K=X.K)(g:X.A.units+60<Kx)(hs:nM b)(i:PE X a (Ht C j))(k:PE X b (Ht C l)):PE X (.Subscript a b pos) (Ht C (j >>= λx=>l >>= λy=>aE [x,y] >>= λ_=>M.HG (gY x y.2))):=by
 rintro d s σ H Q I ⟨c0,rfl,rfl,m,h⟩;show Y9 (two i k I m h λx y c B D v u s2 t n o p w=>?_);have⟨r,e,q⟩:=cj.mp w;show Hu (Dw f g hs t n o p e q) λ_ _ z=>by rw[t.hσ]at z;show z
def aq.cut{S:hA->Prop}(h:aq C S H us vs)(lo a:Option Int):aq C S H (TM.cut us lo a) (uP vs lo a):=by
 unfold TM.cut uP;rw[h.len];show(h.drop _).take _
end
section
end
section
variable{X:Cx}{C:Ct}{pins:List (hA×Obj)}{s:gs}{c0 c c1:Cf}
variable{a b d e:mh}{es:List mh}{m ma mb md:M (Kd×U)}{ms:M (List (Kd×U))}{ta tb:M Bool}{pos p p2:Pos}
abbrev tO(C:Ct)(m:M (Option Int)):TO:=λσ H Q=>∃c0:Cf,c0.σ=σ/\c0.H=H/\Ok C c0/\W m c0.st λi st'=>∀c,c.σ=σ->c.st=st'->Ok C c->Nx c0 c->Q i c.H
def vq:PO X cb (tO C (pure cb)):=by
 rintro pins s σ H Q I ⟨c0,rfl,rfl,f,h⟩;rw[ao]at h;show zH pins s c0.σ c0.H Q I (h c0 rfl rfl f (Nx.refl c0))
def vt(f:PE X a (Ht C ma)):PO X (bD a) (tO C (ma >>= Dn)):=by
 rintro pins s σ H Q I ⟨c0,rfl,rfl,g,h⟩;show zI f pins s c0.σ c0.H Q I (aP g h λx c v t w=>?_);have⟨k,u⟩:=x;unfold Dn at w;split at w
 .rename_i i e
  dsimp only at e
  subst e;rw[ao]at w;show⟨i,t.rx.int t.ok,w c t.hσ rfl t.ok t.nx⟩
 .show(bf.mp w).elim
def Dx{lo f:Option Int}(l:C.K=X.K)(i:c.σ=c0.σ)(g:Ok C c)(n:Nx c0 c)(j:aQ C c0 c x.1 x.2 k)(h:pT x lo f=bD r)(q:cw C c0 Q r c.st):
  E9 X.K k lo f c.H Q\/Fe k lo f c.H Q:=by
 unfold pT at h;split at h
 .split at h
  .rename_i o;cases h;have⟨a',vs,ex,t,u⟩:=j.list g;show .inl ⟨a',vs,ex,l▸t,λp v=>q.list i g n ((eS o u).cut lo f) p v⟩
  .cases h
 .split at h
  .cases h;show .inr ⟨_,j.str g,by assumption,q.flat i g n rfl⟩
  .cases h
 .cases h
def Az{lo g:Option mh}(n:C.K=X.K)(o:PE X a (Ht C ma))(hl:PO X lo (tO C ml))(u:PO X g (tO C y)):
  PE X (.Subscript a (.Slice lo g cb p2) pos) (Ht C (ma >>= λx=>ml >>= λl=>y >>= λh=>aE [x] >>= λ_=>M.HG (pT x l h))):=by
 show PE.weak (wx (L9.or zL C5) o hl u) ?_;rintro σ H Q ⟨c0,rfl,rfl,z,h⟩;show aP z h λx c v t w=>?_;rw[ah]at w;show⟨c,t.hσ,rfl,t.ok,w.mono λl st2 i A B D G I=>?_⟩;subst D;rw[ah]at i;show⟨A,B,rfl,G,i.mono λT Y f J j L N O=>?_⟩;subst L;rw[ah,cJ]at f;have⟨r,e,q⟩:=cj.mp f.2;have k:Nx c J:=I.trans O;show Dx n j N (t.nx.trans k) ((t.rx.w.on t.ok k (j.trans t.hσ.symm)).t f.1) e q
end
section
variable{X:Cx}{C:Ct}{pins:List (hA×Obj)}{s:gs}{c0 c c1:Cf}
variable{a b d e:mh}{es:List mh}{m ma mb md:M (Kd×U)}{ms:M (List (Kd×U))}{ta tb:M Bool}{pos p p2:Pos}
abbrev Bf.val:Bf->dV
 |.len=>.builtin "len"|.sorted=>.builtin "sorted"|.repr=>.builtin "repr"|.max=>.builtin "max"|.min=>.builtin "min"|.all=>.builtin "all"|.any=>.builtin "any"
 |.list=>.type "list"|.tuple=>.type "tuple"|.str=>.type "str"|.int=>.type "int"
abbrev Bf.name:Bf->Str
 |.len=>"len"|.sorted=>"sorted"|.repr=>"repr"|.max=>"max"|.min=>"min"|.all=>"all"|.any=>"any"
 |.list=>"list"|.tuple=>"tuple"|.str=>"str"|.int=>"int"
def call_of(g:gy X f r)(I:Inv X pins c.σ c.H s)(rv:Vals vs us)(h:r vs c.H Q):et (hH X.prog X.w) X.A (MK f us) (EP X pins c.σ Q) X.xe s:=g pins s c.σ c.H vs us Q I rv h
def bQ(h:gZ f rs=bD r):∃x,rs=[x]/\f x=bD r:=by
 unfold gZ at h;split at h
 .show⟨_,rfl,h⟩
 .cases h
def BS(G:X.calm=b6)(y:C.K=X.K)(T:X.A.guards=bD [])(Y:X.A.units+60<Kx)(t:J' C c0 c rs vs)(I:Inv X pins c.σ c.H s)(rv:Vals vs us)(h:JI f rs=bD r)(q:cw C c0 Q r c.st):
  et (hH X.prog X.w) X.A (MK f.val us) (EP X pins c.σ Q) X.xe s:=by
 have u:=t.hσ;have g:=t.ok;have n:=t.nx;cases f with
 |len =>
  have⟨x,rfl,hz⟩:=bQ (f:=λx=>(Dg x.2).map λ(n:Nat)=>(Kd.loc,U.int (n:Int))) h;clear h;have h:=hz;clear hz;rw[eH]at h;have⟨k,e,rfl⟩:=h;have⟨v,rfl,l⟩:=t.one;have⟨kx,D⟩:=x;unfold Dg at e;split at e
  .rename_i xs o;have o:D=.lst xs:=o;subst o;cases e;have⟨a',ws,ex,i,j⟩:=l.list g;rw[j.len]at q;show call_of il I rv ⟨a',ws,by rw[ex],.inl (y▸i),q.flat u g n rfl⟩
  .rename_i xs o;have o:D=.tup xs:=o;subst o;cases e;have⟨a',ws,ex,i,j⟩:=l.tuple g;rw[y]at i;rw[j.len]at q;show call_of il I rv ⟨a',ws,by rw[ex],.inr i,q.flat u g n rfl⟩
  .rename_i xs o;have o:D=.str xs:=o;subst o;split at e
   .cases e;show call_of nP I rv ⟨_,by rw[l.str g],by assumption,q.flat u g n rfl⟩
   .cases e
  .rename_i ks us o;have o:D=.Hn ks us:=o;subst o;cases e;obtain⟨a',kvs,ex,i,j,_⟩:=l.dict g;have O:ks.length=kvs.length:=by rw[<-c2 (f:=(·.1)) (as:=kvs),j,c2]
   rw[O]at q;show call_of pS I rv ⟨a',kvs,by rw[ex],i,q.flat u g n rfl⟩
  .cases e
 |sorted =>
  have⟨x,rfl,hz⟩:=bQ (f:=Dh) h;clear h;have h:=hz;clear hz;have⟨v,rfl,l⟩:=t.one;unfold Dh at h;split at h
  .rw[r6]at h;have⟨J,e,h⟩:=h;have z:=cP e;subst z;have⟨a',ws,ex,i,j⟩:=l.list g;rw[aq.strs]at j;subst j;split at h
   .cases h;show call_of jx I rv ⟨a',J,by rw[ex],.inl (y▸i),by assumption,λp B=>q.list u g n (aq.strs.mpr rfl) p B⟩
   .cases h
  .obtain⟨a',kvs,ex,i,j,_⟩:=l.dict g;split at h
   .cases h;show call_of (jb G) I rv ⟨a',kvs,_,by rw[ex],i,j,by assumption,λp B=>q.list u g n (aq.strs.mpr rfl) p B⟩
   .cases h
  .rw[r6]at h;have⟨J,e,h⟩:=h;have z:=cP e;subst z;have⟨a',ws,ex,i,j⟩:=l.tuple g;rw[y]at i;rw[aq.strs]at j;subst j;split at h
   .cases h;show call_of jx I rv ⟨a',J,by rw[ex],.inr i,by assumption,λp B=>q.list u g n (aq.strs.mpr rfl) p B⟩
   .cases h
  .cases h
 |tuple =>
  have⟨x,rfl,hz⟩:=bQ (f:=Di) h;clear h;have h:=hz;clear hz;have⟨v,rfl,l⟩:=t.one;unfold Di at h;split at h
  .have⟨a',ws,ex,i,j⟩:=l.list g;cases h;show call_of gz I rv ⟨a',ws,by rw[ex],.inl ⟨y▸i,λp B=>q.tupK u g n j p B⟩⟩
  .have⟨a',ws,ex,i,j⟩:=l.tuple g;have N:=i;rw[y]at N;cases h;show call_of gz I rv ⟨a',ws,by rw[ex],.inr ⟨N,q c (.ref a') u rfl g n (aQ.item ⟨a',ws,rfl,i,j⟩)⟩⟩
  .cases h
 |str =>
  have⟨x,rfl,hz⟩:=bQ (f:=Ag) h;clear h;have h:=hz;clear hz;have⟨v,rfl,l⟩:=t.one;unfold Ag at h;split at h
  .split at h
   .cases h;show call_of nJ I rv ⟨_,by rw[l.int g],by assumption,q.flat u g n rfl⟩
   .cases h
  .cases h
 |all =>
  have⟨x,rfl,hz⟩:=bQ (f:=Dj) h;clear h;have h:=hz;clear hz;have⟨v,rfl,l⟩:=t.one;unfold Dj at h;split at h
  .rw[eH]at h;have⟨L,e,rfl⟩:=h;have z:=g_ e;subst z;have⟨a',ws,ex,i,j⟩:=l.list g;have:=j.RY;subst this;show call_of (wO G) I rv ⟨a',L,by rw[ex],y▸i,q.flat u g n rfl⟩
  .cases h
 |any =>
  have⟨x,rfl,hz⟩:=bQ (f:=Dk) h;clear h;have h:=hz;clear hz;have⟨v,rfl,l⟩:=t.one;unfold Dk at h;split at h
  .rw[eH]at h;have⟨L,e,rfl⟩:=h;have z:=g_ e;subst z;have⟨a',ws,ex,i,j⟩:=l.list g;have:=j.RY;subst this;show call_of (xk G) I rv ⟨a',L,by rw[ex],y▸i,q.flat u g n rfl⟩
  .cases h
 |_=>cases h
def AA{id:String}(g:X.calm=b6)(i:C.K=X.K)(j:X.A.guards=bD [])(k:X.A.units+60<Kx)(l:f.val=.builtin id)(n:Gl X x)(o:X.mg x=cb)(u:vr x=bD (.builtin id))(v:x≠"__name__")(y:(x==("__debug__":Str))=cK)
  (B:PA X (e::es) (IX C ms)) (D:i2 (e::es) X.env=(cK,wk e X.env)::i2 es X.env) (G:(x2 pos (i2 es X.env)).any (·.1)=cK) :
  PE X (.Call (.Name x p) (e::es) [] pos) (Ht C (ms >>= λrs=>aE rs >>= λ_=>M.HG (JI f rs))):=by
 rintro pins s σ H Q I ⟨c0,rfl,rfl,J,h⟩;show uk (dB I n o u ?_ v y);show R4 (Hu (args B I J h pos) λus s1 ⟨rs,c,vs,t,L,rv,w⟩=>?_) D G;have⟨r,e,q⟩:=cj.mp w;have z:=BS g i j k t L rv e q;rw[l,t.hσ]at z;show z
def AB(g:X.calm=b6)(i:C.K=X.K)(j:X.A.guards=bD [])(k:X.A.units+60<Kx)(l:f.val=.type T)(n:Gl X x)(o:X.mg x=cb)(u:vr x=bD (.type T))(v:x≠"__name__")(y:(x==("__debug__":Str))=cK)
  (B:PA X (e::es) (IX C ms)) (D:i2 (e::es) X.env=(cK,wk e X.env)::i2 es X.env) (G:(x2 pos (i2 es X.env)).any (·.1)=cK) :
  PE X (.Call (.Name x p) (e::es) [] pos) (Ht C (ms >>= λrs=>aE rs >>= λ_=>M.HG (JI f rs))):=by
 rintro pins s σ H Q I ⟨c0,rfl,rfl,J,h⟩;show uk (dB I n o u ?_ v y);show LA (Hu (args B I J h pos) λus s1 ⟨rs,c,vs,t,L,rv,w⟩=>?_) D G;have⟨r,e,q⟩:=cj.mp w;have z:=BS g i j k t L rv e q;rw[l,t.hσ]at z;show z
abbrev JN.name:JN->Str
 |.str=>"str"|.list=>"list"|.tuple=>"tuple"|.int=>"int"|.bool=>"bool"
abbrev JN.nm:JN->String
 |.str=>"str"|.list=>"list"|.tuple=>"tuple"|.int=>"int"|.bool=>"bool"
def AD(T:JN):vr T.name=bD (.type T.nm)/\T.name≠"__name__"/\(T.name==("__debug__":Str))=cK:=by
 cases T<;>show⟨by decide +kernel,by decide +kernel,by decide +kernel⟩
def iG(T:JN):Y0 (.type T.nm)=pure (.type "type"):=by cases T<;>kernel_rfl
def jV(T:JN):OM (.type "str") (.type T.nm)=pure (cc (T=.str)):=by cases T<;>(rw[HZ];kernel_rfl)
def sub_int(T:JN):OM (.type "int") (.type T.nm)=pure (cc (T=.int)):=by cases T<;>(rw[HZ];kernel_rfl)
def ne_str{T:JN}(h:¬T=.str):(ro "str"==ro T.nm)=cK:=by cases T<;>first|show absurd rfl h|decide
def ne_int{T:JN}(h:¬T=.int):(ro "int"==ro T.nm)=cK:=by cases T<;>first|show absurd rfl h|decide
def p8(T:JN):OM (.type "list") (.type T.nm)=pure (cc (T=.list)):=by cases T<;>(rw[HZ];kernel_rfl)
def tL(T:JN):OM (.type "tuple") (.type T.nm)=pure (cc (T=.tuple)):=by cases T<;>(rw[HZ];kernel_rfl)
def AE{T:JN}(h:¬T=.list):(ro "list"==ro T.nm)=cK:=by cases T<;>first|show absurd rfl h|decide
def Dy{T:JN}(h:¬T=.tuple):(ro "tuple"==ro T.nm)=cK:=by cases T<;>first|show absurd rfl h|decide
def Dz{b:Bool}(B:C.K=X.K)(t:LV C c0 c x v)(I:Inv X pins c.σ c.H s)(rv:RelV v i)(h:oo x.2 T=bD b)(q:∀l,Q (.bool b) {s with toks:=l}):
  et (hH X.prog X.w) X.A (MK (.builtin "isinstance") [i,.type T.nm]) Q X.xe s:=by
 have⟨k,u⟩:=x;have⟨Y,j,n,r⟩:=t;have G:Q (.bool b) s:=q s.toks
 dsimp only at h r
 have g:∀{D:String},b=b6->s.TypeIs i D->OM (.type D) (.type T.nm)=pure b6->et (hH X.prog X.w) X.A (MK (.builtin "isinstance") [i,.type T.nm]) Q X.xe s:=λe J hs=>by
  subst e;show ZO J (iG T) hs G
 unfold oo at h;split at h
 .cases h;have e:v=_:=r.str j;subst e;have⟨l,rfl⟩:=rv;by_cases f:T=.str
  .subst f;show g (by simp) (Xh s _ l) (jV .str)
  .rw[Z8 f]at q;show S3 (isinstance_false_str (ne_str f) (iG T) (by rw[jV,Z8 f])) (q _)
 .cases h;have e:v=_:=r.int j;subst e;have⟨l,rfl⟩:=rv;by_cases f:T=.int
  .subst f;show g (by simp) (typeIs_int s _ l) (sub_int .int)
  .rw[Z8 f]at q;show S3 (isinstance_false_int (ne_int f) (iG T) (by rw[sub_int,Z8 f])) (q _)
 .cases h;have e:v=_:=r.bl j;subst e;cases rv;show g rfl (PySem.typeIs_bool s _) (by rw[HZ];kernel_rfl)
 .cases h;have e:v=_:=r.bl j;subst e;cases rv;show g rfl (PySem.typeIs_bool s _) (by rw[HZ];kernel_rfl)
 .cases h;have⟨a',ws,rfl,y,L⟩:=r.list j;cases rv;rw[B]at y;obtain⟨N,_,O,_⟩:=I.list y;obtain⟨o,ho,z,_⟩:=O.isList;by_cases f:T=.list
  .subst f;show g (by simp) ⟨o,ho,z⟩ (p8 .list)
  .rw[Z8 f]at q;show S3 (isinstance_false_list (AE f) (iG T) (by rw[p8,Z8 f])) ⟨⟨o,ho,z⟩,q _⟩
 .cases h;have⟨a',ws,rfl,y,L⟩:=r.tuple j;cases rv;rw[B]at y;obtain⟨N,_,⟨o,ho,z,_⟩,_⟩:=I.tuple y;by_cases f:T=.tuple
  .subst f;show g (by simp) ⟨o,ho,z⟩ (tL .tuple)
  .rw[Z8 f]at q;show S3 (isinstance_false_tuple (Dy f) (iG T) (by rw[tL,Z8 f])) ⟨⟨o,ho,z⟩,q _⟩
 .cases h
def tM(g:C.K=X.K)(i:Gl X "isinstance")(j:X.mg "isinstance"=cb)(k:Gl X T.name)(l:X.mg T.name=cb)(n:PE X a (Ht C ma))(hs:i2 [a,.Name T.name p2] X.env=(cK,wk a X.env)::i2 [.Name T.name p2] X.env):
  PE X (.Call (.Name "isinstance" p) [a,.Name T.name p2] [] pos) (Ht C (ma >>= λx=>M.HG (oo x.2 T) >>= λb=>pure (.loc,.bl b))):=by
 rintro pins s σ H Q I ⟨c0,rfl,rfl,o,h⟩;have⟨q,r,u⟩:=AD T;show uk (dB I i j (show vr "isinstance"=bD (.builtin "isinstance") by decide +kernel) ?_ (by decide +kernel) (by decide +kernel));show R4 (Hu (ff n (ff (zu (v:=.ty T.nm) k l q rfl r u) iX) hs pos pins s c0.σ c0.H (λvs H'=>∃x c v b,LV C c0 c x v/\c.H=H'/\vs=[v,.ty T.nm]/\oo x.2 T=bD b/\cw C c0 Q (.loc,.bl b) c.st) I ?_) λus s1 ⟨vs,N,f,y,x,c,v,b,t,e,A,B,w⟩=>?_) hs (by rfl)
 .show aP o h λx c v t w=>?_;rw[ah]at w;have⟨b,e,w⟩:=cj.mp w;rw[ao]at w;show⟨x,c,v,b,t,rfl,rfl,e,w⟩
 .subst e A;have⟨O,Y,rfl,D,G⟩:=vals2 y;cases G;have J:Inv X pins c.σ c.H s1:=by rw[t.hσ];show f
  have z:=Dz (Q:=EP X pins c0.σ Q) g t J D B λL=>⟨.bl b,c.H,f.tok L,rfl,w c (.bl b) t.hσ rfl t.ok t.nx rfl⟩
  show z
@[reducible]def KH(P:D9)(w:HL)(K:PySem.W.Frag)(H:Hp)(f:hA->Prop):Ct:=⟨P,w,K,H,f,λ_=>False⟩
structure Back(C:Ct)(H H':Hp)(S':hA->Prop)(k:Kd)(u:U)(v:V):Prop where
 same:zP H H'
 new:∀a,S' a->H a=cb/\∃o,H' a=bD o
 own:k=.own->∃r,v=.ref r/\H r=cb/\¬S' r/\cW C S' H' r u
 loc:k=.loc->Rep C S' H' u v
 any:k=.any->Rep C (PS C S') H' u v
abbrev spT(P:D9)(w:HL)(K:PySem.W.Frag)(F:List U->Option (Ex (Kd×U)))(g:Nat):Sp:=λvs H Q _=>vs.length=g/\∃us k u f,F us=bD (.ok (k,u))/\(k=.own\/k=.loc\/k=.any)/\(∀a,f a->JX H a) /\
 aq (KH P w K H f) f H us vs/\∀v H' S',Back (KH P w K H f) H H' S' k u v->Q v H'
def J'.read(t:J' C c0 c rs vs):aq C (JX c.H) c.H (rs.map (·.2)) vs:=by
 have f:∀(l:List (Kd×U)) (w:List V),bZ C c0 c l w->bq l c.st->aq C (JX c.H) c.H (l.map (·.2)) w:=by
  intro l;induction l with
  |nil=>intro w h _;show h
  |cons r l g =>
   intro w h hs;obtain⟨v,t',rfl,i,j,_⟩:=h;rw[gf]at hs;show⟨v,t',rfl,(i.t hs.1).read t.ok,g t' j hs.2⟩
 show f rs vs t.rep t.MV
def Back.here(hk:k=.own\/k=.loc)(i:c.σ=c0.σ)(f:Ok C c)(n:Nx c0 c)(q:j.Eqv C)(h:Back j c.H H' S' k u v)(w:cw C c0 Q (k,u) c.st):Q v H':=by
 have⟨l,t⟩:=f.grow (S':=λa=>c.S a\/S' a) h.same (λa z=>z.imp id λz=>h.new a z) λa=>.inl;have x:=n.trans t;show w {c with H:=H',S:=λa=>c.S a\/S' a} v i rfl l x ?_;rcases hk with rfl|rfl
 .have⟨r,e,g,y,A⟩:=h.own rfl;have⟨G,B,I,J,D⟩:=f.jP g;show⟨r,e,n.none g,λz=>z.elim B y,D,(A.cg q).mv (.up λa=>.inr) λo q=>q⟩
 .show((h.loc rfl).cg q).mv (.up λa=>.inr)
def xE(o:C.P=X.prog)(x:C.w=X.w)(y:C.K=X.K)(L:Γ f=F)(hk:∀us k u,F us=bD (.ok (k,u))->(k=.own\/k=.loc\/k=.any)/\us.length=B)
  (G:jJ X.prog X.w X.K X.mg X.base Ko k fa N ps (spT X.prog X.w X.K F B)) (O:fJ k X.A) (T:Gl X f) (Y:X.mg f=bD (.ref fa)) (MO:PySem.W.keepIn X.K (.ref fa)=b6) (j:Binds X.K N ps [])
  (LW:(f==("__debug__":Str))=cK) (ha:PA X (e::es) (IX C ms)) (he:i2 (e::es) X.env=(cK,wk e X.env)::i2 es X.env) (Ii:(x2 pos (i2 es X.env)).any (·.1)=cK) :
  PE X (.Call (.Name f p) (e::es) [] pos) (Ht C (ms >>= λrs=>aE rs >>= λ_=>kQ Γ f (rs.map (·.2)))):=by
 rintro pins s σ H Q I ⟨c0,rfl,rfl,ok,h⟩;show uk (nE I T Y ?_ LW);show PySem.W.callWith_K (h₀:=X.base) I.ok.mod.NX MO (Hu (args ha I ok h pos) λus s1 ⟨rs,c,vs,t,D,rv,w⟩=>⟨D.L3,?_⟩) he Ii;have⟨r,st',g,q⟩:=w;unfold kQ at g;rw[L]at g;cases i:F (rs.map (·.2)) with
 |none=>rw[i]at g;cases g
 |some r' =>
  rw[i]at g;split at g
  .cases g
  .rename_i z;cases z
  rename_i Wd e3;cases e3;cases g;have⟨l,u⟩:=r;have⟨k0,k2⟩:=hk _ _ _ i;have k1:l=.own\/l=.loc:=by
   rcases k0 with z|z|z
   .show .inl z
   .show .inr z
   .subst z;show(Wd u rfl).elim
  have n:C.Eqv (KH X.prog X.w X.K c.H (JX c.H)):=⟨o,x,y⟩
  have JB:(KH X.prog X.w X.K c.H (JX c.H)).Eqv C:=⟨o.symm,x.symm,y.symm⟩
  have J:=t.read;have JD:spT X.prog X.w X.K F B vs c.H (λv H'=>Q v H') E0:=⟨by rw[<-J.len];show k2,rs.map (·.2),l,u,JX c.H,i,k0,λ_ z=>z,J.cg n,λv H' S' j=>j.here k1 t.hσ t.ok t.nx JB q⟩
  have z:=qV (Q:=Q) G O j .nil wB D rv (by rw[rr];show JD);rw[t.hσ]at z;show z
theorem bZ.here:∀{rs:List (Kd×U)}{vs:List V},bZ C c0 c rs vs->rs.all (λr=>cc (r.1=.loc))=b6->aq C c.S c.H (rs.map (·.2)) vs
 |[],_,h,_=>h
 |(k,u)::rs,vs,h,q=>by
  obtain⟨v,t,rfl,f,g,_⟩:=h;rw[WX,cL,Z5]at q;show⟨v,t,rfl,?_,bZ.here g q.2⟩;obtain⟨i,_⟩:=q;cases i;show f
def xF(n:C.P=X.prog)(o:C.w=X.w)(x:C.K=X.K)(L:Γ f=F)(hk:∀us k u,F us=bD (.ok (k,u))->(k=.own\/k=.loc\/k=.any)/\us.length=y)
  (G:jJ X.prog X.w X.K X.mg X.base Ko k fa N ps (spT X.prog X.w X.K F y)) (O:fJ k X.A) (T:Gl X f) (Y:X.mg f=bD (.ref fa)) (MO:PySem.W.keepIn X.K (.ref fa)=b6) (g:Binds X.K N ps [])
  (LW:(f==("__debug__":Str))=cK) (ha:PA X (e::es) (IX C ms)) (he:i2 (e::es) X.env=(cK,wk e X.env)::i2 es X.env) (Ii:(x2 pos (i2 es X.env)).any (·.1)=cK) :
  PE X (.Call (.Name f p) (e::es) [] pos) (Ht C (ms >>= λrs=>aE rs >>= λ_=>pV Γ f rs)):=by
 rintro pins s σ H Q I ⟨c0,rfl,rfl,ok,h⟩;show uk (nE I T Y ?_ LW);show PySem.W.callWith_K (h₀:=X.base) I.ok.mod.NX MO (Hu (args ha I ok h pos) λus s1 ⟨rs,c,vs,t,B,rv,w⟩=>⟨B.L3,?_⟩) he Ii;have⟨r,st',i,q⟩:=w;unfold pV at i;rw[L]at i;split at i
 case isFalse=>cases i
 rename_i J0;split at i
 case h_2=>cases i
 rename_i kd u D;cases i;have⟨k1,k2⟩:=hk _ _ _ D;have j:C.Eqv (KH X.prog X.w X.K c.H c.S):=⟨n,o,x⟩
 have l:(KH X.prog X.w X.K c.H c.S).Eqv C:=⟨n.symm,o.symm,x.symm⟩
 have J:=bZ.here t.rep J0;have JD:spT X.prog X.w X.K F y vs c.H (λv H'=>Q v H') E0:=⟨by rw[<-J.len];show k2,rs.map (·.2),kd,u,c.S,D,k1,λa z=>(t.ok.JA a z).2,J.cg j,λv H' S' g=>by
  rcases k1 with z|z|z
  .subst z;show g.here (.inl rfl) t.hσ t.ok t.nx l q
  .subst z;show g.here (.inr rfl) t.hσ t.ok t.nx l q
  .have⟨HE,n'⟩:=t.ok.grow (S':=λa=>c.S a\/S' a) g.same (λa z=>z.imp id λz=>g.new a z) λa=>.inl;subst z;show q {c with H:=H',S:=λa=>c.S a\/S' a} v t.hσ rfl HE (t.nx.trans n') ((g.any rfl).cg l)⟩
 have z:=qV (Q:=Q) G O g .nil wB B rv (by rw[rr];show JD);rw[t.hσ]at z;show z
def AF(j:PE X a (Ht C ma)):PE X a (Ht C (ma >>= λr=>lift r >>= λu=>pure (.loc,u))):=by
 show PE.weak j ?_;rintro σ H Q ⟨c0,rfl,rfl,g,h⟩;show aP g h λx c v t w=>?_;rw[ah]at w;obtain⟨S',st',u,s1,k,l,f,i,_⟩:=gh g t.ok t.nx t.rx.w w;rw[ao]at i;show i {c with S:=S',st:=st' } v t.hσ rfl k l f
end
section
abbrev Mf.id:Mf->String
 |.split=>"str.split"|.join=>"str.join"|.partition=>"str.partition"|.endswith=>"str.endswith"
abbrev Mf.name:Mf->Str
 |.split=>"split"|.join=>"join"|.partition=>"partition"|.endswith=>"endswith"
def xG(h:lV f u rs=bD r):∃x,u=.str x:=by
 unfold lV at h;split at h
 .show⟨_,rfl⟩
 .cases h
def DA(k:C.K=X.K)(t:J' C c0 c (x::rs) (b::vs))(I:Inv X a c.σ c.H s)(l:RelV b v)(rv:Vals vs us)(h:lV f x.2 rs=bD r)(q:cw C c0 Q r c.st):
  et (hH X.prog X.w) X.A (MK (.builtin f.id) (v::us)) (EP X a c.σ Q) X.xe s:=by
 have m:=t.hσ;have d:=t.ok;have n:=t.nx;have⟨o,p⟩:=x;have hs:=gf.mp t.MV;obtain⟨J,L,u,g,i,-⟩:=t.rep;cases u;have y:aQ C c0 c o p b:=g.t hs.1;have one:∀{r:Kd×U},bZ C c0 c [r] vs->bq [r] c.st->∃v,vs=[v]/\aQ C c0 c r.1 r.2 v:=λ{r} h s=>by
  obtain⟨v,t',rfl,g,i,_⟩:=h;cases i;show⟨v,rfl,g.t s⟩
 dsimp only at h
 unfold lV at h;split at h
 .rw[r6]at h;have⟨z,e,h⟩:=h;have B:=cP e;subst B;have⟨w,rfl,D⟩:=one i hs.2;have⟨a',ws,ex,G,j⟩:=D.list d;rw[aq.strs]at j;subst j;split at h
  .cases h;show zU a s c.σ c.H b [w] v us Q I l rv ⟨_,a',z,y.str d,by rw[ex],k▸G,by assumption,q.flat m d n rfl⟩
  .cases h
 .cases h
def AG(L:C.K=X.K)(slot:Slot "str" name f.id)(N:Y0 (.builtin f.id)=pure (.type "method_descriptor"))(ho:PE X o (Ht C m))(O:PA X (e::es) (IX C ms))
  (T:Qj o name X.env (wk o X.env)=wk o X.env)
  (Y:((x2 b (i2 (e::es) X.env)).all (λx=>!x.1)&&(Ni b (Jp [] X.env)).all (λx=>x.1.isSome)
   && cc ((e::es).length+([]:List KX).length+(if ([]:List KX).isEmpty then 0 else 1)<30))=b6)
  (HB:(g.endLine==b.line)=b6) (hs:i2 (e::es) X.env=(cK,wk e X.env)::i2 es X.env) (IB:(x2 b (i2 es X.env)).any (·.1)=cK) :
  PE X (.Call (.Attribute o name g) (e::es) [] b) (Ht C (m >>= λx=>ms >>= λrs=>aE (x::rs) >>= λ_=>M.HG (lV f x.2 rs))):=by
 rintro a s σ H Q I ⟨c0,rfl,rfl,ok,h⟩;show Yc T Y HB rfl (Hu (ho a s c0.σ c0.H (λj p=>∃x c1,c1.H=p/\LV C c0 c1 x j/\W (ms >>= λrs=>aE (x::rs) >>= λ_=>M.HG (lV f x.2 rs)) c1.st (cw C c0 Q)) I (aP ok h λx c v t w=>⟨x,c,rfl,t,w⟩)) ?_);rintro v s1 ⟨j,p,u,y,x,c1,rfl,t,w⟩;have MW:∃z,x.2=.str z:=by
  rw[ah]at w;obtain⟨rs,st2,_,w⟩:=w;rw[ah]at w;obtain⟨_,H9,_,w⟩:=w;obtain⟨r,e,_⟩:=cj.mp w;show xG e
 have⟨z,hz⟩:=MW;have A:=t.rx;rw[hz]at A;have ev:=A.str t.ok;have ty:Pp X.K "str" j c1.H:=by rw[ev];rfl
 have⟨h1,h2⟩:=nQ u y ty;show⟨"str",f.id,PySem.F.plainAttrs_str,slot,N,h1,h2,?_⟩;rw[ah]at w;have B:=O b a s1 c0.σ c1.H (λvs D=>∃rs d,d.H=D/\J' C c0 d (x::rs) (j::vs)/\W (M.HG (lV f x.2 rs)) d.st (cw C c0 Q)) u ⟨c1,t.hσ,rfl,t.ok,w.mono λrs st2 l d vs G e4 HP J k=>by
  rw[ah,cJ]at l;subst e4;show⟨rs,d,rfl,⟨G,HP,t.nx.trans J,⟨j,vs,rfl,t.rx.w.on t.ok J (G.trans t.hσ.symm),k.from t.nx,λhk i r' v' e5 e6 Il=>oq t.rx.w (k.get e5 e6) hk Il⟩,l.1⟩,l.2⟩⟩
 rw[hs]at B ⊢;show wh (by change(cK||(x2 b (i2 es X.env)).any (·.1))=cK;rw[IB]<;>rfl) (KC ?_);show Hu B ?_;rintro us s2 ⟨vs,D,I2,k,rs,d,rfl,n,w2⟩;have⟨r,e,q⟩:=cj.mp w2;have z:=DA L n (by rw[n.hσ];show I2) y k e q;rw[n.hσ]at z;show z
end
section
variable{X:Cx}{C:Ct}{pins:List (hA×Obj)}{s:gs}{c0 c c1:Cf}
variable{e:mh}{es:List mh}{ms:M (List (Kd×U))}{pos p p2 pos2:Pos}
abbrev B2.out:B2->dV
 |.Ku=>.type "tuple"|.JM=>.type "list"|.sset=>.builtin "sorted"|.iY=>.builtin "len"
abbrev B2.P0:B2->dV
 |.Ku=>.type "reversed"|.JM=>.type "reversed"|.sset=>.type "set"|.iY=>.type "set"
abbrev B2.ou:B2->Str
 |.Ku=>"tuple"|.JM=>"list"|.sset=>"sorted"|.iY=>"len"
abbrev B2.iH:B2->Str
 |.Ku=>"reversed"|.JM=>"reversed"|.sset=>"set"|.iY=>"set"
theorem aq.rev{S:hA->Prop}:∀{us:List U}{vs:List V},aq C S H us vs->aq C S H us.reverse vs.reverse
 |[],vs,h=>by cases h;show rfl
 |u::us,vs,h=>by
  have⟨v,r,rfl,a,b⟩:=h;rw[QQ,QQ];show(aq.rev b).append ⟨v,[],rfl,a,rfl⟩
def jf(i:C.K=X.K)(j:Ok C c)(l:aQ C c0 c k u v)(h:fF u=bD m):∃a b,v=.ref a/\(HX X.K c.H a (b.map V.str)\/Ie X.K c.H a (b.map V.str))/\b.length+1<Hw/\m=ay b:=by
 unfold fF at h;split at h
 .rw[r6]at h;have⟨b,e,h⟩:=h;have g:=cP e;subst g;have⟨a',ws,ex,f,d⟩:=l.list j;rw[aq.strs]at d;subst d;split at h
  .cases h;show⟨a',b,ex,.inl (i▸f),by assumption,rfl⟩
  .cases h
 .rw[r6]at h;have⟨b,e,h⟩:=h;have g:=cP e;subst g;have⟨a',ws,ex,f,d⟩:=l.tuple j;rw[aq.strs]at d;subst d;rw[i]at f;split at h
  .cases h;show⟨a',b,ex,.inr f,by assumption,rfl⟩
  .cases h
 .cases h
def DB(k:X.calm=b6)(m:C.K=X.K)(t:J' C c0 c rs vs)(I:Inv X pins c.σ c.H s)(rv:Vals vs us)(h:pU f rs=bD r)(q:cw C c0 Q r c.st):
  et (hH X.prog X.w) X.A (MK f.P0 us) (λv s1=>et (hH X.prog X.w) X.A (MK f.out [v]) (EP X pins c.σ Q) X.xe s1) X.xe s:=by
 have o:=t.hσ;have a:=t.ok;have n:=t.nx;cases f with
 |Ku=>cases h
 |JM =>
  have⟨x,rfl,hz⟩:=bQ (f:=Dl) h;clear h;have h:=hz;clear hz;have⟨v,rfl,g⟩:=t.one;unfold Dl at h;split at h
  .have⟨a',ws,ex,b,i⟩:=g.list a;rw[m]at b;subst ex;have⟨u,rfl,j⟩:=vals1 rv;cases j;split at h
   .cases h;show xi k I b λl hl=>q.list o a n (eS (by assumption) i).rev l hl
   .cases h
  .cases h
 |sset =>
  have⟨x,rfl,hz⟩:=bQ (f:=λx=>(fF x.2).bind λd=>if d.length<64 then bD (Kd.own,U.lst ((aK d).map .str)) else cb) h;clear h;have h:=hz;clear hz;have⟨d,e,h⟩:=r6.mp h;have⟨v,rfl,g⟩:=t.one;have⟨a',B,rfl,b,i,rfl⟩:=jf m a g e;have⟨u,rfl,j⟩:=vals1 rv;cases j;split at h
  .cases h;show iz k I b i λS h' D y z=>gD k z y (by assumption) λl hl=>q.list o a n (aq.strs.mpr rfl) l hl
  .cases h
 |iY =>
  have⟨x,rfl,hz⟩:=bQ (f:=λx:Kd×U=>(fF x.2).map λd:List Str=>(Kd.loc,U.int (d.length:Int))) h;clear h;have h:=hz;clear hz;have⟨d,e,rfl⟩:=eH.mp h;have⟨v,rfl,g⟩:=t.one;have⟨a',B,rfl,b,i,rfl⟩:=jf m a g e;have⟨u,rfl,j⟩:=vals1 rv;cases j;show iz k I b i λS h' D y z=>kI z y (q.flat o a n rfl)
def tN:∀f:B2,vr f.ou=bD f.out/\vr f.iH=bD f.P0/\f.ou≠"__name__"/\f.iH≠"__name__"/\(f.ou==("__debug__":Str))=cK/\(f.iH==("__debug__":Str))=cK:=by
 intro f;cases f<;>show⟨by decide +kernel,by decide +kernel,by decide +kernel,by decide +kernel,by decide +kernel,by decide +kernel⟩
def DC(f:B2):∃T,f.P0=.type T:=by cases f<;>show⟨_,rfl⟩
def DE(f:B2):(∃T,f.out=.type T)\/∃T,f.out=.builtin T:=by cases f<;>first|show .inl ⟨_,rfl⟩|show .inr ⟨_,rfl⟩
def tP{M:Model}{E:dV->gs->Prop}(h:et M A t (λv a=>et M A (MK (.type T) [v]) Q E a) E s):et M A (callWith pos (.type T) [] [(cK,t)] []) Q E s :=
 PySem.callWith_type rfl (KC (LO (tA h (λ_ _ b=>N8 b) λ_ _ e=>e)))
def ox{M:Model}{E:dV->gs->Prop}(h:et M A t (λv a=>et M A (MK (.builtin T) [v]) Q E a) E s):et M A (callWith pos (.builtin T) [] [(cK,t)] []) Q E s :=
 wh rfl (KC (LO (tA h (λ_ _ b=>N8 b) λ_ _ e=>e)))
def xH(b:X.calm=b6)(d:C.K=X.K)(g:Gl X f.iH)(i:X.mg f.iH=cb)
  (j:PA X (e::es) (IX C ms)) (k:i2 (e::es) X.env=(cK,wk e X.env)::i2 es X.env) (l:(x2 pos2 (i2 es X.env)).any (·.1)=cK)
  (I:Inv X pins c0.σ c0.H s) (m:Ok C c0) (h:W (ms >>= λrs=>aE rs >>= λ_=>M.HG (pU f rs)) c0.st (cw C c0 Q)) :
  et (hH X.prog X.w) X.A (wk (.Call (.Name f.iH p2) (e::es) [] pos2) X.env) (λv s1=>et (hH X.prog X.w) X.A (MK f.out [v]) (EP X pins c0.σ Q) X.xe s1) X.xe s:=by
 have⟨b1,n,b3,b4,B,o⟩:=tN f;show uk (dB I g i n ?_ b4 o);have a:et (hH X.prog X.w) X.A (Zg (x2 pos2 (i2 (e::es) X.env))) (λus s1=>et (hH X.prog X.w) X.A (MK f.P0 us) (λv s1=>et (hH X.prog X.w) X.A (MK f.out [v]) (EP X pins c0.σ Q) X.xe s1) X.xe s1) X.xe s :=
  Hu (args j I m h pos2) λus s1 u=>by
   have⟨rs,c,vs,t,x,rv,w⟩:=u;have⟨r,e,q⟩:=cj.mp w;have z:=DB b d t x rv e q;rw[t.hσ]at z;show z
 have⟨T,y⟩:=DC f;rw[y]at a ⊢;show LA a k l
def AH(d:X.calm=b6)(g:C.K=X.K)(i:Gl X f.ou)(j:X.mg f.ou=cb)(k:Gl X f.iH)(l:X.mg f.iH=cb)
  (m:PA X (e::es) (IX C ms)) (n:i2 (e::es) X.env=(cK,wk e X.env)::i2 es X.env) (o:(x2 pos2 (i2 es X.env)).any (·.1)=cK) :
  PE X (.Call (.Name f.ou p) [.Call (.Name f.iH p2) (e::es) [] pos2] [] pos) (Ht C (ms >>= λrs=>aE rs >>= λ_=>M.HG (pU f rs))):=by
 rintro pins s σ H Q I ⟨c0,rfl,rfl,q,h⟩;have⟨b1,v,b3,b4,r,w⟩:=tN f;show uk (dB I i j b1 ?_ b3 r);have a:=xH (p2:=p2) (pos2:=pos2) d g k l m n o I q h;have t:x2 pos (i2 [.Call (.Name f.iH p2) (e::es) [] pos2] X.env)=[(cK,wk (.Call (.Name f.iH p2) (e::es) [] pos2) X.env)]:=rfl;have u:Ni pos (Jp [] X.env)=[]:=rfl;rw[t,u];rcases DE f with⟨T,b⟩|⟨T,b⟩
 .rw[b]at a ⊢;show tP a
 .rw[b]at a ⊢;show ox a
end
section
variable{X:Cx}{C:Ct}{pins:List (hA×Obj)}{s:gs}{c0 c c1:Cf}
variable{a b d e o tg:mh}{es:List mh}{m ma mb md:M (Kd×U)}{ms:M (List (Kd×U))}{ta tb:M Bool}{pos p p2 apos F':Pos}
abbrev kW(rs:List (Kd×U))(c f:Cf):Prop:=∀j u,(Kd.bor j,u)∈rs->f.σ[j]?=c.σ[j]?
abbrev Walk(C:Ct)(c:Cf)(rs:List (Kd×U))(xs:List (Kd×U))(J:It):Prop:=∀f,Ok C f->Ns c f->kW rs c f->bq rs f.st ->
 (∀(i:Nat) r,xs[i]?=bD r->(r.1=.loc\/r.1=.any)/\J.go i f.H/\∀x H',J.Pk i f.H x H'->∃g:Cf,g.H=H'/\g.σ=f.σ/\g.st=f.st/\Ok C g/\Nx f g/\aQ C f g r.1 r.2 x) /\
 ∀i:Nat,xs.length<=i->J.stop i f.H
abbrev Lz(C:Ct)(ik:Ik)(ms:M (List (Kd×U))):TI:=λσ H R=>∃c0:Cf,c0.σ=σ/\c0.H=H/\Ok C c0/\W (ms >>= λrs=>aE rs >>= λ_=>M.HG (Ju ik rs) >>= λxs=>pure (rs,xs)) c0.st λq st' =>
 ∀c J,c.σ=σ->c.st=st'->Ok C c->Nx c0 c->bq q.1 c.st->Walk C c q.1 q.2 J->R J c.H
def aQ.walk(g:Ok C c)(n:Ns c f)(i:kW [r] c f)(hs:bq [r] f.st)(h:aQ C c0 c r.1 r.2 v):aQ C c0 f r.1 r.2 v :=
 (h.w.TZ g n λj e=>i j r.2 (by rw[<-e];simp)).t hs
def xI(k:Kd):kE k=.loc\/kE k=.any:=by cases k<;>simp[kE]
def vv(z:C.K=X.K)(A:Ok C c)(h:aQ C c0 c k (.lst us) (.ref a')):Walk C c [(k,.lst us)] (us.map λu=>(kE k,u)) (Qy X.K a'):=by
 intro l q n B hs;have h':=aQ.walk (r:=(k,.lst us)) A n B hs h;have⟨H,vs,e,f,t⟩:=h'.list q;cases e;rw[z]at f;show⟨λi r w=>?_,λi D=>⟨vs,f,by rw[<-t.len];simpa using D⟩⟩;rw[i7,eH]at w;have⟨u,G,rfl⟩:=w;have⟨v,y,g⟩:=t.get G;show⟨xI k,⟨vs,v,f,y⟩,λx H' j=>?_⟩;have⟨e,j⟩:=j;subst e;have:=j vs f;rw[y]at this;cases this;show⟨l,rfl,rfl,rfl,q,Nx.refl l,aQ.item g⟩
def rC(z:C.K=X.K)(A:Ok C c)(h:aQ C c0 c k (.tup us) (.ref a')):Walk C c [(k,.tup us)] (us.map λu=>(kE k,u)) (Qz X.K a'):=by
 intro l q n B hs;have h':=aQ.walk (r:=(k,.tup us)) A n B hs h;have⟨H,vs,e,f,t⟩:=h'.tuple q;cases e;rw[z]at f;show⟨λi r w=>?_,λi D=>⟨vs,f,by rw[<-t.len];simpa using D⟩⟩;rw[i7,eH]at w;have⟨u,G,rfl⟩:=w;have⟨v,y,g⟩:=t.get G;show⟨xI k,⟨vs,v,f,y⟩,λx H' j=>?_⟩;have⟨e,j⟩:=j;subst e;have:=j vs f;rw[y]at this;cases this;show⟨l,rfl,rfl,rfl,q,Nx.refl l,aQ.item g⟩
def rD{lo:Int}:Walk C c rs ((hQ n).map λi:Nat=>(Kd.loc,U.int (lo+(i:Int)))) (Pn lo n):=by
 intro h l nx t hs;show⟨λi r k=>?_,λi f=>by change n<=i;simpa using f⟩;rw[i7,eH]at k;have⟨j,g,rfl⟩:=k;have f:i<n:=by simpa using(d3.mp g).1
 rw[List.getElem?_range f]at g;cases g;show⟨.inl rfl,f,λy H' q=>?_⟩;have⟨e,rfl⟩:=q;subst e;show⟨h,rfl,rfl,rfl,l,Nx.refl h,rfl⟩
def DF(i:C.K=X.K)(t:PE X a (Ht C ma)):PI X tg a (Lz C .seq (ma >>= λr=>pure [] >>= λrs=>pure (r::rs))):=by
 rintro pins s σ H R I ⟨c0,rfl,rfl,w,h⟩;rw[ah,ah]at h;have⟨r,st1,x,h⟩:=h;rw[ah,ao,ao,ah,cJ,ah]at h;have⟨y,h⟩:=h;have⟨xs,j,h⟩:=cj.mp h;rw[ao]at h;have⟨k,u⟩:=r;cases u with
 |lst us =>
  cases j;show zB t pins s c0.σ c0.H R I ⟨c0,rfl,rfl,w,_,st1,x,λc v l hs g n f=>?_⟩;have⟨a',vs,rfl,q,A⟩:=f.list g;subst hs;show⟨a',rfl,⟨vs,i▸q⟩,h c _ l rfl g n y (vv i g f)⟩
 |tup us =>
  cases j;show CK t pins s c0.σ c0.H R I ⟨c0,rfl,rfl,w,_,st1,x,λc v l hs g n f=>?_⟩;have⟨a',vs,rfl,q,A⟩:=f.tuple g;subst hs;have z:=q;rw[i]at z;show⟨a',rfl,⟨vs,z⟩,h c _ l rfl g n y (rC i g f)⟩
 |_=>cases j
def xJ{k:List (Kd×U)->M β}{g:β->au->Prop}(i:Ok C c0)(h:W (ms >>= λrs=>aE rs >>= λ_=>k rs) c0.st g)
  (hz:∀rs c vs,J' C c0 c rs vs->W (k rs) c.st g->Z vs c.H):IX C ms c0.σ c0.H Z:=by
 rw[ah]at h;show⟨c0,rfl,rfl,i,h.mono λrs st1 f c1 vs j l n q r=>?_⟩;rw[ah,cJ]at f;subst l;show hz rs c1 vs ⟨j,n,q,r,f.1⟩ f.2
def AI(i:Gl X "range")(j:X.mg "range"=cb)(hs:i2 [a] X.env=[(cK,wk a X.env)])(k:PA X [a] (IX C ms)):PI X tg (.Call (.Name "range" p) [a] [] pos) (Lz C .IG ms):=by
 rintro pins s σ H R I ⟨c0,rfl,rfl,l,h⟩;show uM i j k hs pins s c0.σ c0.H R I (xJ l h λrs c vs t w=>?_);rw[ah]at w;have⟨xs,g,w⟩:=cj.mp w;rw[ao]at w;have⟨x,rfl,hz⟩:=bQ (f:=xp) g;clear g;have g:=hz;clear hz;have⟨v,rfl,n⟩:=t.one;unfold xp at g;split at g
 .split at g
  .rename_i q;cases g;show⟨_,by rw[n.int t.ok],⋯,⋯,w c _ t.hσ rfl t.ok t.nx t.MV rD⟩
  .cases g
 .cases g
def p9{k:Kd}{us:List U}{h:U}{a':hA}{w:Hp->List V->Prop}(G:∀f,Ok C f->Ns c f->kW [(k,h)] c f->bq [(k,h)] f.st->∃vs,w f.H vs/\aq C (SK C f k) f.H us vs):Walk C c [(k,h)] (us.zipIdx.map λp=>(kE k,.tup [.int p.2,p.1])) (ND w):=by
 intro f g n I hs;have⟨vs,j,y⟩:=G f g n I hs;show⟨λi r z=>?_,λi J=>⟨vs,j,by rw[<-y.len];simpa using J⟩⟩;rw[i7,eH]at z;have⟨p,A,rfl⟩:=z;rw[R',eH]at A;have⟨u,L,rfl⟩:=A;have⟨v,B,l⟩:=y.get L;show⟨xI k,⟨vs,v,j,B⟩,λx H' q=>?_⟩;have⟨p,N,rfl,q⟩:=q;have O:=q vs v j B;subst O;have⟨Q,t⟩:=g.lay (o:=.tup [.int i,v]) N;show⟨{f with H:=upd f.H p (.tup [.int i,v])},rfl,rfl,rfl,Q,t,aQ.item ?_⟩;have D:aq C (SK C f k) f.H [.int ((0+i:Nat):Int),u] [.int (i:Int),v]:=by
  rw[Oz];show⟨_,_,rfl,rfl,_,_,rfl,l,rfl⟩
 cases k<;>show⟨p,_,rfl,Ie.of ax,by first|show D.mv (g.LP t)|show D.mv (g.mv t)⟩
def DG{es:List mh}{z:Nat}{ps:Pos}(k:C.K=X.K)(A:Gl X "enumerate")(B:X.mg "enumerate"=cb)(hs:i2 [a] X.env=[(cK,wk a X.env)])(D:PA X [a] (IX C ms)):PI X (.Tuple es z ps) (.Call (.Name "enumerate" p) [a] [] pos) (Lz C .MR ms):=by
 rintro pins s σ H R I ⟨c0,rfl,rfl,G,h⟩;show zZ A B D hs pins s c0.σ c0.H R I (xJ G h λrs c vs t w=>?_);rw[ah]at w;have⟨xs,i,w⟩:=cj.mp w;rw[ao]at w;have⟨x,rfl,hz⟩:=bQ (f:=Dm) i;clear i;have i:=hz;clear hz;have⟨v,rfl,l⟩:=t.one;unfold Dm at i;split at i
 .cases i;have⟨a',ws,q,g,j⟩:=l.list t.ok;subst q;show⟨a',rfl,.inl ⟨⟨ws,k▸g⟩,w c _ t.hσ rfl t.ok t.nx t.MV ?_⟩⟩;show p9 (a':=a') λJ r n u y=>?_;have⟨L,vs,e,g,j⟩:=(aQ.walk t.ok n u y l).list r;cases e;show⟨vs,k▸g,j⟩
 .cases i;have⟨a',ws,q,g,j⟩:=l.tuple t.ok;subst q;rw[k]at g;show⟨a',rfl,.inr ⟨⟨ws,g⟩,w c _ t.hσ rfl t.ok t.nx t.MV ?_⟩⟩;show p9 (a':=a') λJ r n u y=>?_;have⟨L,vs,e,g,j⟩:=(aQ.walk t.ok n u y l).tuple r;cases e;rw[k]at g;show⟨vs,g,j⟩
 .cases i
def Ok.put(t:Ok C c)(n:Nx c0 c)(hi:i<c.σ.length)(hk:k=.own\/k=.loc\/k=.any)(Jj:Ok C c0)(h:aQ C c0 c k u v):
  Ok C {c with σ:=c.σ.set i (bD v),st:=c.st.set i (bD (k,u))}/\Nx c0 {c with σ:=c.σ.set i (bD v),st:=c.st.set i (bD (k,u))}:=by
 have I0:i<c.st.length:=by rw[t.len];show hi
 have HK:∀(j:Nat) k' u',(c.st.set i (bD (k,u)))[j]?=bD (bD (k',u'))->j≠i->c.st[j]?=bD (bD (k',u')):=λj k' u' e ne=>by rw[i1 (rz ne)]at e;show e
 have JP:∀(j:Nat) D,(c.σ.set i (bD v))[j]?=bD (bD D)->j≠i->c.σ[j]?=bD (bD D):=λj D e ne=>by rw[i1 (rz ne)]at e;show e
 have sl:eI C c.S c.H k u v:=by
  rcases hk with rfl|rfl|rfl
  .have⟨r,e,G,O,y,Q⟩:=h;have⟨z0,z1,T,z3,z4⟩:=Jj.jP G;show⟨r,e,O,T,z0,Q⟩
  .show h
  .show h
 have MX:∀(j:Nat) k' u' r,k'.root=b6->(c.st.set i (bD (k,u)))[j]?=bD (bD (k',u'))->(c.σ.set i (bD v))[j]?=bD (bD (.ref r))->j=i/\k=.own/\v=.ref r\/j≠i/\c.st[j]?=bD (bD (k',u'))/\c.σ[j]?=bD (bD (.ref r)):=λj k' u' r I f g=>by
  by_cases l:j=i
  .subst l;rw[ez I0]at f;rw[ez hi]at g;cases f;cases g;rcases hk with rfl|rfl|rfl
   .show .inl ⟨rfl,rfl,rfl⟩
   .cases I
   .cases I
  .show .inr ⟨l,HK j k' u' f l,JP j _ g l⟩
 have dD:∀(j:Nat) (u':U),(c.st.set i (bD (k,u)))[j]?=bD (bD (.Hl,u'))->c.st[j]?=bD (bD (.Hl,u'))/\(c.σ.set i (bD v))[j]?=c.σ[j]?:=λj u' e=>by
  by_cases l:j=i
  .subst l;rw[ez I0]at e;cases e;rcases hk with hk|hk|hk<;>cases hk
  .show⟨HK j .Hl u' e l,i1 (rz l)⟩
 have b1:∀a,({c with σ:=c.σ.set i (bD v),st:=c.st.set i (bD (k,u))}:Cf).R1 a->c.R1 a\/k=.own/\v=.ref a:=λa HD=>by
  have⟨j,k',u',I,f,g⟩:=HD;rcases MX j k' u' a I f g with⟨Y,w,x⟩|⟨Y,w,x⟩
  .show .inr ⟨w,x⟩
  .show .inl ⟨j,k',u',I,w,x⟩
 have Lb:KA C {c with σ:=c.σ.set i (bD v),st:=c.st.set i (bD (k,u))}:=t.dd.of rfl dD (λa z=>(b1 a z).imp id λ⟨J,L⟩ j z'=>by
  subst J;obtain⟨A,e,_,_,y,_⟩:=h;rw[L]at e;cases e;show y (.inr ⟨j,z'⟩)) (.up λ_ z=>z) λj a z=>⟨(t.root (.inr ⟨j,z⟩)).1,λo q=>q⟩
 show⟨⟨t.same,t.JA,t.par,t.io,by simp[t.len],λj k' u' e=>?_,λj1 j2 k1 k2 u1 u2 r MY OL f g N e4=>?_,Lb⟩,⟨⟨n.keep,n.there,λa z=>?_,n.sub,n.new⟩,λa ⟨j,u',A,f,g,N⟩=>let ⟨J,L⟩:=dD j u' f;n.dk a ⟨j,u',A,J,L▸g,N⟩⟩⟩
 .by_cases l:j=i
  .subst l;rw[ez I0]at e;cases e;show⟨v,by rw[ez hi],sl⟩
  .have⟨D,f,g⟩:=t.sl j k' u' (HK j k' u' e l);show⟨D,by rw[i1 (rz l)];show f,g⟩
 .have z1:=MX j1 k1 u1 r MY f N;have T:=MX j2 k2 u2 r OL g e4;rcases z1 with⟨Y,w,x⟩|⟨Y,w,x⟩
  .rcases T with⟨b1,B,b3⟩|⟨b1,B,b3⟩
   .show Y.trans b1.symm
   .subst w;have⟨A,e,G,O,y,Q⟩:=h;rw[x]at e;cases e;show(y (.inl ⟨j2,k2,u2,OL,B,b3⟩)).elim
  .rcases T with⟨b1,B,b3⟩|⟨b1,B,b3⟩
   .subst B;have⟨A,e,G,O,y,Q⟩:=h;rw[b3]at e;cases e;show(y (.inl ⟨j1,k1,u1,MY,w,x⟩)).elim
   .show t.inj j1 j2 k1 k2 u1 u2 r MY OL w B x b3
 .rcases z with z|⟨j,u',A,f,g,N⟩
  .rcases b1 a z with z|⟨w,x⟩
   .show n.roots a (.inl z)
   .subst w;have⟨A,e,G,O,y,Q⟩:=h;rw[x]at e;cases e;show .inr G
  .have⟨J,L⟩:=dD j u' f;show n.roots a (.inr ⟨j,u',A,J,L▸g,N⟩)
def tQ(z:Ok C c0)(q:Ok C c)(n:Nx c0 c)(A:i<c.σ.length)(t:aQ C c0 c r.1 r.2 v)(h:W (eJ i r) c.st J):
  ∃y,y.σ=c.σ.set i (bD v)/\y.H=c.H/\Ok C y/\Nx c0 y/\J () y.st:=by
 have⟨k,u⟩:=r;cases k with
 |own =>
  have⟨x,st',e,f⟩:=h;cases e;have⟨g,l⟩:=q.put n A (.inl rfl) z t;show⟨{c with σ:=c.σ.set i (bD v),st:=c.st.set i (bD (.own,u))},rfl,rfl,g,l,f⟩
 |loc =>
  have⟨x,st',e,f⟩:=h;cases e;have⟨g,l⟩:=q.put n A (.inr (.inl rfl)) z t;show⟨{c with σ:=c.σ.set i (bD v),st:=c.st.set i (bD (.loc,u))},rfl,rfl,g,l,f⟩
 |any =>
  have⟨x,st',e,f⟩:=h;cases e;have⟨g,l⟩:=q.put n A (.inr (.inr rfl)) z t;show⟨{c with σ:=c.σ.set i (bD v),st:=c.st.set i (bD (.any,u))},rfl,rfl,g,l,f⟩
 |bor j =>
  have⟨x,st',e,f⟩:=h;rw[show eJ i (.bor j,u) c.st=match c.st[j]? with|some (bD (.own,u))=>bD (Ex.ok (),(c.st.set j (bD (.loc,u))).set i (bD (.loc,u)))|_=>cb from rfl]at e;split at e
  .rename_i w D;cases e;obtain⟨Q,G,r,L,_⟩:=q.sl j _ _ D;have I:c.σ[j]?=bD (bD v):=t.2;rw[I]at G;cases G;subst L;have⟨N,O,B⟩:=q.xC n D I;have⟨g,l⟩:=Ok.put (c:={c with S:=λa=>c.S a\/a=r,st:=c.st.set j (bD (.loc,w))}) N O (k:=.loc) (u:=w) (v:=.ref r) A (.inr (.inl rfl)) z B;show⟨{S:=λa=>c.S a\/a=r,H:=c.H,σ:=c.σ.set i (bD (.ref r)),st:=(c.st.set j (bD (.loc,w))).set i (bD (.loc,w)),kid:=c.kid},rfl,rfl,g,l,f⟩
  .cases e
 |_=>show t.elim
end
section
abbrev tG(C:Ct)(t:Bool)(is:List Nat):TG:=λv σ H Q=>∃c0 c r,c.σ=σ/\c.H=H/\Ok C c0/\Ok C c/\Nx c0 c/\aQ C c0 c r.1 r.2 v/\W (dv t is r) c.st λ_ st' =>
 ∀a,a.st=st'->Ok C a->Nx c0 a->(∀j,j∉is->a.σ[j]?=c.σ[j]?)->a.σ.length=c.σ.length->Q a.σ a.H
structure rE(X:Cx)(e:mh)(i:Nat):Prop where
 is:∃x pos,e=.Name x pos/\X.N[i]?=bD x/\Loc X.env.scope x/\(X.fn x=b6\/X.env.scope.names.lookup x=bD .local)
def DH(g:X.N.Nodup)(h:rE X e i):PG X e (tG C cK [i]):=by
 have⟨x,pos,rfl,f,k,l⟩:=h.is;rintro a s σ H v u Q I rv ⟨c0,c,r,rfl,rfl,m,o,n,b,w⟩;have p:i<c.σ.length:=by rw[I.len];show(d3.mp f).1
 have⟨t,d,y,A,B,q⟩:=tQ (r:=r) m o n p b w;show sQ g f k l a s c.σ c.H v u Q I rv ?_;have z:=q t rfl A B (λj D=>by rw[d,i1 (by intro z;show D (by simp[z]))]) (by rw[d];simp);rw[d,y]at z;show z
abbrev R7:List Nat->Np
 |[]=>ET
 |i::is=>BN (sO i) (R7 is)
inductive ft(X:Cx):List mh->List Nat->Prop where
 |nil:ft X [] []
 |cons {e:mh} {es:List mh} {i:Nat} {is:List Nat} (h:rE X e i) (t:ft X es is):ft X (e::es) (i::is)
def vA(a:X.N.Nodup)(h:ft X es is):N2 X es (R7 is):=by
 induction h with
 |nil=>show zy
 |cons h t b =>
  have⟨x,pos,rfl,c,d,e⟩:=h.is;show we (sQ a c d e) b rfl
def rF(h:ft X es is):(Ox es X.env).length=is.length/\(Ox es X.env).findIdx? (·.1)=cb:=by
 induction h with
 |nil=>show⟨rfl,rfl⟩
 |cons h t a =>
  have⟨x,pos,rfl,b,c,d⟩:=h.is;show⟨?_,?_⟩
  .change(_::_).length=_;simp[a.1]
  .change WV _ (_::_)=cb;rw[List.findIdx?_cons,Z7 (by simp),a.2];rfl
theorem tR(hk:kE k=k)(h:Ok C c0):∀{is:List Nat}{us:List U}{vs:List V}{c:Cf}{d:Unit->au->Prop}{Q:L2.St->Hp->Prop},Ok C c->Nx c0 c->(∀i∈is,i<c.σ.length)->aq C (SK C c k) c.H us vs->W (sets is (us.map λu=>(k,u))) c.st d ->
  (∀b,d () b.st->Ok C b->Nx c0 b->(∀j,j∉is->b.σ[j]?=c.σ[j]?)->b.σ.length=c.σ.length->Q b.σ b.H)->R7 is vs c.σ c.H Q
 |[],[],vs,c,d,Q,ok,n,f,a,w,q=>by
  rw[show sets [] (O' (λu=>(k,u)) [])=pure () from rfl,ao]at w;show⟨a,q c w ok n (λ_ _=>rfl) rfl⟩
 |[],u::us,vs,c,d,Q,ok,n,f,a,w,q=>(bf.mp w).elim
 |i::is,[],vs,c,d,Q,ok,n,f,a,w,q=>(bf.mp w).elim
 |i::is,u::us,vs,c,d,Q,ok,n,f,a,w,q=>by
  rw[show sets (i::is) (O' (λu=>(k,u)) (u::us))=eJ i (k,u) >>= λ_=>sets is (us.map λu=>(k,u)) from rfl,ah]at w;have⟨v,r,rfl,l,m⟩:=a;have o:k=.own\/k=.loc\/k=.any:=by cases k<;>simp[kE]at hk<;>simp
  have D:k≠.own:=by cases k<;>simp[kE]at hk<;>simp
  have rt:aQ C c0 c k u v:=by rw[<-hk];show aQ.item l
  have⟨s,t⟩:=ok.put n (f i (by simp)) o h rt;have es:eJ i (k,u)=λst=>bD (.ok (),st.set i (bD (k,u))):=by cases k<;>simp[kE]at hk<;>rfl
  obtain⟨_,st',e,x⟩:=w;rw[es]at e;cases e;show⟨v,r,rfl,tR (c:={c with σ:=c.σ.set i (bD v),st:=c.st.set i (bD (k,u))}) hk h s t (λj g=>by simpa using f j (by simp[g])) (by cases k<;>show m) x λb p y A B hl=>?_⟩;show q b p y A (λj g=>?_) (by rw[hl];simp);rw[B j (λz=>g (by simp[z])),i1 (λz=>g (by simp[z]))]
def Ft(m:X.calm=b6)(o:C.K=X.K)(q:X.N.Nodup)(h:ft X es is)(hl:∀i∈is,i<X.N.length):PG X (.Tuple es Y pos) (tG C b6 is):=by
 rintro a s σ H v u Q I rv ⟨c0,c,r,rfl,rfl,t,f,n,d,w⟩;have⟨y,z⟩:=rF h;show CF m (vA q h) y z a s c.σ c.H v u Q I rv ?_;have⟨k,A⟩:=r;cases A with
 |tup us =>
  rw[show dv b6 is (k,.tup us)=sets is (us.map λu=>(kE k,u)) from by cases is<;>rfl]at w;have⟨a',vs,rfl,g,j⟩:=d.tuple f;rw[o]at g;have b:us.length=is.length:=by
   have e:∀(is:List Nat) (l:List (Kd×U)) (st:au) (P:Unit->au->Prop),W (sets is l) st P->l.length=is.length:=by
    intro is;induction is with
    |nil=>intro l st P w;cases l with
     |nil=>rfl
     |cons _ _=>show(bf.mp w).elim
    |cons i is B=>intro l st P w;cases l with
     |nil=>show(bf.mp w).elim
     |cons x l =>
      rw[show sets (i::is) (x::l)=eJ i x >>= λ_=>sets is l from rfl,ah]at w;obtain⟨_,_,_,w⟩:=w;rw[ke,ke,B l _ _ w]
   simpa using e _ _ _ _ w
  show⟨a',vs,rfl,g,by rw[<-j.len,b],?_⟩;show tR (k:=kE k) (by cases k<;>rfl) t f n (λi D=>by rw[I.len];show hl i D) (by cases k<;>show j) w λG p J L O T=>p G rfl J L O T
 |_=>cases is<;>show(bf.mp w).elim
end
section
variable{X:Cx}{C:Ct}{pins:List (hA×Obj)}{s:gs}{c0 c c1:Cf}
variable{a b d e o tg iter elt:mh}{es ifs:List mh}{m ma mb md me:M (Kd×U)}{ms:M (List (Kd×U))}{ta tb tc:M Bool}{pos p p2 apos F':Pos}
def vB{m:M α}{st:au}{Q:α->au->Prop}:W (inScope k m) st Q↔W m (i5 k cb++st) λa st'=>Q a (st'.drop k):=by
 constructor
 .rintro⟨a,st',e,h⟩;unfold inScope at e;cases q:m (i5 k cb++st) with
  |none=>rw[q]at e;cases e
  |some r=>have⟨g,f⟩:=r;rw[q]at e;cases e;show⟨a,f,q,h⟩
 .rintro⟨a,st',e,h⟩;show⟨a,st'.drop k,by unfold inScope;rw[e],h⟩
abbrev Cf.ext(k:Nat)(c:Cf):Cf:={c with σ:=i5 k cb++c.σ,st:=i5 k cb++c.st,kid:=λj=>c.kid (j - k)}
abbrev Cf.cut(k:Nat)(c:Cf):Cf:={c with σ:=c.σ.drop k,st:=c.st.drop k,kid:=λj=>c.kid (k+j)}
def gk(h:(i5 k cb++l)[j]?=bD (bD x)):∃i,j=k+i/\l[i]?=bD (bD x):=by
 by_cases f:j<k
 .rw[u5 (by simpa using f)]at h;rw[Jb]at h;rw[Z6 f]at h;cases h
 .show⟨j - k,⋯,?_⟩;rw[nC (by simp;lia)]at h;simpa using h
def fu:(i5 k cb++l)[k+i]?=l[i]?:=by
 rw[nC (by simp)];simp
def xK:(c.ext k).R1 r↔c.R1 r:=by
 constructor
 .rintro⟨j,g,u,h,l,f⟩;have⟨i,rfl,e⟩:=gk l;rw[Cf.ext,fu]at f;show⟨i,g,u,h,e,f⟩
 .rintro⟨i,g,u,h,l,f⟩;show⟨k+i,g,u,h,by rw[Cf.ext,fu];show l,by rw[Cf.ext,fu];show f⟩
def kX{a:hA}(h:(c.ext k).RD j a):∃i,j=k+i/\c.RD i a:=by
 have⟨u,r,l,f,g⟩:=h;have⟨i,rfl,e⟩:=gk l;rw[Cf.ext,fu]at f;show⟨i,rfl,u,r,e,f,?_⟩;have:(c.ext k).kid (k+i)=c.kid i:=by change c.kid (k+i - k)=_;rw[W9]
 rw[this]at g;show g
def Fu(h:(c.ext k).R r):c.R r:=by
 rcases h with h|⟨j,h⟩
 .show .inl (xK.mp h)
 .obtain⟨i,_,h⟩:=kX h;show .inr ⟨i,h⟩
def Ok.ext(k:Nat)(f:Ok C c):Ok C (c.ext k)/\Nx c (c.ext k):=by
 show⟨⟨f.same,f.JA,f.par,f.io,by simp[Cf.ext,f.len],λj D u e=>?_,λi j k1 k2 u u' r G H l g A B=>?_,⟨λj u r l g=>?_,λi j a n q=>?_,λj a n q=>?_⟩⟩,⟨⟨λ_ _ h _=>h,λ_ o h=>⟨o,h⟩,λa h=>.inl (Fu h),λ_ h=>h,λ_ h=>.inl h⟩,λa ⟨j,z⟩=>let ⟨i,_,y⟩:=kX z;⟨⟨i,y⟩,λ_ e=>e⟩⟩⟩
 .have⟨i,rfl,I⟩:=gk e;have⟨v,l,g⟩:=f.sl i D u I;show⟨v,by rw[Cf.ext,fu];show l,g⟩
 .have⟨t,rfl,J⟩:=gk l;have⟨w,rfl,L⟩:=gk g;rw[Cf.ext,fu]at A B;rw[f.inj t w k1 k2 u u' r G H J L A B]
 .have⟨i,rfl,e⟩:=gk l;rw[Cf.ext,fu]at g;have:(c.ext k).kid (k+i)=c.kid i:=by change c.kid (k+i - k)=_;rw[W9]
  rw[this];show f.dd.kd i u r e g
 .have⟨t,rfl,x⟩:=kX n;have⟨w,rfl,N⟩:=kX q;rw[f.dd.dj t w a x N]
 .have⟨i,rfl,x⟩:=kX n;show f.dd.d1 i a x (xK.mp q)
def xM{a:hA}(h:(c.cut k).R1 a):c.R1 a:=by
 have⟨j,i,u,l,f,g⟩:=h;rw[Cf.cut,Kj]at f g;show⟨k+j,i,u,l,f,g⟩
def kY{a:hA}(h:(c.cut k).RD j a):c.RD (k+j) a:=by
 have⟨u,r,f,g,i⟩:=h;rw[Cf.cut,Kj]at f g;show⟨u,r,f,g,i⟩
def Ok.cut(k:Nat)(f:Ok C c):Ok C (c.cut k)/\Nx c (c.cut k):=by
 show⟨⟨f.same,f.JA,f.par,f.io,by simp[Cf.cut,f.len],λj x u e=>?_,λi j k1 k2 u u' r y A g l t w=>?_,⟨λj u r g l=>?_,λi j a n q=>?_,λj a n q=>f.dd.d1 _ a (kY n) (xM q)⟩⟩,⟨⟨λ_ _ h _=>h,λ_ o h=>⟨o,h⟩,λa h=>.inl (h.elim (λz=>.inl (xM z)) λ⟨j,z⟩=>.inr ⟨k+j,kY z⟩),λ_ h=>h,λ_ h=>.inl h⟩,λa ⟨j,z⟩=>⟨⟨_,kY z⟩,λ_ e=>e⟩⟩⟩
 .rw[Cf.cut,Kj]at e;have⟨v,g,l⟩:=f.sl _ x u e;show⟨v,by rw[Cf.cut,Kj];show g,l⟩
 .rw[Cf.cut,Kj]at g l t w;have:=f.inj _ _ k1 k2 u u' r y A g l t w;lia
 .rw[Cf.cut,Kj]at g l;show f.dd.kd _ u r g l
 .have:=f.dd.dj _ _ a (kY n) (kY q);lia
def AJ(h:∀j,j∉hQ k->g[j]?=(i5 k cb++σ)[j]?)(hl:g.length=(i5 k (cb:Option V)++σ).length):∃f:L2.St,f.length=k/\g=f++σ:=by
 show⟨g.take k,by rw[G1,hl];simp,?_⟩;apply Yt;intro j;by_cases i:j<k
 .rw[u5 (by rw[G1,hl];simp;lia),List.getElem?_take,Z6 i]
 .rw[h j (by simpa using i),nC (by simp;lia),nC (by rw[G1,hl];simp;lia)];congr 1
  rw[G1,hl];simp
def mM(e1:c1.σ=c0.σ)(Hv:Ok C c1)(n1:Nx c0 c1)(hw:Walk C c1 rs xs J)(h3:W (bP k t tc me rs xs []) c1.st λus st'=>W (pure (Kd.own,U.lst us)) st' (cw C c0 Q)):
  sW k J (tG C t (hQ k)) (IW C tc) (Ht C me) Q c0.σ c1.H:=by
 show⟨λi m ys H=>∃c acc,c.H=H/\c.σ=c0.σ/\Ok C c/\Nx c1 c/\m=xs.length - i/\i<=xs.length/\aq C c.S c.H acc ys/\acc.length<=df/\W (bP k t tc me rs (xs.drop i) acc) c.st λus st'=>W (pure (Kd.own,U.lst us)) st' (cw C c0 Q),⟨xs.length,c1,[],rfl,e1,Hv,Nx.refl c1,by simp,i8 _,rfl,i8 _,by simpa using h3⟩,?_⟩;rintro i m ys H ⟨c,acc,rfl,D,q,y,rfl,hi,g,h,w⟩;show⟨by rw[<-g.len];show h,?_⟩;have f:kW rs c1 c:=λj u _=>by rw[D,e1]
 by_cases G:i<xs.length
 .right
  rw[Wb G]at w;rw[show bP k t tc me rs (xs[i]::xs.drop (i+1)) acc=aE rs >>= λ_=>inScope k (dv t (hQ k) xs[i] >>= λ_=>tc >>= λb=>if b=b6 then(me >>= λr=>lift r >>= λu=>pure (bD u)) else pure cb) >>= λr=>match r with|some u=>if acc.length<df then bP k t tc me rs (xs.drop (i+1)) (acc++[u]) else M.fail|none=>bP k t tc me rs (xs.drop (i+1)) acc from rfl,ah,cJ]at w;have⟨Le,w⟩:=w;obtain⟨I,_⟩:=hw c q y f Le;have⟨R8,NO,R9⟩:=I i xs[i] (by simp[G]);show⟨NO,λJy H'=>∃c acc,c.H=H'/\c.σ=c0.σ/\Ok C c/\Nx c1 c/\aq C c.S c.H acc Jy/\acc.length<=df/\W (bP k t tc me rs (xs.drop (i+1)) acc) c.st λus st'=>W (pure (Kd.own,U.lst us)) st' (cw C c0 Q),λJy H' ⟨c',Ip,z1,z2,z3,z4,z5,z6,z7⟩=>⟨xs.length - (i+1),⋯,c',Ip,z1,z2,z3,z4,rfl,G,z5,z6,z7⟩,λx H' hy=>?_⟩;have⟨l,rfl,e4,e5,HP,n2,rt⟩:=R9 x H' hy;rw[ah,vB,ah]at w;have⟨T3,nx⟩:=HP.ext k;have Wf:aQ C (l.ext k) (l.ext k) xs[i].1 xs[i].2 x:=by
   rcases R8 with z|z
   .rw[z]at rt ⊢;show rt
   .rw[z]at rt ⊢;show rt
  have eσ:(l.ext k).σ=i5 k cb++c0.σ:=by rw[Cf.ext];change i5 k cb++l.σ=_;rw[e4,D]
  show⟨l.ext k,l.ext k,xs[i],eσ,rfl,T3,T3,Nx.refl _,Wf,?_⟩;have R_:(l.ext k).st=i5 k cb++c.st:=by rw[Cf.ext];change i5 k cb++l.st=_;rw[e5]
  rw[R_];show w.mono λ_ H9 w3 c3 e6 Ka n3 OO NP=>?_;subst e6;rw[eσ]at OO NP;have⟨L,N,O⟩:=AJ OO NP;show⟨L,N,O,?_⟩;have T4:Nx c c3:=(n2.trans nx).trans n3;rw[ah]at w3;show⟨c3,rfl,rfl,Ka,w3.mono λb Nw n B e7 e8 T n4=>?_⟩;subst e8;cases b with
  |false =>
   rw[Z7 i6]at n ⊢;rw[ao]at n;have⟨Y,nk⟩:=T.cut k;have nn:Nx c (B.cut k):=(T4.trans n4).trans nk;show⟨B.cut k,acc,rfl,?_,Y,y.trans nn,g.mv (q.mv nn),h,n⟩;change B.σ.drop k=_;rw[e7,O,UM N]
  |true =>
   rw[Z6 rfl]at n ⊢;rw[ah]at n;show⟨B,e7,rfl,T,n.mono λr Ky w5 c5 v e9 Wg Wh n5 Wi=>?_⟩;subst Wg;rw[ah]at w5;obtain⟨S',st',u,sS,Wj,n6,Sb,A,_,_⟩:=gh T Wh n5 Wi.w w5;rw[ao]at A
   dsimp only at A
   split at A
   .rename_i hz;have⟨Y,nk⟩:=Wj.cut k;have nn:Nx c (Cf.cut k {c5 with S:=S',st:=st' }):=((T4.trans n4).trans n6).trans nk;show⟨Cf.cut k {c5 with S:=S',st:=st' },acc++[u],rfl,?_,Y,y.trans nn,(g.mv (q.mv nn)).snoc Sb,by rw[i0];show hz,A⟩;change c5.σ.drop k=_;rw[e9,O,UM N]
   .show(bf.mp A).elim
 .left
  have I0:i=xs.length:=by lia
  subst I0;rw[YB,show bP k t tc me rs [] acc=aE rs >>= λ_=>pure acc from rfl,ah,cJ,ao,ao]at w;obtain⟨_,I⟩:=hw c q y f w.1;show⟨I _ (ix _),λp hp=>cw.list w.2 D q (n1.trans y) g p hp⟩
def mN(l:Ok C c0)
  (h:W (ms >>= λrs=>aE rs >>= λ_=>M.HG (Ju ik rs) >>= λxs=>bP k t tc me rs xs [] >>= λus=>pure (Kd.own,U.lst us)) c0.st (cw C c0 Q)) :
  wM k (Lz C ik ms) (tG C t (hQ k)) (IW C tc) (Ht C me) c0.σ c0.H Q:=by
 rw[ah]at h;show⟨c0,rfl,rfl,l,?_⟩;rw[ah];show h.mono λrs st1 f=>?_;rw[ah,cJ]at f ⊢;show⟨f.1,?_⟩;have g:=f.2;rw[ah]at g ⊢;show g.mono λxs st2 i=>?_;rw[ao];intro c1 J n q r u v j;rw[ah]at i;subst q
 dsimp only at v j
 show mM n r u j i
def xN(S:dR X N own scope)(f:X.calm=b6)(g:PI X tg iter (Lz C ik ms))
  (i:∀D s H ex,PG (IC X N scope D s H ex) tg (tG C t (hQ own.length))) (j:∀D s H ex,Ls (IC X N scope D s H ex) ifs (IW C tc)) (k:∀D s H ex,PE (IC X N scope D s H ex) elt (Ht C me))
  (hs:∀x,Lo iter X.env x=pure x) :
  PE X (.ListComp elt [⟨tg,iter,ifs,0⟩] scope pos) (Ht C (ms >>= λrs=>aE rs >>= λ_=>M.HG (Ju ik rs) >>= λxs=>bP own.length t tc me rs xs [] >>= λus=>pure (.own,.lst us))):=by
 show PE.weak (sX S f g i j k hs) ?_;rintro σ H Q ⟨c0,rfl,rfl,l,h⟩;show mN l h
end
section
variable{a b d e o tg iter elt:mh}{es ifs:List mh}{m ma mb md me:M (Kd×U)}{ms:M (List (Kd×U))}{ta tb tc:M Bool}{pos p p2 apos F':Pos}{st:ME}{rest body:List ME}{f g mm:M Fl}{ns IM:Nat->Bool}
def DI(C:Ct)(c:Cf):Kd->U->V->Prop
 |.own,u,v=>∃r,v=.ref r/\C.H₀ r=cb/\¬c.S r/\¬c.R r/\cW C c.S c.H r u
 |.loc,u,v=>Rep C c.S c.H u v
 |.any,u,v=>Rep C (PS C c.S) c.H u v
 |_,_,_=>False
abbrev Fin(C:Ct)(D:Ends)(f:Fl)(c:Cf):Prop:=match f with
 |.nx=>D.nx c.σ c.H
 |.bk=>D.bk c.σ c.H
 |.ct=>D.ct c.σ c.H
 |.rt k u=>∀v,DI C c k u v->D.rt v c.H
abbrev Kept(ns:Nat->Bool)(c h:Cf):Prop:=(∀j,ns j=b6->h.σ[j]?=c.σ[j]?)/\h.σ.length=c.σ.length
def Kept.refl:Kept ns c c:=⟨λ_ _=>rfl,rfl⟩
def Kept.trans(h:Kept ns c i)(h':Kept ns i k):Kept ns c k:=⟨λj z=>(h'.1 j z).trans (h.1 j z),h'.2.trans h.2⟩
def Kept.le(i:∀j,IM j=b6->ns j=b6)(h:Kept ns c k):Kept IM c k:=⟨λj z=>h.1 j (i j z),h.2⟩
def Kept.of(h:i.σ=c.σ):Kept ns c i:=⟨λj z=>by rw[h],by rw[h]⟩
abbrev jB(C:Ct)(c0:Cf)(ns:Nat->Bool)(D:Ends)(f:Fl)(st':au):Prop:=∀c,c.st=st'->Ok C c->Ns c0 c->Kept ns c0 c->Fin C D f c
abbrev IA(C:Ct)(ns:Nat->Bool)(m:M Fl):TS:=λD σ H=>∃c0:Cf,c0.σ=σ/\c0.H=H/\Ok C c0/\W m c0.st (jB C c0 ns D)
def rG(c:Ok C c1)(n:Ns c0 c1)(k:Kept ns c0 c1)(h:W mm c1.st (jB C c0 ns D)):IA C ns mm D c1.σ c1.H :=
 ⟨c1,rfl,rfl,c,h.mono λf st i j e l q k2=>i j e l (n.trans q) (k.trans k2)⟩
def PS.weak(h:L2.PS X st t)(i:∀D σ H,t' D σ H->t D σ H):L2.PS X st t':=λc s σ H D I q=>h c s σ H D I (i D σ H q)
def IJ.weak(h:IJ X rest t)(i:∀D σ H,t' D σ H->t D σ H):IJ X rest t':=λc s σ H D I q=>h c s σ H D I (i D σ H q)
def oy(i:∀j,IM j=b6->ns j=b6)(h:IA C IM mm D σ H):IA C ns mm D σ H :=
 let ⟨c0,c,k,l,w⟩:=h;⟨c0,c,k,l,w.mono λf st n q e r s k2=>n q e r s (k2.le i)⟩
def Fv:IJ X [] (IA C ns (pure .nx)):=by
 show IJ.weak zw ?_;rintro D σ H ⟨c0,rfl,rfl,c,h⟩;rw[ao]at h;show h c0 rfl c (Ns.refl c0) Kept.refl
abbrev AK(m:M Fl)(f:Fl):M Fl:=match f with
 |.nx=>m
 |f=>pure f
def DJ(j:L2.PS X st (IA C ns f))(l:IJ X rest (IA C ns g)):IJ X (st::rest) (IA C ns (f >>= AK g)):=by
 show IJ.weak (wb j l) ?_;rintro D σ H ⟨c0,rfl,rfl,n,h⟩;rw[ah]at h;show⟨c0,rfl,rfl,n,h.mono λq st1 w c1 e c i k1=>?_⟩;subst e;cases q with
 |nx=>show rG c i k1 w
 |bk=>rw[show AK g .bk=pure .bk from rfl,ao]at w;show w c1 rfl c i k1
 |ct=>rw[show AK g .ct=pure .ct from rfl,ao]at w;show w c1 rfl c i k1
 |rt k u=>rw[show AK g (.rt k u)=pure (.rt k u) from rfl,ao]at w;show w c1 rfl c i k1
def Fw(i:PE X a (Ht C ma))(hs:PZ a cb pos.line X.env=pure cK):L2.PS X (.Expr a pos) (IA C ns (ma >>= λ_=>pure .nx)):=by
 show PS.weak (ig i hs) ?_;rintro D σ H ⟨c0,rfl,rfl,j,h⟩;show aP j h λx c v t w=>?_;rw[ao]at w;have:=w c rfl t.ok t.nx (Kept.of t.hσ);rw[<-t.hσ];show this
def DK:L2.PS X (.Return cb pos) (IA C ns (pure (.rt .loc .Hs))):=by
 show PS.weak zx ?_;rintro D σ H ⟨c0,rfl,rfl,c,h⟩;rw[ao]at h;show h c0 rfl c (Ns.refl c0) Kept.refl .Hs rfl
def xO(ok:Ok C c0)(t:LV C c0 c x v)(w:W (retS x) c.st (jB C c0 ns D)):D.rt v c.H:=by
 have⟨k,u⟩:=x;have⟨G,l,n,r⟩:=t;cases k with
 |own =>
  rw[show retS (.own,u)=pure (.rt .own u) from rfl,ao]at w;have⟨B,e,h1,h2,h3,h4⟩:=r;show w c rfl l n (Kept.of G) v ⟨B,e,(ok.jP h1).1,h2,h3,h4⟩
 |loc =>
  rw[show retS (.loc,u)=pure (.rt .loc u) from rfl,ao]at w;show w c rfl l n (Kept.of G) v r
 |any =>
  rw[show retS (.any,u)=if HM u=b6 then pure (.rt .loc u) else pure (.rt .any u) from rfl]at w;split at w
  .rw[ao]at w;show w c rfl l n (Kept.of G) v (Rep.HM (by assumption) r)
  .rw[ao]at w;show w c rfl l n (Kept.of G) v r
 |bor j =>
  have⟨fl,st',e,w⟩:=w;rw[show retS (.bor j,u) c.st=match c.st[j]? with|some (bD (.own,u))=>bD (Ex.ok (Fl.rt .own u),c.st.set j cb)|_=>cb from rfl]at e;split at e
  .rename_i u' J;cases e;have Lc:j<c.st.length:=(d3.mp J).1;have A:∀(i:Nat) k u',(c.st.set j cb)[i]?=bD (bD (k,u'))->i≠j/\c.st[i]?=bD (bD (k,u')):=λi k u' e=>by
    by_cases L:i=j
    .subst L;rw[ez Lc]at e;cases e
    .rw[i1 (rz L)]at e;show⟨L,e⟩
   have⟨v',s,B,er,q1,q2,q3,q4⟩:=l.sl j _ _ J;have N:c.σ[j]?=bD (bD v):=r.2;rw[N]at s;cases s;subst er;have Q:∀a,({c with st:=c.st.set j cb}:Cf).R1 a->c.R1 a:=λa ⟨i,k,h,hk,s,y⟩=>⟨i,k,h,hk,(A i k h s).2,y⟩
   have hR:∀a,({c with st:=c.st.set j cb}:Cf).R a->c.R a:=λa z=>z.elim (λz=>.inl (Q a z)) λ⟨i,h,O,s,y,I⟩=>.inr ⟨i,h,O,(A i .Hl h s).2,y,I⟩;have Lb:KA C {c with st:=c.st.set j cb}:=l.dd.of rfl (λi h e=>⟨(A i .Hl h e).2,rfl⟩) (λa z=>.inl (Q a z)) (.up λ_ z=>z) λi a z=>⟨(l.root (.inr ⟨i,z⟩)).1,λo q=>q⟩
   have Wk:Ok C {c with st:=c.st.set j cb}:=⟨l.same,l.JA,l.par,l.io,by simp[l.len],λi k h e=>l.sl i k h (A i k h e).2,λi T k k' Y h r hk Il s y I e4=>l.inj i T k k' Y h r hk Il (A i k Y s).2 (A T k' h y).2 I e4,Lb⟩
   have nn:Ns c0 {c with st:=c.st.set j cb}:=⟨n.keep,n.there,λa z=>n.roots a (hR a z),n.sub,n.new⟩
   show w {c with st:=c.st.set j cb} rfl Wk nn (Kept.of G) (.ref B) ⟨B,rfl,q3,q1,λz=>?_,q4⟩
   .rcases z with⟨i,k,h,hk,s,y⟩|⟨i,h,O,s,y,I⟩
    .have⟨ne,Iu⟩:=A i k h s;show ne (l.inj i j k .own h _ B hk rfl Iu J y N)
    .show l.dd.d1 i B ⟨h,O,(A i .Hl h s).2,y,I⟩ ⟨j,.own,_,rfl,J,N⟩
  .cases e
 |_=>show r.elim
def Fx(j:PE X a (Ht C ma)):L2.PS X (.Return (bD a) pos) (IA C ns (ma >>= retS)):=by
 show PS.weak (wc j) ?_;rintro D σ H ⟨c0,rfl,rfl,i,h⟩;show aP i h λx c v t w=>xO i t w
end
section
def p_(e:∀j,ns j=b6->j≠i)(f:Ok C c0)(t:LV C c0 c r v)(g:i<c.σ.length)(w:W (eJ i r >>= λ_=>(pure .nx:M Fl)) c.st (jB C c0 ns D)):D.nx (c0.σ.set i (bD v)) c.H:=by
 rw[ah]at w;have⟨a,b,h,k,l,q⟩:=tQ (r:=r) f t.ok t.nx g t.rx w;rw[ao]at q;have z:=q a rfl k l ⟨λj m=>by rw[b,t.hσ,i1 (rz (e j m))],by rw[b,t.hσ];simp⟩;have d:D.nx a.σ a.H:=z;rw[b,h,t.hσ]at d;show d
def BU(g:∀j,ns j=b6->j≠i)(k:X.N.Nodup)(e:X.N[i]?=bD x)(l:Loc X.env.scope x)(m:X.fn x=b6\/X.env.scope.names.lookup x=bD .local)(n:PE X a (Ht C o))
  (hs:PZ a (bD (.Name x b)) pos.line X.env=pure cK):L2.PS X (.Assign [.Name x b] a pos) (IA C ns (o >>= λr=>eJ i r >>= λ_=>pure .nx)):=by
 rintro d s σ H D I ⟨c0,rfl,rfl,f,h⟩;have p:i<c0.σ.length:=by rw[I.len];show(d3.mp e).1
 show wj k e l n hs m d s c0.σ c0.H D I (aP f h λr c v t w=>p_ g f t (by rw[t.hσ];show p) w)
def DL(l:∀j,ns j=b6->j≠i)(S:dR X N own scope)(m:X.calm=b6)(o:X.N.Nodup)(f:X.N[i]?=bD y)(p:X.env.scope.names.lookup y=bD .local)
  (q:PI X e a (Lz C ik ms)) (u:∀D s H ex,PG (IC X N scope D s H ex) e (tG C t (hQ own.length))) (z:∀D s H ex,Ls (IC X N scope D s H ex) b (IW C A)) (B:∀D s H ex,PE (IC X N scope D s H ex) elt (Ht C G))
  (J:PZ (.ListComp elt [⟨e,a,b,0⟩] scope pos) (bD (.Name y L)) O.line X.env=pure b6) (hs:∀x,Lo a X.env x=pure x) :
  L2.PS X (.Assign [.Name y L] (.ListComp elt [⟨e,a,b,0⟩] scope pos) O)
   (IA C ns ((ms >>= λrs=>aE rs >>= λ_=>M.HG (Ju ik rs) >>= λxs=>bP own.length t A G rs xs [] >>= λus=>pure (.own,.lst us)) >>= λr=>eJ i r >>= λ_=>pure .nx)):=by
 rintro d s σ H D I ⟨c0,rfl,rfl,g,h⟩;have Q:i<c0.σ.length:=by rw[I.len];show(d3.mp f).1
 show zT S m o f p q u z B J hs d s c0.σ c0.H D I ?_;rw[ah]at h;show mN g (h.mono λr st1 w c v k T Y n rt=>?_);subst T;show p_ l g ⟨k,Y,n,rt⟩ (by rw[k];show Q) w
def DM(g:∀j,ns j=b6->j∉is)(i:PE X a (Ht C k))(l:PG X b (tG C b6 is))(hs:Qe [b] a pos.line X.env=pure cK)(m:Ue [b] a X.env=pure cb)(n:(Ox [b] X.env).map (·.2)=[QX b X.env]):
  L2.PS X (.Assign [b] a pos) (IA C ns (k >>= λr=>dv b6 is r >>= λ_=>pure .nx)):=by
 show PS.weak (qP i l hs m n) ?_;rintro D σ H ⟨c0,rfl,rfl,d,h⟩;show aP d h λr c v t w=>?_;rw[ah]at w;show⟨c0,c,r,t.hσ,rfl,d,t.ok,t.nx,t.rx,w.mono λ_ st1 f o e p q s hl=>?_⟩;subst e;rw[ao]at f;show f o rfl p q ⟨λj u=>by rw[s j (g j u),t.hσ],by rw[hl,t.hσ]⟩
def Fy(i:PT X a (IW C j))(k:IJ X l (IA C ns f))(m:IJ X o (IA C ns g)):L2.PS X (.If a l o pos) (IA C ns (j >>= λp=>if p=b6 then f else g)):=by
 show PS.weak (ES i k m) ?_;rintro D σ H ⟨c0,rfl,rfl,q,h⟩;show eU q h λp c b d n w=>?_;have e:c0.σ=c.σ:=b.symm;rw[e];cases p with
 |true=>rw[Z6 rfl]at w ⊢;show rG d n (Kept.of b) w
 |false=>rw[Z7 i6]at w ⊢;show rG d n (Kept.of b) w
def Fz(J:V_ (hH X.prog X.w) X.A X.env X.xe)(L:PT X a (IW C d))(N:IJ X body (IA C ns f)):L2.PS X (.While a body [] pos) (IA C ns (fG d f n)):=by
 show PS.weak (wm J L N) ?_;rintro D σ H ⟨c0,rfl,rfl,O,h⟩;show⟨λm s H'=>∃c,c.H=H'/\c.σ=s/\Ok C c/\Ns c0 c/\Kept ns c0 c/\W (fG d f m) c.st (jB C c0 ns D),⟨n,c0,rfl,rfl,O,Ns.refl c0,Kept.refl,h⟩,?_⟩;rintro m s H' ⟨c,rfl,rfl,Q,t,v,w⟩;cases m with
 |zero=>show(bf.mp w).elim
 |succ m =>
  rw[show fG d f (m+1)=d >>= λb=>if b=b6 then(f >>= λf'=>match f' with|.nx=>fG d f m|.ct=>fG d f m|.bk=>pure .nx|.rt k u=>pure (.rt k u)) else pure .nx from rfl]at w;show eU Q w λp j x y B g=>?_;have k2:Kept ns c j:=Kept.of x;rw[<-x];cases p with
  |false =>
   rw[Z7 i6]at g ⊢;rw[ao]at g;show g j rfl y (t.trans B) (v.trans k2)
  |true =>
   rw[Z6 rfl]at g ⊢;show⟨λG I=>∃c,c.H=I/\c.σ=G/\Ok C c/\Ns c0 c/\Kept ns c0 c/\W (fG d f m) c.st (jB C c0 ns D),λG I z=>⟨m,Nb m,z⟩,?_⟩;rw[ah]at g;show⟨j,rfl,rfl,y,g.mono λT H9 i l e o Y k3=>?_⟩;subst e;have q:=(t.trans B).trans Y;have r:=(v.trans k2).trans k3;cases T with
   |nx=>show⟨l,rfl,rfl,o,q,r,i⟩
   |ct=>show⟨l,rfl,rfl,o,q,r,i⟩
   |_=>rw[ao]at i;show i l rfl o q r
def FA(hp:V_ (hH X.prog X.w) X.A X.env X.xe)(hc:X.calm=b6)(hi:PI X tg a (Lz C ik ms))(hg:PG X tg (tG C t is))(hb:IJ X body (IA C (Jv q) f))(hs:∀x,Lo a X.env x=pure x)
  (Jd:∀j,ns j=b6->j∉is/\Jv q j=b6) :
  L2.PS X (.For tg a body [] pos) (IA C ns (ms >>= λrs=>aE rs >>= λ_=>M.HG (Ju ik rs) >>= λxs=>if tH rs is q=b6 then forM t is f rs xs else M.fail)):=by
 show PS.weak (CL hp hc hi hg hb hs) ?_;rintro D σ H ⟨c0,rfl,rfl,ok,h⟩;rw[ah]at h;show⟨c0,rfl,rfl,ok,?_⟩;rw[ah];show h.mono λrs st1 r=>?_;rw[ah,cJ]at r ⊢;show⟨r.1,?_⟩;have h2:=r.2;rw[ah]at h2 ⊢;show h2.mono λxs st2 s=>?_;rw[ao];intro c1 J e1 e2 Hv n1 Hx v;subst e2
 dsimp only at Hx v
 split at s
 .rename_i M0;have Sf:∀j u,(Kd.bor j,u)∈rs->j∉is/\Jv q j=b6:=λj u l=>by
   have:=ko.mp M0 _ l;simpa using this
  show⟨λi m d H'=>∃c,c.H=H'/\c.σ=d/\Ok C c/\Ns c1 c/\Kept ns c0 c/\kW rs c1 c/\m=xs.length - i/\i<=xs.length/\W (forM t is f rs (xs.drop i)) c.st (jB C c0 ns D),
   ⟨xs.length,c1,rfl,e1,Hv,Ns.refl c1,Kept.of e1,λ_ _ _=>rfl,by simp,i8 _,by simpa using s⟩,?_⟩
  rintro i m d H' ⟨c,rfl,rfl,y,n,kc,B,rfl,I0,w⟩;by_cases G:i<xs.length
  .right
   rw[Wb G,show forM t is f rs (xs[i]::xs.drop (i+1))=aE rs >>= λ_=>dv t is xs[i] >>= λ_=>f >>= λf'=>match f' with|.nx=>forM t is f rs (xs.drop (i+1))|.ct=>forM t is f rs (xs.drop (i+1))|.bk=>pure .nx|.rt k u=>pure (.rt k u) from rfl,ah,cJ]at w;have⟨Le,w⟩:=w;obtain⟨I,_⟩:=v c y n B Le;have⟨R8,NO,R9⟩:=I i xs[i] (by simp[G]);show⟨NO,λd H'=>∃c,c.H=H'/\c.σ=d/\Ok C c/\Ns c1 c/\Kept ns c0 c/\kW rs c1 c/\W (forM t is f rs (xs.drop (i+1))) c.st (jB C c0 ns D),λd H' ⟨c',z1,z2,z3,z4,z5,z6,z7⟩=>⟨xs.length - (i+1),⋯,c',z1,z2,z3,z4,z5,z6,rfl,G,z7⟩,λx H' hy=>?_⟩;have⟨g,rfl,o,e5,HP,n2,rt⟩:=R9 x H' hy;rw[ah]at w;have Wl:aQ C g g xs[i].1 xs[i].2 x:=by
    rcases R8 with z|z
    .rw[z]at rt ⊢;show rt
    .rw[z]at rt ⊢;show rt
   show⟨g,g,xs[i],o,rfl,HP,HP,Nx.refl g,Wl,?_⟩;rw[e5];show w.mono λ_ H9 w3 c3 e6 Ka n3 T7 NP=>?_;subst e6;rw[ah]at w3;show⟨c3,rfl,rfl,Ka,w3.mono λfl Nw p b e L n4 N=>?_⟩;subst e;have O:Ns c1 b:=((n.trans n2.toNs).trans n3.toNs).trans n4;have Q:Kept ns c0 b:=by
    show kc.trans ⟨λj hj=>?_,by rw[N.2,NP,o]⟩;have⟨T,Y⟩:=Jd j hj;rw[N.1 j Y,T7 j T,o]
   have T8:kW rs c1 b:=λj u l=>by
    have⟨T,Y⟩:=Sf j u l;rw[N.1 j Y,T7 j T,o];show B j u l
   cases fl with
   |nx=>show⟨b,rfl,rfl,L,O,Q,T8,p⟩
   |ct=>show⟨b,rfl,rfl,L,O,Q,T8,p⟩
   |_=>rw[ao]at p;show p b rfl L (n1.toNs.trans O) Q
  .left
   have Wm:i=xs.length:=by lia
   subst Wm;rw[YB,show forM t is f rs []=aE rs >>= λ_=>pure .nx from rfl,ah,cJ,ao]at w;obtain⟨_,I⟩:=v c y n B w.1;show⟨I _ (ix _),w.2 c rfl y (n1.toNs.trans n) kc⟩
 .show(bf.mp s).elim
end
section
def Ok.mod(b:Ok C c)(n:Ns c0 c)(hk:k.root=b6)(y:c.st[i]?=bD (bD (k,u)))(D:c.σ[i]?=bD (bD (.ref r)))(Ih:∀a,a≠r->H' a=c.H a)(hr:∃o,H' r=bD o)
  (new:Mv c.S c.H c.S H'->cW C c.S H' r u'):Ok C {c with H:=H',st:=c.st.set i (bD (k,u'))}/\Ns c0 {c with H:=H',st:=c.st.set i (bD (k,u'))}:=by
 have Kt:c.R1 r:=⟨i,k,u,hk,y,D⟩
 have hR:c.R r:=.inl Kt;have⟨I,q2,q3,o,ho,M3⟩:=b.root hR;have J:i<c.st.length:=(d3.mp y).1;have m:∀{a:hA} {o':HO},a≠r->c.H a=bD o'->H' a=bD o':=λL e=>by rw[Ih _ L];show e
 have G:Mv c.S c.H c.S H':=⟨λ_ z=>z,λa o' e t=>m (λz=>by subst z;rw[ho]at e;cases e;show M3 t) e,λa o' z e=>m (λd=>I (d▸z)) e⟩
 have LP:Mv (PS C c.S) c.H (PS C c.S) H':=⟨λ_ z=>z,G.OH,λa o' z e=>m (λd=>by subst d;show z.elim q2 I) e⟩
 have N:∀(j:Nat) k' w,(c.st.set i (bD (k,u')))[j]?=bD (bD (k',w))->j≠i->c.st[j]?=bD (bD (k',w)):=λj k' w e L=>by rw[i1 (rz L)]at e;show e
 have f:∀(j:Nat) k' w,k'.root=b6->(c.st.set i (bD (k,u')))[j]?=bD (bD (k',w))->∃O,c.st[j]?=bD (bD (k',O)):=λj k' w _ e=>by
  by_cases p:j=i
  .subst p;rw[ez J]at e;cases e;show⟨u,y⟩
  .show⟨w,N j k' w e p⟩
 have b1:∀a,({c with H:=H',st:=c.st.set i (bD (k,u'))}:Cf).R1 a->c.R1 a:=λa HD=>by
  have⟨j,k',w,g,h,l⟩:=HD;have⟨O,Q⟩:=f j k' w g h;show⟨j,k',O,g,Q,l⟩
 have dD:∀(j:Nat) (w:U),(c.st.set i (bD (k,u')))[j]?=bD (bD (.Hl,w))->c.st[j]?=bD (bD (.Hl,w)):=λj w e=>by
  by_cases p:j=i
  .subst p;rw[ez J]at e;cases e;cases hk
  .show N j .Hl w e p
 have Lb:KA C {c with H:=H',st:=c.st.set i (bD (k,u'))}:=b.dd.of rfl (λj w e=>⟨dD j w e,rfl⟩) (λa z=>.inl (b1 a z)) G λj a z=>⟨(b.root (.inr ⟨j,z⟩)).1,λo' e=>m (λd=>b.dd.d1 j a z (d▸Kt)) e⟩
 show⟨⟨λa o' e z=>?_,λa z=>?_,b.par,λa z=>?_,by simp[b.len],λj k' w e=>?_,λj1 j2 k1 k2 w1 w2 q g s h l T e4=>?_,Lb⟩,n.trans ⟨λa o' e z=>m (λd=>z (d▸hR)) e,λa o' e=>?_,λa z=>?_,λ_ z=>z,λ_ z=>.inl z⟩⟩
 .have g:=b.same a o' e z;show m (λd=>?_) g;subst d;rcases q3 with q3|q3
  .rw[e]at q3;cases q3
  .show z q3
 .have⟨g,o',s⟩:=b.JA a z;show⟨g,o',m (λd=>I (d▸z)) s⟩
 .have⟨g,o',s⟩:=b.io a z;show⟨g,?_⟩;by_cases A:a=r
  .subst A;show hr
  .show⟨o',m A s⟩
 .by_cases p:j=i
  .subst p;rw[ez J]at e;cases e;have⟨v,h,l⟩:=b.sl j _ _ y;rw[D]at h;cases h;show⟨.ref r,D,?_⟩;have nr:=new G;cases k with
   |own=>obtain⟨q,x,B,Y,z3,_⟩:=l;cases x;show⟨r,rfl,B,Y,z3,nr⟩
   |io=>obtain⟨q,x,B,Y,z3,_⟩:=l;cases x;show⟨r,rfl,B,Y,z3,nr⟩
   |_=>cases hk
  .have e0:=N j k' w e p;have⟨v,h,l⟩:=b.sl j k' w e0;show⟨v,h,l.mv G LP λIl q x=>?_⟩;obtain⟨OK,Jh,B,_⟩:=l.rt Il;rw[x]at Jh;cases Jh;show⟨B,λo' e=>m (λz=>?_) e⟩;subst z;show p (b.inj j i k' k w u q Il hk e0 y (by rw[h,x]) D)
 .have⟨P1,Q⟩:=f j1 k1 w1 g h;have⟨T9,a2⟩:=f j2 k2 w2 s l;show b.inj j1 j2 k1 k2 P1 T9 q g s Q a2 T e4
 .by_cases A:a=r
  .subst A;show hr
  .show⟨o',m A e⟩
 .rcases z with z|⟨j,w,q,h,l,T⟩
  .show .inl (.inl (b1 a z))
  .show .inl (.inr ⟨j,w,q,dD j w h,l,T⟩)
def eV{f:U->Option U}{st:au}(h:W (modS i f) st Q):∃k u u',k.root=b6/\st[i]?=bD (bD (k,u))/\f u=bD u'/\Q () (st.set i (bD (k,u'))):=by
 obtain⟨_,st',e,q⟩:=h;unfold modS at e;split at e
 .rename_i k u hs;split at e
  .rename_i hk;cases a:f u with
   |none=>rw[a]at e;cases e
   |some u'=>rw[a]at e;cases e;show⟨k,u,u',hk,hs,a,q⟩
  .cases e
 .cases e
def cQ{st:au}(h:W (c_ i) st Q):∃k u,k≠.Hl/\st[i]?=bD (bD (k,u))/\Q (if k.root=b6 then .bor i else k,u) st:=by
 have⟨r,st',e,q⟩:=h;unfold c_ at e;split at e
 .cases e
 .rename_i k u a hs;cases e;show⟨k,u,λz=>a z,hs,q⟩
 .cases e
def FC(Y:C.K=X.K)(hN:X.N[i]?=bD x)(hv:Js X.env.scope x)(hd:(x==("__debug__":Str))=cK)(HW:(x==("__classdict__":Str))=cK)(ha:PE X a (Ht C ma))
  (Iw:((x2 l (i2 [a] X.env)).all (λx=>!x.1)&&(Ni l (Jp [] X.env)).all (λx=>x.1.isSome)
   && cc ([a].length+([]:List KX).length+(if ([]:List KX).isEmpty then 0 else 1)<30))=b6)
  (HB:(b.endLine==l.line)=b6) (p:i2 [a] X.env=[(cK,wk a X.env)]) :
  L2.PS X (.Expr (.Call (.Attribute (.Name x px) "append" b) [a] [] l) pos) (IA C ns (c_ i >>= λx=>LU x.2 >>= λ_=>ma >>= λr=>lift r >>= λu=>modS i (xv u) >>= λ_=>pure .nx)):=by
 show PS.weak (ig (sT PySem.F.plainAttrs_list PySem.F.slot_list_append PySem.F.type_list_append mq (b9 hN hv hd HW) (ff ha iX p) rfl Iw HB p rfl)) ?_;rintro D σ H ⟨c0,rfl,rfl,f,h⟩;rw[ah]at h;have⟨k0,s,JQ,y,h⟩:=cQ h;have⟨A,m,n⟩:=f.sl i k0 s y;show⟨A,m,?_⟩;cases s with
 |lst B =>
  rw[ah,show LU (U.lst B)=pure () from rfl,ao]at h;have OP:aQ C c0 c0 (if k0.root=b6 then .bor i else k0) (.lst B) A:=by
   by_cases hk:k0.root=b6
   .rw[Z6 hk];show⟨⟨k0,hk,y⟩,m⟩
   .rw[Z7 hk];cases k0 with
    |loc=>show n
    |any=>show n
    |bor j=>show n.elim
    |Hl=>show(JQ rfl).elim
    |_=>show absurd rfl hk
  obtain⟨g,NM,o,Nt,_⟩:=OP.list f;show⟨by rw[o];show .inl ⟨rfl,NM,Y▸Nt⟩,?_⟩;show aP f h λr c v t w=>?_;rw[ah]at w;obtain⟨S',st',u,sS,G,n1,d,I,_,_⟩:=gh f t.ok t.nx t.rx.w w;rw[ah]at I;have⟨k,u1,u2,hk,hs,e,q⟩:=eV I;have J:c.σ[i]?=bD (bD (.ref g)):=by rw[t.hσ,m,o]
  cases u1 with
  |lst L =>
   simp only[xv]at e;split at e
   .rename_i hz;cases e;have⟨v',e1,e2⟩:=G.sl i k (.lst L) hs;have O:c.σ[i]?=bD (bD v'):=e1;rw[J]at O;cases O;obtain⟨r',er,_,_,_,ws,hw,Q⟩:=e2.rt hk;cases er;have P2:c.H g=bD (.lst ws):=hw;show⟨g,ws,v,o,rfl,P2,by rw[<-Q.len];show hz,?_⟩;rw[ao]at q;have⟨HP,n2⟩:=Ok.mod (c:={c with S:=S',st:=st' }) (H':=upd c.H g (.lst (ws++[v]))) (u':=.lst (L++[u])) G n1.toNs hk hs J (λa ne=>ak ne) ⟨_,ax⟩ λT=>⟨ws++[v],ax,(Q.mv T).snoc (d.mv T)⟩
    have z:=q _ rfl HP n2 (Kept.of t.hσ);rw[<-t.hσ];show z
   .cases e
  |_=>cases e
 |_=>rw[ah]at h;show(bf.mp h).elim
def FD(G:C.K=X.K)(hN:X.N[i]?=bD x)(hv:Js X.env.scope x)(hd:(x==("__debug__":Str))=cK)(HW:(x==("__classdict__":Str))=cK)(ha:PE X a (Ht C ma))
  (Iw:((x2 l (i2 [a] X.env)).all (λx=>!x.1)&&(Ni l (Jp [] X.env)).all (λx=>x.1.isSome)
   && cc ([a].length+([]:List KX).length+(if ([]:List KX).isEmpty then 0 else 1)<30))=b6)
  (HB:(g.endLine==l.line)=b6) (I:i2 [a] X.env=[(cK,wk a X.env)]) :
  L2.PS X (.Expr (.Call (.Attribute (.Name x px) "extend" g) [a] [] l) pos) (IA C ns (c_ i >>= λx=>LU x.2 >>= λ_=>ma >>= λr=>modS i (kU r) >>= λ_=>pure .nx)):=by
 show PS.weak (ig (sT PySem.F.plainAttrs_list PySem.F.slot_list_extend PySem.F.type_list_extend rm (b9 hN hv hd HW) (ff ha iX I) rfl Iw HB I rfl)) ?_;rintro D σ H ⟨c0,rfl,rfl,m,h⟩;rw[ah]at h;have⟨k0,J,JQ,L,h⟩:=cQ h;have⟨O,n,o⟩:=m.sl i k0 J L;show⟨O,n,?_⟩;cases J with
 |lst Q =>
  rw[ah,show LU (U.lst Q)=pure () from rfl,ao]at h;have OP:aQ C c0 c0 (if k0.root=b6 then .bor i else k0) (.lst Q) O:=by
   by_cases hk:k0.root=b6
   .rw[Z6 hk];show⟨⟨k0,hk,L⟩,n⟩
   .rw[Z7 hk];cases k0 with
    |loc=>show o
    |any=>show o
    |bor j=>show o.elim
    |Hl=>show(JQ rfl).elim
    |_=>show absurd rfl hk
  obtain⟨p,NM,s,Nt,_⟩:=OP.list m;show⟨by rw[s];show .inl ⟨rfl,NM,G▸Nt⟩,?_⟩;show aP m h λr c v t w=>?_;rw[ah]at w;have⟨k,u,u2,hk,hs,d,q⟩:=eV w;have T:c.σ[i]?=bD (bD (.ref p)):=by rw[t.hσ,n,s]
  have⟨rk,ru⟩:=r;have y:∃e f b vs,u=.lst e/\v=.ref b/\(HX C.K c.H b vs\/Ie C.K c.H b vs)/\aq C c.S c.H f vs/\e.length+f.length<=df/\u2=.lst (e++f):=by
   cases ru with
   |lst f =>
    cases u with
    |lst e =>
     simp only[kU]at d;split at d
     .rename_i hz;cases d;have⟨b,vs,ev,A,B⟩:=t.rx.list t.ok;show⟨_,_,b,vs,rfl,ev,.inl A,eS hz.2 B,hz.1,rfl⟩
     .cases d
    |_=>simp[kU]at d
   |tup f =>
    cases u with
    |lst e =>
     simp only[kU]at d;split at d
     .rename_i hz;cases d;have⟨b,vs,ev,A,B⟩:=t.rx.tuple t.ok;show⟨_,_,b,vs,rfl,ev,.inr A,eS hz.2 B,hz.1,rfl⟩
     .cases d
    |_=>simp[kU]at d
   |_=>simp[kU]at d
  have⟨e,f,b,vs,rfl,rfl,hB,hz,hl,rfl⟩:=y;have⟨v',Y,e2⟩:=t.ok.sl i k (.lst e) hs;rw[T]at Y;cases Y;obtain⟨r',er,_,_,_,ws,hw,I_⟩:=e2.rt hk;cases er;show⟨p,b,ws,vs,s,rfl,hw,G▸hB,by rw[<-I_.len,<-hz.len];show hl,?_⟩;rw[ao]at q;have⟨HP,n2⟩:=Ok.mod (c:=c) (H':=upd c.H p (.lst (ws++vs))) (u':=.lst (e++f)) t.ok t.nx.toNs hk hs T (λa ne=>ak ne) ⟨_,ax⟩ λmv=>⟨ws++vs,ax,(I_.mv mv).append (hz.mv mv)⟩
  have z:=q _ rfl HP n2 (Kept.of t.hσ);rw[<-t.hσ];show z
 |_=>rw[ah]at h;show(bf.mp h).elim
def nF.or(h:nF X t)(h':nF X t'):nF X (λo i v H Q=>t o i v H Q\/t' o i v H Q):=λa s σ H o i v b c u Q I d e f q =>
 q.elim (h a s σ H o i v b c u Q I d e f) (h' a s σ H o i v b c u Q I d e f)
def set_dict(c:X.A.units+1<Kx):nF X (λo i v H Q=>∃a H',o=.ref a/\uS H a i v H'/\Q H'):=by
 rintro b s σ H o i v h j u Q I d e rv ⟨a,H',rfl,g,q⟩;cases d;show uU c I g e rv λs' f=>⟨H',f,q⟩
def xP{S:hA->Prop}{kvs:List (Key×V)}(a:kvs.map (·.1)=ks.map kr)(c:aq C S H us (kvs.map (·.2)))(d:Rep C S H u v):
  (putK kvs (kr y) v).map (·.1)=(dput ks us y u).1.map kr/\aq C S H (dput ks us y u).2 ((putK kvs (kr y) v).map (·.2)):=by
 have e:(kvs.any λkv=>cc (kv.1=(kr y:Key)))=cc (y∈ks):=by
  rw[iq];show(dN (x:=y) a c).2
 unfold putK dput;rw[e];by_cases b:y∈ks
 .rw[Z6 (by simpa using b),Z6 b];constructor
  .rw[hh];rw[<-a];apply mu;intro p _;change(if p.1=kr y then(p.1,v) else p).1=p.1;split<;>rfl
  .clear e b;induction kvs generalizing ks us with
   |nil =>
    have:ks=[]:=by simpa using a.symm
    subst this;simp[aq]
   |cons p kvs g =>
    cases ks with
    |nil=>simp at a
    |cons k ks =>
     cases us with
     |nil=>simp[aq]at c
     |cons j us =>
      rw[eh,eh,LB]at a;have⟨l,m,f,h,i⟩:=c;rw[eh]at f;cases f;rw[eh,Kf,eh,eh];show⟨_,_,rfl,?_,g a.2 i⟩;by_cases hk:k=y
      .rw[Z6 (by show hk),Z6 (by rw[a.1,hk])];show d
      .rw[Z7 (by show hk),Z7 (by rw[a.1];intro z;show hk (Rt z))];show h
 .rw[Z7 (by simpa using b),Z7 b];show⟨by rw[ka,a,ka];rfl,by rw[ka];show c.snoc d⟩
def FE(hP:C.P=X.prog)(hw:C.w=X.w)(hK:C.K=X.K)(hu:X.A.units+60<Kx)(hN:X.N[i]?=bD x)(hv:Js X.env.scope x)(hd:(x==("__debug__":Str))=cK)(HW:(x==("__classdict__":Str))=cK)
  (ha:PE X a (Ht C ma)) (hb:PE X b (Ht C mb)) (hs:Qe [.Subscript (.Name x G) b p] a pos.line X.env=pure cK) (Mn:Ue [.Subscript (.Name x G) b p] a X.env=pure cb)
  (Q:∀v,QX (.Subscript (.Name x G) b p) X.env v=(do
   let I <-LY [v] (wk (.Name x G) X.env)
   let T <-LY [v,I] (wk b X.env)
   W6 p
   LY [v,I,T] (Sd I T v)
   U3 [v,I,T] [])) :
  L2.PS X (.Assign [.Subscript (.Name x G) b p] a pos) (IA C ns (ma >>= λr=>c_ i >>= λ_=>mb >>= λx=>du [r,x] >>= λus=>modS i (tF us) >>= λ_=>pure .nx)):=by
 show PS.weak (qP ha (wg (b9 hN hv hd HW) hb (nF.or set_list (set_dict (X:=X) ⋯)) Q) hs Mn rfl) ?_;rintro D σ H ⟨c0,rfl,rfl,ok,h⟩;show aP ok h λr c v t w=>?_;rw[ah]at w;have⟨k0,u0,JQ,IL,w⟩:=cQ w;have⟨v0,e0,JY⟩:=t.ok.sl i k0 u0 IL;show⟨v0,by rw[<-t.hσ];show e0,?_⟩;rw[ah]at w;show⟨c,t.hσ,rfl,t.ok,w.mono λy st2 w2 f m J e4 HP n2 r2=>?_⟩;subst e4;rw[ah]at w2;have Si:=t.nx.trans n2;have Y:bZ C c0 f [r,y] [v,m]:=⟨v,[m],rfl,t.rx.w.on t.ok n2 (J.trans t.hσ.symm),⟨m,[],rfl,(r2.w).from t.nx,rfl,λ_ i r' v' e _=>by simp at e⟩,λhk i r' v' e5 e6 Il=>by
  cases i with
  |zero=>simp at e5 e6;subst e5 e6;show oq t.rx.w r2.w hk Il
  |succ i=>simp at e5⟩
 have⟨S',st',us,sS,Hv,n1,g,w1⟩:=iF ok HP Si Y w2;rw[ah]at w1;have⟨k,L,u2,hk,Jz,d,q⟩:=eV w1;rw[ao]at q;have hσ:f.σ[i]?=bD (bD v0):=by rw[J,<-t.hσ];show e0
 have⟨v',e1,e2⟩:=Hv.sl i k L Jz;have Iu:f.σ[i]?=bD (bD v'):=e1;rw[hσ]at Iu;cases Iu;have⟨n,er,z1,z2,z3,l⟩:=e2.rt hk;subst er;have Wn:({f with S:=S',st:=st' }:Cf).σ[i]?=bD (bD (.ref n)):=hσ;obtain⟨P1,ws,ew,T_,T9,XN,XO,Ua,Wo⟩:∃u ws,us=[u,ws]/\Rep C S' f.H u v/\∃(_:Unit) (_:Unit),True/\Rep C S' f.H ws m/\True:=by
  cases us with
  |nil=>simp[aq]at g
  |cons u us =>
   obtain⟨_,_,e,q1,q2⟩:=g;cases e;cases us with
   |nil=>simp[aq]at q2
   |cons u' us =>
    obtain⟨_,_,e,q3,q4⟩:=q2;cases e;cases us with
    |nil=>show⟨u,u',rfl,q1,(),(),trivial,q3,trivial⟩
    |cons _ _=>obtain⟨_,_,e,_⟩:=q4;cases e
 subst ew;rw[show tF [P1,ws] L=d9 ws P1 L from rfl]at d;have s:∀{H':Hp} ,(∀a,a≠n->H' a=f.H a)->(∃o,H' n=bD o)->(Mv S' f.H S' H'->cW C S' H' n u2)->D.nx c0.σ H':=λ{H'} Ih hr new=>by
  have⟨Ka,n3⟩:=Ok.mod (c:={f with S:=S',st:=st' }) (H':=H') (u':=u2) Hv n1.toNs hk Jz Wn Ih hr new;have z:=q _ rfl Ka n3 (Kept.of J);rw[<-J];show z
 cases L with
 |lst xs =>
  cases ws with
  |int j =>
   simp only[d9,eH]at d;have⟨j',hj,rfl⟩:=d;have⟨vs,h1,B⟩:=l;have ey:m=.int j:=Ua;show .inl ⟨n,vs,j,j',rfl,ey,h1,by rw[<-B.len];show hj,?_⟩;show s (λa ne=>ak ne) ⟨_,ax⟩ λO=>⟨vs.set j' v,ax,(B.mv O).set j' (T_.mv O)⟩
  |_=>simp[d9]at d
 |Hn ks vs =>
  cases ws with
  |str y' =>
   simp only[d9]at d;split at d
   .rename_i hz;cases d;have⟨kvs,h1,B,h3⟩:=l;have ey:m=.str y':=Ua;subst ey;have hl:kvs.length=ks.length:=by have:=Z_ HU B;simpa using this
    show .inr ⟨n,_,rfl,uS.k (k:=kr y') h1 (by rw[hl];show hz),?_⟩;show s (λa ne=>ak ne) ⟨_,ax⟩ λO=>?_;have⟨g1,g2⟩:=xP (y:=y') B h3 T_;show⟨_,ax,g1,g2.mv O⟩
   .cases d
  |_=>simp[d9]at d
 |_=>simp[d9]at d
def Ok.slot(d:Ok C c)(e:k≠.Hl)(hs:c.st[i]?=bD (bD (k,u))):∃v,c.σ[i]?=bD (bD v)/\aQ C c c (if k.root=b6 then .bor i else k) u v:=by
 have⟨f,b,a⟩:=d.sl i k u hs;show⟨f,b,?_⟩;by_cases hk:k.root=b6
 .rw[Z6 hk];show⟨⟨k,hk,hs⟩,b⟩
 .rw[Z7 hk];cases k with
  |loc=>show a
  |any=>show a
  |bor j=>show a.elim
  |Hl=>show(e rfl).elim
  |_=>show absurd rfl hk
end
end TM
namespace TM
open PySem L2 PyProof.Rows PySem.W
section
def eI.dict{S:hA->Prop}(b:k≠.Hl)(h:eI C S H k (.Hn ks us) v):∃r kvs,v=.ref r/\H r=bD (.dK kvs):=by
 cases k with
 |loc=>obtain⟨r,e,_,kvs,a,_⟩:=h;show⟨r,kvs,e,a⟩
 |any=>obtain⟨r,e,_,kvs,a,_⟩:=h;show⟨r,kvs,e,a⟩
 |bor j=>show h.elim
 |Hl=>show absurd rfl b
 |_=>obtain⟨r,e,_,_,_,kvs,a,_⟩:=h;show⟨r,kvs,e,a⟩
theorem qa{S:hA->Prop}(k:Str):∀{ks:List Str}{us:List U}{kvs:List (Key×V)},kvs.map (·.1)=ks.map kr->aq C S H us (kvs.map (·.2))->(ip kvs (.inr k)).map (·.1)=(((ks.zip us).filter λp=>cc (p.1≠k)).map (·.1)).map kr/\aq C S H (((ks.zip us).filter λp=>cc (p.1≠k)).map (·.2)) ((ip kvs (.inr k)).map (·.2))
 |[],us,kvs,c,d=>by
  cases kvs with
  |nil=>show⟨rfl,rfl⟩
  |cons p kvs=>cases c
 |x::ks,us,kvs,c,d=>by
  cases kvs with
  |nil=>cases c
  |cons p kvs =>
   have⟨h,p2⟩:=p;simp only[eh,LB]at c;have⟨rfl,c⟩:=c;cases us with
   |nil=>cases d
   |cons u us =>
    have⟨v,r,e,f,g⟩:=d;cases e;have⟨a,b⟩:=qa k c g;unfold ip at a b ⊢;rw[Kf,p5,p5];by_cases e:x=k
    .subst e;rw[Z7 (by simp),Z7 (by simp)];show⟨a,b⟩
    .rw[Z6 (by simpa using e),Z6 (by simpa using e)];show⟨Z_ (kr x::·) a,_,_,rfl,f,b⟩
theorem mO:∀{ks:List Str}{kvs:List (Key×V)}{k:Str},kvs.map (·.1)=ks.map kr->k∈ks->∃v,de kvs (.inr k)=bD v
 |[],_,_,_,h=>by cases h
 |x::ks,kvs,k,a,h=>by
  cases kvs with
  |nil=>cases a
  |cons p kvs =>
   have⟨b,p2⟩:=p;simp only[eh,LB]at a;have⟨rfl,a⟩:=a;by_cases e:x=k
   .subst e;show⟨p2,dP rfl⟩
   .rw[dQ (λz=>e (Rt z))];show mO a ((gj.mp h).resolve_left λz=>e z.symm)
def FF(s:X.N[i]?=bD x)(u:Js X.env.scope x)(A:(x==("__debug__":Str))=cK)(B:(x==("__classdict__":Str))=cK)(G:PE X a (Ht C I))
  (J:((x2 f (i2 [a] X.env)).all (λx=>!x.1)&&(Ni f (Jp [] X.env)).all (λx=>x.1.isSome)
   && cc ([a].length+([]:List KX).length+(if ([]:List KX).isEmpty then 0 else 1)<30))=b6)
  (L:(e.endLine==f.line)=b6) (O:x2 f (i2 [a] X.env)=[(cK,wk a X.env)]) :
  L2.PS X (.Expr (.Call (.Attribute (.Name x px) "pop" e) [a] [] f) pos) (IA C ns (c_ i >>= λx=>Dp x.2 >>= λ_=>I >>= λy=>Dq y >>= λk=>modS i (tE k) >>= λ_=>pure .nx)):=by
 show PS.weak (ig (wJ (b9 s u A B) G ⟨rfl,J,L,O⟩)) ?_;rintro D σ H ⟨c0,rfl,rfl,l,h⟩;rw[ah]at h;have⟨k0,m,Q,T,h⟩:=cQ h;have⟨Y,g,JY⟩:=l.sl i k0 m T;show⟨Y,g,?_⟩;cases m with
 |Hn P4 us0 =>
  rw[ah,show Dp (U.Hn P4 us0)=pure () from rfl,ao]at h;have⟨r,Lf,ev,NC⟩:=JY.dict Q;subst ev;show⟨r,rfl,.inl ⟨Lf,.inl NC⟩,aP l h λy c v t w=>?_⟩;have⟨ky,uy⟩:=y;cases uy with
  |str k =>
   rw[ah,show Dq (ky,U.str k)=pure k from rfl,ao,ah]at w;have⟨k1,u1,u2,hk,hs,d,q⟩:=eV w;have ey:v=.str k:=t.rx.str t.ok;subst ey;cases u1 with
   |Hn ks us =>
    have d:(if k∈ks then bD (U.Hn (((ks.zip us).filter λp=>cc (p.1≠k)).map (·.1)) (((ks.zip us).filter λp=>cc (p.1≠k)).map (·.2))) else cb)=bD u2:=d;split at d
    .rename_i IU;cases d;have⟨v1,n,e2⟩:=t.ok.sl i k1 _ hs;obtain⟨r',er,_,_,_,kvs,h1,o,h3⟩:=e2.rt hk;rw[t.hσ,g]at n;cases n;cases er;have⟨j,K4⟩:=mO o IU;show⟨kvs,.inr k,j,h1,rfl,K4,?_⟩;rw[ao]at q;have⟨HP,n2⟩:=t.ok.mod (H':=upd c.H r (.dK (ip kvs (.inr k)))) (u':=.Hn (((ks.zip us).filter λp=>cc (p.1≠k)).map (·.1)) (((ks.zip us).filter λp=>cc (p.1≠k)).map (·.2))) t.nx.toNs hk hs (by rw[t.hσ];show g) (λa ne=>ak ne) ⟨_,ax⟩ λmv=>by
      have⟨a,b⟩:=qa k o (h3.mv mv);show⟨_,ax,a,b⟩
     have z:=q _ rfl HP n2 (Kept.of t.hσ);rw[show c.σ=c0.σ from t.hσ]at z;show z
    .cases d
   |_=>cases d
  |_=>rw[ah]at w;show(bf.mp w).elim
 |_=>rw[ah]at h;show(bf.mp h).elim
end
end TM
namespace TM
open PySem L2 PyProof.Rows
section
def Ok.FG(d:Ok C c)(n:Ns c0 c)(O:c.st[i]?=bD (bD (.Hl,u)))(B:c.σ[i]?=bD (bD (.ref r)))(Ih:∀a,¬c.RD i a->H' a=c.H a)(Q:∀a o,c.H a=bD o->∃o',H' a=bD o')
  (new:Mv c.S c.H c.S H'->cA C c.S H' r as' u') (T:∀a∈as',a∈c.kid i\/(¬c.R a/\c0.H a=cb)) :
  Ok C {c with H:=H',st:=c.st.set i (bD (.Hl,u')),kid:=λj=>if j=i then as' else c.kid j}/\Ns c0 {c with H:=H',st:=c.st.set i (bD (.Hl,u')),kid:=λj=>if j=i then as' else c.kid j}:=by
 have Y:i<c.st.length:=(d3.mp O).1;have rt:∀{a},c.RD i a->¬c.S a/\¬C.J6 a/\(C.H₀ a=cb\/C.IO a)/\∃o,c.H a=bD o/\¬Tp o:=λz=>d.root (.inr ⟨i,z⟩);have h0:∀{a},c.RD i a->C.H₀ a=cb:=λ⟨u1,r1,g,b,e3⟩=>(cA.fr (d.dd.kd i u1 r1 g b) _ (gj.mpr e3)).2.2;have q:∀{a:hA} {o:HO},¬c.RD i a->c.H a=bD o->H' a=bD o:=λz e=>by rw[Ih _ z];show e
 have N:Mv c.S c.H c.S H':=⟨λ_ z=>z,λa o e t=>q (λz=>by
  obtain⟨_,_,_,o',l,nt⟩:=rt z;rw[e]at l;cases l;show nt t) e,λa o z e=>q (λm=>(rt m).1 z) e⟩
 have LP:Mv (PS C c.S) c.H (PS C c.S) H':=⟨λ_ z=>z,N.OH,λa o z e=>q (λm=>z.elim (rt m).2.1 (rt m).1) e⟩
 have D:∀(j:Nat) k w,(c.st.set i (bD (.Hl,u')))[j]?=bD (bD (k,w))->j≠i->c.st[j]?=bD (bD (k,w)):=λj k w e ne=>by rw[i1 (rz ne)]at e;show e
 have M5:∀(j:Nat) k w,k.root=b6->(c.st.set i (bD (.Hl,u')))[j]?=bD (bD (k,w))->c.st[j]?=bD (bD (k,w)):=λj k w hk e=>by
  by_cases f:j=i
  .subst f;rw[ez Y]at e;cases e;cases hk
  .show D j k w e f
 have b1:∀a,({c with H:=H',st:=c.st.set i (bD (.Hl,u')),kid:=λj=>if j=i then as' else c.kid j}:Cf).R1 a->c.R1 a:=λa ⟨j,k,w,hk,g,b⟩=>⟨j,k,w,hk,M5 j k w hk g,b⟩
 have G:∀j a,({c with H:=H',st:=c.st.set i (bD (.Hl,u')),kid:=λj=>if j=i then as' else c.kid j}:Cf).RD j a->c.RD j a\/(j=i/\¬c.R a/\c0.H a=cb):=λj a HD=>by
  have⟨w,h,g,b,e3⟩:=HD;by_cases f:j=i
  .subst f;have I:c.σ[j]?=bD (bD (.ref h)):=b;rw[B]at I;cases I;rcases e3 with rfl|e3
   .show .inl ⟨u,_,O,B,.inl rfl⟩
   .have Mo:a∈as':=by simpa using e3
    rcases T a Mo with z|z
    .show .inl ⟨u,_,O,B,.inr z⟩
    .show .inr ⟨rfl,z⟩
  .have Mo:a=h\/a∈c.kid j:=by simpa[f] using e3
   show .inl ⟨w,h,D j _ w g f,b,Mo⟩
 show⟨⟨λa o e z=>q (λm=>by rw[h0 m]at e;cases e) (d.same a o e z),λa z=>?_,d.par,λa z=>?_,by simp[d.len],λj k w e=>?_,λx s k1 k2 w1 w2 h h1 h2 g b e3 e4=>d.inj x s k1 k2 w1 w2 h h1 h2 (M5 x k1 w1 h1 g) (M5 s k2 w2 h2 b) e3 e4,⟨λj w h g b=>?_,λx s a J L=>?_,λj a J L=>?_⟩⟩,⟨λa o e z=>?_,λa o e=>?_,λa z=>?_,n.sub,n.new⟩⟩
 .have⟨q1,o,q2⟩:=d.JA a z;show⟨q1,Q a o q2⟩
 .have⟨q1,o,q2⟩:=d.io a z;show⟨q1,Q a o q2⟩
 .by_cases f:j=i
  .subst f;rw[ez Y]at e;cases e;show⟨.ref r,B,r,rfl⟩
  .have⟨v,g,b⟩:=d.sl j k w (D j k w e f);show⟨v,g,b.mv N LP λhk h er=>?_⟩;obtain⟨OK,Jh,J,_⟩:=b.rt hk;rw[er]at Jh;cases Jh;show⟨J,λo l=>q (λz=>d.dd.d1 i h z ⟨j,k,w,hk,D j k w e f,by rw[g,er]⟩) l⟩
 .by_cases f:j=i
  .subst f;rw[ez Y]at g;cases g;have I:c.σ[j]?=bD (bD (.ref h)):=b;rw[B]at I;cases I;have z:=new N;simpa using z
  .have Iu:=D j _ w g f;have Il:(if j=i then as' else c.kid j)=c.kid j:=Z7 f;change cA C c.S H' h (if j=i then as' else c.kid j) w;rw[Il];show cA.mv N (λa ha=>⟨(d.root (.inr ⟨j,w,h,Iu,b,gj.mp ha⟩)).1,λo l=>q (λz=>f (d.dd.dj j i a ⟨w,h,Iu,b,gj.mp ha⟩ z)) l⟩) (d.dd.kd j w h Iu b)
 .rcases G x a J with p|⟨rfl,p,_⟩
  .rcases G s a L with A|⟨rfl,A,_⟩
   .show d.dd.dj x s a p A
   .show(A (.inr ⟨x,p⟩)).elim
  .rcases G s a L with A|⟨rfl,A,_⟩
   .show(p (.inr ⟨s,A⟩)).elim
   .rfl
 .rcases G j a J with p|⟨rfl,p,_⟩
  .show d.dd.d1 j a p (b1 a L)
  .show p (.inl (b1 a L))
 .show q (λm=>by
   rcases n.roots a (.inr ⟨i,m⟩) with y|y
   .show z y
   .rw[e]at y;cases y) (n.keep a o e z)
 .have⟨o',l⟩:=n.there a o e;show Q a o' l
 .rcases z with z|⟨j,z⟩
  .show n.roots a (.inl (b1 a z))
  .rcases G j a z with y|⟨_,_,y⟩
   .show n.roots a (.inr ⟨j,y⟩)
   .show .inr y
def Ok.newD(l:Ok C c)(B:c.H p=cb)(u:i<c.σ.length):
  Ok C {c with H:=upd c.H p (.dK []),σ:=c.σ.set i (bD (.ref p)),st:=c.st.set i (bD (.Hl,.Hn [] [])),kid:=λj=>if j=i then [] else c.kid j}/\Ns c {c with H:=upd c.H p (.dK []),σ:=c.σ.set i (bD (.ref p)),st:=c.st.set i (bD (.Hl,.Hn [] [])),kid:=λj=>if j=i then [] else c.kid j}:=by
 have⟨n,T⟩:=l.lay (o:=.dK []) B;have⟨q1,q2,q3,q4,D⟩:=l.jP B;have G:i<c.st.length:=by rw[l.len];show u
 have x:∀(j:Nat) k w,(c.st.set i (bD (.Hl,.Hn [] [])))[j]?=bD (bD (k,w))->j≠i->c.st[j]?=bD (bD (k,w)):=λj k w e I=>by rw[i1 (rz I)]at e;show e
 have q:∀(j:Nat),j≠i->(c.σ.set i (bD (.ref p)))[j]?=c.σ[j]?:=λj I=>i1 (rz I);have J:∀(j:Nat) k w,k.root=b6->(c.st.set i (bD (.Hl,.Hn [] [])))[j]?=bD (bD (k,w))->j≠i/\c.st[j]?=bD (bD (k,w)):=λj k w hk e=>by
  by_cases b:j=i
  .subst b;rw[ez G]at e;cases e;cases hk
  .show⟨b,x j k w e b⟩
 have b1:∀a,({c with H:=upd c.H p (.dK []),σ:=c.σ.set i (bD (.ref p)),st:=c.st.set i (bD (.Hl,.Hn [] [])),kid:=λj=>if j=i then [] else c.kid j}:Cf).R1 a->c.R1 a:=λa L=>by
  have⟨j,k,w,hk,d,f⟩:=L;have⟨b,N⟩:=J j k w hk d;show⟨j,k,w,hk,N,by rw[<-q j b];show f⟩
 have r:∀j a,({c with H:=upd c.H p (.dK []),σ:=c.σ.set i (bD (.ref p)),st:=c.st.set i (bD (.Hl,.Hn [] [])),kid:=λj=>if j=i then [] else c.kid j}:Cf).RD j a->(j≠i/\c.RD j a)\/(j=i/\a=p):=λj a L=>by
  have⟨w,g,d,f,e3⟩:=L;by_cases b:j=i
  .subst b;have s:(c.σ.set j (bD (.ref p)))[j]?=bD (bD (.ref g)):=f;rw[ez u]at s;cases s;rcases e3 with rfl|e3
   .show .inr ⟨rfl,rfl⟩
   .simp at e3
  .have Mo:a=g\/a∈c.kid j:=by simpa[b] using e3
   show .inl ⟨b,w,g,x j _ w d b,by rw[<-q j b];show f,Mo⟩
 show⟨⟨n.same,n.JA,n.par,n.io,by simp[l.len],λj k w e=>?_,λm h k1 k2 Y w2 g h1 h2 d f e3 e4=>?_,⟨λj w g d f=>?_,λm h a O t=>?_,λj a O t=>?_⟩⟩,⟨T.keep,T.there,λa z=>?_,λ_ z=>z,λ_ z=>.inl z⟩⟩
 .by_cases b:j=i
  .subst b;rw[ez G]at e;cases e;show⟨.ref p,ez u,p,rfl⟩
  .have⟨v,d,f⟩:=n.sl j k w (x j k w e b);show⟨v,(q j b).trans d,f⟩
 .have⟨NQ,a1⟩:=J m k1 Y h1 d;have⟨M6,a2⟩:=J h k2 w2 h2 f;show l.inj m h k1 k2 Y w2 g h1 h2 a1 a2 ((q m NQ).symm.trans e3) ((q h M6).symm.trans e4)
 .by_cases b:j=i
  .subst b;rw[ez G]at d;cases d;have s:(c.σ.set j (bD (.ref p)))[j]?=bD (bD (.ref g)):=f;rw[ez u]at s;cases s;change cA C c.S (upd c.H p (.dK [])) p (if j=j then [] else c.kid j) (.Hn [] []);rw[Z6 rfl];show⟨[],ax,rfl,rfl,by simp,λa ha=>by rw[hV.mp ha];show⟨q2,q3,q1⟩,rfl⟩
  .have N:=x j _ w d b;have z:=n.dd.kd j w g N ((q j b).symm.trans f);change cA C c.S (upd c.H p (.dK [])) g (if j=i then [] else c.kid j) w;rw[Z7 b];show z
 .rcases r m a O with⟨_,A⟩|⟨rfl,rfl⟩
  .rcases r h a t with⟨_,Q⟩|⟨rfl,rfl⟩
   .show l.dd.dj m h a A Q
   .show(D (.inr ⟨m,A⟩)).elim
  .rcases r h a t with⟨_,Q⟩|⟨rfl,_⟩
   .show(D (.inr ⟨h,Q⟩)).elim
   .rfl
 .rcases r j a O with⟨_,A⟩|⟨rfl,rfl⟩
  .show l.dd.d1 j a A (b1 a t)
  .show D (.inl (b1 a t))
 .rcases z with z|⟨j,z⟩
  .show .inl (.inl (b1 a z))
  .rcases r j a z with⟨_,y⟩|⟨_,rfl⟩
   .show .inl (.inr ⟨j,y⟩)
   .show .inr B
end
section
theorem dq.rep{S S':hA->Prop}(hs:∀a,S a->S' a):∀{us:List U}{as:List hA},(∀a∈as,S' a)->dq C S H us as->aq C S' H us (as.map V.ref)
 |[],as,_,h=>by cases h;show rfl
 |u::us,as,c,h=>by
  have⟨a,as',i,vs,rfl,rfl,d,e,f⟩:=h;show⟨.ref a,as'.map V.ref,rfl,⟨a,vs,rfl,.inl ⟨c a (by simp),.inl d⟩,e.mv (.up hs)⟩,dq.rep hs (λb g=>c b (by simp[g])) f⟩
def Ok.FH(b:Ok C c)(n:Nx c0 c)(Q:c.st[i]?=bD (bD (.Hl,u)))(s:c.σ[i]?=bD (bD (.ref r))):
  Ok C {c with S:=λa=>c.S a\/a∈c.kid i,st:=c.st.set i (bD (.own,u))}/\Nx c0 {c with S:=λa=>c.S a\/a∈c.kid i,st:=c.st.set i (bD (.own,u))}:=by
 have T:i<c.st.length:=(d3.mp Q).1;have D:=b.dd.kd i u r Q s;have fr:=cA.fr D;have mem:∀a,(a=r\/a∈c.kid i)->c.RD i a:=λa z=>⟨u,r,Q,s,z⟩
 have up:Mv c.S c.H (λa=>c.S a\/a∈c.kid i) c.H:=.up λa=>.inl;have Wq:Mv (PS C c.S) c.H (PS C λa=>c.S a\/a∈c.kid i) c.H:=.up λa z=>z.imp id .inl;have P5:r∉c.kid i/\cW C (λa=>c.S a\/a∈c.kid i) c.H r u:=by
  cases u<;>first|show D.elim|skip
  have⟨kvs,G,I,h3,h4,h5,h6⟩:=D;show⟨(l0.mp h4).1,kvs,G,I,?_⟩;rw[h3];show h6.rep (λa=>.inl) λa J=>.inr J
 have p:∀(j:Nat) k w,(c.st.set i (bD (.own,u)))[j]?=bD (bD (k,w))->j≠i->c.st[j]?=bD (bD (k,w)):=λj k w e ne=>by rw[i1 (rz ne)]at e;show e
 have b1:∀a,({c with S:=λa=>c.S a\/a∈c.kid i,st:=c.st.set i (bD (.own,u))}:Cf).R1 a->c.R1 a\/a=r:=λa Y=>by
  have⟨j,k,w,hk,f,g⟩:=Y;by_cases d:j=i
  .subst d;have JH:c.σ[j]?=bD (bD (.ref a)):=g;rw[s]at JH;cases JH;show .inr rfl
  .show .inl ⟨j,k,w,hk,p j k w f d,g⟩
 have t:∀j a,({c with S:=λa=>c.S a\/a∈c.kid i,st:=c.st.set i (bD (.own,u))}:Cf).RD j a->j≠i/\c.RD j a:=λj a Y=>by
  have⟨w,h,f,g,x⟩:=Y;by_cases d:j=i
  .subst d;rw[ez T]at f;cases f
  .show⟨d,w,h,p j _ w f d,g,x⟩
 show⟨⟨b.same,λa z=>?_,b.par,b.io,by simp[b.len],λj k w e=>?_,λm l k1 k2 L N h G I f g x e4=>?_,⟨λj w h f g=>?_,λm l a A z2=>b.dd.dj m l a (t m a A).2 (t l a z2).2,λj a A z2=>?_⟩⟩,⟨⟨n.keep,n.there,λa z=>?_,λa z=>.inl (n.sub a z),λa z=>?_⟩,λa ⟨j,z⟩=>n.dk a ⟨j,(t j a z).2⟩⟩⟩
 .rcases z with z|z
  .show b.JA a z
  .obtain⟨o,ho,_⟩:=cA.there D a (ti _ z);show⟨(fr a (ti _ z)).2.2,o,ho⟩
 .by_cases d:j=i
  .subst d;rw[ez T]at e;cases e;have⟨q1,q2,q3⟩:=fr r (ri ..);show⟨.ref r,s,r,rfl,λz=>z.elim q1 P5.1,q2,q3,P5.2⟩
  .have⟨v,f,g⟩:=b.sl j k w (p j k w e d);show⟨v,f,g.mv up Wq λhk h er=>?_⟩;obtain⟨OK,Jh,A,_⟩:=g.rt hk;rw[er]at Jh;cases Jh;show⟨λz=>z.elim A λz=>b.dd.d1 i h (mem h (.inr z)) ⟨j,k,w,hk,p j k w e d,by rw[f,er]⟩,λo q=>q⟩
 .by_cases O:m=i
  .by_cases B:l=i
   .rw[O,B]
   .subst O;have Mo:c.σ[m]?=bD (bD (.ref h)):=x;rw[s]at Mo;cases Mo;show(b.dd.d1 m r (mem r (.inl rfl)) ⟨l,k2,N,I,p l k2 N g B,e4⟩).elim
  .by_cases B:l=i
   .subst B;have Ub:c.σ[l]?=bD (bD (.ref h)):=e4;rw[s]at Ub;cases Ub;show(b.dd.d1 l r (mem r (.inl rfl)) ⟨m,k1,L,G,p m k1 L f O,x⟩).elim
   .show b.inj m l k1 k2 L N h G I (p m k1 L f O) (p l k2 N g B) x e4
 .by_cases d:j=i
  .subst d;rw[ez T]at f;cases f
  .have Iu:=p j _ w f d;show cA.mv up (λa J=>⟨λz=>z.elim (b.root (.inr ⟨j,w,h,Iu,g,gj.mp J⟩)).1 λz=>d (b.dd.dj j i a ⟨w,h,Iu,g,gj.mp J⟩ (mem a (.inr z))),λo q=>q⟩) (b.dd.kd j w h Iu g)
 .have⟨d,y⟩:=t j a A;rcases b1 a z2 with z|z
  .show b.dd.d1 j a y z
  .subst z;show d (b.dd.dj j i a y (mem a (.inl rfl)))
 .rcases z with z|⟨j,z⟩
  .rcases b1 a z with z|rfl
   .show n.roots a (.inl z)
   .show n.roots a (.inr ⟨i,mem a (.inl rfl)⟩)
  .show n.roots a (.inr ⟨j,(t j a z).2⟩)
 .rcases z with z|z
  .show n.new a z
  .rcases n.roots a (.inr ⟨i,mem a (.inr z)⟩) with y|y
   .show .inr (.inl y)
   .show .inr (.inr y)
def AL(f:X.N[i]?=bD x)(g:Js X.env.scope x)(j:(x==("__debug__":Str))=cK)(k:(x==("__classdict__":Str))=cK):PE X (.Name x pos) (Ht C (xu i)):=by
 have m:=ot (C:=C) (pos:=pos) f g j k;rintro b s σ H Q I ⟨c0,rfl,rfl,c,r,st',e,h⟩;unfold xu at e;split at e
 .rename_i u hs;cases e;have⟨v,d,l,rfl⟩:=c.sl i _ _ hs;have⟨n,o⟩:=c.FH (Nx.refl c0) hs d;have p:i<c0.st.length:=(d3.mp hs).1;show b9 f g j k b s c0.σ c0.H Q I ⟨.ref l,d,h {c0 with S:=λa=>c0.S a\/a∈c0.kid i,st:=c0.st.set i (bD (.own,u))} (.ref l) rfl rfl n o ⟨⟨.own,rfl,ez p⟩,d⟩⟩
 .show m b s c0.σ c0.H Q I ⟨c0,rfl,rfl,c,r,st',e,h⟩
end
section
def gn{st:au}(h:W (iD i) st Q):∃ks us,st[i]?=bD (bD (.Hl,.Hn ks us))/\Q (ks,us) st:=by
 have⟨r,st',e,q⟩:=h;unfold iD at e;split at e
 .rename_i ks us hs;cases e;show⟨ks,us,hs,q⟩
 .cases e
def gp{st:au}(h:W (jQ x) st Q):∃y,x.2=.str y/\Q y st:=by
 unfold jQ at h;split at h
 .rename_i y e;rw[ao]at h;show⟨y,e,h⟩
 .show(bf.mp h).elim
def Ok.Hn(d:Ok C c)(f:c.st[i]?=bD (bD (.Hl,.Hn ks us))):∃(r:hA) (kvs:List (Key×V)),c.σ[i]?=bD (bD (.ref r))/\c.H r=bD (.dK kvs)/\kvs.map (·.1)=ks.map kr/\kvs.map (·.2)=(c.kid i).map V.ref /\
  (r::c.kid i).Nodup/\dq C c.S c.H us (c.kid i)/\(∀y:Str,(de kvs (kr y)).isSome=cc (y∈ks))/\∀(y:Str) (u:U),dI ks us y=bD u->∃v,de kvs (kr y)=bD v/\Rep C (λa=>c.S a\/a∈c.kid i) c.H u v:=by
 have⟨v,e,r,rfl⟩:=d.sl i _ _ f;have⟨kvs,k,b,g,l,n,h⟩:=d.dd.kd i _ r f e;have j:aq C (λa=>c.S a\/a∈c.kid i) c.H us (kvs.map (·.2)):=by rw[g];show h.rep (λa=>.inl) λa m=>.inr m
 show⟨r,kvs,e,k,b,g,l,h,λy=>(dN (x:=y) b j).2,λy=>(dN (x:=y) b j).1⟩
def qb{k:Str->List Str×List U->M β}{b:β->au->Prop}{Z:V->V->Hp->Prop}(m:Ok C c0)(h:W (o >>= λx=>jQ x >>= λy=>iD i >>= λd=>k y d) c0.st b)
  (hz:∀(c:Cf) (y:Str) (ks:List Str) (us:List U) (r:hA) (kvs:List (Key×V)),c.σ=c0.σ->Ok C c->Nx c0 c->c.H r=bD (.dK kvs)->(de kvs (kr y)).isSome=cc (y∈ks)->W (k y (ks,us)) c.st b->Z (.str y) (.ref r) c.H) :
  Ht C o c0.σ c0.H λv p=>∃f,c0.σ[i]?=bD (bD f)/\Z v f p:=by
 show⟨c0,rfl,rfl,m,?_⟩;rw[ah]at h;show W.mono h λx st' w c v g hs a n r=>?_;subst hs;have⟨u,z⟩:=x;rw[ah]at w;have⟨y,e,j⟩:=gp w;clear w
 dsimp only at e r
 subst e;have ev:v=.str y:=r.str a;subst ev;rw[ah]at j;have⟨ks,us,hs,w⟩:=gn j;obtain⟨l,kvs,q,s,_,_,_,_,t,_⟩:=a.Hn hs;show⟨.ref l,by rw[<-g];show q,hz c y ks us l kvs g a n s (t y) w⟩
abbrev DN(neg:Bool):CmpOp:=if neg=b6 then .NotIn else .In
def DO(d:∀j,ns j=b6->j≠i)(f:X.N.Nodup)(c:X.N[i]?=bD x)(g:Loc X.env.scope x)(k:X.fn x=b6\/X.env.scope.names.lookup x=bD .local)
  (hs:PZ (.Dict [] [] p) (bD (.Name x a)) pos.line X.env=pure cK):L2.PS X (.Assign [.Name x a] (.Dict [] [] p) pos) (IA C ns (BR i >>= λ_=>pure .nx)):=by
 rintro b s σ H D I ⟨c0,rfl,rfl,l,h⟩;have m:i<c0.σ.length:=by rw[I.len];show(d3.mp c).1
 show wj f c g pw hs k b s c0.σ c0.H D I λq n=>?_;have⟨o,r⟩:=l.newD n m;rw[ah]at h;obtain⟨_,st',e,w⟩:=h;cases e;rw[ao]at w;show w _ rfl o r ⟨λj t=>i1 (rz (d j t)),by simp⟩
end
section
def AM(G:X.A.units+60<Kx)(p:X.N[i]?=bD x)(q:Js X.env.scope x)(t:(x==("__debug__":Str))=cK)(u:(x==("__classdict__":Str))=cK)(v:PE X a (Ht C D))(z:Qi (DN neg) (.Name x p2)=cK):
  PT X (.Compare a [DN neg] [.Name x p2] pos) (IW C (D >>= λx=>jQ x >>= λy=>iD i >>= λd=>pure (RV neg y d.1))):=by
 rintro e s σ H Q I ⟨c0,rfl,rfl,B,h⟩;cases neg with
 |false =>
  show v_ (C0 ⋯ v (b9 p q t u)) z e s c0.σ c0.H Q I (qb (Z:=λy x f=>∃a o,x=V.ref a/\fh f a y o/\∃b,V.bl o.isSome=.bl b/\Q b f) B h λc y ks us r kvs g j n l m w=>?_);rw[ao]at w;show⟨r,_,rfl,fh.k (k:=kr y) l,?_⟩;rw[m];show⟨_,rfl,w c g rfl j n⟩
 |true =>
  show v_ (uV ⋯ v (b9 p q t u)) z e s c0.σ c0.H Q I (qb (Z:=λy x f=>∃a o,x=V.ref a/\fh f a y o/\∃b,V.bl (!o.isSome)=.bl b/\Q b f) B h λc y ks us r kvs g j n l m w=>?_);rw[ao]at w;show⟨r,_,rfl,fh.k (k:=kr y) l,?_⟩;rw[m];show⟨_,rfl,w c g rfl j n⟩
theorem dq.snoc{S:hA->Prop}{a:hA}(b:H a=bD (.lst vs))(c:aq C S H d vs):∀{us:List U}{as:List hA},dq C S H us as->dq C S H (us++[.lst d]) (as++[a])
 |[],as,h=>by cases h;show⟨a,[],d,vs,rfl,rfl,b,c,rfl⟩
 |u::us,as,h=>by
  have⟨a',as',f,g,rfl,e,i,j,k⟩:=h;show⟨a',as'++[a],f,g,rfl,e,i,j,dq.snoc b c k⟩
def rH{st:au}(h:W (kR i y r) st Q):∃us ks vs,r=(.own,.lst us)/\st[i]?=bD (bD (.Hl,.Hn ks vs))/\y∉ks/\ks.length<df/\Q () (st.set i (bD (.Hl,.Hn (ks++[y]) (vs++[.lst us])))):=by
 have⟨k,u⟩:=r;cases k<;>cases u<;>first|show(bf.mp h).elim|skip
 rename_i us;obtain⟨_,st',e,q⟩:=h;unfold kR at e
 dsimp only at e
 split at e
 .rename_i ks vs hs;split at e
  .rename_i hz;cases e;show⟨us,ks,vs,rfl,hs,hz.1,hz.2,q⟩
  .cases e
 .cases e
def DP{i:Nat}{x:Str}{j:Pos}(hu:X.A.units+60<Kx)(hN:X.N[i]?=bD x)(hv:Js X.env.scope x)(hd:(x==("__debug__":Str))=cK)(HW:(x==("__classdict__":Str))=cK)
  (ha:PE X a (Ht C ma)) (B:PE X b (Ht C mb)) (hs:Qe [.Subscript (.Name x j) b p] a pos.line X.env=pure cK) (Mn:Ue [.Subscript (.Name x j) b p] a X.env=pure cb)
  (G:∀v,QX (.Subscript (.Name x j) b p) X.env v=(do
   let n <-LY [v] (wk (.Name x j) X.env)
   let I <-LY [v,n] (wk b X.env)
   W6 p
   LY [v,n,I] (Sd n I v)
   U3 [v,n,I] [])) :
  L2.PS X (.Assign [.Subscript (.Name x j) b p] a pos) (IA C ns (ma >>= λr=>iD i >>= λ_=>mb >>= λx=>jQ x >>= λy=>kR i y r >>= λ_=>pure .nx)):=by
 show PS.weak (qP ha (wg (b9 hN hv hd HW) B (set_dict (X:=X) ⋯) G) hs Mn rfl) ?_;rintro D σ H ⟨c0,rfl,rfl,Q,h⟩;show aP Q h λr c v t w=>?_;rw[ah]at w;have⟨P4,us0,IL,w⟩:=gn w;obtain⟨T,Lf,Y,g0,_⟩:=t.ok.Hn IL;show⟨.ref T,by rw[<-t.hσ];show Y,?_⟩;rw[ah]at w;show⟨c,t.hσ,rfl,t.ok,w.mono λy st2 w2 J vy s e4 u n2 r2=>?_⟩;subst e4;rw[ah]at w2;have⟨ky,uy⟩:=y;have⟨y,ey,w3⟩:=gp w2
 dsimp only at ey r2
 subst ey;have ev:vy=.str y:=r2.str u;subst ev;rw[ah]at w3;have⟨us,ks,vs,L,g,PD,l,q⟩:=rH w3;subst L;rw[ao]at q;obtain⟨m,kvs,d,g1,g2,g3,g4,g5,g6,_⟩:=u.Hn g;have L:m=T:=by rw[s,<-t.hσ,Y]at d;cases d;rfl
 subst L;have⟨f,rfl,k1,k2,O,HQ,k4,k5⟩:=t.rx.w.on t.ok n2.toNs (s.trans t.hσ.symm);have Si:=t.nx.trans n2;have hl:kvs.length=ks.length:=by have:=Z_ HU g2;simpa using this
 have Lg:de kvs (kr y)=cb:=by
  have:=g6 y;rw[Z8 PD]at this;cases hq:de kvs (kr y) with
  |none=>rfl
  |some _=>rw[hq]at this;cases this
 show⟨m,_,rfl,uS.k (k:=kr y) g1 (by rw[hl];show l),?_⟩;rw[wC _ Lg];have P5:f∉J.kid i:=λz=>O (.inr ⟨i,_,_,g,d,.inr z⟩);have Uc:f≠m:=λz=>O (.inr ⟨i,_,_,g,d,.inl z⟩);have rd:=u.dd.kd i _ _ g d;have fr:=cA.fr rd;have⟨Ka,n3⟩:=Ok.FG (H':=upd J.H m (.dK (kvs++[(kr y,.ref f)]))) (u':=.Hn (ks++[y]) (vs++[.lst us])) (as':=J.kid i++[f]) u Si.toNs g d
  (λa ne=>ak λz=>ne ⟨_,_,g,d,.inl z⟩) (λa o e=>by
   by_cases hz:a=m
   .subst hz;show⟨_,ax⟩
   .rw[ak hz];show⟨o,e⟩)
  (λmv=>by
   show⟨_,ax,by rw[ka,g2,ka];rfl,by rw[ka,g3,ka];rfl,?_,λa ha=>?_,?_⟩
   .rw[<-YC,oT];show⟨g4,by simp,λa ha b B=>by
     have:b=f:=by simpa using B
     subst this;rintro rfl;rcases gj.mp ha with z|z
     .show Uc z
     .show P5 z⟩
   .rw[<-YC]at ha;rcases i3.mp ha with ha|ha
    .show fr a ha
    .have:a=f:=by simpa using ha
     subst this;obtain⟨z1,_,z3,_⟩:=Q.jP k1;show⟨k2,z3,z1⟩
   .show dq.snoc (by rw[ak Uc];show k4) (k5.mv mv) (dq.mv mv (λa ha o e=>by
     rw[ak (λz=>(l0.mp g4).1 (by rw[<-z];show ha))];show e) g5))
  (λa ha=>by
   rcases i3.mp ha with ha|ha
   .show .inl ha
   .have:a=f:=by simpa using ha
    subst this;show .inr ⟨O,k1⟩)
 have z:=q _ rfl Ka n3 (Kept.of s);rw[<-s];show z
theorem dq.at{S:hA->Prop}:∀{ks:List Str}{us:List U}{as:List hA}{kvs:List (Key×V)}{u:U},kvs.map (·.1)=ks.map kr->kvs.map (·.2)=as.map V.ref->as.Nodup->dq C S H us as->dI ks us y=bD u ->
  ∃a ws d,de kvs (kr y)=bD (.ref a)/\a∈as/\u=.lst d/\H a=bD (.lst ws)/\aq C S H d ws/\∀(H':Hp) (c:List U) (ws':List V),Mv S H S H'->H' a=bD (.lst ws')->aq C S H' c ws'->(∀b∈as,b≠a->H' b=H b)->dq C S H' (jc ks us y (.lst c)) as
 |[],us,as,kvs,u,_,_,_,_,h=>by cases us<;>cases h
 |k::ks,[],as,kvs,u,_,_,_,_,h=>by cases h
 |k::ks,O::us,as,kvs,u,f,n,g,hk,h=>by
  have⟨a,as',d,ws,rfl,rfl,s,t,v⟩:=hk;cases kvs with
  |nil=>simp at f
  |cons p kvs =>
   rw[eh,eh,LB]at f n;rw[l0]at g;by_cases i:k=y
   .subst i;simp only[dI,if_true]at h;cases h;show⟨a,ws,d,by rw[dP f.1,n.1],by simp,rfl,s,t,λH' c ws' j q r l=>?_⟩;simp only[jc,if_true];show⟨a,as',c,ws',rfl,rfl,q,r,dq.mv j (λb m o e=>by rw[l b (by simp[m]) (λz=>g.1 (z▸m))];show e) v⟩
   .simp only[dI,Z7 i]at h;have⟨w,A,B,D,x,G,I,J,L⟩:=dq.at f.2 n.2 g.2 v h;show⟨w,A,B,?_,by simp[x],G,I,J,λH' c ws' j q r l=>?_⟩
    .rw[dQ (by rw[f.1];intro z;show i (Rt z))];show D
    .simp only[jc,Z7 i];have N:a≠w:=λz=>g.1 (z▸x);show⟨a,as',d,ws,rfl,rfl,by rw[l a (by simp) N];show s,t.mv j,L H' c ws' j q r λb m=>l b (by simp[m])⟩
def rJ{st:au}(h:W (kS i y u) st Q):∃ks vs xs,st[i]?=bD (bD (.Hl,.Hn ks vs))/\dI ks vs y=bD (.lst xs)/\xs.length<df/\Q () (st.set i (bD (.Hl,.Hn ks (jc ks vs y (.lst (xs++[u])))))):=by
 obtain⟨_,st',e,q⟩:=h;unfold kS at e;split at e
 .rename_i ks vs hs;split at e
  .rename_i xs a;split at e
   .rename_i hz;cases e;show⟨ks,vs,xs,hs,a,hz,q⟩
   .cases e
  .cases e
 .cases e
abbrev xQ(C:Ct)(m:M (Kd×U)):TE:=λσ H Q=>∃c0:Cf,c0.σ=σ/\c0.H=H/\Ok C c0/\W m c0.st λr st'=>∀c v,c.σ=σ->c.st=st'->Ok C c->Nx c0 c->(∀a o,c0.H a=bD o->c.H a=bD o)->aQ C c0 c r.1 r.2 v->Q v c.H
def vC(b:Ok C c0)(h:W (d >>= k) c0.st e)
  (hz:∀x c v,LV C c0 c x v->(∀a o,c0.H a=bD o->c.H a=bD o)->W (k x) c.st e->Z v c.H):xQ C d c0.σ c0.H Z:=by
 rw[ah]at h;show⟨c0,rfl,rfl,b,h.mono λx st1 f c1 g i j l m n p=>hz x c1 g ⟨i,l,m,p⟩ n (by rw[j];show f)⟩
def xR(d:X.N[i]?=bD x)(f:Js X.env.scope x)(g:(x==("__debug__":Str))=cK)(l:(x==("__classdict__":Str))=cK):PE X (.Name x pos) (xQ C (c_ i)):=by
 show PE.weak (b9 d f g l) ?_;rintro σ H Q ⟨c0,rfl,rfl,b,r,st',e,h⟩;unfold c_ at e;split at e
 .cases e
 .rename_i k u m hs;cases e;have⟨v,c,a⟩:=b.sl i k u hs;show⟨v,c,h c0 v rfl rfl b (Nx.refl c0) (λ_ _ z=>z) ?_⟩;by_cases hk:k.root=b6
  .rw[Z6 hk];show⟨⟨k,hk,hs⟩,c⟩
  .rw[Z7 hk];cases k with
   |loc=>show a
   |any=>show a
   |bor j=>show a.elim
   |Hl=>show(m rfl).elim
   |_=>show absurd rfl hk
 .cases e
def iI(h:PE X e (tC v))(r:∀S H,Rep C S H u v):PE X e (xQ C (pure (.loc,u))):=by
 show PE.weak h ?_;rintro σ H Q ⟨c0,rfl,rfl,a,h⟩;rw[ao]at h;show h c0 v rfl rfl a (Nx.refl c0) (λ_ _ z=>z) (r _ _)
def DQ(hK:C.K=X.K)(hu:X.A.units+60<Kx)(hN:X.N[i]?=bD x)(hv:Js X.env.scope x)(hd:(x==("__debug__":Str))=cK)(HW:(x==("__classdict__":Str))=cK)(G:PE X a (Ht C ma))(hb:PE X b (Ht C mb))(P6:CZ b)
  (Iw:((x2 I (i2 [a] X.env)).all (λx=>!x.1)&&(Ni I (Jp [] X.env)).all (λx=>x.1.isSome)
   && cc ([a].length+([]:List KX).length+(if ([]:List KX).isEmpty then 0 else 1)<30))=b6)
  (HB:(j.endLine==I.line)=b6) (Hx:i2 [a] X.env=[(cK,wk a X.env)]) :
  L2.PS X (.Expr (.Call (.Attribute (.Subscript (.Name x px) b p) "append" j) [a] [] I) pos) (IA C ns (iD i >>= λ_=>mb >>= λx=>jQ x >>= λy=>iD i >>= λd=>if y∈d.1 then(ma >>= λr=>lift r >>= λu=>kS i y u >>= λ_=>pure .nx) else M.fail)):=by
 show PS.weak (ig (sT PySem.F.plainAttrs_list PySem.F.slot_list_append PySem.F.type_list_append mq (zS ⋯ (b9 hN hv hd HW) hb P6) (ff G iX Hx) rfl Iw HB Hx rfl)) ?_;rintro D σ H ⟨c0,rfl,rfl,ok,h⟩;rw[ah]at h;have⟨P4,us0,IL,h⟩:=gn h;obtain⟨r0,Lf,J,g0,_⟩:=ok.Hn IL;show⟨.ref r0,J,?_⟩;show aP ok h λry c vy t w=>?_;rw[ah]at w;have⟨ky,uy⟩:=ry;have⟨y,ey,w1⟩:=gp w
 dsimp only at ey
 subst ey;have ev:vy=.str y:=t.rx.str t.ok;subst ev;rw[ah]at w1;have⟨ks,us,hs,l⟩:=gn w1
 dsimp only at l
 by_cases L:y∈ks
 case neg=>rw[Z7 L]at l;show(bf.mp l).elim
 rw[Z6 L]at l;obtain⟨O,kvs,f1,g1,g2,g3,g4,g5,g6,_⟩:=t.ok.Hn hs;have Q:O=r0:=by rw[t.hσ,J]at f1;cases f1;rfl
 subst Q;have Mp:=g6 y;rw[Z9 L]at Mp;have⟨v0,s⟩:=QM.mp Mp;have Jo:v0∈(c.kid i).map V.ref:=by
  rw[<-g3];unfold de at s;have⟨q,hq,rfl⟩:=eH.mp s;show X1 (List.mem_of_find?_eq_some hq)
 have⟨f,Wt,rfl⟩:=js.mp Jo;have⟨Wu,Sl⟩:=g5.mem Wt;show⟨O,.ref f,rfl,by rw[<-s];show fh.k (k:=kr y) g1,Or.inl ⟨rfl,Wu,.inl (.inl Sl)⟩,?_⟩;rw[<-t.hσ];show aP t.ok l λr g v t' w3=>?_;rw[ah]at w3;obtain⟨S',st',u,sS,T,n1,m,w4,_,_⟩:=gh t.ok t'.ok t'.nx t'.rx.w w3;rw[ah]at w4;have⟨KI,HQ,xs,n,hx,hz,q⟩:=rJ w4;rw[ao]at q;obtain⟨B,Y,k1,k2,k3,k4,k5,k6,_,_⟩:=T.Hn n;have Ud:g.σ[i]?=bD (bD (.ref B)):=k1;have Q:B=O:=by rw[t'.hσ,t.hσ,J]at Ud;cases Ud;rfl
 subst Q;have XQ:g.H B=bD (.dK Y):=k2;have Sm:Y=kvs:=by have:=(n1.dk _ ⟨i,_,_,n,k1,.inl rfl⟩).2 _ g1;rw[show _=_ from k2]at this;cases this;rfl
 subst Sm;have nd:=(l0.mp k5).2;have⟨a2,ws,ys,l1,l2,l3,l4,l5,l6⟩:=dq.at k3 k4 nd k6 hx;cases l3;rw[s]at l1;cases l1;have Wv:g.H f=bD (.lst ws):=l4;show⟨f,ws,v,rfl,rfl,Wv,by rw[<-l5.len];show hz,?_⟩;have Ih:f≠B:=λz=>(l0.mp k5).1 (z▸l2);have⟨HP,n2⟩:=Ok.FG (c:={g with S:=S',st:=st' }) (H':=upd g.H f (.lst (ws++[v]))) (u':=.Hn KI (jc KI HQ y (.lst (xs++[u])))) (as':=g.kid i) T (t.nx.trans n1).toNs n k1
  (λa ne=>ak λz=>ne ⟨_,_,n,k1,.inr (z▸l2)⟩) (λa o e=>by
   by_cases hz:a=f
   .subst hz;show⟨_,ax⟩
   .rw[ak hz];show⟨o,e⟩)
  (λmv=>⟨Y,by rw[ak (rz Ih)];show k2,k3,k4,k5,cA.fr (T.dd.kd i _ _ n k1),l6 _ _ _ mv ax ((l5.mv mv).snoc (m.mv mv)) λb _ ne=>ak ne⟩)
  (λa G=>.inl G)
 have z:=q _ rfl HP n2 (Kept.of (t'.hσ.trans t.hσ));rw[<-t'.hσ];show z
end
section
def xS{st:au}(h:W (RW u) st Q):∃ks us,u=.Hn ks us/\Q () st:=by
 cases u<;>first|show(bf.mp h).elim|skip
 show⟨_,_,rfl,ao.mp h⟩
def mP{st:au}(h:W (vn x) st Q):∃j,x.2=.int j/\Q j st:=by
 unfold vn at h;split at h
 .rename_i y e;rw[ao]at h;show⟨y,e,h⟩
 .show(bf.mp h).elim
def mQ{st:au}(h:W (p6 i) st Q):∃k us,k.root=b6/\st[i]?=bD (bD (k,.lst us))/\Q us st:=by
 have⟨r,st',e,q⟩:=h;unfold p6 at e;split at e
 .rename_i k us hs;split at e
  .rename_i hk;cases e;show⟨k,_,hk,hs,q⟩
  .cases e
 .cases e
theorem qc:∀{ks:List Str}{us:List U},y∈ks->ks.length=us.length->dI ks us y=cb->False
 |[],us,h,_,_=>by cases h
 |k::ks,[],_,h,_=>by simp at h
 |k::ks,u::us,h,hl,e=>by
  by_cases hk:k=y
  .simp[dI,hk]at e
  .simp only[dI,Z7 hk]at e;rcases gj.mp h with h|h
   .show hk h.symm
   .show qc h (by simpa using hl) e
def xT{i:Nat}{x:Str}{G:Pos}(hu:X.A.units+60<Kx)(hN:X.N[i]?=bD x)(hv:Js X.env.scope x)(hd:(x==("__debug__":Str))=cK)(HW:(x==("__classdict__":Str))=cK)
  (ha:PE X a (Ht C ma)) (hb:PE X b (Ht C mb)) (hm:M2 X (.Name x G) "get" e a b F') :
  PE X (.Call (.Attribute (.Name x G) "get" e) [a,b] [] F') (Ht C (c_ i >>= λx=>RW x.2 >>= λ_=>ma >>= λy=>jQ y >>= λy=>mb >>= λz=>lift z >>= λu=>c_ i >>= λx=>M.HG (Aj x y u))):=by
 rintro f s σ H Q I ⟨c0,rfl,rfl,p,h⟩;show wI ⋯ (b9 hN hv hd HW) ha hb hm f s c0.σ c0.H Q I ?_;rw[ah]at h;have⟨k0,u0,Sn,IL,h⟩:=cQ h;have⟨v0,J,t0⟩:=p.slot Sn IL;rw[ah]at h;have⟨P4,us0,L,h'⟩:=xS h
 dsimp only at L
 subst L;obtain⟨B,Lf,rfl,g0,_⟩:=t0.dict p;show⟨.ref B,J,B,rfl,.inl ⟨Lf,.inl g0⟩,?_⟩;show aP p h' λry c vy t w=>?_;rw[ah]at w;have⟨ky,uy⟩:=ry;have⟨y,O,w1⟩:=gp w
 dsimp only at O
 subst O;have ev:vy=.str y:=t.rx.str t.ok;subst ev;rw[<-t.hσ];show aP t.ok w1 λz g vz j T=>?_;rw[ah]at T;obtain⟨S',st',u,sS,D,n1,l,Y,_,_⟩:=gh t.ok j.ok j.nx j.rx.w T;rw[ah]at Y;have⟨k,u1,Ww,Jz,w5⟩:=cQ Y;have⟨r,d,q⟩:=cj.mp w5;have⟨v1,e1,t1⟩:=D.slot Ww Jz;have Iu:g.σ[i]?=bD (bD v1):=e1;rw[j.hσ,t.hσ,J]at Iu;cases Iu;cases u1<;>first|(simp only[Aj]at d;cases d;done)|skip
 rename_i ks us;have⟨a1,kvs,ea,g1,g2,g3⟩:=t1.dict D;cases ea;have P8:g.H B=bD (.dK kvs):=g1;show⟨_,fh.k (k:=kr y) P8,?_⟩;simp only[Aj]at d;have⟨l1,l2⟩:=dN (x:=y) g2 g3;have m:∀v:V,aQ C c0 {g with S:=S',st:=st' } r.1 r.2 v->Q v g.H:=λv z=>q {g with S:=S',st:=st' } v (j.hσ.trans t.hσ) rfl D (t.nx.trans n1) z;cases o:dI ks us y with
 |some w =>
  rw[o]at d;cases d;have⟨v,ev,rv⟩:=l1 w o;rw[ev];show m v ?_;show aQ.item (k:=if k.root=b6 then .bor i else k) rv
 |none =>
  rw[o]at d;cases d;have Lg:de kvs (kr y)=cb:=by
   cases hq:de kvs (kr y) with
   |none=>rfl
   |some v =>
    exfalso
    rw[hq]at l2;have hy:y∈ks:=by simpa using l2.symm
    have n:ks.length=us.length:=by have h1:=Z_ HU g2;have h2:=g3.len;simp at h1 h2;lia
    show qc hy n o
  rw[Lg];show m vz l
def xU:EV X (λo i H Q=>∃p xs j v,o=.ref p/\i=.int j/\H p=bD (.lst xs)/\0<=j/\xs[j.toNat]?=bD v/\Q v H):=by
 rintro a s σ H o i l m Q I c d ⟨p,xs,j,v,rfl,rfl,e,f,b,q⟩;cases c;have⟨t,rfl⟩:=d;have⟨n,r,g,hz⟩:=I.list (.inl (.inl e));have⟨w,h,k⟩:=r.get b;have hl:=r.length;have u:=fe;have x:=(d3.mp b).1;show wpAny_getItem_list g.isList f ⋯ (by simpa using h) ⟨v,H,I,k,q⟩
def AN:Pj X (if sub=b6 then .Sub else .Add) (Qw (vp sub)):=by
 cases sub with
 |true=>show CI
 |false=>show CH
def FI(hN:X.N[i]?=bD x)(hv:Js X.env.scope x)(hd:(x==("__debug__":Str))=cK)(HW:(x==("__classdict__":Str))=cK)
  (ha:PE X a (xQ C ma)) (hb:PE X b (Ht C mb))
  (n:∀f g new,ZV b f g new=(do LY [new,f,g] (Sd f g new);U3 [new,f,g] [];pure .next)) :
  L2.PS X (.AugAssign (.Subscript (.Name x px) b p) (if sub=b6 then .Sub else .Add) a pos) (IA C ns (p6 i >>= λ_=>mb >>= λy=>vn y >>= λj=>p6 i >>= λus=>M.HG (p7 us j) >>= λo=>ma >>= λz=>vn z >>= λw=>modS i (d9 (.int j) (.int (vp sub o w))) >>= λ_=>pure .nx)):=by
 show PS.weak (zA (b9 hN hv hd HW) hb xU ha AN set_list n) ?_;rintro D σ H ⟨c0,rfl,rfl,v,h⟩;rw[ah]at h;have⟨k0,us0,IH,IL,h⟩:=mQ h;have⟨v0,r,JY⟩:=v.sl i _ _ IL;obtain⟨e,rfl,_,_,_,_⟩:=JY.rt IH;show⟨.ref e,r,?_⟩;show aP v h λry c vy t w=>?_;rw[ah]at w;have⟨ky,uy⟩:=ry;have⟨j,A,B⟩:=mP w
 dsimp only at A
 subst A;have ev:vy=.int j:=t.rx.int t.ok;subst ev;rw[ah]at B;have⟨k1,So,RM,Jz,G⟩:=mQ B;rw[ah]at G;have⟨o,ho,w3⟩:=cj.mp G;have⟨v1,I,Wx⟩:=t.ok.sl i _ _ Jz;obtain⟨a1,rfl,_,_,_,OR⟩:=Wx.rt RM;rw[t.hσ,r]at I;cases I;have⟨vs,J,g2⟩:=OR;unfold p7 at ho;split at ho
 case isFalse=>cases ho
 rename_i Ov;split at ho
 case h_2=>cases ho
 rename_i o' Sr;cases ho;have⟨vo,Wy,Wz⟩:=g2.get Sr;have WA:vo=.int o:=Wz;subst WA;show⟨e,vs,j,_,rfl,rfl,J,Ov,Wy,?_⟩;rw[<-t.hσ];show vC t.ok w3 λz s vz d all2 L=>?_;rw[ah]at L;have⟨kz,uz⟩:=z;have⟨w,O,Q⟩:=mP L
 dsimp only at O
 subst O;have ev:vz=.int w:=d.rx.int d.ok;subst ev;show⟨o,w,rfl,rfl,?_⟩;rw[ah]at Q;have⟨k,u1,u2,hk,T,l,q⟩:=eV Q;rw[ao]at q;have⟨v2,u,L7⟩:=d.ok.sl i _ _ T;obtain⟨a2,rfl,_,_,_,OS⟩:=L7.rt hk;have WB:=u;rw[d.hσ,t.hσ,r]at u;cases u;have Y:s.H e=bD (.lst vs):=all2 _ _ J;cases u1 with
 |lst xs =>
  simp only[d9,eH]at l;have⟨m,Kz,rfl⟩:=l;have⟨XR,l1,l2⟩:=OS;rw[Y]at l1;cases l1;show⟨e,vs,j,m,rfl,rfl,Y,by rw[<-l2.len];show Kz,?_⟩;have⟨Ka,n3⟩:=Ok.mod (c:=s) (H':=upd s.H e (.lst (vs.set m (.int (vp sub o w))))) (u':=.lst (xs.set m (.int (vp sub o w)))) d.ok (t.nx.trans d.nx).toNs hk T WB (λa ne=>ak ne) ⟨_,ax⟩ λmv=>⟨_,ax,(l2.mv mv).set m rfl⟩
  have z:=q _ rfl Ka n3 (Kept.of (d.hσ.trans t.hσ));rw[<-d.hσ];show z
 |Hn ks vs=>simp[d9]at l
 |_=>simp[d9]at l
end
section
def AO{ks:List Str}(c:kvs.map (·.1)=ks.map kr)(d:kvs.map (·.2)=ns.map V.int):kvs=(ks.zip ns).map λp=>((kr p.1:Key),V.int p.2):=by
 induction kvs generalizing ks ns with
 |nil =>
  cases ks with
  |nil=>rfl
  |cons _ _=>cases c
 |cons kv kvs e =>
  cases ks with
  |nil=>cases c
  |cons k ks =>
   cases ns with
   |nil=>cases d
   |cons n ns =>
    have⟨a,b⟩:=kv;simp only[eh,LB]at c d;have⟨rfl,c⟩:=c;have⟨rfl,d⟩:=d;rw[e c d];rfl
theorem aq.of_map{S:hA->Prop}{f:α->U}{g:α->V}:∀{l:List α},(∀x∈l,Rep C S H (f x) (g x))->aq C S H (l.map f) (l.map g)
 |[],_=>rfl
 |x::l,h=>⟨g x,l.map g,rfl,h x (by simp),aq.of_map λy a=>h y (by simp[a])⟩
def AQ(Y:X.calm=b6)(hK:C.K=X.K)(hg:Gl X "sorted")(hm:X.mg "sorted"=cb)(hN:X.N[i]?=bD x)(hv:Js X.env.scope x)(hd:(x==("__debug__":Str))=cK)(HW:(x==("__classdict__":Str))=cK)(HB:(b.endLine==l.line)=b6):
  PE X (.Call (.Name "sorted" p) [.Call (.Attribute (.Name x n) "items" b) [] [] l] [] pos) (Ht C (c_ i >>= λx=>M.HG (xq x.2))):=by
 rintro f s σ H Q I ⟨c0,rfl,rfl,m,h⟩;show uk (dB I hg hm (show vr "sorted"=bD (.builtin "sorted") by decide +kernel) ?_ (by decide +kernel) (by decide +kernel));rw[ah]at h;have⟨k0,u0,Sn,IL,h⟩:=cQ h;have⟨v0,e0,t0⟩:=m.slot Sn IL;have⟨r,c,k⟩:=cj.mp h
 dsimp only at c
 unfold xq at c;split at c
 rotate_left
 .cases c
 rename_i ks us;rw[r6]at c;have⟨ns,en,c⟩:=c;split at c
 rotate_left
 .cases c
 rename_i Ss;cases c;have⟨JT,HJ,u⟩:=Ss;have⟨d,kvs,rfl,B,IH,D⟩:=t0.dict m;rw[jA en]at D;have Sm:=AO IH (aq.ints D);subst Sm;have ek:((ks.zip ns).map (·.1))=ks:=Yx ⋯;have g:et (hH X.prog X.w) X.A (wk (.Call (.Attribute (.Name x n) "items" b) [] [] l) X.env) (λv s1=>et (hH X.prog X.w) X.A (MK (.builtin "sorted") [v]) (EP X f c0.σ Q) X.xe s1) X.xe s:=by
  show RO rfl HB (Hu (b9 hN hv hd HW f s c0.σ c0.H (λv G=>v=.ref d/\G=c0.H) I ⟨_,e0,rfl,rfl⟩) λv s1 Su=>?_);have⟨x1,G,J,r1,z1,z2⟩:=Su;subst z1 z2;cases(show v=kj d from r1);have⟨h1,h2⟩:=nQ (T:="dict") J (x:=.ref d) rfl (.inr (.inr (.inl ⟨rfl,.inl ⟨_,B⟩⟩)));show⟨"dict","dict.items",PySem.F.plainAttrs_dict,PySem.F.slot_dict_items,PySem.F.type_dict_items,h1,h2,wh rfl (PySem.evalArgs_none (oj Y J B (by rw[ek];show HJ) (by rw[UI];lia) λas L hl nd O hL=>?_))⟩;have q:c0.H L=cb:=O L (by simp);have Uh:(as.zip ((ks.zip ns).map Lw)).map (·.1)=as:=Yx (by rw[c2];lia);have WC:∀p∈as.zip ((ks.zip ns).map Lw),p.1∈as:=λp t=>(Pt t).1;have same:zP c0.H (upd (jO c0.H (as.zip ((ks.zip ns).map Lw))) L (.lst ((jM ((ks.zip ns).map (·.1))).map λi=>V.ref (as.getD i 0)))):=λa o e=>by
   have n1:a≠L:=λy=>by rw[y,q]at e;cases e
   rw[ak n1,kP λp t y=>?_]
   .show e
   .have:=O p.1 (by simp[WC p t]);rw[y,e]at this;cases this
  have⟨HE,n'⟩:=m.grow (S':=c0.S) same (λa z=>.inl z) λa z=>z;have⟨q1,q2,q3,q4,q5⟩:=m.jP q;show k {c0 with H:=upd (jO c0.H (as.zip ((ks.zip ns).map Lw))) L (.lst ((jM ((ks.zip ns).map (·.1))).map λi=>V.ref (as.getD i 0))),S:=c0.S} _ rfl rfl HE n' ⟨L,rfl,q,q2,q5,_,ax,?_⟩;change aq C c0.S _ ((Ah (ks.zip ns)).map vk) _;unfold Ah;rw[hh];show aq.of_map λj hj=>?_;have Kz:j<(ks.zip ns).length:=by
   have:=u7.mp ((gb _).mem_iff.mp hj);rw[c2]at this;show this
  have RS:j<as.length:=by lia
  have e1:(ks.zip ns).getD j (tr,0)=(ks.zip ns)[j]:=(List.getElem_eq_getD _).symm;have e2:as.getD j 0=as[j]:=by simp[M8,RS]
  change Rep C c0.S _ (vk ((ks.zip ns).getD j (tr,0))) (V.ref (as.getD j 0));rw[e1,e2];show⟨as[j],Lw (ks.zip ns)[j],rfl,Ie.of ?_,⟨_,_,rfl,rfl,_,_,rfl,rfl,rfl⟩⟩;have Ih:as[j]≠L:=λy=>hL (by rw[<-y];simp);show(ak Ih).trans (tD (by rw[Uh];show nd) (vs:=Lw (ks.zip ns)[j]) ?_);show XC.mpr ⟨j,by rw[UI,c2];lia,?_⟩;rw[List.getElem_zip,Yz]
 have eb:x2 pos (i2 [.Call (.Attribute (.Name x n) "items" b) [] [] l] X.env)=[(cK,wk (.Call (.Attribute (.Name x n) "items" b) [] [] l) X.env)]:=rfl;have WD:Ni pos (Jp [] X.env)=[]:=rfl;rw[eb,WD];show ox g
end
section
def tS(f:X.calm=b6)(g:C.K=X.K)(i:Gl X "set")(j:X.mg "set"=cb)(m:PE X a (Ht C n))(hs:i2 [a] X.env=[(cK,wk a X.env)])(I:Inv X b c0.σ c0.H s)(r:Ok C c0)
  (h:W (n >>= λx=>M.HG (fF x.2) >>= k) c0.st u)
  (y:∀(S:hA) (o:Obj) (s1:gs) (D:List Str) (c:Cf),c.σ=c0.σ->Ok C c->Nx c0 c->s1.heap.get? S=bD o->aT X.prog X.w s1.heap S (aD X.w) D->Inv X ((S,o)::b) c.σ c.H s1->W (k D) c.st u->(∀q∈b,q.1≠S)->Q (.ref S) s1) :
  et (hH X.prog X.w) X.A (wk (.Call (.Name "set" p) [a] [] pos) X.env) Q X.xe s:=by
 show uk (dB I i j (show vr "set"=bD (.type "set") by decide +kernel) ?_ (by decide +kernel) (by decide +kernel));have B:x2 pos (i2 [a] X.env)=[(cK,wk a X.env)]:=by rw[hs];rfl
 have G:Ni pos (Jp [] X.env)=[]:=rfl;rw[B,G];show tP (one m I r h λx c vx v s2 t d rv w=>?_);rw[ah]at w;have⟨D,e,w⟩:=cj.mp w;have⟨l,ys,rfl,J,L,rfl⟩:=jf g t.ok t.rx e;cases rv;show rf f d J L λS o s1 hsz N O T=>y S o s1 _ c t.hσ t.ok t.nx N O T w λq Y z=>by
  have:=gc (d.pin q (l' _ Y)).1;rw[z]at this;show absurd (i9 this hsz) (u3 _)
def AR(n:X.calm=b6)(D:C.K=X.K)(G:Gl X (if ln=b6 then "len" else "sorted"))(J:X.mg (if ln=b6 then "len" else "sorted")=cb)(L:Gl X "set")(N:X.mg "set"=cb)(ha:PE X a (Ht C ma))(hb:PE X b (Ht C mb))(WE:i2 [a] X.env=[(cK,wk a X.env)])(Kq:i2 [b] X.env=[(cK,wk b X.env)]):
  PE X (.Call (.Name (if ln=b6 then "len" else "sorted") p) [.BinOp (.Call (.Name "set" t) [a] [] u) .Sub (.Call (.Name "set" p2) [b] [] pos2) d] [] pos)
   (Ht C (ma >>= λx=>M.HG (fF x.2) >>= λd1=>mb >>= λy=>M.HG (fF y.2) >>= λd2=>M.HG (lW ln d1 d2))):=by
 rintro f s σ H Q I ⟨c0,rfl,rfl,ok,h⟩;have g:et (hH X.prog X.w) X.A (wk (.BinOp (.Call (.Name "set" t) [a] [] u) .Sub (.Call (.Name "set" p2) [b] [] pos2) d) X.env) (λv s1=>et (hH X.prog X.w) X.A (MK (.builtin (if ln=b6 then "len" else "sorted")) [v]) (EP X f c0.σ Q) X.xe s1) X.xe s:=by
  show wpAny_BinOp (tS n D L N ha WE I ok h λS1 o1 s1 D1 c1 WG Hv WH Lu K7 I1 w1 Ny=>?_);show tS n D L N hb Kq I1 Hv w1 λS2 o2 s2 D2 j WI O WJ Mg NA z w2 Nu=>?_;have⟨r,m,k⟩:=cj.mp w2;have Sv:=(z.pin (S1,o1) (l' _ (by simp))).1;have Sw:aT X.prog X.w s2.heap S1 (aD X.w) D1:=K7.at λo e=>by rw[Lu]at e;cases e;show Sv
  have Ih:S1≠S2:=Nu (S1,o1) (by simp);have nx:Nx c0 j:=WH.trans WJ;have B:j.σ=c0.σ:=WI.trans WG;have I3:Inv X f j.σ j.H s2:=z.eB λq hq=>z.pin q (l' _ (by simp[hq]));unfold lW at m;split at m
  rotate_left
  .cases m
  rename_i i;show L2.jV Ih Sw NA i.1 i.2 λh' hk T=>?_;have Y:Inv X f j.σ j.H {s2 with heap:=h' }:=I3.kept (t':=s2.toks) hk;rw[<-B];cases ln with
  |true =>
   cases m;show kI Y T (cw.flat (c:=j) k B O nx rfl)
  |false =>
   cases m;show gD n Y T (Yq (ki _ _) i.1) λl hl=>cw.list (c:=j) k B O nx (aq.strs.mpr rfl) l hl
 have eb:x2 pos (i2 [.BinOp (.Call (.Name "set" t) [a] [] u) .Sub (.Call (.Name "set" p2) [b] [] pos2) d] X.env)=[(cK,wk (.BinOp (.Call (.Name "set" t) [a] [] u) .Sub (.Call (.Name "set" p2) [b] [] pos2) d) X.env)]:=rfl;have ek:Ni pos (Jp [] X.env)=[]:=rfl;cases ln with
 |true =>
  show uk (dB I G J (show vr "len"=bD (.builtin "len") by decide +kernel) ?_ (by decide +kernel) (by decide +kernel));rw[eb,ek];show ox g
 |false =>
  show uk (dB I G J (show vr "sorted"=bD (.builtin "sorted") by decide +kernel) ?_ (by decide +kernel) (by decide +kernel));rw[eb,ek];show ox g
end
section
def Ok.FJ(b:Ok C c)(m:c.st[i]?=bD (bD (.own,u)))(p:c.σ[i]?=bD (bD (.ref r))):Ok C {c with H:=upd c.H r o',st:=c.st.set i cb}/\Ns c {c with H:=upd c.H r o',st:=c.st.set i cb}/\¬({c with H:=upd c.H r o',st:=c.st.set i cb}:Cf).R r:=by
 have ID:i<c.st.length:=(d3.mp m).1;have x:c.R1 r:=⟨i,.own,u,rfl,m,p⟩
 have⟨s,z2,z3,o,z4,z5⟩:=b.root (.inl x);have J:C.H₀ r=cb:=by
  obtain⟨v,f,h,t,_,_,q,_⟩:=b.sl i _ _ m;rw[p]at f;cases f;cases t;show q
 have l:∀(j:Nat) k w,(c.st.set i cb)[j]?=bD (bD (k,w))->j≠i/\c.st[j]?=bD (bD (k,w)):=λj k w e=>by
  by_cases A:j=i
  .subst A;rw[ez ID]at e;cases e
  .rw[i1 (rz A)]at e;show⟨A,e⟩
 have b1:∀a,({c with H:=upd c.H r o',st:=c.st.set i cb}:Cf).R1 a->c.R1 a/\a≠r:=λa HD=>by
  have⟨j,k,w,hk,f,g⟩:=HD;have⟨B,L⟩:=l j k w f;show⟨⟨j,k,w,hk,L,g⟩,λz=>?_⟩;subst z;show B (b.inj j i k .own w u a hk rfl L m g p)
 have N:∀j a,({c with H:=upd c.H r o',st:=c.st.set i cb}:Cf).RD j a->c.RD j a:=λj a ⟨w,h,f,g,D⟩=>⟨w,h,(l j _ w f).2,g,D⟩
 have O:∀j a,c.RD j a->a≠r:=λj a z e=>by subst e;show b.dd.d1 j a z x
 have G:∀S:hA->Prop,¬S r->Mv S c.H S (upd c.H r o'):=λS hS=>⟨λa z=>z,λa d e tp=>by
  have:a≠r:=λz=>by subst z;rw[z4]at e;cases e;show z5 tp
  rw[ak this];show e,λa d z e=>by
  have:a≠r:=λy=>by subst y;show hS z
  rw[ak this];show e⟩
 have hP:¬PS C c.S r:=λz=>z.elim z2 s;show⟨⟨λa d e Iz=>?_,λa z=>?_,b.par,λa z=>?_,by simp[b.len],λj k w e=>?_,λj1 j2 k1 k2 w1 w2 h h1 h2 f g D e4=>b.inj j1 j2 k1 k2 w1 w2 h h1 h2 (l _ _ _ f).2 (l _ _ _ g).2 D e4,?_⟩,⟨λa d e hR=>?_,λa d e=>?_,λa z=>?_,λa z=>z,λa z=>.inl z⟩,λz=>?_⟩
 .have:a≠r:=λy=>by subst y;rw[J]at e;cases e
  change upd c.H r o' a=_;rw[ak this];show b.same a d e Iz
 .have⟨n,d,I⟩:=b.JA a z;have:a≠r:=λy=>by subst y;show s z
  show⟨n,d,by change upd c.H r o' a=_;rw[ak this];show I⟩
 .obtain⟨⟨d,n⟩,WK,I⟩:=b.io a z;have:a≠r:=λy=>by subst y;rw[J]at n;cases n
  show⟨⟨d,n⟩,WK,by change upd c.H r o' a=_;rw[ak this];show I⟩
 .have⟨B,Q⟩:=l j k w e;have⟨v,f,g⟩:=b.sl j k w Q;show⟨v,f,g.mv (G _ s) (G _ hP) λhk h t=>?_⟩;obtain⟨OK,T,y1,_⟩:=g.rt hk;rw[t]at T;cases T;have:h≠r:=λy=>by subst y;show B (b.inj j i k .own w u h hk rfl Q m (by rw[f,t]) p)
  show⟨y1,λd q=>by change upd c.H r o' h=_;rw[ak this];show q⟩
 .show b.dd.of rfl (λj w e=>⟨(l j _ w e).2,rfl⟩) (λa z=>.inl (b1 a z).1) (G _ s) λj a z=>⟨(b.root (.inr ⟨j,z⟩)).1,λd q=>by change upd c.H r o' a=_;rw[ak (O j a z)];show q⟩
 .have:a≠r:=λy=>by subst y;show hR (.inl x)
  change upd c.H r o' a=_;rw[ak this];show e
 .by_cases Y:a=r
  .subst Y;show⟨o',ax⟩
  .show⟨d,by change upd c.H r o' a=_;rw[ak Y];show e⟩
 .rcases z with z|⟨j,z⟩
  .show .inl (.inl (b1 a z).1)
  .show .inl (.inr ⟨j,N j a z⟩)
 .rcases z with z|⟨j,z⟩
  .show(b1 r z).2 rfl
  .show O j r (N j r z) rfl
def xV(u:c.H r=bD (.Ir o (.dK kvs)))(w:¬c.R r)(y:Ok C c)(hk:kvs.map (·.1)=ks.map kr)(z:aq C c.S c.H us (kvs.map (·.2))):Walk C c [] (om (ks,us)) (RJ r o kvs):=by
 intro b k n N hs;have l:=n.keep r _ u w;have m:=z.mv (y.mv n);have O:kvs.length=ks.length:=by rw[<-c2 (f:=(·.1)),hk,c2]
 have Q:us.length=kvs.length:=by rw[m.len,c2]
 have T:(om (ks,us)).length=kvs.length:=by
  unfold om;rw[c2,UI];change min ks.length us.length=_;lia
 show⟨λi q d=>?_,λi a=>⟨l,⋯⟩⟩;unfold om at d;rw[i7,eH]at d;have⟨p,A,rfl⟩:=d;have⟨s,B⟩:=List.getElem?_zip_eq_some.mp A;have⟨v,e,g⟩:=m.get B;have a:i<kvs.length:=by
  have:i<ks.length:=(d3.mp s).1;lia
 have D:kvs[i]?=bD (kr p.1,v):=by
  rw[i7,mA a]at e;have h:(kvs.map (·.1))[i]?=(ks.map kr)[i]?:=by rw[hk]
  rw[i7,i7,mA a,s]at h;rw[mA a];simp only[O_,Pf]at h e;rw[<-h,<-e]
 show⟨.inl rfl,⟨l,a⟩,λx H' j=>?_⟩;have⟨q,G,rfl,j⟩:=j;have I:=j _ _ D;subst I;have⟨J,t⟩:=k.lay (o:=.tup [kV (kr p.1),v]) G;show⟨{b with H:=upd b.H q (.tup [kV (kr p.1),v])},rfl,rfl,rfl,J,t,?_⟩;have L:aq C b.S b.H [.str p.1,p.2] [kV (kr p.1),v]:=⟨_,_,rfl,rfl,_,_,rfl,g,rfl⟩
 show⟨q,_,rfl,Ie.of ax,L.mv (k.mv t)⟩
def DR(A:X.N[i]?=bD x)(B:Js X.env.scope x)(G:(x==("__debug__":Str))=cK)(J:(x==("__classdict__":Str))=cK)(L:(g.endLine==O.line)=b6)
  (S:dR X N own scope) (T:X.calm=b6) (hl:own.length=2) (Y:∀D s H ex,PG (IC X N scope D s H ex) (.Tuple es kx ps) (tG C b6 (hQ own.length))) (he:∀D s H ex,PE (IC X N scope D s H ex) elt (Ht C me)) :
  L2.PS X (.Return (bD (.ListComp elt [⟨.Tuple es kx ps,.Call (.Attribute (.Name x px) "items" g) [] [] O,[],0⟩] scope pos)) WM) (IA C ns (pZ i >>= λd=>bP 2 b6 (pure b6) me [] (om d) [] >>= λus=>retS (.own,.lst us))):=by
 show PS.weak (wc (C_ (sX S T (xj A B G J L) Y (λD s H ex=>show Ls _ [] (IW C (pure b6)) from λj s σ H Q I ⟨c0,f,e2,k,w⟩=>nV j s σ H Q I (by subst f e2;rw[ao]at w;show w c0 rfl rfl k (Nx.refl c0))) he))) ?_;rintro D σ H ⟨c0,rfl,rfl,k,h⟩;rw[ah]at h;have⟨d,st',e,h⟩:=h;unfold pZ at e;split at e
 rotate_left
 .cases e
 rename_i ks us l;cases e;have⟨v,f,r,er⟩:=k.sl i _ _ l;subst er;have⟨kvs,t,g2,g3,g4,g5,g6⟩:=k.dd.kd i _ r l f;show⟨r,kvs,t,λo=>?_⟩;have⟨Hv,n1⟩:=Ok.FH k (Nx.refl c0) l f;have ID:i<c0.st.length:=(d3.mp l).1;have⟨HP,n2,nR⟩:=Ok.FJ (o':=.Ir o (.dK kvs)) Hv (i:=i) (u:=.Hn ks us) (r:=r) (by change(c0.st.set i _)[i]?=_;rw[ez ID]) f;let b:Cf:={S:=λa=>c0.S a\/a∈c0.kid i,H:=upd c0.H r (.Ir o (.dK kvs)),σ:=c0.σ,st:=c0.st.set i cb,kid:=c0.kid}
 have R_:(c0.st.set i (bD (Kd.own,U.Hn ks us))).set i cb=c0.st.set i cb:=by rw[List.set_set]
 have m:({ ({c0 with S:=λa=>c0.S a\/a∈c0.kid i,st:=c0.st.set i (bD (.own,.Hn ks us))}:Cf) with H:=upd c0.H r (.Ir o (.dK kvs)),st:=(c0.st.set i (bD (Kd.own,U.Hn ks us))).set i cb}:Cf)=b:=by rw[R_]
 have p:Ok C b:=m▸HP;have WN:Ns c0 b:=n1.toNs.trans (m▸n2);have WO:¬b.R r:=m▸nR;have I_:aq C b.S b.H us (kvs.map (·.2)):=by
  rw[g3];have:=(dq.rep (S':=b.S) (λa=>.inl) (λa ha=>.inr ha) g6).mv (show Mv b.S c0.H b.S b.H from⟨λa z=>z,λa ob q tp=>?_,λa ob z q=>?_⟩)
  .show this
  .have:a≠r:=λy=>by subst y;rw[t]at q;cases q;show tp
   change upd c0.H r _ a=_;rw[ak this];show q
  .have:a≠r:=λy=>by
    subst y;rcases z with z|z
    .show(g5 a (by simp)).1 z
    .show(l0.mp g4).1 z
   change upd c0.H r _ a=_;rw[ak this];show q
 show⟨r,o,kvs,f,ax,?_⟩;rw[hl];show mM (c0:=b) (c1:=b) (rs:=[]) (xs:=om (ks,us)) rfl p (Nx.refl b) (xV ax WO p g2 I_) ?_;rw[ah]at h;show h.mono λvs st2 w=>?_;rw[show retS (.own,.lst vs)=pure (.rt .own (.lst vs)) from rfl,ao]at w;rw[ao];intro c v hσ Hx HV n rt;have⟨r0,e,h1,h2,h3,h4⟩:=rt;show w c Hx HV (WN.trans n.toNs) (Kept.of hσ) v ⟨r0,e,(p.jP h1).1,h2,h3,h4⟩
end
section
variable{X:Cx}{C:Ct}{a:mh}{ma:M (Kd×U)}{apos F':Pos}{i:Nat}{x:Str}{px:Pos}
def Ok.BV(b:Ok C c)(hk:k.root=b6)(hs:c.st[i]?=bD (bD (k,.lst us))):∃a vs,c.σ[i]?=bD (bD (.ref a))/\c.H a=bD (.lst vs)/\aq C c.S c.H us vs:=by
 have⟨v,d,e⟩:=b.sl i k _ hs;obtain⟨r,rfl,_,_,_,vs,f,g⟩:=e.rt hk;show⟨r,vs,d,f,g⟩
theorem aq.eraseIdx{S:hA->Prop}:∀{us:List U}{vs:List V} (n:Nat),aq C S H us vs->aq C S H (us.eraseIdx n) (vs.eraseIdx n)
 |[],_,n,h=>by cases h;simp[aq]
 |u::us,vs,0,h=>by
  have⟨v,r,rfl,c,b⟩:=h;show b
 |u::us,vs,n+1,h=>by
  have⟨v,r,rfl,c,b⟩:=h;show⟨v,_,rfl,c,b.eraseIdx n⟩
def Ok.out(g:Ok C c)(n:Nx c0 c)(q:c.σ=c0.σ)(hk:k.root=b6)(hs:c.st[i]?=bD (bD (k,.lst us)))(h:c.σ[i]?=bD (bD (.ref r)))(s:aq C c.S c.H f b)(y:Rep C c.S c.H u v)(w:cw C c0 Q (.loc,u) (c.st.set i (bD (k,.lst f)))):Q v (upd c.H r (.lst b)):=by
 have A:Mv c.S c.H c.S (upd c.H r (.lst b)):=by
  have⟨v',d,l⟩:=g.sl i k _ hs;rw[h]at d;cases d;obtain⟨p,B,D,_,_,G⟩:=l.rt hk;cases B;have⟨o,ho,I⟩:=G.some;show⟨λ_ z=>z,λa o' e t=>by rw[ak (λz=>by subst z;rw[ho]at e;cases e;show I t)];show e,λa o' z e=>by rw[ak (λJ=>by subst J;show D z)];show e⟩
 have⟨L,N⟩:=g.mod (H':=upd c.H r (.lst b)) (u':=.lst f) n.toNs hk hs h (λa O=>ak O) ⟨_,ax⟩ λT=>⟨b,ax,s.mv T⟩
 have Y:∀a,({c with H:=upd c.H r (.lst b),st:=c.st.set i (bD (k,.lst f))}:Cf).NH a->c0.NH a/\∀o,c0.H a=bD o->upd c.H r (.lst b) a=bD o:=λa HD=>by
  have⟨j,u',p,d,l,e3⟩:=HD;have hj:j≠i:=λz=>by
   subst z;rw[ez (d3.mp hs).1]at d;cases d;cases hk
  have Iu:c.st[j]?=bD (bD (.Hl,u')):=by rw[<-d];show(i1 (rz hj)).symm
  have m:c.RD j a:=⟨u',p,Iu,l,e3⟩
  have RN:a≠r:=λz=>g.dd.d1 j a m (z▸⟨i,k,_,hk,hs,h⟩);show⟨(n.dk a ⟨j,m⟩).1,λo e=>by rw[ak RN];show(n.dk a ⟨j,m⟩).2 o e⟩
 show w {c with H:=upd c.H r (.lst b),st:=c.st.set i (bD (k,.lst f))} v q rfl L ⟨N,Y⟩ (y.mv A)
def AS(g:X.N[i]?=bD x)(j:Js X.env.scope x)(l:(x==("__debug__":Str))=cK)(m:(x==("__classdict__":Str))=cK)(n:(apos.endLine==F'.line)=b6)(o:C.K=X.K):
  PE X (.Call (.Attribute (.Name x px) "pop" apos) [] [] F') (Ht C (xr i)):=by
 show PE.weak (CS PySem.F.plainAttrs_list PySem.F.slot_list_pop PySem.F.type_list_pop CT (b9 g j l m) rfl n) ?_;rintro σ H Q ⟨c0,rfl,rfl,c,h⟩;have⟨r,st',e,w⟩:=h;unfold xr at e;split at e
 .rename_i k us hs;split at e
  .rename_i hk;split at e
   .rename_i u q;cases e;have⟨p,vs,d,f,b⟩:=c.BV hk hs;have⟨v,s,t⟩:=b.get q;have hl:=b.len;show⟨_,d,.inl ⟨rfl,vs,o▸HX.of f⟩,p,vs,v,rfl,rfl,f,by rw[<-hl];show s,?_⟩;show c.out (Nx.refl c0) rfl hk hs d ?_ t w;rw[Xq,Xq,hl];show b.take _
   .cases e
  .cases e
 .cases e
def FK(b:0<=j)(h:j.toNat<n):V0 j n=bD j.toNat:=by
 simp only[V0];rw[Z7 (show ¬j<0 by lia),Z6 (by rw[cL,Z5,Z5];lia)]
def vD{st:au}(h:W (vm i u) st Q):∃(j:Int) (k:Kd) (us:List U) (y:U),u=.int j/\k.root=b6/\0<=j/\j<1000000/\st[i]?=bD (bD (k,.lst us))/\us[j.toNat]?=bD y/\Q (.loc,y) (st.set i (bD (k,.lst (us.eraseIdx j.toNat)))):=by
 have⟨r,st',e,w⟩:=h;cases u with
 |int j =>
  unfold vm at e
  dsimp only at e
  split at e
  .rename_i k us hs;split at e
   .rename_i hk;split at e
    .rename_i y b;cases e;show⟨j,k,us,y,rfl,hk.1,hk.2.1,hk.2.2,hs,b,w⟩
    .cases e
   .cases e
  .cases e
 |_=>cases e
def xW(o:C.K=X.K)(q:X.N[i]?=bD x)(s:Js X.env.scope x)(u:(x==("__debug__":Str))=cK)(A:(x==("__classdict__":Str))=cK)(B:PE X a (Ht C ma))
  (D:((x2 F' (i2 [a] X.env)).all (λx=>!x.1)&&(Ni F' (Jp [] X.env)).all (λx=>x.1.isSome)
   && cc ([a].length+([]:List KX).length+(if ([]:List KX).isEmpty then 0 else 1)<30))=b6)
  (G:(apos.endLine==F'.line)=b6) (e:i2 [a] X.env=[(cK,wk a X.env)]) :
  PE X (.Call (.Attribute (.Name x px) "pop" apos) [a] [] F') (Ht C (c_ i >>= λx=>LU x.2 >>= λ_=>ma >>= λy=>vm i y.2)):=by
 show PE.weak (sT PySem.F.plainAttrs_list PySem.F.slot_list_pop PySem.F.type_list_pop wz (b9 q s u A) (ff B iX e) rfl D G e rfl) ?_;rintro σ H Q ⟨c0,rfl,rfl,b,h⟩;rw[ah]at h;have⟨k0,I,J,L,h⟩:=cQ h;have⟨O,f,T⟩:=b.slot J L;show⟨O,f,?_⟩;cases I with
 |lst Y =>
  rw[ah,show LU (U.lst Y)=pure () from rfl,ao]at h;obtain⟨a0,NM,d,Nt,_⟩:=T.list b;show⟨by rw[d];show .inl ⟨rfl,NM,o▸Nt⟩,?_⟩;show aP b h λr c v t w=>?_;have⟨j,k,us,y,ej,hk,j0,j1,hs,hu,w⟩:=vD w;have⟨p,vs,g,h2,l⟩:=t.ok.BV hk hs;have hp:p=a0:=by
   have:=g;rw[t.hσ,f,d]at this;cases this;rfl
  subst hp;have⟨z,m,g2⟩:=l.get hu;have Lc:j.toNat<vs.length:=(d3.mp m).1;have n:=t.rx;rw[ej]at n;have ev:=n.int t.ok;show⟨p,vs,j,j.toNat,z,d,by rw[ev],h2,ZI (by decide) j0,Int.lt_trans j1 (by decide),FK j0 Lc,m,t.ok.out t.nx t.hσ hk hs g (l.eraseIdx _) g2 w⟩
 |_=>rw[ah]at h;show(bf.mp h).elim
end
@[reducible]def Lh(P:D9)(w:HL)(K:PySem.W.Frag)(H:Hp)(a IO:hA->Prop):Ct:=⟨P,w,K,H,a,IO⟩
structure BW(C:Ct)(H H':Hp)(S':hA->Prop)(is:List Nat)(vs:List V)(ws:List U)(k:Kd)(u:U)(v:V):Prop where
 same:∀a o,H a=bD o->¬C.IO a->H' a=bD o
 new:∀a,S' a->H a=cb/\∃o,H' a=bD o
 own:k=.own->∃r,v=.ref r/\H r=cb/\¬S' r/\cW C S' H' r u
 loc:k=.loc->Rep C S' H' u v
 len:ws.length=is.length
 JJ:∀(n i:Nat) (r:hA) (w:U),is[n]?=bD i->vs[i]?=bD (.ref r)->ws[n]?=bD w->cW C S' H' r w
structure DS(C:Ct)(H:Hp)(is:List Nat)(us:List U)(vs:List V):Prop where
 len:us.length=vs.length
 par:∀a,C.J6 a->JX H a/\¬C.IO a
 Uj:∀a,C.IO a->JX H a
 io:∀(i:Nat) (u:U),i∈is->us[i]?=bD u->∃r,vs[i]?=bD (.ref r)/\C.IO r/\cW C (λ_=>False) H r u
 any:∀(i:Nat) (u:U),i∉is->us[i]?=bD u->∃v,vs[i]?=bD v/\Rep C C.J6 H u v
 inj:∀(i j:Nat) (r:hA),i∈is->j∈is->vs[i]?=bD (.ref r)->vs[j]?=bD (.ref r)->i=j
 JJ:∀a,C.IO a->∃i∈is,vs[i]?=bD (.ref a)
abbrev P_(P:D9)(w:HL)(K:PySem.W.Frag)(F:List U->Option (Ex (Kd×U)))(b:Nat)(is:List Nat):Sp:=λvs H Q _=>vs.length=b/\∃us k u ws a IO,F us=bD (.ok (k,.tup (u::ws)))/\(k=.own\/k=.loc)/\DS (Lh P w K H a IO) H is us vs /\
 ∀v H' S',BW (Lh P w K H a IO) H H' S' is vs ws k u v->Q v H'
theorem map_inj:∀{l:List α},(l.map f).Nodup->∀x∈l,∀y∈l,f x=f y->x=y
 |[],_,_,h,_,_,_=>by cases h
 |a::l,h,x,g,y,c,e=>by
  rw[eh,l0]at h;rcases gj.mp g with d|h1
  .rcases gj.mp c with b|h2
   .rw[d,b]
   .show absurd (js.mpr ⟨y,h2,by rw[<-e,d]⟩) h.1
  .rcases gj.mp c with b|h2
   .show absurd (js.mpr ⟨x,h1,by rw[e,b]⟩) h.1
   .show map_inj h.2 x h1 y h2 e
section
def vE(h:g9 rs p=bD j):∃us,rs[p]?=bD (.bor j,.lst us)/\cC us=b6:=by
 unfold g9 at h;split at h
 .split at h
  .cases h;show⟨_,by assumption,by assumption⟩
  .cases h
 .cases h
def J'.Uk(t:J' C c0 c rs vs){i:Nat}(h:rs[i]?=bD r):∃v,vs[i]?=bD v/\aQ C c0 c r.1 r.2 v:=by
 have d:∀(l:List (Kd×U)) (w:List V),bZ C c0 c l w->bq l c.st->∀(i:Nat) (r:Kd×U),l[i]?=bD r->∃v,w[i]?=bD v/\aQ C c0 c r.1 r.2 v:=by
  intro l;induction l with
  |nil=>intro w _ _ i r e;simp at e
  |cons x l f =>
   intro w h hs i r e;obtain⟨v,t',rfl,g,j,_⟩:=h;rw[gf]at hs;cases i with
   |zero=>simp at e;subst e;show⟨v,rfl,g.t hs.1⟩
   |succ i=>have⟨k,a,b⟩:=f t' j hs.2 i r (by simpa using e);show⟨k,by simpa using a,b⟩
 show d rs vs t.rep t.MV i r h
def J'.len(t:J' C c0 c rs vs):rs.length=vs.length:=by
 have:=t.read.len;rw[c2]at this;show this
theorem tT(q:C'.Eqv C){vs:List V}(hs:∀a,S' a->S1 a){IO:hA->Prop}(Q:∀a,S' a->¬IO a)(A:∀a o,IO a->H' a=bD o->¬Tp o):
  ∀(ps:List Nat) (ws:List U) (c:Cf) (st':au),Ok C c->Ns c1 c->c.S=S1->gE rs ps ws c.st=bD st'->(ps.map (g9 rs)).Nodup->(∀p∈ps,∀a,vs[p]?=bD (.ref a)->IO a) ->
  (∀p∈ps,∀j,g9 rs p=bD j->∃k u r,k.root=b6/\c.st[j]?=bD (bD (k,u))/\c.σ[j]?=bD (bD (.ref r))/\vs[p]?=bD (.ref r)) ->
  (∀(n p:Nat) (r:hA) (w:U),ps[n]?=bD p->vs[p]?=bD (.ref r)->ws[n]?=bD w->cW C' S' H' r w)->(∀a,(∀p∈ps,vs[p]?≠bD (.ref a))->c.H a=H' a)->(∀a,¬IO a->c.H a=H' a) ->
  ∃g:Cf,Ok C g/\Ns c1 g/\g.σ=c.σ/\g.S=S1/\g.st=st'/\g.H=H'/\g.kid=c.kid/\∀(j:Nat) (k:Kd) (u:U),g.st[j]?=bD (bD (k,u))->∃B,c.st[j]?=bD (bD (k,B))
 |[],ws,c,st',D,n,y,e,_,_,_,_,G,_=>by
  cases ws with
  |nil=>cases e;show⟨c,D,n,rfl,y,rfl,funext λa=>G a λp hp=>(by cases hp),rfl,λj k u e=>⟨u,e⟩⟩
  |cons _ _=>cases e
 |p::ps,ws,c,st',D,n,y,e,I,T,Y,rt,G,J=>by
  cases ws with
  |nil=>cases e
  |cons w ws =>
   simp only[gE]at e;split at e
   .rename_i j hj;split at e
    .rename_i us k0 XS Hx;have⟨k,u,r,hk,s,e2,L⟩:=Y p (by simp) j hj;rw[Hx]at s;cases s;have s:=Hx;have hr:=rt 0 p r _ rfl L rfl;have⟨xs,g1,g2⟩:=hr;have N:IO r:=T p (by simp) r L;rw[eh,l0]at I;have⟨HE,n'⟩:=D.mod (H':=upd c.H r (.lst xs)) (u':=.lst us) n hk s e2 (λa v=>ak v) ⟨_,ax⟩ (λ_=>⟨xs,ax,by
      show(g2.cg q).mv ⟨λa z=>by rw[y];show hs a z,λa o h tp=>?_,λa o z h=>?_⟩
      .by_cases l:a=r
       .subst l;show absurd tp (A a o N h)
       .rw[ak l];by_cases x:IO a
        .show absurd tp (A a o x h)
        .rw[J a x];show h
      .have x:=Q a z;have l:a≠r:=λe=>x (e▸N);rw[ak l,J a x];show h⟩)
     have ID:j<c.st.length:=(d3.mp s).1;have A1:∀f∈ps,∀t,g9 rs f=bD t->∃k u r,Kd.root k=b6/\(c.st.set j (bD (k0,.lst us)))[t]?=bD (bD (k,u))/\c.σ[t]?=bD (bD (.ref r))/\vs[f]?=bD (.ref r):=λf hp t Kz=>by
      have⟨k',u',O,a1,a2,a3,a4⟩:=Y f (by simp[hp]) t Kz;have v:j≠t:=λz=>I.1 (js.mpr ⟨f,hp,by rw[Kz,hj,z]⟩);show⟨k',u',O,a1,by rw[i1 v];show a2,a3,a4⟩
     have A2:∀a,(∀f∈ps,vs[f]?≠bD (.ref a))->upd c.H r (.lst xs) a=H' a:=λa l=>by
      by_cases h:a=r
      .subst h;rw[ax,g1]
      .rw[ak h];show G a λf hp z=>?_;rcases gj.mp hp with rfl|hp
       .rw[L]at z;cases z;show h rfl
       .show l f hp z
     have A3:∀a,¬IO a->upd c.H r (.lst xs) a=H' a:=λa l=>by
      have v:a≠r:=λz=>l (by rw[z];show N);rw[ak v];show J a l
     have⟨g,f1,f2,f3,f4,f5,f6,f7,f8⟩:=tT q hs Q A ps ws {c with H:=upd c.H r (.lst xs),st:=c.st.set j (bD (k0,.lst us))} st' HE n' y e I.2 (λf hp=>T f (by simp[hp])) A1 (λm f O w' a b d=>rt (m+1) f O w' (by simpa using a) b (by simpa using d)) A2 A3;show⟨g,f1,f2,f3,f4,f5,f6,f7,λi k' u' z=>?_⟩;have⟨B,z⟩:=f8 i k' u' z;by_cases hi:i=j
     .subst hi;have z:(c.st.set i (bD (k0,.lst us)))[i]?=_:=z;rw[ez ID]at z;cases z;show⟨_,s⟩
     .have z:(c.st.set j (bD (k0,.lst us)))[i]?=_:=z;rw[i1 (rz hi)]at z;show⟨B,z⟩
    .cases e
   .cases e
end
section
def AU(st:au)(r:Kd×U):(d8 st r).1=r.1:=by
 unfold d8;split<;>rfl
theorem bZ.Ul{st:au}:∀{rs:List (Kd×U)}{vs:List V},bZ C c0 c rs vs->bZ C c0 c (rs.map (d8 st)) vs
 |[],_,h=>h
 |r::rs,vs,h=>by
  have⟨v,t,rfl,d,e,f⟩:=h;show⟨v,t,rfl,?_,bZ.Ul e,λhk i m g a j b=>?_⟩
  .have⟨k,u⟩:=r;cases k<;>show d
  .rw[i7,eH]at a;have⟨l,a,rfl⟩:=a;rw[AU]at hk b;show f hk i l g a j b
def AV(h:PA X es (IX C ms)):PA X es (IX C (ms >>= Ai)):=by
 rintro pos a s σ H Q I ⟨c0,rfl,rfl,b,w⟩;show h pos a s c0.σ c0.H Q I ⟨c0,rfl,rfl,b,?_⟩;rw[ah]at w;show w.mono λrs st d c vs f g i n r=>?_;have⟨j,st',e,q⟩:=d;cases e;show q c vs f g i n r.Ul
def xX(h:RU r=bD (k,u,ws)):r=(k,.tup (u::ws))/\(k=.own\/k=.loc):=by
 unfold RU at h;split at h
 .cases h;show⟨rfl,.inl rfl⟩
 .cases h;show⟨rfl,.inr rfl⟩
 .cases h
def xY(hP:C.P=X.prog)(hw:C.w=X.w)(hK:C.K=X.K)(hF:Γ f=F)(hk:∀us r,F us=bD (.ok r)->us.length=np)
  (G:jJ X.prog X.w X.K X.mg X.base Ko k fa fd ps (P_ X.prog X.w X.K F np is)) (hr:fJ k X.A) (hg:Gl X f) (hm:X.mg f=bD (.ref fa)) (MO:PySem.W.keepIn X.K (.ref fa)=b6) (B:Binds X.K fd ps [])
  (LW:(f==("__debug__":Str))=cK) (ha:PA X (e::es) (IX C ms)) (he:i2 (e::es) X.env=(cK,wk e X.env)::i2 es X.env) (Ii:(x2 pos (i2 es X.env)).any (·.1)=cK) :
  PE X (.Call (.Name f p) (e::es) [] pos) (Ht C (ms >>= λrs=>aE rs >>= λ_=>pY Γ f rs is)):=by
 rintro al s σ H Q I ⟨c0,rfl,rfl,ok,h⟩;show uk (nE I hg hm ?_ LW);show PySem.W.callWith_K (h₀:=X.base) I.ok.mod.NX MO (Hu (args ha I ok h pos) λus s1 ⟨rs,c,vs,t,I1,rv,w⟩=>⟨I1.L3,?_⟩) he Ii;have⟨r,st',D,q⟩:=w;unfold pY at D;rw[hF]at D;split at D
 .rename_i r0 e2;split at D
  .rename_i kd u ws eu;split at D
   .rename_i Iz;split at D
    .rename_i st2 SA;cases D;have⟨rfl,k1⟩:=xX eu;have k2:=hk _ _ e2;unfold pX at Iz;simp only[cL,ko,Z5,KR,u7]at Iz;obtain⟨⟨h1,h2⟩,h3⟩:=Iz;have T:∀p∈is,∃j xs k r,g9 rs p=bD j/\rs[p]?=bD (.bor j,.lst xs)/\cC xs=b6/\Kd.root k=b6/\c.st[j]?=bD (bD (k,.lst xs))/\c.σ[j]?=bD (bD (.ref r))/\vs[p]?=bD (.ref r)/\¬c.S r/\¬C.J6 r/\cW C c.S c.H r (.lst xs):=λp L=>by
      have⟨j,Y⟩:=QM.mp (h1 p L);have⟨xs,a1,a2⟩:=vE Y;have⟨v,b1,x⟩:=t.Uk a1;obtain⟨r,rfl,d1,d2,_,N⟩:=t.ok.rootOf x.1 x.2;have⟨k,m,l⟩:=x.1;show⟨j,xs,k,r,Y,a1,a2,m,l,x.2,b1,d1,d2,N⟩
     let IO:hA->Prop:=λa=>∃p∈is,vs[p]?=bD (.ref a);have OU:∀a,IO a->c.R a/\¬c.S a/\¬C.J6 a/\JX c.H a:=λa HD=>by
      have⟨p,L,e⟩:=HD;obtain⟨j,xs,k,r,_,_,_,m,l,y,J,g5,g6,g7⟩:=T p L;rw[e]at J;cases J;obtain⟨o,ho,_⟩:=g7.some;show⟨.inl ⟨j,k,_,m,l,y⟩,g5,g6,o,ho⟩
     let Pr:hA->Prop:=λa=>JX c.H a/\¬IO a;have ac:C.Eqv (Lh X.prog X.w X.K c.H Pr IO):=⟨hP,hw,hK⟩
     have JB:(Lh X.prog X.w X.K c.H Pr IO).Eqv C:=⟨hP.symm,hw.symm,hK.symm⟩
     have sP:∀a,c.S a->Pr a:=λa z=>⟨t.ok.xn a z,λz'=>(OU a z').2.1 z⟩
     have gi:∀{i:Nat} {u:U},(rs.map (·.2))[i]?=bD u->∃k,rs[i]?=bD (k,u):=λ{i u} e=>by
      rw[i7,eH]at e;obtain⟨⟨k,u'⟩,e,rfl⟩:=e;show⟨k,e⟩
     have ag:DS (Lh X.prog X.w X.K c.H Pr IO) c.H is (rs.map (·.2)) vs:=by
      show⟨by rw[c2];show t.len,λa z=>z,λa z=>(OU a z).2.2.2,λi u O e=>?_,λi u O e=>?_,λi j r O Y e3 e4=>?_,λa z=>z⟩
      .obtain⟨j,xs,k,r,_,g0,gm,m,l,y,J,g5,g6,zs,g7,g8⟩:=T i O;have⟨k',e⟩:=gi e;rw[g0]at e;cases e;show⟨r,J,⟨i,O,J⟩,zs,g7,(aq.HM gm g8).cg ac⟩
      .have⟨k',e⟩:=gi e;have⟨v,b1,x⟩:=t.Uk e;show⟨v,b1,?_⟩;have ID:i<rs.length:=(d3.mp e).1;have NR:=(h3 i ID).resolve_left O;rw[VY,e]at NR;show Rep.cg ac (u:=u) ?_;cases k' with
       |own =>
        obtain⟨r,rfl,_,d1,d2,N⟩:=x;obtain⟨o,ho,_⟩:=N.some;show N.rep sP ⟨⟨o,ho⟩,λz=>d2 (OU r z).1⟩
       |loc=>show Rep.mv (.up sP) x
       |any=>show Rep.mv (.up λa z=>z.elim (λz=>⟨t.ok.Fg a (.inl z),λz'=>(OU a z').2.2.1 z⟩) (sP a)) x
       |bor j =>
        obtain⟨r,rfl,d1,d2,_,N⟩:=t.ok.rootOf x.1 x.2;obtain⟨o,ho,_⟩:=N.some;show N.rep sP ⟨⟨o,ho⟩,λ⟨p',P',e'⟩=>?_⟩;obtain⟨j',xs,k2,r2,g,_,_,m,l,y,J,_⟩:=T p' P';rw[e']at J;cases J;have⟨k3,z1,z2⟩:=x.1;have:=t.ok.inj j j' k3 k2 _ _ r z1 m z2 l x.2 y;subst this;have:bD j∉is.map (g9 rs):=by simpa[pW] using NR
        show this (js.mpr ⟨p',P',g⟩)
       |_=>show x.elim
      .obtain⟨j1,_,k1,r1,a0,_,_,a1,a2,a3,a4,_⟩:=T i O;obtain⟨j2,_,k2,r2,b0,_,_,b1,x,b3,b4,_⟩:=T j Y;rw[e3]at a4;cases a4;rw[e4]at b4;cases b4;have:=t.ok.inj j1 j2 k1 k2 _ _ r a1 b1 a2 x a3 b3;subst this;show map_inj h2 i O j Y (by rw[a0,b0])
     have JD:P_ X.prog X.w X.K F np is vs c.H (λv H'=>Q v H') E0:=⟨by rw[<-t.len,<-k2,c2],rs.map (·.2),kd,u,ws,Pr,IO,e2,k1,ag,λv H' S' B=>by
      classical
      let H1:Hp:=λa=>if IO a then c.H a else H' a
      have Qa:∀a,¬IO a->H1 a=H' a:=λa z=>Z7 z;have OT:∀a,S' a->¬IO a:=λa z z'=>by
       have⟨o,ho⟩:=(OU a z').2.2.2;rw[(B.new a z).1]at ho;cases ho
      have OV:zP c.H H1:=λa o e=>by
       by_cases z:IO a
       .change(if IO a then _ else _)=_;rw[Z6 z];show e
       .rw[Qa a z];show B.same a o e z
      have⟨Hv,n1⟩:=t.ok.grow (H':=H1) (S':=λa=>c.S a\/S' a) OV (λa z=>z.imp id λz=>⟨(B.new a z).1,by rw[Qa a (OT a z)];show(B.new a z).2⟩) λa=>.inl;have OW:∀(n i:Nat) (r:hA),is[n]?=bD i->vs[i]?=bD (.ref r)->∃w,ws[n]?=bD w/\cW (Lh X.prog X.w X.K c.H Pr IO) S' H' r w:=λn i r a b=>by
       have hn:n<ws.length:=by rw[B.len];show(d3.mp a).1
       show⟨_,mA hn,B.JJ n i r _ a b (mA hn)⟩
      have⟨cf,f1,f2,f3,f4,f5,f6,f7,f8⟩:=tT (C:=C) JB (rs:=rs) (vs:=vs) (H':=H') (S':=S') (S1:=λa=>c.S a\/S' a) (λa=>.inr) (IO:=IO) OT (λa o ⟨i,O,z⟩ e=>by
        have⟨n,hn⟩:=List.getElem?_of_mem O;obtain⟨w,_,g⟩:=OW n i a hn z;have⟨o',m,l⟩:=g.some;rw[e]at m;cases m;show l) is ws {c with H:=H1,S:=λa=>c.S a\/S' a} st' Hv n1.toNs rfl SA h2 (λp L a z=>⟨p,L,z⟩) (λp L j Y=>by
        obtain⟨j',xs,k,r,g0,_,_,m,l,y,J,_⟩:=T p L;rw[Y]at g0;cases g0;show⟨k,_,r,m,l,y,J⟩) (λn i r w a b d=>B.JJ n i r w a b d) (λa ha=>Qa a λ⟨p,L,z⟩=>ha p L z) Qa
      subst f6;have WR:∀a,cf.R a->c.R a:=λa z=>by
       rcases z with⟨j,k,u,m,l,y⟩|⟨j,u,r,m,l,y⟩
       .have⟨u0,g⟩:=f8 j k u l;rw[f3]at y;show .inl ⟨j,k,u0,m,g,y⟩
       .have⟨u0,g⟩:=f8 j .Hl u m;rw[f3]at l;rw[f7]at y;show .inr ⟨j,u0,r,g,l,y⟩
      have dk:∀a,cf.NH a->c0.NH a/\∀o,c0.H a=bD o->cf.H a=bD o:=λa HD=>by
       have⟨j,u,r,m,l,y⟩:=HD;have⟨u0,g⟩:=f8 j .Hl u m;rw[f3]at l;rw[f7]at y;have hd:c.RD j a:=⟨u0,r,g,l,y⟩
       have Iz:¬IO a:=λHD=>by
        have⟨p',P',e'⟩:=HD;obtain⟨j',xs,k2,r2,_,_,_,y1,y2,y3,y4,_⟩:=T p' P';rw[e']at y4;cases y4;show t.ok.dd.d1 j a hd ⟨j',k2,_,y1,y2,y3⟩
       show⟨(t.nx.dk a ⟨j,hd⟩).1,λo e=>B.same a o ((t.nx.dk a ⟨j,hd⟩).2 o e) Iz⟩
      show q cf v (f3.trans t.hσ) f5 f1 ⟨t.nx.toNs.trans f2,dk⟩ ?_;rcases k1 with rfl|rfl
      .have⟨r,rfl,d1,d2,N⟩:=B.own rfl;obtain⟨_,z1,_,_,z4⟩:=t.ok.jP d1;show⟨r,rfl,t.nx.none d1,by rw[f4];show λz=>z.elim z1 d2,λz=>z4 (WR r z),(N.cg JB).mv (.up λa z=>by rw[f4];show .inr z) λo q=>q⟩
      .show((B.loc rfl).cg JB).mv (.up λa z=>by rw[f4];show .inr z)⟩
     have z:=qV (Q:=Q) G hr B .nil wB I1 rv (by rw[rr];show JD);rw[t.hσ]at z;show z
    .cases D
   .cases D
  .cases D
 .cases D
end
structure Ck where
 fns:List Str
 gl:List (Str×U)
 JJ:List (Str×List Nat)
abbrev rK:U->U->Bool
 |.int i,.int j=>cc (i=j)
 |.str x,.str y=>cc (x=y)
 |.bl a,.bl b=>a==b
 |.Hs,.Hs=>b6
 |_,_=>cK
def cR(h:rK u v=b6):u=v:=by
 cases u<;>cases v<;>simp[rK]at h<;>subst_vars<;>rfl
abbrev noStar:mh->Bool
 |.Starred _ _=>cK
 |_=>b6
abbrev eD:mh->Bool
 |.Slice _ _ _ _=>cK
 |_=>b6
abbrev rL:mh->Bool
 |.Set _ _ _=>cK
 |_=>b6
abbrev oz:mh->Bool
 |.Call (.Name _ _) [] [] _=>cK
 |_=>b6
abbrev dJ:mh->Bool
 |.ListComp _ _ _ _=>cK
 |.SetComp _ _ _ _=>cK
 |.DictComp _ _ _ _ _=>cK
 |_=>b6
abbrev DT:mh->Bool
 |.Tuple _ _ _=>cK
 |_=>b6
abbrev Jr(a:L5)(x:Str):Bool:=cc (a.names.lookup x=bD .globalImplicit)
abbrev fT(a:L5)(x:Str):Bool:=cc (a.names.lookup x=bD .local)||decide (a.names.lookup x=bD .cell)||decide (a.names.lookup x=bD .free)
abbrev oA(a:L5)(x:Str):Bool:=cc (a.names.lookup x=bD .local)||decide (a.names.lookup x=bD .cell)
abbrev FL(a:L5)(x:Str):Bool:=cc (a.names.lookup x=bD .local)
abbrev bB(x:Str):Bool:=!(x==("__debug__":Str))&&!(x==("__classdict__":Str))
abbrev tU(N:List Str)(a:L5)(fa:Bool)(i:Nat):mh->Bool
 |.Name x _=>cc (N[i]?=bD x)&&oA a x&&(fa||FL a x)
 |_=>cK
abbrev oB(N:List Str)(a:L5)(fa:Bool):List Nat->List mh->Bool
 |[],[]=>b6
 |i::is,e::es=>tU N a fa i e&&oB N a fa is es
 |_,_=>cK
abbrev da:mh->List Str
 |.Name x _=>[x]
 |.Tuple es _ _=>es.filterMap fun|.Name x _=>bD x|_=>cb
 |_=>[]
abbrev hide(a N:List Str):List Str:=match a.filter λx=>cc (x∈N) with
 |[]=>N
 |[x]=>N.set (N.idxOf x) "."
 |x::y::_=>(N.set (N.idxOf x) ".").set (N.idxOf y) ".."
abbrev M_(t:Bool)(N:List Str)(a:L5)(fa:Bool)(is:List Nat):mh->Bool
 |.Name x p=>!t&&(match is with|[i]=>tU N a fa i (.Name x p)|_=>cK)
 |.Tuple es _ _=>t&&oB N a fa is es&&is.all λi=>cc (i<N.length)
 |_=>cK
abbrev isTup:mh->Bool
 |.Tuple _ _ _=>b6
 |_=>cK
abbrev oC(e:mh):Option (Str×List mh):=match e with
 |.Call f as kw _=>match f with
  |.Name x _=>if kw.isEmpty=b6 then bD (x,as) else cb
  |_=>cb
 |_=>cb
def jC(h:oC e=bD (x,as)):∃p q,e=.Call (.Name x p) as [] q:=by
 unfold oC at h;split at h
 .split at h
  .split at h
   .rename_i hk;rw[G2]at hk;cases h;subst hk;show⟨_,_,rfl⟩
   .cases h
  .cases h
 .cases h
abbrev fU(a:L5)(b:mh)(ik:Ik)(e:mh):Option (List mh):=match ik with
 |.seq=>bD [e]
 |.IG=>(oC e).bind λp=>if p.1="range"/\Jr a p.1=b6/\p.2.length=1 then bD p.2 else cb
 |.MR=>(oC e).bind λp=>if p.1="enumerate"/\Jr a p.1=b6/\p.2.length=1/\isTup b=b6 then bD p.2 else cb
 |_=>cb
abbrev simple:Bf->Bool:=λ_=>b6
abbrev xZ(scope a:L5):L5:={scope with names:=scope.names.map λ(n,k)=>if (k==LK&&a.kind==.function&&a.names.lookup n==bD .cell)=b6 then(n,.cell) else(n,k)}
abbrev a9(e:mh)(k:Str->Bool):Bool:=match e with|.Name x _=>k x|_=>cK
def aj(h:a9 e k=b6):∃x p,e=.Name x p/\k x=b6:=by
 unfold a9 at h;split at h
 .show⟨_,_,rfl,h⟩
 .cases h
abbrev dw{α:Type}(l:List α)(k:α->Bool):Bool:=match l with|[a]=>k a|_=>cK
def a5(h:dw l k=b6):∃a,l=[a]/\k a=b6:=by
 unfold dw at h;split at h
 .show⟨_,rfl,h⟩
 .cases h
abbrev c6(e:mh)(k:mh->List mh->Pos->Bool):Bool:=match e with|.Call f as kw p=>kw.isEmpty&&k f as p|_=>cK
def aV(h:c6 e k=b6):∃f as p,e=.Call f as [] p/\k f as p=b6:=by
 unfold c6 at h;split at h
 .rename_i f as kw p;rw[cL,G2]at h;have⟨rfl,h⟩:=h;show⟨_,_,_,rfl,h⟩
 .cases h
abbrev rM(e:mh)(k:mh->Str->Pos->Bool):Bool:=match e with|.Attribute o m p=>k o m p|_=>cK
def qd(h:rM e k=b6):∃o m p,e=.Attribute o m p/\k o m p=b6:=by
 unfold rM at h;split at h
 .show⟨_,_,_,rfl,h⟩
 .cases h
abbrev tV(e:mh)(k:mh->YH->mh->Bool):Bool:=match e with|.BinOp a c b _=>k a c b|_=>cK
def kZ(h:tV e k=b6):∃a c b p,e=.BinOp a c b p/\k a c b=b6:=by
 unfold tV at h;split at h
 .show⟨_,_,_,_,rfl,h⟩
 .cases h
abbrev tW(e:mh)(k:mh->CmpOp->mh->Bool):Bool:=match e with|.Compare a ops c _=>dw ops λd=>dw c λb=>k a d b|_=>cK
def hJ(h:tW e k=b6):∃a c b p,e=.Compare a [c] [b] p/\k a c b=b6:=by
 unfold tW at h;split at h
 .have⟨c,rfl,d⟩:=a5 h;have⟨b,rfl,f⟩:=a5 d;show⟨_,_,_,_,rfl,f⟩
 .cases h
abbrev dW(e:mh)(k:mh->Str->Pos->List mh->Pos->Bool):Bool:=c6 e λf as b=>rM f λo m a=>k o m a as b
def bz(h:dW e k=b6):∃o m a as b,e=.Call (.Attribute o m a) as [] b/\k o m a as b=b6:=by
 have⟨f,as,p,rfl,h⟩:=aV h;have⟨o,m,q,rfl,h⟩:=qd h;show⟨_,_,_,_,_,rfl,h⟩
abbrev jD(e:mh)(k:mh->mh->Bool):Bool:=match e with|.Subscript a b _=>k a b|_=>cK
def dh(h:jD e k=b6):∃a b p,e=.Subscript a b p/\k a b=b6:=by
 unfold jD at h;split at h
 .show⟨_,_,_,rfl,h⟩
 .cases h
abbrev Um:E->Bool
 |.var _=>b6
 |.cst _=>b6
 |_=>cK
abbrev tX{α:Type}(l:List α)(k:α->α->Bool):Bool:=match l with|[a,b]=>k a b|_=>cK
def h_(h:tX l k=b6):∃a b,l=[a,b]/\k a b=b6:=by
 unfold tX at h;split at h
 .show⟨_,_,rfl,h⟩
 .cases h
abbrev x6(e:mh)(k:Const->Bool):Bool:=match e with|.Constant c _ _=>k c|_=>cK
def k7(h:x6 e k=b6):∃c q p,e=.Constant c q p/\k c=b6:=by
 unfold x6 at h;split at h
 .show⟨_,_,_,rfl,h⟩
 .cases h
abbrev G_:Const->Option U
 |.int j=>bD (.int j)
 |.str y=>bD (.str y)
 |.bool y=>bD (.bl y)
 |.none=>bD .Hs
 |_=>cb
abbrev Ha(u:U)(c:Const):Bool:=match G_ c with|some v=>rK u v|none=>cK
abbrev AW(e:mh)(a:BoolOp)(k:List mh->Bool):Bool:=match e with|.BoolOp o es _=>cc (o=a)&&k es|_=>cK
def jg(h:AW e a k=b6):∃es p,e=.BoolOp a es p/\k es=b6:=by
 unfold AW at h;split at h
 .rw[cL,Z5]at h;have⟨rfl,h⟩:=h;show⟨_,_,rfl,h⟩
 .cases h
abbrev DU(e:mh)(b:UnaryOp)(k:mh->Bool):Bool:=match e with|.UnaryOp o a _=>cc (o=b)&&k a|_=>cK
def mR(h:DU e b k=b6):∃a p,e=.UnaryOp b a p/\k a=b6:=by
 unfold DU at h;split at h
 .rw[cL,Z5]at h;have⟨rfl,h⟩:=h;show⟨_,_,rfl,h⟩
 .cases h
abbrev DV(e:mh)(k:mh->mh->mh->Bool):Bool:=match e with|.IfExp c a b _=>k c a b|_=>cK
def vF(h:DV e k=b6):∃c a b p,e=.IfExp c a b p/\k c a b=b6:=by
 unfold DV at h;split at h
 .show⟨_,_,_,_,rfl,h⟩
 .cases h
abbrev tY(e:mh)(k:List mh->Bool):Bool:=match e with|.Tuple l _ _=>k l|_=>cK
def k8(h:tY e k=b6):∃l q p,e=.Tuple l q p/\k l=b6:=by
 unfold tY at h;split at h
 .show⟨_,_,_,rfl,h⟩
 .cases h
abbrev x8(e:mh)(k:List mh->Bool):Bool:=match e with|.List l _=>k l|_=>cK
def rN(h:x8 e k=b6):∃l p,e=.List l p/\k l=b6:=by
 unfold x8 at h;split at h
 .show⟨_,_,rfl,h⟩
 .cases h
abbrev AX(e:mh):Bool:=match e with|.Dict a b _=>a.isEmpty&&b.isEmpty|_=>cK
def mS(h:AX e=b6):∃p,e=.Dict [] [] p:=by
 unfold AX at h;split at h
 .rw[cL,G2,G2]at h;have⟨rfl,rfl⟩:=h;show⟨_,rfl⟩
 .cases h
abbrev x9(e:mh)(k:Option mh->Option mh->Bool):Bool:=match e with|.Slice a b c _=>c.isNone&&k a b|_=>cK
def rO(h:x9 e k=b6):∃a b p,e=.Slice a b cb p/\k a b=b6:=by
 unfold x9 at h;split at h
 .rw[cL,Qt]at h;have⟨rfl,h⟩:=h;show⟨_,_,_,rfl,h⟩
 .cases h
abbrev DW(e:mh)(k:mh->mh->mh->List mh->L5->Bool):Bool:=match e with|.ListComp elt a b _=>dw a λg=>cc (g.is_async=0)&&k elt g.target g.iter g.ifs b|_=>cK
def jh(h:DW e k=b6):∃elt d a b f p,e=.ListComp elt [⟨d,a,b,0⟩] f p/\k elt d a b f=b6:=by
 unfold DW at h;split at h
 .obtain⟨⟨d,a,b,z⟩,rfl,c⟩:=a5 h;rw[cL,Z5]at c;have⟨rfl,c⟩:=c;show⟨_,_,_,_,_,_,rfl,c⟩
 .cases h
mutual
noncomputable def bw(k:Ck):E->List Str->L5->mh->Bool
 |.var i,N,g,h=>a9 h λx=>cc (N[i]?=bD x)&&fT g x&&bB x
 |.cst u,N,g,h=>x6 h λc=>Ha u c
 |.PR _ _,_,_,_=>cK
 |.bin A a b,N,g,h=>tV h λa' z q=>cc (A.op=z)&&bw k a N g a'&&bw k b N g q
 |.cmp A a b,N,g,h=>tW h λa' z q=>cc (A.op=z)&&!Qi z q&&bw k a N g a'&&bw k b N g q
 |.K_ _ _ _ _ _,_,_,_=>cK
 |.and es,N,g,h=>AW h .And λp=>aW k es N g p
 |.or es,N,g,h=>AW h .Or λp=>aW k es N g p
 |.not a,N,g,h=>DU h .Not λa'=>bw k a N g a'
 |.ite c a b,N,g,h=>DV h λC a' q=>bw k c N g C&&bw k a N g a'&&bw k b N g q
 |.neg _,_,_,_=>cK
 |.bad,_,_,_=>b6
 |.pop i,N,g,h=>dW h λo m j as v=>a9 o λx=>as.isEmpty&&cc (m="pop")&&cc (N[i]?=bD x)&&fT g x&&bB x&&(j.endLine==v.line)
 |.J8 i a,N,g,h=>dW h λo m j as v=>a9 o λx=>dw as λa'=>cc (m="pop")&&cc (N[i]?=bD x)&&fT g x&&bB x&&(j.endLine==v.line)&&noStar a'&&bw k a N g a'
 |.Ho f es is,N,g,h=>c6 h λf' p _=>a9 f' λx=>cc (x=f)&&cc ((f,is)∈k.JJ)&&Jr g x&&bB x&&!p.isEmpty&&aW k es N g p
 |.inD neg a i,N,g,h=>tW h λa' z q=>a9 q λx=>cc (DN neg=z)&&!Qi z q&&cc (N[i]?=bD x)&&fT g x&&bB x&&bw k a N g a'
 |.NI i,N,g,h=>a9 h λx=>cc (N[i]?=bD x)&&fT g x&&bB x
 |.J7 i a b,N,g,h=>dW h λo m j as v=>a9 o λx=>tX as λa' q=>cc (m="get")&&cc (N[i]?=bD x)&&fT g x&&bB x&&(j.endLine==v.line)&&noStar a'&&noStar q&&bw k a N g a'&&bw k b N g q
 |.NJ i,N,g,h=>c6 h λf' as _=>a9 f' λf=>dw as λc=>dW c λo m j D v=>a9 o λx=>D.isEmpty&&cc (f="sorted")&&Jr g f&&cc (m="items")&&cc (N[i]?=bD x)&&fT g x&&bB x&&(j.endLine==v.line)
 |.K' ln a b,N,g,h=>c6 h λf' as _=>a9 f' λf=>dw as λd=>tV d λl A r=>c6 l λG H _=>a9 G λI=>dw H λa'=>c6 r λJ L _=>a9 J λO=>dw L λq =>
  cc (f=(if ln=b6 then("len":Str) else "sorted"))&&cc (I="set")&&cc (O="set")&&cc (A=.Sub)&&Jr g f&&Jr g "set"&&noStar a'&&noStar q&&bw k a N g a'&&bw k b N g q
 |.fst es,N,g,h=>cK
 |.KD a T,N,g,h=>c6 h λf' as _=>a9 f' λx=>tX as λa' q=>a9 q λy=>cc (x="isinstance")&&cc (y=T.name)&&Jr g x&&Jr g y&&noStar a'&&bw k a N g a'
 |.tup es,N,g,h=>tY h λp=>aW k es N g p
 |.lst es,N,g,h=>x8 h λp=>aW k es N g p
 |.Ji _,N,g,h=>AX h
 |.idx a b,N,g,h=>jD h λa' q=>eD q&&bw k a N g a'&&bw k b N g q
 |.LQ a lo Q,N,g,h=>jD h λa' q=>x9 q λY I0=>bw k a N g a'&&rP k lo N g Y&&rP k Q N g I0
 |.bi f es,N,g,h=>c6 h λf' p _=>a9 f' λx=>cc (x=f.name)&&simple f&&Jr g x&&!p.isEmpty&&aW k es N g p
 |.Lx f es,N,g,h=>c6 h λf' as _=>a9 f' λx=>dw as λc=>c6 c λg' p _=>a9 g' λy=>cc (x=f.ou)&&cc (y=f.iH)&&Jr g x&&Jr g y&&!p.isEmpty&&aW k es N g p
 |.Mm m a es,N,g,h=>dW h λo name j p v=>cc (name=m.name)&&oz o&&(j.endLine==v.line)&&!p.isEmpty&&cc (p.length<20)&&bw k a N g o&&aW k es N g p
 |.call f es,N,g,h=>c6 h λf' p _=>a9 f' λx=>cc (x=f)&&cc (f∈k.fns)&&Jr g x&&bB x&&!p.isEmpty&&aW k es N g p
 |.Ir a,N,g,h=>bw k a N g h
 |.JO f es,N,g,h=>c6 h λf' p _=>a9 f' λx=>cc (x=f)&&cc (f∈k.fns)&&Jr g x&&bB x&&!p.isEmpty&&aW k es N g p
 |.comp n t ik src cond e,N,g,h=>DW h λelt s w B scope =>
   cc ((da s).length=n)&&zV (da s++hide (da s) N) (da s) scope g.names&&M_ t (da s++hide (da s) N) (xZ scope g) cK (hQ n) s&&rL w &&
   (match fU g s ik w with
    |some as=>aW k src N g as
    |none=>cK) &&
   cc (B.length<=1)&&aW k cond (da s++hide (da s) N) (xZ scope g) B&&bw k e (da s++hide (da s) N) (xZ scope g) elt
noncomputable def aW(k:Ck):List E->List Str->L5->List mh->Bool
 |[],_,_,a=>a.isEmpty
 |e::es,N,b,a=>match a with
  |e'::a=>noStar e'&&bw k e N b e'&&aW k es N b a
  |[]=>cK
noncomputable def rP(k:Ck):List E->List Str->L5->Option mh->Bool
 |[],_,_,o=>o.isNone
 |[e],N,a,o=>match o with
  |some b=>bw k e N a b
  |none=>cK
 |_::_::_,_,_,_=>cK
end
abbrev bR:List Str:=["len","sorted","repr","max","min","all","any","list","tuple","str","int","range","enumerate","zip","reversed","set","dict","sum","isinstance","bool"]
structure AY(P:D9)(w:HL)(K:PySem.W.Frag)(mg:Str->Option dV)(base:IZ)(d:Nat)(F:List U->Option (Ex (Kd×U)))(f:Str):Prop where
 ex:∃(np:Nat) (fa:hA) (fd:QY) (ps:List Str),jJ P w K mg base Ko d fa fd ps (spT P w K F np)/\mg f=bD (.ref fa)/\PySem.W.keepIn K (.ref fa)=b6/\Binds K fd ps []/\∀us k u,F us=bD (.ok (k,u))->(k=.own\/k=.loc\/k=.any)/\us.length=np
structure AZ(P:D9)(w:HL)(K:PySem.W.Frag)(mg:Str->Option dV)(base:IZ)(d:Nat)(F:List U->Option (Ex (Kd×U)))(f:Str)(is:List Nat):Prop where
 ex:∃(np:Nat) (fa:hA) (fd:QY) (ps:List Str),jJ P w K mg base Ko d fa fd ps (P_ P w K F np is)/\mg f=bD (.ref fa)/\PySem.W.keepIn K (.ref fa)=b6/\Binds K fd ps []/\∀us r,F us=bD (.ok r)->us.length=np
structure Gd(ck:Ck)(Γ:Tab)(C:Ct)(d:Nat)(X:Cx):Prop where
 P:C.P=X.prog
 w:C.w=X.w
 K:C.K=X.K
 u:X.A.units+60<Kx
 calm:X.calm=b6
 room:fJ d X.A
 blt:∀x∈bR,X.mg x=cb
 fns:∀f∈ck.fns,AY X.prog X.w X.K X.mg X.base d (Γ f) f
 KJ:∀p∈ck.gl,∃val v,X.mg p.1=bD val/\RelV v val/\∀S H,Rep C S H p.2 v
 JJ:∀p∈ck.JJ,AZ X.prog X.w X.K X.mg X.base d (Γ p.1) p.1 p.2
def Gd.cx(g:Gd ck Γ C d X)(N:List Str)(a:L5)(D:hA)(s:gs)(H:Hp)(ex:List hA):Gd ck Γ C d (IC X N a D s H ex) :=
 ⟨g.P,g.w,g.K,g.u,g.calm,g.room,g.blt,g.fns,g.KJ,g.JJ⟩
def cm(h:fT a x=b6):Js a x:=by
 unfold fT at h;simp only[KR,Z5]at h;rcases h with(h|h)|h
 .show .inl h
 .show .inr (.inl h)
 .show .inr (.inr h)
def aR(h:bB x=b6):(x==("__debug__":Str))=cK/\(x==("__classdict__":Str))=cK:=by
 unfold bB at h;simpa using h
def bo(h:noStar e=b6):i2 (e::es) env=(cK,wk e env)::i2 es env:=by
 cases e<;>first|rfl|cases h
def qe(h:eD e=b6):nM e:=by
 intro o i;cases e<;>first|rfl|cases h
def rQ(h:rL e=b6):∀x,Lo e env x=pure x:=by
 intro x;cases e<;>first|rfl|cases h
def jZ(h:oz o=b6):Qj o name env a=a:=by
 cases o with
 |Call f as ks p =>
  cases f with
  |Name x q=>cases as with
   |nil=>cases ks with
    |nil=>cases h
    |cons _ _=>rfl
   |cons _ _=>rfl
  |_=>rfl
 |_=>rfl
def bh(h:∀e∈es,noStar e=b6):(x2 pos (i2 es env)).any (·.1)=cK/\(x2 pos (i2 es env)).all (λx=>!x.1)=b6:=by
 induction es with
 |nil=>show⟨rfl,rfl⟩
 |cons e es a =>
  rw[bo (h e (by simp))];have:=a λb c=>h b (by simp[c]);constructor
  .change(cK||(x2 pos (i2 es env)).any (·.1))=cK;rw[this.1];rfl
  .change(!cK&&(x2 pos (i2 es env)).all (λx=>!x.1))=b6;rw[this.2];rfl
def cS(h:aW k es N c a=b6):∀e∈a,noStar e=b6:=by
 induction es generalizing a with
 |nil =>
  cases a with
  |nil=>intro e he;cases he
  |cons _ _=>simp[aW]at h
 |cons x es b =>
  cases a with
  |nil=>intro e he;cases he
  |cons d a =>
   simp only[aW,cL]at h;intro e he;rcases gj.mp he with rfl|he
   .show h.1.1
   .show b h.2 e he
def mT(a:fa=b6->∀x,X.fn x=b6)(h:tU X.N X.env.scope fa i e=b6):rE X e i:=by
 cases e with
 |Name x p =>
  simp only[tU,cL,Z5,oA,KR,FL]at h;show⟨x,p,rfl,h.1.1,?_,?_⟩
  .rcases h.1.2 with z|z
   .show .inl z
   .show .inr z
  .rcases h.2 with z|z
   .show .inl (a z x)
   .show .inr z
 |_=>cases h
theorem k9(a:fa=b6->∀x,X.fn x=b6):∀{is:List Nat}{es:List mh},oB X.N X.env.scope fa is es=b6->ft X es is
 |[],[],_=>.nil
 |[],_::_,h=>by cases h
 |_::_,[],h=>by cases h
 |i::is,e::es,h=>by
  simp only[oB,cL]at h;show .cons (mT a h.1) (k9 a h.2)
def qf(d:X.calm=b6)(e:C.K=X.K)(a:X.N.Nodup)(b:fa=b6->∀x,X.fn x=b6)(h:M_ t X.N X.env.scope fa is c=b6):PG X c (tG C t is):=by
 cases c with
 |Name x p =>
  simp only[M_,cL,ux]at h;have⟨rfl,h⟩:=h;cases is with
  |nil=>cases h
  |cons i is=>cases is with
   |nil=>show DH a (mT b h)
   |cons _ _=>cases h
 |Tuple es k p =>
  simp only[M_,cL,ko,Z5]at h;obtain⟨⟨rfl,f⟩,g⟩:=h;show Ft d e a (k9 b f) g
 |_=>cases h
def ji(a N:List Str):eG ((a++hide a N).drop a.length) N:=by
 rw[UM rfl];unfold hide;split
 .show .refl N
 .show(eG.refl N).set _ (.inl rfl)
 .show((eG.refl N).set _ (.inl rfl)).set _ (.inr rfl)
abbrev Bf.XT:Bf->Bool
 |.len=>b6|.sorted=>b6|.repr=>b6|.max=>b6|.min=>b6|.all=>b6|.any=>b6|_=>cK
abbrev Bf.id:Bf->String
 |.len=>"len"|.sorted=>"sorted"|.repr=>"repr"|.max=>"max"|.min=>"min"|.all=>"all"|.any=>"any"
 |.list=>"list"|.tuple=>"tuple"|.str=>"str"|.int=>"int"
def A0:∀f:Bf,simple f=b6->vr f.name=bD f.val/\f.name∈bR/\f.name≠"__name__"/\(f.name==("__debug__":Str))=cK:=by
 intro f h;cases f<;>first|show⟨by decide +kernel,by decide +kernel,by decide +kernel,by decide +kernel⟩|(cases h;done)
def DX:∀f:Bf,simple f=b6->(f.val=.builtin f.id\/f.val=.type f.id):=by
 intro f h;cases f<;>first|show .inl rfl|show .inr rfl|(cases h;done)
def DY:∀f:B2,f.ou∈bR/\f.iH∈bR:=by
 intro f;cases f<;>show⟨by decide +kernel,by decide +kernel⟩
def A4:∀f:Mf,Slot "str" f.name f.id/\Y0 (.builtin f.id)=pure (.type "method_descriptor"):=by
 intro f;cases f with
 |split=>show⟨PySem.F.slot_str_split,PySem.F.type_str_split⟩
 |join=>show⟨PySem.F.slot_str_join,PySem.F.type_str_join⟩
 |partition=>show⟨PySem.F.slot_str_partition,PySem.F.type_str_partition⟩
 |endswith=>show⟨PySem.F.slot_str_endswith,PySem.F.type_str_endswith⟩
section
def dF(h:Jr X.env.scope x=b6):Gl X x:=by
 unfold Jr at h;change X.env.kindOf x=bD .globalImplicit;show Z' h
def A5:("enumerate":Str)∈bR:=by decide +kernel
def qg:("isinstance":Str)∈bR:=by decide +kernel
def x_(T:JN):T.name∈bR:=by cases T<;>decide +kernel
def A6:("range":Str)∈bR:=by decide +kernel
def BX(g:Gd ck Γ C d X)(h:fU X.env.scope l ik c=bD as)(m:PA X as (IX C (bA Γ src)))(o:∀a,as=[a]->∃e,src=[e]/\PE X a (Ht C (ev Γ e)))(n:∀e∈as,noStar e=b6):PI X l c (Lz C ik (bA Γ src)):=by
 unfold fU at h;split at h
 .cases h;have⟨e,rfl,r⟩:=o _ rfl;show DF g.K r
 .rw[r6]at h;obtain⟨⟨x,s⟩,j,h⟩:=h;split at h
  .rename_i k;cases h;have⟨f,i,hl⟩:=k
   dsimp only at f i hl
   subst f;have⟨p,q,rfl⟩:=jC j;have⟨b,rfl⟩:=W'.mp hl;show AI (dF i) (g.blt _ A6) (bo (n _ (by simp))) m
  .cases h
 .rw[r6]at h;obtain⟨⟨x,s⟩,j,h⟩:=h;split at h
  .rename_i k;cases h;have⟨f,i,hl,t⟩:=k
   dsimp only at f i hl
   subst f;have⟨p,q,rfl⟩:=jC j;have⟨b,rfl⟩:=W'.mp hl;cases l with
   |Tuple es u ps=>show DG g.K (dF i) (g.blt _ A5) (bo (n _ (by simp))) m
   |_=>cases t
  .cases h
 .cases h
def BY{a:M α}{b:α->M β}{c:α->M γ}{g:γ->M δ}{st:au}{Q:δ->au->Prop}(w:W (a >>= λx=>b x >>= λ_=>c x >>= g) st Q):W ((a >>= λx=>b x >>= λ_=>c x) >>= g) st Q:=by
 simp only[ah]at w ⊢;show w
def bx:PT X e (IW C M.fail):=λa s σ H Q I ⟨_,_,_,_,w⟩=>(bf.mp w).elim
def k_:PE X e (Ht C M.fail):=λa s σ H Q I ⟨_,_,_,_,w⟩=>(bf.mp w).elim
def PT.eqv(h:PT X e (IW C m))(i:∀st Q,W a st Q->W m st Q):PT X e (IW C a):=PT.weak h λσ H Q ⟨c0,b,c,d,w⟩=>⟨c0,b,c,d,i _ _ w⟩
def FN(g:Gd ck Γ C d X)(b:PA X a (IX C (bA Γ es)))
  (h:(cc (x=f.name)&&simple f&&Jr X.env.scope x&&!a.isEmpty&&aW ck es X.N X.env.scope a)=b6):PE X (.Call (.Name x p) a [] pos) (Ht C (ev Γ (.bi f es))):=by
 simp only[cL,Z5,ux]at h;obtain⟨⟨⟨⟨rfl,c⟩,i⟩,n⟩,o⟩:=h;have⟨b1,j,b3,b4⟩:=A0 f c;have k:=cS o;cases a with
 |nil=>cases n
 |cons q l =>
  have st:=bo (env:=X.env) (es:=l) (k q (by simp));have m:=(bh (pos:=pos) (env:=X.env) (es:=l) λe r=>k e (by simp[r])).1;rcases DX f c with hv|hv
  .show AA g.calm g.K g.room.gd g.u hv (dF i) (g.blt _ j) (by rw[b1,hv]) b3 b4 b st m
  .show AB g.calm g.K g.room.gd g.u hv (dF i) (g.blt _ j) (by rw[b1,hv]) b3 b4 b st m
def FO(g:Gd ck Γ C d X)(i:PA X a (IX C (bA Γ es)))
  (h:(cc (x=f.ou)&&cc (y=f.iH)&&Jr X.env.scope x&&Jr X.env.scope y&&!a.isEmpty&&aW ck es X.N X.env.scope a)=b6):PE X (.Call (.Name x p) [.Call (.Name y p2) a [] pos2] [] pos) (Ht C (ev Γ (.Lx f es))):=by
 simp only[cL,Z5,ux]at h;obtain⟨⟨⟨⟨⟨rfl,rfl⟩,j⟩,k⟩,l⟩,m⟩:=h;have⟨b1,n⟩:=DY f;have b:=cS m;cases a with
 |nil=>cases l
 |cons o c =>
  have st:=bo (env:=X.env) (es:=c) (b o (by simp));have q:=(bh (pos:=pos2) (env:=X.env) (es:=c) λe r=>b e (by simp[r])).1;show AH g.calm g.K (dF j) (g.blt _ b1) (dF k) (g.blt _ n) i st q
def FP(g:Gd ck Γ C d X)(l:PE X o (Ht C (ev Γ a)))(n:PA X b (IX C (bA Γ es)))
  (h:(cc (name=m.name)&&oz o&&(c.endLine==i.line)&&!b.isEmpty&&cc (b.length<20)&&bw ck a X.N X.env.scope o&&aW ck es X.N X.env.scope b)=b6):PE X (.Call (.Attribute o name c) b [] i) (Ht C (ev Γ (.Mm m a es))):=by
 simp only[cL,Z5,ux]at h;obtain⟨⟨⟨⟨⟨⟨rfl,p⟩,q⟩,r⟩,s⟩,x⟩,t⟩:=h;have j:=cS t;have⟨s1,s2⟩:=A4 m;cases b with
 |nil=>cases r
 |cons k f =>
  have st:=bo (env:=X.env) (es:=f) (j k (by simp));have u:=(bh (pos:=i) (env:=X.env) (es:=f) λe v=>j e (by simp[v])).1;have w:=(bh (pos:=i) (env:=X.env) (es:=k::f) j).2;show AG g.K s1 s2 l n (jZ p) ?_ q st u;rw[w];have:(k::f).length+([]:List KX).length+(if ([]:List KX).isEmpty=b6 then 0 else 1)<30:=by simp at s ⊢;lia
  simp only[Z9 this];rfl
def ya(g:Gd ck Γ C d X)(i:PA X a (IX C (bA Γ es)))
  (h:(cc (x=f)&&cc (f∈ck.fns)&&Jr X.env.scope x&&bB x&&!a.isEmpty&&aW ck es X.N X.env.scope a)=b6):PE X (.Call (.Name x p) a [] pos) (Ht C (ev Γ (.call f es))):=by
 simp only[cL,Z5,ux]at h;obtain⟨⟨⟨⟨⟨rfl,j⟩,k⟩,l⟩,m⟩,n⟩:=h;have b:=cS n;have⟨z,fa,A,ps,o,q,r,s,t⟩:=(g.fns _ j).ex;cases a with
 |nil=>cases m
 |cons u c =>
  have st:=bo (env:=X.env) (es:=c) (b u (by simp));have v:=(bh (pos:=pos) (env:=X.env) (es:=c) λe y=>b e (by simp[y])).1;show xE g.P g.w g.K rfl t o g.room (dF k) q r s (aR l).1 i st v
def DZ(g:Gd ck Γ C d X)(i:PA X a (IX C (bA Γ es)))
  (h:(cc (x=f)&&cc (f∈ck.fns)&&Jr X.env.scope x&&bB x&&!a.isEmpty&&aW ck es X.N X.env.scope a)=b6):PE X (.Call (.Name x p) a [] pos) (Ht C (ev Γ (.JO f es))):=by
 simp only[cL,Z5,ux]at h;obtain⟨⟨⟨⟨⟨rfl,j⟩,k⟩,l⟩,m⟩,n⟩:=h;have b:=cS n;have⟨z,fa,A,ps,o,q,r,s,t⟩:=(g.fns _ j).ex;cases a with
 |nil=>cases m
 |cons u c =>
  have st:=bo (env:=X.env) (es:=c) (b u (by simp));have v:=(bh (pos:=pos) (env:=X.env) (es:=c) λe y=>b e (by simp[y])).1;show xF g.P g.w g.K rfl t o g.room (dF k) q r s (aR l).1 i st v
def D0(g:Gd ck Γ C d X)(i:PA X a (IX C (bA Γ es)))
  (h:(cc (x=f)&&cc ((f,is)∈ck.JJ)&&Jr X.env.scope x&&bB x&&!a.isEmpty&&aW ck es X.N X.env.scope a)=b6):PE X (.Call (.Name x p) a [] pos) (Ht C (ev Γ (.Ho f es is))):=by
 simp only[cL,Z5,ux]at h;obtain⟨⟨⟨⟨⟨rfl,j⟩,k⟩,l⟩,m⟩,n⟩:=h;have b:=cS n;have⟨z,fa,A,ps,o,q,r,s,t⟩:=(g.JJ _ j).ex;cases a with
 |nil=>cases m
 |cons u c =>
  have st:=bo (env:=X.env) (es:=c) (b u (by simp));have v:=(bh (pos:=pos) (env:=X.env) (es:=c) λe y=>b e (by simp[y])).1;show xY g.P g.w g.K rfl t o g.room (dF k) q r s (aR l).1 (AV i) st v
def dy(h:(b&&aW k es N a c)=b6):aW k es N a c=b6:=(G'.mp h).2
mutual
theorem bC:∀(e:E) (X:Cx) (k:mh),Gd ck Γ C d X->bw ck e X.N X.env.scope k=b6->PE X k (Ht C (ev Γ e))
 |.var i,X,k,g,h=>by
  have⟨x,A,rfl,p⟩:=aj h;clear h;have h:=p;simp only[cL,Z5]at h;have⟨G,J⟩:=aR h.2;show ot h.1.1 (cm h.1.2) G J
 |.cst u,X,k,g,h=>by
  have⟨c,q0,A,rfl,p⟩:=k7 h;cases c with
  |int j=>have:=cR p;subst this;show jY v7 λ_ _=>rfl
  |str y=>have:=cR p;subst this;show jY v9 λ_ _=>rfl
  |bool y=>have:=cR p;subst this;show jY BM λ_ _=>rfl
  |none=>have:=cR p;subst this;show jY v8 λ_ _=>rfl
  |_=>cases p
 |.PR x u,X,k,g,h=>absurd (show cK=b6 from h) i6
 |.bin op a b,X,k,g,h=>by
  have⟨a',Li,b',A,rfl,p⟩:=kZ h;clear h;have h:=p;simp only[cL,Z5]at h;obtain⟨⟨rfl,L⟩,O⟩:=h;show An g.K (bC a X _ g L) (bC b X _ g O)
 |.cmp op a b,X,k,g,h=>by
  have⟨a',Li,b',A,rfl,q⟩:=hJ h;have h:=q;simp only[cL,Z5,ux]at h;obtain⟨⟨⟨rfl,h0⟩,L⟩,O⟩:=h;show Ao g.P g.w g.K g.u (bC a X _ g L) (bC b X _ g O) h0
 |.K_ o1 o2 a b c,X,k,g,h=>absurd (show cK=b6 from h) i6
 |.and es,X,k,g,h=>by
  have⟨Hm,A,rfl,p⟩:=jg h;clear h;have h:=p;show yb es X _ g h
 |.or es,X,k,g,h=>k_
 |.not a,X,k,g,h=>by
  have⟨a',A,rfl,p⟩:=mR h;clear h;have h:=p;show Aq (bC a X _ g h)
 |.neg a,X,k,g,h=>absurd (show cK=b6 from h) i6
 |.bad,X,k,g,h=>k_
 |.pop i,X,k,g,h=>by
  have⟨o,m,Y,as,F',rfl,q⟩:=bz h;have⟨x,px,rfl,v⟩:=aj q;simp only[cL,Z5,G2]at v;obtain⟨⟨⟨⟨⟨rfl,rfl⟩,L⟩,O⟩,G⟩,J⟩:=v;have⟨q1,q2⟩:=aR G;show AS L (cm O) q1 q2 J g.K
 |.J8 i a,X,k,g,h=>by
  have⟨o,m,Y,as,F',rfl,q⟩:=bz h;have⟨x,px,rfl,v⟩:=aj q;have⟨a',rfl,z3⟩:=a5 v;simp only[cL,Z5]at z3;obtain⟨⟨⟨⟨⟨⟨rfl,L⟩,O⟩,G⟩,J⟩,B⟩,h6⟩:=z3;have⟨q1,q2⟩:=aR G;have sa:=bh (pos:=F') (env:=X.env) (es:=[a']) λe he=>by rw[hV.mp he];show B
  show xW g.K L (cm O) q1 q2 (bC a X _ g h6) (by rw[sa.2];rfl) J (bo B)
 |.Ho f es is,X,k,g,h=>by
  have⟨f',as,A,rfl,q⟩:=aV h;have⟨x,p1,rfl,v⟩:=aj q;show D0 g (jj es X _ g (dy v)) v
 |.inD neg a i,X,k,g,h=>k_
 |.NI i,X,k,g,h=>by
  have⟨x,A,rfl,p⟩:=aj h;clear h;have h:=p;simp only[cL,Z5]at h;have⟨G,J⟩:=aR h.2;show AL h.1.1 (cm h.1.2) G J
 |.J7 i a b,X,k,g,h=>by
  have⟨o,m,Y,as,F',rfl,q⟩:=bz h;have⟨x,px,rfl,v⟩:=aj q;have⟨a',b',rfl,z3⟩:=h_ v;clear h q;have v:=z3;simp only[cL,Z5]at v;obtain⟨⟨⟨⟨⟨⟨⟨⟨rfl,L⟩,O⟩,G⟩,J⟩,B⟩,h6⟩,h7⟩,h8⟩:=v;have⟨q1,q2⟩:=aR G;have sa:=bh (pos:=F') (env:=X.env) (es:=[a',b']) λe he=>by
   rcases gj.mp he with rfl|he
   .show B
   .simp at he;subst he;show h6
  show xT g.u L (cm O) q1 q2 (bC a X _ g h7) (bC b X _ g h8) ⟨rfl,by rw[sa.2];rfl,J,by rw[bo B,bo h6];rfl⟩
 |.NJ i,X,k,g,h=>by
  obtain⟨f',as,_,rfl,q⟩:=aV h;obtain⟨f,_,rfl,v⟩:=aj q;have⟨c,rfl,z3⟩:=a5 v;have⟨o,m,Y,bs,F',rfl,z4⟩:=bz z3;have⟨x,px,rfl,z5⟩:=aj z4;simp only[cL,Z5,G2]at z5;obtain⟨⟨⟨⟨⟨⟨⟨rfl,rfl⟩,L⟩,rfl⟩,G⟩,J⟩,B⟩,h6⟩:=z5;have⟨q1,q2⟩:=aR B;show AQ g.calm g.K (dF L) (g.blt _ (by decide +kernel)) G (cm J) q1 q2 h6
 |.K' ln a b,X,k,g,h=>by
  obtain⟨_,_,_,rfl,p⟩:=aV h;obtain⟨_,_,rfl,q⟩:=aj p;obtain⟨_,rfl,v⟩:=a5 q;obtain⟨_,_,_,_,rfl,z3⟩:=kZ v;obtain⟨_,_,_,rfl,z4⟩:=aV z3;obtain⟨_,_,rfl,z5⟩:=aj z4;obtain⟨_,rfl,z6⟩:=a5 z5;obtain⟨_,_,_,rfl,z7⟩:=aV z6;obtain⟨_,_,rfl,z8⟩:=aj z7;obtain⟨_,rfl,z9⟩:=a5 z8;simp only[cL,Z5]at z9;obtain⟨⟨⟨⟨⟨⟨⟨⟨⟨rfl,rfl⟩,rfl⟩,rfl⟩,L⟩,O⟩,G⟩,J⟩,B⟩,h6⟩:=z9;show AR (ln:=ln) g.calm g.K (dF L) (g.blt _ (by cases ln<;>decide +kernel)) (dF O) (g.blt _ (by decide +kernel)) (bC a X _ g B) (bC b X _ g h6) (bo G) (bo J)
 |.fst es,X,k,g,h=>k_
 |.KD a T,X,k,g,h=>by
  have⟨f',as,A,rfl,q⟩:=aV h;have⟨x,p1,rfl,v⟩:=aj q;clear h q;have⟨a',b',rfl,z4⟩:=h_ v;have⟨y,p2,rfl,z3⟩:=aj z4;have h:=z3;simp only[cL,Z5]at h;obtain⟨⟨⟨⟨⟨rfl,rfl⟩,L⟩,O⟩,G⟩,J⟩:=h;show tM g.K (dF L) (g.blt _ qg) (dF O) (g.blt _ (x_ T)) (bC a X _ g J) (bo G)
 |.ite c a b,X,k,g,h=>by
  have⟨c',a',b',A,rfl,p⟩:=vF h;clear h;have h:=p;simp only[cL]at h;show Ar (lX c X _ g h.1.1) (bC a X _ g h.1.2) (bC b X _ g h.2)
 |.tup es,X,k,g,h=>by
  have⟨l,q0,A,rfl,p⟩:=k8 h;clear h;have h:=p;show Aw (jj es X _ g h)
 |.lst es,X,k,g,h=>by
  have⟨l,A,rfl,p⟩:=rN h;clear h;have h:=p;show Ax (jj es X _ g h)
 |.Ji r,X,k,g,h=>by
  have⟨A,rfl⟩:=mS h;show xD g.P g.w r
 |.idx a b,X,k,g,h=>by
  have⟨a',b',A,rfl,p⟩:=dh h;clear h;have h:=p;simp only[cL]at h;show Ay g.K g.u (qe h.1.1) (bC a X _ g h.1.2) (bC b X _ g h.2)
 |.LQ a lo hi,X,k,g,h=>by
  have⟨a',b',A,rfl,q⟩:=dh h;have⟨Uo,I0,p1,rfl,p⟩:=rO q;clear h q;simp only[cL]at p;show Az g.K (bC a X _ g p.1.1) (FQ lo X _ g p.1.2) (FQ hi X _ g p.2)
 |.bi f es,X,k,g,h=>by
  have⟨f',as,A,rfl,q⟩:=aV h;have⟨x,p1,rfl,v⟩:=aj q;have h:=v;show FN g (jj es X _ g (dy h)) h
 |.Lx f es,X,k,g,h=>by
  have⟨f',as,A,rfl,q⟩:=aV h;have⟨x,p1,rfl,v⟩:=aj q;have⟨c,rfl,z3⟩:=a5 v;have⟨g',as',p2,rfl,z4⟩:=aV z3;have⟨y,p3,rfl,z5⟩:=aj z4;have h:=z5;show FO g (jj es X _ g (dy h)) h
 |.Mm m a es,X,k,g,h=>by
  have⟨o,name,Y,as,F',rfl,q⟩:=bz h;have h:=q;have h':=h;simp only[cL]at h';show FP g (bC a X _ g h'.1.2) (jj es X _ g (dy h)) h
 |.call f es,X,k,g,h=>by
  have⟨f',as,A,rfl,q⟩:=aV h;have⟨x,p1,rfl,v⟩:=aj q;have h:=v;show ya g (jj es X _ g (dy h)) h
 |.JO f es,X,k,g,h=>by
  have⟨f',as,A,rfl,q⟩:=aV h;have⟨x,p1,rfl,v⟩:=aj q;have h:=v;show DZ g (jj es X _ g (dy h)) h
 |.Ir a,X,k,g,h=>by
  simp only[bw]at h;show AF (bC a X _ g h)
 |.comp n t ik src cond e,X,k,g,h=>by
  have⟨elt,tg,ac,al,scope,A,rfl,p⟩:=jh h;clear h;have h:=p;simp only[cL,Z5]at h;obtain⟨⟨⟨⟨⟨⟨⟨L,O⟩,G⟩,J⟩,B⟩,h6⟩,h7⟩,h8⟩:=h;subst L;have S:=qY (X:=X) rfl (ji _ _) O;split at B
  .rename_i as am;have Hx:=cS B;have hI:PI X tg ac (Lz C ik (bA Γ src)):=BX g am (jj src X _ g B) (λa e=>by
    subst e;cases src with
    |nil=>simp[aW]at B
    |cons e1 H_ =>
     cases H_ with
     |nil =>
      simp only[aW,cL]at B;show⟨e1,rfl,bC e1 X _ g B.1.2⟩
     |cons _ _=>simp[aW]at B) Hx
   show xN S g.calm hI (λD s H ex=>qf (fa:=cK) g.calm g.K S.nd (λz=>nomatch z) G)
    (λD s H ex=>by
     cases al with
     |nil =>
      cases cond with
      |nil=>show λag s σ H Q I ⟨c0,e1,e2,ok,w⟩=>nV ag s σ H Q I (by subst e1 e2;rw[show aL Γ []=pure b6 from rfl,ao]at w;show w c0 rfl rfl ok (Nx.refl c0))
      |cons _ _=>simp[aW]at h7
     |cons c1 cs =>
      cases cs with
      |nil =>
       cases cond with
       |nil=>simp[aW]at h7
       |cons e1 H_ =>
        cases H_ with
        |nil =>
         simp only[aW,cL]at h7;show sV (lX e1 (IC X _ scope D s H ex) c1 (g.cx _ _ _ _ _ _) h7.1.2)
        |cons _ _=>simp[aW]at h7
      |cons _ _=>simp at h6)
    (λD s H ex=>bC e (IC X _ scope D s H ex) elt (g.cx _ _ _ _ _ _) h8) (rQ J)
  .cases B
theorem jj:∀(es:List E) (X:Cx) (a:List mh),Gd ck Γ C d X->aW ck es X.N X.env.scope a=b6->PA X a (IX C (bA Γ es))
 |[],X,a,g,h=>by
  cases a with
  |nil=>show Av
  |cons _ _=>simp[aW]at h
 |e::es,X,a,g,h=>by
  cases a with
  |nil=>simp[aW]at h
  |cons b a =>
   simp only[aW,cL]at h;show xB (bC e X b g h.1.2) (jj es X a g h.2) (bo h.1.1)
theorem FQ:∀(es:List E) (X:Cx) (o:Option mh),Gd ck Γ C d X->rP ck es X.N X.env.scope o=b6->PO X o (tO C (MT Γ es))
 |[],X,o,g,h=>by
  cases o with
  |none=>show vq
  |some _=>simp[rP]at h
 |[e],X,o,g,h=>by
  cases o with
  |none=>simp[rP]at h
  |some a=>simp only[rP]at h;show vt (bC e X a g h)
 |_::_::_,X,o,g,h=>by simp[rP]at h
theorem yb:∀(es:List E) (X:Cx) (a:List mh),Gd ck Γ C d X->aW ck es X.N X.env.scope a=b6->∀{pos},PE X (.BoolOp .And a pos) (Ht C (iE Γ es))
 |[],X,a,g,h,pos=>k_
 |[e],X,a,g,h,pos=>by
  cases a with
  |nil=>simp[aW]at h
  |cons b a =>
   cases a with
   |nil=>simp only[aW,cL]at h;show CA (bC e X b g h.1.2)
   |cons _ _=>simp[aW]at h
 |e::c::es,X,a,g,h,pos=>by
  cases a with
  |nil=>simp[aW]at h
  |cons b a =>
   have h':noStar b=b6/\bw ck e X.N X.env.scope b=b6/\aW ck (c::es) X.N X.env.scope a=b6:=by
    rw[aW]at h;simp only[cL]at h;show⟨h.1.1,h.1.2,h.2⟩
   cases a with
   |nil=>have:=h'.2.2;simp[aW]at this
   |cons f i=>show snd_and (bC e X b g h'.2.1) (yb (c::es) X _ g h'.2.2)
theorem lX:∀(e:E) (X:Cx) (j:mh),Gd ck Γ C d X->bw ck e X.N X.env.scope j=b6->PT X j (IW C (HH Γ e))
 |.and es,X,j,g,h=>by
  have⟨G,o,rfl,k⟩:=jg h;clear h;have h:=k;show(tZ es X _ g h).pt
 |.or es,X,j,g,h=>by
  have⟨G,o,rfl,k⟩:=jg h;clear h;have h:=k;show(yc es X _ g h).pt
 |.not a,X,j,g,h=>by
  have⟨a',o,rfl,k⟩:=mR h;clear h;have h:=k;show As (lX a X _ g h)
 |.cmp H a b,X,j,g,h=>by
  have⟨a',I,D,o,rfl,l⟩:=hJ h;have h:=l;simp only[cL,Z5,ux]at h;obtain⟨⟨⟨rfl,A⟩,q⟩,s⟩:=h;show Ap g.P g.w g.K g.u (bC a X _ g q) (bC b X _ g s) A
 |.K_ o1 o2 a b c,X,j,g,h=>absurd (show cK=b6 from h) i6
 |.var i,X,j,g,h=>by
  have⟨x,o,rfl,k⟩:=aj h;simp only[cL,Z5]at k;have⟨v,z⟩:=aR k.2;show jX (ot k.1.1 (cm k.1.2) v z) g.K λ_=>rfl
 |.idx a b,X,j,g,h=>bx
 |.bi f es,X,j,g,h=>by
  have⟨f',as,o,rfl,l⟩:=aV h;have⟨x,B,rfl,p⟩:=aj l;have h:=p;show PT.eqv (jX (FN g (jj es X _ g (dy h)) h) g.K λ_=>rfl) λst Q w=>BY w
 |.Lx f es,X,j,g,h=>bx
 |.Mm m a es,X,j,g,h=>bx
 |.call f es,X,j,g,h=>by
  have⟨f',as,o,rfl,l⟩:=aV h;have⟨x,B,rfl,p⟩:=aj l;have h:=p;show PT.eqv (jX (ya g (jj es X _ g (dy h)) h) g.K λ_=>rfl) λst Q w=>BY w
 |.cst u,X,j,g,h=>bx
 |.fst es,X,j,g,h=>bx
 |.PR x u,X,j,g,h=>bx
 |.neg a,X,j,g,h=>bx
 |.KD a T,X,j,g,h=>by
  have⟨f',as,o,rfl,l⟩:=aV h;have⟨x,B,rfl,p⟩:=aj l;clear h l;have⟨a',D,rfl,J⟩:=h_ p;have⟨y,p2,rfl,L⟩:=aj J;have h:=L;simp only[cL,Z5]at h;obtain⟨⟨⟨⟨⟨rfl,rfl⟩,q⟩,s⟩,v⟩,z⟩:=h;show PT.eqv (jX (tM g.K (dF q) (g.blt _ qg) (dF s) (g.blt _ (x_ T)) (bC a X _ g z) (bo v)) g.K λ_=>rfl) λst Q w=>?_;have w:W (ev Γ a >>= λx=>M.HG (oo x.2 T)) st Q:=w;simp only[ah]at w ⊢;show W.mono w λx s1 O=>?_;have⟨b,e,Y⟩:=cj.mp O;show cj.mpr ⟨b,e,ao.mpr (cj.mpr ⟨b,rfl,Y⟩)⟩
 |.bad,X,j,g,h=>bx
 |.pop i,X,j,g,h=>bx
 |.J8 i a,X,j,g,h=>bx
 |.Ho f es is,X,j,g,h=>bx
 |.inD neg a i,X,j,g,h=>by
  have⟨a',I,D,o,rfl,l⟩:=hJ h;have⟨x,B,rfl,p⟩:=aj l;have h:=p;simp only[cL,Z5,ux]at h;obtain⟨⟨⟨⟨⟨rfl,A⟩,q⟩,s⟩,v⟩,z⟩:=h;have⟨q1,q2⟩:=aR v;show AM g.u q (cm s) q1 q2 (bC a X _ g z) A
 |.NI i,X,j,g,h=>bx
 |.K' ln a b,X,j,g,h=>bx
 |.NJ i,X,j,g,h=>bx
 |.Ir a,X,j,g,h=>bx
 |.JO f es,X,j,g,h=>bx
 |.J7 i a b,X,j,g,h=>bx
 |.bin H a b,X,j,g,h=>bx
 |.ite c a b,X,j,g,h=>bx
 |.tup es,X,j,g,h=>bx
 |.lst es,X,j,g,h=>bx
 |.Ji r,X,j,g,h=>bx
 |.LQ a lo hi,X,j,g,h=>bx
 |.comp n t ik src cond e,X,j,g,h=>bx
theorem tZ:∀(es:List E) (X:Cx) (a:List mh),Gd ck Γ C d X->aW ck es X.N X.env.scope a=b6->∀{pos},PW X (.BoolOp .And a pos) (IW C (aL Γ es))
 |[],X,a,g,h,pos=>by
  cases a with
  |nil =>
   rintro j c s σ H Q I ⟨c0,rfl,rfl,i,w⟩;rw[show aL Γ []=pure b6 from rfl,ao]at w;show Z2 ⟨c0.H,I,w c0 rfl rfl i (Nx.refl c0)⟩
  |cons _ _=>simp[aW]at h
 |[e],X,a,g,h,pos=>by
  cases a with
  |nil=>simp[aW]at h
  |cons b a =>
   cases a with
   |nil=>simp only[aW,cL]at h;show zv (lX e X b g h.1.2)
   |cons _ _=>simp[aW]at h
 |e::f::es,X,a,g,h,pos=>by
  cases a with
  |nil=>simp[aW]at h
  |cons b a =>
   have h':noStar b=b6/\bw ck e X.N X.env.scope b=b6/\aW ck (f::es) X.N X.env.scope a=b6:=by
    rw[aW]at h;simp only[cL]at h;show⟨h.1.1,h.1.2,h.2⟩
   cases a with
   |nil=>have:=h'.2.2;simp[aW]at this
   |cons k l=>show Au (lX e X b g h'.2.1) (tZ (f::es) X _ g h'.2.2)
theorem yc:∀(es:List E) (X:Cx) (a:List mh),Gd ck Γ C d X->aW ck es X.N X.env.scope a=b6->∀{pos},PW X (.BoolOp .Or a pos) (IW C (jz Γ es))
 |[],X,a,g,h,pos=>by
  cases a with
  |nil =>
   rintro j c s σ H Q I ⟨c0,rfl,rfl,i,w⟩;rw[show jz Γ []=pure cK from rfl,ao]at w;show isTrue_or_nil ⟨c0.H,I,w c0 rfl rfl i (Nx.refl c0)⟩
  |cons _ _=>simp[aW]at h
 |[e],X,a,g,h,pos=>by
  cases a with
  |nil=>simp[aW]at h
  |cons b a =>
   cases a with
   |nil=>simp only[aW,cL]at h;show Cw (lX e X b g h.1.2)
   |cons _ _=>simp[aW]at h
 |e::f::es,X,a,g,h,pos=>by
  cases a with
  |nil=>simp[aW]at h
  |cons b a =>
   have h':noStar b=b6/\bw ck e X.N X.env.scope b=b6/\aW ck (f::es) X.N X.env.scope a=b6:=by
    rw[aW]at h;simp only[cL]at h;show⟨h.1.1,h.1.2,h.2⟩
   cases a with
   |nil=>have:=h'.2.2;simp[aW]at this
   |cons k l=>show Du (lX e X b g h'.2.1) (yc (f::es) X _ g h'.2.2)
end
def Hb(g:Gd ck Γ C d X)(b:Um e=b6)(h:bw ck e X.N X.env.scope f=b6):PE X f (xQ C (ev Γ e)):=by
 cases e with
 |var i =>
  have⟨x,k,rfl,a⟩:=aj h;simp only[cL,Z5]at a;have⟨l,m⟩:=aR a.2;show xR a.1.1 (cm a.1.2) l m
 |cst u =>
  have⟨c,n,k,rfl,a⟩:=k7 h;cases c with
  |int j=>have:=cR a;subst this;show iI v7 λ_ _=>rfl
  |str y=>have:=cR a;subst this;show iI v9 λ_ _=>rfl
  |bool y=>have:=cR a;subst this;show iI BM λ_ _=>rfl
  |none=>have:=cR a;subst this;show iI v8 λ_ _=>rfl
  |_=>cases a
 |_=>cases b
end
abbrev OX(b:L5)(x:Str)(a:Nat):mh->Bool
 |.ListComp elt gens s pos=>cc (b.names.lookup x=bD .local)&&(a==pos.line)&&!(s.names.any λ(n,k)=>n==x&&(k==.local||k==.cell))
 |_=>cK
abbrev la(s:ME)(k:mh->Bool):Bool:=match s with|.Expr e _=>k e|_=>cK
def dX(h:la s k=b6):∃e p,s=.Expr e p/\k e=b6:=by
 unfold la at h;split at h
 .show⟨_,_,rfl,h⟩
 .cases h
abbrev lb(s:ME)(k:mh->mh->Bool):Bool:=match s with|.Assign ts v _=>dw ts λt=>k t v|_=>cK
def dY(h:lb s k=b6):∃t v p,s=.Assign [t] v p/\k t v=b6:=by
 unfold lb at h;split at h
 .have⟨t,rfl,a⟩:=a5 h;show⟨_,_,_,rfl,h⟩
 .cases h
abbrev rR(e:mh)(k:mh->mh->mh->L5->Bool):Bool:=match e with
 |.ListComp elt gens scope _=>dw gens λg=>match g with
  |⟨b,a,[],0⟩=>k elt b a scope
  |_=>cK
 |_=>cK
def qh(h:rR e k=b6):∃elt c a scope p,e=.ListComp elt [⟨c,a,[],0⟩] scope p/\k elt c a scope=b6:=by
 unfold rR at h;split at h
 .have⟨g,rfl,b⟩:=a5 h;split at b
  .show⟨_,_,_,_,_,rfl,b⟩
  .cases b
 .cases h
abbrev D3(e:mh)(k:Str->Pos->Bool):Bool:=match e with|.Name x p=>k x p|_=>cK
def vG(h:D3 e k=b6):∃x p,e=.Name x p/\k x p=b6:=by
 unfold D3 at h;split at h
 .show⟨_,_,rfl,h⟩
 .cases h
abbrev yd(s:ME)(k:mh->YH->mh->Bool):Bool:=match s with|.AugAssign t a b _=>k t a b|_=>cK
def rS(h:yd s k=b6):∃t a b p,s=.AugAssign t a b p/\k t a b=b6:=by
 unfold yd at h;split at h
 .show⟨_,_,_,_,rfl,h⟩
 .cases h
abbrev qi(s:ME)(k:Option mh->Bool):Bool:=match s with|.Return v _=>k v|_=>cK
def ia(h:qi s k=b6):∃v p,s=.Return v p/\k v=b6:=by
 unfold qi at h;split at h
 .show⟨_,_,rfl,h⟩
 .cases h
abbrev D4(v:Option mh)(k:mh->Bool):Bool:=match v with|some e=>k e|none=>cK
def mU(h:D4 v k=b6):∃e,v=bD e/\k e=b6:=by
 cases v with
 |none=>cases h
 |some e=>show⟨e,rfl,h⟩
abbrev ye(s:ME)(k:mh->List ME->List ME->Bool):Bool:=match s with|.If c a b _=>k c a b|_=>cK
def rT(h:ye s k=b6):∃c a b p,s=.If c a b p/\k c a b=b6:=by
 unfold ye at h;split at h
 .show⟨_,_,_,_,rfl,h⟩
 .cases h
abbrev yf(s:ME)(k:mh->mh->List ME->Bool):Bool:=match s with|.For t i b o _=>o.isEmpty&&k t i b|_=>cK
def rU(h:yf s k=b6):∃t i b p,s=.For t i b [] p/\k t i b=b6:=by
 unfold yf at h;split at h
 .rw[cL,G2]at h;have⟨rfl,h⟩:=h;show⟨_,_,_,_,rfl,h⟩
 .cases h
abbrev D5(s:ME)(k:mh->List ME->Bool):Bool:=match s with|.While c b o _=>o.isEmpty&&k c b|_=>cK
def vH(h:D5 s k=b6):∃c b p,s=.While c b [] p/\k c b=b6:=by
 unfold D5 at h;split at h
 .rw[cL,G2]at h;have⟨rfl,h⟩:=h;show⟨_,_,_,rfl,h⟩
 .cases h
mutual
noncomputable def D6(k:Ck):S->List Str->L5->ME->Bool
 |.set i e,N,d,s=>lb s λt v=>D3 t λx p=>cc (N[i]?=bD x)&&oA d x&&cc (d.kind=.function)&&bw k e N d v&&(dJ v||OX d x p.line v||(match v with|.ListComp _ _ _ _=>b6|_=>cK))&&(match e with|.comp _ _ _ _ _ _=>b6|_=>dJ v)
 |.LR is e,N,d,s=>lb s λt v=>tY t λ_=>M_ b6 N d b6 is t&&dJ v&&DT v&&bw k e N d v
 |.put i a b,N,d,s=>lb s λt l=>jD t λo a'=>a9 o λx=>cc (N[i]?=bD x)&&fT d x&&bB x&&dJ l&&eD a'&&bw k a N d a'&&bw k b N d l
 |.app i e,N,d,s=>la s λc=>dW c λo m f as j=>a9 o λx=>dw as λa=>cc (m="append")&&cc (N[i]?=bD x)&&fT d x&&bB x&&(f.endLine==j.line)&&noStar a&&bw k e N d a
 |.ext i e,N,d,s=>la s λc=>dW c λo m f as j=>a9 o λx=>dw as λa=>cc (m="extend")&&cc (N[i]?=bD x)&&fT d x&&bB x&&(f.endLine==j.line)&&noStar a&&bw k e N d a
 |.bad,_,_,_=>b6
 |.newD i,N,d,s=>lb s λt v=>a9 t λx=>AX v&&cc (N[i]?=bD x)&&oA d x
 |.putD i a b,N,d,s=>lb s λt l=>jD t λo a'=>a9 o λx=>cc (N[i]?=bD x)&&fT d x&&bB x&&dJ l&&eD a'&&bw k a N d a'&&bw k b N d l
 |.Jq i a e,N,d,s=>la s λc=>dW c λo m f as j=>jD o λo' a'=>a9 o' λx=>dw as λb=>cc (m="append")&&cc (N[i]?=bD x)&&fT d x&&bB x&&eD a'&&(f.endLine==j.line)&&noStar b&&bw k a N d a'&&bw k e N d b
 |.aug sub i a e,N,d,s=>yd s λt u b=>jD t λo a'=>a9 o λx=>cc (u=if sub=b6 then .Sub else .Add)&&cc (N[i]?=bD x)&&fT d x&&bB x&&eD a'&&bw k a N d a'&&bw k e N d b&&Um e
 |.PU _,_,_,_=>cK
 |.exp e,N,d,s=>la s λn=>dJ n&&bw k e N d n
 |.ret e,N,d,s=>qi s λv=>D4 v λn=>bw k e N d n
 |.J9 i e,N,d,s=>qi s λw=>D4 w λv=>rR v λelt h g scope=>dW g λo m f as j=>a9 o λx=>as.isEmpty&&cc (m="items")&&cc (N[i]?=bD x)&&fT d x&&bB x&&(f.endLine==j.line)&&isTup h&&cc ((da h).length=2) &&
   zV (da h++hide (da h) N) (da h) scope d.names&&M_ b6 (da h++hide (da h) N) (xZ scope d) cK (hQ 2) h&&bw k e (da h++hide (da h) N) (xZ scope d) elt
 |.LS i e,N,d,s=>la s λc=>dW c λo m f as j=>a9 o λx=>dw as λa=>cc (m="pop")&&cc (N[i]?=bD x)&&fT d x&&bB x&&(f.endLine==j.line)&&noStar a&&bw k e N d a
 |.Kv,N,d,s=>qi s λv=>v.isNone
 |.ite c a b,N,d,s=>ye s λq a' l=>bw k c N d q&&dZ k a N d a'&&dZ k b N d l
 |.HC t is ik src body,N,d,s=>yf s λh g r=>M_ t N d b6 is h&&rL g&&(match fU d h ik g with
    |some as=>aW k src N d as
    |none=>cK)&&dZ k body N d r
 |.Ly c body,N,d,s=>D5 s λq r=>bw k c N d q&&dZ k body N d r
 |.brk,_,_,_=>cK
 |.cnt,_,_,_=>cK
 |.KG _,_,_,_=>cK
 |.PV,_,_,_=>cK
noncomputable def dZ(k:Ck):List S->List Str->L5->List ME->Bool
 |[],_,_,a=>a.isEmpty
 |s::c,N,b,a=>match a with
  |s'::a=>D6 k s N b s'&&dZ k c N b a
  |[]=>cK
end
section
variable{ck:Ck}{Γ:Tab}{C:Ct}{d:Nat}{X:Cx}
def rV(h:oA a x=b6):Loc a x:=by
 unfold oA at h;simp only[KR,Z5]at h;show h
def iJ(h:dJ v=b6):PZ v t a env=pure cK:=by
 cases v<;>first|rfl|cases h
def oD(h:dJ v=b6):Qe [t] v a env=pure cK:=by
 rw[Qe];show iJ h
def A7(h:eD i=b6):∀a b new,ZV i a b new=(do LY [new,a,b] (Sd a b new);U3 [new,a,b] [];pure .next):=by
 intro a b new;cases i<;>first|rfl|cases h
def t5(h:eD i=b6):∀v,QX (.Subscript o i p) env v=(do
   let a <-LY [v] (wk o env)
   let b <-LY [v,a] (wk i env)
   W6 p
   LY [v,a,b] (Sd a b v)
   U3 [v,a,b] []):=by
 intro v;cases i<;>first|rfl|cases h
structure Gs(ck:Ck)(Γ:Tab)(C:Ct)(d:Nat)(X:Cx):Prop where
 gd:Gd ck Γ C d X
 nd:X.N.Nodup
 fn:∀x,X.fn x=b6
 po:V_ (hH X.prog X.w) X.A X.env X.xe
 kd:X.env.scope.kind=.function
def t6(g:Gd ck Γ C d X)(h:(match fU X.env.scope i ik b with|some as=>aW ck src X.N X.env.scope as|none=>cK)=b6):PI X i b (Lz C ik (bA Γ src)):=by
 split at h
 .rename_i as c;show BX g c (jj src X _ g h) (λa e=>by
   subst e;cases src with
   |nil=>simp[aW]at h
   |cons f j =>
    cases j with
    |nil =>
     simp only[aW,cL]at h;show⟨f,rfl,bC f X _ g h.1.2⟩
    |cons _ _=>simp[aW]at h) (cS h)
 .cases h
def lh{pos p a:Pos}(hk:X.env.scope.kind=.function):PZ (.ListComp elt gens s pos) (bD (.Name x p)) a.line X.env=pure (OX X.env.scope x p.line (.ListComp elt gens s pos)):=by
 have b:X.env.blockKind=.function:=by
  unfold Env.blockKind;rw[hk];rfl
 change(pure (X.env.blockKind==.function&&X.env.kindOf x==bD .local&&p.line==pos.line&&!(s.names.any λ(n,k)=>n==x&&(k==.local||k==.cell))):Sem Bool)=_;rw[b];unfold OX;congr 1
 have:(X.env.kindOf x==bD NameKind.local)=cc (X.env.scope.names.lookup x=bD .local):=by
  unfold Env.kindOf;rw[Jk];simp
 rw[this];rfl
def D7{src cond:List E}(G:Gs ck Γ C d X)(m:X.N[i]?=bD x)(y:oA X.env.scope x=b6)
  (h:bw ck (.comp n t ik src cond e) X.N X.env.scope (.ListComp elt [⟨o,a,b,0⟩] scope pos)=b6) (ns:Nat->Bool) (q:∀j,ns j=b6->j≠i) :
  L2.PS X (.Assign [.Name x p] (.ListComp elt [⟨o,a,b,0⟩] scope pos) Kp) (IA C ns (ev Γ (.comp n t ik src cond e) >>= λr=>eJ i r >>= λ_=>pure .nx)):=by
 have g:=G.gd;have u:=bC (.comp n t ik src cond e) X _ g h;cases k:OX X.env.scope x p.line (.ListComp elt [⟨o,a,b,0⟩] scope pos) with
 |false=>show BU q G.nd m (rV y) (.inl (G.fn x)) u (by rw[lh G.kd,k])
 |true =>
  have hl:X.env.scope.names.lookup x=bD .local:=by
   simp only[OX,cL,Z5]at k;show k.1.1
  have⟨WS,XU,Up,WT,SD,p',A,v⟩:=jh h;cases A;clear h u;simp only[cL,Z5]at v;obtain⟨⟨⟨⟨⟨⟨⟨B,J⟩,L⟩,O⟩,T⟩,Y⟩,c⟩,h8⟩:=v;subst B;have S:=qY (X:=X) rfl (ji _ _) J;show DL q S g.calm G.nd m hl (t6 g T) (λD s H ex=>qf (fa:=cK) g.calm g.K S.nd (λz=>nomatch z) L)
   (λD s H ex=>by
    cases b with
    |nil =>
     cases cond with
     |nil=>show λf s σ H Q I ⟨c0,l,e2,ok,w⟩=>nV f s σ H Q I (by subst l e2;rw[show aL Γ []=pure b6 from rfl,ao]at w;show w c0 rfl rfl ok (Nx.refl c0))
     |cons _ _=>simp[aW]at c
    |cons c1 cs =>
     cases cs with
     |nil =>
      cases cond with
      |nil=>simp[aW]at c
      |cons l H_ =>
       cases H_ with
       |nil =>
        simp only[aW,cL]at c;show sV (lX l (IC X _ scope D s H ex) c1 (g.cx _ _ _ _ _ _) c.1.2)
       |cons _ _=>simp[aW]at c
     |cons _ _=>simp at Y)
   (λD s H ex=>bC e (IC X _ scope D s H ex) elt (g.cx _ _ _ _ _ _) h8) (by rw[lh G.kd,k]) (rQ O)
def A8(G:Gs ck Γ C d X)(h:D6 ck (.LS i e) X.N X.env.scope s'=b6):L2.PS X s' (IA C (PX (.LS i e)) (exec Γ (.LS i e))):=by
 have⟨c,A,rfl,l⟩:=dX h;have⟨o,m,b,as,f,rfl,n⟩:=bz l;have⟨x,B,rfl,p⟩:=aj n;have⟨a,rfl,g⟩:=a5 p;simp only[cL,Z5]at g;obtain⟨⟨⟨⟨⟨⟨rfl,q⟩,r⟩,s⟩,t⟩,j⟩,u⟩:=g;have⟨v,w⟩:=aR s;have st:=bo (env:=X.env) (es:=[]) j;have y:=(bh (pos:=f) (env:=X.env) (es:=[a]) λe k=>by simp at k;subst k;show j).2;have z:x2 f (i2 [a] X.env)=[(cK,wk a X.env)]:=by rw[st];rfl
 show FF q (cm r) v w (bC e X _ G.gd u) ?_ t z;rw[y];rfl
mutual
theorem Hc:∀(s:S) (X:Cx) (s':ME),Gs ck Γ C d X->D6 ck s X.N X.env.scope s'=b6->L2.PS X s' (IA C (PX s) (exec Γ s))
 |.set i e,X,s',G,h=>by
  have⟨t,v,p1,rfl,f⟩:=dY h;have⟨x,p,rfl,k⟩:=vG f;clear h f;have h:=k;simp only[cL,Z5]at h;obtain⟨⟨⟨⟨⟨q,r⟩,A⟩,l⟩,B⟩,y⟩:=h;have Jd:∀j,PX (.set i e) j=b6->j≠i:=λj O=>Z' (show cc (j≠i)=b6 from O);by_cases hc:dJ v=b6
  .show BU Jd G.nd q (rV r) (.inl (G.fn x)) (bC e X v G.gd l) (iJ hc)
  .cases e with
   |comp n t ik src cond e =>
    obtain⟨elt,tg,ac,al,scope,p3,rfl,_⟩:=jh l;show D7 G q r l _ Jd
   |_=>show absurd y hc
 |.LR is e,X,s',G,h=>by
  have⟨t,v,p1,rfl,f⟩:=dY h;have⟨es,kk,p,rfl,k⟩:=k8 f;clear h f;have h:=k;simp only[cL]at h;obtain⟨⟨⟨q,r⟩,A⟩,l⟩:=h;show DM (λj O=>Z' (show cc (j∉is)=b6 from O)) (bC e X v G.gd l) (qf (fa:=b6) G.gd.calm G.gd.K G.nd (λ_=>G.fn) q) (oD r) ?_ rfl;cases v<;>first|rfl|cases A
 |.put i a b,X,s',G,h=>by
  have⟨t,v,p,rfl,f⟩:=dY h;have⟨o,a',p1,rfl,k⟩:=dh f;have⟨x,px,rfl,J⟩:=aj k;simp only[cL,Z5]at J;obtain⟨⟨⟨⟨⟨⟨q,r⟩,A⟩,l⟩,B⟩,y⟩,h7⟩:=J;have⟨Q,T⟩:=aR A;show FE G.gd.P G.gd.w G.gd.K G.gd.u q (cm r) Q T (bC b X _ G.gd h7) (bC a X _ G.gd y) (oD l) rfl (t5 B)
 |.app i e,X,s',G,h=>by
  have⟨c,p0,rfl,f⟩:=dX h;have⟨o,m,Y,as,F',rfl,k⟩:=bz f;have⟨x,px,rfl,J⟩:=aj k;have⟨a,rfl,z4⟩:=a5 J;simp only[cL,Z5]at z4;obtain⟨⟨⟨⟨⟨⟨rfl,q⟩,r⟩,A⟩,l⟩,B⟩,y⟩:=z4;have⟨Q,T⟩:=aR A;have st:=bo (env:=X.env) (es:=[]) B;have sa:=(bh (pos:=F') (env:=X.env) (es:=[a]) λe he=>by simp at he;subst he;show B).2;show FC G.gd.K q (cm r) Q T (bC e X _ G.gd y) ?_ l st;rw[sa];rfl
 |.ext i e,X,s',G,h=>by
  have⟨c,p0,rfl,f⟩:=dX h;have⟨o,m,Y,as,F',rfl,k⟩:=bz f;have⟨x,px,rfl,J⟩:=aj k;have⟨a,rfl,z4⟩:=a5 J;simp only[cL,Z5]at z4;obtain⟨⟨⟨⟨⟨⟨rfl,q⟩,r⟩,A⟩,l⟩,B⟩,y⟩:=z4;have⟨Q,T⟩:=aR A;have st:=bo (env:=X.env) (es:=[]) B;have sa:=(bh (pos:=F') (env:=X.env) (es:=[a]) λe he=>by simp at he;subst he;show B).2;show FD G.gd.K q (cm r) Q T (bC e X _ G.gd y) ?_ l st;rw[sa];rfl
 |.bad,X,s',G,h=>λag sh σ H D I ⟨_,_,_,_,w⟩=>(bf.mp w).elim
 |.newD i,X,s',G,h=>by
  have⟨t,v,p1,rfl,f⟩:=dY h;have⟨x,p,rfl,k⟩:=aj f;clear h f;have h:=k;simp only[cL,Z5]at h;have⟨p2,rfl⟩:=mS h.1.1;show DO (λj O=>Z' (show cc (j≠i)=b6 from O)) G.nd h.1.2 (rV h.2) (.inl (G.fn _)) (iJ rfl)
 |.putD i a b,X,s',G,h=>by
  have⟨t,v,p,rfl,f⟩:=dY h;have⟨o,a',p1,rfl,k⟩:=dh f;have⟨x,px,rfl,J⟩:=aj k;simp only[cL,Z5]at J;obtain⟨⟨⟨⟨⟨⟨q,r⟩,A⟩,l⟩,B⟩,y⟩,h7⟩:=J;have⟨Q,T⟩:=aR A;show DP G.gd.u q (cm r) Q T (bC b X _ G.gd h7) (bC a X _ G.gd y) (oD l) rfl (t5 B)
 |.Jq i a e,X,s',G,h=>by
  have⟨c,p0,rfl,f⟩:=dX h;have⟨o,m,Y,as,F',rfl,k⟩:=bz f;have⟨o',a',p1,rfl,J⟩:=dh k;have⟨x,px,rfl,z4⟩:=aj J;have⟨b,rfl,z5⟩:=a5 z4;simp only[cL,Z5]at z5;obtain⟨⟨⟨⟨⟨⟨⟨⟨rfl,q⟩,r⟩,A⟩,l⟩,B⟩,y⟩,h7⟩,h8⟩:=z5;have ha:=bC e X _ G.gd h8;have⟨Q,T⟩:=aR A;have st:=bo (env:=X.env) (es:=[]) y;have sa:=(bh (pos:=F') (env:=X.env) (es:=[b]) λe he=>by simp at he;subst he;show y).2;show DQ G.gd.K G.gd.u q (cm r) Q T ha (bC a X _ G.gd h7) (qe l) ?_ B st;rw[sa];rfl
 |.aug sub i a e,X,s',G,h=>by
  have⟨t,op,b,p,rfl,L⟩:=rS h;clear h;have h:=L;have⟨o,a',p1,rfl,f⟩:=dh h;have⟨x,px,rfl,k⟩:=aj f;simp only[cL,Z5]at k;obtain⟨⟨⟨⟨⟨⟨⟨rfl,q⟩,r⟩,A⟩,l⟩,B⟩,y⟩,h7⟩:=k;have ha:=Hb (C:=C) (Γ:=Γ) (d:=d) (ck:=ck) G.gd h7 y;have⟨Q,T⟩:=aR A;show FI q (cm r) Q T ha (bC a X _ G.gd B) (A7 l)
 |.PU i,X,s',G,h=>absurd (show cK=b6 from h) i6
 |.exp e,X,s',G,h=>by
  have⟨e',p,rfl,L⟩:=dX h;clear h;have h:=L;simp only[cL]at h;show Fw (bC e X _ G.gd h.2) (iJ h.1)
 |.ret e,X,s',G,h=>by
  have⟨v,p,rfl,L⟩:=ia h;have⟨e',rfl,f⟩:=mU L;clear h L;have h:=f;show Fx (bC e X _ G.gd h)
 |.J9 i e,X,s',G,h=>by
  have g:=G.gd;have⟨v0,p0,rfl,y0⟩:=ia h;have⟨v,rfl,y1⟩:=mU y0;clear h y0;have h:=y1;have⟨elt,tg,ac,scope,p,rfl,f⟩:=qh h;have⟨o,m,Y,as,F',rfl,k⟩:=bz f;have⟨x,px,rfl,J⟩:=aj k;simp only[cL,Z5,G2]at J;obtain⟨⟨⟨⟨⟨⟨⟨⟨⟨⟨rfl,rfl⟩,q⟩,r⟩,A⟩,l⟩,B⟩,y⟩,h7⟩,h8⟩,h9⟩:=J;cases tg with
  |Tuple es kx ps =>
   have⟨Q,T⟩:=aR A;have S:=qY (X:=X) rfl (ji _ _) h7;rw[<-y]at h8;show DR q (cm r) Q T l S g.calm y (λD s H ex=>qf (fa:=cK) g.calm g.K S.nd (λz=>nomatch z) h8) (λD s H ex=>bC e _ _ (g.cx _ _ _ _ _ _) h9)
  |_=>cases B
 |.Kv,X,s',G,h=>by
  have⟨v,p,rfl,L⟩:=ia h;cases v with
  |none=>show DK
  |some _=>cases L
 |.ite c a b,X,s',G,h=>by
  have⟨c',a',b',p,rfl,L⟩:=rT h;clear h;have h:=L;simp only[cL]at h;have ha:=lj a X _ G h.1.2;have hb:=lj b X _ G h.2;show Fy (lX c X _ G.gd h.1.1) (IJ.weak ha λD σ H z=>oy (λj O=>(G'.mp (show(Jv a j&&Jv b j)=b6 from O)).1) z) (IJ.weak hb λD σ H z=>oy (λj O=>(G'.mp (show(Jv a j&&Jv b j)=b6 from O)).2) z)
 |.HC t is ik src body,X,s',G,h=>by
  have⟨tg,ac,JR,p,rfl,L⟩:=rU h;clear h;have h:=L;rw[cL,cL,cL]at h;show FA G.po G.gd.calm (t6 G.gd h.1.2) (qf (fa:=b6) G.gd.calm G.gd.K G.nd (λ_=>G.fn) h.1.1.1) (lj body X _ G h.2) (rQ h.1.1.2) λj O=>by have O:(cc (j∉is)&&Jv body j)=b6:=O;simpa using O
 |.Ly c body,X,s',G,h=>by
  have⟨c',JR,p,rfl,L⟩:=vH h;clear h;have h:=L;simp only[cL]at h;show Fz G.po (lX c X _ G.gd h.1) (lj body X _ G h.2)
 |.brk,X,s',G,h=>absurd (show cK=b6 from h) i6
 |.cnt,X,s',G,h=>absurd (show cK=b6 from h) i6
 |.KG is,X,s',G,h=>absurd (show cK=b6 from h) i6
 |.LS i e,X,s',G,h=>A8 G h
 |.PV,X,s',G,h=>absurd (show cK=b6 from h) i6
theorem lj:∀(b:List S) (X:Cx) (a:List ME),Gs ck Γ C d X->dZ ck b X.N X.env.scope a=b6->IJ X a (IA C (Jv b) (execs Γ b))
 |[],X,a,G,h=>by
  cases a with
  |nil=>show Fv
  |cons _ _=>simp[dZ]at h
 |s::b,X,a,G,h=>by
  cases a with
  |nil=>simp[dZ]at h
  |cons s' a =>
   simp only[dZ,cL]at h;have e:=Hc s X s' G h.1;have f:=lj b X a G h.2;show DJ (PS.weak e λD σ H z=>oy (λj c=>by simp only[Jv,cL]at c;show c.1) z) (IJ.weak f λD σ H z=>oy (λj c=>by simp only[Jv,cL]at c;show c.2) z)
end
end
section
variable{ck:Ck}{Γ:Tab}{d:Nat}{P:D9}{w:HL}{K:PySem.W.Frag}{mg:Str->Option dV}{base:IZ}
def jk{n i:Nat}(h:(start us n)[i]?=bD (bD (k,u))):us[i]?=bD u/\k=if HM u=b6 then .loc else .any:=by
 unfold start at h;by_cases a:i<us.length
 .rw[u5 (by simpa using a),i7]at h;rw[mA a]at h ⊢;simp only[O_,Pf,VG]at h;have⟨b,c⟩:=h;subst c;show⟨rfl,b.symm⟩
 .rw[nC (by simp;lia),Jb]at h;split at h<;>cases h
def di{i:Nat}(h:vs[i]?=bD v):(L2.start N vs)[i]?=bD (bD v):=by
 unfold L2.start;have a:i<vs.length:=(d3.mp h).1;rw[u5 (by simpa using a),i7,h];rfl
def yg(p:∀a,c a->JX H a)(h:aq (KH P w K H c) c H us vs)(q:N.length=n):Ok (KH P w K H c) ⟨λ_=>False,H,L2.start N vs,start us n,λ_=>[]⟩:=by
 have f:∀(j:Nat) (u:U),(start us n)[j]?≠bD (bD (.Hl,u)):=λj u e=>by
  have:=(jk e).2;split at this<;>cases this
 show⟨λa o e _=>e,λa z=>z.elim,λa z=>⟨p a z,λz=>z⟩,λa z=>z.elim,?_,λi k u e=>?_,λi j k k' u u' r hk t g m x y=>?_,⟨λj u r e _=>(f j u e).elim,λi j a ⟨u,_,e,_⟩=>(f i u e).elim,λj a ⟨u,_,e,_⟩=>(f j u e).elim⟩⟩
 .have:=h.len;simp[start,L2.start,q];lia
 .have⟨g,m⟩:=jk e;have⟨v,ev,b⟩:=h.get g;show⟨v,di ev,?_⟩;subst m;by_cases l:HM u=b6
  .rw[Z6 l];show Rep.HM l b
  .rw[Z7 l];show Rep.mv (.up λa z=>.inl z) b
 .obtain⟨_,s⟩:=jk g;subst s;split at hk<;>cases hk
def oE(h:cY Γ fn us=bD (.ok (k,u))):us.length=fn.np/\((k=.own\/k=.loc\/k=.any)/\(∃st',execs Γ fn.body (start us fn.ns)=bD (.ok (.rt k u),st'))\/(k=.loc/\u=.Hs/\∃st',execs Γ fn.body (start us fn.ns)=bD (.ok .nx,st'))):=by
 unfold cY at h;split at h
 .rename_i hl;show⟨hl,?_⟩;split at h
  .rename_i e;cases h;show .inl ⟨.inl rfl,_,e⟩
  .rename_i e;cases h;show .inl ⟨.inr (.inl rfl),_,e⟩
  .rename_i e;cases h;show .inl ⟨.inr (.inr rfl),_,e⟩
  .rename_i e;cases h;show .inr ⟨rfl,rfl,_,e⟩
  .cases h
  .cases h
 .cases h
def BZ{st:ME}(F:L_ K fn.name i st f J)(S:eC N ps (aU st))(L:N.length=fn.ns)(O:ps.length=fn.np)
  (T:dZ ck fn.body N (aU st) (cV st)=b6) (q:∀x∈bR,mg x=cb) (t:∀g∈ck.fns,AY P w K mg base d (Γ g) g)
  (Y:∀p∈ck.gl,∃b v,mg p.1=bD b/\RelV v b/\∀(C:Ct) S H,Rep C S H p.2 v) (JJ:∀p∈ck.JJ,AZ P w K mg base d (Γ p.1) p.1 p.2):jJ P w K mg base Ko (d+1) f J ps (spT P w K (cY Γ fn) fn.np):=by
 show F.ok S (λvs H Q E h=>h.1.trans O.symm) (λB A outer s H vs Q E D h=>?_);have⟨hl,us,k,u,m,Ib,hk,WU,y,j⟩:=h;have NK:=D.un;have G:Gs ck Γ (KH P w K H m) d (pf Ko P w K mg base N i (aU st) f B A outer s H E).Nn :=
  ⟨⟨rfl,rfl,rfl,by change(A.deeper (SG i (aU st) s.heap.objs.size f B)).units+60<Kx;lia,rfl,D,q,t,λp hp=>let ⟨b,v,q1,q2,q3⟩:=Y p hp;⟨b,v,q1,q2,q3 _⟩,JJ⟩,S.nd,λ_=>rfl,Xv,S.kind⟩
 show⟨_,lj fn.body _ _ G T,⟨λ_=>False,H,L2.start N vs,start us fn.ns,λ_=>[]⟩,rfl,rfl,yg WU y L,?_⟩;obtain⟨_,SE⟩:=oE Ib;have I:∀(c:Cf),Ok (KH P w K H m) c->∀v,DI (KH P w K H m) c k u v->Back (KH P w K H m) H c.H c.S k u v:=λc l v r=>by
  show⟨λa o e=>l.same a o e λz=>z,λa z=>l.JA a z,λe=>?_,λe=>?_,λe=>?_⟩
  .subst e;have⟨r0,e,h1,h2,h3,h4⟩:=r;show⟨r0,e,h1,h2,h4⟩
  .subst e;show r
  .subst e;show r
 rcases SE with⟨_,st',e⟩|⟨rfl,rfl,st',e⟩
 .show⟨_,st',e,λc ec l n kp v r=>j v c.H c.S (I c l v r)⟩
 .show⟨_,st',e,λc ec l n kp=>j .Hs c.H c.S (I c l .Hs rfl)⟩
def ib(h:(cZ is us n)[i]?=bD (bD (k,u))):us[i]?=bD u/\k=if i∈is then .io else if HM u=b6 then .loc else .any:=by
 unfold cZ at h;by_cases a:i<us.length
 .rw[u5 (by simpa using a),i7,R']at h;rw[mA a]at h ⊢;simp only[O_,Pf,VG,Oz]at h;have⟨b,c⟩:=h;subst c;show⟨rfl,b.symm⟩
 .rw[nC (by simp;lia),Jb]at h;split at h<;>cases h
def vI(a:DS C C.H₀ is us vs)(s:N.length=n):Ok C ⟨λ_=>False,C.H₀,L2.start N vs,cZ is us n,λ_=>[]⟩:=by
 have g:∀(j:Nat) (u:U),(cZ is us n)[j]?≠bD (bD (.Hl,u)):=λj u e=>by
  have:=(ib e).2;split at this
  .cases this
  .split at this<;>cases this
 have rt:∀(j:Nat) (k:Kd) (u:U),k.root=b6->(cZ is us n)[j]?=bD (bD (k,u))->j∈is/\us[j]?=bD u:=λj k u hk e=>by
  have⟨f,b⟩:=ib e;show⟨?_,f⟩;by_cases z:j∈is
  .show z
  .rw[Z7 z]at b;subst b;split at hk<;>cases hk
 show⟨λa o e _=>e,λa z=>z.elim,λx z=>a.par x z,λx z=>⟨a.Uj x z,a.Uj x z⟩,?_,λi k u e=>?_,λi j k k' u u' r hk t f b l m=>?_,⟨λj u r e _=>(g j u e).elim,λi j a ⟨u,_,e,_⟩=>(g i u e).elim,λj a ⟨u,_,e,_⟩=>(g j u e).elim⟩⟩
 .have:=a.len;simp[cZ,L2.start,s];lia
 .have⟨f,b⟩:=ib e;by_cases z:i∈is
  .rw[Z6 z]at b;subst b;have⟨r,b1,c,b3⟩:=a.io i u z f;show⟨_,di b1,r,rfl,λz=>z,λz=>(a.par r z).2 c,c,b3⟩
  .rw[Z7 z]at b;have⟨v,b1,c⟩:=a.any i u z f;show⟨v,di b1,?_⟩;subst b;by_cases h:HM u=b6
   .rw[Z6 h];show Rep.HM h c
   .rw[Z7 h];show Rep.mv (.up λa z=>.inl z) c
 .have⟨p,y⟩:=rt i k u hk f;have⟨q,A⟩:=rt j k' u' t b;obtain⟨B,b1,_⟩:=a.io i u p y;obtain⟨D,c,_⟩:=a.io j u' q A;rw[di b1]at l;rw[di c]at m;cases l;cases m;show a.inj i j _ p q b1 c
theorem t7:∀{is:List Nat}{st:au}{ws:List U},MU is st=bD ws->ws.length=is.length/\∀(n i:Nat),is[n]?=bD i->∃w,ws[n]?=bD w/\st[i]?=bD (bD (.io,w))
 |[],_,_,h=>by cases h;show⟨rfl,λn i e=>by simp at e⟩
 |i::is,st,ws,h=>by
  unfold MU at h;split at h
  .rename_i u c;rw[eH]at h;have⟨ws',h,rfl⟩:=h;have⟨a,b⟩:=t7 h;show⟨by simp[a],λn j e=>?_⟩;cases n with
   |zero=>simp at e;subst e;show⟨u,rfl,c⟩
   |succ n=>have⟨w,f,g⟩:=b n j (by simpa using e);show⟨w,by simpa using f,g⟩
  .cases h
def t8(h:gv Γ fn is body us=bD (.ok r)):us.length=fn.np/\∃f st k u ws,execs Γ body (cZ is us fn.ns)=bD (.ok f,st)/\PY f=bD (k,u)/\MU is st=bD ws/\r=(k,.tup (u::ws)):=by
 unfold gv at h;split at h
 .rename_i hl;show⟨hl,?_⟩;split at h
  .rename_i f st e;obtain⟨⟨k,u⟩,a,h⟩:=r6.mp h;rw[eH]at h;have⟨ws,b,c⟩:=h;cases c;show⟨f,st,k,u,ws,e,a,b,rfl⟩
  .cases h
 .cases h
def D_{st:ME}(F:L_ K fn.name j st f fd)(S:eC N ps (aU st))(hN:N.length=fn.ns)(JV:ps.length=fn.np)(Jd:∀i∈is,Jv body i=b6)
  (Na:dZ ck body N (aU st) (cV st)=b6) (B:∀x∈bR,mg x=cb) (D:∀g∈ck.fns,AY P w K mg base d (Γ g) g)
  (KJ:∀p∈ck.gl,∃b v,mg p.1=bD b/\RelV v b/\∀(C:Ct) S H,Rep C S H p.2 v) (JJ:∀p∈ck.JJ,AZ P w K mg base d (Γ p.1) p.1 p.2):jJ P w K mg base Ko (d+1) f fd ps (P_ P w K (gv Γ fn is body) fn.np is):=by
 show F.ok S (λvs H Q E h=>h.1.trans JV.symm) (λL A outer s H vs Q E O h=>?_);have⟨hl,us,k,u,ws,o,IO,Ib,hk,I,l⟩:=h;have NK:=O.un;have G:Gs ck Γ (Lh P w K H o IO) d (pf Ko P w K mg base N j (aU st) f L A outer s H E).Nn :=
  ⟨⟨rfl,rfl,rfl,by change(A.deeper (SG j (aU st) s.heap.objs.size f L)).units+60<Kx;lia,rfl,O,B,D,λp hp=>let ⟨b,v,q1,q2,q3⟩:=KJ p hp;⟨b,v,q1,q2,q3 _⟩,JJ⟩,S.nd,λ_=>rfl,Xv,S.kind⟩
 show⟨_,lj body _ _ G Na,⟨λ_=>False,H,L2.start N vs,cZ is us fn.ns,λ_=>[]⟩,rfl,rfl,vI (C:=Lh P w K H o IO) I hN,?_⟩;obtain⟨_,T,st',k',u',ws',e,q,e2,e3⟩:=t8 Ib;cases e3;have⟨l1,l2⟩:=t7 e2;have Y:∀(c:Cf),c.st=st'->Ok (Lh P w K H o IO) c->Kept (Jv body) ⟨λ_=>False,H,L2.start N vs,cZ is us fn.ns,λ_=>[]⟩ c->∀v,DI (Lh P w K H o IO) c k u v->BW (Lh P w K H o IO) H c.H c.S is vs ws k u v:=λc t m y v r=>by
  show⟨m.same,λa z=>m.JA a z,λe=>?_,λe=>?_,l1,λn i r w g1 g2 g3=>?_⟩
  .subst e;have⟨r0,e,h1,h2,h3,h4⟩:=r;show⟨r0,e,h1,h2,h4⟩
  .subst e;show r
  .have⟨w',z1,z2⟩:=l2 n i g1;rw[g3]at z1;cases z1;rw[<-t]at z2;obtain⟨v',J,r',y2,_,_,_,y3⟩:=m.sl i _ _ z2;have hi:i∈is:=mx g1;rw[y.1 i (Jd i hi)]at J;rw[show(L2.start N vs)[i]?=bD (bD (.ref r)) from di g2]at J;cases J;cases y2;show y3
 show⟨T,st',e,λc t m n y=>?_⟩;cases T with
 |nx=>cases q;show l .Hs c.H c.S (Y c t m y .Hs rfl)
 |rt k0 u0=>cases k0<;>first|(cases q;done)|(cases q;show λv r=>l v c.H c.S (Y c t m y v r))
 |_=>cases q
abbrev Fn.bd(fn:Fn):List S:=match fn.io with|some (_,b)=>b|none=>fn.body
abbrev Qb(fn:Fn):Bool:=match fn.io with|some (is,b)=>is.all λi=>Jv b i|none=>b6
abbrev Qc(ck:Ck)(Pg:List Fn):Bool:=ck.fns.all (λg=>Pg.any λfn=>cc (fn.name=g)&&fn.io.isNone)&&ck.JJ.all λp=>Pg.any λfn=>cc (fn.name=p.1)&&cc (fn.io.map (·.1)=bD p.2)
structure Ld(ck:Ck)(K:PySem.W.Frag)(mg:Str->Option dV)(fn:Fn):Prop where
 ex:∃(qual:Str) (st:ME) (f:hA) (fd:QY) (N ps:List Str),L_ K fn.name qual st f fd/\mg fn.name=bD (.ref f)/\Binds K fd ps []/\eC N ps (aU st)/\N.length=fn.ns/\ps.length=fn.np/\dZ ck fn.bd N (aU st) (cV st)=b6/\Qb fn=b6
def A9{Pg:List Fn}(a:(Pg.map (·.name)).Nodup)(h:fn∈Pg):Pg.find? (λg=>cc (g.name=fn.name))=bD fn:=by
 induction Pg with
 |nil=>cases h
 |cons g Pg b =>
  rw[eh,l0]at a;rcases gj.mp h with rfl|h
  .simp
  .rw[Mh];have:cc (g.name=fn.name)=cK:=by
    apply Z8;intro z;show a.1 (z▸X1 h)
   rw[this];show b a.2 h
def rW(a:(Pg.map (·.name)).Nodup)(h:fn∈Pg):HA Pg (d+1) fn.name=jd (HA Pg d) fn:=by
 funext us
 change(match Pg.find? λg=>cc (g.name=fn.name) with|some fn=>jd (HA Pg d) fn us|none=>cb)=_;rw[A9 a h]
def mV(h:fn.io=cb):jd Γ fn=cY Γ fn:=by funext us;unfold jd;rw[h]
def vJ(h:fn.io=bD (is,b)):jd Γ fn=gv Γ fn is b:=by funext us;unfold jd;rw[h]
def t9(O:(Pg.map (·.name)).Nodup)(o:Qc ck Pg=b6)(q:∀x∈bR,mg x=cb)(T:∀p∈ck.gl,∃t v,mg p.1=bD t/\RelV v t/\∀(C:Ct) S H,Rep C S H p.2 v)
  (ld:∀fn∈Pg,Ld ck K mg fn):∀d,(∀g∈ck.fns,AY P w K mg base d (HA Pg d g) g)/\∀p∈ck.JJ,AZ P w K mg base d (HA Pg d p.1) p.1 p.2:=by
 simp only[Qc,cL,ko,UB,Z5]at o;intro d;induction d with
 |zero =>
  show⟨λg I=>?_,λp J=>?_⟩
  .obtain⟨fn,i,rfl,_⟩:=o.1 g I;obtain⟨a,st,f,j,N,ps,F,l,m,S,B,n,_⟩:=(ld fn i).ex;show⟨fn.np,f,j,ps,⟨λvs H Q E h=>h.1.trans n.symm,λA outer s H args us vs Q E _ _ _ _ h=>by obtain⟨_,us,k,u,_,e,_⟩:=h;cases e⟩,l,F.kp,m,λus k u e=>by cases e⟩
  .obtain⟨fn,i,e,_⟩:=o.2 p J;obtain⟨a,st,f,j,N,ps,F,l,m,S,B,n,_⟩:=(ld fn i).ex;show⟨fn.np,f,j,ps,⟨λvs H Q E h=>h.1.trans n.symm,λA outer s H args us vs Q E _ _ _ _ h=>by obtain⟨_,us,k,u,_,_,_,e,_⟩:=h;cases e⟩,e▸l,F.kp,m,λus k e=>by cases e⟩
 |succ d G =>
  show⟨λg I=>?_,λp J=>?_⟩
  .have⟨fn,i,rfl,c⟩:=o.1 g I;rw[Qt]at c;obtain⟨a,st,f,j,N,ps,F,l,m,S,B,n,D,_⟩:=(ld fn i).ex;rw[rW O i,mV c];rw[show fn.bd=fn.body by unfold Fn.bd;rw[c]]at D;show⟨fn.np,f,j,ps,BZ F S B n D q G.1 T G.2,l,F.kp,m,λus k u e=>?_⟩;have⟨h1,h2⟩:=oE e;show⟨?_,h1⟩;rcases h2 with⟨z,_⟩|⟨z,_⟩
   .show z
   .show .inr (.inl z)
  .have⟨fn,i,e,c⟩:=o.2 p J;rw[eH]at c;obtain⟨⟨is,b⟩,c,Y⟩:=c;have⟨x,y⟩:=p
   dsimp only at e Y
   subst e Y;have⟨a,st,f,j,N,ps,F,l,m,S,B,n,D,L⟩:=(ld fn i).ex;rw[rW O i,vJ c];rw[show fn.bd=b by unfold Fn.bd;rw[c]]at D;unfold Qb at L;rw[c]at L;show⟨fn.np,f,j,ps,D_ F S B n (ko.mp L) D q G.1 T G.2,l,F.kp,m,λus r e=>(t8 e).1⟩
end
abbrev rX(ns:List Int):U:=.lst (ns.map .int)
theorem mW{S:hA->Prop}:∀(ns:List Int),aq C S H (ns.map .int) (ns.map V.int)
 |[]=>rfl
 |n::ns=>⟨_,_,rfl,rfl,mW ns⟩
def rY(h:HX C.K H a (ns.map V.int)):Rep C (JX H) H (rX ns) (.ref a):=by
 show⟨a,_,rfl,?_,mW ns⟩;rcases h with(h|⟨o,h⟩)|h
 .show .inl ⟨⟨_,h⟩,.inl h⟩
 .show .inl ⟨⟨_,h⟩,.inr ⟨o,h⟩⟩
 .show .inr h
theorem qj:∀{l:List α},(∀a∈l,f a=g a)->l.filterMap f=l.filterMap g
 |[],_=>rfl
 |a::l,h=>by rw[Lp,Lp,h a (by simp),qj λb c=>h b (by simp[c])]
theorem t_:∀(l:List Str) (us:List dV),l.Nodup->us.length=l.length->l.filterMap (λn=>((l.zip us).lookup n).map (n,·))=l.zip us
 |[],_,_,_=>rfl
 |a::l,[],_,h=>nomatch h
 |a::l,u::us,b,h=>by
  rw[l0]at b;have c:=t_ l us b.2 (by simpa using h);simp only[Kf,Lp,td,beq_self_eq_true,O_];congr 1
  conv=>rhs;rw[<-c]
  show qj λn d=>?_;have:(n==a)=cK:=by
   rw[beq_eq_false_iff_ne];rintro rfl;show b.1 d
  rw[this]
def yh(l:List Str)(us:List dV)(h:us.length=l.length):l.filter (λn=>((l.zip us).lookup n).isNone)=[]:=by
 rw[HF];intro n hn;induction l generalizing us with
 |nil=>cases hn
 |cons a l b =>
  cases us with
  |nil=>cases h
  |cons u us =>
   simp only[Kf,td];cases e:n==a with
   |true=>simp
   |false =>
    rcases gj.mp hn with rfl|hn
    .simp at e
    .show b us (by simpa using h) hn
def yi{kV a b c ct:dV}(d:(as.map (·.arg)).Nodup)(hl:us.length=(as.map (·.arg)).length):
  ZU (PySem.W.fnOf x q ⟨[],as,cb,[],[],cb,[]⟩ body scope .none kV a b m c ct) ⟨us,[]⟩=pure ((as.map (·.arg)).zip us):=by
 have e:=t_ _ us d hl;have f:=yh _ us hl;change(if _ then _ else _)=_;rw[Z7 (by simp[hl])];have g:∀k:Nat,¬(!(((as.map (·.arg)).take k).filter λn=>(((as.map (·.arg)).zip us).lookup n).isNone).isEmpty)=b6:=λk=>by
  rw[HF.mpr λn h=>HF.mp f n (List.mem_of_mem_take h)];show i6
 show(Z7 (g _)).trans ?_;have hz:∀(l:List Str) (i j:Nat),(l.drop i).zip ((cb.getD #[]:Array dV).toList.drop j)=[]:=λl i j=>by rw[show(cb.getD #[]:Array dV).toList=[] from rfl,List.drop_nil,List.zip_nil_right]
 show Eq.trans (Z_ (λz=>Bind.bind (Zs z _ _) _) (hz _ _ _)) ?_;show Z_ (pure:List (Str×dV)->Sem (List (Str×dV))) ((Z_ (List.filterMap _) (rr _)).trans e)
structure Me where
 fn:Fn
 i:Nat
 N:List Str
 a:hA
 c:hA
 m:dV
 cr:Obj
abbrev Me.fd(top:Nat->ME)(m:Me):QY:=PySem.W.fnOf m.fn.name m.fn.name (f9 (top m.i)) (cV (top m.i)) (aU (top m.i)) .none .none .none m.m cb (.ref m.c) .none
abbrev Me.fo(top:Nat->ME)(m:Me):Obj:=⟨.type "function",cb,.func (m.fd top),#[]⟩
@[reducible]def Gx:=Obj
abbrev adr(ms:List Me):List hA:=3::ms.flatMap λm=>[m.c,m.a]
abbrev Kb(top:Nat->ME)(g:Gx)(ms:List Me):PySem.W.Frag:=(3,g)::ms.flatMap λm=>[(m.c,m.cr),(m.a,m.fo top)]
def ua(top:Nat->ME)(g:Gx)(ms:List Me):adr ms=(Kb top g ms).map (·.1):=by
 unfold adr Kb;rw[eh,List.map_flatMap];rfl
abbrev Ea(v:Option (Option dV))(a:hA):Bool:=match v with|some (bD (.ref b))=>cc (b=a)|_=>cK
def A_(h:Ea v a=b6):v=bD (bD (.ref a)):=by
 unfold Ea at h;split at h
 .rw[Z' h]
 .cases h
abbrev nn(o:Option (Option dV)):Bool:=match o with|some cb=>b6|_=>cK
def FR(h:nn o=b6):o=bD cb:=by
 unfold nn at h;split at h
 .rfl
 .cases h
abbrev FT(p:Arguments)(ps:List Str):Bool:=p.posonlyargs.isEmpty&&p.vararg.isNone&&p.kwonlyargs.isEmpty&&p.kw_defaults.isEmpty&&p.kwarg.isNone&&p.defaults.isEmpty&&cc (p.args.map (·.arg)=ps)
abbrev Uq(N:List Str)(b:Nat)(a:L5):Bool:=cc (a.kind=.function)&&cc (a.isCoroutine=cK)&&cc (a.isGenerator=cK)&&decide N.Nodup&&(N.take b).all (oA a)&&a.names.all (λy=>cc (y.2≠.free))
abbrev Ur(ck:Ck)(top:Nat->ME)(K:PySem.W.Frag)(m:Me):Bool:=PySem.W.codeIn K (.ref m.c) m.fn.name&&PySem.W.keepIn K (.ref m.a)&&Ea (PySem.W.nsIn K H8 m.fn.name) m.a&&FT (f9 (top m.i)) (m.N.take m.fn.np) &&
 Uq m.N m.fn.np (aU (top m.i))&&cc (m.N.length=m.fn.ns)&&cc (m.fn.np<=m.fn.ns)&&(dZ ck m.fn.bd m.N (aU (top m.i)) (cV (top m.i))&&Qb m.fn)
abbrev Us(K:PySem.W.Frag)(p:Str×U):Bool:=match p.2,PySem.W.nsIn K H8 p.1 with
 |.int i,bD (bD (.int j _))=>cc (i=j)
 |.str i,bD (bD (.str j _))=>cc (i=j)
 |_,_=>cK
abbrev Mq(ck:Ck)(top:Nat->ME)(K:PySem.W.Frag)(ms:List Me):Bool:=ms.all (Ur ck top K)&&bR.all (λy=>nn (PySem.W.nsIn K H8 y))&&ck.gl.all (Us K)&&cc (K.map (·.1)).Nodup
def FU{K:PySem.W.Frag}(b:(K.map (·.1)).Nodup)(h:(a,o)∈K):K.lookup a=bD o:=by
 induction K with
 |nil=>cases h
 |cons p K c =>
  rw[eh,l0]at b;rw[td];rcases gj.mp h with rfl|h
  .simp
  .have:(a==p.1)=cK:=by
    rw[beq_eq_false_iff_ne];rintro rfl;show b.1 (js.mpr ⟨_,h,rfl⟩)
   rw[this];show c b.2 h
section
def B0(c:Mq ck top (Kb top g ms) ms=b6)(h:m∈ms):L_ (Kb top g ms) m.fn.name m.fn.name (top m.i) m.a (m.fd top)/\PySem.W.nsIn (Kb top g ms) H8 m.fn.name=bD (bD (.ref m.a)) /\
  (∀us:List dV,us.length=(m.N.take m.fn.np).length->ZU (m.fd top) ⟨us,[]⟩=pure ((m.N.take m.fn.np).zip us))/\eC m.N (m.N.take m.fn.np) (aU (top m.i))/\m.N.length=m.fn.ns/\(m.N.take m.fn.np).length=m.fn.np/\(dZ ck m.fn.bd m.N (aU (top m.i)) (cV (top m.i))=b6/\Qb m.fn=b6):=by
 simp only[Mq,cL,Z5]at c;have z:=ko.mp c.1.1.1 m h;simp only[Ur,cL,Z5]at z;obtain⟨⟨⟨⟨⟨⟨⟨j,k⟩,l⟩,b⟩,d⟩,n⟩,u⟩,o⟩:=z;simp only[Uq,cL,Z5]at d;obtain⟨⟨⟨⟨⟨s1,s2⟩,s3⟩,s4⟩,p⟩,q⟩:=d;have r:(Kb top g ms).lookup m.a=bD (m.fo top):=FU c.2 (gj.mpr (.inr (List.mem_flatMap.mpr ⟨m,h,by simp⟩)));have hl:(m.N.take m.fn.np).length=m.fn.np:=by rw[G1];lia
 show⟨CW r j k,A_ l,λus f=>?_,⟨s1,s2,s3,s4,by rw[hl],λx s=>?_,λy t=>?_⟩,n,hl,o⟩
 .unfold Me.fd;revert b;cases f9 (top m.i) with
  |mk v as w A B kw C =>
   intro b;simp only[FT,cL,G2,Qt,Z5]at b;obtain⟨⟨⟨⟨⟨⟨rfl,rfl⟩,rfl⟩,rfl⟩,rfl⟩,rfl⟩,e⟩:=b;rw[<-e]at f ⊢;show yi (by rw[e];show(Yr _ _).nodup s4) f
 .have:=ko.mp p x s;simpa[oA] using this
 .have:=ko.mp q y t;simpa using this
def FV(i:Mq ck top (Kb top g ms) ms=b6)(X:(Kb top g ms).In h)(G:h.Ns H8 mg)(j:m∈ms):Ld ck (Kb top g ms) mg m.fn :=
 let ⟨a,b,c,d,e,f,k⟩:=B0 i j
 ⟨_,_,_,_,_,_,a,PySem.W.mg_of X G b,.all c,d,e,f,k⟩
def Eb(d:Mq ck top (Kb top g ms) ms=b6)(X:(Kb top g ms).In h)(G:h.Ns H8 mg):∀p∈ck.gl,∃a v,mg p.1=bD a/\RelV v a/\∀(C:Ct) S H,Rep C S H p.2 v:=by
 intro p e;simp only[Mq,cL,Z5]at d;have z:=ko.mp d.1.2 p e;unfold Us at z;split at z
 .rename_i i j k b c;obtain rfl:=Z' z;show⟨_,.int i,PySem.W.mg_of X G c,⟨_,rfl⟩,λ_ _ _=>by rw[b];rfl⟩
 .rename_i i j k b c;obtain rfl:=Z' z;show⟨_,.str i,PySem.W.mg_of X G c,⟨_,rfl⟩,λ_ _ _=>by rw[b];rfl⟩
 .cases z
end
def walk{l:PySem.W.OpenLaw}{K:Yi->PySem.W.Frag}
  (B:l.most=bD 63) (D:d.params.defaults=[]) (I:fJ (dp+1) Sj) (J:∀(w:HL) (h:IZ),L w h->(K w.params).In h)
  (m:(Pg.map (·.name)).Nodup) (A:Qc ck Pg=b6) (O:fn.io=cb) (Q:fn∈Pg) (Lj:fn.name=d.name)
  (F:∀(w:HL) (mg:Str->Option dV) (fa:hA) (h:IZ),(K w.params).In h->h.Ns H8 mg->mg d.name=bD (.ref fa) ->
   (∀y∈bR,mg y=cb)/\(∀p∈ck.gl,∃i v,mg p.1=bD i/\RelV v i/\∀(C:Ct) S H,Rep C S H p.2 v)/\(∀g∈Pg,Ld ck (K w.params) mg g) /\
   ∃(c:Str) (st:ME) (j:QY) (N:List Str),L_ (K w.params) fn.name c st fa j/\eC N [x] (aU st)/\N.length=fn.ns/\1=fn.np/\dZ ck fn.body N (aU st) (cV st)=b6/\∀(s:gs) (u:dV),Yl s j ⟨[u],[]⟩ [(x,u)])
  (T:∀ns:List Int,ns.length<=63->HA Pg (dp+1) fn.name [rX ns]=bD (.ok (.loc,.bl b6))) :
  PySem.W.WalkO q o XP L l.row.toRowW d [] (λf vs=>PySem.call f vs) :=
 L2.zO (n:=63) (k:=dp+1) (x:=x) (CX:=λ_=>Ko) (sp:=λw=>spT l.prog w (K w.params) (cY (HA Pg dp) fn) fn.np) B (by decide) D I J
  (λw mg fa h Y G N_=>by
   have⟨e,r,ld,c,st,j,N,F1,S,hN,JV,hc,hb⟩:=F w mg fa h Y G N_;show⟨j,hb,λbase _ _=>BZ F1 S hN JV hc e (t9 m A e r ld dp).1 r (t9 m A e r ld dp).2⟩)
  (λw H a ns hl _ hS=>by
   have t:=T ns hl;rw[rW m Q,mV O]at t;have WW:fn.np=1:=(oE t).1.symm;show⟨WW.symm,[rX ns],.loc,.bl b6,JX H,t,.inr (.inl rfl),λ_ z=>z,⟨_,_,rfl,rY hS,rfl⟩,λv H' S' b=>b.loc rfl⟩)
  λ_ _ _ _ _ z=>z
def walk2{l:PySem.W.OpenLaw}{g:Yi->Obj}
  (z:l.most=bD 63) (A:d.params.defaults=[]) (B:fJ (dp+1) Sj) (o:ms.map (·.fn)=Pg) (C:(Pg.map (·.name)).Nodup) (D:Qc ck Pg=b6) (p:m.fn.io=cb) (r:m∈ms) (t:m.fn.name=d.name) (H:m.N.take m.fn.np=[x])
  (ok:∀P,Mq ck top (Kb top (g P) ms) ms=b6) (T:∀ns:List Int,ns.length<=63->HA Pg (dp+1) m.fn.name [rX ns]=bD (.ok (.loc,.bl b6))) :
  PySem.W.WalkO q j J (PySem.W.kHook (λP=>Kb top (g P) ms) (adr ms) λP=>ua top (g P) ms).says l.row.toRowW d [] (λf vs=>PySem.call f vs) :=
 walk z A B (λw h Y=>PySem.W.kIn_of Y) C D p (o▸js.mpr ⟨m,r,rfl⟩) t (λw mg fa h X G v=>by
  have hk:=ok w.params;have⟨a,b,c,e,f,k,n⟩:=B0 hk r;rw[<-t,PySem.W.mg_of X G b]at v;cases v;rw[H]at c e k;show⟨λy i=>PySem.W.mg_none_of X G (FR ?_),Eb hk X G,λy i=>?_,_,_,_,_,a,e,f,k,by have:=n.1;rw[show m.fn.bd=m.fn.body by unfold Fn.bd;rw[p]]at this;show this,λs u=>.of_eq (c [u] rfl)⟩
  .simp only[Mq,cL]at hk;show ko.mp hk.1.1.2 y i
  .rw[<-o]at i;have⟨L,I,rfl⟩:=js.mp i;show FV hk X G I) T
abbrev co(n:Str)(k l c:Nat)(r s:hA)(x y z:dV)(a b t:Nat):Obj:=⟨.type "code",cb,.fields #[.str n k,.str n (k+1),.str "/claim/cut.py" (k+2),.int l 0,.int c 0,.int 0 0,.int 0 0,.int 3 0,.ref r,.bool b6,.int t 0,.ref s,.none,x,y,z,.int a 0,.int l 0,.str "/claim/cut.py" b],#[]⟩
abbrev ge(P:Yi)(x:Str)(k:Nat)(v:dV):DictEntry:=⟨PyData.keyHash P x,.str x k,v⟩
end TM
namespace TM
open PySem L2
section
abbrev Run(m:M α)(st:au)(a:α)(st':au):Prop:=m st=bD (.ok a,st')
def ab(c:Run m st a st1)(d:Run (f a) st1 b st2):Run (m >>= f) st b st2:=by
 change M.bind m f st=_;unfold M.bind;rw[show m st=_ from c];show d
def aY:Run (pure a:M α) st a st:=rfl
def cn(h:o=bD a):Run (M.HG o) st a st:=by subst h;rfl
def ba(h:bq rs st):Run (aE rs) st () st:=by change aE rs st=_;unfold aE;rw[Z6 h]
abbrev kv(i:Nat)(k:Kd):Kd:=if k.root=b6 then .bor i else k
def dG(h:st[i]?=bD (bD (k,u)))(hk:k≠.Hl:=by intro z;cases z):Run (c_ i) st (kv i k,u) st:=by
 change c_ i st=_;unfold c_;rw[h];cases k<;>first|rfl|show absurd rfl hk
def ae(h:st[i]?=bD (bD (.loc,u))):Run (ev Γ (.var i)) st (.loc,u) st:=dG h
def aC(h:st[i]?=bD (bD (.any,u))):Run (ev Γ (.var i)) st (.any,u) st:=dG h
def aA(h:st[i]?=bD (bD (.own,u))):Run (ev Γ (.var i)) st (.bor i,u) st:=dG h
def ai:Run (ev Γ (.cst u)) st (.loc,u) st:=rfl
def bE(c:Run (ev Γ a) st x st1)(d:Run (ev Γ b) st1 y st2)(e:bq [x,y] st2)(f:Kl g x y=bD r):Run (ev Γ (.bin g a b)) st r st2 :=
 ab c (ab d (ab (ba e) (cn f)))
def gF(d:Run (ev Γ a) st x st1)(e:Run (ev Γ b) st1 y st2)(f:bq [x,y] st2)(g:bO h x.2 y.2=bD c):Run (ev Γ (.cmp h a b)) st (.loc,.bl c) st2 :=
 ab d (ab e (ab (ba f) (ab (cn g) aY)))
def aZ(c:Run (ev Γ a) st x st1)(d:Run (ev Γ b) st1 y st2)(e:bq [x,y] st2)(f:gY x y.2=bD r):Run (ev Γ (.idx a b)) st r st2 :=
 ab c (ab d (ab (ba e) (cn f)))
def ub:Run (MT Γ []) st cb st:=rfl
def mX(h:Run (ev Γ e) st (k,.int i) st1):Run (MT Γ [e]) st (bD i) st1:=ab h rfl
def qk(c:Run (ev Γ a) st x st1)(d:Run (MT Γ lo) st1 l st2)(e:Run (MT Γ f) st2 h b)(g:bq [x] b)(i:pT x l h=bD r):Run (ev Γ (.LQ a lo f)) st r b :=
 ab c (ab d (ab e (ab (ba g) (cn i))))
def af:Run (bA Γ []) st [] st:=rfl
def aa(a:Run (ev Γ e) st r st1)(b:Run (bA Γ es) st1 rs st2):Run (bA Γ (e::es)) st (r::rs) st2:=ab a (ab b aY)
def cy(a:Run (bA Γ es) st rs st1)(b:bq rs st1)(c:JI f rs=bD r):Run (ev Γ (.bi f es)) st r st1:=ab a (ab (ba b) (cn c))
def uc(a:Run (bA Γ es) st rs st1)(b:bq rs st1)(c:pU f rs=bD r):Run (ev Γ (.Lx f es)) st r st1:=ab a (ab (ba b) (cn c))
def yj(b:Run (ev Γ a) st x st1)(c:Run (bA Γ es) st1 rs st2)(d:bq (x::rs) st2)(e:lV m x.2 rs=bD r):Run (ev Γ (.Mm m a es)) st r st2:=ab b (ab c (ab (ba d) (cn e)))
def ud(h:Γ f us=bD (.ok r))(a:isAny r.1=cK):Run (kQ Γ f us) st r st:=by
 have⟨k,u⟩:=r;change kQ Γ f us st=_;unfold kQ;rw[h];cases k<;>first|rfl|cases a
def a_(a:Run (bA Γ es) st rs st1)(b:bq rs st1)(c:Γ f (rs.map (·.2))=bD (.ok r))(d:isAny r.1=cK:=by show rfl):Run (ev Γ (.call f es)) st r st1:=ab a (ab (ba b) (ud c d))
def Ec(a:Run (bA Γ es) st rs st1)(b:bq rs st1)(c:Γ f (rs.map (·.2))=bD (.ok (k,u)))(d:rs.all (λr=>cc (r.1=.loc))=b6):Run (ev Γ (.JO f es)) st (if k=.any then .loc else k,u) st1:=ab a (ab (ba b) (by change pV Γ f rs st1=_;unfold pV;rw[Z6 d,c]))
def FW(b:Run (ev Γ a) st r st1)(c:Run (lift r) st1 u st2):Run (ev Γ (.Ir a)) st (.loc,u) st2:=ab b (ab c aY)
def eW(a:Run (bA Γ es) st rs st1)(b:bq rs st1)(c:Run (du rs) st1 us st2)(d:us.length<=df):Run (ev Γ (.tup es)) st (.loc,.tup us) st2:=by
 show ab a (ab (ba b) (ab c ?_));rw[Z6 d];show aY
def cp(a:Run (bA Γ es) st rs st1)(b:bq rs st1)(c:Run (du rs) st1 us st2)(d:us.length<=df):Run (ev Γ (.lst es)) st (.own,.lst us) st2:=by
 show ab a (ab (ba b) (ab c ?_));rw[Z6 d];show aY
def jl:Run (ev Γ (.Ji r)) st (.own,.Hn [] []) st:=rfl
def ql:Run (lift (.own,u)) st u st:=rfl
def aF:Run (lift (.loc,u)) st u st:=rfl
def jE(h:HM u=b6):Run (lift (.any,u)) st u st:=by
 change(if HM u=b6 then(pure u:M U) else M.fail) st=_;rw[Z6 h];rfl
def aH:Run (du []) st [] st:=rfl
def aB(a:Run (lift r) st u st1)(b:Run (du rs) st1 us st2):Run (du (r::rs)) st (u::us) st2:=ab a (ab b aY)
def Ed(d:Run (HH Γ c) st b6 st1)(e:Run (ev Γ a) st1 r st2):Run (ev Γ (.ite c a b)) st r st2:=ab d e
def Ee(d:Run (HH Γ c) st cK st1)(e:Run (ev Γ b) st1 r st2):Run (ev Γ (.ite c a b)) st r st2:=ab d e
def rZ(h:Run (ev Γ e) st r st1):Run (iE Γ [e]) st r st1:=h
def Ef(h:Run (ev Γ e) st (k,.bl p) st1)(a:if p=b6 then Run (iE Γ (b::es)) st1 r st2 else st2=st1/\r=(.loc,.bl cK)):Run (iE Γ (e::b::es)) st r st2:=by
 show ab h ?_;cases p with
 |true=>show a
 |false=>have⟨rfl,rfl⟩:=a;show aY
def yk(h:Run (iE Γ es) st r st1):Run (ev Γ (.and es)) st r st1:=h
def aS(d:Run (ev Γ a) st x st1)(e:Run (ev Γ b) st1 y st2)(f:bq [x,y] st2)(g:bO h x.2 y.2=bD c):Run (HH Γ (.cmp h a b)) st c st2:=ab d (ab e (ab (ba f) (cn g)))
def jF(h:Run (HH Γ a) st c st1):Run (HH Γ (.not a)) st (!c) st1:=ab h aY
def gG(h:Run (aL Γ es) st c st1):Run (HH Γ (.and es)) st c st1:=h
def Ba(h:Run (jz Γ es) st c st1):Run (HH Γ (.or es)) st c st1:=h
def d0:Run (aL Γ []) st b6 st:=rfl
def cD(h:Run (HH Γ e) st c st1):Run (aL Γ [e]) st c st1:=h
def ll(h:Run (HH Γ e) st b6 st1)(a:Run (aL Γ (b::es)) st1 c st2):Run (aL Γ (e::b::es)) st c st2:=ab h a
def r9(h:Run (HH Γ e) st cK st1):Run (aL Γ (e::a::es)) st cK st1:=ab h aY
def ue(h:Run (HH Γ e) st c st1):Run (jz Γ [e]) st c st1:=h
def qm(h:Run (HH Γ e) st cK st1)(a:Run (jz Γ (b::es)) st1 c st2):Run (jz Γ (e::b::es)) st c st2:=ab h a
def bb:Run (eJ i (.own,u)) st () (st.set i (bD (.own,u))):=rfl
def aI:Run (eJ i (.loc,u)) st () (st.set i (bD (.loc,u))):=rfl
def gH:Run (eJ i (.any,u)) st () (st.set i (bD (.any,u))):=rfl
def FX(a:Run (ev Γ e) st r st1)(b:Run (eJ i r) st1 () st2):Run (exec Γ (.set i e)) st .nx st2:=ab a (ab b aY)
def FY(b:∃k' c,st[i]?=bD (bD (k',.lst c))/\k'≠.Hl)(d:Run (ev Γ e) st r st1)(f:Run (lift r) st1 u st2)(g:st2[i]?=bD (bD (k,.lst us)))(hk:k.root=b6)(hl:us.length<df):
  Run (exec Γ (.app i e)) st .nx (st2.set i (bD (k,.lst (us++[u])))):=by
 have⟨k',c,b,h⟩:=b;show ab (dG b h) (ab (a:=()) (st1:=st) rfl (ab d (ab f (ab (a:=()) ?_ aY))));change modS i (xv u) st2=_;unfold modS;rw[g];simp only[hk,if_true];have e:xv u (.lst us)=bD (.lst (us++[u])):=by change(if us.length<df then _ else _)=_;rw[Z6 hl]
 rw[e]
def FZ(a:Run (ev Γ e) st r st1)(b:Run (retS r) st1 f st2):Run (exec Γ (.ret e)) st f st2:=ab a b
def gI:Run (retS (.own,u)) st (.rt .own u) st:=rfl
def eE:Run (retS (.loc,u)) st (.rt .loc u) st:=rfl
def iK(h:st[j]?=bD (bD (.own,u))):Run (retS (.bor j,a)) st (.rt .own u) (st.set j cb):=by
 change(match st[j]? with|some (bD (.own,u))=>bD (Ex.ok (Fl.rt .own u),st.set j cb)|_=>cb)=_;rw[h]
def oF(d:Run (HH Γ c) st b6 st1)(e:Run (execs Γ a) st1 f st2):Run (exec Γ (.ite c a b)) st f st2:=ab d e
def r_(d:Run (HH Γ c) st cK st1)(e:Run (execs Γ b) st1 f st2):Run (exec Γ (.ite c a b)) st f st2:=ab d e
def av:Run (execs Γ []) st .nx st:=rfl
def fH(a:Run (exec Γ s) st .nx st1)(b:Run (execs Γ c) st1 f st2):Run (execs Γ (s::c)) st f st2:=ab a b
def sd(a:Run (exec Γ s) st (.rt k u) st1):Run (execs Γ (s::b)) st (.rt k u) st1:=ab a aY
def az(a:Run (ev Γ e) st r st1)(b:Run (eJ i r) st1 () st2)(c:Run (execs Γ d) st2 f g):Run (execs Γ (.set i e::d)) st f g:=fH (FX a b) c
def fC(a:st[i]?=bD (bD (k',.lst m)))(b:Run (ev Γ e) st r st1)(c:Run (lift r) st1 u st2)(d:st2[i]?=bD (bD (k,.lst us)))(hk:k.root=b6)(hl:us.length<df)
  (g:Run (execs Γ h) (st2.set i (bD (k,.lst (us++[u])))) f j) (l:k'≠.Hl:=by intro z;cases z):Run (execs Γ (.app i e::h)) st f j:=fH (FY ⟨_,_,a,l⟩ b c d hk hl) g
def bF(a:Run (ev Γ e) st r st1)(b:Run (retS r) st1 (.rt k u) st2):Run (execs Γ (.ret e::c)) st (.rt k u) st2:=sd (FZ a b)
def d4(d:Run (HH Γ c) st b6 st1)(e:Run (execs Γ a) st1 .nx st2)(g:Run (execs Γ h) st2 f i):Run (execs Γ (.ite c a b::h)) st f i:=fH (oF d e) g
def bt(d:Run (HH Γ c) st cK st1)(e:Run (execs Γ b) st1 .nx st2)(g:Run (execs Γ h) st2 f i):Run (execs Γ (.ite c a b::h)) st f i:=fH (r_ d e) g
def oG(d:Run (HH Γ c) st b6 st1)(e:Run (execs Γ a) st1 (.rt k u) st2):Run (execs Γ (.ite c a b::f)) st (.rt k u) st2:=sd (oF d e)
def B1(a:Run (bA Γ src) st rs st1)(b:bq rs st1)(c:Ju ik rs=bD xs)(d:tH rs is body=b6)(e:Run (forM t is (execs Γ body) rs xs) st1 f st2):
  Run (exec Γ (.HC t is ik src body)) st f st2:=by
 show ab a (ab (ba b) (ab (cn c) ?_));rw[Z6 d];show e
def bX(a:Run (bA Γ src) st rs st1)(b:bq rs st1)(c:Ju ik rs=bD xs)(d:tH rs is body=b6)(e:Run (forM t is (execs Γ body) rs xs) st1 .nx st2)(g:Run (execs Γ h) st2 f i):
  Run (execs Γ (.HC t is ik src body::h)) st f i:=fH (B1 a b c d e) g
def B3(h:bq rs st):Run (forM t is body rs []) st .nx st:=ab (ba h) aY
def F0(h:bq rs st)(a:Run (dv t is x) st () st1)(b:Run body st1 .nx st2)(c:Run (forM t is body rs xs) st2 f d):Run (forM t is body rs (x::xs)) st f d:=ab (ba h) (ab a (ab b c))
def Hd(h:bq rs st)(a:Run (dv t is x) st () st1)(b:Run body st1 (.rt k u) st2):Run (forM t is body rs (x::xs)) st (.rt k u) st2:=ab (ba h) (ab a (ab b aY))
def d5(h:Run (eJ i r) st () st1):Run (dv cK [i] r) st () st1:=h
def bc(a:us.length=fn.np)(hk:k=.own\/k=.loc)(hs:start us fn.ns=st0)(h:Run (execs Γ fn.body) st0 (.rt k u) st):cY Γ fn us=bD (.ok (k,u)):=by
 subst hs;unfold cY;rw[Z6 a,show execs Γ fn.body (start us fn.ns)=_ from h];rcases hk with rfl|rfl<;>rfl
def uf{cond:M Bool}(h:bq src st):Run (bP k t cond elt src [] acc) st acc st:=ab (ba h) aY
def oH{cond:M Bool}(h:bq src st)(c:Run (dv t (hQ k) x) (i5 k cb++st) () s1)(d:Run cond s1 b6 s2)(e:Run elt s2 r s3)(g:Run (lift r) s3 u s4)
  (hl:acc.length<df) (i:Run (bP k t cond elt src xs (acc++[u])) (s4.drop k) us st2):Run (bP k t cond elt src (x::xs) acc) st us st2:=by
 show ab (ba h) (ab (a:=bD u) (st1:=s4.drop k) ?_ ?_)
 .change inScope k _ st=_;unfold inScope;have j:Run (dv t (hQ k) x >>= λ_=>cond >>= λb=>if b=b6 then(elt >>= λr=>lift r >>= λu=>pure (bD u)) else pure cb) (i5 k cb++st) (bD u) s4 :=
   ab c (ab d (show Run (elt >>= λr=>lift r >>= λu=>pure (bD u)) s2 (bD u) s4 from ab e (ab (f:=λu=>pure (bD u)) g rfl)))
  rw[show _=_ from j]
 .change Run (if acc.length<df then bP k t cond elt src xs (acc++[u]) else M.fail) _ _ _;rw[Z6 hl];show i
def yl{cond:M Bool}(h:bq src st)(c:Run (dv t (hQ k) x) (i5 k cb++st) () s1)(d:Run cond s1 cK s2)
  (e:Run (bP k t cond elt src xs acc) (s2.drop k) us st2):Run (bP k t cond elt src (x::xs) acc) st us st2:=by
 show ab (ba h) (ab (a:=cb) (st1:=s2.drop k) ?_ e);change inScope k _ st=_;unfold inScope;have f:Run (dv t (hQ k) x >>= λ_=>cond >>= λb=>if b=b6 then(elt >>= λr=>lift r >>= λu=>pure (bD u)) else pure cb) (i5 k cb++st) cb s2 :=
  ab c (ab d (show Run (pure cb:M (Option U)) s2 cb s2 from rfl))
 rw[show _=_ from f]
def bH{src cond:List E}(a:Run (bA Γ src) st rs st1)(b:bq rs st1)(c:Ju ik rs=bD xs)(d:Run (bP k t (aL Γ cond) (ev Γ e) rs xs []) st1 us st2):Run (ev Γ (.comp k t ik src cond e)) st (.own,.lst us) st2 :=
 ab a (ab (ba b) (ab (cn c) (ab d aY)))
end
section
def se(c:Run (bA Γ es) st rs st1)(d:bq (rs.map (d8 st1)) st1)(e:Γ f ((rs.map (d8 st1)).map (·.2))=bD (.ok (k,.tup (u::ws))))(hk:k=.own\/k=.loc)(a:pX (rs.map (d8 st1)) is=b6)(b:gE (rs.map (d8 st1)) is ws st1=bD st2):
  Run (ev Γ (.Ho f es is)) st (k,u) st2:=by
 have g:Run (bA Γ es >>= Ai) st (rs.map (d8 st1)) st1:=ab c (show Run (Ai rs) st1 (rs.map (d8 st1)) st1 from rfl);show ab g (ab (ba d) ?_);change pY Γ f _ is st1=_;unfold pY;rw[e];rcases hk with rfl|rfl
 .change(if _ then _ else _)=_;rw[Z6 a,b]
 .change(if _ then _ else _)=_;rw[Z6 a,b]
def F2(h:st[i]?=bD (bD (k,.lst us)))(hk:k.root=b6)(a:us[us.length - 1]?=bD u):Run (ev Γ (.pop i)) st (.loc,u) (st.set i (bD (k,.lst us.dropLast))):=by
 change xr i st=_;unfold xr;rw[h];change(if _ then _ else _)=_;rw[Z6 hk,a]
def Eg(b:st[i]?=bD (bD (k0,.lst us0)))(c:k0≠.Hl)(d:Run (ev Γ e) st (l,.int j) st1)(h:st1[i]?=bD (bD (k,.lst us)))(hk:k.root=b6)(j0:0<=j)(f:j<1000000)(g:us[j.toNat]?=bD u):Run (ev Γ (.J8 i e)) st (.loc,u) (st1.set i (bD (k,.lst (us.eraseIdx j.toNat)))):=by
 show ab (dG b c) (ab (a:=()) (st1:=st) rfl (ab d ?_));change vm i (.int j) st1=_;unfold vm
 dsimp only
 rw[h];change(if _ then _ else _)=_;rw[Z6 ⟨hk,j0,f⟩,g]
def cq(a:us.length=fn.np)(hs:cZ is us fn.ns=st0)(h:Run (execs Γ body) st0 f st)(b:PY f=bD (k,u))(c:MU is st=bD ws):gv Γ fn is body us=bD (.ok (k,.tup (u::ws))):=by
 subst hs;unfold gv;rw[Z6 a,show execs Γ body (cZ is us fn.ns)=_ from h];change(PY f).bind _=_;rw[b];change(MU is st).map _=_;rw[c];rfl
end
abbrev HR(Pg:List Fn)(f:Str)(fn:Fn):Prop:=(Pg.find? λg=>cc (g.name=f))=bD fn
section
def aJ(h:HR Pg f fn)(us:List U)(a:fn.io=cb:=by rfl):HA Pg (d+1) f us=cY (HA Pg d) fn us:=by
 change(match Pg.find? λg=>cc (g.name=f) with|some fn=>jd (HA Pg d) fn us|none=>cb)=_;rw[show _=bD fn from h];change jd _ _ _=_;unfold jd;rw[a]
def cT(h:HR Pg f fn)(us:List U)(a:fn.io=bD (is,b)):HA Pg (d+1) f us=gv (HA Pg d) fn is b us:=by
 change(match Pg.find? λg=>cc (g.name=f) with|some fn=>jd (HA Pg d) fn us|none=>cb)=_;rw[show _=bD fn from h];change jd _ _ _=_;unfold jd;rw[a]
end
def eF(h:0<j):Kl .mod (k,.int i) (k',.int j)=bD (.loc,.int (i % j)):=by change(Ad i j).map _=_;rw[Ad,Z6 h];rfl
def lp(h:0<j/\j<1073741824):Kl .MP (k,.int i) (k',.int j)=bD (.loc,.int (i / j)):=by change(Ac i j).map _=_;rw[Ac,Z6 h];rfl
def kf(h:(-(2 ^ 64)<i/\i<2 ^ 64)\/(-(2 ^ 64)<j/\j<2 ^ 64)):Kl .mul (k,.int i) (k',.int j)=bD (.loc,.int (i * j)):=by change(Ab i j).map _=_;rw[Ab,Z6 h];rfl
def nG(h:0<=j/\j<=1000000/\i.natAbs<2 ^ 64):Kl .pow (k,.int i) (k',.int j)=bD (.loc,.int (i ^ j.toNat)):=by change(Ae i j).map _=_;rw[Ae,Z6 h];rfl
def cB:Kl .add (k,.int i) (k',.int j)=bD (.loc,.int (i+j)):=rfl
def cE(h:Iv xs i=bD u):gY (k,.lst xs) (.int i)=bD (kE k,u):=by change(Iv xs i).map _=_;rw[h];rfl
def dc(h:Iv xs i=bD u):gY (k,.tup xs) (.int i)=bD (kE k,u):=by change(Iv xs i).map _=_;rw[h];rfl
local macro_rules
 |`(tactic| sizeOf_list_dec)=>`(tactic| first|exact av|apply az|apply fC|apply bF|exact ai|exact ae rfl|exact aC rfl|exact aA rfl|apply bE|apply gF|apply aZ|apply cy|apply a_|apply yj|apply aS|exact af|apply aa|apply eW|apply cp|exact aH|apply aB|exact aF|exact ql|(first|exact trivial|exact⟨⟨_,rfl,rfl⟩,trivial⟩|exact⟨⟨_,rfl,rfl⟩,⟨_,rfl,rfl⟩,trivial⟩)|exact cB|exact qS|exact eF (by first|lia|decide)|exact lp (by first|lia|decide)|exact kf (by first|lia|decide)|exact nG (by decide)|exact aI|exact bb|exact gH|exact eE|exact gI|exact iK rfl|exact i8 _|exact rfl|exact LX)
def B4(h:cc (i<j)=c):bO .lt (.int i) (.int j)=bD c:=by subst h;rfl
def jG(h:cc (j<i)=c):bO .gt (.int i) (.int j)=bD c:=by subst h;rfl
def bV(h:(i==j)=c):bO .eq (.int i) (.int j)=bD c:=by subst h;rfl
def b8:JI .len [(k,.lst xs)]=bD (.loc,.int (xs.length:Nat)):=rfl
def oI:JI .len [(k,.tup xs)]=bD (.loc,.int (xs.length:Nat)):=rfl
def ym(x:Kd×U):Ju .IG [x]=xp x:=rfl
def ic(h:n<2 ^ 62):Ju .IG [(k,.int (n:Nat))]=bD ((hQ n).map λi:Nat=>(Kd.loc,U.int (0+(i:Int)))):=by
 rw[ym,xp,Z6 ⋯,OD]
end TM
local macro_rules
 |`(tactic| sizeOf_list_dec)=>`(tactic| first|exact TM.av|apply TM.az|apply TM.fC|apply TM.bF|exact TM.ai|exact TM.ae rfl|exact TM.aC rfl|exact TM.aA rfl|apply TM.bE|apply TM.gF|apply TM.aZ|apply TM.cy|apply TM.a_|apply TM.yj|apply TM.aS|exact TM.af|apply TM.aa|apply TM.eW|apply TM.cp|exact TM.aH|apply TM.aB|exact TM.aF|exact TM.ql|(first|exact trivial|exact⟨⟨_,rfl,rfl⟩,trivial⟩|exact⟨⟨_,rfl,rfl⟩,⟨_,rfl,rfl⟩,trivial⟩)|exact TM.cB|exact TM.qS|exact TM.eF (by first|lia|decide)|exact TM.lp (by first|lia|decide)|exact TM.kf (by first|lia|decide)|exact TM.nG (by decide)|exact TM.aI|exact TM.bb|exact TM.gH|exact TM.eE|exact TM.gI|exact TM.iK rfl|exact i8 _|exact rfl|exact TM.LX)
namespace HN
open PySem L2
def len_list(x:Str):x.length=x.cps.toList.length:=by simp[ZX]
def vK(a:0<=k)(b:k<=99):(wK k).length<=2:=by
 have⟨m,rfl⟩:=vl a;have c:m<100:=by lia
 clear a b;revert m;decide +kernel
theorem fD:∀(ps:List Str) (acc:Array Nat),(ps.foldl (λacc p=>acc++tr.cps++p.cps) acc).toList=acc.toList++(ps.map λp=>p.cps.toList).flatten
 |[],acc=>by simp
 |p::ps,acc=>by
  rw[RC,fD ps];have:tr.cps=#[]:=rfl;simp[this]
def join_list(ts:List Str):(Sq tr ts).cps.toList=(ts.map λp=>p.cps.toList).flatten:=by
 cases ts with
 |nil=>rfl
 |cons t ts =>
  change(ts.foldl (λacc p=>acc++tr.cps++p.cps) t.cps).toList=_;rw[fD];simp
abbrev one(c:Nat):Str:=⟨#[c]⟩
def join_ones(a:List Nat):(Sq tr (a.map one)).cps.toList=a:=by
 rw[join_list,hh];induction a with
 |nil=>rfl
 |cons c a b=>rw[eh,Oq,b];rfl
def qo(a:List Nat)(h:a.length<=100):Y6 tr (a.map one)=b6:=by
 unfold Y6;have e:=PySem.StrLaws.joinTotal tr (a.map one);have b:tr.length=0:=rfl;have es:((a.map one).map (·.length)).sum=a.length:=by
  rw[hh];clear h e;induction a with
  |nil=>rfl
  |cons c a d=>rw[eh,List.sum_cons,d];change 1+a.length=a.length+1;lia
 rw[e,b,es];have f:a.length+(a.map one).length * 0<=100:=by lia
 revert f;generalize a.length+(a.map one).length * 0=m;revert m;decide
def Eh(x:Str)(j:Nat):(PySem.StrLaws.sliceText x cb (bD (j:Int))).cps.toList=x.cps.toList.take j:=by
 by_cases h:j<=x.cps.toList.length
 .rw[PySem.StrLaws.sliceText_to (x:=x) ⟨⋯,⋯⟩];simp
 .have e:PySem.StrLaws.sliceText x cb (bD (j:Int))=PySem.StrLaws.sliceText x cb (bD (x.length:Int)):=by
   unfold PySem.StrLaws.sliceText;have hl:=len_list x;have:PySem.Builtin.Str.strSliceIndices cb (bD (j:Int)) 1 x.length=PySem.Builtin.Str.strSliceIndices cb (bD (x.length:Int)) 1 x.length:=by
    have a:¬((j:Int)<0):=by lia
    have b:¬((x.length:Int)<0):=by lia
    have c:min (j:Int) (x.length:Int)=x.length:=by lia
    simp[PySem.Builtin.Str.strSliceIndices,a,b,c]
   rw[this]
  have hl:=len_list x;rw[e,PySem.StrLaws.sliceText_to (x:=x) ⟨⋯,⋯⟩,List.drop_zero,Oc (l:=x.cps.toList) (i:=j) ⋯];change(x.cps.toList.take ((x.length:Int) - 0).toNat).toArray.toList=_;rw[Oc ⋯]
abbrev small:Str:="abcdefghijklmnopqrstuvwxyz"
theorem bY [DecidableEq α]:∀{l m:List α},l.Nodup->(∀x∈l,x∈m)->l.length<=m.length
 |[],_,_,_=>i8 _
 |x::l,m,c,h=>by
  have⟨d,e⟩:=l0.mp c;have a:=h x ri;have f:=bY (l:=l) (m:=m.erase x) e λy b=>(XE (by rintro rfl;show d b)).mpr (h y (ti _ b));rw[WL a]at f;have:0<m.length:=W_ a;rw[ke];lia
end HN
namespace TM
open PySem L2 HN
def nN(a:x.length<=df)(h:Iv x.cps.toList i=bD c):gY (k,.str x) (.int i)=bD (.loc,.str (HN.one c)):=by
 simp only[gY];rw[Z6 a,h];rfl
def qp:small.length<=df:=by decide
theorem dO:∀(a:List Str),strsOf (a.map U.str)=bD a
 |[]=>rfl
 |s::a=>by change(strsOf (a.map U.str)).map (s::·)=_;rw[dO a];rfl
section
def oJ(h:x.length+y.length<=df):Kl .add (k,.str x) (k',.str y)=bD (.loc,.str (x++y)):=by
 simp only[Kl,xo];rw[Z6 h]
theorem eX:∀(a:List Str) (n:Nat),dr n (a.map U.str)=b6
 |[],n=>by simp[dr]
 |s::a,n=>by simp only[eh,dr,eX a n,Zb];cases n<;>rfl
theorem qq(x:Str):∀(a:List Str),((a.map U.str).any λy=>cI y (.str x))=cc (x∈a)
 |[]=>by simp
 |s::a=>by
  rw[eh,Tj,qq x a];have:cI (.str s) (.str x)=cc (x=s):=by
   simp only[cI];by_cases h:x=s
   .subst h;simp
   .have h':s≠x:=λz=>h z.symm;simp[h,h']
  rw[this,Jk];simp
def Bb(x:Str)(a:List Str):MS (.str x) (a.map U.str)=bD (cc (x∈a)):=by
 unfold MS;rw[Z6 ⟨by rfl,eX a 50⟩,qq]
def eY{x:Str}{a:List Str}:bO .Hz (.str x) (.lst (a.map U.str))=bD (cc (x∉a)):=by
 change(MS (.str x) (a.map U.str)).map (!·)=_;rw[Bb];simp
end
section
end
def gJ(h:Run (ev Γ j) st rv st1)(l:st1[i]?=bD (bD (k',u')))(m:Run (ev Γ n) st1 rk st2)(o:Run (du [rv,rk]) st2 [c,d] b)(p:b[i]?=bD (bD (k,e)))(hk:k.root=b6)(q:d9 d c e=bD g)
  (r:Run (execs Γ s) (b.set i (bD (k,g))) f t) (u:k'≠.Hl:=by intro z;cases z):Run (execs Γ (.put i n j::s)) st f t:=by
 show fH (ab h (ab (dG l u) (ab m (ab o (ab (a:=()) (st1:=b.set i (bD (k,g))) ?_ aY))))) r;change modS i (tF [c,d]) b=_;unfold modS;rw[p];simp only[hk,if_true];change(match d9 d c e with|some u'=>_|none=>cb)=_;rw[q]
@[reducible]def Row:=Str×List Str
abbrev A'(r:Row):U:=.tup [.str r.1,.tup (r.2.map .str)]
abbrev keyOf(r:Row):Row:=(r.1,aK r.2)
def sorted_strs(h:a.length<64):JI .sorted [(k,.tup (a.map .str))]=bD (.own,.lst ((aK a).map .str)):=by
 change(strsOf (a.map U.str)).bind _=_;rw[dO];change(if a.length<64 then _ else _)=_;rw[Z6 h]
structure mY(names:List Str)(r:Row):Prop where
 word:r.1∈names
 KU:r.2.length<=8
 once:r.2.Nodup
 told:∀x∈r.2,x∈names
section
def mZ(h:Run (execs Γ (a++i)) st f st2):(∃s1,Run (execs Γ a) st .nx s1/\Run (execs Γ i) s1 f st2)\/(Run (execs Γ a) st f st2/\f≠.nx):=by
 induction a generalizing st with
 |nil=>show .inl ⟨st,av,h⟩
 |cons s a j =>
  have h':M.bind (exec Γ s) (λf=>match f with|.nx=>execs Γ (a++i)|f=>pure f) st=bD (.ok f,st2):=h;unfold M.bind at h';cases e:exec Γ s st with
  |none=>rw[e]at h';cases h'
  |some p =>
   have⟨x,s1⟩:=p;rw[e]at h';cases x with
   |exc c=>cases h'
   |ok g =>
    cases g with
    |nx =>
     rcases j h' with⟨s2,b,d⟩|⟨b,d⟩
     .show .inl ⟨s2,fH e b,d⟩
     .show .inr ⟨fH e b,d⟩
    |rt k u=>cases h';show .inr ⟨sd e,λz=>nomatch z⟩
    |bk=>cases h';show .inr ⟨ab (show Run (exec Γ s) st Fl.bk _ from e) aY,λz=>nomatch z⟩
    |ct=>cases h';show .inr ⟨ab (show Run (exec Γ s) st Fl.ct _ from e) aY,λz=>nomatch z⟩
def F3(a:Run (exec Γ s) st f st1)(b:f≠.nx):Run (execs Γ (s::c)) st f st1:=by
 cases f with
 |nx=>show absurd rfl b
 |rt k u=>show sd a
 |_=>show ab a aY
def lq(g:Run (HH Γ c) st p st1)(i:p=b6->Run (execs Γ (a++h)) st1 f st2)(j:p=cK->Run (execs Γ (b++h)) st1 f st2):Run (execs Γ (.ite c a b::h)) st f st2:=by
 cases p with
 |true =>
  rcases mZ (i rfl) with⟨s1,d,e⟩|⟨d,e⟩
  .show fH (oF g d) e
  .show F3 (oF g d) e
 |false =>
  rcases mZ (j rfl) with⟨s1,d,e⟩|⟨d,e⟩
  .show fH (r_ g d) e
  .show F3 (r_ g d) e
def sg(h:Run (ev Γ e) st (k,.bl p) st)(a:p=b6->Run (iE Γ (b::es)) st (.loc,.bl q) st):Run (iE Γ (e::b::es)) st (.loc,.bl (p&&q)) st:=by
 show Ef h ?_;cases p with
 |true=>rw[Z6 rfl];show a rfl
 |false=>rw[Z7 i6];show⟨rfl,rfl⟩
def lr(h:Run (HH Γ e) st p st)(a:p=b6->Run (aL Γ (b::es)) st q st):Run (aL Γ (e::b::es)) st (p&&q) st:=by
 cases p with
 |true=>show ll h (a rfl)
 |false=>show r9 h
theorem c7{cond:M Bool}(h:bq src st)(k:Kd)(hk:k=.loc\/k=.any)(a g:α->U)(c:Kd)(d:∀y,Run cond (bD (k,a y)::st) b6 (bD (k,a y)::st)):∀(b:List α) (acc:List U),acc.length+b.length<=df ->
  (∀y∈b,Run elt (bD (k,a y)::st) (c,g y) (bD (k,a y)::st)/\Run (lift (c,g y)) (bD (k,a y)::st) (g y) (bD (k,a y)::st))->Run (bP 1 cK cond elt src (b.map λy=>(k,a y)) acc) st (acc++b.map g) st
 |[],acc,_,_=>by rw[JL,JL,rr];show uf h
 |y::b,acc,hl,e=>by
  have⟨f,i⟩:=e y (by simp);rw[ke]at hl;show oH (s1:=bD (k,a y)::st) (s2:=bD (k,a y)::st) (s3:=bD (k,a y)::st) (s4:=bD (k,a y)::st) h ?_ (d y) f i ⋯ ?_
  .rcases hk with rfl|rfl
   .show d5 aI
   .show d5 gH
  .have:=c7 h k hk a g c d b (acc++[g y]) (by simp;lia) λz hz=>e z (by simp[hz]);rw[eh];simpa using this
theorem fV{cond:M Bool}(h:bq src st)(k:Kd)(hk:k=.loc\/k=.any)(a g:α->U)(p:α->Bool)(d:Kd):∀(b:List α) (acc:List U),acc.length+b.length<=df ->
  (∀y∈b,Run cond (bD (k,a y)::st) (p y) (bD (k,a y)::st)/\(p y=b6->Run elt (bD (k,a y)::st) (d,g y) (bD (k,a y)::st)/\Run (lift (d,g y)) (bD (k,a y)::st) (g y) (bD (k,a y)::st)))->Run (bP 1 cK cond elt src (b.map λy=>(k,a y)) acc) st (acc++(b.filter p).map g) st
 |[],acc,_,_=>by rw[JL,PH,JL,rr];show uf h
 |y::b,acc,hl,f=>by
  have⟨e,j⟩:=f y (by simp);rw[ke]at hl;have i:Run (dv cK (hQ 1) (k,a y)) (i5 1 cb++st) () (bD (k,a y)::st):=by
   rcases hk with rfl|rfl
   .show d5 aI
   .show d5 gH
  cases c:p y with
  |true =>
   rw[c]at e;have⟨l,m⟩:=j c;show oH (s1:=bD (k,a y)::st) (s2:=bD (k,a y)::st) (s3:=bD (k,a y)::st) (s4:=bD (k,a y)::st) h i e l m ⋯ ?_;have:=fV h k hk a g p d b (acc++[g y]) (by simp;lia) λz hz=>f z (by simp[hz]);rw[p5,Z6 c,eh];simpa using this
  |false =>
   rw[c]at e;show yl (s1:=bD (k,a y)::st) (s2:=bD (k,a y)::st) h i e ?_;have:=fV h k hk a g p d b acc ⋯ λz hz=>f z (by simp[hz]);rw[p5,Z7 (by simp[c])];show this
theorem bu(it:α->Kd×U)(I:List α->List α->au->Prop)(hs:∀d r st,I d r st->bq rs st)
  (YD:∀d y r st,I d (y::r) st->∃st1 st2,Run (dv t is (it y)) st () st1/\Run body st1 .nx st2/\I (d++[y]) r st2):∀(r d:List α) (st:au),I d r st->∃st',Run (forM t is body rs (r.map it)) st .nx st'/\I (d++r) [] st'
 |[],d,st,h=>⟨st,B3 (hs _ _ _ h),by rw[rr];show h⟩
 |y::r,d,st,h=>by
  have⟨s1,s2,a,b,c⟩:=YD d y r st h;have⟨s3,e,f⟩:=bu it I hs YD r (d++[y]) s2 c;show⟨s3,F0 (hs _ _ _ h) a b e,by simpa using f⟩
def si(a:Run (bA Γ es) st rs st1)(c:bq rs st1)(d:Γ f (rs.map (·.2))=bD (.ok r))(e:rq r.2=bD b)(g:isAny r.1=cK:=by show rfl):Run (HH Γ (.call f es)) st b st1:=ab a (ab (ba c) (ab (ud d g) (cn e)))
def He(a:Run (bA Γ es) st rs st1)(c:bq rs st1)(d:JI f rs=bD r)(e:rq r.2=bD b):Run (HH Γ (.bi f es)) st b st1:=ab a (ab (ba c) (ab (cn d) (cn e)))
def sj(h:Run (ev Γ (.bi f es)) st (k,.bl b) st1):Run (HH Γ (.bi f es)) st b st1:=by
 have h':(bA Γ es >>= λrs=>aE rs >>= λ_=>M.HG (JI f rs)) st=bD (.ok (k,.bl b),st1):=h;obtain⟨rs,s1,c,d,s2,e,r,s3,g,i⟩:∃rs s1,bA Γ es st=bD (.ok rs,s1)/\∃(a:Unit) (s2:au),aE rs s1=bD (.ok a,s2)/\∃r s3,M.HG (JI f rs) s2=bD (.ok r,s3)/\(r,s3)=((k,U.bl b),st1):=by
  have w:W (bA Γ es >>= λrs=>aE rs >>= λ_=>M.HG (JI f rs)) st λr s=>(r,s)=((k,U.bl b),st1):=⟨_,_,h',rfl⟩
  rw[ah]at w;have⟨rs,s1,c,w⟩:=w;rw[ah]at w;have⟨a,s2,d,w⟩:=w;have⟨r,s3,e,w⟩:=w;show⟨rs,s1,c,a,s2,d,r,s3,e,w⟩
 cases i;show ab c (ab (a:=d) e (ab g (cn rfl)))
def ug(c:st[i]?=bD (bD (k',.lst o)))(d:Run (ev Γ e) st r st1)(g:st1[i]?=bD (bD (k,.lst us)))(hk:k.root=b6)(h:kU r (.lst us)=bD (.lst b))
  (j:Run (execs Γ l) (st1.set i (bD (k,.lst b))) f m) (n:k'≠.Hl:=by intro z;cases z):Run (execs Γ (.ext i e::l)) st f m:=by
 show fH (ab (dG c n) (ab (a:=()) (st1:=st) rfl (ab d (ab (a:=()) (st1:=st1.set i (bD (k,.lst b))) ?_ aY)))) j;change modS i (kU r) st1=_;unfold modS;rw[g];simp only[hk,if_true];rw[h]
end
def Bc(h:xs.length+a.length<=df)(hs:fQ k a=b6):kU (k,.tup a) (.lst xs)=bD (.lst (xs++a)):=by
 change(if xs.length+a.length<=df/\fQ k a=b6 then _ else _)=_;rw[Z6 ⟨h,hs⟩]
def oK(h:xs.length+a.length<=df)(hs:fQ k a=b6):kU (k,.lst a) (.lst xs)=bD (.lst (xs++a)):=by
 change(if xs.length+a.length<=df/\fQ k a=b6 then _ else _)=_;rw[Z6 ⟨h,hs⟩]
theorem jm:∀a:List Str,cC (a.map U.str)=b6
 |[]=>by simp[cC]
 |s::a=>by simp[cC,HM,jm a]
def uh(r:Row):HM (A' r)=b6:=by simp[A',HM,cC,jm]
theorem bJ:∀rs:List Row,cC (rs.map A')=b6
 |[]=>by simp[cC]
 |r::rs=>by simp[cC,uh,bJ rs]
theorem lu:∀(a b:List Str),cX (a.map U.str) (b.map U.str)=cc (a=b)
 |[],[]=>by simp[cX]
 |[],_::_=>by simp[cX]
 |_::_,[]=>by simp[cX]
 |x::a,y::b=>by
  rw[eh,eh,cX,lu a b];simp only[cI];by_cases h:x=y
  .subst h;simp
  .simp[h]
def lx(a:List Str)(n:Nat):Jg (n+1) (.lst (a.map U.str))=b6:=by simp[Jg,eX]
def ly{a b:List Str}:bO .eq (.lst (a.map U.str)) (.lst (b.map U.str))=bD (cc (a=b)):=by
 simp only[bO];rw[Z6 ⟨lx a 49,lx b 49⟩];simp only[cI,lu]
def oM:bO .eq (.str a) (.str b)=bD (cc (a=b)):=by
 simp only[bO];rw[Z6 ⟨rfl,rfl⟩];simp only[cI];by_cases h:a=b
 .subst h;simp
 .simp[h]
def Bd(f:α->β)(xs:List α)(lo a:Option Int):cut (xs.map f) lo a=(cut xs lo a).map f:=by simp[cut,Y_,Y']
def Be(xs:List α)(lo a:Option Int):(cut xs lo a).length<=xs.length:=by simp[cut];lia
def yn(h:fQ k (a.map U.int)=b6):pT (k,.lst (a.map .int)) lo b=bD (.own,.lst ((cut a lo b).map .int)):=by
 simp only[pT];rw[Z6 h,Bd]
def qr(h:acc.length<4000)(a:(ay acc).length<64):pU .sset [(k,.lst (acc.map .str))]=bD (.own,.lst ((aK (ay acc)).map .str)):=by
 have e:fF (.lst (acc.map U.str))=bD (ay acc):=by
  change(strsOf (acc.map U.str)).bind _=_;rw[dO];change(if acc.length+1<Hw then _ else _)=_;rw[Z6 (by change acc.length+1<4096;lia)]
 change(fF (.lst (acc.map U.str))).bind _=_;rw[e];change(if (ay acc).length<64 then _ else _)=_;rw[Z6 a]
def lz(l:List Str):(aK (ay l)).Nodup:=(bL _).nodup_iff.mpr (aX l)
def Ei(l:List Str)(x:Str):x∈aK (ay l)↔x∈l:=by rw[(bL _).mem_iff,aN]
def yo{l names:List Str}(h:∀x∈l,x∈names):(ay l).length<=names.length:=bY (aX l) λx a=>h x ((aN l x).mp a)
section
end
section
def B5(c:Run (ev Γ a) st x st1)(d:oo x.2 T=bD b):Run (ev Γ (.KD a T)) st (.loc,.bl b) st1:=ab c (ab (cn d) aY)
def B6(c:Run (ev Γ a) st x st1)(d:oo x.2 T=bD b):Run (HH Γ (.KD a T)) st b st1:=ab c (cn d)
end
def yp(h:xs.length+a.length<=df)(b:fQ k xs=b6)(c:fQ k' a=b6):Kl .add (k,.lst xs) (k',.lst a)=bD (.own,.lst (xs++a)):=by
 simp only[Kl,xo];rw[Z6 ⟨h,b,c⟩]
abbrev cF(rows:List Row):List Str:=(rows.map λr=>r.1::r.2).flatten
abbrev aw(rows:List Row):List Str:=aK (ay (cF rows))
def qt(d:List Row)(y:Row):cF (d++[y])=cF d++[y.1]++y.2:=by simp[cF]
def bM:x∈cF rows↔∃r∈rows,x=r.1\/x∈r.2:=by
 simp only[cF,List.mem_flatten,js];constructor
 .rintro⟨l,⟨r,a,rfl⟩,b⟩;show⟨r,a,gj.mp b⟩
 .rintro⟨r,a,b⟩;show⟨_,⟨r,a,rfl⟩,gj.mpr b⟩
def iL(h:∀r∈rows,mY names r):∀x∈cF rows,x∈names:=by
 intro x hx;have⟨r,a,hx⟩:=bM.mp hx;rcases hx with rfl|hx
 .show(h r a).word
 .show(h r a).told x hx
def lA(h:∀r∈rows,r.2.length<=8):(cF rows).length<=9 * rows.length:=by
 induction rows with
 |nil=>simp[cF]
 |cons r rows a =>
  have c:=h r (by simp);have b:=a λs hs=>h s (by simp[hs]);simp only[cF,eh,Oq,i0,ke]at b ⊢;lia
def bW:x∈aw rows↔x∈cF rows:=Ei _ _
def c8(rows:List Row):(aw rows).Nodup:=lz _
def cO(h:∀r∈rows,mY names r):(aw rows).length<=names.length:=by
 change(aK (ay (cF rows))).length<=_;rw[cv];show yo (iL h)
abbrev oN:Fn:=⟨"words_of",1,3,[.set 1 (.lst []),.HC cK [2] .seq [.var 0] [.app 1 (.idx (.var 2) (.cst (.int 0))),.ext 1 (.idx (.var 2) (.cst (.int 1)))],.ret (.Lx .sset [.var 1])]⟩
def dM(hl:rows.length<=120)(c:∀r∈rows,mY names r)(n:names.length<64):cY Γ oN [.tup (rows.map A')]=bD (.ok (.own,.lst ((aw rows).map .str))):=by
 have hsz:(4000:Nat)<=df:=by decide
 have f:TM.start [.tup (rows.map A')] 3=[bD (.loc,.tup (rows.map A')),cb,cb]:=by simp[TM.start,HM,bJ]
 have b:∀r∈rows,r.2.length<=8:=λr h=>(c r h).KU;obtain⟨st',g,_,o2,e⟩:=bu (t:=cK) (is:=[2]) (body:=execs Γ [.app 1 (.idx (.var 2) (.cst (.int 0))),.ext 1 (.idx (.var 2) (.cst (.int 1)))]) (rs:=[(.loc,.tup (rows.map A'))]) (λr:Row=>(Kd.loc,A' r))
  (λd r st=>d++r=rows/\∃o2,st=[bD (.loc,.tup (rows.map A')),bD (.own,.lst ((cF d).map .str)),o2]) (λ_ _ _ _=>trivial) (λd y r st i=>by
   have⟨a,o2,e⟩:=i;subst e;have j:y∈rows:=by rw[<-a];simp
   have o:=lA (rows:=d) λs hs=>b s (by rw[<-a];simp[hs]);have l:d.length<=120:=by have:=Z_ HU a;simp at this;lia
   have p:=b y j;show⟨[bD (.loc,.tup (rows.map A')),bD (.own,.lst ((cF d).map .str)),bD (.loc,A' y)],[bD (.loc,.tup (rows.map A')),bD (.own,.lst ((cF d).map .str++[.str y.1]++y.2.map .str)),bD (.loc,A' y)],d5 aI,?_,by rw[<-a];simp,bD (.loc,A' y),?_⟩
   .show fC (k:=.own) (k':=.own) (r:=(.loc,.str y.1)) rfl (aZ (x:=(.loc,A' y)) (ae rfl) ai trivial rfl) aF rfl rfl (by rw[c2];lia)
     (ug (k:=.own) rfl (aZ (x:=(.loc,A' y)) (ae rfl) ai trivial rfl) rfl rfl (Bc (by simp;lia) rfl) av)
   .rw[qt];simp) rows [] [bD (.loc,.tup (rows.map A')),bD (.own,.lst []),cb] ⟨rfl,cb,rfl⟩
 subst e;have m:(rows.map A').map (λu=>(kE .loc,u))=rows.map λr=>(Kd.loc,A' r):=by rw[hh];rfl
 have q:=lA b;have l:=yo (iL c);show bc rfl (.inl rfl) f (az (r:=(.own,.lst [])) (cp af trivial aH (i8 _)) bb (bX (rs:=[(.loc,.tup (rows.map A'))]) (aa (ae rfl) af) trivial rfl rfl (by rw[m];show g) (bF (uc (aa (aA rfl) af) ⟨⟨.own,rfl,rfl⟩,trivial⟩ (qr ⋯ ⋯)) gI)))
def ui(h:ks.length<1000):d9 (.str x) u (.Hn ks us)=bD (.Hn (dput ks us x u).1 (dput ks us x u).2):=by
 have hsz:(1000:Nat)<=df:=by decide
 change(if ks.length<df then _ else _)=_;rw[Z6 ⋯]
end TM
namespace Od
section
variable{W:Type}[DecidableEq W]{rows:List (W×List W)}
abbrev fW(rows:List (W×List W))(C:W->Prop):Prop:=∀r∈rows,(∀x∈r.2,C x)->C r.1
abbrev OY(rows:List (W×List W))(K:List W):Prop:=∀C:W->Prop,fW rows C->∀x∈K,C x
def same(a:K.Nodup)(b:L.Nodup)(sK:OY rows K)(c:OY rows L)(d:fW rows (·∈K))(e:fW rows (·∈L)):K.Perm L :=
 (vu a b).mpr λx=>⟨λh=>sK _ e x h,λh=>c _ d x h⟩
abbrev told(rows:List (W×List W))(p:Nat):List W:=match rows[p]? with
 |some r=>r.2
 |none=>[]
def j3(h:rows[p]?=bD r):told rows p=r.2:=by unfold told;rw[h]
abbrev sk(K l:List W):Nat:=(l.filter λx=>cc (x∉K)).length
abbrev cnt(rows:List (W×List W))(K:List W)(p:Nat):Nat:=sk K (told rows p)
def vL{K l:List W}:sk K l=0↔∀x∈l,x∈K:=by
 unfold sk;rw[Q1,HF];constructor
 .intro h x a;have:=h x a;simpa using this
 .intro h x a;simpa using h x a
theorem qu(f:w∉K):∀{l:List W},l.Nodup->sk (K++[w]) l+(if w∈l then 1 else 0)=sk K l
 |[],_=>rfl
 |x::l,h=>by
  have⟨g,i⟩:=l0.mp h;have d:=qu f i;unfold sk at d ⊢;by_cases e:x=w
  .subst e;have a:cc (x∉K++[x])≠b6:=by simp
   have b:cc (x∉K)=b6:=Z9 f;rw[N4 (p:=λy=>cc (y∉K++[x])) a,N1 (p:=λy=>cc (y∉K)) b,ke,Z6 (ri ..)];rw[Z7 g]at d;lia
  .have j:w≠x:=λz=>e z.symm;have k:(if w∈x::l then 1 else 0)=if w∈l then 1 else 0:=by simp[j]
   rw[k];by_cases c:x∈K
   .have a:cc (x∉K++[w])≠b6:=by simp[c]
    have b:cc (x∉K)≠b6:=by simp[c]
    rw[N4 (p:=λy=>cc (y∉K++[w])) a,N4 (p:=λy=>cc (y∉K)) b];show d
   .have a:cc (x∉K++[w])=b6:=by simp[c,e]
    have b:cc (x∉K)=b6:=by simp[c]
    rw[N1 (p:=λy=>cc (y∉K++[w])) a,N1 (p:=λy=>cc (y∉K)) b,ke,ke];lia
abbrev Once(rows:List (W×List W)):Prop:=∀r∈rows,r.2.Nodup
def Once.told(h:Once rows)(p:Nat):(told rows p).Nodup:=by
 unfold Od.told;split
 .rename_i r e;show h r (mx e)
 .show .nil
def qv:cnt rows K p=0↔∀x∈told rows p,x∈K:=vL
def oO(h:Once rows)(a:w∉K)(p:Nat):cnt rows (K++[w]) p+(if w∈told rows p then 1 else 0)=cnt rows K p:=qu a (h.told p)
abbrev HY(rows:List (W×List W))(n:Nat)(w:W):List Nat:=(hQ n).filter λp=>cc (w∈told rows p)
def vM(n:Nat)(w:W):(HY rows n w).Nodup:=WY w6 List.nodup_range
def iM:p∈HY rows n w↔p<n/\w∈told rows p:=by simp[HY]
abbrev aM(ps:List (W×Nat))(w:W):List Nat:=(ps.filter λp=>cc (p.1=w)).map (·.2)
theorem qw:∀{l:List W},l.Nodup->aM (l.map λx=>(x,n)) w=if w∈l then [n] else []
 |[],_=>rfl
 |x::l,h=>by
  have⟨b,c⟩:=l0.mp h;have a:=qw (n:=n) (w:=w) c;unfold aM at a ⊢;rw[eh,p5];by_cases e:x=w
  .subst e;rw[Z7 b]at a;rw[Z6 (by simp),eh,a,Z6 (by simp)]
  .rw[Z7 (by simpa using e),a];have d:w≠x:=λz=>e z.symm;simp[d]
def qx(a b:List (W×Nat))(w:W):aM (a++b) w=aM a w++aM b w:=by simp[aM]
def vN(h:Once rows)(a:rows[n]?=bD r)(b:∀w,aM ps w=HY rows n w)(w:W):aM (ps++r.2.map λx=>(x,n)) w=HY rows (n+1) w:=by
 rw[qx,b w,qw (h r (mx a))];unfold HY;rw[YP,Km];congr 1
 rw[p5,PH,j3 a];by_cases e:w∈r.2<;>simp[e]
structure RI(rows:List (W×List W))(K0 K:List W)(R:List Nat):Prop where
 OZ:∀t∈R,t<rows.length/\cnt rows K t=0
 all:∀t,t<rows.length->cnt rows K t=0->cnt rows K0 t=0\/t∈R
def RI.start(K:List W):RI rows K K []:=⟨by simp,λt _ h=>.inl h⟩
def RI.step(h:Once rows)(x:RI rows K0 K R)(d:w∉K):RI rows K0 (K++[w]) (R++(HY rows rows.length w).filter λt=>cc (cnt rows K t=1)):=by
 show⟨λt ht=>?_,λt ht i=>?_⟩
 .have a:=oO h d t;rcases i3.mp ht with ht|ht
  .have⟨b,e⟩:=x.OZ t ht;show⟨b,⋯⟩
  .have⟨b,e⟩:=kl.mp ht;have⟨f,g⟩:=iM.mp b;rw[Z6 g]at a;have:cnt rows K t=1:=by simpa using e
   show⟨f,⋯⟩
 .have a:=oO h d t;by_cases c:w∈told rows t
  .rw[Z6 c]at a;show .inr (i3.mpr (.inr (kl.mpr ⟨iM.mpr ⟨ht,c⟩,by simp;lia⟩)))
  .rw[Z7 c]at a;rcases x.all t ht ⋯ with z|z
   .show .inl z
   .show .inr (i3.mpr (.inl z))
structure NS(rows:List (W×List W))(K:List W)(d:List Nat)(ps:List (W×Nat)):Prop where
 ok:∀s∈ps,s.2∈d/\s.1∉K/\∃r,rows[s.2]?=bD r/\r.1=s.1
 once:(ps.map (·.1)).Nodup
 all:∀p∈d,∀r,rows[p]?=bD r->r.1∈K\/r.1∈ps.map (·.1)
def NS.start(K:List W):NS rows K [] []:=⟨by simp,by simp,by simp⟩
def NS.skip(x:NS rows K d ps)(f:rows[p]?=bD r)(h:r.1∈K\/r.1∈ps.map (·.1)):NS rows K (d++[p]) ps :=
 ⟨λs hs=>let ⟨a,b,c⟩:=x.ok s hs;⟨by simp[a],b,c⟩,x.once,λq hq g e=>by
  rcases i3.mp hq with hq|hq
  .show x.all q hq g e
  .have:q=p:=by simpa using hq
   subst this;rw[f]at e;cases e;show h⟩
def NS.take(x:NS rows K d ps)(g:rows[p]?=bD r)(h:r.1∉K)(i:r.1∉ps.map (·.1)):NS rows K (d++[p]) (ps++[(r.1,p)]):=by
 show⟨λs hs=>?_,?_,λq hq j f=>?_⟩
 .rcases i3.mp hs with hs|hs
  .have⟨a,b,c⟩:=x.ok s hs;show⟨by simp[a],b,c⟩
  .have:s=(r.1,p):=by simpa using hs
   subst this;show⟨by simp,h,r,g,rfl⟩
 .rw[ka,oT];show⟨x.once,by simp,λa k b l e=>?_⟩;have:b=r.1:=by simpa using l
  subst this;show i (e▸k)
 .rcases i3.mp hq with hq|hq
  .rcases x.all q hq j f with z|z
   .show .inl z
   .show .inr (by simp only[ka,i3];show .inl z)
  .have:q=p:=by simpa using hq
   subst this;rw[g]at f;cases f;show .inr (by simp)
def NS.perm(x:NS rows K d ps)(h:a.Perm ps):NS rows K d a :=
 ⟨λs hs=>x.ok s (h.mem_iff.mp hs),(h.map _).nodup_iff.mpr x.once,λp b r c=>(x.all p b r c).imp id λz=>(h.map _).mem_iff.mpr z⟩
structure LI(rows:List (W×List W))(Hy:List (W×Nat))(R:List Nat):Prop where
 nd:(Hy.map (·.1)).Nodup
 sn:OY rows (Hy.map (·.1))
 wd:∀x∈Hy.map (·.1),x∈rows.map (·.1)
 OZ:∀t∈R,t<rows.length/\cnt rows (Hy.map (·.1)) t=0
 all:∀t r,rows[t]?=bD r->cnt rows (Hy.map (·.1)) t=0->t∈R\/r.1∈Hy.map (·.1)
def LI.step(x:LI rows d R)(n:NS rows (d.map (·.1)) R st)(y:RI rows (d.map (·.1)) (d.map (·.1)++st.map (·.1)) j):LI rows (d++st) j:=by
 have em:(d++st).map (·.1)=d.map (·.1)++st.map (·.1):=ka;have hs:∀z∈st.map (·.1),z∉d.map (·.1)/\∃r∈rows,r.1=z/\∀x∈r.2,x∈d.map (·.1):=λz hz=>by
  have⟨s,hs,rfl⟩:=js.mp hz;have⟨k,l,r,h,m⟩:=n.ok s hs;have hz:=(x.OZ _ k).2;rw[qv,j3 h]at hz;show⟨l,r,mx h,m,hz⟩
 show⟨?_,λC f y hy=>?_,λy hy=>?_,λt o=>by rw[em];show y.OZ t o,λt r g i=>?_⟩
 .rw[em,oT];show⟨x.nd,n.once,λa p b q e=>(hs b q).1 (e▸p)⟩
 .rw[em]at hy;rcases i3.mp hy with hy|hy
  .show x.sn C f y hy
  .obtain⟨_,r,a,b,c⟩:=hs y hy;show b▸f r a λz hz=>x.sn C f z (c z hz)
 .rw[em]at hy;rcases i3.mp hy with hy|hy
  .show x.wd y hy
  .obtain⟨_,r,a,b,c⟩:=hs y hy;show js.mpr ⟨r,a,b⟩
 .rw[em]at i ⊢;rcases y.all t (d3.mp g).1 i with z|z
  .rcases x.all t r g z with z|z
   .rcases n.all t z r g with z|z
    .show .inr (i3.mpr (.inl z))
    .show .inr (i3.mpr (.inr z))
   .show .inr (i3.mpr (.inl z))
  .show .inl z
def LI.closed(x:LI rows b []):fW rows (·∈b.map (·.1)):=λr c h=>by
 have⟨t,a⟩:=RK.mp c;rcases x.all t r a (by rw[qv,j3 a];show h) with z|z
 .cases z
 .show z
def uj{K L:List W}(h:K.Nodup)(s:∀x∈K,x∈L):K.length<=L.length:=by
 induction K generalizing L with
 |nil=>simp
 |cons a K d =>
  have⟨f,g⟩:=l0.mp h;have b:a∈L:=s a (by simp);have:=d (L:=L.erase a) g λx c=>by
   have i:x≠a:=λe=>f (e▸c);show(XE i).mpr (s x (by simp[c]))
  rw[WL b]at this;have:0<L.length:=W_ b;rw[ke];lia
end
end Od
namespace TM
open PySem L2 HN
section
def B7(h:st[j]?=bD (bD (.own,u))):Run (lift (.bor j,a)) st u (st.set j (bD (.loc,u))):=by
 change(match st[j]? with|some (bD (.own,u))=>bD (Ex.ok u,st.set j (bD (.loc,u)))|_=>cb)=_;rw[h]
def m6(h:Run c st cK st1):Run (fG c body (n+1)) st .nx st1:=ab h aY
def qy(h:Run c st b6 st1)(a:Run body st1 .nx st2)(b:Run (fG c body n) st2 f d):Run (fG c body (n+1)) st f d:=ab h (ab a b)
def qz(h:Run (fG (HH Γ c) (execs Γ body) fuel) st .nx st1)(a:Run (execs Γ b) st1 f st2):Run (execs Γ (.Ly c body::b)) st f st2:=fH h a
def gK(hk:k=.loc\/k=.any):Run (dv b6 [i,j] (k,.tup [a,b])) st () ((st.set i (bD (k,a))).set j (bD (k,b))):=by
 rcases hk with rfl|rfl<;>rfl
def yq(h:Run (execs Γ b) (st.set i (bD (.Hl,.Hn [] []))) f st1):Run (execs Γ (.newD i::b)) st f st1:=fH (ab (a:=()) (st1:=st.set i (bD (.Hl,.Hn [] []))) rfl aY) h
def oP(h:st[i]?=bD (bD (.Hl,.Hn ks us))):Run (iD i) st (ks,us) st:=by
 change iD i st=_;unfold iD;rw[h]
def sm:Run (jQ (k,.str y)) st y st:=rfl
def Bg(a:st[i]?=bD (bD (.Hl,.Hn ks us)))(b:y∉ks)(c:ks.length<df):Run (kR i y (.own,.lst xs)) st () (st.set i (bD (.Hl,.Hn (ks++[y]) (us++[.lst xs])))):=by
 change kR i y (.own,.lst xs) st=_;unfold kR
 dsimp only
 rw[a]
 dsimp only
 rw[Z6 ⟨b,c⟩]
def Bh(a:st[i]?=bD (bD (.Hl,.Hn ks us)))(b:dI ks us y=bD (.lst xs))(c:xs.length<df):Run (kS i y u) st () (st.set i (bD (.Hl,.Hn ks (jc ks us y (.lst (xs++[u])))))):=by
 change kS i y u st=_;unfold kS;rw[a]
 dsimp only
 rw[b]
 dsimp only
 rw[Z6 c]
def yr(b:Run (ev Γ a) st (k,.str y) st1)(c:st1[i]?=bD (bD (.Hl,.Hn ks us))):Run (HH Γ (.inD neg a i)) st (RV neg y ks) st1 :=
 ab b (ab sm (ab (oP c) aY))
def yt(b:Run (ev Γ c) st (.own,.lst xs) st1)(a:st1[i]?=bD (bD (.Hl,.Hn ks us)))(d:Run (ev Γ e) st1 (k,.str y) st1)(g:y∉ks)(h:ks.length<df)
  (j:Run (execs Γ l) (st1.set i (bD (.Hl,.Hn (ks++[y]) (us++[.lst xs])))) f m):Run (execs Γ (.putD i e c::l)) st f m:=by
 show fH ?_ j;show ab b (ab (oP a) (ab d (ab sm (ab (Bg a g h) aY))))
def yu(a:st[i]?=bD (bD (.Hl,.Hn ks us)))(b:Run (ev Γ c) st (k,.str y) st)(d:y∈ks)(e:Run (ev Γ g) st r st)(h:Run (lift r) st u st)(j:dI ks us y=bD (.lst xs))(l:xs.length<df)
  (m:Run (execs Γ n) (st.set i (bD (.Hl,.Hn ks (jc ks us y (.lst (xs++[u])))))) f o):Run (execs Γ (.Jq i c g::n)) st f o:=by
 show fH ?_ m;show ab (oP a) (ab b (ab sm (ab (oP a) ?_)));rw[Z6 d];show ab e (ab h (ab (Bh a j l) aY))
def F4(h:st[i]?=bD (bD (.Hl,u))):Run (ev Γ (.NI i)) st (.bor i,u) (st.set i (bD (.own,u))):=by
 change xu i st=_;unfold xu;rw[h]
def Ej(c:st[i]?=bD (bD (.own,.Hn ks us)))(d:Run (ev Γ a) st (k,.str y) st)(e:Run (ev Γ b) st z st)(f:Run (lift z) st u st)(g:(match dI ks us y with|some v=>(Kd.loc,v)|none=>(.loc,u))=r):
  Run (ev Γ (.J7 i a b)) st r st:=by
 show ab (dG c) (ab (a:=()) (st1:=st) rfl (ab d (ab (a:=y) (st1:=st) rfl (ab e (ab f (ab (dG c) (cn ?_)))))));subst g;rfl
def F5(b:st[i]?=bD (bD (.own,.lst us)))(d:Run (ev Γ e) st (k1,.int (j:Nat)) st)(c:us[j]?=bD (.int o))(g:Run (ev Γ h) st (k2,.int w) st)
  (k:Run (execs Γ l) (st.set i (bD (.own,.lst (us.set j (.int (o - w)))))) f m):Run (execs Γ (.aug b6 i e h::l)) st f m:=by
 have hl:p6 i st=bD (.ok us,st):=by unfold p6;rw[b];rfl
 have n:j<us.length:=(d3.mp c).1;have p:p7 us (j:Nat)=bD o:=by
  unfold p7;rw[Z6 ⋯,OD,c]
 have q:KS us.length (j:Nat)=bD j:=by
  unfold KS;rw[Z6 ⋯]
  first|(rw[Z6 ⋯];simp)|simp[n]
 show fH (ab (a:=us) (st1:=st) hl (ab d (ab (a:=(j:Int)) (st1:=st) rfl (ab (a:=us) (st1:=st) hl (ab (cn p) (ab g (ab (a:=w) (st1:=st) rfl (ab (a:=()) (st1:=st.set i (bD (.own,.lst (us.set j (.int (o - w)))))) ?_ aY)))))))) k;change modS i (d9 (.int (j:Nat)) (.int (vp b6 o w))) st=_;unfold modS;rw[b];simp only[Kd.root,if_true,d9];rw[q];rfl
def F6(a:st[i]?=bD (bD (.own,u)))(b:xq u=bD r):Run (ev Γ (.NJ i)) st r st:=ab (dG a) (cn b)
end
theorem iN(f:Str->U)(y:Str):∀ks:List Str,dI ks (ks.map f) y=if y∈ks then bD (f y) else cb
 |[]=>rfl
 |k::ks=>by
  rw[eh];change(if k=y then bD (f k) else dI ks (ks.map f) y)=_;by_cases e:k=y
  .subst e;rw[Z6 rfl,Z6 (by simp)]
  .rw[Z7 e,iN f y ks];have:(y∈k::ks)↔y∈ks:=by simp[rz e]
   by_cases h:y∈ks
   .rw[Z6 h,Z6 (this.mpr h)]
   .rw[Z7 h,Z7 λz=>h (this.mp z)]
theorem lB(f:Str->U)(y:Str)(u:U):∀ks:List Str,ks.Nodup->jc ks (ks.map f) y u=ks.map λk=>if k=y then u else f k
 |[],_=>rfl
 |k::ks,h=>by
  have⟨a,b⟩:=l0.mp h;rw[eh,eh];change(if k=y then u::ks.map f else f k::jc ks (ks.map f) y u)=_;by_cases e:k=y
  .subst e;rw[Z6 rfl,Z6 rfl];congr 1
   show mu λz hz=>?_;have c:z≠k:=λq=>a (by rw[<-q];show hz);rw[Z7 c]
  .rw[Z7 e,Z7 e,lB f y u ks b]
abbrev stN(s:Str×Nat):U:=.tup [.str s.1,.int (s.2:Nat)]
theorem m7(f:α->Int):∀(ns:List α),intsOf (ns.map λa=>U.int (f a))=bD (ns.map f)
 |[]=>rfl
 |n::ns=>by change(intsOf (ns.map λa=>U.int (f a))).map _=_;rw[m7 f ns];rfl
def Bi(h:ps.length<64)(c:(ps.map (·.1)).Nodup):∃a:List (Str×Nat),a.Perm ps/\xq (.Hn (ps.map (·.1)) (ps.map λp=>.int (p.2:Nat)))=bD (.own,.lst (a.map stN)):=by
 have d:=m7 (λp:Str×Nat=>((p.2:Nat):Int)) ps;have hz:(ps.map (·.1)).zip (ps.map λp:Str×Nat=>((p.2:Nat):Int))=ps.map λp=>(p.1,((p.2:Nat):Int)):=by
  rw[List.zip_map']
 let P:=jM ((ps.map λp=>(p.1,((p.2:Nat):Int))).map (·.1));have b:P.Perm (hQ ps.length):=by
  have:=gb ((ps.map λp=>(p.1,((p.2:Nat):Int))).map (·.1));simpa[P] using this
 show⟨P.map λi=>ps.getD i (tr,0),?_,?_⟩
 .show(b.map _).trans ?_;have:(hQ ps.length).map (λi=>ps.getD i (tr,0))=ps:=by
   apply Lq
   .simp
   .intro i j e;simp[M8,e]
  rw[this]
 .change(intsOf (ps.map λp=>U.int (p.2:Nat))).bind _=_;rw[d];change(if (ps.map (·.1)).length<64/\(ps.map (·.1)).Nodup/\(ps.map (·.1)).length=(ps.map λp:Str×Nat=>((p.2:Nat):Int)).length then _ else _)=_;rw[Z6 ⟨by simpa using h,c,by simp⟩,hz];congr 3
  change(Ah _).map vk=_;change(P.map λi=>(ps.map λp=>(p.1,((p.2:Nat):Int))).getD i (tr,0)).map vk=_;rw[hh,hh];show mu λi f=>?_;have g:i<ps.length:=u7.mp (b.mem_iff.mp f);simp[M8,g,vk,stN]
def so:bO .isin (.str x) (.Hn ks vs)=bD (cc (x∈ks)):=rfl
def gq:bO .Hz (.str x) (.Hn ks vs)=bD (!cc (x∈ks)):=rfl
def B8{x:Str}{a:List Str}:bO .isin (.str x) (.lst (a.map U.str))=bD (cc (x∈a)):=by
 have h:=@eY x a;have e:bO .Hz (.str x) (.lst (a.map U.str))=(bO .isin (.str x) (.lst (a.map U.str))).map (!·):=rfl;rw[e,eH]at h;have⟨b,c,d⟩:=h;rw[c];congr 1
 cases b<;>simp_all
def yw:bO .ne (.str a) (.str b)=bD (!cc (a=b)):=by
 have:bO .ne (.str a) (.str b)=(bO .eq (.str a) (.str b)).map (!·):=by
  simp only[bO];rw[Z6 ⟨rfl,rfl⟩,Z6 ⟨rfl,rfl⟩];rfl
 rw[this,oM];rfl
def j4(a:List Bool):JI .all [(k,.lst (a.map .bl))]=bD (.loc,.bl (a.all id)):=by
 change(fR (a.map U.bl)).map _=_;have:∀a:List Bool,fR (a.map U.bl)=bD a:=λa=>by
  induction a with
  |nil=>rfl
  |cons b a c=>change(fR (a.map U.bl)).map _=_;rw[c];rfl
 rw[this];rfl
section
end
def um(h:ks.length<1000)(a:x∉ks):d9 (.str x) u (.Hn ks us)=bD (.Hn (ks++[x]) (us++[u])):=by
 rw[ui h];unfold dput;rw[Z7 a]
def lC(h:Jg 50 (.lst us)=b6):bO .ne (.lst us) (.lst [])=bD (!us.isEmpty):=by
 simp only[bO];rw[Z6 ⟨h,by simp[Jg,dr]⟩];cases us with
 |_=>simp[cI,cX]
theorem m8(f:α->Int):∀(l:List α) (n:Nat),dr n (l.map λa=>U.int (f a))=b6
 |[],n=>by simp[dr]
 |a::l,n=>by rw[eh,dr,m8 f l n];simp[Jg]
theorem qA:∀(a:List (Str×Nat)) (n:Nat),dr (n+1) (a.map stN)=b6
 |[],n=>by simp[dr]
 |s::a,n=>by rw[eh,dr,qA a n];simp[stN,Jg,dr]
def uo:bO .eq (.tup (a.map U.str)) (.tup [])=bD (cc (a=[])):=by
 simp only[bO];rw[Z6 ⟨by simp[Jg,eX],by simp[Jg,dr]⟩];cases a with
 |_=>simp[cI,cX]
theorem lD{cond:M Bool}(h:bq src st)(a b g:α->U)(p:α->Bool):∀(c:List α) (acc:List U),acc.length+c.length<=df ->
  (∀y∈c,Run cond (bD (.loc,a y)::bD (.loc,b y)::st) (p y) (bD (.loc,a y)::bD (.loc,b y)::st)/\Run elt (bD (.loc,a y)::bD (.loc,b y)::st) (.loc,g y) (bD (.loc,a y)::bD (.loc,b y)::st)) ->
  Run (bP 2 b6 cond elt src (c.map λy=>(Kd.loc,U.tup [a y,b y])) acc) st (acc++(c.filter p).map g) st
 |[],acc,_,_=>by rw[JL,PH,JL,rr];show uf h
 |y::c,acc,hl,f=>by
  have⟨d,j⟩:=f y (by simp);rw[ke]at hl;have i:Run (dv b6 (hQ 2) (.loc,.tup [a y,b y])) (i5 2 cb++st) () (bD (.loc,a y)::bD (.loc,b y)::st):=gK (.inl rfl);cases e:p y with
  |true =>
   rw[e]at d;show oH (s1:=bD (.loc,a y)::bD (.loc,b y)::st) (s2:=bD (.loc,a y)::bD (.loc,b y)::st) (s3:=bD (.loc,a y)::bD (.loc,b y)::st) (s4:=bD (.loc,a y)::bD (.loc,b y)::st) h i d j aF ⋯ ?_;have:=lD h a b g p c (acc++[g y]) (by simp;lia) λz hz=>f z (by simp[hz]);rw[p5,Z6 e,eh];simpa using this
  |false =>
   rw[e]at d;show yl (s1:=bD (.loc,a y)::bD (.loc,b y)::st) (s2:=bD (.loc,a y)::bD (.loc,b y)::st) h i d ?_;have:=lD h a b g p c acc ⋯ λz hz=>f z (by simp[hz]);rw[p5,Z7 (by simp[e])];show this
def set_range(n:Nat)(f:Nat->α)(t:Nat)(v:α):((hQ n).map f).set t v=(hQ n).map λp=>if p=t then v else f p:=by
 apply Lq
 .simp
 .intro i a b;simp only[List.getElem_set,Yz,List.getElem_range];by_cases e:t=i
  .subst e;simp
  .rw[Z7 e,Z7 (rz e)]
def Bj{rows:List Row}{t:Nat}(h:rows[t]?=bD r):Iv (rows.map A') (t:Int)=bD (A' r):=fg (by simp[h])
section
def uq(c:Run (ev Γ a) st x st1)(d:fF x.2=bD e)(f:Run (ev Γ b) st1 y st2)(g:fF y.2=bD h)(i:lW ln e h=bD r):Run (ev Γ (.K' ln a b)) st r st2 :=
 ab c (ab (cn d) (ab f (ab (cn g) (cn i))))
end
def cz(h:a.length<4000):fF (.lst (a.map .str))=bD (ay a):=by
 change(strsOf (a.map U.str)).bind _=_;rw[dO];change(if a.length+1<Hw then _ else _)=_;rw[Z6 (by change a.length+1<4096;lia)]
def fX(c:l.Perm m)(hs:m.Pairwise (λa b=>JF a b=b6)):aK l=m:=eO ((bL l).trans c) (b_ l) hs
end TM
namespace TM
open PySem L2
section
def dC(h:st[i]?=bD (bD (.io,u))):Run (ev Γ (.var i)) st (.bor i,u) st:=dG h
end
abbrev Ek:List S :=
   [.ite (.cmp .eq (.bi .len [.var 0]) (.cst (.int 0)))
      [.ret (.lst [.var 1,.cst (.int 0),.cst (.int 1)])]
      [],
    .set 2 (.pop 0),
    .ret (.lst [(.bin .MP (.var 2) (.cst (.int 2))),(.cst (.int 0)),(.bin .mod (.var 2) (.cst (.int 2)))])]
abbrev yx:Fn:=⟨"_law_source",2,3,.KG [0]::Ek⟩
def Ut:(3:Nat)<=df:=by decide
def yy:gv Γ yx [0] Ek [.lst [],.int k]=bD (.ok (.own,.tup [.lst [.int k,.int 0,.int 1],.lst []])):=by
 show cq (st0:=[bD (.io,.lst []),bD (.loc,.int k),cb]) (f:=.rt .own (.lst [.int k,.int 0,.int 1])) (st:=[bD (.io,.lst []),bD (.loc,.int k),cb]) rfl rfl ?_ rfl rfl;apply oG
 all_goals repeat' (first|show dC rfl|show bV (by simp)|show b8|show Ut|sizeOf_list_dec)
def yz:gv Γ yx [0] Ek [.lst ((ns++[c]).map .int),.int k]=bD (.ok (.own,.tup [.lst [.int (c / 2),.int 0,.int (c % 2)],.lst (ns.map .int)])):=by
 have hl:bO .eq (.int (((ns++[c]).map U.int).length:Nat)) (.int 0)=bD cK:=bV (by simp;lia);have a:((ns++[c]).map U.int).dropLast=ns.map .int:=by simp
 have b:Run (ev Γ (.pop 0)) [bD (.io,.lst ((ns++[c]).map .int)),bD (.loc,.int k),cb] (.loc,.int c) [bD (.io,.lst (ns.map .int)),bD (.loc,.int k),cb]:=by
  have:=F2 (Γ:=Γ) (st:=[bD (.io,.lst ((ns++[c]).map .int)),bD (.loc,.int k),cb]) (i:=0) (u:=.int c) (us:=(ns++[c]).map .int) (k:=.io) rfl rfl (by simp);rw[a]at this;show this
 show cq (st0:=[bD (.io,.lst ((ns++[c]).map .int)),bD (.loc,.int k),cb]) (f:=.rt .own (.lst [.int (c / 2),.int 0,.int (c % 2)])) (st:=[bD (.io,.lst (ns.map .int)),bD (.loc,.int k),bD (.loc,.int c)]) rfl rfl ?_ rfl rfl;show bt (st1:=[bD (.io,.lst ((ns++[c]).map .int)),bD (.loc,.int k),cb]) ?_ av (az (st2:=[bD (.io,.lst (ns.map .int)),bD (.loc,.int k),bD (.loc,.int c)]) b aI ?_)
 all_goals repeat' (first|show dC rfl|show hl|show b8|show Ut|sizeOf_list_dec)
abbrev fI(a t w:Int):U:=.lst [.int a,.int t,.int w]
abbrev m9(a t w m:Int):Int:=if w=0 then a % m else((a % 10 ^ 15+1) * 48271+(t+1) * (t+1) * 16807+(t+1) * 7919) % 2147483647 * 69621 % 2147483629 % m
abbrev yA(a w m:Int):Int:=if w=0 then a / m else a
abbrev B9:List S :=
   [.put 0 (.cst (.int 1)) (.bin .add (.idx (.var 0) (.cst (.int 1))) (.cst (.int 1))),
    .ite (.cmp .eq (.idx (.var 0) (.cst (.int 2))) (.cst (.int 0)))
      [.set 2 (.bin .mod (.idx (.var 0) (.cst (.int 0))) (.var 1)),
      .put 0 (.cst (.int 0)) (.bin .MP (.idx (.var 0) (.cst (.int 0))) (.var 1)),
      .ret (.var 2)]
      [],
    .set 3 (.idx (.var 0) (.cst (.int 1))),
    .set 4 (.bin .add (.bin .add (.bin .mul (.bin .add (.bin .mod (.idx (.var 0) (.cst (.int 0))) (.bin .pow (.cst (.int 10)) (.cst (.int 15)))) (.cst (.int 1))) (.cst (.int 48271))) (.bin .mul (.bin .mul (.var 3) (.var 3)) (.cst (.int 16807)))) (.bin .mul (.var 3) (.cst (.int 7919)))),
    .ret (.bin .mod (.bin .mod (.bin .mul (.bin .mod (.var 4) (.cst (.int 2147483647))) (.cst (.int 69621))) (.cst (.int 2147483629))) (.var 1))]
abbrev ur:Fn:=⟨"_law_draw",2,5,.KG [0]::B9⟩
def yB(i:0<=t)(j:t<2 ^ 62)(m0:0<m)(m1:m<1073741824):gv Γ ur [0] B9 [fI a t w,.int m]=bD (.ok (.loc,.tup [.int (m9 a t w m),fI (yA a w m) (t+1) w])):=by
 unfold m9 yA fI;have c:∀a t w:Int,Iv [U.int a,.int t,.int w] 0=bD (.int a):=λa t w=>rfl;have d:∀a t w:Int,Iv [U.int a,.int t,.int w] 1=bD (.int t):=λa t w=>rfl;have e:∀a t w:Int,Iv [U.int a,.int t,.int w] 2=bD (.int w):=λa t w=>rfl;have g:∀a t w x:Int,d9 (.int 1) (.int x) (.lst [.int a,.int t,.int w])=bD (.lst [.int a,.int x,.int w]):=λa t w x=>rfl;have h:∀a t w x:Int,d9 (.int 0) (.int x) (.lst [.int a,.int t,.int w])=bD (.lst [.int x,.int t,.int w]):=λa t w x=>rfl;by_cases b:w=0
 .subst b;rw[Z6 rfl,Z6 rfl];show cq (st0:=[bD (.io,.lst [.int a,.int t,.int 0]),bD (.loc,.int m),cb,cb,cb]) (f:=.rt .loc (.int (a % m))) (st:=[bD (.io,.lst [.int (a / m),.int (t+1),.int 0]),bD (.loc,.int m),bD (.loc,.int (a % m)),cb,cb]) rfl rfl ?_ rfl rfl;show gJ (rv:=(.loc,.int (t+1))) (rk:=(.loc,.int 1)) (k:=.io) (k':=.io) (bE (aZ (dC rfl) ai ∅ (cE (d _ _ _))) ai ∅ cB) rfl ai (aB aF (aB aF aH)) rfl rfl (g _ _ _ _) ?_;apply oG
  .repeat' (first|show dC rfl|show cE (e _ _ _)|show bV (show((0:Int)==0)=b6 from rfl)|sizeOf_list_dec)
  .show az (st2:=[bD (.io,.lst [.int a,.int (t+1),.int 0]),bD (.loc,.int m),bD (.loc,.int (a % m)),cb,cb]) (bE (aZ (dC rfl) ai ∅ (cE (c _ _ _))) (ae rfl) ∅ (eF m0)) aI ?_;show gJ (rv:=(.loc,.int (a / m))) (rk:=(.loc,.int 0)) (k:=.io) (k':=.io) (bE (aZ (dC rfl) ai ∅ (cE (c _ _ _))) (ae rfl) ∅ (lp ⟨m0,m1⟩)) rfl ai (aB aF (aB aF aH)) rfl rfl (h _ _ _ _) ?_
   repeat' sizeOf_list_dec
 .rw[Z7 b,Z7 b];show cq (st0:=[bD (.io,.lst [.int a,.int t,.int w]),bD (.loc,.int m),cb,cb,cb]) (f:=.rt .loc (.int (((a % 10 ^ 15+1) * 48271+(t+1) * (t+1) * 16807+(t+1) * 7919) % 2147483647 * 69621 % 2147483629 % m))) (st:=[bD (.io,.lst [.int a,.int (t+1),.int w]),bD (.loc,.int m),cb,bD (.loc,.int (t+1)),bD (.loc,.int ((a % 10 ^ 15+1) * 48271+(t+1) * (t+1) * 16807+(t+1) * 7919))]) rfl rfl ?_ rfl rfl;show gJ (rv:=(.loc,.int (t+1))) (rk:=(.loc,.int 1)) (k:=.io) (k':=.io) (bE (aZ (dC rfl) ai ∅ (cE (d _ _ _))) ai ∅ cB) rfl ai (aB aF (aB aF aH)) rfl rfl (g _ _ _ _) ?_;apply bt
  .repeat' (first|show dC rfl|show cE (e _ _ _)|show bV (show(w==0)=cK by simp[b])|sizeOf_list_dec)
  .show av
  .repeat' (first|show dC rfl|show cE (c _ _ _)|show cE (d _ _ _)|show eF m0|sizeOf_list_dec)
abbrev Src(T:Int)(u:U):Prop:=∃a t w,u=fI a t w/\0<=t/\t<=T
def Src.up(h:Src T u)(l:T<=b):Src b u:=let ⟨a,t,w,e,c,d⟩:=h;⟨a,t,w,e,c,ZI d l⟩
abbrev bI(Γ:Tab):Prop:=∀(T m:Int) (u:U),Src T u->T<2 ^ 62->0<m->m<1073741824->∃n u',Γ "_law_draw" [u,.int m]=bD (.ok (.loc,.tup [.int n,u']))/\0<=n/\n<m/\Src (T+1) u'
def qB(m0:0<m):0<=m9 a t w m/\m9 a t w m<m:=by
 unfold m9;split
 .show⟨Qd _ ⋯,QI _ m0⟩
 .show⟨Qd _ ⋯,QI _ m0⟩
def yC(h:HR Pg "_law_draw" ur):bI (HA Pg (d+1)):=by
 rintro T m u ⟨a,t,w,rfl,b,c⟩ e m0 m1;show⟨m9 a t w m,fI (yA a w m) (t+1) w,?_,(qB m0).1,(qB m0).2,⟨_,_,_,rfl,⋯,⋯⟩⟩;rw[cT h _ rfl];show yB b ⋯ m0 m1
section
def yD(p:bI Γ)(q:st[i]?=bD (bD (k0,b)))(f:k0.root=b6)(r:Run (ev Γ e) st (.loc,.int m) st1)(d:st1[i]?=bD (bD (k,u)))(hk:k.root=b6)(g:Src T u)(s:T<2 ^ 62)(m0:0<m)(m1:m<1073741824):
  ∃n u',Run (ev Γ (.Ho "_law_draw" [.var i,e] [0])) st (.loc,.int n) (st1.set i (bD (k,u')))/\0<=n/\n<m/\Src (T+1) u':=by
 have⟨n,u',v,x,y,hs⟩:=p T m u g s m0 m1;show⟨n,u',?_,x,y,hs⟩;obtain⟨a,t,w,rfl,_,_⟩:=hs;obtain⟨h,l,o,rfl,_,_⟩:=g;have z:Run (ev Γ (.var i)) st (.bor i,b) st:=by
  have:=dG q (by rintro rfl;cases f);unfold kv at this;rw[Z6 f]at this;show this
 have c:[((Kd.bor i,b):Kd×U),(.loc,.int m)].map (d8 st1)=[(.bor i,fI h l o),(.loc,.int m)]:=by
  change [d8 st1 (.bor i,b),(.loc,.int m)]=_;unfold d8
  dsimp only
  rw[d];simp[hk]
 show se (rs:=[(.bor i,b),(.loc,.int m)]) (ws:=[fI a t w]) (st1:=st1) (aa z (aa r af)) ?_ ?_ (.inr rfl) ?_ ?_
 .rw[c];show⟨⟨k,hk,d⟩,trivial⟩
 .rw[c];show v
 .rw[c];change((b6&&cc ([bD i].Nodup))&&(b6&&(b6&&b6)))=b6;simp
 .rw[c];change(match g9 [(Kd.bor i,fI h l o),(.loc,.int m)] 0 with|some j=>(match fI a t w,st1[j]? with|.lst us,bD (bD (k,_))=>gE _ [] [] (st1.set j (bD (k,.lst us)))|_,_=>cb)|none=>cb)=_;change(match fI a t w,st1[i]? with|.lst us,bD (bD (k,_))=>gE _ [] [] (st1.set i (bD (k,.lst us)))|_,_=>cb)=_;rw[d];rfl
def dz(b:bI Γ)(a:st[i]?=bD (bD (k,u)))(hk:k.root=b6)(c:Run (ev Γ e) st (.loc,.int m) st)(d:Src T u)(f:T<2 ^ 62)(m0:0<m)(m1:m<1073741824):
  ∃n u',Run (ev Γ (.Ho "_law_draw" [.var i,e] [0])) st (.loc,.int n) (st.set i (bD (k,u')))/\0<=n/\n<m/\Src (T+1) u':=yD b a hk c a hk d f m0 m1
end
section
def fw(h:st[i]?=bD (bD (.loc,.bl b))):Run (HH Γ (.var i)) st b st:=ab (dG h) (cn rfl)
end
abbrev yE:List S :=
   [.set 6 (.idx (.var 1) (.Ho "_law_draw" [.var 0,.bi .len [.var 1]] [0])),
   .ite (.and [.var 3,.cmp .gt (.var 2) (.cst (.int 0))])
    [.set 6 (.idx (.var 1) (.Ho "_law_draw" [.var 0,.var 2] [0]))]
    [],
   .ite (.cmp .Hz (.var 6) (.var 4))
    [.app 4 (.var 6)]
    []]
abbrev F7:List U:=[.int 0,.int 1,.int 1,.int 2,.int 2,.int 3,.int 8,.int 2]
abbrev F8:List S :=
   [.set 4 (.lst []),
    .HC cK [5] .IG [.idx (.lst [.cst (.int 0),.cst (.int 1),.cst (.int 1),.cst (.int 2),.cst (.int 2),.cst (.int 3),.cst (.int 8),.cst (.int 2)]) (.Ho "_law_draw" [.var 0,.cst (.int 8)] [0])] yE,
    .ret (.tup [(.idx (.var 1) (.var 2)),(.bi .tuple [(.var 4)])])]
abbrev El:Fn:=⟨"_law_row",4,7,.KG [0]::F8⟩
abbrev d6(u:U)(ws:List Str)(at_:Int)(b:Bool)(told:List Str)(o5 o6:Option (Kd×U)):au:=[bD (.io,u),bD (.any,.lst (ws.map .str)),bD (.loc,.int at_),bD (.loc,.bl b),bD (.own,.lst (told.map .str)),o5,o6]
def oQ{ws:List Str}{n:Int}(b:0<=n)(c:n<ws.length):∃x,x∈ws/\ws[n.toNat]?=bD x/\Iv (ws.map U.str) n=bD (.str x):=by
 have⟨k,rfl⟩:=vl b;have a:k<ws.length:=by lia
 show⟨ws[k],J4 a,by simp[a],fg (by simp[a])⟩
def yF(j:bI Γ)(s:Src T u)(G:T+1<2 ^ 62)(H:ws.length<1000000)(I:0<=at_)(J:at_<ws.length)(L:told.length<=8):
  ∃u' x a,Run (execs Γ yE) (d6 u ws at_ b told o5 o6) .nx (d6 u' ws at_ b a o5 (bD (.any,.str x)))/\Src (T+2) u'/\(a=told\/(x∈ws/\x∉told/\a=told++[x])):=by
 have t:(8:Nat)<df:=by decide
 have⟨n,f,v,w,l,s1⟩:=dz (st:=d6 u ws at_ b told o5 o6) j (i:=0) (k:=.io) (e:=.bi .len [.var 1]) (m:=((ws.map U.str).length:Nat)) rfl rfl (cy (aa (aC rfl) af) trivial b8) s ⋯ (by simp;lia) (by simp;lia);rw[c2]at l;obtain⟨x,A,_,ex⟩:=oQ w l;have o:Run (ev Γ (.idx (.var 1) (.Ho "_law_draw" [.var 0,.bi .len [.var 1]] [0]))) (d6 u ws at_ b told o5 o6) (.any,.str x) (d6 f ws at_ b told o5 o6):=aZ (aC rfl) v trivial (cE (k:=.any) ex);have d:∀(c:U) (y:Str),y∈ws->Src (T+2) c->∃u' x a,Run (execs Γ [.ite (.cmp .Hz (.var 6) (.var 4)) [.app 4 (.var 6)] []]) (d6 c ws at_ b told o5 (bD (.any,.str y))) .nx (d6 u' ws at_ b a o5 (bD (.any,.str x)))/\Src (T+2) u'/\(a=told\/(x∈ws/\x∉told/\a=told++[x])):=by
  intro c y g hs;by_cases h:y∈told
  .show⟨c,y,told,?_,hs,.inl rfl⟩;show bt (aS (aC rfl) (aA rfl) ∅ (eY.trans (by simp[h]))) av av
  .show⟨c,y,told++[y],?_,hs,.inr ⟨g,h,rfl⟩⟩;show d4 (aS (aC rfl) (aA rfl) ∅ (eY.trans (by simp[h]))) (fC (k:=.own) (k':=.own) rfl (aC rfl) (jE rfl) rfl rfl (by simp;lia) av) ?_;rw[show told.map U.str++[U.str y]=(told++[y]).map U.str by simp];show av
 by_cases p:b=b6/\0<at_
 .have⟨rfl,r⟩:=p;have⟨N,c,B,C,O,s2⟩:=dz (st:=d6 f ws at_ b6 told o5 (bD (.any,.str x))) j (i:=0) (k:=.io) (e:=.var 2) (m:=at_) rfl rfl (ae rfl) s1 ⋯ r ⋯;obtain⟨y,g,_,D⟩:=oQ (ws:=ws) C ⋯;have⟨u',z,a,q,hs,ho⟩:=d c y g (s2.up ⋯);show⟨u',z,a,az o gH (d4 (gG (ll (fw rfl) (cD (aS (ae rfl) ai trivial (jG (by simp[r])))))) (az (aZ (aC rfl) B trivial (cE (k:=.any) D)) gH av) q),hs,ho⟩
 .have⟨u',z,a,q,hs,ho⟩:=d f x A (s1.up ⋯);show⟨u',z,a,az o gH (bt (st1:=d6 f ws at_ b told o5 (bD (.any,.str x))) (gG ?_) av q),hs,ho⟩;cases b with
  |false=>show r9 (fw rfl)
  |true=>show ll (fw rfl) (cD (aS (ae rfl) ai trivial (jG (by simp at p ⊢;lia))))
abbrev lE(Γ:Tab):Prop:=∀(T at_:Int) (u:U) (ws:List Str) (b:Bool),Src T u->T+17<2 ^ 62->ws.length<1000000->0<=at_->at_<ws.length->∃(x:Str) (told:List Str) (u':U),Γ "_law_row" [u,.lst (ws.map .str),.int at_,.bl b]=bD (.ok (.loc,.tup [.tup [.str x,.tup (told.map .str)],u']))/\ws[at_.toNat]?=bD x/\told.Nodup/\(∀y∈told,y∈ws)/\told.length<=8/\Src (T+17) u'
def Bk(a:0<=n)(b:n<8):∃m:Nat,m<=8/\Iv F7 n=bD (.int (m:Nat)):=by
 have⟨k,rfl⟩:=vl a;have:k=0\/k=1\/k=2\/k=3\/k=4\/k=5\/k=6\/k=7:=by lia
 rcases this with rfl|rfl|rfl|rfl|rfl|rfl|rfl|rfl
 .show⟨0,⋯,rfl⟩
 .show⟨1,⋯,rfl⟩
 .show⟨1,⋯,rfl⟩
 .show⟨2,⋯,rfl⟩
 .show⟨2,⋯,rfl⟩
 .show⟨3,⋯,rfl⟩
 .show⟨8,⋯,rfl⟩
 .show⟨2,⋯,rfl⟩
def Bl(o:bI Γ){ws:List Str}{T at_:Int}(p:Src T u)(hT:T+17<2 ^ 62)(C:ws.length<1000000)(s:0<=at_)(v:at_<ws.length):
  ∃(x:Str) (told:List Str) (u':U),gv Γ El [0] F8 [u,.lst (ws.map .str),.int at_,.bl b]=bD (.ok (.loc,.tup [.tup [.str x,.tup (told.map .str)],u']))/\ws[at_.toNat]?=bD x/\told.Nodup/\(∀y∈told,y∈ws)/\told.length<=8/\Src (T+17) u':=by
 have D:(8:Nat)<df:=by decide
 obtain⟨x,_,G,ex⟩:=oQ s v;have⟨n,w,H,I,J,s1⟩:=dz (st:=d6 u ws at_ b [] cb cb) o (i:=0) (k:=.io) (e:=.cst (.int 8)) (m:=8) rfl rfl ai p ⋯ ⋯ ⋯;have⟨m,hm,em⟩:=Bk I J;obtain⟨st',L,g,told,o5,o6,rfl,s2,j,l,A,_⟩:=bu (rs:=[(.loc,.int (m:Nat))]) (t:=cK) (is:=[5]) (body:=execs Γ yE) (λi:Nat=>(Kd.loc,U.int (0+(i:Int)))) (λd r st=>∃(g:U) (told:List Str) (o5 o6:Option (Kd×U)),st=d6 g ws at_ b told o5 o6/\Src (T+1+2 * (d.length:Nat)) g/\told.Nodup/\(∀y∈told,y∈ws)/\told.length<=d.length/\d.length+r.length=m)
  (λd r st _=>trivial) (λd y r st h=>by
   have⟨g,told,o5,o6,rfl,s2,j,l,A,N⟩:=h;simp only[ke]at N;have⟨O,z,Q,q,s3,ho⟩:=yF o (u:=g) (ws:=ws) (told:=told) (b:=b) (at_:=at_) (o5:=bD (.loc,.int (0+(y:Int)))) (o6:=o6) s2 ⋯ C s v ⋯;show⟨d6 g ws at_ b told (bD (.loc,.int (0+(y:Int)))) o6,_,aI,q,O,Q,_,_,rfl,s3.up (by simp;lia),?_⟩;rw[i0,Mu];rcases ho with rfl|⟨Y,h2,rfl⟩
   .show⟨j,l,⋯,⋯⟩
   .show⟨oT.mpr ⟨j,by simp,λa ha c B=>by rw[hV]at B;subst B;show λe=>h2 (e▸ha)⟩,λy hy=>?_,by simp;lia,⋯⟩;rcases i3.mp hy with hy|hy
    .show l y hy
    .rw[hV]at hy;subst hy;show Y) (hQ m) [] (d6 w ws at_ b [] cb cb) ⟨w,[],cb,cb,rfl,by simpa using s1,by simp,by simp,by simp,by simp⟩
 rw[hU,x3]at s2 A;show⟨x,told,g,?_,G,j,l,⋯,s2.up ⋯⟩;show cq (st0:=[bD (.io,u),bD (.any,.lst (ws.map .str)),bD (.loc,.int at_),bD (.loc,.bl b),cb,cb,cb]) (f:=.rt .loc (.tup [.str x,.tup (told.map .str)])) (st:=d6 g ws at_ b told o5 o6) rfl ?_ ?_ rfl rfl
 .obtain⟨_,_,_,rfl,_⟩:=p;rfl
 show az (st2:=d6 u ws at_ b [] cb cb) (cp af trivial aH (i8 _)) bb ?_;show bX (rs:=[(.loc,.int (m:Nat))]) (aa (aZ (x:=(.own,.lst F7)) (cp (by repeat (first|show af|show aa ai (by assumption)|apply aa ai)) (by show trivial) (by repeat (first|show aH|apply aB aF)) (by decide)) H trivial (cE em)) af) trivial (ic ⋯) rfl L ?_;show bF (eW (aa (aZ (aC rfl) (ae rfl) trivial (cE (k:=.any) ex)) (aa (cy (aa (aA rfl) af) ∅ rfl) af)) trivial (aB (jE rfl) (aB aF aH)) (by change 2<=df;lia)) eE
def F9(a:bI (HA Pg d))(h:HR Pg "_law_row" El):lE (HA Pg (d+1)):=by
 intro T at_ u ws b c f g i j;have⟨x,told,u',e,r⟩:=Bl a (b:=b) c f g i j;show⟨x,told,u',by rw[cT h _ rfl];show e,r⟩
abbrev B_:List S :=
   [.ite (.and [.cmp .eq (.idx (.var 2) (.cst (.int 0))) (.idx (.var 1) (.cst (.int 0))),.cmp .eq (.bi .sorted [.idx (.var 2) (.cst (.int 1))]) (.bi .sorted [.idx (.var 1) (.cst (.int 1))])])
    [.Kv]
    []]
abbrev F_:List S:=[.HC cK [2] .seq [.var 0] B_,.app 0 (.var 1)]
abbrev Bm:Fn:=⟨"_law_lay",2,3,.KG [0]::F_⟩
abbrev gL(rs:List Row)(r:Row)(o:Option (Kd×U)):au:=[bD (.io,.lst (rs.map A')),bD (.loc,A' r),o]
abbrev layR(rs:List Row)(r:Row):List Row:=if keyOf r∈rs.map keyOf then rs else rs++[r]
def yG(c:x.2.length<64)(d:r.2.length<64):Run (HH Γ (.and [.cmp .eq (.idx (.var 2) (.cst (.int 0))) (.idx (.var 1) (.cst (.int 0))),.cmp .eq (.bi .sorted [.idx (.var 2) (.cst (.int 1))]) (.bi .sorted [.idx (.var 1) (.cst (.int 1))])])) (gL rs r (bD (.loc,A' x))) (cc (keyOf x=keyOf r)) (gL rs r (bD (.loc,A' x))):=by
 have a:∀y:Row,gY (.loc,A' y) (.int 0)=bD (.loc,.str y.1):=λy=>rfl;have b:∀y:Row,gY (.loc,A' y) (.int 1)=bD (.loc,.tup (y.2.map .str)):=λy=>rfl;have f:Run (HH Γ (.cmp .eq (.idx (.var 2) (.cst (.int 0))) (.idx (.var 1) (.cst (.int 0))))) (gL rs r (bD (.loc,A' x))) (cc (x.1=r.1)) (gL rs r (bD (.loc,A' x))):=aS (aZ (ae rfl) ai trivial (a x)) (aZ (ae rfl) ai trivial (a r)) trivial oM;have g:Run (HH Γ (.cmp .eq (.bi .sorted [.idx (.var 2) (.cst (.int 1))]) (.bi .sorted [.idx (.var 1) (.cst (.int 1))]))) (gL rs r (bD (.loc,A' x))) (cc (aK x.2=aK r.2)) (gL rs r (bD (.loc,A' x))):=aS (cy (aa (aZ (ae rfl) ai trivial (b x)) af) trivial (sorted_strs c)) (cy (aa (aZ (ae rfl) ai trivial (b r)) af) trivial (sorted_strs d)) trivial ly;have e:cc (keyOf x=keyOf r)=(cc (x.1=r.1)&&cc (aK x.2=aK r.2)):=by
  rw[<-Bool.decide_and];show decide_eq_decide.mpr (by unfold keyOf;show VG ..▸Iff.rfl)
 rw[e];show gG (lr f λ_=>cD g)
def Em:Run (execs Γ (.Kv::a)) st (.rt .loc .Hs) st:=sd (aY)
theorem qC(b:r.2.length<64):∀(xs:List Row) (o:Option (Kd×U)),(∀x∈xs,x.2.length<64) ->
  ∃o',Run (forM cK [2] (execs Γ B_) [(.bor 0,.lst (rs.map A'))] (xs.map λx=>(Kd.loc,A' x))) (gL rs r o) (if keyOf r∈xs.map keyOf then .rt .loc .Hs else .nx) (gL rs r o')
 |[],o,_=>⟨o,by rw[Z7 (by simp)];show B3 ⟨⟨_,rfl,rfl⟩,trivial⟩⟩
 |x::xs,o,h=>by
  have a:=yG (Γ:=Γ) (rs:=rs) (h x (by simp)) b;by_cases hk:keyOf x=keyOf r
  .show⟨bD (.loc,A' x),?_⟩;rw[Z6 (by simp[hk])];rw[Z9 hk]at a;show Hd ⟨⟨_,rfl,rfl⟩,trivial⟩ aI (oG a Em)
  .rw[Z8 hk]at a;have⟨o',q⟩:=qC (Γ:=Γ) (rs:=rs) b xs (bD (.loc,A' x)) λy c=>h y (by simp[c]);show⟨o',?_⟩;have d:(keyOf r∈(x::xs).map keyOf)↔(keyOf r∈xs.map keyOf):=by
    rw[eh,gj];show⟨λz=>z.resolve_left λe=>hk e.symm,.inr⟩
   rw[show(if keyOf r∈(x::xs).map keyOf then Fl.rt .loc .Hs else Fl.nx)=(if keyOf r∈xs.map keyOf then Fl.rt .loc .Hs else Fl.nx) by simp only[d]];show F0 ⟨⟨_,rfl,rfl⟩,trivial⟩ aI (bt a av av) q
def Bn(b:r.2.length<64)(h:∀x∈rs,x.2.length<64)(hl:rs.length<1000):gv Γ Bm [0] F_ [.lst (rs.map A'),A' r]=bD (.ok (.loc,.tup [.Hs,.lst ((layR rs r).map A')])):=by
 have c:(1000:Nat)<df:=by decide
 have⟨o',q⟩:=qC (Γ:=Γ) b rs cb h;have hs:cZ [0] [.lst (rs.map A'),A' r] Bm.ns=gL rs r cb:=by
  change [bD (Kd.io,U.lst (rs.map A')),bD (if HM (A' r)=b6 then Kd.loc else Kd.any,A' r),cb]=_;rw[Z6 (uh r)];rfl
 have a:Ju .seq [(Kd.bor 0,U.lst (rs.map A'))]=bD (rs.map λx=>(Kd.loc,A' x)):=by
  change bD ((rs.map A').map λu=>(kE (.bor 0),u))=_;rw[hh];rfl
 unfold layR;by_cases hk:keyOf r∈rs.map keyOf
 .rw[Z6 hk]at q ⊢;show cq (f:=.rt .loc .Hs) rfl hs (sd (B1 (aa (dC rfl) af) ⟨⟨_,rfl,rfl⟩,trivial⟩ a rfl q)) rfl rfl
 .rw[Z7 hk]at q ⊢;show cq (f:=.nx) (st:=gL (rs++[r]) r o') rfl hs (bX (aa (dC rfl) af) ⟨⟨_,rfl,rfl⟩,trivial⟩ a rfl q (fC (k:=.io) (k':=.io) rfl (ae rfl) aF rfl rfl (by simp;lia) ?_)) rfl rfl;rw[show rs.map A'++[A' r]=(rs++[r]).map A' by simp];show av
abbrev lF(Γ:Tab):Prop:=∀(rs:List Row) (r:Row),r.2.length<64->(∀x∈rs,x.2.length<64)->rs.length<1000->Γ "_law_lay" [.lst (rs.map A'),A' r]=bD (.ok (.loc,.tup [.Hs,.lst ((layR rs r).map A')]))
def Ga(h:HR Pg "_law_lay" Bm):lF (HA Pg (d+1)):=λrs r a b hl=>by
 rw[cT h _ rfl];show Bn a b hl
abbrev O0:Kd×U->Bool
 |(.bor _,_)=>cK
 |_=>b6
section
def qD(h:O0 r=b6):d8 st r=r:=by
 have⟨k,u⟩:=r;cases k<;>first|rfl|cases h
def m_(h:O0 r=b6):pW a r=b6:=by
 have⟨k,u⟩:=r;cases k<;>first|rfl|cases h
def qE(h:rs.all O0=b6):bq rs st:=by
 induction rs with
 |nil=>trivial
 |cons r rs a =>
  have⟨k,u⟩:=r;rw[WX,cL]at h;have:=a h.2;cases k<;>first|show this|cases h.1
def Bo(j:st[i]?=bD (bD (k0,a)))(g:k0.root=b6)(l:Run (bA Γ es) st rs st1)(c:st1[i]?=bD (bD (k,.lst us)))(hk:k.root=b6)(m:cC us=b6)(n:rs.map (d8 st1)=rs)(o:bq rs st1)(p:∀r∈rs,pW [bD i] r=b6)
  (s:Γ f (.lst us::rs.map (·.2))=bD (.ok (d,.tup [v,.lst h]))) (t:d=.own\/d=.loc):Run (ev Γ (.Ho f (.var i::es) [0])) st (d,v) (st1.set i (bD (k,.lst h))):=by
 have u:Run (ev Γ (.var i)) st (.bor i,a) st:=by
  have:=dG j (by rintro rfl;cases g);unfold kv at this;rw[Z6 g]at this;show this
 have w:d8 st1 (.bor i,a)=(.bor i,.lst us):=by
  unfold d8
  dsimp only
  rw[c];simp[hk]
 have b:((Kd.bor i,a)::rs).map (d8 st1)=(.bor i,.lst us)::rs:=by rw[eh,w,n]
 have e:g9 ((Kd.bor i,U.lst us)::rs) 0=bD i:=by
  change(if cC us=b6 then bD i else cb)=_;rw[Z6 m]
 show se (rs:=(.bor i,a)::rs) (ws:=[.lst h]) (st1:=st1) (aa u l) ?_ ?_ t ?_ ?_
 .rw[b];show⟨⟨k,hk,c⟩,o⟩
 .rw[b];show s
 .rw[b];unfold pX;rw[cL,cL];show⟨⟨by simp[e],by simp⟩,ko.mpr λq x=>?_⟩;cases q with
  |zero=>simp
  |succ q =>
   have hl:q<rs.length:=by have:=u7.mp x;simpa using this
   rw[KR];show .inr ?_;rw[show((Kd.bor i,U.lst us)::rs).getD (q+1) (.loc,.Hs)=rs[q] by simp[M8,hl]];simp only[eh,JL,e];show p _ (J4 hl)
 .rw[b];unfold gE;rw[e]
  dsimp only
  rw[c];rfl
def ie(d:st[i]?=bD (bD (k0,o)))(e:k0.root=b6)(g:Run (bA Γ es) st rs st1)(h:st1[i]?=bD (bD (k,.lst us)))(hk:k.root=b6)(j:cC us=b6)(a:rs.all O0=b6)
  (l:Γ f (.lst us::rs.map (·.2))=bD (.ok (b,.tup [v,.lst m]))) (n:b=.own\/b=.loc):Run (ev Γ (.Ho f (.var i::es) [0])) st (b,v) (st1.set i (bD (k,.lst m))) :=
 Bo d e g h hk j ((mu λr c=>qD (ko.mp a r c)).trans (QR rs)) (qE a) (λr c=>m_ (ko.mp a r c)) l n
end
section
def yH(p:lE Γ){ws:List Str}(c:st[i]?=bD (bD (k0,H)))(d:k0.root=b6)(f:st[j]?=bD (bD (kw,.lst (ws.map .str))))(q:kw=.loc\/kw=.any)(g:Run (ev Γ e) st (.loc,.int at_) st1)(h:Run (ev Γ t) st1 (.loc,.bl b) st2)
  (l:st2[i]?=bD (bD (k,u))) (hk:k.root=b6) (m:Src T u) (s:T+17<2 ^ 62) (v:ws.length<1000000) (z:0<=at_) (A:at_<ws.length) :
  ∃(r:Row) (u':U),Run (ev Γ (.Ho "_law_row" [.var i,.var j,e,t] [0])) st (.loc,A' r) (st2.set i (bD (k,u')))/\ws[at_.toNat]?=bD r.1/\r.2.Nodup/\(∀y∈r.2,y∈ws)/\r.2.length<=8/\Src (T+17) u':=by
 have⟨x,told,u',n,B,C,D,G,o⟩:=p T at_ u ws b m s v z A;show⟨(x,told),u',?_,B,C,D,G,o⟩;obtain⟨a,t',w,rfl,_,_⟩:=m;obtain⟨I,J,L,rfl,_,_⟩:=o;rcases q with rfl|rfl
 .show ie (rs:=[(.loc,.lst (ws.map .str)),(.loc,.int at_),(.loc,.bl b)]) c d (aa (ae f) (aa g (aa h af))) l hk rfl rfl n (.inr rfl)
 .show ie (rs:=[(.any,.lst (ws.map .str)),(.loc,.int at_),(.loc,.bl b)]) c d (aa (aC f) (aa g (aa h af))) l hk rfl rfl n (.inr rfl)
def yI(a:lF Γ)(b:st[i]?=bD (bD (k0,j)))(c:k0.root=b6)(d:Run (ev Γ e) st (.loc,A' r) st1)(f:st1[i]?=bD (bD (k,.lst (rs.map A'))))(hk:k.root=b6)(g:r.2.length<64)(h:∀x∈rs,x.2.length<64)(hl:rs.length<1000):
  Run (ev Γ (.Ho "_law_lay" [.var i,e] [0])) st (.loc,.Hs) (st1.set i (bD (k,.lst ((layR rs r).map A')))) :=
 ie (rs:=[(.loc,A' r)]) b c (aa d af) f hk (bJ rs) rfl (a rs r g h hl) (.inr rfl)
def yJ(a:Run (ev Γ e) st r st1)(b:Run (execs Γ c) st1 f st2):Run (execs Γ (.exp e::c)) st f st2:=fH (ab a aY) b
abbrev iO(Γ:Tab):Prop:=(∀k:Int,Γ "_law_source" [.lst [],.int k]=bD (.ok (.own,.tup [fI k 0 1,.lst []])))/\∀(ns:List Int) (c k:Int),Γ "_law_source" [.lst ((ns++[c]).map .int),.int k]=bD (.ok (.own,.tup [fI (c / 2) 0 (c % 2),.lst (ns.map .int)]))
def yK(h:HR Pg "_law_source" yx):iO (HA Pg (d+1)):=⟨λk=>by rw[cT h _ rfl];show yy,λns c k=>by rw[cT h _ rfl];show yz⟩
theorem gr:∀ns:List Int,cC (ns.map U.int)=b6
 |[]=>rfl
 |n::ns=>by change(b6&&cC (ns.map U.int))=b6;rw[gr ns];rfl
def yL(a:iO Γ)(b:st[i]?=bD (bD (k0,h)))(d:k0.root=b6)(f:Run (ev Γ e) st (.loc,.int m) st1)(g:st1[i]?=bD (bD (k,.lst ((ns++[c]).map .int))))(hk:k.root=b6):
  Run (ev Γ (.Ho "_law_source" [.var i,e] [0])) st (.own,fI (c / 2) 0 (c % 2)) (st1.set i (bD (k,.lst (ns.map .int)))) :=
 ie (rs:=[(.loc,.int m)]) b d (aa f af) g hk (gr _) rfl (a.2 ns c m) (.inl rfl)
def En(a:iO Γ)(b:st[i]?=bD (bD (k0,g)))(c:k0.root=b6)(d:Run (ev Γ e) st (.loc,.int m) st1)(f:st1[i]?=bD (bD (k,.lst [])))(hk:k.root=b6):
  Run (ev Γ (.Ho "_law_source" [.var i,e] [0])) st (.own,fI m 0 1) (st1.set i (bD (k,.lst []))) :=
 ie (rs:=[(.loc,.int m)]) b c (aa d af) f hk rfl rfl (a.1 m) (.inl rfl)
end
abbrev sr:List S :=
   [.set 6 (.Ho "_law_draw" [.var 1,.bi .len [.var 2]] [0]),
   .ite (.cmp .eq (.var 4) (.cst (.int 3)))
    [.set 6 (.bin .mod (.var 5) (.bi .len [.var 2]))]
    [],
   .exp (.Ho "_law_lay" [(.var 3),(.Ho "_law_row" [(.var 1),(.var 2),(.var 6),(.cmp .gt (.var 4) (.cst (.int 1)))] [0])] [0])]
abbrev su:List S :=
   [.set 7 (.Ho "_law_source" [.var 0,.cst (.int 0)] [0]),
   .exp (.Ho "_law_lay" [(.var 3),(.Ho "_law_row" [(.var 7),(.var 2),(.Ho "_law_draw" [(.var 7),(.bi .len [(.var 2)])] [0]),(.cmp .eq (.var 4) (.cst (.int 2)))] [0])] [0])]
abbrev dA(ns:List Int)(u:U)(ws:List Str)(rs:List Row)(way:Int)(o5 o6 o7:Option (Kd×U)):au:=[bD (.io,.lst (ns.map .int)),bD (.io,u),bD (.any,.lst (ws.map .str)),bD (.own,.lst (rs.map A')),bD (.loc,.int way),o5,o6,o7]
abbrev bS(ws:List Str)(r:Row):Prop:=r.1∈ws/\r.2.Nodup/\(∀y∈r.2,y∈ws)/\r.2.length<=8
abbrev dm(ws:List Str)(rs:List Row):Prop:=(∀r∈rs,bS ws r)/\(rs.map keyOf).Nodup
def dm.lay(h:dm ws rs)(d:bS ws r):dm ws (layR rs r):=by
 unfold layR;split
 .show h
 .rename_i hk;show⟨λx hx=>?_,?_⟩
  .rcases i3.mp hx with hx|hx
   .show h.1 x hx
   .rw[hV]at hx;subst hx;show d
  .rw[ka];show oT.mpr ⟨h.2,by simp,λa f c b=>by rw[Ya,hV]at b;subst b;show λe=>hk (e▸f)⟩
def qF:(layR rs r).length<=rs.length+1:=by
 unfold layR;split
 .lia
 .simp
def vO(s:bI Γ)(v:lE Γ)(w:lF Γ){k:Nat}(y:Src T u)(Q:T+18<2 ^ 62)(Y:0<ws.length)(z:ws.length<1000000)(h:dm ws rs)(hl:rs.length<1000):
  ∃u' a c,Run (execs Γ sr) (dA ns u ws rs way (bD (.loc,.int (0+(k:Int)))) o6 o7) .nx (dA ns u' ws a way (bD (.loc,.int (0+(k:Int)))) c o7)/\Src (T+18) u'/\dm ws a/\a.length<=rs.length+1:=by
 have⟨n,f,l,A,o,s1⟩:=dz (st:=dA ns u ws rs way (bD (.loc,.int (0+(k:Int)))) o6 o7) s (i:=1) (k:=.io) (e:=.bi .len [.var 2]) (m:=((ws.map U.str).length:Nat)) rfl rfl (cy (aa (aC rfl) af) trivial b8) y ⋯ (by simp;lia) (by simp;lia);rw[c2]at o;have d:∀at_:Int,0<=at_->at_<ws.length->∃u' a c,Run (execs Γ [.exp (.Ho "_law_lay" [.var 3,.Ho "_law_row" [.var 1,.var 2,.var 6,.cmp .gt (.var 4) (.cst (.int 1))] [0]] [0])]) (dA ns f ws rs way (bD (.loc,.int (0+(k:Int)))) (bD (.loc,.int at_)) o7) .nx (dA ns u' ws a way (bD (.loc,.int (0+(k:Int)))) c o7)/\Src (T+18) u'/\dm ws a/\a.length<=rs.length+1:=by
  intro at_ B C;have⟨r,D,q,G,H,I,J,L⟩:=yH (st:=dA ns f ws rs way (bD (.loc,.int (0+(k:Int)))) (bD (.loc,.int at_)) o7) (st1:=dA ns f ws rs way (bD (.loc,.int (0+(k:Int)))) (bD (.loc,.int at_)) o7) (st2:=dA ns f ws rs way (bD (.loc,.int (0+(k:Int)))) (bD (.loc,.int at_)) o7) v (i:=1) (j:=2) (e:=.var 6) (t:=.cmp .gt (.var 4) (.cst (.int 1))) (k0:=.io) (k:=.io) (kw:=.any) (b:=cc (1<way)) rfl rfl rfl (.inr rfl) (ae rfl) (gF (ae rfl) ai trivial (jG rfl)) rfl rfl s1 ⋯ z B C;have N:bS ws r:=⟨mx G,H,I,J⟩
  show⟨D,layR rs r,_,yJ (yI w (k0:=.own) (k:=.own) (rs:=rs) rfl rfl q rfl rfl ⋯ (λx O=>by have:=(h.1 x O).2.2.2;lia) hl) av,L.up ⋯,h.lay N,qF⟩
 by_cases p:way=3
 .subst p;have⟨u',a,c,q,g⟩:=d ((0+(k:Int)) % (ws.length:Nat)) (Qd _ ⋯) (QI _ ⋯);show⟨u',a,c,az l aI (d4 (aS (ae rfl) ai trivial (bV rfl)) (az (bE (ae rfl) (cy (aa (aC rfl) af) trivial b8) trivial (eF (by simp;lia))) aI av) ?_),g⟩;rw[c2];show q
 .have⟨u',a,c,q,g⟩:=d n A o;show⟨u',a,c,az l aI (bt (aS (ae rfl) ai trivial (bV (by simp[p]))) av q),g⟩
def vP(o:iO Γ)(p:bI Γ)(s:lE Γ)(w:lF Γ)(N:0<ws.length)(y:ws.length<1000000)(d:dm ws rs)(hl:rs.length<1000):
  ∃a z,Run (execs Γ su) (dA (ns++[c]) u ws rs way o5 o6 o7) .nx (dA ns u ws a way o5 o6 z)/\dm ws a/\a.length<=rs.length+1:=by
 have f:=yL (st:=dA (ns++[c]) u ws rs way o5 o6 o7) (st1:=dA (ns++[c]) u ws rs way o5 o6 o7) o (i:=0) (k0:=.io) (k:=.io) (e:=.cst (.int 0)) (m:=0) rfl rfl ai rfl rfl;have g:Src 0 (fI (c / 2) 0 (c % 2)):=⟨_,_,_,rfl,⋯,⋯⟩
 generalize fI (c / 2) 0 (c % 2)=v at f g;have⟨n,h,A,B,l,s1⟩:=dz (st:=dA ns u ws rs way o5 o6 (bD (.own,v))) p (i:=7) (k:=.own) (e:=.bi .len [.var 2]) (m:=((ws.map U.str).length:Nat)) rfl rfl (cy (aa (aC rfl) af) trivial b8) g ⋯ (by simp;lia) (by simp;lia);rw[c2]at l;have⟨r,C,q,D,G,H,I,O⟩:=yH (st:=dA ns u ws rs way o5 o6 (bD (.own,v))) (st1:=dA ns u ws rs way o5 o6 (bD (.own,h))) (st2:=dA ns u ws rs way o5 o6 (bD (.own,h))) s (i:=7) (j:=2) (t:=.cmp .eq (.var 4) (.cst (.int 2))) (k0:=.own) (k:=.own) (kw:=.any) (b:=(way==2)) rfl rfl rfl (.inr rfl) A (gF (ae rfl) ai trivial (bV rfl)) rfl rfl s1 ⋯ y B l;have J:bS ws r:=⟨mx D,G,H,I⟩
 show⟨layR rs r,bD (.own,C),az (st2:=dA ns u ws rs way o5 o6 (bD (.own,v))) f bb (yJ (yI w (k0:=.own) (k:=.own) (rs:=rs) rfl rfl q rfl rfl ⋯ (λx L=>by have:=(d.1 x L).2.2.2;lia) hl) av),d.lay J,qF⟩
abbrev sv:E:=.and [.cmp .gt (.bi .len [.var 0]) (.cst (.int 0)),.cmp .lt (.bi .len [.var 3]) (.cst (.int 60))]
def ng:Run (HH Γ sv) (dA ns u ws rs way o5 o6 o7) (cc (0<ns.length)&&cc (rs.length<60)) (dA ns u ws rs way o5 o6 o7):=by
 show gG (lr (aS (cy (aa (dC rfl) af) ∅ b8) ai trivial (jG ?_)) λ_=>cD (aS (cy (aa (aA rfl) af) ∅ b8) ai trivial (B4 ?_)))
 .rw[c2];show decide_eq_decide.mpr ⋯
 .rw[c2];show decide_eq_decide.mpr ⋯
def sy(m:iO Γ)(n:bI Γ)(o:lE Γ)(p:lF Γ)(q:0<ws.length)(r:ws.length<1000000):
  ∀(k f:Nat) (ns:List Int) (rs:List Row) (o7:Option (Kd×U)),ns.length=k->k<f->dm ws rs->rs.length<=60->∃d b i,Run (fG (HH Γ sv) (execs Γ su) f) (dA ns u ws rs way o5 o6 o7) .nx (dA d u ws b way o5 o6 i)/\dm ws b/\b.length<=60/\d.length<=ns.length:=by
 intro k;induction k with
 |zero =>
  intro f ns rs o7 hk s h hl;obtain⟨f,rfl⟩:∃g,f=g+1:=⟨f - 1,⋯⟩
  have a:=ng (Γ:=Γ) (ns:=ns) (u:=u) (ws:=ws) (rs:=rs) (way:=way) (o5:=o5) (o6:=o6) (o7:=o7);rw[Z8 (show ¬0<ns.length by lia)]at a;show⟨ns,rs,o7,m6 a,h,hl,ix _⟩
 |succ k t =>
  intro f ns rs o7 hk s h hl;obtain⟨f,rfl⟩:∃g,f=g+1:=⟨f - 1,⋯⟩
  have a:=ng (Γ:=Γ) (ns:=ns) (u:=u) (ws:=ws) (rs:=rs) (way:=way) (o5:=o5) (o6:=o6) (o7:=o7);rw[Z9 (show 0<ns.length by lia)]at a;by_cases j:rs.length<60
  .rw[Z9 j]at a;obtain⟨ms,c,rfl⟩:∃ms c,ns=ms++[c]:=by
    have l:ns≠[]:=λe=>by rw[e]at hk;cases hk
    show⟨ns.dropLast,ns.getLast l,(UN l).symm⟩
   have v:ms.length=k:=by simpa using hk
   have⟨w,x,y,b1,C⟩:=vP (u:=u) (ws:=ws) (way:=way) (o5:=o5) (o6:=o6) (o7:=o7) (ns:=ms) (c:=c) m n o p q r h ⋯;have⟨d,b,i,z,A,B,D⟩:=t f ms w x v ⋯ b1 ⋯;show⟨d,b,i,qy a y z,A,B,by simp;lia⟩
  .rw[Z8 j]at a;show⟨ns,rs,o7,m6 a,h,hl,ix _⟩
abbrev Ca:List S :=
   [.set 3 (.lst []),
    .set 4 (.Ho "_law_draw" [.var 1,.cst (.int 4)] [0]),
    .HC cK [5] .IG [.Ho "_law_draw" [.var 1,.cst (.int 25)] [0]] sr,
    .Ly sv su,
    .ret (.bi .tuple [(.var 3)])]
abbrev oR:Fn:=⟨"_law_book",3,8,.KG [0,1]::Ca⟩
def sA(z:iO Γ)(g:bI Γ)(l:lE Γ)(n:lF Γ){ns:List Int}(o:Src T u)(Q:T+500<2 ^ 62)(Y:ns.length<1000)(p:0<ws.length)(s:ws.length<1000000):
  ∃(rs:List Row) (c:List Int) (u':U),gv Γ oR [0,1] Ca [.lst (ns.map .int),u,.lst (ws.map .str)]=bD (.ok (.loc,.tup [.tup (rs.map A'),.lst (c.map .int),u']))/\dm ws rs/\rs.length<=60/\c.length<=ns.length/\Src (T+500) u':=by
 have A:(60:Nat)<df:=by decide
 obtain⟨way,B,C,_,_,s1⟩:=dz (st:=[bD (.io,.lst (ns.map .int)),bD (.io,u),bD (.any,.lst (ws.map .str)),bD (.own,.lst []),cb,cb,cb,cb]) g (i:=1) (k:=.io) (e:=.cst (.int 4)) (m:=4) rfl rfl ai o ⋯ ⋯ ⋯;have⟨m,v,D,m0,m1,s2⟩:=dz (st:=dA ns B ws [] way cb cb cb) g (i:=1) (k:=.io) (e:=.cst (.int 25)) (m:=25) rfl rfl ai s1 ⋯ ⋯ ⋯;have⟨m,rfl⟩:=vl m0;obtain⟨st',G,a,b,o5,o6,rfl,s3,b3,w,_⟩:=bu (rs:=[(.loc,.int (m:Nat))]) (t:=cK) (is:=[5]) (body:=execs Γ sr) (λi:Nat=>(Kd.loc,U.int (0+(i:Int)))) (λd r st=>∃(a:U) (b:List Row) (o5 o6:Option (Kd×U)),st=dA ns a ws b way o5 o6 cb/\Src (T+2+18 * (d.length:Nat)) a/\dm ws b/\b.length<=d.length/\d.length+r.length=m)
  (λd r st _=>trivial) (λd y r st h=>by
   have⟨a,b,o5,o6,rfl,s3,b3,w,H⟩:=h;simp only[ke]at H;have⟨I,J,Lk,q,s4,b4,x⟩:=vO (ns:=ns) (way:=way) (k:=y) (o6:=o6) (o7:=cb) g l n s3 ⋯ p s b3 ⋯;show⟨dA ns a ws b way (bD (.loc,.int (0+(y:Int)))) o6 cb,_,aI,q,I,J,_,_,rfl,s4.up (by simp;lia),b4,?_,?_⟩
   .simp;lia
   .simp;lia) (hQ m) [] (dA ns v ws [] way cb cb cb) ⟨v,[],cb,cb,rfl,s2.up (by simp;lia),⟨by simp,by simp⟩,by simp,by simp⟩
 rw[hU,x3]at s3 w;have⟨c,j,L,N,b4,x,O⟩:=sy z g l n (u:=a) (way:=way) (o5:=o5) (o6:=o6) p s ns.length fuel ns b cb rfl (by unfold fuel;lia) b3 ⋯;show⟨j,c,a,?_,b4,x,O,s3.up ⋯⟩;show cq (st0:=[bD (.io,.lst (ns.map .int)),bD (.io,u),bD (.any,.lst (ws.map .str)),cb,cb,cb,cb,cb]) (f:=.rt .loc (.tup (j.map A'))) (st:=dA c a ws j way o5 o6 L) rfl ?_ ?_ rfl rfl
 .obtain⟨_,_,_,rfl,_⟩:=o;rfl
 show az (cp af trivial aH (i8 _)) bb (az C aI ?_);show bX (rs:=[(.loc,.int (m:Nat))]) (aa D af) trivial (ic ⋯) rfl G (qz N ?_);show bF (cy (aa (aA rfl) af) ∅ rfl) eE
end TM
namespace TM
open PySem L2 HN
theorem yM{cond:M Bool}(it:α->Kd×U)(I:List α->List α->List U->au->Prop)(hs:∀d r a st,I d r a st->bq src st)
  (YD:∀d y q a st,I d (y::q) a st->∃s1 s2 s3 s4 r u,Run (dv t (hQ k) (it y)) (i5 k cb++st) () s1/\Run cond s1 b6 s2/\Run elt s2 r s3/\Run (lift r) s3 u s4/\I (d++[y]) q (a++[u]) (s4.drop k)) :
  ∀(b d:List α) (acc:List U) (st:au),I d b acc st->acc.length+b.length<=df->∃us st',Run (bP k t cond elt src (b.map it) acc) st us st'/\I (d++b) [] us st'
 |[],d,acc,st,h,_=>⟨acc,st,uf (hs _ _ _ _ h),by rw[rr];show h⟩
 |y::b,d,acc,st,h,hl=>by
  rw[ke]at hl;have⟨s1,s2,s3,s4,r,u,c,e,f,g,i⟩:=YD d y b acc st h;have⟨us,st',j,l⟩:=yM it I hs YD b (d++[y]) (acc++[u]) _ i (by simp;lia);show⟨us,st',oH (hs _ _ _ _ h) c e f g ⋯ j,by simpa using l⟩
def qG(a:0<=n)(b:n<26):∃c,Iv small.cps.toList n=bD c:=by
 have⟨k,rfl⟩:=vl a;have hl:small.cps.toList.length=26:=by decide
 show⟨small.cps.toList[k]'⋯,fg (by simp)⟩
def yN(g:bI Γ)(j:Src T u)(z:T+8<2 ^ 62):
  ∃x u',Run (ev Γ (.Mm .join (.cst (.str "")) [.comp 1 cK .IG [.cst (.int 8)] [] (.idx (.var 2) (.Ho "_law_draw" [.var 1,.cst (.int 26)] [0]))])) (bD (.io,u)::bD (.loc,.str small)::rest) (.loc,.str x) (bD (.io,u')::bD (.loc,.str small)::rest)/\x.length=8/\Src (T+8) u':=by
 have l:(100:Nat)<=df:=by decide
 obtain⟨us,st',f,u',b,rfl,rfl,hl,hs,_⟩:=yM (k:=1) (t:=cK) (cond:=aL Γ []) (elt:=ev Γ (.idx (.var 2) (.Ho "_law_draw" [.var 1,.cst (.int 26)] [0]))) (src:=[(.loc,.int (8:Nat))]) (λi:Nat=>(Kd.loc,U.int (0+(i:Int))))
  (λd r a st=>∃(u':U) (b:List Nat),st=bD (.io,u')::bD (.loc,.str small)::rest/\a=(b.map HN.one).map U.str/\b.length=d.length/\Src (T+(d.length:Nat)) u'/\d.length+r.length=8) (λ_ _ _ _ _=>trivial)
  (λd y q a st h=>by
   have⟨u',b,rfl,rfl,hl,hs,o⟩:=h;rw[ke]at o;have⟨n,p,r,s,v,s2⟩:=dz (st:=bD (.loc,.int (0+(y:Int)))::bD (.io,u')::bD (.loc,.str small)::rest) g (i:=1) (k:=.io) (e:=.cst (.int 26)) (m:=26) rfl rfl ai hs ⋯ ⋯ ⋯;have⟨c,f⟩:=qG s v;show⟨_,_,_,_,_,_,d5 aI,d0,aZ (ae rfl) r trivial (nN qp f),aF,p,b++[c],rfl,by simp,by simp[hl],s2.up (by simp;lia),by simp;lia⟩)
  (hQ 8) [] [] (bD (.io,u)::bD (.loc,.str small)::rest) ⟨u,[],rfl,rfl,rfl,by simpa using j,by simp⟩ (by simp;lia)
 rw[hU,x3]at hl hs;have w:lV .join (.str "") [(.own,.lst ((b.map HN.one).map U.str))]=bD (.loc,.str (Sq tr (b.map HN.one))):=by
  change(strsOf ((b.map HN.one).map U.str)).bind _=_;rw[dO];change(if Y6 tr (b.map HN.one)=b6 then _ else _)=_;rw[Z6 (HN.qo b ⋯)];rfl
 show⟨Sq tr (b.map HN.one),u',yj ai (aa (bH (aa ai af) trivial (ic (n:=8) ⋯) f) af) trivial w,?_,hs⟩;change(Sq tr (b.map HN.one)).cps.size=8;rw[<-hY,HN.join_ones,hl]
abbrev yO:List S:=[.app 7 (.ite (.cmp .eq (.var 10) (.cst (.int 1))) (.var 9) (.bin .add (.bin .add (.var 9) (.cst (.str "/"))) (.bi .str [.var 10])))]
abbrev yP:List S :=
   .ite (.cmp .eq (.var 4) (.cst (.int 3)))
    [.set 10 (.bin .add (.cst (.int 1)) (.Ho "_law_draw" [.var 0,.cst (.int 99)] [0]))]
    []::yO
abbrev yQ:List S :=
   .ite (.cmp .gt (.var 4) (.cst (.int 1)))
    [.set 9 (.bin .add (.idx (.var 1) (.bin .mod (.bin .add (.var 6) (.bin .mul (.cst (.int 7)) (.var 8))) (.cst (.int 26)))) (.LQ (.var 3) [.cst (.int 1)] [.var 5])),
    .set 10 (.cst (.int 1))]
    []::yP
abbrev sC:List S :=
   .set 9 (.LQ (.var 3) [] [.bin .add (.cst (.int 1)) (.bin .mod (.var 8) (.cst (.int 8)))]) ::
   .set 10 (.bin .add (.cst (.int 1)) (.bin .MP (.var 8) (.cst (.int 8)))) ::
   .ite (.cmp .eq (.var 4) (.cst (.int 1)))
    [.set 9 (.LQ (.var 3) [] [.var 5]),
    .set 10 (.bin .add (.cst (.int 1)) (.var 8))]
    []::yQ
abbrev yR:List S :=
   [.set 1 (.cst (.str "abcdefghijklmnopqrstuvwxyz")),
    .set 2 (.bin .add (.cst (.int 1)) (.Ho "_law_draw" [.var 0,.idx (.lst [.cst (.int 8),.cst (.int 16),.cst (.int 24)]) (.Ho "_law_draw" [.var 0,.cst (.int 3)] [0])] [0])),
    .set 3 (.Mm .join (.cst (.str "")) [.comp 1 cK .IG [.cst (.int 8)] [] (.idx (.var 2) (.Ho "_law_draw" [.var 1,.cst (.int 26)] [0]))]),
    .set 4 (.Ho "_law_draw" [.var 0,.cst (.int 4)] [0]),
    .set 5 (.bin .add (.cst (.int 1)) (.Ho "_law_draw" [.var 0,.cst (.int 8)] [0])),
    .set 6 (.Ho "_law_draw" [.var 0,.cst (.int 26)] [0]),
    .set 7 (.lst []),
    .HC cK [8] .IG [.var 2] sC,
    .ret (.var 7)]
abbrev lG:Fn:=⟨"_law_words",1,11,.KG [0]::yR⟩
abbrev jn(u:U)(many:Int)(base:Str)(way size first:Int)(acc:List Str)(o8 o9 o10:Option (Kd×U)):au:=[bD (.io,u),bD (.loc,.str small),bD (.loc,.int many),bD (.loc,.str base),bD (.loc,.int way),bD (.loc,.int size),bD (.loc,.int first),bD (.own,.lst (acc.map .str)),o8,o9,o10]
def j5(h:x.length<=df):pT (k,.str x) lo a=bD (.loc,.str (PySem.StrLaws.sliceText x lo a)):=by
 change(if x.length<=df then _ else _)=_;rw[Z6 h]
def nh(e:acc.length<1000)(f:w.length<=9)(g:1<=s)(s1:s<=99):
  ∃x:Str,x.length<=20/\Run (execs Γ yO) (jn u many base way size first acc o8 (bD (.loc,.str w)) (bD (.loc,.int s))) .nx (jn u many base way size first (acc++[x]) o8 (bD (.loc,.str w)) (bD (.loc,.int s))):=by
 have b:(1000:Nat)<=df:=by decide
 by_cases h:s=1
 .subst h;show⟨w,⋯,fC (k:=.own) (k':=.own) rfl (Ed (aS (ae rfl) ai trivial (bV rfl)) (ae rfl)) aF rfl rfl (by simp;lia) ?_⟩;rw[show acc.map U.str++[U.str w]=(acc++[w]).map U.str by simp];show av
 .have i:=vK (k:=s) ⋯ s1;have c:JI .str [(.loc,.int s)]=bD (.loc,.str (wK s)):=by
   simp only[JI,gZ,Ag];rw[Z6 (by
    have:s.natAbs<2 ^ 7:=by lia
    have d:s.natAbs≠0:=by lia
    have:=(Nat.log2_lt d).mpr this;lia)]
   rfl
  have a:(w++("/":Str)).length=w.length+1:=by rw[len_list,len_list,app_list,i0];rfl
  show⟨w++("/":Str)++wK s,by rw[len_list,app_list,i0,<-len_list,<-len_list,a];lia,fC (k:=.own) (k':=.own) rfl (Ee (aS (ae rfl) ai trivial (bV (by simp[h]))) (bE (bE (ae rfl) ai trivial (oJ (by change w.length+1<=df;lia))) (cy (aa (ae rfl) af) trivial c) trivial (oJ (by rw[a];lia)))) aF rfl rfl (by simp;lia) ?_⟩;rw[show acc.map U.str++[U.str (w++("/":Str)++wK s)]=(acc++[w++("/":Str)++wK s]).map U.str by simp];show av
def ni(g:bI Γ)(b:Src T u)(p:T+1<2 ^ 62)(c:acc.length<1000)(d:w.length<=9)(j:1<=s)(s1:s<=99):
  ∃u' x o9 o10,Run (execs Γ yP) (jn u many base way size first acc o8 (bD (.loc,.str w)) (bD (.loc,.int s))) .nx (jn u' many base way size first (acc++[x]) o8 o9 o10)/\Src (T+1) u'/\x.length<=20:=by
 by_cases h:way=3
 .subst h;have⟨n,f,l,r,t,o⟩:=dz (st:=jn u many base 3 size first acc o8 (bD (.loc,.str w)) (bD (.loc,.int s))) g (i:=0) (k:=.io) (e:=.cst (.int 99)) (m:=99) rfl rfl ai b ⋯ ⋯ ⋯;have⟨x,a,q⟩:=nh (Γ:=Γ) (u:=f) (many:=many) (base:=base) (way:=3) (size:=size) (first:=first) (acc:=acc) (o8:=o8) (w:=w) (s:=1+n) c d ⋯ ⋯;show⟨f,x,_,_,d4 (aS (ae rfl) ai trivial (bV rfl)) (az (bE ai l trivial cB) aI av) q,o,a⟩
 .have⟨x,a,q⟩:=nh (Γ:=Γ) (u:=u) (many:=many) (base:=base) (way:=way) (size:=size) (first:=first) (acc:=acc) (o8:=o8) (w:=w) (s:=s) c d j s1;show⟨u,x,_,_,bt (aS (ae rfl) ai trivial (bV (by simp[h]))) av q,b.up ⋯,a⟩
def nj(a:bI Γ){k:Nat}(b:Src T u)(d:T+1<2 ^ 62)(e:acc.length<1000)(f:w.length<=9)(g:1<=s)(s1:s<=99)(p:base.length=8)(i:1<=size)(r:size<=8)(t:0<=first)(v:first<26)(hk:k<1000):
  ∃u' x o9 o10,Run (execs Γ yQ) (jn u many base way size first acc (bD (.loc,.int (0+(k:Int)))) (bD (.loc,.str w)) (bD (.loc,.int s))) .nx (jn u' many base way size first (acc++[x]) (bD (.loc,.int (0+(k:Int)))) o9 o10)/\Src (T+1) u'/\x.length<=20:=by
 have j:(1000:Nat)<=df:=by decide
 by_cases h:1<way
 .have l:0<=(first+7 * (0+(k:Int))) % 26:=Qd _ ⋯;have m:(first+7 * (0+(k:Int))) % 26<26:=QI _ ⋯;have⟨c,n⟩:=qG l m;have y:=len_list base;have z:(PySem.StrLaws.sliceText base (bD 1) (bD size)).length<=8:=by
   rw[PySem.StrLaws.sliceText_plain ⟨⋯,i,⋯⟩,len_list];simp;lia
  have JU:(HN.one c).length=1:=rfl;have o:(HN.one c++PySem.StrLaws.sliceText base (bD 1) (bD size)).length<=9:=by rw[len_list,app_list,i0,<-len_list,<-len_list];lia
  have⟨u',x,o9,o10,q,hs⟩:=ni (Γ:=Γ) a (u:=u) (many:=many) (base:=base) (way:=way) (size:=size) (first:=first) (acc:=acc) (o8:=bD (.loc,.int (0+(k:Int)))) (w:=HN.one c++PySem.StrLaws.sliceText base (bD 1) (bD size)) (s:=1) b d e o ⋯ ⋯;show⟨u',x,o9,o10,d4 (aS (ae rfl) ai trivial (jG (by simp[h]))) (az (bE (aZ (ae rfl) (bE (bE (ae rfl) (bE ai (ae rfl) trivial (kf ⋯)) trivial cB) ai trivial (eF ⋯)) trivial (nN qp n)) (qk (ae rfl) (mX ai) (mX (ae rfl)) trivial (j5 ⋯)) trivial (oJ ⋯)) aI (az ai aI av)) q,hs⟩
 .have⟨u',x,o9,o10,q,hs⟩:=ni (Γ:=Γ) a (u:=u) (many:=many) (base:=base) (way:=way) (size:=size) (first:=first) (acc:=acc) (o8:=bD (.loc,.int (0+(k:Int)))) (w:=w) (s:=s) b d e f g s1;show⟨u',x,o9,o10,bt (aS (ae rfl) ai trivial (jG (by simp[h]))) av q,hs⟩
def yS(a:0<=j)(b:x.length=8):(PySem.StrLaws.sliceText x cb (bD j)).length<=9:=by
 have⟨j,rfl⟩:=vl a;have h:=len_list (PySem.StrLaws.sliceText x cb (bD (j:Int)));have hl:=len_list x;rw[Eh]at h;rw[h,G1];lia
def vQ(b:bI Γ){k:Nat}(c:Src T u)(d:T+1<2 ^ 62)(e:acc.length<1000)(a:base.length=8)(f:1<=size)(g:size<=8)(i:0<=first)(j:first<26)(hk:k<98):
  ∃u' x l m,Run (execs Γ sC) (jn u many base way size first acc (bD (.loc,.int (0+(k:Int)))) o9 o10) .nx (jn u' many base way size first (acc++[x]) (bD (.loc,.int (0+(k:Int)))) l m)/\Src (T+1) u'/\x.length<=20:=by
 have n:(1000:Nat)<=df:=by decide
 have o:0<=(0+(k:Int)) % 8:=Qd _ ⋯;by_cases h:way=1
 .have⟨u',x,o9,o10,q,hs⟩:=nj (Γ:=Γ) b (u:=u) (many:=many) (base:=base) (way:=way) (size:=size) (first:=first) (acc:=acc) (k:=k) (w:=PySem.StrLaws.sliceText base cb (bD size)) (s:=1+(0+(k:Int))) c d e (yS ⋯ a) ⋯ ⋯ a f g i j ⋯;show⟨u',x,o9,o10,az (qk (ae rfl) ub (mX (bE ai (bE (ae rfl) ai trivial (eF ⋯)) trivial cB)) trivial (j5 ⋯)) aI (az (bE ai (bE (ae rfl) ai trivial (lp ⋯)) trivial cB) aI (d4 (aS (ae rfl) ai trivial (bV (by simp[h]))) (az (qk (ae rfl) ub (mX (ae rfl)) trivial (j5 ⋯)) aI (az (bE ai (ae rfl) trivial cB) aI av)) q)),hs⟩
 .have⟨u',x,o9,o10,q,hs⟩:=nj (Γ:=Γ) b (u:=u) (many:=many) (base:=base) (way:=way) (size:=size) (first:=first) (acc:=acc) (k:=k) (w:=PySem.StrLaws.sliceText base cb (bD (1+(0+(k:Int)) % 8))) (s:=1+(0+(k:Int)) / 8) c d e (yS ⋯ a) ⋯ ⋯ a f g i j ⋯;show⟨u',x,o9,o10,az (qk (ae rfl) ub (mX (bE ai (bE (ae rfl) ai trivial (eF ⋯)) trivial cB)) trivial (j5 ⋯)) aI (az (bE ai (bE (ae rfl) ai trivial (lp ⋯)) trivial cB) aI (bt (aS (ae rfl) ai trivial (bV (by simp[h]))) av q)),hs⟩
def Hf(a:0<=n)(b:n<3):∃m:Int,8<=m/\m<=24/\Iv [U.int 8,.int 16,.int 24] n=bD (.int m):=by
 have⟨k,rfl⟩:=vl a;have:k=0\/k=1\/k=2:=by lia
 rcases this with rfl|rfl|rfl
 .show⟨8,⋯,⋯,rfl⟩
 .show⟨16,⋯,⋯,rfl⟩
 .show⟨24,⋯,⋯,rfl⟩
def vR(a:bI Γ)(l:Src T u)(hT:T+100<2 ^ 62):
  ∃(ws:List Str) (u':U),gv Γ lG [0] yR [u]=bD (.ok (.own,.tup [.lst (ws.map .str),u']))/\1<=ws.length/\ws.length<=24/\Src (T+100) u'/\∀x∈ws,x.length<=20:=by
 have A:(1000:Nat)<=df:=by decide
 let S1:U->au:=λv=>[bD (.io,v),bD (.loc,.str small),cb,cb,cb,cb,cb,cb,cb,cb,cb]
 have⟨i,B,C,D,G,s1⟩:=dz (st:=S1 u) a (i:=0) (k:=.io) (e:=.cst (.int 3)) (m:=3) rfl rfl ai l ⋯ ⋯ ⋯;have⟨m,m0,m1,em⟩:=Hf D G;have⟨n,u2,H,n0,n1,s2⟩:=yD (st:=S1 u) (st1:=S1 B) a (i:=0) (k:=.io) (k0:=.io) (e:=.idx (.lst [.cst (.int 8),.cst (.int 16),.cst (.int 24)]) (.Ho "_law_draw" [.var 0,.cst (.int 3)] [0])) (m:=m) rfl rfl (aZ (x:=(.own,.lst [U.int 8,.int 16,.int 24])) (cp (aa ai (aa ai (aa ai af))) trivial (aB aF (aB aF (aB aF aH))) (by change 3<=df;lia)) C trivial (cE em)) rfl rfl s1 ⋯ ⋯ ⋯;have⟨base,b,I,J,s3⟩:=yN (rest:=[bD (.loc,.int (1+n)),cb,cb,cb,cb,cb,cb,cb,cb]) a s2 ⋯;obtain⟨way,g,L,_,_,s4⟩:=dz (st:=[bD (.io,b),bD (.loc,.str small),bD (.loc,.int (1+n)),bD (.loc,.str base),cb,cb,cb,cb,cb,cb,cb]) a (i:=0) (k:=.io) (e:=.cst (.int 4)) (m:=4) rfl rfl ai s3 ⋯ ⋯ ⋯;have⟨size,N,O,z0,z1,Q⟩:=dz (st:=[bD (.io,g),bD (.loc,.str small),bD (.loc,.int (1+n)),bD (.loc,.str base),bD (.loc,.int way),cb,cb,cb,cb,cb,cb]) a (i:=0) (k:=.io) (e:=.cst (.int 8)) (m:=8) rfl rfl ai s4 ⋯ ⋯ ⋯;have⟨first,o,Y,f0,f1,s6⟩:=dz (st:=[bD (.io,N),bD (.loc,.str small),bD (.loc,.int (1+n)),bD (.loc,.str base),bD (.loc,.int way),bD (.loc,.int (1+size)),cb,cb,cb,cb,cb]) a (i:=0) (k:=.io) (e:=.cst (.int 26)) (m:=26) rfl rfl ai Q ⋯ ⋯ ⋯;have⟨many,O5⟩:=vl (show 0<=1+n by lia);obtain⟨st',hf,p,ws,o8,o9,o10,rfl,s,l7,b7,_⟩:=bu (rs:=[(.loc,.int (1+n))]) (t:=cK) (is:=[8]) (body:=execs Γ sC) (λi:Nat=>(Kd.loc,U.int (0+(i:Int)))) (λd r st=>∃(b:U) (ws:List Str) (o8 o9 o10:Option (Kd×U)),st=jn b (1+n) base way (1+size) first ws o8 o9 o10/\Src (T+13+(d.length:Nat)) b/\ws.length=d.length/\(∀x∈ws,x.length<=20)/\∃j,d=ZG 0 j/\r=ZG j (many - j)/\j<=many)
  (λd r st _=>trivial) (λd y r st h=>by
   have⟨b,ws,o8,o9,o10,rfl,s3,w,b3,j,rfl,c,hj⟩:=h;have XZ:j<many:=by
    rcases Nat.lt_or_ge j many with z|z
    .show z
    .rw[show many - j=0 by lia]at c;cases c
   rw[show many - j=(many - (j+1))+1 by lia,List.range'_succ]at c;cases c;rw[List.length_range']at s3 w;have⟨g,x,Jl,O4,q,s4,hx⟩:=vQ (Γ:=Γ) a (u:=b) (many:=1+n) (base:=base) (way:=way) (size:=1+size) (first:=first) (acc:=ws) (k:=y) (o9:=o9) (o10:=o10) s3 ⋯ ⋯ J ⋯ ⋯ f0 f1 ⋯;show⟨jn b (1+n) base way (1+size) first ws (bD (.loc,.int (0+(y:Int)))) o9 o10,_,aI,q,g,ws++[x],_,_,_,rfl,s4.up (by simp;lia),by simp[w],λz hz=>(i3.mp hz).elim (b3 z) λhz=>by rw[hV.mp hz];show hx,y+1,by have:=@List.range'_1_concat 0 y;simpa using this.symm,rfl,⋯⟩) (hQ many) [] (jn o (1+n) base way (1+size) first [] cb cb cb) ⟨o,[],cb,cb,cb,rfl,s6.up (by simp;lia),by simp,λ_ h=>(nomatch h),0,rfl,by rw[List.range_eq_range'];simp,⋯⟩
 rw[hU,x3]at s l7;show⟨ws,p,?_,⋯,⋯,s.up ⋯,b7⟩;show cq (st0:=[bD (.io,u),cb,cb,cb,cb,cb,cb,cb,cb,cb,cb]) (f:=.rt .own (.lst (ws.map .str))) (st:=(jn p (1+n) base way (1+size) first ws o8 o9 o10).set 7 cb) rfl ?_ ?_ rfl rfl
 .obtain⟨_,_,_,rfl,_⟩:=l;rfl
 show az (st2:=S1 u) ai aI (az (bE ai H trivial cB) aI (az I aI (az L aI (az (bE ai O trivial cB) aI (az Y aI (az (cp af trivial aH (i8 _)) bb ?_))))));show bX (rs:=[(.loc,.int (1+n))]) (xs:=(hQ many).map λi:Nat=>(Kd.loc,U.int (0+(i:Int)))) (aa (ae rfl) af) trivial (by rw[O5];show ic ⋯) rfl hf (bF (aA rfl) (iK rfl))
abbrev oS(Γ:Tab):Prop:=∀(T:Int) (u:U),Src T u->T+100<2 ^ 62->∃(ws:List Str) (u':U),Γ "_law_words" [u]=bD (.ok (.own,.tup [.lst (ws.map .str),u']))/\1<=ws.length/\ws.length<=24/\Src (T+100) u'/\∀x∈ws,x.length<=20
def Bp(a:bI (HA Pg d))(h:HR Pg "_law_words" lG):oS (HA Pg (d+1)):=by
 intro T u b c;have⟨ws,u',e,r⟩:=vR a b c;show⟨ws,u',by rw[cT h _ rfl];show e,r⟩
abbrev eL(ks:List Str)(x:Str):List Str:=if x∈ks then ks else ks++[x]
def yT:dput ks (ks.map f) x u=(eL ks x,(eL ks x).map λk=>if k=x then u else f k):=by
 unfold dput eL;by_cases h:x∈ks
 .rw[Z6 h,Z6 h];congr 1
  clear h;induction ks with
  |nil=>rfl
  |cons k ks a=>rw[eh,Kf,eh,eh,a]
 .rw[Z7 h,Z7 h];congr 1
  rw[ka,Ya,Z6 rfl];congr 1
  show mu λk hk=>?_;rw[Z7 (λe:k=x=>h (e▸hk))]
def sD(h:ks.Nodup):(eL ks x).Nodup:=by
 unfold eL;split
 .show h
 .rename_i d;show oT.mpr ⟨h,by simp,λa f c b=>by rw[hV]at b;subst b;show λe=>d (e▸f)⟩
def fY:y∈eL ks x↔y∈ks\/y=x:=by
 unfold eL;split
 .rename_i h;show⟨.inl,λz=>z.elim id λe=>e▸h⟩
 .simp
def Br(h:ks.length<1000):d9 (.str x) u (.Hn ks (ks.map f))=bD (.Hn (eL ks x) ((eL ks x).map λk=>if k=x then u else f k)):=by
 rw[ui h,yT]
abbrev Cb:List S:=[.put 1 (.var 4) (.cst (.bl b6))]
abbrev yU:List S:=[.put 1 (.var 2) (.cst (.bl b6)),.HC cK [4] .seq [.var 3] Cb]
abbrev yV:Fn:=⟨"_law_all",1,5,[.set 1 (.Ji cK),.HC b6 [2,3] .seq [.var 0] yU,.ret (.bi .sorted [.var 1])]⟩
abbrev d_(ks:List Str):U:=.Hn ks (ks.map λ_=>.bl b6)
def iP(h:ks.length<1000):d9 (.str x) (.bl b6) (d_ ks)=bD (d_ (eL ks x)):=by
 unfold d_;rw[Br h];congr 3
 funext k
 split<;>rfl
abbrev eZ(ws ks:List Str):Prop:=ks.Nodup/\∀x∈ks,x∈ws
def eZ.ins(h:eZ ws ks)(a:x∈ws):eZ ws (eL ks x):=⟨sD h.1,λy b=>(fY.mp b).elim (h.2 y) λe=>e▸a⟩
def eZ.len(h:eZ ws ks):ks.length<=ws.length:=bY h.1 h.2
abbrev oU(rs:List Row)(ks:List Str)(o2 o3 o4:Option (Kd×U)):au:=[bD (.loc,.tup (rs.map A')),bD (.own,d_ ks),o2,o3,o4]
def fy{rs:List Row}:Ju .seq [(k,.tup (rs.map A'))]=bD (rs.map λr=>(kE k,A' r)):=by
 change bD ((rs.map A').map λu=>(kE k,u))=_;rw[hh];rfl
abbrev yW(Γ:Tab):Prop:=∀(ws:List Str) (rs:List Row),ws.length<=24->(∀r∈rs,bS ws r)->∃ts,Γ "_law_all" [.tup (rs.map A')]=bD (.ok (.own,.lst (ts.map .str)))/\eZ ws ts
abbrev yX:List S :=
   [.set 7 (.J8 4 (.Ho "_law_draw" [.var 0,.bi .len [.var 4]] [0])),
   .ite (.and [.cmp .Hz (.var 7) (.var 3),.cmp .eq (.Ho "_law_draw" [.var 0,.var 2] [0]) (.cst (.int 0))])
    [.app 5 (.tup [.var 7,.tup []])]
    []]
abbrev Gb:List S :=
   [.ite (.cmp .ne (.Ho "_law_draw" [.var 0,.cst (.int 8)] [0]) (.cst (.int 1)))
      [.ret (.var 1)]
      [],
    .set 2 (.bin .add (.cst (.int 1)) (.Ho "_law_draw" [.var 0,.cst (.int 2)] [0])),
    .set 3 (.comp 1 cK .seq [.var 1] [.cmp .eq (.idx (.var 0) (.cst (.int 1))) (.tup [])] (.idx (.var 0) (.cst (.int 0)))),
    .set 4 (.call "_law_all" [.var 1]),
    .set 5 (.lst []),
    .HC cK [6] .IG [.bi .len [.var 4]] yX,
    .ret (.bin .add (.var 1) (.bi .tuple [(.var 5)]))]
abbrev Bs:Fn:=⟨"_law_widened",2,8,.KG [0]::Gb⟩
def sE(h:(!(i==j))=c):bO .ne (.int i) (.int j)=bD c:=by subst h;rfl
abbrev jR(u:U)(rs:List Row)(share:Int)(hs ts:List Str)(more:List Row)(o6 o7:Option (Kd×U)):au:=[bD (.io,u),bD (.loc,.tup (rs.map A')),bD (.loc,.int share),bD (.own,.lst (hs.map .str)),bD (.own,.lst (ts.map .str)),bD (.own,.lst (more.map A')),o6,o7]
def yY(o:bI Γ)(A:Src T u)(N:T+2<2 ^ 62)(B:0<share)(O:share<=2)(Q:0<ts.length)(Y:ts.length<=24)(p:∀x∈ts,x∈ws)(h:∀r∈more,bS ws r)(VI:more.length<1000):
  ∃u' a j C,Run (execs Γ yX) (jR u rs share hs ts more o6 o7) .nx (jR u' rs share hs a j o6 C)/\Src (T+2) u'/\a.length+1=ts.length/\(∀x∈a,x∈ws)/\(∀r∈j,bS ws r)/\j.length<=more.length+1:=by
 have D:(1000:Nat)<=df:=by decide
 have⟨n,b,G,H,I,s1⟩:=dz (st:=jR u rs share hs ts more o6 o7) o (i:=0) (k:=.io) (e:=.bi .len [.var 4]) (m:=((ts.map U.str).length:Nat)) rfl rfl (cy (aa (aA rfl) af) ∅ b8) A ⋯ (by simp;lia) (by simp;lia);rw[c2]at I;have l:n.toNat<ts.length:=by lia
 have q:(ts.map U.str)[n.toNat]?=bD (.str ts[n.toNat]):=by simp[l]
 have s:ts[n.toNat]∈ws:=p _ (J4 l);generalize ts[n.toNat]=x at q s;have J:(ts.map U.str).eraseIdx n.toNat=(ts.eraseIdx n.toNat).map U.str:=by
  rw[ON,ON,ka,Y_,Y']
 have hl:(ts.eraseIdx n.toNat).length+1=ts.length:=by rw[List.length_eraseIdx_of_lt l];lia
 have f:∀y∈ts.eraseIdx n.toNat,y∈ws:=λy L=>p y (List.mem_of_mem_eraseIdx L);have g:Run (ev Γ (.J8 4 (.Ho "_law_draw" [.var 0,.bi .len [.var 4]] [0]))) (jR u rs share hs ts more o6 o7) (.loc,.str x) (jR b rs share hs (ts.eraseIdx n.toNat) more o6 o7):=by
  have:=Eg (i:=4) (k0:=.own) (k:=.own) (us0:=ts.map U.str) (us:=ts.map U.str) rfl (by intro z;cases z) G rfl rfl H ⋯ q;rw[J]at this;show this
 generalize ts.eraseIdx n.toNat=a at g hl f;have d:Run (HH Γ (.cmp .Hz (.var 7) (.var 3))) (jR b rs share hs a more o6 (bD (.loc,.str x))) (cc (x∉hs)) (jR b rs share hs a more o6 (bD (.loc,.str x))):=aS (ae rfl) (aA rfl) ∅ eY;by_cases t:x∈hs
 .rw[Z8 (by simp[t])]at d;show⟨b,a,more,_,az g aI (bt (gG (r9 d)) av av),s1.up ⋯,hl,f,h,⋯⟩
 .rw[Z9 t]at d;have⟨m,v,w,m0,m1,s2⟩:=dz (st:=jR b rs share hs a more o6 (bD (.loc,.str x))) o (i:=0) (k:=.io) (e:=.var 2) (m:=share) rfl rfl (ae rfl) s1 ⋯ B ⋯;by_cases hz:m=0
  .show⟨v,a,more++[(x,[])],bD (.loc,.str x),az g aI (d4 (gG (ll d (cD (aS w ai trivial (bV (c:=b6) (by simp[hz])))))) (fC (k:=.own) (k':=.own) rfl (eW (aa (ae rfl) (aa (eW af trivial aH (i8 _)) af)) trivial (aB aF (aB aF aH)) (by change 2<=df;lia)) aF rfl rfl (by simp;lia) av) ?_),s2.up ⋯,hl,f,?_,by simp⟩
   .rw[show more.map A'++[U.tup [.str x,.tup []]]=(more++[(x,[])]).map A' by simp[A']];show av
   .intro r hr;rcases i3.mp hr with hr|hr
    .show h r hr
    .rw[hV]at hr;subst hr;show⟨s,by simp,by simp,by simp⟩
  .show⟨v,a,more,_,az g aI (bt (gG (ll d (cD (aS w ai trivial (bV (c:=cK) (by simp[hz])))))) av av),s2.up ⋯,hl,f,h,⋯⟩
def qH{rs:List Row}(hl:rs.length<=1000)(h:st[i]?=bD (bD (.loc,.tup (rs.map A')))):Run (ev Γ (.comp 1 cK .seq [.var i] [.cmp .eq (.idx (.var 0) (.cst (.int 1))) (.tup [])] (.idx (.var 0) (.cst (.int 0))))) st (.own,.lst (((rs.filter λr=>cc (r.2=[])).map (·.1)).map .str)) st:=by
 have b:(1000:Nat)<=df:=by decide
 have c:∀y:Row,gY (.loc,A' y) (.int 0)=bD (.loc,.str y.1):=λy=>rfl;have d:∀y:Row,gY (.loc,A' y) (.int 1)=bD (.loc,.tup (y.2.map .str)):=λy=>rfl;have a:=fV (cond:=aL Γ [.cmp .eq (.idx (.var 0) (.cst (.int 1))) (.tup [])]) (elt:=ev Γ (.idx (.var 0) (.cst (.int 0)))) (src:=[(.loc,.tup (rs.map A'))]) (st:=st) trivial .loc (.inl rfl) A' (λr:Row=>.str r.1) (λr=>cc (r.2=[])) .loc rs [] (by simp;lia)
  (λr _=>⟨cD (aS (aZ (ae rfl) ai trivial (d r)) (eW af trivial aH (i8 _)) trivial uo),λ_=>⟨aZ (ae rfl) ai trivial (c r),aF⟩⟩)
 rw[hU]at a;rw[hh];show bH (rs:=[(.loc,.tup (rs.map A'))]) (aa (ae h) af) trivial fy a
abbrev yZ(Γ:Tab):Prop:=∀(T:Int) (u:U) (ws:List Str) (rs:List Row),Src T u->T+60<2 ^ 62->ws.length<=24->(∀r∈rs,bS ws r)->rs.length<=60->∃(a:List Row) (u':U),Γ "_law_widened" [u,.tup (rs.map A')]=bD (.ok (.loc,.tup [.tup (a.map A'),u']))/\(∀r∈a,bS ws r)/\a.length<=84/\Src (T+60) u'
def Bt(g:bI Γ)(J:yW Γ){rs:List Row}(z:Src T u)(hT:T+60<2 ^ 62)(L:ws.length<=24)(j:∀r∈rs,bS ws r)(hl:rs.length<=60):
  ∃(l:List Row) (u':U),gv Γ Bs [0] Gb [u,.tup (rs.map A')]=bD (.ok (.loc,.tup [.tup (l.map A'),u']))/\(∀r∈l,bS ws r)/\l.length<=84/\Src (T+60) u':=by
 have N:(1000:Nat)<=df:=by decide
 let c:U->au:=λv=>[bD (.io,v),bD (.loc,.tup (rs.map A')),cb,cb,cb,cb,cb,cb]
 have A:cZ [0] [u,.tup (rs.map A')] Bs.ns=c u:=by
  obtain⟨_,_,_,rfl,_⟩:=z;change [bD (Kd.io,_),bD (if HM (.tup (rs.map A'))=b6 then Kd.loc else Kd.any,U.tup (rs.map A')),cb,cb,cb,cb,cb,cb]=_;rw[Z6 (by change cC (rs.map A')=b6;show bJ rs)]
 have⟨n,o,B,n0,n1,s1⟩:=dz (st:=c u) g (i:=0) (k:=.io) (e:=.cst (.int 8)) (m:=8) rfl rfl ai z ⋯ ⋯ ⋯;by_cases C:n=1
 .have⟨p,s,O,p0,p1,s2⟩:=dz (st:=c o) g (i:=0) (k:=.io) (e:=.cst (.int 2)) (m:=2) rfl rfl ai s1 ⋯ ⋯ ⋯;have⟨ts,Q,D⟩:=J ws rs L j;have W5:=D.len;generalize Y:((rs.filter λr=>cc (r.2=[])).map (·.1))=hs;have G:=qH (Γ:=Γ) (st:=[bD (.io,s),bD (.loc,.tup (rs.map A')),bD (.loc,.int (1+p)),cb,cb,cb,cb,cb]) (rs:=rs) (i:=1) ⋯ rfl;rw[Y]at G;obtain⟨st',hf,a,b,more,o6,o7,rfl,s3,H,m3,I,w,_⟩:=bu (rs:=[(.loc,.int (ts.length:Nat))]) (t:=cK) (is:=[6]) (body:=execs Γ yX) (λi:Nat=>(Kd.loc,U.int (0+(i:Int)))) (λd r st=>∃(a:U) (b:List Str) (more:List Row) (o6 o7:Option (Kd×U)),st=jR a rs (1+p) hs b more o6 o7/\Src (T+2+2 * (d.length:Nat)) a/\b.length=r.length/\more.length<=d.length/\(∀x∈b,x∈ws)/\(∀r∈more,bS ws r)/\d.length+r.length=ts.length)
   (λd r st _=>trivial) (λd y r st h=>by
    have⟨a,b,more,o6,o7,rfl,s3,H,m3,I,w,t3⟩:=h;simp only[ke]at H t3;have⟨u4,W7,O7,IQ,q,s4,l4,i4,g4,m4⟩:=yY (Γ:=Γ) g (u:=a) (share:=1+p) (rs:=rs) (more:=more) (ws:=ws) (hs:=hs) (ts:=b) (o6:=bD (.loc,.int (0+(y:Int)))) (o7:=o7) s3 ⋯ ⋯ ⋯ ⋯ ⋯ I w ⋯;show⟨jR a rs (1+p) hs b more (bD (.loc,.int (0+(y:Int)))) o7,_,aI,q,u4,W7,O7,_,_,rfl,s4.up (by simp;lia),⋯,by simp;lia,i4,g4,by simp;lia⟩) (hQ ts.length) [] (jR s rs (1+p) hs ts [] cb cb) ⟨s,ts,[],cb,cb,rfl,s2.up (by simp;lia),by simp,by simp,D.2,by simp,by simp⟩
  rw[hU,x3]at m3 s3;show⟨rs++more,a,?_,?_,by simp;lia,s3.up ⋯⟩
  .show cq (f:=.rt .loc (.tup ((rs++more).map A'))) (st:=jR a rs (1+p) hs b more o6 o7) rfl A ?_ rfl rfl;show bt (aS B ai trivial (sE (by simp[C]))) av (az (bE ai O trivial cB) aI (az G bb (az (a_ (aa (ae rfl) af) trivial Q) bb (az (cp af trivial aH (i8 _)) bb ?_))));show bX (rs:=[(.loc,.int (ts.length:Nat))]) (aa (cy (aa (aA rfl) af) ∅ (by rw[b8,c2])) af) trivial (ic ⋯) rfl hf (bF (bE (ae rfl) (cy (aa (aA rfl) af) ∅ rfl) trivial ?_) eE);change(if (rs.map A').length+(more.map A').length<=df then bD (kT .loc .loc,U.tup (rs.map A'++more.map A')) else cb)=_;rw[Z6 (by simp;lia),ka];rfl
  .intro r hm;rcases i3.mp hm with hm|hm
   .show j r hm
   .show w r hm
 .show⟨rs,o,cq (f:=.rt .loc (.tup (rs.map A'))) (st:=c o) rfl A (oG (aS B ai trivial (sE (by simp[C]))) (bF (ae rfl) eE)) rfl rfl,j,⋯,s1.up ⋯⟩
def Ge(a:bI (HA Pg d))(b:yW (HA Pg d))(h:HR Pg "_law_widened" Bs):yZ (HA Pg (d+1)):=by
 intro T u ws rs c f g i hl;have⟨j,u',e,r⟩:=Bt a b c f g i hl;show⟨j,u',by rw[cT h _ rfl];show e,r⟩
section
def y6(o:i≠j)(l:st[i]?=bD (bD (k0,a)))(c:k0.root=b6)(y:st[j]?=bD (bD (k0',d)))(z:k0'.root=b6)(A:Run (bA Γ es) st rs st1)
  (b:st1[i]?=bD (bD (k,.lst us))) (hk:k.root=b6) (B:cC us=b6) (m:st1[j]?=bD (bD (k',.lst vs))) (p:k'.root=b6) (C:cC vs=b6) (D:rs.map (d8 st1)=rs) (G:bq rs st1) (H:∀r∈rs,pW [bD i,bD j] r=b6)
  (I:Γ f (.lst us::.lst vs::rs.map (·.2))=bD (.ok (n,.tup [v,.lst s,.lst t]))) (J:n=.own\/n=.loc):Run (ev Γ (.Ho f (.var i::.var j::es) [0,1])) st (n,v) ((st1.set i (bD (k,.lst s))).set j (bD (k',.lst t))):=by
 have w:∀(i:Nat) (k0:Kd) (a:U),st[i]?=bD (bD (k0,a))->k0.root=b6->Run (ev Γ (.var i)) st (.bor i,a) st:=λi k0 a l c=>by
  have:=dG l (by rintro rfl;cases c);unfold kv at this;rw[Z6 c]at this;show this
 have x:∀(i:Nat) (k:Kd) (a u:U),st1[i]?=bD (bD (k,u))->k.root=b6->d8 st1 (.bor i,a)=(.bor i,u):=λi k a u b hk=>by
  unfold d8
  dsimp only
  rw[b];simp[hk]
 have e:((Kd.bor i,a)::(Kd.bor j,d)::rs).map (d8 st1)=(.bor i,.lst us)::(.bor j,.lst vs)::rs:=by rw[eh,eh,x i k a _ b hk,x j k' d _ m p,D]
 have g:g9 ((Kd.bor i,U.lst us)::(Kd.bor j,U.lst vs)::rs) 0=bD i:=by
  change(if cC us=b6 then bD i else cb)=_;rw[Z6 B]
 have h:g9 ((Kd.bor i,U.lst us)::(Kd.bor j,U.lst vs)::rs) 1=bD j:=by
  change(if cC vs=b6 then bD j else cb)=_;rw[Z6 C]
 show se (rs:=(.bor i,a)::(.bor j,d)::rs) (ws:=[.lst s,.lst t]) (st1:=st1) (aa (w i k0 a l c) (aa (w j k0' d y z) A)) ?_ ?_ J ?_ ?_
 .rw[e];show⟨⟨k,hk,b⟩,⟨k',p,m⟩,G⟩
 .rw[e];show I
 .rw[e];unfold pX;rw[cL,cL];show⟨⟨by simp[g,h],by simp[g,h,o]⟩,ko.mpr λq L=>?_⟩
  match q with
  |0=>simp
  |1=>simp
  |q+2 =>
   have hl:q<rs.length:=by have:=u7.mp L;simpa using this
   rw[KR];show .inr ?_;rw[show((Kd.bor i,U.lst us)::(Kd.bor j,U.lst vs)::rs).getD (q+2) (.loc,.Hs)=rs[q] by simp[M8,hl]];simp only[eh,JL,g,h];show H _ (J4 hl)
 .rw[e];unfold gE;rw[g]
  dsimp only
  rw[b]
  dsimp only
  unfold gE;rw[h]
  dsimp only
  rw[i1 o,m];rfl
def Bu(d:i≠j)(e:st[i]?=bD (bD (k0,y)))(g:k0.root=b6)(h:st[j]?=bD (bD (k0',z)))(l:k0'.root=b6)(m:Run (bA Γ es) st rs st1)
  (n:st1[i]?=bD (bD (k,.lst us))) (hk:k.root=b6) (o:cC us=b6) (p:st1[j]?=bD (bD (k',.lst vs))) (q:k'.root=b6) (s:cC vs=b6) (a:rs.all O0=b6)
  (t:Γ f (.lst us::.lst vs::rs.map (·.2))=bD (.ok (b,.tup [v,.lst u,.lst w]))) (x:b=.own\/b=.loc):Run (ev Γ (.Ho f (.var i::.var j::es) [0,1])) st (b,v) ((st1.set i (bD (k,.lst u))).set j (bD (k',.lst w))) :=
 y6 d e g h l m n hk o p q s ((mu λr c=>qD (ko.mp a r c)).trans (QR rs)) (qE a) (λr c=>m_ (ko.mp a r c)) t x
end
abbrev lH(Γ:Tab):Prop:=∀(ns:List Int) (u:U) (ws:List Str) (T:Int),Src T u->T+500<2 ^ 62->ns.length<1000->0<ws.length->ws.length<1000000 ->
  ∃(rs:List Row) (a:List Int) (u':U),Γ "_law_book" [.lst (ns.map .int),u,.lst (ws.map .str)]=bD (.ok (.loc,.tup [.tup (rs.map A'),.lst (a.map .int),u']))/\dm ws rs/\rs.length<=60/\a.length<=ns.length/\Src (T+500) u'
def y7(a:iO (HA Pg d))(b:bI (HA Pg d))(c:lE (HA Pg d))(f:lF (HA Pg d))(h:HR Pg "_law_book" oR):lH (HA Pg (d+1)):=by
 intro ns u ws T g i j k l;have⟨rs,m,u',e,r⟩:=sA a b c f g i j k l;show⟨rs,m,u',by rw[cT h _ rfl];show e,r⟩
def y8(a:iO Γ){ns:List Int}:∃(b:List Int) (u:U),Run (ev Γ (.Ho "_law_source" [.var 1,.cst (.int k)] [0])) (o0::bD (.own,.lst (ns.map .int))::rest) (.own,u) (o0::bD (.own,.lst (b.map .int))::rest)/\b.length<=ns.length/\Src 0 u:=by
 by_cases h:ns=[]
 .subst h;show⟨[],fI k 0 1,En (k0:=.own) (k:=.own) a rfl rfl ai rfl rfl,ix _,⟨_,_,_,rfl,⋯,⋯⟩⟩
 .have e:=UN h;generalize ns.dropLast=l at e;generalize ns.getLast h=c at e;subst e;show⟨l,fI (c / 2) 0 (c % 2),yL (k0:=.own) (k:=.own) a rfl rfl ai rfl rfl,by simp,⟨_,_,_,rfl,⋯,⋯⟩⟩
def Src.lst(h:Src T u):∃us,u=.lst us/\cC us=b6:=by
 obtain⟨a,t,w,rfl,_,_⟩:=h;show⟨_,rfl,rfl⟩
def qI(f:oS Γ)(g:lH Γ)(h:yZ Γ){ns:List Int}(l:ns.length<1000)(b:Src 0 u):
  ∃(ws:List Str) (rs:List Row) (a:List Int) (u':U),Run (ev Γ (.Ho "_law_widened" [.var 2,.Ho "_law_book" [.var 1,.var 2,.Ho "_law_words" [.var 2] [0]] [0,1]] [0])) (o0::bD (.own,.lst (ns.map .int))::bD (.own,u)::rest) (.loc,.tup (rs.map A')) (o0::bD (.own,.lst (a.map .int))::bD (.own,u')::rest)/\ws.length<=24/\(∀r∈rs,bS ws r)/\rs.length<=84:=by
 obtain⟨ws,B,m,C,c,s1,_⟩:=f 0 u b ⋯;have⟨us,rfl,n⟩:=b.lst;have⟨d,rfl,o⟩:=s1.lst;have p:=ie (Γ:=Γ) (st:=o0::bD (.own,.lst (ns.map .int))::bD (.own,.lst us)::rest) (i:=2) (es:=[]) (k0:=.own) (k:=.own) rfl rfl af rfl rfl n rfl m (.inl rfl);have⟨rs,a,D,q,s,t,G,s2⟩:=g ns (.lst d) ws _ s1 ⋯ l ⋯ ⋯;have⟨e,rfl,v⟩:=s2.lst;have w:=Bu (Γ:=Γ) (st:=o0::bD (.own,.lst (ns.map .int))::bD (.own,.lst us)::rest) (st1:=o0::bD (.own,.lst (ns.map .int))::bD (.own,.lst d)::rest) (i:=1) (j:=2) (k0:=.own) (k:=.own) (k0':=.own) (k':=.own) (rs:=[(.own,.lst (ws.map .str))]) ⋯ rfl rfl rfl rfl (aa p af) rfl rfl (gr ns) rfl rfl o rfl q (.inr rfl);have⟨x,H,y,b3,z,s3⟩:=h _ (.lst e) ws rs s2 ⋯ c s.1 t;have⟨A,rfl,I⟩:=s3.lst;show⟨ws,x,a,.lst A,ie (Γ:=Γ) (st:=o0::bD (.own,.lst (ns.map .int))::bD (.own,.lst us)::rest) (st1:=o0::bD (.own,.lst (a.map .int))::bD (.own,.lst e)::rest) (i:=2) (k0:=.own) (k:=.own) (rs:=[(.loc,.tup (rs.map A'))]) rfl rfl (aa w af) rfl rfl v rfl y (.inr rfl),c,b3,z⟩
end TM
namespace KL
open PySem L2 TM
abbrev dn:Fn:=⟨"gathered",1,4,[.newD 1,.HC b6 [2,3] .seq [.var 0] [.ite (.inD b6 (.var 2) 1) [.putD 1 (.var 2) (.lst [])] [],.Jq 1 (.var 2) (.var 3)],.ret (.NI 1)]⟩
abbrev bj:Fn:=⟨"places_that_tell",1,4,[.set 1 (.lst []),.HC b6 [2,3] .MR [.var 0] [.ext 1 (.comp 1 cK .seq [.idx (.var 3) (.cst (.int 1))] [] (.tup [.var 0,.var 3]))],.ret (.call "gathered" [.var 1])]⟩
abbrev cU:Fn:=⟨"new_steps",3,6,[.set 3 (.Ji cK),.HC cK [4] .seq [.var 1] [.set 5 (.idx (.idx (.var 0) (.var 4)) (.cst (.int 0))),.ite (.and [.cmp .Hz (.var 5) (.var 2),.cmp .Hz (.var 5) (.var 3)]) [.put 3 (.var 5) (.var 4)] []],.ret (.NJ 3)]⟩
abbrev br:Fn:=⟨"steps_in_rounds",1,10,[.set 1 (.call "places_that_tell" [.var 0]),.set 2 (.comp 1 cK .seq [.var 0] [] (.bi .len [.idx (.var 0) (.cst (.int 1))])),.set 3 (.Ji cK),.set 4 (.lst []),.set 5 (.comp 2 b6 .MR [.var 2] [.cmp .eq (.var 1) (.cst (.int 0))] (.var 0)),.Ly (.cmp .ne (.var 5) (.lst [])) [.set 6 (.call "new_steps" [.var 0,.var 5,.var 3]),.set 5 (.lst []),.HC b6 [7,8] .seq [.var 6] [.put 3 (.var 7) (.cst (.bl b6)),.HC cK [9] .seq [.J7 1 (.var 7) (.lst [])] [.aug b6 2 (.var 9) (.cst (.int 1)),.ite (.cmp .eq (.idx (.var 2) (.var 9)) (.cst (.int 0))) [.app 5 (.var 9)] []]],.ite (.cmp .ne (.var 6) (.lst [])) [.app 4 (.var 6)] []],.ret (.var 4)]⟩
abbrev fz:Fn:=⟨"order",1,3,[.set 1 (.lst []),.HC cK [2] .seq [.call "steps_in_rounds" [.var 0]] [.ext 1 (.var 2)],.ret (.var 1)]⟩
abbrev e_:Fn:=⟨"learnt",1,1,[.ret (.bi .sorted [.comp 2 b6 .seq [.call "order" [.var 0]] [] (.var 0)])]⟩
end KL
namespace KL
open PySem L2 TM HN Od
abbrev cG(f:Str->List Nat)(k:Str):U:=.lst ((f k).map λt:Nat=>U.int (t:Nat))
def jo(d:List (Str×Nat))(y:Str×Nat)(k:Str):aM (d++[y]) k=if y.1=k then aM d k++[y.2] else aM d k:=by
 rw[qx];by_cases e:y.1=k
 .rw[Z6 e];simp[aM,e]
 .rw[Z7 e];simp[aM,e]
def y9(d:List (Str×Nat))(k:Str):(aM d k).length<=d.length:=by
 unfold aM;rw[c2];show ki _ _
section
def oV(hl:ps.length<=1000):∃ks:List Str,(∀w,w∉ks->aM ps w=[])/\cY Γ dn [.lst (ps.map stN)]=bD (.ok (.own,.Hn ks (ks.map (cG (aM ps))))):=by
 have hsz:(2000:Nat)<=df:=by decide
 have x:TM.start [.lst (ps.map stN)] 4=[bD (.any,.lst (ps.map stN)),cb,cb,cb]:=rfl;let S:=λ(ks:List Str) (us:List U) (o2 o3:Option (Kd×U))=>([bD (.any,.lst (ps.map stN)),bD (.Hl,.Hn ks us),o2,o3]:au)
 let body:List TM.S:=[.ite (.inD b6 (.var 2) 1)
    [.putD 1 (.var 2) (.lst [])]
    [],
   .Jq 1 (.var 2) (.var 3)]
 have⟨st',A,l,ks,o2,o3,e,f,hk,B⟩:=bu (t:=b6) (is:=[2,3]) (body:=execs Γ body) (rs:=[(.any,.lst (ps.map stN))]) (λp:Str×Nat=>(Kd.any,stN p))
  (λd r st=>d++r=ps/\∃(ks:List Str) (o2 o3:Option (Kd×U)),st=S ks (ks.map (cG (aM d))) o2 o3/\ks.Nodup/\(∀w,w∉ks->aM d w=[])/\ks.length<=d.length) (λ_ _ _ _=>trivial) (λd y r st C=>by
   have⟨l,ks,o2,o3,e,f,hk,B⟩:=C;subst e;have J:d.length<1000:=by have:=Z_ HU l;simp at this;lia
   let g:Option (Kd×U):=bD (.any,.str y.1);let i:Option (Kd×U):=bD (.any,.int (y.2:Nat));have L:=y9 d y.1;have j:∀(ks:List Str),ks.Nodup->y.1∈ks->Run (execs Γ [.Jq 1 (.var 2) (.var 3)]) (S ks (ks.map (cG (aM d))) g i) .nx (S ks (ks.map (cG (aM (d++[y])))) g i):=λks f c=>by
    have D:dI ks (ks.map (cG (aM d))) y.1=bD (.lst ((aM d y.1).map λt:Nat=>U.int (t:Nat))):=by rw[iN,Z6 c];rfl
    have hs:jc ks (ks.map (cG (aM d))) y.1 (.lst ((aM d y.1).map (λt:Nat=>U.int (t:Nat))++[.int (y.2:Nat)]))=ks.map (cG (aM (d++[y]))):=by
     rw[lB _ _ _ _ f];show mu λk hk=>?_;unfold cG;rw[jo];by_cases e:y.1=k
     .subst e;rw[Z6 rfl,Z6 rfl];simp
     .rw[Z7 e,Z7 (rz e)]
    rw[<-hs];show yu (k:=.any) (r:=(.any,.int (y.2:Nat))) rfl (aC rfl) c (aC rfl) (jE rfl) D (by rw[c2];lia) av
   have m:Run (HH Γ (.inD b6 (.var 2) 1)) (S ks (ks.map (cG (aM d))) g i) (!cc (y.1∈ks)) (S ks (ks.map (cG (aM d))) g i):=yr (neg:=b6) (k:=.any) (aC rfl) rfl;have o:Run (dv b6 [2,3] (.any,stN y)) (S ks (ks.map (cG (aM d))) o2 o3) () (S ks (ks.map (cG (aM d))) g i):=gK (.inr rfl);by_cases c:y.1∈ks
   .rw[Z9 c]at m;show⟨_,_,o,lq m (λh=>by cases h) λ_=>j ks f c,by rw[<-l];simp,ks,_,_,rfl,f,λw n=>?_,by simp;lia⟩;have G:y.1≠w:=λz=>n (by rw[<-z];show c);rw[jo,Z7 G];show hk w n
   .rw[Z8 c]at m;have q:(ks++[y.1]).Nodup:=by
     rw[oT];show⟨f,by simp,λa H b I e=>?_⟩;have:b=y.1:=by simpa using I
     subst this;show c (e▸H)
    have em:ks.map (cG (aM d))++[.lst []]=(ks++[y.1]).map (cG (aM d)):=by
     rw[ka];congr 1
     change _=[cG (aM d) y.1]
     unfold cG;rw[hk y.1 c];rfl
    have s:=j (ks++[y.1]) q (by simp);rw[<-em]at s;show⟨_,_,o,lq m (λ_=>yt (k:=.any) (xs:=[]) (cp af trivial aH (i8 _)) rfl (aC rfl) c ⋯ s) λh=>(by cases h),by rw[<-l];simp,ks++[y.1],_,_,rfl,q,λw n=>?_,by simp;lia⟩;have v:w∉ks/\w≠y.1:=by simpa using n
    rw[jo,Z7 (rz v.2)];show hk w v.1) ps [] (S [] [] cb cb) ⟨rfl,[],cb,cb,rfl,.nil,λ_ _=>rfl,ix _⟩
 subst e;rw[hU]at *;show⟨ks,hk,?_⟩;have e:(ps.map stN).map (λu=>(kE .any,u))=ps.map λp=>(Kd.any,stN p):=by rw[hh];rfl
 show bc rfl (.inl rfl) x (yq (bX (rs:=[(.any,.lst (ps.map stN))]) (st1:=S [] [] cb cb) (aa (aC rfl) af) trivial rfl rfl (by rw[e];show A) (bF (F4 rfl) (iK rfl))))
abbrev Cc(Γ:Tab):Prop:=∀ps:List (Str×Nat),ps.length<=1000->∃ks:List Str,(∀w,w∉ks->aM ps w=[])/\Γ "gathered" [.lst (ps.map stN)]=bD (.ok (.own,.Hn ks (ks.map (cG (aM ps)))))
def sF(s:Cc Γ)(v:Once rows)(z:∀r∈rows,r.2.length<=8)(I:rows.length<=120):
  ∃ks:List Str,(∀w,w∉ks->HY rows rows.length w=[])/\cY Γ bj [.tup (rows.map A')]=bD (.ok (.own,.Hn ks (ks.map (cG (HY rows rows.length))))):=by
 have hsz:(2000:Nat)<=df:=by decide
 have A:TM.start [.tup (rows.map A')] 4=[bD (.loc,.tup (rows.map A')),cb,cb,cb]:=by simp[TM.start,HM,bJ]
 let S:=λ(ps:List (Str×Nat)) (o2 o3:Option (Kd×U))=>([bD (.loc,.tup (rows.map A')),bD (.own,.lst (ps.map stN)),o2,o3]:au)
 let body:List TM.S:=[.ext 1 (.comp 1 cK .seq [.idx (.var 3) (.cst (.int 1))] [] (.tup [.var 0,.var 3]))]
 have⟨st',B,g,ps,o2,o3,e,h,l⟩:=bu (t:=b6) (is:=[2,3]) (body:=execs Γ body) (rs:=[(.loc,.tup (rows.map A'))]) (λp:Row×Nat=>(Kd.loc,U.tup [.int (p.2:Nat),A' p.1]))
  (λd r st=>d++r=rows.zipIdx/\∃(ps:List (Str×Nat)) (o2 o3:Option (Kd×U)),st=S ps o2 o3/\(∀w,aM ps w=HY rows d.length w)/\ps.length<=8 * d.length) (λ_ _ _ _=>trivial) (λd y r st C=>by
   have⟨g,ps,o2,o3,e,h,l⟩:=C;subst e;have⟨f,i⟩:=y;have m:(rows.zipIdx)[d.length]?=bD (f,i):=by rw[<-g];simp
   rw[R',eH]at m;have⟨a,n,e⟩:=m;have D:a=f:=Z_ YU e;have o:0+d.length=i:=Z_ Prod.snd e;rw[Oz]at o;subst D o;have J:d.length<120:=by have:=Z_ HU g;simp at this;lia
   have L:=z a (mx n);let b:Option (Kd×U):=bD (.loc,.int (d.length:Nat));let c:Option (Kd×U):=bD (.loc,A' a);have q:=c7 (cond:=aL Γ []) (elt:=ev Γ (.tup [.var 0,.var 3])) (src:=[(.loc,.tup (a.2.map .str))]) (st:=S ps b c) trivial .loc (.inl rfl) U.str (λx=>stN (x,d.length)) .loc (λ_=>d0) a.2 [] (by simp;lia)
    (λy _=>⟨eW (aa (ae rfl) (aa (ae rfl) af)) trivial (aB aF (aB aF aH)) (by change 2<=df;lia),aF⟩)
   rw[hU]at q;have e:(a.2.map U.str).map (λu=>(kE .loc,u))=a.2.map λr=>(Kd.loc,U.str r):=by rw[hh];rfl
   have G:Run (ev Γ (.comp 1 cK .seq [.idx (.var 3) (.cst (.int 1))] [] (.tup [.var 0,.var 3]))) (S ps b c) (.own,.lst (a.2.map λx=>stN (x,d.length))) (S ps b c) :=
    bH (rs:=[(.loc,.tup (a.2.map .str))]) (aa (aZ (x:=(.loc,A' a)) (ae rfl) ai trivial rfl) af) trivial (by change bD _=_;rw[e]) q
   have em:ps.map stN++(a.2.map λx=>stN (x,d.length))=(ps++a.2.map λx=>(x,d.length)).map stN:=by simp
   show⟨S ps b c,S (ps++a.2.map λx=>(x,d.length)) b c,gK (.inl rfl),?_,by rw[<-g];simp,_,_,_,rfl,λw=>?_,by simp;lia⟩
   .change Run _ _ _ [bD (.loc,.tup (rows.map A')),bD (.own,.lst ((ps++a.2.map λx=>(x,d.length)).map stN)),b,c];rw[<-em];show ug (k:=.own) (k':=.own) rfl G rfl rfl (oK (by rw[c2,c2];lia) rfl) av
   .rw[i0];show vN v n h w) rows.zipIdx [] (S [] cb cb) ⟨rfl,[],cb,cb,rfl,λw=>by simp[aM,HY],by simp⟩
 subst e;rw[hU,List.length_zipIdx]at h l;have j:Ju .MR [(.loc,.tup (rows.map A'))]=bD (rows.zipIdx.map λp:Row×Nat=>(Kd.loc,U.tup [.int (p.2:Nat),A' p.1])):=by
  change bD ((rows.map A').zipIdx.map λp=>(kE .loc,U.tup [.int p.2,p.1]))=_;rw[List.zipIdx_map,hh];rfl
 have⟨ks,k1,k2⟩:=s ps ⋯;have H:aM ps=HY rows rows.length:=funext h;rw[H]at k1 k2;show⟨ks,k1,?_⟩;show bc rfl (.inl rfl) A (az (r:=(.own,.lst [])) (cp af trivial aH (i8 _)) bb (bX (rs:=[(.loc,.tup (rows.map A'))]) (st1:=S [] cb cb) (aa (ae rfl) af) trivial j rfl B
  (bF (a_ (aa (aA rfl) af) ⟨⟨.own,rfl,rfl⟩,trivial⟩ k2) gI)))
def lY{names:List Str}(v:∀r∈rows,r.1∈names)(Q:names.length<64)(y:∀t∈R,t<rows.length):
  ∃st:List (Str×Nat),NS rows K0 R st/\cY Γ cU [.tup (rows.map A'),.lst (R.map λt:Nat=>.int (t:Nat)),.Hn K0 vs]=bD (.ok (.own,.lst (st.map stN))):=by
 have hsz:(2000:Nat)<=df:=by decide
 have z:TM.start [.tup (rows.map A'),.lst (R.map λt:Nat=>.int (t:Nat)),.Hn K0 vs] 6=[bD (.loc,.tup (rows.map A')),bD (.any,.lst (R.map λt:Nat=>.int (t:Nat))),bD (.any,.Hn K0 vs),cb,cb,cb]:=by simp[TM.start,HM,bJ]
 let S:=λ(ps:List (Str×Nat)) (o4 o5:Option (Kd×U))=>([bD (.loc,.tup (rows.map A')),bD (.any,.lst (R.map λt:Nat=>.int (t:Nat))),bD (.any,.Hn K0 vs),bD (.own,.Hn (ps.map (·.1)) (ps.map λp=>.int (p.2:Nat))),o4,o5]:au)
 let body:List TM.S:=[.set 5 (.idx (.idx (.var 0) (.var 4)) (.cst (.int 0))),
   .ite (.and [.cmp .Hz (.var 5) (.var 2),.cmp .Hz (.var 5) (.var 3)])
    [.put 3 (.var 5) (.var 4)]
    []]
 have o:∀{d:List Nat} {ps:List (Str×Nat)},NS rows K0 d ps->ps.length<=names.length:=λ{d ps} x=>by
  have:=uj x.once (L:=names) λw A=>by
   have⟨s,hs,rfl⟩:=js.mp A;obtain⟨_,_,r,b,c⟩:=x.ok s hs;rw[<-c];show v r (mx b)
  simpa using this
 have⟨st',B,j,ps,o4,o5,e,x⟩:=bu (t:=cK) (is:=[4]) (body:=execs Γ body) (rs:=[(.any,.lst (R.map λt:Nat=>.int (t:Nat)))]) (λt:Nat=>(Kd.any,U.int (t:Nat)))
  (λd r st=>d++r=R/\∃(ps:List (Str×Nat)) (o4 o5:Option (Kd×U)),st=S ps o4 o5/\NS rows K0 d ps) (λ_ _ _ _=>trivial) (λd t r st C=>by
   have⟨j,ps,o4,o5,e,x⟩:=C;subst e;have D:t<rows.length:=y t (by rw[<-j];simp);have l:rows[t]?=bD rows[t]:=by simp[D]
   generalize rows[t]=a at l;let f:Option (Kd×U):=bD (.any,.int (t:Nat));let m:Option (Kd×U):=bD (.loc,.str a.1);have G:=o x;have i:Run (HH Γ (.and [.cmp .Hz (.var 5) (.var 2),.cmp .Hz (.var 5) (.var 3)])) (S ps f m) (!cc (a.1∈K0)&&!cc (a.1∈ps.map (·.1))) (S ps f m) :=
    gG (lr (aS (ae rfl) (aC rfl) trivial gq) λ_=>cD (aS (ae rfl) (aA rfl) ⟨⟨.own,rfl,rfl⟩,trivial⟩ gq))
   have g:∀{q:au},Run (execs Γ [.ite (.and [.cmp .Hz (.var 5) (.var 2),.cmp .Hz (.var 5) (.var 3)])
    [.put 3 (.var 5) (.var 4)]
    []]) (S ps f m) .nx q->Run (execs Γ body) (S ps f o5) .nx q:=λh =>
    az (r:=(.loc,.str a.1)) (aZ (x:=(.loc,A' a)) (aZ (ae rfl) (aC rfl) trivial (dc (Bj l))) ai trivial rfl) aI h
   have n:Run (dv cK [4] (.any,.int (t:Nat))) (S ps o4 o5) () (S ps f o5):=d5 gH;by_cases b:a.1∈K0
   .rw[Z9 b]at i;show⟨_,_,n,g (lq i (λh=>by cases h) λ_=>av),by rw[<-j];simp,ps,_,_,rfl,x.skip l (.inl b)⟩
   .by_cases c:a.1∈ps.map (·.1)
    .rw[Z8 b,Z9 c]at i;show⟨_,_,n,g (lq i (λh=>by cases h) λ_=>av),by rw[<-j];simp,ps,_,_,rfl,x.skip l (.inr c)⟩
    .rw[Z8 b,Z8 c]at i;show⟨_,S (ps++[(a.1,t)]) f m,n,g (lq i (λ_=>?_) λh=>by cases h),by rw[<-j];simp,_,_,_,rfl,x.take l b c⟩;have H:(ps++[(a.1,t)]).map (·.1)=ps.map (·.1)++[a.1]:=by simp
     have I:((ps++[(a.1,t)]).map λp=>U.int (p.2:Nat))=(ps.map λp=>U.int (p.2:Nat))++[.int (t:Nat)]:=by simp
     change Run _ _ _ [bD (.loc,.tup (rows.map A')),bD (.any,.lst (R.map λt:Nat=>.int (t:Nat))),bD (.any,.Hn K0 vs),bD (.own,.Hn ((ps++[(a.1,t)]).map (·.1)) ((ps++[(a.1,t)]).map λp=>.int (p.2:Nat))),f,m];rw[H,I];show gJ (k:=.own) (rv:=(.any,.int (t:Nat))) (rk:=(.loc,.str a.1)) (aC rfl) rfl (ae rfl) (aB (jE rfl) (aB aF aH)) rfl rfl (um (by rw[c2];lia) c) av) R [] (S [] cb cb) ⟨rfl,[],cb,cb,rfl,NS.start K0⟩
 subst e;rw[hU]at x;have G:=o x;have⟨J,N,O⟩:=Bi (ps:=ps) ⋯ x.once;show⟨J,x.perm N,?_⟩;have e:(R.map λt:Nat=>U.int (t:Nat)).map (λu=>(kE .any,u))=R.map λt=>(Kd.any,U.int (t:Nat)):=by rw[hh];rfl
 show bc rfl (.inl rfl) z (az (r:=(.own,.Hn [] [])) jl bb (bX (rs:=[(.any,.lst (R.map λt:Nat=>.int (t:Nat)))]) (st1:=S [] cb cb) (aa (aC rfl) af) trivial rfl rfl (by rw[e];show B) (bF (F6 rfl O) gI)))
end
abbrev mi(rows:List Row)(K0:List Str)(d:List Nat)(p:Nat):Int:=(cnt rows K0 p:Int) - (if p∈d then 1 else 0)
abbrev bT(rows:List Row)(f:Nat->Int):List U:=(hQ rows.length).map λp=>U.int (f p)
abbrev fA(R:List Nat):List U:=R.map λt:Nat=>U.int (t:Nat)
def Bx(rows:List Row)(K0:List Str):bT rows (mi rows K0 [])=bT rows λp=>(cnt rows K0 p:Int):=by
 unfold bT mi;show mu λp _=>?_;simp
def By(b:Once rows)(c:w∉K0):bT rows (mi rows K0 (HY rows rows.length w))=bT rows λp=>(cnt rows (K0++[w]) p:Int):=by
 unfold bT mi;show mu λp d=>?_;have e:=u7.mp d;have a:=oO b c p;by_cases h:w∈told rows p
 .rw[Z6 (iM.mpr ⟨e,h⟩)];rw[Z6 h]at a;change U.int ((cnt rows K0 p:Int) - 1)=U.int (cnt rows (K0++[w]) p:Int);congr 1
  lia
 .rw[Z7 λz=>h (iM.mp z).2];rw[Z7 h]at a;change U.int ((cnt rows K0 p:Int) - 0)=U.int (cnt rows (K0++[w]) p:Int);congr 1
  lia
def y_(a:t∉d):(bT rows (mi rows K0 d)).set t (.int (mi rows K0 d t - 1))=bT rows (mi rows K0 (d++[t])):=by
 unfold bT;rw[set_range];show mu λp _=>?_;unfold mi;by_cases e:p=t
 .subst e;rw[Z6 rfl,Z7 a,Z6 (by simp)];rw[show((cnt rows K0 p:Int) - 0 - 1)=(cnt rows K0 p:Int) - 1 by lia]
 .rw[Z7 e];have:(p∈d++[t])↔p∈d:=by simp[e]
  simp only[this]
def za(h:t<rows.length):(bT rows f)[t]?=bD (.int (f t)):=by simp[bT,h]
section
variable{Γ:Tab}{rows:List Row}
abbrev uu:List TM.S:=[.aug b6 2 (.var 9) (.cst (.int 1)),.ite (.cmp .eq (.idx (.var 2) (.var 9)) (.cst (.int 0))) [.app 5 (.var 9)] []]
def qJ(u:Once rows)(J:rows.length<=120)(v:w∉K0)(L:R.length<=14400)(o9:Option (Kd×U))(y:∀st,bq src st):∃l:Option (Kd×U),
  Run (forM cK [9] (execs Γ uu) src ((HY rows rows.length w).map λt:Nat=>(Kd.loc,U.int (t:Nat))))
   [b0,b1,bD (.own,.lst (bT rows λp=>(cnt rows K0 p:Int))),b3,b4,bD (.own,.lst (fA R)),o6,o7,o8,o9] .nx
   [b0,b1,bD (.own,.lst (bT rows λp=>(cnt rows (K0++[w]) p:Int))),b3,b4,bD (.own,.lst (fA (R++(HY rows rows.length w).filter λt=>cc (cnt rows K0 t=1)))),o6,o7,o8,l]:=by
 have hsz:(20000:Nat)<=df:=by decide
 let S:=λ(ms:List U) (R:List Nat) (o9:Option (Kd×U))=>([b0,b1,bD (.own,.lst ms),b3,b4,bD (.own,.lst (fA R)),o6,o7,o8,o9]:au)
 have⟨st',m,c,l,e⟩:=bu (t:=cK) (is:=[9]) (body:=execs Γ uu) (rs:=src) (λt:Nat=>(Kd.loc,U.int (t:Nat)))
  (λd r st=>d++r=HY rows rows.length w/\∃o9:Option (Kd×U),st=S (bT rows (mi rows K0 d)) (R++d.filter λt=>cc (cnt rows K0 t=1)) o9) (λ_ _ st _=>y st) (λd t r st A=>by
   have⟨c,o9,e⟩:=A;subst e;have B:t∈HY rows rows.length w:=by rw[<-c];simp
   have n:t<rows.length:=(iM.mp B).1;have o:=vM (rows:=rows) rows.length w;have C:t∉d:=λz=>by
    rw[<-c,oT]at o;show o.2.2 t z t (by simp) rfl
   have N:d.length<=120:=by
    have D:=Z_ HU c;have G:(HY rows rows.length w).length<=(hQ rows.length).length:=ki _ _;simp at D G;lia
   let b:Option (Kd×U):=bD (.loc,.int (t:Nat));let a:=R++d.filter λt=>cc (cnt rows K0 t=1);have O:a.length<=14520:=by
    have:(d.filter λt=>cc (cnt rows K0 t=1)).length<=d.length:=ki _ _;change(R++_).length<=_;rw[i0];lia
   have H:Iv (bT rows (mi rows K0 (d++[t]))) (t:Int)=bD (.int (mi rows K0 (d++[t]) t)):=fg (za n);have I:mi rows K0 (d++[t]) t=(cnt rows K0 t:Int) - 1:=by unfold mi;rw[Z6 (by simp)]
   have g:Run (HH Γ (.cmp .eq (.idx (.var 2) (.var 9)) (.cst (.int 0)))) (S (bT rows (mi rows K0 (d++[t]))) a b) (cc (cnt rows K0 t=1)) (S (bT rows (mi rows K0 (d++[t]))) a b) :=
    aS (aZ (x:=(.bor 2,.lst (bT rows (mi rows K0 (d++[t]))))) (aA rfl) (ae rfl) ⟨⟨.own,rfl,rfl⟩,trivial⟩ (cE H)) ai trivial (bV (by
     rw[I,Jk];simp;lia))
   have f:∀{q:au},Run (execs Γ [.ite (.cmp .eq (.idx (.var 2) (.var 9)) (.cst (.int 0)))
      [.app 5 (.var 9)]
      []]) (S (bT rows (mi rows K0 (d++[t]))) a b) .nx q->Run (execs Γ uu) (S (bT rows (mi rows K0 d)) a b) .nx q:=λh=>by
    show F5 (us:=bT rows (mi rows K0 d)) (k1:=.loc) (k2:=.loc) (j:=t) (w:=1) rfl (ae rfl) (za n) ai ?_;rw[y_ C];show h
   have s:Run (dv cK [9] (.loc,.int (t:Nat))) (S (bT rows (mi rows K0 d)) a o9) () (S (bT rows (mi rows K0 d)) a b):=d5 aI;cases i:cc (cnt rows K0 t=1) with
   |false =>
    rw[i]at g;show⟨_,_,s,f (lq g (λh=>by cases h) λ_=>av),by rw[<-c];simp,b,?_⟩;rw[Km,p5,i];simp[S,a]
   |true =>
    rw[i]at g;show⟨_,S (bT rows (mi rows K0 (d++[t]))) (a++[t]) b,s,f (lq g (λ_=>?_) λh=>by cases h),by rw[<-c];simp,b,?_⟩
    .have em:fA (a++[t])=fA a++[.int (t:Nat)]:=by simp[fA]
     change Run _ _ _ [b0,b1,bD (.own,.lst (bT rows (mi rows K0 (d++[t])))),b3,b4,bD (.own,.lst (fA (a++[t]))),o6,o7,o8,b];rw[em];show fC (k:=.own) (k':=.own) (r:=(.loc,.int (t:Nat))) rfl (ae rfl) aF rfl rfl (by unfold fA;rw[c2];lia) av
    .rw[Km,p5,i];simp[S,a]) (HY rows rows.length w) [] (S (bT rows (mi rows K0 [])) R o9) ⟨rfl,o9,by simp⟩
 subst e;rw[hU]at m;rw[Bx,By u v]at m;show⟨l,m⟩
abbrev zb:List TM.S:=[.put 3 (.var 7) (.cst (.bl b6)),.HC cK [9] .seq [.J7 1 (.var 7) (.lst [])] uu]
def vS(n:Once rows)(y:rows.length<=120)(A:∀w,w∉ks->HY rows rows.length w=[])(o:(K0++st.map (·.1)).Nodup)(hl:K0.length+st.length<=120)(vs:List U)(o7 o8 o9:Option (Kd×U)):∃(g:List U) (R:List Nat) (i j a:Option (Kd×U)),
  RI rows K0 (K0++st.map (·.1)) R/\(st=[]->R=[])/\Run (forM b6 [7,8] (execs Γ zb) [(.bor 6,.lst (st.map stN))] (st.map λs=>(Kd.loc,stN s)))
   [b0,bD (.own,.Hn ks (ks.map (cG (HY rows rows.length)))),bD (.own,.lst (bT rows λp=>(cnt rows K0 p:Int))),bD (.own,.Hn K0 vs),b4,bD (.own,.lst []),bD (.own,.lst (st.map stN)),o7,o8,o9] .nx
   [b0,bD (.own,.Hn ks (ks.map (cG (HY rows rows.length)))),bD (.own,.lst (bT rows λp=>(cnt rows (K0++st.map (·.1)) p:Int))),bD (.own,.Hn (K0++st.map (·.1)) g),b4,bD (.own,.lst (fA R)),bD (.own,.lst (st.map stN)),i,j,a]:=by
 let S:=λ(K:List Str) (vs:List U) (R:List Nat) (o7 o8 o9:Option (Kd×U))=>([b0,bD (.own,.Hn ks (ks.map (cG (HY rows rows.length)))),bD (.own,.lst (bT rows λp=>(cnt rows K p:Int))),bD (.own,.Hn K vs),b4,bD (.own,.lst (fA R)),bD (.own,.lst (st.map stN)),o7,o8,o9]:au)
 have⟨st',B,b,g,R,i,j,a,e,x,C,q⟩:=bu (t:=b6) (is:=[7,8]) (body:=execs Γ zb) (rs:=[(.bor 6,.lst (st.map stN))]) (λs:Str×Nat=>(Kd.loc,stN s))
  (λd r l=>d++r=st/\∃(vs:List U) (R:List Nat) (o7 o8 o9:Option (Kd×U)),l=S (K0++d.map (·.1)) vs R o7 o8 o9/\RI rows K0 (K0++d.map (·.1)) R/\R.length<=120 * d.length/\(d=[]->R=[])) (λ_ _ l ⟨_,vs,R,o7,o8,o9,e,_⟩=>by subst e;show⟨⟨.own,rfl,rfl⟩,trivial⟩) (λd s r l D=>by
   have⟨b,vs,R,o7,o8,o9,e,x,C,q⟩:=D;subst e;have⟨w,p⟩:=s;have N:d.length<st.length:=by have:=Z_ HU b;simp at this;lia
   have m:w∉K0++d.map (·.1):=λz=>by
    rw[<-b,ka,<-Yu,oT]at o;show o.2.2 w z w (by simp) rfl
   let c:Option (Kd×U):=bD (.loc,.str w);let f:Option (Kd×U):=bD (.loc,.int (p:Nat));have⟨a,G⟩:=qJ (Γ:=Γ) n y m (R:=R) ⋯ (b0:=b0) (b1:=bD (.own,.Hn ks (ks.map (cG (HY rows rows.length))))) (b3:=bD (.own,.Hn (K0++d.map (·.1)++[w]) (vs++[.bl b6]))) (b4:=b4) (o6:=bD (.own,.lst (st.map stN))) (o7:=c) (o8:=f) o9 (src:=[(.loc,cG (HY rows rows.length) w)]) (λ_=>trivial);have em:K0++(d++[(w,p)]).map (·.1)=K0++d.map (·.1)++[w]:=by simp
   have H:(K0++d.map (·.1)).length<1000:=by rw[i0,c2];lia
   have I:(match dI ks (ks.map (cG (HY rows rows.length))) w with|some v=>(Kd.loc,v)|none=>(.loc,U.lst []))=(.loc,cG (HY rows rows.length) w):=by
    rw[iN];by_cases h:w∈ks
    .rw[Z6 h]
    .rw[Z7 h];unfold cG;rw[A w h];rfl
   have J:((HY rows rows.length w).map λt:Nat=>U.int (t:Nat)).map (λu=>(kE .loc,u))=(HY rows rows.length w).map λt=>(Kd.loc,U.int (t:Nat)):=by rw[hh];rfl
   show⟨S (K0++d.map (·.1)) vs R c f o9,S (K0++d.map (·.1)++[w]) (vs++[.bl b6]) (R++(HY rows rows.length w).filter λt=>cc (cnt rows (K0++d.map (·.1)) t=1)) c f a,gK (.inl rfl),?_,by rw[<-b];simp,vs++[.bl b6],_,c,f,a,by rw[em],?_,?_,λz=>by simp at z⟩
   .show gJ (k:=.own) (rv:=(.loc,.bl b6)) (rk:=(.loc,.str w)) ai rfl (ae rfl) (aB aF (aB aF aH)) rfl rfl (um H m) ?_;show bX (rs:=[(.loc,cG (HY rows rows.length) w)]) (aa (Ej (k:=.loc) (z:=(.own,.lst [])) (u:=.lst []) rfl (ae rfl) (cp af trivial aH (i8 _)) ql I) af) trivial (by change bD (O' (λu=>(kE .loc,u)) _)=_;rw[J]) rfl G av
   .rw[em];show x.step n m
   .have:((HY rows rows.length w).filter λt=>cc (cnt rows (K0++d.map (·.1)) t=1)).length<=120:=by
     show u6 (ki _ _) ?_;have L:(HY rows rows.length w).length<=(hQ rows.length).length:=ki _ _;simp at L;lia
    rw[i0,i0,Mu];lia) st [] (S K0 vs [] o7 o8 o9) ⟨rfl,vs,[],o7,o8,o9,by simp[S],by simpa using RI.start K0,by simp,λ_=>rfl⟩
 subst e;show⟨g,R,i,j,a,by simpa using x,λz=>q (by simpa using z),by simpa[S,fA] using B⟩
abbrev gw(a:List (List (Str×Nat))):List U:=a.map λl=>U.lst (l.map stN)
abbrev zc:List TM.S:=[.set 6 (.call "new_steps" [.var 0,.var 5,.var 3]),.set 5 (.lst []),.HC b6 [7,8] .seq [.var 6] zb,.ite (.cmp .ne (.var 6) (.lst [])) [.app 4 (.var 6)] []]
abbrev zd(Γ:Tab)(rows:List Row):Prop:=∀(R:List Nat) (K0:List Str) (vs:List U),(∀t∈R,t<rows.length)->∃st:List (Str×Nat),NS rows K0 R st/\Γ "new_steps" [.tup (rows.map A'),.lst (fA R),.Hn K0 vs]=bD (.ok (.own,.lst (st.map stN)))
theorem jq(G:Once rows)(H:rows.length<=120)(I:zd Γ rows)(J:∀w,w∉ks->HY rows rows.length w=[]):∀(f:Nat) (c:List (Str×Nat)) (d:List (List (Str×Nat))) (R:List Nat) (vs:List U) (o6 o7 o8 o9:Option (Kd×U)),
  LI rows c R->d.flatten=c->d.length<=c.length->(rows.length - c.length)+(if R=[] then 1 else 2)<=f ->
  ∃(O9:List (Str×Nat)) (N:List (List (Str×Nat))) (st':au),LI rows O9 []/\N.flatten=O9/\N.length<=120/\st'[4]?=bD (bD (.own,.lst (gw N))) /\
   Run (fG (HH Γ (.cmp .ne (.var 5) (.lst []))) (execs Γ zc) f) [bD (.loc,.tup (rows.map A')),bD (.own,.Hn ks (ks.map (cG (HY rows rows.length)))),bD (.own,.lst (bT rows λp=>(cnt rows (c.map (·.1)) p:Int))),bD (.own,.Hn (c.map (·.1)) vs),bD (.own,.lst (gw d)),bD (.own,.lst (fA R)),o6,o7,o8,o9] .nx st'
 |0,c,d,R,vs,o6,o7,o8,o9,_,_,_,h=>by split at h<;>lia
 |f+1,c,d,R,vs,o6,o7,o8,o9,x,O,LN,h=>by
  have hsz:(20000:Nat)<=df:=by decide
  have KU:∀{s:List (Str×Nat)} {g:List Nat},LI rows s g->s.length<=rows.length:=λ{s g} x=>by
   have:=uj x.nd x.wd;simpa using this
  have Iw:=KU x;let S:=λ(K:List Str) (vs:List U) (d:List (List (Str×Nat))) (R:List Nat) (o6 o7 o8 o9:Option (Kd×U))=>([bD (.loc,.tup (rows.map A')),bD (.own,.Hn ks (ks.map (cG (HY rows rows.length)))),bD (.own,.lst (bT rows λp=>(cnt rows K p:Int))),bD (.own,.Hn K vs),bD (.own,.lst (gw d)),bD (.own,.lst (fA R)),o6,o7,o8,o9]:au)
  have Xc:∀R:List Nat,Jg 50 (.lst (fA R))=b6:=λR=>by change dr 49 _=b6;show m8 (λt:Nat=>((t:Nat):Int)) R 49
  have A:Run (HH Γ (.cmp .ne (.var 5) (.lst []))) (S (c.map (·.1)) vs d R o6 o7 o8 o9) (!(fA R).isEmpty) (S (c.map (·.1)) vs d R o6 o7 o8 o9) :=
   aS (aA rfl) (cp af trivial aH (i8 _)) ⟨⟨.own,rfl,rfl⟩,trivial⟩ (lC (Xc R))
  by_cases Q:R=[]
  .subst Q;show⟨c,d,_,x,O,⋯,rfl,m6 A⟩
  .rw[Z7 Q]at h;have Xd:(!(fA R).isEmpty)=b6:=by
    cases R with
    |nil=>show absurd rfl Q
    |cons a l=>rfl
   rw[Xd]at A;have⟨st,n,Hx⟩:=I R (c.map (·.1)) vs λt ht=>(x.OZ t ht).1;have HJ:(c.map (·.1)++st.map (·.1)).Nodup:=by
    rw[oT];show⟨x.nd,n.once,λa ha b q e=>?_⟩;have⟨s,hs,rfl⟩:=js.mp q;show(n.ok s hs).2.1 (e▸ha)
   have ac:c.length+st.length<=rows.length:=by
    have:=uj HJ (L:=rows.map (·.1)) λy hy=>by
     rcases i3.mp hy with hy|hy
     .show x.wd y hy
     .have⟨s,hs,rfl⟩:=js.mp hy;obtain⟨_,_,r,q1,q2⟩:=n.ok s hs;show js.mpr ⟨r,mx q1,q2⟩
    simpa using this
   let v:Option (Kd×U):=bD (.own,.lst (st.map stN));have⟨i,g,j,m,o,y,Xe,SJ⟩:=vS (Γ:=Γ) G H J HJ (by rw[c2];lia) (b0:=bD (.loc,.tup (rows.map A'))) (b4:=bD (.own,.lst (gw d))) vs o7 o8 o9;have T:=x.step n y;have em:(c++st).map (·.1)=c.map (·.1)++st.map (·.1):=ka;have Xf:Jg 50 (.lst (st.map stN))=b6:=by change dr 49 _=b6;show qA st 48
   have B:Run (HH Γ (.cmp .ne (.var 6) (.lst []))) (S (c.map (·.1)++st.map (·.1)) i d g v j m o) (!(st.map stN).isEmpty) (S (c.map (·.1)++st.map (·.1)) i d g v j m o) :=
    aS (aA rfl) (cp af trivial aH (i8 _)) ⟨⟨.own,rfl,rfl⟩,trivial⟩ (lC Xf)
   have e1:(st.map stN).map (λu=>(kE (.bor 6),u))=st.map λs=>(Kd.loc,stN s):=by rw[hh];rfl
   have z:∀{Ja:au},Run (execs Γ [.ite (.cmp .ne (.var 6) (.lst []))
    [.app 4 (.var 6)]
    []]) (S (c.map (·.1)++st.map (·.1)) i d g v j m o) .nx Ja->Run (execs Γ zc) (S (c.map (·.1)) vs d R o6 o7 o8 o9) .nx Ja:=λh=>by
    show az (r:=(.own,.lst (st.map stN))) (a_ (aa (ae rfl) (aa (aA rfl) (aa (aA rfl) af))) ⟨⟨.own,rfl,rfl⟩,⟨.own,rfl,rfl⟩,trivial⟩ Hx) bb ?_;show az (r:=(.own,.lst [])) (cp af trivial aH (i8 _)) bb ?_;show bX (rs:=[(.bor 6,.lst (st.map stN))]) (aa (aA rfl) af) ⟨⟨.own,rfl,rfl⟩,trivial⟩ (by change bD (O' (λu=>(kE (.bor 6),u)) _)=_;rw[e1]) rfl SJ h
   by_cases C:st=[]
   .have SM:=Xe C;subst C;rw[show(!(([]:List (Str×Nat)).map stN).isEmpty)=cK from rfl]at B;have ee:c++[]=c:=rr _;rw[ee]at T;have q:=z (lq B (λh=>by cases h) λ_=>av);have⟨Y,Nj,st2,z1,z2,z3,z4,D⟩:=jq G H I J f c d g i v j m o T O LN (by rw[Z6 SM];lia);show⟨Y,Nj,st2,z1,z2,z3,z4,qy A q ?_⟩;have e3:c.map (·.1)++([]:List (Str×Nat)).map (·.1)=c.map (·.1):=by simp
    change Run _ (S (c.map (·.1)++([]:List (Str×Nat)).map (·.1)) i d g v j m o) _ _;rw[e3];show D
   .have SN:(!(st.map stN).isEmpty)=b6:=by
     cases st with
     |nil=>show absurd rfl C
     |cons a l=>rfl
    rw[SN]at B;have Xg:0<st.length:=P7.mpr C;have ef:gw (d++[st])=gw d++[.lst (st.map stN)]:=by simp[gw]
    have q:Run (execs Γ zc) (S (c.map (·.1)) vs d R o6 o7 o8 o9) .nx (S (c.map (·.1)++st.map (·.1)) i (d++[st]) g (bD (.loc,.lst (st.map stN))) j m o):=by
     show z (lq B (λ_=>?_) λh=>by cases h);change Run _ _ _ [bD (.loc,.tup (rows.map A')),bD (.own,.Hn ks (ks.map (cG (HY rows rows.length)))),bD (.own,.lst (bT rows λp=>(cnt rows (c.map (·.1)++st.map (·.1)) p:Int))),bD (.own,.Hn (c.map (·.1)++st.map (·.1)) i),bD (.own,.lst (gw (d++[st]))),bD (.own,.lst (fA g)),bD (.loc,.lst (st.map stN)),j,m,o];rw[ef];show fC (k:=.own) (k':=.own) (r:=(.bor 6,.lst (st.map stN))) (u:=.lst (st.map stN)) rfl (aA rfl) (B7 rfl) rfl rfl (by unfold gw;rw[c2];lia) av
    have⟨Y,Nj,st2,z1,z2,z3,z4,D⟩:=jq G H I J f (c++st) (d++[st]) g i (bD (.loc,.lst (st.map stN))) j m o T (by rw[Nd,O];simp) (by rw[i0,i0,Mu];lia) (by rw[i0];split<;>lia);show⟨Y,Nj,st2,z1,z2,z3,z4,qy A q ?_⟩;rw[em]at D;show D
abbrev Cd(Γ:Tab)(rows:List Row):Prop:=∃ks:List Str,(∀w,w∉ks->HY rows rows.length w=[])/\Γ "places_that_tell" [.tup (rows.map A')]=bD (.ok (.own,.Hn ks (ks.map (cG (HY rows rows.length)))))
def gx(s:Once rows)(v:rows.length<=120)(w:Cd Γ rows)(z:zd Γ rows):∃(f:List (Str×Nat)) (d:List (List (Str×Nat))),LI rows f []/\d.flatten=f/\d.length<=120/\cY Γ br [.tup (rows.map A')]=bD (.ok (.own,.lst (gw d))):=by
 have hsz:(20000:Nat)<=df:=by decide
 have⟨ks,A,B⟩:=w;have C:TM.start [.tup (rows.map A')] 10=[bD (.loc,.tup (rows.map A')),cb,cb,cb,cb,cb,cb,cb,cb,cb]:=by simp[TM.start,HM,bJ]
 let g:Option (Kd×U):=bD (.loc,.tup (rows.map A'));let j:Option (Kd×U):=bD (.own,.Hn ks (ks.map (cG (HY rows rows.length))));let D:Option (Kd×U):=bD (.own,.lst (bT rows λp=>(cnt rows [] p:Int)));have G:Run (ev Γ (.comp 1 cK .seq [.var 0] [] (.bi .len [.idx (.var 0) (.cst (.int 1))]))) [g,j,cb,cb,cb,cb,cb,cb,cb,cb] (.own,.lst (bT rows λp=>(cnt rows [] p:Int))) [g,j,cb,cb,cb,cb,cb,cb,cb,cb]:=by
  have c:=c7 (cond:=aL Γ []) (elt:=ev Γ (.bi .len [.idx (.var 0) (.cst (.int 1))])) (src:=[(.loc,.tup (rows.map A'))]) (st:=[g,j,cb,cb,cb,cb,cb,cb,cb,cb]) trivial .loc (.inl rfl) A' (λr=>.int (r.2.length:Nat)) .loc (λ_=>d0) rows [] (by simp;lia)
   (λy _=>⟨cy (aa (aZ (x:=(.loc,A' y)) (ae rfl) ai trivial rfl) af) trivial (by rw[oI,c2]),aF⟩)
  rw[hU]at c;have e:(rows.map A').map (λu=>(kE .loc,u))=rows.map λr=>(Kd.loc,A' r):=by rw[hh];rfl
  have H:(rows.map λr=>U.int (r.2.length:Nat))=bT rows λp=>(cnt rows [] p:Int):=by
   unfold bT;apply Lq
   .simp
   .intro i k l;have I:i<rows.length:=by simpa using k
    have m:told rows i=rows[i].2:=j3 (by simp[I]);have J:cnt rows [] i=rows[i].2.length:=by unfold cnt sk;rw[m];simp
    simp[J]
  rw[H]at c;show bH (rs:=[(.loc,.tup (rows.map A'))]) (aa (ae rfl) af) trivial (by change bD _=_;rw[e]) c
 let n:=(hQ rows.length).filter λp=>cc (cnt rows [] p=0);let o:au:=[g,j,D,bD (.own,.Hn [] []),bD (.own,.lst []),cb,cb,cb,cb,cb]
 have L:Run (ev Γ (.comp 2 b6 .MR [.var 2] [.cmp .eq (.var 1) (.cst (.int 0))] (.var 0))) o (.own,.lst (fA n)) o:=by
  have c:=lD (st:=o) (cond:=aL Γ [.cmp .eq (.var 1) (.cst (.int 0))]) (elt:=ev Γ (.var 0)) (src:=[(.bor 2,.lst (bT rows λp=>(cnt rows [] p:Int)))]) ⟨⟨.own,rfl,rfl⟩,trivial⟩ (λp:Nat=>U.int (p:Nat)) (λp:Nat=>U.int (cnt rows [] p:Int)) (λp:Nat=>U.int (p:Nat)) (λp=>cc (cnt rows [] p=0)) (hQ rows.length) [] (by simp;lia)
   (λy _=>⟨cD (aS (ae rfl) ai trivial (bV (by rw[Jk];simp))),ae rfl⟩)
  rw[hU]at c;have e:((bT rows λp=>(cnt rows [] p:Int)).zipIdx.map λp=>(kE (.bor 2),U.tup [.int p.2,p.1]))=(hQ rows.length).map λp:Nat=>(Kd.loc,U.tup [.int (p:Nat),.int (cnt rows [] p:Int)]):=by
   unfold bT;apply Lq
   .simp
   .intro i k l;simp[kE]
  show bH (rs:=[(.bor 2,.lst (bT rows λp=>(cnt rows [] p:Int)))]) (aa (aA rfl) af) ⟨⟨.own,rfl,rfl⟩,trivial⟩ (by change bD _=_;rw[e]) c
 have N:LI rows [] n:=⟨.nil,λ_ _ _ h=>(nomatch h),λ_ h=>(nomatch h),λt m=>by
  have⟨a,b⟩:=kl.mp m;show⟨u7.mp a,by simpa using b⟩,λt r k l=>.inl (kl.mpr ⟨u7.mpr (d3.mp k).1,by simpa using l⟩)⟩
 have⟨f,d,st',O,Q,T,q,Y⟩:=jq s v z A fuel [] [] n [] cb cb cb cb N rfl (ix _) (by unfold fuel;split<;>simp<;>lia);show⟨f,d,O,Q,T,?_⟩;show bc rfl (.inl rfl) C (az (r:=(.own,.Hn ks (ks.map (cG (HY rows rows.length))))) (a_ (aa (ae rfl) af) trivial B) bb (az G bb (az (r:=(.own,.Hn [] [])) jl bb (az (r:=(.own,.lst [])) (cp af trivial aH (i8 _)) bb (az L bb (qz Y (bF (aA q) (iK q))))))))
def vT(hs:Γ "steps_in_rounds" [.tup (rows.map A')]=bD (.ok (.own,.lst (gw a))))(c:a.flatten=f)(hl:f.length<=120):cY Γ fz [.tup (rows.map A')]=bD (.ok (.own,.lst (f.map stN))):=by
 have hsz:(20000:Nat)<=df:=by decide
 have h:TM.start [.tup (rows.map A')] 3=[bD (.loc,.tup (rows.map A')),cb,cb]:=by simp[TM.start,HM,bJ]
 let S:=λ(l:List (Str×Nat)) (o2:Option (Kd×U))=>([bD (.loc,.tup (rows.map A')),bD (.own,.lst (l.map stN)),o2]:au)
 have⟨st',i,b,o2,e⟩:=bu (t:=cK) (is:=[2]) (body:=execs Γ [.ext 1 (.var 2)]) (rs:=[(.own,.lst (gw a))]) (λl:List (Str×Nat)=>(Kd.loc,U.lst (l.map stN)))
  (λd r st=>d++r=a/\∃o2:Option (Kd×U),st=S d.flatten o2) (λ_ _ _ _=>trivial) (λd y r st j=>by
   have⟨b,o2,e⟩:=j;subst e;have m:d.flatten.length+y.length<=120:=by
    have:=Z_ (λl:List (List (Str×Nat))=>l.flatten.length) b;simp only[Nd,Oq,i0,c]at this;lia
   show⟨S d.flatten (bD (.loc,.lst (y.map stN))),S (d++[y]).flatten (bD (.loc,.lst (y.map stN))),d5 aI,?_,by rw[<-b];simp,_,rfl⟩;have em:(d++[y]).flatten.map stN=d.flatten.map stN++y.map stN:=by simp
   change Run _ _ _ [bD (.loc,.tup (rows.map A')),bD (.own,.lst ((d++[y]).flatten.map stN)),bD (.loc,.lst (y.map stN))];rw[em];show ug (k:=.own) (k':=.own) rfl (ae rfl) rfl rfl (oK (by rw[c2,c2];lia) rfl) av) a [] (S [] cb) ⟨rfl,cb,rfl⟩
 subst e;have e:(gw a).map (λu=>(kE .own,u))=a.map λl=>(Kd.loc,U.lst (l.map stN)):=by unfold gw;rw[hh];rfl
 have g:=bc (Γ:=Γ) (fn:=fz) rfl (.inl rfl) h (az (r:=(.own,.lst [])) (cp af trivial aH (i8 _)) bb (bX (rs:=[(.own,.lst (gw a))]) (st1:=S [] cb) (aa (a_ (aa (ae rfl) af) trivial hs) af) trivial rfl rfl (by rw[e];show i) (bF (aA rfl) (iK rfl))));rw[hU,c]at g;show g
end
section
variable{Γ:Tab}{rows:List Row}{names:List Str}
def sG(h:a.length<64):JI .sorted [(k,.lst (a.map .str))]=bD (.own,.lst ((aK a).map .str)):=by
 change(strsOf (a.map U.str)).bind _=_;rw[dO];change(if a.length<64 then _ else _)=_;rw[Z6 h]
def sH{a:List (Str×Nat)}(hl:a.length<64)(ho:Γ "order" [.tup (rows.map A')]=bD (.ok (.own,.lst (a.map stN)))):cY Γ e_ [.tup (rows.map A')]=bD (.ok (.own,.lst ((aK (a.map (·.1))).map .str))):=by
 have hsz:(20000:Nat)<=df:=by decide
 have c:TM.start [.tup (rows.map A')] 1=[bD (.loc,.tup (rows.map A'))]:=by simp[TM.start,HM,bJ]
 have b:=lD (st:=[bD (.loc,.tup (rows.map A'))]) (cond:=aL Γ []) (elt:=ev Γ (.var 0)) (src:=[(.own,.lst (a.map stN))]) trivial (λs:Str×Nat=>U.str s.1) (λs=>U.int (s.2:Nat)) (λs=>U.str s.1) (λ_=>b6) a [] (by simp;lia) (λy _=>⟨d0,ae rfl⟩);rw[hU,Nf.mpr (λ_ _=>rfl)]at b;have e:(a.map stN).map (λu=>(kE .own,u))=a.map λs=>(Kd.loc,U.tup [.str s.1,.int (s.2:Nat)]):=by rw[hh];rfl
 have d:(a.map λs=>U.str s.1)=(a.map (·.1)).map U.str:=by rw[hh];rfl
 rw[d]at b;show bc rfl (.inl rfl) c (bF (cy (aa (bH (rs:=[(.own,.lst (a.map stN))]) (aa (a_ (aa (ae rfl) af) trivial ho) af) trivial (by change bD (O' (λu=>(kE .own,u)) _)=_;rw[e]) b) af) trivial (sG (by rw[c2];show hl))) gI)
structure SO(prog:List Fn):Prop where
 g:HR prog "gathered" dn
 p:HR prog "places_that_tell" bj
 n:HR prog "new_steps" cU
 s:HR prog "steps_in_rounds" br
 o:HR prog "order" fz
 l:HR prog "learnt" e_
structure Kn(rows:List Row)(K:List Str):Prop where
 nd:K.Nodup
 sn:OY rows K
 cl:fW rows (·∈K)
def Kn.perm(a:Kn rows K)(b:Kn rows L):K.Perm L:=same a.nd b.nd a.sn b.sn a.cl b.cl
def Kn.of(s:LI rows a []):Kn rows (a.map (·.1)):=⟨s.nd,s.sn,s.closed⟩
def BA(L:SO prog)(n:Nat)(d:∀r∈rows,mY names r)(y:names.length<=24)(e:rows.length<=120):∃c:List (Str×Nat),LI rows c []/\c.length<=24/\HA prog (n+4) "order" [.tup (rows.map A')]=bD (.ok (.own,.lst (c.map stN))):=by
 have j:∀r∈rows,r.2.length<=8:=λr h=>(d r h).KU;have f:Once rows:=λr h=>(d r h).once;have i:∀r∈rows,r.1∈names:=λr h=>(d r h).word;have k:Cc (HA prog (n+1)):=λps hl=>by
  have⟨ks,a,b⟩:=oV (Γ:=HA prog n) hl;show⟨ks,a,(aJ L.g _).trans b⟩
 have l:Cd (HA prog (n+2)) rows:=by
  have⟨ks,a,b⟩:=sF k f j e;show⟨ks,a,(aJ L.p _).trans b⟩
 have m:zd (HA prog (n+2)) rows:=λR K0 vs q=>by
  have⟨st,a,b⟩:=lY (Γ:=HA prog (n+1)) i ⋯ q (K0:=K0) (vs:=vs);show⟨st,a,(aJ L.n _).trans b⟩
 have⟨c,t,s1,s2,s3,s4⟩:=gx f e l m;have u:HA prog (n+3) "steps_in_rounds" [.tup (rows.map A')]=bD (.ok (.own,.lst (gw t))):=(aJ L.s _).trans s4;have v:c.length<=24:=by
  have:=uj (Kn.of s1).nd (L:=names) λx w=>by
   have⟨r,a,b⟩:=js.mp (s1.wd x w);show b▸i r a
  rw[c2]at this;lia
 show⟨c,s1,v,(aJ L.o _).trans (vT u s2 ⋯)⟩
def BB(L:SO prog)(n:Nat)(a:∀r∈rows,mY names r)(b:names.length<=24)(c:rows.length<=120)(d:Kn rows K):HA prog (n+5) "learnt" [.tup (rows.map A')]=bD (.ok (.own,.lst ((aK K).map .str))):=by
 have⟨f,s1,s2,s3⟩:=BA L n a b c;have e:aK (f.map (·.1))=aK K:=fL ((Kn.of s1).perm d);rw[<-e];show(aJ L.l _).trans (sH ⋯ s3)
end
end KL
namespace TM
open PySem L2 HN
section
def BC{a b:List Str}:bO .ne (.lst (a.map U.str)) (.lst (b.map U.str))=bD (!cc (a=b)):=by
 have h:=@ly a b;simp only[bO]at h ⊢;split at h
 .rename_i c;rw[Z6 c,sx h]
 .cases h
def cu(rs:List Row):(bD (if HM (.tup (rs.map A'))=b6 then Kd.loc else Kd.any,U.tup (rs.map A')):Option (Kd×U))=bD (.loc,.tup (rs.map A')):=by
 rw[Z6 (by change cC (rs.map A')=b6;show bJ rs)]
def qK{a:List Str}:Ju .seq [(k,.tup (a.map .str))]=bD (a.map λx=>(kE k,U.str x)):=by
 change bD ((a.map U.str).map λu=>(kE k,u))=_;rw[hh];rfl
def vU(a:us.length=fn.np)(hs:start us fn.ns=st0)(h:Run (execs Γ fn.body) st0 .nx st):cY Γ fn us=bD (.ok (.loc,.Hs)):=by
 subst hs;unfold cY;rw[Z6 a,show execs Γ fn.body (start us fn.ns)=_ from h]
def bS.ok(h:bS ws r):mY ws r:=⟨h.1,h.2.2.2,h.2.1,h.2.2.1⟩
structure Bq(ws:List Str)(rs:List Row):Prop where
 wl:ws.length<=24
 rl:rs.length<=84
 ok:∀r∈rs,bS ws r
def ze(n:ws.length<1000)(hk:eZ ws ks)(e:bS ws r):
  ∃a b,Run (execs Γ yU) (oU rs ks (bD (.loc,.str r.1)) (bD (.loc,.tup (r.2.map .str))) o4) .nx (oU rs a (bD (.loc,.str r.1)) (bD (.loc,.tup (r.2.map .str))) b)/\eZ ws a/\∀x,x∈a↔x∈ks\/x=r.1\/x∈r.2:=by
 have o:=hk.len;obtain⟨st',j,a,b,rfl,l,_,c⟩:=bu (rs:=[(.loc,.tup (r.2.map .str))]) (t:=cK) (is:=[4]) (body:=execs Γ Cb) (λx:Str=>(Kd.loc,U.str x)) (λd q st=>∃a b,st=oU rs a (bD (.loc,.str r.1)) (bD (.loc,.tup (r.2.map .str))) b/\eZ ws a/\(∀x∈q,x∈ws)/\∀x,x∈a↔(x∈ks\/x=r.1)\/x∈d)
  (λ_ _ _ _=>trivial) (λd y q st h=>by
   have⟨f,b,rfl,g,i,c⟩:=h;have p:=g.len;show⟨oU rs f (bD (.loc,.str r.1)) (bD (.loc,.tup (r.2.map .str))) (bD (.loc,.str y)),_,aI,gJ (k:=.own) (k':=.own) ai rfl (ae rfl) (aB aF (aB aF aH)) rfl rfl (iP ⋯) av,eL f y,_,rfl,g.ins (i y (by simp)),λx m=>i x (by simp[m]),λx=>?_⟩;rw[fY,c x,i3,hV,or_assoc]) r.2 [] (oU rs (eL ks r.1) (bD (.loc,.str r.1)) (bD (.loc,.tup (r.2.map .str))) o4) ⟨_,_,rfl,hk.ins e.1,e.2.2.1,λx=>by rw[fY];simp⟩
 show⟨a,b,?_,l,λx=>by rw[c x,or_assoc,hU]⟩;show gJ (k:=.own) (k':=.own) ai rfl (ae rfl) (aB aF (aB aF aH)) rfl rfl (iP ⋯) (bX (rs:=[(.loc,.tup (r.2.map .str))]) (aa (ae rfl) af) trivial qK rfl j av)
def Eo(h:HR Pg "_law_all" yV)(p:ws.length<=24)(c:∀r∈rs,bS ws r):HA Pg (d+1) "_law_all" [.tup (rs.map A')]=bD (.ok (.own,.lst ((aw rs).map .str))):=by
 obtain⟨st',f,ks,o2,o3,o4,rfl,hk,_,g⟩:=bu (rs:=[(.loc,.tup (rs.map A'))]) (t:=b6) (is:=[2,3]) (body:=execs (HA Pg d) yU) (λr:Row=>(Kd.loc,A' r)) (λd q st=>∃ks o2 o3 o4,st=oU rs ks o2 o3 o4/\eZ ws ks/\(∀r∈q,bS ws r)/\∀x,x∈ks↔∃r∈d,x=r.1\/x∈r.2)
  (λ_ _ _ _=>trivial) (λd y q st h=>by
   have⟨i,o2,o3,o4,rfl,j,b,k⟩:=h;have⟨l,s,m,n,o⟩:=ze (Γ:=HA Pg ‹Nat›) (rs:=rs) (o4:=o4) ⋯ j (b y (by simp));show⟨oU rs i (bD (.loc,.str y.1)) (bD (.loc,.tup (y.2.map .str))) o4,_,gK (.inl rfl),m,l,_,_,_,rfl,n,λr a=>b r (by simp[a]),λx=>?_⟩;rw[o x,k x];constructor
   .rintro(⟨r,a,e⟩|e)
    .show⟨r,by simp[a],e⟩
    .show⟨y,by simp,e⟩
   .rintro⟨r,a,e⟩;rcases i3.mp a with q|q
    .show .inl ⟨r,q,e⟩
    .rw[hV]at q;subst q;show .inr e) rs [] (oU rs [] cb cb cb) ⟨[],cb,cb,cb,rfl,⟨by simp,by simp⟩,c,by simp⟩
 have hl:=hk.len;have e:aK ks=aw rs:=fL ((vu hk.1 (aX _)).mpr λx=>by rw[g x,aN,bM,hU]);show(aJ h _).trans (bc (st0:=[bD (.loc,.tup (rs.map A')),cb,cb,cb,cb]) rfl (.inl rfl) (Z_ (λx:Option (Kd×U)=>[x,cb,cb,cb,cb]) (cu rs)) (az (st2:=oU rs [] cb cb cb) jl bb (bX (rs:=[(.loc,.tup (rs.map A'))]) (aa (ae rfl) af) trivial fy rfl f (bF (cy (aa (aA rfl) af) ∅ ?_) gI))));change(if ks.length<64 then bD (Kd.own,U.lst ((aK ks).map .str)) else cb)=_;rw[Z6 ⋯,e]
def Ep(h:HR Pg "_law_all" yV):yW (HA Pg (d+1)):=λws rs c a=>⟨_,Eo h c a,lz _,λx f=>by
 have⟨r,b,e⟩:=bM.mp (bW.mp f);rcases e with rfl|e
 .show(a r b).1
 .show(a r b).2.2.1 _ e⟩
end
end TM
namespace TM
open PySem L2 HN Od
section
def dE(hk:k=.loc\/k=.any)(h:st[i]?=bD (bD (k,u))):Run (ev Γ (.var i)) st (k,u) st:=by
 rcases hk with rfl|rfl
 .show ae h
 .show aC h
def SQ(hk:k=.loc\/k=.any)(h:HM u=b6):Run (lift (k,u)) st u st:=by
 rcases hk with rfl|rfl
 .show aF
 .show jE h
def cH(hk:k=.loc\/k=.any)(h:bq rs st):bq ((k,u)::rs) st:=by rcases hk with rfl|rfl<;>show h
def Er(hk:k=.loc\/k=.any):kE k=k:=by rcases hk with rfl|rfl<;>rfl
def zf{told a:List Str}(hk:k=.loc\/k=.any)(hl:told.length<=1000)(hs:Run (ev Γ src) st (k,.tup (told.map .str)) st)(c:st[j]?=bD (bD (.own,w)))(d:∀x:Str,bO .isin (.str x) w=bD (cc (x∈a))):
  Run (ev Γ (.bi .all [.comp 1 cK .seq [src] [] (.cmp .isin (.var 0) (.var (j+1)))])) st (.loc,.bl (told.all λx=>cc (x∈a))) st:=by
 have hsz:(1000:Nat)<=df:=by decide
 have b:=c7 (cond:=aL Γ []) (elt:=ev Γ (.cmp .isin (.var 0) (.var (j+1)))) (src:=[(k,.tup (told.map .str))]) (st:=st) (cH hk trivial) k hk U.str (λx=>.bl (cc (x∈a))) .loc (λ_=>d0) told [] (by simp;lia)
  (λy _=>⟨gF (dE hk rfl) (aA (by simpa using c)) (cH hk ⟨⟨.own,rfl,by simpa using c⟩,trivial⟩) (d y),aF⟩)
 rw[hU]at b;have e:(told.map U.str).map (λu=>(kE k,u))=told.map λr=>(k,U.str r):=by rw[hh,Er hk];rfl
 have f:(told.map λx=>U.bl (cc (x∈a)))=(told.map λx=>cc (x∈a)).map U.bl:=by rw[hh];rfl
 rw[f]at b;have g:(told.all λx=>cc (x∈a))=((told.map λx=>cc (x∈a)).all id):=by rw[Rr];rfl
 rw[g];show cy (aa (bH (rs:=[(k,.tup (told.map .str))]) (aa hs af) (cH hk trivial) (by change bD _=_;rw[e]) b) af) trivial (j4 _)
abbrev Gf:List S:=[.ite (.and [.cmp .Hz (.var 3) (.var 1),.bi .all [.comp 1 cK .seq [.var 4] [] (.cmp .isin (.var 0) (.var 2))]]) [.put 1 (.var 3) (.cst (.bl b6)),.set 2 (.cst (.bl b6))] []]
abbrev Es:List S:=[.set 2 (.cst (.bl cK)),.HC b6 [3,4] .seq [.var 0] Gf]
abbrev BD:Fn:=⟨"_law_learnt",1,5,[.set 1 (.Ji cK),.set 2 (.cst (.bl b6)),.Ly (.var 2) Es,.ret (.var 1)]⟩
inductive Bv(rs:List Row):Kd->U->Prop
 |tup:Bv rs .loc (.tup (rs.map A'))
 |lst:Bv rs .any (.lst (rs.map A'))
def Bv.kd{W:U}(h:Bv rs k W):k=.loc\/k=.any:=by cases h<;>simp
def Bv.it{W:U}(h:Bv rs k W):Ju .seq [(k,W)]=bD (rs.map λr=>(k,A' r)):=by
 cases h
 .show fy
 .change bD ((rs.map A').map λu=>(kE .any,u))=_;rw[hh];rfl
def Bv.bg{W:U}(h:Bv rs k W):(bD (if HM W=b6 then Kd.loc else Kd.any,W):Option (Kd×U))=bD (k,W):=by
 cases h
 .show cu rs
 .rfl
abbrev jS(k:Kd)(W:U)(K:List Str)(b:Bool)(o3 o4:Option (Kd×U)):au:=[bD (k,W),bD (.own,d_ K),bD (.loc,.bl b),o3,o4]
structure Ms(ws:List Str)(rs:List Row)(K:List Str):Prop where
 ks:eZ ws K
 snd:OY rs K
def Ms.add(x:Ms ws rs K)(b:r∈rs)(c:r.1∈ws)(d:∀y∈r.2,y∈K):Ms ws rs (eL K r.1) :=
 ⟨x.ks.ins c,λC a y f=>(fY.mp f).elim (x.snd C a y) λe=>e▸a r b λz hz=>x.snd C a z (d z hz)⟩
def BE{W:U}(v:Bv rs k W)(I:ws.length<=40)(z:∀r∈rs,bS ws r)(x:Ms ws rs K0):
  ∃(g:List Str) (b:Bool) (o p:Option (Kd×U)),Run (execs Γ Es) (jS k W K0 b0 o3 o4) .nx (jS k W g b o p)/\Ms ws rs g/\(b=b6->K0.length<g.length)/\(b=cK->g=K0/\fW rs (·∈K0)):=by
 have hk:=v.kd;obtain⟨st1,C,_,g,b,o,p,rfl,i,l,c⟩:=bu (t:=b6) (is:=[3,4]) (body:=execs Γ Gf) (rs:=[(k,W)]) (λr:Row=>(k,A' r))
  (λd r st=>d++r=rs/\∃(K:List Str) (b:Bool) (o3 o4:Option (Kd×U)),st=jS k W K b o3 o4/\Ms ws rs K/\(b=b6->K0.length<K.length)/\(b=cK->K=K0/\∀r∈d,(∀y∈r.2,y∈K0)->r.1∈K0)) (λ_ _ _ _=>cH hk trivial) (λd a r st D=>by
   have⟨q,K,b,o3,o4,e,i,l,c⟩:=D;subst e;have s:a∈rs:=by rw[<-q];simp
   have J:=(z a s).2.2.2;have L:=i.ks.len;have m:Run (HH Γ (.and [.cmp .Hz (.var 3) (.var 1),.bi .all [.comp 1 cK .seq [.var 4] [] (.cmp .isin (.var 0) (.var 2))]])) (jS k W K b (bD (k,.str a.1)) (bD (k,.tup (a.2.map .str)))) (!cc (a.1∈K)&&a.2.all λy=>cc (y∈K)) (jS k W K b (bD (k,.str a.1)) (bD (k,.tup (a.2.map .str)))) :=
    gG (lr (aS (dE hk rfl) (aA rfl) (cH hk ⟨⟨.own,rfl,rfl⟩,trivial⟩) gq) λ_=>cD (sj (zf (j:=1) (w:=d_ K) hk ⋯ (dE hk rfl) rfl λ_=>so)))
   have A:Run (dv b6 [3,4] (k,A' a)) (jS k W K b o3 o4) () (jS k W K b (bD (k,.str a.1)) (bD (k,.tup (a.2.map .str)))):=gK hk;cases f:(!cc (a.1∈K)&&a.2.all λy=>cc (y∈K)) with
   |false =>
    rw[f]at m;show⟨_,_,A,bt m av av,by rw[<-q];simp,K,b,_,_,rfl,i,l,λu=>⟨(c u).1,λn IF hz=>?_⟩⟩;rcases i3.mp IF with IF|IF
    .show(c u).2 n IF hz
    .rw[hV]at IF;subst IF;rw[<-(c u).1]at hz ⊢;by_cases B:n.1∈K
     .show B
     .have:(!cc (n.1∈K)&&n.2.all λy=>cc (y∈K))=b6:=by
       rw[Z8 B];simpa using hz
      rw[this]at f;cases f
   |true =>
    rw[f]at m;simp only[cL,ux,decide_eq_false_iff_not,ko,Z5]at f;have G:eL K a.1=K++[a.1]:=by unfold eL;rw[Z7 f.1]
    show⟨_,jS k W (eL K a.1) b6 (bD (k,.str a.1)) (bD (k,.tup (a.2.map .str))),A,d4 m (gJ (k:=.own) (k':=.own) ai rfl (dE hk rfl) (aB aF (aB (SQ hk rfl) aH)) rfl rfl (iP ⋯) (az ai aI av)) av,by rw[<-q];simp,eL K a.1,b6,_,_,rfl,i.add s (z a s).1 f.2,λ_=>?_,λh=>by cases h⟩;rw[G,i0,Mu];cases b with
    |true=>have:=l rfl;lia
    |false=>rw[(c rfl).1];lia) rs [] (jS k W K0 cK o3 o4) ⟨rfl,K0,cK,o3,o4,rfl,x,(λh=>by cases h),λ_=>⟨rfl,λr H=>by cases H⟩⟩
 rw[hU]at c;show⟨g,b,o,p,az ai aI (bX (rs:=[(k,W)]) (st1:=jS k W K0 cK o3 o4) (aa (dE hk rfl) af) (cH hk trivial) v.it (by rcases hk with rfl|rfl<;>rfl) C av),i,l,c⟩
theorem oW{W:U}(i:Bv rs k W)(j:ws.length<=40)(l:∀r∈rs,bS ws r):
  ∀(f:Nat) (K0:List Str) (o3 o4:Option (Kd×U)),Ms ws rs K0->64 - K0.length<f->∃(a:List Str) (c d:Option (Kd×U)),Run (fG (HH Γ (.var 2)) (execs Γ Es) (f+1)) (jS k W K0 b6 o3 o4) .nx (jS k W a cK c d)/\Ms ws rs a/\fW rs (·∈a)
 |0,_,_,_,_,h=>by lia
 |f+1,K0,o3,o4,x,h=>by
  have⟨a,b,c,d,m,g,n,o⟩:=BE (Γ:=Γ) i j l x (b0:=b6) (o3:=o3) (o4:=o4);cases b with
  |false =>
   have⟨e,p⟩:=o rfl;subst e;show⟨a,c,d,qy (fw rfl) m (m6 (fw rfl)),g,p⟩
  |true =>
   have:=n rfl;have:=g.ks.len;have⟨q,s,t,u,v,w⟩:=oW i j l f a c d g ⋯;show⟨q,s,t,qy (fw rfl) m u,v,w⟩
abbrev Hg(m:Nat)(Γ:Tab):Prop:=∀(ws:List Str) (rs:List Row) (k:Kd) (W:U),Bv rs k W->ws.length<=m->(∀r∈rs,bS ws r)->∃K,Γ "_law_learnt" [W]=bD (.ok (.own,d_ K))/\eZ ws K/\KL.Kn rs K
def Hh(e:m<=40)(h:HR Pg "_law_learnt" BD):Hg m (HA Pg (d+1)):=λws rs k W a f b=>by
 have⟨K,g,i,q,x,c⟩:=oW (Γ:=HA Pg d) a ⋯ b 999999999999 [] cb cb ⟨⟨.nil,λ_ h=>absurd h J2⟩,λ_ _ _ h=>absurd h J2⟩ (by simp);show⟨K,(aJ h _).trans (bc rfl (.inl rfl) (st0:=[bD (k,W),cb,cb,cb,cb]) (Z_ (λx:Option (Kd×U)=>[x,cb,cb,cb,cb]) a.bg) (az jl bb (az ai aI (qz q (bF (aA rfl) (iK rfl)))))),x.ks,x.ks.1,x.snd,c⟩
abbrev Ln(rs:List Row)(x:Str):Prop:=∀C:Str->Prop,fW rs C->C x
def Kn.mem(h:KL.Kn rs K):x∈K↔Ln rs x:=⟨λa C b=>h.sn C b x a,λhl=>hl _ h.cl⟩
def Kn.some(c:ws.length<=24)(a:∀r∈rs,bS ws r):∃K,KL.Kn rs K/\eZ ws K:=by
 have⟨K,d,e,q,x,b⟩:=oW (Γ:=λ_ _=>cb) (Bv.tup (rs:=rs)) ⋯ a 999999999999 [] cb cb ⟨⟨.nil,λ_ h=>absurd h J2⟩,λ_ _ _ h=>absurd h J2⟩ (by simp);show⟨K,⟨x.ks.1,x.snd,b⟩,x.ks⟩
end
end TM
namespace TM
open PySem L2 HN
section
def Et(b:st[i]?=bD (bD (.Hl,.Hn ks us)))(c:Run (bP 2 b6 (pure b6) (ev Γ e) [] (om (ks,us)) []) (st.set i cb) vs st1):Run (execs Γ (.J9 i e::d)) st (.rt .own (.lst vs)) st1:=by
 show sd (ab (a:=(ks,us)) (st1:=st.set i cb) ?_ (ab c rfl));change pZ i st=_;unfold pZ;rw[b]
end
end TM
namespace KK
open PySem L2 TM HN Od
abbrev uw:Fn:=⟨"not_learnt",1,1,[.ret (.K' cK (.call "words_of" [.var 0]) (.call "learnt" [.var 0]))]⟩
abbrev Ce:List TM.S:=[.ite (.inD cK (.idx (.var 3) (.cst (.int 0))) 1) [.Jq 1 (.idx (.var 3) (.cst (.int 0))) (.idx (.comp 1 cK .seq [.idx (.var 3) (.cst (.int 1))] [.inD cK (.var 0) 2] (.var 0)) (.cst (.int 0)))] []]
abbrev uA:Fn:=⟨"knot",1,4,[.newD 1,.HC cK [2] .seq [.call "not_learnt" [.var 0]] [.putD 1 (.var 2) (.lst [])],.HC cK [3] .seq [.var 0] Ce,.J9 1 (.tup [.var 0,.bi .tuple [.var 1]])]⟩
abbrev IS(rows:List Row)(K:List Str):List Str:=(aw rows).filter λx=>cc (x∉K)
def oX:x∈IS rows K↔x∈cF rows/\x∉K:=by
 unfold IS;rw[kl,bW];simp
def gu(rows:List Row)(K:List Str):(IS rows K).Nodup:=(c8 rows).sublist w6
abbrev pick(Z:List Str)(l:List Str):Str:=((l.filter λx=>cc (x∈Z)).head?).getD ""
abbrev Jc(Z:List Str)(d:List Row)(k:Str):List Str:=(d.filter λr=>cc (r.1=k)).map λr=>pick Z r.2
abbrev c9(Z:List Str)(d:List Row)(k:Str):U:=.lst ((Jc Z d k).map .str)
abbrev aG(Z:List Str)(rows:List Row):List Row:=Z.map λk=>(k,Jc Z rows k)
section
def lI(f:K.length<64)(g:(aw rows).length<64)(a:Γ "words_of" [.tup (rows.map A')]=bD (.ok (.own,.lst ((aw rows).map .str))))(b:Γ "learnt" [.tup (rows.map A')]=bD (.ok (.own,.lst ((aK K).map .str)))):
  cY Γ uw [.tup (rows.map A')]=bD (.ok (.own,.lst ((IS rows K).map .str))):=by
 have c:TM.start [.tup (rows.map A')] 1=[bD (.loc,.tup (rows.map A'))]:=by simp[TM.start,HM,bJ]
 have h:=gS (aw rows);have d:=gS (aK K);rw[cv]at d;have hs:lW cK (ay (aw rows)) (ay (aK K))=bD (.own,.lst ((IS rows K).map .str)):=by
  unfold lW;rw[Z6 ⟨⋯,⋯⟩,Z7 i6];have e:aK ((ay (aw rows)).filter λx=>cc (x∉ay (aK K)))=IS rows K:=by
   show fX ?_ ((b_ _).sublist w6);show(vu ((aX _).sublist w6) (gu rows K)).mpr λx=>?_;unfold IS;rw[kl,kl,aN];simp only[Z5,aN,(bL K).mem_iff]
  rw[e]
 show bc rfl (.inl rfl) c (bF (uq (a_ (aa (ae rfl) af) trivial a) (cz ⋯) (a_ (aa (ae rfl) af) trivial b) (cz (by rw[cv];lia)) hs) gI)
def qL(Z:List Str)(d:List Row)(r:Row)(k:Str):Jc Z (d++[r]) k=if r.1=k then Jc Z d k++[pick Z r.2] else Jc Z d k:=by
 unfold Jc;rw[Km,ka,p5,PH];by_cases e:r.1=k
 .rw[Z6 e,Z6 (Z9 e)];rfl
 .rw[Z7 e,Z7 (by simpa using e)];simp
def BF(Z:List Str)(d:List Row)(k:Str):(Jc Z d k).length<=d.length:=by
 unfold Jc;rw[c2];show ki _ _
def zg(hr:rows.length<=120)(D:∀r∈rows,r.2.length<=8)(n:Z.Nodup)(hl:Z.length<64)(G:∀r∈rows,r.1∈Z->∃x∈r.2,x∈Z)(H:Γ "not_learnt" [.tup (rows.map A')]=bD (.ok (.own,.lst (Z.map .str)))):
  cY Γ uA [.tup (rows.map A')]=bD (.ok (.own,.lst ((aG Z rows).map A'))):=by
 have hsz:(20000:Nat)<=df:=by decide
 let j:Option (Kd×U):=bD (.loc,.tup (rows.map A'));have I:TM.start [.tup (rows.map A')] 4=[j,cb,cb,cb]:=by simp[TM.start,HM,bJ,j]
 let S:=λ(ks:List Str) (us:List TM.U) (o2 o3:Option (Kd×TM.U))=>([j,bD (.Hl,.Hn ks us),o2,o3]:au)
 obtain⟨st1,s,_,o2,e⟩:=bu (t:=cK) (is:=[2]) (body:=execs Γ [.putD 1 (.var 2) (.lst [])]) (rs:=[(.own,.lst (Z.map .str))]) (λw:Str=>(Kd.loc,U.str w))
  (λd r st=>d++r=Z/\∃o2,st=S d (d.map (c9 Z [])) o2 cb) (λ_ _ _ _=>trivial) (λd w r st o=>by
   have⟨f,o2,e⟩:=o;subst e;have J:w∉d:=λz=>by
    rw[<-f,oT]at n;show n.2.2 w z w (by simp) rfl
   have L:d.length<64:=by have:=Z_ HU f;simp at this;lia
   have em:(d++[w]).map (c9 Z [])=d.map (c9 Z [])++[.lst []]:=by rw[ka];rfl
   show⟨S d (d.map (c9 Z [])) (bD (.loc,.str w)) cb,S (d++[w]) ((d++[w]).map (c9 Z [])) (bD (.loc,.str w)) cb,d5 aI,?_,by rw[<-f];simp,_,rfl⟩;rw[em];show yt (k:=.loc) (xs:=[]) (cp af trivial aH (i8 _)) rfl (ae rfl) J ⋯ av) Z [] (S [] [] cb cb) ⟨rfl,cb,rfl⟩
 subst e;rw[hU]at s;let body:List TM.S:=Ce;obtain⟨st2,v,_,o3,e⟩:=bu (t:=cK) (is:=[3]) (body:=execs Γ body) (rs:=[(.loc,.tup (rows.map A'))]) (λr:Row=>(Kd.loc,A' r))
  (λd r st=>d++r=rows/\∃o3,st=S Z (Z.map (c9 Z d)) o2 o3) (λ_ _ _ _=>trivial) (λd b r st o=>by
   have⟨f,o3,e⟩:=o;subst e;have L:d.length<120:=by have:=Z_ HU f;simp at this;lia
   have A:b∈rows:=by rw[<-f];simp
   have Xa:=D b A;let c:Option (Kd×TM.U):=bD (.loc,A' b);have B:Run (ev Γ (.idx (.var 3) (.cst (.int 0)))) (S Z (Z.map (c9 Z d)) o2 c) (.loc,.str b.1) (S Z (Z.map (c9 Z d)) o2 c):=aZ (x:=(.loc,A' b)) (ae rfl) ai trivial rfl;have m:Run (HH Γ (.inD cK (.idx (.var 3) (.cst (.int 0))) 1)) (S Z (Z.map (c9 Z d)) o2 c) (cc (b.1∈Z)) (S Z (Z.map (c9 Z d)) o2 c):=yr (neg:=cK) (k:=.loc) B rfl;have C:Run (dv cK [3] (.loc,A' b)) (S Z (Z.map (c9 Z d)) o2 o3) () (S Z (Z.map (c9 Z d)) o2 c):=d5 aI;by_cases g:b.1∈Z
   .rw[Z9 g]at m;have i:=fV (cond:=aL Γ [.inD cK (.var 0) 2]) (elt:=ev Γ (.var 0)) (src:=[(.loc,.tup (b.2.map .str))]) (st:=S Z (Z.map (c9 Z d)) o2 c) trivial .loc (.inl rfl) U.str U.str (λx=>cc (x∈Z)) .loc b.2 [] (by simp;lia)
     (λy _=>⟨cD (yr (neg:=cK) (k:=.loc) (ae rfl) rfl),λ_=>⟨ae rfl,aF⟩⟩)
    rw[hU]at i;have q:(b.2.map U.str).map (λu=>(kE .loc,u))=b.2.map λx=>(Kd.loc,U.str x):=by rw[hh];rfl
    have N:=bH (Γ:=Γ) (ik:=.seq) (rs:=[(.loc,.tup (b.2.map .str))]) (st:=S Z (Z.map (c9 Z d)) o2 c) (src:=[.idx (.var 3) (.cst (.int 1))]) (aa (aZ (x:=(.loc,A' b)) (ae rfl) ai trivial rfl) af) trivial (by change bD (O' (λu=>(kE .loc,u)) _)=_;rw[q]) i;have O:Iv ((b.2.filter λx=>cc (x∈Z)).map U.str) ((0:Nat):Int)=bD (.str (pick Z b.2)):=by
     have⟨x,Q,T⟩:=G b A g;show fg ?_;unfold pick;cases Y:b.2.filter λx=>cc (x∈Z) with
     |nil =>
      have:x∈b.2.filter λx=>cc (x∈Z):=kl.mpr ⟨Q,Z9 T⟩;rw[Y]at this;cases this
     |cons a l=>rfl
    have hg:dI Z (Z.map (c9 Z d)) b.1=bD (.lst ((Jc Z d b.1).map .str)):=by rw[iN,Z6 g];rfl
    have hs:jc Z (Z.map (c9 Z d)) b.1 (.lst ((Jc Z d b.1).map .str++[.str (pick Z b.2)]))=Z.map (c9 Z (d++[b])):=by
     rw[lB _ _ _ _ n];show mu λk hk=>?_;unfold c9;rw[qL];by_cases e:b.1=k
     .subst e;rw[Z6 rfl,Z6 rfl];simp
     .rw[Z7 e,Z7 (rz e)]
    have SF:=BF Z d b.1;show⟨_,S Z (Z.map (c9 Z (d++[b]))) o2 c,C,lq m (λ_=>?_) (λh=>by cases h),by rw[<-f];simp,_,rfl⟩;rw[<-hs];show yu (k:=.loc) (r:=(.loc,.str (pick Z b.2))) rfl B g (aZ N ai trivial (cE (k:=.own) O)) aF hg (by rw[c2];lia) av
   .rw[Z8 g]at m;have em:Z.map (c9 Z (d++[b]))=Z.map (c9 Z d):=mu λk hk=>by
     unfold c9;rw[qL,Z7 (show ¬b.1=k from λz=>g (z▸hk))]
    show⟨_,S Z (Z.map (c9 Z d)) o2 c,C,lq m (λh=>by cases h) (λ_=>av),by rw[<-f];simp,c,by rw[em]⟩) rows [] (S Z (Z.map (c9 Z [])) o2 cb) ⟨rfl,cb,rfl⟩
 subst e;rw[hU]at v;have i:=lD (st:=[j,cb,o2,o3]) (cond:=pure b6) (elt:=ev Γ (.tup [.var 0,.bi .tuple [.var 1]])) (src:=[]) trivial (λk:Str=>U.str k) (λk=>c9 Z rows k) (λk=>A' (k,Jc Z rows k)) (λ_=>b6) Z [] (by simp;lia)
  (λy _=>⟨aY,eW (aa (ae rfl) (aa (cy (aa (ae rfl) af) trivial (r:=(.loc,.tup ((Jc Z rows y).map .str))) rfl) af)) trivial (aB aF (aB aF aH)) (by change 2<=df;lia)⟩)
 rw[hU,Nf.mpr (λ_ _=>rfl)]at i;have ei:om (Z,Z.map (c9 Z rows))=Z.map λk=>(Kd.loc,U.tup [.str k,c9 Z rows k]):=by
  have:∀l:List Str,(l.zip (l.map (c9 Z rows))).map (λp=>(Kd.loc,U.tup [.str p.1,p.2]))=l.map λk=>(Kd.loc,U.tup [.str k,c9 Z rows k]):=λl=>by
   induction l with
   |nil=>rfl
   |cons a l ih=>rw[eh,Kf,eh,ih];rfl
  show this Z
 have ek:(aG Z rows).map A'=Z.map λk=>A' (k,Jc Z rows k):=by unfold aG;rw[hh];rfl
 rw[ek];have q:(Z.map U.str).map (λu=>(kE .own,u))=Z.map λw=>(Kd.loc,U.str w):=by rw[hh];rfl
 have e2:(rows.map A').map (λu=>(kE .loc,u))=rows.map λr=>(Kd.loc,A' r):=by rw[hh];rfl
 show bc rfl (.inl rfl) I (yq (bX (rs:=[(.own,.lst (Z.map .str))]) (st1:=S [] [] cb cb) (aa (a_ (aa (ae rfl) af) trivial H) af) trivial (by change bD (O' (λu=>(kE .own,u)) _)=_;rw[q]) rfl s
  (bX (rs:=[(.loc,.tup (rows.map A'))]) (aa (ae rfl) af) trivial (by change bD (O' (λu=>(kE .loc,u)) _)=_;rw[e2]) rfl v (Et rfl (by rw[ei];show i)))))
end
end KK
namespace TM
open PySem L2 HN Od
inductive Bw(L:List Str):Kd->U->Prop
 |tup:Bw L .loc (.tup (L.map .str))
 |lst:Bw L .any (.lst (L.map .str))
def Bw.kd{W:U}(h:Bw L k W):k=.loc\/k=.any:=by cases h<;>simp
def Bw.it{W:U}(h:Bw L k W):Ju .seq [(k,W)]=bD (L.map λx=>(k,U.str x)):=by
 cases h
 .show qK
 .change bD ((L.map U.str).map λu=>(kE .any,u))=_;rw[hh];rfl
def Bw.bg{W:U}(h:Bw L k W):(bD (if HM W=b6 then Kd.loc else Kd.any,W):Option (Kd×U))=bD (k,W):=by
 cases h
 .rw[Z6 (by change cC (L.map U.str)=b6;show jm L)]
 .rfl
def Bw.set{W:U}(h:Bw L k W)(hl:L.length<4000):fF W=bD (ay L):=by
 have:=cz hl;cases h<;>show this
def Bw.start{rs:List Row}{W:U}(h:Bw L k W)(n:Nat):TM.start [.tup (rs.map A'),W] (n+2)=bD (.loc,.tup (rs.map A'))::bD (k,W)::i5 n cb:=by
 change bD (if HM (.tup (rs.map A'))=b6 then Kd.loc else Kd.any,U.tup (rs.map A'))::bD (if HM W=b6 then Kd.loc else Kd.any,W)::i5 (n+2 - 2) cb=_;rw[cu,h.bg];rfl
abbrev KO(rs:List Row)(L:List Str):Prop:=∀x∈L,x∈aw rs
structure Bz(ws:List Str)(rs:List Row):Prop where
 wl:ws.length<=24
 rl:rs.length<=120
 ok:∀r∈rs,bS ws r
def Bq.z(h:Bq ws rs):Bz ws rs:=⟨h.wl,by have:=h.rl;lia,h.ok⟩
def Bz.in(h:Bz ws rs)(b:x∈aw rs):x∈ws:=by
 have⟨r,a,e⟩:=bM.mp (bW.mp b);rcases e with rfl|e
 .show(h.ok r a).1
 .show(h.ok r a).2.2.1 _ e
section
abbrev heads(rs:List Row):List Str:=(rs.filter λr=>cc (r.2=[])).map (·.1)
abbrev wp(rs:List Row)(L:List Str):List Row:=rs++(L.filter λw=>cc (w∉heads rs)).map λw=>(w,[])
def sI(h:r∈wp rs L):r∈rs\/(r.1∈L/\r.2=[]):=by
 rcases i3.mp h with h|h
 .show .inl h
 .have⟨w,a,rfl⟩:=js.mp h;show .inr ⟨(kl.mp a).1,rfl⟩
def Eu:(wp rs L).length<=rs.length+L.length:=by
 unfold wp;rw[i0,c2];have:=ki (λw=>cc (w∉heads rs)) L;lia
def Cg(d:∀r∈rs,bS ws r)(c:∀x∈ws,x∈ws')(e:∀x∈L,x∈ws'):∀r∈wp rs L,bS ws' r:=λr h=>by
 rcases sI h with h|⟨a,b⟩
 .have⟨p,q,s,t⟩:=d r h;show⟨c _ p,q,λy f=>c y (s y f),t⟩
 .show⟨e _ a,?_,?_,?_⟩<;>rw[b]<;>simp
def j6(hk:KO rs L):x∈aw (wp rs L)↔x∈aw rs:=by
 constructor
 .intro h;have⟨r,c,e⟩:=bM.mp (bW.mp h);rcases sI c with c|⟨a,b⟩
  .show bW.mpr (bM.mpr ⟨r,c,e⟩)
  .rw[b]at e;rcases e with rfl|e
   .show hk _ a
   .cases e
 .intro h;have⟨r,c,e⟩:=bM.mp (bW.mp h);show bW.mpr (bM.mpr ⟨r,MG _ c,e⟩)
def qM{W:U}(a:Bw L k W){H:List Str}(hl:L.length<=40)(d:st[i]?=bD (bD (k,W)))(b:st[j]?=bD (bD (.own,w)))(e:∀x:Str,bO .Hz (.str x) w=bD (cc (x∉H))):
  Run (ev Γ (.bi .tuple [.comp 1 cK .seq [.var i] [.cmp .Hz (.var 0) (.var (j+1))] (.tup [.var 0,.tup []])])) st (.loc,.tup (((L.filter λw=>cc (w∉H)).map λw=>(w,[])).map A')) st:=by
 have hsz:(1000:Nat)<=df:=by decide
 have hk:=a.kd;have c:=fV (cond:=aL Γ [.cmp .Hz (.var 0) (.var (j+1))]) (elt:=ev Γ (.tup [.var 0,.tup []])) (src:=[(k,W)]) (st:=st) (cH hk trivial) k hk U.str (λw=>A' (w,[])) (λw=>cc (w∉H)) .loc L [] (by simp;lia)
  (λy _=>⟨cD (aS (dE hk rfl) (aA (by simpa using b)) (cH hk ⟨⟨.own,rfl,by simpa using b⟩,trivial⟩) (e y)),λ_=>⟨eW (aa (dE hk rfl) (aa (eW af trivial aH (i8 _)) af)) (cH hk trivial) (aB (SQ hk rfl) (aB aF aH)) (by change 2<=df;lia),aF⟩⟩)
 rw[hU]at c;rw[hh];show cy (aa (bH (rs:=[(k,W)]) (aa (dE hk d) af) (cH hk trivial) a.it c) af) trivial rfl
abbrev Gg:List S:=[.ite (.cmp .eq (.idx (.var 3) (.cst (.int 1))) (.tup [])) [.put 2 (.idx (.var 3) (.cst (.int 0))) (.cst (.bl b6))] []]
abbrev sJ(rs:List Row)(k:Kd)(W:U)(K:List Str)(o3:Option (Kd×U)):au:=[bD (.loc,.tup (rs.map A')),bD (k,W),bD (.own,d_ K),o3]
def uB{rs ms:List Row}(h:rs.length+ms.length<=1000):Kl .add (.loc,.tup (rs.map A')) (.loc,.tup (ms.map A'))=bD (.loc,.tup ((rs++ms).map A')):=by
 have hsz:(1000:Nat)<=df:=by decide
 change(if (rs.map A').length+(ms.map A').length<=df then bD (kT .loc .loc,U.tup (rs.map A'++ms.map A')) else cb)=_;rw[Z6 (by simp;lia),ka];rfl
end
section
abbrev uw:Fn:=⟨"not_learnt",1,1,[.ret (.K' cK (.call "words_of" [.var 0]) (.call "learnt" [.var 0]))]⟩
abbrev Suf(rs:List Row)(L:List Str):Prop:=∀x∈aw rs,Ln (wp rs L) x
abbrev Qg:Fn:=⟨"_law_pictured",2,3,[.set 2 (.comp 1 cK .seq [.var 0] [.cmp .eq (.idx (.var 0) (.cst (.int 1))) (.tup [])] (.idx (.var 0) (.cst (.int 0)))),.ret (.bin .add (.bi .tuple [.var 0]) (.bi .tuple [.comp 1 cK .seq [.var 1] [.cmp .Hz (.var 0) (.var 3)] (.tup [.var 0,.tup []])]))]⟩
def Hi(h:HR Pg "_law_pictured" Qg)(b:rs.length<=120)(hl:L.length<=40):HA Pg (d+1) "_law_pictured" [.tup (rs.map A'),.lst (L.map .str)]=bD (.ok (.loc,.tup ((wp rs L).map A'))):=by
 have c:=ki (λw=>cc (w∉heads rs)) L;have a:=qM (Γ:=HA Pg d) (st:=[bD (.loc,.tup (rs.map A')),bD (.any,.lst (L.map .str)),bD (.own,.lst ((heads rs).map .str))]) .lst (i:=1) (j:=2) (w:=.lst ((heads rs).map .str)) (H:=heads rs) hl rfl rfl λx=>eY;show(aJ h _).trans (bc rfl (.inr rfl) (Bw.lst.start 1) (az (qH ⋯ rfl) bb (bF (bE (cy (aa (ae rfl) af) trivial rfl) a trivial (uB (by rw[c2];lia))) eE)))
abbrev SR:Fn:=⟨"_law_suffice",2,2,[.ret (.cmp .eq (.bi .sorted [.call "_law_learnt" [.call "_law_pictured" [.var 0,.var 1]]]) (.call "_law_all" [.var 0]))]⟩
def Hj(f:HR Pg "_law_pictured" Qg)(i:HR Pg "_law_learnt" BD)(j:HR Pg "_law_all" yV)(h:HR Pg "_law_suffice" SR){ws ws':List Str}(c:Bz ws rs)(hl:L.length<=40)(k:ws'.length<=40)(l:∀x∈ws,x∈ws')(m:∀x∈L,x∈ws'):
  ∃b,HA Pg (d+2) "_law_suffice" [.tup (rs.map A'),.lst (L.map .str)]=bD (.ok (.loc,.bl b))/\(KO rs L->(b=b6↔Suf rs L)):=by
 have⟨K,e,k1,k2⟩:=Hh (d:=d) (ix 40) i ws' (wp rs L) .loc _ .tup k (Cg c.ok l m);have o:=k1.len;show⟨cc (aK K=aw rs),(aJ h _).trans (bc rfl (.inr rfl) (Bw.lst.start 0) (bF (gF (x:=(.own,.lst ((aK K).map .str))) (cy (aa (a_ (aa (a_ (aa (ae rfl) (aa (aC rfl) af)) trivial (Hi f c.rl hl)) af) trivial e) af) trivial ?_) (a_ (aa (ae rfl) af) trivial (Eo j c.wl c.ok)) trivial ly) eE)),λz=>?_⟩
 .change(if K.length<64 then bD (Kd.own,U.lst ((aK K).map .str)) else cb)=_;rw[Z6 ⋯]
 .rw[decide_eq_true_iff];constructor
  .intro g x a;show(Kn.mem k2).mp ((bL K).mem_iff.mp (g▸a))
  .intro g;show fX ((vu k1.1 (c8 rs)).mpr λx=>⟨λa=>?_,λa=>(Kn.mem k2).mpr (g x a)⟩) (b_ _);have:=(Kn.mem k2).mp a (·∈aw (wp rs L)) λr n _=>bW.mpr (bM.mpr ⟨r,n,.inl rfl⟩);show(j6 z).mp this
end
section
abbrev Ci:Fn:=⟨"refuse_unknown",2,2,[.ite (.cmp .gt (.K' b6 (.var 1) (.call "words_of" [.var 0])) (.cst (.int 0))) [.bad] []]⟩
abbrev Gh:Fn:=⟨"with_pictures",2,4,[.exp (.call "refuse_unknown" [.var 0,.var 1]),.set 2 (.Ji cK),.HC cK [3] .seq [.var 0] Gg,.ret (.bin .add (.var 0) (.bi .tuple [.comp 1 cK .seq [.var 1] [.cmp .Hz (.var 0) (.var 3)] (.tup [.var 0,.tup []])]))]⟩
structure vV(Pg:List Fn):Prop where
 L:KL.SO Pg
 w:HR Pg "words_of" oN
 r:HR Pg "refuse_unknown" Ci
 p:HR Pg "with_pictures" Gh
 n:HR Pg "not_learnt" KK.uw
def Hk(H:vV Pg)(d:Nat)(c:Bz ws rs){W:U}(e:Bw L k W)(hl:L.length<=40)(hk:KO rs L):HA Pg (d+2) "refuse_unknown" [.tup (rs.map A'),W]=bD (.ok (.loc,.Hs)):=by
 have i:=cO λr b=>(c.ok r b).ok;have JU:=c.wl;have j:(ay (aw rs)).length<=(aw rs).length:=bY (aX _) λx a=>by simpa[aN] using a
 have f:(ay L).length<=L.length:=bY (aX _) λx a=>by simpa[aN] using a
 have g:HA Pg (d+1) "words_of" [.tup (rs.map A')]=bD (.ok (.own,.lst ((aw rs).map .str))):=(aJ H.w _).trans (dM c.rl (λr b=>(c.ok r b).ok) ⋯);have hs:lW b6 (ay L) (ay (aw rs))=bD (.loc,.int (((ay L).filter λx=>cc (x∉ay (aw rs))).length:Nat)):=by
  unfold lW;rw[Z6 ⟨⋯,⋯⟩,Z6 rfl]
 have h:((ay L).filter λx=>cc (x∉ay (aw rs)))=[]:=by
  rw[HF];intro x a;have a:x∈L:=by simpa[aN] using a
  simpa[aN] using hk x a
 rw[h]at hs;have b:Run (ev (HA Pg (d+1)) (.K' b6 (.var 1) (.call "words_of" [.var 0]))) [bD (.loc,.tup (rs.map A')),bD (k,W)] _ _:=uq (dE e.kd rfl) (e.set ⋯) (a_ (aa (ae rfl) af) trivial g) (cz ⋯) hs;show(aJ H.r _).trans (vU rfl (e.start 0) (bt (aS b ai trivial (jG rfl)) av av))
def Uw(H:vV Pg)(d:Nat)(b:Bz ws rs){W:U}(c:Bw L k W)(hl:L.length<=40)(z:KO rs L):HA Pg (d+3) "with_pictures" [.tup (rs.map A'),W]=bD (.ok (.loc,.tup ((wp rs L).map A'))):=by
 have hk:=c.kd;have o:=Hk H d b c hl z;obtain⟨st',s,K,o3,rfl,B,m,_⟩:=bu (rs:=[(.loc,.tup (rs.map A'))]) (t:=cK) (is:=[3]) (body:=execs (HA Pg (d+2)) Gg) (λr:Row=>(Kd.loc,A' r)) (λa q st=>∃K o3,st=sJ rs k W K o3/\eZ ws K/\(∀x,x∈K↔x∈heads a)/\∀r∈q,bS ws r)
  (λ_ _ _ _=>trivial) (λa y q st u=>by
   have⟨K,o3,e,g,n,h⟩:=u;subst e;have C:=g.len;have D:=b.wl;have f:Run (HH (HA Pg (d+2)) (.cmp .eq (.idx (.var 3) (.cst (.int 1))) (.tup []))) (sJ rs k W K (bD (.loc,A' y))) (cc (y.2=[])) (sJ rs k W K (bD (.loc,A' y))):=aS (aZ (ae rfl) ai trivial (show gY (.loc,A' y) (.int 1)=bD (.loc,.tup (y.2.map .str)) from rfl)) (eW af trivial aH (i8 _)) trivial uo;have v:heads (a++[y])=heads a++(if y.2=[] then [y.1] else []):=by
    unfold heads;rw[Km,ka,p5,PH];by_cases e:y.2=[]<;>simp[e]
   rw[v];by_cases e:y.2=[]
   .rw[Z9 e]at f;rw[Z6 e];show⟨_,sJ rs k W (eL K y.1) (bD (.loc,A' y)),aI,d4 f (gJ (k:=.own) (k':=.own) ai rfl (aZ (ae rfl) ai trivial (show gY (.loc,A' y) (.int 0)=bD (.loc,.str y.1) from rfl)) (aB aF (aB aF aH)) rfl rfl (iP ⋯) av) av,eL K y.1,_,rfl,g.ins (h y (by simp)).1,λx=>?_,λr l=>h r (by simp[l])⟩;rw[fY,n x,i3,hV]
   .rw[Z8 e]at f;rw[Z7 e,rr];show⟨_,sJ rs k W K (bD (.loc,A' y)),aI,bt f av av,K,_,rfl,g,n,λr l=>h r (by simp[l])⟩) rs [] (sJ rs k W [] cb) ⟨[],cb,rfl,⟨.nil,by simp⟩,λx=>by simp[heads],b.ok⟩
 rw[hU]at m;have A:=qM (Γ:=HA Pg (d+2)) (st:=sJ rs k W K o3) c (i:=1) (j:=2) (w:=d_ K) (H:=heads rs) hl rfl rfl λx=>gq.trans (by simp[m x]);have G:=ki (λw=>cc (w∉heads rs)) L;show(aJ H.p _).trans (bc rfl (.inr rfl) (c.start 2) (yJ (a_ (aa (ae rfl) (aa (dE hk rfl) af)) (cH (.inl rfl) (cH hk trivial)) o) (az jl bb (bX (rs:=[(.loc,.tup (rs.map A'))]) (aa (ae rfl) af) trivial fy rfl s (bF (bE (ae rfl) A trivial (uB (by rw[c2];have:=b.rl;lia))) eE)))))
def Gi(a:Bz ws rs)(z:KO rs L)(h:rs.length+L.length<=120):Bz ws (wp rs L):=⟨a.wl,u6 Eu h,Cg a.ok (λ_ h=>h) λx b=>a.in (z x b)⟩
def qN(a:Bz ws rs)(K:List Str):(KK.IS rs K).length<=24:=by
 have c:(KK.IS rs K).length<=(aw rs).length:=ki _ _;have d:=cO λr b=>(a.ok r b).ok;have:=a.wl;lia
def Xk(H:vV Pg)(d:Nat)(a:Bz ws rs)(c:KL.Kn rs K)(hl:K.length<=24):HA Pg (d+6) "not_learnt" [.tup (rs.map A')]=bD (.ok (.own,.lst ((KK.IS rs K).map .str))):=by
 have f:=cO λr b=>(a.ok r b).ok;have g:=a.wl;have e:HA Pg (d+5) "words_of" [.tup (rs.map A')]=bD (.ok (.own,.lst ((aw rs).map .str))):=(aJ H.w _).trans (dM a.rl (λr b=>(a.ok r b).ok) ⋯);show(aJ H.n _).trans (KK.lI ⋯ ⋯ e (KL.BB H.L d (λr b=>(a.ok r b).ok) a.wl a.rl c))
def d7:x∈KK.IS rs K↔x∈aw rs/\x∉K:=by rw[KK.oX,bW]
def Kn.Cj(b:KL.Kn rs K):∀r∈rs,r.1∈KK.IS rs K->∃x∈r.2,x∈KK.IS rs K:=λr h hz=>by
 apply J5;intro c;show(KK.oX.mp hz).2 (b.cl r h λx a=>?_);apply J5;intro d;show c ⟨x,a,KK.oX.mpr ⟨bM.mpr ⟨r,h,.inr a⟩,d⟩⟩
def Ux(H:vV Pg)(hk:HR Pg "knot" KK.uA)(d:Nat)(a:Bz ws rs)(c:rs.length<=120)(b:KL.Kn rs K)(hl:K.length<=24):HA Pg (d+7) "knot" [.tup (rs.map A')]=bD (.ok (.own,.lst ((KK.aG (KK.IS rs K) rs).map A'))) :=
 (aJ hk _).trans (KK.zg c (λr h=>(a.ok r h).2.2.2) (KK.gu _ _) (by have:=qN a K;lia) (Kn.Cj b) (Xk H d a b hl))
end
end TM
namespace TM
open PySem L2 HN Od KK
section
def BG{a:List Str}:bO .isin (.str x) (.tup (a.map U.str))=bD (cc (x∈a)):=@B8 x a
abbrev zh:Fn:=⟨"_law_pairs",1,1,[.ret (.and [.KD (.var 0) .list,.bi .all [.comp 1 cK .seq [.var 0] [] (.and [.KD (.var 0) .tuple,.cmp .eq (.bi .len [.var 0]) (.cst (.int 2))])]])]⟩
def zi(f:α->U)(g:∀a,∃x y,f a=.tup [x,y]){l:List α}(hl:l.length<=100):cY Γ zh [.lst (l.map f)]=bD (.ok (.loc,.bl b6)):=by
 have hsz:(1000:Nat)<=df:=by decide
 have c:=c7 (cond:=aL Γ []) (elt:=ev Γ (.and [.KD (.var 0) .tuple,.cmp .eq (.bi .len [.var 0]) (.cst (.int 2))])) (src:=[(.any,.lst (l.map f))]) (st:=[bD (.any,.lst (l.map f))]) trivial .any (.inr rfl) f (λ_=>.bl b6) .loc (λ_=>d0) l [] (by simp;lia)
  (λy _=>by
   have⟨a,b,e⟩:=g y;rw[e];show⟨yk (sg (p:=b6) (q:=b6) (B5 (aC rfl) rfl) λ_=>rZ (gF (cy (aa (aC rfl) af) trivial oI) ai trivial (bV rfl))),aF⟩)
 rw[hU,show(l.map λ_=>U.bl b6)=(l.map λ_=>b6).map U.bl by rw[hh];rfl]at c;have h:((l.map λ_=>b6).all id)=b6:=by rw[Rr];show ko.mpr λ_ _=>rfl
 have d:=j4 (k:=.own) (l.map λ_=>b6);rw[h]at d;show bc rfl (.inr rfl) (st0:=[bD (.any,.lst (l.map f))]) rfl (bF (yk (sg (p:=b6) (q:=b6) (B5 (aC rfl) rfl) λ_=>rZ (cy (aa (bH (rs:=[(.any,.lst (l.map f))]) (aa (aC rfl) af) trivial ?_ c) af) trivial d))) eE);change bD ((l.map f).map λu=>(kE .any,u))=_;rw[hh];rfl
abbrev Uy:List S :=
   [.set 5 (.comp 1 cK .seq [.var 0] [.cmp .eq (.idx (.var 0) (.cst (.int 0))) (.var 4)] (.var 0)),
   .ite (.or [.not (.KD (.var 4) .tuple),.cmp .ne (.bi .len [.var 4]) (.bi .len [.var 5]),.cmp .Hz (.var 3) (.call "_law_all" [.var 0])])
    [.ret (.cst (.bl cK))]
    [],
   .ite (.not (.bi .all [.comp 1 cK .IG [.bi .len [.var 5]] [] (.and [.cmp .isin (.idx (.var 5) (.var 0)) (.idx (.idx (.var 6) (.var 0)) (.cst (.int 1))),.cmp .isin (.idx (.var 5) (.var 0)) (.var 3)])]))
    [.ret (.cst (.bl cK))]
    []]
abbrev zj:Fn:=⟨"_law_is_knot",2,6,[.set 2 (.comp 1 cK .seq [.var 1] [] (.idx (.var 0) (.cst (.int 0)))),.ite (.cmp .ne (.var 2) (.Lx .sset [.var 2])) [.ret (.cst (.bl cK))] [],.HC b6 [3,4] .seq [.var 1] Uy,.ret (.cst (.bl b6))]⟩
abbrev oY(rs P:List Row)(Z:List Str)(o3 o4 o5:Option (Kd×U)):au:=[bD (.loc,.tup (rs.map A')),bD (.any,.lst (P.map A')),bD (.own,.lst (Z.map .str)),o3,o4,o5]
def zk(h:∃x∈l,x∈Z):pick Z l∈l/\pick Z l∈Z:=by
 have⟨x,c,d⟩:=h;unfold pick;cases b:l.filter λx=>cc (x∈Z) with
 |nil =>
  have:x∈l.filter λx=>cc (x∈Z):=kl.mpr ⟨c,Z9 d⟩;rw[b]at this;cases this
 |cons a t =>
  have:a∈l.filter λx=>cc (x∈Z):=by rw[b];show ri
  have⟨e,f⟩:=kl.mp this;show⟨e,Z' f⟩
def Ew{rs:List Row}(hl:rs.length<=1000)(b:st[i]?=bD (bD (.loc,.tup (rs.map A'))))(c:st[j]?=bD (bD (.any,.str k))):
  Run (ev Γ (.comp 1 cK .seq [.var i] [.cmp .eq (.idx (.var 0) (.cst (.int 0))) (.var (j+1))] (.var 0))) st (.own,.lst ((rs.filter λr=>cc (r.1=k)).map A')) st:=by
 have hsz:(1000:Nat)<=df:=by decide
 have a:=fV (cond:=aL Γ [.cmp .eq (.idx (.var 0) (.cst (.int 0))) (.var (j+1))]) (elt:=ev Γ (.var 0)) (src:=[(.loc,.tup (rs.map A'))]) (st:=st) trivial .loc (.inl rfl) A' A' (λr=>cc (r.1=k)) .loc rs [] (by simp;lia)
  (λy _=>⟨cD (aS (x:=(.loc,.str y.1)) (aZ (ae rfl) ai trivial (dc rfl)) (aC (by simpa using c)) trivial oM),λ_=>⟨ae rfl,aF⟩⟩)
 rw[hU]at a;show bH (rs:=[(.loc,.tup (rs.map A'))]) (aa (ae b) af) trivial fy a
def zl(f:Bz ws rs)(B:Γ "_law_all" [.tup (rs.map A')]=bD (.ok (.own,.lst ((aw rs).map .str))))(m:Z.Sublist (aw rs))(C:∀r∈rs,r.1∈Z->∃x∈r.2,x∈Z):cY Γ zj [.tup (rs.map A'),.lst ((aG Z rs).map A')]=bD (.ok (.loc,.bl b6)):=by
 have hsz:(1000:Nat)<=df:=by decide
 have Uz:=f.rl;have NT:Z.length<=24:=by have:=m.length_le;have:=cO λr g=>(f.ok r g).ok;have:=f.wl;lia
 have D:Z.Nodup:=m.nodup (lz _);have G:aK (ay Z)=Z:=eO ((bL _).trans ((vu (aX _) D).mpr λx=>by rw[aN])) (b_ _) ((b_ _).sublist m);have Kk:(ay Z).length<=Z.length:=bY (aX _) λx n=>by simpa[aN] using n
 have JW:(aG Z rs).length=Z.length:=by unfold aG;rw[c2]
 have n:=c7 (cond:=aL Γ []) (elt:=ev Γ (.idx (.var 0) (.cst (.int 0)))) (src:=[(.any,.lst ((aG Z rs).map A'))]) (st:=[bD (.loc,.tup (rs.map A')),bD (.any,.lst ((aG Z rs).map A')),cb,cb,cb,cb]) trivial .any (.inr rfl) A' (λr=>.str r.1) .any (λ_=>d0) (aG Z rs) [] (by simp;lia)
  (λy _=>⟨aZ (aC rfl) ai trivial (dc rfl),jE rfl⟩)
 rw[hU,show((aG Z rs).map λr=>U.str r.1)=Z.map U.str by unfold aG;rw[hh];rfl]at n;have s:((aG Z rs).map A').map (λu=>(kE .any,u))=(aG Z rs).map λr=>(Kd.any,A' r):=by rw[hh];rfl
 obtain⟨st',H,o3,o4,o5,rfl,_⟩:=bu (rs:=[(.any,.lst ((aG Z rs).map A'))]) (t:=b6) (is:=[3,4]) (body:=execs Γ Uy) (λr:Row=>(Kd.any,A' r)) (λd q st=>∃o3 o4 o5,st=oY rs (aG Z rs) Z o3 o4 o5/\∀r∈q,r∈aG Z rs)
  (λ_ _ _ _=>trivial) (λd y q st I=>by
   have⟨o3,o4,o5,e,v⟩:=I;subst e;have⟨k,hk,rfl⟩:=js.mp (v y (by simp));have l:(Jc Z rs k).length=(rs.filter λr=>cc (r.1=k)).length:=by unfold Jc;rw[c2]
   have J:=ki (λr:Row=>cc (r.1=k)) rs;have w:∀r∈rs.filter λr=>cc (r.1=k),pick Z r.2∈r.2/\pick Z r.2∈Z:=λr g=>by
    have⟨a,b⟩:=kl.mp g;show zk (C r a (Z' b▸hk))
   have L:Jc Z rs k=(rs.filter λr=>cc (r.1=k)).map λr=>pick Z r.2:=rfl;have N:Run (HH Γ (.bi .all [.comp 1 cK .IG [.bi .len [.var 5]] [] (.and [.cmp .isin (.idx (.var 5) (.var 0)) (.idx (.idx (.var 6) (.var 0)) (.cst (.int 1))),.cmp .isin (.idx (.var 5) (.var 0)) (.var 3)])])) (oY rs (aG Z rs) Z (bD (.any,.str k)) (bD (.any,.tup ((Jc Z rs k).map .str))) (bD (.own,.lst ((rs.filter λr=>cc (r.1=k)).map A')))) b6 (oY rs (aG Z rs) Z (bD (.any,.str k)) (bD (.any,.tup ((Jc Z rs k).map .str))) (bD (.own,.lst ((rs.filter λr=>cc (r.1=k)).map A')))):=by
    rw[L];generalize (rs.filter λr=>cc (r.1=k))=F at w J;have z:=c7 (cond:=aL Γ []) (elt:=ev Γ (.and [.cmp .isin (.idx (.var 5) (.var 0)) (.idx (.idx (.var 6) (.var 0)) (.cst (.int 1))),.cmp .isin (.idx (.var 5) (.var 0)) (.var 3)])) (src:=[(.loc,.int ((F.map A').length:Nat))]) (st:=oY rs (aG Z rs) Z (bD (.any,.str k)) (bD (.any,.tup ((F.map λr=>pick Z r.2).map .str))) (bD (.own,.lst (F.map A')))) trivial .loc (.inl rfl) (λi:Nat=>U.int (0+(i:Int))) (λ_=>.bl b6) .loc (λ_=>d0) (hQ (F.map A').length) [] (by simp;lia)
     (λi O=>by
      have o:i<F.length:=by simpa using u7.mp O
      have⟨m1,m2⟩:=w F[i] (J4 o);rw[show(0:Int)+(i:Int)=(i:Nat) by lia];have A:Iv ((F.map λr=>pick Z r.2).map U.str) (i:Nat)=bD (.str (pick Z F[i].2)):=fg (by simp[o]);have Q:Iv (F.map A') (i:Nat)=bD (A' F[i]):=fg (by simp[o]);show⟨yk (sg (p:=b6) (q:=b6) (gF (aZ (aC rfl) (ae rfl) trivial (dc A)) (aZ (x:=(.loc,A' F[i])) (aZ (aA rfl) (ae rfl) ∅ (cE (k:=.bor 6) Q)) ai trivial (dc rfl)) trivial (BG.trans (by rw[Z9 m1]))) λ_=>rZ (gF (aZ (aC rfl) (ae rfl) trivial (dc A)) (aA rfl) ∅ (B8.trans (by rw[Z9 m2])))),aF⟩)
    rw[hU,show((hQ (F.map A').length).map λ_=>U.bl b6)=((hQ (F.map A').length).map λ_=>b6).map U.bl by rw[hh];rfl]at z;have f:=j4 (k:=.own) ((hQ (F.map A').length).map λ_=>b6);rw[show(((hQ (F.map A').length).map λ_=>b6).all id)=b6 by rw[Rr];show ko.mpr λ_ _=>rfl]at f;show He (aa (bH (rs:=[(.loc,.int ((F.map A').length:Nat))]) (aa (cy (aa (aA rfl) af) ∅ b8) af) trivial (ic (by rw[c2];lia)) z) af) trivial f rfl
   have T:k∈aw rs:=m.subset hk;have Y:=Ew (Γ:=Γ) (st:=oY rs (aG Z rs) Z (bD (.any,.str k)) (bD (.any,.tup ((Jc Z rs k).map .str))) o5) (rs:=rs) (k:=k) (i:=0) (j:=3) ⋯ rfl rfl;show⟨oY rs (aG Z rs) Z (bD (.any,.str k)) (bD (.any,.tup ((Jc Z rs k).map .str))) o5,_,gK (.inr rfl),az (st2:=oY rs (aG Z rs) Z (bD (.any,.str k)) (bD (.any,.tup ((Jc Z rs k).map .str))) (bD (.own,.lst ((rs.filter λr=>cc (r.1=k)).map A')))) Y bb (bt (Ba (qm (jF (c:=b6) (B6 (aC rfl) rfl)) (qm (aS (cy (aa (aC rfl) af) trivial oI) (cy (aa (aA rfl) af) ∅ b8) trivial (sE (by rw[c2,c2,l];simp))) (ue (aS (aC rfl) (a_ (aa (ae rfl) af) trivial B) trivial (eY.trans (by rw[Z8 (not_not_intro T)]))))))) av (bt (jF (c:=b6) N) av av)),_,_,_,rfl,λr g=>v r (by simp[g])⟩) (aG Z rs) [] (oY rs (aG Z rs) Z cb cb cb) ⟨cb,cb,cb,rfl,λ_ h=>h⟩
 have Ih:bO .ne (.lst (Z.map U.str)) (.lst ((aK (ay Z)).map U.str))=bD cK:=by rw[BC,G];simp
 show bc rfl (.inr rfl) (st0:=[bD (.loc,.tup (rs.map A')),bD (.any,.lst ((aG Z rs).map A')),cb,cb,cb,cb]) (Z_ (λx:Option (Kd×U)=>[x,bD (Kd.any,U.lst ((aG Z rs).map A')),cb,cb,cb,cb]) (cu rs)) (az (st2:=oY rs (aG Z rs) Z cb cb cb) (bH (rs:=[(.any,.lst ((aG Z rs).map A'))]) (aa (aC rfl) af) trivial (by change bD (O' (λu=>(kE .any,u)) _)=_;rw[s]) n) bb (bt (aS (aA rfl) (uc (aa (aA rfl) af) ∅ (qr ⋯ ⋯)) ∅ Ih) av (bX (rs:=[(.any,.lst ((aG Z rs).map A'))]) (aa (aC rfl) af) trivial (by change bD (O' (λu=>(kE .any,u)) _)=_;rw[s]) rfl H (bF ai eE))))
end
end TM
namespace TM
open PySem L2 HN Od
section
abbrev Kw(rs:List Row)(Y:List Str):Prop:=∀r∈rs,r.1∈Y->∃x∈r.2,x∈Y
def Ey(h:x∈L):Ln (wp rs L) x:=λC d=>by
 by_cases e:x∈heads rs
 .have⟨r,f,rfl⟩:=js.mp e;have⟨a,b⟩:=kl.mp f;show d r (MG _ a) λy c=>by rw[Z' b]at c;cases c
 .show d (x,[]) (l' _ (js.mpr ⟨x,kl.mpr ⟨h,Z9 e⟩,rfl⟩)) λy c=>by cases c
def vW(z:KO rs L):aw (wp rs L)=aw rs:=by
 have a:aK (aw (wp rs L))=aw rs:=fX ((vu (c8 _) (c8 _)).mpr λx=>j6 z) (b_ _);have b:aK (aw (wp rs L))=aw (wp rs L):=fX (K1 _) (b_ _);show b.symm.trans a
structure KP(rs:List Row)(L Z:List Str):Prop where
 sub:Z.Sublist (aw rs)
 out:∀x∈Z,x∉L
 sup:Kw rs Z
 max:∀Y:List Str,(∀x∈Y,x∈aw rs/\x∉L)->Kw rs Y->∀x∈Y,x∈Z
 kn:KK.aG Z (wp rs L)=KK.aG Z rs
 nil:Z=[]->Suf rs L
def KP.of(z:KO rs L)(d:KL.Kn (wp rs L) K):KP rs L (KK.IS (wp rs L) K):=by
 have out:∀x∈KK.IS (wp rs L) K,x∉L:=λx c hl=>(d7.mp c).2 ((Kn.mem d).mpr (Ey hl));show⟨by unfold KK.IS;rw[vW z];show w6,out,λr b=>Kn.Cj d r (MG _ b),λY i hs x c=>?_,?_,λe x c=>J5 λhl=>?_⟩
 .show d7.mpr ⟨(j6 z).mpr (i x c).1,λhk=>?_⟩;show(Kn.mem d).mp hk (λy=>y∉Y) (λr b h=>?_) c;rcases sI b with b|⟨a,_⟩
  .intro f;have⟨x,g,j⟩:=hs r b f;show h x g j
  .intro f;show(i _ f).2 a
 .unfold KK.aG KK.Jc;show mu λk hk=>?_;have e:(wp rs L).filter (λr=>cc (r.1=k))=rs.filter λr=>cc (r.1=k):=by
   unfold wp;rw[Km];have:(((L.filter λw=>cc (w∉heads rs)).map λw=>((w,[]):Row)).filter λr=>cc (r.1=k))=[]:=by
    rw[HF];intro r b;have⟨w,l,rfl⟩:=js.mp b;have g:=(kl.mp l).1;simp only[Z5];intro e;show out k hk (e▸g)
   rw[this,rr]
  rw[e]
 .have:x∈KK.IS (wp rs L) K:=d7.mpr ⟨(j6 z).mpr c,λk=>hl ((Kn.mem d).mp k)⟩;rw[e]at this;cases this
def oZ{W:List Str}:KO rs (KK.IS rs W):=λx a=>(d7.mp a).1
structure Core(rs:List Row)(Z:List Str):Prop where
 sub:Z.Sublist (aw rs)
 ne:Z≠[]
 sup:Kw rs Z
 min:∀w∈Z,∀Y:List Str,(∀x∈Y,x∈Z/\x≠w)->Kw rs Y->Y=[]
abbrev nq(P:List Row):List Str:=P.map (·.1)
def zm:nq (KK.aG Z rs)=Z:=by
 unfold nq KK.aG;rw[hh];show(mu λ_ _=>rfl).trans (QR Z)
structure vX(rs:List Row)(Z0 d Z:List Str):Prop where
 sub:Z.Sublist (aw rs)
 ne:Z≠[]
 sup:Kw rs Z
 Qh:∀x∈Z,x∈Z0
 min:∀w∈Z,w∈d->∀Y:List Str,(∀x∈Y,x∈Z/\x≠w)->Kw rs Y->Y=[]
def vX.step(h:vX rs l d Z)(hl:KP rs (KK.IS rs (Z.filter λx=>!cc (x=w))) g):vX rs l (d++[w]) (if g=[] then Z else g):=by
 have i:∀x∈g,x∈Z/\x≠w:=λx c=>by
  have m:=hl.out x c;have n:x∈aw rs:=hl.sub.subset c;have:x∈Z.filter λx=>!cc (x=w):=J5 λo=>m (d7.mpr ⟨n,o⟩);have⟨a,b⟩:=kl.mp this;show⟨a,by simpa using b⟩
 by_cases e:g=[]
 .rw[Z6 e];show⟨h.sub,h.ne,h.sup,h.Qh,λv j hd Y f hs=>?_⟩;rcases i3.mp hd with hd|hd
  .show h.min v j hd Y f hs
  .rw[hV]at hd;subst hd;show Uv.mpr λx c=>?_;have:=hl.max Y (λy k=>⟨h.sub.subset (f y k).1,λp=>(d7.mp p).2 (kl.mpr ⟨(f y k).1,by simpa using(f y k).2⟩)⟩) hs x c;rw[e]at this;cases this
 .rw[Z7 e];show⟨hl.sub,e,hl.sup,λx c=>h.Qh x (i x c).1,λv j hd Y f hs=>?_⟩;rcases i3.mp hd with hd|hd
  .show h.min v (i v j).1 hd Y (λx c=>⟨(i x (f x c).1).1,(f x c).2⟩) hs
  .rw[hV]at hd;subst hd;show absurd rfl (i v j).2
def vX.done(h:vX rs b b Z):Core rs Z:=⟨h.sub,h.ne,h.sup,λw a=>h.min w a (h.Qh w a)⟩
end
section
def uC{W:List Str}(b:(aw rs).length<64)(c:(ay W).length<64):lW cK (ay (aw rs)) (ay W)=bD (.own,.lst ((KK.IS rs W).map .str)):=by
 have d:(ay (aw rs)).length<=(aw rs).length:=bY (aX _) λx a=>by simpa[aN] using a
 unfold lW;rw[Z6 ⟨⋯,⋯⟩,Z7 i6];have e:aK ((ay (aw rs)).filter λx=>cc (x∉ay W))=KK.IS rs W:=by
  show fX ?_ ((b_ _).sublist w6);show(vu ((aX _).sublist w6) (KK.gu rs W)).mpr λx=>?_;unfold KK.IS;rw[kl,kl,aN];simp only[Z5,aN]
 rw[e]
abbrev Ez:Fn:=⟨"lacking",1,1,[.ret (.K' cK (.call "words_of" [.var 0]) (.comp 1 cK .seq [.var 0] [] (.idx (.var 0) (.cst (.int 0)))))]⟩
def Gj(e:HR Pg "words_of" oN)(h:HR Pg "lacking" Ez)(d:Nat)(a:Bz ws rs):HA Pg (d+2) "lacking" [.tup (rs.map A')]=bD (.ok (.own,.lst ((KK.IS rs (rs.map (·.1))).map .str))):=by
 have hsz:(1000:Nat)<=df:=by decide
 have g:=cO λr c=>(a.ok r c).ok;have JU:=a.wl;have i:=a.rl;have f:HA Pg (d+1) "words_of" [.tup (rs.map A')]=bD (.ok (.own,.lst ((aw rs).map .str))):=(aJ e _).trans (dM a.rl (λr c=>(a.ok r c).ok) ⋯);have b:=c7 (cond:=aL (HA Pg (d+1)) []) (elt:=ev (HA Pg (d+1)) (.idx (.var 0) (.cst (.int 0)))) (src:=[(.loc,.tup (rs.map A'))]) (st:=[bD (.loc,.tup (rs.map A'))]) trivial .loc (.inl rfl) A' (λr=>.str r.1) .loc (λ_=>d0) rs [] (by simp;lia)
  (λy _=>⟨aZ (ae rfl) ai trivial (dc rfl),aF⟩)
 rw[hU,show(rs.map λr=>U.str r.1)=(rs.map (·.1)).map U.str by rw[hh];rfl]at b;have j:(ay (rs.map (·.1))).length<=ws.length:=bY (aX _) λx b=>by
  have b:x∈rs.map (·.1):=by simpa[aN] using b
  have⟨r,c,rfl⟩:=js.mp b;show(a.ok r c).1
 show(aJ h _).trans (bc rfl (.inl rfl) (st0:=[bD (.loc,.tup (rs.map A'))]) (Z_ (λx:Option (Kd×U)=>[x]) (cu rs)) (bF (uq (a_ (aa (ae rfl) af) trivial f) (cz ⋯) (bH (rs:=[(.loc,.tup (rs.map A'))]) (aa (ae rfl) af) trivial fy b) (cz (by rw[c2];lia)) (uC ⋯ ⋯)) gI))
abbrev EA:Fn:=⟨"knot_among",2,2,[.ret (.call "knot" [.call "with_pictures" [.var 0,.K' cK (.call "words_of" [.var 0]) (.var 1)]])]⟩
def Gk(H:vV Pg)(hk:HR Pg "knot" KK.uA)(h:HR Pg "knot_among" EA)(d:Nat)(a:Bz ws rs)(b:rs.length<=90){W:List Str}(l:W.length<=40):∃Z,HA Pg (d+8) "knot_among" [.tup (rs.map A'),.lst (W.map .str)]=bD (.ok (.own,.lst ((KK.aG Z rs).map A')))/\KP rs (KK.IS rs W) Z:=by
 have m:=cO λr b=>(a.ok r b).ok;have JU:=a.wl;have n:=qN a W;have g:HA Pg (d+7) "words_of" [.tup (rs.map A')]=bD (.ok (.own,.lst ((aw rs).map .str))):=(aJ H.w _).trans (dM a.rl (λr b=>(a.ok r b).ok) ⋯);have i:(ay W).length<=W.length:=bY (aX _) λx j=>by simpa[aN] using j
 have c:=Gi a (oZ (W:=W)) ⋯;have⟨K,e,k⟩:=Kn.some c.wl c.ok;have o:=k.len;have f:=KP.of oZ e;have q:=Ux H hk d c c.rl e ⋯;rw[f.kn]at q;show⟨_,(aJ h _).trans (bc rfl (.inl rfl) (Bw.lst.start 0) (bF (a_ (aa (a_ (aa (ae rfl) (aa (uq (a_ (aa (ae rfl) af) trivial g) (cz ⋯) (aC rfl) (cz ⋯) (uC ⋯ ⋯)) af)) trivial (Uw H (d+4) a .lst ⋯ oZ)) af) trivial q) gI)),f⟩
def zo(a:us.length=fn.np)(hs:start us fn.ns=st0)(h:Run (execs Γ fn.body) st0 (.rt .any u) st):cY Γ fn us=bD (.ok (.any,u)):=by
 subst hs;unfold cY;rw[Z6 a,show execs Γ fn.body (start us fn.ns)=_ from h]
def EB:Run (retS (.any,.lst us)) st (.rt .any (.lst us)) st:=rfl
def Gm(h:st[j]?=bD (bD (.own,u))):Run (eJ i (.bor j,a)) st () ((st.set j (bD (.loc,u))).set i (bD (.loc,u))):=by
 change eJ i (.bor j,a) st=_;unfold eJ
 dsimp only
 rw[h]
theorem uD:∀(P:List Row) (n:Nat),dr (n+2) (P.map A')=b6
 |[],n=>by simp[dr]
 |r::P,n=>by
  have a:=uD P n;simp only[eh,dr,cL];show⟨by simp[A',Jg,dr,eX],a⟩
def uE{P:List Row}:bO .ne (.lst (P.map A')) (.lst [])=bD (!P.isEmpty):=by
 rw[lC (by change dr 49 (P.map A')=b6;show uD P 47)];cases P<;>rfl
abbrev Gn:List S :=
   [.set 5 (.call "knot_among" [.var 0,.comp 1 cK .seq [.var 2] [.cmp .ne (.idx (.var 0) (.cst (.int 0))) (.var 4)] (.idx (.var 0) (.cst (.int 0)))]),
   .ite (.cmp .ne (.var 5) (.lst []))
    [.set 2 (.var 5)]
    []]
abbrev BH:Fn:=⟨"core_among",2,6,[.set 2 (.var 1),.HC b6 [3,4] .seq [.var 1] Gn,.ret (.var 2)]⟩
abbrev zp(rs P:List Row)(k2:Kd)(Q:List Row)(o3 o4 o5:Option (Kd×U)):au:=[bD (.loc,.tup (rs.map A')),bD (.any,.lst (P.map A')),bD (k2,.lst (Q.map A')),o3,o4,o5]
def zq:((KK.aG Z rs).filter λp=>!cc (p.1=w)).map (λp=>U.str p.1)=(Z.filter λx=>!cc (x=w)).map U.str:=by
 unfold KK.aG;rw[List.filter_map,hh];rfl
def qO:(KK.aG Z rs).isEmpty=cc (Z=[]):=by
 unfold KK.aG;cases Z<;>rfl
def Gp(hk:∀W:List Str,W.length<=24->∃Z,Γ "knot_among" [.tup (rs.map A'),.lst (W.map .str)]=bD (.ok (.own,.lst ((KK.aG Z rs).map A')))/\KP rs (KK.IS rs W) Z)(G:(aw rs).length<=24)(s:a.Sublist (aw rs))(v:a≠[])(w:Kw rs a):
  ∃k Z,(k=Kd.any\/k=.loc)/\cY Γ BH [.tup (rs.map A'),.lst ((KK.aG a rs).map A')]=bD (.ok (k,.lst ((KK.aG Z rs).map A')))/\Core rs Z/\∀x∈Z,x∈a:=by
 have hsz:(1000:Nat)<=df:=by decide
 have g:∀(k:Kd) (P:List Row),(k=.loc\/k=.any)->Ju .seq [(k,.lst (P.map A'))]=bD (P.map λp=>(k,A' p)):=λk P hk=>by
  change bD ((P.map A').map λu=>(kE k,u))=_;rw[hh,Er hk];rfl
 have⟨st',z,k2,Z,o3,o4,o5,b,rfl,f⟩:=bu (rs:=[(.any,.lst ((KK.aG a rs).map A'))]) (t:=b6) (is:=[3,4]) (body:=execs Γ Gn) (λp:Row=>(Kd.any,A' p)) (λd q st=>∃k2 Z o3 o4 o5,(k2=Kd.loc\/k2=.any)/\st=zp rs (KK.aG a rs) k2 (KK.aG Z rs) o3 o4 o5/\vX rs a (nq d) Z)
  (λ_ _ _ _=>trivial) (λd p q st A=>by
   have⟨k2,Z,o3,o4,o5,b,e,f⟩:=A;subst e;have H:=f.sub.length_le;have I:=ki (λx=>!cc (x=p.1)) Z;have J:(KK.aG Z rs).length=Z.length:=by unfold KK.aG;rw[c2]
   let S:=zp rs (KK.aG a rs) k2 (KK.aG Z rs) (bD (.any,.str p.1)) (bD (.any,.tup (p.2.map .str)));have m:=fV (cond:=aL Γ [.cmp .ne (.idx (.var 0) (.cst (.int 0))) (.var 4)]) (elt:=ev Γ (.idx (.var 0) (.cst (.int 0)))) (src:=[(k2,.lst ((KK.aG Z rs).map A'))]) (st:=S o5) (cH b trivial) k2 b A' (λp=>.str p.1) (λq=>!cc (q.1=p.1)) k2 (KK.aG Z rs) [] (by simp;lia)
    (λy _=>by
     have n:∀st',Run (ev Γ (.idx (.var 0) (.cst (.int 0)))) (bD (k2,A' y)::st') (k2,.str y.1) (bD (k2,A' y)::st'):=λst'=>aZ (dE b rfl) ai (cH b trivial) (by rw[show A' y=.tup [.str y.1,.tup (y.2.map .str)] from rfl,dc (u:=.str y.1) rfl,Er b]);show⟨cD (aS (n _) (aC rfl) (cH b trivial) yw),λ_=>⟨n _,SQ b rfl⟩⟩)
   rw[hU,zq]at m;have⟨c,B,C⟩:=hk (Z.filter λx=>!cc (x=p.1)) ⋯;have o:Run (ev Γ (.call "knot_among" [.var 0,.comp 1 cK .seq [.var 2] [.cmp .ne (.idx (.var 0) (.cst (.int 0))) (.var 4)] (.idx (.var 0) (.cst (.int 0)))])) (S o5) (.own,.lst ((KK.aG c rs).map A')) (S o5):=a_ (aa (ae rfl) (aa (bH (rs:=[(k2,.lst ((KK.aG Z rs).map A'))]) (aa (dE b rfl) af) (cH b trivial) (g _ _ b) m) af)) trivial B;have i:Run (HH Γ (.cmp .ne (.var 5) (.lst []))) (S (bD (.own,.lst ((KK.aG c rs).map A')))) (!cc (c=[])) (S (bD (.own,.lst ((KK.aG c rs).map A')))):=aS (aA rfl) (cp af trivial aH (i8 _)) ⟨⟨.own,rfl,rfl⟩,trivial⟩ (uE.trans (by rw[qO]));have hs:=f.step C;have D:nq (d++[p])=nq d++[p.1]:=by unfold nq;rw[ka];rfl
   rw[D];by_cases e:c=[]
   .rw[Z9 e]at i;rw[Z6 e]at hs;show⟨S o5,S (bD (.own,.lst ((KK.aG c rs).map A'))),gK (.inr rfl),az o bb (bt i av av),k2,Z,_,_,_,b,rfl,hs⟩
   .rw[Z8 e]at i;rw[Z7 e]at hs;show⟨S o5,zp rs (KK.aG a rs) .loc (KK.aG c rs) (bD (.any,.str p.1)) (bD (.any,.tup (p.2.map .str))) (bD (.loc,.lst ((KK.aG c rs).map A'))),gK (.inr rfl),az o bb (d4 i (az (aA rfl) (Gm rfl) av) av),.loc,c,_,_,_,.inl rfl,rfl,hs⟩) (KK.aG a rs) [] (zp rs (KK.aG a rs) .any (KK.aG a rs) cb cb cb) ⟨.any,a,cb,cb,cb,.inr rfl,rfl,s,v,w,λ_ h=>h,λ_ _ h=>by cases h⟩
 rw[hU,zm]at f;have r:start [.tup (rs.map A'),.lst ((KK.aG a rs).map A')] 6=[bD (.loc,.tup (rs.map A')),bD (.any,.lst ((KK.aG a rs).map A')),cb,cb,cb,cb]:=by
  change [bD (if HM (.tup (rs.map A'))=b6 then Kd.loc else Kd.any,U.tup (rs.map A')),bD (Kd.any,U.lst ((KK.aG a rs).map A')),cb,cb,cb,cb]=_;rw[cu]
 have go:∀j l,Run (execs Γ [.ret (.var 2)]) (zp rs (KK.aG a rs) k2 (KK.aG Z rs) o3 o4 o5) j l->Run (execs Γ BH.body) [bD (.loc,.tup (rs.map A')),bD (.any,.lst ((KK.aG a rs).map A')),cb,cb,cb,cb] j l:=λj l q=>az (aC rfl) gH (bX (rs:=[(.any,.lst ((KK.aG a rs).map A'))]) (aa (aC rfl) af) trivial (g _ _ (.inr rfl)) rfl z q);show⟨k2,Z,b.symm,?_,f.done,f.Qh⟩;rcases b with rfl|rfl
 .show bc rfl (.inr rfl) r (go _ _ (bF (ae rfl) eE))
 .show zo rfl r (go _ _ (bF (aC rfl) EB))
end
section
abbrev HS(rs:List Row)(Z:List Str):U:=.lst ((KK.aG Z rs).map A')
abbrev EC:List S :=
   [.set 4 (.JO "core_among" [.var 0,.Ir (.var 3)]),
   .app 2 (.var 4),
   .ext 1 (.comp 1 cK .seq [.var 4] [] (.idx (.var 0) (.cst (.int 0)))),
   .set 3 (.call "knot" [(.call "with_pictures" [(.var 0),(.var 1)])])]
abbrev ED:Fn:=⟨"apart",1,5,[.set 1 (.call "lacking" [.var 0]),.set 2 (.comp 1 cK .seq [.var 1] [] (.lst [.tup [.var 0,.tup []]])),.set 3 (.call "knot" [.call "with_pictures" [.var 0,.var 1]]),.Ly (.cmp .ne (.var 3) (.lst [])) EC,.ret (.var 2)]⟩
structure LC(rs:List Row)(G:List Str)(Cs:List (List Str)):Prop where
 co:∀Z∈Cs,Core rs Z
 fl:Cs.flatten=G
 nd:G.Nodup
 kn:KO rs G
structure SV(Γ:Tab)(rs:List Row):Prop where
 wl:(aw rs).length<=24
 lk:Γ "lacking" [.tup (rs.map A')]=bD (.ok (.own,.lst ((KK.IS rs (rs.map (·.1))).map .str)))
 kw:∀G:List Str,KO rs G->G.length<=24->∃R,Γ "with_pictures" [.tup (rs.map A'),.lst (G.map .str)]=bD (.ok (.loc,.tup ((wp rs G).map A')))/\Γ "knot" [.tup ((wp rs G).map A')]=bD (.ok (.own,HS rs R))/\KP rs G R
 co:∀Z0:List Str,Z0.Sublist (aw rs)->Z0≠[]->Kw rs Z0->∃k Z,(k=Kd.any\/k=.loc)/\Γ "core_among" [.tup (rs.map A'),HS rs Z0]=bD (.ok (k,HS rs Z))/\Core rs Z/\∀x∈Z,x∈Z0
abbrev jr(rs:List Row)(G:List Str)(a:List (List Str))(b:Kd)(R:List Str)(o4:Option (Kd×U)):au:=[bD (.loc,.tup (rs.map A')),bD (.own,.lst (G.map .str)),bD (.own,.lst (a.map (HS rs))),bD (b,HS rs R),o4]
def LC.len(h:LC rs G a):G.length<=(aw rs).length/\a.length<=G.length:=by
 show⟨bY h.nd h.kn,?_⟩;rw[<-h.fl];have:∀a:List (List Str),(∀Z∈a,Z≠[])->a.length<=a.flatten.length:=λa=>by
  induction a with
  |nil=>intro _;simp
  |cons Z a b =>
   intro hz;have f:=b λc d=>hz c (by simp[d]);have g:0<Z.length:=P7.mpr (hz Z (by simp));rw[Oq,i0,ke];lia
 show this a λZ e=>(h.co Z e).ne
def BI(A:SV Γ rs)(d:LC rs G c)(m:KP rs G R)(p:R≠[]):∃i o j q,Run (execs Γ EC) (jr rs G c .own R o4) .nx (jr rs i o .own j q)/\LC rs i o/\KP rs i j/\G.length<i.length:=by
 have hsz:(1000:Nat)<=df:=by decide
 have⟨k,Z,hk,s,g,t⟩:=A.co R m.sub p m.sup;have⟨L,N⟩:=d.len;have O:=A.wl;have Q:=g.sub.length_le;have T:(KK.aG Z rs).length=Z.length:=by unfold KK.aG;rw[c2]
 have n:LC rs (G++Z) (c++[Z]):=by
  show⟨λv w=>?_,by rw[Nd,d.fl];simp,oT.mpr ⟨d.nd,(c8 rs).sublist g.sub,λa z b B e=>m.out b (t b B) (e▸z)⟩,λx l=>?_⟩
  .rcases i3.mp w with h|h
   .show d.co v h
   .rw[hV]at h;subst h;show g
  .rcases i3.mp l with h|h
   .show d.kn x h
   .show g.sub.subset h
 have⟨Y,l4⟩:=n.len;have⟨j,C,D,H⟩:=A.kw (G++Z) n.kn ⋯;have I:Run (ev Γ (.JO "core_among" [.var 0,.Ir (.var 3)])) (jr rs G c .own R o4) (.loc,HS rs Z) (jr rs G c .loc R o4):=by
  have:=Ec (Γ:=Γ) (f:="core_among") (es:=[.var 0,.Ir (.var 3)]) (st:=jr rs G c .own R o4) (st1:=jr rs G c .loc R o4) (rs:=[(.loc,.tup (rs.map A')),(.loc,HS rs R)]) (aa (ae rfl) (aa (FW (aA rfl) (B7 rfl)) af)) trivial s rfl;rcases hk with rfl|rfl
  .show this
  .show this
 have l:=c7 (cond:=aL Γ []) (elt:=ev Γ (.idx (.var 0) (.cst (.int 0)))) (src:=[(.loc,HS rs Z)]) (st:=jr rs G (c++[Z]) .loc R (bD (.loc,HS rs Z))) trivial .loc (.inl rfl) A' (λr=>.str r.1) .loc (λ_=>d0) (KK.aG Z rs) [] (by simp;lia)
  (λy _=>⟨aZ (ae rfl) ai trivial (dc rfl),aF⟩)
 rw[hU,show((KK.aG Z rs).map λr=>U.str r.1)=Z.map U.str by unfold KK.aG;rw[hh];rfl]at l;have J:Run (ev Γ (.comp 1 cK .seq [.var 4] [] (.idx (.var 0) (.cst (.int 0))))) (jr rs G (c++[Z]) .loc R (bD (.loc,HS rs Z))) (.own,.lst (Z.map .str)) (jr rs G (c++[Z]) .loc R (bD (.loc,HS rs Z))):=bH (rs:=[(.loc,HS rs Z)]) (aa (ae rfl) af) trivial (by change bD (((KK.aG Z rs).map A').map λu=>(kE .loc,u))=_;rw[hh];rfl) l;show⟨G++Z,c++[Z],j,bD (.loc,HS rs Z),az I aI (fC (k:=.own) (k':=.own) rfl (ae rfl) aF rfl rfl (by rw[c2];lia) ?_),n,H,by rw[i0];have:0<Z.length:=P7.mpr g.ne;lia⟩;rw[show c.map (HS rs)++[HS rs Z]=(c++[Z]).map (HS rs) by simp];show ug (k:=.own) (k':=.own) rfl J rfl rfl (oK (by rw[c2,c2];lia) rfl) ?_;rw[<-ka];show az (a_ (aa (a_ (aa (ae rfl) (aa (aA rfl) af)) (by show⟨⟨.own,rfl,rfl⟩,trivial⟩) C) af) trivial D) bb av
theorem uF(A:SV Γ rs):∀(f:Nat) (G:List Str) (a:List (List Str)) (R:List Str) (o4:Option (Kd×U)),LC rs G a->KP rs G R->25 - G.length<f->∃b d k,Run (fG (HH Γ (.cmp .ne (.var 3) (.lst []))) (execs Γ EC) (f+1)) (jr rs G a .own R o4) .nx (jr rs b d .own [] k)/\LC rs b d/\Suf rs b
 |0,_,_,_,_,_,_,h=>by lia
 |f+1,G,a,R,o4,g,i,h=>by
  have c:Run (HH Γ (.cmp .ne (.var 3) (.lst []))) (jr rs G a .own R o4) (!cc (R=[])) (jr rs G a .own R o4):=aS (aA rfl) (cp af trivial aH (i8 _)) ⟨⟨.own,rfl,rfl⟩,trivial⟩ (uE.trans (by rw[qO]));by_cases e:R=[]
  .subst e;show⟨G,a,o4,m6 c,g,i.nil rfl⟩
  .rw[Z8 e]at c;have⟨l,m,n,o1,o,j,p,u⟩:=BI A (o4:=o4) g i e;obtain⟨v,_⟩:=j.len;have:=A.wl;have⟨q,r,o2,s,t,s2⟩:=uF A f l m n o1 j p ⋯;show⟨q,r,o2,qy c o s,t,s2⟩
def Core.one(e:w∈aw rs)(f:w∉rs.map (·.1)):Core rs [w]:=by
 show⟨by simpa using e,by simp,λr g c=>?_,λv d Y h _=>?_⟩
 .rw[hV]at c;show absurd (js.mpr ⟨r,g,c⟩) f
 .rw[hV]at d;subst d;show Uv.mpr λx i=>?_;have⟨a,b⟩:=h x i;rw[hV]at a;show b a
theorem nu:∀G:List Str,(G.map λw=>[w]).flatten=G
 |[]=>rfl
 |w::G=>by rw[eh,Oq,nu G];rfl
def Gq(A:SV Γ rs):∃G d,cY Γ ED [.tup (rs.map A')]=bD (.ok (.own,.lst (d.map (HS rs))))/\LC rs G d/\Suf rs G:=by
 have hsz:(1000:Nat)<=df:=by decide
 let a:=KK.IS rs (rs.map (·.1));have f:∀w∈a,w∈aw rs/\w∉rs.map (·.1):=λw b=>d7.mp b;have g:LC rs a (a.map λw=>[w]):=⟨λZ h=>by
  have⟨w,b,rfl⟩:=js.mp h;show Core.one (f w b).1 (f w b).2,nu a,KK.gu _ _,λx c=>(f x c).1⟩
 have⟨p,s⟩:=g.len;have t:=A.wl;have⟨R,i,j,k⟩:=A.kw a g.kn ⋯;have⟨G,d,o4,q,l,hs⟩:=uF A 999999999999 a _ R cb g k ⋯;let S:Option (Kd×U)->Option (Kd×U)->au:=λo2 o3=>[bD (.loc,.tup (rs.map A')),bD (.own,.lst (a.map .str)),o2,o3,cb]
 have c:=c7 (cond:=aL Γ []) (elt:=ev Γ (.lst [.tup [.var 0,.tup []]])) (src:=[(.bor 1,.lst (a.map .str))]) (st:=S cb cb) ⟨⟨.own,rfl,rfl⟩,trivial⟩ .loc (.inl rfl) U.str (λw=>.lst [.tup [.str w,.tup []]]) .own (λ_=>d0) a [] (by simp;lia)
  (λy _=>⟨cp (us:=[.tup [.str y,.tup []]]) (aa (eW (aa (ae rfl) (aa (eW af trivial aH (i8 _)) af)) trivial (aB aF (aB aF aH)) (by change 2<=df;lia)) af) trivial (aB aF aH) (by change 1<=df;lia),ql⟩)
 rw[hU]at c;have m:(a.map λw=>U.lst [.tup [.str w,.tup []]])=(a.map λw=>[w]).map (HS rs):=by
  rw[hh];show mu λw b=>?_;have:KK.Jc [w] rs w=[]:=by
   unfold KK.Jc;have:(rs.filter λr=>cc (r.1=w))=[]:=by
    rw[HF];intro r n;simp only[Z5];intro e;show(f w b).2 (js.mpr ⟨r,n,e⟩)
   rw[this];rfl
  change _=U.lst ([(w,KK.Jc [w] rs w)].map A');rw[this];rfl
 rw[m]at c;have o:Run (ev Γ (.comp 1 cK .seq [.var 1] [] (.lst [.tup [.var 0,.tup []]]))) (S cb cb) (.own,.lst ((a.map λw=>[w]).map (HS rs))) (S cb cb):=bH (rs:=[(.bor 1,.lst (a.map .str))]) (aa (aA rfl) af) ⟨⟨.own,rfl,rfl⟩,trivial⟩ (by change bD ((a.map U.str).map λu=>(kE (.bor 1),u))=_;rw[hh];rfl) c;show⟨G,d,bc rfl (.inl rfl) (st0:=[bD (.loc,.tup (rs.map A')),cb,cb,cb,cb]) (Z_ (λx:Option (Kd×U)=>[x,cb,cb,cb,cb]) (cu rs)) (az (a_ (aa (ae rfl) af) trivial A.lk) bb (az o bb (az (a_ (aa (a_ (aa (ae rfl) (aa (aA rfl) af)) (by show⟨⟨.own,rfl,rfl⟩,trivial⟩) i) af) trivial j) bb (qz q (bF (aA rfl) (iK rfl)))))),l,hs⟩
end
section
def vY(h:k∈K):tE k (d_ K)=bD (d_ (K.filter λx=>cc (x≠k))):=by
 have e:∀K:List Str,((K.zip (K.map λ_=>U.bl b6)).filter λp=>cc (p.1≠k))=(K.filter λx=>cc (x≠k)).map λx=>(x,U.bl b6):=λK=>by
  induction K with
  |nil=>rfl
  |cons y K a =>
   rw[eh,Kf,p5,p5,a];by_cases e:y=k
   .rw[Z7 (by simpa using e),Z7 (by simpa using e)]
   .rw[Z6 (by simpa using e),Z6 (by simpa using e),eh]
 change(if k∈K then bD (U.Hn (((K.zip (K.map λ_=>U.bl b6)).filter λp=>cc (p.1≠k)).map (·.1)) (((K.zip (K.map λ_=>U.bl b6)).filter λp=>cc (p.1≠k)).map (·.2))) else cb)=_;rw[Z6 h,e K,hh,hh];unfold d_;rw[show((·.1) ∘ λx:Str=>(x,U.bl b6))=id from rfl,QR];rfl
def Gr(b:st[i]?=bD (bD (.own,d_ K)))(c:Run (ev Γ e) st (h,.str k) st)(hk:k∈K)(d:Run (execs Γ f) (st.set i (bD (.own,d_ (K.filter λx=>cc (x≠k))))) g st2):Run (execs Γ (.LS i e::f)) st g st2:=by
 show fH (ab (dG b (by intro z;cases z)) (ab (a:=()) (st1:=st) rfl (ab c (ab (a:=k) (st1:=st) rfl (ab (a:=()) ?_ aY))))) d;change modS i (tE k) st=_;unfold modS;rw[b];simp only[Kd.root,if_true];rw[vY hk]
def BJ(a:List Bool):JI .any [(k,.lst (a.map .bl))]=bD (.loc,.bl (a.any id)):=by
 change(fR (a.map U.bl)).map _=_;have:∀a:List Bool,fR (a.map U.bl)=bD a:=λa=>by
  induction a with
  |nil=>rfl
  |cons b a c=>change(fR (a.map U.bl)).map _=_;rw[c];rfl
 rw[this];rfl
def vZ{told a:List Str}(hl:told.length<=1000)(hs:Run (ev Γ src) st (.loc,.tup (told.map .str)) st)(c:st[j]?=bD (bD (.own,w)))(d:∀x:Str,bO .isin (.str x) w=bD (cc (x∈a))):
  Run (ev Γ (.bi .any [.comp 1 cK .seq [src] [] (.cmp .isin (.var 0) (.var (j+1)))])) st (.loc,.bl (told.any λx=>cc (x∈a))) st:=by
 have hsz:(1000:Nat)<=df:=by decide
 have b:=c7 (cond:=aL Γ []) (elt:=ev Γ (.cmp .isin (.var 0) (.var (j+1)))) (src:=[(.loc,.tup (told.map .str))]) (st:=st) trivial .loc (.inl rfl) U.str (λx=>.bl (cc (x∈a))) .loc (λ_=>d0) told [] (by simp;lia)
  (λy _=>⟨gF (ae rfl) (aA (by simpa using c)) ⟨⟨.own,rfl,by simpa using c⟩,trivial⟩ (d y),aF⟩)
 rw[hU]at b;have e:(told.map U.str).map (λu=>(kE .loc,u))=told.map λr=>(Kd.loc,U.str r):=by rw[hh];rfl
 have f:(told.map λx=>U.bl (cc (x∈a)))=(told.map λx=>cc (x∈a)).map U.bl:=by rw[hh];rfl
 rw[f]at b;have g:(told.any λx=>cc (x∈a))=((told.map λx=>cc (x∈a)).any id):=by rw[List.any_map];rfl
 rw[g];show cy (aa (bH (rs:=[(.loc,.tup (told.map .str))]) (aa hs af) trivial (by change bD _=_;rw[e]) b) af) trivial (BJ _)
abbrev Gu:List S:=[.ite (.and [.cmp .isin (.var 3) (.var 2),.not (.bi .any [.comp 1 cK .seq [.var 5] [] (.cmp .isin (.var 0) (.var 3))])]) [.LS 2 (.var 3),.set 4 (.cst (.bl b6))] []]
abbrev EE:List S:=[.set 4 (.cst (.bl cK)),.HC b6 [3,5] .seq [.var 0] Gu]
abbrev EF:Fn:=⟨"_law_held",2,6,[.set 2 (.Ji cK),.HC cK [3] .seq [.var 1] [.put 2 (.var 3) (.cst (.bl b6))],.set 4 (.cst (.bl b6)),.Ly (.var 4) EE,.ret (.var 2)]⟩
abbrev jt(rs:List Row)(W K:List Str)(o3:Option (Kd×U))(b:Bool)(o5:Option (Kd×U)):au:=[bD (.loc,.tup (rs.map A')),bD (.any,.lst (W.map .str)),bD (.own,d_ K),o3,bD (.loc,.bl b),o5]
def BK{W K0:List Str}(q:∀r∈rs,r.2.length<=8)(v:eZ W K0):∃(f:List Str) (b:Bool) (m n:Option (Kd×U)),Run (execs Γ EE) (jt rs W K0 o3 b0 o5) .nx (jt rs W f m b n)/\eZ W f/\(b=b6->f.length<K0.length)/\(b=cK->f=K0/\Kw rs K0):=by
 obtain⟨st1,z,_,f,b,m,n,rfl,i,k,c⟩:=bu (t:=b6) (is:=[3,5]) (body:=execs Γ Gu) (rs:=[(.loc,.tup (rs.map A'))]) (λr:Row=>(Kd.loc,A' r))
  (λd r st=>d++r=rs/\∃(K:List Str) (b:Bool) (o3 o5:Option (Kd×U)),st=jt rs W K o3 b o5/\eZ W K/\(b=b6->K.length<K0.length)/\(b=cK->K=K0/\∀r∈d,r.1∈K0->∃x∈r.2,x∈K0)) (λ_ _ _ _=>trivial) (λd a r st A=>by
   have⟨o,K,b,o3,o5,e,i,k,c⟩:=A;subst e;have B:a∈rs:=by rw[<-o];simp
   have q:=q a B;have l:Run (HH Γ (.and [.cmp .isin (.var 3) (.var 2),.not (.bi .any [.comp 1 cK .seq [.var 5] [] (.cmp .isin (.var 0) (.var 3))])])) (jt rs W K (bD (.loc,.str a.1)) b (bD (.loc,.tup (a.2.map .str)))) (cc (a.1∈K)&&!(a.2.any λy=>cc (y∈K))) (jt rs W K (bD (.loc,.str a.1)) b (bD (.loc,.tup (a.2.map .str)))) :=
    gG (lr (aS (ae rfl) (aA rfl) ⟨⟨.own,rfl,rfl⟩,trivial⟩ so) λ_=>cD (jF (sj (vZ (j:=2) (w:=d_ K) ⋯ (ae rfl) rfl λ_=>so))))
   have s:Run (dv b6 [3,5] (.loc,A' a)) (jt rs W K o3 b o5) () (jt rs W K (bD (.loc,.str a.1)) b (bD (.loc,.tup (a.2.map .str)))):=gK (.inl rfl);cases g:(cc (a.1∈K)&&!(a.2.any λy=>cc (y∈K))) with
   |false =>
    rw[g]at l;show⟨_,_,s,bt l av av,by rw[<-o];simp,K,b,_,_,rfl,i,k,λp=>⟨(c p).1,λC IF hz=>?_⟩⟩;rcases i3.mp IF with IF|IF
    .show(c p).2 C IF hz
    .rw[hV]at IF;subst IF;rw[<-(c p).1]at hz ⊢;rw[Z9 hz,Bool.true_and,Bool.not_eq_false',UB]at g;have⟨x,D,G⟩:=g;show⟨x,D,Z' G⟩
   |true =>
    rw[g]at l;rw[cL]at g;have u:a.1∈K:=Z' g.1;have L:(K.filter λx=>cc (x≠a.1)).length<K.length:=List.length_filter_lt_length_iff_exists.mpr ⟨a.1,u,by simp⟩;have H:K.length<=K0.length:=by
     cases b with
     |true=>have:=k rfl;lia
     |false=>rw[(c rfl).1];lia
    show⟨_,jt rs W (K.filter λx=>cc (x≠a.1)) (bD (.loc,.str a.1)) b6 (bD (.loc,.tup (a.2.map .str))),s,d4 l (Gr rfl (ae rfl) u (az ai aI av)) av,by rw[<-o];simp,_,b6,_,_,rfl,⟨i.1.sublist w6,λx I=>i.2 x (kl.mp I).1⟩,λ_=>by lia,λh=>by cases h⟩) rs [] (jt rs W K0 o3 cK o5) ⟨rfl,K0,cK,o3,o5,rfl,v,(λh=>by cases h),λ_=>⟨rfl,λr J=>by cases J⟩⟩
 rw[hU]at c;show⟨f,b,m,n,az ai aI (bX (rs:=[(.loc,.tup (rs.map A'))]) (st1:=jt rs W K0 o3 cK o5) (aa (ae rfl) af) trivial fy rfl z av),i,k,c⟩
theorem uG{W:List Str}(g:∀r∈rs,r.2.length<=8):∀(f:Nat) (K0:List Str) (o3 o5:Option (Kd×U)),eZ W K0->K0.length<f->∃(a:List Str) (c d:Option (Kd×U)),Run (fG (HH Γ (.var 4)) (execs Γ EE) (f+1)) (jt rs W K0 o3 b6 o5) .nx (jt rs W a c cK d)/\eZ W a/\Kw rs a
 |0,_,_,_,_,h=>by lia
 |f+1,K0,o3,o5,k,h=>by
  have⟨a,b,c,d,i,j,l,m⟩:=BK (Γ:=Γ) g k (o3:=o3) (o5:=o5) (b0:=b6);cases b with
  |false =>
   have⟨e,n⟩:=m rfl;subst e;show⟨a,c,d,qy (fw rfl) i (m6 (fw rfl)),j,n⟩
  |true =>
   have:=l rfl;have⟨o,p,q,s,t,u⟩:=uG g f a c d j ⋯;show⟨o,p,q,qy (fw rfl) i s,t,u⟩
def Gv{W:List Str}(f:∀r∈rs,r.2.length<=8)(n:W.length<=100):∃K,cY Γ EF [.tup (rs.map A'),.lst (W.map .str)]=bD (.ok (.own,d_ K))/\(∀x∈K,x∈W)/\Kw rs K:=by
 obtain⟨st',g,K,o3,rfl,b,_⟩:=bu (t:=cK) (is:=[3]) (body:=execs Γ [.put 2 (.var 3) (.cst (.bl b6))]) (rs:=[(.any,.lst (W.map .str))]) (λx:Str=>(Kd.any,U.str x)) (λ_ q st=>∃K o3,st=[bD (.loc,.tup (rs.map A')),bD (.any,.lst (W.map .str)),bD (.own,d_ K),o3,cb,cb]/\eZ W K/\∀x∈q,x∈W)
  (λ_ _ _ _=>trivial) (λ_ y q st h=>by
   have⟨K,o3,e,c,d⟩:=h;subst e;have:=c.len;show⟨[bD (.loc,.tup (rs.map A')),bD (.any,.lst (W.map .str)),bD (.own,d_ K),bD (.any,.str y),cb,cb],[bD (.loc,.tup (rs.map A')),bD (.any,.lst (W.map .str)),bD (.own,d_ (eL K y)),bD (.any,.str y),cb,cb],gH,gJ (k:=.own) (k':=.own) ai rfl (aC rfl) (aB aF (aB (jE rfl) aH)) rfl rfl (iP ⋯) av,_,_,rfl,c.ins (d y (by simp)),λx a=>d x (by simp[a])⟩) W [] [bD (.loc,.tup (rs.map A')),bD (.any,.lst (W.map .str)),bD (.own,d_ []),cb,cb,cb] ⟨[],cb,rfl,⟨.nil,by simp⟩,λx a=>a⟩
 have:=b.len;have⟨i,o,p,j,l,m⟩:=uG (Γ:=Γ) (rs:=rs) (W:=W) f 999999999999 K o3 cb b ⋯;show⟨i,bc rfl (.inl rfl) (Bw.lst.start 4) (az jl bb (bX (rs:=[(.any,.lst (W.map .str))]) (aa (aC rfl) af) trivial (Bw.lst (L:=W)).it rfl g (az (st2:=jt rs W K o3 b6 cb) ai aI (qz j (bF (aA rfl) (iK rfl)))))),l.2,m⟩
abbrev Gw:List S:=[.ite (.cmp .gt (.bi .len [.call "_law_held" [.var 0,.comp 1 cK .seq [.var 2] [.cmp .ne (.var 0) (.var 4)] (.var 0)]]) (.cst (.int 0))) [.ret (.cst (.bl cK))] []]
abbrev EG:Fn:=⟨"_law_is_core",2,4,[.set 2 (.comp 1 cK .seq [.var 1] [] (.idx (.var 0) (.cst (.int 0)))),.ite (.or [.cmp .eq (.bi .len [.var 2]) (.cst (.int 0)),.not (.call "_law_is_knot" [.var 0,.var 1])]) [.ret (.cst (.bl cK))] [],.HC cK [3] .seq [.var 2] Gw,.ret (.cst (.bl b6))]⟩
def Gy(f:Core rs Z)(z:(aw rs).length<=24)(hk:Γ "_law_is_knot" [.tup (rs.map A'),HS rs Z]=bD (.ok (.loc,.bl b6)))(i:∀W:List Str,W.length<=24->∃K,Γ "_law_held" [.tup (rs.map A'),.lst (W.map .str)]=bD (.ok (.own,d_ K))/\(∀x∈K,x∈W)/\Kw rs K):
  cY Γ EG [.tup (rs.map A'),HS rs Z]=bD (.ok (.loc,.bl b6)):=by
 have hsz:(1000:Nat)<=df:=by decide
 have A:=f.sub.length_le;have B:(KK.aG Z rs).length=Z.length:=by unfold KK.aG;rw[c2]
 let S:Option (Kd×U)->Option (Kd×U)->au:=λo2 o3=>[bD (.loc,.tup (rs.map A')),bD (.any,HS rs Z),o2,o3]
 have j:start [.tup (rs.map A'),HS rs Z] 4=S cb cb:=by
  change [bD (if HM (.tup (rs.map A'))=b6 then Kd.loc else Kd.any,U.tup (rs.map A')),bD (Kd.any,HS rs Z),cb,cb]=_;rw[cu]
 have d:=c7 (cond:=aL Γ []) (elt:=ev Γ (.idx (.var 0) (.cst (.int 0)))) (src:=[(.any,HS rs Z)]) (st:=S cb cb) trivial .any (.inr rfl) A' (λr=>.str r.1) .any (λ_=>d0) (KK.aG Z rs) [] (by simp;lia)
  (λy _=>⟨aZ (aC rfl) ai trivial (dc rfl),jE rfl⟩)
 rw[hU,show((KK.aG Z rs).map λr=>U.str r.1)=Z.map U.str by unfold KK.aG;rw[hh];rfl]at d;have k:Run (ev Γ (.comp 1 cK .seq [.var 1] [] (.idx (.var 0) (.cst (.int 0))))) (S cb cb) (.own,.lst (Z.map .str)) (S cb cb):=bH (rs:=[(.any,HS rs Z)]) (aa (aC rfl) af) trivial (by change bD (((KK.aG Z rs).map A').map λu=>(kE .any,u))=_;rw[hh];rfl) d;obtain⟨st',l,o3,rfl,_⟩:=bu (t:=cK) (is:=[3]) (body:=execs Γ Gw) (rs:=[(.bor 2,.lst (Z.map .str))]) (λx:Str=>(Kd.loc,U.str x)) (λ_ q st=>∃o3,st=S (bD (.own,.lst (Z.map .str))) o3/\∀x∈q,x∈Z)
  (λ_ _ st ⟨o3,e,_⟩=>by subst e;show⟨⟨.own,rfl,rfl⟩,trivial⟩) (λ_ y q st m=>by
   have⟨o3,e,g⟩:=m;subst e;have C:=ki (λx=>!cc (x=y)) Z;have h:=fV (cond:=aL Γ [.cmp .ne (.var 0) (.var 4)]) (elt:=ev Γ (.var 0)) (src:=[(.bor 2,.lst (Z.map .str))]) (st:=S (bD (.own,.lst (Z.map .str))) (bD (.loc,.str y))) ⟨⟨.own,rfl,rfl⟩,trivial⟩ .loc (.inl rfl) U.str U.str (λx=>!cc (x=y)) .loc Z [] (by simp;lia)
    (λx _=>⟨cD (aS (ae rfl) (ae rfl) trivial yw),λ_=>⟨ae rfl,aF⟩⟩)
   rw[hU]at h;have⟨K,n,o,p⟩:=i (Z.filter λx=>!cc (x=y)) ⋯;have s:K=[]:=f.min y (g y (by simp)) K (λx d=>by
    have⟨a,b⟩:=kl.mp (o x d);show⟨a,by simpa using b⟩) p
   subst s;have v:Run (ev Γ (.bi .len [.call "_law_held" [.var 0,.comp 1 cK .seq [.var 2] [.cmp .ne (.var 0) (.var 4)] (.var 0)]])) (S (bD (.own,.lst (Z.map .str))) (bD (.loc,.str y))) (.loc,.int 0) (S (bD (.own,.lst (Z.map .str))) (bD (.loc,.str y))):=cy (aa (a_ (aa (ae rfl) (aa (bH (rs:=[(.bor 2,.lst (Z.map .str))]) (aa (aA rfl) af) ⟨⟨.own,rfl,rfl⟩,trivial⟩ (by change bD ((Z.map U.str).map λu=>(kE (.bor 2),u))=_;rw[hh];rfl) h) af)) trivial n) af) trivial rfl;show⟨S (bD (.own,.lst (Z.map .str))) (bD (.loc,.str y)),S (bD (.own,.lst (Z.map .str))) (bD (.loc,.str y)),aI,bt (aS v ai trivial (jG rfl)) av av,_,rfl,λx d=>g x (by simp[d])⟩) Z [] (S (bD (.own,.lst (Z.map .str))) cb) ⟨cb,rfl,λx d=>d⟩
 have w:(((Z.map U.str).length:Nat):Int)≠0:=by
  have:0<Z.length:=P7.mpr f.ne;rw[c2];lia
 show bc rfl (.inr rfl) j (az k bb (bt (Ba (qm (aS (cy (aa (aA rfl) af) (by show⟨⟨.own,rfl,rfl⟩,trivial⟩) b8) ai trivial (bV (c:=cK) (beq_eq_false_iff_ne.mpr w))) (ue (jF (c:=b6) (si (aa (ae rfl) (aa (aC rfl) af)) trivial hk rfl))))) av (bX (rs:=[(.bor 2,.lst (Z.map .str))]) (aa (aA rfl) af) (by show⟨⟨.own,rfl,rfl⟩,trivial⟩) (by change bD ((Z.map U.str).map λu=>(kE (.bor 2),u))=_;rw[hh];rfl) rfl l (bF ai eE))))
end
section
noncomputable def Cm : List S :=
        [.ite (.not (.call "_law_is_core" [.var 3,.var 7]))
          [.ret (.cst (.bl cK))]
          [],
        .set 6 (.bin .add (.var 6) (.comp 1 cK .seq [(.var 7)] [] (.idx (.var 0) (.cst (.int 0)))))]
abbrev EH:List S :=
   [.set 5 (.call "apart" [.var 3]),
   .ite (.or [.not (.KD (.var 5) .list),.not (.bi .all [.comp 1 cK .seq [.var 5] [] (.call "_law_pairs" [.var 0])])])
    [.ret (.cst (.bl cK))]
    [],
   .set 6 (.lst []),
   .HC cK [7] .seq [.var 5] Cm,
   .ite (.or [.cmp .lt (.Lx .iY [.var 6]) (.bi .len [.var 6]),.not (.call "_law_suffice" [.var 3,.var 6])])
    [.ret (.cst (.bl cK))]
    [],
   .app 5 (.lst [])]
structure UA(Γ:Tab)(rs:List Row):Prop where
 wl:(aw rs).length<=24
 ap:∃G Cs,Γ "apart" [.tup (rs.map A')]=bD (.ok (.own,.lst (Cs.map (HS rs))))/\LC rs G Cs/\Suf rs G
 pr:∀Z:List Str,Z.length<=24->Γ "_law_pairs" [HS rs Z]=bD (.ok (.loc,.bl b6))
 co:∀Z:List Str,Core rs Z->Γ "_law_is_core" [.tup (rs.map A'),HS rs Z]=bD (.ok (.loc,.bl b6))
 sf:∀L:List Str,KO rs L->L.length<=24->Suf rs L->Γ "_law_suffice" [.tup (rs.map A'),.lst (L.map .str)]=bD (.ok (.loc,.bl b6))
abbrev NU(o0 o1 o2:Option (Kd×U))(rs:List Row)(o4 o5 o6 o7:Option (Kd×U)):au:=[o0,o1,o2,bD (.loc,.tup (rs.map A')),o4,o5,o6,o7]
def BL(h:UA Γ rs):∃p s j,Run (execs Γ EH) (NU o0 o1 o2 rs o4 o5 o6 o7) .nx (NU o0 o1 o2 rs o4 p s j):=by
 have hsz:(1000:Nat)<=df:=by decide
 have⟨G,a,v,f,hs⟩:=h.ap;have⟨H,I⟩:=f.len;have w:=h.wl;have l:∀Z∈a,Z.length<=24:=λZ g=>u6 (f.co Z g).sub.length_le w;have m:Ju .seq [(.bor 5,.lst (a.map (HS rs)))]=bD (a.map λZ=>(Kd.loc,HS rs Z)):=by
  change bD ((a.map (HS rs)).map λu=>(kE (.bor 5),u))=_;rw[hh];rfl
 let S:Option (Kd×U)->Option (Kd×U)->au:=λo6 o7=>NU o0 o1 o2 rs o4 (bD (.own,.lst (a.map (HS rs)))) o6 o7;have z:Run (ev Γ (.bi .all [.comp 1 cK .seq [.var 5] [] (.call "_law_pairs" [.var 0])])) (S o6 o7) (.loc,.bl b6) (S o6 o7):=by
  have b:=c7 (cond:=aL Γ []) (elt:=ev Γ (.call "_law_pairs" [.var 0])) (src:=[(.bor 5,.lst (a.map (HS rs)))]) (st:=S o6 o7) ⟨⟨.own,rfl,rfl⟩,trivial⟩ .loc (.inl rfl) (HS rs) (λ_=>.bl b6) .loc (λ_=>d0) a [] (by simp;lia)
   (λZ g=>⟨a_ (aa (ae rfl) af) trivial (h.pr Z (l Z g)),aF⟩)
  rw[hU,show(a.map λ_=>U.bl b6)=(a.map λ_=>b6).map U.bl by rw[hh];rfl]at b;have n:=j4 (k:=.own) (a.map λ_=>b6);rw[show((a.map λ_=>b6).all id)=b6 by rw[Rr];show ko.mpr λ_ _=>rfl]at n;show cy (aa (bH (rs:=[(.bor 5,.lst (a.map (HS rs)))]) (aa (aA rfl) af) ⟨⟨.own,rfl,rfl⟩,trivial⟩ m b) af) trivial n
 have⟨st',o,i,j,rfl⟩:=bu (t:=cK) (is:=[7]) (body:=execs Γ Cm) (rs:=[(.bor 5,.lst (a.map (HS rs)))]) (λZ:List Str=>(Kd.loc,HS rs Z)) (λd q st=>d++q=a/\∃o7,st=S (bD (.own,.lst (d.flatten.map .str))) o7)
  (λ_ _ st ⟨_,o7,e⟩=>by subst e;show⟨⟨.own,rfl,rfl⟩,trivial⟩) (λd Z q st A=>by
   have⟨i,o7,e⟩:=A;subst e;have g:Z∈a:=by rw[<-i];simp
   have J:(KK.aG Z rs).length=Z.length:=by unfold KK.aG;rw[c2]
   have L:=l Z g;have N:d.flatten.length<=G.length:=by
    rw[<-f.fl,<-i,Nd,i0];lia
   have b:=c7 (cond:=aL Γ []) (elt:=ev Γ (.idx (.var 0) (.cst (.int 0)))) (src:=[(.loc,HS rs Z)]) (st:=S (bD (.own,.lst (d.flatten.map .str))) (bD (.loc,HS rs Z))) trivial .loc (.inl rfl) A' (λr=>.str r.1) .loc (λ_=>d0) (KK.aG Z rs) [] (by simp;lia)
    (λy _=>⟨aZ (ae rfl) ai trivial (dc rfl),aF⟩)
   rw[hU,show((KK.aG Z rs).map λr=>U.str r.1)=Z.map U.str by unfold KK.aG;rw[hh];rfl]at b;have B:Run (ev Γ (.bin .add (.var 6) (.comp 1 cK .seq [.var 7] [] (.idx (.var 0) (.cst (.int 0)))))) (S (bD (.own,.lst (d.flatten.map .str))) (bD (.loc,HS rs Z))) (.own,.lst ((d++[Z]).flatten.map .str)) (S (bD (.own,.lst (d.flatten.map .str))) (bD (.loc,HS rs Z))):=by
    rw[show(d++[Z]).flatten=d.flatten++Z by rw[Nd];simp,ka];show bE (aA rfl) (bH (rs:=[(.loc,HS rs Z)]) (aa (ae rfl) af) trivial (by change bD (((KK.aG Z rs).map A').map λu=>(kE .loc,u))=_;rw[hh];rfl) b) ⟨⟨.own,rfl,rfl⟩,trivial⟩ (yp (by rw[c2,c2];lia) rfl rfl)
   show⟨S (bD (.own,.lst (d.flatten.map .str))) (bD (.loc,HS rs Z)),_,aI,bt (jF (c:=b6) (si (aa (ae rfl) (aa (ae rfl) af)) trivial (h.co Z (f.co Z g)) rfl)) av (az B bb av),by rw[<-i];simp,_,rfl⟩) a [] (S (bD (.own,.lst [])) o7) ⟨rfl,_,rfl⟩
 rw[hU,f.fl]at o;have C:(ay G).length=G.length:=Nat.le_antisymm (bY (aX _) λx b=>by simpa[aN] using b) (bY f.nd λx b=>by simpa[aN] using b);have D:pU .iY [(.bor 6,.lst (G.map .str))]=bD (.loc,.int (G.length:Nat)):=by
  change(fF (.lst (G.map .str))).map _=_;rw[cz ⋯,O_,C]
 show⟨_,_,j,az (a_ (aa (ae rfl) af) trivial v) bb (bt (Ba (qm (jF (c:=b6) (B6 (aA rfl) rfl)) (ue (jF (c:=b6) (sj z))))) av (az (cp af trivial aH (i8 _)) bb (bX (rs:=[(.bor 5,.lst (a.map (HS rs)))]) (aa (aA rfl) af) (by show⟨⟨.own,rfl,rfl⟩,trivial⟩) m rfl o (bt (Ba (qm (aS (uc (aa (aA rfl) af) (by show⟨⟨.own,rfl,rfl⟩,trivial⟩) D) (cy (aa (aA rfl) af) (by show⟨⟨.own,rfl,rfl⟩,trivial⟩) b8) trivial (B4 (Z8 (by rw[c2];lia)))) (ue (jF (c:=b6) (si (aa (ae rfl) (aa (aA rfl) af)) (by show⟨⟨.own,rfl,rfl⟩,trivial⟩) (h.sf G f.kn ⋯ hs) rfl))))) av (fC (k:=.own) (k':=.own) rfl (cp af trivial aH (i8 _)) ql rfl rfl (by rw[c2];lia) av)))))⟩
abbrev sM:Fn:=⟨"law",1,8,[.set 1 (.Lx .JM [.LQ (.var 0) [] [.cst (.int 200)]]),.set 2 (.Ho "_law_source" [.var 1,.cst (.int 1)] [0]),.set 3 (.Ho "_law_widened" [.var 2,.Ho "_law_book" [.var 1,.var 2,.Ho "_law_words" [.var 2] [0]] [0,1]] [0]),.HC cK [4] .IG [.cst (.int 2)] EH,.ret (.cst (.bl b6))]⟩
def v3(g:iO Γ)(h:oS Γ)(j:lH Γ)(l:yZ Γ)(m:∀ws rs,Bq ws rs->UA Γ rs){ns:List Int}(G:ns.length<=63):cY Γ sM [.lst (ns.map .int)]=bD (.ok (.loc,.bl b6)):=by
 have n:(1000:Nat)<=df:=by decide
 have f:pU .JM [(.own,.lst ((cut ns cb (bD 200)).map .int))]=bD (.own,.lst ((cut ns cb (bD 200)).reverse.map .int)):=by
  change(if fQ .own ((cut ns cb (bD 200)).map U.int)=b6 then bD (Kd.own,U.lst ((cut ns cb (bD 200)).map U.int).reverse) else cb)=_;rw[Z6 (show fQ .own ((cut ns cb (bD 200)).map U.int)=b6 from rfl),List.map_reverse]
 have a:(cut ns cb (bD 200)).reverse.length<=63:=by rw[Tb];have:=Be ns cb (bD 200);lia
 generalize (cut ns cb (bD 200)).reverse=o at f a;let o0:Option (Kd×U):=bD (.any,.lst (ns.map .int));have⟨p,s,v,H,s2⟩:=y8 (Γ:=Γ) g (ns:=o) (rest:=[cb,cb,cb,cb,cb,cb]) (o0:=o0) (k:=1);have⟨ws,rs,b,c,w,x,z,A⟩:=qI (Γ:=Γ) h j l (ns:=p) (u:=s) (rest:=[cb,cb,cb,cb,cb]) (o0:=o0) ⋯ s2;have B:=m ws rs ⟨x,A,z⟩;have⟨st',C,o4,o5,o6,o7,rfl⟩:=bu (rs:=[(.loc,.int (2:Nat))]) (t:=cK) (is:=[4]) (body:=execs Γ EH) (λi:Nat=>(Kd.loc,U.int (0+(i:Int)))) (λd r st=>∃o4 o5 o6 o7,st=NU o0 (bD (.own,.lst (b.map .int))) (bD (.own,c)) rs o4 o5 o6 o7)
  (λ_ _ _ _=>trivial) (λd y r st D=>by
   have⟨o4,o5,o6,o7,e⟩:=D;subst e;have⟨I,J,L,q⟩:=BL (Γ:=Γ) B (o0:=o0) (o1:=bD (.own,.lst (b.map .int))) (o2:=bD (.own,c)) (o4:=bD (.loc,.int (0+(y:Int)))) (o5:=o5) (o6:=o6) (o7:=o7);show⟨NU o0 (bD (.own,.lst (b.map .int))) (bD (.own,c)) rs (bD (.loc,.int (0+(y:Int)))) o5 o6 o7,_,aI,q,_,_,_,_,rfl⟩) (hQ 2) [] (NU o0 (bD (.own,.lst (b.map .int))) (bD (.own,c)) rs cb cb cb cb) ⟨_,_,_,_,rfl⟩
 show bc (st0:=[o0,cb,cb,cb,cb,cb,cb,cb]) rfl (.inr rfl) rfl (az (uc (aa (qk (aC rfl) ub (mX ai) trivial (yn (by change cC _=b6;show gr ns))) af) trivial f) bb (az v bb (az w aI (bX (rs:=[(.loc,.int (2:Nat))]) (aa ai af) trivial (ic ⋯) rfl C (bF ai eE)))))
end
end TM
namespace K
open PySem L2 TM
abbrev top(i:Nat):ME:=PySem.Challenge.pw_primer_k43_knots_apart.main.body.getD i (.Pass ⟨0,0,0,0⟩)
noncomputable abbrev lJ:Fn:=TM.oN
noncomputable abbrev nv:Fn:=TM.Ez
noncomputable abbrev dn:Fn:=KL.dn
noncomputable abbrev fb:Fn:=TM.Ci
noncomputable abbrev bj:Fn:=KL.bj
noncomputable abbrev cU:Fn:=KL.cU
noncomputable abbrev br:Fn:=KL.br
noncomputable abbrev fz:Fn:=KL.fz
noncomputable abbrev e_:Fn:=KL.e_
noncomputable abbrev iQ:Fn:=TM.uw
abbrev zr:Fn:=⟨"knot",1,4,[.newD 1,.HC cK [2] .seq [.call "not_learnt" [.var 0]] [.putD 1 (.var 2) (.lst [])],.HC cK [3] .seq [.var 0] [.ite (.inD cK (.idx (.var 3) (.cst (.int 0))) 1) [.Jq 1 (.idx (.var 3) (.cst (.int 0))) (.idx (.comp 1 cK .seq [.idx (.var 3) (.cst (.int 1))] [.inD cK (.var 0) 2] (.var 0)) (.cst (.int 0)))] []],.J9 1 (.tup [.var 0,.bi .tuple [.var 1]])]⟩
noncomputable abbrev fE:Fn:=TM.Gh
noncomputable abbrev iR:Fn:=TM.EA
noncomputable abbrev iS:Fn:=TM.BH
noncomputable abbrev uH:Fn:=TM.ED
noncomputable abbrev iT:Fn:=TM.yx
noncomputable abbrev lK:Fn:=TM.ur
noncomputable abbrev jH:Fn:=TM.lG
noncomputable abbrev ny:Fn:=TM.El
noncomputable abbrev nz:Fn:=TM.Bm
noncomputable abbrev lL:Fn:=TM.oR
noncomputable abbrev iU:Fn:=TM.BD
noncomputable abbrev nA:Fn:=TM.yV
noncomputable abbrev gM:Fn:=TM.zj
noncomputable abbrev jI:Fn:=TM.zh
noncomputable abbrev fZ:Fn:=TM.Qg
noncomputable abbrev gN:Fn:=TM.SR
noncomputable abbrev lM:Fn:=TM.EF
noncomputable abbrev gO:Fn:=TM.EG
noncomputable abbrev gP:Fn:=TM.Bs
noncomputable abbrev Cn:Fn:=TM.sM
abbrev prog:List Fn:=[lJ,nv,dn,fb,bj,cU,br,fz,e_,iQ,zr,fE,iR,iS,uH,iT,lK,jH,ny,nz,lL,iU,nA,gM,jI,fZ,gN,lM,gO,gP,Cn]
abbrev ck:Ck:=⟨(prog.filter λf=>f.io.isNone).map (·.name),[],prog.filterMap λf=>f.io.map λp=>(f.name,p.1)⟩
def pure(ns:List Int)(B:ns.length<=63):HA prog 11 "law" [rX ns]=bD (.ok (.loc,.bl b6)):=by
 have s:HR prog "_law_draw" ur:=rfl;have hs:HR prog "_law_source" yx:=rfl;have h:HR prog "_law_learnt" BD:=rfl;have t:HR prog "_law_all" yV:=rfl;have C:HR prog "_law_pictured" Qg:=rfl;have D:HR prog "_law_suffice" SR:=rfl;have I:HR prog "_law_pairs" zh:=rfl;have J:HR prog "_law_is_knot" zj:=rfl;have N:HR prog "_law_held" EF:=rfl;have O:HR prog "_law_is_core" EG:=rfl;have u:HR prog "knot" KK.uA:=rfl;have Q:HR prog "knot_among" EA:=rfl;have T:HR prog "core_among" BH:=rfl;have Y:HR prog "lacking" Ez:=rfl;have kp:HR prog "apart" ED:=rfl;have H:vV prog:=⟨⟨rfl,rfl,rfl,rfl,rfl,rfl⟩,rfl,rfl,rfl,rfl⟩
 have D8:bI (HA prog 8):=yC s;have n:bI (HA prog 9):=yC s;have hl:HR prog "law" sM:=rfl;rw[show HA prog 11 "law" [rX ns]=_ from aJ hl [rX ns]];show v3 (yK hs) (Bp n rfl) (y7 (yK hs) n (F9 D8 rfl) (Ga rfl) rfl) (Ge n (Ep rfl) rfl) (λws rs c=>?_) B;have Uz:=c.rl;have JS:=c.wl;have hz:=c.z;have i:(aw rs).length<=24:=u6 (cO λr h=>(c.ok r h).ok) c.wl;show⟨i,?_,λZ j=>(aJ I _).trans (zi A' (λa=>⟨_,_,rfl⟩) (by unfold KK.aG;rw[c2];lia)),λZ j=>(aJ O _).trans (Gy j i ((aJ J _).trans (zl hz (Eo t c.wl c.ok) j.sub j.sup)) λW hW=>?_),λL f l h3=>?_⟩
 .have O1:∀G:List Str,KO rs G->G.length<=24->∃R,HA prog 9 "with_pictures" [.tup (rs.map A'),.lst (G.map .str)]=bD (.ok (.loc,.tup ((wp rs G).map A')))/\HA prog 9 "knot" [.tup ((wp rs G).map A')]=bD (.ok (.own,HS rs R))/\KP rs G R:=λG o hl=>by
   have m:=Gi hz o ⋯;have⟨K,v,SU⟩:=Kn.some m.wl m.ok;have JW:=SU.len;have y:=KP.of o v;have q:=Ux H u 2 m m.rl v ⋯;rw[y.kn]at q;show⟨_,Uw H 6 hz .lst ⋯ o,q,y⟩
  have Xu:∀g:List Str,g.Sublist (aw rs)->g≠[]->Kw rs g->∃k Z,(k=Kd.any\/k=.loc)/\HA prog 9 "core_among" [.tup (rs.map A'),HS rs g]=bD (.ok (k,HS rs Z))/\Core rs Z/\∀x∈Z,x∈g:=λg z1 z2 z3=>by
   have⟨k,Z,a1,a2,a3,a4⟩:=Gp (Γ:=HA prog 8) (λW hW=>Gk H u Q 0 hz ⋯ ⋯) i z1 z2 z3;show⟨k,Z,a1,(aJ T _).trans a2,a3,a4⟩
  have⟨G,Cs,e,f,l⟩:=Gq (Γ:=HA prog 9) (rs:=rs) ⟨i,Gj H.w Y 7 hz,O1,Xu⟩;show⟨G,Cs,(aJ kp _).trans e,f,l⟩
 .have⟨K,e,f,l⟩:=Gv (Γ:=HA prog 8) (rs:=rs) (W:=W) (λr h=>(c.ok r h).2.2.2) ⋯;show⟨K,(aJ N _).trans e,f,l⟩
 .have⟨b,A,f2⟩:=Hj (d:=8) C h t D hz (L:=L) (ws':=ws) ⋯ ⋯ (λx p=>p) λx p=>hz.in (f x p);rw[(f2 f).mpr h3]at A;show A
end K
namespace K
open PySem L2 TM PySem.W PyProof.Rows
abbrev m0:dV:=.str "primer.books" 223
abbrev m1:dV:=.str "primer.learning" 258
abbrev m2:dV:=.str "primer.knots" 306
abbrev m3:dV:=.str "primer.pictures" 314
abbrev m4:dV:=.str "law_primer_k43_knots_apart" 342
abbrev ml:Me:=⟨Cn,38,["_law_script","_law_left","_law_source_here","_law_book_here","_law_turn","_law_found","_law_words_here","_law_pairs_here"],222,221,m4,co "law" 467 230 1 218 219 .none .none (.ref 220) 470 471 181⟩
abbrev ms:List Me:=[⟨lJ,4,["book","words","row"],46,45,m0,co "words_of" 225 7 1 40 41 (.ref 42) (.ref 43) (.ref 44) 231 232 181⟩,
 ⟨nv,5,["book"],51,50,m0,co "lacking" 234 13 1 47 48 .none .none (.ref 49) 237 238 181⟩,
 ⟨dn,6,["pairs","found","key","value"],58,57,m0,co "gathered" 240 15 1 52 53 (.ref 54) (.ref 55) (.ref 56) 247 248 181⟩,
 ⟨fb,7,["book","words"],65,64,m0,co "refuse_unknown" 250 22 2 59 60 (.ref 61) (.ref 62) (.ref 63) 255 256 181⟩,
 ⟨bj,9,["book","pairs","place","row"],70,69,m1,co "places_that_tell" 260 26 1 66 67 .none .none (.ref 68) 263 264 181⟩,
 ⟨cU,10,["book","places","known","steps","place","word"],77,76,m1,co "new_steps" 266 31 3 71 72 (.ref 73) (.ref 74) (.ref 75) 275 276 181⟩,
 ⟨br,11,["book","tellers","missing","known","found","ready","steps","word","place","teller"],82,81,m1,co "steps_in_rounds" 278 38 1 78 79 .none .none (.ref 80) 281 282 181⟩,
 ⟨fz,12,["book","found","steps"],89,88,m1,co "order" 284 56 1 83 84 (.ref 85) (.ref 86) (.ref 87) 290 291 181⟩,
 ⟨e_,13,["book"],94,93,m1,co "learnt" 293 61 1 90 91 .none .none (.ref 92) 296 297 181⟩,
 ⟨iQ,14,["book"],101,100,m1,co "not_learnt" 299 63 1 95 96 (.ref 97) (.ref 98) (.ref 99) 303 304 181⟩,
 ⟨zr,16,["book","blocks","word","row"],106,105,m2,co "knot" 308 66 1 102 103 .none .none (.ref 104) 311 312 181⟩,
 ⟨fE,18,["book","words","pictured","row"],111,110,m3,co "with_pictures" 316 75 2 107 108 .none .none (.ref 109) 319 320 181⟩,
 ⟨iR,19,["book","words"],118,117,m3,co "knot_among" 322 82 2 112 113 (.ref 114) (.ref 115) (.ref 116) 327 328 181⟩,
 ⟨iS,20,["book","pairs","core","word","blocks","fewer"],123,122,m3,co "core_among" 330 84 2 119 120 .none .none (.ref 121) 333 334 181⟩,
 ⟨uH,21,["book","given","cores","rest","core"],128,127,m3,co "apart" 336 91 1 124 125 .none .none (.ref 126) 339 340 181⟩,
 ⟨iT,23,["_law_left","_law_k","_law_cell"],135,134,m4,co "_law_source" 344 102 2 129 130 (.ref 131) (.ref 132) (.ref 133) 350 351 181⟩,
 ⟨lK,24,["_law_source_here","_law_many","_law_number","_law_turn","_law_mixed"],142,141,m4,co "_law_draw" 353 107 2 136 137 (.ref 138) (.ref 139) (.ref 140) 361 362 181⟩,
 ⟨jH,25,["_law_source_here","_law_letters","_law_many","_law_base","_law_way","_law_size","_law_first","_law_words_here","_law_k","_law_word","_law_sense"],147,146,m4,co "_law_words" 364 116 1 143 144 .none .none (.ref 145) 367 368 181⟩,
 ⟨ny,26,["_law_source_here","_law_words_here","_law_at","_law_below","_law_told","_law_k","_law_one"],154,153,m4,co "_law_row" 370 137 4 148 149 (.ref 150) (.ref 151) (.ref 152) 380 381 181⟩,
 ⟨nz,27,["_law_rows","_law_row_here","_law_other"],161,160,m4,co "_law_lay" 383 146 2 155 156 (.ref 157) (.ref 158) (.ref 159) 389 390 181⟩,
 ⟨lL,28,["_law_left","_law_source_here","_law_words_here","_law_rows","_law_way","_law_k","_law_at","_law_more"],168,167,m4,co "_law_book" 392 151 3 162 163 (.ref 164) (.ref 165) (.ref 166) 403 404 181⟩,
 ⟨iU,29,["_law_book_here","_law_known","_law_fell","_law_word","_law_told"],173,172,m4,co "_law_learnt" 406 163 1 169 170 .none .none (.ref 171) 409 410 181⟩,
 ⟨nA,30,["_law_book_here","_law_met","_law_word","_law_told","_law_one"],180,179,m4,co "_law_all" 412 173 1 174 175 (.ref 176) (.ref 177) (.ref 178) 420 421 181⟩,
 ⟨gM,31,["_law_book_here","_law_pairs_here","_law_held_here","_law_word","_law_blocks","_law_rows"],185,184,m4,co "_law_is_knot" 423 180 2 181 182 .none .none (.ref 183) 426 427 181⟩,
 ⟨jI,32,["_law_found"],190,189,m4,co "_law_pairs" 429 191 1 186 187 .none .none (.ref 188) 432 433 181⟩,
 ⟨fZ,33,["_law_book_here","_law_words_here","_law_heads"],195,194,m4,co "_law_pictured" 435 193 2 191 192 .none .none (.ref 193) 438 439 181⟩,
 ⟨gN,34,["_law_book_here","_law_words_here"],202,201,m4,co "_law_suffice" 441 196 2 196 197 (.ref 198) (.ref 199) (.ref 200) 446 447 181⟩,
 ⟨lM,35,["_law_book_here","_law_words_here","_law_held_here","_law_word","_law_fell","_law_told"],207,206,m4,co "_law_held" 449 198 2 203 204 .none .none (.ref 205) 452 453 181⟩,
 ⟨gO,36,["_law_book_here","_law_pairs_here","_law_held_here","_law_word"],212,211,m4,co "_law_is_core" 455 210 2 208 209 .none .none (.ref 210) 458 459 181⟩,
 ⟨gP,37,["_law_source_here","_law_book_here","_law_share","_law_heads","_law_pool","_law_more","_law_k","_law_word"],217,216,m4,co "_law_widened" 461 218 2 213 214 .none .none (.ref 215) 464 465 181⟩,
 ml]
abbrev gg(P:Yi):Obj:=⟨.type "dict",cb,.dict #[ge P "__name__" 165 (.str "law_primer_k43_knots_apart" 342),ge P "__doc__" 166 .none,ge P "__package__" 167 .none,ge P "__loader__" 168 (.builtin "__main__.__loader__#opaque"),ge P "__spec__" 169 .none,ge P "__annotations__" 170 (.ref 6),ge P "__builtins__" 171 (.ref 4),ge P "__file__" 173 (.str "/claim/cut.py" 172),ge P "__cached__" 174 .none,ge P "PrimerError" 206 (.ref 24),ge P "Unknown" 222 (.ref 37),ge P "words_of" 233 (.ref 46),ge P "lacking" 239 (.ref 51),ge P "gathered" 249 (.ref 58),ge P "refuse_unknown" 257 (.ref 65),ge P "places_that_tell" 265 (.ref 70),ge P "new_steps" 277 (.ref 77),ge P "steps_in_rounds" 283 (.ref 82),ge P "order" 292 (.ref 89),ge P "learnt" 298 (.ref 94),ge P "not_learnt" 305 (.ref 101),ge P "knot" 313 (.ref 106),ge P "with_pictures" 321 (.ref 111),ge P "knot_among" 329 (.ref 118),ge P "core_among" 335 (.ref 123),ge P "apart" 341 (.ref 128),ge P "_law_source" 352 (.ref 135),ge P "_law_draw" 363 (.ref 142),ge P "_law_words" 369 (.ref 147),ge P "_law_row" 382 (.ref 154),ge P "_law_lay" 391 (.ref 161),ge P "_law_book" 405 (.ref 168),ge P "_law_learnt" 411 (.ref 173),ge P "_law_all" 422 (.ref 180),ge P "_law_is_knot" 428 (.ref 185),ge P "_law_pairs" 434 (.ref 190),ge P "_law_pictured" 440 (.ref 195),ge P "_law_suffice" 448 (.ref 202),ge P "_law_held" 454 (.ref 207),ge P "_law_is_core" 460 (.ref 212),ge P "_law_widened" 466 (.ref 217),ge P "law" 472 (.ref 222)] 42,#[]⟩
abbrev vw:D9:=view PySem.Challenge.pw_primer_k43_knots_apart [4,5,6,7,9,10,11,12,13,14,16,18,19,20,21,23,24,25,26,27,28,29,30,31,32,33,34,35,36,37,38]
abbrev hk:Hook:=kHook (λP=>Kb top (gg P) ms) (adr ms) λP=>ua top (gg P) ms
abbrev lo:List Str:=["PrimerError","Unknown"]
noncomputable abbrev xt(s:gs):Bool:=xlAt vw [] s&&recOk (RowW.records PySem.Challenge.rw_primer_k43_knots_apart.row.toRowW) s
noncomputable abbrev oe(w:HL):Option gs:=openEnds treeTable PySem.Challenge.rw_primer_k43_knots_apart.row.prog w 4000
noncomputable abbrev os(s:gs):=openSeen vw lo (importedModules PySem.Challenge.rw_primer_k43_knots_apart.row.prog.main.body) xt b6 s
def JU(w:HL):(oe w).map (λs=>(os s).1)=bD (openGood vw lo).1:=by kernel_rfl
def K3(w:HL):(oe w).map (λs=>(os s).2)=bD (openGood vw lo).2:=by kernel_rfl
def NP(w:HL):(oe w).map hk.obs=bD (hk.val w):=by kernel_rfl
def hl:LeftO PySem.Challenge.rw_primer_k43_knots_apart.row.prog vw lo xt hk.obs hk.val 4000:=λw=>by
 have⟨s,e,a⟩:=eH.mp (JU w);have b:=K3 w;have c:=NP w;rw[e]at b c;change(oe w).map _=_;rw[e];show Z_ bD (YV (YV a (sx b)) (sx c))
def hs:PySem.Challenge.rw_primer_k43_knots_apart.wellSaid=b6:=by kernel_rfl
def ho(P:Yi):Mq ck top (Kb top (gg P) ms) ms=b6:=by kernel_rfl
end K
open PySem PySem.W PyProof.Rows K
theorem PySem.Challenge.cw_primer_k43_knots_apart_holds : PySem.Challenge.rw_primer_k43_knots_apart.Holds := by
 w_on
 refine holds_law hs λz => ?_;refine holds_open hl hk.of hk.keeps (λs e => xl_of s (G'.mp e).1) XL.keeps rfl rfl rfl (λs e => recFacts_of (G'.mp e).2) rfl z (by kernel_rfl) ⟨rfl, rfl, rfl, rfl, rfl, by decide +kernel⟩ ?hw ?a
 (case hw => w_witness2)
 exact TM.walk2 (l := PySem.Challenge.rw_primer_k43_knots_apart) (Pg := prog) (ck := ck) (dp := 10) (x := "_law_script") (m := ml) rfl rfl ⟨rfl, by decide, by decide, rfl⟩ rfl (by decide +kernel) (by decide +kernel) rfl (RK.mpr ⟨30, rfl⟩) rfl rfl ho K.pure
