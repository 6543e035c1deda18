import PyProof.Rows.All
import Wide.All
import OpenK.AllK
import Wide.FinOn
import Lean
import PyProof.EqAt
import PyProof.EqKinds
import PyProof.TupleCall
import PyProof.StrLawsChain
import PyProof.StrLawsFirst
import PyProof.Rows.StrNews2
import OpenK.AllK
import PySem.SetOps
import OpenK.AllK
import PyProof.DictItems
import OpenK.AllK
import PyProof.AttrMissHeap
import OpenK.AllK
import PyProof.ReprBulk
import PySem.Challenge.RW_primer_k24_whole_no_shorter_reading
set_option Elab.async false
set_option linter.all false
set_option bootstrap.genMatcherCode false
set_option maxRecDepth 100000
set_option maxHeartbeats 4000000
set_option genInjectivity false
set_option genSizeOf false
set_option autoImplicit true
set_option relaxedAutoImplicit true
open Option renaming some->a5,none->b6,map_eq_some_iff->fS,bind_eq_some_iff->qp,isSome_iff_exists->RM,map_eq_none_iff->R',map_some->Sv,isSome_map->Ur,getD_none->U7,isNone_iff_eq_none->WU
open PySem renaming wpAny_bind->bD,wpAny_pure->c2,sizeLine->c6,Value->dt,wpAny->et,Shared->gj,model->hE,Addr->hH,starEach->js,wpAny_setState_of->my,wpAny_holding->ri,rawInt->ti,builtinLookup_eq_fast->tA,Expr->uv,wpAny_call_entry->va,wpAny_newObj_type->vl,isSubtype_type->vr,wpAny_mono->vu,wpAny_Call_Name_kw->y4,bootBuiltins->D',eval->H0,Program->H8,typeLookup_type->Iv,codeAny_builtin->Iw,Builtin->IG,scanBound->IJ,wpAny_truthy_bool->JH,wpAny_setField->JK,Heap->JN,mainGlobals->J',backTo->Kj,World->Kp,wpAny_isInstance->KA,wpAny_of_eq->Li,wpAny_callSpecial?_slot->LF,wpAny_specialOf->LJ,wpAny_rule->LK,wpAny_field->L9,plainId_quiet->Ma,cLine->Ml,compareOp->Mn,call->Mu,wpAny_updateSeq->MO,keywordEach->MP,holding->MR,foldedSetIterable->MU,Around->MY,sysModules->Nt,wpAny_passesOwn->Nz,Scope->NA,codeAny->NF,Keyword->NY,binaryOp->Ow,SetTable->Ox,NameKind->OC,isSubtype->OM,attributeBase->O2,wpAny_pyIter_tuple->O',tupleKind_room_in1->Pc,pyNext->Pp,assignEach->Pt,wpAny_getItem_str_slice->Py,wpAny_typeOf->P',wpAny_seqItems->Qc,firstArgMember->Qh,backToKw->Qi,Stmt->Qj,wpAny_askSetting->QM,typeLookup->QN,swapsWith->QO,wpAny_attempt->Q4,swapsWithSole->Q6,behindInMarks->Q7,sliceBounds->Q8,codeAny_extend_loopS->Q9,wpAny_setEntries_of->RG,assign->R5,FuncData->R7,wpAny_pyIter_list->Sw,signature?_of->SF,wpAny_Call_method0_late->S0,entryFor_of_tree->S8,entryFor->S9,GenState->Tf,setItem->Tu,relabel->Tv,codeAny_mono->Tx,callerA->TC,call_meets->TL,wpAny_loadPart'->Ub,post_val_or_str->Uc,letOwnedTupleGo->Ud,call_isinstance->Ue,entryFor_alias->Uu,callType_codes->Uv,argsOk->Uw,updateSeq->UC,tupleKind->UJ,seqIndex?->UK,notedBy->UT,wpAny_newList->Ve,swappedStores->Vf,wpAny_storeSet_of->VL,wpAny_setEpoch_of->VR,wpAny_pyIter_slot->VS,wpAny_pyIter_enum->V0,valueAt->V1,sub_set_self->V7,setNext->V8,setField->V9,release->V_,raiseNew->V',getItem->Wh,fits_of_scanBound->Wr,concat_meets->Ws,compEnvC->Wt,call_meetsIn->Wv,ItemsOf->WM,wpAny_eqBool_str->XA,wpAny_eqBool_int->XB,seqItems?->XC,pyIter->XD,pickOrder->XE,noFill_tuple_add->XF,WalksS->XH,PassesOwn->XJ,unsupported->XO,subscripted->XQ,wpAny_execs_nil->X6,codeAny_of_tree->X7,standAt->Yg,wpAny_runValue->Yy,typeIs_str->Yz,relayAll->YA,newExc->YC,isSubtype_stop->YD,atKey->YE,wpAny_standAt->Y1,wpAny_handled->Y2,wpAny_comprehension_free->Y3,seq_tuple_add->Y4,table->Za,bindL->Zb,bindC->Zc,wpAny_Call_method_late->Zh,setNextDrawn->Zi,collect->Zj,Params->Zm,IsEnum->Zn,BindsTo->Zp,wpAny_isTrue_Compare1->ZE,wpAny_throw->ZO,step->ZP,seqIndex_of->ZQ,newTuple->ZR,bindArgs->ZS,Slot->ZV,Moved->ZW,wpAny_load->Á,wpAny_Name->Â,typeOf->Ã,setsByText->Ä,getattributeRaised->Å,checkCount->Æ,builtinsNs->Ç,JoinOk->É,wpAny_assign_Name->Ò,spliced->Ó,slot_list_getitem->Ô,newList->Õ,again->Ö,wpAny_setScan_of->Þ,setDiscardHashed->ß,rule->à,meets_dict_items->á,checkBuiltinCall->â,cellsFrom->ã,wpAny_ite_split->ì,truthy->ó,stored->ô,recursionLimit->õ,field->ö,augStore->ø,Operator->ú
open Bool renaming true->cb,false->cL,and_eq_true->c4,false_ne_true->q0,and_eq_true_iff->u5,not_eq_true'->x2,false_eq_true->Ke,or_eq_true->Lf,eq_iff_iff->Lh,or_false->QC,and_false->Rn,or_eq_false_iff->Tt,false_and->Xz,true_and->X4,and_true->X5,and_eq_false_iff->YR,not_true->Ð,and_self->Ñ
open List renaming length_map->cc,getElem?_eq_some_iff->dV,map_cons->ez,mem_cons->fR,getElem?_set_self->hQ,size_toArray->hU,length_append->hY,range->i1,mem_singleton->i3,map_map->i5,getElem?_set_ne->i6,all_eq_true->i7,map_append->ke,getElem?_map->ki,replicate->kj,length_cons->ko,mem_of_getElem?->lg,mem_append->lk,mem_map->mh,nil_append->mn,nodup_cons->mA,length_singleton->nH,getElem?_eq_getElem->oT,mem_append_right->o3,mem_cons_self->qP,getElem?_append_right->q9,mem_range->rr,nodup_append->sL,length_filter_le->td,map_congr_left->tj,lookup_cons->t4,append_nil->uk,mem_cons_of_mem->ux,length_range->w6,getElem?_append_left->x3,filter_cons->B',length_take->Ig,getD->Ii,take_of_length_le->I0,map_nil->Km,length->Kz,getElem?_replicate->KX,mem_filter->Lc,getElem_mem->LS,ext_getElem->LU,getElem?_drop->L3,filter_eq_self->MV,filterMap_cons->MW,map_singleton->M1,find?_cons->M',dropLast_concat_getLast->Nj,sum_cons->Nk,isEmpty_iff->Of,length_reverse->Ot,filter_nil->OS,zip_cons_cons->OU,filter_append->OW,filter_cons_of_pos->O0,filter_cons_of_neg->O1,nodup_nil->O9,eraseIdx_eq_take_drop_succ->Pz,length_replicate->PF,getElem?_eq_none->PQ,mem_iff_getElem->QD,sum_append->QJ,of_mem_zip->QL,reverse_append->QS,mem_map_of_mem->QV,getElem_of_mem->QW,sum_singleton->Rk,pairwise_cons->Rm,drop_eq_getElem_cons->RU,reverse_cons->RX,not_mem_nil->Sa,map_reverse->Sb,length_eq_zero_iff->Sd,getElem?_cons_succ->Si,eraseIdx_cons_succ->So,any_eq_true->Sq,reverse_singleton->Sx,length_pos_of_mem->Sy,length_nil->SH,foldl_cons->SJ,singleton_append->SS,mem_erase_of_ne->Tj,getElem?_zipIdx->Ts,any_cons->Ui,findIdx?_eq_some_iff_getElem->Ux,flatten_cons->U8,eraseIdxIfInBounds_toArray->Vd,getElem_inj->Vj,map_id->Vm,length_zip->Vt,forIn_cons->Vu,drop_left'->Vx,map->Xr,getD_eq_getElem?_getD->Xv,forIn_nil->Xx,drop_zero->Xy,findIdx?_eq_none_iff->XN,length_erase_of_mem->XZ,getElem?_take_of_lt->X0,findIdx?->X2,length_eq_one_iff->Yq,filter_eq_nil_iff->Yr,all_map->Yx,mem_iff_getElem?->YP,dropLast_eq_take->YQ,mem_append_left->YX,length_eraseIdx->YY,getElem_eq_getD->YZ,flatten_append->Y8,filter_sublist->Y9,mem_filterMap->Zf,take_sublist->Zy,filter_congr->Zz,ext_getElem?->ZA,append_assoc->ZC,mem_flatten->ZH,map_fst_zip->ZI,length_drop->ZJ,getElem_map->ZK,drop_length->ZL,cons_append->ZM,zipIdx_map->Z3,range_succ->Z4,length_set->Z5,lt_irrefl->Z',perm_nil->Ì,map_take->Í,map_drop->Î,all_cons->Ï,range'->é
open PySem.Heap renaming get?_push_of_some->cK,get?_push_size->eH,lt_size->fx,get?_update_self->nC,SameBut->qs,get?_update_other->HY,get?_update_ne->Ol,size_push->W9,ExtBut->YV,size_update->ZF
open Decidable renaming decide->df
open Nat renaming ne_of_lt->hV,le_refl->hW,zero_le->i8,lt_of_lt_of_le->i9,lt_irrefl->tr,ne_of_gt->Jd,le_trans->Jj,le_succ->JF,lt_succ_self->LX,lt_succ_of_lt->Nv,zero_add->Oj,lt_trans->Pw,le_of_lt->Px,not_lt_of_lt->Vl,mod_lt->XM,add_sub_cancel_left->Yk,succ_pos->YN,le_of_eq->YO,lt_of_le_of_lt->Zx,sub_zero->ç,add_zero->è
open PySem.Value renaming ref->i0,none->l0,type->qb,str->ve,isStrOf->P4,bool->Rb,int->U',isStrOf_shape->YT,isInt->Ú
open Array renaming length_toList->i2,getElem?_toList->ro,getElem?_eq_getElem->Mq,size_map->Rf,toArray_toList->Tg,getD->Uj,forIn_toList->Uq,size_append->Uy,getElem?_eq_some_iff->WV,toList->Yf,toList_extract->YS,toList_push->Zg
open Sum renaming inr->kr,inl->LH
open PySem.Builtin.List renaming listExtendWith->mx,listLengthHint->y1,listTooLong->Jp,listSameRef->Jy,listItems->Om,listUpdate->Va,listFitsIndex->î
open PySem.Obj renaming mapSeq->nc,data_mapFields->HM,isFreed_of_fields->Nu,putSet->OZ,cls_mapFields->R0,mapFields->X_
open PySem.Str renaming empty->r6,ofString->M7,length->ù
open Ne renaming symm->sx
open PySem.Heap.SameBut renaming update->u7,refl->J3
open Int renaming eq_ofNat_of_zero_le->wh,toNat_natCast->Ny,emod_nonneg->Q2,emod_lt_of_pos->RB,le_trans->SN,le_refl->Ua,natCast_pow->À
open PySem.SetTable.layClean renaming free->DD
open Option.some renaming inj->D5,injEq->QG
open PyProof.Rows renaming seqObj->D6,size_push'->JU,callWith_type1->MZ,StrsAre->Qv,callWith_builtin1->Ti,envOfC->T_,AllBare->T',subscriptTail->Vg,listUpdate_at->Vi,slot_tuple_getitem->Vk,IsTup->XY,entry_list_sort->Ya,sortedHeap_old->YF,sortedHeap->YH,slot_list_sort->YL,args_list_sort->YM,sortedHeap_at->Y7,subscriptTail_builtinR->Zq,plain_sorted->Zr,listItems_at->Zs,entry_sorted->Zt,args_sorted1->Zu,IntsAre->Zw,seqEpoch_at->Z1,kind_sorted->Z2,Subscript_->Ë,slot_str_getitem->å,len_tuple->æ,get?_update_seq->ñ,call_isinstance_yes->ò,tail_any->û,keyKind'->ü,isTrue_and_nil->ý
open PySem.Around renaming under_plainId->Ic
open PySem.Calls renaming callWith_builtin->IZ,evalArgs_plain->NB,spliced_cons->ON,call_function_entry->Ro,spliced_nil->RL,Name_function_global->WN
open PySem.Builtin.Frozenset renaming isAnySet->Kr,difference->OR,sizeOf->PD,differenceUpdate->RW,unchanged->SO,copyOf->TX,baseOf->T2,addrOf->T6,slot1->Ug,updateFrom->ZY,slot0->ZZ,newClass->Z0
open PySem.Builtin.SmallTypes renaming nextOf->KJ
open PySem.SetTable renaming sizeAbove->LG,below->MF,grown->Nn,bits->NP,eraseAt->O6,turns->QE,layClean->Rc,fits->Rg,laid->S_,runEnd->UU,relaid->UW,fill->Vr,orStandIn->Yi,fresh->Zd,leap->Zk,drop->Zl
open PySem.W renaming kas_sort->Mr,kas_ask->WG,kat_cons->ZT,kat_yes->Ø
open List.Perm renaming refl->ME,swap->Y_,cons->Y'
open PySem.NameKind renaming free->M0
open PyProof.Rows.F renaming plain_set_update_loop->M9,entry_set_update_loop->R4
open False renaming elim->NC
open PySem.AutoSeq1 renaming wpAny_loadPart'->Oe,sub_tuple_tuple->Vs,sub_tuple_list->WQ,sub_list_tuple->WR,sub_list_list->W',idx_int->YW
open ForInStep renaming yield->Oh
open List.cons renaming injEq->P2
open LT renaming lt->QB
open PySem.Shared renaming TypeIs->RJ
open PySem.SeqAt renaming EqAt->Sr,ne_of_list_tuple->X8,RcAt->Y5,RcNeAt->È
open ToString renaming toString->SU
open PySem.Moved renaming trans->Te,refl->WL
open PySem.Data renaming fields->Th,cell->X'
open PySem.Txt renaming join->TR
open Sum.inr renaming inj->UA
open PySem.ItemsOf renaming nil->UX
open PySem.Builtin.Dict renaming updateFrom->Vb,selfAndRest->ï,pairItems->ð
open PySem.pickOrder renaming go->We
open PySem.Walks renaming list->Ww
open PySem.SetTable.below renaming go->WH
open Prod.mk renaming injEq->WT
open True renaming intro->W8
open List.Nodup renaming sublist->X3
open PySem.Heap.DictOf renaming new->Yj
open PySem.PassesOwn renaming never->YU
open String renaming splitOnAux->Y0,splitOn->ZD,ofList->ZN
open PySem.Manifest renaming owners->Y6
open PySem.Code renaming quiet_builtin->Ze
open PySem.F renaming args_list_extend_2->Zo,entry_list_extend->ZG,slot_list_extend->ZX,entry_list_pop->Ê,slot_list_pop->Ü
open PyProof.Rows.IsTup renaming new->Zv
open PySem.W.KatTups renaming cons->ZU,nil->Z7
open PySem.W.Looks renaming of_pure->Z6
open PyProof.Rows.LSm renaming range_all->Z8,kept_iter->Z9
open Prod renaming fst->Z_
open PySem.W.WShape renaming has->Ù
open PySem.Heap.IsSliceOf renaming new->Û
open LE renaming le->Ý
open PySem.Builtin.Range renaming rangeSize->ä
open List.Pairwise renaming nil->ê,map->ë
open PySem.W.WData renaming int->í
open ForIn renaming forIn->þ
abbrev ÿ:=@if_pos
abbrev Ā:=@decide_eq_true_eq
abbrev ā:=@if_neg
abbrev Ă:=@decide_eq_false
abbrev ă:=@decide_eq_true
abbrev Ą:=@congrArg
local macro_rules|`(⋯)=>`(by lia)
local macro_rules|`(∅)=>`(by(first|exact trivial|exact⟨⟨_,rfl,rfl⟩,trivial⟩|exact⟨⟨_,rfl,rfl⟩,⟨_,rfl,rfl⟩,trivial⟩))
namespace L2
open PySem PySem.Spec PyProof.Rows
abbrev Key:=Sum Int Str
noncomputable def jh:Key->dt->Bool
 |.inl k,v=>Ú k v
 |.inr x,v=>P4 x v
noncomputable def G4(w:Kp):Key->Int
 |.inl k=>hashInt k
 |.inr x=>hashStr w x
theorem bg:∀{k:Key}{v:dt},jh k v=cb->(∃i t,k=LH i/\v=U' i t)\/(∃x t,k=kr x/\v=ve x t)
 |.inl i,v,h=>by
  obtain⟨t,e⟩:=Value.isInt_shape (k:=i) (v:=v) h;exact .inl ⟨i,t,rfl,e⟩
 |.inr x,v,h=>by
  obtain⟨t,e⟩:=YT (x:=x) (v:=v) h;exact .inr ⟨x,t,rfl,e⟩
theorem vD(i:Int)(t:Tok):jh (.inl i) (.int i t)=cb:=by simp[jh,Ú]
theorem vE(x:Str)(t:Tok):jh (.inr x) (.str x t)=cb:=by simp[jh,P4]
theorem De(a b:Int):df ((LH a:Key)=LH b)=(a==b):=by
 by_cases e:a=b
 ·subst e;simp
 ·have h:¬(LH a:Key)=LH b:=λq=>e (Sum.inl.inj q);rw[Ă h];exact(beq_eq_false_iff_ne.mpr e).symm
theorem Df(a b:Str):df ((kr a:Key)=kr b)=df (a=b):=by
 by_cases e:a=b
 ·subst e;simp
 ·have h:¬(kr a:Key)=kr b:=λq=>e (UA q);rw[Ă h,Ă e]
theorem Dg(a:Int)(b:Str):df ((LH a:Key)=kr b)=cL:=Ă (λq=>nomatch q)
theorem Dh(a:Str)(b:Int):df ((kr a:Key)=LH b)=cL:=Ă (λq=>nomatch q)
noncomputable def aG(prog:H8)(w:Kp):PySem.KeyKind prog w Key where
 is:=jh
 hash:=G4 w
 inj:=λv a b g f=>by
  rcases bg g with⟨i,t,rfl,rfl⟩|⟨x,t,rfl,rfl⟩
  ·rcases bg f with⟨j,u,rfl,e⟩|⟨y,u,rfl,e⟩
   ·injection e with c _;rw[c]
   ·exact nomatch e
  ·rcases bg f with⟨j,u,rfl,e⟩|⟨y,u,rfl,e⟩
   ·exact nomatch e
   ·injection e with c _;rw[c]
 byValue:=λk v h=>by
  rcases bg h with⟨i,t,rfl,rfl⟩|⟨x,t,rfl,rfl⟩<;>rfl
 pyHash:=λd h=>by
  rcases bg d with⟨i,t,rfl,rfl⟩|⟨x,t,rfl,rfl⟩
  ·exact wpAny_pyHash_int h
  ·exact wpAny_pyHash_str h
 eqBool:=λl d h=>by
  rcases bg l with⟨i,t,rfl,rfl⟩|⟨x,t,rfl,rfl⟩
  ·rcases bg d with⟨j,u,rfl,rfl⟩|⟨y,u,rfl,rfl⟩
   ·rw[De]at h;exact XB h
   ·rw[Dg]at h;exact SeqAt.EqAt.int_str i t y u _ _ _ _ h
  ·rcases bg d with⟨j,u,rfl,rfl⟩|⟨y,u,rfl,rfl⟩
   ·rw[Dh]at h;exact SeqAt.EqAt.str_int x t j u _ _ _ _ h
   ·rw[Df]at h;exact XA h
 «strs»:=λk x t v h=>by
  rcases bg h with⟨i,u,rfl,e⟩|⟨y,u,rfl,e⟩
  ·exact nomatch e
  ·injection e with c _
   subst c;cases v<;>rfl
theorem pE(prog:H8)(w:Kp)(i:Int)(t:Tok):(aG prog w).is (.inl i) (.int i t)=cb:=vD i t
theorem pF(prog:H8)(w:Kp)(x:Str)(t:Tok):(aG prog w).is (.inr x) (.str x t)=cb:=vE x t
inductive V where
 |HH|bl (b:Bool)|int (i:Int)|str (x:Str)|PJ (b:Array UInt8)|PK (b:UInt64)|ref (a:hH)|ty (n:String)
 deriving DecidableEq
def RelV:V->dt->Prop
 |.HH,u=>u=l0
 |.bl b,u=>u=Rb b
 |.int i,u=>∃t,u=U' i t
 |.str x,u=>∃t,u=ve x t
 |.PJ b,u=>∃t,u=Value.bytes b t
 |.PK b,u=>∃t,u=Value.float b t
 |.ref a,u=>u=i0 a
 |.ty n,u=>u=qb n
abbrev Vals:List V->List dt->Prop:=Paired RelV
theorem Vals.length(r:Vals xs us):xs.length=us.length:=Paired.length r
theorem Vals.get:∀{xs:List V}{us:List dt}{i:Nat}{x:V},Vals xs us->xs[i]?=a5 x->∃u,us[i]?=a5 u/\RelV x u
 |_,_,_,_,.nil,e=>by simp at e
 |_,_,0,_,.cons r _,e=>by simp at e;subst e;exact⟨_,rfl,r⟩
 |_,_,i+1,x,.cons _ t,e=>by
  obtain⟨u,a,b⟩:=Vals.get (i:=i) (x:=x) t (by simpa using e);exact⟨u,by simpa using a,b⟩
theorem Vals.set(r:RelV x u):∀{xs:List V}{us:List dt} (i:Nat),Vals xs us->Vals (xs.set i x) (us.set i u)
 |_,_,_,.nil=>.nil
 |_,_,0,.cons _ t=>.cons r t
 |_,_,i+1,.cons q t=>.cons q (Vals.set r i t)
theorem Vals.append:∀{xs a:List V}{us ws:List dt},Vals xs us->Vals a ws->Vals (xs++a) (us++ws)
 |_,_,_,_,.nil,s=>s
 |_,_,_,_,.cons r t,s=>.cons r (Vals.append t s)
theorem Vals.take:∀{xs:List V}{us:List dt} (n:Nat),Vals xs us->Vals (xs.take n) (us.take n)
 |_,_,0,_=>.nil
 |_,_,_+1,.nil=>.nil
 |_,_,n+1,.cons r t=>.cons r (Vals.take n t)
theorem Vals.drop:∀{xs:List V}{us:List dt} (n:Nat),Vals xs us->Vals (xs.drop n) (us.drop n)
 |_,_,0,r=>r
 |_,_,_+1,.nil=>.nil
 |_,_,n+1,.cons _ t=>Vals.drop n t
def jy:Option V->Option dt->Prop
 |some v,a5 u=>RelV v u
 |none,b6=>True
 |_,_=>False
def KV{κ:Type}:List (κ×V)->List (κ×dt)->Prop:=Paired λ(p:κ×V) (q:κ×dt)=>p.1=q.1/\RelV p.2 q.2
noncomputable def kV:Key->V
 |.inl i=>.int i
 |.inr x=>.str x
inductive HO where
 |lst (xs:List V)
 |tup (xs:List V)
 |dK (kvs:List (Key×V))|dT (kvs:List (List Key×V))
 |set (S:Int->Bool) (n:Nat)
 |ins (C dx:hH) (fs:List (Str×V))
 |own (x:hH)
 |xd (fs:List (Str×V))
 |met (f x:hH)
 |QF (lo hi:Int)
 |Jq (o:Obj) (u:HO)
 |MQ (ps:Array dt)
 |ext (φ:JN->Prop)
abbrev Hp:=hH->Option HO
noncomputable def upd(H:Hp)(a:hH)(o:HO):Hp:=λb=>if b=a then a5 o else H b
theorem az:upd H a o a=a5 o:=by unfold upd;rw[ÿ rfl]
theorem aq(h:b≠a):upd H a o b=H b:=by unfold upd;rw[ā h]
theorem Fm{H:Hp}(h:H a=a5 o)(h':H b=a5 u)(d:o≠u):a≠b:=by
 intro e;subst e;rw[h]at h';exact d (D5 h')
theorem bG{H:Hp}(h:H a=a5 o)(h':H b=b6):a≠b:=by
 intro e;subst e;rw[h]at h';cases h'
section
variable(P:H8)(w:Kp)
def bF(H:Hp)(h:JN)(a:hH):HO->Prop
 |.lst xs=>xs.length<=c6/\∃(its:List dt) (n:Nat),Vals xs its/\h.get? a=a5 {cls:=.type "list",data:=.seq its.toArray n}
 |.tup xs=>xs.length<=c6/\∃its:List dt,Vals xs its/\XY h a its.toArray
 |.dK kvs=>kvs.length<=c6/\(a==Nt)=cL/\∃vs,KV kvs vs/\h.DictOf (aG P w) a vs
 |.dT kvs=>kvs.length<=c6/\(a==Nt)=cL/\∃xs:List (List Key×hH×dt),
   Paired (λ(p:List Key×V) (q:List Key×hH×dt)=>p.1=q.1/\H q.2.1=a5 (.tup (p.1.map kV))/\RelV p.2 q.2.2) kvs xs /\
   ∃o es ep,h.get? a=a5 o/\o.ExactDict/\o.data=.dict es ep/\es.toList=xs.map (entryOfKey (UJ (aG P w)))/\(xs.map (·.1)).Nodup
 |.set S n=>h.SetOf (intKind P w) a S n
 |.ins C d c=>H d=a5 (.own a)/\c.length<=1000/\d≠a/\h.get? a=a5 (PySem.W.instObj C d) /\
   ∃b,h.Ns1 d b/\(∀f,jy (c.lookup f) (b f))/\PySem.Within b (c.map (·.1))
 |.own _=>∃o,h.get? a=a5 o
 |.xd c=>∃b,h.Ns1 a b/\∀f,jy (c.lookup f) (b f)
 |.QF lo hi=>∃t u v,h.get? a=a5 {cls:=.type "range",data:=.fields #[.int lo t,.int hi u,.int 1 v]}
 |.Jq o u=>h.get? a=a5 o/\bF H h a u
 |.MQ ps=>h.get? a=a5 {cls:=.none,data:=.fields ps}
 |.met f x=>h.get? a=a5 (PySem.W.methodObj (.ref f) (.ref x))
 |.ext φ=>φ h/\(∃o,h.get? a=a5 o)/\∀e g:JN,φ e->(∀o,e.get? a=a5 o->g.get? a=a5 o)->φ g
def IY(H:Hp)(h:JN):Prop:=∀a o,H a=a5 o->bF P w H h a o
end
section
theorem bF.lt(x:bF P w H h a o):a<h.objs.size:=by
 cases o with
 |lst xs=>obtain⟨_,_,_,_,e⟩:=x;exact fx e
 |tup xs=>obtain⟨_,_,_,p⟩:=x;exact p.lt
 |set S n=>obtain⟨o,_,_,_,e,_⟩:=x;exact fx e
 |ins C c b=>obtain⟨_,_,_,e,_⟩:=x;exact fx e
 |own y=>obtain⟨_,e⟩:=x;exact fx e
 |xd b=>obtain⟨_,⟨_,_,_,e,_⟩,_⟩:=x;exact fx e
 |QF lo hi=>obtain⟨_,_,_,e⟩:=x;exact fx e
 |Jq d u=>obtain⟨e,_⟩:=x;exact fx e
 |MQ ps=>exact fx (show h.get? a=a5 _ from x)
 |met f y=>exact fx (show h.get? a=a5 _ from x)
 |ext φ=>obtain⟨_,⟨_,e⟩,_⟩:=x;exact fx e
 |_=>obtain⟨_,_,_,_,o,_,_,e,_⟩:=x;exact fx e
theorem Paired.Di:∀{c:List α}{d:List β},Paired F c d->(∀a b,F a b->G a b)->Paired G c d
 |_,_,.nil,_=>.nil
 |_,_,.cons r t,f=>.cons (f _ _ r) (Paired.Di t f)
theorem bF.gA(x:bF P w H h a o)(k:∀b u,(b=a\/H b=a5 (.own a))->h.get? b=a5 u->h'.get? b=a5 u)
  (ho:∀b,H b=a5 (.own a)->H' b=a5 (.own a)) (l:∀b xs,H b=a5 (.tup xs)->H' b=a5 (.tup xs)):bF P w H' h' a o:=by
 induction o with
 |lst xs=>obtain⟨z,its,n,r,e⟩:=x;exact⟨z,its,n,r,k _ _ (.inl rfl) e⟩
 |tup xs=>obtain⟨z,its,r,g,e,c⟩:=x;exact⟨z,its,r,g,k _ _ (.inl rfl) e,c⟩
 |dK kvs=>obtain⟨z,y,vs,r,g,es,ep,e,c⟩:=x;exact⟨z,y,vs,r,g,es,ep,k _ _ (.inl rfl) e,c⟩
 |dT kvs =>
  obtain⟨z,y,xs,r,g,es,ep,e,c⟩:=x;exact⟨z,y,xs,Paired.Di r λp q z=>⟨z.1,l _ _ z.2.1,z.2.2⟩,g,es,ep,k _ _ (.inl rfl) e,c⟩
 |set S n=>obtain⟨g,es,ep,t,e,c⟩:=x;exact⟨g,es,ep,t,k _ _ (.inl rfl) e,c⟩
 |ins C D m =>
  obtain⟨d,z,s,e,i,⟨j,es,ep,A,c⟩,r⟩:=x;exact⟨ho _ d,z,s,k _ _ (.inl rfl) e,i,⟨j,es,ep,k _ _ (.inr d) A,c⟩,r⟩
 |own y=>obtain⟨g,e⟩:=x;exact⟨g,k _ _ (.inl rfl) e⟩
 |xd m=>obtain⟨i,⟨j,es,ep,e,c⟩,r⟩:=x;exact⟨i,⟨j,es,ep,k _ _ (.inl rfl) e,c⟩,r⟩
 |QF lo hi=>obtain⟨t,u,v,e⟩:=x;exact⟨t,u,v,k _ _ (.inl rfl) e⟩
 |Jq g u B=>obtain⟨e,q⟩:=x;exact⟨k _ _ (.inl rfl) e,B q⟩
 |MQ ps =>
  have e:h.get? a=a5 {cls:=.none,data:=.fields ps}:=x;show h'.get? a=a5 {cls:=.none,data:=.fields ps};exact k a _ (.inl rfl) e
 |met f y =>
  have e:h.get? a=a5 (PySem.W.methodObj (.ref f) (.ref y)):=x;show h'.get? a=a5 (PySem.W.methodObj (.ref f) (.ref y));exact k a _ (.inl rfl) e
 |ext φ=>obtain⟨p,⟨o,e⟩,st⟩:=x;exact⟨st _ _ p λo q=>k _ _ (.inl rfl) q,⟨o,k _ _ (.inl rfl) e⟩,st⟩
theorem IY.lt(x:IY P w H h)(e:H a=a5 o):a<h.objs.size:=(x a o e).lt
theorem IY.fresh(x:IY P w H h)(e:h.objs.size<=a):H a=b6:=by
 cases q:H a with
 |none=>rfl
 |some u=>exact absurd (i9 (x.lt q) e) (tr _)
theorem IY.kept(x:IY P w H h)(k:∀b u,h.get? b=a5 u->h'.get? b=a5 u):IY P w H h':=λa o e =>
 (x a o e).gA (λb u _ q=>k b u q) (λ_ q=>q) λ_ _ q=>q
theorem IY.laid(x:IY P w H h)(k:∀b u,h.get? b=a5 u->h'.get? b=a5 u)(g:h.objs.size<=a)(new:bF P w (upd H a o) h' a o):IY P w (upd H a o) h':=λb u e=>by
 have d:=x.fresh g;by_cases f:b=a
 ·subst f;rw[az]at e;cases e;exact new
 ·rw[aq f]at e;exact(x b u e).gA (λc v _ q=>k c v q) (λc q=>by rw[aq (bG q d)];exact q) λc xs q=>by rw[aq (bG q d)];exact q
end
def Rd(H:Hp)(a:hH)(u:HO):Prop:=H a=a5 u\/∃o,H a=a5 (.Jq o u)
theorem Rd.ok(r:Rd H a u)(x:IY P w H h):bF P w H h a u:=by
 rcases r with r|⟨o,r⟩
 ·exact x a u r
 ·obtain⟨_,q⟩:=x a _ r;exact q
def Og:Option HO->Prop
 |some (.lst _)=>True
 |some (.dK _)=>True
 |some (.dT _)=>True
 |some (.set _ _)=>True
 |some (.ins _ _ _)=>True
 |some (.ext _)=>True
 |_=>False
section
theorem IY.write(j:IY P w H h)(mu:Og (H x))(f:e=x\/H e=a5 (.own x))(k:∀b u,b≠e->h.get? b=a5 u->h'.get? b=a5 u)(l:∃u,h'.get? e=a5 u)
  (new:bF P w (upd H x o') h' x o'):IY P w (upd H x o') h':=λb u q=>by
 have g:∀c y,H c=a5 (.own y)->c≠x:=λc y r z=>by subst z;rw[r]at mu;exact mu
 have m:∀c xs,H c=a5 (.tup xs)->c≠x:=λc xs r z=>by subst z;rw[r]at mu;exact mu
 by_cases a:b=x
 ·subst a;rw[az]at q;cases q;exact new
 ·rw[aq a]at q;by_cases d:b=e
  ·have i:H b=a5 (.own x):=by
    rcases f with z|z
    ·exact absurd (d.trans z) a
    ·rw[d];exact z
   rw[q]at i;cases i;obtain⟨v,n⟩:=l;exact⟨v,by rw[d];exact n⟩
  ·refine(j b u q).gA (λc v hc r=>k c v ?_ r) (λc r=>by rw[aq (g c b r)];exact r) λc xs r=>by rw[aq (m c xs r)];exact r
   rcases hc with rfl|hc
   ·exact d
   ·rintro rfl;rcases f with z|z
    ·exact g c b hc z
    ·rw[hc]at z;cases z;exact a rfl
end
structure Un(fs ex:List hH)(H H':Hp)(h h':JN):Prop where
 keep:∀b o,h.get? b=a5 o->H b=b6->b∉fs->b∉ex->h'.get? b=a5 o
 slot:∀b o,h.get? b=a5 o->H b=b6->b∈fs->b∉ex->∃sl,h'.get? b=a5 {o with slots:=sl}
 free:∀b o,h.get? b=a5 o->H b=b6->b∉ex->H' b=b6
 there:∀b o,h.get? b=a5 o->b∉ex->∃o',h'.get? b=a5 o'
 gJ:∀b xs,H b=a5 (.tup xs)->H' b=a5 (.tup xs)
 JE:∀b o u,H b=a5 (.Jq o u)->H' b=a5 (.Jq o u)
 JO:∀b ps,H b=a5 (.MQ ps)->∃more,H' b=a5 (.MQ (ps++more))
section
theorem Un.any(u:Un e ex H i h f)(q:h.get? b=a5 a)(n:H b=b6)(c:b∉ex):∃g,f.get? b=a5 {a with slots:=g}:=by
 by_cases d:b∈e
 ·exact u.slot b a q n d c
 ·exact⟨a.slots,u.keep b a q n d c⟩
theorem Un.kept(k:∀b u,h.get? b=a5 u->h'.get? b=a5 u):Un c ex H H h h' :=
 ⟨λb a q _ _ _=>k b a q,λb a q _ _ _=>⟨a.slots,k b a q⟩,λ_ _ _ n _=>n,λb a q _=>⟨a,k b a q⟩,λ_ _ q=>q,λ_ _ _ q=>q,λ_ ps q=>⟨#[],by rw[q];simp⟩⟩
theorem Un.refl:Un a ex H H h h:=Un.kept λ_ _ q=>q
theorem Un.laid(k:∀b u,h.get? b=a5 u->h'.get? b=a5 u)(d:h.objs.size<=a)(c:H a=b6):Un e ex H (upd H a o) h h' where
 keep:=λb u q _ _ _=>k b u q
 slot:=λb u q _ _ _=>⟨u.slots,k b u q⟩
 free:=λb u q n _=>by rw[aq (hV (i9 (fx q) d))];exact n
 there:=λb u q _=>⟨u,k b u q⟩
 gJ:=λb xs q=>by rw[aq (bG q c)];exact q
 JE:=λb u xs q=>by rw[aq (bG q c)];exact q
 JO:=λb ps q=>⟨#[],by rw[aq (bG q c),q];simp⟩
theorem Un.write(mu:Og (H x))(g:e=x\/H e=a5 (.own x))(k:∀b u,b≠e->h.get? b=a5 u->h'.get? b=a5 u)(i:∃u,h'.get? e=a5 u):Un l ex H (upd H x o) h h':=by
 have c:∀b,H b=b6->b≠x:=λb n z=>by subst z;rw[n]at mu;exact mu
 have d:∀b,H b=b6->b≠e:=λb n z=>by
  subst z;rcases g with r|r
  ·exact c b n r
  ·rw[n]at r;cases r
 have a:∀b u,H b=a5 u->¬Og (a5 u)->b≠x:=λb u q j z=>by subst z;rw[q]at mu;exact j mu
 refine⟨λb u q n _ _=>k b u (d b n) q,λb u q n _ _=>⟨u.slots,k b u (d b n) q⟩,λb u q n _=>by rw[aq (c b n)];exact n,λb u q _=>?_,
  λb xs q=>by rw[aq (a b _ q λz=>z)];exact q,λb u xs q=>by rw[aq (a b _ q λz=>z)];exact q,λb ps q=>⟨#[],by rw[aq (a b _ q λz=>z),q];simp⟩⟩
 by_cases f:b=e
 ·subst f;exact i
 ·exact⟨u,k b u f q⟩
end
noncomputable def PL(h:JN)(H:Hp):List hH:=(i1 h.objs.size).filter λa=>(H a).isSome
noncomputable def nK(h:JN)(H:Hp):JN:=PySem.W.hideAll h (PL h H)
theorem vF(h:JN)(H:Hp):(nK h H).objs.size=h.objs.size:=PySem.W.hideAll_size _ _
theorem wZ(e:h.get? b=a5 o)(n:H b=b6):(nK h H).get? b=a5 o :=
 PySem.W.hideAll_get _ e λa=>by
  have q:(H b).isSome=cb:=(Lc.mp a).2;rw[n]at q;simp at q
theorem Aq(e:(nK h H).get? b=a5 o):h.get? b=a5 o/\H b=b6:=by
 have a:h.get? b=a5 o:=PySem.W.of_hideAll (PL h H) e;refine⟨a,?_⟩;cases q:H b with
 |none=>rfl
 |some x =>
  have c:b∈PL h H:=Lc.mpr ⟨rr.mpr (fx a),by simp[q]⟩;have z:(nK h H).get? b=b6:=PySem.W.hideAll_none (PL h H) c;rw[z]at e;cases e
structure Mod(K:PySem.W.Frag)(mg:Str->Option dt)(base:JN):Prop where
 PM:K.In base
 glob:base.Ns J' mg
 blt:∃mb,base.Ns Ç mb/\∀x:Str,x≠"__name__"->mb x=D' x
 nolimit:base.NoLimit
structure Cx where
 prog:H8
 w:Kp
 K:PySem.W.Frag
 mg:Str->Option dt
 base:JN
 A:MY
 N:List Str
 s₀:gj
 H₀:Hp
 env:Env
 outer:List Env
 stack:List Env
 ex:List hH
 fn:Str->Bool
 calm:Bool
 pn:List (hH×Obj)
 xe:dt->gj->Prop
noncomputable def KC(l:List Env):List hH:=l.filterMap (·.frame)
noncomputable abbrev Cx.fs(X:Cx):List hH:=KC X.outer
def JY(a:NA)(x:Str):Prop:=a.names.lookup x=a5 .local\/a.names.lookup x=a5 .cell\/a.names.lookup x=a5 .free
def Loc(a:NA)(x:Str):Prop:=a.names.lookup x=a5 .local\/a.names.lookup x=a5 .cell
def Look(env:Env)(h:JN)(m:Str->Option dt)(x:Str)(u:dt):Prop :=
 (env.kindOf x=a5 .local/\m x=a5 u)\/((env.kindOf x=a5 .cell\/env.kindOf x=a5 .free)/\∃c,env.cells.lookup x=a5 c/\h.IsCell c (a5 u))
structure Cx.Ok(X:Cx):Prop where
 mod:Mod X.K X.mg X.base
 kind:X.env.scope.kind=.function
 glob:X.env.globals=J'
 blt:X.env.builtins=Ç
 above:X.s₀.heap.objs.size<=X.env.locals
 inj:∀x y c,X.env.cells.lookup x=a5 c->X.env.cells.lookup y=a5 c->x=y
 has:∀x,(X.env.kindOf x=a5 .cell\/X.env.kindOf x=a5 .free)->∃c,X.env.cells.lookup x=a5 c
 Oi:∀x c,X.fn x=cb->X.env.cells.lookup x=a5 c->X.s₀.heap.objs.size<=c
 hd:X.calm=cb->X.A.handled=b6
 frames:X.A.frames=a5 X.stack
 PN:X.stack=X.outer\/(X.stack=X.env::X.outer/\X.env.frame=a5 X.env.locals)
 TB:∀b∈X.ex,b≠X.env.locals/\∀x c,X.env.cells.lookup x=a5 c->c≠b
 bs:∀b o,X.base.get? b=a5 o->X.s₀.heap.get? b=a5 o/\X.H₀ b=b6
 Mp:X.base.objs.size<=X.s₀.heap.objs.size
 Lg:∀b o,X.base.get? b=a5 o->b∉X.ex
 LV:∀b∈X.ex,b∉X.fs
 jU:X.s₀.heap.FunFrames X.base X.outer
 NG:∀b∈X.fs,X.H₀ b=b6
structure Inv(X:Cx)(pins:List (hH×Obj))(σ:List (Option V))(H:Hp)(s:gj):Prop where
 ok:X.Ok
 os:s.os=X.s₀.os
 bare:T' s.gens
 base:Un X.fs X.ex X.H₀ H X.s₀.heap s.heap
 loc:∃m,s.heap.Ns X.env.locals m/\∀(i:Nat) (x:Str) (v:V),X.N[i]?=a5 x->σ[i]?=a5 (a5 v)->JY X.env.scope x->∃u,RelV v u/\Look X.env s.heap m x u
 cell:∀x c,X.env.cells.lookup x=a5 c->∃v,s.heap.IsCell c v
 free:H X.env.locals=b6
 ID:∀x c,X.env.cells.lookup x=a5 c->H c=b6
 pin:∀p∈X.pn++pins,s.heap.get? p.1=a5 p.2/\H p.1=b6/\p.1≠X.env.locals/\p.1∉X.fs/\∀v,p.2.data≠.cell v
 HI:IY X.prog X.w H s.heap
 len:σ.length=X.N.length
section
variable{X:Cx}{pins:List (hH×Obj)}{σ:List (Option V)}{H H':Hp}{s:gj}{h':JN}
theorem Cx.Ok.G5(a:X.Ok)(e:X.base.get? b=a5 o):b∉X.fs:=λc=>by
 have:=(a.jU.mem c).1;rw[e]at this;cases this
theorem Inv.bs(I:Inv X pins σ H s):∀b o,X.base.get? b=a5 o->s.heap.get? b=a5 o/\H b=b6:=λb o e =>
 ⟨I.base.keep b o (I.ok.bs b o e).1 (I.ok.bs b o e).2 (I.ok.G5 e) (I.ok.Lg b o e),I.base.free b o (I.ok.bs b o e).1 (I.ok.bs b o e).2 (I.ok.Lg b o e)⟩
theorem Inv.bk(I:Inv X pins σ H s):∀b o,X.base.get? b=a5 o->s.heap.get? b=a5 o:=λb o e=>(I.bs b o e).1
theorem Inv.mod(I:Inv X pins σ H s):Mod X.K X.mg X.base:=I.ok.mod
theorem Inv.MS(I:Inv X pins σ H s):X.K.In s.heap:=I.ok.mod.PM.keeps I.bk
theorem Inv.lt(I:Inv X pins σ H s):X.env.locals<s.heap.objs.size:=let ⟨_,a,_⟩:=I.loc;a.lt
theorem Inv.sz(I:Inv X pins σ H s):X.s₀.heap.objs.size<=s.heap.objs.size:=Jj I.ok.above (Px I.lt)
theorem Inv.Dj(I:Inv X pins σ H s)(h:s.heap.objs.size<=a):a∉X.fs:=λb=>by
 obtain⟨_,o,ho,_⟩:=I.ok.jU.mem b;exact absurd (i9 (fx ho) (Jj I.sz h)) (tr _)
theorem Inv.MT(I:Inv X pins σ H s):∀x c,X.env.cells.lookup x=a5 c->c≠X.env.locals:=λx c e z=>by
 obtain⟨v,o,ho,a⟩:=I.cell x c e;obtain⟨m,⟨o',es,ep,b,d,_⟩,_⟩:=I.loc;rw[z,b]at ho;cases ho;rw[d]at a;cases a
theorem Inv.jU(I:Inv X pins σ H s):s.heap.FunFrames X.base X.outer:=by
 have all:∀(l:List Env),(∀b∈KC l,b∈X.fs)->X.s₀.heap.FunFrames X.base l->s.heap.FunFrames X.base l:=by
  intro l;induction l with
  |nil=>intro _ _;trivial
  |cons env r f =>
   intro hs hl;obtain⟨hk,⟨L,o,a,g,ho,h⟩,i⟩:=hl;have c:L∈X.fs:=hs L (by unfold KC;rw[MW,a];exact qP);obtain⟨j,e⟩:=I.base.slot L o ho (I.ok.NG L c) c λz=>I.ok.LV L z c;exact⟨hk,⟨L,_,a,g,e,h⟩,f (λb d=>hs b (by unfold KC;rw[MW,a];exact ux _ d)) i⟩
 exact all X.outer (λ_ d=>d) I.ok.jU
theorem Inv.stack(I:Inv X pins σ H s):s.heap.FunFrames X.base X.stack:=by
 rcases I.ok.PN with e|⟨e,a⟩
 ·rw[e];exact I.jU
 ·rw[e];obtain⟨m,b,_⟩:=I.loc;refine .cons (by rw[I.ok.kind];decide) a b ?_ I.jU;exact Heap.get?_none_of_le (Jj I.ok.Mp I.ok.above)
theorem Inv.jV(I:Inv X pins σ H s):∀b∈KC X.stack,b∈X.env.locals::X.fs:=λb a=>by
 rcases I.ok.PN with e|⟨e,c⟩
 ·rw[e]at a;exact ux _ a
 ·rw[e]at a;unfold KC at a;rw[MW,c]at a;exact a
theorem Inv.tH(I:Inv X pins σ H s):∀b∈KC X.stack,H b=b6:=λb hb=>by
 rcases fR.mp (I.jV b hb) with e|hb
 ·rw[e];exact I.free
 ·obtain⟨_,o,ho,_⟩:=I.ok.jU.mem hb;exact I.base.free b o ho (I.ok.NG b hb) λz=>I.ok.LV b z hb
theorem Inv.step{ch:List hH}(I:Inv X pins σ H s)
  (j:∀b∈ch,(b∈X.ex\/X.s₀.heap.objs.size<=b)/\b≠X.env.locals/\(∀x c,X.env.cells.lookup x=a5 c->c≠b)/\∀p∈X.pn++pins,p.1≠b)
  (keep:∀b o,b≠X.env.locals->b∉X.fs->b∉ch->s.heap.get? b=a5 o->H b=b6->h'.get? b=a5 o)
  (slot:∀b o,b≠X.env.locals->b∈X.fs->b∉ch->s.heap.get? b=a5 o->H b=b6->∃B,h'.get? b=a5 {o with slots:=B}) (free:∀b o,b∉ch->s.heap.get? b=a5 o->H b=b6->H' b=b6)
  (there:∀b o,b∉ch->s.heap.get? b=a5 o->∃o',h'.get? b=a5 o')
  (gJ:∀b xs,H b=a5 (.tup xs)->H' b=a5 (.tup xs)) (JE:∀b o u,H b=a5 (.Jq o u)->H' b=a5 (.Jq o u)) (JO:∀b ps,H b=a5 (.MQ ps)->∃more,H' b=a5 (.MQ (ps++more)))
  (ns:∀m,s.heap.Ns X.env.locals m->h'.Ns X.env.locals m) (O:IY X.prog X.w H' h') (Q:T' g') :
  Inv X pins σ H' {s with heap:=h',gens:=g',drawn:=d',toks:=t' }:=by
 have D:∀b o,X.s₀.heap.get? b=a5 o->b≠X.env.locals:=λb o e=>hV (i9 (fx e) I.ok.above);have A:∀b o,X.s₀.heap.get? b=a5 o->b∉X.ex->b∉ch:=λb o e a h=>by
  rcases(j b h).1 with z|z
  ·exact a z
  ·exact absurd (i9 (fx e) z) (tr _)
 have f:∀x c,X.env.cells.lookup x=a5 c->∀v,s.heap.IsCell c v->h'.IsCell c v:=λx c e v T=>by
  obtain⟨o,ho,C⟩:=T;have t:c∉ch:=λz=>(j c z).2.2.1 x c e rfl;by_cases G:c∈X.fs
  ·obtain⟨B,q⟩:=slot c o (I.MT x c e) G t ho (I.ID x c e);exact⟨_,q,C⟩
  ·exact⟨o,keep c o (I.MT x c e) G t ho (I.ID x c e),C⟩
 refine⟨I.ok,I.os,Q,⟨λb o e n h a=>?_,λb o e n h a=>?_,λb o e n a=>?_,λb o e a=>?_,λb xs e=>gJ b xs (I.base.gJ b xs e),λb o xs e=>JE b o xs (I.base.JE b o xs e),λb ps e=>?_⟩,?_,λx c e=>?_,?_,λx c e=>?_,λp J=>?_,O,I.len⟩
 ·exact keep b o (D b o e) h (A b o e a) (I.base.keep b o e n h a) (I.base.free b o e n a)
 ·obtain⟨B,g⟩:=I.base.slot b o e n h a;obtain⟨Y,y⟩:=slot b _ (D b o e) h (A b o e a) g (I.base.free b o e n a);exact⟨Y,y⟩
 ·obtain⟨o',g⟩:=I.base.there b o e a;exact free b o' (A b o e a) g (I.base.free b o e n a)
 ·obtain⟨o',g⟩:=I.base.there b o e a;exact there b o' (A b o e a) g
 ·obtain⟨m1,g⟩:=I.base.JO b ps e;obtain⟨m2,y⟩:=JO b _ g;exact⟨m1++m2,by rw[y,Array.append_assoc]⟩
 ·obtain⟨m,hn,hl⟩:=I.loc;refine⟨m,ns m hn,λi x v g y e3=>?_⟩;obtain⟨u,r,l⟩:=hl i x v g y e3;refine⟨u,r,?_⟩;rcases l with l|⟨k,c,e,z⟩
  ·exact .inl l
  ·exact .inr ⟨k,c,e,f x c e _ z⟩
 ·obtain⟨v,z⟩:=I.cell x c e;exact⟨v,f x c e v z⟩
 ·obtain⟨m,⟨o,_,_,ho,_⟩,_⟩:=I.loc;exact free _ o (λz=>(j _ z).2.1 rfl) ho I.free
 ·obtain⟨v,o,ho,C⟩:=I.cell x c e;exact free c o (λz=>(j c z).2.2.1 x c e rfl) ho (I.ID x c e)
 ·obtain⟨e,n,L,N,d⟩:=I.pin p J;have t:p.1∉ch:=λz=>(j p.1 z).2.2.2 p J rfl;exact⟨keep p.1 p.2 L N t e n,free p.1 p.2 t e n,L,N,d⟩
theorem Inv.un(I:Inv X pins σ H s)(u:Un X.fs [] H H' s.heap h')(d:IY X.prog X.w H' h'):Inv X pins σ H' {s with heap:=h',toks:=t' }:=by
 obtain⟨m,⟨o,es,ep,ho,r⟩,_⟩:=id I.loc;obtain⟨k,f⟩:=u.any ho I.free (by simp);exact I.step (g':=s.gens) (d':=s.drawn) (ch:=[]) (λ_ z=>nomatch z) (λb o _ a _ e n=>u.keep b o e n a (by simp)) (λb o _ a _ e n=>u.slot b o e n a (by simp)) (λb o _ e n=>u.free b o e n (by simp)) (λb o _ e=>u.there b o e (by simp)) u.gJ u.JE u.JO (λl g=>by
  obtain⟨o',h,i,c,j⟩:=g;rw[ho]at c;cases c;exact⟨_,h,i,f,j⟩) d I.bare
theorem Inv.call(I:Inv X pins σ H s)(u:Un (KC X.stack) ch H H' s.heap h')(h:IY X.prog X.w H' h')(i:T' g')
  (f:∀b∈ch,(b∈X.ex\/X.s₀.heap.objs.size<=b)/\b≠X.env.locals/\(∀x c,X.env.cells.lookup x=a5 c->c≠b)/\∀p∈X.pn++pins,p.1≠b) :
  Inv X pins σ H' {s with heap:=h',gens:=g',drawn:=d',toks:=t' }:=by
 obtain⟨m,⟨o,es,ep,ho,r⟩,_⟩:=id I.loc;obtain⟨v,d⟩:=u.any ho I.free λz=>(f _ z).2.1 rfl;exact I.step (ch:=ch) f (λb o d j a e n=>u.keep b o e n (λz=>(fR.mp (I.jV b z)).elim d j) a) (λb o _ _ a e n=>u.any e n a) (λb o a e n=>u.free b o e n a) (λb o a e=>u.there b o e a) u.gJ u.JE u.JO (λy k=>by
  obtain⟨o',l,q,g,t⟩:=k;rw[ho]at g;cases g;exact⟨_,l,q,d,t⟩) h i
theorem Inv.turned(I:Inv X pins σ H s)(k:∀b o,b≠it->s.heap.get? b=a5 o->h'.get? b=a5 o)(g:H it=b6)(d:it≠X.env.locals)
  (h:it∈X.ex\/X.s₀.heap.objs.size<=it) (i:∀x c,X.env.cells.lookup x=a5 c->c≠it) (j:∀p∈X.pn++pins,p.1≠it):Inv X pins σ H {s with heap:=h',toks:=t' }:=by
 have f:∀b u,H b=a5 u->b≠it:=λb u e z=>by rw[z,g]at e;cases e
 refine I.step (g':=s.gens) (d':=s.drawn) (ch:=[it]) (λb l=>?_) (λb o _ _ a e _=>k b o (λz=>a (by simp[z])) e) (λb o _ _ a e _=>⟨o.slots,k b o (λz=>a (by simp[z])) e⟩) (λ_ _ _ _ n=>n)
  (λb o a e=>⟨o,k b o (λz=>a (by simp[z])) e⟩) (λ_ _ e=>e) (λ_ _ _ e=>e) (λb ps e=>⟨#[],by rw[e];simp⟩) (λm t=>?_) (λb u e=>?_) I.bare
 ·have e:b=it:=by simpa using l
  subst e;exact⟨h,d,i,j⟩
 ·obtain⟨o,es,ep,ho,r⟩:=t;exact⟨o,es,ep,k _ o (sx d) ho,r⟩
 ·refine(I.HI b u e).gA (λc v a q=>k c v ?_ q) (λ_ q=>q) λ_ _ q=>q;rcases a with z|z
  ·rw[z];exact f b u e
  ·exact f c _ z
theorem Inv.tok(I:Inv X pins σ H s)(t:Nat):Inv X pins σ H {s with toks:=t}:=I.un (h':=s.heap) (t':=t) Un.refl I.HI
theorem Inv.kept(I:Inv X pins σ H s)(k:∀b u,s.heap.get? b=a5 u->h'.get? b=a5 u):Inv X pins σ H {s with heap:=h',toks:=t' }:=I.un (Un.kept k) (I.HI.kept k)
theorem Inv.laid(I:Inv X pins σ H s)(k:∀b u,s.heap.get? b=a5 u->h'.get? b=a5 u)(c:s.heap.objs.size<=a)(new:bF X.prog X.w (upd H a o) h' a o):
  Inv X pins σ (upd H a o) {s with heap:=h',toks:=t' }:=I.un (Un.laid k c (I.HI.fresh c)) (I.HI.laid k c new)
theorem Inv.write(I:Inv X pins σ H s)(mu:Og (H x))(a:e=x\/H e=a5 (.own x))(k:∀b u,b≠e->s.heap.get? b=a5 u->h'.get? b=a5 u)(c:∃u,h'.get? e=a5 u)
  (new:bF X.prog X.w (upd H x o) h' x o):Inv X pins σ (upd H x o) {s with heap:=h',toks:=t' }:=I.un (Un.write mu a k c) (I.HI.write mu a k c new)
theorem Inv.weak(I:Inv X pins σ H s)(hl:a.length=σ.length)(w:∀(i:Nat) v,a[i]?=a5 (a5 v)->σ[i]?=a5 (a5 v)):Inv X pins a H s :=
 ⟨I.ok,I.os,I.bare,I.base,let ⟨m,b,c⟩:=I.loc;⟨m,b,λi x v d e f=>c i x v d (w i v e) f⟩,I.cell,I.free,I.ID,I.pin,I.HI,hl.trans I.len⟩
theorem Inv.dP(I:Inv X pins σ H s)(h:∀p∈a,s.heap.get? p.1=a5 p.2/\H p.1=b6/\p.1≠X.env.locals/\p.1∉X.fs/\∀v,p.2.data≠.cell v):Inv X a σ H s :=
 ⟨I.ok,I.os,I.bare,I.base,I.loc,I.cell,I.free,I.ID,λp b=>(lk.mp b).elim (λz=>I.pin p (YX _ z)) (h p),I.HI,I.len⟩
theorem jW{N:List Str}(c:N.Nodup){i j:Nat}(a:N[i]?=a5 x)(b:N[j]?=a5 x):i=j:=by
 obtain⟨f,d⟩:=dV.mp a;obtain⟨g,e⟩:=dV.mp b;exact(Vj c).mp (d.trans e.symm)
theorem lX(I:Inv X pins σ H s)(hN:X.N.Nodup)(hi:X.N[i]?=a5 x)(l:Loc X.env.scope x)(r:RelV v u)
  (h:∀s',Inv X pins (σ.set i (a5 v)) H s'->(∃a,qs a s.heap s'.heap/\(a=X.env.locals\/X.env.cells.lookup x=a5 a))->Q () s') (hf:X.fn x=cb\/X.env.scope.names.lookup x=a5 .local:=by first|exact .inl rfl|exact .inr rfl|assumption):et M A (storeName X.env x u) Q E s:=by
 obtain⟨m,L,hl⟩:=id I.loc;have QH:(X.env.scope.kind==.class||(X.env.scope.kind==.module&&X.env.locals != X.env.globals))=cL:=by rw[I.ok.kind];rfl
 have TF:i < σ.length:=by rw[I.len];exact(dV.mp hi).1
 have O:=I.MT;have f:∀{a:hH} {h':JN},(∃o,s.heap.get? a=a5 o/\H a=b6)->qs a s.heap h'->IY X.prog X.w H h':=λ{a h'} ha hs b ob e=>by
  obtain⟨_,_,IK⟩:=ha;refine(I.HI b ob e).gA (λc D hc q=>(hs.2 c ?_).trans q) (λ_ q=>q) λ_ _ q=>q;rintro rfl;rcases hc with rfl|hc
  ·rw[IK]at e;cases e
  ·rw[IK]at hc;cases hc
 rcases l with hk|hk
 ·refine wpAny_storeName_local hk L (λh' PR hs=>?_) QH;obtain⟨oL,_,_,KR,_⟩:=id L;refine h _ ⟨I.ok,I.os,I.bare,⟨λb o e n B l=>?_,λb o e n B l=>?_,I.base.free,λb o e l=>?_,I.base.gJ,I.base.JE,I.base.JO⟩,⟨_,PR,λj y T g t Y=>?_⟩,λy c e=>?_,I.free,I.ID,λp hp=>?_,f ⟨oL,KR,I.free⟩ hs,by simpa using I.len⟩ ⟨_,hs,.inl rfl⟩
  ·exact(hs.2 b (hV (i9 (fx e) I.ok.above))).trans (I.base.keep b o e n B l)
  ·obtain⟨sl,g⟩:=I.base.slot b o e n B l;exact⟨sl,(hs.2 b (hV (i9 (fx e) I.ok.above))).trans g⟩
  ·obtain⟨o',g⟩:=I.base.there b o e l;exact⟨o',(hs.2 b (hV (i9 (fx e) I.ok.above))).trans g⟩
  ·by_cases C:j=i
   ·subst C;rw[hi]at g;cases g;rw[hQ TF]at t;cases t;exact⟨u,r,.inl ⟨hk,by simp⟩⟩
   ·rw[i6 (sx C)]at t;obtain⟨u',r',q⟩:=hl j y T g t Y;refine⟨u',r',?_⟩;rcases q with⟨k,e⟩|⟨k,c,e,z⟩
    ·refine .inl ⟨k,?_⟩;have:y≠x:=λe=>C (jW hN g (e▸hi));simp[this,e]
    ·exact .inr ⟨k,c,e,z.sameBut hs (O y c e)⟩
  ·obtain⟨D,z⟩:=I.cell y c e;exact⟨D,z.sameBut hs (O y c e)⟩
  ·obtain⟨e,n,G,nf,d⟩:=I.pin p hp;exact⟨(hs.2 p.1 G).trans e,n,G,nf,d⟩
 ·have Kk:X.fn x=cb:=by
   rcases hf with z|z
   ·exact z
   ·rw[z]at hk;cases hk
  obtain⟨c,hc⟩:=I.ok.has x (.inl hk);obtain⟨D,z⟩:=I.cell x c hc;refine wpAny_storeName_cell I.ok.kind hk hc z (λh' NH hs=>?_);obtain⟨oc,TH,QI⟩:=id z;refine h {s with heap:=h' } ⟨I.ok,I.os,I.bare,⟨λb o e n B l=>?_,λb o e n B l=>?_,I.base.free,λb o e l=>?_,I.base.gJ,I.base.JE,I.base.JO⟩,⟨m,L.sameBut hs (sx (O x c hc)),λj y T g t Y=>?_⟩,λy J e=>?_,I.free,I.ID,λp hp=>?_,f ⟨oc,TH,I.ID x c hc⟩ hs,by simpa using I.len⟩ ⟨c,hs,.inr hc⟩
  ·exact(hs.2 b (hV (i9 (fx e) (I.ok.Oi x c Kk hc)))).trans (I.base.keep b o e n B l)
  ·obtain⟨sl,g⟩:=I.base.slot b o e n B l;exact⟨sl,(hs.2 b (hV (i9 (fx e) (I.ok.Oi x c Kk hc)))).trans g⟩
  ·obtain⟨o',g⟩:=I.base.there b o e l;exact⟨o',(hs.2 b (hV (i9 (fx e) (I.ok.Oi x c Kk hc)))).trans g⟩
  ·by_cases C:j=i
   ·subst C;rw[hi]at g;cases g;rw[hQ TF]at t;cases t;exact⟨u,r,.inr ⟨.inl hk,c,hc,NH⟩⟩
   ·rw[i6 (sx C)]at t;obtain⟨u',r',q⟩:=hl j y T g t Y;refine⟨u',r',?_⟩;rcases q with q|⟨k,J,e,z'⟩
    ·exact .inl q
    ·refine .inr ⟨k,J,e,z'.sameBut hs ?_⟩;rintro rfl;exact C (jW hN g (I.ok.inj _ _ _ e hc▸hi))
  ·by_cases TJ:J=c
   ·subst TJ;exact⟨_,NH⟩
   ·obtain⟨w2,z2⟩:=I.cell y J e;exact⟨w2,z2.sameBut hs TJ⟩
  ·obtain⟨e,n,G,nf,d⟩:=I.pin p hp;refine⟨(hs.2 p.1 ?_).trans e,n,G,nf,d⟩;intro q;rw[q,TH]at e;have q':oc=p.2:=D5 e;exact d D (by rw[<-q'];exact QI)
theorem pG(I:Inv X pins σ H s)(a:X.N.Nodup)(hi:X.N[i]?=a5 x)(b:Loc X.env.scope x)(r:RelV v u)
  (h:∀s',Inv X pins (σ.set i (a5 v)) H s'->Q () s') (c:X.fn x=cb\/X.env.scope.names.lookup x=a5 .local:=by first|exact .inl rfl|exact .inr rfl|assumption):et M A (storeName X.env x u) Q E s :=
 lX I a hi b r (λs' d _=>h s' d) c
theorem Inv.Fo(I:Inv X pins σ H s)(ho:s'.os=s.os)(u:Un (KC X.stack) ch H H' s.heap s'.heap)(a:IY X.prog X.w H' s'.heap)(d:T' s'.gens)
  (f:∀b∈ch,(b∈X.ex\/X.s₀.heap.objs.size<=b)/\b≠X.env.locals/\(∀x c,X.env.cells.lookup x=a5 c->c≠b)/\∀p∈X.pn++pins,p.1≠b):Inv X pins σ H' s':=by
 obtain⟨h',g',d',t',o'⟩:=s';have e:o'=s.os:=ho;subst e;exact I.call (g':=g') (t':=t') (d':=d') u a d f
end
abbrev XK:=dt->Option hH->Hp->Prop
abbrev St:=List (Option V)
abbrev VK:=V->Hp->Prop
abbrev TE:=St->Hp->VK->Prop
abbrev TT:=St->Hp->(Bool->Hp->Prop)->Prop
abbrev TA:=St->Hp->(List V->Hp->Prop)->Prop
structure Ends where
 nx:St->Hp->Prop
 rt:VK
 bk:St->Hp->Prop:=λ_ _=>False
 ct:St->Hp->Prop:=λ_ _=>False
abbrev TS:=Ends->St->Hp->Prop
def EP(X:Cx)(pins:List (hH×Obj))(σ:St)(Q:VK)(u:dt)(s':gj):Prop:=∃v H',Inv X pins σ H' s'/\RelV v u/\Q v H'
def TP(X:Cx)(pins:List (hH×Obj))(σ:St)(Q:Bool->Hp->Prop)(b:Bool)(s':gj):Prop:=∃H',Inv X pins σ H' s'/\Q b H'
def AP(X:Cx)(pins:List (hH×Obj))(σ:St)(Q:List V->Hp->Prop)(us:List dt)(s':gj):Prop:=∃vs H',Inv X pins σ H' s'/\Vals vs us/\Q vs H'
def SP(X:Cx)(pins:List (hH×Obj))(D:Ends)(f:Flow)(s':gj):Prop :=
 match f with
 |.next=>∃a H',Inv X pins a H' s'/\D.nx a H'
 |.brk=>∃a H',Inv X pins a H' s'/\D.bk a H'
 |.cont=>∃a H',Inv X pins a H' s'/\D.ct a H'
 |.ret u=>∃v a H',Inv X pins a H' s'/\RelV v u/\D.rt v H'
def PE(X:Cx)(e:uv)(t:TE):Prop :=
 ∀(pins:List (hH×Obj)) (s:gj) (σ:St) (H:Hp) (Q:VK),Inv X pins σ H s->t σ H Q->et (hE X.prog X.w) X.A (H0 e X.env) (EP X pins σ Q) X.xe s
def PT(X:Cx)(e:uv)(t:TT):Prop :=
 ∀(pins:List (hH×Obj)) (s:gj) (σ:St) (H:Hp) (Q:Bool->Hp->Prop),Inv X pins σ H s->t σ H Q->et (hE X.prog X.w) X.A (isTrue e X.env (H0 e X.env)) (TP X pins σ Q) X.xe s
def PW(X:Cx)(e:uv)(t:TT):Prop :=
 ∀(a:Sem dt) (pins:List (hH×Obj)) (s:gj) (σ:St) (H:Hp) (Q:Bool->Hp->Prop),Inv X pins σ H s->t σ H Q->et (hE X.prog X.w) X.A (isTrue e X.env a) (TP X pins σ Q) X.xe s
theorem PW.pt(h:PW X e t):PT X e t:=h _
def PA(X:Cx)(es:List uv)(t:TA):Prop :=
 ∀(pos:Pos) (pins:List (hH×Obj)) (s:gj) (σ:St) (H:Hp) (Q:List V->Hp->Prop),Inv X pins σ H s->t σ H Q->et (hE X.prog X.w) X.A (Ó (Kj pos (js es X.env))) (AP X pins σ Q) X.xe s
def PS(X:Cx)(st:Qj)(t:TS):Prop :=
 ∀(pins:List (hH×Obj)) (s:gj) (σ:St) (H:Hp) (D:Ends),Inv X pins σ H s->t D σ H->et (hE X.prog X.w) X.A (exec st X.env) (SP X pins D) X.xe s
def Je(X:Cx)(st:List Qj)(t:TS):Prop :=
 ∀(pins:List (hH×Obj)) (s:gj) (σ:St) (H:Hp) (D:Ends),Inv X pins σ H s->t D σ H->et (hE X.prog X.w) X.A (execs st X.env) (SP X pins D) X.xe s
theorem HJ(h:et M A t Q E s)(b:∀a s,Q a s->Q' a s):et M A t Q' E s:=vu h b λ_ _ x=>x
section
def G6(i:Nat):TE:=λσ H Q=>∃v,σ[i]?=a5 (a5 v)/\Q v H
def tC(v:V):TE:=λ_ H Q=>Q v H
theorem cH(g:X.N[i]?=a5 x)(j:JY X.env.scope x)(b:(x==("__debug__":Str))=cL:=by decide)(k:(x==("__classdict__":Str))=cL:=by decide):PE X (.Name x pos) (G6 i):=by
 intro pins s σ H Q I h;obtain⟨v,e,h⟩:=h;obtain⟨m,n,hl⟩:=I.loc;obtain⟨u,r,l⟩:=hl i x v g e j;have a:EP X pins σ Q u s:=⟨v,H,I,r,h⟩
 rcases l with⟨hk,o⟩|⟨hk,c,d,f⟩
 ·exact Â (wpAny_loadName_local I.ok.kind hk n o a) b
 ·rcases hk with hk|hk
  ·exact Â (wpAny_loadName_cell I.ok.kind hk d f a) b
  ·exact Â (wpAny_loadName_free I.ok.kind hk d f a k) b
theorem w9:PE X (.Constant (.int i) j pos) (tC (.int i)):=λ_ _ _ H _ I h=>wpAny_Constant_int ⟨.int i,H,I.tok _,⟨_,rfl⟩,h⟩
theorem CI:PE X (.Constant (.bool b) j pos) (tC (.bl b)):=λ_ _ _ H _ I h=>Constant_bool ⟨.bl b,H,I,rfl,h⟩
theorem w_:PE X (.Constant .none j pos) (tC .HH):=λ_ _ _ H _ I h=>Constant_none ⟨.HH,H,I,rfl,h⟩
theorem xa:PE X (.Constant (.str x) j pos) (tC (.str x)):=λ_ _ _ H _ I h=>Calls.Constant_str ⟨.str x,H,I.tok _,⟨_,rfl⟩,h⟩
def Gl(X:Cx)(x:Str):Prop:=X.env.kindOf x=a5 .globalImplicit
theorem nL(I:Inv X pins σ H s)(a:Gl X x)(b:X.mg x=a5 u)(h:Q u s)
  (c:(x==("__debug__":Str))=cL:=by decide):et (hE X.prog X.w) X.A (H0 (.Name x pos) X.env) Q E s :=
 WN I.ok.kind a (Calls.loadGlobal_global (by rw[I.ok.glob];exact I.mod.glob.keeps I.bk) b h) c
theorem di(I:Inv X pins σ H s)(a:Gl X x)(b:X.mg x=b6)(c:D' x=a5 u)(h:Q u s)
  (d:x≠"__name__":=by decide) (e:(x==("__debug__":Str))=cL:=by decide):et (hE X.prog X.w) X.A (H0 (.Name x pos) X.env) Q E s:=by
 obtain⟨i,f,g⟩:=I.mod.blt;exact WN I.ok.kind a (Calls.loadGlobal_builtin (by rw[I.ok.glob];exact I.mod.glob.keeps I.bk) b (by rw[I.ok.blt];exact f.keeps I.bk) ((g x d).trans c) h) e
theorem Ar(a:Gl X x)(b:X.mg x=a5 u)(r:RelV v u)(c:(x==("__debug__":Str))=cL:=by decide):PE X (.Name x pos) (tC v) :=
 λ_ _ _ H _ I h=>nL I a b ⟨v,H,I,r,h⟩ c
theorem As(a:Gl X x)(b:X.mg x=b6)(c:D' x=a5 u)(r:RelV v u)(d:x≠"__name__":=by decide)(e:(x==("__debug__":Str))=cL:=by decide):PE X (.Name x pos) (tC v) :=
 λ_ _ _ H _ I h=>di I a b c ⟨v,H,I,r,h⟩ d e
def PC(X:Cx)(c:CmpOp)(a b:uv)(t:TE):Prop :=
 ∀(pins:List (hH×Obj)) (s:gj) (σ:St) (H:Hp) (Q:VK),Inv X pins σ H s->t σ H Q ->
  et (hE X.prog X.w) X.A (H0 a X.env) (λv d=>et (hE X.prog X.w) X.A (H0 b X.env) (λu e=>et (hE X.prog X.w) X.A (Mn c v u) (EP X pins σ Q) X.xe e) X.xe d) X.xe s
def tB(t:TE):TT:=λσ H Q=>t σ H λx a=>∃c,x=.bl c/\Q c a
theorem xb(h:PC X f a b t)(e:Q7 f b=cL:=by first|exact n _ (by decide) (by decide)|rfl):PT X (.Compare a [f] [b] pos) (tB t):=by
 intro pins s σ H Q I g;refine ZE (HJ (h pins s σ H _ I g) λv s1 e=>HJ e λu s2 i=>HJ i λc s3 ⟨x,j,k,l,m⟩=>?_) e;obtain⟨d,rfl,q⟩:=m;cases l;exact JH ⟨j,k,q⟩
def G7(t u:TT):TT:=λσ H Q=>t σ H λc a=>if c=cb then u σ a Q else Q cL a
def Vc(t u:TT):TT:=λσ H Q=>t σ H λc a=>if c=cb then Q cb a else u σ a Q
def G8(t:TT):TT:=λσ H Q=>t σ H λc a=>Q (!c) a
theorem Au(b:PT X a d):PW X (.BoolOp .And [a] pos) d:=by
 intro f pins s σ H Q I h;refine isTrue_and (HJ (b pins s σ H Q I h) λc s1 e=>?_);cases c with
 |true=>exact ý e
 |false=>exact e
theorem Dk(b:PT X a d):PW X (.BoolOp .Or [a] pos) d:=by
 intro f pins s σ H Q I h;refine isTrue_or (HJ (b pins s σ H Q I h) λc s1 e=>?_);cases c with
 |false=>exact isTrue_or_nil e
 |true=>exact e
theorem Dl(g:PT X a i)(j:PW X (.BoolOp .And (b::rest) pos) k):PW X (.BoolOp .And (a::b::rest) pos) (G7 i k):=by
 intro l pins s σ H Q I h;refine isTrue_and (HJ (g pins s σ H _ I h) λc s1 m=>?_);obtain⟨d,e,f⟩:=m;cases c with
 |true=>exact j l pins s1 σ d Q e f
 |false=>exact⟨d,e,f⟩
theorem Fp(g:PT X a i)(j:PW X (.BoolOp .Or (b::rest) pos) k):PW X (.BoolOp .Or (a::b::rest) pos) (Vc i k):=by
 intro l pins s σ H Q I h;refine isTrue_or (HJ (g pins s σ H _ I h) λc s1 m=>?_);obtain⟨d,e,f⟩:=m;cases c with
 |true=>exact⟨d,e,f⟩
 |false=>exact j l pins s1 σ d Q e f
theorem Dm(b:PT X a d):PT X (.UnaryOp .Not a pos) (G8 d):=by
 intro pins s σ H Q I h;exact isTrue_not (b pins s σ H (λc e=>Q (!c) e) I h)
def Fq(b d:TE):TE:=λσ H Q=>b σ H λx a=>∃c,x=.bl c/\if c=cb then d σ a Q else Q (.bl cL) a
def Fs(a:TE):TE:=λσ H Q=>a σ H λx b=>∃c,x=.bl c/\Q (.bl (!c)) b
theorem Dn(h:PE X a t):PE X (.BoolOp c [a] pos) t:=λpins s σ H Q I b=>BoolOp_one (h pins s σ H Q I b)
theorem Dp(g:PE X a i)(j:PE X (.BoolOp .And (b::rest) pos) k):PE X (.BoolOp .And (a::b::rest) pos) (Fq i k):=by
 intro pins s σ H Q I h;refine BoolOp_and (HJ (g pins s σ H _ I h) λv s1 l=>?_);obtain⟨x,e,f,m,d⟩:=l;obtain⟨c,rfl,d⟩:=d;cases m;refine JH ?_;cases c with
 |true=>exact j pins s1 σ e Q f d
 |false=>exact⟨.bl cL,e,f,rfl,d⟩
theorem Dq(d:PE X a e):PE X (.UnaryOp .Not a pos) (Fs e):=by
 intro pins s σ H Q I h;refine UnaryOp_ (HJ (d pins s σ H _ I h) λv s1 f=>?_);obtain⟨x,g,i,j,b⟩:=f;obtain⟨c,rfl,b⟩:=b;cases j;exact not_of (JH ⟨.bl (!c),g,i,rfl,b⟩)
def Vh(t:TT)(b d:TE):TE:=λσ H Q=>t σ H λc a=>if c=cb then b σ a Q else d σ a Q
theorem xc(i:PT X c j)(k:PE X a l)(m:PE X b n):PE X (.IfExp c a b pos) (Vh j l n):=by
 intro pins s σ H Q I h;refine wpAny_IfExp (HJ (i pins s σ H _ I h) λd s1 o=>?_);obtain⟨e,f,g⟩:=o;cases d with
 |true=>exact k pins s1 σ e Q f g
 |false=>exact m pins s1 σ e Q f g
end
def Ij(K:PySem.W.Frag)(H:Hp)(a:hH)(xs:List V):Prop :=
 Rd H a (.lst xs) \/
  ∃(o:Obj) (its:Array dt) (n:Nat),K.lookup a=a5 o/\o.cls=.type "list"/\o.dict=b6/\o.data=.seq its n/\its.size<=c6/\Vals xs its.toList
def Im(K:PySem.W.Frag)(H:Hp)(a:hH)(xs:List V):Prop :=
 Rd H a (.tup xs) \/
  ∃(o:Obj) (its:Array dt) (n:Nat),K.lookup a=a5 o/\o.cls=.type "tuple"/\o.data=.seq its n/\its.size<=c6/\Vals xs its.toList
noncomputable def G9:dt->Option V
 |.none=>a5 .HH
 |.bool b=>a5 (.bl b)
 |.int i _=>a5 (.int i)
 |.str x _=>a5 (.str x)
 |.bytes b _=>a5 (.PJ b)
 |.float b _=>a5 (.PK b)
 |.ref a=>a5 (.ref a)
 |.type n=>a5 (.ty n)
 |_=>b6
theorem RelV.abs(r:RelV x u):G9 u=a5 x:=by
 cases x with
 |HH=>cases r;rfl
 |bl _=>cases r;rfl
 |ref _=>cases r;rfl
 |ty _=>cases r;rfl
 |_=>obtain⟨t,rfl⟩:=r;rfl
theorem RelV.inj(r:RelV x u)(q:RelV y u):x=y:=D5 (r.abs.symm.trans q.abs)
theorem Vals.inj:∀{xs a:List V}{us:List dt},Vals xs us->Vals a us->xs=a
 |_,_,_,.nil,.nil=>rfl
 |_,_,_,.cons r t,.cons b t'=>by rw[r.inj b,Vals.inj t t']
section
theorem Ij.of{K:PySem.W.Frag}(h:H a=a5 (.lst xs)):Ij K H a xs:=.inl (.inl h)
theorem Im.of{K:PySem.W.Frag}(h:H a=a5 (.tup xs)):Im K H a xs:=.inl (.inl h)
theorem Inv.list(I:Inv X pins σ H s)(h:Ij X.K H a xs):∃its:List dt,Vals xs its/\PlainL s.heap a its.toArray/\xs.length<=c6:=by
 rcases h with h|⟨o,its,n,hk,b,c,hs,hz,r⟩
 ·obtain⟨z,its,n,r,e⟩:=h.ok I.HI;exact⟨its,r,⟨_,n,e,rfl,rfl,rfl⟩,z⟩
 ·refine⟨its.toList,r,⟨o,n,I.MS a o hk,b,c,by simpa using hs⟩,?_⟩;have e:=r.length;simp only[i2]at e;lia
theorem Inv.tuple(I:Inv X pins σ H s)(h:Im X.K H a xs):∃its:List dt,Vals xs its/\XY s.heap a its.toArray/\xs.length<=c6:=by
 rcases h with h|⟨o,its,n,hk,b,hs,hz,r⟩
 ·obtain⟨z,its,r,p⟩:=h.ok I.HI;exact⟨its,r,p,z⟩
 ·refine⟨its.toList,r,⟨o,I.MS a o hk,b,n,by simpa using hs⟩,?_⟩;have e:=r.length;simp only[i2]at e;lia
theorem Inv.pH(I:Inv X pins σ H s)(h:Ij X.K H a xs)(h':Ij X.K H a c):xs=c:=by
 obtain⟨its,r,⟨o,n,e,_,_,d⟩,_⟩:=I.list h;obtain⟨its',f,⟨o',i,b,_,_,d'⟩,_⟩:=I.list h';rw[e]at b;cases b;rw[d]at d';injection d' with g _
 have:its=its':=by simpa using Ą Yf g
 subst this;exact r.inj f
theorem Inv.lY(I:Inv X pins σ H s)(h:Im X.K H a xs)(h':Im X.K H a c):xs=c:=by
 obtain⟨its,r,⟨o,e,_,n,d⟩,_⟩:=I.tuple h;obtain⟨its',f,⟨o',b,_,i,d'⟩,_⟩:=I.tuple h';rw[e]at b;cases b;rw[d]at d';injection d' with g _
 have:its=its':=by simpa using Ą Yf g
 subst this;exact r.inj f
end
abbrev Cx.lF(X:Cx)(E:dt->gj->Prop):Cx:={X with xe:=E}
abbrev Cx.NI(X:Cx):Cx:=X.lF λ_ _=>False
theorem Cx.Ok.lF{X:Cx}(a:X.Ok)(E:dt->gj->Prop):(X.lF E).Ok :=
 ⟨a.mod,a.kind,a.glob,a.blt,a.above,a.inj,a.has,a.Oi,a.hd,a.frames,a.PN,a.TB,a.bs,a.Mp,a.Lg,a.LV,a.jU,a.NG⟩
theorem Cx.Ok.iM{X:Cx}(a:(X.lF E).Ok):X.Ok :=
 ⟨a.mod,a.kind,a.glob,a.blt,a.above,a.inj,a.has,a.Oi,a.hd,a.frames,a.PN,a.TB,a.bs,a.Mp,a.Lg,a.LV,a.jU,a.NG⟩
section
theorem Inv.lF(I:Inv X pins σ H s)(E:dt->gj->Prop):Inv (X.lF E) pins σ H s:=⟨I.ok.lF E,I.os,I.bare,I.base,I.loc,I.cell,I.free,I.ID,I.pin,I.HI,I.len⟩
theorem Inv.iM(I:Inv (X.lF E) pins σ H s):Inv X pins σ H s:=⟨I.ok.iM,I.os,I.bare,I.base,I.loc,I.cell,I.free,I.ID,I.pin,I.HI,I.len⟩
theorem SP.iM(h:SP (X.lF E) pins D f s'):SP X pins D f s':=by
 cases f with
 |ret u=>obtain⟨v,a,H',I,r,q⟩:=h;exact⟨v,a,H',I.iM,r,q⟩
 |_=>obtain⟨a,H',I,q⟩:=h;exact⟨a,H',I.iM,q⟩
theorem Je.NI{st:List Qj}(h:Je X.NI st t):Je X st t:=λpins s σ H D I a =>
 vu (h pins s σ H D (I.lF _) a) (λ_ _ q=>q.iM) λ_ _ z=>NC z
end
section
variable{X:Cx}{st:Qj}{rest:List Qj}{t u:TS}{e:uv}{te:TE}{pos:Pos}
def CJ:TS:=λD σ H=>D.nx σ H
def G_(t u:TS):TS:=λD σ H=>t {D with nx:=u D} σ H
theorem Av:Je X [] CJ:=λ_ _ σ H _ I h=>X6 ⟨σ,H,I,h⟩
theorem xf(a:PS X st t)(b:Je X rest u):Je X (st::rest) (G_ t u):=by
 intro pins s σ H D I h;refine wpAny_execs_cons (HJ (a pins s σ H {D with nx:=u D} I h) λf s1 q=>?_);cases f with
 |next =>
  obtain⟨c,H',d,q⟩:=q;exact b pins s1 c H' D d q
 |_=>exact q
def Dr:TS:=λD σ H=>D.bk σ H
def Ft:TS:=λD σ H=>D.ct σ H
theorem Aw:PS X (.Pass pos) CJ:=λ_ _ σ H _ I h=>wpAny_Pass ⟨σ,H,I,h⟩
theorem xg:PS X (.Break pos) Dr:=λ_ _ σ H _ I h=>wpAny_Break ⟨σ,H,I,h⟩
theorem pI:PS X (.Continue pos) Ft:=λ_ _ σ H _ I h=>wpAny_Continue ⟨σ,H,I,h⟩
theorem Inv.quiet(I:Inv X pins σ H s):interactive X.env=cL:=by simp[interactive,I.ok.kind]
def Fu(te:TE):TS:=λD σ H=>te σ H λ_ a=>D.nx σ a
theorem jG(a:PE X e te)(hs:QO e b6 pos.line X.env=pure cL:=by rfl):PS X (.Expr e pos) (Fu te):=by
 intro pins s σ H D I h;exact wpAny_Expr_any (HJ (a pins s σ H _ I h) λv s1 ⟨x,b,c,f,d⟩=>⟨σ,b,c,d⟩) I.quiet hs
def Ha(te:TE):TS:=λD σ H=>te σ H D.rt
theorem Ds(a:PE X e te):PS X (.Return (a5 e) pos) (Ha te):=by
 intro pins s σ H D I h;exact wpAny_Return_some (HJ (a pins s σ H _ I h) λv s1 ⟨x,b,c,d,f⟩=>⟨x,σ,b,c,d,f⟩)
def Fv:TS:=λD _ H=>D.rt .HH H
theorem Ax:PS X (.Return b6 pos) Fv:=λ_ _ σ H _ I h=>wpAny_Return_none ⟨.HH,σ,H,I,rfl,h⟩
def Hb(c:TT)(t u:TS):TS:=λD σ H=>c σ H λb a=>if b=cb then t D σ a else u D σ a
theorem Fw(j:PT X c k)(l:Je X a t)(m:Je X b u):PS X (.If c a b pos) (Hb k t u):=by
 intro pins s σ H D I h;refine wpAny_If (HJ (j pins s σ H _ I h) λd s1 n=>?_);obtain⟨f,g,i⟩:=n;cases d with
 |true=>exact l pins s1 σ f D g i
 |false=>exact m pins s1 σ f D g i
end
abbrev TG:=V->St->Hp->(St->Hp->Prop)->Prop
abbrev NJ:=List V->St->Hp->(St->Hp->Prop)->Prop
def PG(X:Cx)(a:uv)(t:TG):Prop :=
 ∀(pins:List (hH×Obj)) (s:gj) (σ:St) (H:Hp) (v:V) (u:dt) (Q:St->Hp->Prop),Inv X pins σ H s->RelV v u->t v σ H Q ->
  et (hE X.prog X.w) X.A (R5 a X.env u) (λ_ s'=>∃b H',Inv X pins b H' s'/\Q b H') X.xe s
def Oo(X:Cx)(ts:List uv)(t:NJ):Prop :=
 ∀(pins:List (hH×Obj)) (s:gj) (σ:St) (H:Hp) (vs:List V) (us:List dt) (Q:St->Hp->Prop),Inv X pins σ H s->Vals vs us->t vs σ H Q ->
  et (hE X.prog X.w) X.A (assignInOrder ((Pt ts X.env).map (·.2)) us) (λ_ s'=>∃a H',Inv X pins a H' s'/\Q a H') X.xe s
abbrev Dt:=V->V->V->Hp->(Hp->Prop)->Prop
def nM(X:Cx)(t:Dt):Prop :=
 ∀(pins:List (hH×Obj)) (s:gj) (σ:St) (H:Hp) (o i v:V) (a b u:dt) (Q:Hp->Prop),Inv X pins σ H s->RelV o a->RelV i b->RelV v u->t o i v H Q ->
  et (hE X.prog X.w) X.A (Tu a b u) (λ_ s'=>∃H',Inv X pins σ H' s'/\Q H') X.xe s
abbrev QK:=V->V->Hp->VK->Prop
def PU(X:Cx)(a:ú)(t:QK):Prop :=
 ∀(pins:List (hH×Obj)) (s:gj) (σ:St) (H:Hp) (x y:V) (v u:dt) (Q:VK),Inv X pins σ H s->RelV x v->RelV y u->t x y H Q ->
  et (hE X.prog X.w) X.A (inplaceOp a v u) (EP X pins σ Q) X.xe s
section
def tI(i:Nat):TG:=λv σ H Q=>Q (σ.set i (a5 v)) H
theorem tJ(a:X.N.Nodup)(hi:X.N[i]?=a5 x)(b:Loc X.env.scope x)(c:X.fn x=cb\/X.env.scope.names.lookup x=a5 .local:=by first|exact .inl rfl|exact .inr rfl|assumption):PG X (.Name x pos) (tI i):=by
 intro pins s σ H v u Q I r h;exact Ò (pG I a hi b r (λs' d=>⟨_,H,d,h⟩) c)
noncomputable def Fx:NJ:=λvs σ H Q=>vs=[]/\Q σ H
noncomputable def CK(t:TG)(u:NJ):NJ:=λvs σ H Q=>∃v r,vs=v::r/\t v σ H λa H'=>u r a H' Q
theorem Ay:Oo X [] Fx:=by
 intro pins s σ H vs us Q I r h;obtain⟨e,h⟩:=h;subst e;cases r;exact assignInOrder_nil ⟨σ,H,I,h⟩
theorem xh(a:PG X e t)(b:Oo X es u)
  (hs:(Pt (e::es) X.env).map (·.2)=R5 e X.env::(Pt es X.env).map (·.2):=by rfl):Oo X (e::es) (CK t u):=by
 intro pins s σ H vs us Q I r h;obtain⟨v,l,c,h⟩:=h;subst c;cases r with
 |cons r d =>
  rw[hs];refine assignInOrder_cons (HJ (a pins s σ H _ _ _ I r h) λ_ s1 f=>?_);obtain⟨g,i,j,k⟩:=f;exact b pins s1 g i _ _ Q j d k
def Hc(K:PySem.W.Frag)(n:Nat)(t:NJ):TG:=λv σ H Q=>∃a xs,v=.ref a/\Im K H a xs/\xs.length=n/\t xs σ H Q
theorem Du(d:X.calm=cb)(h:Oo X es t)
  (f:(Pt es X.env).length=n:=by rfl) (g:(Pt es X.env).findIdx? (·.1)=b6:=by rfl):PG X (.Tuple es k pos) (Hc X.K n t):=by
 intro pins s σ H v u Q I r c;obtain⟨a,xs,i,j,hl,c⟩:=c;subst i;cases r;obtain⟨its,rv,l,hz⟩:=I.tuple j;refine assign_Tuple_tuple (I.ok.hd d) l (by simp[f,<-hl,rv.length]) g λh' m=>?_;have p:Inv X pins σ H {s with heap:=h' }:=I.kept (t':=s.toks) λb o e=>m b o (hV (fx e)) e;exact h pins _ σ H xs _ Q p (by simpa using rv) c
def Hd(a b:TE)(t:Dt):TG:=λv σ H Q=>a σ H λo c=>b σ c λi d=>t o i v d λe=>Q σ e
theorem xi(ho:PE X o c)(hi:PE X i d)(hs:nM X t)
  (e:∀v,R5 (.Subscript o i pos) X.env v=(do
   let a <-MR [v] (H0 o X.env)
   let b <-MR [v,a] (H0 i X.env)
   Yg pos
   MR [v,a,b] (Tu a b v)
   V_ [v,a,b] []):=by intro _;rfl):PG X (.Subscript o i pos) (Hd c d t):=by
 intro pins s σ H v u Q I r h;rw[e];refine bD (ri (HJ (ho pins s σ H _ I h) λa s1 f=>?_));obtain⟨x,g,j,k,l⟩:=f;refine bD (ri (HJ (hi pins s1 σ g _ j l) λb s2 m=>?_));obtain⟨y,n,p,q,w⟩:=m;refine bD (Y1 (bD (ri (HJ (hs pins s2 σ n x y v a b u _ p k q r w) λ_ s3 z=>?_))));obtain⟨A,B,C⟩:=z;exact wpAny_release ⟨σ,A,B,C⟩
def Dv(a:TE)(g:TG):TS:=λD σ H=>a σ H λx b=>g x σ b D.nx
theorem rj(b:PE X e c)(d:PG X a g)(hs:Q6 [a] e pos.line X.env=pure cL:=by rfl)(f:Vf [a] e X.env=pure b6:=by rfl)
  (i:(Pt [a] X.env).map (·.2)=[R5 a X.env]:=by rfl):PS X (.Assign [a] e pos) (Dv c g):=by
 intro pins s σ H D I h;refine wpAny_Assign_stores (HJ (b pins s σ H _ I h) λv s1 ⟨x,j,k,l,m⟩=>?_) hs f;rw[i];exact HJ (d pins s1 σ j x v _ k l m) λ_ s2 q=>q
theorem xj(b:X.N.Nodup)(hi:X.N[i]?=a5 x)(c:Loc X.env.scope x)(d:PE X e f)(hs:QO e (a5 (.Name x a)) pos.line X.env=pure cL:=by rfl)(g:X.fn x=cb\/X.env.scope.names.lookup x=a5 .local:=by first|exact .inl rfl|exact .inr rfl|assumption):
  PS X (.Assign [.Name x a] e pos) (Dv f (tI i)):=by
 intro pins s σ H D I h;refine wpAny_Assign_Name (HJ (d pins s σ H _ I h) λv s1 ⟨y,j,k,l,m⟩=>?_) hs;exact pG k b hi c l (λs2 n=>⟨_,j,n,m⟩) g
def Fy(a b c:TE)(d:V->V->Hp->VK->Prop)(e:QK)(f:Dt):TS:=λD σ H=>a σ H λo g=>b σ g λi h=>d o i h λx j=>c σ j λy k=>e x y k λz l=>f o i z l λm=>D.nx σ m
def Fz(X:Cx)(t:V->V->Hp->VK->Prop):Prop :=
 ∀(pins:List (hH×Obj)) (s:gj) (σ:St) (H:Hp) (o i:V) (a b:dt) (Q:VK),Inv X pins σ H s->RelV o a->RelV i b->t o i H Q ->
  et (hE X.prog X.w) X.A (Wh a b) (EP X pins σ Q) X.xe s
theorem Az(ho:PE X o k)(hi:PE X i l)(m:Fz X n)(p:PE X e q)(r:PU X t u)(hs:nM X w)
  (x:∀a b new,ø i a b new=(do MR [new,a,b] (Tu a b new);V_ [new,a,b] [];pure .next):=by intros;rfl):PS X (.AugAssign (.Subscript o i Vn) t e pos) (Fy k l q n u w):=by
 intro pins s σ H D I h;refine wpAny_AugAssign_SubscriptAny (HJ (ho pins s σ H _ I h) λa s1 ⟨d,y,z,f,A⟩=>?_) x;refine HJ (hi pins s1 σ y _ z A) λb s2 B=>?_;obtain⟨g,C,G,j,J⟩:=B;refine HJ (m pins s2 σ C d g a b _ G f j J) λc s3 L=>?_;obtain⟨N,O,Q,T,Y⟩:=L;refine HJ (p pins s3 σ O _ Q Y) λv s4 QP=>?_;obtain⟨x4,H4,I4,r4,q4⟩:=QP;refine HJ (r pins s4 σ H4 N x4 c v _ I4 T r4 q4) λnew s5 QQ=>?_;obtain⟨x5,H5,I5,r5,q5⟩:=QQ;exact HJ (hs pins s5 σ H5 d g x5 a b new _ I5 f j r5 q5) λ_ s6 ⟨H6,I6,q6⟩=>⟨σ,H6,I6,q6⟩
noncomputable def QR(f:Int->Int->Int):QK:=λx y H Q=>∃i j,x=.int i/\y=.int j/\Q (.int (f i j)) H
theorem Dw:PU X .Add (QR λi j=>i+j):=by
 intro pins s σ H x y v u Q I a b h;obtain⟨i,j,c,d,q⟩:=h;subst c;subst d;obtain⟨t,rfl⟩:=a;obtain⟨t',rfl⟩:=b;exact iadd_int ⟨.int _,H,I.tok _,⟨_,rfl⟩,q⟩
theorem Dy:PU X .Sub (QR λi j=>i - j):=by
 intro pins s σ H x y v u Q I a b h;obtain⟨i,j,c,d,q⟩:=h;subst c;subst d;obtain⟨t,rfl⟩:=a;obtain⟨t',rfl⟩:=b;exact isub_int ⟨.int _,H,I.tok _,⟨_,rfl⟩,q⟩
end
section
def Dz(c:TT)(f:TS):TS:=λD σ H=>∃W:Nat->St->Hp->Prop,(∃m,W m σ H)/\∀m σ H,W m σ H ->
 c σ H λb a=>if b=cb then ∃N:St->Hp->Prop,(∀d H',N d H'->∃e,e<m/\W e d H')/\f {D with nx:=N,ct:=N,bk:=D.nx} σ a else D.nx σ a
theorem xk(q:XJ (hE X.prog X.w) X.A X.env X.xe)(y:PT X c z)(B:Je X body C):PS X (.While c body [] pos) (Dz z C):=by
 intro pins s σ H D I h;obtain⟨W,⟨m0,G⟩,a⟩:=h;refine wpAny_While (codeAny_whileLoop (λn s'=>∃r H',Inv X pins r H' s'/\W n r H') ?_ m0 ⟨σ,H,I,G⟩);rintro n s1 ⟨g,t,J,L⟩;refine Nz q (HJ (y pins s1 g t _ J (a n g t L)) λb s2 O=>?_);obtain⟨u,v,i⟩:=O;cases b with
 |true =>
  obtain⟨N,x,i⟩:=i;rw[ÿ rfl];refine Nz q (HJ (B pins s2 g u _ v i) λf s3 j=>?_);cases f with
  |next =>
   obtain⟨d,e,k,l⟩:=j;obtain⟨m,o,p⟩:=x d e l;exact⟨m,o,d,e,k,p⟩
  |cont =>
   obtain⟨d,e,k,l⟩:=j;obtain⟨m,o,p⟩:=x d e l;exact⟨m,o,d,e,k,p⟩
  |_=>exact j
 |false =>
  rw[ā q0];exact X6 ⟨g,u,v,i⟩
end
structure It where
 go:Nat->Hp->Prop
 PV:Nat->Hp->V->Hp->Prop
 stop:Nat->Hp->Prop
def gV(X:Cx)(pins:List (hH×Obj))(H:Hp)(b:hH):Prop :=
 H b=b6/\b≠X.env.locals/\b∉X.fs/\(b∈X.ex\/X.s₀.heap.objs.size<=b)/\(∀x c,X.env.cells.lookup x=a5 c->c≠b)/\∀p∈X.pn++pins,p.1≠b
theorem Inv.xl(I:Inv X pins σ H s)(a:s.heap.objs.size<=b)(d:H' b=b6):gV X pins H' b:=by
 refine⟨d,Jd (i9 I.lt a),I.Dj a,.inr (Jj I.sz a),λx c e z=>?_,λp f z=>?_⟩
 ·obtain⟨v,q⟩:=I.cell x c e;exact absurd (i9 q.lt (by rw[z];exact a)) (tr _)
 ·exact absurd (i9 (fx (I.pin p f).1) (by rw[z];exact a)) (tr _)
structure Turn(P:H8)(w:Kp)(K:PySem.W.Frag)(tg:uv)(J:It)(fp:List hH)(it:hH)(tn:Nat->JN->Prop):Prop where
 mem:it∈fp
 obj:∀i h,tn i h->∀b∈fp,∃o,h.get? b=a5 o/\∀v,o.data≠.cell v
 keep:∀i h h',tn i h->(∀b∈fp,∀o,h.get? b=a5 o->h'.get? b=a5 o)->tn i h'
 item:∀(X:Cx),X.prog=P->X.w=w->X.K=K->X.calm=cb->∀(i:Nat) (pins:List (hH×Obj)) (s:gj) (σ:St) (H:Hp) (E:dt->gj->Prop),Inv X pins σ H s->(∀b∈fp,gV X pins H b)->tn i s.heap->J.go i H ->
  et (hE P w) X.A (Pp (.ref it)) (λr s1=>∃u,r=a5 u /\
   et (hE P w) X.A (Ud tg (.ref it) u) (λ_ s2=>∃x H',Inv X pins σ H' s2/\RelV x u/\J.PV i H x H'/\tn (i+1) s2.heap/\∀b∈fp,H' b=b6) E s1) E s
 done:∀(X:Cx),X.prog=P->X.w=w->X.K=K->X.calm=cb->∀(i:Nat) (pins:List (hH×Obj)) (s:gj) (σ:St) (H:Hp) (E:dt->gj->Prop),Inv X pins σ H s->(∀b∈fp,gV X pins H b)->tn i s.heap->J.stop i H ->
  et (hE P w) X.A (Pp (.ref it)) (λr s1=>r=b6/\Inv X pins σ H s1) E s
 self:∀(A:MY) (i:Nat) (s:gj) (Q:dt->gj->Prop) (E:dt->gj->Prop),tn i s.heap->Q (.ref it) s->et (hE P w) A (XD (.ref it)) Q E s
abbrev TI:=St->Hp->(It->Hp->Prop)->Prop
def TK(X:Cx)(pins:List (hH×Obj))(σ:St)(d:uv)(R:It->Hp->Prop)(e:dt)(s2:gj):Prop :=
 ∃(it:hH) (a:List hH) (c:Nat->JN->Prop) (J:It) (H':Hp),e=.ref it/\Inv X pins σ H' s2/\Turn X.prog X.w X.K d J a it c/\c 0 s2.heap/\(∀b∈a,gV X pins H' b)/\R J H'
def PI(X:Cx)(b a:uv)(c:TI):Prop :=
 ∀(pins:List (hH×Obj)) (s:gj) (σ:St) (H:Hp) (R:It->Hp->Prop),Inv X pins σ H s->c σ H R ->
  et (hE X.prog X.w) X.A (H0 a X.env) (λv s1=>et (hE X.prog X.w) X.A (XD v) (TK X pins σ b R) X.xe s1) X.xe s
theorem xm(ho:s.heap.get? it=a5 o)(b:o.cls=.type n)(c:o.data=.fields vs)
    (d:["enumerate","zip","dict_itemiterator","dict_reverseitemiterator","odict_iterator","itertools.zip_longest","itertools.pairwise"].contains n=cL) (a:Q () s):et M A (Ud e (.ref it) u) Q E s:=by
  unfold Ud;cases e<;>first
    | exact c2 a
    | (cases u<;>first
        | exact c2 a
        | (refine bD (Á ho ?_)
           rw[b,c];show et M A (if (["enumerate","zip","dict_itemiterator","dict_reverseitemiterator","odict_iterator","itertools.zip_longest","itertools.pairwise"].contains n&&vs[0]?==a5 (ti _))=cb then _ else _) Q E s;rw[ā (by intro h;rw[d,Xz]at h;cases h)];exact c2 a))
noncomputable def QT(K:PySem.W.Frag)(a:hH):It :=
 ⟨λi H=>∃xs x,Ij K H a xs/\xs[i]?=a5 x,λi H x H'=>H'=H/\∀xs,Ij K H a xs->xs[i]?=a5 x,λi H=>∃xs,Ij K H a xs/\xs.length<=i⟩
noncomputable def QU(K:PySem.W.Frag)(a:hH):It :=
 ⟨λi H=>∃xs x,Im K H a xs/\xs[i]?=a5 x,λi H x H'=>H'=H/\∀xs,Im K H a xs->xs[i]?=a5 x,λi H=>∃xs,Im K H a xs/\xs.length<=i⟩
noncomputable def PY(lo:Int)(n:Nat):It:=⟨λi _=>i<n,λi H x H'=>H'=H/\x=.int (lo+i),λi _=>n<=i⟩
theorem vG{K:PySem.W.Frag}(a it:hH):Turn P w K Y (QT K a) [it] it (λi h=>h.IsListIter it a i) where
 mem:=by simp
 obj:=λi h st b f=>by
  have e:b=it:=by simpa using f
  subst e;obtain⟨o,e,c,d⟩:=st;exact⟨o,e,λv z=>by rw[d]at z;cases z⟩
 keep:=λi h h' st k=>st.at λo e=>k it (by simp) o e
 item:=by
  intro X l m n D i pins s σ H E I g st q;subst l m n;obtain⟨xs,x,j,r⟩:=q;obtain⟨its,rv,p,hz⟩:=I.list j;obtain⟨u,G,J⟩:=rv.get r;obtain⟨t,y,L,A,B,C⟩:=g it (by simp);refine wpAny_pyNext_list_item st p.isList (x:=u) (by simpa using G) λh' st' N=>?_;have O:Inv X pins σ H {s with heap:=h' }:=I.turned (t':=s.toks) (λb o f e=>(N.2 b f).trans e) t y A B C;obtain⟨o,e,c,d⟩:=id st';exact⟨u,rfl,xm (s:={s with heap:=h' }) e c d (by decide) ⟨x,H,O,J,⟨rfl,λys Q=>by rw[I.pH Q j];exact r⟩,st',λb f=>(g b f).1⟩⟩
 done:=by
  intro X l m n D i pins s σ H E I g st q;subst l m n;obtain⟨xs,j,r⟩:=q;obtain⟨its,rv,p,hz⟩:=I.list j;obtain⟨t,y,L,A,B,C⟩:=g it (by simp);have hl:=rv.length;exact wpAny_pyNext_list_end (I.ok.hd D) st p.isList (by simp;lia) λh' T=>⟨rfl,I.turned (t':=s.toks) (λb o f e=>T b o f e) t y A B C⟩
 self:=λ_ _ _ _ _ st h=>wpAny_pyIter_listiter st h
theorem rm{K:PySem.W.Frag}(a it:hH):Turn P w K Y (QU K a) [it] it (λi h=>h.IsTupleIter it a i) where
 mem:=by simp
 obj:=λi h st b f=>by
  have e:b=it:=by simpa using f
  subst e;obtain⟨o,e,c,d⟩:=st;exact⟨o,e,λv z=>by rw[d]at z;cases z⟩
 keep:=λi h h' st k=>st.at λo e=>k it (by simp) o e
 item:=by
  intro X l m n D i pins s σ H E I g st q;subst l m n;obtain⟨xs,x,j,r⟩:=q;obtain⟨its,rv,p,hz⟩:=I.tuple j;obtain⟨u,G,J⟩:=rv.get r;obtain⟨t,y,L,A,B,C⟩:=g it (by simp);refine wpAny_pyNext_tuple_item st (show s.heap.IsTuple a its.toArray from p) (x:=u) (by simpa using G) λh' st' N=>?_;have O:Inv X pins σ H {s with heap:=h' }:=I.turned (t':=s.toks) (λb o f e=>(N.2 b f).trans e) t y A B C;obtain⟨o,e,c,d⟩:=id st';exact⟨u,rfl,xm (s:={s with heap:=h' }) e c d (by decide) ⟨x,H,O,J,⟨rfl,λys Q=>by rw[I.lY Q j];exact r⟩,st',λb f=>(g b f).1⟩⟩
 done:=by
  intro X l m n D i pins s σ H E I g st q;subst l m n;obtain⟨xs,j,r⟩:=q;obtain⟨its,rv,p,hz⟩:=I.tuple j;obtain⟨t,y,L,A,B,C⟩:=g it (by simp);have hl:=rv.length;exact wpAny_pyNext_tuple_end (I.ok.hd D) st (show s.heap.IsTuple a its.toArray from p) (by simp;lia) λh' T=>⟨rfl,I.turned (t':=s.toks) (λb o f e=>T b o f e) t y A B C⟩
 self:=λ_ _ _ _ _ st h=>wpAny_pyIter_tupleiter st h
theorem rn{K:PySem.W.Frag}(it:hH)(lo:Int)(n:Nat):Turn P w K J (PY lo n) [it] it (λi h=>IsRangeIter h it (lo+(i:Nat) * 1) ((n:Int) - (i:Nat)) 1) where
 mem:=by simp
 obj:=λi h st b a=>by
  have e:b=it:=by simpa using a
  subst e;exact⟨_,st,λv z=>by
   have y:Th _=X' v:=z;cases y⟩
 keep:=λi h h' st k=>k it (by simp) _ st
 item:=by
  intro X d f g j i pins s σ H E I c st l;subst d f g;obtain⟨m,p,A,q,r,u⟩:=c it (by simp);have W:=Walks.range (prog:=X.prog) (w:=X.w) (I.ok.hd j) it lo 1 n;refine W.item i s _ _ l st λv h' x B st' C=>?_;obtain⟨t,rfl⟩:=B;have D:Inv X pins σ H {s with heap:=h',toks:=x}:=I.turned (λb o a e=>C b o (by simpa using a) e) m p q r u;refine⟨_,rfl,xm (s:={s with heap:=h',toks:=x}) (n:="range_iterator") st' rfl rfl (by decide) ⟨.int (lo+i),H,D,⟨t,?_⟩,⟨rfl,rfl⟩,st',λb a=>(c b a).1⟩⟩;rw[Int.mul_one]
 done:=by
  intro X d f g j i pins s σ H E I c st l;subst d f g;obtain⟨m,p,A,q,r,u⟩:=c it (by simp);exact wpAny_pyNext_range_end (I.ok.hd j) st (by have:n<=i:=l;lia) λh' G=>⟨rfl,I.turned (t':=s.toks) (λb o a e=>G b o a e) m p q r u⟩
 self:=λ_ _ _ _ _ st h=>wpAny_pyIter_rangeiter st h
section
def FA(K:PySem.W.Frag)(c:TE):TI:=λσ H R=>c σ H λx b=>∃a,x=.ref a/\(∃xs,Ij K b a xs)/\R (QT K a) b
def He(K:PySem.W.Frag)(c:TE):TI:=λσ H R=>c σ H λx b=>∃a,x=.ref a/\(∃xs,Im K b a xs)/\R (QU K a) b
theorem AA(hl:PE X l d):PI X n l (FA X.K d):=by
 intro pins s σ H R I h;refine HJ (hl pins s σ H _ I h) λv s1 f=>?_;obtain⟨x,g,c,i,j⟩:=f;obtain⟨a,e,⟨xs,k⟩,q⟩:=j;subst e;cases i;obtain⟨its,rv,p,hz⟩:=c.list k;refine Sw p.isList ?_;refine⟨s1.heap.objs.size,[s1.heap.objs.size],_,_,g,rfl,c.kept (t':=s1.toks) λb o e=>cK _ e,vG a _,⟨_,eH _ rfl,rfl,rfl⟩,λb m=>?_,q⟩;have e:b=s1.heap.objs.size:=by simpa using m
 subst e;exact c.xl (hW _) (c.HI.fresh (hW _))
theorem DA(hl:PE X l d):PI X n l (He X.K d):=by
 intro pins s σ H R I h;refine HJ (hl pins s σ H _ I h) λv s1 f=>?_;obtain⟨x,g,c,i,j⟩:=f;obtain⟨a,e,⟨xs,k⟩,q⟩:=j;subst e;cases i;obtain⟨its,rv,p,hz⟩:=c.tuple k;refine O' (show s1.heap.IsTuple a its.toArray from p) ?_;refine⟨s1.heap.objs.size,[s1.heap.objs.size],_,_,g,rfl,c.kept (t':=s1.toks) λb o e=>cK _ e,rm a _,⟨_,eH _ rfl,rfl,rfl⟩,λb m=>?_,q⟩;have e:b=s1.heap.objs.size:=by simpa using m
 subst e;exact c.xl (hW _) (c.HI.fresh (hW _))
theorem xn{lo hi:Int}(I:Inv X pins σ H s)(d:-(2 ^ 62)<=lo)(f:lo<2 ^ 62)(g:-(2 ^ 62)<=hi)(h:hi<2 ^ 62)
  (q:R (PY lo (hi - lo).toNat) H):et (hE X.prog X.w) X.A (XD (.ref s.heap.objs.size)) (TK X pins σ l R) E {s with heap:=s.heap.push {cls:=.type "range",data:=.fields #[.int lo t,.int hi u,.int 1 v]},toks:=c}:=by
 refine wpAny_pyIter_range (IsRange.new ..) (small_one d f g h) ?_;have a:Inv X pins σ H {s with heap:=s.heap.push {cls:=.type "range",data:=.fields #[.int lo t,.int hi u,.int 1 v]},toks:=c}:=I.kept λb o e=>cK _ e;refine⟨(s.heap.push {cls:=.type "range",data:=.fields #[.int lo t,.int hi u,.int 1 v]}).objs.size,[(s.heap.push {cls:=.type "range",data:=.fields #[.int lo t,.int hi u,.int 1 v]}).objs.size],_,_,H,rfl,
  a.kept (t':=c) λb o e=>cK _ e,rn _ lo (hi - lo).toNat,?_,λb i=>?_,q⟩
 ·have j:lo+((0:Nat):Int) * 1=lo:=by simp
  have k:(((hi - lo).toNat:Nat):Int) - ((0:Nat):Int)=ä lo hi 1:=by rw[rangeSize_one];split<;>lia
  show IsRangeIter _ _ (lo+((0:Nat):Int) * 1) ((((hi - lo).toNat:Nat):Int) - ((0:Nat):Int)) 1;rw[j,k];exact eH _ rfl
 ·have e:b=(s.heap.push {cls:=.type "range",data:=.fields #[.int lo t,.int hi u,.int 1 v]}).objs.size:=by simpa using i
  subst e;exact a.xl (hW _) (a.HI.fresh (hW _))
def FC(a:TA):TI:=λσ H R=>a σ H λvs b=>∃j:Int,vs=[.int j]/\-(2 ^ 62)<=j/\j<2 ^ 62/\R (PY 0 j.toNat) b
theorem vH(c:Gl X "range")(d:X.mg "range"=b6)(f:PA X [a] g)(hs:js [a] X.env=[(cL,H0 a X.env)]:=by rfl):PI X n (.Call (.Name "range" p) [a] [] pos) (FC g):=by
 intro pins s σ H R I h;refine Call_ (di I c d boot_range (MZ (HJ (f pos pins s σ H _ I h) λus s1 ⟨vs,o,i,k,b⟩=>?_) hs rfl));obtain⟨j,e,b,l,q⟩:=b;subst e;cases k with
 |cons r m =>
  cases m;obtain⟨t,rfl⟩:=r;exact call_range_1 (xn i ⋯ ⋯ b l (by simpa using q))
def Hf(c:TI)(g:TG)(d:TS):TS:=λD σ H=>c σ H λJ e=>∃W:Nat->Nat->St->Hp->Prop,(∃m,W 0 m σ e)/\∀i m σ H,W i m σ H ->
 (J.stop i H/\D.nx σ H)\/(J.go i H/\∃N:St->Hp->Prop,(∀a H',N a H'->∃b,b<m/\W (i+1) b a H')/\∀x H',J.PV i H x H'->g x σ H' λf h=>d {D with nx:=N,ct:=N,bk:=D.nx} f h)
noncomputable def jX(a:List hH)(h:JN):List (hH×Obj):=a.filterMap λb=>(h.get? b).map λo=>(b,o)
theorem eO(a:b∈c)(e:h.get? b=a5 o):(b,o)∈jX c h:=Zf.mpr ⟨b,a,by rw[e];rfl⟩
theorem vI(a:p∈jX c h):p.1∈c/\h.get? p.1=a5 p.2:=by
 obtain⟨b,d,e⟩:=Zf.mp a;cases q:h.get? b with
 |none=>rw[q]at e;cases e
 |some o =>
  rw[q]at e;have f:(b,o)=p:=D5 e;subst f;exact⟨d,q⟩
theorem Inv.pinned(I:Inv X pins σ H s)(g:∀b∈a,gV X pins H b)(ho:∀b∈a,∃o,s.heap.get? b=a5 o/\∀v,o.data≠.cell v):Inv X (pins++jX a s.heap) σ H s :=
 I.dP λp h=>(lk.mp h).elim (λz=>I.pin p (o3 _ z)) λz=>by
  obtain⟨c,e⟩:=vI z;obtain⟨i,j,k,_⟩:=g p.1 c;obtain⟨o,f,d⟩:=ho p.1 c;rw[e]at f;cases f;exact⟨e,i,j,k,d⟩
theorem Inv.jY(I:Inv X (pins++pl) σ H s):Inv X pins σ H s:=I.dP λp a=>I.pin p (o3 _ (YX _ a))
theorem DB(q:XJ (hE X.prog X.w) X.A X.env X.xe)(hc:X.calm=cb)(hi:PI X tg l wi)(hg:PG X tg g)(a:Je X body tb)
  (hs:∀x,MU l X.env x=pure x:=by intro _;rfl):PS X (.For tg l body [] pos) (Hf wi g tb):=by
 intro pins s σ H D I h;refine wpAny_For (HJ (hi pins s σ H _ I h) λv s1 h1=>HJ h1 λPX s2 h2=>?_) hs;obtain⟨it,t,tn,J,H2,e,I2,T,st2,f2,W,⟨m0,w0⟩,y⟩:=h2;subst e;have L:∀{H':Hp},(∀b∈t,H' b=b6)->∀b∈t,gV X pins H' b:=λhn b a=>⟨hn b a,(f2 b a).2⟩
 refine codeAny_forLoop_any (λn s'=>∃i z H',Inv X pins z H' s'/\tn i s'.heap/\(∀b∈t,H' b=b6)/\W i n z H') ?_ m0 ⟨0,σ,H2,I2,st2,λb a=>(f2 b a).1,w0⟩;rintro n s3 ⟨i,B,G,I3,Il,Oq,w3⟩;rcases y i n B G w3 with⟨C,qn⟩|⟨go,N,hN,ZP⟩
 ·refine Nz q (HJ (T.done X rfl rfl rfl hc i pins s3 B G X.xe I3 (L Oq) Il C) λr s4 QX=>?_);obtain⟨O,I4⟩:=QX;subst O;exact X6 ⟨B,G,I4,qn⟩
 ·refine Nz q (HJ (T.item X rfl rfl rfl hc i pins s3 B G X.xe I3 (L Oq) Il go) λr s4 QY=>?_);obtain⟨u,O,h4⟩:=QY;subst O;refine Nz q (HJ h4 λ_ s5 QZ=>?_);obtain⟨x,H5,I5,r5,y5,Q,Q0⟩:=QZ;have Q1:=I5.pinned (L Q0) (T.obj _ _ Q);refine Nz q (HJ (hg _ s5 B H5 x u _ Q1 r5 (ZP x H5 y5)) λ_ s6 Q3=>?_);obtain⟨σ6,H6,I6,q6⟩:=Q3;refine Nz q (HJ (a _ s6 σ6 H6 _ I6 q6) λf Y p=>?_);have Ö:∀{c:St} {j:Hp},Inv X (pins++jX t s5.heap) c j Y->N c j->∃m,m<n/\∃i z H',Inv X pins z H' Y/\tn i Y.heap/\(∀b∈t,H' b=b6)/\W i m z H':=λ{c j} k n7=>by
   obtain⟨m',hm,w7⟩:=hN c j n7;refine⟨m',hm,i+1,c,j,k.jY,T.keep _ _ _ Q λb a o e=>(k.pin (b,o) (o3 _ (o3 _ (eO a e)))).1,λb a=>?_,w7⟩;obtain⟨o,e,d⟩:=T.obj _ _ Q b a;exact(k.pin (b,o) (o3 _ (o3 _ (eO a e)))).2.1
  cases f with
  |brk=>obtain⟨c,j,k,p⟩:=p;exact⟨c,j,k.jY,p⟩
  |ret v=>obtain⟨x7,c,j,k,r7,p⟩:=p;exact⟨x7,c,j,k.jY,r7,p⟩
  |_=>obtain⟨c,j,k,n7⟩:=p;exact Ö k n7
end
abbrev R2:=V->V->Hp->VK->Prop
def JB(X:Cx)(f:dt->dt->Sem dt)(r:R2):Prop :=
 ∀(pins:List (hH×Obj)) (s:gj) (σ:St) (H:Hp) (x y:V) (v u:dt) (Q:VK),Inv X pins σ H s->RelV x v->RelV y u->r x y H Q ->
  et (hE X.prog X.w) X.A (f v u) (EP X pins σ Q) X.xe s
def d_(X:Cx)(f:dt)(r:List V->Hp->VK->Prop):Prop :=
 ∀(pins:List (hH×Obj)) (s:gj) (σ:St) (H:Hp) (xs:List V) (us:List dt) (Q:VK),Inv X pins σ H s->Vals xs us->r xs H Q ->
  et (hE X.prog X.w) X.A (Mu f us) (EP X pins σ Q) X.xe s
def Hg(X:Cx)(r:V->Hp->(Bool->Hp->Prop)->Prop):Prop :=
 ∀(pins:List (hH×Obj)) (s:gj) (σ:St) (H:Hp) (x:V) (v:dt) (Q:Bool->Hp->Prop),Inv X pins σ H s->RelV x v->r x H Q ->
  et (hE X.prog X.w) X.A (ó v) (TP X pins σ Q) X.xe s
noncomputable def rI(C:Int->Int->Prop)(g:Int->Int->V):R2:=λx y H Q=>∃i j,x=.int i/\y=.int j/\C i j/\Q (g i j) H
noncomputable def Ms(g:Int->Int->V):R2:=λx y H Q=>∃i j,x=.int i/\y=.int j/\Q (g i j) H
section
theorem PZ{g:Int->Int->Int}
  (à:∀(i j:Int) (t u:Tok) (s:gj) (Q:dt->gj->Prop) (E:dt->gj->Prop),C i j->Q (.int (g i j) s.toks) {s with toks:=s.toks+1}->et (hE X.prog X.w) X.A (f (.int i t) (.int j u)) Q E s) :
  JB X f (rI C λi j=>.int (g i j)):=by
 intro pins s σ H x y v u Q I a b h;obtain⟨i,j,rfl,rfl,c,q⟩:=h;obtain⟨t,rfl⟩:=a;obtain⟨t',rfl⟩:=b;exact à i j t t' s _ _ c ⟨.int (g i j),H,I.tok _,⟨_,rfl⟩,q⟩
theorem FD{g:Int->Int->Int}
  (à:∀(i j:Int) (t u:Tok) (s:gj) (Q:dt->gj->Prop) (E:dt->gj->Prop),Q (.int (g i j) s.toks) {s with toks:=s.toks+1}->et (hE X.prog X.w) X.A (f (.int i t) (.int j u)) Q E s) :
  JB X f (Ms λi j=>.int (g i j)):=by
 intro pins s σ H x y v u Q I a b h;obtain⟨i,j,rfl,rfl,q⟩:=h;obtain⟨t,rfl⟩:=a;obtain⟨t',rfl⟩:=b;exact à i j t t' s _ _ ⟨.int (g i j),H,I.tok _,⟨_,rfl⟩,q⟩
theorem AB{g:Int->Int->Bool}
  (à:∀(i j:Int) (t u:Tok) (s:gj) (Q:dt->gj->Prop) (E:dt->gj->Prop),Q (.bool (g i j)) s->et (hE X.prog X.w) X.A (f (.int i t) (.int j u)) Q E s) :
  JB X f (Ms λi j=>.bl (g i j)):=by
 intro pins s σ H x y v u Q I a b h;obtain⟨i,j,rfl,rfl,q⟩:=h;obtain⟨t,rfl⟩:=a;obtain⟨t',rfl⟩:=b;exact à i j t t' s _ _ ⟨.bl (g i j),H,I,rfl,q⟩
def Hh(i j:Int):Prop:=0<j/\j<1073741824
def Hi(i j:Int):Prop:=0<=j/\j<=1000000/\i.natAbs<2 ^ 64
def DC(i j:Int):Prop:=(-(2 ^ 64)<i/\i<2 ^ 64)\/(-(2 ^ 64)<j/\j<2 ^ 64)
theorem DC.ok(h:DC i j):IntMulOk i j:=by
 rcases h with⟨a,b⟩|⟨a,b⟩
 ·exact .of_left (intBits_le_64 a b)
 ·exact .of_right (intBits_le_64 a b)
theorem bW:JB X (Ow .Add) (Ms λi j=>.int (i+j)):=FD λ_ _ _ _ _ _ _ q=>add_int q
theorem jZ:JB X (Ow .Sub) (Ms λi j=>.int (i - j)):=FD λ_ _ _ _ _ _ _ q=>sub_int q
theorem j3:JB X (Ow .Mult) (rI DC λi j=>.int (i * j)):=PZ λ_ _ _ _ _ _ _ a q=>mul_int q a.ok
theorem AD:JB X (Ow .FloorDiv) (rI Hh λi j=>.int (i / j)):=PZ λi j _ _ _ _ _ a q=>by
 have b:(0:Int)<j:=a.1;have c:j<1073741824:=a.2;exact floordiv_int ⋯ (by rw[Int.fdiv_eq_ediv_of_nonneg i ⋯];exact q) (.inl (PyProof.noPylong_small ⋯))
theorem dZ:JB X (Ow .Mod) (rI (λ_ j=>0<j) λi j=>.int (i % j)):=PZ λi j _ _ _ _ _ a q=>by
 have b:(0:Int)<j:=a;exact mod_int' ⋯ (by rw[Int.fmod_eq_emod_of_nonneg i ⋯];exact q)
theorem nN:JB X (Ow .Pow) (rI Hi λi j=>.int (i ^ j.toNat)):=PZ λ_ _ _ _ _ _ _ a q=>pow_int_small a.1 a.2.1 a.2.2 q
end
section
theorem nO(I:Inv X pins σ H s)(q:Q (.bl k) H)(e:k=k'):EP X pins σ Q (.bool k') s:=by
 subst e;exact⟨.bl k,H,I,rfl,q⟩
theorem FE:JB X (Mn .Lt) (Ms λi j=>.bl (df (i<j))):=AB λ_ _ _ _ _ _ _ q=>lt_int q
theorem FF:JB X (Mn .LtE) (Ms λi j=>.bl (df (i<=j))):=AB λ_ _ _ _ _ _ _ q=>le_int q
theorem FG:JB X (Mn .Gt) (Ms λi j=>.bl (df (j<i))):=AB λ_ _ _ _ _ _ _ q=>gt_int q
theorem FH:JB X (Mn .GtE) (Ms λi j=>.bl (df (j<=i))):=AB λ_ _ _ _ _ _ _ q=>ge_int q
theorem DE:JB X (Mn .Is) (λx y H Q=>y=.HH/\Q (.bl (df (x=.HH))) H):=by
 intro pins s σ H x y v u Q I a b h;obtain⟨rfl,q⟩:=h;cases b;refine is_none_gen (nO I q ?_);cases x<;>first
  |(cases a;rfl)
  |(obtain⟨t,rfl⟩:=a;rfl)
theorem AE:JB X (Mn .IsNot) (λx y H Q=>y=.HH/\Q (.bl (!df (x=.HH))) H):=by
 intro pins s σ H x y v u Q I a b h;obtain⟨rfl,q⟩:=h;cases b;refine isnot_none_gen (nO I q ?_);cases x<;>first
  |(cases a;rfl)
  |(obtain⟨t,rfl⟩:=a;rfl)
def FI(K:PySem.W.Frag)(x:V)(H:Hp)(k:Bool):Prop :=
 match x with
 |.HH=>k=cL
 |.bl b=>k=b
 |.int i=>k=(i != 0)
 |.str y=>y.length<=c6/\k=((y.length:Int) != 0)
 |.PJ y=>y.size<=c6/\k=((y.size:Int) != 0)
 |.ref p=>(∃xs,Ij K H p xs/\k=!xs.isEmpty)\/(∃xs,Im K H p xs/\k=!xs.isEmpty)\/∃kvs,H p=a5 (.dK kvs)/\k=!kvs.isEmpty
 |_=>False
theorem rp(r:KV kvs vs):(!vs.isEmpty)=!kvs.isEmpty:=by
 cases r<;>rfl
theorem j4(r:Vals xs its):(!its.toArray.isEmpty)=!xs.isEmpty:=by
 cases r<;>simp
theorem eQ:(c6:Nat)<2 ^ 63:=by rw[sizeLine_eq];decide
theorem DF:Hg X (λx H Q=>∃k,FI X.K x H k/\Q k H):=by
 intro pins s σ H x v Q I d h;obtain⟨k,e,q⟩:=h;have hl:=eQ;have hs:c6=16777216:=sizeLine_eq;cases x with
 |HH =>
  cases d;have a:k=cL:=e;subst a;exact truthy_none ⟨H,I,q⟩
 |bl b =>
  cases d;have a:k=b:=e;subst a;exact JH ⟨H,I,q⟩
 |int i =>
  obtain⟨t,rfl⟩:=d;have a:k=(i != 0):=e;subst a;exact PySem.P.truthy_int ⟨H,I,q⟩
 |str y =>
  obtain⟨t,rfl⟩:=d;obtain⟨g,a⟩:y.length<=c6/\k=((y.length:Int) != 0):=e;subst a;exact PySem.P.truthy_str ⋯ ⟨H,I.tok _,q⟩
 |PJ y =>
  obtain⟨t,rfl⟩:=d;obtain⟨g,a⟩:y.size<=c6/\k=((y.size:Int) != 0):=e;subst a;exact PySem.W.truthy_bytes ⋯ ⟨H,I.tok _,q⟩
 |ref p =>
  cases d;have a:(∃xs,Ij X.K H p xs/\k=!xs.isEmpty)\/(∃xs,Im X.K H p xs/\k=!xs.isEmpty)\/∃kvs,H p=a5 (.dK kvs)/\k=!kvs.isEmpty:=e;rcases a with⟨xs,f,a⟩|⟨xs,f,a⟩|⟨kvs,f,a⟩
  ·subst a;obtain⟨its,r,pl,hz⟩:=I.list f;have c:=r.length;exact wpAny_truthy_list pl.isList (by simp only[hU];lia) ⟨H,I.tok _,by rw[j4 r];exact q⟩
  ·subst a;obtain⟨its,r,pl,hz⟩:=I.tuple f;have c:=r.length;exact truthy_tuple pl (by simp only[hU];lia) ⟨H,I.tok _,by rw[j4 r];exact q⟩
  ·subst a;obtain⟨hz,j,vs,r,m⟩:kvs.length<=c6/\(p==Nt)=cL/\∃vs,KV kvs vs/\s.heap.DictOf (aG X.prog X.w) p vs:=I.HI p _ f;have c:kvs.length=vs.length:=Paired.length r;exact wpAny_truthy_dict j m ⋯ ⟨H,I.tok _,by rw[rp r];exact q⟩
 |_=>exact(show False from e).elim
theorem xo(c:PE X a d)(e:∀b,isTrue a X.env b=(do let v <-b;Yg a.pos;MR [v] (ó v))):
  PT X a (λσ H Q=>d σ H λx H'=>∃k,FI X.K x H' k/\Q k H'):=by
 intro pins s σ H Q I h;exact isTrue_plain (HJ (c pins s σ H _ I h) λv s1 ⟨x,f,g,i,j⟩=>DF pins s1 σ f x v Q g i j) (e _)
theorem rq:JB X (Ow .Add) (λx y H Q=>∃i j,x=.str i/\y=.str j/\i.length+j.length<=c6/\Q (.str (i++j)) H):=by
 intro pins s σ H x y v u Q I a b h;obtain⟨i,j,rfl,rfl,hz,q⟩:=h;obtain⟨t,rfl⟩:=a;obtain⟨t',rfl⟩:=b;exact add_str (λt' c=>⟨.str (i++j),H,I.tok _,⟨_,rfl⟩,q⟩) hz
theorem vals1(r:Vals [x] us):∃u,us=[u]/\RelV x u:=by
 cases r with
 |cons a b=>cases b;exact⟨_,rfl,a⟩
theorem vals2(r:Vals [x,y] us):∃u a,us=[u,a]/\RelV x u/\RelV y a:=by
 cases r with
 |cons b c =>
  cases c with
  |cons d e=>cases e;exact⟨_,_,rfl,b,d⟩
theorem vJ(b:X.calm=cb):d_ X (.builtin "max") (λxs H Q=>∃i j,xs=[.int i,.int j]/\Q (.int (if j>i then j else i)) H):=by
 intro pins s σ H xs us Q I r h;obtain⟨i,j,rfl,q⟩:=h;obtain⟨u,c,rfl,⟨t,rfl⟩,⟨t',rfl⟩⟩:=vals2 r;refine max_two_ints (I.ok.hd b) λh' d k=>⟨_,H,I.kept k,?_,q⟩
 by_cases a:j>i
 ·rw[ÿ a,ÿ a];exact⟨_,rfl⟩
 ·rw[ā a,ā a];exact⟨_,rfl⟩
theorem vK(b:X.calm=cb):d_ X (.builtin "min") (λxs H Q=>∃i j,xs=[.int i,.int j]/\Q (.int (if j<i then j else i)) H):=by
 intro pins s σ H xs us Q I r h;obtain⟨i,j,rfl,q⟩:=h;obtain⟨u,c,rfl,⟨t,rfl⟩,⟨t',rfl⟩⟩:=vals2 r;refine min_two_ints (I.ok.hd b) λh' d k=>⟨_,H,I.kept k,?_,q⟩
 by_cases a:j<i
 ·rw[ÿ a,ÿ a];exact⟨_,rfl⟩
 ·rw[ā a,ā a];exact⟨_,rfl⟩
theorem nP:d_ X (.type "str") (λxs H Q=>∃i,xs=[.int i]/\i.natAbs.log2<1920/\Q (.str (SU i)) H):=by
 intro pins s σ H xs us Q I r h;obtain⟨i,rfl,hz,q⟩:=h;obtain⟨u,rfl,t,rfl⟩:=vals1 r;exact PySem.P.str_of_int hz ⟨.str _,H,I.tok _,⟨_,rfl⟩,q⟩
end
section
end
theorem jy.some_of(r:jy (a5 v) o):∃u,o=a5 u/\RelV v u:=by
 cases o with
 |none=>exact(show False from r).elim
 |some u=>exact⟨u,rfl,r⟩
section
end
structure Vo(K:PySem.W.Frag)(C:hH):Prop where
 pg:PySem.W.plainGet K C r6=cb
 hd:PySem.W.hasDictIn K C=cb
 po:PySem.W.plainOver K C=cb
 sa:PySem.W.findIn K (.ref C) "__setattr__"=a5 (a5 (.builtin "object.__setattr__"))
section
end
section
end
section
inductive j5(K:PySem.W.Frag)(H:Hp):V->dt->Prop where
 |HH:j5 K H .HH (.type "NoneType")
 |bl (x:Bool):j5 K H (.bl x) (.type "bool")
 |int (i:Int):j5 K H (.int i) (.type "int")
 |str (x:Str):j5 K H (.str x) (.type "str")
 |PK (x:UInt64):j5 K H (.PK x) (.type "float")
 |lst {a:hH} {xs:List V} (e:H a=a5 (.lst xs)):j5 K H (.ref a) (.type "list")
 |Jq {a:hH} {o:Obj} {xs:List V} (e:H a=a5 (.Jq o (.lst xs))):j5 K H (.ref a) (.type "list")
 |tup {a:hH} {xs:List V} (e:H a=a5 (.tup xs)):j5 K H (.ref a) (.type "tuple")
 |dK {a:hH} {kvs:List (Key×V)} (e:H a=a5 (.dK kvs)):j5 K H (.ref a) (.type "dict")
 |dT {a:hH} {kvs:List (List Key×V)} (e:H a=a5 (.dT kvs)):j5 K H (.ref a) (.type "dict")
 |ins {a C dx:hH} {fs:List (Str×V)} (e:H a=a5 (.ins C dx fs)) (cl:Vo K C) (ha:PySem.W.findIn K (.ref C) "__class__"=a5 (a5 (.builtin "object.__class__")))
   (hn:PySem.W.specialIn K (.builtin "object.__class__") "__get__"=a5 (a5 (.builtin "getset_descriptor.__get__"))) (NK:PySem.W.takesIn K (.builtin "object.__class__")=a5 cb)
   (hm:PySem.W.mroIn K C (.type "object")=a5 cb):j5 K H (.ref a) (.ref C)
end
structure fX(k:Nat)(A:MY):Prop where
 hd:A.handled=b6
 dp:A.depth+3 * k+5<õ
 un:A.units+16 * k+200<Ml
 gd:A.guards=a5 []
theorem fX.deeper(r:fX (k+1) A)(env:Env):fX k (A.deeper env) :=
 ⟨r.hd,by have:=r.dp;show A.depth+1+3 * k+5 < _;lia,by have:=r.un;show A.units+3+16 * k+200 < _;lia,r.gd⟩
theorem fX.depth(r:fX k A):A.depth<õ:=by have:=r.dp;lia
def Hj:TA:=λ_ H Q=>Q [] H
def FJ(a:TE)(b:TA):TA:=λσ H Q=>a σ H λx c=>b σ c λxs d=>Q (x::xs) d
section
theorem iN:PA X [] Hj:=λ_ _ _ _ H Q I h=>RL ⟨[],H,I,.nil,h⟩
theorem eR(a:PE X e b)(c:PA X es t)(hs:js (e::es) X.env=(cL,H0 e X.env)::js es X.env:=by rfl):PA X (e::es) (FJ b t):=by
 intro pos pins s σ H Q I h;rw[hs];show et _ _ (Ó ((cL,H0 e X.env)::Kj pos (js es X.env))) _ _ s;refine ON (HJ (a pins s σ H _ I h) λu s1 d=>?_);obtain⟨x,f,g,i,j⟩:=d;exact HJ (c pos pins s1 σ f _ g j) λus s2 ⟨xs,k,l,m,n⟩=>⟨x::xs,k,l,.cons i m,n⟩
end
abbrev Sp:=List V->Hp->VK->XK->Prop
abbrev NM:=List Env->Hp->gj->XK->dt->gj->Prop
structure AF(P:H8)(w:Kp)(K:PySem.W.Frag)(mg:Str->Option dt)(base:JN)(A:MY)(outer:List Env)(s:gj)(H:Hp):Prop where
 frames:A.frames=a5 outer
 mod:Mod K mg base
 bs:∀b o,base.get? b=a5 o->s.heap.get? b=a5 o/\H b=b6
 Mp:base.objs.size<=s.heap.objs.size
 jU:s.heap.FunFrames base outer
 NG:∀b∈KC outer,H b=b6
 HI:IY P w H s.heap
 bare:T' s.gens
def CE(outer:List Env)(P:H8)(w:Kp)(H:Hp)(s:gj)(Q:VK)(u:dt)(s':gj):Prop :=
 ∃v H',s'.os=s.os/\T' s'.gens/\Un (KC outer) [] H H' s.heap s'.heap/\IY P w H' s'.heap/\RelV v u/\Q v H'
def CR(CX:NM)(outer:List Env)(P:H8)(w:Kp)(H:Hp)(s:gj)(Q:VK)(E:XK)(r:Result)(s':gj):Prop :=
 match r with
 |.ok (.ret u)=>CE outer P w H s Q u s'
 |.ok _=>False
 |.error e=>CX outer H s E e s'
structure j6(P:H8)(w:Kp)(K:PySem.W.Frag)(mg:Str->Option dt)(base:JN)(CX:NM)(k:Nat)(f:hH)(fd:R7)(ps:List Str)(sp:Sp):Prop where
 len:∀vs H Q E,sp vs H Q E->vs.length=ps.length
 run:∀(A:MY) (outer:List Env) (s:gj) (H:Hp) (args:Args) (us:List dt) (vs:List V) (Q:VK) (E:XK),fX k A->AF P w K mg base A outer s H->Zp s fd args (ps.zip us)->Vals vs us->sp vs H Q E ->
  NF (hE P w) A (.call (.ref f) args) (CR CX outer P w H s Q E) s
section
theorem Inv.Hk(I:Inv X pins σ H s):AF X.prog X.w X.K X.mg X.base X.A X.stack s H :=
 ⟨I.ok.frames,I.ok.mod,I.bs,Jj I.ok.Mp I.sz,I.stack,I.tH,I.HI,I.bare⟩
theorem Inv.after(I:Inv X pins σ H s)(h:CE X.stack X.prog X.w H s Q u s'):EP X pins σ Q u s':=by
 obtain⟨v,H',os,a,c,e,r,q⟩:=h;obtain⟨f,g,d,t,i⟩:=s';obtain rfl:i=s.os:=os;exact⟨v,H',I.call (h':=f) (g':=g) (d':=d) (t':=t) (ch:=[]) c e a (λb z=>absurd z (by simp)),r,q⟩
end
def Binds(K:PySem.W.Frag)(b:R7)(ps:List Str)(a:List dt):Prop :=
 ∀(s:gj) (us:List dt),K.In s.heap->(us++a).length=ps.length->Zp s b ⟨us,[]⟩ (ps.zip (us++a))
theorem Binds.all{K:PySem.W.Frag}(h:∀us:List dt,us.length=ps.length->ZS a ⟨us,[]⟩=pure (ps.zip us)):Binds K a ps []:=λs us _ hl=>by
 rw[uk]at hl ⊢;exact .of_eq (h us hl)
def Passes(CX:NM)(X:Cx)(E:XK):Prop:=∀(pins:List (hH×Obj)) (σ:St) (H:Hp) (s:gj) (e:dt) (s':gj),Inv X pins σ H s->CX X.stack H s E e s'->X.xe e s'
section
theorem xp(F:j6 X.prog X.w X.K X.mg X.base CX k f g ps sp)(i:fX k X.A)(j:Binds X.K g ps a)(l:Vals b a)(m:Passes CX X E)
  (I:Inv X pins σ H s) (r:Vals vs us) (h:sp (vs++b) H Q E):et (hE X.prog X.w) X.A (Mu (.ref f) us) (EP X pins σ Q) X.xe s:=by
 have d:Vals (vs++b) (us++a):=r.append l;have hl:(us++a).length=ps.length:=by rw[<-d.length];exact F.len _ _ _ _ h
 refine wpAny_call (Tx (F.run X.A X.stack s H ⟨us,[]⟩ (us++a) (vs++b) Q E i I.Hk (j s us I.MS hl) d h) λr s' c=>?_);cases r with
 |error e=>exact m pins σ H s e s' I c
 |ok n =>
  cases n with
  |ret u=>exact I.after c
  |_=>exact NC c
end
section
end
structure dQ(N P:List Str)(sc:NA):Prop where
 kind:sc.kind=.function
 co:sc.isCoroutine=cL
 gen:sc.isGenerator=cL
 nd:N.Nodup
 pre:N.take P.length=P
 par:∀x∈P,sc.names.lookup x=a5 .local\/sc.names.lookup x=a5 .cell
 MX:∀y∈sc.names,y.2≠.free
theorem lZ{kindOf:Str->Option OC}:∀{a:List (Str×dt)}{m:Str->Option dt},(∀v,(x,v)∉a)->Zb kindOf a m x=m x
 |[],_,_=>rfl
 |(n,v)::r,m,h=>by
  unfold Zb;rw[lZ λw b=>h w (ux _ b)];split
  ·have:x≠n:=by rintro rfl;exact h v qP
   simp[this]
  ·rfl
theorem l8{kindOf:Str->Option OC}:∀{a:List (Str×dt)}{m:Str->Option dt},(∀v,(x,v)∉a)->Zc kindOf a m x=m x
 |[],_,_=>rfl
 |(n,v)::r,m,h=>by
  unfold Zc;rw[l8 λw b=>h w (ux _ b)];split
  ·rfl
  ·have:x≠n:=by rintro rfl;exact h v qP
   simp[this]
theorem l9{kindOf:Str->Option OC}:∀{P:List Str}{vs:List dt}{i:Nat}{m:Str->Option dt},P.Nodup->P[i]?=a5 x->vs[i]?=a5 v->kindOf x=a5 .local ->
  Zb kindOf (P.zip vs) m x=a5 v
 |[],_,_,_,_,h,_,_=>by simp at h
 |_::_,[],_,_,_,_,h,_=>by simp at h
 |p::P,w::vs,0,m,c,a,b,hk=>by
  simp at a b;subst a;subst b;show Zb kindOf ((p,w)::P.zip vs) m p=_;unfold Zb;rw[lZ λv d=>(mA.mp c).1 (QL d).1,ÿ hk];simp
 |p::P,w::vs,i+1,m,c,a,b,hk=>by
  show Zb kindOf ((p,w)::P.zip vs) m x=_;unfold Zb;exact l9 (i:=i) (mA.mp c).2 (by simpa using a) (by simpa using b) hk
theorem l_{kindOf:Str->Option OC}:∀{P:List Str}{vs:List dt}{i:Nat}{m:Str->Option dt},P.Nodup->P[i]?=a5 x->vs[i]?=a5 v->kindOf x≠a5 .local ->
  Zc kindOf (P.zip vs) m x=a5 v
 |[],_,_,_,_,h,_,_=>by simp at h
 |_::_,[],_,_,_,_,h,_=>by simp at h
 |p::P,w::vs,0,m,c,a,b,hk=>by
  simp at a b;subst a;subst b;show Zc kindOf ((p,w)::P.zip vs) m p=_;unfold Zc;rw[l8 λv d=>(mA.mp c).1 (QL d).1,ā hk];simp
 |p::P,w::vs,i+1,m,c,a,b,hk=>by
  show Zc kindOf ((p,w)::P.zip vs) m x=_;unfold Zc;exact l_ (i:=i) (mA.mp c).2 (by simpa using a) (by simpa using b) hk
noncomputable def start(N:List Str)(vs:List V):St:=vs.map a5++kj (N.length - vs.length) b6
noncomputable def pJ(CX:NM)(P:H8)(w:Kp)(K:PySem.W.Frag)(mg:Str->Option dt)(base:JN)(N:List Str)(a:Str)(scope:NA)(f:hH)(b:dt)(A:MY)(outer:List Env)(s:gj)(H:Hp)(E:XK):Cx where
 prog:=P
 w:=w
 K:=K
 mg:=mg
 base:=base
 A:=A.deeper (T_ a scope s.heap.objs.size f b)
 N:=N
 s₀:=s
 H₀:=H
 env:=T_ a scope s.heap.objs.size f b
 outer:=outer
 stack:=T_ a scope s.heap.objs.size f b::outer
 ex:=[]
 calm:=cb
 fn:=λ_=>cb
 pn:=[]
 xe:=λe s'=>et (hE P w) (A.deeper (T_ a scope s.heap.objs.size f b)) (leaving (T_ a scope s.heap.objs.size f b) e) (λ_ c=>CX outer H s E e c) (λd c=>CX outer H s E d c) s'
theorem pK{a:NA}(h:a.names.lookup x=a5 .cell):∃c,(ã n a.names []).lookup x=a5 c:=by
 have q:=PySem.W.cellsFrom_some a.names n [] (.inl h);exact RM.mp q
theorem vL{K:PySem.W.Frag}
  (S:dQ N ps scope) (D:A.handled=b6) (j:AF P w K mg base A outer s H) (hl:vs.length=ps.length) (r:Vals vs us)
  (x:InCallC s s.heap.objs.size (Zb (T_ g scope s.heap.objs.size f o).kindOf (ps.zip us) λ_=>b6) (ã (s.heap.objs.size+1) scope.names []) (Zc (T_ g scope s.heap.objs.size f o).kindOf (ps.zip us) λ_=>b6) s1) :
  Inv (pJ CX P w K mg base N g scope f o A outer s H E) [] (start N vs) H s1:=by
 have I:ps.length<=N.length:=by have:=Ą Kz S.pre;rw[Ig]at this;lia
 obtain⟨m,J,rfl,hk⟩:=x.done;have t:∀b:hH,b∉(pJ CX P w K mg base N g scope f o A outer s H E).ex:=λb z=>absurd (show b∈([]:List hH) from z) (by simp);refine⟨⟨j.mod,S.kind,rfl,rfl,hW _,λy z c m d=>?_,λy hy=>?_,λy c _ h=>?_,λ_=>D,Around.frames_deeper j.frames,.inr ⟨rfl,rfl⟩,λb z=>absurd z (t b),j.bs,j.Mp,λb _ _=>t b,λb z=>absurd z (t b),j.jU,j.NG⟩,
  rfl,j.bare,Un.kept hk,⟨_,x.toInCall.ns,λi y v m d L=>?_⟩,λy c h=>⟨_,x.cell y c h⟩,j.HI.fresh (hW _),λy c h=>?_,λp l=>absurd (show p∈([]:List (hH×Obj)) from l) (by simp),j.HI.kept hk,?_⟩
 ·exact name_of_addr x.apart (PySem.mem_of_lookup m) (PySem.mem_of_lookup d)
 ·have hy:scope.names.lookup y=a5 .cell\/scope.names.lookup y=a5 .free:=hy;rcases hy with hy|hy
  ·exact pK hy
  ·exact absurd rfl (S.MX _ (PySem.mem_of_lookup hy))
 ·exact Px (x.above y c (PySem.mem_of_lookup h))
 ·have hi:i<vs.length:=by
   unfold start at d;by_cases hi:i<vs.length
   ·exact hi
   ·rw[q9 (by simpa using hi)]at d;rw[KX]at d;split at d<;>cases d
  have G:vs[i]?=a5 v:=by
   unfold start at d;rw[x3 (by simpa using hi),ki]at d;cases e:vs[i]? with
   |none=>rw[e]at d;cases d
   |some a=>rw[e]at d;cases d;rfl
  obtain⟨u,B,rv⟩:=r.get G;have l:ps[i]?=a5 y:=by
   rw[<-S.pre,X0 ⋯];exact m
  have C:ps.Nodup:=by rw[<-S.pre];exact S.nd.sublist (Zy _ _)
  refine⟨u,rv,?_⟩;rcases S.par y (lg l) with k|k
  ·exact .inl ⟨k,l9 C l B k⟩
  ·obtain⟨c,e⟩:=pK (n:=s.heap.objs.size+1) k;refine .inr ⟨.inl k,c,e,?_⟩;have q:=x.cell y c e;rw[l_ C l B (by show scope.names.lookup y≠_;rw[k];decide)]at q;exact q
 ·exact j.HI.fresh (Px (x.above y c (PySem.mem_of_lookup h)))
 ·unfold start;show _=N.length;rw[hY,cc,PF];lia
theorem FK{K:PySem.W.Frag}{p kV g z d ct D:dt}
 (G:K.lookup f=a5 ⟨D,od,.func (PySem.W.fnOf name a c body scope p kV g z L d ct),NO⟩) (O:PySem.W.codeIn K d a=cb) (S:dQ N ps scope)
    (h:∀vs H Q E,sp vs H Q E->vs.length=ps.length)
    (T:∀(A:MY) (outer:List Env) (s:gj) (H:Hp) (vs:List V) (Q:VK) (E:XK),fX k (A.deeper (T_ a scope s.heap.objs.size f d))->sp vs H Q E ->
      ∃t,Je (pJ CX P w K mg base N a scope f d A outer s H E) body t/\t {nx:=λ_ H'=>Q .HH H',rt:=Q} (start N vs) H) :
    j6 P w K mg base CX (k+1) f (PySem.W.fnOf name a c body scope p kV g z L d ct) ps sp:=by
  refine⟨h,λA outer s H args us vs Q E m i Y r B=>?_⟩;have hl:=h _ _ _ _ B;have C:K.In s.heap:=i.mod.PM.keeps λb o e=>(i.bs b o e).1;have lim:s.heap.NoLimit:=i.mod.nolimit.keeps λb o e=>(i.bs b o e).1;have Ov:∀y∈ps.zip us,scope.names.lookup y.1=a5 .local\/(scope.names.lookup y.1=a5 .cell/\((ã (s.heap.objs.size+1) scope.names []).lookup y.1).isSome=cb):=λ⟨n,v⟩ hy=>by
    rcases S.par n (QL hy).1 with q|q
    · exact .inl q
    · exact .inr ⟨q,PySem.W.cellsFrom_some _ _ _ (.inl q)⟩
  refine codeAny_call_function m.depth (C _ _ G) rfl S.co S.gen rfl (PySem.W.codeRec_of C O) (Y _ _ _ _ ?_);refine wpAny_newFunctionEnv_cells S.kind Ov λenv he s1 x=>?_;subst he;refine⟨lim.keeps x.toInCall.keep,codeAny_func ?_⟩;obtain⟨t,ht,hq⟩:=T A outer s H vs Q E (m.deeper _) B;have I:Inv (pJ CX P w K mg base N a scope f d A outer s H E) [] (start N vs) H s1:=vL S m.hd i hl r x;refine vu (ht [] s1 (start N vs) H _ I hq) (λfl s' hs=>?_) λe s' hs=>hs;have j:∀{l:St} {H':Hp} {v:V} {u:dt},Inv (pJ CX P w K mg base N a scope f d A outer s H E) [] l H' s'->RelV v u->Q v H'->CE outer P w H s Q u s' :=
    λ{l H' v u} J rv q=>⟨v,H',J.os,J.bare,J.base,J.HI,rv,q⟩
  cases fl with
  | ret u =>
    obtain⟨v,l,H',J,rv,q⟩:=hs;exact j J rv q
  | next =>
    obtain⟨l,H',J,q⟩:=hs;exact j (v:=V.HH) (u:=l0) J rfl q
  | brk =>
    obtain⟨_,_,_,q⟩:=hs;exact NC q
  | cont =>
    obtain⟨_,_,_,q⟩:=hs;exact NC q
section
end
end L2
namespace HT
open PySem PyProof.Rows
section
open PySem.SeqAt
open PySem.AutoSeq1 (wpAny_loadPart')
open PySem.MeetsSeq PySem.MeetsSeq2 PySem.MeetsSeq3
end
section
theorem AG(p:XY s.heap t vs.toArray)(q:XY s.heap b ws.toArray)(f:vs≠[])
  (r:ws=[]->Q (.ref t) s) (u:ws≠[]->Q (.ref s.heap.objs.size) {s with heap:=s.heap.push {cls:=.type "tuple",data:=.seq (vs++ws).toArray}})
  (hsz:vs.length+ws.length<=c6):et (hE prog w) A (Ow .Add (.ref t) (.ref b)) Q E s:=by
 obtain⟨⟨cls,g,data,h⟩,ho,i,n,j⟩:=id p;obtain⟨⟨v,k,data2,l⟩,c,m,o,a⟩:=id q;simp only at i j m a;subst i j m a;have e:vs.toArray++ws.toArray=(vs++ws).toArray:=by simp
 by_cases d:ws=[]
 ·exact Ws ⟨_,ho,rfl⟩ ⟨_,c,rfl⟩ XF Y4 PySem.F.slot_tuple_add PySem.F.entry_tuple_add (PySem.F.args_tuple_add_2 _ _)
   (tuple_addW1 t b vs.toArray ws.toArray n o g k h l (by simpa using f) (by simp[d])) ⟨ho,c,r d⟩
 ·refine Ws ⟨_,ho,rfl⟩ ⟨_,c,rfl⟩ XF Y4 PySem.F.slot_tuple_add PySem.F.entry_tuple_add (PySem.F.args_tuple_add_2 _ _)
   (tuple_addW2 t b vs.toArray ws.toArray n o g k h l (by simpa using f) (by simpa using d) (by rw[hU,hU];exact hsz)) ⟨ho,c,?_⟩
  rw[e];exact u d
noncomputable def Jx(n d:Nat):Option Int->Nat
 |none=>d
 |some v=>if v<0 then(v+(n:Int)).toNat else min v.toNat n
theorem tK(n d k:Nat):Jx n d (a5 (k:Int))=min k n:=by
 show(if (k:Int)<0 then((k:Int)+(n:Int)).toNat else min (k:Int).toNat n)=min k n;rw[ā ⋯,Ny]
end
end HT
namespace L2
open PySem PySem.Spec PyProof.Rows
abbrev TO:=St->Hp->(Option Int->Hp->Prop)->Prop
def PO(X:Cx)(e:Option uv)(t:TO):Prop :=
 ∀(pins:List (hH×Obj)) (s:gj) (σ:St) (H:Hp) (Q:Option Int->Hp->Prop),Inv X pins σ H s->t σ H Q ->
  et (hE X.prog X.w) X.A (evalPart e X.env) (λu s'=>∃o H',Inv X pins σ H' s'/\IsPart u o/\Q o H') X.xe s
def AH:TO:=λ_ H Q=>Q b6 H
def FL(t:TE):TO:=λσ H Q=>t σ H λx a=>∃i,x=.int i/\Q (a5 i) a
section
variable{X:Cx}{e:uv}{te:TE}{lo hi:Option uv}{tl th:TO}{pos p2:Pos}
theorem AI:PO X b6 AH:=by
 intro pins s σ H Q I h;rw[evalPart_none];exact c2 ⟨b6,H,I,.none,h⟩
theorem AJ(h:PE X e te):PO X (a5 e) (FL te):=by
 intro pins s σ H Q I a;rw[evalPart_some];refine HJ (h pins s σ H _ I a) λu s1 b=>?_;obtain⟨x,c,d,f,g⟩:=b;obtain⟨i,rfl,q⟩:=g;obtain⟨t,rfl⟩:=f;exact⟨a5 i,c,d,.int i t,q⟩
def Mw(X:Cx)(r:V->Option Int->Option Int->Hp->VK->Prop):Prop :=
 ∀(pins:List (hH×Obj)) (s:gj) (σ:St) (H:Hp) (x:V) (v a b:dt) (lo hi:Option Int) (c:hH) (Q:VK),Inv X pins σ H s->RelV x v->s.heap.IsSliceOf c a b .none->IsPart a lo->IsPart b hi->r x lo hi H Q ->
  ∃T id,QN (.type T) "__getitem__"=pure (a5 (.builtin id))/\s.TypeIs v T/\et (hE X.prog X.w) X.A (Wh v (.ref c)) (EP X pins σ Q) X.xe s
theorem Mw.or(h:Mw X r)(h':Mw X g):Mw X (λx lo hi H Q=>r x lo hi H Q\/g x lo hi H Q):=by
 intro pins s σ H x v a b lo hi c Q I d hs pl f q;rcases q with q|q
 ·exact h pins s σ H x v a b lo hi c Q I d hs pl f q
 ·exact h' pins s σ H x v a b lo hi c Q I d hs pl f q
def Vp(r:V->Option Int->Option Int->Hp->VK->Prop)(te:TE)(tl th:TO):TE:=λσ H Q=>te σ H λx a=>tl σ a λl b=>th σ b λu c=>r x l u c Q
theorem xq(f:Mw X r)(g:PE X e te)(hl:PO X lo tl)(i:PO X hi th):PE X (.Subscript e (.Slice lo hi b6 p2) pos) (Vp r te tl th):=by
 intro pins s σ H Q I h;refine Ë (HJ (g pins s σ H _ I h) λv s1 j=>?_);obtain⟨x,k,m,n,o⟩:=j;refine wpAny_Slice (HJ (hl pins s1 σ k _ m o) λa s2 ⟨l,p,t,pl,y⟩=>HJ (i pins s2 σ p _ t y) λc s3 z=>?_);obtain⟨u,d,B,C,D⟩:=z;rw[evalPart_none];refine c2 ?_;have G:Inv X pins σ d {s3 with heap:=s3.heap.push {cls:=.type "slice",data:=.fields #[a,c,.none]}}:=B.kept (t':=s3.toks) λb O q=>cK _ q;obtain⟨T,id,J,L,N⟩:=f pins {s3 with heap:=s3.heap.push {cls:=.type "slice",data:=.fields #[a,c,.none]}} σ d x v a c l u s3.heap.objs.size Q G n (Û ..) pl C D;show et (hE X.prog X.w) X.A (Vg e (.Slice lo hi b6 p2) v (.ref s3.heap.objs.size)) (EP X pins σ Q) X.xe {s3 with heap:=s3.heap.push {cls:=.type "slice",data:=.fields #[a,c,.none]}};exact û (ops:=[.ref s3.heap.objs.size,v]) L J N (by with_unfolding_all rfl)
noncomputable def vM(xs:List V)(lo hi:Option Int):List V:=(xs.drop (HT.Jx xs.length 0 lo)).take (HT.Jx xs.length xs.length hi - HT.Jx xs.length 0 lo)
theorem pL(xs:List V)(lo hi:Option Int):(vM xs lo hi).length<=xs.length:=by
 unfold vM;rw[Ig,ZJ];lia
noncomputable def FN(K:PySem.W.Frag):R2:=λx y H Q=>∃a b xs c,x=.ref a/\y=.ref b/\Im K H a xs/\Im K H b c/\xs≠[]/\xs.length+c.length<=c6 /\
 (c=[]->Q (.ref a) H)/\(c≠[]->∀p,H p=b6->Q (.ref p) (upd H p (.tup (xs++c))))
theorem Vals.nQ(r:Vals xs us):us=[]↔xs=[]:=by
 cases r with
 |_=>simp
theorem AK:JB X (Ow .Add) (FN X.K):=by
 intro pins s σ H x y v u Q I f g h;obtain⟨a,b,xs,i,rfl,rfl,j,k,l,hz,m,n⟩:=h;cases f;cases g;obtain⟨its,d,p,_⟩:=I.tuple j;obtain⟨r,c,p2,_⟩:=I.tuple k;refine HT.AG p p2 (λz=>l (d.nQ.mp z)) (λz=>⟨.ref a,H,I,rfl,m (c.nQ.mp z)⟩) (λz=>?_) (by rw[<-d.length,<-c.length];exact hz);refine⟨.ref s.heap.objs.size,_,I.laid (t':=s.toks) (o:=.tup (xs++i)) (λb t q=>cK _ q) (hW _) ?_,rfl,n (λw=>z (c.nQ.mpr w)) _ (I.HI.fresh (hW _))⟩;exact⟨by rw[hY];exact hz,_,d.append c,Zv _ _⟩
end
noncomputable def Lj(n:Nat)(i:Int):Option Nat:=if 0<=i then(if i<n then a5 i.toNat else b6) else if -(n:Int)<=i then a5 (i+n).toNat else b6
noncomputable def IU{α:Type}(xs:List α)(i:Int):Option α:=(Lj xs.length i).bind λj=>xs[j]?
theorem tL{n:Nat}(h:Lj n i=a5 j):UK i n=a5 j/\j<n/\-(n:Int)<=i/\i<n:=by
 unfold Lj at h;by_cases b:0<=i
 ·rw[ÿ b]at h;by_cases a:i<n
  ·rw[ÿ a]at h;have e:i.toNat=j:=D5 h;exact⟨by rw[ZQ b a,e],⋯,⋯,a⟩
  ·rw[ā a]at h;cases h
 ·rw[ā b]at h;by_cases a:-(n:Int)<=i
  ·rw[ÿ a]at h;have e:(i+n).toNat=j:=D5 h;exact⟨by rw[seqIndex_neg ⋯ a,e],⋯,a,⋯⟩
  ·rw[ā a]at h;cases h
theorem nR(h:IU xs i=a5 v):∃j,UK i xs.length=a5 j/\xs[j]?=a5 v/\j<xs.length/\-(xs.length:Int)<=i/\i<xs.length:=by
 unfold IU at h;cases e:Lj xs.length i with
 |none=>rw[e]at h;cases h
 |some j =>
  rw[e]at h;obtain⟨a,b,c,d⟩:=tL e;exact⟨j,a,h,b,c,d⟩
theorem gW{j:Nat}(h:xs[j]?=a5 v):IU xs (j:Int)=a5 v:=by
 have a:j<xs.length:=(dV.mp h).1;have e:Lj xs.length (j:Int)=a5 j:=by
  unfold Lj;rw[ÿ ⋯,ÿ ⋯];simp
 unfold IU;rw[e];exact h
def nS(b:uv):Prop:=∀o i,XQ b cL o i=operate [o,i] (Wh o i)
def Q_(X:Cx)(r:R2):Prop :=
 ∀(b a:uv) (pins:List (hH×Obj)) (s:gj) (σ:St) (H:Hp) (x y:V) (v u:dt) (Q:VK),Inv X pins σ H s->RelV x v->RelV y u->r x y H Q ->
  XQ a cL v u=operate [v,u] (Wh v u)->et (hE X.prog X.w) X.A (Vg b a v u) (EP X pins σ Q) X.xe s
def Ra(X:Cx)(id:String)(r:V->List V->Hp->VK->Prop):Prop :=
 ∀(pins:List (hH×Obj)) (s:gj) (σ:St) (H:Hp) (x:V) (xs:List V) (v:dt) (us:List dt) (Q:VK),Inv X pins σ H s->RelV x v->Vals xs us->r x xs H Q ->
  et (hE X.prog X.w) X.A (Mu (.builtin id) (v::us)) (EP X pins σ Q) X.xe s
section
noncomputable def Hl(K:PySem.W.Frag):R2:=λx y H Q=>∃p xs i v,x=.ref p/\y=.int i/\Ij K H p xs/\IU xs i=a5 v/\Q v H
noncomputable def Hm(K:PySem.W.Frag):R2:=λx y H Q=>∃p xs i v,x=.ref p/\y=.int i/\Im K H p xs/\IU xs i=a5 v/\Q v H
noncomputable def Hn:R2:=λx y H Q=>∃z i c,x=.str z/\y=.int i/\z.length<=c6/\IU z.cps.toList i=a5 c/\Q (.str ⟨#[c]⟩) H
theorem AL:Q_ X (Hl X.K):=by
 intro c d pins s σ H x y v u Q I l m h hs;obtain⟨p,xs,i,z,rfl,rfl,n,A,q⟩:=h;cases l;obtain⟨t,rfl⟩:=m;obtain⟨its,r,pl,hz⟩:=I.list n;obtain⟨j,b,B,J,C,D⟩:=nR A;obtain⟨w,g,G⟩:=r.get B;have hl:=r.length;have L:=eQ;have a:EP X pins σ Q w s:=⟨z,H,I,G,q⟩
 by_cases k:0<=i
 ·have f:i.toNat=j:=by
   rw[ZQ k D]at b;exact D5 b
  exact item_listR pl.isList k ⋯ (by rw[f];simpa using g) a hs
 ·have f:(i+(its.toArray.size:Int)).toNat=j:=by
   rw[seqIndex_neg ⋯ C]at b;rw[hU,<-hl];exact D5 b
  exact Zq (x:=w) pl.isList.typeIs Ô.lookup
   (wpAny_getItem_list_neg (Q:=λr s'=>r=w/\EP X pins σ Q r s') pl.isList ⋯ (by rw[hU]<;>lia) ⋯ (by rw[f];simpa using g) ⟨rfl,a⟩) hs
theorem gB:Q_ X (Hm X.K):=by
 intro a b pins s σ H x y v u Q I d f h hs;obtain⟨p,xs,i,z,rfl,rfl,g,k,q⟩:=h;cases d;obtain⟨t,rfl⟩:=f;obtain⟨its,r,pl,hz⟩:=I.tuple g;obtain⟨j,l,m,B,C,D⟩:=nR k;obtain⟨w,n,A⟩:=r.get m;have hl:=r.length;have G:=eQ;have c:EP X pins σ Q w s:=⟨z,H,I,A,q⟩
 exact Zq (x:=w) pl.typeIs Vk.lookup
  (getItem_tuple (j:=j) (Q:=λr s'=>r=w/\EP X pins σ Q r s') pl ⋯ ⋯ (by rw[hU,<-hl];exact l) (by simpa using n) ⟨rfl,c⟩) hs
theorem nU:Q_ X Hn:=by
 intro a b pins s σ H x y v u Q I f g h hs;obtain⟨z,i,c,rfl,rfl,hz,k,q⟩:=h;obtain⟨t,rfl⟩:=f;obtain⟨t',rfl⟩:=g;obtain⟨j,d,l,A,m,n⟩:=nR k;have hl:z.cps.toList.length=z.length:=by simp[ù]
 rw[hl]at d m n;have B:=eQ;exact û (Yz s z t) å.lookup (getItem_str (c:=c) (by
  have p:df (i < -(2 ^ 63:Int))=cL:=Ă ⋯;have w:df (i >= 2 ^ 63)=cL:=Ă ⋯;rw[p,w,QC]) (by rw[d];simpa using l) ⟨.str ⟨#[c]⟩,H,I.tok _,⟨_,rfl⟩,q⟩) hs
theorem rA(its:List dt)(n j:Nat)(u:dt):nc (·.setIfInBounds j u) {cls:=.type "list",data:=.seq its.toArray n}={cls:=.type "list",data:=.seq (its.set j u).toArray n}:=by
 simp[nc]
theorem Inv.lst(I:Inv X pins σ H s)(h:H p=a5 (.lst xs)):
  ∃(its:List dt) (n:Nat),Vals xs its/\s.heap.get? p=a5 {cls:=.type "list",data:=.seq its.toArray n}/\xs.length<=c6:=by
 obtain⟨z,its,n,r,e⟩:=I.HI p _ h;exact⟨its,n,r,e,z⟩
theorem Inv.DG{its its':List dt}(I:Inv X pins σ H s)(h:H p=a5 (.lst xs))
  (ho:s.heap.get? p=a5 {cls:=.type "list",data:=.seq its.toArray n}) (a:f {cls:=.type "list",data:=.seq its.toArray n}={cls:=.type "list",data:=.seq its'.toArray c }) (r:Vals d its') (hz:d.length<=c6) (t:Nat) :
  Inv X pins σ (upd H p (.lst d)) {s with heap:=s.heap.update p f,toks:=t}:=by
 have e:(s.heap.update p f).get? p=a5 {cls:=.type "list",data:=.seq its'.toArray c }:=by
  rw[nC f ho (by rw[a]<;>rfl),a]
 refine I.write (x:=p) (e:=p) (by rw[h];trivial) (.inl rfl) (λb u g q=>(HY _ _ (sx g)).trans q) ⟨_,e⟩ ?_;exact⟨hz,its',c,r,e⟩
def FO:V->V->V->Hp->(Hp->Prop)->Prop:=λo i v H Q=>∃p xs k j,o=.ref p/\i=.int k/\H p=a5 (.lst xs)/\Lj xs.length k=a5 j/\Q (upd H p (.lst (xs.set j v)))
theorem set_list:nM X FO:=by
 intro pins s σ H o i v x y u Q I l m rv h;obtain⟨p,xs,k,j,rfl,rfl,b,w,q⟩:=h;cases l;obtain⟨t,rfl⟩:=m;obtain⟨its,n,r,ho,hz⟩:=I.lst b;obtain⟨a,z,c,d⟩:=tL w;have hl:=r.length;have A:=eQ;have f:Inv X pins σ (upd H p (.lst (xs.set j v))) {s with heap:=s.heap.update p (nc (·.setIfInBounds j u))} :=
  I.DG b ho (rA its n j u) (r.set rv j) (by rw[Z5];exact hz) s.toks
 by_cases g:0<=k
 ·have hk:k.toNat=j:=by
   rw[ZQ g d]at a;exact D5 a
  exact PySem.W.ki_setAt ho g ⋯ (by rw[hU,<-hl];exact d) (by rw[hk];exact⟨_,f,q⟩)
 ·have hk:(k+(its.toArray.size:Int)).toNat=j:=by
   rw[seqIndex_neg ⋯ c]at a;rw[hU,<-hl];exact D5 a
  exact PySem.W.ki_setBack ho ⋯ (by rw[hU,<-hl];exact c) ⋯ (by rw[hk];exact⟨_,f,q⟩)
theorem nV(lo hi:Option Int)(n:Nat):(Q8 lo hi b6 n).1=((HT.Jx n 0 lo:Nat):Int)/\(Q8 lo hi b6 n).2.1=((HT.Jx n n hi:Nat):Int)/\(Q8 lo hi b6 n).2.2=1:=by
 refine⟨?_,?_,rfl⟩
 ·cases lo with
  |none=>simp[Q8,HT.Jx]
  |some i =>
   simp only[Q8,HT.Jx,U7,show(1:Int)>0 by decide,if_true];by_cases h:i<0
   ·simp only[h,if_true]<;>lia
   ·simp only[h,if_false]<;>lia
 ·cases hi with
  |none=>simp[Q8,HT.Jx]
  |some i =>
   simp only[Q8,HT.Jx,U7,show(1:Int)>0 by decide,if_true];by_cases h:i<0
   ·simp only[h,if_true]<;>lia
   ·simp only[h,if_false]<;>lia
theorem lG(its:List dt)(lo hi:Option Int):slicePick its.toArray lo hi b6=((its.drop (HT.Jx its.length 0 lo)).take (HT.Jx its.length its.length hi - HT.Jx its.length 0 lo)).toArray:=by
 obtain⟨a,b,c⟩:=nV lo hi its.toArray.size;unfold slicePick;rw[a,b,c];simp only[sliceRange_one,pick_run,hU]<;>rfl
def FP(K:PySem.W.Frag):V->Option Int->Option Int->Hp->VK->Prop:=λx lo hi H Q=>∃a xs,x=.ref a/\Ij K H a xs/\∀p,H p=b6->Q (.ref p) (upd H p (.lst (vM xs lo hi)))
theorem AM:Mw X (FP X.K):=by
 intro pins s σ H x v j k lo hi l Q I f hs pl g h;obtain⟨a,xs,rfl,i,q⟩:=h;cases f;obtain⟨its,r,d,hz⟩:=I.list i;have c:=r.length;refine⟨"list",_,Ô.lookup,d.isList.typeIs,?_⟩;refine wpAny_getItem_list_slice d.isList hs pl g .none (by simp) ?_ (by rw[hU]<;>lia);rw[lG,<-c];refine⟨.ref s.heap.objs.size,_,I.laid (t':=s.toks) (o:=.lst (vM xs lo hi)) (λb m q=>cK _ q) (hW _) ?_,rfl,q _ (I.HI.fresh (hW _))⟩;exact⟨Jj (pL xs lo hi) hz,_,0,(r.drop (HT.Jx xs.length 0 lo)).take (HT.Jx xs.length xs.length hi - HT.Jx xs.length 0 lo),eH _ rfl⟩
theorem gX:d_ X (.builtin "len") (λxs H Q=>∃p b,xs=[.ref p]/\(Ij X.K H p b\/Im X.K H p b)/\Q (.int b.length) H):=by
 intro pins s σ H xs us Q I r h;obtain⟨p,b,rfl,hq,q⟩:=h;obtain⟨u,rfl,d⟩:=vals1 r;cases d;have f:=eQ;rcases hq with hq|hq
 ·obtain⟨its,c,pl,hz⟩:=I.list hq;have a:=c.length;exact Calls.call_len_list pl.isList (by simp only[hU]<;>lia) ⟨.int b.length,H,I.tok _,⟨s.toks+1,by rw[hU,a]⟩,q⟩
 ·obtain⟨its,c,pl,hz⟩:=I.tuple hq;have a:=c.length;exact æ pl (by simp only[hU]<;>lia) ⟨.int b.length,H,I.tok _,⟨s.toks+1,by rw[hU,a]⟩,q⟩
theorem nW:d_ X (.builtin "len") (λxs H Q=>∃z,xs=[.str z]/\z.length<=c6/\Q (.int z.length) H):=by
 intro pins s σ H xs us Q I r h;obtain⟨z,rfl,hz,q⟩:=h;obtain⟨u,rfl,t,rfl⟩:=vals1 r;have a:=eQ;exact len_str ⋯ ⟨.int z.length,H,I.tok _,⟨_,rfl⟩,q⟩
theorem gY:d_ X (.type "list") (λxs H Q=>∃p a,xs=[.ref p]/\(Ij X.K H p a\/Im X.K H p a)/\∀l,H l=b6->Q (.ref l) (upd H l (.lst a))):=by
 intro pins s σ H xs us Q I r h;obtain⟨p,a,rfl,hq,q⟩:=h;obtain⟨u,rfl,m⟩:=vals1 r;cases m;have f:∀(its:List dt),Vals a its->a.length<=c6->∀(h':JN) (c:Nat),(∀b o',s.heap.get? b=a5 o'->h'.get? b=a5 o') ->
   h'.get? s.heap.objs.size=a5 {cls:=.type "list",dict:=b6,data:=.seq its.toArray c,slots:=#[]}->EP X pins σ Q (.ref s.heap.objs.size) {s with heap:=h' }:=λits d hz h' c g e =>
  ⟨.ref s.heap.objs.size,_,I.laid (t':=s.toks) g (hW _) (show bF X.prog X.w _ h' _ (.lst a) from⟨hz,its,c,d,e⟩),rfl,q _ (I.HI.fresh (hW _))⟩
 rcases hq with hq|hq
 ·obtain⟨its,d,pl,hz⟩:=I.list hq;have i:=d.length;obtain⟨o,ho,j,n,k⟩:=pl.isList;exact call_list_seq p (.inl rfl) ho j k (λh' c g e=>f its d hz h' c g e) (by simp only[hU]<;>lia)
 ·obtain⟨its,d,pl,hz⟩:=I.tuple hq;have i:=d.length;obtain⟨o,ho,j,n,k⟩:=pl;exact call_list_seq p (.inr rfl) ho j k (λh' c g e=>f its d hz h' c g e) (by simp only[hU]<;>lia)
theorem f9:d_ X (.type "tuple") (λxs H Q=>∃p a,xs=[.ref p]/\((Ij X.K H p a/\∀l,H l=b6->Q (.ref l) (upd H l (.tup a)))\/(Im X.K H p a/\Q (.ref p) H))):=by
 intro pins s σ H xs us Q I r h;obtain⟨p,a,rfl,h⟩:=h;obtain⟨u,rfl,i⟩:=vals1 r;cases i;rcases h with⟨c,q⟩|⟨c,q⟩
 ·obtain⟨its,d,pl,hz⟩:=I.list c;have f:=d.length;refine call_tuple_list pl.isList (λh' j=>?_) (by simp only[hU]<;>lia);have g:Inv X pins σ H {s with heap:=h' }:=I.kept (t':=s.toks) j;have k:Inv X pins σ (upd H h'.objs.size (.tup a)) {s with heap:=h'.push {cls:=.type "tuple",data:=.seq its.toArray}} :=
   g.laid (t':=s.toks) (λb o e=>cK _ e) (hW _) (show bF X.prog X.w _ _ _ (.tup a) from⟨hz,its,d,Zv _ _⟩)
  exact⟨.ref h'.objs.size,_,k,rfl,q _ (g.HI.fresh (hW _))⟩
 ·obtain⟨its,d,pl,hz⟩:=I.tuple c;exact call_tuple_same pl ⟨.ref p,H,I,rfl,q⟩
def P0(K:PySem.W.Frag)(T:String)(x:V)(H:Hp):Prop:=match x with
 |.str _=>T="str"
 |.int _=>T="int"
 |.ref p=>(T="list"/\∃xs,Ij K H p xs)\/(T="tuple"/\∃o,K.lookup p=a5 o/\o.cls=.type "tuple"/\o.dict=b6) \/
   (T="dict"/\((∃kvs,H p=a5 (.dK kvs))\/∃kvs,H p=a5 (.dT kvs)))\/(T="set"/\∃S n,H p=a5 (.set S n))
 |_=>False
theorem nX(I:Inv X pins σ H s)(r:RelV x v)(b:P0 X.K T x H):
  s.TypeIs v T/\∀a,v=.ref a->∃g,s.heap.get? a=a5 g/\g.dict=b6:=by
 cases x with
 |str z =>
  obtain⟨t,rfl⟩:=r;cases(show T="str" from b);exact⟨Yz s z t,λ_ e=>nomatch e⟩
 |int i =>
  obtain⟨t,rfl⟩:=r;cases(show T="int" from b);exact⟨typeIs_int s i t,λ_ e=>nomatch e⟩
 |ref p =>
  cases r;rcases b with⟨rfl,xs,h⟩|⟨rfl,o,hk,j,d⟩|⟨rfl,hk⟩|⟨rfl,S,n,hk⟩
  ·obtain⟨its,_,pl,_⟩:=I.list h;refine⟨pl.isList.typeIs,λa e=>?_⟩;cases e;obtain⟨o,n,e,c,d,_⟩:=pl;exact⟨o,e,d⟩
  ·refine⟨⟨o,I.MS p o hk,j⟩,λa e=>?_⟩;cases e;exact⟨o,I.MS _ o hk,d⟩
  ·have z:∃o,s.heap.get? p=a5 o/\o.ExactDict:=by
    rcases hk with⟨kvs,hk⟩|⟨kvs,hk⟩
    ·obtain⟨_,_,_,_,o,_,_,e,ex,_⟩:=I.HI p _ hk;exact⟨o,e,ex⟩
    ·obtain⟨_,_,_,_,o,_,_,e,ex,_⟩:=I.HI p _ hk;exact⟨o,e,ex⟩
   obtain⟨o,e,ex⟩:=z;refine⟨⟨o,e,ex.1⟩,λa f=>?_⟩;cases f;exact⟨o,e,ex.2.1⟩
  ·obtain⟨o,_,_,_,e,ex,_⟩:=I.HI p _ hk;refine⟨⟨o,e,ex.1⟩,λa f=>?_⟩;cases f;exact⟨o,e,ex.2.1⟩
 |_=>exact NC b
def Ho(K:PySem.W.Frag)(T:String)(r:V->List V->Hp->VK->Prop)(to:TE):TE:=λσ H Q=>to σ H λx a=>P0 K T x a/\r x [] a Q
def Vq(K:PySem.W.Frag)(T:String)(r:V->List V->Hp->VK->Prop)(to:TE)(t:TA):TE:=λσ H Q=>to σ H λx a=>P0 K T x a/\t σ a λxs b=>r x xs b Q
variable{o e:uv}{es:List uv}{to:TE}{t:TA}{name:Str}{apos F':Pos}{T id:String}{r:V->List V->Hp->VK->Prop}
theorem DH(c:PlainAttrs T)(slot:ZV T name id)(d:Ã (.builtin id)=pure (.type "method_descriptor"))(f:Ra X id r)(ho:PE X o to)
  (g:O2 o name X.env (H0 o X.env)=H0 o X.env:=by rfl) (i:(apos.endLine==F'.line)=cb:=by rfl):PE X (.Call (.Attribute o name apos) [] [] F') (Ho X.K T r to):=by
 intro pins s σ H Q I h;refine S0 g i (HJ (ho pins s σ H _ I h) λv s1 j=>?_);obtain⟨x,k,a,b,l,m⟩:=j;obtain⟨n,p⟩:=nX a b l;exact⟨T,id,c,slot,d,n,p,IZ rfl (PySem.evalArgs_none (f pins s1 σ k x [] v [] Q a b .nil m))⟩
theorem tM(d:PlainAttrs T)(slot:ZV T name id)(f:Ã (.builtin id)=pure (.type "method_descriptor"))(g:Ra X id r)(ho:PE X o to)(i:PA X (e::es) t)
  (j:O2 o name X.env (H0 o X.env)=H0 o X.env:=by rfl)
  (k:((Kj F' (js (e::es) X.env)).all (λx=>!x.1)&&(Qi F' (MP [] X.env)).all (λx=>x.1.isSome)
   && df ((e::es).length+([]:List NY).length+(if ([]:List NY).isEmpty then 0 else 1)<30))=cb:=by rfl)
  (l:(apos.endLine==F'.line)=cb:=by rfl) (hs:js (e::es) X.env=(cL,H0 e X.env)::js es X.env:=by rfl) (m:(Kj F' (js es X.env)).any (·.1)=cL:=by rfl) :
  PE X (.Call (.Attribute o name apos) (e::es) [] F') (Vq X.K T r to t):=by
 intro pins s σ H Q I h;refine Zh j k l rfl (HJ (ho pins s σ H _ I h) λv s1 n=>?_);obtain⟨x,p,a,b,q,u⟩:=n;obtain⟨w,y⟩:=nX a b q;refine⟨T,id,d,slot,f,w,y,?_⟩;have c:=i F' pins s1 σ p _ a u;rw[hs]at c ⊢;refine IZ (by show(cL||(Kj F' (js es X.env)).any (·.1))=cL;rw[m]<;>rfl) (NB ?_);exact HJ c λus s2 ⟨vs,z,A,B,C⟩=>g pins s2 σ z x vs v us Q A b B C
end
def P1(X:Cx)(id:String)(r:V->List V->Hp->VK->Prop):Prop :=
 ∀(pins:List (hH×Obj)) (s:gj) (σ:St) (H:Hp) (x:V) (xs:List V) (v:dt) (us:List dt) (Q:VK),Inv X pins σ H s->RelV x v->Vals xs us->r x xs H Q ->
  et (hE X.prog X.w) X.A (Mu (.builtin id) (v::us)) (EP X pins σ Q) X.xe s
theorem Vals.one:∀{x:V}{us:List dt},Vals [x] us->∃u,us=[u]/\RelV x u
 |_,_,.cons r .nil=>⟨_,rfl,r⟩
theorem Vals.zero:∀{us:List dt},Vals [] us->us=[]
 |_,.nil=>rfl
theorem Vals.dropLast(h:Vals xs us):Vals xs.dropLast us.dropLast:=by
 induction h with
 |nil=>exact .nil
 |cons r t a =>
  cases t with
  |nil=>exact .nil
  |cons q t'=>exact .cons r a
theorem Vals.eraseIdx:∀{xs:List V}{us:List dt} (i:Nat),Vals xs us->Vals (xs.eraseIdx i) (us.eraseIdx i)
 |_,_,_,.nil=>.nil
 |_,_,0,.cons _ t=>t
 |_,_,i+1,.cons r t=>.cons r (Vals.eraseIdx i t)
theorem Vals.reverse(h:Vals xs us):Vals xs.reverse us.reverse:=by
 induction h with
 |nil=>exact .nil
 |cons r t a=>rw[RX,RX];exact Vals.append a (.cons r .nil)
theorem rB(l:List α):l.eraseIdx (l.length - 1)=l.dropLast:=by
 induction l with
 |nil=>rfl
 |cons a r c =>
  cases r with
  |nil=>rfl
  |cons b r =>
   have e:(a::b::r).length - 1=((b::r).length - 1)+1:=by
    have d:(a::b::r).length=r.length+2:=rfl;have f:(b::r).length=r.length+1:=rfl;lia
   rw[e,So,c]
   all_goals rfl
theorem mf:∀(l:List α) (i:Nat),(l.eraseIdx i).length<=l.length
 |[],_=>hW _
 |_::_,0=>JF _
 |_::r,i+1=>Nat.succ_le_succ (mf r i)
section
theorem Inv.lH{its its':List dt}(I:Inv X pins σ H s)(b:H l=a5 (.lst xs))
  (e:s.heap.get? l=a5 {cls:=.type "list",data:=.seq its.toArray n}) (c:f its.toArray=its'.toArray) (d:Vals a its') (hz:a.length<=c6) :
  Inv X pins σ (upd H l (.lst a)) {s with heap:=s.heap.update l (nc f),toks:=t' }:=by
 have q:=PySem.IsL.update e f;rw[c]at q;refine I.write (x:=l) (e:=l) (by rw[b];exact trivial) (.inl rfl) (λi u g h=>(HY s.heap (nc f) (sx g)).trans h) ⟨_,q⟩ ?_;exact⟨hz,its',_,d,q⟩
theorem Inv.Hq(I:Inv X pins σ H s)(b:Vals a its)(hz:a.length<=c6):
  Inv X pins σ (upd H s.heap.objs.size (.lst a)) {s with heap:=s.heap.push {cls:=.type "list",data:=.seq its.toArray},toks:=t' } :=
 I.laid (λ_ _ q=>cK _ q) (hW _) ⟨hz,its,0,b,eH _ rfl⟩
theorem Inv.fresh(I:Inv X pins σ H s):H s.heap.objs.size=b6:=I.HI.fresh (hW _)
theorem Inv.AN(I:Inv X pins σ H s)(a:H l=a5 (.lst xs)):xs.length<=c6/\∃(its:List dt) (n:Nat),Vals xs its/\xs.length=its.length/\s.heap.get? l=a5 {cls:=.type "list",data:=.seq its.toArray n}:=by
 obtain⟨z,its,n,r,e⟩:=I.HI l _ a;exact⟨z,its,n,r,r.length,e⟩
theorem xr(h:n<=c6):Jp n=cL:=by
 unfold Jp;exact Ă ⋯
end
section
def AO:V->List V->Hp->VK->Prop:=λx vs H Q=>∃l xs y,x=.ref l/\vs=[y]/\H l=a5 (.lst xs)/\xs.length<c6/\Q .HH (upd H l (.lst (xs++[y])))
theorem mj:P1 X "list.append" AO:=by
 intro pins s σ H x vs v us Q I b rv h;obtain⟨l,xs,y,rfl,rfl,a,hz,q⟩:=h;cases b;obtain⟨u,rfl,c⟩:=rv.one;obtain⟨z,its,n,r,hl,e⟩:=I.AN a;refine TL F.slot_list_append ⟨_,e,rfl⟩ F.entry_list_append (F.args_list_append_2 _ _) (PySem.list_append l its.toArray n u (by rw[hU];lia)) ⟨e,?_⟩;refine⟨.HH,_,I.lH (its':=its++[u]) a e (by simp) (r.append (.cons c .nil)) ?_,rfl,q⟩;rw[hY,nH];lia
def Hr:V->List V->Hp->VK->Prop:=λx vs H Q=>∃l xs y,x=.ref l/\vs=[]/\H l=a5 (.lst xs)/\xs[xs.length - 1]?=a5 y/\Q y (upd H l (.lst xs.dropLast))
theorem DI:P1 X "list.pop" Hr:=by
 intro pins s σ H x vs v us Q I b rv h;obtain⟨l,xs,y,rfl,rfl,a,c,q⟩:=h;cases b;have d:=rv.zero;subst d;obtain⟨z,its,n,r,hl,e⟩:=I.AN a;obtain⟨u,f,g⟩:=r.get c;have i:its.toArray[its.toArray.size - 1]?=a5 u:=by
  show its.toArray[its.length - 1]?=a5 u;rw[<-ro,<-hl];exact f
 refine TL Ü ⟨_,e,rfl⟩ Ê (F.args_list_pop_1 _) (MeetsSeq.list_pop_last l its.toArray n u i (by rw[hU];lia)) ⟨e,?_⟩;refine⟨y,_,I.lH (its':=its.dropLast) a e ?_ r.dropLast ?_,g,q⟩
 ·show its.toArray.eraseIdxIfInBounds (its.toArray.size - 1)=its.dropLast.toArray;rw[hU,Vd,rB]
 ·rw[List.length_dropLast];lia
def DJ:V->List V->Hp->VK->Prop:=λx vs H Q=>∃l xs i k y,x=.ref l/\vs=[.int i]/\H l=a5 (.lst xs)/\-(2 ^ 63)<=i/\i<2 ^ 63/\UK i xs.length=a5 k/\xs[k]?=a5 y/\Q y (upd H l (.lst (xs.eraseIdx k)))
theorem xt:P1 X "list.pop" DJ:=by
 intro pins s σ H x vs v us Q I b rv h;obtain⟨l,xs,i,k,y,rfl,rfl,a,c,d,hk,f,q⟩:=h;cases b;obtain⟨u,rfl,g⟩:=rv.one;obtain⟨t,rfl⟩:=g;obtain⟨z,its,n,r,hl,e⟩:=I.AN a;obtain⟨w,j,m⟩:=r.get f;refine TL Ü ⟨_,e,rfl⟩ Ê (F.args_list_pop_2 _ _)
  (MeetsSeq.list_pop_at l its.toArray n i t k w (fitsIndex_both c d) (by rw[hU,<-hl];exact hk) (by rw[<-ro];exact j) (by rw[hU];lia)) ⟨e,?_⟩
 refine⟨y,_,I.lH (its':=its.eraseIdx k) a e ?_ (r.eraseIdx k) ?_,m,q⟩
 ·show its.toArray.eraseIdxIfInBounds k=(its.eraseIdx k).toArray;rw[Vd]
 ·have:=mf xs k;lia
end
section
set_option maxRecDepth 100000 in
end
section
end
end L2
namespace TN
open PySem PySem.W PySem.Calls PyProof.Rows
theorem jz:∀(ns:List Int) (vs:List dt),WellAll P h vs (ns.map í)->Zw vs ns:=by
 intro ns;induction ns with
 |nil =>
  intro vs w;rw[Km]at w;cases w;exact .nil
 |cons n ns c =>
  intro vs w;rw[ez]at w;cases w with
  |cons a b =>
   cases a;exact .cons _ _ (c _ b)
theorem vN{l:OpenLaw}(i:l.most=a5 n)
  (f:l.row.toRowW.claim.pre args=cb) (j:WellAll P h vals args) :
  ∃a vs ns,vals=[i0 a]/\args=[WData.list (ns.map í)]/\h.get? a=a5 {cls:=.type "list",data:=.seq vs.toArray}/\Zw vs ns/\ns.length<=n:=by
 have k:WShape.hasAll [] args [.list .int]=cb:=(pre_splitW f).1;have g:l.pre.holds [] {args:=args}=cb:=(pre_splitW f).2;obtain⟨d,r,rfl,m,o⟩:=hasAllW_cons k;obtain rfl:=hasAllW_nil o;obtain⟨xs,rfl,p⟩:=hasW_list m;obtain⟨ns,rfl⟩:=items_int p;have b:ns.length<=n:=by
  unfold OpenLaw.pre at g;have c:(WTm.not (.lt (.lit (.int (n:Int))) (.len (.arg 0)))).holds [] {args:=[.list (ns.map .int)]}=cb:=by
   have c:=(holds_andW g).1;rw[i]at c;exact c
  have e:=condW_of c (w_not (w_lt w_lit (w_len_list (w_arg rfl))));rw[cc]at e;refine Nat.le_of_not_lt λq=>?_;have s:(n:Int)<((ns.length:Nat):Int):=by lia
  first
   |(rw[ă s]at e;exact absurd e (by decide))
   |(simp at e;lia)
 cases j with
 |cons t u =>
  cases u;cases t with
  |list ho v=>exact⟨_,_,ns,rfl,rfl,ho,jz ns _ v,b⟩
theorem vO(l:OpenLaw)(args:List WData):l.row.toRowW.claim.post args (.bool cb) args=cb :=
 postW_of (r:=l.row.toRowW) (X:=(cb==cb))
  (show Ù [] (.bool cb) .bool=cb by first|rfl|decide|simp[Ù,WShape.arms,WShape.armsAll])
  (show(WTm.eq .res (.lit (.bool cb))).value [] {args:=args,res:=a5 (.bool cb),after:=args}=a5 (.bool (cb==cb)) from w_eq_bool (w_res rfl) w_lit) rfl
theorem pM{l:OpenLaw}
  (p:l.most=a5 n) (s:d.params.defaults=[])
  (Mu:∀(w:Kp) (s₀ b:gj) (mg j:Str->Option dt) (fa:hH) (o:Obj) (k i c:dt) (a:hH) (vs:List dt) (ns:List Int),
   Ground q e [] t w s₀ mg j b.heap->u w b.heap ->
   b.heap.get? fa=a5 o->o.data=.func (docDef d.name d.params d.body d.scope k i c)->b.heap.CodeRec i d.name->mg d.name=a5 (.ref fa) ->
   b.heap.get? a=a5 {cls:=.type "list",data:=.seq vs.toArray}->Zw vs ns->ns.length<=n->b.gens=#[] ->
   NF (hE l.prog w) TC (.call (.ref fa) ⟨[.ref a],[]⟩) (λr s'=>r=.ok (.ret (.bool cb))/\OldK b.heap s'.heap/\s'.os=b.os/\T' s'.gens) b) :
  WalkO q e t u l.row.toRowW d [] (λf vs=>PySem.call f vs):=by
 intro w s₀ b mg j G Y fa o k i c v kV ho x y m z A args vals as B O Q C T;obtain rfl:v=.none:=Dflts.none m s;obtain rfl:kV=.none:=Dflts.noKw m;obtain⟨a,vs,ns,rfl,rfl,D,g,h⟩:=vN p B C;refine enter_call (Tx (Mu w s₀ b mg j fa o k i c a vs ns G Y ho (fd_plain x) y z D g h A) λr s' H=>?_);obtain⟨rfl,I,J,L⟩:=H;exact⟨.inl ⟨.bool cb,.bool cb,[],rfl,λ_=>rfl,.bool cb,vO l _,λ_=>⟨ê,λ_ N=>(nomatch N)⟩⟩,I,J,L⟩
section
end
end TN
namespace L2
open PySem PySem.Spec PyProof.Rows
theorem mq:∀{vs:List dt}{ns:List Int},Zw vs ns->Vals (ns.map V.int) vs
 |_,_,.nil=>.nil
 |_,_,.cons n t h=>.cons ⟨t,rfl⟩ (mq h)
def DK(H:Hp):Prop:=∀b,H b=b6\/∃o xs,H b=a5 (.Jq o (.lst xs))
theorem xu{K:PySem.W.Frag}
  (y:K.In c.heap) (A:c.heap.Ns J' mg) (f:c.heap.Ns Ç B) (N:∀x:Str,x≠"__name__"->B x=D' x) (O:c.heap.NoLimit) (Q:c.gens=#[])
  (l:c.heap.get? a=a5 {cls:=.type "list",data:=.seq vs.toArray}) (hi:Zw vs ns) (hl:ns.length<=c6) (T:fX k TC)
  (F:∀base:JN,K.In base->base.Ns J' mg->j6 P w K mg base CX k fa Y [x] sp) (Oz:∀(s:gj) (u:dt),Zp s Y ⟨[u],[]⟩ [(x,u)])
  (JI:∀H:Hp,DK H->Ij K H a (ns.map V.int)->sp [.ref a] H (λv _=>v=.bl cb) λ_ _ _=>False)
  (Rh:∀H e s',CX [] H c (λ_ _ _=>False) e s'->False) :
  NF (hE P w) TC (.call (.ref fa) ⟨[.ref a],[]⟩) (λr s'=>r=.ok (.ret (.bool cb))/\OldK c.heap s'.heap/\s'.os=c.os/\T' s'.gens) c:=by
 have rv:=mq hi;have Ri:=hi.length;have g:∀H:Hp,DK H->Ij K H a (ns.map V.int)->IY P w H c.heap->(∀b,H b≠b6->b=a)->(H a≠b6->K.lookup a=b6) ->
   NF (hE P w) TC (.call (.ref fa) ⟨[.ref a],[]⟩) (λr s'=>r=.ok (.ret (.bool cb))/\OldK c.heap s'.heap/\s'.os=c.os/\T' s'.gens) c:=by
  intro H C hS D G hK;have jM:∀{b:hH} {o:Obj},c.heap.get? b=a5 o->H b=b6->(nK c.heap H).get? b=a5 o:=λe n=>wZ e n;have Ou:∀{b:hH} {o:Obj} {es:Array DictEntry} {ep:Nat},c.heap.get? b=a5 o->o.data=.dict es ep->H b=b6:=λ{b o es ep} e d=>by
   cases q:H b with
   |none=>rfl
   |some u =>
    have t:b=a:=G b (by rw[q];simp);subst t;rw[l]at e;cases e;have d':Data.seq vs.toArray _=Data.dict es ep:=d;cases d'
  have p:∀{b:hH} {m:Str->Option dt},c.heap.Ns b m->(nK c.heap H).Ns b m:=λ{b m} ⟨o,es,ep,e,d,r⟩=>⟨o,es,ep,jM e (Ou e d),d,r⟩
  have I:K.In (nK c.heap H):=λb o e=>jM (y b o e) (by
   cases q:H b with
   |none=>rfl
   |some u =>
    have t:b=a:=G b (by rw[q];simp);subst t;rw[hK (by rw[q];simp)]at e;cases e)
  have hM:Mod K mg (nK c.heap H):=⟨I,p A,⟨B,p f,N⟩,let ⟨mc,h1,h2⟩:=O;⟨mc,p h1,h2⟩⟩
  have e0:AF P w K mg (nK c.heap H) TC [] c H:=⟨rfl,hM,λb o e=>Aq e,YO (vF _ _),trivial,λb f=>absurd (show b∈([]:List hH) from f) (by simp),D,.of_eq Q⟩
  refine Tx ((F _ I (p A)).run TC [] c H ⟨[.ref a],[]⟩ [.ref a] [.ref a] _ _ T e0 (Oz c (.ref a)) (.cons rfl .nil) (JI H C hS)) λr s' h=>?_;cases r with
  |error e=>exact(Rh H e s' h).elim
  |ok fl =>
   cases fl with
   |ret u =>
    obtain⟨v,H',os,i,J,Rj,r',q⟩:=h;have q':v=.bl cb:=q;subst q';obtain rfl:u=Rb cb:=r';refine⟨rfl,OldK.of_keep λb o e=>?_,os,i⟩;cases q:H b with
    |none=>exact J.keep b o e q (by intro z;exact absurd (show b∈([]:List hH) from z) (by simp)) (by simp)
    |some u =>
     rcases C b with z|⟨ob,xs,z⟩
     ·rw[q]at z;cases z
     ·have z2:=J.JE b ob _ z;obtain⟨L,_⟩:=D b _ z;obtain⟨e2,_⟩:=Rj b _ z2;rw[e]at L;cases L;exact e2
   |_=>exact NC h
 cases hk:K.lookup a with
 |some o =>
  have e:=y a o hk;rw[l]at e;cases e;refine g (λ_=>b6) (λ_=>.inl rfl) (.inr ⟨_,vs.toArray,_,hk,rfl,rfl,rfl,by rw[hU,Ri];exact hl,by simpa using rv⟩) (λb u z=>by have j:(b6:Option HO)=a5 u:=z;cases j) (λb z=>absurd rfl z) λz=>absurd rfl z
 |none =>
  refine g (λb=>if b=a then a5 (.Jq {cls:=.type "list",data:=.seq vs.toArray} (.lst (ns.map V.int))) else b6) (λb=>?_) (.inl (.inr ⟨{cls:=.type "list",data:=.seq vs.toArray},ÿ rfl⟩)) (λb u z=>?_) (λb z=>?_) λ_=>hk
  ·by_cases f:b=a
   ·exact .inr ⟨_,_,ÿ f⟩
   ·exact .inl (ā f)
  ·by_cases f:b=a
   ·have j:=(ÿ f).symm.trans z;cases j;subst f;exact⟨l,by rw[cc];exact hl,vs,_,rv,l⟩
   ·have j:=(ā f).symm.trans z;cases j
  ·by_cases f:b=a
   ·exact f
   ·exact absurd (ā f) z
theorem AQ{l:PySem.W.OpenLaw}{K:Zm->PySem.W.Frag}{CX:Kp->NM}{sp:Kp->Sp}
  (r:l.most=a5 n) (t:n<=c6) (y:d.params.defaults=[]) (z:fX k TC)
  (A:∀(w:Kp) (h:JN),B w h->(K w.params).In h)
  (F:∀(w:Kp) (mg:Str->Option dt) (fa:hH) (h:JN),(K w.params).In h->h.Ns J' mg->mg d.name=a5 (.ref fa) ->
   ∃j:R7,(∀(s:gj) (u:dt),Zp s j ⟨[u],[]⟩ [(x,u)]) /\
    ∀base:JN,(K w.params).In base->base.Ns J' mg->j6 l.prog w (K w.params) mg base (CX w) k fa j [x] (sp w))
  (C:∀(w:Kp) (H:Hp) (a:hH) (ns:List Int),ns.length<=n->DK H->Ij (K w.params) H a (ns.map V.int)->sp w [.ref a] H (λv _=>v=.bl cb) λ_ _ _=>False)
  (D:∀(w:Kp) (H:Hp) (s:gj) (e:dt) (s':gj),CX w [] H s (λ_ _ _=>False) e s'->False) :
  PySem.W.WalkO q m XP B l.row.toRowW d [] (λf vs=>PySem.call f vs):=by
 refine TN.pM r y λw s₀ I mg mb fa o pm cd J a vs ns G Y ho hd IE L N i c O=>?_;have p:=A w _ Y;obtain⟨j,Q,hF⟩:=F w mg fa _ p G.T.g L;exact xu p G.T.g G.T.b G.T.builtins G.T.nolimit O N i (Jj c t) z hF Q (λH hO hS=>C w H a ns c hO hS) λH e s'=>D w H I e s'
noncomputable def fM(s:Qj):Arguments:=match s with
 |.FunctionDef _ a _ _ _ _ _ _ _ _=>a
 |_=>{posonlyargs:=[],args:=[],vararg:=b6,kwonlyargs:=[],kw_defaults:=[],kwarg:=b6,defaults:=[]}
noncomputable def cS(s:Qj):List Qj:=match s with
 |.FunctionDef _ _ b _ _ _ _ _ _ _=>b
 |_=>[]
noncomputable def aQ(s:Qj):NA:=match s with
 |.FunctionDef _ _ _ _ _ _ a _ _ _=>a
 |_=>{kind:=.function,names:=[],isGenerator:=cL,isCoroutine:=cL}
abbrev K9:NM:=λ_ _ _ _ _ _=>False
abbrev E0:XK:=λ_ _ _=>False
theorem CL:Passes K9 X E0:=λ_ _ _ _ _ _ _ h=>h.elim
structure Mx(K:PySem.W.Frag)(x qual:Str)(st:Qj)(f:hH)(fd:R7):Prop where
 ex:∃(oc:dt) (od:Option hH) (kV doc pm:dt) (an:Option hH) (Jf ct:dt) (NO:Array (Option dt)),
  fd=PySem.W.fnOf x qual (fM st) (cS st) (aQ st) .none kV doc pm an Jf ct/\K.lookup f=a5 ⟨oc,od,.func fd,NO⟩/\PySem.W.codeIn K Jf qual=cb
 kp:PySem.W.keepIn K (.ref f)=cb
section
variable{P:H8}{w:Kp}{K:PySem.W.Frag}{mg:Str->Option dt}{base:JN}
theorem Mx.ok{st:Qj}(F:Mx K x a st f d)(S:dQ N ps (aQ st))(c:∀vs H Q E,sp vs H Q E->vs.length=ps.length)
  (e:∀(b:dt) (A:MY) (outer:List Env) (s:gj) (H:Hp) (vs:List V) (Q:VK) (E:XK),fX k (A.deeper (T_ a (aQ st) s.heap.objs.size f b))->sp vs H Q E ->
   ∃t,Je (pJ K9 P w K mg base N a (aQ st) f b A outer s H E).NI (cS st) t/\t {nx:=λ_ H'=>Q .HH H',rt:=Q} (start N vs) H):j6 P w K mg base K9 (k+1) f d ps sp:=by
 obtain⟨n,o,kV,g,p,r,b,ct,u,rfl,i,j⟩:=F.ex;refine FK i j S c λA outer s H vs Q E l m=>?_;obtain⟨t,h,q⟩:=e b A outer s H vs Q E l m;exact⟨t,h.NI,q⟩
theorem DL{st:Qj}{kV b e d ct:dt}(l:K.lookup f=a5 ⟨h,i,.func (PySem.W.fnOf x a (fM st) (cS st) (aQ st) .none kV b e g d ct),j⟩)
  (c:PySem.W.codeIn K d a=cb) (k:PySem.W.keepIn K (.ref f)=cb):Mx K x a st f (PySem.W.fnOf x a (fM st) (cS st) (aQ st) .none kV b e g d ct):=⟨⟨h,i,kV,b,e,g,d,ct,j,rfl,l,c⟩,k⟩
end
section
end
def AR(H H':Hp):Prop:=∀b o,H b=a5 o->H' b=a5 o
section
variable{κ:Type}[DecidableEq κ]
noncomputable def du(kvs:List (κ×V))(k:κ):Option V:=(kvs.find? λkv=>df (kv.1=k)).map (·.2)
noncomputable def putK(kvs:List (κ×V))(k:κ)(v:V):List (κ×V) :=
 if (kvs.any λkv=>df (kv.1=k))=cb then kvs.map (λkv=>if kv.1=k then(kv.1,v) else kv) else kvs++[(k,v)]
theorem eh{p:κ×V}{k:κ}(e:p.1=k):du (p::r) k=a5 p.2:=by simp[du,M',e]
theorem ei{p:κ×V}{k:κ}(e:¬p.1=k):du (p::r) k=du r k:=by simp[du,M',e]
theorem gZ(k:κ):∀kvs:List (κ×V),(kvs.any λkv=>df (kv.1=k))=(du kvs k).isSome
 |[]=>rfl
 |p::r=>by
  rw[Ui];by_cases e:p.1=k
  ·simp only[eh e,ă e,Bool.true_or,Option.isSome_some]
  ·rw[ei e,Ă e,Bool.false_or];exact gZ k r
theorem ji(kvs:List (κ×V))(k:κ)(v:V):(putK kvs k v).length<=kvs.length+1:=by
 unfold putK;split
 ·rw[cc];lia
 ·rw[hY,ko,SH];lia
theorem xv{k:κ}(v:V)(h:du kvs k=b6):putK kvs k v=kvs++[(k,v)]:=by
 unfold putK;rw[gZ,h];exact ā (by decide)
theorem jy.eB(r:jy o u):o.isSome=u.isSome:=by
 cases o with
 |none=>cases u with
  |none=>rfl
  |some _=>exact(show False from r).elim
 |some _=>cases u with
  |none=>exact(show False from r).elim
  |some _=>rfl
theorem jy.getD(r:jy o u)(a:RelV d d'):RelV (o.getD d) (u.getD d'):=by
 cases o with
 |none=>cases u with
  |none=>exact a
  |some _=>exact(show False from r).elim
 |some _=>cases u with
  |none=>exact(show False from r).elim
  |some _=>exact r
theorem KV.val(r:KV kvs vs)(k:κ):jy (du kvs k) (V1 vs k):=by
 unfold KV at r;induction r with
 |nil=>exact W8
 |@cons p q ps a h t f =>
  obtain⟨d,g⟩:=h;by_cases e:p.1=k
  ·have c:q.1=k:=d.symm.trans e;have b:V1 (q::a) k=a5 q.2:=by simp[V1,M',c]
   rw[eh e,b];exact g
  ·have c:¬q.1=k:=λz=>e (d.trans z);have b:V1 (q::a) k=V1 a k:=by simp[V1,M',c]
   rw[ei e,b];exact f
theorem KV.any(r:KV kvs vs)(k:κ):(kvs.any λkv=>df (kv.1=k))=vs.any λkv=>df (kv.1=k):=by
 unfold KV at r;induction r with
 |nil=>rfl
 |cons h t a=>rw[Ui,Ui,a,h.1]
theorem KV.DM(r:KV kvs vs)(k:κ)(b:RelV y u):
  KV (kvs.map λkv=>if kv.1=k then(kv.1,y) else kv) (vs.map λkv=>if kv.1=k then(kv.1,u) else kv):=by
 unfold KV at r ⊢;induction r with
 |nil=>exact .nil
 |@cons p q ps f h t c =>
  rw[ez,ez];refine .cons ?_ c;obtain⟨a,d⟩:=h;by_cases e:p.1=k
  ·rw[ÿ e,ÿ (a.symm.trans e)];exact⟨a,b⟩
  ·rw[ā e,ā (λz=>e (a.trans z))];exact⟨a,d⟩
theorem KV.put(r:KV kvs vs)(k:κ)(a:RelV y u):KV (putK kvs k y) (ô vs k u):=by
 unfold putK ô;rw[r.any k];by_cases e:(vs.any λkv=>df (kv.1=k))=cb
 ·rw[ÿ e,ÿ e];exact r.DM k a
 ·rw[ā e,ā e];exact Paired.snoc r ⟨rfl,a⟩
theorem KV.length(r:KV kvs vs):kvs.length=vs.length:=Paired.length r
end
theorem mr(r:RelV (kV k) u):(aG P w).is k u=cb:=by
 cases k with
 |inl i=>obtain⟨t,e⟩:=(show ∃t,u=U' i t from r);subst e;exact pE P w i t
 |inr x=>obtain⟨t,e⟩:=(show ∃t,u=ve x t from r);subst e;exact pF P w x t
theorem mw:∀{ks:List Key}{us:List dt},Vals (ks.map kV) us->ItemsAre (aG P w) ks us
 |[],_,r=>by rw[Km]at r;cases r;exact .nil
 |k::ks,_,r=>by
  rw[ez]at r;cases r with
  |cons h t=>exact .cons (mr h) (mw t)
abbrev KT(H:Hp):List (List Key×V)->List (List Key×hH×dt)->Prop:=Paired λp q=>p.1=q.1/\H q.2.1=a5 (.tup (p.1.map kV))/\RelV p.2 q.2.2
theorem KT.val(r:KT H kvs xs)(k:List Key):jy (du kvs k) ((YE xs k).map (·.2)):=by
 induction r with
 |nil=>exact W8
 |@cons p q ps a h t f =>
  obtain⟨d,_,g⟩:=h;by_cases e:p.1=k
  ·have c:q.1=k:=d.symm.trans e;have b:YE (q::a) k=a5 q.2:=by simp[YE,M',c]
   rw[eh e,b];exact g
  ·have c:¬q.1=k:=λz=>e (d.trans z);have b:YE (q::a) k=YE a k:=by simp[YE,M',c]
   rw[ei e,b];exact f
theorem KT.DM(r:KT H kvs xs)(k:List Key)(c:RelV y u):
  KT H (kvs.map λkv=>if kv.1=k then(kv.1,y) else kv) (xs.map (putAt k u)):=by
 induction r with
 |nil=>exact .nil
 |@cons p q ps g h t d =>
  rw[ez,ez];refine .cons ?_ d;obtain⟨a,b,f⟩:=h;unfold putAt;by_cases e:p.1=k
  ·rw[ÿ e,ÿ (a.symm.trans e)];exact⟨a,b,c⟩
  ·rw[ā e,ā (λz=>e (a.trans z))];exact⟨a,b,f⟩
theorem KT.put(r:KT H kvs xs)(k:List Key)(c:H b=a5 (.tup (k.map kV)))(a:RelV y u):
  KT H (putK kvs k y) (storedH xs k b u):=by
 have e:(kvs.any λkv=>df (kv.1=k))=(YE xs k).isSome:=by
  rw[gZ,(r.val k).eB,Ur]
 unfold putK storedH;rw[e];by_cases q:(YE xs k).isSome=cb
 ·rw[ÿ q,ÿ q];exact r.DM k a
 ·rw[ā q,ā q];exact Paired.snoc r ⟨rfl,c,a⟩
theorem KT.keeps(r:KT H kvs xs)(c:∀b a,H b=a5 (.tup a)->H' b=a5 (.tup a)):KT H' kvs xs :=
 Paired.Di r λ_ _ z=>⟨z.1,c _ _ z.2.1,z.2.2⟩
section
theorem CM(b:IY P w H h)(e:Rd H a u):bF P w H h a u:=e.ok b
theorem j7(b:IY P w H h)(e:Rd H a (.dK kvs)):kvs.length<=c6/\(a==Nt)=cL/\∃vs,KV kvs vs/\h.DictOf (aG P w) a vs :=
 show bF P w H h a (.dK kvs) from CM b e
theorem tN(b:IY P w H h)(e:H a=a5 (.dK kvs)):kvs.length<=c6/\(a==Nt)=cL/\∃vs,KV kvs vs/\h.DictOf (aG P w) a vs:=j7 b (.inl e)
theorem iO(b:IY P w H h)(e:H a=a5 (.tup (ks.map kV))):(UJ (aG P w)).is h ks a:=by
 obtain⟨_,its,r,o,c,d,n,f⟩:=(show bF P w H h a (.tup (ks.map kV)) from b a _ e)
 exact⟨o,its.toArray,n,c,d,f,by simpa using mw r⟩
theorem j8(b:IY P w H h)(e:Rd H a (.dT kvs)):kvs.length<=c6/\(a==Nt)=cL /\
  ∃xs,KT H kvs xs/\h.DictOfH (UJ (aG P w)) a xs:=by
 obtain⟨z,y,xs,r,o,es,ep,d,f,g,i,j⟩:=(show bF P w H h a (.dT kvs) from CM b e)
 refine⟨z,y,xs,r,o,es,ep,d,f,g,i,λx hx=>?_,j⟩;have all:∀{l:List (List Key×V)} {m:List (List Key×hH×dt)},KT H l m->∀x∈m,(UJ (aG P w)).is h x.1 x.2.1:=by
  intro l m q;induction q with
  |nil=>intro x hx;exact nomatch hx
  |@cons p q ps n c t k =>
   intro x hx;rcases fR.mp hx with e|hx
   ·subst e;exact iO b (by rw[<-c.1];exact c.2.1)
   ·exact k x hx
 exact all r x hx
theorem FQ(b:IY P w H h)(e:H a=a5 (.dT kvs)):kvs.length<=c6/\(a==Nt)=cL /\
  ∃xs,KT H kvs xs/\h.DictOfH (UJ (aG P w)) a xs:=j8 b (.inl e)
end
def d0(H:Hp)(a:hH)(y:V)(r:Option V):Prop :=
 (∃kvs k,Rd H a (.dK kvs)/\y=kV k/\r=du kvs k)\/∃kvs k b,Rd H a (.dT kvs)/\y=.ref b/\H b=a5 (.tup (k.map kV))/\r=du kvs k
def vP(H:Hp)(a:hH)(y v:V)(H':Hp):Prop :=
 (∃kvs k,H a=a5 (.dK kvs)/\y=kV k/\kvs.length<c6/\H'=upd H a (.dK (putK kvs k v))) \/
 ∃kvs k b,H a=a5 (.dT kvs)/\y=.ref b/\H b=a5 (.tup (k.map kV))/\kvs.length<c6/\H'=upd H a (.dT (putK kvs k v))
theorem d0.k{H:Hp}{a:hH}{kvs:List (Key×V)}{k:Key}(e:H a=a5 (.dK kvs)):d0 H a (kV k) (du kvs k):=.inl ⟨kvs,k,.inl e,rfl,rfl⟩
theorem vP.k{H:Hp}{a:hH}{kvs:List (Key×V)}{k:Key}{v:V}(e:H a=a5 (.dK kvs))(hl:kvs.length<c6):vP H a (kV k) v (upd H a (.dK (putK kvs k v))):=.inl ⟨kvs,k,e,rfl,hl,rfl⟩
section
theorem Inv.big(I:Inv X pins σ H s):Nt<s.heap.objs.size:=by
 have h:J'<s.heap.objs.size:=(I.mod.glob.keeps I.bk).lt;exact Pw (by decide) h
theorem mz(q:A.units+1<Ml)(I:Inv X pins σ H s)(g:d0 H a y (a5 v))(n:RelV y u)(h:∀d s',Inv X pins σ H s'->RelV v d->Q d s'):
  et (hE X.prog X.w) A (Wh (.ref a) u) Q E s:=by
 rcases g with⟨kvs,k,e,f,l⟩|⟨kvs,k,b,e,f,r,l⟩
 ·subst f;obtain⟨z,t,vs,c,i⟩:=j7 I.HI e;obtain⟨d,j,m⟩:=jy.some_of (v:=v) (o:=V1 vs k) (by rw[l];exact c.val k);exact wpAny_getItem_of (mr n) i.mapOf j (h d _ (I.tok _) m)
 ·subst f;cases(show u=i0 b from n);obtain⟨z,t,xs,c,i⟩:=j8 I.HI e;obtain⟨d,j,m⟩:=jy.some_of (v:=v) (o:=(YE xs k).map (·.2)) (by rw[l];exact c.val k);obtain⟨p,x,B⟩:=fS.mp j;refine wpAny_getItem_heap (Pc q) (iO I.HI r) i x ?_;rw[B];exact h d _ (I.tok _) m
theorem FR(m:A.units+1<Ml)(I:Inv X pins σ H s)(g:d0 H a y o)(j:RelV y u)(h:∀s',Inv X pins σ H s'->Q (.bool o.isSome) s'):
  et (hE X.prog X.w) A (Mn .In u (.ref a)) Q E s:=by
 rcases g with⟨kvs,k,e,d,l⟩|⟨kvs,k,b,e,d,n,l⟩
 ·subst d;obtain⟨z,f,vs,c,i⟩:=j7 I.HI e;refine wpAny_in_of (mr j) f i.mapOf ?_;rw[<-(c.val k).eB,<-l];exact h _ (I.tok _)
 ·subst d;cases(show u=i0 b from j);obtain⟨z,f,xs,c,i⟩:=j8 I.HI e;refine wpAny_in_heap (Pc m) (iO I.HI n) f i ?_;have q:=(c.val k).eB;rw[Ur]at q;rw[<-q,<-l];exact h _ (I.tok _)
theorem tP(m:A.units+1<Ml)(I:Inv X pins σ H s)(g:d0 H a y o)(j:RelV y u)(h:∀s',Inv X pins σ H s'->Q (.bool (!o.isSome)) s'):
  et (hE X.prog X.w) A (Mn .NotIn u (.ref a)) Q E s:=by
 rcases g with⟨kvs,k,e,d,l⟩|⟨kvs,k,b,e,d,n,l⟩
 ·subst d;obtain⟨z,f,vs,c,i⟩:=j7 I.HI e;refine wpAny_notIn_of (mr j) f i.mapOf ?_;rw[<-(c.val k).eB,<-l];exact h _ (I.tok _)
 ·subst d;cases(show u=i0 b from j);obtain⟨z,f,xs,c,i⟩:=j8 I.HI e;refine wpAny_notIn_heap (Pc m) (iO I.HI n) f i ?_;have q:=(c.val k).eB;rw[Ur]at q;rw[<-q,<-l];exact h _ (I.tok _)
theorem tQ(I:Inv X pins σ H s)(mu:Og (H a))(hs:qs a s.heap h')(d:∃q,h'.get? a=a5 q)(new:bF X.prog X.w (upd H a c) h' a c):
  Inv X pins σ (upd H a c) {s with heap:=h',toks:=t' } :=
 I.write (x:=a) (e:=a) mu (.inl rfl) (λb q f z=>(hs.2 b f).trans z) d new
theorem DN(z:kvs.length<=c6)(c:(a==Nt)=cL)(b:KV kvs vs)(d:h'.DictOf (aG P w) a vs):
  bF P w H' h' a (.dK kvs):=⟨z,c,vs,b,d⟩
theorem vQ(B:A.units+1<Ml)(I:Inv X pins σ H s)(g:vP H a y v H')(p:RelV y u)(rv:RelV v r)(h:∀s',Inv X pins σ H' s'->Q () s'):
  et (hE X.prog X.w) A (Tu (.ref a) u r) Q E s:=by
 rcases g with⟨kvs,k,e,j,l,m⟩|⟨kvs,k,b,e,j,t,l,m⟩
 ·subst j m;obtain⟨z,n,vs,d,o⟩:=tN I.HI e;have hz:vs.length<=c6:=by rw[<-d.length];exact z
  have hl:(putK kvs k v).length<=c6:=by have:=ji kvs k v;lia
  refine wpAny_setItem_pairs (hsz:=hz) (mr p) o λh' f hs=>h _ ?_;have C:∃q,h'.get? a=a5 q:=let ⟨q,_,_,i,_⟩:=f;⟨q,i⟩;exact tQ I (by rw[e];exact W8) hs C (DN hl n (d.put k rv) f)
 ·subst j m;cases(show u=i0 b from p);obtain⟨z,n,xs,d,o⟩:=FQ I.HI e;have hz:xs.length<=c6:=by rw[<-Paired.length d];exact z
  have hl:(putK kvs k v).length<=c6:=by have:=ji kvs k v;lia
  refine wpAny_setItem_heap (hsz:=hz) (Pc B) (iO I.HI t) o λh' f hs=>h _ ?_;obtain⟨q,es,ep,i,D,G,J,_,L⟩:=f;refine tQ I (by rw[e];exact W8) hs ⟨q,i⟩ ⟨hl,n,_,(d.put k t rv).keeps λc N x=>?_,q,es,ep,i,D,G,J,L⟩;rw[aq (Fm x e (λz=>nomatch z))];exact x
end
section
end
def DO(i:uv):Prop:=∀a b,XQ i cL a b=operate [a,b] (Wh a b)
theorem AS{T id:String}
  (hl:QN (.type T) "__getitem__"=pure (a5 (.builtin id))) (hs:DO a)
  (h:et (hE prog w) A (H0 b env) (λo f=>et (hE prog w) A (H0 a env) (λi d=>d.TypeIs o T/\et (hE prog w) A (Wh o i) Q E d) E f) E s) :
  et (hE prog w) A (H0 (.Subscript b a pos) env) Q E s:=by
 refine Ë (vu h (λo f k=>vu k (λi d e=>?_) λ_ _ x=>x) λ_ _ x=>x);obtain⟨g,e⟩:=e;unfold Vg;refine bD ?_;rw[getitemInPython_of_ne g.not_modules];refine bD (LJ g hl ?_);have c:et (hE prog w) A (XQ a cL o i) (λr j=>et (hE prog w) A (letTemporaryGo b o r >>= λ_=>pure r) Q E j) E d:=by
  rw[hs o i];exact wpAny_operating (vu e (λr j l=>bD (wpAny_letTemporaryGo (c2 l))) λ_ _ x=>x)
 first
  |exact c2 (bD c)
  |exact bD (c2 (bD c))
  |exact bD c
theorem jj(I:Inv X pins σ H s)(g:d0 H a y o):s.TypeIs (.ref a) "dict":=by
 rcases g with⟨kvs,k,e,_,_⟩|⟨kvs,k,b,e,_,_,_⟩
 ·obtain⟨_,_,vs,_,c⟩:=j7 I.HI e;exact c.typeIs
 ·obtain⟨_,_,xs,_,c⟩:=j8 I.HI e;exact c.typeIs
def FT(c d:TE):TE:=λσ H Q=>c σ H λx e=>d σ e λy b=>∃a v,x=.ref a/\d0 b a y (a5 v)/\Q v b
def Hs(c d:TE):TE:=λσ H Q=>c σ H λy e=>d σ e λx b=>∃a o,x=.ref a/\d0 b a y o/\Q (.bl o.isSome) b
def AU(c d:TE):TE:=λσ H Q=>c σ H λy e=>d σ e λx b=>∃a o,x=.ref a/\d0 b a y o/\Q (.bl (!o.isSome)) b
section
theorem AV(c:X.A.units+1<Ml)(ho:PE X o d)(hi:PE X i e)(hs:DO i):PE X (.Subscript o i pos) (FT d e):=by
 intro pins s σ H Q I h;refine AS PySem.F.slot_dict_getitem.lookup hs (HJ (ho pins s σ H _ I h) λu s1 ⟨x,f,j,k,l⟩=>HJ (hi pins s1 σ f _ j l) λw s2 m=>?_);obtain⟨y,n,b,p,a,v,ex,g,q⟩:=m;subst ex;obtain rfl:u=i0 a:=k;exact⟨jj b g,mz c b g p λz s3 r t=>⟨v,n,r,t,q⟩⟩
theorem DP(b:X.A.units+1<Ml)(hi:PE X i c)(ho:PE X o d):PC X .In i o (Hs c d):=by
 intro pins s σ H Q I h;refine HJ (hi pins s σ H _ I h) λv s1 ⟨y,e,f,j,k⟩=>HJ (ho pins s1 σ e _ f k) λu s2 l=>?_;obtain⟨x,m,n,p,a,q,ex,g,r⟩:=l;subst ex;obtain rfl:u=i0 a:=p;exact FR b n g j λs3 t=>⟨.bl q.isSome,m,t,rfl,r⟩
theorem vR(b:X.A.units+1<Ml)(hi:PE X i c)(ho:PE X o d):PC X .NotIn i o (AU c d):=by
 intro pins s σ H Q I h;refine HJ (hi pins s σ H _ I h) λv s1 ⟨y,e,f,j,k⟩=>HJ (ho pins s1 σ e _ f k) λu s2 l=>?_;obtain⟨x,m,n,p,a,q,ex,g,r⟩:=l;subst ex;obtain rfl:u=i0 a:=p;exact tP b n g j λs3 t=>⟨.bl (!q.isSome),m,t,rfl,r⟩
end
theorem xw(h:JN)(a:Nt<h.objs.size):bF P w H (h.push {cls:=.type "dict",data:=.dict #[]}) h.objs.size (.dK []) :=
 ⟨i8 _,beq_eq_false_iff_ne.mpr (sx (hV a)),[],.nil,Yj h⟩
def DQ:TE:=λ_ H Q=>∀p,H p=b6->Q (.ref p) (upd H p (.dK []))
section
theorem pN:PE X (.Dict [] [] pos) DQ:=λpins s σ H Q I h =>
 wpAny_Dict_empty ⟨.ref s.heap.objs.size,_,I.laid (a:=s.heap.objs.size) (o:=.dK []) (t':=s.toks) (λ_ _ q=>cK _ q) (hW _) (xw s.heap I.big),rfl,h _ (I.HI.fresh (hW _))⟩
end
structure M2(X:Cx)(o:uv)(m:Str)(apos:Pos)(e f:uv)(F':Pos):Prop where
 base:O2 o m X.env (H0 o X.env)=H0 o X.env
 LY:((Kj F' (js [e,f] X.env)).all (λx=>!x.1)&&(Qi F' (MP [] X.env)).all (λx=>x.1.isSome)
  && df (([e,f]:List uv).length+([]:List NY).length+(if ([]:List NY).isEmpty then 0 else 1)<30))=cb
 line:(apos.endLine==F'.line)=cb
 trees:Kj F' (js [e,f] X.env)=[(cL,H0 e X.env),(cL,H0 f X.env)]
def TV(H:Hp)(a:hH):Prop:=(∃kvs,Rd H a (.dK kvs))\/∃kvs,Rd H a (.dT kvs)
theorem DR(I:Inv X pins σ H s)(d:TV H a):
  s.TypeIs (.ref a) "dict"/\(∀b,i0 a=.ref b->∃c,s.heap.get? b=a5 c/\c.dict=b6)/\(a==Nt)=cL:=by
 rcases d with⟨kvs,e⟩|⟨kvs,e⟩
 ·obtain⟨_,g,vs,_,f⟩:=j7 I.HI e;refine⟨f.typeIs,λb q=>?_,g⟩;cases q;obtain⟨c,_,_,h,i,_⟩:=f;exact⟨c,h,i.2.1⟩
 ·obtain⟨_,g,xs,_,f⟩:=j8 I.HI e;refine⟨f.typeIs,λb q=>?_,g⟩;cases q;obtain⟨c,_,_,h,i,_⟩:=f;exact⟨c,h,i.2.1⟩
section
theorem DS(q:A.units+1<Ml)(I:Inv X pins σ H s)(g:d0 H a y o)(m:RelV y u)(n:RelV d r)(h:∀p s',Inv X pins σ H s'->RelV (o.getD d) p->Q p s'):
  et (hE X.prog X.w) A (Mu (.builtin "dict.get") [.ref a,u,r]) Q E s:=by
 rcases g with⟨kvs,k,e,i,l⟩|⟨kvs,k,b,e,i,t,l⟩
 ·subst i;obtain⟨z,j,vs,c,f⟩:=j7 I.HI e;refine Wv PySem.F.slot_dict_get f.typeIs PySem.F.entry_dict_get (PySem.F.args_dict_get_3 _ _ _) (meets_dict_get_default (aG X.prog X.w) a (mr m) j r) ⟨_,f.mapOf,h _ _ (I.tok _) ?_⟩;rw[l];exact(c.val k).getD n
 ·subst i;cases(show u=i0 b from m);obtain⟨z,j,xs,c,f⟩:=j8 I.HI e;refine Wv PySem.F.slot_dict_get f.typeIs PySem.F.entry_dict_get (PySem.F.args_dict_get_3 _ _ _) (meetsH_dict_get_default (UJ (aG X.prog X.w)) a b j r) ⟨Pc q,k,xs,iO I.HI t,f,h _ _ (I.tok _) ?_⟩;rw[l];exact(c.val k).getD n
end
def DT(d e f:TE):TE:=λσ H Q=>d σ H λx b=>∃a,x=.ref a/\TV b a/\e σ b λy g=>f σ g λz c=>∃o,d0 c a y o/\Q (o.getD z) c
section
theorem xx(i:X.A.units+1<Ml)(ho:PE X o j)(k:PE X e l)(n:PE X f p)(m:M2 X o "get" b e f q):PE X (.Call (.Attribute o "get" b) [e,f] [] q) (DT j l p):=by
 intro pins s σ H Q I h;refine wpAny_Call_method m.base m.LY m.line PySem.F.plainAttrs_dict PySem.F.slot_dict_get PySem.F.type_dict_get (HJ (ho pins s σ H _ I h) λu s1 r=>?_);obtain⟨x,t,c,v,a,ex,d,w⟩:=r;subst ex;obtain rfl:u=i0 a:=v;obtain⟨B,C,_⟩:=DR c d;refine⟨B,C,?_⟩;rw[m.trees];refine IZ rfl (NB (ON (HJ (k pins s1 σ t _ c w) λiv s2 ⟨y,D,G,J,L⟩ =>
  ON (HJ (n pins s2 σ D _ G L) λfv s3 ⟨z,N,O,T,ov,g,Y⟩=>RL ?_))))
 exact DS i O g J T λw' s4 I4 JZ=>⟨_,N,I4,JZ,Y⟩
end
section
end
section
end
end L2
namespace Ih
open PySem PySem.Builtin.Str PySem.StrLaws
noncomputable def xy(i:Int):Str:=M7 (SU i)
theorem app_list(x y:Str):(x++y).cps.toList=x.cps.toList++y.cps.toList:=by
 show(x.cps++y.cps).toList=_;simp
end Ih
namespace L2
open PySem PySem.Spec PyProof.Rows
noncomputable def bz(env:Env):List (Str×OC)->List (Str×hH)->List (Str×hH)
 |[],b=>b
 |(n,k)::r,b=>bz env r (if k==.free then(match env.cells.lookup n with|some a=>(n,a)::b|none=>b) else b)
theorem eC(h:∀y∈scope.names,y.2=.free->∃a,env.cells.lookup y.1=a5 a):closureFor scope env=pure (bz env scope.names []):=by
 unfold closureFor;generalize scope.names=names at h
 suffices H:∀b,(þ names b (λ(x:Str×OC) (r:List (Str×hH))=>if (x.2==M0)=cb then do let a <-cellOf env x.1;pure (Oh ((x.1,a)::r)) else pure (Oh r)):Sem (List (Str×hH)))=pure (bz env names b) by
  have:=H [];exact Ą (λ(m:Sem (List (Str×hH)))=>m >>= pure) this
 induction names with
 |nil=>intro b;rfl
 |cons y r d =>
  intro b;obtain⟨n,k⟩:=y;rw[Vu];have c:=d λy e=>h y (ux _ e);by_cases hk:(k==M0)=cb
  ·obtain⟨a,f⟩:=h (n,k) qP (by simpa using hk);have g:env.cells.lookup n=a5 a:=f;simp only[hk,if_true,cellOf,g,bz];exact c _
  ·simp only[hk,if_false,bz];exact c _
theorem eS:∀(names:List (Str×OC)) (b:List (Str×hH)),(∀n c,b.lookup n=a5 c->env.cells.lookup n=a5 c)->∀n c,(bz env names b).lookup n=a5 c->env.cells.lookup n=a5 c
 |[],_,h=>h
 |(m,k)::r,b,h=>by
  unfold bz;refine eS r _ λn c e=>?_;by_cases hk:(k==M0)=cb
  ·rw[ÿ hk]at e;cases q:env.cells.lookup m with
   |none=>rw[q]at e;exact h n c e
   |some a =>
    rw[q]at e;simp only[t4]at e;cases d:n==m with
    |true =>
     rw[d]at e;have f:n=m:=by simpa using d
     subst f;simp only at e;rw[q];exact e
    |false=>rw[d]at e;exact h n c e
  ·rw[ā hk]at e;exact h n c e
theorem jk(d:env.cells.lookup n=a5 a):∀(names:List (Str×OC)) (c:List (Str×hH)),c.lookup n=a5 a->(bz env names c).lookup n=a5 a
 |[],_,h=>h
 |(m,k)::r,c,h=>by
  unfold bz;refine jk d r _ ?_;by_cases hk:(k==M0)=cb
  ·rw[ÿ hk];cases q:env.cells.lookup m with
   |none=>exact h
   |some b =>
    simp only[t4];cases e:n==m with
    |true =>
     have f:n=m:=by simpa using e
     subst f;rw[d]at q;cases q;rfl
    |false=>exact h
  ·rw[ā hk];exact h
theorem gC(b:env.cells.lookup n=a5 a):∀(names:List (Str×OC)) (c:List (Str×hH)),(n,M0)∈names->(bz env names c).lookup n=a5 a
 |[],_,h=>by cases h
 |(m,k)::r,c,h=>by
  unfold bz;rcases fR.mp h with e|e
  ·cases e;refine jk b r _ ?_;rw[ÿ (by decide),b];simp[t4]
  ·exact gC b r _ e
theorem bS{env:Env}:∀{names:List (Str×OC)}{x:Str}{k:OC},
  (names.map λ(n,k)=>if (k==M0&&env.scope.kind==.function&&env.kindOf n==a5 .cell) then(n,NameKind.cell) else(n,k)).lookup x=a5 k ->
  names.lookup x=a5 k\/(k=.cell/\names.lookup x=a5 .free)
 |[],_,_,h=>by simp at h
 |(n,k0)::r,x,k,h=>by
  have e:=@bS env r x k;rw[ez]at h;by_cases b:(k0==M0&&env.scope.kind==.function&&env.kindOf n==a5 .cell)=cb
  ·simp only[ÿ b,t4]at h;cases a:x==n with
   |true =>
    rw[a]at h;have f:k0=.free:=by
     have:=(u5.mp (u5.mp b).1).1;simpa using this
    refine .inr ⟨by simpa using h.symm,by simp[t4,a,f]⟩
   |false =>
    rw[a]at h;rcases e h with z|⟨c,d⟩
    ·exact .inl (by simp[t4,a,z])
    ·exact .inr ⟨c,by simp[t4,a,d]⟩
  ·simp only[ā b,t4]at h;cases a:x==n with
   |true=>rw[a]at h;exact .inl (by simpa[t4,a] using h)
   |false =>
    rw[a]at h;rcases e h with z|⟨c,d⟩
    ·exact .inl (by simp[t4,a,z])
    ·exact .inr ⟨c,by simp[t4,a,d]⟩
noncomputable def Ja(X:Cx)(N:List Str)(scope:NA)(C:hH)(s:gj)(H:Hp)(ex:List hH):Cx where
 prog:=X.prog
 w:=X.w
 K:=X.K
 mg:=X.mg
 base:=X.base
 A:=X.A
 N:=N
 s₀:=s
 H₀:=H
 env:=Wt scope (bz X.env scope.names []) C X.env
 outer:=X.stack
 stack:=X.stack
 ex:=ex
 fn:=λ_=>cL
 calm:=X.calm
 pn:=[]
 xe:=λ_ _=>False
def d4(D N:List Str):Prop:=D.length=N.length/\∀(i:Nat) (y:Str),D[i]?=a5 y->N[i]?=a5 y\/y="."\/y=".."
theorem d4.refl(N:List Str):d4 N N:=⟨rfl,λ_ _ h=>.inl h⟩
theorem d4.set{D N:List Str}(h:d4 D N)(j:Nat){m:Str}(b:m="."\/m=".."):d4 (D.set j m) N:=by
 refine⟨by rw[Z5];exact h.1,λi y e=>?_⟩;by_cases a:j=i
 ·subst a;rw[List.getElem?_set,ÿ rfl]at e;split at e
  ·cases e;exact .inr b
  ·cases e
 ·rw[i6 a]at e;exact h.2 i y e
structure d5(X:Cx)(N own:List Str)(scope:NA):Prop where
 kind:scope.kind=.function
 Kl:∀y∈scope.names,y.2≠.cell
 names:∀y∈scope.names,y.2=.local->scope.names.lookup y.1=a5 .local
 nd:N.Nodup
 pre:N.take own.length=own
 loc:∀y∈scope.names,y.2=.local->y.1∈own\/y.1=".0"
 Vv:(".0":Str)∉N
 tail:d4 (N.drop own.length) X.N
 free:∀y∈scope.names,y.2=.free->X.env.scope.names.lookup y.1=a5 .cell\/X.env.scope.names.lookup y.1=a5 .free
 dot:∀y∈scope.names,y.1≠"."/\y.1≠".."
theorem mem_lookup{names:List (Str×OC)}(h:names.lookup x=a5 k):(x,k)∈names:=PySem.mem_of_lookup h
theorem d5.cells(S:d5 X N c scope)(b:X.Ok):∀y∈scope.names,y.2=.free->∃a,X.env.cells.lookup y.1=a5 a:=λy d e=>by
 rcases S.free y d e with z|z
 ·exact b.has y.1 (.inl z)
 ·exact b.has y.1 (.inr z)
theorem xA(S:d5 X N d scope)(I:Inv X pins σ H s)
  (D:s.heap.objs.size<=C) (Rp:s4.os=s.os) (hg:s4.gens=s.gens) (keep:∀b o,s.heap.get? b=a5 o->s4.heap.get? b=a5 o) (ns:∃m,s4.heap.Ns C m)
  (f:∀b∈ex,gV X pins H b/\b<s.heap.objs.size):Inv (Ja X N scope C s H ex) [] (kj d.length b6++σ) H s4:=by
 obtain⟨m0,P5⟩:=ns;have sub:=eS (env:=X.env) scope.names [] (λn c e=>by simp at e);have Rq:∀b∈ex,b<C:=λb g=>i9 (f b g).2 D;have tl:d.length<=N.length:=by have:=Ą Kz S.pre;rw[Ig]at this;lia
 refine⟨⟨I.ok.mod,?_,I.ok.glob,I.ok.blt,D,λx y c A w=>I.ok.inj x y c (sub x c A) (sub y c w),λx hx=>?_,λx c h _=>absurd (show cL=cb from h) (by decide),I.ok.hd,I.ok.frames,.inl rfl,λb g=>⟨hV (Rq b g),λx c e=>?_⟩,λb o e=>I.bs b o e,?_,λb o e g=>?_,λb g=>?_,I.stack,I.tH⟩,
  Rp,(by rw[hg];exact I.bare),Un.kept keep,⟨m0,P5,λi y v A w h3=>?_⟩,λx c e=>?_,I.HI.fresh D,λx c e=>I.ID x c (sub x c e),λp hp=>absurd (show p∈([]:List (hH×Obj)) from hp) (by simp),I.HI.kept keep,?_⟩
 ·show(Tv scope X.env).kind=.function;exact S.kind
 ·
  have JC:(Tv scope X.env).names.lookup x=a5 .cell\/(Tv scope X.env).names.lookup x=a5 .free:=hx;have t:scope.names.lookup x=a5 .free:=by
   rcases JC with z|z
   ·rcases bS z with q|⟨_,q⟩
    ·exact absurd rfl (S.Kl _ (mem_lookup q))
    ·exact q
   ·rcases bS z with q|⟨q,_⟩
    ·exact q
    ·cases q
  obtain⟨a,ha⟩:=S.cells I.ok (x,.free) (mem_lookup t) rfl;exact⟨a,gC ha scope.names [] (mem_lookup t)⟩
 ·exact(f b g).1.2.2.2.2.1 x c (sub x c e)
 ·exact Jj I.ok.Mp I.sz
 ·obtain⟨f0,J,L,O,f4,f5⟩:=(f b g).1;rcases O with z|z
  ·exact I.ok.Lg b o e z
  ·exact absurd (i9 (fx e) (Jj I.ok.Mp z)) (tr _)
 ·intro IW;obtain⟨f0,J,L,O,f4,f5⟩:=(f b g).1;rcases fR.mp (I.jV b IW) with z|z
  ·exact J z
  ·exact L z
 ·
  have hi:d.length<=i:=by
   by_cases hi:i<d.length
   ·rw[x3 (by simpa using hi),KX]at w;split at w<;>cases w
   ·lia
  rw[q9 (by simpa using hi),PF]at w;have Vw:(N.drop d.length)[i - d.length]?=a5 y:=by
   rw[L3];have e:d.length+(i - d.length)=i:=by lia
   rw[e];exact A
  have Q:(Tv scope X.env).names.lookup y=a5 .local\/(Tv scope X.env).names.lookup y=a5 .cell\/(Tv scope X.env).names.lookup y=a5 .free:=h3;have t:scope.names.lookup y=a5 .free:=by
   rcases Q with z|z|z
   ·rcases bS z with q|⟨q,_⟩
    ·exfalso
     have Jb:y∈d:=by
      rcases S.loc (y,.local) (mem_lookup q) rfl with z|z
      ·exact z
      ·have z':y=".0":=z;exact absurd (lg A) (by rw[z'];exact S.Vv)
     obtain⟨j,T,ej⟩:=QW Jb;have Lk:N[j]?=a5 y:=by
      have Y:(N.take d.length)[j]?=a5 y:=by rw[S.pre,oT T,ej]
      rw[X0 T]at Y;exact Y
     have:=jW S.nd Lk A;lia
    ·cases q
   ·rcases bS z with q|⟨_,q⟩
    ·exact absurd rfl (S.Kl _ (mem_lookup q))
    ·exact q
   ·rcases bS z with q|⟨q,_⟩
    ·exact q
    ·cases q
  have hX:X.N[i - d.length]?=a5 y:=by
   rcases S.tail.2 _ _ Vw with e|e|e
   ·exact e
   ·exact absurd e (S.dot _ (mem_lookup t)).1
   ·exact absurd e (S.dot _ (mem_lookup t)).2
  obtain⟨m,hn,hl⟩:=I.loc;have hv:X.env.scope.names.lookup y=a5 .cell\/X.env.scope.names.lookup y=a5 .free:=S.free (y,.free) (mem_lookup t) rfl;obtain⟨u,r,l⟩:=hl _ y v hX w (.inr hv);refine⟨u,r,?_⟩;rcases l with⟨k,_⟩|⟨k,c,e,z⟩
  ·have k':X.env.scope.names.lookup y=a5 .local:=k;rcases hv with q|q<;>(rw[k']at q;cases q)
  ·have hk:(Tv scope X.env).names.lookup y=a5 .cell\/(Tv scope X.env).names.lookup y=a5 .free:=by
    rcases Q with q|q|q
    ·rcases bS q with B|⟨B,_⟩
     ·rw[t]at B;cases B
     ·cases B
    ·exact .inl q
    ·exact .inr q
   obtain⟨o,ho,G⟩:=z;exact .inr ⟨hk,c,gC e scope.names [] (mem_lookup t),o,keep c o ho,G⟩
 ·obtain⟨v,o,ho,G⟩:=I.cell x c (sub x c e);exact⟨v,o,keep c o ho,G⟩
 ·rw[hY,PF,I.len];have e:N.length=d.length+(N.drop d.length).length:=by rw[ZJ];lia
  show _=N.length;rw[e,S.tail.1]
theorem pO(I:Inv X pins σ H s)
  (d:Inv (Ja X N scope C s H ex) L O j s4) (r:s.heap.objs.size<=D) (t:s.heap.objs.size<=C) (w:D≠C) (g:j D=b6) (rv:Vals l its) (pl:s4.heap.PlainList D its.toArray) (hl:l.length<=c6)
  (h:qs C s4.heap h') (k:∀b∈ex,gV X pins H b):Inv X pins σ (upd j D (.lst l)) {s4 with heap:=h' }:=by
 have m:j C=b6:=d.free;have lt:∀{b:hH} {o:Obj},s.heap.get? b=a5 o->b≠C/\b≠D:=λe=>⟨hV (i9 (fx e) t),hV (i9 (fx e) r)⟩
 refine I.Fo (s':={s4 with heap:=h' }) (ch:=ex) d.os ⟨λb o e n i f=>?_,λb o e n i f=>?_,λb o e n f=>?_,λb o e f=>?_,λb xs e=>?_,λb o u e=>?_,λb ps e=>?_⟩ (λa o e=>?_) d.bare λb i=>?_
 ·exact(h.2 b (lt e).1).trans (d.base.keep b o e n i f)
 ·obtain⟨x,q⟩:=d.base.slot b o e n i f;exact⟨x,(h.2 b (lt e).1).trans q⟩
 ·rw[aq (lt e).2];exact d.base.free b o e n f
 ·obtain⟨o',q⟩:=d.base.there b o e f;exact⟨o',(h.2 b (lt e).1).trans q⟩
 ·have q:=d.base.gJ b xs e;rw[aq (bG q g)];exact q
 ·have q:=d.base.JE b o u e;rw[aq (bG q g)];exact q
 ·obtain⟨more,q⟩:=d.base.JO b ps e;exact⟨more,by rw[aq (bG q g)];exact q⟩
 ·by_cases p:a=D
  ·subst p;rw[az]at e;cases e;obtain⟨n,q⟩:=pl;exact⟨hl,its,n,rv,(h.2 _ w).trans q⟩
  ·rw[aq p]at e;refine(d.HI a o e).gA (λc v y q=>(h.2 c ?_).trans q) (λc q=>?_) λc xs q=>?_
   ·rintro rfl;rcases y with z|z
    ·rw[<-z,m]at e;cases e
    ·rw[m]at z;cases z
   ·rw[aq (bG q g)];exact q
   ·rw[aq (bG q g)];exact q
 ·obtain⟨Q,A,T,B,G,J⟩:=k b i;exact⟨B,A,G,J⟩
section
theorem nY(I:Nat->gj->Prop)
  (b:∀n s,I n s->et (hE prog w) A (Pp it) (λr d=>match r with
   |none=>R (.ok .next) d
   |some v=>et (hE prog w) A (Ud a it v) (λ_ d=>et (hE prog w) A (R5 a env v) (λ_ j =>
     et (hE prog w) A (þ f cb λc r=>if r=cb then do let ok <-isTrue c env (H0 c env);pure (Oh ok) else pure (Oh r)) (λok i =>
      if ok=cb then et (hE prog w) A (H0 elt env) (λx k =>
       et (hE prog w) A (Mu (.builtin "list.append") [acc,x]) (λ_ l=>∃m,m<n/\I m l) (UT (hE prog w) A env λe s'=>R (.error e) s') k) (UT (hE prog w) A env λe s'=>R (.error e) s') i
      else ∃m,m<n/\I m i) (UT (hE prog w) A env λe s'=>R (.error e) s') j) (UT (hE prog w) A env λe s'=>R (.error e) s') d) (UT (hE prog w) A env λe s'=>R (.error e) s') d) (UT (hE prog w) A env λe s'=>R (.error e) s') s)
  (n:Nat) (h:I n s) :
  NF (hE prog w) A (.compLoop (.ListComp elt [⟨a,g,f,0⟩] scope pos) 0 it acc env) R s:=by
 refine codeAny_loop rfl I (λn s q=>?_) n h;show et _ A ((compTurn (.ListComp elt [⟨a,g,f,0⟩] scope pos) 0 it acc env).onRaise (λx=>do noteFrame x env;theTreesLotGoes x)) _ _ s;refine wpAny_noted ?_;rw[compTurn_list];refine bD (Y1 (bD (vu (b n s q) (λr d o=>?_) λ_ _ h'=>h')));cases r with
 |none=>exact c2 o
 |some v =>
  refine bD (vu o (λ_ B t=>?_) λ_ _ h'=>h');refine bD (vu t (λ_ j u=>bD (vu u (λok i p=>?_) λ_ _ h'=>h')) λ_ _ h'=>h');cases ok with
  |false=>exact c2 ⟨rfl,p⟩
  |true =>
   exact bD (bD (vu p (λx k y=>bD (vu y (λ_ l z=>c2 (c2 ⟨rfl,z⟩)) λ_ _ h'=>h')) λ_ _ h'=>h'))
end
def LZ(X:Cx)(a:List uv)(t:TT):Prop :=
 ∀(pins:List (hH×Obj)) (s:gj) (σ:St) (H:Hp) (Q:Bool->Hp->Prop),Inv X pins σ H s->t σ H Q ->
  et (hE X.prog X.w) X.A (þ a cb λc r=>if r=cb then do let b <-isTrue c X.env (H0 c X.env);pure (Oh b) else pure (Oh r)) (TP X pins σ Q) X.xe s
def Ht:TT:=λ_ H Q=>Q cb H
theorem tR:LZ X [] Ht:=λ_ _ _ H _ I h=>wpAny_tests_nil ⟨H,I,h⟩
theorem tS(h:PT X c t):LZ X [c] t:=λpins s σ H Q I q=>wpAny_tests_one (h pins s σ H Q I q)
def tT(k:Nat)(J:It)(g:TG)(l:TT)(n:TE)(Q:VK)(σ:St)(o:Hp):Prop :=
  ∃W:Nat->Nat->List V->Hp->Prop,(∃m,W 0 m [] o)/\∀i m a H,W i m a H->a.length<=c6 /\
    ((J.stop i H/\∀p,H p=b6->Q (.ref p) (upd H p (.lst a))) \/
     (J.go i H/\∃d:List V->Hp->Prop,(∀f H',d f H'->∃h,h<m/\W (i+1) h f H')/\∀x H',J.PV i H x H'->g x (kj k b6++σ) H' λe q=>∃c:St,c.length=k/\e=c++σ /\
        l e q λb j=>if b=cb then n e j λy r=>d (a++[y]) r else d a j))
def xB(k:Nat)(a:TI)(g:TG)(b:TT)(c:TE):TE:=λσ H Q=>a σ H λJ d=>tT k J g b c Q σ d
section
theorem xC
  (S:d5 X N t scope) (hc:X.calm=cb) (hg:∀C s H ex,PG (Ja X N scope C s H ex) tg g) (hf:∀C s H ex,LZ (Ja X N scope C s H ex) al tt) (he:∀C s H ex,PE (Ja X N scope C s H ex) elt te)
  (I:Inv X pins σ H s) (T:Turn X.prog X.w X.K tg J B it tn) (st:tn 0 s.heap) (f2:∀b∈B,gV X pins H b) (W:tT t.length J g tt te Q σ H)
  (hD:@Eq Nat D s.heap.objs.size) (hC:@Eq Nat C (s.heap.objs.size+1)) (Rp:s4.os=s.os) (Vy:s4.gens=s.gens) (keep:∀b o,s.heap.get? b=a5 o->s4.heap.get? b=a5 o) (ns:∃m,s4.heap.Ns C m) (pl:s4.heap.PlainList D #[])
  (am:∀s5 O L its,Inv (Ja X N scope C s H B) [] (kj t.length b6++σ) O s5->O D=b6->Vals L its->s5.heap.PlainList D its.toArray->L.length<=c6->(∀p,O p=b6->Q (.ref p) (upd O p (.lst L)))->R (.ok .next) s5) :
  NF (hE X.prog X.w) X.A (.compStart (.ListComp elt [⟨tg,an,al,0⟩] scope pos) 0 (.ref it) (.ref D) (Wt scope (bz X.env scope.names []) C X.env)) R s4:=by
 have L0:∀b∈B,@QB Nat _ b s.heap.objs.size:=λb h=>by
  obtain⟨o,e,_⟩:=T.obj 0 s.heap st b h;exact fx e
 have I4:Inv (Ja X N scope C s H B) [] (kj t.length b6++σ) H s4:=xA S I ⋯ Rp Vy keep ns λb h=>⟨f2 b h,L0 b h⟩
 have NU:tn 0 s4.heap:=T.keep 0 s.heap s4.heap st λb _ o e=>keep b o e;have nD:H D=b6:=I.HI.fresh ⋯;obtain⟨W,⟨m0,w0⟩,ZP⟩:=W;generalize k:Ja X N scope C s H B=f at I4 am;have eP:f.prog=X.prog:=by rw[<-k];rfl
 have ew:f.w=X.w:=by rw[<-k];rfl
 have eK:f.K=X.K:=by rw[<-k];rfl
 have ec:f.calm=cb:=by rw[<-k];exact hc
 have eA:f.A=X.A:=by rw[<-k];rfl
 have ee:f.env=Wt scope (bz X.env scope.names []) C X.env:=by rw[<-k];rfl
 have Rt:f.xe=λ_ _=>False:=by rw[<-k];rfl
 have el:f.env.locals=C:=by rw[ee];rfl
 have Ru:PG f tg g:=by rw[<-k];exact hg _ _ _ _
 have Rv:LZ f al tt:=by rw[<-k];exact hf _ _ _ _
 have OA:PE f elt te:=by rw[<-k];exact he _ _ _ _
 have s0:f.s₀=s:=by rw[<-k];rfl
 have OB:f.pn=[]:=by rw[<-k];rfl
 have Rw:∀{H':Hp} {o:Obj},(∀b∈B,H' b=b6)->∀b∈B,gV f [(D,o)] H' b:=λ{H' o} hn b h=>by
  have ex:f.ex=B:=by rw[<-k];rfl
  refine⟨hn b h,?_,?_,.inl (by rw[ex];exact h),λx c e=>?_,λp G=>?_⟩
  ·rw[el];have:=L0 b h;exact hV (by show @QB Nat _ b C;lia)
  ·have e1:f.fs=KC X.stack:=by rw[<-k];rfl
   rw[e1];intro z;obtain⟨f0,f1,Vz,f3,f4,f5⟩:=f2 b h;rcases fR.mp (I.jV b z) with q|q
   ·exact f1 q
   ·exact Vz q
  ·have e1:f.env.cells=bz X.env scope.names []:=by rw[ee];rfl
   rw[e1]at e;exact(f2 b h).2.2.2.2.1 x c (eS scope.names [] (λn c e=>by simp at e) x c e)
  ·rw[OB,mn]at G;have:p=(D,o):=by simpa using G
   subst this;have:=L0 b h;exact Jd (by show @QB Nat _ b D;lia)
 have Rx:∀{σ':St} {H':Hp} {s':gj} {o:Obj},Inv f [] σ' H' s'->H' D=b6->s'.heap.get? D=a5 o->(∀v,o.data≠.cell v)->Inv f [(D,o)] σ' H' s':=λ{σ' H' s' o} I' n e d =>
  I'.dP λp G=>by
   have:p=(D,o):=by simpa using G
   subst this;refine⟨e,n,?_,?_,d⟩
   ·rw[el];exact hV (by show @QB Nat _ D C;lia)
   ·have e1:f.fs=KC X.stack:=by rw[<-k];rfl
    rw[e1];intro z;have zz:(D:hH)∈KC X.stack:=z;rcases fR.mp (I.jV D zz) with q|q
    ·have:=I.lt;rw[<-q]at this;exact absurd this (by show ¬@QB Nat _ D s.heap.objs.size;lia)
    ·exact I.Dj (a:=D) ⋯ q
 have start:∀s':gj,s'=s4->NF (hE X.prog X.w) X.A (.compLoop (.ListComp elt [⟨tg,an,al,0⟩] scope pos) 0 (.ref it) (.ref D) (Wt scope (bz X.env scope.names []) C X.env)) R s':=by
  rintro s' rfl;refine nY (λn s'=>∃i L its H',Inv f [] (kj t.length b6++σ) H' s'/\tn i s'.heap/\(∀b∈B,H' b=b6)/\H' D=b6/\Vals L its/\s'.heap.PlainList D its.toArray/\W i n L H') ?_ m0
   ⟨0,[],[],H,I4,NU,λb h=>(f2 b h).1,nD,.nil,pl,w0⟩
  rintro n s3 ⟨i,L,its,H3,I3,Il,Oq,TY,P6,⟨nn,VA⟩,w3⟩;obtain⟨Y,KG⟩:=ZP i n L H3 w3;have IP:=Rx I3 TY VA (λv z=>by have z':Data.seq _ _=X' v:=z;cases z');rcases KG with⟨ap,qn⟩|⟨go,NN,TZ,ar⟩
  ·have d:=T.done f eP ew eK ec i _ s3 _ H3 (UT (hE X.prog X.w) X.A (Wt scope (bz X.env scope.names []) C X.env) λe s'=>R (.error e) s') IP (Rw Oq) Il ap;rw[eA]at d;refine HJ d λr s4 Ry=>?_;obtain⟨hr,I5⟩:=Ry;subst hr;have e5:=(I5.pin (D,({cls:=.type "list",data:=.seq its.toArray nn}:Obj)) (by rw[OB];simp)).1;exact am s4 H3 L its (I5.dP λp G=>by cases G) TY P6 ⟨nn,e5⟩ Y qn
  ·have d:=T.item f eP ew eK ec i _ s3 _ H3 (UT (hE X.prog X.w) X.A (Wt scope (bz X.env scope.names []) C X.env) λe s'=>R (.error e) s') IP (Rw Oq) Il go;rw[eA]at d;refine HJ d λr s4 Rz=>?_;obtain⟨u,hr,h4⟩:=Rz;subst hr;refine HJ h4 λ_ s5 RA=>?_;obtain⟨x,O,I5,r5,y5,K8,Q0⟩:=RA;have Yb:O D=b6:=(I5.pin (D,({cls:=.type "list",data:=.seq its.toArray nn}:Obj)) (by rw[OB];simp)).2.1;have Q1:=I5.pinned (Rw Q0) (T.obj _ _ K8);have a6:=Ru _ s5 _ O x u _ Q1 r5 (ar x O y5);rw[eP,ew,eA,ee,Rt]at a6;refine vu a6 (λ_ s6 ⟨σ6,H6,I6,q6⟩=>?_) λ_ _ z=>NC z;obtain⟨ow,as,rfl,q6⟩:=q6;have a7:=Rv _ s6 _ H6 _ I6 q6;rw[eP,ew,eA,ee,Rt]at a7;refine vu a7 (λb s7 ⟨H7,I7,q7⟩=>?_) λ_ _ z=>NC z;have ac:∀{s8:gj} {l:Hp} {JP:List V} {its':List dt} {nn':Nat},Inv f [] (ow++σ) l s8->tn (i+1) s8.heap->(∀b∈B,l b=b6)->l D=b6->Vals JP its'->s8.heap.PlainList D its'.toArray->(∃m',m'<n/\W (i+1) m' JP l) ->
     ∃m,m<n/\∃i L its H',Inv f [] (kj t.length b6++σ) H' s8/\tn i s8.heap/\(∀b∈B,H' b=b6)/\H' D=b6/\Vals L its/\s8.heap.PlainList D its.toArray/\W i m L H':=λ{s8 l JP its' nn'} I8 VB VC n8 VD VE w8=>by
    obtain⟨m',hm,w8⟩:=w8;refine⟨m',hm,i+1,JP,its',l,I8.weak (by simp[as]) (λj v e=>?_),VB,VC,n8,VD,VE,w8⟩;by_cases hj:j<t.length
    ·rw[x3 (by simpa using hj),KX]at e;split at e<;>cases e
    ·rw[q9 (by simpa using(Nat.not_lt.mp hj)),PF]at e;rw[q9 ⋯,as];exact e
   have ag:∀{σ':St} {l:Hp} {s8:gj},Inv f ([(D,({cls:=.type "list",data:=.seq its.toArray nn}:Obj))]++jX B s5.heap) σ' l s8->s8.heap.get? D=a5 {cls:=.type "list",data:=.seq its.toArray nn}/\l D=b6/\tn (i+1) s8.heap/\∀b∈B,l b=b6:=λ{σ' l s8} I8=>by
    have p1:=I8.pin (D,({cls:=.type "list",data:=.seq its.toArray nn}:Obj)) (by rw[OB];simp);refine⟨p1.1,p1.2.1,T.keep _ _ _ K8 λb h o e=>(I8.pin (b,o) (o3 _ (o3 _ (eO h e)))).1,λb h=>?_⟩;obtain⟨o,e,d⟩:=T.obj _ _ K8 b h;exact(I8.pin (b,o) (o3 _ (o3 _ (eO h e)))).2.1
   cases b with
   |false =>
    rw[ā q0]at q7 ⊢;obtain⟨p1,p2,p3,p4⟩:=ag I7;exact ac (nn':=0) (I7.dP λp G=>by cases G) p3 p4 p2 P6 ⟨nn,p1⟩ (TZ _ _ q7)
   |true =>
    rw[ÿ rfl]at q7 ⊢;have a8:=OA _ s7 _ H7 _ I7 q7;rw[eP,ew,eA,ee,Rt]at a8;refine vu a8 (λy s8 ⟨yv,l,I8,r8,q8⟩=>?_) λ_ _ z=>NC z;obtain⟨p1,p2,p3,p4⟩:=ag I8;have hsz:its.toArray.size<=c6:=by rw[hU,<-P6.length];exact Y
    refine wpAny_list_append_plain (hsz:=hsz) ⟨nn,p1⟩ λh9 VF T1=>?_;have VG:Inv f [] (ow++σ) l s8:=I8.dP λp G=>by cases G
    have P7:∀x c,f.env.cells.lookup x=a5 c->c≠D:=λx c e=>by
     have e1:f.env.cells=bz X.env scope.names []:=by rw[ee];rfl
     rw[e1]at e;have q:=eS scope.names [] (λn c e=>by simp at e) x c e;obtain⟨v,z⟩:=I.cell x c q;have:@QB Nat _ c s.heap.objs.size:=z.lt;exact hV (by show @QB Nat _ c D;lia)
    have I9:Inv f [] (ow++σ) l {s8 with heap:=h9,toks:=s8.toks}:=VG.turned (it:=D) (λb o h e=>(T1.2 b h).trans e) p2 (by rw[el];exact hV (by show @QB Nat _ D C;lia)) (.inr (by rw[s0];show @Ý Nat _ s.heap.objs.size D;lia)) P7 (λp G=>by rw[OB]at G;cases G);have VH:(its++[y]).toArray=its.toArray.push y:=by simp
    refine ac (nn':=0) (s8:={s8 with heap:=h9,toks:=s8.toks}) I9 (T.keep _ _ _ p3 λb h o e=>(T1.2 b ?_).trans e) p4 p2 (P6.append (.cons r8 .nil)) (by rw[VH];exact VF) (TZ _ _ q8);have:=L0 b h;exact hV (by show @QB Nat _ b D;lia)
 exact codeAny_compStart_list (start _ rfl) (T.self _ _ _ _ _ NU (start _ rfl))
theorem j9{RR:dt->hH->Result->gj->Prop}
    (S:d5 X N d scope) (B:X.calm=cb) (G:∀C s H ex,PG (Ja X N scope C s H ex) u g) (L:∀C s H ex,LZ (Ja X N scope C s H ex) k O) (Y:∀C s H ex,PE (Ja X N scope C s H ex) elt te)
 (I:Inv X pins σ H s) (T:Turn X.prog X.w X.K u J v it tn) (st:tn 0 s.heap) (f2:∀b∈v,gV X pins H b) (W:tT d.length J g O te Q σ H)
    (l:∀D C f c h its,@Eq Nat D s.heap.objs.size->@Eq Nat C (s.heap.objs.size+1)->Inv (Ja X N scope C s H v) [] (kj d.length b6++σ) c f->c D=b6->Vals h its->f.heap.PlainList D its.toArray->h.length<=c6->(∀p,c p=b6->Q (.ref p) (upd c p (.lst h)))->RR (.ref D) C (.ok .next) f) :
    et (hE X.prog X.w) X.A (Õ []) (λacc s₃=>et (hE X.prog X.w) X.A (newFunctionEnv scope X.env.globals (bz X.env scope.names []) [] X.env.qual b6 .none (a5 X.env)) (λx s₄ =>
      NF (hE X.prog X.w) X.A (.compStart (.ListComp elt [⟨u,z,k,0⟩] scope pos) 0 (.ref it) acc {x with scope:=Tv scope X.env}) (RR acc x.locals) s₄) E s₃) E s:=by
  refine vl (wpAny_newFunctionEnv S.Kl (by intro y hy;simp at hy) (λm n j=>?_) S.kind)
  dsimp only at n j ⊢
  generalize q:s.heap.push {cls:=.type "list",dict:=b6,data:=.seq ([]:List dt).toArray}=i at n j ⊢;have r:i.objs.size=s.heap.objs.size+1:=by rw[<-q,W9]
  have Rr:s.heap.objs.size≠i.objs.size:=by rw[r];exact hV (LX _)
  have a:∀b:hH,b<s.heap.objs.size->b≠i.objs.size:=λb hb=>hV (by have IW:@QB Nat _ b s.heap.objs.size:=hb;show @QB Nat _ b i.objs.size;lia);have t:∀b o,s.heap.get? b=a5 o->m.get? b=a5 o:=λb o e=>j.extBut b o (a b (fx e)) (cK _ (q▸cK _ e));have Ib:m.PlainList s.heap.objs.size #[]:=⟨_,j.extBut _ _ Rr (cK _ (q▸eH _ rfl))⟩
  exact xC (s:=s) (s4:={s with heap:=m,toks:=s.toks+([]:List (Str×dt)).length}) (C:=i.objs.size) (D:=s.heap.objs.size) S B G L Y I T st f2 W rfl r rfl rfl t ⟨_,n⟩ Ib
    λf c h its I5 n5 OD OE OF q5=>l _ _ f c h its rfl r I5 n5 OD OE OF q5
theorem AW(S:d5 X N b scope)(l:X.calm=cb)(hi:PI X d a m)(n:∀C s H ex,PG (Ja X N scope C s H ex) d g)(o:∀C s H ex,LZ (Ja X N scope C s H ex) c p)(q:∀C s H ex,PE (Ja X N scope C s H ex) elt r)
  (hs:∀x,MU a X.env x=pure x:=by intro _;rfl):PE X (.ListComp elt [⟨d,a,c,0⟩] scope pos) (xB b.length m g p r):=by
 intro pins s σ H Q I h;rw[eval_ListComp];refine Y3 (use:=b6) (cl:=bz X.env scope.names []) rfl hs (eC (S.cells I.ok)) S.kind S.names ?_;refine HJ (hi pins s σ H _ I h) λv s1 t=>HJ t λPX s2 u=>?_;obtain⟨it,fp,tn,J,H2,e,f,T,st2,i,W⟩:=u;subst e;refine j9 (RR:=λacc C=>compPost (hE X.prog X.w) X.A X.xe b6 (EP X pins σ Q) acc C) S l n o q f T st2 i W ?_;intro D C s5 H5 ys its y hC j k z B G L;obtain⟨O,Y,_⟩:=j.loc;exact⟨O,Y,λh' sb=>⟨.ref D,_,pO f j (YO y.symm) (by show @Ý Nat _ s2.heap.objs.size C;lia) (hV (by show @QB Nat _ D C;lia)) k z B G sb i,rfl,L D k⟩⟩
theorem AX(S:d5 X N q scope)(hc:X.calm=cb)(hN:X.N.Nodup)(P8:X.N[i]?=a5 y)(u:X.env.scope.names.lookup y=a5 .local)
  (hi:PI X m d wi) (hg:∀C s H ex,PG (Ja X N scope C s H ex) m g) (hf:∀C s H ex,LZ (Ja X N scope C s H ex) j tt) (he:∀C s H ex,PE (Ja X N scope C s H ex) elt te)
  (My:QO (.ListComp elt [⟨m,d,j,0⟩] scope pos) (a5 (.Name y l)) KS.line X.env=pure cb:=by rfl)
  (hs:∀x,MU d X.env x=pure x:=by intro _;rfl):PS X (.Assign [.Name y l] (.ListComp elt [⟨m,d,j,0⟩] scope pos) KS) (Dv (xB q.length wi g tt te) (tI i)):=by
 intro pins s σ H D I h;rw[exec_Assign_Name_used _ _ _ _ My];refine bD (Y1 (bD ?_));show et _ X.A (do let _ <-comprehension (.ListComp elt [⟨m,d,j,0⟩] scope pos) scope X.env _ (Õ []) cL (H0 d X.env) (a5 (R5 (.Name y l) X.env))) _ _ s;refine bD (vu (Y3 (use:=a5 (R5 (.Name y l) X.env)) (cl:=bz X.env scope.names []) (Q:=λ_ s'=>SP X pins D .next s') rfl hs (eC (S.cells I.ok)) S.kind S.names ?_) (λ_ s' hq=>c2 (c2 hq)) λ_ _ e=>e);refine HJ (hi pins s σ H _ I h) λv s1 h1=>HJ h1 λPX s2 h2=>?_;obtain⟨it,fp,tn,J,H2,e,k,T,st2,G,W⟩:=h2;subst e;refine j9 (RR:=λacc C=>compPost (hE X.prog X.w) X.A X.xe (a5 (R5 (.Name y l) X.env)) (λ_ s'=>SP X pins D .next s') acc C) S hc hg hf he k T st2 G W ?_;intro f C n r L its hD hC t O OD OE OF q5;obtain⟨m5,RC,_⟩:=t.loc;have VI:r C=b6:=t.free;have B:Inv X pins σ (upd r f (.lst L)) {n with heap:=n.heap}:=pO k t (YO hD.symm) (by show @Ý Nat _ s2.heap.objs.size C;lia) (hV (by show @QB Nat _ f C;lia)) O OD OE OF (J3 ..) G;show et _ X.A (R5 (.Name y l) X.env (.ref f)) _ _ n;refine Ò (lX (s:=n) B hN P8 (.inl u) (show RelV (.ref f) (.ref f) from rfl) (λs6 I6 ⟨a,sb,ha⟩=>?_) (.inr u));have Y:@QB Nat _ X.env.locals C:=by have:@QB Nat _ X.env.locals s2.heap.objs.size:=k.lt;lia
 have Ll:∀x c,X.env.cells.lookup x=a5 c->c≠C:=λx c e=>by
  obtain⟨v,z⟩:=k.cell x c e;have:@QB Nat _ c s2.heap.objs.size:=z.lt;exact hV (by show @QB Nat _ c C;lia)
 have VJ:C≠a:=by
  rcases ha with z|z
  ·rw[z];exact Jd Y
  ·exact(Ll _ _ z).symm
 refine⟨m5,RC.sameBut sb VJ,λh' OG=>?_⟩;refine⟨σ.set i (a5 (.ref f)),upd r f (.lst L),I6.turned (it:=C) (t':=s6.toks) (λb o hb e=>(OG.2 b hb).trans e) ?_ (Jd Y) (.inr (by have:@Ý Nat _ X.s₀.heap.objs.size s2.heap.objs.size:=k.sz;show @Ý Nat _ X.s₀.heap.objs.size C;lia)) Ll (λp hp=>?_),q5 f O⟩
 ·rw[aq (Jd (by show @QB Nat _ f C;lia))];exact VI
 ·have:@QB Nat _ p.1 s2.heap.objs.size:=fx (k.pin p hp).1;exact hV (by show @QB Nat _ p.1 C;lia)
end
section
end
section
def FU:V->Option Int->Option Int->Hp->VK->Prop:=λx lo hi H Q=>∃z,x=.str z/\z.length<=c6/\Q (.str (PySem.StrLaws.sliceText z lo hi)) H
theorem lI(x:Str)(lo hi:Option Int)(hz:x.length<=c6):(PySem.StrLaws.sliceText x lo hi).length<=c6:=Jj (Txt.slice_le x lo hi) hz
theorem DU:Mw X FU:=by
 intro pins s σ H x v f g lo hi m Q I e hs pl c h;obtain⟨z,rfl,hz,q⟩:=h;obtain⟨t,rfl⟩:=e;refine⟨"str",_,å.lookup,Yz _ _ _,?_⟩;have a:(PySem.StrLaws.sliceText z lo hi).length<=c6/\∀t' k,EP X pins σ Q (.str (PySem.StrLaws.sliceText z lo hi) t') {s with toks:=k}:=⟨lI z lo hi hz,λt' k=>⟨.str _,H,I.tok k,⟨_,rfl⟩,q⟩⟩
 cases pl with
 |none =>
  cases c with
  |none=>exact Py (l:=b6) (u:=b6) (st:=b6) hs rfl (Uc a)
  |int j b=>exact Py (l:=b6) (u:=a5 (j,b)) (st:=b6) hs rfl (Uc a)
 |int i d =>
  cases c with
  |none=>exact Py (l:=a5 (i,d)) (u:=b6) (st:=b6) hs rfl (Uc a)
  |int j b=>exact Py (l:=a5 (i,d)) (u:=a5 (j,b)) (st:=b6) hs rfl (Uc a)
theorem g9:∀{a:List Str}{its:List dt},Vals (a.map V.str) its->∃l:List (Str×Tok),its=strValues l/\l.map (·.1)=a
 |[],_,.nil=>⟨[],rfl,rfl⟩
 |y::a,_,.cons r t=>by
  obtain⟨b,rfl⟩:=r;obtain⟨l,rfl,e⟩:=g9 t;exact⟨(y,b)::l,rfl,by rw[ez,e]⟩
theorem AY:Ra X "str.join" (λx xs H Q=>∃a p b,x=.str a/\xs=[.ref p]/\Ij X.K H p (b.map V.str)/\É a b=cb/\Q (.str (TR a b)) H):=by
 intro pins s σ H x xs v us Q I c rs h;obtain⟨a,p,b,rfl,rfl,d,f,q⟩:=h;obtain⟨t,rfl⟩:=c;obtain⟨u,rfl,r⟩:=vals1 rs;cases r;obtain⟨its,rv,pl,hz⟩:=I.list d;obtain⟨l,rfl,e⟩:=g9 rv;exact SC.join pl.isList e f λt' k=>⟨.str _,H,I.tok k,⟨_,rfl⟩,q⟩
theorem jl:∀{a:List Bool}{its:List dt},Vals (a.map V.bl) its->its=a.map Rb
 |[],_,.nil=>rfl
 |b::a,_,.cons r t=>by
  cases r;rw[jl t];rfl
theorem xD:X.calm=cb->d_ X (.builtin "all") (λxs H Q=>∃(p:hH) (a:List Bool),xs=[.ref p]/\Ij X.K H p (a.map V.bl)/\Q (.bl (a.all id)) H):=by
 intro f pins s σ H xs us Q I rs h;obtain⟨p,a,rfl,g,q⟩:=h;obtain⟨u,rfl,r⟩:=vals1 rs;cases r;obtain⟨its,rv,pl,hz⟩:=I.list g;have e:=jl rv;subst e;have j:p<s.heap.objs.size:=by obtain⟨_,_,e,_⟩:=pl;exact fx e
 refine call_all_walk (Sw pl.isList ?_);refine⟨s.heap.objs.size,[s.heap.objs.size,p],[s.heap.objs.size],(a.map Rb).toArray.size,_,_,λi=>(a[i]?).getD cb,rfl,Ww (A:=X.A.in1) (I.ok.hd f) _ p (hV j) (a.map Rb).toArray,
  ⟨⟨_,eH _ rfl,rfl,rfl⟩,pl.isList.push _⟩,λi v s' Q' m k d=>?_,λh' l hk=>?_⟩
 ·have c:(a.map Rb)[i]?=a5 v:=by simpa using k
  rw[ki]at c;cases e:a[i]? with
  |none=>rw[e]at c;cases c
  |some b =>
   rw[e]at c;cases c;simp only[e,Option.getD_some]at d;exact JH d
 ·have e:((i1 (a.map Rb).toArray.size).all λi=>(a[i]?).getD cb)=a.all id:=by
   rw[hU,cc];exact Z8 a
  rw[e];exact⟨.bl _,H,I.kept (t':=l) (Z9 hk),rfl,q⟩
end
section
end
noncomputable def DV(N a:List Str)(scope:NA)(out:List (Str×OC)):Bool :=
 df (scope.kind=.function)&&scope.names.all (λy=>df (y.2≠.cell))&&scope.names.all (λy=>df (y.2≠.local)||decide (scope.names.lookup y.1=a5 .local))&&decide N.Nodup&&df (N.take a.length=a) &&
 scope.names.all (λy=>df (y.2≠.local)||decide (y.1∈a)||decide (y.1=".0"))&&df ((".0":Str)∉N)&&scope.names.all (λy=>df (y.2≠.free)||decide (out.lookup y.1=a5 .cell)||decide (out.lookup y.1=a5 .free))&&scope.names.all (λy=>df (y.1≠".")&&df (y.1≠".."))
theorem xE(c:X.env.scope.names=out)(d:d4 (N.drop a.length) X.N)(h:DV N a scope out=cb):d5 X N a scope:=by
 unfold DV at h;simp only[c4,i7,Lf,Ā]at h;obtain⟨⟨⟨⟨⟨⟨⟨⟨f,g⟩,i⟩,j⟩,k⟩,l⟩,m⟩,n⟩,o⟩:=h;refine⟨f,g,λy b e=>?_,j,k,λy b e=>?_,m,d,λy b e=>?_,o⟩
 ·rcases i y b with z|z
  ·exact absurd e z
  ·exact z
 ·rcases l y b with(z|z)|z
  ·exact absurd e z
  ·exact .inl z
  ·exact .inr z
 ·rw[c];rcases n y b with(z|z)|z
  ·exact absurd e z
  ·exact .inl z
  ·exact .inr z
section
end
section
end
noncomputable def J0(a b:Str):Bool:=!df (b.cps.toList<a.cps.toList)
theorem jH(a b:Str):J0 a b=cb↔a.cps.toList<=b.cps.toList:=by
 simp only[J0,x2,decide_eq_false_iff_not];exact List.not_lt
theorem mB(a b c:Str)(d:J0 a b=cb)(e:J0 b c=cb):J0 a c=cb:=by
 rw[jH]at d e ⊢;exact List.le_trans d e
theorem vS(a b:Str):(J0 a b||J0 b a)=cb:=by
 rw[Lf,jH,jH];exact List.le_total _ _
theorem xF{x y:Str}(h:x.cps.toList=y.cps.toList):x=y:=by
 cases x;cases y;congr
 exact Array.toList_inj.mp h
theorem nZ(c:J0 a b=cb)(d:J0 b a=cb):a=b:=by
 rw[jH]at c d;exact xF (List.le_antisymm c d)
noncomputable def aJ(l:List Str):List Str:=l.mergeSort J0
theorem bH(l:List Str):(aJ l).Perm l:=List.mergeSort_perm l J0
theorem j_(l:List Str):(aJ l).Pairwise (λa b=>J0 a b=cb):=List.pairwise_mergeSort mB vS l
theorem g_:∀(l:List Str) (p:Str),risingS p l=cb->(p::l).Pairwise (λa b=>J0 a b=cb)
 |[],p,_=>by simp
 |x::r,p,h=>by
  have h':(!ltCps x.cps.toList p.cps.toList&&risingS x r)=cb:=h;obtain⟨c,g⟩:=u5.mp h';have d:=g_ r x g;have f:J0 p x=cb:=by rw[ltCps_eq]at c;exact c
  refine Rm.mpr ⟨λy i=>?_,d⟩;rcases fR.mp i with e|e
  ·rw[e];exact f
  ·exact mB _ _ _ f ((Rm.mp d).1 y e)
theorem n9(h:sortedS l=cb):l.Pairwise (λa b=>J0 a b=cb):=by
 cases l with
 |nil=>exact .nil
 |cons x r=>exact g_ r x h
theorem iP:∀{l m:List Str},l.Perm m->l.Pairwise (λa b=>J0 a b=cb)->m.Pairwise (λa b=>J0 a b=cb)->l=m
 |[],m,c,_,_=>(List.Perm.nil_eq c)
 |x::l,m,c,d,f=>by
  cases m with
  |nil=>exact absurd c.length_eq (by simp)
  |cons y m =>
   obtain⟨a1,g⟩:=Rm.mp d;obtain⟨b1,h⟩:=Rm.mp f;have i:x=y:=by
    have m1:x∈y::m:=c.mem_iff.mp qP;have m2:y∈x::l:=c.mem_iff.mpr qP;rcases fR.mp m1 with e|e
    ·exact e
    ·rcases fR.mp m2 with e'|e'
     ·exact e'.symm
     ·exact nZ (a1 y e') (b1 x e)
   subst i;rw[iP (List.Perm.cons_inv c) g h]
theorem xG(a:l.Perm m)(hs:sortedS l=cb):l=aJ m:=iP (a.trans (bH m).symm) (n9 hs) (j_ m)
theorem dR(a:l.Perm m):aJ l=aJ m:=iP ((bH l).trans (a.trans (bH m).symm)) (j_ l) (j_ m)
theorem bT(l:List Str):(aJ l).length=l.length:=(bH l).length_eq
section
theorem cI:∀{a:List Str}{its:List dt},Vals (a.map V.str) its->Qv its a
 |[],_,.nil=>.nil
 |y::a,_,.cons r t=>by
  obtain⟨b,rfl⟩:=r;exact .cons y b (cI t)
theorem dv:∀{its:List dt}{a:List Str},Qv its a->Vals (a.map V.str) its
 |_,_,.nil=>.nil
 |_,_,.cons x t h=>.cons ⟨t,rfl⟩ (dv h)
theorem eT(hc:et (hE prog w) A.in1 (Zj x) (λvs s1=>∃ss,Qv vs ss/\vs.length<64 /\
      ∀(h':JN) (Io:List dt) (e:Nat),(∀b o,s1.heap.get? b=a5 o->h'.get? b=a5 o)->h'.get? s1.heap.objs.size=a5 (D6 "list" Io.toArray e)->Qv Io (aJ ss)->Q (.ref s1.heap.objs.size) {s1 with heap:=h' }) E s) :
    et (hE prog w) A (Mu (.builtin "sorted") [x]) Q E s:=by
  refine Ro Z2 Zr Zt (Zu _) ?_;unfold IG.«sorted»;refine bD (m:=Æ "sorted" 1 1 _) (c2 ?_);refine bD (vu hc (λvs s1 h1=>?_) λ_ _ e=>e);obtain⟨ss,hS,J1,h⟩:=h1
  refine wpAny_bind (wpAny_newList ?_ (by have : (64 : Nat) ≤ sizeLine := by decide
                                          lia))
  have KR:(s1.heap.push (D6 "list" vs.toArray 0)).get? s1.heap.objs.size=a5 (D6 "list" vs.toArray 0):=eH _ rfl;show et _ _ _ _ _ {s1 with heap:=s1.heap.push (D6 "list" vs.toArray 0)};refine bD (ri (va YL ⟨_,KR,rfl⟩ Ya (list_sort_treeK strKind_oneLt KR hS.keysOf (λv₁ v₂ rest e=>keyKind_strs (by rw[<-e];exact hS)) J1 λst' a1 a2=>⟨_,rfl,?_⟩) (YM _)));obtain⟨Ko,b1,b2,b3⟩:=sorted_out_str hS a1 a2;obtain⟨e,he⟩:=Y7 (out:=(arrOf st').map (·.2)) KR;rw[xG b2 b3]at b1;refine c2 ⟨_,rfl,h _ ((arrOf st').map (·.2)).toList e (λb o q=>?_) (by rw[Tg];exact he) b1⟩;have HQ:b<s1.heap.objs.size:=fx q;show(YH (s1.heap.push (D6 "list" vs.toArray 0)) s1.heap.objs.size vs ((arrOf st').map (·.2))).get? b=a5 o;rw[YF (hV HQ) (by rw[JU];exact Nv HQ)];exact cK _ q
theorem lJ(hl:XY s.heap l vs.toArray)
  (h:Q vs {s with heap:=(s.heap.push (D6 "list" #[] 0)).update s.heap.objs.size (nc (·++vs.toArray))}) (hsz:vs.length<=c6) :
  et (hE prog w) A (Zj (.ref l)) Q E s:=by
 obtain⟨o,ho,b,n,c⟩:=id hl;unfold Zj;refine bD (Yy (Iw entry_proto_collect' ?_));show et _ _ (do Ö (.builtin "list.__iadd__" ⟨[<-Õ [],.ref l],[]⟩)) _ _ s;refine bD (Ve (c2 ⟨Ze _ (by decide +kernel),Iw entry_list_iadd' ?_⟩));show et _ _ (mx (.ref s.heap.objs.size) (.ref l) (.ref s.heap.objs.size)) _ _ {s with heap:=s.heap.push (D6 "list" #[] 0)};unfold mx;have a:(s.heap.push (D6 "list" #[] 0)).get? l=a5 o:=cK _ ho;refine bD (P' (T:="tuple") ⟨o,a,b⟩ ?_);have d:(qb "tuple"==qb "tuple")=cb:=by rfl
 rw[ÿ (by rw[d];simp)];refine bD (Zs a c ?_);refine bD (Zs (xs:=#[]) (n:=0) (eH _ rfl) rfl ?_);rw[ā (by simp)];refine bD (Vi (xs:=#[]) (n:=0) (eH _ rfl) rfl ?_ (i8 _) (by show(#[]++vs.toArray).size<=c6+1;simp only[Uy,hU,SH];lia));refine c2 ?_;show et (hE prog w) A (do
   let o <-load s.heap.objs.size
   match o.data with
   |.seq xs _=>pure xs.toList
   |_=>XO "internal:collect") Q E {s with heap:=(s.heap.push (D6 "list" #[] 0)).update s.heap.objs.size (nc (·++vs.toArray))}
 refine bD (Á (ñ (eH _ rfl) _) ?_);show et _ _ (pure ((#[]:Array dt)++vs.toArray).toList) Q E _;rw[show((#[]:Array dt)++vs.toArray).toList=vs by simp];exact c2 h
end
section
theorem f_{h:JN}{vs:List dt}(e:h.get? b=a5 o):((h.push (D6 "list" #[] 0)).update h.objs.size (nc (·++vs.toArray))).get? b=a5 o:=by
 rw[Ol _ _ _ _ (hV (fx e))];exact cK _ e
theorem pP(I:Inv X pins σ H s)(k1:∀b o,s.heap.get? b=a5 o->s1.heap.get? b=a5 o)(g:∃c a,s1={s with heap:=c,toks:=a})
  (hk:∀b o,s1.heap.get? b=a5 o->h'.get? b=a5 o) (h:h'.get? s1.heap.objs.size=a5 (D6 "list" d.toArray e)) (i:Qv d (aJ ss)) (hsz:s.heap.objs.size<=s1.heap.objs.size) (hl:ss.length<=c6)
  (q:∀p,H p=b6->Q (.ref p) (upd H p (.lst ((aJ ss).map V.str)))):EP X pins σ Q (.ref s1.heap.objs.size) {s1 with heap:=h' }:=by
 obtain⟨c,a,rfl⟩:=g;have f:Inv X pins σ H {s with heap:=c,toks:=a}:=I.kept (t':=a) k1;refine⟨.ref c.objs.size,_,f.laid (t':=a) (o:=.lst ((aJ ss).map V.str)) hk (hW _) ⟨by rw[cc,bT];exact hl,d,e,dv i,h⟩,rfl,q _ (f.HI.fresh (hW _))⟩
theorem jm:d_ X (.builtin "sorted") (λxs H Q=>∃(p:hH) (a:List Str),xs=[.ref p]/\(Ij X.K H p (a.map V.str)\/Im X.K H p (a.map V.str))/\a.length<64/\∀q,H q=b6->Q (.ref q) (upd H q (.lst ((aJ a).map V.str)))):=by
 intro pins s σ H xs us Q I rs h;obtain⟨p,a,rfl,hq,i,q⟩:=h;obtain⟨u,rfl,r⟩:=vals1 rs;cases r;have hl:a.length<=c6:=Px (i9 i (by decide));have d:∀(its:List dt),Vals (a.map V.str) its->∀(h':JN) (c:List dt) (e:Nat),(∀b o,((s.heap.push (D6 "list" #[] 0)).update s.heap.objs.size (nc (·++its.toArray))).get? b=a5 o->h'.get? b=a5 o) ->
   h'.get? ((s.heap.push (D6 "list" #[] 0)).update s.heap.objs.size (nc (·++its.toArray))).objs.size=a5 (D6 "list" c.toArray e)->Qv c (aJ a) ->
   EP X pins σ Q (.ref ((s.heap.push (D6 "list" #[] 0)).update s.heap.objs.size (nc (·++its.toArray))).objs.size) {s with heap:=h' }:=λits rv h' c e hk f g =>
  pP (s1:={s with heap:=(s.heap.push (D6 "list" #[] 0)).update s.heap.objs.size (nc (·++its.toArray))}) I (λb o z=>f_ z) ⟨_,s.toks,rfl⟩ hk f g (by show s.heap.objs.size<=((s.heap.push (D6 "list" #[] 0)).update s.heap.objs.size (nc (·++its.toArray))).objs.size;rw[ZF,JU];exact JF _) hl q
 rcases hq with hq|hq
 ·obtain⟨its,rv,pl,hz⟩:=I.list hq;have j:its.length=a.length:=by rw[<-rv.length,cc]
  exact eT (collect_list pl.isList ⟨a,cI rv,⋯,λh' c e hk f g=>d its rv h' c e hk f g⟩ ⋯)
 ·obtain⟨its,rv,pl,hz⟩:=I.tuple hq;have j:its.length=a.length:=by rw[<-rv.length,cc]
  exact eT (lJ pl ⟨a,cI rv,⋯,λh' c e hk f g=>d its rv h' c e hk f g⟩ ⋯)
end
abbrev sK(P:H8)(w:Kp):=PySem.strKind P w
def aP(P:H8)(w:Kp)(h:JN)(a:hH)(led:Bool)(D:List Str):Prop :=
 ∃(L:List (Str×Tok)) (es:Array (Int×dt)) (ep:Nat) (t:Ox),h.get? a=a5 {cls:=.type "set",dict:=b6,data:=.set es ep t}/\es.toList=L.map (λp=>((sK P w).hash p.1,ve p.1 p.2)) /\
  (L.map (·.1)).Perm D/\D.Nodup/\t.fits es.size=cb/\es.size<IJ/\t.led=led/\(es.size=0\/t.plain=cL)
section
theorem ka{L:List (Str×Tok)}:ElemsOf (sK prog w) (L.map λp=>((sK prog w).hash p.1,ve p.1 p.2)):=by
 intro e a;obtain⟨p,_,rfl⟩:=mh.mp a;exact⟨⟨p.1,by simp[PySem.strKind,P4],rfl⟩,rfl⟩
theorem gb(x y:Str)(t:Tok):(sK prog w).is x (.str y t)=df (x=y):=by
 rw[Lh];simp[PySem.strKind,P4];exact⟨λh=>h.symm,λh=>h.symm⟩
theorem rC(t:Ox)(es:Array (Int×dt))(h:Int)(x:dt):(layNew t es h x).2.1.led=t.led:=by
 unfold layNew;split
 ·show(Yi (t.put _).1 _).led=t.led;unfold Yi;split<;>rfl
 ·rfl
theorem n_(t:Ox)(es:Array (Int×dt))(n:Nat):(YA t es n).2.1.led=t.led:=by
 unfold YA;split
 ·rename_i t' b a;have:t'.led=t.led:=by
   unfold UW S_ at a;cases c:Rc (LG n - 1) (es.map (·.1)) with
   |none=>rw[c]at a;cases a
   |some o=>rw[c]at a;cases a;rfl
  dsimp only
  split
  ·exact this
  ·rfl
 ·rfl
theorem kb(t:Ox)(es:Array (Int×dt))(n:Nat)(h:t.plain=cL):(YA t es n).2.1.plain=cL:=by
 unfold YA;split
 ·rename_i t' b a;have:t'.plain=t.plain:=by
   unfold UW S_ at a;cases c:Rc (LG n - 1) (es.map (·.1)) with
   |none=>rw[c]at a;cases a
   |some o=>rw[c]at a;cases a;rfl
  dsimp only
  split
  ·rw[this];exact h
  ·rfl
 ·rfl
theorem cY(h:l.Perm (L.map λp=>((sK prog w).hash p.1,ve p.1 p.2))):∃L':List (Str×Tok),l=L'.map (λp=>((sK prog w).hash p.1,ve p.1 p.2))/\L'.Perm L:=by
 have all:∀e∈l,∃p:Str×Tok,e=((sK prog w).hash p.1,ve p.1 p.2):=λe a=>by
  obtain⟨p,_,rfl⟩:=mh.mp (h.mem_iff.mp a);exact⟨p,rfl⟩
 have ex:∀l:List (Int×dt),(∀e∈l,∃p:Str×Tok,e=((sK prog w).hash p.1,ve p.1 p.2))->∃L':List (Str×Tok),l=L'.map (λp=>((sK prog w).hash p.1,ve p.1 p.2)):=by
  intro l;induction l with
  |nil=>intro _;exact⟨[],rfl⟩
  |cons e l c =>
   intro b;obtain⟨p,rfl⟩:=b e qP;obtain⟨L',rfl⟩:=c λe a=>b e (ux _ a);exact⟨p::L',rfl⟩
 obtain⟨L',rfl⟩:=ex l all;refine⟨L',rfl,?_⟩;have g:(L'.map λp=>((sK prog w).hash p.1,ve p.1 p.2)).map (λe=>match e.2 with|.str x t=>(x,t)|_=>(r6,0))=L':=by
  rw[i5];exact Vm _
 have d:(L.map λp=>((sK prog w).hash p.1,ve p.1 p.2)).map (λe=>match e.2 with|.str x t=>(x,t)|_=>(r6,0))=L:=by
  rw[i5];exact Vm _
 have:=h.map (λe=>match e.2 with|.str x t=>(x,t)|_=>(r6,0));rw[g,d]at this;exact this
theorem kf(hS:aP prog w s.heap a led D)(MA:D.length+1<IJ)
    (h:∀h',qs a s.heap h'->aP prog w h' a led (if x∈D then D else D++[x])->Q (df (x∉D)) {s with heap:=h' }) :
    et (hE prog w) A (setAddHashed a (.str x tk) ((sK prog w).hash x)) Q E s:=by
  obtain⟨L,es,ep,t,ho,II,HG,HR,hf,hb,IL,Iq⟩:=hS;have M3:(sK prog w).is x (.str x tk)=cb:=by rw[gb];simp
  have OH:ElemsOf (sK prog w) es.toList:=by rw[II];exact ka
  have hlen:es.size=D.length:=by rw[<-i2,II,cc,<-cc (f:=Z_) (as:=L),HG.length_eq]
  unfold setAddHashed setAddHashedIn;refine ri (bD (my ho rfl hf ?_))
  dsimp only
  rw[byScan_of (knd:=sK prog w) rfl hb OH];simp only[↓reduceIte];unfold setAddByScan;refine bD ?_;refine bD (LK ?_);refine bD (Þ (knd:=sK prog w) M3 ho rfl hf OH ?_);have mem_iff:(∃e∈es.toList,(sK prog w).is x e.2=cb)↔x∈D:=by
    rw[II,<-HG.mem_iff,mh];constructor
    · rintro⟨e,he,hi⟩
      obtain⟨p,hp,rfl⟩:=mh.mp he;rw[gb,Ā]at hi;exact⟨p,hp,hi.symm⟩
    · rintro⟨p,hp,e⟩
      exact⟨_,mh.mpr ⟨p,hp,rfl⟩,by rw[gb];simp[e]⟩
  cases hr:X2 (λe=>(sK prog w).is x e.2) es.toList with
  | some j =>
    dsimp only
    obtain⟨hj,P9,_⟩:=Ux.mp hr;have hx:x∈D:=mem_iff.mp ⟨es.toList[j],LS hj,P9⟩;refine c2 (c2 ?_);have e:s={s with heap:=s.heap}:=by cases s;rfl
    have:=h s.heap (J3 a s.heap) (by rw[ÿ hx];exact⟨L,es,ep,t,ho,II,HG,HR,hf,hb,IL,Iq⟩);rw[Ă (λz=>z hx)]at this;rw[e];exact this
  | none =>
    dsimp only
    have hx:x∉D:=λhx=>by
      obtain⟨e,he,hp⟩:=mem_iff.mpr hx;have:=XN.mp hr e he;rw[hp]at this;exact Bool.noConfusion this
    have VM:∀(b:Bool) {s₁:gj} {Q':Unit->gj->Prop},Q' () s₁->et (hE prog w) A (match b with|true=>à "set.scan.the-table-gave-way"|false=>pure ()) Q' E s₁ :=
      λb s₁ Q' hq=>by cases b<;>first|exact c2 hq|exact LK hq
    have NV:=layNew_perm t es ((sK prog w).hash x) (.str x tk);have KH:=layNew_fits t es ((sK prog w).hash x) (.str x tk);have K_:=rC t es ((sK prog w).hash x) (.str x tk);generalize hL:layNew t es ((sK prog w).hash x) (.str x tk)=NL at NV KH K_ ⊢;obtain⟨Iy,t1,Lm,VN⟩:=NL
    dsimp only at NV KH K_ ⊢
    rw[Zg,II,show [((sK prog w).hash x,ve x tk)]=[(x,tk)].map (λp=>((sK prog w).hash p.1,ve p.1 p.2)) from rfl,<-ke]at NV;obtain⟨L1,e1,VO⟩:=cY NV;have J2:Iy.size=D.length+1:=by rw[<-i2,NV.length_eq,cc,hY,<-hlen,<-i2,II,cc];rfl
    have T3:Iy.size<IJ:=by lia
    have MB:(L1.map (·.1)).Perm (D++[x]):=(VO.map _).trans (by rw[ke];exact HG.append_right _);have T4:(D++[x]).Nodup:=by
      rw[sL]
      exact ⟨HR, by simp, fun y hy z hz => by have : z = x := by simpa using hz
                                              subst this;rintro rfl;exact hx hy⟩
    refine bD (VM _ ?_);have L4:∀h',qs a s.heap h'->aP prog w h' a led (D++[x])->Q cb {s with heap:=h' }:=λh' sb hs=>by
      have:=h h' sb (by rw[ā hx];exact hs);rw[ă hx]at this;exact this
    have tail:∀(g:Bool->Sem Unit),(∀(b:Bool) (s₁:gj) (Q':Unit->gj->Prop),Q' () s₁->et (hE prog w) A (g b) Q' E s₁)->∀(R:Option Bool->gj->Prop),(∀h',qs a s.heap h'->aP prog w h' a led (D++[x])->R (a5 cb) {s with heap:=h' })->∀t2:Ox,t2.fits Iy.size=cb->t2.led=led->t2.plain=cL->et (hE prog w) A (do
        storeSet a Iy t2
        if (!Lm&&t2.tooFull)=true then do
            g (relayAll t2 Iy (SetTable.grown Iy.size)).2.2
            storeSet a (relayAll t2 Iy (SetTable.grown Iy.size)).1 (relayAll t2 Iy (SetTable.grown Iy.size)).2.1
            pure (some true)
          else pure (a5 cb)) R E s:=by
      intro g hg R hR t2 VP L5 L6;refine bD (VL ho rfl ?_ (Wr T3));have LL:(s.heap.update a (OZ Iy t2)).get? a=a5 {cls:=.type "set",dict:=b6,data:=.set Iy (ep+1) t2}:=by
        have:=nC (OZ Iy t2) ho rfl;exact this
      have OI:=u7 s.heap a (OZ Iy t2);split
      · have hp:=relayAll_perm t2 Iy (Nn Iy.size)
        have K':=relayAll_fits t2 Iy (Nn Iy.size);have RE:=n_ t2 Iy (Nn Iy.size);have L7:=kb t2 Iy (Nn Iy.size) L6;generalize RF:YA t2 Iy (Nn Iy.size)=Rl at hp K' RE L7 ⊢;obtain⟨MC,t3,T5⟩:=Rl
        dsimp only at hp K' RE L7 ⊢
        rw[e1]at hp;obtain⟨L2,e2,VQ⟩:=cY hp;have hsz:MC.size=Iy.size:=by rw[<-i2,hp.length_eq,<-e1,i2]
        refine bD (hg _ _ _ ?_);refine bD (VL LL rfl ?_ (Wr ⋯));have MD:((s.heap.update a (OZ Iy t2)).update a (OZ MC t3)).get? a=a5 {cls:=.type "set",dict:=b6,data:=.set MC (ep+1+1) t3}:=nC (OZ MC t3) LL rfl;refine c2 (hR _ (OI.trans (u7 _ a _)) ⟨L2,MC,_,t3,MD,e2,(VQ.map _).trans MB,T4,K',⋯,RE.trans L5,.inr L7⟩)
      · exact c2 (hR _ OI ⟨L1,Iy,_,t2,LL,e1,MB,T4,VP,T3,L5,.inr L6⟩)
    split
    · rename_i hp
      refine bD ?_;rw[hashByValue_scannable 8 rfl];refine c2 ?_;have ep:(if plainKind (ve x tk)=cb then t1 else {t1 with plain:=cL})={t1 with plain:=cL}:=rfl;rw[ep];refine tail _ ?_ _ ?_ {t1 with plain:=cL} (SetTable.fits_plain_off KH) (K_.trans IL) rfl
      · intro b s₁ Q' hq;cases b<;>first|exact c2 hq|exact LK hq
      · intro h' L8 IX;dsimp only;exact c2 (L4 h' L8 IX)
    · rename_i hp
      refine bD (c2 ?_);simp only[↓reduceIte];refine tail _ ?_ _ ?_ t1 KH (K_.trans IL) (Bool.eq_false_iff.mpr hp)
      · intro b s₁ Q' hq;cases b<;>first|exact c2 hq|exact LK hq
      · intro h' L8 IX;dsimp only;exact c2 (L4 h' L8 IX)
end
noncomputable def iQ(D:List Str)(x:Str):List Str:=if x∈D then D else D++[x]
noncomputable def aN(l:List Str):List Str:=l.foldl iQ []
theorem rD(h:D.Nodup):(iQ D x).Nodup:=by
  unfold iQ;split
  · exact h
  · rename_i hx
    rw[sL]
    exact ⟨h, by simp, fun y hy z hz => by have : z = x := by simpa using hz
                                           subst this;rintro rfl;exact hx hy⟩
theorem eU:∀(l D:List Str),D.Nodup->(l.foldl iQ D).Nodup/\(∀x,x∈l.foldl iQ D↔x∈D\/x∈l)/\(l.foldl iQ D).length<=D.length+l.length
 |[],D,h=>⟨h,by simp,by simp⟩
 |y::l,D,h=>by
  obtain⟨a,b,f⟩:=eU l (iQ D y) (rD h);have c:∀x,x∈iQ D y↔x∈D\/x=y:=λx=>by
   unfold iQ;split
   ·rename_i d;exact⟨.inl,λz=>z.elim id (λe=>e▸d)⟩
   ·simp
  have hl:(iQ D y).length<=D.length+1:=by
   unfold iQ;split
   ·lia
   ·simp
  refine⟨a,λx=>?_,by rw[SJ,ko];lia⟩;rw[SJ,b,c,fR,or_assoc]
theorem oa(l:List Str):(aN l).Nodup:=(eU l [] O9).1
theorem gD(l:List Str)(x:Str):x∈aN l↔x∈l:=by rw[aN,(eU l [] O9).2.1];simp
theorem kg(l:List Str):(aN l).length<=l.length:=by have:=(eU l [] O9).2.2;simpa[aN] using this
theorem pQ(l:List Str)(x:Str):aN (l++[x])=iQ (aN l) x:=by unfold aN;rw[List.foldl_append];rfl
section
variable{prog:H8}{w:Kp}{A:MY}{R:Result->gj->Prop}{I:hH}{fp wr:List hH}{G:Array Tf->Array Tf->Prop}{n:Nat}{P:Nat->dt->Prop}{St:Nat->gj->Prop}
theorem iR(W:XH prog w A.in1 I fp wr G n P St)(S:hH)(l:S∉fp)(led:Bool)
  (a:List Str) (hn:a.length=n) (u:∀i v,P i v->∃x t,a[i]?=a5 x/\v=.str x t) (c:n+1<IJ) :
  ∀(k i:Nat) (s:gj),n - i=k->i<=n->St i s->aP prog w s.heap S led (aN (a.take i)) ->
   (∀s',ZW (S::wr) G s s'->aP prog w s'.heap S led (aN a)->R (.ok (.ret .none)) s') ->
   NF (hE prog w) A (.builtin "set.update.loop" ⟨[.ref S,.ref I],[]⟩) R s:=by
 have m:S∉wr:=λh=>l (W.sub _ h);have p:∀b∈wr,b∈S::wr:=λb c=>ux _ c;intro k;induction k with
 |zero =>
  intro i s hk hi g f j;have y:i=n:=by lia
  subst y;refine Iw R4 ?_;rw[Ic M9 _];show et _ A.in1 (Pp (.ref I) >>= _) _ _ s;refine bD (W.done s _ _ g λs' d=>?_);show et _ A.in1 (ret l0) _ _ s';rw[I0 ⋯]at f;exact c2 (j s' (d.mono p) (by
   obtain⟨L,es,ep,t,ho,rest⟩:=f;exact⟨L,es,ep,t,d.heap S _ m ho,rest⟩))
 |succ k z =>
  intro i s hk hi g f j;have q:i<n:=by lia
  refine Iw R4 ?_;rw[Ic M9 _];show et _ A.in1 (Pp (.ref I) >>= _) _ _ s;refine bD (W.item i s _ _ q g λv s' B C d=>?_);obtain⟨x,t,D,rfl⟩:=u i v B;have H:aP prog w s'.heap S led (aN (a.take i)):=by
   obtain⟨L,es,ep,J,ho,rest⟩:=f;exact⟨L,es,ep,J,d.heap S _ m ho,rest⟩
  show et _ A.in1 (MR [ve x t] (setAdd S (.str x t)) >>= _) _ _ s';refine bD (ri ?_);unfold setAdd;refine ri ?_;refine bD ((sK prog w).pyHash (k:=x) (by rw[gb];simp) ?_);have N:(aN (a.take i)).length+1<IJ:=by have:=kg (a.take i);rw[Ig]at this;lia
  refine kf (s:={s' with toks:=s'.toks+1}) H N λh' r O=>?_;have Q:aP prog w h' S led (aN (a.take (i+1))):=by
   rw[List.take_add_one,D];show aP prog w h' S led (aN (a.take i++[x]));rw[pQ];exact O
  refine c2 ⟨Ma M9 _,z (i+1) _ ⋯ q (W.frame _ s' _ _ C (JF _) λb c o e=>?_) Q λT Y RH=>?_⟩
  ·rw[r.2 b (λh:b=S=>l (by rw[<-h];exact c))];exact e
  ·refine j T (Te W.gtrans ((d.mono p).then_heap (JF _) λb o c e=>?_) Y) RH;rw[r.2 b (λh:b=S=>c (by rw[h];exact qP))];exact e
end
section
theorem lK(a:dt)
  (h:Q₁ (.ref s.heap.objs.size) {s with heap:=s.heap.push {cls:=.type "set",dict:=b6,data:=.set #[] 0 (.fresh 0 0 (!w.params.followText "set-order"))}}) :
  NF (hE prog w) A (.call (.builtin "set.__new__") ⟨[.type "set",a],[]⟩) (wants Q₁ E) s:=by
 refine X7 ?_;show et _ A.in1 (do â "set.__new__" ⟨[.type "set",a],[]⟩;Ö (.builtin "set.__new__" ⟨[.type "set",a],[]⟩)) _ _ s;refine bD (Li (PySem.F.newCall_set_1 a) (c2 ⟨Ma PySem.F.plain_set_new _,Iw PySem.F.entry_set_new ?_⟩));rw[Ic PySem.F.plain_set_new _];unfold IG.«set.__new__» Z0;have b:=V7;obtain⟨c,g,d,e,os⟩:=s
 dsimp only
 wp_walk
 refine QM (c2 ?_)
 dsimp only
 simp only[newObj];refine bD (wpAny_alloc (c2 ?_));exact c2 h
theorem gE(b:h.get? a=a5 {cls:=.type "set",dict:=b6,data:=.set #[] 0 (.fresh 0 0 led)}):aP prog w h a led [] :=
 ⟨[],#[],0,_,b,rfl,.nil,O9,rfl,by unfold IJ;decide,rfl,.inl rfl⟩
end
theorem sub_tuple_set:OM (.type "tuple") (.type "set")=pure cL:=by rw[vr];kernel_rfl
theorem sub_tuple_frozenset:OM (.type "tuple") (.type "frozenset")=pure cL:=by rw[vr];kernel_rfl
section
abbrev aB(w:Kp):Bool:=!w.params.followText "set-order"
abbrev rE(led:Bool):Obj:={cls:=.type "set",dict:=b6,data:=.set #[] 0 (.fresh 0 0 led)}
theorem hJ
  (L:s.TypeIs (.ref l) T) (VT:OM (.type T) (.type "set")=pure cL) (VU:OM (.type T) (.type "frozenset")=pure cL) (IF:(qb T==qb "dict")=cL)
  (N:a.length+1<IJ)
  (k:∀(s1:gj) (B:MY) (Q':dt->gj->Prop),B.handled=A.handled->(∀b o,s.heap.get? b=a5 o->s1.heap.get? b=a5 o)->s.heap.objs.size<s1.heap.objs.size ->
   (∀I m n G P St d,XH prog w B.in1 I m n G a.length P St->(∀g g',G g g'->g'=g)->s.heap.objs.size∉m->(∀b∈n,s.heap.objs.size<b)->(∀i v,P i v->∃x t,a[i]?=a5 x/\v=.str x t)->St 0 {s1 with heap:=d}->(∀b o,s1.heap.get? b=a5 o->d.get? b=a5 o)->Q' (.ref I) {s1 with heap:=d})->et (hE prog w) B (XD (.ref l)) Q' E s1)
  (h:∀(h':JN) (f:Nat),aP prog w h' s.heap.objs.size (aB w) (aN a)->(∀b o,b<s.heap.objs.size->s.heap.get? b=a5 o->h'.get? b=a5 o)->Q (.ref s.heap.objs.size) {s with heap:=h',toks:=f}) :
  et (hE prog w) A (Mu (.type "set") [.ref l]) Q E s:=by
 obtain⟨c,tl,VV⟩:=PySem.F.called_set.mro;have T7:=PySem.F.called_set.made;have Ln:=PySem.F.called_set.sub;refine wpAny_call (X7 ?_);show et _ _ (callAny (.type "set") _) _ _ _;refine c2 ⟨Ze _ (by decide +kernel),Iw PySem.F.entry_type_call ?_⟩;rw[Around.under_plain (weight_type_call_type "set" [.ref l] []) rfl];have d:=PySem.F.called_set.notType;have h2:=PySem.F.called_set.canCreate;have Yc:=PySem.F.typeCall_set_1 (.ref l)
 repeat (any_goals (first|assumption|wp_step))
 refine Tx (lK (.ref l) (E:=E) (Q₁:=λobj C=>obj=.ref s.heap.objs.size/\C={s with heap:=s.heap.push (rE (aB w))}) ⟨rfl,rfl⟩) λr C p=>?_;cases r with
 |error e=>exact p
 |ok O =>
  cases O with
  |ret obj =>
   obtain⟨rfl,rfl⟩:=p;have D:(s.heap.push (rE (aB w))).get? s.heap.objs.size=a5 (rE (aB w)):=eH _ rfl;have Y:RJ {s with heap:=s.heap.push (rE (aB w))} (.ref s.heap.objs.size) "set":=⟨_,D,rfl⟩
   have Yd:=PySem.F.called_set.init.lookup;have Ye:=PySem.F.called_set.init.bind (.ref s.heap.objs.size)
   repeat (any_goals (first|assumption|wp_step))
   refine Tx (codeAny_call_builtin (R:=wants (λr H=>r=.none/\∃h' f,H={s with heap:=h',toks:=f} /\
     aP prog w h' s.heap.objs.size (aB w) (aN a) /\
     (∀b o,b<s.heap.objs.size->s.heap.get? b=a5 o->h'.get? b=a5 o)) E) PySem.F.called_set.init.plain PySem.F.entry_set_init (check_set_init_1 Y ?_)) λr₂ H q=>?_
   ·obtain⟨ol,OJ,J⟩:=L;obtain⟨VW,OK,OL,M6⟩:=ol;simp only at J;subst J;have RK:(s.heap.push (rE (aB w))).get? l=a5 {cls:=.type T,dict:=OK,data:=OL,slots:=M6}:=cK _ OJ;have T8:RJ {s with heap:=s.heap.push (rE (aB w))} (.ref l) T:=⟨_,RK,rfl⟩
    unfold IG.«set.__init__» noKeywords ZY;generalize VX:XD=PI
    wp_walk
    subst VX;refine k {s with heap:=s.heap.push (rE (aB w))} _ _ rfl (λb o e=>cK _ e) (by rw[JU];exact LX _) λI m n G P St d W hG hf VY M4 HL hk=>?_;refine bD (Yy ?_);refine iR W s.heap.objs.size hf (aB w) a rfl M4 N (a.length - 0) 0 _ ⋯ (i8 _) HL (gE (hk _ _ D)) ?_;intro s' j u;obtain⟨h',g',d',P_,Q5⟩:=s';have eg:g'=s.gens:=hG _ _ j.gens;have ed:d'=s.drawn:=j.drawn;have eo:Q5=s.os:=j.os;subst eg;subst ed;subst eo;show et _ _ _ _ _ _;refine c2 ?_;show et _ _ (ret l0) _ _ _;refine c2 ⟨rfl,h',P_,rfl,u,λb o y e=>?_⟩;exact j.heap b o (λz=>by
     rcases fR.mp z with z|z
     ·rw[z]at y;exact tr _ y
     ·exact absurd (VY b z) (Vl y)) (hk _ _ (cK _ e))
   ·cases r₂ with
    |error e=>exact q
    |ok VZ =>
     cases VZ with
     |ret r =>
      obtain⟨rfl,h',f,rfl,u,Ip⟩:=q
      repeat (any_goals (first|assumption|wp_step))
      exact h _ _ u Ip
     |_=>exact q.elim
  |_=>exact p.elim
end
section
theorem oe:∀{vs:List dt}{ss:List Str},Qv vs ss->∀(i:Nat) (v:dt),vs[i]?=a5 v->∃x t,ss[i]?=a5 x/\v=.str x t
 |_,_,.nil,i,v,h=>by simp at h
 |_,_,.cons x t h,0,v,e=>by simp at e;exact⟨x,t,rfl,e.symm⟩
 |_,_,.cons x t h,i+1,v,e=>by rw[Si]at e;rw[Si];exact oe h i v e
theorem hZ:∀{vs:List dt}{ss:List Str},Qv vs ss->vs.length=ss.length
 |_,_,.nil=>rfl
 |_,_,.cons x t h=>by simp[hZ h]
theorem tU(a:n≠S)(b:n≠l):n∉[S,l]:=by simp[a,b]
theorem fy(k:A.handled=b6)(hl:s.heap.IsList l vs.toArray)(f:Qv vs a)(c:a.length+1<IJ)
  (h:∀(h':JN) (m:Nat),aP prog w h' s.heap.objs.size (aB w) (aN a)->(∀b o,b<s.heap.objs.size->s.heap.get? b=a5 o->h'.get? b=a5 o)->Q (.ref s.heap.objs.size) {s with heap:=h',toks:=m}) :
  et (hE prog w) A (Mu (.type "set") [.ref l]) Q E s:=by
 have g:l<s.heap.objs.size:=let ⟨o,ho,_⟩:=hl;fx ho;refine hJ hl.typeIs PySem.F.sub_list_set PySem.F.sub_list_frozenset (by decide) c (λs1 B Q' n hk d p=>?_) h;have j:s1.heap.IsList l vs.toArray:=let ⟨o,ho,r⟩:=hl;⟨o,hk _ _ ho,r⟩;refine Sw j ?_;have q:l≠s1.heap.objs.size:=hV (Pw g d);have W:=(Ww (prog:=prog) (w:=w) (A:=B.in1) (by simp[n,k]) s1.heap.objs.size l q vs.toArray).toS;have t:vs.toArray.size=a.length:=by simp[hZ f]
 rw[t]at W;refine p _ _ _ _ _ _ _ W (λ_ _ e=>e) (tU (hV d) (Jd g)) (λb c=>by rw[i3.mp c];exact d) (λi v u=>oe f i v (by simpa using u)) ⟨⟨_,eH _ rfl,rfl,rfl⟩,j.push _⟩ λb o e=>cK _ e
theorem gc(k:A.handled=b6)(hl:s.heap.IsTuple l vs.toArray)(f:Qv vs a)(c:a.length+1<IJ)
  (h:∀(h':JN) (m:Nat),aP prog w h' s.heap.objs.size (aB w) (aN a)->(∀b o,b<s.heap.objs.size->s.heap.get? b=a5 o->h'.get? b=a5 o)->Q (.ref s.heap.objs.size) {s with heap:=h',toks:=m}) :
  et (hE prog w) A (Mu (.type "set") [.ref l]) Q E s:=by
 have g:l<s.heap.objs.size:=let ⟨o,ho,_⟩:=hl;fx ho;refine hJ hl.typeIs sub_tuple_set sub_tuple_frozenset (by decide) c (λs1 B Q' n hk d p=>?_) h;have j:s1.heap.IsTuple l vs.toArray:=let ⟨o,ho,r⟩:=hl;⟨o,hk _ _ ho,r⟩;refine O' j ?_;have q:l≠s1.heap.objs.size:=hV (Pw g d);have W:=(Walks.tuple (prog:=prog) (w:=w) (A:=B.in1) (by simp[n,k]) s1.heap.objs.size l q vs.toArray).toS;have t:vs.toArray.size=a.length:=by simp[hZ f]
 rw[t]at W;refine p _ _ _ _ _ _ _ W (λ_ _ e=>e) (tU (hV d) (Jd g)) (λb c=>by rw[i3.mp c];exact d) (λi v u=>oe f i v (by simpa using u)) ⟨⟨_,eH _ rfl,rfl,rfl⟩,let ⟨o,ho,r⟩:=j;⟨o,cK _ ho,r⟩⟩ λb o e=>cK _ e
theorem og(a:n≠0)(h:∀i<n,Q i {s with drawn:=s.drawn.bump src}):et M A (choose src n) Q E s:=λΓ p b=>by
 show Sem.wp M Γ (.choose src n .pure) _ _ p s;rw[Sem.wp_choose];exact⟨a,h _ (XM _ (Nat.pos_of_ne_zero a))⟩
theorem gF:∀{xs:List α}{i:Nat}{x:α},xs[i]?=a5 x->(x::xs.eraseIdx i).Perm xs
 |[],i,x,h=>by simp at h
 |y::a,0,x,h=>by simp at h;subst h;exact .refl _
 |y::a,i+1,x,h=>by
  rw[Si]at h;rw[So];exact(Y_ y x _).trans ((gF h).cons y)
theorem gf:∀(n:Nat) (xs:List α) (s:gj) (Q:List α->gj->Prop),xs.length=n->(∀a d,a.Perm xs->Q a {s with drawn:=d})->et M A (drawOrder n xs) Q E s
 |0,xs,s,Q,b,h=>by
  have:xs=[]:=Sd.mp b;subst this;exact c2 (h [] s.drawn (.refl _))
 |n+1,[],s,Q,b,h=>by simp at b
 |n+1,y::a,s,Q,b,h=>by
  show et M A (choose .order (y::a).length >>= _) Q E s;refine bD (og (by simp) λi hi=>?_);have e:(y::a)[i]?=a5 ((y::a)[i]'hi):=oT hi;have c:=gF e;generalize (y::a)[i]'hi=x at e c;simp only[e];refine bD (gf n _ _ _ (by have:=c.length_eq;simp at this b ⊢;lia) λzs d hz=>?_);exact c2 (h (x::zs) d ((hz.cons x).trans c))
theorem jn(next:Nat->Nat):∀(fuel k:Nat) (left:List α) (out:Array α),left.length=fuel->(We next fuel k left out).toList.Perm (out.toList++left)
 |0,k,left,out,hl=>by
  have:left=[]:=Sd.mp hl;subst this;simp[We]
 |fuel+1,k,left,out,hl=>by
  unfold We;have a:next k % left.length<left.length:=XM _ ⋯;have e:left[next k % left.length]?=a5 (left[next k % left.length]'a):=oT a;have b:=gF e;generalize left[next k % left.length]'a=x at e b;simp only[e];refine(jn next fuel _ _ _ (by have:=b.length_eq;simp at this;lia)).trans ?_;rw[Zg,ZC];exact(b.append_left _)
theorem dC(next:Nat->Nat)(xs:Array α):(XE next xs).toList.Perm xs.toList:=by
 have:=jn next xs.size 0 xs.toList #[] (by simp);simpa[XE] using this
end
namespace SI
theorem pR:Y6.lookup (ZN ['r','o','t','a','r','e','t','i','_','t','e','s'].reverse)=a5 Manifest.sig_set_iterator:=by kernel_rfl
theorem slot_next:ZV "set_iterator" "__next__" "set_iterator.__next__" :=
 .of (owner:="set_iterator") (n:="__next__") (by rw[Iv,tA];kernel_rfl) (by decide +kernel) (by decide +kernel) (by decide +kernel)
  (by first|exact .inl (by decide +kernel)|exact .inr (by decide +kernel)) (by rw[vr];kernel_rfl)
theorem entry_next:S9 Za "set_iterator.__next__"=a5 IG.«set_iterator.__next__»:=S8 (by kernel_rfl)
theorem args_next(a:dt):Uw "set_iterator.__next__" ⟨[a],[]⟩:=by
 unfold Uw;rw[SF (id:="set_iterator.__next__") (n:=['_','_','t','x','e','n','_','_']) (o:=['r','o','t','a','r','e','t','i','_','t','e','s']) (by kernel_rfl) pR];kernel_rfl
theorem mC:ZV "set_iterator" "__iter__" "set_iterator.__iter__" :=
 .of (owner:="set_iterator") (n:="__iter__") (by rw[Iv,tA];kernel_rfl) (by decide +kernel) (by decide +kernel) (by decide +kernel)
  (by first|exact .inl (by decide +kernel)|exact .inr (by decide +kernel)) (by rw[vr];kernel_rfl)
theorem vT(a:dt):Uw "set_iterator.__iter__" ⟨[a],[]⟩:=by
 unfold Uw;rw[SF (id:="set_iterator.__iter__") (n:=['_','_','r','e','t','i','_','_']) (o:=['r','o','t','a','r','e','t','i','_','t','e','s']) (by kernel_rfl) pR];kernel_rfl
theorem rF:S9 Za "set_iterator.__iter__"=a5 IG.«dict_keyiterator.__iter__» :=
 Uu (id':="dict_keyiterator.__iter__") (by kernel_rfl) (by first|rfl|decide +kernel|(unfold ZD;simp +decide [Y0])) (by decide +kernel) (by kernel_rfl)
theorem kh:S9 Za "set.__iter__"=a5 IG.«frozenset.__iter__» :=
 Uu (id':="frozenset.__iter__") (by kernel_rfl) rfl (by decide +kernel) (by kernel_rfl)
end SI
section
variable{prog:H8}{w:Kp}{A:MY}{E:dt->gj->Prop}{s:gj}
def gG(h:JN)(I:hH)(first:dt)(i:Nat)(S:hH)(n ep:Nat):Prop:=∃o,h.get? I=a5 o/\o.cls=.type "set_iterator"/\o.data=.fields #[first,ti i,.ref S,ti n,ti ep]
theorem gG.typeIs(x:gG s.heap I f i S n ep):s.TypeIs (.ref I) "set_iterator":=let ⟨o,ho,a,_⟩:=x;⟨o,ho,a⟩
theorem AZ(a:gG s.heap I f i S n ep)(h:Q (.ref I) s):et (hE prog w) A (XD (.ref I)) Q E s:=by
 refine VS a.typeIs SI.mC (va SI.mC a.typeIs SI.rF ?_ (SI.vT _));show et _ _ (ret (.ref I)) _ _ s;exact c2 ⟨_,rfl,"set_iterator",_,a.typeIs,SI.slot_next.lookup,h⟩
theorem cJ(h:Q (M.w.params.followText "set-order") s):et M A Ä Q E s:=by
 unfold Ä;exact bD (QM (c2 h))
end
end L2
namespace L2
open PySem PySem.Spec PyProof.Rows
section
variable{prog:H8}{w:Kp}{A:MY}{E:dt->gj->Prop}{s:gj}
abbrev oh(es:Array (Int×dt))(ep:Nat)(t:Ox):Obj:={cls:=.type "set",dict:=b6,data:=.set es ep t}
theorem pS{I:hH}{B:MY}{Q:Option dt->gj->Prop}{c:JN}{k:dt->Sem (Option dt)}(d:B.handled=b6)
  (f:∀h',(∀b o,c.get? b=a5 o->h'.get? b=a5 o)->∀e,RJ {s with heap:=h' } e "StopIteration"->E e {s with heap:=h' }) {Q':Fin->gj->Prop} :
  et (hE prog w) B (YC (.type "StopIteration") [] >>= λe=>(V' e:Sem Fin)) Q' E {s with heap:=c}:=by
 refine bD ?_;simp only[YC,ZR];refine bD (vl ?_ (by size_fits));refine bD (m:=Qh _ _) (Li (a:=l0) (by first|rfl|(simp only[Qh];rfl)) ?_);refine vl ?_ (by size_fits);simp only[V'];refine bD (Y2 ?_);rw[d];refine bD (c2 (ZO ?_));exact f _ (λb o e=>cK _ (cK _ e)) _ ⟨_,eH _ rfl,rfl⟩
theorem tV{I S:hH}{first:dt}{i ep:Nat}{es:Array (Int×dt)}{t:Ox}(d:gG s.heap I first i S es.size ep)(ho:s.heap.get? S=a5 (oh es ep t))(j:t.fits es.size=cb)
  (k:∀(Q':Fin->gj->Prop) (h:dt->gj->Prop) ,(∀v s',Q (a5 v) s'->Q' (.done (.ret v)) s')->(∀e s',s'.TypeIs e "StopIteration"->Q b6 s'->h e s') ->
   et (hE prog w) A.in1 (if let .int slot _:=first then(do
     match <-V8 S slot.toNat i ep with
     |some (x,next) =>
      V9 (.ref I) 0 (ti next)
      V9 (.ref I) 1 (ti ((i:Int)+1))
      ret x
     |none=>V9 (.ref I) 2 .none;V' (<-YC (.type "StopIteration") []))
    else(do
     let a5 c <-XC first|unsupported "internal:set_iterator"
     match c[i]? with
     |some (.int f _) =>
      let x <-Zi S f.toNat ep
      V9 (.ref I) 1 (ti ((i:Int)+1))
      ret x
     |some _=>XO "internal:set_iterator"
     |none=>V9 (.ref I) 0 (ti 0);V9 (.ref I) 2 .none;V' (<-YC (.type "StopIteration") []))) Q' h s):et (hE prog w) A (Pp (.ref I)) Q E s:=by
 obtain⟨o,l,n,m⟩:=id d;unfold Pp;refine bD (Q4 (LF (name:=M7 "__next__") d.typeIs SI.slot_next
  (va SI.slot_next d.typeIs SI.entry_next ?_ (SI.args_next _))))
 unfold IG.«set_iterator.__next__»;refine bD (Li (a:=(i0 I,[])) rfl ?_)
 try dsimp only
 refine bD (wpAny_fieldsOf l m ?_)
 try dsimp only
 refine bD (RG ho rfl j ?_);rw[ā (by simp)];refine vu (k (λg s'=>∃r,g=.done (.ret r)/\Q (a5 r) s') (λe s'=>s'.TypeIs e "StopIteration"/\Q b6 s') (λv s' q=>⟨v,rfl,q⟩) λe s' z q=>⟨z,q⟩) ?_ ?_
 ·rintro g s' ⟨r,rfl,q⟩;exact⟨r,rfl,c2 q⟩
 ·rintro e s' ⟨z,q⟩;refine bD (KA (T:="StopIteration") (b:=cb) z YD ?_);exact c2 q
end
section
theorem tW{I S:hH}{f f':dt}{i n ep:Nat}{h:JN}{o:Obj}(b:h.get? I=a5 o)(c:o.cls=.type "set_iterator")(a:o.data=.fields #[f,ti i,.ref S,ti n,ti ep]):
  gG (h.update I (X_ (·.setIfInBounds 1 (ti ((i:Int)+1))))) I f (i+1) S n ep :=
 ⟨_,nC _ b (Nu (HM a _)),(R0 ..).trans c,by rw[HM a];simp⟩
theorem pT{h:JN}(b:h.get? I=a5 o)(c:o.cls=.type "set_iterator")(a:o.data=.fields #[f,ti i,.ref S,ti n,ti ep]):
  ∃o',(h.update I (X_ (·.setIfInBounds 0 f'))).get? I=a5 o'/\o'.cls=.type "set_iterator"/\o'.data=.fields #[f',ti i,.ref S,ti n,ti ep] :=
 ⟨_,nC _ b (Nu (HM a _)),(R0 ..).trans c,by rw[HM a];simp⟩
theorem xH{I S:hH}{slot i ep:Nat}{es:Array (Int×dt)}{t:Ox}{Q:Option dt->gj->Prop}(a:gG s.heap I (ti slot) i S es.size ep)(ho:s.heap.get? S=a5 (oh es ep t))(j:t.fits es.size=cb)(l:A.handled=b6)
  {r:Option (dt×Nat)} (m:∀(B:MY) (f:dt->gj->Prop) (Q':Option (dt×Nat)->gj->Prop),Q' r s->et (hE prog w) B (V8 S slot i ep) Q' f s)
  (n:∀x nx,r=a5 (x,nx)->∀h',gG h' I (ti nx) (i+1) S es.size ep->qs I s.heap h'->Q (a5 x) {s with heap:=h' })
  (q:r=b6->∀h',(∀b o,b≠I->s.heap.get? b=a5 o->h'.get? b=a5 o)->Q b6 {s with heap:=h' }):et (hE prog w) A (Pp (.ref I)) Q E s:=by
 refine tV a ho j λQ' f u v=>?_;obtain⟨o,c,y,d⟩:=id a;show et _ _ (V8 S slot i ep >>= _) _ _ s;refine bD (m _ _ _ ?_);cases r with
 |some p =>
  obtain⟨x,nx⟩:=p
  dsimp only
  refine bD (JK c d (by simp) ?_);obtain⟨o',g,z,h⟩:=pT (f':=ti nx) c y d;refine bD (JK (s:={s with heap:=_}) g h (by simp) ?_);exact c2 (u _ _ (n x nx rfl _ (tW (f':=ti nx) g z h) ((u7 ..).trans (u7 ..))))
 |none =>
  dsimp only
  refine bD (JK c d (by simp) ?_);refine pS (I:=I) (k:=λ_=>pure b6) (Q:=λ_ _=>True) (s:=s) (by simpa using l) λh' hk e C=>v e _ C (q rfl h' λb D G H=>hk b D ?_);rw[Ol _ _ _ _ G];exact H
theorem DW{I S T:hH}{i ep:Nat}{es:Array (Int×dt)}{t:Ox}{pl:List Nat}{Q:Option dt->gj->Prop}(a:gG s.heap I (.ref T) i S es.size ep)(ho:s.heap.get? S=a5 (oh es ep t))(l:t.fits es.size=cb)(q:A.handled=b6)
  (r:s.heap.IsTuple T ((pl.map λ(j:Nat)=>ti j).toArray))
  (u:∀(j:Nat) (e:Int×dt),pl[i]?=a5 j->es[j]?=a5 e->∀h',gG h' I (.ref T) (i+1) S es.size ep->qs I s.heap h'->Q (a5 e.2) {s with heap:=h' })
  (v:∀j∈pl,j<es.size)
  (x:pl[i]?=b6->∀h',(∀b o,b≠I->s.heap.get? b=a5 o->h'.get? b=a5 o)->Q b6 {s with heap:=h' }):et (hE prog w) A (Pp (.ref I)) Q E s:=by
 refine tV a ho l λQ' N y z=>?_;obtain⟨o,c,m,d⟩:=id a;obtain⟨O,B,Y,nT,C⟩:=r;show et _ _ (XC (.ref T) >>= _) _ _ s;refine bD (Qc B C ?_);cases e:pl[i]? with
 |some j =>
  have f:(pl.map λ(j:Nat)=>ti j).toArray[i]?=a5 (ti j):=by simp[e]
  simp only[f];have g:j<es.size:=v j (lg e);have h:es[j]?=a5 (es[j]'g):=by simp[g]
  show et _ _ (Zi S (j:Int).toNat ep >>= _) _ _ s;unfold Zi;rw[Ny];refine bD (bD (my ho rfl l ?_))
  dsimp only
  rw[ā (by simp)];generalize es[j]'g=p at h;simp only[h];refine c2 ?_;refine bD (JK c d (by simp) ?_);exact c2 (y _ _ (u j p e h _ (tW (f':=.ref T) c m d) (u7 ..)))
 |none =>
  have f:(pl.map λ(j:Nat)=>ti j).toArray[i]?=b6:=by simp at e ⊢;exact e
  simp only[f];refine bD (JK c d (by simp) ?_);obtain⟨o',D,e2,G⟩:=pT (f':=ti 0) c m d;refine bD (JK (s:={s with heap:=_}) D G (by simp) ?_);refine pS (I:=I) (k:=λ_=>pure b6) (Q:=λ_ _=>True) (s:=s) (by simpa using q) λh' hk ex H=>z ex _ H (x e h' λb J n L=>hk b J ?_);rw[Ol _ _ _ _ n,Ol _ _ _ _ n];exact L
end
section
theorem gG.at(x:gG h I f i S n ep)(e:∀o,h.get? I=a5 o->h'.get? I=a5 o):gG h' I f i S n ep:=let ⟨o,ho,r⟩:=x;⟨o,e _ ho,r⟩
theorem kl(q:A.handled=b6)(n:S≠I)(r:t.fits es.size=cb)(T:hH)(p:T≠I)(c:List dt)(k:c.length=es.size)
  (first:Nat->dt) (a:JN->Prop) (l:∀h h',a h->(∀o,h.get? T=a5 o->h'.get? T=a5 o)->a h')
  (m:∀(s:gj) (i:Nat) (E:dt->gj->Prop) (Q:Option dt->gj->Prop),i<=es.size->a s.heap->gG s.heap I (first i) i S es.size ep->s.heap.get? S=a5 (oh es ep t) ->
   (∀x,c[i]?=a5 x->∀h',gG h' I (first (i+1)) (i+1) S es.size ep->qs I s.heap h'->Q (a5 x) {s with heap:=h' }) ->
   (c[i]?=b6->∀h',(∀b o,b≠I->s.heap.get? b=a5 o->h'.get? b=a5 o)->Q b6 {s with heap:=h' })->et (hE prog w) A (Pp (.ref I)) Q E s) :
  Walks prog w A I [I,S,T] [I] es.size (λi v=>c[i]?=a5 v) (λi h=>i<=es.size/\gG h I (first i) i S es.size ep/\h.get? S=a5 (oh es ep t)/\a h) where
 sub:=λb d=>by rw[i3.mp d];simp
 frame:=λi h h' x hk=>⟨x.1,x.2.1.at λo e=>hk I (by simp) o e,hk S (by simp) _ x.2.2.1,l h h' x.2.2.2 λo e=>hk T (by simp) o e⟩
 item:=λi s Q E hi x f=>by
  refine m s i E Q x.1 x.2.2.2 x.2.1 x.2.2.1 (λv g h' j hs=>?_) λz=>absurd z (by simp;lia);refine f v h' s.toks g ⟨hi,j,?_,l _ h' x.2.2.2 λo e=>?_⟩ λb o d e=>?_
  ·rw[hs.2 S n];exact x.2.2.1
  ·rw[hs.2 T p];exact e
  ·rw[hs.2 b λz=>d (by simp[z])];exact e
 done:=λs Q E x f=>by
  refine m s es.size E Q x.1 x.2.2.2 x.2.1 x.2.2.1 (λv g=>absurd g (by rw[PQ ⋯];simp)) λ_ h' hk=>f h' s.toks λb o d e=>hk b o (λz=>d (by simp[z])) e
 self:=λi s Q E x f=>AZ x.2.1 f
theorem oi(ho:s.heap.get? S=a5 (oh es ep t))(a:t.fits es.size=cb)(h:Q (!w.params.followText "set-order"&&(!t.plain&&df (es.size>1))) s):et (hE prog w) A (setDrawn S) Q E s:=by
 unfold setDrawn;refine bD (my ho rfl a ?_)
 dsimp only
 exact bD (cJ (c2 h))
theorem oj(a:w.params.followText "set-order"=cb)(ho:s.heap.get? S=a5 (oh es ep t))(b:t.fits es.size=cb)
  (h:Q ((XE (w.params.setOrder S ep) es)[i]?.map λe=>(e.2,0)) s):et (hE prog w) A (V8 S 0 i ep) Q E s:=by
 unfold V8;refine bD (my ho rfl b ?_)
 dsimp only
 refine bD (cJ ?_);show et _ _ (if (w.params.followText "set-order")=cb then _ else _) _ _ s;rw[ÿ a];rw[ā (by simp)];unfold setWalk;refine bD (bD (my ho rfl b ?_))
 dsimp only
 refine bD (cJ ?_);show et _ _ (if (w.params.followText "set-order")=cb then _ else _) _ _ s;rw[ÿ a];refine bD (QM (c2 ?_));exact c2 h
theorem pU(hw:w.params.followText "set-order"=cL)(ho:s.heap.get? S=a5 (oh es ep t))(hf:t.fits es.size=cb)(hl:t.led=cb)(h1:es.size<=1)
    (h:Q (match es[MF t.place slot]?,t.place[MF t.place slot]? with|some (_,x),a5 j=>a5 (x,j+1)|_,_=>b6) s):et (hE prog w) A (V8 S slot i ep) Q E s:=by
  unfold V8;refine bD (my ho rfl hf ?_)
  dsimp only
  refine bD (cJ ?_);show et _ _ (if (w.params.followText "set-order")=cb then _ else _) _ _ s;rw[ā (by rw[hw];simp)];show et _ _ (if (!t.plain&&df (es.size>1))=cb then _ else _) _ _ s
  rw [if_neg (by have : decide (es.size > 1) = false := decide_eq_false (by lia)
                 rw[this];simp)]
  show et _ _ ((if (!t.led&&!es.isEmpty)=cb then _ else _) >>= _) _ _ s;rw[ā (by rw[hl];simp)];exact bD (c2 (c2 h))
theorem pV(es:Array (Int×dt))(pl:Array Nat)(i:Nat)(b:es.size<=1)(c:pl.size=es.size)(a:i<=es.size):
  (match es[MF pl (if i=0 then 0 else(pl[0]?).getD 0+1)]?,pl[MF pl (if i=0 then 0 else(pl[0]?).getD 0+1)]? with|some (_,x),a5 j=>a5 (x,j+1)|_,_=>b6)=es[i]?.map λe=>(e.2,(pl[0]?).getD 0+1):=by
 obtain⟨es⟩:=es;obtain⟨pl⟩:=pl
 match es,pl,b,c,a with
 |[],[],_,_,a=>simp
 |[e],[p],_,_,a =>
  match i,a with
  |0,_ =>
   have:MF #[p] 0=0:=by simp[MF,WH]
   simp[this]
  |1,_ =>
   have:MF #[p] (p+1)=1:=by simp[MF,WH]
   simp[this]
  |n+2,h=>simp at h
 |[],_::_,_,h,_=>simp at h
 |[_],[],_,h,_=>simp at h
 |[_],_::_::_,_,h,_=>simp at h
 |_::_::_,_,h,_,_=>simp at h
theorem xI(C:B.handled=b6)(hS:aP prog w s.heap S (aB w) D)
  (h:∀(I:hH) (fp:List hH) (n:Nat) (P:Nat->dt->Prop) (St:Nat->JN->Prop) (c:List Str) (h':JN) (d':Drawn),Walks prog w B I fp [I] n P St->c.Perm D->n=c.length->(∀i v,P i v->∃x T,c[i]?=a5 x/\v=.str x T)->s.heap.objs.size<=I->(∀b∈fp,b=S\/s.heap.objs.size<=b)->St 0 h' ->
   (∀b o,s.heap.get? b=a5 o->h'.get? b=a5 o)->Q (.ref I) {s with heap:=h',drawn:=d' }):et (hE prog w) A (XD (.ref S)) Q E s:=by
 obtain⟨L,es,ep,t,ho,II,Y,HR,a,d,IL,Iq⟩:=hS;have T9:s.TypeIs (.ref S) "set":=⟨_,ho,rfl⟩
 have Lo:S<s.heap.objs.size:=fx ho;refine VS T9 PySem.F.slot_set_iter (va PySem.F.slot_set_iter T9 SI.kh ?_ (PySem.F.args_set_iter_1 _));unfold IG.«frozenset.__iter__» ZZ slotArgs;simp only[List.isEmpty_nil,Ð,Ke,↓reduceIte,bind_assoc,SH,bne_self_eq_false];unfold T6 PD;refine bD (c2 ?_)
 try dsimp only
 refine bD (c2 ?_);refine bD (bD (RG ho rfl a (c2 ?_)));have Qa:D.length=es.size:=by rw[<-Y.length_eq,cc,<-i2,II,cc]
 have f:∀(l:List (Int×dt)),l.Perm es.toList->∃c:List Str,c.Perm D/\c.length=es.size/\∀(i:Nat) (v:dt),(l.map (·.2))[i]?=a5 v->∃(x:Str) (T:Tok),c[i]?=a5 x/\v=ve x T:=by
  intro l hl;rw[II]at hl;obtain⟨L',e',p'⟩:=cY hl;refine⟨L'.map (·.1),(p'.map _).trans Y,by rw[((p'.map _).trans Y).length_eq,Qa],λi v G=>?_⟩;subst e';rw[i5,ki]at G;rw[ki];cases q:L'[i]? with
  |none=>rw[q]at G;simp at G
  |some p=>rw[q]at G;simp at G;exact⟨p.1,p.2,rfl,G.symm⟩
 refine bD (oi ho a ?_);cases hw:w.params.followText "set-order" with
 |true =>
  simp only[Ð,Xz,Ke,↓reduceIte];refine bD (c2 ?_);refine bD (bD (my ho rfl a (c2 ?_)));refine bD (vl ?_);have m:S≠s.heap.objs.size:=hV Lo;obtain⟨c,H,J,N⟩:=f (XE (w.params.setOrder S ep) es).toList (dC _ _);have W:=kl (prog:=prog) (w:=w) (A:=B) (I:=s.heap.objs.size) (S:=S) (es:=es) (ep:=ep) (t:=t) C m a S m ((XE (w.params.setOrder S ep) es).toList.map (·.2)) (by rw[cc,(dC _ _).length_eq,i2]) (λ_=>ti 0) (λ_=>True) (λ_ _ _ _=>trivial)
   (λs i E Q _ _ g u k1 k2=>xH (slot:=0) g u a C (λB E' Q' q=>oj hw u a q) (λx nx e h' O hs=>by
    rw[fS]at e;obtain⟨p,y,e2⟩:=e;cases e2;exact k1 _ (by rw[ki,ro,y];rfl) h' O hs) (λe=>k2 (by rw[ki,ro,R'];rwa [R']at e)))
  refine c2 ⟨_,rfl,"set_iterator",_,⟨_,eH _ rfl,rfl⟩,SI.slot_next.lookup,?_⟩;exact h _ _ _ _ _ c _ s.drawn W H J.symm N (hW _) (λb d=>by
   simp only[fR,Sa,or_false]at d;rcases d with rfl|rfl|rfl
   ·exact .inr (hW _)
   ·exact .inl rfl
   ·exact .inl rfl) ⟨i8 _,⟨_,eH _ rfl,rfl,rfl⟩,cK _ ho,trivial⟩ λb o e=>cK _ e
 |false =>
  by_cases hsz:es.size>1
  ·have IV:t.plain=cL:=by
    rcases Iq with z|z
    ·lia
    ·exact z
   have y:(!cL&&(!t.plain&&df (es.size>1)))=cb:=by rw[IV,ă hsz];rfl
   rw[y];simp only[↓reduceIte];refine bD (gf _ _ _ _ w6 λpl d' hp=>?_);simp only[ZR];have L6:∀j∈pl,j<es.size:=λj hj=>by have:=hp.mem_iff.mp hj;simpa using this
   have OO:pl.length=es.size:=by rw[hp.length_eq];simp
   refine bD (vl ?_ (by
    show(pl.map λ(j:Nat)=>ti j).toArray.size<=_;have:es.size<4096:=d;simp only[hU,cc,OO];have:(4096:Nat)<=c6:=by decide
    lia))
   have KU:(s.heap.push {cls:=.type "tuple",data:=.seq (pl.map λ(j:Nat)=>ti j).toArray}).get? S=a5 (oh es ep t):=cK _ ho;refine bD (bD (my (s:={s with heap:=_,drawn:=d' }) KU rfl a (c2 ?_)));refine bD (vl ?_);have V2:s.heap.objs.size≠(s.heap.push {cls:=.type "tuple",data:=.seq (pl.map λ(j:Nat)=>ti j).toArray}).objs.size:=by rw[JU];exact hV (LX _)
   have m:S≠(s.heap.push {cls:=.type "tuple",data:=.seq (pl.map λ(j:Nat)=>ti j).toArray}).objs.size:=by rw[JU];exact hV (Nv Lo)
   have M8:(pl.map λj=>(es[j]?).getD (0,l0)).Perm es.toList:=by
    refine(hp.map _).trans ?_;have:(i1 es.size).map (λj=>(es[j]?).getD (0,l0))=es.toList:=by
     apply LU
     ·simp
     ·intro i h1 h2;simp at h1 ⊢;simp[h1]
    rw[this]
   obtain⟨c,H,J,N⟩:=f _ M8;have W:=kl (prog:=prog) (w:=w) (A:=B) (I:=(s.heap.push {cls:=.type "tuple",data:=.seq (pl.map λ(j:Nat)=>ti j).toArray}).objs.size) (S:=S) (es:=es) (ep:=ep) (t:=t) C m a s.heap.objs.size V2 ((pl.map λj=>(es[j]?).getD (0,l0)).map (·.2)) (by simp[OO]) (λ_=>.ref s.heap.objs.size) (λh=>h.IsTuple s.heap.objs.size (pl.map λ(j:Nat)=>ti j).toArray) (λh h' ⟨o,ho,r⟩ k=>⟨o,k _ ho,r⟩)
    (λs' i E Q _ KI g u k1 k2=>DW g u a C KI (λj e ej ee h' O hs=>k1 _ (by rw[ki,ki,ej];simp[ee]) h' O hs) L6 (λe=>k2 (by rw[ki,ki,e];rfl)))
   refine c2 ⟨_,rfl,"set_iterator",_,⟨_,eH _ rfl,rfl⟩,SI.slot_next.lookup,?_⟩;refine h _ _ _ _ _ c _ d' W H J.symm N (by rw[JU];exact JF _) (λb d=>?_) ⟨i8 _,⟨_,eH _ rfl,rfl,rfl⟩,cK _ KU,⟨_,cK _ (eH _ rfl),rfl,_,rfl⟩⟩ λb o e=>cK _ (cK _ e);rw[JU]at d;simp only[fR,Sa,or_false]at d;rcases d with rfl|rfl|rfl
   ·exact .inr (JF _)
   ·exact .inl rfl
   ·exact .inr (hW _)
  ·have y:(!cL&&(!t.plain&&df (es.size>1)))=cL:=by rw[Ă hsz];simp
   rw[y];simp only[Ke,↓reduceIte];refine bD (c2 ?_);refine bD (bD (my ho rfl a (c2 ?_)));refine bD (vl ?_);have m:S≠s.heap.objs.size:=hV Lo;have V3:t.led=cb:=by rw[IL];show(!w.params.followText "set-order")=cb;rw[hw];rfl
   obtain⟨c,H,J,N⟩:=f es.toList (.refl _);have Kg:t.place.size=es.size:=by
    unfold Rg at a;simp only[c4,beq_iff_eq]at a;exact a.1
   have W:=kl (prog:=prog) (w:=w) (A:=B) (I:=s.heap.objs.size) (S:=S) (es:=es) (ep:=ep) (t:=t) C m a S m (es.toList.map (·.2)) (by simp) (λi=>ti ((if i=0 then 0 else(t.place[0]?).getD 0+1:Nat):Nat)) (λ_=>True) (λ_ _ _ _=>trivial)
    (λs' i E Q hi _ g u k1 k2=>xH (slot:=if i=0 then 0 else(t.place[0]?).getD 0+1) g u a C (λB E' Q' q=>pU hw u a V3 ⋯ q) (λx nx e h' O hs=>by
     rw[pV es t.place i ⋯ Kg hi,fS]at e;obtain⟨p,y,e2⟩:=e;cases e2;refine k1 _ (by rw[ki,ro,y];rfl) h' ?_ hs;rw[ā (Nat.succ_ne_zero i)];exact O) (λe=>by
     rw[pV es t.place i ⋯ Kg hi,R']at e;exact k2 (by rw[ki,ro,e];rfl)))
   refine c2 ⟨_,rfl,"set_iterator",_,⟨_,eH _ rfl,rfl⟩,SI.slot_next.lookup,?_⟩;exact h _ _ _ _ _ c _ s.drawn W H J.symm N (hW _) (λb d=>by
    simp only[fR,Sa,or_false]at d;rcases d with rfl|rfl|rfl
    ·exact .inr (hW _)
    ·exact .inl rfl
    ·exact .inl rfl) ⟨i8 _,⟨_,eH _ rfl,rfl,rfl⟩,cK _ ho,trivial⟩ λb o e=>cK _ e
end
theorem pW:QN (.type "set") "__len__"=pure (a5 (.builtin "set.__len__")):=by rw[Iv,tA];kernel_rfl
section
theorem km:∀{vs:List dt}{a:List Str},vs.length=a.length->(∀(i:Nat) (v:dt),vs[i]?=a5 v->∃x t,a[i]?=a5 x/\v=.str x t)->Qv vs a
 |[],[],_,_=>.nil
 |[],_::_,h,_=>by simp at h
 |_::_,[],h,_=>by simp at h
 |v::vs,y::a,h,k=>by
  obtain⟨x,t,b,c⟩:=k 0 v rfl;cases b;subst c;exact .cons y t (km (by simpa using h) λi w d=>k (i+1) w d)
theorem pX(J:A.handled=b6)(N:aP prog w s.heap S (aB w) D)(O:D.length<=c6)
  (T:∀(vs:List dt) (c:List Str) (h':JN) (d':Drawn) (h:Nat),c.Perm D->Qv vs c->s.heap.objs.size<=h'.objs.size->s.toks<=h->(∀b o,s.heap.get? b=a5 o->h'.get? b=a5 o)->Q vs {s with heap:=h',drawn:=d',toks:=h}) :
  et (hE prog w) A (Zj (.ref S)) Q E s:=by
 obtain⟨L,es,ep,t,ho,rest⟩:=id N;have Y:S<s.heap.objs.size:=fx ho;unfold Zj;refine bD (Yy (Iw PySem.F.entry_proto_collect ?_));rw[Ic PySem.F.plain_proto_collect _];show et _ A.in1 (Õ [] >>= λl=>Ö (.builtin "list.__iadd__" ⟨[l,.ref S],[]⟩)) _ _ s;refine bD (vl ?_);refine c2 ⟨Ma PySem.F.plain_list_iadd _,Iw PySem.F.entry_list_iadd ?_⟩;rw[Ic PySem.F.plain_list_iadd _];have f:(s.heap.push {cls:=.type "list",data:=.seq ([]:List dt).toArray}).get? S=a5 {cls:=.type "set",dict:=b6,data:=.set es ep t}:=cK _ ho;have hT:RJ {s with heap:=s.heap.push {cls:=.type "list",data:=.seq ([]:List dt).toArray}} (.ref S) "set":=⟨_,f,rfl⟩
 show et _ A.in1 (mx (.ref s.heap.objs.size) (.ref S) (.ref s.heap.objs.size)) _ _ _;unfold mx;refine bD (P' hT ?_);have j:s.heap.objs.size≠S:=Jd Y;have h1:Jy (.ref s.heap.objs.size) (.ref S)=cL:=by simp[Jy,j]
 have h2:(qb "set"==qb "list")=cL:=by decide
 have h3:(qb "set"==qb "tuple")=cL:=by decide
 simp only[h1,h2,h3,QC,Ke,if_false];refine bD (xI (B:=A.in1) (by simpa using J) ⟨L,es,ep,t,f,rest⟩ ?_);intro I fp n P St c h' d' W k m hP p OP HL hk;have g:RJ {s with heap:=h',drawn:=d' } (.ref S) "set":=⟨_,hk _ _ f,rfl⟩
 refine bD (ri ?_);unfold y1;refine bD (LJ g pW ?_);have JI:splitId "set.__len__"=a5 ("set","__len__"):=by decide +kernel
 dsimp only
 rw[JI]
 dsimp only
 refine bD (KA g V7 ?_);rw[ā (by decide)];rw[ÿ (by decide +kernel)];refine bD (P' g ?_);refine c2 ?_;rw[ÿ (by decide +kernel)];have q:s.heap.objs.size∉fp:=λa=>by
  rcases OP _ a with z|z
  ·exact j z
  ·rw[JU]at z;exact absurd z (Nat.not_succ_le_self _)
 have r:h'.get? s.heap.objs.size=a5 {cls:=.type "list",data:=.seq ([]:List dt).toArray}:=hk _ _ (eH _ rfl);refine bD (LK ?_);refine bD ?_;show et _ A.in1 (UC s.heap.objs.size (·.push .none) >>= λ_=>UC s.heap.objs.size (·.pop)) _ _ _;refine bD (MO r rfl ?_);have u:=nC (nc (·.push l0)) r rfl;refine MO u rfl ?_;have V4:=nC (nc (·.pop)) u rfl;have x:∀b o,b≠s.heap.objs.size->h'.get? b=a5 o->((h'.update s.heap.objs.size (nc (·.push l0))).update s.heap.objs.size (nc (·.pop))).get? b=a5 o :=
  λb o d e=>(HY _ _ (sx d)).trans ((HY _ _ (sx d)).trans e)
 refine c2 ⟨Ma PySem.F.plain_extend_loop _,Q9 W.toS (by rw[m,k.length_eq];exact O) _ q _ n 0 _ _ _ rfl (i8 _) (W.frame 0 h' _ HL λb d o e=>x b o (λz=>q (z▸d)) e) V4 (UX P) λs' HS c' a y C=>?_⟩;show et _ A (load s.heap.objs.size >>= _) _ _ s';refine bD (Á y ?_);obtain⟨L_,g2,G,V5,V6⟩:=s';have eg:g2=s.gens:=a.gens;have ed:G=d':=a.drawn;have eo:V6=s.os:=a.os;subst eg;subst ed;subst eo;refine c2 (T _ c L_ G V5 k (km (by rw[i2,C.1,m]) λi v hv=>hP i v (C.2 i v (by rwa [ro]at hv))) (Px (fx y)) a.toks λb o e=>?_);have H:b≠s.heap.objs.size:=λz=>by rw[z]at e;exact absurd (fx e) (tr _)
 refine a.heap b o (λz=>?_) (x b o H (hk _ _ (cK _ e)));rcases fR.mp z with z|z
 ·exact H z
 ·rw[i3.mp z]at e;have:=fx e;rw[JU]at p;exact absurd (i9 this (Jj (JF _) p)) (tr _)
end
section
theorem Inv.drawn(I:Inv X pins σ H s)(d:Drawn):Inv X pins σ H {s with drawn:=d}:=⟨I.ok,I.os,I.bare,I.base,I.loc,I.cell,I.free,I.ID,I.pin,I.HI,I.len⟩
theorem om(i:X.calm=cb)(I:Inv X pins σ H s)(hq:Ij X.K H p (c.map V.str)\/Im X.K H p (c.map V.str))(f:c.length+1<IJ)
  (h:∀(S:hH) (h':JN) (a:Nat),aP X.prog X.w h' S (aB X.w) (aN c)->Inv X pins σ H {s with heap:=h',toks:=a}->Q (.ref S) {s with heap:=h',toks:=a}) :
  et (hE X.prog X.w) X.A (Mu (.type "set") [.ref p]) Q X.xe s:=by
 have g:X.A.handled=b6:=I.ok.hd i;rcases hq with hq|hq
 ·obtain⟨its,rv,pl,hz⟩:=I.list hq;exact fy g pl.isList (cI rv) f λh' a d k=>h _ h' a d (I.kept λb o e=>k b o (fx e) e)
 ·obtain⟨its,rv,pl,hz⟩:=I.tuple hq;exact gc g pl (cI rv) f λh' a d k=>h _ h' a d (I.kept λb o e=>k b o (fx e) e)
theorem gh(h:X.calm=cb)(I:Inv X pins σ H s)(i:aP X.prog X.w s.heap S (aB X.w) D)(c:D.length<64)
  (q:∀p,H p=b6->Q (.ref p) (upd H p (.lst ((aJ D).map V.str)))):et (hE X.prog X.w) X.A (Mu (.builtin "sorted") [.ref S]) (EP X pins σ Q) X.xe s:=by
 have j:X.A.handled=b6:=I.ok.hd h;have hl:D.length<=c6:=Px (i9 c (by decide));refine eT (pX (A:=X.A.in1) (by simpa using j) i hl λvs k h' d' a d f hsz n hk=>⟨k,f,by rw[hZ f,d.length_eq];exact c,λr l e k2 b s2=>?_⟩);rw[dR d]at s2;have m:Inv X pins σ H {s with heap:=h',toks:=a}:=I.kept (t':=a) hk;have g:Inv X pins σ H {s with heap:=h',drawn:=d',toks:=a}:=m.drawn d';exact⟨.ref h'.objs.size,_,g.laid (t':=a) (o:=.lst ((aJ D).map V.str)) k2 (hW _) ⟨by rw[cc,bT];exact hl,l,e,dv s2,b⟩,rfl,q _ (g.HI.fresh (hW _))⟩
theorem rG(I:Inv X pins σ H s)(b:aP X.prog X.w s.heap S (aB X.w) D)
  (q:Q (.int D.length) H):et (hE X.prog X.w) X.A (Mu (.builtin "len") [.ref S]) (EP X pins σ Q) X.xe s:=by
 obtain⟨L,es,ep,t,ho,c,d,i,g,h,j,k⟩:=b;have a:es.size=D.length:=by rw[<-i2,c,cc,<-cc (f:=Z_) (as:=L),d.length_eq]
 have l:es.size<4096:=h;refine call_len_set ho ⟨rfl,rfl,rfl⟩ rfl g ⋯ ?_;exact⟨.int es.size,_,I.kept (t':=s.toks+1+1) (λ_ _ e=>e),⟨_,rfl⟩,by rw[a];exact q⟩
end
end L2
namespace L2
open PySem
noncomputable def dE(mask:Nat):Nat->Nat×Nat->Nat×Nat
 |0,q=>q
 |t+1,q=>dE mask t (Zk mask q.1 q.2)
theorem mD(mask:Nat):∀(a b:Nat) (q:Nat×Nat),dE mask (a+b) q=dE mask b (dE mask a q)
 |0,b,q=>by rw[Oj];rfl
 |a+1,b,q=>by rw[show a+1+b=(a+b)+1 by lia];exact mD mask a b _
theorem mE(mask:Nat):∀(t:Nat) (q:Nat×Nat),(dE mask t q).2=q.2 / 32 ^ t
 |0,q=>by simp[dE]
 |t+1,q=>by
  show(dE mask t (Zk mask q.1 q.2)).2=_;rw[mE mask t];show q.2 / 32 / 32 ^ t=_;rw[Nat.div_div_eq_div_mul,Nat.pow_succ,Nat.mul_comm]
theorem pY(mask:Nat):∀(t:Nat) (q:Nat×Nat),q.1<mask+1->(dE mask t q).1<mask+1
 |0,q,h=>h
 |t+1,q,h=>pY mask t _ (XM _ (YN _))
noncomputable def Lq(m:Nat):Nat->Nat->Nat
 |0,i=>i
 |t+1,i=>Lq m t ((i * 5+1) % m)
theorem mF(mask:Nat):∀(t i:Nat),dE mask t (i,0)=(Lq (mask+1) t i,0)
 |0,i=>rfl
 |t+1,i=>by
  show dE mask t ((i * 5+1+0 / 32) % (mask+1),0 / 32)=(Lq (mask+1) t ((i * 5+1) % (mask+1)),0)
  rw[Nat.zero_div,è];exact mF mask t _
theorem jI(m:Nat):∀(a b i:Nat),Lq m (a+b) i=Lq m b (Lq m a i)
 |0,b,i=>by rw[Oj];rfl
 |a+1,b,i=>by rw[show a+1+b=(a+b)+1 by lia];exact jI m a b _
noncomputable def vU(m:Nat):Nat->Nat->List Nat
 |0,_=>[]
 |t+1,i=>i::vU m t ((i * 5+1) % m)
theorem tX(m:Nat):∀(n i t:Nat),t<n->(vU m n i)[t]?=a5 (Lq m t i)
 |0,_,_,h=>by lia
 |n+1,i,0,_=>rfl
 |n+1,i,t+1,h=>by
  show(vU m n ((i * 5+1) % m))[t]?=_;exact tX m n _ t ⋯
theorem pZ(m:Nat):∀(n i:Nat),(vU m n i).length=n
 |0,_=>rfl
 |n+1,i=>by show(vU m n _).length+1=_;rw[pZ m n]
noncomputable def Full(m:Nat):Bool:=(i1 m).all (λj=>(vU m m 0).contains j)&&(Lq m m 0==0)
theorem CN:Full 8=cb:=by decide +kernel
theorem xJ:Full 16=cb:=by decide +kernel
theorem xK:Full 32=cb:=by decide +kernel
theorem xM:Full 64=cb:=by decide +kernel
theorem tY:Full 128=cb:=by decide +kernel
theorem vV(h:Full m=cb)(hi:i<m)(l:j<m):∃t,t<m/\Lq m t i=j:=by
 unfold Full at h;rw[c4,i7]at h;obtain⟨n,d⟩:=h;have d:Lq m m 0=0:=by simpa using d
 have get:∀k,k<m->∃a,a<m/\Lq m a 0=k:=λk hk=>by
  have:=n k (rr.mpr hk);rw[List.contains_iff_mem]at this;obtain⟨a,c⟩:=YP.mp this;have e:a<m:=by have:=(dV.mp c).1;rw[pZ]at this;exact this
  rw[tX m m 0 a e]at c;exact⟨a,e,by simpa using c⟩
 obtain⟨a,c,f⟩:=get i hi;obtain⟨b,o,g⟩:=get j l;by_cases p:a<=b
 ·exact⟨b - a,⋯,by rw[<-f,<-jI,show a+(b - a)=b by lia,g]⟩
 ·refine⟨m - a+b,⋯,?_⟩;rw[<-f,<-jI,show a+(m - a+b)=m+b by lia,jI,d,g]
theorem mG:∀(f i p:Nat),DD mask owner f i p=b6->∀t,t<f->(owner.getD (dE mask t (i,p)).1 (a5 0)).isNone=cL
 |0,_,_,_,t,h=>by lia
 |f+1,i,p,h,t,b=>by
  unfold DD at h;cases a:(i1 (UU mask i+1 - i)).find? (λk=>(owner.getD (i+k) (a5 0)).isNone) with
  |some k=>rw[a]at h;cases h
  |none =>
   rw[a]at h;cases t with
   |zero =>
    have:=List.find?_eq_none.mp a 0 (rr.mpr (by unfold UU;split<;>lia));rw[è]at this;show(owner.getD i (a5 0)).isNone=cL;cases e:(owner.getD i (a5 0)).isNone with
    |false=>rfl
    |true=>exact absurd e this
   |succ t=>exact mG f _ _ h t ⋯
theorem mH:∀(f i p j:Nat),DD mask owner f i p=a5 j->owner[j]?=a5 b6
 |0,_,_,_,h=>by cases h
 |f+1,i,p,j,h=>by
  unfold DD at h;cases b:(i1 (UU mask i+1 - i)).find? (λk=>(owner.getD (i+k) (a5 0)).isNone) with
  |some k =>
   rw[b]at h;cases h;have a:=List.find?_some b;have c:i+k<owner.size:=by
    refine Classical.byContradiction λz=>?_;have:owner.getD (i+k) (a5 0)=a5 0:=by simp[Uj,z]
    rw[this]at a;cases a
   have d:owner.getD (i+k) (a5 0)=owner[i+k]:=by simp[Uj,c]
   rw[d]at a;rw[Mq c];cases e:owner[i+k] with
   |none=>rfl
   |some _=>rw[e]at a;cases a
  |none =>
   rw[b]at h;exact mH f _ _ j h
theorem A0(c:Full (mask+1)=cb){j0:Nat}(a:owner[j0]?=a5 b6)(hsz:owner.size=mask+1)(hi:i<mask+1)(d:p<2 ^ 64):∃j,DD mask owner (QE mask) i p=a5 j/\owner[j]?=a5 b6:=by
 cases e:DD mask owner (QE mask) i p with
 |some j=>exact⟨j,rfl,mH _ _ _ _ e⟩
 |none =>
  have f:j0<mask+1:=by rw[<-hsz];exact(WV.mp a).1
  have g:(dE mask 13 (i,p)).2=0:=by
   rw[mE];exact Nat.div_eq_of_lt (Pw d (by decide))
  obtain⟨t,m,h⟩:=vV c (pY mask 13 (i,p) hi) f;have k:dE mask (13+t) (i,p)=(j0,0):=by
   rw[mD,show dE mask 13 (i,p)=((dE mask 13 (i,p)).1,0) from Prod.ext rfl g,mF,h]
  have:=mG _ _ _ e (13+t) (by unfold QE;lia);rw[k]at this;have l:owner.getD j0 (a5 0)=b6:=by
   have b:j0<owner.size:=by lia
   rw[Mq b]at a;simp[Uj,b];exact D5 a
  rw[l]at this;cases this
noncomputable def vals(L:List (Option Nat)):List Nat:=L.filterMap id
theorem p5:∀{L:List (Option Nat)}{j:Nat},L[j]?=a5 b6->(vals (L.set j (a5 k))).Perm (k::vals L)
 |[],j,h=>by simp at h
 |x::L,0,h=>by
  have:x=b6:=by simpa using h
  subst this;exact ME _
 |x::L,j+1,h=>by
  have a:=p5 (k:=k) (L:=L) (j:=j) (by simpa using h);cases x with
  |none=>exact a
  |some y =>
   show(y::vals (L.set j (a5 k))).Perm (k::y::vals L);exact(Y' y a).trans (Y_ k y _)
theorem mI:∀{L:List (Option Nat)},(vals L).length<L.length->∃j:Nat,L[j]?=a5 b6
 |[],h=>by simp at h
 |none::L,_=>⟨0,rfl⟩
 |some y::L,h=>by
  obtain⟨j,a⟩:=mI (L:=L) (by
   have:(vals L).length+1<L.length+1:=h;lia)
  exact⟨j+1,by simpa using a⟩
theorem xN(d:Full (mask+1)=cb):∀(hs:List Int) (owner:Array (Option Nat)) (k:Nat),owner.size=mask+1->(vals owner.toList).Perm (i1 k)->k+hs.length<=mask ->
  ∃c,hs.foldl (λacc h=>do
   let (owner,k) <-acc
   let j <-DD mask owner (QE mask) (NP h % (mask+1)) (NP h)
   pure (owner.setIfInBounds j (a5 k),k+1)) (a5 (owner,k))=a5 (c,k+hs.length)/\c.size=mask+1/\(vals c.toList).Perm (i1 (k+hs.length))
 |[],owner,k,a,b,_=>⟨owner,rfl,a,b⟩
 |h::hs,owner,k,a,b,f=>by
  rw[ko]at f;obtain⟨j0,g⟩:=mI (L:=owner.toList) (by rw[b.length_eq,w6,i2];lia);obtain⟨j,e,l⟩:=A0 d (owner:=owner) (j0:=j0) (by rw[<-ro];exact g) a (i:=NP h % (mask+1)) (p:=NP h) (XM _ (YN _)) (by unfold NP;lia);have m:owner.toList[j]?=a5 b6:=by rw[ro];exact l
  have n:(vals (owner.setIfInBounds j (a5 k)).toList).Perm (i1 (k+1)):=by
   rw[Array.toList_setIfInBounds,Z4];exact(p5 m).trans ((Y' k b).trans (List.perm_append_singleton k _).symm)
  obtain⟨o',o,q,r⟩:=xN d hs (owner.setIfInBounds j (a5 k)) (k+1) (by rw[Array.size_setIfInBounds];exact a) n ⋯;refine⟨o',?_,q,by rw[show k+(h::hs).length=k+1+hs.length by simp;lia];exact r⟩;rw[SJ,show k+(h::hs).length=k+1+hs.length by simp;lia,<-o];congr 1
  show(DD mask owner (QE mask) (NP h % (mask+1)) (NP h)).bind _=_;rw[e];rfl
theorem rH(L:List (Option Nat)):(i1 L.length).filterMap (λj=>L.getD j b6)=vals L:=by
 have h:(i1 L.length).map (λj=>L.getD j b6)=L:=by
  apply LU
  ·simp
  ·intro i b a;simp[Ii,a]
 have a:vals ((i1 L.length).map (λj=>L.getD j b6))=vals L:=Ą vals h;unfold vals at a;rw[List.filterMap_map]at a;exact a
theorem tZ{led plain:Bool}(e:Full (mask+1)=cb)(f:hs.size<=mask):∃t a,S_ mask finger moves led plain hs=a5 (t,a)/\t.fits hs.size=cb/\t.led=led/\t.plain=plain/\t.mask=mask/\t.dummies=#[]/\a.toList.Perm (i1 hs.size):=by
 obtain⟨owner,c,g,b⟩:=xN e hs.toList (Array.replicate (mask+1) b6) 0 (by simp) (by
  have:∀n:Nat,vals (kj n b6)=[]:=λn=>by
   induction n with
   |zero=>rfl
   |succ n h=>rw[List.replicate_succ];exact h
  rw[Array.toList_replicate,this];exact ME _) (by rw[i2];lia)
 rw[Oj,i2]at c b;have i:Rc mask hs=a5 owner:=by
  unfold Rc;rw[<-Array.foldl_toList];rw[c];rfl
 have k:((i1 (mask+1)).filterMap λj=>owner.getD j b6)=vals owner.toList:=by
  rw[<-rH,i2,g];congr 1
  funext j
  simp only[Array.getD_eq_getD_getElem?,Xv,ro]
 have d:(((i1 (mask+1)).filterMap λj=>(owner.getD j b6).map (j,·)).map (·.2))=vals owner.toList:=by
  rw[<-k,List.map_filterMap];congr 1
  funext j
  cases owner.getD j b6<;>rfl
 have hl:((i1 (mask+1)).filterMap λj=>(owner.getD j b6).map (j,·)).length=hs.size:=by
  have:=Ą Kz d;rw[cc,b.length_eq,w6]at this;exact this
 refine⟨_,_,by unfold S_;rw[i];rfl,?_,rfl,rfl,rfl,rfl,?_⟩
 ·unfold Rg Vr;simp only[hU,cc,hl];simp;exact f
 ·show(((i1 (mask+1)).filterMap λj=>(owner.getD j b6).map (j,·)).map (·.2)).Perm _;rw[d];exact b
end L2
namespace L2
open PySem PySem.Spec PyProof.Rows
noncomputable def DX(P:H8)(w:Kp)(p:Str×Tok):Int×dt:=((sK P w).hash p.1,ve p.1 p.2)
section
theorem aP.perm(b:aP prog w h a led D)(p:D.Perm c):aP prog w h a led c :=
 let ⟨L,es,ep,t,d,e,f,g,i⟩:=b;⟨L,es,ep,t,d,e,f.trans p,p.nodup_iff.mp g,i⟩
theorem aP.at(b:aP prog w h a led D)(k:∀o,h.get? a=a5 o->h'.get? a=a5 o):aP prog w h' a led D :=
 let ⟨L,es,ep,t,c,d⟩:=b;⟨L,es,ep,t,k _ c,d⟩
theorem aP.sz{h:JN}{a:hH}{led:Bool}{D:List Str}{L:List (Str×Tok)}{es:Array (Int×dt)}(b:es.toList=L.map (λp=>((sK prog w).hash p.1,ve p.1 p.2)))(c:(L.map (·.1)).Perm D):es.size=D.length:=by
 rw[<-i2,b,cc,<-c.length_eq,cc]
theorem aP.of(f:aP prog w h a led D):h.SetOf (sK prog w) a (λx=>df (x∈D)) D.length:=by
 obtain⟨L,es,ep,t,ho,b,d,k,g,i,l,m⟩:=f;refine⟨_,es,ep,t,ho,⟨rfl,rfl,rfl⟩,rfl,by rw[b];exact ka,λx=>?_,i,g,aP.sz (h:=h) (a:=a) (led:=led) b d⟩;rw[Ā,b,<-d.mem_iff,mh];constructor
 ·rintro⟨p,c,e⟩;exact⟨_,mh.mpr ⟨p,c,rfl⟩,by rw[gb];simp[e]⟩
 ·rintro⟨e,j,hi⟩;obtain⟨p,c,rfl⟩:=mh.mp j;rw[gb,Ā]at hi;exact⟨p,c,hi.symm⟩
theorem p6(b:aP prog w s.heap a led D)(h:∀r:Option Nat,r.isSome=df (x∈D)->Q r s):
  et (hE prog w) A (setFind a (.str x c) ((sK prog w).hash x)) Q E s :=
 wpAny_setFind_of (knd:=sK prog w) (by rw[gb];simp) rfl b.of h
theorem eD{L':List (Str×Tok)}(ho:s.heap.get? a=a5 {cls:=.type "set",dict:=b6,data:=.set es ep t})(f:b.toList=L'.map (λp=>((sK prog w).hash p.1,ve p.1 p.2)))(g:(L'.map (·.1)).Perm c)(i:c.Nodup)
  (j:t'.fits b.size=cb) (d:b.size<IJ) (hl:t'.led=led) (k:b.size=0\/t'.plain=cL) (h:∀h',qs a s.heap h'->h'.get? a=a5 {cls:=.type "set",dict:=b6,data:=.set b (ep+1) t' }->aP prog w h' a led c->Q () {s with heap:=h' }) :
  et (hE prog w) A (storeSet a b t') Q E s:=by
 refine VL ho rfl ?_ (Wr d);have e:(s.heap.update a (OZ b t')).get? a=a5 {cls:=.type "set",dict:=b6,data:=.set b (ep+1) t' }:=nC (OZ b t') ho rfl;exact h _ (u7 s.heap a (OZ b t')) e ⟨L',b,ep+1,t',e,f,g,i,j,d,hl,k⟩
theorem eV(xs:Array α)(i:Nat):(O6 xs i).toList=xs.toList.eraseIdx i:=by
 unfold O6;rw[Array.toList_append,YS,YS,Pz];simp[List.extract];rw[I0 (by simp)]
theorem vW{t:Ox}(h:t.fits n=cb)(hi:i<n):(t.drop i).fits (n - 1)=cb:=by
 simp only[Rg,c4,beq_iff_eq,Ā]at h;obtain⟨e,b⟩:=h;have a:i<t.place.size:=by lia
 have c:(O6 t.place i).size=t.place.size - 1:=by
  rw[<-i2,eV,YY,ÿ (by simpa using a),i2]
 have d:∀p x,(SetTable.insertAt t.dummies p x).size=t.dummies.size+1:=λp x=>by
  have:=(SetTable.insertAt_perm t.dummies p x).length_eq;rw[i2,i2,Array.size_push]at this;exact this
 unfold Zl;rw[Mq a];simp only[Rg,Vr,c4,beq_iff_eq,Ā,c,d]at b ⊢;constructor<;>lia
theorem xO(t:Ox)(i:Nat):(t.drop i).led=t.led/\(t.drop i).plain=t.plain:=by
 unfold Zl;split<;>exact⟨rfl,rfl⟩
theorem erase_filter:∀{l:List Str}{j:Nat}{x:Str},l.Nodup->l[j]?=a5 x->l.eraseIdx j=l.filter λy=>df (y≠x)
 |[],j,x,_,h=>by simp at h
 |y::l,0,x,a,h=>by
  obtain⟨b,c⟩:=mA.mp a;have:y=x:=by simpa using h
  subst this;rw[List.eraseIdx_cons_zero,O1 (by simp)];exact(MV.mpr λz hz=>by
   have:z≠y:=λe=>b (e▸hz);simpa using this).symm
 |y::l,j+1,x,a,h=>by
  obtain⟨b,c⟩:=mA.mp a;have d:l[j]?=a5 x:=by simpa using h
  have:y≠x:=λe=>b (e▸lg d);rw[So,erase_filter c d,O0 (by simpa using this)]
theorem fz(f:α->β):∀(l:List α) (j:Nat),(l.map f).eraseIdx j=(l.eraseIdx j).map f
 |[],_=>rfl
 |x::l,0=>rfl
 |x::l,j+1=>by
  show f x::(l.map f).eraseIdx j=f x::(l.eraseIdx j).map f;rw[fz f l j]
theorem p7{a:hH}{led:Bool}{D:List Str}{x:Str}{k:Tok}{Q:Bool->gj->Prop}(l:aP prog w s.heap a led D)(h:∀b h',qs a s.heap h'->aP prog w h' a led (D.filter λy=>df (y≠x))->Q b {s with heap:=h' }):
  et (hE prog w) A (ß a (.str x k) ((sK prog w).hash x)) Q E s:=by
 have u:=l;obtain⟨L,es,ep,t,ho,c,d,m,f,v,B,C⟩:=l;have G:(sK prog w).is x (.str x k)=cb:=by rw[gb];simp
 have n:ElemsOf (sK prog w) es.toList:=by rw[c];exact ka
 have hsz:=aP.sz (h:=s.heap) (a:=a) (led:=led) c d;unfold ß setFind setFindIn;refine bD (bD (my ho rfl f ?_))
 dsimp only
 rw[byScan_of (knd:=sK prog w) rfl v n];simp only[↓reduceIte];refine bD (LK ?_);refine bD (Þ (knd:=sK prog w) G ho rfl f n ?_);cases o:X2 (λe=>(sK prog w).is x e.2) es.toList with
 |none =>
  dsimp only
  refine c2 (c2 ?_);have g:x∉D:=λg=>by
   rw[<-d.mem_iff,mh]at g;obtain⟨p,H,e⟩:=g;have I:((sK prog w).hash p.1,ve p.1 p.2)∈es.toList:=by rw[c];exact mh.mpr ⟨p,H,rfl⟩
   have:=XN.mp o _ I;rw[gb,decide_eq_false_iff_not]at this;exact this e.symm
  have e:D.filter (λy=>df (y≠x))=D:=MV.mpr λz hz=>by
   have:z≠x:=λe=>g (e▸hz);simpa using this
  have J:s={s with heap:=s.heap}:=by cases s;rfl
  rw[J];exact h cL s.heap (J3 a s.heap) (by rw[e];exact u)
 |some j =>
  dsimp only
  obtain⟨i,q,_⟩:=Ux.mp o;rw[Oj];refine c2 ?_
  dsimp only
  refine bD (my ho rfl f ?_)
  dsimp only
  have N:j<L.length:=by rw[c,cc]at i;exact i
  have O:j<es.size:=by simpa using i
  have T:L[j].1=x:=by
   have e:es.toList[j]=((sK prog w).hash L[j].1,ve L[j].1 L[j].2):=by simp[c]
   rw[e,gb,Ā]at q;exact q.symm
  have Y:(L.map (·.1)).Nodup:=d.nodup_iff.mpr m;have Wa:(L.eraseIdx j).map (·.1)=(L.map (·.1)).filter λy=>df (y≠x):=by
   rw[<-erase_filter Y (j:=j) (by simp[N,T]),fz]
  have RN:(O6 es j).toList=(L.eraseIdx j).map (λp=>((sK prog w).hash p.1,ve p.1 p.2)):=by
   rw[eV,c,fz]
  have r:(O6 es j).size=es.size - 1:=by rw[<-i2,eV,YY,ÿ i,i2]
  obtain⟨d1,d2⟩:=xO t j;refine bD (eD (t':=t.drop j) (led:=led) ho RN (by rw[Wa];exact d.filter _) (X3 Y9 m) (by rw[r];exact vW f O) (by rw[r];lia) (d1.trans B) (.inr (d2.trans (C.resolve_left ⋯))) λh' sb hg Jn=>?_);refine bD (wpAny_point ?_);exact c2 (h cb h' sb Jn)
end
theorem A4:Full 256=cb:=by decide +kernel
section
theorem h_{es:Array (Int×dt)}{a:Array Nat}(h:a.toList.Perm (i1 es.size)):(a.filterMap (es[·]?)).toList.Perm es.toList:=by
 rw[Array.toList_filterMap];exact(h.filterMap _).trans (by rw[filterMap_getElem?_range])
theorem mJ{L:List (Str×Tok)}(ho:s.heap.get? a=a5 {cls:=.type "set",dict:=b6,data:=.set es ep t})(n:es.toList=L.map (λp=>((sK prog w).hash p.1,ve p.1 p.2)))(o:(L.map (·.1)).Perm D)(q:D.Nodup)
  (r:t.fits es.size=cb) (u:es.size<IJ) (i:t.led=led) (v:es.size=0\/t.plain=cL) (j:LG c=m+1) (x:Full (m+1)=cb) (y:es.size<=m) (Y:m<1000)
  (h:∀h' (d:Array (Int×dt)) (t':Ox) (z:Nat),qs a s.heap h'->h'.get? a=a5 {cls:=.type "set",dict:=b6,data:=.set d z t' }->aP prog w h' a led D->t'.fits d.size=cb->t'.mask=m->t'.dummies=#[]->t'.led=led->d.size=es.size->Q () {s with heap:=h' }) :
  et (hE prog w) A (setRelay a c) Q E s:=by
 have B:(2000:Nat)<=c6:=by decide
 obtain⟨t',b,C,f,k,G,H,I,l⟩:=tZ (mask:=m) (finger:=t.finger) (moves:=t.movedTo m) (led:=t.led) (plain:=t.plain) (hs:=es.map (·.1)) x (by rw[Rf];exact y);rw[Rf]at f l;have e:t.relaid (es.map (·.1)) c=a5 (t',b):=by
  unfold UW;rw[j,Nat.add_sub_cancel];exact C
 unfold setRelay;refine bD (my ho rfl r ?_)
 dsimp only
 rw[ā (by rw[j];lia)];refine bD ?_;rw[e];show et (hE prog w) A (if ((b.filterMap (es[·]?)).size != es.size)=cb then((XO "internal:set-table-lost-an-element":Sem Unit) >>= λ_=>pure (b.filterMap (es[·]?),t')) else pure (b.filterMap (es[·]?),t')) _ E s;have g:=h_ l;have hsz:(b.filterMap (es[·]?)).size=es.size:=by rw[<-i2,g.length_eq,i2]
 rw[ā (by rw[hsz];simp)];refine c2 ?_;rw[n]at g;obtain⟨L',J,N⟩:=cY g;exact eD (led:=led) ho J ((N.map _).trans o) q (by rw[hsz];exact f) (by rw[hsz];exact u) (k.trans i) (by rw[hsz,G];exact v) λh' O T hs=>h h' _ t' _ O T hs (by rw[hsz];exact f) H I (k.trans i) hsz
theorem xP(b:5<=n)(a:n<64):∃m,LG (2 * n)=m+1/\Full (m+1)=cb/\n<=m/\m<1000:=by
 have:∀n:_root_.Fin 64,LG (2 * n.val)=(if n.val<4 then 8 else if n.val<8 then 16 else if n.val<16 then 32 else if n.val<32 then 64 else 128):=by decide +kernel
 have e:=this ⟨n,a⟩
 dsimp only at e
 rw[e,ā ⋯];split
 ·exact⟨15,rfl,xJ,⋯,⋯⟩
 ·split
  ·exact⟨31,rfl,xK,⋯,⋯⟩
  ·split
   ·exact⟨63,rfl,xM,⋯,⋯⟩
   ·exact⟨127,rfl,tY,⋯,⋯⟩
theorem vX(a:n<64):∃m,LG (Nn n)=m+1/\Full (m+1)=cb/\n<=m/\m<1000:=by
 have:∀n:_root_.Fin 64,LG (Nn n.val)=(if n.val<2 then 8 else if n.val<4 then 16 else if n.val<8 then 32 else if n.val<16 then 64 else if n.val<32 then 128 else 256):=by decide +kernel
 have e:=this ⟨n,a⟩
 dsimp only at e
 rw[e];split
 ·exact⟨7,rfl,CN,⋯,⋯⟩
 ·split
  ·exact⟨15,rfl,xJ,⋯,⋯⟩
  ·split
   ·exact⟨31,rfl,xK,⋯,⋯⟩
   ·split
    ·exact⟨63,rfl,xM,⋯,⋯⟩
    ·split
     ·exact⟨127,rfl,tY,⋯,⋯⟩
     ·exact⟨255,rfl,A4,⋯,⋯⟩
theorem xQ{a:hH}{led:Bool}{D:List Str}{Q:Unit->gj->Prop}(b:aP prog w s.heap a led D)(p:D.length<64)(h:∀h',qs a s.heap h'->aP prog w h' a led D->Q () {s with heap:=h' }):
  et (hE prog w) A (setTidy a) Q E s:=by
 have f:=b;obtain⟨L,es,ep,t,ho,c,d,g,e,i,j,k⟩:=b;have hsz:=aP.sz (h:=s.heap) (a:=a) (led:=led) c d;unfold setTidy;refine bD (my ho rfl e ?_)
 dsimp only
 split
 ·obtain⟨m,m1,m2,m3,m4⟩:=vX (n:=es.size) ⋯;exact mJ ho c d g e i j k m1 m2 m3 m4 λh' _ _ _ l _ hs _ _ _ _ _=>h h' l hs
 ·have o:s={s with heap:=s.heap}:=by cases s;rfl
  refine c2 ?_;rw[o];exact h s.heap (J3 a s.heap) f
theorem vY{a b:hH}{es:Array (Int×dt)}{D:List Str}{Q:Unit->gj->Prop}(v:a≠b)(ho:s.heap.get? a=a5 {cls:=.type "set",dict:=b6,data:=.set #[] 0 (.fresh 0 0 (aB w))})(x:aP prog w s.heap b (aB w) D)(J1:D.length<64)
  (h:∀h',qs a s.heap h'->aP prog w h' a (aB w) D->Q () {s with heap:=h' }):et (hE prog w) A (setMerge a b) Q E s:=by
 have NX:=x;obtain⟨L,d,Wc,f,y,l,n,B,C,G,OT,RO⟩:=x;have hsz:=aP.sz (h:=s.heap) (a:=b) (led:=aB w) l n;have o:(Zd 0 0 (aB w)).fits (#[]:Array (Int×dt)).size=cb:=rfl;unfold setMerge;rw[ā (by simpa using v)];refine bD (my y rfl C ?_)
 dsimp only
 split
 ·rename_i RP;have hD:D=[]:=by
   have:d.size=0:=by simpa using RP
   exact List.eq_nil_of_length_eq_zero ⋯
  subst hD;have p:s={s with heap:=s.heap}:=by cases s;rfl
  refine c2 ?_;rw[p];exact h s.heap (J3 a s.heap) (gE ho)
 ·rename_i IF;have RQ:d.size≠0:=λz=>IF (by simpa using z);refine bD ?_;unfold setRoomFor;refine bD (my ho rfl o ?_)
  dsimp only
  refine vu (Q:=λ_ s1=>∃(g:JN) (ts:Ox) (H:Nat) (k:Array (Int×dt)),s1={s with heap:=g}/\k.size=0/\qs a s.heap g/\g.get? a=a5 {cls:=.type "set",dict:=b6,data:=.set k H ts}/\ts.fits k.size=cb/\Full (ts.mask+1)=cb/\d.size<=ts.mask/\ts.dummies=#[]/\ts.led=aB w) ?_ (λ_ s1 ⟨g,ts,H,k,e,z,i,j,I,hF,q,RS,hl⟩=>?_) λ_ _ e=>e
  ·unfold SetTable.roomFor;by_cases h5:5<=d.size
   ·rw[ÿ (by show(0+d.size) * 5 >= 7 * 3;lia)]
    dsimp only
    obtain⟨m,m1,m2,m3,m4⟩:=xP h5 ⋯;have ew:((Zd 0 0 (aB w)).place.size+d.size) * 2=2 * d.size:=by show(0+d.size) * 2=_;lia
    rw[ew];exact mJ (L:=[]) (D:=[]) (led:=aB w) ho rfl (ME _) .nil o (by decide) rfl (.inl rfl) m1 m2 (by show 0<=m;lia) m4 λh' HD t' LW i j _ Rv J hd hl hz=>⟨h',t',LW,HD,rfl,hz,i,j,Rv,by rw[J];exact m2,by rw[J];exact m3,hd,hl⟩
   ·rw[ā (by show ¬(0+d.size) * 5 >= 7 * 3;lia)]
    dsimp only
    have p:s={s with heap:=s.heap}:=by cases s;rfl
    exact c2 ⟨s.heap,_,0,#[],p,rfl,J3 a s.heap,ho,o,CN,by show d.size<=7;lia,rfl,rfl⟩
  ·subst e;refine bD (my j rfl I ?_)
   dsimp only
   have RT:ts.place.size=0:=by
    simp only[Rg,c4,beq_iff_eq]at I;lia
   have OV:ts.road f=if ts.mask==f.mask&&f.dummies.isEmpty then .slotForSlot else .clean:=by
    unfold SetTable.road Vr;rw[RT,RS];rfl
   have Wd:g.get? b=a5 {cls:=.type "set",dict:=b6,data:=.set d Wc f}:=(i.2 b (sx v)).trans y;have N:(ts.plain&&f.plain)=cL:=by rw[RO.resolve_left RQ,Rn]
   have O:(ts.led&&f.led)=aB w:=by rw[hl,OT,Ñ]
   rw[OV];by_cases T:(ts.mask==f.mask&&f.dummies.isEmpty)=cb
   ·rw[ÿ T]
    dsimp only
    exact eD (s:={s with heap:=g}) (led:=aB w) (L':=L) (t':={f with finger:=ts.finger,led:=ts.led&&f.led,moves:=ts.moves,plain:=ts.plain&&f.plain}) j l n B C G O (.inr N) λh' r _ hs=>h h' (i.trans r) hs
   ·rw[ā T]
    dsimp only
    obtain⟨t',c,q1,Y,q3,q4,q5,q6,q7⟩:=tZ (mask:=ts.mask) (finger:=ts.finger) (moves:=ts.moves) (led:=ts.led&&f.led) (plain:=ts.plain&&f.plain) (hs:=d.map (·.1)) hF (by rw[Rf];exact q);rw[Rf]at Y q7;refine bD ?_;rw[q1];show et (hE prog w) A (if ((c.filterMap (d[·]?)).size != d.size)=cb then((XO "internal:set-table-lost-an-element":Sem Unit) >>= λ_=>pure (c.filterMap (d[·]?),t')) else pure (c.filterMap (d[·]?),t')) _ E _;have t:=h_ q7;have u:(c.filterMap (d[·]?)).size=d.size:=by rw[<-i2,t.length_eq,i2]
    rw[ā (by rw[u];simp)];refine c2 ?_;rw[l]at t;obtain⟨L',e',p'⟩:=cY t;exact eD (s:={s with heap:=g}) (led:=aB w) j e' ((p'.map _).trans n) B (by rw[u];exact Y) (by rw[u];exact G) (q3.trans O) (.inr (q4.trans N)) λh' r _ hs=>h h' (i.trans r) hs
end
section
theorem gH:∀{l:List α},(∀x∈l,∀Q':ForInStep β->gj->Prop,Q' (.yield b) s->et M A (body x b) Q' E s)->Q b s->et M A (þ l b body) Q E s
 |[],_,h=>by rw[Xx];exact c2 h
 |x::l,a,h=>by
  rw[Vu];exact bD (a x (by simp) _ (gH (λy c=>a y (by simp[c])) h))
theorem vZ(hs:∀b∈sets,∃led D,aP prog w s.heap b led D)(h:Q cb s):et (hE prog w) A (setsQuiet sets) Q E s:=by
 unfold setsQuiet;refine bD (gH (λb c Q' d=>?_) (c2 h));obtain⟨led,D,L,es,ep,t,f,g,k,l,i,m,n,o⟩:=hs b c;refine bD (RG f rfl i ?_);rw[<-Uq];refine bD (gH (λe a q j=>?_) (c2 d));rw[g]at a;obtain⟨p,_,rfl⟩:=mh.mp a;exact c2 j
theorem p8(l:aP prog w s.heap a (aB w) D)(ho:∀b∈others,∃led B,aP prog w s.heap b led B)(m:∀r,f=a5 r->aP prog w s.heap r (aB w) [])
  (h:∀(es:Array (Int×dt)) (L:List (Str×Tok)) (h':JN),es.toList=L.map (DX prog w)->(L.map (·.1)).Perm D->(f=b6->h'=s.heap)->(∀r,f=a5 r->qs r s.heap h'/\aP prog w h' r (aB w) [])->Q es {s with heap:=h' }) :
  et (hE prog w) A (setWalkUnseen a others f) Q E s:=by
 have C:=l;obtain⟨L,es,ep,t,j,n,o,HR,k,hb,G,H⟩:=l;have I:s={s with heap:=s.heap}:=by cases s;rfl
 have c:∀(d:Array (Int×dt)),d.toList.Perm es.toList->Q d s:=λd p=>by
  rw[n]at p;obtain⟨L',J,N⟩:=cY p;rw[I];exact h d L' s.heap J ((N.map _).trans o) (λ_=>rfl) λr e=>⟨J3 r s.heap,m r e⟩
 unfold setWalkUnseen;refine bD (my j rfl k ?_)
 dsimp only
 refine bD (cJ ?_);cases g:w.params.followText "set-order" with
 |true =>
  rw[ÿ (by show(w.params.followText "set-order"||t.led&&t.plain||decide (es.size<=1))=cb;rw[g];rfl)];unfold setWalk;refine bD (my j rfl k ?_)
  dsimp only
  refine bD (cJ ?_);rw[ÿ (by exact g)];refine bD (QM ?_);exact c2 (c _ (dC _ _))
 |false =>
  by_cases q:es.size<=1
  ·rw[ÿ (by rw[ă q];simp)];unfold setWalk;refine bD (my j rfl k ?_)
   dsimp only
   refine bD (cJ ?_);rw[ā (by show ¬w.params.followText "set-order"=cb;rw[g];simp)];show et _ _ (if (!t.plain&&df (es.size>1))=cb then _ else _) _ _ s;rw[ā (by rw[Ă (show ¬es.size>1 by lia)];simp)];show et _ _ ((if (!t.led&&df (es.size>1))=cb then _ else _) >>= _) _ _ s;rw[ā (by rw[Ă (show ¬es.size>1 by lia)];simp)];exact bD (c2 (c2 (c es (ME _))))
  ·have O:t.plain=cL:=H.resolve_left ⋯;rw[ā (by show ¬(w.params.followText "set-order"||t.led&&t.plain||decide (es.size<=1))=cb;rw[g,O,Ă q];simp)];refine bD (vZ (λb IW=>by
    rcases fR.mp IW with rfl|IW
    ·exact⟨_,_,C⟩
    ·exact ho b IW) ?_)
   rw[ā (by simp)];refine bD (LK ?_);cases f with
   |none=>exact c2 (c es (ME _))
   |some r =>
    dsimp only
    obtain⟨Lr,T,Yh,i,u,v,x,Y,y,Wf,OY,Wg⟩:=m r rfl;refine bD (my u rfl y ?_)
    dsimp only
    have M_:T.size=0:=by
     have:=aP.sz (h:=s.heap) (a:=r) (led:=aB w) v x;simpa using this
    split
    ·refine bD (eD (t':={i with led:=i.led&&t.led,plain:=i.plain&&t.plain}) (led:=aB w) u v x Y y Wf (by show(i.led&&t.led)=_;rw[OY,G,Ñ]) (.inl M_) λh' sb _ hs=>?_);exact c2 (h es L h' n o (λz=>nomatch z) λr' e=>by cases e;exact⟨sb,hs⟩)
    ·exact c2 (c es (ME _))
end
section
variable{prog:H8}{w:Kp}{A:MY}{E:dt->gj->Prop}{s:gj}
theorem iS(J:List (Str×Tok)->gj->Prop)(a:∀d p r s,d++p::r=L->J d s->∀Q':ForInStep PUnit->gj->Prop,(∀s',J (d++[p]) s'->Q' (.yield ⟨⟩) s')->et M A (body (DX prog w p) ⟨⟩) Q' E s)(b:∀s',J L s'->Q ⟨⟩ s'):
  ∀(r d:List (Str×Tok)) (s:gj),d++r=L->J d s->et M A (þ (r.map (DX prog w)) ⟨⟩ body) Q E s
 |[],d,s,e,h=>by
  rw[uk]at e;subst e;rw[Km,Xx];exact c2 (b s h)
 |p::r,d,s,e,h=>by
  rw[ez,Vu];exact bD (a d p r s e h _ λs' h'=>iS J a b r (d++[p]) s' (by rw[<-e];simp) h')
theorem aP.ty(h:aP prog w s.heap a led D):s.TypeIs (.ref a) "set":=let ⟨_,_,_,_,ho,_⟩:=h;⟨_,ho,rfl⟩
theorem fN(b:aP prog w s.heap a led D)(h:Q cb s):et (hE prog w) A (Kr (.ref a)) Q E s:=by
 unfold Kr;refine bD (KA b.ty V7 ?_);exact c2 h
theorem ia{a:hH}{led:Bool}{D:List Str}{Q:Nat->gj->Prop}(b:aP prog w s.heap a led D)(h:Q D.length s):et (hE prog w) A (PD a) Q E s:=by
 obtain⟨L,es,ep,t,ho,c,d,f,e,_⟩:=b;unfold PD;refine bD (RG ho rfl e (c2 ?_));rw[aP.sz (h:=s.heap) (a:=a) (led:=led) c d];exact h
theorem p9(b:aP prog w s.heap a led D)(h:Q (.type "set") s):et (hE prog w) A (T2 a) Q E s:=by
 unfold T2;refine bD (KA b.ty V7 ?_);exact c2 h
theorem t6(h:Q (.ref s.heap.objs.size) {s with heap:=s.heap.push {cls:=.type "set",dict:=b6,data:=.set #[] 0 (.fresh 0 0 (aB w))}}):et (hE prog w) A (newSet (.type "set")) Q E s:=by
 unfold newSet Ä;refine bD (bD (QM (c2 ?_)))
 dsimp only
 simp only[newObj];exact bD (wpAny_alloc (c2 h))
theorem xR{a:hH}{D:List Str}{Q:dt->gj->Prop}(b:aP prog w s.heap a (aB w) D)(c:D.length<64)(h:∀h',qs s.heap.objs.size (s.heap.push {cls:=.type "set",dict:=b6,data:=.set #[] 0 (.fresh 0 0 (aB w))}) h'->aP prog w h' s.heap.objs.size (aB w) D->Q (.ref s.heap.objs.size) {s with heap:=h' }):
  et (hE prog w) A (TX a) Q E s:=by
 unfold TX;refine bD (p9 b (bD (t6 ?_)));refine bD (c2 ?_);have d:s.heap.objs.size≠a:=λe=>by obtain⟨_,_,_,_,ho,_⟩:=b;exact tr _ (e▸fx ho)
 refine bD (vY (es:=#[]) (s:={s with heap:=s.heap.push {cls:=.type "set",dict:=b6,data:=.set #[] 0 (.fresh 0 0 (aB w))}}) d (eH _ rfl) (b.at λo e=>cK _ e) c λh' f hs=>?_);exact c2 (h h' f hs)
theorem kq{id:String}(ho:s.heap.get? a=a5 {cls:=.type "set",dict:=b6,data:=.set es ep t})(b:t.fits es.size=cb)(h:Q () s):et (hE prog w) A (SO id a ep) Q E s:=by
 unfold SO;refine bD (VR ho rfl b ?_);rw[ā (by simp)];exact c2 h
theorem xS{id:String}(v:a≠b)(o:aP prog w s.heap a (aB w) g)(j:aP prog w s.heap b (aB w) q)(B:g.length<64)(i:q.length<=g.length)
  (h:∀h',qs a s.heap h'->aP prog w h' a (aB w) (g.filter λx=>df (x∉q))->Q () {s with heap:=h' }):et (hE prog w) A (RW id a (.ref b)) Q E s:=by
 unfold RW;rw[ā (by simpa using sx v)];refine bD (fN j ?_);rw[ÿ rfl];refine bD (c2 ?_);refine bD (ia j (bD (ia o ?_)));rw[ā ⋯];obtain⟨L2,I,J,N,y,O,T,Y,z,TQ,Uh,Wi⟩:=_root_.id j;refine bD (VR y rfl z ?_);refine bD (ri ?_);refine bD (p8 j (others:=[a]) (f:=b6) (λc C=>by rw[i3.mp C];exact⟨_,_,o⟩) (λr e=>nomatch e) λes L h0 D G t _=>?_);have t:=t rfl;subst t;rw[<-Uq,D];refine bD (iS (prog:=prog) (w:=w) (L:=L) (λd s'=>∃h',s'={s with heap:=h' }/\qs a s.heap h'/\aP prog w h' a (aB w) (g.filter λx=>df (x∉d.map (·.1)))) (λd p r s' ed ⟨h',u,k,l⟩ Q' H=>?_) (λs' ⟨h',u,k,l⟩=>?_) L [] _ rfl ⟨s.heap,by cases s;rfl,J3 a s.heap,by rw[MV.mpr λx _=>by simp];exact o⟩)
 ·subst u;refine bD (ri (p7 (s:={s with heap:=h' }) l λb' i m n=>?_));refine bD (kq (s:={s with heap:=i}) (((k.trans m).2 b (sx v)).trans y) z ?_);refine c2 (H _ ⟨i,rfl,k.trans m,?_⟩);rw[List.filter_filter]at n;have e:(g.filter λx=>df (x≠p.1)&&df (x∉d.map (·.1)))=g.filter λx=>df (x∉(d++[p]).map (·.1)):=by
   refine Zz λx _=>?_;rw[Lh];simp[not_or,and_comm]
  rw[<-e];exact n
 ·subst u;refine c2 ?_;have e:(g.filter λx=>df (x∉L.map (·.1)))=g.filter λx=>df (x∉q):=by
   refine Zz λx _=>?_;rw[Lh];simp only[Ā];rw[G.mem_iff]
  rw[e]at l;exact xQ (s:={s with heap:=h' }) l (Zx (td _ _) B) λi m n=>h i (k.trans m) n
theorem xT{id:String}(KW:a≠b)(l:aP prog w s.heap a (aB w) m)(j:aP prog w s.heap b (aB w) g)(D:m.length<64)(k:g.length<64)
  (h:∀h',(∀c o,s.heap.get? c=a5 o->h'.get? c=a5 o)->aP prog w h' s.heap.objs.size (aB w) (m.filter λx=>df (x∉g))->Q (.ref s.heap.objs.size) {s with heap:=h' }):et (hE prog w) A (OR id a (.ref b)) Q E s:=by
 have keep:∀h',qs s.heap.objs.size (s.heap.push {cls:=.type "set",dict:=b6,data:=.set #[] 0 (.fresh 0 0 (aB w))}) h'->∀c o,s.heap.get? c=a5 o->h'.get? c=a5 o:=λh' i c o e =>
  (i.2 c (hV (fx e))).trans (cK _ e)
 have G:a<s.heap.objs.size:=by obtain⟨_,_,_,_,ho,_⟩:=l;exact fx ho
 have v:b<s.heap.objs.size:=by obtain⟨_,_,_,_,ho,_⟩:=j;exact fx ho
 unfold OR
 dsimp only
 refine bD (fN j ?_);rw[ā (by simp)];refine bD (c2 ?_);rw[ā (by simp),ÿ rfl];refine bD (ia j (bD (ia l ?_)));by_cases H:m.length / 4>g.length
 ·rw[ÿ H];refine bD (LK ?_);refine bD (xR l D λh' i hs=>?_);refine bD (c2 ?_);refine bD (ri (xS (s:={s with heap:=h' }) (Jd v) hs (j.at λo e=>keep h' i b o e) D ⋯ λk n t=>?_));exact c2 (h k (keep k (i.trans n)) t)
 ·rw[ā H];refine bD (p9 l (bD (t6 ?_)));refine bD (c2 ?_);have I:=l.at (h':=s.heap.push {cls:=.type "set",dict:=b6,data:=.set #[] 0 (.fresh 0 0 (aB w))}) λo e=>cK _ e;have T8:=j.at (h':=s.heap.push {cls:=.type "set",dict:=b6,data:=.set #[] 0 (.fresh 0 0 (aB w))}) λo e=>cK _ e;have J:aP prog w (s.heap.push {cls:=.type "set",dict:=b6,data:=.set #[] 0 (.fresh 0 0 (aB w))}) s.heap.objs.size (aB w) []:=gE (eH _ rfl);obtain⟨La,ea,Wj,ta,N,Uk,Yl,RV,y,Ym,Ul,Wl⟩:=_root_.id I;refine bD (VR N rfl y ?_);refine bD (ri ?_);rw[ÿ rfl];refine bD (p8 (s:={s with heap:=s.heap.push {cls:=.type "set",dict:=b6,data:=.set #[] 0 (.fresh 0 0 (aB w))}}) I (others:=[b,s.heap.objs.size]) (f:=a5 s.heap.objs.size) (λc hc=>by
   rcases fR.mp hc with rfl|hc
   ·exact⟨_,_,T8⟩
   ·rw[i3.mp hc];exact⟨_,_,J⟩) (λr e=>by cases e;exact J) λes L h0 he B _ e0=>?_)
  obtain⟨Wm,Qd⟩:=e0 _ rfl;rw[<-Uq,he];have Wn:L.length=m.length:=by rw[<-B.length_eq,cc]
  refine bD (iS (prog:=prog) (w:=w) (L:=L) (λd s'=>∃h',s'={s with heap:=h' }/\qs s.heap.objs.size (s.heap.push {cls:=.type "set",dict:=b6,data:=.set #[] 0 (.fresh 0 0 (aB w))}) h'/\aP prog w h' s.heap.objs.size (aB w) ((d.map (·.1)).filter λx=>df (x∉g))) (λd p r s' O ⟨h',C,i,u⟩ Q' T=>?_) (λs' ⟨h',C,i,u⟩=>?_) L [] _ rfl ⟨h0,rfl,Wm,Qd⟩)
  ·subst C;have Y:(L.map (·.1)).Nodup:=B.nodup_iff.mpr RV;have Wo:p.1∉d.map (·.1):=λz=>by
    rw[<-O,ke,sL]at Y;exact Y.2.2 p.1 z p.1 (by simp) rfl
   have Wq:aP prog w h' b (aB w) g:=j.at λo e=>keep h' i b o e;have Um:h'.get? a=a5 {cls:=.type "set",dict:=b6,data:=.set ea Wj ta}:=(i.2 a (hV G)).trans N;have Ls:d.length<64:=by have:=Ą Kz O;simp at this;lia
   refine bD (ri ?_);rw[ÿ rfl];refine bD (p6 (s:={s with heap:=h' }) Wq λr hr=>?_);refine bD (c2 ?_);have em:((d++[p]).map (·.1)).filter (λx=>df (x∉g))=(d.map (·.1)).filter (λx=>df (x∉g))++if p.1∈g then [] else [p.1]:=by
    rw[ke,OW];congr 1
    by_cases z:p.1∈g<;>simp[z]
   by_cases z:p.1∈g
   ·rw[ā (by rw[hr,ă z];simp)];refine c2 ?_;refine bD (kq (s:={s with heap:=h' }) Um y ?_);refine c2 (T _ ⟨h',rfl,i,?_⟩);rw[em,ÿ z,uk];exact u
   ·rw[ÿ (by rw[hr,Ă z];rfl)];refine bD (kf (s:={s with heap:=h' }) u (by
     have:((d.map (·.1)).filter λx=>df (x∉g)).length<=d.length:=Jj (td _ _) (by simp);have L8:IJ=4096:=rfl;lia) λk n t=>?_)
    refine c2 ?_;refine bD (kq (s:={s with heap:=k}) ((n.2 a (hV G)).trans Um) y ?_);refine c2 (T _ ⟨k,rfl,i.trans n,?_⟩);rw[em,ā z];rw[ā (λq=>Wo (Lc.mp q).1)]at t;exact t
  ·subst C;refine c2 ?_;refine c2 (h h' (keep h' i) (u.perm ?_));exact B.filter _
end
theorem lL:S9 Za "set.__sub__"=a5 IG.«frozenset.__sub__» :=
 Uu (id':="frozenset.__sub__") (by kernel_rfl) rfl (by decide +kernel) (by kernel_rfl)
section
theorem jJ(n:a≠b)(g:aP prog w s.heap a (aB w) j)(i:aP prog w s.heap b (aB w) k)(p:j.length<64)(q:k.length<64)
  (h:∀h',(∀c o,s.heap.get? c=a5 o->h'.get? c=a5 o)->aP prog w h' s.heap.objs.size (aB w) (j.filter λx=>df (x∉k))->Q (.ref s.heap.objs.size) {s with heap:=h' }):et (hE prog w) A (Ow .Sub (.ref a) (.ref b)) Q E s:=by
 refine wpAny_binaryOp_same (T:="set") g.ty i.ty PySem.F.fills_set_sub PySem.F.slot_set_sub (va PySem.F.slot_set_sub g.ty lL ?_ (PySem.F.args_set_sub_2 _ _));unfold IG.«frozenset.__sub__»;show et (hE prog w) _ (do
  let x <-Ug "__sub__" ⟨[.ref a,.ref b],[]⟩
  match x with
  |(self,f) =>
   match if cL=cb then(f,self) else(self,f) with
   |(l,r)=>do
    let c <-Kr l <&&> Kr r
    if (!c)=cb then do
      à (SU "frozenset."++SU "__sub__"++SU ".declined")
      ret Value.notImplemented
     else do
      let d <-T6 l
      let e <-OR (SU "frozenset."++SU "__sub__") d r
      ret e) _ _ _
 refine bD (m:=Ug "__sub__" ⟨[.ref a,.ref b],[]⟩) (c2 (a:=(i0 a,i0 b)) ?_)
 dsimp only
 refine bD (bD (fN g ?_));show et _ _ (Kr (.ref b)) _ _ _;refine fN i ?_;rw[ā (by simp)];refine bD (c2 ?_);refine bD (xT n g i p q λh' hk hs=>?_);exact c2 ⟨_,rfl,(λz=>by cases z),h h' hk hs⟩
end
section
theorem rJ(l:X.calm=cb)(I:Inv X pins σ H s)(hq:Ij X.K H p (f.map V.str)\/Im X.K H p (f.map V.str))(g:f.length+1<IJ)
  (h:∀(S:hH) (o:Obj) (s1:gj),s.heap.objs.size<=S->s1.heap.get? S=a5 o->aP X.prog X.w s1.heap S (aB X.w) (aN f)->Inv X ((S,o)::pins) σ H s1->Q (.ref S) s1) :
  et (hE X.prog X.w) X.A (Mu (.type "set") [.ref p]) Q X.xe s:=by
 have i:X.A.handled=b6:=I.ok.hd l;have d:∀(h':JN) (a:Nat),aP X.prog X.w h' s.heap.objs.size (aB X.w) (aN f)->(∀b o,b<s.heap.objs.size->s.heap.get? b=a5 o->h'.get? b=a5 o)->Q (.ref s.heap.objs.size) {s with heap:=h',toks:=a}:=λh' a c k=>by
  obtain⟨L,es,ep,t,ho,r⟩:=_root_.id c;have j:Inv X pins σ H {s with heap:=h',toks:=a}:=I.kept λb o e=>k b o (fx e) e;refine h _ _ _ (hW _) ho c (j.dP λq hq=>?_);rcases fR.mp hq with rfl|hq
  ·exact⟨ho,I.HI.fresh (hW _),Jd I.lt,I.Dj (hW _),λv z=>nomatch z⟩
  ·exact j.pin q (o3 _ hq)
 rcases hq with hq|hq
 ·obtain⟨its,rv,pl,hz⟩:=I.list hq;exact fy i pl.isList (cI rv) g λh' a c k=>d h' a c k
 ·obtain⟨its,rv,pl,hz⟩:=I.tuple hq;exact gc i pl (cI rv) g λh' a c k=>d h' a c k
end
theorem rK:QN (.type "list_reverseiterator") "__len__"=pure b6:=by rw[Iv,tA];kernel_rfl
theorem xU:QN (.type "list_reverseiterator") "__length_hint__"=pure (a5 (.builtin "list_reverseiterator.__length_hint__")):=by rw[Iv,tA];kernel_rfl
theorem oo:OM (.type "list_reverseiterator") (.type "list_reverseiterator")=pure cb:=by rw[vr];kernel_rfl
section
variable{I:hH}{fp wr:List hH}{G:Array Tf->Array Tf->Prop}{n:Nat}{P:Nat->dt->Prop}{St:Nat->gj->Prop}
theorem rL(W:XH prog w A.in1 I fp wr G n P St)(c:∀i s,St i s->s.TypeIs (.ref I) "list_reverseiterator")(S:hH)(res:dt)(j:Nat)(a:St 0 s)(h:S∉fp)(k:I∈fp)
  (l:s.heap.get? S=a5 {cls:=.type "list",data:=.seq #[] j})
  (m:∀s' d b,ZW (S::wr) G s s'->s'.heap.get? S=a5 {cls:=.type "list",dict:=b6,data:=.seq d b,slots:=#[]}->WM P d n->R (.ok (.ret res)) s') (o:n<=c6) :
  et (hE prog w) A.in1 (mx (.ref S) (.ref I) res)
   (λg s'=>match g with|.done f=>R (.ok f) s'|.again b=>b.quiet=cb/\NF (hE prog w) A b R s') (λe s'=>R (.error e) s') s:=by
 have p:S≠I:=λe=>h (e▸k);unfold mx;refine bD (P' (c 0 _ a) ?_);have q:Jy (.ref S) (.ref I)=cL:=by simp[Jy,p]
 have r:(qb "list_reverseiterator"==qb "list")=cL:=by decide
 have t:(qb "list_reverseiterator"==qb "tuple")=cL:=by decide
 simp only[q,r,t,QC,Ke,if_false];refine bD (W.self 0 _ _ _ a ?_);refine bD (ri ?_);unfold y1;refine bD (LJ (c 0 _ a) rK ?_);show et _ A.in1 (specialOf (i0 I) (M7 "__length_hint__") >>= _) _ _ _;refine bD (LJ (c 0 _ a) xU ?_);have u:splitId "list_reverseiterator.__length_hint__"=a5 ("list_reverseiterator","__length_hint__"):=by decide +kernel
 dsimp only
 rw[u]
 dsimp only
 refine bD (KA (c 0 _ a) oo ?_);rw[ā (by decide)];rw[ÿ (by decide +kernel)];rw[ā (by decide +kernel)];refine c2 ?_;rw[ā (by decide +kernel)];refine c2 ⟨Ma PySem.F.plain_extend_loop _,Q9 W o _ h _ n 0 _ _ _ rfl (i8 _) a l (UX P) λs' d b v x y=>?_⟩;exact m s' d b v x y
theorem lM(W:XH prog w A.in1 I fp wr G n P St)(p:∀i s,St i s->s.TypeIs (.ref I) "list_reverseiterator")(S:hH)(q:St 0 s)(l:S∉fp)(r:I∈fp)
  (g:s.heap.get? S=a5 {cls:=.type "list",data:=.seq #[]})
  (t:∀s' d a,ZW (S::wr) G s s'->s'.heap.get? S=a5 {cls:=.type "list",dict:=b6,data:=.seq d a,slots:=#[]}->WM P d n->R (.ok (.ret .none)) s') (u:n<=c6) :
  et (hE prog w) A.in1 (IG.«list.__init__» ⟨[.ref S,.ref I],[]⟩)
   (λj s'=>match j with|.done f=>R (.ok f) s'|.again a=>a.quiet=cb/\NF (hE prog w) A a R s') (λe s'=>R (.error e) s') s:=by
 show et _ A.in1 (do let k <-Om (.ref S);Va (.ref S) (λ_=>#[]);letGo k.toList.reverse;mx (.ref S) (.ref I) .none) _ _ s;refine bD ?_;unfold Om;refine bD (Qc g rfl (c2 ?_));show et _ A.in1 (UC S (λ_=>#[]) >>= λ_=>letGo (#[]:Array dt).toList.reverse >>= λ_=>mx (.ref S) (.ref I) .none) _ _ s;refine bD (MO g rfl ?_);have v:=nC (nc (λ_=>(#[]:Array dt))) g rfl;have m:∀b o,b≠S->s.heap.get? b=a5 o->(s.heap.update S (nc (λ_=>(#[]:Array dt)))).get? b=a5 o :=
  λb o c e=>(HY _ _ (sx c)).trans e
 refine bD (wpAny_letGo ?_);refine rL W p S .none _ (W.frame 0 s _ s.toks q (hW _) λb c o e=>m b o (λh=>l (h▸c)) e) l r v (λs' d a x y z=>?_) u;exact t s' d a (Te W.gtrans ((WL W.grefl).then_heap (hW _) λb o c e=>m b o (λh=>c (h▸qP)) e) x) y z
theorem p_(W:XH prog w A.in1.in1 I fp wr G n P St)(h:∀i s,St i s->s.TypeIs (.ref I) "list_reverseiterator")(j:St 0 s)(k:∀b∈fp,b<s.heap.objs.size)(l:I∈fp)
  (m:∀s' a c,ZW (s.heap.objs.size::wr) G {s with heap:=s.heap.push {cls:=.type "list",data:=.seq #[]}} s' ->
   s'.heap.get? s.heap.objs.size=a5 {cls:=.type "list",dict:=b6,data:=.seq a c,slots:=#[]}->WM P a n->Q (.ref s.heap.objs.size) s') (p:n<=c6) :
  et (hE prog w) A (Mu (.type "list") [.ref I]) Q E s:=by
 have q:s.heap.objs.size∉fp:=λd=>tr _ (k _ d);refine Uv (Q₁:=λobj f=>obj=.ref s.heap.objs.size/\f={s with heap:=s.heap.push {cls:=.type "list",data:=.seq #[]}}) PySem.F.called_list (PySem.F.typeCall_list_1 _) PySem.F.entry_list_init
  (code_list_new _ ⟨rfl,rfl⟩) λobj f r=>?_
 obtain⟨rfl,rfl⟩:=r;have g:(s.heap.push {cls:=.type "list",data:=.seq #[]}).get? s.heap.objs.size=a5 {cls:=.type "list",data:=.seq #[]}:=eH _ rfl;refine⟨⟨_,g,rfl⟩,PySem.F.args_list_init_2 _ _,lM W h _ (W.frame 0 s _ s.toks j (hW _) λb _ o e=>cK _ e) q l g (λs' a c d t u=>?_) p⟩;exact⟨rfl,m s' a c d t u⟩
open AutoSeq1 (wpAny_loadPart') in
end
section
theorem ib(a:s.heap.IsTupleIter it l i)
  (hl:s.heap.IsTuple l b) (d:b[i]?=a5 x)
  (e:∀h',h'.IsTupleIter it l (i+1)->qs it s.heap h'->Q x {s with heap:=h' }) :
  et (hE prog w) A (KJ (.ref it)) Q E s:=by
 obtain⟨o,ho,f,c⟩:=id a;obtain⟨j,g,_,k,h⟩:=hl;unfold KJ;refine bD (LF (name:=M7 "__next__") a.typeIs PySem.F.slot_tuple_iterator_next
  (va PySem.F.slot_tuple_iterator_next a.typeIs PySem.F.entry_tuple_iterator_next ?_ (PySem.F.args_tuple_iterator_next_1 _)))
 show et _ _ (ö (.ref it) 0 >>= _) _ _ s;refine bD (L9 ho c (x:=.ref l) rfl ?_);show et _ _ (if (i0 l==l0)=cb then _ else _) _ _ s;rw[ā (show ¬((i0 l==l0)=cb) from q0)];show et _ _ (ö (.ref it) 1 >>= _) _ _ s;refine bD (L9 ho c (x:=.int i 0) rfl ?_);show et _ _ (XC (.ref l) >>= _) _ _ s;refine bD (Qc g h ?_);simp only[Ny,d];refine bD (JK ho c (by simp) (c2 ⟨x,rfl,c2 (e _ ?_ (u7 ..))⟩));exact⟨_,nC _ ho (Nu (HM c _)),(R0 ..).trans f,by
  rw[HM c];simp[ti]⟩
theorem eE(f:A.handled=b6)
  (b:s.heap.IsTupleIter it l i) (hl:s.heap.IsTuple l c) (g:c[i]?=b6)
  (h:∀h' e,YV it s.heap h'->(∃o,h'.get? e=a5 o/\o.cls=.type "StopIteration")->E (.ref e) {s with heap:=h' }) :
  et (hE prog w) A (KJ (.ref it)) Q E s:=by
 obtain⟨o,ho,n,d⟩:=id b;obtain⟨p,j,_,q,k⟩:=hl;unfold KJ;refine bD (LF (name:=M7 "__next__") b.typeIs PySem.F.slot_tuple_iterator_next
  (va PySem.F.slot_tuple_iterator_next b.typeIs PySem.F.entry_tuple_iterator_next ?_ (PySem.F.args_tuple_iterator_next_1 _)))
 show et _ _ (ö (.ref it) 0 >>= _) _ _ s;refine bD (L9 ho d (x:=.ref l) rfl ?_);show et _ _ (if (i0 l==l0)=cb then _ else _) _ _ s;rw[ā (show ¬((i0 l==l0)=cb) from q0)];show et _ _ (ö (.ref it) 1 >>= _) _ _ s;refine bD (L9 ho d (x:=.int i 0) rfl ?_);show et _ _ (XC (.ref l) >>= _) _ _ s;refine bD (Qc j k ?_);simp only[Ny,g];refine bD (LK (bD (JK ho d (by simp) ?_)));show et _ _ (YC (.type "StopIteration") [] >>= _) _ _ _;refine bD ?_;simp only[YC,ZR];refine bD (vl ?_ (by size_fits));refine bD (m:=Qh _ _) (Li (a:=l0) (by first|rfl|(simp only[Qh];rfl)) ?_);refine vl ?_ (by size_fits);simp only[V'];refine bD (Y2 ?_)
 first|rw[show A.in1.handled=b6 from f]|rw[f]
 refine bD (c2 (ZO ?_));exact h _ _ (((u7 ..).extBut.push _).push _) ⟨_,eH _ rfl,rfl⟩
end
theorem qa(c:A.handled=b6)(it l:hH)(d:l≠it)(a:Array dt):
  Draws prog w A it [it,l] a.size (λi v=>a[i]?=a5 v) (λi h=>h.IsTupleIter it l i/\h.IsTuple l a) where
 live:=λ_ _ st=>let ⟨o,ho,_⟩:=st.1;⟨o,ho⟩
 frame:=λ_ _ _ st hk=>⟨st.1.at λo e=>hk it (by simp) o e,let ⟨o,ho,r⟩:=st.2;⟨o,hk l (by simp) o ho,r⟩⟩
 item:=λi s Q E hi st f=>by
  refine ib st.1 st.2 (x:=a[i]) (by simp[hi]) λh' g b=>?_;exact f _ h' s.toks (by simp[hi]) ⟨g,let ⟨o,ho,r⟩:=st.2;⟨o,(b.2 l d).trans ho,r⟩⟩ b
 done:=λs Q E st j=>eE c st.1 st.2 (by simp) j
open AutoSeq1 (wpAny_loadPart') in
theorem ku(l:hH)(a:Array dt)(n:Nat)(e:Option hH)(f:Array (Option dt)):
  Meets (IG.«enumerate.__new__» ⟨[.type "enumerate",.ref l],[]⟩) (λ_ R s=>s.heap.get? l=a5 {cls:=.type "tuple",dict:=e,data:=.seq a n,slots:=f} /\
   R (.ok (.ret (.ref (s.heap.push {cls:=.type "tuple_iterator",data:=.fields #[.ref l,.int 0 0]}).objs.size)))
    {s with heap:=(s.heap.push {cls:=.type "tuple_iterator",data:=.fields #[.ref l,.int 0 0]}).push {cls:=.type "enumerate",data:=.fields #[.none,.bool cL,.ref s.heap.objs.size,ti 0,.none,.none]}}) :=
 .of_wp λprog w A R s h=>by
  obtain⟨i,g,d,j,os⟩:=s;obtain⟨hl,h⟩:=h;have k:=sub_enumerate;have b:Heap.IsTuple (Shared.heap ⟨i,g,d,j,os⟩) l a:=⟨_,hl,rfl,n,rfl⟩
  wp_walk using Ub hl
  refine wpAny_stack_any λst=>c2 ?_;split
  ·rename_i c _ _ _ _ _;cases(c==qb "enumerate")
   ·wp_walk using Ub hl,O' b
    exact⟨_,rfl,h⟩
   ·wp_walk using Ub hl,O' b
    exact⟨_,rfl,h⟩
  ·wp_walk using Ub hl,O' b
   exact⟨_,rfl,h⟩
section
theorem fA(g:s.heap.IsTuple l a)
  (h:∀h',Zn h' (s.heap.objs.size+1) s.heap.objs.size 0 .none->h'.IsTupleIter s.heap.objs.size l 0->h'.objs.size=s.heap.objs.size+2 ->
   (∀b o,s.heap.get? b=a5 o->h'.get? b=a5 o)->Q (.ref (s.heap.objs.size+1)) {s with heap:=h' }) :
  et (hE prog w) A (Mu (.type "enumerate") [.ref l]) Q E s:=by
 obtain⟨⟨c,i,j,k⟩,hl,d,n,e⟩:=g
 replace d:c=.type "tuple":=d
 replace e:j=.seq a n:=e
 subst d e;refine callType_new PySem.F.called_enumerate (by decide) (PySem.F.typeCall_enumerate_1 _) (PySem.F.newCall_enumerate_1 _) (λobj=>PySem.F.args_object_init_2 obj _) PySem.F.entry_enumerate_new
  (ku l a n i k) ⟨hl,?_⟩
 have hz:(s.heap.push {cls:=.type "tuple_iterator",data:=.fields #[.ref l,.int 0 0]}).objs.size=s.heap.objs.size+1:=W9 ..;show _/\_;rw[hz];have f:Zn ((s.heap.push {cls:=.type "tuple_iterator",data:=.fields #[.ref l,.int 0 0]}).push
   {cls:=.type "enumerate",data:=.fields #[.none,.bool cL,.ref s.heap.objs.size,ti 0,.none,.none]}) (s.heap.objs.size+1) s.heap.objs.size 0 .none:=by
  have:=eH (s.heap.push {cls:=.type "tuple_iterator",data:=.fields #[.ref l,.int 0 0]})
   (o:={cls:=.type "enumerate",data:=.fields #[.none,.bool cL,.ref s.heap.objs.size,ti 0,.none,.none]}) rfl
  rw[hz]at this;exact this
 refine⟨⟨_,f,rfl⟩,h _ f ⟨_,cK _ (eH _ rfl),rfl,rfl⟩ (by rw[W9,hz]) λb o x=>cK _ (cK _ x)⟩
end
end L2
namespace L2
open PySem PySem.Spec PyProof.Rows
section
theorem Inv.oq{ch:List hH}(I:Inv X pins σ H s)(d:∀b∈ch,gV X pins H b)(k:∀b o,b∉ch->s.heap.get? b=a5 o->h'.get? b=a5 o):Inv X pins σ H {s with heap:=h',toks:=t' }:=by
 have f:∀b u,H b=a5 u->b∉ch:=λb u e z=>by rw[(d b z).1]at e;cases e
 refine I.step (g':=s.gens) (d':=s.drawn) (ch:=ch) (λb g=>?_) (λb o _ _ a e _=>k b o a e) (λb o _ _ a e _=>⟨o.slots,k b o a e⟩) (λ_ _ _ _ n=>n)
  (λb o a e=>⟨o,k b o a e⟩) (λ_ _ e=>e) (λ_ _ _ e=>e) (λb ps e=>⟨#[],by rw[e];simp⟩) (λm h=>?_) (λb u e=>?_) I.bare
 ·obtain⟨t,i,w,j,l,p⟩:=d b g;exact⟨j,i,l,p⟩
 ·obtain⟨o,es,ep,ho,r⟩:=h;exact⟨o,es,ep,k _ o (λz=>(d _ z).2.1 rfl) ho,r⟩
 ·refine(I.HI b u e).gA (λc v a q=>k c v ?_ q) (λ_ q=>q) λ_ _ q=>q;rcases a with z|z
  ·rw[z];exact f b u e
  ·exact f c _ z
theorem Inv.kA{ch:List hH}(I:Inv X pins σ H s)(g:∀b∈ch,gV X pins H b)(k:∀b o,b∉ch->s.heap.get? b=a5 o->h'.get? b=a5 o)(h:s.heap.objs.size<=T)(new:bF X.prog X.w (upd H T o) h' T o):
  Inv X pins σ (upd H T o) {s with heap:=h',toks:=t' }:=by
 have i:Inv X pins σ H {s with heap:=h',toks:=t' }:=I.oq g k;have j:H T=b6:=I.HI.fresh h;have l:∀b o,s.heap.get? b=a5 o->b≠T:=λb o e z=>by rw[z]at e;exact absurd (i9 (fx e) h) (tr _)
 have a:∀b u,H b=a5 u->b≠T:=λb u e z=>by rw[z,j]at e;cases e
 refine I.step (g':=s.gens) (d':=s.drawn) (ch:=ch) (λb f=>?_) (λb o _ _ d e _=>k b o d e) (λb o _ _ d e _=>⟨o.slots,k b o d e⟩) (λb o _ e n=>by rw[aq (l b o e)];exact n)
  (λb o d e=>⟨o,k b o d e⟩) (λb _ e=>by rw[aq (a b _ e)];exact e) (λb _ _ e=>by rw[aq (a b _ e)];exact e) (λb ps e=>⟨#[],by rw[aq (a b _ e),e];simp⟩) (λm p=>?_) (λb u e=>?_) I.bare
 ·obtain⟨B,t,C,x,y,A⟩:=g b f;exact⟨x,t,y,A⟩
 ·obtain⟨o,es,ep,ho,r⟩:=p;exact⟨o,es,ep,k _ o (λz=>(g _ z).2.1 rfl) ho,r⟩
 ·by_cases f:b=T
  ·subst f;rw[az]at e;cases e;exact new
  ·rw[aq f]at e;exact(i.HI b u e).gA (λc v _ q=>q) (λc q=>by rw[aq (a c _ q)];exact q) λc xs q=>by rw[aq (a c _ q)];exact q
end
noncomputable def NZ(a:Hp->List V->Prop):It :=
 ⟨λi H=>∃xs x,a H xs/\xs[i]?=a5 x,λi H x H'=>∃p,H p=b6/\x=.ref p/\∀xs v,a H xs->xs[i]?=a5 v->H'=upd H p (.tup [.int i,v]),λi H=>∃xs,a H xs/\xs.length<=i⟩
theorem mK{K:PySem.W.Frag}(m:Hp->List V->Prop)(a e it:hH)(L:e≠it)(At:Nat->JN->Prop)(n:JN->Array dt->Prop)
  (JR:∀i h h',At i h->(∀o,h.get? it=a5 o->h'.get? it=a5 o)->At i h') (Uo:∀i h,At i h->∃o,h.get? it=a5 o/\∀v,o.data≠.cell v)
  (Qe:∀(X:Cx) (pins:List (hH×Obj)) (s:gj) (σ:St) (H:Hp) (xs:List V),X.K=K->Inv X pins σ H s->m H xs->∃its:List dt,Vals xs its/\n s.heap its.toArray)
  (RY:∀(X:Cx) (pins:List (hH×Obj)) (s:gj) (σ:St) (H:Hp) (xs r:List V),X.K=K->Inv X pins σ H s->m H xs->m H r->xs=r)
  (Uk:∀h c i d,n h c->Zn h e it i d->e≠a)
  (hD:∀(A:MY) (c:Array dt),A.handled=b6->Draws P w A it [it,a] c.size (λi v=>c[i]?=a5 v) (λi h=>At i h/\n h c))
  (L4:∀(A:MY) (s:gj) (i:Nat) (c:Array dt) (Q:dt->gj->Prop) (E:dt->gj->Prop),A.handled=b6->At i s.heap->n s.heap c->c[i]?=b6 ->
   (∀h' x,YV it s.heap h'->(∃o,h'.get? x=a5 o/\o.cls=.type "StopIteration")->E (.ref x) {s with heap:=h' })->et (hE P w) A (KJ (.ref it)) Q E s) :
  Turn P w K (.Tuple es kx ps) (NZ m) [e,it] e (λi h=>(∃d,Zn h e it i d)/\At i h) where
 mem:=by simp
 obj:=λi h st b f=>by
  obtain⟨⟨d,g⟩,hl⟩:=st;rcases fR.mp f with z|z
  ·rw[z];exact⟨_,g,λv z=>by
    have z':Th _=X' v:=z;cases z'⟩
  ·rw[i3.mp z];exact Uo i h hl
 keep:=λi h h' ⟨⟨d,g⟩,hl⟩ k=>⟨⟨d,k e (by simp) _ g⟩,JR i h h' hl λo q=>k it (by simp) o q⟩
 item:=by
  intro X N O t Y i pins s σ H E I B ⟨⟨d,g⟩,hl⟩ hg;subst N O;obtain⟨xs,x,C,hx⟩:=hg;obtain⟨its,rv,p⟩:=Qe X pins s σ H xs t I C;obtain⟨u,hu,ru⟩:=rv.get hx;have HQ:i<its.toArray.size:=by simpa using(dV.mp hu).1
  have D:=hD X.A.in1 its.toArray (by simpa using I.ok.hd Y);have RZ:=Uk _ _ _ _ p g;refine wpAny_pyNext_enum_itemD D g ⟨hl,p⟩ HQ L (by simp[L,RZ]) λy h1 j G ho st1 J hsz hk=>?_;have ey:y=u:=by
   have:its.toArray[i]?=a5 u:=by simpa using hu
   rw[this]at G;cases G;rfl
  subst ey;refine⟨_,rfl,wpAny_letOwnedTupleGo_enum (s:={s with heap:=h1,toks:=j+1}) ho λl Qf Jg=>?_⟩;have Up:e<s.heap.objs.size:=fx g;have R3:l.get? s.heap.objs.size=a5 {cls:=.type "tuple",data:=.seq #[.int i j,y]}:=(Jg.2 _ (Jd Up)).trans J;have k2:∀b o,b∉[e,it]->s.heap.get? b=a5 o->l.get? b=a5 o:=λb o f q=>by
   simp only[fR,Sa,or_false,not_or]at f;exact(Jg.2 b f.1).trans (hk b o f.1 f.2 q)
  have I2:Inv X pins σ (upd H s.heap.objs.size (.tup [.int i,x])) {s with heap:=l,toks:=j+1}:=I.kA B k2 (hW _)
   (show bF X.prog X.w _ l _ (.tup [.int i,x]) from⟨by show 2<=c6;decide,[.int i j,y],.cons ⟨j,rfl⟩ (.cons ru .nil),⟨_,R3,rfl,_,rfl⟩⟩)
  refine⟨.ref s.heap.objs.size,_,I2,rfl,⟨_,I.HI.fresh (hW _),rfl,λr v G hv=>?_⟩,⟨⟨_,Qf⟩,JR (i+1) h1 l st1.1 λo q=>(Jg.2 it (sx L)).trans q⟩,λb f=>?_⟩
  ·have:=RY X pins s σ H r xs t I G C;subst this;rw[hx]at hv;cases hv;rfl
  ·have IW:b≠s.heap.objs.size:=by
    rcases fR.mp f with z|z
    ·rw[z];exact hV Up
    ·rw[i3.mp z];obtain⟨o,q,_⟩:=Uo i _ hl;exact hV (fx q)
   rw[aq IW];exact(B b f).1
 done:=by
  intro X N O t Y i pins s σ H E I B ⟨⟨d,g⟩,hl⟩ hg;subst N O;obtain⟨xs,C,hx⟩:=hg;obtain⟨its,rv,p⟩:=Qe X pins s σ H xs t I C;have ac:=rv.length;have J:s.TypeIs (.ref e) "enumerate":=⟨_,g,rfl⟩
  unfold Pp;refine bD (Q4 (LF (name:=M7 "__next__") J PySem.F.slot_enumerate_next
   (va PySem.F.slot_enumerate_next J PySem.F.entry_enumerate_next ?_ (PySem.F.args_enumerate_next_1 _))))
  show et _ _ (ö (.ref e) 2 >>= _) _ _ _;refine bD (L9 g rfl (x:=.ref it) rfl ?_);refine bD (L4 _ _ i its.toArray _ _ (by simpa using I.ok.hd Y) hl p (by simp;lia) λh' x OA JC=>?_);obtain⟨o,ho,M5⟩:=JC;refine bD (KA (T:="StopIteration") (b:=cb) ⟨o,ho,M5⟩ YD ?_);refine c2 ⟨rfl,I.oq (t':=s.toks) (ch:=[it]) (λb f=>B b (ux _ f)) λb o f q=>OA b o (λz=>f (by simp[z])) q⟩
 self:=λA i s Q E ⟨⟨d,g⟩,hl⟩ h=>V0 g h
section
variable{X:Cx}{es:List uv}{kx:Nat}{ps p pos:Pos}
theorem v5:D' "enumerate"=a5 (.type "enumerate"):=by decide +kernel
def Hu(K:PySem.W.Frag)(c:TA):TI:=λσ H R=>c σ H λvs b=>∃a,vs=[.ref a]/\((∃xs,Ij K b a xs)/\R (NZ λH xs=>Ij K H a xs) b\/(∃xs,Im K b a xs)/\R (NZ λH xs=>Im K H a xs) b)
theorem DY(a e it:hH)(n:e≠it)(q:a≠it):Turn X.prog X.w X.K (.Tuple es kx ps) (NZ λH xs=>Ij X.K H a xs) [e,it] e (λi h=>(∃c,Zn h e it i c)/\h.IsListIter it a i):=by
 refine mK _ a e it n (λi h=>h.IsListIter it a i) (λh b=>h.IsList a b) (λi h h' x k=>x.at k) (λi h ⟨o,ho,j,r⟩=>⟨o,ho,λv z=>by rw[r]at z;cases z⟩)
  (λY pins s σ H xs f I l=>?_) (λY pins s σ H xs C f I d m=>?_) (λh b i c ⟨o,ho,j,_⟩ t z=>?_) (λA b g=>Draws.list g it a q b) (λA s i b Q E g hl u d y=>wpAny_nextOf_list_end g hl u d y)
 ·rw[<-f]at l;obtain⟨its,rv,p,hz⟩:=I.list l;exact⟨its,rv,p.isList⟩
 ·rw[<-f]at d m;exact I.pH d m
 ·rw[<-z,t]at ho;cases ho;have B:qb "enumerate"=qb "list":=j;exact absurd B (by decide)
theorem DZ(a e it:hH)(n:e≠it)(q:a≠it):Turn X.prog X.w X.K (.Tuple es kx ps) (NZ λH xs=>Im X.K H a xs) [e,it] e (λi h=>(∃c,Zn h e it i c)/\h.IsTupleIter it a i):=by
 refine mK _ a e it n (λi h=>h.IsTupleIter it a i) (λh b=>h.IsTuple a b) (λi h h' x k=>x.at k) (λi h ⟨o,ho,j,r⟩=>⟨o,ho,λv z=>by rw[r]at z;cases z⟩)
  (λY pins s σ H xs f I l=>?_) (λY pins s σ H xs C f I d m=>?_) (λh b i c ⟨o,ho,j,_⟩ t z=>?_) (λA b g=>qa g it a q b) (λA s i b Q E g hl u d y=>eE g hl u d y)
 ·rw[<-f]at l;obtain⟨its,rv,p,hz⟩:=I.tuple l;exact⟨its,rv,p⟩
 ·rw[<-f]at d m;exact I.lY d m
 ·rw[<-z,t]at ho;cases ho;have B:qb "enumerate"=qb "tuple":=j;exact absurd B (by decide)
theorem A5(m:Gl X "enumerate")(n:X.mg "enumerate"=b6)(t:PA X [a] v)(hs:js [a] X.env=[(cL,H0 a X.env)]):PI X (.Tuple es kx ps) (.Call (.Name "enumerate" p) [a] [] pos) (Hu X.K v):=by
 intro pins s σ H R I h;refine Call_ (di I m n v5 (MZ (HJ (t pos pins s σ H _ I h) λus s1 ⟨vs,i,c,w,x⟩=>?_) hs rfl));obtain⟨a',e,q⟩:=x;subst e;obtain⟨u,rfl,r⟩:=vals1 w;cases r;have d:s1.heap.objs.size+1≠s1.heap.objs.size:=Nat.succ_ne_self _;have f:∀(h':JN),(∀b∈[s1.heap.objs.size+1,s1.heap.objs.size],gV X pins i b):=λh' b y=>by
  have l:s1.heap.objs.size<=b:=by
   rcases fR.mp y with z|z
   ·rw[z];exact JF _
   ·rw[i3.mp z];exact hW _
  exact c.xl l (c.HI.fresh l)
 rcases q with⟨⟨xs,j⟩,q⟩|⟨⟨xs,j⟩,q⟩
 ·obtain⟨its,rv,p,hz⟩:=c.list j;have k:a'<s1.heap.objs.size:=let ⟨o,ho,_⟩:=p.isList;fx ho;refine call_enumerate_list p.isList λh' g hl hsz hk=>?_;refine V0 g ⟨_,[s1.heap.objs.size+1,s1.heap.objs.size],_,_,i,rfl,c.kept (t':=s1.toks) hk,DY a' _ _ d (hV k),⟨⟨_,g⟩,hl⟩,f h',q⟩
 ·obtain⟨its,rv,p,hz⟩:=c.tuple j;have k:a'<s1.heap.objs.size:=let ⟨o,ho,_⟩:=p;fx ho;refine fA p λh' g hl hsz hk=>?_;refine V0 g ⟨_,[s1.heap.objs.size+1,s1.heap.objs.size],_,_,i,rfl,c.kept (t':=s1.toks) hk,DZ a' _ _ d (hV k),⟨⟨_,g⟩,hl⟩,f h',q⟩
end
theorem t7{its:List dt}(h:WM (λi v=>its.toArray[its.toArray.size - 1 - i]?=a5 v) acc its.toArray.size):acc.toList=its.reverse:=by
 apply ZA;intro i;have hs:acc.size=its.length:=by have:=h.1;simpa using this
 by_cases hi:i<its.length
 ·have a:i<acc.size:=by lia
  have:=h.2 i (acc[i]'a) (by simp[a]);rw[ro,Mq a,List.getElem?_reverse hi];simpa using this.symm
 ·rw[PQ (by rw[i2];lia),PQ (by rw[Ot];lia)]
section
theorem xV(f:X.calm=cb)(I:Inv X pins σ H s)(g:Ij X.K H a xs)
  (h:∀its,Vals xs its->xs.length<=c6->∀(R:hH) (c:JN),R=s.heap.objs.size->c.objs.size=s.heap.objs.size+1->(∀b o,s.heap.get? b=a5 o->c.get? b=a5 o)->(∀B:MY,B.handled=X.A.handled ->
   Walks X.prog X.w B R [R,a] [R] its.toArray.size (λi v=>its.toArray[its.toArray.size - 1 - i]?=a5 v) (λi h=>i<=its.toArray.size/\h.IsRevIter R a ((its.toArray.size:Int) - 1 - (i:Int))/\h.IsList a its.toArray)) ->
   c.IsRevIter R a ((its.toArray.size:Int) - 1 - ((0:Nat):Int))->c.IsList a its.toArray->a<s.heap.objs.size->Q (.ref R) {s with heap:=c}):et (hE X.prog X.w) X.A (Mu (.type "reversed") [.ref a]) Q X.xe s:=by
 obtain⟨its,rv,p,hz⟩:=I.list g;have d:a<s.heap.objs.size:=let ⟨o,ho,_⟩:=p.isList;fx ho;refine call_reversed_list p.isList (h its rv hz _ _ rfl (by rw[JU]) (λb o e=>cK _ e) (λB j=>Walks.listRev (by rw[j];exact I.ok.hd f) _ a (hV d) its.toArray) ?_ (p.isList.push _) d);refine⟨_,eH _ rfl,rfl,?_⟩;show Th _=Th _;congr 3
 simp
theorem xW(m:X.calm=cb)(I:Inv X pins σ H s)(n:Ij X.K H a xs)(q:∀l,H l=b6->Q (.ref l) (upd H l (.lst xs.reverse))):
  et (hE X.prog X.w) X.A (Mu (.type "reversed") [.ref a]) (λv s1=>et (hE X.prog X.w) X.A (Mu (.type "list") [v]) (EP X pins σ Q) X.xe s1) X.xe s:=by
 refine xV m I n λits rv hz R c g hsz hk p r hl t=>?_;have O:its.length=xs.length:=rv.length.symm;refine p_ (s:={s with heap:=c}) (p X.A.in1.in1 rfl).toS (λi s st=>st.2.1.typeIs) ⟨i8 _,r,hl⟩ (λb d=>?_) (by simp) (λs' acc h f u x=>?_) (by simp;lia)
 ·show b<c.objs.size;rw[hsz];rcases fR.mp d with z|z
  ·rw[z,g];exact LX _
  ·rw[i3.mp z];exact Nv t
 ·obtain⟨j,y,B,C,o2⟩:=s';have D:y=s.gens:=f.gens;have G:B=s.drawn:=f.drawn;have J:o2=s.os:=f.os;subst D G J;have k2:∀b o,s.heap.get? b=a5 o->j.get? b=a5 o:=λb o e=>f.heap b o (λz=>by
   have d:=fx e;rcases fR.mp z with z|z
   ·rw[z]at d;have k:c.objs.size<s.heap.objs.size:=d;rw[hsz]at k;exact absurd k (Vl (LX _))
   ·rw[i3.mp z,g]at e;exact absurd (fx e) (tr _)) (cK _ (hk b o e))
  have L:=t7 x;refine⟨.ref c.objs.size,_,I.laid (t':=C) (o:=.lst xs.reverse) k2 (by rw[hsz];exact JF _) ⟨by rw[Ot];exact hz,its.reverse,h,rv.reverse,?_⟩,rfl,q _ (I.HI.fresh (by rw[hsz];exact JF _))⟩;have N:j.get? c.objs.size=a5 {cls:=.type "list",dict:=b6,data:=.seq acc h,slots:=#[]}:=u;rw[N,<-L,Tg]
end
theorem iT:Y6.lookup (ZN ['d','e','s','r','e','v','e','r'].reverse)=a5 Manifest.sig_reversed:=by kernel_rfl
theorem cC:ZV "reversed" "__next__" "reversed.__next__" :=
 .of (owner:="reversed") (n:="__next__") (by rw[Iv,tA];kernel_rfl) (by decide +kernel) (by decide +kernel) (by decide +kernel) (by first|exact .inl (by decide +kernel)|exact .inr (by decide +kernel)) (by rw[vr];kernel_rfl)
theorem fB:S9 Za "reversed.__next__"=a5 IG.«reversed.__next__»:=S8 (by kernel_rfl)
theorem gk(a:dt):Uw "reversed.__next__" ⟨[a],[]⟩:=by
 unfold Uw;rw[SF (id:="reversed.__next__") (n:=['_','_','t','x','e','n','_','_']) (o:=['d','e','s','r','e','v','e','r']) (by kernel_rfl) iT];kernel_rfl
theorem gn:ZV "reversed" "__iter__" "reversed.__iter__" :=
 .of (owner:="reversed") (n:="__iter__") (by rw[Iv,tA];kernel_rfl) (by decide +kernel) (by decide +kernel) (by decide +kernel) (by first|exact .inl (by decide +kernel)|exact .inr (by decide +kernel)) (by rw[vr];kernel_rfl)
theorem kB:S9 Za "reversed.__iter__"=a5 IG.«dict_keyiterator.__iter__» :=
 Uu (id':="dict_keyiterator.__iter__") (by kernel_rfl) (by first|rfl|decide +kernel|(unfold ZD;simp +decide [Y0])) (by decide +kernel) (by kernel_rfl)
theorem lN(a:dt):Uw "reversed.__iter__" ⟨[a],[]⟩:=by
 unfold Uw;rw[SF (id:="reversed.__iter__") (n:=['_','_','r','e','t','i','_','_']) (o:=['d','e','s','r','e','v','e','r']) (by kernel_rfl) iT];kernel_rfl
theorem d6:ZV "reversed" "__length_hint__" "reversed.__length_hint__" :=
 .of (owner:="reversed") (n:="__length_hint__") (by rw[Iv,tA];kernel_rfl) (by decide +kernel) (by decide +kernel) (by decide +kernel) (by first|exact .inl (by decide +kernel)|exact .inr (by decide +kernel)) (by rw[vr];kernel_rfl)
theorem kC:S9 Za "reversed.__length_hint__"=a5 IG.«reversed.__length_hint__»:=S8 (by kernel_rfl)
theorem lO(a:dt):Uw "reversed.__length_hint__" ⟨[a],[]⟩:=by
 unfold Uw;rw[SF (id:="reversed.__length_hint__") (n:=['_','_','t','n','i','h','_','h','t','g','n','e','l','_','_']) (o:=['d','e','s','r','e','v','e','r']) (by kernel_rfl) iT];kernel_rfl
theorem rM:QN (.type "reversed") "__len__"=pure b6:=by rw[Iv,tA];kernel_rfl
theorem ot:QN (.type "tuple") "__reversed__"=pure b6:=by rw[Iv,tA];kernel_rfl
theorem lP:OM (.type "tuple") (.type "dict")=pure cL:=by rw[vr];kernel_rfl
theorem lQ:ZV "reversed" "__init__" "object.__init__" :=
 .of (owner:="object") (n:="__init__") (by rw[Iv,tA];kernel_rfl) (by decide +kernel) (by decide +kernel) (by decide +kernel) (by first|exact .inl (by decide +kernel)|exact .inr (by decide +kernel)) (by rw[vr];kernel_rfl)
theorem gI:TypeCalled "reversed" "reversed.__new__" "object.__init__" :=
 ⟨by decide +kernel,PySem.F.create_reversed,⟨_,_,PySem.F.mro_reversed⟩,PySem.F.made_reversed,PySem.F.plain_reversed_new,PySem.F.sub_reversed_self,lQ⟩
noncomputable def jo(l:hH)(i:Int):Obj:={cls:=.type "reversed",data:=.fields #[.ref l,ti i]}
def fh(h:JN)(a l:hH)(i:Int):Prop:=∃o,h.get? a=a5 o/\o.cls=.type "reversed"/\o.data=.fields #[.ref l,ti i]
theorem fh.typeIs{s:gj}(x:fh s.heap a l i):s.TypeIs (.ref a) "reversed":=let ⟨o,ho,b,_⟩:=x;⟨o,ho,b⟩
theorem fh.at(x:fh h a l i)(e:∀o,h.get? a=a5 o->h'.get? a=a5 o):fh h' a l i:=let ⟨o,ho,r⟩:=x;⟨o,e _ ho,r⟩
section
theorem A6(hl:XY s.heap l b)(hz:b.size<=c6)
  (h:Q (.ref s.heap.objs.size) {s with heap:=s.heap.push (jo l ((b.size:Int) - 1)),toks:=s.toks+2}) :
  NF (hE prog w) A (.call (.builtin "reversed.__new__") ⟨[.type "reversed",.ref l],[]⟩) (wants Q E) s:=by
 have c:c6<2 ^ 60:=by decide
 refine X7 ?_;show et _ A.in1 (do â "reversed.__new__" ⟨[.type "reversed",.ref l],[]⟩;Ö (.builtin "reversed.__new__" ⟨[.type "reversed",.ref l],[]⟩)) _ _ s;refine bD (Li (PySem.F.newCall_reversed_1 _) (c2 ⟨Ma PySem.F.plain_reversed_new _,Iw PySem.F.entry_reversed_new ?_⟩));rw[Ic PySem.F.plain_reversed_new _];unfold IG.«reversed.__new__»;refine bD (Li (newClass_reversed _) ?_)
 try dsimp only
 refine bD (Li (a:=()) (by first|rfl|kernel_rfl) ?_);refine bD (Li (a:=()) (by first|rfl|kernel_rfl) ?_)
 try dsimp only
 refine bD (LJ hl.typeIs ot ?_)
 try dsimp only
 refine bD ?_
 wp_delta
 refine bD (KA hl.typeIs lP ?_);rw[ā (by decide)];refine bD (LJ hl.typeIs Vk.lookup ?_)
 try dsimp only
 rw[ÿ (by decide)];refine c2 ?_;rw[ā (by decide)];refine bD (æ hl ⋯ ?_);refine bD (c2 ?_);show et _ _ (newObj (.type "reversed") (.fields #[.ref l,ti ((b.size:Int) - 1)]) >>= _) _ _ _;exact bD (vl (c2 h) (by size_fits))
theorem xX(hl:XY s.heap l a)(hz:a.size<=c6)
  (h:Q (.ref s.heap.objs.size) {s with heap:=s.heap.push (jo l ((a.size:Int) - 1)),toks:=s.toks+2}):et (hE prog w) A (Mu (.type "reversed") [.ref l]) Q E s:=by
 refine Uv (Q₁:=λobj b=>obj=.ref s.heap.objs.size/\b={s with heap:=s.heap.push (jo l ((a.size:Int) - 1)),toks:=s.toks+2}) gI (PySem.F.typeCall_reversed_1 _) PySem.F.entry_object_init (A6 hl hz ⟨rfl,rfl⟩) ?_;rintro obj b ⟨rfl,rfl⟩;have c:({s with heap:=s.heap.push (jo l ((a.size:Int) - 1)),toks:=s.toks+2}:gj).TypeIs (.ref s.heap.objs.size) "reversed":=⟨_,eH _ rfl,rfl⟩
 exact⟨c,PySem.F.args_object_init_2 _ _,object_init_meets gI.init.lookup gI.made (by decide) prog w A.in1 _ _ ⟨c,rfl,h⟩⟩
theorem xY{i:Nat}(hz:b.size<=c6)(c:fh s.heap it l (i:Int))(hl:XY s.heap l b)(e:b[i]?=a5 x)
  (f:∀h' g,fh h' it l ((i:Int) - 1)->qs it s.heap h'->Q (a5 x) {s with heap:=h',toks:=g}):et (hE prog w) A (Pp (.ref it)) Q E s:=by
 obtain⟨o,ho,h,d⟩:=id c;have k:c6<2 ^ 60:=by decide
 have hi:i<b.size:=(WV.mp e).1;unfold Pp;refine bD (Q4 (LF (name:=M7 "__next__") c.typeIs cC
  (va cC c.typeIs fB ?_ (gk _))))
 unfold IG.«reversed.__next__»;refine bD (Li (a:=(i0 it,[])) rfl ?_)
 try dsimp only
 refine bD (L9 ho d (x:=.ref l) rfl ?_);refine bD (L9 ho d (x:=ti (i:Int)) rfl ?_);show et _ _ (if (i:Int)<0 then _ else _) _ _ s;rw[ā ⋯];refine bD (LJ hl.typeIs Vk.lookup ?_);rw[ā (by decide)];refine bD (wpAny_mkInt (bD (Q4 (getItem_tuple (s:={s with toks:=s.toks+1}) (j:=i) hl ⋯ ⋯ (by simp[UK];lia) e ?_))))
 dsimp only
 refine bD (L9 ho d (x:=ti (i:Int)) rfl ?_);refine bD (JK ho d (by simp) ?_);refine c2 ⟨x,rfl,c2 (f _ _ ?_ (u7 ..))⟩;exact⟨_,nC _ ho (Nu (HM d _)),(R0 ..).trans h,by
  rw[HM d];simp⟩
theorem A7(f:A.handled=b6)(c:fh s.heap it l (-1))
  (g:∀h',YV it s.heap h'->Q b6 {s with heap:=h' }):et (hE prog w) A (Pp (.ref it)) Q E s:=by
 obtain⟨o,ho,i,d⟩:=id c;unfold Pp;refine bD (Q4 (LF (name:=M7 "__next__") c.typeIs cC
  (va cC c.typeIs fB ?_ (gk _))))
 unfold IG.«reversed.__next__»;refine bD (Li (a:=(i0 it,[])) rfl ?_)
 try dsimp only
 refine bD (L9 ho d (x:=.ref l) rfl ?_);refine bD (L9 ho d (x:=ti (-1)) rfl ?_);show et _ _ (if (-1:Int)<0 then _ else _) _ _ s;rw[ÿ (by decide)];refine bD (LK ?_);refine bD ?_
 wp_delta
 refine bD (JK ho d (by simp) ?_);have h:=nC (X_ λxs=>xs.set! 1 (ti (-1))) ho (Nu (HM d _));have e:=HM d (λxs=>xs.set! 1 (ti (-1)));refine JK h e (by simp) ?_;refine bD ?_
 wp_delta
 simp only[YC,ZR];refine bD (bD (vl ?_ (by size_fits)));refine bD (m:=Qh _ _) (Li (a:=l0) (by first|rfl|(simp only[Qh];rfl)) ?_);refine vl ?_ (by size_fits);simp only[V'];refine bD (Y2 ?_)
 first|rw[show A.in1.handled=b6 from f]|rw[f]
 refine bD (c2 (ZO ?_));refine bD (KA (T:="StopIteration") (b:=cb) ⟨_,eH _ rfl,rfl⟩ YD ?_);exact c2 (g _ (((((u7 ..).extBut).trans (u7 ..).extBut).push _).push _))
theorem xZ(a:fh s.heap it l i)(h:Q (.ref it) s):et (hE prog w) A (XD (.ref it)) Q E s:=by
 refine VS a.typeIs gn (va gn a.typeIs kB ?_ (lN _));show et _ _ (ret (.ref it)) _ _ s;exact c2 ⟨_,rfl,"reversed",_,a.typeIs,cC.lookup,h⟩
theorem v7(p:A.handled=b6)(I l:hH)(q:l≠I)(a:Array dt)(hz:a.size<=c6):
  Walks prog w A I [I,l] [I] a.size (λi v=>a[a.size - 1 - i]?=a5 v) (λi h=>i<=a.size/\fh h I l ((a.size:Int) - 1 - (i:Int))/\XY h l a) where
 sub:=λb d=>by simp at d;simp[d]
 frame:=λ_ _ _ x hk=>⟨x.1,x.2.1.at λo e=>hk I (by simp) o e,let ⟨o,ho,r⟩:=x.2.2;⟨o,hk l (by simp) o ho,r⟩⟩
 item:=λi s Q E hi x f=>by
  have e:(a.size:Int) - 1 - (i:Int)=((a.size - 1 - i:Nat):Int):=by lia
  have c:=x.2.1;rw[e]at c;have j:a[a.size - 1 - i]?=a5 (a[a.size - 1 - i]'⋯):=Mq ⋯;refine xY hz c x.2.2 j λh' t k m=>?_;have u:((a.size - 1 - i:Nat):Int) - 1=(a.size:Int) - 1 - ((i+1:Nat):Int):=by lia
  rw[u]at k;exact f _ h' t j ⟨hi,k,let ⟨o,ho,r⟩:=x.2.2;⟨o,(m.2 l q).trans ho,r⟩⟩ λb o d g=>m.extBut b o (λh=>d (by simp[h])) g
 done:=λs Q E x f=>by
  have e:(a.size:Int) - 1 - (a.size:Int)=-1:=by lia
  have c:=x.2.1;rw[e]at c;exact A7 p c λh' y=>f h' s.toks λb o d g=>y b o (λh=>d (by simp[h])) g
 self:=λ_ _ _ _ x f=>xZ x.2.1 f
theorem x6(d:fh s.heap I l ((c.size:Int) - 1))(hl:XY s.heap l c)(hz:c.size<=c6)(h:∀b e,s.toks<=e->Q b {s with toks:=e}):
  et (hE prog w) A (y1 (.ref I)) Q E s:=by
 have g:c6<2 ^ 60:=by decide
 obtain⟨o,ho,j,f⟩:=id d;unfold y1;refine bD (LJ d.typeIs rM ?_);show et _ A (specialOf (i0 I) (M7 "__length_hint__") >>= _) _ _ _;refine bD (LJ d.typeIs d6.lookup ?_);have i:splitId "reversed.__length_hint__"=a5 ("reversed","__length_hint__"):=by decide +kernel
 dsimp only
 rw[i]
 dsimp only
 refine bD (KA d.typeIs PySem.F.sub_reversed_self ?_);rw[ā (by decide)];rw[ā (by decide +kernel)];refine bD (LK ?_);refine bD (Li (d6.bind _) ?_)
 dsimp only
 refine bD (Q4 (va d6 d.typeIs kC ?_ (lO _)));unfold IG.«reversed.__length_hint__»;refine bD (Li (a:=i0 I) rfl ?_);refine bD (L9 ho f (x:=.ref l) rfl ?_);rw[ā (show ¬((i0 l==l0)=cb) from q0)];refine bD (æ hl ⋯ ?_);refine bD (c2 ?_);refine bD (L9 (s:={s with toks:=s.toks+1+1}) ho f (x:=ti ((c.size:Int) - 1)) rfl ?_);show et _ _ (if (c.size:Int)<(c.size:Int) - 1+1 then _ else _) _ _ _;rw[ā ⋯];refine bD (wpAny_mkInt (c2 ⟨_,rfl,?_⟩))
 dsimp only
 refine bD (c2 ?_)
 dsimp only
 rw[ā (by simp only[î,x2,YR,decide_eq_false_iff_not];lia),ā ⋯,ā (by simp only[Jp,Ā];lia)];exact c2 (h _ _ ⋯)
variable{I:hH}{fp wr:List hH}{G:Array Tf->Array Tf->Prop}{n:Nat}{P:Nat->dt->Prop}{St:Nat->gj->Prop}
theorem rN(W:XH prog w A.in1 I fp wr G n P St)(z:∀i s,St i s->s.TypeIs (.ref I) "reversed")(B:∀(A:MY) (E:dt->gj->Prop) (s:gj) (Q:Bool->gj->Prop),St 0 s->(∀b c,s.toks<=c->Q b {s with toks:=c})->et (hE prog w) A (y1 (.ref I)) Q E s)(S:hH)(res:dt)(C:Nat)(j:St 0 s)(k:S∉fp)(D:I∈fp)
  (m:s.heap.get? S=a5 {cls:=.type "list",data:=.seq #[] C})
  (u:∀s' d a,ZW (S::wr) G s s'->s'.heap.get? S=a5 {cls:=.type "list",dict:=b6,data:=.seq d a,slots:=#[]}->WM P d n->R (.ok (.ret res)) s') (v:n<=c6) :
  et (hE prog w) A.in1 (mx (.ref S) (.ref I) res)
   (λp s'=>match p with|.done f=>R (.ok f) s'|.again a=>a.quiet=cb/\NF (hE prog w) A a R s') (λe s'=>R (.error e) s') s:=by
 have H:S≠I:=λe=>k (e▸D);unfold mx;refine bD (P' (z 0 _ j) ?_);have J:Jy (.ref S) (.ref I)=cL:=by simp[Jy,H]
 have L:(qb "reversed"==qb "list")=cL:=by decide
 have N:(qb "reversed"==qb "tuple")=cL:=by decide
 simp only[J,L,N,QC,Ke,if_false];refine bD (W.self 0 _ _ _ j ?_);refine bD (ri ?_);refine B _ _ _ _ j λb c l=>?_;have O:=W.frame 0 s s.heap c j l λb _ o e=>e;refine ì (λ_=>?_) (λ_=>c2 ⟨Ma PySem.F.plain_extend_loop _,Q9 W v _ k _ n 0 _ _ _ rfl (i8 _) O m (UX P) λs' d a q r t=>u s' d a (Te W.gtrans ((WL W.grefl).then_heap l λb o _ e=>e) q) r t⟩);refine bD (LK ?_);refine bD ?_;show et _ _ (UC S (·.push .none) >>= λ_=>UC S (·.pop)) _ _ _;refine bD (MO (s:={s with toks:=c}) m rfl ?_);have x:=nC (nc (·.push l0)) m rfl;refine MO (hz:=by seq_fits) x rfl ?_;have T:=nC (nc (·.pop)) x rfl;have y:∀b o,b≠S->s.heap.get? b=a5 o->((s.heap.update S (nc (·.push l0))).update S (nc (·.pop))).get? b=a5 o:=λb o g e=>(HY _ _ (sx g)).trans ((HY _ _ (sx g)).trans e);refine c2 ⟨Ma PySem.F.plain_extend_loop _,Q9 W v _ k _ n 0 _ _ _ rfl (i8 _) (W.frame 0 s _ c j l λb g o e=>y b o (λh=>k (h▸g)) e) T (UX P) λs' d a q r t=>?_⟩;exact u s' d a (Te W.gtrans ((WL W.grefl).then_heap l λb o g e=>y b o (λh=>g (h▸qP)) e) q) r t
open AutoSeq1 (wpAny_loadPart') in
end
section
end
end L2
namespace L2
open PySem PySem.W PyProof.Rows
section
variable{I:hH}{fp wr:List hH}{G:Array Tf->Array Tf->Prop}{n:Nat}{P:Nat->dt->Prop}{St:Nat->gj->Prop}
theorem lR(W:XH prog w A.in1 I fp wr G n P St)(q:∀i s,St i s->s.TypeIs (.ref I) "reversed")(r:∀(A:MY) (E:dt->gj->Prop) (s:gj) (Q:Bool->gj->Prop),St 0 s->(∀b l,s.toks<=l->Q b {s with toks:=l})->et (hE prog w) A (y1 (.ref I)) Q E s)(S:hH)(t:St 0 s)(m:S∉fp)(u:I∈fp)
  (g:s.heap.get? S=a5 {cls:=.type "list",data:=.seq #[]})
  (v:∀s' d a,ZW (S::wr) G s s'->s'.heap.get? S=a5 {cls:=.type "list",dict:=b6,data:=.seq d a,slots:=#[]}->WM P d n->R (.ok (.ret .none)) s') (x:n<=c6) :
  et (hE prog w) A.in1 (IG.«list.__init__» ⟨[.ref S,.ref I],[]⟩)
   (λj s'=>match j with|.done f=>R (.ok f) s'|.again a=>a.quiet=cb/\NF (hE prog w) A a R s') (λe s'=>R (.error e) s') s:=by
 show et _ A.in1 (do let k <-Om (.ref S);Va (.ref S) (λ_=>#[]);letGo k.toList.reverse;mx (.ref S) (.ref I) .none) _ _ s;refine bD ?_;unfold Om;refine bD (Qc g rfl (c2 ?_));show et _ A.in1 (UC S (λ_=>#[]) >>= λ_=>letGo (#[]:Array dt).toList.reverse >>= λ_=>mx (.ref S) (.ref I) .none) _ _ s;refine bD (MO g rfl ?_);have y:=nC (nc (λ_=>(#[]:Array dt))) g rfl;have p:∀b o,b≠S->s.heap.get? b=a5 o->(s.heap.update S (nc (λ_=>(#[]:Array dt)))).get? b=a5 o :=
  λb o c e=>(HY _ _ (sx c)).trans e
 refine bD (wpAny_letGo ?_);refine rN W q r S .none _ (W.frame 0 s _ s.toks t (hW _) λb c o e=>p b o (λh=>m (h▸c)) e) m u y (λs' d a z B C=>?_) x;exact v s' d a (Te W.gtrans ((WL W.grefl).then_heap (hW _) λb o c e=>p b o (λh=>c (h▸qP)) e) z) B C
theorem qc(W:XH prog w A.in1.in1 I fp wr G n P St)(j:∀i s,St i s->s.TypeIs (.ref I) "reversed")(k:∀(A:MY) (E:dt->gj->Prop) (s:gj) (Q:Bool->gj->Prop),St 0 s->(∀b f,s.toks<=f->Q b {s with toks:=f})->et (hE prog w) A (y1 (.ref I)) Q E s)(l:St 0 s)(m:∀b∈fp,b<s.heap.objs.size)(p:I∈fp)
  (q:∀s' a c,ZW (s.heap.objs.size::wr) G {s with heap:=s.heap.push {cls:=.type "list",data:=.seq #[]}} s' ->
   s'.heap.get? s.heap.objs.size=a5 {cls:=.type "list",dict:=b6,data:=.seq a c,slots:=#[]}->WM P a n->Q (.ref s.heap.objs.size) s') (r:n<=c6) :
  et (hE prog w) A (Mu (.type "list") [.ref I]) Q E s:=by
 have t:s.heap.objs.size∉fp:=λd=>tr _ (m _ d);refine Uv (Q₁:=λobj g=>obj=.ref s.heap.objs.size/\g={s with heap:=s.heap.push {cls:=.type "list",data:=.seq #[]}}) PySem.F.called_list (PySem.F.typeCall_list_1 _) PySem.F.entry_list_init
  (code_list_new _ ⟨rfl,rfl⟩) λobj g u=>?_
 obtain⟨rfl,rfl⟩:=u;have h:(s.heap.push {cls:=.type "list",data:=.seq #[]}).get? s.heap.objs.size=a5 {cls:=.type "list",data:=.seq #[]}:=eH _ rfl;refine⟨⟨_,h,rfl⟩,PySem.F.args_list_init_2 _ _,lR W j k _ (W.frame 0 s _ s.toks l (hW _) λb _ o e=>cK _ e) t p h (λs' a c d v x=>?_) r⟩;exact⟨rfl,q s' a c d v x⟩
end
section
theorem x8(t:X.calm=cb)(I:Inv X pins σ H s)(u:Im X.K H a xs)(q:∀l,H l=b6->Q (.ref l) (upd H l (.lst xs.reverse))):
  et (hE X.prog X.w) X.A (Mu (.type "reversed") [.ref a]) (λv s1=>et (hE X.prog X.w) X.A (Mu (.type "list") [v]) (EP X pins σ Q) X.xe s1) X.xe s:=by
 obtain⟨its,rv,p,hz⟩:=I.tuple u;have Y:its.length=xs.length:=rv.length.symm;have j:a<s.heap.objs.size:=p.lt;have d:its.toArray.size<=c6:=by simp;lia
 have hsz:(s.heap.push (jo a ((its.toArray.size:Int) - 1))).objs.size=s.heap.objs.size+1:=JU ..;refine xX p d ?_;have x:fh (s.heap.push (jo a ((its.toArray.size:Int) - 1))) s.heap.objs.size a ((its.toArray.size:Int) - 1):=⟨_,eH _ rfl,rfl,rfl⟩
 refine qc (v7 (A:=X.A.in1.in1) (I.ok.hd t) s.heap.objs.size a (hV j) its.toArray d).toS (λi s st=>st.2.1.typeIs) (λA E s Q st h=>x6 (by simpa using st.2.1) st.2.2 d h) ⟨i8 _,by simpa using x,p.push _⟩ (λb f=>?_) (by simp) (λs' acc k c m y=>?_) d
 ·show b<(s.heap.push (jo a ((its.toArray.size:Int) - 1))).objs.size;rw[hsz];rcases fR.mp f with z|z
  ·rw[z];exact LX _
  ·rw[i3.mp z];exact Nv j
 ·obtain⟨n,B,C,D,o2⟩:=s';have G:B=s.gens:=c.gens;have J:C=s.drawn:=c.drawn;have L:o2=s.os:=c.os;subst G J L;generalize N:s.heap.push (jo a ((its.toArray.size:Int) - 1))=g at c m hsz;have k2:∀b o,s.heap.get? b=a5 o->n.get? b=a5 o:=λb o e=>c.heap b o (λz=>by
   have f:=fx e;rcases fR.mp z with z|z
   ·rw[z]at f;have r:g.objs.size<s.heap.objs.size:=f;rw[hsz]at r;exact absurd r (Vl (LX _))
   ·rw[i3.mp z]at e;exact absurd (fx e) (tr _)) (cK _ (by rw[<-N];exact cK _ e))
  have O:=t7 y;refine⟨.ref g.objs.size,_,I.laid (t':=D) (o:=.lst xs.reverse) k2 (by rw[hsz];exact JF _) ⟨by rw[Ot];exact hz,its.reverse,k,rv.reverse,?_⟩,rfl,q _ (I.HI.fresh (by rw[hsz];exact JF _))⟩;have T:n.get? g.objs.size=a5 {cls:=.type "list",dict:=b6,data:=.seq acc k,slots:=#[]}:=m;rw[T,<-O,Tg]
end
end L2
namespace L2
open PySem PySem.Spec PyProof.Rows
theorem v8(l:hH)(a:Array dt)(n:Nat)(b:hH)(c:Array dt)(e:Nat)(f:Option hH)(i:Array (Option dt))(p:¬(!a.isEmpty&&Jp (a.size+c.size))=cb)(j:a.size<=c6)(k:a.size+c.size<=c6+1):
  Meets (IG.«list.extend» ⟨[.ref l,.ref b],[]⟩) (λ_ R s=>s.heap.get? l=a5 {cls:=.type "list",dict:=b6,data:=.seq a n,slots:=#[]}/\s.heap.get? b=a5 {cls:=.type "list",dict:=f,data:=.seq c e,slots:=i}/\R (.ok (.ret l0)) {s with heap:=s.heap.update l (nc λx=>x++c),toks:=s.toks}) :=
 .of_wp λprog w A R s h=>by
  obtain⟨q,g,d,r,os⟩:=s;obtain⟨hl,m,h⟩:=h;have t:=YW;have u:=Vs;have v:=W';have y:=WQ;have z:=WR;
  have o:(a++c).size<=c6+1:=by rw[Uy];exact k
  wp_walk using(MO hl rfl (hz:=j) (_hz':=o)),Oe hl,Oe m;exact⟨_,rfl,h⟩
theorem v9(l:hH)(a:Array dt)(n:Nat)(b:hH)(c:Array dt)(e:Nat)(f:Option hH)(i:Array (Option dt))(p:¬(!a.isEmpty&&Jp (a.size+c.size))=cb)(j:a.size<=c6)(k:a.size+c.size<=c6+1):
  Meets (IG.«list.extend» ⟨[.ref l,.ref b],[]⟩) (λ_ R s=>s.heap.get? l=a5 {cls:=.type "list",dict:=b6,data:=.seq a n,slots:=#[]}/\s.heap.get? b=a5 {cls:=.type "tuple",dict:=f,data:=.seq c e,slots:=i}/\R (.ok (.ret l0)) {s with heap:=s.heap.update l (nc λx=>x++c),toks:=s.toks}) :=
 .of_wp λprog w A R s h=>by
  obtain⟨q,g,d,r,os⟩:=s;obtain⟨hl,m,h⟩:=h;have t:=YW;have u:=Vs;have v:=W';have y:=WQ;have z:=WR;
  have o:(a++c).size<=c6+1:=by rw[Uy];exact k
  wp_walk using(MO hl rfl (hz:=j) (_hz':=o)),Oe hl,Oe m;exact⟨_,rfl,h⟩
section
theorem rO:P1 X "list.extend" (λx vs H Q=>∃l b xs zs,x=.ref l/\vs=[.ref b]/\H l=a5 (.lst xs)/\(Ij X.K H b zs\/Im X.K H b zs)/\xs.length+zs.length<=c6/\Q .HH (upd H l (.lst (xs++zs)))):=by
 intro pins s σ H x vs v us Q I w rv h;obtain⟨l,b,xs,zs,rfl,rfl,p,hB,hz,q⟩:=h;cases w;obtain⟨u,rfl,y⟩:=rv.one;cases y;obtain⟨z,its,n,r,hl,e⟩:=I.AN p;have d:∀a:List dt,Vals zs a->EP X pins σ Q l0 {s with heap:=s.heap.update l (nc λx=>x++a.toArray),toks:=s.toks}:=λa c=>by
  refine⟨.HH,_,I.lH (its':=its++a) p e (by simp) (r.append c) ?_,rfl,q⟩;rw[hY];lia
 have j:∀a:List dt,zs.length=a.length->its.toArray.size+a.toArray.size<=c6:=λa h=>by rw[hU,hU];lia
 have t:∀a:List dt,zs.length=a.length->¬(!its.toArray.isEmpty&&Jp (its.toArray.size+a.toArray.size))=cb:=λa h=>by
  rw[xr (j a h),Rn];exact q0
 rcases hB with hB|hB
 ·obtain⟨a,c,pl,_⟩:=I.list hB;obtain⟨⟨cls,k,data,m⟩,ho,f,o,g⟩:=pl.isList;simp only at f g;subst f g;have i:=c.length;have A:=j a i;exact TL ZX ⟨_,e,rfl⟩ ZG (Zo _ _) (v8 l its.toArray n b a.toArray o k m (t a i) ⋯ ⋯) ⟨e,ho,d a c⟩
 ·obtain⟨a,c,pl,_⟩:=I.tuple hB;obtain⟨⟨cls,k,data,m⟩,ho,f,o,g⟩:=pl;simp only at f g;subst f g;have i:=c.length;have A:=j a i;exact TL ZX ⟨_,e,rfl⟩ ZG (Zo _ _) (v9 l its.toArray n b a.toArray o k m (t a i) ⋯ ⋯) ⟨e,ho,d a c⟩
end
end L2
namespace L2
open PySem PySem.W PyProof.Rows
section
theorem v_{vs:List (Key×dt)}(hk:vs.map (·.1)=ks.map kr)(hl:acc.length=vs.length)(h:∀(j:Nat) (v:dt),acc[j]?=a5 v->∃k x,vs[j]?=a5 (k,x)/\(aG P w).is k v=cb):Qv acc ks:=by
 induction acc generalizing ks vs with
 |nil =>
  cases vs with
  |nil=>cases ks with
   |nil=>exact .nil
   |cons _ _=>cases hk
  |cons _ _=>cases hl
 |cons v acc b =>
  cases vs with
  |nil=>cases hl
  |cons p vs =>
   cases ks with
   |nil=>cases hk
   |cons k ks =>
    simp only[ez,P2]at hk;obtain⟨k',x,a,c⟩:=h 0 v rfl;simp only[List.getElem?_cons_zero,QG]at a;subst a;have d:k'=kr k:=hk.1;subst d;rcases bg (show jh (kr k) v=cb from c) with⟨i,t,e,rfl⟩|⟨y,t,e,rfl⟩
    ·cases e
    ·cases e;exact .cons _ _ (b hk.2 (by simpa using hl) λj u f=>h (j+1) u (by simpa using f))
theorem iU:X.calm=cb->d_ X (.builtin "sorted") (λxs H Q=>∃(d:hH) (kvs:List (Key×V)) (ks:List Str),xs=[.ref d]/\H d=a5 (.dK kvs)/\kvs.map (·.1)=ks.map kr/\ks.length<64/\∀q,H q=b6->Q (.ref q) (upd H q (.lst ((aJ ks).map V.str)))):=by
 intro l pins s σ H xs us Q I rs h;obtain⟨d,kvs,ks,rfl,e,hk,D,q⟩:=h;obtain⟨u,rfl,r⟩:=vals1 rs;cases r;obtain⟨hz,lo,vs,kv,i⟩:=tN I.HI e;have a:vs.length=kvs.length:=(Paired.length kv).symm;have m:kvs.length=ks.length:=by rw[<-cc (f:=(·.1)),hk,cc]
 have n:vs.map (·.1)=ks.map kr:=by
  rw[<-hk];clear i a hk m e q hz;induction kv with
  |nil=>rfl
  |cons r _ p=>rw[ez,ez,p,r.1]
 obtain⟨o,es,ep,t⟩:=id i;have x:(64:Nat)<=c6:=by decide
 refine eT (kdu_collect (A:=X.A.in1) (kdl_dict (knd:=aG X.prog X.w) (kvs:=vs) (ep:=ep) lo) (I.ok.hd l) ⟨o,es,t⟩ ⋯ λh' b acc y c=>⟨ks,v_ n (by rw[i2];exact c.1) (λj v z=>c.2 j v (by rw[<-ro];exact z)),by rw[i2,c.1];lia,λG B C k2 g s2=>?_⟩);have k:Inv X pins σ H {s with heap:=h',toks:=b}:=I.kept (t':=b) y;exact⟨.ref h'.objs.size,_,k.laid (t':=b) (o:=.lst ((aJ ks).map V.str)) k2 (hW _) ⟨by rw[cc,bT];lia,B,C,dv s2,g⟩,rfl,q _ (k.HI.fresh (hW _))⟩
end
section
theorem qd:d_ X (.builtin "len") (λxs H Q=>∃(d:hH) (kvs:List (Key×V)),xs=[.ref d]/\H d=a5 (.dK kvs)/\Q (.int kvs.length) H):=by
 intro pins s σ H xs us Q I rs h;obtain⟨d,kvs,rfl,e,q⟩:=h;obtain⟨u,rfl,r⟩:=vals1 rs;cases r;obtain⟨hz,lo,vs,kv,b⟩:=tN I.HI e;have a:vs.length=kvs.length:=(Paired.length kv).symm;have c:=eQ;exact call_len_dict lo b ⋯ ⟨.int kvs.length,H,I.tok _,⟨_,by rw[a]⟩,q⟩
end
section
theorem kD:∀{ns:List Int}{its:List dt},Vals (ns.map V.int) its->∃ps:List (Int×Tok),its=ps.map (λp=>U' p.1 p.2)/\ps.map (·.1)=ns
 |[],_,h=>by cases h;exact⟨[],rfl,rfl⟩
 |n::ns,_,h=>by
  cases h with
  |cons r t =>
   obtain⟨a,rfl⟩:=r;obtain⟨ps,rfl,rfl⟩:=kD t;exact⟨(n,a)::ps,rfl,rfl⟩
theorem x9:X.calm=cb->d_ X (.builtin "sum") (λxs H Q=>∃(p:hH) (ns:List Int),xs=[.ref p]/\Ij X.K H p (ns.map V.int)/\Q (.int ns.sum) H):=by
 intro a pins s σ H xs us Q I rs h;obtain⟨p,ns,rfl,b,q⟩:=h;obtain⟨u,rfl,r⟩:=vals1 rs;cases r;obtain⟨its,rv,pl,hz⟩:=I.list b;obtain⟨ps,rfl,rfl⟩:=kD rv;have e:(ps.map λp=>U' p.1 p.2).toArray=intItems ps.toArray:=by simp[intItems]
 refine sum_intListG (xs:=ps.toArray) (I.ok.hd a) (by rw[<-e];exact pl.isList) λh' c t' hk=>?_;rw[preSum_eq,I0 (by simp)];exact⟨.int _,H,I.kept (t':=c) hk,⟨t',rfl⟩,q⟩
end
noncomputable def fm{α:Type}(lt:Nat->Nat->Bool):KasT α->α
 |.ret x=>x
 |.ask i j k=>fm lt (k (lt i j))
def Jk{α:Type}(n:Nat)(P:α->Prop):KasT α->Prop
 |.ret x=>P x
 |.ask i j k=>i<n/\j<n/\∀b,Jk n P (k b)
theorem Jk.N0{P:α->Prop}{Q:β->Prop}{f:α->KasT β}(a:∀x,P x->Jk n Q (f x)):∀{t:KasT α},Jk n P t->Jk n Q (t.bind f)
 |.ret x,h=>a x h
 |.ask i j k,h=>⟨h.1,h.2.1,λb=>Jk.N0 a (h.2.2 b)⟩
theorem Jk.got:∀{t:KasT α},Jk n P t->P (fm lt t)
 |.ret _,h=>h
 |.ask i j k,h=>Jk.got (t:=k (lt i j)) (h.2.2 _)
theorem Jk.wp(b:∀i j,i<n->j<n->∀C:Bool->gj->Prop,C (lt i j) s->a i j C s):
  ∀{t:KasT α},Jk n P t->Q (fm lt t) s->t.kasWp a Q s
 |.ret _,_,q=>q
 |.ask i j k,h,q=>b i j h.1 h.2.1 _ (Jk.wp b (t:=k (lt i j)) (h.2.2 _) q)
def Pm(n:Nat)(p:Array Nat):Prop:=p.toList.Perm (i1 n)
section
variable{n:Nat}(hn:0<n)
include hn
theorem Pm.at(h:Pm n p)(i:Nat):p.getD i 0<n:=by
 by_cases hi:i<p.size
 ·have:p.getD i 0=p[i]:=by simp[Uj,hi]
  rw[this];have a:p[i]∈p.toList:=by simp
  exact rr.mp (h.mem_iff.mp a)
 ·have:p.getD i 0=0:=by simp[Uj,hi]
  rw[this];exact hn
omit hn in
theorem Pm.rev(h:Pm n p)(i j:Nat):Pm n (kas_rev p i j):=(mirror_perm p i j _).toList.trans h
omit hn in
theorem Pm.Wu(h:Pm n p)(i j:Nat):Pm n (bubble p i j):=(bubble_perm p i j).toList.trans h
theorem rP(h:Pm n p):∀(f m:Nat),Jk n (λ_=>True) (kas_asc p f m)
 |0,m=>trivial
 |f+1,m=>⟨h.at hn _,h.at hn _,λb=>by
  cases b
  ·exact rP h f (m+1)
  ·exact trivial⟩
theorem jK:∀(f:Nat) (p:Array Nat) (m q:Nat),Pm n p->Jk n (λr=>Pm n r.1) (kas_desc f p m q)
 |0,p,m,q,h=>h
 |f+1,p,m,q,h=>⟨h.at hn _,h.at hn _,λb=>by
  cases b
  ·exact⟨h.at hn _,h.at hn _,λb=>by
    cases b
    ·exact jK f p (m+1) (q+1) h
    ·exact h⟩
  ·show Jk n _ (if q>0 then _ else _);split
   ·exact jK f _ _ _ (h.rev _ _)
   ·exact jK f _ _ _ h⟩
theorem t8(h:Pm n p)(m r:Nat):Jk n (λx=>Pm n x.2) (kas_tail3 m r p):=by
 unfold kas_tail3;refine Jk.N0 (λx _=>?_) (rP hn (h.rev _ _) _ _);exact h.rev _ _
theorem t9(h:Pm n p)(m r:Nat):Jk n (λx=>Pm n x.2) (kas_descPart m r p):=by
 unfold kas_descPart;refine Jk.N0 (λx a=>?_) (jK hn _ _ _ _ h);split
 ·exact t8 hn (a.rev _ _) _ _
 ·exact t8 hn a _ _
theorem x_(h:Pm n p)(r:Nat):Jk n (λx=>Pm n x.2) (kas_count r p):=by
 unfold kas_count;refine Jk.N0 (λm _=>?_) (rP hn h _ _);split
 ·exact h
 ·split
  ·exact⟨h.at hn _,h.at hn _,λb=>by
    cases b
    ·exact t9 hn (h.rev _ _) _ _
    ·exact h⟩
  ·exact t9 hn h _ _
theorem kF(h:Pm n p)(k:Nat):∀(f l r:Nat),Jk n (λ_=>True) (kas_place p k f l r)
 |0,l,r=>trivial
 |f+1,l,r=>by
  unfold kas_place;split
  ·exact trivial
  ·exact⟨h.at hn _,h.at hn _,λb=>by
    cases b
    ·exact kF h k f _ _
    ·exact kF h k f _ _⟩
theorem ya:∀(f:Nat) (p:Array Nat) (k:Nat),Pm n p->Jk n (Pm n) (kas_bin f p k)
 |0,p,k,h=>h
 |f+1,p,k,h=>Jk.N0 (λl _=>ya f _ _ (h.Wu _ _)) (kF hn h _ _ _ _)
theorem t_:Jk n (Pm n) (Mr n):=by
 unfold Mr;refine Jk.N0 (λx a=>?_) (x_ hn (p:=List.toArray (i1 n)) (by unfold Pm;simp) n);split
 ·exact ya hn _ _ _ a
 ·exact a
end
theorem kG(lt:Nat->Nat->Bool)(n:Nat):(fm lt (Mr n)).toList.Perm (i1 n):=by
 cases n with
 |zero=>exact ME _
 |succ n=>exact(t_ (YN n)).got
section
theorem mL(ho:s.heap.get? a=a5 (D6 "list" vs.toArray n))(l:vs.length<64)
  (m:2<=vs.length->∀s1:gj,(∀b o,b≠a->s.heap.get? b=a5 o->s1.heap.get? b=a5 o)->et (hE prog w) A (ü vs.toArray) (λκ s'=>s'=s1/\∀i j,i<vs.length->j<vs.length->∀C:Bool->gj->Prop,C (lt i j) s1->WG prog w A κ vs i j C s1) (λ_ _=>False) s1)
  (h:P (.done (.ret .none)) {s with heap:=YH s.heap a vs (((fm lt (Mr vs.length)).toList.map λi=>vs.getD i l0).toArray)}) :
  et (hE prog w) A (IG.«list.sort» ⟨[.ref a],[]⟩) P E s:=by
 have L:a<s.heap.objs.size:=fx ho;have u:(64:Nat)<=c6:=by decide
 rw[list_sort_plain];refine bD (Zs ho rfl (bD (Vi ho rfl ?_ (by rw[hU];lia) (i8 _))));obtain⟨k,q⟩:∃k,(s.heap.update a (nc λ_=>(#[]:Array dt))).get? a=a5 (D6 "list" #[] k):=⟨_,ñ ho λ_=>#[]⟩
 refine bD (Z1 q rfl (bD (wpAny_newTuple (bD (Ve (ri ?_) (i8 _))) (by show vs.length<=_;lia))));have d:(((s.heap.update a (nc λ_=>(#[]:Array dt))).push (D6 "tuple" vs.toArray 0)).push (D6 "list" #[] 0)).get? a=a5 (D6 "list" #[] k):=cK _ (cK _ q);have f:∀b o,b≠a->s.heap.get? b=a5 o->(((s.heap.update a (nc λ_=>(#[]:Array dt))).push (D6 "tuple" vs.toArray 0)).push (D6 "list" #[] 0)).get? b=a5 o:=λb o y e =>
  cK _ (cK _ (by rw[Ol _ _ _ _ y];exact e))
 show et (hE prog w) A _ P E {s with heap:=((s.heap.update a (nc λ_=>(#[]:Array dt))).push (D6 "tuple" vs.toArray 0)).push (D6 "list" #[] 0)}
 dsimp only
 have r:((fm lt (Mr vs.length)).toList.map λi=>vs.getD i l0).length=vs.length:=by rw[cc,(kG lt _).length_eq,w6]
 by_cases c:vs.toArray.size<2
 ·rw[ÿ c,ÿ c];refine bD (c2 ?_);rw[StateT.run_pure];refine bD (c2 ?_);have z:((fm lt (Mr vs.length)).toList.map λi=>vs.getD i l0).toArray=(vs.toArray.zip vs.toArray).map (·.2):=by
   have g:=kG lt vs.length;clear h m r f d ho l
   match vs,c,g with
   |[],_,g=>rw[show(fm lt (Mr ([]:List dt).length)).toList=[] from Ì.mp g];simp
   |[v],_,g=>rw[show(fm lt (Mr [v].length)).toList=[0] from List.perm_singleton.mp g];simp
   |_::_::_,c,_=>simp at c;lia
  rw[z]at h
  dsimp only
  refine bD (Z1 d rfl (bD (Vi d rfl ?_ (i8 _) (by rw[Rf];show(pairsOf vs).size<=_;rw[pairsOf_size];lia))));simp only[bne_self_eq_false,Ke,if_false];exact c2 h
 ·rw[ā c,ā c];have t:2<=vs.length:=by rw[hU]at c;lia
  refine bD (vu (m t _ f) (λκ s0 hk=>?_) λ_ _ x=>x.elim);obtain⟨rfl,hk⟩:=hk;refine bD (vu (kat_run (κ:=κ) (ks:=vs) (vs:=vs) (G:=λp s'=>p=fm lt (Mr vs.length)/\s'={s with heap:=((s.heap.update a (nc λ_=>(#[]:Array dt))).push (D6 "tuple" vs.toArray 0)).push (D6 "list" #[] 0)})
   (Q:=λst' s'=>∃p:Array Nat,arrOf st'=p.map (kas_item (vs.toArray.zip vs.toArray))/\failedOf st'=b6/\p=fm lt (Mr vs.length)/\s'={s with heap:=((s.heap.update a (nc λ_=>(#[]:Array dt))).push (D6 "tuple" vs.toArray 0)).push (D6 "list" #[] 0)})
   rfl t l (λp st' s' a1 B a3 D=>⟨p,B,a3,D⟩) (Jk.wp hk (t_ ⋯) ⟨rfl,rfl⟩)) ?_ λ_ _ e=>e)
  rintro⟨⟨⟩,st'⟩ s' ⟨p,H,I,rfl,rfl⟩
  dsimp only
  have J:=kat_snds rfl H;rw[J,I];refine bD (Z1 d rfl (bD (Vi d rfl ?_ (i8 _) (by rw[hU,r];lia))));simp only[bne_self_eq_false,Ke,if_false];exact c2 h
end
abbrev A8:=Str×Int
noncomputable def Kq(ks:List Str)(i j:Nat):Bool:=df ((ks.getD i r6).cps.toList<(ks.getD j r6).cps.toList)
noncomputable def eF(ks:List Str):List Nat:=(fm (Kq ks) (Mr ks.length)).toList
theorem cn(ks:List Str):(eF ks).Perm (i1 ks.length):=kG _ _
noncomputable def FV(x:Str)(n:Int)(t u:Tok):Obj:={cls:=.type "tuple",data:=.seq #[.str x t,.int n u]}
def fi(h:JN)(as:List hH)(ps:List A8):Prop:=as.length=ps.length/\∀(j:Nat) (a:hH),as[j]?=a5 a->∃p t u,ps[j]?=a5 p/\h.get? a=a5 (FV p.1 p.2 t u)
theorem fi.keeps(x:fi h as ps)(k:∀b o,b∈as->h.get? b=a5 o->h'.get? b=a5 o):fi h' as ps :=
 ⟨x.1,λj a e=>let ⟨p,t,u,c,d⟩:=x.2 j a e;⟨p,t,u,c,k a _ (lg e) d⟩⟩
theorem fi.tail(x:fi h (a::as) (p::ps)):fi h as ps :=
 ⟨by have:=x.1;simpa using this,λj b e=>by
  obtain⟨q,t,u,c,d⟩:=x.2 (j+1) b (by simpa using e);exact⟨q,t,u,by simpa using c,d⟩⟩
theorem fi.gJ:∀{as:List hH}{ps:List A8},fi h as ps->∃b:List dt,KatTups h (as.map i0) b/\b.length=as.length/\∀v∈b,∃x t,v=ve x t
 |[],_,_=>⟨[],Z7,rfl,by simp⟩
 |a::as,[],x=>by have:=x.1;simp at this
 |a::as,p::ps,x=>by
  obtain⟨b,c,d,e⟩:=fi.gJ x.tail;obtain⟨q,t,u,g,f⟩:=x.2 0 a rfl;refine⟨.str q.1 t::b,ZU f rfl rfl rfl c,by simp[d],λv hv=>?_⟩;rcases fR.mp hv with rfl|hv
  ·exact⟨_,_,rfl⟩
  ·exact e v hv
theorem mM:∀{l:List α}{m:List β}{i:Nat}{x:α},Paired F l m->l[i]?=a5 x->∃y,m[i]?=a5 y/\F x y
 |_,_,_,_,.nil,e=>by simp at e
 |_,_,0,_,.cons r _,e=>by simp at e;subst e;exact⟨_,rfl,r⟩
 |_,_,i+1,x,.cons _ t,e=>by
  obtain⟨u,a,b⟩:=mM (i:=i) (x:=x) t (by simpa using e);exact⟨u,by simpa using a,b⟩
section
theorem D0(x:fi s.heap as ps)(f:(ps.map (·.1)).Nodup)(hi:i<as.length)(e:j<as.length)(q:C (Kq (ps.map (·.1)) i j) s):
  WG prog w A (tuples' cb) (as.map i0) i j C s:=by
 obtain⟨p,t,u,d,g⟩:=x.2 i as[i] (by simp[hi]);obtain⟨a,t',u',c,k⟩:=x.2 j as[j] (by simp[e]);have hl:=x.1;have l:i<ps.length:=by lia
 have m:j<ps.length:=by lia
 have n:(as.map i0).getD i l0=.ref as[i]:=by simp[Ii,hi]
 have o:(as.map i0).getD j l0=.ref as[j]:=by simp[Ii,e]
 have r:(ps.map (·.1)).getD i r6=p.1:=by simp[Ii,d]
 have v:(ps.map (·.1)).getD j r6=a.1:=by simp[Ii,c]
 unfold WG;rw[n,o];refine kat_lt (b:=cb) g rfl k rfl ?_;unfold Kq at q;rw[r,v]at q;show KatLex prog w A cb (df (2<2)) C [(.str p.1 t,.str a.1 t'),(.int p.2 u,.int a.2 u')] 0 s;refine ZT (XA ?_);by_cases h:p.1=a.1
 ·have y:i=j:=by
   have a1:(ps.map (·.1))[i]'(by simpa using l)=(ps.map (·.1))[j]'(by simpa using m):=by
    obtain⟨_,z⟩:=dV.mp d;obtain⟨_,B⟩:=dV.mp c;simp[z,B,h]
   exact(Vj f).mp a1
  subst y;rw[d]at c;cases c;rw[ă rfl];refine Ø (ZT (XB ?_));rw[show(p.2==p.2)=cb by simp];refine Ø (kat_nil ?_);have:df (p.1.cps.toList<p.1.cps.toList)=cL:=Ă (Z' _);rw[this]at q;exact q
 ·rw[Ă h];exact kat_no (oneLt_str q)
theorem D3(x:fi s.heap as ps)(b:(ps.map (·.1)).Nodup)(f:2<=as.length):
  et (hE prog w) A (ü (as.map i0).toArray) (λκ s'=>s'=s/\∀i j,i<(as.map i0).length->j<(as.map i0).length->∀C:Bool->gj->Prop,C (Kq (ps.map (·.1)) i j) s->WG prog w A κ (as.map i0) i j C s) (λ_ _=>False) s:=by
 obtain⟨g,c,h,d⟩:=x.gJ;refine kat_kind (T:=.type "str") c ⋯ (λv e=>?_) rfl ⟨rfl,λi j hi a C q=>?_⟩
 ·obtain⟨y,t,rfl⟩:=d v e;exact Z6 rfl
 ·rw[cc]at hi a;exact D0 x b hi a q
end
noncomputable def jA(H:Hp):List (hH×List V)->Hp
 |[]=>H
 |(a,vs)::r=>upd (jA H r) a (.tup vs)
theorem kH:∀{l:List (hH×List V)}{b:hH}{o:HO},jA H l b=a5 o->(∃vs,(b,vs)∈l/\o=.tup vs)\/H b=a5 o
 |[],b,o,h=>.inr h
 |(a,vs)::r,b,o,h=>by
  by_cases c:b=a
  ·subst c;rw[jA,az]at h;cases h;exact .inl ⟨vs,by simp,rfl⟩
  ·rw[jA,aq c]at h;rcases kH h with⟨ws,d,e⟩|q
   ·exact .inl ⟨ws,by simp[d],e⟩
   ·exact .inr q
theorem kI:∀{l:List (hH×List V)}{b:hH},(∀p∈l,p.1≠b)->jA H l b=H b
 |[],b,_=>rfl
 |(a,vs)::r,b,h=>by
  rw[jA,aq (sx (h _ qP))];exact kI λp c=>h p (by simp[c])
theorem ua:∀{l:List (hH×List V)}{b:hH}{vs:List V},(l.map (·.1)).Nodup->(b,vs)∈l->jA H l b=a5 (.tup vs)
 |(a,ws)::r,b,vs,d,h=>by
  have c:a∉r.map (·.1)/\(r.map (·.1)).Nodup:=by simpa using d
  rcases fR.mp h with h|h
  ·cases h;exact az
  ·have:b≠a:=λz=>c.1 (by rw[<-z];exact mh.mpr ⟨_,h,rfl⟩);rw[jA,aq this];exact ua c.2 h
section
theorem Inv.many(I:Inv X pins σ H s)(k:∀b u,s.heap.get? b=a5 u->h'.get? b=a5 u)(a:∀b o,H b=a5 o->H' b=a5 o)
  (d:∀b o,H' b=a5 o->H b=a5 o\/(s.heap.objs.size<=b/\bF X.prog X.w H' h' b o)):Inv X pins σ H' {s with heap:=h',toks:=t' }:=by
 refine I.un ⟨λb u q _ _ _=>k b u q,λb u q _ _ _=>⟨u.slots,k b u q⟩,λb u q n _=>?_,λb u q _=>⟨u,k b u q⟩,λb xs q=>a b _ q,λb u xs q=>a b _ q,λb ps q=>⟨#[],by rw[a b _ q];simp⟩⟩ λb o e=>?_
 ·cases e:H' b with
  |none=>rfl
  |some o =>
   rcases d b o e with z|⟨z,_⟩
   ·rw[n]at z;cases z
   ·exact absurd (i9 (fx q) z) (tr _)
 ·rcases d b o e with z|⟨_,z⟩
  ·exact(I.HI b o z).gA (λc v _ q=>k c v q) (λc q=>a c _ q) λc xs q=>a c _ q
  ·exact z
noncomputable def LM(p:A8):List V:=[.str p.1,.int p.2]
theorem ou{ps:List A8}(hc:X.calm=cb)(I:Inv X pins σ H s)(e:H d=a5 (.dK (ps.map λp=>((kr p.1:Key),V.int p.2))))(HR:(ps.map (·.1)).Nodup)(J1:ps.length<64)
  (q:∀(as:List hH) (L:hH),as.length=ps.length->as.Nodup->(∀a∈L::as,H a=b6)->L∉as->Q (.ref L) (upd (jA H (as.zip (ps.map LM))) L (.lst ((eF (ps.map (·.1))).map λi=>V.ref (as.getD i 0))))) :
  et (hE X.prog X.w) X.A (Mu (.builtin "dict.items") [.ref d]) (λv s1=>et (hE X.prog X.w) X.A (Mu (.builtin "sorted") [v]) (EP X pins σ Q) X.xe s1) X.xe s:=by
 have ac:(64:Nat)<=c6:=by decide
 obtain⟨hz,lo,vs,kv,dd⟩:=tN I.HI e;have B:vs.length=ps.length:=by
  have:=Paired.length kv;simpa using this.symm
 obtain⟨o,es,ep,n⟩:=id dd;refine Wv PySem.F.slot_dict_items (show s.TypeIs (.ref d) "dict" from⟨o,n.1,n.2.1.1⟩) PySem.F.entry_dict_items (PySem.F.args_dict_items_1 _) (á (aG X.prog X.w) d lo) ⟨⟨vs,dd⟩,?_⟩;show et (hE X.prog X.w) X.A (Mu (.builtin "sorted") [.ref s.heap.objs.size]) (EP X pins σ Q) X.xe {s with heap:=s.heap.push {cls:=.type "dict_items",data:=.fields #[.ref d]}};have k1:∀b u,s.heap.get? b=a5 u->(s.heap.push {cls:=.type "dict_items",data:=.fields #[.ref d]}).get? b=a5 u:=λb u z=>cK _ z;have Yn:(s.heap.push {cls:=.type "dict_items",data:=.fields #[.ref d]}).DictOf (aG X.prog X.w) d vs:=⟨o,es,ep,k1 _ _ n.1,n.2⟩
 have JR:(s.heap.push {cls:=.type "dict_items",data:=.fields #[.ref d]}).DictAt (aG X.prog X.w) d vs ep:=⟨o,es,k1 _ _ n.1,n.2⟩
 refine Ro Z2 Zr Zt (Zu _) ?_;unfold IG.«sorted»;refine bD (m:=Æ "sorted" 1 1 _) (c2 ?_);refine bD (kdx_collect (A:=X.A.in1) (knd:=aG X.prog X.w) (kvs:=vs) (ep:=ep) (I.ok.hd hc) ⟨_,eH _ rfl,rfl,rfl⟩ JR ⋯ λc tk as hk hl C=>?_);have D:as.length=ps.length:=hl.trans B;have f:∀a∈as,s.heap.objs.size<=a:=λa ha=>by
  have:=C.above a ha;have z:(s.heap.push {cls:=.type "dict_items",data:=.fields #[.ref d]}).objs.size=s.heap.objs.size+1:=JU ..;have Us:(s.heap.push {cls:=.type "dict_items",data:=.fields #[.ref d]}).objs.size<a:=this;lia
 have pa:fi c as ps:=⟨D,λj a ea=>by
  obtain⟨J,k,x,N,O,e3⟩:=C.pairs j a ea;have r:j<ps.length:=by rw[<-D];exact(dV.mp ea).1
  obtain⟨y,ey,r1,r2⟩:=mM kv (i:=j) (x:=((kr ps[j].1:Key),V.int ps[j].2)) (by simp[r]);rw[N]at ey;cases ey;obtain⟨tx,rfl⟩:∃t,x=.int ps[j].2 t:=r2;have Wx:k=kr ps[j].1:=r1.symm;subst Wx;obtain⟨t,rfl⟩:=YT (x:=ps[j].1) (v:=J) O;exact⟨ps[j],t,tx,by simp[r],e3⟩⟩
 have nd:as.Nodup:=C.rise.imp λh=>hV h;refine bD (Ve ?_ (by rw[cc];lia));have T:(c.push (D6 "list" (as.map i0).toArray 0)).get? c.objs.size=a5 (D6 "list" (as.map i0).toArray 0):=eH _ rfl;show et _ _ _ _ _ {s with heap:=c.push (D6 "list" (as.map i0).toArray 0),toks:=tk};have Qg:∀a∈as,a<c.objs.size:=λa ha=>C.there ha;refine bD (ri (va YL ⟨_,T,rfl⟩ Ya (mL (lt:=Kq (ps.map (·.1))) T (by rw[cc];lia) (λh2 s1 ks=>?_) ⟨_,rfl,?_⟩) (YM _)))
 ·refine D3 (pa.keeps λb o G z=>ks b o (hV (Qg b G)) (cK _ z)) HR (by rw[cc]at h2;exact h2)
 ·obtain⟨ee,he⟩:=Y7 (out:=((fm (Kq (ps.map (·.1))) (Mr (as.map i0).length)).toList.map λi=>(as.map i0).getD i l0).toArray) T;have g:∀b o,c.get? b=a5 o->(YH (c.push (D6 "list" (as.map i0).toArray 0)) c.objs.size (as.map i0) ((fm (Kq (ps.map (·.1))) (Mr (as.map i0).length)).toList.map λi=>(as.map i0).getD i l0).toArray).get? b=a5 o:=λb o z=>by
   have HQ:b<c.objs.size:=fx z;rw[YF (hV HQ) (by rw[JU];exact Nv HQ)];exact cK _ z
  have J2:s.heap.objs.size<=c.objs.size:=Px (fx (hk _ _ (eH _ rfl)));have eP:((fm (Kq (ps.map (·.1))) (Mr (as.map i0).length)).toList)=eF (ps.map (·.1)):=by
   unfold eF;rw[cc,cc,D]
  have N1:H c.objs.size=b6:=I.HI.fresh J2;have Wy:c.objs.size∉as:=λz=>tr _ (Qg _ z);have Ut:∀a∈as,H a=b6:=λa ha=>I.HI.fresh (f a ha);have R9:∀{b:hH} {ws:List V},(b,ws)∈as.zip (ps.map LM)->b∈as:=λz=>(QL z).1;refine c2 ⟨_,rfl,.ref c.objs.size,upd (jA H (as.zip (ps.map LM))) c.objs.size (.lst ((eF (ps.map (·.1))).map λi=>V.ref (as.getD i 0))),?_,rfl,q as _ D nd (λa ha=>?_) Wy⟩
  ·refine I.many (λb u z=>g b u (hk b u (k1 b u z))) (λb o z=>?_) λb o z=>?_
   ·have n1:b≠c.objs.size:=λy=>by rw[y,N1]at z;cases z
    rw[aq n1,kI λp hp y=>?_]
    ·exact z
    ·have:=Ut p.1 (R9 (b:=p.1) (ws:=p.2) hp);rw[y,z]at this;cases this
   ·by_cases G:b=c.objs.size
    ·subst G;rw[az]at z;cases z;refine .inr ⟨J2,by rw[cc,(cn _).length_eq,w6,cc];lia,(eF (ps.map (·.1))).map λi=>(as.map i0).getD i l0,ee,?_,?_⟩
     ·have Y:∀i∈eF (ps.map (·.1)),i<as.length:=λi hi=>by
       have:=rr.mp ((cn _).mem_iff.mp hi);rw[cc]at this;lia
      generalize eF (ps.map (·.1))=l at Y;induction l with
      |nil=>exact .nil
      |cons i l ih =>
       refine .cons ?_ (ih λj r=>Y j (by simp[r]));have hi:=Y i (by simp);show RelV (.ref (as.getD i 0)) ((as.map i0).getD i l0);have:(as.map i0).getD i l0=.ref (as.getD i 0):=by simp[Ii,hi]
       rw[this];rfl
     ·rw[<-eP];exact he
    ·rw[aq G]at z;rcases kH z with⟨ws,z1,rfl⟩|z1
     ·obtain⟨j,r,ej⟩:=QD.mp z1;have R_:j<as.length:=by simp at r;lia
      have R8:j<ps.length:=by lia
      have Wz:as[j]=b/\LM ps[j]=ws:=by simpa using ej
      obtain⟨rfl,rfl⟩:=Wz;obtain⟨p,t,u,N,O⟩:=pa.2 j as[j] (by simp[R_]);have:p=ps[j]:=by simpa[R8] using N.symm
      subst this;exact .inr ⟨f _ (by simp),by show 2<=c6;lia,[.str ps[j].1 t,.int ps[j].2 u],.cons ⟨t,rfl⟩ (.cons ⟨u,rfl⟩ .nil),_,g _ _ O,rfl,0,rfl⟩
     ·exact .inl z1
  ·rcases fR.mp ha with rfl|ha
   ·exact N1
   ·exact Ut a ha
end
def fj(h:JN)(as:List hH)(ks:List Str):Prop:=as.length=ks.length/\∀(j:Nat) (a:hH),as[j]?=a5 a->∃k t o n b u,ks[j]?=a5 k/\h.get? a=a5 o/\o.cls=.type "tuple"/\o.data=.seq #[.str k t,.int b u] n
theorem fj.keeps(x:fj h as ks)(k:∀b o,b∈as->h.get? b=a5 o->h'.get? b=a5 o):fj h' as ks :=
 ⟨x.1,λj a e=>let ⟨k0,t,o,n,b,u,c,d,f⟩:=x.2 j a e;⟨k0,t,o,n,b,u,c,k a o (lg e) d,f⟩⟩
theorem fj.tail(x:fj h (a::as) (k::ks)):fj h as ks :=
 ⟨by have:=x.1;simpa using this,λj b e=>by
  obtain⟨k0,t,o,n,c,u,d,f⟩:=x.2 (j+1) b (by simpa using e);exact⟨k0,t,o,n,c,u,by simpa using d,f⟩⟩
theorem fj.gJ:∀{as:List hH}{ks:List Str},fj h as ks->∃c:List dt,KatTups h (as.map i0) c/\c.length=as.length/\∀v∈c,∃x t,v=ve x t
 |[],_,_=>⟨[],Z7,rfl,by simp⟩
 |a::as,[],x=>by have:=x.1;simp at this
 |a::as,k::ks,x=>by
  obtain⟨c,d,e,f⟩:=fj.gJ x.tail;obtain⟨k0,t,o,n,b,u,l,g,i,j⟩:=x.2 0 a rfl;refine⟨.str k0 t::c,ZU g i j rfl d,by simp[e],λv hv=>?_⟩;rcases fR.mp hv with rfl|hv
  ·exact⟨_,_,rfl⟩
  ·exact f v hv
section
theorem D4(x:fj s.heap as ks)(y:ks.Nodup)(hi:i<as.length)(g:j<as.length)(q:C (Kq ks i j) s):
  WG prog w A (tuples' cb) (as.map i0) i j C s:=by
 obtain⟨p,t,o,n,b,u,k,l,_,m⟩:=x.2 i as[i] (by simp[hi]);obtain⟨d,t',o',N,r,u',v,e,_,c⟩:=x.2 j as[j] (by simp[g]);have z:(as.map i0).getD i l0=.ref as[i]:=by simp[Ii,hi]
 have B:(as.map i0).getD j l0=.ref as[j]:=by simp[Ii,g]
 have D:ks.getD i r6=p:=by simp[Ii,k]
 have G:ks.getD j r6=d:=by simp[Ii,v]
 unfold WG;rw[z,B];refine kat_lt (b:=cb) l m e c ?_;unfold Kq at q;rw[D,G]at q;show KatLex prog w A cb (df (2<2)) C [(.str p t,.str d t'),(.int b u,.int r u')] 0 s;refine ZT (XA ?_);by_cases h:p=d
 ·have H:i=j:=by
   obtain⟨O,I⟩:=dV.mp k;obtain⟨Q,J⟩:=dV.mp v;exact(Vj y).mp (by rw[I,J,h])
  subst H;rw[l]at e;cases e;rw[m]at c;injection c with c _
  have f:b=r/\u=u':=by
   have:=Ą (λa:Array dt=>a[1]?) c;simpa using this
  obtain⟨f,L⟩:=f;subst f L;subst h;rw[ă rfl];refine Ø (ZT (XB ?_));rw[show(b==b)=cb by simp];refine Ø (kat_nil ?_);have:df (p.cps.toList<p.cps.toList)=cL:=Ă (Z' _);rw[this]at q;exact q
 ·rw[Ă h];exact kat_no (oneLt_str q)
theorem D7(x:fj s.heap as ks)(b:ks.Nodup)(f:2<=as.length):
  et (hE prog w) A (ü (as.map i0).toArray) (λκ s'=>s'=s/\∀i j,i<(as.map i0).length->j<(as.map i0).length->∀C:Bool->gj->Prop,C (Kq ks i j) s->WG prog w A κ (as.map i0) i j C s) (λ_ _=>False) s:=by
 obtain⟨g,c,h,d⟩:=x.gJ;refine kat_kind (T:=.type "str") c ⋯ (λv e=>?_) rfl ⟨rfl,λi j hi a C q=>?_⟩
 ·obtain⟨y,t,rfl⟩:=d v e;exact Z6 rfl
 ·rw[cc]at hi a;exact D4 x b hi a q
end
section
theorem rQ{as:List hH}(I:Inv X pins σ H s)(e:Ij X.K H L (as.map V.ref))(hl:as.length=ks.length)
  (N:∀(j:Nat) a k,as[j]?=a5 a->ks[j]?=a5 k->∃b,Im X.K H a [.str k,.int b]) (O:ks.Nodup) (J1:as.length<64)
  (q:∀L',H L'=b6->Q (.ref L') (upd H L' (.lst ((eF ks).map λi=>V.ref (as.getD i 0))))) :
  et (hE X.prog X.w) X.A (Mu (.builtin "sorted") [.ref L]) (EP X pins σ Q) X.xe s:=by
 have T:(64:Nat)<=c6:=by decide
 obtain⟨its,rv,pl,hz⟩:=I.list e;have Y:its=as.map i0:=by
  have:∀(as:List hH) (its:List dt),Vals (as.map V.ref) its->its=as.map i0:=λas=>by
   induction as with
   |nil=>intro its h;cases h;rfl
   |cons a as v =>
    intro its h;cases h with
    |cons r t=>rw[v _ t];cases r;rfl
  exact this as its rv
 subst Y;have D:fj s.heap as ks:=⟨hl,λj a f=>by
  have c:j<ks.length:=by rw[<-hl];exact(dV.mp f).1
  obtain⟨b,x⟩:=N j a ks[j] f (by simp[c]);obtain⟨us,r,⟨o,h1,p,n,h3⟩,_⟩:=I.tuple x;cases r with
  |cons r1 y =>
   cases y with
   |cons y r3 =>
    cases r3;obtain⟨t,rfl⟩:=r1;obtain⟨u,rfl⟩:=y;exact⟨_,t,o,n,b,u,by simp[c],h1,p,h3⟩⟩
 refine Ro Z2 Zr Zt (Zu _) ?_;unfold IG.«sorted»;refine bD (m:=Æ "sorted" 1 1 _) (c2 ?_);refine bD (collect_list pl.isList ?_ (by simp;lia));generalize G:(s.heap.push (D6 "list" #[] 0)).update s.heap.objs.size (nc (·++(as.map i0).toArray))=g;have k1:∀b o,s.heap.get? b=a5 o->g.get? b=a5 o:=λb o z=>by subst G;exact f_ z
 have hsz:s.heap.objs.size<=g.objs.size:=by subst G;rw[ZF,JU];exact JF _
 have Qg:∀a∈as,a<g.objs.size:=λa ha=>by
  obtain⟨j,c,f⟩:=QD.mp ha;obtain⟨_,_,o,_,_,_,_,z,_⟩:=D.2 j a (by simp[c,f]);exact i9 (fx z) hsz
 refine bD (Ve ?_ (by rw[cc];lia));have B:(g.push (D6 "list" (as.map i0).toArray 0)).get? g.objs.size=a5 (D6 "list" (as.map i0).toArray 0):=eH _ rfl;show et _ _ _ _ _ {s with heap:=g.push (D6 "list" (as.map i0).toArray 0)};refine bD (ri (va YL ⟨_,B,rfl⟩ Ya (mL (lt:=Kq ks) B (by rw[cc];lia) (λp s1 kp=>?_) ⟨_,rfl,?_⟩) (YM _)))
 ·exact D7 (D.keeps λb o x z=>kp b o (hV (Qg b x)) (cK _ (k1 b o z))) O (by rw[cc]at p;exact p)
 ·obtain⟨ee,he⟩:=Y7 (out:=((fm (Kq ks) (Mr (as.map i0).length)).toList.map λi=>(as.map i0).getD i l0).toArray) B;have d:∀b o,g.get? b=a5 o->(YH (g.push (D6 "list" (as.map i0).toArray 0)) g.objs.size (as.map i0) ((fm (Kq ks) (Mr (as.map i0).length)).toList.map λi=>(as.map i0).getD i l0).toArray).get? b=a5 o:=λb o z=>by
   have J:b<g.objs.size:=fx z;rw[YF (hV J) (by rw[JU];exact Nv J)];exact cK _ z
  have eP:((fm (Kq ks) (Mr (as.map i0).length)).toList)=eF ks:=by
   unfold eF;rw[cc,hl]
  have C:∀i∈eF ks,i<as.length:=λi hi=>by
   have:=rr.mp ((cn _).mem_iff.mp hi);lia
  refine c2 ⟨_,rfl,.ref g.objs.size,_,I.laid (t':=s.toks) (o:=.lst ((eF ks).map λi=>V.ref (as.getD i 0))) (λb u z=>d b u (k1 b u z)) hsz ⟨?_,(eF ks).map λi=>(as.map i0).getD i l0,ee,?_,by rw[<-eP];exact he⟩,rfl,q _ (I.HI.fresh hsz)⟩
  ·rw[cc,(cn _).length_eq,w6];lia
  ·generalize eF ks=l at C;induction l with
   |nil=>exact .nil
   |cons i l v =>
    refine .cons ?_ (v λj c=>C j (by simp[c]));have hi:=C i (by simp);show RelV (.ref (as.getD i 0)) ((as.map i0).getD i l0);have:(as.map i0).getD i l0=.ref (as.getD i 0):=by simp[Ii,hi]
    rw[this];rfl
end
section
theorem ox:QN (.type "list") "keys"=pure b6:=am_miss_of_fast (by decide +kernel)
theorem oy(hx:s.heap.get? a=a5 {cls:=.type "list",dict:=b6,data:=.seq xs k,slots:=sl})(hA:A.handled=b6)
    (h:∀h' tk,(∀b ob,s.heap.get? b=a5 ob->h'.get? b=a5 ob)->Q b6 {s with heap:=h',toks:=tk}):et (hE prog w) A (getAttr? (.ref a) "keys") Q E s:=by
  obtain⟨hp,g,d,tk,os⟩:=s;have hT:∀P_,(⟨hp,g,d,P_,os⟩:gj).TypeIs (.ref a) "list":=λ_=>⟨_,hx,rfl⟩
  have f1:=sub_AttributeError;have f3:=PySem.F.slot_list_getattribute.lookup;have f4:=PySem.F.slot_list_getattribute.bind (.ref a);have f5:=am_list_getattr_none;have big:(1000:Nat)<=c6:=by decide
  have hk : (("keys" : Str)).length + 100 ≤ sizeLine := by have : ("keys" : Str).length = 4 := by decide
                                                           lia
  unfold getAttr? getAttrBy? getAttrBy
  repeat (any_goals (first|assumption|exact hT _|((with_reducible show et _ _ (Mu (Value.builtin "list.__getattribute__") _ _) _ _ _);refine TL PySem.F.slot_list_getattribute (hT _) am_entry_list_getattribute (PySem.F.args_list_getattribute_2 _ _) (meets_getattribute_miss_list a xs k sl "keys" _ ox (by decide) hk) ⟨hx,hA,λh' P_ e JC=>?_⟩)|wp_step))
  obtain⟨t',u',he⟩:=JC.there;show et _ _ (Å _ _ _ _ _ _ _) _ _ _;unfold Å
  repeat (any_goals (first|assumption|wp_step))
  exact h _ _ JC.keeps
theorem fC:S9 Za "dict.update.loop"=a5 IG.«dict.update.loop»:=S8 (by kernel_rfl)
theorem cT:plainId "dict.update.loop"=cb:=by decide +kernel
def A9(prog:H8)(w:Kp)(d I:hH)(its:Array dt)(ps:List (Key×dt))(h:JN):Prop:=∀(j:Nat) p,ps[j]?=a5 p->∃a o e b,its[j]?=a5 (.ref a)/\a≠d/\a≠I/\h.get? a=a5 o/\o.cls=.type "tuple"/\o.data=.seq #[b,p.2] e/\(aG prog w).is p.1 b=cb
theorem A9.keep(x:A9 prog w d I its ps h)(k:∀b o,b≠d->b≠I->h.get? b=a5 o->h'.get? b=a5 o):A9 prog w d I its ps h':=λj p e=>by
 obtain⟨a,o,n,c,i,f,g,l,m⟩:=x j p e;exact⟨a,o,n,c,i,f,g,k a o f g l,m⟩
theorem yb(H:A.handled=b6)(J:ax≠I)(u:d≠I)(WA:ax≠d)(hz:ps.length<=c6)(hl:its.size=ps.length):
  ∀(k i:Nat) (s:gj) (acc:List (Key×dt)),ps.length - i=k->i<=ps.length->s.heap.IsListIter I ax i->s.heap.IsList ax its->acc.length<=i->A9 prog w d I its ps s.heap->s.heap.DictOf (aG prog w) d acc->(acc.map (·.1)++(ps.drop i).map (·.1)).Nodup ->
  (∀h' n,h'.DictOf (aG prog w) d (acc++ps.drop i)->(∀b o,b≠d->b≠I->s.heap.get? b=a5 o->h'.get? b=a5 o)->R (.ok (.ret res)) {s with heap:=h',toks:=n}) ->
  NF (hE prog w) A (.builtin "dict.update.loop" ⟨[.ref d,.ref I,ti i,res],[]⟩) R s:=by
 intro k;induction k with
 |zero =>
  intro i s acc hk hi f y WB L B h j;have Kf:i=its.size:=by lia
  subst Kf;refine Iw fC ?_;rw[Ic cT _];show et _ A.in1 (Pp (.ref I) >>= _) _ _ s;refine bD ((Ww (A:=A.in1) H I ax J its).done s _ _ ⟨f,y⟩ λh' n C=>?_);have e0:ps.drop its.size=[]:=List.drop_eq_nil_of_le ⋯;rw[e0,uk]at j;have g:∀b o,b≠I->s.heap.get? b=a5 o->h'.get? b=a5 o:=λb o c e=>C b o (by simpa using c) e;refine bD (c2 (c2 (j h' n ?_ λb o _ c e=>g b o c e)));obtain⟨o,es,ep,ho,r⟩:=B;exact⟨o,es,ep,g d o u ho,r⟩
 |succ k ih =>
  intro i s acc hk hi f y WB L B h j;have q:i<ps.length:=by lia
  obtain⟨p,N⟩:∃p,ps[i]?=a5 p:=⟨ps[i],by simp[q]⟩
  refine Iw fC ?_;rw[Ic cT _];show et _ A.in1 (Pp (.ref I) >>= _) _ _ s;refine bD ((Ww (A:=A.in1) H I ax J its).item i s _ _ ⋯ ⟨f,y⟩ λv h' n hP O C=>?_);have g:∀b o,b≠I->s.heap.get? b=a5 o->h'.get? b=a5 o:=λb o c e=>C b o (by simpa using c) e;have Kc:h'.DictOf (aG prog w) d acc:=by
   obtain⟨o,es,ep,ho,r⟩:=B;exact⟨o,es,ep,g d o u ho,r⟩
  have Q:=L.keep (h':=h') λb o _ c e=>g b o c e;obtain⟨a,o,e,l,e1,e2,e3,Y,e5,e6,e7⟩:=Q i p N;have Mz:its[i]?=a5 v:=hP;rw[e1]at Mz;cases Mz;refine bD (ri (bD (wpAny_tryCatch ?_)));unfold ð;refine bD (P' (T:="tuple") ⟨o,Y,e5⟩ ?_);rw[ÿ (by decide)];refine bD (Qc Y e6 (c2 ?_));show et _ _ (MR [l,p.2] (dictSet d l p.2)) _ _ _;have D:ps.drop i=p::ps.drop (i+1):=by
   rw[RU q];have:ps[i]=p:=by simpa[q] using N
   rw[this]
  have Lu:p.1∉acc.map (·.1):=λz=>by
   rw[D,ez,sL]at h;exact h.2.2 _ z _ (by simp) rfl
  have Se:ô acc p.1 p.2=acc++[p]:=by
   unfold ô;rw[ā λz=>by
    obtain⟨x,hx,e⟩:=Sq.mp z;exact Lu (mh.mpr ⟨x,hx,by simpa using e⟩)]
  refine ri (wpAny_dictSet_pairs (hsz:=by lia) e7 Kc λG m Jg=>?_);rw[Se]at m;have t:∀b o,b≠d->h'.get? b=a5 o->G.get? b=a5 o:=λb o c e=>(Jg.2 b c).trans e;have Sf:G.IsListIter I ax (i+1):=by
   obtain⟨z,_⟩:=O;exact z.at λo e=>t _ o (sx u) e
  have Sg:G.IsList ax its:=by
   obtain⟨_,z⟩:=O;exact z.at λo e=>t _ o WA e
  rw[D,ez]at h;rw[D]at j;exact c2 ⟨Ma cT _,ih (i+1) _ (acc++[p]) ⋯ q Sf Sg (by simp;lia) (Q.keep λb o c _ e=>t b o c e) m (by simpa using h) λh3 WC WD k3=>j h3 WC (by simpa using WD) λb o c IW e=>k3 b o c IW (t b o c (g b o IW e))⟩
end
theorem yc{h:JN}:∀{as:List hH}{ps:List (Str×V)},as.length=ps.length->(∀(j:Nat) a p,as[j]?=a5 a->ps[j]?=a5 p->∃(o:Obj) (n:Nat) (t:Tok) (v:dt),h.get? a=a5 o/\o.cls=.type "tuple"/\o.data=.seq #[.str p.1 t,v] n/\RelV p.2 v) ->
  ∃vs:List (Key×dt),vs.length=ps.length/\vs.map (·.1)=ps.map (λp=>(kr p.1:Key))/\KV (ps.map λp=>((kr p.1:Key),p.2)) vs/\∀(j:Nat) q,vs[j]?=a5 q->∃a p o n t,as[j]?=a5 a/\ps[j]?=a5 p/\q.1=kr p.1/\h.get? a=a5 o/\o.cls=.type "tuple"/\o.data=.seq #[.str p.1 t,q.2] n
 |[],[],_,_=>⟨[],rfl,rfl,.nil,by simp⟩
 |[],_::_,h,_=>by simp at h
 |_::_,[],h,_=>by simp at h
 |a::as,p::ps,hl,f=>by
  obtain⟨vs,g,i,k,l⟩:=yc (as:=as) (ps:=ps) (by simpa using hl) λj b q c d=>f (j+1) b q (by simpa using c) (by simpa using d);obtain⟨o,n,t,v,c,d,m,r⟩:=f 0 a p rfl rfl;refine⟨(kr p.1,v)::vs,by simp[g],by simp[i],.cons ⟨rfl,r⟩ k,λj q e=>?_⟩;cases j with
  |zero =>
   simp at e;subst e;exact⟨a,p,o,n,t,rfl,rfl,rfl,c,d,m⟩
  |succ j =>
   obtain⟨a',s,o',u,t',w,x,z⟩:=l j q (by simpa using e);exact⟨a',s,o',u,t',by simpa using w,by simpa using x,z⟩
section
theorem A_{as:List hH}{ps:List (Str×V)}(hc:X.calm=cb)(I:Inv X pins σ H s)(e:Ij X.K H L (as.map V.ref))(hl:as.length=ps.length)(ht:∀(j:Nat) a p,as[j]?=a5 a->ps[j]?=a5 p->Im X.K H a [.str p.1,p.2])(HR:(ps.map (·.1)).Nodup)
  (q:∀d,H d=b6->Q (.ref d) (upd H d (.dK (ps.map λp=>((kr p.1:Key),p.2))))) :
  et (hE X.prog X.w) X.A (Mu (.type "dict") [.ref L]) (EP X pins σ Q) X.xe s:=by
 obtain⟨its,rv,pl,hz⟩:=I.list e;rw[cc]at hz;have Jh:its.length=ps.length:=by rw[<-rv.length,cc,hl]
 have Nb:its=as.map i0:=by
  have:∀(as:List hH) (its:List dt),Vals (as.map V.ref) its->its=as.map i0:=λas=>by
   induction as with
   |nil=>intro its h;cases h;rfl
   |cons a as ih =>
    intro its h;cases h with
    |cons r t=>rw[ih _ t];cases r;rfl
  exact this as its rv
 subst Nb;obtain⟨o,n,ho,y,B,C⟩:=pl;obtain⟨oc,od,Yo,NO⟩:=o;simp only at y B C;subst y B C;obtain⟨vs,v1,v2,v3,v4⟩:=yc (h:=s.heap) hl λj a p e1 e2=>by
  obtain⟨us,r,⟨o,c,h2,n,h3⟩,_⟩:=I.tuple (ht j a p e1 e2);cases r with
  |cons r1 l =>
   cases l with
   |cons l r3 =>
    cases r3;obtain⟨t,rfl⟩:=r1;exact⟨o,n,t,_,c,h2,h3,l⟩
 have D:X.A.handled=b6:=I.ok.hd hc;have G:L<s.heap.objs.size:=fx ho;refine Uv (Q₁:=λobj J=>obj=.ref s.heap.objs.size/\J={s with heap:=s.heap.push {cls:=.type "dict",data:=.dict #[]}}) PySem.F.kt_called_dict (PySem.F.kt_typeCall_dict_1 _) PySem.F.entry_dict_init (kt_code_dict_new _ ⟨rfl,rfl⟩) ?_;rintro obj J ⟨rfl,rfl⟩;have v:(s.heap.push {cls:=.type "dict",data:=.dict #[]}).DictOf (aG X.prog X.w) s.heap.objs.size []:=Yj s.heap;have k0:∀b u,s.heap.get? b=a5 u->(s.heap.push {cls:=.type "dict",data:=.dict #[]}).get? b=a5 u:=λb u z=>cK _ z;refine⟨v.typeIs,PySem.F.args_dict_init_2 _ _,?_⟩;unfold IG.«dict.__init__»;refine bD ?_;unfold ï;refine bD (wpAny_notOrdered_dict v.typeIs ?_);show et _ _ (pure (s.heap.objs.size,[i0 L])) _ _ _;refine c2 ?_;show et _ _ (Vb "dict.__init__" s.heap.objs.size (.ref L) [] .none) _ _ _;unfold Vb;refine bD (P' (T:="list") ⟨_,k0 _ _ ho,rfl⟩ ?_);rw[ÿ (by decide)];refine bD (oy (k0 _ _ ho) D λc Yp k1=>?_);have N:=k1 _ _ (k0 _ _ ho);have O:c.DictOf (aG X.prog X.w) s.heap.objs.size []:=by
  obtain⟨o,es,ep,ho,r⟩:=v;exact⟨o,es,ep,k1 _ _ ho,r⟩
 have k:s.heap.objs.size<c.objs.size:=by
  obtain⟨o,es,ep,ho,r⟩:=O;exact fx ho
 refine bD (LK (bD (Sw ⟨_,N,rfl,n,rfl⟩ ?_)));refine c2 ⟨Ma cT _,yb (A:=X.A.in1) (ax:=L) (I:=c.objs.size) (d:=s.heap.objs.size) (its:=(as.map i0).toArray) (ps:=vs) D (hV (Pw G k)) (hV k) (hV G) ⋯ (by simp;lia) vs.length 0 _ [] ⋯ (i8 _) ⟨_,eH _ rfl,rfl,rfl⟩ ⟨_,cK _ N,rfl,n,rfl⟩ (hW _) (λj q hq=>?_) (O.push _) (by rw[Km,mn,Xy,v2];exact(i5 (f:=λp:Str×V=>p.1) (g:=λx=>(kr x:Key))▸(ë _ (λa b KW z=>KW (by injection z)) HR)) ) λh' tk Kc kp=>?_⟩
 ·obtain⟨a,p,o,m,t,z1,z2,z3,Y,z5,z6⟩:=v4 j q hq;have i:=fx Y;refine⟨a,o,m,.str p.1 t,by simp[z1],hV i,hV (Pw i k),cK _ (k1 _ _ (k0 _ _ Y)),z5,z6,?_⟩;rw[z3];show P4 p.1 (.str p.1 t)=cb;simp[P4]
 ·refine⟨rfl,.ref s.heap.objs.size,upd H s.heap.objs.size (.dK (ps.map λp=>((kr p.1:Key),p.2))),I.laid (a:=s.heap.objs.size) (λb u z=>?_) (hW _) ⟨by rw[cc];lia,?_,vs,v3,?_⟩,rfl,q _ (I.HI.fresh (hW _))⟩
  ·have i:=fx z;exact kp b u (hV i) (hV (Pw i k)) (cK _ (k1 _ _ (k0 _ _ z)))
  ·exact beq_eq_false_iff_ne.mpr (Jd I.big)
  ·simpa using Kc
end
section
theorem Inv.freeze(I:Inv X pins σ H s)(a:H r=a5 (.dK kvs))(ho:s.heap.get? r=a5 o):Inv X pins σ (upd H r (.Jq o (.dK kvs))) s:=by
 have c:∀b u,H b=a5 u->u≠.dK kvs->b≠r:=λb u e n z=>by subst z;rw[a]at e;cases e;exact n rfl
 exact I.write (t':=s.toks) (x:=r) (e:=r) (by rw[a];trivial) (.inl rfl) (λb u _ q=>q) ⟨o,ho⟩ ⟨ho,(I.HI r _ a).gA (λ_ _ _ q=>q) (λb q=>by rw[aq (c b _ q (λz=>by cases z))];exact q) λb xs q=>by rw[aq (c b _ q (λz=>by cases z))];exact q⟩
end
noncomputable def Sh(r:hH)(o:Obj)(kvs:List (Key×V)):It :=
 ⟨λi H=>H r=a5 (.Jq o (.dK kvs))/\i<kvs.length,λi H x H'=>∃p,H p=b6/\x=.ref p/\∀k v,kvs[i]?=a5 (k,v)->H'=upd H p (.tup [kV k,v]),λi H=>H r=a5 (.Jq o (.dK kvs))/\kvs.length<=i⟩
theorem D8(h:(aG P w).is k u=cb):RelV (kV k) u:=by
 rcases bg (show jh k u=cb from h) with⟨i,t,rfl,rfl⟩|⟨y,t,rfl,rfl⟩
 ·exact⟨t,rfl⟩
 ·exact⟨t,rfl⟩
theorem CO:∀{kvs:List (Key×V)}{vs:List (Key×dt)},KV kvs vs->∀(i:Nat) (h:i<kvs.length) (h':i<vs.length),kvs[i].1=vs[i].1/\RelV kvs[i].2 vs[i].2
 |_,_,.cons a _,0,_,_=>a
 |_,_,.cons _ b,i+1,h,h'=>CO b i (by simpa using h) (by simpa using h')
theorem rR{K:PySem.W.Frag}(j:o.data=.dict G ep):
  Turn P w K (.Tuple es kx ps) (Sh r o kvs) [it] it (λi h=>∃c d,IsItemIter h it r i kvs.length ep c d) where
 mem:=by simp
 obj:=λi h ⟨c,d,st⟩ b a=>by
  rw[i3.mp a];exact⟨_,st,λv z=>by
    have z':Th _=X' v:=z;cases z'⟩
 keep:=λi h h' ⟨c,d,st⟩ k=>⟨c,d,k it (by simp) _ st⟩
 item:=by
  intro X p t hK J i pins s σ H E I l ⟨c,d,st⟩ u;subst p t;obtain⟨x,hi⟩:=u;obtain⟨ho,z1,z2,vs,kv,o',WE,LW,e,y,f,B⟩:=(show bF X.prog X.w H s.heap r (.Jq o (.dK kvs)) from I.HI r _ x)
  rw[ho]at e;cases e;rw[j]at f;cases f;have hl:vs.length=kvs.length:=(Paired.length kv).symm;have C:s.heap.DictAt (aG X.prog X.w) r vs ep:=⟨o,G,ho,y,j,B⟩
  obtain⟨q,hq,e1,e2⟩:∃q,vs[i]?=a5 q/\kvs[i].1=q.1/\RelV kvs[i].2 q.2:=by
   have L:i<vs.length:=by lia
   refine⟨vs[i],by simp[L],?_⟩;exact CO kv i hi L
  rw[<-hl]at st;refine wpAny_pyNext_items_item st C (k:=q.1) (v:=q.2) hq λg h1 hk D hT hsz Kh=>⟨_,rfl,wpAny_letOwnedTupleGo_items (s:={s with heap:=h1}) D λm N O=>?_⟩
  have T:it<s.heap.objs.size:=fx st;have R3:m.get? s.heap.objs.size=a5 {cls:=.type "tuple",data:=.seq #[g,q.2]}:=(O.2 _ (Jd T)).trans hT;have k2:∀b o,b∉[it]->s.heap.get? b=a5 o->m.get? b=a5 o:=λb o a q=>by
   have n:b≠it:=λz=>a (by simp[z]);exact(O.2 b n).trans (Kh b o n q)
  have I2:Inv X pins σ (upd H s.heap.objs.size (.tup [kV kvs[i].1,kvs[i].2])) {s with heap:=m,toks:=s.toks}:=I.kA l k2 (hW _)
   (show bF X.prog X.w _ m _ (.tup [kV kvs[i].1,kvs[i].2]) from⟨by show 2<=c6;decide,[g,q.2],.cons (by rw[e1];exact D8 hk) (.cons e2 .nil),⟨_,R3,rfl,_,rfl⟩⟩)
  refine⟨.ref s.heap.objs.size,_,I2,rfl,⟨_,I.HI.fresh (hW _),rfl,λk v Y=>?_⟩,⟨_,_,by rw[hl]at N;exact N⟩,λb a=>?_⟩
  ·rw[oT hi]at Y;rw[D5 Y]
  ·have n:b≠s.heap.objs.size:=by rw[i3.mp a];exact hV T
   rw[aq n];exact(l b a).1
 done:=by
  intro X p t hK J i pins s σ H E I l ⟨c,d,st⟩ u;subst p t;obtain⟨x,hi⟩:=u;obtain⟨ho,z1,z2,vs,kv,o',WE,LW,e,y,f,B⟩:=(show bF X.prog X.w H s.heap r (.Jq o (.dK kvs)) from I.HI r _ x)
  rw[ho]at e;cases e;rw[j]at f;cases f;have hl:vs.length=kvs.length:=(Paired.length kv).symm;have C:s.heap.DictAt (aG X.prog X.w) r vs ep:=⟨o,G,ho,y,j,B⟩
  rw[<-hl]at st;exact wpAny_pyNext_items_end (by simpa using I.ok.hd J) st C (PQ ⋯) λh' JC=>⟨rfl,I.oq (t':=s.toks) l λb o a q=>JC b o (λz=>a (by simp[z])) q⟩
 self:=λA i s Q E ⟨c,d,st⟩ h=>kcp_self st h
section
end
section
def FW(b:TE):TI:=λσ H R=>b σ H λv a=>∃r kvs,v=.ref r/\a r=a5 (.dK kvs)/\∀o,R (Sh r o kvs) (upd a r (.Jq o (.dK kvs)))
theorem wa(y:PE X e A)(B:O2 e "items" X.env (H0 e X.env)=H0 e X.env)(C:(c.endLine==D.line)=cb):
  PI X (.Tuple es kx ps) (.Call (.Attribute e "items" c) [] [] D) (FW A):=by
 intro pins s σ H R I G;refine S0 B C (HJ (y pins s σ H _ I G) λv s1 J=>?_);obtain⟨x1,l,m,L,r,kvs,n,p,g⟩:=J;subst n;cases(show v=i0 r from L);obtain⟨_,_,_,_,o,_,_,N,_⟩:=(show bF X.prog X.w l s1.heap r (.dK kvs) from m.HI r _ p)
 have d:=m.freeze p N;have g:=g o;generalize O:upd l r (.Jq o (.dK kvs))=i at d g;have Q:i r=a5 (.Jq o (.dK kvs)):=by rw[<-O];exact az
 obtain⟨ho,n,lo,vs,kv,o',j,ep,q,f,h,k⟩:=(show bF X.prog X.w i s1.heap r (.Jq o (.dK kvs)) from d.HI r _ Q)
 rw[ho]at q;cases q;have hl:vs.length=kvs.length:=(Paired.length kv).symm;have hm:s1.heap.DictAt (aG X.prog X.w) r vs ep:=⟨o,j,ho,f,h,k⟩
 have t:s1.TypeIs (.ref r) "dict":=⟨o,ho,f.1⟩
 refine⟨"dict","dict.items",PySem.F.plainAttrs_dict,PySem.F.slot_dict_items,PySem.F.type_dict_items,t,λa e=>⟨o,by cases e;exact ho,f.2.1⟩,IZ rfl (PySem.evalArgs_none (Wv PySem.F.slot_dict_items t PySem.F.entry_dict_items (PySem.F.args_dict_items_1 _) (á (aG X.prog X.w) r lo) ⟨⟨vs,o,j,ep,ho,f,h,k⟩,?_⟩))⟩;have k1:∀b u,s1.heap.get? b=a5 u->(s1.heap.push {cls:=.type "dict_items",data:=.fields #[.ref r]}).get? b=a5 u:=λb u z=>cK _ z;have T:(s1.heap.push {cls:=.type "dict_items",data:=.fields #[.ref r]}).DictAt (aG X.prog X.w) r vs ep:=⟨o,j,k1 _ _ ho,f,h,k⟩
 refine wpAny_pyIter_items (s:={s1 with heap:=s1.heap.push {cls:=.type "dict_items",data:=.fields #[.ref r]}}) ⟨_,eH _ rfl,rfl,rfl⟩ T ?_;have hsz:(s1.heap.push {cls:=.type "dict_items",data:=.fields #[.ref r]}).objs.size=s1.heap.objs.size+1:=JU ..;have Y:=d.kept (t':=s1.toks) (h':=(s1.heap.push {cls:=.type "dict_items",data:=.fields #[.ref r]}).push {cls:=.type "dict_itemiterator",data:=.fields #[.none,.bool cL,.ref r,.int 0 0,.int vs.length 0,.int ep 0,.none,.none]}) λb u z=>cK _ (k1 b u z);refine⟨_,[_],_,_,i,rfl,Y,rR (kvs:=kvs) h,⟨.none,.none,by rw[<-hl];exact eH _ rfl⟩,λb hb=>?_,g⟩;rw[i3.mp hb];have x:s1.heap.objs.size<=(s1.heap.push {cls:=.type "dict_items",data:=.fields #[.ref r]}).objs.size:=by rw[hsz];exact JF _
 exact d.xl x (d.HI.fresh x)
end
end L2
namespace TM
open PySem L2
inductive U where
 |HH|bl (b:Bool)|int (i:Int)|str (x:Str)
 |tup (xs:List U)|lst (xs:List U)
 |HE (ks:List Str) (vs:List U)
mutual
noncomputable def H_:U->Bool
 |.tup xs=>bU xs
 |.lst _=>cL
 |.HE _ _=>cL
 |.HH=>cb|.bl _=>cb|.int _=>cb|.str _=>cb
noncomputable def bU:List U->Bool
 |[]=>cb
 |u::us=>H_ u&&bU us
end
inductive Kd where|own|io|loc|any|bor (j:Nat)|G'
deriving DecidableEq
noncomputable def Kd.root:Kd->Bool
 |.own=>cb
 |.io=>cb
 |_=>cL
abbrev aw:=List (Option (Kd×U))
structure Ct where
 P:H8
 w:Kp
 K:PySem.W.Frag
 H₀:Hp
 Ks:hH->Prop
 IO:hH->Prop
def KL(K:PySem.W.Frag)(a:hH)(xs:List V):Prop :=
 ∃(o:Obj) (its:Array dt) (n:Nat),K.lookup a=a5 o/\o.cls=.type "list"/\o.dict=b6/\o.data=.seq its n/\its.size<=c6/\Vals xs its.toList
def O3(K:PySem.W.Frag)(S:hH->Prop)(H:Hp)(a:hH)(vs:List V):Prop:=(S a/\Rd H a (.lst vs))\/KL K a vs
theorem O3.sq(h:O3 K S H a vs):Ij K H a vs:=h.elim (λz=>.inl z.2) .inr
def MG(H:Hp)(R:List V->Prop)(a:hH)(ks:List Str):Prop:=∃kvs:List (Key×V),H a=a5 (.dK kvs)/\kvs.map (·.1)=ks.map kr/\R (kvs.map (·.2))
section
variable(C:Ct)(S:hH->Prop)(H:Hp)
mutual
def Rep:U->V->Prop
 |.HH,v=>v=.HH
 |.bl b,v=>v=.bl b
 |.int i,v=>v=.int i
 |.str x,v=>v=.str x
 |.tup us,v=>∃a vs,v=.ref a/\Im C.K H a vs/\aj us vs
 |.lst us,v=>∃a vs,v=.ref a/\O3 C.K S H a vs/\aj us vs
 |.HE ks us,v=>∃a,v=.ref a/\S a/\MG H (aj us) a ks
def aj:List U->List V->Prop
 |[],vs=>vs=[]
 |u::us,vs=>∃v r,vs=v::r/\Rep u v/\aj us r
end
end
def Tp:HO->Prop
 |.tup _=>True
 |.Jq _ (.tup _)=>True
 |_=>False
structure Mv(S:hH->Prop)(H:Hp)(S':hH->Prop)(H':Hp):Prop where
 sub:∀a,S a->S' a
 O4:∀a o,H a=a5 o->Tp o->H' a=a5 o
 Sj:∀a o,S a->H a=a5 o->H' a=a5 o
theorem Mv.WI(m:Mv S H S' H')(h:Im K H a vs):Im K H' a vs:=by
 rcases h with(h|⟨o,h⟩)|h
 ·exact .inl (.inl (m.O4 a _ h trivial))
 ·exact .inl (.inr ⟨o,m.O4 a _ h trivial⟩)
 ·exact .inr h
theorem Mv.WJ(m:Mv S H S' H')(h:O3 K S H a vs):O3 K S' H' a vs:=by
 rcases h with⟨s,h|⟨o,h⟩⟩|h
 ·exact .inl ⟨m.sub a s,.inl (m.Sj a _ s h)⟩
 ·exact .inl ⟨m.sub a s,.inr ⟨o,m.Sj a _ s h⟩⟩
 ·exact .inr h
theorem MG.mv(b:∀o,H a=a5 o->H' a=a5 o)(c:∀vs,R vs->d vs)(h:MG H R a ks):MG H' d a ks :=
 let ⟨kvs,e,f,g⟩:=h;⟨kvs,b _ e,f,c _ g⟩
section
mutual
theorem Rep.MH(m:Mv S H S' H'):∀(u:U) (v:V),Rep C S H u v->Rep C S' H' u v
 |.HH,_,h=>h
 |.bl _,_,h=>h
 |.int _,_,h=>h
 |.str _,_,h=>h
 |.tup us,v,h=>by
  obtain⟨a,vs,e,b,c⟩:=h;exact⟨a,vs,e,m.WI b,aj.MH m us vs c⟩
 |.lst us,v,h=>by
  obtain⟨a,vs,e,b,c⟩:=h;exact⟨a,vs,e,m.WJ b,aj.MH m us vs c⟩
 |.HE ks us,v,h=>by
  obtain⟨a,e,b,c⟩:=h;exact⟨a,e,m.sub a b,c.mv (λo q=>m.Sj a o b q) λvs q=>aj.MH m us vs q⟩
theorem aj.MH(m:Mv S H S' H'):∀(us:List U) (vs:List V),aj C S H us vs->aj C S' H' us vs
 |[],_,h=>h
 |u::us,vs,h=>by
  obtain⟨v,r,e,a,b⟩:=h;exact⟨v,r,e,Rep.MH m u v a,aj.MH m us r b⟩
end
mutual
theorem Rep.wb:∀(u:U) (v:V),H_ u=cb->Rep C S H u v->Rep C S' H u v
 |.HH,_,_,h=>h
 |.bl _,_,_,h=>h
 |.int _,_,_,h=>h
 |.str _,_,_,h=>h
 |.tup us,v,i,h=>by
  obtain⟨a,vs,e,b,c⟩:=h;exact⟨a,vs,e,b,aj.wb us vs (by simpa[TM.H_] using i) c⟩
 |.lst us,v,i,h=>by simp[TM.H_]at i
 |.HE ks us,v,i,h=>by simp[TM.H_]at i
theorem aj.wb:∀(us:List U) (vs:List V),bU us=cb->aj C S H us vs->aj C S' H us vs
 |[],_,_,h=>h
 |u::us,vs,i,h=>by
  obtain⟨v,r,e,b,c⟩:=h;have a:TM.H_ u=cb/\bU us=cb:=by simpa[bU] using i
  exact⟨v,r,e,Rep.wb u v a.1 b,aj.wb us r a.2 c⟩
end
theorem Rep.mv(m:Mv S H S' H')(h:Rep C S H u v):Rep C S' H' u v:=Rep.MH m u v h
theorem aj.mv(m:Mv S H S' H')(h:aj C S H us vs):aj C S' H' us vs:=aj.MH m us vs h
theorem Rep.H_(i:TM.H_ u=cb)(h:Rep C S H u v):Rep C S' H u v:=Rep.wb u v i h
theorem aj.H_(i:bU us=cb)(h:aj C S H us vs):aj C S' H us vs:=aj.wb us vs i h
theorem Mv.up(sub:∀a,S a->S' a):Mv S H S' H:=⟨sub,λ_ _ h _=>h,λ_ _ _ h=>h⟩
theorem aj.len:∀{us:List U}{vs:List V},aj C S H us vs->us.length=vs.length
 |[],_,h=>by cases h;rfl
 |u::us,vs,h=>by
  obtain⟨v,r,rfl,_,a⟩:=h;rw[ko,ko,aj.len a]
theorem aj.get:∀{us:List U}{vs:List V}{i:Nat}{u:U},aj C S H us vs->us[i]?=a5 u->∃v,vs[i]?=a5 v/\Rep C S H u v
 |[],_,_,_,_,e=>by simp at e
 |u::us,vs,0,w,h,e=>by
  obtain⟨v,r,rfl,a,_⟩:=h;simp at e;subst e;exact⟨v,rfl,a⟩
 |u::us,vs,i+1,w,h,e=>by
  obtain⟨v,r,rfl,_,b⟩:=h;obtain⟨c,d,h'⟩:=aj.get (i:=i) (u:=w) b (by simpa using e);exact⟨c,by simpa using d,h'⟩
theorem aj.append:∀{us ws:List U}{vs a:List V},aj C S H us vs->aj C S H ws a->aj C S H (us++ws) (vs++a)
 |[],_,_,_,h,h'=>by cases h;exact h'
 |u::us,ws,vs,a,h,h'=>by
  obtain⟨v,r,rfl,b,c⟩:=h;exact⟨v,r++a,rfl,b,c.append h'⟩
theorem aj.take:∀{us:List U}{vs:List V} (n:Nat),aj C S H us vs->aj C S H (us.take n) (vs.take n)
 |_,_,0,_=>by simp[aj]
 |[],_,n+1,h=>by cases h;simp[aj]
 |u::us,vs,n+1,h=>by
  obtain⟨v,r,rfl,a,b⟩:=h;exact⟨v,r.take n,rfl,a,b.take n⟩
theorem aj.drop:∀{us:List U}{vs:List V} (n:Nat),aj C S H us vs->aj C S H (us.drop n) (vs.drop n)
 |_,_,0,h=>h
 |[],_,n+1,h=>by cases h;simp[aj]
 |u::us,vs,n+1,h=>by
  obtain⟨v,r,rfl,b,a⟩:=h;exact a.drop n
theorem aj.set:∀{us:List U}{vs:List V} (n:Nat) {u:U}{v:V},aj C S H us vs->Rep C S H u v->aj C S H (us.set n u) (vs.set n v)
 |[],_,n,_,_,h,_=>by cases h;simp[aj]
 |u::us,vs,0,_,_,h,h'=>by
  obtain⟨v,r,rfl,b,a⟩:=h;exact⟨_,r,rfl,h',a⟩
 |u::us,vs,n+1,_,_,h,h'=>by
  obtain⟨v,r,rfl,b,a⟩:=h;exact⟨v,_,rfl,b,a.set n h'⟩
theorem aj.snoc(h:aj C S H us vs)(h':Rep C S H u v):aj C S H (us++[u]) (vs++[v]):=h.append ⟨v,[],rfl,h',rfl⟩
theorem aj.strs:∀{xs:List Str}{vs:List V},aj C S H (xs.map .str) vs↔vs=xs.map V.str
 |[],vs=>by simp[aj]
 |x::xs,vs=>by
  constructor
  ·rintro⟨v,r,rfl,a,b⟩;rw[aj.strs.mp b];have:v=.str x:=a;rw[this];rfl
  ·rintro rfl;exact⟨_,_,rfl,rfl,aj.strs.mpr rfl⟩
end
structure Ct.Eqv(C C':Ct):Prop where
 P:C.P=C'.P
 w:C.w=C'.w
 K:C.K=C'.K
section
mutual
theorem Rep.MI(q:C.Eqv d):∀(u:U) (v:V),Rep C S H u v->Rep d S H u v
 |.HH,_,h=>h
 |.bl _,_,h=>h
 |.int _,_,h=>h
 |.str _,_,h=>h
 |.tup us,v,h=>by
  obtain⟨a,vs,e,b,c⟩:=h;exact⟨a,vs,e,q.K▸b,aj.MI q us vs c⟩
 |.lst us,v,h=>by
  obtain⟨a,vs,e,b,c⟩:=h;exact⟨a,vs,e,q.K▸b,aj.MI q us vs c⟩
 |.HE ks us,v,h=>by
  obtain⟨a,e,b,c⟩:=h;exact⟨a,e,b,c.mv (λ_ q=>q) λvs z=>aj.MI q us vs z⟩
theorem aj.MI(q:C.Eqv a):∀(us:List U) (vs:List V),aj C S H us vs->aj a S H us vs
 |[],_,h=>h
 |u::us,vs,h=>by
  obtain⟨v,r,e,b,c⟩:=h;exact⟨v,r,e,Rep.MI q u v b,aj.MI q us r c⟩
end
theorem Rep.cg(q:C.Eqv a)(h:Rep C S H u v):Rep a S H u v:=Rep.MI q u v h
theorem aj.cg(q:C.Eqv a)(h:aj C S H us vs):aj a S H us vs:=aj.MI q us vs h
end
def cU(C:Ct)(S:hH->Prop)(H:Hp)(r:hH):U->Prop
 |.lst us=>∃vs,H r=a5 (.lst vs)/\aj C S H us vs
 |.HE ks us=>MG H (aj C S H us) r ks
 |_=>False
theorem cU.mv(m:Mv S H S' H')(a:∀o,H r=a5 o->H' r=a5 o)(h:cU C S H r u):cU C S' H' r u:=by
 cases u with
 |lst us=>obtain⟨vs,b,c⟩:=h;exact⟨vs,a _ b,c.mv m⟩
 |HE ks us=>exact MG.mv a (λvs q=>q.mv m) h
 |_=>exact h
theorem cU.rep(hs:∀a,S a->S' a)(b:S' r)(h:cU C S H r u):Rep C S' H u (.ref r):=by
 cases u with
 |lst us=>obtain⟨vs,c,d⟩:=h;exact⟨r,vs,rfl,.inl ⟨b,.inl c⟩,d.mv (.up hs)⟩
 |HE ks us=>exact⟨r,rfl,b,MG.mv (λ_ q=>q) (λvs q=>q.mv (.up hs)) h⟩
 |_=>exact h.elim
theorem cU.cg(q:C.Eqv a)(h:cU C S H r u):cU a S H r u:=by
 cases u with
 |lst us=>obtain⟨vs,b,c⟩:=h;exact⟨vs,b,c.cg q⟩
 |HE ks us=>exact MG.mv (λ_ q=>q) (λvs z=>z.cg q) h
 |_=>exact h
theorem cU.some(h:cU C S H r u):∃o,H r=a5 o/\¬Tp o:=by
 cases u with
 |lst us=>obtain⟨vs,a,_⟩:=h;exact⟨_,a,λz=>z⟩
 |HE ks us=>obtain⟨kvs,a,_⟩:=h;exact⟨_,a,λz=>z⟩
 |_=>exact h.elim
structure Cf where
 S:hH->Prop
 H:Hp
 σ:St
 st:aw
 kid:Nat->List hH
def Cf.R1(c:Cf)(a:hH):Prop:=∃(j:Nat) (k:Kd) (u:U),k.root=cb/\c.st[j]?=a5 (a5 (k,u))/\c.σ[j]?=a5 (a5 (.ref a))
def Cf.RD(c:Cf)(j:Nat)(a:hH):Prop:=∃(u:U) (r:hH),c.st[j]?=a5 (a5 (.G',u))/\c.σ[j]?=a5 (a5 (.ref r))/\(a=r\/a∈c.kid j)
def Cf.R(c:Cf)(a:hH):Prop:=c.R1 a\/∃j,c.RD j a
def PS(C:Ct)(S:hH->Prop):hH->Prop:=λa=>C.Ks a\/S a
def fD(C:Ct)(S:hH->Prop)(H:Hp):Kd->U->V->Prop
 |.own,u,v=>∃r,v=.ref r/\¬S r/\¬C.Ks r/\C.H₀ r=b6/\cU C S H r u
 |.io,u,v=>∃r,v=.ref r/\¬S r/\¬C.Ks r/\C.IO r/\cU C S H r u
 |.loc,u,v=>Rep C S H u v
 |.any,u,v=>Rep C (PS C S) H u v
 |.bor _,_,_=>False
 |.G',_,v=>∃r,v=.ref r
def dk(C:Ct)(S:hH->Prop)(H:Hp):List U->List hH->Prop
 |[],as=>as=[]
 |u::us,as=>∃a as' b vs,as=a::as'/\u=.lst b/\H a=a5 (.lst vs)/\aj C S H b vs/\dk C S H us as'
def cv(C:Ct)(S:hH->Prop)(H:Hp)(r:hH)(as:List hH):U->Prop
 |.HE ks us=>∃kvs:List (Key×V),H r=a5 (.dK kvs)/\kvs.map (·.1)=ks.map kr/\kvs.map (·.2)=as.map V.ref/\(r::as).Nodup/\(∀a∈r::as,¬S a/\¬C.Ks a/\C.H₀ a=b6)/\dk C S H us as
 |_=>False
structure Lb(C:Ct)(c:Cf):Prop where
 kd:∀(j:Nat) (u:U) (r:hH),c.st[j]?=a5 (a5 (.G',u))->c.σ[j]?=a5 (a5 (.ref r))->cv C c.S c.H r (c.kid j) u
 dj:∀(i j:Nat) (a:hH),c.RD i a->c.RD j a->i=j
 d1:∀(j:Nat) (a:hH),c.RD j a->¬c.R1 a
structure Ok(C:Ct)(c:Cf):Prop where
 same:∀a o,C.H₀ a=a5 o->¬C.IO a->c.H a=a5 o
 JS:∀a,c.S a->C.H₀ a=b6/\∃o,c.H a=a5 o
 par:∀a,C.Ks a->(∃o,C.H₀ a=a5 o)/\¬C.IO a
 io:∀a,C.IO a->(∃o,C.H₀ a=a5 o)/\∃o,c.H a=a5 o
 len:c.st.length=c.σ.length
 sl:∀(i:Nat) (k:Kd) (u:U),c.st[i]?=a5 (a5 (k,u))->∃v,c.σ[i]?=a5 (a5 v)/\fD C c.S c.H k u v
 inj:∀(i j:Nat) (k k':Kd) (u u':U) (r:hH),k.root=cb->k'.root=cb->c.st[i]?=a5 (a5 (k,u))->c.st[j]?=a5 (a5 (k',u'))->c.σ[i]?=a5 (a5 (.ref r))->c.σ[j]?=a5 (a5 (.ref r))->i=j
 dd:Lb C c
structure Ns(c c':Cf):Prop where
 keep:∀a o,c.H a=a5 o->¬c.R a->c'.H a=a5 o
 there:∀a o,c.H a=a5 o->∃o',c'.H a=a5 o'
 roots:∀a,c'.R a->c.R a\/c.H a=b6
 sub:∀a,c.S a->c'.S a
 new:∀a,c'.S a->c.S a\/c.R a\/c.H a=b6
section
theorem Ns.refl(c:Cf):Ns c c:=⟨λ_ _ h _=>h,λ_ o h=>⟨o,h⟩,λ_ h=>.inl h,λ_ h=>h,λ_ h=>.inl h⟩
theorem Ns.none(n:Ns c b)(h:b.H a=.none):c.H a=.none:=by
 cases e:c.H a with
 |none=>rfl
 |some o=>obtain⟨o',q⟩:=n.there a o e;rw[h]at q;cases q
theorem Ns.trans(m:Ns c d)(n:Ns d e):Ns c e where
 keep:=λa o h b=>by
  refine n.keep a o (m.keep a o h b) λz=>?_;rcases m.roots a z with z|z
  ·exact b z
  ·rw[h]at z;cases z
 there:=λa o h=>let ⟨o',h'⟩:=m.there a o h;n.there a o' h'
 roots:=λa h=>by
  rcases n.roots a h with z|z
  ·exact m.roots a z
  ·exact .inr (m.none z)
 sub:=λa h=>n.sub a (m.sub a h)
 new:=λa h=>by
  rcases n.new a h with z|z|z
  ·exact m.new a z
  ·rcases m.roots a z with z|z
   ·exact .inr (.inl z)
   ·exact .inr (.inr z)
  ·exact .inr (.inr (m.none z))
theorem fD.rt(hk:k.root=cb)(h:fD C S H k u v):∃r,v=.ref r/\¬S r/\¬C.Ks r/\(C.H₀ r=b6\/C.IO r)/\cU C S H r u:=by
 cases k with
 |own=>obtain⟨r,a,b,c,d,e⟩:=h;exact⟨r,a,b,c,.inl d,e⟩
 |io=>obtain⟨r,a,b,c,d,e⟩:=h;exact⟨r,a,b,c,.inr d,e⟩
 |_=>cases hk
theorem dk.mem:∀{us:List U}{as:List hH}{a:hH},dk C S H us as->a∈as->∃vs,H a=a5 (.lst vs)
 |[],as,a,h,ha=>by cases h;cases ha
 |u::us,as,a,h,ha=>by
  obtain⟨a',as',d,vs,rfl,_,b,_,c⟩:=h;rcases fR.mp ha with rfl|ha
  ·exact⟨vs,b⟩
  ·exact dk.mem c ha
theorem dk.mv(m:Mv S H S' H'):∀{us:List U}{as:List hH},(∀a∈as,∀o,H a=a5 o->H' a=a5 o)->dk C S H us as->dk C S' H' us as
 |[],as,_,h=>h
 |u::us,as,b,h=>by
  obtain⟨a,as',c,vs,rfl,e,d,f,g⟩:=h;exact⟨a,as',c,vs,rfl,e,b a (by simp) _ d,f.mv m,dk.mv m (λa i=>b a (by simp[i])) g⟩
theorem cv.fr(h:cv C S H r as u):∀a∈r::as,¬S a/\¬C.Ks a/\C.H₀ a=b6:=by
 cases u<;>first|exact h.elim|(obtain⟨kvs,_,_,_,_,b,_⟩:=h;exact b)
theorem cv.there(h:cv C S H r as u):∀a∈r::as,∃o,H a=a5 o/\¬Tp o:=by
 cases u<;>first|exact h.elim|skip
 obtain⟨kvs,b,_,_,_,_,c⟩:=h;intro a ha;rcases fR.mp ha with rfl|ha
 ·exact⟨_,b,λz=>z⟩
 ·obtain⟨vs,e⟩:=c.mem ha;exact⟨_,e,λz=>z⟩
theorem cv.mv(m:Mv S H S' H')(c:∀a∈r::as,¬S' a/\∀o,H a=a5 o->H' a=a5 o)(h:cv C S H r as u):cv C S' H' r as u:=by
 cases u<;>first|exact h.elim|skip
 obtain⟨kvs,d,e,f,g,i,j⟩:=h;exact⟨kvs,(c r (by simp)).2 _ d,e,f,g,λa b=>⟨(c a b).1,(i a b).2⟩,j.mv m λa b=>(c a (by simp[b])).2⟩
theorem Lb.of(d:Lb C c)(hk:e.kid=c.kid)(p:∀(j:Nat) (u:U),e.st[j]?=a5 (a5 (.G',u))->c.st[j]?=a5 (a5 (.G',u))/\e.σ[j]?=c.σ[j]?)(s:∀a,e.R1 a->c.R1 a\/∀j,¬c.RD j a)
  (m:Mv c.S c.H e.S e.H) (t:∀j a,c.RD j a->¬e.S a/\∀o,c.H a=a5 o->e.H a=a5 o):Lb C e:=by
 have b:∀j a,e.RD j a->c.RD j a:=λj a v=>by
  obtain⟨u,r,k,f,q⟩:=v;obtain⟨g,l⟩:=p j u k;rw[l]at f;rw[hk]at q;exact⟨u,r,g,f,q⟩
 refine⟨λj u r k f=>?_,λi j a h n=>d.dj i j a (b i a h) (b j a n),λj a h n=>?_⟩
 ·obtain⟨g,l⟩:=p j u k;rw[l]at f;rw[hk];exact cv.mv m (λa w=>t j a ⟨u,r,g,f,fR.mp w⟩) (d.kd j u r g f)
 ·rcases s a n with z|z
  ·exact d.d1 j a (b j a h) z
  ·exact z j (b j a h)
theorem Lb.hs(d:Lb C c)(m:Mv c.S c.H S' H')(b:∀j a,c.RD j a->¬S' a/\∀o,c.H a=a5 o->H' a=a5 o):Lb C {c with H:=H',S:=S' } :=
 d.of rfl (λ_ _ e=>⟨e,rfl⟩) (λ_ z=>.inl z) m b
theorem Ok.root(f:Ok C c)(h:c.R r):¬c.S r/\¬C.Ks r/\(C.H₀ r=b6\/C.IO r)/\∃o,c.H r=a5 o/\¬Tp o:=by
 rcases h with⟨j,k,u,hk,b,d⟩|⟨j,u,g,b,d,a⟩
 ·obtain⟨v,e,hs⟩:=f.sl j _ _ b;obtain⟨g,ev,a,l,m,n⟩:=hs.rt hk;rw[d]at e;cases e;cases ev;exact⟨a,l,m,n.some⟩
 ·have i:=f.dd.kd j u g b d;obtain⟨p,q,s⟩:=cv.fr i r (fR.mpr a);exact⟨p,q,.inl s,cv.there i r (fR.mpr a)⟩
theorem Ok.mv(b:Ok C c)(n:Ns c d):Mv c.S c.H d.S d.H:=⟨n.sub,λa o h t=>n.keep a o h λz=>by
  obtain⟨_,_,_,o',h',e⟩:=b.root z;rw[h]at h';cases h';exact e t,λa o s h=>n.keep a o h λz=>(b.root z).1 s⟩
theorem Ok.Mb(b:Ok C c)(n:Ns c d):Mv (PS C c.S) c.H (PS C d.S) d.H:=⟨λa h=>h.imp id (n.sub a),(b.mv n).O4,λa o s h=>n.keep a o h λz=>by
  rcases s with s|s
  ·exact(b.root z).2.1 s
  ·exact(b.root z).1 s⟩
theorem Ok.jB(a:Ok C c)(h:c.H p=b6):C.H₀ p=b6/\¬c.S p/\¬C.Ks p/\¬C.IO p/\¬c.R p:=by
 have b:¬C.IO p:=λz=>by obtain⟨_,o,q⟩:=a.io p z;rw[h]at q;cases q
 have d:C.H₀ p=b6:=by
  cases e:C.H₀ p with
  |none=>rfl
  |some o=>have:=a.same p o e b;rw[h]at this;cases this
 refine⟨d,λz=>?_,λz=>?_,b,λz=>?_⟩
 ·obtain⟨_,o,q⟩:=a.JS p z;rw[h]at q;cases q
 ·obtain⟨⟨o,q⟩,_⟩:=a.par p z;rw[d]at q;cases q
 ·obtain⟨_,_,_,o,q,_⟩:=a.root z;rw[h]at q;cases q
theorem fD.mv(m:Mv S H S' H')(i:Mv (PS C S) H (PS C S') H')(g:k.root=cb->∀r,v=.ref r->¬S' r/\∀o,H r=a5 o->H' r=a5 o)(h:fD C S H k u v):fD C S' H' k u v:=by
 cases k with
 |own =>
  obtain⟨r,e,l,a,b,c⟩:=h;obtain⟨d,f⟩:=g rfl r e;exact⟨r,e,d,a,b,c.mv m f⟩
 |io =>
  obtain⟨r,e,l,a,b,c⟩:=h;obtain⟨d,f⟩:=g rfl r e;exact⟨r,e,d,a,b,c.mv m f⟩
 |loc=>exact Rep.mv m h
 |any=>exact Rep.mv i h
 |bor j=>exact h.elim
 |G'=>exact h
structure Nx(c c':Cf):Prop extends Ns c c' where
instance {c a:Cf}:Coe (Nx c a) (Ns c a):=⟨Nx.toNs⟩
theorem Nx.refl(c:Cf):Nx c c:=⟨.refl c⟩
theorem Nx.trans(m:Nx c a)(n:Nx a b):Nx c b:=⟨m.toNs.trans n.toNs⟩
theorem Nx.none(n:Nx c b)(h:b.H a=.none):c.H a=.none:=n.toNs.none h
theorem Ok.lay(b:Ok C c)(h:c.H p=b6):Ok C {c with H:=upd c.H p o}/\Nx c {c with H:=upd c.H p o}:=by
 have l:∀{a:hH} {o':HO},c.H a=a5 o'->a≠p:=λe z=>by subst z;rw[h]at e;cases e
 have d:∀a o',c.H a=a5 o'->(upd c.H p o) a=a5 o':=λa o' e=>by rw[aq (l e)];exact e
 have nx:Nx c {c with H:=upd c.H p o}:=⟨⟨λa o' e _=>d a o' e,λa o' e=>⟨o',d a o' e⟩,λa z=>.inl z,λ_ z=>z,λ_ z=>.inl z⟩⟩
 refine⟨⟨λa o' e z=>d a o' (b.same a o' e z),λa z=>⟨(b.JS a z).1,let ⟨o',q⟩:=(b.JS a z).2;⟨o',d a o' q⟩⟩,b.par,λa z=>⟨(b.io a z).1,let ⟨o',q⟩:=(b.io a z).2;⟨o',d a o' q⟩⟩,b.len,λi k u e=>?_,b.inj,b.dd.hs (b.mv nx.toNs) λj a z=>⟨(b.root (.inr ⟨j,z⟩)).1,λo' e=>d a o' e⟩⟩,nx⟩;obtain⟨v,m,f⟩:=b.sl i k u e;refine⟨v,m,f.mv (b.mv nx.toNs) (b.Mb nx.toNs) λhk r n=>?_⟩;obtain⟨t,g,s,_⟩:=f.rt hk;rw[n]at g;cases g;exact⟨s,λo' e=>d r o' e⟩
theorem Ok.grow(b:Ok C c)(hs:AR c.H H')(g:∀a,S' a->c.S a\/(c.H a=b6/\∃o,H' a=a5 o))(p:∀a,c.S a->S' a):Ok C {c with H:=H',S:=S' }/\Nx c {c with H:=H',S:=S' }:=by
 have nx:Nx c {c with H:=H',S:=S' }:=⟨⟨λa o' e _=>hs a o' e,λa o' e=>⟨o',hs a o' e⟩,λa z=>.inl z,p,λa z=>(g a z).imp id λq=>.inr q.1⟩⟩
 refine⟨⟨λa o' e z=>hs a o' (b.same a o' e z),λa z=>?_,b.par,λa z=>⟨(b.io a z).1,let ⟨o',q⟩:=(b.io a z).2;⟨o',hs a o' q⟩⟩,b.len,λi k u e=>?_,b.inj,b.dd.hs (b.mv nx.toNs) λj a z=>⟨λd=>?_,λo' e=>hs a o' e⟩⟩,nx⟩
 rotate_left 2
 ·obtain⟨f,_,_,o,h,_⟩:=b.root (.inr ⟨j,z⟩);rcases g a d with d|⟨d,_⟩
  ·exact f d
  ·rw[h]at d;cases d
 ·rcases g a z with q|⟨f,l⟩
  ·exact⟨(b.JS a q).1,let ⟨o',q⟩:=(b.JS a q).2;⟨o',hs a o' q⟩⟩
  ·exact⟨(b.jB f).1,l⟩
 ·obtain⟨v,s,m⟩:=b.sl i k u e;refine⟨v,s,m.mv (b.mv nx.toNs) (b.Mb nx.toNs) λhk r t=>?_⟩;obtain⟨w,n,f,l,x,h⟩:=m.rt hk;rw[t]at n;cases n;obtain⟨o,ho,_⟩:=h.some;refine⟨λz=>?_,λo' e=>hs r o' e⟩;rcases g r z with z|⟨z,_⟩
  ·exact f z
  ·rw[z]at ho;cases ho
def aL(C:Ct)(a c:Cf):Kd->U->V->Prop
 |.own,u,v=>∃r,v=.ref r/\a.H r=b6/\¬c.S r/\¬c.R r/\cU C c.S c.H r u
 |.loc,u,v=>Rep C c.S c.H u v
 |.any,u,v=>Rep C (PS C c.S) c.H u v
 |.bor j,u,v=>(∃k:Kd,k.root=cb/\c.st[j]?=a5 (a5 (k,u)))/\c.σ[j]?=a5 (a5 v)
 |.io,_,_=>False
 |.G',_,_=>False
def fE(C:Ct)(a c:Cf):Kd->U->V->Prop
 |.own,u,v=>∃r,v=.ref r/\a.H r=b6/\¬c.S r/\¬c.R r/\cU C c.S c.H r u
 |.loc,u,v=>Rep C c.S c.H u v
 |.any,u,v=>Rep C (PS C c.S) c.H u v
 |.bor j,u,v=>c.σ[j]?=a5 (a5 v)
 |.io,_,_=>False
 |.G',_,_=>False
theorem aL.w(h:aL C a c k u v):fE C a c k u v:=by
 cases k with
 |bor j=>exact h.2
 |_=>exact h
theorem fE.Uz(a:Ok C c)(n:Ns c b)(g:∀j,k=.bor j->b.σ[j]?=c.σ[j]?)(h:fE C i c k u v):fE C i b k u v:=by
 cases k with
 |own =>
  obtain⟨r,e,l,m,d,f⟩:=h;obtain⟨o,ho,_⟩:=f.some;refine⟨r,e,l,λz=>?_,λz=>?_,f.mv (a.mv n) λo q=>n.keep r o q d⟩
  ·rcases n.new r z with z|z|z
   ·exact m z
   ·exact d z
   ·rw[z]at ho;cases ho
  ·rcases n.roots r z with z|z
   ·exact d z
   ·rw[z]at ho;cases ho
 |loc=>exact Rep.mv (a.mv n) h
 |any=>exact Rep.mv (a.Mb n) h
 |bor j=>show b.σ[j]?=_;rw[g j rfl];exact h
 |_=>exact h
theorem fE.on(b:Ok C c)(n:Ns c a)(d:a.σ=c.σ)(h:fE C e c k u v):fE C e a k u v:=h.Uz b n λj _=>by rw[d]
theorem fE.from(n:Ns a b)(h:fE C b c k u v):fE C a c k u v:=by
 cases k with
 |own=>obtain⟨r,e,d,f⟩:=h;exact⟨r,e,n.none d,f⟩
 |_=>exact h
theorem aL.from(n:Ns a b)(h:aL C b c k u v):aL C a c k u v:=by
 cases k with
 |own=>obtain⟨r,e,d,f⟩:=h;exact⟨r,e,n.none d,f⟩
 |_=>exact h
def SK(C:Ct)(c:Cf):Kd->hH->Prop
 |.any=>PS C c.S
 |_=>c.S
noncomputable def kE:Kd->Kd
 |.any=>.any
 |_=>.loc
theorem Ok.rootOf(b:Ok C c){j:Nat}(h:∃k:Kd,k.root=cb/\c.st[j]?=a5 (a5 (k,u)))(e:c.σ[j]?=a5 (a5 v)):∃r,v=.ref r/\¬c.S r/\¬C.Ks r/\(C.H₀ r=b6\/C.IO r)/\cU C c.S c.H r u:=by
 obtain⟨k,hk,h⟩:=h;obtain⟨f,a,d⟩:=b.sl j _ _ h;rw[e]at a;cases a;exact d.rt hk
theorem aL.list(f:Ok C c)(h:aL C g c k (.lst us) v):∃a vs,v=.ref a/\Ij C.K c.H a vs/\aj C (SK C c k) c.H us vs:=by
 cases k with
 |own=>obtain⟨r,e,_,_,_,vs,b,d⟩:=h;exact⟨r,vs,e,Ij.of b,d⟩
 |bor j=>obtain⟨r,e,_,_,_,vs,b,d⟩:=f.rootOf h.1 h.2;exact⟨r,vs,e,Ij.of b,d⟩
 |io=>exact h.elim
 |G'=>exact h.elim
 |_=>obtain⟨a,vs,e,b,d⟩:=h;exact⟨a,vs,e,b.sq,d⟩
theorem aL.tuple(b:Ok C c)(h:aL C g c k (.tup us) v):∃a vs,v=.ref a/\Im C.K c.H a vs/\aj C (SK C c k) c.H us vs:=by
 cases k with
 |own=>obtain⟨r,e,_,_,_,h⟩:=h;exact h.elim
 |bor j=>obtain⟨r,e,_,_,_,h⟩:=b.rootOf h.1 h.2;exact h.elim
 |io=>exact h.elim
 |G'=>exact h.elim
 |_=>obtain⟨a,vs,e,d,f⟩:=h;exact⟨a,vs,e,d,f⟩
theorem aL.flat(b:Ok C c)(a:H_ u=cb)(h:aL C d c k u v):Rep C c.S c.H u v:=by
 cases k with
 |own=>obtain⟨r,e,_,_,_,h⟩:=h;cases u<;>simp[H_]at a<;>exact h.elim
 |loc=>exact h
 |any=>exact Rep.H_ a h
 |bor j=>obtain⟨r,e,_,_,_,h⟩:=b.rootOf h.1 h.2;cases u<;>simp[H_]at a<;>exact h.elim
 |_=>exact h.elim
theorem aL.int(a:Ok C c)(h:aL C b c k (.int i) v):v=.int i:=h.flat a rfl
theorem aL.str(a:Ok C c)(h:aL C b c k (.str x) v):v=.str x:=h.flat a rfl
theorem aL.bl(a:Ok C c)(h:aL C d c k (.bl b) v):v=.bl b:=h.flat a rfl
theorem aL.HH(a:Ok C c)(h:aL C b c k .HH v):v=.HH:=h.flat a rfl
theorem aL.item(h:Rep C (SK C c k) c.H u v):aL C a c (kE k) u v:=by
 cases k<;>exact h
def Ki(H:Hp):hH->Prop:=λa=>∃o,H a=a5 o
theorem Ok.yd(b:Ok C c):∀a,c.S a->Ki c.H a:=λa h=>(b.JS a h).2
theorem Ok.FX(b:Ok C c):∀a,PS C c.S a->Ki c.H a:=λa h=>by
 rcases h with h|h
 ·obtain⟨⟨o,e⟩,n⟩:=b.par a h;exact⟨o,b.same a o e n⟩
 ·exact b.yd a h
theorem aL.read(a:Ok C c)(h:aL C d c k u v):Rep C (Ki c.H) c.H u v:=by
 cases k with
 |own =>
  obtain⟨r,e,_,_,_,b⟩:=h;rw[e];obtain⟨o,ho,_⟩:=b.some;exact b.rep a.yd ⟨o,ho⟩
 |loc=>exact Rep.mv (.up a.yd) h
 |any=>exact Rep.mv (.up a.FX) h
 |bor j =>
  obtain⟨r,e,_,_,_,b⟩:=a.rootOf h.1 h.2;rw[e];obtain⟨o,ho,_⟩:=b.some;exact b.rep a.yd ⟨o,ho⟩
 |_=>exact h.elim
theorem Ok.newList(a:Ok C c)(n:Nx b c)(h:c.H p=b6)(e:aj C c.S c.H us vs):
  Ok C {c with H:=upd c.H p (.lst vs)}/\Nx b {c with H:=upd c.H p (.lst vs)}/\aL C b {c with H:=upd c.H p (.lst vs)} .own (.lst us) (.ref p):=by
 obtain⟨f,d⟩:=a.lay (o:=.lst vs) h;obtain⟨j,g,k,l,i⟩:=a.jB h;exact⟨f,n.trans d,p,rfl,n.none h,g,i,vs,az,e.mv (a.mv d.toNs)⟩
theorem Ok.D9(a:Ok C c)(n:Nx b c)(h:c.H p=b6)(e:aj C c.S c.H us vs):
  Ok C {c with H:=upd c.H p (.tup vs)}/\Nx b {c with H:=upd c.H p (.tup vs)}/\aL C b {c with H:=upd c.H p (.tup vs)} .loc (.tup us) (.ref p):=by
 obtain⟨f,d⟩:=a.lay (o:=.tup vs) h;exact⟨f,n.trans d,p,vs,rfl,Im.of az,e.mv (a.mv d.toNs)⟩
end
inductive Ex(α:Type) where|ok (a:α)|exc (c:Str)
noncomputable def M(α:Type):=aw->Option (Ex α×aw)
namespace M
noncomputable def pure(a:α):M α:=λst=>a5 (.ok a,st)
noncomputable def fail:M α:=λ_=>b6
noncomputable def bind(m:M α)(f:α->M β):M β:=λst=>match m st with
 |none=>b6
 |some (.ok a,st')=>f a st'
 |some (.exc c,st')=>a5 (.exc c,st')
noncomputable def H9(o:Option α):M α:=λst=>match o with
 |none=>b6
 |some a=>a5 (.ok a,st)
end M
noncomputable instance:Monad M:={pure:=M.pure,bind:=M.bind}
def W{α:Type}(m:M α)(st:aw)(Q:α->aw->Prop):Prop:=∃a st',m st=a5 (.ok a,st')/\Q a st'
section
theorem ak:W (pure a) st Q↔Q a st:=by
 constructor
 ·rintro⟨b,st',e,h⟩;cases e;exact h
 ·intro h;exact⟨a,st,rfl,h⟩
theorem af:W (m >>= f) st Q↔W m st λa st'=>W (f a) st' Q:=by
 constructor
 ·rintro⟨b,st',e,h⟩;have d:M.bind m f st=a5 (.ok b,st'):=e;unfold M.bind at d;cases q:m st with
  |none=>rw[q]at d;cases d
  |some r =>
   obtain⟨r,s1⟩:=r;rw[q]at d;cases r with
   |ok a=>exact⟨a,s1,q,b,st',d,h⟩
   |exc c=>cases d
 ·rintro⟨a,s1,q,b,st',e,h⟩;refine⟨b,st',?_,h⟩;show M.bind m f st=_;unfold M.bind;rw[q];exact e
theorem bQ:W (M.H9 o) st Q↔∃a,o=a5 a/\Q a st:=by
 cases o with
 |none=>exact⟨λ⟨_,_,e,_⟩=>(by cases e),λ⟨_,e,_⟩=>(by cases e)⟩
 |some a=>exact⟨λ⟨_,_,e,h⟩=>(by cases e;exact⟨a,rfl,h⟩),λ⟨_,e,h⟩=>(by cases e;exact⟨a,st,rfl,h⟩)⟩
theorem bj:W (M.fail:M α) st Q↔False:=⟨λ⟨_,_,e,_⟩=>(by cases e),NC⟩
theorem W.mono(h:W m st Q)(i:∀a s,Q a s->Q' a s):W m st Q':=let ⟨a,s,e,q⟩:=h;⟨a,s,e,i a s q⟩
end
inductive Qk where|add|sub|mul|Nc|mod|pow
deriving DecidableEq
inductive O5 where|eq|ne|lt|le|gt|ge|isin|HV|is|Mc
deriving DecidableEq
inductive Bf where|len|sorted|list|tuple|str|int|repr|max|min|all|any
 |dict
 |sum
deriving DecidableEq
inductive B2 where|Lv|JA|sset|lH
deriving DecidableEq
inductive Mf where|split|join|partition|endswith
deriving DecidableEq
inductive J4 where|str|list|tuple|int|bool
deriving DecidableEq
inductive Ik where|seq|Jl|WK|Md|zip|rev
 |N2
deriving DecidableEq
inductive E where
 |var (i:Nat)
 |cst (u:U)
 |N3 (x:Str) (u:U)
 |bin (op:Qk) (a b:E)
 |cmp (op:O5) (a b:E)
 |Kt (o1 o2:O5) (a b c:E)
 |and (es:List E)|or (es:List E)|not (a:E)
 |ite (c a b:E)
 |tup (es:List E)|lst (es:List E)|JG (r:Bool)
 |idx (a b:E)
 |KZ (a:E) (lo hi:List E)
 |bi (f:Bf) (es:List E)
 |LN (f:B2) (es:List E)
 |MJ (m:Mf) (a:E) (es:List E)
 |call (f:Str) (es:List E)
 |comp (k:Nat) (t:Bool) (ik:Ik) (src:List E) (cond:List E) (e:E)
 |neg (a:E)|bad|LO (a:E) (T:J4)|fst (es:List E)|inD (neg:Bool) (a:E) (i:Nat)|N4 (i:Nat)|Ku (i:Nat) (k d:E)|N5 (i:Nat)|N6 (ln:Bool) (a b:E)
 |HF (f:Str) (es:List E) (is:List Nat)
 |pop (i:Nat)|Kv (i:Nat) (e:E)
inductive S where
 |set (i:Nat) (e:E)
 |K1 (is:List Nat) (e:E)
 |put (i:Nat) (k v:E)
 |app (i:Nat) (e:E)|ext (i:Nat) (e:E)|bad|newD (i:Nat)|putD (i:Nat) (k v:E)|J5 (i:Nat) (k v:E)|aug (sub:Bool) (i:Nat) (k v:E)|Ql (i:Nat)
 |exp (e:E)
 |ret (e:E)|K2
 |ite (c:E) (a b:List S)
 |Ia (t:Bool) (is:List Nat) (ik:Ik) (src:List E) (body:List S)
 |Lw (c:E) (body:List S)
 |brk|cnt|Qm
 |K3 (is:List Nat)
noncomputable def isAny:Kd->Bool
 |.any=>cb
 |_=>cL
noncomputable def dw(k:Kd)(xs:List U):Bool:=!isAny k||bU xs
noncomputable def kT(k k':Kd):Kd:=if isAny k||isAny k' then .any else .loc
noncomputable def cut{α:Type}(xs:List α)(lo hi:Option Int):List α:=(xs.drop (HT.Jx xs.length 0 lo)).take (HT.Jx xs.length xs.length hi - HT.Jx xs.length 0 lo)
noncomputable def ye:Kd×U->Kd×U->Option (Kd×U)
 |(_,.int i),(_,.int j)=>a5 (.loc,.int (i+j))
 |(_,.str x),(_,.str y)=>if x.length+y.length<=c6 then a5 (.loc,.str (x++y)) else b6
 |(k,.lst xs),(k',.lst a)=>if xs.length+a.length<=c6/\dw k xs=cb/\dw k' a=cb then a5 (.own,.lst (xs++a)) else b6
 |(k,.tup xs),(k',.tup a)=>if xs.length+a.length<=c6 then a5 (kT k k',.tup (xs++a)) else b6
 |_,_=>b6
noncomputable def rS(f:Int->Int->Option Int):U->U->Option (Kd×U)
 |.int i,.int j=>(f i j).map λn=>(.loc,.int n)
 |_,_=>b6
noncomputable def Ba(i j:Int):Option Int:=if ((-(2 ^ 64)<i/\i<2 ^ 64)\/(-(2 ^ 64)<j/\j<2 ^ 64)) then a5 (i * j) else b6
noncomputable def Bb(i j:Int):Option Int:=if 0<j/\j<1073741824 then a5 (i / j) else b6
noncomputable def Bc(i j:Int):Option Int:=if 0<j then a5 (i % j) else b6
noncomputable def Bd(i j:Int):Option Int:=if 0<=j/\j<=1000000/\i.natAbs<2 ^ 64 then a5 (i ^ j.toNat) else b6
noncomputable def KO(a:Qk)(x y:Kd×U):Option (Kd×U):=match a with
 |.add=>ye x y
 |.sub=>rS (λi j=>a5 (i - j)) x.2 y.2
 |.mul=>rS Ba x.2 y.2
 |.Nc=>rS Bb x.2 y.2
 |.mod=>rS Bc x.2 y.2
 |.pow=>rS Bd x.2 y.2
mutual
noncomputable def IM:Nat->U->Bool
 |_,.HE _ _=>cL
 |0,.tup _=>cL
 |0,.lst _=>cL
 |n+1,.tup xs=>cX n xs
 |n+1,.lst xs=>cX n xs
 |_,.HH=>cb|_,.bl _=>cb|_,.int _=>cb|_,.str _=>cb
noncomputable def cX:Nat->List U->Bool
 |_,[]=>cb
 |n,u::us=>IM n u&&cX n us
end
mutual
noncomputable def bV:U->U->Bool
 |.HH,.HH=>cb
 |.bl a,.bl b=>a==b
 |.bl a,.int b=>(if a then 1 else 0)==b
 |.int a,.bl b=>a==(if b then 1 else 0)
 |.int a,.int b=>a==b
 |.str a,.str b=>a==b
 |.tup xs,.tup c=>cw xs c
 |.lst xs,.lst c=>cw xs c
 |_,_=>cL
noncomputable def cw:List U->List U->Bool
 |[],[]=>cb
 |u::us,w::ws=>bV u w&&cw us ws
 |_,_=>cL
end
noncomputable def Nd(x:U)(a:List U):Option Bool:=if IM 50 x=cb/\cX 50 a=cb then a5 (a.any λy=>bV y x) else b6
noncomputable def strsOf:List U->Option (List Str)
 |[]=>a5 []
 |.str x::us=>(strsOf us).map (x::·)
 |_::_=>b6
noncomputable def Be:U->U->Option Bool
 |x,.lst a=>Nd x a
 |x,.tup a=>Nd x a
 |.str x,.HE ks _=>a5 (df (x∈ks))
 |_,_=>b6
noncomputable def cE:List Str->List U->Str->Option U
 |y::ks,u::us,x=>if y=x then a5 u else cE ks us x
 |_,_,_=>b6
noncomputable def dput(ks:List Str)(us:List U)(x:Str)(u:U):List Str×List U :=
 if x∈ks then(ks,(ks.zip us).map λp=>if p.1=x then u else p.2) else(ks++[x],us++[u])
noncomputable def mN:U->Bool
 |.HH=>cb
 |_=>cL
noncomputable def bZ:O5->U->U->Option Bool
 |.eq,a,b=>if IM 50 a=cb/\IM 50 b=cb then a5 (bV a b) else b6
 |.ne,a,b=>if IM 50 a=cb/\IM 50 b=cb then a5 (!bV a b) else b6
 |.lt,.int i,.int j=>a5 (df (i<j))
 |.le,.int i,.int j=>a5 (df (i<=j))
 |.gt,.int i,.int j=>a5 (df (j<i))
 |.ge,.int i,.int j=>a5 (df (j<=i))
 |.isin,x,y=>Be x y
 |.HV,x,y=>(Be x y).map (!·)
 |.is,x,.HH=>a5 (mN x)
 |.Mc,x,.HH=>a5 (!mN x)
 |.is,.bl x,.bl y=>a5 (x==y)
 |.Mc,.bl x,.bl y=>a5 (!(x==y))
 |_,_,_=>b6
noncomputable def kJ:List U->Option (List Bool)
 |[]=>a5 []
 |.bl x::us=>(kJ us).map (x::·)
 |_::_=>b6
noncomputable def d7:Kd×U->U->Option (Kd×U)
 |(k,.lst xs),.int i=>(IU xs i).map λu=>(kE k,u)
 |(k,.tup xs),.int i=>(IU xs i).map λu=>(kE k,u)
 |(_,.str x),.int i=>if x.length<=c6 then(IU x.cps.toList i).map λc=>(.loc,.str ⟨#[c]⟩) else b6
 |(k,.HE ks us),.str x=>(cE ks us x).map λu=>(kE k,u)
 |_,_=>b6
noncomputable def lS:Kd×U->Option Int->Option Int->Option (Kd×U)
 |(k,.lst xs),lo,hi=>if dw k xs=cb then a5 (.own,.lst (cut xs lo hi)) else b6
 |(_,.str x),lo,hi=>if x.length<=c6 then a5 (.loc,.str (PySem.StrLaws.sliceText x lo hi)) else b6
 |_,_,_=>b6
noncomputable def D_:U->Option Nat
 |.lst xs=>a5 xs.length
 |.tup xs=>a5 xs.length
 |.str x=>if x.length<=c6 then a5 x.length else b6
 |.HE ks _=>a5 ks.length
 |_=>b6
noncomputable def fF{β:Type}(f:Kd×U->Option β):List (Kd×U)->Option β
 |[x]=>f x
 |_=>b6
noncomputable def intsOf:List U->Option (List Int)
 |[]=>a5 []
 |.int x::us=>(intsOf us).map (x::·)
 |_::_=>b6
noncomputable def mO:List U->Option (List Str)
 |[]=>a5 []
 |.tup [.str x,.int _]::us=>(mO us).map (x::·)
 |_::_=>b6
noncomputable def Bg(k:Kd)(xs:List U):Option (Kd×U):=(mO xs).bind λks=>if ks.length<64/\ks.Nodup/\dw k xs=cb then a5 (.own,.lst ((eF ks).map λi=>xs.getD i .HH)) else b6
noncomputable def wc(k:Kd)(xs:List U):Option (Kd×U):=match strsOf xs with
 |some ss=>if ss.length<64 then a5 (.own,.lst ((aJ ss).map .str)) else b6
 |none=>Bg k xs
noncomputable def Ea:Kd×U->Option (Kd×U)
 |(k,.lst xs)=>wc k xs
 |(_,.HE ks _)=>if ks.length<64 then a5 (.own,.lst ((aJ ks).map .str)) else b6
 |(_,.tup xs)=>(strsOf xs).bind λss=>if ss.length<64 then a5 (.own,.lst ((aJ ss).map .str)) else b6
 |_=>b6
noncomputable def Eb:Kd×U->Option (Kd×U)
 |(k,.lst xs)=>if dw k xs=cb then a5 (.own,.lst xs) else b6
 |(k,.tup xs)=>if dw k xs=cb then a5 (.own,.lst xs) else b6
 |_=>b6
noncomputable def Ec:Kd×U->Option (Kd×U)
 |(k,.lst xs)=>a5 (kE k,.tup xs)
 |(k,.tup xs)=>a5 (kE k,.tup xs)
 |_=>b6
noncomputable def Bh:Kd×U->Option (Kd×U)
 |(_,.int i)=>if i.natAbs.log2<1920 then a5 (.loc,.str (SU i)) else b6
 |_=>b6
noncomputable def we(a:Bool):List (Kd×U)->Option (Kd×U)
 |[(_,.int i),(_,.int j)]=>a5 (.loc,.int (if a=cb then(if j<i then j else i) else(if j>i then j else i)))
 |_=>b6
noncomputable def Ed:Kd×U->Option (Kd×U)
 |(_,.lst xs)=>(kJ xs).map λa=>(.loc,.bl (a.all id))
 |_=>b6
noncomputable def N7:U->Bool
 |.str _=>cb
 |.int _=>cb
 |_=>cL
noncomputable def kK:List U->Option (List (Str×U))
 |[]=>a5 []
 |.tup [.str x,y]::us=>if N7 y=cb then(kK us).map ((x,y)::·) else b6
 |_::_=>b6
noncomputable def Ee:Kd×U->Option (Kd×U)
 |(_,.lst xs)=>(kK xs).bind λps=>if (ps.map (·.1)).Nodup then a5 (.own,.HE (ps.map (·.1)) (ps.map (·.2))) else b6
 |_=>b6
noncomputable def Ef:Kd×U->Option (Kd×U)
 |(_,.lst xs)=>(intsOf xs).map λns=>(.loc,.int ns.sum)
 |_=>b6
noncomputable def JJ(f:Bf)(rs:List (Kd×U)):Option (Kd×U):=match f with
 |.len=>fF (λx=>(D_ x.2).map λ(n:Nat)=>(Kd.loc,U.int (n:Int))) rs
 |.sorted=>fF Ea rs
 |.list=>fF Eb rs
 |.tuple=>fF Ec rs
 |.str=>fF Bh rs
 |.max=>we cL rs
 |.min=>we cb rs
 |.all=>fF Ed rs
 |.dict=>fF Ee rs
 |.sum=>fF Ef rs
 |_=>b6
noncomputable def ic:U->Option (List Str)
 |.lst xs=>(strsOf xs).bind λss=>if ss.length+1<IJ then a5 (aN ss) else b6
 |.tup xs=>(strsOf xs).bind λss=>if ss.length+1<IJ then a5 (aN ss) else b6
 |_=>b6
noncomputable def Eg:Kd×U->Option (Kd×U)
 |(k,.lst xs)=>if dw k xs=cb then a5 (.own,.lst xs.reverse) else b6
 |(k,.tup xs)=>if dw k xs=cb then a5 (.own,.lst xs.reverse) else b6
 |_=>b6
noncomputable def qe(f:B2)(rs:List (Kd×U)):Option (Kd×U):=match f with
 |.Lv=>b6
 |.JA=>fF Eg rs
 |.sset=>fF (λx=>(ic x.2).bind λss=>if ss.length<64 then a5 (.own,.lst ((aJ ss).map .str)) else b6) rs
 |.lH=>b6
noncomputable def lT:Mf->U->List (Kd×U)->Option (Kd×U)
 |.join,.str a,[(_,.lst xs)]=>(strsOf xs).bind λss=>if É a ss=cb then a5 (.loc,.str (TR a ss)) else b6
 |_,_,_=>b6
noncomputable def Hv:Kd×U->Option (List (Kd×U))
 |(k,.lst xs)=>a5 (xs.map λu=>(kE k,u))
 |(k,.tup xs)=>a5 (xs.map λu=>(kE k,u))
 |_=>b6
noncomputable def yf:Kd×U->Option (List (Kd×U))
 |(_,.int n)=>if n<2 ^ 62/\-(2 ^ 62)<n then a5 ((i1 n.toNat).map λi:Nat=>(Kd.loc,U.int (0+(i:Int)))) else b6
 |_=>b6
noncomputable def Eh:Kd×U->Option (List (Kd×U))
 |(k,.lst xs)=>a5 (xs.zipIdx.map λp=>(kE k,.tup [.int p.2,p.1]))
 |(k,.tup xs)=>a5 (xs.zipIdx.map λp=>(kE k,.tup [.int p.2,p.1]))
 |_=>b6
noncomputable def rT(d:List Str×List U):List (Kd×U):=(d.1.zip d.2).map λp=>(Kd.loc,U.tup [.str p.1,p.2])
noncomputable def Ei:Kd×U->Option (List (Kd×U))
 |(.own,.HE ks us)=>a5 (rT (ks,us))
 |_=>b6
noncomputable def JV(a:Ik)(rs:List (Kd×U)):Option (List (Kd×U)):=match a with
 |.seq=>fF Hv rs
 |.Jl=>fF yf rs
 |.Md=>fF Eh rs
 |.N2=>fF Ei rs
 |_=>b6
noncomputable def Bi(ps:List (Str×Int)):List (Str×Int):=(eF (ps.map (·.1))).map λi=>ps.getD i (r6,0)
noncomputable def wg(p:Str×Int):U:=.tup [.str p.1,.int p.2]
noncomputable def yg:U->Option (Kd×U)
 |.HE ks us=>(intsOf us).bind λns=>if ks.length<64/\ks.Nodup/\ks.length=ns.length then a5 (.own,.lst ((Bi (ks.zip ns)).map wg)) else b6
 |_=>b6
noncomputable def wj(ln:Bool)(a b:List Str):Option (Kd×U):=if a.length<64/\b.length<64 then a5 (if ln=cb then(.loc,.int ((a.filter λx=>df (x∉b)).length:Nat)) else(.own,.lst ((aJ (a.filter λx=>df (x∉b))).map .str))) else b6
noncomputable def wm:U->Option Bool
 |.bl b=>a5 b
 |.lst xs=>a5 !xs.isEmpty
 |.tup xs=>a5 !xs.isEmpty
 |.str x=>if x.length<=c6 then a5 ((x.length:Int) != 0) else b6
 |_=>b6
noncomputable def lift:Kd×U->M U
 |(.own,u)=>pure u
 |(.loc,u)=>pure u
 |(.any,u)=>if H_ u=cb then pure u else M.fail
 |(.bor j,_)=>λst=>match st[j]? with
  |some (a5 (.own,u))=>a5 (.ok u,st.set j (a5 (.loc,u)))
  |_=>b6
 |(.io,_)=>M.fail
 |(.G',_)=>M.fail
noncomputable def de:List (Kd×U)->M (List U)
 |[]=>pure []
 |r::rs=>do let u <-lift r;let us <-de rs;pure (u::us)
noncomputable def fq(i:Nat):Kd×U->M Unit
 |(.bor j,_)=>λst=>match st[j]? with
  |some (a5 (.own,u))=>a5 (.ok (),(st.set j (a5 (.loc,u))).set i (a5 (.loc,u)))
  |_=>b6
 |(.io,_)=>M.fail
 |(.G',_)=>M.fail
 |(k,u)=>λst=>a5 (.ok (),st.set i (a5 (k,u)))
def bp:List (Kd×U)->aw->Prop
 |[],_=>True
 |(.bor j,u)::rs,st=>(∃k:Kd,k.root=cb/\st[j]?=a5 (a5 (k,u)))/\bp rs st
 |_::rs,st=>bp rs st
open Classical in
noncomputable def aC(rs:List (Kd×U)):M Unit:=λst=>if bp rs st then a5 (.ok (),st) else b6
abbrev Tab:=Str->List U->Option (Ex (Kd×U))
noncomputable def kL(Γ:Tab)(f:Str)(us:List U):M (Kd×U):=λst=>match Γ f us with
 |some (.ok (.any,_))=>b6
 |none=>b6
 |some r=>a5 (r,st)
noncomputable def gK(rs:List (Kd×U))(p:Nat):Option Nat:=match rs[p]? with
 |some (.bor j,.lst us)=>if bU us=cb then a5 j else b6
 |_=>b6
noncomputable def yh(a:List (Option Nat)):Kd×U->Bool
 |(.bor j,_)=>df (a5 j∉a)
 |_=>cb
noncomputable def qf(rs:List (Kd×U))(is:List Nat):Bool:=is.all (λp=>(gK rs p).isSome)&&df ((is.map (gK rs)).Nodup)&&(i1 rs.length).all λq=>df (q∈is)||yh (is.map (gK rs)) (rs.getD q (.loc,.HH))
noncomputable def gp(rs:List (Kd×U)):List Nat->List U->aw->Option aw
 |[],[],st=>a5 st
 |p::is,w::ws,st=>match gK rs p with
  |some j=>match w,st[j]? with
   |.lst us,a5 (a5 (k,_))=>gp rs is ws (st.set j (a5 (k,.lst us)))
   |_,_=>b6
  |none=>b6
 |_,_,_=>b6
noncomputable def Sk:Kd×U->Option (Kd×U×List U)
 |(.own,.tup (u::ws))=>a5 (.own,u,ws)
 |(.loc,.tup (u::ws))=>a5 (.loc,u,ws)
 |_=>b6
noncomputable def dN(st:aw):Kd×U->Kd×U
 |(.bor j,u)=>(.bor j,match st[j]? with|some (a5 (k,u'))=>if k.root=cb then u' else u|_=>u)
 |r=>r
noncomputable def Bj(rs:List (Kd×U)):M (List (Kd×U)):=λst=>a5 (.ok (rs.map (dN st)),st)
noncomputable def qg(Γ:Tab)(f:Str)(rs:List (Kd×U))(is:List Nat):M (Kd×U):=λst=>match Γ f (rs.map (·.2)) with
 |some (.ok r)=>match Sk r with
  |some (k,u,ws)=>if qf rs is=cb then(match gp rs is ws st with|some st'=>a5 (.ok (k,u),st')|none=>b6) else b6
  |none=>b6
 |_=>b6
noncomputable def yi(i:Nat):M (Kd×U):=λst=>match st[i]? with
 |some (a5 (k,.lst us))=>if k.root=cb then(match us[us.length - 1]? with|some u=>a5 (.ok (.loc,u),st.set i (a5 (k,.lst us.dropLast)))|none=>b6) else b6
 |_=>b6
noncomputable def wo(i:Nat):U->M (Kd×U)
 |.int j=>λst=>match st[i]? with
  |some (a5 (k,.lst us))=>if k.root=cb/\0<=j/\j<1000000 then(match us[j.toNat]? with|some u=>a5 (.ok (.loc,u),st.set i (a5 (k,.lst (us.eraseIdx j.toNat))))|none=>b6) else b6
  |_=>b6
 |_=>M.fail
noncomputable def dg(i:Nat):M (Kd×U):=λst=>match st[i]? with
 |some (a5 (.G',_))=>b6
 |some (a5 (k,u))=>a5 (.ok (if k.root=cb then .bor i else k,u),st)
 |_=>b6
noncomputable def ie(i:Nat):M (List Str×List U):=λst=>match st[i]? with
 |some (a5 (.G',.HE ks us))=>a5 (.ok (ks,us),st)
 |_=>b6
noncomputable def jC(x:Kd×U):M Str:=match x.2 with
 |.str y=>pure y
 |_=>M.fail
noncomputable def Sl(neg:Bool)(y:Str)(ks:List Str):Bool:=if neg=cb then !df (y∈ks) else df (y∈ks)
noncomputable def yj(i:Nat):M (Kd×U):=λst=>match st[i]? with
 |some (a5 (.G',u))=>a5 (.ok (.bor i,u),st.set i (a5 (.own,u)))
 |_=>dg i st
noncomputable def CP(i:Nat):M Unit:=λst=>a5 (.ok (),st.set i (a5 (.G',.HE [] [])))
noncomputable def kM(i:Nat)(y:Str):Kd×U->M Unit
 |(.own,.lst us)=>λst=>match st[i]? with
  |some (a5 (.G',.HE ks vs))=>if y∉ks/\ks.length<c6 then a5 (.ok (),st.set i (a5 (.G',.HE (ks++[y]) (vs++[.lst us])))) else b6
  |_=>b6
 |_=>M.fail
noncomputable def jD:List Str->List U->Str->U->List U
 |k::ks,v::vs,y,u=>if k=y then u::vs else v::jD ks vs y u
 |_,vs,_,_=>vs
noncomputable def kN(i:Nat)(y:Str)(u:U):M Unit:=λst=>match st[i]? with
 |some (a5 (.G',.HE ks vs))=>match cE ks vs y with
  |some (.lst xs)=>if xs.length<c6 then a5 (.ok (),st.set i (a5 (.G',.HE ks (jD ks vs y (.lst (xs++[u])))))) else b6
  |_=>b6
 |_=>b6
noncomputable def Sm:U->M Unit
 |.HE _ _=>pure ()
 |_=>M.fail
noncomputable def Bl(x:Kd×U)(y:Str)(u:U):Option (Kd×U):=match x with
 |(k,.HE ks us)=>a5 (match cE ks us y with|some v=>(kE k,v)|none=>(.loc,u))
 |_=>b6
noncomputable def qh(i:Nat):M (List U):=λst=>match st[i]? with
 |some (a5 (k,.lst us))=>if k.root=cb then a5 (.ok us,st) else b6
 |_=>b6
noncomputable def wq(x:Kd×U):M Int:=match x.2 with
 |.int j=>pure j
 |_=>M.fail
noncomputable def qi(us:List U)(j:Int):Option Int:=if 0<=j then(match us[j.toNat]? with|some (.int o)=>a5 o|_=>b6) else b6
noncomputable def wt(sub:Bool)(o w:Int):Int:=if sub=cb then o - w else o+w
noncomputable def Hw:U->Option U
 |.lst us=>a5 (.lst us.reverse)
 |_=>b6
noncomputable def sets:List Nat->List (Kd×U)->M Unit
 |[],[]=>pure ()
 |i::is,r::rs=>do fq i r;sets is rs
 |_,_=>M.fail
noncomputable def dm(t:Bool)(is:List Nat)(r:Kd×U):M Unit:=match t,is,r with
 |false,[i],r=>fq i r
 |true,is,(k,.tup xs)=>sets is (xs.map λu=>(kE k,u))
 |_,_,_=>M.fail
noncomputable def inScope{α:Type}(k:Nat)(m:M α):M α:=λst=>match m (kj k b6++st) with
 |none=>b6
 |some (r,st')=>a5 (r,st'.drop k)
noncomputable def bX(k:Nat)(t:Bool)(cond:M Bool)(elt:M (Kd×U))(src:List (Kd×U)):List (Kd×U)->List U->M (List U)
 |[],acc=>do aC src;pure acc
 |x::xs,acc=>do
  aC src
  let r <-inScope k (dm t (i1 k) x >>= λ_=>cond >>= λb=>if b=cb then(elt >>= λr=>lift r >>= λu=>pure (a5 u)) else pure b6)
  match r with
  |some u=>if acc.length<c6 then bX k t cond elt src xs (acc++[u]) else M.fail
  |none=>bX k t cond elt src xs acc
noncomputable def qj:U->J4->Option Bool
 |.str _,T=>a5 (df (T=.str))
 |.int _,T=>a5 (df (T=.int))
 |.bl _,.bool=>a5 cb
 |.bl _,.int=>a5 cb
 |.lst _,T=>a5 (df (T=.list))
 |.tup _,T=>a5 (df (T=.tuple))
 |_,_=>b6
noncomputable def Hx:Kd×U->Option (Kd×U)
 |(_,.int i)=>a5 (.loc,.int (-i))
 |_=>b6
noncomputable def Ej(x:Kd×U):M (Option Int):=match x.2 with
 |.int i=>pure (a5 i)
 |_=>M.fail
noncomputable def Mg:U->M Unit
 |.lst _=>pure ()
 |_=>M.fail
section
variable(Γ:Tab)
mutual
noncomputable def ev:E->M (Kd×U)
 |.var i=>dg i
 |.cst u=>pure (.loc,u)
 |.N3 _ u=>pure (.loc,u)
 |.bin g a b=>do
  let x <-ev a
  let y <-ev b
  aC [x,y]
  M.H9 (KO g x y)
 |.cmp g a b=>do
  let x <-ev a
  let y <-ev b
  aC [x,y]
  let c <-M.H9 (bZ g x.2 y.2)
  pure (.loc,.bl c)
 |.Kt _ _ _ _ _=>M.fail
 |.and es=>ig es
 |.or _=>M.fail
 |.not a=>do
  let x <-ev a
  match x.2 with
  |.bl c=>pure (.loc,.bl !c)
  |_=>M.fail
 |.ite c a b=>do
  let p <-HX c
  if p=cb then ev a else ev b
 |.tup es=>do
  let rs <-bK es
  aC rs
  let us <-de rs
  if us.length<=c6 then pure (.loc,.tup us) else M.fail
 |.lst es=>do
  let rs <-bK es
  aC rs
  let us <-de rs
  if us.length<=c6 then pure (.own,.lst us) else M.fail
 |.JG r=>pure (.own,.HE [] [])
 |.idx a b=>do
  let x <-ev a
  let y <-ev b
  aC [x,y]
  M.H9 (d7 x y.2)
 |.KZ a lo hi=>do
  let x <-ev a
  let l <-Nf lo
  let h <-Nf hi
  aC [x]
  M.H9 (lS x l h)
 |.bi f es=>do
  let rs <-bK es
  aC rs
  M.H9 (JJ f rs)
 |.LN f es=>do
  let rs <-bK es
  aC rs
  M.H9 (qe f rs)
 |.MJ m a es=>do
  let x <-ev a
  let rs <-bK es
  aC (x::rs)
  M.H9 (lT m x.2 rs)
 |.call f es=>do
  let rs <-bK es
  aC rs
  kL Γ f (rs.map (·.2))
 |.comp k t j src cond e=>do
  let rs <-bK src
  aC rs
  let xs <-M.H9 (JV j rs)
  let us <-bX k t (bb cond) (ev e) rs xs []
  pure (.own,.lst us)
 |.neg a=>do
  let x <-ev a
  M.H9 (Hx x)
 |.bad=>M.fail
 |.inD _ _ _=>M.fail
 |.N4 i=>yj i
 |.Ku i k d=>do
  let x <-dg i
  Sm x.2
  let y <-ev k
  let y <-jC y
  let z <-ev d
  let u <-lift z
  let x <-dg i
  M.H9 (Bl x y u)
 |.N5 i=>do
  let x <-dg i
  M.H9 (yg x.2)
 |.HF f es is=>do
  let rs <-(bK es >>= Bj)
  aC rs
  qg Γ f rs is
 |.pop i=>yi i
 |.Kv i e=>do
  let x <-dg i
  Mg x.2
  let y <-ev e
  wo i y.2
 |.N6 ln a b=>do
  let x <-ev a
  let n <-M.H9 (ic x.2)
  let y <-ev b
  let o <-M.H9 (ic y.2)
  M.H9 (wj ln n o)
 |.fst es=>M.fail
 |.LO a T=>do
  let x <-ev a
  let b <-M.H9 (qj x.2 T)
  pure (.loc,.bl b)
noncomputable def bK:List E->M (List (Kd×U))
 |[]=>pure []
 |e::es=>do let r <-ev e;let rs <-bK es;pure (r::rs)
noncomputable def Nf:List E->M (Option Int)
 |[]=>pure b6
 |[e]=>do let x <-ev e;Ej x
 |_=>M.fail
noncomputable def ig:List E->M (Kd×U)
 |[]=>M.fail
 |[e]=>ev e
 |e::es=>do
  let x <-ev e
  match x.2 with
  |.bl cb=>ig es
  |.bl cL=>pure (.loc,.bl cL)
  |_=>M.fail
noncomputable def HX:E->M Bool
 |.and es=>bb es
 |.or es=>fG es
 |.not a=>do let b <-HX a;pure !b
 |.cmp e a b=>do
  let x <-ev a
  let y <-ev b
  aC [x,y]
  M.H9 (bZ e x.2 y.2)
 |.var i=>do let x <-dg i;M.H9 (wm x.2)
 |.bi f es=>do
  let rs <-bK es
  aC rs
  let r <-M.H9 (JJ f rs)
  M.H9 (wm r.2)
 |.call f es=>do
  let rs <-bK es
  aC rs
  let r <-kL Γ f (rs.map (·.2))
  M.H9 (wm r.2)
 |.Kt g o2 a b c=>do
  let x <-ev a
  let y <-ev b
  aC [x,y]
  let p <-M.H9 (bZ g x.2 y.2)
  if p=cb then do
   let z <-ev c
   aC [y,z]
   M.H9 (bZ o2 y.2 z.2)
  else pure cL
 |.inD neg a i=>do
  let x <-ev a
  let y <-jC x
  let d <-ie i
  pure (Sl neg y d.1)
 |.LO a T=>do
  let x <-ev a
  M.H9 (qj x.2 T)
 |_=>M.fail
noncomputable def bb:List E->M Bool
 |[]=>pure cb
 |[e]=>HX e
 |e::es=>do let b <-HX e;if b=cb then bb es else pure cL
noncomputable def fG:List E->M Bool
 |[]=>pure cL
 |[e]=>HX e
 |e::es=>do let b <-HX e;if b=cb then pure cb else fG es
end
inductive Fl where|nx|rt (k:Kd) (u:U)|bk|ct
noncomputable def retS:Kd×U->M Fl
 |(.own,u)=>pure (.rt .own u)
 |(.loc,u)=>pure (.rt .loc u)
 |(.any,u)=>if H_ u=cb then pure (.rt .loc u) else pure (.rt .any u)
 |(.bor j,_)=>λst=>match st[j]? with
  |some (a5 (.own,u))=>a5 (.ok (.rt .own u),st.set j b6)
  |_=>b6
 |(.io,_)=>M.fail
 |(.G',_)=>M.fail
noncomputable def forM(t:Bool)(is:List Nat)(body:M Fl)(src:List (Kd×U)):List (Kd×U)->M Fl
 |[]=>do aC src;pure .nx
 |x::xs=>do
  aC src
  dm t is x
  let f <-body
  match f with
  |.nx=>forM t is body src xs
  |.ct=>forM t is body src xs
  |.bk=>pure .nx
  |.rt k u=>pure (.rt k u)
noncomputable def eW(c:M Bool)(body:M Fl):Nat->M Fl
 |0=>M.fail
 |n+1=>do
  let b <-c
  if b=cb then do
   let f <-body
   match f with
   |.nx=>eW c body n
   |.ct=>eW c body n
   |.bk=>pure .nx
   |.rt k u=>pure (.rt k u)
  else pure .nx
noncomputable def modS(i:Nat)(f:U->Option U):M Unit:=λst=>match st[i]? with
 |some (a5 (k,u))=>if k.root=cb then match f u with
   |some u'=>a5 (.ok (),st.set i (a5 (k,u')))
   |none=>b6
  else b6
 |_=>b6
noncomputable def yk(u:U):U->Option U
 |.lst xs=>if xs.length<c6 then a5 (.lst (xs++[u])) else b6
 |_=>b6
noncomputable def kO:Kd×U->U->Option U
 |(k,.lst a),.lst xs=>if xs.length+a.length<=c6/\dw k a=cb then a5 (.lst (xs++a)) else b6
 |(k,.tup a),.lst xs=>if xs.length+a.length<=c6/\dw k a=cb then a5 (.lst (xs++a)) else b6
 |_,_=>b6
noncomputable def dy(x u:U):U->Option U
 |.HE ks vs=>match x with
  |.str y=>if ks.length<c6 then a5 (.HE (dput ks vs y u).1 (dput ks vs y u).2) else b6
  |_=>b6
 |.lst xs=>match x with
  |.int i=>(Lj xs.length i).map λj=>.lst (xs.set j u)
  |_=>b6
 |_=>b6
noncomputable def ub:List U->U->Option U
 |[u,x]=>dy x u
 |_=>λ_=>b6
noncomputable def fuel:Nat:=1000000000000
mutual
noncomputable def Mh:S->Nat->Bool
 |.set i _,j=>df (j≠i)
 |.K1 is _,j=>df (j∉is)
 |.ite _ a b,j=>Kw a j&&Kw b j
 |.Ia _ is _ _ body,j=>df (j∉is)&&Kw body j
 |.Lw _ body,j=>Kw body j
 |.put _ _ _,_=>cb
 |.app _ _,_=>cb
 |.ext _ _,_=>cb
 |.bad,_=>cb
 |.newD i,j=>df (j≠i)
 |.putD _ _ _,_=>cb
 |.J5 _ _ _,_=>cb
 |.aug _ _ _ _,_=>cb
 |.Ql _,_=>cb
 |.exp _,_=>cb
 |.ret _,_=>cb
 |.K2,_=>cb
 |.brk,_=>cb
 |.cnt,_=>cb
 |.Qm,_=>cb
 |.K3 _,_=>cb
noncomputable def Kw:List S->Nat->Bool
 |[],_=>cb
 |s::ss,j=>Mh s j&&Kw ss j
end
noncomputable def uc(rs:List (Kd×U))(is:List Nat)(body:List S):Bool:=rs.all λr=>match r.1 with
 |.bor j=>df (j∉is)&&Kw body j
 |_=>cb
mutual
noncomputable def exec:S->M Fl
 |.set i e=>do let r <-ev Γ e;fq i r;pure .nx
 |.K1 is e=>do let r <-ev Γ e;dm cb is r;pure .nx
 |.put i k v=>do
  let r <-ev Γ v
  let _ <-dg i
  let x <-ev Γ k
  let us <-de [r,x]
  modS i (ub us)
  pure .nx
 |.app i e=>do
  let x <-dg i
  Mg x.2
  let r <-ev Γ e
  let u <-lift r
  modS i (yk u)
  pure .nx
 |.ext i e=>do
  let x <-dg i
  Mg x.2
  let r <-ev Γ e
  modS i (kO r)
  pure .nx
 |.bad=>M.fail
 |.newD i=>do CP i;pure .nx
 |.putD i k v=>do
  let r <-ev Γ v
  let d <-ie i
  let x <-ev Γ k
  let y <-jC x
  kM i y r
  pure .nx
 |.J5 i k v=>do
  let _ <-ie i
  let x <-ev Γ k
  let y <-jC x
  let d <-ie i
  if y∈d.1 then do
   let r <-ev Γ v
   let u <-lift r
   kN i y u
   pure .nx
  else M.fail
 |.aug sub i k v=>do
  let _ <-qh i
  let y <-ev Γ k
  let j <-wq y
  let us <-qh i
  let o <-M.H9 (qi us j)
  let z <-ev Γ v
  let w <-wq z
  modS i (dy (.int j) (.int (wt sub o w)))
  pure .nx
 |.Ql i=>do
  modS i Hw
  pure .nx
 |.exp e=>do let _ <-ev Γ e;pure .nx
 |.ret e=>do let r <-ev Γ e;retS r
 |.K2=>pure (.rt .loc .HH)
 |.ite c a b=>do let p <-HX Γ c;if p=cb then execs a else execs b
 |.Ia t is f src body=>do
  let rs <-bK Γ src
  aC rs
  let xs <-M.H9 (JV f rs)
  if uc rs is body=cb then forM t is (execs body) rs xs else M.fail
 |.Lw c body=>eW (HX Γ c) (execs body) fuel
 |.brk=>pure .bk
 |.cnt=>pure .ct
 |.Qm=>pure .nx
 |.K3 _=>M.fail
noncomputable def execs:List S->M Fl
 |[]=>pure .nx
 |s::ss=>do
  let f <-exec s
  match f with
  |.nx=>execs ss
  |f=>pure f
end
end
structure Fn where
 name:Str
 np:Nat
 ns:Nat
 body:List S
noncomputable def start(us:List U)(n:Nat):aw:=us.map (λu=>a5 (if H_ u=cb then Kd.loc else Kd.any,u))++kj (n - us.length) b6
noncomputable def cR(Γ:Tab)(fn:Fn)(us:List U):Option (Ex (Kd×U)):=if us.length=fn.np then match execs Γ fn.body (start us fn.ns) with
  |some (.ok (.rt .own u),_)=>a5 (.ok (.own,u))
  |some (.ok (.rt .loc u),_)=>a5 (.ok (.loc,u))
  |some (.ok (.rt .any u),_)=>a5 (.ok (.any,u))
  |some (.ok .nx,_)=>a5 (.ok (.loc,.HH))
  |some (.exc c,_)=>a5 (.exc c)
  |_=>b6
 else b6
noncomputable def cM(is:List Nat)(us:List U)(n:Nat):aw:=(us.zipIdx.map λp=>a5 (if p.2∈is then Kd.io else if H_ p.1=cb then Kd.loc else Kd.any,p.1))++kj (n - us.length) b6
noncomputable def Ng:List Nat->aw->Option (List U)
 |[],_=>a5 []
 |i::is,st=>match st[i]? with
  |some (a5 (.io,u))=>(Ng is st).map (u::·)
  |_=>b6
noncomputable def Qn:Fl->Option (Kd×U)
 |.rt .own u=>a5 (.own,u)
 |.rt .loc u=>a5 (.loc,u)
 |.nx=>a5 (.loc,.HH)
 |_=>b6
noncomputable def ft(Γ:Tab)(fn:Fn)(is:List Nat)(body:List S)(us:List U):Option (Ex (Kd×U)):=if us.length=fn.np then match execs Γ body (cM is us fn.ns) with
  |some (.ok f,st)=>(Qn f).bind λr=>(Ng is st).map λws=>.ok (r.1,.tup (r.2::ws))
  |_=>b6
 else b6
noncomputable def Fn.io(fn:Fn):Option (List Nat×List S):=match fn.body with
 |.K3 is::body=>a5 (is,body)
 |_=>b6
noncomputable def iV(Γ:Tab)(fn:Fn)(us:List U):Option (Ex (Kd×U)):=match fn.io with
 |some (is,body)=>ft Γ fn is body us
 |none=>cR Γ fn us
noncomputable def HW(P:List Fn):Nat->Tab
 |0=>λ_ _=>b6
 |d+1=>λf us=>match P.find? λfn=>df (fn.name=f) with
  |some fn=>iV (HW P d) fn us
  |none=>b6
end TM
namespace TM
open PySem L2
section
variable{X:Cx}{pins:List (hH×Obj)}{σ:St}{H:Hp}{s:gj}{C:Ct}{S:hH->Prop}
theorem ud(I:Inv X pins σ H s)(h:Ij X.K H a vs):∃its:List dt,Vals vs its/\s.heap.IsList a its.toArray/\vs.length<=c6:=by
 obtain⟨its,r,p,z⟩:=I.list h;exact⟨its,r,p.isList,z⟩
inductive Iz(s:gj):Nat->U->dt->Prop where
 |HH {n:Nat}:Iz s n .HH .none
 |bl {n:Nat} {b:Bool}:Iz s n (.bl b) (.bool b)
 |int {n:Nat} {i:Int} {t:Tok}:Iz s n (.int i) (.int i t)
 |str {n:Nat} {y:Str} {t:Tok}:Iz s n (.str y) (.str y t)
 |tup {n:Nat} {us:List U} {its:List dt} {a:hH}:us.length=its.length->(∀j (hj:j<its.length),Iz s n (us.getD j .HH) its[j])->cw us us=cb->s.heap.IsTuple a its.toArray->Iz s (n+1) (.tup us) (.ref a)
 |lst {n:Nat} {us:List U} {its:List dt} {a:hH}:us.length=its.length->(∀j (hj:j<its.length),Iz s n (us.getD j .HH) its[j])->cw us us=cb->s.heap.IsList a its.toArray->Iz s (n+1) (.lst us) (.ref a)
theorem Iz.self(h:Iz s n u x):bV u u=cb:=by
 cases h<;>first|assumption|simp[bV]
theorem Iz.wu(f:∀u v x,IM n u=cb->Rep C S H u v->RelV v x->Iz s n u x):∀{us:List U}{vs:List V}{its:List dt},cX n us=cb->aj C S H us vs->Vals vs its->us.length=its.length/\(∀j (a:j<its.length),Iz s n (us.getD j .HH) its[j])/\cw us us=cb
 |[],_,_,_,h,r=>by cases h;cases r;exact⟨rfl,λj a=>(nomatch a),rfl⟩
 |u::us,_,_,e,h,r=>by
  obtain⟨v,vs,rfl,b,d⟩:=h;simp only[cX,c4]at e;cases r with
  |cons c g =>
   obtain⟨l,k,y⟩:=Iz.wu f e.2 d g;refine⟨by simp[l],λj a=>?_,by rw[cw,(f _ _ _ e.1 b c).self,y];rfl⟩;cases j with
   |zero=>exact f _ _ _ e.1 b c
   |succ j=>exact k j (by simpa using a)
theorem Iz.of(I:Inv X pins σ H s)(d:C.K=X.K):∀(n:Nat) (u:U) (v:V) (x:dt),IM n u=cb->Rep C S H u v->RelV v x->Iz s n u x:=by
 intro n;induction n with
 |zero=>intro u v x e h r;cases u<;>first|(simp[IM]at e;done)|(simp only[Rep]at h;subst h;first|(cases r;constructor)|(obtain⟨t,rfl⟩:=r;constructor))
 |succ n f =>
  intro u v x e h r;cases u with
  |tup us =>
   obtain⟨a,vs,rfl,b,c⟩:=h;cases r;obtain⟨its,rv,p,_⟩:=I.tuple (d▸b);obtain⟨l,k,y⟩:=Iz.wu f (by simpa[IM] using e) c rv;exact .tup l k y p
  |lst us =>
   obtain⟨a,vs,rfl,b,c⟩:=h;cases r;obtain⟨its,rv,p,_⟩:=ud I (d▸b.sq);obtain⟨l,k,y⟩:=Iz.wu f (by simpa[IM] using e) c rv;exact .lst l k y p
  |_=>first|(simp[IM]at e;done)|(simp only[Rep]at h;subst h;first|(cases r;constructor)|(obtain⟨t,rfl⟩:=r;constructor))
theorem Iz.inj:∀{n:Nat}{u w:U}{x:dt},Iz s n u x->Iz s n w x->u=w:=by
 intro n;induction n with
 |zero=>intro u w x h h';cases h<;>cases h'<;>rfl
 |succ n q =>
  have go:∀{us ws:List U} {its its':List dt} {a:hH} {o o':Obj} {m g:Nat},us.length=its.length->(∀j (r:j<its.length),Iz s n (us.getD j .HH) its[j])->ws.length=its'.length->(∀j (r:j<its'.length),Iz s n (ws.getD j .HH) its'[j])->s.heap.get? a=a5 o->o.data=.seq its.toArray m->s.heap.get? a=a5 o'->o'.data=.seq its'.toArray g->us=ws:=by
   intro us ws its its' a o o' m g l k c k' e d f d';rw[e]at f;cases f;rw[d]at d';injection d' with t _
   have:its=its':=by simpa using Ą Yf t
   subst this;refine LU ⋯ λj v z=>?_;have:=q (k j ⋯) (k' j ⋯);simpa[v,z] using this
  intro u w x h h';cases h with
  |tup l k y p =>
   cases h' with
   |tup c k' i b=>obtain⟨o,e,_,m,d⟩:=p;obtain⟨o',f,_,g,d'⟩:=b;rw[go l k c k' e d f d']
   |lst c k' i b=>exact absurd rfl (X8 b p)
  |lst l k y p =>
   cases h' with
   |lst c k' i b=>obtain⟨o,e,_,m,d⟩:=p;obtain⟨o',f,_,g,d'⟩:=b;rw[go l k c k' e d f d']
   |tup c k' i b=>exact absurd rfl (X8 p b)
  |_=>cases h';rfl
theorem iW:∀{us ws:List U},us.length≠ws.length->cw us ws=cL
 |[],[],h=>absurd rfl h
 |[],_::_,_=>rfl
 |_::_,[],_=>rfl
 |u::us,w::ws,h=>by
  rw[cw,iW (us:=us) (ws:=ws) (λe=>h (by simp[e])),Rn]
theorem fH:∀{us ws:List U},us.length=ws.length->cw us ws=(i1 us.length).all λj=>bV (us.getD j .HH) (ws.getD j .HH)
 |[],[],_=>rfl
 |[],_::_,h=>by simp at h
 |_::_,[],h=>by simp at h
 |u::us,w::ws,h=>by
  have h':us.length=ws.length:=by simpa using h
  rw[cw,fH h',ko,List.range_succ_eq_map,Ï,Yx];rfl
theorem FY{its its':List dt}(b:us.length=its.length)(c:ws.length=its'.length):cw us ws=((i1 (min its.toArray.size its'.toArray.size)).all (λj=>bV (us.getD j .HH) (ws.getD j .HH))&&its.toArray.size==its'.toArray.size):=by
 simp only[hU];by_cases a:us.length=ws.length
 ·rw[fH a,show min its.length its'.length=us.length by lia,show(its.length==its'.length)=cb by simp;lia,X5]
 ·rw[iW a,show(its.length==its'.length)=cL by simp;lia,Rn]
theorem ue(b:Iz s n u y)(h:Y5 A s y x k)(hs:y=x->k=cb):Sr A s y x k:=λprog w E Q a=>by
 unfold eqBool;refine ri ?_;refine ì (λc=>?_) (λ_=>?_)
 ·rw[hs (eq_of_beq c)]at a;exact bD (LK (c2 a))
 ·cases b<;>exact bD (h prog w E _ (JH a))
theorem Sn(q:∀m,m+1=n->∀{u w:U}{x f:dt}{A:MY},Iz s m u x->Iz s m w f->A.units+m<Ml->Sr A s x f (bV u w))(h:Iz s n u x)(h':Iz s n w f)(t:A.units+n<Ml):Y5 A s x f (bV u w)/\È A s x f (!bV u w):=by
 have a:A.units<Ml:=by lia
 have go:∀{m:Nat} {us ws:List U} {its its':List dt},m+1=n->(∀j (r:j<its.length),Iz s m (us.getD j .HH) its[j])->(∀j (r:j<its'.length),Iz s m (ws.getD j .HH) its'[j])->∀j (g:j<its.toArray.size) (i:j<its'.toArray.size),Sr A.in1 s its.toArray[j] its'.toArray[j] (bV (us.getD j .HH) (ws.getD j .HH)):=λ{m us ws its its'} e k k' j g i=>q m e (k j g) (k' j i) (by show A.units+1+m < _;lia);cases h with
 |HH =>
  cases h' with
  |HH=>exact⟨.none_none,.none_none⟩
  |bl=>exact⟨.none_bool _,.none_bool _⟩
  |int=>exact⟨.none_int _ _,.none_int _ _⟩
  |str=>exact⟨.none_str _ _,.none_str _ _⟩
  |tup c k' d b=>exact⟨.none_tuple b a,.none_tuple b a⟩
  |lst c k' d b=>exact⟨.none_list b a,.none_list b a⟩
 |bl =>
  cases h' with
  |HH=>exact⟨.bool_none _,.bool_none _⟩
  |bl=>exact⟨.bool_bool _ _,.bool_bool _ _⟩
  |int=>exact⟨.bool_int _ _ _,.bool_int _ _ _⟩
  |str=>exact⟨.bool_str _ _ _,.bool_str _ _ _⟩
  |tup c k' d b=>exact⟨.bool_tuple _ b a,.bool_tuple _ b a⟩
  |lst c k' d b=>exact⟨.bool_list _ b a,.bool_list _ b a⟩
 |int =>
  cases h' with
  |HH=>exact⟨.int_none _ _,.int_none _ _⟩
  |bl=>exact⟨.int_bool _ _ _,.int_bool _ _ _⟩
  |int=>exact⟨.int_int _ _ _ _,.int_int _ _ _ _⟩
  |str=>exact⟨.int_str _ _ _ _,.int_str _ _ _ _⟩
  |tup c k' d b=>exact⟨.int_tuple _ _ b a,.int_tuple _ _ b a⟩
  |lst c k' d b=>exact⟨.int_list _ _ b a,.int_list _ _ b a⟩
 |str =>
  cases h' with
  |HH=>exact⟨.str_none _ _,.str_none _ _⟩
  |bl=>exact⟨.str_bool _ _ _,.str_bool _ _ _⟩
  |int=>exact⟨.str_int _ _ _ _,.str_int _ _ _ _⟩
  |str=>exact⟨.str_str _ _ _ _,.str_str _ _ _ _⟩
  |tup c k' d b=>exact⟨.str_tuple _ _ b a,.str_tuple _ _ b a⟩
  |lst c k' d b=>exact⟨.str_list _ _ b a,.str_list _ _ b a⟩
 |tup l k y p =>
  cases h' with
  |HH=>exact⟨.tuple_none p a,.tuple_none p a⟩
  |bl=>exact⟨.tuple_bool _ p a,.tuple_bool _ p a⟩
  |int=>exact⟨.tuple_int _ _ p a,.tuple_int _ _ p a⟩
  |str=>exact⟨.tuple_str _ _ p a,.tuple_str _ _ p a⟩
  |tup c k' d b=>rw[show bV (.tup _) (.tup _)=_ from FY l c];exact⟨.tuples p b a (go rfl k k'),.tuples p b a (go rfl k k')⟩
  |lst c k' d b=>exact⟨.tuple_list p b a,.tuple_list p b a⟩
 |lst l k y p =>
  cases h' with
  |HH=>exact⟨.list_none p a,.list_none p a⟩
  |bl=>exact⟨.list_bool _ p a,.list_bool _ p a⟩
  |int=>exact⟨.list_int _ _ p a,.list_int _ _ p a⟩
  |str=>exact⟨.list_str _ _ p a,.list_str _ _ p a⟩
  |tup c k' d b=>exact⟨.list_tuple p b a,.list_tuple p b a⟩
  |lst c k' d b =>
   rename_i us _ _ ws _ _;by_cases o:us.length=ws.length
   ·rw[show bV (.lst us) (.lst ws)=_ from fH o,l,<-hU];exact⟨.lists p b (by simp;lia) a (go rfl k k'),.lists p b (by simp;lia) a (go rfl k k')⟩
   ·rw[show bV (.lst us) (.lst ws)=cL from iW o];exact⟨.lists_lengths p b (by simp;lia) a,.lists_lengths p b (by simp;lia) a⟩
theorem FZ:∀{n:Nat}{u w:U}{x a:dt}{A:MY},Iz s n u x->Iz s n w a->A.units+n<Ml->Sr A s x a (bV u w):=by
 intro n;induction n with
 |zero=>intro u w x a A h h' b;exact ue h (Sn (λm e=>by cases e) h h' b).1 λe=>by subst e;rw[h.inj h'];exact h'.self
 |succ n c=>intro u w x a A h h' b;exact ue h (Sn (λm e=>by cases e;exact c) h h' b).1 λe=>by subst e;rw[h.inj h'];exact h'.self
theorem F0(h:Iz s n u x)(h':Iz s n w a)(b:A.units+n<Ml):Y5 A s x a (bV u w)/\È A s x a (!bV u w):=Sn (λm e=>by cases e;exact FZ) h h' b
end
end TM
namespace TM
open PySem L2 PyProof.Rows
def HK(C:Ct)(m:M (Kd×U)):TE:=λσ H Q=>∃a:Cf,a.σ=σ/\a.H=H/\Ok C a/\W m a.st λr st'=>∀c v,c.σ=σ->c.st=st'->Ok C c->Nx a c->aL C a c r.1 r.2 v->Q v c.H
def Jm(C:Ct)(m:M Bool):TT:=λσ H Q=>∃a:Cf,a.σ=σ/\a.H=H/\Ok C a/\W m a.st λb st'=>∀c,c.σ=σ->c.st=st'->Ok C c->Nx a c->Q b c.H
def cO(C:Ct)(a c:Cf):List (Kd×U)->List V->Prop
 |[],vs=>vs=[]
 |r::rs,vs=>∃v t,vs=v::t/\fE C a c r.1 r.2 v/\cO C a c rs t/\(r.1=.own->∀(i:Nat) b d,rs[i]?=a5 b->t[i]?=a5 d->b.1=.own->d≠v)
def Jr(C:Ct)(m:M (List (Kd×U))):TA:=λσ H Q=>∃a:Cf,a.σ=σ/\a.H=H/\Ok C a/\W m a.st λrs st'=>∀c vs,c.σ=σ->c.st=st'->Ok C c->Nx a c->cO C a c rs vs->Q vs c.H
section
theorem PE.weak(h:PE X e t)(i:∀σ H Q,t' σ H Q->t σ H Q):PE X e t':=λpins s σ H Q I q=>h pins s σ H Q I (i σ H Q q)
theorem PT.weak(h:PT X e t)(i:∀σ H Q,t' σ H Q->t σ H Q):PT X e t':=λpins s σ H Q I q=>h pins s σ H Q I (i σ H Q q)
theorem bY{st:aw}:W (aC rs) st Q↔bp rs st/\Q () st:=by
 constructor
 ·rintro⟨a,st',e,h⟩;unfold aC at e;split at e
  ·cases e;exact⟨by assumption,h⟩
  ·cases e
 ·rintro⟨b,c⟩;exact⟨(),st,by unfold aC;rw[ÿ b],c⟩
theorem dA{st:aw}:bp (r::rs) st↔bp [r] st/\bp rs st:=by
 obtain⟨k,u⟩:=r;cases k<;>simp[bp]
theorem fE.t(h:fE C a c k u v)(s:bp [(k,u)] c.st):aL C a c k u v:=by
 cases k with
 |bor j=>exact⟨s.1,h⟩
 |_=>exact h
structure N8(C:Ct)(c0 c:Cf)(x y:Kd×U)(vx vy:V):Prop where
 hσ:c.σ=c0.σ
 ok:Ok C c
 nx:Nx c0 c
 rx:aL C c0 c x.1 x.2 vx
 ry:aL C c0 c y.1 y.2 vy
 ne:x.1=.own->y.1=.own->vy≠vx
theorem kP(h:fE C j b k u v)(h':fE C b c k' u' d):k=.own->k'=.own->d≠v:=by
 rintro rfl rfl e;obtain⟨r,f,_,_,_,g⟩:=h;obtain⟨l,i,a,_⟩:=h';obtain⟨o,ho,_⟩:=g.some;subst f;rw[i]at e;cases e;rw[ho]at a;cases a
theorem two{k:Kd×U->Kd×U->M β}{n:β->aw->Prop}{f:dt->dt->Sem α}{Q':dt->dt->α->gj->Prop}(O:PE X a (HK C Q))(T:PE X b (HK C B))(I:Inv X pins d.σ d.H s)(Y:Ok C d)
  (h:W (Q >>= λx=>B >>= λy=>aC [x,y] >>= λ_=>k x y) d.st n)
  (hf:∀x y c g j v u s2,N8 C d c x y g j->Inv X pins c.σ c.H s2->RelV g v->RelV j u->W (k x y) c.st n->et (hE X.prog X.w) X.A (f v u) (Q' v u) X.xe s2) :
  et (hE X.prog X.w) X.A (H0 a X.env) (λv s₁=>et (hE X.prog X.w) X.A (H0 b X.env) (λu s₂=>et (hE X.prog X.w) X.A (f v u) (Q' v u) X.xe s₂) X.xe s₁) X.xe s:=by
 rw[af]at h;refine HJ (O pins s d.σ d.H (λg D=>∃x e,e.H=D/\e.σ=d.σ/\Ok C e/\Nx d e/\aL C d e x.1 x.2 g/\W (B >>= λy=>aC [x,y] >>= λ_=>k x y) e.st n) I ⟨d,rfl,rfl,Y,h.mono λx st1 o e g p e2 q r z=>⟨x,e,rfl,p,q,r,z,by rw[e2];exact o⟩⟩) ?_;rintro v s1 ⟨g,D,I1,rv,x,e,rfl,p,q,r,z,o⟩;rw[af]at o;refine HJ (T pins s1 d.σ e.H (λj G=>∃y i,i.H=G/\N8 C d i x y g j/\W (k x y) i.st n) I1 ⟨e,p,rfl,q,o.mono λy st2 l i j J e4 Ie L N=>?_⟩) ?_
 ·rw[af,bY]at l;subst e4;rw[dA]at l;exact⟨y,i,rfl,⟨J,Ie,r.trans L,(z.w.on q L (J.trans p.symm)).t l.1.1,(N.from r),kP z.w N.w⟩,l.2⟩
 ·rintro u s2 ⟨j,G,I2,ru,y,i,rfl,m,l⟩;have hs:i.σ=d.σ:=m.hσ;exact hf x y i g j v u s2 m (by rw[hs];exact I2) rv ru l
structure MK(C:Ct)(c0 c:Cf)(x:Kd×U)(vx:V):Prop where
 hσ:c.σ=c0.σ
 ok:Ok C c
 nx:Nx c0 c
 rx:aL C c0 c x.1 x.2 vx
theorem one{k:Kd×U->M β}{g:β->aw->Prop}{f:dt->Sem α}{Q':α->gj->Prop}(m:PE X a (HK C n))(I:Inv X pins b.σ b.H s)(o:Ok C b)
  (h:W (n >>= λx=>k x) b.st g)
  (p:∀x c d v s2,MK C b c x d->Inv X pins c.σ c.H s2->RelV d v->W (k x) c.st g->et (hE X.prog X.w) X.A (f v) Q' X.xe s2) :
  et (hE X.prog X.w) X.A (H0 a X.env) (λv q=>et (hE X.prog X.w) X.A (f v) Q' X.xe q) X.xe s:=by
 rw[af]at h;refine HJ (m pins s b.σ b.H (λd j=>∃x e,e.H=j/\MK C b e x d/\W (k x) e.st g) I ⟨b,rfl,rfl,o,h.mono λx st1 i e d r t u y z=>⟨x,e,rfl,⟨r,u,y,z⟩,by rw[t];exact i⟩⟩) ?_;rintro v s1 ⟨d,j,B,rv,x,e,rfl,l,i⟩;exact p x e d v s1 l (by rw[l.hσ];exact B) rv i
def cp(C:Ct)(a:Cf)(Q:VK)(r:Kd×U)(st':aw):Prop:=∀c v,c.σ=a.σ->c.st=st'->Ok C c->Nx a c->aL C a c r.1 r.2 v->Q v c.H
section
theorem cp.flat(h:cp C a Q (.loc,u) c.st)(b:c.σ=a.σ)(d:Ok C c)(n:Nx a c)(r:Rep C c.S c.H u v):Q v c.H:=h c v b rfl d n r
theorem cp.list(h:cp C a Q (.own,.lst us) c.st)(b:c.σ=a.σ)(d:Ok C c)(n:Nx a c)(r:aj C c.S c.H us vs)(p:hH)(e:c.H p=b6):Q (.ref p) (upd c.H p (.lst vs)):=by
 obtain⟨f,g,i⟩:=d.newList n e r;exact h {c with H:=upd c.H p (.lst vs)} _ b rfl f g i
theorem cp.tup(h:cp C a Q (.loc,.tup us) c.st)(b:c.σ=a.σ)(d:Ok C c)(n:Nx a c)(r:aj C c.S c.H us vs)(p:hH)(e:c.H p=b6):Q (.ref p) (upd c.H p (.tup vs)):=by
 obtain⟨f,g,i⟩:=d.D9 n e r;exact h {c with H:=upd c.H p (.tup vs)} _ b rfl f g i
theorem cp.tupK(h:cp C d Q (kE k,.tup us) c.st)(e:c.σ=d.σ)(a:Ok C c)(n:Nx d c)(r:aj C (SK C c k) c.H us vs)(p:hH)(f:c.H p=b6):Q (.ref p) (upd c.H p (.tup vs)):=by
 obtain⟨g,b⟩:=a.lay (o:=.tup vs) f;refine h {c with H:=upd c.H p (.tup vs)} _ e rfl g (n.trans b) (aL.item ?_);cases k<;>exact⟨p,vs,rfl,Im.of az,by first|exact r.mv (a.Mb b)|exact r.mv (a.mv b)⟩
theorem cF(h:dw k us=cb)(r:aj C (SK C c k) c.H us vs):aj C c.S c.H us vs:=by
 cases k with
 |any=>exact r.H_ (by simpa[dw,isAny] using h)
 |_=>exact r
end
theorem Ek(k k':Kd):∀a,SK C c k a->SK C c (kT k k') a:=by
 intro a h;cases k<;>cases k'<;>first|exact h|exact .inr h
theorem Bm(k k':Kd):∀a,SK C c k' a->SK C c (kT k k') a:=by
 intro a h;cases k<;>cases k'<;>first|exact h|exact .inr h
theorem F2(k k':Kd):kE (kT k k')=kT k k':=by cases k<;>cases k'<;>rfl
theorem Bn:JB X (Ow .Add) (λx y H Q=>∃l b xs zs,x=.ref l/\y=.ref b/\Ij X.K H l xs/\Ij X.K H b zs/\xs.length+zs.length<=c6/\∀p,H p=b6->Q (.ref p) (upd H p (.lst (xs++zs)))):=by
 intro pins s σ H x y v u Q I j k h;obtain⟨l,b,xs,zs,rfl,rfl,m,o,hz,q⟩:=h;cases j;cases k;obtain⟨its,r,pl,z⟩:=I.list m;obtain⟨c,d,t,J⟩:=I.list o;have hl:=r.length;have L:=d.length;obtain⟨⟨cls,w,data,A⟩,ho,e,n,f⟩:=pl.isList;obtain⟨⟨N,B,data2,C⟩,g,i,D,a⟩:=t.isList;simp only at e f i a;subst e f i a;refine Ws ⟨_,ho,rfl⟩ ⟨_,g,rfl⟩ noFill_list_add seq_list_add PySem.F.slot_list_add PySem.F.entry_list_add (PySem.F.args_list_add_2 _ _)
   (list_addW l b its.toArray c.toArray n D w B A C (by rw[hU,hU];lia)) ⟨ho,g,?_⟩
 have G:its.toArray++c.toArray=(its++c).toArray:=by simp
 rw[G];exact⟨.ref _,_,I.Hq (t':=s.toks) (r.append d) (by rw[hY];lia),rfl,q _ I.fresh⟩
end
section
variable{X:Cx}{C:Ct}{pins:List (hH×Obj)}{s:gj}{c0 c:Cf}{Q:VK}
theorem yl:JB X (Ow .Add) (λx y H Q=>∃a b e,x=.ref a/\y=.ref b/\Im X.K H a []/\Im X.K H b e/\Q (.ref b) H):=by
 intro pins s σ H x y v u Q I k l h;obtain⟨a,b,e,rfl,rfl,m,o,q⟩:=h;cases k;cases l;obtain⟨its,p,r,_⟩:=I.tuple m;obtain⟨t,G,p2,_⟩:=I.tuple o;cases p;obtain⟨⟨cls,w,data,z⟩,ho,f,n,g⟩:=id r;obtain⟨⟨J,A,data2,B⟩,i,j,D,d⟩:=id p2;simp only at f g j d;subst f g j d;exact Ws ⟨_,ho,rfl⟩ ⟨_,i,rfl⟩ XF Y4 PySem.F.slot_tuple_add PySem.F.entry_tuple_add (PySem.F.args_tuple_add_2 _ _)
   (tuple_addW0 a b _ t.toArray n D w A z B (by rfl)) ⟨ho,i,.ref b,H,I,rfl,q⟩
noncomputable def Qk.op:Qk->ú
 |.add=>.Add|.sub=>.Sub|.mul=>.Mult|.Nc=>.FloorDiv|.mod=>.Mod|.pow=>.Pow
theorem eG(h:rS f a b=a5 r):∃i j o,a=.int i/\b=.int j/\f i j=a5 o/\r=(.loc,.int o):=by
 unfold rS at h;split at h
 ·rw[fS]at h;obtain⟨o,e,rfl⟩:=h;exact⟨_,_,o,rfl,rfl,e,rfl⟩
 ·cases h
theorem El(Y:C.K=X.K)(t:N8 C c0 c x y g l)(I:Inv X pins c.σ c.H s)(z:RelV g v)(B:RelV l u)(h:KO op x y=a5 r)(q:cp C c0 Q r c.st):
  et (hE X.prog X.w) X.A (Ow op.op v u) (EP X pins c.σ Q) X.xe s:=by
 obtain⟨m,d,n,D,G,_⟩:=t;cases op with
 |add =>
  have h:ye x y=a5 r:=h;unfold ye at h;split at h
  ·have ex:=D.int d;have e:=G.int d;cases h;exact bW pins s c.σ c.H g l v u Q I z B ⟨_,_,ex,e,q.flat m d n rfl⟩
  ·have ex:=D.str d;have e:=G.str d;split at h
   ·cases h;exact rq pins s c.σ c.H g l v u Q I z B ⟨_,_,ex,e,by assumption,q.flat m d n rfl⟩
   ·cases h
  ·obtain⟨a,vs,ex,O,J⟩:=D.list d;obtain⟨b,ws,e,T,L⟩:=G.list d;split at h
   ·rename_i N;cases h;exact Bn pins s c.σ c.H g l v u Q I z B ⟨a,b,vs,ws,ex,e,Y▸O,Y▸T,by rw[<-J.len,<-L.len];exact N.1,λp hp=>q.list m d n ((cF N.2.1 J).append (cF N.2.2 L)) p hp⟩
   ·cases h
  ·rename_i k xs k' ys _ _;obtain⟨a,vs,ex,O,J⟩:=D.tuple d;obtain⟨b,ws,e,T,L⟩:=G.tuple d;have K4:=O;have NT:=T;rw[Y]at K4 NT;split at h
   ·rename_i N;cases h;have m1:aj C (SK C c (kT k k')) c.H xs vs:=J.mv (.up (Ek k k'));have m2:aj C (SK C c (kT k k')) c.H ys ws:=L.mv (.up (Bm k k'));have q':cp C c0 Q (kE (kT k k'),.tup (xs++ys)) c.st:=by rw[F2];exact q
    by_cases e1:vs=[]
    ·subst e1;refine yl pins s c.σ c.H g l v u Q I z B ⟨a,b,ws,ex,e,K4,NT,?_⟩;refine q' c (.ref b) m rfl d n (aL.item ⟨b,ws,rfl,T,?_⟩);have:xs=[]:=by have:=m1.len;simpa using this
     rw[this];exact m2
    ·refine AK pins s c.σ c.H g l v u Q I z B ⟨a,b,vs,ws,ex,e,K4,NT,e1,by rw[<-J.len,<-L.len];exact N,λe2=>?_,λ_ p hp=>q'.tupK m d n (m1.append m2) p hp⟩;subst e2;refine q' c (.ref a) m rfl d n (aL.item ⟨a,vs,rfl,O,?_⟩);have:ys=[]:=by have:=m2.len;simpa using this
     rw[this,uk];exact m1
   ·cases h
  ·cases h
 |sub =>
  obtain⟨i,j,o,ex,e,f,rfl⟩:=eG h;have ex:=(ex▸D).int d;have e:=(e▸G).int d;cases f;exact jZ pins s c.σ c.H g l v u Q I z B ⟨_,_,ex,e,q.flat m d n rfl⟩
 |mul =>
  obtain⟨i,j,o,ex,e,f,rfl⟩:=eG h;have ex:=(ex▸D).int d;have e:=(e▸G).int d;unfold Ba at f;split at f
  ·cases f;exact j3 pins s c.σ c.H g l v u Q I z B ⟨_,_,ex,e,by assumption,q.flat m d n rfl⟩
  ·cases f
 |Nc =>
  obtain⟨i,j,o,ex,e,f,rfl⟩:=eG h;have ex:=(ex▸D).int d;have e:=(e▸G).int d;unfold Bb at f;split at f
  ·cases f;exact AD pins s c.σ c.H g l v u Q I z B ⟨_,_,ex,e,by assumption,q.flat m d n rfl⟩
  ·cases f
 |mod =>
  obtain⟨i,j,o,ex,e,f,rfl⟩:=eG h;have ex:=(ex▸D).int d;have e:=(e▸G).int d;unfold Bc at f;split at f
  ·cases f;exact dZ pins s c.σ c.H g l v u Q I z B ⟨_,_,ex,e,by assumption,q.flat m d n rfl⟩
  ·cases f
 |pow =>
  obtain⟨i,j,o,ex,e,f,rfl⟩:=eG h;have ex:=(ex▸D).int d;have e:=(e▸G).int d;unfold Bd at f;split at f
  ·cases f;exact nN pins s c.σ c.H g l v u Q I z B ⟨_,_,ex,e,by assumption,q.flat m d n rfl⟩
  ·cases f
theorem Bo(d:C.K=X.K)(f:PE X a (HK C g))(i:PE X b (HK C j)):PE X (.BinOp a k.op b pos) (HK C (g >>= λx=>j >>= λy=>aC [x,y] >>= λ_=>M.H9 (KO k x y))):=by
 rintro pins s σ H Q I ⟨c0,rfl,rfl,l,h⟩;refine wpAny_BinOp (two f i I l h λx y c p A v u s2 t m n o w=>?_);obtain⟨r,e,q⟩:=bQ.mp w;exact HJ (El d t m n o e q) λ_ _ z=>by rw[t.hσ]at z;exact z
noncomputable def O5.op:O5->CmpOp
 |.eq=>.Eq|.ne=>.NotEq|.lt=>.Lt|.le=>.LtE|.gt=>.Gt|.ge=>.GtE|.isin=>.In|.HV=>.NotIn|.is=>.Is|.Mc=>.IsNot
theorem F3{neg:Bool}(I:Inv X pins c.σ c.H s)(i:C.K=X.K)(L:X.A.units+60<Ml){S:hH->Prop}(n:Rep C S c.H x m)(o:RelV m v)(r:aj C S c.H g vs)
  (ha:Ij C.K c.H a vs\/Im C.K c.H a vs) (t:IM 50 x=cb) (u:cX 50 g=cb) {Q:dt->gj->Prop} (q:Q (.bool (if neg then !(g.any λy=>bV y x) else g.any λy=>bV y x)) s) :
  et (hE X.prog X.w) X.A (Mn (if neg then .NotIn else .In) v (.ref a)) Q X.xe s:=by
 have z:=Iz.of I i 50 x m v t n o;have go:∀its:List dt,Vals vs its->∃e:dt->Bool,(∀y,y∈its.toArray->Sr X.A.in1 s y v (e y))/\its.toArray.any e=g.any λy=>bV y x:=by
  intro its rv;obtain⟨l,k,_⟩:=Iz.wu (Iz.of I i 50) u r rv
  classical
  have q:∀j (b:j<its.length),df (∃w,Iz s 50 w its[j]/\bV w x=cb)=bV (g.getD j .HH) x:=λj b=>by
   rw[Lh,decide_eq_true_iff];exact⟨λ⟨w,d,f⟩=>by rw[<-d.inj (k j b)];exact f,λh=>⟨_,k j b,h⟩⟩
  refine⟨λy=>df (∃w,Iz s 50 w y/\bV w x=cb),λy B=>?_,?_⟩
  ·obtain⟨j,b,e⟩:=QW (show y∈its by simpa using B);subst e;show Sr _ _ _ _ (decide _);rw[q j b];exact FZ (k j b) z (by show X.A.units+1+50 < _;lia)
  ·rw[Lh];simp only[List.any_toArray,Sq];constructor
   ·rintro⟨y,D,h⟩;obtain⟨j,b,rfl⟩:=QW D;rw[q j b]at h;exact⟨_,LS (l▸b),by simpa[l▸b] using h⟩
   ·rintro⟨w,G,J⟩;obtain⟨j,b,rfl⟩:=QW G;exact⟨_,LS (l▸b),by rw[q j (l▸b)];simpa[b] using J⟩
 rcases ha with ha|ha
 ·obtain⟨its,rv,p,_⟩:=ud I (i▸ha);obtain⟨e,d,f⟩:=go its rv;cases neg with
  |false=>exact SeqAt.in_listAt e p d (by rw[f];exact q)
  |true=>exact SeqAt.notIn_listAt e p d (by rw[f];exact q)
 ·rw[i]at ha;obtain⟨its,rv,p,_⟩:=I.tuple ha;obtain⟨e,d,f⟩:=go its rv;cases neg with
  |false=>exact SeqAt.in_tupleAt e p d (by rw[f];exact q)
  |true=>exact SeqAt.notIn_tupleAt e p d (by rw[f];exact q)
end
section
theorem cP:∀{us:List U}{ss:List Str},strsOf us=a5 ss->us=ss.map .str
 |[],ss,h=>by cases h;rfl
 |.str x::us,ss,h=>by
  simp only[strsOf,fS]at h;obtain⟨t,a,rfl⟩:=h;rw[cP a];rfl
 |.HH::_,_,h=>by cases h
 |.bl _::_,_,h=>by cases h
 |.int _::_,_,h=>by cases h
 |.tup _::_,_,h=>by cases h
 |.lst _::_,_,h=>by cases h
 |.HE _ _::_,_,h=>by cases h
theorem fI:∀{us:List U}{ns:List Int},intsOf us=a5 ns->us=ns.map .int
 |[],ns,h=>by cases h;rfl
 |u::us,ns,h=>by
  cases u<;>first|(cases h;done)|skip
  rename_i x;have h':(intsOf us).map (x::·)=a5 ns:=h;rw[fS]at h';obtain⟨ms,e,rfl⟩:=h';rw[fI e];rfl
theorem aj.ints{S:hH->Prop}:∀{ns:List Int}{vs:List V},aj C S H (ns.map .int) vs->vs=ns.map V.int
 |[],vs,h=>h
 |n::ns,vs,h=>by
  obtain⟨v,r,rfl,a,b⟩:=h;rw[aj.ints b];have:v=.int n:=a;rw[this];rfl
theorem kQ:∀{us:List U}{ss:List Bool},kJ us=a5 ss->us=ss.map .bl
 |[],ss,h=>by cases h;rfl
 |.bl x::us,ss,h=>by
  simp only[kJ,fS]at h;obtain⟨t,a,rfl⟩:=h;rw[kQ a];rfl
 |.HH::_,_,h=>by cases h
 |.str _::_,_,h=>by cases h
 |.int _::_,_,h=>by cases h
 |.tup _::_,_,h=>by cases h
 |.lst _::_,_,h=>by cases h
 |.HE _ _::_,_,h=>by cases h
theorem aj.UB{S:hH->Prop}:∀{xs:List Bool}{vs:List V},aj C S H (xs.map .bl) vs->vs=xs.map V.bl
 |[],vs,h=>h
 |x::xs,vs,h=>by
  obtain⟨v,r,rfl,a,b⟩:=h;rw[aj.UB b];have:v=.bl x:=a;rw[this];rfl
def Em(X:Cx)(pins:List (hH×Obj))(c:Cf)(b:Bool)(v:dt)(s':gj):Prop:=v=.bool b/\Inv X pins c.σ c.H s'
theorem dS(o:JB X f r)(I:Inv X pins c.σ c.H s)(e:RelV a v)(g:RelV d u)(h:r a d c.H λx H'=>x=.bl b/\H'=c.H):
  et (hE X.prog X.w) X.A (f v u) (Em X pins c b) X.xe s :=
 HJ (o pins s c.σ c.H a d v u _ I e g h) λw s' i=>by
  obtain⟨z,H',j,r,k,l⟩:=i;subst k l;exact⟨r,j⟩
theorem aL.dict(g:Ok C c)(h:aL C i c k (.HE ks us) v):∃a kvs,v=.ref a/\c.H a=a5 (.dK kvs)/\kvs.map (·.1)=ks.map kr/\aj C (SK C c k) c.H us (kvs.map (·.2)):=by
 cases k with
 |own=>obtain⟨r,e,_,_,_,kvs,b,d,f⟩:=h;exact⟨r,kvs,e,b,d,f⟩
 |bor j=>obtain⟨r,e,_,_,_,kvs,b,d,f⟩:=g.rootOf h.1 h.2;exact⟨r,kvs,e,b,d,f⟩
 |io=>exact h.elim
 |G'=>exact h.elim
 |_=>obtain⟨a,e,_,kvs,b,d,f⟩:=h;exact⟨a,kvs,e,b,d,f⟩
theorem cZ{S:hH->Prop}:∀{ks:List Str}{us:List U}{kvs:List (Key×V)},kvs.map (·.1)=ks.map kr->aj C S H us (kvs.map (·.2)) ->
  (∀u,cE ks us x=a5 u->∃v,du kvs (kr x)=a5 v/\Rep C S H u v)/\(du kvs (kr x)).isSome=df (x∈ks)
 |[],us,kvs,a,b=>by
  have:kvs=[]:=by simpa using a
  subst this;exact⟨λu h=>by cases us<;>simp[cE]at h,by simp[du]⟩
 |k::ks,us,[],a,b=>by simp at a
 |k::ks,[],p::kvs,a,b=>by simp[aj]at b
 |k::ks,j::us,p::kvs,a,b=>by
  obtain⟨v,r,e,d,f⟩:=b;rw[ez]at e;cases e;rw[ez,ez,P2]at a;obtain⟨g,i⟩:=cZ (x:=x) a.2 f;by_cases hk:k=x
  ·subst hk;refine⟨λu h=>?_,?_⟩
   ·simp[cE]at h;subst h;exact⟨p.2,eh a.1,d⟩
   ·rw[eh a.1];simp
  ·have c:¬p.1=kr x:=by rw[a.1];intro z;exact hk (UA z)
   refine⟨λu h=>?_,?_⟩
   ·simp[cE,hk]at h;obtain⟨v,e,q⟩:=g u h;exact⟨v,by rw[ei c];exact e,q⟩
   ·rw[ei c,i];simp[sx hk]
theorem Rep.mN{S:hH->Prop}(h:Rep C S H u v):df (v=.HH)=mN u:=by
 cases u with
 |HH=>have:v=.HH:=h;subst this;rfl
 |bl b=>have:v=.bl b:=h;subst this;rfl
 |int b=>have:v=.int b:=h;subst this;rfl
 |str b=>have:v=.str b:=h;subst this;rfl
 |HE ks us=>obtain⟨a,rfl,_⟩:=h;rfl
 |_=>obtain⟨a,vs,rfl,_⟩:=h;rfl
theorem ym:JB X (Mn .Is) (λx y H Q=>∃i j,x=.bl i/\y=.bl j/\Q (.bl (i==j)) H):=by
 intro pins s σ H x y v u Q I a b h;obtain⟨i,j,rfl,rfl,q⟩:=h;cases a;cases b;cases i<;>cases j<;>exact c2 (nO I q rfl)
theorem rU:JB X (Mn .IsNot) (λx y H Q=>∃i j,x=.bl i/\y=.bl j/\Q (.bl (!(i==j))) H):=by
 intro pins s σ H x y v u Q I a b h;obtain⟨i,j,rfl,rfl,q⟩:=h;cases a;cases b;cases i<;>cases j<;>exact c2 (nO I q rfl)
theorem oz(hP:C.P=X.prog)(hw:C.w=X.w)(o:C.K=X.K)(G:X.A.units+60<Ml)(t:N8 C c0 c x y J N)(I:Inv X pins c.σ c.H s)(f:RelV J v)(g:RelV N u)(h:bZ O x.2 y.2=a5 b):
  et (hE X.prog X.w) X.A (Mn O.op v u) (Em X pins c b) X.xe s:=by
 obtain⟨hσ,d,n,j,i,_⟩:=t;obtain⟨kx,Q⟩:=x;obtain⟨ky,T⟩:=y
 dsimp only at h j i
 have q:∀neg:Bool,∀p,Be Q T=a5 p->et (hE X.prog X.w) X.A (Mn (if neg then .NotIn else .In) v u) (Em X pins c (if neg then !p else p)) X.xe s:=by
  intro neg p h;have B:=j.read d;have L:=i.read d;unfold Be at h;split at h
  ·obtain⟨a,vs,rfl,m,r⟩:=L;cases g;unfold Nd at h;split at h
   ·rename_i l;cases h;exact F3 I o G B f r (.inl m.sq) l.1 l.2 ⟨by cases neg<;>rfl,I⟩
   ·cases h
  ·obtain⟨a,vs,rfl,m,r⟩:=L;cases g;unfold Nd at h;split at h
   ·rename_i l;cases h;exact F3 I o G B f r (.inr m) l.1 l.2 ⟨by cases neg<;>rfl,I⟩
   ·cases h
  ·cases h;have ex:J=_:=B;obtain⟨a,kvs,rfl,m,r,Y⟩:=i.dict d;cases g;subst ex;have hs:=λz:Str=>(cZ (x:=z) r Y).2;cases neg with
   |false=>exact FR ⋯ I (d0.k (k:=kr _) m) f λs' D=>⟨by rw[hs];rfl,D⟩
   |true=>exact tP ⋯ I (d0.k (k:=kr _) m) f λs' D=>⟨by rw[hs];rfl,D⟩
  ·cases h
 unfold bZ at h;split at h
 ·split at h
  ·rename_i l;cases h;exact(F0 (n:=50) (.of I o _ _ _ _ l.1 (j.read d) f) (.of I o _ _ _ _ l.2 (i.read d) g) ⋯).1 _ _ _ _ ⟨rfl,I⟩
  ·cases h
 ·split at h
  ·rename_i l;cases h;exact(F0 (n:=50) (.of I o _ _ _ _ l.1 (j.read d) f) (.of I o _ _ _ _ l.2 (i.read d) g) ⋯).2 _ _ _ _ ⟨rfl,I⟩
  ·cases h
 ·cases h;exact dS FE I f g ⟨_,_,j.int d,i.int d,rfl,rfl⟩
 ·cases h;exact dS FF I f g ⟨_,_,j.int d,i.int d,rfl,rfl⟩
 ·cases h;exact dS FG I f g ⟨_,_,j.int d,i.int d,rfl,rfl⟩
 ·cases h;exact dS FH I f g ⟨_,_,j.int d,i.int d,rfl,rfl⟩
 ·exact q cL b h
 ·rw[fS]at h;obtain⟨p,m,rfl⟩:=h;exact q cb p m
 ·cases h;have e:=i.HH d;exact dS DE I f g ⟨e,by rw[(j.read d).mN],rfl⟩
 ·cases h;have e:=i.HH d;exact dS AE I f g ⟨e,by rw[(j.read d).mN],rfl⟩
 ·cases h;exact dS ym I f g ⟨_,_,j.bl d,i.bl d,rfl,rfl⟩
 ·cases h;exact dS rU I f g ⟨_,_,j.bl d,i.bl d,rfl,rfl⟩
 ·cases h
theorem Bp(f:C.P=X.prog)(g:C.w=X.w)(i:C.K=X.K)(j:X.A.units+60<Ml)(k:PE X a (HK C l))(m:PE X b (HK C n))(o:Q7 d.op b=cL):
  PE X (.Compare a [d.op] [b] pos) (HK C (l >>= λx=>n >>= λy=>aC [x,y] >>= λ_=>M.H9 (bZ d x.2 y.2) >>= λc=>pure (.loc,.bl c))):=by
 rintro pins s σ H Q I ⟨N,rfl,rfl,p,h⟩;refine wpAny_Compare1 (two k m I p h λx y c O T v u s2 t B D G w=>?_) o;rw[af]at w;obtain⟨r,e,q⟩:=bQ.mp w;rw[ak]at q;refine HJ (oz f g i j t B D G e) λz s' J=>?_;obtain⟨e,L⟩:=J;subst e;exact⟨.bl r,c.H,by rw[<-t.hσ];exact L,rfl,q c (.bl r) t.hσ rfl t.ok t.nx rfl⟩
theorem Bq(g:C.P=X.prog)(i:C.w=X.w)(j:C.K=X.K)(k:X.A.units+60<Ml)(l:PE X a (HK C m))(n:PE X b (HK C o))(p:Q7 d.op b=cL):
  PT X (.Compare a [d.op] [b] pos) (Jm C (m >>= λx=>o >>= λy=>aC [x,y] >>= λ_=>M.H9 (bZ d x.2 y.2))):=by
 rintro pins s σ H Q I ⟨B,rfl,rfl,D,h⟩;refine ZE (two (f:=λv u=>Mn d.op v u) (Q':=λ_ _ c s=>et (hE X.prog X.w) X.A (ó c) (TP X pins B.σ Q) X.xe s) l n I D h λx y c T Y v u s2 t G J L w=>?_) p;obtain⟨r,e,q⟩:=bQ.mp w;refine HJ (oz g i j k t G J L e) λz s' N=>?_;obtain⟨e,O⟩:=N;subst e;exact JH ⟨c.H,by rw[<-t.hσ];exact O,q c t.hσ rfl t.ok t.nx⟩
end
section
def CQ(C:Ct)(a:Cf)(Q:Bool->Hp->Prop)(b:Bool)(st':aw):Prop:=∀c,c.σ=a.σ->c.st=st'->Ok C c->Nx a c->Q b c.H
theorem rV(c:a.σ=b.σ)(d:Ok C a)(n:Nx b a)(h:W m a.st (cp C b Q)):HK C m b.σ a.H Q :=
 ⟨a,c,rfl,d,h.mono λr st e f v g i j k l=>e f v g i j (n.trans k) (l.from n)⟩
theorem yn(c:a.σ=b.σ)(d:Ok C a)(n:Nx b a)(h:W m a.st (CQ C b Q)):Jm C m b.σ a.H Q :=
 ⟨a,c,rfl,d,h.mono λr st e f g i j k=>e f g i j (n.trans k)⟩
theorem aV(b:Ok C a)(h:W (d >>= k) a.st e)
  (hz:∀x c v,MK C a c x v->W (k x) c.st e->Z v c.H):HK C d a.σ a.H Z:=by
 rw[af]at h;exact⟨a,rfl,rfl,b,h.mono λx st1 f g i j l m n o=>hz x g i ⟨j,m,n,o⟩ (by rw[l];exact f)⟩
theorem eI(d:Ok C a)(h:W (e >>= k) a.st f)
  (hz:∀b c,c.σ=a.σ->Ok C c->Nx a c->W (k b) c.st f->Z b c.H):Jm C e a.σ a.H Z:=by
 rw[af]at h;exact⟨a,rfl,rfl,d,h.mono λx st1 g i j l m n=>hz x i j m n (by rw[l];exact g)⟩
noncomputable def F4(m:M (Kd×U))(x:Kd×U):M (Kd×U):=match x.2 with
 |.bl cb=>m
 |.bl cL=>pure (.loc,.bl cL)
 |_=>M.fail
noncomputable def F5(x:Kd×U):M (Kd×U):=match x.2 with
 |.bl c=>pure (.loc,.bl !c)
 |_=>M.fail
theorem snd_and(g:PE X a (HK C i))(j:PE X (.BoolOp .And (b::rest) pos) (HK C l)):PE X (.BoolOp .And (a::b::rest) pos) (HK C (i >>= F4 l)):=by
 refine PE.weak (Dp g j) ?_;rintro σ H Q ⟨o,rfl,rfl,m,h⟩;refine aV m h λx c v t w=>?_;obtain⟨k,u⟩:=x;obtain⟨f,d,n,r⟩:=t;unfold F4 at w;split at w
 ·rename_i e
  dsimp only at e r
  subst e;exact⟨cb,r.bl d,by rw[ÿ rfl];exact rV f d n w⟩
 ·rename_i e
  dsimp only at e r
  subst e;rw[ak]at w;exact⟨cL,r.bl d,by rw[ā q0];exact w c (.bl cL) f rfl d n rfl⟩
 ·exact(bj.mp w).elim
theorem Br(d:PE X a (HK C f)):PE X (.UnaryOp .Not a pos) (HK C (f >>= F5)):=by
 refine PE.weak (Dq d) ?_;rintro σ H Q ⟨j,rfl,rfl,g,h⟩;refine aV g h λx c v t w=>?_;obtain⟨k,u⟩:=x;obtain⟨i,b,n,r⟩:=t;unfold F5 at w;split at w
 ·rename_i e
  dsimp only at e r
  subst e;rw[ak]at w;exact⟨_,r.bl b,w c (.bl _) i rfl b n rfl⟩
 ·exact(bj.mp w).elim
theorem Bs(g:PT X d (Jm C i))(j:PE X a (HK C k))(l:PE X b (HK C m)):PE X (.IfExp d a b pos) (HK C (i >>= λp=>if p=cb then k else m)):=by
 refine PE.weak (xc g j l) ?_;rintro σ H Q ⟨q,rfl,rfl,o,h⟩;refine eI o h λp c e f n w=>?_;cases p with
 |true=>rw[ÿ rfl]at w ⊢;exact rV e f n w
 |false=>rw[ā q0]at w ⊢;exact rV e f n w
theorem Bt(d:PT X a (Jm C e)):PT X (.UnaryOp .Not a pos) (Jm C (e >>= λb=>pure !b)):=by
 refine PT.weak (Dm d) ?_;rintro σ H Q ⟨j,rfl,rfl,f,h⟩;refine eI f h λp c g i n w=>?_;rw[ak]at w;exact w c g rfl i n
theorem Bu(g:PT X a (Jm C i))(j:PW X (.BoolOp .And (b::rest) pos) (Jm C k)):PW X (.BoolOp .And (a::b::rest) pos) (Jm C (i >>= λp=>if p=cb then k else pure cL)):=by
 have l:=Dl g j;rintro m pins s σ H Q I ⟨d,rfl,rfl,o,h⟩;refine l m pins s d.σ d.H Q I (eI o h λp c e f n w=>?_);cases p with
 |true=>rw[ÿ rfl]at w ⊢;exact yn e f n w
 |false=>rw[ā q0]at w ⊢;rw[ak]at w;exact w c e rfl f n
theorem En(g:PT X a (Jm C i))(j:PW X (.BoolOp .Or (b::rest) pos) (Jm C k)):PW X (.BoolOp .Or (a::b::rest) pos) (Jm C (i >>= λp=>if p=cb then pure cb else k)):=by
 have l:=Fp g j;rintro m pins s σ H Q I ⟨d,rfl,rfl,o,h⟩;refine l m pins s d.σ d.H Q I (eI o h λp c e f n w=>?_);cases p with
 |true=>rw[ÿ rfl]at w ⊢;rw[ak]at w;exact w c e rfl f n
 |false=>rw[ā q0]at w ⊢;exact yn e f n w
theorem uf{us:List α}{vs:List β}(h:us.length=vs.length):(!us.isEmpty)=!vs.isEmpty:=by
 cases us<;>cases vs<;>simp_all
theorem jL(j:PE X a (HK C l))(i:C.K=X.K)(m:∀b,isTrue a X.env b=(do let v <-b;Yg a.pos;MR [v] (ó v))):PT X a (Jm C (l >>= λx=>M.H9 (wm x.2))):=by
 refine PT.weak (xo j m) ?_;rintro σ H Q ⟨y,rfl,rfl,o,h⟩;refine aV o h λx c v t w=>?_;obtain⟨k,u⟩:=x;obtain⟨s,d,n,r⟩:=t;obtain⟨p,e,q⟩:=bQ.mp w
 dsimp only at e r
 refine⟨p,?_,q c s rfl d n⟩;unfold wm at e;split at e
 ·cases e;rw[r.bl d];rfl
 ·cases e;obtain⟨a,vs,rfl,f,g⟩:=r.list d;exact .inl ⟨vs,i▸f,uf g.len⟩
 ·cases e;obtain⟨a,vs,rfl,f,g⟩:=r.tuple d;rw[i]at f;exact .inr (.inl ⟨vs,f,uf g.len⟩)
 ·split at e
  ·cases e;rw[r.str d];exact⟨by assumption,rfl⟩
  ·cases e
 ·cases e
theorem yo(l:C.P=X.prog)(m:C.w=X.w)(n:C.K=X.K)(o:X.A.units+60<Ml)(T:PE X a (HK C Y))(hb:PE X b (HK C mb))(hd:PE X d (HK C md))(hm:lastMarks [r.op,o2.op] [b,d]=cL):
  PT X (.Compare a [r.op,o2.op] [b,d] pos) (Jm C (Y >>= λx=>mb >>= λy=>aC [x,y] >>= λ_=>M.H9 (bZ r x.2 y.2) >>= λp=>if p=cb then(md >>= λz=>aC [y,z] >>= λ_=>M.H9 (bZ o2 y.2 z.2)) else pure cL)):=by
 rintro pins s σ H Q I ⟨B,rfl,rfl,ok,h⟩;refine isTrue_chain (HJ (two T hb I ok h λx y c vx vy v u s2 t I2 rx D w=>?_) λv s1 h1=>test_link (HJ h1 λu s2 f=>f)) hm;rw[af]at w;obtain⟨p,e,q⟩:=bQ.mp w;refine HJ (oz l m n o t I2 rx D e) λz s' Ss=>?_;obtain⟨e,G⟩:=Ss;subst e;refine JH ?_;cases p with
 |false =>
  rw[ā q0,ak]at q;exact ite_ff ⟨c.H,by rw[<-t.hσ];exact G,q c t.hσ rfl t.ok t.nx⟩
 |true =>
  rw[ÿ rfl,af]at q;refine ite_tt (test_last (HJ (hd pins s' c.σ c.H (λj J=>∃z g,g.H=J/\N8 C B g y z vy j/\W (M.H9 (bZ o2 y.2 z.2)) g.st (CQ C B Q)) G ⟨c,rfl,rfl,t.ok,q.mono λz st2 f g j L k Ie N O=>?_⟩) ?_))
  ·rw[af,bY]at f;subst k;rw[dA]at f;exact⟨z,g,rfl,⟨L.trans t.hσ,Ie,t.nx.trans N,(t.ry.w.on t.ok N L).t f.1.1,O.from t.nx,kP t.ry.w O.w⟩,f.2⟩
  ·rintro zv s3 ⟨j,J,I3,rz,z,g,rfl,i,f⟩;obtain⟨q',e',w'⟩:=bQ.mp f;refine HJ (oz (pins:=pins) l m n o i (by rw[i.hσ,<-t.hσ];exact I3) D rz e') λz' s4 Su=>?_;obtain⟨k,I4⟩:=Su;subst k;exact JH ⟨g.H,by rw[<-i.hσ];exact I4,w' g i.hσ rfl i.ok i.nx⟩
end
section
theorem cO.from(n:Nx a b):cO C b c rs vs->cO C a c rs vs:=by
 intro h;induction rs generalizing vs with
 |nil=>exact h
 |cons r rs d=>obtain⟨v,t,e,f,g,i⟩:=h;exact⟨v,t,e,f.from n,d g,i⟩
theorem cO.get{i:Nat}(h:cO C b c rs vs)(e:rs[i]?=a5 r)(a:vs[i]?=a5 v):fE C b c r.1 r.2 v:=by
 induction rs generalizing vs i with
 |nil=>simp at e
 |cons j rs d =>
  obtain⟨k,t,rfl,f,g,l⟩:=h;cases i with
  |zero=>simp at e a;subst e a;exact f
  |succ i=>exact d g (by simpa using e) (by simpa using a)
theorem Bv:PA X [] (Jr C (pure [])):=by
 rintro pos pins s σ H Q I ⟨a,rfl,rfl,b,h⟩;rw[ak]at h;exact iN pos pins s a.σ a.H Q I (h a [] rfl rfl b (Nx.refl a) rfl)
theorem yp(g:PE X e (HK C m))(j:PA X es (Jr C ms))(hs:js (e::es) X.env=(cL,H0 e X.env)::js es X.env):PA X (e::es) (Jr C (m >>= λr=>ms >>= λrs=>pure (r::rs))):=by
 rintro pos pins s σ H Q I ⟨a,rfl,rfl,k,h⟩;refine eR g j hs pos pins s a.σ a.H Q I (aV k h λr l v t w=>?_);rw[af]at w;refine⟨l,t.hσ,rfl,t.ok,w.mono λrs st2 b n vs c o p d f=>?_⟩;rw[ak]at b;refine b n (v::vs) c o p (t.nx.trans d) ⟨v,vs,rfl,t.rx.w.on t.ok d (c.trans t.hσ.symm),f.from t.nx,λhk i y z q u x=>?_⟩;exact kP t.rx.w (f.get q u) hk x
structure J6(C:Ct)(c0 c:Cf)(rs:List (Kd×U))(vs:List V):Prop where
 hσ:c.σ=c0.σ
 ok:Ok C c
 nx:Nx c0 c
 rep:cO C c0 c rs vs
 ML:bp rs c.st
theorem args{k:List (Kd×U)->M β}{b:β->aw->Prop}(g:PA X es (Jr C ms))(I:Inv X pins a.σ a.H s)(i:Ok C a)(h:W (ms >>= λrs=>aC rs >>= λ_=>k rs) a.st b)(pos:Pos):
  et (hE X.prog X.w) X.A (Ó (Kj pos (js es X.env))) (λus s1=>∃rs c vs,J6 C a c rs vs/\Inv X pins c.σ c.H s1/\Vals vs us/\W (k rs) c.st b) X.xe s:=by
 rw[af]at h;refine HJ (g pos pins s a.σ a.H (λvs f=>∃rs c,c.H=f/\J6 C a c rs vs/\W (k rs) c.st b) I ⟨a,rfl,rfl,i,h.mono λrs st1 d e vs j l m n o=>?_⟩) ?_
 ·rw[af,bY]at d;subst l;exact⟨rs,e,rfl,⟨j,m,n,o,d.1⟩,d.2⟩
 ·rintro us s1 ⟨vs,f,p,rv,rs,e,rfl,t,w⟩;exact⟨rs,e,vs,t,by rw[t.hσ];exact p,rv,w⟩
theorem J6.one(t:J6 C a c [r] vs):∃v,vs=[v]/\aL C a c r.1 r.2 v:=by
 obtain⟨v,t',rfl,b,d,_⟩:=t.rep;cases d;exact⟨v,rfl,b.t t.ML⟩
theorem J6.two(t:J6 C b c [r,d] vs):∃v a,vs=[v,a]/\aL C b c r.1 r.2 v/\aL C b c d.1 d.2 a:=by
 obtain⟨v,t',rfl,e,⟨a,h,rfl,f,g,_⟩,_⟩:=t.rep;cases g;have hs:=dA.mp t.ML;exact⟨v,a,rfl,e.t hs.1,f.t hs.2⟩
theorem Ok.share(b:Ok C c)(g:C.H₀ r=b6)(h:∃o,c.H r=a5 o)(hl:st'.length=c.st.length)
  (d:∀(i:Nat) k u,st'[i]?=a5 (a5 (k,u))->(∃v,c.σ[i]?=a5 (a5 v)/\fD C (λa=>c.S a\/a=r) c.H k u v)/\(k.root=cb->c.st[i]?=a5 (a5 (k,u)))) (l:Lb C {c with S:=λa=>c.S a\/a=r,st:=st' }) :
  Ok C {c with S:=λa=>c.S a\/a=r,st:=st' }:=by
 refine⟨b.same,λa z=>?_,b.par,b.io,by rw[show({c with S:=λa=>c.S a\/a=r,st:=st' }:Cf).st.length=st'.length from rfl,hl];exact b.len,λi k u e=>(d i k u e).1,λi j k k' u u' m hk f n p q s=>?_,l⟩
 ·rcases z with z|rfl
  ·exact b.JS a z
  ·exact⟨g,h⟩
 ·exact b.inj i j k k' u u' m hk f ((d i k u n).2 hk) ((d j k' u' p).2 f) q s
theorem Ok.Eo(s:Ok C d)(b:Ok C c)(n:Nx d c)(f:d.H r=b6)(g:¬c.R r)(t:cU C c.S c.H r u):
  Ok C {c with S:=λa=>c.S a\/a=r}/\Nx d {c with S:=λa=>c.S a\/a=r}:=by
 obtain⟨o,ho,_⟩:=t.some;refine⟨b.share (st':=c.st) (s.jB f).1 ⟨o,ho⟩ rfl (λi k u e=>⟨?_,λ_=>e⟩) (b.dd.hs (.up λa=>.inl) λj a z=>⟨λq=>q.elim (b.root (.inr ⟨j,z⟩)).1 λe=>g (.inr ⟨j,e▸z⟩),λo q=>q⟩),⟨⟨n.keep,n.there,n.roots,λa z=>.inl (n.sub a z),λa z=>?_⟩⟩⟩
 ·obtain⟨v,h,l⟩:=b.sl i k u e;have w:Mv c.S c.H (λa=>c.S a\/a=r) c.H:=.up λa=>.inl;refine⟨v,h,l.mv w (.up λa z=>z.imp id .inl) λhk y m=>⟨?_,λo q=>q⟩⟩;obtain⟨A,p,x,_⟩:=l.rt hk;rw[m]at p;cases p;rintro(z|rfl)
  ·exact x z
  ·exact g (.inl ⟨i,k,u,hk,e,by rw[h,m]⟩)
 ·rcases z with z|rfl
  ·exact n.new a z
  ·exact .inr (.inr f)
theorem Ok.yq(d:Ok C c)(n:Nx D c)(g:c.st[j]?=a5 (a5 (.own,u)))(h:c.σ[j]?=a5 (a5 (.ref r))):
  Ok C {c with S:=λa=>c.S a\/a=r,st:=c.st.set j (a5 (.loc,u))}/\Nx D {c with S:=λa=>c.S a\/a=r,st:=c.st.set j (a5 (.loc,u))}/\Rep C (λa=>c.S a\/a=r) c.H u (.ref r):=by
 obtain⟨Y,f,l,m,q1,q2,G,x⟩:=d.sl j _ _ g;rw[h]at f;cases f;cases m;have y:Rep C (λa=>c.S a\/a=r) c.H u (.ref r):=x.rep (λa=>.inl) (.inr rfl);obtain⟨o,ho,_⟩:=x.some;have s:j<c.st.length:=(dV.mp g).1;have t:∀(i:Nat) k u',(c.st.set j (a5 (.loc,u)))[i]?=a5 (a5 (k,u'))->i≠j->c.st[i]?=a5 (a5 (k,u')):=λi k u' e I=>by rw[i6 (sx I)]at e;exact e
 have J:c.R1 r:=⟨j,.own,u,rfl,g,h⟩
 have A:∀(i:Nat) (u':U),(c.st.set j (a5 (.loc,u)))[i]?=a5 (a5 (.G',u'))->c.st[i]?=a5 (a5 (.G',u')):=λi u' e=>by
  by_cases b:i=j
  ·subst b;rw[hQ s]at e;cases e
  ·exact t i .G' u' e b
 have b1:∀a,({c with S:=λa=>c.S a\/a=r,st:=c.st.set j (a5 (.loc,u))}:Cf).R1 a->c.R1 a:=λa L=>by
  obtain⟨i,k,u',hk,e,N⟩:=L;by_cases b:i=j
  ·subst b;rw[hQ s]at e;cases e;cases hk
  ·exact⟨i,k,u',hk,t i k u' e b,N⟩
 have O:Lb C {c with S:=λa=>c.S a\/a=r,st:=c.st.set j (a5 (.loc,u))}:=d.dd.of rfl (λi u' e=>⟨A i u' e,rfl⟩) (λa z=>.inl (b1 a z)) (.up λa=>.inl) λi a z=>⟨λq=>q.elim (d.root (.inr ⟨i,z⟩)).1 λe=>d.dd.d1 i a z (e▸J),λo q=>q⟩
 refine⟨d.share (st':=c.st.set j (a5 (.loc,u))) G ⟨o,ho⟩ (by simp) (λi k u' e=>?_) O,⟨⟨n.keep,n.there,λa z=>?_,λa z=>.inl (n.sub a z),λa z=>?_⟩⟩,y⟩
 ·by_cases b:i=j
  ·subst b;rw[hQ s]at e;cases e;exact⟨⟨.ref r,h,y⟩,λz=>nomatch z⟩
  ·have w:=t i k u' e b;obtain⟨v,f,p⟩:=d.sl i k u' w;refine⟨⟨v,f,p.mv (.up λa=>.inl) (.up λa z=>z.imp id .inl) λhk l m=>⟨?_,λo q=>q⟩⟩,λ_=>w⟩;obtain⟨O7,B,Q,_⟩:=p.rt hk;rw[m]at B;cases B;rintro(z|rfl)
   ·exact Q z
   ·exact b (d.inj i j k .own u' u l hk rfl w g (by rw[f,m]) h)
 ·rcases z with z|⟨i,u',l,f,p,T⟩
  ·exact n.roots a (.inl (b1 a z))
  ·exact n.roots a (.inr ⟨i,u',l,A i u' f,p,T⟩)
 ·rcases z with z|rfl
  ·exact n.new a z
  ·rcases n.roots a (.inl ⟨j,.own,u,rfl,g,h⟩) with z|z
   ·exact .inr (.inl z)
   ·exact .inr (.inr z)
theorem ij(B:Ok C l)(b:Ok C c)(n:Nx l c)(d:fE C l c r.1 r.2 v)(h:W (lift r) c.st D):
  ∃(S':hH->Prop) (st':aw) (u:U),(∀a,c.S a->S' a)/\Ok C {c with S:=S',st:=st' }/\Nx l {c with S:=S',st:=st' }/\Rep C S' c.H u v/\D u st' /\
   (∀a,S' a->c.S a\/v=.ref a/\(r.1=.own\/c.R a))/\∀a,({c with S:=S',st:=st' }:Cf).R a->c.R a:=by
 obtain⟨k,u⟩:=r;cases k with
 |own =>
  rw[show lift (.own,u)=pure u from rfl,ak]at h;obtain⟨r,e,G,Q,I,y⟩:=d;obtain⟨m,o⟩:=Ok.Eo B b n G I y;refine⟨_,c.st,u,λa=>.inl,m,o,by rw[e];exact y.rep (λa=>.inl) (.inr rfl),h,λa z=>?_,λa z=>z⟩;rcases z with z|rfl
  ·exact .inl z
  ·exact .inr ⟨e,.inl rfl⟩
 |loc =>
  rw[show lift (.loc,u)=pure u from rfl,ak]at h;exact⟨c.S,c.st,u,λa=>id,b,n,d,h,λa z=>.inl z,λa z=>z⟩
 |any =>
  rw[show lift (.any,u)=if H_ u=cb then pure u else M.fail from rfl]at h;split at h
  ·rw[ak]at h;exact⟨c.S,c.st,u,λa=>id,b,n,Rep.H_ (by assumption) d,h,λa z=>.inl z,λa z=>z⟩
  ·exact(bj.mp h).elim
 |bor j =>
  obtain⟨x,st',e,J⟩:=h;rw[show lift (.bor j,u) c.st=match c.st[j]? with|some (a5 (.own,u))=>a5 (Ex.ok u,c.st.set j (a5 (.loc,u)))|_=>b6 from rfl]at e;split at e
  ·rename_i w f;cases e;obtain⟨T,A,r,L,_⟩:=b.sl j _ _ f;have p:c.σ[j]?=a5 (a5 v):=d;rw[p]at A;cases A;subst L;obtain⟨m,o,q⟩:=b.yq n f p;refine⟨_,_,_,λa=>.inl,m,o,q,J,λa z=>?_,λa z=>?_⟩
   ·rcases z with z|rfl
    ·exact .inl z
    ·exact .inr ⟨rfl,.inr (.inl ⟨j,.own,_,rfl,f,p⟩)⟩
   ·rcases z with⟨i,k,u',hk,e,s⟩|⟨i,u',N,e,s,O⟩
    rotate_left 1
    ·by_cases g:i=j
     ·subst g;have t:i<c.st.length:=(dV.mp f).1;rw[hQ t]at e;cases e
     ·rw[i6 (sx g)]at e;exact .inr ⟨i,u',N,e,s,O⟩
    by_cases g:i=j
    ·subst g;have t:i<c.st.length:=(dV.mp f).1;rw[hQ t]at e;cases e;cases hk
    ·rw[i6 (sx g)]at e;exact .inl ⟨i,k,u',hk,e,s⟩
  ·cases e
 |_=>exact d.elim
theorem il:∀{rs:List (Kd×U)}{vs:List V}{c:Cf}{g:List U->aw->Prop},Ok C b->Ok C c->Nx b c->cO C b c rs vs->W (de rs) c.st g ->
  ∃(S':hH->Prop) (st':aw) (us:List U),(∀a,c.S a->S' a)/\Ok C {c with S:=S',st:=st' }/\Nx b {c with S:=S',st:=st' }/\aj C S' c.H us vs/\g us st'
 |[],vs,c,g,p,s,n,x,h=>by
  rw[show de []=pure [] from rfl,ak]at h;exact⟨c.S,c.st,[],λa=>id,s,n,x,h⟩
 |r::rs,vs,c,g,p,s,n,x,h=>by
  obtain⟨v,t,rfl,L,N,O⟩:=x;rw[show de (r::rs)=lift r >>= λu=>de rs >>= λus=>pure (u::us) from rfl,af]at h;obtain⟨S1,st1,u,s1,Q,T,d,y,Y,KY⟩:=ij p s n L h;rw[af]at y;have O8:cO C b {c with S:=S1,st:=st1} rs t:=by
   clear h y;have A:∀(l:List (Kd×U)) (w:List V),cO C b c l w->(r.1=.own->∀(i:Nat) j k,l[i]?=a5 j->w[i]?=a5 k->j.1=.own->k≠v)->cO C b {c with S:=S1,st:=st1} l w:=by
    intro l;induction l with
    |nil=>intro w q _;exact q
    |cons r2 l ih =>
     intro w q B;obtain⟨D,G,rfl,m,q2,q3⟩:=q;refine⟨D,G,rfl,?_,ih G q2 (λhk i j k e1 e2 Ip=>B hk (i+1) j k (by simpa using e1) (by simpa using e2) Ip),q3⟩;obtain⟨k2,u2⟩:=r2;cases k2 with
     |own =>
      obtain⟨a,e,p1,p2,I,p4⟩:=m;refine⟨a,e,p1,λz=>?_,λz=>I (KY a z),p4.mv (.up s1) λo q=>q⟩;rcases Y a z with z|⟨z,z'|z'⟩
      ·exact p2 z
      ·exact B z' 0 _ D rfl rfl rfl (e.trans z.symm)
      ·exact I z'
     |loc=>exact Rep.mv (.up s1) m
     |any=>exact Rep.mv (.up λa z=>z.imp id (s1 a)) m
     |_=>exact m
   exact A rs t N O
  obtain⟨S2,st2,us,s2,Ie,n2,f,J⟩:=il (c:={c with S:=S1,st:=st1}) p Q T O8 y;rw[ak]at J;exact⟨S2,st2,u::us,λa z=>s2 a (s1 a z),Ie,n2,⟨v,t,rfl,d.mv (.up s2),f⟩,J⟩
theorem Bw(i:PA X es (Jr C ms)):PE X (.Tuple es p pos) (HK C (ms >>= λrs=>aC rs >>= λ_=>de rs >>= λus=>if us.length<=c6 then pure (.loc,.tup us) else M.fail)):=by
 rintro pins s σ H Q I ⟨j,rfl,rfl,f,h⟩;refine wpAny_Tuple_spliced (HJ (args i I f h pos) λus s1 k=>?_);obtain⟨rs,c,vs,t,g,rv,w⟩:=k;rw[af]at w;obtain⟨S',st',ws,q,l,m,a,d⟩:=il f t.ok t.nx t.rep w;split at d
 ·rename_i hz;rw[ak]at d;have hl:vs.length<=c6:=by rw[<-a.len];exact hz
  refine⟨by rw[<-rv.length];exact hl,?_⟩;have n:c.H s1.heap.objs.size=b6:=g.HI.fresh (hW _);have o:Inv X pins j.σ c.H s1:=by rw[<-t.hσ];exact g
  refine⟨.ref s1.heap.objs.size,upd c.H s1.heap.objs.size (.tup vs),o.laid (t':=s1.toks) (λb u e=>cK _ e) (hW _) ⟨hl,us,rv,Zv _ _⟩,rfl,?_⟩;exact cp.tup (c:={c with S:=S',st:=st' }) d t.hσ l m a _ n
 ·exact(bj.mp d).elim
theorem Bx(i:PA X es (Jr C ms)):PE X (.List es pos) (HK C (ms >>= λrs=>aC rs >>= λ_=>de rs >>= λus=>if us.length<=c6 then pure (.own,.lst us) else M.fail)):=by
 rintro pins s σ H Q I ⟨j,rfl,rfl,f,h⟩;refine wpAny_List_spliced (HJ (args i I f h pos) λus s1 k=>?_);obtain⟨rs,c,vs,t,g,rv,w⟩:=k;rw[af]at w;obtain⟨S',st',ws,p,l,m,a,d⟩:=il f t.ok t.nx t.rep w;split at d
 ·rename_i hz;rw[ak]at d;have hl:vs.length<=c6:=by rw[<-a.len];exact hz
  refine⟨by rw[<-rv.length];exact hl,?_⟩;have n:c.H s1.heap.objs.size=b6:=g.HI.fresh (hW _);have o:Inv X pins j.σ c.H s1:=by rw[<-t.hσ];exact g
  refine⟨.ref s1.heap.objs.size,upd c.H s1.heap.objs.size (.lst vs),o.laid (t':=s1.toks) (λb u e=>cK _ e) (hW _) ⟨hl,us,0,rv,eH _ rfl⟩,rfl,?_⟩;exact cp.list (c:={c with S:=S',st:=st' }) d t.hσ l m a _ n
 ·exact(bj.mp d).elim
end
section
theorem oA(f:X.N[i]?=a5 x)(g:JY X.env.scope x)(l:(x==("__debug__":Str))=cL)(m:(x==("__classdict__":Str))=cL):PE X (.Name x pos) (HK C (dg i)):=by
 refine PE.weak (cH f g l m) ?_;rintro σ H Q ⟨b,rfl,rfl,c,r,st',e,h⟩;unfold dg at e;split at e
 ·cases e
 ·rename_i k u n hs;cases e;obtain⟨v,d,a⟩:=c.sl i k u hs;refine⟨v,d,h b v rfl rfl c (Nx.refl b) ?_⟩;by_cases hk:k.root=cb
  ·rw[ÿ hk];exact⟨⟨k,hk,hs⟩,d⟩
  ·rw[ā hk];cases k with
   |loc=>exact a
   |any=>exact a
   |bor j=>exact a.elim
   |G'=>exact(n rfl).elim
   |_=>exact absurd rfl hk
 ·cases e
theorem ip(h:PE X e (tC v))(r:∀S H,Rep C S H u v):PE X e (HK C (pure (.loc,u))):=by
 refine PE.weak h ?_;rintro σ H Q ⟨a,rfl,rfl,b,h⟩;rw[ak]at h;exact h a v rfl rfl b (Nx.refl a) (r _ _)
theorem cp.root(h:cp C b Q (.own,u) c.st)(e:c.σ=b.σ)(d:Ok C c)(n:Nx b c)(p:hH)(a:c.H p=b6)(r:cU C c.S (upd c.H p o) p u):Q (.ref p) (upd c.H p o):=by
 obtain⟨f,g⟩:=d.lay (o:=o) a;obtain⟨k,i,l,m,j⟩:=d.jB a;exact h {c with H:=upd c.H p o} _ e rfl f (n.trans g) ⟨p,rfl,n.none a,i,j,r⟩
theorem yr(d:C.P=X.prog)(e:C.w=X.w)(r:Bool):PE X (.Dict [] [] pos) (HK C (pure (.own,.HE [] []))):=by
 refine PE.weak pN ?_;rintro σ H Q ⟨a,rfl,rfl,b,h⟩ p c;rw[ak]at h;exact cp.root h rfl b (Nx.refl a) p c ⟨[],az,rfl,rfl⟩
theorem aj.IU{S:hH->Prop}(h:aj C S H us vs)(e:IU us i=a5 u):∃v,L2.IU vs i=a5 v/\Rep C S H u v:=by
 unfold L2.IU at e ⊢;rw[h.len]at e;cases q:Lj vs.length i with
 |none=>rw[q]at e;cases e
 |some j =>
  rw[q]at e;exact h.get e
theorem Ep(L:C.K=X.K)(hu:X.A.units+60<Ml)(hs:nS b)(t:N8 C N c x y p z)(I:Inv X pins c.σ c.H s)(B:RelV p v)(D:RelV z u)(h:d7 x y.2=a5 r)(q:cp C N Q r c.st):
  et (hE X.prog X.w) X.A (Vg a b v u) (EP X pins c.σ Q) X.xe s:=by
 obtain⟨G,d,n,J,j,-⟩:=t;obtain⟨ky,uy⟩:=y
 dsimp only at h j
 unfold d7 at h;split at h
 ·rename_i k xs i;rw[fS]at h;obtain⟨w,e,rfl⟩:=h;obtain⟨a',vs,ex,f,l⟩:=J.list d;obtain⟨vw,m,o⟩:=l.IU e;exact AL a b pins s c.σ c.H p z v u Q I B D ⟨a',vs,i,vw,ex,j.int d,L▸f,m,q c vw G rfl d n (aL.item o)⟩ (hs _ _)
 ·rename_i k xs i;rw[fS]at h;obtain⟨w,e,rfl⟩:=h;obtain⟨a',vs,ex,f,l⟩:=J.tuple d;obtain⟨vw,m,o⟩:=l.IU e;rw[L]at f;exact gB a b pins s c.σ c.H p z v u Q I B D ⟨a',vs,i,vw,ex,j.int d,f,m,q c vw G rfl d n (aL.item o)⟩ (hs _ _)
 ·split at h
  ·rw[fS]at h;obtain⟨w,e,rfl⟩:=h;exact nU a b pins s c.σ c.H p z v u Q I B D ⟨_,_,w,J.str d,j.int d,by assumption,e,q c _ G rfl d n rfl⟩ (hs _ _)
  ·cases h
 ·rename_i k ks us x;rw[fS]at h;obtain⟨w,e,rfl⟩:=h;obtain⟨a',kvs,ex,f,l,O⟩:=J.dict d;obtain⟨vw,m,o⟩:=(cZ (x:=x) l O).1 w e;have T:=j.str d;subst ex T;cases B;have g:d0 c.H a' (.str x) (a5 vw):=by rw[<-m];exact d0.k (k:=kr x) f
  exact û (ops:=[.ref a',u]) (jj I g) PySem.F.slot_dict_getitem.lookup (mz ⋯ I g D λw' s3 Y JZ=>⟨vw,c.H,Y,JZ,q c vw G rfl d n (aL.item o)⟩) (hs _ _)
 ·cases h
theorem By(d:C.K=X.K)(f:X.A.units+60<Ml)(hs:nS b)(g:PE X a (HK C i))(j:PE X b (HK C k)):PE X (.Subscript a b pos) (HK C (i >>= λx=>k >>= λy=>aC [x,y] >>= λ_=>M.H9 (d7 x y.2))):=by
 rintro pins s σ H Q I ⟨p,rfl,rfl,l,h⟩;refine Ë (two g j I l h λx y c B D v u s2 t m n o w=>?_);obtain⟨r,e,q⟩:=bQ.mp w;exact HJ (Ep d f hs t m n o e q) λ_ _ z=>by rw[t.hσ]at z;exact z
theorem aj.cut{S:hH->Prop}(h:aj C S H us vs)(lo hi:Option Int):aj C S H (TM.cut us lo hi) (vM vs lo hi):=by
 unfold TM.cut vM;rw[h.len];exact(h.drop _).take _
end
section
end
section
variable{X:Cx}{C:Ct}{pins:List (hH×Obj)}{s:gj}{c0 c c1:Cf}
variable{a b d e:uv}{es:List uv}{m ma mb md:M (Kd×U)}{ms:M (List (Kd×U))}{ta tb:M Bool}{pos p p2:Pos}
def tO(C:Ct)(m:M (Option Int)):TO:=λσ H Q=>∃c0:Cf,c0.σ=σ/\c0.H=H/\Ok C c0/\W m c0.st λi st'=>∀c,c.σ=σ->c.st=st'->Ok C c->Nx c0 c->Q i c.H
theorem wx:PO X b6 (tO C (pure b6)):=by
 rintro pins s σ H Q I ⟨c0,rfl,rfl,f,h⟩;rw[ak]at h;exact AI pins s c0.σ c0.H Q I (h c0 rfl rfl f (Nx.refl c0))
theorem wy(f:PE X a (HK C ma)):PO X (a5 a) (tO C (ma >>= Ej)):=by
 rintro pins s σ H Q I ⟨c0,rfl,rfl,g,h⟩;refine AJ f pins s c0.σ c0.H Q I (aV g h λx c v t w=>?_);obtain⟨k,u⟩:=x;unfold Ej at w;split at w
 ·rename_i i e
  dsimp only at e
  subst e;rw[ak]at w;exact⟨i,t.rx.int t.ok,w c t.hσ rfl t.ok t.nx⟩
 ·exact(bj.mp w).elim
theorem Er{lo hi:Option Int}(k:C.K=X.K)(g:c.σ=c0.σ)(f:Ok C c)(n:Nx c0 c)(i:aL C c0 c x.1 x.2 j)(h:lS x lo hi=a5 r)(q:cp C c0 Q r c.st):
  FP X.K j lo hi c.H Q\/FU j lo hi c.H Q:=by
 unfold lS at h;split at h
 ·split at h
  ·rename_i l;cases h;obtain⟨a',vs,ex,o,t⟩:=i.list f;exact .inl ⟨a',vs,ex,k▸o,λp u=>q.list g f n ((cF l t).cut lo hi) p u⟩
  ·cases h
 ·split at h
  ·cases h;exact .inr ⟨_,i.str f,by assumption,q.flat g f n rfl⟩
  ·cases h
 ·cases h
theorem Bz{lo hi:Option uv}(k:C.K=X.K)(n:PE X a (HK C ma))(hl:PO X lo (tO C ml))(o:PO X hi (tO C u)):
  PE X (.Subscript a (.Slice lo hi b6 p2) pos) (HK C (ma >>= λx=>ml >>= λl=>u >>= λh=>aC [x] >>= λ_=>M.H9 (lS x l h))):=by
 refine PE.weak (xq (Mw.or AM DU) n hl o) ?_;rintro σ H Q ⟨c0,rfl,rfl,y,h⟩;refine aV y h λx c v t w=>?_;rw[af]at w;refine⟨c,t.hσ,rfl,t.ok,w.mono λl st2 g z A B D G=>?_⟩;subst B;rw[af]at g;refine⟨z,A,rfl,D,g.mono λO T f I i J L N=>?_⟩;subst J;rw[af,bY]at f;obtain⟨r,e,q⟩:=bQ.mp f.2;have j:Nx c I:=G.trans N;exact Er k i L (t.nx.trans j) ((t.rx.w.on t.ok j (i.trans t.hσ.symm)).t f.1) e q
end
section
variable{X:Cx}{C:Ct}{pins:List (hH×Obj)}{s:gj}{c0 c c1:Cf}
variable{a b d e:uv}{es:List uv}{m ma mb md:M (Kd×U)}{ms:M (List (Kd×U))}{ta tb:M Bool}{pos p p2:Pos}
noncomputable def Bf.val:Bf->dt
 |.len=>.builtin "len"|.sorted=>.builtin "sorted"|.repr=>.builtin "repr"|.max=>.builtin "max"|.min=>.builtin "min"|.all=>.builtin "all"|.any=>.builtin "any"
 |.list=>.type "list"|.tuple=>.type "tuple"|.str=>.type "str"|.int=>.type "int"
 |.dict=>.type "dict"
 |.sum=>.builtin "sum"
noncomputable def Bf.name:Bf->Str
 |.len=>"len"|.sorted=>"sorted"|.repr=>"repr"|.max=>"max"|.min=>"min"|.all=>"all"|.any=>"any"
 |.list=>"list"|.tuple=>"tuple"|.str=>"str"|.int=>"int"
 |.dict=>"dict"
 |.sum=>"sum"
theorem call_of(g:d_ X f r)(I:Inv X pins c.σ c.H s)(rv:Vals vs us)(h:r vs c.H Q):et (hE X.prog X.w) X.A (Mu f us) (EP X pins c.σ Q) X.xe s:=g pins s c.σ c.H vs us Q I rv h
noncomputable def O_:U->V
 |.str x=>.str x
 |.int n=>.int n
 |_=>.ref 0
theorem BA{S:hH->Prop}(h:N7 u=cb):Rep C S H u (O_ u):=by
 cases u<;>first|rfl|cases h
theorem aj.UD{S:hH->Prop}:∀{ps:List (Str×U)},(∀p∈ps,N7 p.2=cb)->aj C S H (ps.map (·.2)) (ps.map λp=>O_ p.2)
 |[],_=>rfl
 |p::ps,h=>⟨_,_,rfl,BA (h p (by simp)),aj.UD λq f=>h q (by simp[f])⟩
theorem aj.UE{S:hH->Prop}(k:C.K=X.K):∀{us:List U}{ps:List (Str×U)}{vs:List V},kK us=a5 ps->aj C S H us vs->(∀p∈ps,N7 p.2=cb)/\∃as:List hH,vs=as.map V.ref/\as.length=ps.length/\∀(j:Nat) a p,as[j]?=a5 a->ps[j]?=a5 p->Im X.K H a [.str p.1,O_ p.2]
 |[],ps,vs,e,h=>by
  cases e;cases h;exact⟨by simp,[],rfl,rfl,by simp⟩
 |u::us,ps,vs,e,h=>by
  obtain⟨v,r,rfl,o,q⟩:=h;unfold kK at e;split at e
  ·rename_i f;cases f
  ·rename_i x y N f;cases f;split at e
   ·rename_i l;rw[fS]at e;obtain⟨O,e,rfl⟩:=e;obtain⟨t,as,rfl,w,z⟩:=aj.UE k e q;obtain⟨a,ws,rfl,n,A⟩:=o;obtain⟨Q,T,rfl,B,D⟩:=A;obtain⟨G,Y,rfl,I,J⟩:=D;cases B;cases J;have L:G=O_ y:=by
     cases y<;>first|exact I|cases l
    subst L;rw[k]at n;refine⟨λp hp=>?_,a::as,rfl,by simp[w],λj b p g i=>?_⟩
    ·rcases fR.mp hp with rfl|hp
     ·exact l
     ·exact t p hp
    ·cases j with
     |zero=>simp at g i;subst g i;exact n
     |succ j=>exact z j b p (by simpa using g) (by simpa using i)
   ·cases e
  ·cases e
theorem aj.ug{S:hH->Prop}{f:α->U}{g:α->V}:∀{l:List α},(∀x∈l,Rep C S H (f x) (g x))->aj C S H (l.map f) (l.map g)
 |[],_=>rfl
 |x::l,h=>⟨g x,l.map g,rfl,h x (by simp),aj.ug λy i=>h y (by simp[i])⟩
theorem aj.UG{S:hH->Prop}(l:C.K=X.K):∀{us:List U}{ks:List Str}{vs:List V},mO us=a5 ks->aj C S H us vs->∃as:List hH,vs=as.map V.ref/\as.length=ks.length/\∀(j:Nat) a k,as[j]?=a5 a->ks[j]?=a5 k->∃b,Im X.K H a [.str k,.int b]
 |[],ks,vs,e,h=>by
  cases e;cases h;exact⟨[],rfl,rfl,by simp⟩
 |u::us,ks,vs,e,h=>by
  obtain⟨v,r,rfl,o,q⟩:=h;unfold mO at e;split at e
  ·rename_i f;cases f
  ·rename_i x nn G f;cases f;rw[fS]at e;obtain⟨I,e,rfl⟩:=e;obtain⟨as,rfl,t,w⟩:=aj.UG l e q;obtain⟨a,ws,rfl,n,y⟩:=o;obtain⟨J,L,rfl,z,A⟩:=y;obtain⟨N,O,rfl,B,D⟩:=A;cases z;cases D;cases B;rw[l]at n;refine⟨a::as,rfl,by simp[t],λj c p g i=>?_⟩;cases j with
   |zero=>simp at g i;subst g i;exact⟨_,n⟩
   |succ j=>exact w j c p (by simpa using g) (by simpa using i)
  ·cases e
theorem bE(h:fF f rs=a5 r):∃x,rs=[x]/\f x=a5 r:=by
 unfold fF at h;split at h
 ·exact⟨_,rfl,h⟩
 ·cases h
theorem CS(L:X.calm=cb)(D:C.K=X.K)(Qo:X.A.guards=a5 [])(N9:X.A.units+60<Ml)(t:J6 C c0 c rs vs)(I:Inv X pins c.σ c.H s)(rv:Vals vs us)(h:JJ f rs=a5 r)(q:cp C c0 Q r c.st):
  et (hE X.prog X.w) X.A (Mu f.val us) (EP X pins c.σ Q) X.xe s:=by
 have z:=t.hσ;have g:=t.ok;have n:=t.nx;cases f with
 |len =>
  obtain⟨x,rfl,hz⟩:=bE (f:=λx=>(D_ x.2).map λ(n:Nat)=>(Kd.loc,U.int (n:Int))) h;clear h;have h:=hz;clear hz;rw[fS]at h;obtain⟨k,e,rfl⟩:=h;obtain⟨v,rfl,y⟩:=t.one;obtain⟨kx,N⟩:=x;unfold D_ at e;split at e
  ·rename_i xs B;have B:N=.lst xs:=B;subst B;cases e;obtain⟨a',ws,ex,l,o⟩:=y.list g;rw[o.len]at q;exact call_of gX I rv ⟨a',ws,by rw[ex],.inl (D▸l),q.flat z g n rfl⟩
  ·rename_i xs B;have B:N=.tup xs:=B;subst B;cases e;obtain⟨a',ws,ex,l,o⟩:=y.tuple g;rw[D]at l;rw[o.len]at q;exact call_of gX I rv ⟨a',ws,by rw[ex],.inr l,q.flat z g n rfl⟩
  ·rename_i xs B;have B:N=.str xs:=B;subst B;split at e
   ·cases e;exact call_of nW I rv ⟨_,by rw[y.str g],by assumption,q.flat z g n rfl⟩
   ·cases e
  ·rename_i ks us B;have B:N=.HE ks us:=B;subst B;cases e;obtain⟨a',kvs,ex,l,o,_⟩:=y.dict g;have Na:ks.length=kvs.length:=by rw[<-cc (f:=(·.1)) (as:=kvs),o,cc]
   rw[Na]at q;exact call_of qd I rv ⟨a',kvs,by rw[ex],l,q.flat z g n rfl⟩
  ·cases e
 |sorted =>
  obtain⟨x,rfl,hz⟩:=bE (f:=Ea) h;clear h;have h:=hz;clear hz;obtain⟨v,rfl,y⟩:=t.one;unfold Ea at h;split at h
  ·obtain⟨a',ws,ex,l,o⟩:=y.list g;unfold wc at h;split at h
   ·rename_i ss e;have J:=cP e;subst J;rw[aj.strs]at o;subst o;split at h
    ·cases h;exact call_of jm I rv ⟨a',ss,by rw[ex],.inl (D▸l),by assumption,λp G=>q.list z g n (aj.strs.mpr rfl) p G⟩
    ·cases h
   ·unfold Bg at h;obtain⟨ks,e,h⟩:=qp.mp h;split at h
    ·rename_i hh;cases h;subst ex;obtain⟨u,rfl,Y⟩:=vals1 rv;cases Y;obtain⟨as,rfl,hl,ht⟩:=aj.UG D e o;have O:=cF hh.2.2 o;refine rQ I (D▸l) hl ht hh.2.1 ⋯ λp G=>q.list z g n (aj.ug λi hi=>?_) p G;have Jv:i<as.length:=by
      have:=rr.mp ((cn _).mem_iff.mp hi);lia
     have WO:=O.len;rw[cc]at WO;obtain⟨w,hw,ac⟩:=O.get (oT (show i < _ by lia));have e1:w=V.ref (as.getD i 0):=by
      have:(as.map V.ref)[i]?=a5 (V.ref (as.getD i 0)):=by simp[Ii,Jv]
      rw[this]at hw;cases hw;rfl
     rw[<-e1,<-YZ];exact ac
    ·cases h
  ·obtain⟨a',kvs,ex,l,o,_⟩:=y.dict g;split at h
   ·cases h;exact call_of (iU L) I rv ⟨a',kvs,_,by rw[ex],l,o,by assumption,λp G=>q.list z g n (aj.strs.mpr rfl) p G⟩
   ·cases h
  ·rw[qp]at h;obtain⟨ss,e,h⟩:=h;have J:=cP e;subst J;obtain⟨a',ws,ex,l,o⟩:=y.tuple g;rw[D]at l;rw[aj.strs]at o;subst o;split at h
   ·cases h;exact call_of jm I rv ⟨a',ss,by rw[ex],.inr l,by assumption,λp G=>q.list z g n (aj.strs.mpr rfl) p G⟩
   ·cases h
  ·cases h
 |list =>
  obtain⟨x,rfl,hz⟩:=bE (f:=Eb) h;clear h;have h:=hz;clear hz;obtain⟨v,rfl,y⟩:=t.one;unfold Eb at h;split at h
  ·obtain⟨a',ws,ex,l,o⟩:=y.list g;split at h
   ·cases h;exact call_of gY I rv ⟨a',ws,by rw[ex],.inl (D▸l),λp G=>q.list z g n (cF (by assumption) o) p G⟩
   ·cases h
  ·obtain⟨a',ws,ex,l,o⟩:=y.tuple g;rw[D]at l;split at h
   ·cases h;exact call_of gY I rv ⟨a',ws,by rw[ex],.inr l,λp G=>q.list z g n (cF (by assumption) o) p G⟩
   ·cases h
  ·cases h
 |tuple =>
  obtain⟨x,rfl,hz⟩:=bE (f:=Ec) h;clear h;have h:=hz;clear hz;obtain⟨v,rfl,y⟩:=t.one;unfold Ec at h;split at h
  ·obtain⟨a',ws,ex,l,o⟩:=y.list g;cases h;exact call_of f9 I rv ⟨a',ws,by rw[ex],.inl ⟨D▸l,λp G=>q.tupK z g n o p G⟩⟩
  ·obtain⟨a',ws,ex,l,o⟩:=y.tuple g;have K4:=l;rw[D]at K4;cases h;exact call_of f9 I rv ⟨a',ws,by rw[ex],.inr ⟨K4,q c (.ref a') z rfl g n (aL.item ⟨a',ws,rfl,l,o⟩)⟩⟩
  ·cases h
 |str =>
  obtain⟨x,rfl,hz⟩:=bE (f:=Bh) h;clear h;have h:=hz;clear hz;obtain⟨v,rfl,y⟩:=t.one;unfold Bh at h;split at h
  ·split at h
   ·cases h;exact call_of nP I rv ⟨_,by rw[y.int g],by assumption,q.flat z g n rfl⟩
   ·cases h
  ·cases h
 |max =>
  have h:we cL rs=a5 r:=h;unfold we at h;split at h
  ·obtain⟨v,v',rfl,y,ty⟩:=t.two;cases h;exact call_of (vJ L) I rv ⟨_,_,by rw[y.int g,ty.int g],q.flat z g n rfl⟩
  ·cases h
 |min =>
  have h:we cb rs=a5 r:=h;unfold we at h;split at h
  ·obtain⟨v,v',rfl,y,ty⟩:=t.two;cases h;exact call_of (vK L) I rv ⟨_,_,by rw[y.int g,ty.int g],q.flat z g n rfl⟩
  ·cases h
 |all =>
  obtain⟨x,rfl,hz⟩:=bE (f:=Ed) h;clear h;have h:=hz;clear hz;obtain⟨v,rfl,y⟩:=t.one;unfold Ed at h;split at h
  ·rw[fS]at h;obtain⟨bs,e,rfl⟩:=h;have J:=kQ e;subst J;obtain⟨a',ws,ex,l,o⟩:=y.list g;have:=o.UB;subst this;exact call_of (xD L) I rv ⟨a',bs,by rw[ex],D▸l,q.flat z g n rfl⟩
  ·cases h
 |sum =>
  obtain⟨x,rfl,hz⟩:=bE (f:=Ef) h;clear h;have h:=hz;clear hz;obtain⟨v,rfl,y⟩:=t.one;unfold Ef at h;split at h
  ·rw[fS]at h;obtain⟨ns,e,rfl⟩:=h;have J:=fI e;subst J;obtain⟨a',ws,ex,l,o⟩:=y.list g;have O:=aj.ints o;subst O;exact call_of (x9 L) I rv ⟨a',ns,by rw[ex],D▸l,q.flat z g n rfl⟩
  ·cases h
 |dict =>
  obtain⟨x,rfl,hz⟩:=bE (f:=Ee) h;clear h;have h:=hz;clear hz;obtain⟨v,rfl,y⟩:=t.one;obtain⟨u,rfl,Y⟩:=vals1 rv;unfold Ee at h;split at h
  ·obtain⟨ps,e,h⟩:=qp.mp h;obtain⟨a',ws,ex,l,o⟩:=y.list g;subst ex;cases Y;obtain⟨hf,as,rfl,hl,ht⟩:=aj.UE D e o;split at h
   ·cases h;exact A_ (ps:=ps.map λp=>(p.1,O_ p.2)) L I (D▸l) (by rw[cc];exact hl) (λj a p e1 T=>by
     rw[ki,fS]at T;obtain⟨p0,T,rfl⟩:=T;exact ht j a p0 e1 T) (by rw[i5];assumption) λd hd=>q.root z g n d hd ⟨_,az,by rw[i5,i5,i5];rfl,by rw[i5,i5];exact aj.UD hf⟩
   ·cases h
  ·cases h
 |_=>cases h
theorem BB{id:String}(g:X.calm=cb)(i:C.K=X.K)(j:X.A.guards=a5 [])(k:X.A.units+60<Ml)(l:f.val=.builtin id)(n:Gl X x)(o:X.mg x=b6)(u:D' x=a5 (.builtin id))(v:x≠"__name__")(y:(x==("__debug__":Str))=cL)
  (B:PA X (e::es) (Jr C ms)) (D:js (e::es) X.env=(cL,H0 e X.env)::js es X.env) (G:(Kj pos (js es X.env)).any (·.1)=cL) :
  PE X (.Call (.Name x p) (e::es) [] pos) (HK C (ms >>= λrs=>aC rs >>= λ_=>M.H9 (JJ f rs))):=by
 rintro pins s σ H Q I ⟨c0,rfl,rfl,J,h⟩;refine y4 (di I n o u ?_ v y);refine Ti (HJ (args B I J h pos) λus s1 ⟨rs,c,vs,t,L,rv,w⟩=>?_) D G;obtain⟨r,e,q⟩:=bQ.mp w;have z:=CS g i j k t L rv e q;rw[l,t.hσ]at z;exact z
theorem BC(g:X.calm=cb)(i:C.K=X.K)(j:X.A.guards=a5 [])(k:X.A.units+60<Ml)(l:f.val=.type T)(n:Gl X x)(o:X.mg x=b6)(u:D' x=a5 (.type T))(v:x≠"__name__")(y:(x==("__debug__":Str))=cL)
  (B:PA X (e::es) (Jr C ms)) (D:js (e::es) X.env=(cL,H0 e X.env)::js es X.env) (G:(Kj pos (js es X.env)).any (·.1)=cL) :
  PE X (.Call (.Name x p) (e::es) [] pos) (HK C (ms >>= λrs=>aC rs >>= λ_=>M.H9 (JJ f rs))):=by
 rintro pins s σ H Q I ⟨c0,rfl,rfl,J,h⟩;refine y4 (di I n o u ?_ v y);refine MZ (HJ (args B I J h pos) λus s1 ⟨rs,c,vs,t,L,rv,w⟩=>?_) D G;obtain⟨r,e,q⟩:=bQ.mp w;have z:=CS g i j k t L rv e q;rw[l,t.hσ]at z;exact z
noncomputable def J4.name:J4->Str
 |.str=>"str"|.list=>"list"|.tuple=>"tuple"|.int=>"int"|.bool=>"bool"
noncomputable def J4.nm:J4->String
 |.str=>"str"|.list=>"list"|.tuple=>"tuple"|.int=>"int"|.bool=>"bool"
theorem BD(T:J4):D' T.name=a5 (.type T.nm)/\T.name≠"__name__"/\(T.name==("__debug__":Str))=cL:=by
 cases T<;>exact⟨by decide +kernel,by decide +kernel,by decide +kernel⟩
theorem iq(T:J4):Ã (.type T.nm)=pure (.type "type"):=by cases T<;>kernel_rfl
theorem jJ(T:J4):OM (.type "str") (.type T.nm)=pure (df (T=.str)):=by cases T<;>(rw[vr];kernel_rfl)
theorem sub_int(T:J4):OM (.type "int") (.type T.nm)=pure (df (T=.int)):=by cases T<;>(rw[vr];kernel_rfl)
theorem ne_str{T:J4}(h:¬T=.str):(qb "str"==qb T.nm)=cL:=by cases T<;>first|exact absurd rfl h|decide
theorem ne_int{T:J4}(h:¬T=.int):(qb "int"==qb T.nm)=cL:=by cases T<;>first|exact absurd rfl h|decide
theorem qk(T:J4):OM (.type "list") (.type T.nm)=pure (df (T=.list)):=by cases T<;>(rw[vr];kernel_rfl)
theorem uh(T:J4):OM (.type "tuple") (.type T.nm)=pure (df (T=.tuple)):=by cases T<;>(rw[vr];kernel_rfl)
theorem BE{T:J4}(h:¬T=.list):(qb "list"==qb T.nm)=cL:=by cases T<;>first|exact absurd rfl h|decide
theorem Es{T:J4}(h:¬T=.tuple):(qb "tuple"==qb T.nm)=cL:=by cases T<;>first|exact absurd rfl h|decide
theorem Et{b:Bool}(B:C.K=X.K)(t:MK C c0 c x v)(I:Inv X pins c.σ c.H s)(rv:RelV v i)(h:qj x.2 T=a5 b)(q:∀l,Q (.bool b) {s with toks:=l}):
  et (hE X.prog X.w) X.A (Mu (.builtin "isinstance") [i,.type T.nm]) Q X.xe s:=by
 obtain⟨k,u⟩:=x;obtain⟨N,j,n,r⟩:=t;have G:Q (.bool b) s:=q s.toks
 dsimp only at h r
 have g:∀{D:String},b=cb->s.TypeIs i D->OM (.type D) (.type T.nm)=pure cb->et (hE X.prog X.w) X.A (Mu (.builtin "isinstance") [i,.type T.nm]) Q X.xe s:=λe J hs=>by
  subst e;exact ò J (iq T) hs G
 unfold qj at h;split at h
 ·cases h;have e:v=_:=r.str j;subst e;obtain⟨l,rfl⟩:=rv;by_cases f:T=.str
  ·subst f;exact g (by simp) (Yz s _ l) (jJ .str)
  ·rw[Ă f]at q;exact Ue (isinstance_false_str (ne_str f) (iq T) (by rw[jJ,Ă f])) (q _)
 ·cases h;have e:v=_:=r.int j;subst e;obtain⟨l,rfl⟩:=rv;by_cases f:T=.int
  ·subst f;exact g (by simp) (typeIs_int s _ l) (sub_int .int)
  ·rw[Ă f]at q;exact Ue (isinstance_false_int (ne_int f) (iq T) (by rw[sub_int,Ă f])) (q _)
 ·cases h;have e:v=_:=r.bl j;subst e;cases rv;exact g rfl (PySem.typeIs_bool s _) (by rw[vr];kernel_rfl)
 ·cases h;have e:v=_:=r.bl j;subst e;cases rv;exact g rfl (PySem.typeIs_bool s _) (by rw[vr];kernel_rfl)
 ·cases h;obtain⟨a',ws,rfl,y,L⟩:=r.list j;cases rv;rw[B]at y;obtain⟨its,_,pl,_⟩:=I.list y;obtain⟨o,ho,z,_⟩:=pl.isList;by_cases f:T=.list
  ·subst f;exact g (by simp) ⟨o,ho,z⟩ (qk .list)
  ·rw[Ă f]at q;exact Ue (isinstance_false_list (BE f) (iq T) (by rw[qk,Ă f])) ⟨⟨o,ho,z⟩,q _⟩
 ·cases h;obtain⟨a',ws,rfl,y,L⟩:=r.tuple j;cases rv;rw[B]at y;obtain⟨its,_,⟨o,ho,z,_⟩,_⟩:=I.tuple y;by_cases f:T=.tuple
  ·subst f;exact g (by simp) ⟨o,ho,z⟩ (uh .tuple)
  ·rw[Ă f]at q;exact Ue (isinstance_false_tuple (Es f) (iq T) (by rw[uh,Ă f])) ⟨⟨o,ho,z⟩,q _⟩
 ·cases h
theorem ui(g:C.K=X.K)(i:Gl X "isinstance")(j:X.mg "isinstance"=b6)(k:Gl X T.name)(l:X.mg T.name=b6)(n:PE X a (HK C ma))(hs:js [a,.Name T.name p2] X.env=(cL,H0 a X.env)::js [.Name T.name p2] X.env):
  PE X (.Call (.Name "isinstance" p) [a,.Name T.name p2] [] pos) (HK C (ma >>= λx=>M.H9 (qj x.2 T) >>= λb=>pure (.loc,.bl b))):=by
 rintro pins s σ H Q I ⟨c0,rfl,rfl,o,h⟩;obtain⟨q,r,u⟩:=BD T;refine y4 (di I i j (show D' "isinstance"=a5 (.builtin "isinstance") by decide +kernel) ?_ (by decide +kernel) (by decide +kernel));refine Ti (HJ (eR n (eR (As (v:=.ty T.nm) k l q rfl r u) iN) hs pos pins s c0.σ c0.H (λvs H'=>∃x c v b,MK C c0 c x v/\c.H=H'/\vs=[v,.ty T.nm]/\qj x.2 T=a5 b/\cp C c0 Q (.loc,.bl b) c.st) I ?_) λus s1 ⟨vs,N,f,y,x,c,v,b,t,e,A,B,w⟩=>?_) hs (by rfl)
 ·refine aV o h λx c v t w=>?_;rw[af]at w;obtain⟨b,e,w⟩:=bQ.mp w;rw[ak]at w;exact⟨x,c,v,b,t,rfl,rfl,e,w⟩
 ·subst e A;obtain⟨O,Y,rfl,D,G⟩:=vals2 y;cases G;have J:Inv X pins c.σ c.H s1:=by rw[t.hσ];exact f
  have z:=Et (Q:=EP X pins c0.σ Q) g t J D B λL=>⟨.bl b,c.H,f.tok L,rfl,w c (.bl b) t.hσ rfl t.ok t.nx rfl⟩
  exact z
abbrev LQ(P:H8)(w:Kp)(K:PySem.W.Frag)(H:Hp)(f:hH->Prop):Ct:=⟨P,w,K,H,f,λ_=>False⟩
structure Back(C:Ct)(H H':Hp)(S':hH->Prop)(k:Kd)(u:U)(v:V):Prop where
 same:AR H H'
 new:∀a,S' a->H a=b6/\∃o,H' a=a5 o
 own:k=.own->∃r,v=.ref r/\H r=b6/\¬S' r/\cU C S' H' r u
 loc:k=.loc->Rep C S' H' u v
 any:k=.any->Rep C (PS C S') H' u v
def spT(P:H8)(w:Kp)(K:PySem.W.Frag)(F:List U->Option (Ex (Kd×U)))(g:Nat):Sp:=λvs H Q _=>vs.length=g/\∃us k u f,F us=a5 (.ok (k,u))/\(k=.own\/k=.loc\/k=.any)/\(∀a,f a->Ki H a) /\
 aj (LQ P w K H f) f H us vs/\∀v H' S',Back (LQ P w K H f) H H' S' k u v->Q v H'
theorem J6.read(t:J6 C c0 c rs vs):aj C (Ki c.H) c.H (rs.map (·.2)) vs:=by
 have f:∀(l:List (Kd×U)) (w:List V),cO C c0 c l w->bp l c.st->aj C (Ki c.H) c.H (l.map (·.2)) w:=by
  intro l;induction l with
  |nil=>intro w h _;exact h
  |cons r l g =>
   intro w h hs;obtain⟨v,t',rfl,i,j,_⟩:=h;rw[dA]at hs;exact⟨v,t',rfl,(i.t hs.1).read t.ok,g t' j hs.2⟩
 exact f rs vs t.rep t.ML
theorem Back.here(hk:k=.own\/k=.loc)(i:c.σ=c0.σ)(f:Ok C c)(n:Nx c0 c)(q:j.Eqv C)(h:Back j c.H H' S' k u v)(w:cp C c0 Q (k,u) c.st):Q v H':=by
 obtain⟨l,t⟩:=f.grow (S':=λa=>c.S a\/S' a) h.same (λa z=>z.imp id λz=>h.new a z) λa=>.inl;have x:=n.trans t;refine w {c with H:=H',S:=λa=>c.S a\/S' a} v i rfl l x ?_;rcases hk with rfl|rfl
 ·obtain⟨r,e,g,y,A⟩:=h.own rfl;obtain⟨G,B,I,J,D⟩:=f.jB g;refine⟨r,e,n.none g,λz=>z.elim B y,D,(A.cg q).mv (.up λa=>.inr) λo q=>q⟩
 ·exact((h.loc rfl).cg q).mv (.up λa=>.inr)
theorem yt(o:C.P=X.prog)(x:C.w=X.w)(y:C.K=X.K)(L:Γ f=F)(hk:∀us k u,F us=a5 (.ok (k,u))->(k=.own\/k=.loc\/k=.any)/\us.length=B)
  (G:j6 X.prog X.w X.K X.mg X.base K9 k fa N ps (spT X.prog X.w X.K F B)) (O:fX k X.A) (T:Gl X f) (Y:X.mg f=a5 (.ref fa)) (Kh:PySem.W.keepIn X.K (.ref fa)=cb) (j:Binds X.K N ps [])
  (Nh:(f==("__debug__":Str))=cL) (ha:PA X (e::es) (Jr C ms)) (he:js (e::es) X.env=(cL,H0 e X.env)::js es X.env) (Iq:(Kj pos (js es X.env)).any (·.1)=cL) :
  PE X (.Call (.Name f p) (e::es) [] pos) (HK C (ms >>= λrs=>aC rs >>= λ_=>kL Γ f (rs.map (·.2)))):=by
 rintro pins s σ H Q I ⟨c0,rfl,rfl,ok,h⟩;refine y4 (nL I T Y ?_ Nh);refine PySem.W.callWith_K (h₀:=X.base) I.ok.mod.PM Kh (HJ (args ha I ok h pos) λus s1 ⟨rs,c,vs,t,D,rv,w⟩=>⟨D.MS,?_⟩) he Iq;obtain⟨r,st',g,q⟩:=w;unfold kL at g;rw[L]at g;cases i:F (rs.map (·.2)) with
 |none=>rw[i]at g;cases g
 |some r' =>
  rw[i]at g;split at g
  ·cases g
  ·rename_i z;cases z
  rename_i WS e3;cases e3;cases g;obtain⟨l,u⟩:=r;obtain⟨k0,k2⟩:=hk _ _ _ i;have k1:l=.own\/l=.loc:=by
   rcases k0 with z|z|z
   ·exact .inl z
   ·exact .inr z
   ·subst z;exact(WS u rfl).elim
  have n:C.Eqv (LQ X.prog X.w X.K c.H (Ki c.H)):=⟨o,x,y⟩
  have Ly:(LQ X.prog X.w X.K c.H (Ki c.H)).Eqv C:=⟨o.symm,x.symm,y.symm⟩
  have J:=t.read;have JI:spT X.prog X.w X.K F B vs c.H (λv H'=>Q v H') E0:=⟨by rw[<-J.len];exact k2,rs.map (·.2),l,u,Ki c.H,i,k0,λ_ z=>z,J.cg n,λv H' S' j=>j.here k1 t.hσ t.ok t.nx Ly q⟩
  have z:=xp (Q:=Q) G O j .nil CL D rv (by rw[uk];exact JI);rw[t.hσ]at z;exact z
end
section
noncomputable def Mf.id:Mf->String
 |.split=>"str.split"|.join=>"str.join"|.partition=>"str.partition"|.endswith=>"str.endswith"
noncomputable def Mf.name:Mf->Str
 |.split=>"split"|.join=>"join"|.partition=>"partition"|.endswith=>"endswith"
theorem yu(h:lT f u rs=a5 r):∃x,u=.str x:=by
 unfold lT at h;split at h
 ·exact⟨_,rfl⟩
 ·cases h
theorem Eu(k:C.K=X.K)(t:J6 C a c (x::rs) (b::vs))(I:Inv X pins c.σ c.H s)(l:RelV b v)(rv:Vals vs us)(h:lT f x.2 rs=a5 r)(q:cp C a Q r c.st):
  et (hE X.prog X.w) X.A (Mu (.builtin f.id) (v::us)) (EP X pins c.σ Q) X.xe s:=by
 have m:=t.hσ;have d:=t.ok;have n:=t.nx;obtain⟨o,p⟩:=x;have hs:=dA.mp t.ML;obtain⟨G,J,u,g,i,-⟩:=t.rep;cases u;have y:aL C a c o p b:=g.t hs.1;have one:∀{r:Kd×U},cO C a c [r] vs->bp [r] c.st->∃v,vs=[v]/\aL C a c r.1 r.2 v:=λ{r} h s=>by
  obtain⟨v,t',rfl,g,i,_⟩:=h;cases i;exact⟨v,rfl,g.t s⟩
 dsimp only at h
 unfold lT at h;split at h
 ·rw[qp]at h;obtain⟨ss,e,h⟩:=h;have z:=cP e;subst z;obtain⟨w,rfl,B⟩:=one i hs.2;obtain⟨a',ws,ex,D,j⟩:=B.list d;rw[aj.strs]at j;subst j;split at h
  ·cases h;exact AY pins s c.σ c.H b [w] v us Q I l rv ⟨_,a',ss,y.str d,by rw[ex],k▸D,by assumption,q.flat m d n rfl⟩
  ·cases h
 ·cases h
theorem BF(N:C.K=X.K)(slot:ZV "str" name f.id)(O:Ã (.builtin f.id)=pure (.type "method_descriptor"))(ho:PE X o (HK C m))(T:PA X (e::es) (Jr C ms))
  (Y:O2 o name X.env (H0 o X.env)=H0 o X.env)
  (I_:((Kj d (js (e::es) X.env)).all (λx=>!x.1)&&(Qi d (MP [] X.env)).all (λx=>x.1.isSome)
   && df ((e::es).length+([]:List NY).length+(if ([]:List NY).isEmpty then 0 else 1)<30))=cb)
  (HU:(j.endLine==d.line)=cb) (hs:js (e::es) X.env=(cL,H0 e X.env)::js es X.env) (IV:(Kj d (js es X.env)).any (·.1)=cL) :
  PE X (.Call (.Attribute o name j) (e::es) [] d) (HK C (m >>= λx=>ms >>= λrs=>aC (x::rs) >>= λ_=>M.H9 (lT f x.2 rs))):=by
 rintro pins s σ H Q I ⟨a,rfl,rfl,ok,h⟩;refine Zh Y I_ HU rfl (HJ (ho pins s a.σ a.H (λk u=>∃x b,b.H=u/\MK C a b x k/\W (ms >>= λrs=>aC (x::rs) >>= λ_=>M.H9 (lT f x.2 rs)) b.st (cp C a Q)) I (aV ok h λx c v t w=>⟨x,c,rfl,t,w⟩)) ?_);rintro v s1 ⟨k,u,y,A,x,b,rfl,t,w⟩;have Ni:∃z,x.2=.str z:=by
  rw[af]at w;obtain⟨rs,st2,_,w⟩:=w;rw[af]at w;obtain⟨_,Il,_,w⟩:=w;obtain⟨r,e,_⟩:=bQ.mp w;exact yu e
 obtain⟨z,hz⟩:=Ni;have B:=t.rx;rw[hz]at B;have ev:=B.str t.ok;have ty:P0 X.K "str" k b.H:=by rw[ev];rfl
 obtain⟨h1,h2⟩:=nX y A ty;refine⟨"str",f.id,PySem.F.plainAttrs_str,slot,O,h1,h2,?_⟩;rw[af]at w;have D:=T d pins s1 a.σ b.H (λvs G=>∃rs g,g.H=G/\J6 C a g (x::rs) (k::vs)/\W (M.H9 (lT f x.2 rs)) g.st (cp C a Q)) y ⟨b,t.hσ,rfl,t.ok,w.mono λrs st2 n g vs J e4 Ie L l=>by
  rw[af,bY]at n;subst e4;exact⟨rs,g,rfl,⟨J,Ie,t.nx.trans L,⟨k,vs,rfl,t.rx.w.on t.ok L (J.trans t.hσ.symm),l.from t.nx,λhk i r' v' e5 e6 Ip=>kP t.rx.w (l.get e5 e6) hk Ip⟩,n.1⟩,n.2⟩⟩
 rw[hs]at D ⊢;refine IZ (by show(cL||(Kj d (js es X.env)).any (·.1))=cL;rw[IV]<;>rfl) (NB ?_);refine HJ D ?_;rintro us s2 ⟨vs,G,I2,l,rs,g,rfl,p,w2⟩;obtain⟨r,e,q⟩:=bQ.mp w2;have z:=Eu N p (by rw[p.hσ];exact I2) A l e q;rw[p.hσ]at z;exact z
end
section
variable{X:Cx}{C:Ct}{pins:List (hH×Obj)}{s:gj}{c0 c c1:Cf}
variable{e:uv}{es:List uv}{ms:M (List (Kd×U))}{pos p p2 pos2:Pos}
noncomputable def B2.out:B2->dt
 |.Lv=>.type "tuple"|.JA=>.type "list"|.sset=>.builtin "sorted"|.lH=>.builtin "len"
noncomputable def B2.Qp:B2->dt
 |.Lv=>.type "reversed"|.JA=>.type "reversed"|.sset=>.type "set"|.lH=>.type "set"
noncomputable def B2.oB:B2->Str
 |.Lv=>"tuple"|.JA=>"list"|.sset=>"sorted"|.lH=>"len"
noncomputable def B2.ir:B2->Str
 |.Lv=>"reversed"|.JA=>"reversed"|.sset=>"set"|.lH=>"set"
theorem aj.rev{S:hH->Prop}:∀{us:List U}{vs:List V},aj C S H us vs->aj C S H us.reverse vs.reverse
 |[],vs,h=>by cases h;exact rfl
 |u::us,vs,h=>by
  obtain⟨v,r,rfl,a,b⟩:=h;rw[RX,RX];exact(aj.rev b).append ⟨v,[],rfl,a,rfl⟩
theorem mP(i:C.K=X.K)(j:Ok C c)(l:aL C c0 c k u v)(h:ic u=a5 ss):∃a b,v=.ref a/\(Ij X.K c.H a (b.map V.str)\/Im X.K c.H a (b.map V.str))/\b.length+1<IJ/\ss=aN b:=by
 unfold ic at h;split at h
 ·rw[qp]at h;obtain⟨b,e,h⟩:=h;have g:=cP e;subst g;obtain⟨a',ws,ex,f,d⟩:=l.list j;rw[aj.strs]at d;subst d;split at h
  ·cases h;exact⟨a',b,ex,.inl (i▸f),by assumption,rfl⟩
  ·cases h
 ·rw[qp]at h;obtain⟨b,e,h⟩:=h;have g:=cP e;subst g;obtain⟨a',ws,ex,f,d⟩:=l.tuple j;rw[aj.strs]at d;subst d;rw[i]at f;split at h
  ·cases h;exact⟨a',b,ex,.inr f,by assumption,rfl⟩
  ·cases h
 ·cases h
theorem Ew(i:X.calm=cb)(k:C.K=X.K)(t:J6 C c0 c rs vs)(I:Inv X pins c.σ c.H s)(rv:Vals vs us)(h:qe f rs=a5 r)(q:cp C c0 Q r c.st):
  et (hE X.prog X.w) X.A (Mu f.Qp us) (λv s1=>et (hE X.prog X.w) X.A (Mu f.out [v]) (EP X pins c.σ Q) X.xe s1) X.xe s:=by
 have m:=t.hσ;have b:=t.ok;have n:=t.nx;cases f with
 |JA =>
  obtain⟨x,rfl,hz⟩:=bE (f:=Eg) h;clear h;have h:=hz;clear hz;obtain⟨v,rfl,j⟩:=t.one;unfold Eg at h;split at h
  ·obtain⟨a',ws,ex,a,d⟩:=j.list b;rw[k]at a;subst ex;obtain⟨u,rfl,g⟩:=vals1 rv;cases g;split at h
   ·cases h;exact xW i I a λl hl=>q.list m b n (cF (by assumption) d).rev l hl
   ·cases h
  ·obtain⟨a',ws,ex,a,d⟩:=j.tuple b;rw[k]at a;subst ex;obtain⟨u,rfl,g⟩:=vals1 rv;cases g;split at h
   ·cases h;exact x8 i I a λl hl=>q.list m b n (cF (by assumption) d).rev l hl
   ·cases h
  ·cases h
 |sset =>
  obtain⟨x,rfl,hz⟩:=bE (f:=λx=>(ic x.2).bind λss=>if ss.length<64 then a5 (Kd.own,U.lst ((aJ ss).map .str)) else b6) h;clear h;have h:=hz;clear hz;obtain⟨ss,e,h⟩:=qp.mp h;obtain⟨v,rfl,j⟩:=t.one;obtain⟨a',z,rfl,a,d,rfl⟩:=mP k b j e;obtain⟨u,rfl,g⟩:=vals1 rv;cases g;split at h
  ·cases h;exact om i I a d λS h' B o y=>gh i y o (by assumption) λl hl=>q.list m b n (aj.strs.mpr rfl) l hl
  ·cases h
 |_=>cases h
theorem uj:∀f:B2,D' f.oB=a5 f.out/\D' f.ir=a5 f.Qp/\f.oB≠"__name__"/\f.ir≠"__name__"/\(f.oB==("__debug__":Str))=cL/\(f.ir==("__debug__":Str))=cL:=by
 intro f;cases f<;>exact⟨by decide +kernel,by decide +kernel,by decide +kernel,by decide +kernel,by decide +kernel,by decide +kernel⟩
theorem Ey(f:B2):∃T,f.Qp=.type T:=by cases f<;>exact⟨_,rfl⟩
theorem Ez(f:B2):(∃T,f.out=.type T)\/∃T,f.out=.builtin T:=by cases f<;>first|exact .inl ⟨_,rfl⟩|exact .inr ⟨_,rfl⟩
theorem um{M:Model}{E:dt->gj->Prop}(h:et M A t (λv a=>et M A (Mu (.type T) [v]) Q E a) E s):et M A (callWith pos (.type T) [] [(cL,t)] []) Q E s :=
 PySem.callWith_type rfl (NB (ON (vu h (λ_ _ b=>RL b) λ_ _ e=>e)))
theorem oC{M:Model}{E:dt->gj->Prop}(h:et M A t (λv a=>et M A (Mu (.builtin T) [v]) Q E a) E s):et M A (callWith pos (.builtin T) [] [(cL,t)] []) Q E s :=
 IZ rfl (NB (ON (vu h (λ_ _ b=>RL b) λ_ _ e=>e)))
theorem yw(b:X.calm=cb)(d:C.K=X.K)(g:Gl X f.ir)(i:X.mg f.ir=b6)
  (j:PA X (e::es) (Jr C ms)) (k:js (e::es) X.env=(cL,H0 e X.env)::js es X.env) (l:(Kj pos2 (js es X.env)).any (·.1)=cL)
  (I:Inv X pins c0.σ c0.H s) (m:Ok C c0) (h:W (ms >>= λrs=>aC rs >>= λ_=>M.H9 (qe f rs)) c0.st (cp C c0 Q)) :
  et (hE X.prog X.w) X.A (H0 (.Call (.Name f.ir p2) (e::es) [] pos2) X.env) (λv s1=>et (hE X.prog X.w) X.A (Mu f.out [v]) (EP X pins c0.σ Q) X.xe s1) X.xe s:=by
 obtain⟨b1,n,b3,b4,B,o⟩:=uj f;refine y4 (di I g i n ?_ b4 o);have a:et (hE X.prog X.w) X.A (Ó (Kj pos2 (js (e::es) X.env))) (λus s1=>et (hE X.prog X.w) X.A (Mu f.Qp us) (λv s1=>et (hE X.prog X.w) X.A (Mu f.out [v]) (EP X pins c0.σ Q) X.xe s1) X.xe s1) X.xe s :=
  HJ (args j I m h pos2) λus s1 u=>by
   obtain⟨rs,c,vs,t,x,rv,w⟩:=u;obtain⟨r,e,q⟩:=bQ.mp w;have z:=Ew b d t x rv e q;rw[t.hσ]at z;exact z
 obtain⟨T,y⟩:=Ey f;rw[y]at a ⊢;exact MZ a k l
theorem BG(d:X.calm=cb)(g:C.K=X.K)(i:Gl X f.oB)(j:X.mg f.oB=b6)(k:Gl X f.ir)(l:X.mg f.ir=b6)
  (m:PA X (e::es) (Jr C ms)) (n:js (e::es) X.env=(cL,H0 e X.env)::js es X.env) (o:(Kj pos2 (js es X.env)).any (·.1)=cL) :
  PE X (.Call (.Name f.oB p) [.Call (.Name f.ir p2) (e::es) [] pos2] [] pos) (HK C (ms >>= λrs=>aC rs >>= λ_=>M.H9 (qe f rs))):=by
 rintro pins s σ H Q I ⟨c0,rfl,rfl,q,h⟩;obtain⟨b1,v,b3,b4,r,w⟩:=uj f;refine y4 (di I i j b1 ?_ b3 r);have a:=yw (p2:=p2) (pos2:=pos2) d g k l m n o I q h;have t:Kj pos (js [.Call (.Name f.ir p2) (e::es) [] pos2] X.env)=[(cL,H0 (.Call (.Name f.ir p2) (e::es) [] pos2) X.env)]:=rfl;have u:Qi pos (MP [] X.env)=[]:=rfl;rw[t,u];rcases Ez f with⟨T,b⟩|⟨T,b⟩
 ·rw[b]at a ⊢;exact um a
 ·rw[b]at a ⊢;exact oC a
end
section
variable{X:Cx}{C:Ct}{pins:List (hH×Obj)}{s:gj}{c0 c c1:Cf}
variable{a b d e o tg:uv}{es:List uv}{m ma mb md:M (Kd×U)}{ms:M (List (Kd×U))}{ta tb:M Bool}{pos p p2 apos F':Pos}
def kR(rs:List (Kd×U))(c f:Cf):Prop:=∀j u,(Kd.bor j,u)∈rs->f.σ[j]?=c.σ[j]?
def Walk(C:Ct)(c:Cf)(rs:List (Kd×U))(xs:List (Kd×U))(J:It):Prop:=∀f,Ok C f->Ns c f->kR rs c f->bp rs f.st ->
 (∀(i:Nat) r,xs[i]?=a5 r->(r.1=.loc\/r.1=.any)/\J.go i f.H/\∀x H',J.PV i f.H x H'->∃g:Cf,g.H=H'/\g.σ=f.σ/\g.st=f.st/\Ok C g/\Nx f g/\aL C f g r.1 r.2 x) /\
 ∀i:Nat,xs.length<=i->J.stop i f.H
def Lz(C:Ct)(f:Ik)(ms:M (List (Kd×U))):TI:=λσ H R=>∃c0:Cf,c0.σ=σ/\c0.H=H/\Ok C c0/\W (ms >>= λrs=>aC rs >>= λ_=>M.H9 (JV f rs) >>= λxs=>pure (rs,xs)) c0.st λq st' =>
 ∀c J,c.σ=σ->c.st=st'->Ok C c->Nx c0 c->bp q.1 c.st->Walk C c q.1 q.2 J->R J c.H
theorem aL.walk(g:Ok C c)(n:Ns c f)(i:kR [r] c f)(hs:bp [r] f.st)(h:aL C c0 c r.1 r.2 v):aL C c0 f r.1 r.2 v :=
 (h.w.Uz g n λj e=>i j r.2 (by rw[<-e];simp)).t hs
theorem yx(k:Kd):kE k=.loc\/kE k=.any:=by cases k<;>simp[kE]
theorem wz(z:C.K=X.K)(A:Ok C c)(h:aL C c0 c k (.lst us) (.ref a')):Walk C c [(k,.lst us)] (us.map λu=>(kE k,u)) (QT X.K a'):=by
 intro l q n B hs;have h':=aL.walk (r:=(k,.lst us)) A n B hs h;obtain⟨G,vs,e,f,t⟩:=h'.list q;cases e;rw[z]at f;refine⟨λi r w=>?_,λi hi=>⟨vs,f,by rw[<-t.len];simpa using hi⟩⟩;rw[ki,fS]at w;obtain⟨u,D,rfl⟩:=w;obtain⟨v,y,g⟩:=t.get D;refine⟨yx k,⟨vs,v,f,y⟩,λx H' j=>?_⟩;obtain⟨e,j⟩:=j;subst e;have:=j vs f;rw[y]at this;cases this;exact⟨l,rfl,rfl,rfl,q,Nx.refl l,aL.item g⟩
theorem rW(z:C.K=X.K)(A:Ok C c)(h:aL C c0 c k (.tup us) (.ref a')):Walk C c [(k,.tup us)] (us.map λu=>(kE k,u)) (QU X.K a'):=by
 intro l q n B hs;have h':=aL.walk (r:=(k,.tup us)) A n B hs h;obtain⟨G,vs,e,f,t⟩:=h'.tuple q;cases e;rw[z]at f;refine⟨λi r w=>?_,λi hi=>⟨vs,f,by rw[<-t.len];simpa using hi⟩⟩;rw[ki,fS]at w;obtain⟨u,D,rfl⟩:=w;obtain⟨v,y,g⟩:=t.get D;refine⟨yx k,⟨vs,v,f,y⟩,λx H' j=>?_⟩;obtain⟨e,j⟩:=j;subst e;have:=j vs f;rw[y]at this;cases this;exact⟨l,rfl,rfl,rfl,q,Nx.refl l,aL.item g⟩
theorem rX{lo:Int}:Walk C c rs ((i1 n).map λi:Nat=>(Kd.loc,U.int (lo+(i:Int)))) (PY lo n):=by
 intro g k nx q hs;refine⟨λi r h=>?_,λi hi=>by show n<=i;simpa using hi⟩;rw[ki,fS]at h;obtain⟨j,f,rfl⟩:=h;have hi:i<n:=by simpa using(dV.mp f).1
 rw[List.getElem?_range hi]at f;cases f;refine⟨.inl rfl,hi,λy H' l=>?_⟩;obtain⟨e,rfl⟩:=l;subst e;exact⟨g,rfl,rfl,rfl,k,Nx.refl g,rfl⟩
theorem EA(i:C.K=X.K)(t:PE X a (HK C ma)):PI X tg a (Lz C .seq (ma >>= λr=>pure [] >>= λrs=>pure (r::rs))):=by
 rintro pins s σ H R I ⟨c0,rfl,rfl,w,h⟩;rw[af,af]at h;obtain⟨r,st1,x,h⟩:=h;rw[af,ak,ak,af,bY,af]at h;obtain⟨y,h⟩:=h;obtain⟨xs,j,h⟩:=bQ.mp h;rw[ak]at h;obtain⟨k,u⟩:=r;cases u with
 |lst us =>
  cases j;refine AA t pins s c0.σ c0.H R I ⟨c0,rfl,rfl,w,_,st1,x,λc v l hs g n f=>?_⟩;obtain⟨a',vs,rfl,q,A⟩:=f.list g;subst hs;exact⟨a',rfl,⟨vs,i▸q⟩,h c _ l rfl g n y (wz i g f)⟩
 |tup us =>
  cases j;refine DA t pins s c0.σ c0.H R I ⟨c0,rfl,rfl,w,_,st1,x,λc v l hs g n f=>?_⟩;obtain⟨a',vs,rfl,q,A⟩:=f.tuple g;subst hs;have z:=q;rw[i]at z;exact⟨a',rfl,⟨vs,z⟩,h c _ l rfl g n y (rW i g f)⟩
 |_=>cases j
theorem yy{k:List (Kd×U)->M β}{g:β->aw->Prop}(i:Ok C c0)(h:W (ms >>= λrs=>aC rs >>= λ_=>k rs) c0.st g)
  (hz:∀rs c vs,J6 C c0 c rs vs->W (k rs) c.st g->Z vs c.H):Jr C ms c0.σ c0.H Z:=by
 rw[af]at h;refine⟨c0,rfl,rfl,i,h.mono λrs st1 f c1 vs j l n q r=>?_⟩;rw[af,bY]at f;subst l;exact hz rs c1 vs ⟨j,n,q,r,f.1⟩ f.2
theorem BH(i:Gl X "range")(j:X.mg "range"=b6)(hs:js [a] X.env=[(cL,H0 a X.env)])(k:PA X [a] (Jr C ms)):PI X tg (.Call (.Name "range" p) [a] [] pos) (Lz C .Jl ms):=by
 rintro pins s σ H R I ⟨c0,rfl,rfl,l,h⟩;refine vH i j k hs pins s c0.σ c0.H R I (yy l h λrs c vs t w=>?_);rw[af]at w;obtain⟨xs,g,w⟩:=bQ.mp w;rw[ak]at w;obtain⟨x,rfl,hz⟩:=bE (f:=yf) g;clear g;have g:=hz;clear hz;obtain⟨v,rfl,n⟩:=t.one;unfold yf at g;split at g
 ·split at g
  ·rename_i q;cases g;exact⟨_,by rw[n.int t.ok],⋯,⋯,w c _ t.hσ rfl t.ok t.nx t.ML rX⟩
  ·cases g
 ·cases g
theorem ql{k:Kd}{us:List U}{h:U}{a':hH}{w:Hp->List V->Prop}(G:∀f,Ok C f->Ns c f->kR [(k,h)] c f->bp [(k,h)] f.st->∃vs,w f.H vs/\aj C (SK C f k) f.H us vs):Walk C c [(k,h)] (us.zipIdx.map λp=>(kE k,.tup [.int p.2,p.1])) (NZ w):=by
 intro f g n I hs;obtain⟨vs,j,y⟩:=G f g n I hs;refine⟨λi r z=>?_,λi hi=>⟨vs,j,by rw[<-y.len];simpa using hi⟩⟩;rw[ki,fS]at z;obtain⟨p,A,rfl⟩:=z;rw[Ts,fS]at A;obtain⟨u,J,rfl⟩:=A;obtain⟨v,B,l⟩:=y.get J;refine⟨yx k,⟨vs,v,j,B⟩,λx H' q=>?_⟩;obtain⟨p,L,rfl,q⟩:=q;have N:=q vs v j B;subst N;obtain⟨O,t⟩:=g.lay (o:=.tup [.int i,v]) L;refine⟨{f with H:=upd f.H p (.tup [.int i,v])},rfl,rfl,rfl,O,t,aL.item ?_⟩;have D:aj C (SK C f k) f.H [.int ((0+i:Nat):Int),u] [.int (i:Int),v]:=by
  rw[Oj];exact⟨_,_,rfl,rfl,_,_,rfl,l,rfl⟩
 cases k<;>exact⟨p,_,rfl,Im.of az,by first|exact D.mv (g.Mb t)|exact D.mv (g.mv t)⟩
theorem EB{es:List uv}{z:Nat}{ps:Pos}(k:C.K=X.K)(A:Gl X "enumerate")(B:X.mg "enumerate"=b6)(hs:js [a] X.env=[(cL,H0 a X.env)])(D:PA X [a] (Jr C ms)):PI X (.Tuple es z ps) (.Call (.Name "enumerate" p) [a] [] pos) (Lz C .Md ms):=by
 rintro pins s σ H R I ⟨c0,rfl,rfl,G,h⟩;refine A5 A B D hs pins s c0.σ c0.H R I (yy G h λrs c vs t w=>?_);rw[af]at w;obtain⟨xs,i,w⟩:=bQ.mp w;rw[ak]at w;obtain⟨x,rfl,hz⟩:=bE (f:=Eh) i;clear i;have i:=hz;clear hz;obtain⟨v,rfl,l⟩:=t.one;unfold Eh at i;split at i
 ·cases i;obtain⟨a',ws,q,g,j⟩:=l.list t.ok;subst q;refine⟨a',rfl,.inl ⟨⟨ws,k▸g⟩,w c _ t.hσ rfl t.ok t.nx t.ML ?_⟩⟩;refine ql (a':=a') λJ r n u y=>?_;obtain⟨L,vs,e,g,j⟩:=(aL.walk t.ok n u y l).list r;cases e;exact⟨vs,k▸g,j⟩
 ·cases i;obtain⟨a',ws,q,g,j⟩:=l.tuple t.ok;subst q;rw[k]at g;refine⟨a',rfl,.inr ⟨⟨ws,g⟩,w c _ t.hσ rfl t.ok t.nx t.ML ?_⟩⟩;refine ql (a':=a') λJ r n u y=>?_;obtain⟨L,vs,e,g,j⟩:=(aL.walk t.ok n u y l).tuple r;cases e;rw[k]at g;exact⟨vs,g,j⟩
 ·cases i
theorem Ok.put(t:Ok C c)(n:Nx c0 c)(hi:i<c.σ.length)(hk:k=.own\/k=.loc\/k=.any)(Js:Ok C c0)(h:aL C c0 c k u v):
  Ok C {c with σ:=c.σ.set i (a5 v),st:=c.st.set i (a5 (k,u))}/\Nx c0 {c with σ:=c.σ.set i (a5 v),st:=c.st.set i (a5 (k,u))}:=by
 have N:i<c.st.length:=by rw[t.len];exact hi
 have O:∀(j:Nat) k' u',(c.st.set i (a5 (k,u)))[j]?=a5 (a5 (k',u'))->j≠i->c.st[j]?=a5 (a5 (k',u')):=λj k' u' e Q=>by rw[i6 (sx Q)]at e;exact e
 have J7:∀(j:Nat) A,(c.σ.set i (a5 v))[j]?=a5 (a5 A)->j≠i->c.σ[j]?=a5 (a5 A):=λj A e Q=>by rw[i6 (sx Q)]at e;exact e
 have sl:fD C c.S c.H k u v:=by
  rcases hk with rfl|rfl|rfl
  ·obtain⟨r,e,B,I,x,J⟩:=h;obtain⟨z0,z1,L,z3,z4⟩:=Js.jB B;exact⟨r,e,I,L,z0,J⟩
  ·exact h
  ·exact h
 have T:∀(j:Nat) k' u' r,k'.root=cb->(c.st.set i (a5 (k,u)))[j]?=a5 (a5 (k',u'))->(c.σ.set i (a5 v))[j]?=a5 (a5 (.ref r))->j=i/\k=.own/\v=.ref r\/j≠i/\c.st[j]?=a5 (a5 (k',u'))/\c.σ[j]?=a5 (a5 (.ref r)):=λj k' u' r D g l=>by
  by_cases f:j=i
  ·subst f;rw[hQ N]at g;rw[hQ hi]at l;cases g;cases l;rcases hk with rfl|rfl|rfl
   ·exact .inl ⟨rfl,rfl,rfl⟩
   ·cases D
   ·cases D
  ·exact .inr ⟨f,O j k' u' g f,J7 j _ l f⟩
 have dD:∀(j:Nat) (u':U),(c.st.set i (a5 (k,u)))[j]?=a5 (a5 (.G',u'))->c.st[j]?=a5 (a5 (.G',u'))/\(c.σ.set i (a5 v))[j]?=c.σ[j]?:=λj u' e=>by
  by_cases f:j=i
  ·subst f;rw[hQ N]at e;cases e;rcases hk with hk|hk|hk<;>cases hk
  ·exact⟨O j .G' u' e f,i6 (sx f)⟩
 have b1:∀a,({c with σ:=c.σ.set i (a5 v),st:=c.st.set i (a5 (k,u))}:Cf).R1 a->c.R1 a\/k=.own/\v=.ref a:=λa Ir=>by
  obtain⟨j,k',u',D,g,l⟩:=Ir;rcases T j k' u' a D g l with⟨a1,w,a3⟩|⟨a1,w,a3⟩
  ·exact .inr ⟨w,a3⟩
  ·exact .inl ⟨j,k',u',D,w,a3⟩
 have Mi:Lb C {c with σ:=c.σ.set i (a5 v),st:=c.st.set i (a5 (k,u))}:=t.dd.of rfl dD (λa z=>(b1 a z).imp id λ⟨Y,q2⟩ j z'=>by
  subst Y;obtain⟨G,e,_,_,x,_⟩:=h;rw[q2]at e;cases e;exact x (.inr ⟨j,z'⟩)) (.up λ_ z=>z) λj a z=>⟨(t.root (.inr ⟨j,z⟩)).1,λo q=>q⟩
 refine⟨⟨t.same,t.JS,t.par,t.io,by simp[t.len],λj k' u' e=>?_,λj1 j2 k1 k2 u1 u2 r Sz O8 g l e3 e4=>?_,Mi⟩,⟨⟨n.keep,n.there,λa z=>?_,n.sub,n.new⟩⟩⟩
 ·by_cases f:j=i
  ·subst f;rw[hQ N]at e;cases e;exact⟨v,by rw[hQ hi],sl⟩
  ·obtain⟨A,g,l⟩:=t.sl j k' u' (O j k' u' e f);exact⟨A,by rw[i6 (sx f)];exact g,l⟩
 ·have z1:=T j1 k1 u1 r Sz g e3;have L:=T j2 k2 u2 r O8 l e4;rcases z1 with⟨a1,w,a3⟩|⟨a1,w,a3⟩
  ·rcases L with⟨b1,y,b3⟩|⟨b1,y,b3⟩
   ·exact a1.trans b1.symm
   ·subst w;obtain⟨G,e,B,I,x,J⟩:=h;rw[a3]at e;cases e;exact(x (.inl ⟨j2,k2,u2,O8,y,b3⟩)).elim
  ·rcases L with⟨b1,y,b3⟩|⟨b1,y,b3⟩
   ·subst y;obtain⟨G,e,B,I,x,J⟩:=h;rw[b3]at e;cases e;exact(x (.inl ⟨j1,k1,u1,Sz,w,a3⟩)).elim
   ·exact t.inj j1 j2 k1 k2 u1 u2 r Sz O8 w y a3 b3
 ·rcases z with z|⟨j,u',G,g,l,e3⟩
  ·rcases b1 a z with z|⟨w,a3⟩
   ·exact n.roots a (.inl z)
   ·subst w;obtain⟨G,e,B,I,x,J⟩:=h;rw[a3]at e;cases e;exact .inr B
  ·obtain⟨Y,q2⟩:=dD j u' g;exact n.roots a (.inr ⟨j,u',G,Y,q2▸l,e3⟩)
theorem uo(y:Ok C c0)(l:Ok C c)(n:Nx c0 c)(hi:i<c.σ.length)(q:aL C c0 c r.1 r.2 v)(h:W (fq i r) c.st G):
  ∃t,t.σ=c.σ.set i (a5 v)/\t.H=c.H/\Ok C t/\Nx c0 t/\G () t.st:=by
 obtain⟨k,u⟩:=r;cases k with
 |own =>
  obtain⟨x,st',e,f⟩:=h;cases e;obtain⟨a1,g⟩:=l.put n hi (.inl rfl) y q;exact⟨{c with σ:=c.σ.set i (a5 v),st:=c.st.set i (a5 (.own,u))},rfl,rfl,a1,g,f⟩
 |loc =>
  obtain⟨x,st',e,f⟩:=h;cases e;obtain⟨a1,g⟩:=l.put n hi (.inr (.inl rfl)) y q;exact⟨{c with σ:=c.σ.set i (a5 v),st:=c.st.set i (a5 (.loc,u))},rfl,rfl,a1,g,f⟩
 |any =>
  obtain⟨x,st',e,f⟩:=h;cases e;obtain⟨a1,g⟩:=l.put n hi (.inr (.inr rfl)) y q;exact⟨{c with σ:=c.σ.set i (a5 v),st:=c.st.set i (a5 (.any,u))},rfl,rfl,a1,g,f⟩
 |bor j =>
  obtain⟨x,st',e,f⟩:=h;rw[show fq i (.bor j,u) c.st=match c.st[j]? with|some (a5 (.own,u))=>a5 (Ex.ok (),(c.st.set j (a5 (.loc,u))).set i (a5 (.loc,u)))|_=>b6 from rfl]at e;split at e
  ·rename_i w A;cases e;obtain⟨N,B,r,I,_⟩:=l.sl j _ _ A;have D:c.σ[j]?=a5 (a5 v):=q.2;rw[D]at B;cases B;subst I;obtain⟨J,L,z⟩:=l.yq n A D;obtain⟨a1,g⟩:=Ok.put (c:={c with S:=λa=>c.S a\/a=r,st:=c.st.set j (a5 (.loc,w))}) J L (k:=.loc) (u:=w) (v:=.ref r) hi (.inr (.inl rfl)) y z;exact⟨{S:=λa=>c.S a\/a=r,H:=c.H,σ:=c.σ.set i (a5 (.ref r)),st:=(c.st.set j (a5 (.loc,w))).set i (a5 (.loc,w)),kid:=c.kid},rfl,rfl,a1,g,f⟩
  ·cases e
 |_=>exact q.elim
end
section
theorem Ok.Hy(B:Ok C g)(b:Ok C c)(n:Nx g c)(q:g.H r=b6)(f:¬c.S r)(s:¬c.R r)(D:∃o,c.H r=a5 o/\¬Tp o):
  Ok C {c with H:=upd c.H r o' }/\Nx g {c with H:=upd c.H r o' }:=by
 obtain⟨o,ho,G⟩:=D;obtain⟨I,_,J,qI,_⟩:=B.jB q;have L:¬PS C c.S r:=λz=>z.elim J f;have d:∀a o2,a≠r->c.H a=a5 o2->(upd c.H r o') a=a5 o2:=λa o2 N e=>by rw[aq N];exact e
 have l:∀S:hH->Prop,¬S r->Mv S c.H S (upd c.H r o'):=λS f=>⟨λa z=>z,λa m e O=>d a m (λz=>by subst z;rw[ho]at e;cases e;exact G O) e,λa m z e=>d a m (λy=>by subst y;exact f z) e⟩
 have Q:∀{a:hH} {o2:HO},g.H a=a5 o2->a≠r:=λe z=>by subst z;rw[q]at e;cases e
 have p:∀a,(∃o2,c.H a=a5 o2)->∃o2,(upd c.H r o') a=a5 o2:=λa T=>by
  obtain⟨o2,e⟩:=T;by_cases t:a=r
  ·subst t;exact⟨o',az⟩
  ·exact⟨o2,d a o2 t e⟩
 refine⟨⟨λa o2 e z=>d a o2 (λy=>by subst y;rw[I]at e;cases e) (b.same a o2 e z),λa z=>⟨(b.JS a z).1,p a (b.JS a z).2⟩,b.par,λa z=>⟨(b.io a z).1,p a (b.io a z).2⟩,b.len,λi k u e=>?_,b.inj,b.dd.hs (l _ f) λj a z=>⟨(b.root (.inr ⟨j,z⟩)).1,λo2 e=>d a o2 (λy=>by subst y;exact s (.inr ⟨j,z⟩)) e⟩⟩,?_⟩
 ·obtain⟨v,w,h⟩:=b.sl i k u e;refine⟨v,w,h.mv (l _ f) (l _ L) λhk Y x=>?_⟩;obtain⟨O7,A,q1,_⟩:=h.rt hk;rw[x]at A;cases A;exact⟨q1,λo2 h=>d Y o2 (λy=>by subst y;exact s (.inl ⟨i,k,u,hk,e,by rw[w,x]⟩)) h⟩
 ·exact⟨⟨λa o2 e z=>d a o2 (Q e) (n.keep a o2 e z),λa o2 e=>p a (n.there a o2 e),n.roots,n.sub,n.new⟩⟩
theorem yz(t:c.H r=a5 (.Jq o (.dK kvs)))(u:¬c.R r)(w:Ok C c)(hk:kvs.map (·.1)=ks.map kr)(y:aj C c.S c.H us (kvs.map (·.2))):Walk C c [(.own,.HE ks us)] (rT (ks,us)) (Sh r o kvs):=by
 intro a j n L hs;have k:=n.keep r _ t u;have l:=y.mv (w.mv n);have N:kvs.length=ks.length:=by rw[<-cc (f:=(·.1)),hk,cc]
 have O:us.length=kvs.length:=by rw[l.len,cc]
 have Q:(rT (ks,us)).length=kvs.length:=by
  unfold rT;rw[cc,Vt];show min ks.length us.length=_;lia
 refine⟨λi q b=>?_,λi hi=>⟨k,⋯⟩⟩;unfold rT at b;rw[ki,fS]at b;obtain⟨p,z,rfl⟩:=b;obtain⟨m,A⟩:=List.getElem?_zip_eq_some.mp z;obtain⟨v,d,e⟩:=l.get A;have hi:i<kvs.length:=by
  have:i<ks.length:=(dV.mp m).1;lia
 have B:kvs[i]?=a5 (kr p.1,v):=by
  rw[ki,oT hi]at d;have g:(kvs.map (·.1))[i]?=(ks.map kr)[i]?:=by rw[hk]
  rw[ki,ki,oT hi,m]at g;rw[oT hi];simp only[Sv,QG]at g d;rw[<-g,<-d]
 refine⟨.inl rfl,⟨k,hi⟩,λx H' h=>?_⟩;obtain⟨q,D,rfl,h⟩:=h;have G:=h _ _ B;subst G;obtain⟨I,s⟩:=j.lay (o:=.tup [kV (kr p.1),v]) D;refine⟨{a with H:=upd a.H q (.tup [kV (kr p.1),v])},rfl,rfl,rfl,I,s,?_⟩;have J:aj C a.S a.H [.str p.1,p.2] [kV (kr p.1),v]:=⟨_,_,rfl,rfl,_,_,rfl,e,rfl⟩
 exact⟨q,_,rfl,Im.of az,J.mv (j.mv s)⟩
theorem EC(q:O2 a "items" X.env (H0 a X.env)=H0 a X.env)(t:(b.endLine==u.line)=cb)(w:PE X a (HK C x)):
  PI X (.Tuple es kx ps) (.Call (.Attribute a "items" b) [] [] u) (Lz C .N2 (x >>= λr=>pure [] >>= λrs=>pure (r::rs))):=by
 rintro pins s σ H R I ⟨f,rfl,rfl,j,h⟩;rw[af,af]at h;obtain⟨r,st1,A,h⟩:=h;rw[af,ak,ak,af,bY,af]at h;obtain⟨B,h⟩:=h;obtain⟨xs,D,h⟩:=bQ.mp h;rw[ak]at h;have hz:Ei r=a5 xs:=D;unfold Ei at hz;split at hz
 rotate_left
 ·cases hz
 rename_i ks us;cases hz;refine wa w q t pins s f.σ f.H R I ⟨f,rfl,rfl,j,_,st1,A,λc v G hs k n d=>?_⟩;obtain⟨a',J,L,l,m⟩:∃a',v=.ref a'/\f.H a'=b6/\¬c.S a'/\¬c.R a':=by
  obtain⟨r,g,N,O,Q,_⟩:=d;exact⟨r,g,N,O,Q⟩
 obtain⟨a2,kvs,g,i,T,Y⟩:=d.dict k;subst g;cases J;subst hs;refine⟨a',kvs,rfl,i,λo=>?_⟩;obtain⟨p,n2⟩:=Ok.Hy (o':=.Jq o (.dK kvs)) j k n L l m ⟨_,i,λz=>z⟩;refine h {c with H:=upd c.H a' (.Jq o (.dK kvs))} _ G rfl p n2 B (yz (r:=a') (o:=o) (kvs:=kvs) az m p T ?_);refine aj.mv ⟨λa z=>z,λa ob e tp=>?_,λa ob z e=>?_⟩ Y
 ·have:a≠a':=λy=>by subst y;rw[i]at e;cases e;exact tp
  show upd c.H a' _ a=_;rw[aq this];exact e
 ·have:a≠a':=λy=>by subst y;exact l z
  show upd c.H a' _ a=_;rw[aq this];exact e
end
section
def tG(C:Ct)(t:Bool)(is:List Nat):TG:=λv σ H Q=>∃b c r,c.σ=σ/\c.H=H/\Ok C b/\Ok C c/\Nx b c/\aL C b c r.1 r.2 v/\W (dm t is r) c.st λ_ st' =>
 ∀a,a.st=st'->Ok C a->Nx b a->(∀j,j∉is->a.σ[j]?=c.σ[j]?)->a.σ.length=c.σ.length->Q a.σ a.H
structure rY(X:Cx)(e:uv)(i:Nat):Prop where
 is:∃x pos,e=.Name x pos/\X.N[i]?=a5 x/\Loc X.env.scope x/\(X.fn x=cb\/X.env.scope.names.lookup x=a5 .local)
theorem ED(f:X.N.Nodup)(h:rY X e i):PG X e (tG C cL [i]):=by
 obtain⟨x,pos,rfl,d,g,k⟩:=h.is;rintro pins s σ H v u Q I rv ⟨B,c,r,rfl,rfl,l,m,n,a,w⟩;have hi:i<c.σ.length:=by rw[I.len];exact(dV.mp d).1
 obtain⟨o,b,p,t,y,q⟩:=uo (r:=r) l m n hi a w;refine tJ f d g k pins s c.σ c.H v u Q I rv ?_;have z:=q o rfl t y (λj A=>by rw[b,i6 (by intro z;exact A (by simp[z]))]) (by rw[b];simp);rw[b,p]at z;exact z
noncomputable def SA:List Nat->NJ
 |[]=>Fx
 |i::is=>CK (tI i) (SA is)
inductive eX(X:Cx):List uv->List Nat->Prop where
 |nil:eX X [] []
 |cons {e:uv} {es:List uv} {i:Nat} {is:List Nat} (h:rY X e i) (t:eX X es is):eX X (e::es) (i::is)
theorem wA(a:X.N.Nodup)(h:eX X es is):Oo X es (SA is):=by
 induction h with
 |nil=>exact Ay
 |cons h t b =>
  obtain⟨x,pos,rfl,c,d,e⟩:=h.is;exact xh (tJ a c d e) b rfl
theorem rZ(h:eX X es is):(Pt es X.env).length=is.length/\(Pt es X.env).findIdx? (·.1)=b6:=by
 induction h with
 |nil=>exact⟨rfl,rfl⟩
 |cons h t a =>
  obtain⟨x,pos,rfl,b,c,d⟩:=h.is;refine⟨?_,?_⟩
  ·show(_::_).length=_;simp[a.1]
  ·show X2 _ (_::_)=b6;rw[List.findIdx?_cons,ā (by simp),a.2];rfl
theorem uq(hk:kE k=k)(h:Ok C g):∀{is:List Nat}{us:List U}{vs:List V}{c:Cf}{d:Unit->aw->Prop}{Q:L2.St->Hp->Prop},Ok C c->Nx g c->(∀i∈is,i<c.σ.length)->aj C (SK C c k) c.H us vs->W (sets is (us.map λu=>(k,u))) c.st d ->
  (∀b,d () b.st->Ok C b->Nx g b->(∀j,j∉is->b.σ[j]?=c.σ[j]?)->b.σ.length=c.σ.length->Q b.σ b.H)->SA is vs c.σ c.H Q
 |[],[],vs,c,d,Q,ok,n,hi,a,w,q=>by
  rw[show sets [] (Xr (λu=>(k,u)) [])=pure () from rfl,ak]at w;exact⟨a,q c w ok n (λ_ _=>rfl) rfl⟩
 |[],u::us,vs,c,d,Q,ok,n,hi,a,w,q=>(bj.mp w).elim
 |i::is,[],vs,c,d,Q,ok,n,hi,a,w,q=>(bj.mp w).elim
 |i::is,u::us,vs,c,d,Q,ok,n,hi,a,w,q=>by
  rw[show sets (i::is) (Xr (λu=>(k,u)) (u::us))=fq i (k,u) >>= λ_=>sets is (us.map λu=>(k,u)) from rfl,af]at w;obtain⟨v,r,rfl,l,m⟩:=a;have o:k=.own\/k=.loc\/k=.any:=by cases k<;>simp[kE]at hk<;>simp
  have B:k≠.own:=by cases k<;>simp[kE]at hk<;>simp
  have rt:aL C g c k u v:=by rw[<-hk];exact aL.item l
  obtain⟨a1,s⟩:=ok.put n (hi i (by simp)) o h rt;have es:fq i (k,u)=λst=>a5 (.ok (),st.set i (a5 (k,u))):=by cases k<;>simp[kE]at hk<;>rfl
  obtain⟨_,st',e,t⟩:=w;rw[es]at e;cases e;refine⟨v,r,rfl,uq (c:={c with σ:=c.σ.set i (a5 v),st:=c.st.set i (a5 (k,u))}) hk h a1 s (λj f=>by simpa using hi j (by simp[f])) (by cases k<;>exact m) t λb p x y A hl=>?_⟩;refine q b p x y (λj f=>?_) (by rw[hl];simp);rw[A j (λz=>f (by simp[z])),i6 (λz=>f (by simp[z]))]
theorem F6(j:X.calm=cb)(m:C.K=X.K)(o:X.N.Nodup)(h:eX X es is)(hl:∀i∈is,i<X.N.length):PG X (.Tuple es O pos) (tG C cb is):=by
 rintro pins s σ H v u Q I rv ⟨T,c,r,rfl,rfl,q,e,n,b,w⟩;obtain⟨t,y⟩:=rZ h;refine Du j (wA o h) t y pins s c.σ c.H v u Q I rv ?_;obtain⟨k,z⟩:=r;cases z with
 |tup us =>
  rw[show dm cb is (k,.tup us)=sets is (us.map λu=>(kE k,u)) from by cases is<;>rfl]at w;obtain⟨a',vs,rfl,f,g⟩:=b.tuple e;rw[m]at f;have a:us.length=is.length:=by
   have d:∀(is:List Nat) (l:List (Kd×U)) (st:aw) (P:Unit->aw->Prop),W (sets is l) st P->l.length=is.length:=by
    intro is;induction is with
    |nil=>intro l st P w;cases l with
     |nil=>rfl
     |cons _ _=>exact(bj.mp w).elim
    |cons i is A=>intro l st P w;cases l with
     |nil=>exact(bj.mp w).elim
     |cons x l =>
      rw[show sets (i::is) (x::l)=fq i x >>= λ_=>sets is l from rfl,af]at w;obtain⟨_,_,_,w⟩:=w;rw[ko,ko,A l _ _ w]
   simpa using d _ _ _ _ w
  refine⟨a',vs,rfl,f,by rw[<-g.len,a],?_⟩;refine uq (k:=kE k) (by cases k<;>rfl) q e n (λi hi=>by rw[I.len];exact hl i hi) (by cases k<;>exact g) w λB p D G J L=>p B rfl D G J L
 |_=>cases is<;>exact(bj.mp w).elim
end
section
variable{X:Cx}{C:Ct}{pins:List (hH×Obj)}{s:gj}{c0 c c1:Cf}
variable{a b d e o tg iter elt:uv}{es ifs:List uv}{m ma mb md me:M (Kd×U)}{ms:M (List (Kd×U))}{ta tb tc:M Bool}{pos p p2 apos F':Pos}
theorem wB{m:M α}{st:aw}{Q:α->aw->Prop}:W (inScope k m) st Q↔W m (kj k b6++st) λa st'=>Q a (st'.drop k):=by
 constructor
 ·rintro⟨a,st',e,h⟩;unfold inScope at e;cases q:m (kj k b6++st) with
  |none=>rw[q]at e;cases e
  |some r=>obtain⟨g,f⟩:=r;rw[q]at e;cases e;exact⟨a,f,q,h⟩
 ·rintro⟨a,st',e,h⟩;exact⟨a,st'.drop k,by unfold inScope;rw[e],h⟩
noncomputable def Cf.ext(k:Nat)(c:Cf):Cf:={c with σ:=kj k b6++c.σ,st:=kj k b6++c.st,kid:=λj=>c.kid (j - k)}
noncomputable def Cf.cut(k:Nat)(c:Cf):Cf:={c with σ:=c.σ.drop k,st:=c.st.drop k,kid:=λj=>c.kid (k+j)}
theorem fO(h:(kj k b6++l)[j]?=a5 (a5 x)):∃i,j=k+i/\l[i]?=a5 (a5 x):=by
 by_cases f:j<k
 ·rw[x3 (by simpa using f)]at h;rw[KX]at h;rw[ÿ f]at h;cases h
 ·refine⟨j - k,⋯,?_⟩;rw[q9 (by simp;lia)]at h;simpa using h
theorem eY:(kj k b6++l)[k+i]?=l[i]?:=by
 rw[q9 (by simp)];simp
theorem yA:(c.ext k).R1 r↔c.R1 r:=by
 constructor
 ·rintro⟨j,g,u,h,l,f⟩;obtain⟨i,rfl,e⟩:=fO l;rw[Cf.ext,eY]at f;exact⟨i,g,u,h,e,f⟩
 ·rintro⟨i,g,u,h,l,f⟩;exact⟨k+i,g,u,h,by rw[Cf.ext,eY];exact l,by rw[Cf.ext,eY];exact f⟩
theorem oD{a:hH}(h:(c.ext k).RD j a):∃i,j=k+i/\c.RD i a:=by
 obtain⟨u,r,l,f,g⟩:=h;obtain⟨i,rfl,e⟩:=fO l;rw[Cf.ext,eY]at f;refine⟨i,rfl,u,r,e,f,?_⟩;have:(c.ext k).kid (k+i)=c.kid i:=by show c.kid (k+i - k)=_;rw[Yk]
 rw[this]at g;exact g
theorem F7(h:(c.ext k).R r):c.R r:=by
 rcases h with h|⟨j,h⟩
 ·exact .inl (yA.mp h)
 ·obtain⟨i,_,h⟩:=oD h;exact .inr ⟨i,h⟩
theorem Ok.ext(k:Nat)(f:Ok C c):Ok C (c.ext k)/\Nx c (c.ext k):=by
 refine⟨⟨f.same,f.JS,f.par,f.io,by simp[Cf.ext,f.len],λj A u e=>?_,λi j k1 k2 u u' r B D l g y z=>?_,⟨λj u r l g=>?_,λi j a n q=>?_,λj a n q=>?_⟩⟩,⟨⟨λ_ _ h _=>h,λ_ o h=>⟨o,h⟩,λa h=>.inl (F7 h),λ_ h=>h,λ_ h=>.inl h⟩⟩⟩
 ·obtain⟨i,rfl,G⟩:=fO e;obtain⟨v,l,g⟩:=f.sl i A u G;exact⟨v,by rw[Cf.ext,eY];exact l,g⟩
 ·obtain⟨t,rfl,H⟩:=fO l;obtain⟨w,rfl,I⟩:=fO g;rw[Cf.ext,eY]at y z;rw[f.inj t w k1 k2 u u' r B D H I y z]
 ·obtain⟨i,rfl,e⟩:=fO l;rw[Cf.ext,eY]at g;have:(c.ext k).kid (k+i)=c.kid i:=by show c.kid (k+i - k)=_;rw[Yk]
  rw[this];exact f.dd.kd i u r e g
 ·obtain⟨t,rfl,x⟩:=oD n;obtain⟨w,rfl,J⟩:=oD q;rw[f.dd.dj t w a x J]
 ·obtain⟨i,rfl,x⟩:=oD n;exact f.dd.d1 i a x (yA.mp q)
theorem yB{a:hH}(h:(c.cut k).R1 a):c.R1 a:=by
 obtain⟨j,i,u,l,f,g⟩:=h;rw[Cf.cut,L3]at f g;exact⟨k+j,i,u,l,f,g⟩
theorem oE{a:hH}(h:(c.cut k).RD j a):c.RD (k+j) a:=by
 obtain⟨u,r,f,g,i⟩:=h;rw[Cf.cut,L3]at f g;exact⟨u,r,f,g,i⟩
theorem Ok.cut(k:Nat)(f:Ok C c):Ok C (c.cut k)/\Nx c (c.cut k):=by
 refine⟨⟨f.same,f.JS,f.par,f.io,by simp[Cf.cut,f.len],λj x u e=>?_,λi j k1 k2 u u' r y A g l t w=>?_,⟨λj u r g l=>?_,λi j a n q=>?_,λj a n q=>f.dd.d1 _ a (oE n) (yB q)⟩⟩,⟨⟨λ_ _ h _=>h,λ_ o h=>⟨o,h⟩,λa h=>.inl (h.elim (λz=>.inl (yB z)) λ⟨j,z⟩=>.inr ⟨k+j,oE z⟩),λ_ h=>h,λ_ h=>.inl h⟩⟩⟩
 ·rw[Cf.cut,L3]at e;obtain⟨v,g,l⟩:=f.sl _ x u e;exact⟨v,by rw[Cf.cut,L3];exact g,l⟩
 ·rw[Cf.cut,L3]at g l t w;have:=f.inj _ _ k1 k2 u u' r y A g l t w;lia
 ·rw[Cf.cut,L3]at g l;exact f.dd.kd _ u r g l
 ·have:=f.dd.dj _ _ a (oE n) (oE q);lia
theorem BI(h:∀j,j∉i1 k->g[j]?=(kj k b6++σ)[j]?)(hl:g.length=(kj k (b6:Option V)++σ).length):∃f:L2.St,f.length=k/\g=f++σ:=by
 refine⟨g.take k,by rw[Ig,hl];simp,?_⟩;apply ZA;intro j;by_cases i:j<k
 ·rw[x3 (by rw[Ig,hl];simp;lia),List.getElem?_take,ÿ i]
 ·rw[h j (by simpa using i),q9 (by simp;lia),q9 (by rw[Ig,hl];simp;lia)];congr 1
  rw[Ig,hl];simp
theorem wC(e1:c1.σ=c0.σ)(HN:Ok C c1)(n1:Nx c0 c1)(hw:Walk C c1 rs xs J)(h3:W (bX k t tc me rs xs []) c1.st λus st'=>W (pure (Kd.own,U.lst us)) st' (cp C c0 Q)):
  tT k J (tG C t (i1 k)) (Jm C tc) (HK C me) Q c0.σ c1.H:=by
 refine⟨λi m ys H=>∃c acc,c.H=H/\c.σ=c0.σ/\Ok C c/\Nx c1 c/\m=xs.length - i/\i<=xs.length/\aj C c.S c.H acc ys/\acc.length<=c6/\W (bX k t tc me rs (xs.drop i) acc) c.st λus st'=>W (pure (Kd.own,U.lst us)) st' (cp C c0 Q),⟨xs.length,c1,[],rfl,e1,HN,Nx.refl c1,by simp,i8 _,rfl,i8 _,by simpa using h3⟩,?_⟩;rintro i m ys H ⟨c,acc,rfl,D,q,y,rfl,hi,g,h,w⟩;refine⟨by rw[<-g.len];exact h,?_⟩;have f:kR rs c1 c:=λj u _=>by rw[D,e1]
 by_cases G:i<xs.length
 ·right
  rw[RU G]at w;rw[show bX k t tc me rs (xs[i]::xs.drop (i+1)) acc=aC rs >>= λ_=>inScope k (dm t (i1 k) xs[i] >>= λ_=>tc >>= λb=>if b=cb then(me >>= λr=>lift r >>= λu=>pure (a5 u)) else pure b6) >>= λr=>match r with|some u=>if acc.length<c6 then bX k t tc me rs (xs.drop (i+1)) (acc++[u]) else M.fail|none=>bX k t tc me rs (xs.drop (i+1)) acc from rfl,af,bY]at w;obtain⟨LA,w⟩:=w;obtain⟨I,_⟩:=hw c q y f LA;obtain⟨SD,N',SE⟩:=I i xs[i] (by simp[G]);refine⟨N',λJP H'=>∃c acc,c.H=H'/\c.σ=c0.σ/\Ok C c/\Nx c1 c/\aj C c.S c.H acc JP/\acc.length<=c6/\W (bX k t tc me rs (xs.drop (i+1)) acc) c.st λus st'=>W (pure (Kd.own,U.lst us)) st' (cp C c0 Q),λJP H' ⟨c',HS,z1,z2,z3,z4,z5,z6,z7⟩=>⟨xs.length - (i+1),⋯,c',HS,z1,z2,z3,z4,rfl,G,z5,z6,z7⟩,λx H' hy=>?_⟩;obtain⟨l,rfl,e4,e5,Ie,n2,rt⟩:=SE x H' hy;rw[af,wB,af]at w;obtain⟨UH,nx⟩:=Ie.ext k;have WW:aL C (l.ext k) (l.ext k) xs[i].1 xs[i].2 x:=by
   rcases SD with z|z
   ·rw[z]at rt ⊢;exact rt
   ·rw[z]at rt ⊢;exact rt
  have eσ:(l.ext k).σ=kj k b6++c0.σ:=by rw[Cf.ext];show kj k b6++l.σ=_;rw[e4,D]
  refine⟨l.ext k,l.ext k,xs[i],eσ,rfl,UH,UH,Nx.refl _,WW,?_⟩;have Se:(l.ext k).st=kj k b6++c.st:=by rw[Cf.ext];show kj k b6++l.st=_;rw[e5]
  rw[Se];refine w.mono λ_ Il w3 c3 e6 Kx n3 Pa Qq=>?_;subst e6;rw[eσ]at Pa Qq;obtain⟨L,N,O⟩:=BI Pa Qq;refine⟨L,N,O,?_⟩;have UI:Nx c c3:=(n2.trans nx).trans n3;rw[af]at w3;refine⟨c3,rfl,rfl,Kx,w3.mono λb NU n B e7 e8 T n4=>?_⟩;subst e8;cases b with
  |false =>
   rw[ā q0]at n ⊢;rw[ak]at n;obtain⟨Y,nk⟩:=T.cut k;have nn:Nx c (B.cut k):=(UI.trans n4).trans nk;refine⟨B.cut k,acc,rfl,?_,Y,y.trans nn,g.mv (q.mv nn),h,n⟩;show B.σ.drop k=_;rw[e7,O,Vx N]
  |true =>
   rw[ÿ rfl]at n ⊢;rw[af]at n;refine⟨B,e7,rfl,T,n.mono λr K8 w5 c5 v e9 WX WY n5 WZ=>?_⟩;subst WX;rw[af]at w5;obtain⟨S',st',u,sS,W0,n6,SG,A,_,_⟩:=ij T WY n5 WZ.w w5;rw[ak]at A
   dsimp only at A
   split at A
   ·rename_i hz;obtain⟨Y,nk⟩:=W0.cut k;have nn:Nx c (Cf.cut k {c5 with S:=S',st:=st' }):=((UI.trans n4).trans n6).trans nk;refine⟨Cf.cut k {c5 with S:=S',st:=st' },acc++[u],rfl,?_,Y,y.trans nn,(g.mv (q.mv nn)).snoc SG,by rw[hY];exact hz,A⟩;show c5.σ.drop k=_;rw[e9,O,Vx N]
   ·exact(bj.mp A).elim
 ·left
  have Jv:i=xs.length:=by lia
  subst Jv;rw[ZL,show bX k t tc me rs [] acc=aC rs >>= λ_=>pure acc from rfl,af,bY,ak,ak]at w;obtain⟨_,I⟩:=hw c q y f w.1;exact⟨I _ (hW _),λp hp=>cp.list w.2 D q (n1.trans y) g p hp⟩
theorem mQ(l:Ok C c0)
  (h:W (ms >>= λrs=>aC rs >>= λ_=>M.H9 (JV n rs) >>= λxs=>bX k t tc me rs xs [] >>= λus=>pure (Kd.own,U.lst us)) c0.st (cp C c0 Q)) :
  xB k (Lz C n ms) (tG C t (i1 k)) (Jm C tc) (HK C me) c0.σ c0.H Q:=by
 rw[af]at h;refine⟨c0,rfl,rfl,l,?_⟩;rw[af];refine h.mono λrs st1 f=>?_;rw[af,bY]at f ⊢;refine⟨f.1,?_⟩;have g:=f.2;rw[af]at g ⊢;refine g.mono λxs st2 i=>?_;rw[ak];intro c1 J q r u v w j;rw[af]at i;subst r
 dsimp only at w j
 exact wC q u v j i
theorem yC(S:d5 X N own scope)(f:X.calm=cb)(hi:PI X tg iter (Lz C g ms))
  (i:∀D s H ex,PG (Ja X N scope D s H ex) tg (tG C t (i1 own.length))) (j:∀D s H ex,LZ (Ja X N scope D s H ex) ifs (Jm C tc)) (k:∀D s H ex,PE (Ja X N scope D s H ex) elt (HK C me))
  (hs:∀x,MU iter X.env x=pure x) :
  PE X (.ListComp elt [⟨tg,iter,ifs,0⟩] scope pos) (HK C (ms >>= λrs=>aC rs >>= λ_=>M.H9 (JV g rs) >>= λxs=>bX own.length t tc me rs xs [] >>= λus=>pure (.own,.lst us))):=by
 refine PE.weak (AW S f hi i j k hs) ?_;rintro σ H Q ⟨c0,rfl,rfl,l,h⟩;exact mQ l h
end
section
variable{a b d e o tg iter elt:uv}{es ifs:List uv}{m ma mb md me:M (Kd×U)}{ms:M (List (Kd×U))}{ta tb tc:M Bool}{pos p p2 apos F':Pos}{st:Qj}{rest body:List Qj}{f g mm:M Fl}{ns Ji:Nat->Bool}
def EE(C:Ct)(c:Cf):Kd->U->V->Prop
 |.own,u,v=>∃r,v=.ref r/\C.H₀ r=b6/\¬c.S r/\¬c.R r/\cU C c.S c.H r u
 |.loc,u,v=>Rep C c.S c.H u v
 |.any,u,v=>Rep C (PS C c.S) c.H u v
 |_,_,_=>False
def Fin(C:Ct)(D:Ends)(f:Fl)(c:Cf):Prop:=match f with
 |.nx=>D.nx c.σ c.H
 |.bk=>D.bk c.σ c.H
 |.ct=>D.ct c.σ c.H
 |.rt k u=>∀v,EE C c k u v->D.rt v c.H
def Kept(ns:Nat->Bool)(c h:Cf):Prop:=(∀j,ns j=cb->h.σ[j]?=c.σ[j]?)/\h.σ.length=c.σ.length
theorem Kept.refl:Kept ns c c:=⟨λ_ _=>rfl,rfl⟩
theorem Kept.trans(h:Kept ns c i)(h':Kept ns i k):Kept ns c k:=⟨λj z=>(h'.1 j z).trans (h.1 j z),h'.2.trans h.2⟩
theorem Kept.le(i:∀j,Ji j=cb->ns j=cb)(h:Kept ns c k):Kept Ji c k:=⟨λj z=>h.1 j (i j z),h.2⟩
theorem Kept.of(h:i.σ=c.σ):Kept ns c i:=⟨λj z=>by rw[h],by rw[h]⟩
def kS(C:Ct)(h:Cf)(ns:Nat->Bool)(D:Ends)(f:Fl)(st':aw):Prop:=∀c,c.st=st'->Ok C c->Ns h c->Kept ns h c->Fin C D f c
def IS(C:Ct)(ns:Nat->Bool)(m:M Fl):TS:=λD σ H=>∃c:Cf,c.σ=σ/\c.H=H/\Ok C c/\W m c.st (kS C c ns D)
theorem r9(j:Ok C c)(n:Ns i c)(k:Kept ns i c)(h:W mm c.st (kS C i ns D)):IS C ns mm D c.σ c.H :=
 ⟨c,rfl,rfl,j,h.mono λf st l q e r s k2=>l q e r (n.trans s) (k.trans k2)⟩
theorem PS.weak(h:L2.PS X st t)(i:∀D σ H,t' D σ H->t D σ H):L2.PS X st t':=λpins s σ H D I q=>h pins s σ H D I (i D σ H q)
theorem Je.weak(h:Je X rest t)(i:∀D σ H,t' D σ H->t D σ H):Je X rest t':=λpins s σ H D I q=>h pins s σ H D I (i D σ H q)
theorem oF(i:∀j,Ji j=cb->ns j=cb)(h:IS C Ji mm D σ H):IS C ns mm D σ H :=
 let ⟨c,k,l,n,w⟩:=h;⟨c,k,l,n,w.mono λf st q r e s t k2=>q r e s t (k2.le i)⟩
theorem F8:Je X [] (IS C ns (pure .nx)):=by
 refine Je.weak Av ?_;rintro D σ H ⟨c,rfl,rfl,i,h⟩;rw[ak]at h;exact h c rfl i (Ns.refl c) Kept.refl
noncomputable def BJ(m:M Fl)(f:Fl):M Fl:=match f with
 |.nx=>m
 |f=>pure f
theorem EF(l:L2.PS X st (IS C ns f))(n:Je X rest (IS C ns g)):Je X (st::rest) (IS C ns (f >>= BJ g)):=by
 refine Je.weak (xf l n) ?_;rintro D σ H ⟨q,rfl,rfl,r,h⟩;rw[af]at h;refine⟨q,rfl,rfl,r,h.mono λs st1 w j e c i k1=>?_⟩;subst e;cases s with
 |nx=>exact r9 c i k1 w
 |bk=>rw[show BJ g .bk=pure .bk from rfl,ak]at w;exact w j rfl c i k1
 |ct=>rw[show BJ g .ct=pure .ct from rfl,ak]at w;exact w j rfl c i k1
 |rt k u=>rw[show BJ g (.rt k u)=pure (.rt k u) from rfl,ak]at w;exact w j rfl c i k1
theorem F9:L2.PS X (.Break pos) (IS C ns (pure .bk)):=by
 refine PS.weak xg ?_;rintro D σ H ⟨c,rfl,rfl,i,h⟩;rw[ak]at h;exact h c rfl i (Ns.refl c) Kept.refl
theorem F_:L2.PS X (.Continue pos) (IS C ns (pure .ct)):=by
 refine PS.weak pI ?_;rintro D σ H ⟨c,rfl,rfl,i,h⟩;rw[ak]at h;exact h c rfl i (Ns.refl c) Kept.refl
theorem Ga:L2.PS X (.Pass pos) (IS C ns (pure .nx)):=by
 refine PS.weak Aw ?_;rintro D σ H ⟨c,rfl,rfl,i,h⟩;rw[ak]at h;exact h c rfl i (Ns.refl c) Kept.refl
theorem Gb(i:PE X a (HK C ma))(hs:QO a b6 pos.line X.env=pure cL):L2.PS X (.Expr a pos) (IS C ns (ma >>= λ_=>pure .nx)):=by
 refine PS.weak (jG i hs) ?_;rintro D σ H ⟨k,rfl,rfl,j,h⟩;refine aV j h λx c v t w=>?_;rw[ak]at w;have:=w c rfl t.ok t.nx (Kept.of t.hσ);rw[<-t.hσ];exact this
theorem EG:L2.PS X (.Return b6 pos) (IS C ns (pure (.rt .loc .HH))):=by
 refine PS.weak Ax ?_;rintro D σ H ⟨c,rfl,rfl,i,h⟩;rw[ak]at h;exact h c rfl i (Ns.refl c) Kept.refl .HH rfl
theorem Ge(ha:PE X a (HK C ma)):L2.PS X (.Return (a5 a) pos) (IS C ns (ma >>= retS)):=by
 refine PS.weak (Ds ha) ?_;rintro D σ H ⟨c0,rfl,rfl,T,h⟩;refine aV T h λx c v t w=>?_;obtain⟨k,u⟩:=x;obtain⟨I,s,n,r⟩:=t;cases k with
 |own =>
  rw[show retS (.own,u)=pure (.rt .own u) from rfl,ak]at w;obtain⟨G,e,h1,h2,h3,h4⟩:=r;exact w c rfl s n (Kept.of I) v ⟨G,e,(T.jB h1).1,h2,h3,h4⟩
 |loc =>
  rw[show retS (.loc,u)=pure (.rt .loc u) from rfl,ak]at w;exact w c rfl s n (Kept.of I) v r
 |any =>
  rw[show retS (.any,u)=if H_ u=cb then pure (.rt .loc u) else pure (.rt .any u) from rfl]at w;split at w
  ·rw[ak]at w;exact w c rfl s n (Kept.of I) v (Rep.H_ (by assumption) r)
  ·rw[ak]at w;exact w c rfl s n (Kept.of I) v r
 |bor j =>
  obtain⟨fl,st',e,w⟩:=w;rw[show retS (.bor j,u) c.st=match c.st[j]? with|some (a5 (.own,u))=>a5 (Ex.ok (Fl.rt .own u),c.st.set j b6)|_=>b6 from rfl]at e;split at e
  ·rename_i u' L;cases e;have Lx:j<c.st.length:=(dV.mp L).1;have B:∀(i:Nat) k u',(c.st.set j b6)[i]?=a5 (a5 (k,u'))->i≠j/\c.st[i]?=a5 (a5 (k,u')):=λi k u' e=>by
    by_cases N:i=j
    ·subst N;rw[hQ Lx]at e;cases e
    ·rw[i6 (sx N)]at e;exact⟨N,e⟩
   obtain⟨v',y,G,er,q1,q2,q3,q4⟩:=s.sl j _ _ L;have O:c.σ[j]?=a5 (a5 v):=r.2;rw[O]at y;cases y;subst er;have Y:∀a,({c with st:=c.st.set j b6}:Cf).R1 a->c.R1 a:=λa ⟨i,k,l,hk,y,A⟩=>⟨i,k,l,hk,(B i k l y).2,A⟩
   have hR:∀a,({c with st:=c.st.set j b6}:Cf).R a->c.R a:=λa z=>z.elim (λz=>.inl (Y a z)) λ⟨i,l,Q,y,A,J⟩=>.inr ⟨i,l,Q,(B i .G' l y).2,A,J⟩;have Mi:Lb C {c with st:=c.st.set j b6}:=s.dd.of rfl (λi l e=>⟨(B i .G' l e).2,rfl⟩) (λa z=>.inl (Y a z)) (.up λ_ z=>z) λi a z=>⟨(s.root (.inr ⟨i,z⟩)).1,λo q=>q⟩
   have W2:Ok C {c with st:=c.st.set j b6}:=⟨s.same,s.JS,s.par,s.io,by simp[s.len],λi k l e=>s.sl i k l (B i k l e).2,λi i' k k' u1 l r hk Ip y A J e4=>s.inj i i' k k' u1 l r hk Ip (B i k u1 y).2 (B i' k' l A).2 J e4,Mi⟩
   have nn:Ns c0 {c with st:=c.st.set j b6}:=⟨n.keep,n.there,λa z=>n.roots a (hR a z),n.sub,n.new⟩
   refine w {c with st:=c.st.set j b6} rfl W2 nn (Kept.of I) (.ref G) ⟨G,rfl,q3,q1,λz=>?_,q4⟩
   ·rcases z with⟨i,k,l,hk,y,A⟩|⟨i,l,Q,y,A,J⟩
    ·obtain⟨ne,IT⟩:=B i k l y;exact ne (s.inj i j k .own l _ G hk rfl IT L A O)
    ·exact s.dd.d1 i G ⟨l,Q,(B i .G' l y).2,A,J⟩ ⟨j,.own,_,rfl,L,O⟩
  ·cases e
 |_=>exact r.elim
end
section
theorem qm(f:∀j,ns j=cb->j≠i)(g:Ok C a)(t:MK C a c r v)(hi:i<c.σ.length)(w:W (fq i r >>= λ_=>(pure .nx:M Fl)) c.st (kS C a ns D)):D.nx (a.σ.set i (a5 v)) c.H:=by
 rw[af]at w;obtain⟨b,d,h,k,l,q⟩:=uo (r:=r) g t.ok t.nx hi t.rx w;rw[ak]at q;have z:=q b rfl k l ⟨λj m=>by rw[d,t.hσ,i6 (sx (f j m))],by rw[d,t.hσ];simp⟩;have e:D.nx b.σ b.H:=z;rw[d,h,t.hσ]at e;exact e
theorem CT(f:∀j,ns j=cb->j≠i)(g:X.N.Nodup)(hi:X.N[i]?=a5 x)(k:Loc X.env.scope x)(l:X.fn x=cb\/X.env.scope.names.lookup x=a5 .local)(m:PE X a (HK C n))
  (hs:QO a (a5 (.Name x b)) pos.line X.env=pure cL):L2.PS X (.Assign [.Name x b] a pos) (IS C ns (n >>= λr=>fq i r >>= λ_=>pure .nx)):=by
 rintro pins s σ H D I ⟨d,rfl,rfl,e,h⟩;have o:i<d.σ.length:=by rw[I.len];exact(dV.mp hi).1
 exact xj g hi k m hs l pins s d.σ d.H D I (aV e h λr c v t w=>qm f e t (by rw[t.hσ];exact o) w)
theorem EH(l:∀j,ns j=cb->j≠i)(S:d5 X N own scope)(m:X.calm=cb)(o:X.N.Nodup)(f:X.N[i]?=a5 y)(p:X.env.scope.names.lookup y=a5 .local)
  (hi:PI X d a (Lz C q ms)) (u:∀D s H ex,PG (Ja X N scope D s H ex) d (tG C t (i1 own.length))) (z:∀D s H ex,LZ (Ja X N scope D s H ex) b (Jm C A)) (B:∀D s H ex,PE (Ja X N scope D s H ex) elt (HK C G))
  (J:QO (.ListComp elt [⟨d,a,b,0⟩] scope pos) (a5 (.Name y L)) O.line X.env=pure cb) (hs:∀x,MU a X.env x=pure x) :
  L2.PS X (.Assign [.Name y L] (.ListComp elt [⟨d,a,b,0⟩] scope pos) O)
   (IS C ns ((ms >>= λrs=>aC rs >>= λ_=>M.H9 (JV q rs) >>= λxs=>bX own.length t A G rs xs [] >>= λus=>pure (.own,.lst us)) >>= λr=>fq i r >>= λ_=>pure .nx)):=by
 rintro pins s σ H D I ⟨e,rfl,rfl,g,h⟩;have Q:i<e.σ.length:=by rw[I.len];exact(dV.mp f).1
 refine AX S m o f p hi u z B J hs pins s e.σ e.H D I ?_;rw[af]at h;refine mQ g (h.mono λr st1 w c v k T Y n rt=>?_);subst T;exact qm l g ⟨k,Y,n,rt⟩ (by rw[k];exact Q) w
theorem EI(g:∀j,ns j=cb->j∉is)(i:PE X a (HK C k))(l:PG X b (tG C cb is))(hs:Q6 [b] a pos.line X.env=pure cL)(m:Vf [b] a X.env=pure b6)(n:(Pt [b] X.env).map (·.2)=[R5 b X.env]):
  L2.PS X (.Assign [b] a pos) (IS C ns (k >>= λr=>dm cb is r >>= λ_=>pure .nx)):=by
 refine PS.weak (rj i l hs m n) ?_;rintro D σ H ⟨o,rfl,rfl,d,h⟩;refine aV d h λr c v t w=>?_;rw[af]at w;refine⟨o,c,r,t.hσ,rfl,d,t.ok,t.nx,t.rx,w.mono λ_ st1 f p e q s u hl=>?_⟩;subst e;rw[ak]at f;exact f p rfl q s ⟨λj x=>by rw[u j (g j x),t.hσ],by rw[hl,t.hσ]⟩
theorem Gf(i:PT X a (Jm C j))(k:Je X l (IS C ns f))(m:Je X o (IS C ns g)):L2.PS X (.If a l o pos) (IS C ns (j >>= λp=>if p=cb then f else g)):=by
 refine PS.weak (Fw i k m) ?_;rintro D σ H ⟨q,rfl,rfl,r,h⟩;refine eI r h λp c b d n w=>?_;have e:q.σ=c.σ:=b.symm;rw[e];cases p with
 |true=>rw[ÿ rfl]at w ⊢;exact r9 d n (Kept.of b) w
 |false=>rw[ā q0]at w ⊢;exact r9 d n (Kept.of b) w
theorem Gg(L:XJ (hE X.prog X.w) X.A X.env X.xe)(N:PT X a (Jm C g))(O:Je X body (IS C ns f)):L2.PS X (.While a body [] pos) (IS C ns (eW g f n)):=by
 refine PS.weak (xk L N O) ?_;rintro D σ H ⟨d,rfl,rfl,Q,h⟩;refine⟨λm t H'=>∃c,c.H=H'/\c.σ=t/\Ok C c/\Ns d c/\Kept ns d c/\W (eW g f m) c.st (kS C d ns D),⟨n,d,rfl,rfl,Q,Ns.refl d,Kept.refl,h⟩,?_⟩;rintro m t H' ⟨c,rfl,rfl,T,v,x,w⟩;cases m with
 |zero=>exact(bj.mp w).elim
 |succ m =>
  rw[show eW g f (m+1)=g >>= λb=>if b=cb then(f >>= λf'=>match f' with|.nx=>eW g f m|.ct=>eW g f m|.bk=>pure .nx|.rt k u=>pure (.rt k u)) else pure .nx from rfl]at w;refine eI T w λp l y B G i=>?_;have k2:Kept ns c l:=Kept.of y;rw[<-y];cases p with
  |false =>
   rw[ā q0]at i ⊢;rw[ak]at i;exact i l rfl B (v.trans G) (x.trans k2)
  |true =>
   rw[ÿ rfl]at i ⊢;refine⟨λI J=>∃c,c.H=J/\c.σ=I/\Ok C c/\Ns d c/\Kept ns d c/\W (eW g f m) c.st (kS C d ns D),λI J z=>⟨m,LX m,z⟩,?_⟩;rw[af]at i;refine⟨l,rfl,rfl,B,i.mono λY Il j o e q n3 k3=>?_⟩;subst e;have r:=(v.trans G).trans n3;have s:=(x.trans k2).trans k3;cases Y with
   |nx=>exact⟨o,rfl,rfl,q,r,s,j⟩
   |ct=>exact⟨o,rfl,rfl,q,r,s,j⟩
   |_=>rw[ak]at j;exact j o rfl q r s
theorem Gh(hp:XJ (hE X.prog X.w) X.A X.env X.xe)(hc:X.calm=cb)(hi:PI X tg a (Lz C ik ms))(hg:PG X tg (tG C t is))(hb:Je X body (IS C (Kw s) f))(hs:∀x,MU a X.env x=pure x)
  (Ju:∀j,ns j=cb->j∉is/\Kw s j=cb) :
  L2.PS X (.For tg a body [] pos) (IS C ns (ms >>= λrs=>aC rs >>= λ_=>M.H9 (JV ik rs) >>= λxs=>if uc rs is s=cb then forM t is f rs xs else M.fail)):=by
 refine PS.weak (DB hp hc hi hg hb hs) ?_;rintro D σ H ⟨d,rfl,rfl,ok,h⟩;rw[af]at h;refine⟨d,rfl,rfl,ok,?_⟩;rw[af];refine h.mono λrs st1 v=>?_;rw[af,bY]at v ⊢;refine⟨v.1,?_⟩;have h2:=v.2;rw[af]at h2 ⊢;refine h2.mono λxs st2 y=>?_;rw[ak];intro b J e1 e2 HN n1 HL B;subst e2
 dsimp only at HL B
 split at y
 ·rename_i Nl;have SM:∀j u,(Kd.bor j,u)∈rs->j∉is/\Kw s j=cb:=λj u o=>by
   have:=i7.mp Nl _ o;simpa using this
  refine⟨λi m l H'=>∃c,c.H=H'/\c.σ=l/\Ok C c/\Ns b c/\Kept ns d c/\kR rs b c/\m=xs.length - i/\i<=xs.length/\W (forM t is f rs (xs.drop i)) c.st (kS C d ns D),
   ⟨xs.length,b,rfl,e1,HN,Ns.refl b,Kept.of e1,λ_ _ _=>rfl,by simp,i8 _,by simpa using y⟩,?_⟩
  rintro i m l H' ⟨c,rfl,rfl,G,p,kc,I,rfl,Jv,w⟩;by_cases L:i<xs.length
  ·right
   rw[RU L,show forM t is f rs (xs[i]::xs.drop (i+1))=aC rs >>= λ_=>dm t is xs[i] >>= λ_=>f >>= λf'=>match f' with|.nx=>forM t is f rs (xs.drop (i+1))|.ct=>forM t is f rs (xs.drop (i+1))|.bk=>pure .nx|.rt k u=>pure (.rt k u) from rfl,af,bY]at w;obtain⟨LA,w⟩:=w;obtain⟨N,_⟩:=B c G p I LA;obtain⟨SD,N',SE⟩:=N i xs[i] (by simp[L]);refine⟨N',λl H'=>∃c,c.H=H'/\c.σ=l/\Ok C c/\Ns b c/\Kept ns d c/\kR rs b c/\W (forM t is f rs (xs.drop (i+1))) c.st (kS C d ns D),λl H' ⟨c',z1,z2,z3,z4,z5,z6,z7⟩=>⟨xs.length - (i+1),⋯,c',z1,z2,z3,z4,z5,z6,rfl,L,z7⟩,λx H' hy=>?_⟩;obtain⟨n,rfl,q,e5,Ie,n2,rt⟩:=SE x H' hy;rw[af]at w;have W3:aL C n n xs[i].1 xs[i].2 x:=by
    rcases SD with z|z
    ·rw[z]at rt ⊢;exact rt
    ·rw[z]at rt ⊢;exact rt
   refine⟨n,n,xs[i],q,rfl,Ie,Ie,Nx.refl n,W3,?_⟩;rw[e5];refine w.mono λ_ Il w3 c3 e6 Kx n3 UL Qq=>?_;subst e6;rw[af]at w3;refine⟨c3,rfl,rfl,Kx,w3.mono λfl NU r g e O n4 Q=>?_⟩;subst e;have T:Ns b g:=((p.trans n2.toNs).trans n3.toNs).trans n4;have Y:Kept ns d g:=by
    refine kc.trans ⟨λj hj=>?_,by rw[Q.2,Qq,q]⟩;obtain⟨j1,j2⟩:=Ju j hj;rw[Q.1 j j2,UL j j1,q]
   have UM:kR rs b g:=λj u o=>by
    obtain⟨j1,j2⟩:=SM j u o;rw[Q.1 j j2,UL j j1,q];exact I j u o
   cases fl with
   |nx=>exact⟨g,rfl,rfl,O,T,Y,UM,r⟩
   |ct=>exact⟨g,rfl,rfl,O,T,Y,UM,r⟩
   |_=>rw[ak]at r;exact r g rfl O (n1.toNs.trans T) Y
  ·left
   have W4:i=xs.length:=by lia
   subst W4;rw[ZL,show forM t is f rs []=aC rs >>= λ_=>pure .nx from rfl,af,bY,ak]at w;obtain⟨_,N⟩:=B c G p I w.1;exact⟨N _ (hW _),w.2 c rfl G (n1.toNs.trans p) kc⟩
 ·exact(bj.mp y).elim
end
section
theorem Ok.mod(b:Ok C c)(n:Ns c0 c)(hk:k.root=cb)(hi:c.st[i]?=a5 (a5 (k,u)))(B:c.σ[i]?=a5 (a5 (.ref r)))(IF:∀a,a≠r->H' a=c.H a)(Y:∃o,H' r=a5 o)
  (new:Mv c.S c.H c.S H'->cU C c.S H' r u'):Ok C {c with H:=H',st:=c.st.set i (a5 (k,u'))}/\Ns c0 {c with H:=H',st:=c.st.set i (a5 (k,u'))}:=by
 have KY:c.R1 r:=⟨i,k,u,hk,hi,B⟩
 have hR:c.R r:=.inl KY;obtain⟨G,q2,q3,o,ho,Nm⟩:=b.root hR;have I:i<c.st.length:=(dV.mp hi).1;have m:∀{a:hH} {o':HO},a≠r->c.H a=a5 o'->H' a=a5 o':=λJ e=>by rw[IF _ J];exact e
 have D:Mv c.S c.H c.S H':=⟨λ_ z=>z,λa o' e t=>m (λz=>by subst z;rw[ho]at e;cases e;exact Nm t) e,λa o' z e=>m (λd=>G (d▸z)) e⟩
 have Mb:Mv (PS C c.S) c.H (PS C c.S) H':=⟨λ_ z=>z,D.O4,λa o' z e=>m (λd=>by subst d;exact z.elim q2 G) e⟩
 have L:∀(j:Nat) k' w,(c.st.set i (a5 (k,u')))[j]?=a5 (a5 (k',w))->j≠i->c.st[j]?=a5 (a5 (k',w)):=λj k' w e J=>by rw[i6 (sx J)]at e;exact e
 have f:∀(j:Nat) k' w,k'.root=cb->(c.st.set i (a5 (k,u')))[j]?=a5 (a5 (k',w))->∃N,c.st[j]?=a5 (a5 (k',N)):=λj k' w _ e=>by
  by_cases p:j=i
  ·subst p;rw[hQ I]at e;cases e;exact⟨u,hi⟩
  ·exact⟨w,L j k' w e p⟩
 have b1:∀a,({c with H:=H',st:=c.st.set i (a5 (k,u'))}:Cf).R1 a->c.R1 a:=λa Ir=>by
  obtain⟨j,k',w,g,h,l⟩:=Ir;obtain⟨N,a1⟩:=f j k' w g h;exact⟨j,k',N,g,a1,l⟩
 have dD:∀(j:Nat) (w:U),(c.st.set i (a5 (k,u')))[j]?=a5 (a5 (.G',w))->c.st[j]?=a5 (a5 (.G',w)):=λj w e=>by
  by_cases p:j=i
  ·subst p;rw[hQ I]at e;cases e;cases hk
  ·exact L j .G' w e p
 have Mi:Lb C {c with H:=H',st:=c.st.set i (a5 (k,u'))}:=b.dd.of rfl (λj w e=>⟨dD j w e,rfl⟩) (λa z=>.inl (b1 a z)) D λj a z=>⟨(b.root (.inr ⟨j,z⟩)).1,λo' e=>m (λd=>b.dd.d1 j a z (d▸KY)) e⟩
 refine⟨⟨λa o' e z=>?_,λa z=>?_,b.par,λa z=>?_,by simp[b.len],λj k' w e=>?_,λj1 j2 k1 k2 w1 w2 q g s h l O e4=>?_,Mi⟩,n.trans ⟨λa o' e z=>m (λd=>z (d▸hR)) e,λa o' e=>?_,λa z=>?_,λ_ z=>z,λ_ z=>.inl z⟩⟩
 ·have g:=b.same a o' e z;refine m (λd=>?_) g;subst d;rcases q3 with q3|q3
  ·rw[e]at q3;cases q3
  ·exact z q3
 ·obtain⟨g,o',s⟩:=b.JS a z;exact⟨g,o',m (λd=>G (d▸z)) s⟩
 ·obtain⟨g,o',s⟩:=b.io a z;refine⟨g,?_⟩;by_cases y:a=r
  ·subst y;exact Y
  ·exact⟨o',m y s⟩
 ·by_cases p:j=i
  ·subst p;rw[hQ I]at e;cases e;obtain⟨v,h,l⟩:=b.sl j _ _ hi;rw[B]at h;cases h;refine⟨.ref r,B,?_⟩;have nr:=new D;cases k with
   |own=>obtain⟨q,x,A,Q,T,_⟩:=l;cases x;exact⟨r,rfl,A,Q,T,nr⟩
   |io=>obtain⟨q,x,A,Q,T,_⟩:=l;cases x;exact⟨r,rfl,A,Q,T,nr⟩
   |_=>cases hk
  ·have e0:=L j k' w e p;obtain⟨v,h,l⟩:=b.sl j k' w e0;refine⟨v,h,l.mv D Mb λIp q x=>?_⟩;obtain⟨O7,Jz,A,_⟩:=l.rt Ip;rw[x]at Jz;cases Jz;refine⟨A,λo' e=>m (λz=>?_) e⟩;subst z;exact p (b.inj j i k' k w u q Ip hk e0 hi (by rw[h,x]) B)
 ·obtain⟨Qr,a1⟩:=f j1 k1 w1 g h;obtain⟨UN,a2⟩:=f j2 k2 w2 s l;exact b.inj j1 j2 k1 k2 Qr UN q g s a1 a2 O e4
 ·by_cases y:a=r
  ·subst y;exact Y
  ·exact⟨o',m y e⟩
 ·rcases z with z|⟨j,w,q,h,l,O⟩
  ·exact .inl (.inl (b1 a z))
  ·exact .inl (.inr ⟨j,w,q,dD j w h,l,O⟩)
theorem fP{f:U->Option U}{st:aw}(h:W (modS i f) st Q):∃k u u',k.root=cb/\st[i]?=a5 (a5 (k,u))/\f u=a5 u'/\Q () (st.set i (a5 (k,u'))):=by
 obtain⟨_,st',e,q⟩:=h;unfold modS at e;split at e
 ·rename_i k u hs;split at e
  ·rename_i hk;cases a:f u with
   |none=>rw[a]at e;cases e
   |some u'=>rw[a]at e;cases e;exact⟨k,u,u',hk,hs,a,q⟩
  ·cases e
 ·cases e
theorem c7{st:aw}(h:W (dg i) st Q):∃k u,k≠.G'/\st[i]?=a5 (a5 (k,u))/\Q (if k.root=cb then .bor i else k,u) st:=by
 obtain⟨r,st',e,q⟩:=h;unfold dg at e;split at e
 ·cases e
 ·rename_i k u a hs;cases e;exact⟨k,u,λz=>a z,hs,q⟩
 ·cases e
theorem Gi(Y:C.K=X.K)(hN:X.N[i]?=a5 x)(hv:JY X.env.scope x)(hd:(x==("__debug__":Str))=cL)(IE:(x==("__classdict__":Str))=cL)(ha:PE X a (HK C ma))
  (I_:((Kj g (js [a] X.env)).all (λx=>!x.1)&&(Qi g (MP [] X.env)).all (λx=>x.1.isSome)
   && df ([a].length+([]:List NY).length+(if ([]:List NY).isEmpty then 0 else 1)<30))=cb)
  (HU:(b.endLine==g.line)=cb) (o:js [a] X.env=[(cL,H0 a X.env)]) :
  L2.PS X (.Expr (.Call (.Attribute (.Name x px) "append" b) [a] [] g) pos) (IS C ns (dg i >>= λx=>Mg x.2 >>= λ_=>ma >>= λr=>lift r >>= λu=>modS i (yk u) >>= λ_=>pure .nx)):=by
 refine PS.weak (jG (tM PySem.F.plainAttrs_list PySem.F.slot_list_append PySem.F.type_list_append mj (cH hN hv hd IE) (eR ha iN o) rfl I_ HU o rfl)) ?_;rintro D σ H ⟨p,rfl,rfl,f,h⟩;rw[af]at h;obtain⟨k0,s,K5,y,h⟩:=c7 h;obtain⟨A,l,m⟩:=f.sl i k0 s y;refine⟨A,l,?_⟩;cases s with
 |lst B =>
  rw[af,show Mg (U.lst B)=pure () from rfl,ak]at h;have Pb:aL C p p (if k0.root=cb then .bor i else k0) (.lst B) A:=by
   by_cases hk:k0.root=cb
   ·rw[ÿ hk];exact⟨⟨k0,hk,y⟩,l⟩
   ·rw[ā hk];cases k0 with
    |loc=>exact m
    |any=>exact m
    |bor j=>exact m.elim
    |G'=>exact(K5 rfl).elim
    |_=>exact absurd rfl hk
  obtain⟨a0,N_,n,NQ,_⟩:=Pb.list f;refine⟨by rw[n];exact .inl ⟨rfl,N_,Y▸NQ⟩,?_⟩;refine aV f h λr c v t w=>?_;rw[af]at w;obtain⟨S',st',u,sS,G,n1,d,I,_,_⟩:=ij f t.ok t.nx t.rx.w w;rw[af]at I;obtain⟨k,u1,u2,hk,hs,e,q⟩:=fP I;have J:c.σ[i]?=a5 (a5 (.ref a0)):=by rw[t.hσ,l,n]
  cases u1 with
  |lst L =>
   simp only[yk]at e;split at e
   ·rename_i hz;cases e;obtain⟨v',e1,e2⟩:=G.sl i k (.lst L) hs;have O:c.σ[i]?=a5 (a5 v'):=e1;rw[J]at O;cases O;obtain⟨r',er,_,_,_,ws,hw,Q⟩:=e2.rt hk;cases er;have Qs:c.H a0=a5 (.lst ws):=hw;refine⟨a0,ws,v,n,rfl,Qs,by rw[<-Q.len];exact hz,?_⟩;rw[ak]at q;obtain⟨Ie,n2⟩:=Ok.mod (c:={c with S:=S',st:=st' }) (H':=upd c.H a0 (.lst (ws++[v]))) (u':=.lst (L++[u])) G n1.toNs hk hs J (λa ne=>aq ne) ⟨_,az⟩ λT=>⟨ws++[v],az,(Q.mv T).snoc (d.mv T)⟩
    have z:=q _ rfl Ie n2 (Kept.of t.hσ);rw[<-t.hσ];exact z
   ·cases e
  |_=>cases e
 |_=>rw[af]at h;exact(bj.mp h).elim
theorem Gj(A:C.K=X.K)(hN:X.N[i]?=a5 x)(hv:JY X.env.scope x)(hd:(x==("__debug__":Str))=cL)(IE:(x==("__classdict__":Str))=cL)(ha:PE X a (HK C ma))
  (I_:((Kj g (js [a] X.env)).all (λx=>!x.1)&&(Qi g (MP [] X.env)).all (λx=>x.1.isSome)
   && df ([a].length+([]:List NY).length+(if ([]:List NY).isEmpty then 0 else 1)<30))=cb)
  (HU:(f.endLine==g.line)=cb) (B:js [a] X.env=[(cL,H0 a X.env)]) :
  L2.PS X (.Expr (.Call (.Attribute (.Name x px) "extend" f) [a] [] g) pos) (IS C ns (dg i >>= λx=>Mg x.2 >>= λ_=>ma >>= λr=>modS i (kO r) >>= λ_=>pure .nx)):=by
 refine PS.weak (jG (tM PySem.F.plainAttrs_list PySem.F.slot_list_extend PySem.F.type_list_extend rO (cH hN hv hd IE) (eR ha iN B) rfl I_ HU B rfl)) ?_;rintro D σ H ⟨G,rfl,rfl,l,h⟩;rw[af]at h;obtain⟨k0,I,K5,J,h⟩:=c7 h;obtain⟨L,m,n⟩:=l.sl i k0 I J;refine⟨L,m,?_⟩;cases I with
 |lst O =>
  rw[af,show Mg (U.lst O)=pure () from rfl,ak]at h;have Pb:aL C G G (if k0.root=cb then .bor i else k0) (.lst O) L:=by
   by_cases hk:k0.root=cb
   ·rw[ÿ hk];exact⟨⟨k0,hk,J⟩,m⟩
   ·rw[ā hk];cases k0 with
    |loc=>exact n
    |any=>exact n
    |bor j=>exact n.elim
    |G'=>exact(K5 rfl).elim
    |_=>exact absurd rfl hk
  obtain⟨a0,N_,o,NQ,_⟩:=Pb.list l;refine⟨by rw[o];exact .inl ⟨rfl,N_,A▸NQ⟩,?_⟩;refine aV l h λr c v t w=>?_;rw[af]at w;obtain⟨k,p,u2,hk,hs,d,q⟩:=fP w;have Q:c.σ[i]?=a5 (a5 (.ref a0)):=by rw[t.hσ,m,o]
  obtain⟨rk,ru⟩:=r;have s:∃e zs b vs,p=.lst e/\v=.ref b/\(Ij C.K c.H b vs\/Im C.K c.H b vs)/\aj C c.S c.H zs vs/\e.length+zs.length<=c6/\u2=.lst (e++zs):=by
   cases ru with
   |lst zs =>
    cases p with
    |lst e =>
     simp only[kO]at d;split at d
     ·rename_i hz;cases d;obtain⟨b,vs,ev,u,y⟩:=t.rx.list t.ok;exact⟨_,_,b,vs,rfl,ev,.inl u,cF hz.2 y,hz.1,rfl⟩
     ·cases d
    |_=>simp[kO]at d
   |tup zs =>
    cases p with
    |lst e =>
     simp only[kO]at d;split at d
     ·rename_i hz;cases d;obtain⟨b,vs,ev,u,y⟩:=t.rx.tuple t.ok;exact⟨_,_,b,vs,rfl,ev,.inr u,cF hz.2 y,hz.1,rfl⟩
     ·cases d
    |_=>simp[kO]at d
   |_=>simp[kO]at d
  obtain⟨e,zs,b,vs,rfl,rfl,hB,hz,hl,rfl⟩:=s;obtain⟨v',T,e2⟩:=t.ok.sl i k (.lst e) hs;rw[Q]at T;cases T;obtain⟨r',er,_,_,_,ws,hw,Y⟩:=e2.rt hk;cases er;refine⟨a0,b,ws,vs,o,rfl,hw,A▸hB,by rw[<-Y.len,<-hz.len];exact hl,?_⟩;rw[ak]at q;obtain⟨Ie,n2⟩:=Ok.mod (c:=c) (H':=upd c.H a0 (.lst (ws++vs))) (u':=.lst (e++zs)) t.ok t.nx.toNs hk hs Q (λa ne=>aq ne) ⟨_,az⟩ λmv=>⟨ws++vs,az,(Y.mv mv).append (hz.mv mv)⟩
  have z:=q _ rfl Ie n2 (Kept.of t.hσ);rw[<-t.hσ];exact z
 |_=>rw[af]at h;exact(bj.mp h).elim
theorem nM.or(h:nM X t)(h':nM X t'):nM X (λo i v H Q=>t o i v H Q\/t' o i v H Q):=λpins s σ H o i v a b u Q I c d e q =>
 q.elim (h pins s σ H o i v a b u Q I c d e) (h' pins s σ H o i v a b u Q I c d e)
theorem set_dict(b:X.A.units+1<Ml):nM X (λo i v H Q=>∃a H',o=.ref a/\vP H a i v H'/\Q H'):=by
 rintro pins s σ H o i v f h u Q I c d rv ⟨a,H',rfl,g,q⟩;cases c;exact vQ b I g d rv λs' e=>⟨H',e,q⟩
theorem yD{S:hH->Prop}{kvs:List (Key×V)}(a:kvs.map (·.1)=ks.map kr)(c:aj C S H us (kvs.map (·.2)))(d:Rep C S H u v):
  (putK kvs (kr y) v).map (·.1)=(dput ks us y u).1.map kr/\aj C S H (dput ks us y u).2 ((putK kvs (kr y) v).map (·.2)):=by
 have e:(kvs.any λkv=>df (kv.1=(kr y:Key)))=df (y∈ks):=by
  rw[gZ];exact(cZ (x:=y) a c).2
 unfold putK dput;rw[e];by_cases b:y∈ks
 ·rw[ÿ (by simpa using b),ÿ b];constructor
  ·rw[i5];rw[<-a];apply tj;intro p _;show(if p.1=kr y then(p.1,v) else p).1=p.1;split<;>rfl
  ·clear e b;induction kvs generalizing ks us with
   |nil =>
    have:ks=[]:=by simpa using a.symm
    subst this;simp[aj]
   |cons p kvs g =>
    cases ks with
    |nil=>simp at a
    |cons k ks =>
     cases us with
     |nil=>simp[aj]at c
     |cons j us =>
      rw[ez,ez,P2]at a;obtain⟨l,m,f,h,i⟩:=c;rw[ez]at f;cases f;rw[ez,OU,ez,ez];refine⟨_,_,rfl,?_,g a.2 i⟩;by_cases hk:k=y
      ·rw[ÿ (by exact hk),ÿ (by rw[a.1,hk])];exact d
      ·rw[ā (by exact hk),ā (by rw[a.1];intro z;exact hk (UA z))];exact h
 ·rw[ā (by simpa using b),ā b];exact⟨by rw[ke,a,ke];rfl,by rw[ke];exact c.snoc d⟩
theorem Gk(hP:C.P=X.prog)(hw:C.w=X.w)(hK:C.K=X.K)(hu:X.A.units+60<Ml)(hN:X.N[i]?=a5 x)(hv:JY X.env.scope x)(hd:(x==("__debug__":Str))=cL)(IE:(x==("__classdict__":Str))=cL)
  (ha:PE X a (HK C ma)) (hb:PE X b (HK C mb)) (hs:Q6 [.Subscript (.Name x B) b p] a pos.line X.env=pure cL) (SQ:Vf [.Subscript (.Name x B) b p] a X.env=pure b6)
  (O:∀v,R5 (.Subscript (.Name x B) b p) X.env v=(do
   let G <-MR [v] (H0 (.Name x B) X.env)
   let Q <-MR [v,G] (H0 b X.env)
   Yg p
   MR [v,G,Q] (Tu G Q v)
   V_ [v,G,Q] [])) :
  L2.PS X (.Assign [.Subscript (.Name x B) b p] a pos) (IS C ns (ma >>= λr=>dg i >>= λ_=>mb >>= λx=>de [r,x] >>= λus=>modS i (ub us) >>= λ_=>pure .nx)):=by
 refine PS.weak (rj ha (xi (cH hN hv hd IE) hb (nM.or set_list (set_dict (X:=X) ⋯)) O) hs SQ rfl) ?_;rintro D σ H ⟨c0,rfl,rfl,ok,h⟩;refine aV ok h λr c v t w=>?_;rw[af]at w;obtain⟨k0,u0,K5,Jo,w⟩:=c7 w;obtain⟨v0,e0,KP⟩:=t.ok.sl i k0 u0 Jo;refine⟨v0,by rw[<-t.hσ];exact e0,?_⟩;rw[af]at w;refine⟨c,t.hσ,rfl,t.ok,w.mono λy st2 w2 f m I e4 Ie n2 r2=>?_⟩;subst e4;rw[af]at w2;have SR:=t.nx.trans n2;have T:cO C c0 f [r,y] [v,m]:=⟨v,[m],rfl,t.rx.w.on t.ok n2 (I.trans t.hσ.symm),⟨m,[],rfl,(r2.w).from t.nx,rfl,λ_ i r' Y e _=>by simp at e⟩,λhk i r' Y e5 e6 Ip=>by
  cases i with
  |zero=>simp at e5 e6;subst e5 e6;exact kP t.rx.w r2.w hk Ip
  |succ i=>simp at e5⟩
 obtain⟨S',st',us,sS,HN,n1,g,w1⟩:=il ok Ie SR T w2;rw[af]at w1;obtain⟨k,J,u2,hk,JQ,d,q⟩:=fP w1;rw[ak]at q;have hσ:f.σ[i]?=a5 (a5 v0):=by rw[I,<-t.hσ];exact e0
 obtain⟨Y,e1,e2⟩:=HN.sl i k J JQ;have IT:f.σ[i]?=a5 (a5 Y):=e1;rw[hσ]at IT;cases IT;obtain⟨a0,er,z1,z2,z3,l⟩:=e2.rt hk;subst er;have W5:({f with S:=S',st:=st' }:Cf).σ[i]?=a5 (a5 (.ref a0)):=hσ;obtain⟨Qr,ws,ew,UO,UN,Ys,Yt,UP,W6⟩:∃u ws,us=[u,ws]/\Rep C S' f.H u v/\∃(_:Unit) (_:Unit),True/\Rep C S' f.H ws m/\True:=by
  cases us with
  |nil=>simp[aj]at g
  |cons u us =>
   obtain⟨_,_,e,q1,q2⟩:=g;cases e;cases us with
   |nil=>simp[aj]at q2
   |cons u' us =>
    obtain⟨_,_,e,q3,q4⟩:=q2;cases e;cases us with
    |nil=>exact⟨u,u',rfl,q1,(),(),trivial,q3,trivial⟩
    |cons _ _=>obtain⟨_,_,e,_⟩:=q4;cases e
 subst ew;rw[show ub [Qr,ws] J=dy ws Qr J from rfl]at d;have n:∀{H':Hp} ,(∀a,a≠a0->H' a=f.H a)->(∃o,H' a0=a5 o)->(Mv S' f.H S' H'->cU C S' H' a0 u2)->D.nx c0.σ H':=λ{H'} IF hr new=>by
  obtain⟨Kx,n3⟩:=Ok.mod (c:={f with S:=S',st:=st' }) (H':=H') (u':=u2) HN n1.toNs hk JQ W5 IF hr new;have z:=q _ rfl Kx n3 (Kept.of I);rw[<-I];exact z
 cases J with
 |lst xs =>
  cases ws with
  |int j =>
   simp only[dy,fS]at d;obtain⟨j',hj,rfl⟩:=d;obtain⟨vs,h1,s⟩:=l;have ey:m=.int j:=UP;refine .inl ⟨a0,vs,j,j',rfl,ey,h1,by rw[<-s.len];exact hj,?_⟩;exact n (λa ne=>aq ne) ⟨_,az⟩ λL=>⟨vs.set j' v,az,(s.mv L).set j' (UO.mv L)⟩
  |_=>simp[dy]at d
 |HE ks vs =>
  cases ws with
  |str y' =>
   simp only[dy]at d;split at d
   ·rename_i hz;cases d;obtain⟨kvs,h1,s,h3⟩:=l;have ey:m=.str y':=UP;subst ey;have hl:kvs.length=ks.length:=by have:=Ą Kz s;simpa using this
    refine .inr ⟨a0,_,rfl,vP.k (k:=kr y') h1 (by rw[hl];exact hz),?_⟩;refine n (λa ne=>aq ne) ⟨_,az⟩ λL=>?_;obtain⟨g1,g2⟩:=yD (y:=y') s h3 UO;exact⟨_,az,g1,g2.mv L⟩
   ·cases d
  |_=>simp[dy]at d
 |_=>simp[dy]at d
theorem Ok.slot(d:Ok C c)(e:k≠.G')(hs:c.st[i]?=a5 (a5 (k,u))):∃v,c.σ[i]?=a5 (a5 v)/\aL C c c (if k.root=cb then .bor i else k) u v:=by
 obtain⟨f,b,a⟩:=d.sl i k u hs;refine⟨f,b,?_⟩;by_cases hk:k.root=cb
 ·rw[ÿ hk];exact⟨⟨k,hk,hs⟩,b⟩
 ·rw[ā hk];cases k with
  |loc=>exact a
  |any=>exact a
  |bor j=>exact a.elim
  |G'=>exact(e rfl).elim
  |_=>exact absurd rfl hk
end
section
theorem Ok.Gm(d:Ok C c)(n:Ns O c)(hi:c.st[i]?=a5 (a5 (.G',u)))(B:c.σ[i]?=a5 (a5 (.ref r)))(IF:∀a,¬c.RD i a->H' a=c.H a)(Q:∀a o,c.H a=a5 o->∃o',H' a=a5 o')
  (new:Mv c.S c.H c.S H'->cv C c.S H' r as' u') (T:∀a∈as',a∈c.kid i\/(¬c.R a/\O.H a=b6)) :
  Ok C {c with H:=H',st:=c.st.set i (a5 (.G',u')),kid:=λj=>if j=i then as' else c.kid j}/\Ns O {c with H:=H',st:=c.st.set i (a5 (.G',u')),kid:=λj=>if j=i then as' else c.kid j}:=by
 have Y:i<c.st.length:=(dV.mp hi).1;have rt:∀{a},c.RD i a->¬c.S a/\¬C.Ks a/\(C.H₀ a=b6\/C.IO a)/\∃o,c.H a=a5 o/\¬Tp o:=λz=>d.root (.inr ⟨i,z⟩);have h0:∀{a},c.RD i a->C.H₀ a=b6:=λ⟨u1,r1,g,b,e3⟩=>(cv.fr (d.dd.kd i u1 r1 g b) _ (fR.mpr e3)).2.2;have q:∀{a:hH} {o:HO},¬c.RD i a->c.H a=a5 o->H' a=a5 o:=λz e=>by rw[IF _ z];exact e
 have N:Mv c.S c.H c.S H':=⟨λ_ z=>z,λa o e t=>q (λz=>by
  obtain⟨_,_,_,o',l,nt⟩:=rt z;rw[e]at l;cases l;exact nt t) e,λa o z e=>q (λm=>(rt m).1 z) e⟩
 have Mb:Mv (PS C c.S) c.H (PS C c.S) H':=⟨λ_ z=>z,N.O4,λa o z e=>q (λm=>z.elim (rt m).2.1 (rt m).1) e⟩
 have D:∀(j:Nat) k w,(c.st.set i (a5 (.G',u')))[j]?=a5 (a5 (k,w))->j≠i->c.st[j]?=a5 (a5 (k,w)):=λj k w e ne=>by rw[i6 (sx ne)]at e;exact e
 have Np:∀(j:Nat) k w,k.root=cb->(c.st.set i (a5 (.G',u')))[j]?=a5 (a5 (k,w))->c.st[j]?=a5 (a5 (k,w)):=λj k w hk e=>by
  by_cases f:j=i
  ·subst f;rw[hQ Y]at e;cases e;cases hk
  ·exact D j k w e f
 have b1:∀a,({c with H:=H',st:=c.st.set i (a5 (.G',u')),kid:=λj=>if j=i then as' else c.kid j}:Cf).R1 a->c.R1 a:=λa ⟨j,k,w,hk,g,b⟩=>⟨j,k,w,hk,Np j k w hk g,b⟩
 have G:∀j a,({c with H:=H',st:=c.st.set i (a5 (.G',u')),kid:=λj=>if j=i then as' else c.kid j}:Cf).RD j a->c.RD j a\/(j=i/\¬c.R a/\O.H a=b6):=λj a Ir=>by
  obtain⟨w,h,g,b,e3⟩:=Ir;by_cases f:j=i
  ·subst f;have I:c.σ[j]?=a5 (a5 (.ref h)):=b;rw[B]at I;cases I;rcases e3 with rfl|e3
   ·exact .inl ⟨u,_,hi,B,.inl rfl⟩
   ·have KN:a∈as':=by simpa using e3
    rcases T a KN with z|z
    ·exact .inl ⟨u,_,hi,B,.inr z⟩
    ·exact .inr ⟨rfl,z⟩
  ·have KN:a=h\/a∈c.kid j:=by simpa[f] using e3
   exact .inl ⟨w,h,D j _ w g f,b,KN⟩
 refine⟨⟨λa o e z=>q (λm=>by rw[h0 m]at e;cases e) (d.same a o e z),λa z=>?_,d.par,λa z=>?_,by simp[d.len],λj k w e=>?_,λx s k1 k2 w1 w2 h h1 h2 g b e3 e4=>d.inj x s k1 k2 w1 w2 h h1 h2 (Np x k1 w1 h1 g) (Np s k2 w2 h2 b) e3 e4,⟨λj w h g b=>?_,λx s a J L=>?_,λj a J L=>?_⟩⟩,⟨λa o e z=>?_,λa o e=>?_,λa z=>?_,n.sub,n.new⟩⟩
 ·obtain⟨q1,o,q2⟩:=d.JS a z;exact⟨q1,Q a o q2⟩
 ·obtain⟨q1,o,q2⟩:=d.io a z;exact⟨q1,Q a o q2⟩
 ·by_cases f:j=i
  ·subst f;rw[hQ Y]at e;cases e;exact⟨.ref r,B,r,rfl⟩
  ·obtain⟨v,g,b⟩:=d.sl j k w (D j k w e f);refine⟨v,g,b.mv N Mb λhk h er=>?_⟩;obtain⟨O7,Jz,J,_⟩:=b.rt hk;rw[er]at Jz;cases Jz;exact⟨J,λo l=>q (λz=>d.dd.d1 i h z ⟨j,k,w,hk,D j k w e f,by rw[g,er]⟩) l⟩
 ·by_cases f:j=i
  ·subst f;rw[hQ Y]at g;cases g;have I:c.σ[j]?=a5 (a5 (.ref h)):=b;rw[B]at I;cases I;have z:=new N;simpa using z
  ·have IT:=D j _ w g f;have Ip:(if j=i then as' else c.kid j)=c.kid j:=ā f;show cv C c.S H' h (if j=i then as' else c.kid j) w;rw[Ip];exact cv.mv N (λa ha=>⟨(d.root (.inr ⟨j,w,h,IT,b,fR.mp ha⟩)).1,λo l=>q (λz=>f (d.dd.dj j i a ⟨w,h,IT,b,fR.mp ha⟩ z)) l⟩) (d.dd.kd j w h IT b)
 ·rcases G x a J with p|⟨rfl,p,_⟩
  ·rcases G s a L with A|⟨rfl,A,_⟩
   ·exact d.dd.dj x s a p A
   ·exact(A (.inr ⟨x,p⟩)).elim
  ·rcases G s a L with A|⟨rfl,A,_⟩
   ·exact(p (.inr ⟨s,A⟩)).elim
   ·rfl
 ·rcases G j a J with p|⟨rfl,p,_⟩
  ·exact d.dd.d1 j a p (b1 a L)
  ·exact p (.inl (b1 a L))
 ·exact q (λm=>by
   rcases n.roots a (.inr ⟨i,m⟩) with y|y
   ·exact z y
   ·rw[e]at y;cases y) (n.keep a o e z)
 ·obtain⟨o',l⟩:=n.there a o e;exact Q a o' l
 ·rcases z with z|⟨j,z⟩
  ·exact n.roots a (.inl (b1 a z))
  ·rcases G j a z with y|⟨_,_,y⟩
   ·exact n.roots a (.inr ⟨j,y⟩)
   ·exact .inr y
theorem Ok.newD(l:Ok C c)(A:c.H p=b6)(hi:i<c.σ.length):
  Ok C {c with H:=upd c.H p (.dK []),σ:=c.σ.set i (a5 (.ref p)),st:=c.st.set i (a5 (.G',.HE [] [])),kid:=λj=>if j=i then [] else c.kid j}/\Ns c {c with H:=upd c.H p (.dK []),σ:=c.σ.set i (a5 (.ref p)),st:=c.st.set i (a5 (.G',.HE [] [])),kid:=λj=>if j=i then [] else c.kid j}:=by
 obtain⟨n,Q⟩:=l.lay (o:=.dK []) A;obtain⟨q1,q2,q3,q4,B⟩:=l.jB A;have D:i<c.st.length:=by rw[l.len];exact hi
 have u:∀(j:Nat) k w,(c.st.set i (a5 (.G',.HE [] [])))[j]?=a5 (a5 (k,w))->j≠i->c.st[j]?=a5 (a5 (k,w)):=λj k w e G=>by rw[i6 (sx G)]at e;exact e
 have q:∀(j:Nat),j≠i->(c.σ.set i (a5 (.ref p)))[j]?=c.σ[j]?:=λj G=>i6 (sx G);have I:∀(j:Nat) k w,k.root=cb->(c.st.set i (a5 (.G',.HE [] [])))[j]?=a5 (a5 (k,w))->j≠i/\c.st[j]?=a5 (a5 (k,w)):=λj k w hk e=>by
  by_cases b:j=i
  ·subst b;rw[hQ D]at e;cases e;cases hk
  ·exact⟨b,u j k w e b⟩
 have b1:∀a,({c with H:=upd c.H p (.dK []),σ:=c.σ.set i (a5 (.ref p)),st:=c.st.set i (a5 (.G',.HE [] [])),kid:=λj=>if j=i then [] else c.kid j}:Cf).R1 a->c.R1 a:=λa J=>by
  obtain⟨j,k,w,hk,d,f⟩:=J;obtain⟨b,L⟩:=I j k w hk d;exact⟨j,k,w,hk,L,by rw[<-q j b];exact f⟩
 have r:∀j a,({c with H:=upd c.H p (.dK []),σ:=c.σ.set i (a5 (.ref p)),st:=c.st.set i (a5 (.G',.HE [] [])),kid:=λj=>if j=i then [] else c.kid j}:Cf).RD j a->(j≠i/\c.RD j a)\/(j=i/\a=p):=λj a J=>by
  obtain⟨w,g,d,f,e3⟩:=J;by_cases b:j=i
  ·subst b;have s:(c.σ.set j (a5 (.ref p)))[j]?=a5 (a5 (.ref g)):=f;rw[hQ hi]at s;cases s;rcases e3 with rfl|e3
   ·exact .inr ⟨rfl,rfl⟩
   ·simp at e3
  ·have KN:a=g\/a∈c.kid j:=by simpa[b] using e3
   exact .inl ⟨b,w,g,u j _ w d b,by rw[<-q j b];exact f,KN⟩
 refine⟨⟨n.same,n.JS,n.par,n.io,by simp[l.len],λj k w e=>?_,λm h k1 k2 T Y g h1 h2 d f e3 e4=>?_,⟨λj w g d f=>?_,λm h a N t=>?_,λj a N t=>?_⟩⟩,⟨Q.keep,Q.there,λa z=>?_,λ_ z=>z,λ_ z=>.inl z⟩⟩
 ·by_cases b:j=i
  ·subst b;rw[hQ D]at e;cases e;exact⟨.ref p,hQ hi,p,rfl⟩
  ·obtain⟨v,d,f⟩:=n.sl j k w (u j k w e b);exact⟨v,(q j b).trans d,f⟩
 ·obtain⟨Oa,a1⟩:=I m k1 T h1 d;obtain⟨Nq,a2⟩:=I h k2 Y h2 f;exact l.inj m h k1 k2 T Y g h1 h2 a1 a2 ((q m Oa).symm.trans e3) ((q h Nq).symm.trans e4)
 ·by_cases b:j=i
  ·subst b;rw[hQ D]at d;cases d;have s:(c.σ.set j (a5 (.ref p)))[j]?=a5 (a5 (.ref g)):=f;rw[hQ hi]at s;cases s;show cv C c.S (upd c.H p (.dK [])) p (if j=j then [] else c.kid j) (.HE [] []);rw[ÿ rfl];exact⟨[],az,rfl,rfl,by simp,λa ha=>by rw[i3.mp ha];exact⟨q2,q3,q1⟩,rfl⟩
  ·have L:=u j _ w d b;have z:=n.dd.kd j w g L ((q j b).symm.trans f);show cv C c.S (upd c.H p (.dK [])) g (if j=i then [] else c.kid j) w;rw[ā b];exact z
 ·rcases r m a N with⟨_,x⟩|⟨rfl,rfl⟩
  ·rcases r h a t with⟨_,O⟩|⟨rfl,rfl⟩
   ·exact l.dd.dj m h a x O
   ·exact(B (.inr ⟨m,x⟩)).elim
  ·rcases r h a t with⟨_,O⟩|⟨rfl,_⟩
   ·exact(B (.inr ⟨h,O⟩)).elim
   ·rfl
 ·rcases r j a N with⟨_,x⟩|⟨rfl,rfl⟩
  ·exact l.dd.d1 j a x (b1 a t)
  ·exact B (.inl (b1 a t))
 ·rcases z with z|⟨j,z⟩
  ·exact .inl (.inl (b1 a z))
  ·rcases r j a z with⟨_,y⟩|⟨_,rfl⟩
   ·exact .inl (.inr ⟨j,y⟩)
   ·exact .inr A
end
section
theorem dk.rep{S S':hH->Prop}(hs:∀a,S a->S' a):∀{us:List U}{as:List hH},(∀a∈as,S' a)->dk C S H us as->aj C S' H us (as.map V.ref)
 |[],as,_,h=>by cases h;exact rfl
 |u::us,as,c,h=>by
  obtain⟨a,as',i,vs,rfl,rfl,d,e,f⟩:=h;exact⟨.ref a,as'.map V.ref,rfl,⟨a,vs,rfl,.inl ⟨c a (by simp),.inl d⟩,e.mv (.up hs)⟩,dk.rep hs (λb g=>c b (by simp[g])) f⟩
theorem Ok.Hz(b:Ok C c)(n:Nx c0 c)(hi:c.st[i]?=a5 (a5 (.G',u)))(s:c.σ[i]?=a5 (a5 (.ref r))):
  Ok C {c with S:=λa=>c.S a\/a∈c.kid i,st:=c.st.set i (a5 (.own,u))}/\Nx c0 {c with S:=λa=>c.S a\/a∈c.kid i,st:=c.st.set i (a5 (.own,u))}:=by
 have Q:i<c.st.length:=(dV.mp hi).1;have B:=b.dd.kd i u r hi s;have fr:=cv.fr B;have mem:∀a,(a=r\/a∈c.kid i)->c.RD i a:=λa z=>⟨u,r,hi,s,z⟩
 have up:Mv c.S c.H (λa=>c.S a\/a∈c.kid i) c.H:=.up λa=>.inl;have W7:Mv (PS C c.S) c.H (PS C λa=>c.S a\/a∈c.kid i) c.H:=.up λa z=>z.imp id .inl;have Qt:r∉c.kid i/\cU C (λa=>c.S a\/a∈c.kid i) c.H r u:=by
  cases u<;>first|exact B.elim|skip
  obtain⟨kvs,D,G,h3,h4,h5,h6⟩:=B;refine⟨(mA.mp h4).1,kvs,D,G,?_⟩;rw[h3];exact h6.rep (λa=>.inl) λa I=>.inr I
 have p:∀(j:Nat) k w,(c.st.set i (a5 (.own,u)))[j]?=a5 (a5 (k,w))->j≠i->c.st[j]?=a5 (a5 (k,w)):=λj k w e ne=>by rw[i6 (sx ne)]at e;exact e
 have b1:∀a,({c with S:=λa=>c.S a\/a∈c.kid i,st:=c.st.set i (a5 (.own,u))}:Cf).R1 a->c.R1 a\/a=r:=λa T=>by
  obtain⟨j,k,w,hk,f,g⟩:=T;by_cases d:j=i
  ·subst d;have JD:c.σ[j]?=a5 (a5 (.ref a)):=g;rw[s]at JD;cases JD;exact .inr rfl
  ·exact .inl ⟨j,k,w,hk,p j k w f d,g⟩
 have J:∀j a,({c with S:=λa=>c.S a\/a∈c.kid i,st:=c.st.set i (a5 (.own,u))}:Cf).RD j a->j≠i/\c.RD j a:=λj a T=>by
  obtain⟨w,h,f,g,t⟩:=T;by_cases d:j=i
  ·subst d;rw[hQ Q]at f;cases f
  ·exact⟨d,w,h,p j _ w f d,g,t⟩
 refine⟨⟨b.same,λa z=>?_,b.par,b.io,by simp[b.len],λj k w e=>?_,λm l k1 k2 L N h D G f g t Y=>?_,⟨λj w h f g=>?_,λm l a x z2=>b.dd.dj m l a (J m a x).2 (J l a z2).2,λj a x z2=>?_⟩⟩,⟨⟨n.keep,n.there,λa z=>?_,λa z=>.inl (n.sub a z),λa z=>?_⟩⟩⟩
 ·rcases z with z|z
  ·exact b.JS a z
  ·obtain⟨o,ho,_⟩:=cv.there B a (ux _ z);exact⟨(fr a (ux _ z)).2.2,o,ho⟩
 ·by_cases d:j=i
  ·subst d;rw[hQ Q]at e;cases e;obtain⟨q1,q2,q3⟩:=fr r (qP ..);exact⟨.ref r,s,r,rfl,λz=>z.elim q1 Qt.1,q2,q3,Qt.2⟩
  ·obtain⟨v,f,g⟩:=b.sl j k w (p j k w e d);refine⟨v,f,g.mv up W7 λhk h er=>?_⟩;obtain⟨O7,Jz,x,_⟩:=g.rt hk;rw[er]at Jz;cases Jz;exact⟨λz=>z.elim x λz=>b.dd.d1 i h (mem h (.inr z)) ⟨j,k,w,hk,p j k w e d,by rw[f,er]⟩,λo q=>q⟩
 ·by_cases O:m=i
  ·by_cases A:l=i
   ·rw[O,A]
   ·subst O;have KN:c.σ[m]?=a5 (a5 (.ref h)):=t;rw[s]at KN;cases KN;exact(b.dd.d1 m r (mem r (.inl rfl)) ⟨l,k2,N,G,p l k2 N g A,Y⟩).elim
  ·by_cases A:l=i
   ·subst A;have UQ:c.σ[l]?=a5 (a5 (.ref h)):=Y;rw[s]at UQ;cases UQ;exact(b.dd.d1 l r (mem r (.inl rfl)) ⟨m,k1,L,D,p m k1 L f O,t⟩).elim
   ·exact b.inj m l k1 k2 L N h D G (p m k1 L f O) (p l k2 N g A) t Y
 ·by_cases d:j=i
  ·subst d;rw[hQ Q]at f;cases f
  ·have IT:=p j _ w f d;exact cv.mv up (λa I=>⟨λz=>z.elim (b.root (.inr ⟨j,w,h,IT,g,fR.mp I⟩)).1 λz=>d (b.dd.dj j i a ⟨w,h,IT,g,fR.mp I⟩ (mem a (.inr z))),λo q=>q⟩) (b.dd.kd j w h IT g)
 ·obtain⟨d,y⟩:=J j a x;rcases b1 a z2 with z|z
  ·exact b.dd.d1 j a y z
  ·subst z;exact d (b.dd.dj j i a y (mem a (.inl rfl)))
 ·rcases z with z|⟨j,z⟩
  ·rcases b1 a z with z|rfl
   ·exact n.roots a (.inl z)
   ·exact n.roots a (.inr ⟨i,mem a (.inl rfl)⟩)
  ·exact n.roots a (.inr ⟨j,(J j a z).2⟩)
 ·rcases z with z|z
  ·exact n.new a z
  ·rcases n.roots a (.inr ⟨i,mem a (.inr z)⟩) with y|y
   ·exact .inr (.inl y)
   ·exact .inr (.inr y)
theorem BK(f:X.N[i]?=a5 x)(g:JY X.env.scope x)(j:(x==("__debug__":Str))=cL)(k:(x==("__classdict__":Str))=cL):PE X (.Name x pos) (HK C (yj i)):=by
 have m:=oA (C:=C) (pos:=pos) f g j k;rintro pins s σ H Q I ⟨b,rfl,rfl,c,r,st',e,h⟩;unfold yj at e;split at e
 ·rename_i u hs;cases e;obtain⟨v,d,l,rfl⟩:=c.sl i _ _ hs;obtain⟨n,o⟩:=c.Hz (Nx.refl b) hs d;have p:i<b.st.length:=(dV.mp hs).1;exact cH f g j k pins s b.σ b.H Q I ⟨.ref l,d,h {b with S:=λa=>b.S a\/a∈b.kid i,st:=b.st.set i (a5 (.own,u))} (.ref l) rfl rfl n o ⟨⟨.own,rfl,hQ p⟩,d⟩⟩
 ·exact m pins s b.σ b.H Q I ⟨b,rfl,rfl,c,r,st',e,h⟩
end
section
theorem fQ{st:aw}(h:W (ie i) st Q):∃ks us,st[i]?=a5 (a5 (.G',.HE ks us))/\Q (ks,us) st:=by
 obtain⟨r,st',e,q⟩:=h;unfold ie at e;split at e
 ·rename_i ks us hs;cases e;exact⟨ks,us,hs,q⟩
 ·cases e
theorem fT{st:aw}(h:W (jC x) st Q):∃y,x.2=.str y/\Q y st:=by
 unfold jC at h;split at h
 ·rename_i y e;rw[ak]at h;exact⟨y,e,h⟩
 ·exact(bj.mp h).elim
theorem Ok.HE(d:Ok C c)(hi:c.st[i]?=a5 (a5 (.G',.HE ks us))):∃(r:hH) (kvs:List (Key×V)),c.σ[i]?=a5 (a5 (.ref r))/\c.H r=a5 (.dK kvs)/\kvs.map (·.1)=ks.map kr/\kvs.map (·.2)=(c.kid i).map V.ref /\
  (r::c.kid i).Nodup/\dk C c.S c.H us (c.kid i)/\(∀y:Str,(du kvs (kr y)).isSome=df (y∈ks))/\∀(y:Str) (u:U),cE ks us y=a5 u->∃v,du kvs (kr y)=a5 v/\Rep C (λa=>c.S a\/a∈c.kid i) c.H u v:=by
 obtain⟨v,e,r,rfl⟩:=d.sl i _ _ hi;obtain⟨kvs,j,b,f,k,m,g⟩:=d.dd.kd i _ r hi e;have h:aj C (λa=>c.S a\/a∈c.kid i) c.H us (kvs.map (·.2)):=by rw[f];exact g.rep (λa=>.inl) λa l=>.inr l
 exact⟨r,kvs,e,j,b,f,k,g,λy=>(cZ (x:=y) b h).2,λy=>(cZ (x:=y) b h).1⟩
theorem qo{k:Str->List Str×List U->M β}{f:β->aw->Prop}{Z:V->V->Hp->Prop}(o:Ok C a)(h:W (p >>= λx=>jC x >>= λy=>ie i >>= λd=>k y d) a.st f)
  (hz:∀(c:Cf) (y:Str) (ks:List Str) (us:List U) (r:hH) (kvs:List (Key×V)),c.σ=a.σ->Ok C c->Nx a c->c.H r=a5 (.dK kvs)->(du kvs (kr y)).isSome=df (y∈ks)->W (k y (ks,us)) c.st f->Z (.str y) (.ref r) c.H) :
  HK C p a.σ a.H λv q=>∃g,a.σ[i]?=a5 (a5 g)/\Z v g q:=by
 refine⟨a,rfl,rfl,o,?_⟩;rw[af]at h;refine W.mono h λx st' w c v j hs b n r=>?_;subst hs;obtain⟨z,A⟩:=x;rw[af]at w;obtain⟨y,e,l⟩:=fT w;clear w
 dsimp only at e r
 subst e;have ev:v=.str y:=r.str b;subst ev;rw[af]at l;obtain⟨ks,us,hs,w⟩:=fQ l;obtain⟨m,kvs,s,t,_,_,_,_,u,_⟩:=b.HE hs;exact⟨.ref m,by rw[<-j];exact s,hz c y ks us m kvs j b n t (u y) w⟩
noncomputable def EJ(neg:Bool):CmpOp:=if neg=cb then .NotIn else .In
theorem EK(c:∀j,ns j=cb->j≠i)(d:X.N.Nodup)(hi:X.N[i]?=a5 x)(f:Loc X.env.scope x)(g:X.fn x=cb\/X.env.scope.names.lookup x=a5 .local)
  (hs:QO (.Dict [] [] p) (a5 (.Name x a)) pos.line X.env=pure cL):L2.PS X (.Assign [.Name x a] (.Dict [] [] p) pos) (IS C ns (CP i >>= λ_=>pure .nx)):=by
 rintro pins s σ H D I ⟨b,rfl,rfl,k,h⟩;have l:i<b.σ.length:=by rw[I.len];exact(dV.mp hi).1
 refine xj d hi f pN hs g pins s b.σ b.H D I λq m=>?_;obtain⟨n,o⟩:=k.newD m l;rw[af]at h;obtain⟨_,st',e,w⟩:=h;cases e;rw[ak]at w;exact w _ rfl n o ⟨λj r=>i6 (sx (c j r)),by simp⟩
end
section
theorem BL(G:X.A.units+60<Ml)(p:X.N[i]?=a5 x)(q:JY X.env.scope x)(t:(x==("__debug__":Str))=cL)(u:(x==("__classdict__":Str))=cL)(v:PE X a (HK C D))(z:Q7 (EJ neg) (.Name x p2)=cL):
  PT X (.Compare a [EJ neg] [.Name x p2] pos) (Jm C (D >>= λx=>jC x >>= λy=>ie i >>= λd=>pure (Sl neg y d.1))):=by
 rintro pins s σ H Q I ⟨f,rfl,rfl,B,h⟩;cases neg with
 |false =>
  refine xb (DP ⋯ v (cH p q t u)) z pins s f.σ f.H Q I (qo (Z:=λy x e=>∃a o,x=V.ref a/\d0 e a y o/\∃b,V.bl o.isSome=.bl b/\Q b e) B h λc y ks us r kvs g j n l m w=>?_);rw[ak]at w;refine⟨r,_,rfl,d0.k (k:=kr y) l,?_⟩;rw[m];exact⟨_,rfl,w c g rfl j n⟩
 |true =>
  refine xb (vR ⋯ v (cH p q t u)) z pins s f.σ f.H Q I (qo (Z:=λy x e=>∃a o,x=V.ref a/\d0 e a y o/\∃b,V.bl (!o.isSome)=.bl b/\Q b e) B h λc y ks us r kvs g j n l m w=>?_);rw[ak]at w;refine⟨r,_,rfl,d0.k (k:=kr y) l,?_⟩;rw[m];exact⟨_,rfl,w c g rfl j n⟩
theorem dk.snoc{S:hH->Prop}{a:hH}(b:H a=a5 (.lst vs))(c:aj C S H d vs):∀{us:List U}{as:List hH},dk C S H us as->dk C S H (us++[.lst d]) (as++[a])
 |[],as,h=>by cases h;exact⟨a,[],d,vs,rfl,rfl,b,c,rfl⟩
 |u::us,as,h=>by
  obtain⟨a',as',f,g,rfl,e,i,j,k⟩:=h;exact⟨a',as'++[a],f,g,rfl,e,i,j,dk.snoc b c k⟩
theorem r_{st:aw}(h:W (kM i y r) st Q):∃us ks vs,r=(.own,.lst us)/\st[i]?=a5 (a5 (.G',.HE ks vs))/\y∉ks/\ks.length<c6/\Q () (st.set i (a5 (.G',.HE (ks++[y]) (vs++[.lst us])))):=by
 obtain⟨k,u⟩:=r;cases k<;>cases u<;>first|exact(bj.mp h).elim|skip
 rename_i us;obtain⟨_,st',e,q⟩:=h;unfold kM at e
 dsimp only at e
 split at e
 ·rename_i ks vs hs;split at e
  ·rename_i hz;cases e;exact⟨us,ks,vs,rfl,hs,hz.1,hz.2,q⟩
  ·cases e
 ·cases e
theorem EL{i:Nat}{x:Str}{j:Pos}(hu:X.A.units+60<Ml)(hN:X.N[i]?=a5 x)(hv:JY X.env.scope x)(hd:(x==("__debug__":Str))=cL)(IE:(x==("__classdict__":Str))=cL)
  (ha:PE X a (HK C ma)) (B:PE X b (HK C mb)) (hs:Q6 [.Subscript (.Name x j) b p] a pos.line X.env=pure cL) (SQ:Vf [.Subscript (.Name x j) b p] a X.env=pure b6)
  (G:∀v,R5 (.Subscript (.Name x j) b p) X.env v=(do
   let n <-MR [v] (H0 (.Name x j) X.env)
   let I <-MR [v,n] (H0 b X.env)
   Yg p
   MR [v,n,I] (Tu n I v)
   V_ [v,n,I] [])) :
  L2.PS X (.Assign [.Subscript (.Name x j) b p] a pos) (IS C ns (ma >>= λr=>ie i >>= λ_=>mb >>= λx=>jC x >>= λy=>kM i y r >>= λ_=>pure .nx)):=by
 refine PS.weak (rj ha (xi (cH hN hv hd IE) B (set_dict (X:=X) ⋯) G) hs SQ rfl) ?_;rintro D σ H ⟨c0,rfl,rfl,Q,h⟩;refine aV Q h λr c v t w=>?_;rw[af]at w;obtain⟨Qu,us0,Jo,w⟩:=fQ w;obtain⟨T,Nr,Y,g0,_⟩:=t.ok.HE Jo;refine⟨.ref T,by rw[<-t.hσ];exact Y,?_⟩;rw[af]at w;refine⟨c,t.hσ,rfl,t.ok,w.mono λy st2 w2 J vy s e4 u n2 r2=>?_⟩;subst e4;rw[af]at w2;obtain⟨ky,uy⟩:=y;obtain⟨y,ey,w3⟩:=fT w2
 dsimp only at ey r2
 subst ey;have ev:vy=.str y:=r2.str u;subst ev;rw[af]at w3;obtain⟨us,ks,vs,L,g,Qb,l,q⟩:=r_ w3;subst L;rw[ak]at q;obtain⟨m,kvs,d,g1,g2,g3,g4,g5,g6,_⟩:=u.HE g;have L:m=T:=by rw[s,<-t.hσ,Y]at d;cases d;rfl
 subst L;obtain⟨f,rfl,k1,k2,O,Io,k4,k5⟩:=t.rx.w.on t.ok n2.toNs (s.trans t.hσ.symm);have SR:=t.nx.trans n2;have hl:kvs.length=ks.length:=by have:=Ą Kz g2;simpa using this
 have LB:du kvs (kr y)=b6:=by
  have:=g6 y;rw[Ă Qb]at this;cases hq:du kvs (kr y) with
  |none=>rfl
  |some _=>rw[hq]at this;cases this
 refine⟨m,_,rfl,vP.k (k:=kr y) g1 (by rw[hl];exact l),?_⟩;rw[xv _ LB];have Qt:f∉J.kid i:=λz=>O (.inr ⟨i,_,_,g,d,.inr z⟩);have UR:f≠m:=λz=>O (.inr ⟨i,_,_,g,d,.inl z⟩);have rd:=u.dd.kd i _ _ g d;have fr:=cv.fr rd;obtain⟨Kx,n3⟩:=Ok.Gm (H':=upd J.H m (.dK (kvs++[(kr y,.ref f)]))) (u':=.HE (ks++[y]) (vs++[.lst us])) (as':=J.kid i++[f]) u SR.toNs g d
  (λa ne=>aq λz=>ne ⟨_,_,g,d,.inl z⟩) (λa o e=>by
   by_cases hz:a=m
   ·subst hz;exact⟨_,az⟩
   ·rw[aq hz];exact⟨o,e⟩)
  (λmv=>by
   refine⟨_,az,by rw[ke,g2,ke];rfl,by rw[ke,g3,ke];rfl,?_,λa ha=>?_,?_⟩
   ·rw[<-ZM,sL];exact⟨g4,by simp,λa ha b B=>by
     have:b=f:=by simpa using B
     subst this;rintro rfl;rcases fR.mp ha with z|z
     ·exact UR z
     ·exact Qt z⟩
   ·rw[<-ZM]at ha;rcases lk.mp ha with ha|ha
    ·exact fr a ha
    ·have:a=f:=by simpa using ha
     subst this;obtain⟨z1,_,z3,_⟩:=Q.jB k1;exact⟨k2,z3,z1⟩
   ·exact dk.snoc (by rw[aq UR];exact k4) (k5.mv mv) (dk.mv mv (λa ha o e=>by
     rw[aq (λz=>(mA.mp g4).1 (by rw[<-z];exact ha))];exact e) g5))
  (λa ha=>by
   rcases lk.mp ha with ha|ha
   ·exact .inl ha
   ·have:a=f:=by simpa using ha
    subst this;exact .inr ⟨O,k1⟩)
 have z:=q _ rfl Kx n3 (Kept.of s);rw[<-s];exact z
theorem dk.at{S:hH->Prop}:∀{ks:List Str}{us:List U}{as:List hH}{kvs:List (Key×V)}{u:U},kvs.map (·.1)=ks.map kr->kvs.map (·.2)=as.map V.ref->as.Nodup->dk C S H us as->cE ks us y=a5 u ->
  ∃a ws f,du kvs (kr y)=a5 (.ref a)/\a∈as/\u=.lst f/\H a=a5 (.lst ws)/\aj C S H f ws/\∀(H':Hp) (c:List U) (d:List V),Mv S H S H'->H' a=a5 (.lst d)->aj C S H' c d->(∀b∈as,b≠a->H' b=H b)->dk C S H' (jD ks us y (.lst c)) as
 |[],us,as,kvs,u,_,_,_,_,h=>by cases us<;>cases h
 |k::ks,[],as,kvs,u,_,_,_,_,h=>by cases h
 |k::ks,O::us,as,kvs,u,g,q,i,hk,h=>by
  obtain⟨a,as',f,ws,rfl,rfl,t,v,w⟩:=hk;cases kvs with
  |nil=>simp at g
  |cons p kvs =>
   rw[ez,ez,P2]at g q;rw[mA]at i;by_cases j:k=y
   ·subst j;simp only[cE,if_true]at h;cases h;refine⟨a,ws,f,by rw[eh g.1,q.1],by simp,rfl,t,v,λH' c d l r s m=>?_⟩;simp only[jD,if_true];exact⟨a,as',c,d,rfl,rfl,r,s,dk.mv l (λb n o e=>by rw[m b (by simp[n]) (λz=>i.1 (z▸n))];exact e) w⟩
   ·simp only[cE,ā j]at h;obtain⟨a1,A,B,D,x,G,I,J,L⟩:=dk.at g.2 q.2 i.2 w h;refine⟨a1,A,B,?_,by simp[x],G,I,J,λH' c d l r s m=>?_⟩
    ·rw[ei (by rw[g.1];intro z;exact j (UA z))];exact D
    ·simp only[jD,ā j];have N:a≠a1:=λz=>i.1 (z▸x);exact⟨a,as',f,ws,rfl,rfl,by rw[m a (by simp) N];exact t,v.mv l,L H' c d l r s λb n=>m b (by simp[n])⟩
theorem sd{st:aw}(h:W (kN i y u) st Q):∃ks vs xs,st[i]?=a5 (a5 (.G',.HE ks vs))/\cE ks vs y=a5 (.lst xs)/\xs.length<c6/\Q () (st.set i (a5 (.G',.HE ks (jD ks vs y (.lst (xs++[u])))))):=by
 obtain⟨_,st',e,q⟩:=h;unfold kN at e;split at e
 ·rename_i ks vs hs;split at e
  ·rename_i xs a;split at e
   ·rename_i hz;cases e;exact⟨ks,vs,xs,hs,a,hz,q⟩
   ·cases e
  ·cases e
 ·cases e
def wD(C:Ct)(m:M (Kd×U)):TE:=λσ H Q=>∃b:Cf,b.σ=σ/\b.H=H/\Ok C b/\W m b.st λr st'=>∀c v,c.σ=σ->c.st=st'->Ok C c->Nx b c->(∀a o,b.H a=a5 o->c.H a=a5 o)->aL C b c r.1 r.2 v->Q v c.H
theorem mR(d:Ok C b)(h:W (e >>= k) b.st f)
  (hz:∀x c v,MK C b c x v->(∀a o,b.H a=a5 o->c.H a=a5 o)->W (k x) c.st f->Z v c.H):wD C e b.σ b.H Z:=by
 rw[af]at h;exact⟨b,rfl,rfl,d,h.mono λx st1 g i j l m n p q r=>hz x i j ⟨l,n,p,r⟩ q (by rw[m];exact g)⟩
theorem yE(f:X.N[i]?=a5 x)(g:JY X.env.scope x)(l:(x==("__debug__":Str))=cL)(m:(x==("__classdict__":Str))=cL):PE X (.Name x pos) (wD C (dg i)):=by
 refine PE.weak (cH f g l m) ?_;rintro σ H Q ⟨b,rfl,rfl,c,r,st',e,h⟩;unfold dg at e;split at e
 ·cases e
 ·rename_i k u n hs;cases e;obtain⟨v,d,a⟩:=c.sl i k u hs;refine⟨v,d,h b v rfl rfl c (Nx.refl b) (λ_ _ z=>z) ?_⟩;by_cases hk:k.root=cb
  ·rw[ÿ hk];exact⟨⟨k,hk,hs⟩,d⟩
  ·rw[ā hk];cases k with
   |loc=>exact a
   |any=>exact a
   |bor j=>exact a.elim
   |G'=>exact(n rfl).elim
   |_=>exact absurd rfl hk
 ·cases e
theorem iu(h:PE X e (tC v))(r:∀S H,Rep C S H u v):PE X e (wD C (pure (.loc,u))):=by
 refine PE.weak h ?_;rintro σ H Q ⟨a,rfl,rfl,b,h⟩;rw[ak]at h;exact h a v rfl rfl b (Nx.refl a) (λ_ _ z=>z) (r _ _)
theorem EM(hK:C.K=X.K)(hu:X.A.units+60<Ml)(hN:X.N[i]?=a5 x)(hv:JY X.env.scope x)(hd:(x==("__debug__":Str))=cL)(IE:(x==("__classdict__":Str))=cL)(B:PE X a (wD C ma))(hb:PE X b (HK C mb))(Ob:DO b)
  (I_:((Kj G (js [a] X.env)).all (λx=>!x.1)&&(Qi G (MP [] X.env)).all (λx=>x.1.isSome)
   && df ([a].length+([]:List NY).length+(if ([]:List NY).isEmpty then 0 else 1)<30))=cb)
  (HU:(g.endLine==G.line)=cb) (HL:js [a] X.env=[(cL,H0 a X.env)]) :
  L2.PS X (.Expr (.Call (.Attribute (.Subscript (.Name x px) b p) "append" g) [a] [] G) pos) (IS C ns (ie i >>= λ_=>mb >>= λx=>jC x >>= λy=>ie i >>= λd=>if y∈d.1 then(ma >>= λr=>lift r >>= λu=>kN i y u >>= λ_=>pure .nx) else M.fail)):=by
 refine PS.weak (jG (tM PySem.F.plainAttrs_list PySem.F.slot_list_append PySem.F.type_list_append mj (AV ⋯ (cH hN hv hd IE) hb Ob) (eR B iN HL) rfl I_ HU HL rfl)) ?_;rintro D σ H ⟨c0,rfl,rfl,ok,h⟩;rw[af]at h;obtain⟨Qu,us0,Jo,h⟩:=fQ h;obtain⟨r0,Nr,I,g0,_⟩:=ok.HE Jo;refine⟨.ref r0,I,?_⟩;refine aV ok h λry c vy t w=>?_;rw[af]at w;obtain⟨ky,uy⟩:=ry;obtain⟨y,ey,w1⟩:=fT w
 dsimp only at ey
 subst ey;have ev:vy=.str y:=t.rx.str t.ok;subst ev;rw[af]at w1;obtain⟨ks,us,hs,j⟩:=fQ w1
 dsimp only at j
 by_cases J:y∈ks
 case neg=>rw[ā J]at j;exact(bj.mp j).elim
 rw[ÿ J]at j;obtain⟨L,kvs,f1,g1,g2,g3,g4,g5,g6,_⟩:=t.ok.HE hs;have O:L=r0:=by rw[t.hσ,I]at f1;cases f1;rfl
 subst O;have MM:=g6 y;rw[ă J]at MM;obtain⟨v0,m⟩:=RM.mp MM;have Jb:v0∈(c.kid i).map V.ref:=by
  rw[<-g3];unfold du at m;obtain⟨q,hq,rfl⟩:=fS.mp m;exact QV (List.mem_of_find?_eq_some hq)
 obtain⟨a1,W_,rfl⟩:=mh.mp Jb;obtain⟨Xa,SV⟩:=g5.mem W_;refine⟨L,.ref a1,rfl,by rw[<-m];exact d0.k (k:=kr y) g1,Or.inl ⟨rfl,Xa,.inl (.inl SV)⟩,?_⟩;rw[<-t.hσ];refine mR t.ok j λr f v t' wu w3=>?_;rw[af]at w3;obtain⟨S',st',u,sS,Q,n1,l,w4,_,_⟩:=ij t.ok t'.ok t'.nx t'.rx.w w3;rw[af]at w4;obtain⟨K6,Io,xs,n,hx,hz,q⟩:=sd w4;rw[ak]at q;obtain⟨s,T,k1,k2,k3,k4,Y,k6,_,_⟩:=Q.HE n;have US:f.σ[i]?=a5 (a5 (.ref s)):=k1;have O:s=L:=by rw[t'.hσ,t.hσ,I]at US;cases US;rfl
 subst O;have Xb:f.H s=a5 (.dK T):=k2;have SW:T=kvs:=by have:=wu _ _ g1;rw[Xb]at this;cases this;rfl
 subst SW;have nd:=(mA.mp Y).2;obtain⟨a2,ws,ys,l1,l2,l3,l4,l5,l6⟩:=dk.at k3 k4 nd k6 hx;cases l3;rw[m]at l1;cases l1;have Xc:f.H a1=a5 (.lst ws):=l4;refine⟨a1,ws,v,rfl,rfl,Xc,by rw[<-l5.len];exact hz,?_⟩;have IF:a1≠s:=λz=>(mA.mp Y).1 (z▸l2);obtain⟨Ie,n2⟩:=Ok.Gm (c:={f with S:=S',st:=st' }) (H':=upd f.H a1 (.lst (ws++[v]))) (u':=.HE K6 (jD K6 Io y (.lst (xs++[u])))) (as':=f.kid i) Q (t.nx.trans n1).toNs n k1
  (λa ne=>aq λz=>ne ⟨_,_,n,k1,.inr (z▸l2)⟩) (λa o e=>by
   by_cases hz:a=a1
   ·subst hz;exact⟨_,az⟩
   ·rw[aq hz];exact⟨o,e⟩)
  (λmv=>⟨T,by rw[aq (sx IF)];exact k2,k3,k4,Y,cv.fr (Q.dd.kd i _ _ n k1),l6 _ _ _ mv az ((l5.mv mv).snoc (l.mv mv)) λb _ ne=>aq ne⟩)
  (λa B=>.inl B)
 have z:=q _ rfl Ie n2 (Kept.of (t'.hσ.trans t.hσ));rw[<-t'.hσ];exact z
end
section
theorem yF{st:aw}(h:W (Sm u) st Q):∃ks us,u=.HE ks us/\Q () st:=by
 cases u<;>first|exact(bj.mp h).elim|skip
 exact⟨_,_,rfl,ak.mp h⟩
theorem mS{st:aw}(h:W (wq x) st Q):∃j,x.2=.int j/\Q j st:=by
 unfold wq at h;split at h
 ·rename_i y e;rw[ak]at h;exact⟨y,e,h⟩
 ·exact(bj.mp h).elim
theorem mT{st:aw}(h:W (qh i) st Q):∃k us,k.root=cb/\st[i]?=a5 (a5 (k,.lst us))/\Q us st:=by
 obtain⟨r,st',e,q⟩:=h;unfold qh at e;split at e
 ·rename_i k us hs;split at e
  ·rename_i hk;cases e;exact⟨k,_,hk,hs,q⟩
  ·cases e
 ·cases e
theorem qq:∀{ks:List Str}{us:List U},y∈ks->ks.length=us.length->cE ks us y=b6->False
 |[],us,h,_,_=>by cases h
 |k::ks,[],_,h,_=>by simp at h
 |k::ks,u::us,h,hl,e=>by
  by_cases hk:k=y
  ·simp[cE,hk]at e
  ·simp only[cE,ā hk]at e;rcases fR.mp h with h|h
   ·exact hk h.symm
   ·exact qq h (by simpa using hl) e
theorem yG{i:Nat}{x:Str}{D:Pos}(hu:X.A.units+60<Ml)(hN:X.N[i]?=a5 x)(hv:JY X.env.scope x)(hd:(x==("__debug__":Str))=cL)(IE:(x==("__classdict__":Str))=cL)
  (ha:PE X a (HK C ma)) (hb:PE X b (HK C mb)) (hm:M2 X (.Name x D) "get" e a b F') :
  PE X (.Call (.Attribute (.Name x D) "get" e) [a,b] [] F') (HK C (dg i >>= λx=>Sm x.2 >>= λ_=>ma >>= λy=>jC y >>= λy=>mb >>= λz=>lift z >>= λu=>dg i >>= λx=>M.H9 (Bl x y u))):=by
 rintro pins s σ H Q I ⟨o,rfl,rfl,p,h⟩;refine xx ⋯ (cH hN hv hd IE) ha hb hm pins s o.σ o.H Q I ?_;rw[af]at h;obtain⟨k0,u0,SX,Jo,h⟩:=c7 h;obtain⟨v0,G,t0⟩:=p.slot SX Jo;rw[af]at h;obtain⟨Qu,us0,J,h'⟩:=yF h
 dsimp only at J
 subst J;obtain⟨a0,Nr,rfl,g0,_⟩:=t0.dict p;refine⟨.ref a0,G,a0,rfl,.inl ⟨Nr,.inl g0⟩,?_⟩;refine aV p h' λry c vy t w=>?_;rw[af]at w;obtain⟨ky,uy⟩:=ry;obtain⟨y,L,w1⟩:=fT w
 dsimp only at L
 subst L;have ev:vy=.str y:=t.rx.str t.ok;subst ev;rw[<-t.hσ];refine aV t.ok w1 λz f vz g O=>?_;rw[af]at O;obtain⟨S',st',u,sS,B,n1,j,T,_,_⟩:=ij t.ok g.ok g.nx g.rx.w O;rw[af]at T;obtain⟨k,u1,Xd,JQ,w5⟩:=c7 T;obtain⟨r,d,q⟩:=bQ.mp w5;obtain⟨v1,e1,t1⟩:=B.slot Xd JQ;have Y:f.σ[i]?=a5 (a5 v1):=e1;rw[g.hσ,t.hσ,G]at Y;cases Y;cases u1<;>first|(simp only[Bl]at d;cases d;done)|skip
 rename_i ks us;obtain⟨a1,kvs,ea,g1,g2,g3⟩:=t1.dict B;cases ea;have Qw:f.H a0=a5 (.dK kvs):=g1;refine⟨_,d0.k (k:=kr y) Qw,?_⟩;simp only[Bl]at d;obtain⟨l1,l2⟩:=cZ (x:=y) g2 g3;have l:∀v:V,aL C o {f with S:=S',st:=st' } r.1 r.2 v->Q v f.H:=λv z=>q {f with S:=S',st:=st' } v (g.hσ.trans t.hσ) rfl B (t.nx.trans n1) z;cases n:cE ks us y with
 |some w =>
  rw[n]at d;cases d;obtain⟨v,ev,rv⟩:=l1 w n;rw[ev];refine l v ?_;exact aL.item (k:=if k.root=cb then .bor i else k) rv
 |none =>
  rw[n]at d;cases d;have LB:du kvs (kr y)=b6:=by
   cases hq:du kvs (kr y) with
   |none=>rfl
   |some v =>
    exfalso
    rw[hq]at l2;have hy:y∈ks:=by simpa using l2.symm
    have m:ks.length=us.length:=by have h1:=Ą Kz g2;have h2:=g3.len;simp at h1 h2;lia
    exact qq hy m n
  rw[LB];exact l vz j
theorem yH:Fz X (λo i H Q=>∃p xs j v,o=.ref p/\i=.int j/\H p=a5 (.lst xs)/\0<=j/\xs[j.toNat]?=a5 v/\Q v H):=by
 rintro pins s σ H o i h k Q I b c ⟨p,xs,j,v,rfl,rfl,d,e,a,q⟩;cases b;obtain⟨t,rfl⟩:=c;obtain⟨its,r,pl,hz⟩:=I.list (.inl (.inl d));obtain⟨w,f,g⟩:=r.get a;have hl:=r.length;have l:=eQ;have m:=(dV.mp a).1;exact wpAny_getItem_list pl.isList e ⋯ (by simpa using f) ⟨v,H,I,g,q⟩
theorem BM:PU X (if sub=cb then .Sub else .Add) (QR (wt sub)):=by
 cases sub with
 |true=>exact Dy
 |false=>exact Dw
theorem Gn(hN:X.N[i]?=a5 x)(hv:JY X.env.scope x)(hd:(x==("__debug__":Str))=cL)(IE:(x==("__classdict__":Str))=cL)
  (ha:PE X a (wD C ma)) (hb:PE X b (HK C mb))
  (m:∀e f new,ø b e f new=(do MR [new,e,f] (Tu e f new);V_ [new,e,f] [];pure .next)) :
  L2.PS X (.AugAssign (.Subscript (.Name x px) b p) (if sub=cb then .Sub else .Add) a pos) (IS C ns (qh i >>= λ_=>mb >>= λy=>wq y >>= λj=>qh i >>= λus=>M.H9 (qi us j) >>= λo=>ma >>= λz=>wq z >>= λw=>modS i (dy (.int j) (.int (wt sub o w))) >>= λ_=>pure .nx)):=by
 refine PS.weak (Az (cH hN hv hd IE) hb yH ha BM set_list m) ?_;rintro D σ H ⟨c0,rfl,rfl,u,h⟩;rw[af]at h;obtain⟨k0,us0,Jt,Jo,h⟩:=mT h;obtain⟨v0,n,KP⟩:=u.sl i _ _ Jo;obtain⟨a0,rfl,_,_,_,_⟩:=KP.rt Jt;refine⟨.ref a0,n,?_⟩;refine aV u h λry c vy t w=>?_;rw[af]at w;obtain⟨ky,uy⟩:=ry;obtain⟨j,v,A⟩:=mS w
 dsimp only at v
 subst v;have ev:vy=.int j:=t.rx.int t.ok;subst ev;rw[af]at A;obtain⟨k1,SY,R6,JQ,B⟩:=mT A;rw[af]at B;obtain⟨o,ho,w3⟩:=bQ.mp B;obtain⟨v1,G,Xe⟩:=t.ok.sl i _ _ JQ;obtain⟨a1,rfl,_,_,_,Pd⟩:=Xe.rt R6;rw[t.hσ,n]at G;cases G;obtain⟨vs,I,g2⟩:=Pd;unfold qi at ho;split at ho
 case isFalse=>cases ho
 rename_i OQ;split at ho
 case h_2=>cases ho
 rename_i o' S3;cases ho;obtain⟨vo,Xf,Xg⟩:=g2.get S3;have Xh:vo=.int o:=Xg;subst Xh;refine⟨a0,vs,j,_,rfl,rfl,I,OQ,Xf,?_⟩;rw[<-t.hσ];refine mR t.ok w3 λz r vz d all2 J=>?_;rw[af]at J;obtain⟨kz,uz⟩:=z;obtain⟨w,L,O⟩:=mS J
 dsimp only at L
 subst L;have ev:vz=.int w:=d.rx.int d.ok;subst ev;refine⟨o,w,rfl,rfl,?_⟩;rw[af]at O;obtain⟨k,u1,u2,hk,Q,g,q⟩:=fP O;rw[ak]at q;obtain⟨v2,s,Mt⟩:=d.ok.sl i _ _ Q;obtain⟨a2,rfl,_,_,_,Pe⟩:=Mt.rt hk;have Xi:=s;rw[d.hσ,t.hσ,n]at s;cases s;have T:r.H a0=a5 (.lst vs):=all2 _ _ I;cases u1 with
 |lst xs =>
  simp only[dy,fS]at g;obtain⟨l,Lk,rfl⟩:=g;obtain⟨Yu,Y,l2⟩:=Pe;rw[T]at Y;cases Y;refine⟨a0,vs,j,l,rfl,rfl,T,by rw[<-l2.len];exact Lk,?_⟩;obtain⟨Kx,n3⟩:=Ok.mod (c:=r) (H':=upd r.H a0 (.lst (vs.set l (.int (wt sub o w))))) (u':=.lst (xs.set l (.int (wt sub o w)))) d.ok (t.nx.trans d.nx).toNs hk Q Xi (λa ne=>aq ne) ⟨_,az⟩ λmv=>⟨_,az,(l2.mv mv).set l rfl⟩
  have z:=q _ rfl Kx n3 (Kept.of (d.hσ.trans t.hσ));rw[<-d.hσ];exact z
 |HE ks vs=>simp[dy]at g
 |_=>simp[dy]at g
end
section
theorem BN{ks:List Str}(c:kvs.map (·.1)=ks.map kr)(d:kvs.map (·.2)=ns.map V.int):kvs=(ks.zip ns).map λp=>((kr p.1:Key),V.int p.2):=by
 induction kvs generalizing ks ns with
 |nil =>
  cases ks with
  |nil=>rfl
  |cons _ _=>cases c
 |cons kv kvs e =>
  cases ks with
  |nil=>cases c
  |cons k ks =>
   cases ns with
   |nil=>cases d
   |cons n ns =>
    obtain⟨a,b⟩:=kv;simp only[ez,P2]at c d;obtain⟨rfl,c⟩:=c;obtain⟨rfl,d⟩:=d;rw[e c d];rfl
theorem aj.of_map{S:hH->Prop}{f:α->U}{g:α->V}:∀{l:List α},(∀x∈l,Rep C S H (f x) (g x))->aj C S H (l.map f) (l.map g)
 |[],_=>rfl
 |x::l,h=>⟨g x,l.map g,rfl,h x (by simp),aj.of_map λy a=>h y (by simp[a])⟩
theorem BO(Y:X.calm=cb)(hK:C.K=X.K)(hg:Gl X "sorted")(hm:X.mg "sorted"=b6)(hN:X.N[i]?=a5 x)(hv:JY X.env.scope x)(hd:(x==("__debug__":Str))=cL)(IE:(x==("__classdict__":Str))=cL)(HU:(b.endLine==l.line)=cb):
  PE X (.Call (.Name "sorted" p) [.Call (.Attribute (.Name x n) "items" b) [] [] l] [] pos) (HK C (dg i >>= λx=>M.H9 (yg x.2))):=by
 rintro pins s σ H Q I ⟨c,rfl,rfl,m,h⟩;refine y4 (di I hg hm (show D' "sorted"=a5 (.builtin "sorted") by decide +kernel) ?_ (by decide +kernel) (by decide +kernel));rw[af]at h;obtain⟨k0,u0,SX,Jo,h⟩:=c7 h;obtain⟨v0,e0,t0⟩:=m.slot SX Jo;obtain⟨r,f,k⟩:=bQ.mp h
 dsimp only at f
 unfold yg at f;split at f
 rotate_left
 ·cases f
 rename_i ks us;rw[qp]at f;obtain⟨ns,en,f⟩:=f;split at f
 rotate_left
 ·cases f
 rename_i S4;cases f;obtain⟨J1,HR,u⟩:=S4;obtain⟨d,kvs,rfl,B,Jt,D⟩:=t0.dict m;rw[fI en]at D;have SW:=BN Jt (aj.ints D);subst SW;have ek:((ks.zip ns).map (·.1))=ks:=ZI ⋯;have g:et (hE X.prog X.w) X.A (H0 (.Call (.Attribute (.Name x n) "items" b) [] [] l) X.env) (λv s1=>et (hE X.prog X.w) X.A (Mu (.builtin "sorted") [v]) (EP X pins c.σ Q) X.xe s1) X.xe s:=by
  refine S0 rfl HU (HJ (cH hN hv hd IE pins s c.σ c.H (λv G=>v=.ref d/\G=c.H) I ⟨_,e0,rfl,rfl⟩) λv s1 S5=>?_);obtain⟨x1,G,J,r1,z1,z2⟩:=S5;subst z1 z2;cases(show v=i0 d from r1);obtain⟨h1,h2⟩:=nX (T:="dict") J (x:=.ref d) rfl (.inr (.inr (.inl ⟨rfl,.inl ⟨_,B⟩⟩)));refine⟨"dict","dict.items",PySem.F.plainAttrs_dict,PySem.F.slot_dict_items,PySem.F.type_dict_items,h1,h2,IZ rfl (PySem.evalArgs_none (ou Y J B (by rw[ek];exact HR) (by rw[Vt];lia) λas L hl nd O hL=>?_))⟩;have q:c.H L=b6:=O L (by simp);have Xj:(as.zip ((ks.zip ns).map LM)).map (·.1)=as:=ZI (by rw[cc];lia);have Xk:∀p∈as.zip ((ks.zip ns).map LM),p.1∈as:=λp t=>(QL t).1;have same:AR c.H (upd (jA c.H (as.zip ((ks.zip ns).map LM))) L (.lst ((eF ((ks.zip ns).map (·.1))).map λi=>V.ref (as.getD i 0)))):=λa o e=>by
   have n1:a≠L:=λy=>by rw[y,q]at e;cases e
   rw[aq n1,kI λp t y=>?_]
   ·exact e
   ·have:=O p.1 (by simp[Xk p t]);rw[y,e]at this;cases this
  obtain⟨HZ,n'⟩:=m.grow (S':=c.S) same (λa z=>.inl z) λa z=>z;obtain⟨q1,q2,q3,q4,q5⟩:=m.jB q;refine k {c with H:=upd (jA c.H (as.zip ((ks.zip ns).map LM))) L (.lst ((eF ((ks.zip ns).map (·.1))).map λi=>V.ref (as.getD i 0))),S:=c.S} _ rfl rfl HZ n' ⟨L,rfl,q,q2,q5,_,az,?_⟩;show aj C c.S _ ((Bi (ks.zip ns)).map wg) _;unfold Bi;rw[i5];refine aj.of_map λj hj=>?_;have Lk:j<(ks.zip ns).length:=by
   have:=rr.mp ((cn _).mem_iff.mp hj);rw[cc]at this;exact this
  have R_:j<as.length:=by lia
  have e1:(ks.zip ns).getD j (r6,0)=(ks.zip ns)[j]:=(YZ _).symm;have e2:as.getD j 0=as[j]:=by simp[Ii,R_]
  show Rep C c.S _ (wg ((ks.zip ns).getD j (r6,0))) (V.ref (as.getD j 0));rw[e1,e2];refine⟨as[j],LM (ks.zip ns)[j],rfl,Im.of ?_,⟨_,_,rfl,rfl,_,_,rfl,rfl,rfl⟩⟩;have IF:as[j]≠L:=λy=>hL (by rw[<-y];simp);refine(aq IF).trans (ua (by rw[Xj];exact nd) (vs:=LM (ks.zip ns)[j]) ?_);refine QD.mpr ⟨j,by rw[Vt,cc];lia,?_⟩;rw[List.getElem_zip,ZK]
 have eb:Kj pos (js [.Call (.Attribute (.Name x n) "items" b) [] [] l] X.env)=[(cL,H0 (.Call (.Attribute (.Name x n) "items" b) [] [] l) X.env)]:=rfl;have Xl:Qi pos (MP [] X.env)=[]:=rfl;rw[eb,Xl];exact oC g
end
section
theorem ur(f:X.calm=cb)(g:C.K=X.K)(i:Gl X "set")(j:X.mg "set"=b6)(m:PE X a (HK C n))(hs:js [a] X.env=[(cL,H0 a X.env)])(I:Inv X pins b.σ b.H s)(r:Ok C b)
  (h:W (n >>= λx=>M.H9 (ic x.2) >>= k) b.st u)
  (y:∀(S:hH) (o:Obj) (s1:gj) (D:List Str) (c:Cf),c.σ=b.σ->Ok C c->Nx b c->s1.heap.get? S=a5 o->aP X.prog X.w s1.heap S (aB X.w) D->Inv X ((S,o)::pins) c.σ c.H s1->W (k D) c.st u->(∀q∈pins,q.1≠S)->Q (.ref S) s1) :
  et (hE X.prog X.w) X.A (H0 (.Call (.Name "set" p) [a] [] pos) X.env) Q X.xe s:=by
 refine y4 (di I i j (show D' "set"=a5 (.type "set") by decide +kernel) ?_ (by decide +kernel) (by decide +kernel));have B:Kj pos (js [a] X.env)=[(cL,H0 a X.env)]:=by rw[hs];rfl
 have G:Qi pos (MP [] X.env)=[]:=rfl;rw[B,G];refine um (one m I r h λx c vx v s2 t d rv w=>?_);rw[af]at w;obtain⟨D,e,w⟩:=bQ.mp w;obtain⟨l,ys,rfl,J,L,rfl⟩:=mP g t.ok t.rx e;cases rv;exact rJ f d J L λS o s1 hsz N O T=>y S o s1 _ c t.hσ t.ok t.nx N O T w λq Y z=>by
  have:=fx (d.pin q (o3 _ Y)).1;rw[z]at this;exact absurd (i9 this hsz) (tr _)
theorem BP(m:X.calm=cb)(D:C.K=X.K)(G:Gl X (if ln=cb then "len" else "sorted"))(J:X.mg (if ln=cb then "len" else "sorted")=b6)(L:Gl X "set")(N:X.mg "set"=b6)(ha:PE X a (HK C ma))(hb:PE X b (HK C mb))(Xm:js [a] X.env=[(cL,H0 a X.env)])(L8:js [b] X.env=[(cL,H0 b X.env)]):
  PE X (.Call (.Name (if ln=cb then "len" else "sorted") p) [.BinOp (.Call (.Name "set" n) [a] [] t) .Sub (.Call (.Name "set" p2) [b] [] pos2) d] [] pos)
   (HK C (ma >>= λx=>M.H9 (ic x.2) >>= λd1=>mb >>= λy=>M.H9 (ic y.2) >>= λd2=>M.H9 (wj ln d1 d2))):=by
 rintro pins s σ H Q I ⟨u,rfl,rfl,ok,h⟩;have f:et (hE X.prog X.w) X.A (H0 (.BinOp (.Call (.Name "set" n) [a] [] t) .Sub (.Call (.Name "set" p2) [b] [] pos2) d) X.env) (λv s1=>et (hE X.prog X.w) X.A (Mu (.builtin (if ln=cb then "len" else "sorted")) [v]) (EP X pins u.σ Q) X.xe s1) X.xe s:=by
  refine wpAny_BinOp (ur m D L N ha Xm I ok h λS1 O s1 D1 c1 Xn HN Xo LL Lp I1 w1 NV=>?_);refine ur m D L N hb L8 I1 HN w1 λS2 o2 s2 D2 i Xp T Xq MD NW z w2 NR=>?_;obtain⟨r,k,j⟩:=bQ.mp w2;have S6:=(z.pin (S1,O) (o3 _ (by simp))).1;have S7:aP X.prog X.w s2.heap S1 (aB X.w) D1:=Lp.at λo e=>by rw[LL]at e;cases e;exact S6
  have IF:S1≠S2:=NR (S1,O) (by simp);have nx:Nx u i:=Xo.trans Xq;have B:i.σ=u.σ:=Xp.trans Xn;have I3:Inv X pins i.σ i.H s2:=z.dP λq hq=>z.pin q (o3 _ (by simp[hq]));unfold wj at k;split at k
  rotate_left
  ·cases k
  rename_i g;refine L2.jJ IF S7 NW g.1 g.2 λh' hk Y=>?_;have I4:Inv X pins i.σ i.H {s2 with heap:=h' }:=I3.kept (t':=s2.toks) hk;rw[<-B];cases ln with
  |true =>
   cases k;exact rG I4 Y (cp.flat (c:=i) j B T nx rfl)
  |false =>
   cases k;exact gh m I4 Y (Zx (td _ _) g.1) λl hl=>cp.list (c:=i) j B T nx (aj.strs.mpr rfl) l hl
 have eb:Kj pos (js [.BinOp (.Call (.Name "set" n) [a] [] t) .Sub (.Call (.Name "set" p2) [b] [] pos2) d] X.env)=[(cL,H0 (.BinOp (.Call (.Name "set" n) [a] [] t) .Sub (.Call (.Name "set" p2) [b] [] pos2) d) X.env)]:=rfl;have ek:Qi pos (MP [] X.env)=[]:=rfl;cases ln with
 |true =>
  refine y4 (di I G J (show D' "len"=a5 (.builtin "len") by decide +kernel) ?_ (by decide +kernel) (by decide +kernel));rw[eb,ek];exact oC f
 |false =>
  refine y4 (di I G J (show D' "sorted"=a5 (.builtin "sorted") by decide +kernel) ?_ (by decide +kernel) (by decide +kernel));rw[eb,ek];exact oC f
end
section
variable{X:Cx}{C:Ct}{a:uv}{ma:M (Kd×U)}{apos F':Pos}{i:Nat}{x:Str}{px:Pos}
theorem Ok.CU(b:Ok C c)(hk:k.root=cb)(hs:c.st[i]?=a5 (a5 (k,.lst us))):∃a vs,c.σ[i]?=a5 (a5 (.ref a))/\c.H a=a5 (.lst vs)/\aj C c.S c.H us vs:=by
 obtain⟨v,d,e⟩:=b.sl i k _ hs;obtain⟨r,rfl,_,_,_,vs,f,g⟩:=e.rt hk;exact⟨r,vs,d,f,g⟩
theorem aj.eraseIdx{S:hH->Prop}:∀{us:List U}{vs:List V} (n:Nat),aj C S H us vs->aj C S H (us.eraseIdx n) (vs.eraseIdx n)
 |[],_,n,h=>by cases h;simp[aj]
 |u::us,vs,0,h=>by
  obtain⟨v,r,rfl,c,b⟩:=h;exact b
 |u::us,vs,n+1,h=>by
  obtain⟨v,r,rfl,c,b⟩:=h;exact⟨v,_,rfl,c,b.eraseIdx n⟩
theorem Ok.out(f:Ok C c)(n:Nx g c)(l:c.σ=g.σ)(hk:k.root=cb)(hs:c.st[i]?=a5 (a5 (k,.lst us)))(h:c.σ[i]?=a5 (a5 (.ref r)))(m:aj C c.S c.H d b)(p:Rep C c.S c.H u v)(w:cp C g Q (.loc,u) (c.st.set i (a5 (k,.lst d)))):Q v (upd c.H r (.lst b)):=by
 have q:Mv c.S c.H c.S (upd c.H r (.lst b)):=by
  obtain⟨O,j,s⟩:=f.sl i k _ hs;rw[h]at j;cases j;obtain⟨T,y,A,_,_,B⟩:=s.rt hk;cases y;obtain⟨o,ho,D⟩:=B.some;exact⟨λ_ z=>z,λa o' e t=>by rw[aq (λz=>by subst z;rw[ho]at e;cases e;exact D t)];exact e,λa o' z e=>by rw[aq (λG=>by subst G;exact A z)];exact e⟩
 obtain⟨I,J⟩:=f.mod (H':=upd c.H r (.lst b)) (u':=.lst d) n.toNs hk hs h (λa L=>aq L) ⟨_,az⟩ λN=>⟨b,az,m.mv N⟩
 exact w {c with H:=upd c.H r (.lst b),st:=c.st.set i (a5 (k,.lst d))} v l rfl I ⟨J⟩ (p.mv q)
theorem BQ(g:X.N[i]?=a5 x)(j:JY X.env.scope x)(l:(x==("__debug__":Str))=cL)(m:(x==("__classdict__":Str))=cL)(n:(apos.endLine==F'.line)=cb)(o:C.K=X.K):
  PE X (.Call (.Attribute (.Name x px) "pop" apos) [] [] F') (HK C (yi i)):=by
 refine PE.weak (DH PySem.F.plainAttrs_list PySem.F.slot_list_pop PySem.F.type_list_pop DI (cH g j l m) rfl n) ?_;rintro σ H Q ⟨q,rfl,rfl,c,h⟩;obtain⟨r,st',e,w⟩:=h;unfold yi at e;split at e
 ·rename_i k us hs;split at e
  ·rename_i hk;split at e
   ·rename_i u s;cases e;obtain⟨p,vs,d,f,b⟩:=c.CU hk hs;obtain⟨v,t,y⟩:=b.get s;have hl:=b.len;refine⟨_,d,.inl ⟨rfl,vs,o▸Ij.of f⟩,p,vs,v,rfl,rfl,f,by rw[<-hl];exact t,?_⟩;refine c.out (Nx.refl q) rfl hk hs d ?_ y w;rw[YQ,YQ,hl];exact b.take _
   ·cases e
  ·cases e
 ·cases e
theorem Gp(b:0<=j)(h:j.toNat<n):UK j n=a5 j.toNat:=by
 simp only[UK];rw[ā (show ¬j<0 by lia),ÿ (by rw[c4,Ā,Ā];lia)]
theorem wF{st:aw}(h:W (wo i u) st Q):∃(j:Int) (k:Kd) (us:List U) (y:U),u=.int j/\k.root=cb/\0<=j/\j<1000000/\st[i]?=a5 (a5 (k,.lst us))/\us[j.toNat]?=a5 y/\Q (.loc,y) (st.set i (a5 (k,.lst (us.eraseIdx j.toNat)))):=by
 obtain⟨r,st',e,w⟩:=h;cases u with
 |int j =>
  unfold wo at e
  dsimp only at e
  split at e
  ·rename_i k us hs;split at e
   ·rename_i hk;split at e
    ·rename_i y b;cases e;exact⟨j,k,us,y,rfl,hk.1,hk.2.1,hk.2.2,hs,b,w⟩
    ·cases e
   ·cases e
  ·cases e
 |_=>cases e
theorem yI(o:C.K=X.K)(q:X.N[i]?=a5 x)(s:JY X.env.scope x)(u:(x==("__debug__":Str))=cL)(A:(x==("__classdict__":Str))=cL)(B:PE X a (HK C ma))
  (D:((Kj F' (js [a] X.env)).all (λx=>!x.1)&&(Qi F' (MP [] X.env)).all (λx=>x.1.isSome)
   && df ([a].length+([]:List NY).length+(if ([]:List NY).isEmpty then 0 else 1)<30))=cb)
  (G:(apos.endLine==F'.line)=cb) (e:js [a] X.env=[(cL,H0 a X.env)]) :
  PE X (.Call (.Attribute (.Name x px) "pop" apos) [a] [] F') (HK C (dg i >>= λx=>Mg x.2 >>= λ_=>ma >>= λy=>wo i y.2)):=by
 refine PE.weak (tM PySem.F.plainAttrs_list PySem.F.slot_list_pop PySem.F.type_list_pop xt (cH q s u A) (eR B iN e) rfl D G e rfl) ?_;rintro σ H Q ⟨c0,rfl,rfl,b,h⟩;rw[af]at h;obtain⟨k0,I,J,L,h⟩:=c7 h;obtain⟨O,f,T⟩:=b.slot J L;refine⟨O,f,?_⟩;cases I with
 |lst Y =>
  rw[af,show Mg (U.lst Y)=pure () from rfl,ak]at h;obtain⟨a0,N_,d,NQ,_⟩:=T.list b;refine⟨by rw[d];exact .inl ⟨rfl,N_,o▸NQ⟩,?_⟩;refine aV b h λr c v t w=>?_;obtain⟨j,k,us,y,ej,hk,j0,j1,hs,hu,w⟩:=wF w;obtain⟨p,vs,g,h2,l⟩:=t.ok.CU hk hs;have hp:p=a0:=by
   have:=g;rw[t.hσ,f,d]at this;cases this;rfl
  subst hp;obtain⟨z,m,g2⟩:=l.get hu;have Lx:j.toNat<vs.length:=(dV.mp m).1;have n:=t.rx;rw[ej]at n;have ev:=n.int t.ok;exact⟨p,vs,j,j.toNat,z,d,by rw[ev],h2,SN (by decide) j0,Int.lt_trans j1 (by decide),Gp j0 Lx,m,t.ok.out t.nx t.hσ hk hs g (l.eraseIdx _) g2 w⟩
 |_=>rw[af]at h;exact(bj.mp h).elim
end
abbrev LC(P:H8)(w:Kp)(K:PySem.W.Frag)(H:Hp)(a IO:hH->Prop):Ct:=⟨P,w,K,H,a,IO⟩
structure CV(C:Ct)(H H':Hp)(S':hH->Prop)(is:List Nat)(vs:List V)(ws:List U)(k:Kd)(u:U)(v:V):Prop where
 same:∀a o,H a=a5 o->¬C.IO a->H' a=a5 o
 new:∀a,S' a->H a=b6/\∃o,H' a=a5 o
 own:k=.own->∃r,v=.ref r/\H r=b6/\¬S' r/\cU C S' H' r u
 loc:k=.loc->Rep C S' H' u v
 len:ws.length=is.length
 JW:∀(n i:Nat) (r:hH) (w:U),is[n]?=a5 i->vs[i]?=a5 (.ref r)->ws[n]?=a5 w->cU C S' H' r w
structure EN(C:Ct)(H:Hp)(is:List Nat)(us:List U)(vs:List V):Prop where
 len:us.length=vs.length
 par:∀a,C.Ks a->Ki H a/\¬C.IO a
 UY:∀a,C.IO a->Ki H a
 io:∀(i:Nat) (u:U),i∈is->us[i]?=a5 u->∃r,vs[i]?=a5 (.ref r)/\C.IO r/\cU C (λ_=>False) H r u
 any:∀(i:Nat) (u:U),i∉is->us[i]?=a5 u->∃v,vs[i]?=a5 v/\Rep C C.Ks H u v
 inj:∀(i j:Nat) (r:hH),i∈is->j∈is->vs[i]?=a5 (.ref r)->vs[j]?=a5 (.ref r)->i=j
 JW:∀a,C.IO a->∃i∈is,vs[i]?=a5 (.ref a)
def Qx(P:H8)(w:Kp)(K:PySem.W.Frag)(F:List U->Option (Ex (Kd×U)))(b:Nat)(is:List Nat):Sp:=λvs H Q _=>vs.length=b/\∃us k u ws a IO,F us=a5 (.ok (k,.tup (u::ws)))/\(k=.own\/k=.loc)/\EN (LC P w K H a IO) H is us vs /\
 ∀v H' S',CV (LC P w K H a IO) H H' S' is vs ws k u v->Q v H'
theorem map_inj:∀{l:List α},(l.map f).Nodup->∀x∈l,∀y∈l,f x=f y->x=y
 |[],_,_,h,_,_,_=>by cases h
 |a::l,h,x,g,y,c,e=>by
  rw[ez,mA]at h;rcases fR.mp g with d|h1
  ·rcases fR.mp c with b|h2
   ·rw[d,b]
   ·exact absurd (mh.mpr ⟨y,h2,by rw[<-e,d]⟩) h.1
  ·rcases fR.mp c with b|h2
   ·exact absurd (mh.mpr ⟨x,h1,by rw[e,b]⟩) h.1
   ·exact map_inj h.2 x h1 y h2 e
section
theorem wG(h:gK rs p=a5 j):∃us,rs[p]?=a5 (.bor j,.lst us)/\bU us=cb:=by
 unfold gK at h;split at h
 ·split at h
  ·cases h;exact⟨_,by assumption,by assumption⟩
  ·cases h
 ·cases h
theorem J6.UZ(t:J6 C d c rs vs){i:Nat}(h:rs[i]?=a5 r):∃v,vs[i]?=a5 v/\aL C d c r.1 r.2 v:=by
 have f:∀(l:List (Kd×U)) (w:List V),cO C d c l w->bp l c.st->∀(i:Nat) (r:Kd×U),l[i]?=a5 r->∃v,w[i]?=a5 v/\aL C d c r.1 r.2 v:=by
  intro l;induction l with
  |nil=>intro w _ _ i r e;simp at e
  |cons x l g =>
   intro w h hs i r e;obtain⟨v,t',rfl,j,k,_⟩:=h;rw[dA]at hs;cases i with
   |zero=>simp at e;subst e;exact⟨v,rfl,j.t hs.1⟩
   |succ i=>obtain⟨m,a,b⟩:=g t' k hs.2 i r (by simpa using e);exact⟨m,by simpa using a,b⟩
 exact f rs vs t.rep t.ML i r h
theorem J6.len(t:J6 C a c rs vs):rs.length=vs.length:=by
 have:=t.read.len;rw[cc]at this;exact this
theorem uu(q:C'.Eqv C){vs:List V}(hs:∀a,S' a->S1 a){IO:hH->Prop}(Q:∀a,S' a->¬IO a)(A:∀a o,IO a->H' a=a5 o->¬Tp o):
  ∀(ps:List Nat) (ws:List U) (c:Cf) (st':aw),Ok C c->Ns c1 c->c.S=S1->gp rs ps ws c.st=a5 st'->(ps.map (gK rs)).Nodup->(∀p∈ps,∀a,vs[p]?=a5 (.ref a)->IO a) ->
  (∀p∈ps,∀j,gK rs p=a5 j->∃k u r,k.root=cb/\c.st[j]?=a5 (a5 (k,u))/\c.σ[j]?=a5 (a5 (.ref r))/\vs[p]?=a5 (.ref r)) ->
  (∀(n p:Nat) (r:hH) (w:U),ps[n]?=a5 p->vs[p]?=a5 (.ref r)->ws[n]?=a5 w->cU C' S' H' r w)->(∀a,(∀p∈ps,vs[p]?≠a5 (.ref a))->c.H a=H' a)->(∀a,¬IO a->c.H a=H' a) ->
  ∃g:Cf,Ok C g/\Ns c1 g/\g.σ=c.σ/\g.S=S1/\g.st=st'/\g.H=H'/\g.kid=c.kid/\∀(j:Nat) (k:Kd) (u:U),g.st[j]?=a5 (a5 (k,u))->∃B,c.st[j]?=a5 (a5 (k,B))
 |[],ws,c,st',D,n,y,e,_,_,_,_,G,_=>by
  cases ws with
  |nil=>cases e;exact⟨c,D,n,rfl,y,rfl,funext λa=>G a λp hp=>(by cases hp),rfl,λj k u e=>⟨u,e⟩⟩
  |cons _ _=>cases e
 |p::ps,ws,c,st',D,n,y,e,I,T,Y,rt,G,J=>by
  cases ws with
  |nil=>cases e
  |cons w ws =>
   simp only[gp]at e;split at e
   ·rename_i j hj;split at e
    ·rename_i us k0 Yv HL;obtain⟨k,u,r,hk,s,e2,L⟩:=Y p (by simp) j hj;rw[HL]at s;cases s;have s:=HL;have hr:=rt 0 p r _ rfl L rfl;obtain⟨xs,g1,g2⟩:=hr;have N:IO r:=T p (by simp) r L;rw[ez,mA]at I;obtain⟨HZ,n'⟩:=D.mod (H':=upd c.H r (.lst xs)) (u':=.lst us) n hk s e2 (λa v=>aq v) ⟨_,az⟩ (λ_=>⟨xs,az,by
      refine(g2.cg q).mv ⟨λa z=>by rw[y];exact hs a z,λa o h tp=>?_,λa o z h=>?_⟩
      ·by_cases l:a=r
       ·subst l;exact absurd tp (A a o N h)
       ·rw[aq l];by_cases x:IO a
        ·exact absurd tp (A a o x h)
        ·rw[J a x];exact h
      ·have x:=Q a z;have l:a≠r:=λe=>x (e▸N);rw[aq l,J a x];exact h⟩)
     have Jh:j<c.st.length:=(dV.mp s).1;have A1:∀f∈ps,∀t,gK rs f=a5 t->∃k u r,Kd.root k=cb/\(c.st.set j (a5 (k0,.lst us)))[t]?=a5 (a5 (k,u))/\c.σ[t]?=a5 (a5 (.ref r))/\vs[f]?=a5 (.ref r):=λf hp t Lk=>by
      obtain⟨k',u',O,a1,a2,a3,a4⟩:=Y f (by simp[hp]) t Lk;have v:j≠t:=λz=>I.1 (mh.mpr ⟨f,hp,by rw[Lk,hj,z]⟩);exact⟨k',u',O,a1,by rw[i6 v];exact a2,a3,a4⟩
     have A2:∀a,(∀f∈ps,vs[f]?≠a5 (.ref a))->upd c.H r (.lst xs) a=H' a:=λa l=>by
      by_cases h:a=r
      ·subst h;rw[az,g1]
      ·rw[aq h];refine G a λf hp z=>?_;rcases fR.mp hp with rfl|hp
       ·rw[L]at z;cases z;exact h rfl
       ·exact l f hp z
     have A3:∀a,¬IO a->upd c.H r (.lst xs) a=H' a:=λa l=>by
      have v:a≠r:=λz=>l (by rw[z];exact N);rw[aq v];exact J a l
     obtain⟨g,f1,f2,f3,f4,f5,f6,f7,f8⟩:=uu q hs Q A ps ws {c with H:=upd c.H r (.lst xs),st:=c.st.set j (a5 (k0,.lst us))} st' HZ n' y e I.2 (λf hp=>T f (by simp[hp])) A1 (λm f O w' a b d=>rt (m+1) f O w' (by simpa using a) b (by simpa using d)) A2 A3;refine⟨g,f1,f2,f3,f4,f5,f6,f7,λi k' u' z=>?_⟩;obtain⟨B,z⟩:=f8 i k' u' z;by_cases hi:i=j
     ·subst hi;have z:(c.st.set i (a5 (k0,.lst us)))[i]?=_:=z;rw[hQ Jh]at z;cases z;exact⟨_,s⟩
     ·have z:(c.st.set j (a5 (k0,.lst us)))[i]?=_:=z;rw[i6 (sx hi)]at z;exact⟨B,z⟩
    ·cases e
   ·cases e
end
section
theorem BR(st:aw)(r:Kd×U):(dN st r).1=r.1:=by
 unfold dN;split<;>rfl
theorem cO.U0{st:aw}:∀{rs:List (Kd×U)}{vs:List V},cO C d c rs vs->cO C d c (rs.map (dN st)) vs
 |[],_,h=>h
 |r::rs,vs,h=>by
  obtain⟨v,t,rfl,e,f,g⟩:=h;refine⟨v,t,rfl,?_,cO.U0 f,λhk i n j a l b=>?_⟩
  ·obtain⟨k,u⟩:=r;cases k<;>exact e
  ·rw[ki,fS]at a;obtain⟨m,a,rfl⟩:=a;rw[BR]at hk b;exact g hk i m j a l b
theorem BS(h:PA X es (Jr C ms)):PA X es (Jr C (ms >>= Bj)):=by
 rintro pos pins s σ H Q I ⟨a,rfl,rfl,b,w⟩;refine h pos pins s a.σ a.H Q I ⟨a,rfl,rfl,b,?_⟩;rw[af]at w;refine w.mono λrs st d c vs f g i n r=>?_;obtain⟨j,st',e,q⟩:=d;cases e;exact q c vs f g i n r.U0
theorem yJ(h:Sk r=a5 (k,u,ws)):r=(k,.tup (u::ws))/\(k=.own\/k=.loc):=by
 unfold Sk at h;split at h
 ·cases h;exact⟨rfl,.inl rfl⟩
 ·cases h;exact⟨rfl,.inr rfl⟩
 ·cases h
theorem yK(hP:C.P=X.prog)(hw:C.w=X.w)(hK:C.K=X.K)(hF:Γ f=F)(hk:∀us r,F us=a5 (.ok r)->us.length=np)
  (G:j6 X.prog X.w X.K X.mg X.base K9 k fa fd ps (Qx X.prog X.w X.K F np is)) (hr:fX k X.A) (hg:Gl X f) (hm:X.mg f=a5 (.ref fa)) (Kh:PySem.W.keepIn X.K (.ref fa)=cb) (B:Binds X.K fd ps [])
  (Nh:(f==("__debug__":Str))=cL) (ha:PA X (e::es) (Jr C ms)) (he:js (e::es) X.env=(cL,H0 e X.env)::js es X.env) (Iq:(Kj pos (js es X.env)).any (·.1)=cL) :
  PE X (.Call (.Name f p) (e::es) [] pos) (HK C (ms >>= λrs=>aC rs >>= λ_=>qg Γ f rs is)):=by
 rintro pins s σ H Q I ⟨c0,rfl,rfl,ok,h⟩;refine y4 (nL I hg hm ?_ Nh);refine PySem.W.callWith_K (h₀:=X.base) I.ok.mod.PM Kh (HJ (args ha I ok h pos) λus s1 ⟨rs,c,vs,t,I1,rv,w⟩=>⟨I1.MS,?_⟩) he Iq;obtain⟨r,st',D,q⟩:=w;unfold qg at D;rw[hF]at D;split at D
 ·rename_i r0 e2;split at D
  ·rename_i kd u ws eu;split at D
   ·rename_i Jc;split at D
    ·rename_i st2 Ta;cases D;obtain⟨rfl,k1⟩:=yJ eu;have k2:=hk _ _ e2;unfold qf at Jc;simp only[c4,i7,Ā,Lf,rr]at Jc;obtain⟨⟨h1,h2⟩,h3⟩:=Jc;have T:∀p∈is,∃j xs k r,gK rs p=a5 j/\rs[p]?=a5 (.bor j,.lst xs)/\bU xs=cb/\Kd.root k=cb/\c.st[j]?=a5 (a5 (k,.lst xs))/\c.σ[j]?=a5 (a5 (.ref r))/\vs[p]?=a5 (.ref r)/\¬c.S r/\¬C.Ks r/\cU C c.S c.H r (.lst xs):=λp L=>by
      obtain⟨j,O⟩:=RM.mp (h1 p L);obtain⟨xs,a1,a2⟩:=wG O;obtain⟨v,b1,l⟩:=t.UZ a1;obtain⟨r,rfl,Y,d2,_,N⟩:=t.ok.rootOf l.1 l.2;obtain⟨k,m,x⟩:=l.1;exact⟨j,xs,k,r,O,a1,a2,m,x,l.2,b1,Y,d2,N⟩
     let IO:hH->Prop:=λa=>∃p∈is,vs[p]?=a5 (.ref a);have Ph:∀a,IO a->c.R a/\¬c.S a/\¬C.Ks a/\Ki c.H a:=λa Ir=>by
      obtain⟨p,L,e⟩:=Ir;obtain⟨j,xs,k,r,_,_,_,m,x,y,J,g5,g6,g7⟩:=T p L;rw[e]at J;cases J;obtain⟨o,ho,_⟩:=g7.some;exact⟨.inl ⟨j,k,_,m,x,y⟩,g5,g6,o,ho⟩
     let Pr:hH->Prop:=λa=>Ki c.H a/\¬IO a;have ac:C.Eqv (LC X.prog X.w X.K c.H Pr IO):=⟨hP,hw,hK⟩
     have Ly:(LC X.prog X.w X.K c.H Pr IO).Eqv C:=⟨hP.symm,hw.symm,hK.symm⟩
     have sP:∀a,c.S a->Pr a:=λa z=>⟨t.ok.yd a z,λz'=>(Ph a z').2.1 z⟩
     have gi:∀{i:Nat} {u:U},(rs.map (·.2))[i]?=a5 u->∃k,rs[i]?=a5 (k,u):=λ{i u} e=>by
      rw[ki,fS]at e;obtain⟨⟨k,u'⟩,e,rfl⟩:=e;exact⟨k,e⟩
     have ag:EN (LC X.prog X.w X.K c.H Pr IO) c.H is (rs.map (·.2)) vs:=by
      refine⟨by rw[cc];exact t.len,λa z=>z,λa z=>(Ph a z).2.2.2,λi u hi e=>?_,λi u hi e=>?_,λi j r hi O e3 e4=>?_,λa z=>z⟩
      ·obtain⟨j,xs,k,r,_,g0,gm,m,x,y,J,g5,g6,zs,g7,g8⟩:=T i hi;obtain⟨k',e⟩:=gi e;rw[g0]at e;cases e;exact⟨r,J,⟨i,hi,J⟩,zs,g7,(aj.H_ gm g8).cg ac⟩
      ·obtain⟨k',e⟩:=gi e;obtain⟨v,b1,l⟩:=t.UZ e;refine⟨v,b1,?_⟩;have Jh:i<rs.length:=(dV.mp e).1;have U1:=(h3 i Jh).resolve_left hi;rw[Xv,e]at U1;refine Rep.cg ac (u:=u) ?_;cases k' with
       |own =>
        obtain⟨r,rfl,_,Y,d2,N⟩:=l;obtain⟨o,ho,_⟩:=N.some;exact N.rep sP ⟨⟨o,ho⟩,λz=>d2 (Ph r z).1⟩
       |loc=>exact Rep.mv (.up sP) l
       |any=>exact Rep.mv (.up λa z=>z.elim (λz=>⟨t.ok.FX a (.inl z),λz'=>(Ph a z').2.2.1 z⟩) (sP a)) l
       |bor j =>
        obtain⟨r,rfl,Y,d2,_,N⟩:=t.ok.rootOf l.1 l.2;obtain⟨o,ho,_⟩:=N.some;refine N.rep sP ⟨⟨o,ho⟩,λ⟨p',U2,e'⟩=>?_⟩;obtain⟨j',xs,k2,r2,g,_,_,m,x,y,J,_⟩:=T p' U2;rw[e']at J;cases J;obtain⟨k3,z1,z2⟩:=l.1;have:=t.ok.inj j j' k3 k2 _ _ r z1 m z2 x l.2 y;subst this;have:a5 j∉is.map (gK rs):=by simpa[yh] using U1
        exact this (mh.mpr ⟨p',U2,g⟩)
       |_=>exact l.elim
      ·obtain⟨j1,_,k1,r1,a0,_,_,a1,a2,a3,a4,_⟩:=T i hi;obtain⟨j2,_,k2,r2,b0,_,_,b1,l,b3,b4,_⟩:=T j O;rw[e3]at a4;cases a4;rw[e4]at b4;cases b4;have:=t.ok.inj j1 j2 k1 k2 _ _ r a1 b1 a2 l a3 b3;subst this;exact map_inj h2 i hi j O (by rw[a0,b0])
     have JI:Qx X.prog X.w X.K F np is vs c.H (λv H'=>Q v H') E0:=⟨by rw[<-t.len,<-k2,cc],rs.map (·.2),kd,u,ws,Pr,IO,e2,k1,ag,λv H' S' B=>by
      classical
      let H1:Hp:=λa=>if IO a then c.H a else H' a
      have Qy:∀a,¬IO a->H1 a=H' a:=λa z=>ā z;have Pf:∀a,S' a->¬IO a:=λa z z'=>by
       obtain⟨o,ho⟩:=(Ph a z').2.2.2;rw[(B.new a z).1]at ho;cases ho
      have Pj:AR c.H H1:=λa o e=>by
       by_cases z:IO a
       ·show(if IO a then _ else _)=_;rw[ÿ z];exact e
       ·rw[Qy a z];exact B.same a o e z
      obtain⟨HN,n1⟩:=t.ok.grow (H':=H1) (S':=λa=>c.S a\/S' a) Pj (λa z=>z.imp id λz=>⟨(B.new a z).1,by rw[Qy a (Pf a z)];exact(B.new a z).2⟩) λa=>.inl;have Pk:∀(n i:Nat) (r:hH),is[n]?=a5 i->vs[i]?=a5 (.ref r)->∃w,ws[n]?=a5 w/\cU (LC X.prog X.w X.K c.H Pr IO) S' H' r w:=λn i r a b=>by
       have hn:n<ws.length:=by rw[B.len];exact(dV.mp a).1
       exact⟨_,oT hn,B.JW n i r _ a b (oT hn)⟩
      obtain⟨cf,f1,f2,f3,f4,f5,f6,f7,f8⟩:=uu (C:=C) Ly (rs:=rs) (vs:=vs) (H':=H') (S':=S') (S1:=λa=>c.S a\/S' a) (λa=>.inr) (IO:=IO) Pf (λa o ⟨i,hi,z⟩ e=>by
        obtain⟨n,hn⟩:=List.getElem?_of_mem hi;obtain⟨w,_,g⟩:=Pk n i a hn z;obtain⟨o',m,x⟩:=g.some;rw[e]at m;cases m;exact x) is ws {c with H:=H1,S:=λa=>c.S a\/S' a} st' HN n1.toNs rfl Ta h2 (λp L a z=>⟨p,L,z⟩) (λp L j O=>by
        obtain⟨j',xs,k,r,g0,_,_,m,x,y,J,_⟩:=T p L;rw[O]at g0;cases g0;exact⟨k,_,r,m,x,y,J⟩) (λn i r w a b d=>B.JW n i r w a b d) (λa ha=>Qy a λ⟨p,L,z⟩=>ha p L z) Qy
      subst f6;have Xs:∀a,cf.R a->c.R a:=λa z=>by
       rcases z with⟨j,k,u,m,x,y⟩|⟨j,u,r,m,x,y⟩
       ·obtain⟨u0,g⟩:=f8 j k u x;rw[f3]at y;exact .inl ⟨j,k,u0,m,g,y⟩
       ·obtain⟨u0,g⟩:=f8 j .G' u m;rw[f3]at x;rw[f7]at y;exact .inr ⟨j,u0,r,g,x,y⟩
      refine q cf v (f3.trans t.hσ) f5 f1 ⟨t.nx.toNs.trans f2⟩ ?_;rcases k1 with rfl|rfl
      ·obtain⟨r,rfl,Y,d2,N⟩:=B.own rfl;obtain⟨_,z1,_,_,z4⟩:=t.ok.jB Y;exact⟨r,rfl,t.nx.none Y,by rw[f4];exact λz=>z.elim z1 d2,λz=>z4 (Xs r z),(N.cg Ly).mv (.up λa z=>by rw[f4];exact .inr z) λo q=>q⟩
      ·exact((B.loc rfl).cg Ly).mv (.up λa z=>by rw[f4];exact .inr z)⟩
     have z:=xp (Q:=Q) G hr B .nil CL I1 rv (by rw[uk];exact JI);rw[t.hσ]at z;exact z
    ·cases D
   ·cases D
  ·cases D
 ·cases D
end
structure Ck where
 fns:List Str
 gl:List (Str×U)
 JW:List (Str×List Nat)
noncomputable def gL:U->U->Bool
 |.int i,.int j=>df (i=j)
 |.str x,.str y=>df (x=y)
 |.bl a,.bl b=>a==b
 |.HH,.HH=>cb
 |_,_=>cL
theorem cq(h:gL u v=cb):u=v:=by
 cases u<;>cases v<;>simp[gL]at h<;>subst_vars<;>rfl
noncomputable def noStar:uv->Bool
 |.Starred _ _=>cL
 |_=>cb
noncomputable def dU:uv->Bool
 |.Slice _ _ _ _=>cL
 |_=>cb
noncomputable def se:uv->Bool
 |.Set _ _ _=>cL
 |_=>cb
noncomputable def oG:uv->Bool
 |.Call (.Name _ _) [] [] _=>cL
 |_=>cb
noncomputable def dz:uv->Bool
 |.ListComp _ _ _ _=>cL
 |.SetComp _ _ _ _=>cL
 |.DictComp _ _ _ _ _=>cL
 |_=>cb
noncomputable def EO:uv->Bool
 |.Tuple _ _ _=>cL
 |_=>cb
noncomputable def JL(a:NA)(x:Str):Bool:=df (a.names.lookup x=a5 .globalImplicit)
noncomputable def gM(a:NA)(x:Str):Bool:=df (a.names.lookup x=a5 .local)||decide (a.names.lookup x=a5 .cell)||decide (a.names.lookup x=a5 .free)
noncomputable def oH(a:NA)(x:Str):Bool:=df (a.names.lookup x=a5 .local)||decide (a.names.lookup x=a5 .cell)
noncomputable def Gq(a:NA)(x:Str):Bool:=df (a.names.lookup x=a5 .local)
noncomputable def bL(x:Str):Bool:=!(x==("__debug__":Str))&&!(x==("__classdict__":Str))
noncomputable def uw(N:List Str)(a:NA)(fa:Bool)(i:Nat):uv->Bool
 |.Name x _=>df (N[i]?=a5 x)&&oH a x&&(fa||Gq a x)
 |_=>cL
noncomputable def oI(N:List Str)(a:NA)(fa:Bool):List Nat->List uv->Bool
 |[],[]=>cb
 |i::is,e::es=>uw N a fa i e&&oI N a fa is es
 |_,_=>cL
noncomputable def gq:uv->List Str
 |.Name x _=>[x]
 |.Tuple es _ _=>es.filterMap fun|.Name x _=>a5 x|_=>b6
 |_=>[]
noncomputable def hide(a N:List Str):List Str:=match a.filter λx=>df (x∈N) with
 |[]=>N
 |[x]=>N.set (N.idxOf x) "."
 |x::y::_=>(N.set (N.idxOf x) ".").set (N.idxOf y) ".."
noncomputable def Oc(t:Bool)(N:List Str)(a:NA)(fa:Bool)(is:List Nat):uv->Bool
 |.Name x p=>!t&&(match is with|[i]=>uw N a fa i (.Name x p)|_=>cL)
 |.Tuple es _ _=>t&&oI N a fa is es&&is.all λi=>df (i<N.length)
 |_=>cL
noncomputable def isTup:uv->Bool
 |.Tuple _ _ _=>cb
 |_=>cL
noncomputable def iX(e:uv):Option (Str×List uv):=match e with
 |.Call f as kw _=>match f with
  |.Name x _=>if kw.isEmpty=cb then a5 (x,as) else b6
  |_=>b6
 |_=>b6
theorem fJ(h:iX e=a5 (x,as)):∃p q,e=.Call (.Name x p) as [] q:=by
 unfold iX at h;split at h
 ·split at h
  ·split at h
   ·rename_i hk;rw[Of]at hk;cases h;subst hk;exact⟨_,_,rfl⟩
   ·cases h
  ·cases h
 ·cases h
noncomputable def yL(e:uv):Option uv:=match e with
 |.Call f as kw q=>match f with
  |.Attribute a m p=>if kw.isEmpty=cb/\as.isEmpty=cb/\m="items"/\(p.endLine==q.line)=cb/\((iX a).any λz=>!z.2.isEmpty)=cb then a5 a else b6
  |_=>b6
 |_=>b6
theorem sf(h:yL e=a5 a):∃x p b as q p2 f,a=.Call (.Name x p) (b::as) [] q/\e=.Call (.Attribute a "items" p2) [] [] f/\(p2.endLine==f.line)=cb:=by
 unfold yL at h;split at h
 ·split at h
  ·split at h
   ·rename_i hk;obtain⟨g,i,j,k,c⟩:=hk;rw[Of]at g i;cases h;subst g i j;cases d:iX a with
    |none=>rw[d]at c;cases c
    |some z =>
     rw[d]at c;obtain⟨x,as⟩:=z;obtain⟨p,q,rfl⟩:=fJ d;cases as with
     |nil=>cases c
     |cons b as=>exact⟨_,_,_,_,_,_,_,rfl,rfl,k⟩
   ·cases h
  ·cases h
 ·cases h
noncomputable def fK(b:NA)(c:uv)(d:Ik)(e:uv):Option (List uv):=match d with
 |.seq=>a5 [e]
 |.Jl=>(iX e).bind λp=>if p.1="range"/\JL b p.1=cb/\p.2.length=1 then a5 p.2 else b6
 |.Md=>(iX e).bind λp=>if p.1="enumerate"/\JL b p.1=cb/\p.2.length=1/\isTup c=cb then a5 p.2 else b6
 |.N2=>(yL e).bind λa=>if isTup c=cb then a5 [a] else b6
 |_=>b6
noncomputable def simple:Bf->Bool:=λ_=>cb
noncomputable def ER(scope a:NA):NA:={scope with names:=scope.names.map λ(n,k)=>if (k==M0&&a.kind==.function&&a.names.lookup n==a5 .cell)=cb then(n,.cell) else(n,k)}
noncomputable def bq(e:uv)(k:Str->Bool):Bool:=match e with|.Name x _=>k x|_=>cL
theorem ay(h:bq e k=cb):∃x p,e=.Name x p/\k x=cb:=by
 unfold bq at h;split at h
 ·exact⟨_,_,rfl,h⟩
 ·cases h
noncomputable def dW{α:Type}(l:List α)(k:α->Bool):Bool:=match l with|[a]=>k a|_=>cL
theorem bo(h:dW l k=cb):∃a,l=[a]/\k a=cb:=by
 unfold dW at h;split at h
 ·exact⟨_,rfl,h⟩
 ·cases h
noncomputable def c8(e:uv)(k:uv->List uv->Pos->Bool):Bool:=match e with|.Call f as kw p=>kw.isEmpty&&k f as p|_=>cL
theorem aT(h:c8 e k=cb):∃f as p,e=.Call f as [] p/\k f as p=cb:=by
 unfold c8 at h;split at h
 ·rename_i f as kw p;rw[c4,Of]at h;obtain⟨rfl,h⟩:=h;exact⟨_,_,_,rfl,h⟩
 ·cases h
noncomputable def sg(e:uv)(k:uv->Str->Pos->Bool):Bool:=match e with|.Attribute o m p=>k o m p|_=>cL
theorem qr(h:sg e k=cb):∃o m p,e=.Attribute o m p/\k o m p=cb:=by
 unfold sg at h;split at h
 ·exact⟨_,_,_,rfl,h⟩
 ·cases h
noncomputable def yM(e:uv)(k:uv->ú->uv->Bool):Bool:=match e with|.BinOp a c b _=>k a c b|_=>cL
theorem si(h:yM e k=cb):∃a c b p,e=.BinOp a c b p/\k a c b=cb:=by
 unfold yM at h;split at h
 ·exact⟨_,_,_,_,rfl,h⟩
 ·cases h
noncomputable def uA(e:uv)(k:uv->CmpOp->uv->Bool):Bool:=match e with|.Compare a ops c _=>dW ops λd=>dW c λb=>k a d b|_=>cL
theorem gN(h:uA e k=cb):∃a c b p,e=.Compare a [c] [b] p/\k a c b=cb:=by
 unfold uA at h;split at h
 ·obtain⟨c,rfl,d⟩:=bo h;obtain⟨b,rfl,f⟩:=bo d;exact⟨_,_,_,_,rfl,f⟩
 ·cases h
noncomputable def eZ(e:uv)(k:uv->Str->Pos->List uv->Pos->Bool):Bool:=c8 e λf as b=>sg f λo m a=>k o m a as b
theorem bR(h:eZ e k=cb):∃o m a as b,e=.Call (.Attribute o m a) as [] b/\k o m a as b=cb:=by
 obtain⟨f,as,p,rfl,h⟩:=aT h;obtain⟨o,m,q,rfl,h⟩:=qr h;exact⟨_,_,_,_,_,rfl,h⟩
noncomputable def mU(e:uv)(k:uv->uv->Bool):Bool:=match e with|.Subscript a b _=>k a b|_=>cL
theorem e_(h:mU e k=cb):∃a b p,e=.Subscript a b p/\k a b=cb:=by
 unfold mU at h;split at h
 ·exact⟨_,_,_,rfl,h⟩
 ·cases h
noncomputable def Tb:E->Bool
 |.var _=>cb
 |.cst _=>cb
 |_=>cL
mutual
noncomputable def aD(k:Ck):E->List Str->NA->uv->Bool
 |.var i,N,g,h=>match h with
  |.Name x _=>df (N[i]?=a5 x)&&gM g x&&bL x
  |_=>cL
 |.cst u,N,g,h=>match h with
  |.Constant (.int j) _ _=>gL u (.int j)
  |.Constant (.str y) _ _=>gL u (.str y)
  |.Constant (.bool y) _ _=>gL u (.bl y)
  |.Constant .none _ _=>gL u .HH
  |_=>cL
 |.N3 x u,N,g,h=>match h with
  |.Name y _=>df (x=y)&&JL g x&&bL x&&k.gl.any λp=>df (p.1=x)&&gL p.2 u
  |_=>cL
 |.bin D a b,N,g,h=>match h with
  |.BinOp a' C v _=>df (D.op=C)&&aD k a N g a'&&aD k b N g v
  |_=>cL
 |.cmp D a b,N,g,h=>uA h λa' C v=>df (D.op=C)&&!Q7 C v&&aD k a N g a'&&aD k b N g v
 |.Kt I o2 a b c,N,g,h=>match h with
  |.Compare a' [p,q] [v,H] _=>df (I.op=p)&&df (o2.op=q)&&!lastMarks [p,q] [v,H]&&aD k a N g a'&&aD k b N g v&&aD k c N g H
  |_=>cL
 |.and es,N,g,h=>match h with
  |.BoolOp .And w _=>aS k es N g w
  |_=>cL
 |.or es,N,g,h=>match h with
  |.BoolOp .Or w _=>aS k es N g w
  |_=>cL
 |.not a,N,g,h=>match h with
  |.UnaryOp .Not a' _=>aD k a N g a'
  |_=>cL
 |.ite c a b,N,g,h=>match h with
  |.IfExp H a' v _=>aD k c N g H&&aD k a N g a'&&aD k b N g v
  |_=>cL
 |.neg _,_,_,_=>cL
 |.bad,_,_,_=>cb
 |.pop i,N,g,h=>eZ h λo m s as A=>bq o λx=>as.isEmpty&&df (m="pop")&&df (N[i]?=a5 x)&&gM g x&&bL x&&(s.endLine==A.line)
 |.Kv i a,N,g,h=>eZ h λo m s as A=>bq o λx=>dW as λa'=>df (m="pop")&&df (N[i]?=a5 x)&&gM g x&&bL x&&(s.endLine==A.line)&&noStar a'&&aD k a N g a'
 |.HF f es is,N,g,h=>c8 h λf' w _=>bq f' λx=>df (x=f)&&df ((f,is)∈k.JW)&&JL g x&&bL x&&!w.isEmpty&&aS k es N g w
 |.inD neg a i,N,g,h=>uA h λa' C v=>bq v λx=>df (EJ neg=C)&&!Q7 C v&&df (N[i]?=a5 x)&&gM g x&&bL x&&aD k a N g a'
 |.N4 i,N,g,h=>match h with
  |.Name x _=>df (N[i]?=a5 x)&&gM g x&&bL x
  |_=>cL
 |.Ku i a b,N,g,h=>eZ h λo m s as A=>bq o λx=>match as with
  |[a',v]=>df (m="get")&&df (N[i]?=a5 x)&&gM g x&&bL x&&(s.endLine==A.line)&&noStar a'&&noStar v&&aD k a N g a'&&aD k b N g v
  |_=>cL
 |.N5 i,N,g,h=>c8 h λf' as _=>bq f' λf=>dW as λc=>eZ c λo m s J A=>bq o λx=>J.isEmpty&&df (f="sorted")&&JL g f&&df (m="items")&&df (N[i]?=a5 x)&&gM g x&&bL x&&(s.endLine==A.line)
 |.N6 ln a b,N,g,h=>c8 h λf' as _=>bq f' λf=>dW as λd=>yM d λl D r=>c8 l λL O _=>bq L λQ=>dW O λa'=>c8 r λY ar _=>bq Y λg2=>dW ar λv =>
  df (f=(if ln=cb then("len":Str) else "sorted"))&&df (Q="set")&&df (g2="set")&&df (D=.Sub)&&JL g f&&JL g "set"&&noStar a'&&noStar v&&aD k a N g a'&&aD k b N g v
 |.fst es,N,g,h=>cL
 |.LO a T,N,g,h=>c8 h λf' as _=>bq f' λx=>match as with
  |[a',v]=>bq v λy=>df (x="isinstance")&&df (y=T.name)&&JL g x&&JL g y&&noStar a'&&aD k a N g a'
  |_=>cL
 |.tup es,N,g,h=>match h with
  |.Tuple w _ _=>aS k es N g w
  |_=>cL
 |.lst es,N,g,h=>match h with
  |.List w _=>aS k es N g w
  |_=>cL
 |.JG _,N,g,h=>match h with
  |.Dict [] [] _=>cb
  |_=>cL
 |.idx a b,N,g,h=>match h with
  |.Subscript a' v _=>dU v&&aD k a N g a'&&aD k b N g v
  |_=>cL
 |.KZ a lo hi,N,g,h=>match h with
  |.Subscript a' (.Slice Xt Jv b6 _) _=>aD k a N g a'&&sj k lo N g Xt&&sj k hi N g Jv
  |_=>cL
 |.bi f es,N,g,h=>c8 h λf' w _=>bq f' λx=>df (x=f.name)&&simple f&&JL g x&&!w.isEmpty&&aS k es N g w
 |.LN f es,N,g,h=>c8 h λf' as _=>bq f' λx=>dW as λc=>c8 c λg' w _=>bq g' λy=>df (x=f.oB)&&df (y=f.ir)&&JL g x&&JL g y&&!w.isEmpty&&aS k es N g w
 |.MJ m a es,N,g,h=>eZ h λo name s w A=>df (name=m.name)&&oG o&&(s.endLine==A.line)&&!w.isEmpty&&df (w.length<20)&&aD k a N g o&&aS k es N g w
 |.call f es,N,g,h=>c8 h λf' w _=>bq f' λx=>df (x=f)&&df (f∈k.fns)&&JL g x&&bL x&&!w.isEmpty&&aS k es N g w
 |.comp n t ik src cond e,N,g,h=>match h with
  |.ListComp elt [⟨z,B,G,0⟩] scope _ =>
   df ((gq z).length=n)&&DV (gq z++hide (gq z) N) (gq z) scope g.names&&Oc t (gq z++hide (gq z) N) (ER scope g) cL (i1 n) z&&se B &&
   (match fK g z ik B with
    |some as=>aS k src N g as
    |none=>cL) &&
   df (G.length<=1)&&aS k cond (gq z++hide (gq z) N) (ER scope g) G&&aD k e (gq z++hide (gq z) N) (ER scope g) elt
  |_=>cL
noncomputable def aS(k:Ck):List E->List Str->NA->List uv->Bool
 |[],_,_,a=>a.isEmpty
 |e::es,N,b,a=>match a with
  |e'::a=>noStar e'&&aD k e N b e'&&aS k es N b a
  |[]=>cL
noncomputable def sj(k:Ck):List E->List Str->NA->Option uv->Bool
 |[],_,_,o=>o.isNone
 |[e],N,a,o=>match o with
  |some b=>aD k e N a b
  |none=>cL
 |_::_::_,_,_,_=>cL
end
noncomputable def bM:List Str:=["len","sorted","repr","max","min","all","any","list","tuple","str","int","range","enumerate","zip","reversed","set","dict","sum","isinstance","bool"]
structure BU(P:H8)(w:Kp)(K:PySem.W.Frag)(mg:Str->Option dt)(base:JN)(d:Nat)(F:List U->Option (Ex (Kd×U)))(f:Str):Prop where
 ex:∃(np:Nat) (fa:hH) (fd:R7) (ps:List Str),j6 P w K mg base K9 d fa fd ps (spT P w K F np)/\mg f=a5 (.ref fa)/\PySem.W.keepIn K (.ref fa)=cb/\Binds K fd ps []/\∀us k u,F us=a5 (.ok (k,u))->(k=.own\/k=.loc\/k=.any)/\us.length=np
structure BV(P:H8)(w:Kp)(K:PySem.W.Frag)(mg:Str->Option dt)(base:JN)(d:Nat)(F:List U->Option (Ex (Kd×U)))(f:Str)(is:List Nat):Prop where
 ex:∃(np:Nat) (fa:hH) (fd:R7) (ps:List Str),j6 P w K mg base K9 d fa fd ps (Qx P w K F np is)/\mg f=a5 (.ref fa)/\PySem.W.keepIn K (.ref fa)=cb/\Binds K fd ps []/\∀us r,F us=a5 (.ok r)->us.length=np
structure Gd(ck:Ck)(Γ:Tab)(C:Ct)(d:Nat)(X:Cx):Prop where
 P:C.P=X.prog
 w:C.w=X.w
 K:C.K=X.K
 u:X.A.units+60<Ml
 calm:X.calm=cb
 room:fX d X.A
 blt:∀x∈bM,X.mg x=b6
 fns:∀f∈ck.fns,BU X.prog X.w X.K X.mg X.base d (Γ f) f
 K7:∀p∈ck.gl,∃val v,X.mg p.1=a5 val/\RelV v val/\∀S H,Rep C S H p.2 v
 JW:∀p∈ck.JW,BV X.prog X.w X.K X.mg X.base d (Γ p.1) p.1 p.2
theorem Gd.cx(g:Gd ck Γ C d X)(N:List Str)(a:NA)(D:hH)(s:gj)(H:Hp)(ex:List hH):Gd ck Γ C d (Ja X N a D s H ex) :=
 ⟨g.P,g.w,g.K,g.u,g.calm,g.room,g.blt,g.fns,g.K7,g.JW⟩
theorem cN(h:gM a x=cb):JY a x:=by
 unfold gM at h;simp only[Lf,Ā]at h;rcases h with(h|h)|h
 ·exact .inl h
 ·exact .inr (.inl h)
 ·exact .inr (.inr h)
theorem aU(h:bL x=cb):(x==("__debug__":Str))=cL/\(x==("__classdict__":Str))=cL:=by
 unfold bL at h;simpa using h
theorem br(h:noStar e=cb):js (e::es) env=(cL,H0 e env)::js es env:=by
 cases e<;>first|rfl|cases h
theorem qt(h:dU e=cb):nS e:=by
 intro o i;cases e<;>first|rfl|cases h
theorem sk(h:se e=cb):∀x,MU e env x=pure x:=by
 intro x;cases e<;>first|rfl|cases h
theorem jM(h:oG o=cb):O2 o name env a=a:=by
 cases o with
 |Call f as ks p =>
  cases f with
  |Name x q=>cases as with
   |nil=>cases ks with
    |nil=>cases h
    |cons _ _=>rfl
   |cons _ _=>rfl
  |_=>rfl
 |_=>rfl
theorem bu(h:∀e∈es,noStar e=cb):(Kj pos (js es env)).any (·.1)=cL/\(Kj pos (js es env)).all (λx=>!x.1)=cb:=by
 induction es with
 |nil=>exact⟨rfl,rfl⟩
 |cons e es a =>
  rw[br (h e (by simp))];have:=a λb c=>h b (by simp[c]);constructor
  ·show(cL||(Kj pos (js es env)).any (·.1))=cL;rw[this.1];rfl
  ·show(!cL&&(Kj pos (js es env)).all (λx=>!x.1))=cb;rw[this.2];rfl
theorem c9(h:aS k es N c a=cb):∀e∈a,noStar e=cb:=by
 induction es generalizing a with
 |nil =>
  cases a with
  |nil=>intro e he;cases he
  |cons _ _=>simp[aS]at h
 |cons x es b =>
  cases a with
  |nil=>intro e he;cases he
  |cons d a =>
   simp only[aS,c4]at h;intro e he;rcases fR.mp he with rfl|he
   ·exact h.1.1
   ·exact b h.2 e he
theorem mV(a:fa=cb->∀x,X.fn x=cb)(h:uw X.N X.env.scope fa i e=cb):rY X e i:=by
 cases e with
 |Name x p =>
  simp only[uw,c4,Ā,oH,Lf,Gq]at h;refine⟨x,p,rfl,h.1.1,?_,?_⟩
  ·rcases h.1.2 with z|z
   ·exact .inl z
   ·exact .inr z
  ·rcases h.2 with z|z
   ·exact .inl (a z x)
   ·exact .inr z
 |_=>cases h
theorem kU(a:fa=cb->∀x,X.fn x=cb):∀{is:List Nat}{es:List uv},oI X.N X.env.scope fa is es=cb->eX X es is
 |[],[],_=>.nil
 |[],_::_,h=>by cases h
 |_::_,[],h=>by cases h
 |i::is,e::es,h=>by
  simp only[oI,c4]at h;exact .cons (mV a h.1) (kU a h.2)
theorem uB(d:X.calm=cb)(e:C.K=X.K)(a:X.N.Nodup)(b:fa=cb->∀x,X.fn x=cb)(h:Oc t X.N X.env.scope fa is c=cb):PG X c (tG C t is):=by
 cases c with
 |Name x p =>
  simp only[Oc,c4,x2]at h;obtain⟨rfl,h⟩:=h;cases is with
  |nil=>cases h
  |cons i is=>cases is with
   |nil=>exact ED a (mV b h)
   |cons _ _=>cases h
 |Tuple es k p =>
  simp only[Oc,c4,i7,Ā]at h;obtain⟨⟨rfl,f⟩,g⟩:=h;exact F6 d e a (kU b f) g
 |_=>cases h
theorem mW(a N:List Str):d4 ((a++hide a N).drop a.length) N:=by
 rw[Vx rfl];unfold hide;split
 ·exact .refl N
 ·exact(d4.refl N).set _ (.inl rfl)
 ·exact((d4.refl N).set _ (.inl rfl)).set _ (.inr rfl)
noncomputable def Bf.Yw:Bf->Bool
 |.sum=>cb
 |.len=>cb|.sorted=>cb|.repr=>cb|.max=>cb|.min=>cb|.all=>cb|.any=>cb|_=>cL
noncomputable def Bf.id:Bf->String
 |.len=>"len"|.sorted=>"sorted"|.repr=>"repr"|.max=>"max"|.min=>"min"|.all=>"all"|.any=>"any"
 |.list=>"list"|.tuple=>"tuple"|.str=>"str"|.int=>"int"
 |.dict=>"dict"
 |.sum=>"sum"
theorem BW:∀f:Bf,simple f=cb->D' f.name=a5 f.val/\f.name∈bM/\f.name≠"__name__"/\(f.name==("__debug__":Str))=cL:=by
 intro f h;cases f<;>first|exact⟨by decide +kernel,by decide +kernel,by decide +kernel,by decide +kernel⟩|(cases h;done)
theorem ES:∀f:Bf,simple f=cb->(f.val=.builtin f.id\/f.val=.type f.id):=by
 intro f h;cases f<;>first|exact .inl rfl|exact .inr rfl|(cases h;done)
theorem ET:∀f:B2,f.oB∈bM/\f.ir∈bM:=by
 intro f;cases f<;>exact⟨by decide +kernel,by decide +kernel⟩
theorem BX:∀f:Mf,ZV "str" f.name f.id/\Ã (.builtin f.id)=pure (.type "method_descriptor"):=by
 intro f;cases f with
 |split=>exact⟨PySem.F.slot_str_split,PySem.F.type_str_split⟩
 |join=>exact⟨PySem.F.slot_str_join,PySem.F.type_str_join⟩
 |partition=>exact⟨PySem.F.slot_str_partition,PySem.F.type_str_partition⟩
 |endswith=>exact⟨PySem.F.slot_str_endswith,PySem.F.type_str_endswith⟩
section
theorem dq(h:JL X.env.scope x=cb):Gl X x:=by
 unfold JL at h;show X.env.kindOf x=a5 .globalImplicit;exact of_decide_eq_true h
theorem BY:("enumerate":Str)∈bM:=by decide +kernel
theorem qu:("isinstance":Str)∈bM:=by decide +kernel
theorem yN(T:J4):T.name∈bM:=by cases T<;>decide +kernel
theorem BZ:("range":Str)∈bM:=by decide +kernel
theorem CW(g:Gd ck Γ C d X)(h:fK X.env.scope k u c=a5 as)(o:PA X as (Jr C (bK Γ src)))(r:∀a,as=[a]->∃e,src=[e]/\PE X a (HK C (ev Γ e)))(s:∀e∈as,noStar e=cb):PI X k c (Lz C u (bK Γ src)):=by
 unfold fK at h;split at h
 ·cases h;obtain⟨e,rfl,l⟩:=r _ rfl;exact EA g.K l
 ·rw[qp]at h;obtain⟨⟨x,t⟩,f,h⟩:=h;split at h
  ·rename_i m;cases h;obtain⟨i,j,hl⟩:=m
   dsimp only at i j hl
   subst i;obtain⟨p,q,rfl⟩:=fJ f;obtain⟨b,rfl⟩:=Yq.mp hl;exact BH (dq j) (g.blt _ BZ) (br (s _ (by simp))) o
  ·cases h
 ·rw[qp]at h;obtain⟨⟨x,t⟩,f,h⟩:=h;split at h
  ·rename_i m;cases h;obtain⟨i,j,hl,n⟩:=m
   dsimp only at i j hl
   subst i;obtain⟨p,q,rfl⟩:=fJ f;obtain⟨b,rfl⟩:=Yq.mp hl;cases k with
   |Tuple es v ps=>exact EB g.K (dq j) (g.blt _ BY) (br (s _ (by simp))) o
   |_=>cases n
  ·cases h
 ·rw[qp]at h;obtain⟨a,f,h⟩:=h;split at h
  ·rename_i n;cases h;obtain⟨e,rfl,l⟩:=r _ rfl;obtain⟨x,p,b,t,q,p2,w,rfl,rfl,hl⟩:=sf f;cases k with
   |Tuple es v ps=>exact EC rfl hl l
   |_=>cases n
  ·cases h
 ·cases h
theorem bA:PT X e (Jm C M.fail):=λpins s σ H Q I ⟨_,_,_,_,w⟩=>(bj.mp w).elim
theorem iY:PE X e (HK C M.fail):=λpins s σ H Q I ⟨_,_,_,_,w⟩=>(bj.mp w).elim
theorem PT.eqv(h:PT X e (Jm C m))(i:∀st Q,W a st Q->W m st Q):PT X e (Jm C a):=PT.weak h λσ H Q ⟨b,c,d,f,w⟩=>⟨b,c,d,f,i _ _ w⟩
theorem Gr(g:Gd ck Γ C d X)(b:PA X a (Jr C (bK Γ es)))
  (h:(df (x=f.name)&&simple f&&JL X.env.scope x&&!a.isEmpty&&aS ck es X.N X.env.scope a)=cb):PE X (.Call (.Name x p) a [] pos) (HK C (ev Γ (.bi f es))):=by
 simp only[c4,Ā,x2]at h;obtain⟨⟨⟨⟨rfl,c⟩,i⟩,n⟩,o⟩:=h;obtain⟨b1,j,b3,b4⟩:=BW f c;have k:=c9 o;cases a with
 |nil=>cases n
 |cons q l =>
  have st:=br (env:=X.env) (es:=l) (k q (by simp));have m:=(bu (pos:=pos) (env:=X.env) (es:=l) λe r=>k e (by simp[r])).1;rcases ES f c with hv|hv
  ·exact BB g.calm g.K g.room.gd g.u hv (dq i) (g.blt _ j) (by rw[b1,hv]) b3 b4 b st m
  ·exact BC g.calm g.K g.room.gd g.u hv (dq i) (g.blt _ j) (by rw[b1,hv]) b3 b4 b st m
theorem Gu(g:Gd ck Γ C d X)(i:PA X a (Jr C (bK Γ es)))
  (h:(df (x=f.oB)&&df (y=f.ir)&&JL X.env.scope x&&JL X.env.scope y&&!a.isEmpty&&aS ck es X.N X.env.scope a)=cb):PE X (.Call (.Name x p) [.Call (.Name y p2) a [] pos2] [] pos) (HK C (ev Γ (.LN f es))):=by
 simp only[c4,Ā,x2]at h;obtain⟨⟨⟨⟨⟨rfl,rfl⟩,j⟩,k⟩,l⟩,m⟩:=h;obtain⟨b1,n⟩:=ET f;have b:=c9 m;cases a with
 |nil=>cases l
 |cons o c =>
  have st:=br (env:=X.env) (es:=c) (b o (by simp));have q:=(bu (pos:=pos2) (env:=X.env) (es:=c) λe r=>b e (by simp[r])).1;exact BG g.calm g.K (dq j) (g.blt _ b1) (dq k) (g.blt _ n) i st q
theorem Gv(g:Gd ck Γ C d X)(l:PE X o (HK C (ev Γ a)))(n:PA X b (Jr C (bK Γ es)))
  (h:(df (name=m.name)&&oG o&&(c.endLine==i.line)&&!b.isEmpty&&df (b.length<20)&&aD ck a X.N X.env.scope o&&aS ck es X.N X.env.scope b)=cb):PE X (.Call (.Attribute o name c) b [] i) (HK C (ev Γ (.MJ m a es))):=by
 simp only[c4,Ā,x2]at h;obtain⟨⟨⟨⟨⟨⟨rfl,p⟩,q⟩,r⟩,s⟩,x⟩,t⟩:=h;have j:=c9 t;obtain⟨s1,s2⟩:=BX m;cases b with
 |nil=>cases r
 |cons k f =>
  have st:=br (env:=X.env) (es:=f) (j k (by simp));have u:=(bu (pos:=i) (env:=X.env) (es:=f) λe v=>j e (by simp[v])).1;have w:=(bu (pos:=i) (env:=X.env) (es:=k::f) j).2;refine BF g.K s1 s2 l n (jM p) ?_ q st u;rw[w];have:(k::f).length+([]:List NY).length+(if ([]:List NY).isEmpty=cb then 0 else 1)<30:=by simp at s ⊢;lia
  simp only[ă this];rfl
theorem yO(g:Gd ck Γ C d X)(i:PA X a (Jr C (bK Γ es)))
  (h:(df (x=f)&&df (f∈ck.fns)&&JL X.env.scope x&&bL x&&!a.isEmpty&&aS ck es X.N X.env.scope a)=cb):PE X (.Call (.Name x p) a [] pos) (HK C (ev Γ (.call f es))):=by
 simp only[c4,Ā,x2]at h;obtain⟨⟨⟨⟨⟨rfl,j⟩,k⟩,l⟩,m⟩,n⟩:=h;have b:=c9 n;obtain⟨z,fa,A,ps,o,q,r,s,t⟩:=(g.fns _ j).ex;cases a with
 |nil=>cases m
 |cons u c =>
  have st:=br (env:=X.env) (es:=c) (b u (by simp));have v:=(bu (pos:=pos) (env:=X.env) (es:=c) λe y=>b e (by simp[y])).1;exact yt g.P g.w g.K rfl t o g.room (dq k) q r s (aU l).1 i st v
theorem EU(g:Gd ck Γ C d X)(i:PA X a (Jr C (bK Γ es)))
  (h:(df (x=f)&&df ((f,is)∈ck.JW)&&JL X.env.scope x&&bL x&&!a.isEmpty&&aS ck es X.N X.env.scope a)=cb):PE X (.Call (.Name x p) a [] pos) (HK C (ev Γ (.HF f es is))):=by
 simp only[c4,Ā,x2]at h;obtain⟨⟨⟨⟨⟨rfl,j⟩,k⟩,l⟩,m⟩,n⟩:=h;have b:=c9 n;obtain⟨z,fa,A,ps,o,q,r,s,t⟩:=(g.JW _ j).ex;cases a with
 |nil=>cases m
 |cons u c =>
  have st:=br (env:=X.env) (es:=c) (b u (by simp));have v:=(bu (pos:=pos) (env:=X.env) (es:=c) λe y=>b e (by simp[y])).1;exact yK g.P g.w g.K rfl t o g.room (dq k) q r s (aU l).1 (BS i) st v
theorem dF(h:(b&&aS k es N a c)=cb):aS k es N a c=cb:=(u5.mp h).2
mutual
theorem bB:∀(e:E) (X:Cx) (j:uv),Gd ck Γ C d X->aD ck e X.N X.env.scope j=cb->PE X j (HK C (ev Γ e))
 |.var i,X,j,g,h=>by
  simp only[aD]at h;split at h
  ·simp only[c4,Ā]at h;obtain⟨B,G⟩:=aU h.2;exact oA h.1.1 (cN h.1.2) B G
  ·cases h
 |.cst u,X,j,g,h=>by
  simp only[aD]at h;split at h
  ·have:=cq h;subst this;exact ip w9 λ_ _=>rfl
  ·have:=cq h;subst this;exact ip xa λ_ _=>rfl
  ·have:=cq h;subst this;exact ip CI λ_ _=>rfl
  ·have:=cq h;subst this;exact ip w_ λ_ _=>rfl
  ·cases h
 |.N3 x u,X,j,g,h=>by
  simp only[aD]at h;split at h
  ·simp only[c4,Ā,Sq]at h;obtain⟨⟨⟨rfl,q⟩,J⟩,p,hp,e1,e2⟩:=h;have:=cq e2;subst this e1;obtain⟨am,v,q1,q2,q3⟩:=g.K7 p hp;exact ip (Ar (dq q) q1 q2 (aU J).1) q3
  ·cases h
 |.bin op a b,X,j,g,h=>by
  simp only[aD]at h;split at h
  ·simp only[c4,Ā]at h;obtain⟨⟨rfl,q⟩,J⟩:=h;exact Bo g.K (bB a X _ g q) (bB b X _ g J)
  ·cases h
 |.cmp op a b,X,j,g,h=>by
  simp only[aD]at h;obtain⟨a',LR,b',p0,rfl,l⟩:=gN h;have h:=l;simp only[c4,Ā,x2]at h;obtain⟨⟨⟨rfl,h0⟩,q⟩,J⟩:=h;exact Bp g.P g.w g.K g.u (bB a X _ g q) (bB b X _ g J) h0
 |.Kt o1 o2 a b c,X,j,g,h=>iY
 |.and es,X,j,g,h=>by
  simp only[aD]at h;split at h
  ·exact yP es X _ g h
  ·cases h
 |.or es,X,j,g,h=>iY
 |.not a,X,j,g,h=>by
  simp only[aD]at h;split at h
  ·exact Br (bB a X _ g h)
  ·cases h
 |.neg a,X,j,g,h=>absurd h (by simp[aD])
 |.bad,X,j,g,h=>iY
 |.pop i,X,j,g,h=>by
  simp only[aD]at h;obtain⟨o,m,L,as,F',rfl,l⟩:=bR h;obtain⟨x,px,rfl,k⟩:=ay l;simp only[c4,Ā,Of]at k;obtain⟨⟨⟨⟨⟨rfl,rfl⟩,q⟩,J⟩,B⟩,G⟩:=k;obtain⟨q1,q2⟩:=aU B;exact BQ q (cN J) q1 q2 G g.K
 |.Kv i a,X,j,g,h=>by
  simp only[aD]at h;obtain⟨o,m,L,as,F',rfl,l⟩:=bR h;obtain⟨x,px,rfl,k⟩:=ay l;obtain⟨a',rfl,O⟩:=bo k;simp only[c4,Ā]at O;obtain⟨⟨⟨⟨⟨⟨rfl,q⟩,J⟩,B⟩,G⟩,A⟩,Y⟩:=O;obtain⟨q1,q2⟩:=aU B;have sa:=bu (pos:=F') (env:=X.env) (es:=[a']) λe he=>by rw[i3.mp he];exact A
  exact yI g.K q (cN J) q1 q2 (bB a X _ g Y) (by rw[sa.2];rfl) G (br A)
 |.HF f es is,X,j,g,h=>by
  simp only[aD]at h;obtain⟨f',as,p0,rfl,l⟩:=aT h;obtain⟨x,p1,rfl,k⟩:=ay l;exact EU g (jE es X _ g (dF k)) k
 |.inD neg a i,X,j,g,h=>iY
 |.N4 i,X,j,g,h=>by
  simp only[aD]at h;split at h
  ·simp only[c4,Ā]at h;obtain⟨B,G⟩:=aU h.2;exact BK h.1.1 (cN h.1.2) B G
  ·cases h
 |.Ku i a b,X,j,g,h=>by
  simp only[aD]at h;obtain⟨o,m,L,as,F',rfl,l⟩:=bR h;obtain⟨x,px,rfl,k⟩:=ay l;split at k
  ·simp only[c4,Ā]at k;obtain⟨⟨⟨⟨⟨⟨⟨⟨rfl,q⟩,J⟩,B⟩,G⟩,A⟩,Y⟩,h7⟩,h8⟩:=k;obtain⟨q1,q2⟩:=aU B;rename_i a' b';have sa:=bu (pos:=F') (env:=X.env) (es:=[a',b']) λe he=>by
    rcases fR.mp he with rfl|he
    ·exact A
    ·simp at he;subst he;exact Y
   exact yG g.u q (cN J) q1 q2 (bB a X _ g h7) (bB b X _ g h8) ⟨rfl,by rw[sa.2];rfl,G,by rw[br A,br Y];rfl⟩
  ·cases k
 |.N5 i,X,j,g,h=>by
  simp only[aD]at h;obtain⟨f',as,_,rfl,l⟩:=aT h;obtain⟨f,_,rfl,k⟩:=ay l;obtain⟨c,rfl,O⟩:=bo k;obtain⟨o,m,L,bs,F',rfl,z4⟩:=bR O;obtain⟨x,px,rfl,z5⟩:=ay z4;simp only[c4,Ā,Of]at z5;obtain⟨⟨⟨⟨⟨⟨⟨rfl,rfl⟩,q⟩,rfl⟩,B⟩,G⟩,A⟩,Y⟩:=z5;obtain⟨q1,q2⟩:=aU A;exact BO g.calm g.K (dq q) (g.blt _ (by decide +kernel)) B (cN G) q1 q2 Y
 |.N6 ln a b,X,j,g,h=>by
  simp only[aD]at h;obtain⟨_,_,_,rfl,z0⟩:=aT h;obtain⟨_,_,rfl,l⟩:=ay z0;obtain⟨_,rfl,k⟩:=bo l;obtain⟨_,_,_,_,rfl,O⟩:=si k;obtain⟨_,_,_,rfl,z4⟩:=aT O;obtain⟨_,_,rfl,z5⟩:=ay z4;obtain⟨_,rfl,z6⟩:=bo z5;obtain⟨_,_,_,rfl,z7⟩:=aT z6;obtain⟨_,_,rfl,z8⟩:=ay z7;obtain⟨_,rfl,z9⟩:=bo z8;simp only[c4,Ā]at z9;obtain⟨⟨⟨⟨⟨⟨⟨⟨⟨rfl,rfl⟩,rfl⟩,rfl⟩,q⟩,J⟩,B⟩,G⟩,A⟩,Y⟩:=z9;exact BP (ln:=ln) g.calm g.K (dq q) (g.blt _ (by cases ln<;>decide +kernel)) (dq J) (g.blt _ (by decide +kernel)) (bB a X _ g A) (bB b X _ g Y) (br B) (br G)
 |.fst es,X,j,g,h=>iY
 |.LO a T,X,j,g,h=>by
  simp only[aD]at h;obtain⟨f',as,p0,rfl,l⟩:=aT h;obtain⟨x,p1,rfl,k⟩:=ay l;clear h l;split at k
  ·obtain⟨y,p2,rfl,O⟩:=ay k;have h:=O;simp only[c4,Ā]at h;obtain⟨⟨⟨⟨⟨rfl,rfl⟩,q⟩,J⟩,B⟩,G⟩:=h;exact ui g.K (dq q) (g.blt _ qu) (dq J) (g.blt _ (yN T)) (bB a X _ g G) (br B)
  ·cases k
 |.ite c a b,X,j,g,h=>by
  simp only[aD]at h;split at h
  ·simp only[c4]at h;exact Bs (lU c X _ g h.1.1) (bB a X _ g h.1.2) (bB b X _ g h.2)
  ·cases h
 |.tup es,X,j,g,h=>by
  simp only[aD]at h;split at h
  ·exact Bw (jE es X _ g h)
  ·cases h
 |.lst es,X,j,g,h=>by
  simp only[aD]at h;split at h
  ·exact Bx (jE es X _ g h)
  ·cases h
 |.JG r,X,j,g,h=>by
  simp only[aD]at h;split at h
  ·exact yr g.P g.w r
  ·cases h
 |.idx a b,X,j,g,h=>by
  simp only[aD]at h;split at h
  ·simp only[c4]at h;exact By g.K g.u (qt h.1.1) (bB a X _ g h.1.2) (bB b X _ g h.2)
  ·cases h
 |.KZ a lo hi,X,j,g,h=>by
  simp only[aD]at h;split at h
  ·simp only[c4]at h;exact Bz g.K (bB a X _ g h.1.1) (Gw lo X _ g h.1.2) (Gw hi X _ g h.2)
  ·cases h
 |.bi f es,X,j,g,h=>by
  simp only[aD]at h;obtain⟨f',as,p0,rfl,l⟩:=aT h;obtain⟨x,p1,rfl,k⟩:=ay l;have h:=k;exact Gr g (jE es X _ g (dF h)) h
 |.LN f es,X,j,g,h=>by
  simp only[aD]at h;obtain⟨f',as,p0,rfl,l⟩:=aT h;obtain⟨x,p1,rfl,k⟩:=ay l;obtain⟨c,rfl,O⟩:=bo k;obtain⟨g',as',p2,rfl,z4⟩:=aT O;obtain⟨y,p3,rfl,z5⟩:=ay z4;have h:=z5;exact Gu g (jE es X _ g (dF h)) h
 |.MJ m a es,X,j,g,h=>by
  simp only[aD]at h;obtain⟨o,name,L,as,F',rfl,l⟩:=bR h;have h:=l;have h':=h;simp only[c4]at h';exact Gv g (bB a X _ g h'.1.2) (jE es X _ g (dF h)) h
 |.call f es,X,j,g,h=>by
  simp only[aD]at h;obtain⟨f',as,p0,rfl,l⟩:=aT h;obtain⟨x,p1,rfl,k⟩:=ay l;have h:=k;exact yO g (jE es X _ g (dF h)) h
 |.comp n t ik src cond e,X,j,g,h=>by
  simp only[aD]at h;split at h
  ·rename_i elt tg ac ag scope _;simp only[c4,Ā]at h;obtain⟨⟨⟨⟨⟨⟨⟨q,J⟩,B⟩,G⟩,A⟩,Y⟩,h7⟩,h8⟩:=h;subst q;have S:=xE (X:=X) rfl (mW _ _) J;split at A
   ·rename_i as al;have HL:=c9 A;have hI:PI X tg ac (Lz C ik (bK Γ src)):=CW g al (jE src X _ g A) (λa e=>by
     subst e;cases src with
     |nil=>simp[aS]at A
     |cons e1 Iy =>
      cases Iy with
      |nil =>
       simp only[aS,c4]at A;exact⟨e1,rfl,bB e1 X _ g A.1.2⟩
      |cons _ _=>simp[aS]at A) HL
    exact yC S g.calm hI (λD s H ex=>uB (fa:=cL) g.calm g.K S.nd (λz=>nomatch z) B)
     (λD s H ex=>by
      cases ag with
      |nil =>
       cases cond with
       |nil=>exact λpins s σ H Q I ⟨c0,e1,e2,ok,w⟩=>tR pins s σ H Q I (by subst e1 e2;rw[show bb Γ []=pure cb from rfl,ak]at w;exact w c0 rfl rfl ok (Nx.refl c0))
       |cons _ _=>simp[aS]at h7
      |cons c1 cs =>
       cases cs with
       |nil =>
        cases cond with
        |nil=>simp[aS]at h7
        |cons e1 Iy =>
         cases Iy with
         |nil =>
          simp only[aS,c4]at h7;exact tS (lU e1 (Ja X _ scope D s H ex) c1 (g.cx _ _ _ _ _ _) h7.1.2)
         |cons _ _=>simp[aS]at h7
       |cons _ _=>simp at Y)
     (λD s H ex=>bB e (Ja X _ scope D s H ex) elt (g.cx _ _ _ _ _ _) h8) (sk G)
   ·cases A
  ·cases h
theorem jE:∀(es:List E) (X:Cx) (a:List uv),Gd ck Γ C d X->aS ck es X.N X.env.scope a=cb->PA X a (Jr C (bK Γ es))
 |[],X,a,g,h=>by
  cases a with
  |nil=>exact Bv
  |cons _ _=>simp[aS]at h
 |e::es,X,a,g,h=>by
  cases a with
  |nil=>simp[aS]at h
  |cons b a =>
   simp only[aS,c4]at h;exact yp (bB e X b g h.1.2) (jE es X a g h.2) (br h.1.1)
theorem Gw:∀(es:List E) (X:Cx) (o:Option uv),Gd ck Γ C d X->sj ck es X.N X.env.scope o=cb->PO X o (tO C (Nf Γ es))
 |[],X,o,g,h=>by
  cases o with
  |none=>exact wx
  |some _=>simp[sj]at h
 |[e],X,o,g,h=>by
  cases o with
  |none=>simp[sj]at h
  |some a=>simp only[sj]at h;exact wy (bB e X a g h)
 |_::_::_,X,o,g,h=>by simp[sj]at h
theorem yP:∀(es:List E) (X:Cx) (a:List uv),Gd ck Γ C d X->aS ck es X.N X.env.scope a=cb->∀{pos},PE X (.BoolOp .And a pos) (HK C (ig Γ es))
 |[],X,a,g,h,pos=>iY
 |[e],X,a,g,h,pos=>by
  cases a with
  |nil=>simp[aS]at h
  |cons b a =>
   cases a with
   |nil=>simp only[aS,c4]at h;exact Dn (bB e X b g h.1.2)
   |cons _ _=>simp[aS]at h
 |e::c::es,X,a,g,h,pos=>by
  cases a with
  |nil=>simp[aS]at h
  |cons b a =>
   have h':noStar b=cb/\aD ck e X.N X.env.scope b=cb/\aS ck (c::es) X.N X.env.scope a=cb:=by
    rw[aS]at h;simp only[c4]at h;exact⟨h.1.1,h.1.2,h.2⟩
   cases a with
   |nil=>have:=h'.2.2;simp[aS]at this
   |cons f i=>exact snd_and (bB e X b g h'.2.1) (yP (c::es) X _ g h'.2.2)
theorem lU:∀(e:E) (X:Cx) (j:uv),Gd ck Γ C d X->aD ck e X.N X.env.scope j=cb->PT X j (Jm C (HX Γ e))
 |.and es,X,j,g,h=>by
  simp only[aD]at h;split at h
  ·exact(uC es X _ g h).pt
  ·cases h
 |.or es,X,j,g,h=>by
  simp only[aD]at h;split at h
  ·exact(yQ es X _ g h).pt
  ·cases h
 |.not a,X,j,g,h=>by
  simp only[aD]at h;split at h
  ·exact Bt (lU a X _ g h)
  ·cases h
 |.cmp B a b,X,j,g,h=>by
  simp only[aD]at h;obtain⟨a',D,G,z,rfl,k⟩:=gN h;have h:=k;simp only[c4,Ā,x2]at h;obtain⟨⟨⟨rfl,s⟩,o⟩,p⟩:=h;exact Bq g.P g.w g.K g.u (bB a X _ g o) (bB b X _ g p) s
 |.Kt o1 o2 a b c,X,j,g,h=>by
  simp only[aD]at h;split at h
  ·simp only[c4,Ā,x2]at h;obtain⟨⟨⟨⟨⟨rfl,rfl⟩,s⟩,o⟩,p⟩,q⟩:=h;exact yo g.P g.w g.K g.u (bB a X _ g o) (bB b X _ g p) (bB c X _ g q) s
  ·cases h
 |.var i,X,j,g,h=>by
  have H:PE X j (HK C (ev Γ (.var i))):=by
   have h':=h;simp only[aD]at h';split at h'
   ·simp only[c4,Ā]at h';obtain⟨q,v⟩:=aU h'.2;exact oA h'.1.1 (cN h'.1.2) q v
   ·cases h'
  simp only[aD]at h;split at h
  ·exact jL H g.K λ_=>rfl
  ·cases h
 |.idx a b,X,j,g,h=>bA
 |.bi f es,X,j,g,h=>by
  simp only[aD]at h;obtain⟨f',as,z,rfl,k⟩:=aT h;obtain⟨x,A,rfl,l⟩:=ay k;have h:=l;refine PT.eqv (jL (Gr g (jE es X _ g (dF h)) h) g.K λ_=>rfl) λst Q w=>?_;simp only[HX,ev,af]at w ⊢;exact w
 |.LN f es,X,j,g,h=>bA
 |.MJ m a es,X,j,g,h=>bA
 |.call f es,X,j,g,h=>by
  simp only[aD]at h;obtain⟨f',as,z,rfl,k⟩:=aT h;obtain⟨x,A,rfl,l⟩:=ay k;have h:=l;refine PT.eqv (jL (yO g (jE es X _ g (dF h)) h) g.K λ_=>rfl) λst Q w=>?_;simp only[HX,ev,af]at w ⊢;exact w
 |.cst u,X,j,g,h=>bA
 |.fst es,X,j,g,h=>bA
 |.N3 x u,X,j,g,h=>bA
 |.neg a,X,j,g,h=>bA
 |.LO a T,X,j,g,h=>by
  simp only[aD]at h;obtain⟨f',as,z,rfl,k⟩:=aT h;obtain⟨x,A,rfl,l⟩:=ay k;clear h k;split at l
  ·obtain⟨y,p2,rfl,I⟩:=ay l;have h:=I;simp only[c4,Ā]at h;obtain⟨⟨⟨⟨⟨rfl,rfl⟩,o⟩,p⟩,q⟩,v⟩:=h;refine PT.eqv (jL (ui g.K (dq o) (g.blt _ qu) (dq p) (g.blt _ (yN T)) (bB a X _ g v) (br q)) g.K λ_=>rfl) λst Q w=>?_;simp only[HX,af]at w ⊢;refine W.mono w λx s1 J=>?_;obtain⟨b,e,L⟩:=bQ.mp J;exact bQ.mpr ⟨b,e,ak.mpr (bQ.mpr ⟨b,rfl,L⟩)⟩
  ·cases l
 |.bad,X,j,g,h=>bA
 |.pop i,X,j,g,h=>bA
 |.Kv i a,X,j,g,h=>bA
 |.HF f es is,X,j,g,h=>bA
 |.inD neg a i,X,j,g,h=>by
  simp only[aD]at h;obtain⟨a',D,G,z,rfl,k⟩:=gN h;obtain⟨x,A,rfl,l⟩:=ay k;have h:=l;simp only[c4,Ā,x2]at h;obtain⟨⟨⟨⟨⟨rfl,s⟩,o⟩,p⟩,q⟩,v⟩:=h;obtain⟨O,Y⟩:=aU q;exact BL g.u o (cN p) O Y (bB a X _ g v) s
 |.N4 i,X,j,g,h=>bA
 |.N6 ln a b,X,j,g,h=>bA
 |.N5 i,X,j,g,h=>bA
 |.Ku i a b,X,j,g,h=>bA
 |.bin B a b,X,j,g,h=>bA
 |.ite c a b,X,j,g,h=>bA
 |.tup es,X,j,g,h=>bA
 |.lst es,X,j,g,h=>bA
 |.JG r,X,j,g,h=>bA
 |.KZ a lo hi,X,j,g,h=>bA
 |.comp n t ik src cond e,X,j,g,h=>bA
theorem uC:∀(es:List E) (X:Cx) (a:List uv),Gd ck Γ C d X->aS ck es X.N X.env.scope a=cb->∀{pos},PW X (.BoolOp .And a pos) (Jm C (bb Γ es))
 |[],X,a,g,h,pos=>by
  cases a with
  |nil =>
   rintro j pins s σ H Q I ⟨c,rfl,rfl,i,w⟩;rw[show bb Γ []=pure cb from rfl,ak]at w;exact ý ⟨c.H,I,w c rfl rfl i (Nx.refl c)⟩
  |cons _ _=>simp[aS]at h
 |[e],X,a,g,h,pos=>by
  cases a with
  |nil=>simp[aS]at h
  |cons b a =>
   cases a with
   |nil=>simp only[aS,c4]at h;exact Au (lU e X b g h.1.2)
   |cons _ _=>simp[aS]at h
 |e::f::es,X,a,g,h,pos=>by
  cases a with
  |nil=>simp[aS]at h
  |cons b a =>
   have h':noStar b=cb/\aD ck e X.N X.env.scope b=cb/\aS ck (f::es) X.N X.env.scope a=cb:=by
    rw[aS]at h;simp only[c4]at h;exact⟨h.1.1,h.1.2,h.2⟩
   cases a with
   |nil=>have:=h'.2.2;simp[aS]at this
   |cons k l=>exact Bu (lU e X b g h'.2.1) (uC (f::es) X _ g h'.2.2)
theorem yQ:∀(es:List E) (X:Cx) (a:List uv),Gd ck Γ C d X->aS ck es X.N X.env.scope a=cb->∀{pos},PW X (.BoolOp .Or a pos) (Jm C (fG Γ es))
 |[],X,a,g,h,pos=>by
  cases a with
  |nil =>
   rintro j pins s σ H Q I ⟨c,rfl,rfl,i,w⟩;rw[show fG Γ []=pure cL from rfl,ak]at w;exact isTrue_or_nil ⟨c.H,I,w c rfl rfl i (Nx.refl c)⟩
  |cons _ _=>simp[aS]at h
 |[e],X,a,g,h,pos=>by
  cases a with
  |nil=>simp[aS]at h
  |cons b a =>
   cases a with
   |nil=>simp only[aS,c4]at h;exact Dk (lU e X b g h.1.2)
   |cons _ _=>simp[aS]at h
 |e::f::es,X,a,g,h,pos=>by
  cases a with
  |nil=>simp[aS]at h
  |cons b a =>
   have h':noStar b=cb/\aD ck e X.N X.env.scope b=cb/\aS ck (f::es) X.N X.env.scope a=cb:=by
    rw[aS]at h;simp only[c4]at h;exact⟨h.1.1,h.1.2,h.2⟩
   cases a with
   |nil=>have:=h'.2.2;simp[aS]at this
   |cons k l=>exact En (lU e X b g h'.2.1) (yQ (f::es) X _ g h'.2.2)
end
theorem Gx(g:Gd ck Γ C d X)(a:Tb e=cb)(h:aD ck e X.N X.env.scope b=cb):PE X b (wD C (ev Γ e)):=by
 cases e with
 |var i =>
  simp only[aD]at h;split at h
  ·simp only[c4,Ā]at h;obtain⟨c,f⟩:=aU h.2;exact yE h.1.1 (cN h.1.2) c f
  ·cases h
 |cst u =>
  simp only[aD]at h;split at h
  ·have:=cq h;subst this;exact iu w9 λ_ _=>rfl
  ·have:=cq h;subst this;exact iu xa λ_ _=>rfl
  ·have:=cq h;subst this;exact iu CI λ_ _=>rfl
  ·have:=cq h;subst this;exact iu w_ λ_ _=>rfl
  ·cases h
 |_=>cases a
end
noncomputable def Pl(b:NA)(x:Str)(a:Nat):uv->Bool
 |.ListComp elt gens s pos=>df (b.names.lookup x=a5 .local)&&(a==pos.line)&&!(s.names.any λ(n,k)=>n==x&&(k==.local||k==.cell))
 |_=>cL
noncomputable def qv(s:Qj)(k:uv->Bool):Bool:=match s with|.Expr e _=>k e|_=>cL
theorem gO(h:qv s k=cb):∃e p,s=.Expr e p/\k e=cb:=by
 unfold qv at h;split at h
 ·exact⟨_,_,rfl,h⟩
 ·cases h
noncomputable def uD(s:Qj)(k:uv->uv->Bool):Bool:=match s with|.Assign ts v _=>dW ts λt=>k t v|_=>cL
theorem kW(h:uD s k=cb):∃t v p,s=.Assign [t] v p/\k t v=cb:=by
 unfold uD at h;split at h
 ·obtain⟨t,rfl,a⟩:=bo h;exact⟨_,_,_,rfl,h⟩
 ·cases h
mutual
noncomputable def dO(k:Ck):S->List Str->NA->Qj->Bool
 |.set i e,N,d,s=>match s with
  |.Assign [.Name x p] v _=>df (N[i]?=a5 x)&&oH d x&&df (d.kind=.function)&&aD k e N d v&&(dz v||Pl d x p.line v||(match v with|.ListComp _ _ _ _=>cb|_=>cL))&&(match e with|.comp _ _ _ _ _ _=>cb|_=>dz v)
  |_=>cL
 |.K1 is e,N,d,s=>match s with
  |.Assign [.Tuple es u p] v _=>Oc cb N d cb is (.Tuple es u p)&&dz v&&EO v&&aD k e N d v
  |_=>cL
 |.put i a b,N,d,s=>uD s λt h=>mU t λo a'=>bq o λx=>df (N[i]?=a5 x)&&gM d x&&bL x&&dz h&&dU a'&&aD k a N d a'&&aD k b N d h
 |.app i e,N,d,s=>qv s λc=>eZ c λo m f as j=>bq o λx=>dW as λa=>df (m="append")&&df (N[i]?=a5 x)&&gM d x&&bL x&&(f.endLine==j.line)&&noStar a&&aD k e N d a
 |.ext i e,N,d,s=>qv s λc=>eZ c λo m f as j=>bq o λx=>dW as λa=>df (m="extend")&&df (N[i]?=a5 x)&&gM d x&&bL x&&(f.endLine==j.line)&&noStar a&&aD k e N d a
 |.bad,_,_,_=>cb
 |.newD i,N,d,s=>match s with
  |.Assign [.Name x p] (.Dict [] [] _) _=>df (N[i]?=a5 x)&&oH d x
  |_=>cL
 |.putD i a b,N,d,s=>uD s λt h=>mU t λo a'=>bq o λx=>df (N[i]?=a5 x)&&gM d x&&bL x&&dz h&&dU a'&&aD k a N d a'&&aD k b N d h
 |.J5 i a e,N,d,s=>qv s λc=>eZ c λo m f as j=>mU o λo' a'=>bq o' λx=>dW as λb=>df (m="append")&&df (N[i]?=a5 x)&&gM d x&&bL x&&dU a'&&(f.endLine==j.line)&&noStar b&&aD k a N d a'&&aD k e N d b&&Tb e
 |.aug sub i a e,N,d,s=>match s with
  |.AugAssign t w b _=>mU t λo a'=>bq o λx=>df (w=if sub=cb then .Sub else .Add)&&df (N[i]?=a5 x)&&gM d x&&bL x&&dU a'&&aD k a N d a'&&aD k e N d b&&Tb e
  |_=>cL
 |.Ql _,_,_,_=>cL
 |.exp e,N,d,s=>match s with
  |.Expr l _=>dz l&&aD k e N d l
  |_=>cL
 |.ret e,N,d,s=>match s with
  |.Return (a5 l) _=>aD k e N d l
  |_=>cL
 |.K2,N,d,s=>match s with
  |.Return b6 _=>cb
  |_=>cL
 |.ite c a b,N,d,s=>match s with
  |.If n a' h _=>aD k c N d n&&dG k a N d a'&&dG k b N d h
  |_=>cL
 |.Ia t is y src body,N,d,s=>match s with
  |.For r g q [] _=>Oc t N d cb is r&&se g&&(match fK d r y g with
    |some as=>aS k src N d as
    |none=>cL)&&dG k body N d q
  |_=>cL
 |.Lw c body,N,d,s=>match s with
  |.While n q [] _=>aD k c N d n&&dG k body N d q
  |_=>cL
 |.brk,_,_,s=>match s with
  |.Break _=>cb
  |_=>cL
 |.cnt,_,_,s=>match s with
  |.Continue _=>cb
  |_=>cL
 |.K3 _,_,_,_=>cL
 |.Qm,_,_,s=>match s with
  |.Pass _=>cb
  |_=>cL
noncomputable def dG(k:Ck):List S->List Str->NA->List Qj->Bool
 |[],_,_,a=>a.isEmpty
 |s::ss,N,b,a=>match a with
  |s'::a=>dO k s N b s'&&dG k ss N b a
  |[]=>cL
end
section
variable{ck:Ck}{Γ:Tab}{C:Ct}{d:Nat}{X:Cx}
theorem sm(h:oH a x=cb):Loc a x:=by
 unfold oH at h;simp only[Lf,Ā]at h;exact h
theorem iw(h:dz v=cb):QO v t a env=pure cL:=by
 cases v<;>first|rfl|cases h
theorem oJ(h:dz v=cb):Q6 [t] v a env=pure cL:=by
 rw[Q6];exact iw h
theorem B0(h:dU i=cb):∀a b new,ø i a b new=(do MR [new,a,b] (Tu a b new);V_ [new,a,b] [];pure .next):=by
 intro a b new;cases i<;>first|rfl|cases h
theorem uE(h:dU i=cb):∀v,R5 (.Subscript o i p) env v=(do
   let a <-MR [v] (H0 o env)
   let b <-MR [v,a] (H0 i env)
   Yg p
   MR [v,a,b] (Tu a b v)
   V_ [v,a,b] []):=by
 intro v;cases i<;>first|rfl|cases h
structure Gs(ck:Ck)(Γ:Tab)(C:Ct)(d:Nat)(X:Cx):Prop where
 gd:Gd ck Γ C d X
 nd:X.N.Nodup
 fn:∀x,X.fn x=cb
 po:XJ (hE X.prog X.w) X.A X.env X.xe
 kd:X.env.scope.kind=.function
theorem uF(g:Gd ck Γ C d X)(h:(match fK X.env.scope i j b with|some as=>aS ck src X.N X.env.scope as|none=>cL)=cb):PI X i b (Lz C j (bK Γ src)):=by
 split at h
 ·rename_i as c;exact CW g c (jE src X _ g h) (λa e=>by
   subst e;cases src with
   |nil=>simp[aS]at h
   |cons f k =>
    cases k with
    |nil =>
     simp only[aS,c4]at h;exact⟨f,rfl,bB f X _ g h.1.2⟩
    |cons _ _=>simp[aS]at h) (c9 h)
 ·cases h
theorem kX{pos p a:Pos}(hk:X.env.scope.kind=.function):QO (.ListComp elt gens s pos) (a5 (.Name x p)) a.line X.env=pure (Pl X.env.scope x p.line (.ListComp elt gens s pos)):=by
 have b:X.env.blockKind=.function:=by
  unfold Env.blockKind;rw[hk];rfl
 show(pure (X.env.blockKind==.function&&X.env.kindOf x==a5 .local&&p.line==pos.line&&!(s.names.any λ(n,k)=>n==x&&(k==.local||k==.cell))):Sem Bool)=_;rw[b];unfold Pl;congr 1
 have:(X.env.kindOf x==a5 NameKind.local)=df (X.env.scope.names.lookup x=a5 .local):=by
  unfold Env.kindOf;rw[Lh];simp
 rw[this];rfl
theorem EV{src cond:List E}(G:Gs ck Γ C d X)(hi:X.N[i]?=a5 x)(u:oH X.env.scope x=cb)
  (h:aD ck (.comp n t l src cond e) X.N X.env.scope (.ListComp elt [⟨m,a,b,0⟩] scope pos)=cb) (ns:Nat->Bool) (o:∀j,ns j=cb->j≠i) :
  L2.PS X (.Assign [.Name x p] (.ListComp elt [⟨m,a,b,0⟩] scope pos) KS) (IS C ns (ev Γ (.comp n t l src cond e) >>= λr=>fq i r >>= λ_=>pure .nx)):=by
 have g:=G.gd;have v:=bB (.comp n t l src cond e) X _ g h;cases f:Pl X.env.scope x p.line (.ListComp elt [⟨m,a,b,0⟩] scope pos) with
 |false=>exact CT o G.nd hi (sm u) (.inl (G.fn x)) v (by rw[kX G.kd,f])
 |true =>
  have hl:X.env.scope.names.lookup x=a5 .local:=by
   simp only[Pl,c4,Ā]at f;exact f.1.1
  simp only[aD,c4,Ā]at h;obtain⟨⟨⟨⟨⟨⟨⟨y,A⟩,B⟩,J⟩,L⟩,O⟩,c⟩,T⟩:=h;subst y;have S:=xE (X:=X) rfl (mW _ _) A;exact EH o S g.calm G.nd hi hl (uF g L) (λD s H ex=>uB (fa:=cL) g.calm g.K S.nd (λz=>nomatch z) B)
   (λD s H ex=>by
    cases b with
    |nil =>
     cases cond with
     |nil=>exact λpins s σ H Q I ⟨q,k,Y,ok,w⟩=>tR pins s σ H Q I (by subst k Y;rw[show bb Γ []=pure cb from rfl,ak]at w;exact w q rfl rfl ok (Nx.refl q))
     |cons _ _=>simp[aS]at c
    |cons c1 cs =>
     cases cs with
     |nil =>
      cases cond with
      |nil=>simp[aS]at c
      |cons k Iy =>
       cases Iy with
       |nil =>
        simp only[aS,c4]at c;exact tS (lU k (Ja X _ scope D s H ex) c1 (g.cx _ _ _ _ _ _) c.1.2)
       |cons _ _=>simp[aS]at c
     |cons _ _=>simp at O)
   (λD s H ex=>bB e (Ja X _ scope D s H ex) elt (g.cx _ _ _ _ _ _) T) (by rw[kX G.kd,f]) (sk J)
mutual
theorem HA:∀(s:S) (X:Cx) (s':Qj),Gs ck Γ C d X->dO ck s X.N X.env.scope s'=cb->L2.PS X s' (IS C (Mh s) (exec Γ s))
 |.set i e,X,s',G,h=>by
  simp only[dO]at h;split at h
  ·rename_i x p v _;simp only[c4,Ā]at h;obtain⟨⟨⟨⟨⟨g,k⟩,l⟩,f⟩,q⟩,r⟩:=h;have Ju:∀j,Mh (.set i e) j=cb->j≠i:=λj y=>by simpa[Mh] using y
   by_cases hc:dz v=cb
   ·exact CT Ju G.nd g (sm k) (.inl (G.fn x)) (bB e X v G.gd f) (iw hc)
   ·cases e with
    |comp n t ik src cond e =>
     have Tc:=f;simp only[aD]at Tc;split at Tc
     ·exact EV G g k f _ Ju
     ·cases Tc
    |_=>exact absurd r hc
  ·cases h
 |.K1 is e,X,s',G,h=>by
  simp only[dO]at h;split at h
  ·simp only[c4]at h;obtain⟨⟨⟨g,k⟩,l⟩,f⟩:=h;rename_i es kk p v _;refine EI (λj y=>by simpa[Mh] using y) (bB e X v G.gd f) (uB (fa:=cb) G.gd.calm G.gd.K G.nd (λ_=>G.fn) g) (oJ k) ?_ rfl;cases v<;>first|rfl|cases l
  ·cases h
 |.put i a b,X,s',G,h=>by
  simp only[dO]at h;obtain⟨t,v,p,rfl,B⟩:=kW h;obtain⟨o,a',p1,rfl,A⟩:=e_ B;obtain⟨x,px,rfl,J⟩:=ay A;simp only[c4,Ā]at J;obtain⟨⟨⟨⟨⟨⟨g,k⟩,l⟩,f⟩,q⟩,r⟩,Y⟩:=J;obtain⟨L,O⟩:=aU l;exact Gk G.gd.P G.gd.w G.gd.K G.gd.u g (cN k) L O (bB b X _ G.gd Y) (bB a X _ G.gd r) (oJ f) rfl (uE q)
 |.app i e,X,s',G,h=>by
  simp only[dO]at h;obtain⟨c,p0,rfl,B⟩:=gO h;obtain⟨o,m,Q,as,F',rfl,A⟩:=bR B;obtain⟨x,px,rfl,J⟩:=ay A;obtain⟨a,rfl,z4⟩:=bo J;simp only[c4,Ā]at z4;obtain⟨⟨⟨⟨⟨⟨rfl,g⟩,k⟩,l⟩,f⟩,q⟩,r⟩:=z4;obtain⟨L,O⟩:=aU l;have st:=br (env:=X.env) (es:=[]) q;have sa:=(bu (pos:=F') (env:=X.env) (es:=[a]) λe T=>by simp at T;subst T;exact q).2;refine Gi G.gd.K g (cN k) L O (bB e X _ G.gd r) ?_ f st;rw[sa];rfl
 |.ext i e,X,s',G,h=>by
  simp only[dO]at h;obtain⟨c,p0,rfl,B⟩:=gO h;obtain⟨o,m,Q,as,F',rfl,A⟩:=bR B;obtain⟨x,px,rfl,J⟩:=ay A;obtain⟨a,rfl,z4⟩:=bo J;simp only[c4,Ā]at z4;obtain⟨⟨⟨⟨⟨⟨rfl,g⟩,k⟩,l⟩,f⟩,q⟩,r⟩:=z4;obtain⟨L,O⟩:=aU l;have st:=br (env:=X.env) (es:=[]) q;have sa:=(bu (pos:=F') (env:=X.env) (es:=[a]) λe T=>by simp at T;subst T;exact q).2;refine Gj G.gd.K g (cN k) L O (bB e X _ G.gd r) ?_ f st;rw[sa];rfl
 |.bad,X,s',G,h=>λpins sh σ H D I ⟨_,_,_,_,w⟩=>(bj.mp w).elim
 |.newD i,X,s',G,h=>by
  simp only[dO]at h;split at h
  ·simp only[c4,Ā]at h;exact EK (λj y=>by simpa[Mh] using y) G.nd h.1 (sm h.2) (.inl (G.fn _)) (iw rfl)
  ·cases h
 |.putD i a b,X,s',G,h=>by
  simp only[dO]at h;obtain⟨t,v,p,rfl,B⟩:=kW h;obtain⟨o,a',p1,rfl,A⟩:=e_ B;obtain⟨x,px,rfl,J⟩:=ay A;simp only[c4,Ā]at J;obtain⟨⟨⟨⟨⟨⟨g,k⟩,l⟩,f⟩,q⟩,r⟩,Y⟩:=J;obtain⟨L,O⟩:=aU l;exact EL G.gd.u g (cN k) L O (bB b X _ G.gd Y) (bB a X _ G.gd r) (oJ f) rfl (uE q)
 |.J5 i a e,X,s',G,h=>by
  simp only[dO]at h;obtain⟨c,p0,rfl,B⟩:=gO h;obtain⟨o,m,Q,as,F',rfl,A⟩:=bR B;obtain⟨o',a',p1,rfl,J⟩:=e_ A;obtain⟨x,px,rfl,z4⟩:=ay J;obtain⟨b,rfl,z5⟩:=bo z4;simp only[c4,Ā]at z5;obtain⟨⟨⟨⟨⟨⟨⟨⟨⟨rfl,g⟩,k⟩,l⟩,f⟩,q⟩,r⟩,Y⟩,h8⟩,h9⟩:=z5;have ha:=Gx (C:=C) (Γ:=Γ) (d:=d) (ck:=ck) G.gd h9 h8;obtain⟨L,O⟩:=aU l;have st:=br (env:=X.env) (es:=[]) r;have sa:=(bu (pos:=F') (env:=X.env) (es:=[b]) λe T=>by simp at T;subst T;exact r).2;refine EM G.gd.K G.gd.u g (cN k) L O ha (bB a X _ G.gd Y) (qt f) ?_ q st;rw[sa];rfl
 |.aug sub i a e,X,s',G,h=>by
  simp only[dO]at h;split at h
  ·obtain⟨o,a',p1,rfl,B⟩:=e_ h;obtain⟨x,px,rfl,A⟩:=ay B;simp only[c4,Ā]at A;obtain⟨⟨⟨⟨⟨⟨⟨rfl,g⟩,k⟩,l⟩,f⟩,q⟩,r⟩,Y⟩:=A;have ha:=Gx (C:=C) (Γ:=Γ) (d:=d) (ck:=ck) G.gd Y r;obtain⟨L,O⟩:=aU l;exact Gn g (cN k) L O ha (bB a X _ G.gd q) (B0 f)
  ·cases h
 |.Ql i,X,s',G,h=>absurd h (by simp[dO])
 |.exp e,X,s',G,h=>by
  simp only[dO]at h;split at h
  ·simp only[c4]at h;exact Gb (bB e X _ G.gd h.2) (iw h.1)
  ·cases h
 |.ret e,X,s',G,h=>by
  simp only[dO]at h;split at h
  ·exact Ge (bB e X _ G.gd h)
  ·cases h
 |.K2,X,s',G,h=>by
  simp only[dO]at h;split at h
  ·exact EG
  ·cases h
 |.ite c a b,X,s',G,h=>by
  simp only[dO]at h;split at h
  ·simp only[c4]at h;have ha:=kY a X _ G h.1.2;have hb:=kY b X _ G h.2;exact Gf (lU c X _ G.gd h.1.1) (Je.weak ha λD σ H z=>oF (λj y=>by simp only[Mh,c4]at y;exact y.1) z) (Je.weak hb λD σ H z=>oF (λj y=>by simp only[Mh,c4]at y;exact y.2) z)
  ·cases h
 |.Ia t is ik src body,X,s',G,h=>by
  simp only[dO]at h;split at h
  ·rename_i tg ac KQ _;rw[c4,c4,c4]at h;exact Gh G.po G.gd.calm (uF G.gd h.1.2) (uB (fa:=cb) G.gd.calm G.gd.K G.nd (λ_=>G.fn) h.1.1.1) (kY body X _ G h.2) (sk h.1.1.2) λj y=>by simpa[Mh] using y
  ·cases h
 |.Lw c body,X,s',G,h=>by
  simp only[dO]at h;split at h
  ·simp only[c4]at h;exact Gg G.po (lU c X _ G.gd h.1) (kY body X _ G h.2)
  ·cases h
 |.brk,X,s',G,h=>by
  simp only[dO]at h;split at h
  ·exact F9
  ·cases h
 |.cnt,X,s',G,h=>by
  simp only[dO]at h;split at h
  ·exact F_
  ·cases h
 |.K3 is,X,s',G,h=>by simp[dO]at h
 |.Qm,X,s',G,h=>by
  simp only[dO]at h;split at h
  ·exact Ga
  ·cases h
theorem kY:∀(ss:List S) (X:Cx) (a:List Qj),Gs ck Γ C d X->dG ck ss X.N X.env.scope a=cb->Je X a (IS C (Kw ss) (execs Γ ss))
 |[],X,a,G,h=>by
  cases a with
  |nil=>exact F8
  |cons _ _=>simp[dG]at h
 |s::ss,X,a,G,h=>by
  cases a with
  |nil=>simp[dG]at h
  |cons s' a =>
   simp only[dG,c4]at h;have c:=HA s X s' G h.1;have e:=kY ss X a G h.2;exact EF (PS.weak c λD σ H z=>oF (λj b=>by simp only[Kw,c4]at b;exact b.1) z) (Je.weak e λD σ H z=>oF (λj b=>by simp only[Kw,c4]at b;exact b.2) z)
end
end
section
variable{ck:Ck}{Γ:Tab}{d:Nat}{P:H8}{w:Kp}{K:PySem.W.Frag}{mg:Str->Option dt}{base:JN}
theorem iZ{n i:Nat}(h:(start us n)[i]?=a5 (a5 (k,u))):us[i]?=a5 u/\k=if H_ u=cb then .loc else .any:=by
 unfold start at h;by_cases hi:i<us.length
 ·rw[x3 (by simpa using hi),ki]at h;rw[oT hi]at h ⊢;simp only[Sv,QG,WT]at h;obtain⟨a,b⟩:=h;subst b;exact⟨rfl,a.symm⟩
 ·rw[q9 (by simp;lia),KX]at h;split at h<;>cases h
theorem c_{i:Nat}(h:vs[i]?=a5 v):(L2.start N vs)[i]?=a5 (a5 v):=by
 unfold L2.start;have hi:i<vs.length:=(dV.mp h).1;rw[x3 (by simpa using hi),ki,h];rfl
theorem yR(p:∀a,c a->Ki H a)(h:aj (LQ P w K H c) c H us vs)(q:N.length=n):Ok (LQ P w K H c) ⟨λ_=>False,H,L2.start N vs,start us n,λ_=>[]⟩:=by
 have f:∀(j:Nat) (u:U),(start us n)[j]?≠a5 (a5 (.G',u)):=λj u e=>by
  have:=(iZ e).2;split at this<;>cases this
 refine⟨λa o e _=>e,λa z=>z.elim,λa z=>⟨p a z,λz=>z⟩,λa z=>z.elim,?_,λi k u e=>?_,λi j k k' u u' r hk t g m x y=>?_,⟨λj u r e _=>(f j u e).elim,λi j a ⟨u,_,e,_⟩=>(f i u e).elim,λj a ⟨u,_,e,_⟩=>(f j u e).elim⟩⟩
 ·have:=h.len;simp[start,L2.start,q];lia
 ·obtain⟨g,m⟩:=iZ e;obtain⟨v,ev,b⟩:=h.get g;refine⟨v,c_ ev,?_⟩;subst m;by_cases l:H_ u=cb
  ·rw[ÿ l];exact Rep.H_ l b
  ·rw[ā l];exact Rep.mv (.up λa z=>.inl z) b
 ·obtain⟨_,s⟩:=iZ g;subst s;split at hk<;>cases hk
theorem oK(h:cR Γ fn us=a5 (.ok (k,u))):us.length=fn.np/\((k=.own\/k=.loc\/k=.any)/\(∃st',execs Γ fn.body (start us fn.ns)=a5 (.ok (.rt k u),st'))\/(k=.loc/\u=.HH/\∃st',execs Γ fn.body (start us fn.ns)=a5 (.ok .nx,st'))):=by
 unfold cR at h;split at h
 ·rename_i hl;refine⟨hl,?_⟩;split at h
  ·rename_i e;cases h;exact .inl ⟨.inl rfl,_,e⟩
  ·rename_i e;cases h;exact .inl ⟨.inr (.inl rfl),_,e⟩
  ·rename_i e;cases h;exact .inl ⟨.inr (.inr rfl),_,e⟩
  ·rename_i e;cases h;exact .inr ⟨rfl,rfl,_,e⟩
  ·cases h
  ·cases h
 ·cases h
theorem CY{st:Qj}(F:Mx K fn.name i st f J)(S:dQ N ps (aQ st))(L:N.length=fn.ns)(O:ps.length=fn.np)
  (T:dG ck fn.body N (aQ st) (cS st)=cb) (q:∀x∈bM,mg x=b6) (t:∀g∈ck.fns,BU P w K mg base d (Γ g) g)
  (Y:∀p∈ck.gl,∃b v,mg p.1=a5 b/\RelV v b/\∀(C:Ct) S H,Rep C S H p.2 v) (JW:∀p∈ck.JW,BV P w K mg base d (Γ p.1) p.1 p.2):j6 P w K mg base K9 (d+1) f J ps (spT P w K (cR Γ fn) fn.np):=by
 refine F.ok S (λvs H Q E h=>h.1.trans O.symm) (λB A outer s H vs Q E D h=>?_);obtain⟨hl,us,k,u,m,IA,hk,Xu,y,j⟩:=h;have N9:=D.un;have G:Gs ck Γ (LQ P w K H m) d (pJ K9 P w K mg base N i (aQ st) f B A outer s H E).NI :=
  ⟨⟨rfl,rfl,rfl,by show(A.deeper (T_ i (aQ st) s.heap.objs.size f B)).units+60<Ml;lia,rfl,D,q,t,λp hp=>let ⟨b,v,q1,q2,q3⟩:=Y p hp;⟨b,v,q1,q2,q3 _⟩,JW⟩,S.nd,λ_=>rfl,YU,S.kind⟩
 refine⟨_,kY fn.body _ _ G T,⟨λ_=>False,H,L2.start N vs,start us fn.ns,λ_=>[]⟩,rfl,rfl,yR Xu y L,?_⟩;obtain⟨_,Td⟩:=oK IA;have I:∀(c:Cf),Ok (LQ P w K H m) c->∀v,EE (LQ P w K H m) c k u v->Back (LQ P w K H m) H c.H c.S k u v:=λc l v r=>by
  refine⟨λa o e=>l.same a o e λz=>z,λa z=>l.JS a z,λe=>?_,λe=>?_,λe=>?_⟩
  ·subst e;obtain⟨r0,e,h1,h2,h3,h4⟩:=r;exact⟨r0,e,h1,h2,h4⟩
  ·subst e;exact r
  ·subst e;exact r
 rcases Td with⟨_,st',e⟩|⟨rfl,rfl,st',e⟩
 ·exact⟨_,st',e,λc ec l n kp v r=>j v c.H c.S (I c l v r)⟩
 ·exact⟨_,st',e,λc ec l n kp=>j .HH c.H c.S (I c l .HH rfl)⟩
theorem gP(h:(cM is us n)[i]?=a5 (a5 (k,u))):us[i]?=a5 u/\k=if i∈is then .io else if H_ u=cb then .loc else .any:=by
 unfold cM at h;by_cases hi:i<us.length
 ·rw[x3 (by simpa using hi),ki,Ts]at h;rw[oT hi]at h ⊢;simp only[Sv,QG,WT,Oj]at h;obtain⟨a,b⟩:=h;subst b;exact⟨rfl,a.symm⟩
 ·rw[q9 (by simp;lia),KX]at h;split at h<;>cases h
theorem wH(a:EN C C.H₀ is us vs)(s:N.length=n):Ok C ⟨λ_=>False,C.H₀,L2.start N vs,cM is us n,λ_=>[]⟩:=by
 have g:∀(j:Nat) (u:U),(cM is us n)[j]?≠a5 (a5 (.G',u)):=λj u e=>by
  have:=(gP e).2;split at this
  ·cases this
  ·split at this<;>cases this
 have rt:∀(j:Nat) (k:Kd) (u:U),k.root=cb->(cM is us n)[j]?=a5 (a5 (k,u))->j∈is/\us[j]?=a5 u:=λj k u hk e=>by
  obtain⟨f,b⟩:=gP e;refine⟨?_,f⟩;by_cases z:j∈is
  ·exact z
  ·rw[ā z]at b;subst b;split at hk<;>cases hk
 refine⟨λa o e _=>e,λa z=>z.elim,λx z=>a.par x z,λx z=>⟨a.UY x z,a.UY x z⟩,?_,λi k u e=>?_,λi j k k' u u' r hk t f b l m=>?_,⟨λj u r e _=>(g j u e).elim,λi j a ⟨u,_,e,_⟩=>(g i u e).elim,λj a ⟨u,_,e,_⟩=>(g j u e).elim⟩⟩
 ·have:=a.len;simp[cM,L2.start,s];lia
 ·obtain⟨f,b⟩:=gP e;by_cases z:i∈is
  ·rw[ÿ z]at b;subst b;obtain⟨r,b1,c,b3⟩:=a.io i u z f;exact⟨_,c_ b1,r,rfl,λz=>z,λz=>(a.par r z).2 c,c,b3⟩
  ·rw[ā z]at b;obtain⟨v,b1,c⟩:=a.any i u z f;refine⟨v,c_ b1,?_⟩;subst b;by_cases h:H_ u=cb
   ·rw[ÿ h];exact Rep.H_ h c
   ·rw[ā h];exact Rep.mv (.up λa z=>.inl z) c
 ·obtain⟨p,y⟩:=rt i k u hk f;obtain⟨q,A⟩:=rt j k' u' t b;obtain⟨B,b1,_⟩:=a.io i u p y;obtain⟨D,c,_⟩:=a.io j u' q A;rw[c_ b1]at l;rw[c_ c]at m;cases l;cases m;exact a.inj i j _ p q b1 c
theorem uG:∀{is:List Nat}{st:aw}{ws:List U},Ng is st=a5 ws->ws.length=is.length/\∀(n i:Nat),is[n]?=a5 i->∃w,ws[n]?=a5 w/\st[i]?=a5 (a5 (.io,w))
 |[],_,_,h=>by cases h;exact⟨rfl,λn i e=>by simp at e⟩
 |i::is,st,ws,h=>by
  unfold Ng at h;split at h
  ·rename_i u c;rw[fS]at h;obtain⟨k,h,rfl⟩:=h;obtain⟨a,b⟩:=uG h;refine⟨by simp[a],λn j e=>?_⟩;cases n with
   |zero=>simp at e;subst e;exact⟨u,rfl,c⟩
   |succ n=>obtain⟨w,f,g⟩:=b n j (by simpa using e);exact⟨w,by simpa using f,g⟩
  ·cases h
theorem uH(h:ft Γ fn is body us=a5 (.ok r)):us.length=fn.np/\∃f st k u ws,execs Γ body (cM is us fn.ns)=a5 (.ok f,st)/\Qn f=a5 (k,u)/\Ng is st=a5 ws/\r=(k,.tup (u::ws)):=by
 unfold ft at h;split at h
 ·rename_i hl;refine⟨hl,?_⟩;split at h
  ·rename_i f st e;obtain⟨⟨k,u⟩,a,h⟩:=qp.mp h;rw[fS]at h;obtain⟨ws,b,c⟩:=h;cases c;exact⟨f,st,k,u,ws,e,a,b,rfl⟩
  ·cases h
 ·cases h
theorem EW{st:Qj}(F:Mx K fn.name j st f fd)(S:dQ N ps (aQ st))(hN:N.length=fn.ns)(Kg:ps.length=fn.np)(Ju:∀i∈is,Kw body i=cb)
  (Nw:dG ck body N (aQ st) (cS st)=cb) (B:∀x∈bM,mg x=b6) (D:∀g∈ck.fns,BU P w K mg base d (Γ g) g)
  (K7:∀p∈ck.gl,∃b v,mg p.1=a5 b/\RelV v b/\∀(C:Ct) S H,Rep C S H p.2 v) (JW:∀p∈ck.JW,BV P w K mg base d (Γ p.1) p.1 p.2):j6 P w K mg base K9 (d+1) f fd ps (Qx P w K (ft Γ fn is body) fn.np is):=by
 refine F.ok S (λvs H Q E h=>h.1.trans Kg.symm) (λL A outer s H vs Q E O h=>?_);obtain⟨hl,us,k,u,ws,o,IO,IA,hk,I,l⟩:=h;have N9:=O.un;have G:Gs ck Γ (LC P w K H o IO) d (pJ K9 P w K mg base N j (aQ st) f L A outer s H E).NI :=
  ⟨⟨rfl,rfl,rfl,by show(A.deeper (T_ j (aQ st) s.heap.objs.size f L)).units+60<Ml;lia,rfl,O,B,D,λp hp=>let ⟨b,v,q1,q2,q3⟩:=K7 p hp;⟨b,v,q1,q2,q3 _⟩,JW⟩,S.nd,λ_=>rfl,YU,S.kind⟩
 refine⟨_,kY body _ _ G Nw,⟨λ_=>False,H,L2.start N vs,cM is us fn.ns,λ_=>[]⟩,rfl,rfl,wH (C:=LC P w K H o IO) I hN,?_⟩;obtain⟨_,T,st',k',u',LP,e,q,e2,e3⟩:=uH IA;cases e3;obtain⟨l1,l2⟩:=uG e2;have Y:∀(c:Cf),c.st=st'->Ok (LC P w K H o IO) c->Kept (Kw body) ⟨λ_=>False,H,L2.start N vs,cM is us fn.ns,λ_=>[]⟩ c->∀v,EE (LC P w K H o IO) c k u v->CV (LC P w K H o IO) H c.H c.S is vs ws k u v:=λc t m y v r=>by
  refine⟨m.same,λa z=>m.JS a z,λe=>?_,λe=>?_,l1,λn i r w g1 g2 g3=>?_⟩
  ·subst e;obtain⟨r0,e,h1,h2,h3,h4⟩:=r;exact⟨r0,e,h1,h2,h4⟩
  ·subst e;exact r
  ·obtain⟨w',z1,z2⟩:=l2 n i g1;rw[g3]at z1;cases z1;rw[<-t]at z2;obtain⟨v',J,r',y2,_,_,_,y3⟩:=m.sl i _ _ z2;have hi:i∈is:=lg g1;rw[y.1 i (Ju i hi)]at J;rw[show(L2.start N vs)[i]?=a5 (a5 (.ref r)) from c_ g2]at J;cases J;cases y2;exact y3
 refine⟨T,st',e,λc t m n y=>?_⟩;cases T with
 |nx=>cases q;exact l .HH c.H c.S (Y c t m y .HH rfl)
 |rt k0 u0=>cases k0<;>first|(cases q;done)|(cases q;exact λv r=>l v c.H c.S (Y c t m y v r))
 |_=>cases q
noncomputable def Fn.bd(fn:Fn):List S:=match fn.io with|some (_,b)=>b|none=>fn.body
noncomputable def Qz(fn:Fn):Bool:=match fn.io with|some (is,b)=>is.all λi=>Kw b i|none=>cb
noncomputable def QA(ck:Ck)(Pg:List Fn):Bool:=ck.fns.all (λg=>Pg.any λfn=>df (fn.name=g)&&fn.io.isNone)&&ck.JW.all λp=>Pg.any λfn=>df (fn.name=p.1)&&df (fn.io.map (·.1)=a5 p.2)
structure Ld(ck:Ck)(K:PySem.W.Frag)(mg:Str->Option dt)(fn:Fn):Prop where
 ex:∃(qual:Str) (st:Qj) (f:hH) (fd:R7) (N ps:List Str),Mx K fn.name qual st f fd/\mg fn.name=a5 (.ref f)/\Binds K fd ps []/\dQ N ps (aQ st)/\N.length=fn.ns/\ps.length=fn.np/\dG ck fn.bd N (aQ st) (cS st)=cb/\Qz fn=cb
theorem B1{Pg:List Fn}(a:(Pg.map (·.name)).Nodup)(h:fn∈Pg):Pg.find? (λg=>df (g.name=fn.name))=a5 fn:=by
 induction Pg with
 |nil=>cases h
 |cons g Pg b =>
  rw[ez,mA]at a;rcases fR.mp h with rfl|h
  ·simp
  ·rw[M'];have:df (g.name=fn.name)=cL:=by
    apply Ă;intro z;exact a.1 (z▸QV h)
   rw[this];exact b a.2 h
theorem so(a:(Pg.map (·.name)).Nodup)(h:fn∈Pg):HW Pg (d+1) fn.name=iV (HW Pg d) fn:=by
 funext us
 show(match Pg.find? λg=>df (g.name=fn.name) with|some fn=>iV (HW Pg d) fn us|none=>b6)=_;rw[B1 a h]
theorem mX(h:fn.io=b6):iV Γ fn=cR Γ fn:=by funext us;unfold iV;rw[h]
theorem wI(h:fn.io=a5 (is,b)):iV Γ fn=ft Γ fn is b:=by funext us;unfold iV;rw[h]
theorem uI(O:(Pg.map (·.name)).Nodup)(o:QA ck Pg=cb)(q:∀x∈bM,mg x=b6)(T:∀p∈ck.gl,∃t v,mg p.1=a5 t/\RelV v t/\∀(C:Ct) S H,Rep C S H p.2 v)
  (ld:∀fn∈Pg,Ld ck K mg fn):∀d,(∀g∈ck.fns,BU P w K mg base d (HW Pg d g) g)/\∀p∈ck.JW,BV P w K mg base d (HW Pg d p.1) p.1 p.2:=by
 simp only[QA,c4,i7,Sq,Ā]at o;intro d;induction d with
 |zero =>
  refine⟨λg I=>?_,λp J=>?_⟩
  ·obtain⟨fn,i,rfl,_⟩:=o.1 g I;obtain⟨a,st,f,j,N,ps,F,l,m,S,B,n,_⟩:=(ld fn i).ex;exact⟨fn.np,f,j,ps,⟨λvs H Q E h=>h.1.trans n.symm,λA outer s H args us vs Q E _ _ _ _ h=>by obtain⟨_,us,k,u,_,e,_⟩:=h;cases e⟩,l,F.kp,m,λus k u e=>by cases e⟩
  ·obtain⟨fn,i,e,_⟩:=o.2 p J;obtain⟨a,st,f,j,N,ps,F,l,m,S,B,n,_⟩:=(ld fn i).ex;exact⟨fn.np,f,j,ps,⟨λvs H Q E h=>h.1.trans n.symm,λA outer s H args us vs Q E _ _ _ _ h=>by obtain⟨_,us,k,u,_,_,_,e,_⟩:=h;cases e⟩,e▸l,F.kp,m,λus k e=>by cases e⟩
 |succ d G =>
  refine⟨λg I=>?_,λp J=>?_⟩
  ·obtain⟨fn,i,rfl,c⟩:=o.1 g I;rw[WU]at c;obtain⟨a,st,f,j,N,ps,F,l,m,S,B,n,D,_⟩:=(ld fn i).ex;rw[so O i,mX c];rw[show fn.bd=fn.body by unfold Fn.bd;rw[c]]at D;refine⟨fn.np,f,j,ps,CY F S B n D q G.1 T G.2,l,F.kp,m,λus k u e=>?_⟩;obtain⟨h1,h2⟩:=oK e;refine⟨?_,h1⟩;rcases h2 with⟨z,_⟩|⟨z,_⟩
   ·exact z
   ·exact .inr (.inl z)
  ·obtain⟨fn,i,e,c⟩:=o.2 p J;rw[fS]at c;obtain⟨⟨is,b⟩,c,Y⟩:=c;obtain⟨x,y⟩:=p
   dsimp only at e Y
   subst e Y;obtain⟨a,st,f,j,N,ps,F,l,m,S,B,n,D,L⟩:=(ld fn i).ex;rw[so O i,wI c];rw[show fn.bd=b by unfold Fn.bd;rw[c]]at D;unfold Qz at L;rw[c]at L;exact⟨fn.np,f,j,ps,EW F S B n (i7.mp L) D q G.1 T G.2,l,F.kp,m,λus r e=>(uH e).1⟩
end
noncomputable def su(ns:List Int):U:=.lst (ns.map .int)
theorem mY{S:hH->Prop}:∀(ns:List Int),aj C S H (ns.map .int) (ns.map V.int)
 |[]=>rfl
 |n::ns=>⟨_,_,rfl,rfl,mY ns⟩
theorem sv(h:Ij C.K H a (ns.map V.int)):Rep C (Ki H) H (su ns) (.ref a):=by
 refine⟨a,_,rfl,?_,mY ns⟩;rcases h with(h|⟨o,h⟩)|h
 ·exact .inl ⟨⟨_,h⟩,.inl h⟩
 ·exact .inl ⟨⟨_,h⟩,.inr ⟨o,h⟩⟩
 ·exact .inr h
theorem qw:∀{l:List α},(∀a∈l,f a=g a)->l.filterMap f=l.filterMap g
 |[],_=>rfl
 |a::l,h=>by rw[MW,MW,h a (by simp),qw λb c=>h b (by simp[c])]
theorem uJ:∀(l:List Str) (us:List dt),l.Nodup->us.length=l.length->l.filterMap (λn=>((l.zip us).lookup n).map (n,·))=l.zip us
 |[],_,_,_=>rfl
 |a::l,[],_,h=>nomatch h
 |a::l,u::us,b,h=>by
  rw[mA]at b;have c:=uJ l us b.2 (by simpa using h);simp only[OU,MW,t4,beq_self_eq_true,Sv];congr 1
  conv=>rhs;rw[<-c]
  refine qw λn d=>?_;have:(n==a)=cL:=by
   rw[beq_eq_false_iff_ne];rintro rfl;exact b.1 d
  rw[this]
theorem yS(l:List Str)(us:List dt)(h:us.length=l.length):l.filter (λn=>((l.zip us).lookup n).isNone)=[]:=by
 rw[Yr];intro n hn;induction l generalizing us with
 |nil=>cases hn
 |cons a l b =>
  cases us with
  |nil=>cases h
  |cons u us =>
   simp only[OU,t4];cases e:n==a with
   |true=>simp
   |false =>
    rcases fR.mp hn with rfl|hn
    ·simp at e
    ·exact b us (by simpa using h) hn
theorem yT{kV a b c ct:dt}(d:(as.map (·.arg)).Nodup)(hl:us.length=(as.map (·.arg)).length):
  ZS (PySem.W.fnOf x q ⟨[],as,b6,[],[],b6,[]⟩ body scope .none kV a b g c ct) ⟨us,[]⟩=pure ((as.map (·.arg)).zip us):=by
 have e:=uJ _ us d hl;have f:=yS _ us hl;have hs:XC l0=pure b6:=rfl;simp only[ZS,PySem.W.fnOf,Km,mn,uk,hs,pure_bind,U7,SH,ç,List.drop_nil,List.zip_nil_right,Xx,e];rw[ā (by simp[hl])];rw[cc,I0 (by simp),f];rfl
structure Me where
 fn:Fn
 i:Nat
 N:List Str
 a:hH
 c:hH
 m:dt
 cr:Obj
noncomputable def Me.fd(top:Nat->Qj)(m:Me):R7:=PySem.W.fnOf m.fn.name m.fn.name (fM (top m.i)) (cS (top m.i)) (aQ (top m.i)) .none .none .none m.m b6 (.ref m.c) .none
noncomputable def Me.fo(top:Nat->Qj)(m:Me):Obj:=⟨.type "function",b6,.func (m.fd top),#[]⟩
noncomputable def adr(ms:List Me):List hH:=3::ms.flatMap λm=>[m.c,m.a]
noncomputable def Ky(top:Nat->Qj)(g:Obj)(ms:List Me):PySem.W.Frag:=(3,g)::ms.flatMap λm=>[(m.c,m.cr),(m.a,m.fo top)]
theorem uK(top:Nat->Qj)(g:Obj)(ms:List Me):adr ms=(Ky top g ms).map (·.1):=by
 unfold adr Ky;rw[ez,List.map_flatMap];rfl
noncomputable def EX(v:Option (Option dt))(a:hH):Bool:=match v with|some (a5 (.ref b))=>df (b=a)|_=>cL
theorem B3(h:EX v a=cb):v=a5 (a5 (.ref a)):=by
 unfold EX at h;split at h
 ·rw[of_decide_eq_true h]
 ·cases h
noncomputable def nn(o:Option (Option dt)):Bool:=match o with|some b6=>cb|_=>cL
theorem Gy(h:nn o=cb):o=a5 b6:=by
 unfold nn at h;split at h
 ·rfl
 ·cases h
noncomputable def Gz(p:Arguments)(ps:List Str):Bool:=p.posonlyargs.isEmpty&&p.vararg.isNone&&p.kwonlyargs.isEmpty&&p.kw_defaults.isEmpty&&p.kwarg.isNone&&p.defaults.isEmpty&&df (p.args.map (·.arg)=ps)
noncomputable def U3(N:List Str)(b:Nat)(a:NA):Bool:=df (a.kind=.function)&&df (a.isCoroutine=cL)&&df (a.isGenerator=cL)&&decide N.Nodup&&(N.take b).all (oH a)&&a.names.all (λy=>df (y.2≠.free))
noncomputable def U4(ck:Ck)(top:Nat->Qj)(K:PySem.W.Frag)(m:Me):Bool:=PySem.W.codeIn K (.ref m.c) m.fn.name&&PySem.W.keepIn K (.ref m.a)&&EX (PySem.W.nsIn K J' m.fn.name) m.a&&Gz (fM (top m.i)) (m.N.take m.fn.np) &&
 U3 m.N m.fn.np (aQ (top m.i))&&df (m.N.length=m.fn.ns)&&df (m.fn.np<=m.fn.ns)&&(dG ck m.fn.bd m.N (aQ (top m.i)) (cS (top m.i))&&Qz m.fn)
noncomputable def U5(K:PySem.W.Frag)(p:Str×U):Bool:=match p.2,PySem.W.nsIn K J' p.1 with
 |.int i,a5 (a5 (.int j _))=>df (i=j)
 |.str i,a5 (a5 (.str j _))=>df (i=j)
 |_,_=>cL
noncomputable def MN(ck:Ck)(top:Nat->Qj)(K:PySem.W.Frag)(ms:List Me):Bool:=ms.all (U4 ck top K)&&bM.all (λy=>nn (PySem.W.nsIn K J' y))&&ck.gl.all (U5 K)&&df (K.map (·.1)).Nodup
theorem GA{K:PySem.W.Frag}(b:(K.map (·.1)).Nodup)(h:(a,o)∈K):K.lookup a=a5 o:=by
 induction K with
 |nil=>cases h
 |cons p K c =>
  rw[ez,mA]at b;rw[t4];rcases fR.mp h with rfl|h
  ·simp
  ·have:(a==p.1)=cL:=by
    rw[beq_eq_false_iff_ne];rintro rfl;exact b.1 (mh.mpr ⟨_,h,rfl⟩)
   rw[this];exact c b.2 h
section
theorem CZ(c:MN ck top (Ky top g ms) ms=cb)(h:m∈ms):Mx (Ky top g ms) m.fn.name m.fn.name (top m.i) m.a (m.fd top)/\PySem.W.nsIn (Ky top g ms) J' m.fn.name=a5 (a5 (.ref m.a)) /\
  (∀us:List dt,us.length=(m.N.take m.fn.np).length->ZS (m.fd top) ⟨us,[]⟩=pure ((m.N.take m.fn.np).zip us))/\dQ m.N (m.N.take m.fn.np) (aQ (top m.i))/\m.N.length=m.fn.ns/\(m.N.take m.fn.np).length=m.fn.np/\(dG ck m.fn.bd m.N (aQ (top m.i)) (cS (top m.i))=cb/\Qz m.fn=cb):=by
 simp only[MN,c4,Ā]at c;have z:=i7.mp c.1.1.1 m h;simp only[U4,c4,Ā]at z;obtain⟨⟨⟨⟨⟨⟨⟨j,k⟩,l⟩,b⟩,d⟩,n⟩,u⟩,o⟩:=z;simp only[U3,c4,Ā]at d;obtain⟨⟨⟨⟨⟨s1,s2⟩,s3⟩,s4⟩,p⟩,q⟩:=d;have r:(Ky top g ms).lookup m.a=a5 (m.fo top):=GA c.2 (fR.mpr (.inr (List.mem_flatMap.mpr ⟨m,h,by simp⟩)));have hl:(m.N.take m.fn.np).length=m.fn.np:=by rw[Ig];lia
 refine⟨DL r j k,B3 l,λus f=>?_,⟨s1,s2,s3,s4,by rw[hl],λx s=>?_,λy t=>?_⟩,n,hl,o⟩
 ·unfold Me.fd;revert b;cases fM (top m.i) with
  |mk v as w A B kw C =>
   intro b;simp only[Gz,c4,Of,WU,Ā]at b;obtain⟨⟨⟨⟨⟨⟨rfl,rfl⟩,rfl⟩,rfl⟩,rfl⟩,rfl⟩,e⟩:=b;rw[<-e]at f ⊢;exact yT (by rw[e];exact(Zy _ _).nodup s4) f
 ·have:=i7.mp p x s;simpa[oH] using this
 ·have:=i7.mp q y t;simpa using this
theorem GB(i:MN ck top (Ky top g ms) ms=cb)(X:(Ky top g ms).In h)(G:h.Ns J' mg)(hi:m∈ms):Ld ck (Ky top g ms) mg m.fn :=
 let ⟨a,b,c,d,e,f,k⟩:=CZ i hi
 ⟨_,_,_,_,_,_,a,PySem.W.mg_of X G b,.all c,d,e,f,k⟩
theorem EY(d:MN ck top (Ky top g ms) ms=cb)(X:(Ky top g ms).In h)(G:h.Ns J' mg):∀p∈ck.gl,∃a v,mg p.1=a5 a/\RelV v a/\∀(C:Ct) S H,Rep C S H p.2 v:=by
 intro p e;simp only[MN,c4,Ā]at d;have z:=i7.mp d.1.2 p e;unfold U5 at z;split at z
 ·rename_i i j k b c;obtain rfl:=of_decide_eq_true z;exact⟨_,.int i,PySem.W.mg_of X G c,⟨_,rfl⟩,λ_ _ _=>by rw[b];rfl⟩
 ·rename_i i j k b c;obtain rfl:=of_decide_eq_true z;exact⟨_,.str i,PySem.W.mg_of X G c,⟨_,rfl⟩,λ_ _ _=>by rw[b];rfl⟩
 ·cases z
end
theorem walk{l:PySem.W.OpenLaw}{K:Zm->PySem.W.Frag}
  (B:l.most=a5 63) (D:d.params.defaults=[]) (I:fX (dp+1) TC) (J:∀(w:Kp) (h:JN),L w h->(K w.params).In h)
  (m:(Pg.map (·.name)).Nodup) (A:QA ck Pg=cb) (O:fn.io=b6) (Q:fn∈Pg) (LD:fn.name=d.name)
  (F:∀(w:Kp) (mg:Str->Option dt) (fa:hH) (h:JN),(K w.params).In h->h.Ns J' mg->mg d.name=a5 (.ref fa) ->
   (∀y∈bM,mg y=b6)/\(∀p∈ck.gl,∃i v,mg p.1=a5 i/\RelV v i/\∀(C:Ct) S H,Rep C S H p.2 v)/\(∀g∈Pg,Ld ck (K w.params) mg g) /\
   ∃(c:Str) (st:Qj) (j:R7) (N:List Str),Mx (K w.params) fn.name c st fa j/\dQ N [x] (aQ st)/\N.length=fn.ns/\1=fn.np/\dG ck fn.body N (aQ st) (cS st)=cb/\∀(s:gj) (u:dt),Zp s j ⟨[u],[]⟩ [(x,u)])
  (T:∀ns:List Int,ns.length<=63->HW Pg (dp+1) fn.name [su ns]=a5 (.ok (.loc,.bl cb))) :
  PySem.W.WalkO q o XP L l.row.toRowW d [] (λf vs=>PySem.call f vs) :=
 L2.AQ (n:=63) (k:=dp+1) (x:=x) (CX:=λ_=>K9) (sp:=λw=>spT l.prog w (K w.params) (cR (HW Pg dp) fn) fn.np) B (by decide) D I J
  (λw mg fa h Y G Oy=>by
   obtain⟨e,r,ld,c,st,j,N,F1,S,hN,Kg,hc,hb⟩:=F w mg fa h Y G Oy;exact⟨j,hb,λbase _ _=>CY F1 S hN Kg hc e (uI m A e r ld dp).1 r (uI m A e r ld dp).2⟩)
  (λw H a ns hl _ hS=>by
   have t:=T ns hl;rw[so m Q,mX O]at t;have Xw:fn.np=1:=(oK t).1.symm;exact⟨Xw.symm,[su ns],.loc,.bl cb,Ki H,t,.inr (.inl rfl),λ_ z=>z,⟨_,_,rfl,sv hS,rfl⟩,λv H' S' b=>b.loc rfl⟩)
  λ_ _ _ _ _ z=>z
theorem walk2{l:PySem.W.OpenLaw}{g:Zm->Obj}
  (z:l.most=a5 63) (A:d.params.defaults=[]) (B:fX (dp+1) TC) (o:ms.map (·.fn)=Pg) (C:(Pg.map (·.name)).Nodup) (D:QA ck Pg=cb) (p:m.fn.io=b6) (r:m∈ms) (t:m.fn.name=d.name) (H:m.N.take m.fn.np=[x])
  (ok:∀P,MN ck top (Ky top (g P) ms) ms=cb) (T:∀ns:List Int,ns.length<=63->HW Pg (dp+1) m.fn.name [su ns]=a5 (.ok (.loc,.bl cb))) :
  PySem.W.WalkO q j J (PySem.W.kHook (λP=>Ky top (g P) ms) (adr ms) λP=>uK top (g P) ms).says l.row.toRowW d [] (λf vs=>PySem.call f vs) :=
 walk z A B (λw h Y=>PySem.W.kIn_of Y) C D p (o▸mh.mpr ⟨m,r,rfl⟩) t (λw mg fa h X G v=>by
  have hk:=ok w.params;obtain⟨a,b,c,e,f,k,n⟩:=CZ hk r;rw[<-t,PySem.W.mg_of X G b]at v;cases v;rw[H]at c e k;refine⟨λy i=>PySem.W.mg_none_of X G (Gy ?_),EY hk X G,λy i=>?_,_,_,_,_,a,e,f,k,by have:=n.1;rw[show m.fn.bd=m.fn.body by unfold Fn.bd;rw[p]]at this;exact this,λs u=>.of_eq (c [u] rfl)⟩
  ·simp only[MN,c4]at hk;exact i7.mp hk.1.1.2 y i
  ·rw[<-o]at i;obtain⟨L,I,rfl⟩:=mh.mp i;exact GB hk X G I) T
noncomputable def co(n:Str)(k l c:Nat)(r s:hH)(x y z:dt)(a b t:Nat):Obj:=⟨.type "code",b6,.fields #[.str n k,.str n (k+1),.str "/claim/cut.py" (k+2),.int l 0,.int c 0,.int 0 0,.int 0 0,.int 3 0,.ref r,.bool cb,.int t 0,.ref s,.none,x,y,z,.int a 0,.int l 0,.str "/claim/cut.py" b],#[]⟩
noncomputable def ge(P:Zm)(x:Str)(k:Nat)(v:dt):DictEntry:=⟨PyData.keyHash P x,.str x k,v⟩
end TM
namespace TM
open PySem L2
section
def Run(m:M α)(st:aw)(a:α)(st':aw):Prop:=m st=a5 (.ok a,st')
theorem ab(c:Run m st a st1)(d:Run (f a) st1 b st2):Run (m >>= f) st b st2:=by
 show M.bind m f st=_;unfold M.bind;rw[show m st=_ from c];exact d
theorem aW:Run (pure a:M α) st a st:=rfl
theorem b9(h:o=a5 a):Run (M.H9 o) st a st:=by subst h;rfl
theorem aZ(h:bp rs st):Run (aC rs) st () st:=by show aC rs st=_;unfold aC;rw[ÿ h]
noncomputable def kv(i:Nat)(k:Kd):Kd:=if k.root=cb then .bor i else k
theorem dH(h:st[i]?=a5 (a5 (k,u)))(hk:k≠.G':=by intro z;cases z):Run (dg i) st (kv i k,u) st:=by
 show dg i st=_;unfold dg;rw[h];cases k<;>first|rfl|exact absurd rfl hk
theorem aa(h:st[i]?=a5 (a5 (.loc,u))):Run (ev Γ (.var i)) st (.loc,u) st:=dH h
theorem aR(h:st[i]?=a5 (a5 (.any,u))):Run (ev Γ (.var i)) st (.any,u) st:=dH h
theorem av(h:st[i]?=a5 (a5 (.own,u))):Run (ev Γ (.var i)) st (.bor i,u) st:=dH h
theorem ai:Run (ev Γ (.cst u)) st (.loc,u) st:=rfl
theorem GC:Run (ev Γ (.N3 x u)) st (.loc,u) st:=rfl
theorem bw(c:Run (ev Γ a) st x st1)(d:Run (ev Γ b) st1 y st2)(e:bp [x,y] st2)(f:KO g x y=a5 r):Run (ev Γ (.bin g a b)) st r st2 :=
 ab c (ab d (ab (aZ e) (b9 f)))
theorem gr(d:Run (ev Γ a) st x st1)(e:Run (ev Γ b) st1 y st2)(f:bp [x,y] st2)(g:bZ h x.2 y.2=a5 c):Run (ev Γ (.cmp h a b)) st (.loc,.bl c) st2 :=
 ab d (ab e (ab (aZ f) (ab (b9 g) aW)))
theorem aI(c:Run (ev Γ a) st x st1)(d:Run (ev Γ b) st1 y st2)(e:bp [x,y] st2)(f:d7 x y.2=a5 r):Run (ev Γ (.idx a b)) st r st2 :=
 ab c (ab d (ab (aZ e) (b9 f)))
theorem mZ:Run (Nf Γ []) st b6 st:=rfl
theorem jq(h:Run (ev Γ e) st (k,.int i) st1):Run (Nf Γ [e]) st (a5 i) st1:=ab h rfl
theorem kZ(c:Run (ev Γ a) st x st1)(d:Run (Nf Γ lo) st1 l st2)(e:Run (Nf Γ hi) st2 h b)(f:bp [x] b)(g:lS x l h=a5 r):Run (ev Γ (.KZ a lo hi)) st r b :=
 ab c (ab d (ab e (ab (aZ f) (b9 g))))
theorem ah:Run (bK Γ []) st [] st:=rfl
theorem ae(a:Run (ev Γ e) st r st1)(b:Run (bK Γ es) st1 rs st2):Run (bK Γ (e::es)) st (r::rs) st2:=ab a (ab b aW)
theorem bC(a:Run (bK Γ es) st rs st1)(b:bp rs st1)(c:JJ f rs=a5 r):Run (ev Γ (.bi f es)) st r st1:=ab a (ab (aZ b) (b9 c))
theorem uL(a:Run (bK Γ es) st rs st1)(b:bp rs st1)(c:qe f rs=a5 r):Run (ev Γ (.LN f es)) st r st1:=ab a (ab (aZ b) (b9 c))
theorem yU(b:Run (ev Γ a) st x st1)(c:Run (bK Γ es) st1 rs st2)(d:bp (x::rs) st2)(e:lT m x.2 rs=a5 r):Run (ev Γ (.MJ m a es)) st r st2:=ab b (ab c (ab (aZ d) (b9 e)))
theorem uM(h:Γ f us=a5 (.ok r))(a:isAny r.1=cL):Run (kL Γ f us) st r st:=by
 obtain⟨k,u⟩:=r;show kL Γ f us st=_;unfold kL;rw[h];cases k<;>first|rfl|cases a
theorem bI(a:Run (bK Γ es) st rs st1)(b:bp rs st1)(c:Γ f (rs.map (·.2))=a5 (.ok r))(d:isAny r.1=cL:=by exact rfl):Run (ev Γ (.call f es)) st r st1:=ab a (ab (aZ b) (uM c d))
theorem gs(a:Run (bK Γ es) st rs st1)(b:bp rs st1)(c:Run (de rs) st1 us st2)(d:us.length<=c6):Run (ev Γ (.tup es)) st (.loc,.tup us) st2:=by
 refine ab a (ab (aZ b) (ab c ?_));rw[ÿ d];exact aW
theorem bJ(a:Run (bK Γ es) st rs st1)(b:bp rs st1)(c:Run (de rs) st1 us st2)(d:us.length<=c6):Run (ev Γ (.lst es)) st (.own,.lst us) st2:=by
 refine ab a (ab (aZ b) (ab c ?_));rw[ÿ d];exact aW
theorem k7:Run (ev Γ (.JG r)) st (.own,.HE [] []) st:=rfl
theorem yV:Run (lift (.own,u)) st u st:=rfl
theorem aH:Run (lift (.loc,u)) st u st:=rfl
theorem qx(h:H_ u=cb):Run (lift (.any,u)) st u st:=by
 show(if H_ u=cb then(pure u:M U) else M.fail) st=_;rw[ÿ h];rfl
theorem aE:Run (de []) st [] st:=rfl
theorem aA(a:Run (lift r) st u st1)(b:Run (de rs) st1 us st2):Run (de (r::rs)) st (u::us) st2:=ab a (ab b aW)
theorem yW(d:Run (HX Γ c) st cb st1)(e:Run (ev Γ a) st1 r st2):Run (ev Γ (.ite c a b)) st r st2:=ab d e
theorem yX(d:Run (HX Γ c) st cL st1)(e:Run (ev Γ b) st1 r st2):Run (ev Γ (.ite c a b)) st r st2:=ab d e
theorem yY(h:Run (ev Γ e) st r st1):Run (ig Γ [e]) st r st1:=h
theorem EZ(h:Run (ev Γ e) st (k,.bl p) st1)(a:if p=cb then Run (ig Γ (b::es)) st1 r st2 else st2=st1/\r=(.loc,.bl cL)):Run (ig Γ (e::b::es)) st r st2:=by
 refine ab h ?_;cases p with
 |true=>exact a
 |false=>obtain⟨rfl,rfl⟩:=a;exact aW
theorem C0(h:Run (ig Γ es) st r st1):Run (ev Γ (.and es)) st r st1:=h
theorem aM(d:Run (ev Γ a) st x st1)(e:Run (ev Γ b) st1 y st2)(f:bp [x,y] st2)(g:bZ h x.2 y.2=a5 c):Run (HX Γ (.cmp h a b)) st c st2:=ab d (ab e (ab (aZ f) (b9 g)))
theorem uN(h:Run (HX Γ a) st c st1):Run (HX Γ (.not a)) st (!c) st1:=ab h aW
theorem gu(h:Run (bb Γ es) st c st1):Run (HX Γ (.and es)) st c st1:=h
theorem yZ(h:Run (fG Γ es) st c st1):Run (HX Γ (.or es)) st c st1:=h
theorem ix:Run (bb Γ []) st cb st:=rfl
theorem dI(h:Run (HX Γ e) st c st1):Run (bb Γ [e]) st c st1:=h
theorem k8(h:Run (HX Γ e) st cb st1)(a:Run (bb Γ (b::es)) st1 c st2):Run (bb Γ (e::b::es)) st c st2:=ab h a
theorem sy(h:Run (HX Γ e) st cL st1):Run (bb Γ (e::a::es)) st cL st1:=ab h aW
theorem qy(h:Run (HX Γ e) st c st1):Run (fG Γ [e]) st c st1:=h
theorem GD(h:Run (HX Γ e) st cb st1):Run (fG Γ (e::a::es)) st cb st1:=ab h aW
theorem qz(h:Run (HX Γ e) st cL st1)(a:Run (fG Γ (b::es)) st1 c st2):Run (fG Γ (e::b::es)) st c st2:=ab h a
theorem aY:Run (fq i (.own,u)) st () (st.set i (a5 (.own,u))):=rfl
theorem aF:Run (fq i (.loc,u)) st () (st.set i (a5 (.loc,u))):=rfl
theorem iy:Run (fq i (.any,u)) st () (st.set i (a5 (.any,u))):=rfl
theorem GF(a:Run (ev Γ e) st r st1)(b:Run (fq i r) st1 () st2):Run (exec Γ (.set i e)) st .nx st2:=ab a (ab b aW)
theorem GG(b:∃k' c,st[i]?=a5 (a5 (k',.lst c))/\k'≠.G')(d:Run (ev Γ e) st r st1)(f:Run (lift r) st1 u st2)(g:st2[i]?=a5 (a5 (k,.lst us)))(hk:k.root=cb)(hl:us.length<c6):
  Run (exec Γ (.app i e)) st .nx (st2.set i (a5 (k,.lst (us++[u])))):=by
 obtain⟨k',c,b,h⟩:=b;refine ab (dH b h) (ab (a:=()) (st1:=st) rfl (ab d (ab f (ab (a:=()) ?_ aW))));show modS i (yk u) st2=_;unfold modS;rw[g];simp only[hk,if_true];have e:yk u (.lst us)=a5 (.lst (us++[u])):=by show(if us.length<c6 then _ else _)=_;rw[ÿ hl]
 rw[e]
theorem GH(a:Run (ev Γ e) st r st1)(b:Run (retS r) st1 f st2):Run (exec Γ (.ret e)) st f st2:=ab a b
theorem gv:Run (retS (.own,u)) st (.rt .own u) st:=rfl
theorem fL:Run (retS (.loc,u)) st (.rt .loc u) st:=rfl
theorem gw(h:st[j]?=a5 (a5 (.own,u))):Run (retS (.bor j,a)) st (.rt .own u) (st.set j b6):=by
 show(match st[j]? with|some (a5 (.own,u))=>a5 (Ex.ok (Fl.rt .own u),st.set j b6)|_=>b6)=_;rw[h]
theorem oM(d:Run (HX Γ c) st cb st1)(e:Run (execs Γ a) st1 f st2):Run (exec Γ (.ite c a b)) st f st2:=ab d e
theorem sA(d:Run (HX Γ c) st cL st1)(e:Run (execs Γ b) st1 f st2):Run (exec Γ (.ite c a b)) st f st2:=ab d e
theorem ao:Run (execs Γ []) st .nx st:=rfl
theorem fu(a:Run (exec Γ s) st .nx st1)(b:Run (execs Γ ss) st1 f st2):Run (execs Γ (s::ss)) st f st2:=ab a b
theorem wJ(a:Run (exec Γ s) st (.rt k u) st1):Run (execs Γ (s::ss)) st (.rt k u) st1:=ab a aW
theorem au(a:Run (ev Γ e) st r st1)(b:Run (fq i r) st1 () st2)(c:Run (execs Γ ss) st2 f d):Run (execs Γ (.set i e::ss)) st f d:=fu (GF a b) c
theorem dX(a:st[i]?=a5 (a5 (k',.lst l)))(b:Run (ev Γ e) st r st1)(c:Run (lift r) st1 u st2)(d:st2[i]?=a5 (a5 (k,.lst us)))(hk:k.root=cb)(hl:us.length<c6)
  (g:Run (execs Γ ss) (st2.set i (a5 (k,.lst (us++[u])))) f h) (j:k'≠.G':=by intro z;cases z):Run (execs Γ (.app i e::ss)) st f h:=fu (GG ⟨_,_,a,j⟩ b c d hk hl) g
theorem bN(a:Run (ev Γ e) st r st1)(b:Run (retS r) st1 (.rt k u) st2):Run (execs Γ (.ret e::ss)) st (.rt k u) st2:=wJ (GH a b)
theorem cy(d:Run (HX Γ c) st cb st1)(e:Run (execs Γ a) st1 .nx st2)(g:Run (execs Γ ss) st2 f h):Run (execs Γ (.ite c a b::ss)) st f h:=fu (oM d e) g
theorem bc(d:Run (HX Γ c) st cL st1)(e:Run (execs Γ b) st1 .nx st2)(g:Run (execs Γ ss) st2 f h):Run (execs Γ (.ite c a b::ss)) st f h:=fu (sA d e) g
theorem oN(d:Run (HX Γ c) st cb st1)(e:Run (execs Γ a) st1 (.rt k u) st2):Run (execs Γ (.ite c a b::ss)) st (.rt k u) st2:=wJ (oM d e)
theorem C1(a:Run (bK Γ src) st rs st1)(b:bp rs st1)(c:JV d rs=a5 xs)(e:uc rs is body=cb)(g:Run (forM t is (execs Γ body) rs xs) st1 f st2):
  Run (exec Γ (.Ia t is d src body)) st f st2:=by
 refine ab a (ab (aZ b) (ab (b9 c) ?_));rw[ÿ e];exact g
theorem cV(a:Run (bK Γ src) st rs st1)(b:bp rs st1)(c:JV d rs=a5 xs)(e:uc rs is body=cb)(g:Run (forM t is (execs Γ body) rs xs) st1 .nx st2)(h:Run (execs Γ ss) st2 f i):
  Run (execs Γ (.Ia t is d src body::ss)) st f i:=fu (C1 a b c e g) h
theorem uO(h:bp rs st):Run (forM t is body rs []) st .nx st:=ab (aZ h) aW
theorem B4(h:bp rs st)(a:Run (dm t is x) st () st1)(b:Run body st1 .nx st2)(c:Run (forM t is body rs xs) st2 f d):Run (forM t is body rs (x::xs)) st f d:=ab (aZ h) (ab a (ab b c))
theorem HB(h:bp rs st)(a:Run (dm t is x) st () st1)(b:Run body st1 (.rt k u) st2):Run (forM t is body rs (x::xs)) st (.rt k u) st2:=ab (aZ h) (ab a (ab b aW))
theorem d8(h:Run (fq i r) st () st1):Run (dm cL [i] r) st () st1:=h
theorem bx(a:us.length=fn.np)(hk:k=.own\/k=.loc)(hs:start us fn.ns=st0)(h:Run (execs Γ fn.body) st0 (.rt k u) st):cR Γ fn us=a5 (.ok (k,u)):=by
 subst hs;unfold cR;rw[ÿ a,show execs Γ fn.body (start us fn.ns)=_ from h];rcases hk with rfl|rfl<;>rfl
theorem uP{cond:M Bool}(h:bp src st):Run (bX k t cond elt src [] acc) st acc st:=ab (aZ h) aW
theorem oO{cond:M Bool}(h:bp src st)(c:Run (dm t (i1 k) x) (kj k b6++st) () s1)(d:Run cond s1 cb s2)(e:Run elt s2 r s3)(g:Run (lift r) s3 u s4)
  (hl:acc.length<c6) (i:Run (bX k t cond elt src xs (acc++[u])) (s4.drop k) us st2):Run (bX k t cond elt src (x::xs) acc) st us st2:=by
 refine ab (aZ h) (ab (a:=a5 u) (st1:=s4.drop k) ?_ ?_)
 ·show inScope k _ st=_;unfold inScope;have j:Run (dm t (i1 k) x >>= λ_=>cond >>= λb=>if b=cb then(elt >>= λr=>lift r >>= λu=>pure (a5 u)) else pure b6) (kj k b6++st) (a5 u) s4 :=
   ab c (ab d (show Run (elt >>= λr=>lift r >>= λu=>pure (a5 u)) s2 (a5 u) s4 from ab e (ab (f:=λu=>pure (a5 u)) g rfl)))
  rw[show _=_ from j]
 ·show Run (if acc.length<c6 then bX k t cond elt src xs (acc++[u]) else M.fail) _ _ _;rw[ÿ hl];exact i
theorem y0{cond:M Bool}(h:bp src st)(c:Run (dm t (i1 k) x) (kj k b6++st) () s1)(d:Run cond s1 cL s2)
  (e:Run (bX k t cond elt src xs acc) (s2.drop k) us st2):Run (bX k t cond elt src (x::xs) acc) st us st2:=by
 refine ab (aZ h) (ab (a:=b6) (st1:=s2.drop k) ?_ e);show inScope k _ st=_;unfold inScope;have f:Run (dm t (i1 k) x >>= λ_=>cond >>= λb=>if b=cb then(elt >>= λr=>lift r >>= λu=>pure (a5 u)) else pure b6) (kj k b6++st) b6 s2 :=
  ab c (ab d (show Run (pure b6:M (Option U)) s2 b6 s2 from rfl))
 rw[show _=_ from f]
theorem dJ{src cond:List E}(a:Run (bK Γ src) st rs st1)(b:bp rs st1)(c:JV d rs=a5 xs)(f:Run (bX k t (bb Γ cond) (ev Γ e) rs xs []) st1 us st2):Run (ev Γ (.comp k t d src cond e)) st (.own,.lst us) st2 :=
 ab a (ab (aZ b) (ab (b9 c) (ab f aW)))
end
section
theorem oP(c:Run (bK Γ es) st rs st1)(d:bp (rs.map (dN st1)) st1)(e:Γ f ((rs.map (dN st1)).map (·.2))=a5 (.ok (k,.tup (u::ws))))(hk:k=.own\/k=.loc)(a:qf (rs.map (dN st1)) is=cb)(b:gp (rs.map (dN st1)) is ws st1=a5 st2):
  Run (ev Γ (.HF f es is)) st (k,u) st2:=by
 have g:Run (bK Γ es >>= Bj) st (rs.map (dN st1)) st1:=ab c (show Run (Bj rs) st1 (rs.map (dN st1)) st1 from rfl);refine ab g (ab (aZ d) ?_);show qg Γ f _ is st1=_;unfold qg;rw[e];rcases hk with rfl|rfl
 ·show(if _ then _ else _)=_;rw[ÿ a,b]
 ·show(if _ then _ else _)=_;rw[ÿ a,b]
theorem y6(h:st[i]?=a5 (a5 (k,.lst us)))(hk:k.root=cb)(a:us[us.length - 1]?=a5 u):Run (ev Γ (.pop i)) st (.loc,u) (st.set i (a5 (k,.lst us.dropLast))):=by
 show yi i st=_;unfold yi;rw[h];show(if _ then _ else _)=_;rw[ÿ hk,a]
theorem E1(b:st[i]?=a5 (a5 (k0,.lst us0)))(c:k0≠.G')(d:Run (ev Γ e) st (l,.int j) st1)(h:st1[i]?=a5 (a5 (k,.lst us)))(hk:k.root=cb)(j0:0<=j)(f:j<1000000)(g:us[j.toNat]?=a5 u):Run (ev Γ (.Kv i e)) st (.loc,u) (st1.set i (a5 (k,.lst (us.eraseIdx j.toNat)))):=by
 refine ab (dH b c) (ab (a:=()) (st1:=st) rfl (ab d ?_));show wo i (.int j) st1=_;unfold wo
 dsimp only
 rw[h];show(if _ then _ else _)=_;rw[ÿ ⟨hk,j0,f⟩,g]
theorem bO(a:us.length=fn.np)(hs:cM is us fn.ns=st0)(h:Run (execs Γ body) st0 f st)(b:Qn f=a5 (k,u))(c:Ng is st=a5 ws):ft Γ fn is body us=a5 (.ok (k,.tup (u::ws))):=by
 subst hs;unfold ft;rw[ÿ a,show execs Γ body (cM is us fn.ns)=_ from h];show(Qn f).bind _=_;rw[b];show(Ng is st).map _=_;rw[c];rfl
end
def IH(Pg:List Fn)(f:Str)(fn:Fn):Prop:=(Pg.find? λg=>df (g.name=f))=a5 fn
section
theorem aX(h:IH Pg f fn)(us:List U)(a:fn.io=b6:=by rfl):HW Pg (d+1) f us=cR (HW Pg d) fn us:=by
 show(match Pg.find? λg=>df (g.name=f) with|some fn=>iV (HW Pg d) fn us|none=>b6)=_;rw[show _=a5 fn from h];show iV _ _ _=_;unfold iV;rw[a]
theorem cu(h:IH Pg f fn)(us:List U)(a:fn.io=a5 (is,b)):HW Pg (d+1) f us=ft (HW Pg d) fn is b us:=by
 show(match Pg.find? λg=>df (g.name=f) with|some fn=>iV (HW Pg d) fn us|none=>b6)=_;rw[show _=a5 fn from h];show iV _ _ _=_;unfold iV;rw[a]
end
theorem dZ(h:0<j):KO .mod (k,.int i) (k',.int j)=a5 (.loc,.int (i % j)):=by show(Bc i j).map _=_;rw[Bc,ÿ h];rfl
theorem k9(h:0<j/\j<1073741824):KO .Nc (k,.int i) (k',.int j)=a5 (.loc,.int (i / j)):=by show(Bb i j).map _=_;rw[Bb,ÿ h];rfl
theorem j3(h:(-(2 ^ 64)<i/\i<2 ^ 64)\/(-(2 ^ 64)<j/\j<2 ^ 64)):KO .mul (k,.int i) (k',.int j)=a5 (.loc,.int (i * j)):=by show(Ba i j).map _=_;rw[Ba,ÿ h];rfl
theorem nN(h:0<=j/\j<=1000000/\i.natAbs<2 ^ 64):KO .pow (k,.int i) (k',.int j)=a5 (.loc,.int (i ^ j.toNat)):=by show(Bd i j).map _=_;rw[Bd,ÿ h];rfl
theorem bW:KO .add (k,.int i) (k',.int j)=a5 (.loc,.int (i+j)):=rfl
theorem jZ:KO .sub (k,.int i) (k',.int j)=a5 (.loc,.int (i - j)):=rfl
theorem cz(h:IU xs i=a5 u):d7 (k,.lst xs) (.int i)=a5 (kE k,u):=by show(IU xs i).map _=_;rw[h];rfl
theorem gB(h:IU xs i=a5 u):d7 (k,.tup xs) (.int i)=a5 (kE k,u):=by show(IU xs i).map _=_;rw[h];rfl
local macro_rules
 |`(tactic| sizeOf_list_dec)=>`(tactic| first|exact ao|apply au|apply dX|apply bN|exact ai|exact aa rfl|exact aR rfl|exact av rfl|apply bw|apply gr|apply aI|apply bC|apply bI|apply yU|apply aM|exact ah|apply ae|apply gs|apply bJ|exact aE|apply aA|exact aH|exact yV|(first|exact trivial|exact⟨⟨_,rfl,rfl⟩,trivial⟩|exact⟨⟨_,rfl,rfl⟩,⟨_,rfl,rfl⟩,trivial⟩)|exact bW|exact jZ|exact dZ (by first|lia|decide)|exact k9 (by first|lia|decide)|exact j3 (by first|lia|decide)|exact nN (by decide)|exact aF|exact aY|exact iy|exact fL|exact gv|exact gw rfl|exact i8 _|exact rfl|exact Mj)
theorem k_(h:df (i<j)=c):bZ .lt (.int i) (.int j)=a5 c:=by subst h;rfl
theorem iz(h:df (j<i)=c):bZ .gt (.int i) (.int j)=a5 c:=by subst h;rfl
theorem b_(h:(i==j)=c):bZ .eq (.int i) (.int j)=a5 c:=by subst h;rfl
theorem bt:JJ .len [(k,.lst xs)]=a5 (.loc,.int (xs.length:Nat)):=rfl
theorem jN:JJ .len [(k,.tup xs)]=a5 (.loc,.int (xs.length:Nat)):=rfl
theorem y7(x:Kd×U):JV .Jl [x]=yf x:=rfl
theorem gQ(h:n<2 ^ 62):JV .Jl [(k,.int (n:Nat))]=a5 ((i1 n).map λi:Nat=>(Kd.loc,U.int (0+(i:Int)))):=by
 rw[y7,yf,ÿ ⋯,Ny]
end TM
local macro_rules
 |`(tactic| sizeOf_list_dec)=>`(tactic| first|exact TM.ao|apply TM.au|apply TM.dX|apply TM.bN|exact TM.ai|exact TM.aa rfl|exact TM.aR rfl|exact TM.av rfl|apply TM.bw|apply TM.gr|apply TM.aI|apply TM.bC|apply TM.bI|apply TM.yU|apply TM.aM|exact TM.ah|apply TM.ae|apply TM.gs|apply TM.bJ|exact TM.aE|apply TM.aA|exact TM.aH|exact TM.yV|(first|exact trivial|exact⟨⟨_,rfl,rfl⟩,trivial⟩|exact⟨⟨_,rfl,rfl⟩,⟨_,rfl,rfl⟩,trivial⟩)|exact TM.bW|exact TM.jZ|exact TM.dZ (by first|lia|decide)|exact TM.k9 (by first|lia|decide)|exact TM.j3 (by first|lia|decide)|exact TM.nN (by decide)|exact TM.aF|exact TM.aY|exact TM.iy|exact TM.fL|exact TM.gv|exact TM.gw rfl|exact i8 _|exact rfl|exact TM.Mj)
namespace Ih
open PySem L2
theorem len_list(x:Str):x.length=x.cps.toList.length:=by simp[ù]
theorem wK(a:0<=k)(b:k<=99):(xy k).length<=2:=by
 obtain⟨m,rfl⟩:=wh a;have c:m<100:=by lia
 clear a b;revert m;decide +kernel
theorem fk:∀(ps:List Str) (acc:Array Nat),(ps.foldl (λacc p=>acc++r6.cps++p.cps) acc).toList=acc.toList++(ps.map λp=>p.cps.toList).flatten
 |[],acc=>by simp
 |p::ps,acc=>by
  rw[SJ,fk ps];have:r6.cps=#[]:=rfl;simp[this]
theorem join_list(ts:List Str):(TR r6 ts).cps.toList=(ts.map λp=>p.cps.toList).flatten:=by
 cases ts with
 |nil=>rfl
 |cons t ts =>
  show(ts.foldl (λacc p=>acc++r6.cps++p.cps) t.cps).toList=_;rw[fk];simp
noncomputable def one(c:Nat):Str:=⟨#[c]⟩
theorem join_ones(a:List Nat):(TR r6 (a.map one)).cps.toList=a:=by
 rw[join_list,i5];induction a with
 |nil=>rfl
 |cons c a b=>rw[ez,U8,b];rfl
theorem qA(a:List Nat)(h:a.length<=100):É r6 (a.map one)=cb:=by
 unfold É;have e:=PySem.StrLaws.joinTotal r6 (a.map one);have b:r6.length=0:=rfl;have es:((a.map one).map (·.length)).sum=a.length:=by
  rw[i5];clear h e;induction a with
  |nil=>rfl
  |cons c a d=>rw[ez,Nk,d];show 1+a.length=a.length+1;lia
 rw[e,b,es];have f:a.length+(a.map one).length * 0<=100:=by lia
 revert f;generalize a.length+(a.map one).length * 0=m;revert m;decide
theorem E2(x:Str)(j:Nat):(PySem.StrLaws.sliceText x b6 (a5 (j:Int))).cps.toList=x.cps.toList.take j:=by
 by_cases h:j<=x.cps.toList.length
 ·rw[PySem.StrLaws.sliceText_to (x:=x) ⟨⋯,⋯⟩];simp
 ·have e:PySem.StrLaws.sliceText x b6 (a5 (j:Int))=PySem.StrLaws.sliceText x b6 (a5 (x.length:Int)):=by
   unfold PySem.StrLaws.sliceText;have hl:=len_list x;have:PySem.Builtin.Str.strSliceIndices b6 (a5 (j:Int)) 1 x.length=PySem.Builtin.Str.strSliceIndices b6 (a5 (x.length:Int)) 1 x.length:=by
    have a:¬((j:Int)<0):=by lia
    have b:¬((x.length:Int)<0):=by lia
    have c:min (j:Int) (x.length:Int)=x.length:=by lia
    simp[PySem.Builtin.Str.strSliceIndices,a,b,c]
   rw[this]
  have hl:=len_list x;rw[e,PySem.StrLaws.sliceText_to (x:=x) ⟨⋯,⋯⟩,Xy,I0 (l:=x.cps.toList) (i:=j) ⋯];show(x.cps.toList.take ((x.length:Int) - 0).toNat).toArray.toList=_;rw[I0 ⋯]
noncomputable def small:Str:="abcdefghijklmnopqrstuvwxyz"
theorem la [DecidableEq α]:∀{l m:List α},l.Nodup->(∀x∈l,x∈m)->l.length<=m.length
 |[],_,_,_=>i8 _
 |x::l,m,c,h=>by
  obtain⟨d,e⟩:=mA.mp c;have a:=h x qP;have f:=la (l:=l) (m:=m.erase x) e λy b=>(Tj (by rintro rfl;exact d b)).mpr (h y (ux _ b));rw[XZ a]at f;have:0<m.length:=Sy a;rw[ko];lia
end Ih
namespace TM
open PySem L2 Ih
theorem nU(a:x.length<=c6)(h:IU x.cps.toList i=a5 c):d7 (k,.str x) (.int i)=a5 (.loc,.str (Ih.one c)):=by
 simp only[d7];rw[ÿ a,h];rfl
theorem qB:small.length<=c6:=by decide
theorem dB:∀(ss:List Str),strsOf (ss.map U.str)=a5 ss
 |[]=>rfl
 |s::ss=>by show(strsOf (ss.map U.str)).map (s::·)=_;rw[dB ss];rfl
section
theorem oQ(h:x.length+y.length<=c6):KO .add (k,.str x) (k',.str y)=a5 (.loc,.str (x++y)):=by
 simp only[KO,ye];rw[ÿ h]
theorem eJ:∀(ss:List Str) (n:Nat),cX n (ss.map U.str)=cb
 |[],n=>by simp[cX]
 |s::ss,n=>by simp only[ez,cX,eJ ss n,X5];cases n<;>rfl
theorem qC(x:Str):∀(ss:List Str),((ss.map U.str).any λy=>bV y (.str x))=df (x∈ss)
 |[]=>by simp
 |s::ss=>by
  rw[ez,Ui,qC x ss];have:bV (.str s) (.str x)=df (x=s):=by
   simp only[bV];by_cases h:x=s
   ·subst h;simp
   ·have h':s≠x:=λz=>h z.symm;simp[h,h']
  rw[this,Lh];simp
theorem B5(x:Str)(ss:List Str):Nd (.str x) (ss.map U.str)=a5 (df (x∈ss)):=by
 unfold Nd;rw[ÿ ⟨by rfl,eJ ss 50⟩,qC]
theorem iA{ss:List Str}:bZ .HV (.str x) (.lst (ss.map U.str))=a5 (df (x∉ss)):=by
 show(Nd (.str x) (ss.map U.str)).map (!·)=_;rw[B5];simp
end
section
end
theorem iB(h:Run (ev Γ j) st rv st1)(l:st1[i]?=a5 (a5 (k',u')))(m:Run (ev Γ n) st1 rk st2)(o:Run (de [rv,rk]) st2 [c,d] b)(p:b[i]?=a5 (a5 (k,e)))(hk:k.root=cb)(q:dy d c e=a5 g)
  (r:Run (execs Γ ss) (b.set i (a5 (k,g))) f s) (t:k'≠.G':=by intro z;cases z):Run (execs Γ (.put i n j::ss)) st f s:=by
 refine fu (ab h (ab (dH l t) (ab m (ab o (ab (a:=()) (st1:=b.set i (a5 (k,g))) ?_ aW))))) r;show modS i (ub [c,d]) b=_;unfold modS;rw[p];simp only[hk,if_true];show(match dy d c e with|some u'=>_|none=>b6)=_;rw[q]
abbrev Row:=Str×List Str
noncomputable def A'(r:Row):U:=.tup [.str r.1,.tup (r.2.map .str)]
noncomputable def keyOf(r:Row):Row:=(r.1,aJ r.2)
theorem sorted_strs(h:ss.length<64):JJ .sorted [(k,.tup (ss.map .str))]=a5 (.own,.lst ((aJ ss).map .str)):=by
 show(strsOf (ss.map U.str)).bind _=_;rw[dB];show(if ss.length<64 then _ else _)=_;rw[ÿ h]
structure m6(names:List Str)(r:Row):Prop where
 word:r.1∈names
 LY:r.2.length<=8
 once:r.2.Nodup
 told:∀x∈r.2,x∈names
section
theorem m7(h:Run (execs Γ (a++ss)) st f st2):(∃s1,Run (execs Γ a) st .nx s1/\Run (execs Γ ss) s1 f st2)\/(Run (execs Γ a) st f st2/\f≠.nx):=by
 induction a generalizing st with
 |nil=>exact .inl ⟨st,ao,h⟩
 |cons s a i =>
  have h':M.bind (exec Γ s) (λf=>match f with|.nx=>execs Γ (a++ss)|f=>pure f) st=a5 (.ok f,st2):=h;unfold M.bind at h';cases e:exec Γ s st with
  |none=>rw[e]at h';cases h'
  |some p =>
   obtain⟨x,s1⟩:=p;rw[e]at h';cases x with
   |exc c=>cases h'
   |ok g =>
    cases g with
    |nx =>
     rcases i h' with⟨s2,b,d⟩|⟨b,d⟩
     ·exact .inl ⟨s2,fu e b,d⟩
     ·exact .inr ⟨fu e b,d⟩
    |rt k u=>cases h';exact .inr ⟨wJ e,λz=>nomatch z⟩
    |bk=>cases h';exact .inr ⟨ab (show Run (exec Γ s) st Fl.bk _ from e) aW,λz=>nomatch z⟩
    |ct=>cases h';exact .inr ⟨ab (show Run (exec Γ s) st Fl.ct _ from e) aW,λz=>nomatch z⟩
theorem GI(a:Run (exec Γ s) st f st1)(b:f≠.nx):Run (execs Γ (s::ss)) st f st1:=by
 cases f with
 |nx=>exact absurd rfl b
 |rt k u=>exact wJ a
 |_=>exact ab a aW
theorem oR(g:Run (HX Γ c) st p st1)(h:p=cb->Run (execs Γ (a++ss)) st1 f st2)(i:p=cL->Run (execs Γ (b++ss)) st1 f st2):Run (execs Γ (.ite c a b::ss)) st f st2:=by
 cases p with
 |true =>
  rcases m7 (h rfl) with⟨s1,d,e⟩|⟨d,e⟩
  ·exact fu (oM g d) e
  ·exact GI (oM g d) e
 |false =>
  rcases m7 (i rfl) with⟨s1,d,e⟩|⟨d,e⟩
  ·exact fu (sA g d) e
  ·exact GI (sA g d) e
theorem y8(h:Run (ev Γ e) st (k,.bl p) st)(a:p=cb->Run (ig Γ (b::es)) st (.loc,.bl q) st):Run (ig Γ (e::b::es)) st (.loc,.bl (p&&q)) st:=by
 refine EZ h ?_;cases p with
 |true=>rw[ÿ rfl];exact a rfl
 |false=>rw[ā q0];exact⟨rfl,rfl⟩
theorem GJ(h:Run (HX Γ e) st p st)(a:p=cL->Run (fG Γ (b::es)) st q st):Run (fG Γ (e::b::es)) st (p||q) st:=by
 cases p with
 |true=>exact GD h
 |false=>exact qz h (a rfl)
theorem lb(h:Run (HX Γ e) st p st)(a:p=cb->Run (bb Γ (b::es)) st q st):Run (bb Γ (e::b::es)) st (p&&q) st:=by
 cases p with
 |true=>exact k8 h (a rfl)
 |false=>exact sy h
theorem i_{cond:M Bool}(h:bp src st)(k:Kd)(hk:k=.loc\/k=.any)(a g:α->U)(c:Kd)(d:∀y,Run cond (a5 (k,a y)::st) cb (a5 (k,a y)::st)):∀(b:List α) (acc:List U),acc.length+b.length<=c6 ->
  (∀y∈b,Run elt (a5 (k,a y)::st) (c,g y) (a5 (k,a y)::st)/\Run (lift (c,g y)) (a5 (k,a y)::st) (g y) (a5 (k,a y)::st))->Run (bX 1 cL cond elt src (b.map λy=>(k,a y)) acc) st (acc++b.map g) st
 |[],acc,_,_=>by rw[Km,Km,uk];exact uP h
 |y::b,acc,hl,e=>by
  obtain⟨f,i⟩:=e y (by simp);rw[ko]at hl;refine oO (s1:=a5 (k,a y)::st) (s2:=a5 (k,a y)::st) (s3:=a5 (k,a y)::st) (s4:=a5 (k,a y)::st) h ?_ (d y) f i ⋯ ?_
  ·rcases hk with rfl|rfl
   ·exact d8 aF
   ·exact d8 iy
  ·have:=i_ h k hk a g c d b (acc++[g y]) (by simp;lia) λz hz=>e z (by simp[hz]);rw[ez];simpa using this
theorem sC{cond:M Bool}(h:bp src st)(k:Kd)(hk:k=.loc\/k=.any)(a g:α->U)(p:α->Bool)(d:Kd):∀(b:List α) (acc:List U),acc.length+b.length<=c6 ->
  (∀y∈b,Run cond (a5 (k,a y)::st) (p y) (a5 (k,a y)::st)/\(p y=cb->Run elt (a5 (k,a y)::st) (d,g y) (a5 (k,a y)::st)/\Run (lift (d,g y)) (a5 (k,a y)::st) (g y) (a5 (k,a y)::st)))->Run (bX 1 cL cond elt src (b.map λy=>(k,a y)) acc) st (acc++(b.filter p).map g) st
 |[],acc,_,_=>by rw[Km,OS,Km,uk];exact uP h
 |y::b,acc,hl,f=>by
  obtain⟨e,j⟩:=f y (by simp);rw[ko]at hl;have i:Run (dm cL (i1 1) (k,a y)) (kj 1 b6++st) () (a5 (k,a y)::st):=by
   rcases hk with rfl|rfl
   ·exact d8 aF
   ·exact d8 iy
  cases c:p y with
  |true =>
   rw[c]at e;obtain⟨l,m⟩:=j c;refine oO (s1:=a5 (k,a y)::st) (s2:=a5 (k,a y)::st) (s3:=a5 (k,a y)::st) (s4:=a5 (k,a y)::st) h i e l m ⋯ ?_;have:=sC h k hk a g p d b (acc++[g y]) (by simp;lia) λz hz=>f z (by simp[hz]);rw[B',ÿ c,ez];simpa using this
  |false =>
   rw[c]at e;refine y0 (s1:=a5 (k,a y)::st) (s2:=a5 (k,a y)::st) h i e ?_;have:=sC h k hk a g p d b acc ⋯ λz hz=>f z (by simp[hz]);rw[B',ā (by simp[c])];exact this
theorem cj(it:α->Kd×U)(I:List α->List α->aw->Prop)(hs:∀d r st,I d r st->bp rs st)
  (ZP:∀d y r st,I d (y::r) st->∃st1 st2,Run (dm t is (it y)) st () st1/\Run body st1 .nx st2/\I (d++[y]) r st2):∀(r d:List α) (st:aw),I d r st->∃st',Run (forM t is body rs (r.map it)) st .nx st'/\I (d++r) [] st'
 |[],d,st,h=>⟨st,uO (hs _ _ _ h),by rw[uk];exact h⟩
 |y::r,d,st,h=>by
  obtain⟨s1,s2,a,b,c⟩:=ZP d y r st h;obtain⟨s3,e,f⟩:=cj it I hs ZP r (d++[y]) s2 c;exact⟨s3,B4 (hs _ _ _ h) a b e,by simpa using f⟩
theorem sD(a:Run (bK Γ es) st rs st1)(c:bp rs st1)(d:Γ f (rs.map (·.2))=a5 (.ok r))(e:wm r.2=a5 b)(g:isAny r.1=cL:=by exact rfl):Run (HX Γ (.call f es)) st b st1:=ab a (ab (aZ c) (ab (uM d g) (b9 e)))
theorem sE(h:Run (ev Γ (.bi f es)) st (k,.bl b) st1):Run (HX Γ (.bi f es)) st b st1:=by
 have h':(bK Γ es >>= λrs=>aC rs >>= λ_=>M.H9 (JJ f rs)) st=a5 (.ok (k,.bl b),st1):=h;obtain⟨rs,s1,c,d,s2,e,r,s3,g,i⟩:∃rs s1,bK Γ es st=a5 (.ok rs,s1)/\∃(a:Unit) (s2:aw),aC rs s1=a5 (.ok a,s2)/\∃r s3,M.H9 (JJ f rs) s2=a5 (.ok r,s3)/\(r,s3)=((k,U.bl b),st1):=by
  have w:W (bK Γ es >>= λrs=>aC rs >>= λ_=>M.H9 (JJ f rs)) st λr s=>(r,s)=((k,U.bl b),st1):=⟨_,_,h',rfl⟩
  rw[af]at w;obtain⟨rs,s1,c,w⟩:=w;rw[af]at w;obtain⟨a,s2,d,w⟩:=w;obtain⟨r,s3,e,w⟩:=w;exact⟨rs,s1,c,a,s2,d,r,s3,e,w⟩
 cases i;exact ab c (ab (a:=d) e (ab g (b9 rfl)))
theorem qD(b:st[i]?=a5 (a5 (k',.lst m)))(c:Run (ev Γ e) st r st1)(d:st1[i]?=a5 (a5 (k,.lst us)))(hk:k.root=cb)(g:kO r (.lst us)=a5 (.lst zs))
  (h:Run (execs Γ ss) (st1.set i (a5 (k,.lst zs))) f j) (l:k'≠.G':=by intro z;cases z):Run (execs Γ (.ext i e::ss)) st f j:=by
 refine fu (ab (dH b l) (ab (a:=()) (st1:=st) rfl (ab c (ab (a:=()) (st1:=st1.set i (a5 (k,.lst zs))) ?_ aW)))) h;show modS i (kO r) st1=_;unfold modS;rw[d];simp only[hk,if_true];rw[g]
end
theorem uQ(h:xs.length+a.length<=c6)(hs:dw k a=cb):kO (k,.tup a) (.lst xs)=a5 (.lst (xs++a)):=by
 show(if xs.length+a.length<=c6/\dw k a=cb then _ else _)=_;rw[ÿ ⟨h,hs⟩]
theorem oS(h:xs.length+a.length<=c6)(hs:dw k a=cb):kO (k,.lst a) (.lst xs)=a5 (.lst (xs++a)):=by
 show(if xs.length+a.length<=c6/\dw k a=cb then _ else _)=_;rw[ÿ ⟨h,hs⟩]
theorem m8:∀ss:List Str,bU (ss.map U.str)=cb
 |[]=>by simp[bU]
 |s::ss=>by simp[bU,H_,m8 ss]
theorem oU(r:Row):H_ (A' r)=cb:=by simp[A',H_,bU,m8]
theorem aO:∀rs:List Row,bU (rs.map A')=cb
 |[]=>by simp[bU]
 |r::rs=>by simp[bU,oU,aO rs]
theorem lh:∀(a b:List Str),cw (a.map U.str) (b.map U.str)=df (a=b)
 |[],[]=>by simp[cw]
 |[],_::_=>by simp[cw]
 |_::_,[]=>by simp[cw]
 |x::a,y::b=>by
  rw[ez,ez,cw,lh a b];simp only[bV];by_cases h:x=y
  ·subst h;simp
  ·simp[h]
theorem fb(ss:List Str)(n:Nat):IM (n+1) (.lst (ss.map U.str))=cb:=by simp[IM,eJ]
theorem qE{a b:List Str}:bZ .eq (.lst (a.map U.str)) (.lst (b.map U.str))=a5 (df (a=b)):=by
 simp only[bZ];rw[ÿ ⟨fb a 49,fb b 49⟩];simp only[bV,lh]
theorem uR:bZ .eq (.str a) (.str b)=a5 (df (a=b)):=by
 simp only[bZ];rw[ÿ ⟨rfl,rfl⟩];simp only[bV];by_cases h:a=b
 ·subst h;simp
 ·simp[h]
theorem uS(f:α->β)(xs:List α)(lo hi:Option Int):cut (xs.map f) lo hi=(cut xs lo hi).map f:=by simp[cut,Í,Î]
theorem B6(xs:List α)(lo hi:Option Int):(cut xs lo hi).length<=xs.length:=by simp[cut];lia
theorem uT(h:dw k (ss.map U.str)=cb):lS (k,.lst (ss.map .str)) lo hi=a5 (.own,.lst ((cut ss lo hi).map .str)):=by
 simp only[lS];rw[ÿ h,uS]
theorem y9(h:dw k (a.map U.int)=cb):lS (k,.lst (a.map .int)) lo hi=a5 (.own,.lst ((cut a lo hi).map .int)):=by
 simp only[lS];rw[ÿ h,uS]
theorem y_(h:acc.length<4000)(a:(aN acc).length<64):qe .sset [(k,.lst (acc.map .str))]=a5 (.own,.lst ((aJ (aN acc)).map .str)):=by
 have e:ic (.lst (acc.map U.str))=a5 (aN acc):=by
  show(strsOf (acc.map U.str)).bind _=_;rw[dB];show(if acc.length+1<IJ then _ else _)=_;rw[ÿ (by show acc.length+1<4096;lia)]
 show(ic (.lst (acc.map U.str))).bind _=_;rw[e];show(if (aN acc).length<64 then _ else _)=_;rw[ÿ a]
theorem E3(l:List Str)(x:Str):x∈aJ (aN l)↔x∈l:=by rw[(bH _).mem_iff,gD]
theorem za{l names:List Str}(h:∀x∈l,x∈names):(aN l).length<=names.length:=la (oa l) λx a=>h x ((gD l x).mp a)
section
end
section
theorem C2(c:Run (ev Γ a) st x st1)(d:qj x.2 T=a5 b):Run (ev Γ (.LO a T)) st (.loc,.bl b) st1:=ab c (ab (b9 d) aW)
theorem C3(c:Run (ev Γ a) st x st1)(d:qj x.2 T=a5 b):Run (HX Γ (.LO a T)) st b st1:=ab c (b9 d)
end
noncomputable def cA(rows:List Row):List Str:=(rows.map λr=>r.1::r.2).flatten
noncomputable def fc(rows:List Row):List Str:=aJ (aN (cA rows))
theorem qF(d:List Row)(y:Row):cA (d++[y])=cA d++[y.1]++y.2:=by simp[cA]
theorem sF:x∈cA rows↔∃r∈rows,x=r.1\/x∈r.2:=by
 simp only[cA,ZH,mh];constructor
 ·rintro⟨l,⟨r,a,rfl⟩,b⟩;exact⟨r,a,fR.mp b⟩
 ·rintro⟨r,a,b⟩;exact⟨_,⟨r,a,rfl⟩,fR.mpr b⟩
theorem iC(h:∀r∈rows,m6 names r):∀x∈cA rows,x∈names:=by
 intro x hx;obtain⟨r,a,hx⟩:=sF.mp hx;rcases hx with rfl|hx
 ·exact(h r a).word
 ·exact(h r a).told x hx
theorem lj(h:∀r∈rows,r.2.length<=8):(cA rows).length<=9 * rows.length:=by
 induction rows with
 |nil=>simp[cA]
 |cons r rows a =>
  have c:=h r (by simp);have b:=a λs hs=>h s (by simp[hs]);simp only[cA,ez,U8,hY,ko]at b ⊢;lia
theorem sG:x∈fc rows↔x∈cA rows:=E3 _ _
theorem sH(h:∀r∈rows,m6 names r):(fc rows).length<=names.length:=by
 show(aJ (aN (cA rows))).length<=_;rw[bT];exact za (iC h)
noncomputable def sI:Fn:=⟨"words_of",1,3,[.set 1 (.lst []),.Ia cL [2] .seq [.var 0] [.app 1 (.idx (.var 2) (.cst (.int 0))),.ext 1 (.idx (.var 2) (.cst (.int 1)))],.ret (.LN .sset [.var 1])]⟩
theorem oV(hl:rows.length<=100)(c:∀r∈rows,m6 names r)(n:names.length<64):cR Γ sI [.tup (rows.map A')]=a5 (.ok (.own,.lst ((fc rows).map .str))):=by
 have hsz:(4000:Nat)<=c6:=by decide
 have f:TM.start [.tup (rows.map A')] 3=[a5 (.loc,.tup (rows.map A')),b6,b6]:=by simp[TM.start,H_,aO]
 have b:∀r∈rows,r.2.length<=8:=λr h=>(c r h).LY;obtain⟨st',g,_,o2,e⟩:=cj (t:=cL) (is:=[2]) (body:=execs Γ [.app 1 (.idx (.var 2) (.cst (.int 0))),.ext 1 (.idx (.var 2) (.cst (.int 1)))]) (rs:=[(.loc,.tup (rows.map A'))]) (λr:Row=>(Kd.loc,A' r))
  (λd r st=>d++r=rows/\∃o2,st=[a5 (.loc,.tup (rows.map A')),a5 (.own,.lst ((cA d).map .str)),o2]) (λ_ _ _ _=>trivial) (λd y r st i=>by
   obtain⟨a,o2,e⟩:=i;subst e;have j:y∈rows:=by rw[<-a];simp
   have o:=lj (rows:=d) λs hs=>b s (by rw[<-a];simp[hs]);have l:d.length<=100:=by have:=Ą Kz a;simp at this;lia
   have p:=b y j;refine⟨[a5 (.loc,.tup (rows.map A')),a5 (.own,.lst ((cA d).map .str)),a5 (.loc,A' y)],[a5 (.loc,.tup (rows.map A')),a5 (.own,.lst ((cA d).map .str++[.str y.1]++y.2.map .str)),a5 (.loc,A' y)],d8 aF,?_,by rw[<-a];simp,a5 (.loc,A' y),?_⟩
   ·exact dX (k:=.own) (k':=.own) (r:=(.loc,.str y.1)) rfl (aI (x:=(.loc,A' y)) (aa rfl) ai trivial rfl) aH rfl rfl (by rw[cc];lia)
     (qD (k:=.own) rfl (aI (x:=(.loc,A' y)) (aa rfl) ai trivial rfl) rfl rfl (uQ (by simp;lia) rfl) ao)
   ·rw[qF];simp) rows [] [a5 (.loc,.tup (rows.map A')),a5 (.own,.lst []),b6] ⟨rfl,b6,rfl⟩
 subst e;have m:(rows.map A').map (λu=>(kE .loc,u))=rows.map λr=>(Kd.loc,A' r):=by rw[i5];rfl
 have q:=lj b;have l:=za (iC c);exact bx rfl (.inl rfl) f (au (r:=(.own,.lst [])) (bJ ah trivial aE (i8 _)) aY (cV (rs:=[(.loc,.tup (rows.map A'))]) (ae (aa rfl) ah) trivial rfl rfl (by rw[m];exact g) (bN (uL (ae (av rfl) ah) ⟨⟨.own,rfl,rfl⟩,trivial⟩ (y_ ⋯ ⋯)) gv)))
theorem uU(h:ks.length<1000):dy (.str x) u (.HE ks us)=a5 (.HE (dput ks us x u).1 (dput ks us x u).2):=by
 have hsz:(1000:Nat)<=c6:=by decide
 show(if ks.length<c6 then _ else _)=_;rw[ÿ ⋯]
end TM
namespace Od
section
variable{W:Type}[DecidableEq W]{rows:List (W×List W)}
def gR(rows:List (W×List W))(C:W->Prop):Prop:=∀r∈rows,(∀x∈r.2,C x)->C r.1
def Le(rows:List (W×List W))(K:List W):Prop:=∀C:W->Prop,gR rows C->∀x∈K,C x
theorem same(a:K.Nodup)(b:L.Nodup)(sK:Le rows K)(c:Le rows L)(d:gR rows (·∈K))(e:gR rows (·∈L)):K.Perm L :=
 (List.perm_ext_iff_of_nodup a b).mpr λx=>⟨λh=>sK _ e x h,λh=>c _ d x h⟩
noncomputable def told(rows:List (W×List W))(p:Nat):List W:=match rows[p]? with
 |some r=>r.2
 |none=>[]
theorem jO(h:rows[p]?=a5 r):told rows p=r.2:=by unfold told;rw[h]
noncomputable def sJ(K l:List W):Nat:=(l.filter λx=>df (x∉K)).length
noncomputable def cnt(rows:List (W×List W))(K:List W)(p:Nat):Nat:=sJ K (told rows p)
theorem wL{K l:List W}:sJ K l=0↔∀x∈l,x∈K:=by
 unfold sJ;rw[Sd,Yr];constructor
 ·intro h x a;have:=h x a;simpa using this
 ·intro h x a;simpa using h x a
theorem qG(d:w∉K):∀{l:List W},l.Nodup->sJ (K++[w]) l+(if w∈l then 1 else 0)=sJ K l
 |[],_=>rfl
 |x::l,h=>by
  obtain⟨f,g⟩:=mA.mp h;have c:=qG d g;unfold sJ at c ⊢;by_cases e:x=w
  ·subst e;have a1:df (x∉K++[x])≠cb:=by simp
   have a:df (x∉K)=cb:=ă d;rw[O1 (p:=λy=>df (y∉K++[x])) a1,O0 (p:=λy=>df (y∉K)) a,ko,ÿ (qP ..)];rw[ā f]at c;lia
  ·have i:w≠x:=λz=>e z.symm;have j:(if w∈x::l then 1 else 0)=if w∈l then 1 else 0:=by simp[i]
   rw[j];by_cases b:x∈K
   ·have a1:df (x∉K++[w])≠cb:=by simp[b]
    have a:df (x∉K)≠cb:=by simp[b]
    rw[O1 (p:=λy=>df (y∉K++[w])) a1,O1 (p:=λy=>df (y∉K)) a];exact c
   ·have a1:df (x∉K++[w])=cb:=by simp[b,e]
    have a:df (x∉K)=cb:=by simp[b]
    rw[O0 (p:=λy=>df (y∉K++[w])) a1,O0 (p:=λy=>df (y∉K)) a,ko,ko];lia
def Once(rows:List (W×List W)):Prop:=∀r∈rows,r.2.Nodup
theorem Once.told(h:Once rows)(p:Nat):(told rows p).Nodup:=by
 unfold Od.told;split
 ·rename_i r e;exact h r (lg e)
 ·exact .nil
theorem qH:cnt rows K p=0↔∀x∈told rows p,x∈K:=wL
theorem oW(h:Once rows)(a:w∉K)(p:Nat):cnt rows (K++[w]) p+(if w∈told rows p then 1 else 0)=cnt rows K p:=qG a (h.told p)
noncomputable def Iu(rows:List (W×List W))(n:Nat)(w:W):List Nat:=(i1 n).filter λp=>df (w∈told rows p)
theorem wM(n:Nat)(w:W):(Iu rows n w).Nodup:=X3 Y9 List.nodup_range
theorem iD:p∈Iu rows n w↔p<n/\w∈told rows p:=by simp[Iu]
noncomputable def aK(ps:List (W×Nat))(w:W):List Nat:=(ps.filter λp=>df (p.1=w)).map (·.2)
theorem qJ:∀{l:List W},l.Nodup->aK (l.map λx=>(x,n)) w=if w∈l then [n] else []
 |[],_=>rfl
 |x::l,h=>by
  obtain⟨b,c⟩:=mA.mp h;have a:=qJ (n:=n) (w:=w) c;unfold aK at a ⊢;rw[ez,B'];by_cases e:x=w
  ·subst e;rw[ā b]at a;rw[ÿ (by simp),ez,a,ÿ (by simp)]
  ·rw[ā (by simpa using e),a];have d:w≠x:=λz=>e z.symm;simp[d]
theorem qK(a b:List (W×Nat))(w:W):aK (a++b) w=aK a w++aK b w:=by simp[aK]
theorem wN(h:Once rows)(a:rows[n]?=a5 r)(b:∀w,aK ps w=Iu rows n w)(w:W):aK (ps++r.2.map λx=>(x,n)) w=Iu rows (n+1) w:=by
 rw[qK,b w,qJ (h r (lg a))];unfold Iu;rw[Z4,OW];congr 1
 rw[B',OS,jO a];by_cases e:w∈r.2<;>simp[e]
structure RI(rows:List (W×List W))(K0 K:List W)(R:List Nat):Prop where
 Pn:∀t∈R,t<rows.length/\cnt rows K t=0
 all:∀t,t<rows.length->cnt rows K t=0->cnt rows K0 t=0\/t∈R
theorem RI.start(K:List W):RI rows K K []:=⟨by simp,λt _ h=>.inl h⟩
theorem RI.step(h:Once rows)(x:RI rows K0 K R)(d:w∉K):RI rows K0 (K++[w]) (R++(Iu rows rows.length w).filter λt=>df (cnt rows K t=1)):=by
 refine⟨λt ht=>?_,λt ht i=>?_⟩
 ·have a:=oW h d t;rcases lk.mp ht with ht|ht
  ·obtain⟨b,e⟩:=x.Pn t ht;exact⟨b,⋯⟩
  ·obtain⟨b,e⟩:=Lc.mp ht;obtain⟨f,g⟩:=iD.mp b;rw[ÿ g]at a;have:cnt rows K t=1:=by simpa using e
   exact⟨f,⋯⟩
 ·have a:=oW h d t;by_cases c:w∈told rows t
  ·rw[ÿ c]at a;exact .inr (lk.mpr (.inr (Lc.mpr ⟨iD.mpr ⟨ht,c⟩,by simp;lia⟩)))
  ·rw[ā c]at a;rcases x.all t ht ⋯ with z|z
   ·exact .inl z
   ·exact .inr (lk.mpr (.inl z))
structure NS(rows:List (W×List W))(K:List W)(d:List Nat)(ps:List (W×Nat)):Prop where
 ok:∀s∈ps,s.2∈d/\s.1∉K/\∃r,rows[s.2]?=a5 r/\r.1=s.1
 once:(ps.map (·.1)).Nodup
 all:∀p∈d,∀r,rows[p]?=a5 r->r.1∈K\/r.1∈ps.map (·.1)
theorem NS.start(K:List W):NS rows K [] []:=⟨by simp,by simp,by simp⟩
theorem NS.skip(x:NS rows K d ps)(f:rows[p]?=a5 r)(h:r.1∈K\/r.1∈ps.map (·.1)):NS rows K (d++[p]) ps :=
 ⟨λs hs=>let ⟨a,b,c⟩:=x.ok s hs;⟨by simp[a],b,c⟩,x.once,λq hq g e=>by
  rcases lk.mp hq with hq|hq
  ·exact x.all q hq g e
  ·have:q=p:=by simpa using hq
   subst this;rw[f]at e;cases e;exact h⟩
theorem NS.take(x:NS rows K d ps)(g:rows[p]?=a5 r)(h:r.1∉K)(i:r.1∉ps.map (·.1)):NS rows K (d++[p]) (ps++[(r.1,p)]):=by
 refine⟨λs hs=>?_,?_,λq hq j f=>?_⟩
 ·rcases lk.mp hs with hs|hs
  ·obtain⟨a,b,c⟩:=x.ok s hs;exact⟨by simp[a],b,c⟩
  ·have:s=(r.1,p):=by simpa using hs
   subst this;exact⟨by simp,h,r,g,rfl⟩
 ·rw[ke,sL];refine⟨x.once,by simp,λa k b l e=>?_⟩;have:b=r.1:=by simpa using l
  subst this;exact i (e▸k)
 ·rcases lk.mp hq with hq|hq
  ·rcases x.all q hq j f with z|z
   ·exact .inl z
   ·exact .inr (by simp only[ke,lk];exact .inl z)
  ·have:q=p:=by simpa using hq
   subst this;rw[g]at f;cases f;exact .inr (by simp)
theorem NS.perm(x:NS rows K d ps)(h:a.Perm ps):NS rows K d a :=
 ⟨λs hs=>x.ok s (h.mem_iff.mp hs),(h.map _).nodup_iff.mpr x.once,λp b r c=>(x.all p b r c).imp id λz=>(h.map _).mem_iff.mpr z⟩
structure LI(rows:List (W×List W))(HP:List (W×Nat))(R:List Nat):Prop where
 nd:(HP.map (·.1)).Nodup
 sn:Le rows (HP.map (·.1))
 wd:∀x∈HP.map (·.1),x∈rows.map (·.1)
 Pn:∀t∈R,t<rows.length/\cnt rows (HP.map (·.1)) t=0
 all:∀t r,rows[t]?=a5 r->cnt rows (HP.map (·.1)) t=0->t∈R\/r.1∈HP.map (·.1)
theorem LI.step(x:LI rows d R)(n:NS rows (d.map (·.1)) R st)(y:RI rows (d.map (·.1)) (d.map (·.1)++st.map (·.1)) j):LI rows (d++st) j:=by
 have em:(d++st).map (·.1)=d.map (·.1)++st.map (·.1):=ke;have hs:∀z∈st.map (·.1),z∉d.map (·.1)/\∃r∈rows,r.1=z/\∀x∈r.2,x∈d.map (·.1):=λz hz=>by
  obtain⟨s,hs,rfl⟩:=mh.mp hz;obtain⟨k,l,r,h,m⟩:=n.ok s hs;have hz:=(x.Pn _ k).2;rw[qH,jO h]at hz;exact⟨l,r,lg h,m,hz⟩
 refine⟨?_,λC f y hy=>?_,λy hy=>?_,λt o=>by rw[em];exact y.Pn t o,λt r g i=>?_⟩
 ·rw[em,sL];exact⟨x.nd,n.once,λa p b q e=>(hs b q).1 (e▸p)⟩
 ·rw[em]at hy;rcases lk.mp hy with hy|hy
  ·exact x.sn C f y hy
  ·obtain⟨_,r,a,b,c⟩:=hs y hy;exact b▸f r a λz hz=>x.sn C f z (c z hz)
 ·rw[em]at hy;rcases lk.mp hy with hy|hy
  ·exact x.wd y hy
  ·obtain⟨_,r,a,b,c⟩:=hs y hy;exact mh.mpr ⟨r,a,b⟩
 ·rw[em]at i ⊢;rcases y.all t (dV.mp g).1 i with z|z
  ·rcases x.all t r g z with z|z
   ·rcases n.all t z r g with z|z
    ·exact .inr (lk.mpr (.inl z))
    ·exact .inr (lk.mpr (.inr z))
   ·exact .inr (lk.mpr (.inl z))
  ·exact .inl z
theorem LI.closed(x:LI rows b []):gR rows (·∈b.map (·.1)):=λr c h=>by
 obtain⟨t,a⟩:=YP.mp c;rcases x.all t r a (by rw[qH,jO a];exact h) with z|z
 ·cases z
 ·exact z
theorem uV{K L:List W}(h:K.Nodup)(s:∀x∈K,x∈L):K.length<=L.length:=by
 induction K generalizing L with
 |nil=>simp
 |cons a K d =>
  obtain⟨f,g⟩:=mA.mp h;have b:a∈L:=s a (by simp);have:=d (L:=L.erase a) g λx c=>by
   have i:x≠a:=λe=>f (e▸c);exact(Tj i).mpr (s x (by simp[c]))
  rw[XZ b]at this;have:0<L.length:=Sy b;rw[ko];lia
end
end Od
namespace TM
open PySem L2 Ih
section
theorem GK(h:st[j]?=a5 (a5 (.own,u))):Run (lift (.bor j,a)) st u (st.set j (a5 (.loc,u))):=by
 show(match st[j]? with|some (a5 (.own,u))=>a5 (Ex.ok u,st.set j (a5 (.loc,u)))|_=>b6)=_;rw[h]
theorem ll(h:Run c st cL st1):Run (eW c body (n+1)) st .nx st1:=ab h aW
theorem lV(h:Run c st cb st1)(a:Run body st1 .nx st2)(b:Run (eW c body n) st2 f d):Run (eW c body (n+1)) st f d:=ab h (ab a b)
theorem m9(h:Run (eW (HX Γ c) (execs Γ body) fuel) st .nx st1)(a:Run (execs Γ ss) st1 f st2):Run (execs Γ (.Lw c body::ss)) st f st2:=fu h a
theorem jr(hk:k=.loc\/k=.any):Run (dm cb [i,j] (k,.tup [a,b])) st () ((st.set i (a5 (k,a))).set j (a5 (k,b))):=by
 rcases hk with rfl|rfl<;>rfl
theorem E4(h:Run (execs Γ ss) (st.set i (a5 (.G',.HE [] []))) f st1):Run (execs Γ (.newD i::ss)) st f st1:=fu (ab (a:=()) (st1:=st.set i (a5 (.G',.HE [] []))) rfl aW) h
theorem oX(h:st[i]?=a5 (a5 (.G',.HE ks us))):Run (ie i) st (ks,us) st:=by
 show ie i st=_;unfold ie;rw[h]
theorem sM:Run (jC (k,.str y)) st y st:=rfl
theorem B7(a:st[i]?=a5 (a5 (.G',.HE ks us)))(b:y∉ks)(c:ks.length<c6):Run (kM i y (.own,.lst xs)) st () (st.set i (a5 (.G',.HE (ks++[y]) (us++[.lst xs])))):=by
 show kM i y (.own,.lst xs) st=_;unfold kM
 dsimp only
 rw[a]
 dsimp only
 rw[ÿ ⟨b,c⟩]
theorem B8(a:st[i]?=a5 (a5 (.G',.HE ks us)))(b:cE ks us y=a5 (.lst xs))(c:xs.length<c6):Run (kN i y u) st () (st.set i (a5 (.G',.HE ks (jD ks us y (.lst (xs++[u])))))):=by
 show kN i y u st=_;unfold kN;rw[a]
 dsimp only
 rw[b]
 dsimp only
 rw[ÿ c]
theorem GL(b:Run (ev Γ a) st (k,.str y) st1)(c:st1[i]?=a5 (a5 (.G',.HE ks us))):Run (HX Γ (.inD neg a i)) st (Sl neg y ks) st1 :=
 ab b (ab sM (ab (oX c) aW))
theorem E5(b:Run (ev Γ c) st (.own,.lst xs) st1)(a:st1[i]?=a5 (a5 (.G',.HE ks us)))(d:Run (ev Γ e) st1 (k,.str y) st1)(g:y∉ks)(h:ks.length<c6)
  (j:Run (execs Γ ss) (st1.set i (a5 (.G',.HE (ks++[y]) (us++[.lst xs])))) f l):Run (execs Γ (.putD i e c::ss)) st f l:=by
 refine fu ?_ j;exact ab b (ab (oX a) (ab d (ab sM (ab (B7 a g h) aW))))
theorem E6(a:st[i]?=a5 (a5 (.G',.HE ks us)))(b:Run (ev Γ c) st (k,.str y) st)(d:y∈ks)(e:Run (ev Γ g) st r st)(h:Run (lift r) st u st)(j:cE ks us y=a5 (.lst xs))(l:xs.length<c6)
  (m:Run (execs Γ ss) (st.set i (a5 (.G',.HE ks (jD ks us y (.lst (xs++[u])))))) f n):Run (execs Γ (.J5 i c g::ss)) st f n:=by
 refine fu ?_ m;refine ab (oX a) (ab b (ab sM (ab (oX a) ?_)));rw[ÿ d];exact ab e (ab h (ab (B8 a j l) aW))
theorem GN(h:st[i]?=a5 (a5 (.G',u))):Run (ev Γ (.N4 i)) st (.bor i,u) (st.set i (a5 (.own,u))):=by
 show yj i st=_;unfold yj;rw[h]
theorem E7(c:st[i]?=a5 (a5 (.own,.HE ks us)))(d:Run (ev Γ a) st (k,.str y) st)(e:Run (ev Γ b) st z st)(f:Run (lift z) st u st)(g:(match cE ks us y with|some v=>(Kd.loc,v)|none=>(.loc,u))=r):
  Run (ev Γ (.Ku i a b)) st r st:=by
 refine ab (dH c) (ab (a:=()) (st1:=st) rfl (ab d (ab (a:=y) (st1:=st) rfl (ab e (ab f (ab (dH c) (b9 ?_)))))));subst g;rfl
theorem GO(b:st[i]?=a5 (a5 (.own,.lst us)))(d:Run (ev Γ e) st (k1,.int (j:Nat)) st)(c:us[j]?=a5 (.int o))(g:Run (ev Γ h) st (k2,.int w) st)
  (k:Run (execs Γ ss) (st.set i (a5 (.own,.lst (us.set j (.int (o - w)))))) f l):Run (execs Γ (.aug cb i e h::ss)) st f l:=by
 have hl:qh i st=a5 (.ok us,st):=by unfold qh;rw[b];rfl
 have m:j<us.length:=(dV.mp c).1;have hi:qi us (j:Nat)=a5 o:=by
  unfold qi;rw[ÿ ⋯,Ny,c]
 have n:Lj us.length (j:Nat)=a5 j:=by
  unfold Lj;rw[ÿ ⋯]
  first|(rw[ÿ ⋯];simp)|simp[m]
 refine fu (ab (a:=us) (st1:=st) hl (ab d (ab (a:=(j:Int)) (st1:=st) rfl (ab (a:=us) (st1:=st) hl (ab (b9 hi) (ab g (ab (a:=w) (st1:=st) rfl (ab (a:=()) (st1:=st.set i (a5 (.own,.lst (us.set j (.int (o - w)))))) ?_ aW)))))))) k;show modS i (dy (.int (j:Nat)) (.int (wt cb o w))) st=_;unfold modS;rw[b];simp only[Kd.root,if_true,dy];rw[n];rfl
theorem GP(a:st[i]?=a5 (a5 (.own,u)))(b:yg u=a5 r):Run (ev Γ (.N5 i)) st r st:=ab (dH a) (b9 b)
theorem E8(a:Run (ev Γ e) st r st1)(b:Run (dm cb is r) st1 () st2)(c:Run (execs Γ ss) st2 f d):Run (execs Γ (.K1 is e::ss)) st f d:=fu (ab a (ab b aW)) c
end
theorem lp(f:Str->U)(y:Str):∀ks:List Str,cE ks (ks.map f) y=if y∈ks then a5 (f y) else b6
 |[]=>rfl
 |k::ks=>by
  rw[ez];show(if k=y then a5 (f k) else cE ks (ks.map f) y)=_;by_cases e:k=y
  ·subst e;rw[ÿ rfl,ÿ (by simp)]
  ·rw[ā e,lp f y ks];have:(y∈k::ks)↔y∈ks:=by simp[sx e]
   by_cases h:y∈ks
   ·rw[ÿ h,ÿ (this.mpr h)]
   ·rw[ā h,ā λz=>h (this.mp z)]
theorem qL(f:Str->U)(y:Str)(u:U):∀ks:List Str,ks.Nodup->jD ks (ks.map f) y u=ks.map λk=>if k=y then u else f k
 |[],_=>rfl
 |k::ks,h=>by
  obtain⟨a,b⟩:=mA.mp h;rw[ez,ez];show(if k=y then u::ks.map f else f k::jD ks (ks.map f) y u)=_;by_cases e:k=y
  ·subst e;rw[ÿ rfl,ÿ rfl];congr 1
   refine tj λz hz=>?_;have c:z≠k:=λq=>a (by rw[<-q];exact hz);rw[ā c]
  ·rw[ā e,ā e,qL f y u ks b]
noncomputable def stN(s:Str×Nat):U:=.tup [.str s.1,.int (s.2:Nat)]
theorem m_(f:α->Int):∀(ns:List α),intsOf (ns.map λa=>U.int (f a))=a5 (ns.map f)
 |[]=>rfl
 |n::ns=>by show(intsOf (ns.map λa=>U.int (f a))).map _=_;rw[m_ f ns];rfl
theorem B9(h:ps.length<64)(c:(ps.map (·.1)).Nodup):∃a:List (Str×Nat),a.Perm ps/\yg (.HE (ps.map (·.1)) (ps.map λp=>.int (p.2:Nat)))=a5 (.own,.lst (a.map stN)):=by
 have hi:=m_ (λp:Str×Nat=>((p.2:Nat):Int)) ps;have hz:(ps.map (·.1)).zip (ps.map λp:Str×Nat=>((p.2:Nat):Int))=ps.map λp=>(p.1,((p.2:Nat):Int)):=by
  rw[List.zip_map']
 let P:=eF ((ps.map λp=>(p.1,((p.2:Nat):Int))).map (·.1));have b:P.Perm (i1 ps.length):=by
  have:=cn ((ps.map λp=>(p.1,((p.2:Nat):Int))).map (·.1));simpa[P] using this
 refine⟨P.map λi=>ps.getD i (r6,0),?_,?_⟩
 ·refine(b.map _).trans ?_;have:(i1 ps.length).map (λi=>ps.getD i (r6,0))=ps:=by
   apply LU
   ·simp
   ·intro i g d;simp[Ii,d]
  rw[this]
 ·show(intsOf (ps.map λp=>U.int (p.2:Nat))).bind _=_;rw[hi];show(if (ps.map (·.1)).length<64/\(ps.map (·.1)).Nodup/\(ps.map (·.1)).length=(ps.map λp:Str×Nat=>((p.2:Nat):Int)).length then _ else _)=_;rw[ÿ ⟨by simpa using h,c,by simp⟩,hz];congr 3
  show(Bi _).map wg=_;show(P.map λi=>(ps.map λp=>(p.1,((p.2:Nat):Int))).getD i (r6,0)).map wg=_;rw[i5,i5];refine tj λi e=>?_;have f:i<ps.length:=rr.mp (b.mem_iff.mp e);simp[Ii,f,wg,stN]
theorem GQ(h:df (i<=j)=c):bZ .le (.int i) (.int j)=a5 c:=by subst h;rfl
theorem sN:bZ .isin (.str x) (.HE ks vs)=a5 (df (x∈ks)):=rfl
theorem fU:bZ .HV (.str x) (.HE ks vs)=a5 (!df (x∈ks)):=rfl
theorem uW(a:List Bool):JJ .all [(k,.lst (a.map .bl))]=a5 (.loc,.bl (a.all id)):=by
 show(kJ (a.map U.bl)).map _=_;have:∀a:List Bool,kJ (a.map U.bl)=a5 a:=λa=>by
  induction a with
  |nil=>rfl
  |cons b a c=>show(kJ (a.map U.bl)).map _=_;rw[c];rfl
 rw[this];rfl
mutual
theorem ng:∀(n:Nat) (u:U),IM n u=cb->bV u u=cb
 |_,.HH,_=>rfl
 |_,.bl b,_=>by simp[bV]
 |_,.int i,_=>by simp[bV]
 |_,.str x,_=>by simp[bV]
 |0,.tup xs,h=>by simp[IM]at h
 |0,.lst xs,h=>by simp[IM]at h
 |n+1,.tup xs,h=>by rw[bV];exact gS n xs (by simpa[IM] using h)
 |n+1,.lst xs,h=>by rw[bV];exact gS n xs (by simpa[IM] using h)
 |_,.HE _ _,h=>by simp[IM]at h
theorem gS:∀(n:Nat) (us:List U),cX n us=cb->cw us us=cb
 |_,[],_=>rfl
 |n,u::us,h=>by
  have h':IM n u=cb/\cX n us=cb:=by simpa[cX] using h
  rw[cw,ng n u h'.1,gS n us h'.2];rfl
end
theorem nh(h:IM 50 u=cb):bZ .ne u u=a5 cL:=by
 simp only[bZ];rw[ÿ ⟨h,h⟩,ng 50 u h];rfl
section
theorem ni{told known:List Str}(hk:k=.loc\/k=.any)(hl:told.length<=1000)(hs:Run (ev Γ src) st (.loc,.tup (told.map .str)) st)(hj:st[j]?=a5 (a5 (k,w))\/st[j]?=a5 (a5 (.own,w)))(a:∀x:Str,bZ .isin (.str x) w=a5 (df (x∈known))):
  Run (ev Γ (.bi .all [.comp 1 cL .seq [src] [] (.cmp .isin (.var 0) (.var (j+1)))])) st (.loc,.bl (told.all λx=>df (x∈known))) st:=by
 have hsz:(1000:Nat)<=c6:=by decide
 have b:=i_ (cond:=bb Γ []) (elt:=ev Γ (.cmp .isin (.var 0) (.var (j+1)))) (src:=[(.loc,.tup (told.map .str))]) (st:=st) trivial .loc (.inl rfl) U.str (λx=>.bl (df (x∈known))) .loc (λ_=>ix) told [] (by simp;lia)
  (λy _=>⟨by
   rcases hj with hj|hj
   ·rcases hk with rfl|rfl
    ·exact gr (aa rfl) (aa (by simpa using hj)) trivial (a y)
    ·exact gr (aa rfl) (aR (by simpa using hj)) trivial (a y)
   ·exact gr (aa rfl) (av (by simpa using hj)) ⟨⟨.own,rfl,by simpa using hj⟩,trivial⟩ (a y),aH⟩)
 rw[mn]at b;have e:(told.map U.str).map (λu=>(kE .loc,u))=told.map λr=>(Kd.loc,U.str r):=by rw[i5];rfl
 have c:(told.map λx=>U.bl (df (x∈known)))=(told.map λx=>df (x∈known)).map U.bl:=by rw[i5];rfl
 rw[c]at b;have d:(told.all λx=>df (x∈known))=((told.map λx=>df (x∈known)).all id):=by rw[Yx];rfl
 rw[d];exact bC (ae (dJ (rs:=[(.loc,.tup (told.map .str))]) (ae hs ah) trivial (by show a5 _=_;rw[e]) b) ah) trivial (uW _)
end
theorem uX(h:ks.length<1000)(a:x∉ks):dy (.str x) u (.HE ks us)=a5 (.HE (ks++[x]) (us++[u])):=by
 rw[uU h];unfold dput;rw[ā a]
theorem lq(h:IM 50 (.lst us)=cb):bZ .ne (.lst us) (.lst [])=a5 (!us.isEmpty):=by
 simp only[bZ];rw[ÿ ⟨h,by simp[IM,cX]⟩];cases us with
 |_=>simp[bV,cw]
theorem nj(f:α->Int):∀(l:List α) (n:Nat),cX n (l.map λa=>U.int (f a))=cb
 |[],n=>by simp[cX]
 |a::l,n=>by rw[ez,cX,nj f l n];simp[IM]
theorem qM:∀(ss:List (Str×Nat)) (n:Nat),cX (n+1) (ss.map stN)=cb
 |[],n=>by simp[cX]
 |s::ss,n=>by rw[ez,cX,qM ss n];simp[stN,IM,cX]
theorem B_:bZ .eq (.tup (ss.map U.str)) (.tup [])=a5 (df (ss=[])):=by
 simp only[bZ];rw[ÿ ⟨by simp[IM,eJ],by simp[IM,cX]⟩];cases ss with
 |_=>simp[bV,cw]
theorem ja{cond:M Bool}(h:bp src st)(a b g:α->U)(p:α->Bool):∀(c:List α) (acc:List U),acc.length+c.length<=c6 ->
  (∀y∈c,Run cond (a5 (.loc,a y)::a5 (.loc,b y)::st) (p y) (a5 (.loc,a y)::a5 (.loc,b y)::st)/\Run elt (a5 (.loc,a y)::a5 (.loc,b y)::st) (.loc,g y) (a5 (.loc,a y)::a5 (.loc,b y)::st)) ->
  Run (bX 2 cb cond elt src (c.map λy=>(Kd.loc,U.tup [a y,b y])) acc) st (acc++(c.filter p).map g) st
 |[],acc,_,_=>by rw[Km,OS,Km,uk];exact uP h
 |y::c,acc,hl,f=>by
  obtain⟨d,j⟩:=f y (by simp);rw[ko]at hl;have i:Run (dm cb (i1 2) (.loc,.tup [a y,b y])) (kj 2 b6++st) () (a5 (.loc,a y)::a5 (.loc,b y)::st):=jr (.inl rfl);cases e:p y with
  |true =>
   rw[e]at d;refine oO (s1:=a5 (.loc,a y)::a5 (.loc,b y)::st) (s2:=a5 (.loc,a y)::a5 (.loc,b y)::st) (s3:=a5 (.loc,a y)::a5 (.loc,b y)::st) (s4:=a5 (.loc,a y)::a5 (.loc,b y)::st) h i d j aH ⋯ ?_;have:=ja h a b g p c (acc++[g y]) (by simp;lia) λz hz=>f z (by simp[hz]);rw[B',ÿ e,ez];simpa using this
  |false =>
   rw[e]at d;refine y0 (s1:=a5 (.loc,a y)::a5 (.loc,b y)::st) (s2:=a5 (.loc,a y)::a5 (.loc,b y)::st) h i d ?_;have:=ja h a b g p c acc ⋯ λz hz=>f z (by simp[hz]);rw[B',ā (by simp[e])];exact this
theorem set_range(n:Nat)(f:Nat->α)(t:Nat)(v:α):((i1 n).map f).set t v=(i1 n).map λp=>if p=t then v else f p:=by
 apply LU
 ·simp
 ·intro i a b;simp only[List.getElem_set,ZK,List.getElem_range];by_cases e:t=i
  ·subst e;simp
  ·rw[ā e,ā (sx e)]
theorem iE{rows:List Row}{t:Nat}(h:rows[t]?=a5 r):IU (rows.map A') (t:Int)=a5 (A' r):=gW (by simp[h])
section
theorem GR(c:Run (ev Γ a) st x st1)(d:ic x.2=a5 e)(f:Run (ev Γ b) st1 y st2)(g:ic y.2=a5 h)(i:wj ln e h=a5 r):Run (ev Γ (.N6 ln a b)) st r st2 :=
 ab c (ab (b9 d) (ab f (ab (b9 g) (b9 i))))
end
theorem nq(h:ss.length<4000):ic (.lst (ss.map .str))=a5 (aN ss):=by
 show(strsOf (ss.map U.str)).bind _=_;rw[dB];show(if ss.length+1<IJ then _ else _)=_;rw[ÿ (by show ss.length+1<4096;lia)]
end TM
namespace TM
open PySem L2
section
theorem dn(h:st[i]?=a5 (a5 (.io,u))):Run (ev Γ (.var i)) st (.bor i,u) st:=dH h
end
noncomputable def E9:List S :=
   [.ite (.cmp .eq (.bi .len [.var 0]) (.cst (.int 0)))
      [.ret (.lst [.var 1,.cst (.int 0),.cst (.int 1)])]
      [],
    .set 2 (.pop 0),
    .ret (.lst [(.bin .Nc (.var 2) (.cst (.int 2))),(.cst (.int 0)),(.bin .mod (.var 2) (.cst (.int 2)))])]
noncomputable def zb:Fn:=⟨"_law_source",2,3,.K3 [0]::E9⟩
theorem U6:(3:Nat)<=c6:=by decide
theorem zc:ft Γ zb [0] E9 [.lst [],.int k]=a5 (.ok (.own,.tup [.lst [.int k,.int 0,.int 1],.lst []])):=by
 refine bO (st0:=[a5 (.io,.lst []),a5 (.loc,.int k),b6]) (f:=.rt .own (.lst [.int k,.int 0,.int 1])) (st:=[a5 (.io,.lst []),a5 (.loc,.int k),b6]) rfl rfl ?_ rfl rfl;apply oN
 all_goals repeat' (first|exact dn rfl|exact b_ (by simp)|exact bt|exact U6|sizeOf_list_dec)
theorem zd:ft Γ zb [0] E9 [.lst ((ns++[c]).map .int),.int k]=a5 (.ok (.own,.tup [.lst [.int (c / 2),.int 0,.int (c % 2)],.lst (ns.map .int)])):=by
 have hl:bZ .eq (.int (((ns++[c]).map U.int).length:Nat)) (.int 0)=a5 cL:=b_ (by simp;lia);have a:((ns++[c]).map U.int).dropLast=ns.map .int:=by simp
 have b:Run (ev Γ (.pop 0)) [a5 (.io,.lst ((ns++[c]).map .int)),a5 (.loc,.int k),b6] (.loc,.int c) [a5 (.io,.lst (ns.map .int)),a5 (.loc,.int k),b6]:=by
  have:=y6 (Γ:=Γ) (st:=[a5 (.io,.lst ((ns++[c]).map .int)),a5 (.loc,.int k),b6]) (i:=0) (u:=.int c) (us:=(ns++[c]).map .int) (k:=.io) rfl rfl (by simp);rw[a]at this;exact this
 refine bO (st0:=[a5 (.io,.lst ((ns++[c]).map .int)),a5 (.loc,.int k),b6]) (f:=.rt .own (.lst [.int (c / 2),.int 0,.int (c % 2)])) (st:=[a5 (.io,.lst (ns.map .int)),a5 (.loc,.int k),a5 (.loc,.int c)]) rfl rfl ?_ rfl rfl;refine bc (st1:=[a5 (.io,.lst ((ns++[c]).map .int)),a5 (.loc,.int k),b6]) ?_ ao (au (st2:=[a5 (.io,.lst (ns.map .int)),a5 (.loc,.int k),a5 (.loc,.int c)]) b aF ?_)
 all_goals repeat' (first|exact dn rfl|exact hl|exact bt|exact U6|sizeOf_list_dec)
noncomputable def d9(a t w:Int):U:=.lst [.int a,.int t,.int w]
noncomputable def nu(a t w m:Int):Int:=if w=0 then a % m else((a % 10 ^ 15+1) * 48271+(t+1) * (t+1) * 16807+(t+1) * 7919) % 2147483647 * 69621 % 2147483629 % m
noncomputable def ze(a w m:Int):Int:=if w=0 then a / m else a
noncomputable def C4:List S :=
   [.put 0 (.cst (.int 1)) (.bin .add (.idx (.var 0) (.cst (.int 1))) (.cst (.int 1))),
    .ite (.cmp .eq (.idx (.var 0) (.cst (.int 2))) (.cst (.int 0)))
      [.set 2 (.bin .mod (.idx (.var 0) (.cst (.int 0))) (.var 1)),
      .put 0 (.cst (.int 0)) (.bin .Nc (.idx (.var 0) (.cst (.int 0))) (.var 1)),
      .ret (.var 2)]
      [],
    .set 3 (.idx (.var 0) (.cst (.int 1))),
    .set 4 (.bin .add (.bin .add (.bin .mul (.bin .add (.bin .mod (.idx (.var 0) (.cst (.int 0))) (.bin .pow (.cst (.int 10)) (.cst (.int 15)))) (.cst (.int 1))) (.cst (.int 48271))) (.bin .mul (.bin .mul (.var 3) (.var 3)) (.cst (.int 16807)))) (.bin .mul (.var 3) (.cst (.int 7919)))),
    .ret (.bin .mod (.bin .mod (.bin .mul (.bin .mod (.var 4) (.cst (.int 2147483647))) (.cst (.int 69621))) (.cst (.int 2147483629))) (.var 1))]
noncomputable def uY:Fn:=⟨"_law_draw",2,5,.K3 [0]::C4⟩
theorem zf(i:0<=t)(j:t<2 ^ 62)(m0:0<m)(m1:m<1073741824):ft Γ uY [0] C4 [d9 a t w,.int m]=a5 (.ok (.loc,.tup [.int (nu a t w m),d9 (ze a w m) (t+1) w])):=by
 unfold nu ze d9;have c:∀a t w:Int,IU [U.int a,.int t,.int w] 0=a5 (.int a):=λa t w=>rfl;have d:∀a t w:Int,IU [U.int a,.int t,.int w] 1=a5 (.int t):=λa t w=>rfl;have e:∀a t w:Int,IU [U.int a,.int t,.int w] 2=a5 (.int w):=λa t w=>rfl;have g:∀a t w x:Int,dy (.int 1) (.int x) (.lst [.int a,.int t,.int w])=a5 (.lst [.int a,.int x,.int w]):=λa t w x=>rfl;have h:∀a t w x:Int,dy (.int 0) (.int x) (.lst [.int a,.int t,.int w])=a5 (.lst [.int x,.int t,.int w]):=λa t w x=>rfl;by_cases b:w=0
 ·subst b;rw[ÿ rfl,ÿ rfl];refine bO (st0:=[a5 (.io,.lst [.int a,.int t,.int 0]),a5 (.loc,.int m),b6,b6,b6]) (f:=.rt .loc (.int (a % m))) (st:=[a5 (.io,.lst [.int (a / m),.int (t+1),.int 0]),a5 (.loc,.int m),a5 (.loc,.int (a % m)),b6,b6]) rfl rfl ?_ rfl rfl;refine iB (rv:=(.loc,.int (t+1))) (rk:=(.loc,.int 1)) (k:=.io) (k':=.io) (bw (aI (dn rfl) ai ∅ (cz (d _ _ _))) ai ∅ bW) rfl ai (aA aH (aA aH aE)) rfl rfl (g _ _ _ _) ?_;apply oN
  ·repeat' (first|exact dn rfl|exact cz (e _ _ _)|exact b_ (show((0:Int)==0)=cb from rfl)|sizeOf_list_dec)
  ·refine au (st2:=[a5 (.io,.lst [.int a,.int (t+1),.int 0]),a5 (.loc,.int m),a5 (.loc,.int (a % m)),b6,b6]) (bw (aI (dn rfl) ai ∅ (cz (c _ _ _))) (aa rfl) ∅ (dZ m0)) aF ?_;refine iB (rv:=(.loc,.int (a / m))) (rk:=(.loc,.int 0)) (k:=.io) (k':=.io) (bw (aI (dn rfl) ai ∅ (cz (c _ _ _))) (aa rfl) ∅ (k9 ⟨m0,m1⟩)) rfl ai (aA aH (aA aH aE)) rfl rfl (h _ _ _ _) ?_
   repeat' sizeOf_list_dec
 ·rw[ā b,ā b];refine bO (st0:=[a5 (.io,.lst [.int a,.int t,.int w]),a5 (.loc,.int m),b6,b6,b6]) (f:=.rt .loc (.int (((a % 10 ^ 15+1) * 48271+(t+1) * (t+1) * 16807+(t+1) * 7919) % 2147483647 * 69621 % 2147483629 % m))) (st:=[a5 (.io,.lst [.int a,.int (t+1),.int w]),a5 (.loc,.int m),b6,a5 (.loc,.int (t+1)),a5 (.loc,.int ((a % 10 ^ 15+1) * 48271+(t+1) * (t+1) * 16807+(t+1) * 7919))]) rfl rfl ?_ rfl rfl;refine iB (rv:=(.loc,.int (t+1))) (rk:=(.loc,.int 1)) (k:=.io) (k':=.io) (bw (aI (dn rfl) ai ∅ (cz (d _ _ _))) ai ∅ bW) rfl ai (aA aH (aA aH aE)) rfl rfl (g _ _ _ _) ?_;apply bc
  ·repeat' (first|exact dn rfl|exact cz (e _ _ _)|exact b_ (show(w==0)=cL by simp[b])|sizeOf_list_dec)
  ·exact ao
  ·repeat' (first|exact dn rfl|exact cz (c _ _ _)|exact cz (d _ _ _)|exact dZ m0|sizeOf_list_dec)
def Src(T:Int)(u:U):Prop:=∃a t w,u=d9 a t w/\0<=t/\t<=T
theorem Src.up(h:Src T u)(l:T<=b):Src b u:=let ⟨a,t,w,e,c,d⟩:=h;⟨a,t,w,e,c,SN d l⟩
def a_(Γ:Tab):Prop:=∀(T m:Int) (u:U),Src T u->T<2 ^ 62->0<m->m<1073741824->∃n u',Γ "_law_draw" [u,.int m]=a5 (.ok (.loc,.tup [.int n,u']))/\0<=n/\n<m/\Src (T+1) u'
theorem qN(m0:0<m):0<=nu a t w m/\nu a t w m<m:=by
 unfold nu;split
 ·exact⟨Q2 _ ⋯,RB _ m0⟩
 ·exact⟨Q2 _ ⋯,RB _ m0⟩
theorem sO(h:IH Pg "_law_draw" uY):a_ (HW Pg (d+1)):=by
 rintro T m u ⟨a,t,w,rfl,b,c⟩ e m0 m1;refine⟨nu a t w m,d9 (ze a w m) (t+1) w,?_,(qN m0).1,(qN m0).2,⟨_,_,_,rfl,⋯,⋯⟩⟩;rw[cu h _ rfl];exact zf b ⋯ m0 m1
section
theorem zg(o:a_ Γ)(p:st[i]?=a5 (a5 (k0,b)))(f:k0.root=cb)(q:Run (ev Γ e) st (.loc,.int m) st1)(d:st1[i]?=a5 (a5 (k,u)))(hk:k.root=cb)(g:Src T u)(r:T<2 ^ 62)(m0:0<m)(m1:m<1073741824):
  ∃n u',Run (ev Γ (.HF "_law_draw" [.var i,e] [0])) st (.loc,.int n) (st1.set i (a5 (k,u')))/\0<=n/\n<m/\Src (T+1) u':=by
 obtain⟨n,u',s,v,x,hs⟩:=o T m u g r m0 m1;refine⟨n,u',?_,v,x,hs⟩;obtain⟨a,t,w,rfl,_,_⟩:=hs;obtain⟨a0,h,l,rfl,_,_⟩:=g;have y:Run (ev Γ (.var i)) st (.bor i,b) st:=by
  have:=dH p (by rintro rfl;cases f);unfold kv at this;rw[ÿ f]at this;exact this
 have c:[((Kd.bor i,b):Kd×U),(.loc,.int m)].map (dN st1)=[(.bor i,d9 a0 h l),(.loc,.int m)]:=by
  show [dN st1 (.bor i,b),(.loc,.int m)]=_;unfold dN
  dsimp only
  rw[d];simp[hk]
 refine oP (rs:=[(.bor i,b),(.loc,.int m)]) (ws:=[d9 a t w]) (st1:=st1) (ae y (ae q ah)) ?_ ?_ (.inr rfl) ?_ ?_
 ·rw[c];exact⟨⟨k,hk,d⟩,trivial⟩
 ·rw[c];exact s
 ·rw[c];show((cb&&df ([a5 i].Nodup))&&(cb&&(cb&&cb)))=cb;simp
 ·rw[c];show(match gK [(Kd.bor i,d9 a0 h l),(.loc,.int m)] 0 with|some j=>(match d9 a t w,st1[j]? with|.lst us,a5 (a5 (k,_))=>gp _ [] [] (st1.set j (a5 (k,.lst us)))|_,_=>b6)|none=>b6)=_;show(match d9 a t w,st1[i]? with|.lst us,a5 (a5 (k,_))=>gp _ [] [] (st1.set i (a5 (k,.lst us)))|_,_=>b6)=_;rw[d];rfl
theorem cW(b:a_ Γ)(a:st[i]?=a5 (a5 (k,u)))(hk:k.root=cb)(c:Run (ev Γ e) st (.loc,.int m) st)(d:Src T u)(f:T<2 ^ 62)(m0:0<m)(m1:m<1073741824):
  ∃n u',Run (ev Γ (.HF "_law_draw" [.var i,e] [0])) st (.loc,.int n) (st.set i (a5 (k,u')))/\0<=n/\n<m/\Src (T+1) u':=zg b a hk c a hk d f m0 m1
end
section
theorem fe(h:st[i]?=a5 (a5 (.loc,.bl b))):Run (HX Γ (.var i)) st b st:=ab (dH h) (b9 rfl)
end
noncomputable def zh:List S :=
   [.set 6 (.idx (.var 1) (.HF "_law_draw" [.var 0,.bi .len [.var 1]] [0])),
   .ite (.and [.var 3,.cmp .gt (.var 2) (.cst (.int 0))])
    [.set 6 (.idx (.var 1) (.HF "_law_draw" [.var 0,.var 2] [0]))]
    [],
   .ite (.cmp .HV (.var 6) (.var 4))
    [.app 4 (.var 6)]
    []]
noncomputable def GS:List U:=[.int 0,.int 1,.int 1,.int 2,.int 2,.int 3,.int 8,.int 2]
noncomputable def GU:List S :=
   [.set 4 (.lst []),
    .Ia cL [5] .Jl [.idx (.lst [.cst (.int 0),.cst (.int 1),.cst (.int 1),.cst (.int 2),.cst (.int 2),.cst (.int 3),.cst (.int 8),.cst (.int 2)]) (.HF "_law_draw" [.var 0,.cst (.int 8)] [0])] zh,
    .ret (.tup [(.idx (.var 1) (.var 2)),(.bi .tuple [(.var 4)])])]
noncomputable def E_:Fn:=⟨"_law_row",4,7,.K3 [0]::GU⟩
noncomputable def dM(u:U)(ws:List Str)(at_:Int)(b:Bool)(told:List Str)(o5 o6:Option (Kd×U)):aw:=[a5 (.io,u),a5 (.any,.lst (ws.map .str)),a5 (.loc,.int at_),a5 (.loc,.bl b),a5 (.own,.lst (told.map .str)),o5,o6]
theorem jP{ws:List Str}{n:Int}(b:0<=n)(c:n<ws.length):∃x,x∈ws/\ws[n.toNat]?=a5 x/\IU (ws.map U.str) n=a5 (.str x):=by
 obtain⟨k,rfl⟩:=wh b;have a:k<ws.length:=by lia
 exact⟨ws[k],LS a,by simp[a],gW (by simp[a])⟩
theorem zi(j:a_ Γ)(s:Src T u)(G:T+1<2 ^ 62)(H:ws.length<1000000)(a0:0<=at_)(a1:at_<ws.length)(I:told.length<=8):
  ∃u' x a,Run (execs Γ zh) (dM u ws at_ b told o5 o6) .nx (dM u' ws at_ b a o5 (a5 (.any,.str x)))/\Src (T+2) u'/\(a=told\/(x∈ws/\x∉told/\a=told++[x])):=by
 have t:(8:Nat)<c6:=by decide
 obtain⟨n,f,v,w,l,s1⟩:=cW (st:=dM u ws at_ b told o5 o6) j (i:=0) (k:=.io) (e:=.bi .len [.var 1]) (m:=((ws.map U.str).length:Nat)) rfl rfl (bC (ae (aR rfl) ah) trivial bt) s ⋯ (by simp;lia) (by simp;lia);rw[cc]at l;obtain⟨x,A,_,ex⟩:=jP w l;have o:Run (ev Γ (.idx (.var 1) (.HF "_law_draw" [.var 0,.bi .len [.var 1]] [0]))) (dM u ws at_ b told o5 o6) (.any,.str x) (dM f ws at_ b told o5 o6):=aI (aR rfl) v trivial (cz (k:=.any) ex);have d:∀(c:U) (y:Str),y∈ws->Src (T+2) c->∃u' x a,Run (execs Γ [.ite (.cmp .HV (.var 6) (.var 4)) [.app 4 (.var 6)] []]) (dM c ws at_ b told o5 (a5 (.any,.str y))) .nx (dM u' ws at_ b a o5 (a5 (.any,.str x)))/\Src (T+2) u'/\(a=told\/(x∈ws/\x∉told/\a=told++[x])):=by
  intro c y g hs;by_cases h:y∈told
  ·refine⟨c,y,told,?_,hs,.inl rfl⟩;refine bc (aM (aR rfl) (av rfl) ∅ (iA.trans (by simp[h]))) ao ao
  ·refine⟨c,y,told++[y],?_,hs,.inr ⟨g,h,rfl⟩⟩;refine cy (aM (aR rfl) (av rfl) ∅ (iA.trans (by simp[h]))) (dX (k:=.own) (k':=.own) rfl (aR rfl) (qx rfl) rfl rfl (by simp;lia) ao) ?_;rw[show told.map U.str++[U.str y]=(told++[y]).map U.str by simp];exact ao
 by_cases p:b=cb/\0<at_
 ·obtain⟨rfl,r⟩:=p;obtain⟨J,c,B,C,L,s2⟩:=cW (st:=dM f ws at_ cb told o5 (a5 (.any,.str x))) j (i:=0) (k:=.io) (e:=.var 2) (m:=at_) rfl rfl (aa rfl) s1 ⋯ r ⋯;obtain⟨y,g,_,D⟩:=jP (ws:=ws) C ⋯;obtain⟨u',z,a,q,hs,ho⟩:=d c y g (s2.up ⋯);refine⟨u',z,a,au o iy (cy (gu (k8 (fe rfl) (dI (aM (aa rfl) ai trivial (iz (by simp[r])))))) (au (aI (aR rfl) B trivial (cz (k:=.any) D)) iy ao) q),hs,ho⟩
 ·obtain⟨u',z,a,q,hs,ho⟩:=d f x A (s1.up ⋯);refine⟨u',z,a,au o iy (bc (st1:=dM f ws at_ b told o5 (a5 (.any,.str x))) (gu ?_) ao q),hs,ho⟩;cases b with
  |false=>exact sy (fe rfl)
  |true=>exact k8 (fe rfl) (dI (aM (aa rfl) ai trivial (iz (by simp at p ⊢;lia))))
def lr(Γ:Tab):Prop:=∀(T at_:Int) (u:U) (ws:List Str) (b:Bool),Src T u->T+17<2 ^ 62->ws.length<1000000->0<=at_->at_<ws.length->∃(x:Str) (told:List Str) (u':U),Γ "_law_row" [u,.lst (ws.map .str),.int at_,.bl b]=a5 (.ok (.loc,.tup [.tup [.str x,.tup (told.map .str)],u']))/\ws[at_.toNat]?=a5 x/\told.Nodup/\(∀y∈told,y∈ws)/\told.length<=8/\Src (T+17) u'
theorem Ca(a:0<=n)(b:n<8):∃m:Nat,m<=8/\IU GS n=a5 (.int (m:Nat)):=by
 obtain⟨k,rfl⟩:=wh a;have:k=0\/k=1\/k=2\/k=3\/k=4\/k=5\/k=6\/k=7:=by lia
 rcases this with rfl|rfl|rfl|rfl|rfl|rfl|rfl|rfl
 ·exact⟨0,⋯,rfl⟩
 ·exact⟨1,⋯,rfl⟩
 ·exact⟨1,⋯,rfl⟩
 ·exact⟨2,⋯,rfl⟩
 ·exact⟨2,⋯,rfl⟩
 ·exact⟨3,⋯,rfl⟩
 ·exact⟨8,⋯,rfl⟩
 ·exact⟨2,⋯,rfl⟩
theorem Cb(o:a_ Γ){ws:List Str}{T at_:Int}(p:Src T u)(hT:T+17<2 ^ 62)(A:ws.length<1000000)(a0:0<=at_)(a1:at_<ws.length):
  ∃(x:Str) (told:List Str) (u':U),ft Γ E_ [0] GU [u,.lst (ws.map .str),.int at_,.bl b]=a5 (.ok (.loc,.tup [.tup [.str x,.tup (told.map .str)],u']))/\ws[at_.toNat]?=a5 x/\told.Nodup/\(∀y∈told,y∈ws)/\told.length<=8/\Src (T+17) u':=by
 have B:(8:Nat)<c6:=by decide
 obtain⟨x,_,C,ex⟩:=jP a0 a1;obtain⟨n,s,D,G,H,s1⟩:=cW (st:=dM u ws at_ b [] b6 b6) o (i:=0) (k:=.io) (e:=.cst (.int 8)) (m:=8) rfl rfl ai p ⋯ ⋯ ⋯;obtain⟨m,hm,em⟩:=Ca G H;obtain⟨st',I,g,told,o5,o6,rfl,s2,j,l,v,_⟩:=cj (rs:=[(.loc,.int (m:Nat))]) (t:=cL) (is:=[5]) (body:=execs Γ zh) (λi:Nat=>(Kd.loc,U.int (0+(i:Int)))) (λd r st=>∃(g:U) (told:List Str) (o5 o6:Option (Kd×U)),st=dM g ws at_ b told o5 o6/\Src (T+1+2 * (d.length:Nat)) g/\told.Nodup/\(∀y∈told,y∈ws)/\told.length<=d.length/\d.length+r.length=m)
  (λd r st _=>trivial) (λd y r st h=>by
   obtain⟨g,told,o5,o6,rfl,s2,j,l,v,J⟩:=h;simp only[ko]at J;obtain⟨L,z,N,q,s3,ho⟩:=zi o (u:=g) (ws:=ws) (told:=told) (b:=b) (at_:=at_) (o5:=a5 (.loc,.int (0+(y:Int)))) (o6:=o6) s2 ⋯ A a0 a1 ⋯;refine⟨dM g ws at_ b told (a5 (.loc,.int (0+(y:Int)))) o6,_,aF,q,L,N,_,_,rfl,s3.up (by simp;lia),?_⟩;rw[hY,nH];rcases ho with rfl|⟨O,Q,rfl⟩
   ·exact⟨j,l,⋯,⋯⟩
   ·refine⟨sL.mpr ⟨j,by simp,λa Y c w=>by rw[i3]at w;subst w;exact λe=>Q (e▸Y)⟩,λy hy=>?_,by simp;lia,⋯⟩;rcases lk.mp hy with hy|hy
    ·exact l y hy
    ·rw[i3]at hy;subst hy;exact O) (i1 m) [] (dM s ws at_ b [] b6 b6) ⟨s,[],b6,b6,rfl,by simpa using s1,by simp,by simp,by simp,by simp⟩
 rw[mn,w6]at s2 v;refine⟨x,told,g,?_,C,j,l,⋯,s2.up ⋯⟩;refine bO (st0:=[a5 (.io,u),a5 (.any,.lst (ws.map .str)),a5 (.loc,.int at_),a5 (.loc,.bl b),b6,b6,b6]) (f:=.rt .loc (.tup [.str x,.tup (told.map .str)])) (st:=dM g ws at_ b told o5 o6) rfl ?_ ?_ rfl rfl
 ·obtain⟨_,_,_,rfl,_⟩:=p;rfl
 refine au (st2:=dM u ws at_ b [] b6 b6) (bJ ah trivial aE (i8 _)) aY ?_;refine cV (rs:=[(.loc,.int (m:Nat))]) (ae (aI (x:=(.own,.lst GS)) (bJ (by repeat (first|exact ah|exact ae ai (by assumption)|apply ae ai)) (by exact trivial) (by repeat (first|exact aE|apply aA aH)) (by decide)) D trivial (cz em)) ah) trivial (gQ ⋯) rfl I ?_;exact bN (gs (ae (aI (aR rfl) (aa rfl) trivial (cz (k:=.any) ex)) (ae (bC (ae (av rfl) ah) ∅ rfl) ah)) trivial (aA (qx rfl) (aA aH aE)) (by show 2<=c6;lia)) fL
theorem GV(a:a_ (HW Pg d))(h:IH Pg "_law_row" E_):lr (HW Pg (d+1)):=by
 intro T at_ u ws b c f g a0 a1;obtain⟨x,told,u',e,r⟩:=Cb a (b:=b) c f g a0 a1;exact⟨x,told,u',by rw[cu h _ rfl];exact e,r⟩
noncomputable def C5:List S :=
   [.ite (.and [.cmp .eq (.idx (.var 2) (.cst (.int 0))) (.idx (.var 1) (.cst (.int 0))),.cmp .eq (.bi .sorted [.idx (.var 2) (.cst (.int 1))]) (.bi .sorted [.idx (.var 1) (.cst (.int 1))])])
    [.K2]
    []]
noncomputable def GW:List S:=[.Ia cL [2] .seq [.var 0] C5,.app 0 (.var 1)]
noncomputable def Cc:Fn:=⟨"_law_lay",2,3,.K3 [0]::GW⟩
noncomputable def gx(rs:List Row)(r:Row)(o:Option (Kd×U)):aw:=[a5 (.io,.lst (rs.map A')),a5 (.loc,A' r),o]
noncomputable def layR(rs:List Row)(r:Row):List Row:=if keyOf r∈rs.map keyOf then rs else rs++[r]
theorem zj(c:x.2.length<64)(d:r.2.length<64):Run (HX Γ (.and [.cmp .eq (.idx (.var 2) (.cst (.int 0))) (.idx (.var 1) (.cst (.int 0))),.cmp .eq (.bi .sorted [.idx (.var 2) (.cst (.int 1))]) (.bi .sorted [.idx (.var 1) (.cst (.int 1))])])) (gx rs r (a5 (.loc,A' x))) (df (keyOf x=keyOf r)) (gx rs r (a5 (.loc,A' x))):=by
 have a:∀y:Row,d7 (.loc,A' y) (.int 0)=a5 (.loc,.str y.1):=λy=>rfl;have b:∀y:Row,d7 (.loc,A' y) (.int 1)=a5 (.loc,.tup (y.2.map .str)):=λy=>rfl;have f:Run (HX Γ (.cmp .eq (.idx (.var 2) (.cst (.int 0))) (.idx (.var 1) (.cst (.int 0))))) (gx rs r (a5 (.loc,A' x))) (df (x.1=r.1)) (gx rs r (a5 (.loc,A' x))):=aM (aI (aa rfl) ai trivial (a x)) (aI (aa rfl) ai trivial (a r)) trivial uR;have g:Run (HX Γ (.cmp .eq (.bi .sorted [.idx (.var 2) (.cst (.int 1))]) (.bi .sorted [.idx (.var 1) (.cst (.int 1))]))) (gx rs r (a5 (.loc,A' x))) (df (aJ x.2=aJ r.2)) (gx rs r (a5 (.loc,A' x))):=aM (bC (ae (aI (aa rfl) ai trivial (b x)) ah) trivial (sorted_strs c)) (bC (ae (aI (aa rfl) ai trivial (b r)) ah) trivial (sorted_strs d)) trivial qE;have e:df (keyOf x=keyOf r)=(df (x.1=r.1)&&df (aJ x.2=aJ r.2)):=by
  rw[<-Bool.decide_and];exact decide_eq_decide.mpr (by unfold keyOf;exact WT ..▸Iff.rfl)
 rw[e];exact gu (lb f λ_=>dI g)
theorem Fb:Run (execs Γ (.K2::ss)) st (.rt .loc .HH) st:=wJ (aW)
theorem qO(b:r.2.length<64):∀(xs:List Row) (o:Option (Kd×U)),(∀x∈xs,x.2.length<64) ->
  ∃o',Run (forM cL [2] (execs Γ C5) [(.bor 0,.lst (rs.map A'))] (xs.map λx=>(Kd.loc,A' x))) (gx rs r o) (if keyOf r∈xs.map keyOf then .rt .loc .HH else .nx) (gx rs r o')
 |[],o,_=>⟨o,by rw[ā (by simp)];exact uO ⟨⟨_,rfl,rfl⟩,trivial⟩⟩
 |x::xs,o,h=>by
  have a:=zj (Γ:=Γ) (rs:=rs) (h x (by simp)) b;by_cases hk:keyOf x=keyOf r
  ·refine⟨a5 (.loc,A' x),?_⟩;rw[ÿ (by simp[hk])];rw[ă hk]at a;exact HB ⟨⟨_,rfl,rfl⟩,trivial⟩ aF (oN a Fb)
  ·rw[Ă hk]at a;obtain⟨o',q⟩:=qO (Γ:=Γ) (rs:=rs) b xs (a5 (.loc,A' x)) λy c=>h y (by simp[c]);refine⟨o',?_⟩;have d:(keyOf r∈(x::xs).map keyOf)↔(keyOf r∈xs.map keyOf):=by
    rw[ez,fR];exact⟨λz=>z.resolve_left λe=>hk e.symm,.inr⟩
   rw[show(if keyOf r∈(x::xs).map keyOf then Fl.rt .loc .HH else Fl.nx)=(if keyOf r∈xs.map keyOf then Fl.rt .loc .HH else Fl.nx) by simp only[d]];exact B4 ⟨⟨_,rfl,rfl⟩,trivial⟩ aF (bc a ao ao) q
theorem Cd(a:r.2.length<64)(h:∀x∈rs,x.2.length<64)(hl:rs.length<1000):ft Γ Cc [0] GW [.lst (rs.map A'),A' r]=a5 (.ok (.loc,.tup [.HH,.lst ((layR rs r).map A')])):=by
 have b:(1000:Nat)<c6:=by decide
 obtain⟨o',q⟩:=qO (Γ:=Γ) a rs b6 h;have hs:cM [0] [.lst (rs.map A'),A' r] Cc.ns=gx rs r b6:=by
  show [a5 (Kd.io,U.lst (rs.map A')),a5 (if H_ (A' r)=cb then Kd.loc else Kd.any,A' r),b6]=_;rw[ÿ (oU r)];rfl
 have hi:JV .seq [(Kd.bor 0,U.lst (rs.map A'))]=a5 (rs.map λx=>(Kd.loc,A' x)):=by
  show a5 ((rs.map A').map λu=>(kE (.bor 0),u))=_;rw[i5];rfl
 unfold layR;by_cases hk:keyOf r∈rs.map keyOf
 ·rw[ÿ hk]at q ⊢;exact bO (f:=.rt .loc .HH) rfl hs (wJ (C1 (ae (dn rfl) ah) ⟨⟨_,rfl,rfl⟩,trivial⟩ hi rfl q)) rfl rfl
 ·rw[ā hk]at q ⊢;refine bO (f:=.nx) (st:=gx (rs++[r]) r o') rfl hs (cV (ae (dn rfl) ah) ⟨⟨_,rfl,rfl⟩,trivial⟩ hi rfl q (dX (k:=.io) (k':=.io) rfl (aa rfl) aH rfl rfl (by simp;lia) ?_)) rfl rfl;rw[show rs.map A'++[A' r]=(rs++[r]).map A' by simp];exact ao
def lu(Γ:Tab):Prop:=∀(rs:List Row) (r:Row),r.2.length<64->(∀x∈rs,x.2.length<64)->rs.length<1000->Γ "_law_lay" [.lst (rs.map A'),A' r]=a5 (.ok (.loc,.tup [.HH,.lst ((layR rs r).map A')]))
theorem GX(h:IH Pg "_law_lay" Cc):lu (HW Pg (d+1)):=λrs r a b hl=>by
 rw[cu h _ rfl];exact Cd a b hl
noncomputable def Po:Kd×U->Bool
 |(.bor _,_)=>cL
 |_=>cb
section
theorem qQ(h:Po r=cb):dN st r=r:=by
 obtain⟨k,u⟩:=r;cases k<;>first|rfl|cases h
theorem nv(h:Po r=cb):yh a r=cb:=by
 obtain⟨k,u⟩:=r;cases k<;>first|rfl|cases h
theorem qR(h:rs.all Po=cb):bp rs st:=by
 induction rs with
 |nil=>trivial
 |cons r rs a =>
  obtain⟨k,u⟩:=r;rw[Ï,c4]at h;have:=a h.2;cases k<;>first|exact this|cases h.1
theorem gT(l:st[i]?=a5 (a5 (k0,a)))(g:k0.root=cb)(m:Run (bK Γ es) st rs st1)(c:st1[i]?=a5 (a5 (k,.lst us)))(hk:k.root=cb)(n:bU us=cb)(d:rs.all Po=cb)
  (o:Γ f (.lst us::rs.map (·.2))=a5 (.ok (e,.tup [v,.lst h]))) (p:e=.own\/e=.loc):Run (ev Γ (.HF f (.var i::es) [0])) st (e,v) (st1.set i (a5 (k,.lst h))):=by
 have s:Run (ev Γ (.var i)) st (.bor i,a) st:=by
  have:=dH l (by rintro rfl;cases g);unfold kv at this;rw[ÿ g]at this;exact this
 have t:dN st1 (.bor i,a)=(.bor i,.lst us):=by
  unfold dN
  dsimp only
  rw[c];simp[hk]
 have u:rs.map (dN st1)=rs:=by
  conv=>rhs;rw[<-Vm rs]
  exact tj λr w=>qQ (i7.mp d r w)
 have b:((Kd.bor i,a)::rs).map (dN st1)=(.bor i,.lst us)::rs:=by rw[ez,t,u]
 have j:gK ((Kd.bor i,U.lst us)::rs) 0=a5 i:=by
  show(if bU us=cb then a5 i else b6)=_;rw[ÿ n]
 refine oP (rs:=(.bor i,a)::rs) (ws:=[.lst h]) (st1:=st1) (ae s m) ?_ ?_ p ?_ ?_
 ·rw[b];exact⟨⟨k,hk,c⟩,qR d⟩
 ·rw[b];exact o
 ·rw[b];unfold qf;rw[c4,c4];refine⟨⟨by simp[j],by simp⟩,i7.mpr λq x=>?_⟩;cases q with
  |zero=>simp
  |succ q =>
   have hl:q<rs.length:=by have:=rr.mp x;simpa using this
   rw[Lf];refine .inr (nv ?_);rw[show((Kd.bor i,U.lst us)::rs).getD (q+1) (.loc,.HH)=rs[q] by simp[Ii,hl]];exact i7.mp d _ (LS hl)
 ·rw[b];unfold gp;rw[j]
  dsimp only
  rw[c];rfl
end
section
theorem zk(p:lr Γ){ws:List Str}(c:st[i]?=a5 (a5 (k0,D)))(d:k0.root=cb)(f:st[j]?=a5 (a5 (kw,.lst (ws.map .str))))(q:kw=.loc\/kw=.any)(g:Run (ev Γ e) st (.loc,.int at_) st1)(h:Run (ev Γ t) st1 (.loc,.bl b) st2)
  (l:st2[i]?=a5 (a5 (k,u))) (hk:k.root=cb) (m:Src T u) (s:T+17<2 ^ 62) (v:ws.length<1000000) (a0:0<=at_) (a1:at_<ws.length) :
  ∃(r:Row) (u':U),Run (ev Γ (.HF "_law_row" [.var i,.var j,e,t] [0])) st (.loc,A' r) (st2.set i (a5 (k,u')))/\ws[at_.toNat]?=a5 r.1/\r.2.Nodup/\(∀y∈r.2,y∈ws)/\r.2.length<=8/\Src (T+17) u':=by
 obtain⟨x,told,u',n,z,A,B,C,o⟩:=p T at_ u ws b m s v a0 a1;refine⟨(x,told),u',?_,z,A,B,C,o⟩;obtain⟨a,t',w,rfl,_,_⟩:=m;obtain⟨G,H,I,rfl,_,_⟩:=o;rcases q with rfl|rfl
 ·exact gT (rs:=[(.loc,.lst (ws.map .str)),(.loc,.int at_),(.loc,.bl b)]) c d (ae (aa f) (ae g (ae h ah))) l hk rfl rfl n (.inr rfl)
 ·exact gT (rs:=[(.any,.lst (ws.map .str)),(.loc,.int at_),(.loc,.bl b)]) c d (ae (aR f) (ae g (ae h ah))) l hk rfl rfl n (.inr rfl)
theorem zl(a:lu Γ)(b:st[i]?=a5 (a5 (k0,j)))(c:k0.root=cb)(d:Run (ev Γ e) st (.loc,A' r) st1)(f:st1[i]?=a5 (a5 (k,.lst (rs.map A'))))(hk:k.root=cb)(g:r.2.length<64)(h:∀x∈rs,x.2.length<64)(hl:rs.length<1000):
  Run (ev Γ (.HF "_law_lay" [.var i,e] [0])) st (.loc,.HH) (st1.set i (a5 (k,.lst ((layR rs r).map A')))) :=
 gT (rs:=[(.loc,A' r)]) b c (ae d ah) f hk (aO rs) rfl (a rs r g h hl) (.inr rfl)
theorem uZ(a:Run (ev Γ e) st r st1)(b:Run (execs Γ ss) st1 f st2):Run (execs Γ (.exp e::ss)) st f st2:=fu (ab a aW) b
def iF(Γ:Tab):Prop:=(∀k:Int,Γ "_law_source" [.lst [],.int k]=a5 (.ok (.own,.tup [d9 k 0 1,.lst []])))/\∀(ns:List Int) (c k:Int),Γ "_law_source" [.lst ((ns++[c]).map .int),.int k]=a5 (.ok (.own,.tup [d9 (c / 2) 0 (c % 2),.lst (ns.map .int)]))
theorem zm(h:IH Pg "_law_source" zb):iF (HW Pg (d+1)):=⟨λk=>by rw[cu h _ rfl];exact zc,λns c k=>by rw[cu h _ rfl];exact zd⟩
theorem fV:∀ns:List Int,bU (ns.map U.int)=cb
 |[]=>rfl
 |n::ns=>by show(cb&&bU (ns.map U.int))=cb;rw[fV ns];rfl
theorem zo(a:iF Γ)(b:st[i]?=a5 (a5 (k0,h)))(d:k0.root=cb)(f:Run (ev Γ e) st (.loc,.int m) st1)(g:st1[i]?=a5 (a5 (k,.lst ((ns++[c]).map .int))))(hk:k.root=cb):
  Run (ev Γ (.HF "_law_source" [.var i,e] [0])) st (.own,d9 (c / 2) 0 (c % 2)) (st1.set i (a5 (k,.lst (ns.map .int)))) :=
 gT (rs:=[(.loc,.int m)]) b d (ae f ah) g hk (fV _) rfl (a.2 ns c m) (.inl rfl)
theorem Fc(a:iF Γ)(b:st[i]?=a5 (a5 (k0,g)))(c:k0.root=cb)(d:Run (ev Γ e) st (.loc,.int m) st1)(f:st1[i]?=a5 (a5 (k,.lst [])))(hk:k.root=cb):
  Run (ev Γ (.HF "_law_source" [.var i,e] [0])) st (.own,d9 m 0 1) (st1.set i (a5 (k,.lst []))) :=
 gT (rs:=[(.loc,.int m)]) b c (ae d ah) f hk rfl rfl (a.1 m) (.inl rfl)
end
noncomputable def sQ:List S :=
   [.set 6 (.HF "_law_draw" [.var 1,.bi .len [.var 2]] [0]),
   .ite (.cmp .eq (.var 4) (.cst (.int 3)))
    [.set 6 (.bin .mod (.var 5) (.bi .len [.var 2]))]
    [],
   .exp (.HF "_law_lay" [(.var 3),(.HF "_law_row" [(.var 1),(.var 2),(.var 6),(.cmp .gt (.var 4) (.cst (.int 1)))] [0])] [0])]
noncomputable def sR:List S :=
   [.set 7 (.HF "_law_source" [.var 0,.cst (.int 0)] [0]),
   .exp (.HF "_law_lay" [(.var 3),(.HF "_law_row" [(.var 7),(.var 2),(.HF "_law_draw" [(.var 7),(.bi .len [(.var 2)])] [0]),(.cmp .eq (.var 4) (.cst (.int 2)))] [0])] [0])]
noncomputable def dh(ns:List Int)(u:U)(ws:List Str)(rs:List Row)(way:Int)(o5 o6 o7:Option (Kd×U)):aw:=[a5 (.io,.lst (ns.map .int)),a5 (.io,u),a5 (.any,.lst (ws.map .str)),a5 (.own,.lst (rs.map A')),a5 (.loc,.int way),o5,o6,o7]
def ba(ws:List Str)(r:Row):Prop:=r.1∈ws/\r.2.Nodup/\(∀y∈r.2,y∈ws)/\r.2.length<=8
def da(ws:List Str)(rs:List Row):Prop:=(∀r∈rs,ba ws r)/\(rs.map keyOf).Nodup
theorem da.lay(h:da ws rs)(d:ba ws r):da ws (layR rs r):=by
 unfold layR;split
 ·exact h
 ·rename_i hk;refine⟨λx hx=>?_,?_⟩
  ·rcases lk.mp hx with hx|hx
   ·exact h.1 x hx
   ·rw[i3]at hx;subst hx;exact d
  ·rw[ke];exact sL.mpr ⟨h.2,by simp,λa f c b=>by rw[M1,i3]at b;subst b;exact λe=>hk (e▸f)⟩
theorem qS:(layR rs r).length<=rs.length+1:=by
 unfold layR;split
 ·lia
 ·simp
theorem wO(s:a_ Γ)(v:lr Γ)(w:lu Γ){k:Nat}(y:Src T u)(N:T+18<2 ^ 62)(O:0<ws.length)(z:ws.length<1000000)(h:da ws rs)(hl:rs.length<1000):
  ∃u' a c,Run (execs Γ sQ) (dh ns u ws rs way (a5 (.loc,.int (0+(k:Int)))) o6 o7) .nx (dh ns u' ws a way (a5 (.loc,.int (0+(k:Int)))) c o7)/\Src (T+18) u'/\da ws a/\a.length<=rs.length+1:=by
 obtain⟨n,f,l,A,o,s1⟩:=cW (st:=dh ns u ws rs way (a5 (.loc,.int (0+(k:Int)))) o6 o7) s (i:=1) (k:=.io) (e:=.bi .len [.var 2]) (m:=((ws.map U.str).length:Nat)) rfl rfl (bC (ae (aR rfl) ah) trivial bt) y ⋯ (by simp;lia) (by simp;lia);rw[cc]at o;have d:∀at_:Int,0<=at_->at_<ws.length->∃u' a c,Run (execs Γ [.exp (.HF "_law_lay" [.var 3,.HF "_law_row" [.var 1,.var 2,.var 6,.cmp .gt (.var 4) (.cst (.int 1))] [0]] [0])]) (dh ns f ws rs way (a5 (.loc,.int (0+(k:Int)))) (a5 (.loc,.int at_)) o7) .nx (dh ns u' ws a way (a5 (.loc,.int (0+(k:Int)))) c o7)/\Src (T+18) u'/\da ws a/\a.length<=rs.length+1:=by
  intro at_ a0 a1;obtain⟨r,B,q,C,D,G,H,I⟩:=zk (st:=dh ns f ws rs way (a5 (.loc,.int (0+(k:Int)))) (a5 (.loc,.int at_)) o7) (st1:=dh ns f ws rs way (a5 (.loc,.int (0+(k:Int)))) (a5 (.loc,.int at_)) o7) (st2:=dh ns f ws rs way (a5 (.loc,.int (0+(k:Int)))) (a5 (.loc,.int at_)) o7) v (i:=1) (j:=2) (e:=.var 6) (t:=.cmp .gt (.var 4) (.cst (.int 1))) (k0:=.io) (k:=.io) (kw:=.any) (b:=df (1<way)) rfl rfl rfl (.inr rfl) (aa rfl) (gr (aa rfl) ai trivial (iz rfl)) rfl rfl s1 ⋯ z a0 a1;have J:ba ws r:=⟨lg C,D,G,H⟩
  exact⟨B,layR rs r,_,uZ (zl w (k0:=.own) (k:=.own) (rs:=rs) rfl rfl q rfl rfl ⋯ (λx L=>by have:=(h.1 x L).2.2.2;lia) hl) ao,I.up ⋯,h.lay J,qS⟩
 by_cases p:way=3
 ·subst p;obtain⟨u',a,c,q,g⟩:=d ((0+(k:Int)) % (ws.length:Nat)) (Q2 _ ⋯) (RB _ ⋯);refine⟨u',a,c,au l aF (cy (aM (aa rfl) ai trivial (b_ rfl)) (au (bw (aa rfl) (bC (ae (aR rfl) ah) trivial bt) trivial (dZ (by simp;lia))) aF ao) ?_),g⟩;rw[cc];exact q
 ·obtain⟨u',a,c,q,g⟩:=d n A o;exact⟨u',a,c,au l aF (bc (aM (aa rfl) ai trivial (b_ (by simp[p]))) ao q),g⟩
theorem wQ(l:iF Γ)(o:a_ Γ)(p:lr Γ)(s:lu Γ)(L:0<ws.length)(w:ws.length<1000000)(d:da ws rs)(hl:rs.length<1000):
  ∃a y,Run (execs Γ sR) (dh (ns++[c]) u ws rs way o5 o6 o7) .nx (dh ns u ws a way o5 o6 y)/\da ws a/\a.length<=rs.length+1:=by
 have f:=zo (st:=dh (ns++[c]) u ws rs way o5 o6 o7) (st1:=dh (ns++[c]) u ws rs way o5 o6 o7) l (i:=0) (k0:=.io) (k:=.io) (e:=.cst (.int 0)) (m:=0) rfl rfl ai rfl rfl;have s0:Src 0 (d9 (c / 2) 0 (c % 2)):=⟨_,_,_,rfl,⋯,⋯⟩
 generalize d9 (c / 2) 0 (c % 2)=v at f s0;obtain⟨n,g,z,A,h,s1⟩:=cW (st:=dh ns u ws rs way o5 o6 (a5 (.own,v))) o (i:=7) (k:=.own) (e:=.bi .len [.var 2]) (m:=((ws.map U.str).length:Nat)) rfl rfl (bC (ae (aR rfl) ah) trivial bt) s0 ⋯ (by simp;lia) (by simp;lia);rw[cc]at h;obtain⟨r,B,q,C,D,G,H,N⟩:=zk (st:=dh ns u ws rs way o5 o6 (a5 (.own,v))) (st1:=dh ns u ws rs way o5 o6 (a5 (.own,g))) (st2:=dh ns u ws rs way o5 o6 (a5 (.own,g))) p (i:=7) (j:=2) (t:=.cmp .eq (.var 4) (.cst (.int 2))) (k0:=.own) (k:=.own) (kw:=.any) (b:=(way==2)) rfl rfl rfl (.inr rfl) z (gr (aa rfl) ai trivial (b_ rfl)) rfl rfl s1 ⋯ w A h;have I:ba ws r:=⟨lg C,D,G,H⟩
 exact⟨layR rs r,a5 (.own,B),au (st2:=dh ns u ws rs way o5 o6 (a5 (.own,v))) f aY (uZ (zl s (k0:=.own) (k:=.own) (rs:=rs) rfl rfl q rfl rfl ⋯ (λx J=>by have:=(d.1 x J).2.2.2;lia) hl) ao),d.lay I,qS⟩
noncomputable def sT:E:=.and [.cmp .gt (.bi .len [.var 0]) (.cst (.int 0)),.cmp .lt (.bi .len [.var 3]) (.cst (.int 60))]
theorem ny:Run (HX Γ sT) (dh ns u ws rs way o5 o6 o7) (df (0<ns.length)&&df (rs.length<60)) (dh ns u ws rs way o5 o6 o7):=by
 refine gu (lb (aM (bC (ae (dn rfl) ah) ∅ bt) ai trivial (iz ?_)) λ_=>dI (aM (bC (ae (av rfl) ah) ∅ bt) ai trivial (k_ ?_)))
 ·rw[cc];exact decide_eq_decide.mpr ⋯
 ·rw[cc];exact decide_eq_decide.mpr ⋯
theorem sU(m:iF Γ)(n:a_ Γ)(o:lr Γ)(p:lu Γ)(q:0<ws.length)(r:ws.length<1000000):
  ∀(k f:Nat) (ns:List Int) (rs:List Row) (o7:Option (Kd×U)),ns.length=k->k<f->da ws rs->rs.length<=60->∃d b i,Run (eW (HX Γ sT) (execs Γ sR) f) (dh ns u ws rs way o5 o6 o7) .nx (dh d u ws b way o5 o6 i)/\da ws b/\b.length<=60/\d.length<=ns.length:=by
 intro k;induction k with
 |zero =>
  intro f ns rs o7 hk s h hl;obtain⟨f,rfl⟩:∃g,f=g+1:=⟨f - 1,⋯⟩
  have a:=ny (Γ:=Γ) (ns:=ns) (u:=u) (ws:=ws) (rs:=rs) (way:=way) (o5:=o5) (o6:=o6) (o7:=o7);rw[Ă (show ¬0<ns.length by lia)]at a;exact⟨ns,rs,o7,ll a,h,hl,hW _⟩
 |succ k t =>
  intro f ns rs o7 hk s h hl;obtain⟨f,rfl⟩:∃g,f=g+1:=⟨f - 1,⋯⟩
  have a:=ny (Γ:=Γ) (ns:=ns) (u:=u) (ws:=ws) (rs:=rs) (way:=way) (o5:=o5) (o6:=o6) (o7:=o7);rw[ă (show 0<ns.length by lia)]at a;by_cases j:rs.length<60
  ·rw[ă j]at a;obtain⟨ms,c,rfl⟩:∃ms c,ns=ms++[c]:=by
    have l:ns≠[]:=λe=>by rw[e]at hk;cases hk
    exact⟨ns.dropLast,ns.getLast l,(Nj l).symm⟩
   have v:ms.length=k:=by simpa using hk
   obtain⟨w,x,y,b1,C⟩:=wQ (u:=u) (ws:=ws) (way:=way) (o5:=o5) (o6:=o6) (o7:=o7) (ns:=ms) (c:=c) m n o p q r h ⋯;obtain⟨d,b,i,z,A,B,D⟩:=t f ms w x v ⋯ b1 ⋯;exact⟨d,b,i,lV a y z,A,B,by simp;lia⟩
  ·rw[Ă j]at a;exact⟨ns,rs,o7,ll a,h,hl,hW _⟩
noncomputable def C6:List S :=
   [.set 3 (.lst []),
    .set 4 (.HF "_law_draw" [.var 1,.cst (.int 4)] [0]),
    .Ia cL [5] .Jl [.HF "_law_draw" [.var 1,.cst (.int 25)] [0]] sQ,
    .Lw sT sR,
    .ret (.bi .tuple [(.var 3)])]
noncomputable def oY:Fn:=⟨"_law_book",3,8,.K3 [0,1]::C6⟩
theorem sV(z:iF Γ)(g:a_ Γ)(l:lr Γ)(n:lu Γ){ns:List Int}(o:Src T u)(Q:T+500<2 ^ 62)(Y:ns.length<1000)(p:0<ws.length)(s:ws.length<1000000):
  ∃(rs:List Row) (c:List Int) (u':U),ft Γ oY [0,1] C6 [.lst (ns.map .int),u,.lst (ws.map .str)]=a5 (.ok (.loc,.tup [.tup (rs.map A'),.lst (c.map .int),u']))/\da ws rs/\rs.length<=60/\c.length<=ns.length/\Src (T+500) u':=by
 have A:(60:Nat)<c6:=by decide
 obtain⟨way,B,C,_,_,s1⟩:=cW (st:=[a5 (.io,.lst (ns.map .int)),a5 (.io,u),a5 (.any,.lst (ws.map .str)),a5 (.own,.lst []),b6,b6,b6,b6]) g (i:=1) (k:=.io) (e:=.cst (.int 4)) (m:=4) rfl rfl ai o ⋯ ⋯ ⋯;obtain⟨m,v,D,m0,m1,s2⟩:=cW (st:=dh ns B ws [] way b6 b6 b6) g (i:=1) (k:=.io) (e:=.cst (.int 25)) (m:=25) rfl rfl ai s1 ⋯ ⋯ ⋯;obtain⟨m,rfl⟩:=wh m0;obtain⟨st',G,a,b,o5,o6,rfl,s3,b3,w,_⟩:=cj (rs:=[(.loc,.int (m:Nat))]) (t:=cL) (is:=[5]) (body:=execs Γ sQ) (λi:Nat=>(Kd.loc,U.int (0+(i:Int)))) (λd r st=>∃(a:U) (b:List Row) (o5 o6:Option (Kd×U)),st=dh ns a ws b way o5 o6 b6/\Src (T+2+18 * (d.length:Nat)) a/\da ws b/\b.length<=d.length/\d.length+r.length=m)
  (λd r st _=>trivial) (λd y r st h=>by
   obtain⟨a,b,o5,o6,rfl,s3,b3,w,H⟩:=h;simp only[ko]at H;obtain⟨I,J,JX,q,s4,b4,x⟩:=wO (ns:=ns) (way:=way) (k:=y) (o6:=o6) (o7:=b6) g l n s3 ⋯ p s b3 ⋯;refine⟨dh ns a ws b way (a5 (.loc,.int (0+(y:Int)))) o6 b6,_,aF,q,I,J,_,_,rfl,s4.up (by simp;lia),b4,?_,?_⟩
   ·simp;lia
   ·simp;lia) (i1 m) [] (dh ns v ws [] way b6 b6 b6) ⟨v,[],b6,b6,rfl,s2.up (by simp;lia),⟨by simp,by simp⟩,by simp,by simp⟩
 rw[mn,w6]at s3 w;obtain⟨c,j,L,N,b4,x,O⟩:=sU z g l n (u:=a) (way:=way) (o5:=o5) (o6:=o6) p s ns.length fuel ns b b6 rfl (by unfold fuel;lia) b3 ⋯;refine⟨j,c,a,?_,b4,x,O,s3.up ⋯⟩;refine bO (st0:=[a5 (.io,.lst (ns.map .int)),a5 (.io,u),a5 (.any,.lst (ws.map .str)),b6,b6,b6,b6,b6]) (f:=.rt .loc (.tup (j.map A'))) (st:=dh c a ws j way o5 o6 L) rfl ?_ ?_ rfl rfl
 ·obtain⟨_,_,_,rfl,_⟩:=o;rfl
 refine au (bJ ah trivial aE (i8 _)) aY (au C aF ?_);refine cV (rs:=[(.loc,.int (m:Nat))]) (ae D ah) trivial (gQ ⋯) rfl G (m9 N ?_);exact bN (bC (ae (av rfl) ah) ∅ rfl) fL
end TM
namespace TM
open PySem L2 Ih
theorem zp{cond:M Bool}(it:α->Kd×U)(I:List α->List α->List U->aw->Prop)(hs:∀d r a st,I d r a st->bp src st)
  (ZP:∀d y q a st,I d (y::q) a st->∃s1 s2 s3 s4 r u,Run (dm t (i1 k) (it y)) (kj k b6++st) () s1/\Run cond s1 cb s2/\Run elt s2 r s3/\Run (lift r) s3 u s4/\I (d++[y]) q (a++[u]) (s4.drop k)) :
  ∀(b d:List α) (acc:List U) (st:aw),I d b acc st->acc.length+b.length<=c6->∃us st',Run (bX k t cond elt src (b.map it) acc) st us st'/\I (d++b) [] us st'
 |[],d,acc,st,h,_=>⟨acc,st,uP (hs _ _ _ _ h),by rw[uk];exact h⟩
 |y::b,d,acc,st,h,hl=>by
  rw[ko]at hl;obtain⟨s1,s2,s3,s4,r,u,c,e,f,g,i⟩:=ZP d y b acc st h;obtain⟨us,st',j,l⟩:=zp it I hs ZP b (d++[y]) (acc++[u]) _ i (by simp;lia);exact⟨us,st',oO (hs _ _ _ _ h) c e f g ⋯ j,by simpa using l⟩
theorem qT(a:0<=n)(b:n<26):∃c,IU small.cps.toList n=a5 c:=by
 obtain⟨k,rfl⟩:=wh a;have hl:small.cps.toList.length=26:=by decide
 exact⟨small.cps.toList[k]'⋯,gW (by simp)⟩
theorem zq(g:a_ Γ)(j:Src T u)(z:T+8<2 ^ 62):
  ∃x u',Run (ev Γ (.MJ .join (.cst (.str "")) [.comp 1 cL .Jl [.cst (.int 8)] [] (.idx (.var 2) (.HF "_law_draw" [.var 1,.cst (.int 26)] [0]))])) (a5 (.io,u)::a5 (.loc,.str small)::rest) (.loc,.str x) (a5 (.io,u')::a5 (.loc,.str small)::rest)/\x.length=8/\Src (T+8) u':=by
 have l:(100:Nat)<=c6:=by decide
 obtain⟨us,st',f,u',b,rfl,rfl,hl,hs,_⟩:=zp (k:=1) (t:=cL) (cond:=bb Γ []) (elt:=ev Γ (.idx (.var 2) (.HF "_law_draw" [.var 1,.cst (.int 26)] [0]))) (src:=[(.loc,.int (8:Nat))]) (λi:Nat=>(Kd.loc,U.int (0+(i:Int))))
  (λd r a st=>∃(u':U) (b:List Nat),st=a5 (.io,u')::a5 (.loc,.str small)::rest/\a=(b.map Ih.one).map U.str/\b.length=d.length/\Src (T+(d.length:Nat)) u'/\d.length+r.length=8) (λ_ _ _ _ _=>trivial)
  (λd y q a st h=>by
   obtain⟨u',b,rfl,rfl,hl,hs,o⟩:=h;rw[ko]at o;obtain⟨n,p,r,s,v,s2⟩:=cW (st:=a5 (.loc,.int (0+(y:Int)))::a5 (.io,u')::a5 (.loc,.str small)::rest) g (i:=1) (k:=.io) (e:=.cst (.int 26)) (m:=26) rfl rfl ai hs ⋯ ⋯ ⋯;obtain⟨c,f⟩:=qT s v;refine⟨_,_,_,_,_,_,d8 aF,ix,aI (aa rfl) r trivial (nU qB f),aH,p,b++[c],rfl,by simp,by simp[hl],s2.up (by simp;lia),by simp;lia⟩)
  (i1 8) [] [] (a5 (.io,u)::a5 (.loc,.str small)::rest) ⟨u,[],rfl,rfl,rfl,by simpa using j,by simp⟩ (by simp;lia)
 rw[mn,w6]at hl hs;have w:lT .join (.str "") [(.own,.lst ((b.map Ih.one).map U.str))]=a5 (.loc,.str (TR r6 (b.map Ih.one))):=by
  show(strsOf ((b.map Ih.one).map U.str)).bind _=_;rw[dB];show(if É r6 (b.map Ih.one)=cb then _ else _)=_;rw[ÿ (Ih.qA b ⋯)];rfl
 refine⟨TR r6 (b.map Ih.one),u',yU ai (ae (dJ (ae ai ah) trivial (gQ (n:=8) ⋯) f) ah) trivial w,?_,hs⟩;show(TR r6 (b.map Ih.one)).cps.size=8;rw[<-i2,Ih.join_ones,hl]
noncomputable def zr:List S:=[.app 7 (.ite (.cmp .eq (.var 10) (.cst (.int 1))) (.var 9) (.bin .add (.bin .add (.var 9) (.cst (.str "/"))) (.bi .str [.var 10])))]
noncomputable def zt:List S :=
   .ite (.cmp .eq (.var 4) (.cst (.int 3)))
    [.set 10 (.bin .add (.cst (.int 1)) (.HF "_law_draw" [.var 0,.cst (.int 99)] [0]))]
    []::zr
noncomputable def zu:List S :=
   .ite (.cmp .gt (.var 4) (.cst (.int 1)))
    [.set 9 (.bin .add (.idx (.var 1) (.bin .mod (.bin .add (.var 6) (.bin .mul (.cst (.int 7)) (.var 8))) (.cst (.int 26)))) (.KZ (.var 3) [.cst (.int 1)] [.var 5])),
    .set 10 (.cst (.int 1))]
    []::zt
noncomputable def sW:List S :=
   .set 9 (.KZ (.var 3) [] [.bin .add (.cst (.int 1)) (.bin .mod (.var 8) (.cst (.int 8)))]) ::
   .set 10 (.bin .add (.cst (.int 1)) (.bin .Nc (.var 8) (.cst (.int 8)))) ::
   .ite (.cmp .eq (.var 4) (.cst (.int 1)))
    [.set 9 (.KZ (.var 3) [] [.var 5]),
    .set 10 (.bin .add (.cst (.int 1)) (.var 8))]
    []::zu
noncomputable def zw:List S :=
   [.set 1 (.cst (.str "abcdefghijklmnopqrstuvwxyz")),
    .set 2 (.bin .add (.cst (.int 1)) (.HF "_law_draw" [.var 0,.idx (.lst [.cst (.int 8),.cst (.int 16),.cst (.int 24)]) (.HF "_law_draw" [.var 0,.cst (.int 3)] [0])] [0])),
    .set 3 (.MJ .join (.cst (.str "")) [.comp 1 cL .Jl [.cst (.int 8)] [] (.idx (.var 2) (.HF "_law_draw" [.var 1,.cst (.int 26)] [0]))]),
    .set 4 (.HF "_law_draw" [.var 0,.cst (.int 4)] [0]),
    .set 5 (.bin .add (.cst (.int 1)) (.HF "_law_draw" [.var 0,.cst (.int 8)] [0])),
    .set 6 (.HF "_law_draw" [.var 0,.cst (.int 26)] [0]),
    .set 7 (.lst []),
    .Ia cL [8] .Jl [.var 2] sW,
    .ret (.var 7)]
noncomputable def lx:Fn:=⟨"_law_words",1,11,.K3 [0]::zw⟩
noncomputable def jb(u:U)(many:Int)(base:Str)(way size first:Int)(acc:List Str)(o8 o9 o10:Option (Kd×U)):aw:=[a5 (.io,u),a5 (.loc,.str small),a5 (.loc,.int many),a5 (.loc,.str base),a5 (.loc,.int way),a5 (.loc,.int size),a5 (.loc,.int first),a5 (.own,.lst (acc.map .str)),o8,o9,o10]
theorem jQ(h:x.length<=c6):lS (k,.str x) lo hi=a5 (.loc,.str (PySem.StrLaws.sliceText x lo hi)):=by
 show(if x.length<=c6 then _ else _)=_;rw[ÿ h]
theorem nz(e:acc.length<1000)(f:w.length<=9)(s0:1<=s)(s1:s<=99):
  ∃x,Run (execs Γ zr) (jb u many base way size first acc o8 (a5 (.loc,.str w)) (a5 (.loc,.int s))) .nx (jb u many base way size first (acc++[x]) o8 (a5 (.loc,.str w)) (a5 (.loc,.int s))):=by
 have a:(1000:Nat)<=c6:=by decide
 by_cases h:s=1
 ·subst h;refine⟨w,dX (k:=.own) (k':=.own) rfl (yW (aM (aa rfl) ai trivial (b_ rfl)) (aa rfl)) aH rfl rfl (by simp;lia) ?_⟩;rw[show acc.map U.str++[U.str w]=(acc++[w]).map U.str by simp];exact ao
 ·have g:=wK (k:=s) ⋯ s1;have b:JJ .str [(.loc,.int s)]=a5 (.loc,.str (xy s)):=by
   simp only[JJ,fF,Bh];rw[ÿ (by
    have:s.natAbs<2 ^ 7:=by lia
    have c:s.natAbs≠0:=by lia
    have:=(Nat.log2_lt c).mpr this;lia)]
   rfl
  have d:(w++("/":Str)).length=w.length+1:=by rw[len_list,len_list,app_list,hY];rfl
  refine⟨w++("/":Str)++xy s,dX (k:=.own) (k':=.own) rfl (yX (aM (aa rfl) ai trivial (b_ (by simp[h]))) (bw (bw (aa rfl) ai trivial (oQ (by show w.length+1<=c6;lia))) (bC (ae (aa rfl) ah) trivial b) trivial (oQ (by rw[d];lia)))) aH rfl rfl (by simp;lia) ?_⟩;rw[show acc.map U.str++[U.str (w++("/":Str)++xy s)]=(acc++[w++("/":Str)++xy s]).map U.str by simp];exact ao
theorem nA(f:a_ Γ)(a:Src T u)(l:T+1<2 ^ 62)(b:acc.length<1000)(c:w.length<=9)(s0:1<=s)(s1:s<=99):
  ∃u' x o9 o10,Run (execs Γ zt) (jb u many base way size first acc o8 (a5 (.loc,.str w)) (a5 (.loc,.int s))) .nx (jb u' many base way size first (acc++[x]) o8 o9 o10)/\Src (T+1) u':=by
 by_cases h:way=3
 ·subst h;obtain⟨n,d,g,o,p,j⟩:=cW (st:=jb u many base 3 size first acc o8 (a5 (.loc,.str w)) (a5 (.loc,.int s))) f (i:=0) (k:=.io) (e:=.cst (.int 99)) (m:=99) rfl rfl ai a ⋯ ⋯ ⋯;obtain⟨x,q⟩:=nz (Γ:=Γ) (u:=d) (many:=many) (base:=base) (way:=3) (size:=size) (first:=first) (acc:=acc) (o8:=o8) (w:=w) (s:=1+n) b c ⋯ ⋯;exact⟨d,x,_,_,cy (aM (aa rfl) ai trivial (b_ rfl)) (au (bw ai g trivial bW) aF ao) q,j⟩
 ·obtain⟨x,q⟩:=nz (Γ:=Γ) (u:=u) (many:=many) (base:=base) (way:=way) (size:=size) (first:=first) (acc:=acc) (o8:=o8) (w:=w) (s:=s) b c s0 s1;exact⟨u,x,_,_,bc (aM (aa rfl) ai trivial (b_ (by simp[h]))) ao q,a.up ⋯⟩
theorem nB(a:a_ Γ){k:Nat}(b:Src T u)(d:T+1<2 ^ 62)(e:acc.length<1000)(f:w.length<=9)(s0:1<=s)(s1:s<=99)(o:base.length=8)(g:1<=size)(p:size<=8)(r:0<=first)(t:first<26)(hk:k<1000):
  ∃u' x o9 o10,Run (execs Γ zu) (jb u many base way size first acc (a5 (.loc,.int (0+(k:Int)))) (a5 (.loc,.str w)) (a5 (.loc,.int s))) .nx (jb u' many base way size first (acc++[x]) (a5 (.loc,.int (0+(k:Int)))) o9 o10)/\Src (T+1) u':=by
 have i:(1000:Nat)<=c6:=by decide
 by_cases h:1<way
 ·have j:0<=(first+7 * (0+(k:Int))) % 26:=Q2 _ ⋯;have l:(first+7 * (0+(k:Int))) % 26<26:=RB _ ⋯;obtain⟨c,m⟩:=qT j l;have v:=len_list base;have y:(PySem.StrLaws.sliceText base (a5 1) (a5 size)).length<=8:=by
   rw[PySem.StrLaws.sliceText_plain ⟨⋯,g,⋯⟩,len_list];simp;lia
  have z:(Ih.one c).length=1:=rfl;have n:(Ih.one c++PySem.StrLaws.sliceText base (a5 1) (a5 size)).length<=9:=by rw[len_list,app_list,hY,<-len_list,<-len_list];lia
  obtain⟨u',x,o9,o10,q,hs⟩:=nA (Γ:=Γ) a (u:=u) (many:=many) (base:=base) (way:=way) (size:=size) (first:=first) (acc:=acc) (o8:=a5 (.loc,.int (0+(k:Int)))) (w:=Ih.one c++PySem.StrLaws.sliceText base (a5 1) (a5 size)) (s:=1) b d e n ⋯ ⋯;refine⟨u',x,o9,o10,cy (aM (aa rfl) ai trivial (iz (by simp[h]))) (au (bw (aI (aa rfl) (bw (bw (aa rfl) (bw ai (aa rfl) trivial (j3 ⋯)) trivial bW) ai trivial (dZ ⋯)) trivial (nU qB m)) (kZ (aa rfl) (jq ai) (jq (aa rfl)) trivial (jQ ⋯)) trivial (oQ ⋯)) aF (au ai aF ao)) q,hs⟩
 ·obtain⟨u',x,o9,o10,q,hs⟩:=nA (Γ:=Γ) a (u:=u) (many:=many) (base:=base) (way:=way) (size:=size) (first:=first) (acc:=acc) (o8:=a5 (.loc,.int (0+(k:Int)))) (w:=w) (s:=s) b d e f s0 s1;exact⟨u',x,o9,o10,bc (aM (aa rfl) ai trivial (iz (by simp[h]))) ao q,hs⟩
theorem zx(a:0<=j)(b:x.length=8):(PySem.StrLaws.sliceText x b6 (a5 j)).length<=9:=by
 obtain⟨j,rfl⟩:=wh a;have h:=len_list (PySem.StrLaws.sliceText x b6 (a5 (j:Int)));have hl:=len_list x;rw[E2]at h;rw[h,Ig];lia
theorem wR(b:a_ Γ){k:Nat}(c:Src T u)(d:T+1<2 ^ 62)(e:acc.length<1000)(a:base.length=8)(f:1<=size)(g:size<=8)(i:0<=first)(j:first<26)(hk:k<98):
  ∃u' x l m,Run (execs Γ sW) (jb u many base way size first acc (a5 (.loc,.int (0+(k:Int)))) o9 o10) .nx (jb u' many base way size first (acc++[x]) (a5 (.loc,.int (0+(k:Int)))) l m)/\Src (T+1) u':=by
 have n:(1000:Nat)<=c6:=by decide
 have o:0<=(0+(k:Int)) % 8:=Q2 _ ⋯;by_cases h:way=1
 ·obtain⟨u',x,o9,o10,q,hs⟩:=nB (Γ:=Γ) b (u:=u) (many:=many) (base:=base) (way:=way) (size:=size) (first:=first) (acc:=acc) (k:=k) (w:=PySem.StrLaws.sliceText base b6 (a5 size)) (s:=1+(0+(k:Int))) c d e (zx ⋯ a) ⋯ ⋯ a f g i j ⋯;exact⟨u',x,o9,o10,au (kZ (aa rfl) mZ (jq (bw ai (bw (aa rfl) ai trivial (dZ ⋯)) trivial bW)) trivial (jQ ⋯)) aF (au (bw ai (bw (aa rfl) ai trivial (k9 ⋯)) trivial bW) aF (cy (aM (aa rfl) ai trivial (b_ (by simp[h]))) (au (kZ (aa rfl) mZ (jq (aa rfl)) trivial (jQ ⋯)) aF (au (bw ai (aa rfl) trivial bW) aF ao)) q)),hs⟩
 ·obtain⟨u',x,o9,o10,q,hs⟩:=nB (Γ:=Γ) b (u:=u) (many:=many) (base:=base) (way:=way) (size:=size) (first:=first) (acc:=acc) (k:=k) (w:=PySem.StrLaws.sliceText base b6 (a5 (1+(0+(k:Int)) % 8))) (s:=1+(0+(k:Int)) / 8) c d e (zx ⋯ a) ⋯ ⋯ a f g i j ⋯;exact⟨u',x,o9,o10,au (kZ (aa rfl) mZ (jq (bw ai (bw (aa rfl) ai trivial (dZ ⋯)) trivial bW)) trivial (jQ ⋯)) aF (au (bw ai (bw (aa rfl) ai trivial (k9 ⋯)) trivial bW) aF (bc (aM (aa rfl) ai trivial (b_ (by simp[h]))) ao q)),hs⟩
theorem HC(a:0<=n)(b:n<3):∃m:Int,8<=m/\m<=24/\IU [U.int 8,.int 16,.int 24] n=a5 (.int m):=by
 obtain⟨k,rfl⟩:=wh a;have:k=0\/k=1\/k=2:=by lia
 rcases this with rfl|rfl|rfl
 ·exact⟨8,⋯,⋯,rfl⟩
 ·exact⟨16,⋯,⋯,rfl⟩
 ·exact⟨24,⋯,⋯,rfl⟩
theorem wU(a:a_ Γ)(l:Src T u)(hT:T+100<2 ^ 62):
  ∃(ws:List Str) (u':U),ft Γ lx [0] zw [u]=a5 (.ok (.own,.tup [.lst (ws.map .str),u']))/\1<=ws.length/\ws.length<=24/\Src (T+100) u':=by
 have A:(1000:Nat)<=c6:=by decide
 let S1:U->aw:=λv=>[a5 (.io,v),a5 (.loc,.str small),b6,b6,b6,b6,b6,b6,b6,b6,b6]
 obtain⟨i,B,C,D,G,s1⟩:=cW (st:=S1 u) a (i:=0) (k:=.io) (e:=.cst (.int 3)) (m:=3) rfl rfl ai l ⋯ ⋯ ⋯;obtain⟨m,m0,m1,em⟩:=HC D G;obtain⟨n,u2,H,n0,n1,s2⟩:=zg (st:=S1 u) (st1:=S1 B) a (i:=0) (k:=.io) (k0:=.io) (e:=.idx (.lst [.cst (.int 8),.cst (.int 16),.cst (.int 24)]) (.HF "_law_draw" [.var 0,.cst (.int 3)] [0])) (m:=m) rfl rfl (aI (x:=(.own,.lst [U.int 8,.int 16,.int 24])) (bJ (ae ai (ae ai (ae ai ah))) trivial (aA aH (aA aH (aA aH aE))) (by show 3<=c6;lia)) C trivial (cz em)) rfl rfl s1 ⋯ ⋯ ⋯;obtain⟨base,b,I,J,s3⟩:=zq (rest:=[a5 (.loc,.int (1+n)),b6,b6,b6,b6,b6,b6,b6,b6]) a s2 ⋯;obtain⟨way,g,L,_,_,s4⟩:=cW (st:=[a5 (.io,b),a5 (.loc,.str small),a5 (.loc,.int (1+n)),a5 (.loc,.str base),b6,b6,b6,b6,b6,b6,b6]) a (i:=0) (k:=.io) (e:=.cst (.int 4)) (m:=4) rfl rfl ai s3 ⋯ ⋯ ⋯;obtain⟨size,N,O,z0,z1,Q⟩:=cW (st:=[a5 (.io,g),a5 (.loc,.str small),a5 (.loc,.int (1+n)),a5 (.loc,.str base),a5 (.loc,.int way),b6,b6,b6,b6,b6,b6]) a (i:=0) (k:=.io) (e:=.cst (.int 8)) (m:=8) rfl rfl ai s4 ⋯ ⋯ ⋯;obtain⟨first,o,Y,f0,f1,s6⟩:=cW (st:=[a5 (.io,N),a5 (.loc,.str small),a5 (.loc,.int (1+n)),a5 (.loc,.str base),a5 (.loc,.int way),a5 (.loc,.int (1+size)),b6,b6,b6,b6,b6]) a (i:=0) (k:=.io) (e:=.cst (.int 26)) (m:=26) rfl rfl ai Q ⋯ ⋯ ⋯;obtain⟨many,Pq⟩:=wh (show 0<=1+n by lia);obtain⟨st',hf,p,ws,o8,o9,o10,rfl,s,l7,_⟩:=cj (rs:=[(.loc,.int (1+n))]) (t:=cL) (is:=[8]) (body:=execs Γ sW) (λi:Nat=>(Kd.loc,U.int (0+(i:Int)))) (λd r st=>∃(b:U) (ws:List Str) (o8 o9 o10:Option (Kd×U)),st=jb b (1+n) base way (1+size) first ws o8 o9 o10/\Src (T+13+(d.length:Nat)) b/\ws.length=d.length/\∃j,d=é 0 j/\r=é j (many - j)/\j<=many)
  (λd r st _=>trivial) (λd y r st h=>by
   obtain⟨b,ws,o8,o9,o10,rfl,s3,w,j,rfl,c,hj⟩:=h;have YB:j<many:=by
    rcases Nat.lt_or_ge j many with z|z
    ·exact z
    ·rw[show many - j=0 by lia]at c;cases c
   rw[show many - j=(many - (j+1))+1 by lia,List.range'_succ]at c;cases c;rw[List.length_range']at s3 w;obtain⟨g,x,Jw,Mk,q,s4⟩:=wR (Γ:=Γ) a (u:=b) (many:=1+n) (base:=base) (way:=way) (size:=1+size) (first:=first) (acc:=ws) (k:=y) (o9:=o9) (o10:=o10) s3 ⋯ ⋯ J ⋯ ⋯ f0 f1 ⋯;refine⟨jb b (1+n) base way (1+size) first ws (a5 (.loc,.int (0+(y:Int)))) o9 o10,_,aF,q,g,ws++[x],_,_,_,rfl,s4.up (by simp;lia),by simp[w],y+1,by have:=@List.range'_1_concat 0 y;simpa using this.symm,rfl,⋯⟩) (i1 many) [] (jb o (1+n) base way (1+size) first [] b6 b6 b6) ⟨o,[],b6,b6,b6,rfl,s6.up (by simp;lia),by simp,0,rfl,by rw[List.range_eq_range'];simp,⋯⟩
 rw[mn,w6]at s l7;refine⟨ws,p,?_,⋯,⋯,s.up ⋯⟩;refine bO (st0:=[a5 (.io,u),b6,b6,b6,b6,b6,b6,b6,b6,b6,b6]) (f:=.rt .own (.lst (ws.map .str))) (st:=(jb p (1+n) base way (1+size) first ws o8 o9 o10).set 7 b6) rfl ?_ ?_ rfl rfl
 ·obtain⟨_,_,_,rfl,_⟩:=l;rfl
 refine au (st2:=S1 u) ai aF (au (bw ai H trivial bW) aF (au I aF (au L aF (au (bw ai O trivial bW) aF (au Y aF (au (bJ ah trivial aE (i8 _)) aY ?_))))));refine cV (rs:=[(.loc,.int (1+n))]) (xs:=(i1 many).map λi:Nat=>(Kd.loc,U.int (0+(i:Int)))) (ae (aa rfl) ah) trivial (by rw[Pq];exact gQ ⋯) rfl hf (bN (av rfl) (gw rfl))
def oZ(Γ:Tab):Prop:=∀(T:Int) (u:U),Src T u->T+100<2 ^ 62->∃(ws:List Str) (u':U),Γ "_law_words" [u]=a5 (.ok (.own,.tup [.lst (ws.map .str),u']))/\1<=ws.length/\ws.length<=24/\Src (T+100) u'
theorem Ce(a:a_ (HW Pg d))(h:IH Pg "_law_words" lx):oZ (HW Pg (d+1)):=by
 intro T u b c;obtain⟨ws,u',e,r⟩:=wU a b c;exact⟨ws,u',by rw[cu h _ rfl];exact e,r⟩
noncomputable def cG(ks:List Str)(x:Str):List Str:=if x∈ks then ks else ks++[x]
theorem zy:dput ks (ks.map f) x u=(cG ks x,(cG ks x).map λk=>if k=x then u else f k):=by
 unfold dput cG;by_cases h:x∈ks
 ·rw[ÿ h,ÿ h];congr 1
  clear h;induction ks with
  |nil=>rfl
  |cons k ks a=>rw[ez,OU,ez,ez,a]
 ·rw[ā h,ā h];congr 1
  rw[ke,M1,ÿ rfl];congr 1
  refine tj λk hk=>?_;rw[ā (λe:k=x=>h (e▸hk))]
theorem sX(h:ks.Nodup):(cG ks x).Nodup:=by
 unfold cG;split
 ·exact h
 ·rename_i d;exact sL.mpr ⟨h,by simp,λa f c b=>by rw[i3]at b;subst b;exact λe=>d (e▸f)⟩
theorem cm:y∈cG ks x↔y∈ks\/y=x:=by
 unfold cG;split
 ·rename_i h;exact⟨.inl,λz=>z.elim id λe=>e▸h⟩
 ·simp
theorem o_(h:ks.length<1000):dy (.str x) u (.HE ks (ks.map f))=a5 (.HE (cG ks x) ((cG ks x).map λk=>if k=x then u else f k)):=by
 rw[uU h,zy]
theorem eL(h:x∈ks):cE ks (ks.map f) x=a5 (f x):=by
 induction ks with
 |nil=>cases h
 |cons k ks a =>
  rw[ez];unfold cE;by_cases e:k=x
  ·rw[ÿ e,e]
  ·rw[ā e];exact a ((fR.mp h).resolve_left λz=>e z.symm)
noncomputable def C7:List S:=[.put 1 (.var 4) (.cst (.bl cb))]
noncomputable def zA:List S:=[.put 1 (.var 2) (.cst (.bl cb)),.Ia cL [4] .seq [.var 3] C7]
noncomputable def Fd:Fn:=⟨"_law_all",1,5,[.set 1 (.JG cL),.Ia cb [2,3] .seq [.var 0] zA,.ret (.bi .sorted [.var 1])]⟩
noncomputable def Cg(ks:List Str):U:=.HE ks (ks.map λ_=>.bl cb)
theorem u9(h:ks.length<1000):dy (.str x) (.bl cb) (Cg ks)=a5 (Cg (cG ks x)):=by
 unfold Cg;rw[o_ h];congr 3
 funext k
 split<;>rfl
def jc(ws ks:List Str):Prop:=ks.Nodup/\∀x∈ks,x∈ws
theorem jc.ins(h:jc ws ks)(a:x∈ws):jc ws (cG ks x):=⟨sX h.1,λy b=>(cm.mp b).elim (h.2 y) λe=>e▸a⟩
theorem jc.len(h:jc ws ks):ks.length<=ws.length:=la h.1 h.2
noncomputable def pb(rs:List Row)(ks:List Str)(o2 a o4:Option (Kd×U)):aw:=[a5 (.loc,.tup (rs.map A')),a5 (.own,Cg ks),o2,a,o4]
theorem Ci(m:ws.length<1000)(hk:jc ws ks)(c:ba ws r):
  ∃a b,Run (execs Γ zA) (pb rs ks (a5 (.loc,.str r.1)) (a5 (.loc,.tup (r.2.map .str))) o4) .nx (pb rs a (a5 (.loc,.str r.1)) (a5 (.loc,.tup (r.2.map .str))) b)/\jc ws a:=by
 have n:=hk.len;obtain⟨st',i,a,b,rfl,j,_⟩:=cj (rs:=[(.loc,.tup (r.2.map .str))]) (t:=cL) (is:=[4]) (body:=execs Γ C7) (λx:Str=>(Kd.loc,U.str x)) (λd q st=>∃a b,st=pb rs a (a5 (.loc,.str r.1)) (a5 (.loc,.tup (r.2.map .str))) b/\jc ws a/\∀x∈q,x∈ws)
  (λ_ _ _ _=>trivial) (λd y q st h=>by
   obtain⟨e,b,rfl,f,g⟩:=h;have o:=f.len;exact⟨pb rs e (a5 (.loc,.str r.1)) (a5 (.loc,.tup (r.2.map .str))) (a5 (.loc,.str y)),_,aF,iB (k:=.own) (k':=.own) ai rfl (aa rfl) (aA aH (aA aH aE)) rfl rfl (u9 ⋯) ao,cG e y,_,rfl,f.ins (g y (by simp)),λx l=>g x (by simp[l])⟩) r.2 [] (pb rs (cG ks r.1) (a5 (.loc,.str r.1)) (a5 (.loc,.tup (r.2.map .str))) o4) ⟨_,_,rfl,hk.ins c.1,c.2.2.1⟩
 refine⟨a,b,?_,j⟩;exact iB (k:=.own) (k':=.own) ai rfl (aa rfl) (aA aH (aA aH aE)) rfl rfl (u9 ⋯) (cV (rs:=[(.loc,.tup (r.2.map .str))]) (ae (aa rfl) ah) trivial (by show a5 ((r.2.map U.str).map λu=>(kE .loc,u))=_;rw[i5];rfl) rfl i ao)
theorem pd{rs:List Row}:JV .seq [(k,.tup (rs.map A'))]=a5 (rs.map λr=>(kE k,A' r)):=by
 show a5 ((rs.map A').map λu=>(kE k,u))=_;rw[i5];rfl
def zB(Γ:Tab):Prop:=∀(ws:List Str) (rs:List Row),ws.length<=24->(∀r∈rs,ba ws r)->∃ts,Γ "_law_all" [.tup (rs.map A')]=a5 (.ok (.own,.lst (ts.map .str)))/\jc ws ts
theorem Cj{rs:List Row}(m:ws.length<=24)(a:∀r∈rs,ba ws r):∃ts,cR Γ Fd [.tup (rs.map A')]=a5 (.ok (.own,.lst (ts.map .str)))/\jc ws ts:=by
 obtain⟨st',e,ks,o2,b,o4,rfl,hk,_⟩:=cj (rs:=[(.loc,.tup (rs.map A'))]) (t:=cb) (is:=[2,3]) (body:=execs Γ zA) (λr:Row=>(Kd.loc,A' r)) (λd q st=>∃ks o2 b o4,st=pb rs ks o2 b o4/\jc ws ks/\∀r∈q,ba ws r)
  (λ_ _ _ _=>trivial) (λd y q st h=>by
   obtain⟨f,o2,b,o4,rfl,g,c⟩:=h;obtain⟨i,n,j,k⟩:=Ci (Γ:=Γ) (rs:=rs) (o4:=o4) ⋯ g (c y (by simp));exact⟨pb rs f (a5 (.loc,.str y.1)) (a5 (.loc,.tup (y.2.map .str))) o4,_,jr (.inl rfl),j,i,_,_,_,rfl,k,λr a=>c r (by simp[a])⟩) rs [] (pb rs [] b6 b6 b6) ⟨[],b6,b6,b6,rfl,⟨by simp,by simp⟩,a⟩
 have hl:=hk.len;refine⟨aJ ks,?_,⟨(bH _).nodup_iff.mpr hk.1,λx l=>hk.2 x ((bH _).mem_iff.mp l)⟩⟩;refine bx (st0:=[a5 (.loc,.tup (rs.map A')),b6,b6,b6,b6]) rfl (.inl rfl) ?_ (au (st2:=pb rs [] b6 b6 b6) k7 aY (cV (rs:=[(.loc,.tup (rs.map A'))]) (ae (aa rfl) ah) trivial pd rfl e (bN (bC (ae (av rfl) ah) ∅ ?_) gv)))
 ·show [a5 (if H_ (.tup (rs.map A'))=cb then Kd.loc else Kd.any,U.tup (rs.map A')),b6,b6,b6,b6]=_;rw[ÿ (by show bU (rs.map A')=cb;exact aO rs)]
 ·show(if ks.length<64 then a5 (Kd.own,U.lst ((aJ ks).map .str)) else b6)=_;rw[ÿ ⋯]
theorem GY(h:IH Pg "_law_all" Fd):zB (HW Pg (d+1)):=λws rs a b=>by
 obtain⟨ts,e,k⟩:=Cj (Γ:=HW Pg d) a b;exact⟨ts,by rw[aX h];exact e,k⟩
noncomputable def zC:List S :=
   [.set 7 (.Kv 4 (.HF "_law_draw" [.var 0,.bi .len [.var 4]] [0])),
   .ite (.and [.cmp .HV (.var 7) (.var 3),.cmp .eq (.HF "_law_draw" [.var 0,.var 2] [0]) (.cst (.int 0))])
    [.app 5 (.tup [.var 7,.tup []])]
    []]
noncomputable def GZ:List S :=
   [.ite (.cmp .ne (.HF "_law_draw" [.var 0,.cst (.int 8)] [0]) (.cst (.int 1)))
      [.ret (.var 1)]
      [],
    .set 2 (.bin .add (.cst (.int 1)) (.HF "_law_draw" [.var 0,.cst (.int 2)] [0])),
    .set 3 (.comp 1 cL .seq [.var 1] [.cmp .eq (.idx (.var 0) (.cst (.int 1))) (.tup [])] (.idx (.var 0) (.cst (.int 0)))),
    .set 4 (.call "_law_all" [.var 1]),
    .set 5 (.lst []),
    .Ia cL [6] .Jl [.bi .len [.var 4]] zC,
    .ret (.bin .add (.var 1) (.bi .tuple [(.var 5)]))]
noncomputable def Cm:Fn:=⟨"_law_widened",2,8,.K3 [0]::GZ⟩
theorem sY(h:(!(i==j))=c):bZ .ne (.int i) (.int j)=a5 c:=by subst h;rfl
noncomputable def jF(u:U)(rs:List Row)(share:Int)(hs ts:List Str)(more:List Row)(o6 o7:Option (Kd×U)):aw:=[a5 (.io,u),a5 (.loc,.tup (rs.map A')),a5 (.loc,.int share),a5 (.own,.lst (hs.map .str)),a5 (.own,.lst (ts.map .str)),a5 (.own,.lst (more.map A')),o6,o7]
theorem zD(o:a_ Γ)(A:Src T u)(N:T+2<2 ^ 62)(B:0<share)(O:share<=2)(Q:0<ts.length)(Y:ts.length<=24)(p:∀x∈ts,x∈ws)(h:∀r∈more,ba ws r)(Wb:more.length<1000):
  ∃u' a j C,Run (execs Γ zC) (jF u rs share hs ts more o6 o7) .nx (jF u' rs share hs a j o6 C)/\Src (T+2) u'/\a.length+1=ts.length/\(∀x∈a,x∈ws)/\(∀r∈j,ba ws r)/\j.length<=more.length+1:=by
 have D:(1000:Nat)<=c6:=by decide
 obtain⟨n,b,G,H,I,s1⟩:=cW (st:=jF u rs share hs ts more o6 o7) o (i:=0) (k:=.io) (e:=.bi .len [.var 4]) (m:=((ts.map U.str).length:Nat)) rfl rfl (bC (ae (av rfl) ah) ∅ bt) A ⋯ (by simp;lia) (by simp;lia);rw[cc]at I;have l:n.toNat<ts.length:=by lia
 have q:(ts.map U.str)[n.toNat]?=a5 (.str ts[n.toNat]):=by simp[l]
 have s:ts[n.toNat]∈ws:=p _ (LS l);generalize ts[n.toNat]=x at q s;have J:(ts.map U.str).eraseIdx n.toNat=(ts.eraseIdx n.toNat).map U.str:=by
  rw[Pz,Pz,ke,Í,Î]
 have hl:(ts.eraseIdx n.toNat).length+1=ts.length:=by rw[List.length_eraseIdx_of_lt l];lia
 have f:∀y∈ts.eraseIdx n.toNat,y∈ws:=λy L=>p y (List.mem_of_mem_eraseIdx L);have g:Run (ev Γ (.Kv 4 (.HF "_law_draw" [.var 0,.bi .len [.var 4]] [0]))) (jF u rs share hs ts more o6 o7) (.loc,.str x) (jF b rs share hs (ts.eraseIdx n.toNat) more o6 o7):=by
  have:=E1 (i:=4) (k0:=.own) (k:=.own) (us0:=ts.map U.str) (us:=ts.map U.str) rfl (by intro z;cases z) G rfl rfl H ⋯ q;rw[J]at this;exact this
 generalize ts.eraseIdx n.toNat=a at g hl f;have d:Run (HX Γ (.cmp .HV (.var 7) (.var 3))) (jF b rs share hs a more o6 (a5 (.loc,.str x))) (df (x∉hs)) (jF b rs share hs a more o6 (a5 (.loc,.str x))):=aM (aa rfl) (av rfl) ∅ iA;by_cases t:x∈hs
 ·rw[Ă (by simp[t])]at d;exact⟨b,a,more,_,au g aF (bc (gu (sy d)) ao ao),s1.up ⋯,hl,f,h,⋯⟩
 ·rw[ă t]at d;obtain⟨m,v,w,m0,m1,s2⟩:=cW (st:=jF b rs share hs a more o6 (a5 (.loc,.str x))) o (i:=0) (k:=.io) (e:=.var 2) (m:=share) rfl rfl (aa rfl) s1 ⋯ B ⋯;by_cases hz:m=0
  ·refine⟨v,a,more++[(x,[])],a5 (.loc,.str x),au g aF (cy (gu (k8 d (dI (aM w ai trivial (b_ (c:=cb) (by simp[hz])))))) (dX (k:=.own) (k':=.own) rfl (gs (ae (aa rfl) (ae (gs ah trivial aE (i8 _)) ah)) trivial (aA aH (aA aH aE)) (by show 2<=c6;lia)) aH rfl rfl (by simp;lia) ao) ?_),s2.up ⋯,hl,f,?_,by simp⟩
   ·rw[show more.map A'++[U.tup [.str x,.tup []]]=(more++[(x,[])]).map A' by simp[A']];exact ao
   ·intro r hr;rcases lk.mp hr with hr|hr
    ·exact h r hr
    ·rw[i3]at hr;subst hr;exact⟨s,by simp,by simp,by simp⟩
  ·exact⟨v,a,more,_,au g aF (bc (gu (k8 d (dI (aM w ai trivial (b_ (c:=cL) (by simp[hz])))))) ao ao),s2.up ⋯,hl,f,h,⋯⟩
theorem zE{rs:List Row}(hl:rs.length<=1000)(h:st[i]?=a5 (a5 (.loc,.tup (rs.map A')))):Run (ev Γ (.comp 1 cL .seq [.var i] [.cmp .eq (.idx (.var 0) (.cst (.int 1))) (.tup [])] (.idx (.var 0) (.cst (.int 0))))) st (.own,.lst (((rs.filter λr=>df (r.2=[])).map (·.1)).map .str)) st:=by
 have b:(1000:Nat)<=c6:=by decide
 have c:∀y:Row,d7 (.loc,A' y) (.int 0)=a5 (.loc,.str y.1):=λy=>rfl;have d:∀y:Row,d7 (.loc,A' y) (.int 1)=a5 (.loc,.tup (y.2.map .str)):=λy=>rfl;have a:=sC (cond:=bb Γ [.cmp .eq (.idx (.var 0) (.cst (.int 1))) (.tup [])]) (elt:=ev Γ (.idx (.var 0) (.cst (.int 0)))) (src:=[(.loc,.tup (rs.map A'))]) (st:=st) trivial .loc (.inl rfl) A' (λr:Row=>.str r.1) (λr=>df (r.2=[])) .loc rs [] (by simp;lia)
  (λr _=>⟨dI (aM (aI (aa rfl) ai trivial (d r)) (gs ah trivial aE (i8 _)) trivial B_),λ_=>⟨aI (aa rfl) ai trivial (c r),aH⟩⟩)
 rw[mn]at a;rw[i5];exact dJ (rs:=[(.loc,.tup (rs.map A'))]) (ae (aa h) ah) trivial pd a
def zF(Γ:Tab):Prop:=∀(T:Int) (u:U) (ws:List Str) (rs:List Row),Src T u->T+60<2 ^ 62->ws.length<=24->(∀r∈rs,ba ws r)->rs.length<=60->∃(a:List Row) (u':U),Γ "_law_widened" [u,.tup (rs.map A')]=a5 (.ok (.loc,.tup [.tup (a.map A'),u']))/\(∀r∈a,ba ws r)/\a.length<=84/\Src (T+60) u'
theorem Cn(g:a_ Γ)(J:zB Γ){rs:List Row}(z:Src T u)(hT:T+60<2 ^ 62)(L:ws.length<=24)(j:∀r∈rs,ba ws r)(hl:rs.length<=60):
  ∃(l:List Row) (u':U),ft Γ Cm [0] GZ [u,.tup (rs.map A')]=a5 (.ok (.loc,.tup [.tup (l.map A'),u']))/\(∀r∈l,ba ws r)/\l.length<=84/\Src (T+60) u':=by
 have N:(1000:Nat)<=c6:=by decide
 let c:U->aw:=λv=>[a5 (.io,v),a5 (.loc,.tup (rs.map A')),b6,b6,b6,b6,b6,b6]
 have A:cM [0] [u,.tup (rs.map A')] Cm.ns=c u:=by
  obtain⟨_,_,_,rfl,_⟩:=z;show [a5 (Kd.io,_),a5 (if H_ (.tup (rs.map A'))=cb then Kd.loc else Kd.any,U.tup (rs.map A')),b6,b6,b6,b6,b6,b6]=_;rw[ÿ (by show bU (rs.map A')=cb;exact aO rs)]
 obtain⟨n,o,B,n0,n1,s1⟩:=cW (st:=c u) g (i:=0) (k:=.io) (e:=.cst (.int 8)) (m:=8) rfl rfl ai z ⋯ ⋯ ⋯;by_cases C:n=1
 ·obtain⟨p,s,O,p0,p1,s2⟩:=cW (st:=c o) g (i:=0) (k:=.io) (e:=.cst (.int 2)) (m:=2) rfl rfl ai s1 ⋯ ⋯ ⋯;obtain⟨ts,Q,D⟩:=J ws rs L j;have XG:=D.len;generalize Y:((rs.filter λr=>df (r.2=[])).map (·.1))=hs;have G:=zE (Γ:=Γ) (st:=[a5 (.io,s),a5 (.loc,.tup (rs.map A')),a5 (.loc,.int (1+p)),b6,b6,b6,b6,b6]) (rs:=rs) (i:=1) ⋯ rfl;rw[Y]at G;obtain⟨st',hf,a,b,more,o6,o7,rfl,s3,H,m3,I,w,_⟩:=cj (rs:=[(.loc,.int (ts.length:Nat))]) (t:=cL) (is:=[6]) (body:=execs Γ zC) (λi:Nat=>(Kd.loc,U.int (0+(i:Int)))) (λd r st=>∃(a:U) (b:List Str) (more:List Row) (o6 o7:Option (Kd×U)),st=jF a rs (1+p) hs b more o6 o7/\Src (T+2+2 * (d.length:Nat)) a/\b.length=r.length/\more.length<=d.length/\(∀x∈b,x∈ws)/\(∀r∈more,ba ws r)/\d.length+r.length=ts.length)
   (λd r st _=>trivial) (λd y r st h=>by
    obtain⟨a,b,more,o6,o7,rfl,s3,H,m3,I,w,t3⟩:=h;simp only[ko]at H t3;obtain⟨u4,XI,Pu,IQ,q,s4,l4,i4,g4,m4⟩:=zD (Γ:=Γ) g (u:=a) (share:=1+p) (rs:=rs) (more:=more) (ws:=ws) (hs:=hs) (ts:=b) (o6:=a5 (.loc,.int (0+(y:Int)))) (o7:=o7) s3 ⋯ ⋯ ⋯ ⋯ ⋯ I w ⋯;refine⟨jF a rs (1+p) hs b more (a5 (.loc,.int (0+(y:Int)))) o7,_,aF,q,u4,XI,Pu,_,_,rfl,s4.up (by simp;lia),⋯,by simp;lia,i4,g4,by simp;lia⟩) (i1 ts.length) [] (jF s rs (1+p) hs ts [] b6 b6) ⟨s,ts,[],b6,b6,rfl,s2.up (by simp;lia),by simp,by simp,D.2,by simp,by simp⟩
  rw[mn,w6]at m3 s3;refine⟨rs++more,a,?_,?_,by simp;lia,s3.up ⋯⟩
  ·refine bO (f:=.rt .loc (.tup ((rs++more).map A'))) (st:=jF a rs (1+p) hs b more o6 o7) rfl A ?_ rfl rfl;refine bc (aM B ai trivial (sY (by simp[C]))) ao (au (bw ai O trivial bW) aF (au G aY (au (bI (ae (aa rfl) ah) trivial Q) aY (au (bJ ah trivial aE (i8 _)) aY ?_))));refine cV (rs:=[(.loc,.int (ts.length:Nat))]) (ae (bC (ae (av rfl) ah) ∅ (by rw[bt,cc])) ah) trivial (gQ ⋯) rfl hf (bN (bw (aa rfl) (bC (ae (av rfl) ah) ∅ rfl) trivial ?_) fL);show(if (rs.map A').length+(more.map A').length<=c6 then a5 (kT .loc .loc,U.tup (rs.map A'++more.map A')) else b6)=_;rw[ÿ (by simp;lia),ke];rfl
  ·intro r hm;rcases lk.mp hm with hm|hm
   ·exact j r hm
   ·exact w r hm
 ·exact⟨rs,o,bO (f:=.rt .loc (.tup (rs.map A'))) (st:=c o) rfl A (oN (aM B ai trivial (sY (by simp[C]))) (bN (aa rfl) fL)) rfl rfl,j,⋯,s1.up ⋯⟩
theorem G0(a:a_ (HW Pg d))(b:zB (HW Pg d))(h:IH Pg "_law_widened" Cm):zF (HW Pg (d+1)):=by
 intro T u ws rs c f g i hl;obtain⟨j,u',e,r⟩:=Cn a b c f g i hl;exact⟨j,u',by rw[cu h _ rfl];exact e,r⟩
section
variable{α:Type}[DecidableEq α]{c:α->Int}
theorem fW:∀{ks:List α},x∈ks->(ks.map c).sum=c x+((ks.erase x).map c).sum
 |k::ks,h=>by
  by_cases e:k=x
  ·subst e;simp
  ·rw[List.erase_cons_tail (by simp[e]),ez,ez,Nk,Nk,fW ((fR.mp h).resolve_left λz=>e z.symm)];lia
theorem pe:∀{ks:List α},(∀k∈ks,0<=c k)->0<=(ks.map c).sum
 |[],_=>by simp
 |k::ks,h=>by
  have b:=h k (by simp);have d:=pe (ks:=ks) λy a=>h y (by simp[a]);rw[ez,Nk];lia
theorem u_:∀{ts ks:List α},ts.Nodup->(∀x∈ts,x∈ks)->(∀k∈ks,0<=c k)->(ts.map c).sum<=(ks.map c).sum
 |[],ks,_,_,h=>by simpa using pe h
 |x::ts,ks,a,hs,h=>by
  rw[mA]at a;have d:=u_ (ts:=ts) (ks:=ks.erase x) a.2 (λy b=>(Tj (λe=>a.1 (by subst e;exact b))).mpr (hs y (by simp[b]))) λk hk=>h k (List.mem_of_mem_erase hk);rw[fW (hs x (by simp)),ez,Nk];lia
noncomputable def upd(c:α->Int)(x:α)(p:Int):α->Int:=λk=>if k=x then p else c k
theorem vb{ks:List α}(h:x∉ks):(ks.map (upd c x p)).sum=(ks.map c).sum:=by
 congr 1
 refine tj λk hk=>?_;unfold upd;rw[ā (λe:k=x=>h (e▸hk))]
theorem Co{ks:List α}(a:ks.Nodup)(h:x∈ks):(ks.map (upd c x p)).sum+c x=(ks.map c).sum+p:=by
 rw[fW (c:=upd c x p) h,fW (c:=c) h,vb a.not_mem_erase];unfold upd;rw[ÿ rfl];lia
end
abbrev IB:=List Str×(Str->Int)
noncomputable def IC(s:IB)(r:Row):Int:=1+(r.2.map s.2).sum
noncomputable def may(s:IB)(r:Row):Bool:=r.2.all λx=>df (x∈s.1)
noncomputable def J8(s:IB)(r:Row):Bool:=!df (r.1∈s.1)||decide (IC s r<s.2 r.1)
noncomputable def J9(s:IB)(r:Row):IB:=if (may s r&&J8 s r)=cb then(cG s.1 r.1,upd s.2 r.1 (IC s r)) else s
noncomputable def JM:List Row->IB×Bool->IB×Bool
 |[],s=>s
 |r::rs,(s,b)=>JM rs (J9 s r,b||(may s r&&J8 s r))
noncomputable def lim(rs:List Row):Nat->IB->IB
 |0,s=>s
 |n+1,s=>if (JM rs (s,cL)).2=cb then lim rs n (JM rs (s,cL)).1 else(JM rs (s,cL)).1
def iG(ws:List Str)(s:IB):Prop:=jc ws s.1/\(∀k∈s.1,1<=s.2 k)/\(s.1.map s.2).sum<2 ^ s.1.length
noncomputable def mu(s:IB):Int:=(24 - (s.1.length:Nat)) * 2 ^ 24+(s.1.map s.2).sum
theorem zG(a:ws.length<=24)(h:iG ws s):0<=mu s:=by
 have b:=h.1.len;have d:=pe (c:=s.2) (ks:=s.1) λk hk=>by have:=h.2.1 k hk;lia
 unfold mu;lia
theorem vc(B:ws.length<=24)(h:iG ws s)(i:ba ws r):iG ws (J9 s r)/\mu (J9 s r)<=mu s/\((may s r&&J8 s r)=cb->mu (J9 s r)<mu s):=by
 unfold J9;split
 ·rename_i d;rw[c4]at d;obtain⟨t,j⟩:=d;obtain⟨hk,l,hs⟩:=h;have m:∀x∈r.2,x∈s.1:=λx a=>by have:=i7.mp t x a;simpa using this
  have n:∀k∈s.1,0<=s.2 k:=λk hk=>by have:=l k hk;lia
  have C:IC s r<=1+(s.1.map s.2).sum:=by
   have:=u_ (c:=s.2) i.2.1 m n;unfold IC;lia
  have u:1<=IC s r:=by
   have:=pe (c:=s.2) (ks:=r.2) λk hk=>n k (m k hk);unfold IC;lia
  have b:=hk.ins i.1;have f:∀k∈cG s.1 r.1,1<=upd s.2 r.1 (IC s r) k:=λk hk=>by
   unfold upd;split
   ·exact u
   ·rename_i v;exact l k ((cm.mp hk).resolve_right v)
  have o:=b.len;by_cases a:r.1∈s.1
  ·have e:cG s.1 r.1=s.1:=by unfold cG;rw[ÿ a]
   have D:IC s r<s.2 r.1:=by
    unfold J8 at j;simpa[a] using j
   have g:=Co (c:=s.2) (p:=IC s r) hk.1 a;rw[e]at b f ⊢;have G:(s.1.map (upd s.2 r.1 (IC s r))).sum<(s.1.map s.2).sum:=by lia
   refine⟨⟨b,f,by show(s.1.map (upd s.2 r.1 (IC s r))).sum<2 ^ s.1.length;lia⟩,?_,λ_=>?_⟩<;>(unfold mu;dsimp only;lia)
  ·have e:cG s.1 r.1=s.1++[r.1]:=by unfold cG;rw[ā a]
   have g:((s.1++[r.1]).map (upd s.2 r.1 (IC s r))).sum=(s.1.map s.2).sum+IC s r:=by
    rw[ke,QJ,vb a,M1,Rk];unfold upd;rw[ÿ rfl]
   rw[e]at b f o ⊢;rw[hY,nH]at o;have w:(2:Int) ^ (s.1.length+1)=2 * 2 ^ s.1.length:=by rw[Int.pow_succ];lia
   have y:(2:Int) ^ s.1.length<=2 ^ 23:=by
    have A:(2:Nat) ^ s.1.length<=2 ^ 23:=Nat.pow_le_pow_right ⋯ ⋯;have q:=Int.ofNat_le.mpr A;rw[À,À]at q;exact q
   refine⟨⟨b,f,?_⟩,?_,λ_=>?_⟩
   ·show((s.1++[r.1]).map (upd s.2 r.1 (IC s r))).sum<2 ^ (s.1++[r.1]).length;rw[g,hY,nH,w];lia
   ·unfold mu
    dsimp only
    rw[g,hY,nH];lia
   ·unfold mu
    dsimp only
    rw[g,hY,nH];lia
 ·rename_i d;exact⟨h,Ua _,λz=>absurd z d⟩
theorem jR(a:ws.length<=24):∀(rs:List Row) (s:IB) (b:Bool),(∀r∈rs,ba ws r)->iG ws s->iG ws (JM rs (s,b)).1/\mu (JM rs (s,b)).1<=mu s/\((JM rs (s,b)).2=cb->b=cb\/mu (JM rs (s,b)).1<mu s)
 |[],s,b,_,h=>⟨h,Ua _,.inl⟩
 |r::rs,s,b,c,h=>by
  obtain⟨a1,d,a3⟩:=vc a h (c r (by simp));obtain⟨b1,e,b3⟩:=jR a rs (J9 s r) (b||(may s r&&J8 s r)) (λy f=>c y (by simp[f])) a1;refine⟨b1,SN e d,λz=>?_⟩;rcases b3 z with z|z
  ·rw[Lf]at z;rcases z with z|z
   ·exact .inl z
   ·exact .inr (Int.lt_of_le_of_lt e (a3 z))
  ·exact .inr (Int.lt_of_lt_of_le z d)
theorem jS(a:ws.length<=24)(b:∀r∈rs,ba ws r):∀(n:Nat) (s:IB),iG ws s->iG ws (lim rs n s)
 |0,s,h=>h
 |n+1,s,h=>by
  unfold lim;have:=(jR a rs s cL b h).1;split
  ·exact jS a b n _ this
  ·exact this
noncomputable def cD(s:IB):U:=.HE s.1 (s.1.map λk=>.int (s.2 k))
theorem vd{ss:List Str}:JV .seq [(k,.tup (ss.map .str))]=a5 (ss.map λx=>(kE k,U.str x)):=by
 show a5 ((ss.map U.str).map λu=>(kE k,u))=_;rw[i5];rfl
theorem vf(f:α->Int):∀(ns:List α),intsOf (ns.map λa=>U.int (f a))=a5 (ns.map f)
 |[]=>rfl
 |n::ns=>by show(intsOf (ns.map λa=>U.int (f a))).map _=_;rw[vf f ns];rfl
theorem sum_ints(f:α->Int)(l:List α):JJ .sum [(k,.lst (l.map λa=>U.int (f a)))]=a5 (.loc,.int (l.map f).sum):=by
 show(intsOf (l.map λa=>U.int (f a))).map _=_;rw[vf];rfl
noncomputable def s0:IB:=([],λ_=>0)
theorem ly(ws:List Str):iG ws s0:=⟨⟨O9,λx h=>(by cases h)⟩,λk h=>(by cases h),by decide⟩
noncomputable def vg:Fn:=⟨"row_price",2,2,[.ret (.bin .add (.cst (.int 1)) (.bi .sum [.comp 1 cL .seq [.idx (.var 0) (.cst (.int 1))] [] (.idx (.idx (.var 2) (.var 0)) (.cst (.int 0)))]))]⟩
noncomputable def zH : List S :=
        [.ite (.bi .all [.comp 1 cL .seq [.idx (.var 4) (.cst (.int 1))] [] (.cmp .isin (.var 0) (.var 2))])
          [.set 5 (.call "row_price" [.var 4,.var 1]),
          .ite (.or [.cmp .HV (.idx (.var 4) (.cst (.int 0))) (.var 1),.cmp .lt (.var 5) (.idx (.idx (.var 1) (.idx (.var 4) (.cst (.int 0)))) (.cst (.int 0)))])
            [.put 1 (.idx (.var 4) (.cst (.int 0))) (.tup [.var 5,.var 3]),
            .set 2 (.cst (.bl true))]
            []]
          []]
noncomputable def zI:List S :=
   [.set 2 (.cst (.bl cL)),
   .Ia cb [3,4] .Md [(.var 0)] zH]
noncomputable def Cp:Fn:=⟨"prices_and_places",1,6,[.set 1 (.JG cL),.set 2 (.cst (.bl cb)),.Lw (.var 2) zI,.ret (.var 1)]⟩
noncomputable def pD(s:IB)(pl:Str->Int):U:=.HE s.1 (s.1.map λk=>.tup [.int (s.2 k),.int (pl k)])
def jd(Γ:Tab):Prop:=∀(s:IB) (pl:Str->Int) (r:Row),(∀x∈r.2,x∈s.1)->r.2.length<=8->Γ "row_price" [A' r,pD s pl]=a5 (.ok (.loc,.int (IC s r)))
theorem zJ(b:∀x∈r.2,x∈s.1)(e:r.2.length<=8):cR Γ vg [A' r,pD s pl]=a5 (.ok (.loc,.int (IC s r))):=by
 have c:(1000:Nat)<=c6:=by decide
 have a:=i_ (cond:=bb Γ []) (elt:=ev Γ (.idx (.idx (.var 2) (.var 0)) (.cst (.int 0)))) (src:=[(.loc,.tup (r.2.map .str))]) (st:=[a5 (.loc,A' r),a5 (.any,pD s pl)]) trivial .loc (.inl rfl) U.str (λx=>.int (s.2 x)) .any (λ_=>ix) r.2 [] (by simp;lia)
  (λy d=>⟨aI (x:=(.any,.tup [.int (s.2 y),.int (pl y)])) (aI (aR rfl) (aa rfl) trivial (by show(cE s.1 (s.1.map λk=>U.tup [.int (s.2 k),.int (pl k)]) y).map _=_;rw[eL (b y d)];rfl)) ai trivial rfl,qx rfl⟩)
 rw[mn]at a;refine bx (st0:=[a5 (.loc,A' r),a5 (.any,pD s pl)]) rfl (.inr rfl) ?_ (bN (bw ai (bC (ae (dJ (rs:=[(.loc,.tup (r.2.map .str))]) (ae (aI (aa rfl) ai trivial rfl) ah) trivial vd a) ah) trivial (sum_ints _ _)) trivial bW) fL);show [a5 (if H_ (A' r)=cb then Kd.loc else Kd.any,A' r),a5 (if H_ (pD s pl)=cb then Kd.loc else Kd.any,pD s pl)]=_;rw[ÿ (oU r),ā (by show ¬(cL=cb);decide)]
theorem sZ(h:IH Pg "row_price" vg):jd (HW Pg (d+1)):=λs pl r a b=>by
 rw[aX h];exact zJ a b
def JT(rs:List Row)(s:IB)(pl:Str->Int):Prop:=∀k∈s.1,∃(i:Nat) (r:Row),pl k=(i:Int)/\rs[i]?=a5 r/\r.1=k/\(∀x∈r.2,x∈s.1)/\IC s r<=s.2 k
theorem zK{c a:α->Int}:∀{ts:List α},(∀x∈ts,a x<=c x)->(ts.map a).sum<=(ts.map c).sum
 |[],_=>Ua _
 |x::ts,h=>by
  have d:=h x (by simp);have e:=zK (ts:=ts) λy b=>h y (by simp[b]);rw[ez,ez,Nk,Nk];lia
theorem JT.step{i:Nat}(h:JT rs s pl)(hi:rs[i]?=a5 r)(g:may s r=cb)(b:J8 s r=cb):JT rs (cG s.1 r.1,upd s.2 r.1 (IC s r)) (upd pl r.1 (i:Int)):=by
 have c:∀x∈r.2,x∈s.1:=λx a=>by have:=i7.mp g x a;simpa using this
 have l:∀x∈s.1,upd s.2 r.1 (IC s r) x<=s.2 x:=λx a=>by
  unfold upd;split
  ·rename_i e;subst e;unfold J8 at b;have:IC s r<s.2 r.1:=by simpa[a] using b
   lia
  ·exact Ua _
 have d:∀q:Row,(∀x∈q.2,x∈s.1)->IC (cG s.1 r.1,upd s.2 r.1 (IC s r)) q<=IC s q:=λq m=>by
  have:=zK (ts:=q.2) λx a=>l x (m x a);unfold IC at this ⊢
  dsimp only
  lia
 intro k hk;by_cases e:k=r.1
 ·subst e;refine⟨i,r,by unfold upd;rw[ÿ rfl],hi,rfl,λx a=>cm.mpr (.inl (c x a)),SN (d r c) ?_⟩;show IC s r<=upd s.2 r.1 (IC s r) r.1;unfold upd;rw[ÿ rfl];exact Ua _
 ·obtain⟨j,q,a1,n,a3,f,o⟩:=h k ((cm.mp hk).resolve_right e);refine⟨j,q,by unfold upd;rw[ā e];exact a1,n,a3,λx a=>cm.mpr (.inl (f x a)),SN (d q f) ?_⟩;show IC s q<=upd s.2 r.1 (IC s r) k;unfold upd;rw[ā e];exact o
theorem JT.start(rs:List Row)(pl:Str->Int):JT rs s0 pl:=λk hk=>by cases hk
noncomputable def iH(rs:List Row)(s:IB)(pl:Str->Int)(b:Bool)(a o4 o5:Option (Kd×U)):aw:=[a5 (.loc,.tup (rs.map A')),a5 (.own,pD s pl),a5 (.loc,.bl b),a,o4,o5]
theorem Cq(m:jd Γ){n:Nat}(G:ws.length<=24)(hs:iG ws s)(o:ba ws r)(q:rs[n]?=a5 r)(f:JT rs s pl):
  ∃i t,Run (execs Γ zH) (iH rs s pl b (a5 (.loc,.int (n:Int))) (a5 (.loc,A' r)) o5) .nx (iH rs (J9 s r) i (b||(may s r&&J8 s r)) (a5 (.loc,.int (n:Int))) (a5 (.loc,A' r)) t)/\JT rs (J9 s r) i:=by
 generalize u:(n:Int)=p;have v:(1000:Nat)<=c6:=by decide
 have z:=o.2.2.2;have hl:=hs.1.len;have g:d7 (.loc,A' r) (.int 0)=a5 (.loc,.str r.1):=rfl;have A:d7 (.loc,A' r) (.int 1)=a5 (.loc,.tup (r.2.map .str)):=rfl;have a:=sE (ni (Γ:=Γ) (st:=iH rs s pl b (a5 (.loc,.int p)) (a5 (.loc,A' r)) o5) (src:=.idx (.var 4) (.cst (.int 1))) (j:=1) (told:=r.2) (known:=s.1) (k:=.loc) (w:=pD s pl) (.inl rfl) ⋯ (aI (aa rfl) ai trivial A) (.inr rfl) λx=>sN);unfold J9;cases c:may s r with
 |false =>
  rw[show(r.2.all λx=>df (x∈s.1))=cL from c]at a;rw[ā (by simp),Xz,QC];exact⟨pl,o5,bc a ao ao,f⟩
 |true =>
  rw[show(r.2.all λx=>df (x∈s.1))=cb from c]at a;have B:∀x∈r.2,x∈s.1:=λx C=>by have:=i7.mp c x C;simpa using this
  have l:Run (ev Γ (.call "row_price" [.var 4,.var 1])) (iH rs s pl b (a5 (.loc,.int p)) (a5 (.loc,A' r)) o5) (.loc,.int (IC s r)) (iH rs s pl b (a5 (.loc,.int p)) (a5 (.loc,A' r)) o5):=bI (ae (aa rfl) (ae (av rfl) ah)) ∅ (m s pl r B z);have d:Run (HX Γ (.or [.cmp .HV (.idx (.var 4) (.cst (.int 0))) (.var 1),.cmp .lt (.var 5) (.idx (.idx (.var 1) (.idx (.var 4) (.cst (.int 0)))) (.cst (.int 0)))])) (iH rs s pl b (a5 (.loc,.int p)) (a5 (.loc,A' r)) (a5 (.loc,.int (IC s r)))) (J8 s r) (iH rs s pl b (a5 (.loc,.int p)) (a5 (.loc,A' r)) (a5 (.loc,.int (IC s r)))) :=
   yZ (GJ (aM (aI (aa rfl) ai trivial g) (av rfl) ∅ fU) λD=>qy (aM (y:=(.loc,.int (s.2 r.1))) (aa rfl) (aI (x:=(.loc,.tup [.int (s.2 r.1),.int (pl r.1)])) (aI (av rfl) (aI (aa rfl) ai trivial g) ∅ (by show(cE s.1 (s.1.map λk=>U.tup [.int (s.2 k),.int (pl k)]) r.1).map _=_;rw[eL (by simpa using D)];rfl)) ai trivial rfl) trivial (k_ rfl)))
  cases h:J8 s r with
  |false =>
   rw[h]at d;rw[ā (by simp),Rn,QC];exact⟨pl,_,cy a (au l aF (bc d ao ao)) ao,f⟩
  |true =>
   rw[h]at d;rw[ÿ (by simp),X5,Bool.or_true];have e:dy (.str r.1) (.tup [.int (IC s r),.int p]) (pD s pl)=a5 (pD (cG s.1 r.1,upd s.2 r.1 (IC s r)) (upd pl r.1 p)):=by
    unfold pD;rw[o_ ⋯];congr 3
    funext k
    show _=U.tup [.int (upd s.2 r.1 (IC s r) k),.int (upd pl r.1 p k)];unfold upd;split<;>rfl
   exact⟨upd pl r.1 p,a5 (.loc,.int (IC s r)),cy a (au l aF (cy d (iB (k:=.own) (k':=.own) (gs (ae (aa rfl) (ae (aa rfl) ah)) trivial (aA aH (aA aH aE)) (by show 2<=c6;lia)) rfl (aI (aa rfl) ai trivial g) (aA aH (aA aH aE)) rfl rfl e (au ai aF ao)) ao)) ao,u▸f.step q c h⟩
theorem Cr{rs:List Row}:JV .Md [(.loc,.tup (rs.map A'))]=a5 (rs.zipIdx.map λp:Row×Nat=>(Kd.loc,U.tup [.int (p.2:Nat),A' p.1])):=by
 show a5 ((rs.map A').zipIdx.map λp=>(kE .loc,U.tup [.int p.2,p.1]))=_;rw[Z3,i5];rfl
theorem vh(m:jd Γ)(g:ws.length<=24):∀(e:List Row) (n:Nat) (s:IB) (pl:Str->Int) (b:Bool) (f o4 o5:Option (Kd×U)),(∀r∈e,ba ws r)->(∀(i:Nat) (r:Row),e[i]?=a5 r->rs[n+i]?=a5 r)->iG ws s->JT rs s pl ->
  ∃o u v h,Run (forM cb [3,4] (execs Γ zH) [(.loc,.tup (rs.map A'))] ((e.zipIdx n).map λp:Row×Nat=>(Kd.loc,U.tup [.int (p.2:Nat),A' p.1]))) (iH rs s pl b f o4 o5) .nx (iH rs (JM e (s,b)).1 o (JM e (s,b)).2 u v h)/\JT rs (JM e (s,b)).1 o
 |[],n,s,pl,b,f,o4,o5,_,_,_,j=>⟨pl,f,o4,o5,uO trivial,j⟩
 |r::e,n,s,pl,b,f,o4,o5,k,t,hs,j=>by
  obtain⟨w,h,q,x⟩:=Cq m (rs:=rs) (pl:=pl) (b:=b) (n:=n) (o5:=o5) g hs (k r (by simp)) (by simpa using t 0 r rfl) j;obtain⟨z,a,c,d,A,B⟩:=vh m g e (n+1) (J9 s r) w (b||(may s r&&J8 s r)) (a5 (.loc,.int (n:Int))) (a5 (.loc,A' r)) h (λy l=>k y (by simp[l])) (λi y l=>by rw[Nat.add_assoc,Nat.add_comm 1 i];exact t (i+1) y (by simpa using l)) (vc g hs (k r (by simp))).1 x;exact⟨z,a,c,d,B4 trivial (jr (.inl rfl)) q A,B⟩
theorem vi(n:jd Γ)(b:ws.length<=24)(k:∀r∈rs,ba ws r):∀(f:Nat) (s:IB) (pl:Str->Int) (e o4 o5:Option (Kd×U)),iG ws s->JT rs s pl->mu s+1<f ->
  ∃o t u v,Run (eW (HX Γ (.var 2)) (execs Γ zI) f) (iH rs s pl cb e o4 o5) .nx (iH rs (lim rs f s) o cL t u v)/\JT rs (lim rs f s) o
 |0,s,_,_,_,_,hs,_,w=>by have:=zG b hs;lia
 |f+1,s,pl,e,o4,o5,hs,x,w=>by
  obtain⟨l,a,c,d,q,p⟩:=vh n (rs:=rs) b rs 0 s pl cL e o4 o5 k (λi r h=>by rw[Oj];exact h) hs x;obtain⟨y,G,z⟩:=jR b rs s cL k hs;have j:Run (execs Γ zI) (iH rs s pl cb e o4 o5) .nx (iH rs (JM rs (s,cL)).1 l (JM rs (s,cL)).2 a c d):=au ai aF (cV (rs:=[(.loc,.tup (rs.map A'))]) (ae (aa rfl) ah) trivial Cr rfl q ao);unfold lim;have m0:=zG b hs;cases m:(JM rs (s,cL)).2 with
  |true =>
   rw[m]at j;rw[ÿ rfl];have H:=(z m).resolve_left (by simp);obtain⟨A,a',B,d',C,D⟩:=vi n b k f (JM rs (s,cL)).1 l a c d y p ⋯;exact⟨A,a',B,d',lV (fe rfl) j C,D⟩
  |false =>
   rw[m]at j;rw[ā (by simp)];obtain⟨f,rfl⟩:∃g,f=g+1:=⟨f - 1,⋯⟩
   exact⟨l,a,c,d,lV (fe rfl) j (ll (fe rfl)),p⟩
def qU(Γ:Tab):Prop:=∀(ws:List Str) (rs:List Row),ws.length<=24->(∀r∈rs,ba ws r)->∃pl,Γ "prices_and_places" [.tup (rs.map A')]=a5 (.ok (.own,pD (lim rs fuel s0) pl))/\JT rs (lim rs fuel s0) pl
theorem Cs(b:jd Γ)(e:ws.length<=24)(f:∀r∈rs,ba ws r):∃pl,cR Γ Cp [.tup (rs.map A')]=a5 (.ok (.own,pD (lim rs fuel s0) pl))/\JT rs (lim rs fuel s0) pl:=by
 obtain⟨pl,a,c,d,q,g⟩:=vi b e f fuel s0 (λ_=>0) b6 b6 b6 (ly ws) (JT.start rs _) (by unfold fuel;decide);refine⟨pl,bx (st0:=[a5 (.loc,.tup (rs.map A')),b6,b6,b6,b6,b6]) rfl (.inl rfl) ?_ (au (k7) aY (au (st2:=iH rs s0 (λ_=>0) cb b6 b6 b6) ai aF (m9 q (bN (av rfl) (gw rfl))))),g⟩;show [a5 (if H_ (.tup (rs.map A'))=cb then Kd.loc else Kd.any,U.tup (rs.map A')),b6,b6,b6,b6,b6]=_;rw[ÿ (by show bU (rs.map A')=cb;exact aO rs)]
theorem zL(a:jd (HW Pg d))(h:IH Pg "prices_and_places" Cp):qU (HW Pg (d+1)):=λws rs b c=>by
 obtain⟨pl,e,f⟩:=Cs a b c;exact⟨pl,by rw[aX h];exact e,f⟩
noncomputable def jT:Fn:=⟨"prices",1,1,[.ret (.bi .sorted [.comp 2 cb .N2 [.call "prices_and_places" [.var 0]] [] (.tup [.var 0,.idx (.var 1) (.cst (.int 0))])])]⟩
noncomputable def J_(c:Str->Int)(x:Str):U:=.tup [.str x,.int (c x)]
theorem vj(c:Str->Int):∀ks:List Str,mO (ks.map (J_ c))=a5 ks
 |[]=>rfl
 |k::ks=>by
  show(mO (ks.map (J_ c))).map _=_;rw[vj c ks];rfl
theorem vk(c:Str->Int)(hl:ks.length<64)(a:ks.Nodup):∃b:List Str,b.Perm ks/\JJ .sorted [(.own,.lst (ks.map (J_ c)))]=a5 (.own,.lst (b.map (J_ c))):=by
 cases ks with
 |nil =>
  have e:aJ []=[]:=Ì.mp (bH []);refine⟨[],ME _,?_⟩;show(if ([]:List Str).length<64 then a5 (Kd.own,U.lst ((aJ []).map U.str)) else b6)=_;rw[e];rfl
 |cons k0 f =>
  generalize g:k0::f=ks at hl a;have e:(i1 ks.length).map (λi=>ks.getD i r6)=ks:=by
   apply LU
   ·simp
   ·intro i l h;simp[Ii,h]
  have d:=(cn ks).map λi=>ks.getD i r6;rw[e]at d;refine⟨_,d,?_⟩;have j:strsOf (ks.map (J_ c))=b6:=by subst g;rfl
  show wc .own (ks.map (J_ c))=_;unfold wc;rw[j];show Bg .own (ks.map (J_ c))=_;unfold Bg;rw[vj];show(if _ then _ else _)=_;rw[ÿ ⟨hl,a,rfl⟩,i5];congr 3
  apply tj;intro i hi;have k:i<ks.length:=rr.mp ((cn _).mem_iff.mp hi);simp[Ii,k]
theorem vm:JV .N2 [(.own,pD s pl)]=a5 (s.1.map λk=>(Kd.loc,U.tup [.str k,.tup [.int (s.2 k),.int (pl k)]])):=by
 show a5 (rT (s.1,s.1.map λk=>U.tup [.int (s.2 k),.int (pl k)]))=_;unfold rT;congr 1
 dsimp only
 generalize s.1=l;induction l with
 |nil=>rfl
 |cons k l a=>rw[ez,OU,ez,a,ez]
def pf(Γ:Tab):Prop:=∀(ws:List Str) (rs:List Row),ws.length<=24->(∀r∈rs,ba ws r)->∃ks:List Str,ks.Perm (lim rs fuel s0).1/\Γ "prices" [.tup (rs.map A')]=a5 (.ok (.own,.lst (ks.map (J_ (lim rs fuel s0).2))))
theorem qV(f:qU Γ)(b:ws.length<=24)(c:∀r∈rs,ba ws r):∃ks:List Str,ks.Perm (lim rs fuel s0).1/\cR Γ jT [.tup (rs.map A')]=a5 (.ok (.own,.lst (ks.map (J_ (lim rs fuel s0).2)))):=by
 have g:(1000:Nat)<=c6:=by decide
 obtain⟨pl,e,_⟩:=f ws rs b c;have a:=jS b c fuel s0 (ly ws);generalize lim rs fuel s0=s at e a;have hl:=a.1.len;have d:=ja (st:=[a5 (.loc,.tup (rs.map A'))]) (cond:=bb Γ []) (elt:=ev Γ (.tup [.var 0,.idx (.var 1) (.cst (.int 0))])) (src:=[(.own,pD s pl)]) trivial (λk:Str=>U.str k) (λk=>.tup [.int (s.2 k),.int (pl k)]) (J_ s.2) (λ_=>cb) s.1 [] (by simp;lia)
  (λy _=>⟨ix,gs (ae (aa rfl) (ae (aI (aa rfl) ai trivial rfl) ah)) trivial (aA aH (aA aH aE)) (by show 2<=c6;lia)⟩)
 rw[mn,show s.1.filter (λ_=>cb)=s.1 from MV.mpr λ_ _=>rfl]at d;obtain⟨ks,h,es⟩:=vk s.2 (ks:=s.1) ⋯ a.1.1;refine⟨ks,h,bx (st0:=[a5 (.loc,.tup (rs.map A'))]) rfl (.inl rfl) ?_ (bN (bC (ae (dJ (rs:=[(.own,pD s pl)]) (ae (bI (ae (aa rfl) ah) trivial e) ah) trivial vm d) ah) trivial es) gv)⟩;show [a5 (if H_ (.tup (rs.map A'))=cb then Kd.loc else Kd.any,U.tup (rs.map A'))]=_;rw[ÿ (by show bU (rs.map A')=cb;exact aO rs)]
theorem vn(a:qU (HW Pg d))(h:IH Pg "prices" jT):pf (HW Pg (d+1)):=λws rs b c=>by
 obtain⟨ks,f,e⟩:=qV a b c;exact⟨ks,f,by rw[aX h];exact e⟩
theorem G1(h:Run (ev Γ a) st (k,.bl c) st1):Run (ev Γ (.not a)) st (.loc,.bl !c) st1:=ab h rfl
section
theorem Cu(p:i≠j)(g:st[i]?=a5 (a5 (k0,a)))(c:k0.root=cb)(z:st[j]?=a5 (a5 (k0',d)))(A:k0'.root=cb)(B:Run (bK Γ es) st rs st1)
  (b:st1[i]?=a5 (a5 (k,.lst us))) (hk:k.root=cb) (C:bU us=cb) (h:st1[j]?=a5 (a5 (k',.lst vs))) (s:k'.root=cb) (D:bU vs=cb) (l:rs.all Po=cb)
  (G:Γ f (.lst us::.lst vs::rs.map (·.2))=a5 (.ok (m,.tup [v,.lst t,.lst w]))) (H:m=.own\/m=.loc):Run (ev Γ (.HF f (.var i::.var j::es) [0,1])) st (m,v) ((st1.set i (a5 (k,.lst t))).set j (a5 (k',.lst w))):=by
 have x:∀(i:Nat) (k0:Kd) (a:U),st[i]?=a5 (a5 (k0,a))->k0.root=cb->Run (ev Γ (.var i)) st (.bor i,a) st:=λi k0 a g c=>by
  have:=dH g (by rintro rfl;cases c);unfold kv at this;rw[ÿ c]at this;exact this
 have y:∀(i:Nat) (k:Kd) (a u:U),st1[i]?=a5 (a5 (k,u))->k.root=cb->dN st1 (.bor i,a)=(.bor i,u):=λi k a u b hk=>by
  unfold dN
  dsimp only
  rw[b];simp[hk]
 have I:rs.map (dN st1)=rs:=by
  conv=>rhs;rw[<-Vm rs]
  exact tj λr J=>qQ (i7.mp l r J)
 have e:((Kd.bor i,a)::(Kd.bor j,d)::rs).map (dN st1)=(.bor i,.lst us)::(.bor j,.lst vs)::rs:=by rw[ez,ez,y i k a _ b hk,y j k' d _ h s,I]
 have n:gK ((Kd.bor i,U.lst us)::(Kd.bor j,U.lst vs)::rs) 0=a5 i:=by
  show(if bU us=cb then a5 i else b6)=_;rw[ÿ C]
 have o:gK ((Kd.bor i,U.lst us)::(Kd.bor j,U.lst vs)::rs) 1=a5 j:=by
  show(if bU vs=cb then a5 j else b6)=_;rw[ÿ D]
 refine oP (rs:=(.bor i,a)::(.bor j,d)::rs) (ws:=[.lst t,.lst w]) (st1:=st1) (ae (x i k0 a g c) (ae (x j k0' d z A) B)) ?_ ?_ H ?_ ?_
 ·rw[e];exact⟨⟨k,hk,b⟩,⟨k',s,h⟩,qR l⟩
 ·rw[e];exact G
 ·rw[e];unfold qf;rw[c4,c4];refine⟨⟨by simp[n,o],by simp[n,o,p]⟩,i7.mpr λq L=>?_⟩
  match q with
  |0=>simp
  |1=>simp
  |q+2 =>
   have hl:q<rs.length:=by have:=rr.mp L;simpa using this
   rw[Lf];refine .inr (nv ?_);rw[show((Kd.bor i,U.lst us)::(Kd.bor j,U.lst vs)::rs).getD (q+2) (.loc,.HH)=rs[q] by simp[Ii,hl]];exact i7.mp l _ (LS hl)
 ·rw[e];unfold gp;rw[n]
  dsimp only
  rw[b]
  dsimp only
  unfold gp;rw[o]
  dsimp only
  rw[i6 p,h];rfl
end
def lz(Γ:Tab):Prop:=∀(ns:List Int) (u:U) (ws:List Str) (T:Int),Src T u->T+500<2 ^ 62->ns.length<1000->0<ws.length->ws.length<1000000 ->
  ∃(rs:List Row) (a:List Int) (u':U),Γ "_law_book" [.lst (ns.map .int),u,.lst (ws.map .str)]=a5 (.ok (.loc,.tup [.tup (rs.map A'),.lst (a.map .int),u']))/\da ws rs/\rs.length<=60/\a.length<=ns.length/\Src (T+500) u'
theorem zM(a:iF (HW Pg d))(b:a_ (HW Pg d))(c:lr (HW Pg d))(f:lu (HW Pg d))(h:IH Pg "_law_book" oY):lz (HW Pg (d+1)):=by
 intro ns u ws T g i j k l;obtain⟨rs,m,u',e,r⟩:=sV a b c f g i j k l;exact⟨rs,m,u',by rw[cu h _ rfl];exact e,r⟩
theorem qW(a:iF Γ){ns:List Int}:∃(b:List Int) (u:U),Run (ev Γ (.HF "_law_source" [.var 1,.cst (.int k)] [0])) (o0::a5 (.own,.lst (ns.map .int))::rest) (.own,u) (o0::a5 (.own,.lst (b.map .int))::rest)/\b.length<=ns.length/\Src 0 u:=by
 by_cases h:ns=[]
 ·subst h;exact⟨[],d9 k 0 1,Fc (k0:=.own) (k:=.own) a rfl rfl ai rfl rfl,hW _,⟨_,_,_,rfl,⋯,⋯⟩⟩
 ·have e:=Nj h;generalize ns.dropLast=l at e;generalize ns.getLast h=c at e;subst e;exact⟨l,d9 (c / 2) 0 (c % 2),zo (k0:=.own) (k:=.own) a rfl rfl ai rfl rfl,by simp,⟨_,_,_,rfl,⋯,⋯⟩⟩
theorem Src.lst(h:Src T u):∃us,u=.lst us/\bU us=cb:=by
 obtain⟨a,t,w,rfl,_,_⟩:=h;exact⟨_,rfl,rfl⟩
def Mm(rs:List Row)(s:IB):Prop:=∀r∈rs,(may s r&&J8 s r)=cL
theorem vp:∀(rs:List Row) (s:IB) (b:Bool),(JM rs (s,b)).2=cL->b=cL/\Mm rs s/\(JM rs (s,b)).1=s
 |[],s,b,h=>⟨h,λr d=>(by cases d),rfl⟩
 |r::rs,s,b,h=>by
  obtain⟨f,a,g⟩:=vp rs (J9 s r) (b||(may s r&&J8 s r)) h;obtain⟨i,c⟩:=Tt.mp f;have e:J9 s r=s:=by unfold J9;rw[ā (by simp[c])]
  rw[e]at a;refine⟨i,λq hq=>?_,?_⟩
  ·rcases fR.mp hq with rfl|hq
   ·exact c
   ·exact a q hq
  ·show(JM rs (J9 s r,b||(may s r&&J8 s r))).1=s;rw[g,e]
theorem vq(a:ws.length<=24)(b:∀r∈rs,ba ws r):∀(n:Nat) (s:IB),iG ws s->mu s+1<n->Mm rs (lim rs n s)
 |0,s,h,d=>by have:=zG a h;lia
 |n+1,s,h,d=>by
  obtain⟨e,j,f⟩:=jR a rs s cL b h;unfold lim;cases c:(JM rs (s,cL)).2 with
  |true =>
   rw[ÿ rfl];have:=(f c).resolve_left (by simp);exact vq a b n _ e ⋯
  |false =>
   rw[ā (by simp)];obtain⟨_,g,i⟩:=vp rs s cL c;rw[i];exact g
theorem JT.best(h:JT rs s pl)(hs:Mm rs s)(hk:k∈s.1):∃(i:Nat) (r:Row),pl k=(i:Int)/\rs[i]?=a5 r/\r.1=k/\(∀x∈r.2,x∈s.1)/\s.2 k=IC s r:=by
 obtain⟨i,r,a1,b,a3,c,d⟩:=h k hk;refine⟨i,r,a1,b,a3,c,Int.le_antisymm ?_ d⟩;have a:=hs r (lg b);have e:may s r=cb:=i7.mpr λx f=>by simpa using c x f
 rw[e,X4]at a;unfold J8 at a;rw[a3]at a;simp[hk]at a;exact a
noncomputable def ph:Fn:=⟨"best_rows",1,1,[.ret (.bi .sorted [.comp 2 cb .N2 [.call "prices_and_places" [.var 0]] [] (.tup [.var 0,.idx (.var 1) (.cst (.int 1))])])]⟩
def zN(Γ:Tab):Prop:=∀(ws:List Str) (rs:List Row),ws.length<=24->(∀r∈rs,ba ws r)->∃(pl:Str->Int) (ks:List Str),ks.Perm (lim rs fuel s0).1/\Γ "best_rows" [.tup (rs.map A')]=a5 (.ok (.own,.lst (ks.map (J_ pl))))/\JT rs (lim rs fuel s0) pl
theorem s9(g:qU Γ)(b:ws.length<=24)(c:∀r∈rs,ba ws r):∃(pl:Str->Int) (ks:List Str),ks.Perm (lim rs fuel s0).1/\cR Γ ph [.tup (rs.map A')]=a5 (.ok (.own,.lst (ks.map (J_ pl))))/\JT rs (lim rs fuel s0) pl:=by
 have h:(1000:Nat)<=c6:=by decide
 obtain⟨pl,e,d⟩:=g ws rs b c;have a:=jS b c fuel s0 (ly ws);generalize lim rs fuel s0=s at e a d ⊢;have hl:=a.1.len;have f:=ja (st:=[a5 (.loc,.tup (rs.map A'))]) (cond:=bb Γ []) (elt:=ev Γ (.tup [.var 0,.idx (.var 1) (.cst (.int 1))])) (src:=[(.own,pD s pl)]) trivial (λk:Str=>U.str k) (λk=>.tup [.int (s.2 k),.int (pl k)]) (J_ pl) (λ_=>cb) s.1 [] (by simp;lia)
  (λy _=>⟨ix,gs (ae (aa rfl) (ae (aI (aa rfl) ai trivial rfl) ah)) trivial (aA aH (aA aH aE)) (by show 2<=c6;lia)⟩)
 rw[mn,show s.1.filter (λ_=>cb)=s.1 from MV.mpr λ_ _=>rfl]at f;obtain⟨ks,i,es⟩:=vk pl (ks:=s.1) ⋯ a.1.1;refine⟨pl,ks,i,bx (st0:=[a5 (.loc,.tup (rs.map A'))]) rfl (.inl rfl) ?_ (bN (bC (ae (dJ (rs:=[(.own,pD s pl)]) (ae (bI (ae (aa rfl) ah) trivial e) ah) trivial vm f) ah) trivial es) gv),d⟩;show [a5 (if H_ (.tup (rs.map A'))=cb then Kd.loc else Kd.any,U.tup (rs.map A'))]=_;rw[ÿ (by show bU (rs.map A')=cb;exact aO rs)]
theorem Fe(a:qU (HW Pg d))(h:IH Pg "best_rows" ph):zN (HW Pg (d+1)):=λws rs b c=>by
 obtain⟨pl,ks,f,e,i⟩:=s9 a b c;exact⟨pl,ks,f,by rw[aX h];exact e,i⟩
noncomputable def s_:Fn:=⟨"_law_whole",1,1,[.ret (.and [.LO (.var 0) .int,.not (.LO (.var 0) .bool)])]⟩
def iI(Γ:Tab):Prop:=∀n:Int,Γ "_law_whole" [.int n]=a5 (.ok (.loc,.bl cb))
theorem Cv(h:IH Pg "_law_whole" s_):iI (HW Pg (d+1)):=λn=>by
 rw[aX h];exact bx (st0:=[a5 (.loc,.int n)]) rfl (.inr rfl) rfl (bN (C0 (y8 (p:=cb) (q:=cb) (C2 (aa rfl) rfl) λ_=>yY (G1 (c:=cL) (C2 (aa rfl) rfl)))) fL)
theorem Ff(e:Run (ev Γ a) st x st1)(f:Run (ev Γ b) st1 y st2)(g:bp [x,y] st2)(h:bZ i x.2 y.2=a5 cb)(j:Run (ev Γ c) st2 z d)(k:bp [y,z] d)(l:bZ o2 y.2 z.2=a5 q):Run (HX Γ (.Kt i o2 a b c)) st q d :=
 ab e (ab f (ab (aZ g) (ab (b9 h) (ab j (ab (aZ k) (b9 l))))))
end TM
namespace KL
open PySem L2 TM
noncomputable def dc:Fn:=⟨"gathered",1,4,[.newD 1,.Ia cb [2,3] .seq [.var 0] [.ite (.inD cb (.var 2) 1) [.putD 1 (.var 2) (.lst [])] [],.J5 1 (.var 2) (.var 3)],.ret (.N4 1)]⟩
noncomputable def bf:Fn:=⟨"places_that_tell",1,4,[.set 1 (.lst []),.Ia cb [2,3] .Md [.var 0] [.ext 1 (.comp 1 cL .seq [.idx (.var 3) (.cst (.int 1))] [] (.tup [.var 0,.var 3]))],.ret (.call "gathered" [.var 1])]⟩
noncomputable def cQ:Fn:=⟨"new_steps",3,6,[.set 3 (.JG cL),.Ia cL [4] .seq [.var 1] [.set 5 (.idx (.idx (.var 0) (.var 4)) (.cst (.int 0))),.ite (.and [.cmp .HV (.var 5) (.var 2),.cmp .HV (.var 5) (.var 3)]) [.put 3 (.var 5) (.var 4)] []],.ret (.N5 3)]⟩
noncomputable def bh:Fn:=⟨"steps_in_rounds",1,10,[.set 1 (.call "places_that_tell" [.var 0]),.set 2 (.comp 1 cL .seq [.var 0] [] (.bi .len [.idx (.var 0) (.cst (.int 1))])),.set 3 (.JG cL),.set 4 (.lst []),.set 5 (.comp 2 cb .Md [.var 2] [.cmp .eq (.var 1) (.cst (.int 0))] (.var 0)),.Lw (.cmp .ne (.var 5) (.lst [])) [.set 6 (.call "new_steps" [.var 0,.var 5,.var 3]),.set 5 (.lst []),.Ia cb [7,8] .seq [.var 6] [.put 3 (.var 7) (.cst (.bl cb)),.Ia cL [9] .seq [.Ku 1 (.var 7) (.lst [])] [.aug cb 2 (.var 9) (.cst (.int 1)),.ite (.cmp .eq (.idx (.var 2) (.var 9)) (.cst (.int 0))) [.app 5 (.var 9)] []]],.ite (.cmp .ne (.var 6) (.lst [])) [.app 4 (.var 6)] []],.ret (.var 4)]⟩
noncomputable def ff:Fn:=⟨"order",1,3,[.set 1 (.lst []),.Ia cL [2] .seq [.call "steps_in_rounds" [.var 0]] [.ext 1 (.var 2)],.ret (.var 1)]⟩
noncomputable def eM:Fn:=⟨"learnt",1,1,[.ret (.bi .sorted [.comp 2 cb .seq [.call "order" [.var 0]] [] (.var 0)])]⟩
end KL
namespace KL
open PySem L2 TM Ih Od
noncomputable def cB(f:Str->List Nat)(k:Str):U:=.lst ((f k).map λt:Nat=>U.int (t:Nat))
theorem je(d:List (Str×Nat))(y:Str×Nat)(k:Str):aK (d++[y]) k=if y.1=k then aK d k++[y.2] else aK d k:=by
 rw[qK];by_cases e:y.1=k
 ·rw[ÿ e];simp[aK,e]
 ·rw[ā e];simp[aK,e]
theorem zO(d:List (Str×Nat))(k:Str):(aK d k).length<=d.length:=by
 unfold aK;rw[cc];exact td _ _
section
theorem pj(hl:ps.length<=1000):∃ks:List Str,(∀w,w∉ks->aK ps w=[])/\cR Γ dc [.lst (ps.map stN)]=a5 (.ok (.own,.HE ks (ks.map (cB (aK ps))))):=by
 have hsz:(2000:Nat)<=c6:=by decide
 have A:TM.start [.lst (ps.map stN)] 4=[a5 (.any,.lst (ps.map stN)),b6,b6,b6]:=rfl;let S:=λ(ks:List Str) (us:List U) (o2 f:Option (Kd×U))=>([a5 (.any,.lst (ps.map stN)),a5 (.G',.HE ks us),o2,f]:aw)
 let body:List TM.S:=[.ite (.inD cb (.var 2) 1)
    [.putD 1 (.var 2) (.lst [])]
    [],
   .J5 1 (.var 2) (.var 3)]
 obtain⟨st',B,m,ks,o2,f,e,g,hk,C⟩:=cj (t:=cb) (is:=[2,3]) (body:=execs Γ body) (rs:=[(.any,.lst (ps.map stN))]) (λp:Str×Nat=>(Kd.any,stN p))
  (λd r st=>d++r=ps/\∃(ks:List Str) (o2 f:Option (Kd×U)),st=S ks (ks.map (cB (aK d))) o2 f/\ks.Nodup/\(∀w,w∉ks->aK d w=[])/\ks.length<=d.length) (λ_ _ _ _=>trivial) (λd y r st D=>by
   obtain⟨m,ks,o2,f,e,g,hk,C⟩:=D;subst e;have L:d.length<1000:=by have:=Ą Kz m;simp at this;lia
   let i:Option (Kd×U):=a5 (.any,.str y.1);let j:Option (Kd×U):=a5 (.any,.int (y.2:Nat));have N:=zO d y.1;have l:∀(ks:List Str),ks.Nodup->y.1∈ks->Run (execs Γ [.J5 1 (.var 2) (.var 3)]) (S ks (ks.map (cB (aK d))) i j) .nx (S ks (ks.map (cB (aK (d++[y])))) i j):=λks g c=>by
    have G:cE ks (ks.map (cB (aK d))) y.1=a5 (.lst ((aK d y.1).map λt:Nat=>U.int (t:Nat))):=by rw[lp,ÿ c];rfl
    have hs:jD ks (ks.map (cB (aK d))) y.1 (.lst ((aK d y.1).map (λt:Nat=>U.int (t:Nat))++[.int (y.2:Nat)]))=ks.map (cB (aK (d++[y]))):=by
     rw[qL _ _ _ _ g];refine tj λk hk=>?_;unfold cB;rw[je];by_cases e:y.1=k
     ·subst e;rw[ÿ rfl,ÿ rfl];simp
     ·rw[ā e,ā (sx e)]
    rw[<-hs];exact E6 (k:=.any) (r:=(.any,.int (y.2:Nat))) rfl (aR rfl) c (aR rfl) (qx rfl) G (by rw[cc];lia) ao
   have n:Run (HX Γ (.inD cb (.var 2) 1)) (S ks (ks.map (cB (aK d))) i j) (!df (y.1∈ks)) (S ks (ks.map (cB (aK d))) i j):=GL (neg:=cb) (k:=.any) (aR rfl) rfl;have q:Run (dm cb [2,3] (.any,stN y)) (S ks (ks.map (cB (aK d))) o2 f) () (S ks (ks.map (cB (aK d))) i j):=jr (.inr rfl);by_cases c:y.1∈ks
   ·rw[ă c]at n;refine⟨_,_,q,oR n (λh=>by cases h) λ_=>l ks g c,by rw[<-m];simp,ks,_,_,rfl,g,λw o=>?_,by simp;lia⟩;have H:y.1≠w:=λz=>o (by rw[<-z];exact c);rw[je,ā H];exact hk w o
   ·rw[Ă c]at n;have s:(ks++[y.1]).Nodup:=by
     rw[sL];refine⟨g,by simp,λa I b J e=>?_⟩;have:b=y.1:=by simpa using J
     subst this;exact c (e▸I)
    have em:ks.map (cB (aK d))++[.lst []]=(ks++[y.1]).map (cB (aK d)):=by
     rw[ke];congr 1
     show _=[cB (aK d) y.1]
     unfold cB;rw[hk y.1 c];rfl
    have v:=l (ks++[y.1]) s (by simp);rw[<-em]at v;refine⟨_,_,q,oR n (λ_=>E5 (k:=.any) (xs:=[]) (bJ ah trivial aE (i8 _)) rfl (aR rfl) c ⋯ v) λh=>(by cases h),by rw[<-m];simp,ks++[y.1],_,_,rfl,s,λw o=>?_,by simp;lia⟩;have x:w∉ks/\w≠y.1:=by simpa using o
    rw[je,ā (sx x.2)];exact hk w x.1) ps [] (S [] [] b6 b6) ⟨rfl,[],b6,b6,rfl,.nil,λ_ _=>rfl,hW _⟩
 subst e;rw[mn]at *;refine⟨ks,hk,?_⟩;have e:(ps.map stN).map (λu=>(kE .any,u))=ps.map λp=>(Kd.any,stN p):=by rw[i5];rfl
 exact bx rfl (.inl rfl) A (E4 (cV (rs:=[(.any,.lst (ps.map stN))]) (st1:=S [] [] b6 b6) (ae (aR rfl) ah) trivial rfl rfl (by rw[e];exact B) (bN (GN rfl) (gw rfl))))
def C8(Γ:Tab):Prop:=∀ps:List (Str×Nat),ps.length<=1000->∃ks:List Str,(∀w,w∉ks->aK ps w=[])/\Γ "gathered" [.lst (ps.map stN)]=a5 (.ok (.own,.HE ks (ks.map (cB (aK ps)))))
theorem tf(v:C8 Γ)(z:Once rows)(A:∀r∈rows,r.2.length<=8)(J:rows.length<=100):
  ∃ks:List Str,(∀w,w∉ks->Iu rows rows.length w=[])/\cR Γ bf [.tup (rows.map A')]=a5 (.ok (.own,.HE ks (ks.map (cB (Iu rows rows.length))))):=by
 have hsz:(2000:Nat)<=c6:=by decide
 have B:TM.start [.tup (rows.map A')] 4=[a5 (.loc,.tup (rows.map A')),b6,b6,b6]:=by simp[TM.start,H_,aO]
 let S:=λ(ps:List (Str×Nat)) (o2 f:Option (Kd×U))=>([a5 (.loc,.tup (rows.map A')),a5 (.own,.lst (ps.map stN)),o2,f]:aw)
 let body:List TM.S:=[.ext 1 (.comp 1 cL .seq [.idx (.var 3) (.cst (.int 1))] [] (.tup [.var 0,.var 3]))]
 obtain⟨st',C,h,ps,o2,f,e,j,m⟩:=cj (t:=cb) (is:=[2,3]) (body:=execs Γ body) (rs:=[(.loc,.tup (rows.map A'))]) (λp:Row×Nat=>(Kd.loc,U.tup [.int (p.2:Nat),A' p.1]))
  (λd r st=>d++r=rows.zipIdx/\∃(ps:List (Str×Nat)) (o2 f:Option (Kd×U)),st=S ps o2 f/\(∀w,aK ps w=Iu rows d.length w)/\ps.length<=8 * d.length) (λ_ _ _ _=>trivial) (λd y r st D=>by
   obtain⟨h,ps,o2,f,e,j,m⟩:=D;subst e;obtain⟨g,i⟩:=y;have n:(rows.zipIdx)[d.length]?=a5 (g,i):=by rw[<-h];simp
   rw[Ts,fS]at n;obtain⟨a,o,e⟩:=n;have G:a=g:=Ą Z_ e;have q:0+d.length=i:=Ą Prod.snd e;rw[Oj]at q;subst G q;have L:d.length<100:=by have:=Ą Kz h;simp at this;lia
   have N:=A a (lg o);let b:Option (Kd×U):=a5 (.loc,.int (d.length:Nat));let c:Option (Kd×U):=a5 (.loc,A' a);have s:=i_ (cond:=bb Γ []) (elt:=ev Γ (.tup [.var 0,.var 3])) (src:=[(.loc,.tup (a.2.map .str))]) (st:=S ps b c) trivial .loc (.inl rfl) U.str (λx=>stN (x,d.length)) .loc (λ_=>ix) a.2 [] (by simp;lia)
    (λy _=>⟨gs (ae (aa rfl) (ae (aa rfl) ah)) trivial (aA aH (aA aH aE)) (by show 2<=c6;lia),aH⟩)
   rw[mn]at s;have e:(a.2.map U.str).map (λu=>(kE .loc,u))=a.2.map λr=>(Kd.loc,U.str r):=by rw[i5];rfl
   have H:Run (ev Γ (.comp 1 cL .seq [.idx (.var 3) (.cst (.int 1))] [] (.tup [.var 0,.var 3]))) (S ps b c) (.own,.lst (a.2.map λx=>stN (x,d.length))) (S ps b c) :=
    dJ (rs:=[(.loc,.tup (a.2.map .str))]) (ae (aI (x:=(.loc,A' a)) (aa rfl) ai trivial rfl) ah) trivial (by show a5 _=_;rw[e]) s
   have em:ps.map stN++(a.2.map λx=>stN (x,d.length))=(ps++a.2.map λx=>(x,d.length)).map stN:=by simp
   refine⟨S ps b c,S (ps++a.2.map λx=>(x,d.length)) b c,jr (.inl rfl),?_,by rw[<-h];simp,_,_,_,rfl,λw=>?_,by simp;lia⟩
   ·show Run _ _ _ [a5 (.loc,.tup (rows.map A')),a5 (.own,.lst ((ps++a.2.map λx=>(x,d.length)).map stN)),b,c];rw[<-em];exact qD (k:=.own) (k':=.own) rfl H rfl rfl (oS (by rw[cc,cc];lia) rfl) ao
   ·rw[hY];exact wN z o j w) rows.zipIdx [] (S [] b6 b6) ⟨rfl,[],b6,b6,rfl,λw=>by simp[aK,Iu],by simp⟩
 subst e;rw[mn,List.length_zipIdx]at j m;have l:JV .Md [(.loc,.tup (rows.map A'))]=a5 (rows.zipIdx.map λp:Row×Nat=>(Kd.loc,U.tup [.int (p.2:Nat),A' p.1])):=by
  show a5 ((rows.map A').zipIdx.map λp=>(kE .loc,U.tup [.int p.2,p.1]))=_;rw[Z3,i5];rfl
 obtain⟨ks,k1,k2⟩:=v ps ⋯;have I:aK ps=Iu rows rows.length:=funext j;rw[I]at k1 k2;refine⟨ks,k1,?_⟩;exact bx rfl (.inl rfl) B (au (r:=(.own,.lst [])) (bJ ah trivial aE (i8 _)) aY (cV (rs:=[(.loc,.tup (rows.map A'))]) (st1:=S [] b6 b6) (ae (aa rfl) ah) trivial l rfl C
  (bN (bI (ae (av rfl) ah) ⟨⟨.own,rfl,rfl⟩,trivial⟩ k2) gv)))
theorem lW{names:List Str}(v:∀r∈rows,r.1∈names)(Q:names.length<64)(y:∀t∈R,t<rows.length):
  ∃st:List (Str×Nat),NS rows K0 R st/\cR Γ cQ [.tup (rows.map A'),.lst (R.map λt:Nat=>.int (t:Nat)),.HE K0 vs]=a5 (.ok (.own,.lst (st.map stN))):=by
 have hsz:(2000:Nat)<=c6:=by decide
 have z:TM.start [.tup (rows.map A'),.lst (R.map λt:Nat=>.int (t:Nat)),.HE K0 vs] 6=[a5 (.loc,.tup (rows.map A')),a5 (.any,.lst (R.map λt:Nat=>.int (t:Nat))),a5 (.any,.HE K0 vs),b6,b6,b6]:=by simp[TM.start,H_,aO]
 let S:=λ(ps:List (Str×Nat)) (o4 o5:Option (Kd×U))=>([a5 (.loc,.tup (rows.map A')),a5 (.any,.lst (R.map λt:Nat=>.int (t:Nat))),a5 (.any,.HE K0 vs),a5 (.own,.HE (ps.map (·.1)) (ps.map λp=>.int (p.2:Nat))),o4,o5]:aw)
 let body:List TM.S:=[.set 5 (.idx (.idx (.var 0) (.var 4)) (.cst (.int 0))),
   .ite (.and [.cmp .HV (.var 5) (.var 2),.cmp .HV (.var 5) (.var 3)])
    [.put 3 (.var 5) (.var 4)]
    []]
 have o:∀{d:List Nat} {ps:List (Str×Nat)},NS rows K0 d ps->ps.length<=names.length:=λ{d ps} x=>by
  have:=uV x.once (L:=names) λw A=>by
   obtain⟨s,hs,rfl⟩:=mh.mp A;obtain⟨_,_,r,b,c⟩:=x.ok s hs;rw[<-c];exact v r (lg b)
  simpa using this
 obtain⟨st',B,j,ps,o4,o5,e,x⟩:=cj (t:=cL) (is:=[4]) (body:=execs Γ body) (rs:=[(.any,.lst (R.map λt:Nat=>.int (t:Nat)))]) (λt:Nat=>(Kd.any,U.int (t:Nat)))
  (λd r st=>d++r=R/\∃(ps:List (Str×Nat)) (o4 o5:Option (Kd×U)),st=S ps o4 o5/\NS rows K0 d ps) (λ_ _ _ _=>trivial) (λd t r st C=>by
   obtain⟨j,ps,o4,o5,e,x⟩:=C;subst e;have D:t<rows.length:=y t (by rw[<-j];simp);have l:rows[t]?=a5 rows[t]:=by simp[D]
   generalize rows[t]=a at l;let f:Option (Kd×U):=a5 (.any,.int (t:Nat));let m:Option (Kd×U):=a5 (.loc,.str a.1);have G:=o x;have i:Run (HX Γ (.and [.cmp .HV (.var 5) (.var 2),.cmp .HV (.var 5) (.var 3)])) (S ps f m) (!df (a.1∈K0)&&!df (a.1∈ps.map (·.1))) (S ps f m) :=
    gu (lb (aM (aa rfl) (aR rfl) trivial fU) λ_=>dI (aM (aa rfl) (av rfl) ⟨⟨.own,rfl,rfl⟩,trivial⟩ fU))
   have g:∀{q:aw},Run (execs Γ [.ite (.and [.cmp .HV (.var 5) (.var 2),.cmp .HV (.var 5) (.var 3)])
    [.put 3 (.var 5) (.var 4)]
    []]) (S ps f m) .nx q->Run (execs Γ body) (S ps f o5) .nx q:=λh =>
    au (r:=(.loc,.str a.1)) (aI (x:=(.loc,A' a)) (aI (aa rfl) (aR rfl) trivial (gB (iE l))) ai trivial rfl) aF h
   have n:Run (dm cL [4] (.any,.int (t:Nat))) (S ps o4 o5) () (S ps f o5):=d8 iy;by_cases b:a.1∈K0
   ·rw[ă b]at i;exact⟨_,_,n,g (oR i (λh=>by cases h) λ_=>ao),by rw[<-j];simp,ps,_,_,rfl,x.skip l (.inl b)⟩
   ·by_cases c:a.1∈ps.map (·.1)
    ·rw[Ă b,ă c]at i;exact⟨_,_,n,g (oR i (λh=>by cases h) λ_=>ao),by rw[<-j];simp,ps,_,_,rfl,x.skip l (.inr c)⟩
    ·rw[Ă b,Ă c]at i;refine⟨_,S (ps++[(a.1,t)]) f m,n,g (oR i (λ_=>?_) λh=>by cases h),by rw[<-j];simp,_,_,_,rfl,x.take l b c⟩;have H:(ps++[(a.1,t)]).map (·.1)=ps.map (·.1)++[a.1]:=by simp
     have I:((ps++[(a.1,t)]).map λp=>U.int (p.2:Nat))=(ps.map λp=>U.int (p.2:Nat))++[.int (t:Nat)]:=by simp
     show Run _ _ _ [a5 (.loc,.tup (rows.map A')),a5 (.any,.lst (R.map λt:Nat=>.int (t:Nat))),a5 (.any,.HE K0 vs),a5 (.own,.HE ((ps++[(a.1,t)]).map (·.1)) ((ps++[(a.1,t)]).map λp=>.int (p.2:Nat))),f,m];rw[H,I];exact iB (k:=.own) (rv:=(.any,.int (t:Nat))) (rk:=(.loc,.str a.1)) (aR rfl) rfl (aa rfl) (aA (qx rfl) (aA aH aE)) rfl rfl (uX (by rw[cc];lia) c) ao) R [] (S [] b6 b6) ⟨rfl,[],b6,b6,rfl,NS.start K0⟩
 subst e;rw[mn]at x;have G:=o x;obtain⟨J,N,O⟩:=B9 (ps:=ps) ⋯ x.once;refine⟨J,x.perm N,?_⟩;have e:(R.map λt:Nat=>U.int (t:Nat)).map (λu=>(kE .any,u))=R.map λt=>(Kd.any,U.int (t:Nat)):=by rw[i5];rfl
 exact bx rfl (.inl rfl) z (au (r:=(.own,.HE [] [])) k7 aY (cV (rs:=[(.any,.lst (R.map λt:Nat=>.int (t:Nat)))]) (st1:=S [] b6 b6) (ae (aR rfl) ah) trivial rfl rfl (by rw[e];exact B) (bN (GP rfl O) gv)))
end
noncomputable def mi(rows:List Row)(K0:List Str)(d:List Nat)(p:Nat):Int:=(cnt rows K0 p:Int) - (if p∈d then 1 else 0)
noncomputable def bP(rows:List Row)(f:Nat->Int):List U:=(i1 rows.length).map λp=>U.int (f p)
noncomputable def fg(R:List Nat):List U:=R.map λt:Nat=>U.int (t:Nat)
theorem Cw(rows:List Row)(K0:List Str):bP rows (mi rows K0 [])=bP rows λp=>(cnt rows K0 p:Int):=by
 unfold bP mi;refine tj λp _=>?_;simp
theorem Cy(b:Once rows)(c:w∉K0):bP rows (mi rows K0 (Iu rows rows.length w))=bP rows λp=>(cnt rows (K0++[w]) p:Int):=by
 unfold bP mi;refine tj λp d=>?_;have e:=rr.mp d;have a:=oW b c p;by_cases h:w∈told rows p
 ·rw[ÿ (iD.mpr ⟨e,h⟩)];rw[ÿ h]at a;show U.int ((cnt rows K0 p:Int) - 1)=U.int (cnt rows (K0++[w]) p:Int);congr 1
  lia
 ·rw[ā λz=>h (iD.mp z).2];rw[ā h]at a;show U.int ((cnt rows K0 p:Int) - 0)=U.int (cnt rows (K0++[w]) p:Int);congr 1
  lia
theorem zP(a:t∉d):(bP rows (mi rows K0 d)).set t (.int (mi rows K0 d t - 1))=bP rows (mi rows K0 (d++[t])):=by
 unfold bP;rw[set_range];refine tj λp _=>?_;unfold mi;by_cases e:p=t
 ·subst e;rw[ÿ rfl,ā a,ÿ (by simp)];rw[show((cnt rows K0 p:Int) - 0 - 1)=(cnt rows K0 p:Int) - 1 by lia]
 ·rw[ā e];have:(p∈d++[t])↔p∈d:=by simp[e]
  simp only[this]
theorem zQ(h:t<rows.length):(bP rows f)[t]?=a5 (.int (f t)):=by simp[bP,h]
section
variable{Γ:Tab}{rows:List Row}
noncomputable def vt:List TM.S:=[.aug cb 2 (.var 9) (.cst (.int 1)),.ite (.cmp .eq (.idx (.var 2) (.var 9)) (.cst (.int 0))) [.app 5 (.var 9)] []]
theorem qX(u:Once rows)(J:rows.length<=100)(v:w∉K0)(L:R.length<=10000)(o9:Option (Kd×U))(y:∀st,bp src st):∃l:Option (Kd×U),
  Run (forM cL [9] (execs Γ vt) src ((Iu rows rows.length w).map λt:Nat=>(Kd.loc,U.int (t:Nat))))
   [b0,b1,a5 (.own,.lst (bP rows λp=>(cnt rows K0 p:Int))),b3,b4,a5 (.own,.lst (fg R)),o6,o7,o8,o9] .nx
   [b0,b1,a5 (.own,.lst (bP rows λp=>(cnt rows (K0++[w]) p:Int))),b3,b4,a5 (.own,.lst (fg (R++(Iu rows rows.length w).filter λt=>df (cnt rows K0 t=1)))),o6,o7,o8,l]:=by
 have hsz:(20000:Nat)<=c6:=by decide
 let S:=λ(ms:List U) (R:List Nat) (o9:Option (Kd×U))=>([b0,b1,a5 (.own,.lst ms),b3,b4,a5 (.own,.lst (fg R)),o6,o7,o8,o9]:aw)
 obtain⟨st',m,c,l,e⟩:=cj (t:=cL) (is:=[9]) (body:=execs Γ vt) (rs:=src) (λt:Nat=>(Kd.loc,U.int (t:Nat)))
  (λd r st=>d++r=Iu rows rows.length w/\∃o9:Option (Kd×U),st=S (bP rows (mi rows K0 d)) (R++d.filter λt=>df (cnt rows K0 t=1)) o9) (λ_ _ st _=>y st) (λd t r st A=>by
   obtain⟨c,o9,e⟩:=A;subst e;have B:t∈Iu rows rows.length w:=by rw[<-c];simp
   have n:t<rows.length:=(iD.mp B).1;have o:=wM (rows:=rows) rows.length w;have C:t∉d:=λz=>by
    rw[<-c,sL]at o;exact o.2.2 t z t (by simp) rfl
   have N:d.length<=100:=by
    have D:=Ą Kz c;have G:(Iu rows rows.length w).length<=(i1 rows.length).length:=td _ _;simp at D G;lia
   let b:Option (Kd×U):=a5 (.loc,.int (t:Nat));let a:=R++d.filter λt=>df (cnt rows K0 t=1);have O:a.length<=10100:=by
    have:(d.filter λt=>df (cnt rows K0 t=1)).length<=d.length:=td _ _;show(R++_).length<=_;rw[hY];lia
   have H:IU (bP rows (mi rows K0 (d++[t]))) (t:Int)=a5 (.int (mi rows K0 (d++[t]) t)):=gW (zQ n);have I:mi rows K0 (d++[t]) t=(cnt rows K0 t:Int) - 1:=by unfold mi;rw[ÿ (by simp)]
   have g:Run (HX Γ (.cmp .eq (.idx (.var 2) (.var 9)) (.cst (.int 0)))) (S (bP rows (mi rows K0 (d++[t]))) a b) (df (cnt rows K0 t=1)) (S (bP rows (mi rows K0 (d++[t]))) a b) :=
    aM (aI (x:=(.bor 2,.lst (bP rows (mi rows K0 (d++[t]))))) (av rfl) (aa rfl) ⟨⟨.own,rfl,rfl⟩,trivial⟩ (cz H)) ai trivial (b_ (by
     rw[I,Lh];simp;lia))
   have f:∀{q:aw},Run (execs Γ [.ite (.cmp .eq (.idx (.var 2) (.var 9)) (.cst (.int 0)))
      [.app 5 (.var 9)]
      []]) (S (bP rows (mi rows K0 (d++[t]))) a b) .nx q->Run (execs Γ vt) (S (bP rows (mi rows K0 d)) a b) .nx q:=λh=>by
    refine GO (us:=bP rows (mi rows K0 d)) (k1:=.loc) (k2:=.loc) (j:=t) (w:=1) rfl (aa rfl) (zQ n) ai ?_;rw[zP C];exact h
   have s:Run (dm cL [9] (.loc,.int (t:Nat))) (S (bP rows (mi rows K0 d)) a o9) () (S (bP rows (mi rows K0 d)) a b):=d8 aF;cases i:df (cnt rows K0 t=1) with
   |false =>
    rw[i]at g;refine⟨_,_,s,f (oR g (λh=>by cases h) λ_=>ao),by rw[<-c];simp,b,?_⟩;rw[OW,B',i];simp[S,a]
   |true =>
    rw[i]at g;refine⟨_,S (bP rows (mi rows K0 (d++[t]))) (a++[t]) b,s,f (oR g (λ_=>?_) λh=>by cases h),by rw[<-c];simp,b,?_⟩
    ·have em:fg (a++[t])=fg a++[.int (t:Nat)]:=by simp[fg]
     show Run _ _ _ [b0,b1,a5 (.own,.lst (bP rows (mi rows K0 (d++[t])))),b3,b4,a5 (.own,.lst (fg (a++[t]))),o6,o7,o8,b];rw[em];exact dX (k:=.own) (k':=.own) (r:=(.loc,.int (t:Nat))) rfl (aa rfl) aH rfl rfl (by unfold fg;rw[cc];lia) ao
    ·rw[OW,B',i];simp[S,a]) (Iu rows rows.length w) [] (S (bP rows (mi rows K0 [])) R o9) ⟨rfl,o9,by simp⟩
 subst e;rw[mn]at m;rw[Cw,Cy u v]at m;exact⟨l,m⟩
noncomputable def zR:List TM.S:=[.put 3 (.var 7) (.cst (.bl cb)),.Ia cL [9] .seq [.Ku 1 (.var 7) (.lst [])] vt]
theorem wV(n:Once rows)(y:rows.length<=100)(A:∀w,w∉ks->Iu rows rows.length w=[])(o:(K0++st.map (·.1)).Nodup)(hl:K0.length+st.length<=100)(vs:List U)(o7 o8 o9:Option (Kd×U)):∃(g:List U) (R:List Nat) (i j a:Option (Kd×U)),
  RI rows K0 (K0++st.map (·.1)) R/\(st=[]->R=[])/\Run (forM cb [7,8] (execs Γ zR) [(.bor 6,.lst (st.map stN))] (st.map λs=>(Kd.loc,stN s)))
   [b0,a5 (.own,.HE ks (ks.map (cB (Iu rows rows.length)))),a5 (.own,.lst (bP rows λp=>(cnt rows K0 p:Int))),a5 (.own,.HE K0 vs),b4,a5 (.own,.lst []),a5 (.own,.lst (st.map stN)),o7,o8,o9] .nx
   [b0,a5 (.own,.HE ks (ks.map (cB (Iu rows rows.length)))),a5 (.own,.lst (bP rows λp=>(cnt rows (K0++st.map (·.1)) p:Int))),a5 (.own,.HE (K0++st.map (·.1)) g),b4,a5 (.own,.lst (fg R)),a5 (.own,.lst (st.map stN)),i,j,a]:=by
 let S:=λ(K:List Str) (vs:List U) (R:List Nat) (o7 o8 o9:Option (Kd×U))=>([b0,a5 (.own,.HE ks (ks.map (cB (Iu rows rows.length)))),a5 (.own,.lst (bP rows λp=>(cnt rows K p:Int))),a5 (.own,.HE K vs),b4,a5 (.own,.lst (fg R)),a5 (.own,.lst (st.map stN)),o7,o8,o9]:aw)
 obtain⟨st',B,b,g,R,i,j,a,e,x,C,q⟩:=cj (t:=cb) (is:=[7,8]) (body:=execs Γ zR) (rs:=[(.bor 6,.lst (st.map stN))]) (λs:Str×Nat=>(Kd.loc,stN s))
  (λd r l=>d++r=st/\∃(vs:List U) (R:List Nat) (o7 o8 o9:Option (Kd×U)),l=S (K0++d.map (·.1)) vs R o7 o8 o9/\RI rows K0 (K0++d.map (·.1)) R/\R.length<=100 * d.length/\(d=[]->R=[])) (λ_ _ l ⟨_,vs,R,o7,o8,o9,e,_⟩=>by subst e;exact⟨⟨.own,rfl,rfl⟩,trivial⟩) (λd s r l D=>by
   obtain⟨b,vs,R,o7,o8,o9,e,x,C,q⟩:=D;subst e;obtain⟨w,p⟩:=s;have N:d.length<st.length:=by have:=Ą Kz b;simp at this;lia
   have m:w∉K0++d.map (·.1):=λz=>by
    rw[<-b,ke,<-ZC,sL]at o;exact o.2.2 w z w (by simp) rfl
   let c:Option (Kd×U):=a5 (.loc,.str w);let f:Option (Kd×U):=a5 (.loc,.int (p:Nat));obtain⟨a,G⟩:=qX (Γ:=Γ) n y m (R:=R) ⋯ (b0:=b0) (b1:=a5 (.own,.HE ks (ks.map (cB (Iu rows rows.length))))) (b3:=a5 (.own,.HE (K0++d.map (·.1)++[w]) (vs++[.bl cb]))) (b4:=b4) (o6:=a5 (.own,.lst (st.map stN))) (o7:=c) (o8:=f) o9 (src:=[(.loc,cB (Iu rows rows.length) w)]) (λ_=>trivial);have em:K0++(d++[(w,p)]).map (·.1)=K0++d.map (·.1)++[w]:=by simp
   have H:(K0++d.map (·.1)).length<1000:=by rw[hY,cc];lia
   have I:(match cE ks (ks.map (cB (Iu rows rows.length))) w with|some v=>(Kd.loc,v)|none=>(.loc,U.lst []))=(.loc,cB (Iu rows rows.length) w):=by
    rw[lp];by_cases h:w∈ks
    ·rw[ÿ h]
    ·rw[ā h];unfold cB;rw[A w h];rfl
   have J:((Iu rows rows.length w).map λt:Nat=>U.int (t:Nat)).map (λu=>(kE .loc,u))=(Iu rows rows.length w).map λt=>(Kd.loc,U.int (t:Nat)):=by rw[i5];rfl
   refine⟨S (K0++d.map (·.1)) vs R c f o9,S (K0++d.map (·.1)++[w]) (vs++[.bl cb]) (R++(Iu rows rows.length w).filter λt=>df (cnt rows (K0++d.map (·.1)) t=1)) c f a,jr (.inl rfl),?_,by rw[<-b];simp,vs++[.bl cb],_,c,f,a,by rw[em],?_,?_,λz=>by simp at z⟩
   ·refine iB (k:=.own) (rv:=(.loc,.bl cb)) (rk:=(.loc,.str w)) ai rfl (aa rfl) (aA aH (aA aH aE)) rfl rfl (uX H m) ?_;exact cV (rs:=[(.loc,cB (Iu rows rows.length) w)]) (ae (E7 (k:=.loc) (z:=(.own,.lst [])) (u:=.lst []) rfl (aa rfl) (bJ ah trivial aE (i8 _)) yV I) ah) trivial (by show a5 (Xr (λu=>(kE .loc,u)) _)=_;rw[J]) rfl G ao
   ·rw[em];exact x.step n m
   ·have:((Iu rows rows.length w).filter λt=>df (cnt rows (K0++d.map (·.1)) t=1)).length<=100:=by
     refine Jj (td _ _) ?_;have L:(Iu rows rows.length w).length<=(i1 rows.length).length:=td _ _;simp at L;lia
    rw[hY,hY,nH];lia) st [] (S K0 vs [] o7 o8 o9) ⟨rfl,vs,[],o7,o8,o9,by simp[S],by simpa using RI.start K0,by simp,λ_=>rfl⟩
 subst e;exact⟨g,R,i,j,a,by simpa using x,λz=>q (by simpa using z),by simpa[S,fg] using B⟩
noncomputable def fY(a:List (List (Str×Nat))):List U:=a.map λl=>U.lst (l.map stN)
noncomputable def zS:List TM.S:=[.set 6 (.call "new_steps" [.var 0,.var 5,.var 3]),.set 5 (.lst []),.Ia cb [7,8] .seq [.var 6] zR,.ite (.cmp .ne (.var 6) (.lst [])) [.app 4 (.var 6)] []]
def zT(Γ:Tab)(rows:List Row):Prop:=∀(R:List Nat) (K0:List Str) (vs:List U),(∀t∈R,t<rows.length)->∃st:List (Str×Nat),NS rows K0 R st/\Γ "new_steps" [.tup (rows.map A'),.lst (fg R),.HE K0 vs]=a5 (.ok (.own,.lst (st.map stN)))
theorem jf(G:Once rows)(H:rows.length<=100)(I:zT Γ rows)(J:∀w,w∉ks->Iu rows rows.length w=[]):∀(f:Nat) (c:List (Str×Nat)) (d:List (List (Str×Nat))) (R:List Nat) (vs:List U) (o6 o7 o8 o9:Option (Kd×U)),
  LI rows c R->d.flatten=c->d.length<=c.length->(rows.length - c.length)+(if R=[] then 1 else 2)<=f ->
  ∃(PB:List (Str×Nat)) (N:List (List (Str×Nat))) (st':aw),LI rows PB []/\N.flatten=PB/\N.length<=100/\st'[4]?=a5 (a5 (.own,.lst (fY N))) /\
   Run (eW (HX Γ (.cmp .ne (.var 5) (.lst []))) (execs Γ zS) f) [a5 (.loc,.tup (rows.map A')),a5 (.own,.HE ks (ks.map (cB (Iu rows rows.length)))),a5 (.own,.lst (bP rows λp=>(cnt rows (c.map (·.1)) p:Int))),a5 (.own,.HE (c.map (·.1)) vs),a5 (.own,.lst (fY d)),a5 (.own,.lst (fg R)),o6,o7,o8,o9] .nx st'
 |0,c,d,R,vs,o6,o7,o8,o9,_,_,_,h=>by split at h<;>lia
 |f+1,c,d,R,vs,o6,o7,o8,o9,x,O,OX,h=>by
  have hsz:(20000:Nat)<=c6:=by decide
  have LY:∀{s:List (Str×Nat)} {g:List Nat},LI rows s g->s.length<=rows.length:=λ{s g} x=>by
   have:=uV x.nd x.wd;simpa using this
  have I_:=LY x;let S:=λ(K:List Str) (vs:List U) (d:List (List (Str×Nat))) (R:List Nat) (o6 o7 o8 o9:Option (Kd×U))=>([a5 (.loc,.tup (rows.map A')),a5 (.own,.HE ks (ks.map (cB (Iu rows rows.length)))),a5 (.own,.lst (bP rows λp=>(cnt rows K p:Int))),a5 (.own,.HE K vs),a5 (.own,.lst (fY d)),a5 (.own,.lst (fg R)),o6,o7,o8,o9]:aw)
  have XR:∀R:List Nat,IM 50 (.lst (fg R))=cb:=λR=>by show cX 49 _=cb;exact nj (λt:Nat=>((t:Nat):Int)) R 49
  have A:Run (HX Γ (.cmp .ne (.var 5) (.lst []))) (S (c.map (·.1)) vs d R o6 o7 o8 o9) (!(fg R).isEmpty) (S (c.map (·.1)) vs d R o6 o7 o8 o9) :=
   aM (av rfl) (bJ ah trivial aE (i8 _)) ⟨⟨.own,rfl,rfl⟩,trivial⟩ (lq (XR R))
  by_cases Q:R=[]
  ·subst Q;exact⟨c,d,_,x,O,⋯,rfl,ll A⟩
  ·rw[ā Q]at h;have XS:(!(fg R).isEmpty)=cb:=by
    cases R with
    |nil=>exact absurd rfl Q
    |cons a l=>rfl
   rw[XS]at A;obtain⟨st,n,HL⟩:=I R (c.map (·.1)) vs λt ht=>(x.Pn t ht).1;have HR:(c.map (·.1)++st.map (·.1)).Nodup:=by
    rw[sL];refine⟨x.nd,n.once,λa ha b q e=>?_⟩;obtain⟨s,hs,rfl⟩:=mh.mp q;exact(n.ok s hs).2.1 (e▸ha)
   have ac:c.length+st.length<=rows.length:=by
    have:=uV HR (L:=rows.map (·.1)) λy hy=>by
     rcases lk.mp hy with hy|hy
     ·exact x.wd y hy
     ·obtain⟨s,hs,rfl⟩:=mh.mp hy;obtain⟨_,_,r,q1,q2⟩:=n.ok s hs;exact mh.mpr ⟨r,lg q1,q2⟩
    simpa using this
   let v:Option (Kd×U):=a5 (.own,.lst (st.map stN));obtain⟨i,g,j,m,o,y,XT,Tn⟩:=wV (Γ:=Γ) G H J HR (by rw[cc];lia) (b0:=a5 (.loc,.tup (rows.map A'))) (b4:=a5 (.own,.lst (fY d))) vs o7 o8 o9;have T:=x.step n y;have em:(c++st).map (·.1)=c.map (·.1)++st.map (·.1):=ke;have XU:IM 50 (.lst (st.map stN))=cb:=by show cX 49 _=cb;exact qM st 48
   have B:Run (HX Γ (.cmp .ne (.var 6) (.lst []))) (S (c.map (·.1)++st.map (·.1)) i d g v j m o) (!(st.map stN).isEmpty) (S (c.map (·.1)++st.map (·.1)) i d g v j m o) :=
    aM (av rfl) (bJ ah trivial aE (i8 _)) ⟨⟨.own,rfl,rfl⟩,trivial⟩ (lq XU)
   have e1:(st.map stN).map (λu=>(kE (.bor 6),u))=st.map λs=>(Kd.loc,stN s):=by rw[i5];rfl
   have z:∀{Ka:aw},Run (execs Γ [.ite (.cmp .ne (.var 6) (.lst []))
    [.app 4 (.var 6)]
    []]) (S (c.map (·.1)++st.map (·.1)) i d g v j m o) .nx Ka->Run (execs Γ zS) (S (c.map (·.1)) vs d R o6 o7 o8 o9) .nx Ka:=λh=>by
    refine au (r:=(.own,.lst (st.map stN))) (bI (ae (aa rfl) (ae (av rfl) (ae (av rfl) ah))) ⟨⟨.own,rfl,rfl⟩,⟨.own,rfl,rfl⟩,trivial⟩ HL) aY ?_;refine au (r:=(.own,.lst [])) (bJ ah trivial aE (i8 _)) aY ?_;exact cV (rs:=[(.bor 6,.lst (st.map stN))]) (ae (av rfl) ah) ⟨⟨.own,rfl,rfl⟩,trivial⟩ (by show a5 (Xr (λu=>(kE (.bor 6),u)) _)=_;rw[e1]) rfl Tn h
   by_cases C:st=[]
   ·have XW:=XT C;subst C;rw[show(!(([]:List (Str×Nat)).map stN).isEmpty)=cL from rfl]at B;have ee:c++[]=c:=uk _;rw[ee]at T;have q:=z (oR B (λh=>by cases h) λ_=>ao);obtain⟨Y,ND,st2,z1,z2,z3,z4,D⟩:=jf G H I J f c d g i v j m o T O OX (by rw[ÿ XW];lia);refine⟨Y,ND,st2,z1,z2,z3,z4,lV A q ?_⟩;have e3:c.map (·.1)++([]:List (Str×Nat)).map (·.1)=c.map (·.1):=by simp
    show Run _ (S (c.map (·.1)++([]:List (Str×Nat)).map (·.1)) i d g v j m o) _ _;rw[e3];exact D
   ·have To:(!(st.map stN).isEmpty)=cb:=by
     cases st with
     |nil=>exact absurd rfl C
     |cons a l=>rfl
    rw[To]at B;have XX:0<st.length:=List.length_pos_iff.mpr C;have ef:fY (d++[st])=fY d++[.lst (st.map stN)]:=by simp[fY]
    have q:Run (execs Γ zS) (S (c.map (·.1)) vs d R o6 o7 o8 o9) .nx (S (c.map (·.1)++st.map (·.1)) i (d++[st]) g (a5 (.loc,.lst (st.map stN))) j m o):=by
     refine z (oR B (λ_=>?_) λh=>by cases h);show Run _ _ _ [a5 (.loc,.tup (rows.map A')),a5 (.own,.HE ks (ks.map (cB (Iu rows rows.length)))),a5 (.own,.lst (bP rows λp=>(cnt rows (c.map (·.1)++st.map (·.1)) p:Int))),a5 (.own,.HE (c.map (·.1)++st.map (·.1)) i),a5 (.own,.lst (fY (d++[st]))),a5 (.own,.lst (fg g)),a5 (.loc,.lst (st.map stN)),j,m,o];rw[ef];exact dX (k:=.own) (k':=.own) (r:=(.bor 6,.lst (st.map stN))) (u:=.lst (st.map stN)) rfl (av rfl) (GK rfl) rfl rfl (by unfold fY;rw[cc];lia) ao
    obtain⟨Y,ND,st2,z1,z2,z3,z4,D⟩:=jf G H I J f (c++st) (d++[st]) g i (a5 (.loc,.lst (st.map stN))) j m o T (by rw[Y8,O];simp) (by rw[hY,hY,nH];lia) (by rw[hY];split<;>lia);refine⟨Y,ND,st2,z1,z2,z3,z4,lV A q ?_⟩;rw[em]at D;exact D
def C9(Γ:Tab)(rows:List Row):Prop:=∃ks:List Str,(∀w,w∉ks->Iu rows rows.length w=[])/\Γ "places_that_tell" [.tup (rows.map A')]=a5 (.ok (.own,.HE ks (ks.map (cB (Iu rows rows.length)))))
theorem fZ(s:Once rows)(v:rows.length<=100)(w:C9 Γ rows)(z:zT Γ rows):∃(f:List (Str×Nat)) (d:List (List (Str×Nat))),LI rows f []/\d.flatten=f/\d.length<=100/\cR Γ bh [.tup (rows.map A')]=a5 (.ok (.own,.lst (fY d))):=by
 have hsz:(20000:Nat)<=c6:=by decide
 obtain⟨ks,A,B⟩:=w;have C:TM.start [.tup (rows.map A')] 10=[a5 (.loc,.tup (rows.map A')),b6,b6,b6,b6,b6,b6,b6,b6,b6]:=by simp[TM.start,H_,aO]
 let g:Option (Kd×U):=a5 (.loc,.tup (rows.map A'));let j:Option (Kd×U):=a5 (.own,.HE ks (ks.map (cB (Iu rows rows.length))));let D:Option (Kd×U):=a5 (.own,.lst (bP rows λp=>(cnt rows [] p:Int)));have G:Run (ev Γ (.comp 1 cL .seq [.var 0] [] (.bi .len [.idx (.var 0) (.cst (.int 1))]))) [g,j,b6,b6,b6,b6,b6,b6,b6,b6] (.own,.lst (bP rows λp=>(cnt rows [] p:Int))) [g,j,b6,b6,b6,b6,b6,b6,b6,b6]:=by
  have c:=i_ (cond:=bb Γ []) (elt:=ev Γ (.bi .len [.idx (.var 0) (.cst (.int 1))])) (src:=[(.loc,.tup (rows.map A'))]) (st:=[g,j,b6,b6,b6,b6,b6,b6,b6,b6]) trivial .loc (.inl rfl) A' (λr=>.int (r.2.length:Nat)) .loc (λ_=>ix) rows [] (by simp;lia)
   (λy _=>⟨bC (ae (aI (x:=(.loc,A' y)) (aa rfl) ai trivial rfl) ah) trivial (by rw[jN,cc]),aH⟩)
  rw[mn]at c;have e:(rows.map A').map (λu=>(kE .loc,u))=rows.map λr=>(Kd.loc,A' r):=by rw[i5];rfl
  have H:(rows.map λr=>U.int (r.2.length:Nat))=bP rows λp=>(cnt rows [] p:Int):=by
   unfold bP;apply LU
   ·simp
   ·intro i k l;have hi:i<rows.length:=by simpa using k
    have m:told rows i=rows[i].2:=jO (by simp[hi]);have I:cnt rows [] i=rows[i].2.length:=by unfold cnt sJ;rw[m];simp
    simp[I]
  rw[H]at c;exact dJ (rs:=[(.loc,.tup (rows.map A'))]) (ae (aa rfl) ah) trivial (by show a5 _=_;rw[e]) c
 let n:=(i1 rows.length).filter λp=>df (cnt rows [] p=0);let o:aw:=[g,j,D,a5 (.own,.HE [] []),a5 (.own,.lst []),b6,b6,b6,b6,b6]
 have J:Run (ev Γ (.comp 2 cb .Md [.var 2] [.cmp .eq (.var 1) (.cst (.int 0))] (.var 0))) o (.own,.lst (fg n)) o:=by
  have c:=ja (st:=o) (cond:=bb Γ [.cmp .eq (.var 1) (.cst (.int 0))]) (elt:=ev Γ (.var 0)) (src:=[(.bor 2,.lst (bP rows λp=>(cnt rows [] p:Int)))]) ⟨⟨.own,rfl,rfl⟩,trivial⟩ (λp:Nat=>U.int (p:Nat)) (λp:Nat=>U.int (cnt rows [] p:Int)) (λp:Nat=>U.int (p:Nat)) (λp=>df (cnt rows [] p=0)) (i1 rows.length) [] (by simp;lia)
   (λy _=>⟨dI (aM (aa rfl) ai trivial (b_ (by rw[Lh];simp))),aa rfl⟩)
  rw[mn]at c;have e:((bP rows λp=>(cnt rows [] p:Int)).zipIdx.map λp=>(kE (.bor 2),U.tup [.int p.2,p.1]))=(i1 rows.length).map λp:Nat=>(Kd.loc,U.tup [.int (p:Nat),.int (cnt rows [] p:Int)]):=by
   unfold bP;apply LU
   ·simp
   ·intro i k l;simp[kE]
  exact dJ (rs:=[(.bor 2,.lst (bP rows λp=>(cnt rows [] p:Int)))]) (ae (av rfl) ah) ⟨⟨.own,rfl,rfl⟩,trivial⟩ (by show a5 _=_;rw[e]) c
 have L:LI rows [] n:=⟨.nil,λ_ _ _ h=>(nomatch h),λ_ h=>(nomatch h),λt m=>by
  obtain⟨a,b⟩:=Lc.mp m;exact⟨rr.mp a,by simpa using b⟩,λt r k l=>.inl (Lc.mpr ⟨rr.mpr (dV.mp k).1,by simpa using l⟩)⟩
 obtain⟨f,d,st',N,O,Q,q,T⟩:=jf s v z A fuel [] [] n [] b6 b6 b6 b6 L rfl (hW _) (by unfold fuel;split<;>simp<;>lia);refine⟨f,d,N,O,Q,?_⟩;exact bx rfl (.inl rfl) C (au (r:=(.own,.HE ks (ks.map (cB (Iu rows rows.length))))) (bI (ae (aa rfl) ah) trivial B) aY (au G aY (au (r:=(.own,.HE [] [])) k7 aY (au (r:=(.own,.lst [])) (bJ ah trivial aE (i8 _)) aY (au J aY (m9 T (bN (av q) (gw q))))))))
theorem wW(hs:Γ "steps_in_rounds" [.tup (rows.map A')]=a5 (.ok (.own,.lst (fY a))))(c:a.flatten=f)(hl:f.length<=100):cR Γ ff [.tup (rows.map A')]=a5 (.ok (.own,.lst (f.map stN))):=by
 have hsz:(20000:Nat)<=c6:=by decide
 have h:TM.start [.tup (rows.map A')] 3=[a5 (.loc,.tup (rows.map A')),b6,b6]:=by simp[TM.start,H_,aO]
 let S:=λ(l:List (Str×Nat)) (o2:Option (Kd×U))=>([a5 (.loc,.tup (rows.map A')),a5 (.own,.lst (l.map stN)),o2]:aw)
 obtain⟨st',i,b,o2,e⟩:=cj (t:=cL) (is:=[2]) (body:=execs Γ [.ext 1 (.var 2)]) (rs:=[(.own,.lst (fY a))]) (λl:List (Str×Nat)=>(Kd.loc,U.lst (l.map stN)))
  (λd r st=>d++r=a/\∃o2:Option (Kd×U),st=S d.flatten o2) (λ_ _ _ _=>trivial) (λd y r st j=>by
   obtain⟨b,o2,e⟩:=j;subst e;have m:d.flatten.length+y.length<=100:=by
    have:=Ą (λl:List (List (Str×Nat))=>l.flatten.length) b;simp only[Y8,U8,hY,c]at this;lia
   refine⟨S d.flatten (a5 (.loc,.lst (y.map stN))),S (d++[y]).flatten (a5 (.loc,.lst (y.map stN))),d8 aF,?_,by rw[<-b];simp,_,rfl⟩;have em:(d++[y]).flatten.map stN=d.flatten.map stN++y.map stN:=by simp
   show Run _ _ _ [a5 (.loc,.tup (rows.map A')),a5 (.own,.lst ((d++[y]).flatten.map stN)),a5 (.loc,.lst (y.map stN))];rw[em];exact qD (k:=.own) (k':=.own) rfl (aa rfl) rfl rfl (oS (by rw[cc,cc];lia) rfl) ao) a [] (S [] b6) ⟨rfl,b6,rfl⟩
 subst e;have e:(fY a).map (λu=>(kE .own,u))=a.map λl=>(Kd.loc,U.lst (l.map stN)):=by unfold fY;rw[i5];rfl
 have g:=bx (Γ:=Γ) (fn:=ff) rfl (.inl rfl) h (au (r:=(.own,.lst [])) (bJ ah trivial aE (i8 _)) aY (cV (rs:=[(.own,.lst (fY a))]) (st1:=S [] b6) (ae (bI (ae (aa rfl) ah) trivial hs) ah) trivial rfl rfl (by rw[e];exact i) (bN (av rfl) (gw rfl))));rw[mn,c]at g;exact g
end
section
variable{Γ:Tab}{rows:List Row}{names:List Str}
theorem tm(h:ss.length<64):JJ .sorted [(k,.lst (ss.map .str))]=a5 (.own,.lst ((aJ ss).map .str)):=by
 show wc k (ss.map .str)=_;unfold wc;rw[dB];show(if ss.length<64 then _ else _)=_;rw[ÿ h]
theorem tq{a:List (Str×Nat)}(hl:a.length<64)(ho:Γ "order" [.tup (rows.map A')]=a5 (.ok (.own,.lst (a.map stN)))):cR Γ eM [.tup (rows.map A')]=a5 (.ok (.own,.lst ((aJ (a.map (·.1))).map .str))):=by
 have hsz:(20000:Nat)<=c6:=by decide
 have c:TM.start [.tup (rows.map A')] 1=[a5 (.loc,.tup (rows.map A'))]:=by simp[TM.start,H_,aO]
 have b:=ja (st:=[a5 (.loc,.tup (rows.map A'))]) (cond:=bb Γ []) (elt:=ev Γ (.var 0)) (src:=[(.own,.lst (a.map stN))]) trivial (λs:Str×Nat=>U.str s.1) (λs=>U.int (s.2:Nat)) (λs=>U.str s.1) (λ_=>cb) a [] (by simp;lia) (λy _=>⟨ix,aa rfl⟩);rw[mn,MV.mpr (λ_ _=>rfl)]at b;have e:(a.map stN).map (λu=>(kE .own,u))=a.map λs=>(Kd.loc,U.tup [.str s.1,.int (s.2:Nat)]):=by rw[i5];rfl
 have d:(a.map λs=>U.str s.1)=(a.map (·.1)).map U.str:=by rw[i5];rfl
 rw[d]at b;exact bx rfl (.inl rfl) c (bN (bC (ae (dJ (rs:=[(.own,.lst (a.map stN))]) (ae (bI (ae (aa rfl) ah) trivial ho) ah) trivial (by show a5 (Xr (λu=>(kE .own,u)) _)=_;rw[e]) b) ah) trivial (tm (by rw[cc];exact hl))) gv)
structure Tq(prog:List Fn):Prop where
 g:IH prog "gathered" dc
 p:IH prog "places_that_tell" bf
 n:IH prog "new_steps" cQ
 s:IH prog "steps_in_rounds" bh
 o:IH prog "order" ff
 l:IH prog "learnt" eM
structure Kn(rows:List Row)(K:List Str):Prop where
 nd:K.Nodup
 sn:Le rows K
 cl:gR rows (·∈K)
theorem Kn.perm(a:Kn rows K)(b:Kn rows L):K.Perm L:=same a.nd b.nd a.sn b.sn a.cl b.cl
theorem Kn.of(s:LI rows a []):Kn rows (a.map (·.1)):=⟨s.nd,s.sn,s.closed⟩
theorem Cz(L:Tq prog)(n:Nat)(d:∀r∈rows,m6 names r)(y:names.length<=24)(e:rows.length<=100):∃c:List (Str×Nat),LI rows c []/\c.length<=24/\HW prog (n+4) "order" [.tup (rows.map A')]=a5 (.ok (.own,.lst (c.map stN))):=by
 have j:∀r∈rows,r.2.length<=8:=λr h=>(d r h).LY;have f:Once rows:=λr h=>(d r h).once;have i:∀r∈rows,r.1∈names:=λr h=>(d r h).word;have k:C8 (HW prog (n+1)):=λps hl=>by
  obtain⟨ks,a,b⟩:=pj (Γ:=HW prog n) hl;exact⟨ks,a,(aX L.g _).trans b⟩
 have l:C9 (HW prog (n+2)) rows:=by
  obtain⟨ks,a,b⟩:=tf k f j e;exact⟨ks,a,(aX L.p _).trans b⟩
 have m:zT (HW prog (n+2)) rows:=λR K0 vs q=>by
  obtain⟨st,a,b⟩:=lW (Γ:=HW prog (n+1)) i ⋯ q (K0:=K0) (vs:=vs);exact⟨st,a,(aX L.n _).trans b⟩
 obtain⟨c,t,s1,s2,s3,s4⟩:=fZ f e l m;have u:HW prog (n+3) "steps_in_rounds" [.tup (rows.map A')]=a5 (.ok (.own,.lst (fY t))):=(aX L.s _).trans s4;have v:c.length<=24:=by
  have:=uV (Kn.of s1).nd (L:=names) λx w=>by
   obtain⟨r,a,b⟩:=mh.mp (s1.wd x w);exact b▸i r a
  rw[cc]at this;lia
 exact⟨c,s1,v,(aX L.o _).trans (wW u s2 ⋯)⟩
theorem CA(L:Tq prog)(n:Nat)(a:∀r∈rows,m6 names r)(b:names.length<=24)(c:rows.length<=100)(d:Kn rows K):HW prog (n+5) "learnt" [.tup (rows.map A')]=a5 (.ok (.own,.lst ((aJ K).map .str))):=by
 obtain⟨f,s1,s2,s3⟩:=Cz L n a b c;have e:aJ (f.map (·.1))=aJ K:=dR ((Kn.of s1).perm d);rw[<-e];exact(aX L.l _).trans (tq ⋯ s3)
end
end KL
namespace TM
open PySem L2 Ih Od
theorem CB(c:r∈rs)(h:Le rs s.1):Le rs (J9 s r).1:=by
 unfold J9;split
 ·rename_i d;have e:may s r=cb:=(u5.mp d).1;intro C a x b;rcases cm.mp b with b|rfl
  ·exact h C a x b
  ·exact a r c λy f=>h C a y (by have:=i7.mp e y f;simpa using this)
 ·exact h
theorem vv:∀(a:List Row) (s:IB) (b:Bool),(∀r∈a,r∈rs)->Le rs s.1->Le rs (JM a (s,b)).1.1
 |[],s,b,_,h=>h
 |r::a,s,b,c,h=>vv a (J9 s r) _ (λy hz=>c y (by simp[hz])) (CB (c r (by simp)) h)
theorem vA:∀(n:Nat) (s:IB),Le rs s.1->Le rs (lim rs n s).1
 |0,s,h=>h
 |n+1,s,h=>by
  unfold lim;have:=vv rs s cL (λ_ z=>z) h;split
  ·exact vA n _ this
  ·exact this
theorem Mm.closed(h:Mm rs s):gR rs (·∈s.1):=λr b c=>by
 have a:=h r b;have d:may s r=cb:=i7.mpr λx e=>by simpa using c x e
 rw[d,X4]at a;unfold J8 at a;have:=(Tt.mp a).1;simpa using this
theorem Mm.le(h:Mm rs s)(b:r∈rs)(c:∀x∈r.2,x∈s.1):s.2 r.1<=IC s r:=by
 have a:=h r b;have d:may s r=cb:=i7.mpr λx e=>by simpa using c x e
 rw[d,X4]at a;unfold J8 at a;have:=(Tt.mp a).2;simpa using this
inductive Wk(rs:List Row):List Str->List Nat->List Str->Prop where
 |nil {P:List Str}:Wk rs P [] P
 |cons {P Q:List Str} {p:Nat} {ps:List Nat} {r:Row} (h:rs[p]?=a5 r) (t:Wk rs (P++[r.1]) ps Q):Wk rs (P++r.2) (p::ps) Q
theorem Wk.least(hs:Mm rs s)(w:Wk rs P ps Q):(∀x∈P,x∈s.1)->(Q.map s.2).sum<=(P.map s.2).sum+(ps.length:Nat):=by
 induction w with
 |nil=>intro _;simp
 |cons h t e =>
  rename_i P Q p ps r;intro b;have c:=lg h;have d:∀x∈r.2,x∈s.1:=λx hx=>b x (by simp[hx]);have f:=hs.closed r c d;have a:=hs.le c d;have:=e λx hx=>by
   rcases lk.mp hx with hx|hx
   ·exact b x (by simp[hx])
   ·rw[i3]at hx;subst hx;exact f
  rw[ke,QJ,M1,Rk]at this;rw[ke,QJ,ko];unfold IC at a;lia
noncomputable def tu:List S :=
   [.ite (.or [.not (.call "_law_whole" [.var 4]),.not (.Kt .le .lt (.cst (.int 0)) (.var 4) (.bi .len [.var 0]))])
    [.ret (.cst (.bl cL))]
    [],
   .K1 [5,6] (.idx (.var 0) (.var 4)),
   .set 7 (.bin .sub (.bi .len [.var 3]) (.bi .len [.var 6])),
   .ite (.or [.cmp .lt (.var 7) (.cst (.int 0)),.cmp .ne (.bi .tuple [.KZ (.var 3) [.var 7] []]) (.bi .tuple [.var 6])])
    [.ret (.cst (.bl cL))]
    [],
   .set 3 (.bin .add (.KZ (.var 3) [] [(.var 7)]) (.lst [(.var 5)]))]
noncomputable def zU:Fn:=⟨"_law_walked",3,8,[.set 3 (.lst []),.Ia cL [4] .seq [.var 1] tu,.ret (.cmp .eq (.var 3) (.lst [.var 2]))]⟩
theorem zV(a b:List α):cut (a++b) (a5 (a.length:Nat)) b6=b:=by
 have c:HT.Jx (a++b).length 0 (a5 ((a.length:Nat):Int))=a.length:=by rw[HT.tK];simp
 have d:HT.Jx (a++b).length (a++b).length b6=(a++b).length:=rfl;unfold cut;rw[c,d,List.drop_left,I0 (by simp)]
theorem zW(a b:List α):cut (a++b) b6 (a5 (a.length:Nat))=a:=by
 have c:HT.Jx (a++b).length (a++b).length (a5 ((a.length:Nat):Int))=a.length:=by rw[HT.tK];simp
 have d:HT.Jx (a++b).length 0 b6=0:=rfl;unfold cut;rw[c,d,Xy,ç,List.take_left]
theorem CC{a b:List Str}(h:a.length+b.length<=200000):KO .add (.own,.lst (a.map .str)) (.own,.lst (b.map .str))=a5 (.own,.lst ((a++b).map .str)):=by
 have hsz:(200000:Nat)<=c6:=by decide
 simp only[KO,ye];rw[ÿ ⟨by simp;lia,rfl,rfl⟩,ke]
noncomputable def qY(rs:List Row)(pl:List U)(w:Str)(P:List Str)(o4 o5 o6 o7:Option (Kd×U)):aw:=[a5 (.loc,.tup (rs.map A')),a5 (.any,.lst pl),a5 (.loc,.str w),a5 (.own,.lst (P.map .str)),o4,o5,o6,o7]
theorem zX(d:iI Γ){p:Nat}(h:rs[p]?=a5 r)(hl:P.length+r.2.length<100000):
  ∃e f g,Run (execs Γ tu) (qY rs pl w (P++r.2) (a5 (.any,.int (p:Int))) o5 o6 o7) .nx (qY rs pl w (P++[r.1]) (a5 (.any,.int (p:Int))) e f g):=by
 have i:(200000:Nat)<=c6:=by decide
 have o:p<rs.length:=(dV.mp h).1;let S:Option (Kd×U)->aw:=λo7=>qY rs pl w (P++r.2) (a5 (.any,.int (p:Int))) (a5 (.loc,.str r.1)) (a5 (.loc,.tup (r.2.map .str))) o7;have j:Run (ev Γ (.idx (.var 0) (.var 4))) (qY rs pl w (P++r.2) (a5 (.any,.int (p:Int))) o5 o6 o7) (.loc,A' r) (qY rs pl w (P++r.2) (a5 (.any,.int (p:Int))) o5 o6 o7):=aI (aa rfl) (aR rfl) trivial (gB (k:=.loc) (iE h));have l:Run (ev Γ (.bin .sub (.bi .len [.var 3]) (.bi .len [.var 6]))) (S o7) (.loc,.int (P.length:Nat)) (S o7):=bw (bC (ae (av rfl) ah) ∅ bt) (bC (ae (aa rfl) ah) trivial jN) trivial (by rw[jZ];simp);have m:Run (ev Γ (.bi .tuple [.KZ (.var 3) [.var 7] []])) (S (a5 (.loc,.int (P.length:Nat)))) (.loc,.tup (r.2.map .str)) (S (a5 (.loc,.int (P.length:Nat)))):=by
  have:=uT (k:=.bor 3) (ss:=P++r.2) (lo:=a5 (P.length:Nat)) (hi:=b6) rfl;rw[zV]at this;exact bC (ae (kZ (av rfl) (jq (aa rfl)) mZ ∅ this) ah) trivial rfl
 have n:Run (ev Γ (.bin .add (.KZ (.var 3) [] [.var 7]) (.lst [.var 5]))) (S (a5 (.loc,.int (P.length:Nat)))) (.own,.lst ((P++[r.1]).map .str)) (S (a5 (.loc,.int (P.length:Nat)))):=by
  have:=uT (k:=.bor 3) (ss:=P++r.2) (lo:=b6) (hi:=a5 (P.length:Nat)) rfl;rw[zW]at this;exact bw (kZ (av rfl) mZ (jq (aa rfl)) ∅ this) (bJ (ae (aa rfl) ah) trivial (aA aH aE) (by show 1<=c6;lia)) trivial (CC (a:=P) (b:=[r.1]) (by simp;lia))
 refine⟨a5 (.loc,.str r.1),a5 (.loc,.tup (r.2.map .str)),a5 (.loc,.int (P.length:Nat)),?_⟩;refine bc (yZ (qz (uN (c:=cb) (sD (ae (aR rfl) ah) trivial (d _) rfl)) (qy (uN (c:=cb) (Ff ai (aR rfl) trivial (GQ (by simp)) (bC (ae (aa rfl) ah) trivial jN) trivial (k_ (by simp;lia))))))) ao ?_;refine E8 j (jr (.inl rfl)) (au (st2:=S (a5 (.loc,.int (P.length:Nat)))) l aF ?_);refine bc (yZ (qz (aM (c:=cL) (aa rfl) ai trivial (k_ (by simp))) (qy (aM (c:=cL) (y:=(.loc,.tup (r.2.map .str))) m (bC (ae (aa rfl) ah) trivial rfl) trivial (nh (by simp[IM,eJ])))))) ao ?_;exact au n aY ao
theorem zY(a:iI Γ)(b:Wk rs P ps Q):∀(o4 o5 o6 o7:Option (Kd×U)),P.length+ps.length<100000->∃c d e f,Run (forM cL [4] (execs Γ tu) [(.any,.lst pl)] (ps.map λp:Nat=>(Kd.any,U.int (p:Int)))) (qY rs pl w P o4 o5 o6 o7) .nx (qY rs pl w Q c d e f):=by
 induction b with
 |nil=>exact λo4 o5 o6 o7 _=>⟨o4,o5,o6,o7,uO trivial⟩
 |cons h t g =>
  rename_i P Q p ps r;intro o4 o5 o6 o7 hl;rw[hY,ko]at hl;obtain⟨i,j,k,q⟩:=zX (Γ:=Γ) a (pl:=pl) (w:=w) (P:=P) (o5:=o5) (o6:=o6) (o7:=o7) h ⋯;obtain⟨b4,l,m,n,o⟩:=g (a5 (.any,.int (p:Int))) i j k (by simp;lia);exact⟨b4,l,m,n,B4 trivial (d8 iy) q o⟩
def pk(Γ:Tab):Prop:=∀(rs:List Row) (ps:List Nat) (w:Str),Wk rs [] ps [w]->ps.length<50000->Γ "_law_walked" [.tup (rs.map A'),.lst (ps.map λp:Nat=>.int (p:Int)),.str w]=a5 (.ok (.loc,.bl cb))
theorem zZ(d:iI Γ)(e:Wk rs [] ps [w])(hl:ps.length<50000):cR Γ zU [.tup (rs.map A'),.lst (ps.map λp:Nat=>.int (p:Int)),.str w]=a5 (.ok (.loc,.bl cb)):=by
 have f:(1000:Nat)<=c6:=by decide
 obtain⟨o4,o5,o6,o7,q⟩:=zY (Γ:=Γ) d (pl:=ps.map λp:Nat=>.int (p:Int)) (w:=w) e b6 b6 b6 b6 (by simp;lia);refine bx (st0:=[a5 (.loc,.tup (rs.map A')),a5 (.any,.lst (ps.map λp:Nat=>.int (p:Int))),a5 (.loc,.str w),b6,b6,b6,b6,b6]) rfl (.inr rfl) ?_ (au (st2:=qY rs (ps.map λp:Nat=>.int (p:Int)) w [] b6 b6 b6 b6) (bJ ah trivial aE (i8 _)) aY (cV (rs:=[(.any,.lst (ps.map λp:Nat=>.int (p:Int)))]) (ae (aR rfl) ah) trivial (by show a5 ((ps.map λp:Nat=>U.int (p:Int)).map λu=>(kE .any,u))=_;rw[i5];rfl) rfl q (bN (gr (c:=cb) (av rfl) (bJ (ae (aa rfl) ah) trivial (aA aH aE) (by show 1<=c6;lia)) ∅ (by have:=qE (a:=[w]) (b:=[w]);simpa using this)) fL)));show [a5 (if H_ (.tup (rs.map A'))=cb then Kd.loc else Kd.any,U.tup (rs.map A')),a5 (Kd.any,_),a5 (Kd.loc,U.str w),b6,b6,b6,b6,b6]=_;rw[ÿ (by show bU (rs.map A')=cb;exact aO rs)]
theorem Fg(a:iI (HW Pg d))(h:IH Pg "_law_walked" zU):pk (HW Pg (d+1)):=λrs ps w b hl=>by
 rw[aX h];exact zZ a b hl
theorem ba.ok(h:ba ws r):m6 ws r:=⟨h.1,h.2.2.2,h.2.1,h.2.2.1⟩
noncomputable def z_:Fn:=⟨"refuse_unknown",2,2,[.ite (.cmp .gt (.N6 cb (.var 1) (.call "words_of" [.var 0])) (.cst (.int 0))) [.bad] []]⟩
noncomputable def Aa:Fn:=⟨"refuse_unlearnt",2,2,[.ite (.cmp .HV (.var 1) (.call "learnt" [.var 0])) [.bad] []]⟩
theorem qZ(a:us.length=fn.np)(hs:start us fn.ns=st0)(h:Run (execs Γ fn.body) st0 .nx st):cR Γ fn us=a5 (.ok (.loc,.HH)):=by
 subst hs;unfold cR;rw[ÿ a,show execs Γ fn.body (start us fn.ns)=_ from h]
structure Bk(ws:List Str)(rs:List Row)(s:IB):Prop where
 wl:ws.length<=24
 rl:rs.length<=84
 ok:∀r∈rs,ba ws r
 inv:iG ws s
 Tr:Mm rs s
 snd:Le rs s.1
theorem Bk.of(a:ws.length<=24)(c:rs.length<=84)(b:∀r∈rs,ba ws r):Bk ws rs (lim rs fuel s0) :=
 ⟨a,c,b,jS a b fuel s0 (ly ws),vq a b fuel s0 (ly ws) (by unfold fuel;decide),vA fuel s0 λC _ x d=>(by cases d)⟩
theorem Bk.kn(h:Bk ws rs s):KL.Kn rs s.1:=⟨h.inv.1.1,h.snd,h.Tr.closed⟩
theorem Bk.heads(h:Bk ws rs s)(a:x∈s.1):x∈rs.map (·.1):=h.snd (λx=>x∈rs.map (·.1)) (λr b _=>QV b) x a
theorem Bk.words(h:Bk ws rs s)(a:x∈s.1):x∈fc rs:=by
 rw[sG];obtain⟨r,b,rfl⟩:=mh.mp (h.heads a);unfold cA;exact ZH.mpr ⟨_,QV b,by simp⟩
theorem Ab(h:Bk ws rs s)(a:w∈fc rs)(b:Γ "words_of" [.tup (rs.map A')]=a5 (.ok (.own,.lst ((fc rs).map .str)))):cR Γ z_ [.tup (rs.map A'),.lst [.str w]]=a5 (.ok (.loc,.HH)):=by
 have d:=sH λr c=>(h.ok r c).ok;have hl:=h.wl;have f:=kg (fc rs);have hs:wj cb (aN [w]) (aN (fc rs))=a5 (.loc,.int (0:Nat)):=by
  have e:aN [w]=[w]:=by simp[aN,iQ]
  unfold wj;rw[e,ÿ ⟨by simp,⋯⟩,ÿ rfl,B',ā (by simp[gD,a]),OS];rfl
 refine qZ (st0:=[a5 (.loc,.tup (rs.map A')),a5 (.any,.lst [.str w])]) rfl ?_ (bc (aM (GR (aR rfl) (nq (ss:=[w]) (by simp)) (bI (ae (aa rfl) ah) trivial b) (nq ⋯) hs) ai trivial (iz rfl)) ao ao);show [a5 (if H_ (.tup (rs.map A'))=cb then Kd.loc else Kd.any,U.tup (rs.map A')),a5 (Kd.any,_)]=_;rw[ÿ (by show bU (rs.map A')=cb;exact aO rs)]
theorem Ac{rs:List Row}(a:w∈K)(hl:Γ "learnt" [.tup (rs.map A')]=a5 (.ok (.own,.lst ((aJ K).map .str)))):cR Γ Aa [.tup (rs.map A'),.str w]=a5 (.ok (.loc,.HH)):=by
 refine qZ (st0:=[a5 (.loc,.tup (rs.map A')),a5 (.loc,.str w)]) rfl ?_ (bc (aM (aa rfl) (bI (ae (aa rfl) ah) trivial hl) trivial (iA.trans (by rw[Ă];simp[(bH K).mem_iff,a]))) ao ao);show [a5 (if H_ (.tup (rs.map A'))=cb then Kd.loc else Kd.any,U.tup (rs.map A')),a5 (Kd.loc,_)]=_;rw[ÿ (by show bU (rs.map A')=cb;exact aO rs)]
noncomputable def tv:List S :=
   [.set 5 (.idx (.var 2) (.pop 4)),
   .app 3 (.var 5),
   .ext 4 (.idx (.idx (.var 0) (.var 5)) (.cst (.int 1)))]
noncomputable def Ad:Fn:=⟨"reading",2,6,[.exp (.call "refuse_unknown" [.var 0,.lst [.var 1]]),.exp (.call "refuse_unlearnt" [.var 0,.var 1]),.ite (.cmp .gt (.idx (.bi .dict [.call "prices" [.var 0]]) (.var 1)) (.N3 "DEAREST_READ" (.int 2000))) [.bad] [],.set 2 (.bi .dict [.call "best_rows" [.var 0]]),.set 3 (.lst []),.set 4 (.lst [.var 1]),.Lw (.cmp .ne (.var 4) (.lst [])) tv,.ret (.LN .JA [.var 3])]⟩
theorem pq(c:Str->Int)(h:ks.Nodup):JJ .dict [(k,.lst (ks.map (J_ c)))]=a5 (.own,.HE ks (ks.map λx=>.int (c x))):=by
 have e:∀ks:List Str,kK (ks.map (J_ c))=a5 (ks.map λx=>(x,U.int (c x))):=λks=>by
  induction ks with
  |nil=>rfl
  |cons x ks a =>
   show(if N7 (U.int (c x))=cb then(kK (ks.map (J_ c))).map ((x,U.int (c x))::·) else b6)=_;rw[ÿ (show N7 (U.int (c x))=cb from rfl),a];rfl
 show(kK (ks.map (J_ c))).bind _=_;rw[e];show(if ((ks.map λx=>(x,U.int (c x))).map (·.1)).Nodup then a5 (Kd.own,U.HE ((ks.map λx=>(x,U.int (c x))).map (·.1)) ((ks.map λx=>(x,U.int (c x))).map (·.2))) else b6)=_;have b:(ks.map λx=>(x,U.int (c x))).map (·.1)=ks:=by rw[i5];exact List.map_id' _
 rw[b,ÿ h,i5];rfl
noncomputable def lA(rs:List Row)(w:Str)(ks:List Str)(pl:Str->Int)(B:List Nat)(W:List Str)(o5:Option (Kd×U)):aw:=[a5 (.loc,.tup (rs.map A')),a5 (.loc,.str w),a5 (.own,.HE ks (ks.map λx=>.int (pl x))),a5 (.own,.lst (B.map λp:Nat=>.int (p:Int))),a5 (.own,.lst (W.map .str)),o5]
theorem pv(h:iG ws s):∀{W:List Str},(∀x∈W,x∈s.1)->(W.length:Int)<=(W.map s.2).sum
 |[],_=>by simp
 |x::W,a=>by
  have:=pv h (W:=W) λy b=>a y (by simp[b]);have c:=h.2.1 x (a x (by simp));rw[ez,Nk,ko];lia
theorem q_(h:Bk ws rs s)(l:JT rs s pl)(m:∀x,x∈ks↔x∈s.1):∀(f:Nat) (W:List Str) (B:List Nat) (o5:Option (Kd×U)),(∀x∈W,x∈s.1)->(W.map s.2).sum+1<f->(W.map s.2).sum+B.length<=2000->Wk rs W B.reverse [w] ->
  ∃a c,Run (eW (HX Γ (.cmp .ne (.var 4) (.lst []))) (execs Γ tv) f) (lA rs w ks pl B W o5) .nx (lA rs w ks pl a [] c)/\Wk rs [] a.reverse [w]/\(a.length:Int)=(W.map s.2).sum+B.length
 |0,W,B,o5,b,t,_,_=>by have:=pv h.inv b;lia
 |f+1,W,B,o5,b,t,hl,n=>by
  have v:(10000:Nat)<=c6:=by decide
  have z:=pv h.inv b;have d:Run (HX Γ (.cmp .ne (.var 4) (.lst []))) (lA rs w ks pl B W o5) (!W.isEmpty) (lA rs w ks pl B W o5):=aM (av rfl) (bJ ah trivial aE (i8 _)) ∅ (by rw[lq (fb _ 49)];simp);by_cases g:W=[]
  ·subst g;exact⟨B,o5,ll d,n,by simp⟩
  ·have e:=Nj g;generalize W.dropLast=V at e;generalize W.getLast g=x at e;subst e;have o:x∈s.1:=b x (by simp);obtain⟨i,r,a1,j,a3,A,C⟩:=l.best h.Tr o;have N:=(h.ok r (lg j)).2.2.2;have O:((V++r.2).map s.2).sum+1=((V++[x]).map s.2).sum:=by
    rw[ke,QJ,ke,QJ,M1,Rk,C];unfold IC;lia
   have D:∀y∈V++r.2,y∈s.1:=λy hy=>by
    rcases lk.mp hy with hy|hy
    ·exact b y (by simp[hy])
    ·exact A y hy
   rw[hY,nH]at z;have G:Run (execs Γ tv) (lA rs w ks pl B (V++[x]) o5) .nx (lA rs w ks pl (B++[i]) (V++r.2) (a5 (.loc,.int (i:Int)))):=by
    have H:Run (ev Γ (.idx (.var 2) (.pop 4))) (lA rs w ks pl B (V++[x]) o5) (.loc,.int (i:Int)) (lA rs w ks pl B V o5):=by
     have q:=y6 (Γ:=Γ) (st:=lA rs w ks pl B (V++[x]) o5) (i:=4) (k:=.own) (us:=(V++[x]).map .str) (u:=.str x) rfl rfl (by simp);rw[show((V++[x]).map U.str).dropLast=V.map U.str by simp]at q;refine aI (av rfl) q ∅ ?_;show(cE ks (ks.map λx=>U.int (pl x)) x).map _=_;rw[eL ((m x).mpr o),a1];rfl
    refine au H aF (dX (k:=.own) (k':=.own) rfl (aa rfl) aH rfl rfl (by rw[cc];lia) ?_);refine qD (k:=.own) (k':=.own) (zs:=(V++r.2).map .str) rfl (aI (aI (aa rfl) (aa rfl) trivial (gB (k:=.loc) (iE j))) ai trivial (show d7 (.loc,A' r) (.int 1)=a5 (.loc,.tup (r.2.map .str)) from rfl)) rfl rfl ?_ ?_
    ·rw[uQ (by rw[cc,cc];lia) rfl,ke]
    ·rw[show(B.map λp:Nat=>U.int (p:Int))++[U.int (i:Int)]=(B++[i]).map λp:Nat=>U.int (p:Int) by simp];exact ao
   have I:Wk rs (V++r.2) (B++[i]).reverse [w]:=by
    rw[QS,Sx,SS];exact .cons j (by rw[a3];exact n)
   obtain⟨a,c,J,k2,L⟩:=q_ h l (w:=w) m f (V++r.2) (B++[i]) (a5 (.loc,.int (i:Int))) D ⋯ (by rw[hY,nH];lia) I;refine⟨a,c,lV ?_ G J,k2,by rw[hY,nH]at L;lia⟩;rw[show(!(V++[x]).isEmpty)=cb by simp]at d;exact d
def pw(Γ:Tab):Prop:=∀(ws:List Str) (rs:List Row) (w:Str),Bk ws rs (lim rs fuel s0)->w∈(lim rs fuel s0).1->(lim rs fuel s0).2 w<=2000->∃ps:List Nat,Γ "reading" [.tup (rs.map A'),.str w]=a5 (.ok (.own,.lst (ps.map λp:Nat=>.int (p:Int))))/\Wk rs [] ps [w]/\(ps.length:Int)=(lim rs fuel s0).2 w
theorem run_read(g:pf Γ)(i:zN Γ)(h:Bk ws rs (lim rs fuel s0))(a:w∈(lim rs fuel s0).1)(j:(lim rs fuel s0).2 w<=2000)(k:Γ "refuse_unknown" [.tup (rs.map A'),.lst [.str w]]=a5 (.ok (.loc,.HH)))(l:Γ "refuse_unlearnt" [.tup (rs.map A'),.str w]=a5 (.ok (.loc,.HH))):
  ∃ps:List Nat,cR Γ Ad [.tup (rs.map A'),.str w]=a5 (.ok (.own,.lst (ps.map λp:Nat=>.int (p:Int))))/\Wk rs [] ps [w]/\(ps.length:Int)=(lim rs fuel s0).2 w:=by
 have m:(10000:Nat)<=c6:=by decide
 obtain⟨k1,b,c⟩:=g ws rs h.wl h.ok;obtain⟨pl,k2,p2,d,e⟩:=i ws rs h.wl h.ok;generalize lim rs fuel s0=s at h a j c d e b p2;have n:k1.Nodup:=b.nodup_iff.mpr h.inv.1.1;have o:k2.Nodup:=p2.nodup_iff.mpr h.inv.1.1;have r:∀x,x∈k2↔x∈s.1:=λx=>p2.mem_iff;have v:=h.inv.2.1 w a;obtain⟨B,o5,q,t,hl⟩:=q_ (Γ:=Γ) h e (w:=w) r fuel [w] [] b6 (λx f=>by rw[i3]at f;subst f;exact a) (by simp;unfold fuel;lia) (by simp;lia) .nil;refine⟨B.reverse,?_,t,by rw[Ot];simpa using hl⟩;have u:Run (ev Γ (.idx (.bi .dict [.call "prices" [.var 0]]) (.var 1))) [a5 (.loc,.tup (rs.map A')),a5 (.loc,.str w),b6,b6,b6,b6] (.loc,.int (s.2 w)) [a5 (.loc,.tup (rs.map A')),a5 (.loc,.str w),b6,b6,b6,b6] :=
  aI (bC (ae (bI (ae (aa rfl) ah) trivial c) ah) trivial (pq s.2 n)) (aa rfl) trivial (by show(cE k1 (k1.map λx=>U.int (s.2 x)) w).map _=_;rw[eL (b.mem_iff.mpr a)];rfl)
 refine bx (st0:=[a5 (.loc,.tup (rs.map A')),a5 (.loc,.str w),b6,b6,b6,b6]) rfl (.inl rfl) ?_ ?_ (st:=lA rs w k2 pl B [] o5)
 ·show [a5 (if H_ (.tup (rs.map A'))=cb then Kd.loc else Kd.any,U.tup (rs.map A')),a5 (Kd.loc,U.str w),b6,b6,b6,b6]=_;rw[ÿ (by show bU (rs.map A')=cb;exact aO rs)]
 refine uZ (bI (ae (aa rfl) (ae (bJ (ae (aa rfl) ah) trivial (aA aH aE) (by show 1<=c6;lia)) ah)) trivial k) (uZ (bI (ae (aa rfl) (ae (aa rfl) ah)) trivial l) ?_);refine bc (aM u GC trivial (iz (by simp;lia))) ao ?_;refine au (bC (ae (bI (ae (aa rfl) ah) trivial d) ah) trivial (pq pl o)) aY (au (bJ ah trivial aE (i8 _)) aY (au (st2:=lA rs w k2 pl [] [w] b6) (bJ (ae (aa rfl) ah) trivial (aA aH aE) (by show 1<=c6;lia)) aY (m9 q (bN (uL (ae (av rfl) ah) ∅ ?_) gv))));show(if dw (.bor 3) (B.map λp:Nat=>U.int (p:Int))=cb then a5 (Kd.own,U.lst (B.map λp:Nat=>U.int (p:Int)).reverse) else b6)=_;rw[ÿ (show dw (.bor 3) (B.map λp:Nat=>U.int (p:Int))=cb from rfl),Sb]
structure U9(prog:List Fn):Prop where
 l:KL.Tq prog
 w:IH prog "words_of" sI
 u:IH prog "refuse_unknown" z_
 r:IH prog "refuse_unlearnt" Aa
 q:IH prog "row_price" vg
 t:IH prog "prices_and_places" Cp
 c:IH prog "prices" jT
 b:IH prog "best_rows" ph
 d:IH prog "reading" Ad
theorem Fh(R:U9 prog)(n:Nat):pw (HW prog (n+7)):=λws rs w h a g=>by
 have i:HW prog (n+5) "words_of" [.tup (rs.map A')]=a5 (.ok (.own,.lst ((fc rs).map .str))):=(aX R.w _).trans (oV (by have:=h.rl;lia) (λr f=>(h.ok r f).ok) (by have:=h.wl;lia));have j:HW prog (n+6) "refuse_unknown" [.tup (rs.map A'),.lst [.str w]]=a5 (.ok (.loc,.HH)):=(aX R.u _).trans (Ab h (h.words a) i);have k:=KL.CA R.l n (λr f=>(h.ok r f).ok) h.wl (by have:=h.rl;lia) h.kn;have m:HW prog (n+6) "refuse_unlearnt" [.tup (rs.map A'),.str w]=a5 (.ok (.loc,.HH)):=(aX R.r _).trans (Ac a k);obtain⟨ps,e,r⟩:=run_read (vn (zL (sZ R.q) R.t) R.c) (Fe (zL (sZ R.q) R.t) R.b) h a g j m;exact⟨ps,(aX R.d _).trans e,r⟩
noncomputable def tw : List S :=
        [.ite (.and [.cmp .HV (.var 3) (.var 1),.bi .all [.comp 1 cL .seq [.var 4] [] (.cmp .isin (.var 0) (.var 2))]])
          [.put 1 (.var 3) (.bi .len [.var 1]),
          .set 2 (.cst (.bl cb))]
          []]
noncomputable def tD:List S :=
   [.set 2 (.cst (.bl cL)),
   .Ia cb [3,4] .seq [(.var 0)] tw]
noncomputable def Ae:Fn:=⟨"_law_rank",1,5,[.set 1 (.JG cL),.set 2 (.cst (.bl cb)),.Lw (.var 2) tD,.ret (.var 1)]⟩
structure Kb(ws:List Str)(rs:List Row)(s:IB):Prop where
 ks:jc ws s.1
 lt:∀k∈s.1,s.2 k<s.1.length
 U_:∀k∈s.1,∃r∈rs,r.1=k/\∀x∈r.2,x∈s.1/\s.2 x<s.2 k
 snd:Le rs s.1
theorem Kb.add(h:Kb ws rs s)(j:r∈rs)(n:r.1∈ws)(l:r.1∉s.1)(f:∀x∈r.2,x∈s.1):Kb ws rs (cG s.1 r.1,upd s.2 r.1 (s.1.length:Nat)):=by
 have e:cG s.1 r.1=s.1++[r.1]:=by unfold cG;rw[ā l]
 have g:∀x∈s.1,upd s.2 r.1 (s.1.length:Nat) x=s.2 x:=λx d=>by
  unfold upd;rw[ā (λz:x=r.1=>l (z▸d))]
 have m:upd s.2 r.1 (s.1.length:Nat) r.1=(s.1.length:Nat):=by unfold upd;rw[ÿ rfl]
 refine⟨h.ks.ins n,λk hk=>?_,λk hk=>?_,λC i x d=>?_⟩
 ·show upd s.2 r.1 (s.1.length:Nat) k<((cG s.1 r.1).length:Nat);rw[e,hY,nH];rcases cm.mp hk with hk|rfl
  ·rw[g k hk];have:=h.lt k hk;lia
  ·rw[m];lia
 ·rcases cm.mp hk with hk|rfl
  ·obtain⟨q,a,b,c⟩:=h.U_ k hk;refine⟨q,a,b,λx d=>⟨cm.mpr (.inl (c x d).1),?_⟩⟩;show upd s.2 r.1 (s.1.length:Nat) x<upd s.2 r.1 (s.1.length:Nat) k;rw[g x (c x d).1,g k hk];exact(c x d).2
  ·refine⟨r,j,rfl,λx d=>⟨cm.mpr (.inl (f x d)),?_⟩⟩;show upd s.2 r.1 (s.1.length:Nat) x<upd s.2 r.1 (s.1.length:Nat) r.1;rw[g x (f x d),m];exact h.lt x (f x d)
 ·rcases cm.mp d with d|rfl
  ·exact h.snd C i x d
  ·exact i r j λy o=>h.snd C i y (f y o)
noncomputable def jg(rs:List Row)(s:IB)(b:Bool)(a o4:Option (Kd×U)):aw:=[a5 (.loc,.tup (rs.map A')),a5 (.own,cD s),a5 (.loc,.bl b),a,o4]
theorem Af(o:ws.length<=24)(h:Kb ws rs s)(l:r∈rs)(i:ba ws r):
  ∃s' f,Run (execs Γ tw) (jg rs s b (a5 (.loc,.str r.1)) (a5 (.loc,.tup (r.2.map .str)))) .nx (jg rs s' f (a5 (.loc,.str r.1)) (a5 (.loc,.tup (r.2.map .str))))/\Kb ws rs s'/\s.1.length<=s'.1.length/\((f=cb/\s.1.length<s'.1.length)\/(f=b/\s'=s/\(r.1∈s.1\/¬∀x∈r.2,x∈s.1))):=by
 have p:=i.2.2.2;have hl:=h.ks.len;have c:Run (HX Γ (.and [.cmp .HV (.var 3) (.var 1),.bi .all [.comp 1 cL .seq [.var 4] [] (.cmp .isin (.var 0) (.var 2))]])) (jg rs s b (a5 (.loc,.str r.1)) (a5 (.loc,.tup (r.2.map .str)))) (!df (r.1∈s.1)&&(r.2.all λx=>df (x∈s.1))) (jg rs s b (a5 (.loc,.str r.1)) (a5 (.loc,.tup (r.2.map .str)))) :=
  gu (lb (aM (aa rfl) (av rfl) ∅ fU) λ_=>dI (sE (ni (Γ:=Γ) (st:=jg rs s b (a5 (.loc,.str r.1)) (a5 (.loc,.tup (r.2.map .str)))) (src:=.var 4) (j:=1) (told:=r.2) (known:=s.1) (k:=.loc) (w:=cD s) (.inl rfl) ⋯ (aa rfl) (.inr rfl) λx=>sN)))
 cases d:(!df (r.1∈s.1)&&(r.2.all λx=>df (x∈s.1))) with
 |true =>
  rw[d]at c;obtain⟨m,n⟩:=u5.mp d;have a:r.1∉s.1:=by simpa using m
  have g:∀x∈r.2,x∈s.1:=λx a=>by have:=i7.mp n x a;simpa using this
  have e:dy (.str r.1) (.int (s.1.length:Nat)) (cD s)=a5 (cD (cG s.1 r.1,upd s.2 r.1 (s.1.length:Nat))):=by
   unfold cD;rw[o_ ⋯];congr 3
   funext k
   show _=U.int (upd s.2 r.1 (s.1.length:Nat) k);unfold upd;split<;>rfl
  refine⟨(cG s.1 r.1,upd s.2 r.1 (s.1.length:Nat)),cb,cy c (iB (k:=.own) (k':=.own) (rv:=(.loc,.int (s.1.length:Nat))) (bC (ae (av rfl) ah) ∅ rfl) rfl (aa rfl) (aA aH (aA aH aE)) rfl rfl e (au ai aF ao)) ao,h.add l i.1 a g,?_,.inl ⟨rfl,?_⟩⟩
  ·show s.1.length<=(cG s.1 r.1).length;unfold cG;rw[ā a];simp
  ·show s.1.length<(cG s.1 r.1).length;unfold cG;rw[ā a];simp
 |false =>
  rw[d]at c;refine⟨s,b,bc c ao ao,h,hW _,.inr ⟨rfl,rfl,?_⟩⟩;rcases YR.mp d with z|z
  ·exact .inl (by simpa using z)
  ·refine .inr λg=>?_;rw[i7.mpr λx a=>by simpa using g x a]at z;cases z
theorem ra(o:ws.length<=24)(p:∀r∈rs,ba ws r):∀(f:Nat) (s:IB) (e o4:Option (Kd×U)),Kb ws rs s->26<f+s.1.length ->
  ∃s' v w,Run (eW (HX Γ (.var 2)) (execs Γ tD) f) (jg rs s cb e o4) .nx (jg rs s' cL v w)/\Kb ws rs s'/\gR rs (·∈s'.1)
 |0,s,e,o4,h,A=>by have:=h.ks.len;lia
 |f+1,s,e,o4,h,A=>by
  obtain⟨st',B,s1,b1,a3,i,rfl,j,C,a⟩:=cj (rs:=[(.loc,.tup (rs.map A'))]) (t:=cb) (is:=[3,4]) (body:=execs Γ tw) (λr:Row=>(Kd.loc,A' r)) (λd q st=>∃s1 b1 a3 i,st=jg rs s1 b1 a3 i/\Kb ws rs s1/\s.1.length<=s1.1.length/\((b1=cb/\s.1.length<s1.1.length)\/(b1=cL/\s1=s/\∀r∈d,r.1∈s.1\/¬∀x∈r.2,x∈s.1))/\∀r∈q,r∈rs)
   (λ_ _ _ _=>trivial) (λd y q st D=>by
    obtain⟨s1,b1,a3,i,rfl,j,C,a,l⟩:=D;obtain⟨s2,G,H,m,O,c⟩:=Af (Γ:=Γ) (b:=b1) o j (l y (by simp)) (p y (l y (by simp)));refine⟨jg rs s1 b1 (a5 (.loc,.str y.1)) (a5 (.loc,.tup (y.2.map .str))),_,jr (.inl rfl),H,s2,G,_,_,rfl,m,⋯,?_,λr hr=>l r (by simp[hr])⟩;rcases c with⟨c,k⟩|⟨c,k,I⟩
    ·exact .inl ⟨c,⋯⟩
    ·subst c k;rcases a with⟨a,n⟩|⟨a,n,J⟩
     ·exact .inl ⟨a,n⟩
     ·subst n;refine .inr ⟨a,rfl,λr hr=>?_⟩;rcases lk.mp hr with hr|hr
      ·exact J r hr
      ·rw[i3]at hr;subst hr;exact I) rs [] (jg rs s cL e o4) ⟨s,cL,e,o4,rfl,h,hW _,.inr ⟨rfl,rfl,by simp⟩,λ_ z=>z⟩
  have u:Run (execs Γ tD) (jg rs s cb e o4) .nx (jg rs s1 b1 a3 i):=au ai aF (cV (rs:=[(.loc,.tup (rs.map A'))]) (ae (aa rfl) ah) trivial pd rfl B ao);have Q:=j.ks.len;have T:=h.ks.len;rcases a.1 with⟨a,c⟩|⟨a,c,k⟩
  ·subst a;obtain⟨s2,b3,b4,L,m,k2⟩:=ra o p f s1 a3 i j ⋯;exact⟨s2,b3,b4,lV (fe rfl) u L,m,k2⟩
  ·subst a c;obtain⟨f,rfl⟩:∃g,f=g+1:=⟨f - 1,⋯⟩
   refine⟨s1,a3,i,lV (fe rfl) u (ll (fe rfl)),j,λr hr N=>?_⟩;exact(k r (by simpa using hr)).resolve_right λz=>z N
def Ag(Γ:Tab):Prop:=∀(ws:List Str) (rs:List Row),ws.length<=24->(∀r∈rs,ba ws r)->∃s:IB,Γ "_law_rank" [.tup (rs.map A')]=a5 (.ok (.own,cD s))/\Kb ws rs s/\KL.Kn rs s.1
theorem Ah(a:ws.length<=24)(b:∀r∈rs,ba ws r):∃s:IB,cR Γ Ae [.tup (rs.map A')]=a5 (.ok (.own,cD s))/\Kb ws rs s/\KL.Kn rs s.1:=by
 obtain⟨s,a3,d,q,h,c⟩:=ra (Γ:=Γ) a b fuel s0 b6 b6 ⟨⟨O9,λx h=>(by cases h)⟩,λk h=>(by cases h),λk h=>(by cases h),λC _ x h=>(by cases h)⟩ (by unfold fuel;lia);refine⟨s,?_,h,⟨h.ks.1,h.snd,c⟩⟩;refine bx (st0:=[a5 (.loc,.tup (rs.map A')),b6,b6,b6,b6]) rfl (.inl rfl) ?_ (au (k7) aY (au (st2:=jg rs s0 cb b6 b6) ai aF (m9 q (bN (av rfl) (gw rfl)))));show [a5 (if H_ (.tup (rs.map A'))=cb then Kd.loc else Kd.any,U.tup (rs.map A')),b6,b6,b6,b6]=_;rw[ÿ (by show bU (rs.map A')=cb;exact aO rs)]
theorem Fi(h:IH Pg "_law_rank" Ae):Ag (HW Pg (d+1)):=λws rs a b=>by
 obtain⟨s,e,r⟩:=Ah (Γ:=HW Pg d) a b;exact⟨s,by rw[aX h];exact e,r⟩
noncomputable def Ai:List S :=
   [.ite (.cmp .eq (.idx (.idx (.var 0) (.var 4)) (.cst (.int 0))) (.var 2))
    [.ite (.bi .all [.comp 1 cL .seq [.idx (.idx (.var 0) (.var 4)) (.cst (.int 1))] [] (.and [.cmp .isin (.var 0) (.var 2),.cmp .lt (.idx (.var 2) (.var 0)) (.idx (.var 2) (.var 3))])])
     [.app 3 (.var 4)]
     []]
    []]
noncomputable def Fj:Fn:=⟨"_law_fitting",3,5,[.set 3 (.lst []),.Ia cL [4] .Jl [.bi .len [.var 0]] Ai,.ret (.var 3)]⟩
noncomputable def iJ(rs:List Row)(s:IB)(w:Str)(p:Nat):Bool:=match rs[p]? with
 |some r=>df (r.1=w)&&r.2.all λx=>df (x∈s.1)&&df (s.2 x<s.2 w)
 |none=>cL
noncomputable def pz(rs:List Row)(s:IB)(w:Str)(acc:List Nat)(o4:Option (Kd×U)):aw:=[a5 (.loc,.tup (rs.map A')),a5 (.any,cD s),a5 (.loc,.str w),a5 (.own,.lst (acc.map λp:Nat=>.int (p:Int))),o4]
theorem CD{p:Nat}(j:w∈s.1)(l:∀r∈rs,r.2.length<=8)(m:p<rs.length)(v:acc.length<1000):
  Run (execs Γ Ai) (pz rs s w acc (a5 (.loc,.int (p:Int)))) .nx (pz rs s w (if iJ rs s w p=cb then acc++[p] else acc) (a5 (.loc,.int (p:Int)))):=by
 have n:(1000:Nat)<=c6:=by decide
 obtain⟨r,h⟩:∃r,rs[p]?=a5 r:=⟨rs[p],by simp[m]⟩
 have z:=l r (lg h);let S:=pz rs s w acc (a5 (.loc,.int (p:Int)));have d:Run (ev Γ (.idx (.var 0) (.var 4))) S (.loc,A' r) S:=aI (aa rfl) (aa rfl) trivial (gB (k:=.loc) (iE h));have o:d7 (.loc,A' r) (.int 0)=a5 (.loc,.str r.1):=rfl;have q:d7 (.loc,A' r) (.int 1)=a5 (.loc,.tup (r.2.map .str)):=rfl;have a:Run (HX Γ (.cmp .eq (.idx (.idx (.var 0) (.var 4)) (.cst (.int 0))) (.var 2))) S (df (r.1=w)) S:=aM (aI d ai trivial o) (aa rfl) trivial uR;have e:∀x∈s.1,d7 (.any,cD s) (.str x)=a5 (.any,.int (s.2 x)):=λx b=>by show(cE s.1 (s.1.map λk=>U.int (s.2 k)) x).map _=_;rw[eL b];rfl
 have c:Run (HX Γ (.bi .all [.comp 1 cL .seq [.idx (.idx (.var 0) (.var 4)) (.cst (.int 1))] [] (.and [.cmp .isin (.var 0) (.var 2),.cmp .lt (.idx (.var 2) (.var 0)) (.idx (.var 2) (.var 3))])])) S (r.2.all λx=>df (x∈s.1)&&df (s.2 x<s.2 w)) S:=by
  have b:=i_ (cond:=bb Γ []) (elt:=ev Γ (.and [.cmp .isin (.var 0) (.var 2),.cmp .lt (.idx (.var 2) (.var 0)) (.idx (.var 2) (.var 3))])) (src:=[(.loc,.tup (r.2.map .str))]) (st:=S) trivial .loc (.inl rfl) U.str (λx=>.bl (df (x∈s.1)&&df (s.2 x<s.2 w))) .loc (λ_=>ix) r.2 [] (by simp;lia)
   (λy _=>⟨C0 (y8 (gr (aa rfl) (aR rfl) trivial sN) λt=>yY (gr (aI (aR rfl) (aa rfl) trivial (e y (by simpa using t))) (aI (aR rfl) (aa rfl) trivial (e w j)) trivial (k_ rfl))),aH⟩)
  rw[mn,show(r.2.map λx=>U.bl (df (x∈s.1)&&df (s.2 x<s.2 w)))=(r.2.map λx=>df (x∈s.1)&&df (s.2 x<s.2 w)).map U.bl by rw[i5];rfl]at b;have f:=uW (k:=.own) (r.2.map λx=>df (x∈s.1)&&df (s.2 x<s.2 w));rw[Yx]at f;exact sE (bC (ae (dJ (rs:=[(.loc,.tup (r.2.map .str))]) (ae (aI d ai trivial q) ah) trivial vd b) ah) trivial f)
 have u:iJ rs s w p=(df (r.1=w)&&r.2.all λx=>df (x∈s.1)&&df (s.2 x<s.2 w)):=by unfold iJ;rw[h]
 rw[u];cases g:df (r.1=w) with
 |false =>
  rw[g]at a;rw[ā (by simp)];exact bc a ao ao
 |true =>
  rw[g]at a;cases i:(r.2.all λx=>df (x∈s.1)&&df (s.2 x<s.2 w)) with
  |false =>
   rw[i]at c;rw[ā (by simp)];exact cy a (bc c ao ao) ao
  |true =>
   rw[i]at c;rw[ÿ (by simp)];refine cy a (cy c (dX (k:=.own) (k':=.own) rfl (aa rfl) aH rfl rfl (by rw[cc];lia) ao) ao) ?_;rw[show(acc.map λp:Nat=>U.int (p:Int))++[U.int (p:Int)]=(acc++[p]).map λp:Nat=>U.int (p:Int) by simp];exact ao
noncomputable def fits(rs:List Row)(s:IB)(w:Str):List Nat:=(i1 rs.length).filter (iJ rs s w)
def rb(Γ:Tab):Prop:=∀(rs:List Row) (s:IB) (w:Str),w∈s.1->(∀r∈rs,r.2.length<=8)->rs.length<=84->Γ "_law_fitting" [.tup (rs.map A'),cD s,.str w]=a5 (.ok (.own,.lst ((fits rs s w).map λp:Nat=>.int (p:Int))))
theorem CF(b:w∈s.1)(c:∀r∈rs,r.2.length<=8)(hl:rs.length<=84):cR Γ Fj [.tup (rs.map A'),cD s,.str w]=a5 (.ok (.own,.lst ((fits rs s w).map λp:Nat=>.int (p:Int)))):=by
 obtain⟨st',f,o4,rfl,_⟩:=cj (rs:=[(.loc,.int (rs.length:Nat))]) (t:=cL) (is:=[4]) (body:=execs Γ Ai) (λi:Nat=>(Kd.loc,U.int (0+(i:Int)))) (λd q st=>∃o4,st=pz rs s w (d.filter (iJ rs s w)) o4/\d++q=i1 rs.length)
  (λ_ _ _ _=>trivial) (λd y q st g=>by
   obtain⟨o4,rfl,e⟩:=g;have h:y<rs.length:=rr.mp (by rw[<-e];simp);have k:d.length<=rs.length:=by have:=Ą Kz e;simp at this;lia
   have l:=td (iJ rs s w) d;have j:=CD (Γ:=Γ) (acc:=d.filter (iJ rs s w)) b c h ⋯;refine⟨pz rs s w (d.filter (iJ rs s w)) (a5 (.loc,.int (y:Int))),_,?_,j,a5 (.loc,.int (y:Int)),?_,by simpa using e⟩
   ·have:Run (dm cL [4] (Kd.loc,U.int (0+(y:Int)))) (pz rs s w (d.filter (iJ rs s w)) o4) () (pz rs s w (d.filter (iJ rs s w)) (a5 (.loc,.int (0+(y:Int))))):=aF;rw[Int.zero_add]at this ⊢;exact this
   ·rw[OW];congr 1
    by_cases a:iJ rs s w y=cb
    ·rw[ÿ a,B',ÿ a,OS]
    ·rw[ā a,B',ā a,OS,uk]) (i1 rs.length) [] (pz rs s w [] b6) ⟨b6,rfl,rfl⟩
 refine bx (st0:=[a5 (.loc,.tup (rs.map A')),a5 (.any,cD s),a5 (.loc,.str w),b6,b6]) rfl (.inl rfl) ?_ (au (st2:=pz rs s w [] b6) (bJ ah trivial aE (i8 _)) aY (cV (rs:=[(.loc,.int (rs.length:Nat))]) (ae (bC (ae (aa rfl) ah) trivial (by rw[jN,cc])) ah) trivial (gQ ⋯) rfl f (bN (av rfl) (gw rfl))));show [a5 (if H_ (.tup (rs.map A'))=cb then Kd.loc else Kd.any,U.tup (rs.map A')),a5 (if H_ (cD s)=cb then Kd.loc else Kd.any,cD s),a5 (Kd.loc,U.str w),b6,b6]=_;rw[ÿ (by show bU (rs.map A')=cb;exact aO rs),ā (by show ¬(cL=cb);decide)]
theorem G2(h:IH Pg "_law_fitting" Fj):rb (HW Pg (d+1)):=λrs s w a b hl=>by
 rw[aX h];exact CF a b hl
theorem Aj(h:p∈fits rs s w):∃r,rs[p]?=a5 r/\r.1=w/\∀x∈r.2,x∈s.1:=by
 obtain⟨_,c⟩:=Lc.mp h;unfold iJ at c;split at c
 ·rename_i r d;obtain⟨a,b⟩:=u5.mp c;exact⟨r,d,by simpa using a,λx e=>by have:=i7.mp b x e;simp at this;exact this.1⟩
 ·cases c
theorem Kb.fits(h:Kb ws rs s)(c:w∈s.1):0<(fits rs s w).length:=by
 obtain⟨r,d,e,f⟩:=h.U_ w c;obtain⟨p,b,rfl⟩:=QD.mp d;refine Sy (a:=p) (Lc.mpr ⟨rr.mpr b,?_⟩);unfold iJ;rw[oT b];refine u5.mpr ⟨by simpa using e,i7.mpr λx g=>?_⟩;have:=f x g;simp[this.1,this.2]
inductive Dx(rs:List Row):List Str->List (Str ⊕ Nat)->List Str->Prop where
 |nil {P:List Str}:Dx rs P [] P
 |word {P Q:List Str} {x:Str} {t:List (Str ⊕ Nat)} (h:Dx rs (P++[x]) t Q):Dx rs P (.inl x::t) Q
 |place {P Q:List Str} {p:Nat} {r:Row} {t:List (Str ⊕ Nat)} (h:rs[p]?=a5 r) (k:Dx rs (P++[r.1]) t Q):Dx rs (P++r.2) (.inr p::t) Q
theorem Dx.words:∀{l P:List Str},Dx rs (P++l) t Q->Dx rs P (l.map LH++t) Q
 |[],P,h=>by simpa using h
 |x::l,P,h=>.word (Dx.words (l:=l) (by simpa using h))
theorem Wk.snoc(w:Wk rs A ps B)(e:B=P++r.2)(h:rs[p]?=a5 r):Wk rs A (ps++[p]) (P++[r.1]):=by
 induction w with
 |nil=>subst e;exact .cons h .nil
 |cons a t b=>exact .cons a (b e)
noncomputable def Mo:Str ⊕ Nat->U
 |.inl x=>.str x
 |.inr p=>.int (p:Int)
noncomputable def nI(l:List (Str ⊕ Nat)):Nat:=(l.filter λi=>i.isRight).length
theorem tE(a b:List (Str ⊕ Nat)):nI (a++b)=nI a+nI b:=by simp[nI]
theorem C_(a:List (Str ⊕ Nat)):nI a<=a.length:=td _ _
theorem rf:∀l:List Str,nI (l.map LH)=0
 |[]=>rfl
 |x::l=>by
  show nI (LH x::l.map LH)=0;unfold nI;rw[B',ā (by simp)];exact rf l
noncomputable def Dc : List S :=
        [.set 7 (.call "_law_fitting" [.var 1,.var 2,.var 6]),
        .set 8 (.idx (.var 7) (.HF "_law_draw" [.var 0,.bi .len [.var 7]] [0])),
        .app 4 (.var 8),
        .ext 4 (.LN .JA [(.idx (.idx (.var 1) (.var 8)) (.cst (.int 1)))])]
noncomputable def vB:List S :=
   [.set 6 (.pop 4),
   .ite (.LO (.var 6) .int)
    [.app 5 (.var 6)] Dc]
noncomputable def Ak:E:=.and [.cmp .gt (.bi .len [.var 4]) (.cst (.int 0)),.cmp .lt (.bin .add (.bi .len [.var 5]) (.bi .len [.var 4])) (.cst (.int 300))]
noncomputable def CG:List S :=
   [.set 4 (.lst [.var 3]),
    .set 5 (.lst []),
    .Lw Ak vB,
    .ret (.ite (.cmp .eq (.var 4) (.lst [])) (.var 5) (.cst .HH))]
noncomputable def Al:Fn:=⟨"_law_drawn",4,9,.K3 [0]::CG⟩
noncomputable def fw(u:U)(rs:List Row)(s:IB)(w:Str)(W:List (Str ⊕ Nat))(ps:List Nat)(o6 o7 o8:Option (Kd×U)):aw:=[a5 (.io,u),a5 (.loc,.tup (rs.map A')),a5 (.any,cD s),a5 (.loc,.str w),a5 (.own,.lst (W.map Mo)),a5 (.own,.lst (ps.map λp:Nat=>.int (p:Int))),o6,o7,o8]
theorem Am{W:List (Str ⊕ Nat)}:Run (HX Γ Ak) (fw u rs s w W ps o6 o7 o8) (df (0<W.length)&&df (ps.length+W.length<300)) (fw u rs s w W ps o6 o7 o8):=by
 refine gu (lb (aM (bC (ae (av rfl) ah) ∅ bt) ai trivial (iz ?_)) λ_=>dI (aM (bw (bC (ae (av rfl) ah) ∅ bt) (bC (ae (av rfl) ah) ∅ bt) trivial bW) ai trivial (k_ ?_)))
 ·rw[cc];exact decide_eq_decide.mpr ⋯
 ·rw[cc,cc];exact decide_eq_decide.mpr ⋯
theorem An(h:a_ Γ)(j:rb Γ){V:List (Str ⊕ Nat)}(l:Kb ws rs s)(a:∀r∈rs,r.2.length<=8)(hl:rs.length<=84)(b:x∈s.1)(o:Src T u)(N:T+1<2 ^ 62)(O:V.length<1000):
  ∃p r u' q t,Run (execs Γ Dc) (fw u rs s w V ps (a5 (.loc,.str x)) o7 o8) .nx (fw u' rs s w (V++[kr p]++(r.2.reverse.map LH)) ps (a5 (.loc,.str x)) q t)/\rs[p]?=a5 r/\r.1=x/\(∀y∈r.2,y∈s.1)/\r.2.length<=8/\Src (T+1) u':=by
 have v:(10000:Nat)<=c6:=by decide
 have c:=j rs s x b a hl;have z:=l.fits b;have A:(fits rs s x).length<=84:=by
  have:=td (iJ rs s x) (i1 rs.length);rw[w6]at this;unfold fits;lia
 have d:∀p∈fits rs s x,∃r,rs[p]?=a5 r/\r.1=x/\∀y∈r.2,y∈s.1:=λp B=>Aj B;generalize fits rs s x=F at c z A d;obtain⟨n,C,D,G,H,s1⟩:=cW (st:=fw u rs s w V ps (a5 (.loc,.str x)) (a5 (.own,.lst (F.map λp:Nat=>.int (p:Int)))) o8) h (i:=0) (k:=.io) (e:=.bi .len [.var 7]) (m:=((F.map λp:Nat=>U.int (p:Int)).length:Nat)) rfl rfl (bC (ae (av rfl) ah) ∅ bt) o ⋯ (by simp;lia) (by simp;lia);rw[cc]at H;obtain⟨m,rfl⟩:=wh G;have f:m<F.length:=by lia
 obtain⟨r,a1,I,a3⟩:=d F[m] (LS f);have g:IU (F.map λp:Nat=>U.int (p:Int)) (m:Int)=a5 (.int (F[m]:Int)):=gW (by simp[f]);have J:=a r (lg a1);generalize F[m]=p at a1 g;refine⟨p,r,C,a5 (.own,.lst (F.map λp:Nat=>.int (p:Int))),a5 (.loc,.int (p:Int)),?_,a1,I,a3,J,s1⟩;refine au (bI (ae (aa rfl) (ae (aR rfl) (ae (aa rfl) ah))) trivial c) aY (au (aI (av rfl) D ∅ (cz (k:=.bor 7) g)) aF ?_);refine dX (k:=.own) (k':=.own) rfl (aa rfl) aH rfl rfl (by rw[cc];lia) ?_;have L:qe .JA [(.loc,.tup (r.2.map .str))]=a5 (.own,.lst (r.2.reverse.map .str)):=by
  show(if dw .loc (r.2.map U.str)=cb then a5 (Kd.own,U.lst (r.2.map U.str).reverse) else b6)=_;rw[ÿ (show dw .loc (r.2.map U.str)=cb from rfl),Sb]
 refine qD (k:=.own) (k':=.own) (us:=V.map Mo++[.int (p:Int)]) (zs:=(V++[kr p]++(r.2.reverse.map LH)).map Mo) rfl (uL (ae (aI (aI (aa rfl) (aa rfl) trivial (gB (k:=.loc) (iE a1))) ai trivial (show d7 (.loc,A' r) (.int 1)=a5 (.loc,.tup (r.2.map .str)) from rfl)) ah) trivial L) rfl rfl ?_ ao;rw[oS (by simp;lia) rfl,ke,ke,i5];rfl
theorem pA(q:a_ Γ)(t:rb Γ)(v:Kb ws rs s)(A:∀r∈rs,r.2.length<=8)(hl:rs.length<=84):∀(n f:Nat) (W:List (Str ⊕ Nat)) (ps:List Nat) (P:List Str) (u:U) (T:Int) (o6 o7 o8:Option (Kd×U)),2 * ps.length+nI W+n=620->n<f->ps.length+W.length<310->Src T u->T+n<2 ^ 62->(∀x,.inl x∈W->x∈s.1)->Wk rs [] ps P->Dx rs P W.reverse [w] ->
  ∃c b a u' d g j,Run (eW (HX Γ Ak) (execs Γ vB) f) (fw u rs s w W ps o6 o7 o8) .nx (fw u' rs s w c b d g j)/\Src (T+n) u'/\b.length<310/\Wk rs [] b a/\Dx rs a c.reverse [w]
 |n,0,W,ps,P,u,T,o6,o7,o8,_,hf,_,_,_,_,_,_=>by lia
 |n,f+1,W,ps,P,u,T,o6,o7,o8,hn,hf,HQ,B,hT,C,D,m=>by
  have ac:(10000:Nat)<=c6:=by decide
  have l:=Am (Γ:=Γ) (u:=u) (rs:=rs) (s:=s) (w:=w) (W:=W) (ps:=ps) (o6:=o6) (o7:=o7) (o8:=o8);cases G:(df (0<W.length)&&df (ps.length+W.length<300)) with
  |false =>
   rw[G]at l;exact⟨W,ps,P,u,o6,o7,o8,ll l,B.up ⋯,⋯,D,m⟩
  |true =>
   rw[G]at l;obtain⟨o,H⟩:=u5.mp G;have o:0<W.length:=by simpa using o
   have H:ps.length+W.length<300:=by simpa using H
   have Y:W≠[]:=λz=>by rw[z]at o;exact absurd o (by simp)
   have e:=Nj Y;generalize W.dropLast=V at e;generalize W.getLast Y=i at e;subst e;rw[QS,Sx,SS]at m;rw[hY,nH]at H HQ;rw[tE]at hn;have YG:=C_ V;obtain⟨n,rfl⟩:∃k,n=k+1:=⟨n - 1,by
    have:nI [i]<=1:=by simpa using C_ [i]
    lia⟩
   have I:=y6 (Γ:=Γ) (st:=fw u rs s w (V++[i]) ps o6 o7 o8) (i:=4) (k:=.own) (us:=(V++[i]).map Mo) (u:=Mo i) rfl rfl (by simp);rw[show((V++[i]).map Mo).dropLast=V.map Mo by simp]at I;cases i with
   |inr p =>
    have e1:nI [(kr p:Str ⊕ Nat)]=1:=rfl;cases m with
    |place h k =>
     rename_i a r;have J:Run (execs Γ vB) (fw u rs s w (V++[kr p]) ps o6 o7 o8) .nx (fw u rs s w V (ps++[p]) (a5 (.loc,.int (p:Int))) o7 o8):=by
      refine au (st2:=fw u rs s w V ps (a5 (.loc,.int (p:Int))) o7 o8) I aF (cy (C3 (aa rfl) rfl) (dX (k:=.own) (k':=.own) rfl (aa rfl) aH rfl rfl (by rw[cc];lia) ao) ?_);rw[show(ps.map λp:Nat=>U.int (p:Int))++[U.int (p:Int)]=(ps++[p]).map λp:Nat=>U.int (p:Int) by simp];exact ao
     obtain⟨c,b,a,u',d,g,j,L,a1,N,a3,O⟩:=pA q t v A hl n f V (ps++[p]) (a++[r.1]) u T (a5 (.loc,.int (p:Int))) o7 o8 (by rw[hY,nH];lia) ⋯ (by rw[hY,nH];lia) B ⋯ (λx Q=>C x (by simp[Q])) (D.snoc rfl h) k;exact⟨c,b,a,u',d,g,j,lV l J L,a1.up ⋯,N,a3,O⟩
   |inl x =>
    have e1:nI [(LH x:Str ⊕ Nat)]=0:=rfl;cases m with
    |word k =>
     have Q:x∈s.1:=C x (by simp);obtain⟨p,r,u1,b7,b8,q1,b1,b2,b3,b4,b5⟩:=An (Γ:=Γ) q t (u:=u) (w:=w) (x:=x) (V:=V) (ps:=ps) (o7:=o7) (o8:=o8) v A hl Q B ⋯ ⋯;have J:Run (execs Γ vB) (fw u rs s w (V++[LH x]) ps o6 o7 o8) .nx (fw u1 rs s w (V++[kr p]++(r.2.reverse.map LH)) ps (a5 (.loc,.str x)) b7 b8) :=
      au (st2:=fw u rs s w V ps (a5 (.loc,.str x)) o7 o8) I aF (bc (C3 (aa rfl) rfl) q1 ao)
     have X1:Dx rs P (V++[kr p]++(r.2.reverse.map LH)).reverse [w]:=by
      rw[QS,<-Sb,List.reverse_reverse,QS,Sx,SS];exact Dx.words (.place b1 (by rw[b2];exact k))
     have TU:nI (V++[kr p]++(r.2.reverse.map LH))=nI V+1:=by
      rw[tE,tE,rf];rfl
     obtain⟨c,b,a,u',d,g,j,L,a1,N,a3,O⟩:=pA q t v A hl n f (V++[kr p]++(r.2.reverse.map LH)) ps P u1 (T+1) (a5 (.loc,.str x)) b7 b8 ⋯ ⋯ (by simp;lia) b5 ⋯ (λy hy=>by
      rcases lk.mp hy with hy|hy
      ·rcases lk.mp hy with hy|hy
       ·exact C y (by simp[hy])
       ·rw[i3]at hy;cases hy
      ·obtain⟨z,hz,e⟩:=mh.mp hy;cases e;exact b3 _ (by simpa using hz)) D X1
     exact⟨c,b,a,u',d,g,j,lV l J L,a1.up ⋯,N,a3,O⟩
theorem rg:∀(l:List (Str ⊕ Nat)) (n:Nat),cX n (l.map Mo)=cb
 |[],n=>by simp[cX]
 |i::l,n=>by
  rw[ez,cX,rg l n];cases i<;>simp[Mo,IM]
def Ao(Γ:Tab):Prop:=∀(ws:List Str) (rs:List Row) (s:IB) (w:Str) (u:U) (T:Int),Kb ws rs s->(∀r∈rs,r.2.length<=8)->rs.length<=84->w∈s.1->Src T u->T+620<2 ^ 62->∃u',Src (T+620) u'/\(Γ "_law_drawn" [u,.tup (rs.map A'),cD s,.str w]=a5 (.ok (.loc,.tup [.HH,u']))\/∃ps:List Nat,Γ "_law_drawn" [u,.tup (rs.map A'),cD s,.str w]=a5 (.ok (.own,.tup [.lst (ps.map λp:Nat=>.int (p:Int)),u']))/\Wk rs [] ps [w]/\ps.length<310)
theorem CH(i:a_ Γ)(j:rb Γ)(k:Kb ws rs s)(l:∀r∈rs,r.2.length<=8)(hl:rs.length<=84)(m:w∈s.1)(c:Src T u)(y:T+620<2 ^ 62):
  ∃u',Src (T+620) u'/\(ft Γ Al [0] CG [u,.tup (rs.map A'),cD s,.str w]=a5 (.ok (.loc,.tup [.HH,u']))\/∃ps:List Nat,ft Γ Al [0] CG [u,.tup (rs.map A'),cD s,.str w]=a5 (.ok (.own,.tup [.lst (ps.map λp:Nat=>.int (p:Int)),u']))/\Wk rs [] ps [w]/\ps.length<310):=by
 have n:(1000:Nat)<=c6:=by decide
 obtain⟨W,ps,P,u',o6,o7,o8,q,a1,o,a3,t⟩:=pA i j k l hl 620 fuel [LH w] [] [] u T b6 b6 b6 rfl (by unfold fuel;lia) (by simp) c ⋯ (λx d=>by
  rw[i3]at d;cases d;exact m) .nil (.word .nil)
 have g:cM [0] [u,.tup (rs.map A'),cD s,.str w] Al.ns=[a5 (.io,u),a5 (.loc,.tup (rs.map A')),a5 (.any,cD s),a5 (.loc,.str w),b6,b6,b6,b6,b6]:=by
  obtain⟨_,_,_,rfl,_⟩:=c;show [a5 (Kd.io,_),a5 (if H_ (.tup (rs.map A'))=cb then Kd.loc else Kd.any,U.tup (rs.map A')),a5 (if H_ (cD s)=cb then Kd.loc else Kd.any,cD s),a5 (Kd.loc,U.str w),b6,b6,b6,b6,b6]=_;rw[ÿ (by show bU (rs.map A')=cb;exact aO rs),ā (by show ¬(cL=cb);decide)]
 have a:Run (HX Γ (.cmp .eq (.var 4) (.lst []))) (fw u' rs s w W ps o6 o7 o8) W.isEmpty (fw u' rs s w W ps o6 o7 o8):=by
  refine aM (av rfl) (bJ ah trivial aE (i8 _)) ∅ ?_;simp only[bZ];rw[ÿ ⟨by simp[IM,rg],by simp[IM,cX]⟩];cases W with
  |_=>simp[bV,cw]
 refine⟨u',a1,?_⟩;have go:∀{f:Fl} {st:aw},Run (execs Γ [.ret (.ite (.cmp .eq (.var 4) (.lst [])) (.var 5) (.cst .HH))]) (fw u' rs s w W ps o6 o7 o8) f st->Run (execs Γ CG) [a5 (.io,u),a5 (.loc,.tup (rs.map A')),a5 (.any,cD s),a5 (.loc,.str w),b6,b6,b6,b6,b6] f st:=λh =>
  au (bJ (ae (aa rfl) ah) trivial (aA aH aE) (by show 1<=c6;lia)) aY (au (st2:=fw u rs s w [LH w] [] b6 b6 b6) (bJ ah trivial aE (i8 _)) aY (m9 q h))
 cases b:W.isEmpty with
 |true =>
  rw[b]at a;have e:W=[]:=by simpa using b
  subst e;have v:P=[w]:=by cases t;rfl
  subst v;exact .inr ⟨ps,bO (f:=.rt .own (.lst (ps.map λp:Nat=>.int (p:Int)))) rfl g (go (bN (yW a (av rfl)) (gw rfl))) rfl rfl,a3,o⟩
 |false =>
  rw[b]at a;exact .inl (bO (f:=.rt .loc .HH) rfl g (go (bN (yX a ai) fL)) rfl rfl)
theorem G3(a:a_ (HW Pg d))(b:rb (HW Pg d))(h:IH Pg "_law_drawn" Al):Ao (HW Pg (d+1)):=λws rs s w u T c e hl f g i=>by
 rw[cu h _ rfl];exact CH a b c e hl f g i
theorem pB(f:oZ Γ)(g:lz Γ)(h:zF Γ){ns:List Int}(l:ns.length<1000)(b:Src 0 u):
  ∃(ws:List Str) (rs:List Row) (a:List Int) (u':U),Run (ev Γ (.HF "_law_widened" [.var 3,.HF "_law_book" [.var 1,.var 3,.HF "_law_words" [.var 3] [0]] [0,1]] [0])) (o0::a5 (.own,.lst (ns.map .int))::o2::a5 (.own,u)::rest) (.loc,.tup (rs.map A')) (o0::a5 (.own,.lst (a.map .int))::o2::a5 (.own,u')::rest)/\ws.length<=24/\(∀r∈rs,ba ws r)/\rs.length<=84:=by
 obtain⟨ws,B,m,C,c,s1⟩:=f 0 u b ⋯;obtain⟨us,rfl,n⟩:=b.lst;obtain⟨d,rfl,o⟩:=s1.lst;have p:=gT (Γ:=Γ) (st:=o0::a5 (.own,.lst (ns.map .int))::o2::a5 (.own,.lst us)::rest) (i:=3) (es:=[]) (k0:=.own) (k:=.own) rfl rfl ah rfl rfl n rfl m (.inl rfl);obtain⟨rs,a,D,q,s,t,G,s2⟩:=g ns (.lst d) ws _ s1 ⋯ l ⋯ ⋯;obtain⟨e,rfl,v⟩:=s2.lst;have w:=Cu (Γ:=Γ) (st:=o0::a5 (.own,.lst (ns.map .int))::o2::a5 (.own,.lst us)::rest) (st1:=o0::a5 (.own,.lst (ns.map .int))::o2::a5 (.own,.lst d)::rest) (i:=1) (j:=3) (k0:=.own) (k:=.own) (k0':=.own) (k':=.own) (rs:=[(.own,.lst (ws.map .str))]) ⋯ rfl rfl rfl rfl (ae p ah) rfl rfl (fV ns) rfl rfl o rfl q (.inr rfl);obtain⟨x,H,y,b3,z,s3⟩:=h _ (.lst e) ws rs s2 ⋯ c s.1 t;obtain⟨A,rfl,I⟩:=s3.lst;exact⟨ws,x,a,.lst A,gT (Γ:=Γ) (st:=o0::a5 (.own,.lst (ns.map .int))::o2::a5 (.own,.lst us)::rest) (st1:=o0::a5 (.own,.lst (a.map .int))::o2::a5 (.own,.lst e)::rest) (i:=3) (k0:=.own) (k:=.own) (rs:=[(.loc,.tup (rs.map A'))]) rfl rfl (ae w ah) rfl rfl v rfl y (.inr rfl),c,b3,z⟩
noncomputable def vC : List S :=
        [.ite (.or [.not (.call "_law_walked" [.var 4,.var 10,.var 9]),.cmp .lt (.bi .len [.var 10]) (.idx (.var 7) (.var 9))])
          [.ret (.cst (.bl cL))]
          [],
        .set 11 (.call "reading" [.var 4,.var 9]),
        .ite (.or [.not (.call "_law_walked" [.var 4,.var 11,.var 9]),.cmp .ne (.bi .len [.var 11]) (.idx (.var 7) (.var 9))])
          [.ret (.cst (.bl cL))]
          []]
noncomputable def pC:List S :=
   [.set 9 (.idx (.var 6) (.HF "_law_draw" [.var 2,.bi .len [.var 6]] [0])),
   .set 10 (.HF "_law_drawn" [.var 2,.var 4,.var 5,.var 9] [0]),
   .ite (.cmp .Mc (.var 10) (.cst .HH)) vC
    []]
noncomputable def tF:Fn:=⟨"law",1,12,[.set 1 (.LN .JA [.KZ (.var 0) [] [.cst (.int 200)]]),.set 2 (.HF "_law_source" [.var 1,.cst (.int 2)] [0]),.set 3 (.HF "_law_source" [.var 1,.cst (.int 1)] [0]),.set 4 (.HF "_law_widened" [.var 3,.HF "_law_book" [.var 1,.var 3,.HF "_law_words" [.var 3] [0]] [0,1]] [0]),.set 5 (.call "_law_rank" [.var 4]),.set 6 (.bi .sorted [.var 5]),.set 7 (.bi .dict [.call "prices" [.var 4]]),.ite (.cmp .ne (.bi .sorted [.var 7]) (.var 6)) [.ret (.cst (.bl cL))] [],.Ia cL [8] .Jl [.bi .min [.cst (.int 3),.bi .len [.var 6]]] pC,.ret (.cst (.bl cb))]⟩
section
noncomputable def gU(a0 a1 a3:Option (Kd×U))(u:U)(rs:List Row)(sr s:IB)(a:List Str)(o8 o9 o10 o11:Option (Kd×U)):aw:=[a0,a1,a5 (.own,u),a3,a5 (.loc,.tup (rs.map A')),a5 (.own,cD sr),a5 (.own,.lst ((aJ s.1).map .str)),a5 (.own,.HE a (a.map λx=>.int (s.2 x))),o8,o9,o10,o11]
theorem Ap(e:a.Perm s.1)(f:pk Γ)(l:pw Γ)(h:Bk ws rs s)(es:lim rs fuel s0=s)(d:w∈s.1)(g:Wk rs [] ps [w])(hl:ps.length<310):∃m,Run (execs Γ vC) (gU a0 a1 a3 u rs sr s a o8 (a5 (.loc,.str w)) (a5 (.own,.lst (ps.map λp:Nat=>.int (p:Int)))) o11) .nx (gU a0 a1 a3 u rs sr s a o8 (a5 (.loc,.str w)) (a5 (.own,.lst (ps.map λp:Nat=>.int (p:Int)))) m):=by
 have b:=g.least h.Tr (λx n=>by cases n);simp only[Km,List.sum_nil,M1,Rk]at b;subst es;obtain⟨i,o,q,r⟩:=l ws rs w h d ⋯;generalize lim rs fuel s0=s at h d b r e;have t:w∈a:=e.mem_iff.mpr d;have j:∀{k:Kd},d7 (k,.HE a (a.map λx=>.int (s.2 x))) (.str w)=a5 (kE k,.int (s.2 w)):=λ{k}=>by show(cE _ _ w).map _=_;rw[eL t];rfl
 refine⟨a5 (.own,.lst (i.map λp:Nat=>.int (p:Int))),?_⟩;refine bc (yZ (qz (uN (c:=cb) (sD (ae (aa rfl) (ae (av rfl) (ae (aa rfl) ah))) ⟨⟨.own,rfl,rfl⟩,trivial⟩ (f rs ps w g ⋯) rfl)) (qy (aM (c:=cL) (y:=(.loc,.int (s.2 w))) (bC (ae (av rfl) ah) ∅ bt) (aI (av rfl) (aa rfl) ∅ j) trivial (k_ (by simp;lia)))))) ao ?_;refine au (bI (ae (aa rfl) (ae (aa rfl) ah)) trivial o) aY ?_;exact bc (yZ (qz (uN (c:=cb) (sD (ae (aa rfl) (ae (av rfl) (ae (aa rfl) ah))) ⟨⟨.own,rfl,rfl⟩,trivial⟩ (f rs i w q ⋯) rfl)) (qy (aM (c:=cL) (y:=(.loc,.int (s.2 w))) (bC (ae (av rfl) ah) ∅ bt) (aI (av rfl) (aa rfl) ∅ j) trivial (sY (by simp;lia)))))) ao ao
theorem wX(o:a.Perm s.1)(t:a_ Γ)(y:Ao Γ)(z:pk Γ)(A:pw Γ)(h:Bk ws rs s)(es:lim rs fuel s0=s)(B:Kb ws rs sr)(C:∀x,x∈sr.1↔x∈s.1)(D:Src T u)(hT:T+1000<2 ^ 62)(hn:0<s.1.length):
  ∃u' G H d,Run (execs Γ pC) (gU a0 a1 a3 u rs sr s a o8 o9 o10 o11) .nx (gU a0 a1 a3 u' rs sr s a o8 G H d)/\Src (T+1000) u':=by
 have Ob:=h.inv.1.len;have KD:=h.wl;obtain⟨n,c,I,J,f,s1⟩:=cW (st:=gU a0 a1 a3 u rs sr s a o8 o9 o10 o11) t (i:=2) (k:=.own) (e:=.bi .len [.var 6]) (m:=(((aJ s.1).map U.str).length:Nat)) rfl rfl (bC (ae (av rfl) ah) ∅ bt) D ⋯ (by rw[cc,bT];lia) (by rw[cc,bT];lia);rw[cc]at f;obtain⟨w,L,_,N⟩:=jP J f;have g:w∈s.1:=(bH _).mem_iff.mp L;have j:Run (ev Γ (.idx (.var 6) (.HF "_law_draw" [.var 2,.bi .len [.var 6]] [0]))) (gU a0 a1 a3 u rs sr s a o8 o9 o10 o11) (.loc,.str w) (gU a0 a1 a3 c rs sr s a o8 o9 o10 o11):=aI (av rfl) I ∅ (cz (k:=.bor 6) N);obtain⟨b,s2,O⟩:=y ws rs sr w c _ B (λr Q=>(h.ok r Q).2.2.2) h.rl ((C w).mpr g) s1 ⋯;have Mu:∀{k:Kd} {v:U},(k=.own\/k=.loc)->Γ "_law_drawn" [c,.tup (rs.map A'),cD sr,.str w]=a5 (.ok (k,.tup [v,b]))->Run (ev Γ (.HF "_law_drawn" [.var 2,.var 4,.var 5,.var 9] [0])) (gU a0 a1 a3 c rs sr s a o8 (a5 (.loc,.str w)) o10 o11) (k,v) (gU a0 a1 a3 b rs sr s a o8 (a5 (.loc,.str w)) o10 o11):=λ{k v} hk e=>by
  obtain⟨b1,l,b3,rfl,_,_⟩:=s1;obtain⟨Y,d2,d3,rfl,_,_⟩:=s2;refine oP (rs:=[(.bor 2,d9 b1 l b3),(.loc,.tup (rs.map A')),(.bor 5,cD sr),(.loc,.str w)]) (ws:=[d9 Y d2 d3]) (st1:=gU a0 a1 a3 (d9 b1 l b3) rs sr s a o8 (a5 (.loc,.str w)) o10 o11) (ae (av rfl) (ae (aa rfl) (ae (av rfl) (ae (aa rfl) ah)))) ?_ e hk ?_ ?_
  ·exact⟨⟨.own,rfl,rfl⟩,⟨.own,rfl,rfl⟩,trivial⟩
  ·rfl
  ·rfl
 rcases O with e|⟨ps,e,wk,hl⟩
 ·refine⟨b,a5 (.loc,.str w),a5 (.loc,.HH),o11,?_,s2.up ⋯⟩;exact au j aF (au (Mu (.inr rfl) e) aF (bc (aM (aa rfl) ai trivial rfl) ao ao))
 ·obtain⟨d,q⟩:=Ap (Γ:=Γ) (a0:=a0) (a1:=a1) (a3:=a3) (sr:=sr) o z A h es (u:=b) (o8:=o8) (o11:=o11) g wk hl;refine⟨b,a5 (.loc,.str w),a5 (.own,.lst (ps.map λp:Nat=>.int (p:Int))),d,?_,s2.up ⋯⟩;exact au j aF (au (Mu (.inl rfl) e) aY (cy (aM (av rfl) ai ∅ rfl) q ao))
end
theorem wY(o:iF Γ)(B:oZ Γ)(C:lz Γ)(D:zF Γ)(G:Ag Γ)(H:pf Γ)(I:a_ Γ)(J:Ao Γ)(L:pk Γ)(N:pw Γ){ns:List Int}(hn:ns.length<=63):cR Γ tF [.lst (ns.map .int)]=a5 (.ok (.loc,.bl cb)):=by
 have p:qe .JA [(.own,.lst ((cut ns b6 (a5 200)).map .int))]=a5 (.own,.lst ((cut ns b6 (a5 200)).reverse.map .int)):=by
  show(if dw .own ((cut ns b6 (a5 200)).map U.int)=cb then a5 (Kd.own,U.lst ((cut ns b6 (a5 200)).map U.int).reverse) else b6)=_;rw[ÿ (show dw .own ((cut ns b6 (a5 200)).map U.int)=cb from rfl),Sb]
 have g:(cut ns b6 (a5 200)).reverse.length<=63:=by rw[Ot];have:=B6 ns b6 (a5 200);lia
 generalize (cut ns b6 (a5 200)).reverse=O at p g;obtain⟨Q,j,T,l2,s2⟩:=qW (Γ:=Γ) o (ns:=O) (rest:=[b6,b6,b6,b6,b6,b6,b6,b6,b6,b6]) (o0:=a5 (.any,.lst (ns.map .int))) (k:=2);obtain⟨Y,u3,q3,l3,s3⟩:=qW (Γ:=Γ) o (ns:=Q) (rest:=[a5 (.own,j),b6,b6,b6,b6,b6,b6,b6,b6,b6]) (o0:=a5 (.any,.lst (ns.map .int))) (k:=1);obtain⟨ws,rs,e,f,q4,m,n,l4⟩:=pB (Γ:=Γ) B C D (ns:=Y) (rest:=[b6,b6,b6,b6,b6,b6,b6,b6]) (o0:=a5 (.any,.lst (ns.map .int))) (o2:=a5 (.own,j)) ⋯ s3;obtain⟨sr,e5,v,kn⟩:=G ws rs m n;obtain⟨a,l,w⟩:=H ws rs m n;have h:=Bk.of m l4 n;obtain⟨s,es⟩:∃s,lim rs fuel s0=s:=⟨_,rfl⟩
 rw[es]at w h l;have z:=kn.perm h.kn;have Tw:∀x,x∈sr.1↔x∈s.1:=λx=>z.mem_iff;have PH:aJ sr.1=aJ s.1:=dR z;have Ob:=h.inv.1.len;have YI:=v.ks.len;have HR:a.Nodup:=l.nodup_iff.mpr h.inv.1.1;have Tz:JJ .min [(.loc,.int 3),(.loc,.int (((aJ s.1).map U.str).length:Nat))]=a5 (.loc,.int ((min 3 s.1.length:Nat):Int)):=by
  rw[cc,bT];show a5 (Kd.loc,U.int (if cb=cb then(if ((s.1.length:Nat):Int)<3 then((s.1.length:Nat):Int) else 3) else _))=_;rw[ÿ rfl];congr 3
  split<;>lia
 obtain⟨st',hf,b,o8,o9,o10,o11,rfl,A,_⟩:=cj (rs:=[(.loc,.int ((min 3 s.1.length:Nat):Int))]) (t:=cL) (is:=[8]) (body:=execs Γ pC) (λi:Nat=>(Kd.loc,U.int (0+(i:Int)))) (λd q st=>∃(b:U) (o8 o9 o10 o11:Option (Kd×U)),st=gU (a5 (.any,.lst (ns.map .int))) (a5 (.own,.lst (e.map .int))) (a5 (.own,f)) b rs sr s a o8 o9 o10 o11/\Src (1000 * (d.length:Nat)) b/\d.length+q.length=min 3 s.1.length)
  (λd r st _=>trivial) (λd y r st hh=>by
   obtain⟨b,o8,o9,o10,o11,rfl,A,t5⟩:=hh;simp only[ko]at t5;obtain⟨u6,a9,YJ,YK,q,s6⟩:=wX (Γ:=Γ) (a0:=a5 (.any,.lst (ns.map .int))) (a1:=a5 (.own,.lst (e.map .int))) (a3:=a5 (.own,f)) l I J L N h es v Tw (u:=b) A ⋯ ⋯ (o8:=a5 (.loc,.int (0+(y:Int)))) (o9:=o9) (o10:=o10) (o11:=o11);exact⟨gU (a5 (.any,.lst (ns.map .int))) (a5 (.own,.lst (e.map .int))) (a5 (.own,f)) b rs sr s a (a5 (.loc,.int (0+(y:Int)))) o9 o10 o11,_,aF,q,u6,_,_,_,_,rfl,s6.up (by simp;lia),by simp;lia⟩) (i1 (min 3 s.1.length)) [] (gU (a5 (.any,.lst (ns.map .int))) (a5 (.own,.lst (e.map .int))) (a5 (.own,f)) j rs sr s a b6 b6 b6 b6) ⟨j,b6,b6,b6,b6,rfl,by simpa using s2,by simp⟩
 refine bx (st0:=[a5 (.any,.lst (ns.map .int)),b6,b6,b6,b6,b6,b6,b6,b6,b6,b6,b6]) rfl (.inr rfl) rfl (st:=gU (a5 (.any,.lst (ns.map .int))) (a5 (.own,.lst (e.map .int))) (a5 (.own,f)) b rs sr s a o8 o9 o10 o11) (au (uL (ae (kZ (aR rfl) mZ (jq ai) trivial (y9 (by show bU _=cb;exact fV ns))) ah) trivial p) aY (au T aY (au q3 aY (au q4 aF (au (bI (ae (aa rfl) ah) trivial e5) aY ?_)))));refine au (r:=(.own,.lst ((aJ s.1).map .str))) (bC (ae (av rfl) ah) ∅ ?_) aY (au (st2:=gU (a5 (.any,.lst (ns.map .int))) (a5 (.own,.lst (e.map .int))) (a5 (.own,f)) j rs sr s a b6 b6 b6 b6) (bC (ae (bI (ae (aa rfl) ah) trivial w) ah) trivial (pq s.2 HR)) aY ?_)
 ·show(if sr.1.length<64 then a5 (Kd.own,U.lst ((aJ sr.1).map .str)) else b6)=_;rw[ÿ ⋯,PH]
 refine bc (aM (c:=cL) (x:=(.own,.lst ((aJ s.1).map .str))) (bC (ae (av rfl) ah) ∅ ?_) (av rfl) ∅ (nh (fb _ 49))) ao ?_
 ·show(if a.length<64 then a5 (Kd.own,U.lst ((aJ a).map .str)) else b6)=_;rw[ÿ (by rw[l.length_eq];lia),dR l]
 exact cV (rs:=[(.loc,.int ((min 3 s.1.length:Nat):Int))]) (ae (bC (ae ai (ae (bC (ae (av rfl) ah) ∅ bt) ah)) trivial Tz) ah) trivial (gQ ⋯) rfl hf (bN ai fL)
end TM
namespace K
open PySem L2 TM
noncomputable def top(i:Nat):Qj:=PySem.Challenge.pw_primer_k24_whole_no_shorter_reading.main.body.getD i (.Pass ⟨0,0,0,0⟩)
noncomputable abbrev lB:Fn:=TM.sI
noncomputable abbrev dc:Fn:=KL.dc
noncomputable abbrev eN:Fn:=TM.z_
noncomputable abbrev bf:Fn:=KL.bf
noncomputable abbrev cQ:Fn:=KL.cQ
noncomputable abbrev bh:Fn:=KL.bh
noncomputable abbrev ff:Fn:=KL.ff
noncomputable abbrev eM:Fn:=KL.eM
noncomputable abbrev dY:Fn:=TM.Aa
noncomputable abbrev jt:Fn:=TM.vg
noncomputable abbrev dr:Fn:=TM.Cp
noncomputable abbrev rh:Fn:=TM.jT
noncomputable abbrev ju:Fn:=TM.ph
noncomputable abbrev nE:Fn:=TM.Ad
noncomputable abbrev iK:Fn:=TM.zb
noncomputable abbrev lC:Fn:=TM.uY
noncomputable abbrev jv:Fn:=TM.lx
noncomputable abbrev nF:Fn:=TM.E_
noncomputable abbrev nG:Fn:=TM.Cc
noncomputable abbrev lD:Fn:=TM.oY
noncomputable abbrev jw:Fn:=TM.s_
noncomputable abbrev iL:Fn:=TM.zU
noncomputable abbrev lE:Fn:=TM.Ae
noncomputable abbrev gy:Fn:=TM.Fj
noncomputable abbrev jx:Fn:=TM.Al
noncomputable abbrev nJ:Fn:=TM.Fd
noncomputable abbrev gz:Fn:=TM.Cm
noncomputable abbrev Dd:Fn:=TM.tF
noncomputable def prog:List Fn:=[lB,dc,eN,bf,cQ,bh,ff,eM,dY,jt,dr,rh,ju,nE,iK,lC,jv,nF,nG,lD,jw,iL,lE,gy,jx,nJ,gz,Dd]
noncomputable def ck:Ck:=⟨(prog.filter λf=>f.io.isNone).map (·.name),[("DEAREST_READ",(.int 2000))],prog.filterMap λf=>f.io.map λp=>(f.name,p.1)⟩
theorem X9:U9 prog:=⟨⟨rfl,rfl,rfl,rfl,rfl,rfl⟩,rfl,rfl,rfl,rfl,rfl,rfl,rfl,rfl⟩
theorem pure(ns:List Int)(c:ns.length<=63):HW prog 8 "law" [su ns]=a5 (.ok (.loc,.bl cb)):=by
 have b:IH prog "_law_draw" uY:=rfl;have hs:IH prog "_law_source" zb:=rfl;have d:IH prog "_law_whole" s_:=rfl;have e:a_ (HW prog 5):=sO b;have a:a_ (HW prog 6):=sO b;have hl:IH prog "law" tF:=rfl;rw[show HW prog 8 "law" [su ns]=_ from aX hl [su ns]];exact wY (zm hs) (Ce a rfl) (zM (zm hs) a (GV e rfl) (GX rfl) rfl) (G0 a (GY rfl) rfl) (Fi rfl) (vn (zL (sZ rfl) rfl) rfl) (sO b) (G3 a (G2 rfl) rfl) (Fg (Cv d) rfl) (Fh X9 0) c
end K
namespace K
open PySem L2 TM PySem.W PyProof.Rows
noncomputable def m0:dt:=.str "primer.books" 255
noncomputable def m1:dt:=.str "primer.learning" 284
noncomputable def m2:dt:=.str "primer.prices" 333
noncomputable def m3:dt:=.str "primer.readings" 359
noncomputable def m4:dt:=.str "law_primer_k24_whole_no_shorter_reading" 375
noncomputable def ml:Me:=⟨Dd,38,["_law_script","_law_left","_law_query","_law_source_here","_law_book_here","_law_rank_here","_law_some","_law_costs","_law_turn","_law_word","_law_drawn_here","_law_found"],237,236,m4,co "law" 504 226 1 231 232 (.ref 233) (.ref 234) (.ref 235) 519 520 181⟩
noncomputable def ms:List Me:=[⟨lB,6,["book","words","row"],70,69,m0,co "words_of" 257 11 1 64 65 (.ref 66) (.ref 67) (.ref 68) 263 264 181⟩,
 ⟨dc,7,["pairs","found","key","value"],77,76,m0,co "gathered" 266 17 1 71 72 (.ref 73) (.ref 74) (.ref 75) 273 274 181⟩,
 ⟨eN,8,["book","words"],84,83,m0,co "refuse_unknown" 276 24 2 78 79 (.ref 80) (.ref 81) (.ref 82) 281 282 181⟩,
 ⟨bf,10,["book","pairs","place","row"],89,88,m1,co "places_that_tell" 286 28 1 85 86 .none .none (.ref 87) 289 290 181⟩,
 ⟨cQ,11,["book","places","known","steps","place","word"],96,95,m1,co "new_steps" 292 33 3 90 91 (.ref 92) (.ref 93) (.ref 94) 301 302 181⟩,
 ⟨bh,12,["book","tellers","missing","known","found","ready","steps","word","place","teller"],101,100,m1,co "steps_in_rounds" 304 40 1 97 98 .none .none (.ref 99) 307 308 181⟩,
 ⟨ff,13,["book","found","steps"],108,107,m1,co "order" 310 58 1 102 103 (.ref 104) (.ref 105) (.ref 106) 316 317 181⟩,
 ⟨eM,14,["book"],113,112,m1,co "learnt" 319 63 1 109 110 .none .none (.ref 111) 322 323 181⟩,
 ⟨dY,15,["book","word"],120,119,m1,co "refuse_unlearnt" 325 65 2 114 115 (.ref 116) (.ref 117) (.ref 118) 330 331 181⟩,
 ⟨jt,17,["row","found"],125,124,m2,co "row_price" 335 69 2 121 122 .none .none (.ref 123) 338 339 181⟩,
 ⟨dr,18,["book","found","fallen","place","row","price"],130,129,m2,co "prices_and_places" 341 71 1 126 127 .none .none (.ref 128) 344 345 181⟩,
 ⟨rh,19,["book"],135,134,m2,co "prices" 347 83 1 131 132 .none .none (.ref 133) 350 351 181⟩,
 ⟨ju,20,["book"],140,139,m2,co "best_rows" 353 85 1 136 137 .none .none (.ref 138) 356 357 181⟩,
 ⟨nE,23,["book","word","places","backward","waiting","place"],147,146,m3,co "reading" 363 89 2 141 142 (.ref 143) (.ref 144) (.ref 145) 372 373 181⟩,
 ⟨iK,25,["_law_left","_law_k","_law_cell"],154,153,m4,co "_law_source" 377 103 2 148 149 (.ref 150) (.ref 151) (.ref 152) 383 384 181⟩,
 ⟨lC,26,["_law_source_here","_law_many","_law_number","_law_turn","_law_mixed"],161,160,m4,co "_law_draw" 386 108 2 155 156 (.ref 157) (.ref 158) (.ref 159) 394 395 181⟩,
 ⟨jv,27,["_law_source_here","_law_letters","_law_many","_law_base","_law_way","_law_size","_law_first","_law_words_here","_law_k","_law_word","_law_sense"],166,165,m4,co "_law_words" 397 117 1 162 163 .none .none (.ref 164) 400 401 181⟩,
 ⟨nF,28,["_law_source_here","_law_words_here","_law_at","_law_below","_law_told","_law_k","_law_one"],173,172,m4,co "_law_row" 403 138 4 167 168 (.ref 169) (.ref 170) (.ref 171) 413 414 181⟩,
 ⟨nG,29,["_law_rows","_law_row_here","_law_other"],180,179,m4,co "_law_lay" 416 147 2 174 175 (.ref 176) (.ref 177) (.ref 178) 422 423 181⟩,
 ⟨lD,30,["_law_left","_law_source_here","_law_words_here","_law_rows","_law_way","_law_k","_law_at","_law_more"],187,186,m4,co "_law_book" 425 152 3 181 182 (.ref 183) (.ref 184) (.ref 185) 436 437 181⟩,
 ⟨jw,31,["_law_found"],194,193,m4,co "_law_whole" 439 164 1 188 189 (.ref 190) (.ref 191) (.ref 192) 443 444 181⟩,
 ⟨iL,32,["_law_book_here","_law_places","_law_word","_law_pile","_law_place","_law_one","_law_told","_law_many"],201,200,m4,co "_law_walked" 446 166 3 195 196 (.ref 197) (.ref 198) (.ref 199) 457 458 181⟩,
 ⟨lE,33,["_law_book_here","_law_rank_here","_law_fell","_law_word","_law_told"],206,205,m4,co "_law_rank" 460 177 1 202 203 .none .none (.ref 204) 463 464 181⟩,
 ⟨gy,34,["_law_book_here","_law_rank_here","_law_word","_law_some","_law_place"],211,210,m4,co "_law_fitting" 466 187 3 207 208 .none .none (.ref 209) 469 470 181⟩,
 ⟨jx,35,["_law_query","_law_book_here","_law_rank_here","_law_word","_law_waiting","_law_places","_law_one","_law_some","_law_place"],218,217,m4,co "_law_drawn" 472 194 4 212 213 (.ref 214) (.ref 215) (.ref 216) 484 485 181⟩,
 ⟨nJ,36,["_law_book_here","_law_met","_law_word","_law_told","_law_one"],225,224,m4,co "_law_all" 487 207 1 219 220 (.ref 221) (.ref 222) (.ref 223) 495 496 181⟩,
 ⟨gz,37,["_law_source_here","_law_book_here","_law_share","_law_heads","_law_pool","_law_more","_law_k","_law_word"],230,229,m4,co "_law_widened" 498 214 2 226 227 .none .none (.ref 228) 501 502 181⟩,
 ml]
noncomputable def gg(P:Zm):Obj:=⟨.type "dict",b6,.dict #[ge P "__name__" 165 (.str "law_primer_k24_whole_no_shorter_reading" 375),ge P "__doc__" 166 .none,ge P "__package__" 167 .none,ge P "__loader__" 168 (.builtin "__main__.__loader__#opaque"),ge P "__spec__" 169 .none,ge P "__annotations__" 170 (.ref 6),ge P "__builtins__" 171 (.ref 4),ge P "__file__" 173 (.str "/claim/cut.py" 172),ge P "__cached__" 174 .none,ge P "PrimerError" 206 (.ref 24),ge P "Unknown" 222 (.ref 37),ge P "Unlearnt" 238 (.ref 49),ge P "TooMany" 254 (.ref 61),ge P "words_of" 265 (.ref 70),ge P "gathered" 275 (.ref 77),ge P "refuse_unknown" 283 (.ref 84),ge P "places_that_tell" 291 (.ref 89),ge P "new_steps" 303 (.ref 96),ge P "steps_in_rounds" 309 (.ref 101),ge P "order" 318 (.ref 108),ge P "learnt" 324 (.ref 113),ge P "refuse_unlearnt" 332 (.ref 120),ge P "row_price" 340 (.ref 125),ge P "prices_and_places" 346 (.ref 130),ge P "prices" 352 (.ref 135),ge P "best_rows" 358 (.ref 140),ge P "DEAREST_READ" 362 (.int 2000 361),ge P "reading" 374 (.ref 147),ge P "_law_source" 385 (.ref 154),ge P "_law_draw" 396 (.ref 161),ge P "_law_words" 402 (.ref 166),ge P "_law_row" 415 (.ref 173),ge P "_law_lay" 424 (.ref 180),ge P "_law_book" 438 (.ref 187),ge P "_law_whole" 445 (.ref 194),ge P "_law_walked" 459 (.ref 201),ge P "_law_rank" 465 (.ref 206),ge P "_law_fitting" 471 (.ref 211),ge P "_law_drawn" 486 (.ref 218),ge P "_law_all" 497 (.ref 225),ge P "_law_widened" 503 (.ref 230),ge P "law" 521 (.ref 237)] 42,#[]⟩
noncomputable def vw:H8:=view PySem.Challenge.pw_primer_k24_whole_no_shorter_reading [6,7,8,10,11,12,13,14,15,17,18,19,20,23,25,26,27,28,29,30,31,32,33,34,35,36,37,38]
noncomputable def hk:Hook:=kHook (λP=>Ky top (gg P) ms) (adr ms) λP=>uK top (gg P) ms
theorem hl:LeftO PySem.Challenge.rw_primer_k24_whole_no_shorter_reading.row.prog vw ["PrimerError","Unknown","Unlearnt","TooMany","DEAREST_READ"] (λs=>xlAt vw [] s&&recOk (RowW.records PySem.Challenge.rw_primer_k24_whole_no_shorter_reading.row.toRowW) s) hk.obs hk.val 4000:=λw=>by kernel_rfl
theorem hs:PySem.Challenge.rw_primer_k24_whole_no_shorter_reading.wellSaid=cb:=by kernel_rfl
theorem ho(P:Zm):MN ck top (Ky top (gg P) ms) ms=cb:=by kernel_rfl
end K
open PySem PySem.W PyProof.Rows K
theorem PySem.Challenge.cw_primer_k24_whole_no_shorter_reading_holds : PySem.Challenge.rw_primer_k24_whole_no_shorter_reading.Holds := by
 w_on
 refine holds_law hs λz => ?_;refine holds_open hl hk.of hk.keeps (λs e => xl_of s (u5.mp e).1) XL.keeps rfl rfl rfl (λs e => recFacts_of (u5.mp e).2) rfl z (by kernel_rfl) ⟨rfl, rfl, rfl, rfl, rfl, by decide +kernel⟩ ?hw ?a
 (case hw => w_witness2)
 exact TM.walk2 (l := PySem.Challenge.rw_primer_k24_whole_no_shorter_reading) (Pg := prog) (ck := ck) (dp := 7) (x := "_law_script") (m := ml) rfl rfl ⟨rfl, by decide, by decide, rfl⟩ rfl (by decide +kernel) (by decide +kernel) rfl (by simp [ms]) rfl rfl ho K.pure
