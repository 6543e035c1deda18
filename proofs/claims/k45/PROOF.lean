import PyProof.Rows.All
import Wide.All
import OpenK.AllK
import Wide.FinOn
import Lean
import PyProof.EqAt
import PyProof.EqKinds
import PyProof.TupleCall
import PyProof.StrLawsChain
import PyProof.StrLawsFirst
import PyProof.Rows.StrNews2
import OpenK.AllK
import PySem.SetOps
import OpenK.AllK
import PyProof.DictValues
import PyProof.DictItems
import OpenK.AllK
import PyProof.ReprBulk
import PySem.Challenge.RW_primer_k45_fewest_of_all
set_option Elab.async false
set_option linter.all false
set_option bootstrap.genMatcherCode false
set_option maxRecDepth 100000
set_option maxHeartbeats 4000000
set_option genInjectivity false
set_option genSizeOf false
set_option autoImplicit true
set_option relaxedAutoImplicit true
open Option renaming some->bD,none->cb,map_eq_some_iff->gj,bind_eq_some_iff->rz,isNone_iff_eq_none->Pb,isSome_iff_exists->Pt,map_eq_none_iff->PV,map_some->P6,isSome_map->R0,getD_some->Xg,getD_none->Xh
open PySem renaming wpAny_bind->b5,sizeLine->df,wpAny_pure->dV,Value->d3,wpAny->et,Shared->hh,model->hE,Addr->hH,starEach->i5,wpAny_setState_of->l0,Expr->my,wpAny_mono->tj,wpAny_holding->tr,wpAny_Call_Name_kw->u3,rawInt->u6,eval->vr,wpAny_newObj_type->vu,Program->wh,scanBound->GL,World->G1,bootBuiltins->G8,backTo->Ht,mainGlobals->HA,wpAny_call_entry->H0,Heap->Ic,wpAny_truthy_bool->IL,cLine->Jq,codeAny_builtin->JO,keywordEach->JQ,foldedSetIterable->JR,holding->Ko,wpAny_setField->KX,Scope->K1,sysModules->Li,wpAny_passesOwn->Lq,Stmt->Ly,builtinLookup_eq_fast->LQ,Around->LU,Keyword->LZ,Builtin->L0,wpAny_rule->Md,binaryOp->Mh,SetTable->Mn,NameKind->ML,wpAny_isInstance->MO,call->MR,wpAny_pyIter_tuple->Nj,tupleKind_room_in1->Nm,assignEach->Nn,wpAny_getItem_str_slice->Nv,wpAny_callSpecial?_slot->Nw,compareOp->Ny,backToKw->NY,wpAny_askSetting->Om,swapsWith->Oz,swapsWithSole->OS,codeAny->OU,behindInMarks->O0,sliceBounds->O1,wpAny_updateSeq->Pd,typeLookup_type->Pe,wpAny_setEntries_of->Ph,isSubtype_type->PN,assign->PR,FuncData->PU,wpAny_pyIter_list->Qh,plainId_quiet->Ql,attributeBase->Qm,wpAny_Call_method0_late->QB,setItem->QY,relabel->QZ,pyNext->Q0,codeAny_mono->Q1,callerA->Q2,call_meets->Q7,wpAny_specialOf->Rv,wpAny_loadPart'->Rw,post_val_or_str->Rx,letOwnedTupleGo->RC,wpAny_seqItems->R4,wpAny_field->R9,firstArgMember->R',tupleKind->Sm,notedBy->Sq,swappedStores->SD,typeLookup->SW,wpAny_typeOf->TL,wpAny_storeSet_of->TN,wpAny_setEpoch_of->TR,wpAny_pyIter_enum->TU,valueAt->TV,sub_set_self->TX,setNext->TY,setField->TZ,release->T7,getItem->T9,fits_of_scanBound->T_,concat_meets->T',compEnvC->Uc,call_meetsIn->Ur,seqIndex?->U3,pickOrder->U',noFill_tuple_add->Va,isSubtype->Vc,PassesOwn->Ve,wpAny_of_eq->Vp,unsupported->Vr,subscripted->VD,wpAny_execs_nil->V_,standAt->Wc,wpAny_runValue->Wo,relayAll->Wq,raiseNew->Wr,pyIter->Wt,entryFor_alias->Wu,atKey->Wv,wpAny_standAt->WK,wpAny_newList->WL,wpAny_comprehension_free->WM,seq_tuple_add->WN,seqItems?->Xa,bindL->Xb,bindC->Xc,wpAny_Call_method_late->Xn,setNextDrawn->Xo,newExc->Xp,collect->Xq,Params->Xu,IsEnum->Xv,BindsTo->Xx,wpAny_isTrue_Compare1->XF,wpAny_loadName_local->XQ,step->XR,seqIndex_of->XS,entryFor->XT,codeAny_extend_loopS->XU,Operator->XW,GenState->XX,wpAny_loadName_cell->X8,wpAny_load->Ye,wpAny_Name->Yf,typeIs_str->Yg,setsByText->Yh,builtinsNs->Yi,WalksS->Yj,JoinOk->Yl,wpAny_pyIter_slot->Ys,wpAny_assign_Name->Yt,spliced->Yu,slot_list_getitem->Yv,newList->Yw,ItemsOf->YC,wpAny_setScan_of->YI,wpAny_eqBool_str->YJ,wpAny_eqBool_int->YK,updateSeq->YL,storeName->YM,setDiscardHashed->YN,rule->YO,meets_dict_items->YP,cellsFrom->YQ,codeAny_of_tree->YZ,typeOf->Y6,truthy->Y7,recursionLimit->Y8,newTuple->Y9,isSubtype_stop->Y_,field->Y',bindArgs->Za,augStore->Zb,argsOk->Zc,again->Zd
open Bool renaming true->b6,and_eq_true->cc,false->cK,false_ne_true->ke,not_eq_true'->uk,and_eq_true_iff->GB,eq_iff_iff->G7,false_eq_true->Jk,or_eq_true->Jx,and_false->QX,or_false->V9,false_and->Yd,not_true->Yp,and_true->Yq,and_self->Yr
open Decidable renaming decide->cL
open List renaming length_map->c4,getElem?_eq_some_iff->eh,getElem?_set_self->ez,map_cons->eH,mem_cons->gs,size_toArray->hA,mem_singleton->hQ,range->hW,length_append->hY,map_map->i0,getElem?_set_ne->i1,nil_append->i2,mem_append->i4,replicate->i6,mem_map->i7,getElem?_map->i8,length_cons->js,map_append->ki,mem_append_right->kj,mem_filter->ko,length_filter_le->lg,nodup_cons->mh,all_eq_true->mx,mem_of_getElem?->mA,getElem?_eq_getElem->nC,getElem?_append_right->oT,nodup_append->qs,append_nil->ri,mem_cons_self->rr,map_congr_left->r3,lookup_cons->sx,mem_cons_of_mem->sL,getElem?_append_left->ux,length_singleton->u5,mem_range->va,isEmpty_iff->ve,mem_append_left->x2,length_take->x3,length->DD,filter_cons->D',length_range->G0,getElem?_replicate->Il,filter_sublist->IB,map_nil->IV,not_mem_nil->IW,perm_ext_iff_of_nodup->Jf,getElem?_drop->Jg,filterMap_cons->JU,getElem_mem->J0,ext_getElem->J_,take_of_length_le->Kv,filter_eq_nil_iff->KN,filter_append->KQ,find?_cons->K',getD->L6,filter_eq_self->Mb,zip_cons_cons->MX,filter_cons_of_pos->M3,filter_cons_of_neg->M9,length_replicate->NJ,getElem?_eq_none->NX,of_mem_zip->Oa,filter_nil->Ol,getElem_of_mem->OD,pairwise_cons->Pc,reverse_cons->PF,filter_congr->PH,append_assoc->PK,map->PX,length_eq_zero_iff->PY,getElem?_cons_succ->P2,eraseIdx_cons_succ->P4,foldl_cons->Qo,mem_iff_getElem?->Qs,nodup_nil->QV,getElem?_zipIdx->QW,length_reverse->RL,any_cons->RX,findIdx?_eq_some_iff_getElem->Sb,flatten_cons->Sv,eraseIdxIfInBounds_toArray->Sz,any_eq_true->SQ,map_id->SX,length_zip->Td,length_nil->Te,forIn_cons->Tf,drop_left'->TC,dropLast_concat_getLast->TJ,getD_eq_getElem?_getD->U0,findIdx?_eq_none_iff->Vn,drop_eq_getElem_cons->Vo,length_erase_of_mem->VE,getElem?_take_of_lt->VY,findIdx?->V2,length_pos_of_mem->Wg,length_eq_one_iff->Wn,dropLast_eq_take->WA,mem_iff_getElem->WH,mem_erase_of_ne->WI,length_eraseIdx->WJ,mem_map_of_mem->WX,flatten_append->WY,mem_filterMap->Xi,map_singleton->Xk,filter_filter->Xl,take_sublist->XD,ext_getElem?->XE,map_fst_zip->XH,length_drop->XI,getElem_map->XJ,getElem_inj->XM,drop_length->XN,cons_append->XO,zipIdx_map->X5,range_succ->X6,length_set->X7,forIn_nil->Yc,all_cons->Yo,all_map->YF,range'->YW
open PySem.Heap renaming get?_push_of_some->dt,get?_push_size->fx,lt_size->gc,SameBut->nc,get?_update_self->ts,get?_update_other->Kr,get?_update_ne->Ma,size_push->US,ExtBut->YR
open Array renaming length_toList->hU,getElem?_toList->qk,getElem?_eq_getElem->L9,size_map->O9,getD->RY,forIn_toList->RZ,size_append->Se,toList->Wb,toList_extract->WB,toArray_toList->WC,toList_push->Xm
open Nat renaming ne_of_lt->hZ,le_refl->ix,zero_le->i3,lt_of_lt_of_le->i9,le_trans->t4,lt_irrefl->uv,ne_of_gt->HS,le_succ->JE,lt_succ_self->L_,zero_add->Nq,le_of_lt->Nt,pow_le_pow_right->N4,lt_succ_of_lt->PM,lt_trans->Sy,mod_lt->Vm,add_sub_cancel_left->We,succ_pos->Wx,pow_succ->Wy,le_of_eq->Wz,lt_of_le_of_lt->XC,not_lt_of_lt->X3,le_of_not_lt->X4,lt_or_ge->YU,add_zero->YV
open PySem.Value renaming ref->kr,none->nH,str->tA,type->vl,bool->Kb,isStrOf->RE,isStrOf_shape->WD,int->Xr,isInt->Yz
open Sum renaming inr->mu,inl->Sw
open PySem.Obj renaming mapSeq->p7,data_mapFields->K2,putSet->M1,isFreed_of_fields->QH,cls_mapFields->Sx,mapFields->YA
open Ne renaming symm->ro
open PySem.Builtin.List renaming listExtendWith->r6,listTooLong->Je,listSameRef->Lj,listLengthHint->RW,listItems->SE,listUpdate->Y1
open Option.some renaming inj->td,injEq->N7
open PySem.Str renaming empty->ti,ofString->O2,length->Ze
open PySem.SetTable.layClean renaming free->u4
open Int renaming eq_ofNat_of_zero_le->u7,toNat_natCast->Lo,emod_nonneg->OM,emod_lt_of_pos->Pf,le_trans->YY
open PySem.Heap.SameBut renaming update->wk,refl->Hw
open PyProof.Rows renaming seqObj->w6,size_push'->Js,callWith_type1->Ka,StrsAre->N1,envOfC->Rh,AllBare->Ri,subscriptTail->SN,listUpdate_at->SO,Subscript_->Ww,subscriptTail_builtinR->Xy,listItems_at->Xz,IntsAre->XB,seqEpoch_at->X2,sortedHeap->Yn,slot_str_getitem->YT,get?_update_seq->Y2,entry_list_sort->Y3,callWith_builtin1->Y4,sortedHeap_old->Zg,slot_list_sort->Zh,isTrue_and_nil->Zi,args_list_sort->Zj,IsTup->Zk
open PySem.Calls renaming callWith_builtin->GV,evalArgs_plain->LA,spliced_cons->MS,spliced_nil->Pq,Name_function_global->Uy,call_function_entry->UT
open PySem.Builtin.Frozenset renaming isAnySet->HI,difference->MT,sizeOf->NG,differenceUpdate->PD,unchanged->Qr,copyOf->Q_,baseOf->Rb,addrOf->Rc,slot1->RF,updateFrom->XZ,slot0->X0,newClass->X1
open PySem.Builtin.SmallTypes renaming nextOf->H8
open PySem.SetTable renaming sizeAbove->IT,below->JM,grown->Lg,bits->LY,eraseAt->Ni,turns->N6,layClean->O7,fits->Pa,laid->QF,runEnd->Ss,relaid->Su,fill->S3,orStandIn->Wd,fresh->Xe,leap->Xs,drop->Xt
open List.Perm renaming refl->JI,swap->WZ,cons->W4
open PySem.NameKind renaming free->Kj
open PyProof.Rows.F renaming plain_set_update_loop->K4,entry_set_update_loop->PL
open PySem.Around renaming under_plainId->Lk
open Classical renaming byContradiction->Lp,propDecidable->TK
open PySem.W renaming kas_sort->Ls,kas_ask->Yx
open False renaming elim->LB
open PySem.AutoSeq1 renaming wpAny_loadPart'->L4,sub_tuple_tuple->S4,sub_tuple_list->UI,sub_list_tuple->UJ,sub_list_list->UU,idx_int->WG
open List.cons renaming injEq->L7
open ForInStep renaming yield->L8
open LT renaming lt->N3
open PySem.Shared renaming TypeIs->Pn
open PySem.SeqAt renaming EqAt->P5,ne_of_list_tuple->V',RcAt->WV,RcNeAt->Yk
open ToString renaming toString->Qz
open PySem.Data renaming fields->QI,cell->Wa
open PyProof.Rows.LSm renaming kept_iter->QL,range_any->X_,range_all->X'
open PySem.Txt renaming join->Q9
open Sum.inr renaming inj->Si
open PySem.pickOrder renaming go->T8
open PySem.SetTable.below renaming go->Ux
open Prod.mk renaming injEq->UQ
open True renaming intro->UR
open List.Nodup renaming sublist->V7
open PySem.PassesOwn renaming never->WE
open PySem.Walks renaming list->WO
open PySem.Code renaming quiet_builtin->Xf
open PySem.F renaming args_list_extend_2->Xw,entry_list_extend->XG,slot_list_extend->XY,entry_list_pop->Ym,slot_list_pop->YE
open PyProof.Rows.IsTup renaming new->XA
open PySem.ItemsOf renaming nil->X9
open Prod renaming fst->Ya,ext->Yb
open PySem.W.WShape renaming has->Yy
open PySem.Moved renaming trans->YB
open PySem.Heap.IsSliceOf renaming new->YD
open LE renaming le->YG
open ForIn renaming forIn->YH
open PySem.Builtin.Range renaming rangeSize->YS
open List.Pairwise renaming nil->YX
open PySem.W.WData renaming int->Y0
open List.Sublist renaming refl->Y5
open PySem.Heap.DictOf renaming new->Zf
abbrev Zl:=@decide_eq_true_eq
abbrev Zm:=@if_pos
abbrev Zn:=@if_neg
abbrev Zo:=@decide_eq_false
abbrev Zp:=@decide_eq_true
abbrev Zq:=@congrArg
abbrev Zr:=@of_decide_eq_true
local macro_rules|`(def $a:declId $b* : $t :=$v)=>`(theorem $a:declId $b* : $t :=$v)
local macro_rules|`(abbrev $a:declId $b:optDeclSig $c:declVal)=>`(noncomputable def $a:declId $b:optDeclSig $c:declVal)
local macro_rules|`(tactic|show $t)=>`(tactic|refine $t)
local macro_rules|`(tactic|have⟨$a,*⟩:=$t)=>do let p<-a.getElems.mapM fun x=>`(Lean.Parser.Tactic.rcasesPatLo|$(⟨x⟩):ident);`(tactic|obtain⟨$p,*⟩:=$t)
local macro_rules|`(⋯)=>`(by lia)
local macro_rules|`(∅)=>`(by(first|exact trivial|exact⟨⟨_,rfl,rfl⟩,trivial⟩|exact⟨⟨_,rfl,rfl⟩,⟨_,rfl,rfl⟩,trivial⟩))
namespace L2
open PySem PySem.Spec PyProof.Rows
@[reducible]def Key:=Sum Int Str
abbrev jk:Key->d3->Bool
 |.inl k,v=>Yz k v
 |.inr x,v=>RE x v
abbrev Fv(w:G1):Key->Int
 |.inl k=>hashInt k
 |.inr x=>hashStr w x
theorem bc:∀{k:Key}{v:d3},jk k v=b6->(∃i t,k=Sw i/\v=Xr i t)\/(∃x t,k=mu x/\v=tA x t)
 |.inl i,v,h=>by
  have⟨t,e⟩:=Value.isInt_shape (k:=i) (v:=v) h;show .inl ⟨i,t,rfl,e⟩
 |.inr x,v,h=>by
  have⟨t,e⟩:=WD (x:=x) (v:=v) h;show .inr ⟨x,t,rfl,e⟩
def t6(i:Int)(t:Tok):jk (.inl i) (.int i t)=b6:=by simp[jk,Yz]
def t7(x:Str)(t:Tok):jk (.inr x) (.str x t)=b6:=by simp[jk,RE]
def BE(a b:Int):cL ((Sw a:Key)=Sw b)=(a==b):=by
 by_cases e:a=b
 .subst e;simp
 .have h:¬(Sw a:Key)=Sw b:=λq=>e (Sum.inl.inj q);rw[Zo h];show(beq_eq_false_iff_ne.mpr e).symm
def BF(a b:Str):cL ((mu a:Key)=mu b)=cL (a=b):=by
 by_cases e:a=b
 .subst e;simp
 .have h:¬(mu a:Key)=mu b:=λq=>e (Si q);rw[Zo h,Zo e]
def BG(a:Int)(b:Str):cL ((Sw a:Key)=mu b)=cK:=Zo (λq=>nomatch q)
def BH(a:Str)(b:Int):cL ((mu a:Key)=Sw b)=cK:=Zo (λq=>nomatch q)
abbrev aM(prog:wh)(w:G1):PySem.KeyKind prog w Key where
 is:=jk
 hash:=Fv w
 inj:=λv a b g f=>by
  rcases bc g with⟨i,t,rfl,rfl⟩|⟨x,t,rfl,rfl⟩
  .rcases bc f with⟨j,u,rfl,e⟩|⟨y,u,rfl,e⟩
   .injection e with c _;rw[c]
   .show nomatch e
  .rcases bc f with⟨j,u,rfl,e⟩|⟨y,u,rfl,e⟩
   .show nomatch e
   .injection e with c _;rw[c]
 byValue:=λk v h=>by
  rcases bc h with⟨i,t,rfl,rfl⟩|⟨x,t,rfl,rfl⟩<;>rfl
 pyHash:=λd h=>by
  rcases bc d with⟨i,t,rfl,rfl⟩|⟨x,t,rfl,rfl⟩
  .show wpAny_pyHash_int h
  .show wpAny_pyHash_str h
 eqBool:=λl d h=>by
  rcases bc l with⟨i,t,rfl,rfl⟩|⟨x,t,rfl,rfl⟩
  .rcases bc d with⟨j,u,rfl,rfl⟩|⟨y,u,rfl,rfl⟩
   .rw[BE]at h;show YK h
   .rw[BG]at h;show SeqAt.EqAt.int_str i t y u _ _ _ _ h
  .rcases bc d with⟨j,u,rfl,rfl⟩|⟨y,u,rfl,rfl⟩
   .rw[BH]at h;show SeqAt.EqAt.str_int x t j u _ _ _ _ h
   .rw[BF]at h;show YJ h
 «strs»:=λk x t v h=>by
  rcases bc h with⟨i,u,rfl,e⟩|⟨y,u,rfl,e⟩
  .show nomatch e
  .injection e with c _
   subst c;cases v<;>rfl
def oU(prog:wh)(w:G1)(i:Int)(t:Tok):(aM prog w).is (.inl i) (.int i t)=b6:=t6 i t
def oV(prog:wh)(w:G1)(x:Str)(t:Tok):(aM prog w).is (.inr x) (.str x t)=b6:=t7 x t
inductive V where
 |GC|bl (b:Bool)|int (i:Int)|str (x:Str)|N8 (b:Array UInt8)|N9 (b:UInt64)|ref (a:hH)|ty (n:String)
 deriving DecidableEq
def RelV:V->d3->Prop
 |.GC,u=>u=nH
 |.bl b,u=>u=Kb b
 |.int i,u=>∃t,u=Xr i t
 |.str x,u=>∃t,u=tA x t
 |.N8 b,u=>∃t,u=Value.bytes b t
 |.N9 b,u=>∃t,u=Value.float b t
 |.ref a,u=>u=kr a
 |.ty n,u=>u=vl n
@[reducible]def Vals:List V->List d3->Prop:=Paired RelV
def Vals.length(r:Vals xs us):xs.length=us.length:=Paired.length r
theorem Vals.get:∀{xs:List V}{us:List d3}{i:Nat}{x:V},Vals xs us->xs[i]?=bD x->∃u,us[i]?=bD u/\RelV x u
 |_,_,_,_,.nil,e=>by simp at e
 |_,_,0,_,.cons r _,e=>by simp at e;subst e;show⟨_,rfl,r⟩
 |_,_,i+1,x,.cons _ t,e=>by
  have⟨u,a,b⟩:=Vals.get (i:=i) (x:=x) t (by simpa using e);show⟨u,by simpa using a,b⟩
theorem Vals.set(r:RelV x u):∀{xs:List V}{us:List d3} (i:Nat),Vals xs us->Vals (xs.set i x) (us.set i u)
 |_,_,_,.nil=>.nil
 |_,_,0,.cons _ t=>.cons r t
 |_,_,i+1,.cons q t=>.cons q (Vals.set r i t)
theorem Vals.append:∀{xs ys:List V}{us ws:List d3},Vals xs us->Vals ys ws->Vals (xs++ys) (us++ws)
 |_,_,_,_,.nil,s=>s
 |_,_,_,_,.cons r t,s=>.cons r (Vals.append t s)
theorem Vals.take:∀{xs:List V}{us:List d3} (n:Nat),Vals xs us->Vals (xs.take n) (us.take n)
 |_,_,0,_=>.nil
 |_,_,_+1,.nil=>.nil
 |_,_,n+1,.cons r t=>.cons r (Vals.take n t)
theorem Vals.drop:∀{xs:List V}{us:List d3} (n:Nat),Vals xs us->Vals (xs.drop n) (us.drop n)
 |_,_,0,r=>r
 |_,_,_+1,.nil=>.nil
 |_,_,n+1,.cons _ t=>Vals.drop n t
def jA:Option V->Option d3->Prop
 |some v,bD u=>RelV v u
 |none,cb=>True
 |_,_=>False
abbrev KV{κ:Type}:List (κ×V)->List (κ×d3)->Prop:=Paired λ(p:κ×V) (q:κ×d3)=>p.1=q.1/\RelV p.2 q.2
abbrev kV:Key->V
 |.inl i=>.int i
 |.inr x=>.str x
inductive HO where
 |lst (xs:List V)
 |tup (xs:List V)
 |dK (kvs:List (Key×V))|dT (kvs:List (List Key×V))
 |set (S:Int->Bool) (n:Nat)
 |ins (C dx:hH) (fs:List (Str×V))
 |own (x:hH)
 |xd (fs:List (Str×V))
 |met (f x:hH)
 |O8 (lo hi:Int)
 |HJ (o:Obj) (u:HO)
 |Lf (ps:Array d3)
 |ext (φ:Ic->Prop)
@[reducible]def Hp:=hH->Option HO
abbrev upd(H:Hp)(a:hH)(o:HO):Hp:=λb=>if b=a then bD o else H b
def aw:upd H a o a=bD o:=by unfold upd;rw[Zm rfl]
def aj(h:b≠a):upd H a o b=H b:=by unfold upd;rw[Zn h]
def DG{H:Hp}(h:H a=bD o)(h':H b=bD u)(d:o≠u):a≠b:=by
 intro e;subst e;rw[h]at h';show d (td h')
def bB{H:Hp}(h:H a=bD o)(h':H b=cb):a≠b:=by
 intro e;subst e;rw[h]at h';cases h'
section
variable(P:wh)(w:G1)
def bE(H:Hp)(h:Ic)(a:hH):HO->Prop
 |.lst xs=>xs.length<=df/\∃(c:List d3) (n:Nat),Vals xs c/\h.get? a=bD {cls:=.type "list",data:=.seq c.toArray n}
 |.tup xs=>xs.length<=df/\∃c:List d3,Vals xs c/\Zk h a c.toArray
 |.dK kvs=>kvs.length<=df/\(a==Li)=cK/\∃vs,KV kvs vs/\h.DictOf (aM P w) a vs
 |.dT kvs=>kvs.length<=df/\(a==Li)=cK/\∃xs:List (List Key×hH×d3),
   Paired (λ(p:List Key×V) (q:List Key×hH×d3)=>p.1=q.1/\H q.2.1=bD (.tup (p.1.map kV))/\RelV p.2 q.2.2) kvs xs /\
   ∃o es ep,h.get? a=bD o/\o.ExactDict/\o.data=.dict es ep/\es.toList=xs.map (entryOfKey (Sm (aM P w)))/\(xs.map (·.1)).Nodup
 |.set S n=>h.SetOf (intKind P w) a S n
 |.ins C e d=>H e=bD (.own a)/\d.length<=1000/\e≠a/\h.get? a=bD (PySem.W.instObj C e) /\
   ∃b,h.Ns1 e b/\(∀f,jA (d.lookup f) (b f))/\PySem.Within b (d.map (·.1))
 |.own _=>∃o,h.get? a=bD o
 |.xd d=>∃b,h.Ns1 a b/\∀f,jA (d.lookup f) (b f)
 |.O8 lo j=>∃t u v,h.get? a=bD {cls:=.type "range",data:=.fields #[.int lo t,.int j u,.int 1 v]}
 |.HJ o u=>h.get? a=bD o/\bE H h a u
 |.Lf ps=>h.get? a=bD {cls:=.none,data:=.fields ps}
 |.met f x=>h.get? a=bD (PySem.W.methodObj (.ref f) (.ref x))
 |.ext φ=>φ h/\(∃o,h.get? a=bD o)/\∀g i:Ic,φ g->(∀o,g.get? a=bD o->i.get? a=bD o)->φ i
abbrev Hu(H:Hp)(h:Ic):Prop:=∀a o,H a=bD o->bE P w H h a o
end
section
def bE.lt(x:bE P w H h a o):a<h.objs.size:=by
 cases o with
 |lst xs=>obtain⟨_,_,_,_,e⟩:=x;show gc e
 |tup xs=>obtain⟨_,_,_,p⟩:=x;show p.lt
 |set S n=>obtain⟨o,_,_,_,e,_⟩:=x;show gc e
 |ins C c b=>obtain⟨_,_,_,e,_⟩:=x;show gc e
 |own y=>obtain⟨_,e⟩:=x;show gc e
 |xd b=>obtain⟨_,⟨_,_,_,e,_⟩,_⟩:=x;show gc e
 |O8 lo d=>obtain⟨_,_,_,e⟩:=x;show gc e
 |HJ g u=>obtain⟨e,_⟩:=x;show gc e
 |Lf ps=>show gc (show h.get? a=bD _ from x)
 |met f y=>show gc (show h.get? a=bD _ from x)
 |ext φ=>obtain⟨_,⟨_,e⟩,_⟩:=x;show gc e
 |_=>obtain⟨_,_,_,_,o,_,_,e,_⟩:=x;show gc e
theorem Paired.BI:∀{c:List α}{d:List β},Paired F c d->(∀a b,F a b->G a b)->Paired G c d
 |_,_,.nil,_=>.nil
 |_,_,.cons r t,f=>.cons (f _ _ r) (Paired.BI t f)
def bE.gD(x:bE P w H h a o)(k:∀b u,(b=a\/H b=bD (.own a))->h.get? b=bD u->h'.get? b=bD u)
  (ho:∀b,H b=bD (.own a)->H' b=bD (.own a)) (m:∀b xs,H b=bD (.tup xs)->H' b=bD (.tup xs)):bE P w H' h' a o:=by
 induction o with
 |lst xs=>have⟨z,i,n,r,e⟩:=x;show⟨z,i,n,r,k _ _ (.inl rfl) e⟩
 |tup xs=>have⟨z,i,r,g,e,c⟩:=x;show⟨z,i,r,g,k _ _ (.inl rfl) e,c⟩
 |dK kvs=>have⟨z,y,vs,r,g,es,ep,e,c⟩:=x;show⟨z,y,vs,r,g,es,ep,k _ _ (.inl rfl) e,c⟩
 |dT kvs =>
  have⟨z,y,xs,r,g,es,ep,e,c⟩:=x;show⟨z,y,xs,Paired.BI r λp q z=>⟨z.1,m _ _ z.2.1,z.2.2⟩,g,es,ep,k _ _ (.inl rfl) e,c⟩
 |set S n=>have⟨g,es,ep,t,e,c⟩:=x;show⟨g,es,ep,t,k _ _ (.inl rfl) e,c⟩
 |ins C G s =>
  obtain⟨d,z,A,e,j,⟨l,es,ep,B,c⟩,r⟩:=x;show⟨ho _ d,z,A,k _ _ (.inl rfl) e,j,⟨l,es,ep,k _ _ (.inr d) B,c⟩,r⟩
 |own y=>have⟨g,e⟩:=x;show⟨g,k _ _ (.inl rfl) e⟩
 |xd s=>obtain⟨j,⟨l,es,ep,e,c⟩,r⟩:=x;show⟨j,⟨l,es,ep,k _ _ (.inl rfl) e,c⟩,r⟩
 |O8 lo I=>have⟨t,u,v,e⟩:=x;show⟨t,u,v,k _ _ (.inl rfl) e⟩
 |HJ g u D=>have⟨e,q⟩:=x;show⟨k _ _ (.inl rfl) e,D q⟩
 |Lf ps =>
  have e:h.get? a=bD {cls:=.none,data:=.fields ps}:=x;change h'.get? a=bD {cls:=.none,data:=.fields ps};show k a _ (.inl rfl) e
 |met f y =>
  have e:h.get? a=bD (PySem.W.methodObj (.ref f) (.ref y)):=x;change h'.get? a=bD (PySem.W.methodObj (.ref f) (.ref y));show k a _ (.inl rfl) e
 |ext φ=>obtain⟨p,⟨o,e⟩,st⟩:=x;show⟨st _ _ p λo q=>k _ _ (.inl rfl) q,⟨o,k _ _ (.inl rfl) e⟩,st⟩
def Hu.lt(x:Hu P w H h)(e:H a=bD o):a<h.objs.size:=(x a o e).lt
def Hu.fresh(x:Hu P w H h)(e:h.objs.size<=a):H a=cb:=by
 cases q:H a with
 |none=>rfl
 |some u=>show absurd (i9 (x.lt q) e) (uv _)
def Hu.kept(x:Hu P w H h)(k:∀b u,h.get? b=bD u->h'.get? b=bD u):Hu P w H h':=λa o e =>
 (x a o e).gD (λb u _ q=>k b u q) (λ_ q=>q) λ_ _ q=>q
def Hu.laid(x:Hu P w H h)(k:∀b u,h.get? b=bD u->h'.get? b=bD u)(g:h.objs.size<=a)(new:bE P w (upd H a o) h' a o):Hu P w (upd H a o) h':=λb u e=>by
 have d:=x.fresh g;by_cases f:b=a
 .subst f;rw[aw]at e;cases e;show new
 .rw[aj f]at e;show(x b u e).gD (λc v _ q=>k c v q) (λc q=>by rw[aj (bB q d)];show q) λc xs q=>by rw[aj (bB q d)];show q
end
abbrev Rd(H:Hp)(a:hH)(u:HO):Prop:=H a=bD u\/∃o,H a=bD (.HJ o u)
def Rd.ok(r:Rd H a u)(x:Hu P w H h):bE P w H h a u:=by
 rcases r with r|⟨o,r⟩
 .show x a u r
 .obtain⟨_,q⟩:=x a _ r;show q
def MN:Option HO->Prop
 |some (.lst _)=>True
 |some (.dK _)=>True
 |some (.dT _)=>True
 |some (.set _ _)=>True
 |some (.ins _ _ _)=>True
 |some (.ext _)=>True
 |_=>False
section
def Hu.write(l:Hu P w H h)(a:MN (H x))(g:e=x\/H e=bD (.own x))(k:∀b u,b≠e->h.get? b=bD u->h'.get? b=bD u)(m:∃u,h'.get? e=bD u)
  (new:bE P w (upd H x o') h' x o'):Hu P w (upd H x o') h':=λb u q=>by
 have i:∀c y,H c=bD (.own y)->c≠x:=λc y r z=>by subst z;rw[r]at a;show a
 have n:∀c xs,H c=bD (.tup xs)->c≠x:=λc xs r z=>by subst z;rw[r]at a;show a
 by_cases d:b=x
 .subst d;rw[aw]at q;cases q;show new
 .rw[aj d]at q;by_cases f:b=e
  .have j:H b=bD (.own x):=by
    rcases g with z|z
    .show absurd (f.trans z) d
    .rw[f];show z
   rw[q]at j;cases j;have⟨v,o⟩:=m;show⟨v,by rw[f];show o⟩
  .show(l b u q).gD (λc v hc r=>k c v ?_ r) (λc r=>by rw[aj (i c b r)];show r) λc xs r=>by rw[aj (n c xs r)];show r
   rcases hc with rfl|hc
   .show f
   .rintro rfl;rcases g with z|z
    .show i c b hc z
    .rw[hc]at z;cases z;show d rfl
end
structure Un(fs ex:List hH)(H H':Hp)(h h':Ic):Prop where
 keep:∀b o,h.get? b=bD o->H b=cb->b∉fs->b∉ex->h'.get? b=bD o
 slot:∀b o,h.get? b=bD o->H b=cb->b∈fs->b∉ex->∃sl,h'.get? b=bD {o with slots:=sl}
 free:∀b o,h.get? b=bD o->H b=cb->b∉ex->H' b=cb
 there:∀b o,h.get? b=bD o->b∉ex->∃o',h'.get? b=bD o'
 jF:∀b xs,H b=bD (.tup xs)->H' b=bD (.tup xs)
 HW:∀b o u,H b=bD (.HJ o u)->H' b=bD (.HJ o u)
 Im:∀b ps,H b=bD (.Lf ps)->∃more,H' b=bD (.Lf (ps++more))
section
def Un.any(u:Un e ex H i h f)(q:h.get? b=bD a)(n:H b=cb)(c:b∉ex):∃g,f.get? b=bD {a with slots:=g}:=by
 by_cases d:b∈e
 .show u.slot b a q n d c
 .show⟨a.slots,u.keep b a q n d c⟩
def Un.kept(k:∀b u,h.get? b=bD u->h'.get? b=bD u):Un c ex H H h h' :=
 ⟨λb a q _ _ _=>k b a q,λb a q _ _ _=>⟨a.slots,k b a q⟩,λ_ _ _ n _=>n,λb a q _=>⟨a,k b a q⟩,λ_ _ q=>q,λ_ _ _ q=>q,λ_ ps q=>⟨#[],by rw[q];simp⟩⟩
def Un.refl:Un a ex H H h h:=Un.kept λ_ _ q=>q
def Un.laid(k:∀b u,h.get? b=bD u->h'.get? b=bD u)(d:h.objs.size<=a)(c:H a=cb):Un e ex H (upd H a o) h h' where
 keep:=λb u q _ _ _=>k b u q
 slot:=λb u q _ _ _=>⟨u.slots,k b u q⟩
 free:=λb u q n _=>by rw[aj (hZ (i9 (gc q) d))];show n
 there:=λb u q _=>⟨u,k b u q⟩
 jF:=λb xs q=>by rw[aj (bB q c)];show q
 HW:=λb u xs q=>by rw[aj (bB q c)];show q
 Im:=λb ps q=>⟨#[],by rw[aj (bB q c),q];simp⟩
def Un.write(a:MN (H x))(i:e=x\/H e=bD (.own x))(k:∀b u,b≠e->h.get? b=bD u->h'.get? b=bD u)(j:∃u,h'.get? e=bD u):Un m ex H (upd H x o) h h':=by
 have d:∀b,H b=cb->b≠x:=λb n z=>by subst z;rw[n]at a;show a
 have f:∀b,H b=cb->b≠e:=λb n z=>by
  subst z;rcases i with r|r
  .show d b n r
  .rw[n]at r;cases r
 have c:∀b u,H b=bD u->¬MN (bD u)->b≠x:=λb u q l z=>by subst z;rw[q]at a;show l a
 show⟨λb u q n _ _=>k b u (f b n) q,λb u q n _ _=>⟨u.slots,k b u (f b n) q⟩,λb u q n _=>by rw[aj (d b n)];show n,λb u q _=>?_,
  λb xs q=>by rw[aj (c b _ q λz=>z)];show q,λb u xs q=>by rw[aj (c b _ q λz=>z)];show q,λb ps q=>⟨#[],by rw[aj (c b _ q λz=>z),q];simp⟩⟩
 by_cases g:b=e
 .subst g;show j
 .show⟨u,k b u g q⟩
end
abbrev N_(h:Ic)(H:Hp):List hH:=(hW h.objs.size).filter λa=>(H a).isSome
abbrev nq(h:Ic)(H:Hp):Ic:=PySem.W.hideAll h (N_ h H)
def t8(h:Ic)(H:Hp):(nq h H).objs.size=h.objs.size:=PySem.W.hideAll_size _ _
def vm(e:h.get? b=bD o)(n:H b=cb):(nq h H).get? b=bD o :=
 PySem.W.hideAll_get _ e λa=>by
  have q:(H b).isSome=b6:=(ko.mp a).2;rw[n]at q;simp at q
def yJ(e:(nq h H).get? b=bD o):h.get? b=bD o/\H b=cb:=by
 have a:h.get? b=bD o:=PySem.W.of_hideAll (N_ h H) e;show⟨a,?_⟩;cases q:H b with
 |none=>rfl
 |some x =>
  have c:b∈N_ h H:=ko.mpr ⟨va.mpr (gc a),by simp[q]⟩;have z:(nq h H).get? b=cb:=PySem.W.hideAll_none (N_ h H) c;rw[z]at e;cases e
structure Mod(K:PySem.W.Frag)(mg:Str->Option d3)(base:Ic):Prop where
 MP:K.In base
 glob:base.Ns HA mg
 blt:∃mb,base.Ns Yi mb/\∀x:Str,x≠"__name__"->mb x=G8 x
 nolimit:base.NoLimit
structure Cx where
 prog:wh
 w:G1
 K:PySem.W.Frag
 mg:Str->Option d3
 base:Ic
 A:LU
 N:List Str
 s₀:hh
 H₀:Hp
 env:Env
 outer:List Env
 stack:List Env
 ex:List hH
 fn:Str->Bool
 calm:Bool
 pn:List (hH×Obj)
 xe:d3->hh->Prop
abbrev Ji(l:List Env):List hH:=l.filterMap (·.frame)
noncomputable abbrev Cx.fs(X:Cx):List hH:=Ji X.outer
abbrev HX(a:K1)(x:Str):Prop:=a.names.lookup x=bD .local\/a.names.lookup x=bD .cell\/a.names.lookup x=bD .free
abbrev Loc(a:K1)(x:Str):Prop:=a.names.lookup x=bD .local\/a.names.lookup x=bD .cell
abbrev Look(env:Env)(h:Ic)(m:Str->Option d3)(x:Str)(u:d3):Prop :=
 (env.kindOf x=bD .local/\m x=bD u)\/((env.kindOf x=bD .cell\/env.kindOf x=bD .free)/\∃c,env.cells.lookup x=bD c/\h.IsCell c (bD u))
structure Cx.Ok(X:Cx):Prop where
 mod:Mod X.K X.mg X.base
 kind:X.env.scope.kind=.function
 glob:X.env.globals=HA
 blt:X.env.builtins=Yi
 above:X.s₀.heap.objs.size<=X.env.locals
 inj:∀x y c,X.env.cells.lookup x=bD c->X.env.cells.lookup y=bD c->x=y
 has:∀x,(X.env.kindOf x=bD .cell\/X.env.kindOf x=bD .free)->∃c,X.env.cells.lookup x=bD c
 MQ:∀x c,X.fn x=b6->X.env.cells.lookup x=bD c->X.s₀.heap.objs.size<=c
 hd:X.calm=b6->X.A.handled=cb
 frames:X.A.frames=bD X.stack
 N':X.stack=X.outer\/(X.stack=X.env::X.outer/\X.env.frame=bD X.env.locals)
 R3:∀b∈X.ex,b≠X.env.locals/\∀x c,X.env.cells.lookup x=bD c->c≠b
 bs:∀b o,X.base.get? b=bD o->X.s₀.heap.get? b=bD o/\X.H₀ b=cb
 KO:X.base.objs.size<=X.s₀.heap.objs.size
 JP:∀b o,X.base.get? b=bD o->b∉X.ex
 Kk:∀b∈X.ex,b∉X.fs
 jU:X.s₀.heap.FunFrames X.base X.outer
 Mi:∀b∈X.fs,X.H₀ b=cb
structure Inv(X:Cx)(pins:List (hH×Obj))(σ:List (Option V))(H:Hp)(s:hh):Prop where
 ok:X.Ok
 os:s.os=X.s₀.os
 bare:Ri s.gens
 base:Un X.fs X.ex X.H₀ H X.s₀.heap s.heap
 loc:∃m,s.heap.Ns X.env.locals m/\∀(i:Nat) (x:Str) (v:V),X.N[i]?=bD x->σ[i]?=bD (bD v)->HX X.env.scope x->∃u,RelV v u/\Look X.env s.heap m x u
 cell:∀x c,X.env.cells.lookup x=bD c->∃v,s.heap.IsCell c v
 free:H X.env.locals=cb
 Ha:∀x c,X.env.cells.lookup x=bD c->H c=cb
 pin:∀p∈X.pn++pins,s.heap.get? p.1=bD p.2/\H p.1=cb/\p.1≠X.env.locals/\p.1∉X.fs/\∀v,p.2.data≠.cell v
 Gu:Hu X.prog X.w H s.heap
 len:σ.length=X.N.length
section
variable{X:Cx}{pins:List (hH×Obj)}{σ:List (Option V)}{H H':Hp}{s:hh}{h':Ic}
def Cx.Ok.Fw(a:X.Ok)(e:X.base.get? b=bD o):b∉X.fs:=λc=>by
 have:=(a.jU.mem c).1;rw[e]at this;cases this
def Inv.bs(I:Inv X pins σ H s):∀b o,X.base.get? b=bD o->s.heap.get? b=bD o/\H b=cb:=λb o e =>
 ⟨I.base.keep b o (I.ok.bs b o e).1 (I.ok.bs b o e).2 (I.ok.Fw e) (I.ok.JP b o e),I.base.free b o (I.ok.bs b o e).1 (I.ok.bs b o e).2 (I.ok.JP b o e)⟩
def Inv.bk(I:Inv X pins σ H s):∀b o,X.base.get? b=bD o->s.heap.get? b=bD o:=λb o e=>(I.bs b o e).1
def Inv.mod(I:Inv X pins σ H s):Mod X.K X.mg X.base:=I.ok.mod
def Inv.KP(I:Inv X pins σ H s):X.K.In s.heap:=I.ok.mod.MP.keeps I.bk
def Inv.lt(I:Inv X pins σ H s):X.env.locals<s.heap.objs.size:=let ⟨_,a,_⟩:=I.loc;a.lt
def Inv.sz(I:Inv X pins σ H s):X.s₀.heap.objs.size<=s.heap.objs.size:=t4 I.ok.above (Nt I.lt)
def Inv.BJ(I:Inv X pins σ H s)(h:s.heap.objs.size<=a):a∉X.fs:=λb=>by
 obtain⟨_,o,ho,_⟩:=I.ok.jU.mem b;show absurd (i9 (gc ho) (t4 I.sz h)) (uv _)
def Inv.Lh(I:Inv X pins σ H s):∀x c,X.env.cells.lookup x=bD c->c≠X.env.locals:=λx c e z=>by
 have⟨v,o,ho,a⟩:=I.cell x c e;obtain⟨m,⟨o',es,ep,b,d,_⟩,_⟩:=I.loc;rw[z,b]at ho;cases ho;rw[d]at a;cases a
def Inv.jU(I:Inv X pins σ H s):s.heap.FunFrames X.base X.outer:=by
 have all:∀(l:List Env),(∀b∈Ji l,b∈X.fs)->X.s₀.heap.FunFrames X.base l->s.heap.FunFrames X.base l:=by
  intro l;induction l with
  |nil=>intro _ _;trivial
  |cons env r f =>
   intro hs hl;obtain⟨hk,⟨L,o,a,g,ho,h⟩,i⟩:=hl;have c:L∈X.fs:=hs L (by unfold Ji;rw[JU,a];show rr);have⟨j,e⟩:=I.base.slot L o ho (I.ok.Mi L c) c λz=>I.ok.Kk L z c;show⟨hk,⟨L,_,a,g,e,h⟩,f (λb d=>hs b (by unfold Ji;rw[JU,a];show sL _ d)) i⟩
 show all X.outer (λ_ d=>d) I.ok.jU
def Inv.stack(I:Inv X pins σ H s):s.heap.FunFrames X.base X.stack:=by
 rcases I.ok.N' with e|⟨e,a⟩
 .rw[e];show I.jU
 .rw[e];obtain⟨m,b,_⟩:=I.loc;show .cons (by rw[I.ok.kind];decide) a b ?_ I.jU;show Heap.get?_none_of_le (t4 I.ok.KO I.ok.above)
def Inv.jV(I:Inv X pins σ H s):∀b∈Ji X.stack,b∈X.env.locals::X.fs:=λb a=>by
 rcases I.ok.N' with e|⟨e,c⟩
 .rw[e]at a;show sL _ a
 .rw[e]at a;unfold Ji at a;rw[JU,c]at a;show a
def Inv.rY(I:Inv X pins σ H s):∀b∈Ji X.stack,H b=cb:=λb hb=>by
 rcases gs.mp (I.jV b hb) with e|hb
 .rw[e];show I.free
 .obtain⟨_,o,ho,_⟩:=I.ok.jU.mem hb;show I.base.free b o ho (I.ok.Mi b hb) λz=>I.ok.Kk b z hb
def Inv.step{ch:List hH}(I:Inv X pins σ H s)
  (j:∀b∈ch,(b∈X.ex\/X.s₀.heap.objs.size<=b)/\b≠X.env.locals/\(∀x c,X.env.cells.lookup x=bD c->c≠b)/\∀p∈X.pn++pins,p.1≠b)
  (keep:∀b o,b≠X.env.locals->b∉X.fs->b∉ch->s.heap.get? b=bD o->H b=cb->h'.get? b=bD o)
  (slot:∀b o,b≠X.env.locals->b∈X.fs->b∉ch->s.heap.get? b=bD o->H b=cb->∃C,h'.get? b=bD {o with slots:=C}) (free:∀b o,b∉ch->s.heap.get? b=bD o->H b=cb->H' b=cb)
  (there:∀b o,b∉ch->s.heap.get? b=bD o->∃o',h'.get? b=bD o')
  (jF:∀b xs,H b=bD (.tup xs)->H' b=bD (.tup xs)) (HW:∀b o u,H b=bD (.HJ o u)->H' b=bD (.HJ o u)) (Im:∀b ps,H b=bD (.Lf ps)->∃t,H' b=bD (.Lf (ps++t)))
  (ns:∀m,s.heap.Ns X.env.locals m->h'.Ns X.env.locals m) (Q:Hu X.prog X.w H' h') (T:Ri g') :
  Inv X pins σ H' {s with heap:=h',gens:=g',drawn:=d',toks:=t' }:=by
 have G:∀b o,X.s₀.heap.get? b=bD o->b≠X.env.locals:=λb o e=>hZ (i9 (gc e) I.ok.above);have B:∀b o,X.s₀.heap.get? b=bD o->b∉X.ex->b∉ch:=λb o e a h=>by
  rcases(j b h).1 with z|z
  .show a z
  .show absurd (i9 (gc e) z) (uv _)
 have f:∀x c,X.env.cells.lookup x=bD c->∀v,s.heap.IsCell c v->h'.IsCell c v:=λx c e v Y=>by
  have⟨o,ho,D⟩:=Y;have y:c∉ch:=λz=>(j c z).2.2.1 x c e rfl;by_cases J:c∈X.fs
  .have⟨C,q⟩:=slot c o (I.Lh x c e) J y ho (I.Ha x c e);show⟨_,q,D⟩
  .show⟨o,keep c o (I.Lh x c e) J y ho (I.Ha x c e),D⟩
 show⟨I.ok,I.os,T,⟨λb o e n h a=>?_,λb o e n h a=>?_,λb o e n a=>?_,λb o e a=>?_,λb xs e=>jF b xs (I.base.jF b xs e),λb o xs e=>HW b o xs (I.base.HW b o xs e),λb ps e=>?_⟩,?_,λx c e=>?_,?_,λx c e=>?_,λp L=>?_,Q,I.len⟩
 .show keep b o (G b o e) h (B b o e a) (I.base.keep b o e n h a) (I.base.free b o e n a)
 .have⟨C,g⟩:=I.base.slot b o e n h a;have⟨TF,A⟩:=slot b _ (G b o e) h (B b o e a) g (I.base.free b o e n a);show⟨TF,A⟩
 .have⟨o',g⟩:=I.base.there b o e a;show free b o' (B b o e a) g (I.base.free b o e n a)
 .have⟨o',g⟩:=I.base.there b o e a;show there b o' (B b o e a) g
 .have⟨m1,g⟩:=I.base.Im b ps e;have⟨m2,A⟩:=Im b _ g;show⟨m1++m2,by rw[A,Array.append_assoc]⟩
 .have⟨m,hn,hl⟩:=I.loc;show⟨m,ns m hn,λi x v g A e3=>?_⟩;have⟨u,r,l⟩:=hl i x v g A e3;show⟨u,r,?_⟩;rcases l with l|⟨k,c,e,z⟩
  .show .inl l
  .show .inr ⟨k,c,e,f x c e _ z⟩
 .have⟨v,z⟩:=I.cell x c e;show⟨v,f x c e v z⟩
 .obtain⟨m,⟨o,_,_,ho,_⟩,_⟩:=I.loc;show free _ o (λz=>(j _ z).2.1 rfl) ho I.free
 .have⟨v,o,ho,D⟩:=I.cell x c e;show free c o (λz=>(j c z).2.2.1 x c e rfl) ho (I.Ha x c e)
 .have⟨e,n,N,O,d⟩:=I.pin p L;have y:p.1∉ch:=λz=>(j p.1 z).2.2.2 p L rfl;show⟨keep p.1 p.2 N O y e n,free p.1 p.2 y e n,N,O,d⟩
def Inv.un(I:Inv X pins σ H s)(u:Un X.fs [] H H' s.heap h')(d:Hu X.prog X.w H' h'):Inv X pins σ H' {s with heap:=h',toks:=t' }:=by
 obtain⟨m,⟨o,es,ep,ho,r⟩,_⟩:=id I.loc;have⟨k,f⟩:=u.any ho I.free (by simp);show I.step (g':=s.gens) (d':=s.drawn) (ch:=[]) (λ_ z=>nomatch z) (λb o _ a _ e n=>u.keep b o e n a (by simp)) (λb o _ a _ e n=>u.slot b o e n a (by simp)) (λb o _ e n=>u.free b o e n (by simp)) (λb o _ e=>u.there b o e (by simp)) u.jF u.HW u.Im (λl g=>by
  have⟨o',h,i,c,j⟩:=g;rw[ho]at c;cases c;show⟨_,h,i,f,j⟩) d I.bare
def Inv.call(I:Inv X pins σ H s)(u:Un (Ji X.stack) ch H H' s.heap h')(h:Hu X.prog X.w H' h')(i:Ri g')
  (f:∀b∈ch,(b∈X.ex\/X.s₀.heap.objs.size<=b)/\b≠X.env.locals/\(∀x c,X.env.cells.lookup x=bD c->c≠b)/\∀p∈X.pn++pins,p.1≠b) :
  Inv X pins σ H' {s with heap:=h',gens:=g',drawn:=d',toks:=t' }:=by
 obtain⟨m,⟨o,es,ep,ho,r⟩,_⟩:=id I.loc;have⟨v,d⟩:=u.any ho I.free λz=>(f _ z).2.1 rfl;show I.step (ch:=ch) f (λb o d j a e n=>u.keep b o e n (λz=>(gs.mp (I.jV b z)).elim d j) a) (λb o _ _ a e n=>u.any e n a) (λb o a e n=>u.free b o e n a) (λb o a e=>u.there b o e a) u.jF u.HW u.Im (λy k=>by
  have⟨o',l,q,g,t⟩:=k;rw[ho]at g;cases g;show⟨_,l,q,d,t⟩) h i
def Inv.turned(I:Inv X pins σ H s)(k:∀b o,b≠it->s.heap.get? b=bD o->h'.get? b=bD o)(g:H it=cb)(d:it≠X.env.locals)
  (h:it∈X.ex\/X.s₀.heap.objs.size<=it) (i:∀x c,X.env.cells.lookup x=bD c->c≠it) (j:∀p∈X.pn++pins,p.1≠it):Inv X pins σ H {s with heap:=h',toks:=t' }:=by
 have f:∀b u,H b=bD u->b≠it:=λb u e z=>by rw[z,g]at e;cases e
 show I.step (g':=s.gens) (d':=s.drawn) (ch:=[it]) (λb l=>?_) (λb o _ _ a e _=>k b o (λz=>a (by simp[z])) e) (λb o _ _ a e _=>⟨o.slots,k b o (λz=>a (by simp[z])) e⟩) (λ_ _ _ _ n=>n)
  (λb o a e=>⟨o,k b o (λz=>a (by simp[z])) e⟩) (λ_ _ e=>e) (λ_ _ _ e=>e) (λb ps e=>⟨#[],by rw[e];simp⟩) (λm t=>?_) (λb u e=>?_) I.bare
 .have e:b=it:=by simpa using l
  subst e;show⟨h,d,i,j⟩
 .have⟨o,es,ep,ho,r⟩:=t;show⟨o,es,ep,k _ o (ro d) ho,r⟩
 .show(I.Gu b u e).gD (λc v a q=>k c v ?_ q) (λ_ q=>q) λ_ _ q=>q;rcases a with z|z
  .rw[z];show f b u e
  .show f c _ z
def Inv.tok(I:Inv X pins σ H s)(t:Nat):Inv X pins σ H {s with toks:=t}:=I.un (h':=s.heap) (t':=t) Un.refl I.Gu
def Inv.kept(I:Inv X pins σ H s)(k:∀b u,s.heap.get? b=bD u->h'.get? b=bD u):Inv X pins σ H {s with heap:=h',toks:=t' }:=I.un (Un.kept k) (I.Gu.kept k)
def Inv.laid(I:Inv X pins σ H s)(k:∀b u,s.heap.get? b=bD u->h'.get? b=bD u)(c:s.heap.objs.size<=a)(new:bE X.prog X.w (upd H a o) h' a o):
  Inv X pins σ (upd H a o) {s with heap:=h',toks:=t' }:=I.un (Un.laid k c (I.Gu.fresh c)) (I.Gu.laid k c new)
def Inv.write(I:Inv X pins σ H s)(a:MN (H x))(c:e=x\/H e=bD (.own x))(k:∀b u,b≠e->s.heap.get? b=bD u->h'.get? b=bD u)(d:∃u,h'.get? e=bD u)
  (new:bE X.prog X.w (upd H x o) h' x o):Inv X pins σ (upd H x o) {s with heap:=h',toks:=t' }:=I.un (Un.write a c k d) (I.Gu.write a c k d new)
def Inv.weak(I:Inv X pins σ H s)(hl:a.length=σ.length)(w:∀(i:Nat) v,a[i]?=bD (bD v)->σ[i]?=bD (bD v)):Inv X pins a H s :=
 ⟨I.ok,I.os,I.bare,I.base,let ⟨m,b,c⟩:=I.loc;⟨m,b,λi x v d e f=>c i x v d (w i v e) f⟩,I.cell,I.free,I.Ha,I.pin,I.Gu,hl.trans I.len⟩
def Inv.dW(I:Inv X pins σ H s)(h:∀p∈a,s.heap.get? p.1=bD p.2/\H p.1=cb/\p.1≠X.env.locals/\p.1∉X.fs/\∀v,p.2.data≠.cell v):Inv X a σ H s :=
 ⟨I.ok,I.os,I.bare,I.base,I.loc,I.cell,I.free,I.Ha,λp b=>(i4.mp b).elim (λz=>I.pin p (x2 _ z)) (h p),I.Gu,I.len⟩
def jW{N:List Str}(c:N.Nodup){i j:Nat}(a:N[i]?=bD x)(b:N[j]?=bD x):i=j:=by
 have⟨f,d⟩:=eh.mp a;have⟨g,e⟩:=eh.mp b;show(XM c).mp (d.trans e.symm)
def lR(I:Inv X pins σ H s)(hN:X.N.Nodup)(D:X.N[i]?=bD x)(l:Loc X.env.scope x)(r:RelV v u)
  (h:∀s',Inv X pins (σ.set i (bD v)) H s'->(∃a,nc a s.heap s'.heap/\(a=X.env.locals\/X.env.cells.lookup x=bD a))->Q () s') (hf:X.fn x=b6\/X.env.scope.names.lookup x=bD .local:=by first|show .inl rfl|show .inr rfl|assumption):et M A (YM X.env x u) Q E s:=by
 have⟨m,O,hl⟩:=id I.loc;have O_:(X.env.scope.kind==.class||(X.env.scope.kind==.module&&X.env.locals != X.env.globals))=cK:=by rw[I.ok.kind];rfl
 have R5:i < σ.length:=by rw[I.len];show(eh.mp D).1
 have T:=I.Lh;have f:∀{a:hH} {h':Ic},(∃o,s.heap.get? a=bD o/\H a=cb)->nc a s.heap h'->Hu X.prog X.w H h':=λ{a h'} ha hs b ob e=>by
  obtain⟨_,_,Hg⟩:=ha;show(I.Gu b ob e).gD (λc G hc q=>(hs.2 c ?_).trans q) (λ_ q=>q) λ_ _ q=>q;rintro rfl;rcases hc with rfl|hc
  .rw[Hg]at e;cases e
  .rw[Hg]at hc;cases hc
 rcases l with hk|hk
 .show wpAny_storeName_local hk O (λh' Ob hs=>?_) O_;obtain⟨oL,_,_,Km,_⟩:=id O;show h _ ⟨I.ok,I.os,I.bare,⟨λb o e n B l=>?_,λb o e n B l=>?_,I.base.free,λb o e l=>?_,I.base.jF,I.base.HW,I.base.Im⟩,⟨_,Ob,λj y Y g t e3=>?_⟩,λy c e=>?_,I.free,I.Ha,λp hp=>?_,f ⟨oL,Km,I.free⟩ hs,by simpa using I.len⟩ ⟨_,hs,.inl rfl⟩
  .show(hs.2 b (hZ (i9 (gc e) I.ok.above))).trans (I.base.keep b o e n B l)
  .have⟨sl,g⟩:=I.base.slot b o e n B l;show⟨sl,(hs.2 b (hZ (i9 (gc e) I.ok.above))).trans g⟩
  .have⟨o',g⟩:=I.base.there b o e l;show⟨o',(hs.2 b (hZ (i9 (gc e) I.ok.above))).trans g⟩
  .by_cases C:j=i
   .subst C;rw[D]at g;cases g;rw[ez R5]at t;cases t;show⟨u,r,.inl ⟨hk,by simp⟩⟩
   .rw[i1 (ro C)]at t;have⟨u',r',q⟩:=hl j y Y g t e3;show⟨u',r',?_⟩;rcases q with⟨k,e⟩|⟨k,c,e,z⟩
    .show .inl ⟨k,?_⟩;have:y≠x:=λe=>C (jW hN g (e▸D));simp[this,e]
    .show .inr ⟨k,c,e,z.sameBut hs (T y c e)⟩
  .have⟨G,z⟩:=I.cell y c e;show⟨G,z.sameBut hs (T y c e)⟩
  .have⟨e,n,J,nf,d⟩:=I.pin p hp;show⟨(hs.2 p.1 J).trans e,n,J,nf,d⟩
 .have IK:X.fn x=b6:=by
   rcases hf with z|z
   .show z
   .rw[z]at hk;cases hk
  have⟨c,hc⟩:=I.ok.has x (.inl hk);have⟨G,z⟩:=I.cell x c hc;show wpAny_storeName_cell I.ok.kind hk hc z (λh' Mj hs=>?_);have⟨oc,R6,O'⟩:=id z;show h {s with heap:=h' } ⟨I.ok,I.os,I.bare,⟨λb o e n B l=>?_,λb o e n B l=>?_,I.base.free,λb o e l=>?_,I.base.jF,I.base.HW,I.base.Im⟩,⟨m,O.sameBut hs (ro (T x c hc)),λj y Y g t e3=>?_⟩,λy L e=>?_,I.free,I.Ha,λp hp=>?_,f ⟨oc,R6,I.Ha x c hc⟩ hs,by simpa using I.len⟩ ⟨c,hs,.inr hc⟩
  .show(hs.2 b (hZ (i9 (gc e) (I.ok.MQ x c IK hc)))).trans (I.base.keep b o e n B l)
  .have⟨sl,g⟩:=I.base.slot b o e n B l;show⟨sl,(hs.2 b (hZ (i9 (gc e) (I.ok.MQ x c IK hc)))).trans g⟩
  .have⟨o',g⟩:=I.base.there b o e l;show⟨o',(hs.2 b (hZ (i9 (gc e) (I.ok.MQ x c IK hc)))).trans g⟩
  .by_cases C:j=i
   .subst C;rw[D]at g;cases g;rw[ez R5]at t;cases t;show⟨u,r,.inr ⟨.inl hk,c,hc,Mj⟩⟩
   .rw[i1 (ro C)]at t;have⟨u',r',q⟩:=hl j y Y g t e3;show⟨u',r',?_⟩;rcases q with q|⟨k,L,e,z'⟩
    .show .inl q
    .show .inr ⟨k,L,e,z'.sameBut hs ?_⟩;rintro rfl;show C (jW hN g (I.ok.inj _ _ _ e hc▸D))
  .by_cases R7:L=c
   .subst R7;show⟨_,Mj⟩
   .have⟨w2,z2⟩:=I.cell y L e;show⟨w2,z2.sameBut hs R7⟩
  .have⟨e,n,J,nf,d⟩:=I.pin p hp;show⟨(hs.2 p.1 ?_).trans e,n,J,nf,d⟩;intro q;rw[q,R6]at e;have q':oc=p.2:=td e;show d G (by rw[<-q'];show O')
def jX(I:Inv X pins σ H s)(a:X.N.Nodup)(b:X.N[i]?=bD x)(c:Loc X.env.scope x)(r:RelV v u)
  (h:∀s',Inv X pins (σ.set i (bD v)) H s'->Q () s') (d:X.fn x=b6\/X.env.scope.names.lookup x=bD .local:=by first|show .inl rfl|show .inr rfl|assumption):et M A (YM X.env x u) Q E s :=
 lR I a b c r (λs' e _=>h s' e) d
def Inv.DH(I:Inv X pins σ H s)(ho:s'.os=s.os)(u:Un (Ji X.stack) ch H H' s.heap s'.heap)(a:Hu X.prog X.w H' s'.heap)(d:Ri s'.gens)
  (f:∀b∈ch,(b∈X.ex\/X.s₀.heap.objs.size<=b)/\b≠X.env.locals/\(∀x c,X.env.cells.lookup x=bD c->c≠b)/\∀p∈X.pn++pins,p.1≠b):Inv X pins σ H' s':=by
 have⟨h',g',d',t',o'⟩:=s';have e:o'=s.os:=ho;subst e;show I.call (g':=g') (t':=t') (d':=d') u a d f
end
@[reducible]def XK:=d3->Option hH->Hp->Prop
@[reducible]def St:=List (Option V)
@[reducible]def VK:=V->Hp->Prop
@[reducible]def TE:=St->Hp->VK->Prop
@[reducible]def TT:=St->Hp->(Bool->Hp->Prop)->Prop
@[reducible]def TA:=St->Hp->(List V->Hp->Prop)->Prop
structure Ends where
 nx:St->Hp->Prop
 rt:VK
 bk:St->Hp->Prop:=λ_ _=>False
 ct:St->Hp->Prop:=λ_ _=>False
@[reducible]def TS:=Ends->St->Hp->Prop
abbrev EP(X:Cx)(a:List (hH×Obj))(σ:St)(Q:VK)(u:d3)(s':hh):Prop:=∃v H',Inv X a σ H' s'/\RelV v u/\Q v H'
abbrev TP(X:Cx)(a:List (hH×Obj))(σ:St)(Q:Bool->Hp->Prop)(b:Bool)(s':hh):Prop:=∃H',Inv X a σ H' s'/\Q b H'
abbrev AP(X:Cx)(a:List (hH×Obj))(σ:St)(Q:List V->Hp->Prop)(us:List d3)(s':hh):Prop:=∃vs H',Inv X a σ H' s'/\Vals vs us/\Q vs H'
abbrev SP(X:Cx)(a:List (hH×Obj))(D:Ends)(f:Flow)(s':hh):Prop :=
 match f with
 |.next=>∃b H',Inv X a b H' s'/\D.nx b H'
 |.brk=>∃b H',Inv X a b H' s'/\D.bk b H'
 |.cont=>∃b H',Inv X a b H' s'/\D.ct b H'
 |.ret u=>∃v b H',Inv X a b H' s'/\RelV v u/\D.rt v H'
abbrev PE(X:Cx)(e:my)(t:TE):Prop :=
 ∀(a:List (hH×Obj)) (s:hh) (σ:St) (H:Hp) (Q:VK),Inv X a σ H s->t σ H Q->et (hE X.prog X.w) X.A (vr e X.env) (EP X a σ Q) X.xe s
abbrev PT(X:Cx)(e:my)(t:TT):Prop :=
 ∀(a:List (hH×Obj)) (s:hh) (σ:St) (H:Hp) (Q:Bool->Hp->Prop),Inv X a σ H s->t σ H Q->et (hE X.prog X.w) X.A (isTrue e X.env (vr e X.env)) (TP X a σ Q) X.xe s
abbrev PW(X:Cx)(e:my)(t:TT):Prop :=
 ∀(b:Sem d3) (a:List (hH×Obj)) (s:hh) (σ:St) (H:Hp) (Q:Bool->Hp->Prop),Inv X a σ H s->t σ H Q->et (hE X.prog X.w) X.A (isTrue e X.env b) (TP X a σ Q) X.xe s
def PW.pt(h:PW X e t):PT X e t:=h _
abbrev PA(X:Cx)(es:List my)(t:TA):Prop :=
 ∀(pos:Pos) (a:List (hH×Obj)) (s:hh) (σ:St) (H:Hp) (Q:List V->Hp->Prop),Inv X a σ H s->t σ H Q->et (hE X.prog X.w) X.A (Yu (Ht pos (i5 es X.env))) (AP X a σ Q) X.xe s
abbrev PS(X:Cx)(st:Ly)(t:TS):Prop :=
 ∀(a:List (hH×Obj)) (s:hh) (σ:St) (H:Hp) (D:Ends),Inv X a σ H s->t D σ H->et (hE X.prog X.w) X.A (exec st X.env) (SP X a D) X.xe s
abbrev Hx(X:Cx)(st:List Ly)(t:TS):Prop :=
 ∀(a:List (hH×Obj)) (s:hh) (σ:St) (H:Hp) (D:Ends),Inv X a σ H s->t D σ H->et (hE X.prog X.w) X.A (execs st X.env) (SP X a D) X.xe s
def Gv(h:et M A t Q E s)(b:∀a s,Q a s->Q' a s):et M A t Q' E s:=tj h b λ_ _ x=>x
section
abbrev Fx(i:Nat):TE:=λσ H Q=>∃v,σ[i]?=bD (bD v)/\Q v H
abbrev tC(v:V):TE:=λ_ H Q=>Q v H
def bT(j:X.N[i]?=bD x)(k:HX X.env.scope x)(d:(x==("__debug__":Str))=cK:=by decide)(n:(x==("__classdict__":Str))=cK:=by decide):PE X (.Name x pos) (Fx i):=by
 intro b s σ H Q I h;have⟨v,e,h⟩:=h;have⟨m,o,hl⟩:=I.loc;have⟨u,r,l⟩:=hl i x v j e k;have a:EP X b σ Q u s:=⟨v,H,I,r,h⟩
 rcases l with⟨hk,p⟩|⟨hk,c,f,g⟩
 .show Yf (XQ I.ok.kind hk o p a) d
 .rcases hk with hk|hk
  .show Yf (X8 I.ok.kind hk f g a) d
  .show Yf (wpAny_loadName_free I.ok.kind hk f g a n) d
def nu:PE X (.Constant (.int i) j pos) (tC (.int i)):=λ_ _ _ H _ I h=>wpAny_Constant_int ⟨.int i,H,I.tok _,⟨_,rfl⟩,h⟩
def A6:PE X (.Constant (.bool b) j pos) (tC (.bl b)):=λ_ _ _ H _ I h=>Constant_bool ⟨.bl b,H,I,rfl,h⟩
def vn:PE X (.Constant .none j pos) (tC .GC):=λ_ _ _ H _ I h=>Constant_none ⟨.GC,H,I,rfl,h⟩
def vp:PE X (.Constant (.str x) j pos) (tC (.str x)):=λ_ _ _ H _ I h=>Calls.Constant_str ⟨.str x,H,I.tok _,⟨_,rfl⟩,h⟩
abbrev Gl(X:Cx)(x:Str):Prop:=X.env.kindOf x=bD .globalImplicit
def jJ(I:Inv X a σ H s)(b:Gl X x)(c:X.mg x=bD u)(h:Q u s)
  (d:(x==("__debug__":Str))=cK:=by decide):et (hE X.prog X.w) X.A (vr (.Name x pos) X.env) Q E s :=
 Uy I.ok.kind b (Calls.loadGlobal_global (by rw[I.ok.glob];show I.mod.glob.keeps I.bk) c h) d
def d4(I:Inv X a σ H s)(b:Gl X x)(c:X.mg x=cb)(d:G8 x=bD u)(h:Q u s)
  (e:x≠"__name__":=by decide) (f:(x==("__debug__":Str))=cK:=by decide):et (hE X.prog X.w) X.A (vr (.Name x pos) X.env) Q E s:=by
 have⟨j,g,i⟩:=I.mod.blt;show Uy I.ok.kind b (Calls.loadGlobal_builtin (by rw[I.ok.glob];show I.mod.glob.keeps I.bk) c (by rw[I.ok.blt];show g.keeps I.bk) ((i x e).trans d) h) f
def yK(a:Gl X x)(b:X.mg x=bD u)(r:RelV v u)(c:(x==("__debug__":Str))=cK:=by decide):PE X (.Name x pos) (tC v) :=
 λ_ _ _ H _ I h=>jJ I a b ⟨v,H,I,r,h⟩ c
abbrev PC(X:Cx)(op:CmpOp)(a b:my)(t:TE):Prop :=
 ∀(c:List (hH×Obj)) (s:hh) (σ:St) (H:Hp) (Q:VK),Inv X c σ H s->t σ H Q ->
  et (hE X.prog X.w) X.A (vr a X.env) (λv d=>et (hE X.prog X.w) X.A (vr b X.env) (λu e=>et (hE X.prog X.w) X.A (Ny op v u) (EP X c σ Q) X.xe e) X.xe d) X.xe s
abbrev tB(t:TE):TT:=λσ H Q=>t σ H λx a=>∃c,x=.bl c/\Q c a
def vq(h:PC X op a b t)(f:O0 op b=cK:=by first|show n _ (by decide) (by decide)|rfl):PT X (.Compare a [op] [b] pos) (tB t):=by
 intro e s σ H Q I g;show XF (Gv (h e s σ H _ I g) λv s1 f=>Gv f λu s2 i=>Gv i λc s3 ⟨x,j,k,l,m⟩=>?_) f;have⟨d,rfl,q⟩:=m;cases l;show IL ⟨j,k,q⟩
abbrev Fy(t u:TT):TT:=λσ H Q=>t σ H λc a=>if c=b6 then u σ a Q else Q cK a
abbrev TH(t u:TT):TT:=λσ H Q=>t σ H λc a=>if c=b6 then Q b6 a else u σ a Q
abbrev Fz(t:TT):TT:=λσ H Q=>t σ H λc a=>Q (!c) a
def yL(d:PT X a f):PW X (.BoolOp .And [a] pos) f:=by
 intro g b s σ H Q I h;show isTrue_and (Gv (d b s σ H Q I h) λc s1 e=>?_);cases c with
 |true=>show Zi e
 |false=>show e
def BK(d:PT X a f):PW X (.BoolOp .Or [a] pos) f:=by
 intro g b s σ H Q I h;show isTrue_or (Gv (d b s σ H Q I h) λc s1 e=>?_);cases c with
 |false=>show isTrue_or_nil e
 |true=>show e
def BL(i:PT X a j)(k:PW X (.BoolOp .And (b::rest) pos) l):PW X (.BoolOp .And (a::b::rest) pos) (Fy j l):=by
 intro m d s σ H Q I h;show isTrue_and (Gv (i d s σ H _ I h) λc s1 n=>?_);have⟨e,f,g⟩:=n;cases c with
 |true=>show k m d s1 σ e Q f g
 |false=>show⟨e,f,g⟩
def DI(i:PT X a j)(k:PW X (.BoolOp .Or (b::rest) pos) l):PW X (.BoolOp .Or (a::b::rest) pos) (TH j l):=by
 intro m d s σ H Q I h;show isTrue_or (Gv (i d s σ H _ I h) λc s1 n=>?_);have⟨e,f,g⟩:=n;cases c with
 |true=>show⟨e,f,g⟩
 |false=>show k m d s1 σ e Q f g
def BM(d:PT X a e):PT X (.UnaryOp .Not a pos) (Fz e):=by
 intro b s σ H Q I h;show isTrue_not (d b s σ H (λc f=>Q (!c) f) I h)
abbrev DJ(b d:TE):TE:=λσ H Q=>b σ H λx a=>∃c,x=.bl c/\if c=b6 then d σ a Q else Q (.bl cK) a
abbrev DK(a:TE):TE:=λσ H Q=>a σ H λx b=>∃c,x=.bl c/\Q (.bl (!c)) b
def BN(h:PE X a t):PE X (.BoolOp op [a] pos) t:=λb s σ H Q I c=>BoolOp_one (h b s σ H Q I c)
def BO(i:PE X a j)(k:PE X (.BoolOp .And (b::rest) pos) l):PE X (.BoolOp .And (a::b::rest) pos) (DJ j l):=by
 intro d s σ H Q I h;show BoolOp_and (Gv (i d s σ H _ I h) λv s1 m=>?_);have⟨x,f,g,n,e⟩:=m;have⟨c,rfl,e⟩:=e;cases n;show IL ?_;cases c with
 |true=>show k d s1 σ f Q g e
 |false=>show⟨.bl cK,f,g,rfl,e⟩
def BP(e:PE X a f):PE X (.UnaryOp .Not a pos) (DK f):=by
 intro b s σ H Q I h;show UnaryOp_ (Gv (e b s σ H _ I h) λv s1 g=>?_);have⟨x,i,j,k,d⟩:=g;have⟨c,rfl,d⟩:=d;cases k;show not_of (IL ⟨.bl (!c),i,j,rfl,d⟩)
abbrev TQ(t:TT)(b d:TE):TE:=λσ H Q=>t σ H λc a=>if c=b6 then b σ a Q else d σ a Q
def vt(j:PT X c k)(l:PE X a m)(n:PE X b o):PE X (.IfExp c a b pos) (TQ k m o):=by
 intro e s σ H Q I h;show wpAny_IfExp (Gv (j e s σ H _ I h) λd s1 p=>?_);have⟨f,g,i⟩:=p;cases d with
 |true=>show l e s1 σ f Q g i
 |false=>show n e s1 σ f Q g i
end
abbrev G2(K:PySem.W.Frag)(H:Hp)(a:hH)(xs:List V):Prop :=
 Rd H a (.lst xs) \/
  ∃(o:Obj) (b:Array d3) (n:Nat),K.lookup a=bD o/\o.cls=.type "list"/\o.dict=cb/\o.data=.seq b n/\b.size<=df/\Vals xs b.toList
abbrev Hb(K:PySem.W.Frag)(H:Hp)(a:hH)(xs:List V):Prop :=
 Rd H a (.tup xs) \/
  ∃(o:Obj) (b:Array d3) (n:Nat),K.lookup a=bD o/\o.cls=.type "tuple"/\o.data=.seq b n/\b.size<=df/\Vals xs b.toList
abbrev FA:d3->Option V
 |.none=>bD .GC
 |.bool b=>bD (.bl b)
 |.int i _=>bD (.int i)
 |.str x _=>bD (.str x)
 |.bytes b _=>bD (.N8 b)
 |.float b _=>bD (.N9 b)
 |.ref a=>bD (.ref a)
 |.type n=>bD (.ty n)
 |_=>cb
def RelV.abs(r:RelV x u):FA u=bD x:=by
 cases x with
 |GC=>cases r;rfl
 |bl _=>cases r;rfl
 |ref _=>cases r;rfl
 |ty _=>cases r;rfl
 |_=>have⟨t,rfl⟩:=r;rfl
def RelV.inj(r:RelV x u)(q:RelV y u):x=y:=td (r.abs.symm.trans q.abs)
theorem Vals.inj:∀{xs ys:List V}{us:List d3},Vals xs us->Vals ys us->xs=ys
 |_,_,_,.nil,.nil=>rfl
 |_,_,_,.cons r t,.cons a t'=>by rw[r.inj a,Vals.inj t t']
section
def G2.of{K:PySem.W.Frag}(h:H a=bD (.lst xs)):G2 K H a xs:=.inl (.inl h)
def Hb.of{K:PySem.W.Frag}(h:H a=bD (.tup xs)):Hb K H a xs:=.inl (.inl h)
def Inv.list(I:Inv X c σ H s)(h:G2 X.K H a xs):∃b:List d3,Vals xs b/\PlainL s.heap a b.toArray/\xs.length<=df:=by
 rcases h with h|⟨o,b,n,hk,d,f,hs,hz,r⟩
 .have⟨z,b,n,r,e⟩:=h.ok I.Gu;show⟨b,r,⟨_,n,e,rfl,rfl,rfl⟩,z⟩
 .show⟨b.toList,r,⟨o,n,I.KP a o hk,d,f,by simpa using hs⟩,?_⟩;have e:=r.length;simp only[hU]at e;lia
def Inv.tuple(I:Inv X c σ H s)(h:Hb X.K H a xs):∃b:List d3,Vals xs b/\Zk s.heap a b.toArray/\xs.length<=df:=by
 rcases h with h|⟨o,b,n,hk,d,hs,hz,r⟩
 .have⟨z,b,r,p⟩:=h.ok I.Gu;show⟨b,r,p,z⟩
 .show⟨b.toList,r,⟨o,I.KP a o hk,d,n,by simpa using hs⟩,?_⟩;have e:=r.length;simp only[hU]at e;lia
def Inv.oW(I:Inv X b σ H s)(h:G2 X.K H a xs)(h':G2 X.K H a ys):xs=ys:=by
 obtain⟨f,r,⟨o,n,e,_,_,d⟩,_⟩:=I.list h;obtain⟨its',g,⟨o',j,c,_,_,d'⟩,_⟩:=I.list h';rw[e]at c;cases c;rw[d]at d';injection d' with i _
 have:f=its':=by simpa using Zq Wb i
 subst this;show r.inj g
def Inv.lS(I:Inv X b σ H s)(h:Hb X.K H a xs)(h':Hb X.K H a ys):xs=ys:=by
 obtain⟨f,r,⟨o,e,_,n,d⟩,_⟩:=I.tuple h;obtain⟨its',g,⟨o',c,_,j,d'⟩,_⟩:=I.tuple h';rw[e]at c;cases c;rw[d]at d';injection d' with i _
 have:f=its':=by simpa using Zq Wb i
 subst this;show r.inj g
end
@[reducible]def Cx.lC(X:Cx)(E:d3->hh->Prop):Cx:={X with xe:=E}
@[reducible]def Cx.Mk(X:Cx):Cx:=X.lC λ_ _=>False
def Cx.Ok.lC{X:Cx}(a:X.Ok)(E:d3->hh->Prop):(X.lC E).Ok :=
 ⟨a.mod,a.kind,a.glob,a.blt,a.above,a.inj,a.has,a.MQ,a.hd,a.frames,a.N',a.R3,a.bs,a.KO,a.JP,a.Kk,a.jU,a.Mi⟩
def Cx.Ok.iP{X:Cx}(a:(X.lC E).Ok):X.Ok :=
 ⟨a.mod,a.kind,a.glob,a.blt,a.above,a.inj,a.has,a.MQ,a.hd,a.frames,a.N',a.R3,a.bs,a.KO,a.JP,a.Kk,a.jU,a.Mi⟩
section
def Inv.lC(I:Inv X a σ H s)(E:d3->hh->Prop):Inv (X.lC E) a σ H s:=⟨I.ok.lC E,I.os,I.bare,I.base,I.loc,I.cell,I.free,I.Ha,I.pin,I.Gu,I.len⟩
def Inv.iP(I:Inv (X.lC E) a σ H s):Inv X a σ H s:=⟨I.ok.iP,I.os,I.bare,I.base,I.loc,I.cell,I.free,I.Ha,I.pin,I.Gu,I.len⟩
def SP.iP(h:SP (X.lC E) a D f s'):SP X a D f s':=by
 cases f with
 |ret u=>have⟨v,b,H',I,r,q⟩:=h;show⟨v,b,H',I.iP,r,q⟩
 |_=>have⟨b,H',I,q⟩:=h;show⟨b,H',I.iP,q⟩
def Hx.Mk{st:List Ly}(h:Hx X.Mk st t):Hx X st t:=λa s σ H D I b =>
 tj (h a s σ H D (I.lC _) b) (λ_ _ q=>q.iP) λ_ _ z=>LB z
end
section
variable{X:Cx}{st:Ly}{rest:List Ly}{t u:TS}{e:my}{te:TE}{pos:Pos}
abbrev DL:TS:=λD σ H=>D.nx σ H
abbrev FC(t u:TS):TS:=λD σ H=>t {D with nx:=u D} σ H
def yM:Hx X [] DL:=λ_ _ σ H _ I h=>V_ ⟨σ,H,I,h⟩
def vv(b:PS X st t)(c:Hx X rest u):Hx X (st::rest) (FC t u):=by
 intro a s σ H D I h;show wpAny_execs_cons (Gv (b a s σ H {D with nx:=u D} I h) λf s1 q=>?_);cases f with
 |next =>
  have⟨d,H',g,q⟩:=q;show c a s1 d H' D g q
 |_=>show q
def Inv.quiet(I:Inv X a σ H s):interactive X.env=cK:=by simp[interactive,I.ok.kind]
abbrev DM(te:TE):TS:=λD σ H=>te σ H λ_ a=>D.nx σ a
def gX(b:PE X e te)(hs:Oz e cb pos.line X.env=pure cK:=by rfl):PS X (.Expr e pos) (DM te):=by
 intro a s σ H D I h;show wpAny_Expr_any (Gv (b a s σ H _ I h) λv s1 ⟨x,c,d,g,f⟩=>⟨σ,c,d,f⟩) I.quiet hs
abbrev FD(te:TE):TS:=λD σ H=>te σ H D.rt
def vA(b:PE X e te):PS X (.Return (bD e) pos) (FD te):=by
 intro a s σ H D I h;show wpAny_Return_some (Gv (b a s σ H _ I h) λv s1 ⟨x,c,d,f,g⟩=>⟨x,σ,c,d,f,g⟩)
abbrev DN:TS:=λD _ H=>D.rt .GC H
def yN:PS X (.Return cb pos) DN:=λ_ _ σ H _ I h=>wpAny_Return_none ⟨.GC,σ,H,I,rfl,h⟩
abbrev FE(c:TT)(t u:TS):TS:=λD σ H=>c σ H λb a=>if b=b6 then t D σ a else u D σ a
def DO(k:PT X c l)(m:Hx X a t)(n:Hx X b u):PS X (.If c a b pos) (FE l t u):=by
 intro f s σ H D I h;show wpAny_If (Gv (k f s σ H _ I h) λd s1 o=>?_);have⟨g,i,j⟩:=o;cases d with
 |true=>show m f s1 σ g D i j
 |false=>show n f s1 σ g D i j
end
@[reducible]def TG:=V->St->Hp->(St->Hp->Prop)->Prop
@[reducible]def Ml:=List V->St->Hp->(St->Hp->Prop)->Prop
abbrev PG(X:Cx)(a:my)(t:TG):Prop :=
 ∀(b:List (hH×Obj)) (s:hh) (σ:St) (H:Hp) (v:V) (u:d3) (Q:St->Hp->Prop),Inv X b σ H s->RelV v u->t v σ H Q ->
  et (hE X.prog X.w) X.A (PR a X.env u) (λ_ s'=>∃c H',Inv X b c H' s'/\Q c H') X.xe s
abbrev MU(X:Cx)(c:List my)(t:Ml):Prop :=
 ∀(a:List (hH×Obj)) (s:hh) (σ:St) (H:Hp) (vs:List V) (us:List d3) (Q:St->Hp->Prop),Inv X a σ H s->Vals vs us->t vs σ H Q ->
  et (hE X.prog X.w) X.A (assignInOrder ((Nn c X.env).map (·.2)) us) (λ_ s'=>∃b H',Inv X a b H' s'/\Q b H') X.xe s
@[reducible]def BQ:=V->V->V->Hp->(Hp->Prop)->Prop
abbrev nv(X:Cx)(t:BQ):Prop :=
 ∀(a:List (hH×Obj)) (s:hh) (σ:St) (H:Hp) (o i v:V) (b c u:d3) (Q:Hp->Prop),Inv X a σ H s->RelV o b->RelV i c->RelV v u->t o i v H Q ->
  et (hE X.prog X.w) X.A (QY b c u) (λ_ s'=>∃H',Inv X a σ H' s'/\Q H') X.xe s
@[reducible]def Oc:=V->V->Hp->VK->Prop
abbrev MV(X:Cx)(op:XW)(t:Oc):Prop :=
 ∀(a:List (hH×Obj)) (s:hh) (σ:St) (H:Hp) (x y:V) (v u:d3) (Q:VK),Inv X a σ H s->RelV x v->RelV y u->t x y H Q ->
  et (hE X.prog X.w) X.A (inplaceOp op v u) (EP X a σ Q) X.xe s
section
abbrev rZ(i:Nat):TG:=λv σ H Q=>Q (σ.set i (bD v)) H
def r9(b:X.N.Nodup)(c:X.N[i]?=bD x)(d:Loc X.env.scope x)(e:X.fn x=b6\/X.env.scope.names.lookup x=bD .local:=by first|show .inl rfl|show .inr rfl|assumption):PG X (.Name x pos) (rZ i):=by
 intro a s σ H v u Q I r h;show Yt (jX I b c d r (λs' f=>⟨_,H,f,h⟩) e)
abbrev DP:Ml:=λvs σ H Q=>vs=[]/\Q σ H
abbrev A7(t:TG)(u:Ml):Ml:=λvs σ H Q=>∃v r,vs=v::r/\t v σ H λa H'=>u r a H' Q
def yO:MU X [] DP:=by
 intro a s σ H vs us Q I r h;have⟨e,h⟩:=h;subst e;cases r;show assignInOrder_nil ⟨σ,H,I,h⟩
def vB(b:PG X e t)(c:MU X es u)
  (hs:(Nn (e::es) X.env).map (·.2)=PR e X.env::(Nn es X.env).map (·.2):=by rfl):MU X (e::es) (A7 t u):=by
 intro a s σ H vs us Q I r h;have⟨v,m,d,h⟩:=h;subst d;cases r with
 |cons r f =>
  rw[hs];show assignInOrder_cons (Gv (b a s σ H _ _ _ I r h) λ_ s1 g=>?_);have⟨i,j,k,l⟩:=g;show c a s1 i j _ _ Q k f l
abbrev FF(K:PySem.W.Frag)(n:Nat)(t:Ml):TG:=λv σ H Q=>∃a xs,v=.ref a/\Hb K H a xs/\xs.length=n/\t xs σ H Q
def BR(f:X.calm=b6)(h:MU X es t)
  (g:(Nn es X.env).length=n:=by rfl) (i:(Nn es X.env).findIdx? (·.1)=cb:=by rfl):PG X (.Tuple es k pos) (FF X.K n t):=by
 intro c s σ H v u Q I r d;have⟨a,xs,j,l,hl,d⟩:=d;subst j;cases r;have⟨w,rv,m,hz⟩:=I.tuple l;show assign_Tuple_tuple (I.ok.hd f) m (by simp[g,<-hl,rv.length]) i λh' p=>?_;have q:Inv X c σ H {s with heap:=h' }:=I.kept (t':=s.toks) λb o e=>p b o (hZ (gc e)) e;show h c _ σ H xs _ Q q (by simpa using rv) d
abbrev FG(a b:TE)(t:BQ):TG:=λv σ H Q=>a σ H λo c=>b σ c λi d=>t o i v d λe=>Q σ e
def vC(ho:PE X o d)(e:PE X i f)(hs:nv X t)
  (g:∀v,PR (.Subscript o i pos) X.env v=(do
   let b <-Ko [v] (vr o X.env)
   let c <-Ko [v,b] (vr i X.env)
   Wc pos
   Ko [v,b,c] (QY b c v)
   T7 [v,b,c] []):=by intro _;rfl):PG X (.Subscript o i pos) (FG d f t):=by
 intro a s σ H v u Q I r h;rw[g];show b5 (tr (Gv (ho a s σ H _ I h) λb s1 j=>?_));have⟨x,k,l,m,n⟩:=j;show b5 (tr (Gv (e a s1 σ k _ l n) λc s2 p=>?_));have⟨y,q,w,z,A⟩:=p;show b5 (WK (b5 (tr (Gv (hs a s2 σ q x y v b c u _ w m z r A) λ_ s3 B=>?_))));have⟨C,D,G⟩:=B;show wpAny_release ⟨σ,C,D,G⟩
abbrev BS(a:TE)(g:TG):TS:=λD σ H=>a σ H λx b=>g x σ b D.nx
def qy(c:PE X e d)(f:PG X b g)(hs:OS [b] e pos.line X.env=pure cK:=by rfl)(i:SD [b] e X.env=pure cb:=by rfl)
  (j:(Nn [b] X.env).map (·.2)=[PR b X.env]:=by rfl):PS X (.Assign [b] e pos) (BS d g):=by
 intro a s σ H D I h;show wpAny_Assign_stores (Gv (c a s σ H _ I h) λv s1 ⟨x,k,l,m,n⟩=>?_) hs i;rw[j];show Gv (f a s1 σ k x v _ l m n) λ_ s2 q=>q
def vD(c:X.N.Nodup)(d:X.N[i]?=bD x)(f:Loc X.env.scope x)(g:PE X e j)(hs:Oz e (bD (.Name x a)) pos.line X.env=pure cK:=by rfl)(k:X.fn x=b6\/X.env.scope.names.lookup x=bD .local:=by first|show .inl rfl|show .inr rfl|assumption):
  PS X (.Assign [.Name x a] e pos) (BS j (rZ i)):=by
 intro b s σ H D I h;show wpAny_Assign_Name (Gv (g b s σ H _ I h) λv s1 ⟨y,l,m,n,o⟩=>?_) hs;show jX m c d f n (λs2 p=>⟨_,l,p,o⟩) k
abbrev FH(i:Nat)(a:TE)(b:Oc):TS:=λD σ H=>∃x,σ[i]?=bD (bD x)/\a σ H λy c=>b x y c λz d=>D.nx (σ.set i (bD z)) d
def BU(g:X.N.Nodup)(d:X.N[i]?=bD x)(b:Loc X.env.scope x)(j:PE X e n)(ho:MV X op o)(p:X.fn x=b6\/X.env.scope.names.lookup x=bD .local:=by first|show .inl rfl|show .inr rfl|assumption):
  PS X (.AugAssign (.Name x f) op e pos) (FH i n o):=by
 intro a s σ H D I h;have⟨v,q,h⟩:=h;have⟨m,t,hl⟩:=I.loc;have B:HX X.env.scope x:=by rcases b with k|k;show .inl k;show .inr (.inl k)
 have⟨u,r,l⟩:=hl i x v d q B;show wpAny_AugAssign_Name ?_;have go:et (hE X.prog X.w) X.A (vr e X.env) (λw C=>et (hE X.prog X.w) X.A (inplaceOp op u w) (λr G=>et (hE X.prog X.w) X.A (YM X.env x r) (λ_=>SP X a D .next) X.xe G) X.xe C) X.xe s:=by
  show Gv (j a s σ H _ I h) λw s1 J=>?_;have⟨y,L,O,Q,T⟩:=J;show Gv (ho a s1 σ L v y u w _ O r Q T) λz s2 Y=>?_;have⟨zv,H2,I2,r2,q2⟩:=Y;show jX I2 g d b r2 (λs3 I3=>⟨_,H2,I3,q2⟩) p
 rcases l with⟨hk,hm⟩|⟨hk,c,hc,Jj⟩
 .show XQ I.ok.kind hk t hm go
 .rcases hk with hk|hk
  .show X8 I.ok.kind hk hc Jj go
  .rcases b with k|k
   .have:X.env.scope.names.lookup x=bD .free:=hk;rw[k]at this;cases this
   .have:X.env.scope.names.lookup x=bD .free:=hk;rw[k]at this;cases this
abbrev DQ(a b c:TE)(d:V->V->Hp->VK->Prop)(e:Oc)(f:BQ):TS:=λD σ H=>a σ H λo g=>b σ g λi h=>d o i h λx j=>c σ j λy k=>e x y k λz l=>f o i z l λm=>D.nx σ m
abbrev DR(X:Cx)(t:V->V->Hp->VK->Prop):Prop :=
 ∀(a:List (hH×Obj)) (s:hh) (σ:St) (H:Hp) (o i:V) (b c:d3) (Q:VK),Inv X a σ H s->RelV o b->RelV i c->t o i H Q ->
  et (hE X.prog X.w) X.A (T9 b c) (EP X a σ Q) X.xe s
def yP(ho:PE X o l)(m:PE X i n)(p:DR X q)(r:PE X e t)(u:MV X op w)(hs:nv X x)
  (y:∀b c new,Zb i b c new=(do Ko [new,b,c] (QY b c new);T7 [new,b,c] [];pure .next):=by intros;rfl):PS X (.AugAssign (.Subscript o i T1) op e pos) (DQ l n t q w x):=by
 intro a s σ H D I h;show wpAny_AugAssign_SubscriptAny (Gv (ho a s σ H _ I h) λb s1 ⟨f,z,A,g,B⟩=>?_) y;show Gv (m a s1 σ z _ A B) λc s2 C=>?_;have⟨j,G,J,k,L⟩:=C;show Gv (p a s2 σ G f j b c _ J g k L) λd s3 N=>?_;have⟨O,Q,T,Y,q3⟩:=N;show Gv (r a s3 σ Q _ T q3) λv s4 Pj=>?_;have⟨x4,H4,I4,r4,q4⟩:=Pj;show Gv (u a s4 σ H4 O x4 d v _ I4 Y r4 q4) λnew s5 Pk=>?_;have⟨x5,H5,I5,r5,q5⟩:=Pk;show Gv (hs a s5 σ H5 f j x5 b c new _ I5 g k r5 q5) λ_ s6 ⟨H6,I6,q6⟩=>⟨σ,H6,I6,q6⟩
abbrev Pl(f:Int->Int->Int):Oc:=λx y H Q=>∃i j,x=.int i/\y=.int j/\Q (.int (f i j)) H
def vE:MV X .Add (Pl λi j=>i+j):=by
 intro a s σ H x y v u Q I b c h;have⟨i,j,d,e,q⟩:=h;subst d;subst e;have⟨t,rfl⟩:=b;have⟨t',rfl⟩:=c;show iadd_int ⟨.int _,H,I.tok _,⟨_,rfl⟩,q⟩
def BV:MV X .Sub (Pl λi j=>i - j):=by
 intro a s σ H x y v u Q I b c h;have⟨i,j,d,e,q⟩:=h;subst d;subst e;have⟨t,rfl⟩:=b;have⟨t',rfl⟩:=c;show isub_int ⟨.int _,H,I.tok _,⟨_,rfl⟩,q⟩
end
section
abbrev BW(c:TT)(f:TS):TS:=λD σ H=>∃W:Nat->St->Hp->Prop,(∃m,W m σ H)/\∀m σ H,W m σ H ->
 c σ H λb a=>if b=b6 then ∃N:St->Hp->Prop,(∀d H',N d H'->∃e,e<m/\W e d H')/\f {D with nx:=N,ct:=N,bk:=D.nx} σ a else D.nx σ a
def vF(r:Ve (hE X.prog X.w) X.A X.env X.xe)(z:PT X c B)(C:Hx X body G):PS X (.While c body [] pos) (BW B G):=by
 intro a s σ H D I h;obtain⟨W,⟨m0,J⟩,d⟩:=h;show wpAny_While (codeAny_whileLoop (λn s'=>∃t H',Inv X a t H' s'/\W n t H') ?_ m0 ⟨σ,H,I,J⟩);rintro n s1 ⟨i,u,L,O⟩;show Lq r (Gv (z a s1 i u _ L (d n i u O)) λb s2 Q=>?_);have⟨v,x,j⟩:=Q;cases b with
 |true =>
  have⟨N,y,j⟩:=j;rw[Zm rfl];show Lq r (Gv (C a s2 i v _ x j) λf s3 k=>?_);cases f with
  |next =>
   have⟨e,g,l,m⟩:=k;have⟨o,p,q⟩:=y e g m;show⟨o,p,e,g,l,q⟩
  |cont =>
   have⟨e,g,l,m⟩:=k;have⟨o,p,q⟩:=y e g m;show⟨o,p,e,g,l,q⟩
  |_=>show k
 |false =>
  rw[Zn ke];show V_ ⟨i,v,x,j⟩
end
structure It where
 go:Nat->Hp->Prop
 Oe:Nat->Hp->V->Hp->Prop
 stop:Nat->Hp->Prop
abbrev gY(X:Cx)(a:List (hH×Obj))(H:Hp)(b:hH):Prop :=
 H b=cb/\b≠X.env.locals/\b∉X.fs/\(b∈X.ex\/X.s₀.heap.objs.size<=b)/\(∀x c,X.env.cells.lookup x=bD c->c≠b)/\∀p∈X.pn++a,p.1≠b
def Inv.vG(I:Inv X a σ H s)(d:s.heap.objs.size<=b)(f:H' b=cb):gY X a H' b:=by
 show⟨f,HS (i9 I.lt d),I.BJ d,.inr (t4 I.sz d),λx c e z=>?_,λp g z=>?_⟩
 .have⟨v,q⟩:=I.cell x c e;show absurd (i9 q.lt (by rw[z];show d)) (uv _)
 .show absurd (i9 (gc (I.pin p g).1) (by rw[z];show d)) (uv _)
structure Turn(P:wh)(w:G1)(K:PySem.W.Frag)(tg:my)(J:It)(fp:List hH)(it:hH)(tn:Nat->Ic->Prop):Prop where
 mem:it∈fp
 obj:∀i h,tn i h->∀b∈fp,∃o,h.get? b=bD o/\∀v,o.data≠.cell v
 keep:∀i h h',tn i h->(∀b∈fp,∀o,h.get? b=bD o->h'.get? b=bD o)->tn i h'
 item:∀(X:Cx),X.prog=P->X.w=w->X.K=K->X.calm=b6->∀(i:Nat) (pins:List (hH×Obj)) (s:hh) (σ:St) (H:Hp) (E:d3->hh->Prop),Inv X pins σ H s->(∀b∈fp,gY X pins H b)->tn i s.heap->J.go i H ->
  et (hE P w) X.A (Q0 (.ref it)) (λr s1=>∃u,r=bD u /\
   et (hE P w) X.A (RC tg (.ref it) u) (λ_ s2=>∃x H',Inv X pins σ H' s2/\RelV x u/\J.Oe i H x H'/\tn (i+1) s2.heap/\∀b∈fp,H' b=cb) E s1) E s
 done:∀(X:Cx),X.prog=P->X.w=w->X.K=K->X.calm=b6->∀(i:Nat) (pins:List (hH×Obj)) (s:hh) (σ:St) (H:Hp) (E:d3->hh->Prop),Inv X pins σ H s->(∀b∈fp,gY X pins H b)->tn i s.heap->J.stop i H ->
  et (hE P w) X.A (Q0 (.ref it)) (λr s1=>r=cb/\Inv X pins σ H s1) E s
 self:∀(A:LU) (i:Nat) (s:hh) (Q:d3->hh->Prop) (E:d3->hh->Prop),tn i s.heap->Q (.ref it) s->et (hE P w) A (Wt (.ref it)) Q E s
@[reducible]def TI:=St->Hp->(It->Hp->Prop)->Prop
abbrev R8(X:Cx)(a:List (hH×Obj))(σ:St)(e:my)(R:It->Hp->Prop)(f:d3)(s2:hh):Prop :=
 ∃(it:hH) (c:List hH) (d:Nat->Ic->Prop) (J:It) (H':Hp),f=.ref it/\Inv X a σ H' s2/\Turn X.prog X.w X.K e J c it d/\d 0 s2.heap/\(∀b∈c,gY X a H' b)/\R J H'
abbrev PI(X:Cx)(c b:my)(d:TI):Prop :=
 ∀(a:List (hH×Obj)) (s:hh) (σ:St) (H:Hp) (R:It->Hp->Prop),Inv X a σ H s->d σ H R ->
  et (hE X.prog X.w) X.A (vr b X.env) (λv s1=>et (hE X.prog X.w) X.A (Wt v) (R8 X a σ c R) X.xe s1) X.xe s
def vH(ho:s.heap.get? it=bD o)(b:o.cls=.type n)(c:o.data=.fields vs)
    (d:["enumerate","zip","dict_itemiterator","dict_reverseitemiterator","odict_iterator","itertools.zip_longest","itertools.pairwise"].contains n=cK) (a:Q () s):et M A (RC e (.ref it) u) Q E s:=by
  unfold RC;cases e<;>first
    | show dV a
    | (cases u<;>first
        | show dV a
        | (show b5 (Ye ho ?_)
           rw[b,c];change et M A (if (["enumerate","zip","dict_itemiterator","dict_reverseitemiterator","odict_iterator","itertools.zip_longest","itertools.pairwise"].contains n&&vs[0]?==bD (u6 _))=b6 then _ else _) Q E s;rw[Zn (by intro h;rw[d,Yd]at h;cases h)];show dV a))
abbrev Po(K:PySem.W.Frag)(a:hH):It :=
 ⟨λi H=>∃xs x,G2 K H a xs/\xs[i]?=bD x,λi H x H'=>H'=H/\∀xs,G2 K H a xs->xs[i]?=bD x,λi H=>∃xs,G2 K H a xs/\xs.length<=i⟩
abbrev Pp(K:PySem.W.Frag)(a:hH):It :=
 ⟨λi H=>∃xs x,Hb K H a xs/\xs[i]?=bD x,λi H x H'=>H'=H/\∀xs,Hb K H a xs->xs[i]?=bD x,λi H=>∃xs,Hb K H a xs/\xs.length<=i⟩
abbrev Og(lo:Int)(n:Nat):It:=⟨λi _=>i<n,λi H x H'=>H'=H/\x=.int (lo+i),λi _=>n<=i⟩
def t9{K:PySem.W.Frag}(a it:hH):Turn P w K tg (Po K a) [it] it (λi h=>h.IsListIter it a i) where
 mem:=by simp
 obj:=λi h st b g=>by
  have e:b=it:=by simpa using g
  subst e;have⟨o,e,c,d⟩:=st;show⟨o,e,λv z=>by rw[d]at z;cases z⟩
 keep:=λi h h' st k=>st.at λo e=>k it (by simp) o e
 item:=by
  intro X m n q G i f s σ H E I j st r;subst m n q;have⟨xs,x,l,t⟩:=r;have⟨J,rv,p,hz⟩:=I.list l;have⟨u,L,N⟩:=rv.get t;have⟨y,A,O,B,C,D⟩:=j it (by simp);show wpAny_pyNext_list_item st p.isList (x:=u) (by simpa using L) λh' st' Q=>?_;have T:Inv X f σ H {s with heap:=h' }:=I.turned (t':=s.toks) (λb o g e=>(Q.2 b g).trans e) y A B C D;have⟨o,e,c,d⟩:=id st';show⟨u,rfl,vH (s:={s with heap:=h' }) e c d (by decide) ⟨x,H,T,N,⟨rfl,λys Y=>by rw[I.oW Y l];show t⟩,st',λb g=>(j b g).1⟩⟩
 done:=by
  intro X m n q G i f s σ H E I j st r;subst m n q;have⟨xs,l,t⟩:=r;have⟨J,rv,p,hz⟩:=I.list l;have⟨y,A,O,B,C,D⟩:=j it (by simp);have hl:=rv.length;show wpAny_pyNext_list_end (I.ok.hd G) st p.isList (by simp;lia) λh' eb=>⟨rfl,I.turned (t':=s.toks) (λb o g e=>eb b o g e) y A B C D⟩
 self:=λ_ _ _ _ _ st h=>wpAny_pyIter_listiter st h
def qz{K:PySem.W.Frag}(a it:hH):Turn P w K tg (Pp K a) [it] it (λi h=>h.IsTupleIter it a i) where
 mem:=by simp
 obj:=λi h st b g=>by
  have e:b=it:=by simpa using g
  subst e;have⟨o,e,c,d⟩:=st;show⟨o,e,λv z=>by rw[d]at z;cases z⟩
 keep:=λi h h' st k=>st.at λo e=>k it (by simp) o e
 item:=by
  intro X m n q J i f s σ H E I j st r;subst m n q;have⟨xs,x,l,t⟩:=r;have⟨y,rv,p,hz⟩:=I.tuple l;have⟨u,L,N⟩:=rv.get t;have⟨A,B,O,C,D,G⟩:=j it (by simp);show wpAny_pyNext_tuple_item st (show s.heap.IsTuple a y.toArray from p) (x:=u) (by simpa using L) λh' st' Q=>?_;have T:Inv X f σ H {s with heap:=h' }:=I.turned (t':=s.toks) (λb o g e=>(Q.2 b g).trans e) A B C D G;have⟨o,e,c,d⟩:=id st';show⟨u,rfl,vH (s:={s with heap:=h' }) e c d (by decide) ⟨x,H,T,N,⟨rfl,λys Y=>by rw[I.lS Y l];show t⟩,st',λb g=>(j b g).1⟩⟩
 done:=by
  intro X m n q J i f s σ H E I j st r;subst m n q;have⟨xs,l,t⟩:=r;have⟨y,rv,p,hz⟩:=I.tuple l;have⟨A,B,O,C,D,G⟩:=j it (by simp);have hl:=rv.length;show wpAny_pyNext_tuple_end (I.ok.hd J) st (show s.heap.IsTuple a y.toArray from p) (by simp;lia) λh' eb=>⟨rfl,I.turned (t':=s.toks) (λb o g e=>eb b o g e) A B C D G⟩
 self:=λ_ _ _ _ _ st h=>wpAny_pyIter_tupleiter st h
def qA{K:PySem.W.Frag}(it:hH)(lo:Int)(n:Nat):Turn P w K L (Og lo n) [it] it (λi h=>IsRangeIter h it (lo+(i:Nat) * 1) ((n:Int) - (i:Nat)) 1) where
 mem:=by simp
 obj:=λi h st b c=>by
  have e:b=it:=by simpa using c
  subst e;show⟨_,st,λv z=>by
   have A:QI _=Wa v:=z;cases A⟩
 keep:=λi h h' st k=>k it (by simp) _ st
 item:=by
  intro X f g j l i a s σ H E I d st m;subst f g j;have⟨p,q,B,r,u,x⟩:=d it (by simp);have W:=Walks.range (prog:=X.prog) (w:=X.w) (I.ok.hd l) it lo 1 n;show W.item i s _ _ m st λv h' y C st' D=>?_;have⟨t,rfl⟩:=C;have G:Inv X a σ H {s with heap:=h',toks:=y}:=I.turned (λb o c e=>D b o (by simpa using c) e) p q r u x;show⟨_,rfl,vH (s:={s with heap:=h',toks:=y}) (n:="range_iterator") st' rfl rfl (by decide) ⟨.int (lo+i),H,G,⟨t,?_⟩,⟨rfl,rfl⟩,st',λb c=>(d b c).1⟩⟩;rw[Int.mul_one]
 done:=by
  intro X f g j l i a s σ H E I d st m;subst f g j;have⟨p,q,B,r,u,x⟩:=d it (by simp);show wpAny_pyNext_range_end (I.ok.hd l) st (by have:n<=i:=m;lia) λh' J=>⟨rfl,I.turned (t':=s.toks) (λb o c e=>J b o c e) p q r u x⟩
 self:=λ_ _ _ _ _ st h=>wpAny_pyIter_rangeiter st h
section
abbrev DS(K:PySem.W.Frag)(c:TE):TI:=λσ H R=>c σ H λx b=>∃a,x=.ref a/\(∃xs,G2 K b a xs)/\R (Po K a) b
abbrev FI(K:PySem.W.Frag)(c:TE):TI:=λσ H R=>c σ H λx b=>∃a,x=.ref a/\(∃xs,Hb K b a xs)/\R (Pp K a) b
def yQ(hl:PE X l f):PI X r l (DS X.K f):=by
 intro c s σ H R I h;show Gv (hl c s σ H _ I h) λv s1 g=>?_;have⟨x,i,d,j,k⟩:=g;obtain⟨a,e,⟨xs,m⟩,q⟩:=k;subst e;cases j;have⟨t,rv,p,hz⟩:=d.list m;show Qh p.isList ?_;show⟨s1.heap.objs.size,[s1.heap.objs.size],_,_,i,rfl,d.kept (t':=s1.toks) λb o e=>dt _ e,t9 a _,⟨_,fx _ rfl,rfl,rfl⟩,λb n=>?_,q⟩;have e:b=s1.heap.objs.size:=by simpa using n
 subst e;show d.vG (ix _) (d.Gu.fresh (ix _))
def BX(hl:PE X l f):PI X t l (FI X.K f):=by
 intro c s σ H R I h;show Gv (hl c s σ H _ I h) λv s1 g=>?_;have⟨x,i,d,j,k⟩:=g;obtain⟨a,e,⟨xs,m⟩,q⟩:=k;subst e;cases j;have⟨n,rv,p,hz⟩:=d.tuple m;show Nj (show s1.heap.IsTuple a n.toArray from p) ?_;show⟨s1.heap.objs.size,[s1.heap.objs.size],_,_,i,rfl,d.kept (t':=s1.toks) λb o e=>dt _ e,qz a _,⟨_,fx _ rfl,rfl,rfl⟩,λb r=>?_,q⟩;have e:b=s1.heap.objs.size:=by simpa using r
 subst e;show d.vG (ix _) (d.Gu.fresh (ix _))
def vI{lo a:Int}(I:Inv X c σ H s)(g:-(2 ^ 62)<=lo)(h:lo<2 ^ 62)(i:-(2 ^ 62)<=a)(j:a<2 ^ 62)
  (q:R (Og lo (a - lo).toNat) H):et (hE X.prog X.w) X.A (Wt (.ref s.heap.objs.size)) (R8 X c σ n R) E {s with heap:=s.heap.push {cls:=.type "range",data:=.fields #[.int lo t,.int a u,.int 1 v]},toks:=f}:=by
 show wpAny_pyIter_range (IsRange.new ..) (small_one g h i j) ?_;have d:Inv X c σ H {s with heap:=s.heap.push {cls:=.type "range",data:=.fields #[.int lo t,.int a u,.int 1 v]},toks:=f}:=I.kept λb o e=>dt _ e;show⟨(s.heap.push {cls:=.type "range",data:=.fields #[.int lo t,.int a u,.int 1 v]}).objs.size,[(s.heap.push {cls:=.type "range",data:=.fields #[.int lo t,.int a u,.int 1 v]}).objs.size],_,_,H,rfl,
  d.kept (t':=f) λb o e=>dt _ e,qA _ lo (a - lo).toNat,?_,λb k=>?_,q⟩
 .have l:lo+((0:Nat):Int) * 1=lo:=by simp
  have m:(((a - lo).toNat:Nat):Int) - ((0:Nat):Int)=YS lo a 1:=by rw[rangeSize_one];split<;>lia
  change IsRangeIter _ _ (lo+((0:Nat):Int) * 1) ((((a - lo).toNat:Nat):Int) - ((0:Nat):Int)) 1;rw[l,m];show fx _ rfl
 .have e:b=(s.heap.push {cls:=.type "range",data:=.fields #[.int lo t,.int a u,.int 1 v]}).objs.size:=by simpa using k
  subst e;show d.vG (ix _) (d.Gu.fresh (ix _))
abbrev DT(a:TA):TI:=λσ H R=>a σ H λvs b=>∃j:Int,vs=[.int j]/\-(2 ^ 62)<=j/\j<2 ^ 62/\R (Og 0 j.toNat) b
def t_(d:Gl X "range")(f:X.mg "range"=cb)(g:PA X [a] i)(hs:i5 [a] X.env=[(cK,vr a X.env)]:=by rfl):PI X o (.Call (.Name "range" p) [a] [] pos) (DT i):=by
 intro b s σ H R I h;show Call_ (d4 I d f boot_range (Ka (Gv (g pos b s σ H _ I h) λus s1 ⟨vs,u,k,l,c⟩=>?_) hs rfl));have⟨j,e,c,m,q⟩:=c;subst e;cases l with
 |cons r n =>
  cases n;have⟨t,rfl⟩:=r;show call_range_1 (vI k ⋯ ⋯ c m (by simpa using q))
abbrev FJ(c:TI)(g:TG)(d:TS):TS:=λD σ H=>c σ H λJ e=>∃W:Nat->Nat->St->Hp->Prop,(∃m,W 0 m σ e)/\∀i m σ H,W i m σ H ->
 (J.stop i H/\D.nx σ H)\/(J.go i H/\∃N:St->Hp->Prop,(∀a H',N a H'->∃b,b<m/\W (i+1) b a H')/\∀x H',J.Oe i H x H'->g x σ H' λf h=>d {D with nx:=N,ct:=N,bk:=D.nx} f h)
abbrev jY(a:List hH)(h:Ic):List (hH×Obj):=a.filterMap λb=>(h.get? b).map λo=>(b,o)
def eU(a:b∈c)(e:h.get? b=bD o):(b,o)∈jY c h:=Xi.mpr ⟨b,a,by rw[e];rfl⟩
def ua(a:p∈jY c h):p.1∈c/\h.get? p.1=bD p.2:=by
 have⟨b,d,e⟩:=Xi.mp a;cases q:h.get? b with
 |none=>rw[q]at e;cases e
 |some o =>
  rw[q]at e;have f:(b,o)=p:=td e;subst f;show⟨d,q⟩
def Inv.pinned(I:Inv X a σ H s)(h:∀b∈c,gY X a H b)(ho:∀b∈c,∃o,s.heap.get? b=bD o/\∀v,o.data≠.cell v):Inv X (a++jY c s.heap) σ H s :=
 I.dW λp i=>(i4.mp i).elim (λz=>I.pin p (kj _ z)) λz=>by
  have⟨f,e⟩:=ua z;obtain⟨j,k,l,_⟩:=h p.1 f;have⟨o,g,d⟩:=ho p.1 f;rw[e]at g;cases g;show⟨e,j,k,l,d⟩
def Inv.jZ(I:Inv X (a++c) σ H s):Inv X a σ H s:=I.dW λp b=>I.pin p (kj _ (x2 _ b))
def BY(t:Ve (hE X.prog X.w) X.A X.env X.xe)(hc:X.calm=b6)(hi:PI X tg p wi)(hg:PG X tg g)(c:Hx X body tb)
  (hs:∀x,JR p X.env x=pure x:=by intro _;rfl):PS X (.For tg p body [] pos) (FJ wi g tb):=by
 intro a s σ H D I h;show wpAny_For (Gv (hi a s σ H _ I h) λv s1 h1=>Gv h1 λOf s2 h2=>?_) hs;obtain⟨it,y,tn,J,H2,e,I2,T,st2,f2,W,⟨m0,w0⟩,z⟩:=h2;subst e;have O:∀{H':Hp},(∀b∈y,H' b=cb)->∀b∈y,gY X a H' b:=λhn b c=>⟨hn b c,(f2 b c).2⟩
 show codeAny_forLoop_any (λn s'=>∃i B H',Inv X a B H' s'/\tn i s'.heap/\(∀b∈y,H' b=cb)/\W i n B H') ?_ m0 ⟨0,σ,H2,I2,st2,λb c=>(f2 b c).1,w0⟩;rintro n s3 ⟨i,C,L,I3,G5,MW,w3⟩;rcases z i n C L w3 with⟨G,qn⟩|⟨go,N,hN,XR⟩
 .show Lq t (Gv (T.done X rfl rfl rfl hc i a s3 C L X.xe I3 (O MW) G5 G) λr s4 Pu=>?_);have⟨Q,I4⟩:=Pu;subst Q;show V_ ⟨C,L,I4,qn⟩
 .show Lq t (Gv (T.item X rfl rfl rfl hc i a s3 C L X.xe I3 (O MW) G5 go) λr s4 Pw=>?_);have⟨u,Q,h4⟩:=Pw;subst Q;show Lq t (Gv h4 λ_ s5 Px=>?_);have⟨x,H5,I5,r5,y5,Y,Py⟩:=Px;have Pz:=I5.pinned (O Py) (T.obj _ _ Y);show Lq t (Gv (hg _ s5 C H5 x u _ Pz r5 (XR x H5 y5)) λ_ s6 PB=>?_);have⟨σ6,H6,I6,q6⟩:=PB;show Lq t (Gv (c _ s6 σ6 H6 _ I6 q6) λf s7 q=>?_);have Zd:∀{j:St} {k:Hp},Inv X (a++jY y s5.heap) j k s7->N j k->∃m,m<n/\∃i B H',Inv X a B H' s7/\tn i s7.heap/\(∀b∈y,H' b=cb)/\W i m B H':=λ{j k} l n7=>by
   have⟨m',hm,w7⟩:=hN j k n7;show⟨m',hm,i+1,j,k,l.jZ,T.keep _ _ _ Y λb c o e=>(l.pin (b,o) (kj _ (kj _ (eU c e)))).1,λb c=>?_,w7⟩;have⟨o,e,d⟩:=T.obj _ _ Y b c;show(l.pin (b,o) (kj _ (kj _ (eU c e)))).2.1
  cases f with
  |brk=>have⟨j,k,l,q⟩:=q;show⟨j,k,l.jZ,q⟩
  |ret v=>have⟨x7,j,k,l,r7,q⟩:=q;show⟨x7,j,k,l.jZ,r7,q⟩
  |_=>have⟨j,k,l,n7⟩:=q;show Zd l n7
end
@[reducible]def R2:=V->V->Hp->VK->Prop
abbrev IA(X:Cx)(f:d3->d3->Sem d3)(r:R2):Prop :=
 ∀(a:List (hH×Obj)) (s:hh) (σ:St) (H:Hp) (x y:V) (v u:d3) (Q:VK),Inv X a σ H s->RelV x v->RelV y u->r x y H Q ->
  et (hE X.prog X.w) X.A (f v u) (EP X a σ Q) X.xe s
abbrev gZ(X:Cx)(f:d3)(r:List V->Hp->VK->Prop):Prop :=
 ∀(a:List (hH×Obj)) (s:hh) (σ:St) (H:Hp) (xs:List V) (us:List d3) (Q:VK),Inv X a σ H s->Vals xs us->r xs H Q ->
  et (hE X.prog X.w) X.A (MR f us) (EP X a σ Q) X.xe s
abbrev FK(X:Cx)(r:V->Hp->(Bool->Hp->Prop)->Prop):Prop :=
 ∀(a:List (hH×Obj)) (s:hh) (σ:St) (H:Hp) (x:V) (v:d3) (Q:Bool->Hp->Prop),Inv X a σ H s->RelV x v->r x H Q ->
  et (hE X.prog X.w) X.A (Y7 v) (TP X a σ Q) X.xe s
abbrev T2(r:R2)(a b:TE):TE:=λσ H Q=>a σ H λx c=>b σ c λy d=>r x y d Q
abbrev rI(C:Int->Int->Prop)(g:Int->Int->V):R2:=λx y H Q=>∃i j,x=.int i/\y=.int j/\C i j/\Q (g i j) H
abbrev Ll(g:Int->Int->V):R2:=λx y H Q=>∃i j,x=.int i/\y=.int j/\Q (g i j) H
section
def FL(g:PE X a i)(j:PE X b k){R:V->V->Hp->Prop}(I:Inv X c σ H s)
  (h:i σ H λx e=>k σ e λy d=>R x y d) {f:d3->d3->Sem d3}
  (l:∀v u s2 x y d,Inv X c σ d s2->RelV x v->RelV y u->R x y d->et (hE X.prog X.w) X.A (f v u) Q X.xe s2) :
  et (hE X.prog X.w) X.A (vr a X.env) (λv m=>et (hE X.prog X.w) X.A (vr b X.env) (λu n=>et (hE X.prog X.w) X.A (f v u) Q X.xe n) X.xe m) X.xe s:=by
 show Gv (g c s σ H _ I h) λv s1 o=>?_;have⟨x,e,p,q,r⟩:=o;show Gv (j c s1 σ e _ p r) λu s2 t=>?_;have⟨y,d,z,B,C⟩:=t;show l v u s2 x y d z q B C
def Oh{g:Int->Int->Int}
  (YO:∀(i j:Int) (t u:Tok) (s:hh) (Q:d3->hh->Prop) (E:d3->hh->Prop),C i j->Q (.int (g i j) s.toks) {s with toks:=s.toks+1}->et (hE X.prog X.w) X.A (f (.int i t) (.int j u)) Q E s) :
  IA X f (rI C λi j=>.int (g i j)):=by
 intro a s σ H x y v u Q I b c h;have⟨i,j,rfl,rfl,d,q⟩:=h;have⟨t,rfl⟩:=b;have⟨t',rfl⟩:=c;show YO i j t t' s _ _ d ⟨.int (g i j),H,I.tok _,⟨_,rfl⟩,q⟩
def DU{g:Int->Int->Int}
  (YO:∀(i j:Int) (t u:Tok) (s:hh) (Q:d3->hh->Prop) (E:d3->hh->Prop),Q (.int (g i j) s.toks) {s with toks:=s.toks+1}->et (hE X.prog X.w) X.A (f (.int i t) (.int j u)) Q E s) :
  IA X f (Ll λi j=>.int (g i j)):=by
 intro a s σ H x y v u Q I b c h;have⟨i,j,rfl,rfl,q⟩:=h;have⟨t,rfl⟩:=b;have⟨t',rfl⟩:=c;show YO i j t t' s _ _ ⟨.int (g i j),H,I.tok _,⟨_,rfl⟩,q⟩
def BZ{g:Int->Int->Bool}
  (YO:∀(i j:Int) (t u:Tok) (s:hh) (Q:d3->hh->Prop) (E:d3->hh->Prop),Q (.bool (g i j)) s->et (hE X.prog X.w) X.A (f (.int i t) (.int j u)) Q E s) :
  IA X f (Ll λi j=>.bl (g i j)):=by
 intro a s σ H x y v u Q I b c h;have⟨i,j,rfl,rfl,q⟩:=h;have⟨t,rfl⟩:=b;have⟨t',rfl⟩:=c;show YO i j t t' s _ _ ⟨.bl (g i j),H,I,rfl,q⟩
abbrev FN(i j:Int):Prop:=0<j/\j<1073741824
abbrev FO(i j:Int):Prop:=0<=j/\j<=1000000/\i.natAbs<2 ^ 64
abbrev B0(i j:Int):Prop:=(-(2 ^ 64)<i/\i<2 ^ 64)\/(-(2 ^ 64)<j/\j<2 ^ 64)
def B0.ok(h:B0 i j):IntMulOk i j:=by
 rcases h with⟨a,b⟩|⟨a,b⟩
 .show .of_left (intBits_le_64 a b)
 .show .of_right (intBits_le_64 a b)
def cm:IA X (Mh .Add) (Ll λi j=>.int (i+j)):=DU λ_ _ _ _ _ _ _ q=>add_int q
def fy:IA X (Mh .Sub) (Ll λi j=>.int (i - j)):=DU λ_ _ _ _ _ _ _ q=>sub_int q
def j3:IA X (Mh .Mult) (rI B0 λi j=>.int (i * j)):=Oh λ_ _ _ _ _ _ _ a q=>mul_int q a.ok
def yR:IA X (Mh .FloorDiv) (rI FN λi j=>.int (i / j)):=Oh λi j _ _ _ _ _ a q=>by
 have b:(0:Int)<j:=a.1;have c:j<1073741824:=a.2;show floordiv_int ⋯ (by rw[Int.fdiv_eq_ediv_of_nonneg i ⋯];show q) (.inl (PyProof.noPylong_small ⋯))
def d5:IA X (Mh .Mod) (rI (λ_ j=>0<j) λi j=>.int (i % j)):=Oh λi j _ _ _ _ _ a q=>by
 have b:(0:Int)<j:=a;show mod_int' ⋯ (by rw[Int.fmod_eq_emod_of_nonneg i ⋯];show q)
def ny:IA X (Mh .Pow) (rI FO λi j=>.int (i ^ j.toNat)):=Oh λ_ _ _ _ _ _ _ a q=>pow_int_small a.1 a.2.1 a.2.2 q
end
section
def DV:IA X (Ny .Lt) (Ll λi j=>.bl (cL (i<j))):=BZ λ_ _ _ _ _ _ _ q=>lt_int q
def DW:IA X (Ny .Gt) (Ll λi j=>.bl (cL (j<i))):=BZ λ_ _ _ _ _ _ _ q=>gt_int q
def DX:IA X (Ny .GtE) (Ll λi j=>.bl (cL (j<=i))):=BZ λ_ _ _ _ _ _ _ q=>ge_int q
abbrev DY(K:PySem.W.Frag)(x:V)(H:Hp)(k:Bool):Prop :=
 match x with
 |.GC=>k=cK
 |.bl b=>k=b
 |.int i=>k=(i != 0)
 |.str y=>y.length<=df/\k=((y.length:Int) != 0)
 |.N8 y=>y.size<=df/\k=((y.size:Int) != 0)
 |.ref p=>(∃xs,G2 K H p xs/\k=!xs.isEmpty)\/(∃xs,Hb K H p xs/\k=!xs.isEmpty)\/∃kvs,H p=bD (.dK kvs)/\k=!kvs.isEmpty
 |_=>False
def qB(r:KV kvs vs):(!vs.isEmpty)=!kvs.isEmpty:=by
 cases r<;>rfl
def j4(r:Vals xs a):(!a.toArray.isEmpty)=!xs.isEmpty:=by
 cases r<;>simp
def fz:(df:Nat)<2 ^ 63:=by rw[sizeLine_eq];decide
def B1:FK X (λx H Q=>∃k,DY X.K x H k/\Q k H):=by
 intro j s σ H x v Q I d h;have⟨k,e,q⟩:=h;have hl:=fz;have hs:df=16777216:=sizeLine_eq;cases x with
 |GC =>
  cases d;have a:k=cK:=e;subst a;show truthy_none ⟨H,I,q⟩
 |bl b =>
  cases d;have a:k=b:=e;subst a;show IL ⟨H,I,q⟩
 |int i =>
  have⟨t,rfl⟩:=d;have a:k=(i != 0):=e;subst a;show PySem.P.truthy_int ⟨H,I,q⟩
 |str y =>
  have⟨t,rfl⟩:=d;obtain⟨l,a⟩:y.length<=df/\k=((y.length:Int) != 0):=e;subst a;show PySem.P.truthy_str ⋯ ⟨H,I.tok _,q⟩
 |N8 y =>
  have⟨t,rfl⟩:=d;obtain⟨l,a⟩:y.size<=df/\k=((y.size:Int) != 0):=e;subst a;show PySem.W.truthy_bytes ⋯ ⟨H,I.tok _,q⟩
 |ref p =>
  cases d;have a:(∃xs,G2 X.K H p xs/\k=!xs.isEmpty)\/(∃xs,Hb X.K H p xs/\k=!xs.isEmpty)\/∃kvs,H p=bD (.dK kvs)/\k=!kvs.isEmpty:=e;rcases a with⟨xs,f,a⟩|⟨xs,f,a⟩|⟨kvs,f,a⟩
  .subst a;have⟨n,r,g,hz⟩:=I.list f;have c:=r.length;show wpAny_truthy_list g.isList (by simp only[hA];lia) ⟨H,I.tok _,by rw[j4 r];show q⟩
  .subst a;have⟨n,r,g,hz⟩:=I.tuple f;have c:=r.length;show truthy_tuple g (by simp only[hA];lia) ⟨H,I.tok _,by rw[j4 r];show q⟩
  .subst a;obtain⟨hz,o,vs,r,m⟩:kvs.length<=df/\(p==Li)=cK/\∃vs,KV kvs vs/\s.heap.DictOf (aM X.prog X.w) p vs:=I.Gu p _ f;have c:kvs.length=vs.length:=Paired.length r;show wpAny_truthy_dict o m ⋯ ⟨H,I.tok _,by rw[qB r];show q⟩
 |_=>show(show False from e).elim
def vJ(d:PE X a e)(f:∀b,isTrue a X.env b=(do let v <-b;Wc a.pos;Ko [v] (Y7 v))):
  PT X a (λσ H Q=>e σ H λx H'=>∃k,DY X.K x H' k/\Q k H'):=by
 intro c s σ H Q I h;show isTrue_plain (Gv (d c s σ H _ I h) λv s1 ⟨x,g,i,j,l⟩=>B1 c s1 σ g x v Q i j l) (f _)
def qC:IA X (Mh .Add) (λx y H Q=>∃i j,x=.str i/\y=.str j/\i.length+j.length<=df/\Q (.str (i++j)) H):=by
 intro a s σ H x y v u Q I b c h;have⟨i,j,rfl,rfl,hz,q⟩:=h;have⟨t,rfl⟩:=b;have⟨t',rfl⟩:=c;show add_str (λt' d=>⟨.str (i++j),H,I.tok _,⟨_,rfl⟩,q⟩) hz
def vals1(r:Vals [x] us):∃u,us=[u]/\RelV x u:=by
 cases r with
 |cons a b=>cases b;show⟨_,rfl,a⟩
def nz:gZ X (.type "str") (λxs H Q=>∃i,xs=[.int i]/\i.natAbs.log2<1920/\Q (.str (Qz i)) H):=by
 intro a s σ H xs us Q I r h;have⟨i,rfl,hz,q⟩:=h;have⟨u,rfl,t,rfl⟩:=vals1 r;show PySem.P.str_of_int hz ⟨.str _,H,I.tok _,⟨_,rfl⟩,q⟩
end
section
end
def jA.some_of(r:jA (bD v) o):∃u,o=bD u/\RelV v u:=by
 cases o with
 |none=>show(show False from r).elim
 |some u=>show⟨u,rfl,r⟩
section
end
structure T3(K:PySem.W.Frag)(C:hH):Prop where
 pg:PySem.W.plainGet K C ti=b6
 hd:PySem.W.hasDictIn K C=b6
 po:PySem.W.plainOver K C=b6
 sa:PySem.W.findIn K (.ref C) "__setattr__"=bD (bD (.builtin "object.__setattr__"))
section
end
section
end
section
inductive j5(K:PySem.W.Frag)(H:Hp):V->d3->Prop where
 |GC:j5 K H .GC (.type "NoneType")
 |bl (x:Bool):j5 K H (.bl x) (.type "bool")
 |int (i:Int):j5 K H (.int i) (.type "int")
 |str (x:Str):j5 K H (.str x) (.type "str")
 |N9 (x:UInt64):j5 K H (.N9 x) (.type "float")
 |lst {a:hH} {xs:List V} (e:H a=bD (.lst xs)):j5 K H (.ref a) (.type "list")
 |HJ {a:hH} {o:Obj} {xs:List V} (e:H a=bD (.HJ o (.lst xs))):j5 K H (.ref a) (.type "list")
 |tup {a:hH} {xs:List V} (e:H a=bD (.tup xs)):j5 K H (.ref a) (.type "tuple")
 |dK {a:hH} {kvs:List (Key×V)} (e:H a=bD (.dK kvs)):j5 K H (.ref a) (.type "dict")
 |dT {a:hH} {kvs:List (List Key×V)} (e:H a=bD (.dT kvs)):j5 K H (.ref a) (.type "dict")
 |ins {a C dx:hH} {fs:List (Str×V)} (e:H a=bD (.ins C dx fs)) (cl:T3 K C) (ha:PySem.W.findIn K (.ref C) "__class__"=bD (bD (.builtin "object.__class__")))
   (hn:PySem.W.specialIn K (.builtin "object.__class__") "__get__"=bD (bD (.builtin "getset_descriptor.__get__"))) (T4:PySem.W.takesIn K (.builtin "object.__class__")=bD b6)
   (hm:PySem.W.mroIn K C (.type "object")=bD b6):j5 K H (.ref a) (.ref C)
end
structure fA(k:Nat)(A:LU):Prop where
 hd:A.handled=cb
 dp:A.depth+3 * k+5<Y8
 un:A.units+16 * k+200<Jq
 gd:A.guards=bD []
def fA.deeper(r:fA (k+1) A)(env:Env):fA k (A.deeper env) :=
 ⟨r.hd,by have:=r.dp;change A.depth+1+3 * k+5 < _;lia,by have:=r.un;change A.units+3+16 * k+200 < _;lia,r.gd⟩
def fA.depth(r:fA k A):A.depth<Y8:=by have:=r.dp;lia
abbrev FP:TA:=λ_ H Q=>Q [] H
abbrev DZ(a:TE)(b:TA):TA:=λσ H Q=>a σ H λx c=>b σ c λxs d=>Q (x::xs) d
section
def j6:PA X [] FP:=λ_ _ _ _ H Q I h=>Pq ⟨[],H,I,.nil,h⟩
def g9(b:PE X e c)(d:PA X es t)(hs:i5 (e::es) X.env=(cK,vr e X.env)::i5 es X.env:=by rfl):PA X (e::es) (DZ c t):=by
 intro pos a s σ H Q I h;rw[hs];change et _ _ (Yu ((cK,vr e X.env)::Ht pos (i5 es X.env))) _ _ s;show MS (Gv (b a s σ H _ I h) λu s1 f=>?_);have⟨x,g,i,j,k⟩:=f;show Gv (d pos a s1 σ g _ i k) λus s2 ⟨xs,l,m,n,o⟩=>⟨x::xs,l,m,.cons j n,o⟩
end
@[reducible]def Sp:=List V->Hp->VK->XK->Prop
@[reducible]def Mm:=List Env->Hp->hh->XK->d3->hh->Prop
structure yS(P:wh)(w:G1)(K:PySem.W.Frag)(mg:Str->Option d3)(base:Ic)(A:LU)(outer:List Env)(s:hh)(H:Hp):Prop where
 frames:A.frames=bD outer
 mod:Mod K mg base
 bs:∀b o,base.get? b=bD o->s.heap.get? b=bD o/\H b=cb
 KO:base.objs.size<=s.heap.objs.size
 jU:s.heap.FunFrames base outer
 Mi:∀b∈Ji outer,H b=cb
 Gu:Hu P w H s.heap
 bare:Ri s.gens
abbrev CE(outer:List Env)(P:wh)(w:G1)(H:Hp)(s:hh)(Q:VK)(u:d3)(s':hh):Prop :=
 ∃v H',s'.os=s.os/\Ri s'.gens/\Un (Ji outer) [] H H' s.heap s'.heap/\Hu P w H' s'.heap/\RelV v u/\Q v H'
abbrev CR(CX:Mm)(outer:List Env)(P:wh)(w:G1)(H:Hp)(s:hh)(Q:VK)(E:XK)(r:Result)(s':hh):Prop :=
 match r with
 |.ok (.ret u)=>CE outer P w H s Q u s'
 |.ok _=>False
 |.error e=>CX outer H s E e s'
structure jB(P:wh)(w:G1)(K:PySem.W.Frag)(mg:Str->Option d3)(base:Ic)(CX:Mm)(k:Nat)(f:hH)(fd:PU)(ps:List Str)(sp:Sp):Prop where
 len:∀vs H Q E,sp vs H Q E->vs.length=ps.length
 run:∀(A:LU) (outer:List Env) (s:hh) (H:Hp) (args:Args) (us:List d3) (vs:List V) (Q:VK) (E:XK),fA k A->yS P w K mg base A outer s H->Xx s fd args (ps.zip us)->Vals vs us->sp vs H Q E ->
  OU (hE P w) A (.call (.ref f) args) (CR CX outer P w H s Q E) s
section
def Inv.FQ(I:Inv X a σ H s):yS X.prog X.w X.K X.mg X.base X.A X.stack s H :=
 ⟨I.ok.frames,I.ok.mod,I.bs,t4 I.ok.KO I.sz,I.stack,I.rY,I.Gu,I.bare⟩
def Inv.after(I:Inv X a σ H s)(h:CE X.stack X.prog X.w H s Q u s'):EP X a σ Q u s':=by
 have⟨v,H',os,c,e,f,r,q⟩:=h;have⟨i,g,d,t,j⟩:=s';obtain rfl:j=s.os:=os;show⟨v,H',I.call (h':=i) (g':=g) (d':=d) (t':=t) (ch:=[]) e f c (λb z=>absurd z (by simp)),r,q⟩
end
abbrev Binds(K:PySem.W.Frag)(b:PU)(ps:List Str)(a:List d3):Prop :=
 ∀(s:hh) (us:List d3),K.In s.heap->(us++a).length=ps.length->Xx s b ⟨us,[]⟩ (ps.zip (us++a))
def Binds.all{K:PySem.W.Frag}(h:∀us:List d3,us.length=ps.length->Za a ⟨us,[]⟩=pure (ps.zip us)):Binds K a ps []:=λs us _ hl=>by
 rw[ri]at hl ⊢;show .of_eq (h us hl)
abbrev Passes(CX:Mm)(X:Cx)(E:XK):Prop:=∀(a:List (hH×Obj)) (σ:St) (H:Hp) (s:hh) (e:d3) (s':hh),Inv X a σ H s->CX X.stack H s E e s'->X.xe e s'
section
def qD(F:jB X.prog X.w X.K X.mg X.base CX k f i ps sp)(j:fA k X.A)(l:Binds X.K i ps b)(m:Vals c b)(n:Passes CX X E)
  (I:Inv X a σ H s) (r:Vals vs us) (h:sp (vs++c) H Q E):et (hE X.prog X.w) X.A (MR (.ref f) us) (EP X a σ Q) X.xe s:=by
 have g:Vals (vs++c) (us++b):=r.append m;have hl:(us++b).length=ps.length:=by rw[<-g.length];show F.len _ _ _ _ h
 show wpAny_call (Q1 (F.run X.A X.stack s H ⟨us,[]⟩ (us++b) (vs++c) Q E j I.FQ (l s us I.KP hl) g h) λr s' d=>?_);cases r with
 |error e=>show n a σ H s e s' I d
 |ok o =>
  cases o with
  |ret u=>show I.after d
  |_=>show LB d
end
section
end
structure dX(N P:List Str)(sc:K1):Prop where
 kind:sc.kind=.function
 co:sc.isCoroutine=cK
 gen:sc.isGenerator=cK
 nd:N.Nodup
 pre:N.take P.length=P
 par:∀x∈P,sc.names.lookup x=bD .local\/sc.names.lookup x=bD .cell
 Lm:∀y∈sc.names,y.2≠.free
theorem lT{kindOf:Str->Option ML}:∀{a:List (Str×d3)}{m:Str->Option d3},(∀v,(x,v)∉a)->Xb kindOf a m x=m x
 |[],_,_=>rfl
 |(n,v)::r,m,h=>by
  unfold Xb;rw[lT λw b=>h w (sL _ b)];split
  .have:x≠n:=by rintro rfl;show h v rr
   simp[this]
  .rfl
theorem lU{kindOf:Str->Option ML}:∀{a:List (Str×d3)}{m:Str->Option d3},(∀v,(x,v)∉a)->Xc kindOf a m x=m x
 |[],_,_=>rfl
 |(n,v)::r,m,h=>by
  unfold Xc;rw[lU λw b=>h w (sL _ b)];split
  .rfl
  .have:x≠n:=by rintro rfl;show h v rr
   simp[this]
theorem lV{kindOf:Str->Option ML}:∀{P:List Str}{vs:List d3}{i:Nat}{m:Str->Option d3},P.Nodup->P[i]?=bD x->vs[i]?=bD v->kindOf x=bD .local ->
  Xb kindOf (P.zip vs) m x=bD v
 |[],_,_,_,_,h,_,_=>by simp at h
 |_::_,[],_,_,_,_,h,_=>by simp at h
 |p::P,w::vs,0,m,c,a,b,hk=>by
  simp at a b;subst a;subst b;change Xb kindOf ((p,w)::P.zip vs) m p=_;unfold Xb;rw[lT λv d=>(mh.mp c).1 (Oa d).1,Zm hk];simp
 |p::P,w::vs,i+1,m,c,a,b,hk=>by
  change Xb kindOf ((p,w)::P.zip vs) m x=_;unfold Xb;show lV (i:=i) (mh.mp c).2 (by simpa using a) (by simpa using b) hk
theorem lW{kindOf:Str->Option ML}:∀{P:List Str}{vs:List d3}{i:Nat}{m:Str->Option d3},P.Nodup->P[i]?=bD x->vs[i]?=bD v->kindOf x≠bD .local ->
  Xc kindOf (P.zip vs) m x=bD v
 |[],_,_,_,_,h,_,_=>by simp at h
 |_::_,[],_,_,_,_,h,_=>by simp at h
 |p::P,w::vs,0,m,c,a,b,hk=>by
  simp at a b;subst a;subst b;change Xc kindOf ((p,w)::P.zip vs) m p=_;unfold Xc;rw[lU λv d=>(mh.mp c).1 (Oa d).1,Zn hk];simp
 |p::P,w::vs,i+1,m,c,a,b,hk=>by
  change Xc kindOf ((p,w)::P.zip vs) m x=_;unfold Xc;show lW (i:=i) (mh.mp c).2 (by simpa using a) (by simpa using b) hk
abbrev start(N:List Str)(vs:List V):St:=vs.map bD++i6 (N.length - vs.length) cb
abbrev oX(CX:Mm)(P:wh)(w:G1)(K:PySem.W.Frag)(mg:Str->Option d3)(base:Ic)(N:List Str)(a:Str)(scope:K1)(f:hH)(b:d3)(A:LU)(outer:List Env)(s:hh)(H:Hp)(E:XK):Cx where
 prog:=P
 w:=w
 K:=K
 mg:=mg
 base:=base
 A:=A.deeper (Rh a scope s.heap.objs.size f b)
 N:=N
 s₀:=s
 H₀:=H
 env:=Rh a scope s.heap.objs.size f b
 outer:=outer
 stack:=Rh a scope s.heap.objs.size f b::outer
 ex:=[]
 calm:=b6
 fn:=λ_=>b6
 pn:=[]
 xe:=λe s'=>et (hE P w) (A.deeper (Rh a scope s.heap.objs.size f b)) (leaving (Rh a scope s.heap.objs.size f b) e) (λ_ c=>CX outer H s E e c) (λd c=>CX outer H s E d c) s'
def oY{a:K1}(h:a.names.lookup x=bD .cell):∃c,(YQ n a.names []).lookup x=bD c:=by
 have q:=PySem.W.cellsFrom_some a.names n [] (.inl h);show Pt.mp q
def ub{K:PySem.W.Frag}
  (S:dX N ps scope) (G:A.handled=cb) (j:yS P w K mg base A outer s H) (hl:vs.length=ps.length) (r:Vals vs us)
  (x:InCallC s s.heap.objs.size (Xb (Rh g scope s.heap.objs.size f t).kindOf (ps.zip us) λ_=>cb) (YQ (s.heap.objs.size+1) scope.names []) (Xc (Rh g scope s.heap.objs.size f t).kindOf (ps.zip us) λ_=>cb) s1) :
  Inv (oX CX P w K mg base N g scope f t A outer s H E) [] (start N vs) H s1:=by
 have J:ps.length<=N.length:=by have:=Zq DD S.pre;rw[x3]at this;lia
 have⟨m,L,rfl,hk⟩:=x.done;have B:∀b:hH,b∉(oX CX P w K mg base N g scope f t A outer s H E).ex:=λb z=>absurd (show b∈([]:List hH) from z) (by simp);show⟨⟨j.mod,S.kind,rfl,rfl,ix _,λy z c m d=>?_,λy hy=>?_,λy c _ h=>?_,λ_=>G,Around.frames_deeper j.frames,.inr ⟨rfl,rfl⟩,λb z=>absurd z (B b),j.bs,j.KO,λb _ _=>B b,λb z=>absurd z (B b),j.jU,j.Mi⟩,
  rfl,j.bare,Un.kept hk,⟨_,x.toInCall.ns,λi y v m d O=>?_⟩,λy c h=>⟨_,x.cell y c h⟩,j.Gu.fresh (ix _),λy c h=>?_,λp l=>absurd (show p∈([]:List (hH×Obj)) from l) (by simp),j.Gu.kept hk,?_⟩
 .show name_of_addr x.apart (PySem.mem_of_lookup m) (PySem.mem_of_lookup d)
 .have hy:scope.names.lookup y=bD .cell\/scope.names.lookup y=bD .free:=hy;rcases hy with hy|hy
  .show oY hy
  .show absurd rfl (S.Lm _ (PySem.mem_of_lookup hy))
 .show Nt (x.above y c (PySem.mem_of_lookup h))
 .have o:i<vs.length:=by
   unfold start at d;by_cases o:i<vs.length
   .show o
   .rw[oT (by simpa using o)]at d;rw[Il]at d;split at d<;>cases d
  have I:vs[i]?=bD v:=by
   unfold start at d;rw[ux (by simpa using o),i8]at d;cases e:vs[i]? with
   |none=>rw[e]at d;cases d
   |some a=>rw[e]at d;cases d;rfl
  have⟨u,C,rv⟩:=r.get I;have l:ps[i]?=bD y:=by
   rw[<-S.pre,VY ⋯];show m
  have D:ps.Nodup:=by rw[<-S.pre];show S.nd.sublist (XD _ _)
  show⟨u,rv,?_⟩;rcases S.par y (mA l) with k|k
  .show .inl ⟨k,lV D l C k⟩
  .have⟨c,e⟩:=oY (n:=s.heap.objs.size+1) k;show .inr ⟨.inl k,c,e,?_⟩;have q:=x.cell y c e;rw[lW D l C (by change scope.names.lookup y≠_;rw[k];decide)]at q;show q
 .show j.Gu.fresh (Nt (x.above y c (PySem.mem_of_lookup h)))
 .unfold start;change _=N.length;rw[hY,c4,NJ];lia
def D0{K:PySem.W.Frag}{z kV g B d ct G:d3}
 (lk:K.lookup f=bD ⟨G,od,.func (PySem.W.fnOf name a c body scope z kV g B L d ct),MZ⟩) (O:PySem.W.codeIn K d a=b6) (S:dX N ps scope)
    (h:∀vs H Q E,sp vs H Q E->vs.length=ps.length)
    (T:∀(A:LU) (outer:List Env) (s:hh) (H:Hp) (vs:List V) (Q:VK) (E:XK),fA k (A.deeper (Rh a scope s.heap.objs.size f d))->sp vs H Q E ->
      ∃t,Hx (oX CX P w K mg base N a scope f d A outer s H E) body t/\t {nx:=λ_ H'=>Q .GC H',rt:=Q} (start N vs) H) :
    jB P w K mg base CX (k+1) f (PySem.W.fnOf name a c body scope z kV g B L d ct) ps sp:=by
  show⟨h,λA outer s H args us vs Q E m i Y r C=>?_⟩;have hl:=h _ _ _ _ C;have D:K.In s.heap:=i.mod.MP.keeps λb o e=>(i.bs b o e).1;have p:s.heap.NoLimit:=i.mod.nolimit.keeps λb o e=>(i.bs b o e).1;have M0:∀y∈ps.zip us,scope.names.lookup y.1=bD .local\/(scope.names.lookup y.1=bD .cell/\((YQ (s.heap.objs.size+1) scope.names []).lookup y.1).isSome=b6):=λ⟨n,v⟩ hy=>by
    rcases S.par n (Oa hy).1 with q|q
    . show .inl q
    . show .inr ⟨q,PySem.W.cellsFrom_some _ _ _ (.inl q)⟩
  show codeAny_call_function m.depth (D _ _ lk) rfl S.co S.gen rfl (PySem.W.codeRec_of D O) (Y _ _ _ _ ?_);show wpAny_newFunctionEnv_cells S.kind M0 λenv he s1 x=>?_;subst he;show⟨p.keeps x.toInCall.keep,codeAny_func ?_⟩;have⟨t,ht,hq⟩:=T A outer s H vs Q E (m.deeper _) C;have I:Inv (oX CX P w K mg base N a scope f d A outer s H E) [] (start N vs) H s1:=ub S m.hd i hl r x;show tj (ht [] s1 (start N vs) H _ I hq) (λfl s' hs=>?_) λe s' hs=>hs;have j:∀{l:St} {H':Hp} {v:V} {u:d3},Inv (oX CX P w K mg base N a scope f d A outer s H E) [] l H' s'->RelV v u->Q v H'->CE outer P w H s Q u s' :=
    λ{l H' v u} J rv q=>⟨v,H',J.os,J.bare,J.base,J.Gu,rv,q⟩
  cases fl with
  | ret u =>
    have⟨v,l,H',J,rv,q⟩:=hs;show j J rv q
  | next =>
    have⟨l,H',J,q⟩:=hs;show j (v:=V.GC) (u:=nH) J rfl q
  | brk =>
    obtain⟨_,_,_,q⟩:=hs;show LB q
  | cont =>
    obtain⟨_,_,_,q⟩:=hs;show LB q
section
end
end L2
namespace HT
open PySem PyProof.Rows
section
open PySem.SeqAt
open PySem.AutoSeq1 (wpAny_loadPart')
open PySem.MeetsSeq PySem.MeetsSeq2 PySem.MeetsSeq3
end
section
def yT(p:Zk s.heap t vs.toArray)(q:Zk s.heap b ws.toArray)(f:vs≠[])
  (r:ws=[]->Q (.ref t) s) (u:ws≠[]->Q (.ref s.heap.objs.size) {s with heap:=s.heap.push {cls:=.type "tuple",data:=.seq (vs++ws).toArray}})
  (hsz:vs.length+ws.length<=df):et (hE prog w) A (Mh .Add (.ref t) (.ref b)) Q E s:=by
 obtain⟨⟨cls,g,data,h⟩,ho,i,n,j⟩:=id p;obtain⟨⟨v,k,data2,l⟩,c,m,o,a⟩:=id q;simp only at i j m a;subst i j m a;have e:vs.toArray++ws.toArray=(vs++ws).toArray:=by simp
 by_cases d:ws=[]
 .show T' ⟨_,ho,rfl⟩ ⟨_,c,rfl⟩ Va WN PySem.F.slot_tuple_add PySem.F.entry_tuple_add (PySem.F.args_tuple_add_2 _ _)
   (tuple_addW1 t b vs.toArray ws.toArray n o g k h l (by simpa using f) (by simp[d])) ⟨ho,c,r d⟩
 .show T' ⟨_,ho,rfl⟩ ⟨_,c,rfl⟩ Va WN PySem.F.slot_tuple_add PySem.F.entry_tuple_add (PySem.F.args_tuple_add_2 _ _)
   (tuple_addW2 t b vs.toArray ws.toArray n o g k h l (by simpa using f) (by simpa using d) (by rw[hA,hA];show hsz)) ⟨ho,c,?_⟩
  rw[e];show u d
abbrev HY(n d:Nat):Option Int->Nat
 |none=>d
 |some v=>if v<0 then(v+(n:Int)).toNat else min v.toNat n
def yU(n d k:Nat):HY n d (bD (k:Int))=min k n:=by
 change(if (k:Int)<0 then((k:Int)+(n:Int)).toNat else min (k:Int).toNat n)=min k n;rw[Zn ⋯,Lo]
end
end HT
namespace L2
open PySem PySem.Spec PyProof.Rows
@[reducible]def TO:=St->Hp->(Option Int->Hp->Prop)->Prop
abbrev PO(X:Cx)(e:Option my)(t:TO):Prop :=
 ∀(a:List (hH×Obj)) (s:hh) (σ:St) (H:Hp) (Q:Option Int->Hp->Prop),Inv X a σ H s->t σ H Q ->
  et (hE X.prog X.w) X.A (evalPart e X.env) (λu s'=>∃o H',Inv X a σ H' s'/\IsPart u o/\Q o H') X.xe s
abbrev yV:TO:=λ_ H Q=>Q cb H
abbrev D3(t:TE):TO:=λσ H Q=>t σ H λx a=>∃i,x=.int i/\Q (bD i) a
section
variable{X:Cx}{e:my}{te:TE}{lo hi:Option my}{tl th:TO}{pos p2:Pos}
def yW:PO X cb yV:=by
 intro a s σ H Q I h;rw[evalPart_none];show dV ⟨cb,H,I,.none,h⟩
def yX(h:PE X e te):PO X (bD e) (D3 te):=by
 intro a s σ H Q I b;rw[evalPart_some];show Gv (h a s σ H _ I b) λu s1 c=>?_;have⟨x,d,f,g,j⟩:=c;have⟨i,rfl,q⟩:=j;have⟨t,rfl⟩:=g;show⟨bD i,d,f,.int i t,q⟩
abbrev KS(X:Cx)(r:V->Option Int->Option Int->Hp->VK->Prop):Prop :=
 ∀(a:List (hH×Obj)) (s:hh) (σ:St) (H:Hp) (x:V) (v b c:d3) (lo hi:Option Int) (d:hH) (Q:VK),Inv X a σ H s->RelV x v->s.heap.IsSliceOf d b c .none->IsPart b lo->IsPart c hi->r x lo hi H Q ->
  ∃T id,SW (.type T) "__getitem__"=pure (bD (.builtin id))/\s.TypeIs v T/\et (hE X.prog X.w) X.A (T9 v (.ref d)) (EP X a σ Q) X.xe s
def KS.or(h:KS X r)(h':KS X j):KS X (λx lo hi H Q=>r x lo hi H Q\/j x lo hi H Q):=by
 intro a s σ H x v b c lo hi d Q I f hs g i q;rcases q with q|q
 .show h a s σ H x v b c lo hi d Q I f hs g i q
 .show h' a s σ H x v b c lo hi d Q I f hs g i q
abbrev T5(r:V->Option Int->Option Int->Hp->VK->Prop)(te:TE)(tl th:TO):TE:=λσ H Q=>te σ H λx a=>tl σ a λl b=>th σ b λu c=>r x l u c Q
def vK(g:KS X r)(i:PE X e te)(hl:PO X lo tl)(j:PO X hi th):PE X (.Subscript e (.Slice lo hi cb p2) pos) (T5 r te tl th):=by
 intro a s σ H Q I h;show Ww (Gv (i a s σ H _ I h) λv s1 k=>?_);have⟨x,m,n,o,p⟩:=k;show wpAny_Slice (Gv (hl a s1 σ m _ n p) λc s2 ⟨l,t,y,z,B⟩=>Gv (j a s2 σ t _ y B) λd s3 C=>?_);have⟨u,f,D,G,J⟩:=C;rw[evalPart_none];show dV ?_;have L:Inv X a σ f {s3 with heap:=s3.heap.push {cls:=.type "slice",data:=.fields #[c,d,.none]}}:=D.kept (t':=s3.toks) λb ob q=>dt _ q;have⟨T,id,N,O,Y⟩:=g a {s3 with heap:=s3.heap.push {cls:=.type "slice",data:=.fields #[c,d,.none]}} σ f x v c d l u s3.heap.objs.size Q L o (YD ..) z G J;change et (hE X.prog X.w) X.A (SN e (.Slice lo hi cb p2) v (.ref s3.heap.objs.size)) (EP X a σ Q) X.xe {s3 with heap:=s3.heap.push {cls:=.type "slice",data:=.fields #[c,d,.none]}};show tail_any (ops:=[.ref s3.heap.objs.size,v]) O N Y (by with_unfolding_all rfl)
abbrev uc(xs:List V)(lo hi:Option Int):List V:=(xs.drop (HT.HY xs.length 0 lo)).take (HT.HY xs.length xs.length hi - HT.HY xs.length 0 lo)
def oZ(xs:List V)(lo hi:Option Int):(uc xs lo hi).length<=xs.length:=by
 unfold uc;rw[x3,XI];lia
abbrev D4(K:PySem.W.Frag):R2:=λx y H Q=>∃a b xs ys,x=.ref a/\y=.ref b/\Hb K H a xs/\Hb K H b ys/\xs≠[]/\xs.length+ys.length<=df /\
 (ys=[]->Q (.ref a) H)/\(ys≠[]->∀p,H p=cb->Q (.ref p) (upd H p (.tup (xs++ys))))
def Vals.nA(r:Vals xs us):us=[]↔xs=[]:=by
 cases r with
 |_=>simp
def yY:IA X (Mh .Add) (D4 X.K):=by
 intro f s σ H x y v u Q I g i h;have⟨a,b,xs,ys,rfl,rfl,j,k,l,hz,m,n⟩:=h;cases g;cases i;obtain⟨r,d,p,_⟩:=I.tuple j;obtain⟨t,c,p2,_⟩:=I.tuple k;show HT.yT p p2 (λz=>l (d.nA.mp z)) (λz=>⟨.ref a,H,I,rfl,m (c.nA.mp z)⟩) (λz=>?_) (by rw[<-d.length,<-c.length];show hz);show⟨.ref s.heap.objs.size,_,I.laid (t':=s.toks) (o:=.tup (xs++ys)) (λb A q=>dt _ q) (ix _) ?_,rfl,n (λw=>z (c.nA.mpr w)) _ (I.Gu.fresh (ix _))⟩;show⟨by rw[hY];show hz,_,d.append c,XA _ _⟩
end
abbrev JS(n:Nat)(i:Int):Option Nat:=if 0<=i then(if i<n then bD i.toNat else cb) else if -(n:Int)<=i then bD (i+n).toNat else cb
abbrev Hm{α:Type}(xs:List α)(i:Int):Option α:=(JS xs.length i).bind λj=>xs[j]?
def r_{n:Nat}(h:JS n i=bD j):U3 i n=bD j/\j<n/\-(n:Int)<=i/\i<n:=by
 unfold JS at h;by_cases b:0<=i
 .rw[Zm b]at h;by_cases a:i<n
  .rw[Zm a]at h;have e:i.toNat=j:=td h;show⟨by rw[XS b a,e],⋯,⋯,a⟩
  .rw[Zn a]at h;cases h
 .rw[Zn b]at h;by_cases a:-(n:Int)<=i
  .rw[Zm a]at h;have e:(i+n).toNat=j:=td h;show⟨by rw[seqIndex_neg ⋯ a,e],⋯,a,⋯⟩
  .rw[Zn a]at h;cases h
def nB(h:Hm xs i=bD v):∃j,U3 i xs.length=bD j/\xs[j]?=bD v/\j<xs.length/\-(xs.length:Int)<=i/\i<xs.length:=by
 unfold Hm at h;cases e:JS xs.length i with
 |none=>rw[e]at h;cases h
 |some j =>
  rw[e]at h;have⟨a,b,c,d⟩:=r_ e;show⟨j,a,h,b,c,d⟩
def dY{j:Nat}(h:xs[j]?=bD v):Hm xs (j:Int)=bD v:=by
 have a:j<xs.length:=(eh.mp h).1;have e:JS xs.length (j:Int)=bD j:=by
  unfold JS;rw[Zm ⋯,Zm ⋯];simp
 unfold Hm;rw[e];show h
abbrev g_(b:my):Prop:=∀o i,VD b cK o i=operate [o,i] (T9 o i)
abbrev Oi(X:Cx)(r:R2):Prop :=
 ∀(c a:my) (b:List (hH×Obj)) (s:hh) (σ:St) (H:Hp) (x y:V) (v u:d3) (Q:VK),Inv X b σ H s->RelV x v->RelV y u->r x y H Q ->
  VD a cK v u=operate [v,u] (T9 v u)->et (hE X.prog X.w) X.A (SN c a v u) (EP X b σ Q) X.xe s
abbrev PQ(X:Cx)(id:String)(r:V->List V->Hp->VK->Prop):Prop :=
 ∀(a:List (hH×Obj)) (s:hh) (σ:St) (H:Hp) (x:V) (xs:List V) (v:d3) (us:List d3) (Q:VK),Inv X a σ H s->RelV x v->Vals xs us->r x xs H Q ->
  et (hE X.prog X.w) X.A (MR (.builtin id) (v::us)) (EP X a σ Q) X.xe s
section
def D5(d:Oi X r)(f:PE X a g)(i:PE X b j)(hs:g_ b):PE X (.Subscript a b pos) (T2 r g j):=by
 intro c s σ H Q I h;show Ww (FL f i I h λv u s2 x y k l m n q=>d a b c s2 σ k x y v u Q l m n q (hs _ _))
abbrev FR(K:PySem.W.Frag):R2:=λx y H Q=>∃p xs i v,x=.ref p/\y=.int i/\G2 K H p xs/\Hm xs i=bD v/\Q v H
abbrev FT(K:PySem.W.Frag):R2:=λx y H Q=>∃p xs i v,x=.ref p/\y=.int i/\Hb K H p xs/\Hm xs i=bD v/\Q v H
abbrev FU:R2:=λx y H Q=>∃z i c,x=.str z/\y=.int i/\z.length<=df/\Hm z.cps.toList i=bD c/\Q (.str ⟨#[c]⟩) H
def yZ:Oi X (FR X.K):=by
 intro d f a s σ H x y v u Q I n A h hs;have⟨p,xs,i,z,rfl,rfl,B,C,q⟩:=h;cases n;have⟨t,rfl⟩:=A;have⟨D,r,g,hz⟩:=I.list B;have⟨j,c,G,O,J,L⟩:=nB C;have⟨w,l,N⟩:=r.get G;have hl:=r.length;have Y:=fz;have b:EP X a σ Q w s:=⟨z,H,I,N,q⟩
 by_cases m:0<=i
 .have k:i.toNat=j:=by
   rw[XS m L]at c;show td c
  show item_listR g.isList m ⋯ (by rw[k];simpa using l) b hs
 .have k:(i+(D.toArray.size:Int)).toNat=j:=by
   rw[seqIndex_neg ⋯ J]at c;rw[hA,<-hl];show td c
  show Xy (x:=w) g.isList.typeIs Yv.lookup
   (wpAny_getItem_list_neg (Q:=λr s'=>r=w/\EP X a σ Q r s') g.isList ⋯ (by rw[hA]<;>lia) ⋯ (by rw[k];simpa using l) ⟨rfl,b⟩) hs
def j7:Oi X (FT X.K):=by
 intro b c a s σ H x y v u Q I g k h hs;have⟨p,xs,i,z,rfl,rfl,l,m,q⟩:=h;cases g;have⟨t,rfl⟩:=k;have⟨D,r,f,hz⟩:=I.tuple l;have⟨j,n,A,G,J,L⟩:=nB m;have⟨w,B,C⟩:=r.get A;have hl:=r.length;have N:=fz;have d:EP X a σ Q w s:=⟨z,H,I,C,q⟩
 show Xy (x:=w) f.typeIs slot_tuple_getitem.lookup
  (getItem_tuple (j:=j) (Q:=λr s'=>r=w/\EP X a σ Q r s') f ⋯ ⋯ (by rw[hA,<-hl];show n) (by simpa using B) ⟨rfl,d⟩) hs
def nE:Oi X FU:=by
 intro a b d s σ H x y v u Q I g k h hs;have⟨z,i,c,rfl,rfl,hz,l,q⟩:=h;have⟨t,rfl⟩:=g;have⟨t',rfl⟩:=k;have⟨j,f,m,B,n,p⟩:=nB l;have hl:z.cps.toList.length=z.length:=by simp[Ze]
 rw[hl]at f n p;have C:=fz;show tail_any (Yg s z t) YT.lookup (getItem_str (c:=c) (by
  have w:cL (i < -(2 ^ 63:Int))=cK:=Zo ⋯;have A:cL (i >= 2 ^ 63)=cK:=Zo ⋯;rw[w,A,V9]) (by rw[f];simpa using m) ⟨.str ⟨#[c]⟩,H,I.tok _,⟨_,rfl⟩,q⟩) hs
def qE(a:List d3)(n j:Nat)(u:d3):p7 (·.setIfInBounds j u) {cls:=.type "list",data:=.seq a.toArray n}={cls:=.type "list",data:=.seq (a.set j u).toArray n}:=by
 simp[p7]
def Inv.lst(I:Inv X b σ H s)(h:H p=bD (.lst xs)):
  ∃(a:List d3) (n:Nat),Vals xs a/\s.heap.get? p=bD {cls:=.type "list",data:=.seq a.toArray n}/\xs.length<=df:=by
 have⟨z,a,n,r,e⟩:=I.Gu p _ h;show⟨a,n,r,e,z⟩
def Inv.B3{c its':List d3}(I:Inv X a σ H s)(h:H p=bD (.lst xs))
  (ho:s.heap.get? p=bD {cls:=.type "list",data:=.seq c.toArray n}) (d:f {cls:=.type "list",data:=.seq c.toArray n}={cls:=.type "list",data:=.seq its'.toArray g }) (r:Vals ys its') (hz:ys.length<=df) (t:Nat) :
  Inv X a σ (upd H p (.lst ys)) {s with heap:=s.heap.update p f,toks:=t}:=by
 have e:(s.heap.update p f).get? p=bD {cls:=.type "list",data:=.seq its'.toArray g }:=by
  rw[ts f ho (by rw[d]<;>rfl),d]
 show I.write (x:=p) (e:=p) (by rw[h];trivial) (.inl rfl) (λb u i q=>(Kr _ _ (ro i)).trans q) ⟨_,e⟩ ?_;show⟨hz,its',g,r,e⟩
abbrev D6:V->V->V->Hp->(Hp->Prop)->Prop:=λo i v H Q=>∃p xs k j,o=.ref p/\i=.int k/\H p=bD (.lst xs)/\JS xs.length k=bD j/\Q (upd H p (.lst (xs.set j v)))
def set_list:nv X D6:=by
 intro a s σ H o i v z A u Q I w x rv h;have⟨p,xs,k,j,rfl,rfl,c,y,q⟩:=h;cases w;have⟨t,rfl⟩:=x;have⟨d,n,r,ho,hz⟩:=I.lst c;have⟨b,B,f,g⟩:=r_ y;have hl:=r.length;have C:=fz;have l:Inv X a σ (upd H p (.lst (xs.set j v))) {s with heap:=s.heap.update p (p7 (·.setIfInBounds j u))} :=
  I.B3 c ho (qE d n j u) (r.set rv j) (by rw[X7];show hz) s.toks
 by_cases m:0<=k
 .have hk:k.toNat=j:=by
   rw[XS m g]at b;show td b
  show PySem.W.ki_setAt ho m ⋯ (by rw[hA,<-hl];show g) (by rw[hk];show⟨_,l,q⟩)
 .have hk:(k+(d.toArray.size:Int)).toNat=j:=by
   rw[seqIndex_neg ⋯ f]at b;rw[hA,<-hl];show td b
  show PySem.W.ki_setBack ho ⋯ (by rw[hA,<-hl];show f) ⋯ (by rw[hk];show⟨_,l,q⟩)
def nF(lo a:Option Int)(n:Nat):(O1 lo a cb n).1=((HT.HY n 0 lo:Nat):Int)/\(O1 lo a cb n).2.1=((HT.HY n n a:Nat):Int)/\(O1 lo a cb n).2.2=1:=by
 show⟨?_,?_,rfl⟩
 .cases lo with
  |none=>simp[O1,HT.HY]
  |some i =>
   simp only[O1,HT.HY,Xh,show(1:Int)>0 by decide,if_true];by_cases h:i<0
   .simp only[h,if_true]<;>lia
   .simp only[h,if_false]<;>lia
 .cases a with
  |none=>simp[O1,HT.HY]
  |some i =>
   simp only[O1,HT.HY,Xh,show(1:Int)>0 by decide,if_true];by_cases h:i<0
   .simp only[h,if_true]<;>lia
   .simp only[h,if_false]<;>lia
def lD(a:List d3)(lo b:Option Int):slicePick a.toArray lo b cb=((a.drop (HT.HY a.length 0 lo)).take (HT.HY a.length a.length b - HT.HY a.length 0 lo)).toArray:=by
 have⟨c,d,f⟩:=nF lo b a.toArray.size;unfold slicePick;rw[c,d,f];simp only[sliceRange_one,pick_run,hA]<;>rfl
abbrev D7(K:PySem.W.Frag):V->Option Int->Option Int->Hp->VK->Prop:=λx lo b H Q=>∃a xs,x=.ref a/\G2 K H a xs/\∀p,H p=cb->Q (.ref p) (upd H p (.lst (uc xs lo b)))
def y6:KS X (D7 X.K):=by
 intro f s σ H x v m n lo d p Q I i hs j k h;have⟨a,xs,rfl,l,q⟩:=h;cases i;have⟨u,r,g,hz⟩:=I.list l;have c:=r.length;show⟨"list",_,Yv.lookup,g.isList.typeIs,?_⟩;show wpAny_getItem_list_slice g.isList hs j k .none (by simp) ?_ (by rw[hA]<;>lia);rw[lD,<-c];show⟨.ref s.heap.objs.size,_,I.laid (t':=s.toks) (o:=.lst (uc xs lo d)) (λb w q=>dt _ q) (ix _) ?_,rfl,q _ (I.Gu.fresh (ix _))⟩;show⟨t4 (oZ xs lo d) hz,_,0,(r.drop (HT.HY xs.length 0 lo)).take (HT.HY xs.length xs.length d - HT.HY xs.length 0 lo),fx _ rfl⟩
def hJ:gZ X (.builtin "len") (λxs H Q=>∃p ys,xs=[.ref p]/\(G2 X.K H p ys\/Hb X.K H p ys)/\Q (.int ys.length) H):=by
 intro d s σ H xs us Q I r h;have⟨p,ys,rfl,hq,q⟩:=h;have⟨u,rfl,f⟩:=vals1 r;cases f;have i:=fz;rcases hq with hq|hq
 .have⟨g,b,c,hz⟩:=I.list hq;have a:=b.length;show Calls.call_len_list c.isList (by simp only[hA]<;>lia) ⟨.int ys.length,H,I.tok _,⟨s.toks+1,by rw[hA,a]⟩,q⟩
 .have⟨g,b,c,hz⟩:=I.tuple hq;have a:=b.length;show len_tuple c (by simp only[hA]<;>lia) ⟨.int ys.length,H,I.tok _,⟨s.toks+1,by rw[hA,a]⟩,q⟩
def nG:gZ X (.builtin "len") (λxs H Q=>∃z,xs=[.str z]/\z.length<=df/\Q (.int z.length) H):=by
 intro a s σ H xs us Q I r h;have⟨z,rfl,hz,q⟩:=h;have⟨u,rfl,t,rfl⟩:=vals1 r;have b:=fz;show len_str ⋯ ⟨.int z.length,H,I.tok _,⟨_,rfl⟩,q⟩
def gq:gZ X (.type "tuple") (λxs H Q=>∃p ys,xs=[.ref p]/\((G2 X.K H p ys/\∀l,H l=cb->Q (.ref l) (upd H l (.tup ys)))\/(Hb X.K H p ys/\Q (.ref p) H))):=by
 intro a s σ H xs us Q I r h;have⟨p,ys,rfl,h⟩:=h;have⟨u,rfl,k⟩:=vals1 r;cases k;rcases h with⟨c,q⟩|⟨c,q⟩
 .have⟨d,f,g,hz⟩:=I.list c;have i:=f.length;show call_tuple_list g.isList (λh' m=>?_) (by simp only[hA]<;>lia);have j:Inv X a σ H {s with heap:=h' }:=I.kept (t':=s.toks) m;have n:Inv X a σ (upd H h'.objs.size (.tup ys)) {s with heap:=h'.push {cls:=.type "tuple",data:=.seq d.toArray}} :=
   j.laid (t':=s.toks) (λb o e=>dt _ e) (ix _) (show bE X.prog X.w _ _ _ (.tup ys) from⟨hz,d,f,XA _ _⟩)
  show⟨.ref h'.objs.size,_,n,rfl,q _ (j.Gu.fresh (ix _))⟩
 .have⟨d,f,g,hz⟩:=I.tuple c;show call_tuple_same g ⟨.ref p,H,I,rfl,q⟩
abbrev Oj(K:PySem.W.Frag)(T:String)(x:V)(H:Hp):Prop:=match x with
 |.str _=>T="str"
 |.int _=>T="int"
 |.ref p=>(T="list"/\∃xs,G2 K H p xs)\/(T="tuple"/\∃o,K.lookup p=bD o/\o.cls=.type "tuple"/\o.dict=cb) \/
   (T="dict"/\((∃kvs,H p=bD (.dK kvs))\/∃kvs,H p=bD (.dT kvs)))\/(T="set"/\∃S n,H p=bD (.set S n))
 |_=>False
def nI(I:Inv X g σ H s)(r:RelV x v)(b:Oj X.K T x H):
  s.TypeIs v T/\∀a,v=.ref a->∃h,s.heap.get? a=bD h/\h.dict=cb:=by
 cases x with
 |str z =>
  have⟨t,rfl⟩:=r;cases(show T="str" from b);show⟨Yg s z t,λ_ e=>nomatch e⟩
 |int i =>
  have⟨t,rfl⟩:=r;cases(show T="int" from b);show⟨typeIs_int s i t,λ_ e=>nomatch e⟩
 |ref p =>
  cases r;rcases b with⟨rfl,xs,k⟩|⟨rfl,o,hk,l,d⟩|⟨rfl,hk⟩|⟨rfl,S,n,hk⟩
  .obtain⟨m,_,j,_⟩:=I.list k;show⟨j.isList.typeIs,λa e=>?_⟩;cases e;obtain⟨o,n,e,c,d,_⟩:=j;show⟨o,e,d⟩
  .show⟨⟨o,I.KP p o hk,l⟩,λa e=>?_⟩;cases e;show⟨o,I.KP _ o hk,d⟩
  .have z:∃o,s.heap.get? p=bD o/\o.ExactDict:=by
    rcases hk with⟨kvs,hk⟩|⟨kvs,hk⟩
    .obtain⟨_,_,_,_,o,_,_,e,ex,_⟩:=I.Gu p _ hk;show⟨o,e,ex⟩
    .obtain⟨_,_,_,_,o,_,_,e,ex,_⟩:=I.Gu p _ hk;show⟨o,e,ex⟩
   have⟨o,e,ex⟩:=z;show⟨⟨o,e,ex.1⟩,λa f=>?_⟩;cases f;show⟨o,e,ex.2.1⟩
  .obtain⟨o,_,_,_,e,ex,_⟩:=I.Gu p _ hk;show⟨⟨o,e,ex.1⟩,λa f=>?_⟩;cases f;show⟨o,e,ex.2.1⟩
 |_=>show LB b
abbrev FV(K:PySem.W.Frag)(T:String)(r:V->List V->Hp->VK->Prop)(to:TE):TE:=λσ H Q=>to σ H λx a=>Oj K T x a/\r x [] a Q
abbrev T6(K:PySem.W.Frag)(T:String)(r:V->List V->Hp->VK->Prop)(to:TE)(t:TA):TE:=λσ H Q=>to σ H λx a=>Oj K T x a/\t σ a λxs b=>r x xs b Q
variable{o e:my}{es:List my}{to:TE}{t:TA}{name:Str}{apos F':Pos}{T id:String}{r:V->List V->Hp->VK->Prop}
def vL(d:PlainAttrs T)(slot:Slot T name id)(f:Y6 (.builtin id)=pure (.type "method_descriptor"))(g:PQ X id r)(ho:PE X o to)
  (i:Qm o name X.env (vr o X.env)=vr o X.env:=by rfl) (j:(apos.endLine==F'.line)=b6:=by rfl):PE X (.Call (.Attribute o name apos) [] [] F') (FV X.K T r to):=by
 intro a s σ H Q I h;show QB i j (Gv (ho a s σ H _ I h) λv s1 k=>?_);have⟨x,l,b,c,m,n⟩:=k;have⟨p,q⟩:=nI b c m;show⟨T,id,d,slot,f,p,q,GV rfl (PySem.evalArgs_none (g a s1 σ l x [] v [] Q b c .nil n))⟩
def sd(f:PlainAttrs T)(slot:Slot T name id)(g:Y6 (.builtin id)=pure (.type "method_descriptor"))(i:PQ X id r)(ho:PE X o to)(j:PA X (e::es) t)
  (k:Qm o name X.env (vr o X.env)=vr o X.env:=by rfl)
  (l:((Ht F' (i5 (e::es) X.env)).all (λx=>!x.1)&&(NY F' (JQ [] X.env)).all (λx=>x.1.isSome)
   && cL ((e::es).length+([]:List LZ).length+(if ([]:List LZ).isEmpty then 0 else 1)<30))=b6:=by rfl)
  (m:(apos.endLine==F'.line)=b6:=by rfl) (hs:i5 (e::es) X.env=(cK,vr e X.env)::i5 es X.env:=by rfl) (n:(Ht F' (i5 es X.env)).any (·.1)=cK:=by rfl) :
  PE X (.Call (.Attribute o name apos) (e::es) [] F') (T6 X.K T r to t):=by
 intro a s σ H Q I h;show Xn k l m rfl (Gv (ho a s σ H _ I h) λv s1 p=>?_);have⟨x,q,b,c,u,w⟩:=p;have⟨y,z⟩:=nI b c u;show⟨T,id,f,slot,g,y,z,?_⟩;have d:=j F' a s1 σ q _ b w;rw[hs]at d ⊢;show GV (by change(cK||(Ht F' (i5 es X.env)).any (·.1))=cK;rw[n]<;>rfl) (LA ?_);show Gv d λus s2 ⟨vs,A,B,C,D⟩=>i a s2 σ A x vs v us Q B c C D
end
abbrev M4(X:Cx)(id:String)(r:V->List V->Hp->VK->Prop):Prop :=
 ∀(a:List (hH×Obj)) (s:hh) (σ:St) (H:Hp) (x:V) (xs:List V) (v:d3) (us:List d3) (Q:VK),Inv X a σ H s->RelV x v->Vals xs us->r x xs H Q ->
  et (hE X.prog X.w) X.A (MR (.builtin id) (v::us)) (EP X a σ Q) X.xe s
theorem Vals.one:∀{x:V}{us:List d3},Vals [x] us->∃u,us=[u]/\RelV x u
 |_,_,.cons r .nil=>⟨_,rfl,r⟩
theorem Vals.zero:∀{us:List d3},Vals [] us->us=[]
 |_,.nil=>rfl
def Vals.dropLast(h:Vals xs us):Vals xs.dropLast us.dropLast:=by
 induction h with
 |nil=>show .nil
 |cons r t a =>
  cases t with
  |nil=>show .nil
  |cons q t'=>show .cons r a
theorem Vals.eraseIdx:∀{xs:List V}{us:List d3} (i:Nat),Vals xs us->Vals (xs.eraseIdx i) (us.eraseIdx i)
 |_,_,_,.nil=>.nil
 |_,_,0,.cons _ t=>t
 |_,_,i+1,.cons r t=>.cons r (Vals.eraseIdx i t)
def Vals.reverse(h:Vals xs us):Vals xs.reverse us.reverse:=by
 induction h with
 |nil=>show .nil
 |cons r t a=>rw[PF,PF];show Vals.append a (.cons r .nil)
def qF(l:List α):l.eraseIdx (l.length - 1)=l.dropLast:=by
 induction l with
 |nil=>rfl
 |cons a r c =>
  cases r with
  |nil=>rfl
  |cons b r =>
   have e:(a::b::r).length - 1=((b::r).length - 1)+1:=by
    have d:(a::b::r).length=r.length+2:=rfl;have f:(b::r).length=r.length+1:=rfl;lia
   rw[e,P4,c]
   all_goals rfl
theorem lX:∀(l:List α) (i:Nat),(l.eraseIdx i).length<=l.length
 |[],_=>ix _
 |_::_,0=>JE _
 |_::r,i+1=>Nat.succ_le_succ (lX r i)
section
def Inv.j8{b its':List d3}(I:Inv X a σ H s)(c:H l=bD (.lst xs))
  (e:s.heap.get? l=bD {cls:=.type "list",data:=.seq b.toArray n}) (d:f b.toArray=its'.toArray) (g:Vals ys its') (hz:ys.length<=df) :
  Inv X a σ (upd H l (.lst ys)) {s with heap:=s.heap.update l (p7 f),toks:=t' }:=by
 have q:=PySem.IsL.update e f;rw[d]at q;show I.write (x:=l) (e:=l) (by rw[c];show trivial) (.inl rfl) (λj u h i=>(Kr s.heap (p7 f) (ro h)).trans i) ⟨_,q⟩ ?_;show⟨hz,its',_,g,q⟩
def Inv.FW(I:Inv X a σ H s)(c:Vals ys b)(hz:ys.length<=df):
  Inv X a σ (upd H s.heap.objs.size (.lst ys)) {s with heap:=s.heap.push {cls:=.type "list",data:=.seq b.toArray},toks:=t' } :=
 I.laid (λ_ _ q=>dt _ q) (ix _) ⟨hz,b,0,c,fx _ rfl⟩
def Inv.fresh(I:Inv X a σ H s):H s.heap.objs.size=cb:=I.Gu.fresh (ix _)
def Inv.vM(I:Inv X b σ H s)(c:H l=bD (.lst xs)):xs.length<=df/\∃(a:List d3) (n:Nat),Vals xs a/\xs.length=a.length/\s.heap.get? l=bD {cls:=.type "list",data:=.seq a.toArray n}:=by
 have⟨z,a,n,r,e⟩:=I.Gu l _ c;show⟨z,a,n,r,r.length,e⟩
def vN(h:n<=df):Je n=cK:=by
 unfold Je;show Zo ⋯
end
section
abbrev y7:V->List V->Hp->VK->Prop:=λx vs H Q=>∃l xs y,x=.ref l/\vs=[y]/\H l=bD (.lst xs)/\xs.length<df/\Q .GC (upd H l (.lst (xs++[y])))
def lY:M4 X "list.append" y7:=by
 intro a s σ H x vs v us Q I d rv h;have⟨l,xs,y,rfl,rfl,b,hz,q⟩:=h;cases d;have⟨u,rfl,f⟩:=rv.one;have⟨z,c,n,r,hl,e⟩:=I.vM b;show Q7 F.slot_list_append ⟨_,e,rfl⟩ F.entry_list_append (F.args_list_append_2 _ _) (PySem.list_append l c.toArray n u (by rw[hA];lia)) ⟨e,?_⟩;show⟨.GC,_,I.j8 (its':=c++[u]) b e (by simp) (r.append (.cons f .nil)) ?_,rfl,q⟩;rw[hY,u5];lia
abbrev FX:V->List V->Hp->VK->Prop:=λx vs H Q=>∃l xs y,x=.ref l/\vs=[]/\H l=bD (.lst xs)/\xs[xs.length - 1]?=bD y/\Q y (upd H l (.lst xs.dropLast))
def B4:M4 X "list.pop" FX:=by
 intro b s σ H x vs v us Q I d rv h;have⟨l,xs,y,rfl,rfl,c,f,q⟩:=h;cases d;have g:=rv.zero;subst g;have⟨z,a,n,r,hl,e⟩:=I.vM c;have⟨u,i,j⟩:=r.get f;have k:a.toArray[a.toArray.size - 1]?=bD u:=by
  change a.toArray[a.length - 1]?=bD u;rw[<-qk,<-hl];show i
 show Q7 YE ⟨_,e,rfl⟩ Ym (F.args_list_pop_1 _) (MeetsSeq.list_pop_last l a.toArray n u k (by rw[hA];lia)) ⟨e,?_⟩;show⟨y,_,I.j8 (its':=a.dropLast) c e ?_ r.dropLast ?_,j,q⟩
 .change a.toArray.eraseIdxIfInBounds (a.toArray.size - 1)=a.dropLast.toArray;rw[hA,Sz,qF]
 .rw[List.length_dropLast];lia
abbrev B5:V->List V->Hp->VK->Prop:=λx vs H Q=>∃l xs i k y,x=.ref l/\vs=[.int i]/\H l=bD (.lst xs)/\-(2 ^ 63)<=i/\i<2 ^ 63/\U3 i xs.length=bD k/\xs[k]?=bD y/\Q y (upd H l (.lst (xs.eraseIdx k)))
def vO:M4 X "list.pop" B5:=by
 intro b s σ H x vs v us Q I d rv h;have⟨l,xs,i,k,y,rfl,rfl,c,f,g,hk,j,q⟩:=h;cases d;have⟨u,rfl,m⟩:=rv.one;have⟨t,rfl⟩:=m;have⟨z,a,n,r,hl,e⟩:=I.vM c;have⟨w,o,p⟩:=r.get j;show Q7 YE ⟨_,e,rfl⟩ Ym (F.args_list_pop_2 _ _)
  (MeetsSeq.list_pop_at l a.toArray n i t k w (fitsIndex_both f g) (by rw[hA,<-hl];show hk) (by rw[<-qk];show o) (by rw[hA];lia)) ⟨e,?_⟩
 show⟨y,_,I.j8 (its':=a.eraseIdx k) c e ?_ (r.eraseIdx k) ?_,p,q⟩
 .change a.toArray.eraseIdxIfInBounds k=(a.eraseIdx k).toArray;rw[Sz]
 .have:=lX xs k;lia
abbrev B6:V->List V->Hp->VK->Prop:=λx vs H Q=>∃l xs,x=.ref l/\vs=[]/\H l=bD (.lst xs)/\Q .GC (upd H l (.lst []))
def vP:M4 X "list.clear" B6:=by
 intro a s σ H x vs v us Q I c rv h;have⟨l,xs,rfl,rfl,b,q⟩:=h;cases c;have d:=rv.zero;subst d;have⟨z,f,n,r,hl,e⟩:=I.vM b;show Q7 F.slot_list_clear ⟨_,e,rfl⟩ F.entry_list_clear (F.args_list_clear_1 _) (AutoSeq1.list_clear_list_0 l f.toArray n (by rw[hA];lia)) ⟨e,?_⟩;show⟨.GC,_,I.j8 (its':=[]) (ys:=[]) b e rfl .nil (i3 _),rfl,q⟩
end
section
set_option maxRecDepth 100000 in
end
section
end
end L2
namespace R_
open PySem PySem.W PySem.Calls PyProof.Rows
def jC:∀(ns:List Int) (vs:List d3),WellAll P h vs (ns.map Y0)->XB vs ns:=by
 intro ns;induction ns with
 |nil =>
  intro vs w;rw[IV]at w;cases w;show .nil
 |cons n ns c =>
  intro vs w;rw[eH]at w;cases w with
  |cons a b =>
   cases a;show .cons _ _ (c _ b)
def ud{l:OpenLaw}(i:l.most=bD n)
  (f:l.row.toRowW.claim.pre args=b6) (j:WellAll P h vals args) :
  ∃a vs ns,vals=[kr a]/\args=[WData.list (ns.map Y0)]/\h.get? a=bD {cls:=.type "list",data:=.seq vs.toArray}/\XB vs ns/\ns.length<=n:=by
 have k:WShape.hasAll [] args [.list .int]=b6:=(pre_splitW f).1;have g:l.pre.holds [] {args:=args}=b6:=(pre_splitW f).2;have⟨d,r,rfl,m,o⟩:=hasAllW_cons k;obtain rfl:=hasAllW_nil o;have⟨xs,rfl,p⟩:=hasW_list m;have⟨ns,rfl⟩:=items_int p;have b:ns.length<=n:=by
  unfold OpenLaw.pre at g;have c:(WTm.not (.lt (.lit (.int (n:Int))) (.len (.arg 0)))).holds [] {args:=[.list (ns.map .int)]}=b6:=by
   have c:=(holds_andW g).1;rw[i]at c;show c
  have e:=condW_of c (w_not (w_lt w_lit (w_len_list (w_arg rfl))));rw[c4]at e;show X4 λq=>?_;have s:(n:Int)<((ns.length:Nat):Int):=by lia
  first
   |(rw[Zp s]at e;show absurd e (by decide))
   |(simp at e;lia)
 cases j with
 |cons t u =>
  cases u;cases t with
  |list ho v=>show⟨_,_,ns,rfl,rfl,ho,jC ns _ v,b⟩
def ue(l:OpenLaw)(args:List WData):l.row.toRowW.claim.post args (.bool b6) args=b6 :=
 postW_of (r:=l.row.toRowW) (X:=(b6==b6))
  (show Yy [] (.bool b6) .bool=b6 by first|rfl|decide|simp[Yy,WShape.arms,WShape.armsAll])
  (show(WTm.eq .res (.lit (.bool b6))).value [] {args:=args,res:=bD (.bool b6),after:=args}=bD (.bool (b6==b6)) from w_eq_bool (w_res rfl) w_lit) rfl
def o_{l:OpenLaw}
  (p:l.most=bD n) (s:d.params.defaults=[])
  (MR:∀(w:G1) (s₀ b:hh) (mg j:Str->Option d3) (fa:hH) (o:Obj) (k i c:d3) (a:hH) (vs:List d3) (ns:List Int),
   Ground q e [] t w s₀ mg j b.heap->u w b.heap ->
   b.heap.get? fa=bD o->o.data=.func (docDef d.name d.params d.body d.scope k i c)->b.heap.CodeRec i d.name->mg d.name=bD (.ref fa) ->
   b.heap.get? a=bD {cls:=.type "list",data:=.seq vs.toArray}->XB vs ns->ns.length<=n->b.gens=#[] ->
   OU (hE l.prog w) Q2 (.call (.ref fa) ⟨[.ref a],[]⟩) (λr s'=>r=.ok (.ret (.bool b6))/\OldK b.heap s'.heap/\s'.os=b.os/\Ri s'.gens) b) :
  WalkO q e t u l.row.toRowW d [] (λf vs=>PySem.call f vs):=by
 intro w s₀ b mg j G Y fa o k i c v kV ho x y m z A args vals as B O Q C T;obtain rfl:v=.none:=Dflts.none m s;obtain rfl:kV=.none:=Dflts.noKw m;have⟨a,vs,ns,rfl,rfl,D,g,h⟩:=ud p B C;show enter_call (Q1 (MR w s₀ b mg j fa o k i c a vs ns G Y ho (fd_plain x) y z D g h A) λr s' H=>?_);have⟨rfl,I,J,L⟩:=H;show⟨.inl ⟨.bool b6,.bool b6,[],rfl,λ_=>rfl,.bool b6,ue l _,λ_=>⟨YX,λ_ N=>(nomatch N)⟩⟩,I,J,L⟩
section
end
end R_
namespace L2
open PySem PySem.Spec PyProof.Rows
theorem lZ:∀{vs:List d3}{ns:List Int},XB vs ns->Vals (ns.map V.int) vs
 |_,_,.nil=>.nil
 |_,_,.cons n t h=>.cons ⟨t,rfl⟩ (lZ h)
abbrev B7(H:Hp):Prop:=∀b,H b=cb\/∃o xs,H b=bD (.HJ o (.lst xs))
def vQ{K:PySem.W.Frag}
  (y:K.In c.heap) (A:c.heap.Ns HA mg) (f:c.heap.Ns Yi B) (O:∀x:Str,x≠"__name__"->B x=G8 x) (Q:c.heap.NoLimit) (T:c.gens=#[])
  (l:c.heap.get? a=bD {cls:=.type "list",data:=.seq vs.toArray}) (C:XB vs ns) (hl:ns.length<=df) (Y:fA k Q2)
  (F:∀base:Ic,K.In base->base.Ns HA mg->jB P w K mg base CX k fa fd [x] sp) (M6:∀(s:hh) (u:d3),Xx s fd ⟨[u],[]⟩ [(x,u)])
  (Ir:∀H:Hp,B7 H->G2 K H a (ns.map V.int)->sp [.ref a] H (λv _=>v=.bl b6) λ_ _ _=>False)
  (PZ:∀H e s',CX [] H c (λ_ _ _=>False) e s'->False) :
  OU (hE P w) Q2 (.call (.ref fa) ⟨[.ref a],[]⟩) (λr s'=>r=.ok (.ret (.bool b6))/\OldK c.heap s'.heap/\s'.os=c.os/\Ri s'.gens) c:=by
 have rv:=lZ C;have P0:=C.length;have g:∀H:Hp,B7 H->G2 K H a (ns.map V.int)->Hu P w H c.heap->(∀b,H b≠cb->b=a)->(H a≠cb->K.lookup a=cb) ->
   OU (hE P w) Q2 (.call (.ref fa) ⟨[.ref a],[]⟩) (λr s'=>r=.ok (.ret (.bool b6))/\OldK c.heap s'.heap/\s'.os=c.os/\Ri s'.gens) c:=by
  intro H D hS G I hK;have jN:∀{b:hH} {o:Obj},c.heap.get? b=bD o->H b=cb->(nq c.heap H).get? b=bD o:=λe n=>vm e n;have MY:∀{b:hH} {o:Obj} {es:Array DictEntry} {ep:Nat},c.heap.get? b=bD o->o.data=.dict es ep->H b=cb:=λ{b o es ep} e d=>by
   cases q:H b with
   |none=>rfl
   |some u =>
    have t:b=a:=I b (by rw[q];simp);subst t;rw[l]at e;cases e;have d':Data.seq vs.toArray _=Data.dict es ep:=d;cases d'
  have p:∀{b:hH} {m:Str->Option d3},c.heap.Ns b m->(nq c.heap H).Ns b m:=λ{b m} ⟨o,es,ep,e,d,r⟩=>⟨o,es,ep,jN e (MY e d),d,r⟩
  have J:K.In (nq c.heap H):=λb o e=>jN (y b o e) (by
   cases q:H b with
   |none=>rfl
   |some u =>
    have t:b=a:=I b (by rw[q];simp);subst t;rw[hK (by rw[q];simp)]at e;cases e)
  have hM:Mod K mg (nq c.heap H):=⟨J,p A,⟨B,p f,O⟩,let ⟨mc,h1,h2⟩:=Q;⟨mc,p h1,h2⟩⟩
  have e0:yS P w K mg (nq c.heap H) Q2 [] c H:=⟨rfl,hM,λb o e=>yJ e,Wz (t8 _ _),trivial,λb f=>absurd (show b∈([]:List hH) from f) (by simp),G,.of_eq T⟩
  show Q1 ((F _ J (p A)).run Q2 [] c H ⟨[.ref a],[]⟩ [.ref a] [.ref a] _ _ Y e0 (M6 c (.ref a)) (.cons rfl .nil) (Ir H D hS)) λr s' h=>?_;cases r with
  |error e=>show(PZ H e s' h).elim
  |ok fl =>
   cases fl with
   |ret u =>
    have⟨v,H',os,i,L,P1,r',q⟩:=h;have q':v=.bl b6:=q;subst q';obtain rfl:u=Kb b6:=r';show⟨rfl,OldK.of_keep λb o e=>?_,os,i⟩;cases q:H b with
    |none=>show L.keep b o e q (by intro z;show absurd (show b∈([]:List hH) from z) (by simp)) (by simp)
    |some u =>
     rcases D b with z|⟨ob,xs,z⟩
     .rw[q]at z;cases z
     .have z2:=L.HW b ob _ z;obtain⟨N,_⟩:=G b _ z;obtain⟨e2,_⟩:=P1 b _ z2;rw[e]at N;cases N;show e2
   |_=>show LB h
 cases hk:K.lookup a with
 |some o =>
  have e:=y a o hk;rw[l]at e;cases e;show g (λ_=>cb) (λ_=>.inl rfl) (.inr ⟨_,vs.toArray,_,hk,rfl,rfl,rfl,by rw[hA,P0];show hl,by simpa using rv⟩) (λb u z=>by have j:(cb:Option HO)=bD u:=z;cases j) (λb z=>absurd rfl z) λz=>absurd rfl z
 |none =>
  show g (λb=>if b=a then bD (.HJ {cls:=.type "list",data:=.seq vs.toArray} (.lst (ns.map V.int))) else cb) (λb=>?_) (.inl (.inr ⟨{cls:=.type "list",data:=.seq vs.toArray},Zm rfl⟩)) (λb u z=>?_) (λb z=>?_) λ_=>hk
  .by_cases f:b=a
   .show .inr ⟨_,_,Zm f⟩
   .show .inl (Zn f)
  .by_cases f:b=a
   .have j:=(Zm f).symm.trans z;cases j;subst f;show⟨l,by rw[c4];show hl,vs,_,rv,l⟩
   .have j:=(Zn f).symm.trans z;cases j
  .by_cases f:b=a
   .show f
   .show absurd (Zn f) z
def y8{l:PySem.W.OpenLaw}{K:Xu->PySem.W.Frag}{CX:G1->Mm}{sp:G1->Sp}
  (r:l.most=bD n) (t:n<=df) (y:d.params.defaults=[]) (z:fA k Q2)
  (A:∀(w:G1) (h:Ic),B w h->(K w.params).In h)
  (F:∀(w:G1) (mg:Str->Option d3) (fa:hH) (h:Ic),(K w.params).In h->h.Ns HA mg->mg d.name=bD (.ref fa) ->
   ∃j:PU,(∀(s:hh) (u:d3),Xx s j ⟨[u],[]⟩ [(x,u)]) /\
    ∀base:Ic,(K w.params).In base->base.Ns HA mg->jB l.prog w (K w.params) mg base (CX w) k fa j [x] (sp w))
  (C:∀(w:G1) (H:Hp) (a:hH) (ns:List Int),ns.length<=n->B7 H->G2 (K w.params) H a (ns.map V.int)->sp w [.ref a] H (λv _=>v=.bl b6) λ_ _ _=>False)
  (D:∀(w:G1) (H:Hp) (s:hh) (e:d3) (s':hh),CX w [] H s (λ_ _ _=>False) e s'->False) :
  PySem.W.WalkO q m XP B l.row.toRowW d [] (λf vs=>PySem.call f vs):=by
 show R_.o_ r y λw s₀ I mg mb fa o pm cd J a vs ns G Y ho hd G3 L N i c O=>?_;have p:=A w _ Y;have⟨j,Q,hF⟩:=F w mg fa _ p G.T.g L;show vQ p G.T.g G.T.b G.T.builtins G.T.nolimit O N i (t4 c t) z hF Q (λH hO hS=>C w H a ns c hO hS) λH e s'=>D w H I e s'
abbrev fS(s:Ly):Arguments:=match s with
 |.FunctionDef _ a _ _ _ _ _ _ _ _=>a
 |_=>{posonlyargs:=[],args:=[],vararg:=cb,kwonlyargs:=[],kw_defaults:=[],kwarg:=cb,defaults:=[]}
abbrev cP(s:Ly):List Ly:=match s with
 |.FunctionDef _ _ b _ _ _ _ _ _ _=>b
 |_=>[]
abbrev aN(s:Ly):K1:=match s with
 |.FunctionDef _ _ _ _ _ _ a _ _ _=>a
 |_=>{kind:=.function,names:=[],isGenerator:=cK,isCoroutine:=cK}
@[reducible]def Jt:Mm:=λ_ _ _ _ _ _=>False
@[reducible]def E0:XK:=λ_ _ _=>False
def vR:Passes Jt X E0:=λ_ _ _ _ _ _ _ h=>h.elim
structure KU(K:PySem.W.Frag)(x qual:Str)(st:Ly)(f:hH)(fd:PU):Prop where
 ex:∃(oc:d3) (od:Option hH) (kV doc pm:d3) (an:Option hH) (Hy ct:d3) (MZ:Array (Option d3)),
  fd=PySem.W.fnOf x qual (fS st) (cP st) (aN st) .none kV doc pm an Hy ct/\K.lookup f=bD ⟨oc,od,.func fd,MZ⟩/\PySem.W.codeIn K Hy qual=b6
 kp:PySem.W.keepIn K (.ref f)=b6
section
variable{P:wh}{w:G1}{K:PySem.W.Frag}{mg:Str->Option d3}{base:Ic}
def KU.ok{st:Ly}(F:KU K x a st f d)(S:dX N ps (aN st))(c:∀vs H Q E,sp vs H Q E->vs.length=ps.length)
  (e:∀(b:d3) (A:LU) (outer:List Env) (s:hh) (H:Hp) (vs:List V) (Q:VK) (E:XK),fA k (A.deeper (Rh a (aN st) s.heap.objs.size f b))->sp vs H Q E ->
   ∃t,Hx (oX Jt P w K mg base N a (aN st) f b A outer s H E).Mk (cP st) t/\t {nx:=λ_ H'=>Q .GC H',rt:=Q} (start N vs) H):jB P w K mg base Jt (k+1) f d ps sp:=by
 have⟨m,n,kV,g,o,p,b,ct,r,rfl,lk,i⟩:=F.ex;show D0 lk i S c λA outer s H vs Q E j l=>?_;have⟨t,h,q⟩:=e b A outer s H vs Q E j l;show⟨t,h.Mk,q⟩
def B8{st:Ly}{kV b e d ct:d3}(l:K.lookup f=bD ⟨h,i,.func (PySem.W.fnOf x a (fS st) (cP st) (aN st) .none kV b e g d ct),j⟩)
  (c:PySem.W.codeIn K d a=b6) (k:PySem.W.keepIn K (.ref f)=b6):KU K x a st f (PySem.W.fnOf x a (fS st) (cP st) (aN st) .none kV b e g d ct):=⟨⟨h,i,kV,b,e,g,d,ct,j,rfl,l,c⟩,k⟩
end
section
end
abbrev y9(H H':Hp):Prop:=∀b o,H b=bD o->H' b=bD o
section
variable{κ:Type}[DecidableEq κ]
abbrev dr(kvs:List (κ×V))(k:κ):Option V:=(kvs.find? λkv=>cL (kv.1=k)).map (·.2)
abbrev putK(kvs:List (κ×V))(k:κ)(v:V):List (κ×V) :=
 if (kvs.any λkv=>cL (kv.1=k))=b6 then kvs.map (λkv=>if kv.1=k then(kv.1,v) else kv) else kvs++[(k,v)]
def d8{p:κ×V}{k:κ}(e:p.1=k):dr (p::r) k=bD p.2:=by simp[dr,K',e]
def d9{p:κ×V}{k:κ}(e:¬p.1=k):dr (p::r) k=dr r k:=by simp[dr,K',e]
theorem hV(k:κ):∀kvs:List (κ×V),(kvs.any λkv=>cL (kv.1=k))=(dr kvs k).isSome
 |[]=>rfl
 |p::r=>by
  rw[RX];by_cases e:p.1=k
  .simp only[d8 e,Zp e,Bool.true_or,Option.isSome_some]
  .rw[d9 e,Zo e,Bool.false_or];show hV k r
def jl(kvs:List (κ×V))(k:κ)(v:V):(putK kvs k v).length<=kvs.length+1:=by
 unfold putK;split
 .rw[c4];lia
 .rw[hY,js,Te];lia
def vS{k:κ}(v:V)(h:dr kvs k=cb):putK kvs k v=kvs++[(k,v)]:=by
 unfold putK;rw[hV,h];show Zn (by decide)
def jA.d_(r:jA o u):o.isSome=u.isSome:=by
 cases o with
 |none=>cases u with
  |none=>rfl
  |some _=>show(show False from r).elim
 |some _=>cases u with
  |none=>show(show False from r).elim
  |some _=>rfl
def jA.getD(r:jA o u)(a:RelV d d'):RelV (o.getD d) (u.getD d'):=by
 cases o with
 |none=>cases u with
  |none=>show a
  |some _=>show(show False from r).elim
 |some _=>cases u with
  |none=>show(show False from r).elim
  |some _=>show r
def KV.val(r:KV kvs vs)(k:κ):jA (dr kvs k) (TV vs k):=by
 unfold KV at r;induction r with
 |nil=>show UR
 |@cons p q ps a h t f =>
  have⟨d,g⟩:=h;by_cases e:p.1=k
  .have c:q.1=k:=d.symm.trans e;have b:TV (q::a) k=bD q.2:=by simp[TV,K',c]
   rw[d8 e,b];show g
  .have c:¬q.1=k:=λz=>e (d.trans z);have b:TV (q::a) k=TV a k:=by simp[TV,K',c]
   rw[d9 e,b];show f
def KV.any(r:KV kvs vs)(k:κ):(kvs.any λkv=>cL (kv.1=k))=vs.any λkv=>cL (kv.1=k):=by
 unfold KV at r;induction r with
 |nil=>rfl
 |cons h t a=>rw[RX,RX,a,h.1]
def KV.B9(r:KV kvs vs)(k:κ)(b:RelV y u):
  KV (kvs.map λkv=>if kv.1=k then(kv.1,y) else kv) (vs.map λkv=>if kv.1=k then(kv.1,u) else kv):=by
 unfold KV at r ⊢;induction r with
 |nil=>show .nil
 |@cons p q ps f h t c =>
  rw[eH,eH];show .cons ?_ c;have⟨a,d⟩:=h;by_cases e:p.1=k
  .rw[Zm e,Zm (a.symm.trans e)];show⟨a,b⟩
  .rw[Zn e,Zn (λz=>e (a.trans z))];show⟨a,d⟩
def KV.put(r:KV kvs vs)(k:κ)(a:RelV y u):KV (putK kvs k y) (stored vs k u):=by
 unfold putK stored;rw[r.any k];by_cases e:(vs.any λkv=>cL (kv.1=k))=b6
 .rw[Zm e,Zm e];show r.B9 k a
 .rw[Zn e,Zn e];show Paired.snoc r ⟨rfl,a⟩
def KV.length(r:KV kvs vs):kvs.length=vs.length:=Paired.length r
end
def l8(r:RelV (kV k) u):(aM P w).is k u=b6:=by
 cases k with
 |inl i=>have⟨t,e⟩:=(show ∃t,u=Xr i t from r);subst e;show oU P w i t
 |inr x=>have⟨t,e⟩:=(show ∃t,u=tA x t from r);subst e;show oV P w x t
theorem l9:∀{ks:List Key}{us:List d3},Vals (ks.map kV) us->ItemsAre (aM P w) ks us
 |[],_,r=>by rw[IV]at r;cases r;show .nil
 |k::ks,_,r=>by
  rw[eH]at r;cases r with
  |cons h t=>show .cons (l8 h) (l9 t)
@[reducible]def KT(H:Hp):List (List Key×V)->List (List Key×hH×d3)->Prop:=Paired λp q=>p.1=q.1/\H q.2.1=bD (.tup (p.1.map kV))/\RelV p.2 q.2.2
def KT.val(r:KT H kvs xs)(k:List Key):jA (dr kvs k) ((Wv xs k).map (·.2)):=by
 induction r with
 |nil=>show UR
 |@cons p q ps a h t f =>
  obtain⟨d,_,g⟩:=h;by_cases e:p.1=k
  .have c:q.1=k:=d.symm.trans e;have b:Wv (q::a) k=bD q.2:=by simp[Wv,K',c]
   rw[d8 e,b];show g
  .have c:¬q.1=k:=λz=>e (d.trans z);have b:Wv (q::a) k=Wv a k:=by simp[Wv,K',c]
   rw[d9 e,b];show f
def KT.B9(r:KT H kvs xs)(k:List Key)(c:RelV y u):
  KT H (kvs.map λkv=>if kv.1=k then(kv.1,y) else kv) (xs.map (putAt k u)):=by
 induction r with
 |nil=>show .nil
 |@cons p q ps g h t d =>
  rw[eH,eH];show .cons ?_ d;have⟨a,b,f⟩:=h;unfold putAt;by_cases e:p.1=k
  .rw[Zm e,Zm (a.symm.trans e)];show⟨a,b,c⟩
  .rw[Zn e,Zn (λz=>e (a.trans z))];show⟨a,b,f⟩
def KT.put(r:KT H kvs xs)(k:List Key)(c:H b=bD (.tup (k.map kV)))(a:RelV y u):
  KT H (putK kvs k y) (storedH xs k b u):=by
 have e:(kvs.any λkv=>cL (kv.1=k))=(Wv xs k).isSome:=by
  rw[hV,(r.val k).d_,R0]
 unfold putK storedH;rw[e];by_cases q:(Wv xs k).isSome=b6
 .rw[Zm q,Zm q];show r.B9 k a
 .rw[Zn q,Zn q];show Paired.snoc r ⟨rfl,c,a⟩
def KT.keeps(r:KT H kvs xs)(a:∀b ys,H b=bD (.tup ys)->H' b=bD (.tup ys)):KT H' kvs xs :=
 Paired.BI r λ_ _ z=>⟨z.1,a _ _ z.2.1,z.2.2⟩
section
def A8(b:Hu P w H h)(e:Rd H a u):bE P w H h a u:=e.ok b
def j9(b:Hu P w H h)(e:Rd H a (.dK kvs)):kvs.length<=df/\(a==Li)=cK/\∃vs,KV kvs vs/\h.DictOf (aM P w) a vs :=
 show bE P w H h a (.dK kvs) from A8 b e
def vT(b:Hu P w H h)(e:H a=bD (.dK kvs)):kvs.length<=df/\(a==Li)=cK/\∃vs,KV kvs vs/\h.DictOf (aM P w) a vs:=j9 b (.inl e)
def iQ(b:Hu P w H h)(e:H a=bD (.tup (ks.map kV))):(Sm (aM P w)).is h ks a:=by
 obtain⟨_,c,r,o,d,f,n,g⟩:=(show bE P w H h a (.tup (ks.map kV)) from b a _ e)
 show⟨o,c.toArray,n,d,f,g,by simpa using l9 r⟩
def j_(b:Hu P w H h)(e:Rd H a (.dT kvs)):kvs.length<=df/\(a==Li)=cK /\
  ∃xs,KT H kvs xs/\h.DictOfH (Sm (aM P w)) a xs:=by
 have⟨z,y,xs,r,o,es,ep,d,f,g,i,j⟩:=(show bE P w H h a (.dT kvs) from A8 b e)
 show⟨z,y,xs,r,o,es,ep,d,f,g,i,λx hx=>?_,j⟩;have all:∀{l:List (List Key×V)} {m:List (List Key×hH×d3)},KT H l m->∀x∈m,(Sm (aM P w)).is h x.1 x.2.1:=by
  intro l m q;induction q with
  |nil=>intro x hx;show nomatch hx
  |@cons p q ps n c t k =>
   intro x hx;rcases gs.mp hx with e|hx
   .subst e;show iQ b (by rw[<-c.1];show c.2.1)
   .show k x hx
 show all r x hx
def D8(b:Hu P w H h)(e:H a=bD (.dT kvs)):kvs.length<=df/\(a==Li)=cK /\
  ∃xs,KT H kvs xs/\h.DictOfH (Sm (aM P w)) a xs:=j_ b (.inl e)
end
abbrev eV(H:Hp)(a:hH)(y:V)(r:Option V):Prop :=
 (∃kvs k,Rd H a (.dK kvs)/\y=kV k/\r=dr kvs k)\/∃kvs k b,Rd H a (.dT kvs)/\y=.ref b/\H b=bD (.tup (k.map kV))/\r=dr kvs k
abbrev uf(H:Hp)(a:hH)(y v:V)(H':Hp):Prop :=
 (∃kvs k,H a=bD (.dK kvs)/\y=kV k/\kvs.length<df/\H'=upd H a (.dK (putK kvs k v))) \/
 ∃kvs k b,H a=bD (.dT kvs)/\y=.ref b/\H b=bD (.tup (k.map kV))/\kvs.length<df/\H'=upd H a (.dT (putK kvs k v))
def eV.k{H:Hp}{a:hH}{kvs:List (Key×V)}{k:Key}(e:H a=bD (.dK kvs)):eV H a (kV k) (dr kvs k):=.inl ⟨kvs,k,.inl e,rfl,rfl⟩
def uf.k{H:Hp}{a:hH}{kvs:List (Key×V)}{k:Key}{v:V}(e:H a=bD (.dK kvs))(hl:kvs.length<df):uf H a (kV k) v (upd H a (.dK (putK kvs k v))):=.inl ⟨kvs,k,e,rfl,hl,rfl⟩
section
def Inv.big(I:Inv X a σ H s):Li<s.heap.objs.size:=by
 have h:HA<s.heap.objs.size:=(I.mod.glob.keeps I.bk).lt;show Sy (by decide) h
def ug(r:A.units+1<Jq)(I:Inv X f σ H s)(g:eV H a y (bD v))(q:RelV y u)(h:∀d s',Inv X f σ H s'->RelV v d->Q d s'):
  et (hE X.prog X.w) A (T9 (.ref a) u) Q E s:=by
 rcases g with⟨kvs,k,e,i,l⟩|⟨kvs,k,b,e,i,t,l⟩
 .subst i;have⟨z,x,vs,c,j⟩:=j9 I.Gu e;have⟨d,m,n⟩:=jA.some_of (v:=v) (o:=TV vs k) (by rw[l];show c.val k);show wpAny_getItem_of (l8 q) j.mapOf m (h d _ (I.tok _) n)
 .subst i;cases(show u=kr b from q);have⟨z,x,xs,c,j⟩:=j_ I.Gu e;have⟨d,m,n⟩:=jA.some_of (v:=v) (o:=(Wv xs k).map (·.2)) (by rw[l];show c.val k);have⟨p,B,C⟩:=gj.mp m;show wpAny_getItem_heap (Nm r) (iQ I.Gu t) j B ?_;rw[C];show h d _ (I.tok _) n
def D9(n:A.units+1<Jq)(I:Inv X d σ H s)(g:eV H a y o)(m:RelV y u)(h:∀s',Inv X d σ H s'->Q (.bool o.isSome) s'):
  et (hE X.prog X.w) A (Ny .In u (.ref a)) Q E s:=by
 rcases g with⟨kvs,k,e,f,l⟩|⟨kvs,k,b,e,f,p,l⟩
 .subst f;have⟨z,i,vs,c,j⟩:=j9 I.Gu e;show wpAny_in_of (l8 m) i j.mapOf ?_;rw[<-(c.val k).d_,<-l];show h _ (I.tok _)
 .subst f;cases(show u=kr b from m);have⟨z,i,xs,c,j⟩:=j_ I.Gu e;show wpAny_in_heap (Nm n) (iQ I.Gu p) i j ?_;have q:=(c.val k).d_;rw[R0]at q;rw[<-q,<-l];show h _ (I.tok _)
def se(n:A.units+1<Jq)(I:Inv X d σ H s)(g:eV H a y o)(m:RelV y u)(h:∀s',Inv X d σ H s'->Q (.bool (!o.isSome)) s'):
  et (hE X.prog X.w) A (Ny .NotIn u (.ref a)) Q E s:=by
 rcases g with⟨kvs,k,e,f,l⟩|⟨kvs,k,b,e,f,p,l⟩
 .subst f;have⟨z,i,vs,c,j⟩:=j9 I.Gu e;show wpAny_notIn_of (l8 m) i j.mapOf ?_;rw[<-(c.val k).d_,<-l];show h _ (I.tok _)
 .subst f;cases(show u=kr b from m);have⟨z,i,xs,c,j⟩:=j_ I.Gu e;show wpAny_notIn_heap (Nm n) (iQ I.Gu p) i j ?_;have q:=(c.val k).d_;rw[R0]at q;rw[<-q,<-l];show h _ (I.tok _)
def sg(I:Inv X c σ H s)(f:MN (H a))(hs:nc a s.heap h')(g:∃q,h'.get? a=bD q)(new:bE X.prog X.w (upd H a d) h' a d):
  Inv X c σ (upd H a d) {s with heap:=h',toks:=t' } :=
 I.write (x:=a) (e:=a) f (.inl rfl) (λb q h z=>(hs.2 b h).trans z) g new
def B_(z:kvs.length<=df)(c:(a==Li)=cK)(b:KV kvs vs)(d:h'.DictOf (aM P w) a vs):
  bE P w H' h' a (.dK kvs):=⟨z,c,vs,b,d⟩
def uh(C:A.units+1<Jq)(I:Inv X f σ H s)(g:uf H a y v H')(t:RelV y u)(rv:RelV v r)(h:∀s',Inv X f σ H' s'->Q () s'):
  et (hE X.prog X.w) A (QY (.ref a) u r) Q E s:=by
 rcases g with⟨kvs,k,e,m,l,n⟩|⟨kvs,k,b,e,m,x,l,n⟩
 .subst m n;have⟨z,o,vs,d,p⟩:=vT I.Gu e;have hz:vs.length<=df:=by rw[<-d.length];show z
  have hl:(putK kvs k v).length<=df:=by have:=jl kvs k v;lia
  show wpAny_setItem_pairs (hsz:=hz) (l8 t) p λh' i hs=>h _ ?_;have D:∃q,h'.get? a=bD q:=let ⟨q,_,_,j,_⟩:=i;⟨q,j⟩;show sg I (by rw[e];show UR) hs D (B_ hl o (d.put k rv) i)
 .subst m n;cases(show u=kr b from t);have⟨z,o,xs,d,p⟩:=D8 I.Gu e;have hz:xs.length<=df:=by rw[<-Paired.length d];show z
  have hl:(putK kvs k v).length<=df:=by have:=jl kvs k v;lia
  show wpAny_setItem_heap (hsz:=hz) (Nm C) (iQ I.Gu x) p λh' i hs=>h _ ?_;obtain⟨q,es,ep,j,G,J,L,_,N⟩:=i;show sg I (by rw[e];show UR) hs ⟨q,j⟩ ⟨hl,o,_,(d.put k x rv).keeps λc ys B=>?_,q,es,ep,j,G,J,L,N⟩;rw[aj (DG B e (λz=>nomatch z))];show B
end
section
end
abbrev Ca(i:my):Prop:=∀a b,VD i cK a b=operate [a,b] (T9 a b)
def y_{T id:String}
  (hl:SW (.type T) "__getitem__"=pure (bD (.builtin id))) (hs:Ca a)
  (h:et (hE prog w) A (vr b env) (λo f=>et (hE prog w) A (vr a env) (λi d=>d.TypeIs o T/\et (hE prog w) A (T9 o i) Q E d) E f) E s) :
  et (hE prog w) A (vr (.Subscript b a pos) env) Q E s:=by
 show Ww (tj h (λo f k=>tj k (λi d e=>?_) λ_ _ x=>x) λ_ _ x=>x);have⟨g,e⟩:=e;unfold SN;show b5 ?_;rw[getitemInPython_of_ne g.not_modules];show b5 (Rv g hl ?_);have c:et (hE prog w) A (VD a cK o i) (λr j=>et (hE prog w) A (letTemporaryGo b o r >>= λ_=>pure r) Q E j) E d:=by
  rw[hs o i];show wpAny_operating (tj e (λr j l=>b5 (wpAny_letTemporaryGo (dV l))) λ_ _ x=>x)
 first
  |show dV (b5 c)
  |show b5 (dV (b5 c))
  |show b5 c
def pb(I:Inv X d σ H s)(g:eV H a y o):s.TypeIs (.ref a) "dict":=by
 rcases g with⟨kvs,k,e,_,_⟩|⟨kvs,k,b,e,_,_,_⟩
 .obtain⟨_,_,vs,_,c⟩:=j9 I.Gu e;show c.typeIs
 .obtain⟨_,_,xs,_,c⟩:=j_ I.Gu e;show c.typeIs
abbrev D_(c d:TE):TE:=λσ H Q=>c σ H λx e=>d σ e λy b=>∃a v,x=.ref a/\eV b a y (bD v)/\Q v b
abbrev FY(c d:TE):TE:=λσ H Q=>c σ H λy e=>d σ e λx b=>∃a o,x=.ref a/\eV b a y o/\Q (.bl o.isSome) b
abbrev za(c d:TE):TE:=λσ H Q=>c σ H λy e=>d σ e λx b=>∃a o,x=.ref a/\eV b a y o/\Q (.bl (!o.isSome)) b
section
def zb(d:X.A.units+1<Jq)(ho:PE X o e)(f:PE X i j)(hs:Ca i):PE X (.Subscript o i pos) (D_ e j):=by
 intro b s σ H Q I h;show y_ PySem.F.slot_dict_getitem.lookup hs (Gv (ho b s σ H _ I h) λu s1 ⟨x,k,l,m,n⟩=>Gv (f b s1 σ k _ l n) λB s2 p=>?_);have⟨y,q,c,r,a,v,ex,g,t⟩:=p;subst ex;obtain rfl:u=kr a:=m;show⟨pb c g,ug d c g r λC s3 w z=>⟨v,q,w,z,t⟩⟩
def Cb(c:X.A.units+1<Jq)(d:PE X i e)(ho:PE X o f):PC X .In i o (FY e f):=by
 intro b s σ H Q I h;show Gv (d b s σ H _ I h) λz s1 ⟨y,j,k,l,m⟩=>Gv (ho b s1 σ j _ k m) λu s2 n=>?_;have⟨x,p,q,r,a,t,ex,g,v⟩:=n;subst ex;obtain rfl:u=kr a:=r;show D9 c q g l λs3 w=>⟨.bl t.isSome,p,w,rfl,v⟩
def ui(c:X.A.units+1<Jq)(d:PE X i e)(ho:PE X o f):PC X .NotIn i o (za e f):=by
 intro b s σ H Q I h;show Gv (d b s σ H _ I h) λz s1 ⟨y,j,k,l,m⟩=>Gv (ho b s1 σ j _ k m) λu s2 n=>?_;have⟨x,p,q,r,a,t,ex,g,v⟩:=n;subst ex;obtain rfl:u=kr a:=r;show se c q g l λs3 w=>⟨.bl (!t.isSome),p,w,rfl,v⟩
end
def vU(h:Ic)(a:Li<h.objs.size):bE P w H (h.push {cls:=.type "dict",data:=.dict #[]}) h.objs.size (.dK []) :=
 ⟨i3 _,beq_eq_false_iff_ne.mpr (ro (hZ a)),[],.nil,Zf h⟩
abbrev Cc:TE:=λ_ H Q=>∀p,H p=cb->Q (.ref p) (upd H p (.dK []))
section
def pd:PE X (.Dict [] [] pos) Cc:=λb s σ H Q I h =>
 wpAny_Dict_empty ⟨.ref s.heap.objs.size,_,I.laid (a:=s.heap.objs.size) (o:=.dK []) (t':=s.toks) (λ_ _ q=>dt _ q) (ix _) (vU s.heap I.big),rfl,h _ (I.Gu.fresh (ix _))⟩
end
structure M2(X:Cx)(o:my)(m:Str)(apos:Pos)(e f:my)(F':Pos):Prop where
 base:Qm o m X.env (vr o X.env)=vr o X.env
 Kp:((Ht F' (i5 [e,f] X.env)).all (λx=>!x.1)&&(NY F' (JQ [] X.env)).all (λx=>x.1.isSome)
  && cL (([e,f]:List my).length+([]:List LZ).length+(if ([]:List LZ).isEmpty then 0 else 1)<30))=b6
 line:(apos.endLine==F'.line)=b6
 trees:Ht F' (i5 [e,f] X.env)=[(cK,vr e X.env),(cK,vr f X.env)]
abbrev Sd(H:Hp)(a:hH):Prop:=(∃kvs,Rd H a (.dK kvs))\/∃kvs,Rd H a (.dT kvs)
def Cd(I:Inv X j σ H s)(d:Sd H a):
  s.TypeIs (.ref a) "dict"/\(∀b,kr a=.ref b->∃c,s.heap.get? b=bD c/\c.dict=cb)/\(a==Li)=cK:=by
 rcases d with⟨kvs,e⟩|⟨kvs,e⟩
 .obtain⟨_,g,vs,_,f⟩:=j9 I.Gu e;show⟨f.typeIs,λb q=>?_,g⟩;cases q;obtain⟨c,_,_,h,i,_⟩:=f;show⟨c,h,i.2.1⟩
 .obtain⟨_,g,xs,_,f⟩:=j_ I.Gu e;show⟨f.typeIs,λb q=>?_,g⟩;cases q;obtain⟨c,_,_,h,i,_⟩:=f;show⟨c,h,i.2.1⟩
section
def Ce(t:A.units+1<Jq)(I:Inv X f σ H s)(g:eV H a y o)(n:RelV y u)(p:RelV d r)(h:∀q s',Inv X f σ H s'->RelV (o.getD d) q->Q q s'):
  et (hE X.prog X.w) A (MR (.builtin "dict.get") [.ref a,u,r]) Q E s:=by
 rcases g with⟨kvs,k,e,j,l⟩|⟨kvs,k,b,e,j,v,l⟩
 .subst j;have⟨z,m,vs,c,i⟩:=j9 I.Gu e;show Ur PySem.F.slot_dict_get i.typeIs PySem.F.entry_dict_get (PySem.F.args_dict_get_3 _ _ _) (meets_dict_get_default (aM X.prog X.w) a (l8 n) m r) ⟨_,i.mapOf,h _ _ (I.tok _) ?_⟩;rw[l];show(c.val k).getD p
 .subst j;cases(show u=kr b from n);have⟨z,m,xs,c,i⟩:=j_ I.Gu e;show Ur PySem.F.slot_dict_get i.typeIs PySem.F.entry_dict_get (PySem.F.args_dict_get_3 _ _ _) (meetsH_dict_get_default (Sm (aM X.prog X.w)) a b m r) ⟨Nm t,k,xs,iQ I.Gu v,i,h _ _ (I.tok _) ?_⟩;rw[l];show(c.val k).getD p
end
abbrev Cg(d e f:TE):TE:=λσ H Q=>d σ H λx b=>∃a,x=.ref a/\Sd b a/\e σ b λy g=>f σ g λz c=>∃o,eV c a y o/\Q (o.getD z) c
section
def vV(j:X.A.units+1<Jq)(ho:PE X o k)(l:PE X e n)(p:PE X f q)(m:M2 X o "get" c e f r):PE X (.Call (.Attribute o "get" c) [e,f] [] r) (Cg k n q):=by
 intro b s σ H Q I h;show wpAny_Call_method m.base m.Kp m.line PySem.F.plainAttrs_dict PySem.F.slot_dict_get PySem.F.type_dict_get (Gv (ho b s σ H _ I h) λu s1 t=>?_);have⟨x,v,i,w,a,ex,d,B⟩:=t;subst ex;obtain rfl:u=kr a:=w;obtain⟨C,D,_⟩:=Cd i d;show⟨C,D,?_⟩;rw[m.trees];show GV rfl (LA (MS (Gv (l b s1 σ v _ i B) λiv s2 ⟨y,G,J,L,N⟩ =>
  MS (Gv (p b s2 σ G _ J N) λfv s3 ⟨z,O,T,Y,ov,g,q3⟩=>Pq ?_))))
 show Ce j T g L Y λw' s4 I4 IM=>⟨_,O,I4,IM,q3⟩
end
section
end
section
end
end L2
namespace GW
open PySem PySem.Builtin.Str PySem.StrLaws
abbrev vW(i:Int):Str:=O2 (Qz i)
def app_list(x y:Str):(x++y).cps.toList=x.cps.toList++y.cps.toList:=by
 change(x.cps++y.cps).toList=_;simp
end GW
namespace L2
open PySem PySem.Spec PyProof.Rows
abbrev bz(env:Env):List (Str×ML)->List (Str×hH)->List (Str×hH)
 |[],cs=>cs
 |(n,k)::r,cs=>bz env r (if k==.free then(match env.cells.lookup n with|some a=>(n,a)::cs|none=>cs) else cs)
def eB(h:∀y∈scope.names,y.2=.free->∃a,env.cells.lookup y.1=bD a):closureFor scope env=pure (bz env scope.names []):=by
 unfold closureFor;generalize scope.names=names at h
 suffices H:∀cs,(YH names cs (λ(x:Str×ML) (r:List (Str×hH))=>if (x.2==Kj)=b6 then do let a <-cellOf env x.1;pure (L8 ((x.1,a)::r)) else pure (L8 r)):Sem (List (Str×hH)))=pure (bz env names cs) by
  have:=H [];show Zq (λ(m:Sem (List (Str×hH)))=>m >>= pure) this
 induction names with
 |nil=>intro cs;rfl
 |cons y r c =>
  intro cs;have⟨n,k⟩:=y;rw[Tf];have b:=c λy d=>h y (sL _ d);by_cases hk:(k==Kj)=b6
  .have⟨a,e⟩:=h (n,k) rr (by simpa using hk);have f:env.cells.lookup n=bD a:=e;simp only[hk,if_true,cellOf,f,bz];show b _
  .simp only[hk,if_false,bz];show b _
theorem eW:∀(names:List (Str×ML)) (cs:List (Str×hH)),(∀n c,cs.lookup n=bD c->env.cells.lookup n=bD c)->∀n c,(bz env names cs).lookup n=bD c->env.cells.lookup n=bD c
 |[],_,h=>h
 |(m,k)::r,cs,h=>by
  unfold bz;show eW r _ λn c e=>?_;by_cases hk:(k==Kj)=b6
  .rw[Zm hk]at e;cases q:env.cells.lookup m with
   |none=>rw[q]at e;show h n c e
   |some a =>
    rw[q]at e;simp only[sx]at e;cases b:n==m with
    |true =>
     rw[b]at e;have d:n=m:=by simpa using b
     subst d;simp only at e;rw[q];show e
    |false=>rw[b]at e;show h n c e
  .rw[Zn hk]at e;show h n c e
theorem jm(c:env.cells.lookup n=bD a):∀(names:List (Str×ML)) (cs:List (Str×hH)),cs.lookup n=bD a->(bz env names cs).lookup n=bD a
 |[],_,h=>h
 |(m,k)::r,cs,h=>by
  unfold bz;show jm c r _ ?_;by_cases hk:(k==Kj)=b6
  .rw[Zm hk];cases q:env.cells.lookup m with
   |none=>show h
   |some b =>
    simp only[sx];cases d:n==m with
    |true =>
     have e:n=m:=by simpa using d
     subst e;rw[c]at q;cases q;rfl
    |false=>show h
  .rw[Zn hk];show h
theorem gE(b:env.cells.lookup n=bD a):∀(names:List (Str×ML)) (cs:List (Str×hH)),(n,Kj)∈names->(bz env names cs).lookup n=bD a
 |[],_,h=>by cases h
 |(m,k)::r,cs,h=>by
  unfold bz;rcases gs.mp h with e|e
  .cases e;show jm b r _ ?_;rw[Zm (by decide),b];simp[sx]
  .show gE b r _ e
theorem bM{env:Env}:∀{names:List (Str×ML)}{x:Str}{k:ML},
  (names.map λ(n,k)=>if (k==Kj&&env.scope.kind==.function&&env.kindOf n==bD .cell) then(n,NameKind.cell) else(n,k)).lookup x=bD k ->
  names.lookup x=bD k\/(k=.cell/\names.lookup x=bD .free)
 |[],_,_,h=>by simp at h
 |(n,k0)::r,x,k,h=>by
  have e:=@bM env r x k;rw[eH]at h;by_cases b:(k0==Kj&&env.scope.kind==.function&&env.kindOf n==bD .cell)=b6
  .simp only[Zm b,sx]at h;cases a:x==n with
   |true =>
    rw[a]at h;have f:k0=.free:=by
     have:=(GB.mp (GB.mp b).1).1;simpa using this
    show .inr ⟨by simpa using h.symm,by simp[sx,a,f]⟩
   |false =>
    rw[a]at h;rcases e h with z|⟨c,d⟩
    .show .inl (by simp[sx,a,z])
    .show .inr ⟨c,by simp[sx,a,d]⟩
  .simp only[Zn b,sx]at h;cases a:x==n with
   |true=>rw[a]at h;show .inl (by simpa[sx,a] using h)
   |false =>
    rw[a]at h;rcases e h with z|⟨c,d⟩
    .show .inl (by simp[sx,a,z])
    .show .inr ⟨c,by simp[sx,a,d]⟩
abbrev Hs(X:Cx)(N:List Str)(scope:K1)(C:hH)(s:hh)(H:Hp)(ex:List hH):Cx where
 prog:=X.prog
 w:=X.w
 K:=X.K
 mg:=X.mg
 base:=X.base
 A:=X.A
 N:=N
 s₀:=s
 H₀:=H
 env:=Uc scope (bz X.env scope.names []) C X.env
 outer:=X.stack
 stack:=X.stack
 ex:=ex
 fn:=λ_=>cK
 calm:=X.calm
 pn:=[]
 xe:=λ_ _=>False
abbrev d6(D N:List Str):Prop:=D.length=N.length/\∀(i:Nat) (y:Str),D[i]?=bD y->N[i]?=bD y\/y="."\/y=".."
def d6.refl(N:List Str):d6 N N:=⟨rfl,λ_ _ h=>.inl h⟩
def d6.set{D N:List Str}(h:d6 D N)(j:Nat){m:Str}(b:m="."\/m=".."):d6 (D.set j m) N:=by
 show⟨by rw[X7];show h.1,λi y e=>?_⟩;by_cases a:j=i
 .subst a;rw[List.getElem?_set,Zm rfl]at e;split at e
  .cases e;show .inr b
  .cases e
 .rw[i1 a]at e;show h.2 i y e
structure dB(X:Cx)(N own:List Str)(scope:K1):Prop where
 kind:scope.kind=.function
 IQ:∀y∈scope.names,y.2≠.cell
 names:∀y∈scope.names,y.2=.local->scope.names.lookup y.1=bD .local
 nd:N.Nodup
 pre:N.take own.length=own
 loc:∀y∈scope.names,y.2=.local->y.1∈own\/y.1=".0"
 Ua:(".0":Str)∉N
 tail:d6 (N.drop own.length) X.N
 free:∀y∈scope.names,y.2=.free->X.env.scope.names.lookup y.1=bD .cell\/X.env.scope.names.lookup y.1=bD .free
 dot:∀y∈scope.names,y.1≠"."/\y.1≠".."
def mem_lookup{names:List (Str×ML)}(h:names.lookup x=bD k):(x,k)∈names:=PySem.mem_of_lookup h
def dB.cells(S:dB X N c scope)(b:X.Ok):∀y∈scope.names,y.2=.free->∃a,X.env.cells.lookup y.1=bD a:=λy d e=>by
 rcases S.free y d e with z|z
 .show b.has y.1 (.inl z)
 .show b.has y.1 (.inr z)
def vX(S:dB X N d scope)(I:Inv X A σ H s)
  (G:s.heap.objs.size<=C) (P7:s4.os=s.os) (hg:s4.gens=s.gens) (keep:∀b o,s.heap.get? b=bD o->s4.heap.get? b=bD o) (ns:∃m,s4.heap.Ns C m)
  (f:∀b∈ex,gY X A H b/\b<s.heap.objs.size):Inv (Hs X N scope C s H ex) [] (i6 d.length cb++σ) H s4:=by
 have⟨m0,Oo⟩:=ns;have sub:=eW (env:=X.env) scope.names [] (λn c e=>by simp at e);have P8:∀b∈ex,b<C:=λb g=>i9 (f b g).2 G;have tl:d.length<=N.length:=by have:=Zq DD S.pre;rw[x3]at this;lia
 show⟨⟨I.ok.mod,?_,I.ok.glob,I.ok.blt,G,λx y c B w=>I.ok.inj x y c (sub x c B) (sub y c w),λx hx=>?_,λx c h _=>absurd (show cK=b6 from h) (by decide),I.ok.hd,I.ok.frames,.inl rfl,λb g=>⟨hZ (P8 b g),λx c e=>?_⟩,λb o e=>I.bs b o e,?_,λb o e g=>?_,λb g=>?_,I.stack,I.rY⟩,
  P7,(by rw[hg];show I.bare),Un.kept keep,⟨m0,Oo,λi y v B w h3=>?_⟩,λx c e=>?_,I.Gu.fresh G,λx c e=>I.Ha x c (sub x c e),λp hp=>absurd (show p∈([]:List (hH×Obj)) from hp) (by simp),I.Gu.kept keep,?_⟩
 .change(QZ scope X.env).kind=.function;show S.kind
 .
  have M7:(QZ scope X.env).names.lookup x=bD .cell\/(QZ scope X.env).names.lookup x=bD .free:=hx;have t:scope.names.lookup x=bD .free:=by
   rcases M7 with z|z
   .rcases bM z with q|⟨_,q⟩
    .show absurd rfl (S.IQ _ (mem_lookup q))
    .show q
   .rcases bM z with q|⟨q,_⟩
    .show q
    .cases q
  have⟨a,ha⟩:=S.cells I.ok (x,.free) (mem_lookup t) rfl;show⟨a,gE ha scope.names [] (mem_lookup t)⟩
 .show(f b g).1.2.2.2.2.1 x c (sub x c e)
 .show t4 I.ok.KO I.sz
 .have⟨f0,O,Q,T,f4,f5⟩:=(f b g).1;rcases T with z|z
  .show I.ok.JP b o e z
  .show absurd (i9 (gc e) (t4 I.ok.KO z)) (uv _)
 .intro HM;have⟨f0,O,Q,T,f4,f5⟩:=(f b g).1;rcases gs.mp (I.jV b HM) with z|z
  .show O z
  .show Q z
 .
  have J:d.length<=i:=by
   by_cases J:i<d.length
   .rw[ux (by simpa using J),Il]at w;split at w<;>cases w
   .lia
  rw[oT (by simpa using J),NJ]at w;have Ub:(N.drop d.length)[i - d.length]?=bD y:=by
   rw[Jg];have e:d.length+(i - d.length)=i:=by lia
   rw[e];show B
  have Y:(QZ scope X.env).names.lookup y=bD .local\/(QZ scope X.env).names.lookup y=bD .cell\/(QZ scope X.env).names.lookup y=bD .free:=h3;have t:scope.names.lookup y=bD .free:=by
   rcases Y with z|z|z
   .rcases bM z with q|⟨q,_⟩
    .exfalso
     have IS:y∈d:=by
      rcases S.loc (y,.local) (mem_lookup q) rfl with z|z
      .show z
      .have z':y=".0":=z;show absurd (mA B) (by rw[z'];show S.Ua)
     have⟨j,hj,ej⟩:=OD IS;have Ju:N[j]?=bD y:=by
      have e1:(N.take d.length)[j]?=bD y:=by rw[S.pre,nC hj,ej]
      rw[VY hj]at e1;show e1
     have:=jW S.nd Ju B;lia
    .cases q
   .rcases bM z with q|⟨_,q⟩
    .show absurd rfl (S.IQ _ (mem_lookup q))
    .show q
   .rcases bM z with q|⟨q,_⟩
    .show q
    .cases q
  have hX:X.N[i - d.length]?=bD y:=by
   rcases S.tail.2 _ _ Ub with e|e|e
   .show e
   .show absurd e (S.dot _ (mem_lookup t)).1
   .show absurd e (S.dot _ (mem_lookup t)).2
  have⟨m,hn,hl⟩:=I.loc;have hv:X.env.scope.names.lookup y=bD .cell\/X.env.scope.names.lookup y=bD .free:=S.free (y,.free) (mem_lookup t) rfl;have⟨u,r,l⟩:=hl _ y v hX w (.inr hv);show⟨u,r,?_⟩;rcases l with⟨k,_⟩|⟨k,c,e,z⟩
  .have k':X.env.scope.names.lookup y=bD .local:=k;rcases hv with q|q<;>(rw[k']at q;cases q)
  .have hk:(QZ scope X.env).names.lookup y=bD .cell\/(QZ scope X.env).names.lookup y=bD .free:=by
    rcases Y with q|q|q
    .rcases bM q with D|⟨D,_⟩
     .rw[t]at D;cases D
     .cases D
    .show .inl q
    .show .inr q
   have⟨o,ho,L⟩:=z;show .inr ⟨hk,c,gE e scope.names [] (mem_lookup t),o,keep c o ho,L⟩
 .have⟨v,o,ho,L⟩:=I.cell x c (sub x c e);show⟨v,o,keep c o ho,L⟩
 .rw[hY,NJ,I.len];have e:N.length=d.length+(N.drop d.length).length:=by rw[XI];lia
  change _=N.length;rw[e,S.tail.1]
def pe(I:Inv X f σ H s)
  (d:Inv (Hs X N scope C s H ex) T Y l s4) (w:s.heap.objs.size<=D) (x:s.heap.objs.size<=C) (y:D≠C) (h:l D=cb) (rv:Vals ys p) (A:s4.heap.PlainList D p.toArray) (hl:ys.length<=df)
  (i:nc C s4.heap h') (m:∀b∈ex,gY X f H b):Inv X f σ (upd l D (.lst ys)) {s4 with heap:=h' }:=by
 have r:l C=cb:=d.free;have lt:∀{b:hH} {o:Obj},s.heap.get? b=bD o->b≠C/\b≠D:=λe=>⟨hZ (i9 (gc e) x),hZ (i9 (gc e) w)⟩
 show I.DH (s':={s4 with heap:=h' }) (ch:=ex) d.os ⟨λb o e n j g=>?_,λb o e n j g=>?_,λb o e n g=>?_,λb o e g=>?_,λb xs e=>?_,λb o u e=>?_,λb ps e=>?_⟩ (λa o e=>?_) d.bare λb j=>?_
 .show(i.2 b (lt e).1).trans (d.base.keep b o e n j g)
 .have⟨B,q⟩:=d.base.slot b o e n j g;show⟨B,(i.2 b (lt e).1).trans q⟩
 .rw[aj (lt e).2];show d.base.free b o e n g
 .have⟨o',q⟩:=d.base.there b o e g;show⟨o',(i.2 b (lt e).1).trans q⟩
 .have q:=d.base.jF b xs e;rw[aj (bB q h)];show q
 .have q:=d.base.HW b o u e;rw[aj (bB q h)];show q
 .have⟨k,q⟩:=d.base.Im b ps e;show⟨k,by rw[aj (bB q h)];show q⟩
 .by_cases t:a=D
  .subst t;rw[aw]at e;cases e;have⟨n,q⟩:=A;show⟨hl,p,n,rv,(i.2 _ y).trans q⟩
  .rw[aj t]at e;show(d.Gu a o e).gD (λc v G q=>(i.2 c ?_).trans q) (λc q=>?_) λc xs q=>?_
   .rintro rfl;rcases G with z|z
    .rw[<-z,r]at e;cases e
    .rw[r]at z;cases z
   .rw[aj (bB q h)];show q
   .rw[aj (bB q h)];show q
 .have⟨f0,J,f2,L,O,Q⟩:=m b j;show⟨L,J,O,Q⟩
section
def nJ(I:Nat->hh->Prop)
  (b:∀n s,I n s->et (hE prog w) A (Q0 it) (λr d=>match r with
   |none=>R (.ok .next) d
   |some v=>et (hE prog w) A (RC a it v) (λ_ d=>et (hE prog w) A (PR a env v) (λ_ j =>
     et (hE prog w) A (YH f b6 λc r=>if r=b6 then do let ok <-isTrue c env (vr c env);pure (L8 ok) else pure (L8 r)) (λok i =>
      if ok=b6 then et (hE prog w) A (vr elt env) (λx k =>
       et (hE prog w) A (MR (.builtin "list.append") [acc,x]) (λ_ l=>∃m,m<n/\I m l) (Sq (hE prog w) A env λe s'=>R (.error e) s') k) (Sq (hE prog w) A env λe s'=>R (.error e) s') i
      else ∃m,m<n/\I m i) (Sq (hE prog w) A env λe s'=>R (.error e) s') j) (Sq (hE prog w) A env λe s'=>R (.error e) s') d) (Sq (hE prog w) A env λe s'=>R (.error e) s') d) (Sq (hE prog w) A env λe s'=>R (.error e) s') s)
  (n:Nat) (h:I n s) :
  OU (hE prog w) A (.compLoop (.ListComp elt [⟨a,g,f,0⟩] scope pos) 0 it acc env) R s:=by
 show codeAny_loop rfl I (λn s q=>?_) n h;change et _ A ((compTurn (.ListComp elt [⟨a,g,f,0⟩] scope pos) 0 it acc env).onRaise (λx=>do noteFrame x env;theTreesLotGoes x)) _ _ s;show wpAny_noted ?_;rw[compTurn_list];show b5 (WK (b5 (tj (b n s q) (λr d o=>?_) λ_ _ h'=>h')));cases r with
 |none=>show dV o
 |some v =>
  show b5 (tj o (λ_ B t=>?_) λ_ _ h'=>h');show b5 (tj t (λ_ j u=>b5 (tj u (λok i p=>?_) λ_ _ h'=>h')) λ_ _ h'=>h');cases ok with
  |false=>show dV ⟨rfl,p⟩
  |true =>
   show b5 (b5 (tj p (λx k y=>b5 (tj y (λ_ l z=>dV (dV ⟨rfl,z⟩)) λ_ _ h'=>h')) λ_ _ h'=>h'))
end
abbrev Kc(X:Cx)(b:List my)(t:TT):Prop :=
 ∀(a:List (hH×Obj)) (s:hh) (σ:St) (H:Hp) (Q:Bool->Hp->Prop),Inv X a σ H s->t σ H Q ->
  et (hE X.prog X.w) X.A (YH b b6 λc r=>if r=b6 then do let d <-isTrue c X.env (vr c X.env);pure (L8 d) else pure (L8 r)) (TP X a σ Q) X.xe s
abbrev FZ:TT:=λ_ H Q=>Q b6 H
def nK:Kc X [] FZ:=λ_ _ _ H _ I h=>wpAny_tests_nil ⟨H,I,h⟩
def si(h:PT X c t):Kc X [c] t:=λa s σ H Q I q=>wpAny_tests_one (h a s σ H Q I q)
abbrev sj(k:Nat)(J:It)(g:TG)(j:TT)(l:TE)(Q:VK)(σ:St)(n:Hp):Prop :=
  ∃W:Nat->Nat->List V->Hp->Prop,(∃m,W 0 m [] n)/\∀i m ys H,W i m ys H->ys.length<=df /\
    ((J.stop i H/\∀p,H p=cb->Q (.ref p) (upd H p (.lst ys))) \/
     (J.go i H/\∃c:List V->Hp->Prop,(∀e H',c e H'->∃f,f<m/\W (i+1) f e H')/\∀x H',J.Oe i H x H'->g x (i6 k cb++σ) H' λd o=>∃a:St,a.length=k/\d=a++σ /\
        j d o λb h=>if b=b6 then l d h λy q=>c (ys++[y]) q else c ys h))
abbrev vY(k:Nat)(a:TI)(g:TG)(b:TT)(c:TE):TE:=λσ H Q=>a σ H λJ d=>sj k J g b c Q σ d
section
def vZ
  (S:dB X N B scope) (hc:X.calm=b6) (hg:∀C s H ex,PG (Hs X N scope C s H ex) tg g) (hf:∀C s H ex,Kc (Hs X N scope C s H ex) al tt) (he:∀C s H ex,PE (Hs X N scope C s H ex) elt te)
  (I:Inv X am σ H s) (T:Turn X.prog X.w X.K tg J G it tn) (st:tn 0 s.heap) (f2:∀b∈G,gY X am H b) (W:sj B.length J g tt te Q σ H)
  (hD:@Eq Nat D s.heap.objs.size) (hC:@Eq Nat C (s.heap.objs.size+1)) (P7:s4.os=s.os) (Ud:s4.gens=s.gens) (keep:∀b o,s.heap.get? b=bD o->s4.heap.get? b=bD o) (ns:∃m,s4.heap.Ns C m) (pl:s4.heap.PlainList D #[])
  (an:∀s5 O ys k,Inv (Hs X N scope C s H G) [] (i6 B.length cb++σ) O s5->O D=cb->Vals ys k->s5.heap.PlainList D k.toArray->ys.length<=df->(∀p,O p=cb->Q (.ref p) (upd O p (.lst ys)))->R (.ok .next) s5) :
  OU (hE X.prog X.w) X.A (.compStart (.ListComp elt [⟨tg,ap,al,0⟩] scope pos) 0 (.ref it) (.ref D) (Uc scope (bz X.env scope.names []) C X.env)) R s4:=by
 have Kq:∀b∈G,@N3 Nat _ b s.heap.objs.size:=λb h=>by
  obtain⟨o,e,_⟩:=T.obj 0 s.heap st b h;show gc e
 have I4:Inv (Hs X N scope C s H G) [] (i6 B.length cb++σ) H s4:=vX S I ⋯ P7 Ud keep ns λb h=>⟨f2 b h,Kq b h⟩
 have Mr:tn 0 s4.heap:=T.keep 0 s.heap s4.heap st λb _ o e=>keep b o e;have nD:H D=cb:=I.Gu.fresh ⋯;obtain⟨W,⟨m0,w0⟩,XR⟩:=W;generalize l:Hs X N scope C s H G=f at I4 an;have eP:f.prog=X.prog:=by rw[<-l];rfl
 have ew:f.w=X.w:=by rw[<-l];rfl
 have eK:f.K=X.K:=by rw[<-l];rfl
 have ec:f.calm=b6:=by rw[<-l];show hc
 have eA:f.A=X.A:=by rw[<-l];rfl
 have ee:f.env=Uc scope (bz X.env scope.names []) C X.env:=by rw[<-l];rfl
 have P_:f.xe=λ_ _=>False:=by rw[<-l];rfl
 have el:f.env.locals=C:=by rw[ee];rfl
 have P':PG f tg g:=by rw[<-l];show hg _ _ _ _
 have Qa:Kc f al tt:=by rw[<-l];show hf _ _ _ _
 have Qb:PE f elt te:=by rw[<-l];show he _ _ _ _
 have s0:f.s₀=s:=by rw[<-l];rfl
 have M8:f.pn=[]:=by rw[<-l];rfl
 have Qc:∀{H':Hp} {o:Obj},(∀b∈G,H' b=cb)->∀b∈G,gY f [(D,o)] H' b:=λ{H' o} hn b h=>by
  have ex:f.ex=G:=by rw[<-l];rfl
  show⟨hn b h,?_,?_,.inl (by rw[ex];show h),λx c e=>?_,λp L=>?_⟩
  .rw[el];have:=Kq b h;show hZ (by change @N3 Nat _ b C;lia)
  .have e1:f.fs=Ji X.stack:=by rw[<-l];rfl
   rw[e1];intro z;have⟨f0,f1,Ue,f3,f4,f5⟩:=f2 b h;rcases gs.mp (I.jV b z) with q|q
   .show f1 q
   .show Ue q
  .have e1:f.env.cells=bz X.env scope.names []:=by rw[ee];rfl
   rw[e1]at e;show(f2 b h).2.2.2.2.1 x c (eW scope.names [] (λn c e=>by simp at e) x c e)
  .rw[M8,i2]at L;have:p=(D,o):=by simpa using L
   subst this;have:=Kq b h;show HS (by change @N3 Nat _ b D;lia)
 have Qd:∀{σ':St} {H':Hp} {s':hh} {o:Obj},Inv f [] σ' H' s'->H' D=cb->s'.heap.get? D=bD o->(∀v,o.data≠.cell v)->Inv f [(D,o)] σ' H' s':=λ{σ' H' s' o} I' n e d =>
  I'.dW λp L=>by
   have:p=(D,o):=by simpa using L
   subst this;show⟨e,n,?_,?_,d⟩
   .rw[el];show hZ (by change @N3 Nat _ D C;lia)
   .have e1:f.fs=Ji X.stack:=by rw[<-l];rfl
    rw[e1];intro z;have zz:(D:hH)∈Ji X.stack:=z;rcases gs.mp (I.jV D zz) with q|q
    .have:=I.lt;rw[<-q]at this;show absurd this (by change ¬@N3 Nat _ D s.heap.objs.size;lia)
    .show I.BJ (a:=D) ⋯ q
 have start:∀s':hh,s'=s4->OU (hE X.prog X.w) X.A (.compLoop (.ListComp elt [⟨tg,ap,al,0⟩] scope pos) 0 (.ref it) (.ref D) (Uc scope (bz X.env scope.names []) C X.env)) R s':=by
  rintro s' rfl;show nJ (λn s'=>∃i ys k H',Inv f [] (i6 B.length cb++σ) H' s'/\tn i s'.heap/\(∀b∈G,H' b=cb)/\H' D=cb/\Vals ys k/\s'.heap.PlainList D k.toArray/\W i n ys H') ?_ m0
   ⟨0,[],[],H,I4,Mr,λb h=>(f2 b h).1,nD,.nil,pl,w0⟩
  rintro n s3 ⟨i,ys,k,H3,I3,G5,MW,Sf,Oq,⟨nn,Ug⟩,w3⟩;have⟨Y,Jl⟩:=XR i n ys H3 w3;have IP:=Qd I3 Sf Ug (λv z=>by have z':Data.seq _ _=Wa v:=z;cases z');rcases Jl with⟨ar,qn⟩|⟨go,NN,Sg,as⟩
  .have d:=T.done f eP ew eK ec i _ s3 _ H3 (Sq (hE X.prog X.w) X.A (Uc scope (bz X.env scope.names []) C X.env) λe s'=>R (.error e) s') IP (Qc MW) G5 ar;rw[eA]at d;show Gv d λr s4 Qe=>?_;have⟨hr,I5⟩:=Qe;subst hr;have e5:=(I5.pin (D,({cls:=.type "list",data:=.seq k.toArray nn}:Obj)) (by rw[M8];simp)).1;show an s4 H3 ys k (I5.dW λp L=>by cases L) Sf Oq ⟨nn,e5⟩ Y qn
  .have d:=T.item f eP ew eK ec i _ s3 _ H3 (Sq (hE X.prog X.w) X.A (Uc scope (bz X.env scope.names []) C X.env) λe s'=>R (.error e) s') IP (Qc MW) G5 go;rw[eA]at d;show Gv d λr s4 Qf=>?_;have⟨u,hr,h4⟩:=Qf;subst hr;show Gv h4 λ_ s5 Qg=>?_;have⟨x,O,I5,r5,y5,JF,Py⟩:=Qg;have WQ:O D=cb:=(I5.pin (D,({cls:=.type "list",data:=.seq k.toArray nn}:Obj)) (by rw[M8];simp)).2.1;have Pz:=I5.pinned (Qc Py) (T.obj _ _ JF);have a6:=P' _ s5 _ O x u _ Pz r5 (as x O y5);rw[eP,ew,eA,ee,P_]at a6;show tj a6 (λ_ s6 ⟨σ6,H6,I6,q6⟩=>?_) λ_ _ z=>LB z;have⟨ow,a0,rfl,q6⟩:=q6;have a7:=Qa _ s6 _ H6 _ I6 q6;rw[eP,ew,eA,ee,P_]at a7;show tj a7 (λb s7 ⟨H7,I7,q7⟩=>?_) λ_ _ z=>LB z;have ac:∀{s8:hh} {t:Hp} {Io:List V} {its':List d3} {nn':Nat},Inv f [] (ow++σ) t s8->tn (i+1) s8.heap->(∀b∈G,t b=cb)->t D=cb->Vals Io its'->s8.heap.PlainList D its'.toArray->(∃m',m'<n/\W (i+1) m' Io t) ->
     ∃m,m<n/\∃i ys k H',Inv f [] (i6 B.length cb++σ) H' s8/\tn i s8.heap/\(∀b∈G,H' b=cb)/\H' D=cb/\Vals ys k/\s8.heap.PlainList D k.toArray/\W i m ys H':=λ{s8 t Io its' nn'} I8 Uh Ui n8 Uj Uk w8=>by
    have⟨m',hm,w8⟩:=w8;show⟨m',hm,i+1,Io,its',t,I8.weak (by simp[a0]) (λj v e=>?_),Uh,Ui,n8,Uj,Uk,w8⟩;by_cases hj:j<B.length
    .rw[ux (by simpa using hj),Il]at e;split at e<;>cases e
    .rw[oT (by simpa using(Nat.not_lt.mp hj)),NJ]at e;rw[oT ⋯,a0];show e
   have ag:∀{σ':St} {t:Hp} {s8:hh},Inv f ([(D,({cls:=.type "list",data:=.seq k.toArray nn}:Obj))]++jY G s5.heap) σ' t s8->s8.heap.get? D=bD {cls:=.type "list",data:=.seq k.toArray nn}/\t D=cb/\tn (i+1) s8.heap/\∀b∈G,t b=cb:=λ{σ' t s8} I8=>by
    have p1:=I8.pin (D,({cls:=.type "list",data:=.seq k.toArray nn}:Obj)) (by rw[M8];simp);show⟨p1.1,p1.2.1,T.keep _ _ _ JF λb h o e=>(I8.pin (b,o) (kj _ (kj _ (eU h e)))).1,λb h=>?_⟩;have⟨o,e,d⟩:=T.obj _ _ JF b h;show(I8.pin (b,o) (kj _ (kj _ (eU h e)))).2.1
   cases b with
   |false =>
    rw[Zn ke]at q7 ⊢;have⟨p1,p2,p3,p4⟩:=ag I7;show ac (nn':=0) (I7.dW λp L=>by cases L) p3 p4 p2 Oq ⟨nn,p1⟩ (Sg _ _ q7)
   |true =>
    rw[Zm rfl]at q7 ⊢;have a8:=Qb _ s7 _ H7 _ I7 q7;rw[eP,ew,eA,ee,P_]at a8;show tj a8 (λy s8 ⟨yv,t,I8,r8,q8⟩=>?_) λ_ _ z=>LB z;have⟨p1,p2,p3,p4⟩:=ag I8;have hsz:k.toArray.size<=df:=by rw[hA,<-Oq.length];show Y
    show wpAny_list_append_plain (hsz:=hsz) ⟨nn,p1⟩ λh9 Ul Sh=>?_;have Um:Inv f [] (ow++σ) t s8:=I8.dW λp L=>by cases L
    have Ot:∀x c,f.env.cells.lookup x=bD c->c≠D:=λx c e=>by
     have e1:f.env.cells=bz X.env scope.names []:=by rw[ee];rfl
     rw[e1]at e;have q:=eW scope.names [] (λn c e=>by simp at e) x c e;have⟨v,z⟩:=I.cell x c q;have:@N3 Nat _ c s.heap.objs.size:=z.lt;show hZ (by change @N3 Nat _ c D;lia)
    have I9:Inv f [] (ow++σ) t {s8 with heap:=h9,toks:=s8.toks}:=Um.turned (it:=D) (λb o h e=>(Sh.2 b h).trans e) p2 (by rw[el];show hZ (by change @N3 Nat _ D C;lia)) (.inr (by rw[s0];change @YG Nat _ s.heap.objs.size D;lia)) Ot (λp L=>by rw[M8]at L;cases L);have Uo:(k++[y]).toArray=k.toArray.push y:=by simp
    show ac (nn':=0) (s8:={s8 with heap:=h9,toks:=s8.toks}) I9 (T.keep _ _ _ p3 λb h o e=>(Sh.2 b ?_).trans e) p4 p2 (Oq.append (.cons r8 .nil)) (by rw[Uo];show Ul) (Sg _ _ q8);have:=Kq b h;show hZ (by change @N3 Nat _ b D;lia)
 show codeAny_compStart_list (start _ rfl) (T.self _ _ _ _ _ Mr (start _ rfl))
def ka{RR:d3->hH->Result->hh->Prop}
    (S:dB X N d scope) (G:X.calm=b6) (L:∀C s H ex,PG (Hs X N scope C s H ex) v g) (O:∀C s H ex,Kc (Hs X N scope C s H ex) l Y) (he:∀C s H ex,PE (Hs X N scope C s H ex) elt te)
 (I:Inv X f σ H s) (T:Turn X.prog X.w X.K v J x it tn) (st:tn 0 s.heap) (f2:∀b∈x,gY X f H b) (W:sj d.length J g Y te Q σ H)
    (m:∀D C h c ys j,@Eq Nat D s.heap.objs.size->@Eq Nat C (s.heap.objs.size+1)->Inv (Hs X N scope C s H x) [] (i6 d.length cb++σ) c h->c D=cb->Vals ys j->h.heap.PlainList D j.toArray->ys.length<=df->(∀p,c p=cb->Q (.ref p) (upd c p (.lst ys)))->RR (.ref D) C (.ok .next) h) :
    et (hE X.prog X.w) X.A (Yw []) (λacc s₃=>et (hE X.prog X.w) X.A (newFunctionEnv scope X.env.globals (bz X.env scope.names []) [] X.env.qual cb .none (bD X.env)) (λz s₄ =>
      OU (hE X.prog X.w) X.A (.compStart (.ListComp elt [⟨v,B,l,0⟩] scope pos) 0 (.ref it) acc {z with scope:=QZ scope X.env}) (RR acc z.locals) s₄) E s₃) E s:=by
  show vu (wpAny_newFunctionEnv S.IQ (by intro y hy;simp at hy) (λn q k=>?_) S.kind)
  dsimp only at q k ⊢
  generalize r:s.heap.push {cls:=.type "list",dict:=cb,data:=.seq ([]:List d3).toArray}=i at q k ⊢;have t:i.objs.size=s.heap.objs.size+1:=by rw[<-r,US]
  have P9:s.heap.objs.size≠i.objs.size:=by rw[t];show hZ (L_ _)
  have a:∀b:hH,b<s.heap.objs.size->b≠i.objs.size:=λb hb=>hZ (by have HM:@N3 Nat _ b s.heap.objs.size:=hb;change @N3 Nat _ b i.objs.size;lia);have u:∀b o,s.heap.get? b=bD o->n.get? b=bD o:=λb o e=>k.extBut b o (a b (gc e)) (dt _ (r▸dt _ e));have Hn:n.PlainList s.heap.objs.size #[]:=⟨_,k.extBut _ _ P9 (dt _ (r▸fx _ rfl))⟩
  show vZ (s:=s) (s4:={s with heap:=n,toks:=s.toks+([]:List (Str×d3)).length}) (C:=i.objs.size) (D:=s.heap.objs.size) S G L O he I T st f2 W rfl t rfl rfl u ⟨_,q⟩ Hn
    λh c ys j I5 n5 M_ M' Na q5=>m _ _ h c ys j rfl t I5 n5 M_ M' Na q5
def sk(S:dB X N c scope)(m:X.calm=b6)(n:PI X f a o)(p:∀C s H ex,PG (Hs X N scope C s H ex) f g)(q:∀C s H ex,Kc (Hs X N scope C s H ex) d r)(t:∀C s H ex,PE (Hs X N scope C s H ex) elt u)
  (hs:∀x,JR a X.env x=pure x:=by intro _;rfl):PE X (.ListComp elt [⟨f,a,d,0⟩] scope pos) (vY c.length o g r u):=by
 intro b s σ H Q I h;rw[eval_ListComp];show WM (use:=cb) (cl:=bz X.env scope.names []) rfl hs (eB (S.cells I.ok)) S.kind S.names ?_;show Gv (n b s σ H _ I h) λv s1 y=>Gv y λOf s2 z=>?_;have⟨it,fp,tn,J,H2,e,i,T,st2,j,W⟩:=z;subst e;show ka (RR:=λacc C=>compPost (hE X.prog X.w) X.A X.xe cb (EP X b σ Q) acc C) S m p q t i T st2 j W ?_;intro D C s5 H5 ys A' B hC k l G L O Y;obtain⟨m5,Qi,_⟩:=k.loc;show⟨m5,Qi,λh' sb=>⟨.ref D,_,pe i k (Wz B.symm) (by change @YG Nat _ s2.heap.objs.size C;lia) (hZ (by change @N3 Nat _ D C;lia)) l G L O sb j,rfl,Y D l⟩⟩
def zc(S:dB X N r scope)(hc:X.calm=b6)(hN:X.N.Nodup)(Ou:X.N[i]?=bD y)(G:X.env.scope.names.lookup y=bD .local)
  (hi:PI X n d wi) (hg:∀C s H ex,PG (Hs X N scope C s H ex) n g) (hf:∀C s H ex,Kc (Hs X N scope C s H ex) k tt) (he:∀C s H ex,PE (Hs X N scope C s H ex) elt te)
  (KW:Oz (.ListComp elt [⟨n,d,k,0⟩] scope pos) (bD (.Name y m)) Jv.line X.env=pure b6:=by rfl)
  (hs:∀x,JR d X.env x=pure x:=by intro _;rfl):PS X (.Assign [.Name y m] (.ListComp elt [⟨n,d,k,0⟩] scope pos) Jv) (BS (vY r.length wi g tt te) (rZ i)):=by
 intro f s σ H D I h;rw[exec_Assign_Name_used _ _ _ _ KW];show b5 (WK (b5 ?_));change et _ X.A (do let _ <-comprehension (.ListComp elt [⟨n,d,k,0⟩] scope pos) scope X.env _ (Yw []) cK (vr d X.env) (bD (PR (.Name y m) X.env))) _ _ s;show b5 (tj (WM (use:=bD (PR (.Name y m) X.env)) (cl:=bz X.env scope.names []) (Q:=λ_ s'=>SP X f D .next s') rfl hs (eB (S.cells I.ok)) S.kind S.names ?_) (λ_ s' hq=>dV (dV hq)) λ_ _ e=>e);show Gv (hi f s σ H _ I h) λv s1 h1=>Gv h1 λOf s2 h2=>?_;have⟨it,fp,tn,J,H2,e,l,T,st2,L,W⟩:=h2;subst e;show ka (RR:=λacc C=>compPost (hE X.prog X.w) X.A X.xe (bD (PR (.Name y m) X.env)) (λ_ s'=>SP X f D .next s') acc C) S hc hg hf he l T st2 L W ?_;intro j C q t ys A' hD hC u O M_ M' Na q5;obtain⟨m5,Qi,_⟩:=u.loc;have Up:t C=cb:=u.free;have B:Inv X f σ (upd t j (.lst ys)) {q with heap:=q.heap}:=pe l u (Wz hD.symm) (by change @YG Nat _ s2.heap.objs.size C;lia) (hZ (by change @N3 Nat _ j C;lia)) O M_ M' Na (Hw ..) L;change et _ X.A (PR (.Name y m) X.env (.ref j)) _ _ q;show Yt (lR (s:=q) B hN Ou (.inl G) (show RelV (.ref j) (.ref j) from rfl) (λs6 I6 ⟨a,sb,ha⟩=>?_) (.inr G));have Y:@N3 Nat _ X.env.locals C:=by have:@N3 Nat _ X.env.locals s2.heap.objs.size:=l.lt;lia
 have JT:∀x c,X.env.cells.lookup x=bD c->c≠C:=λx c e=>by
  have⟨v,z⟩:=l.cell x c e;have:@N3 Nat _ c s2.heap.objs.size:=z.lt;show hZ (by change @N3 Nat _ c C;lia)
 have Uq:C≠a:=by
  rcases ha with z|z
  .rw[z];show HS Y
  .show(JT _ _ z).symm
 show⟨m5,Qi.sameBut sb Uq,λh' Nb=>?_⟩;show⟨σ.set i (bD (.ref j)),upd t j (.lst ys),I6.turned (it:=C) (t':=s6.toks) (λb o hb e=>(Nb.2 b hb).trans e) ?_ (HS Y) (.inr (by have:@YG Nat _ X.s₀.heap.objs.size s2.heap.objs.size:=l.sz;change @YG Nat _ X.s₀.heap.objs.size C;lia)) JT (λp hp=>?_),q5 j O⟩
 .rw[aj (HS (by change @N3 Nat _ j C;lia))];show Up
 .have:@N3 Nat _ p.1 s2.heap.objs.size:=gc (l.pin p hp).1;show hZ (by change @N3 Nat _ p.1 C;lia)
end
section
end
section
abbrev Ea:V->Option Int->Option Int->Hp->VK->Prop:=λx lo a H Q=>∃z,x=.str z/\z.length<=df/\Q (.str (PySem.StrLaws.sliceText z lo a)) H
def lE(x:Str)(lo a:Option Int)(hz:x.length<=df):(PySem.StrLaws.sliceText x lo a).length<=df:=t4 (Txt.slice_le x lo a) hz
def Ci:KS X Ea:=by
 intro b s σ H x v n o lo c p Q I g hs m e h;have⟨z,rfl,hz,q⟩:=h;have⟨t,rfl⟩:=g;show⟨"str",_,YT.lookup,Yg _ _ _,?_⟩;have a:(PySem.StrLaws.sliceText z lo c).length<=df/\∀t' k,EP X b σ Q (.str (PySem.StrLaws.sliceText z lo c) t') {s with toks:=k}:=⟨lE z lo c hz,λt' k=>⟨.str _,H,I.tok k,⟨_,rfl⟩,q⟩⟩
 cases m with
 |none =>
  cases e with
  |none=>show Nv (l:=cb) (u:=cb) (st:=cb) hs rfl (Rx a)
  |int j d=>show Nv (l:=cb) (u:=bD (j,d)) (st:=cb) hs rfl (Rx a)
 |int i f =>
  cases e with
  |none=>show Nv (l:=bD (i,f)) (u:=cb) (st:=cb) hs rfl (Rx a)
  |int j d=>show Nv (l:=bD (i,f)) (u:=bD (j,d)) (st:=cb) hs rfl (Rx a)
theorem h_:∀{ys:List Str}{a:List d3},Vals (ys.map V.str) a->∃l:List (Str×Tok),a=strValues l/\l.map (·.1)=ys
 |[],_,.nil=>⟨[],rfl,rfl⟩
 |y::ys,_,.cons r t=>by
  have⟨b,rfl⟩:=r;have⟨l,rfl,e⟩:=h_ t;show⟨(y,b)::l,rfl,by rw[eH,e]⟩
def zd:PQ X "str.join" (λx xs H Q=>∃a p ys,x=.str a/\xs=[.ref p]/\G2 X.K H p (ys.map V.str)/\Yl a ys=b6/\Q (.str (Q9 a ys)) H):=by
 intro b s σ H x xs v us Q I c rs h;have⟨a,p,ys,rfl,rfl,d,f,q⟩:=h;have⟨t,rfl⟩:=c;have⟨u,rfl,r⟩:=vals1 rs;cases r;have⟨i,rv,g,hz⟩:=I.list d;have⟨l,rfl,e⟩:=h_ rv;show SC.join g.isList e f λt' k=>⟨.str _,H,I.tok k,⟨_,rfl⟩,q⟩
theorem fB:∀{a:List Bool}{c:List d3},Vals (a.map V.bl) c->c=a.map Kb
 |[],_,.nil=>rfl
 |b::a,_,.cons r t=>by
  cases r;rw[fB t];rfl
def v3:X.calm=b6->gZ X (.builtin "all") (λxs H Q=>∃(p:hH) (a:List Bool),xs=[.ref p]/\G2 X.K H p (a.map V.bl)/\Q (.bl (a.all id)) H):=by
 intro j f s σ H xs us Q I rs h;have⟨p,a,rfl,k,q⟩:=h;have⟨u,rfl,r⟩:=vals1 rs;cases r;have⟨o,rv,d,hz⟩:=I.list k;have e:=fB rv;subst e;have l:p<s.heap.objs.size:=by obtain⟨_,_,e,_⟩:=d;show gc e
 show call_all_walk (Qh d.isList ?_);show⟨s.heap.objs.size,[s.heap.objs.size,p],[s.heap.objs.size],(a.map Kb).toArray.size,_,_,λi=>(a[i]?).getD b6,rfl,WO (A:=X.A.in1) (I.ok.hd j) _ p (hZ l) (a.map Kb).toArray,
  ⟨⟨_,fx _ rfl,rfl,rfl⟩,d.isList.push _⟩,λi v s' Q' t m g=>?_,λh' n hk=>?_⟩
 .have c:(a.map Kb)[i]?=bD v:=by simpa using m
  rw[i8]at c;cases e:a[i]? with
  |none=>rw[e]at c;cases c
  |some b =>
   rw[e]at c;cases c;simp only[e,Xg]at g;show IL g
 .have e:((hW (a.map Kb).toArray.size).all λi=>(a[i]?).getD b6)=a.all id:=by
   rw[hA,c4];show X' a
  rw[e];show⟨.bl _,H,I.kept (t':=n) (QL hk),rfl,q⟩
end
section
end
abbrev ze(N a:List Str)(scope:K1)(out:List (Str×ML)):Bool :=
 cL (scope.kind=.function)&&scope.names.all (λy=>cL (y.2≠.cell))&&scope.names.all (λy=>cL (y.2≠.local)||decide (scope.names.lookup y.1=bD .local))&&decide N.Nodup&&cL (N.take a.length=a) &&
 scope.names.all (λy=>cL (y.2≠.local)||decide (y.1∈a)||decide (y.1=".0"))&&cL ((".0":Str)∉N)&&scope.names.all (λy=>cL (y.2≠.free)||decide (out.lookup y.1=bD .cell)||decide (out.lookup y.1=bD .free))&&scope.names.all (λy=>cL (y.1≠".")&&cL (y.1≠".."))
def qG(c:X.env.scope.names=out)(d:d6 (N.drop a.length) X.N)(h:ze N a scope out=b6):dB X N a scope:=by
 unfold ze at h;simp only[cc,mx,Jx,Zl]at h;obtain⟨⟨⟨⟨⟨⟨⟨⟨f,g⟩,i⟩,j⟩,k⟩,l⟩,m⟩,n⟩,o⟩:=h;show⟨f,g,λy b e=>?_,j,k,λy b e=>?_,m,d,λy b e=>?_,o⟩
 .rcases i y b with z|z
  .show absurd e z
  .show z
 .rcases l y b with(z|z)|z
  .show absurd e z
  .show .inl z
  .show .inr z
 .rw[c];rcases n y b with(z|z)|z
  .show absurd e z
  .show .inl z
  .show .inr z
section
end
section
end
abbrev Iu(a b:Str):Bool:=!cL (b.cps.toList<a.cps.toList)
def jK(a b:Str):Iu a b=b6↔a.cps.toList<=b.cps.toList:=by
 simp only[Iu,uk,decide_eq_false_iff_not];show List.not_lt
def l_(a b c:Str)(d:Iu a b=b6)(e:Iu b c=b6):Iu a c=b6:=by
 rw[jK]at d e ⊢;show List.le_trans d e
def uj(a b:Str):(Iu a b||Iu b a)=b6:=by
 rw[Jx,jK,jK];show List.le_total _ _
def v5{x y:Str}(h:x.cps.toList=y.cps.toList):x=y:=by
 cases x;cases y;congr
 show Array.toList_inj.mp h
def nL(c:Iu a b=b6)(d:Iu b a=b6):a=b:=by
 rw[jK]at c d;show v5 (List.le_antisymm c d)
abbrev aH(l:List Str):List Str:=l.mergeSort Iu
def bN(l:List Str):(aH l).Perm l:=List.mergeSort_perm l Iu
def c_(l:List Str):(aH l).Pairwise (λa b=>Iu a b=b6):=List.pairwise_mergeSort l_ uj l
theorem ia:∀(l:List Str) (p:Str),risingS p l=b6->(p::l).Pairwise (λa b=>Iu a b=b6)
 |[],p,_=>by simp
 |x::r,p,h=>by
  have h':(!ltCps x.cps.toList p.cps.toList&&risingS x r)=b6:=h;have⟨c,g⟩:=GB.mp h';have d:=ia r x g;have f:Iu p x=b6:=by rw[ltCps_eq]at c;show c
  show Pc.mpr ⟨λy i=>?_,d⟩;rcases gs.mp i with e|e
  .rw[e];show f
  .show l_ _ _ _ f ((Pc.mp d).1 y e)
def nM(h:sortedS l=b6):l.Pairwise (λa b=>Iu a b=b6):=by
 cases l with
 |nil=>show .nil
 |cons x r=>show ia r x h
theorem fT:∀{l m:List Str},l.Perm m->l.Pairwise (λa b=>Iu a b=b6)->m.Pairwise (λa b=>Iu a b=b6)->l=m
 |[],m,c,_,_=>(List.Perm.nil_eq c)
 |x::l,m,c,d,f=>by
  cases m with
  |nil=>show absurd c.length_eq (by simp)
  |cons y m =>
   have⟨g,h⟩:=Pc.mp d;have⟨b1,i⟩:=Pc.mp f;have j:x=y:=by
    have m1:x∈y::m:=c.mem_iff.mp rr;have m2:y∈x::l:=c.mem_iff.mpr rr;rcases gs.mp m1 with e|e
    .show e
    .rcases gs.mp m2 with e'|e'
     .show e'.symm
     .show nL (g y e') (b1 x e)
   subst j;rw[fT (List.Perm.cons_inv c) h i]
def v7(a:l.Perm m)(hs:sortedS l=b6):l=aH m:=fT (a.trans (bN m).symm) (nM hs) (c_ m)
def fC(a:l.Perm m):aH l=aH m:=fT ((bN l).trans (a.trans (bN m).symm)) (c_ l) (c_ m)
def bZ(l:List Str):(aH l).length=l.length:=(bN l).length_eq
section
theorem cw:∀{ys:List Str}{a:List d3},Vals (ys.map V.str) a->N1 a ys
 |[],_,.nil=>.nil
 |y::ys,_,.cons r t=>by
  have⟨b,rfl⟩:=r;show .cons y b (cw t)
theorem du:∀{a:List d3}{ys:List Str},N1 a ys->Vals (ys.map V.str) a
 |_,_,.nil=>.nil
 |_,_,.cons x t h=>.cons ⟨t,rfl⟩ (du h)
theorem eX(hc:et (hE prog w) A.in1 (Xq x) (λvs s1=>∃ss,N1 vs ss/\vs.length<64 /\
      ∀(h':Ic) (GZ:List d3) (e:Nat),(∀b o,s1.heap.get? b=bD o->h'.get? b=bD o)->h'.get? s1.heap.objs.size=bD (w6 "list" GZ.toArray e)->N1 GZ (aH ss)->Q (.ref s1.heap.objs.size) {s1 with heap:=h' }) E s) :
    et (hE prog w) A (MR (.builtin "sorted") [x]) Q E s:=by
  refine UT kind_sorted plain_sorted entry_sorted (args_sorted1 _) ?_;unfold L0.«sorted»;refine b5 (m:=checkCount "sorted" 1 1 _) (dV ?_);refine b5 (tj hc (λvs s1 h1=>?_) λ_ _ e=>e);obtain⟨ss,hS,IH,h⟩:=h1
  refine wpAny_bind (wpAny_newList ?_ (by have : (64 : Nat) ≤ sizeLine := by decide
                                          lia))
  have Km:(s1.heap.push (w6 "list" vs.toArray 0)).get? s1.heap.objs.size=bD (w6 "list" vs.toArray 0):=fx _ rfl;show et _ _ _ _ _ {s1 with heap:=s1.heap.push (w6 "list" vs.toArray 0)};refine b5 (tr (H0 Zh ⟨_,Km,rfl⟩ Y3 (list_sort_treeK strKind_oneLt Km hS.keysOf (λv₁ v₂ rest e=>keyKind_strs (by rw[<-e];exact hS)) IH λst' a1 a2=>⟨_,rfl,?_⟩) (Zj _)));obtain⟨IU,b1,b2,b3⟩:=sorted_out_str hS a1 a2;obtain⟨e,he⟩:=sortedHeap_at (out:=(arrOf st').map (·.2)) Km;rw[v7 b2 b3]at b1;refine dV ⟨_,rfl,h _ ((arrOf st').map (·.2)).toList e (λb o q=>?_) (by rw[WC];exact he) b1⟩;have GO:b<s1.heap.objs.size:=gc q;show(Yn (s1.heap.push (w6 "list" vs.toArray 0)) s1.heap.objs.size vs ((arrOf st').map (·.2))).get? b=bD o;rw[Zg (hZ GO) (by rw[Js];exact PM GO)];exact dt _ q
def lF(hl:Zk s.heap l vs.toArray)
  (h:Q vs {s with heap:=(s.heap.push (w6 "list" #[] 0)).update s.heap.objs.size (p7 (·++vs.toArray))}) (hsz:vs.length<=df) :
  et (hE prog w) A (Xq (.ref l)) Q E s:=by
 have⟨o,ho,b,n,c⟩:=id hl;unfold Xq;show b5 (Wo (JO entry_proto_collect' ?_));change et _ _ (do Zd (.builtin "list.__iadd__" ⟨[<-Yw [],.ref l],[]⟩)) _ _ s;show b5 (WL (dV ⟨Xf _ (by decide +kernel),JO entry_list_iadd' ?_⟩));change et _ _ (r6 (.ref s.heap.objs.size) (.ref l) (.ref s.heap.objs.size)) _ _ {s with heap:=s.heap.push (w6 "list" #[] 0)};unfold r6;have a:(s.heap.push (w6 "list" #[] 0)).get? l=bD o:=dt _ ho;show b5 (TL (T:="tuple") ⟨o,a,b⟩ ?_);have d:(vl "tuple"==vl "tuple")=b6:=by rfl
 rw[Zm (by rw[d];simp)];show b5 (Xz a c ?_);show b5 (Xz (xs:=#[]) (n:=0) (fx _ rfl) rfl ?_);rw[Zn (by simp)];show b5 (SO (xs:=#[]) (n:=0) (fx _ rfl) rfl ?_ (i3 _) (by change(#[]++vs.toArray).size<=df+1;simp only[Se,hA,Te];lia));show dV ?_;change et (hE prog w) A (do
   let o <-load s.heap.objs.size
   match o.data with
   |.seq xs _=>pure xs.toList
   |_=>Vr "internal:collect") Q E {s with heap:=(s.heap.push (w6 "list" #[] 0)).update s.heap.objs.size (p7 (·++vs.toArray))}
 show b5 (Ye (Y2 (fx _ rfl) _) ?_);change et _ _ (pure ((#[]:Array d3)++vs.toArray).toList) Q E _;rw[show((#[]:Array d3)++vs.toArray).toList=vs by simp];show dV h
end
section
def lG{h:Ic}{vs:List d3}(e:h.get? b=bD o):((h.push (w6 "list" #[] 0)).update h.objs.size (p7 (·++vs.toArray))).get? b=bD o:=by
 rw[Ma _ _ _ _ (hZ (gc e))];show dt _ e
def pf(I:Inv X a σ H s)(k1:∀b o,s.heap.get? b=bD o->s1.heap.get? b=bD o)(i:∃d c,s1={s with heap:=d,toks:=c})
  (hk:∀b o,s1.heap.get? b=bD o->h'.get? b=bD o) (j:h'.get? s1.heap.objs.size=bD (w6 "list" g.toArray e)) (k:N1 g (aH f)) (hsz:s.heap.objs.size<=s1.heap.objs.size) (hl:f.length<=df)
  (q:∀p,H p=cb->Q (.ref p) (upd H p (.lst ((aH f).map V.str)))):EP X a σ Q (.ref s1.heap.objs.size) {s1 with heap:=h' }:=by
 have⟨d,c,rfl⟩:=i;have h:Inv X a σ H {s with heap:=d,toks:=c}:=I.kept (t':=c) k1;show⟨.ref d.objs.size,_,h.laid (t':=c) (o:=.lst ((aH f).map V.str)) hk (ix _) ⟨by rw[c4,bZ];show hl,g,e,du k,j⟩,rfl,q _ (h.Gu.fresh (ix _))⟩
def jn:gZ X (.builtin "sorted") (λxs H Q=>∃(p:hH) (ys:List Str),xs=[.ref p]/\(G2 X.K H p (ys.map V.str)\/Hb X.K H p (ys.map V.str))/\ys.length<64/\∀q,H q=cb->Q (.ref q) (upd H q (.lst ((aH ys).map V.str)))):=by
 intro d s σ H xs us Q I rs h;have⟨p,ys,rfl,hq,k,q⟩:=h;have⟨u,rfl,r⟩:=vals1 rs;cases r;have hl:ys.length<=df:=Nt (i9 k (by decide));have f:∀(a:List d3),Vals (ys.map V.str) a->∀(h':Ic) (c:List d3) (e:Nat),(∀b o,((s.heap.push (w6 "list" #[] 0)).update s.heap.objs.size (p7 (·++a.toArray))).get? b=bD o->h'.get? b=bD o) ->
   h'.get? ((s.heap.push (w6 "list" #[] 0)).update s.heap.objs.size (p7 (·++a.toArray))).objs.size=bD (w6 "list" c.toArray e)->N1 c (aH ys) ->
   EP X d σ Q (.ref ((s.heap.push (w6 "list" #[] 0)).update s.heap.objs.size (p7 (·++a.toArray))).objs.size) {s with heap:=h' }:=λa rv h' c e hk g i =>
  pf (s1:={s with heap:=(s.heap.push (w6 "list" #[] 0)).update s.heap.objs.size (p7 (·++a.toArray))}) I (λb o z=>lG z) ⟨_,s.toks,rfl⟩ hk g i (by change s.heap.objs.size<=((s.heap.push (w6 "list" #[] 0)).update s.heap.objs.size (p7 (·++a.toArray))).objs.size;rw[Heap.size_update,Js];show JE _) hl q
 rcases hq with hq|hq
 .have⟨a,rv,j,hz⟩:=I.list hq;have l:a.length=ys.length:=by rw[<-rv.length,c4]
  show eX (collect_list j.isList ⟨ys,cw rv,⋯,λh' c e hk g i=>f a rv h' c e hk g i⟩ ⋯)
 .have⟨a,rv,j,hz⟩:=I.tuple hq;have l:a.length=ys.length:=by rw[<-rv.length,c4]
  show eX (lF j ⟨ys,cw rv,⋯,λh' c e hk g i=>f a rv h' c e hk g i⟩ ⋯)
end
@[reducible]def sK(P:wh)(w:G1):=PySem.strKind P w
abbrev aL(P:wh)(w:G1)(h:Ic)(a:hH)(led:Bool)(D:List Str):Prop :=
 ∃(L:List (Str×Tok)) (es:Array (Int×d3)) (ep:Nat) (t:Mn),h.get? a=bD {cls:=.type "set",dict:=cb,data:=.set es ep t}/\es.toList=L.map (λp=>((sK P w).hash p.1,tA p.1 p.2)) /\
  (L.map (·.1)).Perm D/\D.Nodup/\t.fits es.size=b6/\es.size<GL/\t.led=led/\(es.size=0\/t.plain=cK)
section
def kb{L:List (Str×Tok)}:ElemsOf (sK prog w) (L.map λp=>((sK prog w).hash p.1,tA p.1 p.2)):=by
 intro e a;obtain⟨p,_,rfl⟩:=i7.mp a;show⟨⟨p.1,by simp[PySem.strKind,RE],rfl⟩,rfl⟩
def gr(x y:Str)(t:Tok):(sK prog w).is x (.str y t)=cL (x=y):=by
 rw[G7];simp[PySem.strKind,RE];show⟨λh=>h.symm,λh=>h.symm⟩
def qH(t:Mn)(es:Array (Int×d3))(h:Int)(x:d3):(layNew t es h x).2.1.led=t.led:=by
 unfold layNew;split
 .change(Wd (t.put _).1 _).led=t.led;unfold Wd;split<;>rfl
 .rfl
def nN(t:Mn)(es:Array (Int×d3))(n:Nat):(Wq t es n).2.1.led=t.led:=by
 unfold Wq;split
 .rename_i t' b a;have:t'.led=t.led:=by
   unfold Su QF at a;cases c:O7 (IT n - 1) (es.map (·.1)) with
   |none=>rw[c]at a;cases a
   |some o=>rw[c]at a;cases a;rfl
  dsimp only
  split
  .show this
  .rfl
 .rfl
def kf(t:Mn)(es:Array (Int×d3))(n:Nat)(h:t.plain=cK):(Wq t es n).2.1.plain=cK:=by
 unfold Wq;split
 .rename_i t' b a;have:t'.plain=t.plain:=by
   unfold Su QF at a;cases c:O7 (IT n - 1) (es.map (·.1)) with
   |none=>rw[c]at a;cases a
   |some o=>rw[c]at a;cases a;rfl
  dsimp only
  split
  .rw[this];show h
  .rfl
 .rfl
def c6(h:l.Perm (L.map λp=>((sK prog w).hash p.1,tA p.1 p.2))):∃L':List (Str×Tok),l=L'.map (λp=>((sK prog w).hash p.1,tA p.1 p.2))/\L'.Perm L:=by
 have all:∀e∈l,∃p:Str×Tok,e=((sK prog w).hash p.1,tA p.1 p.2):=λe a=>by
  obtain⟨p,_,rfl⟩:=i7.mp (h.mem_iff.mp a);show⟨p,rfl⟩
 have ex:∀l:List (Int×d3),(∀e∈l,∃p:Str×Tok,e=((sK prog w).hash p.1,tA p.1 p.2))->∃L':List (Str×Tok),l=L'.map (λp=>((sK prog w).hash p.1,tA p.1 p.2)):=by
  intro l;induction l with
  |nil=>intro _;show⟨[],rfl⟩
  |cons e l c =>
   intro b;have⟨p,rfl⟩:=b e rr;have⟨L',rfl⟩:=c λe a=>b e (sL _ a);show⟨p::L',rfl⟩
 have⟨L',rfl⟩:=ex l all;show⟨L',rfl,?_⟩;have g:(L'.map λp=>((sK prog w).hash p.1,tA p.1 p.2)).map (λe=>match e.2 with|.str x t=>(x,t)|_=>(ti,0))=L':=by
  rw[i0];show SX _
 have d:(L.map λp=>((sK prog w).hash p.1,tA p.1 p.2)).map (λe=>match e.2 with|.str x t=>(x,t)|_=>(ti,0))=L:=by
  rw[i0];show SX _
 have:=h.map (λe=>match e.2 with|.str x t=>(x,t)|_=>(ti,0));rw[g,d]at this;show this
theorem kg(hS:aL prog w s.heap a led D)(KY:D.length+1<GL)
    (h:∀h',nc a s.heap h'->aL prog w h' a led (if x∈D then D else D++[x])->Q (cL (x∉D)) {s with heap:=h' }) :
    et (hE prog w) A (setAddHashed a (.str x tk) ((sK prog w).hash x)) Q E s:=by
  obtain⟨L,es,ep,t,ho,Hd,Gr,GR,hf,hb,Hh,Hc⟩:=hS;have Lu:(sK prog w).is x (.str x tk)=b6:=by rw[gr];simp
  have Nc:ElemsOf (sK prog w) es.toList:=by rw[Hd];exact kb
  have hlen:es.size=D.length:=by rw[<-hU,Hd,c4,<-c4 (f:=Ya) (as:=L),Gr.length_eq]
  unfold setAddHashed setAddHashedIn;refine tr (b5 (l0 ho rfl hf ?_))
  dsimp only
  rw[byScan_of (knd:=sK prog w) rfl hb Nc];simp only[↓reduceIte];unfold setAddByScan;refine b5 ?_;refine b5 (Md ?_);refine b5 (YI (knd:=sK prog w) Lu ho rfl hf Nc ?_);have mem_iff:(∃e∈es.toList,(sK prog w).is x e.2=b6)↔x∈D:=by
    rw[Hd,<-Gr.mem_iff,i7];constructor
    · rintro⟨e,he,hi⟩
      obtain⟨p,hp,rfl⟩:=i7.mp he;rw[gr,Zl]at hi;exact⟨p,hp,hi.symm⟩
    · rintro⟨p,hp,e⟩
      exact⟨_,i7.mpr ⟨p,hp,rfl⟩,by rw[gr];simp[e]⟩
  cases hr:V2 (λe=>(sK prog w).is x e.2) es.toList with
  | some j =>
    dsimp only
    obtain⟨hj,Ov,_⟩:=Sb.mp hr;have hx:x∈D:=mem_iff.mp ⟨es.toList[j],J0 hj,Ov⟩;refine dV (dV ?_);have e:s={s with heap:=s.heap}:=by cases s;rfl
    have:=h s.heap (Hw a s.heap) (by rw[Zm hx];exact⟨L,es,ep,t,ho,Hd,Gr,GR,hf,hb,Hh,Hc⟩);rw[Zo (λz=>z hx)]at this;rw[e];exact this
  | none =>
    dsimp only
    have hx:x∉D:=λhx=>by
      obtain⟨e,he,hp⟩:=mem_iff.mpr hx;have:=Vn.mp hr e he;rw[hp]at this;exact Bool.noConfusion this
    have Us:∀(b:Bool) {s₁:hh} {Q':Unit->hh->Prop},Q' () s₁->et (hE prog w) A (match b with|true=>YO "set.scan.the-table-gave-way"|false=>pure ()) Q' E s₁ :=
      λb s₁ Q' hq=>by cases b<;>first|exact dV hq|exact Md hq
    have Ms:=layNew_perm t es ((sK prog w).hash x) (.str x tk);have Jm:=layNew_fits t es ((sK prog w).hash x) (.str x tk);have Jn:=qH t es ((sK prog w).hash x) (.str x tk);generalize hL:layNew t es ((sK prog w).hash x) (.str x tk)=NL at Ms Jm Jn ⊢;obtain⟨G9,t1,JV,Ut⟩:=NL
    dsimp only at Ms Jm Jn ⊢
    rw[Xm,Hd,show [((sK prog w).hash x,tA x tk)]=[(x,tk)].map (λp=>((sK prog w).hash p.1,tA p.1 p.2)) from rfl,<-ki]at Ms;obtain⟨L1,e1,Uu⟩:=c6 Ms;have Lv:G9.size=D.length+1:=by rw[<-hU,Ms.length_eq,c4,hY,<-hlen,<-hU,Hd,c4];rfl
    have Sj:G9.size<GL:=by lia
    have KZ:(L1.map (·.1)).Perm (D++[x]):=(Uu.map _).trans (by rw[ki];exact Gr.append_right _);have Sk:(D++[x]).Nodup:=by
      rw[qs]
      exact ⟨GR, by simp, fun y hy z hz => by have : z = x := by simpa using hz
                                              subst this;rintro rfl;exact hx hy⟩
    refine b5 (Us _ ?_);have Ks:∀h',nc a s.heap h'->aL prog w h' a led (D++[x])->Q b6 {s with heap:=h' }:=λh' sb hs=>by
      have:=h h' sb (by rw[Zn hx];exact hs);rw[Zp hx]at this;exact this
    have tail:∀(g:Bool->Sem Unit),(∀(b:Bool) (s₁:hh) (Q':Unit->hh->Prop),Q' () s₁->et (hE prog w) A (g b) Q' E s₁)->∀(R:Option Bool->hh->Prop),(∀h',nc a s.heap h'->aL prog w h' a led (D++[x])->R (bD b6) {s with heap:=h' })->∀t2:Mn,t2.fits G9.size=b6->t2.led=led->t2.plain=cK->et (hE prog w) A (do
        storeSet a G9 t2
        if (!JV&&t2.tooFull)=true then do
            g (relayAll t2 G9 (SetTable.grown G9.size)).2.2
            storeSet a (relayAll t2 G9 (SetTable.grown G9.size)).1 (relayAll t2 G9 (SetTable.grown G9.size)).2.1
            pure (some true)
          else pure (bD b6)) R E s:=by
      intro g hg R hR t2 Uv Jo Kt;refine b5 (TN ho rfl ?_ (T_ Sj));have Ke:(s.heap.update a (M1 G9 t2)).get? a=bD {cls:=.type "set",dict:=cb,data:=.set G9 (ep+1) t2}:=by
        have:=ts (M1 G9 t2) ho rfl;exact this
      have Nd:=wk s.heap a (M1 G9 t2);split
      · have hp:=relayAll_perm t2 G9 (Lg G9.size)
        have Kf:=relayAll_fits t2 G9 (Lg G9.size);have Qj:=nN t2 G9 (Lg G9.size);have Mt:=kf t2 G9 (Lg G9.size) Kt;generalize Qk:Wq t2 G9 (Lg G9.size)=Rl at hp Kf Qj Mt ⊢;obtain⟨K3,t3,Sl⟩:=Rl
        dsimp only at hp Kf Qj Mt ⊢
        rw[e1]at hp;obtain⟨L2,e2,Uw⟩:=c6 hp;have hsz:K3.size=G9.size:=by rw[<-hU,hp.length_eq,<-e1,hU]
        refine b5 (hg _ _ _ ?_);refine b5 (TN Ke rfl ?_ (T_ ⋯));have Mu:((s.heap.update a (M1 G9 t2)).update a (M1 K3 t3)).get? a=bD {cls:=.type "set",dict:=cb,data:=.set K3 (ep+1+1) t3}:=ts (M1 K3 t3) Ke rfl;refine dV (hR _ (Nd.trans (wk _ a _)) ⟨L2,K3,_,t3,Mu,e2,(Uw.map _).trans KZ,Sk,Kf,⋯,Qj.trans Jo,.inr Mt⟩)
      · exact dV (hR _ Nd ⟨L1,G9,_,t2,Ke,e1,KZ,Sk,Uv,Sj,Jo,.inr Kt⟩)
    split
    · rename_i hp
      refine b5 ?_;rw[hashByValue_scannable 8 rfl];refine dV ?_;have ep:(if plainKind (tA x tk)=b6 then t1 else {t1 with plain:=cK})={t1 with plain:=cK}:=rfl;rw[ep];refine tail _ ?_ _ ?_ {t1 with plain:=cK} (SetTable.fits_plain_off Jm) (Jn.trans Hh) rfl
      · intro b s₁ Q' hq;cases b<;>first|exact dV hq|exact Md hq
      · intro h' Jw Ie;dsimp only;exact dV (Ks h' Jw Ie)
    · rename_i hp
      refine b5 (dV ?_);simp only[↓reduceIte];refine tail _ ?_ _ ?_ t1 Jm (Jn.trans Hh) (Bool.eq_false_iff.mpr hp)
      · intro b s₁ Q' hq;cases b<;>first|exact dV hq|exact Md hq
      · intro h' Jw Ie;dsimp only;exact dV (Ks h' Jw Ie)
end
abbrev jD(D:List Str)(x:Str):List Str:=if x∈D then D else D++[x]
abbrev aA(l:List Str):List Str:=l.foldl jD []
theorem qI(h:D.Nodup):(jD D x).Nodup:=by
  unfold jD;split
  · exact h
  · rename_i hx
    rw[qs]
    exact ⟨h, by simp, fun y hy z hz => by have : z = x := by simpa using hz
                                           subst this;rintro rfl;exact hx hy⟩
theorem eY:∀(l D:List Str),D.Nodup->(l.foldl jD D).Nodup/\(∀x,x∈l.foldl jD D↔x∈D\/x∈l)/\(l.foldl jD D).length<=D.length+l.length
 |[],D,h=>⟨h,by simp,by simp⟩
 |y::l,D,h=>by
  have⟨a,b,f⟩:=eY l (jD D y) (qI h);have c:∀x,x∈jD D y↔x∈D\/x=y:=λx=>by
   unfold jD;split
   .rename_i d;show⟨.inl,λz=>z.elim id (λe=>e▸d)⟩
   .simp
  have hl:(jD D y).length<=D.length+1:=by
   unfold jD;split
   .lia
   .simp
  show⟨a,λx=>?_,by rw[Qo,js];lia⟩;rw[Qo,b,c,gs,or_assoc]
def b8(l:List Str):(aA l).Nodup:=(eY l [] QV).1
def bO(l:List Str)(x:Str):x∈aA l↔x∈l:=by rw[aA,(eY l [] QV).2.1];simp
def gF(l:List Str):(aA l).length<=l.length:=by have:=(eY l [] QV).2.2;simpa[aA] using this
def ph(l:List Str)(x:Str):aA (l++[x])=jD (aA l) x:=by unfold aA;rw[List.foldl_append];rfl
section
variable{prog:wh}{w:G1}{A:LU}{R:Result->hh->Prop}{I:hH}{fp wr:List hH}{G:Array XX->Array XX->Prop}{n:Nat}{P:Nat->d3->Prop}{St:Nat->hh->Prop}
def iR(W:Yj prog w A.in1 I fp wr G n P St)(S:hH)(j:S∉fp)(led:Bool)
  (ys:List Str) (hn:ys.length=n) (r:∀i v,P i v->∃x t,ys[i]?=bD x/\v=.str x t) (a:n+1<GL) :
  ∀(k i:Nat) (s:hh),n - i=k->i<=n->St i s->aL prog w s.heap S led (aA (ys.take i)) ->
   (∀s',Moved (S::wr) G s s'->aL prog w s'.heap S led (aA ys)->R (.ok (.ret .none)) s') ->
   OU (hE prog w) A (.builtin "set.update.loop" ⟨[.ref S,.ref I],[]⟩) R s:=by
 have l:S∉wr:=λh=>j (W.sub _ h);have m:∀b∈wr,b∈S::wr:=λb a=>sL _ a;intro k;induction k with
 |zero =>
  intro i s hk u f d g;have y:i=n:=by lia
  subst y;show JO PL ?_;rw[Lk K4 _];change et _ A.in1 (Q0 (.ref I) >>= _) _ _ s;show b5 (W.done s _ _ f λs' c=>?_);change et _ A.in1 (ret nH) _ _ s';rw[Kv ⋯]at d;show dV (g s' (c.mono m) (by
   have⟨L,es,ep,t,ho,rest⟩:=d;show⟨L,es,ep,t,c.heap S _ l ho,rest⟩))
 |succ k z =>
  intro i s hk u f d g;have p:i<n:=by lia
  show JO PL ?_;rw[Lk K4 _];change et _ A.in1 (Q0 (.ref I) >>= _) _ _ s;show b5 (W.item i s _ _ p f λv s' B C c=>?_);have⟨x,t,D,rfl⟩:=r i v B;have H:aL prog w s'.heap S led (aA (ys.take i)):=by
   have⟨L,es,ep,J,ho,rest⟩:=d;show⟨L,es,ep,J,c.heap S _ l ho,rest⟩
  change et _ A.in1 (Ko [tA x t] (setAdd S (.str x t)) >>= _) _ _ s';show b5 (tr ?_);unfold setAdd;show tr ?_;show b5 ((sK prog w).pyHash (k:=x) (by rw[gr];simp) ?_);have N:(aA (ys.take i)).length+1<GL:=by have:=gF (ys.take i);rw[x3]at this;lia
  show kg (s:={s' with toks:=s'.toks+1}) H N λh' q O=>?_;have Q:aL prog w h' S led (aA (ys.take (i+1))):=by
   rw[List.take_add_one,D];change aL prog w h' S led (aA (ys.take i++[x]));rw[ph];show O
  show dV ⟨Ql K4 _,z (i+1) _ ⋯ p (W.frame _ s' _ _ C (JE _) λb a o e=>?_) Q λT Y Qn=>?_⟩
  .rw[q.2 b (λh:b=S=>j (by rw[<-h];show a))];show e
  .show g T (YB W.gtrans ((c.mono m).then_heap (JE _) λb o a e=>?_) Y) Qn;rw[q.2 b (λh:b=S=>a (by rw[h];show rr))];show e
end
section
def lH(a:d3)
  (h:Q₁ (.ref s.heap.objs.size) {s with heap:=s.heap.push {cls:=.type "set",dict:=cb,data:=.set #[] 0 (.fresh 0 0 (!w.params.followText "set-order"))}}) :
  OU (hE prog w) A (.call (.builtin "set.__new__") ⟨[.type "set",a],[]⟩) (wants Q₁ E) s:=by
 show YZ ?_;change et _ A.in1 (do checkBuiltinCall "set.__new__" ⟨[.type "set",a],[]⟩;Zd (.builtin "set.__new__" ⟨[.type "set",a],[]⟩)) _ _ s;show b5 (Vp (PySem.F.newCall_set_1 a) (dV ⟨Ql PySem.F.plain_set_new _,JO PySem.F.entry_set_new ?_⟩));rw[Lk PySem.F.plain_set_new _];unfold L0.«set.__new__» X1;have b:=TX;have⟨c,g,d,e,os⟩:=s
 dsimp only
 wp_walk
 show Om (dV ?_)
 dsimp only
 simp only[newObj];show b5 (wpAny_alloc (dV ?_));show dV h
def gG(b:h.get? a=bD {cls:=.type "set",dict:=cb,data:=.set #[] 0 (.fresh 0 0 led)}):aL prog w h a led [] :=
 ⟨[],#[],0,_,b,rfl,.nil,QV,rfl,by unfold GL;decide,rfl,.inl rfl⟩
end
def sub_tuple_set:Vc (.type "tuple") (.type "set")=pure cK:=by rw[PN];kernel_rfl
def sub_tuple_frozenset:Vc (.type "tuple") (.type "frozenset")=pure cK:=by rw[PN];kernel_rfl
section
@[reducible]def aC(w:G1):Bool:=!w.params.followText "set-order"
@[reducible]def qJ(led:Bool):Obj:={cls:=.type "set",dict:=cb,data:=.set #[] 0 (.fresh 0 0 led)}
def ib
  (J:s.TypeIs (.ref l) T) (Uz:Vc (.type T) (.type "set")=pure cK) (UA:Vc (.type T) (.type "frozenset")=pure cK) (Hj:(vl T==vl "dict")=cK)
  (L:ys.length+1<GL)
  (j:∀(s1:hh) (B:LU) (Q':d3->hh->Prop),B.handled=A.handled->(∀b o,s.heap.get? b=bD o->s1.heap.get? b=bD o)->s.heap.objs.size<s1.heap.objs.size ->
   (∀I k m G P St a,Yj prog w B.in1 I k m G ys.length P St->(∀g g',G g g'->g'=g)->s.heap.objs.size∉k->(∀b∈m,s.heap.objs.size<b)->(∀i v,P i v->∃x t,ys[i]?=bD x/\v=.str x t)->St 0 {s1 with heap:=a}->(∀b o,s1.heap.get? b=bD o->a.get? b=bD o)->Q' (.ref I) {s1 with heap:=a})->et (hE prog w) B (Wt (.ref l)) Q' E s1)
  (h:∀(h':Ic) (d:Nat),aL prog w h' s.heap.objs.size (aC w) (aA ys)->(∀b o,b<s.heap.objs.size->s.heap.get? b=bD o->h'.get? b=bD o)->Q (.ref s.heap.objs.size) {s with heap:=h',toks:=d}) :
  et (hE prog w) A (MR (.type "set") [.ref l]) Q E s:=by
 have⟨c,tl,UB⟩:=PySem.F.called_set.mro;have Sn:=PySem.F.called_set.made;have JW:=PySem.F.called_set.sub;show wpAny_call (YZ ?_);change et _ _ (callAny (.type "set") _) _ _ _;show dV ⟨Xf _ (by decide +kernel),JO PySem.F.entry_type_call ?_⟩;rw[Around.under_plain (weight_type_call_type "set" [.ref l] []) rfl];have a:=PySem.F.called_set.notType;have h2:=PySem.F.called_set.canCreate;have WR:=PySem.F.typeCall_set_1 (.ref l)
 repeat (any_goals (first|assumption|wp_step))
 show Q1 (lH (.ref l) (E:=E) (Q₁:=λobj y=>obj=.ref s.heap.objs.size/\y={s with heap:=s.heap.push (qJ (aC w))}) ⟨rfl,rfl⟩) λr y n=>?_;cases r with
 |error e=>show n
 |ok N =>
  cases N with
  |ret obj =>
   have⟨rfl,rfl⟩:=n;have C:(s.heap.push (qJ (aC w))).get? s.heap.objs.size=bD (qJ (aC w)):=fx _ rfl;have O:Pn {s with heap:=s.heap.push (qJ (aC w))} (.ref s.heap.objs.size) "set":=⟨_,C,rfl⟩
   have WS:=PySem.F.called_set.init.lookup;have WT:=PySem.F.called_set.init.bind (.ref s.heap.objs.size)
   repeat (any_goals (first|assumption|wp_step))
   show Q1 (codeAny_call_builtin (R:=wants (λr D=>r=.none/\∃h' d,D={s with heap:=h',toks:=d} /\
     aL prog w h' s.heap.objs.size (aC w) (aA ys) /\
     (∀b o,b<s.heap.objs.size->s.heap.get? b=bD o->h'.get? b=bD o)) E) PySem.F.called_set.init.plain PySem.F.entry_set_init (check_set_init_1 O ?_)) λY D p=>?_
   .have⟨ol,Nf,H⟩:=J;have⟨UC,Ng,Nh,Lx⟩:=ol;simp only at H;subst H;have Qp:(s.heap.push (qJ (aC w))).get? l=bD {cls:=.type T,dict:=Ng,data:=Nh,slots:=Lx}:=dt _ Nf;have So:Pn {s with heap:=s.heap.push (qJ (aC w))} (.ref l) T:=⟨_,Qp,rfl⟩
    unfold L0.«set.__init__» noKeywords XZ;generalize UD:Wt=PI
    wp_walk
    subst UD;show j {s with heap:=s.heap.push (qJ (aC w))} _ _ rfl (λb o e=>dt _ e) (by rw[Js];show L_ _) λI k m G P St a W hG hf UE Lw Gy hk=>?_;show b5 (Wo ?_);show iR W s.heap.objs.size hf (aC w) ys rfl Lw L (ys.length - 0) 0 _ ⋯ (i3 _) Gy (gG (hk _ _ C)) ?_;intro s' f q;have⟨h',g',d',UG,PJ⟩:=s';have eg:g'=s.gens:=hG _ _ f.gens;have ed:d'=s.drawn:=f.drawn;have eo:PJ=s.os:=f.os;subst eg;subst ed;subst eo;change et _ _ _ _ _ _;show dV ?_;change et _ _ (ret nH) _ _ _;show dV ⟨rfl,h',UG,rfl,q,λb o u e=>?_⟩;show f.heap b o (λz=>by
     rcases gs.mp z with z|z
     .rw[z]at u;show uv _ u
     .show absurd (UE b z) (X3 u)) (hk _ _ (dt _ e))
   .cases Y with
    |error e=>show p
    |ok UH =>
     cases UH with
     |ret r =>
      have⟨rfl,h',d,rfl,q,He⟩:=p
      repeat (any_goals (first|assumption|wp_step))
      show h _ _ q He
     |_=>show p.elim
  |_=>show n.elim
end
section
theorem nO:∀{vs:List d3}{a:List Str},N1 vs a->∀(i:Nat) (v:d3),vs[i]?=bD v->∃x t,a[i]?=bD x/\v=.str x t
 |_,_,.nil,i,v,h=>by simp at h
 |_,_,.cons x t h,0,v,e=>by simp at e;show⟨x,t,rfl,e.symm⟩
 |_,_,.cons x t h,i+1,v,e=>by rw[P2]at e;rw[P2];show nO h i v e
theorem ic:∀{vs:List d3}{a:List Str},N1 vs a->vs.length=a.length
 |_,_,.nil=>rfl
 |_,_,.cons x t h=>by simp[ic h]
def sm(a:n≠S)(b:n≠l):n∉[S,l]:=by simp[a,b]
def fD(g:A.handled=cb)(hl:s.heap.IsList l vs.toArray)(d:N1 vs ys)(a:ys.length+1<GL)
  (h:∀(h':Ic) (j:Nat),aL prog w h' s.heap.objs.size (aC w) (aA ys)->(∀b o,b<s.heap.objs.size->s.heap.get? b=bD o->h'.get? b=bD o)->Q (.ref s.heap.objs.size) {s with heap:=h',toks:=j}) :
  et (hE prog w) A (MR (.type "set") [.ref l]) Q E s:=by
 have f:l<s.heap.objs.size:=let ⟨o,ho,_⟩:=hl;gc ho;show ib hl.typeIs PySem.F.sub_list_set PySem.F.sub_list_frozenset (by decide) a (λs1 B Q' k hk c m=>?_) h;have Jn:s1.heap.IsList l vs.toArray:=let ⟨o,ho,r⟩:=hl;⟨o,hk _ _ ho,r⟩;show Qh Jn ?_;have n:l≠s1.heap.objs.size:=hZ (Sy f c);have W:=(WO (prog:=prog) (w:=w) (A:=B.in1) (by simp[k,g]) s1.heap.objs.size l n vs.toArray).toS;have p:vs.toArray.size=ys.length:=by simp[ic d]
 rw[p]at W;show m _ _ _ _ _ _ _ W (λ_ _ e=>e) (sm (hZ c) (HS f)) (λb a=>by rw[hQ.mp a];show c) (λi v q=>nO d i v (by simpa using q)) ⟨⟨_,fx _ rfl,rfl,rfl⟩,Jn.push _⟩ λb o e=>dt _ e
def gu(g:A.handled=cb)(hl:s.heap.IsTuple l vs.toArray)(d:N1 vs ys)(a:ys.length+1<GL)
  (h:∀(h':Ic) (j:Nat),aL prog w h' s.heap.objs.size (aC w) (aA ys)->(∀b o,b<s.heap.objs.size->s.heap.get? b=bD o->h'.get? b=bD o)->Q (.ref s.heap.objs.size) {s with heap:=h',toks:=j}) :
  et (hE prog w) A (MR (.type "set") [.ref l]) Q E s:=by
 have f:l<s.heap.objs.size:=let ⟨o,ho,_⟩:=hl;gc ho;show ib hl.typeIs sub_tuple_set sub_tuple_frozenset (by decide) a (λs1 B Q' k hk c m=>?_) h;have Jn:s1.heap.IsTuple l vs.toArray:=let ⟨o,ho,r⟩:=hl;⟨o,hk _ _ ho,r⟩;show Nj Jn ?_;have n:l≠s1.heap.objs.size:=hZ (Sy f c);have W:=(Walks.tuple (prog:=prog) (w:=w) (A:=B.in1) (by simp[k,g]) s1.heap.objs.size l n vs.toArray).toS;have p:vs.toArray.size=ys.length:=by simp[ic d]
 rw[p]at W;show m _ _ _ _ _ _ _ W (λ_ _ e=>e) (sm (hZ c) (HS f)) (λb a=>by rw[hQ.mp a];show c) (λi v q=>nO d i v (by simpa using q)) ⟨⟨_,fx _ rfl,rfl,rfl⟩,let ⟨o,ho,r⟩:=Jn;⟨o,dt _ ho,r⟩⟩ λb o e=>dt _ e
def nP(a:n≠0)(h:∀i<n,Q i {s with drawn:=s.drawn.bump src}):et M A (choose src n) Q E s:=λΓ p b=>by
 change Sem.wp M Γ (.choose src n .pure) _ _ p s;rw[Sem.wp_choose];show⟨a,h _ (Vm _ (Nat.pos_of_ne_zero a))⟩
theorem gH:∀{xs:List α}{i:Nat}{x:α},xs[i]?=bD x->(x::xs.eraseIdx i).Perm xs
 |[],i,x,h=>by simp at h
 |y::ys,0,x,h=>by simp at h;subst h;show .refl _
 |y::ys,i+1,x,h=>by
  rw[P2]at h;rw[P4];show(WZ y x _).trans ((gH h).cons y)
theorem gw:∀(n:Nat) (xs:List α) (s:hh) (Q:List α->hh->Prop),xs.length=n->(∀ys d,ys.Perm xs->Q ys {s with drawn:=d})->et M A (drawOrder n xs) Q E s
 |0,xs,s,Q,a,h=>by
  have:xs=[]:=PY.mp a;subst this;show dV (h [] s.drawn (.refl _))
 |n+1,[],s,Q,a,h=>by simp at a
 |n+1,y::ys,s,Q,a,h=>by
  change et M A (choose .order (y::ys).length >>= _) Q E s;show b5 (nP (by simp) λi b=>?_);have e:(y::ys)[i]?=bD ((y::ys)[i]'b):=nC b;have c:=gH e;generalize (y::ys)[i]'b=x at e c;simp only[e];show b5 (gw n _ _ _ (by have:=c.length_eq;simp at this a ⊢;lia) λf d hz=>?_);show dV (h (x::f) d ((hz.cons x).trans c))
theorem jo(next:Nat->Nat):∀(fuel k:Nat) (left:List α) (out:Array α),left.length=fuel->(T8 next fuel k left out).toList.Perm (out.toList++left)
 |0,k,left,out,hl=>by
  have:left=[]:=PY.mp hl;subst this;simp[T8]
 |fuel+1,k,left,out,hl=>by
  unfold T8;have a:next k % left.length<left.length:=Vm _ ⋯;have e:left[next k % left.length]?=bD (left[next k % left.length]'a):=nC a;have b:=gH e;generalize left[next k % left.length]'a=x at e b;simp only[e];show(jo next fuel _ _ _ (by have:=b.length_eq;simp at this;lia)).trans ?_;rw[Xm,PK];show(b.append_left _)
def dC(next:Nat->Nat)(xs:Array α):(U' next xs).toList.Perm xs.toList:=by
 have:=jo next xs.size 0 xs.toList #[] (by simp);simpa[U'] using this
end
namespace SI
def pj:Manifest.owners.lookup (String.ofList ['r','o','t','a','r','e','t','i','_','t','e','s'].reverse)=bD Manifest.sig_set_iterator:=by kernel_rfl
def slot_next:Slot "set_iterator" "__next__" "set_iterator.__next__" :=
 .of (owner:="set_iterator") (n:="__next__") (by rw[Pe,LQ];kernel_rfl) (by decide +kernel) (by decide +kernel) (by decide +kernel)
  (by first|show .inl (by decide +kernel)|show .inr (by decide +kernel)) (by rw[PN];kernel_rfl)
def entry_next:XT table "set_iterator.__next__"=bD L0.«set_iterator.__next__»:=entryFor_of_tree (by kernel_rfl)
def args_next(a:d3):Zc "set_iterator.__next__" ⟨[a],[]⟩:=by
 unfold Zc;rw[signature?_of (id:="set_iterator.__next__") (n:=['_','_','t','x','e','n','_','_']) (o:=['r','o','t','a','r','e','t','i','_','t','e','s']) (by kernel_rfl) pj];kernel_rfl
def mf:Slot "set_iterator" "__iter__" "set_iterator.__iter__" :=
 .of (owner:="set_iterator") (n:="__iter__") (by rw[Pe,LQ];kernel_rfl) (by decide +kernel) (by decide +kernel) (by decide +kernel)
  (by first|show .inl (by decide +kernel)|show .inr (by decide +kernel)) (by rw[PN];kernel_rfl)
def um(a:d3):Zc "set_iterator.__iter__" ⟨[a],[]⟩:=by
 unfold Zc;rw[signature?_of (id:="set_iterator.__iter__") (n:=['_','_','r','e','t','i','_','_']) (o:=['r','o','t','a','r','e','t','i','_','t','e','s']) (by kernel_rfl) pj];kernel_rfl
def qK:XT table "set_iterator.__iter__"=bD L0.«dict_keyiterator.__iter__» :=
 Wu (id':="dict_keyiterator.__iter__") (by kernel_rfl) (by first|rfl|decide +kernel|(unfold String.splitOn;simp +decide [String.splitOnAux])) (by decide +kernel) (by kernel_rfl)
def kh:XT table "set.__iter__"=bD L0.«frozenset.__iter__» :=
 Wu (id':="frozenset.__iter__") (by kernel_rfl) rfl (by decide +kernel) (by kernel_rfl)
end SI
section
variable{prog:wh}{w:G1}{A:LU}{E:d3->hh->Prop}{s:hh}
abbrev gI(h:Ic)(I:hH)(first:d3)(i:Nat)(S:hH)(n ep:Nat):Prop:=∃o,h.get? I=bD o/\o.cls=.type "set_iterator"/\o.data=.fields #[first,u6 i,.ref S,u6 n,u6 ep]
def gI.typeIs(x:gI s.heap I f i S n ep):s.TypeIs (.ref I) "set_iterator":=let ⟨o,ho,a,_⟩:=x;⟨o,ho,a⟩
def zf(a:gI s.heap I f i S n ep)(h:Q (.ref I) s):et (hE prog w) A (Wt (.ref I)) Q E s:=by
 show Ys a.typeIs SI.mf (H0 SI.mf a.typeIs SI.qK ?_ (SI.um _));change et _ _ (ret (.ref I)) _ _ s;show dV ⟨_,rfl,"set_iterator",_,a.typeIs,SI.slot_next.lookup,h⟩
def cy(h:Q (M.w.params.followText "set-order") s):et M A Yh Q E s:=by
 unfold Yh;show b5 (Om (dV h))
end
end L2
namespace L2
open PySem PySem.Spec PyProof.Rows
section
variable{prog:wh}{w:G1}{A:LU}{E:d3->hh->Prop}{s:hh}
@[reducible]def nQ(es:Array (Int×d3))(ep:Nat)(t:Mn):Obj:={cls:=.type "set",dict:=cb,data:=.set es ep t}
def pk{I:hH}{B:LU}{Q:Option d3->hh->Prop}{c:Ic}{k:d3->Sem (Option d3)}(d:B.handled=cb)
  (f:∀h',(∀b o,c.get? b=bD o->h'.get? b=bD o)->∀e,Pn {s with heap:=h' } e "StopIteration"->E e {s with heap:=h' }) {Q':Fin->hh->Prop} :
  et (hE prog w) B (Xp (.type "StopIteration") [] >>= λe=>(Wr e:Sem Fin)) Q' E {s with heap:=c}:=by
 show b5 ?_;simp only[Xp,Y9];show b5 (vu ?_ (by size_fits));show b5 (m:=R' _ _) (Vp (a:=nH) (by first|rfl|(simp only[R'];rfl)) ?_);show vu ?_ (by size_fits);simp only[Wr];show b5 (wpAny_handled ?_);rw[d];show b5 (dV (wpAny_throw ?_));show f _ (λb o e=>dt _ (dt _ e)) _ ⟨_,fx _ rfl,rfl⟩
def so{I S:hH}{first:d3}{i ep:Nat}{es:Array (Int×d3)}{t:Mn}(d:gI s.heap I first i S es.size ep)(ho:s.heap.get? S=bD (nQ es ep t))(j:t.fits es.size=b6)
  (k:∀(Q':Fin->hh->Prop) (h:d3->hh->Prop) ,(∀v s',Q (bD v) s'->Q' (.done (.ret v)) s')->(∀e s',s'.TypeIs e "StopIteration"->Q cb s'->h e s') ->
   et (hE prog w) A.in1 (if let .int slot _:=first then(do
     match <-TY S slot.toNat i ep with
     |some (x,next) =>
      TZ (.ref I) 0 (u6 next)
      TZ (.ref I) 1 (u6 ((i:Int)+1))
      ret x
     |none=>TZ (.ref I) 2 .none;Wr (<-Xp (.type "StopIteration") []))
    else(do
     let bD c <-Xa first|unsupported "internal:set_iterator"
     match c[i]? with
     |some (.int f _) =>
      let x <-Xo S f.toNat ep
      TZ (.ref I) 1 (u6 ((i:Int)+1))
      ret x
     |some _=>Vr "internal:set_iterator"
     |none=>TZ (.ref I) 0 (u6 0);TZ (.ref I) 2 .none;Wr (<-Xp (.type "StopIteration") []))) Q' h s):et (hE prog w) A (Q0 (.ref I)) Q E s:=by
 have⟨o,l,n,m⟩:=id d;unfold Q0;show b5 (wpAny_attempt (Nw (name:=O2 "__next__") d.typeIs SI.slot_next
  (H0 SI.slot_next d.typeIs SI.entry_next ?_ (SI.args_next _))))
 unfold L0.«set_iterator.__next__»;show b5 (Vp (a:=(kr I,[])) rfl ?_)
 try dsimp only
 show b5 (wpAny_fieldsOf l m ?_)
 try dsimp only
 show b5 (Ph ho rfl j ?_);rw[Zn (by simp)];show tj (k (λg s'=>∃r,g=.done (.ret r)/\Q (bD r) s') (λe s'=>s'.TypeIs e "StopIteration"/\Q cb s') (λv s' q=>⟨v,rfl,q⟩) λe s' z q=>⟨z,q⟩) ?_ ?_
 .rintro g s' ⟨r,rfl,q⟩;show⟨r,rfl,dV q⟩
 .rintro e s' ⟨z,q⟩;show b5 (MO (T:="StopIteration") (b:=b6) z Y_ ?_);show dV q
end
section
def sr{I S:hH}{f f':d3}{i n ep:Nat}{h:Ic}{o:Obj}(b:h.get? I=bD o)(c:o.cls=.type "set_iterator")(a:o.data=.fields #[f,u6 i,.ref S,u6 n,u6 ep]):
  gI (h.update I (YA (·.setIfInBounds 1 (u6 ((i:Int)+1))))) I f (i+1) S n ep :=
 ⟨_,ts _ b (QH (K2 a _)),(Sx ..).trans c,by rw[K2 a];simp⟩
def pq{h:Ic}(b:h.get? I=bD o)(c:o.cls=.type "set_iterator")(a:o.data=.fields #[f,u6 i,.ref S,u6 n,u6 ep]):
  ∃o',(h.update I (YA (·.setIfInBounds 0 f'))).get? I=bD o'/\o'.cls=.type "set_iterator"/\o'.data=.fields #[f',u6 i,.ref S,u6 n,u6 ep] :=
 ⟨_,ts _ b (QH (K2 a _)),(Sx ..).trans c,by rw[K2 a];simp⟩
def v8{I S:hH}{slot i ep:Nat}{es:Array (Int×d3)}{t:Mn}{Q:Option d3->hh->Prop}(a:gI s.heap I (u6 slot) i S es.size ep)(ho:s.heap.get? S=bD (nQ es ep t))(j:t.fits es.size=b6)(l:A.handled=cb)
  {r:Option (d3×Nat)} (m:∀(B:LU) (f:d3->hh->Prop) (Q':Option (d3×Nat)->hh->Prop),Q' r s->et (hE prog w) B (TY S slot i ep) Q' f s)
  (n:∀x nx,r=bD (x,nx)->∀h',gI h' I (u6 nx) (i+1) S es.size ep->nc I s.heap h'->Q (bD x) {s with heap:=h' })
  (q:r=cb->∀h',(∀b o,b≠I->s.heap.get? b=bD o->h'.get? b=bD o)->Q cb {s with heap:=h' }):et (hE prog w) A (Q0 (.ref I)) Q E s:=by
 show so a ho j λQ' f u v=>?_;have⟨o,c,y,d⟩:=id a;change et _ _ (TY S slot i ep >>= _) _ _ s;show b5 (m _ _ _ ?_);cases r with
 |some p =>
  have⟨x,nx⟩:=p
  dsimp only
  show b5 (KX c d (by simp) ?_);have⟨o',g,z,h⟩:=pq (f':=u6 nx) c y d;show b5 (KX (s:={s with heap:=_}) g h (by simp) ?_);show dV (u _ _ (n x nx rfl _ (sr (f':=u6 nx) g z h) ((wk ..).trans (wk ..))))
 |none =>
  dsimp only
  show b5 (KX c d (by simp) ?_);show pk (I:=I) (k:=λ_=>pure cb) (Q:=λ_ _=>True) (s:=s) (by simpa using l) λh' hk e C=>v e _ C (q rfl h' λb D G H=>hk b D ?_);rw[Ma _ _ _ _ G];show H
def Cj{I S T:hH}{i ep:Nat}{es:Array (Int×d3)}{t:Mn}{a:List Nat}{Q:Option d3->hh->Prop}(c:gI s.heap I (.ref T) i S es.size ep)(ho:s.heap.get? S=bD (nQ es ep t))(m:t.fits es.size=b6)(r:A.handled=cb)
  (u:s.heap.IsTuple T ((a.map λ(j:Nat)=>u6 j).toArray))
  (v:∀(j:Nat) (e:Int×d3),a[i]?=bD j->es[j]?=bD e->∀h',gI h' I (.ref T) (i+1) S es.size ep->nc I s.heap h'->Q (bD e.2) {s with heap:=h' })
  (x:∀j∈a,j<es.size)
  (y:a[i]?=cb->∀h',(∀b o,b≠I->s.heap.get? b=bD o->h'.get? b=bD o)->Q cb {s with heap:=h' }):et (hE prog w) A (Q0 (.ref I)) Q E s:=by
 show so c ho m λQ' O z B=>?_;have⟨o,d,n,f⟩:=id c;have⟨Y,C,WU,nT,D⟩:=u;change et _ _ (Xa (.ref T) >>= _) _ _ s;show b5 (R4 C D ?_);cases e:a[i]? with
 |some j =>
  have g:(a.map λ(j:Nat)=>u6 j).toArray[i]?=bD (u6 j):=by simp[e]
  simp only[g];have h:j<es.size:=x j (mA e);have l:es[j]?=bD (es[j]'h):=by simp[h]
  change et _ _ (Xo S (j:Int).toNat ep >>= _) _ _ s;unfold Xo;rw[Lo];show b5 (b5 (l0 ho rfl m ?_))
  dsimp only
  rw[Zn (by simp)];generalize es[j]'h=p at l;simp only[l];show dV ?_;show b5 (KX d f (by simp) ?_);show dV (z _ _ (v j p e l _ (sr (f':=.ref T) d n f) (wk ..)))
 |none =>
  have g:(a.map λ(j:Nat)=>u6 j).toArray[i]?=cb:=by simp at e ⊢;show e
  simp only[g];show b5 (KX d f (by simp) ?_);have⟨o',G,e2,H⟩:=pq (f':=u6 0) d n f;show b5 (KX (s:={s with heap:=_}) G H (by simp) ?_);show pk (I:=I) (k:=λ_=>pure cb) (Q:=λ_ _=>True) (s:=s) (by simpa using r) λh' hk ex J=>B ex _ J (y e h' λb L q N=>hk b L ?_);rw[Ma _ _ _ _ q,Ma _ _ _ _ q];show N
end
section
def gI.at(x:gI h I f i S n ep)(e:∀o,h.get? I=bD o->h'.get? I=bD o):gI h' I f i S n ep:=let ⟨o,ho,r⟩:=x;⟨o,e _ ho,r⟩
def kl(r:A.handled=cb)(n:S≠I)(u:t.fits es.size=b6)(T:hH)(p:T≠I)(c:List d3)(k:c.length=es.size)
  (first:Nat->d3) (a:Ic->Prop) (l:∀h h',a h->(∀o,h.get? T=bD o->h'.get? T=bD o)->a h')
  (m:∀(s:hh) (i:Nat) (E:d3->hh->Prop) (Q:Option d3->hh->Prop),i<=es.size->a s.heap->gI s.heap I (first i) i S es.size ep->s.heap.get? S=bD (nQ es ep t) ->
   (∀x,c[i]?=bD x->∀h',gI h' I (first (i+1)) (i+1) S es.size ep->nc I s.heap h'->Q (bD x) {s with heap:=h' }) ->
   (c[i]?=cb->∀h',(∀b o,b≠I->s.heap.get? b=bD o->h'.get? b=bD o)->Q cb {s with heap:=h' })->et (hE prog w) A (Q0 (.ref I)) Q E s) :
  Walks prog w A I [I,S,T] [I] es.size (λi v=>c[i]?=bD v) (λi h=>i<=es.size/\gI h I (first i) i S es.size ep/\h.get? S=bD (nQ es ep t)/\a h) where
 sub:=λb d=>by rw[hQ.mp d];simp
 frame:=λi h h' x hk=>⟨x.1,x.2.1.at λo e=>hk I (by simp) o e,hk S (by simp) _ x.2.2.1,l h h' x.2.2.2 λo e=>hk T (by simp) o e⟩
 item:=λi s Q E q x f=>by
  show m s i E Q x.1 x.2.2.2 x.2.1 x.2.2.1 (λv g h' j hs=>?_) λz=>absurd z (by simp;lia);show f v h' s.toks g ⟨q,j,?_,l _ h' x.2.2.2 λo e=>?_⟩ λb o d e=>?_
  .rw[hs.2 S n];show x.2.2.1
  .rw[hs.2 T p];show e
  .rw[hs.2 b λz=>d (by simp[z])];show e
 done:=λs Q E x f=>by
  show m s es.size E Q x.1 x.2.2.2 x.2.1 x.2.2.1 (λv g=>absurd g (by rw[NX ⋯];simp)) λ_ h' hk=>f h' s.toks λb o d e=>hk b o (λz=>d (by simp[z])) e
 self:=λi s Q E x f=>zf x.2.1 f
def nS(ho:s.heap.get? S=bD (nQ es ep t))(a:t.fits es.size=b6)(h:Q (!w.params.followText "set-order"&&(!t.plain&&cL (es.size>1))) s):et (hE prog w) A (setDrawn S) Q E s:=by
 unfold setDrawn;show b5 (l0 ho rfl a ?_)
 dsimp only
 show b5 (cy (dV h))
def nU(a:w.params.followText "set-order"=b6)(ho:s.heap.get? S=bD (nQ es ep t))(b:t.fits es.size=b6)
  (h:Q ((U' (w.params.setOrder S ep) es)[i]?.map λe=>(e.2,0)) s):et (hE prog w) A (TY S 0 i ep) Q E s:=by
 unfold TY;show b5 (l0 ho rfl b ?_)
 dsimp only
 show b5 (cy ?_);change et _ _ (if (w.params.followText "set-order")=b6 then _ else _) _ _ s;rw[Zm a];rw[Zn (by simp)];unfold setWalk;show b5 (b5 (l0 ho rfl b ?_))
 dsimp only
 show b5 (cy ?_);change et _ _ (if (w.params.followText "set-order")=b6 then _ else _) _ _ s;rw[Zm a];show b5 (Om (dV ?_));show dV h
theorem pv(hw:w.params.followText "set-order"=cK)(ho:s.heap.get? S=bD (nQ es ep t))(hf:t.fits es.size=b6)(hl:t.led=b6)(h1:es.size<=1)
    (h:Q (match es[JM t.place slot]?,t.place[JM t.place slot]? with|some (_,x),bD j=>bD (x,j+1)|_,_=>cb) s):et (hE prog w) A (TY S slot i ep) Q E s:=by
  unfold TY;refine b5 (l0 ho rfl hf ?_)
  dsimp only
  refine b5 (cy ?_);show et _ _ (if (w.params.followText "set-order")=b6 then _ else _) _ _ s;rw[Zn (by rw[hw];simp)];show et _ _ (if (!t.plain&&cL (es.size>1))=b6 then _ else _) _ _ s
  rw [if_neg (by have : decide (es.size > 1) = false := decide_eq_false (by lia)
                 rw[this];simp)]
  show et _ _ ((if (!t.led&&!es.isEmpty)=b6 then _ else _) >>= _) _ _ s;rw[Zn (by rw[hl];simp)];exact b5 (dV (dV h))
def pw(es:Array (Int×d3))(a:Array Nat)(i:Nat)(c:es.size<=1)(d:a.size=es.size)(b:i<=es.size):
  (match es[JM a (if i=0 then 0 else(a[0]?).getD 0+1)]?,a[JM a (if i=0 then 0 else(a[0]?).getD 0+1)]? with|some (_,x),bD j=>bD (x,j+1)|_,_=>cb)=es[i]?.map λe=>(e.2,(a[0]?).getD 0+1):=by
 have⟨es⟩:=es;have⟨a⟩:=a
 match es,a,c,d,b with
 |[],[],_,_,b=>simp
 |[e],[p],_,_,b =>
  match i,b with
  |0,_ =>
   have:JM #[p] 0=0:=by simp[JM,Ux]
   simp[this]
  |1,_ =>
   have:JM #[p] (p+1)=1:=by simp[JM,Ux]
   simp[this]
  |n+2,h=>simp at h
 |[],_::_,_,h,_=>simp at h
 |[_],[],_,h,_=>simp at h
 |[_],_::_::_,_,h,_=>simp at h
 |_::_::_,_,h,_,_=>simp at h
def v9(C:B.handled=cb)(hS:aL prog w s.heap S (aC w) D)
  (h:∀(I:hH) (fp:List hH) (n:Nat) (P:Nat->d3->Prop) (St:Nat->Ic->Prop) (ys:List Str) (h':Ic) (d':Drawn),Walks prog w B I fp [I] n P St->ys.Perm D->n=ys.length->(∀i v,P i v->∃x T,ys[i]?=bD x/\v=.str x T)->s.heap.objs.size<=I->(∀b∈fp,b=S\/s.heap.objs.size<=b)->St 0 h' ->
   (∀b o,s.heap.get? b=bD o->h'.get? b=bD o)->Q (.ref I) {s with heap:=h',drawn:=d' }):et (hE prog w) A (Wt (.ref S)) Q E s:=by
 have⟨L,es,ep,t,ho,Hd,Y,GR,a,c,Hh,Hc⟩:=hS;have Sr:s.TypeIs (.ref S) "set":=⟨_,ho,rfl⟩
 have JX:S<s.heap.objs.size:=gc ho;show Ys Sr PySem.F.slot_set_iter (H0 PySem.F.slot_set_iter Sr SI.kh ?_ (PySem.F.args_set_iter_1 _));unfold L0.«frozenset.__iter__» X0 slotArgs;simp only[List.isEmpty_nil,Yp,Jk,↓reduceIte,bind_assoc,Te,bne_self_eq_false];unfold Rc NG;show b5 (dV ?_)
 try dsimp only
 show b5 (dV ?_);show b5 (b5 (Ph ho rfl a (dV ?_)));have UK:D.length=es.size:=by rw[<-Y.length_eq,c4,<-hU,Hd,c4]
 have d:∀(l:List (Int×d3)),l.Perm es.toList->∃ys:List Str,ys.Perm D/\ys.length=es.size/\∀(i:Nat) (v:d3),(l.map (·.2))[i]?=bD v->∃(x:Str) (T:Tok),ys[i]?=bD x/\v=tA x T:=by
  intro l hl;rw[Hd]at hl;have⟨L',e',p'⟩:=c6 hl;show⟨L'.map (·.1),(p'.map _).trans Y,by rw[((p'.map _).trans Y).length_eq,UK],λi v G=>?_⟩;subst e';rw[i0,i8]at G;rw[i8];cases q:L'[i]? with
  |none=>rw[q]at G;simp at G
  |some p=>rw[q]at G;simp at G;show⟨p.1,p.2,rfl,G.symm⟩
 show b5 (nS ho a ?_);cases hw:w.params.followText "set-order" with
 |true =>
  simp only[Yp,Yd,Jk,↓reduceIte];show b5 (dV ?_);show b5 (b5 (l0 ho rfl a (dV ?_)));show b5 (vu ?_);have m:S≠s.heap.objs.size:=hZ JX;have⟨ys,H,J,N⟩:=d (U' (w.params.setOrder S ep) es).toList (dC _ _);have W:=kl (prog:=prog) (w:=w) (A:=B) (I:=s.heap.objs.size) (S:=S) (es:=es) (ep:=ep) (t:=t) C m a S m ((U' (w.params.setOrder S ep) es).toList.map (·.2)) (by rw[c4,(dC _ _).length_eq,hU]) (λ_=>u6 0) (λ_=>True) (λ_ _ _ _=>trivial)
   (λs i E Q _ _ f u k1 k2=>v8 (slot:=0) f u a C (λB E' Q' q=>nU hw u a q) (λx nx e h' O hs=>by
    rw[gj]at e;have⟨p,y,e2⟩:=e;cases e2;show k1 _ (by rw[i8,qk,y];rfl) h' O hs) (λe=>k2 (by rw[i8,qk,PV];rwa [PV]at e)))
  show dV ⟨_,rfl,"set_iterator",_,⟨_,fx _ rfl,rfl⟩,SI.slot_next.lookup,?_⟩;show h _ _ _ _ _ ys _ s.drawn W H J.symm N (ix _) (λb c=>by
   simp only[gs,IW,or_false]at c;rcases c with rfl|rfl|rfl
   .show .inr (ix _)
   .show .inl rfl
   .show .inl rfl) ⟨i3 _,⟨_,fx _ rfl,rfl,rfl⟩,dt _ ho,trivial⟩ λb o e=>dt _ e
 |false =>
  by_cases hsz:es.size>1
  .have Hr:t.plain=cK:=by
    rcases Hc with z|z
    .lia
    .show z
   have y:(!cK&&(!t.plain&&cL (es.size>1)))=b6:=by rw[Hr,Zp hsz];rfl
   rw[y];simp only[↓reduceIte];show b5 (gw _ _ _ _ G0 λg d' hp=>?_);simp only[Y9];have Kt:∀j∈g,j<es.size:=λj hj=>by have:=hp.mem_iff.mp hj;simpa using this
   have Nk:g.length=es.size:=by rw[hp.length_eq];simp
   show b5 (vu ?_ (by
    change(g.map λ(j:Nat)=>u6 j).toArray.size<=_;have:es.size<4096:=c;simp only[hA,c4,Nk];have:(4096:Nat)<=df:=by decide
    lia))
   have Jy:(s.heap.push {cls:=.type "tuple",data:=.seq (g.map λ(j:Nat)=>u6 j).toArray}).get? S=bD (nQ es ep t):=dt _ ho;show b5 (b5 (l0 (s:={s with heap:=_,drawn:=d' }) Jy rfl a (dV ?_)));show b5 (vu ?_);have UL:s.heap.objs.size≠(s.heap.push {cls:=.type "tuple",data:=.seq (g.map λ(j:Nat)=>u6 j).toArray}).objs.size:=by rw[Js];show hZ (L_ _)
   have m:S≠(s.heap.push {cls:=.type "tuple",data:=.seq (g.map λ(j:Nat)=>u6 j).toArray}).objs.size:=by rw[Js];show hZ (PM JX)
   have Lz:(g.map λj=>(es[j]?).getD (0,nH)).Perm es.toList:=by
    show(hp.map _).trans ?_;have:(hW es.size).map (λj=>(es[j]?).getD (0,nH))=es.toList:=by
     apply J_
     .simp
     .intro i h1 h2;simp at h1 ⊢;simp[h1]
    rw[this]
   have⟨ys,H,J,N⟩:=d _ Lz;have W:=kl (prog:=prog) (w:=w) (A:=B) (I:=(s.heap.push {cls:=.type "tuple",data:=.seq (g.map λ(j:Nat)=>u6 j).toArray}).objs.size) (S:=S) (es:=es) (ep:=ep) (t:=t) C m a s.heap.objs.size UL ((g.map λj=>(es[j]?).getD (0,nH)).map (·.2)) (by simp[Nk]) (λ_=>.ref s.heap.objs.size) (λh=>h.IsTuple s.heap.objs.size (g.map λ(j:Nat)=>u6 j).toArray) (λh h' ⟨o,ho,r⟩ k=>⟨o,k _ ho,r⟩)
    (λs' i E Q _ Jp f u k1 k2=>Cj f u a C Jp (λj e ej ee h' O hs=>k1 _ (by rw[i8,i8,ej];simp[ee]) h' O hs) Kt (λe=>k2 (by rw[i8,i8,e];rfl)))
   show dV ⟨_,rfl,"set_iterator",_,⟨_,fx _ rfl,rfl⟩,SI.slot_next.lookup,?_⟩;show h _ _ _ _ _ ys _ d' W H J.symm N (by rw[Js];show JE _) (λb c=>?_) ⟨i3 _,⟨_,fx _ rfl,rfl,rfl⟩,dt _ Jy,⟨_,dt _ (fx _ rfl),rfl,_,rfl⟩⟩ λb o e=>dt _ (dt _ e);rw[Js]at c;simp only[gs,IW,or_false]at c;rcases c with rfl|rfl|rfl
   .show .inr (JE _)
   .show .inl rfl
   .show .inr (ix _)
  .have y:(!cK&&(!t.plain&&cL (es.size>1)))=cK:=by rw[Zo hsz];simp
   rw[y];simp only[Jk,↓reduceIte];show b5 (dV ?_);show b5 (b5 (l0 ho rfl a (dV ?_)));show b5 (vu ?_);have m:S≠s.heap.objs.size:=hZ JX;have UM:t.led=b6:=by rw[Hh];change(!w.params.followText "set-order")=b6;rw[hw];rfl
   have⟨ys,H,J,N⟩:=d es.toList (.refl _);have II:t.place.size=es.size:=by
    unfold Pa at a;simp only[cc,beq_iff_eq]at a;show a.1
   have W:=kl (prog:=prog) (w:=w) (A:=B) (I:=s.heap.objs.size) (S:=S) (es:=es) (ep:=ep) (t:=t) C m a S m (es.toList.map (·.2)) (by simp) (λi=>u6 ((if i=0 then 0 else(t.place[0]?).getD 0+1:Nat):Nat)) (λ_=>True) (λ_ _ _ _=>trivial)
    (λs' i E Q hi _ f u k1 k2=>v8 (slot:=if i=0 then 0 else(t.place[0]?).getD 0+1) f u a C (λB E' Q' q=>pv hw u a UM ⋯ q) (λx nx e h' O hs=>by
     rw[pw es t.place i ⋯ II hi,gj]at e;have⟨p,y,e2⟩:=e;cases e2;show k1 _ (by rw[i8,qk,y];rfl) h' ?_ hs;rw[Zn (Nat.succ_ne_zero i)];show O) (λe=>by
     rw[pw es t.place i ⋯ II hi,PV]at e;show k2 (by rw[i8,qk,e];rfl)))
   show dV ⟨_,rfl,"set_iterator",_,⟨_,fx _ rfl,rfl⟩,SI.slot_next.lookup,?_⟩;show h _ _ _ _ _ ys _ s.drawn W H J.symm N (ix _) (λb c=>by
    simp only[gs,IW,or_false]at c;rcases c with rfl|rfl|rfl
    .show .inr (ix _)
    .show .inl rfl
    .show .inl rfl) ⟨i3 _,⟨_,fx _ rfl,rfl,rfl⟩,dt _ ho,trivial⟩ λb o e=>dt _ e
end
def pz:SW (.type "set") "__len__"=pure (bD (.builtin "set.__len__")):=by rw[Pe,LQ];kernel_rfl
section
theorem km:∀{vs:List d3}{ys:List Str},vs.length=ys.length->(∀(i:Nat) (v:d3),vs[i]?=bD v->∃x t,ys[i]?=bD x/\v=.str x t)->N1 vs ys
 |[],[],_,_=>.nil
 |[],_::_,h,_=>by simp at h
 |_::_,[],h,_=>by simp at h
 |v::vs,y::ys,h,k=>by
  have⟨x,t,a,b⟩:=k 0 v rfl;cases a;subst b;show .cons y t (km (by simpa using h) λi w c=>k (i+1) w c)
def pA(H:A.handled=cb)(J:aL prog w s.heap S (aC w) D)(N:D.length<=df)
  (O:∀(vs:List d3) (ys:List Str) (h':Ic) (d':Drawn) (g:Nat),ys.Perm D->N1 vs ys->s.heap.objs.size<=h'.objs.size->s.toks<=g->(∀b o,s.heap.get? b=bD o->h'.get? b=bD o)->Q vs {s with heap:=h',drawn:=d',toks:=g}) :
  et (hE prog w) A (Xq (.ref S)) Q E s:=by
 have⟨L,es,ep,t,ho,rest⟩:=id J;have T:S<s.heap.objs.size:=gc ho;unfold Xq;show b5 (Wo (JO PySem.F.entry_proto_collect ?_));rw[Lk PySem.F.plain_proto_collect _];change et _ A.in1 (Yw [] >>= λl=>Zd (.builtin "list.__iadd__" ⟨[l,.ref S],[]⟩)) _ _ s;show b5 (vu ?_);show dV ⟨Ql PySem.F.plain_list_iadd _,JO PySem.F.entry_list_iadd ?_⟩;rw[Lk PySem.F.plain_list_iadd _];have d:(s.heap.push {cls:=.type "list",data:=.seq ([]:List d3).toArray}).get? S=bD {cls:=.type "set",dict:=cb,data:=.set es ep t}:=dt _ ho;have Y:Pn {s with heap:=s.heap.push {cls:=.type "list",data:=.seq ([]:List d3).toArray}} (.ref S) "set":=⟨_,d,rfl⟩
 change et _ A.in1 (r6 (.ref s.heap.objs.size) (.ref S) (.ref s.heap.objs.size)) _ _ _;unfold r6;show b5 (TL Y ?_);have h:s.heap.objs.size≠S:=HS T;have h1:Lj (.ref s.heap.objs.size) (.ref S)=cK:=by simp[Lj,h]
 have h2:(vl "set"==vl "list")=cK:=by decide
 have h3:(vl "set"==vl "tuple")=cK:=by decide
 simp only[h1,h2,h3,V9,Jk,if_false];show b5 (v9 (B:=A.in1) (by simpa using H) ⟨L,es,ep,t,d,rest⟩ ?_);intro I fp n P St ys h' d' W j k hP m Qq Gy hk;have f:Pn {s with heap:=h',drawn:=d' } (.ref S) "set":=⟨_,hk _ _ d,rfl⟩
 show b5 (tr ?_);unfold RW;show b5 (Rv f pz ?_);have Ir:splitId "set.__len__"=bD ("set","__len__"):=by decide +kernel
 dsimp only
 rw[Ir]
 dsimp only
 show b5 (MO f TX ?_);rw[Zn (by decide)];rw[Zm (by decide +kernel)];show b5 (TL f ?_);show dV ?_;rw[Zm (by decide +kernel)];have p:s.heap.objs.size∉fp:=λa=>by
  rcases Qq _ a with z|z
  .show h z
  .rw[Js]at z;show absurd z (Nat.not_succ_le_self _)
 have q:h'.get? s.heap.objs.size=bD {cls:=.type "list",data:=.seq ([]:List d3).toArray}:=hk _ _ (fx _ rfl);show b5 (Md ?_);show b5 ?_;change et _ A.in1 (YL s.heap.objs.size (·.push .none) >>= λ_=>YL s.heap.objs.size (·.pop)) _ _ _;show b5 (Pd q rfl ?_);have r:=ts (p7 (·.push nH)) q rfl;show Pd r rfl ?_;have UN:=ts (p7 (·.pop)) r rfl;have u:∀b o,b≠s.heap.objs.size->h'.get? b=bD o->((h'.update s.heap.objs.size (p7 (·.push nH))).update s.heap.objs.size (p7 (·.pop))).get? b=bD o :=
  λb o c e=>(Kr _ _ (ro c)).trans ((Kr _ _ (ro c)).trans e)
 show dV ⟨Ql PySem.F.plain_extend_loop _,XU W.toS (by rw[k,j.length_eq];show N) _ p _ n 0 _ _ _ rfl (i3 _) (W.frame 0 h' _ Gy λb c o e=>u b o (λz=>p (z▸c)) e) UN (X9 P) λs' Hi c' a x y=>?_⟩;change et _ A (load s.heap.objs.size >>= _) _ _ s';show b5 (Ye x ?_);have⟨Ox,g2,C,UO,UP⟩:=s';have eg:g2=s.gens:=a.gens;have ed:C=d':=a.drawn;have eo:UP=s.os:=a.os;subst eg;subst ed;subst eo;show dV (O _ ys Ox C UO j (km (by rw[hU,y.1,k]) λi v hv=>hP i v (y.2 i v (by rwa [qk]at hv))) (Nt (gc x)) a.toks λb o e=>?_);have G:b≠s.heap.objs.size:=λz=>by rw[z]at e;show absurd (gc e) (uv _)
 show a.heap b o (λz=>?_) (u b o G (hk _ _ (dt _ e)));rcases gs.mp z with z|z
 .show G z
 .rw[hQ.mp z]at e;have:=gc e;rw[Js]at m;show absurd (i9 this (t4 (JE _) m)) (uv _)
end
section
def Inv.drawn(I:Inv X a σ H s)(d:Drawn):Inv X a σ H {s with drawn:=d}:=⟨I.ok,I.os,I.bare,I.base,I.loc,I.cell,I.free,I.Ha,I.pin,I.Gu,I.len⟩
def nV(j:X.calm=b6)(I:Inv X c σ H s)(hq:G2 X.K H p (ys.map V.str)\/Hb X.K H p (ys.map V.str))(g:ys.length+1<GL)
  (h:∀(S:hH) (h':Ic) (a:Nat),aL X.prog X.w h' S (aC X.w) (aA ys)->Inv X c σ H {s with heap:=h',toks:=a}->Q (.ref S) {s with heap:=h',toks:=a}) :
  et (hE X.prog X.w) X.A (MR (.type "set") [.ref p]) Q X.xe s:=by
 have i:X.A.handled=cb:=I.ok.hd j;rcases hq with hq|hq
 .have⟨l,rv,d,hz⟩:=I.list hq;show fD i d.isList (cw rv) g λh' a f k=>h _ h' a f (I.kept λb o e=>k b o (gc e) e)
 .have⟨l,rv,d,hz⟩:=I.tuple hq;show gu i d (cw rv) g λh' a f k=>h _ h' a f (I.kept λb o e=>k b o (gc e) e)
def gx(i:X.calm=b6)(I:Inv X a σ H s)(j:aL X.prog X.w s.heap S (aC X.w) D)(d:D.length<64)
  (q:∀p,H p=cb->Q (.ref p) (upd H p (.lst ((aH D).map V.str)))):et (hE X.prog X.w) X.A (MR (.builtin "sorted") [.ref S]) (EP X a σ Q) X.xe s:=by
 have k:X.A.handled=cb:=I.ok.hd i;have hl:D.length<=df:=Nt (i9 d (by decide));show eX (pA (A:=X.A.in1) (by simpa using k) j hl λvs ys h' d' b f g hsz n hk=>⟨ys,g,by rw[ic g,f.length_eq];show d,λr l e k2 c s2=>?_⟩);rw[fC f]at s2;have m:Inv X a σ H {s with heap:=h',toks:=b}:=I.kept (t':=b) hk;have h:Inv X a σ H {s with heap:=h',drawn:=d',toks:=b}:=m.drawn d';show⟨.ref h'.objs.size,_,h.laid (t':=b) (o:=.lst ((aH D).map V.str)) k2 (ix _) ⟨by rw[c4,bZ];show hl,l,e,du s2,c⟩,rfl,q _ (h.Gu.fresh (ix _))⟩
def qL(I:Inv X a σ H s)(c:aL X.prog X.w s.heap S (aC X.w) D)
  (q:Q (.int D.length) H):et (hE X.prog X.w) X.A (MR (.builtin "len") [.ref S]) (EP X a σ Q) X.xe s:=by
 have⟨L,es,ep,t,ho,d,g,j,h,i,k,l⟩:=c;have b:es.size=D.length:=by rw[<-hU,d,c4,<-c4 (f:=Ya) (as:=L),g.length_eq]
 have m:es.size<4096:=i;show call_len_set ho ⟨rfl,rfl,rfl⟩ rfl h ⋯ ?_;show⟨.int es.size,_,I.kept (t':=s.toks+1+1) (λ_ _ e=>e),⟨_,rfl⟩,by rw[b];show q⟩
end
end L2
namespace L2
open PySem
abbrev dE(mask:Nat):Nat->Nat×Nat->Nat×Nat
 |0,q=>q
 |t+1,q=>dE mask t (Xs mask q.1 q.2)
theorem mj(mask:Nat):∀(a b:Nat) (q:Nat×Nat),dE mask (a+b) q=dE mask b (dE mask a q)
 |0,b,q=>by rw[Nq];rfl
 |a+1,b,q=>by rw[show a+1+b=(a+b)+1 by lia];show mj mask a b _
theorem mn(mask:Nat):∀(t:Nat) (q:Nat×Nat),(dE mask t q).2=q.2 / 32 ^ t
 |0,q=>by simp[dE]
 |t+1,q=>by
  change(dE mask t (Xs mask q.1 q.2)).2=_;rw[mn mask t];change q.2 / 32 / 32 ^ t=_;rw[Nat.div_div_eq_div_mul,Wy,Nat.mul_comm]
theorem pB(mask:Nat):∀(t:Nat) (q:Nat×Nat),q.1<mask+1->(dE mask t q).1<mask+1
 |0,q,h=>h
 |t+1,q,h=>pB mask t _ (Vm _ (Wx _))
abbrev JZ(m:Nat):Nat->Nat->Nat
 |0,i=>i
 |t+1,i=>JZ m t ((i * 5+1) % m)
theorem mq(mask:Nat):∀(t i:Nat),dE mask t (i,0)=(JZ (mask+1) t i,0)
 |0,i=>rfl
 |t+1,i=>by
  change dE mask t ((i * 5+1+0 / 32) % (mask+1),0 / 32)=(JZ (mask+1) t ((i * 5+1) % (mask+1)),0)
  rw[Nat.zero_div,YV];show mq mask t _
theorem jL(m:Nat):∀(a b i:Nat),JZ m (a+b) i=JZ m b (JZ m a i)
 |0,b,i=>by rw[Nq];rfl
 |a+1,b,i=>by rw[show a+1+b=(a+b)+1 by lia];show jL m a b _
abbrev uo(m:Nat):Nat->Nat->List Nat
 |0,_=>[]
 |t+1,i=>i::uo m t ((i * 5+1) % m)
theorem su(m:Nat):∀(n i t:Nat),t<n->(uo m n i)[t]?=bD (JZ m t i)
 |0,_,_,h=>by lia
 |n+1,i,0,_=>rfl
 |n+1,i,t+1,h=>by
  change(uo m n ((i * 5+1) % m))[t]?=_;show su m n _ t ⋯
theorem pC(m:Nat):∀(n i:Nat),(uo m n i).length=n
 |0,_=>rfl
 |n+1,i=>by change(uo m n _).length+1=_;rw[pC m n]
abbrev Full(m:Nat):Bool:=(hW m).all (λj=>(uo m m 0).contains j)&&(JZ m m 0==0)
def A9:Full 8=b6:=by decide +kernel
def v_:Full 16=b6:=by decide +kernel
def wa:Full 32=b6:=by decide +kernel
def wb:Full 64=b6:=by decide +kernel
def sv:Full 128=b6:=by decide +kernel
def uq(h:Full m=b6)(l:i<m)(n:j<m):∃t,t<m/\JZ m t i=j:=by
 unfold Full at h;rw[cc,mx]at h;have⟨o,d⟩:=h;have d:JZ m m 0=0:=by simpa using d
 have get:∀k,k<m->∃a,a<m/\JZ m a 0=k:=λk hk=>by
  have:=o k (va.mpr hk);rw[List.contains_iff_mem]at this;have⟨a,c⟩:=Qs.mp this;have e:a<m:=by have:=(eh.mp c).1;rw[pC]at this;show this
  rw[su m m 0 a e]at c;show⟨a,e,by simpa using c⟩
 have⟨a,c,f⟩:=get i l;have⟨b,p,g⟩:=get j n;by_cases q:a<=b
 .show⟨b - a,⋯,by rw[<-f,<-jL,show a+(b - a)=b by lia,g]⟩
 .show⟨m - a+b,⋯,?_⟩;rw[<-f,<-jL,show a+(m - a+b)=m+b by lia,jL,d,g]
theorem mr:∀(f i p:Nat),u4 mask owner f i p=cb->∀t,t<f->(owner.getD (dE mask t (i,p)).1 (bD 0)).isNone=cK
 |0,_,_,_,t,h=>by lia
 |f+1,i,p,h,t,b=>by
  unfold u4 at h;cases a:(hW (Ss mask i+1 - i)).find? (λk=>(owner.getD (i+k) (bD 0)).isNone) with
  |some k=>rw[a]at h;cases h
  |none =>
   rw[a]at h;cases t with
   |zero =>
    have:=List.find?_eq_none.mp a 0 (va.mpr (by unfold Ss;split<;>lia));rw[YV]at this;change(owner.getD i (bD 0)).isNone=cK;cases e:(owner.getD i (bD 0)).isNone with
    |false=>rfl
    |true=>show absurd e this
   |succ t=>show mr f _ _ h t ⋯
theorem mw:∀(f i p j:Nat),u4 mask owner f i p=bD j->owner[j]?=bD cb
 |0,_,_,_,h=>by cases h
 |f+1,i,p,j,h=>by
  unfold u4 at h;cases b:(hW (Ss mask i+1 - i)).find? (λk=>(owner.getD (i+k) (bD 0)).isNone) with
  |some k =>
   rw[b]at h;cases h;have a:=List.find?_some b;have c:i+k<owner.size:=by
    show Lp λz=>?_;have:owner.getD (i+k) (bD 0)=bD 0:=by simp[RY,z]
    rw[this]at a;cases a
   have d:owner.getD (i+k) (bD 0)=owner[i+k]:=by simp[RY,c]
   rw[d]at a;rw[L9 c];cases e:owner[i+k] with
   |none=>rfl
   |some _=>rw[e]at a;cases a
  |none =>
   rw[b]at h;show mw f _ _ j h
def zg(c:Full (mask+1)=b6){j0:Nat}(a:owner[j0]?=bD cb)(hsz:owner.size=mask+1)(d:i<mask+1)(f:p<2 ^ 64):∃j,u4 mask owner (N6 mask) i p=bD j/\owner[j]?=bD cb:=by
 cases e:u4 mask owner (N6 mask) i p with
 |some j=>show⟨j,rfl,mw _ _ _ _ e⟩
 |none =>
  have g:j0<mask+1:=by rw[<-hsz];show(Array.getElem?_eq_some_iff.mp a).1
  have h:(dE mask 13 (i,p)).2=0:=by
   rw[mn];show Nat.div_eq_of_lt (Sy f (by decide))
  have⟨t,n,k⟩:=uq c (pB mask 13 (i,p) d) g;have l:dE mask (13+t) (i,p)=(j0,0):=by
   rw[mj,show dE mask 13 (i,p)=((dE mask 13 (i,p)).1,0) from Yb rfl h,mq,k]
  have:=mr _ _ _ e (13+t) (by unfold N6;lia);rw[l]at this;have m:owner.getD j0 (bD 0)=cb:=by
   have b:j0<owner.size:=by lia
   rw[L9 b]at a;simp[RY,b];show td a
  rw[m]at this;cases this
abbrev vals(L:List (Option Nat)):List Nat:=L.filterMap id
theorem pD:∀{L:List (Option Nat)}{j:Nat},L[j]?=bD cb->(vals (L.set j (bD k))).Perm (k::vals L)
 |[],j,h=>by simp at h
 |x::L,0,h=>by
  have:x=cb:=by simpa using h
  subst this;show JI _
 |x::L,j+1,h=>by
  have a:=pD (k:=k) (L:=L) (j:=j) (by simpa using h);cases x with
  |none=>show a
  |some y =>
   change(y::vals (L.set j (bD k))).Perm (k::y::vals L);show(W4 y a).trans (WZ k y _)
theorem mz:∀{L:List (Option Nat)},(vals L).length<L.length->∃j:Nat,L[j]?=bD cb
 |[],h=>by simp at h
 |none::L,_=>⟨0,rfl⟩
 |some y::L,h=>by
  have⟨j,a⟩:=mz (L:=L) (by
   have:(vals L).length+1<L.length+1:=h;lia)
  show⟨j+1,by simpa using a⟩
theorem wc(d:Full (mask+1)=b6):∀(hs:List Int) (owner:Array (Option Nat)) (k:Nat),owner.size=mask+1->(vals owner.toList).Perm (hW k)->k+hs.length<=mask ->
  ∃c,hs.foldl (λacc h=>do
   let (owner,k) <-acc
   let j <-u4 mask owner (N6 mask) (LY h % (mask+1)) (LY h)
   pure (owner.setIfInBounds j (bD k),k+1)) (bD (owner,k))=bD (c,k+hs.length)/\c.size=mask+1/\(vals c.toList).Perm (hW (k+hs.length))
 |[],owner,k,a,b,_=>⟨owner,rfl,a,b⟩
 |h::hs,owner,k,a,b,f=>by
  rw[js]at f;have⟨j0,g⟩:=mz (L:=owner.toList) (by rw[b.length_eq,G0,hU];lia);have⟨j,e,l⟩:=zg d (owner:=owner) (j0:=j0) (by rw[<-qk];show g) a (i:=LY h % (mask+1)) (p:=LY h) (Vm _ (Wx _)) (by unfold LY;lia);have m:owner.toList[j]?=bD cb:=by rw[qk];show l
  have n:(vals (owner.setIfInBounds j (bD k)).toList).Perm (hW (k+1)):=by
   rw[Array.toList_setIfInBounds,X6];show(pD m).trans ((W4 k b).trans (List.perm_append_singleton k _).symm)
  have⟨o',o,q,r⟩:=wc d hs (owner.setIfInBounds j (bD k)) (k+1) (by rw[Array.size_setIfInBounds];show a) n ⋯;show⟨o',?_,q,by rw[show k+(h::hs).length=k+1+hs.length by simp;lia];show r⟩;rw[Qo,show k+(h::hs).length=k+1+hs.length by simp;lia,<-o];congr 1
  change(u4 mask owner (N6 mask) (LY h % (mask+1)) (LY h)).bind _=_;rw[e];rfl
def qM(L:List (Option Nat)):(hW L.length).filterMap (λj=>L.getD j cb)=vals L:=by
 have h:(hW L.length).map (λj=>L.getD j cb)=L:=by
  apply J_
  .simp
  .intro i b a;simp[L6,a]
 have a:vals ((hW L.length).map (λj=>L.getD j cb))=vals L:=Zq vals h;unfold vals at a;rw[List.filterMap_map]at a;show a
def sy{led plain:Bool}(e:Full (mask+1)=b6)(f:hs.size<=mask):∃t a,QF mask finger moves led plain hs=bD (t,a)/\t.fits hs.size=b6/\t.led=led/\t.plain=plain/\t.mask=mask/\t.dummies=#[]/\a.toList.Perm (hW hs.size):=by
 have⟨owner,c,g,b⟩:=wc e hs.toList (Array.replicate (mask+1) cb) 0 (by simp) (by
  have:∀n:Nat,vals (i6 n cb)=[]:=λn=>by
   induction n with
   |zero=>rfl
   |succ n h=>rw[List.replicate_succ];show h
  rw[Array.toList_replicate,this];show JI _) (by rw[hU];lia)
 rw[Nq,hU]at c b;have i:O7 mask hs=bD owner:=by
  unfold O7;rw[<-Array.foldl_toList];rw[c];rfl
 have k:((hW (mask+1)).filterMap λj=>owner.getD j cb)=vals owner.toList:=by
  rw[<-qM,hU,g];congr 1
  funext j
  simp only[Array.getD_eq_getD_getElem?,U0,qk]
 have d:(((hW (mask+1)).filterMap λj=>(owner.getD j cb).map (j,·)).map (·.2))=vals owner.toList:=by
  rw[<-k,List.map_filterMap];congr 1
  funext j
  cases owner.getD j cb<;>rfl
 have hl:((hW (mask+1)).filterMap λj=>(owner.getD j cb).map (j,·)).length=hs.size:=by
  have:=Zq DD d;rw[c4,b.length_eq,G0]at this;show this
 show⟨_,_,by unfold QF;rw[i];rfl,?_,rfl,rfl,rfl,rfl,?_⟩
 .unfold Pa S3;simp only[hA,c4,hl];simp;show f
 .change(((hW (mask+1)).filterMap λj=>(owner.getD j cb).map (j,·)).map (·.2)).Perm _;rw[d];show b
end L2
namespace L2
open PySem PySem.Spec PyProof.Rows
abbrev Cm(P:wh)(w:G1)(p:Str×Tok):Int×d3:=((sK P w).hash p.1,tA p.1 p.2)
section
def aL.perm(b:aL prog w h a led D)(p:D.Perm c):aL prog w h a led c :=
 let ⟨L,es,ep,t,d,e,f,g,i⟩:=b;⟨L,es,ep,t,d,e,f.trans p,p.nodup_iff.mp g,i⟩
def aL.at(b:aL prog w h a led D)(k:∀o,h.get? a=bD o->h'.get? a=bD o):aL prog w h' a led D :=
 let ⟨L,es,ep,t,c,d⟩:=b;⟨L,es,ep,t,k _ c,d⟩
def aL.sz{h:Ic}{a:hH}{led:Bool}{D:List Str}{L:List (Str×Tok)}{es:Array (Int×d3)}(b:es.toList=L.map (λp=>((sK prog w).hash p.1,tA p.1 p.2)))(c:(L.map (·.1)).Perm D):es.size=D.length:=by
 rw[<-hU,b,c4,<-c.length_eq,c4]
def aL.of(g:aL prog w h a led D):h.SetOf (sK prog w) a (λx=>cL (x∈D)) D.length:=by
 have⟨L,es,ep,t,ho,b,d,l,i,j,m,n⟩:=g;show⟨_,es,ep,t,ho,⟨rfl,rfl,rfl⟩,rfl,by rw[b];show kb,λx=>?_,j,i,aL.sz (h:=h) (a:=a) (led:=led) b d⟩;rw[Zl,b,<-d.mem_iff,i7];constructor
 .rintro⟨p,c,e⟩;show⟨_,i7.mpr ⟨p,c,rfl⟩,by rw[gr];simp[e]⟩
 .rintro⟨e,k,f⟩;have⟨p,c,rfl⟩:=i7.mp k;rw[gr,Zl]at f;show⟨p,c,f.symm⟩
def pE(b:aL prog w s.heap a led D)(h:∀r:Option Nat,r.isSome=cL (x∈D)->Q r s):
  et (hE prog w) A (setFind a (.str x c) ((sK prog w).hash x)) Q E s :=
 wpAny_setFind_of (knd:=sK prog w) (by rw[gr];simp) rfl b.of h
def eC{L':List (Str×Tok)}(ho:s.heap.get? a=bD {cls:=.type "set",dict:=cb,data:=.set es ep t})(f:b.toList=L'.map (λp=>((sK prog w).hash p.1,tA p.1 p.2)))(g:(L'.map (·.1)).Perm c)(i:c.Nodup)
  (j:t'.fits b.size=b6) (d:b.size<GL) (hl:t'.led=led) (k:b.size=0\/t'.plain=cK) (h:∀h',nc a s.heap h'->h'.get? a=bD {cls:=.type "set",dict:=cb,data:=.set b (ep+1) t' }->aL prog w h' a led c->Q () {s with heap:=h' }) :
  et (hE prog w) A (storeSet a b t') Q E s:=by
 show TN ho rfl ?_ (T_ d);have e:(s.heap.update a (M1 b t')).get? a=bD {cls:=.type "set",dict:=cb,data:=.set b (ep+1) t' }:=ts (M1 b t') ho rfl;show h _ (wk s.heap a (M1 b t')) e ⟨L',b,ep+1,t',e,f,g,i,j,d,hl,k⟩
def eZ(xs:Array α)(i:Nat):(Ni xs i).toList=xs.toList.eraseIdx i:=by
 unfold Ni;rw[Array.toList_append,WB,WB,List.eraseIdx_eq_take_drop_succ];simp[List.extract];rw[Kv (by simp)]
def ur{t:Mn}(h:t.fits n=b6)(e:i<n):(t.drop i).fits (n - 1)=b6:=by
 simp only[Pa,cc,beq_iff_eq,Zl]at h;have⟨f,b⟩:=h;have a:i<t.place.size:=by lia
 have c:(Ni t.place i).size=t.place.size - 1:=by
  rw[<-hU,eZ,WJ,Zm (by simpa using a),hU]
 have d:∀p x,(SetTable.insertAt t.dummies p x).size=t.dummies.size+1:=λp x=>by
  have:=(SetTable.insertAt_perm t.dummies p x).length_eq;rw[hU,hU,Array.size_push]at this;show this
 unfold Xt;rw[L9 a];simp only[Pa,S3,cc,beq_iff_eq,Zl,c,d]at b ⊢;constructor<;>lia
def we(t:Mn)(i:Nat):(t.drop i).led=t.led/\(t.drop i).plain=t.plain:=by
 unfold Xt;split<;>show⟨rfl,rfl⟩
theorem erase_filter:∀{l:List Str}{j:Nat}{x:Str},l.Nodup->l[j]?=bD x->l.eraseIdx j=l.filter λy=>cL (y≠x)
 |[],j,x,_,h=>by simp at h
 |y::l,0,x,a,h=>by
  have⟨b,c⟩:=mh.mp a;have:y=x:=by simpa using h
  subst this;rw[List.eraseIdx_cons_zero,M9 (by simp)];show(Mb.mpr λz hz=>by
   have:z≠y:=λe=>b (e▸hz);simpa using this).symm
 |y::l,j+1,x,a,h=>by
  have⟨b,c⟩:=mh.mp a;have d:l[j]?=bD x:=by simpa using h
  have:y≠x:=λe=>b (e▸mA d);rw[P4,erase_filter c d,M3 (by simpa using this)]
theorem fE(f:α->β):∀(l:List α) (j:Nat),(l.map f).eraseIdx j=(l.eraseIdx j).map f
 |[],_=>rfl
 |x::l,0=>rfl
 |x::l,j+1=>by
  change f x::(l.map f).eraseIdx j=f x::(l.eraseIdx j).map f;rw[fE f l j]
def pF{a:hH}{led:Bool}{D:List Str}{x:Str}{k:Tok}{Q:Bool->hh->Prop}(l:aL prog w s.heap a led D)(h:∀b h',nc a s.heap h'->aL prog w h' a led (D.filter λy=>cL (y≠x))->Q b {s with heap:=h' }):
  et (hE prog w) A (YN a (.str x k) ((sK prog w).hash x)) Q E s:=by
 have u:=l;have⟨L,es,ep,t,ho,c,d,m,f,v,B,C⟩:=l;have G:(sK prog w).is x (.str x k)=b6:=by rw[gr];simp
 have n:ElemsOf (sK prog w) es.toList:=by rw[c];show kb
 have hsz:=aL.sz (h:=s.heap) (a:=a) (led:=led) c d;unfold YN setFind setFindIn;show b5 (b5 (l0 ho rfl f ?_))
 dsimp only
 rw[byScan_of (knd:=sK prog w) rfl v n];simp only[↓reduceIte];show b5 (Md ?_);show b5 (YI (knd:=sK prog w) G ho rfl f n ?_);cases o:V2 (λe=>(sK prog w).is x e.2) es.toList with
 |none =>
  dsimp only
  show dV (dV ?_);have g:x∉D:=λg=>by
   rw[<-d.mem_iff,i7]at g;have⟨p,H,e⟩:=g;have I:((sK prog w).hash p.1,tA p.1 p.2)∈es.toList:=by rw[c];show i7.mpr ⟨p,H,rfl⟩
   have:=Vn.mp o _ I;rw[gr,decide_eq_false_iff_not]at this;show this e.symm
  have e:D.filter (λy=>cL (y≠x))=D:=Mb.mpr λz hz=>by
   have:z≠x:=λe=>g (e▸hz);simpa using this
  have J:s={s with heap:=s.heap}:=by cases s;rfl
  rw[J];show h cK s.heap (Hw a s.heap) (by rw[e];show u)
 |some j =>
  dsimp only
  obtain⟨i,q,_⟩:=Sb.mp o;rw[Nq];show dV ?_
  dsimp only
  show b5 (l0 ho rfl f ?_)
  dsimp only
  have N:j<L.length:=by rw[c,c4]at i;show i
  have O:j<es.size:=by simpa using i
  have T:L[j].1=x:=by
   have e:es.toList[j]=((sK prog w).hash L[j].1,tA L[j].1 L[j].2):=by simp[c]
   rw[e,gr,Zl]at q;show q.symm
  have Y:(L.map (·.1)).Nodup:=d.nodup_iff.mpr m;have UW:(L.eraseIdx j).map (·.1)=(L.map (·.1)).filter λy=>cL (y≠x):=by
   rw[<-erase_filter Y (j:=j) (by simp[N,T]),fE]
  have Qt:(Ni es j).toList=(L.eraseIdx j).map (λp=>((sK prog w).hash p.1,tA p.1 p.2)):=by
   rw[eZ,c,fE]
  have r:(Ni es j).size=es.size - 1:=by rw[<-hU,eZ,WJ,Zm i,hU]
  have⟨d1,d2⟩:=we t j;show b5 (eC (t':=t.drop j) (led:=led) ho Qt (by rw[UW];show d.filter _) (V7 IB m) (by rw[r];show ur f O) (by rw[r];lia) (d1.trans B) (.inr (d2.trans (C.resolve_left ⋯))) λh' sb hg HN=>?_);show b5 (wpAny_point ?_);show dV (h b6 h' sb HN)
end
def zh:Full 256=b6:=by decide +kernel
section
def ie{es:Array (Int×d3)}{a:Array Nat}(h:a.toList.Perm (hW es.size)):(a.filterMap (es[·]?)).toList.Perm es.toList:=by
 rw[Array.toList_filterMap];show(h.filterMap _).trans (by rw[filterMap_getElem?_range])
def mB{L:List (Str×Tok)}(ho:s.heap.get? a=bD {cls:=.type "set",dict:=cb,data:=.set es ep t})(n:es.toList=L.map (λp=>((sK prog w).hash p.1,tA p.1 p.2)))(o:(L.map (·.1)).Perm D)(q:D.Nodup)
  (r:t.fits es.size=b6) (u:es.size<GL) (i:t.led=led) (v:es.size=0\/t.plain=cK) (j:IT c=m+1) (x:Full (m+1)=b6) (y:es.size<=m) (Y:m<1000)
  (h:∀h' (d:Array (Int×d3)) (t':Mn) (z:Nat),nc a s.heap h'->h'.get? a=bD {cls:=.type "set",dict:=cb,data:=.set d z t' }->aL prog w h' a led D->t'.fits d.size=b6->t'.mask=m->t'.dummies=#[]->t'.led=led->d.size=es.size->Q () {s with heap:=h' }) :
  et (hE prog w) A (setRelay a c) Q E s:=by
 have B:(2000:Nat)<=df:=by decide
 have⟨t',b,C,f,k,G,H,I,l⟩:=sy (mask:=m) (finger:=t.finger) (moves:=t.movedTo m) (led:=t.led) (plain:=t.plain) (hs:=es.map (·.1)) x (by rw[O9];show y);rw[O9]at f l;have e:t.relaid (es.map (·.1)) c=bD (t',b):=by
  unfold Su;rw[j,Nat.add_sub_cancel];show C
 unfold setRelay;show b5 (l0 ho rfl r ?_)
 dsimp only
 rw[Zn (by rw[j];lia)];show b5 ?_;rw[e];change et (hE prog w) A (if ((b.filterMap (es[·]?)).size != es.size)=b6 then((Vr "internal:set-table-lost-an-element":Sem Unit) >>= λ_=>pure (b.filterMap (es[·]?),t')) else pure (b.filterMap (es[·]?),t')) _ E s;have g:=ie l;have hsz:(b.filterMap (es[·]?)).size=es.size:=by rw[<-hU,g.length_eq,hU]
 rw[Zn (by rw[hsz];simp)];show dV ?_;rw[n]at g;have⟨L',J,N⟩:=c6 g;show eC (led:=led) ho J ((N.map _).trans o) q (by rw[hsz];show f) (by rw[hsz];show u) (k.trans i) (by rw[hsz,G];show v) λh' O T hs=>h h' _ t' _ O T hs (by rw[hsz];show f) H I (k.trans i) hsz
def wg(b:5<=n)(a:n<64):∃m,IT (2 * n)=m+1/\Full (m+1)=b6/\n<=m/\m<1000:=by
 have:∀n:_root_.Fin 64,IT (2 * n.val)=(if n.val<4 then 8 else if n.val<8 then 16 else if n.val<16 then 32 else if n.val<32 then 64 else 128):=by decide +kernel
 have e:=this ⟨n,a⟩
 dsimp only at e
 rw[e,Zn ⋯];split
 .show⟨15,rfl,v_,⋯,⋯⟩
 .split
  .show⟨31,rfl,wa,⋯,⋯⟩
  .split
   .show⟨63,rfl,wb,⋯,⋯⟩
   .show⟨127,rfl,sv,⋯,⋯⟩
def uu(a:n<64):∃m,IT (Lg n)=m+1/\Full (m+1)=b6/\n<=m/\m<1000:=by
 have:∀n:_root_.Fin 64,IT (Lg n.val)=(if n.val<2 then 8 else if n.val<4 then 16 else if n.val<8 then 32 else if n.val<16 then 64 else if n.val<32 then 128 else 256):=by decide +kernel
 have e:=this ⟨n,a⟩
 dsimp only at e
 rw[e];split
 .show⟨7,rfl,A9,⋯,⋯⟩
 .split
  .show⟨15,rfl,v_,⋯,⋯⟩
  .split
   .show⟨31,rfl,wa,⋯,⋯⟩
   .split
    .show⟨63,rfl,wb,⋯,⋯⟩
    .split
     .show⟨127,rfl,sv,⋯,⋯⟩
     .show⟨255,rfl,zh,⋯,⋯⟩
def wj{a:hH}{led:Bool}{D:List Str}{Q:Unit->hh->Prop}(b:aL prog w s.heap a led D)(p:D.length<64)(h:∀h',nc a s.heap h'->aL prog w h' a led D->Q () {s with heap:=h' }):
  et (hE prog w) A (setTidy a) Q E s:=by
 have f:=b;have⟨L,es,ep,t,ho,c,d,g,e,i,j,k⟩:=b;have hsz:=aL.sz (h:=s.heap) (a:=a) (led:=led) c d;unfold setTidy;show b5 (l0 ho rfl e ?_)
 dsimp only
 split
 .have⟨m,m1,m2,m3,m4⟩:=uu (n:=es.size) ⋯;show mB ho c d g e i j k m1 m2 m3 m4 λh' _ _ _ l _ hs _ _ _ _ _=>h h' l hs
 .have o:s={s with heap:=s.heap}:=by cases s;rfl
  show dV ?_;rw[o];show h s.heap (Hw a s.heap) f
def uw{a b:hH}{es:Array (Int×d3)}{D:List Str}{Q:Unit->hh->Prop}(x:a≠b)(ho:s.heap.get? a=bD {cls:=.type "set",dict:=cb,data:=.set #[] 0 (.fresh 0 0 (aC w))})(y:aL prog w s.heap b (aC w) D)(IH:D.length<64)
  (h:∀h',nc a s.heap h'->aL prog w h' a (aC w) D->Q () {s with heap:=h' }):et (hE prog w) A (setMerge a b) Q E s:=by
 have My:=y;have⟨L,f,UY,g,B,n,o,C,G,H,Np,Qu⟩:=y;have hsz:=aL.sz (h:=s.heap) (a:=b) (led:=aC w) n o;have p:(Xe 0 0 (aC w)).fits (#[]:Array (Int×d3)).size=b6:=rfl;unfold setMerge;rw[Zn (by simpa using x)];show b5 (l0 B rfl G ?_)
 dsimp only
 split
 .rename_i Qv;have hD:D=[]:=by
   have:f.size=0:=by simpa using Qv
   show List.eq_nil_of_length_eq_zero ⋯
  subst hD;have q:s={s with heap:=s.heap}:=by cases s;rfl
  show dV ?_;rw[q];show h s.heap (Hw a s.heap) (gG ho)
 .rename_i Hj;have Qw:f.size≠0:=λz=>Hj (by simpa using z);show b5 ?_;unfold setRoomFor;show b5 (l0 ho rfl p ?_)
  dsimp only
  show tj (Q:=λ_ s1=>∃(i:Ic) (c:Mn) (I:Nat) (l:Array (Int×d3)),s1={s with heap:=i}/\l.size=0/\nc a s.heap i/\i.get? a=bD {cls:=.type "set",dict:=cb,data:=.set l I c}/\c.fits l.size=b6/\Full (c.mask+1)=b6/\f.size<=c.mask/\c.dummies=#[]/\c.led=aC w) ?_ (λ_ s1 ⟨i,c,I,l,e,z,j,k,J,hF,r,Qx,hl⟩=>?_) λ_ _ e=>e
  .unfold SetTable.roomFor;by_cases h5:5<=f.size
   .rw[Zm (by change(0+f.size) * 5 >= 7 * 3;lia)]
    dsimp only
    have⟨m,m1,m2,m3,m4⟩:=wg h5 ⋯;have ew:((Xe 0 0 (aC w)).place.size+f.size) * 2=2 * f.size:=by change(0+f.size) * 2=_;lia
    rw[ew];show mB (L:=[]) (D:=[]) (led:=aC w) ho rfl (JI _) .nil p (by decide) rfl (.inl rfl) m1 m2 (by change 0<=m;lia) m4 λh' Gn t' Kl j k _ Qa N hd hl hz=>⟨h',t',Kl,Gn,rfl,hz,j,k,Qa,by rw[N];show m2,by rw[N];show m3,hd,hl⟩
   .rw[Zn (by change ¬(0+f.size) * 5 >= 7 * 3;lia)]
    dsimp only
    have q:s={s with heap:=s.heap}:=by cases s;rfl
    show dV ⟨s.heap,_,0,#[],q,rfl,Hw a s.heap,ho,p,A9,by change f.size<=7;lia,rfl,rfl⟩
  .subst e;show b5 (l0 k rfl J ?_)
   dsimp only
   have Qy:c.place.size=0:=by
    simp only[Pa,cc,beq_iff_eq]at J;lia
   have Nr:c.road g=if c.mask==g.mask&&g.dummies.isEmpty then .slotForSlot else .clean:=by
    unfold SetTable.road S3;rw[Qy,Qx];rfl
   have UZ:i.get? b=bD {cls:=.type "set",dict:=cb,data:=.set f UY g}:=(j.2 b (ro x)).trans B;have O:(c.plain&&g.plain)=cK:=by rw[Qu.resolve_left Qw,QX]
   have T:(c.led&&g.led)=aC w:=by rw[hl,Np,Yr]
   rw[Nr];by_cases Y:(c.mask==g.mask&&g.dummies.isEmpty)=b6
   .rw[Zm Y]
    dsimp only
    show eC (s:={s with heap:=i}) (led:=aC w) (L':=L) (t':={g with finger:=c.finger,led:=c.led&&g.led,moves:=c.moves,plain:=c.plain&&g.plain}) k n o C G H T (.inr O) λh' t _ hs=>h h' (j.trans t) hs
   .rw[Zn Y]
    dsimp only
    have⟨t',d,q1,q2,q3,q4,q5,q6,q7⟩:=sy (mask:=c.mask) (finger:=c.finger) (moves:=c.moves) (led:=c.led&&g.led) (plain:=c.plain&&g.plain) (hs:=f.map (·.1)) hF (by rw[O9];show r);rw[O9]at q2 q7;show b5 ?_;rw[q1];change et (hE prog w) A (if ((d.filterMap (f[·]?)).size != f.size)=b6 then((Vr "internal:set-table-lost-an-element":Sem Unit) >>= λ_=>pure (d.filterMap (f[·]?),t')) else pure (d.filterMap (f[·]?),t')) _ E _;have u:=ie q7;have v:(d.filterMap (f[·]?)).size=f.size:=by rw[<-hU,u.length_eq,hU]
    rw[Zn (by rw[v];simp)];show dV ?_;rw[n]at u;have⟨L',e',p'⟩:=c6 u;show eC (s:={s with heap:=i}) (led:=aC w) k e' ((p'.map _).trans o) C (by rw[v];show q2) (by rw[v];show H) (q3.trans T) (.inr (q4.trans O)) λh' t _ hs=>h h' (j.trans t) hs
end
section
theorem gJ:∀{l:List α},(∀x∈l,∀Q':ForInStep β->hh->Prop,Q' (.yield b) s->et M A (body x b) Q' E s)->Q b s->et M A (YH l b body) Q E s
 |[],_,h=>by rw[Yc];show dV h
 |x::l,a,h=>by
  rw[Tf];show b5 (a x (by simp) _ (gJ (λy c=>a y (by simp[c])) h))
def uA(hs:∀b∈sets,∃led D,aL prog w s.heap b led D)(h:Q b6 s):et (hE prog w) A (setsQuiet sets) Q E s:=by
 unfold setsQuiet;show b5 (gJ (λb c Q' d=>?_) (dV h));have⟨led,D,L,es,ep,t,f,g,k,l,i,m,n,o⟩:=hs b c;show b5 (Ph f rfl i ?_);rw[<-RZ];show b5 (gJ (λe a q j=>?_) (dV d));rw[g]at a;obtain⟨p,_,rfl⟩:=i7.mp a;show dV j
def pG(l:aL prog w s.heap a (aC w) D)(ho:∀b∈others,∃led B,aL prog w s.heap b led B)(m:∀r,f=bD r->aL prog w s.heap r (aC w) [])
  (h:∀(es:Array (Int×d3)) (L:List (Str×Tok)) (h':Ic),es.toList=L.map (Cm prog w)->(L.map (·.1)).Perm D->(f=cb->h'=s.heap)->(∀r,f=bD r->nc r s.heap h'/\aL prog w h' r (aC w) [])->Q es {s with heap:=h' }) :
  et (hE prog w) A (setWalkUnseen a others f) Q E s:=by
 have C:=l;have⟨L,es,ep,t,j,n,o,GR,k,hb,G,H⟩:=l;have I:s={s with heap:=s.heap}:=by cases s;rfl
 have c:∀(d:Array (Int×d3)),d.toList.Perm es.toList->Q d s:=λd p=>by
  rw[n]at p;have⟨L',J,N⟩:=c6 p;rw[I];show h d L' s.heap J ((N.map _).trans o) (λ_=>rfl) λr e=>⟨Hw r s.heap,m r e⟩
 unfold setWalkUnseen;show b5 (l0 j rfl k ?_)
 dsimp only
 show b5 (cy ?_);cases g:w.params.followText "set-order" with
 |true =>
  rw[Zm (by change(w.params.followText "set-order"||t.led&&t.plain||decide (es.size<=1))=b6;rw[g];rfl)];unfold setWalk;show b5 (l0 j rfl k ?_)
  dsimp only
  show b5 (cy ?_);rw[Zm (by show g)];show b5 (Om ?_);show dV (c _ (dC _ _))
 |false =>
  by_cases q:es.size<=1
  .rw[Zm (by rw[Zp q];simp)];unfold setWalk;show b5 (l0 j rfl k ?_)
   dsimp only
   show b5 (cy ?_);rw[Zn (by change ¬w.params.followText "set-order"=b6;rw[g];simp)];change et _ _ (if (!t.plain&&cL (es.size>1))=b6 then _ else _) _ _ s;rw[Zn (by rw[Zo (show ¬es.size>1 by lia)];simp)];change et _ _ ((if (!t.led&&cL (es.size>1))=b6 then _ else _) >>= _) _ _ s;rw[Zn (by rw[Zo (show ¬es.size>1 by lia)];simp)];show b5 (dV (dV (c es (JI _))))
  .have O:t.plain=cK:=H.resolve_left ⋯;rw[Zn (by change ¬(w.params.followText "set-order"||t.led&&t.plain||decide (es.size<=1))=b6;rw[g,O,Zo q];simp)];show b5 (uA (λb HM=>by
    rcases gs.mp HM with rfl|HM
    .show⟨_,_,C⟩
    .show ho b HM) ?_)
   rw[Zn (by simp)];show b5 (Md ?_);cases f with
   |none=>show dV (c es (JI _))
   |some r =>
    dsimp only
    have⟨Lr,T,WW,i,u,v,x,Y,y,U1,Nu,U2⟩:=m r rfl;show b5 (l0 u rfl y ?_)
    dsimp only
    have Oy:T.size=0:=by
     have:=aL.sz (h:=s.heap) (a:=r) (led:=aC w) v x;simpa using this
    split
    .show b5 (eC (t':={i with led:=i.led&&t.led,plain:=i.plain&&t.plain}) (led:=aC w) u v x Y y U1 (by change(i.led&&t.led)=_;rw[Nu,G,Yr]) (.inl Oy) λh' sb _ hs=>?_);show dV (h es L h' n o (λz=>nomatch z) λr' e=>by cases e;show⟨sb,hs⟩)
    .show dV (c es (JI _))
end
section
variable{prog:wh}{w:G1}{A:LU}{E:d3->hh->Prop}{s:hh}
theorem iS(J:List (Str×Tok)->hh->Prop)(a:∀d p r s,d++p::r=L->J d s->∀Q':ForInStep PUnit->hh->Prop,(∀s',J (d++[p]) s'->Q' (.yield ⟨⟩) s')->et M A (body (Cm prog w p) ⟨⟩) Q' E s)(b:∀s',J L s'->Q ⟨⟩ s'):
  ∀(r d:List (Str×Tok)) (s:hh),d++r=L->J d s->et M A (YH (r.map (Cm prog w)) ⟨⟩ body) Q E s
 |[],d,s,e,h=>by
  rw[ri]at e;subst e;rw[IV,Yc];show dV (b s h)
 |p::r,d,s,e,h=>by
  rw[eH,Tf];show b5 (a d p r s e h _ λs' h'=>iS J a b r (d++[p]) s' (by rw[<-e];simp) h')
def aL.ty(h:aL prog w s.heap a led D):s.TypeIs (.ref a) "set":=let ⟨_,_,_,_,ho,_⟩:=h;⟨_,ho,rfl⟩
def fU(b:aL prog w s.heap a led D)(h:Q b6 s):et (hE prog w) A (HI (.ref a)) Q E s:=by
 unfold HI;show b5 (MO b.ty TX ?_);show dV h
def ig{a:hH}{led:Bool}{D:List Str}{Q:Nat->hh->Prop}(b:aL prog w s.heap a led D)(h:Q D.length s):et (hE prog w) A (NG a) Q E s:=by
 obtain⟨L,es,ep,t,ho,c,d,f,e,_⟩:=b;unfold NG;show b5 (Ph ho rfl e (dV ?_));rw[aL.sz (h:=s.heap) (a:=a) (led:=led) c d];show h
def pH(b:aL prog w s.heap a led D)(h:Q (.type "set") s):et (hE prog w) A (Rb a) Q E s:=by
 unfold Rb;show b5 (MO b.ty TX ?_);show dV h
def sA(h:Q (.ref s.heap.objs.size) {s with heap:=s.heap.push {cls:=.type "set",dict:=cb,data:=.set #[] 0 (.fresh 0 0 (aC w))}}):et (hE prog w) A (newSet (.type "set")) Q E s:=by
 unfold newSet Yh;show b5 (b5 (Om (dV ?_)))
 dsimp only
 simp only[newObj];show b5 (wpAny_alloc (dV h))
def wm{a:hH}{D:List Str}{Q:d3->hh->Prop}(b:aL prog w s.heap a (aC w) D)(c:D.length<64)(h:∀h',nc s.heap.objs.size (s.heap.push {cls:=.type "set",dict:=cb,data:=.set #[] 0 (.fresh 0 0 (aC w))}) h'->aL prog w h' s.heap.objs.size (aC w) D->Q (.ref s.heap.objs.size) {s with heap:=h' }):
  et (hE prog w) A (Q_ a) Q E s:=by
 unfold Q_;show b5 (pH b (b5 (sA ?_)));show b5 (dV ?_);have d:s.heap.objs.size≠a:=λe=>by obtain⟨_,_,_,_,ho,_⟩:=b;show uv _ (e▸gc ho)
 show b5 (uw (es:=#[]) (s:={s with heap:=s.heap.push {cls:=.type "set",dict:=cb,data:=.set #[] 0 (.fresh 0 0 (aC w))}}) d (fx _ rfl) (b.at λo e=>dt _ e) c λh' f hs=>?_);show dV (h h' f hs)
def kq{id:String}(ho:s.heap.get? a=bD {cls:=.type "set",dict:=cb,data:=.set es ep t})(b:t.fits es.size=b6)(h:Q () s):et (hE prog w) A (Qr id a ep) Q E s:=by
 unfold Qr;show b5 (TR ho rfl b ?_);rw[Zn (by simp)];show dV h
def wo{id:String}(v:a≠b)(o:aL prog w s.heap a (aC w) g)(j:aL prog w s.heap b (aC w) q)(B:g.length<64)(i:q.length<=g.length)
  (h:∀h',nc a s.heap h'->aL prog w h' a (aC w) (g.filter λx=>cL (x∉q))->Q () {s with heap:=h' }):et (hE prog w) A (PD id a (.ref b)) Q E s:=by
 unfold PD;rw[Zn (by simpa using ro v)];show b5 (fU j ?_);rw[Zm rfl];show b5 (dV ?_);show b5 (ig j (b5 (ig o ?_)));rw[Zn ⋯];have⟨L2,I,J,N,y,O,T,Y,z,Sa,SA,U4⟩:=_root_.id j;show b5 (TR y rfl z ?_);show b5 (tr ?_);show b5 (pG j (others:=[a]) (f:=cb) (λc C=>by rw[hQ.mp C];show⟨_,_,o⟩) (λr e=>nomatch e) λes L h0 D G t _=>?_);have t:=t rfl;subst t;rw[<-RZ,D];show b5 (iS (prog:=prog) (w:=w) (L:=L) (λd s'=>∃h',s'={s with heap:=h' }/\nc a s.heap h'/\aL prog w h' a (aC w) (g.filter λx=>cL (x∉d.map (·.1)))) (λd p r s' ed ⟨h',u,k,l⟩ Q' H=>?_) (λs' ⟨h',u,k,l⟩=>?_) L [] _ rfl ⟨s.heap,by cases s;rfl,Hw a s.heap,by rw[Mb.mpr λx _=>by simp];show o⟩)
 .subst u;show b5 (tr (pF (s:={s with heap:=h' }) l λb' i m n=>?_));show b5 (kq (s:={s with heap:=i}) (((k.trans m).2 b (ro v)).trans y) z ?_);show dV (H _ ⟨i,rfl,k.trans m,?_⟩);rw[Xl]at n;have e:(g.filter λx=>cL (x≠p.1)&&cL (x∉d.map (·.1)))=g.filter λx=>cL (x∉(d++[p]).map (·.1)):=by
   show PH λx _=>?_;rw[G7];simp[not_or,and_comm]
  rw[<-e];show n
 .subst u;show dV ?_;have e:(g.filter λx=>cL (x∉L.map (·.1)))=g.filter λx=>cL (x∉q):=by
   show PH λx _=>?_;rw[G7];simp only[Zl];rw[G.mem_iff]
  rw[e]at l;show wj (s:={s with heap:=h' }) l (XC (lg _ _) B) λi m n=>h i (k.trans m) n
def wq{id:String}(HP:a≠b)(l:aL prog w s.heap a (aC w) m)(j:aL prog w s.heap b (aC w) g)(D:m.length<64)(k:g.length<64)
  (h:∀h',(∀c o,s.heap.get? c=bD o->h'.get? c=bD o)->aL prog w h' s.heap.objs.size (aC w) (m.filter λx=>cL (x∉g))->Q (.ref s.heap.objs.size) {s with heap:=h' }):et (hE prog w) A (MT id a (.ref b)) Q E s:=by
 have keep:∀h',nc s.heap.objs.size (s.heap.push {cls:=.type "set",dict:=cb,data:=.set #[] 0 (.fresh 0 0 (aC w))}) h'->∀c o,s.heap.get? c=bD o->h'.get? c=bD o:=λh' i c o e =>
  (i.2 c (hZ (gc e))).trans (dt _ e)
 have G:a<s.heap.objs.size:=by obtain⟨_,_,_,_,ho,_⟩:=l;show gc ho
 have v:b<s.heap.objs.size:=by obtain⟨_,_,_,_,ho,_⟩:=j;show gc ho
 unfold MT
 dsimp only
 show b5 (fU j ?_);rw[Zn (by simp)];show b5 (dV ?_);rw[Zn (by simp),Zm rfl];show b5 (ig j (b5 (ig l ?_)));by_cases H:m.length / 4>g.length
 .rw[Zm H];show b5 (Md ?_);show b5 (wm l D λh' i hs=>?_);show b5 (dV ?_);show b5 (tr (wo (s:={s with heap:=h' }) (HS v) hs (j.at λo e=>keep h' i b o e) D ⋯ λk n t=>?_));show dV (h k (keep k (i.trans n)) t)
 .rw[Zn H];show b5 (pH l (b5 (sA ?_)));show b5 (dV ?_);have I:=l.at (h':=s.heap.push {cls:=.type "set",dict:=cb,data:=.set #[] 0 (.fresh 0 0 (aC w))}) λo e=>dt _ e;have So:=j.at (h':=s.heap.push {cls:=.type "set",dict:=cb,data:=.set #[] 0 (.fresh 0 0 (aC w))}) λo e=>dt _ e;have J:aL prog w (s.heap.push {cls:=.type "set",dict:=cb,data:=.set #[] 0 (.fresh 0 0 (aC w))}) s.heap.objs.size (aC w) []:=gG (fx _ rfl);have⟨La,ea,U5,ta,N,SF,W0,QA,y,W2,SG,U6⟩:=_root_.id I;show b5 (TR N rfl y ?_);show b5 (tr ?_);rw[Zm rfl];show b5 (pG (s:={s with heap:=s.heap.push {cls:=.type "set",dict:=cb,data:=.set #[] 0 (.fresh 0 0 (aC w))}}) I (others:=[b,s.heap.objs.size]) (f:=bD s.heap.objs.size) (λc hc=>by
   rcases gs.mp hc with rfl|hc
   .show⟨_,_,So⟩
   .rw[hQ.mp hc];show⟨_,_,J⟩) (λr e=>by cases e;show J) λes L h0 he B _ e0=>?_)
  have⟨U7,OA⟩:=e0 _ rfl;rw[<-RZ,he];have U8:L.length=m.length:=by rw[<-B.length_eq,c4]
  show b5 (iS (prog:=prog) (w:=w) (L:=L) (λd s'=>∃h',s'={s with heap:=h' }/\nc s.heap.objs.size (s.heap.push {cls:=.type "set",dict:=cb,data:=.set #[] 0 (.fresh 0 0 (aC w))}) h'/\aL prog w h' s.heap.objs.size (aC w) ((d.map (·.1)).filter λx=>cL (x∉g))) (λd p r s' O ⟨h',C,i,u⟩ Q' T=>?_) (λs' ⟨h',C,i,u⟩=>?_) L [] _ rfl ⟨h0,rfl,U7,OA⟩)
  .subst C;have Y:(L.map (·.1)).Nodup:=B.nodup_iff.mpr QA;have U9:p.1∉d.map (·.1):=λz=>by
    rw[<-O,ki,qs]at Y;show Y.2.2 p.1 z p.1 (by simp) rfl
   have U_:aL prog w h' b (aC w) g:=j.at λo e=>keep h' i b o e;have SH:h'.get? a=bD {cls:=.type "set",dict:=cb,data:=.set ea U5 ta}:=(i.2 a (hZ G)).trans N;have JG:d.length<64:=by have:=Zq DD O;simp at this;lia
   show b5 (tr ?_);rw[Zm rfl];show b5 (pE (s:={s with heap:=h' }) U_ λr hr=>?_);show b5 (dV ?_);have em:((d++[p]).map (·.1)).filter (λx=>cL (x∉g))=(d.map (·.1)).filter (λx=>cL (x∉g))++if p.1∈g then [] else [p.1]:=by
    rw[ki,KQ];congr 1
    by_cases z:p.1∈g<;>simp[z]
   by_cases z:p.1∈g
   .rw[Zn (by rw[hr,Zp z];simp)];show dV ?_;show b5 (kq (s:={s with heap:=h' }) SH y ?_);show dV (T _ ⟨h',rfl,i,?_⟩);rw[em,Zm z,ri];show u
   .rw[Zm (by rw[hr,Zo z];rfl)];show b5 (kg (s:={s with heap:=h' }) u (by
     have:((d.map (·.1)).filter λx=>cL (x∉g)).length<=d.length:=t4 (lg _ _) (by simp);have Jw:GL=4096:=rfl;lia) λk n t=>?_)
    show dV ?_;show b5 (kq (s:={s with heap:=k}) ((n.2 a (hZ G)).trans SH) y ?_);show dV (T _ ⟨k,rfl,i.trans n,?_⟩);rw[em,Zn z];rw[Zn (λq=>U9 (ko.mp q).1)]at t;show t
  .subst C;show dV ?_;show dV (h h' (keep h' i) (u.perm ?_));show B.filter _
end
def lI:XT table "set.__sub__"=bD L0.«frozenset.__sub__» :=
 Wu (id':="frozenset.__sub__") (by kernel_rfl) rfl (by decide +kernel) (by kernel_rfl)
section
def zi(n:a≠b)(g:aL prog w s.heap a (aC w) j)(i:aL prog w s.heap b (aC w) k)(p:j.length<64)(q:k.length<64)
  (h:∀h',(∀c o,s.heap.get? c=bD o->h'.get? c=bD o)->aL prog w h' s.heap.objs.size (aC w) (j.filter λx=>cL (x∉k))->Q (.ref s.heap.objs.size) {s with heap:=h' }):et (hE prog w) A (Mh .Sub (.ref a) (.ref b)) Q E s:=by
 show wpAny_binaryOp_same (T:="set") g.ty i.ty PySem.F.fills_set_sub PySem.F.slot_set_sub (H0 PySem.F.slot_set_sub g.ty lI ?_ (PySem.F.args_set_sub_2 _ _));unfold L0.«frozenset.__sub__»;change et (hE prog w) _ (do
  let x <-RF "__sub__" ⟨[.ref a,.ref b],[]⟩
  match x with
  |(self,f) =>
   match if cK=b6 then(f,self) else(self,f) with
   |(l,r)=>do
    let c <-HI l <&&> HI r
    if (!c)=b6 then do
      YO (Qz "frozenset."++Qz "__sub__"++Qz ".declined")
      ret Value.notImplemented
     else do
      let d <-Rc l
      let e <-MT (Qz "frozenset."++Qz "__sub__") d r
      ret e) _ _ _
 show b5 (m:=RF "__sub__" ⟨[.ref a,.ref b],[]⟩) (dV (a:=(kr a,kr b)) ?_)
 dsimp only
 show b5 (b5 (fU g ?_));change et _ _ (HI (.ref b)) _ _ _;show fU i ?_;rw[Zn (by simp)];show b5 (dV ?_);show b5 (wq n g i p q λh' hk hs=>?_);show dV ⟨_,rfl,(λz=>by cases z),h h' hk hs⟩
end
section
def qN(m:X.calm=b6)(I:Inv X a σ H s)(hq:G2 X.K H p (ys.map V.str)\/Hb X.K H p (ys.map V.str))(i:ys.length+1<GL)
  (h:∀(S:hH) (o:Obj) (s1:hh),s.heap.objs.size<=S->s1.heap.get? S=bD o->aL X.prog X.w s1.heap S (aC X.w) (aA ys)->Inv X ((S,o)::a) σ H s1->Q (.ref S) s1) :
  et (hE X.prog X.w) X.A (MR (.type "set") [.ref p]) Q X.xe s:=by
 have j:X.A.handled=cb:=I.ok.hd m;have f:∀(h':Ic) (c:Nat),aL X.prog X.w h' s.heap.objs.size (aC X.w) (aA ys)->(∀b o,b<s.heap.objs.size->s.heap.get? b=bD o->h'.get? b=bD o)->Q (.ref s.heap.objs.size) {s with heap:=h',toks:=c}:=λh' c d k=>by
  have⟨L,es,ep,t,ho,r⟩:=_root_.id d;have l:Inv X a σ H {s with heap:=h',toks:=c}:=I.kept λb o e=>k b o (gc e) e;show h _ _ _ (ix _) ho d (l.dW λq hq=>?_);rcases gs.mp hq with rfl|hq
  .show⟨ho,I.Gu.fresh (ix _),HS I.lt,I.BJ (ix _),λv z=>nomatch z⟩
  .show l.pin q (kj _ hq)
 rcases hq with hq|hq
 .have⟨n,rv,g,hz⟩:=I.list hq;show fD j g.isList (cw rv) i λh' c d k=>f h' c d k
 .have⟨n,rv,g,hz⟩:=I.tuple hq;show gu j g (cw rv) i λh' c d k=>f h' c d k
end
def qO:SW (.type "list_reverseiterator") "__len__"=pure cb:=by rw[Pe,LQ];kernel_rfl
def wt:SW (.type "list_reverseiterator") "__length_hint__"=pure (bD (.builtin "list_reverseiterator.__length_hint__")):=by rw[Pe,LQ];kernel_rfl
def nW:Vc (.type "list_reverseiterator") (.type "list_reverseiterator")=pure b6:=by rw[PN];kernel_rfl
section
variable{I:hH}{fp wr:List hH}{G:Array XX->Array XX->Prop}{n:Nat}{P:Nat->d3->Prop}{St:Nat->hh->Prop}
def qP(W:Yj prog w A.in1 I fp wr G n P St)(c:∀i s,St i s->s.TypeIs (.ref I) "list_reverseiterator")(S:hH)(res:d3)(j:Nat)(a:St 0 s)(h:S∉fp)(k:I∈fp)
  (l:s.heap.get? S=bD {cls:=.type "list",data:=.seq #[] j})
  (m:∀s' d b,Moved (S::wr) G s s'->s'.heap.get? S=bD {cls:=.type "list",dict:=cb,data:=.seq d b,slots:=#[]}->YC P d n->R (.ok (.ret res)) s') (o:n<=df) :
  et (hE prog w) A.in1 (r6 (.ref S) (.ref I) res)
   (λg s'=>match g with|.done f=>R (.ok f) s'|.again b=>b.quiet=b6/\OU (hE prog w) A b R s') (λe s'=>R (.error e) s') s:=by
 have p:S≠I:=λe=>h (e▸k);unfold r6;show b5 (TL (c 0 _ a) ?_);have q:Lj (.ref S) (.ref I)=cK:=by simp[Lj,p]
 have r:(vl "list_reverseiterator"==vl "list")=cK:=by decide
 have t:(vl "list_reverseiterator"==vl "tuple")=cK:=by decide
 simp only[q,r,t,V9,Jk,if_false];show b5 (W.self 0 _ _ _ a ?_);show b5 (tr ?_);unfold RW;show b5 (Rv (c 0 _ a) qO ?_);change et _ A.in1 (specialOf (kr I) (O2 "__length_hint__") >>= _) _ _ _;show b5 (Rv (c 0 _ a) wt ?_);have u:splitId "list_reverseiterator.__length_hint__"=bD ("list_reverseiterator","__length_hint__"):=by decide +kernel
 dsimp only
 rw[u]
 dsimp only
 show b5 (MO (c 0 _ a) nW ?_);rw[Zn (by decide)];rw[Zm (by decide +kernel)];rw[Zn (by decide +kernel)];show dV ?_;rw[Zn (by decide +kernel)];show dV ⟨Ql PySem.F.plain_extend_loop _,XU W o _ h _ n 0 _ _ _ rfl (i3 _) a l (X9 P) λs' d b v x y=>?_⟩;show m s' d b v x y
def lJ(W:Yj prog w A.in1 I fp wr G n P St)(p:∀i s,St i s->s.TypeIs (.ref I) "list_reverseiterator")(S:hH)(q:St 0 s)(l:S∉fp)(r:I∈fp)
  (g:s.heap.get? S=bD {cls:=.type "list",data:=.seq #[]})
  (t:∀s' d a,Moved (S::wr) G s s'->s'.heap.get? S=bD {cls:=.type "list",dict:=cb,data:=.seq d a,slots:=#[]}->YC P d n->R (.ok (.ret .none)) s') (u:n<=df) :
  et (hE prog w) A.in1 (L0.«list.__init__» ⟨[.ref S,.ref I],[]⟩)
   (λj s'=>match j with|.done f=>R (.ok f) s'|.again a=>a.quiet=b6/\OU (hE prog w) A a R s') (λe s'=>R (.error e) s') s:=by
 change et _ A.in1 (do let k <-SE (.ref S);Y1 (.ref S) (λ_=>#[]);letGo k.toList.reverse;r6 (.ref S) (.ref I) .none) _ _ s;show b5 ?_;unfold SE;show b5 (R4 g rfl (dV ?_));change et _ A.in1 (YL S (λ_=>#[]) >>= λ_=>letGo (#[]:Array d3).toList.reverse >>= λ_=>r6 (.ref S) (.ref I) .none) _ _ s;show b5 (Pd g rfl ?_);have v:=ts (p7 (λ_=>(#[]:Array d3))) g rfl;have m:∀b o,b≠S->s.heap.get? b=bD o->(s.heap.update S (p7 (λ_=>(#[]:Array d3)))).get? b=bD o :=
  λb o c e=>(Kr _ _ (ro c)).trans e
 show b5 (wpAny_letGo ?_);show qP W p S .none _ (W.frame 0 s _ s.toks q (ix _) λb c o e=>m b o (λh=>l (h▸c)) e) l r v (λs' d a x y z=>?_) u;show t s' d a (YB W.gtrans ((Moved.refl W.grefl).then_heap (ix _) λb o c e=>m b o (λh=>c (h▸rr)) e) x) y z
def pI(W:Yj prog w A.in1.in1 I fp wr G n P St)(h:∀i s,St i s->s.TypeIs (.ref I) "list_reverseiterator")(j:St 0 s)(k:∀b∈fp,b<s.heap.objs.size)(l:I∈fp)
  (m:∀s' a c,Moved (s.heap.objs.size::wr) G {s with heap:=s.heap.push {cls:=.type "list",data:=.seq #[]}} s' ->
   s'.heap.get? s.heap.objs.size=bD {cls:=.type "list",dict:=cb,data:=.seq a c,slots:=#[]}->YC P a n->Q (.ref s.heap.objs.size) s') (p:n<=df) :
  et (hE prog w) A (MR (.type "list") [.ref I]) Q E s:=by
 have q:s.heap.objs.size∉fp:=λd=>uv _ (k _ d);show callType_codes (Q₁:=λobj f=>obj=.ref s.heap.objs.size/\f={s with heap:=s.heap.push {cls:=.type "list",data:=.seq #[]}}) PySem.F.called_list (PySem.F.typeCall_list_1 _) PySem.F.entry_list_init
  (code_list_new _ ⟨rfl,rfl⟩) λobj f r=>?_
 have⟨rfl,rfl⟩:=r;have g:(s.heap.push {cls:=.type "list",data:=.seq #[]}).get? s.heap.objs.size=bD {cls:=.type "list",data:=.seq #[]}:=fx _ rfl;show⟨⟨_,g,rfl⟩,PySem.F.args_list_init_2 _ _,lJ W h _ (W.frame 0 s _ s.toks j (ix _) λb _ o e=>dt _ e) q l g (λs' a c d t u=>?_) p⟩;show⟨rfl,m s' a c d t u⟩
open AutoSeq1 (wpAny_loadPart') in
end
section
def ij(a:s.heap.IsTupleIter it l i)
  (hl:s.heap.IsTuple l b) (d:b[i]?=bD x)
  (e:∀h',h'.IsTupleIter it l (i+1)->nc it s.heap h'->Q x {s with heap:=h' }) :
  et (hE prog w) A (H8 (.ref it)) Q E s:=by
 have⟨o,ho,f,c⟩:=id a;obtain⟨j,g,_,k,h⟩:=hl;unfold H8;show b5 (Nw (name:=O2 "__next__") a.typeIs PySem.F.slot_tuple_iterator_next
  (H0 PySem.F.slot_tuple_iterator_next a.typeIs PySem.F.entry_tuple_iterator_next ?_ (PySem.F.args_tuple_iterator_next_1 _)))
 change et _ _ (Y' (.ref it) 0 >>= _) _ _ s;show b5 (R9 ho c (x:=.ref l) rfl ?_);change et _ _ (if (kr l==nH)=b6 then _ else _) _ _ s;rw[Zn (show ¬((kr l==nH)=b6) from ke)];change et _ _ (Y' (.ref it) 1 >>= _) _ _ s;show b5 (R9 ho c (x:=.int i 0) rfl ?_);change et _ _ (Xa (.ref l) >>= _) _ _ s;show b5 (R4 g h ?_);simp only[Lo,d];show b5 (KX ho c (by simp) (dV ⟨x,rfl,dV (e _ ?_ (wk ..))⟩));show⟨_,ts _ ho (QH (K2 c _)),(Sx ..).trans f,by
  rw[K2 c];simp[u6]⟩
def eD(f:A.handled=cb)
  (b:s.heap.IsTupleIter it l i) (hl:s.heap.IsTuple l c) (g:c[i]?=cb)
  (h:∀h' e,YR it s.heap h'->(∃o,h'.get? e=bD o/\o.cls=.type "StopIteration")->E (.ref e) {s with heap:=h' }) :
  et (hE prog w) A (H8 (.ref it)) Q E s:=by
 have⟨o,ho,n,d⟩:=id b;obtain⟨p,j,_,q,k⟩:=hl;unfold H8;show b5 (Nw (name:=O2 "__next__") b.typeIs PySem.F.slot_tuple_iterator_next
  (H0 PySem.F.slot_tuple_iterator_next b.typeIs PySem.F.entry_tuple_iterator_next ?_ (PySem.F.args_tuple_iterator_next_1 _)))
 change et _ _ (Y' (.ref it) 0 >>= _) _ _ s;show b5 (R9 ho d (x:=.ref l) rfl ?_);change et _ _ (if (kr l==nH)=b6 then _ else _) _ _ s;rw[Zn (show ¬((kr l==nH)=b6) from ke)];change et _ _ (Y' (.ref it) 1 >>= _) _ _ s;show b5 (R9 ho d (x:=.int i 0) rfl ?_);change et _ _ (Xa (.ref l) >>= _) _ _ s;show b5 (R4 j k ?_);simp only[Lo,g];show b5 (Md (b5 (KX ho d (by simp) ?_)));change et _ _ (Xp (.type "StopIteration") [] >>= _) _ _ _;show b5 ?_;simp only[Xp,Y9];show b5 (vu ?_ (by size_fits));show b5 (m:=R' _ _) (Vp (a:=nH) (by first|rfl|(simp only[R'];rfl)) ?_);show vu ?_ (by size_fits);simp only[Wr];show b5 (wpAny_handled ?_)
 first|rw[show A.in1.handled=cb from f]|rw[f]
 show b5 (dV (wpAny_throw ?_));show h _ _ (((wk ..).extBut.push _).push _) ⟨_,fx _ rfl,rfl⟩
end
def pJ(d:A.handled=cb)(it l:hH)(f:l≠it)(a:Array d3):
  Draws prog w A it [it,l] a.size (λi v=>a[i]?=bD v) (λi h=>h.IsTupleIter it l i/\h.IsTuple l a) where
 live:=λ_ _ st=>let ⟨o,ho,_⟩:=st.1;⟨o,ho⟩
 frame:=λ_ _ _ st hk=>⟨st.1.at λo e=>hk it (by simp) o e,let ⟨o,ho,r⟩:=st.2;⟨o,hk l (by simp) o ho,r⟩⟩
 item:=λi s Q E b st g=>by
  show ij st.1 st.2 (x:=a[i]) (by simp[b]) λh' j c=>?_;show g _ h' s.toks (by simp[b]) ⟨j,let ⟨o,ho,r⟩:=st.2;⟨o,(c.2 l f).trans ho,r⟩⟩ c
 done:=λs Q E st k=>eD d st.1 st.2 (by simp) k
open AutoSeq1 (wpAny_loadPart') in
def ku(l:hH)(a:Array d3)(n:Nat)(e:Option hH)(f:Array (Option d3)):
  Meets (L0.«enumerate.__new__» ⟨[.type "enumerate",.ref l],[]⟩) (λ_ R s=>s.heap.get? l=bD {cls:=.type "tuple",dict:=e,data:=.seq a n,slots:=f} /\
   R (.ok (.ret (.ref (s.heap.push {cls:=.type "tuple_iterator",data:=.fields #[.ref l,.int 0 0]}).objs.size)))
    {s with heap:=(s.heap.push {cls:=.type "tuple_iterator",data:=.fields #[.ref l,.int 0 0]}).push {cls:=.type "enumerate",data:=.fields #[.none,.bool cK,.ref s.heap.objs.size,u6 0,.none,.none]}}) :=
 .of_wp λprog w A R s h=>by
  have⟨i,g,d,j,os⟩:=s;have⟨hl,h⟩:=h;have k:=sub_enumerate;have b:Heap.IsTuple (Shared.heap ⟨i,g,d,j,os⟩) l a:=⟨_,hl,rfl,n,rfl⟩
  wp_walk using Rw hl
  show wpAny_stack_any λst=>dV ?_;split
  .rename_i c _ _ _ _ _;cases(c==vl "enumerate")
   .wp_walk using Rw hl,Nj b
    show⟨_,rfl,h⟩
   .wp_walk using Rw hl,Nj b
    show⟨_,rfl,h⟩
  .wp_walk using Rw hl,Nj b
   show⟨_,rfl,h⟩
section
def fF(g:s.heap.IsTuple l a)
  (h:∀h',Xv h' (s.heap.objs.size+1) s.heap.objs.size 0 .none->h'.IsTupleIter s.heap.objs.size l 0->h'.objs.size=s.heap.objs.size+2 ->
   (∀b o,s.heap.get? b=bD o->h'.get? b=bD o)->Q (.ref (s.heap.objs.size+1)) {s with heap:=h' }) :
  et (hE prog w) A (MR (.type "enumerate") [.ref l]) Q E s:=by
 obtain⟨⟨c,i,j,k⟩,hl,d,n,e⟩:=g
 replace d:c=.type "tuple":=d
 replace e:j=.seq a n:=e
 subst d e;show callType_new PySem.F.called_enumerate (by decide) (PySem.F.typeCall_enumerate_1 _) (PySem.F.newCall_enumerate_1 _) (λobj=>PySem.F.args_object_init_2 obj _) PySem.F.entry_enumerate_new
  (ku l a n i k) ⟨hl,?_⟩
 have hz:(s.heap.push {cls:=.type "tuple_iterator",data:=.fields #[.ref l,.int 0 0]}).objs.size=s.heap.objs.size+1:=US ..;change _/\_;rw[hz];have f:Xv ((s.heap.push {cls:=.type "tuple_iterator",data:=.fields #[.ref l,.int 0 0]}).push
   {cls:=.type "enumerate",data:=.fields #[.none,.bool cK,.ref s.heap.objs.size,u6 0,.none,.none]}) (s.heap.objs.size+1) s.heap.objs.size 0 .none:=by
  have:=fx (s.heap.push {cls:=.type "tuple_iterator",data:=.fields #[.ref l,.int 0 0]})
   (o:={cls:=.type "enumerate",data:=.fields #[.none,.bool cK,.ref s.heap.objs.size,u6 0,.none,.none]}) rfl
  rw[hz]at this;show this
 show⟨⟨_,f,rfl⟩,h _ f ⟨_,dt _ (fx _ rfl),rfl,rfl⟩ (by rw[US,hz]) λb o x=>dt _ (dt _ x)⟩
end
end L2
namespace L2
open PySem PySem.Spec PyProof.Rows
section
def Inv.nX{ch:List hH}(I:Inv X a σ H s)(f:∀b∈ch,gY X a H b)(k:∀b o,b∉ch->s.heap.get? b=bD o->h'.get? b=bD o):Inv X a σ H {s with heap:=h',toks:=t' }:=by
 have g:∀b u,H b=bD u->b∉ch:=λb u e z=>by rw[(f b z).1]at e;cases e
 show I.step (g':=s.gens) (d':=s.drawn) (ch:=ch) (λb h=>?_) (λb o _ _ d e _=>k b o d e) (λb o _ _ d e _=>⟨o.slots,k b o d e⟩) (λ_ _ _ _ n=>n)
  (λb o d e=>⟨o,k b o d e⟩) (λ_ _ e=>e) (λ_ _ _ e=>e) (λb ps e=>⟨#[],by rw[e];simp⟩) (λm i=>?_) (λb u e=>?_) I.bare
 .have⟨w,j,x,l,p,t⟩:=f b h;show⟨l,j,p,t⟩
 .have⟨o,es,ep,ho,r⟩:=i;show⟨o,es,ep,k _ o (λz=>(f _ z).2.1 rfl) ho,r⟩
 .show(I.Gu b u e).gD (λc v d q=>k c v ?_ q) (λ_ q=>q) λ_ _ q=>q;rcases d with z|z
  .rw[z];show g b u e
  .show g c _ z
def Inv.kA{ch:List hH}(I:Inv X a σ H s)(h:∀b∈ch,gY X a H b)(k:∀b o,b∉ch->s.heap.get? b=bD o->h'.get? b=bD o)(i:s.heap.objs.size<=T)(new:bE X.prog X.w (upd H T o) h' T o):
  Inv X a σ (upd H T o) {s with heap:=h',toks:=t' }:=by
 have j:Inv X a σ H {s with heap:=h',toks:=t' }:=I.nX h k;have l:H T=cb:=I.Gu.fresh i;have p:∀b o,s.heap.get? b=bD o->b≠T:=λb o e z=>by rw[z]at e;show absurd (i9 (gc e) i) (uv _)
 have d:∀b u,H b=bD u->b≠T:=λb u e z=>by rw[z,l]at e;cases e
 show I.step (g':=s.gens) (d':=s.drawn) (ch:=ch) (λb g=>?_) (λb o _ _ f e _=>k b o f e) (λb o _ _ f e _=>⟨o.slots,k b o f e⟩) (λb o _ e n=>by rw[aj (p b o e)];show n)
  (λb o f e=>⟨o,k b o f e⟩) (λb _ e=>by rw[aj (d b _ e)];show e) (λb _ _ e=>by rw[aj (d b _ e)];show e) (λb ps e=>⟨#[],by rw[aj (d b _ e),e];simp⟩) (λm t=>?_) (λb u e=>?_) I.bare
 .have⟨C,x,D,y,A,B⟩:=h b g;show⟨y,x,A,B⟩
 .have⟨o,es,ep,ho,r⟩:=t;show⟨o,es,ep,k _ o (λz=>(h _ z).2.1 rfl) ho,r⟩
 .by_cases g:b=T
  .subst g;rw[aw]at e;cases e;show new
  .rw[aj g]at e;show(j.Gu b u e).gD (λc v _ q=>q) (λc q=>by rw[aj (d c _ q)];show q) λc xs q=>by rw[aj (d c _ q)];show q
end
abbrev Mz(a:Hp->List V->Prop):It :=
 ⟨λi H=>∃xs x,a H xs/\xs[i]?=bD x,λi H x H'=>∃p,H p=cb/\x=.ref p/\∀xs v,a H xs->xs[i]?=bD v->H'=upd H p (.tup [.int i,v]),λi H=>∃xs,a H xs/\xs.length<=i⟩
def mC{K:PySem.W.Frag}(r:Hp->List V->Prop)(a e it:hH)(N:e≠it)(At:Nat->Ic->Prop)(t:Ic->Array d3->Prop)
  (Iv:∀i h h',At i h->(∀o,h.get? it=bD o->h'.get? it=bD o)->At i h') (SJ:∀i h,At i h->∃o,h.get? it=bD o/\∀v,o.data≠.cell v)
  (OB:∀(X:Cx) (d:List (hH×Obj)) (s:hh) (σ:St) (H:Hp) (xs:List V),X.K=K->Inv X d σ H s->r H xs->∃l:List d3,Vals xs l/\t s.heap l.toArray)
  (QC:∀(X:Cx) (d:List (hH×Obj)) (s:hh) (σ:St) (H:Hp) (xs ys:List V),X.K=K->Inv X d σ H s->r H xs->r H ys->xs=ys)
  (SF:∀h c i f,t h c->Xv h e it i f->e≠a)
  (hD:∀(A:LU) (c:Array d3),A.handled=cb->Draws P w A it [it,a] c.size (λi v=>c[i]?=bD v) (λi h=>At i h/\t h c))
  (Ks:∀(A:LU) (s:hh) (i:Nat) (c:Array d3) (Q:d3->hh->Prop) (E:d3->hh->Prop),A.handled=cb->At i s.heap->t s.heap c->c[i]?=cb ->
   (∀h' x,YR it s.heap h'->(∃o,h'.get? x=bD o/\o.cls=.type "StopIteration")->E (.ref x) {s with heap:=h' })->et (hE P w) A (H8 (.ref it)) Q E s) :
  Turn P w K (.Tuple es kx ps) (Mz r) [e,it] e (λi h=>(∃f,Xv h e it i f)/\At i h) where
 mem:=by simp
 obj:=λi h st b g=>by
  obtain⟨⟨f,j⟩,hl⟩:=st;rcases gs.mp g with z|z
  .rw[z];show⟨_,j,λv z=>by
    have z':QI _=Wa v:=z;cases z'⟩
  .rw[hQ.mp z];show SJ i h hl
 keep:=λi h h' ⟨⟨f,j⟩,hl⟩ k=>⟨⟨f,k e (by simp) _ j⟩,Iv i h h' hl λo q=>k it (by simp) o q⟩
 item:=by
  intro X O Y B hc i d s σ H E I C ⟨⟨f,j⟩,hl⟩ hg;subst O Y;have⟨xs,x,G,hx⟩:=hg;have⟨l,rv,p⟩:=OB X d s σ H xs B I G;have⟨u,hu,ru⟩:=rv.get hx;have GO:i<l.toArray.size:=by simpa using(eh.mp hu).1
  have D:=hD X.A.in1 l.toArray (by simpa using I.ok.hd hc);have QD:=SF _ _ _ _ p j;show wpAny_pyNext_enum_itemD D j ⟨hl,p⟩ GO N (by simp[N,QD]) λy h1 m J ho st1 L hsz hk=>?_;have ey:y=u:=by
   have:l.toArray[i]?=bD u:=by simpa using hu
   rw[this]at J;cases J;rfl
  subst ey;show⟨_,rfl,wpAny_letOwnedTupleGo_enum (s:={s with heap:=h1,toks:=m+1}) ho λn OC HH=>?_⟩;have SM:e<s.heap.objs.size:=gc j;have QE:n.get? s.heap.objs.size=bD {cls:=.type "tuple",data:=.seq #[.int i m,y]}:=(HH.2 _ (HS SM)).trans L;have k2:∀b o,b∉[e,it]->s.heap.get? b=bD o->n.get? b=bD o:=λb o g q=>by
   simp only[gs,IW,or_false,not_or]at g;show(HH.2 b g.1).trans (hk b o g.1 g.2 q)
  have I2:Inv X d σ (upd H s.heap.objs.size (.tup [.int i,x])) {s with heap:=n,toks:=m+1}:=I.kA C k2 (ix _)
   (show bE X.prog X.w _ n _ (.tup [.int i,x]) from⟨by change 2<=df;decide,[.int i m,y],.cons ⟨m,rfl⟩ (.cons ru .nil),⟨_,QE,rfl,_,rfl⟩⟩)
  show⟨.ref s.heap.objs.size,_,I2,rfl,⟨_,I.Gu.fresh (ix _),rfl,λys v J hv=>?_⟩,⟨⟨_,OC⟩,Iv (i+1) h1 n st1.1 λo q=>(HH.2 it (ro N)).trans q⟩,λb g=>?_⟩
  .have:=QC X d s σ H ys xs B I J G;subst this;rw[hx]at hv;cases hv;rfl
  .have HM:b≠s.heap.objs.size:=by
    rcases gs.mp g with z|z
    .rw[z];show hZ SM
    .rw[hQ.mp z];obtain⟨o,q,_⟩:=SJ i _ hl;show hZ (gc q)
   rw[aj HM];show(C b g).1
 done:=by
  intro X O Y B hc i d s σ H E I C ⟨⟨f,j⟩,hl⟩ hg;subst O Y;have⟨xs,G,hx⟩:=hg;have⟨l,rv,p⟩:=OB X d s σ H xs B I G;have ac:=rv.length;have L:s.TypeIs (.ref e) "enumerate":=⟨_,j,rfl⟩
  unfold Q0;show b5 (wpAny_attempt (Nw (name:=O2 "__next__") L PySem.F.slot_enumerate_next
   (H0 PySem.F.slot_enumerate_next L PySem.F.entry_enumerate_next ?_ (PySem.F.args_enumerate_next_1 _))))
  change et _ _ (Y' (.ref e) 2 >>= _) _ _ _;show b5 (R9 j rfl (x:=.ref it) rfl ?_);show b5 (Ks _ _ i l.toArray _ _ (by simpa using I.ok.hd hc) hl p (by simp;lia) λh' x Qb M7=>?_);have⟨o,ho,Mx⟩:=M7;show b5 (MO (T:="StopIteration") (b:=b6) ⟨o,ho,Mx⟩ Y_ ?_);show dV ⟨rfl,I.nX (t':=s.toks) (ch:=[it]) (λb g=>C b (sL _ g)) λb o g q=>Qb b o (λz=>g (by simp[z])) q⟩
 self:=λA i s Q E ⟨⟨f,j⟩,hl⟩ h=>TU j h
section
variable{X:Cx}{es:List my}{kx:Nat}{ps p pos:Pos}
def uB:G8 "enumerate"=bD (.type "enumerate"):=by decide +kernel
abbrev F0(K:PySem.W.Frag)(c:TA):TI:=λσ H R=>c σ H λvs b=>∃a,vs=[.ref a]/\((∃xs,G2 K b a xs)/\R (Mz λH xs=>G2 K H a xs) b\/(∃xs,Hb K b a xs)/\R (Mz λH xs=>Hb K H a xs) b)
def Cn(a e it:hH)(q:e≠it)(r:a≠it):Turn X.prog X.w X.K (.Tuple es kx ps) (Mz λH xs=>G2 X.K H a xs) [e,it] e (λi h=>(∃c,Xv h e it i c)/\h.IsListIter it a i):=by
 show mC _ a e it q (λi h=>h.IsListIter it a i) (λh b=>h.IsList a b) (λi h h' x k=>x.at k) (λi h ⟨o,ho,l,t⟩=>⟨o,ho,λv z=>by rw[t]at z;cases z⟩)
  (λY d s σ H xs g I m=>?_) (λY d s σ H xs ys g I f n=>?_) (λh b i c ⟨o,ho,l,_⟩ u z=>?_) (λA b j=>Draws.list j it a r b) (λA s i b Q E j hl y f B=>wpAny_nextOf_list_end j hl y f B)
 .rw[<-g]at m;have⟨C,rv,p,hz⟩:=I.list m;show⟨C,rv,p.isList⟩
 .rw[<-g]at f n;show I.oW f n
 .rw[<-z,u]at ho;cases ho;have D:vl "enumerate"=vl "list":=l;show absurd D (by decide)
def Co(a e it:hH)(q:e≠it)(r:a≠it):Turn X.prog X.w X.K (.Tuple es kx ps) (Mz λH xs=>Hb X.K H a xs) [e,it] e (λi h=>(∃c,Xv h e it i c)/\h.IsTupleIter it a i):=by
 show mC _ a e it q (λi h=>h.IsTupleIter it a i) (λh b=>h.IsTuple a b) (λi h h' x k=>x.at k) (λi h ⟨o,ho,l,t⟩=>⟨o,ho,λv z=>by rw[t]at z;cases z⟩)
  (λY d s σ H xs g I m=>?_) (λY d s σ H xs ys g I f n=>?_) (λh b i c ⟨o,ho,l,_⟩ u z=>?_) (λA b j=>pJ j it a r b) (λA s i b Q E j hl y f B=>eD j hl y f B)
 .rw[<-g]at m;have⟨C,rv,p,hz⟩:=I.tuple m;show⟨C,rv,p⟩
 .rw[<-g]at f n;show I.lS f n
 .rw[<-z,u]at ho;cases ho;have D:vl "enumerate"=vl "tuple":=l;show absurd D (by decide)
def zj(n:Gl X "enumerate")(t:X.mg "enumerate"=cb)(v:PA X [a] w)(hs:i5 [a] X.env=[(cK,vr a X.env)]):PI X (.Tuple es kx ps) (.Call (.Name "enumerate" p) [a] [] pos) (F0 X.K w):=by
 intro c s σ H R I h;show Call_ (d4 I n t uB (Ka (Gv (v pos c s σ H _ I h) λus s1 ⟨vs,j,d,x,y⟩=>?_) hs rfl));have⟨a',e,q⟩:=y;subst e;have⟨u,rfl,r⟩:=vals1 x;cases r;have f:s1.heap.objs.size+1≠s1.heap.objs.size:=Nat.succ_ne_self _;have g:∀(h':Ic),(∀b∈[s1.heap.objs.size+1,s1.heap.objs.size],gY X c j b):=λh' b A=>by
  have m:s1.heap.objs.size<=b:=by
   rcases gs.mp A with z|z
   .rw[z];show JE _
   .rw[hQ.mp z];show ix _
  show d.vG m (d.Gu.fresh m)
 rcases q with⟨⟨xs,k⟩,q⟩|⟨⟨xs,k⟩,q⟩
 .have⟨B,rv,p,hz⟩:=d.list k;have l:a'<s1.heap.objs.size:=let ⟨o,ho,_⟩:=p.isList;gc ho;show call_enumerate_list p.isList λh' i hl hsz hk=>?_;show TU i ⟨_,[s1.heap.objs.size+1,s1.heap.objs.size],_,_,j,rfl,d.kept (t':=s1.toks) hk,Cn a' _ _ f (hZ l),⟨⟨_,i⟩,hl⟩,g h',q⟩
 .have⟨B,rv,p,hz⟩:=d.tuple k;have l:a'<s1.heap.objs.size:=let ⟨o,ho,_⟩:=p;gc ho;show fF p λh' i hl hsz hk=>?_;show TU i ⟨_,[s1.heap.objs.size+1,s1.heap.objs.size],_,_,j,rfl,d.kept (t':=s1.toks) hk,Co a' _ _ f (hZ l),⟨⟨_,i⟩,hl⟩,g h',q⟩
end
def zk{a:List d3}(h:YC (λi v=>a.toArray[a.toArray.size - 1 - i]?=bD v) acc a.toArray.size):acc.toList=a.reverse:=by
 apply XE;intro i;have hs:acc.size=a.length:=by have:=h.1;simpa using this
 by_cases c:i<a.length
 .have b:i<acc.size:=by lia
  have:=h.2 i (acc[i]'b) (by simp[b]);rw[qk,L9 b,List.getElem?_reverse c];simpa using this.symm
 .rw[NX (by rw[hU];lia),NX (by rw[RL];lia)]
section
def wu(j:X.calm=b6)(I:Inv X f σ H s)(k:G2 X.K H a xs)
  (h:∀c,Vals xs c->xs.length<=df->∀(R:hH) (d:Ic),R=s.heap.objs.size->d.objs.size=s.heap.objs.size+1->(∀b o,s.heap.get? b=bD o->d.get? b=bD o)->(∀B:LU,B.handled=X.A.handled ->
   Walks X.prog X.w B R [R,a] [R] c.toArray.size (λi v=>c.toArray[c.toArray.size - 1 - i]?=bD v) (λi h=>i<=c.toArray.size/\h.IsRevIter R a ((c.toArray.size:Int) - 1 - (i:Int))/\h.IsList a c.toArray)) ->
   d.IsRevIter R a ((c.toArray.size:Int) - 1 - ((0:Nat):Int))->d.IsList a c.toArray->a<s.heap.objs.size->Q (.ref R) {s with heap:=d}):et (hE X.prog X.w) X.A (MR (.type "reversed") [.ref a]) Q X.xe s:=by
 have⟨c,rv,p,hz⟩:=I.list k;have g:a<s.heap.objs.size:=let ⟨o,ho,_⟩:=p.isList;gc ho;show call_reversed_list p.isList (h c rv hz _ _ rfl (by rw[Js]) (λb o e=>dt _ e) (λB l=>Walks.listRev (by rw[l];show I.ok.hd j) _ a (hZ g) c.toArray) ?_ (p.isList.push _) g);show⟨_,fx _ rfl,rfl,?_⟩;change QI _=QI _;congr 3
 simp
def wx(p:X.calm=b6)(I:Inv X c σ H s)(r:G2 X.K H a xs)(q:∀l,H l=cb->Q (.ref l) (upd H l (.lst xs.reverse))):
  et (hE X.prog X.w) X.A (MR (.type "reversed") [.ref a]) (λv s1=>et (hE X.prog X.w) X.A (MR (.type "list") [v]) (EP X c σ Q) X.xe s1) X.xe s:=by
 show wu p I r λh rv hz R d j hsz hk t u hl x=>?_;have Y:h.length=xs.length:=rv.length.symm;show pI (s:={s with heap:=d}) (t X.A.in1.in1 rfl).toS (λi s st=>st.2.1.typeIs) ⟨i3 _,u,hl⟩ (λb f=>?_) (by simp) (λs' acc k g y B=>?_) (by simp;lia)
 .change b<d.objs.size;rw[hsz];rcases gs.mp f with z|z
  .rw[z,j];show L_ _
  .rw[hQ.mp z];show PM x
 .have⟨m,C,D,G,o2⟩:=s';have J:C=s.gens:=g.gens;have L:D=s.drawn:=g.drawn;have N:o2=s.os:=g.os;subst J L N;have k2:∀b o,s.heap.get? b=bD o->m.get? b=bD o:=λb o e=>g.heap b o (λz=>by
   have f:=gc e;rcases gs.mp z with z|z
   .rw[z]at f;have n:d.objs.size<s.heap.objs.size:=f;rw[hsz]at n;show absurd n (X3 (L_ _))
   .rw[hQ.mp z,j]at e;show absurd (gc e) (uv _)) (dt _ (hk b o e))
  have O:=zk B;show⟨.ref d.objs.size,_,I.laid (t':=G) (o:=.lst xs.reverse) k2 (by rw[hsz];show JE _) ⟨by rw[RL];show hz,h.reverse,k,rv.reverse,?_⟩,rfl,q _ (I.Gu.fresh (by rw[hsz];show JE _))⟩;have T:m.get? d.objs.size=bD {cls:=.type "list",dict:=cb,data:=.seq acc k,slots:=#[]}:=y;rw[T,<-O,WC]
end
end L2
namespace L2
open PySem PySem.W PyProof.Rows
section
end
section
def wy:X.calm=b6->gZ X (.builtin "any") (λxs H Q=>∃(p:hH) (a:List Bool),xs=[.ref p]/\G2 X.K H p (a.map V.bl)/\Q (.bl (a.any id)) H):=by
 intro j f s σ H xs us Q I rs h;have⟨p,a,rfl,k,q⟩:=h;have⟨u,rfl,r⟩:=vals1 rs;cases r;have⟨o,rv,d,hz⟩:=I.list k;have e:=fB rv;subst e;have l:p<s.heap.objs.size:=by obtain⟨_,_,e,_⟩:=d;show gc e
 show call_any_walk (Qh d.isList ?_);show⟨s.heap.objs.size,[s.heap.objs.size,p],[s.heap.objs.size],(a.map Kb).toArray.size,_,_,λi=>(a[i]?).getD cK,rfl,WO (A:=X.A.in1) (I.ok.hd j) _ p (hZ l) (a.map Kb).toArray,
  ⟨⟨_,fx _ rfl,rfl,rfl⟩,d.isList.push _⟩,λi v s' Q' t m g=>?_,λh' n hk=>?_⟩
 .have c:(a.map Kb)[i]?=bD v:=by simpa using m
  rw[i8]at c;cases e:a[i]? with
  |none=>rw[e]at c;cases c
  |some b =>
   rw[e]at c;cases c;simp only[e,Xg]at g;show IL g
 .have e:((hW (a.map Kb).toArray.size).any λi=>(a[i]?).getD cK)=a.any id:=by
   rw[hA,c4];show X_ a
  rw[e];show⟨.bl _,H,I.kept (t':=n) (QL hk),rfl,q⟩
end
section
def Inv.freeze(I:Inv X a σ H s)(c:H r=bD (.dK kvs))(ho:s.heap.get? r=bD o):Inv X a σ (upd H r (.HJ o (.dK kvs))) s:=by
 have d:∀b u,H b=bD u->u≠.dK kvs->b≠r:=λb u e n z=>by subst z;rw[c]at e;cases e;show n rfl
 show I.write (t':=s.toks) (x:=r) (e:=r) (by rw[c];trivial) (.inl rfl) (λb u _ q=>q) ⟨o,ho⟩ ⟨ho,(I.Gu r _ c).gD (λ_ _ _ q=>q) (λb q=>by rw[aj (d b _ q (λz=>by cases z))];show q) λb xs q=>by rw[aj (d b _ q (λz=>by cases z))];show q⟩
def Cp(h:PE X e c):PE X e (λσ H Q=>∃r kvs,H r=bD (.dK kvs)/\∀o,c σ (upd H r (.HJ o (.dK kvs))) Q):=by
 intro a s σ H Q I ⟨r,kvs,b,d⟩;obtain⟨_,_,vs,_,o,es,ep,ho,_⟩:=(show bE X.prog X.w H s.heap r (.dK kvs) from I.Gu r _ b)
 show h a s σ _ Q (I.freeze b ho) (d o)
end
abbrev QG(r:hH)(o:Obj)(kvs:List (Key×V)):It :=
 ⟨λi H=>H r=bD (.HJ o (.dK kvs))/\i<kvs.length,λi H x H'=>∃p,H p=cb/\x=.ref p/\∀k v,kvs[i]?=bD (k,v)->H'=upd H p (.tup [kV k,v]),λi H=>H r=bD (.HJ o (.dK kvs))/\kvs.length<=i⟩
def Cq(h:(aM P w).is k u=b6):RelV (kV k) u:=by
 rcases bc (show jk k u=b6 from h) with⟨i,t,rfl,rfl⟩|⟨y,t,rfl,rfl⟩
 .show⟨t,rfl⟩
 .show⟨t,rfl⟩
theorem A_:∀{kvs:List (Key×V)}{vs:List (Key×d3)},KV kvs vs->∀(i:Nat) (h:i<kvs.length) (h':i<vs.length),kvs[i].1=vs[i].1/\RelV kvs[i].2 vs[i].2
 |_,_,.cons a _,0,_,_=>a
 |_,_,.cons _ b,i+1,h,h'=>A_ b i (by simpa using h) (by simpa using h')
def qQ{K:PySem.W.Frag}(l:o.data=.dict L ep):
  Turn P w K (.Tuple es kx ps) (QG r o kvs) [it] it (λi h=>∃d e,IsItemIter h it r i kvs.length ep d e) where
 mem:=by simp
 obj:=λi h ⟨d,e,st⟩ b a=>by
  rw[hQ.mp a];show⟨_,st,λv z=>by
    have z':QI _=Wa v:=z;cases z'⟩
 keep:=λi h h' ⟨d,e,st⟩ k=>⟨d,e,k it (by simp) _ st⟩
 item:=by
  intro X t u hK N i c s σ H E I m ⟨d,e,st⟩ x;subst t u;have⟨y,B⟩:=x;have⟨ho,z1,z2,vs,kv,o',Vb,Kl,f,C,g,D⟩:=(show bE X.prog X.w H s.heap r (.HJ o (.dK kvs)) from I.Gu r _ y)
  rw[ho]at f;cases f;rw[l]at g;cases g;have hl:vs.length=kvs.length:=(Paired.length kv).symm;have G:s.heap.DictAt (aM X.prog X.w) r vs ep:=⟨o,L,ho,C,l,D⟩
  obtain⟨q,hq,e1,e2⟩:∃q,vs[i]?=bD q/\kvs[i].1=q.1/\RelV kvs[i].2 q.2:=by
   have O:i<vs.length:=by lia
   show⟨vs[i],by simp[O],?_⟩;show A_ kv i B O
  rw[<-hl]at st;show wpAny_pyNext_items_item st G (k:=q.1) (v:=q.2) hq λj h1 hk J hT hsz LC=>⟨_,rfl,wpAny_letOwnedTupleGo_items (s:={s with heap:=h1}) J λn T Y=>?_⟩
  have GO:it<s.heap.objs.size:=gc st;have QE:n.get? s.heap.objs.size=bD {cls:=.type "tuple",data:=.seq #[j,q.2]}:=(Y.2 _ (HS GO)).trans hT;have k2:∀b o,b∉[it]->s.heap.get? b=bD o->n.get? b=bD o:=λb o a q=>by
   have p:b≠it:=λz=>a (by simp[z]);show(Y.2 b p).trans (LC b o p q)
  have I2:Inv X c σ (upd H s.heap.objs.size (.tup [kV kvs[i].1,kvs[i].2])) {s with heap:=n,toks:=s.toks}:=I.kA m k2 (ix _)
   (show bE X.prog X.w _ n _ (.tup [kV kvs[i].1,kvs[i].2]) from⟨by change 2<=df;decide,[j,q.2],.cons (by rw[e1];show Cq hk) (.cons e2 .nil),⟨_,QE,rfl,_,rfl⟩⟩)
  show⟨.ref s.heap.objs.size,_,I2,rfl,⟨_,I.Gu.fresh (ix _),rfl,λk v OE=>?_⟩,⟨_,_,by rw[hl]at T;show T⟩,λb a=>?_⟩
  .rw[nC B]at OE;rw[td OE]
  .have p:b≠s.heap.objs.size:=by rw[hQ.mp a];show hZ GO
   rw[aj p];show(m b a).1
 done:=by
  intro X t u hK N i c s σ H E I m ⟨d,e,st⟩ x;subst t u;have⟨y,B⟩:=x;have⟨ho,z1,z2,vs,kv,o',Vb,Kl,f,C,g,D⟩:=(show bE X.prog X.w H s.heap r (.HJ o (.dK kvs)) from I.Gu r _ y)
  rw[ho]at f;cases f;rw[l]at g;cases g;have hl:vs.length=kvs.length:=(Paired.length kv).symm;have G:s.heap.DictAt (aM X.prog X.w) r vs ep:=⟨o,L,ho,C,l,D⟩
  rw[<-hl]at st;show wpAny_pyNext_items_end (by simpa using I.ok.hd N) st G (NX ⋯) λh' M7=>⟨rfl,I.nX (t':=s.toks) m λb o a q=>M7 b o (λz=>a (by simp[z])) q⟩
 self:=λA i s Q E ⟨d,e,st⟩ h=>kcp_self st h
section
abbrev F2(i:Nat):TI:=λσ H R=>∃r o kvs,σ[i]?=bD (bD (.ref r))/\H r=bD (.HJ o (.dK kvs))/\R (QG r o kvs) H
def wz(t:X.N[i]?=bD x)(y:HX X.env.scope x)(A:(x==("__debug__":Str))=cK)(B:(x==("__classdict__":Str))=cK)(C:(c.endLine==D.line)=b6):
  PI X (.Tuple es kx ps) (.Call (.Attribute (.Name x px) "items" c) [] [] D) (F2 i):=by
 intro d s σ H R I ⟨r,o,kvs,hs,G,J⟩;show QB rfl C (Gv (bT t y A B d s σ H (λv g=>v=.ref r/\g=H) I ⟨_,hs,rfl,rfl⟩) λv s1 L=>?_);have⟨x1,g,h,O,m,Q⟩:=L;subst m Q;cases(show v=kr r from O);have⟨ho,m,lo,vs,kv,o',k,ep,n,f,j,l⟩:=(show bE X.prog X.w g s1.heap r (.HJ o (.dK kvs)) from h.Gu r _ G)
 rw[ho]at n;cases n;have hl:vs.length=kvs.length:=(Paired.length kv).symm;have hm:s1.heap.DictAt (aM X.prog X.w) r vs ep:=⟨o,k,ho,f,j,l⟩
 have p:s1.TypeIs (.ref r) "dict":=⟨o,ho,f.1⟩
 show⟨"dict","dict.items",PySem.F.plainAttrs_dict,PySem.F.slot_dict_items,PySem.F.type_dict_items,p,λa e=>⟨o,by cases e;show ho,f.2.1⟩,GV rfl (PySem.evalArgs_none (Ur PySem.F.slot_dict_items p PySem.F.entry_dict_items (PySem.F.args_dict_items_1 _) (YP (aM X.prog X.w) r lo) ⟨⟨vs,o,k,ep,ho,f,j,l⟩,?_⟩))⟩;have k1:∀b u,s1.heap.get? b=bD u->(s1.heap.push {cls:=.type "dict_items",data:=.fields #[.ref r]}).get? b=bD u:=λb u z=>dt _ z;have T:(s1.heap.push {cls:=.type "dict_items",data:=.fields #[.ref r]}).DictAt (aM X.prog X.w) r vs ep:=⟨o,k,k1 _ _ ho,f,j,l⟩
 show wpAny_pyIter_items (s:={s1 with heap:=s1.heap.push {cls:=.type "dict_items",data:=.fields #[.ref r]}}) ⟨_,fx _ rfl,rfl,rfl⟩ T ?_;have hsz:(s1.heap.push {cls:=.type "dict_items",data:=.fields #[.ref r]}).objs.size=s1.heap.objs.size+1:=Js ..;have Y:=h.kept (t':=s1.toks) (h':=(s1.heap.push {cls:=.type "dict_items",data:=.fields #[.ref r]}).push {cls:=.type "dict_itemiterator",data:=.fields #[.none,.bool cK,.ref r,.int 0 0,.int vs.length 0,.int ep 0,.none,.none]}) λb u z=>dt _ (k1 b u z);show⟨_,[_],_,_,g,rfl,Y,qQ (kvs:=kvs) j,⟨.none,.none,by rw[<-hl];show fx _ rfl⟩,λb hb=>?_,J⟩;rw[hQ.mp hb];have q:s1.heap.objs.size<=(s1.heap.push {cls:=.type "dict_items",data:=.fields #[.ref r]}).objs.size:=by rw[hsz];show JE _
 show h.vG q (h.Gu.fresh q)
end
end L2
namespace L2
open PySem PySem.Spec PyProof.Rows
def uC(l:hH)(a:Array d3)(n:Nat)(b:hH)(c:Array d3)(e:Nat)(f:Option hH)(i:Array (Option d3))(p:¬(!a.isEmpty&&Je (a.size+c.size))=b6)(j:a.size<=df)(k:a.size+c.size<=df+1):
  Meets (L0.«list.extend» ⟨[.ref l,.ref b],[]⟩) (λ_ R s=>s.heap.get? l=bD {cls:=.type "list",dict:=cb,data:=.seq a n,slots:=#[]}/\s.heap.get? b=bD {cls:=.type "list",dict:=f,data:=.seq c e,slots:=i}/\R (.ok (.ret nH)) {s with heap:=s.heap.update l (p7 λx=>x++c),toks:=s.toks}) :=
 .of_wp λprog w A R s h=>by
  have⟨q,g,d,r,os⟩:=s;have⟨hl,m,h⟩:=h;have t:=WG;have u:=S4;have v:=UU;have y:=UI;have z:=UJ;
  have o:(a++c).size<=df+1:=by rw[Se];show k
  wp_walk using(Pd hl rfl (hz:=j) (_hz':=o)),L4 hl,L4 m;show⟨_,rfl,h⟩
def uD(l:hH)(a:Array d3)(n:Nat)(b:hH)(c:Array d3)(e:Nat)(f:Option hH)(i:Array (Option d3))(p:¬(!a.isEmpty&&Je (a.size+c.size))=b6)(j:a.size<=df)(k:a.size+c.size<=df+1):
  Meets (L0.«list.extend» ⟨[.ref l,.ref b],[]⟩) (λ_ R s=>s.heap.get? l=bD {cls:=.type "list",dict:=cb,data:=.seq a n,slots:=#[]}/\s.heap.get? b=bD {cls:=.type "tuple",dict:=f,data:=.seq c e,slots:=i}/\R (.ok (.ret nH)) {s with heap:=s.heap.update l (p7 λx=>x++c),toks:=s.toks}) :=
 .of_wp λprog w A R s h=>by
  have⟨q,g,d,r,os⟩:=s;have⟨hl,m,h⟩:=h;have t:=WG;have u:=S4;have v:=UU;have y:=UI;have z:=UJ;
  have o:(a++c).size<=df+1:=by rw[Se];show k
  wp_walk using(Pd hl rfl (hz:=j) (_hz':=o)),L4 hl,L4 m;show⟨_,rfl,h⟩
section
def qR:M4 X "list.extend" (λx vs H Q=>∃l b xs c,x=.ref l/\vs=[.ref b]/\H l=bD (.lst xs)/\(G2 X.K H b c\/Hb X.K H b c)/\xs.length+c.length<=df/\Q .GC (upd H l (.lst (xs++c)))):=by
 intro g s σ H x vs v us Q I B rv h;have⟨l,b,xs,c,rfl,rfl,y,hB,hz,q⟩:=h;cases B;have⟨u,rfl,C⟩:=rv.one;cases C;have⟨z,f,n,r,hl,e⟩:=I.vM y;have i:∀a:List d3,Vals c a->EP X g σ Q nH {s with heap:=s.heap.update l (p7 λx=>x++a.toArray),toks:=s.toks}:=λa d=>by
  show⟨.GC,_,I.j8 (its':=f++a) y e (by simp) (r.append d) ?_,rfl,q⟩;rw[hY];lia
 have m:∀a:List d3,c.length=a.length->f.toArray.size+a.toArray.size<=df:=λa h=>by rw[hA,hA];lia
 have A:∀a:List d3,c.length=a.length->¬(!f.toArray.isEmpty&&Je (f.toArray.size+a.toArray.size))=b6:=λa h=>by
  rw[vN (m a h),QX];show ke
 rcases hB with hB|hB
 .obtain⟨a,d,o,_⟩:=I.list hB;obtain⟨⟨cls,p,data,t⟩,ho,j,w,k⟩:=o.isList;simp only at j k;subst j k;have Jo:=d.length;have D:=m a Jo;show Q7 XY ⟨_,e,rfl⟩ XG (Xw _ _) (uC l f.toArray n b a.toArray w p t (A a Jo) ⋯ ⋯) ⟨e,ho,i a d⟩
 .obtain⟨a,d,o,_⟩:=I.tuple hB;obtain⟨⟨cls,p,data,t⟩,ho,j,w,k⟩:=o;simp only at j k;subst j k;have Jo:=d.length;have D:=m a Jo;show Q7 XY ⟨_,e,rfl⟩ XG (Xw _ _) (uD l f.toArray n b a.toArray w p t (A a Jo) ⋯ ⋯) ⟨e,ho,i a d⟩
end
end L2
namespace L2
open PySem PySem.W PyProof.Rows
section
def uE{vs:List (Key×d3)}(hk:vs.map (·.1)=ks.map mu)(hl:acc.length=vs.length)(h:∀(j:Nat) (v:d3),acc[j]?=bD v->∃k x,vs[j]?=bD (k,x)/\(aM P w).is k v=b6):N1 acc ks:=by
 induction acc generalizing ks vs with
 |nil =>
  cases vs with
  |nil=>cases ks with
   |nil=>show .nil
   |cons _ _=>cases hk
  |cons _ _=>cases hl
 |cons v acc b =>
  cases vs with
  |nil=>cases hl
  |cons p vs =>
   cases ks with
   |nil=>cases hk
   |cons k ks =>
    simp only[eH,L7]at hk;have⟨k',x,a,c⟩:=h 0 v rfl;simp only[List.getElem?_cons_zero,N7]at a;subst a;have d:k'=mu k:=hk.1;subst d;rcases bc (show jk (mu k) v=b6 from c) with⟨i,t,e,rfl⟩|⟨y,t,e,rfl⟩
    .cases e
    .cases e;show .cons _ _ (b hk.2 (by simpa using hl) λj u f=>h (j+1) u (by simpa using f))
def iT:X.calm=b6->gZ X (.builtin "sorted") (λxs H Q=>∃(d:hH) (kvs:List (Key×V)) (ks:List Str),xs=[.ref d]/\H d=bD (.dK kvs)/\kvs.map (·.1)=ks.map mu/\ks.length<64/\∀q,H q=cb->Q (.ref q) (upd H q (.lst ((aH ks).map V.str)))):=by
 intro m a s σ H xs us Q I rs h;have⟨d,kvs,ks,rfl,e,hk,G,q⟩:=h;have⟨u,rfl,r⟩:=vals1 rs;cases r;have⟨hz,lo,vs,kv,k⟩:=vT I.Gu e;have b:vs.length=kvs.length:=(Paired.length kv).symm;have n:kvs.length=ks.length:=by rw[<-c4 (f:=(·.1)),hk,c4]
 have p:vs.map (·.1)=ks.map mu:=by
  rw[<-hk];clear k b hk n e q hz;induction kv with
  |nil=>rfl
  |cons r _ t=>rw[eH,eH,t,r.1]
 have⟨o,es,ep,x⟩:=id k;have y:(64:Nat)<=df:=by decide
 show eX (kdu_collect (A:=X.A.in1) (kdl_dict (knd:=aM X.prog X.w) (kvs:=vs) (ep:=ep) lo) (I.ok.hd m) ⟨o,es,x⟩ ⋯ λh' c acc z g=>⟨ks,uE p (by rw[hU];show g.1) (λj v B=>g.2 j v (by rw[<-qk];show B)),by rw[hU,g.1];lia,λJ C D k2 i s2=>?_⟩);have l:Inv X a σ H {s with heap:=h',toks:=c}:=I.kept (t':=c) z;show⟨.ref h'.objs.size,_,l.laid (t':=c) (o:=.lst ((aH ks).map V.str)) k2 (ix _) ⟨by rw[c4,bZ];lia,C,D,du s2,i⟩,rfl,q _ (l.Gu.fresh (ix _))⟩
end
abbrev gK{α:Type}(lt:Nat->Nat->Bool):KasT α->α
 |.ret x=>x
 |.ask i j k=>gK lt (k (lt i j))
def HB{α:Type}(n:Nat)(P:α->Prop):KasT α->Prop
 |.ret x=>P x
 |.ask i j k=>i<n/\j<n/\∀b,HB n P (k b)
theorem HB.MA{P:α->Prop}{Q:β->Prop}{f:α->KasT β}(a:∀x,P x->HB n Q (f x)):∀{t:KasT α},HB n P t->HB n Q (t.bind f)
 |.ret x,h=>a x h
 |.ask i j k,h=>⟨h.1,h.2.1,λb=>HB.MA a (h.2.2 b)⟩
theorem HB.got:∀{t:KasT α},HB n P t->P (gK lt t)
 |.ret _,h=>h
 |.ask i j k,h=>HB.got (t:=k (lt i j)) (h.2.2 _)
theorem HB.wp(b:∀i j,i<n->j<n->∀C:Bool->hh->Prop,C (lt i j) s->a i j C s):
  ∀{t:KasT α},HB n P t->Q (gK lt t) s->t.kasWp a Q s
 |.ret _,_,q=>q
 |.ask i j k,h,q=>b i j h.1 h.2.1 _ (HB.wp b (t:=k (lt i j)) (h.2.2 _) q)
abbrev Pm(n:Nat)(p:Array Nat):Prop:=p.toList.Perm (hW n)
section
variable{n:Nat}(hn:0<n)
include hn
def Pm.at(h:Pm n p)(i:Nat):p.getD i 0<n:=by
 by_cases a:i<p.size
 .have:p.getD i 0=p[i]:=by simp[RY,a]
  rw[this];have b:p[i]∈p.toList:=by simp
  show va.mp (h.mem_iff.mp b)
 .have:p.getD i 0=0:=by simp[RY,a]
  rw[this];show hn
omit hn in
def Pm.rev(h:Pm n p)(i j:Nat):Pm n (kas_rev p i j):=(mirror_perm p i j _).toList.trans h
omit hn in
def Pm.Vd(h:Pm n p)(i j:Nat):Pm n (bubble p i j):=(bubble_perm p i j).toList.trans h
theorem qS(h:Pm n p):∀(f m:Nat),HB n (λ_=>True) (kas_asc p f m)
 |0,m=>trivial
 |f+1,m=>⟨h.at hn _,h.at hn _,λb=>by
  cases b
  .show qS h f (m+1)
  .show trivial⟩
theorem jM:∀(f:Nat) (p:Array Nat) (m q:Nat),Pm n p->HB n (λr=>Pm n r.1) (kas_desc f p m q)
 |0,p,m,q,h=>h
 |f+1,p,m,q,h=>⟨h.at hn _,h.at hn _,λb=>by
  cases b
  .show⟨h.at hn _,h.at hn _,λb=>by
    cases b
    .show jM f p (m+1) (q+1) h
    .show h⟩
  .change HB n _ (if q>0 then _ else _);split
   .show jM f _ _ _ (h.rev _ _)
   .show jM f _ _ _ h⟩
def sC(h:Pm n p)(m r:Nat):HB n (λx=>Pm n x.2) (kas_tail3 m r p):=by
 unfold kas_tail3;show HB.MA (λx _=>?_) (qS hn (h.rev _ _) _ _);show h.rev _ _
def sD(h:Pm n p)(m r:Nat):HB n (λx=>Pm n x.2) (kas_descPart m r p):=by
 unfold kas_descPart;show HB.MA (λx a=>?_) (jM hn _ _ _ _ h);split
 .show sC hn (a.rev _ _) _ _
 .show sC hn a _ _
def wA(h:Pm n p)(r:Nat):HB n (λx=>Pm n x.2) (kas_count r p):=by
 unfold kas_count;show HB.MA (λm _=>?_) (qS hn h _ _);split
 .show h
 .split
  .show⟨h.at hn _,h.at hn _,λb=>by
    cases b
    .show sD hn (h.rev _ _) _ _
    .show h⟩
  .show sD hn h _ _
theorem kB(h:Pm n p)(k:Nat):∀(f l r:Nat),HB n (λ_=>True) (kas_place p k f l r)
 |0,l,r=>trivial
 |f+1,l,r=>by
  unfold kas_place;split
  .show trivial
  .show⟨h.at hn _,h.at hn _,λb=>by
    cases b
    .show kB h k f _ _
    .show kB h k f _ _⟩
theorem wB:∀(f:Nat) (p:Array Nat) (k:Nat),Pm n p->HB n (Pm n) (kas_bin f p k)
 |0,p,k,h=>h
 |f+1,p,k,h=>HB.MA (λl _=>wB f _ _ (h.Vd _ _)) (kB hn h _ _ _ _)
def sE:HB n (Pm n) (Ls n):=by
 unfold Ls;show HB.MA (λx a=>?_) (wA hn (p:=List.toArray (hW n)) (by unfold Pm;simp) n);split
 .show wB hn _ _ _ a
 .show a
end
def kC(lt:Nat->Nat->Bool)(n:Nat):(gK lt (Ls n)).toList.Perm (hW n):=by
 cases n with
 |zero=>show JI _
 |succ n=>show(sE (Wx n)).got
section
def uF(ho:s.heap.get? a=bD (w6 "list" vs.toArray n))(l:vs.length<64)
  (m:2<=vs.length->∀s1:hh,(∀b o,b≠a->s.heap.get? b=bD o->s1.heap.get? b=bD o)->et (hE prog w) A (keyKind' vs.toArray) (λκ s'=>s'=s1/\∀i j,i<vs.length->j<vs.length->∀C:Bool->hh->Prop,C (lt i j) s1->Yx prog w A κ vs i j C s1) (λ_ _=>False) s1)
  (h:P (.done (.ret .none)) {s with heap:=Yn s.heap a vs (((gK lt (Ls vs.length)).toList.map λi=>vs.getD i nH).toArray)}) :
  et (hE prog w) A (L0.«list.sort» ⟨[.ref a],[]⟩) P E s:=by
 have N:a<s.heap.objs.size:=gc ho;have u:(64:Nat)<=df:=by decide
 rw[list_sort_plain];show b5 (Xz ho rfl (b5 (SO ho rfl ?_ (by rw[hA];lia) (i3 _))));obtain⟨k,q⟩:∃k,(s.heap.update a (p7 λ_=>(#[]:Array d3))).get? a=bD (w6 "list" #[] k):=⟨_,Y2 ho λ_=>#[]⟩
 show b5 (X2 q rfl (b5 (wpAny_newTuple (b5 (WL (tr ?_) (i3 _))) (by change vs.length<=_;lia))));have d:(((s.heap.update a (p7 λ_=>(#[]:Array d3))).push (w6 "tuple" vs.toArray 0)).push (w6 "list" #[] 0)).get? a=bD (w6 "list" #[] k):=dt _ (dt _ q);have f:∀b o,b≠a->s.heap.get? b=bD o->(((s.heap.update a (p7 λ_=>(#[]:Array d3))).push (w6 "tuple" vs.toArray 0)).push (w6 "list" #[] 0)).get? b=bD o:=λb o y e =>
  dt _ (dt _ (by rw[Ma _ _ _ _ y];show e))
 change et (hE prog w) A _ P E {s with heap:=((s.heap.update a (p7 λ_=>(#[]:Array d3))).push (w6 "tuple" vs.toArray 0)).push (w6 "list" #[] 0)}
 dsimp only
 have r:((gK lt (Ls vs.length)).toList.map λi=>vs.getD i nH).length=vs.length:=by rw[c4,(kC lt _).length_eq,G0]
 by_cases c:vs.toArray.size<2
 .rw[Zm c,Zm c];show b5 (dV ?_);rw[StateT.run_pure];show b5 (dV ?_);have z:((gK lt (Ls vs.length)).toList.map λi=>vs.getD i nH).toArray=(vs.toArray.zip vs.toArray).map (·.2):=by
   have g:=kC lt vs.length;clear h m r f d ho l
   match vs,c,g with
   |[],_,g=>rw[show(gK lt (Ls ([]:List d3).length)).toList=[] from List.perm_nil.mp g];simp
   |[v],_,g=>rw[show(gK lt (Ls [v].length)).toList=[0] from List.perm_singleton.mp g];simp
   |_::_::_,c,_=>simp at c;lia
  rw[z]at h
  dsimp only
  show b5 (X2 d rfl (b5 (SO d rfl ?_ (i3 _) (by rw[O9];change(pairsOf vs).size<=_;rw[pairsOf_size];lia))));simp only[bne_self_eq_false,Jk,if_false];show dV h
 .rw[Zn c,Zn c];have t:2<=vs.length:=by rw[hA]at c;lia
  show b5 (tj (m t _ f) (λκ O hk=>?_) λ_ _ x=>x.elim);have⟨rfl,hk⟩:=hk;show b5 (tj (kat_run (κ:=κ) (ks:=vs) (vs:=vs) (G:=λp s'=>p=gK lt (Ls vs.length)/\s'={s with heap:=((s.heap.update a (p7 λ_=>(#[]:Array d3))).push (w6 "tuple" vs.toArray 0)).push (w6 "list" #[] 0)})
   (Q:=λst' s'=>∃p:Array Nat,arrOf st'=p.map (kas_item (vs.toArray.zip vs.toArray))/\failedOf st'=cb/\p=gK lt (Ls vs.length)/\s'={s with heap:=((s.heap.update a (p7 λ_=>(#[]:Array d3))).push (w6 "tuple" vs.toArray 0)).push (w6 "list" #[] 0)})
   rfl t l (λp st' s' T B D H=>⟨p,B,D,H⟩) (HB.wp hk (sE ⋯) ⟨rfl,rfl⟩)) ?_ λ_ _ e=>e)
  rintro⟨⟨⟩,st'⟩ s' ⟨p,I,J,rfl,rfl⟩
  dsimp only
  have L:=kat_snds rfl I;rw[L,J];show b5 (X2 d rfl (b5 (SO d rfl ?_ (i3 _) (by rw[hA,r];lia))));simp only[bne_self_eq_false,Jk,if_false];show dV h
end
@[reducible]def zl:=Str×Int
abbrev K5(ks:List Str)(i j:Nat):Bool:=cL ((ks.getD i ti).cps.toList<(ks.getD j ti).cps.toList)
abbrev jE(ks:List Str):List Nat:=(gK (K5 ks) (Ls ks.length)).toList
def fV(ks:List Str):(jE ks).Perm (hW ks.length):=kC _ _
abbrev Eb(x:Str)(n:Int)(t u:Tok):Obj:={cls:=.type "tuple",data:=.seq #[.str x t,.int n u]}
abbrev fi(h:Ic)(as:List hH)(ps:List zl):Prop:=as.length=ps.length/\∀(j:Nat) (a:hH),as[j]?=bD a->∃p t u,ps[j]?=bD p/\h.get? a=bD (Eb p.1 p.2 t u)
def fi.keeps(x:fi h as ps)(k:∀b o,b∈as->h.get? b=bD o->h'.get? b=bD o):fi h' as ps :=
 ⟨x.1,λj a e=>let ⟨p,t,u,c,d⟩:=x.2 j a e;⟨p,t,u,c,k a _ (mA e) d⟩⟩
def fi.tail(x:fi h (a::as) (p::ps)):fi h as ps :=
 ⟨by have:=x.1;simpa using this,λj b e=>by
  have⟨q,t,u,c,d⟩:=x.2 (j+1) b (by simpa using e);show⟨q,t,u,by simpa using c,d⟩⟩
theorem fi.jF:∀{as:List hH}{ps:List zl},fi h as ps->∃b:List d3,KatTups h (as.map kr) b/\b.length=as.length/\∀v∈b,∃x t,v=tA x t
 |[],_,_=>⟨[],KatTups.nil,rfl,by simp⟩
 |a::as,[],x=>by have:=x.1;simp at this
 |a::as,p::ps,x=>by
  have⟨b,c,d,e⟩:=fi.jF x.tail;have⟨q,t,u,g,f⟩:=x.2 0 a rfl;show⟨.str q.1 t::b,KatTups.cons f rfl rfl rfl c,by simp[d],λv hv=>?_⟩;rcases gs.mp hv with rfl|hv
  .show⟨_,_,rfl⟩
  .show e v hv
theorem mD:∀{l:List α}{m:List β}{i:Nat}{x:α},Paired F l m->l[i]?=bD x->∃y,m[i]?=bD y/\F x y
 |_,_,_,_,.nil,e=>by simp at e
 |_,_,0,_,.cons r _,e=>by simp at e;subst e;show⟨_,rfl,r⟩
 |_,_,i+1,x,.cons _ t,e=>by
  have⟨u,a,b⟩:=mD (i:=i) (x:=x) t (by simpa using e);show⟨u,by simpa using a,b⟩
section
def Cr(x:fi s.heap as ps)(g:(ps.map (·.1)).Nodup)(e:i<as.length)(f:j<as.length)(q:C (K5 (ps.map (·.1)) i j) s):
  Yx prog w A (tuples' b6) (as.map kr) i j C s:=by
 have⟨p,t,u,d,k⟩:=x.2 i as[i] (by simp[e]);have⟨a,t',u',c,l⟩:=x.2 j as[j] (by simp[f]);have hl:=x.1;have m:i<ps.length:=by lia
 have n:j<ps.length:=by lia
 have o:(as.map kr).getD i nH=.ref as[i]:=by simp[L6,e]
 have r:(as.map kr).getD j nH=.ref as[j]:=by simp[L6,f]
 have v:(ps.map (·.1)).getD i ti=p.1:=by simp[L6,d]
 have y:(ps.map (·.1)).getD j ti=a.1:=by simp[L6,c]
 unfold Yx;rw[o,r];show kat_lt (b:=b6) k rfl l rfl ?_;unfold K5 at q;rw[v,y]at q;change KatLex prog w A b6 (cL (2<2)) C [(.str p.1 t,.str a.1 t'),(.int p.2 u,.int a.2 u')] 0 s;show kat_cons (YJ ?_);by_cases h:p.1=a.1
 .have z:i=j:=by
   have B:(ps.map (·.1))[i]'(by simpa using m)=(ps.map (·.1))[j]'(by simpa using n):=by
    obtain⟨_,D⟩:=eh.mp d;obtain⟨_,G⟩:=eh.mp c;simp[D,G,h]
   show(XM g).mp B
  subst z;rw[d]at c;cases c;rw[Zp rfl];show kat_yes (kat_cons (YK ?_));rw[show(p.2==p.2)=b6 by simp];show kat_yes (kat_nil ?_);have:cL (p.1.cps.toList<p.1.cps.toList)=cK:=Zo (List.lt_irrefl _);rw[this]at q;show q
 .rw[Zo h];show kat_no (oneLt_str q)
def Cs(x:fi s.heap as ps)(c:(ps.map (·.1)).Nodup)(g:2<=as.length):
  et (hE prog w) A (keyKind' (as.map kr).toArray) (λκ s'=>s'=s/\∀i j,i<(as.map kr).length->j<(as.map kr).length->∀C:Bool->hh->Prop,C (K5 (ps.map (·.1)) i j) s->Yx prog w A κ (as.map kr) i j C s) (λ_ _=>False) s:=by
 have⟨h,d,k,e⟩:=x.jF;show kat_kind (T:=.type "str") d ⋯ (λv f=>?_) rfl ⟨rfl,λi j a b C q=>?_⟩
 .have⟨y,t,rfl⟩:=e v f;show Looks.of_pure rfl
 .rw[c4]at a b;show Cr x c a b q
end
abbrev jG(H:Hp):List (hH×List V)->Hp
 |[]=>H
 |(a,vs)::r=>upd (jG H r) a (.tup vs)
theorem kD:∀{l:List (hH×List V)}{b:hH}{o:HO},jG H l b=bD o->(∃vs,(b,vs)∈l/\o=.tup vs)\/H b=bD o
 |[],b,o,h=>.inr h
 |(a,vs)::r,b,o,h=>by
  by_cases c:b=a
  .subst c;rw[jG,aw]at h;cases h;show .inl ⟨vs,by simp,rfl⟩
  .rw[jG,aj c]at h;rcases kD h with⟨ws,d,e⟩|q
   .show .inl ⟨ws,by simp[d],e⟩
   .show .inr q
theorem kF:∀{l:List (hH×List V)}{b:hH},(∀p∈l,p.1≠b)->jG H l b=H b
 |[],b,_=>rfl
 |(a,vs)::r,b,h=>by
  rw[jG,aj (ro (h _ rr))];show kF λp c=>h p (by simp[c])
theorem sF:∀{l:List (hH×List V)}{b:hH}{vs:List V},(l.map (·.1)).Nodup->(b,vs)∈l->jG H l b=bD (.tup vs)
 |(a,ws)::r,b,vs,d,h=>by
  have c:a∉r.map (·.1)/\(r.map (·.1)).Nodup:=by simpa using d
  rcases gs.mp h with h|h
  .cases h;show aw
  .have:b≠a:=λz=>c.1 (by rw[<-z];show i7.mpr ⟨_,h,rfl⟩);rw[jG,aj this];show sF c.2 h
section
def Inv.many(I:Inv X a σ H s)(k:∀b u,s.heap.get? b=bD u->h'.get? b=bD u)(d:∀b o,H b=bD o->H' b=bD o)
  (f:∀b o,H' b=bD o->H b=bD o\/(s.heap.objs.size<=b/\bE X.prog X.w H' h' b o)):Inv X a σ H' {s with heap:=h',toks:=t' }:=by
 show I.un ⟨λb u q _ _ _=>k b u q,λb u q _ _ _=>⟨u.slots,k b u q⟩,λb u q n _=>?_,λb u q _=>⟨u,k b u q⟩,λb xs q=>d b _ q,λb u xs q=>d b _ q,λb ps q=>⟨#[],by rw[d b _ q];simp⟩⟩ λb o e=>?_
 .cases e:H' b with
  |none=>rfl
  |some o =>
   rcases f b o e with z|⟨z,_⟩
   .rw[n]at z;cases z
   .show absurd (i9 (gc q) z) (uv _)
 .rcases f b o e with z|⟨_,z⟩
  .show(I.Gu b o z).gD (λc v _ q=>k c v q) (λc q=>d c _ q) λc xs q=>d c _ q
  .show z
abbrev Kg(p:zl):List V:=[.str p.1,.int p.2]
def nY{ps:List zl}(hc:X.calm=b6)(I:Inv X g σ H s)(e:H d=bD (.dK (ps.map λp=>((mu p.1:Key),V.int p.2))))(GR:(ps.map (·.1)).Nodup)(IH:ps.length<64)
  (q:∀(as:List hH) (L:hH),as.length=ps.length->as.Nodup->(∀a∈L::as,H a=cb)->L∉as->Q (.ref L) (upd (jG H (as.zip (ps.map Kg))) L (.lst ((jE (ps.map (·.1))).map λi=>V.ref (as.getD i 0))))) :
  et (hE X.prog X.w) X.A (MR (.builtin "dict.items") [.ref d]) (λv s1=>et (hE X.prog X.w) X.A (MR (.builtin "sorted") [v]) (EP X g σ Q) X.xe s1) X.xe s:=by
 have ac:(64:Nat)<=df:=by decide
 have⟨hz,lo,vs,kv,dd⟩:=vT I.Gu e;have C:vs.length=ps.length:=by
  have:=Paired.length kv;simpa using this.symm
 have⟨o,es,ep,r⟩:=id dd;show Ur PySem.F.slot_dict_items (show s.TypeIs (.ref d) "dict" from⟨o,r.1,r.2.1.1⟩) PySem.F.entry_dict_items (PySem.F.args_dict_items_1 _) (YP (aM X.prog X.w) d lo) ⟨⟨vs,dd⟩,?_⟩;change et (hE X.prog X.w) X.A (MR (.builtin "sorted") [.ref s.heap.objs.size]) (EP X g σ Q) X.xe {s with heap:=s.heap.push {cls:=.type "dict_items",data:=.fields #[.ref d]}};have k1:∀b u,s.heap.get? b=bD u->(s.heap.push {cls:=.type "dict_items",data:=.fields #[.ref d]}).get? b=bD u:=λb u z=>dt _ z;have W3:(s.heap.push {cls:=.type "dict_items",data:=.fields #[.ref d]}).DictOf (aM X.prog X.w) d vs:=⟨o,es,ep,k1 _ _ r.1,r.2⟩
 have Iv:(s.heap.push {cls:=.type "dict_items",data:=.fields #[.ref d]}).DictAt (aM X.prog X.w) d vs ep:=⟨o,es,k1 _ _ r.1,r.2⟩
 show UT kind_sorted plain_sorted entry_sorted (args_sorted1 _) ?_;unfold L0.«sorted»;show b5 (m:=checkCount "sorted" 1 1 _) (dV ?_);show b5 (kdx_collect (A:=X.A.in1) (knd:=aM X.prog X.w) (kvs:=vs) (ep:=ep) (I.ok.hd hc) ⟨_,fx _ rfl,rfl,rfl⟩ Iv ⋯ λc tk as hk hl D=>?_);have G:as.length=ps.length:=hl.trans C;have f:∀a∈as,s.heap.objs.size<=a:=λa ha=>by
  have:=D.above a ha;have z:(s.heap.push {cls:=.type "dict_items",data:=.fields #[.ref d]}).objs.size=s.heap.objs.size+1:=Js ..;have SR:(s.heap.push {cls:=.type "dict_items",data:=.fields #[.ref d]}).objs.size<a:=this;lia
 have pa:fi c as ps:=⟨G,λj a ea=>by
  have⟨N,k,x,O,T,e3⟩:=D.pairs j a ea;have B:j<ps.length:=by rw[<-G];show(eh.mp ea).1
  have⟨y,ey,r1,r2⟩:=mD kv (i:=j) (x:=((mu ps[j].1:Key),V.int ps[j].2)) (by simp[B]);rw[O]at ey;cases ey;obtain⟨tx,rfl⟩:∃t,x=.int ps[j].2 t:=r2;have Vf:k=mu ps[j].1:=r1.symm;subst Vf;have⟨t,rfl⟩:=WD (x:=ps[j].1) (v:=N) T;show⟨ps[j],t,tx,by simp[B],e3⟩⟩
 have nd:as.Nodup:=D.rise.imp λh=>hZ h;show b5 (WL ?_ (by rw[c4];lia));have Y:(c.push (w6 "list" (as.map kr).toArray 0)).get? c.objs.size=bD (w6 "list" (as.map kr).toArray 0):=fx _ rfl;change et _ _ _ _ _ {s with heap:=c.push (w6 "list" (as.map kr).toArray 0),toks:=tk};have SS:∀a∈as,a<c.objs.size:=λa ha=>D.there ha;show b5 (tr (H0 Zh ⟨_,Y,rfl⟩ Y3 (uF (lt:=K5 (ps.map (·.1))) Y (by rw[c4];lia) (λh2 s1 ks=>?_) ⟨_,rfl,?_⟩) (Zj _)))
 .show Cs (pa.keeps λb o J z=>ks b o (hZ (SS b J)) (dt _ z)) GR (by rw[c4]at h2;show h2)
 .have⟨ee,he⟩:=sortedHeap_at (out:=((gK (K5 (ps.map (·.1))) (Ls (as.map kr).length)).toList.map λi=>(as.map kr).getD i nH).toArray) Y;have n:∀b o,c.get? b=bD o->(Yn (c.push (w6 "list" (as.map kr).toArray 0)) c.objs.size (as.map kr) ((gK (K5 (ps.map (·.1))) (Ls (as.map kr).length)).toList.map λi=>(as.map kr).getD i nH).toArray).get? b=bD o:=λb o z=>by
   have GO:b<c.objs.size:=gc z;rw[Zg (hZ GO) (by rw[Js];show PM GO)];show dt _ z
  have Lv:s.heap.objs.size<=c.objs.size:=Nt (gc (hk _ _ (fx _ rfl)));have eP:((gK (K5 (ps.map (·.1))) (Ls (as.map kr).length)).toList)=jE (ps.map (·.1)):=by
   unfold jE;rw[c4,c4,G]
  have MB:H c.objs.size=cb:=I.Gu.fresh Lv;have Vg:c.objs.size∉as:=λz=>uv _ (SS _ z);have SU:∀a∈as,H a=cb:=λa ha=>I.Gu.fresh (f a ha);have QN:∀{b:hH} {ws:List V},(b,ws)∈as.zip (ps.map Kg)->b∈as:=λz=>(Oa z).1;show dV ⟨_,rfl,.ref c.objs.size,upd (jG H (as.zip (ps.map Kg))) c.objs.size (.lst ((jE (ps.map (·.1))).map λi=>V.ref (as.getD i 0))),?_,rfl,q as _ G nd (λa ha=>?_) Vg⟩
  .show I.many (λb u z=>n b u (hk b u (k1 b u z))) (λb o z=>?_) λb o z=>?_
   .have n1:b≠c.objs.size:=λy=>by rw[y,MB]at z;cases z
    rw[aj n1,kF λp hp y=>?_]
    .show z
    .have:=SU p.1 (QN (b:=p.1) (ws:=p.2) hp);rw[y,z]at this;cases this
   .by_cases J:b=c.objs.size
    .subst J;rw[aw]at z;cases z;show .inr ⟨Lv,by rw[c4,(fV _).length_eq,G0,c4];lia,(jE (ps.map (·.1))).map λi=>(as.map kr).getD i nH,ee,?_,?_⟩
     .have IC:∀i∈jE (ps.map (·.1)),i<as.length:=λi hi=>by
       have:=va.mp ((fV _).mem_iff.mp hi);rw[c4]at this;lia
      generalize jE (ps.map (·.1))=l at IC;induction l with
      |nil=>show .nil
      |cons i l ih =>
       show .cons ?_ (ih λj B=>IC j (by simp[B]));have hi:=IC i (by simp);change RelV (.ref (as.getD i 0)) ((as.map kr).getD i nH);have:(as.map kr).getD i nH=.ref (as.getD i 0):=by simp[L6,hi]
       rw[this];rfl
     .rw[<-eP];show he
    .rw[aj J]at z;rcases kD z with⟨ws,z1,rfl⟩|z1
     .have⟨j,B,ej⟩:=WH.mp z1;have QO:j<as.length:=by simp at B;lia
      have QM:j<ps.length:=by lia
      have Vh:as[j]=b/\Kg ps[j]=ws:=by simpa using ej
      have⟨rfl,rfl⟩:=Vh;have⟨p,t,u,O,T⟩:=pa.2 j as[j] (by simp[QO]);have:p=ps[j]:=by simpa[QM] using O.symm
      subst this;show .inr ⟨f _ (by simp),by change 2<=df;lia,[.str ps[j].1 t,.int ps[j].2 u],.cons ⟨t,rfl⟩ (.cons ⟨u,rfl⟩ .nil),_,n _ _ T,rfl,0,rfl⟩
     .show .inl z1
  .rcases gs.mp ha with rfl|ha
   .show MB
   .show SU a ha
end
end L2
namespace TM
open PySem L2
inductive U where
 |GC|bl (b:Bool)|int (i:Int)|str (x:Str)
 |tup (xs:List U)|lst (xs:List U)
 |Gp (ks:List Str) (vs:List U)
 |J1 (xs:List U)
mutual
noncomputable def GP:U->Bool
 |.tup xs=>bS xs
 |.lst _=>cK
 |.Gp _ _=>cK
 |.J1 _=>cK
 |.GC=>b6|.bl _=>b6|.int _=>b6|.str _=>b6
noncomputable def bS:List U->Bool
 |[]=>b6
 |u::us=>GP u&&bS us
end
inductive Kd where|own|io|loc|any|bor (j:Nat)|Gm
deriving DecidableEq
abbrev Kd.root:Kd->Bool
 |.own=>b6
 |.io=>b6
 |_=>cK
@[reducible]def av:=List (Option (Kd×U))
structure Ct where
 P:wh
 w:G1
 K:PySem.W.Frag
 H₀:Hp
 IX:hH->Prop
 IO:hH->Prop
abbrev KL(K:PySem.W.Frag)(a:hH)(xs:List V):Prop :=
 ∃(o:Obj) (b:Array d3) (n:Nat),K.lookup a=bD o/\o.cls=.type "list"/\o.dict=cb/\o.data=.seq b n/\b.size<=df/\Vals xs b.toList
abbrev wC(K:PySem.W.Frag)(S:hH->Prop)(H:Hp)(a:hH)(vs:List V):Prop:=(S a/\Rd H a (.lst vs))\/KL K a vs
def wC.sq(h:wC K S H a vs):G2 K H a vs:=h.elim (λz=>.inl z.2) .inr
abbrev Nz(K:PySem.W.Frag)(S:hH->Prop)(H:Hp)(a:hH)(vs:List V):Prop:=S a/\H a=bD (.lst vs)
def Nz.sq(h:Nz K S H a vs):G2 K H a vs:=.inl (.inl h.2)
abbrev K6(H:Hp)(R:List V->Prop)(a:hH)(ks:List Str):Prop:=∃kvs:List (Key×V),H a=bD (.dK kvs)/\kvs.map (·.1)=ks.map mu/\R (kvs.map (·.2))
section
variable(C:Ct)(S:hH->Prop)(H:Hp)
mutual
def Rep:U->V->Prop
 |.GC,v=>v=.GC
 |.bl b,v=>v=.bl b
 |.int i,v=>v=.int i
 |.str x,v=>v=.str x
 |.tup us,v=>∃a vs,v=.ref a/\Hb C.K H a vs/\ak us vs
 |.lst us,v=>∃a vs,v=.ref a/\Nz C.K S H a vs/\ak us vs
 |.Gp ks us,v=>∃a,v=.ref a/\S a/\K6 H (ak us) a ks
 |.J1 us,v=>∃a vs,v=.ref a/\wC C.K S H a vs/\ak us vs
def ak:List U->List V->Prop
 |[],vs=>vs=[]
 |u::us,vs=>∃v r,vs=v::r/\Rep u v/\ak us r
end
end
def Tp:HO->Prop
 |.tup _=>True
 |.HJ _ (.tup _)=>True
 |_=>False
structure Mv(S:hH->Prop)(H:Hp)(S':hH->Prop)(H':Hp):Prop where
 sub:∀a,S a->S' a
 NA:∀a o,H a=bD o->Tp o->H' a=bD o
 OF:∀a o,S a->H a=bD o->H' a=bD o
def Mv.Vi(m:Mv S H S' H')(h:Hb K H a vs):Hb K H' a vs:=by
 rcases h with(h|⟨o,h⟩)|h
 .show .inl (.inl (m.NA a _ h trivial))
 .show .inl (.inr ⟨o,m.NA a _ h trivial⟩)
 .show .inr h
def Mv.F3(m:Mv S H S' H')(h:wC K S H a vs):wC K S' H' a vs:=by
 rcases h with⟨s,h|⟨o,h⟩⟩|h
 .show .inl ⟨m.sub a s,.inl (m.OF a _ s h)⟩
 .show .inl ⟨m.sub a s,.inr ⟨o,m.OF a _ s h⟩⟩
 .show .inr h
def Mv.Vj(m:Mv S H S' H')(h:Nz K S H a vs):Nz K S' H' a vs:=⟨m.sub a h.1,m.OF a _ h.1 h.2⟩
def K6.mv(b:∀o,H a=bD o->H' a=bD o)(c:∀vs,R vs->d vs)(h:K6 H R a ks):K6 H' d a ks :=
 let ⟨kvs,e,f,g⟩:=h;⟨kvs,b _ e,f,c _ g⟩
section
mutual
theorem Rep.Kw(m:Mv S H S' H'):∀(u:U) (v:V),Rep C S H u v->Rep C S' H' u v
 |.GC,_,h=>h
 |.bl _,_,h=>h
 |.int _,_,h=>h
 |.str _,_,h=>h
 |.tup us,v,h=>by
  have⟨a,vs,e,b,c⟩:=h;show⟨a,vs,e,m.Vi b,ak.Kw m us vs c⟩
 |.lst us,v,h=>by
  have⟨a,vs,e,b,c⟩:=h;show⟨a,vs,e,m.Vj b,ak.Kw m us vs c⟩
 |.Gp ks us,v,h=>by
  have⟨a,e,b,c⟩:=h;show⟨a,e,m.sub a b,c.mv (λo q=>m.OF a o b q) λvs q=>ak.Kw m us vs q⟩
 |.J1 us,v,h=>by
  have⟨a,vs,e,b,c⟩:=h;show⟨a,vs,e,m.F3 b,ak.Kw m us vs c⟩
theorem ak.Kw(m:Mv S H S' H'):∀(us:List U) (vs:List V),ak C S H us vs->ak C S' H' us vs
 |[],_,h=>h
 |u::us,vs,h=>by
  have⟨v,r,e,a,b⟩:=h;show⟨v,r,e,Rep.Kw m u v a,ak.Kw m us r b⟩
end
mutual
theorem Rep.uG:∀(u:U) (v:V),GP u=b6->Rep C S H u v->Rep C S' H u v
 |.GC,_,_,h=>h
 |.bl _,_,_,h=>h
 |.int _,_,_,h=>h
 |.str _,_,_,h=>h
 |.tup us,v,i,h=>by
  have⟨a,vs,e,b,c⟩:=h;show⟨a,vs,e,b,ak.uG us vs (by simpa[TM.GP] using i) c⟩
 |.lst us,v,i,h=>by simp[TM.GP]at i
 |.Gp ks us,v,i,h=>by simp[TM.GP]at i
 |.J1 us,v,i,h=>by simp[TM.GP]at i
theorem ak.uG:∀(us:List U) (vs:List V),bS us=b6->ak C S H us vs->ak C S' H us vs
 |[],_,_,h=>h
 |u::us,vs,i,h=>by
  have⟨v,r,e,b,c⟩:=h;have a:TM.GP u=b6/\bS us=b6:=by simpa[bS] using i
  show⟨v,r,e,Rep.uG u v a.1 b,ak.uG us r a.2 c⟩
end
def Rep.mv(m:Mv S H S' H')(h:Rep C S H u v):Rep C S' H' u v:=Rep.Kw m u v h
def ak.mv(m:Mv S H S' H')(h:ak C S H us vs):ak C S' H' us vs:=ak.Kw m us vs h
def Rep.GP(i:TM.GP u=b6)(h:Rep C S H u v):Rep C S' H u v:=Rep.uG u v i h
def ak.GP(i:bS us=b6)(h:ak C S H us vs):ak C S' H us vs:=ak.uG us vs i h
def Mv.up(sub:∀a,S a->S' a):Mv S H S' H:=⟨sub,λ_ _ h _=>h,λ_ _ _ h=>h⟩
theorem ak.len:∀{us:List U}{vs:List V},ak C S H us vs->us.length=vs.length
 |[],_,h=>by cases h;rfl
 |u::us,vs,h=>by
  obtain⟨v,r,rfl,_,a⟩:=h;rw[js,js,ak.len a]
theorem ak.get:∀{us:List U}{vs:List V}{i:Nat}{u:U},ak C S H us vs->us[i]?=bD u->∃v,vs[i]?=bD v/\Rep C S H u v
 |[],_,_,_,_,e=>by simp at e
 |u::us,vs,0,w,h,e=>by
  obtain⟨v,r,rfl,a,_⟩:=h;simp at e;subst e;show⟨v,rfl,a⟩
 |u::us,vs,i+1,w,h,e=>by
  obtain⟨v,r,rfl,_,b⟩:=h;have⟨c,d,h'⟩:=ak.get (i:=i) (u:=w) b (by simpa using e);show⟨c,by simpa using d,h'⟩
theorem ak.append:∀{us ws:List U}{vs ys:List V},ak C S H us vs->ak C S H ws ys->ak C S H (us++ws) (vs++ys)
 |[],_,_,_,h,h'=>by cases h;show h'
 |u::us,ws,vs,ys,h,h'=>by
  have⟨v,r,rfl,a,b⟩:=h;show⟨v,r++ys,rfl,a,b.append h'⟩
theorem ak.take:∀{us:List U}{vs:List V} (n:Nat),ak C S H us vs->ak C S H (us.take n) (vs.take n)
 |_,_,0,_=>by simp[ak]
 |[],_,n+1,h=>by cases h;simp[ak]
 |u::us,vs,n+1,h=>by
  have⟨v,r,rfl,a,b⟩:=h;show⟨v,r.take n,rfl,a,b.take n⟩
theorem ak.drop:∀{us:List U}{vs:List V} (n:Nat),ak C S H us vs->ak C S H (us.drop n) (vs.drop n)
 |_,_,0,h=>h
 |[],_,n+1,h=>by cases h;simp[ak]
 |u::us,vs,n+1,h=>by
  have⟨v,r,rfl,b,a⟩:=h;show a.drop n
theorem ak.set:∀{us:List U}{vs:List V} (n:Nat) {u:U}{v:V},ak C S H us vs->Rep C S H u v->ak C S H (us.set n u) (vs.set n v)
 |[],_,n,_,_,h,_=>by cases h;simp[ak]
 |u::us,vs,0,_,_,h,h'=>by
  have⟨v,r,rfl,b,a⟩:=h;show⟨_,r,rfl,h',a⟩
 |u::us,vs,n+1,_,_,h,h'=>by
  have⟨v,r,rfl,b,a⟩:=h;show⟨v,_,rfl,b,a.set n h'⟩
def ak.snoc(h:ak C S H us vs)(h':Rep C S H u v):ak C S H (us++[u]) (vs++[v]):=h.append ⟨v,[],rfl,h',rfl⟩
theorem ak.strs:∀{xs:List Str}{vs:List V},ak C S H (xs.map .str) vs↔vs=xs.map V.str
 |[],vs=>by simp[ak]
 |x::xs,vs=>by
  constructor
  .rintro⟨v,r,rfl,a,b⟩;rw[ak.strs.mp b];have:v=.str x:=a;rw[this];rfl
  .rintro rfl;show⟨_,_,rfl,rfl,ak.strs.mpr rfl⟩
end
structure Ct.Eqv(C C':Ct):Prop where
 P:C.P=C'.P
 w:C.w=C'.w
 K:C.K=C'.K
section
mutual
theorem Rep.Kx(q:C.Eqv d):∀(u:U) (v:V),Rep C S H u v->Rep d S H u v
 |.GC,_,h=>h
 |.bl _,_,h=>h
 |.int _,_,h=>h
 |.str _,_,h=>h
 |.tup us,v,h=>by
  have⟨a,vs,e,b,c⟩:=h;show⟨a,vs,e,q.K▸b,ak.Kx q us vs c⟩
 |.lst us,v,h=>by
  have⟨a,vs,e,b,c⟩:=h;show⟨a,vs,e,q.K▸b,ak.Kx q us vs c⟩
 |.Gp ks us,v,h=>by
  have⟨a,e,b,c⟩:=h;show⟨a,e,b,c.mv (λ_ q=>q) λvs z=>ak.Kx q us vs z⟩
 |.J1 us,v,h=>by
  have⟨a,vs,e,b,c⟩:=h;show⟨a,vs,e,q.K▸b,ak.Kx q us vs c⟩
theorem ak.Kx(q:C.Eqv a):∀(us:List U) (vs:List V),ak C S H us vs->ak a S H us vs
 |[],_,h=>h
 |u::us,vs,h=>by
  have⟨v,r,e,b,c⟩:=h;show⟨v,r,e,Rep.Kx q u v b,ak.Kx q us r c⟩
end
def Rep.cg(q:C.Eqv a)(h:Rep C S H u v):Rep a S H u v:=Rep.Kx q u v h
def ak.cg(q:C.Eqv a)(h:ak C S H us vs):ak a S H us vs:=ak.Kx q us vs h
end
def cQ(C:Ct)(S:hH->Prop)(H:Hp)(r:hH):U->Prop
 |.lst us=>∃vs,H r=bD (.lst vs)/\ak C S H us vs
 |.Gp ks us=>K6 H (ak C S H us) r ks
 |_=>False
def cQ.mv(m:Mv S H S' H')(a:∀o,H r=bD o->H' r=bD o)(h:cQ C S H r u):cQ C S' H' r u:=by
 cases u with
 |lst us=>have⟨vs,b,c⟩:=h;show⟨vs,a _ b,c.mv m⟩
 |Gp ks us=>show K6.mv a (λvs q=>q.mv m) h
 |_=>show h
def cQ.rep(hs:∀a,S a->S' a)(b:S' r)(h:cQ C S H r u):Rep C S' H u (.ref r):=by
 cases u with
 |lst us=>have⟨vs,c,d⟩:=h;show⟨r,vs,rfl,⟨b,c⟩,d.mv (.up hs)⟩
 |Gp ks us=>show⟨r,rfl,b,K6.mv (λ_ q=>q) (λvs q=>q.mv (.up hs)) h⟩
 |_=>show h.elim
def cQ.cg(q:C.Eqv a)(h:cQ C S H r u):cQ a S H r u:=by
 cases u with
 |lst us=>have⟨vs,b,c⟩:=h;show⟨vs,b,c.cg q⟩
 |Gp ks us=>show K6.mv (λ_ q=>q) (λvs z=>z.cg q) h
 |_=>show h
def cQ.some(h:cQ C S H r u):∃o,H r=bD o/\¬Tp o:=by
 cases u with
 |lst us=>obtain⟨vs,a,_⟩:=h;show⟨_,a,λz=>z⟩
 |Gp ks us=>obtain⟨kvs,a,_⟩:=h;show⟨_,a,λz=>z⟩
 |_=>show h.elim
structure Cf where
 S:hH->Prop
 H:Hp
 σ:St
 st:av
 kid:Nat->List hH
abbrev Cf.R1(c:Cf)(a:hH):Prop:=∃(j:Nat) (k:Kd) (u:U),k.root=b6/\c.st[j]?=bD (bD (k,u))/\c.σ[j]?=bD (bD (.ref a))
abbrev Cf.RD(c:Cf)(j:Nat)(a:hH):Prop:=∃(u:U) (r:hH),c.st[j]?=bD (bD (.Gm,u))/\c.σ[j]?=bD (bD (.ref r))/\(a=r\/a∈c.kid j)
abbrev Cf.R(c:Cf)(a:hH):Prop:=c.R1 a\/∃j,c.RD j a
abbrev Cf.MC(c:Cf)(a:hH):Prop:=∃j,c.RD j a
abbrev PS(C:Ct)(S:hH->Prop):hH->Prop:=λa=>C.IX a\/S a
def fG(C:Ct)(S:hH->Prop)(H:Hp):Kd->U->V->Prop
 |.own,u,v=>∃r,v=.ref r/\¬S r/\¬C.IX r/\C.H₀ r=cb/\cQ C S H r u
 |.io,u,v=>∃r,v=.ref r/\¬S r/\¬C.IX r/\C.IO r/\cQ C S H r u
 |.loc,u,v=>Rep C S H u v
 |.any,u,v=>Rep C (PS C S) H u v
 |.bor _,_,_=>False
 |.Gm,_,v=>∃r,v=.ref r
def da(C:Ct)(S:hH->Prop)(H:Hp):List U->List hH->Prop
 |[],as=>as=[]
 |u::us,as=>∃a as' ys vs,as=a::as'/\u=.lst ys/\H a=bD (.lst vs)/\ak C S H ys vs/\da C S H us as'
def cj(C:Ct)(S:hH->Prop)(H:Hp)(r:hH)(as:List hH):U->Prop
 |.Gp ks us=>∃kvs:List (Key×V),H r=bD (.dK kvs)/\kvs.map (·.1)=ks.map mu/\kvs.map (·.2)=as.map V.ref/\(r::as).Nodup/\(∀a∈r::as,¬S a/\¬C.IX a/\C.H₀ a=cb)/\da C S H us as
 |_=>False
structure JH(C:Ct)(c:Cf):Prop where
 kd:∀(j:Nat) (u:U) (r:hH),c.st[j]?=bD (bD (.Gm,u))->c.σ[j]?=bD (bD (.ref r))->cj C c.S c.H r (c.kid j) u
 dj:∀(i j:Nat) (a:hH),c.RD i a->c.RD j a->i=j
 d1:∀(j:Nat) (a:hH),c.RD j a->¬c.R1 a
structure Ok(C:Ct)(c:Cf):Prop where
 same:∀a o,C.H₀ a=bD o->¬C.IO a->c.H a=bD o
 Iy:∀a,c.S a->C.H₀ a=cb/\∃o,c.H a=bD o
 par:∀a,C.IX a->(∃o,C.H₀ a=bD o)/\¬C.IO a
 io:∀a,C.IO a->(∃o,C.H₀ a=bD o)/\∃o,c.H a=bD o
 len:c.st.length=c.σ.length
 sl:∀(i:Nat) (k:Kd) (u:U),c.st[i]?=bD (bD (k,u))->∃v,c.σ[i]?=bD (bD v)/\fG C c.S c.H k u v
 inj:∀(i j:Nat) (k k':Kd) (u u':U) (r:hH),k.root=b6->k'.root=b6->c.st[i]?=bD (bD (k,u))->c.st[j]?=bD (bD (k',u'))->c.σ[i]?=bD (bD (.ref r))->c.σ[j]?=bD (bD (.ref r))->i=j
 dd:JH C c
structure Ns(c c':Cf):Prop where
 keep:∀a o,c.H a=bD o->¬c.R a->c'.H a=bD o
 there:∀a o,c.H a=bD o->∃o',c'.H a=bD o'
 roots:∀a,c'.R a->c.R a\/c.H a=cb
 sub:∀a,c.S a->c'.S a
 new:∀a,c'.S a->c.S a\/c.R a\/c.H a=cb
section
def Ns.refl(c:Cf):Ns c c:=⟨λ_ _ h _=>h,λ_ o h=>⟨o,h⟩,λ_ h=>.inl h,λ_ h=>h,λ_ h=>.inl h⟩
def Ns.none(n:Ns c b)(h:b.H a=.none):c.H a=.none:=by
 cases e:c.H a with
 |none=>rfl
 |some o=>have⟨o',q⟩:=n.there a o e;rw[h]at q;cases q
def Ns.trans(m:Ns c d)(n:Ns d e):Ns c e where
 keep:=λa o h b=>by
  show n.keep a o (m.keep a o h b) λz=>?_;rcases m.roots a z with z|z
  .show b z
  .rw[h]at z;cases z
 there:=λa o h=>let ⟨o',h'⟩:=m.there a o h;n.there a o' h'
 roots:=λa h=>by
  rcases n.roots a h with z|z
  .show m.roots a z
  .show .inr (m.none z)
 sub:=λa h=>n.sub a (m.sub a h)
 new:=λa h=>by
  rcases n.new a h with z|z|z
  .show m.new a z
  .rcases m.roots a z with z|z
   .show .inr (.inl z)
   .show .inr (.inr z)
  .show .inr (.inr (m.none z))
def fG.rt(hk:k.root=b6)(h:fG C S H k u v):∃r,v=.ref r/\¬S r/\¬C.IX r/\(C.H₀ r=cb\/C.IO r)/\cQ C S H r u:=by
 cases k with
 |own=>have⟨r,a,b,c,d,e⟩:=h;show⟨r,a,b,c,.inl d,e⟩
 |io=>have⟨r,a,b,c,d,e⟩:=h;show⟨r,a,b,c,.inr d,e⟩
 |_=>cases hk
theorem da.mem:∀{us:List U}{as:List hH}{a:hH},da C S H us as->a∈as->∃vs,H a=bD (.lst vs)
 |[],as,a,h,ha=>by cases h;cases ha
 |u::us,as,a,h,ha=>by
  obtain⟨a',as',ys,vs,rfl,_,b,_,c⟩:=h;rcases gs.mp ha with rfl|ha
  .show⟨vs,b⟩
  .show da.mem c ha
theorem da.mv(m:Mv S H S' H'):∀{us:List U}{as:List hH},(∀a∈as,∀o,H a=bD o->H' a=bD o)->da C S H us as->da C S' H' us as
 |[],as,_,h=>h
 |u::us,as,b,h=>by
  have⟨a,as',ys,vs,rfl,e,c,d,f⟩:=h;show⟨a,as',ys,vs,rfl,e,b a (by simp) _ c,d.mv m,da.mv m (λa g=>b a (by simp[g])) f⟩
def cj.fr(h:cj C S H r as u):∀a∈r::as,¬S a/\¬C.IX a/\C.H₀ a=cb:=by
 cases u<;>first|show h.elim|(obtain⟨kvs,_,_,_,_,b,_⟩:=h;show b)
def cj.there(h:cj C S H r as u):∀a∈r::as,∃o,H a=bD o/\¬Tp o:=by
 cases u<;>first|show h.elim|skip
 obtain⟨kvs,b,_,_,_,_,c⟩:=h;intro a ha;rcases gs.mp ha with rfl|ha
 .show⟨_,b,λz=>z⟩
 .have⟨vs,e⟩:=c.mem ha;show⟨_,e,λz=>z⟩
def cj.mv(m:Mv S H S' H')(c:∀a∈r::as,¬S' a/\∀o,H a=bD o->H' a=bD o)(h:cj C S H r as u):cj C S' H' r as u:=by
 cases u<;>first|show h.elim|skip
 have⟨kvs,d,e,f,g,i,j⟩:=h;show⟨kvs,(c r (by simp)).2 _ d,e,f,g,λa b=>⟨(c a b).1,(i a b).2⟩,j.mv m λa b=>(c a (by simp[b])).2⟩
def JH.of(d:JH C c)(hk:e.kid=c.kid)(p:∀(j:Nat) (u:U),e.st[j]?=bD (bD (.Gm,u))->c.st[j]?=bD (bD (.Gm,u))/\e.σ[j]?=c.σ[j]?)(s:∀a,e.R1 a->c.R1 a\/∀j,¬c.RD j a)
  (m:Mv c.S c.H e.S e.H) (t:∀j a,c.RD j a->¬e.S a/\∀o,c.H a=bD o->e.H a=bD o):JH C e:=by
 have b:∀j a,e.RD j a->c.RD j a:=λj a v=>by
  have⟨u,r,k,f,q⟩:=v;have⟨g,l⟩:=p j u k;rw[l]at f;rw[hk]at q;show⟨u,r,g,f,q⟩
 show⟨λj u r k f=>?_,λi j a h n=>d.dj i j a (b i a h) (b j a n),λj a h n=>?_⟩
 .have⟨g,l⟩:=p j u k;rw[l]at f;rw[hk];show cj.mv m (λa w=>t j a ⟨u,r,g,f,gs.mp w⟩) (d.kd j u r g f)
 .rcases s a n with z|z
  .show d.d1 j a (b j a h) z
  .show z j (b j a h)
def JH.hs(d:JH C c)(m:Mv c.S c.H S' H')(b:∀j a,c.RD j a->¬S' a/\∀o,c.H a=bD o->H' a=bD o):JH C {c with H:=H',S:=S' } :=
 d.of rfl (λ_ _ e=>⟨e,rfl⟩) (λ_ z=>.inl z) m b
def Ok.root(f:Ok C c)(h:c.R r):¬c.S r/\¬C.IX r/\(C.H₀ r=cb\/C.IO r)/\∃o,c.H r=bD o/\¬Tp o:=by
 rcases h with⟨j,k,u,hk,b,d⟩|⟨j,u,g,b,d,a⟩
 .have⟨v,e,hs⟩:=f.sl j _ _ b;have⟨g,ev,a,l,m,n⟩:=hs.rt hk;rw[d]at e;cases e;cases ev;show⟨a,l,m,n.some⟩
 .have i:=f.dd.kd j u g b d;have⟨p,q,s⟩:=cj.fr i r (gs.mpr a);show⟨p,q,.inl s,cj.there i r (gs.mpr a)⟩
def Ok.mv(b:Ok C c)(n:Ns c d):Mv c.S c.H d.S d.H:=⟨n.sub,λa o h t=>n.keep a o h λz=>by
  obtain⟨_,_,_,o',h',e⟩:=b.root z;rw[h]at h';cases h';show e t,λa o s h=>n.keep a o h λz=>(b.root z).1 s⟩
def Ok.Ky(b:Ok C c)(n:Ns c d):Mv (PS C c.S) c.H (PS C d.S) d.H:=⟨λa h=>h.imp id (n.sub a),(b.mv n).NA,λa o s h=>n.keep a o h λz=>by
  rcases s with s|s
  .show(b.root z).2.1 s
  .show(b.root z).1 s⟩
def Ok.iU(a:Ok C c)(h:c.H p=cb):C.H₀ p=cb/\¬c.S p/\¬C.IX p/\¬C.IO p/\¬c.R p:=by
 have b:¬C.IO p:=λz=>by obtain⟨_,o,q⟩:=a.io p z;rw[h]at q;cases q
 have d:C.H₀ p=cb:=by
  cases e:C.H₀ p with
  |none=>rfl
  |some o=>have:=a.same p o e b;rw[h]at this;cases this
 show⟨d,λz=>?_,λz=>?_,b,λz=>?_⟩
 .obtain⟨_,o,q⟩:=a.Iy p z;rw[h]at q;cases q
 .obtain⟨⟨o,q⟩,_⟩:=a.par p z;rw[d]at q;cases q
 .obtain⟨_,_,_,o,q,_⟩:=a.root z;rw[h]at q;cases q
def fG.mv(m:Mv S H S' H')(i:Mv (PS C S) H (PS C S') H')(g:k.root=b6->∀r,v=.ref r->¬S' r/\∀o,H r=bD o->H' r=bD o)(h:fG C S H k u v):fG C S' H' k u v:=by
 cases k with
 |own =>
  have⟨r,e,l,a,b,c⟩:=h;have⟨d,f⟩:=g rfl r e;show⟨r,e,d,a,b,c.mv m f⟩
 |io =>
  have⟨r,e,l,a,b,c⟩:=h;have⟨d,f⟩:=g rfl r e;show⟨r,e,d,a,b,c.mv m f⟩
 |loc=>show Rep.mv m h
 |any=>show Rep.mv i h
 |bor j=>show h.elim
 |Gm=>show h
structure Nx(c c':Cf):Prop extends Ns c c' where
 dk:∀a,c'.MC a->c.MC a/\∀o,c.H a=bD o->c'.H a=bD o
instance {c a:Cf}:Coe (Nx c a) (Ns c a):=⟨Nx.toNs⟩
def Nx.refl(c:Cf):Nx c c:=⟨.refl c,λ_ h=>⟨h,λ_ e=>e⟩⟩
def Nx.trans(m:Nx c b)(n:Nx b d):Nx c d:=⟨m.toNs.trans n.toNs,λa h=>⟨(m.dk a (n.dk a h).1).1,λo e=>(n.dk a h).2 o ((m.dk a (n.dk a h).1).2 o e)⟩⟩
def Nx.none(n:Nx c b)(h:b.H a=.none):c.H a=.none:=n.toNs.none h
def Ok.lay(b:Ok C c)(h:c.H p=cb):Ok C {c with H:=upd c.H p o}/\Nx c {c with H:=upd c.H p o}:=by
 have l:∀{a:hH} {o':HO},c.H a=bD o'->a≠p:=λe z=>by subst z;rw[h]at e;cases e
 have d:∀a o',c.H a=bD o'->(upd c.H p o) a=bD o':=λa o' e=>by rw[aj (l e)];show e
 have nx:Nx c {c with H:=upd c.H p o}:=⟨⟨λa o' e _=>d a o' e,λa o' e=>⟨o',d a o' e⟩,λa z=>.inl z,λ_ z=>z,λ_ z=>.inl z⟩,λa h=>⟨h,d a⟩⟩
 show⟨⟨λa o' e z=>d a o' (b.same a o' e z),λa z=>⟨(b.Iy a z).1,let ⟨o',q⟩:=(b.Iy a z).2;⟨o',d a o' q⟩⟩,b.par,λa z=>⟨(b.io a z).1,let ⟨o',q⟩:=(b.io a z).2;⟨o',d a o' q⟩⟩,b.len,λi k u e=>?_,b.inj,b.dd.hs (b.mv nx.toNs) λj a z=>⟨(b.root (.inr ⟨j,z⟩)).1,λo' e=>d a o' e⟩⟩,nx⟩;have⟨v,m,f⟩:=b.sl i k u e;show⟨v,m,f.mv (b.mv nx.toNs) (b.Ky nx.toNs) λhk r n=>?_⟩;obtain⟨t,g,s,_⟩:=f.rt hk;rw[n]at g;cases g;show⟨s,λo' e=>d r o' e⟩
def Ok.grow(b:Ok C c)(hs:y9 c.H H')(g:∀a,S' a->c.S a\/(c.H a=cb/\∃o,H' a=bD o))(s:∀a,c.S a->S' a):Ok C {c with H:=H',S:=S' }/\Nx c {c with H:=H',S:=S' }:=by
 have nx:Nx c {c with H:=H',S:=S' }:=⟨⟨λa o' e _=>hs a o' e,λa o' e=>⟨o',hs a o' e⟩,λa z=>.inl z,s,λa z=>(g a z).imp id λq=>.inr q.1⟩,λa h=>⟨h,hs a⟩⟩
 show⟨⟨λa o' e z=>hs a o' (b.same a o' e z),λa z=>?_,b.par,λa z=>⟨(b.io a z).1,let ⟨o',q⟩:=(b.io a z).2;⟨o',hs a o' q⟩⟩,b.len,λi k u e=>?_,b.inj,b.dd.hs (b.mv nx.toNs) λj a z=>⟨λd=>?_,λo' e=>hs a o' e⟩⟩,nx⟩
 rotate_left 2
 .obtain⟨f,_,_,o,l,_⟩:=b.root (.inr ⟨j,z⟩);rcases g a d with d|⟨d,_⟩
  .show f d
  .rw[l]at d;cases d
 .rcases g a z with q|⟨f,m⟩
  .show⟨(b.Iy a q).1,let ⟨o',q⟩:=(b.Iy a q).2;⟨o',hs a o' q⟩⟩
  .show⟨(b.iU f).1,m⟩
 .have⟨v,t,n⟩:=b.sl i k u e;show⟨v,t,n.mv (b.mv nx.toNs) (b.Ky nx.toNs) λhk r w=>?_⟩;have⟨x,p,f,m,y,l⟩:=n.rt hk;rw[w]at p;cases p;obtain⟨o,ho,_⟩:=l.some;show⟨λz=>?_,λo' e=>hs r o' e⟩;rcases g r z with z|⟨z,_⟩
  .show f z
  .rw[z]at ho;cases ho
def aO(C:Ct)(c0 c:Cf):Kd->U->V->Prop
 |.own,u,v=>∃r,v=.ref r/\c0.H r=cb/\¬c.S r/\¬c.R r/\cQ C c.S c.H r u
 |.loc,u,v=>Rep C c.S c.H u v
 |.any,u,v=>Rep C (PS C c.S) c.H u v
 |.bor j,u,v=>(∃k:Kd,k.root=b6/\c.st[j]?=bD (bD (k,u)))/\c.σ[j]?=bD (bD v)
 |.io,_,_=>False
 |.Gm,_,_=>False
def fH(C:Ct)(c0 c:Cf):Kd->U->V->Prop
 |.own,u,v=>∃r,v=.ref r/\c0.H r=cb/\¬c.S r/\¬c.R r/\cQ C c.S c.H r u
 |.loc,u,v=>Rep C c.S c.H u v
 |.any,u,v=>Rep C (PS C c.S) c.H u v
 |.bor j,u,v=>c.σ[j]?=bD (bD v)
 |.io,_,_=>False
 |.Gm,_,_=>False
def aO.w(h:aO C c0 c k u v):fH C c0 c k u v:=by
 cases k with
 |bor j=>show h.2
 |_=>show h
def fH.SV(a:Ok C c)(n:Ns c b)(g:∀j,k=.bor j->b.σ[j]?=c.σ[j]?)(h:fH C c0 c k u v):fH C c0 b k u v:=by
 cases k with
 |own =>
  have⟨r,e,i,l,d,f⟩:=h;obtain⟨o,ho,_⟩:=f.some;show⟨r,e,i,λz=>?_,λz=>?_,f.mv (a.mv n) λo q=>n.keep r o q d⟩
  .rcases n.new r z with z|z|z
   .show l z
   .show d z
   .rw[z]at ho;cases ho
  .rcases n.roots r z with z|z
   .show d z
   .rw[z]at ho;cases ho
 |loc=>show Rep.mv (a.mv n) h
 |any=>show Rep.mv (a.Ky n) h
 |bor j=>change b.σ[j]?=_;rw[g j rfl];show h
 |_=>show h
def fH.on(b:Ok C c)(n:Ns c a)(d:a.σ=c.σ)(h:fH C c0 c k u v):fH C c0 a k u v:=h.SV b n λj _=>by rw[d]
def fH.from(n:Ns c0 c1)(h:fH C c1 c k u v):fH C c0 c k u v:=by
 cases k with
 |own=>have⟨r,e,a,b⟩:=h;show⟨r,e,n.none a,b⟩
 |_=>show h
def aO.from(n:Ns c0 c1)(h:aO C c1 c k u v):aO C c0 c k u v:=by
 cases k with
 |own=>have⟨r,e,a,b⟩:=h;show⟨r,e,n.none a,b⟩
 |_=>show h
def SK(C:Ct)(c:Cf):Kd->hH->Prop
 |.any=>PS C c.S
 |_=>c.S
abbrev kE:Kd->Kd
 |.any=>.any
 |_=>.loc
def Ok.rootOf(b:Ok C c){j:Nat}(h:∃k:Kd,k.root=b6/\c.st[j]?=bD (bD (k,u)))(e:c.σ[j]?=bD (bD v)):∃r,v=.ref r/\¬c.S r/\¬C.IX r/\(C.H₀ r=cb\/C.IO r)/\cQ C c.S c.H r u:=by
 have⟨k,hk,h⟩:=h;have⟨f,a,d⟩:=b.sl j _ _ h;rw[e]at a;cases a;show d.rt hk
def aO.list(f:Ok C c)(h:aO C c0 c k (.lst us) v):∃a vs,v=.ref a/\G2 C.K c.H a vs/\ak C (SK C c k) c.H us vs:=by
 cases k with
 |own=>obtain⟨r,e,_,_,_,vs,b,d⟩:=h;show⟨r,vs,e,G2.of b,d⟩
 |bor j=>obtain⟨r,e,_,_,_,vs,b,d⟩:=f.rootOf h.1 h.2;show⟨r,vs,e,G2.of b,d⟩
 |io=>show h.elim
 |Gm=>show h.elim
 |_=>have⟨a,vs,e,b,d⟩:=h;show⟨a,vs,e,b.sq,d⟩
def aO.tuple(b:Ok C c)(h:aO C c0 c k (.tup us) v):∃a vs,v=.ref a/\Hb C.K c.H a vs/\ak C (SK C c k) c.H us vs:=by
 cases k with
 |own=>obtain⟨r,e,_,_,_,h⟩:=h;show h.elim
 |bor j=>obtain⟨r,e,_,_,_,h⟩:=b.rootOf h.1 h.2;show h.elim
 |io=>show h.elim
 |Gm=>show h.elim
 |_=>have⟨a,vs,e,d,f⟩:=h;show⟨a,vs,e,d,f⟩
def aO.flat(b:Ok C c)(a:GP u=b6)(h:aO C c0 c k u v):Rep C c.S c.H u v:=by
 cases k with
 |own=>obtain⟨r,e,_,_,_,h⟩:=h;cases u<;>simp[GP]at a<;>show h.elim
 |loc=>show h
 |any=>show Rep.GP a h
 |bor j=>obtain⟨r,e,_,_,_,h⟩:=b.rootOf h.1 h.2;cases u<;>simp[GP]at a<;>show h.elim
 |_=>show h.elim
def aO.int(a:Ok C c)(h:aO C c0 c k (.int i) v):v=.int i:=h.flat a rfl
def aO.str(a:Ok C c)(h:aO C c0 c k (.str x) v):v=.str x:=h.flat a rfl
def aO.bl(a:Ok C c)(h:aO C c0 c k (.bl b) v):v=.bl b:=h.flat a rfl
def aO.item(h:Rep C (SK C c k) c.H u v):aO C c0 c (kE k) u v:=by
 cases k<;>show h
abbrev Ig(H:Hp):hH->Prop:=λa=>∃o,H a=bD o
def Ok.wD(b:Ok C c):∀a,c.S a->Ig c.H a:=λa h=>(b.Iy a h).2
def Ok.Ec(b:Ok C c):∀a,PS C c.S a->Ig c.H a:=λa h=>by
 rcases h with h|h
 .obtain⟨⟨o,e⟩,n⟩:=b.par a h;show⟨o,b.same a o e n⟩
 .show b.wD a h
def aO.read(a:Ok C c)(h:aO C c0 c k u v):Rep C (Ig c.H) c.H u v:=by
 cases k with
 |own =>
  obtain⟨r,e,_,_,_,b⟩:=h;rw[e];obtain⟨o,ho,_⟩:=b.some;show b.rep a.wD ⟨o,ho⟩
 |loc=>show Rep.mv (.up a.wD) h
 |any=>show Rep.mv (.up a.Ec) h
 |bor j =>
  obtain⟨r,e,_,_,_,b⟩:=a.rootOf h.1 h.2;rw[e];obtain⟨o,ho,_⟩:=b.some;show b.rep a.wD ⟨o,ho⟩
 |_=>show h.elim
def Ok.newList(a:Ok C c)(n:Nx c0 c)(h:c.H p=cb)(d:ak C c.S c.H us vs):
  Ok C {c with H:=upd c.H p (.lst vs)}/\Nx c0 {c with H:=upd c.H p (.lst vs)}/\aO C c0 {c with H:=upd c.H p (.lst vs)} .own (.lst us) (.ref p):=by
 have⟨e,b⟩:=a.lay (o:=.lst vs) h;have⟨i,f,j,k,g⟩:=a.iU h;show⟨e,n.trans b,p,rfl,n.none h,f,g,vs,aw,d.mv (a.mv b.toNs)⟩
def Ok.Cu(a:Ok C c)(n:Nx c0 c)(h:c.H p=cb)(d:ak C c.S c.H us vs):
  Ok C {c with H:=upd c.H p (.tup vs)}/\Nx c0 {c with H:=upd c.H p (.tup vs)}/\aO C c0 {c with H:=upd c.H p (.tup vs)} .loc (.tup us) (.ref p):=by
 have⟨e,b⟩:=a.lay (o:=.tup vs) h;show⟨e,n.trans b,p,vs,rfl,Hb.of aw,d.mv (a.mv b.toNs)⟩
end
inductive Ex(α:Type) where|ok (a:α)|exc (c:Str)
abbrev M(α:Type):=av->Option (Ex α×av)
namespace M
abbrev pure(a:α):M α:=λst=>bD (.ok a,st)
abbrev fail:M α:=λ_=>cb
abbrev bind(m:M α)(f:α->M β):M β:=λst=>match m st with
 |none=>cb
 |some (.ok a,st')=>f a st'
 |some (.exc c,st')=>bD (.exc c,st')
abbrev GQ(o:Option α):M α:=λst=>match o with
 |none=>cb
 |some a=>bD (.ok a,st)
end M
noncomputable instance:Monad M:={pure:=M.pure,bind:=M.bind}
abbrev W{α:Type}(m:M α)(st:av)(Q:α->av->Prop):Prop:=∃a st',m st=bD (.ok a,st')/\Q a st'
section
def ao:W (pure a) st Q↔Q a st:=by
 constructor
 .rintro⟨b,st',e,h⟩;cases e;show h
 .intro h;show⟨a,st,rfl,h⟩
def ah:W (m >>= f) st Q↔W m st λa st'=>W (f a) st' Q:=by
 constructor
 .rintro⟨b,st',e,h⟩;have d:M.bind m f st=bD (.ok b,st'):=e;unfold M.bind at d;cases q:m st with
  |none=>rw[q]at d;cases d
  |some r =>
   have⟨r,s1⟩:=r;rw[q]at d;cases r with
   |ok a=>show⟨a,s1,q,b,st',d,h⟩
   |exc c=>cases d
 .rintro⟨a,s1,q,b,st',e,h⟩;show⟨b,st',?_,h⟩;change M.bind m f st=_;unfold M.bind;rw[q];show e
def cD:W (M.GQ o) st Q↔∃a,o=bD a/\Q a st:=by
 cases o with
 |none=>show⟨λ⟨_,_,e,_⟩=>(by cases e),λ⟨_,e,_⟩=>(by cases e)⟩
 |some a=>show⟨λ⟨_,_,e,h⟩=>(by cases e;show⟨a,rfl,h⟩),λ⟨_,e,h⟩=>(by cases e;show⟨a,st,rfl,h⟩)⟩
def bf:W (M.fail:M α) st Q↔False:=⟨λ⟨_,_,e,_⟩=>(by cases e),LB⟩
def W.mono(h:W m st Q)(i:∀a s,Q a s->Q' a s):W m st Q':=let ⟨a,s,e,q⟩:=h;⟨a,s,e,i a s q⟩
end
inductive OG where|add|sub|mul|LD|mod|pow
deriving DecidableEq
inductive NB where|eq|ne|lt|le|gt|ge|isin|GG|is|QP
deriving DecidableEq
inductive Bf where|len|sorted|list|tuple|str|int|repr|max|min|all|any
deriving DecidableEq
inductive B2 where|J2|Iq|sset|j8
deriving DecidableEq
inductive Mf where|split|join|partition|endswith
deriving DecidableEq
inductive Vk where|str|list|tuple|int|bool
deriving DecidableEq
inductive Ik where|seq|H9|Vl|Kz|zip|rev
deriving DecidableEq
inductive E where
 |var (i:Nat)
 |cst (u:U)
 |LF (x:Str) (u:U)
 |bin (op:OG) (a b:E)
 |cmp (op:NB) (a b:E)
 |J3 (o1 o2:NB) (a b c:E)
 |and (es:List E)|or (es:List E)|not (a:E)
 |ite (c a b:E)
 |tup (es:List E)|lst (es:List E)|H_ (r:Bool)
 |idx (a b:E)
 |JJ (a:E) (lo hi:List E)
 |bi (f:Bf) (es:List E)
 |KA (f:B2) (es:List E)
 |K7 (m:Mf) (a:E) (es:List E)
 |call (f:Str) (es:List E)
 |comp (k:Nat) (t:Bool) (ik:Ik) (src:List E) (cond:List E) (e:E)
 |neg (a:E)|bad|OH (a:E) (T:Vk)|fst (es:List E)|inD (neg:Bool) (a:E) (i:Nat)|MD (i:Nat)|IY (i:Nat) (k d:E)|ME (i:Nat)|KC (ln:Bool) (a b:E)
 |Gq (f:Str) (es:List E) (is:List Nat)
 |pop (i:Nat)|KD (i:Nat) (e:E)
 |K8 (f:Str) (es:List E)
inductive S where
 |set (i:Nat) (e:E)
 |IZ (is:List Nat) (e:E)
 |put (i:Nat) (k v:E)
 |app (i:Nat) (e:E)|ext (i:Nat) (e:E)|bad|newD (i:Nat)|putD (i:Nat) (k v:E)|Ia (i:Nat) (k v:E)|aug (sub:Bool) (i:Nat) (k v:E)|OI (i:Nat)
 |exp (e:E)
 |ret (e:E)|JA
 |I0 (i:Nat) (e:E)
 |ite (c:E) (a b:List S)
 |GN (t:Bool) (is:List Nat) (ik:Ik) (src:List E) (body:List S)
 |Kh (c:E) (body:List S)
 |brk|cnt|OJ
 |JK (is:List Nat)
 |LG (i:Nat)
 |inc (i:Nat) (n:Int)
abbrev isAny:Kd->Bool
 |.any=>b6
 |_=>cK
abbrev fq(k:Kd)(xs:List U):Bool:=!isAny k||bS xs
abbrev kT(k k':Kd):Kd:=if isAny k||isAny k' then .any else .loc
abbrev cut{α:Type}(xs:List α)(lo a:Option Int):List α:=(xs.drop (HT.HY xs.length 0 lo)).take (HT.HY xs.length xs.length a - HT.HY xs.length 0 lo)
abbrev wF:Kd×U->Kd×U->Option (Kd×U)
 |(_,.int i),(_,.int j)=>bD (.loc,.int (i+j))
 |(_,.str x),(_,.str y)=>if x.length+y.length<=df then bD (.loc,.str (x++y)) else cb
 |(k,.lst xs),(k',.lst ys)=>if xs.length+ys.length<=df/\fq k xs=b6/\fq k' ys=b6 then bD (.own,.lst (xs++ys)) else cb
 |(k,.tup xs),(k',.tup ys)=>if xs.length+ys.length<=df then bD (kT k k',.tup (xs++ys)) else cb
 |_,_=>cb
abbrev qT(f:Int->Int->Option Int):U->U->Option (Kd×U)
 |.int i,.int j=>(f i j).map λn=>(.loc,.int n)
 |_,_=>cb
abbrev zm(i j:Int):Option Int:=if ((-(2 ^ 64)<i/\i<2 ^ 64)\/(-(2 ^ 64)<j/\j<2 ^ 64)) then bD (i * j) else cb
abbrev zo(i j:Int):Option Int:=if 0<j/\j<1073741824 then bD (i / j) else cb
abbrev zp(i j:Int):Option Int:=if 0<j then bD (i % j) else cb
abbrev zq(i j:Int):Option Int:=if 0<=j/\j<=1000000/\i.natAbs<2 ^ 64 then bD (i ^ j.toNat) else cb
abbrev IJ(op:OG)(x y:Kd×U):Option (Kd×U):=match op with
 |.add=>wF x y
 |.sub=>qT (λi j=>bD (i - j)) x.2 y.2
 |.mul=>qT zm x.2 y.2
 |.LD=>qT zo x.2 y.2
 |.mod=>qT zp x.2 y.2
 |.pow=>qT zq x.2 y.2
mutual
noncomputable def HK:Nat->U->Bool
 |_,.Gp _ _=>cK
 |_,.J1 _=>cK
 |0,.tup _=>cK
 |0,.lst _=>cK
 |n+1,.tup xs=>dc n xs
 |n+1,.lst xs=>dc n xs
 |_,.GC=>b6|_,.bl _=>b6|_,.int _=>b6|_,.str _=>b6
noncomputable def dc:Nat->List U->Bool
 |_,[]=>b6
 |n,u::us=>HK n u&&dc n us
end
mutual
noncomputable def cn:U->U->Bool
 |.GC,.GC=>b6
 |.bl a,.bl b=>a==b
 |.bl a,.int b=>(if a then 1 else 0)==b
 |.int a,.bl b=>a==(if b then 1 else 0)
 |.int a,.int b=>a==b
 |.str a,.str b=>a==b
 |.tup xs,.tup ys=>cE xs ys
 |.lst xs,.lst ys=>cE xs ys
 |_,_=>cK
noncomputable def cE:List U->List U->Bool
 |[],[]=>b6
 |u::us,w::ws=>cn u w&&cE us ws
 |_,_=>cK
end
abbrev LH(x:U)(ys:List U):Option Bool:=if HK 50 x=b6/\dc 50 ys=b6 then bD (ys.any λy=>cn y x) else cb
abbrev strsOf:List U->Option (List Str)
 |[]=>bD []
 |.str x::us=>(strsOf us).map (x::·)
 |_::_=>cb
abbrev zr:U->U->Option Bool
 |x,.lst ys=>LH x ys
 |x,.tup ys=>LH x ys
 |.str x,.Gp ks _=>bD (cL (x∈ks))
 |_,_=>cb
abbrev dv:List Str->List U->Str->Option U
 |y::ks,u::us,x=>if y=x then bD u else dv ks us x
 |_,_,_=>cb
abbrev dput(ks:List Str)(us:List U)(x:Str)(u:U):List Str×List U :=
 if x∈ks then(ks,(ks.zip us).map λp=>if p.1=x then u else p.2) else(ks++[x],us++[u])
abbrev cO:NB->U->U->Option Bool
 |.eq,a,b=>if HK 50 a=b6/\HK 50 b=b6 then bD (cn a b) else cb
 |.ne,a,b=>if HK 50 a=b6/\HK 50 b=b6 then bD (!cn a b) else cb
 |.lt,.int i,.int j=>bD (cL (i<j))
 |.gt,.int i,.int j=>bD (cL (j<i))
 |.ge,.int i,.int j=>bD (cL (j<=i))
 |.isin,x,y=>zr x y
 |.GG,x,y=>(zr x y).map (!·)
 |_,_,_=>cb
abbrev fI:List U->Option (List Bool)
 |[]=>bD []
 |.bl x::us=>(fI us).map (x::·)
 |_::_=>cb
abbrev gh:Kd×U->U->Option (Kd×U)
 |(k,.lst xs),.int i=>(Hm xs i).map λu=>(kE k,u)
 |(k,.tup xs),.int i=>(Hm xs i).map λu=>(kE k,u)
 |(_,.str x),.int i=>if x.length<=df then(Hm x.cps.toList i).map λc=>(.loc,.str ⟨#[c]⟩) else cb
 |_,_=>cb
abbrev lK:Kd×U->Option Int->Option Int->Option (Kd×U)
 |(k,.lst xs),lo,a=>if fq k xs=b6 then bD (.own,.lst (cut xs lo a)) else cb
 |(.any,.J1 xs),lo,a=>if bS xs=b6 then bD (.own,.lst (cut xs lo a)) else cb
 |(_,.str x),lo,a=>if x.length<=df then bD (.loc,.str (PySem.StrLaws.sliceText x lo a)) else cb
 |_,_,_=>cb
abbrev Cv:U->Option Nat
 |.lst xs=>bD xs.length
 |.tup xs=>bD xs.length
 |.str x=>if x.length<=df then bD x.length else cb
 |_=>cb
abbrev il{β:Type}(f:Kd×U->Option β):List (Kd×U)->Option β
 |[x]=>f x
 |_=>cb
abbrev intsOf:List U->Option (List Int)
 |[]=>bD []
 |.int x::us=>(intsOf us).map (x::·)
 |_::_=>cb
abbrev Cw:Kd×U->Option (Kd×U)
 |(_,.lst xs)=>(strsOf xs).bind λa=>if a.length<64 then bD (.own,.lst ((aH a).map .str)) else cb
 |(_,.Gp ks _)=>if ks.length<64 then bD (.own,.lst ((aH ks).map .str)) else cb
 |(_,.tup xs)=>(strsOf xs).bind λa=>if a.length<64 then bD (.own,.lst ((aH a).map .str)) else cb
 |_=>cb
abbrev Cy:Kd×U->Option (Kd×U)
 |(k,.lst xs)=>bD (kE k,.tup xs)
 |(k,.tup xs)=>bD (kE k,.tup xs)
 |_=>cb
abbrev zt:Kd×U->Option (Kd×U)
 |(_,.int i)=>if i.natAbs.log2<1920 then bD (.loc,.str (Qz i)) else cb
 |_=>cb
abbrev Cz:Kd×U->Option (Kd×U)
 |(_,.lst xs)=>(fI xs).map λa=>(.loc,.bl (a.all id))
 |_=>cb
abbrev CA:Kd×U->Option (Kd×U)
 |(_,.lst xs)=>(fI xs).map λa=>(.loc,.bl (a.any id))
 |_=>cb
abbrev Ib(f:Bf)(rs:List (Kd×U)):Option (Kd×U):=match f with
 |.len=>il (λx=>(Cv x.2).map λ(n:Nat)=>(Kd.loc,U.int (n:Int))) rs
 |.sorted=>il Cw rs
 |.tuple=>il Cy rs
 |.str=>il zt rs
 |.all=>il Cz rs
 |.any=>il CA rs
 |_=>cb
abbrev gL:U->Option (List Str)
 |.lst xs=>(strsOf xs).bind λa=>if a.length+1<GL then bD (aA a) else cb
 |.tup xs=>(strsOf xs).bind λa=>if a.length+1<GL then bD (aA a) else cb
 |_=>cb
abbrev CB:Kd×U->Option (Kd×U)
 |(k,.lst xs)=>if fq k xs=b6 then bD (.own,.lst xs.reverse) else cb
 |_=>cb
abbrev qU(f:B2)(rs:List (Kd×U)):Option (Kd×U):=match f with
 |.J2=>cb
 |.Iq=>il CB rs
 |.sset=>il (λx=>(gL x.2).bind λa=>if a.length<64 then bD (.own,.lst ((aH a).map .str)) else cb) rs
 |.j8=>cb
abbrev lL:Mf->U->List (Kd×U)->Option (Kd×U)
 |.join,.str a,[(_,.lst xs)]=>(strsOf xs).bind λb=>if Yl a b=b6 then bD (.loc,.str (Q9 a b)) else cb
 |_,_,_=>cb
abbrev F4:Kd×U->Option (List (Kd×U))
 |(k,.lst xs)=>bD (xs.map λu=>(kE k,u))
 |(k,.tup xs)=>bD (xs.map λu=>(kE k,u))
 |_=>cb
abbrev wG:Kd×U->Option (List (Kd×U))
 |(_,.int n)=>if n<2 ^ 62/\-(2 ^ 62)<n then bD ((hW n.toNat).map λi:Nat=>(Kd.loc,U.int (0+(i:Int)))) else cb
 |_=>cb
abbrev CC:Kd×U->Option (List (Kd×U))
 |(k,.lst xs)=>bD (xs.zipIdx.map λp=>(kE k,.tup [.int p.2,p.1]))
 |(k,.tup xs)=>bD (xs.zipIdx.map λp=>(kE k,.tup [.int p.2,p.1]))
 |_=>cb
abbrev nZ(d:List Str×List U):List (Kd×U):=(d.1.zip d.2).map λp=>(Kd.loc,U.tup [.str p.1,p.2])
abbrev Ih(ik:Ik)(rs:List (Kd×U)):Option (List (Kd×U)):=match ik with
 |.seq=>il F4 rs
 |.H9=>il wG rs
 |.Kz=>il CC rs
 |_=>cb
abbrev zu(ps:List (Str×Int)):List (Str×Int):=(jE (ps.map (·.1))).map λi=>ps.getD i (ti,0)
abbrev uH(p:Str×Int):U:=.tup [.str p.1,.int p.2]
abbrev wH:U->Option (Kd×U)
 |.Gp ks us=>(intsOf us).bind λns=>if ks.length<64/\ks.Nodup/\ks.length=ns.length then bD (.own,.lst ((zu (ks.zip ns)).map uH)) else cb
 |_=>cb
abbrev pK(ln:Bool)(a b:List Str):Option (Kd×U):=if a.length<64/\b.length<64 then bD (if ln=b6 then(.loc,.int ((a.filter λx=>cL (x∉b)).length:Nat)) else(.own,.lst ((aH (a.filter λx=>cL (x∉b))).map .str))) else cb
abbrev uI:U->Option Bool
 |.bl b=>bD b
 |.lst xs=>bD !xs.isEmpty
 |.tup xs=>bD !xs.isEmpty
 |.str x=>if x.length<=df then bD ((x.length:Int) != 0) else cb
 |_=>cb
abbrev lift:Kd×U->M U
 |(.own,u)=>pure u
 |(.loc,u)=>pure u
 |(.any,u)=>if GP u=b6 then pure u else M.fail
 |(.bor j,_)=>λst=>match st[j]? with
  |some (bD (.own,u))=>bD (.ok u,st.set j (bD (.loc,u)))
  |_=>cb
 |(.io,_)=>M.fail
 |(.Gm,_)=>M.fail
abbrev de:List (Kd×U)->M (List U)
 |[]=>pure []
 |r::rs=>do let u <-lift r;let us <-de rs;pure (u::us)
abbrev d7(i:Nat):Kd×U->M Unit
 |(.bor j,_)=>λst=>match st[j]? with
  |some (bD (.own,u))=>bD (.ok (),(st.set j (bD (.loc,u))).set i (bD (.loc,u)))
  |_=>cb
 |(.io,_)=>M.fail
 |(.Gm,_)=>M.fail
 |(k,u)=>λst=>bD (.ok (),st.set i (bD (k,u)))
def a9:List (Kd×U)->av->Prop
 |[],_=>True
 |(.bor j,u)::rs,st=>(∃k:Kd,k.root=b6/\st[j]?=bD (bD (k,u)))/\a9 rs st
 |_::rs,st=>a9 rs st
open Classical in
abbrev aB(rs:List (Kd×U)):M Unit:=λst=>if a9 rs st then bD (.ok (),st) else cb
@[reducible]def Tab:=Str->List U->Option (Ex (Kd×U))
abbrev wI:Kd×U->Option (Kd×U)
 |(.loc,.tup (.lst xs::_))=>if bS xs=b6 then bD (.own,.lst xs) else cb
 |_=>cb
abbrev fj(Γ:Tab)(f:Str)(us:List U):M (Kd×U):=λst=>match Γ f us with
 |some (.ok (.any,_))=>cb
 |none=>cb
 |some r=>bD (r,st)
abbrev gM(rs:List (Kd×U))(p:Nat):Option Nat:=match rs[p]? with
 |some (.bor j,.lst us)=>if bS us=b6 then bD j else cb
 |_=>cb
abbrev pL(a:List (Option Nat)):Kd×U->Bool
 |(.bor j,_)=>cL (bD j∉a)
 |_=>b6
abbrev pM(rs:List (Kd×U))(is:List Nat):Bool:=is.all (λp=>(gM rs p).isSome)&&cL ((is.map (gM rs)).Nodup)&&(hW rs.length).all λq=>cL (q∈is)||pL (is.map (gM rs)) (rs.getD q (.loc,.GC))
abbrev gy(rs:List (Kd×U)):List Nat->List U->av->Option av
 |[],[],st=>bD st
 |p::is,w::ws,st=>match gM rs p with
  |some j=>match w,st[j]? with
   |.lst us,bD (bD (k,_))=>gy rs is ws (st.set j (bD (k,.lst us)))
   |_,_=>cb
  |none=>cb
 |_,_,_=>cb
abbrev QQ:Kd×U->Option (Kd×U×List U)
 |(.own,.tup (u::ws))=>bD (.own,u,ws)
 |(.loc,.tup (u::ws))=>bD (.loc,u,ws)
 |_=>cb
abbrev dR(st:av):Kd×U->Kd×U
 |(.bor j,u)=>(.bor j,match st[j]? with|some (bD (k,u'))=>if k.root=b6 then u' else u|_=>u)
 |r=>r
abbrev zw(rs:List (Kd×U)):M (List (Kd×U)):=λst=>bD (.ok (rs.map (dR st)),st)
abbrev pN(Γ:Tab)(f:Str)(rs:List (Kd×U))(is:List Nat):M (Kd×U):=λst=>match Γ f (rs.map (·.2)) with
 |some (.ok r)=>match QQ r with
  |some (k,u,ws)=>if pM rs is=b6 then(match gy rs is ws st with|some st'=>bD (.ok (k,u),st')|none=>cb) else cb
  |none=>cb
 |_=>cb
abbrev wJ(i:Nat):M (Kd×U):=λst=>match st[i]? with
 |some (bD (k,.lst us))=>if k.root=b6 then(match us[us.length - 1]? with|some u=>bD (.ok (.loc,u),st.set i (bD (k,.lst us.dropLast)))|none=>cb) else cb
 |_=>cb
abbrev zx(i:Nat):U->M (Kd×U)
 |.int j=>λst=>match st[i]? with
  |some (bD (k,.lst us))=>if k.root=b6/\0<=j/\j<1000000 then(match us[j.toNat]? with|some u=>bD (.ok (.loc,u),st.set i (bD (k,.lst (us.eraseIdx j.toNat))))|none=>cb) else cb
  |_=>cb
 |_=>M.fail
abbrev cY(i:Nat):M (Kd×U):=λst=>match st[i]? with
 |some (bD (.Gm,_))=>cb
 |some (bD (k,u))=>bD (.ok (if k.root=b6 then .bor i else k,u),st)
 |_=>cb
abbrev ip(i:Nat):M (List Str×List U):=λst=>match st[i]? with
 |some (bD (.Gm,.Gp ks us))=>bD (.ok (ks,us),st)
 |_=>cb
abbrev jH(x:Kd×U):M Str:=match x.2 with
 |.str y=>pure y
 |_=>M.fail
abbrev QR(neg:Bool)(y:Str)(ks:List Str):Bool:=if neg=b6 then !cL (y∈ks) else cL (y∈ks)
abbrev wK(i:Nat):M (Kd×U):=λst=>match st[i]? with
 |some (bD (.Gm,u))=>bD (.ok (.bor i,u),st.set i (bD (.own,u)))
 |_=>cY i st
abbrev pO(i:Nat):M (List Str×List U):=λst=>match st[i]? with
 |some (bD (.Gm,.Gp ks us))=>bD (.ok (ks,us),st.set i cb)
 |_=>cb
abbrev Ba(i:Nat):M Unit:=λst=>bD (.ok (),st.set i (bD (.Gm,.Gp [] [])))
abbrev kG(i:Nat)(y:Str):Kd×U->M Unit
 |(.own,.lst us)=>λst=>match st[i]? with
  |some (bD (.Gm,.Gp ks vs))=>if y∉ks/\ks.length<df then bD (.ok (),st.set i (bD (.Gm,.Gp (ks++[y]) (vs++[.lst us])))) else cb
  |_=>cb
 |_=>M.fail
abbrev iV:List Str->List U->Str->U->List U
 |k::ks,v::vs,y,u=>if k=y then u::vs else v::iV ks vs y u
 |_,vs,_,_=>vs
abbrev kH(i:Nat)(y:Str)(u:U):M Unit:=λst=>match st[i]? with
 |some (bD (.Gm,.Gp ks vs))=>match dv ks vs y with
  |some (.lst xs)=>if xs.length<df then bD (.ok (),st.set i (bD (.Gm,.Gp ks (iV ks vs y (.lst (xs++[u])))))) else cb
  |_=>cb
 |_=>cb
abbrev QS:U->M Unit
 |.Gp _ _=>pure ()
 |_=>M.fail
abbrev zy(x:Kd×U)(y:Str)(u:U):Option (Kd×U):=match x with
 |(k,.Gp ks us)=>bD (match dv ks us y with|some v=>(kE k,v)|none=>(.loc,u))
 |_=>cb
abbrev pP(i:Nat):M (List U):=λst=>match st[i]? with
 |some (bD (k,.lst us))=>if k.root=b6 then bD (.ok us,st) else cb
 |_=>cb
abbrev n9(x:Kd×U):M Int:=match x.2 with
 |.int j=>pure j
 |_=>M.fail
abbrev pQ(us:List U)(j:Int):Option Int:=if 0<=j then(match us[j.toNat]? with|some (.int o)=>bD o|_=>cb) else cb
abbrev uJ(sub:Bool)(o w:Int):Int:=if sub=b6 then o - w else o+w
abbrev F5:U->Option U
 |.lst us=>bD (.lst us.reverse)
 |_=>cb
abbrev sets:List Nat->List (Kd×U)->M Unit
 |[],[]=>pure ()
 |i::is,r::rs=>do d7 i r;sets is rs
 |_,_=>M.fail
abbrev dg(t:Bool)(is:List Nat)(r:Kd×U):M Unit:=match t,is,r with
 |false,[i],r=>d7 i r
 |true,is,(k,.tup xs)=>sets is (xs.map λu=>(kE k,u))
 |_,_,_=>M.fail
abbrev inScope{α:Type}(k:Nat)(m:M α):M α:=λst=>match m (i6 k cb++st) with
 |none=>cb
 |some (r,st')=>bD (r,st'.drop k)
abbrev bH(k:Nat)(t:Bool)(cond:M Bool)(elt:M (Kd×U))(src:List (Kd×U)):List (Kd×U)->List U->M (List U)
 |[],acc=>do aB src;pure acc
 |x::xs,acc=>do
  aB src
  let r <-inScope k (dg t (hW k) x >>= λ_=>cond >>= λb=>if b=b6 then(elt >>= λr=>lift r >>= λu=>pure (bD u)) else pure cb)
  match r with
  |some u=>if acc.length<df then bH k t cond elt src xs (acc++[u]) else M.fail
  |none=>bH k t cond elt src xs acc
abbrev F6:Kd×U->Option (Kd×U)
 |(_,.int i)=>bD (.loc,.int (-i))
 |_=>cb
abbrev CD(x:Kd×U):M (Option Int):=match x.2 with
 |.int i=>pure (bD i)
 |_=>M.fail
abbrev KG:U->M Unit
 |.lst _=>pure ()
 |_=>M.fail
section
variable(Γ:Tab)
mutual
noncomputable def ev:E->M (Kd×U)
 |.var i=>cY i
 |.cst u=>pure (.loc,u)
 |.LF _ u=>pure (.loc,u)
 |.bin op a b=>do
  let x <-ev a
  let y <-ev b
  aB [x,y]
  M.GQ (IJ op x y)
 |.cmp op a b=>do
  let x <-ev a
  let y <-ev b
  aB [x,y]
  let c <-M.GQ (cO op x.2 y.2)
  pure (.loc,.bl c)
 |.J3 _ _ _ _ _=>M.fail
 |.and es=>wL es
 |.or _=>M.fail
 |.not a=>do
  let x <-ev a
  match x.2 with
  |.bl c=>pure (.loc,.bl !c)
  |_=>M.fail
 |.ite c a b=>do
  let p <-GU c
  if p=b6 then ev a else ev b
 |.tup es=>do
  let rs <-bt es
  aB rs
  let us <-de rs
  if us.length<=df then pure (.loc,.tup us) else M.fail
 |.lst es=>do
  let rs <-bt es
  aB rs
  let us <-de rs
  if us.length<=df then pure (.own,.lst us) else M.fail
 |.H_ r=>pure (.own,.Gp [] [])
 |.idx a b=>do
  let x <-ev a
  let y <-ev b
  aB [x,y]
  M.GQ (gh x y.2)
 |.JJ a lo g=>do
  let x <-ev a
  let l <-LJ lo
  let h <-LJ g
  aB [x]
  M.GQ (lK x l h)
 |.bi f es=>do
  let rs <-bt es
  aB rs
  M.GQ (Ib f rs)
 |.KA f es=>do
  let rs <-bt es
  aB rs
  M.GQ (qU f rs)
 |.K7 m a es=>do
  let x <-ev a
  let rs <-bt es
  aB (x::rs)
  M.GQ (lL m x.2 rs)
 |.call f es=>do
  let rs <-bt es
  aB rs
  fj Γ f (rs.map (·.2))
 |.K8 f es=>do
  let rs <-bt es
  aB rs
  let r <-fj Γ f (rs.map (·.2))
  M.GQ (wI r)
 |.comp k t ik src cond e=>do
  let rs <-bt src
  aB rs
  let xs <-M.GQ (Ih ik rs)
  let us <-bH k t (aU cond) (ev e) rs xs []
  pure (.own,.lst us)
 |.neg a=>do
  let x <-ev a
  M.GQ (F6 x)
 |.bad=>M.fail
 |.inD _ _ _=>M.fail
 |.MD i=>wK i
 |.IY i k d=>do
  let x <-cY i
  QS x.2
  let y <-ev k
  let y <-jH y
  let z <-ev d
  let u <-lift z
  let x <-cY i
  M.GQ (zy x y u)
 |.ME i=>do
  let x <-cY i
  M.GQ (wH x.2)
 |.Gq f es is=>do
  let rs <-(bt es >>= zw)
  aB rs
  pN Γ f rs is
 |.pop i=>wJ i
 |.KD i e=>do
  let x <-cY i
  KG x.2
  let y <-ev e
  zx i y.2
 |.KC ln a b=>do
  let x <-ev a
  let j <-M.GQ (gL x.2)
  let y <-ev b
  let n <-M.GQ (gL y.2)
  M.GQ (pK ln j n)
 |.fst es=>M.fail
 |.OH a T=>M.fail
noncomputable def bt:List E->M (List (Kd×U))
 |[]=>pure []
 |e::es=>do let r <-ev e;let rs <-bt es;pure (r::rs)
noncomputable def LJ:List E->M (Option Int)
 |[]=>pure cb
 |[e]=>do let x <-ev e;CD x
 |_=>M.fail
noncomputable def wL:List E->M (Kd×U)
 |[]=>M.fail
 |[e]=>ev e
 |e::es=>do
  let x <-ev e
  match x.2 with
  |.bl b6=>wL es
  |.bl cK=>pure (.loc,.bl cK)
  |_=>M.fail
noncomputable def GU:E->M Bool
 |.and es=>aU es
 |.or es=>sG es
 |.not a=>do let b <-GU a;pure !b
 |.cmp op a b=>do
  let x <-ev a
  let y <-ev b
  aB [x,y]
  M.GQ (cO op x.2 y.2)
 |.var i=>do let x <-cY i;M.GQ (uI x.2)
 |.bi f es=>do
  let rs <-bt es
  aB rs
  let r <-M.GQ (Ib f rs)
  M.GQ (uI r.2)
 |.call f es=>do
  let rs <-bt es
  aB rs
  let r <-fj Γ f (rs.map (·.2))
  M.GQ (uI r.2)
 |.J3 e o2 a b c=>do
  let x <-ev a
  let y <-ev b
  aB [x,y]
  let p <-M.GQ (cO e x.2 y.2)
  if p=b6 then do
   let z <-ev c
   aB [y,z]
   M.GQ (cO o2 y.2 z.2)
  else pure cK
 |.inD neg a i=>do
  let x <-ev a
  let y <-jH x
  let d <-ip i
  pure (QR neg y d.1)
 |_=>M.fail
noncomputable def aU:List E->M Bool
 |[]=>pure b6
 |[e]=>GU e
 |e::es=>do let b <-GU e;if b=b6 then aU es else pure cK
noncomputable def sG:List E->M Bool
 |[]=>pure cK
 |[e]=>GU e
 |e::es=>do let b <-GU e;if b=b6 then pure b6 else sG es
end
inductive Fl where|nx|rt (k:Kd) (u:U)|bk|ct
abbrev retS:Kd×U->M Fl
 |(.own,u)=>pure (.rt .own u)
 |(.loc,u)=>pure (.rt .loc u)
 |(.any,u)=>if GP u=b6 then pure (.rt .loc u) else pure (.rt .any u)
 |(.bor j,_)=>λst=>match st[j]? with
  |some (bD (.own,u))=>bD (.ok (.rt .own u),st.set j cb)
  |_=>cb
 |(.io,_)=>M.fail
 |(.Gm,_)=>M.fail
abbrev forM(t:Bool)(is:List Nat)(body:M Fl)(src:List (Kd×U)):List (Kd×U)->M Fl
 |[]=>do aB src;pure .nx
 |x::xs=>do
  aB src
  dg t is x
  let f <-body
  match f with
  |.nx=>forM t is body src xs
  |.ct=>forM t is body src xs
  |.bk=>pure .nx
  |.rt k u=>pure (.rt k u)
abbrev fu(c:M Bool)(body:M Fl):Nat->M Fl
 |0=>M.fail
 |n+1=>do
  let b <-c
  if b=b6 then do
   let f <-body
   match f with
   |.nx=>fu c body n
   |.ct=>fu c body n
   |.bk=>pure .nx
   |.rt k u=>pure (.rt k u)
  else pure .nx
abbrev modS(i:Nat)(f:U->Option U):M Unit:=λst=>match st[i]? with
 |some (bD (k,u))=>if k.root=b6 then match f u with
   |some u'=>bD (.ok (),st.set i (bD (k,u')))
   |none=>cb
  else cb
 |_=>cb
abbrev wM(u:U):U->Option U
 |.lst xs=>if xs.length<df then bD (.lst (xs++[u])) else cb
 |_=>cb
abbrev kI:Kd×U->U->Option U
 |(k,.lst ys),.lst xs=>if xs.length+ys.length<=df/\fq k ys=b6 then bD (.lst (xs++ys)) else cb
 |(k,.tup ys),.lst xs=>if xs.length+ys.length<=df/\fq k ys=b6 then bD (.lst (xs++ys)) else cb
 |_,_=>cb
abbrev dU(x u:U):U->Option U
 |.Gp ks vs=>match x with
  |.str y=>if ks.length<df then bD (.Gp (dput ks vs y u).1 (dput ks vs y u).2) else cb
  |_=>cb
 |.lst xs=>match x with
  |.int i=>(JS xs.length i).map λj=>.lst (xs.set j u)
  |_=>cb
 |_=>cb
abbrev CF:U->Option U
 |.lst _=>bD (.lst [])
 |_=>cb
abbrev sH:List U->U->Option U
 |[u,x]=>dU x u
 |_=>λ_=>cb
abbrev fuel:Nat:=1000000000000
mutual
noncomputable def OK:S->Nat->Bool
 |.set i _,j=>cL (j≠i)
 |.IZ is _,j=>cL (j∉is)
 |.ite _ a b,j=>Ii a j&&Ii b j
 |.GN _ is _ _ body,j=>cL (j∉is)&&Ii body j
 |.Kh _ body,j=>Ii body j
 |.put _ _ _,_=>b6
 |.app _ _,_=>b6
 |.ext _ _,_=>b6
 |.bad,_=>b6
 |.newD i,j=>cL (j≠i)
 |.putD _ _ _,_=>b6
 |.Ia _ _ _,_=>b6
 |.aug _ _ _ _,_=>b6
 |.OI _,_=>b6
 |.exp _,_=>b6
 |.ret _,_=>b6
 |.I0 _ _,_=>b6
 |.JA,_=>b6
 |.brk,_=>b6
 |.cnt,_=>b6
 |.OJ,_=>b6
 |.JK _,_=>b6
 |.LG _,_=>b6
 |.inc i _,j=>cL (j≠i)
noncomputable def Ii:List S->Nat->Bool
 |[],_=>b6
 |s::a,j=>OK s j&&Ii a j
end
abbrev sI(rs:List (Kd×U))(is:List Nat)(body:List S):Bool:=rs.all λr=>match r.1 with
 |.bor j=>cL (j∉is)&&Ii body j
 |_=>b6
mutual
noncomputable def exec:S->M Fl
 |.set i e=>do let r <-ev Γ e;d7 i r;pure .nx
 |.IZ is e=>do let r <-ev Γ e;dg b6 is r;pure .nx
 |.put i k v=>do
  let r <-ev Γ v
  let _ <-cY i
  let x <-ev Γ k
  let us <-de [r,x]
  modS i (sH us)
  pure .nx
 |.app i e=>do
  let x <-cY i
  KG x.2
  let r <-ev Γ e
  let u <-lift r
  modS i (wM u)
  pure .nx
 |.ext i e=>do
  let x <-cY i
  KG x.2
  let r <-ev Γ e
  modS i (kI r)
  pure .nx
 |.bad=>M.fail
 |.newD i=>do Ba i;pure .nx
 |.putD i k v=>do
  let r <-ev Γ v
  let d <-ip i
  let x <-ev Γ k
  let y <-jH x
  kG i y r
  pure .nx
 |.Ia i k v=>do
  let _ <-ip i
  let x <-ev Γ k
  let y <-jH x
  let d <-ip i
  if y∈d.1 then do
   let r <-ev Γ v
   let u <-lift r
   kH i y u
   pure .nx
  else M.fail
 |.aug sub i k v=>do
  let _ <-pP i
  let y <-ev Γ k
  let j <-n9 y
  let us <-pP i
  let o <-M.GQ (pQ us j)
  let z <-ev Γ v
  let w <-n9 z
  modS i (dU (.int j) (.int (uJ sub o w)))
  pure .nx
 |.OI i=>do
  modS i F5
  pure .nx
 |.exp e=>do let _ <-ev Γ e;pure .nx
 |.ret e=>do let r <-ev Γ e;retS r
 |.I0 i e=>do
  let d <-pO i
  let us <-bH 2 b6 (pure b6) (ev Γ e) [] (nZ d) []
  retS (.own,.lst us)
 |.JA=>pure (.rt .loc .GC)
 |.ite c a b=>do let p <-GU Γ c;if p=b6 then execs a else execs b
 |.GN t is ik src body=>do
  let rs <-bt Γ src
  aB rs
  let xs <-M.GQ (Ih ik rs)
  if sI rs is body=b6 then forM t is (execs body) rs xs else M.fail
 |.Kh c body=>fu (GU Γ c) (execs body) fuel
 |.brk=>pure .bk
 |.cnt=>pure .ct
 |.OJ=>pure .nx
 |.JK _=>M.fail
 |.LG i=>do
  modS i CF
  pure .nx
 |.inc i n=>cY i >>= λr=>n9 r >>= λm=>d7 i (.loc,.int (m+n)) >>= λ_=>pure .nx
noncomputable def execs:List S->M Fl
 |[]=>pure .nx
 |s::a=>do
  let f <-exec s
  match f with
  |.nx=>execs a
  |f=>pure f
end
end
structure Fn where
 name:Str
 np:Nat
 ns:Nat
 body:List S
abbrev start(us:List U)(n:Nat):av:=us.map (λu=>bD (if GP u=b6 then Kd.loc else Kd.any,u))++i6 (n - us.length) cb
abbrev dF(Γ:Tab)(fn:Fn)(us:List U):Option (Ex (Kd×U)):=if us.length=fn.np then match execs Γ fn.body (start us fn.ns) with
  |some (.ok (.rt .own u),_)=>bD (.ok (.own,u))
  |some (.ok (.rt .loc u),_)=>bD (.ok (.loc,u))
  |some (.ok (.rt .any u),_)=>bD (.ok (.any,u))
  |some (.ok .nx,_)=>bD (.ok (.loc,.GC))
  |some (.exc c,_)=>bD (.exc c)
  |_=>cb
 else cb
abbrev cR(is:List Nat)(us:List U)(n:Nat):av:=(us.zipIdx.map λp=>bD (if p.2∈is then Kd.io else if GP p.1=b6 then Kd.loc else Kd.any,p.1))++i6 (n - us.length) cb
abbrev LK:List Nat->av->Option (List U)
 |[],_=>bD []
 |i::is,st=>match st[i]? with
  |some (bD (.io,u))=>(LK is st).map (u::·)
  |_=>cb
abbrev OL:Fl->Option (Kd×U)
 |.rt .own u=>bD (.own,u)
 |.rt .loc u=>bD (.loc,u)
 |.nx=>bD (.loc,.GC)
 |_=>cb
abbrev gN(Γ:Tab)(fn:Fn)(is:List Nat)(body:List S)(us:List U):Option (Ex (Kd×U)):=if us.length=fn.np then match execs Γ body (cR is us fn.ns) with
  |some (.ok f,st)=>(OL f).bind λr=>(LK is st).map λws=>.ok (r.1,.tup (r.2::ws))
  |_=>cb
 else cb
abbrev Fn.io(fn:Fn):Option (List Nat×List S):=match fn.body with
 |.JK is::body=>bD (is,body)
 |_=>cb
abbrev iW(Γ:Tab)(fn:Fn)(us:List U):Option (Ex (Kd×U)):=match fn.io with
 |some (is,body)=>gN Γ fn is body us
 |none=>dF Γ fn us
abbrev GD(P:List Fn):Nat->Tab
 |0=>λ_ _=>cb
 |d+1=>λf us=>match P.find? λfn=>cL (fn.name=f) with
  |some fn=>iW (GD P d) fn us
  |none=>cb
end TM
namespace TM
open PySem L2
section
variable{X:Cx}{pins:List (hH×Obj)}{σ:St}{H:Hp}{s:hh}{C:Ct}{S:hH->Prop}
def sJ(I:Inv X pins σ H s)(h:G2 X.K H a vs):∃b:List d3,Vals vs b/\s.heap.IsList a b.toArray/\vs.length<=df:=by
 have⟨b,r,p,z⟩:=I.list h;show⟨b,r,p.isList,z⟩
inductive G_(s:hh):Nat->U->d3->Prop where
 |GC {n:Nat}:G_ s n .GC .none
 |bl {n:Nat} {b:Bool}:G_ s n (.bl b) (.bool b)
 |int {n:Nat} {i:Int} {t:Tok}:G_ s n (.int i) (.int i t)
 |str {n:Nat} {y:Str} {t:Tok}:G_ s n (.str y) (.str y t)
 |tup {n:Nat} {us:List U} {A':List d3} {a:hH}:us.length=A'.length->(∀j (hj:j<A'.length),G_ s n (us.getD j .GC) A'[j])->cE us us=b6->s.heap.IsTuple a A'.toArray->G_ s (n+1) (.tup us) (.ref a)
 |lst {n:Nat} {us:List U} {A':List d3} {a:hH}:us.length=A'.length->(∀j (hj:j<A'.length),G_ s n (us.getD j .GC) A'[j])->cE us us=b6->s.heap.IsList a A'.toArray->G_ s (n+1) (.lst us) (.ref a)
def G_.self(h:G_ s n u x):cn u u=b6:=by
 cases h<;>first|assumption|simp[cn]
theorem G_.zA(f:∀u v x,HK n u=b6->Rep C S H u v->RelV v x->G_ s n u x):∀{us:List U}{vs:List V}{a:List d3},dc n us=b6->ak C S H us vs->Vals vs a->us.length=a.length/\(∀j (b:j<a.length),G_ s n (us.getD j .GC) a[j])/\cE us us=b6
 |[],_,_,_,h,r=>by cases h;cases r;show⟨rfl,λj b=>(nomatch b),rfl⟩
 |u::us,_,_,e,h,r=>by
  have⟨v,vs,rfl,c,g⟩:=h;simp only[dc,cc]at e;cases r with
  |cons d i =>
   have⟨l,k,y⟩:=G_.zA f e.2 g i;show⟨by simp[l],λj b=>?_,by rw[cE,(f _ _ _ e.1 c d).self,y];rfl⟩;cases j with
   |zero=>show f _ _ _ e.1 c d
   |succ j=>show k j (by simpa using b)
def G_.of(I:Inv X pins σ H s)(d:C.K=X.K):∀(n:Nat) (u:U) (v:V) (x:d3),HK n u=b6->Rep C S H u v->RelV v x->G_ s n u x:=by
 intro n;induction n with
 |zero=>intro u v x e h r;cases u<;>first|(simp[HK]at e;done)|(simp only[Rep]at h;subst h;first|(cases r;constructor)|(have⟨t,rfl⟩:=r;constructor))
 |succ n f =>
  intro u v x e h r;cases u with
  |tup us =>
   have⟨a,vs,rfl,b,c⟩:=h;cases r;obtain⟨g,rv,p,_⟩:=I.tuple (d▸b);have⟨l,k,y⟩:=G_.zA f (by simpa[HK] using e) c rv;show .tup l k y p
  |lst us =>
   have⟨a,vs,rfl,b,c⟩:=h;cases r;obtain⟨g,rv,p,_⟩:=sJ I (d▸b.sq);have⟨l,k,y⟩:=G_.zA f (by simpa[HK] using e) c rv;show .lst l k y p
  |_=>first|(simp[HK]at e;done)|(simp only[Rep]at h;subst h;first|(cases r;constructor)|(have⟨t,rfl⟩:=r;constructor))
def G_.inj:∀{n:Nat}{u w:U}{x:d3},G_ s n u x->G_ s n w x->u=w:=by
 intro n;induction n with
 |zero=>intro u w x h h';cases h<;>cases h'<;>rfl
 |succ n r =>
  have go:∀{us ws:List U} {c its':List d3} {a:hH} {o o':Obj} {m i:Nat},us.length=c.length->(∀j (t:j<c.length),G_ s n (us.getD j .GC) c[j])->ws.length=its'.length->(∀j (t:j<its'.length),G_ s n (ws.getD j .GC) its'[j])->s.heap.get? a=bD o->o.data=.seq c.toArray m->s.heap.get? a=bD o'->o'.data=.seq its'.toArray i->us=ws:=by
   intro us ws c its' a o o' m i l k f k' e d g d';rw[e]at g;cases g;rw[d]at d';injection d' with v _
   have:c=its':=by simpa using Zq Wb v
   subst this;show J_ ⋯ λj z A=>?_;have:=r (k j ⋯) (k' j ⋯);simpa[z,A] using this
  intro u w x h h';cases h with
  |tup l k y p =>
   cases h' with
   |tup f k' q b=>obtain⟨o,e,_,m,d⟩:=p;obtain⟨o',g,_,i,d'⟩:=b;rw[go l k f k' e d g d']
   |lst f k' q b=>show absurd rfl (V' b p)
  |lst l k y p =>
   cases h' with
   |lst f k' q b=>obtain⟨o,e,_,m,d⟩:=p;obtain⟨o',g,_,i,d'⟩:=b;rw[go l k f k' e d g d']
   |tup f k' q b=>show absurd rfl (V' p b)
  |_=>cases h';rfl
theorem iX:∀{us ws:List U},us.length≠ws.length->cE us ws=cK
 |[],[],h=>absurd rfl h
 |[],_::_,_=>rfl
 |_::_,[],_=>rfl
 |u::us,w::ws,h=>by
  rw[cE,iX (us:=us) (ws:=ws) (λe=>h (by simp[e])),QX]
theorem fJ:∀{us ws:List U},us.length=ws.length->cE us ws=(hW us.length).all λj=>cn (us.getD j .GC) (ws.getD j .GC)
 |[],[],_=>rfl
 |[],_::_,h=>by simp at h
 |_::_,[],h=>by simp at h
 |u::us,w::ws,h=>by
  have h':us.length=ws.length:=by simpa using h
  rw[cE,fJ h',js,List.range_succ_eq_map,Yo,YF];rfl
def Ed{a its':List d3}(c:us.length=a.length)(d:ws.length=its'.length):cE us ws=((hW (min a.toArray.size its'.toArray.size)).all (λj=>cn (us.getD j .GC) (ws.getD j .GC))&&a.toArray.size==its'.toArray.size):=by
 simp only[hA];by_cases b:us.length=ws.length
 .rw[fJ b,show min a.length its'.length=us.length by lia,show(a.length==its'.length)=b6 by simp;lia,Yq]
 .rw[iX b,show(a.length==its'.length)=cK by simp;lia,QX]
def sM(b:G_ s n u y)(h:WV A s y x k)(hs:y=x->k=b6):P5 A s y x k:=λprog w E Q a=>by
 unfold eqBool;show tr ?_;show wpAny_ite_split (λc=>?_) (λ_=>?_)
 .rw[hs (eq_of_beq c)]at a;show b5 (Md (dV a))
 .cases b<;>show b5 (h prog w E _ (IL a))
def QT(r:∀m,m+1=n->∀{u w:U}{x f:d3}{A:LU},G_ s m u x->G_ s m w f->A.units+m<Jq->P5 A s x f (cn u w))(h:G_ s n u x)(h':G_ s n w f)(v:A.units+n<Jq):WV A s x f (cn u w)/\Yk A s x f (!cn u w):=by
 have a:A.units<Jq:=by lia
 have go:∀{m:Nat} {us ws:List U} {g its':List d3},m+1=n->(∀j (t:j<g.length),G_ s m (us.getD j .GC) g[j])->(∀j (t:j<its'.length),G_ s m (ws.getD j .GC) its'[j])->∀j (i:j<g.toArray.size) (o:j<its'.toArray.size),P5 A.in1 s g.toArray[j] its'.toArray[j] (cn (us.getD j .GC) (ws.getD j .GC)):=λ{m us ws g its'} e k k' j i o=>r m e (k j i) (k' j o) (by change A.units+1+m < _;lia);cases h with
 |GC =>
  cases h' with
  |GC=>show⟨.none_none,.none_none⟩
  |bl=>show⟨.none_bool _,.none_bool _⟩
  |int=>show⟨.none_int _ _,.none_int _ _⟩
  |str=>show⟨.none_str _ _,.none_str _ _⟩
  |tup c k' d b=>show⟨.none_tuple b a,.none_tuple b a⟩
  |lst c k' d b=>show⟨.none_list b a,.none_list b a⟩
 |bl =>
  cases h' with
  |GC=>show⟨.bool_none _,.bool_none _⟩
  |bl=>show⟨.bool_bool _ _,.bool_bool _ _⟩
  |int=>show⟨.bool_int _ _ _,.bool_int _ _ _⟩
  |str=>show⟨.bool_str _ _ _,.bool_str _ _ _⟩
  |tup c k' d b=>show⟨.bool_tuple _ b a,.bool_tuple _ b a⟩
  |lst c k' d b=>show⟨.bool_list _ b a,.bool_list _ b a⟩
 |int =>
  cases h' with
  |GC=>show⟨.int_none _ _,.int_none _ _⟩
  |bl=>show⟨.int_bool _ _ _,.int_bool _ _ _⟩
  |int=>show⟨.int_int _ _ _ _,.int_int _ _ _ _⟩
  |str=>show⟨.int_str _ _ _ _,.int_str _ _ _ _⟩
  |tup c k' d b=>show⟨.int_tuple _ _ b a,.int_tuple _ _ b a⟩
  |lst c k' d b=>show⟨.int_list _ _ b a,.int_list _ _ b a⟩
 |str =>
  cases h' with
  |GC=>show⟨.str_none _ _,.str_none _ _⟩
  |bl=>show⟨.str_bool _ _ _,.str_bool _ _ _⟩
  |int=>show⟨.str_int _ _ _ _,.str_int _ _ _ _⟩
  |str=>show⟨.str_str _ _ _ _,.str_str _ _ _ _⟩
  |tup c k' d b=>show⟨.str_tuple _ _ b a,.str_tuple _ _ b a⟩
  |lst c k' d b=>show⟨.str_list _ _ b a,.str_list _ _ b a⟩
 |tup l k y p =>
  cases h' with
  |GC=>show⟨.tuple_none p a,.tuple_none p a⟩
  |bl=>show⟨.tuple_bool _ p a,.tuple_bool _ p a⟩
  |int=>show⟨.tuple_int _ _ p a,.tuple_int _ _ p a⟩
  |str=>show⟨.tuple_str _ _ p a,.tuple_str _ _ p a⟩
  |tup c k' d b=>rw[show cn (.tup _) (.tup _)=_ from Ed l c];show⟨.tuples p b a (go rfl k k'),.tuples p b a (go rfl k k')⟩
  |lst c k' d b=>show⟨.tuple_list p b a,.tuple_list p b a⟩
 |lst l k y p =>
  cases h' with
  |GC=>show⟨.list_none p a,.list_none p a⟩
  |bl=>show⟨.list_bool _ p a,.list_bool _ p a⟩
  |int=>show⟨.list_int _ _ p a,.list_int _ _ p a⟩
  |str=>show⟨.list_str _ _ p a,.list_str _ _ p a⟩
  |tup c k' d b=>show⟨.list_tuple p b a,.list_tuple p b a⟩
  |lst c k' d b =>
   rename_i us _ _ ws _ _;by_cases q:us.length=ws.length
   .rw[show cn (.lst us) (.lst ws)=_ from fJ q,l,<-hA];show⟨.lists p b (by simp;lia) a (go rfl k k'),.lists p b (by simp;lia) a (go rfl k k')⟩
   .rw[show cn (.lst us) (.lst ws)=cK from iX q];show⟨.lists_lengths p b (by simp;lia) a,.lists_lengths p b (by simp;lia) a⟩
def Ee:∀{n:Nat}{u w:U}{x a:d3}{A:LU},G_ s n u x->G_ s n w a->A.units+n<Jq->P5 A s x a (cn u w):=by
 intro n;induction n with
 |zero=>intro u w x a A h h' b;show sM h (QT (λm e=>by cases e) h h' b).1 λe=>by subst e;rw[h.inj h'];show h'.self
 |succ n c=>intro u w x a A h h' b;show sM h (QT (λm e=>by cases e;show c) h h' b).1 λe=>by subst e;rw[h.inj h'];show h'.self
def Ef(h:G_ s n u x)(h':G_ s n w a)(b:A.units+n<Jq):WV A s x a (cn u w)/\Yk A s x a (!cn u w):=QT (λm e=>by cases e;show Ee) h h' b
end
end TM
namespace TM
open PySem L2 PyProof.Rows
abbrev Gz(C:Ct)(m:M (Kd×U)):TE:=λσ H Q=>∃c0:Cf,c0.σ=σ/\c0.H=H/\Ok C c0/\W m c0.st λr st'=>∀c v,c.σ=σ->c.st=st'->Ok C c->Nx c0 c->aO C c0 c r.1 r.2 v->Q v c.H
abbrev HC(C:Ct)(m:M Bool):TT:=λσ H Q=>∃c0:Cf,c0.σ=σ/\c0.H=H/\Ok C c0/\W m c0.st λb st'=>∀c,c.σ=σ->c.st=st'->Ok C c->Nx c0 c->Q b c.H
def cF(C:Ct)(c0 c:Cf):List (Kd×U)->List V->Prop
 |[],vs=>vs=[]
 |r::rs,vs=>∃v t,vs=v::t/\fH C c0 c r.1 r.2 v/\cF C c0 c rs t/\(r.1=.own->∀(i:Nat) a b,rs[i]?=bD a->t[i]?=bD b->a.1=.own->b≠v)
abbrev HD(C:Ct)(m:M (List (Kd×U))):TA:=λσ H Q=>∃c0:Cf,c0.σ=σ/\c0.H=H/\Ok C c0/\W m c0.st λrs st'=>∀c vs,c.σ=σ->c.st=st'->Ok C c->Nx c0 c->cF C c0 c rs vs->Q vs c.H
section
def PE.weak(h:PE X e t)(i:∀σ H Q,t' σ H Q->t σ H Q):PE X e t':=λa s σ H Q I q=>h a s σ H Q I (i σ H Q q)
def PT.weak(h:PT X e t)(i:∀σ H Q,t' σ H Q->t σ H Q):PT X e t':=λa s σ H Q I q=>h a s σ H Q I (i σ H Q q)
def cv{st:av}:W (aB rs) st Q↔a9 rs st/\Q () st:=by
 constructor
 .rintro⟨a,st',e,h⟩;unfold aB at e;split at e
  .cases e;show⟨by assumption,h⟩
  .cases e
 .rintro⟨b,c⟩;show⟨(),st,by unfold aB;rw[Zm b],c⟩
def fW{st:av}:a9 (r::rs) st↔a9 [r] st/\a9 rs st:=by
 have⟨k,u⟩:=r;cases k<;>simp[a9]
def fH.t(h:fH C c0 c k u v)(s:a9 [(k,u)] c.st):aO C c0 c k u v:=by
 cases k with
 |bor j=>show⟨s.1,h⟩
 |_=>show h
structure NC(C:Ct)(c0 c:Cf)(x y:Kd×U)(vx vy:V):Prop where
 hσ:c.σ=c0.σ
 ok:Ok C c
 nx:Nx c0 c
 rx:aO C c0 c x.1 x.2 vx
 ry:aO C c0 c y.1 y.2 vy
 ne:x.1=.own->y.1=.own->vy≠vx
def n_(h:fH C c0 c1 k u v)(h':fH C c1 c k' u' b):k=.own->k'=.own->b≠v:=by
 rintro rfl rfl e;obtain⟨r,d,_,_,_,f⟩:=h;obtain⟨i,g,a,_⟩:=h';obtain⟨o,ho,_⟩:=f.some;subst d;rw[g]at e;cases e;rw[ho]at a;cases a
def two{k:Kd×U->Kd×U->M β}{m:β->av->Prop}{f:d3->d3->Sem α}{Q':d3->d3->α->hh->Prop}(N:PE X a (Gz C O))(Q:PE X b (Gz C z))(I:Inv X d c0.σ c0.H s)(T:Ok C c0)
  (h:W (O >>= λx=>z >>= λy=>aB [x,y] >>= λ_=>k x y) c0.st m)
  (Y:∀x y c e i v u s2,NC C c0 c x y e i->Inv X d c.σ c.H s2->RelV e v->RelV i u->W (k x y) c.st m->et (hE X.prog X.w) X.A (f v u) (Q' v u) X.xe s2) :
  et (hE X.prog X.w) X.A (vr a X.env) (λv s₁=>et (hE X.prog X.w) X.A (vr b X.env) (λu s₂=>et (hE X.prog X.w) X.A (f v u) (Q' v u) X.xe s₂) X.xe s₁) X.xe s:=by
 rw[ah]at h;show Gv (N d s c0.σ c0.H (λe B=>∃x c1,c1.H=B/\c1.σ=c0.σ/\Ok C c1/\Nx c0 c1/\aO C c0 c1 x.1 x.2 e/\W (z >>= λy=>aB [x,y] >>= λ_=>k x y) c1.st m) I ⟨c0,rfl,rfl,T,h.mono λx st1 n c1 e o e2 p q r=>⟨x,c1,rfl,o,p,q,r,by rw[e2];show n⟩⟩) ?_;rintro v s1 ⟨e,B,I1,rv,x,c1,rfl,o,p,q,r,n⟩;rw[ah]at n;show Gv (Q d s1 c0.σ c1.H (λi D=>∃y g,g.H=D/\NC C c0 g x y e i/\W (k x y) g.st m) I1 ⟨c1,o,rfl,p,n.mono λy st2 j g i G e4 GX J L=>?_⟩) ?_
 .rw[ah,cv]at j;subst e4;rw[fW]at j;show⟨y,g,rfl,⟨G,GX,q.trans J,(r.w.on p J (G.trans o.symm)).t j.1.1,(L.from q),n_ r.w L.w⟩,j.2⟩
 .rintro u s2 ⟨i,D,I2,ru,y,g,rfl,l,j⟩;have hs:g.σ=c0.σ:=l.hσ;show Y x y g e i v u s2 l (by rw[hs];show I2) rv ru j
structure LL(C:Ct)(c0 c:Cf)(x:Kd×U)(vx:V):Prop where
 hσ:c.σ=c0.σ
 ok:Ok C c
 nx:Nx c0 c
 rx:aO C c0 c x.1 x.2 vx
def one{k:Kd×U->M β}{e:β->av->Prop}{f:d3->Sem α}{Q':α->hh->Prop}(l:PE X a (Gz C m))(I:Inv X b c0.σ c0.H s)(n:Ok C c0)
  (h:W (m >>= λx=>k x) c0.st e)
  (o:∀x c d v s2,LL C c0 c x d->Inv X b c.σ c.H s2->RelV d v->W (k x) c.st e->et (hE X.prog X.w) X.A (f v) Q' X.xe s2) :
  et (hE X.prog X.w) X.A (vr a X.env) (λv p=>et (hE X.prog X.w) X.A (f v) Q' X.xe p) X.xe s:=by
 rw[ah]at h;show Gv (l b s c0.σ c0.H (λd i=>∃x c1,c1.H=i/\LL C c0 c1 x d/\W (k x) c1.st e) I ⟨c0,rfl,rfl,n,h.mono λx st1 g c1 d q r t u y=>⟨x,c1,rfl,⟨q,t,u,y⟩,by rw[r];show g⟩⟩) ?_;rintro v s1 ⟨d,i,z,rv,x,c1,rfl,j,g⟩;show o x c1 d v s1 j (by rw[j.hσ];show z) rv g
abbrev b9(C:Ct)(c0:Cf)(Q:VK)(r:Kd×U)(st':av):Prop:=∀c v,c.σ=c0.σ->c.st=st'->Ok C c->Nx c0 c->aO C c0 c r.1 r.2 v->Q v c.H
section
def b9.flat(h:b9 C c0 Q (.loc,u) c.st)(a:c.σ=c0.σ)(b:Ok C c)(n:Nx c0 c)(r:Rep C c.S c.H u v):Q v c.H:=h c v a rfl b n r
def b9.list(h:b9 C c0 Q (.own,.lst us) c.st)(a:c.σ=c0.σ)(b:Ok C c)(n:Nx c0 c)(r:ak C c.S c.H us vs)(p:hH)(d:c.H p=cb):Q (.ref p) (upd c.H p (.lst vs)):=by
 have⟨e,f,g⟩:=b.newList n d r;show h {c with H:=upd c.H p (.lst vs)} _ a rfl e f g
def b9.tup(h:b9 C c0 Q (.loc,.tup us) c.st)(a:c.σ=c0.σ)(b:Ok C c)(n:Nx c0 c)(r:ak C c.S c.H us vs)(p:hH)(d:c.H p=cb):Q (.ref p) (upd c.H p (.tup vs)):=by
 have⟨e,f,g⟩:=b.Cu n d r;show h {c with H:=upd c.H p (.tup vs)} _ a rfl e f g
def b9.tupK(h:b9 C c0 Q (kE k,.tup us) c.st)(d:c.σ=c0.σ)(a:Ok C c)(n:Nx c0 c)(r:ak C (SK C c k) c.H us vs)(p:hH)(e:c.H p=cb):Q (.ref p) (upd c.H p (.tup vs)):=by
 have⟨f,b⟩:=a.lay (o:=.tup vs) e;show h {c with H:=upd c.H p (.tup vs)} _ d rfl f (n.trans b) (aO.item ?_);cases k<;>show⟨p,vs,rfl,Hb.of aw,by first|show r.mv (a.Ky b)|show r.mv (a.mv b)⟩
def eE(h:fq k us=b6)(r:ak C (SK C c k) c.H us vs):ak C c.S c.H us vs:=by
 cases k with
 |any=>show r.GP (by simpa[fq,isAny] using h)
 |_=>show r
end
def CG(k k':Kd):∀a,SK C c k a->SK C c (kT k k') a:=by
 intro a h;cases k<;>cases k'<;>first|show h|show .inr h
def zB(k k':Kd):∀a,SK C c k' a->SK C c (kT k k') a:=by
 intro a h;cases k<;>cases k'<;>first|show h|show .inr h
def Eg(k k':Kd):kE (kT k k')=kT k k':=by cases k<;>cases k'<;>rfl
def zC:IA X (Mh .Add) (λx y H Q=>∃l b xs c,x=.ref l/\y=.ref b/\G2 X.K H l xs/\G2 X.K H b c/\xs.length+c.length<=df/\∀p,H p=cb->Q (.ref p) (upd H p (.lst (xs++c)))):=by
 intro f s σ H x y v u Q I o t h;have⟨l,b,xs,c,rfl,rfl,w,A,hz,q⟩:=h;cases o;cases t;have⟨d,r,B,z⟩:=I.list w;have⟨e,g,C,T⟩:=I.list A;have hl:=r.length;have Jo:=g.length;obtain⟨⟨cls,D,data,G⟩,ho,i,n,j⟩:=B.isList;obtain⟨⟨Y,J,data2,L⟩,k,m,N,a⟩:=C.isList;simp only at i j m a;subst i j m a;show T' ⟨_,ho,rfl⟩ ⟨_,k,rfl⟩ noFill_list_add seq_list_add PySem.F.slot_list_add PySem.F.entry_list_add (PySem.F.args_list_add_2 _ _)
   (list_addW l b d.toArray e.toArray n N D J G L (by rw[hA,hA];lia)) ⟨ho,k,?_⟩
 have O:d.toArray++e.toArray=(d++e).toArray:=by simp
 rw[O];show⟨.ref _,_,I.FW (t':=s.toks) (r.append g) (by rw[hY];lia),rfl,q _ I.fresh⟩
end
section
variable{X:Cx}{C:Ct}{pins:List (hH×Obj)}{s:hh}{c0 c:Cf}{Q:VK}
def wN:IA X (Mh .Add) (λx y H Q=>∃a b ys,x=.ref a/\y=.ref b/\Hb X.K H a []/\Hb X.K H b ys/\Q (.ref b) H):=by
 intro pins s σ H x y v u Q I j k h;have⟨a,b,ys,rfl,rfl,l,m,q⟩:=h;cases j;cases k;obtain⟨D,o,p,_⟩:=I.tuple l;obtain⟨r,G,p2,_⟩:=I.tuple m;cases o;obtain⟨⟨cls,t,data,w⟩,ho,e,n,f⟩:=id p;obtain⟨⟨J,z,data2,A⟩,g,i,B,d⟩:=id p2;simp only at e f i d;subst e f i d;show T' ⟨_,ho,rfl⟩ ⟨_,g,rfl⟩ Va WN PySem.F.slot_tuple_add PySem.F.entry_tuple_add (PySem.F.args_tuple_add_2 _ _)
   (tuple_addW0 a b _ r.toArray n B t z w A (by rfl)) ⟨ho,g,.ref b,H,I,rfl,q⟩
abbrev OG.op:OG->XW
 |.add=>.Add|.sub=>.Sub|.mul=>.Mult|.LD=>.FloorDiv|.mod=>.Mod|.pow=>.Pow
def eF(h:qT f a b=bD r):∃i j o,a=.int i/\b=.int j/\f i j=bD o/\r=(.loc,.int o):=by
 unfold qT at h;split at h
 .rw[gj]at h;have⟨o,e,rfl⟩:=h;show⟨_,_,o,rfl,rfl,e,rfl⟩
 .cases h
def CH(Y:C.K=X.K)(t:NC C c0 c x y g l)(I:Inv X pins c.σ c.H s)(z:RelV g v)(B:RelV l u)(h:IJ op x y=bD r)(q:b9 C c0 Q r c.st):
  et (hE X.prog X.w) X.A (Mh op.op v u) (EP X pins c.σ Q) X.xe s:=by
 obtain⟨m,d,n,D,G,_⟩:=t;cases op with
 |add =>
  have h:wF x y=bD r:=h;unfold wF at h;split at h
  .have ex:=D.int d;have e:=G.int d;cases h;show cm pins s c.σ c.H g l v u Q I z B ⟨_,_,ex,e,q.flat m d n rfl⟩
  .have ex:=D.str d;have e:=G.str d;split at h
   .cases h;show qC pins s c.σ c.H g l v u Q I z B ⟨_,_,ex,e,by assumption,q.flat m d n rfl⟩
   .cases h
  .have⟨a,vs,ex,O,J⟩:=D.list d;have⟨b,ws,e,T,L⟩:=G.list d;split at h
   .rename_i N;cases h;show zC pins s c.σ c.H g l v u Q I z B ⟨a,b,vs,ws,ex,e,Y▸O,Y▸T,by rw[<-J.len,<-L.len];show N.1,λp hp=>q.list m d n ((eE N.2.1 J).append (eE N.2.2 L)) p hp⟩
   .cases h
  .rename_i k xs k' ys _ _;have⟨a,vs,ex,O,J⟩:=D.tuple d;have⟨b,ws,e,T,L⟩:=G.tuple d;have I_:=O;have Mq:=T;rw[Y]at I_ Mq;split at h
   .rename_i N;cases h;have m1:ak C (SK C c (kT k k')) c.H xs vs:=J.mv (.up (CG k k'));have m2:ak C (SK C c (kT k k')) c.H ys ws:=L.mv (.up (zB k k'));have q':b9 C c0 Q (kE (kT k k'),.tup (xs++ys)) c.st:=by rw[Eg];show q
    by_cases e1:vs=[]
    .subst e1;show wN pins s c.σ c.H g l v u Q I z B ⟨a,b,ws,ex,e,I_,Mq,?_⟩;show q' c (.ref b) m rfl d n (aO.item ⟨b,ws,rfl,T,?_⟩);have:xs=[]:=by have:=m1.len;simpa using this
     rw[this];show m2
    .show yY pins s c.σ c.H g l v u Q I z B ⟨a,b,vs,ws,ex,e,I_,Mq,e1,by rw[<-J.len,<-L.len];show N,λe2=>?_,λ_ p hp=>q'.tupK m d n (m1.append m2) p hp⟩;subst e2;show q' c (.ref a) m rfl d n (aO.item ⟨a,vs,rfl,O,?_⟩);have:ys=[]:=by have:=m2.len;simpa using this
     rw[this,ri];show m1
   .cases h
  .cases h
 |sub =>
  have⟨i,j,o,ex,e,f,rfl⟩:=eF h;have ex:=(ex▸D).int d;have e:=(e▸G).int d;cases f;show fy pins s c.σ c.H g l v u Q I z B ⟨_,_,ex,e,q.flat m d n rfl⟩
 |mul =>
  have⟨i,j,o,ex,e,f,rfl⟩:=eF h;have ex:=(ex▸D).int d;have e:=(e▸G).int d;unfold zm at f;split at f
  .cases f;show j3 pins s c.σ c.H g l v u Q I z B ⟨_,_,ex,e,by assumption,q.flat m d n rfl⟩
  .cases f
 |LD =>
  have⟨i,j,o,ex,e,f,rfl⟩:=eF h;have ex:=(ex▸D).int d;have e:=(e▸G).int d;unfold zo at f;split at f
  .cases f;show yR pins s c.σ c.H g l v u Q I z B ⟨_,_,ex,e,by assumption,q.flat m d n rfl⟩
  .cases f
 |mod =>
  have⟨i,j,o,ex,e,f,rfl⟩:=eF h;have ex:=(ex▸D).int d;have e:=(e▸G).int d;unfold zp at f;split at f
  .cases f;show d5 pins s c.σ c.H g l v u Q I z B ⟨_,_,ex,e,by assumption,q.flat m d n rfl⟩
  .cases f
 |pow =>
  have⟨i,j,o,ex,e,f,rfl⟩:=eF h;have ex:=(ex▸D).int d;have e:=(e▸G).int d;unfold zq at f;split at f
  .cases f;show ny pins s c.σ c.H g l v u Q I z B ⟨_,_,ex,e,by assumption,q.flat m d n rfl⟩
  .cases f
def zD(d:C.K=X.K)(f:PE X a (Gz C g))(i:PE X b (Gz C j)):PE X (.BinOp a op.op b pos) (Gz C (g >>= λx=>j >>= λy=>aB [x,y] >>= λ_=>M.GQ (IJ op x y))):=by
 rintro pins s σ H Q I ⟨c0,rfl,rfl,k,h⟩;show wpAny_BinOp (two f i I k h λx y c o p v u s2 t l m n w=>?_);have⟨r,e,q⟩:=cD.mp w;show Gv (CH d t l m n e q) λ_ _ z=>by rw[t.hσ]at z;show z
abbrev NB.op:NB->CmpOp
 |.eq=>.Eq|.ne=>.NotEq|.lt=>.Lt|.le=>.LtE|.gt=>.Gt|.ge=>.GtE|.isin=>.In|.GG=>.NotIn|.is=>.Is|.QP=>.IsNot
def Eh{neg:Bool}(I:Inv X pins c.σ c.H s)(i:C.K=X.K)(L:X.A.units+60<Jq){S:hH->Prop}(n:Rep C S c.H x m)(o:RelV m v)(r:ak C S c.H ys vs)
  (ha:G2 C.K c.H a vs\/Hb C.K c.H a vs) (t:HK 50 x=b6) (u:dc 50 ys=b6) {Q:d3->hh->Prop} (q:Q (.bool (if neg then !(ys.any λy=>cn y x) else ys.any λy=>cn y x)) s) :
  et (hE X.prog X.w) X.A (Ny (if neg then .NotIn else .In) v (.ref a)) Q X.xe s:=by
 have z:=G_.of I i 50 x m v t n o;have go:∀d:List d3,Vals vs d->∃e:d3->Bool,(∀y,y∈d.toArray->P5 X.A.in1 s y v (e y))/\d.toArray.any e=ys.any λy=>cn y x:=by
  intro d rv;obtain⟨l,k,_⟩:=G_.zA (G_.of I i 50) u r rv
  classical
  have q:∀j (b:j<d.length),cL (∃w,G_ s 50 w d[j]/\cn w x=b6)=cn (ys.getD j .GC) x:=λj b=>by
   rw[G7,decide_eq_true_iff];show⟨λ⟨w,f,g⟩=>by rw[<-f.inj (k j b)];show g,λh=>⟨_,k j b,h⟩⟩
  show⟨λy=>cL (∃w,G_ s 50 w y/\cn w x=b6),λy B=>?_,?_⟩
  .have⟨j,b,e⟩:=OD (show y∈d by simpa using B);subst e;change P5 _ _ _ _ (decide _);rw[q j b];show Ee (k j b) z (by change X.A.units+1+50 < _;lia)
  .rw[G7];simp only[List.any_toArray,SQ];constructor
   .rintro⟨y,D,h⟩;have⟨j,b,rfl⟩:=OD D;rw[q j b]at h;show⟨_,J0 (l▸b),by simpa[l▸b] using h⟩
   .rintro⟨w,G,J⟩;have⟨j,b,rfl⟩:=OD G;show⟨_,J0 (l▸b),by rw[q j (l▸b)];simpa[b] using J⟩
 rcases ha with ha|ha
 .obtain⟨d,rv,p,_⟩:=sJ I (i▸ha);have⟨e,f,g⟩:=go d rv;cases neg with
  |false=>show SeqAt.in_listAt e p f (by rw[g];show q)
  |true=>show SeqAt.notIn_listAt e p f (by rw[g];show q)
 .rw[i]at ha;obtain⟨d,rv,p,_⟩:=I.tuple ha;have⟨e,f,g⟩:=go d rv;cases neg with
  |false=>show SeqAt.in_tupleAt e p f (by rw[g];show q)
  |true=>show SeqAt.notIn_tupleAt e p f (by rw[g];show q)
end
section
theorem cG:∀{us:List U}{a:List Str},strsOf us=bD a->us=a.map .str
 |[],a,h=>by cases h;rfl
 |.str x::us,a,h=>by
  simp only[strsOf,gj]at h;have⟨t,b,rfl⟩:=h;rw[cG b];rfl
 |.GC::_,_,h=>by cases h
 |.bl _::_,_,h=>by cases h
 |.int _::_,_,h=>by cases h
 |.tup _::_,_,h=>by cases h
 |.lst _::_,_,h=>by cases h
 |.Gp _ _::_,_,h=>by cases h
theorem jq:∀{us:List U}{ns:List Int},intsOf us=bD ns->us=ns.map .int
 |[],ns,h=>by cases h;rfl
 |u::us,ns,h=>by
  cases u<;>first|(cases h;done)|skip
  rename_i x;have h':(intsOf us).map (x::·)=bD ns:=h;rw[gj]at h';have⟨ms,e,rfl⟩:=h';rw[jq e];rfl
theorem ak.ints{S:hH->Prop}:∀{ns:List Int}{vs:List V},ak C S H (ns.map .int) vs->vs=ns.map V.int
 |[],vs,h=>h
 |n::ns,vs,h=>by
  have⟨v,r,rfl,a,b⟩:=h;rw[ak.ints b];have:v=.int n:=a;rw[this];rfl
theorem gO:∀{us:List U}{a:List Bool},fI us=bD a->us=a.map .bl
 |[],a,h=>by cases h;rfl
 |.bl x::us,a,h=>by
  simp only[fI,gj]at h;have⟨t,b,rfl⟩:=h;rw[gO b];rfl
 |.GC::_,_,h=>by cases h
 |.str _::_,_,h=>by cases h
 |.int _::_,_,h=>by cases h
 |.tup _::_,_,h=>by cases h
 |.lst _::_,_,h=>by cases h
 |.Gp _ _::_,_,h=>by cases h
theorem ak.QU{S:hH->Prop}:∀{xs:List Bool}{vs:List V},ak C S H (xs.map .bl) vs->vs=xs.map V.bl
 |[],vs,h=>h
 |x::xs,vs,h=>by
  have⟨v,r,rfl,a,b⟩:=h;rw[ak.QU b];have:v=.bl x:=a;rw[this];rfl
abbrev CI(X:Cx)(a:List (hH×Obj))(c:Cf)(b:Bool)(v:d3)(s':hh):Prop:=v=.bool b/\Inv X a c.σ c.H s'
def oa(o:IA X f r)(I:Inv X a c.σ c.H s)(g:RelV d v)(i:RelV e u)(h:r d e c.H λx H'=>x=.bl b/\H'=c.H):
  et (hE X.prog X.w) X.A (f v u) (CI X a c b) X.xe s :=
 Gv (o a s c.σ c.H d e v u _ I g i h) λw s' j=>by
  have⟨z,H',k,r,l,m⟩:=j;subst l m;show⟨r,k⟩
def aO.dict(g:Ok C c)(h:aO C c0 c k (.Gp ks us) v):∃a kvs,v=.ref a/\c.H a=bD (.dK kvs)/\kvs.map (·.1)=ks.map mu/\ak C (SK C c k) c.H us (kvs.map (·.2)):=by
 cases k with
 |own=>obtain⟨r,e,_,_,_,kvs,b,d,f⟩:=h;show⟨r,kvs,e,b,d,f⟩
 |bor j=>obtain⟨r,e,_,_,_,kvs,b,d,f⟩:=g.rootOf h.1 h.2;show⟨r,kvs,e,b,d,f⟩
 |io=>show h.elim
 |Gm=>show h.elim
 |_=>obtain⟨a,e,_,kvs,b,d,f⟩:=h;show⟨a,kvs,e,b,d,f⟩
theorem dz{S:hH->Prop}:∀{ks:List Str}{us:List U}{kvs:List (Key×V)},kvs.map (·.1)=ks.map mu->ak C S H us (kvs.map (·.2)) ->
  (∀u,dv ks us x=bD u->∃v,dr kvs (mu x)=bD v/\Rep C S H u v)/\(dr kvs (mu x)).isSome=cL (x∈ks)
 |[],us,kvs,a,b=>by
  have:kvs=[]:=by simpa using a
  subst this;show⟨λu h=>by cases us<;>simp[dv]at h,by simp[dr]⟩
 |k::ks,us,[],a,b=>by simp at a
 |k::ks,[],p::kvs,a,b=>by simp[ak]at b
 |k::ks,j::us,p::kvs,a,b=>by
  have⟨v,r,e,d,f⟩:=b;rw[eH]at e;cases e;rw[eH,eH,L7]at a;have⟨g,i⟩:=dz (x:=x) a.2 f;by_cases hk:k=x
  .subst hk;show⟨λu h=>?_,?_⟩
   .simp[dv]at h;subst h;show⟨p.2,d8 a.1,d⟩
   .rw[d8 a.1];simp
  .have c:¬p.1=mu x:=by rw[a.1];intro z;show hk (Si z)
   show⟨λu h=>?_,?_⟩
   .simp[dv,hk]at h;have⟨v,e,q⟩:=g u h;show⟨v,by rw[d9 c];show e,q⟩
   .rw[d9 c,i];simp[ro hk]
def wO(Y:C.P=X.prog)(hw:C.w=X.w)(o:C.K=X.K)(G:X.A.units+60<Jq)(t:NC C c0 c x y J N)(I:Inv X g c.σ c.H s)(f:RelV J v)(i:RelV N u)(h:cO op x.2 y.2=bD b):
  et (hE X.prog X.w) X.A (Ny op.op v u) (CI X g c b) X.xe s:=by
 obtain⟨hσ,d,n,m,j,_⟩:=t;have⟨kx,O⟩:=x;have⟨ky,Q⟩:=y
 dsimp only at h m j
 have q:∀neg:Bool,∀p,zr O Q=bD p->et (hE X.prog X.w) X.A (Ny (if neg then .NotIn else .In) v u) (CI X g c (if neg then !p else p)) X.xe s:=by
  intro neg p h;have B:=m.read d;have L:=j.read d;unfold zr at h;split at h
  .have⟨a,vs,rfl,l,r⟩:=L;cases i;unfold LH at h;split at h
   .rename_i e;cases h;show Eh I o G B f r (.inl l.sq) e.1 e.2 ⟨by cases neg<;>rfl,I⟩
   .cases h
  .have⟨a,vs,rfl,l,r⟩:=L;cases i;unfold LH at h;split at h
   .rename_i e;cases h;show Eh I o G B f r (.inr l) e.1 e.2 ⟨by cases neg<;>rfl,I⟩
   .cases h
  .cases h;have ex:J=_:=B;have⟨a,kvs,rfl,l,r,T⟩:=j.dict d;cases i;subst ex;have hs:=λz:Str=>(dz (x:=z) r T).2;cases neg with
   |false=>show D9 ⋯ I (eV.k (k:=mu _) l) f λs' D=>⟨by rw[hs];rfl,D⟩
   |true=>show se ⋯ I (eV.k (k:=mu _) l) f λs' D=>⟨by rw[hs];rfl,D⟩
  .cases h
 unfold cO at h;split at h
 .split at h
  .rename_i e;cases h;show(Ef (n:=50) (.of I o _ _ _ _ e.1 (m.read d) f) (.of I o _ _ _ _ e.2 (j.read d) i) ⋯).1 _ _ _ _ ⟨rfl,I⟩
  .cases h
 .split at h
  .rename_i e;cases h;show(Ef (n:=50) (.of I o _ _ _ _ e.1 (m.read d) f) (.of I o _ _ _ _ e.2 (j.read d) i) ⋯).2 _ _ _ _ ⟨rfl,I⟩
  .cases h
 .cases h;show oa DV I f i ⟨_,_,m.int d,j.int d,rfl,rfl⟩
 .cases h;show oa DW I f i ⟨_,_,m.int d,j.int d,rfl,rfl⟩
 .cases h;show oa DX I f i ⟨_,_,m.int d,j.int d,rfl,rfl⟩
 .show q cK b h
 .rw[gj]at h;have⟨p,l,rfl⟩:=h;show q b6 p l
 .cases h
def zE(f:C.P=X.prog)(g:C.w=X.w)(i:C.K=X.K)(j:X.A.units+60<Jq)(k:PE X a (Gz C l))(m:PE X b (Gz C n))(o:O0 op.op b=cK):
  PE X (.Compare a [op.op] [b] pos) (Gz C (l >>= λx=>n >>= λy=>aB [x,y] >>= λ_=>M.GQ (cO op x.2 y.2) >>= λc=>pure (.loc,.bl c))):=by
 rintro d s σ H Q I ⟨c0,rfl,rfl,p,h⟩;show wpAny_Compare1 (two k m I p h λx y c N O v u s2 t B D G w=>?_) o;rw[ah]at w;have⟨r,e,q⟩:=cD.mp w;rw[ao]at q;show Gv (wO f g i j t B D G e) λz s' J=>?_;have⟨e,L⟩:=J;subst e;show⟨.bl r,c.H,by rw[<-t.hσ];show L,rfl,q c (.bl r) t.hσ rfl t.ok t.nx rfl⟩
def zF(g:C.P=X.prog)(i:C.w=X.w)(j:C.K=X.K)(k:X.A.units+60<Jq)(l:PE X a (Gz C m))(n:PE X b (Gz C o))(p:O0 op.op b=cK):
  PT X (.Compare a [op.op] [b] pos) (HC C (m >>= λx=>o >>= λy=>aB [x,y] >>= λ_=>M.GQ (cO op x.2 y.2))):=by
 rintro d s σ H Q I ⟨c0,rfl,rfl,B,h⟩;show XF (two (f:=λv u=>Ny op.op v u) (Q':=λ_ _ c s=>et (hE X.prog X.w) X.A (Y7 c) (TP X d c0.σ Q) X.xe s) l n I B h λx y c O T v u s2 t D G J w=>?_) p;have⟨r,e,q⟩:=cD.mp w;show Gv (wO g i j k t D G J e) λz s' L=>?_;have⟨e,N⟩:=L;subst e;show IL ⟨c.H,by rw[<-t.hσ];show N,q c t.hσ rfl t.ok t.nx⟩
end
section
abbrev Ei(C:Ct)(c0:Cf)(Q:Bool->Hp->Prop)(b:Bool)(st':av):Prop:=∀c,c.σ=c0.σ->c.st=st'->Ok C c->Nx c0 c->Q b c.H
def qV(a:c1.σ=c0.σ)(b:Ok C c1)(n:Nx c0 c1)(h:W m c1.st (b9 C c0 Q)):Gz C m c0.σ c1.H Q :=
 ⟨c1,a,rfl,b,h.mono λr st c d v e f g i j=>c d v e f g (n.trans i) (j.from n)⟩
def wQ(a:c1.σ=c0.σ)(b:Ok C c1)(n:Nx c0 c1)(h:W m c1.st (Ei C c0 Q)):HC C m c0.σ c1.H Q :=
 ⟨c1,a,rfl,b,h.mono λr st c d e f g i=>c d e f g (n.trans i)⟩
def aT(a:Ok C c0)(h:W (b >>= k) c0.st d)
  (hz:∀x c v,LL C c0 c x v->W (k x) c.st d->Z v c.H):Gz C b c0.σ c0.H Z:=by
 rw[ah]at h;show⟨c0,rfl,rfl,a,h.mono λx st1 e c1 f g i j l m=>hz x c1 f ⟨g,j,l,m⟩ (by rw[i];show e)⟩
def eG(a:Ok C c0)(h:W (d >>= k) c0.st e)
  (hz:∀b c,c.σ=c0.σ->Ok C c->Nx c0 c->W (k b) c.st e->Z b c.H):HC C d c0.σ c0.H Z:=by
 rw[ah]at h;show⟨c0,rfl,rfl,a,h.mono λx st1 f c1 g i j l=>hz x c1 g j l (by rw[i];show f)⟩
abbrev Ej(m:M (Kd×U))(x:Kd×U):M (Kd×U):=match x.2 with
 |.bl b6=>m
 |.bl cK=>pure (.loc,.bl cK)
 |_=>M.fail
abbrev Ek(x:Kd×U):M (Kd×U):=match x.2 with
 |.bl c=>pure (.loc,.bl !c)
 |_=>M.fail
def snd_and(g:PE X a (Gz C i))(j:PE X (.BoolOp .And (b::rest) pos) (Gz C l)):PE X (.BoolOp .And (a::b::rest) pos) (Gz C (i >>= Ej l)):=by
 show PE.weak (BO g j) ?_;rintro σ H Q ⟨c0,rfl,rfl,m,h⟩;show aT m h λx c v t w=>?_;have⟨k,u⟩:=x;have⟨f,d,n,r⟩:=t;unfold Ej at w;split at w
 .rename_i e
  dsimp only at e r
  subst e;show⟨b6,r.bl d,by rw[Zm rfl];show qV f d n w⟩
 .rename_i e
  dsimp only at e r
  subst e;rw[ao]at w;show⟨cK,r.bl d,by rw[Zn ke];show w c (.bl cK) f rfl d n rfl⟩
 .show(bf.mp w).elim
def zG(d:PE X a (Gz C f)):PE X (.UnaryOp .Not a pos) (Gz C (f >>= Ek)):=by
 show PE.weak (BP d) ?_;rintro σ H Q ⟨c0,rfl,rfl,g,h⟩;show aT g h λx c v t w=>?_;have⟨k,u⟩:=x;have⟨i,b,n,r⟩:=t;unfold Ek at w;split at w
 .rename_i e
  dsimp only at e r
  subst e;rw[ao]at w;show⟨_,r.bl b,w c (.bl _) i rfl b n rfl⟩
 .show(bf.mp w).elim
def zH(g:PT X d (HC C i))(j:PE X a (Gz C k))(l:PE X b (Gz C m)):PE X (.IfExp d a b pos) (Gz C (i >>= λp=>if p=b6 then k else m)):=by
 show PE.weak (vt g j l) ?_;rintro σ H Q ⟨c0,rfl,rfl,o,h⟩;show eG o h λp c e f n w=>?_;cases p with
 |true=>rw[Zm rfl]at w ⊢;show qV e f n w
 |false=>rw[Zn ke]at w ⊢;show qV e f n w
def zI(d:PT X a (HC C e)):PT X (.UnaryOp .Not a pos) (HC C (e >>= λb=>pure !b)):=by
 show PT.weak (BM d) ?_;rintro σ H Q ⟨c0,rfl,rfl,f,h⟩;show eG f h λp c g i n w=>?_;rw[ao]at w;show w c g rfl i n
def zJ(g:PT X a (HC C i))(j:PW X (.BoolOp .And (b::rest) pos) (HC C k)):PW X (.BoolOp .And (a::b::rest) pos) (HC C (i >>= λp=>if p=b6 then k else pure cK)):=by
 have l:=BL g j;rintro m d s σ H Q I ⟨c0,rfl,rfl,o,h⟩;show l m d s c0.σ c0.H Q I (eG o h λp c e f n w=>?_);cases p with
 |true=>rw[Zm rfl]at w ⊢;show wQ e f n w
 |false=>rw[Zn ke]at w ⊢;rw[ao]at w;show w c e rfl f n
def CJ(g:PT X a (HC C i))(j:PW X (.BoolOp .Or (b::rest) pos) (HC C k)):PW X (.BoolOp .Or (a::b::rest) pos) (HC C (i >>= λp=>if p=b6 then pure b6 else k)):=by
 have l:=DI g j;rintro m d s σ H Q I ⟨c0,rfl,rfl,o,h⟩;show l m d s c0.σ c0.H Q I (eG o h λp c e f n w=>?_);cases p with
 |true=>rw[Zm rfl]at w ⊢;rw[ao]at w;show w c e rfl f n
 |false=>rw[Zn ke]at w ⊢;show wQ e f n w
def sN{us:List α}{vs:List β}(h:us.length=vs.length):(!us.isEmpty)=!vs.isEmpty:=by
 cases us<;>cases vs<;>simp_all
def og(j:PE X a (Gz C l))(i:C.K=X.K)(m:∀b,isTrue a X.env b=(do let v <-b;Wc a.pos;Ko [v] (Y7 v))):PT X a (HC C (l >>= λx=>M.GQ (uI x.2))):=by
 show PT.weak (vJ j m) ?_;rintro σ H Q ⟨c0,rfl,rfl,o,h⟩;show aT o h λx c v t w=>?_;have⟨k,u⟩:=x;have⟨s,d,n,r⟩:=t;have⟨p,e,q⟩:=cD.mp w
 dsimp only at e r
 show⟨p,?_,q c s rfl d n⟩;unfold uI at e;split at e
 .cases e;rw[r.bl d];rfl
 .cases e;have⟨a,vs,rfl,f,g⟩:=r.list d;show .inl ⟨vs,i▸f,sN g.len⟩
 .cases e;have⟨a,vs,rfl,f,g⟩:=r.tuple d;rw[i]at f;show .inr (.inl ⟨vs,f,sN g.len⟩)
 .split at e
  .cases e;rw[r.str d];show⟨by assumption,rfl⟩
  .cases e
 .cases e
end
section
def cF.from(n:Nx c0 c1):cF C c1 c rs vs->cF C c0 c rs vs:=by
 intro h;induction rs generalizing vs with
 |nil=>show h
 |cons r rs a=>have⟨v,t,e,b,d,f⟩:=h;show⟨v,t,e,b.from n,a d,f⟩
def cF.get{i:Nat}(h:cF C c0 c rs vs)(e:rs[i]?=bD r)(a:vs[i]?=bD v):fH C c0 c r.1 r.2 v:=by
 induction rs generalizing vs i with
 |nil=>simp at e
 |cons g rs b =>
  have⟨j,t,rfl,d,f,k⟩:=h;cases i with
  |zero=>simp at e a;subst e a;show d
  |succ i=>show b f (by simpa using e) (by simpa using a)
def zK:PA X [] (HD C (pure [])):=by
 rintro pos a s σ H Q I ⟨c0,rfl,rfl,b,h⟩;rw[ao]at h;show j6 pos a s c0.σ c0.H Q I (h c0 [] rfl rfl b (Nx.refl c0) rfl)
def wR(g:PE X e (Gz C m))(j:PA X es (HD C ms))(hs:i5 (e::es) X.env=(cK,vr e X.env)::i5 es X.env):PA X (e::es) (HD C (m >>= λr=>ms >>= λrs=>pure (r::rs))):=by
 rintro pos a s σ H Q I ⟨c0,rfl,rfl,k,h⟩;show g9 g j hs pos a s c0.σ c0.H Q I (aT k h λr c1 v t w=>?_);rw[ah]at w;show⟨c1,t.hσ,rfl,t.ok,w.mono λrs st2 b l vs c n o d f=>?_⟩;rw[ao]at b;show b l (v::vs) c n o (t.nx.trans d) ⟨v,vs,rfl,t.rx.w.on t.ok d (c.trans t.hσ.symm),f.from t.nx,λhk i x y p q u=>?_⟩;show n_ t.rx.w (f.get p q) hk u
structure Ja(C:Ct)(c0 c:Cf)(rs:List (Kd×U))(vs:List V):Prop where
 hσ:c.σ=c0.σ
 ok:Ok C c
 nx:Nx c0 c
 rep:cF C c0 c rs vs
 LM:a9 rs c.st
def args{k:List (Kd×U)->M β}{b:β->av->Prop}(f:PA X es (HD C ms))(I:Inv X a c0.σ c0.H s)(g:Ok C c0)(h:W (ms >>= λrs=>aB rs >>= λ_=>k rs) c0.st b)(pos:Pos):
  et (hE X.prog X.w) X.A (Yu (Ht pos (i5 es X.env))) (λus s1=>∃rs c vs,Ja C c0 c rs vs/\Inv X a c.σ c.H s1/\Vals vs us/\W (k rs) c.st b) X.xe s:=by
 rw[ah]at h;show Gv (f pos a s c0.σ c0.H (λvs e=>∃rs c,c.H=e/\Ja C c0 c rs vs/\W (k rs) c.st b) I ⟨c0,rfl,rfl,g,h.mono λrs st1 d c1 vs i j l m n=>?_⟩) ?_
 .rw[ah,cv]at d;subst j;show⟨rs,c1,rfl,⟨i,l,m,n,d.1⟩,d.2⟩
 .rintro us s1 ⟨vs,e,o,rv,rs,c1,rfl,t,w⟩;show⟨rs,c1,vs,t,by rw[t.hσ];show o,rv,w⟩
def Ja.one(t:Ja C c0 c [r] vs):∃v,vs=[v]/\aO C c0 c r.1 r.2 v:=by
 obtain⟨v,t',rfl,a,b,_⟩:=t.rep;cases b;show⟨v,rfl,a.t t.LM⟩
def Ok.share(b:Ok C c)(g:C.H₀ r=cb)(h:∃o,c.H r=bD o)(hl:st'.length=c.st.length)
  (d:∀(i:Nat) k u,st'[i]?=bD (bD (k,u))->(∃v,c.σ[i]?=bD (bD v)/\fG C (λa=>c.S a\/a=r) c.H k u v)/\(k.root=b6->c.st[i]?=bD (bD (k,u)))) (l:JH C {c with S:=λa=>c.S a\/a=r,st:=st' }) :
  Ok C {c with S:=λa=>c.S a\/a=r,st:=st' }:=by
 show⟨b.same,λa z=>?_,b.par,b.io,by rw[show({c with S:=λa=>c.S a\/a=r,st:=st' }:Cf).st.length=st'.length from rfl,hl];show b.len,λi k u e=>(d i k u e).1,λi j k k' u u' m hk f n p q s=>?_,l⟩
 .rcases z with z|rfl
  .show b.Iy a z
  .show⟨g,h⟩
 .show b.inj i j k k' u u' m hk f ((d i k u n).2 hk) ((d j k' u' p).2 f) q s
def Ok.CK(p:Ok C c0)(b:Ok C c)(n:Nx c0 c)(d:c0.H r=cb)(f:¬c.R r)(s:cQ C c.S c.H r u):
  Ok C {c with S:=λa=>c.S a\/a=r}/\Nx c0 {c with S:=λa=>c.S a\/a=r}:=by
 obtain⟨o,ho,_⟩:=s.some;show⟨b.share (st':=c.st) (p.iU d).1 ⟨o,ho⟩ rfl (λi k u e=>⟨?_,λ_=>e⟩) (b.dd.hs (.up λa=>.inl) λj a z=>⟨λq=>q.elim (b.root (.inr ⟨j,z⟩)).1 λe=>f (.inr ⟨j,e▸z⟩),λo q=>q⟩),⟨⟨n.keep,n.there,n.roots,λa z=>.inl (n.sub a z),λa z=>?_⟩,n.dk⟩⟩
 .have⟨v,g,h⟩:=b.sl i k u e;have t:Mv c.S c.H (λa=>c.S a\/a=r) c.H:=.up λa=>.inl;show⟨v,g,h.mv t (.up λa z=>z.imp id .inl) λhk x l=>⟨?_,λo q=>q⟩⟩;obtain⟨y,m,w,_⟩:=h.rt hk;rw[l]at m;cases m;rintro(z|rfl)
  .show w z
  .show f (.inl ⟨i,k,u,hk,e,by rw[g,l]⟩)
 .rcases z with z|rfl
  .show n.new a z
  .show .inr (.inr d)
def Ok.wU(f:Ok C c)(n:Nx c0 c)(l:c.st[j]?=bD (bD (.own,u)))(m:c.σ[j]?=bD (bD (.ref r))):
  Ok C {c with S:=λa=>c.S a\/a=r,st:=c.st.set j (bD (.loc,u))}/\Nx c0 {c with S:=λa=>c.S a\/a=r,st:=c.st.set j (bD (.loc,u))}/\Rep C (λa=>c.S a\/a=r) c.H u (.ref r):=by
 have⟨T,b,g,p,Y,q2,G,A⟩:=f.sl j _ _ l;rw[m]at b;cases b;cases p;have B:Rep C (λa=>c.S a\/a=r) c.H u (.ref r):=A.rep (λa=>.inl) (.inr rfl);obtain⟨o,ho,_⟩:=A.some;have s:j<c.st.length:=(eh.mp l).1;have t:∀(i:Nat) k u',(c.st.set j (bD (.loc,u)))[i]?=bD (bD (k,u'))->i≠j->c.st[i]?=bD (bD (k,u')):=λi k u' e I=>by rw[i1 (ro I)]at e;show e
 have J:c.R1 r:=⟨j,.own,u,rfl,l,m⟩
 have w:∀(i:Nat) (u':U),(c.st.set j (bD (.loc,u)))[i]?=bD (bD (.Gm,u'))->c.st[i]?=bD (bD (.Gm,u')):=λi u' e=>by
  by_cases d:i=j
  .subst d;rw[ez s]at e;cases e
  .show t i .Gm u' e d
 have b1:∀a,({c with S:=λa=>c.S a\/a=r,st:=c.st.set j (bD (.loc,u))}:Cf).R1 a->c.R1 a:=λa L=>by
  have⟨i,k,u',hk,e,N⟩:=L;by_cases d:i=j
  .subst d;rw[ez s]at e;cases e;cases hk
  .show⟨i,k,u',hk,t i k u' e d,N⟩
 have O:JH C {c with S:=λa=>c.S a\/a=r,st:=c.st.set j (bD (.loc,u))}:=f.dd.of rfl (λi u' e=>⟨w i u' e,rfl⟩) (λa z=>.inl (b1 a z)) (.up λa=>.inl) λi a z=>⟨λq=>q.elim (f.root (.inr ⟨i,z⟩)).1 λe=>f.dd.d1 i a z (e▸J),λo q=>q⟩
 show⟨f.share (st':=c.st.set j (bD (.loc,u))) G ⟨o,ho⟩ (by simp) (λi k u' e=>?_) O,⟨⟨n.keep,n.there,λa z=>?_,λa z=>.inl (n.sub a z),λa z=>?_⟩,λa ⟨i,u',g,b,h,x⟩=>n.dk a ⟨i,u',g,w i u' b,h,x⟩⟩,B⟩
 .by_cases d:i=j
  .subst d;rw[ez s]at e;cases e;show⟨⟨.ref r,m,B⟩,λz=>nomatch z⟩
  .have y:=t i k u' e d;have⟨v,b,h⟩:=f.sl i k u' y;show⟨⟨v,b,h.mv (.up λa=>.inl) (.up λa z=>z.imp id .inl) λhk g p=>⟨?_,λo q=>q⟩⟩,λ_=>y⟩;obtain⟨ND,D,Q,_⟩:=h.rt hk;rw[p]at D;cases D;rintro(z|rfl)
   .show Q z
   .show d (f.inj i j k .own u' u g hk rfl y l (by rw[b,p]) m)
 .rcases z with z|⟨i,u',g,b,h,x⟩
  .show n.roots a (.inl (b1 a z))
  .show n.roots a (.inr ⟨i,u',g,w i u' b,h,x⟩)
 .rcases z with z|rfl
  .show n.new a z
  .rcases n.roots a (.inl ⟨j,.own,u,rfl,l,m⟩) with z|z
   .show .inr (.inl z)
   .show .inr (.inr z)
def iq(A:Ok C c0)(b:Ok C c)(n:Nx c0 c)(d:fH C c0 c r.1 r.2 v)(h:W (lift r) c.st B):
  ∃(S':hH->Prop) (st':av) (u:U),(∀a,c.S a->S' a)/\Ok C {c with S:=S',st:=st' }/\Nx c0 {c with S:=S',st:=st' }/\Rep C S' c.H u v/\B u st' /\
   (∀a,S' a->c.S a\/v=.ref a/\(r.1=.own\/c.R a))/\∀a,({c with S:=S',st:=st' }:Cf).R a->c.R a:=by
 have⟨k,u⟩:=r;cases k with
 |own =>
  rw[show lift (.own,u)=pure u from rfl,ao]at h;have⟨r,e,D,O,G,t⟩:=d;have⟨l,m⟩:=Ok.CK A b n D G t;show⟨_,c.st,u,λa=>.inl,l,m,by rw[e];show t.rep (λa=>.inl) (.inr rfl),h,λa z=>?_,λa z=>z⟩;rcases z with z|rfl
  .show .inl z
  .show .inr ⟨e,.inl rfl⟩
 |loc =>
  rw[show lift (.loc,u)=pure u from rfl,ao]at h;show⟨c.S,c.st,u,λa=>id,b,n,d,h,λa z=>.inl z,λa z=>z⟩
 |any =>
  rw[show lift (.any,u)=if GP u=b6 then pure u else M.fail from rfl]at h;split at h
  .rw[ao]at h;show⟨c.S,c.st,u,λa=>id,b,n,Rep.GP (by assumption) d,h,λa z=>.inl z,λa z=>z⟩
  .show(bf.mp h).elim
 |bor j =>
  have⟨x,st',e,I⟩:=h;rw[show lift (.bor j,u) c.st=match c.st[j]? with|some (bD (.own,u))=>bD (Ex.ok u,c.st.set j (bD (.loc,u)))|_=>cb from rfl]at e;split at e
  .rename_i w f;cases e;obtain⟨Q,y,r,J,_⟩:=b.sl j _ _ f;have o:c.σ[j]?=bD (bD v):=d;rw[o]at y;cases y;subst J;have⟨l,m,p⟩:=b.wU n f o;show⟨_,_,_,λa=>.inl,l,m,p,I,λa z=>?_,λa z=>?_⟩
   .rcases z with z|rfl
    .show .inl z
    .show .inr ⟨rfl,.inr (.inl ⟨j,.own,_,rfl,f,o⟩)⟩
   .rcases z with⟨i,k,u',hk,e,q⟩|⟨i,u',L,e,q,N⟩
    rotate_left 1
    .by_cases g:i=j
     .subst g;have s:i<c.st.length:=(eh.mp f).1;rw[ez s]at e;cases e
     .rw[i1 (ro g)]at e;show .inr ⟨i,u',L,e,q,N⟩
    by_cases g:i=j
    .subst g;have s:i<c.st.length:=(eh.mp f).1;rw[ez s]at e;cases e;cases hk
    .rw[i1 (ro g)]at e;show .inl ⟨i,k,u',hk,e,q⟩
  .cases e
 |_=>show d.elim
theorem ir:∀{rs:List (Kd×U)}{vs:List V}{c:Cf}{f:List U->av->Prop},Ok C c0->Ok C c->Nx c0 c->cF C c0 c rs vs->W (de rs) c.st f ->
  ∃(S':hH->Prop) (st':av) (us:List U),(∀a,c.S a->S' a)/\Ok C {c with S:=S',st:=st' }/\Nx c0 {c with S:=S',st:=st' }/\ak C S' c.H us vs/\f us st'
 |[],vs,c,f,m,p,n,s,h=>by
  rw[show de []=pure [] from rfl,ao]at h;show⟨c.S,c.st,[],λa=>id,p,n,s,h⟩
 |r::rs,vs,c,f,m,p,n,s,h=>by
  have⟨v,t,rfl,J,L,N⟩:=s;rw[show de (r::rs)=lift r >>= λu=>de rs >>= λus=>pure (u::us) from rfl,ah]at h;have⟨S1,st1,u,s1,O,Q,b,x,T,Y⟩:=iq m p n J h;rw[ah]at x;have NF:cF C c0 {c with S:=S1,st:=st1} rs t:=by
   clear h x;have y:∀(l:List (Kd×U)) (w:List V),cF C c0 c l w->(r.1=.own->∀(i:Nat) g j,l[i]?=bD g->w[i]?=bD j->g.1=.own->j≠v)->cF C c0 {c with S:=S1,st:=st1} l w:=by
    intro l;induction l with
    |nil=>intro w q _;show q
    |cons r2 l ih =>
     intro w q A;have⟨B,D,rfl,k,q2,q3⟩:=q;show⟨B,D,rfl,?_,ih D q2 (λhk i g j e1 e2 He=>A hk (i+1) g j (by simpa using e1) (by simpa using e2) He),q3⟩;have⟨k2,u2⟩:=r2;cases k2 with
     |own =>
      have⟨a,e,p1,p2,G,p4⟩:=k;show⟨a,e,p1,λz=>?_,λz=>G (Y a z),p4.mv (.up s1) λo q=>q⟩;rcases T a z with z|⟨z,z'|z'⟩
      .show p2 z
      .show A z' 0 _ B rfl rfl rfl (e.trans z.symm)
      .show G z'
     |loc=>show Rep.mv (.up s1) k
     |any=>show Rep.mv (.up λa z=>z.imp id (s1 a)) k
     |_=>show k
   show y rs t L N
  have⟨S2,st2,us,s2,GX,n2,d,I⟩:=ir (c:={c with S:=S1,st:=st1}) m O Q NF x;rw[ao]at I;show⟨S2,st2,u::us,λa z=>s2 a (s1 a z),GX,n2,⟨v,t,rfl,b.mv (.up s2),d⟩,I⟩
def zL(j:PA X es (HD C ms)):PE X (.Tuple es p pos) (Gz C (ms >>= λrs=>aB rs >>= λ_=>de rs >>= λus=>if us.length<=df then pure (.loc,.tup us) else M.fail)):=by
 rintro a s σ H Q I ⟨c0,rfl,rfl,g,h⟩;show wpAny_Tuple_spliced (Gv (args j I g h pos) λus s1 k=>?_);have⟨rs,c,vs,t,i,rv,w⟩:=k;rw[ah]at w;have⟨S',st',ws,q,l,m,d,f⟩:=ir g t.ok t.nx t.rep w;split at f
 .rename_i hz;rw[ao]at f;have hl:vs.length<=df:=by rw[<-d.len];show hz
  show⟨by rw[<-rv.length];show hl,?_⟩;have n:c.H s1.heap.objs.size=cb:=i.Gu.fresh (ix _);have o:Inv X a c0.σ c.H s1:=by rw[<-t.hσ];show i
  show⟨.ref s1.heap.objs.size,upd c.H s1.heap.objs.size (.tup vs),o.laid (t':=s1.toks) (λb u e=>dt _ e) (ix _) ⟨hl,us,rv,XA _ _⟩,rfl,?_⟩;show b9.tup (c:={c with S:=S',st:=st' }) f t.hσ l m d _ n
 .show(bf.mp f).elim
def zM(j:PA X es (HD C ms)):PE X (.List es pos) (Gz C (ms >>= λrs=>aB rs >>= λ_=>de rs >>= λus=>if us.length<=df then pure (.own,.lst us) else M.fail)):=by
 rintro a s σ H Q I ⟨c0,rfl,rfl,g,h⟩;show wpAny_List_spliced (Gv (args j I g h pos) λus s1 k=>?_);have⟨rs,c,vs,t,i,rv,w⟩:=k;rw[ah]at w;have⟨S',st',ws,p,l,m,d,f⟩:=ir g t.ok t.nx t.rep w;split at f
 .rename_i hz;rw[ao]at f;have hl:vs.length<=df:=by rw[<-d.len];show hz
  show⟨by rw[<-rv.length];show hl,?_⟩;have n:c.H s1.heap.objs.size=cb:=i.Gu.fresh (ix _);have o:Inv X a c0.σ c.H s1:=by rw[<-t.hσ];show i
  show⟨.ref s1.heap.objs.size,upd c.H s1.heap.objs.size (.lst vs),o.laid (t':=s1.toks) (λb u e=>dt _ e) (ix _) ⟨hl,us,0,rv,fx _ rfl⟩,rfl,?_⟩;show b9.list (c:={c with S:=S',st:=st' }) f t.hσ l m d _ n
 .show(bf.mp f).elim
end
section
def oh(d:X.N[i]?=bD x)(f:HX X.env.scope x)(g:(x==("__debug__":Str))=cK)(l:(x==("__classdict__":Str))=cK):PE X (.Name x pos) (Gz C (cY i)):=by
 show PE.weak (bT d f g l) ?_;rintro σ H Q ⟨c0,rfl,rfl,b,r,st',e,h⟩;unfold cY at e;split at e
 .cases e
 .rename_i k u m hs;cases e;have⟨v,c,a⟩:=b.sl i k u hs;show⟨v,c,h c0 v rfl rfl b (Nx.refl c0) ?_⟩;by_cases hk:k.root=b6
  .rw[Zm hk];show⟨⟨k,hk,hs⟩,c⟩
  .rw[Zn hk];cases k with
   |loc=>show a
   |any=>show a
   |bor j=>show a.elim
   |Gm=>show(m rfl).elim
   |_=>show absurd rfl hk
 .cases e
def iu(h:PE X e (tC v))(r:∀S H,Rep C S H u v):PE X e (Gz C (pure (.loc,u))):=by
 show PE.weak h ?_;rintro σ H Q ⟨c0,rfl,rfl,a,h⟩;rw[ao]at h;show h c0 v rfl rfl a (Nx.refl c0) (r _ _)
def b9.root(h:b9 C c0 Q (.own,u) c.st)(d:c.σ=c0.σ)(b:Ok C c)(n:Nx c0 c)(p:hH)(a:c.H p=cb)(r:cQ C c.S (upd c.H p o) p u):Q (.ref p) (upd c.H p o):=by
 have⟨e,f⟩:=b.lay (o:=o) a;have⟨j,g,k,l,i⟩:=b.iU a;show h {c with H:=upd c.H p o} _ d rfl e (n.trans f) ⟨p,rfl,n.none a,g,i,r⟩
def wV(c:C.P=X.prog)(d:C.w=X.w)(r:Bool):PE X (.Dict [] [] pos) (Gz C (pure (.own,.Gp [] []))):=by
 show PE.weak pd ?_;rintro σ H Q ⟨c0,rfl,rfl,a,h⟩ p b;rw[ao]at h;show b9.root h rfl a (Nx.refl c0) p b ⟨[],aw,rfl,rfl⟩
def ak.Hm{S:hH->Prop}(h:ak C S H us vs)(e:Hm us i=bD u):∃v,L2.Hm vs i=bD v/\Rep C S H u v:=by
 unfold L2.Hm at e ⊢;rw[h.len]at e;cases q:JS vs.length i with
 |none=>rw[q]at e;cases e
 |some j =>
  rw[q]at e;show h.get e
def CL(L:C.K=X.K)(N:X.A.units+60<Jq)(hs:g_ b)(t:NC C c0 c x y g j)(I:Inv X d c.σ c.H s)(o:RelV g v)(p:RelV j u)(h:gh x y.2=bD r)(q:b9 C c0 Q r c.st):
  et (hE X.prog X.w) X.A (SN a b v u) (EP X d c.σ Q) X.xe s:=by
 obtain⟨z,f,n,B,l,-⟩:=t;have⟨O,T⟩:=y
 dsimp only at h l
 unfold gh at h;split at h
 .rename_i k xs i;rw[gj]at h;have⟨w,e,rfl⟩:=h;have⟨a',vs,ex,m,D⟩:=B.list f;have⟨vw,G,J⟩:=D.Hm e;show yZ a b d s c.σ c.H g j v u Q I o p ⟨a',vs,i,vw,ex,l.int f,L▸m,G,q c vw z rfl f n (aO.item J)⟩ (hs _ _)
 .rename_i k xs i;rw[gj]at h;have⟨w,e,rfl⟩:=h;have⟨a',vs,ex,m,D⟩:=B.tuple f;have⟨vw,G,J⟩:=D.Hm e;rw[L]at m;show j7 a b d s c.σ c.H g j v u Q I o p ⟨a',vs,i,vw,ex,l.int f,m,G,q c vw z rfl f n (aO.item J)⟩ (hs _ _)
 .split at h
  .rw[gj]at h;have⟨w,e,rfl⟩:=h;show nE a b d s c.σ c.H g j v u Q I o p ⟨_,_,w,B.str f,l.int f,by assumption,e,q c _ z rfl f n rfl⟩ (hs _ _)
  .cases h
 .cases h
def zN(f:C.K=X.K)(g:X.A.units+60<Jq)(hs:g_ b)(i:PE X a (Gz C j))(k:PE X b (Gz C l)):PE X (.Subscript a b pos) (Gz C (j >>= λx=>l >>= λy=>aB [x,y] >>= λ_=>M.GQ (gh x y.2))):=by
 rintro d s σ H Q I ⟨c0,rfl,rfl,m,h⟩;show Ww (two i k I m h λx y c B D v u s2 t n o p w=>?_);have⟨r,e,q⟩:=cD.mp w;show Gv (CL f g hs t n o p e q) λ_ _ z=>by rw[t.hσ]at z;show z
def ak.cut{S:hH->Prop}(h:ak C S H us vs)(lo a:Option Int):ak C S H (TM.cut us lo a) (uc vs lo a):=by
 unfold TM.cut uc;rw[h.len];show(h.drop _).take _
end
section
end
section
variable{X:Cx}{C:Ct}{pins:List (hH×Obj)}{s:hh}{c0 c c1:Cf}
variable{a b d e:my}{es:List my}{m ma mb md:M (Kd×U)}{ms:M (List (Kd×U))}{ta tb:M Bool}{pos p p2:Pos}
abbrev tO(C:Ct)(m:M (Option Int)):TO:=λσ H Q=>∃c0:Cf,c0.σ=σ/\c0.H=H/\Ok C c0/\W m c0.st λi st'=>∀c,c.σ=σ->c.st=st'->Ok C c->Nx c0 c->Q i c.H
def uK:PO X cb (tO C (pure cb)):=by
 rintro pins s σ H Q I ⟨c0,rfl,rfl,f,h⟩;rw[ao]at h;show yW pins s c0.σ c0.H Q I (h c0 rfl rfl f (Nx.refl c0))
def uL(f:PE X a (Gz C ma)):PO X (bD a) (tO C (ma >>= CD)):=by
 rintro pins s σ H Q I ⟨c0,rfl,rfl,g,h⟩;show yX f pins s c0.σ c0.H Q I (aT g h λx c v t w=>?_);have⟨k,u⟩:=x;unfold CD at w;split at w
 .rename_i i e
  dsimp only at e
  subst e;rw[ao]at w;show⟨i,t.rx.int t.ok,w c t.hσ rfl t.ok t.nx⟩
 .show(bf.mp w).elim
def CM{lo f:Option Int}(u:C.K=X.K)(i:c.σ=c0.σ)(g:Ok C c)(n:Nx c0 c)(j:aO C c0 c x.1 x.2 v)(h:lK x lo f=bD r)(q:b9 C c0 Q r c.st):
  D7 X.K v lo f c.H Q\/Ea v lo f c.H Q:=by
 unfold lK at h;split at h
 .split at h
  .rename_i k;cases h;have⟨a',vs,ex,l,o⟩:=j.list g;show .inl ⟨a',vs,ex,u▸l,λp t=>q.list i g n ((eE k o).cut lo f) p t⟩
  .cases h
 .split at h
  .rename_i k;cases h;have⟨a',vs,ex,l,o⟩:=j;show .inl ⟨a',vs,ex,u▸l.sq,λp t=>q.list i g n ((o.GP k).cut lo f) p t⟩
  .cases h
 .split at h
  .cases h;show .inr ⟨_,j.str g,by assumption,q.flat i g n rfl⟩
  .cases h
 .cases h
def zO{lo g:Option my}(n:C.K=X.K)(o:PE X a (Gz C ma))(hl:PO X lo (tO C ml))(u:PO X g (tO C y)):
  PE X (.Subscript a (.Slice lo g cb p2) pos) (Gz C (ma >>= λx=>ml >>= λl=>y >>= λh=>aB [x] >>= λ_=>M.GQ (lK x l h))):=by
 show PE.weak (vK (KS.or y6 Ci) o hl u) ?_;rintro σ H Q ⟨c0,rfl,rfl,z,h⟩;show aT z h λx c v t w=>?_;rw[ah]at w;show⟨c,t.hσ,rfl,t.ok,w.mono λl st2 i A B D G I=>?_⟩;subst D;rw[ah]at i;show⟨A,B,rfl,G,i.mono λT Y f J j L N O=>?_⟩;subst L;rw[ah,cv]at f;have⟨r,e,q⟩:=cD.mp f.2;have k:Nx c J:=I.trans O;show CM n j N (t.nx.trans k) ((t.rx.w.on t.ok k (j.trans t.hσ.symm)).t f.1) e q
end
section
variable{X:Cx}{C:Ct}{pins:List (hH×Obj)}{s:hh}{c0 c c1:Cf}
variable{a b d e:my}{es:List my}{m ma mb md:M (Kd×U)}{ms:M (List (Kd×U))}{ta tb:M Bool}{pos p p2:Pos}
abbrev Bf.val:Bf->d3
 |.len=>.builtin "len"|.sorted=>.builtin "sorted"|.repr=>.builtin "repr"|.max=>.builtin "max"|.min=>.builtin "min"|.all=>.builtin "all"|.any=>.builtin "any"
 |.list=>.type "list"|.tuple=>.type "tuple"|.str=>.type "str"|.int=>.type "int"
abbrev Bf.name:Bf->Str
 |.len=>"len"|.sorted=>"sorted"|.repr=>"repr"|.max=>"max"|.min=>"min"|.all=>"all"|.any=>"any"
 |.list=>"list"|.tuple=>"tuple"|.str=>"str"|.int=>"int"
def call_of(g:gZ X f r)(I:Inv X pins c.σ c.H s)(rv:Vals vs us)(h:r vs c.H Q):et (hE X.prog X.w) X.A (MR f us) (EP X pins c.σ Q) X.xe s:=g pins s c.σ c.H vs us Q I rv h
def bR(h:il f rs=bD r):∃x,rs=[x]/\f x=bD r:=by
 unfold il at h;split at h
 .show⟨_,rfl,h⟩
 .cases h
def Bb(D:X.calm=b6)(y:C.K=X.K)(O:X.A.guards=bD [])(T:X.A.units+60<Jq)(t:Ja C c0 c rs vs)(I:Inv X pins c.σ c.H s)(rv:Vals vs us)(h:Ib f rs=bD r)(q:b9 C c0 Q r c.st):
  et (hE X.prog X.w) X.A (MR f.val us) (EP X pins c.σ Q) X.xe s:=by
 have o:=t.hσ;have g:=t.ok;have n:=t.nx;cases f with
 |len =>
  have⟨x,rfl,hz⟩:=bR (f:=λx=>(Cv x.2).map λ(n:Nat)=>(Kd.loc,U.int (n:Int))) h;clear h;have h:=hz;clear hz;rw[gj]at h;have⟨k,e,rfl⟩:=h;have⟨v,rfl,l⟩:=t.one;have⟨Y,G⟩:=x;unfold Cv at e;split at e
  .rename_i xs u;have u:G=.lst xs:=u;subst u;cases e;have⟨a',ws,ex,i,j⟩:=l.list g;rw[j.len]at q;show call_of hJ I rv ⟨a',ws,by rw[ex],.inl (y▸i),q.flat o g n rfl⟩
  .rename_i xs u;have u:G=.tup xs:=u;subst u;cases e;have⟨a',ws,ex,i,j⟩:=l.tuple g;rw[y]at i;rw[j.len]at q;show call_of hJ I rv ⟨a',ws,by rw[ex],.inr i,q.flat o g n rfl⟩
  .rename_i xs u;have u:G=.str xs:=u;subst u;split at e
   .cases e;show call_of nG I rv ⟨_,by rw[l.str g],by assumption,q.flat o g n rfl⟩
   .cases e
  .cases e
 |sorted =>
  have⟨x,rfl,hz⟩:=bR (f:=Cw) h;clear h;have h:=hz;clear hz;have⟨v,rfl,l⟩:=t.one;unfold Cw at h;split at h
  .rw[rz]at h;have⟨J,e,h⟩:=h;have z:=cG e;subst z;have⟨a',ws,ex,i,j⟩:=l.list g;rw[ak.strs]at j;subst j;split at h
   .cases h;show call_of jn I rv ⟨a',J,by rw[ex],.inl (y▸i),by assumption,λp B=>q.list o g n (ak.strs.mpr rfl) p B⟩
   .cases h
  .obtain⟨a',kvs,ex,i,j,_⟩:=l.dict g;split at h
   .cases h;show call_of (iT D) I rv ⟨a',kvs,_,by rw[ex],i,j,by assumption,λp B=>q.list o g n (ak.strs.mpr rfl) p B⟩
   .cases h
  .rw[rz]at h;have⟨J,e,h⟩:=h;have z:=cG e;subst z;have⟨a',ws,ex,i,j⟩:=l.tuple g;rw[y]at i;rw[ak.strs]at j;subst j;split at h
   .cases h;show call_of jn I rv ⟨a',J,by rw[ex],.inr i,by assumption,λp B=>q.list o g n (ak.strs.mpr rfl) p B⟩
   .cases h
  .cases h
 |tuple =>
  have⟨x,rfl,hz⟩:=bR (f:=Cy) h;clear h;have h:=hz;clear hz;have⟨v,rfl,l⟩:=t.one;unfold Cy at h;split at h
  .have⟨a',ws,ex,i,j⟩:=l.list g;cases h;show call_of gq I rv ⟨a',ws,by rw[ex],.inl ⟨y▸i,λp B=>q.tupK o g n j p B⟩⟩
  .have⟨a',ws,ex,i,j⟩:=l.tuple g;have N:=i;rw[y]at N;cases h;show call_of gq I rv ⟨a',ws,by rw[ex],.inr ⟨N,q c (.ref a') o rfl g n (aO.item ⟨a',ws,rfl,i,j⟩)⟩⟩
  .cases h
 |str =>
  have⟨x,rfl,hz⟩:=bR (f:=zt) h;clear h;have h:=hz;clear hz;have⟨v,rfl,l⟩:=t.one;unfold zt at h;split at h
  .split at h
   .cases h;show call_of nz I rv ⟨_,by rw[l.int g],by assumption,q.flat o g n rfl⟩
   .cases h
  .cases h
 |all =>
  have⟨x,rfl,hz⟩:=bR (f:=Cz) h;clear h;have h:=hz;clear hz;have⟨v,rfl,l⟩:=t.one;unfold Cz at h;split at h
  .rw[gj]at h;have⟨L,e,rfl⟩:=h;have z:=gO e;subst z;have⟨a',ws,ex,i,j⟩:=l.list g;have:=j.QU;subst this;show call_of (v3 D) I rv ⟨a',L,by rw[ex],y▸i,q.flat o g n rfl⟩
  .cases h
 |any =>
  have⟨x,rfl,hz⟩:=bR (f:=CA) h;clear h;have h:=hz;clear hz;have⟨v,rfl,l⟩:=t.one;unfold CA at h;split at h
  .rw[gj]at h;have⟨L,e,rfl⟩:=h;have z:=gO e;subst z;have⟨a',ws,ex,i,j⟩:=l.list g;have:=j.QU;subst this;show call_of (wy D) I rv ⟨a',L,by rw[ex],y▸i,q.flat o g n rfl⟩
  .cases h
 |_=>cases h
def zP{id:String}(g:X.calm=b6)(i:C.K=X.K)(j:X.A.guards=bD [])(k:X.A.units+60<Jq)(l:f.val=.builtin id)(n:Gl X x)(o:X.mg x=cb)(u:G8 x=bD (.builtin id))(v:x≠"__name__")(y:(x==("__debug__":Str))=cK)
  (B:PA X (e::es) (HD C ms)) (D:i5 (e::es) X.env=(cK,vr e X.env)::i5 es X.env) (G:(Ht pos (i5 es X.env)).any (·.1)=cK) :
  PE X (.Call (.Name x p) (e::es) [] pos) (Gz C (ms >>= λrs=>aB rs >>= λ_=>M.GQ (Ib f rs))):=by
 rintro pins s σ H Q I ⟨c0,rfl,rfl,J,h⟩;show u3 (d4 I n o u ?_ v y);show Y4 (Gv (args B I J h pos) λus s1 ⟨rs,c,vs,t,L,rv,w⟩=>?_) D G;have⟨r,e,q⟩:=cD.mp w;have z:=Bb g i j k t L rv e q;rw[l,t.hσ]at z;show z
def zQ(g:X.calm=b6)(i:C.K=X.K)(j:X.A.guards=bD [])(k:X.A.units+60<Jq)(l:f.val=.type T)(n:Gl X x)(o:X.mg x=cb)(u:G8 x=bD (.type T))(v:x≠"__name__")(y:(x==("__debug__":Str))=cK)
  (B:PA X (e::es) (HD C ms)) (D:i5 (e::es) X.env=(cK,vr e X.env)::i5 es X.env) (G:(Ht pos (i5 es X.env)).any (·.1)=cK) :
  PE X (.Call (.Name x p) (e::es) [] pos) (Gz C (ms >>= λrs=>aB rs >>= λ_=>M.GQ (Ib f rs))):=by
 rintro pins s σ H Q I ⟨c0,rfl,rfl,J,h⟩;show u3 (d4 I n o u ?_ v y);show Ka (Gv (args B I J h pos) λus s1 ⟨rs,c,vs,t,L,rv,w⟩=>?_) D G;have⟨r,e,q⟩:=cD.mp w;have z:=Bb g i j k t L rv e q;rw[l,t.hσ]at z;show z
@[reducible]def JB(P:wh)(w:G1)(K:PySem.W.Frag)(H:Hp)(f:hH->Prop):Ct:=⟨P,w,K,H,f,λ_=>False⟩
structure Back(C:Ct)(H H':Hp)(S':hH->Prop)(k:Kd)(u:U)(v:V):Prop where
 same:y9 H H'
 new:∀a,S' a->H a=cb/\∃o,H' a=bD o
 own:k=.own->∃r,v=.ref r/\H r=cb/\¬S' r/\cQ C S' H' r u
 loc:k=.loc->Rep C S' H' u v
 any:k=.any->Rep C (PS C S') H' u v
abbrev spT(P:wh)(w:G1)(K:PySem.W.Frag)(F:List U->Option (Ex (Kd×U)))(g:Nat):Sp:=λvs H Q _=>vs.length=g/\∃us k u f,F us=bD (.ok (k,u))/\(k=.own\/k=.loc\/k=.any)/\(∀a,f a->Ig H a) /\
 ak (JB P w K H f) f H us vs/\∀v H' S',Back (JB P w K H f) H H' S' k u v->Q v H'
def Ja.read(t:Ja C c0 c rs vs):ak C (Ig c.H) c.H (rs.map (·.2)) vs:=by
 have f:∀(l:List (Kd×U)) (w:List V),cF C c0 c l w->a9 l c.st->ak C (Ig c.H) c.H (l.map (·.2)) w:=by
  intro l;induction l with
  |nil=>intro w h _;show h
  |cons r l g =>
   intro w h hs;obtain⟨v,t',rfl,i,j,_⟩:=h;rw[fW]at hs;show⟨v,t',rfl,(i.t hs.1).read t.ok,g t' j hs.2⟩
 show f rs vs t.rep t.LM
def Back.here(hk:k=.own\/k=.loc)(i:c.σ=c0.σ)(f:Ok C c)(n:Nx c0 c)(q:j.Eqv C)(h:Back j c.H H' S' k u v)(w:b9 C c0 Q (k,u) c.st):Q v H':=by
 have⟨l,t⟩:=f.grow (S':=λa=>c.S a\/S' a) h.same (λa z=>z.imp id λz=>h.new a z) λa=>.inl;have x:=n.trans t;show w {c with H:=H',S:=λa=>c.S a\/S' a} v i rfl l x ?_;rcases hk with rfl|rfl
 .have⟨r,e,g,y,A⟩:=h.own rfl;have⟨G,B,I,J,D⟩:=f.iU g;show⟨r,e,n.none g,λz=>z.elim B y,D,(A.cg q).mv (.up λa=>.inr) λo q=>q⟩
 .show((h.loc rfl).cg q).mv (.up λa=>.inr)
def wW(o:C.P=X.prog)(x:C.w=X.w)(y:C.K=X.K)(L:Γ f=F)(hk:∀us k u,F us=bD (.ok (k,u))->(k=.own\/k=.loc\/k=.any)/\us.length=B)
  (G:jB X.prog X.w X.K X.mg X.base Jt k fa N ps (spT X.prog X.w X.K F B)) (O:fA k X.A) (T:Gl X f) (Y:X.mg f=bD (.ref fa)) (LC:PySem.W.keepIn X.K (.ref fa)=b6) (j:Binds X.K N ps [])
  (KI:(f==("__debug__":Str))=cK) (ha:PA X (e::es) (HD C ms)) (he:i5 (e::es) X.env=(cK,vr e X.env)::i5 es X.env) (Hc:(Ht pos (i5 es X.env)).any (·.1)=cK) :
  PE X (.Call (.Name f p) (e::es) [] pos) (Gz C (ms >>= λrs=>aB rs >>= λ_=>fj Γ f (rs.map (·.2)))):=by
 rintro pins s σ H Q I ⟨c0,rfl,rfl,ok,h⟩;show u3 (jJ I T Y ?_ KI);show PySem.W.callWith_K (h₀:=X.base) I.ok.mod.MP LC (Gv (args ha I ok h pos) λus s1 ⟨rs,c,vs,t,D,rv,w⟩=>⟨D.KP,?_⟩) he Hc;have⟨r,st',g,q⟩:=w;unfold fj at g;rw[L]at g;cases i:F (rs.map (·.2)) with
 |none=>rw[i]at g;cases g
 |some r' =>
  rw[i]at g;split at g
  .cases g
  .rename_i z;cases z
  rename_i Vq e3;cases e3;cases g;have⟨l,u⟩:=r;have⟨k0,k2⟩:=hk _ _ _ i;have k1:l=.own\/l=.loc:=by
   rcases k0 with z|z|z
   .show .inl z
   .show .inr z
   .subst z;show(Vq u rfl).elim
  have n:C.Eqv (JB X.prog X.w X.K c.H (Ig c.H)):=⟨o,x,y⟩
  have Jc:(JB X.prog X.w X.K c.H (Ig c.H)).Eqv C:=⟨o.symm,x.symm,y.symm⟩
  have J:=t.read;have Ir:spT X.prog X.w X.K F B vs c.H (λv H'=>Q v H') E0:=⟨by rw[<-J.len];show k2,rs.map (·.2),l,u,Ig c.H,i,k0,λ_ z=>z,J.cg n,λv H' S' j=>j.here k1 t.hσ t.ok t.nx Jc q⟩
  have z:=qD (Q:=Q) G O j .nil vR D rv (by rw[ri];show Ir);rw[t.hσ]at z;show z
end
section
def zR(x:C.P=X.prog)(y:C.w=X.w)(B:C.K=X.K)(T:Γ f=F)(hk:∀us k u,F us=bD (.ok (k,u))->(k=.own\/k=.loc\/k=.any)/\us.length=D)
  (G:jB X.prog X.w X.K X.mg X.base Jt k fa Y ps (spT X.prog X.w X.K F D)) (hr:fA k X.A) (hg:Gl X f) (hm:X.mg f=bD (.ref fa)) (LC:PySem.W.keepIn X.K (.ref fa)=b6) (l:Binds X.K Y ps [])
  (KI:(f==("__debug__":Str))=cK) (ha:PA X (e::es) (HD C ms)) (he:i5 (e::es) X.env=(cK,vr e X.env)::i5 es X.env) (Hc:(Ht pos (i5 es X.env)).any (·.1)=cK) (hs:g_ (.Constant (.int 0) kx p2)) :
  PE X (.Subscript (.Call (.Name f p) (e::es) [] pos) (.Constant (.int 0) kx p2) p3) (Gz C (ms >>= λrs=>aB rs >>= λ_=>fj Γ f (rs.map (·.2)) >>= λr=>M.GQ (wI r))):=by
 rintro b s σ H Q I ⟨c0,rfl,rfl,ok,h⟩;have m:PE X (.Call (.Name f p) (e::es) [] pos) (λσ H Q'=>c0.σ=σ/\c0.H=H/\∀v H',(∃(c:Cf) (S':hH->Prop) (xs rest:List U),c.σ=c0.σ/\Ok C c/\Nx c0 c/\bS xs=b6/\b9 C c0 Q (.own,.lst xs) c.st/\Back (JB X.prog X.w X.K c.H (Ig c.H)) c.H H' S' .loc (.tup (.lst xs::rest)) v)->Q' v H'):=by
  rintro b s _ _ Q' I ⟨rfl,rfl,hq⟩;show u3 (jJ I hg hm ?_ KI);show PySem.W.callWith_K (h₀:=X.base) I.ok.mod.MP LC (Gv (args ha I ok h pos) λus s1 ⟨rs,c,vs,t,J,rv,w⟩=>⟨J.KP,?_⟩) he Hc;rw[ah]at w;have⟨r,st',d,w⟩:=w;have⟨r2,g,q⟩:=cD.mp w;unfold fj at d;rw[T]at d;unfold wI at g;split at g
  .rename_i xs rest;split at g
   .rename_i n;cases g;cases i:F (rs.map (·.2)) with
    |none=>rw[i]at d;cases d
    |some r' =>
     rw[i]at d;split at d
     .cases d
     .rename_i z;cases z
     rename_i g;cases g;cases d;have⟨k0,k2⟩:=hk _ _ _ i;have o:C.Eqv (JB X.prog X.w X.K c.H (Ig c.H)):=⟨x,y,B⟩
     have L:=t.read;have Ir:spT X.prog X.w X.K F D vs c.H (λv H'=>Q' v H') E0:=⟨by rw[<-L.len];show k2,rs.map (·.2),.loc,.tup (.lst xs::rest),Ig c.H,i,k0,λ_ z=>z,L.cg o,λv H' S' l=>hq v H' ⟨c,S',xs,rest,t.hσ,t.ok,t.nx,n,q,l⟩⟩
     have z:=qD (Q:=Q') G hr l .nil vR J rv (by rw[ri];show Ir);rw[t.hσ]at z;show z
   .cases g
  .cases g
 show D5 j7 m nu hs b s _ _ Q I ⟨rfl,rfl,λv H' ⟨c,S',xs,rest,hσ,N,nx,n,q,bk⟩=>?_⟩;obtain⟨a,vs,rfl,h1,⟨v0,GZ,rfl,⟨r,ws,rfl,⟨h3,h4⟩,h5⟩,_⟩⟩:=bk.loc rfl;have Jc:(JB X.prog X.w X.K c.H (Ig c.H)).Eqv C:=⟨x.symm,y.symm,B.symm⟩
 obtain⟨O,_⟩:=bk.new r h3;have⟨GJ,n'⟩:=N.grow (S':=c.S) bk.same (λa z=>.inl z) λa z=>z;have⟨z0,z1,z2,z3,z4⟩:=N.iU O;show⟨a,_,0,.ref r,rfl,rfl,h1,dY (j:=0) rfl,q {c with H:=H' } (.ref r) hσ rfl GJ (nx.trans n') ⟨r,rfl,nx.none O,z1,z4,ws,h4,(h5.cg Jc).GP n⟩⟩
end
section
abbrev Mf.id:Mf->String
 |.split=>"str.split"|.join=>"str.join"|.partition=>"str.partition"|.endswith=>"str.endswith"
abbrev Mf.name:Mf->Str
 |.split=>"split"|.join=>"join"|.partition=>"partition"|.endswith=>"endswith"
def wX(h:lL f u rs=bD r):∃x,u=.str x:=by
 unfold lL at h;split at h
 .show⟨_,rfl⟩
 .cases h
def CN(k:C.K=X.K)(t:Ja C c0 c (x::rs) (b::vs))(I:Inv X a c.σ c.H s)(l:RelV b v)(rv:Vals vs us)(h:lL f x.2 rs=bD r)(q:b9 C c0 Q r c.st):
  et (hE X.prog X.w) X.A (MR (.builtin f.id) (v::us)) (EP X a c.σ Q) X.xe s:=by
 have m:=t.hσ;have d:=t.ok;have n:=t.nx;have⟨o,p⟩:=x;have hs:=fW.mp t.LM;obtain⟨J,L,u,g,i,-⟩:=t.rep;cases u;have y:aO C c0 c o p b:=g.t hs.1;have one:∀{r:Kd×U},cF C c0 c [r] vs->a9 [r] c.st->∃v,vs=[v]/\aO C c0 c r.1 r.2 v:=λ{r} h s=>by
  obtain⟨v,t',rfl,g,i,_⟩:=h;cases i;show⟨v,rfl,g.t s⟩
 dsimp only at h
 unfold lL at h;split at h
 .rw[rz]at h;have⟨z,e,h⟩:=h;have B:=cG e;subst B;have⟨w,rfl,D⟩:=one i hs.2;have⟨a',ws,ex,G,j⟩:=D.list d;rw[ak.strs]at j;subst j;split at h
  .cases h;show zd a s c.σ c.H b [w] v us Q I l rv ⟨_,a',z,y.str d,by rw[ex],k▸G,by assumption,q.flat m d n rfl⟩
  .cases h
 .cases h
def zS(L:C.K=X.K)(slot:Slot "str" name f.id)(N:Y6 (.builtin f.id)=pure (.type "method_descriptor"))(ho:PE X o (Gz C m))(O:PA X (e::es) (HD C ms))
  (T:Qm o name X.env (vr o X.env)=vr o X.env)
  (Y:((Ht b (i5 (e::es) X.env)).all (λx=>!x.1)&&(NY b (JQ [] X.env)).all (λx=>x.1.isSome)
   && cL ((e::es).length+([]:List LZ).length+(if ([]:List LZ).isEmpty then 0 else 1)<30))=b6)
  (GI:(g.endLine==b.line)=b6) (hs:i5 (e::es) X.env=(cK,vr e X.env)::i5 es X.env) (Hr:(Ht b (i5 es X.env)).any (·.1)=cK) :
  PE X (.Call (.Attribute o name g) (e::es) [] b) (Gz C (m >>= λx=>ms >>= λrs=>aB (x::rs) >>= λ_=>M.GQ (lL f x.2 rs))):=by
 rintro a s σ H Q I ⟨c0,rfl,rfl,ok,h⟩;show Xn T Y GI rfl (Gv (ho a s c0.σ c0.H (λj p=>∃x c1,c1.H=p/\LL C c0 c1 x j/\W (ms >>= λrs=>aB (x::rs) >>= λ_=>M.GQ (lL f x.2 rs)) c1.st (b9 C c0 Q)) I (aT ok h λx c v t w=>⟨x,c,rfl,t,w⟩)) ?_);rintro v s1 ⟨j,p,u,y,x,c1,rfl,t,w⟩;have LN:∃z,x.2=.str z:=by
  rw[ah]at w;obtain⟨rs,st2,_,w⟩:=w;rw[ah]at w;obtain⟨_,G5,_,w⟩:=w;obtain⟨r,e,_⟩:=cD.mp w;show wX e
 have⟨z,hz⟩:=LN;have A:=t.rx;rw[hz]at A;have ev:=A.str t.ok;have ty:Oj X.K "str" j c1.H:=by rw[ev];rfl
 have⟨h1,h2⟩:=nI u y ty;show⟨"str",f.id,PySem.F.plainAttrs_str,slot,N,h1,h2,?_⟩;rw[ah]at w;have B:=O b a s1 c0.σ c1.H (λvs D=>∃rs d,d.H=D/\Ja C c0 d (x::rs) (j::vs)/\W (M.GQ (lL f x.2 rs)) d.st (b9 C c0 Q)) u ⟨c1,t.hσ,rfl,t.ok,w.mono λrs st2 l d vs G e4 GX J k=>by
  rw[ah,cv]at l;subst e4;show⟨rs,d,rfl,⟨G,GX,t.nx.trans J,⟨j,vs,rfl,t.rx.w.on t.ok J (G.trans t.hσ.symm),k.from t.nx,λhk i r' v' e5 e6 He=>n_ t.rx.w (k.get e5 e6) hk He⟩,l.1⟩,l.2⟩⟩
 rw[hs]at B ⊢;show GV (by change(cK||(Ht b (i5 es X.env)).any (·.1))=cK;rw[Hr]<;>rfl) (LA ?_);show Gv B ?_;rintro us s2 ⟨vs,D,I2,k,rs,d,rfl,n,w2⟩;have⟨r,e,q⟩:=cD.mp w2;have z:=CN L n (by rw[n.hσ];show I2) y k e q;rw[n.hσ]at z;show z
end
section
variable{X:Cx}{C:Ct}{pins:List (hH×Obj)}{s:hh}{c0 c c1:Cf}
variable{e:my}{es:List my}{ms:M (List (Kd×U))}{pos p p2 pos2:Pos}
abbrev B2.out:B2->d3
 |.J2=>.type "tuple"|.Iq=>.type "list"|.sset=>.builtin "sorted"|.j8=>.builtin "len"
abbrev B2.ON:B2->d3
 |.J2=>.type "reversed"|.Iq=>.type "reversed"|.sset=>.type "set"|.j8=>.type "set"
abbrev B2.oi:B2->Str
 |.J2=>"tuple"|.Iq=>"list"|.sset=>"sorted"|.j8=>"len"
abbrev B2.iw:B2->Str
 |.J2=>"reversed"|.Iq=>"reversed"|.sset=>"set"|.j8=>"set"
theorem ak.rev{S:hH->Prop}:∀{us:List U}{vs:List V},ak C S H us vs->ak C S H us.reverse vs.reverse
 |[],vs,h=>by cases h;show rfl
 |u::us,vs,h=>by
  have⟨v,r,rfl,a,b⟩:=h;rw[PF,PF];show(ak.rev b).append ⟨v,[],rfl,a,rfl⟩
def mE(g:C.K=X.K)(i:Ok C c)(j:aO C c0 c k u v)(h:gL u=bD l):∃a ys,v=.ref a/\(G2 X.K c.H a (ys.map V.str)\/Hb X.K c.H a (ys.map V.str))/\ys.length+1<GL/\l=aA ys:=by
 unfold gL at h;split at h
 .rw[rz]at h;have⟨ys,e,h⟩:=h;have f:=cG e;subst f;have⟨a',ws,ex,d,b⟩:=j.list i;rw[ak.strs]at b;subst b;split at h
  .cases h;show⟨a',ys,ex,.inl (g▸d),by assumption,rfl⟩
  .cases h
 .rw[rz]at h;have⟨ys,e,h⟩:=h;have f:=cG e;subst f;have⟨a',ws,ex,d,b⟩:=j.tuple i;rw[ak.strs]at b;subst b;rw[g]at d;split at h
  .cases h;show⟨a',ys,ex,.inr d,by assumption,rfl⟩
  .cases h
 .cases h
def CO(d:X.calm=b6)(m:C.K=X.K)(t:Ja C c0 c rs vs)(I:Inv X pins c.σ c.H s)(rv:Vals vs us)(h:qU f rs=bD r)(q:b9 C c0 Q r c.st):
  et (hE X.prog X.w) X.A (MR f.ON us) (λv s1=>et (hE X.prog X.w) X.A (MR f.out [v]) (EP X pins c.σ Q) X.xe s1) X.xe s:=by
 have o:=t.hσ;have a:=t.ok;have n:=t.nx;cases f with
 |Iq =>
  have⟨x,rfl,hz⟩:=bR (f:=CB) h;clear h;have h:=hz;clear hz;have⟨v,rfl,g⟩:=t.one;unfold CB at h;split at h
  .have⟨a',ws,ex,b,i⟩:=g.list a;rw[m]at b;subst ex;have⟨u,rfl,j⟩:=vals1 rv;cases j;split at h
   .cases h;show wx d I b λl hl=>q.list o a n (eE (by assumption) i).rev l hl
   .cases h
  .cases h
 |sset =>
  have⟨x,rfl,hz⟩:=bR (f:=λx=>(gL x.2).bind λk=>if k.length<64 then bD (Kd.own,U.lst ((aH k).map .str)) else cb) h;clear h;have h:=hz;clear hz;have⟨k,e,h⟩:=rz.mp h;have⟨v,rfl,g⟩:=t.one;have⟨a',ys,rfl,b,i,rfl⟩:=mE m a g e;have⟨u,rfl,j⟩:=vals1 rv;cases j;split at h
  .cases h;show nV d I b i λS h' B y z=>gx d z y (by assumption) λl hl=>q.list o a n (ak.strs.mpr rfl) l hl
  .cases h
 |_=>cases h
def sO:∀f:B2,G8 f.oi=bD f.out/\G8 f.iw=bD f.ON/\f.oi≠"__name__"/\f.iw≠"__name__"/\(f.oi==("__debug__":Str))=cK/\(f.iw==("__debug__":Str))=cK:=by
 intro f;cases f<;>show⟨by decide +kernel,by decide +kernel,by decide +kernel,by decide +kernel,by decide +kernel,by decide +kernel⟩
def CP(f:B2):∃T,f.ON=.type T:=by cases f<;>show⟨_,rfl⟩
def CQ(f:B2):(∃T,f.out=.type T)\/∃T,f.out=.builtin T:=by cases f<;>first|show .inl ⟨_,rfl⟩|show .inr ⟨_,rfl⟩
def sQ{M:Model}{E:d3->hh->Prop}(h:et M A t (λv a=>et M A (MR (.type T) [v]) Q E a) E s):et M A (callWith pos (.type T) [] [(cK,t)] []) Q E s :=
 PySem.callWith_type rfl (LA (MS (tj h (λ_ _ b=>Pq b) λ_ _ e=>e)))
def oj{M:Model}{E:d3->hh->Prop}(h:et M A t (λv a=>et M A (MR (.builtin T) [v]) Q E a) E s):et M A (callWith pos (.builtin T) [] [(cK,t)] []) Q E s :=
 GV rfl (LA (MS (tj h (λ_ _ b=>Pq b) λ_ _ e=>e)))
def wY(b:X.calm=b6)(d:C.K=X.K)(g:Gl X f.iw)(i:X.mg f.iw=cb)
  (j:PA X (e::es) (HD C ms)) (k:i5 (e::es) X.env=(cK,vr e X.env)::i5 es X.env) (l:(Ht pos2 (i5 es X.env)).any (·.1)=cK)
  (I:Inv X pins c0.σ c0.H s) (m:Ok C c0) (h:W (ms >>= λrs=>aB rs >>= λ_=>M.GQ (qU f rs)) c0.st (b9 C c0 Q)) :
  et (hE X.prog X.w) X.A (vr (.Call (.Name f.iw p2) (e::es) [] pos2) X.env) (λv s1=>et (hE X.prog X.w) X.A (MR f.out [v]) (EP X pins c0.σ Q) X.xe s1) X.xe s:=by
 have⟨b1,n,b3,b4,B,o⟩:=sO f;show u3 (d4 I g i n ?_ b4 o);have a:et (hE X.prog X.w) X.A (Yu (Ht pos2 (i5 (e::es) X.env))) (λus s1=>et (hE X.prog X.w) X.A (MR f.ON us) (λv s1=>et (hE X.prog X.w) X.A (MR f.out [v]) (EP X pins c0.σ Q) X.xe s1) X.xe s1) X.xe s :=
  Gv (args j I m h pos2) λus s1 u=>by
   have⟨rs,c,vs,t,x,rv,w⟩:=u;have⟨r,e,q⟩:=cD.mp w;have z:=CO b d t x rv e q;rw[t.hσ]at z;show z
 have⟨T,y⟩:=CP f;rw[y]at a ⊢;show Ka a k l
def zT(d:X.calm=b6)(g:C.K=X.K)(i:Gl X f.oi)(j:X.mg f.oi=cb)(k:Gl X f.iw)(l:X.mg f.iw=cb)
  (m:PA X (e::es) (HD C ms)) (n:i5 (e::es) X.env=(cK,vr e X.env)::i5 es X.env) (o:(Ht pos2 (i5 es X.env)).any (·.1)=cK) :
  PE X (.Call (.Name f.oi p) [.Call (.Name f.iw p2) (e::es) [] pos2] [] pos) (Gz C (ms >>= λrs=>aB rs >>= λ_=>M.GQ (qU f rs))):=by
 rintro pins s σ H Q I ⟨c0,rfl,rfl,q,h⟩;have⟨b1,v,b3,b4,r,w⟩:=sO f;show u3 (d4 I i j b1 ?_ b3 r);have a:=wY (p2:=p2) (pos2:=pos2) d g k l m n o I q h;have t:Ht pos (i5 [.Call (.Name f.iw p2) (e::es) [] pos2] X.env)=[(cK,vr (.Call (.Name f.iw p2) (e::es) [] pos2) X.env)]:=rfl;have u:NY pos (JQ [] X.env)=[]:=rfl;rw[t,u];rcases CQ f with⟨T,b⟩|⟨T,b⟩
 .rw[b]at a ⊢;show sQ a
 .rw[b]at a ⊢;show oj a
end
section
variable{X:Cx}{C:Ct}{pins:List (hH×Obj)}{s:hh}{c0 c c1:Cf}
variable{a b d e o tg:my}{es:List my}{m ma mb md:M (Kd×U)}{ms:M (List (Kd×U))}{ta tb:M Bool}{pos p p2 apos F':Pos}
abbrev kJ(rs:List (Kd×U))(c f:Cf):Prop:=∀j u,(Kd.bor j,u)∈rs->f.σ[j]?=c.σ[j]?
abbrev Walk(C:Ct)(c:Cf)(rs:List (Kd×U))(xs:List (Kd×U))(J:It):Prop:=∀f,Ok C f->Ns c f->kJ rs c f->a9 rs f.st ->
 (∀(i:Nat) r,xs[i]?=bD r->(r.1=.loc\/r.1=.any)/\J.go i f.H/\∀x H',J.Oe i f.H x H'->∃g:Cf,g.H=H'/\g.σ=f.σ/\g.st=f.st/\Ok C g/\Nx f g/\aO C f g r.1 r.2 x) /\
 ∀i:Nat,xs.length<=i->J.stop i f.H
abbrev Ki(C:Ct)(ik:Ik)(ms:M (List (Kd×U))):TI:=λσ H R=>∃c0:Cf,c0.σ=σ/\c0.H=H/\Ok C c0/\W (ms >>= λrs=>aB rs >>= λ_=>M.GQ (Ih ik rs) >>= λxs=>pure (rs,xs)) c0.st λq st' =>
 ∀c J,c.σ=σ->c.st=st'->Ok C c->Nx c0 c->a9 q.1 c.st->Walk C c q.1 q.2 J->R J c.H
def aO.walk(g:Ok C c)(n:Ns c f)(i:kJ [r] c f)(hs:a9 [r] f.st)(h:aO C c0 c r.1 r.2 v):aO C c0 f r.1 r.2 v :=
 (h.w.SV g n λj e=>i j r.2 (by rw[<-e];simp)).t hs
def wZ(k:Kd):kE k=.loc\/kE k=.any:=by cases k<;>simp[kE]
def uM(z:C.K=X.K)(A:Ok C c)(h:aO C c0 c k (.lst us) (.ref a')):Walk C c [(k,.lst us)] (us.map λu=>(kE k,u)) (Po X.K a'):=by
 intro l q n B hs;have h':=aO.walk (r:=(k,.lst us)) A n B hs h;have⟨H,vs,e,f,t⟩:=h'.list q;cases e;rw[z]at f;show⟨λi r w=>?_,λi D=>⟨vs,f,by rw[<-t.len];simpa using D⟩⟩;rw[i8,gj]at w;have⟨u,G,rfl⟩:=w;have⟨v,y,g⟩:=t.get G;show⟨wZ k,⟨vs,v,f,y⟩,λx H' j=>?_⟩;have⟨e,j⟩:=j;subst e;have:=j vs f;rw[y]at this;cases this;show⟨l,rfl,rfl,rfl,q,Nx.refl l,aO.item g⟩
def qW(z:C.K=X.K)(A:Ok C c)(h:aO C c0 c k (.tup us) (.ref a')):Walk C c [(k,.tup us)] (us.map λu=>(kE k,u)) (Pp X.K a'):=by
 intro l q n B hs;have h':=aO.walk (r:=(k,.tup us)) A n B hs h;have⟨H,vs,e,f,t⟩:=h'.tuple q;cases e;rw[z]at f;show⟨λi r w=>?_,λi D=>⟨vs,f,by rw[<-t.len];simpa using D⟩⟩;rw[i8,gj]at w;have⟨u,G,rfl⟩:=w;have⟨v,y,g⟩:=t.get G;show⟨wZ k,⟨vs,v,f,y⟩,λx H' j=>?_⟩;have⟨e,j⟩:=j;subst e;have:=j vs f;rw[y]at this;cases this;show⟨l,rfl,rfl,rfl,q,Nx.refl l,aO.item g⟩
def qX{lo:Int}:Walk C c rs ((hW n).map λi:Nat=>(Kd.loc,U.int (lo+(i:Int)))) (Og lo n):=by
 intro h l nx t hs;show⟨λi r k=>?_,λi f=>by change n<=i;simpa using f⟩;rw[i8,gj]at k;have⟨j,g,rfl⟩:=k;have f:i<n:=by simpa using(eh.mp g).1
 rw[List.getElem?_range f]at g;cases g;show⟨.inl rfl,f,λy H' q=>?_⟩;have⟨e,rfl⟩:=q;subst e;show⟨h,rfl,rfl,rfl,l,Nx.refl h,rfl⟩
def CS(i:C.K=X.K)(t:PE X a (Gz C ma)):PI X tg a (Ki C .seq (ma >>= λr=>pure [] >>= λrs=>pure (r::rs))):=by
 rintro pins s σ H R I ⟨c0,rfl,rfl,w,h⟩;rw[ah,ah]at h;have⟨r,st1,x,h⟩:=h;rw[ah,ao,ao,ah,cv,ah]at h;have⟨y,h⟩:=h;have⟨xs,j,h⟩:=cD.mp h;rw[ao]at h;have⟨k,u⟩:=r;cases u with
 |lst us =>
  cases j;show yQ t pins s c0.σ c0.H R I ⟨c0,rfl,rfl,w,_,st1,x,λc v l hs g n f=>?_⟩;have⟨a',vs,rfl,q,A⟩:=f.list g;subst hs;show⟨a',rfl,⟨vs,i▸q⟩,h c _ l rfl g n y (uM i g f)⟩
 |tup us =>
  cases j;show BX t pins s c0.σ c0.H R I ⟨c0,rfl,rfl,w,_,st1,x,λc v l hs g n f=>?_⟩;have⟨a',vs,rfl,q,A⟩:=f.tuple g;subst hs;have z:=q;rw[i]at z;show⟨a',rfl,⟨vs,z⟩,h c _ l rfl g n y (qW i g f)⟩
 |_=>cases j
def w9{k:List (Kd×U)->M β}{g:β->av->Prop}(i:Ok C c0)(h:W (ms >>= λrs=>aB rs >>= λ_=>k rs) c0.st g)
  (hz:∀rs c vs,Ja C c0 c rs vs->W (k rs) c.st g->Z vs c.H):HD C ms c0.σ c0.H Z:=by
 rw[ah]at h;show⟨c0,rfl,rfl,i,h.mono λrs st1 f c1 vs j l n q r=>?_⟩;rw[ah,cv]at f;subst l;show hz rs c1 vs ⟨j,n,q,r,f.1⟩ f.2
def zU(i:Gl X "range")(j:X.mg "range"=cb)(hs:i5 [a] X.env=[(cK,vr a X.env)])(k:PA X [a] (HD C ms)):PI X tg (.Call (.Name "range" p) [a] [] pos) (Ki C .H9 ms):=by
 rintro pins s σ H R I ⟨c0,rfl,rfl,l,h⟩;show t_ i j k hs pins s c0.σ c0.H R I (w9 l h λrs c vs t w=>?_);rw[ah]at w;have⟨xs,g,w⟩:=cD.mp w;rw[ao]at w;have⟨x,rfl,hz⟩:=bR (f:=wG) g;clear g;have g:=hz;clear hz;have⟨v,rfl,n⟩:=t.one;unfold wG at g;split at g
 .split at g
  .rename_i q;cases g;show⟨_,by rw[n.int t.ok],⋯,⋯,w c _ t.hσ rfl t.ok t.nx t.LM qX⟩
  .cases g
 .cases g
def pR{k:Kd}{us:List U}{h:U}{a':hH}{w:Hp->List V->Prop}(G:∀f,Ok C f->Ns c f->kJ [(k,h)] c f->a9 [(k,h)] f.st->∃vs,w f.H vs/\ak C (SK C f k) f.H us vs):Walk C c [(k,h)] (us.zipIdx.map λp=>(kE k,.tup [.int p.2,p.1])) (Mz w):=by
 intro f g n I hs;have⟨vs,j,y⟩:=G f g n I hs;show⟨λi r z=>?_,λi J=>⟨vs,j,by rw[<-y.len];simpa using J⟩⟩;rw[i8,gj]at z;have⟨p,A,rfl⟩:=z;rw[QW,gj]at A;have⟨u,L,rfl⟩:=A;have⟨v,B,l⟩:=y.get L;show⟨wZ k,⟨vs,v,j,B⟩,λx H' q=>?_⟩;have⟨p,N,rfl,q⟩:=q;have O:=q vs v j B;subst O;have⟨Q,t⟩:=g.lay (o:=.tup [.int i,v]) N;show⟨{f with H:=upd f.H p (.tup [.int i,v])},rfl,rfl,rfl,Q,t,aO.item ?_⟩;have D:ak C (SK C f k) f.H [.int ((0+i:Nat):Int),u] [.int (i:Int),v]:=by
  rw[Nq];show⟨_,_,rfl,rfl,_,_,rfl,l,rfl⟩
 cases k<;>show⟨p,_,rfl,Hb.of aw,by first|show D.mv (g.Ky t)|show D.mv (g.mv t)⟩
def CT{es:List my}{z:Nat}{ps:Pos}(k:C.K=X.K)(A:Gl X "enumerate")(B:X.mg "enumerate"=cb)(hs:i5 [a] X.env=[(cK,vr a X.env)])(D:PA X [a] (HD C ms)):PI X (.Tuple es z ps) (.Call (.Name "enumerate" p) [a] [] pos) (Ki C .Kz ms):=by
 rintro pins s σ H R I ⟨c0,rfl,rfl,G,h⟩;show zj A B D hs pins s c0.σ c0.H R I (w9 G h λrs c vs t w=>?_);rw[ah]at w;have⟨xs,i,w⟩:=cD.mp w;rw[ao]at w;have⟨x,rfl,hz⟩:=bR (f:=CC) i;clear i;have i:=hz;clear hz;have⟨v,rfl,l⟩:=t.one;unfold CC at i;split at i
 .cases i;have⟨a',ws,q,g,j⟩:=l.list t.ok;subst q;show⟨a',rfl,.inl ⟨⟨ws,k▸g⟩,w c _ t.hσ rfl t.ok t.nx t.LM ?_⟩⟩;show pR (a':=a') λJ r n u y=>?_;have⟨L,vs,e,g,j⟩:=(aO.walk t.ok n u y l).list r;cases e;show⟨vs,k▸g,j⟩
 .cases i;have⟨a',ws,q,g,j⟩:=l.tuple t.ok;subst q;rw[k]at g;show⟨a',rfl,.inr ⟨⟨ws,g⟩,w c _ t.hσ rfl t.ok t.nx t.LM ?_⟩⟩;show pR (a':=a') λJ r n u y=>?_;have⟨L,vs,e,g,j⟩:=(aO.walk t.ok n u y l).tuple r;cases e;rw[k]at g;show⟨vs,g,j⟩
 .cases i
def Ok.put(t:Ok C c)(n:Nx c0 c)(hi:i<c.σ.length)(hk:k=.own\/k=.loc\/k=.any)(HR:Ok C c0)(h:aO C c0 c k u v):
  Ok C {c with σ:=c.σ.set i (bD v),st:=c.st.set i (bD (k,u))}/\Nx c0 {c with σ:=c.σ.set i (bD v),st:=c.st.set i (bD (k,u))}:=by
 have HZ:i<c.st.length:=by rw[t.len];show hi
 have GS:∀(j:Nat) k' u',(c.st.set i (bD (k,u)))[j]?=bD (bD (k',u'))->j≠i->c.st[j]?=bD (bD (k',u')):=λj k' u' e ne=>by rw[i1 (ro ne)]at e;show e
 have ID:∀(j:Nat) D,(c.σ.set i (bD v))[j]?=bD (bD D)->j≠i->c.σ[j]?=bD (bD D):=λj D e ne=>by rw[i1 (ro ne)]at e;show e
 have sl:fG C c.S c.H k u v:=by
  rcases hk with rfl|rfl|rfl
  .have⟨r,e,G,O,y,Q⟩:=h;have⟨z0,z1,T,z3,z4⟩:=HR.iU G;show⟨r,e,O,T,z0,Q⟩
  .show h
  .show h
 have LO:∀(j:Nat) k' u' r,k'.root=b6->(c.st.set i (bD (k,u)))[j]?=bD (bD (k',u'))->(c.σ.set i (bD v))[j]?=bD (bD (.ref r))->j=i/\k=.own/\v=.ref r\/j≠i/\c.st[j]?=bD (bD (k',u'))/\c.σ[j]?=bD (bD (.ref r)):=λj k' u' r I f g=>by
  by_cases l:j=i
  .subst l;rw[ez HZ]at f;rw[ez hi]at g;cases f;cases g;rcases hk with rfl|rfl|rfl
   .show .inl ⟨rfl,rfl,rfl⟩
   .cases I
   .cases I
  .show .inr ⟨l,GS j k' u' f l,ID j _ g l⟩
 have dD:∀(j:Nat) (u':U),(c.st.set i (bD (k,u)))[j]?=bD (bD (.Gm,u'))->c.st[j]?=bD (bD (.Gm,u'))/\(c.σ.set i (bD v))[j]?=c.σ[j]?:=λj u' e=>by
  by_cases l:j=i
  .subst l;rw[ez HZ]at e;cases e;rcases hk with hk|hk|hk<;>cases hk
  .show⟨GS j .Gm u' e l,i1 (ro l)⟩
 have b1:∀a,({c with σ:=c.σ.set i (bD v),st:=c.st.set i (bD (k,u))}:Cf).R1 a->c.R1 a\/k=.own/\v=.ref a:=λa GK=>by
  have⟨j,k',u',I,f,g⟩:=GK;rcases LO j k' u' a I f g with⟨Y,w,x⟩|⟨Y,w,x⟩
  .show .inr ⟨w,x⟩
  .show .inl ⟨j,k',u',I,w,x⟩
 have KH:JH C {c with σ:=c.σ.set i (bD v),st:=c.st.set i (bD (k,u))}:=t.dd.of rfl dD (λa z=>(b1 a z).imp id λ⟨J,L⟩ j z'=>by
  subst J;obtain⟨A,e,_,_,y,_⟩:=h;rw[L]at e;cases e;show y (.inr ⟨j,z'⟩)) (.up λ_ z=>z) λj a z=>⟨(t.root (.inr ⟨j,z⟩)).1,λo q=>q⟩
 show⟨⟨t.same,t.Iy,t.par,t.io,by simp[t.len],λj k' u' e=>?_,λj1 j2 k1 k2 u1 u2 r LP NF f g N e4=>?_,KH⟩,⟨⟨n.keep,n.there,λa z=>?_,n.sub,n.new⟩,λa ⟨j,u',A,f,g,N⟩=>let ⟨J,L⟩:=dD j u' f;n.dk a ⟨j,u',A,J,L▸g,N⟩⟩⟩
 .by_cases l:j=i
  .subst l;rw[ez HZ]at e;cases e;show⟨v,by rw[ez hi],sl⟩
  .have⟨D,f,g⟩:=t.sl j k' u' (GS j k' u' e l);show⟨D,by rw[i1 (ro l)];show f,g⟩
 .have z1:=LO j1 k1 u1 r LP f N;have T:=LO j2 k2 u2 r NF g e4;rcases z1 with⟨Y,w,x⟩|⟨Y,w,x⟩
  .rcases T with⟨b1,B,b3⟩|⟨b1,B,b3⟩
   .show Y.trans b1.symm
   .subst w;have⟨A,e,G,O,y,Q⟩:=h;rw[x]at e;cases e;show(y (.inl ⟨j2,k2,u2,NF,B,b3⟩)).elim
  .rcases T with⟨b1,B,b3⟩|⟨b1,B,b3⟩
   .subst B;have⟨A,e,G,O,y,Q⟩:=h;rw[b3]at e;cases e;show(y (.inl ⟨j1,k1,u1,LP,w,x⟩)).elim
   .show t.inj j1 j2 k1 k2 u1 u2 r LP NF w B x b3
 .rcases z with z|⟨j,u',A,f,g,N⟩
  .rcases b1 a z with z|⟨w,x⟩
   .show n.roots a (.inl z)
   .subst w;have⟨A,e,G,O,y,Q⟩:=h;rw[x]at e;cases e;show .inr G
  .have⟨J,L⟩:=dD j u' f;show n.roots a (.inr ⟨j,u',A,J,L▸g,N⟩)
def sR(z:Ok C c0)(q:Ok C c)(n:Nx c0 c)(A:i<c.σ.length)(t:aO C c0 c r.1 r.2 v)(h:W (d7 i r) c.st J):
  ∃y,y.σ=c.σ.set i (bD v)/\y.H=c.H/\Ok C y/\Nx c0 y/\J () y.st:=by
 have⟨k,u⟩:=r;cases k with
 |own =>
  have⟨x,st',e,f⟩:=h;cases e;have⟨g,l⟩:=q.put n A (.inl rfl) z t;show⟨{c with σ:=c.σ.set i (bD v),st:=c.st.set i (bD (.own,u))},rfl,rfl,g,l,f⟩
 |loc =>
  have⟨x,st',e,f⟩:=h;cases e;have⟨g,l⟩:=q.put n A (.inr (.inl rfl)) z t;show⟨{c with σ:=c.σ.set i (bD v),st:=c.st.set i (bD (.loc,u))},rfl,rfl,g,l,f⟩
 |any =>
  have⟨x,st',e,f⟩:=h;cases e;have⟨g,l⟩:=q.put n A (.inr (.inr rfl)) z t;show⟨{c with σ:=c.σ.set i (bD v),st:=c.st.set i (bD (.any,u))},rfl,rfl,g,l,f⟩
 |bor j =>
  have⟨x,st',e,f⟩:=h;rw[show d7 i (.bor j,u) c.st=match c.st[j]? with|some (bD (.own,u))=>bD (Ex.ok (),(c.st.set j (bD (.loc,u))).set i (bD (.loc,u)))|_=>cb from rfl]at e;split at e
  .rename_i w D;cases e;obtain⟨Q,G,r,L,_⟩:=q.sl j _ _ D;have I:c.σ[j]?=bD (bD v):=t.2;rw[I]at G;cases G;subst L;have⟨N,O,B⟩:=q.wU n D I;have⟨g,l⟩:=Ok.put (c:={c with S:=λa=>c.S a\/a=r,st:=c.st.set j (bD (.loc,w))}) N O (k:=.loc) (u:=w) (v:=.ref r) A (.inr (.inl rfl)) z B;show⟨{S:=λa=>c.S a\/a=r,H:=c.H,σ:=c.σ.set i (bD (.ref r)),st:=(c.st.set j (bD (.loc,w))).set i (bD (.loc,w)),kid:=c.kid},rfl,rfl,g,l,f⟩
  .cases e
 |_=>show t.elim
end
section
abbrev tG(C:Ct)(t:Bool)(is:List Nat):TG:=λv σ H Q=>∃c0 c r,c.σ=σ/\c.H=H/\Ok C c0/\Ok C c/\Nx c0 c/\aO C c0 c r.1 r.2 v/\W (dg t is r) c.st λ_ st' =>
 ∀a,a.st=st'->Ok C a->Nx c0 a->(∀j,j∉is->a.σ[j]?=c.σ[j]?)->a.σ.length=c.σ.length->Q a.σ a.H
structure qY(X:Cx)(e:my)(i:Nat):Prop where
 is:∃x pos,e=.Name x pos/\X.N[i]?=bD x/\Loc X.env.scope x/\(X.fn x=b6\/X.env.scope.names.lookup x=bD .local)
def CU(g:X.N.Nodup)(h:qY X e i):PG X e (tG C cK [i]):=by
 have⟨x,pos,rfl,f,k,l⟩:=h.is;rintro a s σ H v u Q I rv ⟨c0,c,r,rfl,rfl,m,o,n,b,w⟩;have p:i<c.σ.length:=by rw[I.len];show(eh.mp f).1
 have⟨t,d,y,A,B,q⟩:=sR (r:=r) m o n p b w;show r9 g f k l a s c.σ c.H v u Q I rv ?_;have z:=q t rfl A B (λj D=>by rw[d,i1 (by intro z;show D (by simp[z]))]) (by rw[d];simp);rw[d,y]at z;show z
abbrev Q3:List Nat->Ml
 |[]=>DP
 |i::is=>A7 (rZ i) (Q3 is)
inductive e_(X:Cx):List my->List Nat->Prop where
 |nil:e_ X [] []
 |cons {e:my} {es:List my} {i:Nat} {is:List Nat} (h:qY X e i) (t:e_ X es is):e_ X (e::es) (i::is)
def uN(a:X.N.Nodup)(h:e_ X es is):MU X es (Q3 is):=by
 induction h with
 |nil=>show yO
 |cons h t b =>
  have⟨x,pos,rfl,c,d,e⟩:=h.is;show vB (r9 a c d e) b rfl
def qZ(h:e_ X es is):(Nn es X.env).length=is.length/\(Nn es X.env).findIdx? (·.1)=cb:=by
 induction h with
 |nil=>show⟨rfl,rfl⟩
 |cons h t a =>
  have⟨x,pos,rfl,b,c,d⟩:=h.is;show⟨?_,?_⟩
  .change(_::_).length=_;simp[a.1]
  .change V2 _ (_::_)=cb;rw[List.findIdx?_cons,Zn (by simp),a.2];rfl
theorem sT(hk:kE k=k)(h:Ok C c0):∀{is:List Nat}{us:List U}{vs:List V}{c:Cf}{d:Unit->av->Prop}{Q:L2.St->Hp->Prop},Ok C c->Nx c0 c->(∀i∈is,i<c.σ.length)->ak C (SK C c k) c.H us vs->W (sets is (us.map λu=>(k,u))) c.st d ->
  (∀b,d () b.st->Ok C b->Nx c0 b->(∀j,j∉is->b.σ[j]?=c.σ[j]?)->b.σ.length=c.σ.length->Q b.σ b.H)->Q3 is vs c.σ c.H Q
 |[],[],vs,c,d,Q,ok,n,f,a,w,q=>by
  rw[show sets [] (PX (λu=>(k,u)) [])=pure () from rfl,ao]at w;show⟨a,q c w ok n (λ_ _=>rfl) rfl⟩
 |[],u::us,vs,c,d,Q,ok,n,f,a,w,q=>(bf.mp w).elim
 |i::is,[],vs,c,d,Q,ok,n,f,a,w,q=>(bf.mp w).elim
 |i::is,u::us,vs,c,d,Q,ok,n,f,a,w,q=>by
  rw[show sets (i::is) (PX (λu=>(k,u)) (u::us))=d7 i (k,u) >>= λ_=>sets is (us.map λu=>(k,u)) from rfl,ah]at w;have⟨v,r,rfl,l,m⟩:=a;have o:k=.own\/k=.loc\/k=.any:=by cases k<;>simp[kE]at hk<;>simp
  have D:k≠.own:=by cases k<;>simp[kE]at hk<;>simp
  have rt:aO C c0 c k u v:=by rw[<-hk];show aO.item l
  have⟨s,t⟩:=ok.put n (f i (by simp)) o h rt;have es:d7 i (k,u)=λst=>bD (.ok (),st.set i (bD (k,u))):=by cases k<;>simp[kE]at hk<;>rfl
  obtain⟨_,st',e,x⟩:=w;rw[es]at e;cases e;show⟨v,r,rfl,sT (c:={c with σ:=c.σ.set i (bD v),st:=c.st.set i (bD (k,u))}) hk h s t (λj g=>by simpa using f j (by simp[g])) (by cases k<;>show m) x λb p y A B hl=>?_⟩;show q b p y A (λj g=>?_) (by rw[hl];simp);rw[B j (λz=>g (by simp[z])),i1 (λz=>g (by simp[z]))]
def El(m:X.calm=b6)(o:C.K=X.K)(q:X.N.Nodup)(h:e_ X es is)(hl:∀i∈is,i<X.N.length):PG X (.Tuple es Y pos) (tG C b6 is):=by
 rintro a s σ H v u Q I rv ⟨c0,c,r,rfl,rfl,t,f,n,d,w⟩;have⟨y,z⟩:=qZ h;show BR m (uN q h) y z a s c.σ c.H v u Q I rv ?_;have⟨k,A⟩:=r;cases A with
 |tup us =>
  rw[show dg b6 is (k,.tup us)=sets is (us.map λu=>(kE k,u)) from by cases is<;>rfl]at w;have⟨a',vs,rfl,g,j⟩:=d.tuple f;rw[o]at g;have b:us.length=is.length:=by
   have e:∀(is:List Nat) (l:List (Kd×U)) (st:av) (P:Unit->av->Prop),W (sets is l) st P->l.length=is.length:=by
    intro is;induction is with
    |nil=>intro l st P w;cases l with
     |nil=>rfl
     |cons _ _=>show(bf.mp w).elim
    |cons i is B=>intro l st P w;cases l with
     |nil=>show(bf.mp w).elim
     |cons x l =>
      rw[show sets (i::is) (x::l)=d7 i x >>= λ_=>sets is l from rfl,ah]at w;obtain⟨_,_,_,w⟩:=w;rw[js,js,B l _ _ w]
   simpa using e _ _ _ _ w
  show⟨a',vs,rfl,g,by rw[<-j.len,b],?_⟩;show sT (k:=kE k) (by cases k<;>rfl) t f n (λi D=>by rw[I.len];show hl i D) (by cases k<;>show j) w λG p J L O T=>p G rfl J L O T
 |_=>cases is<;>show(bf.mp w).elim
end
section
variable{X:Cx}{C:Ct}{pins:List (hH×Obj)}{s:hh}{c0 c c1:Cf}
variable{a b d e o tg iter elt:my}{es ifs:List my}{m ma mb md me:M (Kd×U)}{ms:M (List (Kd×U))}{ta tb tc:M Bool}{pos p p2 apos F':Pos}
def uO{m:M α}{st:av}{Q:α->av->Prop}:W (inScope k m) st Q↔W m (i6 k cb++st) λa st'=>Q a (st'.drop k):=by
 constructor
 .rintro⟨a,st',e,h⟩;unfold inScope at e;cases q:m (i6 k cb++st) with
  |none=>rw[q]at e;cases e
  |some r=>have⟨g,f⟩:=r;rw[q]at e;cases e;show⟨a,f,q,h⟩
 .rintro⟨a,st',e,h⟩;show⟨a,st'.drop k,by unfold inScope;rw[e],h⟩
abbrev Cf.ext(k:Nat)(c:Cf):Cf:={c with σ:=i6 k cb++c.σ,st:=i6 k cb++c.st,kid:=λj=>c.kid (j - k)}
abbrev Cf.cut(k:Nat)(c:Cf):Cf:={c with σ:=c.σ.drop k,st:=c.st.drop k,kid:=λj=>c.kid (k+j)}
def fX(h:(i6 k cb++l)[j]?=bD (bD x)):∃i,j=k+i/\l[i]?=bD (bD x):=by
 by_cases f:j<k
 .rw[ux (by simpa using f)]at h;rw[Il]at h;rw[Zm f]at h;cases h
 .show⟨j - k,⋯,?_⟩;rw[oT (by simp;lia)]at h;simpa using h
def fb:(i6 k cb++l)[k+i]?=l[i]?:=by
 rw[oT (by simp)];simp
def w_:(c.ext k).R1 r↔c.R1 r:=by
 constructor
 .rintro⟨j,g,u,h,l,f⟩;have⟨i,rfl,e⟩:=fX l;rw[Cf.ext,fb]at f;show⟨i,g,u,h,e,f⟩
 .rintro⟨i,g,u,h,l,f⟩;show⟨k+i,g,u,h,by rw[Cf.ext,fb];show l,by rw[Cf.ext,fb];show f⟩
def kK{a:hH}(h:(c.ext k).RD j a):∃i,j=k+i/\c.RD i a:=by
 have⟨u,r,l,f,g⟩:=h;have⟨i,rfl,e⟩:=fX l;rw[Cf.ext,fb]at f;show⟨i,rfl,u,r,e,f,?_⟩;have:(c.ext k).kid (k+i)=c.kid i:=by change c.kid (k+i - k)=_;rw[We]
 rw[this]at g;show g
def Em(h:(c.ext k).R r):c.R r:=by
 rcases h with h|⟨j,h⟩
 .show .inl (w_.mp h)
 .obtain⟨i,_,h⟩:=kK h;show .inr ⟨i,h⟩
def Ok.ext(k:Nat)(f:Ok C c):Ok C (c.ext k)/\Nx c (c.ext k):=by
 show⟨⟨f.same,f.Iy,f.par,f.io,by simp[Cf.ext,f.len],λj D u e=>?_,λi j k1 k2 u u' r G H l g A B=>?_,⟨λj u r l g=>?_,λi j a n q=>?_,λj a n q=>?_⟩⟩,⟨⟨λ_ _ h _=>h,λ_ o h=>⟨o,h⟩,λa h=>.inl (Em h),λ_ h=>h,λ_ h=>.inl h⟩,λa ⟨j,z⟩=>let ⟨i,_,y⟩:=kK z;⟨⟨i,y⟩,λ_ e=>e⟩⟩⟩
 .have⟨i,rfl,I⟩:=fX e;have⟨v,l,g⟩:=f.sl i D u I;show⟨v,by rw[Cf.ext,fb];show l,g⟩
 .have⟨t,rfl,J⟩:=fX l;have⟨w,rfl,L⟩:=fX g;rw[Cf.ext,fb]at A B;rw[f.inj t w k1 k2 u u' r G H J L A B]
 .have⟨i,rfl,e⟩:=fX l;rw[Cf.ext,fb]at g;have:(c.ext k).kid (k+i)=c.kid i:=by change c.kid (k+i - k)=_;rw[We]
  rw[this];show f.dd.kd i u r e g
 .have⟨t,rfl,x⟩:=kK n;have⟨w,rfl,N⟩:=kK q;rw[f.dd.dj t w a x N]
 .have⟨i,rfl,x⟩:=kK n;show f.dd.d1 i a x (w_.mp q)
def xa{a:hH}(h:(c.cut k).R1 a):c.R1 a:=by
 have⟨j,i,u,l,f,g⟩:=h;rw[Cf.cut,Jg]at f g;show⟨k+j,i,u,l,f,g⟩
def kL{a:hH}(h:(c.cut k).RD j a):c.RD (k+j) a:=by
 have⟨u,r,f,g,i⟩:=h;rw[Cf.cut,Jg]at f g;show⟨u,r,f,g,i⟩
def Ok.cut(k:Nat)(f:Ok C c):Ok C (c.cut k)/\Nx c (c.cut k):=by
 show⟨⟨f.same,f.Iy,f.par,f.io,by simp[Cf.cut,f.len],λj x u e=>?_,λi j k1 k2 u u' r y A g l t w=>?_,⟨λj u r g l=>?_,λi j a n q=>?_,λj a n q=>f.dd.d1 _ a (kL n) (xa q)⟩⟩,⟨⟨λ_ _ h _=>h,λ_ o h=>⟨o,h⟩,λa h=>.inl (h.elim (λz=>.inl (xa z)) λ⟨j,z⟩=>.inr ⟨k+j,kL z⟩),λ_ h=>h,λ_ h=>.inl h⟩,λa ⟨j,z⟩=>⟨⟨_,kL z⟩,λ_ e=>e⟩⟩⟩
 .rw[Cf.cut,Jg]at e;have⟨v,g,l⟩:=f.sl _ x u e;show⟨v,by rw[Cf.cut,Jg];show g,l⟩
 .rw[Cf.cut,Jg]at g l t w;have:=f.inj _ _ k1 k2 u u' r y A g l t w;lia
 .rw[Cf.cut,Jg]at g l;show f.dd.kd _ u r g l
 .have:=f.dd.dj _ _ a (kL n) (kL q);lia
def zV(h:∀j,j∉hW k->g[j]?=(i6 k cb++σ)[j]?)(hl:g.length=(i6 k (cb:Option V)++σ).length):∃f:L2.St,f.length=k/\g=f++σ:=by
 show⟨g.take k,by rw[x3,hl];simp,?_⟩;apply XE;intro j;by_cases i:j<k
 .rw[ux (by rw[x3,hl];simp;lia),List.getElem?_take,Zm i]
 .rw[h j (by simpa using i),oT (by simp;lia),oT (by rw[x3,hl];simp;lia)];congr 1
  rw[x3,hl];simp
def mF(e1:c1.σ=c0.σ)(GA:Ok C c1)(n1:Nx c0 c1)(hw:Walk C c1 rs xs J)(h3:W (bH k t tc me rs xs []) c1.st λus st'=>W (pure (Kd.own,U.lst us)) st' (b9 C c0 Q)):
  sj k J (tG C t (hW k)) (HC C tc) (Gz C me) Q c0.σ c1.H:=by
 show⟨λi m ys H=>∃c acc,c.H=H/\c.σ=c0.σ/\Ok C c/\Nx c1 c/\m=xs.length - i/\i<=xs.length/\ak C c.S c.H acc ys/\acc.length<=df/\W (bH k t tc me rs (xs.drop i) acc) c.st λus st'=>W (pure (Kd.own,U.lst us)) st' (b9 C c0 Q),⟨xs.length,c1,[],rfl,e1,GA,Nx.refl c1,by simp,i3 _,rfl,i3 _,by simpa using h3⟩,?_⟩;rintro i m ys H ⟨c,acc,rfl,D,q,y,rfl,hi,g,h,w⟩;show⟨by rw[<-g.len];show h,?_⟩;have f:kJ rs c1 c:=λj u _=>by rw[D,e1]
 by_cases G:i<xs.length
 .right
  rw[Vo G]at w;rw[show bH k t tc me rs (xs[i]::xs.drop (i+1)) acc=aB rs >>= λ_=>inScope k (dg t (hW k) xs[i] >>= λ_=>tc >>= λb=>if b=b6 then(me >>= λr=>lift r >>= λu=>pure (bD u)) else pure cb) >>= λr=>match r with|some u=>if acc.length<df then bH k t tc me rs (xs.drop (i+1)) (acc++[u]) else M.fail|none=>bH k t tc me rs (xs.drop (i+1)) acc from rfl,ah,cv]at w;have⟨J5,w⟩:=w;obtain⟨I,_⟩:=hw c q y f J5;have⟨Q4,MH,Q5⟩:=I i xs[i] (by simp[G]);show⟨MH,λIo H'=>∃c acc,c.H=H'/\c.σ=c0.σ/\Ok C c/\Nx c1 c/\ak C c.S c.H acc Io/\acc.length<=df/\W (bH k t tc me rs (xs.drop (i+1)) acc) c.st λus st'=>W (pure (Kd.own,U.lst us)) st' (b9 C c0 Q),λIo H' ⟨c',Hi,z1,z2,z3,z4,z5,z6,z7⟩=>⟨xs.length - (i+1),⋯,c',Hi,z1,z2,z3,z4,rfl,G,z5,z6,z7⟩,λx H' hy=>?_⟩;have⟨l,rfl,e4,e5,GX,n2,rt⟩:=Q5 x H' hy;rw[ah,uO,ah]at w;have⟨SY,nx⟩:=GX.ext k;have Vs:aO C (l.ext k) (l.ext k) xs[i].1 xs[i].2 x:=by
   rcases Q4 with z|z
   .rw[z]at rt ⊢;show rt
   .rw[z]at rt ⊢;show rt
  have eσ:(l.ext k).σ=i6 k cb++c0.σ:=by rw[Cf.ext];change i6 k cb++l.σ=_;rw[e4,D]
  show⟨l.ext k,l.ext k,xs[i],eσ,rfl,SY,SY,Nx.refl _,Vs,?_⟩;have Q6:(l.ext k).st=i6 k cb++c.st:=by rw[Cf.ext];change i6 k cb++l.st=_;rw[e5]
  rw[Q6];show w.mono λ_ G5 w3 c3 e6 Jb n3 NH MI=>?_;subst e6;rw[eσ]at NH MI;have⟨L,N,O⟩:=zV NH MI;show⟨L,N,O,?_⟩;have S0:Nx c c3:=(n2.trans nx).trans n3;rw[ah]at w3;show⟨c3,rfl,rfl,Jb,w3.mono λb Mr n B e7 e8 T n4=>?_⟩;subst e8;cases b with
  |false =>
   rw[Zn ke]at n ⊢;rw[ao]at n;have⟨Y,nk⟩:=T.cut k;have nn:Nx c (B.cut k):=(S0.trans n4).trans nk;show⟨B.cut k,acc,rfl,?_,Y,y.trans nn,g.mv (q.mv nn),h,n⟩;change B.σ.drop k=_;rw[e7,O,TC N]
  |true =>
   rw[Zm rfl]at n ⊢;rw[ah]at n;show⟨B,e7,rfl,T,n.mono λr JF w5 c5 v e9 Vt Vu n5 Vv=>?_⟩;subst Vt;rw[ah]at w5;obtain⟨S',st',u,sS,Vw,n6,Q8,A,_,_⟩:=iq T Vu n5 Vv.w w5;rw[ao]at A
   dsimp only at A
   split at A
   .rename_i hz;have⟨Y,nk⟩:=Vw.cut k;have nn:Nx c (Cf.cut k {c5 with S:=S',st:=st' }):=((S0.trans n4).trans n6).trans nk;show⟨Cf.cut k {c5 with S:=S',st:=st' },acc++[u],rfl,?_,Y,y.trans nn,(g.mv (q.mv nn)).snoc Q8,by rw[hY];show hz,A⟩;change c5.σ.drop k=_;rw[e9,O,TC N]
   .show(bf.mp A).elim
 .left
  have HZ:i=xs.length:=by lia
  subst HZ;rw[XN,show bH k t tc me rs [] acc=aB rs >>= λ_=>pure acc from rfl,ah,cv,ao,ao]at w;obtain⟨_,I⟩:=hw c q y f w.1;show⟨I _ (ix _),λp hp=>b9.list w.2 D q (n1.trans y) g p hp⟩
def mG(l:Ok C c0)
  (h:W (ms >>= λrs=>aB rs >>= λ_=>M.GQ (Ih ik rs) >>= λxs=>bH k t tc me rs xs [] >>= λus=>pure (Kd.own,U.lst us)) c0.st (b9 C c0 Q)) :
  vY k (Ki C ik ms) (tG C t (hW k)) (HC C tc) (Gz C me) c0.σ c0.H Q:=by
 rw[ah]at h;show⟨c0,rfl,rfl,l,?_⟩;rw[ah];show h.mono λrs st1 f=>?_;rw[ah,cv]at f ⊢;show⟨f.1,?_⟩;have g:=f.2;rw[ah]at g ⊢;show g.mono λxs st2 i=>?_;rw[ao];intro c1 J n q r u v j;rw[ah]at i;subst q
 dsimp only at v j
 show mF n r u j i
def xb(S:dB X N own scope)(f:X.calm=b6)(g:PI X tg iter (Ki C ik ms))
  (i:∀D s H ex,PG (Hs X N scope D s H ex) tg (tG C t (hW own.length))) (j:∀D s H ex,Kc (Hs X N scope D s H ex) ifs (HC C tc)) (k:∀D s H ex,PE (Hs X N scope D s H ex) elt (Gz C me))
  (hs:∀x,JR iter X.env x=pure x) :
  PE X (.ListComp elt [⟨tg,iter,ifs,0⟩] scope pos) (Gz C (ms >>= λrs=>aB rs >>= λ_=>M.GQ (Ih ik rs) >>= λxs=>bH own.length t tc me rs xs [] >>= λus=>pure (.own,.lst us))):=by
 show PE.weak (sk S f g i j k hs) ?_;rintro σ H Q ⟨c0,rfl,rfl,l,h⟩;show mG l h
end
section
variable{a b d e o tg iter elt:my}{es ifs:List my}{m ma mb md me:M (Kd×U)}{ms:M (List (Kd×U))}{ta tb tc:M Bool}{pos p p2 apos F':Pos}{st:Ly}{rest body:List Ly}{f g mm:M Fl}{ns HE:Nat->Bool}
def CV(C:Ct)(c:Cf):Kd->U->V->Prop
 |.own,u,v=>∃r,v=.ref r/\C.H₀ r=cb/\¬c.S r/\¬c.R r/\cQ C c.S c.H r u
 |.loc,u,v=>Rep C c.S c.H u v
 |.any,u,v=>Rep C (PS C c.S) c.H u v
 |_,_,_=>False
abbrev Fin(C:Ct)(D:Ends)(f:Fl)(c:Cf):Prop:=match f with
 |.nx=>D.nx c.σ c.H
 |.bk=>D.bk c.σ c.H
 |.ct=>D.ct c.σ c.H
 |.rt k u=>∀v,CV C c k u v->D.rt v c.H
abbrev Kept(ns:Nat->Bool)(c h:Cf):Prop:=(∀j,ns j=b6->h.σ[j]?=c.σ[j]?)/\h.σ.length=c.σ.length
def Kept.refl:Kept ns c c:=⟨λ_ _=>rfl,rfl⟩
def Kept.trans(h:Kept ns c i)(h':Kept ns i k):Kept ns c k:=⟨λj z=>(h'.1 j z).trans (h.1 j z),h'.2.trans h.2⟩
def Kept.le(i:∀j,HE j=b6->ns j=b6)(h:Kept ns c k):Kept HE c k:=⟨λj z=>h.1 j (i j z),h.2⟩
def Kept.of(h:i.σ=c.σ):Kept ns c i:=⟨λj z=>by rw[h],by rw[h]⟩
abbrev jr(C:Ct)(c0:Cf)(ns:Nat->Bool)(D:Ends)(f:Fl)(st':av):Prop:=∀c,c.st=st'->Ok C c->Ns c0 c->Kept ns c0 c->Fin C D f c
abbrev Hl(C:Ct)(ns:Nat->Bool)(m:M Fl):TS:=λD σ H=>∃c0:Cf,c0.σ=σ/\c0.H=H/\Ok C c0/\W m c0.st (jr C c0 ns D)
def q9(c:Ok C c1)(n:Ns c0 c1)(k:Kept ns c0 c1)(h:W mm c1.st (jr C c0 ns D)):Hl C ns mm D c1.σ c1.H :=
 ⟨c1,rfl,rfl,c,h.mono λf st i j e l q k2=>i j e l (n.trans q) (k.trans k2)⟩
def PS.weak(h:L2.PS X st t)(i:∀D σ H,t' D σ H->t D σ H):L2.PS X st t':=λc s σ H D I q=>h c s σ H D I (i D σ H q)
def Hx.weak(h:Hx X rest t)(i:∀D σ H,t' D σ H->t D σ H):Hx X rest t':=λc s σ H D I q=>h c s σ H D I (i D σ H q)
def om(i:∀j,HE j=b6->ns j=b6)(h:Hl C HE mm D σ H):Hl C ns mm D σ H :=
 let ⟨c0,c,k,l,w⟩:=h;⟨c0,c,k,l,w.mono λf st n q e r s k2=>n q e r s (k2.le i)⟩
def En:Hx X [] (Hl C ns (pure .nx)):=by
 show Hx.weak yM ?_;rintro D σ H ⟨c0,rfl,rfl,c,h⟩;rw[ao]at h;show h c0 rfl c (Ns.refl c0) Kept.refl
abbrev zW(m:M Fl)(f:Fl):M Fl:=match f with
 |.nx=>m
 |f=>pure f
def CW(j:L2.PS X st (Hl C ns f))(l:Hx X rest (Hl C ns g)):Hx X (st::rest) (Hl C ns (f >>= zW g)):=by
 show Hx.weak (vv j l) ?_;rintro D σ H ⟨c0,rfl,rfl,n,h⟩;rw[ah]at h;show⟨c0,rfl,rfl,n,h.mono λq st1 w c1 e c i k1=>?_⟩;subst e;cases q with
 |nx=>show q9 c i k1 w
 |bk=>rw[show zW g .bk=pure .bk from rfl,ao]at w;show w c1 rfl c i k1
 |ct=>rw[show zW g .ct=pure .ct from rfl,ao]at w;show w c1 rfl c i k1
 |rt k u=>rw[show zW g (.rt k u)=pure (.rt k u) from rfl,ao]at w;show w c1 rfl c i k1
def Eo(i:PE X a (Gz C ma))(hs:Oz a cb pos.line X.env=pure cK):L2.PS X (.Expr a pos) (Hl C ns (ma >>= λ_=>pure .nx)):=by
 show PS.weak (gX i hs) ?_;rintro D σ H ⟨c0,rfl,rfl,j,h⟩;show aT j h λx c v t w=>?_;rw[ao]at w;have:=w c rfl t.ok t.nx (Kept.of t.hσ);rw[<-t.hσ];show this
def CY:L2.PS X (.Return cb pos) (Hl C ns (pure (.rt .loc .GC))):=by
 show PS.weak yN ?_;rintro D σ H ⟨c0,rfl,rfl,c,h⟩;rw[ao]at h;show h c0 rfl c (Ns.refl c0) Kept.refl .GC rfl
def xc(ok:Ok C c0)(t:LL C c0 c x v)(w:W (retS x) c.st (jr C c0 ns D)):D.rt v c.H:=by
 have⟨k,u⟩:=x;have⟨G,l,n,r⟩:=t;cases k with
 |own =>
  rw[show retS (.own,u)=pure (.rt .own u) from rfl,ao]at w;have⟨B,e,h1,h2,h3,h4⟩:=r;show w c rfl l n (Kept.of G) v ⟨B,e,(ok.iU h1).1,h2,h3,h4⟩
 |loc =>
  rw[show retS (.loc,u)=pure (.rt .loc u) from rfl,ao]at w;show w c rfl l n (Kept.of G) v r
 |any =>
  rw[show retS (.any,u)=if GP u=b6 then pure (.rt .loc u) else pure (.rt .any u) from rfl]at w;split at w
  .rw[ao]at w;show w c rfl l n (Kept.of G) v (Rep.GP (by assumption) r)
  .rw[ao]at w;show w c rfl l n (Kept.of G) v r
 |bor j =>
  have⟨fl,st',e,w⟩:=w;rw[show retS (.bor j,u) c.st=match c.st[j]? with|some (bD (.own,u))=>bD (Ex.ok (Fl.rt .own u),c.st.set j cb)|_=>cb from rfl]at e;split at e
  .rename_i u' J;cases e;have J4:j<c.st.length:=(eh.mp J).1;have A:∀(i:Nat) k u',(c.st.set j cb)[i]?=bD (bD (k,u'))->i≠j/\c.st[i]?=bD (bD (k,u')):=λi k u' e=>by
    by_cases L:i=j
    .subst L;rw[ez J4]at e;cases e
    .rw[i1 (ro L)]at e;show⟨L,e⟩
   have⟨v',s,B,er,q1,q2,q3,q4⟩:=l.sl j _ _ J;have N:c.σ[j]?=bD (bD v):=r.2;rw[N]at s;cases s;subst er;have Q:∀a,({c with st:=c.st.set j cb}:Cf).R1 a->c.R1 a:=λa ⟨i,k,h,hk,s,y⟩=>⟨i,k,h,hk,(A i k h s).2,y⟩
   have hR:∀a,({c with st:=c.st.set j cb}:Cf).R a->c.R a:=λa z=>z.elim (λz=>.inl (Q a z)) λ⟨i,h,O,s,y,I⟩=>.inr ⟨i,h,O,(A i .Gm h s).2,y,I⟩;have KH:JH C {c with st:=c.st.set j cb}:=l.dd.of rfl (λi h e=>⟨(A i .Gm h e).2,rfl⟩) (λa z=>.inl (Q a z)) (.up λ_ z=>z) λi a z=>⟨(l.root (.inr ⟨i,z⟩)).1,λo q=>q⟩
   have Vx:Ok C {c with st:=c.st.set j cb}:=⟨l.same,l.Iy,l.par,l.io,by simp[l.len],λi k h e=>l.sl i k h (A i k h e).2,λi T k k' Y h r hk He s y I e4=>l.inj i T k k' Y h r hk He (A i k Y s).2 (A T k' h y).2 I e4,KH⟩
   have nn:Ns c0 {c with st:=c.st.set j cb}:=⟨n.keep,n.there,λa z=>n.roots a (hR a z),n.sub,n.new⟩
   show w {c with st:=c.st.set j cb} rfl Vx nn (Kept.of G) (.ref B) ⟨B,rfl,q3,q1,λz=>?_,q4⟩
   .rcases z with⟨i,k,h,hk,s,y⟩|⟨i,h,O,s,y,I⟩
    .have⟨ne,Hk⟩:=A i k h s;show ne (l.inj i j k .own h _ B hk rfl Hk J y N)
    .show l.dd.d1 i B ⟨h,O,(A i .Gm h s).2,y,I⟩ ⟨j,.own,_,rfl,J,N⟩
  .cases e
 |_=>show r.elim
def Ep(j:PE X a (Gz C ma)):L2.PS X (.Return (bD a) pos) (Hl C ns (ma >>= retS)):=by
 show PS.weak (vA j) ?_;rintro D σ H ⟨c0,rfl,rfl,i,h⟩;show aT i h λx c v t w=>xc i t w
end
section
def kM(e:∀j,ns j=b6->j≠i)(f:Ok C c0)(t:LL C c0 c r v)(g:i<c.σ.length)(w:W (d7 i r >>= λ_=>(pure .nx:M Fl)) c.st (jr C c0 ns D)):D.nx (c0.σ.set i (bD v)) c.H:=by
 rw[ah]at w;have⟨a,b,h,k,l,q⟩:=sR (r:=r) f t.ok t.nx g t.rx w;rw[ao]at q;have z:=q a rfl k l ⟨λj m=>by rw[b,t.hσ,i1 (ro (e j m))],by rw[b,t.hσ];simp⟩;have d:D.nx a.σ a.H:=z;rw[b,h,t.hσ]at d;show d
def Bc(g:∀j,ns j=b6->j≠i)(k:X.N.Nodup)(e:X.N[i]?=bD x)(l:Loc X.env.scope x)(m:X.fn x=b6\/X.env.scope.names.lookup x=bD .local)(n:PE X a (Gz C o))
  (hs:Oz a (bD (.Name x b)) pos.line X.env=pure cK):L2.PS X (.Assign [.Name x b] a pos) (Hl C ns (o >>= λr=>d7 i r >>= λ_=>pure .nx)):=by
 rintro d s σ H D I ⟨c0,rfl,rfl,f,h⟩;have p:i<c0.σ.length:=by rw[I.len];show(eh.mp e).1
 show vD k e l n hs m d s c0.σ c0.H D I (aT f h λr c v t w=>kM g f t (by rw[t.hσ];show p) w)
def CZ(l:∀j,ns j=b6->j≠i)(S:dB X N own scope)(m:X.calm=b6)(o:X.N.Nodup)(f:X.N[i]?=bD y)(p:X.env.scope.names.lookup y=bD .local)
  (q:PI X e a (Ki C ik ms)) (u:∀D s H ex,PG (Hs X N scope D s H ex) e (tG C t (hW own.length))) (z:∀D s H ex,Kc (Hs X N scope D s H ex) b (HC C A)) (B:∀D s H ex,PE (Hs X N scope D s H ex) elt (Gz C G))
  (J:Oz (.ListComp elt [⟨e,a,b,0⟩] scope pos) (bD (.Name y L)) O.line X.env=pure b6) (hs:∀x,JR a X.env x=pure x) :
  L2.PS X (.Assign [.Name y L] (.ListComp elt [⟨e,a,b,0⟩] scope pos) O)
   (Hl C ns ((ms >>= λrs=>aB rs >>= λ_=>M.GQ (Ih ik rs) >>= λxs=>bH own.length t A G rs xs [] >>= λus=>pure (.own,.lst us)) >>= λr=>d7 i r >>= λ_=>pure .nx)):=by
 rintro d s σ H D I ⟨c0,rfl,rfl,g,h⟩;have Q:i<c0.σ.length:=by rw[I.len];show(eh.mp f).1
 show zc S m o f p q u z B J hs d s c0.σ c0.H D I ?_;rw[ah]at h;show mG g (h.mono λr st1 w c v k T Y n rt=>?_);subst T;show kM l g ⟨k,Y,n,rt⟩ (by rw[k];show Q) w
def C0(g:∀j,ns j=b6->j∉is)(i:PE X a (Gz C k))(l:PG X b (tG C b6 is))(hs:OS [b] a pos.line X.env=pure cK)(m:SD [b] a X.env=pure cb)(n:(Nn [b] X.env).map (·.2)=[PR b X.env]):
  L2.PS X (.Assign [b] a pos) (Hl C ns (k >>= λr=>dg b6 is r >>= λ_=>pure .nx)):=by
 show PS.weak (qy i l hs m n) ?_;rintro D σ H ⟨c0,rfl,rfl,d,h⟩;show aT d h λr c v t w=>?_;rw[ah]at w;show⟨c0,c,r,t.hσ,rfl,d,t.ok,t.nx,t.rx,w.mono λ_ st1 f o e p q s hl=>?_⟩;subst e;rw[ao]at f;show f o rfl p q ⟨λj u=>by rw[s j (g j u),t.hσ],by rw[hl,t.hσ]⟩
def Er(i:PT X a (HC C j))(k:Hx X l (Hl C ns f))(m:Hx X o (Hl C ns g)):L2.PS X (.If a l o pos) (Hl C ns (j >>= λp=>if p=b6 then f else g)):=by
 show PS.weak (DO i k m) ?_;rintro D σ H ⟨c0,rfl,rfl,q,h⟩;show eG q h λp c b d n w=>?_;have e:c0.σ=c.σ:=b.symm;rw[e];cases p with
 |true=>rw[Zm rfl]at w ⊢;show q9 d n (Kept.of b) w
 |false=>rw[Zn ke]at w ⊢;show q9 d n (Kept.of b) w
def Es(J:Ve (hE X.prog X.w) X.A X.env X.xe)(L:PT X a (HC C d))(N:Hx X body (Hl C ns f)):L2.PS X (.While a body [] pos) (Hl C ns (fu d f n)):=by
 show PS.weak (vF J L N) ?_;rintro D σ H ⟨c0,rfl,rfl,O,h⟩;show⟨λm s H'=>∃c,c.H=H'/\c.σ=s/\Ok C c/\Ns c0 c/\Kept ns c0 c/\W (fu d f m) c.st (jr C c0 ns D),⟨n,c0,rfl,rfl,O,Ns.refl c0,Kept.refl,h⟩,?_⟩;rintro m s H' ⟨c,rfl,rfl,Q,t,v,w⟩;cases m with
 |zero=>show(bf.mp w).elim
 |succ m =>
  rw[show fu d f (m+1)=d >>= λb=>if b=b6 then(f >>= λf'=>match f' with|.nx=>fu d f m|.ct=>fu d f m|.bk=>pure .nx|.rt k u=>pure (.rt k u)) else pure .nx from rfl]at w;show eG Q w λp j x y B g=>?_;have k2:Kept ns c j:=Kept.of x;rw[<-x];cases p with
  |false =>
   rw[Zn ke]at g ⊢;rw[ao]at g;show g j rfl y (t.trans B) (v.trans k2)
  |true =>
   rw[Zm rfl]at g ⊢;show⟨λG I=>∃c,c.H=I/\c.σ=G/\Ok C c/\Ns c0 c/\Kept ns c0 c/\W (fu d f m) c.st (jr C c0 ns D),λG I z=>⟨m,L_ m,z⟩,?_⟩;rw[ah]at g;show⟨j,rfl,rfl,y,g.mono λT G5 i l e o Y k3=>?_⟩;subst e;have q:=(t.trans B).trans Y;have r:=(v.trans k2).trans k3;cases T with
   |nx=>show⟨l,rfl,rfl,o,q,r,i⟩
   |ct=>show⟨l,rfl,rfl,o,q,r,i⟩
   |_=>rw[ao]at i;show i l rfl o q r
def Et(hp:Ve (hE X.prog X.w) X.A X.env X.xe)(hc:X.calm=b6)(hi:PI X tg a (Ki C ik ms))(hg:PG X tg (tG C t is))(hb:Hx X body (Hl C (Ii q) f))(hs:∀x,JR a X.env x=pure x)
  (HG:∀j,ns j=b6->j∉is/\Ii q j=b6) :
  L2.PS X (.For tg a body [] pos) (Hl C ns (ms >>= λrs=>aB rs >>= λ_=>M.GQ (Ih ik rs) >>= λxs=>if sI rs is q=b6 then forM t is f rs xs else M.fail)):=by
 show PS.weak (BY hp hc hi hg hb hs) ?_;rintro D σ H ⟨c0,rfl,rfl,ok,h⟩;rw[ah]at h;show⟨c0,rfl,rfl,ok,?_⟩;rw[ah];show h.mono λrs st1 r=>?_;rw[ah,cv]at r ⊢;show⟨r.1,?_⟩;have h2:=r.2;rw[ah]at h2 ⊢;show h2.mono λxs st2 s=>?_;rw[ao];intro c1 J e1 e2 GA n1 Gy v;subst e2
 dsimp only at Gy v
 split at s
 .rename_i LR;have Ra:∀j u,(Kd.bor j,u)∈rs->j∉is/\Ii q j=b6:=λj u l=>by
   have:=mx.mp LR _ l;simpa using this
  show⟨λi m d H'=>∃c,c.H=H'/\c.σ=d/\Ok C c/\Ns c1 c/\Kept ns c0 c/\kJ rs c1 c/\m=xs.length - i/\i<=xs.length/\W (forM t is f rs (xs.drop i)) c.st (jr C c0 ns D),
   ⟨xs.length,c1,rfl,e1,GA,Ns.refl c1,Kept.of e1,λ_ _ _=>rfl,by simp,i3 _,by simpa using s⟩,?_⟩
  rintro i m d H' ⟨c,rfl,rfl,y,n,kc,B,rfl,HZ,w⟩;by_cases G:i<xs.length
  .right
   rw[Vo G,show forM t is f rs (xs[i]::xs.drop (i+1))=aB rs >>= λ_=>dg t is xs[i] >>= λ_=>f >>= λf'=>match f' with|.nx=>forM t is f rs (xs.drop (i+1))|.ct=>forM t is f rs (xs.drop (i+1))|.bk=>pure .nx|.rt k u=>pure (.rt k u) from rfl,ah,cv]at w;have⟨J5,w⟩:=w;obtain⟨I,_⟩:=v c y n B J5;have⟨Q4,MH,Q5⟩:=I i xs[i] (by simp[G]);show⟨MH,λd H'=>∃c,c.H=H'/\c.σ=d/\Ok C c/\Ns c1 c/\Kept ns c0 c/\kJ rs c1 c/\W (forM t is f rs (xs.drop (i+1))) c.st (jr C c0 ns D),λd H' ⟨c',z1,z2,z3,z4,z5,z6,z7⟩=>⟨xs.length - (i+1),⋯,c',z1,z2,z3,z4,z5,z6,rfl,G,z7⟩,λx H' hy=>?_⟩;have⟨g,rfl,o,e5,GX,n2,rt⟩:=Q5 x H' hy;rw[ah]at w;have Vy:aO C g g xs[i].1 xs[i].2 x:=by
    rcases Q4 with z|z
    .rw[z]at rt ⊢;show rt
    .rw[z]at rt ⊢;show rt
   show⟨g,g,xs[i],o,rfl,GX,GX,Nx.refl g,Vy,?_⟩;rw[e5];show w.mono λ_ G5 w3 c3 e6 Jb n3 S5 MI=>?_;subst e6;rw[ah]at w3;show⟨c3,rfl,rfl,Jb,w3.mono λfl Mr p b e L n4 N=>?_⟩;subst e;have O:Ns c1 b:=((n.trans n2.toNs).trans n3.toNs).trans n4;have Q:Kept ns c0 b:=by
    show kc.trans ⟨λj hj=>?_,by rw[N.2,MI,o]⟩;have⟨T,Y⟩:=HG j hj;rw[N.1 j Y,S5 j T,o]
   have S6:kJ rs c1 b:=λj u l=>by
    have⟨T,Y⟩:=Ra j u l;rw[N.1 j Y,S5 j T,o];show B j u l
   cases fl with
   |nx=>show⟨b,rfl,rfl,L,O,Q,S6,p⟩
   |ct=>show⟨b,rfl,rfl,L,O,Q,S6,p⟩
   |_=>rw[ao]at p;show p b rfl L (n1.toNs.trans O) Q
  .left
   have Vz:i=xs.length:=by lia
   subst Vz;rw[XN,show forM t is f rs []=aB rs >>= λ_=>pure .nx from rfl,ah,cv,ao]at w;obtain⟨_,I⟩:=v c y n B w.1;show⟨I _ (ix _),w.2 c rfl y (n1.toNs.trans n) kc⟩
 .show(bf.mp s).elim
end
section
def Ok.mod(b:Ok C c)(n:Ns c0 c)(hk:k.root=b6)(y:c.st[i]?=bD (bD (k,u)))(D:c.σ[i]?=bD (bD (.ref r)))(Hj:∀a,a≠r->H' a=c.H a)(hr:∃o,H' r=bD o)
  (new:Mv c.S c.H c.S H'->cQ C c.S H' r u'):Ok C {c with H:=H',st:=c.st.set i (bD (k,u'))}/\Ns c0 {c with H:=H',st:=c.st.set i (bD (k,u'))}:=by
 have Jz:c.R1 r:=⟨i,k,u,hk,y,D⟩
 have hR:c.R r:=.inl Jz;have⟨I,q2,q3,o,ho,LS⟩:=b.root hR;have J:i<c.st.length:=(eh.mp y).1;have m:∀{a:hH} {o':HO},a≠r->c.H a=bD o'->H' a=bD o':=λL e=>by rw[Hj _ L];show e
 have G:Mv c.S c.H c.S H':=⟨λ_ z=>z,λa o' e t=>m (λz=>by subst z;rw[ho]at e;cases e;show LS t) e,λa o' z e=>m (λd=>I (d▸z)) e⟩
 have Ky:Mv (PS C c.S) c.H (PS C c.S) H':=⟨λ_ z=>z,G.NA,λa o' z e=>m (λd=>by subst d;show z.elim q2 I) e⟩
 have N:∀(j:Nat) k' w,(c.st.set i (bD (k,u')))[j]?=bD (bD (k',w))->j≠i->c.st[j]?=bD (bD (k',w)):=λj k' w e L=>by rw[i1 (ro L)]at e;show e
 have f:∀(j:Nat) k' w,k'.root=b6->(c.st.set i (bD (k,u')))[j]?=bD (bD (k',w))->∃O,c.st[j]?=bD (bD (k',O)):=λj k' w _ e=>by
  by_cases p:j=i
  .subst p;rw[ez J]at e;cases e;show⟨u,y⟩
  .show⟨w,N j k' w e p⟩
 have b1:∀a,({c with H:=H',st:=c.st.set i (bD (k,u'))}:Cf).R1 a->c.R1 a:=λa GK=>by
  have⟨j,k',w,g,h,l⟩:=GK;have⟨O,Q⟩:=f j k' w g h;show⟨j,k',O,g,Q,l⟩
 have dD:∀(j:Nat) (w:U),(c.st.set i (bD (k,u')))[j]?=bD (bD (.Gm,w))->c.st[j]?=bD (bD (.Gm,w)):=λj w e=>by
  by_cases p:j=i
  .subst p;rw[ez J]at e;cases e;cases hk
  .show N j .Gm w e p
 have KH:JH C {c with H:=H',st:=c.st.set i (bD (k,u'))}:=b.dd.of rfl (λj w e=>⟨dD j w e,rfl⟩) (λa z=>.inl (b1 a z)) G λj a z=>⟨(b.root (.inr ⟨j,z⟩)).1,λo' e=>m (λd=>b.dd.d1 j a z (d▸Jz)) e⟩
 show⟨⟨λa o' e z=>?_,λa z=>?_,b.par,λa z=>?_,by simp[b.len],λj k' w e=>?_,λj1 j2 k1 k2 w1 w2 q g s h l T e4=>?_,KH⟩,n.trans ⟨λa o' e z=>m (λd=>z (d▸hR)) e,λa o' e=>?_,λa z=>?_,λ_ z=>z,λ_ z=>.inl z⟩⟩
 .have g:=b.same a o' e z;show m (λd=>?_) g;subst d;rcases q3 with q3|q3
  .rw[e]at q3;cases q3
  .show z q3
 .have⟨g,o',s⟩:=b.Iy a z;show⟨g,o',m (λd=>I (d▸z)) s⟩
 .have⟨g,o',s⟩:=b.io a z;show⟨g,?_⟩;by_cases A:a=r
  .subst A;show hr
  .show⟨o',m A s⟩
 .by_cases p:j=i
  .subst p;rw[ez J]at e;cases e;have⟨v,h,l⟩:=b.sl j _ _ y;rw[D]at h;cases h;show⟨.ref r,D,?_⟩;have nr:=new G;cases k with
   |own=>obtain⟨q,x,B,Y,z3,_⟩:=l;cases x;show⟨r,rfl,B,Y,z3,nr⟩
   |io=>obtain⟨q,x,B,Y,z3,_⟩:=l;cases x;show⟨r,rfl,B,Y,z3,nr⟩
   |_=>cases hk
  .have e0:=N j k' w e p;have⟨v,h,l⟩:=b.sl j k' w e0;show⟨v,h,l.mv G Ky λHe q x=>?_⟩;obtain⟨ND,HQ,B,_⟩:=l.rt He;rw[x]at HQ;cases HQ;show⟨B,λo' e=>m (λz=>?_) e⟩;subst z;show p (b.inj j i k' k w u q He hk e0 y (by rw[h,x]) D)
 .have⟨OO,Q⟩:=f j1 k1 w1 g h;have⟨S7,a2⟩:=f j2 k2 w2 s l;show b.inj j1 j2 k1 k2 OO S7 q g s Q a2 T e4
 .by_cases A:a=r
  .subst A;show hr
  .show⟨o',m A e⟩
 .rcases z with z|⟨j,w,q,h,l,T⟩
  .show .inl (.inl (b1 a z))
  .show .inl (.inr ⟨j,w,q,dD j w h,l,T⟩)
def eI{f:U->Option U}{st:av}(h:W (modS i f) st Q):∃k u u',k.root=b6/\st[i]?=bD (bD (k,u))/\f u=bD u'/\Q () (st.set i (bD (k,u'))):=by
 obtain⟨_,st',e,q⟩:=h;unfold modS at e;split at e
 .rename_i k u hs;split at e
  .rename_i hk;cases a:f u with
   |none=>rw[a]at e;cases e
   |some u'=>rw[a]at e;cases e;show⟨k,u,u',hk,hs,a,q⟩
  .cases e
 .cases e
def cH{st:av}(h:W (cY i) st Q):∃k u,k≠.Gm/\st[i]?=bD (bD (k,u))/\Q (if k.root=b6 then .bor i else k,u) st:=by
 have⟨r,st',e,q⟩:=h;unfold cY at e;split at e
 .cases e
 .rename_i k u a hs;cases e;show⟨k,u,λz=>a z,hs,q⟩
 .cases e
def Eu(T:C.K=X.K)(Y:X.N[i]?=bD x)(hv:HX X.env.scope x)(hd:(x==("__debug__":Str))=cK)(G3:(x==("__classdict__":Str))=cK)(ha:PE X a (Gz C ma))
  (Hv:((Ht l (i5 [a] X.env)).all (λx=>!x.1)&&(NY l (JQ [] X.env)).all (λx=>x.1.isSome)
   && cL ([a].length+([]:List LZ).length+(if ([]:List LZ).isEmpty then 0 else 1)<30))=b6)
  (GI:(b.endLine==l.line)=b6) (p:i5 [a] X.env=[(cK,vr a X.env)]) :
  L2.PS X (.Expr (.Call (.Attribute (.Name x px) "append" b) [a] [] l) pos) (Hl C ns (cY i >>= λx=>KG x.2 >>= λ_=>ma >>= λr=>lift r >>= λu=>modS i (wM u) >>= λ_=>pure .nx)):=by
 show PS.weak (gX (sd PySem.F.plainAttrs_list PySem.F.slot_list_append PySem.F.type_list_append lY (bT Y hv hd G3) (g9 ha j6 p) rfl Hv GI p rfl)) ?_;rintro D σ H ⟨c0,rfl,rfl,f,h⟩;rw[ah]at h;have⟨k0,s,IE,y,h⟩:=cH h;have⟨A,m,n⟩:=f.sl i k0 s y;show⟨A,m,?_⟩;cases s with
 |lst B =>
  rw[ah,show KG (U.lst B)=pure () from rfl,ao]at h;have NI:aO C c0 c0 (if k0.root=b6 then .bor i else k0) (.lst B) A:=by
   by_cases hk:k0.root=b6
   .rw[Zm hk];show⟨⟨k0,hk,y⟩,m⟩
   .rw[Zn hk];cases k0 with
    |loc=>show n
    |any=>show n
    |bor j=>show n.elim
    |Gm=>show(IE rfl).elim
    |_=>show absurd rfl hk
  obtain⟨g,MG,o,Mo,_⟩:=NI.list f;show⟨by rw[o];show .inl ⟨rfl,MG,T▸Mo⟩,?_⟩;show aT f h λr c v t w=>?_;rw[ah]at w;obtain⟨S',st',u,sS,G,n1,d,I,_,_⟩:=iq f t.ok t.nx t.rx.w w;rw[ah]at I;have⟨k,u1,u2,hk,hs,e,q⟩:=eI I;have J:c.σ[i]?=bD (bD (.ref g)):=by rw[t.hσ,m,o]
  cases u1 with
  |lst ys =>
   simp only[wM]at e;split at e
   .rename_i hz;cases e;have⟨v',e1,e2⟩:=G.sl i k (.lst ys) hs;have L:c.σ[i]?=bD (bD v'):=e1;rw[J]at L;cases L;obtain⟨r',er,_,_,_,ws,hw,O⟩:=e2.rt hk;cases er;have OP:c.H g=bD (.lst ws):=hw;show⟨g,ws,v,o,rfl,OP,by rw[<-O.len];show hz,?_⟩;rw[ao]at q;have⟨GX,n2⟩:=Ok.mod (c:={c with S:=S',st:=st' }) (H':=upd c.H g (.lst (ws++[v]))) (u':=.lst (ys++[u])) G n1.toNs hk hs J (λa ne=>aj ne) ⟨_,aw⟩ λQ=>⟨ws++[v],aw,(O.mv Q).snoc (d.mv Q)⟩
    have z:=q _ rfl GX n2 (Kept.of t.hσ);rw[<-t.hσ];show z
   .cases e
  |_=>cases e
 |_=>rw[ah]at h;show(bf.mp h).elim
def Ew(B:C.K=X.K)(hN:X.N[i]?=bD x)(hv:HX X.env.scope x)(hd:(x==("__debug__":Str))=cK)(G3:(x==("__classdict__":Str))=cK)(ha:PE X a (Gz C ma))
  (Hv:((Ht g (i5 [a] X.env)).all (λx=>!x.1)&&(NY g (JQ [] X.env)).all (λx=>x.1.isSome)
   && cL ([a].length+([]:List LZ).length+(if ([]:List LZ).isEmpty then 0 else 1)<30))=b6)
  (GI:(f.endLine==g.line)=b6) (G:i5 [a] X.env=[(cK,vr a X.env)]) :
  L2.PS X (.Expr (.Call (.Attribute (.Name x px) "extend" f) [a] [] g) pos) (Hl C ns (cY i >>= λx=>KG x.2 >>= λ_=>ma >>= λr=>modS i (kI r) >>= λ_=>pure .nx)):=by
 show PS.weak (gX (sd PySem.F.plainAttrs_list PySem.F.slot_list_extend PySem.F.type_list_extend qR (bT hN hv hd G3) (g9 ha j6 G) rfl Hv GI G rfl)) ?_;rintro D σ H ⟨c0,rfl,rfl,l,h⟩;rw[ah]at h;have⟨k0,I,IE,J,h⟩:=cH h;have⟨L,m,n⟩:=l.sl i k0 I J;show⟨L,m,?_⟩;cases I with
 |lst O =>
  rw[ah,show KG (U.lst O)=pure () from rfl,ao]at h;have NI:aO C c0 c0 (if k0.root=b6 then .bor i else k0) (.lst O) L:=by
   by_cases hk:k0.root=b6
   .rw[Zm hk];show⟨⟨k0,hk,J⟩,m⟩
   .rw[Zn hk];cases k0 with
    |loc=>show n
    |any=>show n
    |bor j=>show n.elim
    |Gm=>show(IE rfl).elim
    |_=>show absurd rfl hk
  obtain⟨o,MG,p,Mo,_⟩:=NI.list l;show⟨by rw[p];show .inl ⟨rfl,MG,B▸Mo⟩,?_⟩;show aT l h λr c v t w=>?_;rw[ah]at w;have⟨k,s,u2,hk,hs,d,q⟩:=eI w;have Q:c.σ[i]?=bD (bD (.ref o)):=by rw[t.hσ,m,p]
  have⟨rk,ru⟩:=r;have u:∃ys e b vs,s=.lst ys/\v=.ref b/\(G2 C.K c.H b vs\/Hb C.K c.H b vs)/\ak C c.S c.H e vs/\ys.length+e.length<=df/\u2=.lst (ys++e):=by
   cases ru with
   |lst e =>
    cases s with
    |lst ys =>
     simp only[kI]at d;split at d
     .rename_i hz;cases d;have⟨b,vs,ev,y,A⟩:=t.rx.list t.ok;show⟨_,_,b,vs,rfl,ev,.inl y,eE hz.2 A,hz.1,rfl⟩
     .cases d
    |_=>simp[kI]at d
   |tup e =>
    cases s with
    |lst ys =>
     simp only[kI]at d;split at d
     .rename_i hz;cases d;have⟨b,vs,ev,y,A⟩:=t.rx.tuple t.ok;show⟨_,_,b,vs,rfl,ev,.inr y,eE hz.2 A,hz.1,rfl⟩
     .cases d
    |_=>simp[kI]at d
   |_=>simp[kI]at d
  have⟨ys,e,b,vs,rfl,rfl,hB,hz,hl,rfl⟩:=u;have⟨v',T,e2⟩:=t.ok.sl i k (.lst ys) hs;rw[Q]at T;cases T;obtain⟨r',er,_,_,_,ws,hw,Y⟩:=e2.rt hk;cases er;show⟨o,b,ws,vs,p,rfl,hw,B▸hB,by rw[<-Y.len,<-hz.len];show hl,?_⟩;rw[ao]at q;have⟨GX,n2⟩:=Ok.mod (c:=c) (H':=upd c.H o (.lst (ws++vs))) (u':=.lst (ys++e)) t.ok t.nx.toNs hk hs Q (λa ne=>aj ne) ⟨_,aw⟩ λmv=>⟨ws++vs,aw,(Y.mv mv).append (hz.mv mv)⟩
  have z:=q _ rfl GX n2 (Kept.of t.hσ);rw[<-t.hσ];show z
 |_=>rw[ah]at h;show(bf.mp h).elim
def nv.or(h:nv X t)(h':nv X t'):nv X (λo i v H Q=>t o i v H Q\/t' o i v H Q):=λa s σ H o i v b c u Q I d e f q =>
 q.elim (h a s σ H o i v b c u Q I d e f) (h' a s σ H o i v b c u Q I d e f)
def set_dict(c:X.A.units+1<Jq):nv X (λo i v H Q=>∃a H',o=.ref a/\uf H a i v H'/\Q H'):=by
 rintro b s σ H o i v h j u Q I d e rv ⟨a,H',rfl,g,q⟩;cases d;show uh c I g e rv λs' f=>⟨H',f,q⟩
def xf{S:hH->Prop}{kvs:List (Key×V)}(a:kvs.map (·.1)=ks.map mu)(c:ak C S H us (kvs.map (·.2)))(d:Rep C S H u v):
  (putK kvs (mu y) v).map (·.1)=(dput ks us y u).1.map mu/\ak C S H (dput ks us y u).2 ((putK kvs (mu y) v).map (·.2)):=by
 have e:(kvs.any λkv=>cL (kv.1=(mu y:Key)))=cL (y∈ks):=by
  rw[hV];show(dz (x:=y) a c).2
 unfold putK dput;rw[e];by_cases b:y∈ks
 .rw[Zm (by simpa using b),Zm b];constructor
  .rw[i0];rw[<-a];apply r3;intro p _;change(if p.1=mu y then(p.1,v) else p).1=p.1;split<;>rfl
  .clear e b;induction kvs generalizing ks us with
   |nil =>
    have:ks=[]:=by simpa using a.symm
    subst this;simp[ak]
   |cons p kvs g =>
    cases ks with
    |nil=>simp at a
    |cons k ks =>
     cases us with
     |nil=>simp[ak]at c
     |cons j us =>
      rw[eH,eH,L7]at a;have⟨l,m,f,h,i⟩:=c;rw[eH]at f;cases f;rw[eH,MX,eH,eH];show⟨_,_,rfl,?_,g a.2 i⟩;by_cases hk:k=y
      .rw[Zm (by show hk),Zm (by rw[a.1,hk])];show d
      .rw[Zn (by show hk),Zn (by rw[a.1];intro z;show hk (Si z))];show h
 .rw[Zn (by simpa using b),Zn b];show⟨by rw[ki,a,ki];rfl,by rw[ki];show c.snoc d⟩
def Ey(hP:C.P=X.prog)(hw:C.w=X.w)(hK:C.K=X.K)(hu:X.A.units+60<Jq)(hN:X.N[i]?=bD x)(hv:HX X.env.scope x)(hd:(x==("__debug__":Str))=cK)(G3:(x==("__classdict__":Str))=cK)
  (ha:PE X a (Gz C ma)) (hb:PE X b (Gz C mb)) (hs:OS [.Subscript (.Name x G) b p] a pos.line X.env=pure cK) (Rf:SD [.Subscript (.Name x G) b p] a X.env=pure cb)
  (Q:∀v,PR (.Subscript (.Name x G) b p) X.env v=(do
   let I <-Ko [v] (vr (.Name x G) X.env)
   let T <-Ko [v,I] (vr b X.env)
   Wc p
   Ko [v,I,T] (QY I T v)
   T7 [v,I,T] [])) :
  L2.PS X (.Assign [.Subscript (.Name x G) b p] a pos) (Hl C ns (ma >>= λr=>cY i >>= λ_=>mb >>= λx=>de [r,x] >>= λus=>modS i (sH us) >>= λ_=>pure .nx)):=by
 show PS.weak (qy ha (vC (bT hN hv hd G3) hb (nv.or set_list (set_dict (X:=X) ⋯)) Q) hs Rf rfl) ?_;rintro D σ H ⟨c0,rfl,rfl,ok,h⟩;show aT ok h λr c v t w=>?_;rw[ah]at w;have⟨k0,u0,IE,Hz,w⟩:=cH w;have⟨v0,e0,Jr⟩:=t.ok.sl i k0 u0 Hz;show⟨v0,by rw[<-t.hσ];show e0,?_⟩;rw[ah]at w;show⟨c,t.hσ,rfl,t.ok,w.mono λy st2 w2 f m J e4 GX n2 r2=>?_⟩;subst e4;rw[ah]at w2;have Rg:=t.nx.trans n2;have Y:cF C c0 f [r,y] [v,m]:=⟨v,[m],rfl,t.rx.w.on t.ok n2 (J.trans t.hσ.symm),⟨m,[],rfl,(r2.w).from t.nx,rfl,λ_ i r' v' e _=>by simp at e⟩,λhk i r' v' e5 e6 He=>by
  cases i with
  |zero=>simp at e5 e6;subst e5 e6;show n_ t.rx.w r2.w hk He
  |succ i=>simp at e5⟩
 have⟨S',st',us,sS,GA,n1,g,w1⟩:=ir ok GX Rg Y w2;rw[ah]at w1;have⟨k,L,u2,hk,Ip,d,q⟩:=eI w1;rw[ao]at q;have hσ:f.σ[i]?=bD (bD v0):=by rw[J,<-t.hσ];show e0
 have⟨v',e1,e2⟩:=GA.sl i k L Ip;have Hk:f.σ[i]?=bD (bD v'):=e1;rw[hσ]at Hk;cases Hk;have⟨n,er,z1,z2,z3,l⟩:=e2.rt hk;subst er;have VA:({f with S:=S',st:=st' }:Cf).σ[i]?=bD (bD (.ref n)):=hσ;obtain⟨OO,ws,ew,S8,S7,W5,W6,S9,VB⟩:∃u ws,us=[u,ws]/\Rep C S' f.H u v/\∃(_:Unit) (_:Unit),True/\Rep C S' f.H ws m/\True:=by
  cases us with
  |nil=>simp[ak]at g
  |cons u us =>
   obtain⟨_,_,e,q1,q2⟩:=g;cases e;cases us with
   |nil=>simp[ak]at q2
   |cons u' us =>
    obtain⟨_,_,e,q3,q4⟩:=q2;cases e;cases us with
    |nil=>show⟨u,u',rfl,q1,(),(),trivial,q3,trivial⟩
    |cons _ _=>obtain⟨_,_,e,_⟩:=q4;cases e
 subst ew;rw[show sH [OO,ws] L=dU ws OO L from rfl]at d;have s:∀{H':Hp} ,(∀a,a≠n->H' a=f.H a)->(∃o,H' n=bD o)->(Mv S' f.H S' H'->cQ C S' H' n u2)->D.nx c0.σ H':=λ{H'} Hj hr new=>by
  have⟨Jb,n3⟩:=Ok.mod (c:={f with S:=S',st:=st' }) (H':=H') (u':=u2) GA n1.toNs hk Ip VA Hj hr new;have z:=q _ rfl Jb n3 (Kept.of J);rw[<-J];show z
 cases L with
 |lst xs =>
  cases ws with
  |int j =>
   simp only[dU,gj]at d;have⟨j',hj,rfl⟩:=d;have⟨vs,h1,B⟩:=l;have ey:m=.int j:=S9;show .inl ⟨n,vs,j,j',rfl,ey,h1,by rw[<-B.len];show hj,?_⟩;show s (λa ne=>aj ne) ⟨_,aw⟩ λO=>⟨vs.set j' v,aw,(B.mv O).set j' (S8.mv O)⟩
  |_=>simp[dU]at d
 |Gp ks vs =>
  cases ws with
  |str y' =>
   simp only[dU]at d;split at d
   .rename_i hz;cases d;have⟨kvs,h1,B,h3⟩:=l;have ey:m=.str y':=S9;subst ey;have hl:kvs.length=ks.length:=by have:=Zq DD B;simpa using this
    show .inr ⟨n,_,rfl,uf.k (k:=mu y') h1 (by rw[hl];show hz),?_⟩;show s (λa ne=>aj ne) ⟨_,aw⟩ λO=>?_;have⟨g1,g2⟩:=xf (y:=y') B h3 S8;show⟨_,aw,g1,g2.mv O⟩
   .cases d
  |_=>simp[dU]at d
 |_=>simp[dU]at d
def Ok.slot(d:Ok C c)(e:k≠.Gm)(hs:c.st[i]?=bD (bD (k,u))):∃v,c.σ[i]?=bD (bD v)/\aO C c c (if k.root=b6 then .bor i else k) u v:=by
 have⟨f,b,a⟩:=d.sl i k u hs;show⟨f,b,?_⟩;by_cases hk:k.root=b6
 .rw[Zm hk];show⟨⟨k,hk,hs⟩,b⟩
 .rw[Zn hk];cases k with
  |loc=>show a
  |any=>show a
  |bor j=>show a.elim
  |Gm=>show(e rfl).elim
  |_=>show absurd rfl hk
def Ez(e:∀j,ns j=b6->j≠i)(f:X.N.Nodup)(c:X.N[i]?=bD x)(g:Loc X.env.scope x)(l:X.fn x=b6\/X.env.scope.names.lookup x=bD .local):
  L2.PS X (.AugAssign (.Name x d) .Add (.Constant (.int n) j q) pos) (Hl C ns (cY i >>= λr=>n9 r >>= λm=>d7 i (.loc,.int (m+n)) >>= λ_=>pure .nx)):=by
 rintro a s σ H D I ⟨c0,rfl,rfl,b,h⟩;have o:i<c0.σ.length:=by rw[I.len];show(eh.mp c).1
 rw[ah]at h;have⟨k0,p,t,u,h⟩:=cH h;have⟨w,y,z⟩:=b.slot t u;cases p with
 |int m =>
  rw[ah,show ∀k:Kd,n9 (k,U.int m)=pure m from λ_=>rfl,ao]at h;have ev:w=.int m:=z.int b;subst ev;show BU f c g nu vE l a s c0.σ c0.H D I ⟨.int m,y,m,n,rfl,rfl,kM (r:=(.loc,.int (m+n))) (v:=.int (m+n)) e b ⟨rfl,b,Nx.refl c0,rfl⟩ o h⟩
 |_=>rw[ah]at h;show(bf.mp h).elim
end
section
def Ok.EA(d:Ok C c)(n:Ns c0 c)(O:c.st[i]?=bD (bD (.Gm,u)))(B:c.σ[i]?=bD (bD (.ref r)))(Hj:∀a,¬c.RD i a->H' a=c.H a)(Q:∀a o,c.H a=bD o->∃o',H' a=bD o')
  (new:Mv c.S c.H c.S H'->cj C c.S H' r as' u') (T:∀a∈as',a∈c.kid i\/(¬c.R a/\c0.H a=cb)) :
  Ok C {c with H:=H',st:=c.st.set i (bD (.Gm,u')),kid:=λj=>if j=i then as' else c.kid j}/\Ns c0 {c with H:=H',st:=c.st.set i (bD (.Gm,u')),kid:=λj=>if j=i then as' else c.kid j}:=by
 have Y:i<c.st.length:=(eh.mp O).1;have rt:∀{a},c.RD i a->¬c.S a/\¬C.IX a/\(C.H₀ a=cb\/C.IO a)/\∃o,c.H a=bD o/\¬Tp o:=λz=>d.root (.inr ⟨i,z⟩);have h0:∀{a},c.RD i a->C.H₀ a=cb:=λ⟨u1,r1,g,b,e3⟩=>(cj.fr (d.dd.kd i u1 r1 g b) _ (gs.mpr e3)).2.2;have q:∀{a:hH} {o:HO},¬c.RD i a->c.H a=bD o->H' a=bD o:=λz e=>by rw[Hj _ z];show e
 have N:Mv c.S c.H c.S H':=⟨λ_ z=>z,λa o e t=>q (λz=>by
  obtain⟨_,_,_,o',l,nt⟩:=rt z;rw[e]at l;cases l;show nt t) e,λa o z e=>q (λm=>(rt m).1 z) e⟩
 have Ky:Mv (PS C c.S) c.H (PS C c.S) H':=⟨λ_ z=>z,N.NA,λa o z e=>q (λm=>z.elim (rt m).2.1 (rt m).1) e⟩
 have D:∀(j:Nat) k w,(c.st.set i (bD (.Gm,u')))[j]?=bD (bD (k,w))->j≠i->c.st[j]?=bD (bD (k,w)):=λj k w e ne=>by rw[i1 (ro ne)]at e;show e
 have LV:∀(j:Nat) k w,k.root=b6->(c.st.set i (bD (.Gm,u')))[j]?=bD (bD (k,w))->c.st[j]?=bD (bD (k,w)):=λj k w hk e=>by
  by_cases f:j=i
  .subst f;rw[ez Y]at e;cases e;cases hk
  .show D j k w e f
 have b1:∀a,({c with H:=H',st:=c.st.set i (bD (.Gm,u')),kid:=λj=>if j=i then as' else c.kid j}:Cf).R1 a->c.R1 a:=λa ⟨j,k,w,hk,g,b⟩=>⟨j,k,w,hk,LV j k w hk g,b⟩
 have G:∀j a,({c with H:=H',st:=c.st.set i (bD (.Gm,u')),kid:=λj=>if j=i then as' else c.kid j}:Cf).RD j a->c.RD j a\/(j=i/\¬c.R a/\c0.H a=cb):=λj a GK=>by
  have⟨w,h,g,b,e3⟩:=GK;by_cases f:j=i
  .subst f;have I:c.σ[j]?=bD (bD (.ref h)):=b;rw[B]at I;cases I;rcases e3 with rfl|e3
   .show .inl ⟨u,_,O,B,.inl rfl⟩
   .have K9:a∈as':=by simpa using e3
    rcases T a K9 with z|z
    .show .inl ⟨u,_,O,B,.inr z⟩
    .show .inr ⟨rfl,z⟩
  .have K9:a=h\/a∈c.kid j:=by simpa[f] using e3
   show .inl ⟨w,h,D j _ w g f,b,K9⟩
 show⟨⟨λa o e z=>q (λm=>by rw[h0 m]at e;cases e) (d.same a o e z),λa z=>?_,d.par,λa z=>?_,by simp[d.len],λj k w e=>?_,λx s k1 k2 w1 w2 h h1 h2 g b e3 e4=>d.inj x s k1 k2 w1 w2 h h1 h2 (LV x k1 w1 h1 g) (LV s k2 w2 h2 b) e3 e4,⟨λj w h g b=>?_,λx s a J L=>?_,λj a J L=>?_⟩⟩,⟨λa o e z=>?_,λa o e=>?_,λa z=>?_,n.sub,n.new⟩⟩
 .have⟨q1,o,q2⟩:=d.Iy a z;show⟨q1,Q a o q2⟩
 .have⟨q1,o,q2⟩:=d.io a z;show⟨q1,Q a o q2⟩
 .by_cases f:j=i
  .subst f;rw[ez Y]at e;cases e;show⟨.ref r,B,r,rfl⟩
  .have⟨v,g,b⟩:=d.sl j k w (D j k w e f);show⟨v,g,b.mv N Ky λhk h er=>?_⟩;obtain⟨ND,HQ,J,_⟩:=b.rt hk;rw[er]at HQ;cases HQ;show⟨J,λo l=>q (λz=>d.dd.d1 i h z ⟨j,k,w,hk,D j k w e f,by rw[g,er]⟩) l⟩
 .by_cases f:j=i
  .subst f;rw[ez Y]at g;cases g;have I:c.σ[j]?=bD (bD (.ref h)):=b;rw[B]at I;cases I;have z:=new N;simpa using z
  .have Hk:=D j _ w g f;have He:(if j=i then as' else c.kid j)=c.kid j:=Zn f;change cj C c.S H' h (if j=i then as' else c.kid j) w;rw[He];show cj.mv N (λa ha=>⟨(d.root (.inr ⟨j,w,h,Hk,b,gs.mp ha⟩)).1,λo l=>q (λz=>f (d.dd.dj j i a ⟨w,h,Hk,b,gs.mp ha⟩ z)) l⟩) (d.dd.kd j w h Hk b)
 .rcases G x a J with p|⟨rfl,p,_⟩
  .rcases G s a L with A|⟨rfl,A,_⟩
   .show d.dd.dj x s a p A
   .show(A (.inr ⟨x,p⟩)).elim
  .rcases G s a L with A|⟨rfl,A,_⟩
   .show(p (.inr ⟨s,A⟩)).elim
   .rfl
 .rcases G j a J with p|⟨rfl,p,_⟩
  .show d.dd.d1 j a p (b1 a L)
  .show p (.inl (b1 a L))
 .show q (λm=>by
   rcases n.roots a (.inr ⟨i,m⟩) with y|y
   .show z y
   .rw[e]at y;cases y) (n.keep a o e z)
 .have⟨o',l⟩:=n.there a o e;show Q a o' l
 .rcases z with z|⟨j,z⟩
  .show n.roots a (.inl (b1 a z))
  .rcases G j a z with y|⟨_,_,y⟩
   .show n.roots a (.inr ⟨j,y⟩)
   .show .inr y
def Ok.newD(l:Ok C c)(B:c.H p=cb)(u:i<c.σ.length):
  Ok C {c with H:=upd c.H p (.dK []),σ:=c.σ.set i (bD (.ref p)),st:=c.st.set i (bD (.Gm,.Gp [] [])),kid:=λj=>if j=i then [] else c.kid j}/\Ns c {c with H:=upd c.H p (.dK []),σ:=c.σ.set i (bD (.ref p)),st:=c.st.set i (bD (.Gm,.Gp [] [])),kid:=λj=>if j=i then [] else c.kid j}:=by
 have⟨n,T⟩:=l.lay (o:=.dK []) B;have⟨q1,q2,q3,q4,D⟩:=l.iU B;have G:i<c.st.length:=by rw[l.len];show u
 have x:∀(j:Nat) k w,(c.st.set i (bD (.Gm,.Gp [] [])))[j]?=bD (bD (k,w))->j≠i->c.st[j]?=bD (bD (k,w)):=λj k w e I=>by rw[i1 (ro I)]at e;show e
 have q:∀(j:Nat),j≠i->(c.σ.set i (bD (.ref p)))[j]?=c.σ[j]?:=λj I=>i1 (ro I);have J:∀(j:Nat) k w,k.root=b6->(c.st.set i (bD (.Gm,.Gp [] [])))[j]?=bD (bD (k,w))->j≠i/\c.st[j]?=bD (bD (k,w)):=λj k w hk e=>by
  by_cases b:j=i
  .subst b;rw[ez G]at e;cases e;cases hk
  .show⟨b,x j k w e b⟩
 have b1:∀a,({c with H:=upd c.H p (.dK []),σ:=c.σ.set i (bD (.ref p)),st:=c.st.set i (bD (.Gm,.Gp [] [])),kid:=λj=>if j=i then [] else c.kid j}:Cf).R1 a->c.R1 a:=λa L=>by
  have⟨j,k,w,hk,d,f⟩:=L;have⟨b,N⟩:=J j k w hk d;show⟨j,k,w,hk,N,by rw[<-q j b];show f⟩
 have r:∀j a,({c with H:=upd c.H p (.dK []),σ:=c.σ.set i (bD (.ref p)),st:=c.st.set i (bD (.Gm,.Gp [] [])),kid:=λj=>if j=i then [] else c.kid j}:Cf).RD j a->(j≠i/\c.RD j a)\/(j=i/\a=p):=λj a L=>by
  have⟨w,g,d,f,e3⟩:=L;by_cases b:j=i
  .subst b;have s:(c.σ.set j (bD (.ref p)))[j]?=bD (bD (.ref g)):=f;rw[ez u]at s;cases s;rcases e3 with rfl|e3
   .show .inr ⟨rfl,rfl⟩
   .simp at e3
  .have K9:a=g\/a∈c.kid j:=by simpa[b] using e3
   show .inl ⟨b,w,g,x j _ w d b,by rw[<-q j b];show f,K9⟩
 show⟨⟨n.same,n.Iy,n.par,n.io,by simp[l.len],λj k w e=>?_,λm h k1 k2 Y w2 g h1 h2 d f e3 e4=>?_,⟨λj w g d f=>?_,λm h a O t=>?_,λj a O t=>?_⟩⟩,⟨T.keep,T.there,λa z=>?_,λ_ z=>z,λ_ z=>.inl z⟩⟩
 .by_cases b:j=i
  .subst b;rw[ez G]at e;cases e;show⟨.ref p,ez u,p,rfl⟩
  .have⟨v,d,f⟩:=n.sl j k w (x j k w e b);show⟨v,(q j b).trans d,f⟩
 .have⟨MJ,a1⟩:=J m k1 Y h1 d;have⟨LW,a2⟩:=J h k2 w2 h2 f;show l.inj m h k1 k2 Y w2 g h1 h2 a1 a2 ((q m MJ).symm.trans e3) ((q h LW).symm.trans e4)
 .by_cases b:j=i
  .subst b;rw[ez G]at d;cases d;have s:(c.σ.set j (bD (.ref p)))[j]?=bD (bD (.ref g)):=f;rw[ez u]at s;cases s;change cj C c.S (upd c.H p (.dK [])) p (if j=j then [] else c.kid j) (.Gp [] []);rw[Zm rfl];show⟨[],aw,rfl,rfl,by simp,λa ha=>by rw[hQ.mp ha];show⟨q2,q3,q1⟩,rfl⟩
  .have N:=x j _ w d b;have z:=n.dd.kd j w g N ((q j b).symm.trans f);change cj C c.S (upd c.H p (.dK [])) g (if j=i then [] else c.kid j) w;rw[Zn b];show z
 .rcases r m a O with⟨_,A⟩|⟨rfl,rfl⟩
  .rcases r h a t with⟨_,Q⟩|⟨rfl,rfl⟩
   .show l.dd.dj m h a A Q
   .show(D (.inr ⟨m,A⟩)).elim
  .rcases r h a t with⟨_,Q⟩|⟨rfl,_⟩
   .show(D (.inr ⟨h,Q⟩)).elim
   .rfl
 .rcases r j a O with⟨_,A⟩|⟨rfl,rfl⟩
  .show l.dd.d1 j a A (b1 a t)
  .show D (.inl (b1 a t))
 .rcases z with z|⟨j,z⟩
  .show .inl (.inl (b1 a z))
  .rcases r j a z with⟨_,y⟩|⟨_,rfl⟩
   .show .inl (.inr ⟨j,y⟩)
   .show .inr B
end
section
theorem da.rep{S S':hH->Prop}(hs:∀a,S a->S' a):∀{us:List U}{as:List hH},(∀a∈as,S' a)->da C S H us as->ak C S' H us (as.map V.ref)
 |[],as,_,h=>by cases h;show rfl
 |u::us,as,c,h=>by
  have⟨a,as',ys,vs,rfl,rfl,d,e,f⟩:=h;show⟨.ref a,as'.map V.ref,rfl,⟨a,vs,rfl,⟨c a (by simp),d⟩,e.mv (.up hs)⟩,da.rep hs (λb g=>c b (by simp[g])) f⟩
def Ok.EB(b:Ok C c)(n:Nx c0 c)(Q:c.st[i]?=bD (bD (.Gm,u)))(s:c.σ[i]?=bD (bD (.ref r))):
  Ok C {c with S:=λa=>c.S a\/a∈c.kid i,st:=c.st.set i (bD (.own,u))}/\Nx c0 {c with S:=λa=>c.S a\/a∈c.kid i,st:=c.st.set i (bD (.own,u))}:=by
 have T:i<c.st.length:=(eh.mp Q).1;have D:=b.dd.kd i u r Q s;have fr:=cj.fr D;have mem:∀a,(a=r\/a∈c.kid i)->c.RD i a:=λa z=>⟨u,r,Q,s,z⟩
 have up:Mv c.S c.H (λa=>c.S a\/a∈c.kid i) c.H:=.up λa=>.inl;have VC:Mv (PS C c.S) c.H (PS C λa=>c.S a\/a∈c.kid i) c.H:=.up λa z=>z.imp id .inl;have OQ:r∉c.kid i/\cQ C (λa=>c.S a\/a∈c.kid i) c.H r u:=by
  cases u<;>first|show D.elim|skip
  have⟨kvs,G,I,h3,h4,h5,h6⟩:=D;show⟨(mh.mp h4).1,kvs,G,I,?_⟩;rw[h3];show h6.rep (λa=>.inl) λa J=>.inr J
 have p:∀(j:Nat) k w,(c.st.set i (bD (.own,u)))[j]?=bD (bD (k,w))->j≠i->c.st[j]?=bD (bD (k,w)):=λj k w e ne=>by rw[i1 (ro ne)]at e;show e
 have b1:∀a,({c with S:=λa=>c.S a\/a∈c.kid i,st:=c.st.set i (bD (.own,u))}:Cf).R1 a->c.R1 a\/a=r:=λa Y=>by
  have⟨j,k,w,hk,f,g⟩:=Y;by_cases d:j=i
  .subst d;have Iw:c.σ[j]?=bD (bD (.ref a)):=g;rw[s]at Iw;cases Iw;show .inr rfl
  .show .inl ⟨j,k,w,hk,p j k w f d,g⟩
 have t:∀j a,({c with S:=λa=>c.S a\/a∈c.kid i,st:=c.st.set i (bD (.own,u))}:Cf).RD j a->j≠i/\c.RD j a:=λj a Y=>by
  have⟨w,h,f,g,x⟩:=Y;by_cases d:j=i
  .subst d;rw[ez T]at f;cases f
  .show⟨d,w,h,p j _ w f d,g,x⟩
 show⟨⟨b.same,λa z=>?_,b.par,b.io,by simp[b.len],λj k w e=>?_,λm l k1 k2 L N h G I f g x e4=>?_,⟨λj w h f g=>?_,λm l a A z2=>b.dd.dj m l a (t m a A).2 (t l a z2).2,λj a A z2=>?_⟩⟩,⟨⟨n.keep,n.there,λa z=>?_,λa z=>.inl (n.sub a z),λa z=>?_⟩,λa ⟨j,z⟩=>n.dk a ⟨j,(t j a z).2⟩⟩⟩
 .rcases z with z|z
  .show b.Iy a z
  .obtain⟨o,ho,_⟩:=cj.there D a (sL _ z);show⟨(fr a (sL _ z)).2.2,o,ho⟩
 .by_cases d:j=i
  .subst d;rw[ez T]at e;cases e;have⟨q1,q2,q3⟩:=fr r (rr ..);show⟨.ref r,s,r,rfl,λz=>z.elim q1 OQ.1,q2,q3,OQ.2⟩
  .have⟨v,f,g⟩:=b.sl j k w (p j k w e d);show⟨v,f,g.mv up VC λhk h er=>?_⟩;obtain⟨ND,HQ,A,_⟩:=g.rt hk;rw[er]at HQ;cases HQ;show⟨λz=>z.elim A λz=>b.dd.d1 i h (mem h (.inr z)) ⟨j,k,w,hk,p j k w e d,by rw[f,er]⟩,λo q=>q⟩
 .by_cases O:m=i
  .by_cases B:l=i
   .rw[O,B]
   .subst O;have K9:c.σ[m]?=bD (bD (.ref h)):=x;rw[s]at K9;cases K9;show(b.dd.d1 m r (mem r (.inl rfl)) ⟨l,k2,N,I,p l k2 N g B,e4⟩).elim
  .by_cases B:l=i
   .subst B;have S_:c.σ[l]?=bD (bD (.ref h)):=e4;rw[s]at S_;cases S_;show(b.dd.d1 l r (mem r (.inl rfl)) ⟨m,k1,L,G,p m k1 L f O,x⟩).elim
   .show b.inj m l k1 k2 L N h G I (p m k1 L f O) (p l k2 N g B) x e4
 .by_cases d:j=i
  .subst d;rw[ez T]at f;cases f
  .have Hk:=p j _ w f d;show cj.mv up (λa J=>⟨λz=>z.elim (b.root (.inr ⟨j,w,h,Hk,g,gs.mp J⟩)).1 λz=>d (b.dd.dj j i a ⟨w,h,Hk,g,gs.mp J⟩ (mem a (.inr z))),λo q=>q⟩) (b.dd.kd j w h Hk g)
 .have⟨d,y⟩:=t j a A;rcases b1 a z2 with z|z
  .show b.dd.d1 j a y z
  .subst z;show d (b.dd.dj j i a y (mem a (.inl rfl)))
 .rcases z with z|⟨j,z⟩
  .rcases b1 a z with z|rfl
   .show n.roots a (.inl z)
   .show n.roots a (.inr ⟨i,mem a (.inl rfl)⟩)
  .show n.roots a (.inr ⟨j,(t j a z).2⟩)
 .rcases z with z|z
  .show n.new a z
  .rcases n.roots a (.inr ⟨i,mem a (.inr z)⟩) with y|y
   .show .inr (.inl y)
   .show .inr (.inr y)
def zX(f:X.N[i]?=bD x)(g:HX X.env.scope x)(j:(x==("__debug__":Str))=cK)(k:(x==("__classdict__":Str))=cK):PE X (.Name x pos) (Gz C (wK i)):=by
 have m:=oh (C:=C) (pos:=pos) f g j k;rintro b s σ H Q I ⟨c0,rfl,rfl,c,r,st',e,h⟩;unfold wK at e;split at e
 .rename_i u hs;cases e;have⟨v,d,l,rfl⟩:=c.sl i _ _ hs;have⟨n,o⟩:=c.EB (Nx.refl c0) hs d;have p:i<c0.st.length:=(eh.mp hs).1;show bT f g j k b s c0.σ c0.H Q I ⟨.ref l,d,h {c0 with S:=λa=>c0.S a\/a∈c0.kid i,st:=c0.st.set i (bD (.own,u))} (.ref l) rfl rfl n o ⟨⟨.own,rfl,ez p⟩,d⟩⟩
 .show m b s c0.σ c0.H Q I ⟨c0,rfl,rfl,c,r,st',e,h⟩
end
section
def fY{st:av}(h:W (ip i) st Q):∃ks us,st[i]?=bD (bD (.Gm,.Gp ks us))/\Q (ks,us) st:=by
 have⟨r,st',e,q⟩:=h;unfold ip at e;split at e
 .rename_i ks us hs;cases e;show⟨ks,us,hs,q⟩
 .cases e
def fZ{st:av}(h:W (jH x) st Q):∃y,x.2=.str y/\Q y st:=by
 unfold jH at h;split at h
 .rename_i y e;rw[ao]at h;show⟨y,e,h⟩
 .show(bf.mp h).elim
def Ok.Gp(d:Ok C c)(f:c.st[i]?=bD (bD (.Gm,.Gp ks us))):∃(r:hH) (kvs:List (Key×V)),c.σ[i]?=bD (bD (.ref r))/\c.H r=bD (.dK kvs)/\kvs.map (·.1)=ks.map mu/\kvs.map (·.2)=(c.kid i).map V.ref /\
  (r::c.kid i).Nodup/\da C c.S c.H us (c.kid i)/\(∀y:Str,(dr kvs (mu y)).isSome=cL (y∈ks))/\∀(y:Str) (u:U),dv ks us y=bD u->∃v,dr kvs (mu y)=bD v/\Rep C (λa=>c.S a\/a∈c.kid i) c.H u v:=by
 have⟨v,e,r,rfl⟩:=d.sl i _ _ f;have⟨kvs,k,b,g,l,n,h⟩:=d.dd.kd i _ r f e;have j:ak C (λa=>c.S a\/a∈c.kid i) c.H us (kvs.map (·.2)):=by rw[g];show h.rep (λa=>.inl) λa m=>.inr m
 show⟨r,kvs,e,k,b,g,l,h,λy=>(dz (x:=y) b j).2,λy=>(dz (x:=y) b j).1⟩
def pS{k:Str->List Str×List U->M β}{b:β->av->Prop}{Z:V->V->Hp->Prop}(m:Ok C c0)(h:W (o >>= λx=>jH x >>= λy=>ip i >>= λd=>k y d) c0.st b)
  (hz:∀(c:Cf) (y:Str) (ks:List Str) (us:List U) (r:hH) (kvs:List (Key×V)),c.σ=c0.σ->Ok C c->Nx c0 c->c.H r=bD (.dK kvs)->(dr kvs (mu y)).isSome=cL (y∈ks)->W (k y (ks,us)) c.st b->Z (.str y) (.ref r) c.H) :
  Gz C o c0.σ c0.H λv p=>∃f,c0.σ[i]?=bD (bD f)/\Z v f p:=by
 show⟨c0,rfl,rfl,m,?_⟩;rw[ah]at h;show W.mono h λx st' w c v g hs a n r=>?_;subst hs;have⟨u,z⟩:=x;rw[ah]at w;have⟨y,e,j⟩:=fZ w;clear w
 dsimp only at e r
 subst e;have ev:v=.str y:=r.str a;subst ev;rw[ah]at j;have⟨ks,us,hs,w⟩:=fY j;obtain⟨l,kvs,q,s,_,_,_,_,t,_⟩:=a.Gp hs;show⟨.ref l,by rw[<-g];show q,hz c y ks us l kvs g a n s (t y) w⟩
abbrev C1(neg:Bool):CmpOp:=if neg=b6 then .NotIn else .In
def C2(d:∀j,ns j=b6->j≠i)(f:X.N.Nodup)(c:X.N[i]?=bD x)(g:Loc X.env.scope x)(k:X.fn x=b6\/X.env.scope.names.lookup x=bD .local)
  (hs:Oz (.Dict [] [] p) (bD (.Name x a)) pos.line X.env=pure cK):L2.PS X (.Assign [.Name x a] (.Dict [] [] p) pos) (Hl C ns (Ba i >>= λ_=>pure .nx)):=by
 rintro b s σ H D I ⟨c0,rfl,rfl,l,h⟩;have m:i<c0.σ.length:=by rw[I.len];show(eh.mp c).1
 show vD f c g pd hs k b s c0.σ c0.H D I λq n=>?_;have⟨o,r⟩:=l.newD n m;rw[ah]at h;obtain⟨_,st',e,w⟩:=h;cases e;rw[ao]at w;show w _ rfl o r ⟨λj t=>i1 (ro (d j t)),by simp⟩
end
section
def zY(G:X.A.units+60<Jq)(p:X.N[i]?=bD x)(q:HX X.env.scope x)(t:(x==("__debug__":Str))=cK)(u:(x==("__classdict__":Str))=cK)(v:PE X a (Gz C D))(z:O0 (C1 neg) (.Name x p2)=cK):
  PT X (.Compare a [C1 neg] [.Name x p2] pos) (HC C (D >>= λx=>jH x >>= λy=>ip i >>= λd=>pure (QR neg y d.1))):=by
 rintro e s σ H Q I ⟨c0,rfl,rfl,B,h⟩;cases neg with
 |false =>
  show vq (Cb ⋯ v (bT p q t u)) z e s c0.σ c0.H Q I (pS (Z:=λy x f=>∃a o,x=V.ref a/\eV f a y o/\∃b,V.bl o.isSome=.bl b/\Q b f) B h λc y ks us r kvs g j n l m w=>?_);rw[ao]at w;show⟨r,_,rfl,eV.k (k:=mu y) l,?_⟩;rw[m];show⟨_,rfl,w c g rfl j n⟩
 |true =>
  show vq (ui ⋯ v (bT p q t u)) z e s c0.σ c0.H Q I (pS (Z:=λy x f=>∃a o,x=V.ref a/\eV f a y o/\∃b,V.bl (!o.isSome)=.bl b/\Q b f) B h λc y ks us r kvs g j n l m w=>?_);rw[ao]at w;show⟨r,_,rfl,eV.k (k:=mu y) l,?_⟩;rw[m];show⟨_,rfl,w c g rfl j n⟩
theorem da.snoc{S:hH->Prop}{a:hH}(b:H a=bD (.lst vs))(c:ak C S H ys vs):∀{us:List U}{as:List hH},da C S H us as->da C S H (us++[.lst ys]) (as++[a])
 |[],as,h=>by cases h;show⟨a,[],ys,vs,rfl,rfl,b,c,rfl⟩
 |u::us,as,h=>by
  have⟨a',as',d,f,rfl,e,g,i,j⟩:=h;show⟨a',as'++[a],d,f,rfl,e,g,i,da.snoc b c j⟩
def q_{st:av}(h:W (kG i y r) st Q):∃us ks vs,r=(.own,.lst us)/\st[i]?=bD (bD (.Gm,.Gp ks vs))/\y∉ks/\ks.length<df/\Q () (st.set i (bD (.Gm,.Gp (ks++[y]) (vs++[.lst us])))):=by
 have⟨k,u⟩:=r;cases k<;>cases u<;>first|show(bf.mp h).elim|skip
 rename_i us;obtain⟨_,st',e,q⟩:=h;unfold kG at e
 dsimp only at e
 split at e
 .rename_i ks vs hs;split at e
  .rename_i hz;cases e;show⟨us,ks,vs,rfl,hs,hz.1,hz.2,q⟩
  .cases e
 .cases e
def C3{i:Nat}{x:Str}{j:Pos}(hu:X.A.units+60<Jq)(hN:X.N[i]?=bD x)(hv:HX X.env.scope x)(hd:(x==("__debug__":Str))=cK)(G3:(x==("__classdict__":Str))=cK)
  (ha:PE X a (Gz C ma)) (B:PE X b (Gz C mb)) (hs:OS [.Subscript (.Name x j) b p] a pos.line X.env=pure cK) (Rf:SD [.Subscript (.Name x j) b p] a X.env=pure cb)
  (G:∀v,PR (.Subscript (.Name x j) b p) X.env v=(do
   let n <-Ko [v] (vr (.Name x j) X.env)
   let I <-Ko [v,n] (vr b X.env)
   Wc p
   Ko [v,n,I] (QY n I v)
   T7 [v,n,I] [])) :
  L2.PS X (.Assign [.Subscript (.Name x j) b p] a pos) (Hl C ns (ma >>= λr=>ip i >>= λ_=>mb >>= λx=>jH x >>= λy=>kG i y r >>= λ_=>pure .nx)):=by
 show PS.weak (qy ha (vC (bT hN hv hd G3) B (set_dict (X:=X) ⋯) G) hs Rf rfl) ?_;rintro D σ H ⟨c0,rfl,rfl,Q,h⟩;show aT Q h λr c v t w=>?_;rw[ah]at w;have⟨Ta,Rj,Hz,w⟩:=fY w;obtain⟨T,LX,Y,g0,_⟩:=t.ok.Gp Hz;show⟨.ref T,by rw[<-t.hσ];show Y,?_⟩;rw[ah]at w;show⟨c,t.hσ,rfl,t.ok,w.mono λy st2 w2 J vy s e4 u n2 r2=>?_⟩;subst e4;rw[ah]at w2;have⟨ky,uy⟩:=y;have⟨y,ey,w3⟩:=fZ w2
 dsimp only at ey r2
 subst ey;have ev:vy=.str y:=r2.str u;subst ev;rw[ah]at w3;have⟨us,ks,vs,L,g,Ow,l,q⟩:=q_ w3;subst L;rw[ao]at q;obtain⟨m,kvs,d,g1,g2,g3,g4,g5,g6,_⟩:=u.Gp g;have L:m=T:=by rw[s,<-t.hσ,Y]at d;cases d;rfl
 subst L;have⟨f,rfl,k1,k2,O,GZ,k4,k5⟩:=t.rx.w.on t.ok n2.toNs (s.trans t.hσ.symm);have Rg:=t.nx.trans n2;have hl:kvs.length=ks.length:=by have:=Zq DD g2;simpa using this
 have J6:dr kvs (mu y)=cb:=by
  have:=g6 y;rw[Zo Ow]at this;cases hq:dr kvs (mu y) with
  |none=>rfl
  |some _=>rw[hq]at this;cases this
 show⟨m,_,rfl,uf.k (k:=mu y) g1 (by rw[hl];show l),?_⟩;rw[vS _ J6];have OQ:f∉J.kid i:=λz=>O (.inr ⟨i,_,_,g,d,.inr z⟩);have Tb:f≠m:=λz=>O (.inr ⟨i,_,_,g,d,.inl z⟩);have rd:=u.dd.kd i _ _ g d;have fr:=cj.fr rd;have⟨Jb,n3⟩:=Ok.EA (H':=upd J.H m (.dK (kvs++[(mu y,.ref f)]))) (u':=.Gp (ks++[y]) (vs++[.lst us])) (as':=J.kid i++[f]) u Rg.toNs g d
  (λa ne=>aj λz=>ne ⟨_,_,g,d,.inl z⟩) (λa o e=>by
   by_cases hz:a=m
   .subst hz;show⟨_,aw⟩
   .rw[aj hz];show⟨o,e⟩)
  (λmv=>by
   show⟨_,aw,by rw[ki,g2,ki];rfl,by rw[ki,g3,ki];rfl,?_,λa ha=>?_,?_⟩
   .rw[<-XO,qs];show⟨g4,by simp,λa ha b B=>by
     have:b=f:=by simpa using B
     subst this;rintro rfl;rcases gs.mp ha with z|z
     .show Tb z
     .show OQ z⟩
   .rw[<-XO]at ha;rcases i4.mp ha with ha|ha
    .show fr a ha
    .have:a=f:=by simpa using ha
     subst this;obtain⟨z1,_,z3,_⟩:=Q.iU k1;show⟨k2,z3,z1⟩
   .show da.snoc (by rw[aj Tb];show k4) (k5.mv mv) (da.mv mv (λa ha o e=>by
     rw[aj (λz=>(mh.mp g4).1 (by rw[<-z];show ha))];show e) g5))
  (λa ha=>by
   rcases i4.mp ha with ha|ha
   .show .inl ha
   .have:a=f:=by simpa using ha
    subst this;show .inr ⟨O,k1⟩)
 have z:=q _ rfl Jb n3 (Kept.of s);rw[<-s];show z
theorem da.at{S:hH->Prop}:∀{ks:List Str}{us:List U}{as:List hH}{kvs:List (Key×V)}{u:U},kvs.map (·.1)=ks.map mu->kvs.map (·.2)=as.map V.ref->as.Nodup->da C S H us as->dv ks us y=bD u ->
  ∃a ws ys,dr kvs (mu y)=bD (.ref a)/\a∈as/\u=.lst ys/\H a=bD (.lst ws)/\ak C S H ys ws/\∀(H':Hp) (c:List U) (ws':List V),Mv S H S H'->H' a=bD (.lst ws')->ak C S H' c ws'->(∀b∈as,b≠a->H' b=H b)->da C S H' (iV ks us y (.lst c)) as
 |[],us,as,kvs,u,_,_,_,_,h=>by cases us<;>cases h
 |k::ks,[],as,kvs,u,_,_,_,_,h=>by cases h
 |k::ks,N::us,as,kvs,u,d,m,f,hk,h=>by
  have⟨a,as',ys,ws,rfl,rfl,r,s,t⟩:=hk;cases kvs with
  |nil=>simp at d
  |cons p kvs =>
   rw[eH,eH,L7]at d m;rw[mh]at f;by_cases g:k=y
   .subst g;simp only[dv,if_true]at h;cases h;show⟨a,ws,ys,by rw[d8 d.1,m.1],by simp,rfl,r,s,λH' c ws' i n q j=>?_⟩;simp only[iV,if_true];show⟨a,as',c,ws',rfl,rfl,n,q,da.mv i (λb l o e=>by rw[j b (by simp[l]) (λz=>f.1 (z▸l))];show e) t⟩
   .simp only[dv,Zn g]at h;have⟨v,x,A,B,w,D,G,I,J⟩:=da.at d.2 m.2 f.2 t h;show⟨v,x,A,?_,by simp[w],D,G,I,λH' c ws' i n q j=>?_⟩
    .rw[d9 (by rw[d.1];intro z;show g (Si z))];show B
    .simp only[iV,Zn g];have L:a≠v:=λz=>f.1 (z▸w);show⟨a,as',ys,ws,rfl,rfl,by rw[j a (by simp) L];show r,s.mv i,J H' c ws' i n q λb l=>j b (by simp[l])⟩
def ra{st:av}(h:W (kH i y u) st Q):∃ks vs xs,st[i]?=bD (bD (.Gm,.Gp ks vs))/\dv ks vs y=bD (.lst xs)/\xs.length<df/\Q () (st.set i (bD (.Gm,.Gp ks (iV ks vs y (.lst (xs++[u])))))):=by
 obtain⟨_,st',e,q⟩:=h;unfold kH at e;split at e
 .rename_i ks vs hs;split at e
  .rename_i xs a;split at e
   .rename_i hz;cases e;show⟨ks,vs,xs,hs,a,hz,q⟩
   .cases e
  .cases e
 .cases e
abbrev xg(C:Ct)(m:M (Kd×U)):TE:=λσ H Q=>∃c0:Cf,c0.σ=σ/\c0.H=H/\Ok C c0/\W m c0.st λr st'=>∀c v,c.σ=σ->c.st=st'->Ok C c->Nx c0 c->(∀a o,c0.H a=bD o->c.H a=bD o)->aO C c0 c r.1 r.2 v->Q v c.H
def uP(b:Ok C c0)(h:W (d >>= k) c0.st e)
  (hz:∀x c v,LL C c0 c x v->(∀a o,c0.H a=bD o->c.H a=bD o)->W (k x) c.st e->Z v c.H):xg C d c0.σ c0.H Z:=by
 rw[ah]at h;show⟨c0,rfl,rfl,b,h.mono λx st1 f c1 g i j l m n p=>hz x c1 g ⟨i,l,m,p⟩ n (by rw[j];show f)⟩
def xh(d:X.N[i]?=bD x)(f:HX X.env.scope x)(g:(x==("__debug__":Str))=cK)(l:(x==("__classdict__":Str))=cK):PE X (.Name x pos) (xg C (cY i)):=by
 show PE.weak (bT d f g l) ?_;rintro σ H Q ⟨c0,rfl,rfl,b,r,st',e,h⟩;unfold cY at e;split at e
 .cases e
 .rename_i k u m hs;cases e;have⟨v,c,a⟩:=b.sl i k u hs;show⟨v,c,h c0 v rfl rfl b (Nx.refl c0) (λ_ _ z=>z) ?_⟩;by_cases hk:k.root=b6
  .rw[Zm hk];show⟨⟨k,hk,hs⟩,c⟩
  .rw[Zn hk];cases k with
   |loc=>show a
   |any=>show a
   |bor j=>show a.elim
   |Gm=>show(m rfl).elim
   |_=>show absurd rfl hk
 .cases e
def iy(h:PE X e (tC v))(r:∀S H,Rep C S H u v):PE X e (xg C (pure (.loc,u))):=by
 show PE.weak h ?_;rintro σ H Q ⟨c0,rfl,rfl,a,h⟩;rw[ao]at h;show h c0 v rfl rfl a (Nx.refl c0) (λ_ _ z=>z) (r _ _)
def C4(hK:C.K=X.K)(hu:X.A.units+60<Jq)(hN:X.N[i]?=bD x)(hv:HX X.env.scope x)(hd:(x==("__debug__":Str))=cK)(G3:(x==("__classdict__":Str))=cK)(G:PE X a (Gz C ma))(hb:PE X b (Gz C mb))(OR:Ca b)
  (Hv:((Ht I (i5 [a] X.env)).all (λx=>!x.1)&&(NY I (JQ [] X.env)).all (λx=>x.1.isSome)
   && cL ([a].length+([]:List LZ).length+(if ([]:List LZ).isEmpty then 0 else 1)<30))=b6)
  (GI:(j.endLine==I.line)=b6) (Gy:i5 [a] X.env=[(cK,vr a X.env)]) :
  L2.PS X (.Expr (.Call (.Attribute (.Subscript (.Name x px) b p) "append" j) [a] [] I) pos) (Hl C ns (ip i >>= λ_=>mb >>= λx=>jH x >>= λy=>ip i >>= λd=>if y∈d.1 then(ma >>= λr=>lift r >>= λu=>kH i y u >>= λ_=>pure .nx) else M.fail)):=by
 show PS.weak (gX (sd PySem.F.plainAttrs_list PySem.F.slot_list_append PySem.F.type_list_append lY (zb ⋯ (bT hN hv hd G3) hb OR) (g9 G j6 Gy) rfl Hv GI Gy rfl)) ?_;rintro D σ H ⟨c0,rfl,rfl,ok,h⟩;rw[ah]at h;have⟨Ta,Rj,Hz,h⟩:=fY h;obtain⟨r0,LX,J,g0,_⟩:=ok.Gp Hz;show⟨.ref r0,J,?_⟩;show aT ok h λry c vy t w=>?_;rw[ah]at w;have⟨ky,uy⟩:=ry;have⟨y,ey,w1⟩:=fZ w
 dsimp only at ey
 subst ey;have ev:vy=.str y:=t.rx.str t.ok;subst ev;rw[ah]at w1;have⟨ks,us,hs,l⟩:=fY w1
 dsimp only at l
 by_cases L:y∈ks
 case neg=>rw[Zn L]at l;show(bf.mp l).elim
 rw[Zm L]at l;obtain⟨O,kvs,f1,g1,g2,g3,g4,g5,g6,_⟩:=t.ok.Gp hs;have Q:O=r0:=by rw[t.hσ,J]at f1;cases f1;rfl
 subst Q;have K_:=g6 y;rw[Zp L]at K_;have⟨v0,s⟩:=Pt.mp K_;have IS:v0∈(c.kid i).map V.ref:=by
  rw[<-g3];unfold dr at s;have⟨q,hq,rfl⟩:=gj.mp s;show WX (List.mem_of_find?_eq_some hq)
 have⟨f,VF,rfl⟩:=i7.mp IS;have⟨VG,Rk⟩:=g5.mem VF;show⟨O,.ref f,rfl,by rw[<-s];show eV.k (k:=mu y) g1,Or.inl ⟨rfl,VG,.inl (.inl Rk)⟩,?_⟩;rw[<-t.hσ];show aT t.ok l λr g v t' w3=>?_;rw[ah]at w3;obtain⟨S',st',u,sS,T,n1,m,w4,_,_⟩:=iq t.ok t'.ok t'.nx t'.rx.w w3;rw[ah]at w4;have⟨JL,GZ,xs,n,hx,hz,q⟩:=ra w4;rw[ao]at q;obtain⟨B,Y,k1,k2,k3,k4,k5,k6,_,_⟩:=T.Gp n;have Tc:g.σ[i]?=bD (bD (.ref B)):=k1;have Q:B=O:=by rw[t'.hσ,t.hσ,J]at Tc;cases Tc;rfl
 subst Q;have W7:g.H B=bD (.dK Y):=k2;have Rm:Y=kvs:=by have:=(n1.dk _ ⟨i,_,_,n,k1,.inl rfl⟩).2 _ g1;rw[show _=_ from k2]at this;cases this;rfl
 subst Rm;have nd:=(mh.mp k5).2;have⟨a2,ws,ys,l1,l2,l3,l4,l5,l6⟩:=da.at k3 k4 nd k6 hx;cases l3;rw[s]at l1;cases l1;have VH:g.H f=bD (.lst ws):=l4;show⟨f,ws,v,rfl,rfl,VH,by rw[<-l5.len];show hz,?_⟩;have Hj:f≠B:=λz=>(mh.mp k5).1 (z▸l2);have⟨GX,n2⟩:=Ok.EA (c:={g with S:=S',st:=st' }) (H':=upd g.H f (.lst (ws++[v]))) (u':=.Gp JL (iV JL GZ y (.lst (xs++[u])))) (as':=g.kid i) T (t.nx.trans n1).toNs n k1
  (λa ne=>aj λz=>ne ⟨_,_,n,k1,.inr (z▸l2)⟩) (λa o e=>by
   by_cases hz:a=f
   .subst hz;show⟨_,aw⟩
   .rw[aj hz];show⟨o,e⟩)
  (λmv=>⟨Y,by rw[aj (ro Hj)];show k2,k3,k4,k5,cj.fr (T.dd.kd i _ _ n k1),l6 _ _ _ mv aw ((l5.mv mv).snoc (m.mv mv)) λb _ ne=>aj ne⟩)
  (λa G=>.inl G)
 have z:=q _ rfl GX n2 (Kept.of (t'.hσ.trans t.hσ));rw[<-t'.hσ];show z
end
section
def xi{st:av}(h:W (QS u) st Q):∃ks us,u=.Gp ks us/\Q () st:=by
 cases u<;>first|show(bf.mp h).elim|skip
 show⟨_,_,rfl,ao.mp h⟩
def mH{st:av}(h:W (n9 x) st Q):∃j,x.2=.int j/\Q j st:=by
 unfold n9 at h;split at h
 .rename_i y e;rw[ao]at h;show⟨y,e,h⟩
 .show(bf.mp h).elim
def mI{st:av}(h:W (pP i) st Q):∃k us,k.root=b6/\st[i]?=bD (bD (k,.lst us))/\Q us st:=by
 have⟨r,st',e,q⟩:=h;unfold pP at e;split at e
 .rename_i k us hs;split at e
  .rename_i hk;cases e;show⟨k,_,hk,hs,q⟩
  .cases e
 .cases e
theorem pT:∀{ks:List Str}{us:List U},y∈ks->ks.length=us.length->dv ks us y=cb->False
 |[],us,h,_,_=>by cases h
 |k::ks,[],_,h,_=>by simp at h
 |k::ks,u::us,h,hl,e=>by
  by_cases hk:k=y
  .simp[dv,hk]at e
  .simp only[dv,Zn hk]at e;rcases gs.mp h with h|h
   .show hk h.symm
   .show pT h (by simpa using hl) e
def xj{i:Nat}{x:Str}{G:Pos}(hu:X.A.units+60<Jq)(hN:X.N[i]?=bD x)(hv:HX X.env.scope x)(hd:(x==("__debug__":Str))=cK)(G3:(x==("__classdict__":Str))=cK)
  (ha:PE X a (Gz C ma)) (hb:PE X b (Gz C mb)) (hm:M2 X (.Name x G) "get" e a b F') :
  PE X (.Call (.Attribute (.Name x G) "get" e) [a,b] [] F') (Gz C (cY i >>= λx=>QS x.2 >>= λ_=>ma >>= λy=>jH y >>= λy=>mb >>= λz=>lift z >>= λu=>cY i >>= λx=>M.GQ (zy x y u))):=by
 rintro f s σ H Q I ⟨c0,rfl,rfl,p,h⟩;show vV ⋯ (bT hN hv hd G3) ha hb hm f s c0.σ c0.H Q I ?_;rw[ah]at h;have⟨k0,u0,Rn,Hz,h⟩:=cH h;have⟨v0,J,t0⟩:=p.slot Rn Hz;rw[ah]at h;have⟨Ta,Rj,L,h'⟩:=xi h
 dsimp only at L
 subst L;obtain⟨B,LX,rfl,g0,_⟩:=t0.dict p;show⟨.ref B,J,B,rfl,.inl ⟨LX,.inl g0⟩,?_⟩;show aT p h' λry c vy t w=>?_;rw[ah]at w;have⟨ky,uy⟩:=ry;have⟨y,O,w1⟩:=fZ w
 dsimp only at O
 subst O;have ev:vy=.str y:=t.rx.str t.ok;subst ev;rw[<-t.hσ];show aT t.ok w1 λz g vz j T=>?_;rw[ah]at T;obtain⟨S',st',u,sS,D,n1,l,Y,_,_⟩:=iq t.ok j.ok j.nx j.rx.w T;rw[ah]at Y;have⟨k,u1,VI,Ip,w5⟩:=cH Y;have⟨r,d,q⟩:=cD.mp w5;have⟨v1,e1,t1⟩:=D.slot VI Ip;have Hk:g.σ[i]?=bD (bD v1):=e1;rw[j.hσ,t.hσ,J]at Hk;cases Hk;cases u1<;>first|(simp only[zy]at d;cases d;done)|skip
 rename_i ks us;have⟨a1,kvs,ea,g1,g2,g3⟩:=t1.dict D;cases ea;have OT:g.H B=bD (.dK kvs):=g1;show⟨_,eV.k (k:=mu y) OT,?_⟩;simp only[zy]at d;have⟨l1,l2⟩:=dz (x:=y) g2 g3;have m:∀v:V,aO C c0 {g with S:=S',st:=st' } r.1 r.2 v->Q v g.H:=λv z=>q {g with S:=S',st:=st' } v (j.hσ.trans t.hσ) rfl D (t.nx.trans n1) z;cases o:dv ks us y with
 |some w =>
  rw[o]at d;cases d;have⟨v,ev,rv⟩:=l1 w o;rw[ev];show m v ?_;show aO.item (k:=if k.root=b6 then .bor i else k) rv
 |none =>
  rw[o]at d;cases d;have J6:dr kvs (mu y)=cb:=by
   cases hq:dr kvs (mu y) with
   |none=>rfl
   |some v =>
    exfalso
    rw[hq]at l2;have hy:y∈ks:=by simpa using l2.symm
    have n:ks.length=us.length:=by have h1:=Zq DD g2;have h2:=g3.len;simp at h1 h2;lia
    show pT hy n o
  rw[J6];show m vz l
def xk:DR X (λo i H Q=>∃p xs j v,o=.ref p/\i=.int j/\H p=bD (.lst xs)/\0<=j/\xs[j.toNat]?=bD v/\Q v H):=by
 rintro a s σ H o i l m Q I c d ⟨p,xs,j,v,rfl,rfl,e,f,b,q⟩;cases c;have⟨t,rfl⟩:=d;have⟨n,r,g,hz⟩:=I.list (.inl (.inl e));have⟨w,h,k⟩:=r.get b;have hl:=r.length;have u:=fz;have x:=(eh.mp b).1;show wpAny_getItem_list g.isList f ⋯ (by simpa using h) ⟨v,H,I,k,q⟩
def zZ:MV X (if sub=b6 then .Sub else .Add) (Pl (uJ sub)):=by
 cases sub with
 |true=>show BV
 |false=>show vE
def EC(hN:X.N[i]?=bD x)(hv:HX X.env.scope x)(hd:(x==("__debug__":Str))=cK)(G3:(x==("__classdict__":Str))=cK)
  (ha:PE X a (xg C ma)) (hb:PE X b (Gz C mb))
  (n:∀f g new,Zb b f g new=(do Ko [new,f,g] (QY f g new);T7 [new,f,g] [];pure .next)) :
  L2.PS X (.AugAssign (.Subscript (.Name x px) b p) (if sub=b6 then .Sub else .Add) a pos) (Hl C ns (pP i >>= λ_=>mb >>= λy=>n9 y >>= λj=>pP i >>= λus=>M.GQ (pQ us j) >>= λo=>ma >>= λz=>n9 z >>= λw=>modS i (dU (.int j) (.int (uJ sub o w))) >>= λ_=>pure .nx)):=by
 show PS.weak (yP (bT hN hv hd G3) hb xk ha zZ set_list n) ?_;rintro D σ H ⟨c0,rfl,rfl,v,h⟩;rw[ah]at h;have⟨k0,Rj,HF,Hz,h⟩:=mI h;have⟨v0,r,Jr⟩:=v.sl i _ _ Hz;obtain⟨e,rfl,_,_,_,_⟩:=Jr.rt HF;show⟨.ref e,r,?_⟩;show aT v h λry c vy t w=>?_;rw[ah]at w;have⟨ky,uy⟩:=ry;have⟨j,A,B⟩:=mH w
 dsimp only at A
 subst A;have ev:vy=.int j:=t.rx.int t.ok;subst ev;rw[ah]at B;have⟨k1,Ro,QJ,Ip,G⟩:=mI B;rw[ah]at G;have⟨o,ho,w3⟩:=cD.mp G;have⟨v1,I,VJ⟩:=t.ok.sl i _ _ Ip;obtain⟨a1,rfl,_,_,_,NK⟩:=VJ.rt QJ;rw[t.hσ,r]at I;cases I;have⟨vs,J,g2⟩:=NK;unfold pQ at ho;split at ho
 case isFalse=>cases ho
 rename_i Nl;split at ho
 case h_2=>cases ho
 rename_i o' Rp;cases ho;have⟨vo,VL,VM⟩:=g2.get Rp;have VN:vo=.int o:=VM;subst VN;show⟨e,vs,j,_,rfl,rfl,J,Nl,VL,?_⟩;rw[<-t.hσ];show uP t.ok w3 λz s vz d all2 L=>?_;rw[ah]at L;have⟨kz,uz⟩:=z;have⟨w,O,Q⟩:=mH L
 dsimp only at O
 subst O;have ev:vz=.int w:=d.rx.int d.ok;subst ev;show⟨o,w,rfl,rfl,?_⟩;rw[ah]at Q;have⟨k,u1,u2,hk,T,l,q⟩:=eI Q;rw[ao]at q;have⟨v2,u,KR⟩:=d.ok.sl i _ _ T;obtain⟨a2,rfl,_,_,_,NM⟩:=KR.rt hk;have VO:=u;rw[d.hσ,t.hσ,r]at u;cases u;have Y:s.H e=bD (.lst vs):=all2 _ _ J;cases u1 with
 |lst xs =>
  simp only[dU,gj]at l;have⟨m,Ju,rfl⟩:=l;have⟨W8,l1,l2⟩:=NM;rw[Y]at l1;cases l1;show⟨e,vs,j,m,rfl,rfl,Y,by rw[<-l2.len];show Ju,?_⟩;have⟨Jb,n3⟩:=Ok.mod (c:=s) (H':=upd s.H e (.lst (vs.set m (.int (uJ sub o w))))) (u':=.lst (xs.set m (.int (uJ sub o w)))) d.ok (t.nx.trans d.nx).toNs hk T VO (λa ne=>aj ne) ⟨_,aw⟩ λmv=>⟨_,aw,(l2.mv mv).set m rfl⟩
  have z:=q _ rfl Jb n3 (Kept.of (d.hσ.trans t.hσ));rw[<-d.hσ];show z
 |Gp ks vs=>simp[dU]at l
 |_=>simp[dU]at l
end
section
def z_{ks:List Str}(c:kvs.map (·.1)=ks.map mu)(d:kvs.map (·.2)=ns.map V.int):kvs=(ks.zip ns).map λp=>((mu p.1:Key),V.int p.2):=by
 induction kvs generalizing ks ns with
 |nil =>
  cases ks with
  |nil=>rfl
  |cons _ _=>cases c
 |cons kv kvs e =>
  cases ks with
  |nil=>cases c
  |cons k ks =>
   cases ns with
   |nil=>cases d
   |cons n ns =>
    have⟨a,b⟩:=kv;simp only[eH,L7]at c d;have⟨rfl,c⟩:=c;have⟨rfl,d⟩:=d;rw[e c d];rfl
theorem ak.of_map{S:hH->Prop}{f:α->U}{g:α->V}:∀{l:List α},(∀x∈l,Rep C S H (f x) (g x))->ak C S H (l.map f) (l.map g)
 |[],_=>rfl
 |x::l,h=>⟨g x,l.map g,rfl,h x (by simp),ak.of_map λy a=>h y (by simp[a])⟩
def Aa(Y:X.calm=b6)(hK:C.K=X.K)(hg:Gl X "sorted")(hm:X.mg "sorted"=cb)(hN:X.N[i]?=bD x)(hv:HX X.env.scope x)(hd:(x==("__debug__":Str))=cK)(G3:(x==("__classdict__":Str))=cK)(GI:(b.endLine==l.line)=b6):
  PE X (.Call (.Name "sorted" p) [.Call (.Attribute (.Name x n) "items" b) [] [] l] [] pos) (Gz C (cY i >>= λx=>M.GQ (wH x.2))):=by
 rintro f s σ H Q I ⟨c0,rfl,rfl,m,h⟩;show u3 (d4 I hg hm (show G8 "sorted"=bD (.builtin "sorted") by decide +kernel) ?_ (by decide +kernel) (by decide +kernel));rw[ah]at h;have⟨k0,u0,Rn,Hz,h⟩:=cH h;have⟨v0,e0,t0⟩:=m.slot Rn Hz;have⟨r,c,k⟩:=cD.mp h
 dsimp only at c
 unfold wH at c;split at c
 rotate_left
 .cases c
 rename_i ks us;rw[rz]at c;have⟨ns,en,c⟩:=c;split at c
 rotate_left
 .cases c
 rename_i Rq;cases c;have⟨IH,GR,u⟩:=Rq;have⟨d,kvs,rfl,B,HF,D⟩:=t0.dict m;rw[jq en]at D;have Rm:=z_ HF (ak.ints D);subst Rm;have ek:((ks.zip ns).map (·.1))=ks:=XH ⋯;have g:et (hE X.prog X.w) X.A (vr (.Call (.Attribute (.Name x n) "items" b) [] [] l) X.env) (λv s1=>et (hE X.prog X.w) X.A (MR (.builtin "sorted") [v]) (EP X f c0.σ Q) X.xe s1) X.xe s:=by
  show QB rfl GI (Gv (bT hN hv hd G3 f s c0.σ c0.H (λv G=>v=.ref d/\G=c0.H) I ⟨_,e0,rfl,rfl⟩) λv s1 Rr=>?_);have⟨x1,G,J,r1,z1,z2⟩:=Rr;subst z1 z2;cases(show v=kr d from r1);have⟨h1,h2⟩:=nI (T:="dict") J (x:=.ref d) rfl (.inr (.inr (.inl ⟨rfl,.inl ⟨_,B⟩⟩)));show⟨"dict","dict.items",PySem.F.plainAttrs_dict,PySem.F.slot_dict_items,PySem.F.type_dict_items,h1,h2,GV rfl (PySem.evalArgs_none (nY Y J B (by rw[ek];show GR) (by rw[Td];lia) λas L hl nd O hL=>?_))⟩;have q:c0.H L=cb:=O L (by simp);have VP:(as.zip ((ks.zip ns).map Kg)).map (·.1)=as:=XH (by rw[c4];lia);have VQ:∀p∈as.zip ((ks.zip ns).map Kg),p.1∈as:=λp t=>(Oa t).1;have same:y9 c0.H (upd (jG c0.H (as.zip ((ks.zip ns).map Kg))) L (.lst ((jE ((ks.zip ns).map (·.1))).map λi=>V.ref (as.getD i 0)))):=λa o e=>by
   have n1:a≠L:=λy=>by rw[y,q]at e;cases e
   rw[aj n1,kF λp t y=>?_]
   .show e
   .have:=O p.1 (by simp[VQ p t]);rw[y,e]at this;cases this
  have⟨GJ,n'⟩:=m.grow (S':=c0.S) same (λa z=>.inl z) λa z=>z;have⟨q1,q2,q3,q4,q5⟩:=m.iU q;show k {c0 with H:=upd (jG c0.H (as.zip ((ks.zip ns).map Kg))) L (.lst ((jE ((ks.zip ns).map (·.1))).map λi=>V.ref (as.getD i 0))),S:=c0.S} _ rfl rfl GJ n' ⟨L,rfl,q,q2,q5,_,aw,?_⟩;change ak C c0.S _ ((zu (ks.zip ns)).map uH) _;unfold zu;rw[i0];show ak.of_map λj hj=>?_;have Ju:j<(ks.zip ns).length:=by
   have:=va.mp ((fV _).mem_iff.mp hj);rw[c4]at this;show this
  have QO:j<as.length:=by lia
  have e1:(ks.zip ns).getD j (ti,0)=(ks.zip ns)[j]:=(List.getElem_eq_getD _).symm;have e2:as.getD j 0=as[j]:=by simp[L6,QO]
  change Rep C c0.S _ (uH ((ks.zip ns).getD j (ti,0))) (V.ref (as.getD j 0));rw[e1,e2];show⟨as[j],Kg (ks.zip ns)[j],rfl,Hb.of ?_,⟨_,_,rfl,rfl,_,_,rfl,rfl,rfl⟩⟩;have Hj:as[j]≠L:=λy=>hL (by rw[<-y];simp);show(aj Hj).trans (sF (by rw[VP];show nd) (vs:=Kg (ks.zip ns)[j]) ?_);show WH.mpr ⟨j,by rw[Td,c4];lia,?_⟩;rw[List.getElem_zip,XJ]
 have eb:Ht pos (i5 [.Call (.Attribute (.Name x n) "items" b) [] [] l] X.env)=[(cK,vr (.Call (.Attribute (.Name x n) "items" b) [] [] l) X.env)]:=rfl;have VR:NY pos (JQ [] X.env)=[]:=rfl;rw[eb,VR];show oj g
end
section
def sU(f:X.calm=b6)(g:C.K=X.K)(i:Gl X "set")(j:X.mg "set"=cb)(m:PE X a (Gz C n))(hs:i5 [a] X.env=[(cK,vr a X.env)])(I:Inv X b c0.σ c0.H s)(r:Ok C c0)
  (h:W (n >>= λx=>M.GQ (gL x.2) >>= k) c0.st u)
  (y:∀(S:hH) (o:Obj) (s1:hh) (D:List Str) (c:Cf),c.σ=c0.σ->Ok C c->Nx c0 c->s1.heap.get? S=bD o->aL X.prog X.w s1.heap S (aC X.w) D->Inv X ((S,o)::b) c.σ c.H s1->W (k D) c.st u->(∀q∈b,q.1≠S)->Q (.ref S) s1) :
  et (hE X.prog X.w) X.A (vr (.Call (.Name "set" p) [a] [] pos) X.env) Q X.xe s:=by
 show u3 (d4 I i j (show G8 "set"=bD (.type "set") by decide +kernel) ?_ (by decide +kernel) (by decide +kernel));have B:Ht pos (i5 [a] X.env)=[(cK,vr a X.env)]:=by rw[hs];rfl
 have G:NY pos (JQ [] X.env)=[]:=rfl;rw[B,G];show sQ (one m I r h λx c vx v s2 t d rv w=>?_);rw[ah]at w;have⟨D,e,w⟩:=cD.mp w;have⟨l,ys,rfl,J,L,rfl⟩:=mE g t.ok t.rx e;cases rv;show qN f d J L λS o s1 hsz N O T=>y S o s1 _ c t.hσ t.ok t.nx N O T w λq Y z=>by
  have:=gc (d.pin q (kj _ Y)).1;rw[z]at this;show absurd (i9 this hsz) (uv _)
def Ab(n:X.calm=b6)(D:C.K=X.K)(G:Gl X (if ln=b6 then "len" else "sorted"))(J:X.mg (if ln=b6 then "len" else "sorted")=cb)(L:Gl X "set")(N:X.mg "set"=cb)(ha:PE X a (Gz C ma))(hb:PE X b (Gz C mb))(VS:i5 [a] X.env=[(cK,vr a X.env)])(Jw:i5 [b] X.env=[(cK,vr b X.env)]):
  PE X (.Call (.Name (if ln=b6 then "len" else "sorted") p) [.BinOp (.Call (.Name "set" t) [a] [] u) .Sub (.Call (.Name "set" p2) [b] [] pos2) d] [] pos)
   (Gz C (ma >>= λx=>M.GQ (gL x.2) >>= λd1=>mb >>= λy=>M.GQ (gL y.2) >>= λd2=>M.GQ (pK ln d1 d2))):=by
 rintro f s σ H Q I ⟨c0,rfl,rfl,ok,h⟩;have g:et (hE X.prog X.w) X.A (vr (.BinOp (.Call (.Name "set" t) [a] [] u) .Sub (.Call (.Name "set" p2) [b] [] pos2) d) X.env) (λv s1=>et (hE X.prog X.w) X.A (MR (.builtin (if ln=b6 then "len" else "sorted")) [v]) (EP X f c0.σ Q) X.xe s1) X.xe s:=by
  show wpAny_BinOp (sU n D L N ha VS I ok h λS1 O s1 D1 c1 VT GA VU Ke JY I1 w1 Ms=>?_);show sU n D L N hb Jw I1 GA w1 λS2 o2 s2 D2 j VV T VW Mu Mw z w2 Mp=>?_;have⟨r,m,k⟩:=cD.mp w2;have Rt:=(z.pin (S1,O) (kj _ (by simp))).1;have Ru:aL X.prog X.w s2.heap S1 (aC X.w) D1:=JY.at λo e=>by rw[Ke]at e;cases e;show Rt
  have Hj:S1≠S2:=Mp (S1,O) (by simp);have nx:Nx c0 j:=VU.trans VW;have B:j.σ=c0.σ:=VV.trans VT;have I3:Inv X f j.σ j.H s2:=z.dW λq hq=>z.pin q (kj _ (by simp[hq]));unfold pK at m;split at m
  rotate_left
  .cases m
  rename_i i;show L2.zi Hj Ru Mw i.1 i.2 λh' hk Y=>?_;have I4:Inv X f j.σ j.H {s2 with heap:=h' }:=I3.kept (t':=s2.toks) hk;rw[<-B];cases ln with
  |true =>
   cases m;show qL I4 Y (b9.flat (c:=j) k B T nx rfl)
  |false =>
   cases m;show gx n I4 Y (XC (lg _ _) i.1) λl hl=>b9.list (c:=j) k B T nx (ak.strs.mpr rfl) l hl
 have eb:Ht pos (i5 [.BinOp (.Call (.Name "set" t) [a] [] u) .Sub (.Call (.Name "set" p2) [b] [] pos2) d] X.env)=[(cK,vr (.BinOp (.Call (.Name "set" t) [a] [] u) .Sub (.Call (.Name "set" p2) [b] [] pos2) d) X.env)]:=rfl;have ek:NY pos (JQ [] X.env)=[]:=rfl;cases ln with
 |true =>
  show u3 (d4 I G J (show G8 "len"=bD (.builtin "len") by decide +kernel) ?_ (by decide +kernel) (by decide +kernel));rw[eb,ek];show oj g
 |false =>
  show u3 (d4 I G J (show G8 "sorted"=bD (.builtin "sorted") by decide +kernel) ?_ (by decide +kernel) (by decide +kernel));rw[eb,ek];show oj g
end
section
def Ok.ED(b:Ok C c)(m:c.st[i]?=bD (bD (.own,u)))(p:c.σ[i]?=bD (bD (.ref r))):Ok C {c with H:=upd c.H r o',st:=c.st.set i cb}/\Ns c {c with H:=upd c.H r o',st:=c.st.set i cb}/\¬({c with H:=upd c.H r o',st:=c.st.set i cb}:Cf).R r:=by
 have Hq:i<c.st.length:=(eh.mp m).1;have x:c.R1 r:=⟨i,.own,u,rfl,m,p⟩
 have⟨s,z2,z3,o,z4,z5⟩:=b.root (.inl x);have J:C.H₀ r=cb:=by
  obtain⟨v,f,h,t,_,_,q,_⟩:=b.sl i _ _ m;rw[p]at f;cases f;cases t;show q
 have l:∀(j:Nat) k w,(c.st.set i cb)[j]?=bD (bD (k,w))->j≠i/\c.st[j]?=bD (bD (k,w)):=λj k w e=>by
  by_cases A:j=i
  .subst A;rw[ez Hq]at e;cases e
  .rw[i1 (ro A)]at e;show⟨A,e⟩
 have b1:∀a,({c with H:=upd c.H r o',st:=c.st.set i cb}:Cf).R1 a->c.R1 a/\a≠r:=λa GK=>by
  have⟨j,k,w,hk,f,g⟩:=GK;have⟨B,L⟩:=l j k w f;show⟨⟨j,k,w,hk,L,g⟩,λz=>?_⟩;subst z;show B (b.inj j i k .own w u a hk rfl L m g p)
 have N:∀j a,({c with H:=upd c.H r o',st:=c.st.set i cb}:Cf).RD j a->c.RD j a:=λj a ⟨w,h,f,g,D⟩=>⟨w,h,(l j _ w f).2,g,D⟩
 have O:∀j a,c.RD j a->a≠r:=λj a z e=>by subst e;show b.dd.d1 j a z x
 have G:∀S:hH->Prop,¬S r->Mv S c.H S (upd c.H r o'):=λS hS=>⟨λa z=>z,λa d e tp=>by
  have:a≠r:=λz=>by subst z;rw[z4]at e;cases e;show z5 tp
  rw[aj this];show e,λa d z e=>by
  have:a≠r:=λy=>by subst y;show hS z
  rw[aj this];show e⟩
 have hP:¬PS C c.S r:=λz=>z.elim z2 s;show⟨⟨λa d e Ho=>?_,λa z=>?_,b.par,λa z=>?_,by simp[b.len],λj k w e=>?_,λj1 j2 k1 k2 w1 w2 h h1 h2 f g D e4=>b.inj j1 j2 k1 k2 w1 w2 h h1 h2 (l _ _ _ f).2 (l _ _ _ g).2 D e4,?_⟩,⟨λa d e hR=>?_,λa d e=>?_,λa z=>?_,λa z=>z,λa z=>.inl z⟩,λz=>?_⟩
 .have:a≠r:=λy=>by subst y;rw[J]at e;cases e
  change upd c.H r o' a=_;rw[aj this];show b.same a d e Ho
 .have⟨n,d,I⟩:=b.Iy a z;have:a≠r:=λy=>by subst y;show s z
  show⟨n,d,by change upd c.H r o' a=_;rw[aj this];show I⟩
 .obtain⟨⟨d,n⟩,VX,I⟩:=b.io a z;have:a≠r:=λy=>by subst y;rw[J]at n;cases n
  show⟨⟨d,n⟩,VX,by change upd c.H r o' a=_;rw[aj this];show I⟩
 .have⟨B,Q⟩:=l j k w e;have⟨v,f,g⟩:=b.sl j k w Q;show⟨v,f,g.mv (G _ s) (G _ hP) λhk h t=>?_⟩;obtain⟨ND,T,y1,_⟩:=g.rt hk;rw[t]at T;cases T;have:h≠r:=λy=>by subst y;show B (b.inj j i k .own w u h hk rfl Q m (by rw[f,t]) p)
  show⟨y1,λd q=>by change upd c.H r o' h=_;rw[aj this];show q⟩
 .show b.dd.of rfl (λj w e=>⟨(l j _ w e).2,rfl⟩) (λa z=>.inl (b1 a z).1) (G _ s) λj a z=>⟨(b.root (.inr ⟨j,z⟩)).1,λd q=>by change upd c.H r o' a=_;rw[aj (O j a z)];show q⟩
 .have:a≠r:=λy=>by subst y;show hR (.inl x)
  change upd c.H r o' a=_;rw[aj this];show e
 .by_cases Y:a=r
  .subst Y;show⟨o',aw⟩
  .show⟨d,by change upd c.H r o' a=_;rw[aj Y];show e⟩
 .rcases z with z|⟨j,z⟩
  .show .inl (.inl (b1 a z).1)
  .show .inl (.inr ⟨j,N j a z⟩)
 .rcases z with z|⟨j,z⟩
  .show(b1 r z).2 rfl
  .show O j r (N j r z) rfl
def xl(u:c.H r=bD (.HJ o (.dK kvs)))(w:¬c.R r)(y:Ok C c)(hk:kvs.map (·.1)=ks.map mu)(z:ak C c.S c.H us (kvs.map (·.2))):Walk C c [] (nZ (ks,us)) (QG r o kvs):=by
 intro b k n N hs;have l:=n.keep r _ u w;have m:=z.mv (y.mv n);have O:kvs.length=ks.length:=by rw[<-c4 (f:=(·.1)),hk,c4]
 have Q:us.length=kvs.length:=by rw[m.len,c4]
 have T:(nZ (ks,us)).length=kvs.length:=by
  unfold nZ;rw[c4,Td];change min ks.length us.length=_;lia
 show⟨λi q d=>?_,λi a=>⟨l,⋯⟩⟩;unfold nZ at d;rw[i8,gj]at d;have⟨p,A,rfl⟩:=d;have⟨s,B⟩:=List.getElem?_zip_eq_some.mp A;have⟨v,e,g⟩:=m.get B;have a:i<kvs.length:=by
  have:i<ks.length:=(eh.mp s).1;lia
 have D:kvs[i]?=bD (mu p.1,v):=by
  rw[i8,nC a]at e;have h:(kvs.map (·.1))[i]?=(ks.map mu)[i]?:=by rw[hk]
  rw[i8,i8,nC a,s]at h;rw[nC a];simp only[P6,N7]at h e;rw[<-h,<-e]
 show⟨.inl rfl,⟨l,a⟩,λx H' j=>?_⟩;have⟨q,G,rfl,j⟩:=j;have I:=j _ _ D;subst I;have⟨J,t⟩:=k.lay (o:=.tup [kV (mu p.1),v]) G;show⟨{b with H:=upd b.H q (.tup [kV (mu p.1),v])},rfl,rfl,rfl,J,t,?_⟩;have L:ak C b.S b.H [.str p.1,p.2] [kV (mu p.1),v]:=⟨_,_,rfl,rfl,_,_,rfl,g,rfl⟩
 show⟨q,_,rfl,Hb.of aw,L.mv (k.mv t)⟩
def C5(A:X.N[i]?=bD x)(B:HX X.env.scope x)(G:(x==("__debug__":Str))=cK)(J:(x==("__classdict__":Str))=cK)(L:(g.endLine==O.line)=b6)
  (S:dB X N own scope) (T:X.calm=b6) (hl:own.length=2) (Y:∀D s H ex,PG (Hs X N scope D s H ex) (.Tuple es kx ps) (tG C b6 (hW own.length))) (he:∀D s H ex,PE (Hs X N scope D s H ex) elt (Gz C me)) :
  L2.PS X (.Return (bD (.ListComp elt [⟨.Tuple es kx ps,.Call (.Attribute (.Name x px) "items" g) [] [] O,[],0⟩] scope pos)) VZ) (Hl C ns (pO i >>= λd=>bH 2 b6 (pure b6) me [] (nZ d) [] >>= λus=>retS (.own,.lst us))):=by
 show PS.weak (vA (Cp (sk S T (wz A B G J L) Y (λD s H ex=>show Kc _ [] (HC C (pure b6)) from λj s σ H Q I ⟨c0,f,e2,k,w⟩=>nK j s σ H Q I (by subst f e2;rw[ao]at w;show w c0 rfl rfl k (Nx.refl c0))) he))) ?_;rintro D σ H ⟨c0,rfl,rfl,k,h⟩;rw[ah]at h;have⟨d,st',e,h⟩:=h;unfold pO at e;split at e
 rotate_left
 .cases e
 rename_i ks us l;cases e;have⟨v,f,r,er⟩:=k.sl i _ _ l;subst er;have⟨kvs,t,g2,g3,g4,g5,g6⟩:=k.dd.kd i _ r l f;show⟨r,kvs,t,λo=>?_⟩;have⟨GA,n1⟩:=Ok.EB k (Nx.refl c0) l f;have Hq:i<c0.st.length:=(eh.mp l).1;have⟨GX,n2,nR⟩:=Ok.ED (o':=.HJ o (.dK kvs)) GA (i:=i) (u:=.Gp ks us) (r:=r) (by change(c0.st.set i _)[i]?=_;rw[ez Hq]) f;let b:Cf:={S:=λa=>c0.S a\/a∈c0.kid i,H:=upd c0.H r (.HJ o (.dK kvs)),σ:=c0.σ,st:=c0.st.set i cb,kid:=c0.kid}
 have Q6:(c0.st.set i (bD (Kd.own,U.Gp ks us))).set i cb=c0.st.set i cb:=by rw[List.set_set]
 have m:({ ({c0 with S:=λa=>c0.S a\/a∈c0.kid i,st:=c0.st.set i (bD (.own,.Gp ks us))}:Cf) with H:=upd c0.H r (.HJ o (.dK kvs)),st:=(c0.st.set i (bD (Kd.own,U.Gp ks us))).set i cb}:Cf)=b:=by rw[Q6]
 have p:Ok C b:=m▸GX;have V0:Ns c0 b:=n1.toNs.trans (m▸n2);have V1:¬b.R r:=m▸nR;have HL:ak C b.S b.H us (kvs.map (·.2)):=by
  rw[g3];have:=(da.rep (S':=b.S) (λa=>.inl) (λa ha=>.inr ha) g6).mv (show Mv b.S c0.H b.S b.H from⟨λa z=>z,λa ob q tp=>?_,λa ob z q=>?_⟩)
  .show this
  .have:a≠r:=λy=>by subst y;rw[t]at q;cases q;show tp
   change upd c0.H r _ a=_;rw[aj this];show q
  .have:a≠r:=λy=>by
    subst y;rcases z with z|z
    .show(g5 a (by simp)).1 z
    .show(mh.mp g4).1 z
   change upd c0.H r _ a=_;rw[aj this];show q
 show⟨r,o,kvs,f,aw,?_⟩;rw[hl];show mF (c0:=b) (c1:=b) (rs:=[]) (xs:=nZ (ks,us)) rfl p (Nx.refl b) (xl aw V1 p g2 HL) ?_;rw[ah]at h;show h.mono λvs st2 w=>?_;rw[show retS (.own,.lst vs)=pure (.rt .own (.lst vs)) from rfl,ao]at w;rw[ao];intro c v hσ Gy GY n rt;have⟨r0,e,h1,h2,h3,h4⟩:=rt;show w c Gy GY (V0.trans n.toNs) (Kept.of hσ) v ⟨r0,e,(p.iU h1).1,h2,h3,h4⟩
end
section
variable{X:Cx}{C:Ct}{a:my}{ma:M (Kd×U)}{apos F':Pos}{i:Nat}{x:Str}{px:Pos}
def Ok.Bd(b:Ok C c)(hk:k.root=b6)(hs:c.st[i]?=bD (bD (k,.lst us))):∃a vs,c.σ[i]?=bD (bD (.ref a))/\c.H a=bD (.lst vs)/\ak C c.S c.H us vs:=by
 have⟨v,d,e⟩:=b.sl i k _ hs;obtain⟨r,rfl,_,_,_,vs,f,g⟩:=e.rt hk;show⟨r,vs,d,f,g⟩
theorem ak.eraseIdx{S:hH->Prop}:∀{us:List U}{vs:List V} (n:Nat),ak C S H us vs->ak C S H (us.eraseIdx n) (vs.eraseIdx n)
 |[],_,n,h=>by cases h;simp[ak]
 |u::us,vs,0,h=>by
  have⟨v,r,rfl,c,b⟩:=h;show b
 |u::us,vs,n+1,h=>by
  have⟨v,r,rfl,c,b⟩:=h;show⟨v,_,rfl,c,b.eraseIdx n⟩
def Ok.out(g:Ok C c)(n:Nx c0 c)(q:c.σ=c0.σ)(hk:k.root=b6)(hs:c.st[i]?=bD (bD (k,.lst us)))(h:c.σ[i]?=bD (bD (.ref r)))(s:ak C c.S c.H f b)(y:Rep C c.S c.H u v)(w:b9 C c0 Q (.loc,u) (c.st.set i (bD (k,.lst f)))):Q v (upd c.H r (.lst b)):=by
 have A:Mv c.S c.H c.S (upd c.H r (.lst b)):=by
  have⟨v',d,l⟩:=g.sl i k _ hs;rw[h]at d;cases d;obtain⟨p,B,D,_,_,G⟩:=l.rt hk;cases B;have⟨o,ho,I⟩:=G.some;show⟨λ_ z=>z,λa o' e t=>by rw[aj (λz=>by subst z;rw[ho]at e;cases e;show I t)];show e,λa o' z e=>by rw[aj (λJ=>by subst J;show D z)];show e⟩
 have⟨L,N⟩:=g.mod (H':=upd c.H r (.lst b)) (u':=.lst f) n.toNs hk hs h (λa O=>aj O) ⟨_,aw⟩ λT=>⟨b,aw,s.mv T⟩
 have Y:∀a,({c with H:=upd c.H r (.lst b),st:=c.st.set i (bD (k,.lst f))}:Cf).MC a->c0.MC a/\∀o,c0.H a=bD o->upd c.H r (.lst b) a=bD o:=λa GK=>by
  have⟨j,u',p,d,l,e3⟩:=GK;have hj:j≠i:=λz=>by
   subst z;rw[ez (eh.mp hs).1]at d;cases d;cases hk
  have Hk:c.st[j]?=bD (bD (.Gm,u')):=by rw[<-d];show(i1 (ro hj)).symm
  have m:c.RD j a:=⟨u',p,Hk,l,e3⟩
  have QK:a≠r:=λz=>g.dd.d1 j a m (z▸⟨i,k,_,hk,hs,h⟩);show⟨(n.dk a ⟨j,m⟩).1,λo e=>by rw[aj QK];show(n.dk a ⟨j,m⟩).2 o e⟩
 show w {c with H:=upd c.H r (.lst b),st:=c.st.set i (bD (k,.lst f))} v q rfl L ⟨N,Y⟩ (y.mv A)
def Ac(g:X.N[i]?=bD x)(j:HX X.env.scope x)(l:(x==("__debug__":Str))=cK)(m:(x==("__classdict__":Str))=cK)(n:(apos.endLine==F'.line)=b6)(o:C.K=X.K):
  PE X (.Call (.Attribute (.Name x px) "pop" apos) [] [] F') (Gz C (wJ i)):=by
 show PE.weak (vL PySem.F.plainAttrs_list PySem.F.slot_list_pop PySem.F.type_list_pop B4 (bT g j l m) rfl n) ?_;rintro σ H Q ⟨c0,rfl,rfl,c,h⟩;have⟨r,st',e,w⟩:=h;unfold wJ at e;split at e
 .rename_i k us hs;split at e
  .rename_i hk;split at e
   .rename_i u q;cases e;have⟨p,vs,d,f,b⟩:=c.Bd hk hs;have⟨v,s,t⟩:=b.get q;have hl:=b.len;show⟨_,d,.inl ⟨rfl,vs,o▸G2.of f⟩,p,vs,v,rfl,rfl,f,by rw[<-hl];show s,?_⟩;show c.out (Nx.refl c0) rfl hk hs d ?_ t w;rw[WA,WA,hl];show b.take _
   .cases e
  .cases e
 .cases e
def EE(b:0<=j)(h:j.toNat<n):U3 j n=bD j.toNat:=by
 simp only[U3];rw[Zn (show ¬j<0 by lia),Zm (by rw[cc,Zl,Zl];lia)]
def uQ{st:av}(h:W (zx i u) st Q):∃(j:Int) (k:Kd) (us:List U) (y:U),u=.int j/\k.root=b6/\0<=j/\j<1000000/\st[i]?=bD (bD (k,.lst us))/\us[j.toNat]?=bD y/\Q (.loc,y) (st.set i (bD (k,.lst (us.eraseIdx j.toNat)))):=by
 have⟨r,st',e,w⟩:=h;cases u with
 |int j =>
  unfold zx at e
  dsimp only at e
  split at e
  .rename_i k us hs;split at e
   .rename_i hk;split at e
    .rename_i y b;cases e;show⟨j,k,us,y,rfl,hk.1,hk.2.1,hk.2.2,hs,b,w⟩
    .cases e
   .cases e
  .cases e
 |_=>cases e
def xm(o:C.K=X.K)(q:X.N[i]?=bD x)(s:HX X.env.scope x)(u:(x==("__debug__":Str))=cK)(A:(x==("__classdict__":Str))=cK)(B:PE X a (Gz C ma))
  (D:((Ht F' (i5 [a] X.env)).all (λx=>!x.1)&&(NY F' (JQ [] X.env)).all (λx=>x.1.isSome)
   && cL ([a].length+([]:List LZ).length+(if ([]:List LZ).isEmpty then 0 else 1)<30))=b6)
  (G:(apos.endLine==F'.line)=b6) (e:i5 [a] X.env=[(cK,vr a X.env)]) :
  PE X (.Call (.Attribute (.Name x px) "pop" apos) [a] [] F') (Gz C (cY i >>= λx=>KG x.2 >>= λ_=>ma >>= λy=>zx i y.2)):=by
 show PE.weak (sd PySem.F.plainAttrs_list PySem.F.slot_list_pop PySem.F.type_list_pop vO (bT q s u A) (g9 B j6 e) rfl D G e rfl) ?_;rintro σ H Q ⟨c0,rfl,rfl,b,h⟩;rw[ah]at h;have⟨k0,I,J,L,h⟩:=cH h;have⟨O,f,T⟩:=b.slot J L;show⟨O,f,?_⟩;cases I with
 |lst Y =>
  rw[ah,show KG (U.lst Y)=pure () from rfl,ao]at h;obtain⟨a0,MG,d,Mo,_⟩:=T.list b;show⟨by rw[d];show .inl ⟨rfl,MG,o▸Mo⟩,?_⟩;show aT b h λr c v t w=>?_;have⟨j,k,us,y,ej,hk,j0,j1,hs,hu,w⟩:=uQ w;have⟨p,vs,g,h2,l⟩:=t.ok.Bd hk hs;have hp:p=a0:=by
   have:=g;rw[t.hσ,f,d]at this;cases this;rfl
  subst hp;have⟨z,m,g2⟩:=l.get hu;have J4:j.toNat<vs.length:=(eh.mp m).1;have n:=t.rx;rw[ej]at n;have ev:=n.int t.ok;show⟨p,vs,j,j.toNat,z,d,by rw[ev],h2,YY (by decide) j0,Int.lt_trans j1 (by decide),EE j0 J4,m,t.ok.out t.nx t.hσ hk hs g (l.eraseIdx _) g2 w⟩
 |_=>rw[ah]at h;show(bf.mp h).elim
end
section
def EF(g:C.K=X.K)(j:X.N[i]?=bD x)(l:HX X.env.scope x)(m:(x==("__debug__":Str))=cK)(n:(x==("__classdict__":Str))=cK)(o:(b.endLine==p.line)=b6):
  L2.PS X (.Expr (.Call (.Attribute (.Name x z) "clear" b) [] [] p) pos) (Hl C ns (modS i CF >>= λ_=>pure .nx)):=by
 show PS.weak (gX (vL PySem.F.plainAttrs_list PySem.F.slot_list_clear PySem.F.type_list_clear vP (bT j l m n) rfl o)) ?_;rintro D σ H ⟨c0,rfl,rfl,c,h⟩;rw[ah]at h;have⟨k,s,A,hk,hs,d,q⟩:=eI h;cases s with
 |lst us =>
  cases d;have⟨v,e,t⟩:=c.sl i k _ hs;obtain⟨r,rfl,_,_,_,vs,f,B⟩:=t.rt hk;show⟨_,e,.inl ⟨rfl,vs,g▸G2.of f⟩,r,vs,rfl,rfl,f,?_⟩;rw[ao]at q;have⟨u,w⟩:=c.mod (H':=upd c0.H r (.lst [])) (u':=.lst []) (Ns.refl c0) hk hs e (λa y=>aj y) ⟨_,aw⟩ λG=>⟨[],aw,rfl⟩
  show q _ rfl u w Kept.refl
 |_=>cases d
end
@[reducible]def J7(P:wh)(w:G1)(K:PySem.W.Frag)(H:Hp)(a IO:hH->Prop):Ct:=⟨P,w,K,H,a,IO⟩
structure Be(C:Ct)(H H':Hp)(S':hH->Prop)(is:List Nat)(vs:List V)(ws:List U)(k:Kd)(u:U)(v:V):Prop where
 same:∀a o,H a=bD o->¬C.IO a->H' a=bD o
 new:∀a,S' a->H a=cb/\∃o,H' a=bD o
 own:k=.own->∃r,v=.ref r/\H r=cb/\¬S' r/\cQ C S' H' r u
 loc:k=.loc->Rep C S' H' u v
 len:ws.length=is.length
 Iz:∀(n i:Nat) (r:hH) (w:U),is[n]?=bD i->vs[i]?=bD (.ref r)->ws[n]?=bD w->cQ C S' H' r w
structure C6(C:Ct)(H:Hp)(is:List Nat)(us:List U)(vs:List V):Prop where
 len:us.length=vs.length
 par:∀a,C.IX a->Ig H a/\¬C.IO a
 Tg:∀a,C.IO a->Ig H a
 io:∀(i:Nat) (u:U),i∈is->us[i]?=bD u->∃r,vs[i]?=bD (.ref r)/\C.IO r/\cQ C (λ_=>False) H r u
 any:∀(i:Nat) (u:U),i∉is->us[i]?=bD u->∃v,vs[i]?=bD v/\Rep C C.IX H u v
 inj:∀(i j:Nat) (r:hH),i∈is->j∈is->vs[i]?=bD (.ref r)->vs[j]?=bD (.ref r)->i=j
 Iz:∀a,C.IO a->∃i∈is,vs[i]?=bD (.ref a)
abbrev OV(P:wh)(w:G1)(K:PySem.W.Frag)(F:List U->Option (Ex (Kd×U)))(b:Nat)(is:List Nat):Sp:=λvs H Q _=>vs.length=b/\∃us k u ws a IO,F us=bD (.ok (k,.tup (u::ws)))/\(k=.own\/k=.loc)/\C6 (J7 P w K H a IO) H is us vs /\
 ∀v H' S',Be (J7 P w K H a IO) H H' S' is vs ws k u v->Q v H'
theorem map_inj:∀{l:List α},(l.map f).Nodup->∀x∈l,∀y∈l,f x=f y->x=y
 |[],_,_,h,_,_,_=>by cases h
 |a::l,h,x,g,y,c,e=>by
  rw[eH,mh]at h;rcases gs.mp g with d|h1
  .rcases gs.mp c with b|h2
   .rw[d,b]
   .show absurd (i7.mpr ⟨y,h2,by rw[<-e,d]⟩) h.1
  .rcases gs.mp c with b|h2
   .show absurd (i7.mpr ⟨x,h1,by rw[e,b]⟩) h.1
   .show map_inj h.2 x h1 y h2 e
section
def uR(h:gM rs p=bD j):∃us,rs[p]?=bD (.bor j,.lst us)/\bS us=b6:=by
 unfold gM at h;split at h
 .split at h
  .cases h;show⟨_,by assumption,by assumption⟩
  .cases h
 .cases h
def Ja.Th(t:Ja C c0 c rs vs){i:Nat}(h:rs[i]?=bD r):∃v,vs[i]?=bD v/\aO C c0 c r.1 r.2 v:=by
 have d:∀(l:List (Kd×U)) (w:List V),cF C c0 c l w->a9 l c.st->∀(i:Nat) (r:Kd×U),l[i]?=bD r->∃v,w[i]?=bD v/\aO C c0 c r.1 r.2 v:=by
  intro l;induction l with
  |nil=>intro w _ _ i r e;simp at e
  |cons x l f =>
   intro w h hs i r e;obtain⟨v,t',rfl,g,j,_⟩:=h;rw[fW]at hs;cases i with
   |zero=>simp at e;subst e;show⟨v,rfl,g.t hs.1⟩
   |succ i=>have⟨k,a,b⟩:=f t' j hs.2 i r (by simpa using e);show⟨k,by simpa using a,b⟩
 show d rs vs t.rep t.LM i r h
def Ja.len(t:Ja C c0 c rs vs):rs.length=vs.length:=by
 have:=t.read.len;rw[c4]at this;show this
theorem sV(q:C'.Eqv C){vs:List V}(hs:∀a,S' a->S1 a){IO:hH->Prop}(Q:∀a,S' a->¬IO a)(A:∀a o,IO a->H' a=bD o->¬Tp o):
  ∀(ps:List Nat) (ws:List U) (c:Cf) (st':av),Ok C c->Ns c1 c->c.S=S1->gy rs ps ws c.st=bD st'->(ps.map (gM rs)).Nodup->(∀p∈ps,∀a,vs[p]?=bD (.ref a)->IO a) ->
  (∀p∈ps,∀j,gM rs p=bD j->∃k u r,k.root=b6/\c.st[j]?=bD (bD (k,u))/\c.σ[j]?=bD (bD (.ref r))/\vs[p]?=bD (.ref r)) ->
  (∀(n p:Nat) (r:hH) (w:U),ps[n]?=bD p->vs[p]?=bD (.ref r)->ws[n]?=bD w->cQ C' S' H' r w)->(∀a,(∀p∈ps,vs[p]?≠bD (.ref a))->c.H a=H' a)->(∀a,¬IO a->c.H a=H' a) ->
  ∃g:Cf,Ok C g/\Ns c1 g/\g.σ=c.σ/\g.S=S1/\g.st=st'/\g.H=H'/\g.kid=c.kid/\∀(j:Nat) (k:Kd) (u:U),g.st[j]?=bD (bD (k,u))->∃B,c.st[j]?=bD (bD (k,B))
 |[],ws,c,st',D,n,y,e,_,_,_,_,G,_=>by
  cases ws with
  |nil=>cases e;show⟨c,D,n,rfl,y,rfl,funext λa=>G a λp hp=>(by cases hp),rfl,λj k u e=>⟨u,e⟩⟩
  |cons _ _=>cases e
 |p::ps,ws,c,st',D,n,y,e,I,T,Y,rt,G,J=>by
  cases ws with
  |nil=>cases e
  |cons w ws =>
   simp only[gy]at e;split at e
   .rename_i j hj;split at e
    .rename_i us k0 W9 Gy;have⟨k,u,r,hk,s,e2,L⟩:=Y p (by simp) j hj;rw[Gy]at s;cases s;have s:=Gy;have hr:=rt 0 p r _ rfl L rfl;have⟨xs,g1,g2⟩:=hr;have N:IO r:=T p (by simp) r L;rw[eH,mh]at I;have⟨GJ,n'⟩:=D.mod (H':=upd c.H r (.lst xs)) (u':=.lst us) n hk s e2 (λa v=>aj v) ⟨_,aw⟩ (λ_=>⟨xs,aw,by
      show(g2.cg q).mv ⟨λa z=>by rw[y];show hs a z,λa o h tp=>?_,λa o z h=>?_⟩
      .by_cases l:a=r
       .subst l;show absurd tp (A a o N h)
       .rw[aj l];by_cases x:IO a
        .show absurd tp (A a o x h)
        .rw[J a x];show h
      .have x:=Q a z;have l:a≠r:=λe=>x (e▸N);rw[aj l,J a x];show h⟩)
     have Hq:j<c.st.length:=(eh.mp s).1;have A1:∀f∈ps,∀t,gM rs f=bD t->∃k u r,Kd.root k=b6/\(c.st.set j (bD (k0,.lst us)))[t]?=bD (bD (k,u))/\c.σ[t]?=bD (bD (.ref r))/\vs[f]?=bD (.ref r):=λf hp t Ju=>by
      have⟨k',u',O,a1,a2,a3,a4⟩:=Y f (by simp[hp]) t Ju;have v:j≠t:=λz=>I.1 (i7.mpr ⟨f,hp,by rw[Ju,hj,z]⟩);show⟨k',u',O,a1,by rw[i1 v];show a2,a3,a4⟩
     have A2:∀a,(∀f∈ps,vs[f]?≠bD (.ref a))->upd c.H r (.lst xs) a=H' a:=λa l=>by
      by_cases h:a=r
      .subst h;rw[aw,g1]
      .rw[aj h];show G a λf hp z=>?_;rcases gs.mp hp with rfl|hp
       .rw[L]at z;cases z;show h rfl
       .show l f hp z
     have A3:∀a,¬IO a->upd c.H r (.lst xs) a=H' a:=λa l=>by
      have v:a≠r:=λz=>l (by rw[z];show N);rw[aj v];show J a l
     have⟨g,f1,f2,f3,f4,f5,f6,f7,f8⟩:=sV q hs Q A ps ws {c with H:=upd c.H r (.lst xs),st:=c.st.set j (bD (k0,.lst us))} st' GJ n' y e I.2 (λf hp=>T f (by simp[hp])) A1 (λm f O w' a b d=>rt (m+1) f O w' (by simpa using a) b (by simpa using d)) A2 A3;show⟨g,f1,f2,f3,f4,f5,f6,f7,λi k' u' z=>?_⟩;have⟨B,z⟩:=f8 i k' u' z;by_cases hi:i=j
     .subst hi;have z:(c.st.set i (bD (k0,.lst us)))[i]?=_:=z;rw[ez Hq]at z;cases z;show⟨_,s⟩
     .have z:(c.st.set j (bD (k0,.lst us)))[i]?=_:=z;rw[i1 (ro hi)]at z;show⟨B,z⟩
    .cases e
   .cases e
end
section
def Ad(st:av)(r:Kd×U):(dR st r).1=r.1:=by
 unfold dR;split<;>rfl
theorem cF.Ti{st:av}:∀{rs:List (Kd×U)}{vs:List V},cF C c0 c rs vs->cF C c0 c (rs.map (dR st)) vs
 |[],_,h=>h
 |r::rs,vs,h=>by
  have⟨v,t,rfl,d,e,f⟩:=h;show⟨v,t,rfl,?_,cF.Ti e,λhk i m g a j b=>?_⟩
  .have⟨k,u⟩:=r;cases k<;>show d
  .rw[i8,gj]at a;have⟨l,a,rfl⟩:=a;rw[Ad]at hk b;show f hk i l g a j b
def Ae(h:PA X es (HD C ms)):PA X es (HD C (ms >>= zw)):=by
 rintro pos a s σ H Q I ⟨c0,rfl,rfl,b,w⟩;show h pos a s c0.σ c0.H Q I ⟨c0,rfl,rfl,b,?_⟩;rw[ah]at w;show w.mono λrs st d c vs f g i n r=>?_;have⟨j,st',e,q⟩:=d;cases e;show q c vs f g i n r.Ti
def xn(h:QQ r=bD (k,u,ws)):r=(k,.tup (u::ws))/\(k=.own\/k=.loc):=by
 unfold QQ at h;split at h
 .cases h;show⟨rfl,.inl rfl⟩
 .cases h;show⟨rfl,.inr rfl⟩
 .cases h
def xo(hP:C.P=X.prog)(hw:C.w=X.w)(hK:C.K=X.K)(hF:Γ f=F)(hk:∀us r,F us=bD (.ok r)->us.length=np)
  (G:jB X.prog X.w X.K X.mg X.base Jt k fa fd ps (OV X.prog X.w X.K F np is)) (hr:fA k X.A) (hg:Gl X f) (hm:X.mg f=bD (.ref fa)) (LC:PySem.W.keepIn X.K (.ref fa)=b6) (B:Binds X.K fd ps [])
  (KI:(f==("__debug__":Str))=cK) (ha:PA X (e::es) (HD C ms)) (he:i5 (e::es) X.env=(cK,vr e X.env)::i5 es X.env) (Hc:(Ht pos (i5 es X.env)).any (·.1)=cK) :
  PE X (.Call (.Name f p) (e::es) [] pos) (Gz C (ms >>= λrs=>aB rs >>= λ_=>pN Γ f rs is)):=by
 rintro al s σ H Q I ⟨c0,rfl,rfl,ok,h⟩;show u3 (jJ I hg hm ?_ KI);show PySem.W.callWith_K (h₀:=X.base) I.ok.mod.MP LC (Gv (args ha I ok h pos) λus s1 ⟨rs,c,vs,t,I1,rv,w⟩=>⟨I1.KP,?_⟩) he Hc;have⟨r,st',D,q⟩:=w;unfold pN at D;rw[hF]at D;split at D
 .rename_i r0 e2;split at D
  .rename_i kd u ws eu;split at D
   .rename_i Ho;split at D
    .rename_i st2 Ry;cases D;have⟨rfl,k1⟩:=xn eu;have k2:=hk _ _ e2;unfold pM at Ho;simp only[cc,mx,Zl,Jx,va]at Ho;obtain⟨⟨h1,h2⟩,h3⟩:=Ho;have T:∀p∈is,∃j xs k r,gM rs p=bD j/\rs[p]?=bD (.bor j,.lst xs)/\bS xs=b6/\Kd.root k=b6/\c.st[j]?=bD (bD (k,.lst xs))/\c.σ[j]?=bD (bD (.ref r))/\vs[p]?=bD (.ref r)/\¬c.S r/\¬C.IX r/\cQ C c.S c.H r (.lst xs):=λp L=>by
      have⟨j,Y⟩:=Pt.mp (h1 p L);have⟨xs,a1,a2⟩:=uR Y;have⟨v,b1,x⟩:=t.Th a1;obtain⟨r,rfl,d1,d2,_,N⟩:=t.ok.rootOf x.1 x.2;have⟨k,m,l⟩:=x.1;show⟨j,xs,k,r,Y,a1,a2,m,l,x.2,b1,d1,d2,N⟩
     let IO:hH->Prop:=λa=>∃p∈is,vs[p]?=bD (.ref a);have NP:∀a,IO a->c.R a/\¬c.S a/\¬C.IX a/\Ig c.H a:=λa GK=>by
      have⟨p,L,e⟩:=GK;obtain⟨j,xs,k,r,_,_,_,m,l,y,J,g5,g6,g7⟩:=T p L;rw[e]at J;cases J;obtain⟨o,ho,_⟩:=g7.some;show⟨.inl ⟨j,k,_,m,l,y⟩,g5,g6,o,ho⟩
     let Pr:hH->Prop:=λa=>Ig c.H a/\¬IO a;have ac:C.Eqv (J7 X.prog X.w X.K c.H Pr IO):=⟨hP,hw,hK⟩
     have Jc:(J7 X.prog X.w X.K c.H Pr IO).Eqv C:=⟨hP.symm,hw.symm,hK.symm⟩
     have sP:∀a,c.S a->Pr a:=λa z=>⟨t.ok.wD a z,λz'=>(NP a z').2.1 z⟩
     have gi:∀{i:Nat} {u:U},(rs.map (·.2))[i]?=bD u->∃k,rs[i]?=bD (k,u):=λ{i u} e=>by
      rw[i8,gj]at e;obtain⟨⟨k,u'⟩,e,rfl⟩:=e;show⟨k,e⟩
     have ag:C6 (J7 X.prog X.w X.K c.H Pr IO) c.H is (rs.map (·.2)) vs:=by
      show⟨by rw[c4];show t.len,λa z=>z,λa z=>(NP a z).2.2.2,λi u O e=>?_,λi u O e=>?_,λi j r O Y e3 e4=>?_,λa z=>z⟩
      .obtain⟨j,xs,k,r,_,g0,gm,m,l,y,J,g5,g6,zs,g7,g8⟩:=T i O;have⟨k',e⟩:=gi e;rw[g0]at e;cases e;show⟨r,J,⟨i,O,J⟩,zs,g7,(ak.GP gm g8).cg ac⟩
      .have⟨k',e⟩:=gi e;have⟨v,b1,x⟩:=t.Th e;show⟨v,b1,?_⟩;have Hq:i<rs.length:=(eh.mp e).1;have MK:=(h3 i Hq).resolve_left O;rw[U0,e]at MK;show Rep.cg ac (u:=u) ?_;cases k' with
       |own =>
        obtain⟨r,rfl,_,d1,d2,N⟩:=x;obtain⟨o,ho,_⟩:=N.some;show N.rep sP ⟨⟨o,ho⟩,λz=>d2 (NP r z).1⟩
       |loc=>show Rep.mv (.up sP) x
       |any=>show Rep.mv (.up λa z=>z.elim (λz=>⟨t.ok.Ec a (.inl z),λz'=>(NP a z').2.2.1 z⟩) (sP a)) x
       |bor j =>
        obtain⟨r,rfl,d1,d2,_,N⟩:=t.ok.rootOf x.1 x.2;obtain⟨o,ho,_⟩:=N.some;show N.rep sP ⟨⟨o,ho⟩,λ⟨p',OW,e'⟩=>?_⟩;obtain⟨j',xs,k2,r2,g,_,_,m,l,y,J,_⟩:=T p' OW;rw[e']at J;cases J;have⟨k3,z1,z2⟩:=x.1;have:=t.ok.inj j j' k3 k2 _ _ r z1 m z2 l x.2 y;subst this;have:bD j∉is.map (gM rs):=by simpa[pL] using MK
        show this (i7.mpr ⟨p',OW,g⟩)
       |_=>show x.elim
      .obtain⟨j1,_,k1,r1,a0,_,_,a1,a2,a3,a4,_⟩:=T i O;obtain⟨j2,_,k2,r2,b0,_,_,b1,x,b3,b4,_⟩:=T j Y;rw[e3]at a4;cases a4;rw[e4]at b4;cases b4;have:=t.ok.inj j1 j2 k1 k2 _ _ r a1 b1 a2 x a3 b3;subst this;show map_inj h2 i O j Y (by rw[a0,b0])
     have Ir:OV X.prog X.w X.K F np is vs c.H (λv H'=>Q v H') E0:=⟨by rw[<-t.len,<-k2,c4],rs.map (·.2),kd,u,ws,Pr,IO,e2,k1,ag,λv H' S' B=>by
      classical
      let H1:Hp:=λa=>if IO a then c.H a else H' a
      have OX:∀a,¬IO a->H1 a=H' a:=λa z=>Zn z;have NO:∀a,S' a->¬IO a:=λa z z'=>by
       have⟨o,ho⟩:=(NP a z').2.2.2;rw[(B.new a z).1]at ho;cases ho
      have NQ:y9 c.H H1:=λa o e=>by
       by_cases z:IO a
       .change(if IO a then _ else _)=_;rw[Zm z];show e
       .rw[OX a z];show B.same a o e z
      have⟨GA,n1⟩:=t.ok.grow (H':=H1) (S':=λa=>c.S a\/S' a) NQ (λa z=>z.imp id λz=>⟨(B.new a z).1,by rw[OX a (NO a z)];show(B.new a z).2⟩) λa=>.inl;have NR:∀(n i:Nat) (r:hH),is[n]?=bD i->vs[i]?=bD (.ref r)->∃w,ws[n]?=bD w/\cQ (J7 X.prog X.w X.K c.H Pr IO) S' H' r w:=λn i r a b=>by
       have hn:n<ws.length:=by rw[B.len];show(eh.mp a).1
       show⟨_,nC hn,B.Iz n i r _ a b (nC hn)⟩
      have⟨cf,f1,f2,f3,f4,f5,f6,f7,f8⟩:=sV (C:=C) Jc (rs:=rs) (vs:=vs) (H':=H') (S':=S') (S1:=λa=>c.S a\/S' a) (λa=>.inr) (IO:=IO) NO (λa o ⟨i,O,z⟩ e=>by
        have⟨n,hn⟩:=List.getElem?_of_mem O;obtain⟨w,_,g⟩:=NR n i a hn z;have⟨o',m,l⟩:=g.some;rw[e]at m;cases m;show l) is ws {c with H:=H1,S:=λa=>c.S a\/S' a} st' GA n1.toNs rfl Ry h2 (λp L a z=>⟨p,L,z⟩) (λp L j Y=>by
        obtain⟨j',xs,k,r,g0,_,_,m,l,y,J,_⟩:=T p L;rw[Y]at g0;cases g0;show⟨k,_,r,m,l,y,J⟩) (λn i r w a b d=>B.Iz n i r w a b d) (λa ha=>OX a λ⟨p,L,z⟩=>ha p L z) OX
      subst f6;have V3:∀a,cf.R a->c.R a:=λa z=>by
       rcases z with⟨j,k,u,m,l,y⟩|⟨j,u,r,m,l,y⟩
       .have⟨u0,g⟩:=f8 j k u l;rw[f3]at y;show .inl ⟨j,k,u0,m,g,y⟩
       .have⟨u0,g⟩:=f8 j .Gm u m;rw[f3]at l;rw[f7]at y;show .inr ⟨j,u0,r,g,l,y⟩
      have dk:∀a,cf.MC a->c0.MC a/\∀o,c0.H a=bD o->cf.H a=bD o:=λa GK=>by
       have⟨j,u,r,m,l,y⟩:=GK;have⟨u0,g⟩:=f8 j .Gm u m;rw[f3]at l;rw[f7]at y;have hd:c.RD j a:=⟨u0,r,g,l,y⟩
       have Ho:¬IO a:=λGK=>by
        have⟨p',OW,e'⟩:=GK;obtain⟨j',xs,k2,r2,_,_,_,y1,y2,y3,y4,_⟩:=T p' OW;rw[e']at y4;cases y4;show t.ok.dd.d1 j a hd ⟨j',k2,_,y1,y2,y3⟩
       show⟨(t.nx.dk a ⟨j,hd⟩).1,λo e=>B.same a o ((t.nx.dk a ⟨j,hd⟩).2 o e) Ho⟩
      show q cf v (f3.trans t.hσ) f5 f1 ⟨t.nx.toNs.trans f2,dk⟩ ?_;rcases k1 with rfl|rfl
      .have⟨r,rfl,d1,d2,N⟩:=B.own rfl;obtain⟨_,z1,_,_,z4⟩:=t.ok.iU d1;show⟨r,rfl,t.nx.none d1,by rw[f4];show λz=>z.elim z1 d2,λz=>z4 (V3 r z),(N.cg Jc).mv (.up λa z=>by rw[f4];show .inr z) λo q=>q⟩
      .show((B.loc rfl).cg Jc).mv (.up λa z=>by rw[f4];show .inr z)⟩
     have z:=qD (Q:=Q) G hr B .nil vR I1 rv (by rw[ri];show Ir);rw[t.hσ]at z;show z
    .cases D
   .cases D
  .cases D
 .cases D
end
structure Ck where
 fns:List Str
 gl:List (Str×U)
 Iz:List (Str×List Nat)
abbrev oo:U->U->Bool
 |.int i,.int j=>cL (i=j)
 |.str x,.str y=>cL (x=y)
 |.bl a,.bl b=>a==b
 |.GC,.GC=>b6
 |_,_=>cK
def b_(h:oo u v=b6):u=v:=by
 cases u<;>cases v<;>simp[oo]at h<;>subst_vars<;>rfl
abbrev noStar:my->Bool
 |.Starred _ _=>cK
 |_=>b6
abbrev dZ:my->Bool
 |.Slice _ _ _ _=>cK
 |_=>b6
abbrev rb:my->Bool
 |.Set _ _ _=>cK
 |_=>b6
abbrev oq:my->Bool
 |.Call (.Name _ _) [] [] _=>cK
 |_=>b6
abbrev dw:my->Bool
 |.ListComp _ _ _ _=>cK
 |.SetComp _ _ _ _=>cK
 |.DictComp _ _ _ _ _=>cK
 |_=>b6
abbrev C7:my->Bool
 |.Tuple _ _ _=>cK
 |_=>b6
abbrev Ij(a:K1)(x:Str):Bool:=cL (a.names.lookup x=bD .globalImplicit)
abbrev fK(a:K1)(x:Str):Bool:=cL (a.names.lookup x=bD .local)||decide (a.names.lookup x=bD .cell)||decide (a.names.lookup x=bD .free)
abbrev lM(a:K1)(x:Str):Bool:=cL (a.names.lookup x=bD .local)||decide (a.names.lookup x=bD .cell)
abbrev EG(a:K1)(x:Str):Bool:=cL (a.names.lookup x=bD .local)
abbrev bp(x:Str):Bool:=!(x==("__debug__":Str))&&!(x==("__classdict__":Str))
abbrev sW(N:List Str)(a:K1)(fa:Bool)(i:Nat):my->Bool
 |.Name x _=>cL (N[i]?=bD x)&&lM a x&&(fa||EG a x)
 |_=>cK
abbrev ot(N:List Str)(a:K1)(fa:Bool):List Nat->List my->Bool
 |[],[]=>b6
 |i::is,e::es=>sW N a fa i e&&ot N a fa is es
 |_,_=>cK
abbrev cZ:my->List Str
 |.Name x _=>[x]
 |.Tuple es _ _=>es.filterMap fun|.Name x _=>bD x|_=>cb
 |_=>[]
abbrev hide(a N:List Str):List Str:=match a.filter λx=>cL (x∈N) with
 |[]=>N
 |[x]=>N.set (N.idxOf x) "."
 |x::y::_=>(N.set (N.idxOf x) ".").set (N.idxOf y) ".."
abbrev L3(t:Bool)(N:List Str)(a:K1)(fa:Bool)(is:List Nat):my->Bool
 |.Name x p=>!t&&(match is with|[i]=>sW N a fa i (.Name x p)|_=>cK)
 |.Tuple es _ _=>t&&ot N a fa is es&&is.all λi=>cL (i<N.length)
 |_=>cK
abbrev isTup:my->Bool
 |.Tuple _ _ _=>b6
 |_=>cK
abbrev ou(e:my):Option (Str×List my):=match e with
 |.Call f as kw _=>match f with
  |.Name x _=>if kw.isEmpty=b6 then bD (x,as) else cb
  |_=>cb
 |_=>cb
def jt(h:ou e=bD (x,as)):∃p q,e=.Call (.Name x p) as [] q:=by
 unfold ou at h;split at h
 .split at h
  .split at h
   .rename_i hk;rw[ve]at hk;cases h;subst hk;show⟨_,_,rfl⟩
   .cases h
  .cases h
 .cases h
abbrev fL(a:K1)(b:my)(ik:Ik)(e:my):Option (List my):=match ik with
 |.seq=>bD [e]
 |.H9=>(ou e).bind λp=>if p.1="range"/\Ij a p.1=b6/\p.2.length=1 then bD p.2 else cb
 |.Kz=>(ou e).bind λp=>if p.1="enumerate"/\Ij a p.1=b6/\p.2.length=1/\isTup b=b6 then bD p.2 else cb
 |_=>cb
abbrev simple:Bf->Bool:=λ_=>b6
abbrev xp(scope a:K1):K1:={scope with names:=scope.names.map λ(n,k)=>if (k==Kj&&a.kind==.function&&a.names.lookup n==bD .cell)=b6 then(n,.cell) else(n,k)}
abbrev aY(e:my)(k:Str->Bool):Bool:=match e with|.Name x _=>k x|_=>cK
def aq(h:aY e k=b6):∃x p,e=.Name x p/\k x=b6:=by
 unfold aY at h;split at h
 .show⟨_,_,rfl,h⟩
 .cases h
abbrev dn{α:Type}(l:List α)(k:α->Bool):Bool:=match l with|[a]=>k a|_=>cK
def aZ(h:dn l k=b6):∃a,l=[a]/\k a=b6:=by
 unfold dn at h;split at h
 .show⟨_,rfl,h⟩
 .cases h
abbrev c7(e:my)(k:my->List my->Pos->Bool):Bool:=match e with|.Call f as kw p=>kw.isEmpty&&k f as p|_=>cK
def aW(h:c7 e k=b6):∃f as p,e=.Call f as [] p/\k f as p=b6:=by
 unfold c7 at h;split at h
 .rename_i f as kw p;rw[cc,ve]at h;have⟨rfl,h⟩:=h;show⟨_,_,_,rfl,h⟩
 .cases h
abbrev rf(e:my)(k:my->Str->Pos->Bool):Bool:=match e with|.Attribute o m p=>k o m p|_=>cK
def pU(h:rf e k=b6):∃o m p,e=.Attribute o m p/\k o m p=b6:=by
 unfold rf at h;split at h
 .show⟨_,_,_,rfl,h⟩
 .cases h
abbrev sX(e:my)(k:my->XW->my->Bool):Bool:=match e with|.BinOp a op b _=>k a op b|_=>cK
def kN(h:sX e k=b6):∃a op b p,e=.BinOp a op b p/\k a op b=b6:=by
 unfold sX at h;split at h
 .show⟨_,_,_,_,rfl,h⟩
 .cases h
abbrev sY(e:my)(k:my->CmpOp->my->Bool):Bool:=match e with|.Compare a ops c _=>dn ops λop=>dn c λb=>k a op b|_=>cK
def gP(h:sY e k=b6):∃a op b p,e=.Compare a [op] [b] p/\k a op b=b6:=by
 unfold sY at h;split at h
 .have⟨op,rfl,c⟩:=aZ h;have⟨b,rfl,d⟩:=aZ c;show⟨_,_,_,_,rfl,d⟩
 .cases h
abbrev dG(e:my)(k:my->Str->Pos->List my->Pos->Bool):Bool:=c7 e λf as b=>rf f λo m a=>k o m a as b
def br(h:dG e k=b6):∃o m a as b,e=.Call (.Attribute o m a) as [] b/\k o m a as b=b6:=by
 have⟨f,as,p,rfl,h⟩:=aW h;have⟨o,m,q,rfl,h⟩:=pU h;show⟨_,_,_,_,_,rfl,h⟩
abbrev iz(e:my)(k:my->my->Bool):Bool:=match e with|.Subscript a b _=>k a b|_=>cK
def cz(h:iz e k=b6):∃a b p,e=.Subscript a b p/\k a b=b6:=by
 unfold iz at h;split at h
 .show⟨_,_,_,rfl,h⟩
 .cases h
abbrev Rz:my->Bool
 |.Constant (.int 0) _ _=>b6
 |_=>cK
def xq(h:Rz e=b6):∃a p,e=.Constant (.int 0) a p:=by
 unfold Rz at h;split at h
 .show⟨_,_,rfl⟩
 .cases h
abbrev Tj:E->Bool
 |.var _=>b6
 |.cst _=>b6
 |_=>cK
abbrev xr{α:Type}(l:List α)(k:α->α->Bool):Bool:=match l with|[a,b]=>k a b|_=>cK
def rg(h:xr l k=b6):∃a b,l=[a,b]/\k a b=b6:=by
 unfold xr at h;split at h
 .show⟨_,_,rfl,h⟩
 .cases h
abbrev sZ(e:my)(k:Const->Bool):Bool:=match e with|.Constant c _ _=>k c|_=>cK
def gQ(h:sZ e k=b6):∃c q p,e=.Constant c q p/\k c=b6:=by
 unfold sZ at h;split at h
 .show⟨_,_,_,rfl,h⟩
 .cases h
abbrev F7:Const->Option U
 |.int j=>bD (.int j)
 |.str y=>bD (.str y)
 |.bool y=>bD (.bl y)
 |.none=>bD .GC
 |_=>cb
abbrev F8(u:U)(c:Const):Bool:=match F7 c with|some v=>oo u v|none=>cK
abbrev Af(e:my)(op:BoolOp)(k:List my->Bool):Bool:=match e with|.BoolOp o es _=>cL (o=op)&&k es|_=>cK
def iY(h:Af e op k=b6):∃es p,e=.BoolOp op es p/\k es=b6:=by
 unfold Af at h;split at h
 .rw[cc,Zl]at h;have⟨rfl,h⟩:=h;show⟨_,_,rfl,h⟩
 .cases h
abbrev C8(e:my)(op:UnaryOp)(k:my->Bool):Bool:=match e with|.UnaryOp o a _=>cL (o=op)&&k a|_=>cK
def mJ(h:C8 e op k=b6):∃a p,e=.UnaryOp op a p/\k a=b6:=by
 unfold C8 at h;split at h
 .rw[cc,Zl]at h;have⟨rfl,h⟩:=h;show⟨_,_,rfl,h⟩
 .cases h
abbrev C9(e:my)(k:my->my->my->Bool):Bool:=match e with|.IfExp c a b _=>k c a b|_=>cK
def uS(h:C9 e k=b6):∃c a b p,e=.IfExp c a b p/\k c a b=b6:=by
 unfold C9 at h;split at h
 .show⟨_,_,_,_,rfl,h⟩
 .cases h
abbrev s9(e:my)(k:List my->Bool):Bool:=match e with|.Tuple l _ _=>k l|_=>cK
def kO(h:s9 e k=b6):∃l q p,e=.Tuple l q p/\k l=b6:=by
 unfold s9 at h;split at h
 .show⟨_,_,_,rfl,h⟩
 .cases h
abbrev xu(e:my)(k:List my->Bool):Bool:=match e with|.List l _=>k l|_=>cK
def rh(h:xu e k=b6):∃l p,e=.List l p/\k l=b6:=by
 unfold xu at h;split at h
 .show⟨_,_,rfl,h⟩
 .cases h
abbrev Ag(e:my):Bool:=match e with|.Dict a b _=>a.isEmpty&&b.isEmpty|_=>cK
def mK(h:Ag e=b6):∃p,e=.Dict [] [] p:=by
 unfold Ag at h;split at h
 .rw[cc,ve,ve]at h;have⟨rfl,rfl⟩:=h;show⟨_,rfl⟩
 .cases h
abbrev xv(e:my)(k:Option my->Option my->Bool):Bool:=match e with|.Slice a b c _=>c.isNone&&k a b|_=>cK
def rj(h:xv e k=b6):∃a b p,e=.Slice a b cb p/\k a b=b6:=by
 unfold xv at h;split at h
 .rw[cc,Pb]at h;have⟨rfl,h⟩:=h;show⟨_,_,_,rfl,h⟩
 .cases h
abbrev C_(e:my)(k:my->my->my->List my->K1->Bool):Bool:=match e with|.ListComp elt a b _=>dn a λg=>cL (g.is_async=0)&&k elt g.target g.iter g.ifs b|_=>cK
def iZ(h:C_ e k=b6):∃elt d a b f p,e=.ListComp elt [⟨d,a,b,0⟩] f p/\k elt d a b f=b6:=by
 unfold C_ at h;split at h
 .obtain⟨⟨d,a,b,z⟩,rfl,c⟩:=aZ h;rw[cc,Zl]at c;have⟨rfl,c⟩:=c;show⟨_,_,_,_,_,_,rfl,c⟩
 .cases h
mutual
noncomputable def bx(k:Ck):E->List Str->K1->my->Bool
 |.var i,N,g,h=>aY h λx=>cL (N[i]?=bD x)&&fK g x&&bp x
 |.cst u,N,g,h=>sZ h λc=>F8 u c
 |.LF x u,N,g,h=>aY h λy=>cL (x=y)&&Ij g x&&bp x&&k.gl.any λp=>cL (p.1=x)&&oo p.2 u
 |.bin op a b,N,g,h=>sX h λa' A s=>cL (op.op=A)&&bx k a N g a'&&bx k b N g s
 |.cmp op a b,N,g,h=>sY h λa' A s=>cL (op.op=A)&&!O0 A s&&bx k a N g a'&&bx k b N g s
 |.J3 _ _ _ _ _,_,_,_=>cK
 |.and es,N,g,h=>Af h .And λq=>aR k es N g q
 |.or es,N,g,h=>Af h .Or λq=>aR k es N g q
 |.not a,N,g,h=>C8 h .Not λa'=>bx k a N g a'
 |.ite c a b,N,g,h=>C9 h λC a' s=>bx k c N g C&&bx k a N g a'&&bx k b N g s
 |.neg _,_,_,_=>cK
 |.bad,_,_,_=>b6
 |.pop i,N,g,h=>dG h λo m j as w=>aY o λx=>as.isEmpty&&cL (m="pop")&&cL (N[i]?=bD x)&&fK g x&&bp x&&(j.endLine==w.line)
 |.KD i a,N,g,h=>dG h λo m j as w=>aY o λx=>dn as λa'=>cL (m="pop")&&cL (N[i]?=bD x)&&fK g x&&bp x&&(j.endLine==w.line)&&noStar a'&&bx k a N g a'
 |.Gq f es is,N,g,h=>c7 h λf' q _=>aY f' λx=>cL (x=f)&&cL ((f,is)∈k.Iz)&&Ij g x&&bp x&&!q.isEmpty&&aR k es N g q
 |.inD neg a i,N,g,h=>sY h λa' A s=>aY s λx=>cL (C1 neg=A)&&!O0 A s&&cL (N[i]?=bD x)&&fK g x&&bp x&&bx k a N g a'
 |.MD i,N,g,h=>aY h λx=>cL (N[i]?=bD x)&&fK g x&&bp x
 |.IY i a b,N,g,h=>dG h λo m j as w=>aY o λx=>xr as λa' s=>cL (m="get")&&cL (N[i]?=bD x)&&fK g x&&bp x&&(j.endLine==w.line)&&noStar a'&&noStar s&&bx k a N g a'&&bx k b N g s
 |.ME i,N,g,h=>c7 h λf' as _=>aY f' λf=>dn as λc=>dG c λo m j D w=>aY o λx=>D.isEmpty&&cL (f="sorted")&&Ij g f&&cL (m="items")&&cL (N[i]?=bD x)&&fK g x&&bp x&&(j.endLine==w.line)
 |.KC ln a b,N,g,h=>c7 h λf' as _=>aY f' λf=>dn as λd=>sX d λl op r=>c7 l λG H _=>aY G λI=>dn H λa'=>c7 r λJ L _=>aY J λO=>dn L λs =>
  cL (f=(if ln=b6 then("len":Str) else "sorted"))&&cL (I="set")&&cL (O="set")&&cL (op=.Sub)&&Ij g f&&Ij g "set"&&noStar a'&&noStar s&&bx k a N g a'&&bx k b N g s
 |.fst es,N,g,h=>cK
 |.OH a T,N,g,h=>cK
 |.tup es,N,g,h=>s9 h λq=>aR k es N g q
 |.lst es,N,g,h=>xu h λq=>aR k es N g q
 |.H_ _,N,g,h=>Ag h
 |.idx a b,N,g,h=>iz h λa' s=>dZ s&&bx k a N g a'&&bx k b N g s
 |.JJ a lo Q,N,g,h=>iz h λa' s=>xv s λY HZ=>bx k a N g a'&&rm k lo N g Y&&rm k Q N g HZ
 |.bi f es,N,g,h=>c7 h λf' q _=>aY f' λx=>cL (x=f.name)&&simple f&&Ij g x&&!q.isEmpty&&aR k es N g q
 |.KA f es,N,g,h=>c7 h λf' as _=>aY f' λx=>dn as λc=>c7 c λg' q _=>aY g' λy=>cL (x=f.oi)&&cL (y=f.iw)&&Ij g x&&Ij g y&&!q.isEmpty&&aR k es N g q
 |.K7 m a es,N,g,h=>dG h λo name j q w=>cL (name=m.name)&&oq o&&(j.endLine==w.line)&&!q.isEmpty&&cL (q.length<20)&&bx k a N g o&&aR k es N g q
 |.call f es,N,g,h=>c7 h λf' q _=>aY f' λx=>cL (x=f)&&cL (f∈k.fns)&&Ij g x&&bp x&&!q.isEmpty&&aR k es N g q
 |.K8 f es,N,g,h=>iz h λa' s=>Rz s&&c7 a' λf' q _=>aY f' λx=>cL (x=f)&&cL (f∈k.fns)&&Ij g x&&bp x&&!q.isEmpty&&aR k es N g q
 |.comp n t ik src cond e,N,g,h=>C_ h λelt v z B scope =>
   cL ((cZ v).length=n)&&ze (cZ v++hide (cZ v) N) (cZ v) scope g.names&&L3 t (cZ v++hide (cZ v) N) (xp scope g) cK (hW n) v&&rb z &&
   (match fL g v ik z with
    |some as=>aR k src N g as
    |none=>cK) &&
   cL (B.length<=1)&&aR k cond (cZ v++hide (cZ v) N) (xp scope g) B&&bx k e (cZ v++hide (cZ v) N) (xp scope g) elt
noncomputable def aR(k:Ck):List E->List Str->K1->List my->Bool
 |[],_,_,a=>a.isEmpty
 |e::es,N,b,a=>match a with
  |e'::a=>noStar e'&&bx k e N b e'&&aR k es N b a
  |[]=>cK
noncomputable def rm(k:Ck):List E->List Str->K1->Option my->Bool
 |[],_,_,o=>o.isNone
 |[e],N,a,o=>match o with
  |some b=>bx k e N a b
  |none=>cK
 |_::_::_,_,_,_=>cK
end
abbrev bU:List Str:=["len","sorted","repr","max","min","all","any","list","tuple","str","int","range","enumerate","zip","reversed","set","dict","sum","isinstance","bool"]
structure Ah(P:wh)(w:G1)(K:PySem.W.Frag)(mg:Str->Option d3)(base:Ic)(d:Nat)(F:List U->Option (Ex (Kd×U)))(f:Str):Prop where
 ex:∃(np:Nat) (fa:hH) (fd:PU) (ps:List Str),jB P w K mg base Jt d fa fd ps (spT P w K F np)/\mg f=bD (.ref fa)/\PySem.W.keepIn K (.ref fa)=b6/\Binds K fd ps []/\∀us k u,F us=bD (.ok (k,u))->(k=.own\/k=.loc\/k=.any)/\us.length=np
structure Ai(P:wh)(w:G1)(K:PySem.W.Frag)(mg:Str->Option d3)(base:Ic)(d:Nat)(F:List U->Option (Ex (Kd×U)))(f:Str)(is:List Nat):Prop where
 ex:∃(np:Nat) (fa:hH) (fd:PU) (ps:List Str),jB P w K mg base Jt d fa fd ps (OV P w K F np is)/\mg f=bD (.ref fa)/\PySem.W.keepIn K (.ref fa)=b6/\Binds K fd ps []/\∀us r,F us=bD (.ok r)->us.length=np
structure Gd(ck:Ck)(Γ:Tab)(C:Ct)(d:Nat)(X:Cx):Prop where
 P:C.P=X.prog
 w:C.w=X.w
 K:C.K=X.K
 u:X.A.units+60<Jq
 calm:X.calm=b6
 room:fA d X.A
 blt:∀x∈bU,X.mg x=cb
 fns:∀f∈ck.fns,Ah X.prog X.w X.K X.mg X.base d (Γ f) f
 JC:∀p∈ck.gl,∃val v,X.mg p.1=bD val/\RelV v val/\∀S H,Rep C S H p.2 v
 Iz:∀p∈ck.Iz,Ai X.prog X.w X.K X.mg X.base d (Γ p.1) p.1 p.2
def Gd.cx(g:Gd ck Γ C d X)(N:List Str)(a:K1)(D:hH)(s:hh)(H:Hp)(ex:List hH):Gd ck Γ C d (Hs X N a D s H ex) :=
 ⟨g.P,g.w,g.K,g.u,g.calm,g.room,g.blt,g.fns,g.JC,g.Iz⟩
def bV(h:fK a x=b6):HX a x:=by
 unfold fK at h;simp only[Jx,Zl]at h;rcases h with(h|h)|h
 .show .inl h
 .show .inr (.inl h)
 .show .inr (.inr h)
def aK(h:bp x=b6):(x==("__debug__":Str))=cK/\(x==("__classdict__":Str))=cK:=by
 unfold bp at h;simpa using h
def bw(h:noStar e=b6):i5 (e::es) env=(cK,vr e env)::i5 es env:=by
 cases e<;>first|rfl|cases h
def kP(h:dZ e=b6):g_ e:=by
 intro o i;cases e<;>first|rfl|cases h
def rn(h:rb e=b6):∀x,JR e env x=pure x:=by
 intro x;cases e<;>first|rfl|cases h
def jN(h:oq o=b6):Qm o name env a=a:=by
 cases o with
 |Call f as ks p =>
  cases f with
  |Name x q=>cases as with
   |nil=>cases ks with
    |nil=>cases h
    |cons _ _=>rfl
   |cons _ _=>rfl
  |_=>rfl
 |_=>rfl
def bo(h:∀e∈es,noStar e=b6):(Ht pos (i5 es env)).any (·.1)=cK/\(Ht pos (i5 es env)).all (λx=>!x.1)=b6:=by
 induction es with
 |nil=>show⟨rfl,rfl⟩
 |cons e es a =>
  rw[bw (h e (by simp))];have:=a λb c=>h b (by simp[c]);constructor
  .change(cK||(Ht pos (i5 es env)).any (·.1))=cK;rw[this.1];rfl
  .change(!cK&&(Ht pos (i5 es env)).all (λx=>!x.1))=b6;rw[this.2];rfl
def cI(h:aR k es N c a=b6):∀e∈a,noStar e=b6:=by
 induction es generalizing a with
 |nil =>
  cases a with
  |nil=>intro e he;cases he
  |cons _ _=>simp[aR]at h
 |cons x es b =>
  cases a with
  |nil=>intro e he;cases he
  |cons d a =>
   simp only[aR,cc]at h;intro e he;rcases gs.mp he with rfl|he
   .show h.1.1
   .show b h.2 e he
def mL(a:fa=b6->∀x,X.fn x=b6)(h:sW X.N X.env.scope fa i e=b6):qY X e i:=by
 cases e with
 |Name x p =>
  simp only[sW,cc,Zl,lM,Jx,EG]at h;show⟨x,p,rfl,h.1.1,?_,?_⟩
  .rcases h.1.2 with z|z
   .show .inl z
   .show .inr z
  .rcases h.2 with z|z
   .show .inl (a z x)
   .show .inr z
 |_=>cases h
theorem kQ(a:fa=b6->∀x,X.fn x=b6):∀{is:List Nat}{es:List my},ot X.N X.env.scope fa is es=b6->e_ X es is
 |[],[],_=>.nil
 |[],_::_,h=>by cases h
 |_::_,[],h=>by cases h
 |i::is,e::es,h=>by
  simp only[ot,cc]at h;show .cons (mL a h.1) (kQ a h.2)
def pV(d:X.calm=b6)(e:C.K=X.K)(a:X.N.Nodup)(b:fa=b6->∀x,X.fn x=b6)(h:L3 t X.N X.env.scope fa is c=b6):PG X c (tG C t is):=by
 cases c with
 |Name x p =>
  simp only[L3,cc,uk]at h;have⟨rfl,h⟩:=h;cases is with
  |nil=>cases h
  |cons i is=>cases is with
   |nil=>show CU a (mL b h)
   |cons _ _=>cases h
 |Tuple es k p =>
  simp only[L3,cc,mx,Zl]at h;obtain⟨⟨rfl,f⟩,g⟩:=h;show El d e a (kQ b f) g
 |_=>cases h
def i_(a N:List Str):d6 ((a++hide a N).drop a.length) N:=by
 rw[TC rfl];unfold hide;split
 .show .refl N
 .show(d6.refl N).set _ (.inl rfl)
 .show((d6.refl N).set _ (.inl rfl)).set _ (.inr rfl)
abbrev Bf.W_:Bf->Bool
 |.len=>b6|.sorted=>b6|.repr=>b6|.max=>b6|.min=>b6|.all=>b6|.any=>b6|_=>cK
abbrev Bf.id:Bf->String
 |.len=>"len"|.sorted=>"sorted"|.repr=>"repr"|.max=>"max"|.min=>"min"|.all=>"all"|.any=>"any"
 |.list=>"list"|.tuple=>"tuple"|.str=>"str"|.int=>"int"
def Aj:∀f:Bf,simple f=b6->G8 f.name=bD f.val/\f.name∈bU/\f.name≠"__name__"/\(f.name==("__debug__":Str))=cK:=by
 intro f h;cases f<;>first|show⟨by decide +kernel,by decide +kernel,by decide +kernel,by decide +kernel⟩|(cases h;done)
def Dc:∀f:Bf,simple f=b6->(f.val=.builtin f.id\/f.val=.type f.id):=by
 intro f h;cases f<;>first|show .inl rfl|show .inr rfl|(cases h;done)
def Dd:∀f:B2,f.oi∈bU/\f.iw∈bU:=by
 intro f;cases f<;>show⟨by decide +kernel,by decide +kernel⟩
def Ak:∀f:Mf,Slot "str" f.name f.id/\Y6 (.builtin f.id)=pure (.type "method_descriptor"):=by
 intro f;cases f with
 |split=>show⟨PySem.F.slot_str_split,PySem.F.type_str_split⟩
 |join=>show⟨PySem.F.slot_str_join,PySem.F.type_str_join⟩
 |partition=>show⟨PySem.F.slot_str_partition,PySem.F.type_str_partition⟩
 |endswith=>show⟨PySem.F.slot_str_endswith,PySem.F.type_str_endswith⟩
section
def eJ(h:Ij X.env.scope x=b6):Gl X x:=by
 unfold Ij at h;change X.env.kindOf x=bD .globalImplicit;show Zr h
def Al:("enumerate":Str)∈bU:=by decide +kernel
def Am:("range":Str)∈bU:=by decide +kernel
def Bg(g:Gd ck Γ C d X)(h:fL X.env.scope l ik c=bD as)(m:PA X as (HD C (bt Γ src)))(o:∀a,as=[a]->∃e,src=[e]/\PE X a (Gz C (ev Γ e)))(n:∀e∈as,noStar e=b6):PI X l c (Ki C ik (bt Γ src)):=by
 unfold fL at h;split at h
 .cases h;have⟨e,rfl,r⟩:=o _ rfl;show CS g.K r
 .rw[rz]at h;obtain⟨⟨x,s⟩,j,h⟩:=h;split at h
  .rename_i k;cases h;have⟨f,i,hl⟩:=k
   dsimp only at f i hl
   subst f;have⟨p,q,rfl⟩:=jt j;have⟨b,rfl⟩:=Wn.mp hl;show zU (eJ i) (g.blt _ Am) (bw (n _ (by simp))) m
  .cases h
 .rw[rz]at h;obtain⟨⟨x,s⟩,j,h⟩:=h;split at h
  .rename_i k;cases h;have⟨f,i,hl,t⟩:=k
   dsimp only at f i hl
   subst f;have⟨p,q,rfl⟩:=jt j;have⟨b,rfl⟩:=Wn.mp hl;cases l with
   |Tuple es u ps=>show CT g.K (eJ i) (g.blt _ Al) (bw (n _ (by simp))) m
   |_=>cases t
  .cases h
 .cases h
def Bh{a:M α}{b:α->M β}{c:α->M γ}{g:γ->M δ}{st:av}{Q:δ->av->Prop}(w:W (a >>= λx=>b x >>= λ_=>c x >>= g) st Q):W ((a >>= λx=>b x >>= λ_=>c x) >>= g) st Q:=by
 simp only[ah]at w ⊢;show w
def bq:PT X e (HC C M.fail):=λa s σ H Q I ⟨_,_,_,_,w⟩=>(bf.mp w).elim
def ja:PE X e (Gz C M.fail):=λa s σ H Q I ⟨_,_,_,_,w⟩=>(bf.mp w).elim
def PT.eqv(h:PT X e (HC C m))(i:∀st Q,W a st Q->W m st Q):PT X e (HC C a):=PT.weak h λσ H Q ⟨c0,b,c,d,w⟩=>⟨c0,b,c,d,i _ _ w⟩
def EH(g:Gd ck Γ C d X)(b:PA X a (HD C (bt Γ es)))
  (h:(cL (x=f.name)&&simple f&&Ij X.env.scope x&&!a.isEmpty&&aR ck es X.N X.env.scope a)=b6):PE X (.Call (.Name x p) a [] pos) (Gz C (ev Γ (.bi f es))):=by
 simp only[cc,Zl,uk]at h;obtain⟨⟨⟨⟨rfl,c⟩,i⟩,n⟩,o⟩:=h;have⟨b1,j,b3,b4⟩:=Aj f c;have k:=cI o;cases a with
 |nil=>cases n
 |cons q l =>
  have st:=bw (env:=X.env) (es:=l) (k q (by simp));have m:=(bo (pos:=pos) (env:=X.env) (es:=l) λe r=>k e (by simp[r])).1;rcases Dc f c with hv|hv
  .show zP g.calm g.K g.room.gd g.u hv (eJ i) (g.blt _ j) (by rw[b1,hv]) b3 b4 b st m
  .show zQ g.calm g.K g.room.gd g.u hv (eJ i) (g.blt _ j) (by rw[b1,hv]) b3 b4 b st m
def EI(g:Gd ck Γ C d X)(i:PA X a (HD C (bt Γ es)))
  (h:(cL (x=f.oi)&&cL (y=f.iw)&&Ij X.env.scope x&&Ij X.env.scope y&&!a.isEmpty&&aR ck es X.N X.env.scope a)=b6):PE X (.Call (.Name x p) [.Call (.Name y p2) a [] pos2] [] pos) (Gz C (ev Γ (.KA f es))):=by
 simp only[cc,Zl,uk]at h;obtain⟨⟨⟨⟨⟨rfl,rfl⟩,j⟩,k⟩,l⟩,m⟩:=h;have⟨b1,n⟩:=Dd f;have b:=cI m;cases a with
 |nil=>cases l
 |cons o c =>
  have st:=bw (env:=X.env) (es:=c) (b o (by simp));have q:=(bo (pos:=pos2) (env:=X.env) (es:=c) λe r=>b e (by simp[r])).1;show zT g.calm g.K (eJ j) (g.blt _ b1) (eJ k) (g.blt _ n) i st q
def EJ(g:Gd ck Γ C d X)(l:PE X o (Gz C (ev Γ a)))(n:PA X b (HD C (bt Γ es)))
  (h:(cL (name=m.name)&&oq o&&(c.endLine==i.line)&&!b.isEmpty&&cL (b.length<20)&&bx ck a X.N X.env.scope o&&aR ck es X.N X.env.scope b)=b6):PE X (.Call (.Attribute o name c) b [] i) (Gz C (ev Γ (.K7 m a es))):=by
 simp only[cc,Zl,uk]at h;obtain⟨⟨⟨⟨⟨⟨rfl,p⟩,q⟩,r⟩,s⟩,x⟩,t⟩:=h;have j:=cI t;have⟨s1,s2⟩:=Ak m;cases b with
 |nil=>cases r
 |cons k f =>
  have st:=bw (env:=X.env) (es:=f) (j k (by simp));have u:=(bo (pos:=i) (env:=X.env) (es:=f) λe v=>j e (by simp[v])).1;have w:=(bo (pos:=i) (env:=X.env) (es:=k::f) j).2;show zS g.K s1 s2 l n (jN p) ?_ q st u;rw[w];have:(k::f).length+([]:List LZ).length+(if ([]:List LZ).isEmpty=b6 then 0 else 1)<30:=by simp at s ⊢;lia
  simp only[Zp this];rfl
def xw(g:Gd ck Γ C d X)(i:PA X a (HD C (bt Γ es)))
  (h:(cL (x=f)&&cL (f∈ck.fns)&&Ij X.env.scope x&&bp x&&!a.isEmpty&&aR ck es X.N X.env.scope a)=b6):PE X (.Call (.Name x p) a [] pos) (Gz C (ev Γ (.call f es))):=by
 simp only[cc,Zl,uk]at h;obtain⟨⟨⟨⟨⟨rfl,j⟩,k⟩,l⟩,m⟩,n⟩:=h;have b:=cI n;have⟨z,fa,A,ps,o,q,r,s,t⟩:=(g.fns _ j).ex;cases a with
 |nil=>cases m
 |cons u c =>
  have st:=bw (env:=X.env) (es:=c) (b u (by simp));have v:=(bo (pos:=pos) (env:=X.env) (es:=c) λe y=>b e (by simp[y])).1;show wW g.P g.w g.K rfl t o g.room (eJ k) q r s (aK l).1 i st v
def EK(g:Gd ck Γ C d X)(i:PA X a (HD C (bt Γ es)))
  (h:(cL (x=f)&&cL (f∈ck.fns)&&Ij X.env.scope x&&bp x&&!a.isEmpty&&aR ck es X.N X.env.scope a)=b6):PE X (.Subscript (.Call (.Name x p) a [] pos) (.Constant (.int 0) z p2) A) (Gz C (ev Γ (.K8 f es))):=by
 simp only[cc,Zl,uk]at h;obtain⟨⟨⟨⟨⟨rfl,j⟩,k⟩,l⟩,m⟩,n⟩:=h;have b:=cI n;have⟨B,fa,D,ps,o,q,r,s,t⟩:=(g.fns _ j).ex;cases a with
 |nil=>cases m
 |cons u c =>
  have st:=bw (env:=X.env) (es:=c) (b u (by simp));have v:=(bo (pos:=pos) (env:=X.env) (es:=c) λe y=>b e (by simp[y])).1;show zR g.P g.w g.K rfl t o g.room (eJ k) q r s (aK l).1 i st v (kP rfl)
def De(g:Gd ck Γ C d X)(i:PA X a (HD C (bt Γ es)))
  (h:(cL (x=f)&&cL ((f,is)∈ck.Iz)&&Ij X.env.scope x&&bp x&&!a.isEmpty&&aR ck es X.N X.env.scope a)=b6):PE X (.Call (.Name x p) a [] pos) (Gz C (ev Γ (.Gq f es is))):=by
 simp only[cc,Zl,uk]at h;obtain⟨⟨⟨⟨⟨rfl,j⟩,k⟩,l⟩,m⟩,n⟩:=h;have b:=cI n;have⟨z,fa,A,ps,o,q,r,s,t⟩:=(g.Iz _ j).ex;cases a with
 |nil=>cases m
 |cons u c =>
  have st:=bw (env:=X.env) (es:=c) (b u (by simp));have v:=(bo (pos:=pos) (env:=X.env) (es:=c) λe y=>b e (by simp[y])).1;show xo g.P g.w g.K rfl t o g.room (eJ k) q r s (aK l).1 (Ae i) st v
def dh(h:(b&&aR k es N a c)=b6):aR k es N a c=b6:=(GB.mp h).2
mutual
theorem bF:∀(e:E) (X:Cx) (q:my),Gd ck Γ C d X->bx ck e X.N X.env.scope q=b6->PE X q (Gz C (ev Γ e))
 |.var i,X,q,g,h=>by
  have⟨x,G,rfl,k⟩:=aq h;clear h;have h:=k;simp only[cc,Zl]at h;have⟨O,Y⟩:=aK h.2;show oh h.1.1 (bV h.1.2) O Y
 |.cst u,X,q,g,h=>by
  have⟨c,q0,G,rfl,k⟩:=gQ h;cases c with
  |int j=>have:=b_ k;subst this;show iu nu λ_ _=>rfl
  |str y=>have:=b_ k;subst this;show iu vp λ_ _=>rfl
  |bool y=>have:=b_ k;subst this;show iu A6 λ_ _=>rfl
  |none=>have:=b_ k;subst this;show iu vn λ_ _=>rfl
  |_=>cases k
 |.LF x u,X,q,g,h=>by
  have⟨y,G,rfl,k⟩:=aq h;clear h;have h:=k;simp only[cc,Zl,SQ]at h;obtain⟨⟨⟨rfl,L⟩,h2⟩,p,hp,e1,e2⟩:=h;have:=b_ e2;subst this e1;have⟨ap,v,q1,q2,q3⟩:=g.JC p hp;show iu (yK (eJ L) q1 q2 (aK h2).1) q3
 |.bin op a b,X,q,g,h=>by
  have⟨a',J8,b',G,rfl,k⟩:=kN h;clear h;have h:=k;simp only[cc,Zl]at h;obtain⟨⟨rfl,L⟩,h2⟩:=h;show zD g.K (bF a X _ g L) (bF b X _ g h2)
 |.cmp op a b,X,q,g,h=>by
  have⟨a',J8,b',G,rfl,A⟩:=gP h;have h:=A;simp only[cc,Zl,uk]at h;obtain⟨⟨⟨rfl,h0⟩,L⟩,h2⟩:=h;show zE g.P g.w g.K g.u (bF a X _ g L) (bF b X _ g h2) h0
 |.J3 o1 o2 a b c,X,q,g,h=>absurd (show cK=b6 from h) ke
 |.and es,X,q,g,h=>by
  have⟨Gn,G,rfl,k⟩:=iY h;clear h;have h:=k;show xx es X _ g h
 |.or es,X,q,g,h=>ja
 |.not a,X,q,g,h=>by
  have⟨a',G,rfl,k⟩:=mJ h;clear h;have h:=k;show zG (bF a X _ g h)
 |.neg a,X,q,g,h=>absurd (show cK=b6 from h) ke
 |.bad,X,q,g,h=>ja
 |.pop i,X,q,g,h=>by
  have⟨o,m,ac,as,F',rfl,A⟩:=br h;have⟨x,px,rfl,B⟩:=aq A;simp only[cc,Zl,ve]at B;obtain⟨⟨⟨⟨⟨rfl,rfl⟩,L⟩,h2⟩,O⟩,Y⟩:=B;have⟨q1,q2⟩:=aK O;show Ac L (bV h2) q1 q2 Y g.K
 |.KD i a,X,q,g,h=>by
  have⟨o,m,ac,as,F',rfl,A⟩:=br h;have⟨x,px,rfl,B⟩:=aq A;have⟨a',rfl,z3⟩:=aZ B;simp only[cc,Zl]at z3;obtain⟨⟨⟨⟨⟨⟨rfl,L⟩,h2⟩,O⟩,Y⟩,J⟩,h6⟩:=z3;have⟨q1,q2⟩:=aK O;have sa:=bo (pos:=F') (env:=X.env) (es:=[a']) λe he=>by rw[hQ.mp he];show J
  show xm g.K L (bV h2) q1 q2 (bF a X _ g h6) (by rw[sa.2];rfl) Y (bw J)
 |.Gq f es is,X,q,g,h=>by
  have⟨f',as,G,rfl,A⟩:=aW h;have⟨x,p1,rfl,B⟩:=aq A;show De g (jb es X _ g (dh B)) B
 |.inD neg a i,X,q,g,h=>ja
 |.MD i,X,q,g,h=>by
  have⟨x,G,rfl,k⟩:=aq h;clear h;have h:=k;simp only[cc,Zl]at h;have⟨O,Y⟩:=aK h.2;show zX h.1.1 (bV h.1.2) O Y
 |.IY i a b,X,q,g,h=>by
  have⟨o,m,ac,as,F',rfl,A⟩:=br h;have⟨x,px,rfl,B⟩:=aq A;have⟨a',b',rfl,z3⟩:=rg B;clear h A;have B:=z3;simp only[cc,Zl]at B;obtain⟨⟨⟨⟨⟨⟨⟨⟨rfl,L⟩,h2⟩,O⟩,Y⟩,J⟩,h6⟩,h7⟩,h8⟩:=B;have⟨q1,q2⟩:=aK O;have sa:=bo (pos:=F') (env:=X.env) (es:=[a',b']) λe he=>by
   rcases gs.mp he with rfl|he
   .show J
   .simp at he;subst he;show h6
  show xj g.u L (bV h2) q1 q2 (bF a X _ g h7) (bF b X _ g h8) ⟨rfl,by rw[sa.2];rfl,Y,by rw[bw J,bw h6];rfl⟩
 |.ME i,X,q,g,h=>by
  obtain⟨f',as,_,rfl,A⟩:=aW h;obtain⟨f,_,rfl,B⟩:=aq A;have⟨c,rfl,z3⟩:=aZ B;have⟨o,m,ac,bs,F',rfl,z4⟩:=br z3;have⟨x,px,rfl,z5⟩:=aq z4;simp only[cc,Zl,ve]at z5;obtain⟨⟨⟨⟨⟨⟨⟨rfl,rfl⟩,L⟩,rfl⟩,O⟩,Y⟩,J⟩,h6⟩:=z5;have⟨q1,q2⟩:=aK J;show Aa g.calm g.K (eJ L) (g.blt _ (by decide +kernel)) O (bV Y) q1 q2 h6
 |.KC ln a b,X,q,g,h=>by
  obtain⟨_,_,_,rfl,k⟩:=aW h;obtain⟨_,_,rfl,A⟩:=aq k;obtain⟨_,rfl,B⟩:=aZ A;obtain⟨_,_,_,_,rfl,z3⟩:=kN B;obtain⟨_,_,_,rfl,z4⟩:=aW z3;obtain⟨_,_,rfl,z5⟩:=aq z4;obtain⟨_,rfl,z6⟩:=aZ z5;obtain⟨_,_,_,rfl,z7⟩:=aW z6;obtain⟨_,_,rfl,z8⟩:=aq z7;obtain⟨_,rfl,z9⟩:=aZ z8;simp only[cc,Zl]at z9;obtain⟨⟨⟨⟨⟨⟨⟨⟨⟨rfl,rfl⟩,rfl⟩,rfl⟩,L⟩,h2⟩,O⟩,Y⟩,J⟩,h6⟩:=z9;show Ab (ln:=ln) g.calm g.K (eJ L) (g.blt _ (by cases ln<;>decide +kernel)) (eJ h2) (g.blt _ (by decide +kernel)) (bF a X _ g J) (bF b X _ g h6) (bw O) (bw Y)
 |.fst es,X,q,g,h=>ja
 |.OH a T,X,q,g,h=>ja
 |.ite c a b,X,q,g,h=>by
  have⟨c',a',b',G,rfl,k⟩:=uS h;clear h;have h:=k;simp only[cc]at h;show zH (lN c X _ g h.1.1) (bF a X _ g h.1.2) (bF b X _ g h.2)
 |.tup es,X,q,g,h=>by
  have⟨l,q0,G,rfl,k⟩:=kO h;clear h;have h:=k;show zL (jb es X _ g h)
 |.lst es,X,q,g,h=>by
  have⟨l,G,rfl,k⟩:=rh h;clear h;have h:=k;show zM (jb es X _ g h)
 |.H_ r,X,q,g,h=>by
  have⟨G,rfl⟩:=mK h;show wV g.P g.w r
 |.idx a b,X,q,g,h=>by
  have⟨a',b',G,rfl,k⟩:=cz h;clear h;have h:=k;simp only[cc]at h;show zN g.K g.u (kP h.1.1) (bF a X _ g h.1.2) (bF b X _ g h.2)
 |.JJ a lo hi,X,q,g,h=>by
  have⟨a',b',G,rfl,A⟩:=cz h;have⟨Tn,HZ,p1,rfl,k⟩:=rj A;clear h A;simp only[cc]at k;show zO g.K (bF a X _ g k.1.1) (EL lo X _ g k.1.2) (EL hi X _ g k.2)
 |.bi f es,X,q,g,h=>by
  have⟨f',as,G,rfl,A⟩:=aW h;have⟨x,p1,rfl,B⟩:=aq A;have h:=B;show EH g (jb es X _ g (dh h)) h
 |.KA f es,X,q,g,h=>by
  have⟨f',as,G,rfl,A⟩:=aW h;have⟨x,p1,rfl,B⟩:=aq A;have⟨c,rfl,z3⟩:=aZ B;have⟨g',as',p2,rfl,z4⟩:=aW z3;have⟨y,p3,rfl,z5⟩:=aq z4;have h:=z5;show EI g (jb es X _ g (dh h)) h
 |.K7 m a es,X,q,g,h=>by
  have⟨o,name,ac,as,F',rfl,A⟩:=br h;have h:=A;have h':=h;simp only[cc]at h';show EJ g (bF a X _ g h'.1.2) (jb es X _ g (dh h)) h
 |.call f es,X,q,g,h=>by
  have⟨f',as,G,rfl,A⟩:=aW h;have⟨x,p1,rfl,B⟩:=aq A;have h:=B;show xw g (jb es X _ g (dh h)) h
 |.K8 f es,X,q,g,h=>by
  have⟨a',b',G,rfl,k⟩:=cz h;have A:=(cc _ _).mp k;have⟨kx,p2,rfl⟩:=xq A.1;have⟨f',as,p3,rfl,B⟩:=aW A.2;have⟨x,p1,rfl,z3⟩:=aq B;show EK g (jb es X _ g (dh z3)) z3
 |.comp n t ik src cond e,X,q,g,h=>by
  have⟨elt,tg,ag,am,scope,G,rfl,k⟩:=iZ h;clear h;have h:=k;simp only[cc,Zl]at h;obtain⟨⟨⟨⟨⟨⟨⟨L,h2⟩,O⟩,Y⟩,J⟩,h6⟩,h7⟩,h8⟩:=h;subst L;have S:=qG (X:=X) rfl (i_ _ _) h2;split at J
  .rename_i as an;have Gy:=cI J;have hI:PI X tg ag (Ki C ik (bt Γ src)):=Bg g an (jb src X _ g J) (λa e=>by
    subst e;cases src with
    |nil=>simp[aR]at J
    |cons e1 G9 =>
     cases G9 with
     |nil =>
      simp only[aR,cc]at J;show⟨e1,rfl,bF e1 X _ g J.1.2⟩
     |cons _ _=>simp[aR]at J) Gy
   show xb S g.calm hI (λD s H ex=>pV (fa:=cK) g.calm g.K S.nd (λz=>nomatch z) O)
    (λD s H ex=>by
     cases am with
     |nil =>
      cases cond with
      |nil=>show λal s σ H Q I ⟨c0,e1,e2,ok,w⟩=>nK al s σ H Q I (by subst e1 e2;rw[show aU Γ []=pure b6 from rfl,ao]at w;show w c0 rfl rfl ok (Nx.refl c0))
      |cons _ _=>simp[aR]at h7
     |cons c1 cs =>
      cases cs with
      |nil =>
       cases cond with
       |nil=>simp[aR]at h7
       |cons e1 G9 =>
        cases G9 with
        |nil =>
         simp only[aR,cc]at h7;show si (lN e1 (Hs X _ scope D s H ex) c1 (g.cx _ _ _ _ _ _) h7.1.2)
        |cons _ _=>simp[aR]at h7
      |cons _ _=>simp at h6)
    (λD s H ex=>bF e (Hs X _ scope D s H ex) elt (g.cx _ _ _ _ _ _) h8) (rn Y)
  .cases J
theorem jb:∀(es:List E) (X:Cx) (a:List my),Gd ck Γ C d X->aR ck es X.N X.env.scope a=b6->PA X a (HD C (bt Γ es))
 |[],X,a,g,h=>by
  cases a with
  |nil=>show zK
  |cons _ _=>simp[aR]at h
 |e::es,X,a,g,h=>by
  cases a with
  |nil=>simp[aR]at h
  |cons b a =>
   simp only[aR,cc]at h;show wR (bF e X b g h.1.2) (jb es X a g h.2) (bw h.1.1)
theorem EL:∀(es:List E) (X:Cx) (o:Option my),Gd ck Γ C d X->rm ck es X.N X.env.scope o=b6->PO X o (tO C (LJ Γ es))
 |[],X,o,g,h=>by
  cases o with
  |none=>show uK
  |some _=>simp[rm]at h
 |[e],X,o,g,h=>by
  cases o with
  |none=>simp[rm]at h
  |some a=>simp only[rm]at h;show uL (bF e X a g h)
 |_::_::_,X,o,g,h=>by simp[rm]at h
theorem xx:∀(es:List E) (X:Cx) (a:List my),Gd ck Γ C d X->aR ck es X.N X.env.scope a=b6->∀{pos},PE X (.BoolOp .And a pos) (Gz C (wL Γ es))
 |[],X,a,g,h,pos=>ja
 |[e],X,a,g,h,pos=>by
  cases a with
  |nil=>simp[aR]at h
  |cons b a =>
   cases a with
   |nil=>simp only[aR,cc]at h;show BN (bF e X b g h.1.2)
   |cons _ _=>simp[aR]at h
 |e::c::es,X,a,g,h,pos=>by
  cases a with
  |nil=>simp[aR]at h
  |cons b a =>
   have h':noStar b=b6/\bx ck e X.N X.env.scope b=b6/\aR ck (c::es) X.N X.env.scope a=b6:=by
    rw[aR]at h;simp only[cc]at h;show⟨h.1.1,h.1.2,h.2⟩
   cases a with
   |nil=>have:=h'.2.2;simp[aR]at this
   |cons f i=>show snd_and (bF e X b g h'.2.1) (xx (c::es) X _ g h'.2.2)
theorem lN:∀(e:E) (X:Cx) (j:my),Gd ck Γ C d X->bx ck e X.N X.env.scope j=b6->PT X j (HC C (GU Γ e))
 |.and es,X,j,g,h=>by
  have⟨B,l,rfl,k⟩:=iY h;clear h;have h:=k;show(s_ es X _ g h).pt
 |.or es,X,j,g,h=>by
  have⟨B,l,rfl,k⟩:=iY h;clear h;have h:=k;show(xy es X _ g h).pt
 |.not a,X,j,g,h=>by
  have⟨a',l,rfl,k⟩:=mJ h;clear h;have h:=k;show zI (lN a X _ g h)
 |.cmp op a b,X,j,g,h=>by
  have⟨a',D,G,l,rfl,o⟩:=gP h;have h:=o;simp only[cc,Zl,uk]at h;obtain⟨⟨⟨rfl,q⟩,s⟩,v⟩:=h;show zF g.P g.w g.K g.u (bF a X _ g s) (bF b X _ g v) q
 |.J3 J o2 a b c,X,j,g,h=>absurd (show cK=b6 from h) ke
 |.var i,X,j,g,h=>by
  have⟨x,l,rfl,k⟩:=aq h;simp only[cc,Zl]at k;have⟨y,z⟩:=aK k.2;show og (oh k.1.1 (bV k.1.2) y z) g.K λ_=>rfl
 |.idx a b,X,j,g,h=>bq
 |.bi f es,X,j,g,h=>by
  have⟨f',as,l,rfl,o⟩:=aW h;have⟨x,A,rfl,p⟩:=aq o;have h:=p;show PT.eqv (og (EH g (jb es X _ g (dh h)) h) g.K λ_=>rfl) λst Q w=>Bh w
 |.KA f es,X,j,g,h=>bq
 |.K7 m a es,X,j,g,h=>bq
 |.call f es,X,j,g,h=>by
  have⟨f',as,l,rfl,o⟩:=aW h;have⟨x,A,rfl,p⟩:=aq o;have h:=p;show PT.eqv (og (xw g (jb es X _ g (dh h)) h) g.K λ_=>rfl) λst Q w=>Bh w
 |.cst u,X,j,g,h=>bq
 |.fst es,X,j,g,h=>bq
 |.LF x u,X,j,g,h=>bq
 |.neg a,X,j,g,h=>bq
 |.OH a T,X,j,g,h=>bq
 |.bad,X,j,g,h=>bq
 |.pop i,X,j,g,h=>bq
 |.KD i a,X,j,g,h=>bq
 |.Gq f es is,X,j,g,h=>bq
 |.inD neg a i,X,j,g,h=>by
  have⟨a',D,G,l,rfl,o⟩:=gP h;have⟨x,A,rfl,p⟩:=aq o;have h:=p;simp only[cc,Zl,uk]at h;obtain⟨⟨⟨⟨⟨rfl,q⟩,s⟩,v⟩,y⟩,z⟩:=h;have⟨H,I⟩:=aK y;show zY g.u s (bV v) H I (bF a X _ g z) q
 |.MD i,X,j,g,h=>bq
 |.KC ln a b,X,j,g,h=>bq
 |.ME i,X,j,g,h=>bq
 |.IY i a b,X,j,g,h=>bq
 |.bin op a b,X,j,g,h=>bq
 |.ite c a b,X,j,g,h=>bq
 |.tup es,X,j,g,h=>bq
 |.lst es,X,j,g,h=>bq
 |.H_ r,X,j,g,h=>bq
 |.JJ a lo L,X,j,g,h=>bq
 |.K8 f es,X,j,g,h=>bq
 |.comp n t ik src cond e,X,j,g,h=>bq
theorem s_:∀(es:List E) (X:Cx) (a:List my),Gd ck Γ C d X->aR ck es X.N X.env.scope a=b6->∀{pos},PW X (.BoolOp .And a pos) (HC C (aU Γ es))
 |[],X,a,g,h,pos=>by
  cases a with
  |nil =>
   rintro j c s σ H Q I ⟨c0,rfl,rfl,i,w⟩;rw[show aU Γ []=pure b6 from rfl,ao]at w;show Zi ⟨c0.H,I,w c0 rfl rfl i (Nx.refl c0)⟩
  |cons _ _=>simp[aR]at h
 |[e],X,a,g,h,pos=>by
  cases a with
  |nil=>simp[aR]at h
  |cons b a =>
   cases a with
   |nil=>simp only[aR,cc]at h;show yL (lN e X b g h.1.2)
   |cons _ _=>simp[aR]at h
 |e::f::es,X,a,g,h,pos=>by
  cases a with
  |nil=>simp[aR]at h
  |cons b a =>
   have h':noStar b=b6/\bx ck e X.N X.env.scope b=b6/\aR ck (f::es) X.N X.env.scope a=b6:=by
    rw[aR]at h;simp only[cc]at h;show⟨h.1.1,h.1.2,h.2⟩
   cases a with
   |nil=>have:=h'.2.2;simp[aR]at this
   |cons k l=>show zJ (lN e X b g h'.2.1) (s_ (f::es) X _ g h'.2.2)
theorem xy:∀(es:List E) (X:Cx) (a:List my),Gd ck Γ C d X->aR ck es X.N X.env.scope a=b6->∀{pos},PW X (.BoolOp .Or a pos) (HC C (sG Γ es))
 |[],X,a,g,h,pos=>by
  cases a with
  |nil =>
   rintro j c s σ H Q I ⟨c0,rfl,rfl,i,w⟩;rw[show sG Γ []=pure cK from rfl,ao]at w;show isTrue_or_nil ⟨c0.H,I,w c0 rfl rfl i (Nx.refl c0)⟩
  |cons _ _=>simp[aR]at h
 |[e],X,a,g,h,pos=>by
  cases a with
  |nil=>simp[aR]at h
  |cons b a =>
   cases a with
   |nil=>simp only[aR,cc]at h;show BK (lN e X b g h.1.2)
   |cons _ _=>simp[aR]at h
 |e::f::es,X,a,g,h,pos=>by
  cases a with
  |nil=>simp[aR]at h
  |cons b a =>
   have h':noStar b=b6/\bx ck e X.N X.env.scope b=b6/\aR ck (f::es) X.N X.env.scope a=b6:=by
    rw[aR]at h;simp only[cc]at h;show⟨h.1.1,h.1.2,h.2⟩
   cases a with
   |nil=>have:=h'.2.2;simp[aR]at this
   |cons k l=>show CJ (lN e X b g h'.2.1) (xy (f::es) X _ g h'.2.2)
end
def F9(g:Gd ck Γ C d X)(b:Tj e=b6)(h:bx ck e X.N X.env.scope f=b6):PE X f (xg C (ev Γ e)):=by
 cases e with
 |var i =>
  have⟨x,k,rfl,a⟩:=aq h;simp only[cc,Zl]at a;have⟨l,m⟩:=aK a.2;show xh a.1.1 (bV a.1.2) l m
 |cst u =>
  have⟨c,n,k,rfl,a⟩:=gQ h;cases c with
  |int j=>have:=b_ a;subst this;show iy nu λ_ _=>rfl
  |str y=>have:=b_ a;subst this;show iy vp λ_ _=>rfl
  |bool y=>have:=b_ a;subst this;show iy A6 λ_ _=>rfl
  |none=>have:=b_ a;subst this;show iy vn λ_ _=>rfl
  |_=>cases a
 |_=>cases b
end
abbrev NT(b:K1)(x:Str)(a:Nat):my->Bool
 |.ListComp elt gens s pos=>cL (b.names.lookup x=bD .local)&&(a==pos.line)&&!(s.names.any λ(n,k)=>n==x&&(k==.local||k==.cell))
 |_=>cK
abbrev kR(s:Ly)(k:my->Bool):Bool:=match s with|.Expr e _=>k e|_=>cK
def dH(h:kR s k=b6):∃e p,s=.Expr e p/\k e=b6:=by
 unfold kR at h;split at h
 .show⟨_,_,rfl,h⟩
 .cases h
abbrev kS(s:Ly)(k:my->my->Bool):Bool:=match s with|.Assign a v _=>dn a λt=>k t v|_=>cK
def dI(h:kS s k=b6):∃t v p,s=.Assign [t] v p/\k t v=b6:=by
 unfold kS at h;split at h
 .have⟨t,rfl,a⟩:=aZ h;show⟨_,_,_,rfl,h⟩
 .cases h
abbrev rp(e:my)(k:my->my->my->K1->Bool):Bool:=match e with
 |.ListComp elt gens scope _=>dn gens λg=>match g with
  |⟨b,a,[],0⟩=>k elt b a scope
  |_=>cK
 |_=>cK
def pW(h:rp e k=b6):∃elt c a scope p,e=.ListComp elt [⟨c,a,[],0⟩] scope p/\k elt c a scope=b6:=by
 unfold rp at h;split at h
 .have⟨g,rfl,b⟩:=aZ h;split at b
  .show⟨_,_,_,_,_,rfl,b⟩
  .cases b
 .cases h
abbrev An(e:my)(k:Str->Pos->Bool):Bool:=match e with|.Name x p=>k x p|_=>cK
def mM(h:An e k=b6):∃x p,e=.Name x p/\k x p=b6:=by
 unfold An at h;split at h
 .show⟨_,_,rfl,h⟩
 .cases h
abbrev tf(s:Ly)(k:my->XW->my->Bool):Bool:=match s with|.AugAssign t op b _=>k t op b|_=>cK
def kU(h:tf s k=b6):∃t op b p,s=.AugAssign t op b p/\k t op b=b6:=by
 unfold tf at h;split at h
 .show⟨_,_,_,_,rfl,h⟩
 .cases h
abbrev pX(s:Ly)(k:Option my->Bool):Bool:=match s with|.Return v _=>k v|_=>cK
def gR(h:pX s k=b6):∃v p,s=.Return v p/\k v=b6:=by
 unfold pX at h;split at h
 .show⟨_,_,rfl,h⟩
 .cases h
abbrev Df(v:Option my)(k:my->Bool):Bool:=match v with|some e=>k e|none=>cK
def mN(h:Df v k=b6):∃e,v=bD e/\k e=b6:=by
 cases v with
 |none=>cases h
 |some e=>show⟨e,rfl,h⟩
abbrev xA(s:Ly)(k:my->List Ly->List Ly->Bool):Bool:=match s with|.If c a b _=>k c a b|_=>cK
def rq(h:xA s k=b6):∃c a b p,s=.If c a b p/\k c a b=b6:=by
 unfold xA at h;split at h
 .show⟨_,_,_,_,rfl,h⟩
 .cases h
abbrev xB(s:Ly)(k:my->my->List Ly->Bool):Bool:=match s with|.For t i b o _=>o.isEmpty&&k t i b|_=>cK
def rA(h:xB s k=b6):∃t i b p,s=.For t i b [] p/\k t i b=b6:=by
 unfold xB at h;split at h
 .rw[cc,ve]at h;have⟨rfl,h⟩:=h;show⟨_,_,_,_,rfl,h⟩
 .cases h
abbrev Dg(s:Ly)(k:my->List Ly->Bool):Bool:=match s with|.While c b o _=>o.isEmpty&&k c b|_=>cK
def uT(h:Dg s k=b6):∃c b p,s=.While c b [] p/\k c b=b6:=by
 unfold Dg at h;split at h
 .rw[cc,ve]at h;have⟨rfl,h⟩:=h;show⟨_,_,_,rfl,h⟩
 .cases h
mutual
noncomputable def Dh(k:Ck):S->List Str->K1->Ly->Bool
 |.set i e,N,d,s=>kS s λt v=>An t λx p=>cL (N[i]?=bD x)&&lM d x&&cL (d.kind=.function)&&bx k e N d v&&(dw v||NT d x p.line v||(match v with|.ListComp _ _ _ _=>b6|_=>cK))&&(match e with|.comp _ _ _ _ _ _=>b6|_=>dw v)
 |.IZ is e,N,d,s=>kS s λt v=>s9 t λ_=>L3 b6 N d b6 is t&&dw v&&C7 v&&bx k e N d v
 |.put i a b,N,d,s=>kS s λt l=>iz t λo a'=>aY o λx=>cL (N[i]?=bD x)&&fK d x&&bp x&&dw l&&dZ a'&&bx k a N d a'&&bx k b N d l
 |.app i e,N,d,s=>kR s λc=>dG c λo m f as j=>aY o λx=>dn as λa=>cL (m="append")&&cL (N[i]?=bD x)&&fK d x&&bp x&&(f.endLine==j.line)&&noStar a&&bx k e N d a
 |.ext i e,N,d,s=>kR s λc=>dG c λo m f as j=>aY o λx=>dn as λa=>cL (m="extend")&&cL (N[i]?=bD x)&&fK d x&&bp x&&(f.endLine==j.line)&&noStar a&&bx k e N d a
 |.bad,_,_,_=>b6
 |.newD i,N,d,s=>kS s λt v=>aY t λx=>Ag v&&cL (N[i]?=bD x)&&lM d x
 |.putD i a b,N,d,s=>kS s λt l=>iz t λo a'=>aY o λx=>cL (N[i]?=bD x)&&fK d x&&bp x&&dw l&&dZ a'&&bx k a N d a'&&bx k b N d l
 |.Ia i a e,N,d,s=>kR s λc=>dG c λo m f as j=>iz o λo' a'=>aY o' λx=>dn as λb=>cL (m="append")&&cL (N[i]?=bD x)&&fK d x&&bp x&&dZ a'&&(f.endLine==j.line)&&noStar b&&bx k a N d a'&&bx k e N d b
 |.aug sub i a e,N,d,s=>tf s λt op b=>iz t λo a'=>aY o λx=>cL (op=if sub=b6 then .Sub else .Add)&&cL (N[i]?=bD x)&&fK d x&&bp x&&dZ a'&&bx k a N d a'&&bx k e N d b&&Tj e
 |.OI _,_,_,_=>cK
 |.exp e,N,d,s=>kR s λq=>dw q&&bx k e N d q
 |.ret e,N,d,s=>pX s λv=>Df v λq=>bx k e N d q
 |.I0 i e,N,d,s=>pX s λw=>Df w λv=>rp v λelt h g scope=>dG g λo m f as j=>aY o λx=>as.isEmpty&&cL (m="items")&&cL (N[i]?=bD x)&&fK d x&&bp x&&(f.endLine==j.line)&&isTup h&&cL ((cZ h).length=2) &&
   ze (cZ h++hide (cZ h) N) (cZ h) scope d.names&&L3 b6 (cZ h++hide (cZ h) N) (xp scope d) cK (hW 2) h&&bx k e (cZ h++hide (cZ h) N) (xp scope d) elt
 |.inc i n,N,d,s=>tf s λt op b=>An t λx _=>sZ b λc=>cL (op=.Add)&&cL (N[i]?=bD x)&&lM d x&&cL (c=.int n)
 |.JA,N,d,s=>pX s λv=>v.isNone
 |.ite c a b,N,d,s=>xA s λr a' l=>bx k c N d r&&dJ k a N d a'&&dJ k b N d l
 |.GN t is ik src body,N,d,s=>xB s λh g u=>L3 t N d b6 is h&&rb g&&(match fL d h ik g with
    |some as=>aR k src N d as
    |none=>cK)&&dJ k body N d u
 |.Kh c body,N,d,s=>Dg s λr u=>bx k c N d r&&dJ k body N d u
 |.brk,_,_,_=>cK
 |.cnt,_,_,_=>cK
 |.LG i,N,d,s=>kR s λe=>dG e λo m f as j=>aY o λx=>as.isEmpty&&cL (m="clear")&&cL (N[i]?=bD x)&&fK d x&&bp x&&(f.endLine==j.line)
 |.JK _,_,_,_=>cK
 |.OJ,_,_,_=>cK
noncomputable def dJ(k:Ck):List S->List Str->K1->List Ly->Bool
 |[],_,_,a=>a.isEmpty
 |s::c,N,b,a=>match a with
  |s'::a=>Dh k s N b s'&&dJ k c N b a
  |[]=>cK
end
section
variable{ck:Ck}{Γ:Tab}{C:Ct}{d:Nat}{X:Cx}
def ox(h:lM a x=b6):Loc a x:=by
 unfold lM at h;simp only[Jx,Zl]at h;show h
def iA(h:dw v=b6):Oz v t a env=pure cK:=by
 cases v<;>first|rfl|cases h
def oy(h:dw v=b6):OS [t] v a env=pure cK:=by
 rw[OS];show iA h
def Ao(h:dZ i=b6):∀a b new,Zb i a b new=(do Ko [new,a,b] (QY a b new);T7 [new,a,b] [];pure .next):=by
 intro a b new;cases i<;>first|rfl|cases h
def tm(h:dZ i=b6):∀v,PR (.Subscript o i p) env v=(do
   let a <-Ko [v] (vr o env)
   let b <-Ko [v,a] (vr i env)
   Wc p
   Ko [v,a,b] (QY a b v)
   T7 [v,a,b] []):=by
 intro v;cases i<;>first|rfl|cases h
structure Gs(ck:Ck)(Γ:Tab)(C:Ct)(d:Nat)(X:Cx):Prop where
 gd:Gd ck Γ C d X
 nd:X.N.Nodup
 fn:∀x,X.fn x=b6
 po:Ve (hE X.prog X.w) X.A X.env X.xe
 kd:X.env.scope.kind=.function
def tq(g:Gd ck Γ C d X)(h:(match fL X.env.scope i ik b with|some as=>aR ck src X.N X.env.scope as|none=>cK)=b6):PI X i b (Ki C ik (bt Γ src)):=by
 split at h
 .rename_i as c;show Bg g c (jb src X _ g h) (λa e=>by
   subst e;cases src with
   |nil=>simp[aR]at h
   |cons f j =>
    cases j with
    |nil =>
     simp only[aR,cc]at h;show⟨f,rfl,bF f X _ g h.1.2⟩
    |cons _ _=>simp[aR]at h) (cI h)
 .cases h
def kW{pos p a:Pos}(hk:X.env.scope.kind=.function):Oz (.ListComp elt gens s pos) (bD (.Name x p)) a.line X.env=pure (NT X.env.scope x p.line (.ListComp elt gens s pos)):=by
 have b:X.env.blockKind=.function:=by
  unfold Env.blockKind;rw[hk];rfl
 change(pure (X.env.blockKind==.function&&X.env.kindOf x==bD .local&&p.line==pos.line&&!(s.names.any λ(n,k)=>n==x&&(k==.local||k==.cell))):Sem Bool)=_;rw[b];unfold NT;congr 1
 have:(X.env.kindOf x==bD NameKind.local)=cL (X.env.scope.names.lookup x=bD .local):=by
  unfold Env.kindOf;rw[G7];simp
 rw[this];rfl
def Di{src cond:List E}(G:Gs ck Γ C d X)(m:X.N[i]?=bD x)(y:lM X.env.scope x=b6)
  (h:bx ck (.comp n t ik src cond e) X.N X.env.scope (.ListComp elt [⟨o,a,b,0⟩] scope pos)=b6) (ns:Nat->Bool) (q:∀j,ns j=b6->j≠i) :
  L2.PS X (.Assign [.Name x p] (.ListComp elt [⟨o,a,b,0⟩] scope pos) Jv) (Hl C ns (ev Γ (.comp n t ik src cond e) >>= λr=>d7 i r >>= λ_=>pure .nx)):=by
 have g:=G.gd;have u:=bF (.comp n t ik src cond e) X _ g h;cases k:NT X.env.scope x p.line (.ListComp elt [⟨o,a,b,0⟩] scope pos) with
 |false=>show Bc q G.nd m (ox y) (.inl (G.fn x)) u (by rw[kW G.kd,k])
 |true =>
  have hl:X.env.scope.names.lookup x=bD .local:=by
   simp only[NT,cc,Zl]at k;show k.1.1
  have⟨V4,W',To,V5,RA,p',A,v⟩:=iZ h;cases A;clear h u;simp only[cc,Zl]at v;obtain⟨⟨⟨⟨⟨⟨⟨B,J⟩,L⟩,O⟩,T⟩,Y⟩,c⟩,h8⟩:=v;subst B;have S:=qG (X:=X) rfl (i_ _ _) J;show CZ q S g.calm G.nd m hl (tq g T) (λD s H ex=>pV (fa:=cK) g.calm g.K S.nd (λz=>nomatch z) L)
   (λD s H ex=>by
    cases b with
    |nil =>
     cases cond with
     |nil=>show λf s σ H Q I ⟨c0,l,e2,ok,w⟩=>nK f s σ H Q I (by subst l e2;rw[show aU Γ []=pure b6 from rfl,ao]at w;show w c0 rfl rfl ok (Nx.refl c0))
     |cons _ _=>simp[aR]at c
    |cons c1 cs =>
     cases cs with
     |nil =>
      cases cond with
      |nil=>simp[aR]at c
      |cons l G9 =>
       cases G9 with
       |nil =>
        simp only[aR,cc]at c;show si (lN l (Hs X _ scope D s H ex) c1 (g.cx _ _ _ _ _ _) c.1.2)
       |cons _ _=>simp[aR]at c
     |cons _ _=>simp at Y)
   (λD s H ex=>bF e (Hs X _ scope D s H ex) elt (g.cx _ _ _ _ _ _) h8) (by rw[kW G.kd,k]) (rn O)
def Ap(G:Gs ck Γ C d X)(h:Dh ck (.inc i n) X.N X.env.scope s'=b6):L2.PS X s' (Hl C (OK (.inc i n)) (exec Γ (.inc i n))):=by
 have⟨t,op,b,p,rfl,e⟩:=kU h;have⟨x,m,rfl,f⟩:=mM e;have⟨c,o,q,rfl,a⟩:=gQ f;simp only[cc,Zl]at a;obtain⟨⟨⟨rfl,g⟩,k⟩,rfl⟩:=a;show Ez (λj l=>Zr (show cL (j≠i)=b6 from l)) G.nd g (ox k) (.inl (G.fn x))
mutual
theorem F_:∀(s:S) (X:Cx) (s':Ly),Gs ck Γ C d X->Dh ck s X.N X.env.scope s'=b6->L2.PS X s' (Hl C (OK s) (exec Γ s))
 |.set i e,X,s',G,h=>by
  have⟨t,v,p1,rfl,f⟩:=dI h;have⟨x,p,rfl,k⟩:=mM f;clear h f;have h:=k;simp only[cc,Zl]at h;obtain⟨⟨⟨⟨⟨q,r⟩,y⟩,l⟩,B⟩,A⟩:=h;have HG:∀j,OK (.set i e) j=b6->j≠i:=λj Y=>Zr (show cL (j≠i)=b6 from Y);by_cases hc:dw v=b6
  .show Bc HG G.nd q (ox r) (.inl (G.fn x)) (bF e X v G.gd l) (iA hc)
  .cases e with
   |comp n t ik src cond e =>
    obtain⟨elt,tg,ac,al,scope,p3,rfl,_⟩:=iZ l;show Di G q r l _ HG
   |_=>show absurd A hc
 |.IZ is e,X,s',G,h=>by
  have⟨t,v,p1,rfl,f⟩:=dI h;have⟨es,kk,p,rfl,k⟩:=kO f;clear h f;have h:=k;simp only[cc]at h;obtain⟨⟨⟨q,r⟩,y⟩,l⟩:=h;show C0 (λj Y=>Zr (show cL (j∉is)=b6 from Y)) (bF e X v G.gd l) (pV (fa:=b6) G.gd.calm G.gd.K G.nd (λ_=>G.fn) q) (oy r) ?_ rfl;cases v<;>first|rfl|cases y
 |.put i a b,X,s',G,h=>by
  have⟨t,v,p,rfl,f⟩:=dI h;have⟨o,a',p1,rfl,k⟩:=cz f;have⟨x,px,rfl,Q⟩:=aq k;simp only[cc,Zl]at Q;obtain⟨⟨⟨⟨⟨⟨q,r⟩,y⟩,l⟩,B⟩,A⟩,h7⟩:=Q;have⟨L,O⟩:=aK y;show Ey G.gd.P G.gd.w G.gd.K G.gd.u q (bV r) L O (bF b X _ G.gd h7) (bF a X _ G.gd A) (oy l) rfl (tm B)
 |.app i e,X,s',G,h=>by
  have⟨c,p0,rfl,f⟩:=dH h;have⟨o,m,T,as,F',rfl,k⟩:=br f;have⟨x,px,rfl,Q⟩:=aq k;have⟨a,rfl,z4⟩:=aZ Q;simp only[cc,Zl]at z4;obtain⟨⟨⟨⟨⟨⟨rfl,q⟩,r⟩,y⟩,l⟩,B⟩,A⟩:=z4;have⟨L,O⟩:=aK y;have st:=bw (env:=X.env) (es:=[]) B;have sa:=(bo (pos:=F') (env:=X.env) (es:=[a]) λe he=>by simp at he;subst he;show B).2;show Eu G.gd.K q (bV r) L O (bF e X _ G.gd A) ?_ l st;rw[sa];rfl
 |.ext i e,X,s',G,h=>by
  have⟨c,p0,rfl,f⟩:=dH h;have⟨o,m,T,as,F',rfl,k⟩:=br f;have⟨x,px,rfl,Q⟩:=aq k;have⟨a,rfl,z4⟩:=aZ Q;simp only[cc,Zl]at z4;obtain⟨⟨⟨⟨⟨⟨rfl,q⟩,r⟩,y⟩,l⟩,B⟩,A⟩:=z4;have⟨L,O⟩:=aK y;have st:=bw (env:=X.env) (es:=[]) B;have sa:=(bo (pos:=F') (env:=X.env) (es:=[a]) λe he=>by simp at he;subst he;show B).2;show Ew G.gd.K q (bV r) L O (bF e X _ G.gd A) ?_ l st;rw[sa];rfl
 |.bad,X,s',G,h=>λag sh σ H D I ⟨_,_,_,_,w⟩=>(bf.mp w).elim
 |.newD i,X,s',G,h=>by
  have⟨t,v,p1,rfl,f⟩:=dI h;have⟨x,p,rfl,k⟩:=aq f;clear h f;have h:=k;simp only[cc,Zl]at h;have⟨p2,rfl⟩:=mK h.1.1;show C2 (λj Y=>Zr (show cL (j≠i)=b6 from Y)) G.nd h.1.2 (ox h.2) (.inl (G.fn _)) (iA rfl)
 |.putD i a b,X,s',G,h=>by
  have⟨t,v,p,rfl,f⟩:=dI h;have⟨o,a',p1,rfl,k⟩:=cz f;have⟨x,px,rfl,Q⟩:=aq k;simp only[cc,Zl]at Q;obtain⟨⟨⟨⟨⟨⟨q,r⟩,y⟩,l⟩,B⟩,A⟩,h7⟩:=Q;have⟨L,O⟩:=aK y;show C3 G.gd.u q (bV r) L O (bF b X _ G.gd h7) (bF a X _ G.gd A) (oy l) rfl (tm B)
 |.Ia i a e,X,s',G,h=>by
  have⟨c,p0,rfl,f⟩:=dH h;have⟨o,m,T,as,F',rfl,k⟩:=br f;have⟨o',a',p1,rfl,Q⟩:=cz k;have⟨x,px,rfl,z4⟩:=aq Q;have⟨b,rfl,z5⟩:=aZ z4;simp only[cc,Zl]at z5;obtain⟨⟨⟨⟨⟨⟨⟨⟨rfl,q⟩,r⟩,y⟩,l⟩,B⟩,A⟩,h7⟩,h8⟩:=z5;have ha:=bF e X _ G.gd h8;have⟨L,O⟩:=aK y;have st:=bw (env:=X.env) (es:=[]) A;have sa:=(bo (pos:=F') (env:=X.env) (es:=[b]) λe he=>by simp at he;subst he;show A).2;show C4 G.gd.K G.gd.u q (bV r) L O ha (bF a X _ G.gd h7) (kP l) ?_ B st;rw[sa];rfl
 |.aug sub i a e,X,s',G,h=>by
  have⟨t,op,b,p,rfl,J⟩:=kU h;clear h;have h:=J;have⟨o,a',p1,rfl,f⟩:=cz h;have⟨x,px,rfl,k⟩:=aq f;simp only[cc,Zl]at k;obtain⟨⟨⟨⟨⟨⟨⟨rfl,q⟩,r⟩,y⟩,l⟩,B⟩,A⟩,h7⟩:=k;have ha:=F9 (C:=C) (Γ:=Γ) (d:=d) (ck:=ck) G.gd h7 A;have⟨L,O⟩:=aK y;show EC q (bV r) L O ha (bF a X _ G.gd B) (Ao l)
 |.OI i,X,s',G,h=>absurd (show cK=b6 from h) ke
 |.exp e,X,s',G,h=>by
  have⟨e',p,rfl,J⟩:=dH h;clear h;have h:=J;simp only[cc]at h;show Eo (bF e X _ G.gd h.2) (iA h.1)
 |.ret e,X,s',G,h=>by
  have⟨v,p,rfl,J⟩:=gR h;have⟨e',rfl,f⟩:=mN J;clear h J;have h:=f;show Ep (bF e X _ G.gd h)
 |.I0 i e,X,s',G,h=>by
  have g:=G.gd;have⟨v0,p0,rfl,y0⟩:=gR h;have⟨v,rfl,y1⟩:=mN y0;clear h y0;have h:=y1;have⟨elt,tg,ac,scope,p,rfl,f⟩:=pW h;have⟨o,m,T,as,F',rfl,k⟩:=br f;have⟨x,px,rfl,Q⟩:=aq k;simp only[cc,Zl,ve]at Q;obtain⟨⟨⟨⟨⟨⟨⟨⟨⟨⟨rfl,rfl⟩,q⟩,r⟩,y⟩,l⟩,B⟩,A⟩,h7⟩,h8⟩,h9⟩:=Q;cases tg with
  |Tuple es kx ps =>
   have⟨L,O⟩:=aK y;have S:=qG (X:=X) rfl (i_ _ _) h7;rw[<-A]at h8;show C5 q (bV r) L O l S g.calm A (λD s H ex=>pV (fa:=cK) g.calm g.K S.nd (λz=>nomatch z) h8) (λD s H ex=>bF e _ _ (g.cx _ _ _ _ _ _) h9)
  |_=>cases B
 |.JA,X,s',G,h=>by
  have⟨v,p,rfl,J⟩:=gR h;cases v with
  |none=>show CY
  |some _=>cases J
 |.ite c a b,X,s',G,h=>by
  have⟨c',a',b',p,rfl,J⟩:=rq h;clear h;have h:=J;simp only[cc]at h;have ha:=kX a X _ G h.1.2;have hb:=kX b X _ G h.2;show Er (lN c X _ G.gd h.1.1) (Hx.weak ha λD σ H z=>om (λj Y=>(GB.mp (show(Ii a j&&Ii b j)=b6 from Y)).1) z) (Hx.weak hb λD σ H z=>om (λj Y=>(GB.mp (show(Ii a j&&Ii b j)=b6 from Y)).2) z)
 |.GN t is ik src body,X,s',G,h=>by
  have⟨tg,ac,IF,p,rfl,J⟩:=rA h;clear h;have h:=J;rw[cc,cc,cc]at h;show Et G.po G.gd.calm (tq G.gd h.1.2) (pV (fa:=b6) G.gd.calm G.gd.K G.nd (λ_=>G.fn) h.1.1.1) (kX body X _ G h.2) (rn h.1.1.2) λj Y=>by have Y:(cL (j∉is)&&Ii body j)=b6:=Y;simpa using Y
 |.Kh c body,X,s',G,h=>by
  have⟨c',IF,p,rfl,J⟩:=uT h;clear h;have h:=J;simp only[cc]at h;show Es G.po (lN c X _ G.gd h.1) (kX body X _ G h.2)
 |.brk,X,s',G,h=>absurd (show cK=b6 from h) ke
 |.cnt,X,s',G,h=>absurd (show cK=b6 from h) ke
 |.LG i,X,s',G,h=>by
  have⟨e,p,rfl,J⟩:=dH h;have⟨o,m,T,as,F',rfl,f⟩:=br J;have⟨x,px,rfl,k⟩:=aq f;simp only[cc,Zl,ve]at k;obtain⟨⟨⟨⟨⟨rfl,rfl⟩,q⟩,r⟩,y⟩,l⟩:=k;have⟨L,O⟩:=aK y;show EF G.gd.K q (bV r) L O l
 |.JK is,X,s',G,h=>absurd (show cK=b6 from h) ke
 |.inc i n,X,s',G,h=>Ap G h
 |.OJ,X,s',G,h=>absurd (show cK=b6 from h) ke
theorem kX:∀(b:List S) (X:Cx) (a:List Ly),Gs ck Γ C d X->dJ ck b X.N X.env.scope a=b6->Hx X a (Hl C (Ii b) (execs Γ b))
 |[],X,a,G,h=>by
  cases a with
  |nil=>show En
  |cons _ _=>simp[dJ]at h
 |s::b,X,a,G,h=>by
  cases a with
  |nil=>simp[dJ]at h
  |cons s' a =>
   simp only[dJ,cc]at h;have e:=F_ s X s' G h.1;have f:=kX b X a G h.2;show CW (PS.weak e λD σ H z=>om (λj c=>by simp only[Ii,cc]at c;show c.1) z) (Hx.weak f λD σ H z=>om (λj c=>by simp only[Ii,cc]at c;show c.2) z)
end
end
section
variable{ck:Ck}{Γ:Tab}{d:Nat}{P:wh}{w:G1}{K:PySem.W.Frag}{mg:Str->Option d3}{base:Ic}
def jc{n i:Nat}(h:(start us n)[i]?=bD (bD (k,u))):us[i]?=bD u/\k=if GP u=b6 then .loc else .any:=by
 unfold start at h;by_cases a:i<us.length
 .rw[ux (by simpa using a),i8]at h;rw[nC a]at h ⊢;simp only[P6,N7,UQ]at h;have⟨b,c⟩:=h;subst c;show⟨rfl,b.symm⟩
 .rw[oT (by simp;lia),Il]at h;split at h<;>cases h
def c8{i:Nat}(h:vs[i]?=bD v):(L2.start N vs)[i]?=bD (bD v):=by
 unfold L2.start;have a:i<vs.length:=(eh.mp h).1;rw[ux (by simpa using a),i8,h];rfl
def xC(p:∀a,c a->Ig H a)(h:ak (JB P w K H c) c H us vs)(q:N.length=n):Ok (JB P w K H c) ⟨λ_=>False,H,L2.start N vs,start us n,λ_=>[]⟩:=by
 have f:∀(j:Nat) (u:U),(start us n)[j]?≠bD (bD (.Gm,u)):=λj u e=>by
  have:=(jc e).2;split at this<;>cases this
 show⟨λa o e _=>e,λa z=>z.elim,λa z=>⟨p a z,λz=>z⟩,λa z=>z.elim,?_,λi k u e=>?_,λi j k k' u u' r hk t g m x y=>?_,⟨λj u r e _=>(f j u e).elim,λi j a ⟨u,_,e,_⟩=>(f i u e).elim,λj a ⟨u,_,e,_⟩=>(f j u e).elim⟩⟩
 .have:=h.len;simp[start,L2.start,q];lia
 .have⟨g,m⟩:=jc e;have⟨v,ev,b⟩:=h.get g;show⟨v,c8 ev,?_⟩;subst m;by_cases l:GP u=b6
  .rw[Zm l];show Rep.GP l b
  .rw[Zn l];show Rep.mv (.up λa z=>.inl z) b
 .obtain⟨_,s⟩:=jc g;subst s;split at hk<;>cases hk
def oz(h:dF Γ fn us=bD (.ok (k,u))):us.length=fn.np/\((k=.own\/k=.loc\/k=.any)/\(∃st',execs Γ fn.body (start us fn.ns)=bD (.ok (.rt k u),st'))\/(k=.loc/\u=.GC/\∃st',execs Γ fn.body (start us fn.ns)=bD (.ok .nx,st'))):=by
 unfold dF at h;split at h
 .rename_i hl;show⟨hl,?_⟩;split at h
  .rename_i e;cases h;show .inl ⟨.inl rfl,_,e⟩
  .rename_i e;cases h;show .inl ⟨.inr (.inl rfl),_,e⟩
  .rename_i e;cases h;show .inl ⟨.inr (.inr rfl),_,e⟩
  .rename_i e;cases h;show .inr ⟨rfl,rfl,_,e⟩
  .cases h
  .cases h
 .cases h
def Bi{st:Ly}(F:KU K fn.name i st f J)(S:dX N ps (aN st))(L:N.length=fn.ns)(O:ps.length=fn.np)
  (T:dJ ck fn.body N (aN st) (cP st)=b6) (q:∀x∈bU,mg x=cb) (t:∀g∈ck.fns,Ah P w K mg base d (Γ g) g)
  (Y:∀p∈ck.gl,∃b v,mg p.1=bD b/\RelV v b/\∀(C:Ct) S H,Rep C S H p.2 v) (Iz:∀p∈ck.Iz,Ai P w K mg base d (Γ p.1) p.1 p.2):jB P w K mg base Jt (d+1) f J ps (spT P w K (dF Γ fn) fn.np):=by
 show F.ok S (λvs H Q E h=>h.1.trans O.symm) (λB A outer s H vs Q E D h=>?_);have⟨hl,us,k,u,m,G',hk,V6,y,j⟩:=h;have MF:=D.un;have G:Gs ck Γ (JB P w K H m) d (oX Jt P w K mg base N i (aN st) f B A outer s H E).Mk :=
  ⟨⟨rfl,rfl,rfl,by change(A.deeper (Rh i (aN st) s.heap.objs.size f B)).units+60<Jq;lia,rfl,D,q,t,λp hp=>let ⟨b,v,q1,q2,q3⟩:=Y p hp;⟨b,v,q1,q2,q3 _⟩,Iz⟩,S.nd,λ_=>rfl,WE,S.kind⟩
 show⟨_,kX fn.body _ _ G T,⟨λ_=>False,H,L2.start N vs,start us fn.ns,λ_=>[]⟩,rfl,rfl,xC V6 y L,?_⟩;obtain⟨_,RB⟩:=oz G';have I:∀(c:Cf),Ok (JB P w K H m) c->∀v,CV (JB P w K H m) c k u v->Back (JB P w K H m) H c.H c.S k u v:=λc l v r=>by
  show⟨λa o e=>l.same a o e λz=>z,λa z=>l.Iy a z,λe=>?_,λe=>?_,λe=>?_⟩
  .subst e;have⟨r0,e,h1,h2,h3,h4⟩:=r;show⟨r0,e,h1,h2,h4⟩
  .subst e;show r
  .subst e;show r
 rcases RB with⟨_,st',e⟩|⟨rfl,rfl,st',e⟩
 .show⟨_,st',e,λc ec l n kp v r=>j v c.H c.S (I c l v r)⟩
 .show⟨_,st',e,λc ec l n kp=>j .GC c.H c.S (I c l .GC rfl)⟩
def gS(h:(cR is us n)[i]?=bD (bD (k,u))):us[i]?=bD u/\k=if i∈is then .io else if GP u=b6 then .loc else .any:=by
 unfold cR at h;by_cases a:i<us.length
 .rw[ux (by simpa using a),i8,QW]at h;rw[nC a]at h ⊢;simp only[P6,N7,UQ,Nq]at h;have⟨b,c⟩:=h;subst c;show⟨rfl,b.symm⟩
 .rw[oT (by simp;lia),Il]at h;split at h<;>cases h
def uU(a:C6 C C.H₀ is us vs)(s:N.length=n):Ok C ⟨λ_=>False,C.H₀,L2.start N vs,cR is us n,λ_=>[]⟩:=by
 have g:∀(j:Nat) (u:U),(cR is us n)[j]?≠bD (bD (.Gm,u)):=λj u e=>by
  have:=(gS e).2;split at this
  .cases this
  .split at this<;>cases this
 have rt:∀(j:Nat) (k:Kd) (u:U),k.root=b6->(cR is us n)[j]?=bD (bD (k,u))->j∈is/\us[j]?=bD u:=λj k u hk e=>by
  have⟨f,b⟩:=gS e;show⟨?_,f⟩;by_cases z:j∈is
  .show z
  .rw[Zn z]at b;subst b;split at hk<;>cases hk
 show⟨λa o e _=>e,λa z=>z.elim,λx z=>a.par x z,λx z=>⟨a.Tg x z,a.Tg x z⟩,?_,λi k u e=>?_,λi j k k' u u' r hk t f b l m=>?_,⟨λj u r e _=>(g j u e).elim,λi j a ⟨u,_,e,_⟩=>(g i u e).elim,λj a ⟨u,_,e,_⟩=>(g j u e).elim⟩⟩
 .have:=a.len;simp[cR,L2.start,s];lia
 .have⟨f,b⟩:=gS e;by_cases z:i∈is
  .rw[Zm z]at b;subst b;have⟨r,b1,c,b3⟩:=a.io i u z f;show⟨_,c8 b1,r,rfl,λz=>z,λz=>(a.par r z).2 c,c,b3⟩
  .rw[Zn z]at b;have⟨v,b1,c⟩:=a.any i u z f;show⟨v,c8 b1,?_⟩;subst b;by_cases h:GP u=b6
   .rw[Zm h];show Rep.GP h c
   .rw[Zn h];show Rep.mv (.up λa z=>.inl z) c
 .have⟨p,y⟩:=rt i k u hk f;have⟨q,A⟩:=rt j k' u' t b;obtain⟨B,b1,_⟩:=a.io i u p y;obtain⟨D,c,_⟩:=a.io j u' q A;rw[c8 b1]at l;rw[c8 c]at m;cases l;cases m;show a.inj i j _ p q b1 c
theorem tu:∀{is:List Nat}{st:av}{ws:List U},LK is st=bD ws->ws.length=is.length/\∀(n i:Nat),is[n]?=bD i->∃w,ws[n]?=bD w/\st[i]?=bD (bD (.io,w))
 |[],_,_,h=>by cases h;show⟨rfl,λn i e=>by simp at e⟩
 |i::is,st,ws,h=>by
  unfold LK at h;split at h
  .rename_i u c;rw[gj]at h;have⟨ws',h,rfl⟩:=h;have⟨a,b⟩:=tu h;show⟨by simp[a],λn j e=>?_⟩;cases n with
   |zero=>simp at e;subst e;show⟨u,rfl,c⟩
   |succ n=>have⟨w,f,g⟩:=b n j (by simpa using e);show⟨w,by simpa using f,g⟩
  .cases h
def tv(h:gN Γ fn is body us=bD (.ok r)):us.length=fn.np/\∃f st k u ws,execs Γ body (cR is us fn.ns)=bD (.ok f,st)/\OL f=bD (k,u)/\LK is st=bD ws/\r=(k,.tup (u::ws)):=by
 unfold gN at h;split at h
 .rename_i hl;show⟨hl,?_⟩;split at h
  .rename_i f st e;obtain⟨⟨k,u⟩,a,h⟩:=rz.mp h;rw[gj]at h;have⟨ws,b,c⟩:=h;cases c;show⟨f,st,k,u,ws,e,a,b,rfl⟩
  .cases h
 .cases h
def Dj{st:Ly}(F:KU K fn.name j st f fd)(S:dX N ps (aN st))(hN:N.length=fn.ns)(II:ps.length=fn.np)(HG:∀i∈is,Ii body i=b6)
  (L5:dJ ck body N (aN st) (cP st)=b6) (B:∀x∈bU,mg x=cb) (D:∀g∈ck.fns,Ah P w K mg base d (Γ g) g)
  (JC:∀p∈ck.gl,∃b v,mg p.1=bD b/\RelV v b/\∀(C:Ct) S H,Rep C S H p.2 v) (Iz:∀p∈ck.Iz,Ai P w K mg base d (Γ p.1) p.1 p.2):jB P w K mg base Jt (d+1) f fd ps (OV P w K (gN Γ fn is body) fn.np is):=by
 show F.ok S (λvs H Q E h=>h.1.trans II.symm) (λL A outer s H vs Q E O h=>?_);have⟨hl,us,k,u,ws,o,IO,G',hk,I,l⟩:=h;have MF:=O.un;have G:Gs ck Γ (J7 P w K H o IO) d (oX Jt P w K mg base N j (aN st) f L A outer s H E).Mk :=
  ⟨⟨rfl,rfl,rfl,by change(A.deeper (Rh j (aN st) s.heap.objs.size f L)).units+60<Jq;lia,rfl,O,B,D,λp hp=>let ⟨b,v,q1,q2,q3⟩:=JC p hp;⟨b,v,q1,q2,q3 _⟩,Iz⟩,S.nd,λ_=>rfl,WE,S.kind⟩
 show⟨_,kX body _ _ G L5,⟨λ_=>False,H,L2.start N vs,cR is us fn.ns,λ_=>[]⟩,rfl,rfl,uU (C:=J7 P w K H o IO) I hN,?_⟩;obtain⟨_,T,st',k',u',ws',e,q,e2,e3⟩:=tv G';cases e3;have⟨l1,l2⟩:=tu e2;have Y:∀(c:Cf),c.st=st'->Ok (J7 P w K H o IO) c->Kept (Ii body) ⟨λ_=>False,H,L2.start N vs,cR is us fn.ns,λ_=>[]⟩ c->∀v,CV (J7 P w K H o IO) c k u v->Be (J7 P w K H o IO) H c.H c.S is vs ws k u v:=λc t m y v r=>by
  show⟨m.same,λa z=>m.Iy a z,λe=>?_,λe=>?_,l1,λn i r w g1 g2 g3=>?_⟩
  .subst e;have⟨r0,e,h1,h2,h3,h4⟩:=r;show⟨r0,e,h1,h2,h4⟩
  .subst e;show r
  .have⟨w',z1,z2⟩:=l2 n i g1;rw[g3]at z1;cases z1;rw[<-t]at z2;obtain⟨v',J,r',y2,_,_,_,y3⟩:=m.sl i _ _ z2;have hi:i∈is:=mA g1;rw[y.1 i (HG i hi)]at J;rw[show(L2.start N vs)[i]?=bD (bD (.ref r)) from c8 g2]at J;cases J;cases y2;show y3
 show⟨T,st',e,λc t m n y=>?_⟩;cases T with
 |nx=>cases q;show l .GC c.H c.S (Y c t m y .GC rfl)
 |rt k0 u0=>cases k0<;>first|(cases q;done)|(cases q;show λv r=>l v c.H c.S (Y c t m y v r))
 |_=>cases q
abbrev Fn.bd(fn:Fn):List S:=match fn.io with|some (_,b)=>b|none=>fn.body
abbrev OY(fn:Fn):Bool:=match fn.io with|some (is,b)=>is.all λi=>Ii b i|none=>b6
abbrev OZ(ck:Ck)(Pg:List Fn):Bool:=ck.fns.all (λg=>Pg.any λfn=>cL (fn.name=g)&&fn.io.isNone)&&ck.Iz.all λp=>Pg.any λfn=>cL (fn.name=p.1)&&cL (fn.io.map (·.1)=bD p.2)
structure Ld(ck:Ck)(K:PySem.W.Frag)(mg:Str->Option d3)(fn:Fn):Prop where
 ex:∃(qual:Str) (st:Ly) (f:hH) (fd:PU) (N ps:List Str),KU K fn.name qual st f fd/\mg fn.name=bD (.ref f)/\Binds K fd ps []/\dX N ps (aN st)/\N.length=fn.ns/\ps.length=fn.np/\dJ ck fn.bd N (aN st) (cP st)=b6/\OY fn=b6
def Aq{Pg:List Fn}(a:(Pg.map (·.name)).Nodup)(h:fn∈Pg):Pg.find? (λg=>cL (g.name=fn.name))=bD fn:=by
 induction Pg with
 |nil=>cases h
 |cons g Pg b =>
  rw[eH,mh]at a;rcases gs.mp h with rfl|h
  .simp
  .rw[K'];have:cL (g.name=fn.name)=cK:=by
    apply Zo;intro z;show a.1 (z▸WX h)
   rw[this];show b a.2 h
def rB(a:(Pg.map (·.name)).Nodup)(h:fn∈Pg):GD Pg (d+1) fn.name=iW (GD Pg d) fn:=by
 funext us
 change(match Pg.find? λg=>cL (g.name=fn.name) with|some fn=>iW (GD Pg d) fn us|none=>cb)=_;rw[Aq a h]
def mO(h:fn.io=cb):iW Γ fn=dF Γ fn:=by funext us;unfold iW;rw[h]
def uV(h:fn.io=bD (is,b)):iW Γ fn=gN Γ fn is b:=by funext us;unfold iW;rw[h]
def tw(O:(Pg.map (·.name)).Nodup)(o:OZ ck Pg=b6)(q:∀x∈bU,mg x=cb)(T:∀p∈ck.gl,∃t v,mg p.1=bD t/\RelV v t/\∀(C:Ct) S H,Rep C S H p.2 v)
  (ld:∀fn∈Pg,Ld ck K mg fn):∀d,(∀g∈ck.fns,Ah P w K mg base d (GD Pg d g) g)/\∀p∈ck.Iz,Ai P w K mg base d (GD Pg d p.1) p.1 p.2:=by
 simp only[OZ,cc,mx,SQ,Zl]at o;intro d;induction d with
 |zero =>
  show⟨λg I=>?_,λp J=>?_⟩
  .obtain⟨fn,i,rfl,_⟩:=o.1 g I;obtain⟨a,st,f,j,N,ps,F,l,m,S,B,n,_⟩:=(ld fn i).ex;show⟨fn.np,f,j,ps,⟨λvs H Q E h=>h.1.trans n.symm,λA outer s H args us vs Q E _ _ _ _ h=>by obtain⟨_,us,k,u,_,e,_⟩:=h;cases e⟩,l,F.kp,m,λus k u e=>by cases e⟩
  .obtain⟨fn,i,e,_⟩:=o.2 p J;obtain⟨a,st,f,j,N,ps,F,l,m,S,B,n,_⟩:=(ld fn i).ex;show⟨fn.np,f,j,ps,⟨λvs H Q E h=>h.1.trans n.symm,λA outer s H args us vs Q E _ _ _ _ h=>by obtain⟨_,us,k,u,_,_,_,e,_⟩:=h;cases e⟩,e▸l,F.kp,m,λus k e=>by cases e⟩
 |succ d G =>
  show⟨λg I=>?_,λp J=>?_⟩
  .have⟨fn,i,rfl,c⟩:=o.1 g I;rw[Pb]at c;obtain⟨a,st,f,j,N,ps,F,l,m,S,B,n,D,_⟩:=(ld fn i).ex;rw[rB O i,mO c];rw[show fn.bd=fn.body by unfold Fn.bd;rw[c]]at D;show⟨fn.np,f,j,ps,Bi F S B n D q G.1 T G.2,l,F.kp,m,λus k u e=>?_⟩;have⟨h1,h2⟩:=oz e;show⟨?_,h1⟩;rcases h2 with⟨z,_⟩|⟨z,_⟩
   .show z
   .show .inr (.inl z)
  .have⟨fn,i,e,c⟩:=o.2 p J;rw[gj]at c;obtain⟨⟨is,b⟩,c,Y⟩:=c;have⟨x,y⟩:=p
   dsimp only at e Y
   subst e Y;have⟨a,st,f,j,N,ps,F,l,m,S,B,n,D,L⟩:=(ld fn i).ex;rw[rB O i,uV c];rw[show fn.bd=b by unfold Fn.bd;rw[c]]at D;unfold OY at L;rw[c]at L;show⟨fn.np,f,j,ps,Dj F S B n (mx.mp L) D q G.1 T G.2,l,F.kp,m,λus r e=>(tv e).1⟩
end
abbrev rC(ns:List Int):U:=.J1 (ns.map .int)
theorem mP{S:hH->Prop}:∀(ns:List Int),ak C S H (ns.map .int) (ns.map V.int)
 |[]=>rfl
 |n::ns=>⟨_,_,rfl,rfl,mP ns⟩
def rD(h:G2 C.K H a (ns.map V.int)):Rep C (Ig H) H (rC ns) (.ref a):=by
 show⟨a,_,rfl,?_,mP ns⟩;rcases h with(h|⟨o,h⟩)|h
 .show .inl ⟨⟨_,h⟩,.inl h⟩
 .show .inl ⟨⟨_,h⟩,.inr ⟨o,h⟩⟩
 .show .inr h
theorem pY:∀{l:List α},(∀a∈l,f a=g a)->l.filterMap f=l.filterMap g
 |[],_=>rfl
 |a::l,h=>by rw[JU,JU,h a (by simp),pY λb c=>h b (by simp[c])]
theorem tD:∀(l:List Str) (us:List d3),l.Nodup->us.length=l.length->l.filterMap (λn=>((l.zip us).lookup n).map (n,·))=l.zip us
 |[],_,_,_=>rfl
 |a::l,[],_,h=>nomatch h
 |a::l,u::us,b,h=>by
  rw[mh]at b;have c:=tD l us b.2 (by simpa using h);simp only[MX,JU,sx,beq_self_eq_true,P6];congr 1
  conv=>rhs;rw[<-c]
  show pY λn d=>?_;have:(n==a)=cK:=by
   rw[beq_eq_false_iff_ne];rintro rfl;show b.1 d
  rw[this]
def xD(l:List Str)(us:List d3)(h:us.length=l.length):l.filter (λn=>((l.zip us).lookup n).isNone)=[]:=by
 rw[KN];intro n hn;induction l generalizing us with
 |nil=>cases hn
 |cons a l b =>
  cases us with
  |nil=>cases h
  |cons u us =>
   simp only[MX,sx];cases e:n==a with
   |true=>simp
   |false =>
    rcases gs.mp hn with rfl|hn
    .simp at e
    .show b us (by simpa using h) hn
def xE{kV a b c ct:d3}(d:(as.map (·.arg)).Nodup)(hl:us.length=(as.map (·.arg)).length):
  Za (PySem.W.fnOf x q ⟨[],as,cb,[],[],cb,[]⟩ body scope .none kV a b m c ct) ⟨us,[]⟩=pure ((as.map (·.arg)).zip us):=by
 have e:=tD _ us d hl;have f:=xD _ us hl;change(if _ then _ else _)=_;rw[Zn (by simp[hl])];have g:∀k:Nat,¬(!(((as.map (·.arg)).take k).filter λn=>(((as.map (·.arg)).zip us).lookup n).isNone).isEmpty)=b6:=λk=>by
  rw[KN.mpr λn h=>KN.mp f n (List.mem_of_mem_take h)];show ke
 show(Zn (g _)).trans ?_;have hz:∀(l:List Str) (i j:Nat),(l.drop i).zip ((cb.getD #[]:Array d3).toList.drop j)=[]:=λl i j=>by rw[show(cb.getD #[]:Array d3).toList=[] from rfl,List.drop_nil,List.zip_nil_right]
 show Eq.trans (Zq (λz=>Bind.bind (YH z _ _) _) (hz _ _ _)) ?_;show Zq (pure:List (Str×d3)->Sem (List (Str×d3))) ((Zq (List.filterMap _) (ri _)).trans e)
structure Me where
 fn:Fn
 i:Nat
 N:List Str
 a:hH
 c:hH
 m:d3
 cr:Obj
abbrev Me.fd(top:Nat->Ly)(m:Me):PU:=PySem.W.fnOf m.fn.name m.fn.name (fS (top m.i)) (cP (top m.i)) (aN (top m.i)) .none .none .none m.m cb (.ref m.c) .none
abbrev Me.fo(top:Nat->Ly)(m:Me):Obj:=⟨.type "function",cb,.func (m.fd top),#[]⟩
@[reducible]def Gx:=Obj
abbrev adr(ms:List Me):List hH:=3::ms.flatMap λm=>[m.c,m.a]
abbrev Jd(top:Nat->Ly)(g:Gx)(ms:List Me):PySem.W.Frag:=(3,g)::ms.flatMap λm=>[(m.c,m.cr),(m.a,m.fo top)]
def tE(top:Nat->Ly)(g:Gx)(ms:List Me):adr ms=(Jd top g ms).map (·.1):=by
 unfold adr Jd;rw[eH,List.map_flatMap];rfl
abbrev Dk(v:Option (Option d3))(a:hH):Bool:=match v with|some (bD (.ref b))=>cL (b=a)|_=>cK
def Ar(h:Dk v a=b6):v=bD (bD (.ref a)):=by
 unfold Dk at h;split at h
 .rw[Zr h]
 .cases h
abbrev nn(o:Option (Option d3)):Bool:=match o with|some cb=>b6|_=>cK
def EM(h:nn o=b6):o=bD cb:=by
 unfold nn at h;split at h
 .rfl
 .cases h
abbrev EN(p:Arguments)(ps:List Str):Bool:=p.posonlyargs.isEmpty&&p.vararg.isNone&&p.kwonlyargs.isEmpty&&p.kw_defaults.isEmpty&&p.kwarg.isNone&&p.defaults.isEmpty&&cL (p.args.map (·.arg)=ps)
abbrev Tq(N:List Str)(b:Nat)(a:K1):Bool:=cL (a.kind=.function)&&cL (a.isCoroutine=cK)&&cL (a.isGenerator=cK)&&decide N.Nodup&&(N.take b).all (lM a)&&a.names.all (λy=>cL (y.2≠.free))
abbrev Tr(ck:Ck)(top:Nat->Ly)(K:PySem.W.Frag)(m:Me):Bool:=PySem.W.codeIn K (.ref m.c) m.fn.name&&PySem.W.keepIn K (.ref m.a)&&Dk (PySem.W.nsIn K HA m.fn.name) m.a&&EN (fS (top m.i)) (m.N.take m.fn.np) &&
 Tq m.N m.fn.np (aN (top m.i))&&cL (m.N.length=m.fn.ns)&&cL (m.fn.np<=m.fn.ns)&&(dJ ck m.fn.bd m.N (aN (top m.i)) (cP (top m.i))&&OY m.fn)
abbrev Ts(K:PySem.W.Frag)(p:Str×U):Bool:=match p.2,PySem.W.nsIn K HA p.1 with
 |.int i,bD (bD (.int j _))=>cL (i=j)
 |.str i,bD (bD (.str j _))=>cL (i=j)
 |_,_=>cK
abbrev Lb(ck:Ck)(top:Nat->Ly)(K:PySem.W.Frag)(ms:List Me):Bool:=ms.all (Tr ck top K)&&bU.all (λy=>nn (PySem.W.nsIn K HA y))&&ck.gl.all (Ts K)&&cL (K.map (·.1)).Nodup
def EO{K:PySem.W.Frag}(b:(K.map (·.1)).Nodup)(h:(a,o)∈K):K.lookup a=bD o:=by
 induction K with
 |nil=>cases h
 |cons p K c =>
  rw[eH,mh]at b;rw[sx];rcases gs.mp h with rfl|h
  .simp
  .have:(a==p.1)=cK:=by
    rw[beq_eq_false_iff_ne];rintro rfl;show b.1 (i7.mpr ⟨_,h,rfl⟩)
   rw[this];show c b.2 h
section
def Bj(c:Lb ck top (Jd top g ms) ms=b6)(h:m∈ms):KU (Jd top g ms) m.fn.name m.fn.name (top m.i) m.a (m.fd top)/\PySem.W.nsIn (Jd top g ms) HA m.fn.name=bD (bD (.ref m.a)) /\
  (∀us:List d3,us.length=(m.N.take m.fn.np).length->Za (m.fd top) ⟨us,[]⟩=pure ((m.N.take m.fn.np).zip us))/\dX m.N (m.N.take m.fn.np) (aN (top m.i))/\m.N.length=m.fn.ns/\(m.N.take m.fn.np).length=m.fn.np/\(dJ ck m.fn.bd m.N (aN (top m.i)) (cP (top m.i))=b6/\OY m.fn=b6):=by
 simp only[Lb,cc,Zl]at c;have z:=mx.mp c.1.1.1 m h;simp only[Tr,cc,Zl]at z;obtain⟨⟨⟨⟨⟨⟨⟨j,k⟩,l⟩,b⟩,d⟩,n⟩,u⟩,o⟩:=z;simp only[Tq,cc,Zl]at d;obtain⟨⟨⟨⟨⟨s1,s2⟩,s3⟩,s4⟩,p⟩,q⟩:=d;have r:(Jd top g ms).lookup m.a=bD (m.fo top):=EO c.2 (gs.mpr (.inr (List.mem_flatMap.mpr ⟨m,h,by simp⟩)));have hl:(m.N.take m.fn.np).length=m.fn.np:=by rw[x3];lia
 show⟨B8 r j k,Ar l,λus f=>?_,⟨s1,s2,s3,s4,by rw[hl],λx s=>?_,λy t=>?_⟩,n,hl,o⟩
 .unfold Me.fd;revert b;cases fS (top m.i) with
  |mk v as w A B kw C =>
   intro b;simp only[EN,cc,ve,Pb,Zl]at b;obtain⟨⟨⟨⟨⟨⟨rfl,rfl⟩,rfl⟩,rfl⟩,rfl⟩,rfl⟩,e⟩:=b;rw[<-e]at f ⊢;show xE (by rw[e];show(XD _ _).nodup s4) f
 .have:=mx.mp p x s;simpa[lM] using this
 .have:=mx.mp q y t;simpa using this
def ER(i:Lb ck top (Jd top g ms) ms=b6)(X:(Jd top g ms).In h)(G:h.Ns HA mg)(j:m∈ms):Ld ck (Jd top g ms) mg m.fn :=
 let ⟨a,b,c,d,e,f,k⟩:=Bj i j
 ⟨_,_,_,_,_,_,a,PySem.W.mg_of X G b,.all c,d,e,f,k⟩
def Dl(d:Lb ck top (Jd top g ms) ms=b6)(X:(Jd top g ms).In h)(G:h.Ns HA mg):∀p∈ck.gl,∃a v,mg p.1=bD a/\RelV v a/\∀(C:Ct) S H,Rep C S H p.2 v:=by
 intro p e;simp only[Lb,cc,Zl]at d;have z:=mx.mp d.1.2 p e;unfold Ts at z;split at z
 .rename_i i j k b c;obtain rfl:=Zr z;show⟨_,.int i,PySem.W.mg_of X G c,⟨_,rfl⟩,λ_ _ _=>by rw[b];rfl⟩
 .rename_i i j k b c;obtain rfl:=Zr z;show⟨_,.str i,PySem.W.mg_of X G c,⟨_,rfl⟩,λ_ _ _=>by rw[b];rfl⟩
 .cases z
end
def walk{l:PySem.W.OpenLaw}{K:Xu->PySem.W.Frag}
  (B:l.most=bD 63) (D:d.params.defaults=[]) (I:fA (dp+1) Q2) (J:∀(w:G1) (h:Ic),L w h->(K w.params).In h)
  (m:(Pg.map (·.name)).Nodup) (A:OZ ck Pg=b6) (O:fn.io=cb) (Q:fn∈Pg) (J9:fn.name=d.name)
  (F:∀(w:G1) (mg:Str->Option d3) (fa:hH) (h:Ic),(K w.params).In h->h.Ns HA mg->mg d.name=bD (.ref fa) ->
   (∀y∈bU,mg y=cb)/\(∀p∈ck.gl,∃i v,mg p.1=bD i/\RelV v i/\∀(C:Ct) S H,Rep C S H p.2 v)/\(∀g∈Pg,Ld ck (K w.params) mg g) /\
   ∃(c:Str) (st:Ly) (j:PU) (N:List Str),KU (K w.params) fn.name c st fa j/\dX N [x] (aN st)/\N.length=fn.ns/\1=fn.np/\dJ ck fn.body N (aN st) (cP st)=b6/\∀(s:hh) (u:d3),Xx s j ⟨[u],[]⟩ [(x,u)])
  (T:∀ns:List Int,ns.length<=63->GD Pg (dp+1) fn.name [rC ns]=bD (.ok (.loc,.bl b6))) :
  PySem.W.WalkO q o XP L l.row.toRowW d [] (λf vs=>PySem.call f vs) :=
 L2.y8 (n:=63) (k:=dp+1) (x:=x) (CX:=λ_=>Jt) (sp:=λw=>spT l.prog w (K w.params) (dF (GD Pg dp) fn) fn.np) B (by decide) D I J
  (λw mg fa h Y G M5=>by
   have⟨e,r,ld,c,st,j,N,F1,S,hN,II,hc,hb⟩:=F w mg fa h Y G M5;show⟨j,hb,λbase _ _=>Bi F1 S hN II hc e (tw m A e r ld dp).1 r (tw m A e r ld dp).2⟩)
  (λw H a ns hl _ hS=>by
   have t:=T ns hl;rw[rB m Q,mO O]at t;have V8:fn.np=1:=(oz t).1.symm;show⟨V8.symm,[rC ns],.loc,.bl b6,Ig H,t,.inr (.inl rfl),λ_ z=>z,⟨_,_,rfl,rD hS,rfl⟩,λv H' S' b=>b.loc rfl⟩)
  λ_ _ _ _ _ z=>z
def walk2{l:PySem.W.OpenLaw}{g:Xu->Obj}
  (z:l.most=bD 63) (A:d.params.defaults=[]) (B:fA (dp+1) Q2) (o:ms.map (·.fn)=Pg) (C:(Pg.map (·.name)).Nodup) (D:OZ ck Pg=b6) (p:m.fn.io=cb) (r:m∈ms) (t:m.fn.name=d.name) (H:m.N.take m.fn.np=[x])
  (ok:∀P,Lb ck top (Jd top (g P) ms) ms=b6) (T:∀ns:List Int,ns.length<=63->GD Pg (dp+1) m.fn.name [rC ns]=bD (.ok (.loc,.bl b6))) :
  PySem.W.WalkO q j J (PySem.W.kHook (λP=>Jd top (g P) ms) (adr ms) λP=>tE top (g P) ms).says l.row.toRowW d [] (λf vs=>PySem.call f vs) :=
 walk z A B (λw h Y=>PySem.W.kIn_of Y) C D p (o▸i7.mpr ⟨m,r,rfl⟩) t (λw mg fa h X G v=>by
  have hk:=ok w.params;have⟨a,b,c,e,f,k,n⟩:=Bj hk r;rw[<-t,PySem.W.mg_of X G b]at v;cases v;rw[H]at c e k;show⟨λy i=>PySem.W.mg_none_of X G (EM ?_),Dl hk X G,λy i=>?_,_,_,_,_,a,e,f,k,by have:=n.1;rw[show m.fn.bd=m.fn.body by unfold Fn.bd;rw[p]]at this;show this,λs u=>.of_eq (c [u] rfl)⟩
  .simp only[Lb,cc]at hk;show mx.mp hk.1.1.2 y i
  .rw[<-o]at i;have⟨L,I,rfl⟩:=i7.mp i;show ER hk X G I) T
abbrev co(n:Str)(k l c:Nat)(r s:hH)(x y z:d3)(a b t:Nat):Obj:=⟨.type "code",cb,.fields #[.str n k,.str n (k+1),.str "/claim/cut.py" (k+2),.int l 0,.int c 0,.int 0 0,.int 0 0,.int 3 0,.ref r,.bool b6,.int t 0,.ref s,.none,x,y,z,.int a 0,.int l 0,.str "/claim/cut.py" b],#[]⟩
abbrev ge(P:Xu)(x:Str)(k:Nat)(v:d3):DictEntry:=⟨PyData.keyHash P x,.str x k,v⟩
end TM
namespace TM
open PySem L2
section
abbrev Run(m:M α)(st:av)(a:α)(st':av):Prop:=m st=bD (.ok a,st')
def ab(c:Run m st a st1)(d:Run (f a) st1 b st2):Run (m >>= f) st b st2:=by
 change M.bind m f st=_;unfold M.bind;rw[show m st=_ from c];show d
def aV:Run (pure a:M α) st a st:=rfl
def cS(h:o=bD a):Run (M.GQ o) st a st:=by subst h;rfl
def bb(h:a9 rs st):Run (aB rs) st () st:=by change aB rs st=_;unfold aB;rw[Zm h]
abbrev kv(i:Nat)(k:Kd):Kd:=if k.root=b6 then .bor i else k
def dM(h:st[i]?=bD (bD (k,u)))(hk:k≠.Gm:=by intro z;cases z):Run (cY i) st (kv i k,u) st:=by
 change cY i st=_;unfold cY;rw[h];cases k<;>first|rfl|show absurd rfl hk
def ae(h:st[i]?=bD (bD (.loc,u))):Run (ev Γ (.var i)) st (.loc,u) st:=dM h
def aP(h:st[i]?=bD (bD (.any,u))):Run (ev Γ (.var i)) st (.any,u) st:=dM h
def aD(h:st[i]?=bD (bD (.own,u))):Run (ev Γ (.var i)) st (.bor i,u) st:=dM h
def ai:Run (ev Γ (.cst u)) st (.loc,u) st:=rfl
def ES:Run (ev Γ (.LF x u)) st (.loc,u) st:=rfl
def ba(c:Run (ev Γ a) st x st1)(d:Run (ev Γ b) st1 y st2)(e:a9 [x,y] st2)(f:IJ op x y=bD r):Run (ev Γ (.bin op a b)) st r st2 :=
 ab c (ab d (ab (bb e) (cS f)))
def ju(d:Run (ev Γ a) st x st1)(e:Run (ev Γ b) st1 y st2)(f:a9 [x,y] st2)(g:cO op x.2 y.2=bD c):Run (ev Γ (.cmp op a b)) st (.loc,.bl c) st2 :=
 ab d (ab e (ab (bb f) (ab (cS g) aV)))
def bh(c:Run (ev Γ a) st x st1)(d:Run (ev Γ b) st1 y st2)(e:a9 [x,y] st2)(f:gh x y.2=bD r):Run (ev Γ (.idx a b)) st r st2 :=
 ab c (ab d (ab (bb e) (cS f)))
def pZ:Run (LJ Γ []) st cb st:=rfl
def kY(h:Run (ev Γ e) st (k,.int i) st1):Run (LJ Γ [e]) st (bD i) st1:=ab h rfl
def mQ(c:Run (ev Γ a) st x st1)(d:Run (LJ Γ lo) st1 l st2)(e:Run (LJ Γ f) st2 h b)(g:a9 [x] b)(i:lK x l h=bD r):Run (ev Γ (.JJ a lo f)) st r b :=
 ab c (ab d (ab e (ab (bb g) (cS i))))
def af:Run (bt Γ []) st [] st:=rfl
def aa(a:Run (ev Γ e) st r st1)(b:Run (bt Γ es) st1 rs st2):Run (bt Γ (e::es)) st (r::rs) st2:=ab a (ab b aV)
def cA(a:Run (bt Γ es) st rs st1)(b:a9 rs st1)(c:Ib f rs=bD r):Run (ev Γ (.bi f es)) st r st1:=ab a (ab (bb b) (cS c))
def Bk(a:Run (bt Γ es) st rs st1)(b:a9 rs st1)(c:qU f rs=bD r):Run (ev Γ (.KA f es)) st r st1:=ab a (ab (bb b) (cS c))
def xF(b:Run (ev Γ a) st x st1)(c:Run (bt Γ es) st1 rs st2)(d:a9 (x::rs) st2)(e:lL m x.2 rs=bD r):Run (ev Γ (.K7 m a es)) st r st2:=ab b (ab c (ab (bb d) (cS e)))
def tF(h:Γ f us=bD (.ok r))(a:isAny r.1=cK):Run (fj Γ f us) st r st:=by
 have⟨k,u⟩:=r;change fj Γ f us st=_;unfold fj;rw[h];cases k<;>first|rfl|cases a
def aQ(a:Run (bt Γ es) st rs st1)(b:a9 rs st1)(c:Γ f (rs.map (·.2))=bD (.ok r))(d:isAny r.1=cK:=by show rfl):Run (ev Γ (.call f es)) st r st1:=ab a (ab (bb b) (tF c d))
def dq(a:Run (bt Γ es) st rs st1)(b:a9 rs st1)(c:Run (de rs) st1 us st2)(d:us.length<=df):Run (ev Γ (.tup es)) st (.loc,.tup us) st2:=by
 show ab a (ab (bb b) (ab c ?_));rw[Zm d];show aV
def bu(a:Run (bt Γ es) st rs st1)(b:a9 rs st1)(c:Run (de rs) st1 us st2)(d:us.length<=df):Run (ev Γ (.lst es)) st (.own,.lst us) st2:=by
 show ab a (ab (bb b) (ab c ?_));rw[Zm d];show aV
def kZ:Run (ev Γ (.H_ r)) st (.own,.Gp [] []) st:=rfl
def k7:Run (lift (.own,u)) st u st:=rfl
def aE:Run (lift (.loc,u)) st u st:=rfl
def k8(h:GP u=b6):Run (lift (.any,u)) st u st:=by
 change(if GP u=b6 then(pure u:M U) else M.fail) st=_;rw[Zm h];rfl
def ax:Run (de []) st [] st:=rfl
def au(a:Run (lift r) st u st1)(b:Run (de rs) st1 us st2):Run (de (r::rs)) st (u::us) st2:=ab a (ab b aV)
def Dm(d:Run (GU Γ c) st b6 st1)(e:Run (ev Γ a) st1 r st2):Run (ev Γ (.ite c a b)) st r st2:=ab d e
def Dn(d:Run (GU Γ c) st cK st1)(e:Run (ev Γ b) st1 r st2):Run (ev Γ (.ite c a b)) st r st2:=ab d e
def aS(d:Run (ev Γ a) st x st1)(e:Run (ev Γ b) st1 y st2)(f:a9 [x,y] st2)(g:cO op x.2 y.2=bD c):Run (GU Γ (.cmp op a b)) st c st2:=ab d (ab e (ab (bb f) (cS g)))
def ET(h:Run (GU Γ a) st c st1):Run (GU Γ (.not a)) st (!c) st1:=ab h aV
def jv(h:Run (aU Γ es) st c st1):Run (GU Γ (.and es)) st c st1:=h
def k9:Run (aU Γ []) st b6 st:=rfl
def cB(h:Run (GU Γ e) st c st1):Run (aU Γ [e]) st c st1:=h
def oA(h:Run (GU Γ e) st b6 st1)(a:Run (aU Γ (b::es)) st1 c st2):Run (aU Γ (e::b::es)) st c st2:=ab h a
def rE(h:Run (GU Γ e) st cK st1):Run (aU Γ (e::a::es)) st cK st1:=ab h aV
def a5:Run (d7 i (.own,u)) st () (st.set i (bD (.own,u))):=rfl
def aI:Run (d7 i (.loc,u)) st () (st.set i (bD (.loc,u))):=rfl
def iB:Run (d7 i (.any,u)) st () (st.set i (bD (.any,u))):=rfl
def EU(a:Run (ev Γ e) st r st1)(b:Run (d7 i r) st1 () st2):Run (exec Γ (.set i e)) st .nx st2:=ab a (ab b aV)
def EV(b:∃k' c,st[i]?=bD (bD (k',.lst c))/\k'≠.Gm)(d:Run (ev Γ e) st r st1)(f:Run (lift r) st1 u st2)(g:st2[i]?=bD (bD (k,.lst us)))(hk:k.root=b6)(hl:us.length<df):
  Run (exec Γ (.app i e)) st .nx (st2.set i (bD (k,.lst (us++[u])))):=by
 have⟨k',c,b,h⟩:=b;show ab (dM b h) (ab (a:=()) (st1:=st) rfl (ab d (ab f (ab (a:=()) ?_ aV))));change modS i (wM u) st2=_;unfold modS;rw[g];simp only[hk,if_true];have e:wM u (.lst us)=bD (.lst (us++[u])):=by change(if us.length<df then _ else _)=_;rw[Zm hl]
 rw[e]
def EW(a:Run (ev Γ e) st r st1)(b:Run (retS r) st1 f st2):Run (exec Γ (.ret e)) st f st2:=ab a b
def gz:Run (retS (.own,u)) st (.rt .own u) st:=rfl
def dN:Run (retS (.loc,u)) st (.rt .loc u) st:=rfl
def jw(h:st[j]?=bD (bD (.own,u))):Run (retS (.bor j,a)) st (.rt .own u) (st.set j cb):=by
 change(match st[j]? with|some (bD (.own,u))=>bD (Ex.ok (Fl.rt .own u),st.set j cb)|_=>cb)=_;rw[h]
def gT(d:Run (GU Γ c) st b6 st1)(e:Run (execs Γ a) st1 f st2):Run (exec Γ (.ite c a b)) st f st2:=ab d e
def rF(d:Run (GU Γ c) st cK st1)(e:Run (execs Γ b) st1 f st2):Run (exec Γ (.ite c a b)) st f st2:=ab d e
def az:Run (execs Γ []) st .nx st:=rfl
def eL(a:Run (exec Γ s) st .nx st1)(b:Run (execs Γ c) st1 f st2):Run (execs Γ (s::c)) st f st2:=ab a b
def lO(a:Run (exec Γ s) st (.rt k u) st1):Run (execs Γ (s::b)) st (.rt k u) st1:=ab a aV
def ay(a:Run (ev Γ e) st r st1)(b:Run (d7 i r) st1 () st2)(c:Run (execs Γ d) st2 f g):Run (execs Γ (.set i e::d)) st f g:=eL (EU a b) c
def gA(a:st[i]?=bD (bD (k',.lst m)))(b:Run (ev Γ e) st r st1)(c:Run (lift r) st1 u st2)(d:st2[i]?=bD (bD (k,.lst us)))(hk:k.root=b6)(hl:us.length<df)
  (g:Run (execs Γ h) (st2.set i (bD (k,.lst (us++[u])))) f j) (l:k'≠.Gm:=by intro z;cases z):Run (execs Γ (.app i e::h)) st f j:=eL (EV ⟨_,_,a,l⟩ b c d hk hl) g
def bA(a:Run (ev Γ e) st r st1)(b:Run (retS r) st1 (.rt k u) st2):Run (execs Γ (.ret e::c)) st (.rt k u) st2:=lO (EW a b)
def fM(d:Run (GU Γ c) st b6 st1)(e:Run (execs Γ a) st1 .nx st2)(g:Run (execs Γ h) st2 f i):Run (execs Γ (.ite c a b::h)) st f i:=eL (gT d e) g
def bP(d:Run (GU Γ c) st cK st1)(e:Run (execs Γ b) st1 .nx st2)(g:Run (execs Γ h) st2 f i):Run (execs Γ (.ite c a b::h)) st f i:=eL (rF d e) g
def rG(d:Run (GU Γ c) st b6 st1)(e:Run (execs Γ a) st1 (.rt k u) st2):Run (execs Γ (.ite c a b::f)) st (.rt k u) st2:=lO (gT d e)
def Bl(a:Run (bt Γ src) st rs st1)(b:a9 rs st1)(c:Ih ik rs=bD xs)(d:sI rs is body=b6)(e:Run (forM t is (execs Γ body) rs xs) st1 f st2):
  Run (exec Γ (.GN t is ik src body)) st f st2:=by
 show ab a (ab (bb b) (ab (cS c) ?_));rw[Zm d];show e
def cJ(a:Run (bt Γ src) st rs st1)(b:a9 rs st1)(c:Ih ik rs=bD xs)(d:sI rs is body=b6)(e:Run (forM t is (execs Γ body) rs xs) st1 .nx st2)(g:Run (execs Γ h) st2 f i):
  Run (execs Γ (.GN t is ik src body::h)) st f i:=eL (Bl a b c d e) g
def Bm(h:a9 rs st):Run (forM t is body rs []) st .nx st:=ab (bb h) aV
def EX(h:a9 rs st)(a:Run (dg t is x) st () st1)(b:Run body st1 .nx st2)(c:Run (forM t is body rs xs) st2 f d):Run (forM t is body rs (x::xs)) st f d:=ab (bb h) (ab a (ab b c))
def Ga(h:a9 rs st)(a:Run (dg t is x) st () st1)(b:Run body st1 (.rt k u) st2):Run (forM t is body rs (x::xs)) st (.rt k u) st2:=ab (bb h) (ab a (ab b aV))
def dO(h:Run (d7 i r) st () st1):Run (dg cK [i] r) st () st1:=h
def aX(a:us.length=fn.np)(hk:k=.own\/k=.loc)(hs:start us fn.ns=st0)(h:Run (execs Γ fn.body) st0 (.rt k u) st):dF Γ fn us=bD (.ok (k,u)):=by
 subst hs;unfold dF;rw[Zm a,show execs Γ fn.body (start us fn.ns)=_ from h];rcases hk with rfl|rfl<;>rfl
def tH{cond:M Bool}(h:a9 src st):Run (bH k t cond elt src [] acc) st acc st:=ab (bb h) aV
def oB{cond:M Bool}(h:a9 src st)(c:Run (dg t (hW k) x) (i6 k cb++st) () s1)(d:Run cond s1 b6 s2)(e:Run elt s2 r s3)(g:Run (lift r) s3 u s4)
  (hl:acc.length<df) (i:Run (bH k t cond elt src xs (acc++[u])) (s4.drop k) us st2):Run (bH k t cond elt src (x::xs) acc) st us st2:=by
 show ab (bb h) (ab (a:=bD u) (st1:=s4.drop k) ?_ ?_)
 .change inScope k _ st=_;unfold inScope;have j:Run (dg t (hW k) x >>= λ_=>cond >>= λb=>if b=b6 then(elt >>= λr=>lift r >>= λu=>pure (bD u)) else pure cb) (i6 k cb++st) (bD u) s4 :=
   ab c (ab d (show Run (elt >>= λr=>lift r >>= λu=>pure (bD u)) s2 (bD u) s4 from ab e (ab (f:=λu=>pure (bD u)) g rfl)))
  rw[show _=_ from j]
 .change Run (if acc.length<df then bH k t cond elt src xs (acc++[u]) else M.fail) _ _ _;rw[Zm hl];show i
def xG{cond:M Bool}(h:a9 src st)(c:Run (dg t (hW k) x) (i6 k cb++st) () s1)(d:Run cond s1 cK s2)
  (e:Run (bH k t cond elt src xs acc) (s2.drop k) us st2):Run (bH k t cond elt src (x::xs) acc) st us st2:=by
 show ab (bb h) (ab (a:=cb) (st1:=s2.drop k) ?_ e);change inScope k _ st=_;unfold inScope;have f:Run (dg t (hW k) x >>= λ_=>cond >>= λb=>if b=b6 then(elt >>= λr=>lift r >>= λu=>pure (bD u)) else pure cb) (i6 k cb++st) cb s2 :=
  ab c (ab d (show Run (pure cb:M (Option U)) s2 cb s2 from rfl))
 rw[show _=_ from f]
def cC{src cond:List E}(a:Run (bt Γ src) st rs st1)(b:a9 rs st1)(c:Ih ik rs=bD xs)(d:Run (bH k t (aU Γ cond) (ev Γ e) rs xs []) st1 us st2):Run (ev Γ (.comp k t ik src cond e)) st (.own,.lst us) st2 :=
 ab a (ab (bb b) (ab (cS c) (ab d aV)))
end
section
def rH(c:Run (bt Γ es) st rs st1)(d:a9 (rs.map (dR st1)) st1)(e:Γ f ((rs.map (dR st1)).map (·.2))=bD (.ok (k,.tup (u::ws))))(hk:k=.own\/k=.loc)(a:pM (rs.map (dR st1)) is=b6)(b:gy (rs.map (dR st1)) is ws st1=bD st2):
  Run (ev Γ (.Gq f es is)) st (k,u) st2:=by
 have g:Run (bt Γ es >>= zw) st (rs.map (dR st1)) st1:=ab c (show Run (zw rs) st1 (rs.map (dR st1)) st1 from rfl);show ab g (ab (bb d) ?_);change pN Γ f _ is st1=_;unfold pN;rw[e];rcases hk with rfl|rfl
 .change(if _ then _ else _)=_;rw[Zm a,b]
 .change(if _ then _ else _)=_;rw[Zm a,b]
def EY(h:st[i]?=bD (bD (k,.lst us)))(hk:k.root=b6)(a:us[us.length - 1]?=bD u):Run (ev Γ (.pop i)) st (.loc,u) (st.set i (bD (k,.lst us.dropLast))):=by
 change wJ i st=_;unfold wJ;rw[h];change(if _ then _ else _)=_;rw[Zm hk,a]
def cu(a:us.length=fn.np)(hs:cR is us fn.ns=st0)(h:Run (execs Γ body) st0 f st)(b:OL f=bD (k,u))(c:LK is st=bD ws):gN Γ fn is body us=bD (.ok (k,.tup (u::ws))):=by
 subst hs;unfold gN;rw[Zm a,show execs Γ body (cR is us fn.ns)=_ from h];change(OL f).bind _=_;rw[b];change(LK is st).map _=_;rw[c];rfl
end
abbrev G4(Pg:List Fn)(f:Str)(fn:Fn):Prop:=(Pg.find? λg=>cL (g.name=f))=bD fn
section
def aF(h:G4 Pg f fn)(us:List U)(a:fn.io=cb:=by rfl):GD Pg (d+1) f us=dF (GD Pg d) fn us:=by
 change(match Pg.find? λg=>cL (g.name=f) with|some fn=>iW (GD Pg d) fn us|none=>cb)=_;rw[show _=bD fn from h];change iW _ _ _=_;unfold iW;rw[a]
def cM(h:G4 Pg f fn)(us:List U)(a:fn.io=bD (is,b)):GD Pg (d+1) f us=gN (GD Pg d) fn is b us:=by
 change(match Pg.find? λg=>cL (g.name=f) with|some fn=>iW (GD Pg d) fn us|none=>cb)=_;rw[show _=bD fn from h];change iW _ _ _=_;unfold iW;rw[a]
end
def d5(h:0<j):IJ .mod (k,.int i) (k',.int j)=bD (.loc,.int (i % j)):=by change(zp i j).map _=_;rw[zp,Zm h];rfl
def k_(h:0<j/\j<1073741824):IJ .LD (k,.int i) (k',.int j)=bD (.loc,.int (i / j)):=by change(zo i j).map _=_;rw[zo,Zm h];rfl
def j3(h:(-(2 ^ 64)<i/\i<2 ^ 64)\/(-(2 ^ 64)<j/\j<2 ^ 64)):IJ .mul (k,.int i) (k',.int j)=bD (.loc,.int (i * j)):=by change(zm i j).map _=_;rw[zm,Zm h];rfl
def ny(h:0<=j/\j<=1000000/\i.natAbs<2 ^ 64):IJ .pow (k,.int i) (k',.int j)=bD (.loc,.int (i ^ j.toNat)):=by change(zq i j).map _=_;rw[zq,Zm h];rfl
def cm:IJ .add (k,.int i) (k',.int j)=bD (.loc,.int (i+j)):=rfl
def fy:IJ .sub (k,.int i) (k',.int j)=bD (.loc,.int (i - j)):=rfl
def bW(h:Hm xs i=bD u):gh (k,.lst xs) (.int i)=bD (kE k,u):=by change(Hm xs i).map _=_;rw[h];rfl
def j7(h:Hm xs i=bD u):gh (k,.tup xs) (.int i)=bD (kE k,u):=by change(Hm xs i).map _=_;rw[h];rfl
local macro_rules
 |`(tactic| sizeOf_list_dec)=>`(tactic| first|exact az|apply ay|apply gA|apply bA|exact ai|exact ae rfl|exact aP rfl|exact aD rfl|apply ba|apply ju|apply bh|apply cA|apply aQ|apply xF|apply aS|exact af|apply aa|apply dq|apply bu|exact ax|apply au|exact aE|exact k7|(first|exact trivial|exact⟨⟨_,rfl,rfl⟩,trivial⟩|exact⟨⟨_,rfl,rfl⟩,⟨_,rfl,rfl⟩,trivial⟩)|exact cm|exact fy|exact d5 (by first|lia|decide)|exact k_ (by first|lia|decide)|exact j3 (by first|lia|decide)|exact ny (by decide)|exact aI|exact a5|exact iB|exact dN|exact gz|exact jw rfl|exact i3 _|exact rfl|exact KJ)
def Bn(h:cL (i<j)=c):cO .lt (.int i) (.int j)=bD c:=by subst h;rfl
def fN(h:cL (j<i)=c):cO .gt (.int i) (.int j)=bD c:=by subst h;rfl
def bC(h:(i==j)=c):cO .eq (.int i) (.int j)=bD c:=by subst h;rfl
def bG:Ib .len [(k,.lst xs)]=bD (.loc,.int (xs.length:Nat)):=rfl
def As:Ib .len [(k,.tup xs)]=bD (.loc,.int (xs.length:Nat)):=rfl
def xH(x:Kd×U):Ih .H9 [x]=wG x:=rfl
def oC(h:n<2 ^ 62):Ih .H9 [(k,.int (n:Nat))]=bD ((hW n).map λi:Nat=>(Kd.loc,U.int (0+(i:Int)))):=by
 rw[xH,wG,Zm ⋯,Lo]
end TM
local macro_rules
 |`(tactic| sizeOf_list_dec)=>`(tactic| first|exact TM.az|apply TM.ay|apply TM.gA|apply TM.bA|exact TM.ai|exact TM.ae rfl|exact TM.aP rfl|exact TM.aD rfl|apply TM.ba|apply TM.ju|apply TM.bh|apply TM.cA|apply TM.aQ|apply TM.xF|apply TM.aS|exact TM.af|apply TM.aa|apply TM.dq|apply TM.bu|exact TM.ax|apply TM.au|exact TM.aE|exact TM.k7|(first|exact trivial|exact⟨⟨_,rfl,rfl⟩,trivial⟩|exact⟨⟨_,rfl,rfl⟩,⟨_,rfl,rfl⟩,trivial⟩)|exact TM.cm|exact TM.fy|exact TM.d5 (by first|lia|decide)|exact TM.k_ (by first|lia|decide)|exact TM.j3 (by first|lia|decide)|exact TM.ny (by decide)|exact TM.aI|exact TM.a5|exact TM.iB|exact TM.dN|exact TM.gz|exact TM.jw rfl|exact i3 _|exact rfl|exact TM.KJ)
namespace GW
open PySem L2
def len_list(x:Str):x.length=x.cps.toList.length:=by simp[Ze]
def uW(a:0<=k)(b:k<=99):(vW k).length<=2:=by
 have⟨m,rfl⟩:=u7 a;have c:m<100:=by lia
 clear a b;revert m;decide +kernel
theorem fk:∀(ps:List Str) (acc:Array Nat),(ps.foldl (λacc p=>acc++ti.cps++p.cps) acc).toList=acc.toList++(ps.map λp=>p.cps.toList).flatten
 |[],acc=>by simp
 |p::ps,acc=>by
  rw[Qo,fk ps];have:ti.cps=#[]:=rfl;simp[this]
def join_list(a:List Str):(Q9 ti a).cps.toList=(a.map λp=>p.cps.toList).flatten:=by
 cases a with
 |nil=>rfl
 |cons t a =>
  change(a.foldl (λacc p=>acc++ti.cps++p.cps) t.cps).toList=_;rw[fk];simp
abbrev one(c:Nat):Str:=⟨#[c]⟩
def join_ones(cs:List Nat):(Q9 ti (cs.map one)).cps.toList=cs:=by
 rw[join_list,i0];induction cs with
 |nil=>rfl
 |cons c cs a=>rw[eH,Sv,a];rfl
def p5(cs:List Nat)(h:cs.length<=100):Yl ti (cs.map one)=b6:=by
 unfold Yl;have e:=PySem.StrLaws.joinTotal ti (cs.map one);have a:ti.length=0:=rfl;have es:((cs.map one).map (·.length)).sum=cs.length:=by
  rw[i0];clear h e;induction cs with
  |nil=>rfl
  |cons c cs b=>rw[eH,List.sum_cons,b];change 1+cs.length=cs.length+1;lia
 rw[e,a,es];have d:cs.length+(cs.map one).length * 0<=100:=by lia
 revert d;generalize cs.length+(cs.map one).length * 0=m;revert m;decide
def Dp(x:Str)(j:Nat):(PySem.StrLaws.sliceText x cb (bD (j:Int))).cps.toList=x.cps.toList.take j:=by
 by_cases h:j<=x.cps.toList.length
 .rw[PySem.StrLaws.sliceText_to (x:=x) ⟨⋯,⋯⟩];simp
 .have e:PySem.StrLaws.sliceText x cb (bD (j:Int))=PySem.StrLaws.sliceText x cb (bD (x.length:Int)):=by
   unfold PySem.StrLaws.sliceText;have hl:=len_list x;have:PySem.Builtin.Str.strSliceIndices cb (bD (j:Int)) 1 x.length=PySem.Builtin.Str.strSliceIndices cb (bD (x.length:Int)) 1 x.length:=by
    have a:¬((j:Int)<0):=by lia
    have b:¬((x.length:Int)<0):=by lia
    have c:min (j:Int) (x.length:Int)=x.length:=by lia
    simp[PySem.Builtin.Str.strSliceIndices,a,b,c]
   rw[this]
  have hl:=len_list x;rw[e,PySem.StrLaws.sliceText_to (x:=x) ⟨⋯,⋯⟩,List.drop_zero,Kv (l:=x.cps.toList) (i:=j) ⋯];change(x.cps.toList.take ((x.length:Int) - 0).toNat).toArray.toList=_;rw[Kv ⋯]
abbrev small:Str:="abcdefghijklmnopqrstuvwxyz"
theorem eM [DecidableEq α]:∀{l m:List α},l.Nodup->(∀x∈l,x∈m)->l.length<=m.length
 |[],_,_,_=>i3 _
 |x::l,m,c,h=>by
  have⟨d,e⟩:=mh.mp c;have a:=h x rr;have f:=eM (l:=l) (m:=m.erase x) e λy b=>(WI (by rintro rfl;show d b)).mpr (h y (sL _ b));rw[VE a]at f;have:0<m.length:=Wg a;rw[js];lia
end GW
namespace TM
open PySem L2 GW
def nE(a:x.length<=df)(h:Hm x.cps.toList i=bD c):gh (k,.str x) (.int i)=bD (.loc,.str (GW.one c)):=by
 simp only[gh];rw[Zm a,h];rfl
def p6:small.length<=df:=by decide
theorem dA:∀(a:List Str),strsOf (a.map U.str)=bD a
 |[]=>rfl
 |s::a=>by change(strsOf (a.map U.str)).map (s::·)=_;rw[dA a];rfl
section
def oD(h:x.length+y.length<=df):IJ .add (k,.str x) (k',.str y)=bD (.loc,.str (x++y)):=by
 simp only[IJ,wF];rw[Zm h]
theorem f9:∀(a:List Str) (n:Nat),dc n (a.map U.str)=b6
 |[],n=>by simp[dc]
 |s::a,n=>by simp only[eH,dc,f9 a n,Yq];cases n<;>rfl
theorem p8(x:Str):∀(a:List Str),((a.map U.str).any λy=>cn y (.str x))=cL (x∈a)
 |[]=>by simp
 |s::a=>by
  rw[eH,RX,p8 x a];have:cn (.str s) (.str x)=cL (x=s):=by
   simp only[cn];by_cases h:x=s
   .subst h;simp
   .have h':s≠x:=λz=>h z.symm;simp[h,h']
  rw[this,G7];simp
def Au(x:Str)(a:List Str):LH (.str x) (a.map U.str)=bD (cL (x∈a)):=by
 unfold LH;rw[Zm ⟨by rfl,f9 a 50⟩,p8]
def la{a:List Str}:cO .GG (.str x) (.lst (a.map U.str))=bD (cL (x∉a)):=by
 change(LH (.str x) (a.map U.str)).map (!·)=_;rw[Au];simp
end
section
end
def iC(h:Run (ev Γ j) st rv st1)(l:st1[i]?=bD (bD (k',u')))(m:Run (ev Γ n) st1 rk st2)(o:Run (de [rv,rk]) st2 [c,d] b)(p:b[i]?=bD (bD (k,e)))(hk:k.root=b6)(q:dU d c e=bD g)
  (r:Run (execs Γ s) (b.set i (bD (k,g))) f t) (u:k'≠.Gm:=by intro z;cases z):Run (execs Γ (.put i n j::s)) st f t:=by
 show eL (ab h (ab (dM l u) (ab m (ab o (ab (a:=()) (st1:=b.set i (bD (k,g))) ?_ aV))))) r;change modS i (sH [c,d]) b=_;unfold modS;rw[p];simp only[hk,if_true];change(match dU d c e with|some u'=>_|none=>cb)=_;rw[q]
@[reducible]def Row:=Str×List Str
abbrev B'(r:Row):U:=.tup [.str r.1,.tup (r.2.map .str)]
abbrev keyOf(r:Row):Row:=(r.1,aH r.2)
def sorted_strs(h:a.length<64):Ib .sorted [(k,.tup (a.map .str))]=bD (.own,.lst ((aH a).map .str)):=by
 change(strsOf (a.map U.str)).bind _=_;rw[dA];change(if a.length<64 then _ else _)=_;rw[Zm h]
structure mR(names:List Str)(r:Row):Prop where
 word:r.1∈names
 Kp:r.2.length<=8
 once:r.2.Nodup
 told:∀x∈r.2,x∈names
section
def mS(h:Run (execs Γ (a++i)) st f st2):(∃s1,Run (execs Γ a) st .nx s1/\Run (execs Γ i) s1 f st2)\/(Run (execs Γ a) st f st2/\f≠.nx):=by
 induction a generalizing st with
 |nil=>show .inl ⟨st,az,h⟩
 |cons s a j =>
  have h':M.bind (exec Γ s) (λf=>match f with|.nx=>execs Γ (a++i)|f=>pure f) st=bD (.ok f,st2):=h;unfold M.bind at h';cases e:exec Γ s st with
  |none=>rw[e]at h';cases h'
  |some p =>
   have⟨x,s1⟩:=p;rw[e]at h';cases x with
   |exc c=>cases h'
   |ok g =>
    cases g with
    |nx =>
     rcases j h' with⟨s2,b,d⟩|⟨b,d⟩
     .show .inl ⟨s2,eL e b,d⟩
     .show .inr ⟨eL e b,d⟩
    |rt k u=>cases h';show .inr ⟨lO e,λz=>nomatch z⟩
    |bk=>cases h';show .inr ⟨ab (show Run (exec Γ s) st Fl.bk _ from e) aV,λz=>nomatch z⟩
    |ct=>cases h';show .inr ⟨ab (show Run (exec Γ s) st Fl.ct _ from e) aV,λz=>nomatch z⟩
def EZ(a:Run (exec Γ s) st f st1)(b:f≠.nx):Run (execs Γ (s::c)) st f st1:=by
 cases f with
 |nx=>show absurd rfl b
 |rt k u=>show lO a
 |_=>show ab a aV
def lb(g:Run (GU Γ c) st p st1)(i:p=b6->Run (execs Γ (a++h)) st1 f st2)(j:p=cK->Run (execs Γ (b++h)) st1 f st2):Run (execs Γ (.ite c a b::h)) st f st2:=by
 cases p with
 |true =>
  rcases mS (i rfl) with⟨s1,d,e⟩|⟨d,e⟩
  .show eL (gT g d) e
  .show EZ (gT g d) e
 |false =>
  rcases mS (j rfl) with⟨s1,d,e⟩|⟨d,e⟩
  .show eL (rF g d) e
  .show EZ (rF g d) e
def oE(h:Run (GU Γ e) st p st)(a:p=b6->Run (aU Γ (b::es)) st q st):Run (aU Γ (e::b::es)) st (p&&q) st:=by
 cases p with
 |true=>show oA h (a rfl)
 |false=>show rE h
theorem jd{cond:M Bool}(h:a9 src st)(k:Kd)(hk:k=.loc\/k=.any)(a g:α->U)(b:Kd)(c:∀y,Run cond (bD (k,a y)::st) b6 (bD (k,a y)::st)):∀(ys:List α) (acc:List U),acc.length+ys.length<=df ->
  (∀y∈ys,Run elt (bD (k,a y)::st) (b,g y) (bD (k,a y)::st)/\Run (lift (b,g y)) (bD (k,a y)::st) (g y) (bD (k,a y)::st))->Run (bH 1 cK cond elt src (ys.map λy=>(k,a y)) acc) st (acc++ys.map g) st
 |[],acc,_,_=>by rw[IV,IV,ri];show tH h
 |y::ys,acc,hl,d=>by
  have⟨e,f⟩:=d y (by simp);rw[js]at hl;show oB (s1:=bD (k,a y)::st) (s2:=bD (k,a y)::st) (s3:=bD (k,a y)::st) (s4:=bD (k,a y)::st) h ?_ (c y) e f ⋯ ?_
  .rcases hk with rfl|rfl
   .show dO aI
   .show dO iB
  .have:=jd h k hk a g b c ys (acc++[g y]) (by simp;lia) λz hz=>d z (by simp[hz]);rw[eH];simpa using this
theorem fc{cond:M Bool}(h:a9 src st)(k:Kd)(hk:k=.loc\/k=.any)(a g:α->U)(p:α->Bool)(c:Kd):∀(ys:List α) (acc:List U),acc.length+ys.length<=df ->
  (∀y∈ys,Run cond (bD (k,a y)::st) (p y) (bD (k,a y)::st)/\(p y=b6->Run elt (bD (k,a y)::st) (c,g y) (bD (k,a y)::st)/\Run (lift (c,g y)) (bD (k,a y)::st) (g y) (bD (k,a y)::st)))->Run (bH 1 cK cond elt src (ys.map λy=>(k,a y)) acc) st (acc++(ys.filter p).map g) st
 |[],acc,_,_=>by rw[IV,Ol,IV,ri];show tH h
 |y::ys,acc,hl,e=>by
  have⟨d,i⟩:=e y (by simp);rw[js]at hl;have f:Run (dg cK (hW 1) (k,a y)) (i6 1 cb++st) () (bD (k,a y)::st):=by
   rcases hk with rfl|rfl
   .show dO aI
   .show dO iB
  cases b:p y with
  |true =>
   rw[b]at d;have⟨j,l⟩:=i b;show oB (s1:=bD (k,a y)::st) (s2:=bD (k,a y)::st) (s3:=bD (k,a y)::st) (s4:=bD (k,a y)::st) h f d j l ⋯ ?_;have:=fc h k hk a g p c ys (acc++[g y]) (by simp;lia) λz hz=>e z (by simp[hz]);rw[D',Zm b,eH];simpa using this
  |false =>
   rw[b]at d;show xG (s1:=bD (k,a y)::st) (s2:=bD (k,a y)::st) h f d ?_;have:=fc h k hk a g p c ys acc ⋯ λz hz=>e z (by simp[hz]);rw[D',Zn (by simp[b])];show this
theorem bI(it:α->Kd×U)(I:List α->List α->av->Prop)(hs:∀d r st,I d r st->a9 rs st)
  (XR:∀d y r st,I d (y::r) st->∃st1 st2,Run (dg t is (it y)) st () st1/\Run body st1 .nx st2/\I (d++[y]) r st2):∀(r d:List α) (st:av),I d r st->∃st',Run (forM t is body rs (r.map it)) st .nx st'/\I (d++r) [] st'
 |[],d,st,h=>⟨st,Bm (hs _ _ _ h),by rw[ri];show h⟩
 |y::r,d,st,h=>by
  have⟨s1,s2,a,b,c⟩:=XR d y r st h;have⟨s3,e,f⟩:=bI it I hs XR r (d++[y]) s2 c;show⟨s3,EX (hs _ _ _ h) a b e,by simpa using f⟩
def xI(a:Run (bt Γ es) st rs st1)(c:a9 rs st1)(d:Γ f (rs.map (·.2))=bD (.ok r))(e:uI r.2=bD b)(g:isAny r.1=cK:=by show rfl):Run (GU Γ (.call f es)) st b st1:=ab a (ab (bb c) (ab (tF d g) (cS e)))
def xJ(h:Run (ev Γ (.bi f es)) st (k,.bl b) st1):Run (GU Γ (.bi f es)) st b st1:=by
 have h':(bt Γ es >>= λrs=>aB rs >>= λ_=>M.GQ (Ib f rs)) st=bD (.ok (k,.bl b),st1):=h;obtain⟨rs,s1,c,d,s2,e,r,s3,g,i⟩:∃rs s1,bt Γ es st=bD (.ok rs,s1)/\∃(a:Unit) (s2:av),aB rs s1=bD (.ok a,s2)/\∃r s3,M.GQ (Ib f rs) s2=bD (.ok r,s3)/\(r,s3)=((k,U.bl b),st1):=by
  have w:W (bt Γ es >>= λrs=>aB rs >>= λ_=>M.GQ (Ib f rs)) st λr s=>(r,s)=((k,U.bl b),st1):=⟨_,_,h',rfl⟩
  rw[ah]at w;have⟨rs,s1,c,w⟩:=w;rw[ah]at w;have⟨a,s2,d,w⟩:=w;have⟨r,s3,e,w⟩:=w;show⟨rs,s1,c,a,s2,d,r,s3,e,w⟩
 cases i;show ab c (ab (a:=d) e (ab g (cS rfl)))
def xK(c:st[i]?=bD (bD (k',.lst o)))(d:Run (ev Γ e) st r st1)(g:st1[i]?=bD (bD (k,.lst us)))(hk:k.root=b6)(h:kI r (.lst us)=bD (.lst b))
  (j:Run (execs Γ l) (st1.set i (bD (k,.lst b))) f m) (n:k'≠.Gm:=by intro z;cases z):Run (execs Γ (.ext i e::l)) st f m:=by
 show eL (ab (dM c n) (ab (a:=()) (st1:=st) rfl (ab d (ab (a:=()) (st1:=st1.set i (bD (k,.lst b))) ?_ aV)))) j;change modS i (kI r) st1=_;unfold modS;rw[g];simp only[hk,if_true];rw[h]
end
def Av(h:xs.length+ys.length<=df)(hs:fq k ys=b6):kI (k,.tup ys) (.lst xs)=bD (.lst (xs++ys)):=by
 change(if xs.length+ys.length<=df/\fq k ys=b6 then _ else _)=_;rw[Zm ⟨h,hs⟩]
def tI(h:xs.length+ys.length<=df)(hs:fq k ys=b6):kI (k,.lst ys) (.lst xs)=bD (.lst (xs++ys)):=by
 change(if xs.length+ys.length<=df/\fq k ys=b6 then _ else _)=_;rw[Zm ⟨h,hs⟩]
theorem eN:∀a:List Str,bS (a.map U.str)=b6
 |[]=>by simp[bS]
 |s::a=>by simp[bS,GP,eN a]
def tJ(r:Row):GP (B' r)=b6:=by simp[B',GP,bS,eN]
theorem bJ:∀rs:List Row,bS (rs.map B')=b6
 |[]=>by simp[bS]
 |r::rs=>by simp[bS,tJ,bJ rs]
theorem lh:∀(a b:List Str),cE (a.map U.str) (b.map U.str)=cL (a=b)
 |[],[]=>by simp[cE]
 |[],_::_=>by simp[cE]
 |_::_,[]=>by simp[cE]
 |x::a,y::b=>by
  rw[eH,eH,cE,lh a b];simp only[cn];by_cases h:x=y
  .subst h;simp
  .simp[h]
def gU(a:List Str)(n:Nat):HK (n+1) (.lst (a.map U.str))=b6:=by simp[HK,f9]
def iD{a b:List Str}:cO .eq (.lst (a.map U.str)) (.lst (b.map U.str))=bD (cL (a=b)):=by
 simp only[cO];rw[Zm ⟨gU a 49,gU b 49⟩];simp only[cn,lh]
def Aw:cO .eq (.str a) (.str b)=bD (cL (a=b)):=by
 simp only[cO];rw[Zm ⟨rfl,rfl⟩];simp only[cn];by_cases h:a=b
 .subst h;simp
 .simp[h]
def tK(f:α->β)(xs:List α)(lo a:Option Int):cut (xs.map f) lo a=(cut xs lo a).map f:=by simp[cut,List.map_take,List.map_drop]
def Ax(xs:List α)(lo a:Option Int):(cut xs lo a).length<=xs.length:=by simp[cut];lia
def Ay(h:fq k (a.map U.str)=b6):lK (k,.lst (a.map .str)) lo b=bD (.own,.lst ((cut a lo b).map .str)):=by
 simp only[lK];rw[Zm h,tK]
def xM(h:acc.length<4000)(a:(aA acc).length<64):qU .sset [(k,.lst (acc.map .str))]=bD (.own,.lst ((aH (aA acc)).map .str)):=by
 have e:gL (.lst (acc.map U.str))=bD (aA acc):=by
  change(strsOf (acc.map U.str)).bind _=_;rw[dA];change(if acc.length+1<GL then _ else _)=_;rw[Zm (by change acc.length+1<4096;lia)]
 change(gL (.lst (acc.map U.str))).bind _=_;rw[e];change(if (aA acc).length<64 then _ else _)=_;rw[Zm a]
def xN(l:List Str):(aH (aA l)).Nodup:=(bN _).nodup_iff.mpr (b8 l)
def Dq(l:List Str)(x:Str):x∈aH (aA l)↔x∈l:=by rw[(bN _).mem_iff,bO]
def xO{l names:List Str}(h:∀x∈l,x∈names):(aA l).length<=names.length:=eM (b8 l) λx a=>h x ((bO l x).mp a)
section
end
section
end
def iE(h:xs.length+ys.length<=df)(a:fq k xs=b6)(b:fq k' ys=b6):IJ .add (k,.lst xs) (k',.lst ys)=bD (.own,.lst (xs++ys)):=by
 simp only[IJ,wF];rw[Zm ⟨h,a,b⟩]
abbrev cp(rows:List Row):List Str:=(rows.map λr=>r.1::r.2).flatten
abbrev aG(rows:List Row):List Str:=aH (aA (cp rows))
def p9(d:List Row)(y:Row):cp (d++[y])=cp d++[y.1]++y.2:=by simp[cp]
def bQ:x∈cp rows↔∃r∈rows,x=r.1\/x∈r.2:=by
 simp only[cp,List.mem_flatten,i7];constructor
 .rintro⟨l,⟨r,a,rfl⟩,b⟩;show⟨r,a,gs.mp b⟩
 .rintro⟨r,a,b⟩;show⟨_,⟨r,a,rfl⟩,gs.mpr b⟩
def iF(h:∀r∈rows,mR names r):∀x∈cp rows,x∈names:=by
 intro x hx;have⟨r,a,hx⟩:=bQ.mp hx;rcases hx with rfl|hx
 .show(h r a).word
 .show(h r a).told x hx
def lj(h:∀r∈rows,r.2.length<=8):(cp rows).length<=9 * rows.length:=by
 induction rows with
 |nil=>simp[cp]
 |cons r rows a =>
  have c:=h r (by simp);have b:=a λs hs=>h s (by simp[hs]);simp only[cp,eH,Sv,hY,js]at b ⊢;lia
def bX:x∈aG rows↔x∈cp rows:=Dq _ _
def dy(rows:List Row):(aG rows).Nodup:=xN _
def ff(h:∀r∈rows,mR names r):(aG rows).length<=names.length:=by
 change(aH (aA (cp rows))).length<=_;rw[bZ];show xO (iF h)
abbrev rJ:Fn:=⟨"words_of",1,3,[.set 1 (.lst []),.GN cK [2] .seq [.var 0] [.app 1 (.idx (.var 2) (.cst (.int 0))),.ext 1 (.idx (.var 2) (.cst (.int 1)))],.ret (.KA .sset [.var 1])]⟩
def iG(hl:rows.length<=120)(c:∀r∈rows,mR names r)(n:names.length<64):dF Γ rJ [.tup (rows.map B')]=bD (.ok (.own,.lst ((aG rows).map .str))):=by
 have hsz:(4000:Nat)<=df:=by decide
 have f:TM.start [.tup (rows.map B')] 3=[bD (.loc,.tup (rows.map B')),cb,cb]:=by simp[TM.start,GP,bJ]
 have b:∀r∈rows,r.2.length<=8:=λr h=>(c r h).Kp;obtain⟨st',g,_,o2,e⟩:=bI (t:=cK) (is:=[2]) (body:=execs Γ [.app 1 (.idx (.var 2) (.cst (.int 0))),.ext 1 (.idx (.var 2) (.cst (.int 1)))]) (rs:=[(.loc,.tup (rows.map B'))]) (λr:Row=>(Kd.loc,B' r))
  (λd r st=>d++r=rows/\∃o2,st=[bD (.loc,.tup (rows.map B')),bD (.own,.lst ((cp d).map .str)),o2]) (λ_ _ _ _=>trivial) (λd y r st i=>by
   have⟨a,o2,e⟩:=i;subst e;have j:y∈rows:=by rw[<-a];simp
   have o:=lj (rows:=d) λs hs=>b s (by rw[<-a];simp[hs]);have l:d.length<=120:=by have:=Zq DD a;simp at this;lia
   have p:=b y j;show⟨[bD (.loc,.tup (rows.map B')),bD (.own,.lst ((cp d).map .str)),bD (.loc,B' y)],[bD (.loc,.tup (rows.map B')),bD (.own,.lst ((cp d).map .str++[.str y.1]++y.2.map .str)),bD (.loc,B' y)],dO aI,?_,by rw[<-a];simp,bD (.loc,B' y),?_⟩
   .show gA (k:=.own) (k':=.own) (r:=(.loc,.str y.1)) rfl (bh (x:=(.loc,B' y)) (ae rfl) ai trivial rfl) aE rfl rfl (by rw[c4];lia)
     (xK (k:=.own) rfl (bh (x:=(.loc,B' y)) (ae rfl) ai trivial rfl) rfl rfl (Av (by simp;lia) rfl) az)
   .rw[p9];simp) rows [] [bD (.loc,.tup (rows.map B')),bD (.own,.lst []),cb] ⟨rfl,cb,rfl⟩
 subst e;have m:(rows.map B').map (λu=>(kE .loc,u))=rows.map λr=>(Kd.loc,B' r):=by rw[i0];rfl
 have q:=lj b;have l:=xO (iF c);show aX rfl (.inl rfl) f (ay (r:=(.own,.lst [])) (bu af trivial ax (i3 _)) a5 (cJ (rs:=[(.loc,.tup (rows.map B'))]) (aa (ae rfl) af) trivial rfl rfl (by rw[m];show g) (bA (Bk (aa (aD rfl) af) ⟨⟨.own,rfl,rfl⟩,trivial⟩ (xM ⋯ ⋯)) gz)))
def tL(h:ks.length<1000):dU (.str x) u (.Gp ks us)=bD (.Gp (dput ks us x u).1 (dput ks us x u).2):=by
 have hsz:(1000:Nat)<=df:=by decide
 change(if ks.length<df then _ else _)=_;rw[Zm ⋯]
end TM
namespace Od
section
variable{W:Type}[DecidableEq W]{rows:List (W×List W)}
abbrev fO(rows:List (W×List W))(C:W->Prop):Prop:=∀r∈rows,(∀x∈r.2,C x)->C r.1
abbrev NU(rows:List (W×List W))(K:List W):Prop:=∀C:W->Prop,fO rows C->∀x∈K,C x
def same(a:K.Nodup)(b:L.Nodup)(sK:NU rows K)(c:NU rows L)(d:fO rows (·∈K))(e:fO rows (·∈L)):K.Perm L :=
 (Jf a b).mpr λx=>⟨λh=>sK _ e x h,λh=>c _ d x h⟩
abbrev told(rows:List (W×List W))(p:Nat):List W:=match rows[p]? with
 |some r=>r.2
 |none=>[]
def jO(h:rows[p]?=bD r):told rows p=r.2:=by unfold told;rw[h]
abbrev rK(K l:List W):Nat:=(l.filter λx=>cL (x∉K)).length
abbrev cnt(rows:List (W×List W))(K:List W)(p:Nat):Nat:=rK K (told rows p)
def uX{K l:List W}:rK K l=0↔∀x∈l,x∈K:=by
 unfold rK;rw[PY,KN];constructor
 .intro h x a;have:=h x a;simpa using this
 .intro h x a;simpa using h x a
theorem p_(f:w∉K):∀{l:List W},l.Nodup->rK (K++[w]) l+(if w∈l then 1 else 0)=rK K l
 |[],_=>rfl
 |x::l,h=>by
  have⟨g,i⟩:=mh.mp h;have d:=p_ f i;unfold rK at d ⊢;by_cases e:x=w
  .subst e;have a:cL (x∉K++[x])≠b6:=by simp
   have b:cL (x∉K)=b6:=Zp f;rw[M9 (p:=λy=>cL (y∉K++[x])) a,M3 (p:=λy=>cL (y∉K)) b,js,Zm (rr ..)];rw[Zn g]at d;lia
  .have j:w≠x:=λz=>e z.symm;have k:(if w∈x::l then 1 else 0)=if w∈l then 1 else 0:=by simp[j]
   rw[k];by_cases c:x∈K
   .have a:cL (x∉K++[w])≠b6:=by simp[c]
    have b:cL (x∉K)≠b6:=by simp[c]
    rw[M9 (p:=λy=>cL (y∉K++[w])) a,M9 (p:=λy=>cL (y∉K)) b];show d
   .have a:cL (x∉K++[w])=b6:=by simp[c,e]
    have b:cL (x∉K)=b6:=by simp[c]
    rw[M3 (p:=λy=>cL (y∉K++[w])) a,M3 (p:=λy=>cL (y∉K)) b,js,js];lia
abbrev Once(rows:List (W×List W)):Prop:=∀r∈rows,r.2.Nodup
def Once.told(h:Once rows)(p:Nat):(told rows p).Nodup:=by
 unfold Od.told;split
 .rename_i r e;show h r (mA e)
 .show .nil
def qa:cnt rows K p=0↔∀x∈told rows p,x∈K:=uX
def oF(h:Once rows)(a:w∉K)(p:Nat):cnt rows (K++[w]) p+(if w∈told rows p then 1 else 0)=cnt rows K p:=p_ a (h.told p)
abbrev G6(rows:List (W×List W))(n:Nat)(w:W):List Nat:=(hW n).filter λp=>cL (w∈told rows p)
def uY(n:Nat)(w:W):(G6 rows n w).Nodup:=V7 IB List.nodup_range
def iH:p∈G6 rows n w↔p<n/\w∈told rows p:=by simp[G6]
abbrev aJ(ps:List (W×Nat))(w:W):List Nat:=(ps.filter λp=>cL (p.1=w)).map (·.2)
theorem qb:∀{l:List W},l.Nodup->aJ (l.map λx=>(x,n)) w=if w∈l then [n] else []
 |[],_=>rfl
 |x::l,h=>by
  have⟨b,c⟩:=mh.mp h;have a:=qb (n:=n) (w:=w) c;unfold aJ at a ⊢;rw[eH,D'];by_cases e:x=w
  .subst e;rw[Zn b]at a;rw[Zm (by simp),eH,a,Zm (by simp)]
  .rw[Zn (by simpa using e),a];have d:w≠x:=λz=>e z.symm;simp[d]
def qc(a b:List (W×Nat))(w:W):aJ (a++b) w=aJ a w++aJ b w:=by simp[aJ]
def uZ(h:Once rows)(a:rows[n]?=bD r)(b:∀w,aJ ps w=G6 rows n w)(w:W):aJ (ps++r.2.map λx=>(x,n)) w=G6 rows (n+1) w:=by
 rw[qc,b w,qb (h r (mA a))];unfold G6;rw[X6,KQ];congr 1
 rw[D',Ol,jO a];by_cases e:w∈r.2<;>simp[e]
structure RI(rows:List (W×List W))(K0 K:List W)(R:List Nat):Prop where
 NV:∀t∈R,t<rows.length/\cnt rows K t=0
 all:∀t,t<rows.length->cnt rows K t=0->cnt rows K0 t=0\/t∈R
def RI.start(K:List W):RI rows K K []:=⟨by simp,λt _ h=>.inl h⟩
def RI.step(h:Once rows)(x:RI rows K0 K R)(d:w∉K):RI rows K0 (K++[w]) (R++(G6 rows rows.length w).filter λt=>cL (cnt rows K t=1)):=by
 show⟨λt ht=>?_,λt ht i=>?_⟩
 .have a:=oF h d t;rcases i4.mp ht with ht|ht
  .have⟨b,e⟩:=x.NV t ht;show⟨b,⋯⟩
  .have⟨b,e⟩:=ko.mp ht;have⟨f,g⟩:=iH.mp b;rw[Zm g]at a;have:cnt rows K t=1:=by simpa using e
   show⟨f,⋯⟩
 .have a:=oF h d t;by_cases c:w∈told rows t
  .rw[Zm c]at a;show .inr (i4.mpr (.inr (ko.mpr ⟨iH.mpr ⟨ht,c⟩,by simp;lia⟩)))
  .rw[Zn c]at a;rcases x.all t ht ⋯ with z|z
   .show .inl z
   .show .inr (i4.mpr (.inl z))
structure NS(rows:List (W×List W))(K:List W)(d:List Nat)(ps:List (W×Nat)):Prop where
 ok:∀s∈ps,s.2∈d/\s.1∉K/\∃r,rows[s.2]?=bD r/\r.1=s.1
 once:(ps.map (·.1)).Nodup
 all:∀p∈d,∀r,rows[p]?=bD r->r.1∈K\/r.1∈ps.map (·.1)
def NS.start(K:List W):NS rows K [] []:=⟨by simp,by simp,by simp⟩
def NS.skip(x:NS rows K d ps)(f:rows[p]?=bD r)(h:r.1∈K\/r.1∈ps.map (·.1)):NS rows K (d++[p]) ps :=
 ⟨λs hs=>let ⟨a,b,c⟩:=x.ok s hs;⟨by simp[a],b,c⟩,x.once,λq hq g e=>by
  rcases i4.mp hq with hq|hq
  .show x.all q hq g e
  .have:q=p:=by simpa using hq
   subst this;rw[f]at e;cases e;show h⟩
def NS.take(x:NS rows K d ps)(g:rows[p]?=bD r)(h:r.1∉K)(i:r.1∉ps.map (·.1)):NS rows K (d++[p]) (ps++[(r.1,p)]):=by
 show⟨λs hs=>?_,?_,λq hq j f=>?_⟩
 .rcases i4.mp hs with hs|hs
  .have⟨a,b,c⟩:=x.ok s hs;show⟨by simp[a],b,c⟩
  .have:s=(r.1,p):=by simpa using hs
   subst this;show⟨by simp,h,r,g,rfl⟩
 .rw[ki,qs];show⟨x.once,by simp,λa k b l e=>?_⟩;have:b=r.1:=by simpa using l
  subst this;show i (e▸k)
 .rcases i4.mp hq with hq|hq
  .rcases x.all q hq j f with z|z
   .show .inl z
   .show .inr (by simp only[ki,i4];show .inl z)
  .have:q=p:=by simpa using hq
   subst this;rw[g]at f;cases f;show .inr (by simp)
def NS.perm(x:NS rows K d ps)(h:a.Perm ps):NS rows K d a :=
 ⟨λs hs=>x.ok s (h.mem_iff.mp hs),(h.map _).nodup_iff.mpr x.once,λp b r c=>(x.all p b r c).imp id λz=>(h.map _).mem_iff.mpr z⟩
structure LI(rows:List (W×List W))(GF:List (W×Nat))(R:List Nat):Prop where
 nd:(GF.map (·.1)).Nodup
 sn:NU rows (GF.map (·.1))
 wd:∀x∈GF.map (·.1),x∈rows.map (·.1)
 NV:∀t∈R,t<rows.length/\cnt rows (GF.map (·.1)) t=0
 all:∀t r,rows[t]?=bD r->cnt rows (GF.map (·.1)) t=0->t∈R\/r.1∈GF.map (·.1)
def LI.step(x:LI rows d R)(n:NS rows (d.map (·.1)) R st)(y:RI rows (d.map (·.1)) (d.map (·.1)++st.map (·.1)) j):LI rows (d++st) j:=by
 have em:(d++st).map (·.1)=d.map (·.1)++st.map (·.1):=ki;have hs:∀z∈st.map (·.1),z∉d.map (·.1)/\∃r∈rows,r.1=z/\∀x∈r.2,x∈d.map (·.1):=λz hz=>by
  have⟨s,hs,rfl⟩:=i7.mp hz;have⟨k,l,r,h,m⟩:=n.ok s hs;have hz:=(x.NV _ k).2;rw[qa,jO h]at hz;show⟨l,r,mA h,m,hz⟩
 show⟨?_,λC f y hy=>?_,λy hy=>?_,λt o=>by rw[em];show y.NV t o,λt r g i=>?_⟩
 .rw[em,qs];show⟨x.nd,n.once,λa p b q e=>(hs b q).1 (e▸p)⟩
 .rw[em]at hy;rcases i4.mp hy with hy|hy
  .show x.sn C f y hy
  .obtain⟨_,r,a,b,c⟩:=hs y hy;show b▸f r a λz hz=>x.sn C f z (c z hz)
 .rw[em]at hy;rcases i4.mp hy with hy|hy
  .show x.wd y hy
  .obtain⟨_,r,a,b,c⟩:=hs y hy;show i7.mpr ⟨r,a,b⟩
 .rw[em]at i ⊢;rcases y.all t (eh.mp g).1 i with z|z
  .rcases x.all t r g z with z|z
   .rcases n.all t z r g with z|z
    .show .inr (i4.mpr (.inl z))
    .show .inr (i4.mpr (.inr z))
   .show .inr (i4.mpr (.inl z))
  .show .inl z
def LI.closed(x:LI rows b []):fO rows (·∈b.map (·.1)):=λr c h=>by
 have⟨t,a⟩:=Qs.mp c;rcases x.all t r a (by rw[qa,jO a];show h) with z|z
 .cases z
 .show z
def tM{K L:List W}(h:K.Nodup)(s:∀x∈K,x∈L):K.length<=L.length:=by
 induction K generalizing L with
 |nil=>simp
 |cons a K d =>
  have⟨f,g⟩:=mh.mp h;have b:a∈L:=s a (by simp);have:=d (L:=L.erase a) g λx c=>by
   have i:x≠a:=λe=>f (e▸c);show(WI i).mpr (s x (by simp[c]))
  rw[VE b]at this;have:0<L.length:=Wg b;rw[js];lia
end
end Od
namespace TM
open PySem L2 GW
section
def tN(h:st[j]?=bD (bD (.own,u))):Run (lift (.bor j,a)) st u (st.set j (bD (.loc,u))):=by
 change(match st[j]? with|some (bD (.own,u))=>bD (Ex.ok u,st.set j (bD (.loc,u)))|_=>cb)=_;rw[h]
def mT(h:Run c st cK st1):Run (fu c body (n+1)) st .nx st1:=ab h aV
def qd(h:Run c st b6 st1)(a:Run body st1 .nx st2)(b:Run (fu c body n) st2 f d):Run (fu c body (n+1)) st f d:=ab h (ab a b)
def qe(h:Run (fu (GU Γ c) (execs Γ body) fuel) st .nx st1)(a:Run (execs Γ b) st1 f st2):Run (execs Γ (.Kh c body::b)) st f st2:=eL h a
def jx(hk:k=.loc\/k=.any):Run (dg b6 [i,j] (k,.tup [a,b])) st () ((st.set i (bD (k,a))).set j (bD (k,b))):=by
 rcases hk with rfl|rfl<;>rfl
def xP(h:Run (execs Γ b) (st.set i (bD (.Gm,.Gp [] []))) f st1):Run (execs Γ (.newD i::b)) st f st1:=eL (ab (a:=()) (st1:=st.set i (bD (.Gm,.Gp [] []))) rfl aV) h
def oG(h:st[i]?=bD (bD (.Gm,.Gp ks us))):Run (ip i) st (ks,us) st:=by
 change ip i st=_;unfold ip;rw[h]
def rL:Run (jH (k,.str y)) st y st:=rfl
def Az(a:st[i]?=bD (bD (.Gm,.Gp ks us)))(b:y∉ks)(c:ks.length<df):Run (kG i y (.own,.lst xs)) st () (st.set i (bD (.Gm,.Gp (ks++[y]) (us++[.lst xs])))):=by
 change kG i y (.own,.lst xs) st=_;unfold kG
 dsimp only
 rw[a]
 dsimp only
 rw[Zm ⟨b,c⟩]
def AA(a:st[i]?=bD (bD (.Gm,.Gp ks us)))(b:dv ks us y=bD (.lst xs))(c:xs.length<df):Run (kH i y u) st () (st.set i (bD (.Gm,.Gp ks (iV ks us y (.lst (xs++[u])))))):=by
 change kH i y u st=_;unfold kH;rw[a]
 dsimp only
 rw[b]
 dsimp only
 rw[Zm c]
def xQ(b:Run (ev Γ a) st (k,.str y) st1)(c:st1[i]?=bD (bD (.Gm,.Gp ks us))):Run (GU Γ (.inD neg a i)) st (QR neg y ks) st1 :=
 ab b (ab rL (ab (oG c) aV))
def xR(b:Run (ev Γ c) st (.own,.lst xs) st1)(a:st1[i]?=bD (bD (.Gm,.Gp ks us)))(d:Run (ev Γ e) st1 (k,.str y) st1)(g:y∉ks)(h:ks.length<df)
  (j:Run (execs Γ l) (st1.set i (bD (.Gm,.Gp (ks++[y]) (us++[.lst xs])))) f m):Run (execs Γ (.putD i e c::l)) st f m:=by
 show eL ?_ j;show ab b (ab (oG a) (ab d (ab rL (ab (Az a g h) aV))))
def xS(a:st[i]?=bD (bD (.Gm,.Gp ks us)))(b:Run (ev Γ c) st (k,.str y) st)(d:y∈ks)(e:Run (ev Γ g) st r st)(h:Run (lift r) st u st)(j:dv ks us y=bD (.lst xs))(l:xs.length<df)
  (m:Run (execs Γ n) (st.set i (bD (.Gm,.Gp ks (iV ks us y (.lst (xs++[u])))))) f o):Run (execs Γ (.Ia i c g::n)) st f o:=by
 show eL ?_ m;show ab (oG a) (ab b (ab rL (ab (oG a) ?_)));rw[Zm d];show ab e (ab h (ab (AA a j l) aV))
def E1(h:st[i]?=bD (bD (.Gm,u))):Run (ev Γ (.MD i)) st (.bor i,u) (st.set i (bD (.own,u))):=by
 change wK i st=_;unfold wK;rw[h]
def Dr(c:st[i]?=bD (bD (.own,.Gp ks us)))(d:Run (ev Γ a) st (k,.str y) st)(e:Run (ev Γ b) st z st)(f:Run (lift z) st u st)(g:(match dv ks us y with|some v=>(Kd.loc,v)|none=>(.loc,u))=r):
  Run (ev Γ (.IY i a b)) st r st:=by
 show ab (dM c) (ab (a:=()) (st1:=st) rfl (ab d (ab (a:=y) (st1:=st) rfl (ab e (ab f (ab (dM c) (cS ?_)))))));subst g;rfl
def E2(b:st[i]?=bD (bD (.own,.lst us)))(d:Run (ev Γ e) st (k1,.int (j:Nat)) st)(c:us[j]?=bD (.int o))(g:Run (ev Γ h) st (k2,.int w) st)
  (k:Run (execs Γ l) (st.set i (bD (.own,.lst (us.set j (.int (o - w)))))) f m):Run (execs Γ (.aug b6 i e h::l)) st f m:=by
 have hl:pP i st=bD (.ok us,st):=by unfold pP;rw[b];rfl
 have n:j<us.length:=(eh.mp c).1;have p:pQ us (j:Nat)=bD o:=by
  unfold pQ;rw[Zm ⋯,Lo,c]
 have q:JS us.length (j:Nat)=bD j:=by
  unfold JS;rw[Zm ⋯]
  first|(rw[Zm ⋯];simp)|simp[n]
 show eL (ab (a:=us) (st1:=st) hl (ab d (ab (a:=(j:Int)) (st1:=st) rfl (ab (a:=us) (st1:=st) hl (ab (cS p) (ab g (ab (a:=w) (st1:=st) rfl (ab (a:=()) (st1:=st.set i (bD (.own,.lst (us.set j (.int (o - w)))))) ?_ aV)))))))) k;change modS i (dU (.int (j:Nat)) (.int (uJ b6 o w))) st=_;unfold modS;rw[b];simp only[Kd.root,if_true,dU];rw[q];rfl
def E3(a:st[i]?=bD (bD (.own,u)))(b:wH u=bD r):Run (ev Γ (.ME i)) st r st:=ab (dM a) (cS b)
def Ds(a:Run (ev Γ e) st r st1)(b:Run (dg b6 is r) st1 () st2)(c:Run (execs Γ d) st2 f g):Run (execs Γ (.IZ is e::d)) st f g:=eL (ab a (ab b aV)) c
end
theorem iI(f:Str->U)(y:Str):∀ks:List Str,dv ks (ks.map f) y=if y∈ks then bD (f y) else cb
 |[]=>rfl
 |k::ks=>by
  rw[eH];change(if k=y then bD (f k) else dv ks (ks.map f) y)=_;by_cases e:k=y
  .subst e;rw[Zm rfl,Zm (by simp)]
  .rw[Zn e,iI f y ks];have:(y∈k::ks)↔y∈ks:=by simp[ro e]
   by_cases h:y∈ks
   .rw[Zm h,Zm (this.mpr h)]
   .rw[Zn h,Zn λz=>h (this.mp z)]
theorem ll(f:Str->U)(y:Str)(u:U):∀ks:List Str,ks.Nodup->iV ks (ks.map f) y u=ks.map λk=>if k=y then u else f k
 |[],_=>rfl
 |k::ks,h=>by
  have⟨a,b⟩:=mh.mp h;rw[eH,eH];change(if k=y then u::ks.map f else f k::iV ks (ks.map f) y u)=_;by_cases e:k=y
  .subst e;rw[Zm rfl,Zm rfl];congr 1
   show r3 λz hz=>?_;have c:z≠k:=λq=>a (by rw[<-q];show hz);rw[Zn c]
  .rw[Zn e,Zn e,ll f y u ks b]
abbrev stN(s:Str×Nat):U:=.tup [.str s.1,.int (s.2:Nat)]
theorem mU(f:α->Int):∀(ns:List α),intsOf (ns.map λa=>U.int (f a))=bD (ns.map f)
 |[]=>rfl
 |n::ns=>by change(intsOf (ns.map λa=>U.int (f a))).map _=_;rw[mU f ns];rfl
def AB(h:ps.length<64)(c:(ps.map (·.1)).Nodup):∃a:List (Str×Nat),a.Perm ps/\wH (.Gp (ps.map (·.1)) (ps.map λp=>.int (p.2:Nat)))=bD (.own,.lst (a.map stN)):=by
 have d:=mU (λp:Str×Nat=>((p.2:Nat):Int)) ps;have hz:(ps.map (·.1)).zip (ps.map λp:Str×Nat=>((p.2:Nat):Int))=ps.map λp=>(p.1,((p.2:Nat):Int)):=by
  rw[List.zip_map']
 let P:=jE ((ps.map λp=>(p.1,((p.2:Nat):Int))).map (·.1));have b:P.Perm (hW ps.length):=by
  have:=fV ((ps.map λp=>(p.1,((p.2:Nat):Int))).map (·.1));simpa[P] using this
 show⟨P.map λi=>ps.getD i (ti,0),?_,?_⟩
 .show(b.map _).trans ?_;have:(hW ps.length).map (λi=>ps.getD i (ti,0))=ps:=by
   apply J_
   .simp
   .intro i j e;simp[L6,e]
  rw[this]
 .change(intsOf (ps.map λp=>U.int (p.2:Nat))).bind _=_;rw[d];change(if (ps.map (·.1)).length<64/\(ps.map (·.1)).Nodup/\(ps.map (·.1)).length=(ps.map λp:Str×Nat=>((p.2:Nat):Int)).length then _ else _)=_;rw[Zm ⟨by simpa using h,c,by simp⟩,hz];congr 3
  change(zu _).map uH=_;change(P.map λi=>(ps.map λp=>(p.1,((p.2:Nat):Int))).getD i (ti,0)).map uH=_;rw[i0,i0];show r3 λi f=>?_;have g:i<ps.length:=va.mp (b.mem_iff.mp f);simp[L6,g,uH,stN]
def Dt:cO .isin (.str x) (.Gp ks vs)=bD (cL (x∈ks)):=rfl
def eO:cO .GG (.str x) (.Gp ks vs)=bD (!cL (x∈ks)):=rfl
def AD(a:List Bool):Ib .all [(k,.lst (a.map .bl))]=bD (.loc,.bl (a.all id)):=by
 change(fI (a.map U.bl)).map _=_;have:∀a:List Bool,fI (a.map U.bl)=bD a:=λa=>by
  induction a with
  |nil=>rfl
  |cons b a c=>change(fI (a.map U.bl)).map _=_;rw[c];rfl
 rw[this];rfl
section
end
def tP(h:ks.length<1000)(a:x∉ks):dU (.str x) u (.Gp ks us)=bD (.Gp (ks++[x]) (us++[u])):=by
 rw[tL h];unfold dput;rw[Zn a]
def qf(h:HK 50 (.lst us)=b6):cO .ne (.lst us) (.lst [])=bD (!us.isEmpty):=by
 simp only[cO];rw[Zm ⟨h,by simp[HK,dc]⟩];cases us with
 |_=>simp[cn,cE]
theorem mV(f:α->Int):∀(l:List α) (n:Nat),dc n (l.map λa=>U.int (f a))=b6
 |[],n=>by simp[dc]
 |a::l,n=>by rw[eH,dc,mV f l n];simp[HK]
theorem qg:∀(a:List (Str×Nat)) (n:Nat),dc (n+1) (a.map stN)=b6
 |[],n=>by simp[dc]
 |s::a,n=>by rw[eH,dc,qg a n];simp[stN,HK,dc]
def tQ:cO .eq (.tup (a.map U.str)) (.tup [])=bD (cL (a=[])):=by
 simp only[cO];rw[Zm ⟨by simp[HK,f9],by simp[HK,dc]⟩];cases a with
 |_=>simp[cn,cE]
theorem lp{cond:M Bool}(h:a9 src st)(a b g:α->U)(p:α->Bool):∀(ys:List α) (acc:List U),acc.length+ys.length<=df ->
  (∀y∈ys,Run cond (bD (.loc,a y)::bD (.loc,b y)::st) (p y) (bD (.loc,a y)::bD (.loc,b y)::st)/\Run elt (bD (.loc,a y)::bD (.loc,b y)::st) (.loc,g y) (bD (.loc,a y)::bD (.loc,b y)::st)) ->
  Run (bH 2 b6 cond elt src (ys.map λy=>(Kd.loc,U.tup [a y,b y])) acc) st (acc++(ys.filter p).map g) st
 |[],acc,_,_=>by rw[IV,Ol,IV,ri];show tH h
 |y::ys,acc,hl,e=>by
  have⟨c,i⟩:=e y (by simp);rw[js]at hl;have f:Run (dg b6 (hW 2) (.loc,.tup [a y,b y])) (i6 2 cb++st) () (bD (.loc,a y)::bD (.loc,b y)::st):=jx (.inl rfl);cases d:p y with
  |true =>
   rw[d]at c;show oB (s1:=bD (.loc,a y)::bD (.loc,b y)::st) (s2:=bD (.loc,a y)::bD (.loc,b y)::st) (s3:=bD (.loc,a y)::bD (.loc,b y)::st) (s4:=bD (.loc,a y)::bD (.loc,b y)::st) h f c i aE ⋯ ?_;have:=lp h a b g p ys (acc++[g y]) (by simp;lia) λz hz=>e z (by simp[hz]);rw[D',Zm d,eH];simpa using this
  |false =>
   rw[d]at c;show xG (s1:=bD (.loc,a y)::bD (.loc,b y)::st) (s2:=bD (.loc,a y)::bD (.loc,b y)::st) h f c ?_;have:=lp h a b g p ys acc ⋯ λz hz=>e z (by simp[hz]);rw[D',Zn (by simp[d])];show this
def set_range(n:Nat)(f:Nat->α)(t:Nat)(v:α):((hW n).map f).set t v=(hW n).map λp=>if p=t then v else f p:=by
 apply J_
 .simp
 .intro i a b;simp only[List.getElem_set,XJ,List.getElem_range];by_cases e:t=i
  .subst e;simp
  .rw[Zn e,Zn (ro e)]
def AE{rows:List Row}{t:Nat}(h:rows[t]?=bD r):Hm (rows.map B') (t:Int)=bD (B' r):=dY (by simp[h])
section
def Bo(c:Run (ev Γ a) st x st1)(d:gL x.2=bD e)(f:Run (ev Γ b) st1 y st2)(g:gL y.2=bD h)(i:pK ln e h=bD r):Run (ev Γ (.KC ln a b)) st r st2 :=
 ab c (ab (cS d) (ab f (ab (cS g) (cS i))))
end
def f_(h:a.length<4000):gL (.lst (a.map .str))=bD (aA a):=by
 change(strsOf (a.map U.str)).bind _=_;rw[dA];change(if a.length+1<GL then _ else _)=_;rw[Zm (by change a.length+1<4096;lia)]
def iJ(c:l.Perm m)(hs:m.Pairwise (λa b=>Iu a b=b6)):aH l=m:=fT ((bN l).trans c) (c_ l) hs
end TM
namespace TM
open PySem L2
section
def dm(h:st[i]?=bD (bD (.io,u))):Run (ev Γ (.var i)) st (.bor i,u) st:=dM h
end
abbrev Du:List S :=
   [.ite (.cmp .eq (.bi .len [.var 0]) (.cst (.int 0)))
      [.ret (.lst [.var 1,.cst (.int 0),.cst (.int 1)])]
      [],
    .set 2 (.pop 0),
    .ret (.lst [(.bin .LD (.var 2) (.cst (.int 2))),(.cst (.int 0)),(.bin .mod (.var 2) (.cst (.int 2)))])]
abbrev xT:Fn:=⟨"_law_source",2,3,.JK [0]::Du⟩
def Tt:(3:Nat)<=df:=by decide
def xU:gN Γ xT [0] Du [.lst [],.int k]=bD (.ok (.own,.tup [.lst [.int k,.int 0,.int 1],.lst []])):=by
 show cu (st0:=[bD (.io,.lst []),bD (.loc,.int k),cb]) (f:=.rt .own (.lst [.int k,.int 0,.int 1])) (st:=[bD (.io,.lst []),bD (.loc,.int k),cb]) rfl rfl ?_ rfl rfl;apply rG
 all_goals repeat' (first|show dm rfl|show bC (by simp)|show bG|show Tt|sizeOf_list_dec)
def xV:gN Γ xT [0] Du [.lst ((ns++[c]).map .int),.int k]=bD (.ok (.own,.tup [.lst [.int (c / 2),.int 0,.int (c % 2)],.lst (ns.map .int)])):=by
 have hl:cO .eq (.int (((ns++[c]).map U.int).length:Nat)) (.int 0)=bD cK:=bC (by simp;lia);have a:((ns++[c]).map U.int).dropLast=ns.map .int:=by simp
 have b:Run (ev Γ (.pop 0)) [bD (.io,.lst ((ns++[c]).map .int)),bD (.loc,.int k),cb] (.loc,.int c) [bD (.io,.lst (ns.map .int)),bD (.loc,.int k),cb]:=by
  have:=EY (Γ:=Γ) (st:=[bD (.io,.lst ((ns++[c]).map .int)),bD (.loc,.int k),cb]) (i:=0) (u:=.int c) (us:=(ns++[c]).map .int) (k:=.io) rfl rfl (by simp);rw[a]at this;show this
 show cu (st0:=[bD (.io,.lst ((ns++[c]).map .int)),bD (.loc,.int k),cb]) (f:=.rt .own (.lst [.int (c / 2),.int 0,.int (c % 2)])) (st:=[bD (.io,.lst (ns.map .int)),bD (.loc,.int k),bD (.loc,.int c)]) rfl rfl ?_ rfl rfl;show bP (st1:=[bD (.io,.lst ((ns++[c]).map .int)),bD (.loc,.int k),cb]) ?_ az (ay (st2:=[bD (.io,.lst (ns.map .int)),bD (.loc,.int k),bD (.loc,.int c)]) b aI ?_)
 all_goals repeat' (first|show dm rfl|show hl|show bG|show Tt|sizeOf_list_dec)
abbrev fw(a t w:Int):U:=.lst [.int a,.int t,.int w]
abbrev mW(a t w m:Int):Int:=if w=0 then a % m else((a % 10 ^ 15+1) * 48271+(t+1) * (t+1) * 16807+(t+1) * 7919) % 2147483647 * 69621 % 2147483629 % m
abbrev xW(a w m:Int):Int:=if w=0 then a / m else a
abbrev Bp:List S :=
   [.put 0 (.cst (.int 1)) (.bin .add (.idx (.var 0) (.cst (.int 1))) (.cst (.int 1))),
    .ite (.cmp .eq (.idx (.var 0) (.cst (.int 2))) (.cst (.int 0)))
      [.set 2 (.bin .mod (.idx (.var 0) (.cst (.int 0))) (.var 1)),
      .put 0 (.cst (.int 0)) (.bin .LD (.idx (.var 0) (.cst (.int 0))) (.var 1)),
      .ret (.var 2)]
      [],
    .set 3 (.idx (.var 0) (.cst (.int 1))),
    .set 4 (.bin .add (.bin .add (.bin .mul (.bin .add (.bin .mod (.idx (.var 0) (.cst (.int 0))) (.bin .pow (.cst (.int 10)) (.cst (.int 15)))) (.cst (.int 1))) (.cst (.int 48271))) (.bin .mul (.bin .mul (.var 3) (.var 3)) (.cst (.int 16807)))) (.bin .mul (.var 3) (.cst (.int 7919)))),
    .ret (.bin .mod (.bin .mod (.bin .mul (.bin .mod (.var 4) (.cst (.int 2147483647))) (.cst (.int 69621))) (.cst (.int 2147483629))) (.var 1))]
abbrev tR:Fn:=⟨"_law_draw",2,5,.JK [0]::Bp⟩
def xX(i:0<=t)(j:t<2 ^ 62)(m0:0<m)(m1:m<1073741824):gN Γ tR [0] Bp [fw a t w,.int m]=bD (.ok (.loc,.tup [.int (mW a t w m),fw (xW a w m) (t+1) w])):=by
 unfold mW xW fw;have c:∀a t w:Int,Hm [U.int a,.int t,.int w] 0=bD (.int a):=λa t w=>rfl;have d:∀a t w:Int,Hm [U.int a,.int t,.int w] 1=bD (.int t):=λa t w=>rfl;have e:∀a t w:Int,Hm [U.int a,.int t,.int w] 2=bD (.int w):=λa t w=>rfl;have g:∀a t w x:Int,dU (.int 1) (.int x) (.lst [.int a,.int t,.int w])=bD (.lst [.int a,.int x,.int w]):=λa t w x=>rfl;have h:∀a t w x:Int,dU (.int 0) (.int x) (.lst [.int a,.int t,.int w])=bD (.lst [.int x,.int t,.int w]):=λa t w x=>rfl;by_cases b:w=0
 .subst b;rw[Zm rfl,Zm rfl];show cu (st0:=[bD (.io,.lst [.int a,.int t,.int 0]),bD (.loc,.int m),cb,cb,cb]) (f:=.rt .loc (.int (a % m))) (st:=[bD (.io,.lst [.int (a / m),.int (t+1),.int 0]),bD (.loc,.int m),bD (.loc,.int (a % m)),cb,cb]) rfl rfl ?_ rfl rfl;show iC (rv:=(.loc,.int (t+1))) (rk:=(.loc,.int 1)) (k:=.io) (k':=.io) (ba (bh (dm rfl) ai ∅ (bW (d _ _ _))) ai ∅ cm) rfl ai (au aE (au aE ax)) rfl rfl (g _ _ _ _) ?_;apply rG
  .repeat' (first|show dm rfl|show bW (e _ _ _)|show bC (show((0:Int)==0)=b6 from rfl)|sizeOf_list_dec)
  .show ay (st2:=[bD (.io,.lst [.int a,.int (t+1),.int 0]),bD (.loc,.int m),bD (.loc,.int (a % m)),cb,cb]) (ba (bh (dm rfl) ai ∅ (bW (c _ _ _))) (ae rfl) ∅ (d5 m0)) aI ?_;show iC (rv:=(.loc,.int (a / m))) (rk:=(.loc,.int 0)) (k:=.io) (k':=.io) (ba (bh (dm rfl) ai ∅ (bW (c _ _ _))) (ae rfl) ∅ (k_ ⟨m0,m1⟩)) rfl ai (au aE (au aE ax)) rfl rfl (h _ _ _ _) ?_
   repeat' sizeOf_list_dec
 .rw[Zn b,Zn b];show cu (st0:=[bD (.io,.lst [.int a,.int t,.int w]),bD (.loc,.int m),cb,cb,cb]) (f:=.rt .loc (.int (((a % 10 ^ 15+1) * 48271+(t+1) * (t+1) * 16807+(t+1) * 7919) % 2147483647 * 69621 % 2147483629 % m))) (st:=[bD (.io,.lst [.int a,.int (t+1),.int w]),bD (.loc,.int m),cb,bD (.loc,.int (t+1)),bD (.loc,.int ((a % 10 ^ 15+1) * 48271+(t+1) * (t+1) * 16807+(t+1) * 7919))]) rfl rfl ?_ rfl rfl;show iC (rv:=(.loc,.int (t+1))) (rk:=(.loc,.int 1)) (k:=.io) (k':=.io) (ba (bh (dm rfl) ai ∅ (bW (d _ _ _))) ai ∅ cm) rfl ai (au aE (au aE ax)) rfl rfl (g _ _ _ _) ?_;apply bP
  .repeat' (first|show dm rfl|show bW (e _ _ _)|show bC (show(w==0)=cK by simp[b])|sizeOf_list_dec)
  .show az
  .repeat' (first|show dm rfl|show bW (c _ _ _)|show bW (d _ _ _)|show d5 m0|sizeOf_list_dec)
abbrev Src(T:Int)(u:U):Prop:=∃a t w,u=fw a t w/\0<=t/\t<=T
def Src.up(h:Src T u)(l:T<=b):Src b u:=let ⟨a,t,w,e,c,d⟩:=h;⟨a,t,w,e,c,YY d l⟩
abbrev bK(Γ:Tab):Prop:=∀(T m:Int) (u:U),Src T u->T<2 ^ 62->0<m->m<1073741824->∃n u',Γ "_law_draw" [u,.int m]=bD (.ok (.loc,.tup [.int n,u']))/\0<=n/\n<m/\Src (T+1) u'
def qh(m0:0<m):0<=mW a t w m/\mW a t w m<m:=by
 unfold mW;split
 .show⟨OM _ ⋯,Pf _ m0⟩
 .show⟨OM _ ⋯,Pf _ m0⟩
def xY(h:G4 Pg "_law_draw" tR):bK (GD Pg (d+1)):=by
 rintro T m u ⟨a,t,w,rfl,b,c⟩ e m0 m1;show⟨mW a t w m,fw (xW a w m) (t+1) w,?_,(qh m0).1,(qh m0).2,⟨_,_,_,rfl,⋯,⋯⟩⟩;rw[cM h _ rfl];show xX b ⋯ m0 m1
section
def xZ(p:bK Γ)(q:st[i]?=bD (bD (k0,b)))(f:k0.root=b6)(r:Run (ev Γ e) st (.loc,.int m) st1)(d:st1[i]?=bD (bD (k,u)))(hk:k.root=b6)(g:Src T u)(s:T<2 ^ 62)(m0:0<m)(m1:m<1073741824):
  ∃n u',Run (ev Γ (.Gq "_law_draw" [.var i,e] [0])) st (.loc,.int n) (st1.set i (bD (k,u')))/\0<=n/\n<m/\Src (T+1) u':=by
 have⟨n,u',v,x,y,hs⟩:=p T m u g s m0 m1;show⟨n,u',?_,x,y,hs⟩;obtain⟨a,t,w,rfl,_,_⟩:=hs;obtain⟨h,l,o,rfl,_,_⟩:=g;have z:Run (ev Γ (.var i)) st (.bor i,b) st:=by
  have:=dM q (by rintro rfl;cases f);unfold kv at this;rw[Zm f]at this;show this
 have c:[((Kd.bor i,b):Kd×U),(.loc,.int m)].map (dR st1)=[(.bor i,fw h l o),(.loc,.int m)]:=by
  change [dR st1 (.bor i,b),(.loc,.int m)]=_;unfold dR
  dsimp only
  rw[d];simp[hk]
 show rH (rs:=[(.bor i,b),(.loc,.int m)]) (ws:=[fw a t w]) (st1:=st1) (aa z (aa r af)) ?_ ?_ (.inr rfl) ?_ ?_
 .rw[c];show⟨⟨k,hk,d⟩,trivial⟩
 .rw[c];show v
 .rw[c];change((b6&&cL ([bD i].Nodup))&&(b6&&(b6&&b6)))=b6;simp
 .rw[c];change(match gM [(Kd.bor i,fw h l o),(.loc,.int m)] 0 with|some j=>(match fw a t w,st1[j]? with|.lst us,bD (bD (k,_))=>gy _ [] [] (st1.set j (bD (k,.lst us)))|_,_=>cb)|none=>cb)=_;change(match fw a t w,st1[i]? with|.lst us,bD (bD (k,_))=>gy _ [] [] (st1.set i (bD (k,.lst us)))|_,_=>cb)=_;rw[d];rfl
def d0(b:bK Γ)(a:st[i]?=bD (bD (k,u)))(hk:k.root=b6)(c:Run (ev Γ e) st (.loc,.int m) st)(d:Src T u)(f:T<2 ^ 62)(m0:0<m)(m1:m<1073741824):
  ∃n u',Run (ev Γ (.Gq "_law_draw" [.var i,e] [0])) st (.loc,.int n) (st.set i (bD (k,u')))/\0<=n/\n<m/\Src (T+1) u':=xZ b a hk c a hk d f m0 m1
end
section
def je(h:st[i]?=bD (bD (.loc,.bl b))):Run (GU Γ (.var i)) st b st:=ab (dM h) (cS rfl)
end
abbrev x6:List S :=
   [.set 6 (.idx (.var 1) (.Gq "_law_draw" [.var 0,.bi .len [.var 1]] [0])),
   .ite (.and [.var 3,.cmp .gt (.var 2) (.cst (.int 0))])
    [.set 6 (.idx (.var 1) (.Gq "_law_draw" [.var 0,.var 2] [0]))]
    [],
   .ite (.cmp .GG (.var 6) (.var 4))
    [.app 4 (.var 6)]
    []]
abbrev E4:List U:=[.int 0,.int 1,.int 1,.int 2,.int 2,.int 3,.int 8,.int 2]
abbrev E5:List S :=
   [.set 4 (.lst []),
    .GN cK [5] .H9 [.idx (.lst [.cst (.int 0),.cst (.int 1),.cst (.int 1),.cst (.int 2),.cst (.int 2),.cst (.int 3),.cst (.int 8),.cst (.int 2)]) (.Gq "_law_draw" [.var 0,.cst (.int 8)] [0])] x6,
    .ret (.tup [(.idx (.var 1) (.var 2)),(.bi .tuple [(.var 4)])])]
abbrev Dv:Fn:=⟨"_law_row",4,7,.JK [0]::E5⟩
abbrev dP(u:U)(ws:List Str)(at_:Int)(b:Bool)(told:List Str)(o5 o6:Option (Kd×U)):av:=[bD (.io,u),bD (.any,.lst (ws.map .str)),bD (.loc,.int at_),bD (.loc,.bl b),bD (.own,.lst (told.map .str)),o5,o6]
def oH{ws:List Str}{n:Int}(b:0<=n)(c:n<ws.length):∃x,x∈ws/\ws[n.toNat]?=bD x/\Hm (ws.map U.str) n=bD (.str x):=by
 have⟨k,rfl⟩:=u7 b;have a:k<ws.length:=by lia
 show⟨ws[k],J0 a,by simp[a],dY (by simp[a])⟩
def x8(j:bK Γ)(s:Src T u)(G:T+1<2 ^ 62)(H:ws.length<1000000)(I:0<=at_)(J:at_<ws.length)(L:told.length<=8):
  ∃u' x a,Run (execs Γ x6) (dP u ws at_ b told o5 o6) .nx (dP u' ws at_ b a o5 (bD (.any,.str x)))/\Src (T+2) u'/\(a=told\/(x∈ws/\x∉told/\a=told++[x])):=by
 have t:(8:Nat)<df:=by decide
 have⟨n,f,v,w,l,s1⟩:=d0 (st:=dP u ws at_ b told o5 o6) j (i:=0) (k:=.io) (e:=.bi .len [.var 1]) (m:=((ws.map U.str).length:Nat)) rfl rfl (cA (aa (aP rfl) af) trivial bG) s ⋯ (by simp;lia) (by simp;lia);rw[c4]at l;obtain⟨x,A,_,ex⟩:=oH w l;have o:Run (ev Γ (.idx (.var 1) (.Gq "_law_draw" [.var 0,.bi .len [.var 1]] [0]))) (dP u ws at_ b told o5 o6) (.any,.str x) (dP f ws at_ b told o5 o6):=bh (aP rfl) v trivial (bW (k:=.any) ex);have d:∀(c:U) (y:Str),y∈ws->Src (T+2) c->∃u' x a,Run (execs Γ [.ite (.cmp .GG (.var 6) (.var 4)) [.app 4 (.var 6)] []]) (dP c ws at_ b told o5 (bD (.any,.str y))) .nx (dP u' ws at_ b a o5 (bD (.any,.str x)))/\Src (T+2) u'/\(a=told\/(x∈ws/\x∉told/\a=told++[x])):=by
  intro c y g hs;by_cases h:y∈told
  .show⟨c,y,told,?_,hs,.inl rfl⟩;show bP (aS (aP rfl) (aD rfl) ∅ (la.trans (by simp[h]))) az az
  .show⟨c,y,told++[y],?_,hs,.inr ⟨g,h,rfl⟩⟩;show fM (aS (aP rfl) (aD rfl) ∅ (la.trans (by simp[h]))) (gA (k:=.own) (k':=.own) rfl (aP rfl) (k8 rfl) rfl rfl (by simp;lia) az) ?_;rw[show told.map U.str++[U.str y]=(told++[y]).map U.str by simp];show az
 by_cases p:b=b6/\0<at_
 .have⟨rfl,r⟩:=p;have⟨N,c,B,C,O,s2⟩:=d0 (st:=dP f ws at_ b6 told o5 (bD (.any,.str x))) j (i:=0) (k:=.io) (e:=.var 2) (m:=at_) rfl rfl (ae rfl) s1 ⋯ r ⋯;obtain⟨y,g,_,D⟩:=oH (ws:=ws) C ⋯;have⟨u',z,a,q,hs,ho⟩:=d c y g (s2.up ⋯);show⟨u',z,a,ay o iB (fM (jv (oA (je rfl) (cB (aS (ae rfl) ai trivial (fN (by simp[r])))))) (ay (bh (aP rfl) B trivial (bW (k:=.any) D)) iB az) q),hs,ho⟩
 .have⟨u',z,a,q,hs,ho⟩:=d f x A (s1.up ⋯);show⟨u',z,a,ay o iB (bP (st1:=dP f ws at_ b told o5 (bD (.any,.str x))) (jv ?_) az q),hs,ho⟩;cases b with
  |false=>show rE (je rfl)
  |true=>show oA (je rfl) (cB (aS (ae rfl) ai trivial (fN (by simp at p ⊢;lia))))
abbrev lq(Γ:Tab):Prop:=∀(T at_:Int) (u:U) (ws:List Str) (b:Bool),Src T u->T+17<2 ^ 62->ws.length<1000000->0<=at_->at_<ws.length->∃(x:Str) (told:List Str) (u':U),Γ "_law_row" [u,.lst (ws.map .str),.int at_,.bl b]=bD (.ok (.loc,.tup [.tup [.str x,.tup (told.map .str)],u']))/\ws[at_.toNat]?=bD x/\told.Nodup/\(∀y∈told,y∈ws)/\told.length<=8/\Src (T+17) u'
def AF(a:0<=n)(b:n<8):∃m:Nat,m<=8/\Hm E4 n=bD (.int (m:Nat)):=by
 have⟨k,rfl⟩:=u7 a;have:k=0\/k=1\/k=2\/k=3\/k=4\/k=5\/k=6\/k=7:=by lia
 rcases this with rfl|rfl|rfl|rfl|rfl|rfl|rfl|rfl
 .show⟨0,⋯,rfl⟩
 .show⟨1,⋯,rfl⟩
 .show⟨1,⋯,rfl⟩
 .show⟨2,⋯,rfl⟩
 .show⟨2,⋯,rfl⟩
 .show⟨3,⋯,rfl⟩
 .show⟨8,⋯,rfl⟩
 .show⟨2,⋯,rfl⟩
def AG(o:bK Γ){ws:List Str}{T at_:Int}(p:Src T u)(hT:T+17<2 ^ 62)(C:ws.length<1000000)(s:0<=at_)(v:at_<ws.length):
  ∃(x:Str) (told:List Str) (u':U),gN Γ Dv [0] E5 [u,.lst (ws.map .str),.int at_,.bl b]=bD (.ok (.loc,.tup [.tup [.str x,.tup (told.map .str)],u']))/\ws[at_.toNat]?=bD x/\told.Nodup/\(∀y∈told,y∈ws)/\told.length<=8/\Src (T+17) u':=by
 have D:(8:Nat)<df:=by decide
 obtain⟨x,_,G,ex⟩:=oH s v;have⟨n,w,H,I,J,s1⟩:=d0 (st:=dP u ws at_ b [] cb cb) o (i:=0) (k:=.io) (e:=.cst (.int 8)) (m:=8) rfl rfl ai p ⋯ ⋯ ⋯;have⟨m,hm,em⟩:=AF I J;obtain⟨st',L,g,told,o5,o6,rfl,s2,j,l,A,_⟩:=bI (rs:=[(.loc,.int (m:Nat))]) (t:=cK) (is:=[5]) (body:=execs Γ x6) (λi:Nat=>(Kd.loc,U.int (0+(i:Int)))) (λd r st=>∃(g:U) (told:List Str) (o5 o6:Option (Kd×U)),st=dP g ws at_ b told o5 o6/\Src (T+1+2 * (d.length:Nat)) g/\told.Nodup/\(∀y∈told,y∈ws)/\told.length<=d.length/\d.length+r.length=m)
  (λd r st _=>trivial) (λd y r st h=>by
   have⟨g,told,o5,o6,rfl,s2,j,l,A,N⟩:=h;simp only[js]at N;have⟨O,z,Q,q,s3,ho⟩:=x8 o (u:=g) (ws:=ws) (told:=told) (b:=b) (at_:=at_) (o5:=bD (.loc,.int (0+(y:Int)))) (o6:=o6) s2 ⋯ C s v ⋯;show⟨dP g ws at_ b told (bD (.loc,.int (0+(y:Int)))) o6,_,aI,q,O,Q,_,_,rfl,s3.up (by simp;lia),?_⟩;rw[hY,u5];rcases ho with rfl|⟨Y,h2,rfl⟩
   .show⟨j,l,⋯,⋯⟩
   .show⟨qs.mpr ⟨j,by simp,λa ha c B=>by rw[hQ]at B;subst B;show λe=>h2 (e▸ha)⟩,λy hy=>?_,by simp;lia,⋯⟩;rcases i4.mp hy with hy|hy
    .show l y hy
    .rw[hQ]at hy;subst hy;show Y) (hW m) [] (dP w ws at_ b [] cb cb) ⟨w,[],cb,cb,rfl,by simpa using s1,by simp,by simp,by simp,by simp⟩
 rw[i2,G0]at s2 A;show⟨x,told,g,?_,G,j,l,⋯,s2.up ⋯⟩;show cu (st0:=[bD (.io,u),bD (.any,.lst (ws.map .str)),bD (.loc,.int at_),bD (.loc,.bl b),cb,cb,cb]) (f:=.rt .loc (.tup [.str x,.tup (told.map .str)])) (st:=dP g ws at_ b told o5 o6) rfl ?_ ?_ rfl rfl
 .obtain⟨_,_,_,rfl,_⟩:=p;rfl
 show ay (st2:=dP u ws at_ b [] cb cb) (bu af trivial ax (i3 _)) a5 ?_;show cJ (rs:=[(.loc,.int (m:Nat))]) (aa (bh (x:=(.own,.lst E4)) (bu (by repeat (first|show af|show aa ai (by assumption)|apply aa ai)) (by show trivial) (by repeat (first|show ax|apply au aE)) (by decide)) H trivial (bW em)) af) trivial (oC ⋯) rfl L ?_;show bA (dq (aa (bh (aP rfl) (ae rfl) trivial (bW (k:=.any) ex)) (aa (cA (aa (aD rfl) af) ∅ rfl) af)) trivial (au (k8 rfl) (au aE ax)) (by change 2<=df;lia)) dN
def E6(a:bK (GD Pg d))(h:G4 Pg "_law_row" Dv):lq (GD Pg (d+1)):=by
 intro T at_ u ws b c f g i j;have⟨x,told,u',e,r⟩:=AG a (b:=b) c f g i j;show⟨x,told,u',by rw[cM h _ rfl];show e,r⟩
abbrev Bq:List S :=
   [.ite (.and [.cmp .eq (.idx (.var 2) (.cst (.int 0))) (.idx (.var 1) (.cst (.int 0))),.cmp .eq (.bi .sorted [.idx (.var 2) (.cst (.int 1))]) (.bi .sorted [.idx (.var 1) (.cst (.int 1))])])
    [.JA]
    []]
abbrev E7:List S:=[.GN cK [2] .seq [.var 0] Bq,.app 0 (.var 1)]
abbrev AH:Fn:=⟨"_law_lay",2,3,.JK [0]::E7⟩
abbrev gB(rs:List Row)(r:Row)(o:Option (Kd×U)):av:=[bD (.io,.lst (rs.map B')),bD (.loc,B' r),o]
abbrev layR(rs:List Row)(r:Row):List Row:=if keyOf r∈rs.map keyOf then rs else rs++[r]
def x9(c:x.2.length<64)(d:r.2.length<64):Run (GU Γ (.and [.cmp .eq (.idx (.var 2) (.cst (.int 0))) (.idx (.var 1) (.cst (.int 0))),.cmp .eq (.bi .sorted [.idx (.var 2) (.cst (.int 1))]) (.bi .sorted [.idx (.var 1) (.cst (.int 1))])])) (gB rs r (bD (.loc,B' x))) (cL (keyOf x=keyOf r)) (gB rs r (bD (.loc,B' x))):=by
 have a:∀y:Row,gh (.loc,B' y) (.int 0)=bD (.loc,.str y.1):=λy=>rfl;have b:∀y:Row,gh (.loc,B' y) (.int 1)=bD (.loc,.tup (y.2.map .str)):=λy=>rfl;have f:Run (GU Γ (.cmp .eq (.idx (.var 2) (.cst (.int 0))) (.idx (.var 1) (.cst (.int 0))))) (gB rs r (bD (.loc,B' x))) (cL (x.1=r.1)) (gB rs r (bD (.loc,B' x))):=aS (bh (ae rfl) ai trivial (a x)) (bh (ae rfl) ai trivial (a r)) trivial Aw;have g:Run (GU Γ (.cmp .eq (.bi .sorted [.idx (.var 2) (.cst (.int 1))]) (.bi .sorted [.idx (.var 1) (.cst (.int 1))]))) (gB rs r (bD (.loc,B' x))) (cL (aH x.2=aH r.2)) (gB rs r (bD (.loc,B' x))):=aS (cA (aa (bh (ae rfl) ai trivial (b x)) af) trivial (sorted_strs c)) (cA (aa (bh (ae rfl) ai trivial (b r)) af) trivial (sorted_strs d)) trivial iD;have e:cL (keyOf x=keyOf r)=(cL (x.1=r.1)&&cL (aH x.2=aH r.2)):=by
  rw[<-Bool.decide_and];show decide_eq_decide.mpr (by unfold keyOf;show UQ ..▸Iff.rfl)
 rw[e];show jv (oE f λ_=>cB g)
def Dw:Run (execs Γ (.JA::a)) st (.rt .loc .GC) st:=lO (aV)
theorem qi(b:r.2.length<64):∀(xs:List Row) (o:Option (Kd×U)),(∀x∈xs,x.2.length<64) ->
  ∃o',Run (forM cK [2] (execs Γ Bq) [(.bor 0,.lst (rs.map B'))] (xs.map λx=>(Kd.loc,B' x))) (gB rs r o) (if keyOf r∈xs.map keyOf then .rt .loc .GC else .nx) (gB rs r o')
 |[],o,_=>⟨o,by rw[Zn (by simp)];show Bm ⟨⟨_,rfl,rfl⟩,trivial⟩⟩
 |x::xs,o,h=>by
  have a:=x9 (Γ:=Γ) (rs:=rs) (h x (by simp)) b;by_cases hk:keyOf x=keyOf r
  .show⟨bD (.loc,B' x),?_⟩;rw[Zm (by simp[hk])];rw[Zp hk]at a;show Ga ⟨⟨_,rfl,rfl⟩,trivial⟩ aI (rG a Dw)
  .rw[Zo hk]at a;have⟨o',q⟩:=qi (Γ:=Γ) (rs:=rs) b xs (bD (.loc,B' x)) λy c=>h y (by simp[c]);show⟨o',?_⟩;have d:(keyOf r∈(x::xs).map keyOf)↔(keyOf r∈xs.map keyOf):=by
    rw[eH,gs];show⟨λz=>z.resolve_left λe=>hk e.symm,.inr⟩
   rw[show(if keyOf r∈(x::xs).map keyOf then Fl.rt .loc .GC else Fl.nx)=(if keyOf r∈xs.map keyOf then Fl.rt .loc .GC else Fl.nx) by simp only[d]];show EX ⟨⟨_,rfl,rfl⟩,trivial⟩ aI (bP a az az) q
def AI(b:r.2.length<64)(h:∀x∈rs,x.2.length<64)(hl:rs.length<1000):gN Γ AH [0] E7 [.lst (rs.map B'),B' r]=bD (.ok (.loc,.tup [.GC,.lst ((layR rs r).map B')])):=by
 have c:(1000:Nat)<df:=by decide
 have⟨o',q⟩:=qi (Γ:=Γ) b rs cb h;have hs:cR [0] [.lst (rs.map B'),B' r] AH.ns=gB rs r cb:=by
  change [bD (Kd.io,U.lst (rs.map B')),bD (if GP (B' r)=b6 then Kd.loc else Kd.any,B' r),cb]=_;rw[Zm (tJ r)];rfl
 have a:Ih .seq [(Kd.bor 0,U.lst (rs.map B'))]=bD (rs.map λx=>(Kd.loc,B' x)):=by
  change bD ((rs.map B').map λu=>(kE (.bor 0),u))=_;rw[i0];rfl
 unfold layR;by_cases hk:keyOf r∈rs.map keyOf
 .rw[Zm hk]at q ⊢;show cu (f:=.rt .loc .GC) rfl hs (lO (Bl (aa (dm rfl) af) ⟨⟨_,rfl,rfl⟩,trivial⟩ a rfl q)) rfl rfl
 .rw[Zn hk]at q ⊢;show cu (f:=.nx) (st:=gB (rs++[r]) r o') rfl hs (cJ (aa (dm rfl) af) ⟨⟨_,rfl,rfl⟩,trivial⟩ a rfl q (gA (k:=.io) (k':=.io) rfl (ae rfl) aE rfl rfl (by simp;lia) ?_)) rfl rfl;rw[show rs.map B'++[B' r]=(rs++[r]).map B' by simp];show az
abbrev lr(Γ:Tab):Prop:=∀(rs:List Row) (r:Row),r.2.length<64->(∀x∈rs,x.2.length<64)->rs.length<1000->Γ "_law_lay" [.lst (rs.map B'),B' r]=bD (.ok (.loc,.tup [.GC,.lst ((layR rs r).map B')]))
def E8(h:G4 Pg "_law_lay" AH):lr (GD Pg (d+1)):=λrs r a b hl=>by
 rw[cM h _ rfl];show AI a b hl
abbrev NW:Kd×U->Bool
 |(.bor _,_)=>cK
 |_=>b6
section
def qj(h:NW r=b6):dR st r=r:=by
 have⟨k,u⟩:=r;cases k<;>first|rfl|cases h
def mX(h:NW r=b6):pL a r=b6:=by
 have⟨k,u⟩:=r;cases k<;>first|rfl|cases h
def ql(h:rs.all NW=b6):a9 rs st:=by
 induction rs with
 |nil=>trivial
 |cons r rs a =>
  have⟨k,u⟩:=r;rw[Yo,cc]at h;have:=a h.2;cases k<;>first|show this|cases h.1
def AJ(j:st[i]?=bD (bD (k0,a)))(g:k0.root=b6)(l:Run (bt Γ es) st rs st1)(c:st1[i]?=bD (bD (k,.lst us)))(hk:k.root=b6)(m:bS us=b6)(n:rs.map (dR st1)=rs)(o:a9 rs st1)(p:∀r∈rs,pL [bD i] r=b6)
  (s:Γ f (.lst us::rs.map (·.2))=bD (.ok (d,.tup [v,.lst h]))) (t:d=.own\/d=.loc):Run (ev Γ (.Gq f (.var i::es) [0])) st (d,v) (st1.set i (bD (k,.lst h))):=by
 have u:Run (ev Γ (.var i)) st (.bor i,a) st:=by
  have:=dM j (by rintro rfl;cases g);unfold kv at this;rw[Zm g]at this;show this
 have w:dR st1 (.bor i,a)=(.bor i,.lst us):=by
  unfold dR
  dsimp only
  rw[c];simp[hk]
 have b:((Kd.bor i,a)::rs).map (dR st1)=(.bor i,.lst us)::rs:=by rw[eH,w,n]
 have e:gM ((Kd.bor i,U.lst us)::rs) 0=bD i:=by
  change(if bS us=b6 then bD i else cb)=_;rw[Zm m]
 show rH (rs:=(.bor i,a)::rs) (ws:=[.lst h]) (st1:=st1) (aa u l) ?_ ?_ t ?_ ?_
 .rw[b];show⟨⟨k,hk,c⟩,o⟩
 .rw[b];show s
 .rw[b];unfold pM;rw[cc,cc];show⟨⟨by simp[e],by simp⟩,mx.mpr λq x=>?_⟩;cases q with
  |zero=>simp
  |succ q =>
   have hl:q<rs.length:=by have:=va.mp x;simpa using this
   rw[Jx];show .inr ?_;rw[show((Kd.bor i,U.lst us)::rs).getD (q+1) (.loc,.GC)=rs[q] by simp[L6,hl]];simp only[eH,IV,e];show p _ (J0 hl)
 .rw[b];unfold gy;rw[e]
  dsimp only
  rw[c];rfl
def gV(d:st[i]?=bD (bD (k0,o)))(e:k0.root=b6)(g:Run (bt Γ es) st rs st1)(h:st1[i]?=bD (bD (k,.lst us)))(hk:k.root=b6)(j:bS us=b6)(a:rs.all NW=b6)
  (l:Γ f (.lst us::rs.map (·.2))=bD (.ok (b,.tup [v,.lst m]))) (n:b=.own\/b=.loc):Run (ev Γ (.Gq f (.var i::es) [0])) st (b,v) (st1.set i (bD (k,.lst m))) :=
 AJ d e g h hk j ((r3 λr c=>qj (mx.mp a r c)).trans (SX rs)) (ql a) (λr c=>mX (mx.mp a r c)) l n
end
section
def x_(p:lq Γ){ws:List Str}(c:st[i]?=bD (bD (k0,H)))(d:k0.root=b6)(f:st[j]?=bD (bD (kw,.lst (ws.map .str))))(q:kw=.loc\/kw=.any)(g:Run (ev Γ e) st (.loc,.int at_) st1)(h:Run (ev Γ t) st1 (.loc,.bl b) st2)
  (l:st2[i]?=bD (bD (k,u))) (hk:k.root=b6) (m:Src T u) (s:T+17<2 ^ 62) (v:ws.length<1000000) (z:0<=at_) (A:at_<ws.length) :
  ∃(r:Row) (u':U),Run (ev Γ (.Gq "_law_row" [.var i,.var j,e,t] [0])) st (.loc,B' r) (st2.set i (bD (k,u')))/\ws[at_.toNat]?=bD r.1/\r.2.Nodup/\(∀y∈r.2,y∈ws)/\r.2.length<=8/\Src (T+17) u':=by
 have⟨x,told,u',n,B,C,D,G,o⟩:=p T at_ u ws b m s v z A;show⟨(x,told),u',?_,B,C,D,G,o⟩;obtain⟨a,t',w,rfl,_,_⟩:=m;obtain⟨I,J,L,rfl,_,_⟩:=o;rcases q with rfl|rfl
 .show gV (rs:=[(.loc,.lst (ws.map .str)),(.loc,.int at_),(.loc,.bl b)]) c d (aa (ae f) (aa g (aa h af))) l hk rfl rfl n (.inr rfl)
 .show gV (rs:=[(.any,.lst (ws.map .str)),(.loc,.int at_),(.loc,.bl b)]) c d (aa (aP f) (aa g (aa h af))) l hk rfl rfl n (.inr rfl)
def ya(a:lr Γ)(b:st[i]?=bD (bD (k0,j)))(c:k0.root=b6)(d:Run (ev Γ e) st (.loc,B' r) st1)(f:st1[i]?=bD (bD (k,.lst (rs.map B'))))(hk:k.root=b6)(g:r.2.length<64)(h:∀x∈rs,x.2.length<64)(hl:rs.length<1000):
  Run (ev Γ (.Gq "_law_lay" [.var i,e] [0])) st (.loc,.GC) (st1.set i (bD (k,.lst ((layR rs r).map B')))) :=
 gV (rs:=[(.loc,B' r)]) b c (aa d af) f hk (bJ rs) rfl (a rs r g h hl) (.inr rfl)
def yb(a:Run (ev Γ e) st r st1)(b:Run (execs Γ c) st1 f st2):Run (execs Γ (.exp e::c)) st f st2:=eL (ab a aV) b
abbrev iK(Γ:Tab):Prop:=(∀k:Int,Γ "_law_source" [.lst [],.int k]=bD (.ok (.own,.tup [fw k 0 1,.lst []])))/\∀(ns:List Int) (c k:Int),Γ "_law_source" [.lst ((ns++[c]).map .int),.int k]=bD (.ok (.own,.tup [fw (c / 2) 0 (c % 2),.lst (ns.map .int)]))
def yc(h:G4 Pg "_law_source" xT):iK (GD Pg (d+1)):=⟨λk=>by rw[cM h _ rfl];show xU,λns c k=>by rw[cM h _ rfl];show xV⟩
theorem gb:∀ns:List Int,bS (ns.map U.int)=b6
 |[]=>rfl
 |n::ns=>by change(b6&&bS (ns.map U.int))=b6;rw[gb ns];rfl
def yd(a:iK Γ)(b:st[i]?=bD (bD (k0,h)))(d:k0.root=b6)(f:Run (ev Γ e) st (.loc,.int m) st1)(g:st1[i]?=bD (bD (k,.lst ((ns++[c]).map .int))))(hk:k.root=b6):
  Run (ev Γ (.Gq "_law_source" [.var i,e] [0])) st (.own,fw (c / 2) 0 (c % 2)) (st1.set i (bD (k,.lst (ns.map .int)))) :=
 gV (rs:=[(.loc,.int m)]) b d (aa f af) g hk (gb _) rfl (a.2 ns c m) (.inl rfl)
def Dx(a:iK Γ)(b:st[i]?=bD (bD (k0,g)))(c:k0.root=b6)(d:Run (ev Γ e) st (.loc,.int m) st1)(f:st1[i]?=bD (bD (k,.lst [])))(hk:k.root=b6):
  Run (ev Γ (.Gq "_law_source" [.var i,e] [0])) st (.own,fw m 0 1) (st1.set i (bD (k,.lst []))) :=
 gV (rs:=[(.loc,.int m)]) b c (aa d af) f hk rfl rfl (a.1 m) (.inl rfl)
end
abbrev rM:List S :=
   [.set 6 (.Gq "_law_draw" [.var 1,.bi .len [.var 2]] [0]),
   .ite (.cmp .eq (.var 4) (.cst (.int 3)))
    [.set 6 (.bin .mod (.var 5) (.bi .len [.var 2]))]
    [],
   .exp (.Gq "_law_lay" [(.var 3),(.Gq "_law_row" [(.var 1),(.var 2),(.var 6),(.cmp .gt (.var 4) (.cst (.int 1)))] [0])] [0])]
abbrev rN:List S :=
   [.set 7 (.Gq "_law_source" [.var 0,.cst (.int 0)] [0]),
   .exp (.Gq "_law_lay" [(.var 3),(.Gq "_law_row" [(.var 7),(.var 2),(.Gq "_law_draw" [(.var 7),(.bi .len [(.var 2)])] [0]),(.cmp .eq (.var 4) (.cst (.int 2)))] [0])] [0])]
abbrev di(ns:List Int)(u:U)(ws:List Str)(rs:List Row)(way:Int)(o5 o6 o7:Option (Kd×U)):av:=[bD (.io,.lst (ns.map .int)),bD (.io,u),bD (.any,.lst (ws.map .str)),bD (.own,.lst (rs.map B')),bD (.loc,.int way),o5,o6,o7]
abbrev cT(ws:List Str)(r:Row):Prop:=r.1∈ws/\r.2.Nodup/\(∀y∈r.2,y∈ws)/\r.2.length<=8
abbrev cU(ws:List Str)(rs:List Row):Prop:=(∀r∈rs,cT ws r)/\(rs.map keyOf).Nodup
def cU.lay(h:cU ws rs)(d:cT ws r):cU ws (layR rs r):=by
 unfold layR;split
 .show h
 .rename_i hk;show⟨λx hx=>?_,?_⟩
  .rcases i4.mp hx with hx|hx
   .show h.1 x hx
   .rw[hQ]at hx;subst hx;show d
  .rw[ki];show qs.mpr ⟨h.2,by simp,λa f c b=>by rw[Xk,hQ]at b;subst b;show λe=>hk (e▸f)⟩
def qm:(layR rs r).length<=rs.length+1:=by
 unfold layR;split
 .lia
 .simp
def u9(s:bK Γ)(v:lq Γ)(w:lr Γ){k:Nat}(y:Src T u)(Q:T+18<2 ^ 62)(Y:0<ws.length)(z:ws.length<1000000)(h:cU ws rs)(hl:rs.length<1000):
  ∃u' a c,Run (execs Γ rM) (di ns u ws rs way (bD (.loc,.int (0+(k:Int)))) o6 o7) .nx (di ns u' ws a way (bD (.loc,.int (0+(k:Int)))) c o7)/\Src (T+18) u'/\cU ws a/\a.length<=rs.length+1:=by
 have⟨n,f,l,A,o,s1⟩:=d0 (st:=di ns u ws rs way (bD (.loc,.int (0+(k:Int)))) o6 o7) s (i:=1) (k:=.io) (e:=.bi .len [.var 2]) (m:=((ws.map U.str).length:Nat)) rfl rfl (cA (aa (aP rfl) af) trivial bG) y ⋯ (by simp;lia) (by simp;lia);rw[c4]at o;have d:∀at_:Int,0<=at_->at_<ws.length->∃u' a c,Run (execs Γ [.exp (.Gq "_law_lay" [.var 3,.Gq "_law_row" [.var 1,.var 2,.var 6,.cmp .gt (.var 4) (.cst (.int 1))] [0]] [0])]) (di ns f ws rs way (bD (.loc,.int (0+(k:Int)))) (bD (.loc,.int at_)) o7) .nx (di ns u' ws a way (bD (.loc,.int (0+(k:Int)))) c o7)/\Src (T+18) u'/\cU ws a/\a.length<=rs.length+1:=by
  intro at_ B C;have⟨r,D,q,G,H,I,J,L⟩:=x_ (st:=di ns f ws rs way (bD (.loc,.int (0+(k:Int)))) (bD (.loc,.int at_)) o7) (st1:=di ns f ws rs way (bD (.loc,.int (0+(k:Int)))) (bD (.loc,.int at_)) o7) (st2:=di ns f ws rs way (bD (.loc,.int (0+(k:Int)))) (bD (.loc,.int at_)) o7) v (i:=1) (j:=2) (e:=.var 6) (t:=.cmp .gt (.var 4) (.cst (.int 1))) (k0:=.io) (k:=.io) (kw:=.any) (b:=cL (1<way)) rfl rfl rfl (.inr rfl) (ae rfl) (ju (ae rfl) ai trivial (fN rfl)) rfl rfl s1 ⋯ z B C;have N:cT ws r:=⟨mA G,H,I,J⟩
  show⟨D,layR rs r,_,yb (ya w (k0:=.own) (k:=.own) (rs:=rs) rfl rfl q rfl rfl ⋯ (λx O=>by have:=(h.1 x O).2.2.2;lia) hl) az,L.up ⋯,h.lay N,qm⟩
 by_cases p:way=3
 .subst p;have⟨u',a,c,q,g⟩:=d ((0+(k:Int)) % (ws.length:Nat)) (OM _ ⋯) (Pf _ ⋯);show⟨u',a,c,ay l aI (fM (aS (ae rfl) ai trivial (bC rfl)) (ay (ba (ae rfl) (cA (aa (aP rfl) af) trivial bG) trivial (d5 (by simp;lia))) aI az) ?_),g⟩;rw[c4];show q
 .have⟨u',a,c,q,g⟩:=d n A o;show⟨u',a,c,ay l aI (bP (aS (ae rfl) ai trivial (bC (by simp[p]))) az q),g⟩
def u_(o:iK Γ)(p:bK Γ)(s:lq Γ)(w:lr Γ)(N:0<ws.length)(y:ws.length<1000000)(d:cU ws rs)(hl:rs.length<1000):
  ∃a z,Run (execs Γ rN) (di (ns++[c]) u ws rs way o5 o6 o7) .nx (di ns u ws a way o5 o6 z)/\cU ws a/\a.length<=rs.length+1:=by
 have f:=yd (st:=di (ns++[c]) u ws rs way o5 o6 o7) (st1:=di (ns++[c]) u ws rs way o5 o6 o7) o (i:=0) (k0:=.io) (k:=.io) (e:=.cst (.int 0)) (m:=0) rfl rfl ai rfl rfl;have g:Src 0 (fw (c / 2) 0 (c % 2)):=⟨_,_,_,rfl,⋯,⋯⟩
 generalize fw (c / 2) 0 (c % 2)=v at f g;have⟨n,h,A,B,l,s1⟩:=d0 (st:=di ns u ws rs way o5 o6 (bD (.own,v))) p (i:=7) (k:=.own) (e:=.bi .len [.var 2]) (m:=((ws.map U.str).length:Nat)) rfl rfl (cA (aa (aP rfl) af) trivial bG) g ⋯ (by simp;lia) (by simp;lia);rw[c4]at l;have⟨r,C,q,D,G,H,I,O⟩:=x_ (st:=di ns u ws rs way o5 o6 (bD (.own,v))) (st1:=di ns u ws rs way o5 o6 (bD (.own,h))) (st2:=di ns u ws rs way o5 o6 (bD (.own,h))) s (i:=7) (j:=2) (t:=.cmp .eq (.var 4) (.cst (.int 2))) (k0:=.own) (k:=.own) (kw:=.any) (b:=(way==2)) rfl rfl rfl (.inr rfl) A (ju (ae rfl) ai trivial (bC rfl)) rfl rfl s1 ⋯ y B l;have J:cT ws r:=⟨mA D,G,H,I⟩
 show⟨layR rs r,bD (.own,C),ay (st2:=di ns u ws rs way o5 o6 (bD (.own,v))) f a5 (yb (ya w (k0:=.own) (k:=.own) (rs:=rs) rfl rfl q rfl rfl ⋯ (λx L=>by have:=(d.1 x L).2.2.2;lia) hl) az),d.lay J,qm⟩
abbrev rO:E:=.and [.cmp .gt (.bi .len [.var 0]) (.cst (.int 0)),.cmp .lt (.bi .len [.var 3]) (.cst (.int 60))]
def mY:Run (GU Γ rO) (di ns u ws rs way o5 o6 o7) (cL (0<ns.length)&&cL (rs.length<60)) (di ns u ws rs way o5 o6 o7):=by
 show jv (oE (aS (cA (aa (dm rfl) af) ∅ bG) ai trivial (fN ?_)) λ_=>cB (aS (cA (aa (aD rfl) af) ∅ bG) ai trivial (Bn ?_)))
 .rw[c4];show decide_eq_decide.mpr ⋯
 .rw[c4];show decide_eq_decide.mpr ⋯
def rP(m:iK Γ)(n:bK Γ)(o:lq Γ)(p:lr Γ)(q:0<ws.length)(r:ws.length<1000000):
  ∀(k f:Nat) (ns:List Int) (rs:List Row) (o7:Option (Kd×U)),ns.length=k->k<f->cU ws rs->rs.length<=60->∃d b i,Run (fu (GU Γ rO) (execs Γ rN) f) (di ns u ws rs way o5 o6 o7) .nx (di d u ws b way o5 o6 i)/\cU ws b/\b.length<=60/\d.length<=ns.length:=by
 intro k;induction k with
 |zero =>
  intro f ns rs o7 hk s h hl;obtain⟨f,rfl⟩:∃g,f=g+1:=⟨f - 1,⋯⟩
  have a:=mY (Γ:=Γ) (ns:=ns) (u:=u) (ws:=ws) (rs:=rs) (way:=way) (o5:=o5) (o6:=o6) (o7:=o7);rw[Zo (show ¬0<ns.length by lia)]at a;show⟨ns,rs,o7,mT a,h,hl,ix _⟩
 |succ k t =>
  intro f ns rs o7 hk s h hl;obtain⟨f,rfl⟩:∃g,f=g+1:=⟨f - 1,⋯⟩
  have a:=mY (Γ:=Γ) (ns:=ns) (u:=u) (ws:=ws) (rs:=rs) (way:=way) (o5:=o5) (o6:=o6) (o7:=o7);rw[Zp (show 0<ns.length by lia)]at a;by_cases j:rs.length<60
  .rw[Zp j]at a;obtain⟨ms,c,rfl⟩:∃ms c,ns=ms++[c]:=by
    have l:ns≠[]:=λe=>by rw[e]at hk;cases hk
    show⟨ns.dropLast,ns.getLast l,(TJ l).symm⟩
   have v:ms.length=k:=by simpa using hk
   have⟨w,x,y,b1,C⟩:=u_ (u:=u) (ws:=ws) (way:=way) (o5:=o5) (o6:=o6) (o7:=o7) (ns:=ms) (c:=c) m n o p q r h ⋯;have⟨d,b,i,z,A,B,D⟩:=t f ms w x v ⋯ b1 ⋯;show⟨d,b,i,qd a y z,A,B,by simp;lia⟩
  .rw[Zo j]at a;show⟨ns,rs,o7,mT a,h,hl,ix _⟩
abbrev Br:List S :=
   [.set 3 (.lst []),
    .set 4 (.Gq "_law_draw" [.var 1,.cst (.int 4)] [0]),
    .GN cK [5] .H9 [.Gq "_law_draw" [.var 1,.cst (.int 25)] [0]] rM,
    .Kh rO rN,
    .ret (.bi .tuple [(.var 3)])]
abbrev oI:Fn:=⟨"_law_book",3,8,.JK [0,1]::Br⟩
def rQ(z:iK Γ)(g:bK Γ)(l:lq Γ)(n:lr Γ){ns:List Int}(o:Src T u)(Q:T+500<2 ^ 62)(Y:ns.length<1000)(p:0<ws.length)(s:ws.length<1000000):
  ∃(rs:List Row) (c:List Int) (u':U),gN Γ oI [0,1] Br [.lst (ns.map .int),u,.lst (ws.map .str)]=bD (.ok (.loc,.tup [.tup (rs.map B'),.lst (c.map .int),u']))/\cU ws rs/\rs.length<=60/\c.length<=ns.length/\Src (T+500) u':=by
 have A:(60:Nat)<df:=by decide
 obtain⟨way,B,C,_,_,s1⟩:=d0 (st:=[bD (.io,.lst (ns.map .int)),bD (.io,u),bD (.any,.lst (ws.map .str)),bD (.own,.lst []),cb,cb,cb,cb]) g (i:=1) (k:=.io) (e:=.cst (.int 4)) (m:=4) rfl rfl ai o ⋯ ⋯ ⋯;have⟨m,v,D,m0,m1,s2⟩:=d0 (st:=di ns B ws [] way cb cb cb) g (i:=1) (k:=.io) (e:=.cst (.int 25)) (m:=25) rfl rfl ai s1 ⋯ ⋯ ⋯;have⟨m,rfl⟩:=u7 m0;obtain⟨st',G,a,b,o5,o6,rfl,s3,b3,w,_⟩:=bI (rs:=[(.loc,.int (m:Nat))]) (t:=cK) (is:=[5]) (body:=execs Γ rM) (λi:Nat=>(Kd.loc,U.int (0+(i:Int)))) (λd r st=>∃(a:U) (b:List Row) (o5 o6:Option (Kd×U)),st=di ns a ws b way o5 o6 cb/\Src (T+2+18 * (d.length:Nat)) a/\cU ws b/\b.length<=d.length/\d.length+r.length=m)
  (λd r st _=>trivial) (λd y r st h=>by
   have⟨a,b,o5,o6,rfl,s3,b3,w,H⟩:=h;simp only[js]at H;have⟨I,J,Lc,q,s4,b4,x⟩:=u9 (ns:=ns) (way:=way) (k:=y) (o6:=o6) (o7:=cb) g l n s3 ⋯ p s b3 ⋯;show⟨di ns a ws b way (bD (.loc,.int (0+(y:Int)))) o6 cb,_,aI,q,I,J,_,_,rfl,s4.up (by simp;lia),b4,?_,?_⟩
   .simp;lia
   .simp;lia) (hW m) [] (di ns v ws [] way cb cb cb) ⟨v,[],cb,cb,rfl,s2.up (by simp;lia),⟨by simp,by simp⟩,by simp,by simp⟩
 rw[i2,G0]at s3 w;have⟨c,j,L,N,b4,x,O⟩:=rP z g l n (u:=a) (way:=way) (o5:=o5) (o6:=o6) p s ns.length fuel ns b cb rfl (by unfold fuel;lia) b3 ⋯;show⟨j,c,a,?_,b4,x,O,s3.up ⋯⟩;show cu (st0:=[bD (.io,.lst (ns.map .int)),bD (.io,u),bD (.any,.lst (ws.map .str)),cb,cb,cb,cb,cb]) (f:=.rt .loc (.tup (j.map B'))) (st:=di c a ws j way o5 o6 L) rfl ?_ ?_ rfl rfl
 .obtain⟨_,_,_,rfl,_⟩:=o;rfl
 show ay (bu af trivial ax (i3 _)) a5 (ay C aI ?_);show cJ (rs:=[(.loc,.int (m:Nat))]) (aa D af) trivial (oC ⋯) rfl G (qe N ?_);show bA (cA (aa (aD rfl) af) ∅ rfl) dN
end TM
namespace TM
open PySem L2 GW
theorem ye{cond:M Bool}(it:α->Kd×U)(I:List α->List α->List U->av->Prop)(hs:∀d r a st,I d r a st->a9 src st)
  (XR:∀d y q a st,I d (y::q) a st->∃s1 s2 s3 s4 r u,Run (dg t (hW k) (it y)) (i6 k cb++st) () s1/\Run cond s1 b6 s2/\Run elt s2 r s3/\Run (lift r) s3 u s4/\I (d++[y]) q (a++[u]) (s4.drop k)) :
  ∀(ys d:List α) (acc:List U) (st:av),I d ys acc st->acc.length+ys.length<=df->∃us st',Run (bH k t cond elt src (ys.map it) acc) st us st'/\I (d++ys) [] us st'
 |[],d,acc,st,h,_=>⟨acc,st,tH (hs _ _ _ _ h),by rw[ri];show h⟩
 |y::ys,d,acc,st,h,hl=>by
  rw[js]at hl;have⟨s1,s2,s3,s4,r,u,b,c,e,f,g⟩:=XR d y ys acc st h;have⟨us,st',i,j⟩:=ye it I hs XR ys (d++[y]) (acc++[u]) _ g (by simp;lia);show⟨us,st',oB (hs _ _ _ _ h) b c e f ⋯ i,by simpa using j⟩
def qo(a:0<=n)(b:n<26):∃c,Hm small.cps.toList n=bD c:=by
 have⟨k,rfl⟩:=u7 a;have hl:small.cps.toList.length=26:=by decide
 show⟨small.cps.toList[k]'⋯,dY (by simp)⟩
def yf(f:bK Γ)(g:Src T u)(w:T+8<2 ^ 62):
  ∃x u',Run (ev Γ (.K7 .join (.cst (.str "")) [.comp 1 cK .H9 [.cst (.int 8)] [] (.idx (.var 2) (.Gq "_law_draw" [.var 1,.cst (.int 26)] [0]))])) (bD (.io,u)::bD (.loc,.str small)::rest) (.loc,.str x) (bD (.io,u')::bD (.loc,.str small)::rest)/\x.length=8/\Src (T+8) u':=by
 have j:(100:Nat)<=df:=by decide
 obtain⟨us,st',b,u',cs,rfl,rfl,hl,hs,_⟩:=ye (k:=1) (t:=cK) (cond:=aU Γ []) (elt:=ev Γ (.idx (.var 2) (.Gq "_law_draw" [.var 1,.cst (.int 26)] [0]))) (src:=[(.loc,.int (8:Nat))]) (λi:Nat=>(Kd.loc,U.int (0+(i:Int))))
  (λd r a st=>∃(u':U) (cs:List Nat),st=bD (.io,u')::bD (.loc,.str small)::rest/\a=(cs.map GW.one).map U.str/\cs.length=d.length/\Src (T+(d.length:Nat)) u'/\d.length+r.length=8) (λ_ _ _ _ _=>trivial)
  (λd y q a st h=>by
   have⟨u',cs,rfl,rfl,hl,hs,l⟩:=h;rw[js]at l;have⟨n,o,r,p,s,s2⟩:=d0 (st:=bD (.loc,.int (0+(y:Int)))::bD (.io,u')::bD (.loc,.str small)::rest) f (i:=1) (k:=.io) (e:=.cst (.int 26)) (m:=26) rfl rfl ai hs ⋯ ⋯ ⋯;have⟨c,b⟩:=qo p s;show⟨_,_,_,_,_,_,dO aI,k9,bh (ae rfl) r trivial (nE p6 b),aE,o,cs++[c],rfl,by simp,by simp[hl],s2.up (by simp;lia),by simp;lia⟩)
  (hW 8) [] [] (bD (.io,u)::bD (.loc,.str small)::rest) ⟨u,[],rfl,rfl,rfl,by simpa using g,by simp⟩ (by simp;lia)
 rw[i2,G0]at hl hs;have v:lL .join (.str "") [(.own,.lst ((cs.map GW.one).map U.str))]=bD (.loc,.str (Q9 ti (cs.map GW.one))):=by
  change(strsOf ((cs.map GW.one).map U.str)).bind _=_;rw[dA];change(if Yl ti (cs.map GW.one)=b6 then _ else _)=_;rw[Zm (GW.p5 cs ⋯)];rfl
 show⟨Q9 ti (cs.map GW.one),u',xF ai (aa (cC (aa ai af) trivial (oC (n:=8) ⋯) b) af) trivial v,?_,hs⟩;change(Q9 ti (cs.map GW.one)).cps.size=8;rw[<-hU,GW.join_ones,hl]
abbrev yg:List S:=[.app 7 (.ite (.cmp .eq (.var 10) (.cst (.int 1))) (.var 9) (.bin .add (.bin .add (.var 9) (.cst (.str "/"))) (.bi .str [.var 10])))]
abbrev yh:List S :=
   .ite (.cmp .eq (.var 4) (.cst (.int 3)))
    [.set 10 (.bin .add (.cst (.int 1)) (.Gq "_law_draw" [.var 0,.cst (.int 99)] [0]))]
    []::yg
abbrev yi:List S :=
   .ite (.cmp .gt (.var 4) (.cst (.int 1)))
    [.set 9 (.bin .add (.idx (.var 1) (.bin .mod (.bin .add (.var 6) (.bin .mul (.cst (.int 7)) (.var 8))) (.cst (.int 26)))) (.JJ (.var 3) [.cst (.int 1)] [.var 5])),
    .set 10 (.cst (.int 1))]
    []::yh
abbrev rR:List S :=
   .set 9 (.JJ (.var 3) [] [.bin .add (.cst (.int 1)) (.bin .mod (.var 8) (.cst (.int 8)))]) ::
   .set 10 (.bin .add (.cst (.int 1)) (.bin .LD (.var 8) (.cst (.int 8)))) ::
   .ite (.cmp .eq (.var 4) (.cst (.int 1)))
    [.set 9 (.JJ (.var 3) [] [.var 5]),
    .set 10 (.bin .add (.cst (.int 1)) (.var 8))]
    []::yi
abbrev yj:List S :=
   [.set 1 (.cst (.str "abcdefghijklmnopqrstuvwxyz")),
    .set 2 (.bin .add (.cst (.int 1)) (.Gq "_law_draw" [.var 0,.idx (.lst [.cst (.int 8),.cst (.int 16),.cst (.int 24)]) (.Gq "_law_draw" [.var 0,.cst (.int 3)] [0])] [0])),
    .set 3 (.K7 .join (.cst (.str "")) [.comp 1 cK .H9 [.cst (.int 8)] [] (.idx (.var 2) (.Gq "_law_draw" [.var 1,.cst (.int 26)] [0]))]),
    .set 4 (.Gq "_law_draw" [.var 0,.cst (.int 4)] [0]),
    .set 5 (.bin .add (.cst (.int 1)) (.Gq "_law_draw" [.var 0,.cst (.int 8)] [0])),
    .set 6 (.Gq "_law_draw" [.var 0,.cst (.int 26)] [0]),
    .set 7 (.lst []),
    .GN cK [8] .H9 [.var 2] rR,
    .ret (.var 7)]
abbrev lu:Fn:=⟨"_law_words",1,11,.JK [0]::yj⟩
abbrev jf(u:U)(many:Int)(base:Str)(way size first:Int)(acc:List Str)(o8 o9 o10:Option (Kd×U)):av:=[bD (.io,u),bD (.loc,.str small),bD (.loc,.int many),bD (.loc,.str base),bD (.loc,.int way),bD (.loc,.int size),bD (.loc,.int first),bD (.own,.lst (acc.map .str)),o8,o9,o10]
def jP(h:x.length<=df):lK (k,.str x) lo a=bD (.loc,.str (PySem.StrLaws.sliceText x lo a)):=by
 change(if x.length<=df then _ else _)=_;rw[Zm h]
def mZ(e:acc.length<1000)(f:w.length<=9)(g:1<=s)(s1:s<=99):
  ∃x:Str,x.length<=20/\Run (execs Γ yg) (jf u many base way size first acc o8 (bD (.loc,.str w)) (bD (.loc,.int s))) .nx (jf u many base way size first (acc++[x]) o8 (bD (.loc,.str w)) (bD (.loc,.int s))):=by
 have b:(1000:Nat)<=df:=by decide
 by_cases h:s=1
 .subst h;show⟨w,⋯,gA (k:=.own) (k':=.own) rfl (Dm (aS (ae rfl) ai trivial (bC rfl)) (ae rfl)) aE rfl rfl (by simp;lia) ?_⟩;rw[show acc.map U.str++[U.str w]=(acc++[w]).map U.str by simp];show az
 .have i:=uW (k:=s) ⋯ s1;have c:Ib .str [(.loc,.int s)]=bD (.loc,.str (vW s)):=by
   simp only[Ib,il,zt];rw[Zm (by
    have:s.natAbs<2 ^ 7:=by lia
    have d:s.natAbs≠0:=by lia
    have:=(Nat.log2_lt d).mpr this;lia)]
   rfl
  have a:(w++("/":Str)).length=w.length+1:=by rw[len_list,len_list,app_list,hY];rfl
  show⟨w++("/":Str)++vW s,by rw[len_list,app_list,hY,<-len_list,<-len_list,a];lia,gA (k:=.own) (k':=.own) rfl (Dn (aS (ae rfl) ai trivial (bC (by simp[h]))) (ba (ba (ae rfl) ai trivial (oD (by change w.length+1<=df;lia))) (cA (aa (ae rfl) af) trivial c) trivial (oD (by rw[a];lia)))) aE rfl rfl (by simp;lia) ?_⟩;rw[show acc.map U.str++[U.str (w++("/":Str)++vW s)]=(acc++[w++("/":Str)++vW s]).map U.str by simp];show az
def m6(g:bK Γ)(b:Src T u)(p:T+1<2 ^ 62)(c:acc.length<1000)(d:w.length<=9)(j:1<=s)(s1:s<=99):
  ∃u' x o9 o10,Run (execs Γ yh) (jf u many base way size first acc o8 (bD (.loc,.str w)) (bD (.loc,.int s))) .nx (jf u' many base way size first (acc++[x]) o8 o9 o10)/\Src (T+1) u'/\x.length<=20:=by
 by_cases h:way=3
 .subst h;have⟨n,f,l,r,t,o⟩:=d0 (st:=jf u many base 3 size first acc o8 (bD (.loc,.str w)) (bD (.loc,.int s))) g (i:=0) (k:=.io) (e:=.cst (.int 99)) (m:=99) rfl rfl ai b ⋯ ⋯ ⋯;have⟨x,a,q⟩:=mZ (Γ:=Γ) (u:=f) (many:=many) (base:=base) (way:=3) (size:=size) (first:=first) (acc:=acc) (o8:=o8) (w:=w) (s:=1+n) c d ⋯ ⋯;show⟨f,x,_,_,fM (aS (ae rfl) ai trivial (bC rfl)) (ay (ba ai l trivial cm) aI az) q,o,a⟩
 .have⟨x,a,q⟩:=mZ (Γ:=Γ) (u:=u) (many:=many) (base:=base) (way:=way) (size:=size) (first:=first) (acc:=acc) (o8:=o8) (w:=w) (s:=s) c d j s1;show⟨u,x,_,_,bP (aS (ae rfl) ai trivial (bC (by simp[h]))) az q,b.up ⋯,a⟩
def m7(a:bK Γ){k:Nat}(b:Src T u)(d:T+1<2 ^ 62)(e:acc.length<1000)(f:w.length<=9)(g:1<=s)(s1:s<=99)(p:base.length=8)(i:1<=size)(r:size<=8)(t:0<=first)(v:first<26)(hk:k<1000):
  ∃u' x o9 o10,Run (execs Γ yi) (jf u many base way size first acc (bD (.loc,.int (0+(k:Int)))) (bD (.loc,.str w)) (bD (.loc,.int s))) .nx (jf u' many base way size first (acc++[x]) (bD (.loc,.int (0+(k:Int)))) o9 o10)/\Src (T+1) u'/\x.length<=20:=by
 have j:(1000:Nat)<=df:=by decide
 by_cases h:1<way
 .have l:0<=(first+7 * (0+(k:Int))) % 26:=OM _ ⋯;have m:(first+7 * (0+(k:Int))) % 26<26:=Pf _ ⋯;have⟨c,n⟩:=qo l m;have y:=len_list base;have z:(PySem.StrLaws.sliceText base (bD 1) (bD size)).length<=8:=by
   rw[PySem.StrLaws.sliceText_plain ⟨⋯,i,⋯⟩,len_list];simp;lia
  have Jn:(GW.one c).length=1:=rfl;have o:(GW.one c++PySem.StrLaws.sliceText base (bD 1) (bD size)).length<=9:=by rw[len_list,app_list,hY,<-len_list,<-len_list];lia
  have⟨u',x,o9,o10,q,hs⟩:=m6 (Γ:=Γ) a (u:=u) (many:=many) (base:=base) (way:=way) (size:=size) (first:=first) (acc:=acc) (o8:=bD (.loc,.int (0+(k:Int)))) (w:=GW.one c++PySem.StrLaws.sliceText base (bD 1) (bD size)) (s:=1) b d e o ⋯ ⋯;show⟨u',x,o9,o10,fM (aS (ae rfl) ai trivial (fN (by simp[h]))) (ay (ba (bh (ae rfl) (ba (ba (ae rfl) (ba ai (ae rfl) trivial (j3 ⋯)) trivial cm) ai trivial (d5 ⋯)) trivial (nE p6 n)) (mQ (ae rfl) (kY ai) (kY (ae rfl)) trivial (jP ⋯)) trivial (oD ⋯)) aI (ay ai aI az)) q,hs⟩
 .have⟨u',x,o9,o10,q,hs⟩:=m6 (Γ:=Γ) a (u:=u) (many:=many) (base:=base) (way:=way) (size:=size) (first:=first) (acc:=acc) (o8:=bD (.loc,.int (0+(k:Int)))) (w:=w) (s:=s) b d e f g s1;show⟨u',x,o9,o10,bP (aS (ae rfl) ai trivial (fN (by simp[h]))) az q,hs⟩
def yk(a:0<=j)(b:x.length=8):(PySem.StrLaws.sliceText x cb (bD j)).length<=9:=by
 have⟨j,rfl⟩:=u7 a;have h:=len_list (PySem.StrLaws.sliceText x cb (bD (j:Int)));have hl:=len_list x;rw[Dp]at h;rw[h,x3];lia
def vb(b:bK Γ){k:Nat}(c:Src T u)(d:T+1<2 ^ 62)(e:acc.length<1000)(a:base.length=8)(f:1<=size)(g:size<=8)(i:0<=first)(j:first<26)(hk:k<98):
  ∃u' x l m,Run (execs Γ rR) (jf u many base way size first acc (bD (.loc,.int (0+(k:Int)))) o9 o10) .nx (jf u' many base way size first (acc++[x]) (bD (.loc,.int (0+(k:Int)))) l m)/\Src (T+1) u'/\x.length<=20:=by
 have n:(1000:Nat)<=df:=by decide
 have o:0<=(0+(k:Int)) % 8:=OM _ ⋯;by_cases h:way=1
 .have⟨u',x,o9,o10,q,hs⟩:=m7 (Γ:=Γ) b (u:=u) (many:=many) (base:=base) (way:=way) (size:=size) (first:=first) (acc:=acc) (k:=k) (w:=PySem.StrLaws.sliceText base cb (bD size)) (s:=1+(0+(k:Int))) c d e (yk ⋯ a) ⋯ ⋯ a f g i j ⋯;show⟨u',x,o9,o10,ay (mQ (ae rfl) pZ (kY (ba ai (ba (ae rfl) ai trivial (d5 ⋯)) trivial cm)) trivial (jP ⋯)) aI (ay (ba ai (ba (ae rfl) ai trivial (k_ ⋯)) trivial cm) aI (fM (aS (ae rfl) ai trivial (bC (by simp[h]))) (ay (mQ (ae rfl) pZ (kY (ae rfl)) trivial (jP ⋯)) aI (ay (ba ai (ae rfl) trivial cm) aI az)) q)),hs⟩
 .have⟨u',x,o9,o10,q,hs⟩:=m7 (Γ:=Γ) b (u:=u) (many:=many) (base:=base) (way:=way) (size:=size) (first:=first) (acc:=acc) (k:=k) (w:=PySem.StrLaws.sliceText base cb (bD (1+(0+(k:Int)) % 8))) (s:=1+(0+(k:Int)) / 8) c d e (yk ⋯ a) ⋯ ⋯ a f g i j ⋯;show⟨u',x,o9,o10,ay (mQ (ae rfl) pZ (kY (ba ai (ba (ae rfl) ai trivial (d5 ⋯)) trivial cm)) trivial (jP ⋯)) aI (ay (ba ai (ba (ae rfl) ai trivial (k_ ⋯)) trivial cm) aI (bP (aS (ae rfl) ai trivial (bC (by simp[h]))) az q)),hs⟩
def Gb(a:0<=n)(b:n<3):∃m:Int,8<=m/\m<=24/\Hm [U.int 8,.int 16,.int 24] n=bD (.int m):=by
 have⟨k,rfl⟩:=u7 a;have:k=0\/k=1\/k=2:=by lia
 rcases this with rfl|rfl|rfl
 .show⟨8,⋯,⋯,rfl⟩
 .show⟨16,⋯,⋯,rfl⟩
 .show⟨24,⋯,⋯,rfl⟩
def vc(a:bK Γ)(l:Src T u)(hT:T+100<2 ^ 62):
  ∃(ws:List Str) (u':U),gN Γ lu [0] yj [u]=bD (.ok (.own,.tup [.lst (ws.map .str),u']))/\1<=ws.length/\ws.length<=24/\Src (T+100) u'/\∀x∈ws,x.length<=20:=by
 have A:(1000:Nat)<=df:=by decide
 let S1:U->av:=λv=>[bD (.io,v),bD (.loc,.str small),cb,cb,cb,cb,cb,cb,cb,cb,cb]
 have⟨i,B,C,D,G,s1⟩:=d0 (st:=S1 u) a (i:=0) (k:=.io) (e:=.cst (.int 3)) (m:=3) rfl rfl ai l ⋯ ⋯ ⋯;have⟨m,m0,m1,em⟩:=Gb D G;have⟨n,u2,H,n0,n1,s2⟩:=xZ (st:=S1 u) (st1:=S1 B) a (i:=0) (k:=.io) (k0:=.io) (e:=.idx (.lst [.cst (.int 8),.cst (.int 16),.cst (.int 24)]) (.Gq "_law_draw" [.var 0,.cst (.int 3)] [0])) (m:=m) rfl rfl (bh (x:=(.own,.lst [U.int 8,.int 16,.int 24])) (bu (aa ai (aa ai (aa ai af))) trivial (au aE (au aE (au aE ax))) (by change 3<=df;lia)) C trivial (bW em)) rfl rfl s1 ⋯ ⋯ ⋯;have⟨base,b,I,J,s3⟩:=yf (rest:=[bD (.loc,.int (1+n)),cb,cb,cb,cb,cb,cb,cb,cb]) a s2 ⋯;obtain⟨way,g,L,_,_,s4⟩:=d0 (st:=[bD (.io,b),bD (.loc,.str small),bD (.loc,.int (1+n)),bD (.loc,.str base),cb,cb,cb,cb,cb,cb,cb]) a (i:=0) (k:=.io) (e:=.cst (.int 4)) (m:=4) rfl rfl ai s3 ⋯ ⋯ ⋯;have⟨size,N,O,z0,z1,Q⟩:=d0 (st:=[bD (.io,g),bD (.loc,.str small),bD (.loc,.int (1+n)),bD (.loc,.str base),bD (.loc,.int way),cb,cb,cb,cb,cb,cb]) a (i:=0) (k:=.io) (e:=.cst (.int 8)) (m:=8) rfl rfl ai s4 ⋯ ⋯ ⋯;have⟨first,o,Y,f0,f1,s6⟩:=d0 (st:=[bD (.io,N),bD (.loc,.str small),bD (.loc,.int (1+n)),bD (.loc,.str base),bD (.loc,.int way),bD (.loc,.int (1+size)),cb,cb,cb,cb,cb]) a (i:=0) (k:=.io) (e:=.cst (.int 26)) (m:=26) rfl rfl ai Q ⋯ ⋯ ⋯;have⟨many,N0⟩:=u7 (show 0<=1+n by lia);obtain⟨st',hf,p,ws,o8,o9,o10,rfl,s,l7,b7,_⟩:=bI (rs:=[(.loc,.int (1+n))]) (t:=cK) (is:=[8]) (body:=execs Γ rR) (λi:Nat=>(Kd.loc,U.int (0+(i:Int)))) (λd r st=>∃(b:U) (ws:List Str) (o8 o9 o10:Option (Kd×U)),st=jf b (1+n) base way (1+size) first ws o8 o9 o10/\Src (T+13+(d.length:Nat)) b/\ws.length=d.length/\(∀x∈ws,x.length<=20)/\∃j,d=YW 0 j/\r=YW j (many - j)/\j<=many)
  (λd r st _=>trivial) (λd y r st h=>by
   have⟨b,ws,o8,o9,o10,rfl,s3,w,b3,j,rfl,c,hj⟩:=h;have Xd:j<many:=by
    rcases YU j many with z|z
    .show z
    .rw[show many - j=0 by lia]at c;cases c
   rw[show many - j=(many - (j+1))+1 by lia,List.range'_succ]at c;cases c;rw[List.length_range']at s3 w;have⟨g,x,HV,NZ,q,s4,hx⟩:=vb (Γ:=Γ) a (u:=b) (many:=1+n) (base:=base) (way:=way) (size:=1+size) (first:=first) (acc:=ws) (k:=y) (o9:=o9) (o10:=o10) s3 ⋯ ⋯ J ⋯ ⋯ f0 f1 ⋯;show⟨jf b (1+n) base way (1+size) first ws (bD (.loc,.int (0+(y:Int)))) o9 o10,_,aI,q,g,ws++[x],_,_,_,rfl,s4.up (by simp;lia),by simp[w],λz hz=>(i4.mp hz).elim (b3 z) λhz=>by rw[hQ.mp hz];show hx,y+1,by have:=@List.range'_1_concat 0 y;simpa using this.symm,rfl,⋯⟩) (hW many) [] (jf o (1+n) base way (1+size) first [] cb cb cb) ⟨o,[],cb,cb,cb,rfl,s6.up (by simp;lia),by simp,λ_ h=>(nomatch h),0,rfl,by rw[List.range_eq_range'];simp,⋯⟩
 rw[i2,G0]at s l7;show⟨ws,p,?_,⋯,⋯,s.up ⋯,b7⟩;show cu (st0:=[bD (.io,u),cb,cb,cb,cb,cb,cb,cb,cb,cb,cb]) (f:=.rt .own (.lst (ws.map .str))) (st:=(jf p (1+n) base way (1+size) first ws o8 o9 o10).set 7 cb) rfl ?_ ?_ rfl rfl
 .obtain⟨_,_,_,rfl,_⟩:=l;rfl
 show ay (st2:=S1 u) ai aI (ay (ba ai H trivial cm) aI (ay I aI (ay L aI (ay (ba ai O trivial cm) aI (ay Y aI (ay (bu af trivial ax (i3 _)) a5 ?_))))));show cJ (rs:=[(.loc,.int (1+n))]) (xs:=(hW many).map λi:Nat=>(Kd.loc,U.int (0+(i:Int)))) (aa (ae rfl) af) trivial (by rw[N0];show oC ⋯) rfl hf (bA (aD rfl) (jw rfl))
abbrev oJ(Γ:Tab):Prop:=∀(T:Int) (u:U),Src T u->T+100<2 ^ 62->∃(ws:List Str) (u':U),Γ "_law_words" [u]=bD (.ok (.own,.tup [.lst (ws.map .str),u']))/\1<=ws.length/\ws.length<=24/\Src (T+100) u'/\∀x∈ws,x.length<=20
def AK(a:bK (GD Pg d))(h:G4 Pg "_law_words" lu):oJ (GD Pg (d+1)):=by
 intro T u b c;have⟨ws,u',e,r⟩:=vc a b c;show⟨ws,u',by rw[cM h _ rfl];show e,r⟩
abbrev eQ(ks:List Str)(x:Str):List Str:=if x∈ks then ks else ks++[x]
def yl:dput ks (ks.map f) x u=(eQ ks x,(eQ ks x).map λk=>if k=x then u else f k):=by
 unfold dput eQ;by_cases h:x∈ks
 .rw[Zm h,Zm h];congr 1
  clear h;induction ks with
  |nil=>rfl
  |cons k ks a=>rw[eH,MX,eH,eH,a]
 .rw[Zn h,Zn h];congr 1
  rw[ki,Xk,Zm rfl];congr 1
  show r3 λk hk=>?_;rw[Zn (λe:k=x=>h (e▸hk))]
def rS(h:ks.Nodup):(eQ ks x).Nodup:=by
 unfold eQ;split
 .show h
 .rename_i d;show qs.mpr ⟨h,by simp,λa f c b=>by rw[hQ]at b;subst b;show λe=>d (e▸f)⟩
def fP:y∈eQ ks x↔y∈ks\/y=x:=by
 unfold eQ;split
 .rename_i h;show⟨.inl,λz=>z.elim id λe=>e▸h⟩
 .simp
def AL(h:ks.length<1000):dU (.str x) u (.Gp ks (ks.map f))=bD (.Gp (eQ ks x) ((eQ ks x).map λk=>if k=x then u else f k)):=by
 rw[tL h,yl]
abbrev Bs:List S:=[.put 1 (.var 4) (.cst (.bl b6))]
abbrev ym:List S:=[.put 1 (.var 2) (.cst (.bl b6)),.GN cK [4] .seq [.var 3] Bs]
abbrev AM:Fn:=⟨"_law_all",1,5,[.set 1 (.H_ cK),.GN b6 [2,3] .seq [.var 0] ym,.ret (.bi .sorted [.var 1])]⟩
abbrev lP(ks:List Str):U:=.Gp ks (ks.map λ_=>.bl b6)
def jQ(h:ks.length<1000):dU (.str x) (.bl b6) (lP ks)=bD (lP (eQ ks x)):=by
 unfold lP;rw[AL h];congr 3
 funext k
 split<;>rfl
abbrev gW(ws ks:List Str):Prop:=ks.Nodup/\∀x∈ks,x∈ws
def gW.ins(h:gW ws ks)(a:x∈ws):gW ws (eQ ks x):=⟨rS h.1,λy b=>(fP.mp b).elim (h.2 y) λe=>e▸a⟩
def gW.len(h:gW ws ks):ks.length<=ws.length:=eM h.1 h.2
abbrev oK(rs:List Row)(ks:List Str)(o2 o3 o4:Option (Kd×U)):av:=[bD (.loc,.tup (rs.map B')),bD (.own,lP ks),o2,o3,o4]
def jR{rs:List Row}:Ih .seq [(k,.tup (rs.map B'))]=bD (rs.map λr=>(kE k,B' r)):=by
 change bD ((rs.map B').map λu=>(kE k,u))=_;rw[i0];rfl
def yn{rs:List Row}(hl:rs.length<=1000)(h:st[i]?=bD (bD (.loc,.tup (rs.map B')))):Run (ev Γ (.comp 1 cK .seq [.var i] [.cmp .eq (.idx (.var 0) (.cst (.int 1))) (.tup [])] (.idx (.var 0) (.cst (.int 0))))) st (.own,.lst (((rs.filter λr=>cL (r.2=[])).map (·.1)).map .str)) st:=by
 have b:(1000:Nat)<=df:=by decide
 have c:∀y:Row,gh (.loc,B' y) (.int 0)=bD (.loc,.str y.1):=λy=>rfl;have d:∀y:Row,gh (.loc,B' y) (.int 1)=bD (.loc,.tup (y.2.map .str)):=λy=>rfl;have a:=fc (cond:=aU Γ [.cmp .eq (.idx (.var 0) (.cst (.int 1))) (.tup [])]) (elt:=ev Γ (.idx (.var 0) (.cst (.int 0)))) (src:=[(.loc,.tup (rs.map B'))]) (st:=st) trivial .loc (.inl rfl) B' (λr:Row=>.str r.1) (λr=>cL (r.2=[])) .loc rs [] (by simp;lia)
  (λr _=>⟨cB (aS (bh (ae rfl) ai trivial (d r)) (dq af trivial ax (i3 _)) trivial tQ),λ_=>⟨bh (ae rfl) ai trivial (c r),aE⟩⟩)
 rw[i2]at a;rw[i0];show cC (rs:=[(.loc,.tup (rs.map B'))]) (aa (ae h) af) trivial jR a
section
def yo(o:i≠j)(l:st[i]?=bD (bD (k0,a)))(c:k0.root=b6)(y:st[j]?=bD (bD (k0',d)))(z:k0'.root=b6)(A:Run (bt Γ es) st rs st1)
  (b:st1[i]?=bD (bD (k,.lst us))) (hk:k.root=b6) (B:bS us=b6) (m:st1[j]?=bD (bD (k',.lst vs))) (p:k'.root=b6) (C:bS vs=b6) (D:rs.map (dR st1)=rs) (G:a9 rs st1) (H:∀r∈rs,pL [bD i,bD j] r=b6)
  (I:Γ f (.lst us::.lst vs::rs.map (·.2))=bD (.ok (n,.tup [v,.lst s,.lst t]))) (J:n=.own\/n=.loc):Run (ev Γ (.Gq f (.var i::.var j::es) [0,1])) st (n,v) ((st1.set i (bD (k,.lst s))).set j (bD (k',.lst t))):=by
 have w:∀(i:Nat) (k0:Kd) (a:U),st[i]?=bD (bD (k0,a))->k0.root=b6->Run (ev Γ (.var i)) st (.bor i,a) st:=λi k0 a l c=>by
  have:=dM l (by rintro rfl;cases c);unfold kv at this;rw[Zm c]at this;show this
 have x:∀(i:Nat) (k:Kd) (a u:U),st1[i]?=bD (bD (k,u))->k.root=b6->dR st1 (.bor i,a)=(.bor i,u):=λi k a u b hk=>by
  unfold dR
  dsimp only
  rw[b];simp[hk]
 have e:((Kd.bor i,a)::(Kd.bor j,d)::rs).map (dR st1)=(.bor i,.lst us)::(.bor j,.lst vs)::rs:=by rw[eH,eH,x i k a _ b hk,x j k' d _ m p,D]
 have g:gM ((Kd.bor i,U.lst us)::(Kd.bor j,U.lst vs)::rs) 0=bD i:=by
  change(if bS us=b6 then bD i else cb)=_;rw[Zm B]
 have h:gM ((Kd.bor i,U.lst us)::(Kd.bor j,U.lst vs)::rs) 1=bD j:=by
  change(if bS vs=b6 then bD j else cb)=_;rw[Zm C]
 show rH (rs:=(.bor i,a)::(.bor j,d)::rs) (ws:=[.lst s,.lst t]) (st1:=st1) (aa (w i k0 a l c) (aa (w j k0' d y z) A)) ?_ ?_ J ?_ ?_
 .rw[e];show⟨⟨k,hk,b⟩,⟨k',p,m⟩,G⟩
 .rw[e];show I
 .rw[e];unfold pM;rw[cc,cc];show⟨⟨by simp[g,h],by simp[g,h,o]⟩,mx.mpr λq L=>?_⟩
  match q with
  |0=>simp
  |1=>simp
  |q+2 =>
   have hl:q<rs.length:=by have:=va.mp L;simpa using this
   rw[Jx];show .inr ?_;rw[show((Kd.bor i,U.lst us)::(Kd.bor j,U.lst vs)::rs).getD (q+2) (.loc,.GC)=rs[q] by simp[L6,hl]];simp only[eH,IV,g,h];show H _ (J0 hl)
 .rw[e];unfold gy;rw[g]
  dsimp only
  rw[b]
  dsimp only
  unfold gy;rw[h]
  dsimp only
  rw[i1 o,m];rfl
def AN(d:i≠j)(e:st[i]?=bD (bD (k0,y)))(g:k0.root=b6)(h:st[j]?=bD (bD (k0',z)))(l:k0'.root=b6)(m:Run (bt Γ es) st rs st1)
  (n:st1[i]?=bD (bD (k,.lst us))) (hk:k.root=b6) (o:bS us=b6) (p:st1[j]?=bD (bD (k',.lst vs))) (q:k'.root=b6) (s:bS vs=b6) (a:rs.all NW=b6)
  (t:Γ f (.lst us::.lst vs::rs.map (·.2))=bD (.ok (b,.tup [v,.lst u,.lst w]))) (x:b=.own\/b=.loc):Run (ev Γ (.Gq f (.var i::.var j::es) [0,1])) st (b,v) ((st1.set i (bD (k,.lst u))).set j (bD (k',.lst w))) :=
 yo d e g h l m n hk o p q s ((r3 λr c=>qj (mx.mp a r c)).trans (SX rs)) (ql a) (λr c=>mX (mx.mp a r c)) t x
end
abbrev lx(Γ:Tab):Prop:=∀(ns:List Int) (u:U) (ws:List Str) (T:Int),Src T u->T+500<2 ^ 62->ns.length<1000->0<ws.length->ws.length<1000000 ->
  ∃(rs:List Row) (a:List Int) (u':U),Γ "_law_book" [.lst (ns.map .int),u,.lst (ws.map .str)]=bD (.ok (.loc,.tup [.tup (rs.map B'),.lst (a.map .int),u']))/\cU ws rs/\rs.length<=60/\a.length<=ns.length/\Src (T+500) u'
def yp(a:iK (GD Pg d))(b:bK (GD Pg d))(c:lq (GD Pg d))(f:lr (GD Pg d))(h:G4 Pg "_law_book" oI):lx (GD Pg (d+1)):=by
 intro ns u ws T g i j k l;have⟨rs,m,u',e,r⟩:=rQ a b c f g i j k l;show⟨rs,m,u',by rw[cM h _ rfl];show e,r⟩
def qp(a:iK Γ){ns:List Int}:∃(b:List Int) (u:U),Run (ev Γ (.Gq "_law_source" [.var 1,.cst (.int k)] [0])) (o0::bD (.own,.lst (ns.map .int))::rest) (.own,u) (o0::bD (.own,.lst (b.map .int))::rest)/\b.length<=ns.length/\Src 0 u:=by
 by_cases h:ns=[]
 .subst h;show⟨[],fw k 0 1,Dx (k0:=.own) (k:=.own) a rfl rfl ai rfl rfl,ix _,⟨_,_,_,rfl,⋯,⋯⟩⟩
 .have e:=TJ h;generalize ns.dropLast=l at e;generalize ns.getLast h=c at e;subst e;show⟨l,fw (c / 2) 0 (c % 2),yd (k0:=.own) (k:=.own) a rfl rfl ai rfl rfl,by simp,⟨_,_,_,rfl,⋯,⋯⟩⟩
def Src.lst(h:Src T u):∃us,u=.lst us/\bS us=b6:=by
 obtain⟨a,t,w,rfl,_,_⟩:=h;show⟨_,rfl,rfl⟩
end TM
namespace KL
open PySem L2 TM
abbrev c9:Fn:=⟨"gathered",1,4,[.newD 1,.GN b6 [2,3] .seq [.var 0] [.ite (.inD b6 (.var 2) 1) [.putD 1 (.var 2) (.lst [])] [],.Ia 1 (.var 2) (.var 3)],.ret (.MD 1)]⟩
abbrev a_:Fn:=⟨"places_that_tell",1,4,[.set 1 (.lst []),.GN b6 [2,3] .Kz [.var 0] [.ext 1 (.comp 1 cK .seq [.idx (.var 3) (.cst (.int 1))] [] (.tup [.var 0,.var 3]))],.ret (.call "gathered" [.var 1])]⟩
abbrev cN:Fn:=⟨"new_steps",3,6,[.set 3 (.H_ cK),.GN cK [4] .seq [.var 1] [.set 5 (.idx (.idx (.var 0) (.var 4)) (.cst (.int 0))),.ite (.and [.cmp .GG (.var 5) (.var 2),.cmp .GG (.var 5) (.var 3)]) [.put 3 (.var 5) (.var 4)] []],.ret (.ME 3)]⟩
abbrev bj:Fn:=⟨"steps_in_rounds",1,10,[.set 1 (.call "places_that_tell" [.var 0]),.set 2 (.comp 1 cK .seq [.var 0] [] (.bi .len [.idx (.var 0) (.cst (.int 1))])),.set 3 (.H_ cK),.set 4 (.lst []),.set 5 (.comp 2 b6 .Kz [.var 2] [.cmp .eq (.var 1) (.cst (.int 0))] (.var 0)),.Kh (.cmp .ne (.var 5) (.lst [])) [.set 6 (.call "new_steps" [.var 0,.var 5,.var 3]),.set 5 (.lst []),.GN b6 [7,8] .seq [.var 6] [.put 3 (.var 7) (.cst (.bl b6)),.GN cK [9] .seq [.IY 1 (.var 7) (.lst [])] [.aug b6 2 (.var 9) (.cst (.int 1)),.ite (.cmp .eq (.idx (.var 2) (.var 9)) (.cst (.int 0))) [.app 5 (.var 9)] []]],.ite (.cmp .ne (.var 6) (.lst [])) [.app 4 (.var 6)] []],.ret (.var 4)]⟩
abbrev fg:Fn:=⟨"order",1,3,[.set 1 (.lst []),.GN cK [2] .seq [.call "steps_in_rounds" [.var 0]] [.ext 1 (.var 2)],.ret (.var 1)]⟩
abbrev eR:Fn:=⟨"learnt",1,1,[.ret (.bi .sorted [.comp 2 b6 .seq [.call "order" [.var 0]] [] (.var 0)])]⟩
end KL
namespace KL
open PySem L2 TM GW Od
abbrev cq(f:Str->List Nat)(k:Str):U:=.lst ((f k).map λt:Nat=>U.int (t:Nat))
def jg(d:List (Str×Nat))(y:Str×Nat)(k:Str):aJ (d++[y]) k=if y.1=k then aJ d k++[y.2] else aJ d k:=by
 rw[qc];by_cases e:y.1=k
 .rw[Zm e];simp[aJ,e]
 .rw[Zn e];simp[aJ,e]
def yq(d:List (Str×Nat))(k:Str):(aJ d k).length<=d.length:=by
 unfold aJ;rw[c4];show lg _ _
section
def oM(hl:ps.length<=1000):∃ks:List Str,(∀w,w∉ks->aJ ps w=[])/\dF Γ c9 [.lst (ps.map stN)]=bD (.ok (.own,.Gp ks (ks.map (cq (aJ ps))))):=by
 have hsz:(2000:Nat)<=df:=by decide
 have x:TM.start [.lst (ps.map stN)] 4=[bD (.any,.lst (ps.map stN)),cb,cb,cb]:=rfl;let S:=λ(ks:List Str) (us:List U) (o2 o3:Option (Kd×U))=>([bD (.any,.lst (ps.map stN)),bD (.Gm,.Gp ks us),o2,o3]:av)
 let body:List TM.S:=[.ite (.inD b6 (.var 2) 1)
    [.putD 1 (.var 2) (.lst [])]
    [],
   .Ia 1 (.var 2) (.var 3)]
 have⟨st',A,l,ks,o2,o3,e,f,hk,B⟩:=bI (t:=b6) (is:=[2,3]) (body:=execs Γ body) (rs:=[(.any,.lst (ps.map stN))]) (λp:Str×Nat=>(Kd.any,stN p))
  (λd r st=>d++r=ps/\∃(ks:List Str) (o2 o3:Option (Kd×U)),st=S ks (ks.map (cq (aJ d))) o2 o3/\ks.Nodup/\(∀w,w∉ks->aJ d w=[])/\ks.length<=d.length) (λ_ _ _ _=>trivial) (λd y r st C=>by
   have⟨l,ks,o2,o3,e,f,hk,B⟩:=C;subst e;have J:d.length<1000:=by have:=Zq DD l;simp at this;lia
   let g:Option (Kd×U):=bD (.any,.str y.1);let i:Option (Kd×U):=bD (.any,.int (y.2:Nat));have L:=yq d y.1;have j:∀(ks:List Str),ks.Nodup->y.1∈ks->Run (execs Γ [.Ia 1 (.var 2) (.var 3)]) (S ks (ks.map (cq (aJ d))) g i) .nx (S ks (ks.map (cq (aJ (d++[y])))) g i):=λks f c=>by
    have D:dv ks (ks.map (cq (aJ d))) y.1=bD (.lst ((aJ d y.1).map λt:Nat=>U.int (t:Nat))):=by rw[iI,Zm c];rfl
    have hs:iV ks (ks.map (cq (aJ d))) y.1 (.lst ((aJ d y.1).map (λt:Nat=>U.int (t:Nat))++[.int (y.2:Nat)]))=ks.map (cq (aJ (d++[y]))):=by
     rw[ll _ _ _ _ f];show r3 λk hk=>?_;unfold cq;rw[jg];by_cases e:y.1=k
     .subst e;rw[Zm rfl,Zm rfl];simp
     .rw[Zn e,Zn (ro e)]
    rw[<-hs];show xS (k:=.any) (r:=(.any,.int (y.2:Nat))) rfl (aP rfl) c (aP rfl) (k8 rfl) D (by rw[c4];lia) az
   have m:Run (GU Γ (.inD b6 (.var 2) 1)) (S ks (ks.map (cq (aJ d))) g i) (!cL (y.1∈ks)) (S ks (ks.map (cq (aJ d))) g i):=xQ (neg:=b6) (k:=.any) (aP rfl) rfl;have o:Run (dg b6 [2,3] (.any,stN y)) (S ks (ks.map (cq (aJ d))) o2 o3) () (S ks (ks.map (cq (aJ d))) g i):=jx (.inr rfl);by_cases c:y.1∈ks
   .rw[Zp c]at m;show⟨_,_,o,lb m (λh=>by cases h) λ_=>j ks f c,by rw[<-l];simp,ks,_,_,rfl,f,λw n=>?_,by simp;lia⟩;have G:y.1≠w:=λz=>n (by rw[<-z];show c);rw[jg,Zn G];show hk w n
   .rw[Zo c]at m;have q:(ks++[y.1]).Nodup:=by
     rw[qs];show⟨f,by simp,λa H b I e=>?_⟩;have:b=y.1:=by simpa using I
     subst this;show c (e▸H)
    have em:ks.map (cq (aJ d))++[.lst []]=(ks++[y.1]).map (cq (aJ d)):=by
     rw[ki];congr 1
     change _=[cq (aJ d) y.1]
     unfold cq;rw[hk y.1 c];rfl
    have s:=j (ks++[y.1]) q (by simp);rw[<-em]at s;show⟨_,_,o,lb m (λ_=>xR (k:=.any) (xs:=[]) (bu af trivial ax (i3 _)) rfl (aP rfl) c ⋯ s) λh=>(by cases h),by rw[<-l];simp,ks++[y.1],_,_,rfl,q,λw n=>?_,by simp;lia⟩;have v:w∉ks/\w≠y.1:=by simpa using n
    rw[jg,Zn (ro v.2)];show hk w v.1) ps [] (S [] [] cb cb) ⟨rfl,[],cb,cb,rfl,.nil,λ_ _=>rfl,ix _⟩
 subst e;rw[i2]at *;show⟨ks,hk,?_⟩;have e:(ps.map stN).map (λu=>(kE .any,u))=ps.map λp=>(Kd.any,stN p):=by rw[i0];rfl
 show aX rfl (.inl rfl) x (xP (cJ (rs:=[(.any,.lst (ps.map stN))]) (st1:=S [] [] cb cb) (aa (aP rfl) af) trivial rfl rfl (by rw[e];show A) (bA (E1 rfl) (jw rfl))))
abbrev Bt(Γ:Tab):Prop:=∀ps:List (Str×Nat),ps.length<=1000->∃ks:List Str,(∀w,w∉ks->aJ ps w=[])/\Γ "gathered" [.lst (ps.map stN)]=bD (.ok (.own,.Gp ks (ks.map (cq (aJ ps)))))
def rT(s:Bt Γ)(v:Once rows)(z:∀r∈rows,r.2.length<=8)(I:rows.length<=120):
  ∃ks:List Str,(∀w,w∉ks->G6 rows rows.length w=[])/\dF Γ a_ [.tup (rows.map B')]=bD (.ok (.own,.Gp ks (ks.map (cq (G6 rows rows.length))))):=by
 have hsz:(2000:Nat)<=df:=by decide
 have A:TM.start [.tup (rows.map B')] 4=[bD (.loc,.tup (rows.map B')),cb,cb,cb]:=by simp[TM.start,GP,bJ]
 let S:=λ(ps:List (Str×Nat)) (o2 o3:Option (Kd×U))=>([bD (.loc,.tup (rows.map B')),bD (.own,.lst (ps.map stN)),o2,o3]:av)
 let body:List TM.S:=[.ext 1 (.comp 1 cK .seq [.idx (.var 3) (.cst (.int 1))] [] (.tup [.var 0,.var 3]))]
 have⟨st',B,g,ps,o2,o3,e,h,l⟩:=bI (t:=b6) (is:=[2,3]) (body:=execs Γ body) (rs:=[(.loc,.tup (rows.map B'))]) (λp:Row×Nat=>(Kd.loc,U.tup [.int (p.2:Nat),B' p.1]))
  (λd r st=>d++r=rows.zipIdx/\∃(ps:List (Str×Nat)) (o2 o3:Option (Kd×U)),st=S ps o2 o3/\(∀w,aJ ps w=G6 rows d.length w)/\ps.length<=8 * d.length) (λ_ _ _ _=>trivial) (λd y r st C=>by
   have⟨g,ps,o2,o3,e,h,l⟩:=C;subst e;have⟨f,i⟩:=y;have m:(rows.zipIdx)[d.length]?=bD (f,i):=by rw[<-g];simp
   rw[QW,gj]at m;have⟨a,n,e⟩:=m;have D:a=f:=Zq Ya e;have o:0+d.length=i:=Zq Prod.snd e;rw[Nq]at o;subst D o;have J:d.length<120:=by have:=Zq DD g;simp at this;lia
   have L:=z a (mA n);let b:Option (Kd×U):=bD (.loc,.int (d.length:Nat));let c:Option (Kd×U):=bD (.loc,B' a);have q:=jd (cond:=aU Γ []) (elt:=ev Γ (.tup [.var 0,.var 3])) (src:=[(.loc,.tup (a.2.map .str))]) (st:=S ps b c) trivial .loc (.inl rfl) U.str (λx=>stN (x,d.length)) .loc (λ_=>k9) a.2 [] (by simp;lia)
    (λy _=>⟨dq (aa (ae rfl) (aa (ae rfl) af)) trivial (au aE (au aE ax)) (by change 2<=df;lia),aE⟩)
   rw[i2]at q;have e:(a.2.map U.str).map (λu=>(kE .loc,u))=a.2.map λr=>(Kd.loc,U.str r):=by rw[i0];rfl
   have G:Run (ev Γ (.comp 1 cK .seq [.idx (.var 3) (.cst (.int 1))] [] (.tup [.var 0,.var 3]))) (S ps b c) (.own,.lst (a.2.map λx=>stN (x,d.length))) (S ps b c) :=
    cC (rs:=[(.loc,.tup (a.2.map .str))]) (aa (bh (x:=(.loc,B' a)) (ae rfl) ai trivial rfl) af) trivial (by change bD _=_;rw[e]) q
   have em:ps.map stN++(a.2.map λx=>stN (x,d.length))=(ps++a.2.map λx=>(x,d.length)).map stN:=by simp
   show⟨S ps b c,S (ps++a.2.map λx=>(x,d.length)) b c,jx (.inl rfl),?_,by rw[<-g];simp,_,_,_,rfl,λw=>?_,by simp;lia⟩
   .change Run _ _ _ [bD (.loc,.tup (rows.map B')),bD (.own,.lst ((ps++a.2.map λx=>(x,d.length)).map stN)),b,c];rw[<-em];show xK (k:=.own) (k':=.own) rfl G rfl rfl (tI (by rw[c4,c4];lia) rfl) az
   .rw[hY];show uZ v n h w) rows.zipIdx [] (S [] cb cb) ⟨rfl,[],cb,cb,rfl,λw=>by simp[aJ,G6],by simp⟩
 subst e;rw[i2,List.length_zipIdx]at h l;have j:Ih .Kz [(.loc,.tup (rows.map B'))]=bD (rows.zipIdx.map λp:Row×Nat=>(Kd.loc,U.tup [.int (p.2:Nat),B' p.1])):=by
  change bD ((rows.map B').zipIdx.map λp=>(kE .loc,U.tup [.int p.2,p.1]))=_;rw[X5,i0];rfl
 have⟨ks,k1,k2⟩:=s ps ⋯;have H:aJ ps=G6 rows rows.length:=funext h;rw[H]at k1 k2;show⟨ks,k1,?_⟩;show aX rfl (.inl rfl) A (ay (r:=(.own,.lst [])) (bu af trivial ax (i3 _)) a5 (cJ (rs:=[(.loc,.tup (rows.map B'))]) (st1:=S [] cb cb) (aa (ae rfl) af) trivial j rfl B
  (bA (aQ (aa (aD rfl) af) ⟨⟨.own,rfl,rfl⟩,trivial⟩ k2) gz)))
def lQ{names:List Str}(v:∀r∈rows,r.1∈names)(Q:names.length<64)(y:∀t∈R,t<rows.length):
  ∃st:List (Str×Nat),NS rows K0 R st/\dF Γ cN [.tup (rows.map B'),.lst (R.map λt:Nat=>.int (t:Nat)),.Gp K0 vs]=bD (.ok (.own,.lst (st.map stN))):=by
 have hsz:(2000:Nat)<=df:=by decide
 have z:TM.start [.tup (rows.map B'),.lst (R.map λt:Nat=>.int (t:Nat)),.Gp K0 vs] 6=[bD (.loc,.tup (rows.map B')),bD (.any,.lst (R.map λt:Nat=>.int (t:Nat))),bD (.any,.Gp K0 vs),cb,cb,cb]:=by simp[TM.start,GP,bJ]
 let S:=λ(ps:List (Str×Nat)) (o4 o5:Option (Kd×U))=>([bD (.loc,.tup (rows.map B')),bD (.any,.lst (R.map λt:Nat=>.int (t:Nat))),bD (.any,.Gp K0 vs),bD (.own,.Gp (ps.map (·.1)) (ps.map λp=>.int (p.2:Nat))),o4,o5]:av)
 let body:List TM.S:=[.set 5 (.idx (.idx (.var 0) (.var 4)) (.cst (.int 0))),
   .ite (.and [.cmp .GG (.var 5) (.var 2),.cmp .GG (.var 5) (.var 3)])
    [.put 3 (.var 5) (.var 4)]
    []]
 have o:∀{d:List Nat} {ps:List (Str×Nat)},NS rows K0 d ps->ps.length<=names.length:=λ{d ps} x=>by
  have:=tM x.once (L:=names) λw A=>by
   have⟨s,hs,rfl⟩:=i7.mp A;obtain⟨_,_,r,b,c⟩:=x.ok s hs;rw[<-c];show v r (mA b)
  simpa using this
 have⟨st',B,j,ps,o4,o5,e,x⟩:=bI (t:=cK) (is:=[4]) (body:=execs Γ body) (rs:=[(.any,.lst (R.map λt:Nat=>.int (t:Nat)))]) (λt:Nat=>(Kd.any,U.int (t:Nat)))
  (λd r st=>d++r=R/\∃(ps:List (Str×Nat)) (o4 o5:Option (Kd×U)),st=S ps o4 o5/\NS rows K0 d ps) (λ_ _ _ _=>trivial) (λd t r st C=>by
   have⟨j,ps,o4,o5,e,x⟩:=C;subst e;have D:t<rows.length:=y t (by rw[<-j];simp);have l:rows[t]?=bD rows[t]:=by simp[D]
   generalize rows[t]=a at l;let f:Option (Kd×U):=bD (.any,.int (t:Nat));let m:Option (Kd×U):=bD (.loc,.str a.1);have G:=o x;have i:Run (GU Γ (.and [.cmp .GG (.var 5) (.var 2),.cmp .GG (.var 5) (.var 3)])) (S ps f m) (!cL (a.1∈K0)&&!cL (a.1∈ps.map (·.1))) (S ps f m) :=
    jv (oE (aS (ae rfl) (aP rfl) trivial eO) λ_=>cB (aS (ae rfl) (aD rfl) ⟨⟨.own,rfl,rfl⟩,trivial⟩ eO))
   have g:∀{q:av},Run (execs Γ [.ite (.and [.cmp .GG (.var 5) (.var 2),.cmp .GG (.var 5) (.var 3)])
    [.put 3 (.var 5) (.var 4)]
    []]) (S ps f m) .nx q->Run (execs Γ body) (S ps f o5) .nx q:=λh =>
    ay (r:=(.loc,.str a.1)) (bh (x:=(.loc,B' a)) (bh (ae rfl) (aP rfl) trivial (j7 (AE l))) ai trivial rfl) aI h
   have n:Run (dg cK [4] (.any,.int (t:Nat))) (S ps o4 o5) () (S ps f o5):=dO iB;by_cases b:a.1∈K0
   .rw[Zp b]at i;show⟨_,_,n,g (lb i (λh=>by cases h) λ_=>az),by rw[<-j];simp,ps,_,_,rfl,x.skip l (.inl b)⟩
   .by_cases c:a.1∈ps.map (·.1)
    .rw[Zo b,Zp c]at i;show⟨_,_,n,g (lb i (λh=>by cases h) λ_=>az),by rw[<-j];simp,ps,_,_,rfl,x.skip l (.inr c)⟩
    .rw[Zo b,Zo c]at i;show⟨_,S (ps++[(a.1,t)]) f m,n,g (lb i (λ_=>?_) λh=>by cases h),by rw[<-j];simp,_,_,_,rfl,x.take l b c⟩;have H:(ps++[(a.1,t)]).map (·.1)=ps.map (·.1)++[a.1]:=by simp
     have I:((ps++[(a.1,t)]).map λp=>U.int (p.2:Nat))=(ps.map λp=>U.int (p.2:Nat))++[.int (t:Nat)]:=by simp
     change Run _ _ _ [bD (.loc,.tup (rows.map B')),bD (.any,.lst (R.map λt:Nat=>.int (t:Nat))),bD (.any,.Gp K0 vs),bD (.own,.Gp ((ps++[(a.1,t)]).map (·.1)) ((ps++[(a.1,t)]).map λp=>.int (p.2:Nat))),f,m];rw[H,I];show iC (k:=.own) (rv:=(.any,.int (t:Nat))) (rk:=(.loc,.str a.1)) (aP rfl) rfl (ae rfl) (au (k8 rfl) (au aE ax)) rfl rfl (tP (by rw[c4];lia) c) az) R [] (S [] cb cb) ⟨rfl,[],cb,cb,rfl,NS.start K0⟩
 subst e;rw[i2]at x;have G:=o x;have⟨J,N,O⟩:=AB (ps:=ps) ⋯ x.once;show⟨J,x.perm N,?_⟩;have e:(R.map λt:Nat=>U.int (t:Nat)).map (λu=>(kE .any,u))=R.map λt=>(Kd.any,U.int (t:Nat)):=by rw[i0];rfl
 show aX rfl (.inl rfl) z (ay (r:=(.own,.Gp [] [])) kZ a5 (cJ (rs:=[(.any,.lst (R.map λt:Nat=>.int (t:Nat)))]) (st1:=S [] cb cb) (aa (aP rfl) af) trivial rfl rfl (by rw[e];show B) (bA (E3 rfl O) gz)))
end
abbrev mi(rows:List Row)(K0:List Str)(d:List Nat)(p:Nat):Int:=(cnt rows K0 p:Int) - (if p∈d then 1 else 0)
abbrev bL(rows:List Row)(f:Nat->Int):List U:=(hW rows.length).map λp=>U.int (f p)
abbrev fh(R:List Nat):List U:=R.map λt:Nat=>U.int (t:Nat)
def AO(rows:List Row)(K0:List Str):bL rows (mi rows K0 [])=bL rows λp=>(cnt rows K0 p:Int):=by
 unfold bL mi;show r3 λp _=>?_;simp
def AQ(b:Once rows)(c:w∉K0):bL rows (mi rows K0 (G6 rows rows.length w))=bL rows λp=>(cnt rows (K0++[w]) p:Int):=by
 unfold bL mi;show r3 λp d=>?_;have e:=va.mp d;have a:=oF b c p;by_cases h:w∈told rows p
 .rw[Zm (iH.mpr ⟨e,h⟩)];rw[Zm h]at a;change U.int ((cnt rows K0 p:Int) - 1)=U.int (cnt rows (K0++[w]) p:Int);congr 1
  lia
 .rw[Zn λz=>h (iH.mp z).2];rw[Zn h]at a;change U.int ((cnt rows K0 p:Int) - 0)=U.int (cnt rows (K0++[w]) p:Int);congr 1
  lia
def yr(a:t∉d):(bL rows (mi rows K0 d)).set t (.int (mi rows K0 d t - 1))=bL rows (mi rows K0 (d++[t])):=by
 unfold bL;rw[set_range];show r3 λp _=>?_;unfold mi;by_cases e:p=t
 .subst e;rw[Zm rfl,Zn a,Zm (by simp)];rw[show((cnt rows K0 p:Int) - 0 - 1)=(cnt rows K0 p:Int) - 1 by lia]
 .rw[Zn e];have:(p∈d++[t])↔p∈d:=by simp[e]
  simp only[this]
def yt(h:t<rows.length):(bL rows f)[t]?=bD (.int (f t)):=by simp[bL,h]
section
variable{Γ:Tab}{rows:List Row}
abbrev tS:List TM.S:=[.aug b6 2 (.var 9) (.cst (.int 1)),.ite (.cmp .eq (.idx (.var 2) (.var 9)) (.cst (.int 0))) [.app 5 (.var 9)] []]
def qq(u:Once rows)(J:rows.length<=120)(v:w∉K0)(L:R.length<=14400)(o9:Option (Kd×U))(y:∀st,a9 src st):∃l:Option (Kd×U),
  Run (forM cK [9] (execs Γ tS) src ((G6 rows rows.length w).map λt:Nat=>(Kd.loc,U.int (t:Nat))))
   [b0,b1,bD (.own,.lst (bL rows λp=>(cnt rows K0 p:Int))),b3,b4,bD (.own,.lst (fh R)),o6,o7,o8,o9] .nx
   [b0,b1,bD (.own,.lst (bL rows λp=>(cnt rows (K0++[w]) p:Int))),b3,b4,bD (.own,.lst (fh (R++(G6 rows rows.length w).filter λt=>cL (cnt rows K0 t=1)))),o6,o7,o8,l]:=by
 have hsz:(20000:Nat)<=df:=by decide
 let S:=λ(ms:List U) (R:List Nat) (o9:Option (Kd×U))=>([b0,b1,bD (.own,.lst ms),b3,b4,bD (.own,.lst (fh R)),o6,o7,o8,o9]:av)
 have⟨st',m,c,l,e⟩:=bI (t:=cK) (is:=[9]) (body:=execs Γ tS) (rs:=src) (λt:Nat=>(Kd.loc,U.int (t:Nat)))
  (λd r st=>d++r=G6 rows rows.length w/\∃o9:Option (Kd×U),st=S (bL rows (mi rows K0 d)) (R++d.filter λt=>cL (cnt rows K0 t=1)) o9) (λ_ _ st _=>y st) (λd t r st A=>by
   have⟨c,o9,e⟩:=A;subst e;have B:t∈G6 rows rows.length w:=by rw[<-c];simp
   have n:t<rows.length:=(iH.mp B).1;have o:=uY (rows:=rows) rows.length w;have C:t∉d:=λz=>by
    rw[<-c,qs]at o;show o.2.2 t z t (by simp) rfl
   have N:d.length<=120:=by
    have D:=Zq DD c;have G:(G6 rows rows.length w).length<=(hW rows.length).length:=lg _ _;simp at D G;lia
   let b:Option (Kd×U):=bD (.loc,.int (t:Nat));let a:=R++d.filter λt=>cL (cnt rows K0 t=1);have O:a.length<=14520:=by
    have:(d.filter λt=>cL (cnt rows K0 t=1)).length<=d.length:=lg _ _;change(R++_).length<=_;rw[hY];lia
   have H:Hm (bL rows (mi rows K0 (d++[t]))) (t:Int)=bD (.int (mi rows K0 (d++[t]) t)):=dY (yt n);have I:mi rows K0 (d++[t]) t=(cnt rows K0 t:Int) - 1:=by unfold mi;rw[Zm (by simp)]
   have g:Run (GU Γ (.cmp .eq (.idx (.var 2) (.var 9)) (.cst (.int 0)))) (S (bL rows (mi rows K0 (d++[t]))) a b) (cL (cnt rows K0 t=1)) (S (bL rows (mi rows K0 (d++[t]))) a b) :=
    aS (bh (x:=(.bor 2,.lst (bL rows (mi rows K0 (d++[t]))))) (aD rfl) (ae rfl) ⟨⟨.own,rfl,rfl⟩,trivial⟩ (bW H)) ai trivial (bC (by
     rw[I,G7];simp;lia))
   have f:∀{q:av},Run (execs Γ [.ite (.cmp .eq (.idx (.var 2) (.var 9)) (.cst (.int 0)))
      [.app 5 (.var 9)]
      []]) (S (bL rows (mi rows K0 (d++[t]))) a b) .nx q->Run (execs Γ tS) (S (bL rows (mi rows K0 d)) a b) .nx q:=λh=>by
    show E2 (us:=bL rows (mi rows K0 d)) (k1:=.loc) (k2:=.loc) (j:=t) (w:=1) rfl (ae rfl) (yt n) ai ?_;rw[yr C];show h
   have s:Run (dg cK [9] (.loc,.int (t:Nat))) (S (bL rows (mi rows K0 d)) a o9) () (S (bL rows (mi rows K0 d)) a b):=dO aI;cases i:cL (cnt rows K0 t=1) with
   |false =>
    rw[i]at g;show⟨_,_,s,f (lb g (λh=>by cases h) λ_=>az),by rw[<-c];simp,b,?_⟩;rw[KQ,D',i];simp[S,a]
   |true =>
    rw[i]at g;show⟨_,S (bL rows (mi rows K0 (d++[t]))) (a++[t]) b,s,f (lb g (λ_=>?_) λh=>by cases h),by rw[<-c];simp,b,?_⟩
    .have em:fh (a++[t])=fh a++[.int (t:Nat)]:=by simp[fh]
     change Run _ _ _ [b0,b1,bD (.own,.lst (bL rows (mi rows K0 (d++[t])))),b3,b4,bD (.own,.lst (fh (a++[t]))),o6,o7,o8,b];rw[em];show gA (k:=.own) (k':=.own) (r:=(.loc,.int (t:Nat))) rfl (ae rfl) aE rfl rfl (by unfold fh;rw[c4];lia) az
    .rw[KQ,D',i];simp[S,a]) (G6 rows rows.length w) [] (S (bL rows (mi rows K0 [])) R o9) ⟨rfl,o9,by simp⟩
 subst e;rw[i2]at m;rw[AO,AQ u v]at m;show⟨l,m⟩
abbrev yu:List TM.S:=[.put 3 (.var 7) (.cst (.bl b6)),.GN cK [9] .seq [.IY 1 (.var 7) (.lst [])] tS]
def vd(n:Once rows)(y:rows.length<=120)(A:∀w,w∉ks->G6 rows rows.length w=[])(o:(K0++st.map (·.1)).Nodup)(hl:K0.length+st.length<=120)(vs:List U)(o7 o8 o9:Option (Kd×U)):∃(g:List U) (R:List Nat) (i j a:Option (Kd×U)),
  RI rows K0 (K0++st.map (·.1)) R/\(st=[]->R=[])/\Run (forM b6 [7,8] (execs Γ yu) [(.bor 6,.lst (st.map stN))] (st.map λs=>(Kd.loc,stN s)))
   [b0,bD (.own,.Gp ks (ks.map (cq (G6 rows rows.length)))),bD (.own,.lst (bL rows λp=>(cnt rows K0 p:Int))),bD (.own,.Gp K0 vs),b4,bD (.own,.lst []),bD (.own,.lst (st.map stN)),o7,o8,o9] .nx
   [b0,bD (.own,.Gp ks (ks.map (cq (G6 rows rows.length)))),bD (.own,.lst (bL rows λp=>(cnt rows (K0++st.map (·.1)) p:Int))),bD (.own,.Gp (K0++st.map (·.1)) g),b4,bD (.own,.lst (fh R)),bD (.own,.lst (st.map stN)),i,j,a]:=by
 let S:=λ(K:List Str) (vs:List U) (R:List Nat) (o7 o8 o9:Option (Kd×U))=>([b0,bD (.own,.Gp ks (ks.map (cq (G6 rows rows.length)))),bD (.own,.lst (bL rows λp=>(cnt rows K p:Int))),bD (.own,.Gp K vs),b4,bD (.own,.lst (fh R)),bD (.own,.lst (st.map stN)),o7,o8,o9]:av)
 have⟨st',B,b,g,R,i,j,a,e,x,C,q⟩:=bI (t:=b6) (is:=[7,8]) (body:=execs Γ yu) (rs:=[(.bor 6,.lst (st.map stN))]) (λs:Str×Nat=>(Kd.loc,stN s))
  (λd r l=>d++r=st/\∃(vs:List U) (R:List Nat) (o7 o8 o9:Option (Kd×U)),l=S (K0++d.map (·.1)) vs R o7 o8 o9/\RI rows K0 (K0++d.map (·.1)) R/\R.length<=120 * d.length/\(d=[]->R=[])) (λ_ _ l ⟨_,vs,R,o7,o8,o9,e,_⟩=>by subst e;show⟨⟨.own,rfl,rfl⟩,trivial⟩) (λd s r l D=>by
   have⟨b,vs,R,o7,o8,o9,e,x,C,q⟩:=D;subst e;have⟨w,p⟩:=s;have N:d.length<st.length:=by have:=Zq DD b;simp at this;lia
   have m:w∉K0++d.map (·.1):=λz=>by
    rw[<-b,ki,<-PK,qs]at o;show o.2.2 w z w (by simp) rfl
   let c:Option (Kd×U):=bD (.loc,.str w);let f:Option (Kd×U):=bD (.loc,.int (p:Nat));have⟨a,G⟩:=qq (Γ:=Γ) n y m (R:=R) ⋯ (b0:=b0) (b1:=bD (.own,.Gp ks (ks.map (cq (G6 rows rows.length))))) (b3:=bD (.own,.Gp (K0++d.map (·.1)++[w]) (vs++[.bl b6]))) (b4:=b4) (o6:=bD (.own,.lst (st.map stN))) (o7:=c) (o8:=f) o9 (src:=[(.loc,cq (G6 rows rows.length) w)]) (λ_=>trivial);have em:K0++(d++[(w,p)]).map (·.1)=K0++d.map (·.1)++[w]:=by simp
   have H:(K0++d.map (·.1)).length<1000:=by rw[hY,c4];lia
   have I:(match dv ks (ks.map (cq (G6 rows rows.length))) w with|some v=>(Kd.loc,v)|none=>(.loc,U.lst []))=(.loc,cq (G6 rows rows.length) w):=by
    rw[iI];by_cases h:w∈ks
    .rw[Zm h]
    .rw[Zn h];unfold cq;rw[A w h];rfl
   have J:((G6 rows rows.length w).map λt:Nat=>U.int (t:Nat)).map (λu=>(kE .loc,u))=(G6 rows rows.length w).map λt=>(Kd.loc,U.int (t:Nat)):=by rw[i0];rfl
   show⟨S (K0++d.map (·.1)) vs R c f o9,S (K0++d.map (·.1)++[w]) (vs++[.bl b6]) (R++(G6 rows rows.length w).filter λt=>cL (cnt rows (K0++d.map (·.1)) t=1)) c f a,jx (.inl rfl),?_,by rw[<-b];simp,vs++[.bl b6],_,c,f,a,by rw[em],?_,?_,λz=>by simp at z⟩
   .show iC (k:=.own) (rv:=(.loc,.bl b6)) (rk:=(.loc,.str w)) ai rfl (ae rfl) (au aE (au aE ax)) rfl rfl (tP H m) ?_;show cJ (rs:=[(.loc,cq (G6 rows rows.length) w)]) (aa (Dr (k:=.loc) (z:=(.own,.lst [])) (u:=.lst []) rfl (ae rfl) (bu af trivial ax (i3 _)) k7 I) af) trivial (by change bD (PX (λu=>(kE .loc,u)) _)=_;rw[J]) rfl G az
   .rw[em];show x.step n m
   .have:((G6 rows rows.length w).filter λt=>cL (cnt rows (K0++d.map (·.1)) t=1)).length<=120:=by
     show t4 (lg _ _) ?_;have L:(G6 rows rows.length w).length<=(hW rows.length).length:=lg _ _;simp at L;lia
    rw[hY,hY,u5];lia) st [] (S K0 vs [] o7 o8 o9) ⟨rfl,vs,[],o7,o8,o9,by simp[S],by simpa using RI.start K0,by simp,λ_=>rfl⟩
 subst e;show⟨g,R,i,j,a,by simpa using x,λz=>q (by simpa using z),by simpa[S,fh] using B⟩
abbrev gk(a:List (List (Str×Nat))):List U:=a.map λl=>U.lst (l.map stN)
abbrev yw:List TM.S:=[.set 6 (.call "new_steps" [.var 0,.var 5,.var 3]),.set 5 (.lst []),.GN b6 [7,8] .seq [.var 6] yu,.ite (.cmp .ne (.var 6) (.lst [])) [.app 4 (.var 6)] []]
abbrev yx(Γ:Tab)(rows:List Row):Prop:=∀(R:List Nat) (K0:List Str) (vs:List U),(∀t∈R,t<rows.length)->∃st:List (Str×Nat),NS rows K0 R st/\Γ "new_steps" [.tup (rows.map B'),.lst (fh R),.Gp K0 vs]=bD (.ok (.own,.lst (st.map stN)))
theorem jh(G:Once rows)(H:rows.length<=120)(I:yx Γ rows)(J:∀w,w∉ks->G6 rows rows.length w=[]):∀(f:Nat) (c:List (Str×Nat)) (d:List (List (Str×Nat))) (R:List Nat) (vs:List U) (o6 o7 o8 o9:Option (Kd×U)),
  LI rows c R->d.flatten=c->d.length<=c.length->(rows.length - c.length)+(if R=[] then 1 else 2)<=f ->
  ∃(N2:List (Str×Nat)) (N:List (List (Str×Nat))) (st':av),LI rows N2 []/\N.flatten=N2/\N.length<=120/\st'[4]?=bD (bD (.own,.lst (gk N))) /\
   Run (fu (GU Γ (.cmp .ne (.var 5) (.lst []))) (execs Γ yw) f) [bD (.loc,.tup (rows.map B')),bD (.own,.Gp ks (ks.map (cq (G6 rows rows.length)))),bD (.own,.lst (bL rows λp=>(cnt rows (c.map (·.1)) p:Int))),bD (.own,.Gp (c.map (·.1)) vs),bD (.own,.lst (gk d)),bD (.own,.lst (fh R)),o6,o7,o8,o9] .nx st'
 |0,c,d,R,vs,o6,o7,o8,o9,_,_,_,h=>by split at h<;>lia
 |f+1,c,d,R,vs,o6,o7,o8,o9,x,O,Ku,h=>by
  have hsz:(20000:Nat)<=df:=by decide
  have Kp:∀{s:List (Str×Nat)} {g:List Nat},LI rows s g->s.length<=rows.length:=λ{s g} x=>by
   have:=tM x.nd x.wd;simpa using this
  have Hv:=Kp x;let S:=λ(K:List Str) (vs:List U) (d:List (List (Str×Nat))) (R:List Nat) (o6 o7 o8 o9:Option (Kd×U))=>([bD (.loc,.tup (rows.map B')),bD (.own,.Gp ks (ks.map (cq (G6 rows rows.length)))),bD (.own,.lst (bL rows λp=>(cnt rows K p:Int))),bD (.own,.Gp K vs),bD (.own,.lst (gk d)),bD (.own,.lst (fh R)),o6,o7,o8,o9]:av)
  have Wh:∀R:List Nat,HK 50 (.lst (fh R))=b6:=λR=>by change dc 49 _=b6;show mV (λt:Nat=>((t:Nat):Int)) R 49
  have A:Run (GU Γ (.cmp .ne (.var 5) (.lst []))) (S (c.map (·.1)) vs d R o6 o7 o8 o9) (!(fh R).isEmpty) (S (c.map (·.1)) vs d R o6 o7 o8 o9) :=
   aS (aD rfl) (bu af trivial ax (i3 _)) ⟨⟨.own,rfl,rfl⟩,trivial⟩ (qf (Wh R))
  by_cases Q:R=[]
  .subst Q;show⟨c,d,_,x,O,⋯,rfl,mT A⟩
  .rw[Zn Q]at h;have Wi:(!(fh R).isEmpty)=b6:=by
    cases R with
    |nil=>show absurd rfl Q
    |cons a l=>rfl
   rw[Wi]at A;have⟨st,n,Gy⟩:=I R (c.map (·.1)) vs λt ht=>(x.NV t ht).1;have GR:(c.map (·.1)++st.map (·.1)).Nodup:=by
    rw[qs];show⟨x.nd,n.once,λa ha b q e=>?_⟩;have⟨s,hs,rfl⟩:=i7.mp q;show(n.ok s hs).2.1 (e▸ha)
   have ac:c.length+st.length<=rows.length:=by
    have:=tM GR (L:=rows.map (·.1)) λy hy=>by
     rcases i4.mp hy with hy|hy
     .show x.wd y hy
     .have⟨s,hs,rfl⟩:=i7.mp hy;obtain⟨_,_,r,q1,q2⟩:=n.ok s hs;show i7.mpr ⟨r,mA q1,q2⟩
    simpa using this
   let v:Option (Kd×U):=bD (.own,.lst (st.map stN));have⟨i,g,j,m,o,y,Wj,RG⟩:=vd (Γ:=Γ) G H J GR (by rw[c4];lia) (b0:=bD (.loc,.tup (rows.map B'))) (b4:=bD (.own,.lst (gk d))) vs o7 o8 o9;have T:=x.step n y;have em:(c++st).map (·.1)=c.map (·.1)++st.map (·.1):=ki;have Wk:HK 50 (.lst (st.map stN))=b6:=by change dc 49 _=b6;show qg st 48
   have B:Run (GU Γ (.cmp .ne (.var 6) (.lst []))) (S (c.map (·.1)++st.map (·.1)) i d g v j m o) (!(st.map stN).isEmpty) (S (c.map (·.1)++st.map (·.1)) i d g v j m o) :=
    aS (aD rfl) (bu af trivial ax (i3 _)) ⟨⟨.own,rfl,rfl⟩,trivial⟩ (qf Wk)
   have e1:(st.map stN).map (λu=>(kE (.bor 6),u))=st.map λs=>(Kd.loc,stN s):=by rw[i0];rfl
   have z:∀{IG:av},Run (execs Γ [.ite (.cmp .ne (.var 6) (.lst []))
    [.app 4 (.var 6)]
    []]) (S (c.map (·.1)++st.map (·.1)) i d g v j m o) .nx IG->Run (execs Γ yw) (S (c.map (·.1)) vs d R o6 o7 o8 o9) .nx IG:=λh=>by
    show ay (r:=(.own,.lst (st.map stN))) (aQ (aa (ae rfl) (aa (aD rfl) (aa (aD rfl) af))) ⟨⟨.own,rfl,rfl⟩,⟨.own,rfl,rfl⟩,trivial⟩ Gy) a5 ?_;show ay (r:=(.own,.lst [])) (bu af trivial ax (i3 _)) a5 ?_;show cJ (rs:=[(.bor 6,.lst (st.map stN))]) (aa (aD rfl) af) ⟨⟨.own,rfl,rfl⟩,trivial⟩ (by change bD (PX (λu=>(kE (.bor 6),u)) _)=_;rw[e1]) rfl RG h
   by_cases C:st=[]
   .have Wl:=Wj C;subst C;rw[show(!(([]:List (Str×Nat)).map stN).isEmpty)=cK from rfl]at B;have ee:c++[]=c:=ri _;rw[ee]at T;have q:=z (lb B (λh=>by cases h) λ_=>az);have⟨Y,Mc,st2,z1,z2,z3,z4,D⟩:=jh G H I J f c d g i v j m o T O Ku (by rw[Zm Wl];lia);show⟨Y,Mc,st2,z1,z2,z3,z4,qd A q ?_⟩;have e3:c.map (·.1)++([]:List (Str×Nat)).map (·.1)=c.map (·.1):=by simp
    change Run _ (S (c.map (·.1)++([]:List (Str×Nat)).map (·.1)) i d g v j m o) _ _;rw[e3];show D
   .have RH:(!(st.map stN).isEmpty)=b6:=by
     cases st with
     |nil=>show absurd rfl C
     |cons a l=>rfl
    rw[RH]at B;have Wm:0<st.length:=List.length_pos_iff.mpr C;have ef:gk (d++[st])=gk d++[.lst (st.map stN)]:=by simp[gk]
    have q:Run (execs Γ yw) (S (c.map (·.1)) vs d R o6 o7 o8 o9) .nx (S (c.map (·.1)++st.map (·.1)) i (d++[st]) g (bD (.loc,.lst (st.map stN))) j m o):=by
     show z (lb B (λ_=>?_) λh=>by cases h);change Run _ _ _ [bD (.loc,.tup (rows.map B')),bD (.own,.Gp ks (ks.map (cq (G6 rows rows.length)))),bD (.own,.lst (bL rows λp=>(cnt rows (c.map (·.1)++st.map (·.1)) p:Int))),bD (.own,.Gp (c.map (·.1)++st.map (·.1)) i),bD (.own,.lst (gk (d++[st]))),bD (.own,.lst (fh g)),bD (.loc,.lst (st.map stN)),j,m,o];rw[ef];show gA (k:=.own) (k':=.own) (r:=(.bor 6,.lst (st.map stN))) (u:=.lst (st.map stN)) rfl (aD rfl) (tN rfl) rfl rfl (by unfold gk;rw[c4];lia) az
    have⟨Y,Mc,st2,z1,z2,z3,z4,D⟩:=jh G H I J f (c++st) (d++[st]) g i (bD (.loc,.lst (st.map stN))) j m o T (by rw[WY,O];simp) (by rw[hY,hY,u5];lia) (by rw[hY];split<;>lia);show⟨Y,Mc,st2,z1,z2,z3,z4,qd A q ?_⟩;rw[em]at D;show D
abbrev Bu(Γ:Tab)(rows:List Row):Prop:=∃ks:List Str,(∀w,w∉ks->G6 rows rows.length w=[])/\Γ "places_that_tell" [.tup (rows.map B')]=bD (.ok (.own,.Gp ks (ks.map (cq (G6 rows rows.length)))))
def gn(s:Once rows)(v:rows.length<=120)(w:Bu Γ rows)(z:yx Γ rows):∃(f:List (Str×Nat)) (d:List (List (Str×Nat))),LI rows f []/\d.flatten=f/\d.length<=120/\dF Γ bj [.tup (rows.map B')]=bD (.ok (.own,.lst (gk d))):=by
 have hsz:(20000:Nat)<=df:=by decide
 have⟨ks,A,B⟩:=w;have C:TM.start [.tup (rows.map B')] 10=[bD (.loc,.tup (rows.map B')),cb,cb,cb,cb,cb,cb,cb,cb,cb]:=by simp[TM.start,GP,bJ]
 let g:Option (Kd×U):=bD (.loc,.tup (rows.map B'));let j:Option (Kd×U):=bD (.own,.Gp ks (ks.map (cq (G6 rows rows.length))));let D:Option (Kd×U):=bD (.own,.lst (bL rows λp=>(cnt rows [] p:Int)));have G:Run (ev Γ (.comp 1 cK .seq [.var 0] [] (.bi .len [.idx (.var 0) (.cst (.int 1))]))) [g,j,cb,cb,cb,cb,cb,cb,cb,cb] (.own,.lst (bL rows λp=>(cnt rows [] p:Int))) [g,j,cb,cb,cb,cb,cb,cb,cb,cb]:=by
  have c:=jd (cond:=aU Γ []) (elt:=ev Γ (.bi .len [.idx (.var 0) (.cst (.int 1))])) (src:=[(.loc,.tup (rows.map B'))]) (st:=[g,j,cb,cb,cb,cb,cb,cb,cb,cb]) trivial .loc (.inl rfl) B' (λr=>.int (r.2.length:Nat)) .loc (λ_=>k9) rows [] (by simp;lia)
   (λy _=>⟨cA (aa (bh (x:=(.loc,B' y)) (ae rfl) ai trivial rfl) af) trivial (by rw[As,c4]),aE⟩)
  rw[i2]at c;have e:(rows.map B').map (λu=>(kE .loc,u))=rows.map λr=>(Kd.loc,B' r):=by rw[i0];rfl
  have H:(rows.map λr=>U.int (r.2.length:Nat))=bL rows λp=>(cnt rows [] p:Int):=by
   unfold bL;apply J_
   .simp
   .intro i k l;have I:i<rows.length:=by simpa using k
    have m:told rows i=rows[i].2:=jO (by simp[I]);have J:cnt rows [] i=rows[i].2.length:=by unfold cnt rK;rw[m];simp
    simp[J]
  rw[H]at c;show cC (rs:=[(.loc,.tup (rows.map B'))]) (aa (ae rfl) af) trivial (by change bD _=_;rw[e]) c
 let n:=(hW rows.length).filter λp=>cL (cnt rows [] p=0);let o:av:=[g,j,D,bD (.own,.Gp [] []),bD (.own,.lst []),cb,cb,cb,cb,cb]
 have L:Run (ev Γ (.comp 2 b6 .Kz [.var 2] [.cmp .eq (.var 1) (.cst (.int 0))] (.var 0))) o (.own,.lst (fh n)) o:=by
  have c:=lp (st:=o) (cond:=aU Γ [.cmp .eq (.var 1) (.cst (.int 0))]) (elt:=ev Γ (.var 0)) (src:=[(.bor 2,.lst (bL rows λp=>(cnt rows [] p:Int)))]) ⟨⟨.own,rfl,rfl⟩,trivial⟩ (λp:Nat=>U.int (p:Nat)) (λp:Nat=>U.int (cnt rows [] p:Int)) (λp:Nat=>U.int (p:Nat)) (λp=>cL (cnt rows [] p=0)) (hW rows.length) [] (by simp;lia)
   (λy _=>⟨cB (aS (ae rfl) ai trivial (bC (by rw[G7];simp))),ae rfl⟩)
  rw[i2]at c;have e:((bL rows λp=>(cnt rows [] p:Int)).zipIdx.map λp=>(kE (.bor 2),U.tup [.int p.2,p.1]))=(hW rows.length).map λp:Nat=>(Kd.loc,U.tup [.int (p:Nat),.int (cnt rows [] p:Int)]):=by
   unfold bL;apply J_
   .simp
   .intro i k l;simp[kE]
  show cC (rs:=[(.bor 2,.lst (bL rows λp=>(cnt rows [] p:Int)))]) (aa (aD rfl) af) ⟨⟨.own,rfl,rfl⟩,trivial⟩ (by change bD _=_;rw[e]) c
 have N:LI rows [] n:=⟨.nil,λ_ _ _ h=>(nomatch h),λ_ h=>(nomatch h),λt m=>by
  have⟨a,b⟩:=ko.mp m;show⟨va.mp a,by simpa using b⟩,λt r k l=>.inl (ko.mpr ⟨va.mpr (eh.mp k).1,by simpa using l⟩)⟩
 have⟨f,d,st',O,Q,T,q,Y⟩:=jh s v z A fuel [] [] n [] cb cb cb cb N rfl (ix _) (by unfold fuel;split<;>simp<;>lia);show⟨f,d,O,Q,T,?_⟩;show aX rfl (.inl rfl) C (ay (r:=(.own,.Gp ks (ks.map (cq (G6 rows rows.length))))) (aQ (aa (ae rfl) af) trivial B) a5 (ay G a5 (ay (r:=(.own,.Gp [] [])) kZ a5 (ay (r:=(.own,.lst [])) (bu af trivial ax (i3 _)) a5 (ay L a5 (qe Y (bA (aD q) (jw q))))))))
def vf(hs:Γ "steps_in_rounds" [.tup (rows.map B')]=bD (.ok (.own,.lst (gk a))))(c:a.flatten=f)(hl:f.length<=120):dF Γ fg [.tup (rows.map B')]=bD (.ok (.own,.lst (f.map stN))):=by
 have hsz:(20000:Nat)<=df:=by decide
 have h:TM.start [.tup (rows.map B')] 3=[bD (.loc,.tup (rows.map B')),cb,cb]:=by simp[TM.start,GP,bJ]
 let S:=λ(l:List (Str×Nat)) (o2:Option (Kd×U))=>([bD (.loc,.tup (rows.map B')),bD (.own,.lst (l.map stN)),o2]:av)
 have⟨st',i,b,o2,e⟩:=bI (t:=cK) (is:=[2]) (body:=execs Γ [.ext 1 (.var 2)]) (rs:=[(.own,.lst (gk a))]) (λl:List (Str×Nat)=>(Kd.loc,U.lst (l.map stN)))
  (λd r st=>d++r=a/\∃o2:Option (Kd×U),st=S d.flatten o2) (λ_ _ _ _=>trivial) (λd y r st j=>by
   have⟨b,o2,e⟩:=j;subst e;have m:d.flatten.length+y.length<=120:=by
    have:=Zq (λl:List (List (Str×Nat))=>l.flatten.length) b;simp only[WY,Sv,hY,c]at this;lia
   show⟨S d.flatten (bD (.loc,.lst (y.map stN))),S (d++[y]).flatten (bD (.loc,.lst (y.map stN))),dO aI,?_,by rw[<-b];simp,_,rfl⟩;have em:(d++[y]).flatten.map stN=d.flatten.map stN++y.map stN:=by simp
   change Run _ _ _ [bD (.loc,.tup (rows.map B')),bD (.own,.lst ((d++[y]).flatten.map stN)),bD (.loc,.lst (y.map stN))];rw[em];show xK (k:=.own) (k':=.own) rfl (ae rfl) rfl rfl (tI (by rw[c4,c4];lia) rfl) az) a [] (S [] cb) ⟨rfl,cb,rfl⟩
 subst e;have e:(gk a).map (λu=>(kE .own,u))=a.map λl=>(Kd.loc,U.lst (l.map stN)):=by unfold gk;rw[i0];rfl
 have g:=aX (Γ:=Γ) (fn:=fg) rfl (.inl rfl) h (ay (r:=(.own,.lst [])) (bu af trivial ax (i3 _)) a5 (cJ (rs:=[(.own,.lst (gk a))]) (st1:=S [] cb) (aa (aQ (aa (ae rfl) af) trivial hs) af) trivial rfl rfl (by rw[e];show i) (bA (aD rfl) (jw rfl))));rw[i2,c]at g;show g
end
section
variable{Γ:Tab}{rows:List Row}{names:List Str}
def rU(h:a.length<64):Ib .sorted [(k,.lst (a.map .str))]=bD (.own,.lst ((aH a).map .str)):=by
 change(strsOf (a.map U.str)).bind _=_;rw[dA];change(if a.length<64 then _ else _)=_;rw[Zm h]
def rV{a:List (Str×Nat)}(hl:a.length<64)(ho:Γ "order" [.tup (rows.map B')]=bD (.ok (.own,.lst (a.map stN)))):dF Γ eR [.tup (rows.map B')]=bD (.ok (.own,.lst ((aH (a.map (·.1))).map .str))):=by
 have hsz:(20000:Nat)<=df:=by decide
 have c:TM.start [.tup (rows.map B')] 1=[bD (.loc,.tup (rows.map B'))]:=by simp[TM.start,GP,bJ]
 have b:=lp (st:=[bD (.loc,.tup (rows.map B'))]) (cond:=aU Γ []) (elt:=ev Γ (.var 0)) (src:=[(.own,.lst (a.map stN))]) trivial (λs:Str×Nat=>U.str s.1) (λs=>U.int (s.2:Nat)) (λs=>U.str s.1) (λ_=>b6) a [] (by simp;lia) (λy _=>⟨k9,ae rfl⟩);rw[i2,Mb.mpr (λ_ _=>rfl)]at b;have e:(a.map stN).map (λu=>(kE .own,u))=a.map λs=>(Kd.loc,U.tup [.str s.1,.int (s.2:Nat)]):=by rw[i0];rfl
 have d:(a.map λs=>U.str s.1)=(a.map (·.1)).map U.str:=by rw[i0];rfl
 rw[d]at b;show aX rfl (.inl rfl) c (bA (cA (aa (cC (rs:=[(.own,.lst (a.map stN))]) (aa (aQ (aa (ae rfl) af) trivial ho) af) trivial (by change bD (PX (λu=>(kE .own,u)) _)=_;rw[e]) b) af) trivial (rU (by rw[c4];show hl))) gz)
structure RJ(prog:List Fn):Prop where
 g:G4 prog "gathered" c9
 p:G4 prog "places_that_tell" a_
 n:G4 prog "new_steps" cN
 s:G4 prog "steps_in_rounds" bj
 o:G4 prog "order" fg
 l:G4 prog "learnt" eR
structure Kn(rows:List Row)(K:List Str):Prop where
 nd:K.Nodup
 sn:NU rows K
 cl:fO rows (·∈K)
def Kn.perm(a:Kn rows K)(b:Kn rows L):K.Perm L:=same a.nd b.nd a.sn b.sn a.cl b.cl
def Kn.of(s:LI rows a []):Kn rows (a.map (·.1)):=⟨s.nd,s.sn,s.closed⟩
def AR(L:RJ prog)(n:Nat)(d:∀r∈rows,mR names r)(y:names.length<=24)(e:rows.length<=120):∃c:List (Str×Nat),LI rows c []/\c.length<=24/\GD prog (n+4) "order" [.tup (rows.map B')]=bD (.ok (.own,.lst (c.map stN))):=by
 have j:∀r∈rows,r.2.length<=8:=λr h=>(d r h).Kp;have f:Once rows:=λr h=>(d r h).once;have i:∀r∈rows,r.1∈names:=λr h=>(d r h).word;have k:Bt (GD prog (n+1)):=λps hl=>by
  have⟨ks,a,b⟩:=oM (Γ:=GD prog n) hl;show⟨ks,a,(aF L.g _).trans b⟩
 have l:Bu (GD prog (n+2)) rows:=by
  have⟨ks,a,b⟩:=rT k f j e;show⟨ks,a,(aF L.p _).trans b⟩
 have m:yx (GD prog (n+2)) rows:=λR K0 vs q=>by
  have⟨st,a,b⟩:=lQ (Γ:=GD prog (n+1)) i ⋯ q (K0:=K0) (vs:=vs);show⟨st,a,(aF L.n _).trans b⟩
 have⟨c,t,s1,s2,s3,s4⟩:=gn f e l m;have u:GD prog (n+3) "steps_in_rounds" [.tup (rows.map B')]=bD (.ok (.own,.lst (gk t))):=(aF L.s _).trans s4;have v:c.length<=24:=by
  have:=tM (Kn.of s1).nd (L:=names) λx w=>by
   have⟨r,a,b⟩:=i7.mp (s1.wd x w);show b▸i r a
  rw[c4]at this;lia
 show⟨c,s1,v,(aF L.o _).trans (vf u s2 ⋯)⟩
def AS(L:RJ prog)(n:Nat)(a:∀r∈rows,mR names r)(b:names.length<=24)(c:rows.length<=120)(d:Kn rows K):GD prog (n+5) "learnt" [.tup (rows.map B')]=bD (.ok (.own,.lst ((aH K).map .str))):=by
 have⟨f,s1,s2,s3⟩:=AR L n a b c;have e:aH (f.map (·.1))=aH K:=fC ((Kn.of s1).perm d);rw[<-e];show(aF L.l _).trans (rV ⋯ s3)
end
end KL
namespace TM
open PySem L2 GW
section
def bY(rs:List Row):(bD (if GP (.tup (rs.map B'))=b6 then Kd.loc else Kd.any,U.tup (rs.map B')):Option (Kd×U))=bD (.loc,.tup (rs.map B')):=by
 rw[Zm (by change bS (rs.map B')=b6;show bJ rs)]
def qr{a:List Str}:Ih .seq [(k,.tup (a.map .str))]=bD (a.map λx=>(kE k,U.str x)):=by
 change bD ((a.map U.str).map λu=>(kE k,u))=_;rw[i0];rfl
def m8{a:List Str}(hk:k=.any\/k=.loc):fq k (a.map .str)=b6:=by
 rcases hk with rfl|rfl
 .show eN a
 .rfl
def vg(a:us.length=fn.np)(hs:start us fn.ns=st0)(h:Run (execs Γ fn.body) st0 .nx st):dF Γ fn us=bD (.ok (.loc,.GC)):=by
 subst hs;unfold dF;rw[Zm a,show execs Γ fn.body (start us fn.ns)=_ from h]
def cT.ok(h:cT ws r):mR ws r:=⟨h.1,h.2.2.2,h.2.1,h.2.2.1⟩
def yy(n:ws.length<1000)(hk:gW ws ks)(e:cT ws r):
  ∃a b,Run (execs Γ ym) (oK rs ks (bD (.loc,.str r.1)) (bD (.loc,.tup (r.2.map .str))) o4) .nx (oK rs a (bD (.loc,.str r.1)) (bD (.loc,.tup (r.2.map .str))) b)/\gW ws a/\∀x,x∈a↔x∈ks\/x=r.1\/x∈r.2:=by
 have o:=hk.len;obtain⟨st',j,a,b,rfl,l,_,c⟩:=bI (rs:=[(.loc,.tup (r.2.map .str))]) (t:=cK) (is:=[4]) (body:=execs Γ Bs) (λx:Str=>(Kd.loc,U.str x)) (λd q st=>∃a b,st=oK rs a (bD (.loc,.str r.1)) (bD (.loc,.tup (r.2.map .str))) b/\gW ws a/\(∀x∈q,x∈ws)/\∀x,x∈a↔(x∈ks\/x=r.1)\/x∈d)
  (λ_ _ _ _=>trivial) (λd y q st h=>by
   have⟨f,b,rfl,g,i,c⟩:=h;have p:=g.len;show⟨oK rs f (bD (.loc,.str r.1)) (bD (.loc,.tup (r.2.map .str))) (bD (.loc,.str y)),_,aI,iC (k:=.own) (k':=.own) ai rfl (ae rfl) (au aE (au aE ax)) rfl rfl (jQ ⋯) az,eQ f y,_,rfl,g.ins (i y (by simp)),λx m=>i x (by simp[m]),λx=>?_⟩;rw[fP,c x,i4,hQ,or_assoc]) r.2 [] (oK rs (eQ ks r.1) (bD (.loc,.str r.1)) (bD (.loc,.tup (r.2.map .str))) o4) ⟨_,_,rfl,hk.ins e.1,e.2.2.1,λx=>by rw[fP];simp⟩
 show⟨a,b,?_,l,λx=>by rw[c x,or_assoc,i2]⟩;show iC (k:=.own) (k':=.own) ai rfl (ae rfl) (au aE (au aE ax)) rfl rfl (jQ ⋯) (cJ (rs:=[(.loc,.tup (r.2.map .str))]) (aa (ae rfl) af) trivial qr rfl j az)
def E9(h:G4 Pg "_law_all" AM)(p:ws.length<=24)(c:∀r∈rs,cT ws r):GD Pg (d+1) "_law_all" [.tup (rs.map B')]=bD (.ok (.own,.lst ((aG rs).map .str))):=by
 obtain⟨st',f,ks,o2,o3,o4,rfl,hk,_,g⟩:=bI (rs:=[(.loc,.tup (rs.map B'))]) (t:=b6) (is:=[2,3]) (body:=execs (GD Pg d) ym) (λr:Row=>(Kd.loc,B' r)) (λd q st=>∃ks o2 o3 o4,st=oK rs ks o2 o3 o4/\gW ws ks/\(∀r∈q,cT ws r)/\∀x,x∈ks↔∃r∈d,x=r.1\/x∈r.2)
  (λ_ _ _ _=>trivial) (λd y q st h=>by
   have⟨i,o2,o3,o4,rfl,j,b,k⟩:=h;have⟨l,s,m,n,o⟩:=yy (Γ:=GD Pg ‹Nat›) (rs:=rs) (o4:=o4) ⋯ j (b y (by simp));show⟨oK rs i (bD (.loc,.str y.1)) (bD (.loc,.tup (y.2.map .str))) o4,_,jx (.inl rfl),m,l,_,_,_,rfl,n,λr a=>b r (by simp[a]),λx=>?_⟩;rw[o x,k x];constructor
   .rintro(⟨r,a,e⟩|e)
    .show⟨r,by simp[a],e⟩
    .show⟨y,by simp,e⟩
   .rintro⟨r,a,e⟩;rcases i4.mp a with q|q
    .show .inl ⟨r,q,e⟩
    .rw[hQ]at q;subst q;show .inr e) rs [] (oK rs [] cb cb cb) ⟨[],cb,cb,cb,rfl,⟨by simp,by simp⟩,c,by simp⟩
 have hl:=hk.len;have e:aH ks=aG rs:=fC ((Jf hk.1 (b8 _)).mpr λx=>by rw[g x,bO,bQ,i2]);show(aF h _).trans (aX (st0:=[bD (.loc,.tup (rs.map B')),cb,cb,cb,cb]) rfl (.inl rfl) (Zq (λx:Option (Kd×U)=>[x,cb,cb,cb,cb]) (bY rs)) (ay (st2:=oK rs [] cb cb cb) kZ a5 (cJ (rs:=[(.loc,.tup (rs.map B'))]) (aa (ae rfl) af) trivial jR rfl f (bA (cA (aa (aD rfl) af) ∅ ?_) gz))));change(if ks.length<64 then bD (Kd.own,U.lst ((aH ks).map .str)) else cb)=_;rw[Zm ⋯,e]
end
end TM
namespace TM
open PySem L2 GW Od
section
def dQ(hk:k=.loc\/k=.any)(h:st[i]?=bD (bD (k,u))):Run (ev Γ (.var i)) st (k,u) st:=by
 rcases hk with rfl|rfl
 .show ae h
 .show aP h
def Tv(hk:k=.loc\/k=.any)(h:GP u=b6):Run (lift (k,u)) st u st:=by
 rcases hk with rfl|rfl
 .show aE
 .show k8 h
def cV(hk:k=.loc\/k=.any)(h:a9 rs st):a9 ((k,u)::rs) st:=by rcases hk with rfl|rfl<;>show h
def Ge(hk:k=.loc\/k=.any):kE k=k:=by rcases hk with rfl|rfl<;>rfl
def yz{told a:List Str}(hk:k=.loc\/k=.any)(hl:told.length<=1000)(hs:Run (ev Γ src) st (k,.tup (told.map .str)) st)(c:st[j]?=bD (bD (.own,w)))(d:∀x:Str,cO .isin (.str x) w=bD (cL (x∈a))):
  Run (ev Γ (.bi .all [.comp 1 cK .seq [src] [] (.cmp .isin (.var 0) (.var (j+1)))])) st (.loc,.bl (told.all λx=>cL (x∈a))) st:=by
 have hsz:(1000:Nat)<=df:=by decide
 have b:=jd (cond:=aU Γ []) (elt:=ev Γ (.cmp .isin (.var 0) (.var (j+1)))) (src:=[(k,.tup (told.map .str))]) (st:=st) (cV hk trivial) k hk U.str (λx=>.bl (cL (x∈a))) .loc (λ_=>k9) told [] (by simp;lia)
  (λy _=>⟨ju (dQ hk rfl) (aD (by simpa using c)) (cV hk ⟨⟨.own,rfl,by simpa using c⟩,trivial⟩) (d y),aE⟩)
 rw[i2]at b;have e:(told.map U.str).map (λu=>(kE k,u))=told.map λr=>(k,U.str r):=by rw[i0,Ge hk];rfl
 have f:(told.map λx=>U.bl (cL (x∈a)))=(told.map λx=>cL (x∈a)).map U.bl:=by rw[i0];rfl
 rw[f]at b;have g:(told.all λx=>cL (x∈a))=((told.map λx=>cL (x∈a)).all id):=by rw[YF];rfl
 rw[g];show cA (aa (cC (rs:=[(k,.tup (told.map .str))]) (aa hs af) (cV hk trivial) (by change bD _=_;rw[e]) b) af) trivial (AD _)
abbrev E_:List S:=[.ite (.and [.cmp .GG (.var 3) (.var 1),.bi .all [.comp 1 cK .seq [.var 4] [] (.cmp .isin (.var 0) (.var 2))]]) [.put 1 (.var 3) (.cst (.bl b6)),.set 2 (.cst (.bl b6))] []]
abbrev Dy:List S:=[.set 2 (.cst (.bl cK)),.GN b6 [3,4] .seq [.var 0] E_]
abbrev AU:Fn:=⟨"_law_learnt",1,5,[.set 1 (.H_ cK),.set 2 (.cst (.bl b6)),.Kh (.var 2) Dy,.ret (.var 1)]⟩
inductive Bv(rs:List Row):Kd->U->Prop
 |tup:Bv rs .loc (.tup (rs.map B'))
 |lst:Bv rs .any (.lst (rs.map B'))
def Bv.kd{W:U}(h:Bv rs k W):k=.loc\/k=.any:=by cases h<;>simp
def Bv.it{W:U}(h:Bv rs k W):Ih .seq [(k,W)]=bD (rs.map λr=>(k,B' r)):=by
 cases h
 .show jR
 .change bD ((rs.map B').map λu=>(kE .any,u))=_;rw[i0];rfl
def Bv.bg{W:U}(h:Bv rs k W):(bD (if GP W=b6 then Kd.loc else Kd.any,W):Option (Kd×U))=bD (k,W):=by
 cases h
 .show bY rs
 .rfl
abbrev jI(k:Kd)(W:U)(K:List Str)(b:Bool)(o3 o4:Option (Kd×U)):av:=[bD (k,W),bD (.own,lP K),bD (.loc,.bl b),o3,o4]
structure Le(ws:List Str)(rs:List Row)(K:List Str):Prop where
 ks:gW ws K
 snd:NU rs K
def Le.add(x:Le ws rs K)(b:r∈rs)(c:r.1∈ws)(d:∀y∈r.2,y∈K):Le ws rs (eQ K r.1) :=
 ⟨x.ks.ins c,λC a y f=>(fP.mp f).elim (x.snd C a y) λe=>e▸a r b λz hz=>x.snd C a z (d z hz)⟩
def AV{W:U}(v:Bv rs k W)(I:ws.length<=40)(z:∀r∈rs,cT ws r)(x:Le ws rs K0):
  ∃(g:List Str) (b:Bool) (o p:Option (Kd×U)),Run (execs Γ Dy) (jI k W K0 b0 o3 o4) .nx (jI k W g b o p)/\Le ws rs g/\(b=b6->K0.length<g.length)/\(b=cK->g=K0/\fO rs (·∈K0)):=by
 have hk:=v.kd;obtain⟨st1,C,_,g,b,o,p,rfl,i,l,c⟩:=bI (t:=b6) (is:=[3,4]) (body:=execs Γ E_) (rs:=[(k,W)]) (λr:Row=>(k,B' r))
  (λd r st=>d++r=rs/\∃(K:List Str) (b:Bool) (o3 o4:Option (Kd×U)),st=jI k W K b o3 o4/\Le ws rs K/\(b=b6->K0.length<K.length)/\(b=cK->K=K0/\∀r∈d,(∀y∈r.2,y∈K0)->r.1∈K0)) (λ_ _ _ _=>cV hk trivial) (λd a r st D=>by
   have⟨q,K,b,o3,o4,e,i,l,c⟩:=D;subst e;have s:a∈rs:=by rw[<-q];simp
   have J:=(z a s).2.2.2;have L:=i.ks.len;have m:Run (GU Γ (.and [.cmp .GG (.var 3) (.var 1),.bi .all [.comp 1 cK .seq [.var 4] [] (.cmp .isin (.var 0) (.var 2))]])) (jI k W K b (bD (k,.str a.1)) (bD (k,.tup (a.2.map .str)))) (!cL (a.1∈K)&&a.2.all λy=>cL (y∈K)) (jI k W K b (bD (k,.str a.1)) (bD (k,.tup (a.2.map .str)))) :=
    jv (oE (aS (dQ hk rfl) (aD rfl) (cV hk ⟨⟨.own,rfl,rfl⟩,trivial⟩) eO) λ_=>cB (xJ (yz (j:=1) (w:=lP K) hk ⋯ (dQ hk rfl) rfl λ_=>Dt)))
   have A:Run (dg b6 [3,4] (k,B' a)) (jI k W K b o3 o4) () (jI k W K b (bD (k,.str a.1)) (bD (k,.tup (a.2.map .str)))):=jx hk;cases f:(!cL (a.1∈K)&&a.2.all λy=>cL (y∈K)) with
   |false =>
    rw[f]at m;show⟨_,_,A,bP m az az,by rw[<-q];simp,K,b,_,_,rfl,i,l,λu=>⟨(c u).1,λn HU hz=>?_⟩⟩;rcases i4.mp HU with HU|HU
    .show(c u).2 n HU hz
    .rw[hQ]at HU;subst HU;rw[<-(c u).1]at hz ⊢;by_cases B:n.1∈K
     .show B
     .have:(!cL (n.1∈K)&&n.2.all λy=>cL (y∈K))=b6:=by
       rw[Zo B];simpa using hz
      rw[this]at f;cases f
   |true =>
    rw[f]at m;simp only[cc,uk,decide_eq_false_iff_not,mx,Zl]at f;have G:eQ K a.1=K++[a.1]:=by unfold eQ;rw[Zn f.1]
    show⟨_,jI k W (eQ K a.1) b6 (bD (k,.str a.1)) (bD (k,.tup (a.2.map .str))),A,fM m (iC (k:=.own) (k':=.own) ai rfl (dQ hk rfl) (au aE (au (Tv hk rfl) ax)) rfl rfl (jQ ⋯) (ay ai aI az)) az,by rw[<-q];simp,eQ K a.1,b6,_,_,rfl,i.add s (z a s).1 f.2,λ_=>?_,λh=>by cases h⟩;rw[G,hY,u5];cases b with
    |true=>have:=l rfl;lia
    |false=>rw[(c rfl).1];lia) rs [] (jI k W K0 cK o3 o4) ⟨rfl,K0,cK,o3,o4,rfl,x,(λh=>by cases h),λ_=>⟨rfl,λr H=>by cases H⟩⟩
 rw[i2]at c;show⟨g,b,o,p,ay ai aI (cJ (rs:=[(k,W)]) (st1:=jI k W K0 cK o3 o4) (aa (dQ hk rfl) af) (cV hk trivial) v.it (by rcases hk with rfl|rfl<;>rfl) C az),i,l,c⟩
theorem oN{W:U}(i:Bv rs k W)(j:ws.length<=40)(l:∀r∈rs,cT ws r):
  ∀(f:Nat) (K0:List Str) (o3 o4:Option (Kd×U)),Le ws rs K0->64 - K0.length<f->∃(a:List Str) (c d:Option (Kd×U)),Run (fu (GU Γ (.var 2)) (execs Γ Dy) (f+1)) (jI k W K0 b6 o3 o4) .nx (jI k W a cK c d)/\Le ws rs a/\fO rs (·∈a)
 |0,_,_,_,_,h=>by lia
 |f+1,K0,o3,o4,x,h=>by
  have⟨a,b,c,d,m,g,n,o⟩:=AV (Γ:=Γ) i j l x (b0:=b6) (o3:=o3) (o4:=o4);cases b with
  |false =>
   have⟨e,p⟩:=o rfl;subst e;show⟨a,c,d,qd (je rfl) m (mT (je rfl)),g,p⟩
  |true =>
   have:=n rfl;have:=g.ks.len;have⟨q,s,t,u,v,w⟩:=oN i j l f a c d g ⋯;show⟨q,s,t,qd (je rfl) m u,v,w⟩
abbrev Fb(m:Nat)(Γ:Tab):Prop:=∀(ws:List Str) (rs:List Row) (k:Kd) (W:U),Bv rs k W->ws.length<=m->(∀r∈rs,cT ws r)->∃K,Γ "_law_learnt" [W]=bD (.ok (.own,lP K))/\gW ws K/\KL.Kn rs K
@[reducible]def Gf:=Fb 24
def Fc(e:m<=40)(h:G4 Pg "_law_learnt" AU):Fb m (GD Pg (d+1)):=λws rs k W a f b=>by
 have⟨K,g,i,q,x,c⟩:=oN (Γ:=GD Pg d) a ⋯ b 999999999999 [] cb cb ⟨⟨.nil,λ_ h=>absurd h IW⟩,λ_ _ _ h=>absurd h IW⟩ (by simp);show⟨K,(aF h _).trans (aX rfl (.inl rfl) (st0:=[bD (k,W),cb,cb,cb,cb]) (Zq (λx:Option (Kd×U)=>[x,cb,cb,cb,cb]) a.bg) (ay kZ a5 (ay ai aI (qe q (bA (aD rfl) (jw rfl)))))),x.ks,x.ks.1,x.snd,c⟩
abbrev Ln(rs:List Row)(x:Str):Prop:=∀C:Str->Prop,fO rs C->C x
def Kn.mem(h:KL.Kn rs K):x∈K↔Ln rs x:=⟨λa C b=>h.sn C b x a,λhl=>hl _ h.cl⟩
def Kn.some(c:ws.length<=24)(a:∀r∈rs,cT ws r):∃K,KL.Kn rs K/\gW ws K:=by
 have⟨K,d,e,q,x,b⟩:=oN (Γ:=λ_ _=>cb) (Bv.tup (rs:=rs)) ⋯ a 999999999999 [] cb cb ⟨⟨.nil,λ_ h=>absurd h IW⟩,λ_ _ _ h=>absurd h IW⟩ (by simp);show⟨K,⟨x.ks.1,x.snd,b⟩,x.ks⟩
end
end TM
namespace TM
open PySem L2 GW
section
def Dz(b:st[i]?=bD (bD (.Gm,.Gp ks us)))(c:Run (bH 2 b6 (pure b6) (ev Γ e) [] (nZ (ks,us)) []) (st.set i cb) vs st1):Run (execs Γ (.I0 i e::d)) st (.rt .own (.lst vs)) st1:=by
 show lO (ab (a:=(ks,us)) (st1:=st.set i cb) ?_ (ab c rfl));change pO i st=_;unfold pO;rw[b]
end
end TM
namespace KK
open PySem L2 TM GW Od
abbrev tT:Fn:=⟨"not_learnt",1,1,[.ret (.KC cK (.call "words_of" [.var 0]) (.call "learnt" [.var 0]))]⟩
abbrev Bx:List TM.S:=[.ite (.inD cK (.idx (.var 3) (.cst (.int 0))) 1) [.Ia 1 (.idx (.var 3) (.cst (.int 0))) (.idx (.comp 1 cK .seq [.idx (.var 3) (.cst (.int 1))] [.inD cK (.var 0) 2] (.var 0)) (.cst (.int 0)))] []]
abbrev tU:Fn:=⟨"knot",1,4,[.newD 1,.GN cK [2] .seq [.call "not_learnt" [.var 0]] [.putD 1 (.var 2) (.lst [])],.GN cK [3] .seq [.var 0] Bx,.I0 1 (.tup [.var 0,.bi .tuple [.var 1]])]⟩
abbrev Gw(rows:List Row)(K:List Str):List Str:=(aG rows).filter λx=>cL (x∉K)
def oO:x∈Gw rows K↔x∈cp rows/\x∉K:=by
 unfold Gw;rw[ko,bX];simp
def ji(rows:List Row)(K:List Str):(Gw rows K).Nodup:=(dy rows).sublist IB
abbrev pick(Z:List Str)(l:List Str):Str:=((l.filter λx=>cL (x∈Z)).head?).getD ""
abbrev JD(Z:List Str)(d:List Row)(k:Str):List Str:=(d.filter λr=>cL (r.1=k)).map λr=>pick Z r.2
abbrev cW(Z:List Str)(d:List Row)(k:Str):U:=.lst ((JD Z d k).map .str)
abbrev oP(Z:List Str)(rows:List Row):List Row:=Z.map λk=>(k,JD Z rows k)
section
def ly(f:K.length<64)(g:(aG rows).length<64)(a:Γ "words_of" [.tup (rows.map B')]=bD (.ok (.own,.lst ((aG rows).map .str))))(b:Γ "learnt" [.tup (rows.map B')]=bD (.ok (.own,.lst ((aH K).map .str)))):
  dF Γ tT [.tup (rows.map B')]=bD (.ok (.own,.lst ((Gw rows K).map .str))):=by
 have c:TM.start [.tup (rows.map B')] 1=[bD (.loc,.tup (rows.map B'))]:=by simp[TM.start,GP,bJ]
 have h:=gF (aG rows);have d:=gF (aH K);rw[bZ]at d;have hs:pK cK (aA (aG rows)) (aA (aH K))=bD (.own,.lst ((Gw rows K).map .str)):=by
  unfold pK;rw[Zm ⟨⋯,⋯⟩,Zn ke];have e:aH ((aA (aG rows)).filter λx=>cL (x∉aA (aH K)))=Gw rows K:=by
   show iJ ?_ ((c_ _).sublist IB);show(Jf ((b8 _).sublist IB) (ji rows K)).mpr λx=>?_;unfold Gw;rw[ko,ko,bO];simp only[Zl,bO,(bN K).mem_iff]
  rw[e]
 show aX rfl (.inl rfl) c (bA (Bo (aQ (aa (ae rfl) af) trivial a) (f_ ⋯) (aQ (aa (ae rfl) af) trivial b) (f_ (by rw[bZ];lia)) hs) gz)
def qt(Z:List Str)(d:List Row)(r:Row)(k:Str):JD Z (d++[r]) k=if r.1=k then JD Z d k++[pick Z r.2] else JD Z d k:=by
 unfold JD;rw[KQ,ki,D',Ol];by_cases e:r.1=k
 .rw[Zm e,Zm (Zp e)];rfl
 .rw[Zn e,Zn (by simpa using e)];simp
def AW(Z:List Str)(d:List Row)(k:Str):(JD Z d k).length<=d.length:=by
 unfold JD;rw[c4];show lg _ _
def yA(hr:rows.length<=120)(D:∀r∈rows,r.2.length<=8)(n:Z.Nodup)(hl:Z.length<64)(G:∀r∈rows,r.1∈Z->∃x∈r.2,x∈Z)(H:Γ "not_learnt" [.tup (rows.map B')]=bD (.ok (.own,.lst (Z.map .str)))):
  dF Γ tU [.tup (rows.map B')]=bD (.ok (.own,.lst ((oP Z rows).map B'))):=by
 have hsz:(20000:Nat)<=df:=by decide
 let j:Option (Kd×U):=bD (.loc,.tup (rows.map B'));have I:TM.start [.tup (rows.map B')] 4=[j,cb,cb,cb]:=by simp[TM.start,GP,bJ,j]
 let S:=λ(ks:List Str) (us:List TM.U) (o2 o3:Option (Kd×TM.U))=>([j,bD (.Gm,.Gp ks us),o2,o3]:av)
 obtain⟨st1,s,_,o2,e⟩:=bI (t:=cK) (is:=[2]) (body:=execs Γ [.putD 1 (.var 2) (.lst [])]) (rs:=[(.own,.lst (Z.map .str))]) (λw:Str=>(Kd.loc,U.str w))
  (λd r st=>d++r=Z/\∃o2,st=S d (d.map (cW Z [])) o2 cb) (λ_ _ _ _=>trivial) (λd w r st o=>by
   have⟨f,o2,e⟩:=o;subst e;have J:w∉d:=λz=>by
    rw[<-f,qs]at n;show n.2.2 w z w (by simp) rfl
   have L:d.length<64:=by have:=Zq DD f;simp at this;lia
   have em:(d++[w]).map (cW Z [])=d.map (cW Z [])++[.lst []]:=by rw[ki];rfl
   show⟨S d (d.map (cW Z [])) (bD (.loc,.str w)) cb,S (d++[w]) ((d++[w]).map (cW Z [])) (bD (.loc,.str w)) cb,dO aI,?_,by rw[<-f];simp,_,rfl⟩;rw[em];show xR (k:=.loc) (xs:=[]) (bu af trivial ax (i3 _)) rfl (ae rfl) J ⋯ az) Z [] (S [] [] cb cb) ⟨rfl,cb,rfl⟩
 subst e;rw[i2]at s;let body:List TM.S:=Bx;obtain⟨st2,v,_,o3,e⟩:=bI (t:=cK) (is:=[3]) (body:=execs Γ body) (rs:=[(.loc,.tup (rows.map B'))]) (λr:Row=>(Kd.loc,B' r))
  (λd r st=>d++r=rows/\∃o3,st=S Z (Z.map (cW Z d)) o2 o3) (λ_ _ _ _=>trivial) (λd b r st o=>by
   have⟨f,o3,e⟩:=o;subst e;have L:d.length<120:=by have:=Zq DD f;simp at this;lia
   have A:b∈rows:=by rw[<-f];simp
   have Wf:=D b A;let c:Option (Kd×TM.U):=bD (.loc,B' b);have B:Run (ev Γ (.idx (.var 3) (.cst (.int 0)))) (S Z (Z.map (cW Z d)) o2 c) (.loc,.str b.1) (S Z (Z.map (cW Z d)) o2 c):=bh (x:=(.loc,B' b)) (ae rfl) ai trivial rfl;have m:Run (GU Γ (.inD cK (.idx (.var 3) (.cst (.int 0))) 1)) (S Z (Z.map (cW Z d)) o2 c) (cL (b.1∈Z)) (S Z (Z.map (cW Z d)) o2 c):=xQ (neg:=cK) (k:=.loc) B rfl;have C:Run (dg cK [3] (.loc,B' b)) (S Z (Z.map (cW Z d)) o2 o3) () (S Z (Z.map (cW Z d)) o2 c):=dO aI;by_cases g:b.1∈Z
   .rw[Zp g]at m;have i:=fc (cond:=aU Γ [.inD cK (.var 0) 2]) (elt:=ev Γ (.var 0)) (src:=[(.loc,.tup (b.2.map .str))]) (st:=S Z (Z.map (cW Z d)) o2 c) trivial .loc (.inl rfl) U.str U.str (λx=>cL (x∈Z)) .loc b.2 [] (by simp;lia)
     (λy _=>⟨cB (xQ (neg:=cK) (k:=.loc) (ae rfl) rfl),λ_=>⟨ae rfl,aE⟩⟩)
    rw[i2]at i;have q:(b.2.map U.str).map (λu=>(kE .loc,u))=b.2.map λx=>(Kd.loc,U.str x):=by rw[i0];rfl
    have N:=cC (Γ:=Γ) (ik:=.seq) (rs:=[(.loc,.tup (b.2.map .str))]) (st:=S Z (Z.map (cW Z d)) o2 c) (src:=[.idx (.var 3) (.cst (.int 1))]) (aa (bh (x:=(.loc,B' b)) (ae rfl) ai trivial rfl) af) trivial (by change bD (PX (λu=>(kE .loc,u)) _)=_;rw[q]) i;have O:Hm ((b.2.filter λx=>cL (x∈Z)).map U.str) ((0:Nat):Int)=bD (.str (pick Z b.2)):=by
     have⟨x,Q,T⟩:=G b A g;show dY ?_;unfold pick;cases Y:b.2.filter λx=>cL (x∈Z) with
     |nil =>
      have:x∈b.2.filter λx=>cL (x∈Z):=ko.mpr ⟨Q,Zp T⟩;rw[Y]at this;cases this
     |cons a l=>rfl
    have hg:dv Z (Z.map (cW Z d)) b.1=bD (.lst ((JD Z d b.1).map .str)):=by rw[iI,Zm g];rfl
    have hs:iV Z (Z.map (cW Z d)) b.1 (.lst ((JD Z d b.1).map .str++[.str (pick Z b.2)]))=Z.map (cW Z (d++[b])):=by
     rw[ll _ _ _ _ n];show r3 λk hk=>?_;unfold cW;rw[qt];by_cases e:b.1=k
     .subst e;rw[Zm rfl,Zm rfl];simp
     .rw[Zn e,Zn (ro e)]
    have Tu:=AW Z d b.1;show⟨_,S Z (Z.map (cW Z (d++[b]))) o2 c,C,lb m (λ_=>?_) (λh=>by cases h),by rw[<-f];simp,_,rfl⟩;rw[<-hs];show xS (k:=.loc) (r:=(.loc,.str (pick Z b.2))) rfl B g (bh N ai trivial (bW (k:=.own) O)) aE hg (by rw[c4];lia) az
   .rw[Zo g]at m;have em:Z.map (cW Z (d++[b]))=Z.map (cW Z d):=r3 λk hk=>by
     unfold cW;rw[qt,Zn (show ¬b.1=k from λz=>g (z▸hk))]
    show⟨_,S Z (Z.map (cW Z d)) o2 c,C,lb m (λh=>by cases h) (λ_=>az),by rw[<-f];simp,c,by rw[em]⟩) rows [] (S Z (Z.map (cW Z [])) o2 cb) ⟨rfl,cb,rfl⟩
 subst e;rw[i2]at v;have i:=lp (st:=[j,cb,o2,o3]) (cond:=pure b6) (elt:=ev Γ (.tup [.var 0,.bi .tuple [.var 1]])) (src:=[]) trivial (λk:Str=>U.str k) (λk=>cW Z rows k) (λk=>B' (k,JD Z rows k)) (λ_=>b6) Z [] (by simp;lia)
  (λy _=>⟨aV,dq (aa (ae rfl) (aa (cA (aa (ae rfl) af) trivial (r:=(.loc,.tup ((JD Z rows y).map .str))) rfl) af)) trivial (au aE (au aE ax)) (by change 2<=df;lia)⟩)
 rw[i2,Mb.mpr (λ_ _=>rfl)]at i;have ei:nZ (Z,Z.map (cW Z rows))=Z.map λk=>(Kd.loc,U.tup [.str k,cW Z rows k]):=by
  have:∀l:List Str,(l.zip (l.map (cW Z rows))).map (λp=>(Kd.loc,U.tup [.str p.1,p.2]))=l.map λk=>(Kd.loc,U.tup [.str k,cW Z rows k]):=λl=>by
   induction l with
   |nil=>rfl
   |cons a l ih=>rw[eH,MX,eH,ih];rfl
  show this Z
 have ek:(oP Z rows).map B'=Z.map λk=>B' (k,JD Z rows k):=by unfold oP;rw[i0];rfl
 rw[ek];have q:(Z.map U.str).map (λu=>(kE .own,u))=Z.map λw=>(Kd.loc,U.str w):=by rw[i0];rfl
 have e2:(rows.map B').map (λu=>(kE .loc,u))=rows.map λr=>(Kd.loc,B' r):=by rw[i0];rfl
 show aX rfl (.inl rfl) I (xP (cJ (rs:=[(.own,.lst (Z.map .str))]) (st1:=S [] [] cb cb) (aa (aQ (aa (ae rfl) af) trivial H) af) trivial (by change bD (PX (λu=>(kE .own,u)) _)=_;rw[q]) rfl s
  (cJ (rs:=[(.loc,.tup (rows.map B'))]) (aa (ae rfl) af) trivial (by change bD (PX (λu=>(kE .loc,u)) _)=_;rw[e2]) rfl v (Dz rfl (by rw[ei];show i)))))
end
end KK
namespace TM
open PySem L2 GW Od
inductive Bw(L:List Str):Kd->U->Prop
 |tup:Bw L .loc (.tup (L.map .str))
 |lst:Bw L .any (.lst (L.map .str))
def Bw.kd{W:U}(h:Bw L k W):k=.loc\/k=.any:=by cases h<;>simp
def Bw.it{W:U}(h:Bw L k W):Ih .seq [(k,W)]=bD (L.map λx=>(k,U.str x)):=by
 cases h
 .show qr
 .change bD ((L.map U.str).map λu=>(kE .any,u))=_;rw[i0];rfl
def Bw.bg{W:U}(h:Bw L k W):(bD (if GP W=b6 then Kd.loc else Kd.any,W):Option (Kd×U))=bD (k,W):=by
 cases h
 .rw[Zm (by change bS (L.map U.str)=b6;show eN L)]
 .rfl
def Bw.set{W:U}(h:Bw L k W)(hl:L.length<4000):gL W=bD (aA L):=by
 have:=f_ hl;cases h<;>show this
def Bw.start{rs:List Row}{W:U}(h:Bw L k W)(n:Nat):TM.start [.tup (rs.map B'),W] (n+2)=bD (.loc,.tup (rs.map B'))::bD (k,W)::i6 n cb:=by
 change bD (if GP (.tup (rs.map B'))=b6 then Kd.loc else Kd.any,U.tup (rs.map B'))::bD (if GP W=b6 then Kd.loc else Kd.any,W)::i6 (n+2 - 2) cb=_;rw[bY,h.bg];rfl
abbrev JN(rs:List Row)(L:List Str):Prop:=∀x∈L,x∈aG rs
structure Bz(ws:List Str)(rs:List Row):Prop where
 wl:ws.length<=24
 rl:rs.length<=120
 ok:∀r∈rs,cT ws r
def Bz.in(h:Bz ws rs)(b:x∈aG rs):x∈ws:=by
 have⟨r,a,e⟩:=bQ.mp (bX.mp b);rcases e with rfl|e
 .show(h.ok r a).1
 .show(h.ok r a).2.2.1 _ e
section
abbrev heads(rs:List Row):List Str:=(rs.filter λr=>cL (r.2=[])).map (·.1)
abbrev wp(rs:List Row)(L:List Str):List Row:=rs++(L.filter λw=>cL (w∉heads rs)).map λw=>(w,[])
def yB(h:r∈wp rs L):r∈rs\/(r.1∈L/\r.2=[]):=by
 rcases i4.mp h with h|h
 .show .inl h
 .have⟨w,a,rfl⟩:=i7.mp h;show .inr ⟨(ko.mp a).1,rfl⟩
def oQ:(wp rs L).length<=rs.length+L.length:=by
 unfold wp;rw[hY,c4];have:=lg (λw=>cL (w∉heads rs)) L;lia
def tV(d:∀r∈rs,cT ws r)(c:∀x∈ws,x∈ws')(e:∀x∈L,x∈ws'):∀r∈wp rs L,cT ws' r:=λr h=>by
 rcases yB h with h|⟨a,b⟩
 .have⟨p,q,s,t⟩:=d r h;show⟨c _ p,q,λy f=>c y (s y f),t⟩
 .show⟨e _ a,?_,?_,?_⟩<;>rw[b]<;>simp
def iL(hk:JN rs L):x∈aG (wp rs L)↔x∈aG rs:=by
 constructor
 .intro h;have⟨r,c,e⟩:=bQ.mp (bX.mp h);rcases yB c with c|⟨a,b⟩
  .show bX.mpr (bQ.mpr ⟨r,c,e⟩)
  .rw[b]at e;rcases e with rfl|e
   .show hk _ a
   .cases e
 .intro h;have⟨r,c,e⟩:=bQ.mp (bX.mp h);show bX.mpr (bQ.mpr ⟨r,x2 _ c,e⟩)
def qu{W:U}(a:Bw L k W){H:List Str}(hl:L.length<=40)(d:st[i]?=bD (bD (k,W)))(b:st[j]?=bD (bD (.own,w)))(e:∀x:Str,cO .GG (.str x) w=bD (cL (x∉H))):
  Run (ev Γ (.bi .tuple [.comp 1 cK .seq [.var i] [.cmp .GG (.var 0) (.var (j+1))] (.tup [.var 0,.tup []])])) st (.loc,.tup (((L.filter λw=>cL (w∉H)).map λw=>(w,[])).map B')) st:=by
 have hsz:(1000:Nat)<=df:=by decide
 have hk:=a.kd;have c:=fc (cond:=aU Γ [.cmp .GG (.var 0) (.var (j+1))]) (elt:=ev Γ (.tup [.var 0,.tup []])) (src:=[(k,W)]) (st:=st) (cV hk trivial) k hk U.str (λw=>B' (w,[])) (λw=>cL (w∉H)) .loc L [] (by simp;lia)
  (λy _=>⟨cB (aS (dQ hk rfl) (aD (by simpa using b)) (cV hk ⟨⟨.own,rfl,by simpa using b⟩,trivial⟩) (e y)),λ_=>⟨dq (aa (dQ hk rfl) (aa (dq af trivial ax (i3 _)) af)) (cV hk trivial) (au (Tv hk rfl) (au aE ax)) (by change 2<=df;lia),aE⟩⟩)
 rw[i2]at c;rw[i0];show cA (aa (cC (rs:=[(k,W)]) (aa (dQ hk d) af) (cV hk trivial) a.it c) af) trivial rfl
abbrev Fd:List S:=[.ite (.cmp .eq (.idx (.var 3) (.cst (.int 1))) (.tup [])) [.put 2 (.idx (.var 3) (.cst (.int 0))) (.cst (.bl b6))] []]
abbrev rW(rs:List Row)(k:Kd)(W:U)(K:List Str)(o3:Option (Kd×U)):av:=[bD (.loc,.tup (rs.map B')),bD (k,W),bD (.own,lP K),o3]
def tW{rs ms:List Row}(h:rs.length+ms.length<=1000):IJ .add (.loc,.tup (rs.map B')) (.loc,.tup (ms.map B'))=bD (.loc,.tup ((rs++ms).map B')):=by
 have hsz:(1000:Nat)<=df:=by decide
 change(if (rs.map B').length+(ms.map B').length<=df then bD (kT .loc .loc,U.tup (rs.map B'++ms.map B')) else cb)=_;rw[Zm (by simp;lia),ki];rfl
end
section
abbrev tT:Fn:=⟨"not_learnt",1,1,[.ret (.KC cK (.call "words_of" [.var 0]) (.call "learnt" [.var 0]))]⟩
abbrev Suf(rs:List Row)(L:List Str):Prop:=∀x∈aG rs,Ln (wp rs L) x
def Suf.mono{M N:List Str}(h:∀x∈M,x∈N)(s:Suf rs M):Suf rs N:=λx b C c=>s x b C λr hr=>c r (by
 rcases i4.mp hr with hr|hr
 .show x2 _ hr
 .have⟨w,a,rfl⟩:=i7.mp hr;show kj _ (i7.mpr ⟨w,ko.mpr ⟨h w (ko.mp a).1,(ko.mp a).2⟩,rfl⟩))
abbrev O3:Fn:=⟨"_law_pictured",2,3,[.set 2 (.comp 1 cK .seq [.var 0] [.cmp .eq (.idx (.var 0) (.cst (.int 1))) (.tup [])] (.idx (.var 0) (.cst (.int 0)))),.ret (.bin .add (.bi .tuple [.var 0]) (.bi .tuple [.comp 1 cK .seq [.var 1] [.cmp .GG (.var 0) (.var 3)] (.tup [.var 0,.tup []])]))]⟩
def Fe(h:G4 Pg "_law_pictured" O3)(b:rs.length<=120)(hl:L.length<=40):GD Pg (d+1) "_law_pictured" [.tup (rs.map B'),.lst (L.map .str)]=bD (.ok (.loc,.tup ((wp rs L).map B'))):=by
 have c:=lg (λw=>cL (w∉heads rs)) L;have a:=qu (Γ:=GD Pg d) (st:=[bD (.loc,.tup (rs.map B')),bD (.any,.lst (L.map .str)),bD (.own,.lst ((heads rs).map .str))]) .lst (i:=1) (j:=2) (w:=.lst ((heads rs).map .str)) (H:=heads rs) hl rfl rfl λx=>la;show(aF h _).trans (aX rfl (.inr rfl) (Bw.lst.start 1) (ay (yn ⋯ rfl) a5 (bA (ba (cA (aa (ae rfl) af) trivial rfl) a trivial (tW (by rw[c4];lia))) dN)))
abbrev RK:Fn:=⟨"_law_suffice",2,2,[.ret (.cmp .eq (.bi .sorted [.call "_law_learnt" [.call "_law_pictured" [.var 0,.var 1]]]) (.call "_law_all" [.var 0]))]⟩
def Gg(f:G4 Pg "_law_pictured" O3)(i:G4 Pg "_law_learnt" AU)(j:G4 Pg "_law_all" AM)(h:G4 Pg "_law_suffice" RK){ws ws':List Str}(c:Bz ws rs)(hl:L.length<=40)(k:ws'.length<=40)(l:∀x∈ws,x∈ws')(m:∀x∈L,x∈ws'):
  ∃b,GD Pg (d+2) "_law_suffice" [.tup (rs.map B'),.lst (L.map .str)]=bD (.ok (.loc,.bl b))/\(JN rs L->(b=b6↔Suf rs L)):=by
 have⟨K,e,k1,k2⟩:=Fc (d:=d) (ix 40) i ws' (wp rs L) .loc _ .tup k (tV c.ok l m);have o:=k1.len;show⟨cL (aH K=aG rs),(aF h _).trans (aX rfl (.inr rfl) (Bw.lst.start 0) (bA (ju (x:=(.own,.lst ((aH K).map .str))) (cA (aa (aQ (aa (aQ (aa (ae rfl) (aa (aP rfl) af)) trivial (Fe f c.rl hl)) af) trivial e) af) trivial ?_) (aQ (aa (ae rfl) af) trivial (E9 j c.wl c.ok)) trivial iD) dN)),λz=>?_⟩
 .change(if K.length<64 then bD (Kd.own,U.lst ((aH K).map .str)) else cb)=_;rw[Zm ⋯]
 .rw[decide_eq_true_iff];constructor
  .intro g x a;show(Kn.mem k2).mp ((bN K).mem_iff.mp (g▸a))
  .intro g;show iJ ((Jf k1.1 (dy rs)).mpr λx=>⟨λa=>?_,λa=>(Kn.mem k2).mpr (g x a)⟩) (c_ _);have:=(Kn.mem k2).mp a (·∈aG (wp rs L)) λr n _=>bX.mpr (bQ.mpr ⟨r,n,.inl rfl⟩);show(iL z).mp this
end
section
abbrev By:Fn:=⟨"refuse_unknown",2,2,[.ite (.cmp .gt (.KC b6 (.var 1) (.call "words_of" [.var 0])) (.cst (.int 0))) [.bad] []]⟩
abbrev Ff:Fn:=⟨"with_pictures",2,4,[.exp (.call "refuse_unknown" [.var 0,.var 1]),.set 2 (.H_ cK),.GN cK [3] .seq [.var 0] Fd,.ret (.bin .add (.var 0) (.bi .tuple [.comp 1 cK .seq [.var 1] [.cmp .GG (.var 0) (.var 3)] (.tup [.var 0,.tup []])]))]⟩
abbrev BA:Fn:=⟨"suffice",2,2,[.ret (.cmp .eq (.call "not_learnt" [.call "with_pictures" [.var 0,.var 1]]) (.lst []))]⟩
structure rX(Pg:List Fn):Prop where
 L:KL.RJ Pg
 w:G4 Pg "words_of" rJ
 r:G4 Pg "refuse_unknown" By
 p:G4 Pg "with_pictures" Ff
 n:G4 Pg "not_learnt" KK.tT
 s:G4 Pg "suffice" BA
def Gh(H:rX Pg)(d:Nat)(c:Bz ws rs){W:U}(e:Bw L k W)(hl:L.length<=40)(hk:JN rs L):GD Pg (d+2) "refuse_unknown" [.tup (rs.map B'),W]=bD (.ok (.loc,.GC)):=by
 have i:=ff λr b=>(c.ok r b).ok;have Jn:=c.wl;have j:(aA (aG rs)).length<=(aG rs).length:=eM (b8 _) λx a=>by simpa[bO] using a
 have f:(aA L).length<=L.length:=eM (b8 _) λx a=>by simpa[bO] using a
 have g:GD Pg (d+1) "words_of" [.tup (rs.map B')]=bD (.ok (.own,.lst ((aG rs).map .str))):=(aF H.w _).trans (iG c.rl (λr b=>(c.ok r b).ok) ⋯);have hs:pK b6 (aA L) (aA (aG rs))=bD (.loc,.int (((aA L).filter λx=>cL (x∉aA (aG rs))).length:Nat)):=by
  unfold pK;rw[Zm ⟨⋯,⋯⟩,Zm rfl]
 have h:((aA L).filter λx=>cL (x∉aA (aG rs)))=[]:=by
  rw[KN];intro x a;have a:x∈L:=by simpa[bO] using a
  simpa[bO] using hk x a
 rw[h]at hs;have b:Run (ev (GD Pg (d+1)) (.KC b6 (.var 1) (.call "words_of" [.var 0]))) [bD (.loc,.tup (rs.map B')),bD (k,W)] _ _:=Bo (dQ e.kd rfl) (e.set ⋯) (aQ (aa (ae rfl) af) trivial g) (f_ ⋯) hs;show(aF H.r _).trans (vg rfl (e.start 0) (bP (aS b ai trivial (fN rfl)) az az))
def RM(H:rX Pg)(d:Nat)(b:Bz ws rs){W:U}(c:Bw L k W)(hl:L.length<=40)(z:JN rs L):GD Pg (d+3) "with_pictures" [.tup (rs.map B'),W]=bD (.ok (.loc,.tup ((wp rs L).map B'))):=by
 have hk:=c.kd;have o:=Gh H d b c hl z;obtain⟨st',s,K,o3,rfl,B,m,_⟩:=bI (rs:=[(.loc,.tup (rs.map B'))]) (t:=cK) (is:=[3]) (body:=execs (GD Pg (d+2)) Fd) (λr:Row=>(Kd.loc,B' r)) (λa q st=>∃K o3,st=rW rs k W K o3/\gW ws K/\(∀x,x∈K↔x∈heads a)/\∀r∈q,cT ws r)
  (λ_ _ _ _=>trivial) (λa y q st u=>by
   have⟨K,o3,e,g,n,h⟩:=u;subst e;have C:=g.len;have D:=b.wl;have f:Run (GU (GD Pg (d+2)) (.cmp .eq (.idx (.var 3) (.cst (.int 1))) (.tup []))) (rW rs k W K (bD (.loc,B' y))) (cL (y.2=[])) (rW rs k W K (bD (.loc,B' y))):=aS (bh (ae rfl) ai trivial (show gh (.loc,B' y) (.int 1)=bD (.loc,.tup (y.2.map .str)) from rfl)) (dq af trivial ax (i3 _)) trivial tQ;have v:heads (a++[y])=heads a++(if y.2=[] then [y.1] else []):=by
    unfold heads;rw[KQ,ki,D',Ol];by_cases e:y.2=[]<;>simp[e]
   rw[v];by_cases e:y.2=[]
   .rw[Zp e]at f;rw[Zm e];show⟨_,rW rs k W (eQ K y.1) (bD (.loc,B' y)),aI,fM f (iC (k:=.own) (k':=.own) ai rfl (bh (ae rfl) ai trivial (show gh (.loc,B' y) (.int 0)=bD (.loc,.str y.1) from rfl)) (au aE (au aE ax)) rfl rfl (jQ ⋯) az) az,eQ K y.1,_,rfl,g.ins (h y (by simp)).1,λx=>?_,λr l=>h r (by simp[l])⟩;rw[fP,n x,i4,hQ]
   .rw[Zo e]at f;rw[Zn e,ri];show⟨_,rW rs k W K (bD (.loc,B' y)),aI,bP f az az,K,_,rfl,g,n,λr l=>h r (by simp[l])⟩) rs [] (rW rs k W [] cb) ⟨[],cb,rfl,⟨.nil,by simp⟩,λx=>by simp[heads],b.ok⟩
 rw[i2]at m;have A:=qu (Γ:=GD Pg (d+2)) (st:=rW rs k W K o3) c (i:=1) (j:=2) (w:=lP K) (H:=heads rs) hl rfl rfl λx=>eO.trans (by simp[m x]);have G:=lg (λw=>cL (w∉heads rs)) L;show(aF H.p _).trans (aX rfl (.inr rfl) (c.start 2) (yb (aQ (aa (ae rfl) (aa (dQ hk rfl) af)) (cV (.inl rfl) (cV hk trivial)) o) (ay kZ a5 (cJ (rs:=[(.loc,.tup (rs.map B'))]) (aa (ae rfl) af) trivial jR rfl s (bA (ba (ae rfl) A trivial (tW (by rw[c4];have:=b.rl;lia))) dN)))))
def DA(a:Bz ws rs)(z:JN rs L)(h:rs.length+L.length<=120):Bz ws (wp rs L):=⟨a.wl,t4 oQ h,tV a.ok (λ_ h=>h) λx b=>a.in (z x b)⟩
def eS(a:Bz ws rs)(K:List Str):(KK.Gw rs K).length<=24:=by
 have c:(KK.Gw rs K).length<=(aG rs).length:=lg _ _;have d:=ff λr b=>(a.ok r b).ok;have:=a.wl;lia
def RN(H:rX Pg)(d:Nat)(a:Bz ws rs)(c:KL.Kn rs K)(hl:K.length<=24):GD Pg (d+6) "not_learnt" [.tup (rs.map B')]=bD (.ok (.own,.lst ((KK.Gw rs K).map .str))):=by
 have f:=ff λr b=>(a.ok r b).ok;have g:=a.wl;have e:GD Pg (d+5) "words_of" [.tup (rs.map B')]=bD (.ok (.own,.lst ((aG rs).map .str))):=(aF H.w _).trans (iG a.rl (λr b=>(a.ok r b).ok) ⋯);show(aF H.n _).trans (KK.ly ⋯ ⋯ e (KL.AS H.L d (λr b=>(a.ok r b).ok) a.wl a.rl c))
def cX:x∈KK.Gw rs K↔x∈aG rs/\x∉K:=by rw[KK.oO,bX]
def Gi(H:rX Pg)(d:Nat)(c:Bz ws rs){W:U}(e:Bw L k W)(hl:L.length<=40)(hz:rs.length+L.length<=120)(z:JN rs L):∃b,GD Pg (d+7) "suffice" [.tup (rs.map B'),W]=bD (.ok (.loc,.bl b))/\(b=b6↔Suf rs L):=by
 have hk:=e.kd;have f:=DA c z hz;have⟨K,h,j⟩:=Kn.some f.wl f.ok;have m:=j.len;have n:=c.wl;show⟨cL (KK.Gw (wp rs L) K=[]),(aF H.s _).trans (aX rfl (.inr rfl) (e.start 0) (bA (ju (aQ (aa (aQ (aa (ae rfl) (aa (dQ hk rfl) af)) (cV (.inl rfl) (cV hk trivial)) (RM H (d+3) c e hl z)) af) trivial (RN H d f h ⋯)) (bu af trivial ax (i3 _)) trivial (iD (b:=[]))) dN)),?_⟩;rw[decide_eq_true_iff,List.eq_nil_iff_forall_not_mem];constructor
 .intro g x i;show Lp λl=>g x (cX.mpr ⟨(iL z).mpr i,λy=>l ((Kn.mem h).mp y)⟩)
 .intro g x i;have⟨a,b⟩:=cX.mp i;show b ((Kn.mem h).mpr (g x ((iL z).mp a)))
def Kn.Fg(b:KL.Kn rs K):∀r∈rs,r.1∈KK.Gw rs K->∃x∈r.2,x∈KK.Gw rs K:=λr h hz=>by
 apply Lp;intro c;show(KK.oO.mp hz).2 (b.cl r h λx a=>?_);apply Lp;intro d;show c ⟨x,a,KK.oO.mpr ⟨bQ.mpr ⟨r,h,.inr a⟩,d⟩⟩
def Tw(H:rX Pg)(hk:G4 Pg "knot" KK.tU)(d:Nat)(a:Bz ws rs)(c:rs.length<=120)(b:KL.Kn rs K)(hl:K.length<=24):GD Pg (d+7) "knot" [.tup (rs.map B')]=bD (.ok (.own,.lst ((KK.oP (KK.Gw rs K) rs).map B'))) :=
 (aF hk _).trans (KK.yA c (λr h=>(a.ok r h).2.2.2) (KK.ji _ _) (by have:=eS a K;lia) (Kn.Fg b) (RN H d a b hl))
def Suf.Gw(g:KL.Kn rs K):Suf rs (KK.Gw rs K):=λx i C d=>by
 by_cases h:x∈K
 .show(Kn.mem g).mp h C λr e=>d r (x2 _ e)
 .by_cases f:x∈heads rs
  .have⟨r,e,rfl⟩:=i7.mp f;have⟨a,b⟩:=ko.mp e;show d r (x2 _ a) λy c=>by rw[Zr b]at c;cases c
  .show d (x,[]) (kj _ (i7.mpr ⟨x,ko.mpr ⟨cX.mpr ⟨i,h⟩,Zp f⟩,rfl⟩)) λy c=>by cases c
end
abbrev Hf:Nat->List Str->List (List Str)
 |0,_=>[[]]
 |_+1,[]=>[]
 |n+1,w::ws=>(Hf n ws).map (w::·)++Hf (n+1) ws
theorem jS:∀(n:Nat) (ws:List Str),(Hf n ws).length<=2 ^ ws.length
 |0,ws=>by simpa[Hf] using Nat.one_le_two_pow
 |n+1,[]=>by simp[Hf]
 |n+1,w::ws=>by
  have a:=jS n ws;have b:=jS (n+1) ws;simp only[Hf,hY,c4,js,Wy];lia
theorem gf:∀(n:Nat) (ws l:List Str),l∈Hf n ws->l.Sublist ws/\l.length=n
 |0,ws,l,h=>by
  simp only[Hf,hQ]at h;subst h;show⟨List.nil_sublist _,rfl⟩
 |n+1,[],l,h=>by simp[Hf]at h
 |n+1,w::ws,l,h=>by
  simp only[Hf,i4,i7]at h;rcases h with⟨m,c,rfl⟩|h
  .have⟨a,b⟩:=gf n ws m c;show⟨a.cons₂ w,by rw[js,b]⟩
  .have⟨a,b⟩:=gf (n+1) ws l h;show⟨a.cons w,b⟩
theorem jT:∀(ws l:List Str),l.Sublist ws->l∈Hf l.length ws
 |ws,[],_=>by simp[Hf]
 |[],x::l,h=>by cases h
 |w::ws,x::l,h=>by
  simp only[js,Hf,i4,i7];cases h with
  |cons _ h=>show .inr (jT ws (x::l) h)
  |cons_cons _ h=>show .inl ⟨l,jT ws l h,rfl⟩
def yC(a b:List α):cut (a++b) (bD (a.length:Nat)) cb=b:=by
 have c:HT.HY (a++b).length 0 (bD ((a.length:Nat):Int))=a.length:=by rw[HT.yU];simp
 have d:HT.HY (a++b).length (a++b).length cb=(a++b).length:=rfl;unfold cut;rw[c,d,List.drop_left,Kv (by simp)]
abbrev GH(l:List Str):U:=.lst (l.map .str)
section
abbrev Fh:List S:=[.app 2 (.bin .add (.lst [.var 4]) (.var 5))]
abbrev Tx:List S :=
   [.GN cK [5] .seq [.call "choices" [.JJ (.var 0) [.bin .add (.var 3) (.cst (.int 1))] [],.bin .sub (.var 1) (.cst (.int 1))]] Fh]
abbrev RO:Fn:=⟨"choices",2,6,[.ite (.cmp .eq (.var 1) (.cst (.int 0))) [.ret (.lst [.lst []])] [],.set 2 (.lst []),.GN b6 [3,4] .Kz [.var 0] Tx,.ret (.var 2)]⟩
abbrev qv(ws:List Str)(n:Int)(cs:List (List Str))(o3 o4 o5:Option (Kd×U)):av:=[bD (.any,.lst (ws.map .str)),bD (.loc,.int n),bD (.own,.lst (cs.map GH)),o3,o4,o5]
theorem BB(h:G4 Pg "choices" RO):∀(n:Nat) (ws:List Str) (d:Nat),ws.length<=24->2 ^ ws.length<=1000->GD Pg (d+n+1) "choices" [.lst (ws.map .str),.int (n:Nat)]=bD (.ok (.own,.lst ((Hf n ws).map GH)))
 |0,ws,d,_,_=>by
  have hsz:(1000:Nat)<=df:=by decide
  rw[show Hf 0 ws=[[]] by simp[Hf]];show(aF h _).trans (aX (st0:=[bD (.any,.lst (ws.map .str)),bD (.loc,.int (0:Nat)),cb,cb,cb,cb]) rfl (.inl rfl) rfl (lO (gT (aS (ae rfl) ai trivial (bC rfl)) (bA (bu (aa (bu af trivial ax (i3 _)) af) trivial (au k7 ax) (by change 1<=df;lia)) gz))))
 |n+1,ws,d,hl,z=>by
  have hsz:(1000:Nat)<=df:=by decide
  have o:Ih .Kz [(.any,.lst (ws.map .str))]=bD (ws.zipIdx.map λp:Str×Nat=>(Kd.any,U.tup [.int (p.2:Nat),.str p.1])):=by
   change bD ((ws.map U.str).zipIdx.map λp=>(kE .any,U.tup [.int p.2,p.1]))=_;rw[X5,i0];rfl
  have⟨st',A,cs,o3,o4,o5,a,b,rfl,i,g,f⟩:=bI (rs:=[(.any,.lst (ws.map .str))]) (t:=b6) (is:=[3,4]) (body:=execs (GD Pg (d+(n+1))) Tx) (λp:Str×Nat=>(Kd.any,U.tup [.int (p.2:Nat),.str p.1]))
   (λ_ r st=>∃cs o3 o4 o5 a b,st=qv ws ((n+1:Nat):Int) cs o3 o4 o5/\a++b=ws/\r=b.zipIdx a.length/\cs++Hf (n+1) b=Hf (n+1) ws) (λ_ _ _ _=>trivial) (λe y r st q=>by
    have⟨cs,o3,o4,o5,a,b,s,i,g,f⟩:=q;subst s;cases b with
    |nil=>cases g
    |cons w b =>
     rw[List.zipIdx_cons,L7]at g;have⟨rfl,rfl⟩:=g;have O:b.length+a.length+1=ws.length:=by rw[<-i];simp;lia
     have B:2 ^ b.length<=1000:=t4 (N4 ⋯ ⋯) z;have Q:cs.length+(Hf n b).length<=1000:=by
      have C:=Zq DD f;have T:=jS (n+1) ws;simp only[Hf,hY,c4]at C;lia
     have D:=BB h n b d ⋯ B;let S:=qv ws ((n+1:Nat):Int) cs (bD (.any,.int (a.length:Nat))) (bD (.any,.str w)) o5;have G:Run (ev (GD Pg (d+(n+1))) (.call "choices" [.JJ (.var 0) [.bin .add (.var 3) (.cst (.int 1))] [],.bin .sub (.var 1) (.cst (.int 1))])) S (.own,.lst ((Hf n b).map GH)) S:=by
      have s:cut ws (bD ((a.length:Nat)+1:Int)) cb=b:=by
       have:=yC (a++[w]) b;rw[PK,List.singleton_append,i,hY,u5,Int.natCast_add]at this;show this
      have v:lK (.any,.lst (ws.map .str)) (bD ((a.length:Nat)+1:Int)) cb=bD (.own,.lst (b.map .str)):=by
       rw[Ay (m8 (.inl rfl)),s]
      show aQ (aa (mQ (aP rfl) (kY (ba (aP rfl) ai trivial cm)) pZ trivial v) (aa (ba (ae rfl) ai trivial fy) af)) trivial (by
       change GD Pg (d+(n+1)) "choices" [.lst (b.map .str),.int (((n+1:Nat):Int) - 1)]=_;rw[show(((n+1:Nat):Int) - 1)=(n:Nat) by lia];show D)
     have⟨st2,H,Y,m,rfl,j⟩:=bI (rs:=[(.own,.lst ((Hf n b).map GH))]) (t:=cK) (is:=[5]) (body:=execs (GD Pg (d+(n+1))) Fh) (λl:List Str=>(Kd.loc,GH l))
      (λm r st=>∃o5 x,st=qv ws ((n+1:Nat):Int) (cs++m.map (w::·)) (bD (.any,.int (a.length:Nat))) (bD (.any,.str w)) o5/\x=m/\m++r=Hf n b) (λ_ _ _ _=>trivial) (λm l r st q=>by
       obtain⟨o5,x,v,_,j⟩:=q;subst v;have UX:m.length<(Hf n b).length:=by rw[<-j];simp
       have O4:l.length=n/\l.length<=24:=by
        have⟨I,J⟩:=gf n b l (by rw[<-j];simp);have:=I.length_le;show⟨J,⋯⟩
       show⟨qv ws ((n+1:Nat):Int) (cs++m.map (w::·)) (bD (.any,.int (a.length:Nat))) (bD (.any,.str w)) (bD (.loc,GH l)),qv ws ((n+1:Nat):Int) (cs++(m++[l]).map (w::·)) (bD (.any,.int (a.length:Nat))) (bD (.any,.str w)) (bD (.loc,GH l)),aI,?_,_,_,rfl,rfl,by rw[<-j];simp⟩;have L:Run (ev (GD Pg (d+(n+1))) (.bin .add (.lst [.var 4]) (.var 5))) (qv ws ((n+1:Nat):Int) (cs++m.map (w::·)) (bD (.any,.int (a.length:Nat))) (bD (.any,.str w)) (bD (.loc,GH l))) (.own,GH (w::l)) _:=ba (bu (aa (aP rfl) af) trivial (au (k8 rfl) ax) (by change 1<=df;lia)) (ae rfl) trivial (iE (by change 1+(l.map U.str).length<=df;rw[c4];lia) rfl rfl);show gA (k:=.own) (k':=.own) rfl L k7 rfl rfl (by simp;lia) ?_;rw[show(cs++m.map (w::·)).map GH++[GH (w::l)]=(cs++(m++[l]).map (w::·)).map GH by simp];show az) (Hf n b) [] (qv ws ((n+1:Nat):Int) cs (bD (.any,.int (a.length:Nat))) (bD (.any,.str w)) o5) ⟨o5,[],by simp,rfl,by simp⟩
     rw[i2]at *;show⟨S,_,jx (.inr rfl),cJ (rs:=[(.own,.lst ((Hf n b).map GH))]) (aa G af) trivial (by change bD (((Hf n b).map GH).map λu=>(kE .own,u))=_;rw[i0];rfl) rfl H az,_,_,_,_,a++[w],b,rfl,by rw[<-i];simp,by simp,?_⟩;rw[PK,<-f];rfl) ws.zipIdx [] (qv ws ((n+1:Nat):Int) [] cb cb cb) ⟨[],cb,cb,cb,[],ws,rfl,rfl,rfl,rfl⟩
  have N:b=[]:=by
   cases b with
   |nil=>rfl
   |cons w b=>cases g
  subst N;have f:cs=Hf (n+1) ws:=by rw[<-f];simp[Hf]
  subst f;show(aF h _).trans (aX (st0:=[bD (.any,.lst (ws.map .str)),bD (.loc,.int ((n+1:Nat):Int)),cb,cb,cb,cb]) rfl (.inl rfl) rfl (bP (aS (ae rfl) ai trivial (bC (c:=cK) (by simp;lia))) az (ay (bu af trivial ax (i3 _)) a5 (cJ (rs:=[(.any,.lst (ws.map .str))]) (aa (aP rfl) af) trivial o rfl A (bA (aD rfl) (jw rfl))))))
end
section
def Fi(h:st[i]?=bD (bD (.loc,.int m)))(b:Run (execs Γ c) (st.set i (bD (.loc,.int (m+n)))) d st1):Run (execs Γ (.inc i n::c)) st d st1 :=
 eL (ab (dM h (by intro z;cases z)) (ab (a:=m) (st1:=st) rfl (ab aI aV))) b
def DB(h:HK 50 (.lst us)=b6):cO .eq (.lst us) (.lst [])=bD us.isEmpty:=by
 simp only[cO];rw[Zm ⟨h,by simp[HK,dc]⟩];cases us with
 |_=>simp[cn,cE]
theorem tX:∀(cs:List (List Str)) (n:Nat),dc (n+1) (cs.map GH)=b6
 |[],n=>by simp[dc]
 |l::cs,n=>by
  have a:=tX cs n;have b:=gU l n;simp only[eH,dc,cc];show⟨b,a⟩
def AX{cs:List (List Str)}:cO .eq (.lst (cs.map GH)) (.lst [])=bD cs.isEmpty:=by
 rw[DB (by change dc 49 (cs.map GH)=b6;show tX cs 48)];cases cs<;>rfl
abbrev RP:List S :=
   [.set 3 (.comp 1 cK .seq [.call "choices" [.var 1,.var 2]] [.call "suffice" [.var 1,.var 0]] (.var 0)),
   .inc 2 1]
abbrev RQ:Fn:=⟨"fewest_words",2,4,[.set 2 (.cst (.int 0)),.set 3 (.lst []),.Kh (.cmp .eq (.var 3) (.lst [])) RP,.ret (.idx (.var 3) (.cst (.int 0)))]⟩
abbrev oR(rs:List Row)(ws:List Str)(m:Int)(cs:List (List Str)):av:=[bD (.loc,.tup (rs.map B')),bD (.any,.lst (ws.map .str)),bD (.loc,.int m),bD (.own,.lst (cs.map GH))]
abbrev dS(rs:List Row)(l:List Str):Bool:=@cL (Suf rs l) (TK _)
def yD:dS rs l=b6↔Suf rs l:=@decide_eq_true_iff _ (TK _)
abbrev Jh(rs:List Row)(ws:List Str)(m:Nat):List (List Str):=(Hf m ws).filter (dS rs)
def oS:l∈Jh rs ws m↔l∈Hf m ws/\Suf rs l:=by
 unfold Jh;rw[ko,yD]
structure RS(Γ:Tab)(rs:List Row)(ws:List Str):Prop where
 len:2 ^ ws.length<=1000
 ch:∀m,m<=ws.length->Γ "choices" [.lst (ws.map .str),.int (m:Nat)]=bD (.ok (.own,.lst ((Hf m ws).map GH)))
 sf:∀l,l.Sublist ws->∃b,Γ "suffice" [.tup (rs.map B'),GH l]=bD (.ok (.loc,.bl b))/\(b=b6↔Suf rs l)
 all:Suf rs ws
def AY(H:RS Γ rs ws)(c:m<=ws.length):Run (execs Γ RP) (oR rs ws (m:Nat) cs) .nx (oR rs ws ((m:Nat)+1) (Jh rs ws m)):=by
 have hsz:(1000:Nat)<=df:=by decide
 have f:=jS m ws;have hl:=H.len;have a:=fc (cond:=aU Γ [.call "suffice" [.var 1,.var 0]]) (elt:=ev Γ (.var 0)) (src:=[(.own,.lst ((Hf m ws).map GH))]) (st:=oR rs ws (m:Nat) cs) trivial .loc (.inl rfl) GH GH (dS rs) .loc (Hf m ws) [] (by simp;lia)
  (λl hl=>by
   have⟨b,d,e⟩:=H.sf l (gf m ws l hl).1;have:b=dS rs l:=G7.mpr (e.trans yD.symm);subst this;show⟨cB (xI (aa (ae rfl) (aa (ae rfl) af)) trivial d rfl),λ_=>⟨ae rfl,aE⟩⟩)
 rw[i2]at a;have q:Run (ev Γ (.comp 1 cK .seq [.call "choices" [.var 1,.var 2]] [.call "suffice" [.var 1,.var 0]] (.var 0))) (oR rs ws (m:Nat) cs) (.own,.lst ((Jh rs ws m).map GH)) (oR rs ws (m:Nat) cs) :=
  cC (rs:=[(.own,.lst ((Hf m ws).map GH))]) (aa (aQ (aa (aP rfl) (aa (ae rfl) af)) trivial (H.ch m c)) af) trivial (by change bD (((Hf m ws).map GH).map λu=>(kE .own,u))=_;rw[i0];rfl) a
 show ay q a5 (Fi rfl az)
theorem tY(H:RS Γ rs ws):∀(f m:Nat),m<=ws.length->ws.length - m+1<f->(∀j,j<m->Jh rs ws j=[])->∃d,d<=ws.length/\Jh rs ws d≠[]/\(∀j,j<d->Jh rs ws j=[])/\Run (fu (GU Γ (.cmp .eq (.var 3) (.lst []))) (execs Γ RP) (f+1)) (oR rs ws (m:Nat) []) .nx (oR rs ws ((d:Nat)+1) (Jh rs ws d))
 |0,m,_,h,_=>by lia
 |f+1,m,l,h,n=>by
  have k:∀(i:Int) (cs:List (List Str)),Run (GU Γ (.cmp .eq (.var 3) (.lst []))) (oR rs ws i cs) cs.isEmpty (oR rs ws i cs):=λi cs=>aS (aD rfl) (bu af trivial ax (i3 _)) ⟨⟨.own,rfl,rfl⟩,trivial⟩ AX;have q:=AY H l (cs:=[]);by_cases g:Jh rs ws m=[]
  .have s:m<ws.length:=by
    rcases YU m ws.length with h1|h1
    .show h1
    .have:m=ws.length:=by lia
     subst this;have:ws∈Jh rs ws ws.length:=oS.mpr ⟨jT ws ws (Y5 _),H.all⟩;rw[g]at this;cases this
   rw[g]at q;have⟨d,a,b,c,r⟩:=tY H f (m+1) ⋯ ⋯ λj t=>by
    by_cases e:j=m
    .subst e;show g
    .show n j ⋯
   show⟨d,a,b,c,qd (k _ []) q r⟩
  .have p:(Jh rs ws m).isEmpty=cK:=by
    cases h:Jh rs ws m with
    |nil=>show absurd h g
    |cons _ _=>rfl
   have o:=k ((m:Nat)+1) (Jh rs ws m);rw[p]at o;show⟨m,l,g,n,qd (k _ []) q (mT o)⟩
structure Mg(rs:List Row)(ws l:List Str):Prop where
 sub:l.Sublist ws
 Ws:Suf rs l
 min:∀l',l'.Sublist ws->Suf rs l'->l.length<=l'.length
def Gj(H:RS Γ rs ws):∃l,dF Γ RQ [.tup (rs.map B'),.lst (ws.map .str)]=bD (.ok (.loc,GH l))/\Mg rs ws l:=by
 have⟨m,i,b,c,r⟩:=tY H 999999999999 0 ⋯ (by have:=H.len;have:ws.length<2 ^ ws.length:=Nat.lt_two_pow_self;lia) (λj h=>by lia);cases a:Jh rs ws m with
 |nil=>show absurd a b
 |cons l cs =>
  have hl:=oS.mp (show l∈Jh rs ws m by rw[a];simp);rw[a]at r;show⟨l,aX (st0:=[bD (.loc,.tup (rs.map B')),bD (.any,.lst (ws.map .str)),cb,cb]) rfl (.inr rfl) ?_ (ay ai aI (ay (bu af trivial ax (i3 _)) a5 (qe r (bA (bh (aD rfl) ai ⟨⟨.own,rfl,rfl⟩,trivial⟩ (bW (show Hm ((l::cs).map GH) ((0:Nat):Int)=_ from dY rfl))) dN)))),(gf m ws l hl.1).1,hl.2,λd e f=>?_⟩
  .change [bD (if GP (.tup (rs.map B'))=b6 then Kd.loc else Kd.any,U.tup (rs.map B')),bD (Kd.any,U.lst (ws.map .str)),cb,cb]=_;rw[bY]
  .rw[(gf m ws l hl.1).2];show X4 λg=>?_;have:=oS.mpr ⟨jT ws d e,f⟩;rw[c _ g]at this;cases this
end
section
abbrev Fj:E:=.comp 1 cK .seq [.var 3] [] (.tup [.idx (.var 0) (.cst (.int 0)),.call "paper" [.var 1,.bin .add (.var 2) (.lst [.idx (.var 0) (.cst (.int 0))]),.bin .sub (.var 3) (.cst (.int 1))]])
abbrev DC:Fn:=⟨"paper",3,4,[.set 3 (.call "knot" [.call "with_pictures" [.var 0,.var 1]]),.ite (.cmp .eq (.var 2) (.cst (.int 0))) [.ret (.tup [.var 3,.tup []])] [],.ret (.tup [.var 3,.bi .tuple [Fj]])]⟩
abbrev N5(rs P:List Row):Prop:=∃K,KL.Kn rs K/\P=KK.oP (KK.Gw rs K) rs
inductive MM(rs:List Row):List Str->Nat->U->Prop
 |zero {gv:List Str} {P:List Row}:N5 (wp rs gv) P->MM rs gv 0 (.tup [.lst (P.map B'),.tup []])
 |succ {gv:List Str} {n:Nat} {P:List Row} (g:Row->U):N5 (wp rs gv) P->(∀p∈P,MM rs (gv++[p.1]) n (g p))->MM rs gv (n+1) (.tup [.lst (P.map B'),.tup (P.map λp=>.tup [.str p.1,g p])])
def N5.word(hk:JN rs a)(h:N5 (wp rs a) P):∀p∈P,p.1∈aG rs:=λp b=>by
 obtain⟨K,_,rfl⟩:=h;have⟨x,c,rfl⟩:=i7.mp b;show(iL hk).mp (cX.mp c).1
def Fm(H:rX Pg)(hk:G4 Pg "knot" KK.tU)(h:G4 Pg "paper" DC)(j:Bz ws rs):∀(n:Nat) (f:List Str) (d:Nat),rs.length+f.length+n<=100->f.length+n<=40->JN rs f->∃u,GD Pg (d+n+8) "paper" [.tup (rs.map B'),.lst (f.map .str),.int (n:Nat)]=bD (.ok (.loc,u))/\MM rs f n u:=by
 have hsz:(1000:Nat)<=df:=by decide
 intro n;induction n with
 |zero =>
  intro f d v w hz;have i:=DA j hz ⋯;have⟨K,l,m⟩:=Kn.some i.wl i.ok;have y:=m.len;have A:=j.wl;have q:=Tw H hk d i (t4 oQ ⋯) l ⋯;show⟨_,(aF h _).trans (aX (st0:=[bD (.loc,.tup (rs.map B')),bD (.any,.lst (f.map .str)),bD (.loc,.int (0:Nat)),cb]) rfl (.inr rfl) ?_ (ay (aQ (aa (aQ (aa (ae rfl) (aa (aP rfl) af)) trivial (RM H (d+4) j .lst ⋯ hz)) af) trivial q) a5 (lO (gT (aS (ae rfl) ai trivial (bC rfl)) (bA (dq (aa (aD rfl) (aa (dq af trivial ax (i3 _)) af)) ⟨⟨.own,rfl,rfl⟩,trivial⟩ (au (tN rfl) (au aE ax)) (by change 2<=df;lia)) dN))))),.zero ⟨K,l,rfl⟩⟩;change [bD (if GP (.tup (rs.map B'))=b6 then Kd.loc else Kd.any,U.tup (rs.map B')),bD (Kd.any,U.lst (f.map .str)),bD (Kd.loc,U.int (0:Nat)),cb]=_;rw[bY]
 |succ n B =>
  intro f d v w hz;have i:=DA j hz ⋯;have⟨K,l,m⟩:=Kn.some i.wl i.ok;have y:=m.len;have A:=j.wl;have q:=Tw H hk (d+n+1) i (t4 oQ ⋯) l ⋯;have r:N5 (wp rs f) (KK.oP (KK.Gw (wp rs f) K) (wp rs f)):=⟨K,l,rfl⟩
  have C:(KK.oP (KK.Gw (wp rs f) K) (wp rs f)).length<=24:=by
   unfold KK.oP;rw[c4];show eS i K
  generalize KK.oP (KK.Gw (wp rs f) K) (wp rs f)=P at q r C;have D:=r.word hz;have G:∀p:Row,∃u,p∈P->GD Pg (d+n+8) "paper" [.tup (rs.map B'),.lst ((f++[p.1]).map .str),.int (n:Nat)]=bD (.ok (.loc,u))/\MM rs (f++[p.1]) n u:=λp=>by
   by_cases k:p∈P
   .have⟨u,a,b⟩:=B (f++[p.1]) d (by simp;lia) (by simp;lia) λx hx=>by
     rcases i4.mp hx with hx|hx
     .show hz x hx
     .rw[hQ]at hx;subst hx;show D p k
    show⟨u,λ_=>⟨a,b⟩⟩
   .show⟨.GC,λz=>absurd z k⟩
  have⟨g,s⟩:=Classical.axiomOfChoice G;let S:Option (Kd×U)->av:=λo=>[bD (.loc,.tup (rs.map B')),bD (.any,.lst (f.map .str)),bD (.loc,.int ((n+1:Nat):Int)),o]
  have hx:=jd (cond:=aU (GD Pg (d+(n+1)+7)) []) (elt:=ev (GD Pg (d+(n+1)+7)) (.tup [.idx (.var 0) (.cst (.int 0)),.call "paper" [.var 1,.bin .add (.var 2) (.lst [.idx (.var 0) (.cst (.int 0))]),.bin .sub (.var 3) (.cst (.int 1))]])) (src:=[(.bor 3,.lst (P.map B'))]) (st:=S (bD (.own,.lst (P.map B')))) ⟨⟨.own,rfl,rfl⟩,trivial⟩ .loc (.inl rfl) B' (λp=>.tup [.str p.1,g p]) .loc (λ_=>k9) P [] (by simp;lia)
   (λp k=>by
    have t:∀st',Run (ev (GD Pg (d+(n+1)+7)) (.idx (.var 0) (.cst (.int 0)))) (bD (.loc,B' p)::st') (.loc,.str p.1) (bD (.loc,B' p)::st'):=λst'=>bh (ae rfl) ai trivial (show gh (.loc,B' p) (.int 0)=bD (.loc,.str p.1) from rfl);have ad:IJ .add (.any,.lst (f.map .str)) (.own,.lst [.str p.1])=bD (.own,.lst ((f++[p.1]).map .str)):=by
     rw[iE (by change(f.map U.str).length+1<=df;rw[c4];lia) (m8 (.inl rfl)) rfl,ki];rfl
    have e:=(s p k).1;have I:GD Pg (d+(n+1)+7) "paper" [.tup (rs.map B'),.lst ((f++[p.1]).map .str),.int (((n+1:Nat):Int) - 1)]=bD (.ok (.loc,g p)):=by
     rw[show(((n+1:Nat):Int) - 1)=(n:Nat) by lia,show d+(n+1)+7=d+n+8 by lia];show e
    show⟨dq (aa (t _) (aa (aQ (aa (ae rfl) (aa (ba (aP rfl) (bu (aa (t _) af) trivial (au aE ax) (by change 1<=df;lia)) trivial ad) (aa (ba (ae rfl) ai trivial fy) af))) trivial I) af)) trivial (au aE (au aE ax)) (by change 2<=df;lia),aE⟩)
  rw[i2]at hx;have J:Run (ev (GD Pg (d+(n+1)+7)) Fj) (S (bD (.own,.lst (P.map B')))) (.own,.lst (P.map λp=>.tup [.str p.1,g p])) (S (bD (.own,.lst (P.map B')))):=cC (rs:=[(.bor 3,.lst (P.map B'))]) (aa (aD rfl) af) ⟨⟨.own,rfl,rfl⟩,trivial⟩ (by change bD ((P.map B').map λu=>(kE (.bor 3),u))=_;rw[i0];rfl) hx;show⟨_,(aF h _).trans (aX (st0:=S cb) rfl (.inr rfl) ?_ (ay (aQ (aa (aQ (aa (ae rfl) (aa (aP rfl) af)) trivial (RM H (d+(n+1)+4) j .lst ⋯ hz)) af) trivial (by rw[show d+(n+1)+7=d+n+1+7 by lia];show q)) a5 (bP (aS (ae rfl) ai trivial (bC (c:=cK) (by simp;lia))) az (bA (dq (aa (aD rfl) (aa (cA (aa J af) trivial rfl) af)) ⟨⟨.own,rfl,rfl⟩,trivial⟩ (au (tN rfl) (au aE ax)) (by change 2<=df;lia)) dN)))),.succ g r λp k=>(s p k).2⟩;change [bD (if GP (.tup (rs.map B'))=b6 then Kd.loc else Kd.any,U.tup (rs.map B')),bD (Kd.any,U.lst (f.map .str)),bD (Kd.loc,U.int ((n+1:Nat):Int)),cb]=_;rw[bY]
end
section
abbrev Fo:Fn:=⟨"fewest",1,3,[.set 1 (.call "not_learnt" [.var 0]),.ite (.cmp .gt (.bi .len [.var 1]) (.LF "MOST_NOT_LEARNT" (.int 5))) [.bad] [],.set 2 (.call "fewest_words" [.var 0,.var 1]),.ite (.cmp .eq (.var 2) (.lst [])) [.ret (.tup [.var 2,.cst .GC])] [],.ret (.tup [.var 2,.call "paper" [.var 0,.lst [],.bin .sub (.bi .len [.var 2]) (.cst (.int 1))]])]⟩
structure Tz(Pg:List Fn):Prop where
 P:rX Pg
 k:G4 Pg "knot" KK.tU
 c:G4 Pg "choices" RO
 f:G4 Pg "fewest_words" RQ
 p:G4 Pg "paper" DC
 t:G4 Pg "fewest" Fo
inductive O5(rs:List Row)(ws:List Str):U->Prop
 |nil:Mg rs ws []->O5 rs ws (.tup [.lst [],.GC])
 |cons {x:Str} {l:List Str} {v:U}:Mg rs ws (x::l)->MM rs [] l.length v->O5 rs ws (.tup [GH (x::l),v])
def Fp(H:Tz Pg)(d:Nat)(e:Bz ws rs)(J:rs.length<=90)(i:KL.Kn rs K)(y:K.length<=24)(h:(KK.Gw rs K).length<=5):
  ∃u,GD Pg (d+13) "fewest" [.tup (rs.map B')]=bD (.ok (.loc,u))/\O5 rs (KK.Gw rs K) u:=by
 have hsz:(1000:Nat)<=df:=by decide
 have j:start [.tup (rs.map B')] 3=[bD (.loc,.tup (rs.map B')),cb,cb]:=Zq (λx:Option (Kd×U)=>[x,cb,cb]) (bY rs);have n:GD Pg (d+12) "not_learnt" [.tup (rs.map B')]=bD (.ok (.own,.lst ((KK.Gw rs K).map .str))):=RN H.P (d+6) e i y;have z:∀o:Option (Kd×U),Run (GU (GD Pg (d+12)) (.cmp .gt (.bi .len [.var 1]) (.LF "MOST_NOT_LEARNT" (.int 5)))) [bD (.loc,.tup (rs.map B')),bD (.own,.lst ((KK.Gw rs K).map .str)),o] (cL (5<(KK.Gw rs K).length)) [bD (.loc,.tup (rs.map B')),bD (.own,.lst ((KK.Gw rs K).map .str)),o]:=λo=>aS (cA (aa (aD rfl) af) ⟨⟨.own,rfl,rfl⟩,trivial⟩ bG) ES trivial (fN (by rw[c4];simp;lia));have A:JN rs (KK.Gw rs K):=λx a=>(cX.mp a).1;have g:=z cb;rw[Zo ⋯]at g;have q:2 ^ (KK.Gw rs K).length<=1000:=t4 (N4 ⋯ h) (by decide);have⟨l,B,hl⟩:=Gj (Γ:=GD Pg (d+11)) (rs:=rs) (ws:=KK.Gw rs K) ⟨q,λm L=>by
   have:=BB H.c m (KK.Gw rs K) (d+10 - m) ⋯ q;rw[show d+10 - m+m+1=d+11 by lia]at this;show this,λl hl=>Gi H.P (d+4) e .lst (by have:=hl.length_le;lia) (by have:=hl.length_le;lia) λx a=>A x (hl.subset a),Suf.Gw i⟩
 have C:GD Pg (d+12) "fewest_words" [.tup (rs.map B'),.lst ((KK.Gw rs K).map .str)]=bD (.ok (.loc,GH l)):=(aF H.f _).trans B;have D:=hl.sub.length_le;have r:Run (ev (GD Pg (d+12)) (.call "fewest_words" [.var 0,.var 1])) [bD (.loc,.tup (rs.map B')),bD (.own,.lst ((KK.Gw rs K).map .str)),cb] (.loc,GH l) [bD (.loc,.tup (rs.map B')),bD (.own,.lst ((KK.Gw rs K).map .str)),cb]:=aQ (aa (ae rfl) (aa (aD rfl) af)) (by show⟨⟨.own,rfl,rfl⟩,trivial⟩) C;have s:Run (GU (GD Pg (d+12)) (.cmp .eq (.var 2) (.lst []))) [bD (.loc,.tup (rs.map B')),bD (.own,.lst ((KK.Gw rs K).map .str)),bD (.loc,GH l)] (cL (l=[])) [bD (.loc,.tup (rs.map B')),bD (.own,.lst ((KK.Gw rs K).map .str)),bD (.loc,GH l)]:=aS (ae rfl) (bu af trivial ax (i3 _)) trivial (iD (b:=[]));cases l with
 |nil=>show⟨_,(aF H.t _).trans (aX rfl (.inr rfl) j (ay (aQ (aa (ae rfl) af) trivial n) a5 (bP g az (ay r aI (lO (gT s (bA (dq (aa (ae rfl) (aa ai af)) trivial (au aE (au aE ax)) (by change 2<=df;lia)) dN))))))),.nil hl⟩
 |cons x l =>
  rw[js]at D;have⟨v,w,G⟩:=Fm H.P H.k H.p e l.length [] (d+4 - l.length) (by simp;lia) (by simp;lia) (λx a=>by cases a);rw[show d+4 - l.length+l.length+8=d+12 by lia]at w;have I:GD Pg (d+12) "paper" [.tup (rs.map B'),.lst [],.int ((((x::l).map U.str).length:Nat) - 1)]=bD (.ok (.loc,v)):=by
   rw[show((((x::l).map U.str).length:Nat):Int) - 1=(l.length:Nat) by simp];show w
  show⟨_,(aF H.t _).trans (aX rfl (.inr rfl) j (ay (aQ (aa (ae rfl) af) trivial n) a5 (bP g az (ay r aI (bP s az (bA (dq (aa (ae rfl) (aa (aQ (aa (ae rfl) (aa (bu af trivial ax (i3 _)) (aa (ba (cA (aa (ae rfl) af) trivial bG) ai trivial fy) af))) trivial I) af)) trivial (au aE (au aE ax)) (by change 2<=df;lia)) dN)))))),.cons hl G⟩
end
section
def DE(h:x∈L):Ln (wp rs L) x:=λC d=>by
 by_cases e:x∈heads rs
 .have⟨r,f,rfl⟩:=i7.mp e;have⟨a,b⟩:=ko.mp f;show d r (x2 _ a) λy c=>by rw[Zr b]at c;cases c
 .show d (x,[]) (kj _ (i7.mpr ⟨x,ko.mpr ⟨h,Zp e⟩,rfl⟩)) λy c=>by cases c
def Fq(h:Ln rs x):Ln (wp rs L) x:=λC a=>h C λr b=>a r (x2 _ b)
def vh(z:JN rs L):aG (wp rs L)=aG rs:=by
 have a:aH (aG (wp rs L))=aG rs:=iJ ((Jf (dy _) (dy _)).mpr λx=>iL z) (c_ _);have b:aH (aG (wp rs L))=aG (wp rs L):=iJ (JI _) (c_ _);show b.symm.trans a
structure J'(ws:List Str)(rs:List Row)(K:List Str):Prop where
 wl:ws.length<=24
 ok:∀r∈rs,cT ws r
 rl:rs.length+(KK.Gw rs K).length<=84
 kn:KL.Kn rs K
 ks:gW ws K
def J'.z(h:J' ws rs K):Bz ws rs:=⟨h.wl,by have:=h.rl;lia,h.ok⟩
def J'.next(h:J' ws rs K)(d:x∈KK.Gw rs K)(k1:KL.Kn (wp rs [x]) a)(k2:gW ws a):J' ws (wp rs [x]) a/\((KK.Gw rs K).filter λy=>!cL (y∈a))=KK.Gw (wp rs [x]) a/\(KK.Gw (wp rs [x]) a).length<(KK.Gw rs K).length:=by
 have hz:JN rs [x]:=λy b=>by rw[hQ]at b;subst b;show(cX.mp d).1
 have e:((KK.Gw rs K).filter λy=>!cL (y∈a))=KK.Gw (wp rs [x]) a:=by
  unfold KK.Gw;rw[vh hz,Xl];show PH λy _=>?_;by_cases c:y∈a
  .simp[c]
  .have:y∉K:=λz=>c ((Kn.mem k1).mpr (Fq ((Kn.mem h.kn).mp z)));simp[c,this]
 have hl:(KK.Gw (wp rs [x]) a).length<(KK.Gw rs K).length:=by
  rw[<-e,List.length_filter_lt_length_iff_exists];show⟨x,d,by simpa using(Kn.mem k1).mpr (DE (by simp))⟩
 have f:=oQ (rs:=rs) (L:=[x]);have g:=h.rl;rw[u5]at f;show⟨⟨h.wl,tV h.ok (λ_ h=>h) λy b=>h.z.in (hz y b),⋯,k1,k2⟩,e,hl⟩
abbrev yE:List S :=
   [.set 1 (.call "_law_pictured" [.var 1,.lst [.idx (.var 4) (.Gq "_law_draw" [.var 0,.bi .len [.var 4]] [0])]]),
   .set 3 (.call "_law_learnt" [.var 1]),
   .set 4 (.comp 1 cK .seq [(.var 4)] [(.cmp .GG (.var 0) (.var 4))] (.var 0))]
abbrev Gk:List S :=
   [.set 3 (.call "_law_learnt" [.var 1]),
    .set 4 (.comp 1 cK .seq [.call "_law_all" [.var 1]] [.cmp .GG (.var 0) (.var 4)] (.var 0)),
    .Kh (.cmp .gt (.bi .len [.var 4]) (.var 2)) yE,
    .ret (.tup [(.var 1),(.var 4)])]
abbrev DF:Fn:=⟨"_law_cut",3,5,.JK [0]::Gk⟩
abbrev gp(u:U)(rs:List Row)(most:Int)(K:List Str)(o4:Option (Kd×U)):av:=[bD (.io,u),bD (.loc,.tup (rs.map B')),bD (.loc,.int most),bD (.own,lP K),o4]
def tZ{Z K:List Str}(hl:Z.length<=1000)(hs:Run (ev Γ src) (gp u rs most K o4) (k,.lst (Z.map .str)) (gp u rs most K o4))(a:a9 [(k,.lst (Z.map .str))] (gp u rs most K o4))(c:Ih .seq [(k,.lst (Z.map .str))]=bD (Z.map λx=>(Kd.loc,U.str x))):
  Run (ev Γ (.comp 1 cK .seq [src] [.cmp .GG (.var 0) (.var 4)] (.var 0))) (gp u rs most K o4) (.own,.lst ((Z.filter λy=>!cL (y∈K)).map .str)) (gp u rs most K o4):=by
 have hsz:(1000:Nat)<=df:=by decide
 have b:=fc (cond:=aU Γ [.cmp .GG (.var 0) (.var 4)]) (elt:=ev Γ (.var 0)) (src:=[(k,.lst (Z.map .str))]) (st:=gp u rs most K o4) a .loc (.inl rfl) U.str U.str (λy=>!cL (y∈K)) .loc Z [] (by simp;lia)
  (λx _=>⟨cB (aS (ae rfl) (aD rfl) ⟨⟨.own,rfl,rfl⟩,trivial⟩ eO),λ_=>⟨ae rfl,aE⟩⟩)
 rw[i2]at b;show cC (rs:=[(k,.lst (Z.map .str))]) (aa hs af) a c b
structure RT(Γ:Tab):Prop where
 d:bK Γ
 l:Gf Γ
 a:∀ws rs,Bz ws rs->Γ "_law_all" [.tup (rs.map B')]=bD (.ok (.own,.lst ((aG rs).map .str)))
 p:∀(rs:List Row) (L:List Str),rs.length<=120->L.length<=40->Γ "_law_pictured" [.tup (rs.map B'),.lst (L.map .str)]=bD (.ok (.loc,.tup ((wp rs L).map B')))
def yF(G:RT Γ)(h:J' ws rs K)(s:Src T u)(H:T+2<2 ^ 62)(I:0<(KK.Gw rs K).length):
  ∃b a u',Run (execs Γ yE) (gp u rs most K (bD (.own,.lst ((KK.Gw rs K).map .str)))) .nx (gp u' b most a (bD (.own,.lst ((KK.Gw b a).map .str))))/\J' ws b a/\(KK.Gw b a).length<(KK.Gw rs K).length/\Src (T+1) u':=by
 have hsz:(1000:Nat)<=df:=by decide
 have J:=eS h.z K;have⟨n,f,t,w,A,s1⟩:=d0 (Γ:=Γ) (st:=gp u rs most K (bD (.own,.lst ((KK.Gw rs K).map .str)))) G.d (i:=0) (k:=.io) (e:=.bi .len [.var 4]) (m:=(((KK.Gw rs K).map U.str).length:Nat)) rfl rfl (cA (aa (aD rfl) af) (by show⟨⟨.own,rfl,rfl⟩,trivial⟩) bG) s ⋯ (by simp;lia) (by simp;lia);rw[c4]at A;have o:n.toNat<(KK.Gw rs K).length:=by lia
 have q:Hm ((KK.Gw rs K).map U.str) n=bD (.str (KK.Gw rs K)[n.toNat]):=by
  have:=dY (xs:=(KK.Gw rs K).map U.str) (j:=n.toNat) (v:=.str (KK.Gw rs K)[n.toNat]) (by simp[o]);rw[Int.toNat_of_nonneg w]at this;show this
 have g:(KK.Gw rs K)[n.toNat]∈KK.Gw rs K:=J0 o;generalize (KK.Gw rs K)[n.toNat]=x at q g;have L:=h.rl;have B:Run (ev Γ (.call "_law_pictured" [.var 1,.lst [.idx (.var 4) (.Gq "_law_draw" [.var 0,.bi .len [.var 4]] [0])]])) (gp u rs most K (bD (.own,.lst ((KK.Gw rs K).map .str)))) (.loc,.tup ((wp rs [x]).map B')) (gp f rs most K (bD (.own,.lst ((KK.Gw rs K).map .str)))) :=
  aQ (aa (ae rfl) (aa (bu (us:=[.str x]) (aa (bh (aD rfl) t (by show⟨⟨.own,rfl,rfl⟩,trivial⟩) (bW q)) af) trivial (au aE ax) (by change 1<=df;lia)) af)) trivial (G.p rs [x] ⋯ (by simp))
 have hz:JN rs [x]:=λy c=>by rw[hQ]at c;subst c;show(cX.mp g).1
 have⟨a,e,k1,k2⟩:=G.l ws (wp rs [x]) .loc _ .tup h.wl (tV h.ok (λ_ h=>h) λy c=>h.z.in (hz y c));have⟨c1,C,D⟩:=h.next g k2 k1;have r:=tZ (Γ:=Γ) (src:=.var 4) (k:=.bor 4) (Z:=KK.Gw rs K) (K:=a) (u:=f) (rs:=wp rs [x]) (most:=most) (o4:=bD (.own,.lst ((KK.Gw rs K).map .str))) ⋯ (aD rfl) ⟨⟨.own,rfl,rfl⟩,trivial⟩ (by change bD (((KK.Gw rs K).map U.str).map λu=>(kE (.bor 4),u))=_;rw[i0];rfl);rw[C]at r;show⟨wp rs [x],a,f,ay B aI (ay (aQ (aa (ae rfl) af) trivial e) a5 (ay r a5 az)),c1,D,s1⟩
theorem qw(G:RT Γ)(g:0<=most):∀(f:Nat) (rs:List Row) (K:List Str) (u:U) (T:Int),J' ws rs K->Src T u->T+(KK.Gw rs K).length+10<2 ^ 62->(KK.Gw rs K).length<f->∃a b u',Run (fu (GU Γ (.cmp .gt (.bi .len [.var 4]) (.var 2))) (execs Γ yE) (f+1)) (gp u rs most K (bD (.own,.lst ((KK.Gw rs K).map .str)))) .nx (gp u' a most b (bD (.own,.lst ((KK.Gw a b).map .str))))/\J' ws a b/\Src (T+(KK.Gw rs K).length) u'/\((KK.Gw a b).length:Int)<=most
 |0,_,_,_,_,_,_,_,h=>by lia
 |f+1,rs,K,u,T,h,d,r,s=>by
  have c:Run (GU Γ (.cmp .gt (.bi .len [.var 4]) (.var 2))) (gp u rs most K (bD (.own,.lst ((KK.Gw rs K).map .str)))) (cL (most<((KK.Gw rs K).length:Nat))) (gp u rs most K (bD (.own,.lst ((KK.Gw rs K).map .str)))):=aS (cA (aa (aD rfl) af) (by show⟨⟨.own,rfl,rfl⟩,trivial⟩) bG) (ae rfl) trivial (fN (by rw[c4]));have t:=eS h.z K;by_cases e:most<((KK.Gw rs K).length:Nat)
  .rw[Zp e]at c;have⟨i,j,k,l,c1,v,s1⟩:=yF G (most:=most) h d ⋯ ⋯;have⟨m,n,o,p,q,s2,m2⟩:=qw G g f i j k (T+1) c1 s1 ⋯ ⋯;show⟨m,n,o,qd c l p,q,s2.up ⋯,m2⟩
  .rw[Zo e]at c;show⟨rs,K,u,mT c,h,d.up ⋯,⋯⟩
abbrev BC(Γ:Tab):Prop:=∀(T most:Int) (u:U) (ws:List Str) (rs:List Row),Src T u->T+100<2 ^ 62->0<=most->ws.length<=24->rs.length<=60->(∀r∈rs,cT ws r)->∃a b u',Γ "_law_cut" [u,.tup (rs.map B'),.int most]=bD (.ok (.loc,.tup [.tup [.tup (a.map B'),.lst ((KK.Gw a b).map .str)],u']))/\J' ws a b/\Src (T+30) u'/\((KK.Gw a b).length:Int)<=most
def Fs(G:RT (GD Pg d))(h:G4 Pg "_law_cut" DF):BC (GD Pg (d+1)):=by
 intro T most u ws rs n z q j o g;have hsz:(1000:Nat)<=df:=by decide
 have t:cR [0] [u,.tup (rs.map B'),.int most] DF.ns=[bD (.io,u),bD (.loc,.tup (rs.map B')),bD (.loc,.int most),cb,cb]:=by
  obtain⟨_,_,_,rfl,_⟩:=n;change [bD (Kd.io,_),bD (if GP (.tup (rs.map B'))=b6 then Kd.loc else Kd.any,U.tup (rs.map B')),bD (Kd.loc,U.int most),cb,cb]=_;rw[bY]
 have hz:Bz ws rs:=⟨j,⋯,g⟩
 have⟨K,e,k1,k2⟩:=G.l ws rs .loc _ .tup j g;have A:=eS hz K;have B:=ff λr o=>(g r o).ok;have p:=tZ (Γ:=GD Pg d) (src:=.call "_law_all" [.var 1]) (k:=.own) (Z:=aG rs) (K:=K) (u:=u) (rs:=rs) (most:=most) (o4:=cb) ⋯ (aQ (aa (ae rfl) af) trivial (G.a ws rs hz)) trivial (by change bD (((aG rs).map U.str).map λu=>(kE .own,u))=_;rw[i0];rfl);have v:((aG rs).filter λy=>!cL (y∈K))=KK.Gw rs K:=by
  unfold KK.Gw;show PH λy _=>by simp
 rw[v]at p;have⟨b,i,u',w,c,s,m⟩:=qw G (ws:=ws) q 999999999999 rs K u T ⟨j,g,⋯,k2,k1⟩ n ⋯ ⋯;show⟨b,i,u',?_,c,s.up ⋯,m⟩;rw[cM h _ rfl];obtain⟨x,rfl,_⟩:=s.lst;show cu (f:=.rt .loc (.tup [.tup (b.map B'),.lst ((KK.Gw b i).map .str)])) (st:=gp (.lst x) b most i (bD (.loc,.lst ((KK.Gw b i).map .str)))) rfl t (ay (aQ (aa (ae rfl) af) trivial e) a5 (ay p a5 (qe w (bA (dq (aa (ae rfl) (aa (aD rfl) af)) (by show⟨⟨.own,rfl,rfl⟩,trivial⟩) (au aE (au (tN rfl) ax)) (by change 2<=df;lia)) dN)))) rfl rfl
def AZ(d:oJ Γ)(e:lx Γ){ns:List Int}(f:ns.length<1000)(b:Src 0 u):
  ∃(ws:List Str) (rs:List Row) (a:List Int) (u':U),Run (ev Γ (.Gq "_law_book" [.var 1,.var 3,.Gq "_law_words" [.var 3] [0]] [0,1])) (o0::bD (.own,.lst (ns.map .int))::o2::bD (.own,u)::rest) (.loc,.tup (rs.map B')) (o0::bD (.own,.lst (a.map .int))::o2::bD (.own,u')::rest)/\ws.length<=24/\cU ws rs/\rs.length<=60:=by
 obtain⟨ws,s,g,t,h,s1,_⟩:=d 0 u b ⋯;have⟨us,rfl,l⟩:=b.lst;have⟨c,rfl,m⟩:=s1.lst;have n:=gV (Γ:=Γ) (st:=o0::bD (.own,.lst (ns.map .int))::o2::bD (.own,.lst us)::rest) (i:=3) (es:=[]) (k0:=.own) (k:=.own) rfl rfl af rfl rfl l rfl g (.inl rfl);have⟨rs,a,v,o,p,q,w,s2⟩:=e ns (.lst c) ws _ s1 ⋯ f ⋯ ⋯;have⟨r,rfl,x⟩:=s2.lst;show⟨ws,rs,a,.lst r,AN (Γ:=Γ) (st:=o0::bD (.own,.lst (ns.map .int))::o2::bD (.own,.lst us)::rest) (st1:=o0::bD (.own,.lst (ns.map .int))::o2::bD (.own,.lst c)::rest) (i:=1) (j:=3) (k0:=.own) (k:=.own) (k0':=.own) (k':=.own) (rs:=[(.own,.lst (ws.map .str))]) ⋯ rfl rfl rfl rfl (aa n af) rfl rfl (gb ns) rfl rfl m rfl o (.inr rfl),h,p,q⟩
end
section
variable{Γ:Tab}{st st1 st2:av}{Pg:List Fn}{ws:List Str}{rs:List Row}
abbrev RU:List S:=[.set 2 (.bin .add (.var 2) (.comp 1 cK .seq [.var 2] [.cmp .lt (.bi .len [.var 0]) (.var 2)] (.bin .add (.var 0) (.lst [.var 4]))))]
abbrev RV:Fn:=⟨"_law_lists",2,4,[.set 2 (.lst [.lst []]),.GN cK [3] .seq [.var 0] RU,.ret (.comp 1 cK .seq [.var 2] [.cmp .eq (.bi .len [.var 0]) (.var 2)] (.var 0))]⟩
abbrev jj(ws:List Str)(m:Int)(cs:List (List Str))(o3:Option (Kd×U)):av:=[bD (.any,.lst (ws.map .str)),bD (.loc,.int m),bD (.own,.lst (cs.map GH)),o3]
def A0(e:cs.length<=1000)(hl:∀l∈cs,l.length<=100):
  Run (execs Γ RU) (jj ws (m:Nat) cs (bD (.any,.str w))) .nx (jj ws (m:Nat) (cs++(cs.filter λl=>cL (l.length<m)).map (·++[w])) (bD (.any,.str w))):=by
 have hsz:(1000000:Nat)<=df:=by decide
 have a:a9 [(.bor 2,.lst (cs.map GH))] (jj ws (m:Nat) cs (bD (.any,.str w))):=⟨⟨.own,rfl,rfl⟩,trivial⟩
 have b:=fc (cond:=aU Γ [.cmp .lt (.bi .len [.var 0]) (.var 2)]) (elt:=ev Γ (.bin .add (.var 0) (.lst [.var 4]))) (src:=[(.bor 2,.lst (cs.map GH))]) (st:=jj ws (m:Nat) cs (bD (.any,.str w))) a .loc (.inl rfl) GH (λl=>GH (l++[w])) (λl=>cL (l.length<m)) .own cs [] (by simp;lia)
  (λl d=>⟨cB (aS (cA (aa (ae rfl) af) trivial (show Ib .len [(.loc,GH l)]=_ from bG)) (ae rfl) trivial (Bn (by rw[c4];show decide_eq_decide.mpr Int.ofNat_lt))),λ_=>⟨ba (ae rfl) (bu (aa (aP rfl) af) trivial (au (k8 rfl) ax) (by change 1<=df;lia)) trivial ((iE (xs:=l.map U.str) (ys:=[.str w]) (by have:=hl l d;simp;lia) rfl rfl).trans (by rw[show GH (l++[w])=.lst (l.map U.str++[.str w]) by unfold GH;rw[ki];rfl])),k7⟩⟩)
 rw[i2,show((cs.filter λl=>cL (l.length<m)).map λl=>GH (l++[w]))=((cs.filter λl=>cL (l.length<m)).map (·++[w])).map GH by rw[i0];rfl]at b;have q:Run (ev Γ (.comp 1 cK .seq [.var 2] [.cmp .lt (.bi .len [.var 0]) (.var 2)] (.bin .add (.var 0) (.lst [.var 4])))) (jj ws (m:Nat) cs (bD (.any,.str w))) (.own,.lst (((cs.filter λl=>cL (l.length<m)).map (·++[w])).map GH)) _:=cC (rs:=[(.bor 2,.lst (cs.map GH))]) (aa (aD rfl) af) a (by change bD ((cs.map GH).map λu=>(kE (.bor 2),u))=_;rw[i0];rfl) b;have f:(cs.filter λl=>cL (l.length<m)).length<=cs.length:=lg _ _;have c:=ba (op:=.add) (aD (Γ:=Γ) (i:=2) (st:=jj ws (m:Nat) cs (bD (.any,.str w))) rfl) q ⟨⟨.own,rfl,rfl⟩,trivial⟩ (iE (xs:=cs.map GH) (by simp;lia) rfl rfl);rw[<-ki]at c;show ay c a5 az
def vi(n:ws.length<=5):∃cs:List (List Str),dF Γ RV [.lst (ws.map .str),.int (m:Nat)]=bD (.ok (.own,.lst (cs.map GH)))/\cs.length<=1000/\∀l∈cs,(∀x∈l,x∈ws)/\l.length=m:=by
 have hsz:(1000000:Nat)<=df:=by decide
 have⟨st',o,cs,o3,a,b,rfl,c,g,p,d⟩:=bI (rs:=[(.any,.lst (ws.map .str))]) (t:=cK) (is:=[3]) (body:=execs Γ RU) (λx:Str=>(Kd.any,U.str x))
  (λ_ r st=>∃(cs:List (List Str)) (o3:Option (Kd×U)) (a b:List Str),st=jj ws (m:Nat) cs o3/\a++b=ws/\r=b/\cs.length<=2 ^ a.length/\∀l∈cs,(∀x∈l,x∈ws)/\l.length<=a.length) (λ_ _ _ _=>trivial) (λe y r st s=>by
   have⟨cs,o3,a,b,v,c,g,p,d⟩:=s;subst v;subst g;have D:a.length+r.length+1=ws.length:=by rw[<-c];simp;lia
   have z:2 ^ a.length<=2 ^ 5:=N4 ⋯ ⋯;show⟨jj ws (m:Nat) cs (bD (.any,.str y)),jj ws (m:Nat) _ (bD (.any,.str y)),iB,A0 (m:=m) (cs:=cs) (w:=y) ⋯ (λl hl=>by have:=(d l hl).2;lia),_,_,a++[y],r,rfl,by rw[<-c];simp,rfl,?_,?_⟩
   .have A:(cs.filter λl=>cL (l.length<m)).length<=cs.length:=lg _ _;rw[hY,c4,hY,u5,Wy];lia
   .intro l hl;rw[hY,u5];rcases i4.mp hl with h|h
    .show⟨(d l h).1,by have:=(d l h).2;lia⟩
    .have⟨B,i,rfl⟩:=i7.mp h;have⟨j,G⟩:=d B (ko.mp i).1;show⟨λx f=>?_,by simp;lia⟩;rcases i4.mp f with h|h
     .show j x h
     .rw[hQ]at h;subst h;rw[<-c];simp)
  ws [] (jj ws (m:Nat) [[]] cb) ⟨_,_,[],ws,rfl,rfl,rfl,by simp,λl hl=>by rw[hQ]at hl;subst hl;simp⟩
 have C:b=[]:=g.symm;subst C;rw[ri]at c;subst c;have z:2 ^ a.length<=2 ^ 5:=N4 ⋯ n;have k:a9 [(.bor 2,.lst (cs.map GH))] (jj a (m:Nat) cs o3):=⟨⟨.own,rfl,rfl⟩,trivial⟩
 have f:=fc (cond:=aU Γ [.cmp .eq (.bi .len [.var 0]) (.var 2)]) (elt:=ev Γ (.var 0)) (src:=[(.bor 2,.lst (cs.map GH))]) (st:=jj a (m:Nat) cs o3) k .loc (.inl rfl) GH GH (λl=>cL (l.length=m)) .loc cs [] (by simp;lia)
  (λl H=>⟨cB (aS (cA (aa (ae rfl) af) trivial (show Ib .len [(.loc,GH l)]=_ from bG)) (ae rfl) trivial (bC (by rw[c4];show decide_eq_decide.mpr Int.ofNat_inj))),λ_=>⟨ae rfl,aE⟩⟩)
 rw[i2]at f;have q:Run (ev Γ (.comp 1 cK .seq [.var 2] [.cmp .eq (.bi .len [.var 0]) (.var 2)] (.var 0))) (jj a (m:Nat) cs o3) (.own,.lst ((cs.filter λl=>cL (l.length=m)).map GH)) _:=cC (rs:=[(.bor 2,.lst (cs.map GH))]) (aa (aD rfl) af) k (by change bD ((cs.map GH).map λu=>(kE (.bor 2),u))=_;rw[i0];rfl) f;have A:(cs.filter λl=>cL (l.length=m)).length<=cs.length:=lg _ _;show⟨cs.filter λl=>cL (l.length=m),aX (st0:=[bD (.any,.lst (a.map .str)),bD (.loc,.int (m:Nat)),cb,cb]) rfl (.inl rfl) rfl (ay (bu (aa (bu af trivial ax (i3 _)) af) trivial (au k7 ax) (by change 1<=df;lia)) a5 (cJ (rs:=[(.any,.lst (a.map .str))]) (aa (aP rfl) af) trivial (by change bD ((a.map U.str).map λu=>(kE .any,u))=_;rw[i0];rfl) rfl o (bA q gz))),⋯,λl hl=>?_⟩;have⟨i,j⟩:=ko.mp hl;show⟨(d l i).1,Zr j⟩
end
section
def Mg.no(e:Z.Nodup)(h:Mg rs Z l)(f:∀x∈c,x∈Z)(g:c.length<l.length):¬Suf rs c:=λs=>by
 have a:=h.min (Z.filter λx=>cL (x∈c)) IB (s.mono λx d=>ko.mpr ⟨f x d,Zp d⟩);have b:(Z.filter λx=>cL (x∈c)).length<=c.length:=eM (e.sublist IB) λx d=>Zr (ko.mp d).2;lia
def Ft(h:st[i]?=bD (bD (k,.lst us)))(hk:k.root=b6)(b:Run (execs Γ c) (st.set i (bD (k,.lst []))) f st2):Run (execs Γ (.LG i::c)) st f st2:=by
 show eL (ab (a:=()) (st1:=st.set i (bD (k,.lst []))) ?_ aV) b;change modS i CF st=_;unfold modS;rw[h];simp only[hk,if_true];rfl
def Fu{rs:List (Kd×U)}(b:Run (bt Γ es) st rs st1)(c:a9 rs st1)(d:Γ f (rs.map (·.2))=bD (.ok (.loc,.tup (.lst xs::rest))))(e:bS xs=b6):Run (ev Γ (.K8 f es)) st (.own,.lst xs) st1:=by
 show ab b (ab (a:=()) (st1:=st1) ?_ (ab (a:=(.loc,.tup (.lst xs::rest))) (st1:=st1) ?_ ?_))
 .change aB rs st1=_;unfold aB;rw[Zm c]
 .change fj Γ f (rs.map (·.2)) st1=_;unfold fj;rw[d]
 .change M.GQ (wI _) st1=_;unfold wI;simp only[e,if_true];rfl
def A4(a:List Bool):Ib .any [(k,.lst (a.map .bl))]=bD (.loc,.bl (a.any id)):=by
 change(fI (a.map U.bl)).map _=_;have:∀a:List Bool,fI (a.map U.bl)=bD a:=λa=>by
  induction a with
  |nil=>rfl
  |cons b a c=>change(fI (a.map U.bl)).map _=_;rw[c];rfl
 rw[this];rfl
abbrev yG:List S :=
  [.set 7 (.bi .len [.var 6]),
  .ite (.not (.call "_law_suffice" [.var 4,.var 6]))
   [.ret (.cst (.bl cK))]
   [],
  .ite (.and [.cmp .gt (.var 7) (.cst (.int 0)),.bi .any [.comp 1 cK .seq [.call "_law_lists" [.var 5,.bin .sub (.var 7) (.cst (.int 1))]] [] (.call "_law_suffice" [.var 5,.var 0])]])
   [.ret (.cst (.bl cK))]
   [],
  .LG 6,
  .ret (.cmp .eq (.bi .len [(.idx (.call "fewest" [(.var 4)]) (.cst (.int 0)))]) (.var 7))]
abbrev yH:Fn:=⟨"law",1,8,[.set 1 (.KA .Iq [.JJ (.var 0) [] [.cst (.int 200)]]),.set 2 (.Gq "_law_source" [.var 1,.cst (.int 2)] [0]),.set 3 (.Gq "_law_source" [.var 1,.cst (.int 1)] [0]),.set 4 (.Gq "_law_book" [.var 1,.var 3,.Gq "_law_words" [.var 3] [0]] [0,1]),.IZ [4,5] (.Gq "_law_cut" [.var 2,.var 4,.cst (.int 5)] [0]),.set 6 (.K8 "fewest" [.var 4])]++yG⟩
structure TB(Γ:Tab)(rs:List Row)(Z:List Str)(u:U):Prop where
 fe:Γ "fewest" [.tup (rs.map B')]=bD (.ok (.loc,u))
 ft:O5 rs Z u
 sf:∀l:List Str,(∀x∈l,x∈Z)->l.length<=24->∃b,Γ "_law_suffice" [.tup (rs.map B'),GH l]=bD (.ok (.loc,.bl b))/\(b=b6↔Suf rs l)
 ls:∀m:Nat,∃cs:List (List Str),Γ "_law_lists" [.lst (Z.map .str),.int (m:Nat)]=bD (.ok (.own,.lst (cs.map GH)))/\cs.length<=1000/\∀l∈cs,(∀x∈l,x∈Z)/\l.length=m
def vj{S:Option (Kd×U)->Option (Kd×U)->av}(t:Z.Nodup)(a:Mg rs Z l)(T:Z.length<=24)(h:TB Γ rs Z (.tup [GH l,v]))(g:∀o p,(S o p)[4]?=bD (bD (.loc,.tup (rs.map B'))))(w:∀o p,(S o p)[5]?=bD (bD (.loc,.lst (Z.map .str))))(j:∀o p,(S o p)[6]?=bD o)(d:∀o p,(S o p)[7]?=bD p)(z:∀o p o',(S o p).set 6 o'=S o' p)(A:∀o p m,(S o p).set 7 m=S o m):
  Run (execs Γ yG) (S (bD (.own,GH l)) cb) (.rt .loc (.bl b6)) (S (bD (.own,.lst [])) (bD (.loc,.int (l.length:Nat)))):=by
 have hsz:(1000:Nat)<=df:=by decide
 have Y:=a.sub.length_le;let o6:Option (Kd×U):=bD (.own,GH l);let o7:Option (Kd×U):=bD (.loc,.int (l.length:Nat));have n:∀p,Run (ev Γ (.var 6)) (S o6 p) (.bor 6,GH l) (S o6 p):=λp=>aD (j o6 p);have q:∀p,∃k:Kd,k.root=b6/\(S o6 p)[6]?=bD (bD (k,GH l)):=λp=>⟨.own,rfl,j o6 p⟩
 have B:Run (ev Γ (.bi .len [.var 6])) (S o6 cb) (.loc,.int (l.length:Nat)) (S o6 cb):=by
  have:=cA (Γ:=Γ) (f:=.len) (es:=[.var 6]) (aa (n cb) af) ⟨q cb,trivial⟩ (show Ib .len [(.bor 6,GH l)]=_ from bG);rw[c4]at this;show this
 have⟨b,C,D⟩:=h.sf l (λx e=>a.sub.subset e) ⋯;have:b=b6:=D.mpr a.Ws;subst this;have G:Run (d7 7 (.loc,.int (l.length:Nat))) (S o6 cb) () (S o6 o7):=by have:=aI (st:=S o6 cb) (i:=7) (u:=.int (l.length:Nat));rw[A]at this;show this
 have H:Run (GU Γ (.not (.call "_law_suffice" [.var 4,.var 6]))) (S o6 o7) cK (S o6 o7):=ET (c:=b6) (xI (aa (ae (g o6 o7)) (aa (n o7) af)) ⟨q o7,trivial⟩ C rfl);have I:Run (GU Γ (.and [.cmp .gt (.var 7) (.cst (.int 0)),.bi .any [.comp 1 cK .seq [.call "_law_lists" [.var 5,.bin .sub (.var 7) (.cst (.int 1))]] [] (.call "_law_suffice" [.var 5,.var 0])]])) (S o6 o7) cK (S o6 o7):=by
  by_cases h0:l.length=0
  .show jv (rE (aS (ae (d o6 o7)) ai trivial (fN (Zo ⋯))))
  .have⟨cs,c1,c2,J⟩:=h.ls (l.length - 1);have L:Run (ev Γ (.call "_law_lists" [.var 5,.bin .sub (.var 7) (.cst (.int 1))])) (S o6 o7) (.own,.lst (cs.map GH)) (S o6 o7):=aQ (aa (ae (w o6 o7)) (aa (ba (ae (d o6 o7)) ai trivial fy) af)) trivial (by
    change Γ "_law_lists" [.lst (Z.map .str),.int (((l.length:Nat):Int) - 1)]=_;rw[show(((l.length:Nat):Int) - 1)=((l.length - 1:Nat):Int) by lia];show c1)
   have e:=jd (cond:=aU Γ []) (elt:=ev Γ (.call "_law_suffice" [.var 5,.var 0])) (src:=[(.own,.lst (cs.map GH))]) (st:=S o6 o7) trivial .loc (.inl rfl) GH (λ_=>.bl cK) .loc (λ_=>k9) cs [] (by simp;lia)
    (λy N=>by
     have⟨r,d2⟩:=J y N;have⟨b,O,Q⟩:=h.sf y r ⋯;have:b=cK:=by
      cases b with
      |false=>rfl
      |true=>show absurd (Q.mp rfl) (a.no t r ⋯)
     subst this;show⟨aQ (aa (ae (by simpa using g o6 o7)) (aa (ae rfl) af)) trivial O,aE⟩)
   rw[i2,show(cs.map λ_=>U.bl cK)=(cs.map λ_=>cK).map U.bl by rw[i0];rfl]at e;have s:=A4 (k:=.own) (cs.map λ_=>cK);rw[show((cs.map λ_=>cK).any id)=cK by rw[List.any_map];show List.any_eq_false.mpr λ_ _=>by simp]at s;show jv (oA (aS (ae (d o6 o7)) ai trivial (fN (Zp ⋯))) (cB (xJ (cA (aa (cC (rs:=[(.own,.lst (cs.map GH))]) (aa L af) trivial (by change bD ((cs.map GH).map λu=>(kE .own,u))=_;rw[i0];rfl) e) af) trivial s))))
 show ay B G (bP H az (bP I az (Ft (us:=l.map .str) (j o6 o7) rfl ?_)));rw[z];let oe:Option (Kd×U):=bD (.own,.lst []);have Jo:=cA (Γ:=Γ) (f:=.len) (es:=[.idx (.call "fewest" [.var 4]) (.cst (.int 0))]) (aa (bh (aQ (aa (ae (g oe o7)) af) trivial h.fe) ai trivial (j7 (i:=0) (u:=GH l) rfl)) af) trivial (show Ib .len [(.loc,GH l)]=_ from bG);rw[c4]at Jo;show bA (ju Jo (ae (d oe o7)) trivial (bC (c:=b6) (by simp))) dN
def A5:lK (.any,.J1 (ns.map .int)) lo a=bD (.own,.lst ((cut ns lo a).map .int)):=by
 change(if bS (ns.map U.int)=b6 then bD (Kd.own,U.lst (cut (ns.map U.int) lo a)) else cb)=_;rw[Zm (gb ns),tK]
def vk(m:iK Γ)(s:oJ Γ)(t:lx Γ)(w:BC Γ)
  (y:∀ws rs K,J' ws rs K->(KK.Gw rs K).length<=5->∃u,TB Γ rs (KK.Gw rs K) u) {ns:List Int} (hn:ns.length<=63):dF Γ yH [.J1 (ns.map .int)]=bD (.ok (.loc,.bl b6)):=by
 have A:(1000:Nat)<=df:=by decide
 have n:qU .Iq [(.own,.lst ((cut ns cb (bD 200)).map .int))]=bD (.own,.lst ((cut ns cb (bD 200)).reverse.map .int)):=by
  change(if fq .own ((cut ns cb (bD 200)).map U.int)=b6 then bD (Kd.own,U.lst ((cut ns cb (bD 200)).map U.int).reverse) else cb)=_;rw[Zm (show fq .own ((cut ns cb (bD 200)).map U.int)=b6 from rfl),List.map_reverse]
 have a:(cut ns cb (bD 200)).reverse.length<=63:=by rw[RL];have:=Ax ns cb (bD 200);lia
 generalize (cut ns cb (bD 200)).reverse=B at n a;let o0:Option (Kd×U):=bD (.any,.J1 (ns.map .int));have⟨C,d,D,l2,s2⟩:=qp (Γ:=Γ) m (ns:=B) (rest:=[cb,cb,cb,cb,cb,cb]) (o0:=o0) (k:=2);have⟨G,H,I,l3,s3⟩:=qp (Γ:=Γ) m (ns:=C) (rest:=[bD (.own,d),cb,cb,cb,cb,cb]) (o0:=o0) (k:=1);have⟨ws,rs,e,f,J,L,b4,N⟩:=AZ (Γ:=Γ) s t (ns:=G) (u:=H) (rest:=[cb,cb,cb,cb]) (o0:=o0) (o2:=bD (.own,d)) ⋯ s3;have⟨b,c,u',O,q,Q,hm⟩:=w _ 5 d ws rs s2 ⋯ ⋯ L N b4.1;have⟨r,rfl,T⟩:=s2.lst;have⟨Y,rfl,Xj⟩:=Q.lst;have q6:=gV (Γ:=Γ) (st:=[o0,bD (.own,.lst (e.map .int)),bD (.own,.lst r),bD (.own,f),bD (.loc,.tup (rs.map B')),cb,cb,cb]) (st1:=[o0,bD (.own,.lst (e.map .int)),bD (.own,.lst r),bD (.own,f),bD (.loc,.tup (rs.map B')),cb,cb,cb]) (i:=2) (es:=[.var 4,.cst (.int 5)]) (k0:=.own) (k:=.own) (rs:=[(.loc,.tup (rs.map B')),(.loc,.int 5)]) rfl rfl (aa (ae rfl) (aa ai af)) rfl rfl T rfl O (.inr rfl);have⟨u,g⟩:=y ws b c q ⋯;have O6:=eS q.z c;obtain⟨l,v,rfl,hl⟩:∃l v,u=.tup [GH l,v]/\Mg b (KK.Gw b c) l:=by
  cases g.ft with
  |nil h=>show⟨[],_,rfl,h⟩
  |@cons x l v h hv=>show⟨x::l,v,rfl,h⟩
 have j:=vj (Γ:=Γ) (S:=λo p=>[o0,bD (.own,.lst (e.map .int)),bD (.own,.lst Y),bD (.own,f),bD (.loc,.tup (b.map B')),bD (.loc,.lst ((KK.Gw b c).map .str)),o,p]) (KK.ji _ _) hl O6 g (λ_ _=>rfl) (λ_ _=>rfl) (λ_ _=>rfl) (λ_ _=>rfl) (λ_ _ _=>rfl) (λ_ _ _=>rfl);show aX (st0:=[o0,cb,cb,cb,cb,cb,cb,cb]) rfl (.inr rfl) rfl (ay (Bk (aa (mQ (aP rfl) pZ (kY ai) trivial A5) af) trivial n) a5 (ay D a5 (ay I a5 (ay J aI (Ds q6 (jx (.inl rfl)) (ay (Fu (aa (ae rfl) af) trivial g.fe (eN l)) a5 j))))))
end
end TM
namespace K
open PySem L2 TM
abbrev top(i:Nat):Ly:=PySem.Challenge.pw_primer_k45_fewest_of_all.main.body.getD i (.Pass ⟨0,0,0,0⟩)
noncomputable abbrev lz:Fn:=TM.rJ
noncomputable abbrev c9:Fn:=KL.c9
noncomputable abbrev eT:Fn:=TM.By
noncomputable abbrev a_:Fn:=KL.a_
noncomputable abbrev cN:Fn:=KL.cN
noncomputable abbrev bj:Fn:=KL.bj
noncomputable abbrev fg:Fn:=KL.fg
noncomputable abbrev eR:Fn:=KL.eR
noncomputable abbrev iM:Fn:=TM.tT
abbrev yI:Fn:=⟨"knot",1,4,[.newD 1,.GN cK [2] .seq [.call "not_learnt" [.var 0]] [.putD 1 (.var 2) (.lst [])],.GN cK [3] .seq [.var 0] [.ite (.inD cK (.idx (.var 3) (.cst (.int 0))) 1) [.Ia 1 (.idx (.var 3) (.cst (.int 0))) (.idx (.comp 1 cK .seq [.idx (.var 3) (.cst (.int 1))] [.inD cK (.var 0) 2] (.var 0)) (.cst (.int 0)))] []],.I0 1 (.tup [.var 0,.bi .tuple [.var 1]])]⟩
noncomputable abbrev fm:Fn:=TM.Ff
noncomputable abbrev m9:Fn:=TM.BA
noncomputable abbrev m_:Fn:=TM.RO
noncomputable abbrev fQ:Fn:=TM.RQ
noncomputable abbrev t5:Fn:=TM.DC
noncomputable abbrev qx:Fn:=TM.Fo
noncomputable abbrev iN:Fn:=TM.xT
noncomputable abbrev lA:Fn:=TM.tR
noncomputable abbrev jy:Fn:=TM.lu
noncomputable abbrev ng:Fn:=TM.Dv
noncomputable abbrev nh:Fn:=TM.AH
noncomputable abbrev lB:Fn:=TM.oI
noncomputable abbrev iO:Fn:=TM.AU
noncomputable abbrev ni:Fn:=TM.AM
noncomputable abbrev fR:Fn:=TM.O3
noncomputable abbrev gC:Fn:=TM.RK
noncomputable abbrev nj:Fn:=TM.DF
noncomputable abbrev jz:Fn:=TM.RV
abbrev BD:Fn:=⟨"law",1,8,[.set 1 (.KA .Iq [.JJ (.var 0) [] [.cst (.int 200)]]),.set 2 (.Gq "_law_source" [.var 1,.cst (.int 2)] [0]),.set 3 (.Gq "_law_source" [.var 1,.cst (.int 1)] [0]),.set 4 (.Gq "_law_book" [.var 1,.var 3,.Gq "_law_words" [.var 3] [0]] [0,1]),.IZ [4,5] (.Gq "_law_cut" [.var 2,.var 4,.cst (.int 5)] [0]),.set 6 (.K8 "fewest" [.var 4]),.set 7 (.bi .len [.var 6]),.ite (.not (.call "_law_suffice" [.var 4,.var 6])) [.ret (.cst (.bl cK))] [],.ite (.and [.cmp .gt (.var 7) (.cst (.int 0)),.bi .any [.comp 1 cK .seq [.call "_law_lists" [.var 5,.bin .sub (.var 7) (.cst (.int 1))]] [] (.call "_law_suffice" [.var 5,.var 0])]]) [.ret (.cst (.bl cK))] [],.LG 6,.ret (.cmp .eq (.bi .len [.idx (.call "fewest" [.var 4]) (.cst (.int 0))]) (.var 7))]⟩
abbrev prog:List Fn:=[lz,c9,eT,a_,cN,bj,fg,eR,iM,yI,fm,m9,m_,fQ,t5,qx,iN,lA,jy,ng,nh,lB,iO,ni,fR,gC,nj,jz,BD]
abbrev ck:Ck:=⟨(prog.filter λf=>f.io.isNone).map (·.name),[("MOST_NOT_LEARNT",(.int 5))],prog.filterMap λf=>f.io.map λp=>(f.name,p.1)⟩
def pure(ns:List Int)(o:ns.length<=63):GD prog 14 "law" [rC ns]=bD (.ok (.loc,.bl b6)):=by
 have g:G4 prog "_law_draw" tR:=rfl;have hs:G4 prog "_law_source" xT:=rfl;have h:G4 prog "_law_learnt" AU:=rfl;have i:G4 prog "_law_all" AM:=rfl;have j:G4 prog "_law_pictured" O3:=rfl;have p:G4 prog "_law_suffice" RK:=rfl;have q:G4 prog "_law_lists" RV:=rfl;have H:Tz prog:=⟨⟨⟨rfl,rfl,rfl,rfl,rfl,rfl⟩,rfl,rfl,rfl,rfl,rfl⟩,rfl,rfl,rfl,rfl,rfl⟩
 have r:bK (GD prog 11):=xY g;have f:bK (GD prog 12):=xY g;have hl:G4 prog "law" yH:=rfl;rw[show GD prog 14 "law" [rC ns]=_ from aF hl [rC ns]];show vk (yc hs) (AK f rfl) (yp (yc hs) f (E6 r rfl) (E8 rfl) rfl) (Fs ⟨f,Fc ⋯ h,λws rs k=>E9 i k.wl k.ok,λrs L s t=>Fe j s t⟩ rfl) (λws rs K a n=>?_) o;have C:=a.ks.len;have D:=a.wl;have G:=a.rl;have⟨u,e,v⟩:=Fp H 0 a.z ⋯ a.kn ⋯ n;show⟨u,e,v,λl hl I=>?_,λm=>?_⟩
 .have⟨b,w,y⟩:=Gg (d:=11) j h i p a.z (L:=l) (ws':=ws) ⋯ ⋯ (λx c=>c) λx c=>a.z.in (cX.mp (hl x c)).1;show⟨b,w,y λx c=>(cX.mp (hl x c)).1⟩
 .have⟨cs,A,B⟩:=vi (Γ:=GD prog 12) (ws:=KK.Gw rs K) (m:=m) n;show⟨cs,(aF q _).trans A,B⟩
end K
namespace K
open PySem L2 TM PySem.W PyProof.Rows
abbrev m0:d3:=.str "primer.books" 239
abbrev m1:d3:=.str "primer.learning" 268
abbrev m2:d3:=.str "primer.knots" 316
abbrev m3:d3:=.str "primer.pictures" 324
abbrev m4:d3:=.str "primer.fewest" 340
abbrev m5:d3:=.str "law_primer_k45_fewest_of_all" 377
abbrev ml:Me:=⟨BD,39,["_law_script","_law_left","_law_query","_law_source_here","_law_book_here","_law_held","_law_found","_law_many"],228,227,m5,co "law" 484 211 1 224 225 .none .none (.ref 226) 487 488 181⟩
abbrev ms:List Me:=[⟨lz,5,["book","words","row"],58,57,m0,co "words_of" 241 9 1 52 53 (.ref 54) (.ref 55) (.ref 56) 247 248 181⟩,
 ⟨c9,6,["pairs","found","key","value"],65,64,m0,co "gathered" 250 15 1 59 60 (.ref 61) (.ref 62) (.ref 63) 257 258 181⟩,
 ⟨eT,7,["book","words"],72,71,m0,co "refuse_unknown" 260 22 2 66 67 (.ref 68) (.ref 69) (.ref 70) 265 266 181⟩,
 ⟨a_,9,["book","pairs","place","row"],77,76,m1,co "places_that_tell" 270 26 1 73 74 .none .none (.ref 75) 273 274 181⟩,
 ⟨cN,10,["book","places","known","steps","place","word"],84,83,m1,co "new_steps" 276 31 3 78 79 (.ref 80) (.ref 81) (.ref 82) 285 286 181⟩,
 ⟨bj,11,["book","tellers","missing","known","found","ready","steps","word","place","teller"],89,88,m1,co "steps_in_rounds" 288 38 1 85 86 .none .none (.ref 87) 291 292 181⟩,
 ⟨fg,12,["book","found","steps"],96,95,m1,co "order" 294 56 1 90 91 (.ref 92) (.ref 93) (.ref 94) 300 301 181⟩,
 ⟨eR,13,["book"],101,100,m1,co "learnt" 303 61 1 97 98 .none .none (.ref 99) 306 307 181⟩,
 ⟨iM,14,["book"],108,107,m1,co "not_learnt" 309 63 1 102 103 (.ref 104) (.ref 105) (.ref 106) 313 314 181⟩,
 ⟨yI,16,["book","blocks","word","row"],113,112,m2,co "knot" 318 66 1 109 110 .none .none (.ref 111) 321 322 181⟩,
 ⟨fm,18,["book","words","pictured","row"],118,117,m3,co "with_pictures" 326 75 2 114 115 .none .none (.ref 116) 329 330 181⟩,
 ⟨m9,19,["book","words"],125,124,m3,co "suffice" 332 82 2 119 120 (.ref 121) (.ref 122) (.ref 123) 337 338 181⟩,
 ⟨m_,22,["words","number","found","place","word","others"],132,131,m4,co "choices" 344 86 2 126 127 (.ref 128) (.ref 129) (.ref 130) 353 354 181⟩,
 ⟨fQ,23,["book","words","number","found"],137,136,m4,co "fewest_words" 356 94 2 133 134 .none .none (.ref 135) 359 360 181⟩,
 ⟨t5,24,["book","given","left","pairs"],142,141,m4,co "paper" 362 101 3 138 139 .none .none (.ref 140) 365 366 181⟩,
 ⟨qx,25,["book","words","chosen"],149,148,m4,co "fewest" 368 106 1 143 144 (.ref 145) (.ref 146) (.ref 147) 374 375 181⟩,
 ⟨iN,27,["_law_left","_law_k","_law_cell"],156,155,m5,co "_law_source" 379 115 2 150 151 (.ref 152) (.ref 153) (.ref 154) 385 386 181⟩,
 ⟨lA,28,["_law_source_here","_law_many","_law_number","_law_turn","_law_mixed"],163,162,m5,co "_law_draw" 388 120 2 157 158 (.ref 159) (.ref 160) (.ref 161) 396 397 181⟩,
 ⟨jy,29,["_law_source_here","_law_letters","_law_many","_law_base","_law_way","_law_size","_law_first","_law_words_here","_law_k","_law_word","_law_sense"],168,167,m5,co "_law_words" 399 129 1 164 165 .none .none (.ref 166) 402 403 181⟩,
 ⟨ng,30,["_law_source_here","_law_words_here","_law_at","_law_below","_law_told","_law_k","_law_one"],175,174,m5,co "_law_row" 405 150 4 169 170 (.ref 171) (.ref 172) (.ref 173) 415 416 181⟩,
 ⟨nh,31,["_law_rows","_law_row_here","_law_other"],182,181,m5,co "_law_lay" 418 159 2 176 177 (.ref 178) (.ref 179) (.ref 180) 424 425 181⟩,
 ⟨lB,32,["_law_left","_law_source_here","_law_words_here","_law_rows","_law_way","_law_k","_law_at","_law_more"],189,188,m5,co "_law_book" 427 164 3 183 184 (.ref 185) (.ref 186) (.ref 187) 438 439 181⟩,
 ⟨iO,33,["_law_book_here","_law_known","_law_fell","_law_word","_law_told"],194,193,m5,co "_law_learnt" 441 176 1 190 191 .none .none (.ref 192) 444 445 181⟩,
 ⟨ni,34,["_law_book_here","_law_met","_law_word","_law_told","_law_one"],201,200,m5,co "_law_all" 447 186 1 195 196 (.ref 197) (.ref 198) (.ref 199) 455 456 181⟩,
 ⟨fR,35,["_law_book_here","_law_words_here","_law_heads"],206,205,m5,co "_law_pictured" 458 193 2 202 203 .none .none (.ref 204) 461 462 181⟩,
 ⟨gC,36,["_law_book_here","_law_words_here"],213,212,m5,co "_law_suffice" 464 196 2 207 208 (.ref 209) (.ref 210) (.ref 211) 469 470 181⟩,
 ⟨nj,37,["_law_query","_law_book_here","_law_most","_law_known","_law_held"],218,217,m5,co "_law_cut" 472 198 3 214 215 .none .none (.ref 216) 475 476 181⟩,
 ⟨jz,38,["_law_words_here","_law_many","_law_found","_law_word"],223,222,m5,co "_law_lists" 478 206 2 219 220 .none .none (.ref 221) 481 482 181⟩,
 ml]
abbrev gg(P:Xu):Obj:=⟨.type "dict",cb,.dict #[ge P "__name__" 165 (.str "law_primer_k45_fewest_of_all" 377),ge P "__doc__" 166 .none,ge P "__package__" 167 .none,ge P "__loader__" 168 (.builtin "__main__.__loader__#opaque"),ge P "__spec__" 169 .none,ge P "__annotations__" 170 (.ref 6),ge P "__builtins__" 171 (.ref 4),ge P "__file__" 173 (.str "/claim/cut.py" 172),ge P "__cached__" 174 .none,ge P "PrimerError" 206 (.ref 24),ge P "Unknown" 222 (.ref 37),ge P "TooMany" 238 (.ref 49),ge P "words_of" 249 (.ref 58),ge P "gathered" 259 (.ref 65),ge P "refuse_unknown" 267 (.ref 72),ge P "places_that_tell" 275 (.ref 77),ge P "new_steps" 287 (.ref 84),ge P "steps_in_rounds" 293 (.ref 89),ge P "order" 302 (.ref 96),ge P "learnt" 308 (.ref 101),ge P "not_learnt" 315 (.ref 108),ge P "knot" 323 (.ref 113),ge P "with_pictures" 331 (.ref 118),ge P "suffice" 339 (.ref 125),ge P "MOST_NOT_LEARNT" 343 (.int 5 342),ge P "choices" 355 (.ref 132),ge P "fewest_words" 361 (.ref 137),ge P "paper" 367 (.ref 142),ge P "fewest" 376 (.ref 149),ge P "_law_source" 387 (.ref 156),ge P "_law_draw" 398 (.ref 163),ge P "_law_words" 404 (.ref 168),ge P "_law_row" 417 (.ref 175),ge P "_law_lay" 426 (.ref 182),ge P "_law_book" 440 (.ref 189),ge P "_law_learnt" 446 (.ref 194),ge P "_law_all" 457 (.ref 201),ge P "_law_pictured" 463 (.ref 206),ge P "_law_suffice" 471 (.ref 213),ge P "_law_cut" 477 (.ref 218),ge P "_law_lists" 483 (.ref 223),ge P "law" 489 (.ref 228)] 42,#[]⟩
abbrev vw:wh:=view PySem.Challenge.pw_primer_k45_fewest_of_all [5,6,7,9,10,11,12,13,14,16,18,19,22,23,24,25,27,28,29,30,31,32,33,34,35,36,37,38,39]
abbrev hk:Hook:=kHook (λP=>Jd top (gg P) ms) (adr ms) λP=>tE top (gg P) ms
abbrev lo:List Str:=["PrimerError","Unknown","TooMany","MOST_NOT_LEARNT"]
noncomputable abbrev xt(s:hh):Bool:=xlAt vw [] s&&recOk (RowW.records PySem.Challenge.rw_primer_k45_fewest_of_all.row.toRowW) s
noncomputable abbrev oe(w:G1):Option hh:=openEnds treeTable PySem.Challenge.rw_primer_k45_fewest_of_all.row.prog w 4000
noncomputable abbrev os(s:hh):=openSeen vw lo (importedModules PySem.Challenge.rw_primer_k45_fewest_of_all.row.prog.main.body) xt b6 s
def Jn(w:G1):(oe w).map (λs=>(os s).1)=bD (openGood vw lo).1:=by kernel_rfl
def Jo(w:G1):(oe w).map (λs=>(os s).2)=bD (openGood vw lo).2:=by kernel_rfl
def MI(w:G1):(oe w).map hk.obs=bD (hk.val w):=by kernel_rfl
def hl:LeftO PySem.Challenge.rw_primer_k45_fewest_of_all.row.prog vw lo xt hk.obs hk.val 4000:=λw=>by
 have⟨s,e,a⟩:=gj.mp (Jn w);have b:=Jo w;have c:=MI w;rw[e]at b c;change(oe w).map _=_;rw[e];show Zq bD (Yb (Yb a (td b)) (td c))
def hs:PySem.Challenge.rw_primer_k45_fewest_of_all.wellSaid=b6:=by kernel_rfl
def ho(P:Xu):Lb ck top (Jd top (gg P) ms) ms=b6:=by kernel_rfl
end K
open PySem PySem.W PyProof.Rows K
theorem PySem.Challenge.cw_primer_k45_fewest_of_all_holds : PySem.Challenge.rw_primer_k45_fewest_of_all.Holds := by
 w_on
 refine holds_law hs λz => ?_;refine holds_open hl hk.of hk.keeps (λs e => xl_of s (GB.mp e).1) XL.keeps rfl rfl rfl (λs e => recFacts_of (GB.mp e).2) rfl z (by kernel_rfl) ⟨rfl, rfl, rfl, rfl, rfl, by decide +kernel⟩ ?hw ?a
 (case hw => w_witness2)
 exact TM.walk2 (l := PySem.Challenge.rw_primer_k45_fewest_of_all) (Pg := prog) (ck := ck) (dp := 13) (x := "_law_script") (m := ml) rfl rfl ⟨rfl, by decide, by decide, rfl⟩ rfl (by decide +kernel) (by decide +kernel) rfl (Qs.mpr ⟨28, rfl⟩) rfl rfl ho K.pure
