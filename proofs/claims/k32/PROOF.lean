import PyProof.Rows.All
import Wide.All
import OpenK.AllK
import Wide.FinOn
import Lean
import PyProof.EqAt
import PyProof.EqKinds
import PyProof.TupleCall
import PyProof.StrLawsChain
import PyProof.StrLawsFirst
import PyProof.Rows.StrNews2
import OpenK.AllK
import PyProof.DictItems
import OpenK.AllK
import PyProof.DictWalks
import PyProof.ReprBulk
import PySem.Challenge.RW_primer_k32_rings
set_option Elab.async false
set_option linter.all false
set_option bootstrap.genMatcherCode false
set_option maxRecDepth 100000
set_option maxHeartbeats 4000000
set_option genInjectivity false
set_option genSizeOf false
set_option autoImplicit true
set_option relaxedAutoImplicit true
open Option renaming some->a5,none->b5,map_eq_some_iff->fx,bind_eq_some_iff->nc,isSome_iff_exists->Kz,isNone_iff_eq_none->Mg,map_eq_none_iff->Nj,isSome_map->Ox,map_some->Pq,isSome_some->Tw,getD_none->Ui
open Bool renaming true->bD,and_eq_true->b6,false->c2,false_ne_true->i0,not_eq_true'->rz,and_eq_true_iff->vl,false_eq_true->HK,or_eq_true->H0,eq_iff_iff->KP,and_false->QO,or_false->Ry,and_true->RJ,noConfusion->UX,false_and->Vk,not_true->VA
open PySem renaming wpAny_bind->cc,sizeLine->df,Value->ei,wpAny_pure->eL,Addr->fS,wpAny->hA,Shared->hH,model->hW,starEach->i7,Expr->l',wpAny_mono->r6,rawInt->u5,wpAny_loadPart'->u6,wpAny_holding->va,Program->vr,wpAny_Call_Name_kw->vu,wpAny_setState_of->x3,isSubtype_type->x6,World->x8,mainGlobals->z8,codeAny_builtin->z9,eval->D3,backTo->E1,bootBuiltins->E6,Heap->Gz,wpAny_truthy_bool->GO,wpAny_newObj_type->GQ,cLine->Hg,NameKind->Hi,Stmt->HM,Scope->Ir,scanBound->Iu,compareOp->Iv,cellsFrom->IA,foldedSetIterable->IV,holding->Jb,sysModules->JF,wpAny_passesOwn->JL,builtinLookup_eq_fast->J4,Keyword->J5,Builtin->J6,keywordEach->KC,wpAny_call_entry->KH,call->KS,plainId_quiet->KW,binaryOp->KX,tupleKind_room_in1->KY,assignEach->K0,Around->K2,wpAny_getItem_str_slice->K4,swapsWith->K8,isSubtype->Le,wpAny_setField->Lk,swapsWithSole->LV,codeAny->LW,behindInMarks->LX,sliceBounds->L6,wpAny_updateSeq->Mr,typeLookup_type->MC,pushCells->MZ,call_meets->M6,backToKw->M9,assign->M_,SetTable->Ng,FuncData->Ni,attributeBase->Nr,wpAny_rule->ND,setItem->NG,relabel->NU,codeAny_mono->NX,callerA->N0,wpAny_specialOf->N9,post_val_or_str->Od,letOwnedTupleGo->Oh,call_isinstance->Oi,pyNext->Oz,tupleKind->OE,notedBy->OS,PassesOwn->OT,wpAny_newList->O7,swappedStores->O_,typeLookup->PD,wpAny_typeOf->P9,wpAny_pyIter_list->P_,valueAt->P',setNext->Qs,setField->Qv,release->Qw,getItem->Qy,concat_meets->Qz,compEnvC->QD,wpAny_isInstance->QP,wpAny_eqBool_str->QV,wpAny_askSetting->QW,seqIndex?->QX,pickOrder->QY,noFill_tuple_add->QZ,subscripted->Rk,wpAny_execs_nil->RK,pushCells_keeps->RS,standAt->R5,wpAny_runValue->Sd,typeIs_str->Se,relayAll->Sf,pyIter->Sg,newFunctionEnv->Sh,atKey->Sk,wpAny_standAt->Tz,wpAny_comprehension_free->TB,seq_tuple_add->TC,wpAny_Call_method0_late->TZ,bindL->T_,bindC->T',wpAny_Call_method_late->Ur,setNextDrawn->Us,collect->Ut,call_meetsIn->Uu,Params->Ux,BindsTo->Uz,wpAny_isTrue_Compare1->UK,wpAny_of_eq->UY,step->UZ,seqIndex_of->U0,raiseNew->U1,codeAny_extend_loopS->U2,Operator->U3,GenState->U4,wpAny_setEntries_of->Vg,wpAny_pyIter_tuple->Vl,wpAny_load->Vm,wpAny_Name->Vn,typeOf->Vo,checkCount->Vp,builtinsNs->Vq,WalksS->Vr,JoinOk->Vt,wpAny_storeSet_of->VB,wpAny_pyIter_slot->VC,wpAny_assign_Name->VD,spliced->VE,slot_list_getitem->VF,newList->VG,fits_of_scanBound->VH,ItemsOf->VN,wpAny_eqBool_int->VR,updateSeq->VS,codeAny_of_tree->VZ,wpAny_seqItems->V6,truthy->V7,rule->V8,recursionLimit->V9,newExc->V_,firstArgMember->V',entryFor_alias->Wa,entryFor->Wb,bindArgs->Wc,augStore->Wd,argsOk->We,again->Wf
open PySem.Heap renaming get?_push_of_some->c4,get?_push_size->hh,lt_size->hQ,get?_update_self->u7,SameBut->H8,get?_update_other->Jw,get?_update_ne->Ky,size_push->NA,size_update->UM
open Decidable renaming decide->dV
open List renaming length_map->d3,getElem?_set_self->ez,getElem?_eq_some_iff->eH,size_toArray->fR,map_cons->gj,mem_cons->gs,getElem?_set_ne->hE,range->i3,getElem?_map->i6,mem_singleton->js,replicate->j0,length_append->ke,mem_cons_self->kl,mem_cons_of_mem->la,lookup_cons->lb,all_eq_true->lg,mem_map->l0,mem_append->mh,length_cons->mu,map_append->mA,getElem?_append_right->m3,nodup_cons->nC,nil_append->o3,mem_append_right->ri,map_map->ro,mem_of_getElem?->sx,getElem?_append_left->ti,getElem?_eq_getElem->tj,isEmpty_iff->uv,length_take->ve,nodup_append->wk,append_nil->x2,length_singleton->y0,not_mem_nil->DD,length->D',length_range->Fw,getElem?_replicate->Fz,mem_filter->F3,getElem_mem->G_,pairwise_cons->HE,getElem?_drop->HJ,getElem?_eq_none->HR,map_congr_left->IY,filterMap_cons->IZ,mem_range->I0,getD->I_,find?_cons->JB,toArray->J8,map_nil->J_,length_replicate->Li,mem_iff_getElem->Lq,of_mem_zip->Lw,dropLast_concat_getLast->LL,mem_map_of_mem->LM,getElem_of_mem->LP,filter_sublist->LR,zip_cons_cons->Mh,perm_ext_iff_of_nodup->Mq,reverse_cons->MY,getElem?_cons_succ->Nk,take_of_length_le->Np,filter_eq_nil_iff->Nq,length_filter_le->Nu,nodup_nil->NC,length_reverse->Ol,any_cons->Ov,ext_getElem?->OU,eraseIdx_eq_take_drop_succ->O2,eraseIdxIfInBounds_toArray->O3,ext_getElem->Px,any_eq_true->PB,map_id->PF,length_nil->PN,foldl_cons->PU,drop_left'->PV,drop_eq_getElem_cons->Q5,getElem?_take_of_lt->Rp,all_cons->Rx,length_eq_zero_iff->RW,eraseIdx_cons_succ->RX,dropLast_eq_take->Ti,mem_append_left->Tx,mem_filterMap->Uj,map_singleton->Ul,filter_append->Uo,take_sublist->UI,flatten_cons->UJ,mem_flatten->UO,map_fst_zip->UP,length_drop->UQ,getElem_inj->UR,filter_cons->US,drop_length->UT,cons_append->UU,length_zip->Vd,length_set->Ve,perm_nil->Vw,map_take->Vx,map_drop->Vy,findIdx?->Vz,all_map->VQ,range'->VW
open Nat renaming le_refl->hY,ne_of_lt->i2,lt_of_lt_of_le->i5,zero_le->kj,lt_irrefl->rb,le_trans->w6,ne_of_gt->Ib,lt_succ_of_lt->Ic,le_of_lt->Ie,le_succ->Jy,lt_succ_self->Kl,lt_trans->O1,add_sub_cancel_left->Sb,le_of_eq->Th,not_lt_of_lt->Vc,mod_lt->Wn
open PySem.Value renaming ref->i1,none->oT,type->td,str->wh,bool->Md,isStrOf->Oj,isStrOf_shape->To,int->Uv,isInt->VJ
open Sum renaming inr->ko,inl->O0
open PySem.Obj renaming mapSeq->mx,data_mapFields->MI,putSet->Nt,isFreed_of_fields->Tr,cls_mapFields->UL,mapFields->VL
open Array renaming length_toList->my,getElem?_toList->tA,size_append->OA,getD->QL,toList->R3,toArray_toList->Tn,toList_push->Uq
open Ne renaming symm->qs
open PySem.Builtin.List renaming listExtendWith->qP,listTooLong->Hv,listSameRef->JG,listLengthHint->Om,listItems->Pf,listUpdate->V1
open Option.some renaming inj->ra,injEq->Nv
open PySem.Str renaming empty->tr,ofString->Sy,length->Wh
open PyProof.Rows renaming seqObj->t4,size_push'->GR,callWith_type1->Lg,callWith_builtin1->NB,envOfC->N3,AllBare->N7,subscriptTail->Pj,listUpdate_at->Pl,entry_list_sort->RU,sortedHeap_old->SU,sortedHeap->SV,slot_list_sort->S0,args_list_sort->Tf,sortedHeap_at->TX,subscriptTail_builtinR->UA,plain_sorted->UB,listItems_at->UC,entry_sorted->UD,args_sorted1->UE,IntsAre->UH,tail_any->U',seqEpoch_at->Va,kind_sorted->Vb,Subscript_->Vv,slot_str_getitem->VV,lt_str->V2,get?_update_seq->V3,call_isinstance_yes->V4,keyKind'->Wk,isTrue_and_nil->Wl,IsTup->Wm
open Int renaming eq_ofNat_of_zero_le->uk,emod_nonneg->LU,emod_lt_of_pos->MQ,toNat_natCast->UW,le_trans->VY
open PySem.Around renaming under_plainId->D2
open PySem.NameKind renaming free->F4,cell->Gj
open PySem.Calls renaming callWith_builtin->GH,evalArgs_plain->JV,spliced_cons->KJ,call_function_entry->MJ,spliced_nil->MW,Name_function_global->QG
open PySem.W renaming kas_sort->HZ,kas_ask->R6,kas_count->Ug,KasT->Wg
open PySem.SetTable renaming below->Ig,grown->Lr,sizeAbove->R7,orStandIn->R',layClean->Sz,relaid->TF,laid->Uw
open PyProof.Rows.F renaming plain_set_update_loop->JA,entry_set_update_loop->M1
open PySem.Heap.SameBut renaming update->JC,refl->Q4
open False renaming elim->J2
open PySem.AutoSeq1 renaming wpAny_loadPart'->J7,sub_list_list->M0,sub_tuple_tuple->PK,sub_tuple_list->QH,sub_list_tuple->QI,idx_int->Tv
open ForInStep renaming yield->Kj
open LT renaming lt->Lh
open List.cons renaming injEq->Lj
open PySem.Shared renaming TypeIs->MS
open PySem.SeqAt renaming EqAt->Nl,ne_of_list_tuple->RT,RcAt->TH,RcNeAt->Vs
open PySem.Txt renaming join->N2
open Sum.inr renaming inj->OD
open PySem.MeetsSeq3 renaming plain_eq_loop->O'
open PySem.pickOrder renaming go->Qx
open PySem.SetTable.below renaming go->QE
open Prod.mk renaming injEq->QJ
open True renaming intro->QM
open Classical renaming choose_spec->QN,choose->Tj
open PySem.PassesOwn renaming never->Tq
open PySem.Data renaming fields->Tu,cell->Wj
open PySem.Code renaming quiet_builtin->Uh
open PySem.F renaming args_list_extend_2->Uy,entry_list_extend->UN,slot_list_extend->U5,entry_list_pop->Vu,slot_list_pop->VP
open PyProof.Rows.IsTup renaming new->UG
open PySem.Builtin.Frozenset renaming updateFrom->U6,slot0->U7,sizeOf->U8,newClass->U9,addrOf->U_
open LE renaming le->Vf
open PySem.ItemsOf renaming nil->Vh
open PyProof.Rows.LSm renaming range_all->Vi,kept_iter->Vj
open PySem.W.WShape renaming has->VI
open PySem.Moved renaming trans->VM
open PySem.Heap.IsSliceOf renaming new->VO
open PySem.Walks renaming list->VT
open PySem.Builtin.Range renaming rangeSize->VU
open List.Pairwise renaming nil->VX
open PySem.W.WData renaming int->V0
open ToString renaming toString->V5
open PySem.Heap.DictOf renaming new->Wi
abbrev Wo:=@decide_eq_true_eq
abbrev Wq:=@if_pos
abbrev Wr:=@decide_eq_false
abbrev Ws:=@if_neg
abbrev Wt:=@decide_eq_true
abbrev Wu:=@of_decide_eq_true
abbrev Wv:=@congrArg
local macro_rules|`(def $a:declId $b* : $t :=$v)=>`(theorem $a:declId $b* : $t :=$v)
local macro_rules|`(abbrev $a:declId $b:optDeclSig $c:declVal)=>`(noncomputable def $a:declId $b:optDeclSig $c:declVal)
local macro_rules|`(tactic|show $t)=>`(tactic|refine $t)
local macro_rules|`(tactic|have⟨$a,*⟩:=$t)=>do let p<-a.getElems.mapM fun x=>`(Lean.Parser.Tactic.rcasesPatLo|$(⟨x⟩):ident);`(tactic|obtain⟨$p,*⟩:=$t)
local macro_rules|`(⋯)=>`(by lia)
local macro_rules|`(∅)=>`(by(first|exact trivial|exact⟨⟨_,rfl,rfl⟩,trivial⟩|exact⟨⟨_,rfl,rfl⟩,⟨_,rfl,rfl⟩,trivial⟩))
namespace L2
open PySem PySem.Spec PyProof.Rows
@[reducible]def Key:=Sum Int Str
abbrev iq:Key->ei->Bool
 |.inl k,v=>VJ k v
 |.inr x,v=>Oj x v
abbrev Ea(w:x8):Key->Int
 |.inl k=>hashInt k
 |.inr x=>hashStr w x
theorem aT:∀{k:Key}{v:ei},iq k v=bD->(∃i t,k=O0 i/\v=Uv i t)\/(∃x t,k=ko x/\v=wh x t)
 |.inl i,v,h=>by
  have⟨t,e⟩:=Value.isInt_shape (k:=i) (v:=v) h;show .inl ⟨i,t,rfl,e⟩
 |.inr x,v,h=>by
  have⟨t,e⟩:=To (x:=x) (v:=v) h;show .inr ⟨x,t,rfl,e⟩
def r9(i:Int)(t:Tok):iq (.inl i) (.int i t)=bD:=by simp[iq,VJ]
def r_(x:Str)(t:Tok):iq (.inr x) (.str x t)=bD:=by simp[iq,Oj]
def zX(a b:Int):dV ((O0 a:Key)=O0 b)=(a==b):=by
 by_cases e:a=b
 .subst e;simp
 .have h:¬(O0 a:Key)=O0 b:=λq=>e (Sum.inl.inj q);rw[Wr h];show(beq_eq_false_iff_ne.mpr e).symm
def zY(a b:Str):dV ((ko a:Key)=ko b)=dV (a=b):=by
 by_cases e:a=b
 .subst e;simp
 .have h:¬(ko a:Key)=ko b:=λq=>e (OD q);rw[Wr h,Wr e]
def zZ(a:Int)(b:Str):dV ((O0 a:Key)=ko b)=c2:=Wr (λq=>nomatch q)
def z_(a:Str)(b:Int):dV ((ko a:Key)=O0 b)=c2:=Wr (λq=>nomatch q)
abbrev aG(prog:vr)(w:x8):PySem.KeyKind prog w Key where
 is:=iq
 hash:=Ea w
 inj:=λv a b g f=>by
  rcases aT g with⟨i,t,rfl,rfl⟩|⟨x,t,rfl,rfl⟩
  .rcases aT f with⟨j,u,rfl,e⟩|⟨y,u,rfl,e⟩
   .injection e with c _;rw[c]
   .show nomatch e
  .rcases aT f with⟨j,u,rfl,e⟩|⟨y,u,rfl,e⟩
   .show nomatch e
   .injection e with c _;rw[c]
 byValue:=λk v h=>by
  rcases aT h with⟨i,t,rfl,rfl⟩|⟨x,t,rfl,rfl⟩<;>rfl
 pyHash:=λd h=>by
  rcases aT d with⟨i,t,rfl,rfl⟩|⟨x,t,rfl,rfl⟩
  .show wpAny_pyHash_int h
  .show wpAny_pyHash_str h
 eqBool:=λl d h=>by
  rcases aT l with⟨i,t,rfl,rfl⟩|⟨x,t,rfl,rfl⟩
  .rcases aT d with⟨j,u,rfl,rfl⟩|⟨y,u,rfl,rfl⟩
   .rw[zX]at h;show VR h
   .rw[zZ]at h;show SeqAt.EqAt.int_str i t y u _ _ _ _ h
  .rcases aT d with⟨j,u,rfl,rfl⟩|⟨y,u,rfl,rfl⟩
   .rw[z_]at h;show SeqAt.EqAt.str_int x t j u _ _ _ _ h
   .rw[zY]at h;show QV h
 «strs»:=λk x t v h=>by
  rcases aT h with⟨i,u,rfl,e⟩|⟨y,u,rfl,e⟩
  .show nomatch e
  .injection e with c _
   subst c;cases v<;>rfl
def ni(prog:vr)(w:x8)(i:Int)(t:Tok):(aG prog w).is (.inl i) (.int i t)=bD:=r9 i t
def nj(prog:vr)(w:x8)(x:Str)(t:Tok):(aG prog w).is (.inr x) (.str x t)=bD:=r_ x t
inductive V where
 |EY|bl (b:Bool)|int (i:Int)|str (x:Str)|L0 (b:Array UInt8)|L3 (b:UInt64)|ref (a:fS)|ty (n:String)
 deriving DecidableEq
def RelV:V->ei->Prop
 |.EY,u=>u=oT
 |.bl b,u=>u=Md b
 |.int i,u=>∃t,u=Uv i t
 |.str x,u=>∃t,u=wh x t
 |.L0 b,u=>∃t,u=Value.bytes b t
 |.L3 b,u=>∃t,u=Value.float b t
 |.ref a,u=>u=i1 a
 |.ty n,u=>u=td n
@[reducible]def Vals:List V->List ei->Prop:=Paired RelV
def Vals.length(r:Vals xs us):xs.length=us.length:=Paired.length r
theorem Vals.get:∀{xs:List V}{us:List ei}{i:Nat}{x:V},Vals xs us->xs[i]?=a5 x->∃u,us[i]?=a5 u/\RelV x u
 |_,_,_,_,.nil,e=>by simp at e
 |_,_,0,_,.cons r _,e=>by simp at e;subst e;show⟨_,rfl,r⟩
 |_,_,i+1,x,.cons _ t,e=>by
  have⟨u,a,b⟩:=Vals.get (i:=i) (x:=x) t (by simpa using e);show⟨u,by simpa using a,b⟩
theorem Vals.set(r:RelV x u):∀{xs:List V}{us:List ei} (i:Nat),Vals xs us->Vals (xs.set i x) (us.set i u)
 |_,_,_,.nil=>.nil
 |_,_,0,.cons _ t=>.cons r t
 |_,_,i+1,.cons q t=>.cons q (Vals.set r i t)
theorem Vals.append:∀{xs ys:List V}{us ws:List ei},Vals xs us->Vals ys ws->Vals (xs++ys) (us++ws)
 |_,_,_,_,.nil,s=>s
 |_,_,_,_,.cons r t,s=>.cons r (Vals.append t s)
theorem Vals.take:∀{xs:List V}{us:List ei} (n:Nat),Vals xs us->Vals (xs.take n) (us.take n)
 |_,_,0,_=>.nil
 |_,_,_+1,.nil=>.nil
 |_,_,n+1,.cons r t=>.cons r (Vals.take n t)
theorem Vals.drop:∀{xs:List V}{us:List ei} (n:Nat),Vals xs us->Vals (xs.drop n) (us.drop n)
 |_,_,0,r=>r
 |_,_,_+1,.nil=>.nil
 |_,_,n+1,.cons _ t=>Vals.drop n t
def iG:Option V->Option ei->Prop
 |some v,a5 u=>RelV v u
 |none,b5=>True
 |_,_=>False
abbrev KV{κ:Type}:List (κ×V)->List (κ×ei)->Prop:=Paired λ(p:κ×V) (q:κ×ei)=>p.1=q.1/\RelV p.2 q.2
abbrev kV:Key->V
 |.inl i=>.int i
 |.inr x=>.str x
inductive HO where
 |lst (xs:List V)
 |tup (xs:List V)
 |dK (kvs:List (Key×V))|dT (kvs:List (List Key×V))
 |set (S:Int->Bool) (n:Nat)
 |ins (C dx:fS) (fs:List (Str×V))
 |own (x:fS)
 |xd (fs:List (Str×V))
 |met (f x:fS)
 |MR (lo hi:Int)
 |FO (o:Obj) (u:HO)
 |Jx (ps:Array ei)
 |ext (φ:Gz->Prop)
@[reducible]def Hp:=fS->Option HO
abbrev upd(H:Hp)(a:fS)(o:HO):Hp:=λb=>if b=a then a5 o else H b
def au:upd H a o a=a5 o:=by unfold upd;rw[Wq rfl]
def aj(h:b≠a):upd H a o b=H b:=by unfold upd;rw[Ws h]
def Cj{H:Hp}(h:H a=a5 o)(h':H b=a5 u)(d:o≠u):a≠b:=by
 intro e;subst e;rw[h]at h';show d (ra h')
def bh{H:Hp}(h:H a=a5 o)(h':H b=b5):a≠b:=by
 intro e;subst e;rw[h]at h';cases h'
section
variable(P:vr)(w:x8)
def bu(H:Hp)(h:Gz)(a:fS):HO->Prop
 |.lst xs=>xs.length<=df/\∃(c:List ei) (n:Nat),Vals xs c/\h.get? a=a5 {cls:=.type "list",data:=.seq c.toArray n}
 |.tup xs=>xs.length<=df/\∃c:List ei,Vals xs c/\Wm h a c.toArray
 |.dK kvs=>kvs.length<=df/\(a==JF)=c2/\∃vs,KV kvs vs/\h.DictOf (aG P w) a vs
 |.dT kvs=>kvs.length<=df/\(a==JF)=c2/\∃xs:List (List Key×fS×ei),
   Paired (λ(p:List Key×V) (q:List Key×fS×ei)=>p.1=q.1/\H q.2.1=a5 (.tup (p.1.map kV))/\RelV p.2 q.2.2) kvs xs /\
   ∃o es ep,h.get? a=a5 o/\o.ExactDict/\o.data=.dict es ep/\es.toList=xs.map (entryOfKey (OE (aG P w)))/\(xs.map (·.1)).Nodup
 |.set S n=>h.SetOf (intKind P w) a S n
 |.ins C e d=>H e=a5 (.own a)/\d.length<=1000/\e≠a/\h.get? a=a5 (PySem.W.instObj C e) /\
   ∃b,h.Ns1 e b/\(∀f,iG (d.lookup f) (b f))/\PySem.Within b (d.map (·.1))
 |.own _=>∃o,h.get? a=a5 o
 |.xd d=>∃b,h.Ns1 a b/\∀f,iG (d.lookup f) (b f)
 |.MR lo j=>∃t u v,h.get? a=a5 {cls:=.type "range",data:=.fields #[.int lo t,.int j u,.int 1 v]}
 |.FO o u=>h.get? a=a5 o/\bu H h a u
 |.Jx k=>h.get? a=a5 {cls:=.none,data:=.fields k}
 |.met f x=>h.get? a=a5 (PySem.W.methodObj (.ref f) (.ref x))
 |.ext φ=>φ h/\(∃o,h.get? a=a5 o)/\∀g i:Gz,φ g->(∀o,g.get? a=a5 o->i.get? a=a5 o)->φ i
abbrev FQ(H:Hp)(h:Gz):Prop:=∀a o,H a=a5 o->bu P w H h a o
end
section
def bu.lt(x:bu P w H h a o):a<h.objs.size:=by
 cases o with
 |lst xs=>obtain⟨_,_,_,_,e⟩:=x;show hQ e
 |tup xs=>obtain⟨_,_,_,p⟩:=x;show p.lt
 |set S n=>obtain⟨o,_,_,_,e,_⟩:=x;show hQ e
 |ins C c b=>obtain⟨_,_,_,e,_⟩:=x;show hQ e
 |own y=>obtain⟨_,e⟩:=x;show hQ e
 |xd b=>obtain⟨_,⟨_,_,_,e,_⟩,_⟩:=x;show hQ e
 |MR lo d=>obtain⟨_,_,_,e⟩:=x;show hQ e
 |FO g u=>obtain⟨e,_⟩:=x;show hQ e
 |Jx i=>show hQ (show h.get? a=a5 _ from x)
 |met f y=>show hQ (show h.get? a=a5 _ from x)
 |ext φ=>obtain⟨_,⟨_,e⟩,_⟩:=x;show hQ e
 |_=>obtain⟨_,_,_,_,o,_,_,e,_⟩:=x;show hQ e
theorem Paired.Aa:∀{c:List α}{d:List β},Paired F c d->(∀a b,F a b->G a b)->Paired G c d
 |_,_,.nil,_=>.nil
 |_,_,.cons r t,f=>.cons (f _ _ r) (Paired.Aa t f)
def bu.nq(x:bu P w H h a o)(k:∀b u,(b=a\/H b=a5 (.own a))->h.get? b=a5 u->h'.get? b=a5 u)
  (ho:∀b,H b=a5 (.own a)->H' b=a5 (.own a)) (s:∀b xs,H b=a5 (.tup xs)->H' b=a5 (.tup xs)):bu P w H' h' a o:=by
 induction o with
 |lst xs=>have⟨z,i,n,r,e⟩:=x;show⟨z,i,n,r,k _ _ (.inl rfl) e⟩
 |tup xs=>have⟨z,i,r,g,e,c⟩:=x;show⟨z,i,r,g,k _ _ (.inl rfl) e,c⟩
 |dK kvs=>have⟨z,y,vs,r,g,es,ep,e,c⟩:=x;show⟨z,y,vs,r,g,es,ep,k _ _ (.inl rfl) e,c⟩
 |dT kvs =>
  have⟨z,y,xs,r,g,es,ep,e,c⟩:=x;show⟨z,y,xs,Paired.Aa r λp q z=>⟨z.1,s _ _ z.2.1,z.2.2⟩,g,es,ep,k _ _ (.inl rfl) e,c⟩
 |set S n=>have⟨g,es,ep,t,e,c⟩:=x;show⟨g,es,ep,t,k _ _ (.inl rfl) e,c⟩
 |ins C I A =>
  obtain⟨d,z,B,e,j,⟨l,es,ep,D,c⟩,r⟩:=x;show⟨ho _ d,z,B,k _ _ (.inl rfl) e,j,⟨l,es,ep,k _ _ (.inr d) D,c⟩,r⟩
 |own y=>have⟨g,e⟩:=x;show⟨g,k _ _ (.inl rfl) e⟩
 |xd A=>obtain⟨j,⟨l,es,ep,e,c⟩,r⟩:=x;show⟨j,⟨l,es,ep,k _ _ (.inl rfl) e,c⟩,r⟩
 |MR lo J=>have⟨t,u,v,e⟩:=x;show⟨t,u,v,k _ _ (.inl rfl) e⟩
 |FO g u G=>have⟨e,q⟩:=x;show⟨k _ _ (.inl rfl) e,G q⟩
 |Jx m =>
  have e:h.get? a=a5 {cls:=.none,data:=.fields m}:=x;change h'.get? a=a5 {cls:=.none,data:=.fields m};show k a _ (.inl rfl) e
 |met f y =>
  have e:h.get? a=a5 (PySem.W.methodObj (.ref f) (.ref y)):=x;change h'.get? a=a5 (PySem.W.methodObj (.ref f) (.ref y));show k a _ (.inl rfl) e
 |ext φ=>obtain⟨p,⟨o,e⟩,st⟩:=x;show⟨st _ _ p λo q=>k _ _ (.inl rfl) q,⟨o,k _ _ (.inl rfl) e⟩,st⟩
def FQ.lt(x:FQ P w H h)(e:H a=a5 o):a<h.objs.size:=(x a o e).lt
def FQ.fresh(x:FQ P w H h)(e:h.objs.size<=a):H a=b5:=by
 cases q:H a with
 |none=>rfl
 |some u=>show absurd (i5 (x.lt q) e) (rb _)
def FQ.kept(x:FQ P w H h)(k:∀b u,h.get? b=a5 u->h'.get? b=a5 u):FQ P w H h':=λa o e =>
 (x a o e).nq (λb u _ q=>k b u q) (λ_ q=>q) λ_ _ q=>q
def FQ.laid(x:FQ P w H h)(k:∀b u,h.get? b=a5 u->h'.get? b=a5 u)(g:h.objs.size<=a)(new:bu P w (upd H a o) h' a o):FQ P w (upd H a o) h':=λb u e=>by
 have d:=x.fresh g;by_cases f:b=a
 .subst f;rw[au]at e;cases e;show new
 .rw[aj f]at e;show(x b u e).nq (λc v _ q=>k c v q) (λc q=>by rw[aj (bh q d)];show q) λc xs q=>by rw[aj (bh q d)];show q
end
abbrev Rd(H:Hp)(a:fS)(u:HO):Prop:=H a=a5 u\/∃o,H a=a5 (.FO o u)
def Rd.ok(r:Rd H a u)(x:FQ P w H h):bu P w H h a u:=by
 rcases r with r|⟨o,r⟩
 .show x a u r
 .obtain⟨_,q⟩:=x a _ r;show q
def KA:Option HO->Prop
 |some (.lst _)=>True
 |some (.dK _)=>True
 |some (.dT _)=>True
 |some (.set _ _)=>True
 |some (.ins _ _ _)=>True
 |some (.ext _)=>True
 |_=>False
section
def FQ.write(l:FQ P w H h)(a:KA (H x))(g:e=x\/H e=a5 (.own x))(k:∀b u,b≠e->h.get? b=a5 u->h'.get? b=a5 u)(m:∃u,h'.get? e=a5 u)
  (new:bu P w (upd H x o') h' x o'):FQ P w (upd H x o') h':=λb u q=>by
 have i:∀c y,H c=a5 (.own y)->c≠x:=λc y r z=>by subst z;rw[r]at a;show a
 have n:∀c xs,H c=a5 (.tup xs)->c≠x:=λc xs r z=>by subst z;rw[r]at a;show a
 by_cases d:b=x
 .subst d;rw[au]at q;cases q;show new
 .rw[aj d]at q;by_cases f:b=e
  .have j:H b=a5 (.own x):=by
    rcases g with z|z
    .show absurd (f.trans z) d
    .rw[f];show z
   rw[q]at j;cases j;have⟨v,o⟩:=m;show⟨v,by rw[f];show o⟩
  .show(l b u q).nq (λc v hc r=>k c v ?_ r) (λc r=>by rw[aj (i c b r)];show r) λc xs r=>by rw[aj (n c xs r)];show r
   rcases hc with rfl|hc
   .show f
   .rintro rfl;rcases g with z|z
    .show i c b hc z
    .rw[hc]at z;cases z;show d rfl
end
structure Un(fs ex:List fS)(H H':Hp)(h h':Gz):Prop where
 keep:∀b o,h.get? b=a5 o->H b=b5->b∉fs->b∉ex->h'.get? b=a5 o
 slot:∀b o,h.get? b=a5 o->H b=b5->b∈fs->b∉ex->∃sl,h'.get? b=a5 {o with slots:=sl}
 free:∀b o,h.get? b=a5 o->H b=b5->b∉ex->H' b=b5
 there:∀b o,h.get? b=a5 o->b∉ex->∃o',h'.get? b=a5 o'
 iK:∀b xs,H b=a5 (.tup xs)->H' b=a5 (.tup xs)
 Gk:∀b o u,H b=a5 (.FO o u)->H' b=a5 (.FO o u)
 GA:∀b ps,H b=a5 (.Jx ps)->∃more,H' b=a5 (.Jx (ps++more))
section
def Un.any(u:Un e ex H i h f)(q:h.get? b=a5 a)(n:H b=b5)(c:b∉ex):∃g,f.get? b=a5 {a with slots:=g}:=by
 by_cases d:b∈e
 .show u.slot b a q n d c
 .show⟨a.slots,u.keep b a q n d c⟩
def Un.kept(k:∀b u,h.get? b=a5 u->h'.get? b=a5 u):Un c ex H H h h' :=
 ⟨λb a q _ _ _=>k b a q,λb a q _ _ _=>⟨a.slots,k b a q⟩,λ_ _ _ n _=>n,λb a q _=>⟨a,k b a q⟩,λ_ _ q=>q,λ_ _ _ q=>q,λ_ d q=>⟨#[],by rw[q];simp⟩⟩
def Un.refl:Un a ex H H h h:=Un.kept λ_ _ q=>q
def Un.laid(k:∀b u,h.get? b=a5 u->h'.get? b=a5 u)(d:h.objs.size<=a)(c:H a=b5):Un e ex H (upd H a o) h h' where
 keep:=λb u q _ _ _=>k b u q
 slot:=λb u q _ _ _=>⟨u.slots,k b u q⟩
 free:=λb u q n _=>by rw[aj (i2 (i5 (hQ q) d))];show n
 there:=λb u q _=>⟨u,k b u q⟩
 iK:=λb xs q=>by rw[aj (bh q c)];show q
 Gk:=λb u xs q=>by rw[aj (bh q c)];show q
 GA:=λb f q=>⟨#[],by rw[aj (bh q c),q];simp⟩
def Un.write(a:KA (H x))(i:e=x\/H e=a5 (.own x))(k:∀b u,b≠e->h.get? b=a5 u->h'.get? b=a5 u)(j:∃u,h'.get? e=a5 u):Un m ex H (upd H x o) h h':=by
 have d:∀b,H b=b5->b≠x:=λb n z=>by subst z;rw[n]at a;show a
 have f:∀b,H b=b5->b≠e:=λb n z=>by
  subst z;rcases i with r|r
  .show d b n r
  .rw[n]at r;cases r
 have c:∀b u,H b=a5 u->¬KA (a5 u)->b≠x:=λb u q l z=>by subst z;rw[q]at a;show l a
 show⟨λb u q n _ _=>k b u (f b n) q,λb u q n _ _=>⟨u.slots,k b u (f b n) q⟩,λb u q n _=>by rw[aj (d b n)];show n,λb u q _=>?_,
  λb xs q=>by rw[aj (c b _ q λz=>z)];show q,λb u xs q=>by rw[aj (c b _ q λz=>z)];show q,λb p q=>⟨#[],by rw[aj (c b _ q λz=>z),q];simp⟩⟩
 by_cases g:b=e
 .subst g;show j
 .show⟨u,k b u g q⟩
end
abbrev L4(h:Gz)(H:Hp):List fS:=(i3 h.objs.size).filter λa=>(H a).isSome
abbrev lO(h:Gz)(H:Hp):Gz:=PySem.W.hideAll h (L4 h H)
def sd(h:Gz)(H:Hp):(lO h H).objs.size=h.objs.size:=PySem.W.hideAll_size _ _
def tX(e:h.get? b=a5 o)(n:H b=b5):(lO h H).get? b=a5 o :=
 PySem.W.hideAll_get _ e λa=>by
  have q:(H b).isSome=bD:=(F3.mp a).2;rw[n]at q;simp at q
def xh(e:(lO h H).get? b=a5 o):h.get? b=a5 o/\H b=b5:=by
 have a:h.get? b=a5 o:=PySem.W.of_hideAll (L4 h H) e;show⟨a,?_⟩;cases q:H b with
 |none=>rfl
 |some x =>
  have c:b∈L4 h H:=F3.mpr ⟨I0.mpr (hQ a),by simp[q]⟩;have z:(lO h H).get? b=b5:=PySem.W.hideAll_none (L4 h H) c;rw[z]at e;cases e
structure Mod(K:PySem.W.Frag)(mg:Str->Option ei)(base:Gz):Prop where
 KD:K.In base
 glob:base.Ns z8 mg
 blt:∃mb,base.Ns Vq mb/\∀x:Str,x≠"__name__"->mb x=E6 x
 nolimit:base.NoLimit
structure Cx where
 prog:vr
 w:x8
 K:PySem.W.Frag
 mg:Str->Option ei
 base:Gz
 A:K2
 N:List Str
 s₀:hH
 H₀:Hp
 env:Env
 outer:List Env
 stack:List Env
 ex:List fS
 fn:Str->Bool
 calm:Bool
 pn:List (fS×Obj)
 xe:ei->hH->Prop
abbrev Hh(l:List Env):List fS:=l.filterMap (·.frame)
noncomputable abbrev Cx.fs(X:Cx):List fS:=Hh X.outer
abbrev GB(a:Ir)(x:Str):Prop:=a.names.lookup x=a5 .local\/a.names.lookup x=a5 .cell\/a.names.lookup x=a5 .free
abbrev Loc(a:Ir)(x:Str):Prop:=a.names.lookup x=a5 .local\/a.names.lookup x=a5 .cell
abbrev Look(env:Env)(h:Gz)(m:Str->Option ei)(x:Str)(u:ei):Prop :=
 (env.kindOf x=a5 .local/\m x=a5 u)\/((env.kindOf x=a5 .cell\/env.kindOf x=a5 .free)/\∃c,env.cells.lookup x=a5 c/\h.IsCell c (a5 u))
structure Cx.Ok(X:Cx):Prop where
 mod:Mod X.K X.mg X.base
 kind:X.env.scope.kind=.function
 glob:X.env.globals=z8
 blt:X.env.builtins=Vq
 above:X.s₀.heap.objs.size<=X.env.locals
 inj:∀x y c,X.env.cells.lookup x=a5 c->X.env.cells.lookup y=a5 c->x=y
 has:∀x,(X.env.kindOf x=a5 .cell\/X.env.kindOf x=a5 .free)->∃c,X.env.cells.lookup x=a5 c
 KG:∀x c,X.fn x=bD->X.env.cells.lookup x=a5 c->X.s₀.heap.objs.size<=c
 hd:X.calm=bD->X.A.handled=b5
 frames:X.A.frames=a5 X.stack
 L5:X.stack=X.outer\/(X.stack=X.env::X.outer/\X.env.frame=a5 X.env.locals)
 O9:∀b∈X.ex,b≠X.env.locals/\∀x c,X.env.cells.lookup x=a5 c->c≠b
 bs:∀b o,X.base.get? b=a5 o->X.s₀.heap.get? b=a5 o/\X.H₀ b=b5
 IW:X.base.objs.size<=X.s₀.heap.objs.size
 HI:∀b o,X.base.get? b=a5 o->b∉X.ex
 Iy:∀b∈X.ex,b∉X.fs
 i8:X.s₀.heap.FunFrames X.base X.outer
 J':∀b∈X.fs,X.H₀ b=b5
structure Inv(X:Cx)(pins:List (fS×Obj))(σ:List (Option V))(H:Hp)(s:hH):Prop where
 ok:X.Ok
 os:s.os=X.s₀.os
 bare:N7 s.gens
 base:Un X.fs X.ex X.H₀ H X.s₀.heap s.heap
 loc:∃m,s.heap.Ns X.env.locals m/\∀(i:Nat) (x:Str) (v:V),X.N[i]?=a5 x->σ[i]?=a5 (a5 v)->GB X.env.scope x->∃u,RelV v u/\Look X.env s.heap m x u
 cell:∀x c,X.env.cells.lookup x=a5 c->∃v,s.heap.IsCell c v
 free:H X.env.locals=b5
 Fy:∀x c,X.env.cells.lookup x=a5 c->H c=b5
 pin:∀p∈X.pn++pins,s.heap.get? p.1=a5 p.2/\H p.1=b5/\p.1≠X.env.locals/\p.1∉X.fs/\∀v,p.2.data≠.cell v
 EZ:FQ X.prog X.w H s.heap
 len:σ.length=X.N.length
section
variable{X:Cx}{pins:List (fS×Obj)}{σ:List (Option V)}{H H':Hp}{s:hH}{h':Gz}
def Cx.Ok.Eb(a:X.Ok)(e:X.base.get? b=a5 o):b∉X.fs:=λc=>by
 have:=(a.i8.mem c).1;rw[e]at this;cases this
def Inv.bs(I:Inv X pins σ H s):∀b o,X.base.get? b=a5 o->s.heap.get? b=a5 o/\H b=b5:=λb o e =>
 ⟨I.base.keep b o (I.ok.bs b o e).1 (I.ok.bs b o e).2 (I.ok.Eb e) (I.ok.HI b o e),I.base.free b o (I.ok.bs b o e).1 (I.ok.bs b o e).2 (I.ok.HI b o e)⟩
def Inv.bk(I:Inv X pins σ H s):∀b o,X.base.get? b=a5 o->s.heap.get? b=a5 o:=λb o e=>(I.bs b o e).1
def Inv.mod(I:Inv X pins σ H s):Mod X.K X.mg X.base:=I.ok.mod
def Inv.IX(I:Inv X pins σ H s):X.K.In s.heap:=I.ok.mod.KD.keeps I.bk
def Inv.lt(I:Inv X pins σ H s):X.env.locals<s.heap.objs.size:=let ⟨_,a,_⟩:=I.loc;a.lt
def Inv.sz(I:Inv X pins σ H s):X.s₀.heap.objs.size<=s.heap.objs.size:=w6 I.ok.above (Ie I.lt)
def Inv.Cm(I:Inv X pins σ H s)(h:s.heap.objs.size<=a):a∉X.fs:=λb=>by
 obtain⟨_,o,ho,_⟩:=I.ok.i8.mem b;show absurd (i5 (hQ ho) (w6 I.sz h)) (rb _)
def Inv.Jz(I:Inv X pins σ H s):∀x c,X.env.cells.lookup x=a5 c->c≠X.env.locals:=λx c e z=>by
 have⟨v,o,ho,a⟩:=I.cell x c e;obtain⟨m,⟨o',es,ep,b,d,_⟩,_⟩:=I.loc;rw[z,b]at ho;cases ho;rw[d]at a;cases a
def Inv.i8(I:Inv X pins σ H s):s.heap.FunFrames X.base X.outer:=by
 have all:∀(l:List Env),(∀b∈Hh l,b∈X.fs)->X.s₀.heap.FunFrames X.base l->s.heap.FunFrames X.base l:=by
  intro l;induction l with
  |nil=>intro _ _;trivial
  |cons env r f =>
   intro hs hl;obtain⟨hk,⟨L,o,a,g,ho,h⟩,i⟩:=hl;have c:L∈X.fs:=hs L (by unfold Hh;rw[IZ,a];show kl);have⟨j,e⟩:=I.base.slot L o ho (I.ok.J' L c) c λz=>I.ok.Iy L z c;show⟨hk,⟨L,_,a,g,e,h⟩,f (λb d=>hs b (by unfold Hh;rw[IZ,a];show la _ d)) i⟩
 show all X.outer (λ_ d=>d) I.ok.i8
def Inv.stack(I:Inv X pins σ H s):s.heap.FunFrames X.base X.stack:=by
 rcases I.ok.L5 with e|⟨e,a⟩
 .rw[e];show I.i8
 .rw[e];obtain⟨m,b,_⟩:=I.loc;show .cons (by rw[I.ok.kind];decide) a b ?_ I.i8;show Heap.get?_none_of_le (w6 I.ok.IW I.ok.above)
def Inv.i9(I:Inv X pins σ H s):∀b∈Hh X.stack,b∈X.env.locals::X.fs:=λb a=>by
 rcases I.ok.L5 with e|⟨e,c⟩
 .rw[e]at a;show la _ a
 .rw[e]at a;unfold Hh at a;rw[IZ,c]at a;show a
def Inv.qu(I:Inv X pins σ H s):∀b∈Hh X.stack,H b=b5:=λb hb=>by
 rcases gs.mp (I.i9 b hb) with e|hb
 .rw[e];show I.free
 .obtain⟨_,o,ho,_⟩:=I.ok.i8.mem hb;show I.base.free b o ho (I.ok.J' b hb) λz=>I.ok.Iy b z hb
def Inv.step{ch:List fS}(I:Inv X pins σ H s)
  (j:∀b∈ch,(b∈X.ex\/X.s₀.heap.objs.size<=b)/\b≠X.env.locals/\(∀x c,X.env.cells.lookup x=a5 c->c≠b)/\∀p∈X.pn++pins,p.1≠b)
  (keep:∀b o,b≠X.env.locals->b∉X.fs->b∉ch->s.heap.get? b=a5 o->H b=b5->h'.get? b=a5 o)
  (slot:∀b o,b≠X.env.locals->b∈X.fs->b∉ch->s.heap.get? b=a5 o->H b=b5->∃C,h'.get? b=a5 {o with slots:=C}) (free:∀b o,b∉ch->s.heap.get? b=a5 o->H b=b5->H' b=b5)
  (there:∀b o,b∉ch->s.heap.get? b=a5 o->∃o',h'.get? b=a5 o')
  (iK:∀b xs,H b=a5 (.tup xs)->H' b=a5 (.tup xs)) (Gk:∀b o u,H b=a5 (.FO o u)->H' b=a5 (.FO o u)) (GA:∀b A,H b=a5 (.Jx A)->∃more,H' b=a5 (.Jx (A++more)))
  (ns:∀m,s.heap.Ns X.env.locals m->h'.Ns X.env.locals m) (Q:FQ X.prog X.w H' h') (T:N7 g') :
  Inv X pins σ H' {s with heap:=h',gens:=g',drawn:=d',toks:=t' }:=by
 have G:∀b o,X.s₀.heap.get? b=a5 o->b≠X.env.locals:=λb o e=>i2 (i5 (hQ e) I.ok.above);have B:∀b o,X.s₀.heap.get? b=a5 o->b∉X.ex->b∉ch:=λb o e a h=>by
  rcases(j b h).1 with z|z
  .show a z
  .show absurd (i5 (hQ e) z) (rb _)
 have f:∀x c,X.env.cells.lookup x=a5 c->∀v,s.heap.IsCell c v->h'.IsCell c v:=λx c e v Y=>by
  have⟨o,ho,D⟩:=Y;have t:c∉ch:=λz=>(j c z).2.2.1 x c e rfl;by_cases J:c∈X.fs
  .have⟨C,q⟩:=slot c o (I.Jz x c e) J t ho (I.Fy x c e);show⟨_,q,D⟩
  .show⟨o,keep c o (I.Jz x c e) J t ho (I.Fy x c e),D⟩
 show⟨I.ok,I.os,T,⟨λb o e n h a=>?_,λb o e n h a=>?_,λb o e n a=>?_,λb o e a=>?_,λb xs e=>iK b xs (I.base.iK b xs e),λb o xs e=>Gk b o xs (I.base.Gk b o xs e),λb A e=>?_⟩,?_,λx c e=>?_,?_,λx c e=>?_,λp L=>?_,Q,I.len⟩
 .show keep b o (G b o e) h (B b o e a) (I.base.keep b o e n h a) (I.base.free b o e n a)
 .have⟨C,g⟩:=I.base.slot b o e n h a;have⟨MT,y⟩:=slot b _ (G b o e) h (B b o e a) g (I.base.free b o e n a);show⟨MT,y⟩
 .have⟨o',g⟩:=I.base.there b o e a;show free b o' (B b o e a) g (I.base.free b o e n a)
 .have⟨o',g⟩:=I.base.there b o e a;show there b o' (B b o e a) g
 .have⟨m1,g⟩:=I.base.GA b A e;have⟨m2,y⟩:=GA b _ g;show⟨m1++m2,by rw[y,Array.append_assoc]⟩
 .have⟨m,hn,hl⟩:=I.loc;show⟨m,ns m hn,λi x v g y e3=>?_⟩;have⟨u,r,l⟩:=hl i x v g y e3;show⟨u,r,?_⟩;rcases l with l|⟨k,c,e,z⟩
  .show .inl l
  .show .inr ⟨k,c,e,f x c e _ z⟩
 .have⟨v,z⟩:=I.cell x c e;show⟨v,f x c e v z⟩
 .obtain⟨m,⟨o,_,_,ho,_⟩,_⟩:=I.loc;show free _ o (λz=>(j _ z).2.1 rfl) ho I.free
 .have⟨v,o,ho,D⟩:=I.cell x c e;show free c o (λz=>(j c z).2.2.1 x c e rfl) ho (I.Fy x c e)
 .have⟨e,n,N,O,d⟩:=I.pin p L;have t:p.1∉ch:=λz=>(j p.1 z).2.2.2 p L rfl;show⟨keep p.1 p.2 N O t e n,free p.1 p.2 t e n,N,O,d⟩
def Inv.un(I:Inv X pins σ H s)(u:Un X.fs [] H H' s.heap h')(d:FQ X.prog X.w H' h'):Inv X pins σ H' {s with heap:=h',toks:=t' }:=by
 obtain⟨m,⟨o,es,ep,ho,r⟩,_⟩:=id I.loc;have⟨k,f⟩:=u.any ho I.free (by simp);show I.step (g':=s.gens) (d':=s.drawn) (ch:=[]) (λ_ z=>nomatch z) (λb o _ a _ e n=>u.keep b o e n a (by simp)) (λb o _ a _ e n=>u.slot b o e n a (by simp)) (λb o _ e n=>u.free b o e n (by simp)) (λb o _ e=>u.there b o e (by simp)) u.iK u.Gk u.GA (λl g=>by
  have⟨o',h,i,c,j⟩:=g;rw[ho]at c;cases c;show⟨_,h,i,f,j⟩) d I.bare
def Inv.call(I:Inv X pins σ H s)(u:Un (Hh X.stack) ch H H' s.heap h')(h:FQ X.prog X.w H' h')(i:N7 g')
  (f:∀b∈ch,(b∈X.ex\/X.s₀.heap.objs.size<=b)/\b≠X.env.locals/\(∀x c,X.env.cells.lookup x=a5 c->c≠b)/\∀p∈X.pn++pins,p.1≠b) :
  Inv X pins σ H' {s with heap:=h',gens:=g',drawn:=d',toks:=t' }:=by
 obtain⟨m,⟨o,es,ep,ho,r⟩,_⟩:=id I.loc;have⟨v,d⟩:=u.any ho I.free λz=>(f _ z).2.1 rfl;show I.step (ch:=ch) f (λb o d j a e n=>u.keep b o e n (λz=>(gs.mp (I.i9 b z)).elim d j) a) (λb o _ _ a e n=>u.any e n a) (λb o a e n=>u.free b o e n a) (λb o a e=>u.there b o e a) u.iK u.Gk u.GA (λy k=>by
  have⟨o',l,q,g,t⟩:=k;rw[ho]at g;cases g;show⟨_,l,q,d,t⟩) h i
def Inv.turned(I:Inv X pins σ H s)(k:∀b o,b≠it->s.heap.get? b=a5 o->h'.get? b=a5 o)(g:H it=b5)(d:it≠X.env.locals)
  (h:it∈X.ex\/X.s₀.heap.objs.size<=it) (i:∀x c,X.env.cells.lookup x=a5 c->c≠it) (j:∀p∈X.pn++pins,p.1≠it):Inv X pins σ H {s with heap:=h',toks:=t' }:=by
 have f:∀b u,H b=a5 u->b≠it:=λb u e z=>by rw[z,g]at e;cases e
 show I.step (g':=s.gens) (d':=s.drawn) (ch:=[it]) (λb l=>?_) (λb o _ _ a e _=>k b o (λz=>a (by simp[z])) e) (λb o _ _ a e _=>⟨o.slots,k b o (λz=>a (by simp[z])) e⟩) (λ_ _ _ _ n=>n)
  (λb o a e=>⟨o,k b o (λz=>a (by simp[z])) e⟩) (λ_ _ e=>e) (λ_ _ _ e=>e) (λb w e=>⟨#[],by rw[e];simp⟩) (λm t=>?_) (λb u e=>?_) I.bare
 .have e:b=it:=by simpa using l
  subst e;show⟨h,d,i,j⟩
 .have⟨o,es,ep,ho,r⟩:=t;show⟨o,es,ep,k _ o (qs d) ho,r⟩
 .show(I.EZ b u e).nq (λc v a q=>k c v ?_ q) (λ_ q=>q) λ_ _ q=>q;rcases a with z|z
  .rw[z];show f b u e
  .show f c _ z
def Inv.tok(I:Inv X pins σ H s)(t:Nat):Inv X pins σ H {s with toks:=t}:=I.un (h':=s.heap) (t':=t) Un.refl I.EZ
def Inv.kept(I:Inv X pins σ H s)(k:∀b u,s.heap.get? b=a5 u->h'.get? b=a5 u):Inv X pins σ H {s with heap:=h',toks:=t' }:=I.un (Un.kept k) (I.EZ.kept k)
def Inv.laid(I:Inv X pins σ H s)(k:∀b u,s.heap.get? b=a5 u->h'.get? b=a5 u)(c:s.heap.objs.size<=a)(new:bu X.prog X.w (upd H a o) h' a o):
  Inv X pins σ (upd H a o) {s with heap:=h',toks:=t' }:=I.un (Un.laid k c (I.EZ.fresh c)) (I.EZ.laid k c new)
def Inv.write(I:Inv X pins σ H s)(a:KA (H x))(c:e=x\/H e=a5 (.own x))(k:∀b u,b≠e->s.heap.get? b=a5 u->h'.get? b=a5 u)(d:∃u,h'.get? e=a5 u)
  (new:bu X.prog X.w (upd H x o) h' x o):Inv X pins σ (upd H x o) {s with heap:=h',toks:=t' }:=I.un (Un.write a c k d) (I.EZ.write a c k d new)
def Inv.weak(I:Inv X pins σ H s)(hl:σ'.length=σ.length)(w:∀(i:Nat) v,σ'[i]?=a5 (a5 v)->σ[i]?=a5 (a5 v)):Inv X pins σ' H s :=
 ⟨I.ok,I.os,I.bare,I.base,let ⟨m,a,b⟩:=I.loc;⟨m,a,λi x v c d e=>b i x v c (w i v d) e⟩,I.cell,I.free,I.Fy,I.pin,I.EZ,hl.trans I.len⟩
def Inv.eW(I:Inv X pins σ H s)(h:∀p∈a,s.heap.get? p.1=a5 p.2/\H p.1=b5/\p.1≠X.env.locals/\p.1∉X.fs/\∀v,p.2.data≠.cell v):Inv X a σ H s :=
 ⟨I.ok,I.os,I.bare,I.base,I.loc,I.cell,I.free,I.Fy,λp b=>(mh.mp b).elim (λz=>I.pin p (Tx _ z)) (h p),I.EZ,I.len⟩
def i_{N:List Str}(c:N.Nodup){i j:Nat}(a:N[i]?=a5 x)(b:N[j]?=a5 x):i=j:=by
 have⟨f,d⟩:=eH.mp a;have⟨g,e⟩:=eH.mp b;show(UR c).mp (d.trans e.symm)
def kF(I:Inv X pins σ H s)(hN:X.N.Nodup)(D:X.N[i]?=a5 x)(l:Loc X.env.scope x)(r:RelV v u)
  (h:∀s',Inv X pins (σ.set i (a5 v)) H s'->(∃a,H8 a s.heap s'.heap/\(a=X.env.locals\/X.env.cells.lookup x=a5 a))->Q () s') (hf:X.fn x=bD\/X.env.scope.names.lookup x=a5 .local:=by first|show .inl rfl|show .inr rfl|assumption):hA M A (storeName X.env x u) Q E s:=by
 have⟨m,O,hl⟩:=id I.loc;have MU:(X.env.scope.kind==.class||(X.env.scope.kind==.module&&X.env.locals != X.env.globals))=c2:=by rw[I.ok.kind];rfl
 have Pa:i < σ.length:=by rw[I.len];show(eH.mp D).1
 have T:=I.Jz;have f:∀{a:fS} {h':Gz},(∃o,s.heap.get? a=a5 o/\H a=b5)->H8 a s.heap h'->FQ X.prog X.w H h':=λ{a h'} ha hs b ob e=>by
  obtain⟨_,_,Fb⟩:=ha;show(I.EZ b ob e).nq (λc G hc q=>(hs.2 c ?_).trans q) (λ_ q=>q) λ_ _ q=>q;rintro rfl;rcases hc with rfl|hc
  .rw[Fb]at e;cases e
  .rw[Fb]at hc;cases hc
 rcases l with hk|hk
 .show wpAny_storeName_local hk O (λh' L7 hs=>?_) MU;obtain⟨oL,_,_,Hn,_⟩:=id O;show h _ ⟨I.ok,I.os,I.bare,⟨λb o e n B l=>?_,λb o e n B l=>?_,I.base.free,λb o e l=>?_,I.base.iK,I.base.Gk,I.base.GA⟩,⟨_,L7,λj y Y g t e3=>?_⟩,λy c e=>?_,I.free,I.Fy,λp hp=>?_,f ⟨oL,Hn,I.free⟩ hs,by simpa using I.len⟩ ⟨_,hs,.inl rfl⟩
  .show(hs.2 b (i2 (i5 (hQ e) I.ok.above))).trans (I.base.keep b o e n B l)
  .have⟨sl,g⟩:=I.base.slot b o e n B l;show⟨sl,(hs.2 b (i2 (i5 (hQ e) I.ok.above))).trans g⟩
  .have⟨o',g⟩:=I.base.there b o e l;show⟨o',(hs.2 b (i2 (i5 (hQ e) I.ok.above))).trans g⟩
  .by_cases C:j=i
   .subst C;rw[D]at g;cases g;rw[ez Pa]at t;cases t;show⟨u,r,.inl ⟨hk,by simp⟩⟩
   .rw[hE (qs C)]at t;have⟨u',r',q⟩:=hl j y Y g t e3;show⟨u',r',?_⟩;rcases q with⟨k,e⟩|⟨k,c,e,z⟩
    .show .inl ⟨k,?_⟩;have:y≠x:=λe=>C (i_ hN g (e▸D));simp[this,e]
    .show .inr ⟨k,c,e,z.sameBut hs (T y c e)⟩
  .have⟨G,z⟩:=I.cell y c e;show⟨G,z.sameBut hs (T y c e)⟩
  .have⟨e,n,J,nf,d⟩:=I.pin p hp;show⟨(hs.2 p.1 J).trans e,n,J,nf,d⟩
 .have G8:X.fn x=bD:=by
   rcases hf with z|z
   .show z
   .rw[z]at hk;cases hk
  have⟨c,hc⟩:=I.ok.has x (.inl hk);have⟨G,z⟩:=I.cell x c hc;show wpAny_storeName_cell I.ok.kind hk hc z (λh' Pb hs=>?_);have⟨oc,Pc,MV⟩:=id z;show h {s with heap:=h' } ⟨I.ok,I.os,I.bare,⟨λb o e n B l=>?_,λb o e n B l=>?_,I.base.free,λb o e l=>?_,I.base.iK,I.base.Gk,I.base.GA⟩,⟨m,O.sameBut hs (qs (T x c hc)),λj y Y g t e3=>?_⟩,λy L e=>?_,I.free,I.Fy,λp hp=>?_,f ⟨oc,Pc,I.Fy x c hc⟩ hs,by simpa using I.len⟩ ⟨c,hs,.inr hc⟩
  .show(hs.2 b (i2 (i5 (hQ e) (I.ok.KG x c G8 hc)))).trans (I.base.keep b o e n B l)
  .have⟨sl,g⟩:=I.base.slot b o e n B l;show⟨sl,(hs.2 b (i2 (i5 (hQ e) (I.ok.KG x c G8 hc)))).trans g⟩
  .have⟨o',g⟩:=I.base.there b o e l;show⟨o',(hs.2 b (i2 (i5 (hQ e) (I.ok.KG x c G8 hc)))).trans g⟩
  .by_cases C:j=i
   .subst C;rw[D]at g;cases g;rw[ez Pa]at t;cases t;show⟨u,r,.inr ⟨.inl hk,c,hc,Pb⟩⟩
   .rw[hE (qs C)]at t;have⟨u',r',q⟩:=hl j y Y g t e3;show⟨u',r',?_⟩;rcases q with q|⟨k,L,e,z'⟩
    .show .inl q
    .show .inr ⟨k,L,e,z'.sameBut hs ?_⟩;rintro rfl;show C (i_ hN g (I.ok.inj _ _ _ e hc▸D))
  .by_cases Pd:L=c
   .subst Pd;show⟨_,Pb⟩
   .have⟨w2,z2⟩:=I.cell y L e;show⟨w2,z2.sameBut hs Pd⟩
  .have⟨e,n,J,nf,d⟩:=I.pin p hp;show⟨(hs.2 p.1 ?_).trans e,n,J,nf,d⟩;intro q;rw[q,Pc]at e;have q':oc=p.2:=ra e;show d G (by rw[<-q'];show MV)
def nu(I:Inv X pins σ H s)(a:X.N.Nodup)(b:X.N[i]?=a5 x)(c:Loc X.env.scope x)(r:RelV v u)
  (h:∀s',Inv X pins (σ.set i (a5 v)) H s'->Q () s') (d:X.fn x=bD\/X.env.scope.names.lookup x=a5 .local:=by first|show .inl rfl|show .inr rfl|assumption):hA M A (storeName X.env x u) Q E s :=
 kF I a b c r (λs' e _=>h s' e) d
def Inv.Cn(I:Inv X pins σ H s)(ho:s'.os=s.os)(u:Un (Hh X.stack) ch H H' s.heap s'.heap)(a:FQ X.prog X.w H' s'.heap)(d:N7 s'.gens)
  (f:∀b∈ch,(b∈X.ex\/X.s₀.heap.objs.size<=b)/\b≠X.env.locals/\(∀x c,X.env.cells.lookup x=a5 c->c≠b)/\∀p∈X.pn++pins,p.1≠b):Inv X pins σ H' s':=by
 have⟨h',g',d',t',o'⟩:=s';have e:o'=s.os:=ho;subst e;show I.call (g':=g') (t':=t') (d':=d') u a d f
end
@[reducible]def XK:=ei->Option fS->Hp->Prop
@[reducible]def St:=List (Option V)
@[reducible]def VK:=V->Hp->Prop
@[reducible]def TE:=St->Hp->VK->Prop
@[reducible]def TT:=St->Hp->(Bool->Hp->Prop)->Prop
@[reducible]def TA:=St->Hp->(List V->Hp->Prop)->Prop
structure Ends where
 nx:St->Hp->Prop
 rt:VK
 bk:St->Hp->Prop:=λ_ _=>False
 ct:St->Hp->Prop:=λ_ _=>False
@[reducible]def TS:=Ends->St->Hp->Prop
abbrev EP(X:Cx)(a:List (fS×Obj))(σ:St)(Q:VK)(u:ei)(s':hH):Prop:=∃v H',Inv X a σ H' s'/\RelV v u/\Q v H'
abbrev TP(X:Cx)(a:List (fS×Obj))(σ:St)(Q:Bool->Hp->Prop)(b:Bool)(s':hH):Prop:=∃H',Inv X a σ H' s'/\Q b H'
abbrev AP(X:Cx)(a:List (fS×Obj))(σ:St)(Q:List V->Hp->Prop)(us:List ei)(s':hH):Prop:=∃vs H',Inv X a σ H' s'/\Vals vs us/\Q vs H'
abbrev SP(X:Cx)(a:List (fS×Obj))(D:Ends)(f:Flow)(s':hH):Prop :=
 match f with
 |.next=>∃σ' H',Inv X a σ' H' s'/\D.nx σ' H'
 |.brk=>∃σ' H',Inv X a σ' H' s'/\D.bk σ' H'
 |.cont=>∃σ' H',Inv X a σ' H' s'/\D.ct σ' H'
 |.ret u=>∃v σ' H',Inv X a σ' H' s'/\RelV v u/\D.rt v H'
abbrev PE(X:Cx)(e:l')(t:TE):Prop :=
 ∀(a:List (fS×Obj)) (s:hH) (σ:St) (H:Hp) (Q:VK),Inv X a σ H s->t σ H Q->hA (hW X.prog X.w) X.A (D3 e X.env) (EP X a σ Q) X.xe s
abbrev PT(X:Cx)(e:l')(t:TT):Prop :=
 ∀(a:List (fS×Obj)) (s:hH) (σ:St) (H:Hp) (Q:Bool->Hp->Prop),Inv X a σ H s->t σ H Q->hA (hW X.prog X.w) X.A (isTrue e X.env (D3 e X.env)) (TP X a σ Q) X.xe s
abbrev PW(X:Cx)(e:l')(t:TT):Prop :=
 ∀(b:Sem ei) (a:List (fS×Obj)) (s:hH) (σ:St) (H:Hp) (Q:Bool->Hp->Prop),Inv X a σ H s->t σ H Q->hA (hW X.prog X.w) X.A (isTrue e X.env b) (TP X a σ Q) X.xe s
def PW.pt(h:PW X e t):PT X e t:=h _
abbrev PA(X:Cx)(es:List l')(t:TA):Prop :=
 ∀(pos:Pos) (a:List (fS×Obj)) (s:hH) (σ:St) (H:Hp) (Q:List V->Hp->Prop),Inv X a σ H s->t σ H Q->hA (hW X.prog X.w) X.A (VE (E1 pos (i7 es X.env))) (AP X a σ Q) X.xe s
abbrev PS(X:Cx)(st:HM)(t:TS):Prop :=
 ∀(a:List (fS×Obj)) (s:hH) (σ:St) (H:Hp) (D:Ends),Inv X a σ H s->t D σ H->hA (hW X.prog X.w) X.A (exec st X.env) (SP X a D) X.xe s
abbrev FA(X:Cx)(st:List HM)(t:TS):Prop :=
 ∀(a:List (fS×Obj)) (s:hH) (σ:St) (H:Hp) (D:Ends),Inv X a σ H s->t D σ H->hA (hW X.prog X.w) X.A (execs st X.env) (SP X a D) X.xe s
def E2(h:hA M A t Q E s)(b:∀a s,Q a s->Q' a s):hA M A t Q' E s:=r6 h b λ_ _ x=>x
section
abbrev Ec(i:Nat):TE:=λσ H Q=>∃v,σ[i]?=a5 (a5 v)/\Q v H
abbrev tC(v:V):TE:=λ_ H Q=>Q v H
def bB(j:X.N[i]?=a5 x)(k:GB X.env.scope x)(d:(x==("__debug__":Str))=c2:=by decide)(n:(x==("__classdict__":Str))=c2:=by decide):PE X (.Name x pos) (Ec i):=by
 intro b s σ H Q I h;have⟨v,e,h⟩:=h;have⟨m,o,hl⟩:=I.loc;have⟨u,r,l⟩:=hl i x v j e k;have a:EP X b σ Q u s:=⟨v,H,I,r,h⟩
 rcases l with⟨hk,p⟩|⟨hk,c,f,g⟩
 .show Vn (wpAny_loadName_local I.ok.kind hk o p a) d
 .rcases hk with hk|hk
  .show Vn (wpAny_loadName_cell I.ok.kind hk f g a) d
  .show Vn (wpAny_loadName_free I.ok.kind hk f g a n) d
def tY:PE X (.Constant (.int i) j pos) (tC (.int i)):=λ_ _ _ H _ I h=>wpAny_Constant_int ⟨.int i,H,I.tok _,⟨_,rfl⟩,h⟩
def zr:PE X (.Constant (.bool b) j pos) (tC (.bl b)):=λ_ _ _ H _ I h=>Constant_bool ⟨.bl b,H,I,rfl,h⟩
def tZ:PE X (.Constant .none j pos) (tC .EY):=λ_ _ _ H _ I h=>Constant_none ⟨.EY,H,I,rfl,h⟩
def t5:PE X (.Constant (.str x) j pos) (tC (.str x)):=λ_ _ _ H _ I h=>Calls.Constant_str ⟨.str x,H,I.tok _,⟨_,rfl⟩,h⟩
abbrev Gl(X:Cx)(x:Str):Prop:=X.env.kindOf x=a5 .globalImplicit
def lP(I:Inv X a σ H s)(b:Gl X x)(c:X.mg x=a5 u)(h:Q u s)
  (d:(x==("__debug__":Str))=c2:=by decide):hA (hW X.prog X.w) X.A (D3 (.Name x pos) X.env) Q E s :=
 QG I.ok.kind b (Calls.loadGlobal_global (by rw[I.ok.glob];show I.mod.glob.keeps I.bk) c h) d
def eE(I:Inv X a σ H s)(b:Gl X x)(c:X.mg x=b5)(d:E6 x=a5 u)(h:Q u s)
  (e:x≠"__name__":=by decide) (f:(x==("__debug__":Str))=c2:=by decide):hA (hW X.prog X.w) X.A (D3 (.Name x pos) X.env) Q E s:=by
 have⟨j,g,i⟩:=I.mod.blt;show QG I.ok.kind b (Calls.loadGlobal_builtin (by rw[I.ok.glob];show I.mod.glob.keeps I.bk) c (by rw[I.ok.blt];show g.keeps I.bk) ((i x e).trans d) h) f
def xi(a:Gl X x)(b:X.mg x=b5)(c:E6 x=a5 u)(r:RelV v u)(d:x≠"__name__":=by decide)(e:(x==("__debug__":Str))=c2:=by decide):PE X (.Name x pos) (tC v) :=
 λ_ _ _ H _ I h=>eE I a b c ⟨v,H,I,r,h⟩ d e
abbrev PC(X:Cx)(d:CmpOp)(a b:l')(t:TE):Prop :=
 ∀(c:List (fS×Obj)) (s:hH) (σ:St) (H:Hp) (Q:VK),Inv X c σ H s->t σ H Q ->
  hA (hW X.prog X.w) X.A (D3 a X.env) (λv e=>hA (hW X.prog X.w) X.A (D3 b X.env) (λu f=>hA (hW X.prog X.w) X.A (Iv d v u) (EP X c σ Q) X.xe f) X.xe e) X.xe s
abbrev tB(t:TE):TT:=λσ H Q=>t σ H λx a=>∃c,x=.bl c/\Q c a
def t6(h:PC X g a b t)(f:LX g b=c2:=by first|show o _ (by decide) (by decide)|rfl):PT X (.Compare a [g] [b] pos) (tB t):=by
 intro e s σ H Q I i;show UK (E2 (h e s σ H _ I i) λv s1 f=>E2 f λu s2 j=>E2 j λc s3 ⟨x,k,l,m,n⟩=>?_) f;have⟨d,rfl,q⟩:=n;cases m;show GO ⟨k,l,q⟩
abbrev Ed(t u:TT):TT:=λσ H Q=>t σ H λc a=>if c=bD then u σ a Q else Q c2 a
abbrev QF(t u:TT):TT:=λσ H Q=>t σ H λc a=>if c=bD then Q bD a else u σ a Q
abbrev Ee(t:TT):TT:=λσ H Q=>t σ H λc a=>Q (!c) a
def xj(d:PT X a f):PW X (.BoolOp .And [a] pos) f:=by
 intro g b s σ H Q I h;show isTrue_and (E2 (d b s σ H Q I h) λc s1 e=>?_);cases c with
 |true=>show Wl e
 |false=>show e
def Ab(d:PT X a f):PW X (.BoolOp .Or [a] pos) f:=by
 intro g b s σ H Q I h;show isTrue_or (E2 (d b s σ H Q I h) λc s1 e=>?_);cases c with
 |false=>show isTrue_or_nil e
 |true=>show e
def Ac(i:PT X a j)(k:PW X (.BoolOp .And (b::rest) pos) l):PW X (.BoolOp .And (a::b::rest) pos) (Ed j l):=by
 intro m d s σ H Q I h;show isTrue_and (E2 (i d s σ H _ I h) λc s1 n=>?_);have⟨e,f,g⟩:=n;cases c with
 |true=>show k m d s1 σ e Q f g
 |false=>show⟨e,f,g⟩
def Co(i:PT X a j)(k:PW X (.BoolOp .Or (b::rest) pos) l):PW X (.BoolOp .Or (a::b::rest) pos) (QF j l):=by
 intro m d s σ H Q I h;show isTrue_or (E2 (i d s σ H _ I h) λc s1 n=>?_);have⟨e,f,g⟩:=n;cases c with
 |true=>show⟨e,f,g⟩
 |false=>show k m d s1 σ e Q f g
def Ad(d:PT X a e):PT X (.UnaryOp .Not a pos) (Ee e):=by
 intro b s σ H Q I h;show isTrue_not (d b s σ H (λc f=>Q (!c) f) I h)
abbrev Cp(b d:TE):TE:=λσ H Q=>b σ H λx a=>∃c,x=.bl c/\if c=bD then d σ a Q else Q (.bl c2) a
abbrev Cq(a:TE):TE:=λσ H Q=>a σ H λx b=>∃c,x=.bl c/\Q (.bl (!c)) b
def Ae(h:PE X a t):PE X (.BoolOp d [a] pos) t:=λb s σ H Q I c=>BoolOp_one (h b s σ H Q I c)
def Af(i:PE X a j)(k:PE X (.BoolOp .And (b::rest) pos) l):PE X (.BoolOp .And (a::b::rest) pos) (Cp j l):=by
 intro d s σ H Q I h;show BoolOp_and (E2 (i d s σ H _ I h) λv s1 m=>?_);have⟨x,f,g,n,e⟩:=m;have⟨c,rfl,e⟩:=e;cases n;show GO ?_;cases c with
 |true=>show k d s1 σ f Q g e
 |false=>show⟨.bl c2,f,g,rfl,e⟩
def Ag(e:PE X a f):PE X (.UnaryOp .Not a pos) (Cq f):=by
 intro b s σ H Q I h;show UnaryOp_ (E2 (e b s σ H _ I h) λv s1 g=>?_);have⟨x,i,j,k,d⟩:=g;have⟨c,rfl,d⟩:=d;cases k;show not_of (GO ⟨.bl (!c),i,j,rfl,d⟩)
abbrev QK(t:TT)(b d:TE):TE:=λσ H Q=>t σ H λc a=>if c=bD then b σ a Q else d σ a Q
def t7(j:PT X c k)(l:PE X a m)(n:PE X b o):PE X (.IfExp c a b pos) (QK k m o):=by
 intro e s σ H Q I h;show wpAny_IfExp (E2 (j e s σ H _ I h) λd s1 p=>?_);have⟨f,g,i⟩:=p;cases d with
 |true=>show l e s1 σ f Q g i
 |false=>show n e s1 σ f Q g i
end
abbrev Fj(K:PySem.W.Frag)(H:Hp)(a:fS)(xs:List V):Prop :=
 Rd H a (.lst xs) \/
  ∃(o:Obj) (b:Array ei) (n:Nat),K.lookup a=a5 o/\o.cls=.type "list"/\o.dict=b5/\o.data=.seq b n/\b.size<=df/\Vals xs b.toList
abbrev FH(K:PySem.W.Frag)(H:Hp)(a:fS)(xs:List V):Prop :=
 Rd H a (.tup xs) \/
  ∃(o:Obj) (b:Array ei) (n:Nat),K.lookup a=a5 o/\o.cls=.type "tuple"/\o.data=.seq b n/\b.size<=df/\Vals xs b.toList
abbrev Ef:ei->Option V
 |.none=>a5 .EY
 |.bool b=>a5 (.bl b)
 |.int i _=>a5 (.int i)
 |.str x _=>a5 (.str x)
 |.bytes b _=>a5 (.L0 b)
 |.float b _=>a5 (.L3 b)
 |.ref a=>a5 (.ref a)
 |.type n=>a5 (.ty n)
 |_=>b5
def RelV.abs(r:RelV x u):Ef u=a5 x:=by
 cases x with
 |EY=>cases r;rfl
 |bl _=>cases r;rfl
 |ref _=>cases r;rfl
 |ty _=>cases r;rfl
 |_=>have⟨t,rfl⟩:=r;rfl
def RelV.inj(r:RelV x u)(q:RelV y u):x=y:=ra (r.abs.symm.trans q.abs)
theorem Vals.inj:∀{xs ys:List V}{us:List ei},Vals xs us->Vals ys us->xs=ys
 |_,_,_,.nil,.nil=>rfl
 |_,_,_,.cons r t,.cons a t'=>by rw[r.inj a,Vals.inj t t']
section
def Fj.of{K:PySem.W.Frag}(h:H a=a5 (.lst xs)):Fj K H a xs:=.inl (.inl h)
def FH.of{K:PySem.W.Frag}(h:H a=a5 (.tup xs)):FH K H a xs:=.inl (.inl h)
def Inv.list(I:Inv X c σ H s)(h:Fj X.K H a xs):∃b:List ei,Vals xs b/\PlainL s.heap a b.toArray/\xs.length<=df:=by
 rcases h with h|⟨o,b,n,hk,d,f,hs,hz,r⟩
 .have⟨z,b,n,r,e⟩:=h.ok I.EZ;show⟨b,r,⟨_,n,e,rfl,rfl,rfl⟩,z⟩
 .show⟨b.toList,r,⟨o,n,I.IX a o hk,d,f,by simpa using hs⟩,?_⟩;have e:=r.length;simp only[my]at e;lia
def Inv.tuple(I:Inv X c σ H s)(h:FH X.K H a xs):∃b:List ei,Vals xs b/\Wm s.heap a b.toArray/\xs.length<=df:=by
 rcases h with h|⟨o,b,n,hk,d,hs,hz,r⟩
 .have⟨z,b,r,p⟩:=h.ok I.EZ;show⟨b,r,p,z⟩
 .show⟨b.toList,r,⟨o,I.IX a o hk,d,n,by simpa using hs⟩,?_⟩;have e:=r.length;simp only[my]at e;lia
def Inv.t8(I:Inv X b σ H s)(h:Fj X.K H a xs)(h':Fj X.K H a ys):xs=ys:=by
 obtain⟨f,r,⟨o,n,e,_,_,d⟩,_⟩:=I.list h;obtain⟨its',g,⟨o',j,c,_,_,d'⟩,_⟩:=I.list h';rw[e]at c;cases c;rw[d]at d';injection d' with i _
 have:f=its':=by simpa using Wv R3 i
 subst this;show r.inj g
def Inv.se(I:Inv X b σ H s)(h:FH X.K H a xs)(h':FH X.K H a ys):xs=ys:=by
 obtain⟨f,r,⟨o,e,_,n,d⟩,_⟩:=I.tuple h;obtain⟨its',g,⟨o',c,_,j,d'⟩,_⟩:=I.tuple h';rw[e]at c;cases c;rw[d]at d';injection d' with i _
 have:f=its':=by simpa using Wv R3 i
 subst this;show r.inj g
end
@[reducible]def Cx.ka(X:Cx)(E:ei->hH->Prop):Cx:={X with xe:=E}
@[reducible]def Cx.Ka(X:Cx):Cx:=X.ka λ_ _=>False
def Cx.Ok.ka{X:Cx}(a:X.Ok)(E:ei->hH->Prop):(X.ka E).Ok :=
 ⟨a.mod,a.kind,a.glob,a.blt,a.above,a.inj,a.has,a.KG,a.hd,a.frames,a.L5,a.O9,a.bs,a.IW,a.HI,a.Iy,a.i8,a.J'⟩
def Cx.Ok.gP{X:Cx}(a:(X.ka E).Ok):X.Ok :=
 ⟨a.mod,a.kind,a.glob,a.blt,a.above,a.inj,a.has,a.KG,a.hd,a.frames,a.L5,a.O9,a.bs,a.IW,a.HI,a.Iy,a.i8,a.J'⟩
section
def Inv.ka(I:Inv X a σ H s)(E:ei->hH->Prop):Inv (X.ka E) a σ H s:=⟨I.ok.ka E,I.os,I.bare,I.base,I.loc,I.cell,I.free,I.Fy,I.pin,I.EZ,I.len⟩
def Inv.gP(I:Inv (X.ka E) a σ H s):Inv X a σ H s:=⟨I.ok.gP,I.os,I.bare,I.base,I.loc,I.cell,I.free,I.Fy,I.pin,I.EZ,I.len⟩
def SP.gP(h:SP (X.ka E) a D f s'):SP X a D f s':=by
 cases f with
 |ret u=>have⟨v,σ',H',I,r,q⟩:=h;show⟨v,σ',H',I.gP,r,q⟩
 |_=>have⟨σ',H',I,q⟩:=h;show⟨σ',H',I.gP,q⟩
def FA.Ka{st:List HM}(h:FA X.Ka st t):FA X st t:=λa s σ H D I b =>
 r6 (h a s σ H D (I.ka _) b) (λ_ _ q=>q.gP) λ_ _ z=>J2 z
end
section
variable{X:Cx}{st:HM}{rest:List HM}{t u:TS}{e:l'}{te:TE}{pos:Pos}
abbrev zt:TS:=λD σ H=>D.nx σ H
abbrev Eg(t u:TS):TS:=λD σ H=>t {D with nx:=u D} σ H
def lQ:FA X [] zt:=λ_ _ σ H _ I h=>RK ⟨σ,H,I,h⟩
def dz(b:PS X st t)(c:FA X rest u):FA X (st::rest) (Eg t u):=by
 intro a s σ H D I h;show wpAny_execs_cons (E2 (b a s σ H {D with nx:=u D} I h) λf s1 q=>?_);cases f with
 |next =>
  have⟨σ',H',d,q⟩:=q;show c a s1 σ' H' D d q
 |_=>show q
def Inv.quiet(I:Inv X a σ H s):interactive X.env=c2:=by simp[interactive,I.ok.kind]
abbrev Cr(te:TE):TS:=λD σ H=>te σ H λ_ a=>D.nx σ a
def eX(b:PE X e te)(hs:K8 e b5 pos.line X.env=pure c2:=by rfl):PS X (.Expr e pos) (Cr te):=by
 intro a s σ H D I h;show wpAny_Expr_any (E2 (b a s σ H _ I h) λv s1 ⟨x,c,d,g,f⟩=>⟨σ,c,d,f⟩) I.quiet hs
abbrev Eh(te:TE):TS:=λD σ H=>te σ H D.rt
def Ah(b:PE X e te):PS X (.Return (a5 e) pos) (Eh te):=by
 intro a s σ H D I h;show wpAny_Return_some (E2 (b a s σ H _ I h) λv s1 ⟨x,c,d,f,g⟩=>⟨x,σ,c,d,f,g⟩)
abbrev Cs:TS:=λD _ H=>D.rt .EY H
def xk:PS X (.Return b5 pos) Cs:=λ_ _ σ H _ I h=>wpAny_Return_none ⟨.EY,σ,H,I,rfl,h⟩
abbrev Cu(c:TT)(t u:TS):TS:=λD σ H=>c σ H λb a=>if b=bD then t D σ a else u D σ a
def zu(k:PT X c l)(m:FA X a t)(n:FA X b u):PS X (.If c a b pos) (Cu l t u):=by
 intro f s σ H D I h;show wpAny_If (E2 (k f s σ H _ I h) λd s1 o=>?_);have⟨g,i,j⟩:=o;cases d with
 |true=>show m f s1 σ g D i j
 |false=>show n f s1 σ g D i j
abbrev t9:TS:=λ_ _ _=>False
def sf:FA X sts t9:=λ_ _ _ _ _ _ h=>h.elim
end
@[reducible]def TG:=V->St->Hp->(St->Hp->Prop)->Prop
@[reducible]def Kb:=List V->St->Hp->(St->Hp->Prop)->Prop
abbrev PG(X:Cx)(a:l')(t:TG):Prop :=
 ∀(b:List (fS×Obj)) (s:hH) (σ:St) (H:Hp) (v:V) (u:ei) (Q:St->Hp->Prop),Inv X b σ H s->RelV v u->t v σ H Q ->
  hA (hW X.prog X.w) X.A (M_ a X.env u) (λ_ s'=>∃σ' H',Inv X b σ' H' s'/\Q σ' H') X.xe s
abbrev KN(X:Cx)(ts:List l')(t:Kb):Prop :=
 ∀(a:List (fS×Obj)) (s:hH) (σ:St) (H:Hp) (vs:List V) (us:List ei) (Q:St->Hp->Prop),Inv X a σ H s->Vals vs us->t vs σ H Q ->
  hA (hW X.prog X.w) X.A (assignInOrder ((K0 ts X.env).map (·.2)) us) (λ_ s'=>∃σ' H',Inv X a σ' H' s'/\Q σ' H') X.xe s
@[reducible]def Ai:=V->V->V->Hp->(Hp->Prop)->Prop
abbrev lR(X:Cx)(t:Ai):Prop :=
 ∀(a:List (fS×Obj)) (s:hH) (σ:St) (H:Hp) (o i v:V) (b c u:ei) (Q:Hp->Prop),Inv X a σ H s->RelV o b->RelV i c->RelV v u->t o i v H Q ->
  hA (hW X.prog X.w) X.A (NG b c u) (λ_ s'=>∃H',Inv X a σ H' s'/\Q H') X.xe s
@[reducible]def MX:=V->V->Hp->VK->Prop
abbrev L8(X:Cx)(b:U3)(t:MX):Prop :=
 ∀(a:List (fS×Obj)) (s:hH) (σ:St) (H:Hp) (x y:V) (v u:ei) (Q:VK),Inv X a σ H s->RelV x v->RelV y u->t x y H Q ->
  hA (hW X.prog X.w) X.A (inplaceOp b v u) (EP X a σ Q) X.xe s
section
abbrev qv(i:Nat):TG:=λv σ H Q=>Q (σ.set i (a5 v)) H
def lS(b:X.N.Nodup)(c:X.N[i]?=a5 x)(d:Loc X.env.scope x)(e:X.fn x=bD\/X.env.scope.names.lookup x=a5 .local:=by first|show .inl rfl|show .inr rfl|assumption):PG X (.Name x pos) (qv i):=by
 intro a s σ H v u Q I r h;show VD (nu I b c d r (λs' f=>⟨_,H,f,h⟩) e)
abbrev Cv:Kb:=λvs σ H Q=>vs=[]/\Q σ H
abbrev zv(t:TG)(u:Kb):Kb:=λvs σ H Q=>∃v r,vs=v::r/\t v σ H λσ' H'=>u r σ' H' Q
def xl:KN X [] Cv:=by
 intro a s σ H vs us Q I r h;have⟨e,h⟩:=h;subst e;cases r;show assignInOrder_nil ⟨σ,H,I,h⟩
def t_(b:PG X e t)(c:KN X es u)
  (hs:(K0 (e::es) X.env).map (·.2)=M_ e X.env::(K0 es X.env).map (·.2):=by rfl):KN X (e::es) (zv t u):=by
 intro a s σ H vs us Q I r h;have⟨v,m,d,h⟩:=h;subst d;cases r with
 |cons r f =>
  rw[hs];show assignInOrder_cons (E2 (b a s σ H _ _ _ I r h) λ_ s1 g=>?_);have⟨i,j,k,l⟩:=g;show c a s1 i j _ _ Q k f l
abbrev Ei(K:PySem.W.Frag)(n:Nat)(t:Kb):TG:=λv σ H Q=>∃a xs,v=.ref a/\FH K H a xs/\xs.length=n/\t xs σ H Q
def Aj(f:X.calm=bD)(h:KN X es t)
  (g:(K0 es X.env).length=n:=by rfl) (i:(K0 es X.env).findIdx? (·.1)=b5:=by rfl):PG X (.Tuple es k pos) (Ei X.K n t):=by
 intro c s σ H v u Q I r d;have⟨a,xs,j,l,hl,d⟩:=d;subst j;cases r;have⟨w,rv,m,hz⟩:=I.tuple l;show assign_Tuple_tuple (I.ok.hd f) m (by simp[g,<-hl,rv.length]) i λh' p=>?_;have q:Inv X c σ H {s with heap:=h' }:=I.kept (t':=s.toks) λb o e=>p b o (i2 (hQ e)) e;show h c _ σ H xs _ Q q (by simpa using rv) d
abbrev Ej(a b:TE)(t:Ai):TG:=λv σ H Q=>a σ H λo c=>b σ c λi d=>t o i v d λe=>Q σ e
def ua(ho:PE X o d)(e:PE X i f)(hs:lR X t)
  (g:∀v,M_ (.Subscript o i pos) X.env v=(do
   let b <-Jb [v] (D3 o X.env)
   let c <-Jb [v,b] (D3 i X.env)
   R5 pos
   Jb [v,b,c] (NG b c v)
   Qw [v,b,c] []):=by intro _;rfl):PG X (.Subscript o i pos) (Ej d f t):=by
 intro a s σ H v u Q I r h;rw[g];show cc (va (E2 (ho a s σ H _ I h) λb s1 j=>?_));have⟨x,k,l,m,n⟩:=j;show cc (va (E2 (e a s1 σ k _ l n) λc s2 p=>?_));have⟨y,q,w,z,A⟩:=p;show cc (Tz (cc (va (E2 (hs a s2 σ q x y v b c u _ w m z r A) λ_ s3 B=>?_))));have⟨C,D,G⟩:=B;show wpAny_release ⟨σ,C,D,G⟩
abbrev Ak(a:TE)(g:TG):TS:=λD σ H=>a σ H λx b=>g x σ b D.nx
def oO(b:PE X e c)(d:PG X tg g)(hs:LV [tg] e pos.line X.env=pure c2:=by rfl)(f:O_ [tg] e X.env=pure b5:=by rfl)
  (i:(K0 [tg] X.env).map (·.2)=[M_ tg X.env]:=by rfl):PS X (.Assign [tg] e pos) (Ak c g):=by
 intro a s σ H D I h;show wpAny_Assign_stores (E2 (b a s σ H _ I h) λv s1 ⟨x,j,k,l,m⟩=>?_) hs f;rw[i];show E2 (d a s1 σ j x v _ k l m) λ_ s2 q=>q
def oP(c:X.N.Nodup)(d:X.N[i]?=a5 x)(f:Loc X.env.scope x)(g:PE X e j)(hs:K8 e (a5 (.Name x a)) pos.line X.env=pure c2:=by rfl)(k:X.fn x=bD\/X.env.scope.names.lookup x=a5 .local:=by first|show .inl rfl|show .inr rfl|assumption):
  PS X (.Assign [.Name x a] e pos) (Ak j (qv i)):=by
 intro b s σ H D I h;show wpAny_Assign_Name (E2 (g b s σ H _ I h) λv s1 ⟨y,l,m,n,o⟩=>?_) hs;show nu m c d f n (λs2 p=>⟨_,l,p,o⟩) k
abbrev Cw(a b c:TE)(d:V->V->Hp->VK->Prop)(e:MX)(f:Ai):TS:=λD σ H=>a σ H λo g=>b σ g λi h=>d o i h λx j=>c σ j λy k=>e x y k λz l=>f o i z l λm=>D.nx σ m
abbrev Cy(X:Cx)(t:V->V->Hp->VK->Prop):Prop :=
 ∀(a:List (fS×Obj)) (s:hH) (σ:St) (H:Hp) (o i:V) (b c:ei) (Q:VK),Inv X a σ H s->RelV o b->RelV i c->t o i H Q ->
  hA (hW X.prog X.w) X.A (Qy b c) (EP X a σ Q) X.xe s
def xm(ho:PE X o l)(m:PE X i n)(p:Cy X q)(r:PE X e t)(u:L8 X w x)(hs:lR X y)
  (z:∀b c new,Wd i b c new=(do Jb [new,b,c] (NG b c new);Qw [new,b,c] [];pure .next):=by intros;rfl):PS X (.AugAssign (.Subscript o i QQ) w e pos) (Cw l n t q x y):=by
 intro a s σ H D I h;show wpAny_AugAssign_SubscriptAny (E2 (ho a s σ H _ I h) λb s1 ⟨f,A,B,g,C⟩=>?_) z;show E2 (m a s1 σ A _ B C) λc s2 G=>?_;have⟨j,J,L,k,N⟩:=G;show E2 (p a s2 σ J f j b c _ L g k N) λd s3 O=>?_;have⟨Q,T,Y,r3,q3⟩:=O;show E2 (r a s3 σ T _ Y q3) λv s4 M3=>?_;have⟨x4,H4,I4,r4,q4⟩:=M3;show E2 (u a s4 σ H4 Q x4 d v _ I4 r3 r4 q4) λnew s5 M4=>?_;have⟨x5,H5,I5,r5,q5⟩:=M4;show E2 (hs a s5 σ H5 f j x5 b c new _ I5 g k r5 q5) λ_ s6 ⟨H6,I6,q6⟩=>⟨σ,H6,I6,q6⟩
abbrev M5(f:Int->Int->Int):MX:=λx y H Q=>∃i j,x=.int i/\y=.int j/\Q (.int (f i j)) H
def Al:L8 X .Add (M5 λi j=>i+j):=by
 intro a s σ H x y v u Q I b c h;have⟨i,j,d,e,q⟩:=h;subst d;subst e;have⟨t,rfl⟩:=b;have⟨t',rfl⟩:=c;show iadd_int ⟨.int _,H,I.tok _,⟨_,rfl⟩,q⟩
def Am:L8 X .Sub (M5 λi j=>i - j):=by
 intro a s σ H x y v u Q I b c h;have⟨i,j,d,e,q⟩:=h;subst d;subst e;have⟨t,rfl⟩:=b;have⟨t',rfl⟩:=c;show isub_int ⟨.int _,H,I.tok _,⟨_,rfl⟩,q⟩
end
section
abbrev An(c:TT)(e:TS):TS:=λD σ H=>∃W:Nat->St->Hp->Prop,(∃m,W m σ H)/\∀m σ H,W m σ H ->
 c σ H λb a=>if b=bD then ∃N:St->Hp->Prop,(∀σ' H',N σ' H'->∃d,d<m/\W d σ' H')/\e {D with nx:=N,ct:=N,bk:=D.nx} σ a else D.nx σ a
def ub(r:OT (hW X.prog X.w) X.A X.env X.xe)(y:PT X c z)(B:FA X body C):PS X (.While c body [] pos) (An z C):=by
 intro a s σ H D I h;obtain⟨W,⟨m0,G⟩,d⟩:=h;show wpAny_While (codeAny_whileLoop (λn s'=>∃σ' H',Inv X a σ' H' s'/\W n σ' H') ?_ m0 ⟨σ,H,I,G⟩);rintro n s1 ⟨i,t,J,L⟩;show JL r (E2 (y a s1 i t _ J (d n i t L)) λb s2 O=>?_);have⟨u,v,j⟩:=O;cases b with
 |true =>
  have⟨N,x,j⟩:=j;rw[Wq rfl];show JL r (E2 (B a s2 i u _ v j) λf s3 k=>?_);cases f with
  |next =>
   have⟨e,g,l,m⟩:=k;have⟨o,p,q⟩:=x e g m;show⟨o,p,e,g,l,q⟩
  |cont =>
   have⟨e,g,l,m⟩:=k;have⟨o,p,q⟩:=x e g m;show⟨o,p,e,g,l,q⟩
  |_=>show k
 |false =>
  rw[Ws i0];show RK ⟨i,u,v,j⟩
end
structure It where
 go:Nat->Hp->Prop
 L9:Nat->Hp->V->Hp->Prop
 stop:Nat->Hp->Prop
abbrev ja(X:Cx)(a:List (fS×Obj))(H:Hp)(b:fS):Prop :=
 H b=b5/\b≠X.env.locals/\b∉X.fs/\(b∈X.ex\/X.s₀.heap.objs.size<=b)/\(∀x c,X.env.cells.lookup x=a5 c->c≠b)/\∀p∈X.pn++a,p.1≠b
def Inv.xn(I:Inv X a σ H s)(d:s.heap.objs.size<=b)(f:H' b=b5):ja X a H' b:=by
 show⟨f,Ib (i5 I.lt d),I.Cm d,.inr (w6 I.sz d),λx c e z=>?_,λp g z=>?_⟩
 .have⟨v,q⟩:=I.cell x c e;show absurd (i5 q.lt (by rw[z];show d)) (rb _)
 .show absurd (i5 (hQ (I.pin p g).1) (by rw[z];show d)) (rb _)
structure Turn(P:vr)(w:x8)(K:PySem.W.Frag)(tg:l')(J:It)(fp:List fS)(it:fS)(tn:Nat->Gz->Prop):Prop where
 mem:it∈fp
 obj:∀i h,tn i h->∀b∈fp,∃o,h.get? b=a5 o/\∀v,o.data≠.cell v
 keep:∀i h h',tn i h->(∀b∈fp,∀o,h.get? b=a5 o->h'.get? b=a5 o)->tn i h'
 item:∀(X:Cx),X.prog=P->X.w=w->X.K=K->X.calm=bD->∀(i:Nat) (pins:List (fS×Obj)) (s:hH) (σ:St) (H:Hp) (E:ei->hH->Prop),Inv X pins σ H s->(∀b∈fp,ja X pins H b)->tn i s.heap->J.go i H ->
  hA (hW P w) X.A (Oz (.ref it)) (λr s1=>∃u,r=a5 u /\
   hA (hW P w) X.A (Oh tg (.ref it) u) (λ_ s2=>∃x H',Inv X pins σ H' s2/\RelV x u/\J.L9 i H x H'/\tn (i+1) s2.heap/\∀b∈fp,H' b=b5) E s1) E s
 done:∀(X:Cx),X.prog=P->X.w=w->X.K=K->X.calm=bD->∀(i:Nat) (pins:List (fS×Obj)) (s:hH) (σ:St) (H:Hp) (E:ei->hH->Prop),Inv X pins σ H s->(∀b∈fp,ja X pins H b)->tn i s.heap->J.stop i H ->
  hA (hW P w) X.A (Oz (.ref it)) (λr s1=>r=b5/\Inv X pins σ H s1) E s
 self:∀(A:K2) (i:Nat) (s:hH) (Q:ei->hH->Prop) (E:ei->hH->Prop),tn i s.heap->Q (.ref it) s->hA (hW P w) A (Sg (.ref it)) Q E s
@[reducible]def TI:=St->Hp->(It->Hp->Prop)->Prop
abbrev Pe(X:Cx)(a:List (fS×Obj))(σ:St)(tg:l')(R:It->Hp->Prop)(e:ei)(s2:hH):Prop :=
 ∃(it:fS) (c:List fS) (d:Nat->Gz->Prop) (J:It) (H':Hp),e=.ref it/\Inv X a σ H' s2/\Turn X.prog X.w X.K tg J c it d/\d 0 s2.heap/\(∀b∈c,ja X a H' b)/\R J H'
abbrev PI(X:Cx)(tg b:l')(c:TI):Prop :=
 ∀(a:List (fS×Obj)) (s:hH) (σ:St) (H:Hp) (R:It->Hp->Prop),Inv X a σ H s->c σ H R ->
  hA (hW X.prog X.w) X.A (D3 b X.env) (λv s1=>hA (hW X.prog X.w) X.A (Sg v) (Pe X a σ tg R) X.xe s1) X.xe s
def qw(ho:s.heap.get? it=a5 o)(b:o.cls=.type n)(c:o.data=.fields vs)
    (d:["enumerate","zip","dict_itemiterator","dict_reverseitemiterator","odict_iterator","itertools.zip_longest","itertools.pairwise"].contains n=c2) (a:Q () s):hA M A (Oh tg (.ref it) u) Q E s:=by
  unfold Oh;cases tg<;>first
    | show eL a
    | (cases u<;>first
        | show eL a
        | (show cc (Vm ho ?_)
           rw[b,c];change hA M A (if (["enumerate","zip","dict_itemiterator","dict_reverseitemiterator","odict_iterator","itertools.zip_longest","itertools.pairwise"].contains n&&vs[0]?==a5 (u5 _))=bD then _ else _) Q E s;rw[Ws (by intro h;rw[d,Vk]at h;cases h)];show eL a))
abbrev M7(K:PySem.W.Frag)(a:fS):It :=
 ⟨λi H=>∃xs x,Fj K H a xs/\xs[i]?=a5 x,λi H x H'=>H'=H/\∀xs,Fj K H a xs->xs[i]?=a5 x,λi H=>∃xs,Fj K H a xs/\xs.length<=i⟩
abbrev M8(K:PySem.W.Frag)(a:fS):It :=
 ⟨λi H=>∃xs x,FH K H a xs/\xs[i]?=a5 x,λi H x H'=>H'=H/\∀xs,FH K H a xs->xs[i]?=a5 x,λi H=>∃xs,FH K H a xs/\xs.length<=i⟩
abbrev Ma(lo:Int)(n:Nat):It:=⟨λi _=>i<n,λi H x H'=>H'=H/\x=.int (lo+i),λi _=>n<=i⟩
def sg{K:PySem.W.Frag}(a it:fS):Turn P w K tg (M7 K a) [it] it (λi h=>h.IsListIter it a i) where
 mem:=by simp
 obj:=λi h st b g=>by
  have e:b=it:=by simpa using g
  subst e;have⟨o,e,c,d⟩:=st;show⟨o,e,λv z=>by rw[d]at z;cases z⟩
 keep:=λi h h' st k=>st.at λo e=>k it (by simp) o e
 item:=by
  intro X m n q G i f s σ H E I j st r;subst m n q;have⟨xs,x,l,t⟩:=r;have⟨J,rv,p,hz⟩:=I.list l;have⟨u,L,N⟩:=rv.get t;have⟨y,A,O,B,C,D⟩:=j it (by simp);show wpAny_pyNext_list_item st p.isList (x:=u) (by simpa using L) λh' st' Q=>?_;have T:Inv X f σ H {s with heap:=h' }:=I.turned (t':=s.toks) (λb o g e=>(Q.2 b g).trans e) y A B C D;have⟨o,e,c,d⟩:=id st';show⟨u,rfl,qw (s:={s with heap:=h' }) e c d (by decide) ⟨x,H,T,N,⟨rfl,λys Y=>by rw[I.t8 Y l];show t⟩,st',λb g=>(j b g).1⟩⟩
 done:=by
  intro X m n q G i f s σ H E I j st r;subst m n q;have⟨xs,l,t⟩:=r;have⟨J,rv,p,hz⟩:=I.list l;have⟨y,A,O,B,C,D⟩:=j it (by simp);have hl:=rv.length;show wpAny_pyNext_list_end (I.ok.hd G) st p.isList (by simp;lia) λh' eb=>⟨rfl,I.turned (t':=s.toks) (λb o g e=>eb b o g e) y A B C D⟩
 self:=λ_ _ _ _ _ st h=>wpAny_pyIter_listiter st h
def oQ{K:PySem.W.Frag}(a it:fS):Turn P w K tg (M8 K a) [it] it (λi h=>h.IsTupleIter it a i) where
 mem:=by simp
 obj:=λi h st b g=>by
  have e:b=it:=by simpa using g
  subst e;have⟨o,e,c,d⟩:=st;show⟨o,e,λv z=>by rw[d]at z;cases z⟩
 keep:=λi h h' st k=>st.at λo e=>k it (by simp) o e
 item:=by
  intro X m n q J i f s σ H E I j st r;subst m n q;have⟨xs,x,l,t⟩:=r;have⟨y,rv,p,hz⟩:=I.tuple l;have⟨u,L,N⟩:=rv.get t;have⟨A,B,O,C,D,G⟩:=j it (by simp);show wpAny_pyNext_tuple_item st (show s.heap.IsTuple a y.toArray from p) (x:=u) (by simpa using L) λh' st' Q=>?_;have T:Inv X f σ H {s with heap:=h' }:=I.turned (t':=s.toks) (λb o g e=>(Q.2 b g).trans e) A B C D G;have⟨o,e,c,d⟩:=id st';show⟨u,rfl,qw (s:={s with heap:=h' }) e c d (by decide) ⟨x,H,T,N,⟨rfl,λys Y=>by rw[I.se Y l];show t⟩,st',λb g=>(j b g).1⟩⟩
 done:=by
  intro X m n q J i f s σ H E I j st r;subst m n q;have⟨xs,l,t⟩:=r;have⟨y,rv,p,hz⟩:=I.tuple l;have⟨A,B,O,C,D,G⟩:=j it (by simp);have hl:=rv.length;show wpAny_pyNext_tuple_end (I.ok.hd J) st (show s.heap.IsTuple a y.toArray from p) (by simp;lia) λh' eb=>⟨rfl,I.turned (t':=s.toks) (λb o g e=>eb b o g e) A B C D G⟩
 self:=λ_ _ _ _ _ st h=>wpAny_pyIter_tupleiter st h
def oR{K:PySem.W.Frag}(it:fS)(lo:Int)(n:Nat):Turn P w K tg (Ma lo n) [it] it (λi h=>IsRangeIter h it (lo+(i:Nat) * 1) ((n:Int) - (i:Nat)) 1) where
 mem:=by simp
 obj:=λi h st b c=>by
  have e:b=it:=by simpa using c
  subst e;show⟨_,st,λv z=>by
   have A:Tu _=Wj v:=z;cases A⟩
 keep:=λi h h' st k=>k it (by simp) _ st
 item:=by
  intro X f g j l i a s σ H E I d st m;subst f g j;have⟨p,q,B,r,u,x⟩:=d it (by simp);have W:=Walks.range (prog:=X.prog) (w:=X.w) (I.ok.hd l) it lo 1 n;show W.item i s _ _ m st λv h' y C st' D=>?_;have⟨t,rfl⟩:=C;have G:Inv X a σ H {s with heap:=h',toks:=y}:=I.turned (λb o c e=>D b o (by simpa using c) e) p q r u x;show⟨_,rfl,qw (s:={s with heap:=h',toks:=y}) (n:="range_iterator") st' rfl rfl (by decide) ⟨.int (lo+i),H,G,⟨t,?_⟩,⟨rfl,rfl⟩,st',λb c=>(d b c).1⟩⟩;rw[Int.mul_one]
 done:=by
  intro X f g j l i a s σ H E I d st m;subst f g j;have⟨p,q,B,r,u,x⟩:=d it (by simp);show wpAny_pyNext_range_end (I.ok.hd l) st (by have:n<=i:=m;lia) λh' J=>⟨rfl,I.turned (t':=s.toks) (λb o c e=>J b o c e) p q r u x⟩
 self:=λ_ _ _ _ _ st h=>wpAny_pyIter_rangeiter st h
section
abbrev Cz(K:PySem.W.Frag)(c:TE):TI:=λσ H R=>c σ H λx b=>∃a,x=.ref a/\(∃xs,Fj K b a xs)/\R (M7 K a) b
abbrev Ek(K:PySem.W.Frag)(c:TE):TI:=λσ H R=>c σ H λx b=>∃a,x=.ref a/\(∃xs,FH K b a xs)/\R (M8 K a) b
def qx(hl:PE X l f):PI X tg l (Cz X.K f):=by
 intro c s σ H R I h;show E2 (hl c s σ H _ I h) λv s1 g=>?_;have⟨x,i,d,j,k⟩:=g;obtain⟨a,e,⟨xs,m⟩,q⟩:=k;subst e;cases j;have⟨r,rv,p,hz⟩:=d.list m;show P_ p.isList ?_;show⟨s1.heap.objs.size,[s1.heap.objs.size],_,_,i,rfl,d.kept (t':=s1.toks) λb o e=>c4 _ e,sg a _,⟨_,hh _ rfl,rfl,rfl⟩,λb n=>?_,q⟩;have e:b=s1.heap.objs.size:=by simpa using n
 subst e;show d.xn (hY _) (d.EZ.fresh (hY _))
def Ao(hl:PE X l f):PI X tg l (Ek X.K f):=by
 intro c s σ H R I h;show E2 (hl c s σ H _ I h) λv s1 g=>?_;have⟨x,i,d,j,k⟩:=g;obtain⟨a,e,⟨xs,m⟩,q⟩:=k;subst e;cases j;have⟨n,rv,p,hz⟩:=d.tuple m;show Vl (show s1.heap.IsTuple a n.toArray from p) ?_;show⟨s1.heap.objs.size,[s1.heap.objs.size],_,_,i,rfl,d.kept (t':=s1.toks) λb o e=>c4 _ e,oQ a _,⟨_,hh _ rfl,rfl,rfl⟩,λb r=>?_,q⟩;have e:b=s1.heap.objs.size:=by simpa using r
 subst e;show d.xn (hY _) (d.EZ.fresh (hY _))
def uc{lo a:Int}(I:Inv X c σ H s)(g:-(2 ^ 62)<=lo)(h:lo<2 ^ 62)(i:-(2 ^ 62)<=a)(j:a<2 ^ 62)
  (q:R (Ma lo (a - lo).toNat) H):hA (hW X.prog X.w) X.A (Sg (.ref s.heap.objs.size)) (Pe X c σ tg R) E {s with heap:=s.heap.push {cls:=.type "range",data:=.fields #[.int lo t,.int a u,.int 1 v]},toks:=f}:=by
 show wpAny_pyIter_range (IsRange.new ..) (small_one g h i j) ?_;have d:Inv X c σ H {s with heap:=s.heap.push {cls:=.type "range",data:=.fields #[.int lo t,.int a u,.int 1 v]},toks:=f}:=I.kept λb o e=>c4 _ e;show⟨(s.heap.push {cls:=.type "range",data:=.fields #[.int lo t,.int a u,.int 1 v]}).objs.size,[(s.heap.push {cls:=.type "range",data:=.fields #[.int lo t,.int a u,.int 1 v]}).objs.size],_,_,H,rfl,
  d.kept (t':=f) λb o e=>c4 _ e,oR _ lo (a - lo).toNat,?_,λb k=>?_,q⟩
 .have l:lo+((0:Nat):Int) * 1=lo:=by simp
  have m:(((a - lo).toNat:Nat):Int) - ((0:Nat):Int)=VU lo a 1:=by rw[rangeSize_one];split<;>lia
  change IsRangeIter _ _ (lo+((0:Nat):Int) * 1) ((((a - lo).toNat:Nat):Int) - ((0:Nat):Int)) 1;rw[l,m];show hh _ rfl
 .have e:b=(s.heap.push {cls:=.type "range",data:=.fields #[.int lo t,.int a u,.int 1 v]}).objs.size:=by simpa using k
  subst e;show d.xn (hY _) (d.EZ.fresh (hY _))
abbrev CA(a:TA):TI:=λσ H R=>a σ H λvs b=>∃j:Int,vs=[.int j]/\-(2 ^ 62)<=j/\j<2 ^ 62/\R (Ma 0 j.toNat) b
def si(d:Gl X "range")(f:X.mg "range"=b5)(g:PA X [a] i)(hs:i7 [a] X.env=[(c2,D3 a X.env)]:=by rfl):PI X tg (.Call (.Name "range" p) [a] [] pos) (CA i):=by
 intro b s σ H R I h;show Call_ (eE I d f boot_range (Lg (E2 (g pos b s σ H _ I h) λus s1 ⟨vs,o,k,l,c⟩=>?_) hs rfl));have⟨j,e,c,m,q⟩:=c;subst e;cases l with
 |cons r n =>
  cases n;have⟨t,rfl⟩:=r;show call_range_1 (uc k ⋯ ⋯ c m (by simpa using q))
abbrev El(b:TI)(g:TG)(c:TS):TS:=λD σ H=>b σ H λJ d=>∃W:Nat->Nat->St->Hp->Prop,(∃m,W 0 m σ d)/\∀i m σ H,W i m σ H ->
 (J.stop i H/\D.nx σ H)\/(J.go i H/\∃N:St->Hp->Prop,(∀σ' H',N σ' H'->∃a,a<m/\W (i+1) a σ' H')/\∀x H',J.L9 i H x H'->g x σ H' λe f=>c {D with nx:=N,ct:=N,bk:=D.nx} e f)
abbrev jb(a:List fS)(h:Gz):List (fS×Obj):=a.filterMap λb=>(h.get? b).map λo=>(b,o)
def dQ(a:b∈c)(e:h.get? b=a5 o):(b,o)∈jb c h:=Uj.mpr ⟨b,a,by rw[e];rfl⟩
def sj(a:p∈jb c h):p.1∈c/\h.get? p.1=a5 p.2:=by
 have⟨b,d,e⟩:=Uj.mp a;cases q:h.get? b with
 |none=>rw[q]at e;cases e
 |some o =>
  rw[q]at e;have f:(b,o)=p:=ra e;subst f;show⟨d,q⟩
def Inv.pinned(I:Inv X a σ H s)(h:∀b∈c,ja X a H b)(ho:∀b∈c,∃o,s.heap.get? b=a5 o/\∀v,o.data≠.cell v):Inv X (a++jb c s.heap) σ H s :=
 I.eW λp i=>(mh.mp i).elim (λz=>I.pin p (ri _ z)) λz=>by
  have⟨f,e⟩:=sj z;obtain⟨j,k,l,_⟩:=h p.1 f;have⟨o,g,d⟩:=ho p.1 f;rw[e]at g;cases g;show⟨e,j,k,l,d⟩
def Inv.jc(I:Inv X (a++c) σ H s):Inv X a σ H s:=I.eW λp b=>I.pin p (ri _ (Tx _ b))
def ud(t:OT (hW X.prog X.w) X.A X.env X.xe)(hc:X.calm=bD)(hi:PI X tg p wi)(hg:PG X tg g)(c:FA X body tb)
  (hs:∀x,IV p X.env x=pure x:=by intro _;rfl):PS X (.For tg p body [] pos) (El wi g tb):=by
 intro a s σ H D I h;show wpAny_For (E2 (hi a s σ H _ I h) λv s1 h1=>E2 h1 λL_ s2 h2=>?_) hs;obtain⟨it,y,tn,J,H2,e,I2,T,st2,f2,W,⟨m0,w0⟩,z⟩:=h2;subst e;have L:∀{H':Hp},(∀b∈y,H' b=b5)->∀b∈y,ja X a H' b:=λhn b c=>⟨hn b c,(f2 b c).2⟩
 show codeAny_forLoop_any (λn s'=>∃i σ' H',Inv X a σ' H' s'/\tn i s'.heap/\(∀b∈y,H' b=b5)/\W i n σ' H') ?_ m0 ⟨0,σ,H2,I2,st2,λb c=>(f2 b c).1,w0⟩;rintro n s3 ⟨i,B,G,I3,Fs,KO,w3⟩;rcases z i n B G w3 with⟨C,qn⟩|⟨go,N,hN,UZ⟩
 .show JL t (E2 (T.done X rfl rfl rfl hc i a s3 B G X.xe I3 (L KO) Fs C) λr s4 M'=>?_);have⟨O,I4⟩:=M';subst O;show RK ⟨B,G,I4,qn⟩
 .show JL t (E2 (T.item X rfl rfl rfl hc i a s3 B G X.xe I3 (L KO) Fs go) λr s4 Na=>?_);have⟨u,O,h4⟩:=Na;subst O;show JL t (E2 h4 λ_ s5 Nb=>?_);have⟨x,H5,I5,r5,y5,Q,Nc⟩:=Nb;have Nd:=I5.pinned (L Nc) (T.obj _ _ Q);show JL t (E2 (hg _ s5 B H5 x u _ Nd r5 (UZ x H5 y5)) λ_ s6 Nf=>?_);have⟨σ6,H6,I6,q6⟩:=Nf;show JL t (E2 (c _ s6 σ6 H6 _ I6 q6) λf Y q=>?_);have Wf:∀{j:St} {k:Hp},Inv X (a++jb y s5.heap) j k Y->N j k->∃m,m<n/\∃i σ' H',Inv X a σ' H' Y/\tn i Y.heap/\(∀b∈y,H' b=b5)/\W i m σ' H':=λ{j k} l n7=>by
   have⟨m',hm,w7⟩:=hN j k n7;show⟨m',hm,i+1,j,k,l.jc,T.keep _ _ _ Q λb c o e=>(l.pin (b,o) (ri _ (ri _ (dQ c e)))).1,λb c=>?_,w7⟩;have⟨o,e,d⟩:=T.obj _ _ Q b c;show(l.pin (b,o) (ri _ (ri _ (dQ c e)))).2.1
  cases f with
  |brk=>have⟨j,k,l,q⟩:=q;show⟨j,k,l.jc,q⟩
  |ret v=>have⟨x7,j,k,l,r7,q⟩:=q;show⟨x7,j,k,l.jc,r7,q⟩
  |_=>have⟨j,k,l,n7⟩:=q;show Wf l n7
end
@[reducible]def R2:=V->V->Hp->VK->Prop
abbrev Gm(X:Cx)(f:ei->ei->Sem ei)(r:R2):Prop :=
 ∀(a:List (fS×Obj)) (s:hH) (σ:St) (H:Hp) (x y:V) (v u:ei) (Q:VK),Inv X a σ H s->RelV x v->RelV y u->r x y H Q ->
  hA (hW X.prog X.w) X.A (f v u) (EP X a σ Q) X.xe s
abbrev f_(X:Cx)(f:ei)(r:List V->Hp->VK->Prop):Prop :=
 ∀(a:List (fS×Obj)) (s:hH) (σ:St) (H:Hp) (xs:List V) (us:List ei) (Q:VK),Inv X a σ H s->Vals xs us->r xs H Q ->
  hA (hW X.prog X.w) X.A (KS f us) (EP X a σ Q) X.xe s
abbrev Em(X:Cx)(r:V->Hp->(Bool->Hp->Prop)->Prop):Prop :=
 ∀(a:List (fS×Obj)) (s:hH) (σ:St) (H:Hp) (x:V) (v:ei) (Q:Bool->Hp->Prop),Inv X a σ H s->RelV x v->r x H Q ->
  hA (hW X.prog X.w) X.A (V7 v) (TP X a σ Q) X.xe s
abbrev rI(C:Int->Int->Prop)(g:Int->Int->V):R2:=λx y H Q=>∃i j,x=.int i/\y=.int j/\C i j/\Q (g i j) H
abbrev JD(g:Int->Int->V):R2:=λx y H Q=>∃i j,x=.int i/\y=.int j/\Q (g i j) H
section
def Mb{g:Int->Int->Int}
  (V8:∀(i j:Int) (t u:Tok) (s:hH) (Q:ei->hH->Prop) (E:ei->hH->Prop),C i j->Q (.int (g i j) s.toks) {s with toks:=s.toks+1}->hA (hW X.prog X.w) X.A (f (.int i t) (.int j u)) Q E s) :
  Gm X f (rI C λi j=>.int (g i j)):=by
 intro a s σ H x y v u Q I b c h;have⟨i,j,rfl,rfl,d,q⟩:=h;have⟨t,rfl⟩:=b;have⟨t',rfl⟩:=c;show V8 i j t t' s _ _ d ⟨.int (g i j),H,I.tok _,⟨_,rfl⟩,q⟩
def CB{g:Int->Int->Int}
  (V8:∀(i j:Int) (t u:Tok) (s:hH) (Q:ei->hH->Prop) (E:ei->hH->Prop),Q (.int (g i j) s.toks) {s with toks:=s.toks+1}->hA (hW X.prog X.w) X.A (f (.int i t) (.int j u)) Q E s) :
  Gm X f (JD λi j=>.int (g i j)):=by
 intro a s σ H x y v u Q I b c h;have⟨i,j,rfl,rfl,q⟩:=h;have⟨t,rfl⟩:=b;have⟨t',rfl⟩:=c;show V8 i j t t' s _ _ ⟨.int (g i j),H,I.tok _,⟨_,rfl⟩,q⟩
def Ap{g:Int->Int->Bool}
  (V8:∀(i j:Int) (t u:Tok) (s:hH) (Q:ei->hH->Prop) (E:ei->hH->Prop),Q (.bool (g i j)) s->hA (hW X.prog X.w) X.A (f (.int i t) (.int j u)) Q E s) :
  Gm X f (JD λi j=>.bl (g i j)):=by
 intro a s σ H x y v u Q I b c h;have⟨i,j,rfl,rfl,q⟩:=h;have⟨t,rfl⟩:=b;have⟨t',rfl⟩:=c;show V8 i j t t' s _ _ ⟨.bl (g i j),H,I,rfl,q⟩
abbrev En(i j:Int):Prop:=0<j/\j<1073741824
abbrev Eo(i j:Int):Prop:=0<=j/\j<=1000000/\i.natAbs<2 ^ 64
abbrev Aq(i j:Int):Prop:=(-(2 ^ 64)<i/\i<2 ^ 64)\/(-(2 ^ 64)<j/\j<2 ^ 64)
def Aq.ok(h:Aq i j):IntMulOk i j:=by
 rcases h with⟨a,b⟩|⟨a,b⟩
 .show .of_left (intBits_le_64 a b)
 .show .of_right (intBits_le_64 a b)
def bP:Gm X (KX .Add) (JD λi j=>.int (i+j)):=CB λ_ _ _ _ _ _ _ q=>add_int q
def oS:Gm X (KX .Sub) (JD λi j=>.int (i - j)):=CB λ_ _ _ _ _ _ _ q=>sub_int q
def jd:Gm X (KX .Mult) (rI Aq λi j=>.int (i * j)):=Mb λ_ _ _ _ _ _ _ a q=>mul_int q a.ok
def xo:Gm X (KX .FloorDiv) (rI En λi j=>.int (i / j)):=Mb λi j _ _ _ _ _ a q=>by
 have b:(0:Int)<j:=a.1;have c:j<1073741824:=a.2;show floordiv_int ⋯ (by rw[Int.fdiv_eq_ediv_of_nonneg i ⋯];show q) (.inl (PyProof.noPylong_small ⋯))
def du:Gm X (KX .Mod) (rI (λ_ j=>0<j) λi j=>.int (i % j)):=Mb λi j _ _ _ _ _ a q=>by
 have b:(0:Int)<j:=a;show mod_int' ⋯ (by rw[Int.fmod_eq_emod_of_nonneg i ⋯];show q)
def lT:Gm X (KX .Pow) (rI Eo λi j=>.int (i ^ j.toNat)):=Mb λ_ _ _ _ _ _ _ a q=>pow_int_small a.1 a.2.1 a.2.2 q
end
section
def lU(I:Inv X a σ H s)(q:Q (.bl k) H)(e:k=k'):EP X a σ Q (.bool k') s:=by
 subst e;show⟨.bl k,H,I,rfl,q⟩
def CC:Gm X (Iv .Lt) (JD λi j=>.bl (dV (i<j))):=Ap λ_ _ _ _ _ _ _ q=>lt_int q
def CD:Gm X (Iv .Gt) (JD λi j=>.bl (dV (j<i))):=Ap λ_ _ _ _ _ _ _ q=>gt_int q
def CF:Gm X (Iv .GtE) (JD λi j=>.bl (dV (j<=i))):=Ap λ_ _ _ _ _ _ _ q=>ge_int q
def Ar:Gm X (Iv .Is) (λx y H Q=>y=.EY/\Q (.bl (dV (x=.EY))) H):=by
 intro a s σ H x y v u Q I b c h;have⟨rfl,q⟩:=h;cases c;show is_none_gen (lU I q ?_);cases x<;>first
  |(cases b;rfl)
  |(have⟨t,rfl⟩:=b;rfl)
def xp:Gm X (Iv .IsNot) (λx y H Q=>y=.EY/\Q (.bl (!dV (x=.EY))) H):=by
 intro a s σ H x y v u Q I b c h;have⟨rfl,q⟩:=h;cases c;show isnot_none_gen (lU I q ?_);cases x<;>first
  |(cases b;rfl)
  |(have⟨t,rfl⟩:=b;rfl)
abbrev CG(K:PySem.W.Frag)(x:V)(H:Hp)(k:Bool):Prop :=
 match x with
 |.EY=>k=c2
 |.bl b=>k=b
 |.int i=>k=(i != 0)
 |.str y=>y.length<=df/\k=((y.length:Int) != 0)
 |.L0 y=>y.size<=df/\k=((y.size:Int) != 0)
 |.ref p=>(∃xs,Fj K H p xs/\k=!xs.isEmpty)\/(∃xs,FH K H p xs/\k=!xs.isEmpty)\/∃kvs,H p=a5 (.dK kvs)/\k=!kvs.isEmpty
 |_=>False
def oU(r:KV kvs vs):(!vs.isEmpty)=!kvs.isEmpty:=by
 cases r<;>rfl
def je(r:Vals xs a):(!a.toArray.isEmpty)=!xs.isEmpty:=by
 cases r<;>simp
def eF:(df:Nat)<2 ^ 63:=by rw[sizeLine_eq];decide
def As:Em X (λx H Q=>∃k,CG X.K x H k/\Q k H):=by
 intro j s σ H x v Q I d h;have⟨k,e,q⟩:=h;have hl:=eF;have hs:df=16777216:=sizeLine_eq;cases x with
 |EY =>
  cases d;have a:k=c2:=e;subst a;show truthy_none ⟨H,I,q⟩
 |bl b =>
  cases d;have a:k=b:=e;subst a;show GO ⟨H,I,q⟩
 |int i =>
  have⟨t,rfl⟩:=d;have a:k=(i != 0):=e;subst a;show PySem.P.truthy_int ⟨H,I,q⟩
 |str y =>
  have⟨t,rfl⟩:=d;obtain⟨l,a⟩:y.length<=df/\k=((y.length:Int) != 0):=e;subst a;show PySem.P.truthy_str ⋯ ⟨H,I.tok _,q⟩
 |L0 y =>
  have⟨t,rfl⟩:=d;obtain⟨l,a⟩:y.size<=df/\k=((y.size:Int) != 0):=e;subst a;show PySem.W.truthy_bytes ⋯ ⟨H,I.tok _,q⟩
 |ref p =>
  cases d;have a:(∃xs,Fj X.K H p xs/\k=!xs.isEmpty)\/(∃xs,FH X.K H p xs/\k=!xs.isEmpty)\/∃kvs,H p=a5 (.dK kvs)/\k=!kvs.isEmpty:=e;rcases a with⟨xs,f,a⟩|⟨xs,f,a⟩|⟨kvs,f,a⟩
  .subst a;have⟨n,r,g,hz⟩:=I.list f;have c:=r.length;show wpAny_truthy_list g.isList (by simp only[fR];lia) ⟨H,I.tok _,by rw[je r];show q⟩
  .subst a;have⟨n,r,g,hz⟩:=I.tuple f;have c:=r.length;show truthy_tuple g (by simp only[fR];lia) ⟨H,I.tok _,by rw[je r];show q⟩
  .subst a;obtain⟨hz,o,vs,r,m⟩:kvs.length<=df/\(p==JF)=c2/\∃vs,KV kvs vs/\s.heap.DictOf (aG X.prog X.w) p vs:=I.EZ p _ f;have c:kvs.length=vs.length:=Paired.length r;show wpAny_truthy_dict o m ⋯ ⟨H,I.tok _,by rw[oU r];show q⟩
 |_=>show(show False from e).elim
def ue(d:PE X a e)(f:∀b,isTrue a X.env b=(do let v <-b;R5 a.pos;Jb [v] (V7 v))):
  PT X a (λσ H Q=>e σ H λx H'=>∃k,CG X.K x H' k/\Q k H'):=by
 intro c s σ H Q I h;show isTrue_plain (E2 (d c s σ H _ I h) λv s1 ⟨x,g,i,j,l⟩=>As c s1 σ g x v Q i j l) (f _)
def oV:Gm X (KX .Add) (λx y H Q=>∃i j,x=.str i/\y=.str j/\i.length+j.length<=df/\Q (.str (i++j)) H):=by
 intro a s σ H x y v u Q I b c h;have⟨i,j,rfl,rfl,hz,q⟩:=h;have⟨t,rfl⟩:=b;have⟨t',rfl⟩:=c;show add_str (λt' d=>⟨.str (i++j),H,I.tok _,⟨_,rfl⟩,q⟩) hz
def vals1(r:Vals [x] us):∃u,us=[u]/\RelV x u:=by
 cases r with
 |cons a b=>cases b;show⟨_,rfl,a⟩
def vals2(r:Vals [x,y] us):∃u a,us=[u,a]/\RelV x u/\RelV y a:=by
 cases r with
 |cons b c =>
  cases c with
  |cons d e=>cases e;show⟨_,_,rfl,b,d⟩
def lV:f_ X (.type "str") (λxs H Q=>∃i,xs=[.int i]/\i.natAbs.log2<1920/\Q (.str (V5 i)) H):=by
 intro a s σ H xs us Q I r h;have⟨i,rfl,hz,q⟩:=h;have⟨u,rfl,t,rfl⟩:=vals1 r;show PySem.P.str_of_int hz ⟨.str _,H,I.tok _,⟨_,rfl⟩,q⟩
end
section
end
def iG.some_of(r:iG (a5 v) o):∃u,o=a5 u/\RelV v u:=by
 cases o with
 |none=>show(show False from r).elim
 |some u=>show⟨u,rfl,r⟩
section
end
structure QR(K:PySem.W.Frag)(C:fS):Prop where
 pg:PySem.W.plainGet K C tr=bD
 hd:PySem.W.hasDictIn K C=bD
 po:PySem.W.plainOver K C=bD
 sa:PySem.W.findIn K (.ref C) "__setattr__"=a5 (a5 (.builtin "object.__setattr__"))
section
end
section
end
section
inductive jf(K:PySem.W.Frag)(H:Hp):V->ei->Prop where
 |EY:jf K H .EY (.type "NoneType")
 |bl (x:Bool):jf K H (.bl x) (.type "bool")
 |int (i:Int):jf K H (.int i) (.type "int")
 |str (x:Str):jf K H (.str x) (.type "str")
 |L3 (x:UInt64):jf K H (.L3 x) (.type "float")
 |lst {a:fS} {xs:List V} (e:H a=a5 (.lst xs)):jf K H (.ref a) (.type "list")
 |FO {a:fS} {o:Obj} {xs:List V} (e:H a=a5 (.FO o (.lst xs))):jf K H (.ref a) (.type "list")
 |tup {a:fS} {xs:List V} (e:H a=a5 (.tup xs)):jf K H (.ref a) (.type "tuple")
 |dK {a:fS} {kvs:List (Key×V)} (e:H a=a5 (.dK kvs)):jf K H (.ref a) (.type "dict")
 |dT {a:fS} {kvs:List (List Key×V)} (e:H a=a5 (.dT kvs)):jf K H (.ref a) (.type "dict")
 |ins {a C dx:fS} {fs:List (Str×V)} (e:H a=a5 (.ins C dx fs)) (cl:QR K C) (ha:PySem.W.findIn K (.ref C) "__class__"=a5 (a5 (.builtin "object.__class__")))
   (hn:PySem.W.specialIn K (.builtin "object.__class__") "__get__"=a5 (a5 (.builtin "getset_descriptor.__get__"))) (QS:PySem.W.takesIn K (.builtin "object.__class__")=a5 bD)
   (hm:PySem.W.mroIn K C (.type "object")=a5 bD):jf K H (.ref a) (.ref C)
end
structure eG(k:Nat)(A:K2):Prop where
 hd:A.handled=b5
 dp:A.depth+3 * k+5<V9
 un:A.units+16 * k+200<Hg
 gd:A.guards=a5 []
def eG.deeper(r:eG (k+1) A)(env:Env):eG k (A.deeper env) :=
 ⟨r.hd,by have:=r.dp;change A.depth+1+3 * k+5 < _;lia,by have:=r.un;change A.units+3+16 * k+200 < _;lia,r.gd⟩
def eG.depth(r:eG k A):A.depth<V9:=by have:=r.dp;lia
abbrev Ep:TA:=λ_ H Q=>Q [] H
abbrev CH(a:TE)(b:TA):TA:=λσ H Q=>a σ H λx c=>b σ c λxs d=>Q (x::xs) d
section
def gQ:PA X [] Ep:=λ_ _ _ _ H Q I h=>MW ⟨[],H,I,.nil,h⟩
def dR(b:PE X e c)(d:PA X es t)(hs:i7 (e::es) X.env=(c2,D3 e X.env)::i7 es X.env:=by rfl):PA X (e::es) (CH c t):=by
 intro pos a s σ H Q I h;rw[hs];change hA _ _ (VE ((c2,D3 e X.env)::E1 pos (i7 es X.env))) _ _ s;show KJ (E2 (b a s σ H _ I h) λu s1 f=>?_);have⟨x,g,i,j,k⟩:=f;show E2 (d pos a s1 σ g _ i k) λus s2 ⟨xs,l,m,n,o⟩=>⟨x::xs,l,m,.cons j n,o⟩
end
@[reducible]def Sp:=List V->Hp->VK->XK->Prop
@[reducible]def Kc:=List Env->Hp->hH->XK->ei->hH->Prop
structure xq(P:vr)(w:x8)(K:PySem.W.Frag)(mg:Str->Option ei)(base:Gz)(A:K2)(outer:List Env)(s:hH)(H:Hp):Prop where
 frames:A.frames=a5 outer
 mod:Mod K mg base
 bs:∀b o,base.get? b=a5 o->s.heap.get? b=a5 o/\H b=b5
 IW:base.objs.size<=s.heap.objs.size
 i8:s.heap.FunFrames base outer
 J':∀b∈Hh outer,H b=b5
 EZ:FQ P w H s.heap
 bare:N7 s.gens
abbrev CE(outer:List Env)(P:vr)(w:x8)(H:Hp)(s:hH)(Q:VK)(u:ei)(s':hH):Prop :=
 ∃v H',s'.os=s.os/\N7 s'.gens/\Un (Hh outer) [] H H' s.heap s'.heap/\FQ P w H' s'.heap/\RelV v u/\Q v H'
abbrev CR(CX:Kc)(outer:List Env)(P:vr)(w:x8)(H:Hp)(s:hH)(Q:VK)(E:XK)(r:Result)(s':hH):Prop :=
 match r with
 |.ok (.ret u)=>CE outer P w H s Q u s'
 |.ok _=>False
 |.error e=>CX outer H s E e s'
structure iH(P:vr)(w:x8)(K:PySem.W.Frag)(mg:Str->Option ei)(base:Gz)(CX:Kc)(k:Nat)(f:fS)(fd:Ni)(ps:List Str)(sp:Sp):Prop where
 len:∀vs H Q E,sp vs H Q E->vs.length=ps.length
 run:∀(A:K2) (outer:List Env) (s:hH) (H:Hp) (args:Args) (us:List ei) (vs:List V) (Q:VK) (E:XK),eG k A->xq P w K mg base A outer s H->Uz s fd args (ps.zip us)->Vals vs us->sp vs H Q E ->
  LW (hW P w) A (.call (.ref f) args) (CR CX outer P w H s Q E) s
section
def Inv.Er(I:Inv X a σ H s):xq X.prog X.w X.K X.mg X.base X.A X.stack s H :=
 ⟨I.ok.frames,I.ok.mod,I.bs,w6 I.ok.IW I.sz,I.stack,I.qu,I.EZ,I.bare⟩
def Inv.after(I:Inv X a σ H s)(h:CE X.stack X.prog X.w H s Q u s'):EP X a σ Q u s':=by
 have⟨v,H',os,c,e,f,r,q⟩:=h;have⟨i,g,d,t,j⟩:=s';obtain rfl:j=s.os:=os;show⟨v,H',I.call (h':=i) (g':=g) (d':=d) (t':=t) (ch:=[]) e f c (λb z=>absurd z (by simp)),r,q⟩
end
abbrev Binds(K:PySem.W.Frag)(fd:Ni)(a:List Str)(b:List ei):Prop :=
 ∀(s:hH) (us:List ei),K.In s.heap->(us++b).length=a.length->Uz s fd ⟨us,[]⟩ (a.zip (us++b))
def Binds.all{K:PySem.W.Frag}(h:∀us:List ei,us.length=a.length->Wc fd ⟨us,[]⟩=pure (a.zip us)):Binds K fd a []:=λs us _ hl=>by
 rw[x2]at hl ⊢;show .of_eq (h us hl)
abbrev Passes(CX:Kc)(X:Cx)(E:XK):Prop:=∀(a:List (fS×Obj)) (σ:St) (H:Hp) (s:hH) (e:ei) (s':hH),Inv X a σ H s->CX X.stack H s E e s'->X.xe e s'
section
def oW(F:iH X.prog X.w X.K X.mg X.base CX k f fd g sp)(j:eG k X.A)(l:Binds X.K fd g b)(m:Vals c b)(n:Passes CX X E)
  (I:Inv X a σ H s) (r:Vals vs us) (h:sp (vs++c) H Q E):hA (hW X.prog X.w) X.A (KS (.ref f) us) (EP X a σ Q) X.xe s:=by
 have i:Vals (vs++c) (us++b):=r.append m;have hl:(us++b).length=g.length:=by rw[<-i.length];show F.len _ _ _ _ h
 show wpAny_call (NX (F.run X.A X.stack s H ⟨us,[]⟩ (us++b) (vs++c) Q E j I.Er (l s us I.IX hl) i h) λr s' d=>?_);cases r with
 |error e=>show n a σ H s e s' I d
 |ok o =>
  cases o with
  |ret u=>show I.after d
  |_=>show J2 d
end
section
end
structure dq(N P:List Str)(sc:Ir):Prop where
 kind:sc.kind=.function
 co:sc.isCoroutine=c2
 gen:sc.isGenerator=c2
 nd:N.Nodup
 pre:N.take P.length=P
 par:∀x∈P,sc.names.lookup x=a5 .local\/sc.names.lookup x=a5 .cell
 JE:∀y∈sc.names,y.2≠.free
theorem kG{kindOf:Str->Option Hi}:∀{a:List (Str×ei)}{m:Str->Option ei},(∀v,(x,v)∉a)->T_ kindOf a m x=m x
 |[],_,_=>rfl
 |(n,v)::r,m,h=>by
  unfold T_;rw[kG λw b=>h w (la _ b)];split
  .have:x≠n:=by rintro rfl;show h v kl
   simp[this]
  .rfl
theorem kH{kindOf:Str->Option Hi}:∀{a:List (Str×ei)}{m:Str->Option ei},(∀v,(x,v)∉a)->T' kindOf a m x=m x
 |[],_,_=>rfl
 |(n,v)::r,m,h=>by
  unfold T';rw[kH λw b=>h w (la _ b)];split
  .rfl
  .have:x≠n:=by rintro rfl;show h v kl
   simp[this]
theorem kI{kindOf:Str->Option Hi}:∀{P:List Str}{vs:List ei}{i:Nat}{m:Str->Option ei},P.Nodup->P[i]?=a5 x->vs[i]?=a5 v->kindOf x=a5 .local ->
  T_ kindOf (P.zip vs) m x=a5 v
 |[],_,_,_,_,h,_,_=>by simp at h
 |_::_,[],_,_,_,_,h,_=>by simp at h
 |p::P,w::vs,0,m,c,a,b,hk=>by
  simp at a b;subst a;subst b;change T_ kindOf ((p,w)::P.zip vs) m p=_;unfold T_;rw[kG λv d=>(nC.mp c).1 (Lw d).1,Wq hk];simp
 |p::P,w::vs,i+1,m,c,a,b,hk=>by
  change T_ kindOf ((p,w)::P.zip vs) m x=_;unfold T_;show kI (i:=i) (nC.mp c).2 (by simpa using a) (by simpa using b) hk
theorem kJ{kindOf:Str->Option Hi}:∀{P:List Str}{vs:List ei}{i:Nat}{m:Str->Option ei},P.Nodup->P[i]?=a5 x->vs[i]?=a5 v->kindOf x≠a5 .local ->
  T' kindOf (P.zip vs) m x=a5 v
 |[],_,_,_,_,h,_,_=>by simp at h
 |_::_,[],_,_,_,_,h,_=>by simp at h
 |p::P,w::vs,0,m,c,a,b,hk=>by
  simp at a b;subst a;subst b;change T' kindOf ((p,w)::P.zip vs) m p=_;unfold T';rw[kH λv d=>(nC.mp c).1 (Lw d).1,Ws hk];simp
 |p::P,w::vs,i+1,m,c,a,b,hk=>by
  change T' kindOf ((p,w)::P.zip vs) m x=_;unfold T';show kJ (i:=i) (nC.mp c).2 (by simpa using a) (by simpa using b) hk
abbrev start(N:List Str)(vs:List V):St:=vs.map a5++j0 (N.length - vs.length) b5
abbrev nv(CX:Kc)(P:vr)(w:x8)(K:PySem.W.Frag)(mg:Str->Option ei)(base:Gz)(N:List Str)(a:Str)(scope:Ir)(f:fS)(b:ei)(A:K2)(outer:List Env)(s:hH)(H:Hp)(E:XK):Cx where
 prog:=P
 w:=w
 K:=K
 mg:=mg
 base:=base
 A:=A.deeper (N3 a scope s.heap.objs.size f b)
 N:=N
 s₀:=s
 H₀:=H
 env:=N3 a scope s.heap.objs.size f b
 outer:=outer
 stack:=N3 a scope s.heap.objs.size f b::outer
 ex:=[]
 calm:=bD
 fn:=λ_=>bD
 pn:=[]
 xe:=λe s'=>hA (hW P w) (A.deeper (N3 a scope s.heap.objs.size f b)) (leaving (N3 a scope s.heap.objs.size f b) e) (λ_ c=>CX outer H s E e c) (λd c=>CX outer H s E d c) s'
def ny{a:Ir}(h:a.names.lookup x=a5 .cell):∃c,(IA n a.names []).lookup x=a5 c:=by
 have q:=PySem.W.cellsFrom_some a.names n [] (.inl h);show Kz.mp q
def sk{K:PySem.W.Frag}
  (S:dq N l scope) (I:A.handled=b5) (j:xq P w K mg base A outer s H) (hl:vs.length=l.length) (r:Vals vs us)
  (x:InCallC s s.heap.objs.size (T_ (N3 g scope s.heap.objs.size f B).kindOf (l.zip us) λ_=>b5) (IA (s.heap.objs.size+1) scope.names []) (T' (N3 g scope s.heap.objs.size f B).kindOf (l.zip us) λ_=>b5) s1) :
  Inv (nv CX P w K mg base N g scope f B A outer s H E) [] (start N vs) H s1:=by
 have L:l.length<=N.length:=by have:=Wv D' S.pre;rw[ve]at this;lia
 have⟨o,O,rfl,hk⟩:=x.done;have C:∀b:fS,b∉(nv CX P w K mg base N g scope f B A outer s H E).ex:=λb z=>absurd (show b∈([]:List fS) from z) (by simp);show⟨⟨j.mod,S.kind,rfl,rfl,hY _,λy z c o d=>?_,λy hy=>?_,λy c _ h=>?_,λ_=>I,Around.frames_deeper j.frames,.inr ⟨rfl,rfl⟩,λb z=>absurd z (C b),j.bs,j.IW,λb _ _=>C b,λb z=>absurd z (C b),j.i8,j.J'⟩,
  rfl,j.bare,Un.kept hk,⟨_,x.toInCall.ns,λi y v o d Q=>?_⟩,λy c h=>⟨_,x.cell y c h⟩,j.EZ.fresh (hY _),λy c h=>?_,λp m=>absurd (show p∈([]:List (fS×Obj)) from m) (by simp),j.EZ.kept hk,?_⟩
 .show name_of_addr x.apart (PySem.mem_of_lookup o) (PySem.mem_of_lookup d)
 .have hy:scope.names.lookup y=a5 .cell\/scope.names.lookup y=a5 .free:=hy;rcases hy with hy|hy
  .show ny hy
  .show absurd rfl (S.JE _ (PySem.mem_of_lookup hy))
 .show Ie (x.above y c (PySem.mem_of_lookup h))
 .have t:i<vs.length:=by
   unfold start at d;by_cases t:i<vs.length
   .show t
   .rw[m3 (by simpa using t)]at d;rw[Fz]at d;split at d<;>cases d
  have J:vs[i]?=a5 v:=by
   unfold start at d;rw[ti (by simpa using t),i6]at d;cases e:vs[i]? with
   |none=>rw[e]at d;cases d
   |some a=>rw[e]at d;cases d;rfl
  have⟨u,D,rv⟩:=r.get J;have m:l[i]?=a5 y:=by
   rw[<-S.pre,Rp ⋯];show o
  have G:l.Nodup:=by rw[<-S.pre];show S.nd.sublist (UI _ _)
  show⟨u,rv,?_⟩;rcases S.par y (sx m) with k|k
  .show .inl ⟨k,kI G m D k⟩
  .have⟨c,e⟩:=ny (n:=s.heap.objs.size+1) k;show .inr ⟨.inl k,c,e,?_⟩;have q:=x.cell y c e;rw[kJ G m D (by change scope.names.lookup y≠_;rw[k];decide)]at q;show q
 .show j.EZ.fresh (Ie (x.above y c (PySem.mem_of_lookup h)))
 .unfold start;change _=N.length;rw[ke,d3,Li];lia
def CI{K:PySem.W.Frag}{z kV g B d ct G:ei}
 (lk:K.lookup f=a5 ⟨G,od,.func (PySem.W.fnOf name a c body scope z kV g B L d ct),KR⟩) (O:PySem.W.codeIn K d a=bD) (S:dq N l scope)
    (h:∀vs H Q E,sp vs H Q E->vs.length=l.length)
    (T:∀(A:K2) (outer:List Env) (s:hH) (H:Hp) (vs:List V) (Q:VK) (E:XK),eG k (A.deeper (N3 a scope s.heap.objs.size f d))->sp vs H Q E ->
      ∃t,FA (nv CX P w K mg base N a scope f d A outer s H E) body t/\t {nx:=λ_ H'=>Q .EY H',rt:=Q} (start N vs) H) :
    iH P w K mg base CX (k+1) f (PySem.W.fnOf name a c body scope z kV g B L d ct) l sp:=by
  show⟨h,λA outer s H args us vs Q E m i Y r C=>?_⟩;have hl:=h _ _ _ _ C;have D:K.In s.heap:=i.mod.KD.keeps λb o e=>(i.bs b o e).1;have p:s.heap.NoLimit:=i.mod.nolimit.keeps λb o e=>(i.bs b o e).1;have KU:∀y∈l.zip us,scope.names.lookup y.1=a5 .local\/(scope.names.lookup y.1=a5 .cell/\((IA (s.heap.objs.size+1) scope.names []).lookup y.1).isSome=bD):=λ⟨n,v⟩ hy=>by
    rcases S.par n (Lw hy).1 with q|q
    . show .inl q
    . show .inr ⟨q,PySem.W.cellsFrom_some _ _ _ (.inl q)⟩
  show codeAny_call_function m.depth (D _ _ lk) rfl S.co S.gen rfl (PySem.W.codeRec_of D O) (Y _ _ _ _ ?_);show wpAny_newFunctionEnv_cells S.kind KU λenv he s1 x=>?_;subst he;show⟨p.keeps x.toInCall.keep,codeAny_func ?_⟩;have⟨t,ht,hq⟩:=T A outer s H vs Q E (m.deeper _) C;have I:Inv (nv CX P w K mg base N a scope f d A outer s H E) [] (start N vs) H s1:=sk S m.hd i hl r x;show r6 (ht [] s1 (start N vs) H _ I hq) (λfl s' hs=>?_) λe s' hs=>hs;have j:∀{σ':St} {H':Hp} {v:V} {u:ei},Inv (nv CX P w K mg base N a scope f d A outer s H E) [] σ' H' s'->RelV v u->Q v H'->CE outer P w H s Q u s' :=
    λ{σ' H' v u} J rv q=>⟨v,H',J.os,J.bare,J.base,J.EZ,rv,q⟩
  cases fl with
  | ret u =>
    have⟨v,σ',H',J,rv,q⟩:=hs;show j J rv q
  | next =>
    have⟨σ',H',J,q⟩:=hs;show j (v:=V.EY) (u:=oT) J rfl q
  | brk =>
    obtain⟨_,_,_,q⟩:=hs;show J2 q
  | cont =>
    obtain⟨_,_,_,q⟩:=hs;show J2 q
section
end
end L2
namespace HT
open PySem PyProof.Rows
section
open PySem.SeqAt
open PySem.AutoSeq1 (wpAny_loadPart')
open PySem.MeetsSeq PySem.MeetsSeq2 PySem.MeetsSeq3
end
section
def xr(p:Wm s.heap t vs.toArray)(q:Wm s.heap b ws.toArray)(f:vs≠[])
  (r:ws=[]->Q (.ref t) s) (u:ws≠[]->Q (.ref s.heap.objs.size) {s with heap:=s.heap.push {cls:=.type "tuple",data:=.seq (vs++ws).toArray}})
  (hsz:vs.length+ws.length<=df):hA (hW prog w) A (KX .Add (.ref t) (.ref b)) Q E s:=by
 obtain⟨⟨cls,g,data,h⟩,ho,i,n,j⟩:=id p;obtain⟨⟨v,k,data2,l⟩,c,m,o,a⟩:=id q;simp only at i j m a;subst i j m a;have e:vs.toArray++ws.toArray=(vs++ws).toArray:=by simp
 by_cases d:ws=[]
 .show Qz ⟨_,ho,rfl⟩ ⟨_,c,rfl⟩ QZ TC PySem.F.slot_tuple_add PySem.F.entry_tuple_add (PySem.F.args_tuple_add_2 _ _)
   (tuple_addW1 t b vs.toArray ws.toArray n o g k h l (by simpa using f) (by simp[d])) ⟨ho,c,r d⟩
 .show Qz ⟨_,ho,rfl⟩ ⟨_,c,rfl⟩ QZ TC PySem.F.slot_tuple_add PySem.F.entry_tuple_add (PySem.F.args_tuple_add_2 _ _)
   (tuple_addW2 t b vs.toArray ws.toArray n o g k h l (by simpa using f) (by simpa using d) (by rw[fR,fR];show hsz)) ⟨ho,c,?_⟩
  rw[e];show u d
abbrev GL(n d:Nat):Option Int->Nat
 |none=>d
 |some v=>if v<0 then(v+(n:Int)).toNat else min v.toNat n
end
end HT
namespace L2
open PySem PySem.Spec PyProof.Rows
@[reducible]def TO:=St->Hp->(Option Int->Hp->Prop)->Prop
abbrev PO(X:Cx)(e:Option l')(t:TO):Prop :=
 ∀(a:List (fS×Obj)) (s:hH) (σ:St) (H:Hp) (Q:Option Int->Hp->Prop),Inv X a σ H s->t σ H Q ->
  hA (hW X.prog X.w) X.A (evalPart e X.env) (λu s'=>∃o H',Inv X a σ H' s'/\IsPart u o/\Q o H') X.xe s
abbrev xu:TO:=λ_ H Q=>Q b5 H
abbrev CJ(t:TE):TO:=λσ H Q=>t σ H λx a=>∃i,x=.int i/\Q (a5 i) a
section
variable{X:Cx}{e:l'}{te:TE}{lo hi:Option l'}{tl th:TO}{pos p2:Pos}
def xv:PO X b5 xu:=by
 intro a s σ H Q I h;rw[evalPart_none];show eL ⟨b5,H,I,.none,h⟩
def xw(h:PE X e te):PO X (a5 e) (CJ te):=by
 intro a s σ H Q I b;rw[evalPart_some];show E2 (h a s σ H _ I b) λu s1 c=>?_;have⟨x,d,f,g,j⟩:=c;have⟨i,rfl,q⟩:=j;have⟨t,rfl⟩:=g;show⟨a5 i,d,f,.int i t,q⟩
abbrev Jc(X:Cx)(r:V->Option Int->Option Int->Hp->VK->Prop):Prop :=
 ∀(a:List (fS×Obj)) (s:hH) (σ:St) (H:Hp) (x:V) (v b c:ei) (lo hi:Option Int) (d:fS) (Q:VK),Inv X a σ H s->RelV x v->s.heap.IsSliceOf d b c .none->IsPart b lo->IsPart c hi->r x lo hi H Q ->
  ∃T id,PD (.type T) "__getitem__"=pure (a5 (.builtin id))/\s.TypeIs v T/\hA (hW X.prog X.w) X.A (Qy v (.ref d)) (EP X a σ Q) X.xe s
def Jc.or(h:Jc X r)(h':Jc X j):Jc X (λx lo hi H Q=>r x lo hi H Q\/j x lo hi H Q):=by
 intro a s σ H x v b c lo hi d Q I f hs g i q;rcases q with q|q
 .show h a s σ H x v b c lo hi d Q I f hs g i q
 .show h' a s σ H x v b c lo hi d Q I f hs g i q
abbrev QT(r:V->Option Int->Option Int->Hp->VK->Prop)(te:TE)(tl th:TO):TE:=λσ H Q=>te σ H λx a=>tl σ a λl b=>th σ b λu c=>r x l u c Q
def uf(g:Jc X r)(i:PE X e te)(hl:PO X lo tl)(j:PO X hi th):PE X (.Subscript e (.Slice lo hi b5 p2) pos) (QT r te tl th):=by
 intro a s σ H Q I h;show Vv (E2 (i a s σ H _ I h) λv s1 k=>?_);have⟨x,m,n,o,p⟩:=k;show wpAny_Slice (E2 (hl a s1 σ m _ n p) λc s2 ⟨l,t,y,z,B⟩=>E2 (j a s2 σ t _ y B) λd s3 C=>?_);have⟨u,f,D,G,J⟩:=C;rw[evalPart_none];show eL ?_;have L:Inv X a σ f {s3 with heap:=s3.heap.push {cls:=.type "slice",data:=.fields #[c,d,.none]}}:=D.kept (t':=s3.toks) λb ob q=>c4 _ q;have⟨T,id,N,O,Y⟩:=g a {s3 with heap:=s3.heap.push {cls:=.type "slice",data:=.fields #[c,d,.none]}} σ f x v c d l u s3.heap.objs.size Q L o (VO ..) z G J;change hA (hW X.prog X.w) X.A (Pj e (.Slice lo hi b5 p2) v (.ref s3.heap.objs.size)) (EP X a σ Q) X.xe {s3 with heap:=s3.heap.push {cls:=.type "slice",data:=.fields #[c,d,.none]}};show U' (ops:=[.ref s3.heap.objs.size,v]) O N Y (by with_unfolding_all rfl)
abbrev sm(xs:List V)(lo hi:Option Int):List V:=(xs.drop (HT.GL xs.length 0 lo)).take (HT.GL xs.length xs.length hi - HT.GL xs.length 0 lo)
def nz(xs:List V)(lo hi:Option Int):(sm xs lo hi).length<=xs.length:=by
 unfold sm;rw[ve,UQ];lia
abbrev CK(K:PySem.W.Frag):R2:=λx y H Q=>∃a b xs ys,x=.ref a/\y=.ref b/\FH K H a xs/\FH K H b ys/\xs≠[]/\xs.length+ys.length<=df /\
 (ys=[]->Q (.ref a) H)/\(ys≠[]->∀p,H p=b5->Q (.ref p) (upd H p (.tup (xs++ys))))
def Vals.lW(r:Vals xs us):us=[]↔xs=[]:=by
 cases r with
 |_=>simp
def xx:Gm X (KX .Add) (CK X.K):=by
 intro f s σ H x y v u Q I g i h;have⟨a,b,xs,ys,rfl,rfl,j,k,l,hz,m,n⟩:=h;cases g;cases i;obtain⟨r,d,p,_⟩:=I.tuple j;obtain⟨t,c,p2,_⟩:=I.tuple k;show HT.xr p p2 (λz=>l (d.lW.mp z)) (λz=>⟨.ref a,H,I,rfl,m (c.lW.mp z)⟩) (λz=>?_) (by rw[<-d.length,<-c.length];show hz);show⟨.ref s.heap.objs.size,_,I.laid (t':=s.toks) (o:=.tup (xs++ys)) (λb A q=>c4 _ q) (hY _) ?_,rfl,n (λw=>z (c.lW.mpr w)) _ (I.EZ.fresh (hY _))⟩;show⟨by rw[ke];show hz,_,d.append c,UG _ _⟩
end
abbrev Iz(n:Nat)(i:Int):Option Nat:=if 0<=i then(if i<n then a5 i.toNat else b5) else if -(n:Int)<=i then a5 (i+n).toNat else b5
abbrev FR{α:Type}(xs:List α)(i:Int):Option α:=(Iz xs.length i).bind λj=>xs[j]?
def qy{n:Nat}(h:Iz n i=a5 j):QX i n=a5 j/\j<n/\-(n:Int)<=i/\i<n:=by
 unfold Iz at h;by_cases b:0<=i
 .rw[Wq b]at h;by_cases a:i<n
  .rw[Wq a]at h;have e:i.toNat=j:=ra h;show⟨by rw[U0 b a,e],⋯,⋯,a⟩
  .rw[Ws a]at h;cases h
 .rw[Ws b]at h;by_cases a:-(n:Int)<=i
  .rw[Wq a]at h;have e:(i+n).toNat=j:=ra h;show⟨by rw[seqIndex_neg ⋯ a,e],⋯,a,⋯⟩
  .rw[Ws a]at h;cases h
def lX(h:FR xs i=a5 v):∃j,QX i xs.length=a5 j/\xs[j]?=a5 v/\j<xs.length/\-(xs.length:Int)<=i/\i<xs.length:=by
 unfold FR at h;cases e:Iz xs.length i with
 |none=>rw[e]at h;cases h
 |some j =>
  rw[e]at h;have⟨a,b,c,d⟩:=qy e;show⟨j,a,h,b,c,d⟩
def iQ{j:Nat}(h:xs[j]?=a5 v):FR xs (j:Int)=a5 v:=by
 have a:j<xs.length:=(eH.mp h).1;have e:Iz xs.length (j:Int)=a5 j:=by
  unfold Iz;rw[Wq ⋯,Wq ⋯];simp
 unfold FR;rw[e];show h
abbrev lY(b:l'):Prop:=∀o i,Rk b c2 o i=operate [o,i] (Qy o i)
abbrev Nm(X:Cx)(r:R2):Prop :=
 ∀(c a:l') (b:List (fS×Obj)) (s:hH) (σ:St) (H:Hp) (x y:V) (v u:ei) (Q:VK),Inv X b σ H s->RelV x v->RelV y u->r x y H Q ->
  Rk a c2 v u=operate [v,u] (Qy v u)->hA (hW X.prog X.w) X.A (Pj c a v u) (EP X b σ Q) X.xe s
abbrev Nn(X:Cx)(id:String)(r:V->List V->Hp->VK->Prop):Prop :=
 ∀(a:List (fS×Obj)) (s:hH) (σ:St) (H:Hp) (x:V) (xs:List V) (v:ei) (us:List ei) (Q:VK),Inv X a σ H s->RelV x v->Vals xs us->r x xs H Q ->
  hA (hW X.prog X.w) X.A (KS (.builtin id) (v::us)) (EP X a σ Q) X.xe s
section
abbrev Es(K:PySem.W.Frag):R2:=λx y H Q=>∃p xs i v,x=.ref p/\y=.int i/\Fj K H p xs/\FR xs i=a5 v/\Q v H
abbrev Et(K:PySem.W.Frag):R2:=λx y H Q=>∃p xs i v,x=.ref p/\y=.int i/\FH K H p xs/\FR xs i=a5 v/\Q v H
abbrev Eu:R2:=λx y H Q=>∃z i c,x=.str z/\y=.int i/\z.length<=df/\FR z.cps.toList i=a5 c/\Q (.str ⟨#[c]⟩) H
def xy:Nm X (Es X.K):=by
 intro d f a s σ H x y v u Q I n A h hs;have⟨p,xs,i,z,rfl,rfl,B,C,q⟩:=h;cases n;have⟨t,rfl⟩:=A;have⟨D,r,g,hz⟩:=I.list B;have⟨j,c,G,O,J,L⟩:=lX C;have⟨w,l,N⟩:=r.get G;have hl:=r.length;have Y:=eF;have b:EP X a σ Q w s:=⟨z,H,I,N,q⟩
 by_cases m:0<=i
 .have k:i.toNat=j:=by
   rw[U0 m L]at c;show ra c
  show item_listR g.isList m ⋯ (by rw[k];simpa using l) b hs
 .have k:(i+(D.toArray.size:Int)).toNat=j:=by
   rw[seqIndex_neg ⋯ J]at c;rw[fR,<-hl];show ra c
  show UA (x:=w) g.isList.typeIs VF.lookup
   (wpAny_getItem_list_neg (Q:=λr s'=>r=w/\EP X a σ Q r s') g.isList ⋯ (by rw[fR]<;>lia) ⋯ (by rw[k];simpa using l) ⟨rfl,b⟩) hs
def lZ:Nm X (Et X.K):=by
 intro b c a s σ H x y v u Q I g k h hs;have⟨p,xs,i,z,rfl,rfl,l,m,q⟩:=h;cases g;have⟨t,rfl⟩:=k;have⟨D,r,f,hz⟩:=I.tuple l;have⟨j,n,A,G,J,L⟩:=lX m;have⟨w,B,C⟩:=r.get A;have hl:=r.length;have N:=eF;have d:EP X a σ Q w s:=⟨z,H,I,C,q⟩
 show UA (x:=w) f.typeIs slot_tuple_getitem.lookup
  (getItem_tuple (j:=j) (Q:=λr s'=>r=w/\EP X a σ Q r s') f ⋯ ⋯ (by rw[fR,<-hl];show n) (by simpa using B) ⟨rfl,d⟩) hs
def l8:Nm X Eu:=by
 intro a b d s σ H x y v u Q I g k h hs;have⟨z,i,c,rfl,rfl,hz,l,q⟩:=h;have⟨t,rfl⟩:=g;have⟨t',rfl⟩:=k;have⟨j,f,m,B,n,p⟩:=lX l;have hl:z.cps.toList.length=z.length:=by simp[Wh]
 rw[hl]at f n p;have C:=eF;show U' (Se s z t) VV.lookup (getItem_str (c:=c) (by
  have w:dV (i < -(2 ^ 63:Int))=c2:=Wr ⋯;have A:dV (i >= 2 ^ 63)=c2:=Wr ⋯;rw[w,A,Ry]) (by rw[f];simpa using m) ⟨.str ⟨#[c]⟩,H,I.tok _,⟨_,rfl⟩,q⟩) hs
def oX(a:List ei)(n j:Nat)(u:ei):mx (·.setIfInBounds j u) {cls:=.type "list",data:=.seq a.toArray n}={cls:=.type "list",data:=.seq (a.set j u).toArray n}:=by
 simp[mx]
def Inv.lst(I:Inv X b σ H s)(h:H p=a5 (.lst xs)):
  ∃(a:List ei) (n:Nat),Vals xs a/\s.heap.get? p=a5 {cls:=.type "list",data:=.seq a.toArray n}/\xs.length<=df:=by
 have⟨z,a,n,r,e⟩:=I.EZ p _ h;show⟨a,n,r,e,z⟩
def Inv.Au{c its':List ei}(I:Inv X a σ H s)(h:H p=a5 (.lst xs))
  (ho:s.heap.get? p=a5 {cls:=.type "list",data:=.seq c.toArray n}) (d:f {cls:=.type "list",data:=.seq c.toArray n}={cls:=.type "list",data:=.seq its'.toArray g }) (r:Vals ys its') (hz:ys.length<=df) (t:Nat) :
  Inv X a σ (upd H p (.lst ys)) {s with heap:=s.heap.update p f,toks:=t}:=by
 have e:(s.heap.update p f).get? p=a5 {cls:=.type "list",data:=.seq its'.toArray g }:=by
  rw[u7 f ho (by rw[d]<;>rfl),d]
 show I.write (x:=p) (e:=p) (by rw[h];trivial) (.inl rfl) (λb u i q=>(Jw _ _ (qs i)).trans q) ⟨_,e⟩ ?_;show⟨hz,its',g,r,e⟩
abbrev CL:V->V->V->Hp->(Hp->Prop)->Prop:=λo i v H Q=>∃p xs k j,o=.ref p/\i=.int k/\H p=a5 (.lst xs)/\Iz xs.length k=a5 j/\Q (upd H p (.lst (xs.set j v)))
def set_list:lR X CL:=by
 intro a s σ H o i v z A u Q I w x rv h;have⟨p,xs,k,j,rfl,rfl,c,y,q⟩:=h;cases w;have⟨t,rfl⟩:=x;have⟨d,n,r,ho,hz⟩:=I.lst c;have⟨b,B,f,g⟩:=qy y;have hl:=r.length;have C:=eF;have l:Inv X a σ (upd H p (.lst (xs.set j v))) {s with heap:=s.heap.update p (mx (·.setIfInBounds j u))} :=
  I.Au c ho (oX d n j u) (r.set rv j) (by rw[Ve];show hz) s.toks
 by_cases m:0<=k
 .have hk:k.toNat=j:=by
   rw[U0 m g]at b;show ra b
  show PySem.W.ki_setAt ho m ⋯ (by rw[fR,<-hl];show g) (by rw[hk];show⟨_,l,q⟩)
 .have hk:(k+(d.toArray.size:Int)).toNat=j:=by
   rw[seqIndex_neg ⋯ f]at b;rw[fR,<-hl];show ra b
  show PySem.W.ki_setBack ho ⋯ (by rw[fR,<-hl];show f) ⋯ (by rw[hk];show⟨_,l,q⟩)
def l9(lo a:Option Int)(n:Nat):(L6 lo a b5 n).1=((HT.GL n 0 lo:Nat):Int)/\(L6 lo a b5 n).2.1=((HT.GL n n a:Nat):Int)/\(L6 lo a b5 n).2.2=1:=by
 show⟨?_,?_,rfl⟩
 .cases lo with
  |none=>simp[L6,HT.GL]
  |some i =>
   simp only[L6,HT.GL,Ui,show(1:Int)>0 by decide,if_true];by_cases h:i<0
   .simp only[h,if_true]<;>lia
   .simp only[h,if_false]<;>lia
 .cases a with
  |none=>simp[L6,HT.GL]
  |some i =>
   simp only[L6,HT.GL,Ui,show(1:Int)>0 by decide,if_true];by_cases h:i<0
   .simp only[h,if_true]<;>lia
   .simp only[h,if_false]<;>lia
def kb(a:List ei)(lo b:Option Int):slicePick a.toArray lo b b5=((a.drop (HT.GL a.length 0 lo)).take (HT.GL a.length a.length b - HT.GL a.length 0 lo)).toArray:=by
 have⟨c,d,f⟩:=l9 lo b a.toArray.size;unfold slicePick;rw[c,d,f];simp only[sliceRange_one,pick_run,fR]<;>rfl
abbrev CM(K:PySem.W.Frag):V->Option Int->Option Int->Hp->VK->Prop:=λx lo b H Q=>∃a xs,x=.ref a/\Fj K H a xs/\∀p,H p=b5->Q (.ref p) (upd H p (.lst (sm xs lo b)))
def xA:Jc X (CM X.K):=by
 intro f s σ H x v m n lo d p Q I i hs j k h;have⟨a,xs,rfl,l,q⟩:=h;cases i;have⟨u,r,g,hz⟩:=I.list l;have c:=r.length;show⟨"list",_,VF.lookup,g.isList.typeIs,?_⟩;show wpAny_getItem_list_slice g.isList hs j k .none (by simp) ?_ (by rw[fR]<;>lia);rw[kb,<-c];show⟨.ref s.heap.objs.size,_,I.laid (t':=s.toks) (o:=.lst (sm xs lo d)) (λb w q=>c4 _ q) (hY _) ?_,rfl,q _ (I.EZ.fresh (hY _))⟩;show⟨w6 (nz xs lo d) hz,_,0,(r.drop (HT.GL xs.length 0 lo)).take (HT.GL xs.length xs.length d - HT.GL xs.length 0 lo),hh _ rfl⟩
def gb:f_ X (.builtin "len") (λxs H Q=>∃p ys,xs=[.ref p]/\(Fj X.K H p ys\/FH X.K H p ys)/\Q (.int ys.length) H):=by
 intro d s σ H xs us Q I r h;have⟨p,ys,rfl,hq,q⟩:=h;have⟨u,rfl,f⟩:=vals1 r;cases f;have i:=eF;rcases hq with hq|hq
 .have⟨g,b,c,hz⟩:=I.list hq;have a:=b.length;show Calls.call_len_list c.isList (by simp only[fR]<;>lia) ⟨.int ys.length,H,I.tok _,⟨s.toks+1,by rw[fR,a]⟩,q⟩
 .have⟨g,b,c,hz⟩:=I.tuple hq;have a:=b.length;show len_tuple c (by simp only[fR]<;>lia) ⟨.int ys.length,H,I.tok _,⟨s.toks+1,by rw[fR,a]⟩,q⟩
def l_:f_ X (.builtin "len") (λxs H Q=>∃z,xs=[.str z]/\z.length<=df/\Q (.int z.length) H):=by
 intro a s σ H xs us Q I r h;have⟨z,rfl,hz,q⟩:=h;have⟨u,rfl,t,rfl⟩:=vals1 r;have b:=eF;show len_str ⋯ ⟨.int z.length,H,I.tok _,⟨_,rfl⟩,q⟩
def gc:f_ X (.type "list") (λxs H Q=>∃p ys,xs=[.ref p]/\(Fj X.K H p ys\/FH X.K H p ys)/\∀l,H l=b5->Q (.ref l) (upd H l (.lst ys))):=by
 intro f s σ H xs us Q I r h;have⟨p,ys,rfl,hq,q⟩:=h;have⟨u,rfl,x⟩:=vals1 r;cases x;have g:∀(a:List ei),Vals ys a->ys.length<=df->∀(h':Gz) (c:Nat),(∀b o',s.heap.get? b=a5 o'->h'.get? b=a5 o') ->
   h'.get? s.heap.objs.size=a5 {cls:=.type "list",dict:=b5,data:=.seq a.toArray c,slots:=#[]}->EP X f σ Q (.ref s.heap.objs.size) {s with heap:=h' }:=λa d hz h' c i e =>
  ⟨.ref s.heap.objs.size,_,I.laid (t':=s.toks) i (hY _) (show bu X.prog X.w _ h' _ (.lst ys) from⟨hz,a,c,d,e⟩),rfl,q _ (I.EZ.fresh (hY _))⟩
 rcases hq with hq|hq
 .have⟨a,d,k,hz⟩:=I.list hq;have j:=d.length;have⟨o,ho,m,n,v⟩:=k.isList;show call_list_seq p (.inl rfl) ho m v (λh' c i e=>g a d hz h' c i e) (by simp only[fR]<;>lia)
 .have⟨a,d,k,hz⟩:=I.tuple hq;have j:=d.length;have⟨o,ho,m,n,v⟩:=k;show call_list_seq p (.inr rfl) ho m v (λh' c i e=>g a d hz h' c i e) (by simp only[fR]<;>lia)
def fu:f_ X (.type "tuple") (λxs H Q=>∃p ys,xs=[.ref p]/\((Fj X.K H p ys/\∀l,H l=b5->Q (.ref l) (upd H l (.tup ys)))\/(FH X.K H p ys/\Q (.ref p) H))):=by
 intro a s σ H xs us Q I r h;have⟨p,ys,rfl,h⟩:=h;have⟨u,rfl,k⟩:=vals1 r;cases k;rcases h with⟨c,q⟩|⟨c,q⟩
 .have⟨d,f,g,hz⟩:=I.list c;have i:=f.length;show call_tuple_list g.isList (λh' m=>?_) (by simp only[fR]<;>lia);have j:Inv X a σ H {s with heap:=h' }:=I.kept (t':=s.toks) m;have n:Inv X a σ (upd H h'.objs.size (.tup ys)) {s with heap:=h'.push {cls:=.type "tuple",data:=.seq d.toArray}} :=
   j.laid (t':=s.toks) (λb o e=>c4 _ e) (hY _) (show bu X.prog X.w _ _ _ (.tup ys) from⟨hz,d,f,UG _ _⟩)
  show⟨.ref h'.objs.size,_,n,rfl,q _ (j.EZ.fresh (hY _))⟩
 .have⟨d,f,g,hz⟩:=I.tuple c;show call_tuple_same g ⟨.ref p,H,I,rfl,q⟩
abbrev Mc(K:PySem.W.Frag)(T:String)(x:V)(H:Hp):Prop:=match x with
 |.str _=>T="str"
 |.int _=>T="int"
 |.ref p=>(T="list"/\∃xs,Fj K H p xs)\/(T="tuple"/\∃o,K.lookup p=a5 o/\o.cls=.type "tuple"/\o.dict=b5) \/
   (T="dict"/\((∃kvs,H p=a5 (.dK kvs))\/∃kvs,H p=a5 (.dT kvs)))\/(T="set"/\∃S n,H p=a5 (.set S n))
 |_=>False
def mf(I:Inv X g σ H s)(r:RelV x v)(b:Mc X.K T x H):
  s.TypeIs v T/\∀a,v=.ref a->∃h,s.heap.get? a=a5 h/\h.dict=b5:=by
 cases x with
 |str z =>
  have⟨t,rfl⟩:=r;cases(show T="str" from b);show⟨Se s z t,λ_ e=>nomatch e⟩
 |int i =>
  have⟨t,rfl⟩:=r;cases(show T="int" from b);show⟨typeIs_int s i t,λ_ e=>nomatch e⟩
 |ref p =>
  cases r;rcases b with⟨rfl,xs,k⟩|⟨rfl,o,hk,l,d⟩|⟨rfl,hk⟩|⟨rfl,S,n,hk⟩
  .obtain⟨m,_,j,_⟩:=I.list k;show⟨j.isList.typeIs,λa e=>?_⟩;cases e;obtain⟨o,n,e,c,d,_⟩:=j;show⟨o,e,d⟩
  .show⟨⟨o,I.IX p o hk,l⟩,λa e=>?_⟩;cases e;show⟨o,I.IX _ o hk,d⟩
  .have z:∃o,s.heap.get? p=a5 o/\o.ExactDict:=by
    rcases hk with⟨kvs,hk⟩|⟨kvs,hk⟩
    .obtain⟨_,_,_,_,o,_,_,e,ex,_⟩:=I.EZ p _ hk;show⟨o,e,ex⟩
    .obtain⟨_,_,_,_,o,_,_,e,ex,_⟩:=I.EZ p _ hk;show⟨o,e,ex⟩
   have⟨o,e,ex⟩:=z;show⟨⟨o,e,ex.1⟩,λa f=>?_⟩;cases f;show⟨o,e,ex.2.1⟩
  .obtain⟨o,_,_,_,e,ex,_⟩:=I.EZ p _ hk;show⟨⟨o,e,ex.1⟩,λa f=>?_⟩;cases f;show⟨o,e,ex.2.1⟩
 |_=>show J2 b
abbrev Ew(K:PySem.W.Frag)(T:String)(r:V->List V->Hp->VK->Prop)(to:TE):TE:=λσ H Q=>to σ H λx a=>Mc K T x a/\r x [] a Q
abbrev QU(K:PySem.W.Frag)(T:String)(r:V->List V->Hp->VK->Prop)(to:TE)(t:TA):TE:=λσ H Q=>to σ H λx a=>Mc K T x a/\t σ a λxs b=>r x xs b Q
variable{o e:l'}{es:List l'}{to:TE}{t:TA}{name:Str}{apos cpos:Pos}{T id:String}{r:V->List V->Hp->VK->Prop}
def oY(d:PlainAttrs T)(slot:Slot T name id)(f:Vo (.builtin id)=pure (.type "method_descriptor"))(g:Nn X id r)(ho:PE X o to)
  (i:Nr o name X.env (D3 o X.env)=D3 o X.env:=by rfl) (j:(apos.endLine==cpos.line)=bD:=by rfl):PE X (.Call (.Attribute o name apos) [] [] cpos) (Ew X.K T r to):=by
 intro a s σ H Q I h;show TZ i j (E2 (ho a s σ H _ I h) λv s1 k=>?_);have⟨x,l,b,c,m,n⟩:=k;have⟨p,q⟩:=mf b c m;show⟨T,id,d,slot,f,p,q,GH rfl (PySem.evalArgs_none (g a s1 σ l x [] v [] Q b c .nil n))⟩
def qz(f:PlainAttrs T)(slot:Slot T name id)(g:Vo (.builtin id)=pure (.type "method_descriptor"))(i:Nn X id r)(ho:PE X o to)(j:PA X (e::es) t)
  (k:Nr o name X.env (D3 o X.env)=D3 o X.env:=by rfl)
  (l:((E1 cpos (i7 (e::es) X.env)).all (λx=>!x.1)&&(M9 cpos (KC [] X.env)).all (λx=>x.1.isSome)
   && dV ((e::es).length+([]:List J5).length+(if ([]:List J5).isEmpty then 0 else 1)<30))=bD:=by rfl)
  (m:(apos.endLine==cpos.line)=bD:=by rfl) (hs:i7 (e::es) X.env=(c2,D3 e X.env)::i7 es X.env:=by rfl) (n:(E1 cpos (i7 es X.env)).any (·.1)=c2:=by rfl) :
  PE X (.Call (.Attribute o name apos) (e::es) [] cpos) (QU X.K T r to t):=by
 intro a s σ H Q I h;show Ur k l m rfl (E2 (ho a s σ H _ I h) λv s1 p=>?_);have⟨x,q,b,c,u,w⟩:=p;have⟨y,z⟩:=mf b c u;show⟨T,id,f,slot,g,y,z,?_⟩;have d:=j cpos a s1 σ q _ b w;rw[hs]at d ⊢;show GH (by change(c2||(E1 cpos (i7 es X.env)).any (·.1))=c2;rw[n]<;>rfl) (JV ?_);show E2 d λus s2 ⟨vs,A,B,C,D⟩=>i a s2 σ A x vs v us Q B c C D
end
abbrev KZ(X:Cx)(id:String)(r:V->List V->Hp->VK->Prop):Prop :=
 ∀(a:List (fS×Obj)) (s:hH) (σ:St) (H:Hp) (x:V) (xs:List V) (v:ei) (us:List ei) (Q:VK),Inv X a σ H s->RelV x v->Vals xs us->r x xs H Q ->
  hA (hW X.prog X.w) X.A (KS (.builtin id) (v::us)) (EP X a σ Q) X.xe s
theorem Vals.one:∀{x:V}{us:List ei},Vals [x] us->∃u,us=[u]/\RelV x u
 |_,_,.cons r .nil=>⟨_,rfl,r⟩
theorem Vals.zero:∀{us:List ei},Vals [] us->us=[]
 |_,.nil=>rfl
def Vals.dropLast(h:Vals xs us):Vals xs.dropLast us.dropLast:=by
 induction h with
 |nil=>show .nil
 |cons r t a =>
  cases t with
  |nil=>show .nil
  |cons q t'=>show .cons r a
theorem Vals.eraseIdx:∀{xs:List V}{us:List ei} (i:Nat),Vals xs us->Vals (xs.eraseIdx i) (us.eraseIdx i)
 |_,_,_,.nil=>.nil
 |_,_,0,.cons _ t=>t
 |_,_,i+1,.cons r t=>.cons r (Vals.eraseIdx i t)
def Vals.reverse(h:Vals xs us):Vals xs.reverse us.reverse:=by
 induction h with
 |nil=>show .nil
 |cons r t a=>rw[MY,MY];show Vals.append a (.cons r .nil)
def oZ(l:List α):l.eraseIdx (l.length - 1)=l.dropLast:=by
 induction l with
 |nil=>rfl
 |cons a r c =>
  cases r with
  |nil=>rfl
  |cons b r =>
   have e:(a::b::r).length - 1=((b::r).length - 1)+1:=by
    have d:(a::b::r).length=r.length+2:=rfl;have f:(b::r).length=r.length+1:=rfl;lia
   rw[e,RX,c]
   all_goals rfl
theorem kK:∀(l:List α) (i:Nat),(l.eraseIdx i).length<=l.length
 |[],_=>hY _
 |_::_,0=>Jy _
 |_::r,i+1=>Nat.succ_le_succ (kK r i)
section
def Inv.jg{b its':List ei}(I:Inv X a σ H s)(c:H l=a5 (.lst xs))
  (e:s.heap.get? l=a5 {cls:=.type "list",data:=.seq b.toArray n}) (d:f b.toArray=its'.toArray) (g:Vals ys its') (hz:ys.length<=df) :
  Inv X a σ (upd H l (.lst ys)) {s with heap:=s.heap.update l (mx f),toks:=t' }:=by
 have q:=PySem.IsL.update e f;rw[d]at q;show I.write (x:=l) (e:=l) (by rw[c];show trivial) (.inl rfl) (λj u h i=>(Jw s.heap (mx f) (qs h)).trans i) ⟨_,q⟩ ?_;show⟨hz,its',_,g,q⟩
def Inv.Ey(I:Inv X a σ H s)(c:Vals ys b)(hz:ys.length<=df):
  Inv X a σ (upd H s.heap.objs.size (.lst ys)) {s with heap:=s.heap.push {cls:=.type "list",data:=.seq b.toArray},toks:=t' } :=
 I.laid (λ_ _ q=>c4 _ q) (hY _) ⟨hz,b,0,c,hh _ rfl⟩
def Inv.fresh(I:Inv X a σ H s):H s.heap.objs.size=b5:=I.EZ.fresh (hY _)
def Inv.ug(I:Inv X b σ H s)(c:H l=a5 (.lst xs)):xs.length<=df/\∃(a:List ei) (n:Nat),Vals xs a/\xs.length=a.length/\s.heap.get? l=a5 {cls:=.type "list",data:=.seq a.toArray n}:=by
 have⟨z,a,n,r,e⟩:=I.EZ l _ c;show⟨z,a,n,r,r.length,e⟩
def uh(h:n<=df):Hv n=c2:=by
 unfold Hv;show Wr ⋯
end
section
abbrev xB:V->List V->Hp->VK->Prop:=λx vs H Q=>∃l xs y,x=.ref l/\vs=[y]/\H l=a5 (.lst xs)/\xs.length<df/\Q .EY (upd H l (.lst (xs++[y])))
def kL:KZ X "list.append" xB:=by
 intro a s σ H x vs v us Q I d rv h;have⟨l,xs,y,rfl,rfl,b,hz,q⟩:=h;cases d;have⟨u,rfl,f⟩:=rv.one;have⟨z,c,n,r,hl,e⟩:=I.ug b;show M6 F.slot_list_append ⟨_,e,rfl⟩ F.entry_list_append (F.args_list_append_2 _ _) (PySem.list_append l c.toArray n u (by rw[fR];lia)) ⟨e,?_⟩;show⟨.EY,_,I.jg (its':=c++[u]) b e (by simp) (r.append (.cons f .nil)) ?_,rfl,q⟩;rw[ke,y0];lia
abbrev Ez:V->List V->Hp->VK->Prop:=λx vs H Q=>∃l xs y,x=.ref l/\vs=[]/\H l=a5 (.lst xs)/\xs[xs.length - 1]?=a5 y/\Q y (upd H l (.lst xs.dropLast))
def Av:KZ X "list.pop" Ez:=by
 intro b s σ H x vs v us Q I d rv h;have⟨l,xs,y,rfl,rfl,c,f,q⟩:=h;cases d;have g:=rv.zero;subst g;have⟨z,a,n,r,hl,e⟩:=I.ug c;have⟨u,i,j⟩:=r.get f;have k:a.toArray[a.toArray.size - 1]?=a5 u:=by
  change a.toArray[a.length - 1]?=a5 u;rw[<-tA,<-hl];show i
 show M6 VP ⟨_,e,rfl⟩ Vu (F.args_list_pop_1 _) (MeetsSeq.list_pop_last l a.toArray n u k (by rw[fR];lia)) ⟨e,?_⟩;show⟨y,_,I.jg (its':=a.dropLast) c e ?_ r.dropLast ?_,j,q⟩
 .change a.toArray.eraseIdxIfInBounds (a.toArray.size - 1)=a.dropLast.toArray;rw[fR,O3,oZ]
 .rw[List.length_dropLast];lia
abbrev Aw:V->List V->Hp->VK->Prop:=λx vs H Q=>∃l xs i k y,x=.ref l/\vs=[.int i]/\H l=a5 (.lst xs)/\-(2 ^ 63)<=i/\i<2 ^ 63/\QX i xs.length=a5 k/\xs[k]?=a5 y/\Q y (upd H l (.lst (xs.eraseIdx k)))
def ui:KZ X "list.pop" Aw:=by
 intro b s σ H x vs v us Q I d rv h;have⟨l,xs,i,k,y,rfl,rfl,c,f,g,hk,j,q⟩:=h;cases d;have⟨u,rfl,m⟩:=rv.one;have⟨t,rfl⟩:=m;have⟨z,a,n,r,hl,e⟩:=I.ug c;have⟨w,o,p⟩:=r.get j;show M6 VP ⟨_,e,rfl⟩ Vu (F.args_list_pop_2 _ _)
  (MeetsSeq.list_pop_at l a.toArray n i t k w (fitsIndex_both f g) (by rw[fR,<-hl];show hk) (by rw[<-tA];show o) (by rw[fR];lia)) ⟨e,?_⟩
 show⟨y,_,I.jg (its':=a.eraseIdx k) c e ?_ (r.eraseIdx k) ?_,p,q⟩
 .change a.toArray.eraseIdxIfInBounds k=(a.eraseIdx k).toArray;rw[O3]
 .have:=kK xs k;lia
abbrev Ax:V->List V->Hp->VK->Prop:=λx vs H Q=>∃l xs,x=.ref l/\vs=[]/\H l=a5 (.lst xs)/\Q .EY (upd H l (.lst []))
def nA:KZ X "list.clear" Ax:=by
 intro a s σ H x vs v us Q I c rv h;have⟨l,xs,rfl,rfl,b,q⟩:=h;cases c;have d:=rv.zero;subst d;have⟨z,f,n,r,hl,e⟩:=I.ug b;show M6 F.slot_list_clear ⟨_,e,rfl⟩ F.entry_list_clear (F.args_list_clear_1 _) (AutoSeq1.list_clear_list_0 l f.toArray n (by rw[fR];lia)) ⟨e,?_⟩;show⟨.EY,_,I.jg (its':=[]) (ys:=[]) b e rfl .nil (kj _),rfl,q⟩
end
section
set_option maxRecDepth 100000 in
end
section
end
end L2
namespace Ph
open PySem PySem.W PySem.Calls PyProof.Rows
def iI:∀(ns:List Int) (vs:List ei),WellAll P h vs (ns.map V0)->UH vs ns:=by
 intro ns;induction ns with
 |nil =>
  intro vs w;rw[J_]at w;cases w;show .nil
 |cons n ns c =>
  intro vs w;rw[gj]at w;cases w with
  |cons a b =>
   cases a;show .cons _ _ (c _ b)
def so{l:OpenLaw}(j:l.most=a5 n)
  (g:l.row.toRowW.claim.pre args=bD) (k:WellAll P h b args) :
  ∃a vs ns,b=[i1 a]/\args=[WData.list (ns.map V0)]/\h.get? a=a5 {cls:=.type "list",data:=.seq vs.toArray}/\UH vs ns/\ns.length<=n:=by
 have m:WShape.hasAll [] args [.list .int]=bD:=(pre_splitW g).1;have i:l.pre.holds [] {args:=args}=bD:=(pre_splitW g).2;have⟨d,r,rfl,o,p⟩:=hasAllW_cons m;obtain rfl:=hasAllW_nil p;have⟨xs,rfl,s⟩:=hasW_list o;have⟨ns,rfl⟩:=items_int s;have c:ns.length<=n:=by
  unfold OpenLaw.pre at i;have e:(WTm.not (.lt (.lit (.int (n:Int))) (.len (.arg 0)))).holds [] {args:=[.list (ns.map .int)]}=bD:=by
   have e:=(holds_andW i).1;rw[j]at e;show e
  have f:=condW_of e (w_not (w_lt w_lit (w_len_list (w_arg rfl))));rw[d3]at f;show Nat.le_of_not_lt λq=>?_;have t:(n:Int)<((ns.length:Nat):Int):=by lia
  first
   |(rw[Wt t]at f;show absurd f (by decide))
   |(simp at f;lia)
 cases k with
 |cons u v =>
  cases v;cases u with
  |list ho w=>show⟨_,_,ns,rfl,rfl,ho,iI ns _ w,c⟩
def sr(l:OpenLaw)(args:List WData):l.row.toRowW.claim.post args (.bool bD) args=bD :=
 postW_of (r:=l.row.toRowW) (X:=(bD==bD))
  (show VI [] (.bool bD) .bool=bD by first|rfl|decide|simp[VI,WShape.arms,WShape.armsAll])
  (show(WTm.eq .res (.lit (.bool bD))).value [] {args:=args,res:=a5 (.bool bD),after:=args}=a5 (.bool (bD==bD)) from w_eq_bool (w_res rfl) w_lit) rfl
def nB{l:OpenLaw}
  (s:l.most=a5 n) (t:d.params.defaults=[])
  (KS:∀(w:x8) (s₀ b:hH) (mg j:Str->Option ei) (fa:fS) (o:Obj) (k i c:ei) (a:fS) (vs:List ei) (ns:List Int),
   Ground q e [] u w s₀ mg j b.heap->v w b.heap ->
   b.heap.get? fa=a5 o->o.data=.func (docDef d.name d.params d.body d.scope k i c)->b.heap.CodeRec i d.name->mg d.name=a5 (.ref fa) ->
   b.heap.get? a=a5 {cls:=.type "list",data:=.seq vs.toArray}->UH vs ns->ns.length<=n->b.gens=#[] ->
   LW (hW l.prog w) N0 (.call (.ref fa) ⟨[.ref a],[]⟩) (λr s'=>r=.ok (.ret (.bool bD))/\OldK b.heap s'.heap/\s'.os=b.os/\N7 s'.gens) b) :
  WalkO q e u v l.row.toRowW d [] (λf vs=>PySem.call f vs):=by
 intro w s₀ b mg j G Y fa o k i c x kV ho y z m A B args p as C Q T D TY;obtain rfl:x=.none:=Dflts.none m t;obtain rfl:kV=.none:=Dflts.noKw m;have⟨a,vs,ns,rfl,rfl,H,g,h⟩:=so s C D;show enter_call (NX (KS w s₀ b mg j fa o k i c a vs ns G Y ho (fd_plain y) z A H g h B) λr s' I=>?_);have⟨rfl,J,L,N⟩:=I;show⟨.inl ⟨.bool bD,.bool bD,[],rfl,λ_=>rfl,.bool bD,sr l _,λ_=>⟨VX,λ_ O=>(nomatch O)⟩⟩,J,L,N⟩
section
end
end Ph
namespace L2
open PySem PySem.Spec PyProof.Rows
theorem kM:∀{vs:List ei}{ns:List Int},UH vs ns->Vals (ns.map V.int) vs
 |_,_,.nil=>.nil
 |_,_,.cons n t h=>.cons ⟨t,rfl⟩ (kM h)
abbrev Ay(H:Hp):Prop:=∀b,H b=b5\/∃o xs,H b=a5 (.FO o (.lst xs))
def uj{K:PySem.W.Frag}
  (y:K.In c.heap) (A:c.heap.Ns z8 mg) (f:c.heap.Ns Vq B) (O:∀x:Str,x≠"__name__"->B x=E6 x) (Q:c.heap.NoLimit) (T:c.gens=#[])
  (l:c.heap.get? a=a5 {cls:=.type "list",data:=.seq vs.toArray}) (C:UH vs ns) (hl:ns.length<=df) (Y:eG k N0)
  (F:∀base:Gz,K.In base->base.Ns z8 mg->iH P w K mg base CX k fa fd [x] sp) (K1:∀(s:hH) (u:ei),Uz s fd ⟨[u],[]⟩ [(x,u)])
  (GK:∀H:Hp,Ay H->Fj K H a (ns.map V.int)->sp [.ref a] H (λv _=>v=.bl bD) λ_ _ _=>False)
  (Nw:∀H e s',CX [] H c (λ_ _ _=>False) e s'->False) :
  LW (hW P w) N0 (.call (.ref fa) ⟨[.ref a],[]⟩) (λr s'=>r=.ok (.ret (.bool bD))/\OldK c.heap s'.heap/\s'.os=c.os/\N7 s'.gens) c:=by
 have rv:=kM C;have Ny:=C.length;have g:∀H:Hp,Ay H->Fj K H a (ns.map V.int)->FQ P w H c.heap->(∀b,H b≠b5->b=a)->(H a≠b5->K.lookup a=b5) ->
   LW (hW P w) N0 (.call (.ref fa) ⟨[.ref a],[]⟩) (λr s'=>r=.ok (.ret (.bool bD))/\OldK c.heap s'.heap/\s'.os=c.os/\N7 s'.gens) c:=by
  intro H D hS G I hK;have iU:∀{b:fS} {o:Obj},c.heap.get? b=a5 o->H b=b5->(lO c.heap H).get? b=a5 o:=λe n=>tX e n;have KQ:∀{b:fS} {o:Obj} {es:Array DictEntry} {ep:Nat},c.heap.get? b=a5 o->o.data=.dict es ep->H b=b5:=λ{b o es ep} e d=>by
   cases q:H b with
   |none=>rfl
   |some u =>
    have t:b=a:=I b (by rw[q];simp);subst t;rw[l]at e;cases e;have d':Data.seq vs.toArray _=Data.dict es ep:=d;cases d'
  have p:∀{b:fS} {m:Str->Option ei},c.heap.Ns b m->(lO c.heap H).Ns b m:=λ{b m} ⟨o,es,ep,e,d,r⟩=>⟨o,es,ep,iU e (KQ e d),d,r⟩
  have J:K.In (lO c.heap H):=λb o e=>iU (y b o e) (by
   cases q:H b with
   |none=>rfl
   |some u =>
    have t:b=a:=I b (by rw[q];simp);subst t;rw[hK (by rw[q];simp)]at e;cases e)
  have hM:Mod K mg (lO c.heap H):=⟨J,p A,⟨B,p f,O⟩,let ⟨mc,h1,h2⟩:=Q;⟨mc,p h1,h2⟩⟩
  have e0:xq P w K mg (lO c.heap H) N0 [] c H:=⟨rfl,hM,λb o e=>xh e,Th (sd _ _),trivial,λb f=>absurd (show b∈([]:List fS) from f) (by simp),G,.of_eq T⟩
  show NX ((F _ J (p A)).run N0 [] c H ⟨[.ref a],[]⟩ [.ref a] [.ref a] _ _ Y e0 (K1 c (.ref a)) (.cons rfl .nil) (GK H D hS)) λr s' h=>?_;cases r with
  |error e=>show(Nw H e s' h).elim
  |ok fl =>
   cases fl with
   |ret u =>
    have⟨v,H',os,i,L,Nz,r',q⟩:=h;have q':v=.bl bD:=q;subst q';obtain rfl:u=Md bD:=r';show⟨rfl,OldK.of_keep λb o e=>?_,os,i⟩;cases q:H b with
    |none=>show L.keep b o e q (by intro z;show absurd (show b∈([]:List fS) from z) (by simp)) (by simp)
    |some u =>
     rcases D b with z|⟨ob,xs,z⟩
     .rw[q]at z;cases z
     .have z2:=L.Gk b ob _ z;obtain⟨N,_⟩:=G b _ z;obtain⟨e2,_⟩:=Nz b _ z2;rw[e]at N;cases N;show e2
   |_=>show J2 h
 cases hk:K.lookup a with
 |some o =>
  have e:=y a o hk;rw[l]at e;cases e;show g (λ_=>b5) (λ_=>.inl rfl) (.inr ⟨_,vs.toArray,_,hk,rfl,rfl,rfl,by rw[fR,Ny];show hl,by simpa using rv⟩) (λb u z=>by have j:(b5:Option HO)=a5 u:=z;cases j) (λb z=>absurd rfl z) λz=>absurd rfl z
 |none =>
  show g (λb=>if b=a then a5 (.FO {cls:=.type "list",data:=.seq vs.toArray} (.lst (ns.map V.int))) else b5) (λb=>?_) (.inl (.inr ⟨{cls:=.type "list",data:=.seq vs.toArray},Wq rfl⟩)) (λb u z=>?_) (λb z=>?_) λ_=>hk
  .by_cases f:b=a
   .show .inr ⟨_,_,Wq f⟩
   .show .inl (Ws f)
  .by_cases f:b=a
   .have j:=(Wq f).symm.trans z;cases j;subst f;show⟨l,by rw[d3];show hl,vs,_,rv,l⟩
   .have j:=(Ws f).symm.trans z;cases j
  .by_cases f:b=a
   .show f
   .show absurd (Ws f) z
def xC{l:PySem.W.OpenLaw}{K:Ux->PySem.W.Frag}{CX:x8->Kc}{sp:x8->Sp}
  (p:l.most=a5 n) (r:n<=df) (t:d.params.defaults=[]) (y:eG k N0)
  (z:∀(w:x8) (h:Gz),A w h->(K w.params).In h)
  (F:∀(w:x8) (mg:Str->Option ei) (fa:fS) (h:Gz),(K w.params).In h->h.Ns z8 mg->mg d.name=a5 (.ref fa) ->
   ∃fd:Ni,(∀(s:hH) (u:ei),Uz s fd ⟨[u],[]⟩ [(x,u)]) /\
    ∀base:Gz,(K w.params).In base->base.Ns z8 mg->iH l.prog w (K w.params) mg base (CX w) k fa fd [x] (sp w))
  (B:∀(w:x8) (H:Hp) (a:fS) (ns:List Int),ns.length<=n->Ay H->Fj (K w.params) H a (ns.map V.int)->sp w [.ref a] H (λv _=>v=.bl bD) λ_ _ _=>False)
  (C:∀(w:x8) (H:Hp) (s:hH) (e:ei) (s':hH),CX w [] H s (λ_ _ _=>False) e s'->False) :
  PySem.W.WalkO q j XP A l.row.toRowW d [] (λf vs=>PySem.call f vs):=by
 show Ph.nB p t λw s₀ D mg mb fa o pm cd I a vs ns G Y ho hd Fq J L i c N=>?_;have m:=z w _ Y;have⟨fd,O,Q⟩:=F w mg fa _ m G.T.g J;show uj m G.T.g G.T.b G.T.builtins G.T.nolimit N L i (w6 c r) y Q O (λH hO hS=>B w H a ns c hO hS) λH e s'=>C w H D e s'
abbrev eY(s:HM):Arguments:=match s with
 |.FunctionDef _ a _ _ _ _ _ _ _ _=>a
 |_=>{posonlyargs:=[],args:=[],vararg:=b5,kwonlyargs:=[],kw_defaults:=[],kwarg:=b5,defaults:=[]}
abbrev b_(s:HM):List HM:=match s with
 |.FunctionDef _ _ b _ _ _ _ _ _ _=>b
 |_=>[]
abbrev aD(s:HM):Ir:=match s with
 |.FunctionDef _ _ _ _ _ _ a _ _ _=>a
 |_=>{kind:=.function,names:=[],isGenerator:=c2,isCoroutine:=c2}
@[reducible]def Hq:Kc:=λ_ _ _ _ _ _=>False
@[reducible]def E0:XK:=λ_ _ _=>False
def um:Passes Hq X E0:=λ_ _ _ _ _ _ _ h=>h.elim
structure Je(K:PySem.W.Frag)(x qual:Str)(st:HM)(f:fS)(fd:Ni):Prop where
 ex:∃(oc:ei) (od:Option fS) (kV doc pm:ei) (an:Option fS) (FY ct:ei) (KR:Array (Option ei)),
  fd=PySem.W.fnOf x qual (eY st) (b_ st) (aD st) .none kV doc pm an FY ct/\K.lookup f=a5 ⟨oc,od,.func fd,KR⟩/\PySem.W.codeIn K FY qual=bD
 kp:PySem.W.keepIn K (.ref f)=bD
section
variable{P:vr}{w:x8}{K:PySem.W.Frag}{mg:Str->Option ei}{base:Gz}
def Je.ok{st:HM}(F:Je K x a st f fd)(S:dq N d (aD st))(c:∀vs H Q E,sp vs H Q E->vs.length=d.length)
  (e:∀(b:ei) (A:K2) (outer:List Env) (s:hH) (H:Hp) (vs:List V) (Q:VK) (E:XK),eG k (A.deeper (N3 a (aD st) s.heap.objs.size f b))->sp vs H Q E ->
   ∃t,FA (nv Hq P w K mg base N a (aD st) f b A outer s H E).Ka (b_ st) t/\t {nx:=λ_ H'=>Q .EY H',rt:=Q} (start N vs) H):iH P w K mg base Hq (k+1) f fd d sp:=by
 have⟨m,n,kV,g,o,p,b,ct,r,rfl,lk,i⟩:=F.ex;show CI lk i S c λA outer s H vs Q E j l=>?_;have⟨t,h,q⟩:=e b A outer s H vs Q E j l;show⟨t,h.Ka,q⟩
def Az{st:HM}{kV b e d ct:ei}(l:K.lookup f=a5 ⟨h,i,.func (PySem.W.fnOf x a (eY st) (b_ st) (aD st) .none kV b e g d ct),j⟩)
  (c:PySem.W.codeIn K d a=bD) (k:PySem.W.keepIn K (.ref f)=bD):Je K x a st f (PySem.W.fnOf x a (eY st) (b_ st) (aD st) .none kV b e g d ct):=⟨⟨h,i,kV,b,e,g,d,ct,j,rfl,l,c⟩,k⟩
end
section
end
abbrev fH(H H':Hp):Prop:=∀b o,H b=a5 o->H' b=a5 o
section
variable{κ:Type}[DecidableEq κ]
abbrev cU(kvs:List (κ×V))(k:κ):Option V:=(kvs.find? λkv=>dV (kv.1=k)).map (·.2)
abbrev putK(kvs:List (κ×V))(k:κ)(v:V):List (κ×V) :=
 if (kvs.any λkv=>dV (kv.1=k))=bD then kvs.map (λkv=>if kv.1=k then(kv.1,v) else kv) else kvs++[(k,v)]
def dA{p:κ×V}{k:κ}(e:p.1=k):cU (p::r) k=a5 p.2:=by simp[cU,JB,e]
def dB{p:κ×V}{k:κ}(e:¬p.1=k):cU (p::r) k=cU r k:=by simp[cU,JB,e]
theorem gf(k:κ):∀kvs:List (κ×V),(kvs.any λkv=>dV (kv.1=k))=(cU kvs k).isSome
 |[]=>rfl
 |p::r=>by
  rw[Ov];by_cases e:p.1=k
  .simp only[dA e,Wt e,Bool.true_or,Tw]
  .rw[dB e,Wr e,Bool.false_or];show gf k r
def ir(kvs:List (κ×V))(k:κ)(v:V):(putK kvs k v).length<=kvs.length+1:=by
 unfold putK;split
 .rw[d3];lia
 .rw[ke,mu,PN];lia
def uo{k:κ}(v:V)(h:cU kvs k=b5):putK kvs k v=kvs++[(k,v)]:=by
 unfold putK;rw[gf,h];show Ws (by decide)
def iG.dC(r:iG o u):o.isSome=u.isSome:=by
 cases o with
 |none=>cases u with
  |none=>rfl
  |some _=>show(show False from r).elim
 |some _=>cases u with
  |none=>show(show False from r).elim
  |some _=>rfl
def iG.getD(r:iG o u)(a:RelV d d'):RelV (o.getD d) (u.getD d'):=by
 cases o with
 |none=>cases u with
  |none=>show a
  |some _=>show(show False from r).elim
 |some _=>cases u with
  |none=>show(show False from r).elim
  |some _=>show r
def KV.val(r:KV kvs vs)(k:κ):iG (cU kvs k) (P' vs k):=by
 unfold KV at r;induction r with
 |nil=>show QM
 |@cons p q i a h t f =>
  have⟨d,g⟩:=h;by_cases e:p.1=k
  .have c:q.1=k:=d.symm.trans e;have b:P' (q::a) k=a5 q.2:=by simp[P',JB,c]
   rw[dA e,b];show g
  .have c:¬q.1=k:=λz=>e (d.trans z);have b:P' (q::a) k=P' a k:=by simp[P',JB,c]
   rw[dB e,b];show f
def KV.any(r:KV kvs vs)(k:κ):(kvs.any λkv=>dV (kv.1=k))=vs.any λkv=>dV (kv.1=k):=by
 unfold KV at r;induction r with
 |nil=>rfl
 |cons h t a=>rw[Ov,Ov,a,h.1]
def KV.AA(r:KV kvs vs)(k:κ)(b:RelV y u):
  KV (kvs.map λkv=>if kv.1=k then(kv.1,y) else kv) (vs.map λkv=>if kv.1=k then(kv.1,u) else kv):=by
 unfold KV at r ⊢;induction r with
 |nil=>show .nil
 |@cons p q f g h t c =>
  rw[gj,gj];show .cons ?_ c;have⟨a,d⟩:=h;by_cases e:p.1=k
  .rw[Wq e,Wq (a.symm.trans e)];show⟨a,b⟩
  .rw[Ws e,Ws (λz=>e (a.trans z))];show⟨a,d⟩
def KV.put(r:KV kvs vs)(k:κ)(a:RelV y u):KV (putK kvs k y) (stored vs k u):=by
 unfold putK stored;rw[r.any k];by_cases e:(vs.any λkv=>dV (kv.1=k))=bD
 .rw[Wq e,Wq e];show r.AA k a
 .rw[Ws e,Ws e];show Paired.snoc r ⟨rfl,a⟩
def KV.length(r:KV kvs vs):kvs.length=vs.length:=Paired.length r
end
def kN(r:RelV (kV k) u):(aG P w).is k u=bD:=by
 cases k with
 |inl i=>have⟨t,e⟩:=(show ∃t,u=Uv i t from r);subst e;show ni P w i t
 |inr x=>have⟨t,e⟩:=(show ∃t,u=wh x t from r);subst e;show nj P w x t
theorem kO:∀{ks:List Key}{us:List ei},Vals (ks.map kV) us->ItemsAre (aG P w) ks us
 |[],_,r=>by rw[J_]at r;cases r;show .nil
 |k::ks,_,r=>by
  rw[gj]at r;cases r with
  |cons h t=>show .cons (kN h) (kO t)
@[reducible]def KT(H:Hp):List (List Key×V)->List (List Key×fS×ei)->Prop:=Paired λp q=>p.1=q.1/\H q.2.1=a5 (.tup (p.1.map kV))/\RelV p.2 q.2.2
def KT.val(r:KT H kvs xs)(k:List Key):iG (cU kvs k) ((Sk xs k).map (·.2)):=by
 induction r with
 |nil=>show QM
 |@cons p q i a h t f =>
  obtain⟨d,_,g⟩:=h;by_cases e:p.1=k
  .have c:q.1=k:=d.symm.trans e;have b:Sk (q::a) k=a5 q.2:=by simp[Sk,JB,c]
   rw[dA e,b];show g
  .have c:¬q.1=k:=λz=>e (d.trans z);have b:Sk (q::a) k=Sk a k:=by simp[Sk,JB,c]
   rw[dB e,b];show f
def KT.AA(r:KT H kvs xs)(k:List Key)(c:RelV y u):
  KT H (kvs.map λkv=>if kv.1=k then(kv.1,y) else kv) (xs.map (putAt k u)):=by
 induction r with
 |nil=>show .nil
 |@cons p q g i h t d =>
  rw[gj,gj];show .cons ?_ d;have⟨a,b,f⟩:=h;unfold putAt;by_cases e:p.1=k
  .rw[Wq e,Wq (a.symm.trans e)];show⟨a,b,c⟩
  .rw[Ws e,Ws (λz=>e (a.trans z))];show⟨a,b,f⟩
def KT.put(r:KT H kvs xs)(k:List Key)(c:H b=a5 (.tup (k.map kV)))(a:RelV y u):
  KT H (putK kvs k y) (storedH xs k b u):=by
 have e:(kvs.any λkv=>dV (kv.1=k))=(Sk xs k).isSome:=by
  rw[gf,(r.val k).dC,Ox]
 unfold putK storedH;rw[e];by_cases q:(Sk xs k).isSome=bD
 .rw[Wq q,Wq q];show r.AA k a
 .rw[Ws q,Ws q];show Paired.snoc r ⟨rfl,c,a⟩
def KT.keeps(r:KT H kvs xs)(a:∀b ys,H b=a5 (.tup ys)->H' b=a5 (.tup ys)):KT H' kvs xs :=
 Paired.Aa r λ_ _ z=>⟨z.1,a _ _ z.2.1,z.2.2⟩
section
def zw(b:FQ P w H h)(e:Rd H a u):bu P w H h a u:=e.ok b
def jh(b:FQ P w H h)(e:Rd H a (.dK kvs)):kvs.length<=df/\(a==JF)=c2/\∃vs,KV kvs vs/\h.DictOf (aG P w) a vs :=
 show bu P w H h a (.dK kvs) from zw b e
def ur(b:FQ P w H h)(e:H a=a5 (.dK kvs)):kvs.length<=df/\(a==JF)=c2/\∃vs,KV kvs vs/\h.DictOf (aG P w) a vs:=jh b (.inl e)
def gR(b:FQ P w H h)(e:H a=a5 (.tup (ks.map kV))):(OE (aG P w)).is h ks a:=by
 obtain⟨_,c,r,o,d,f,n,g⟩:=(show bu P w H h a (.tup (ks.map kV)) from b a _ e)
 show⟨o,c.toArray,n,d,f,g,by simpa using kO r⟩
def ji(b:FQ P w H h)(e:Rd H a (.dT kvs)):kvs.length<=df/\(a==JF)=c2 /\
  ∃xs,KT H kvs xs/\h.DictOfH (OE (aG P w)) a xs:=by
 have⟨z,y,xs,r,o,es,ep,d,f,g,i,j⟩:=(show bu P w H h a (.dT kvs) from zw b e)
 show⟨z,y,xs,r,o,es,ep,d,f,g,i,λx hx=>?_,j⟩;have all:∀{l:List (List Key×V)} {m:List (List Key×fS×ei)},KT H l m->∀x∈m,(OE (aG P w)).is h x.1 x.2.1:=by
  intro l m q;induction q with
  |nil=>intro x hx;show nomatch hx
  |@cons p q n s c t k =>
   intro x hx;rcases gs.mp hx with e|hx
   .subst e;show gR b (by rw[<-c.1];show c.2.1)
   .show k x hx
 show all r x hx
def CN(b:FQ P w H h)(e:H a=a5 (.dT kvs)):kvs.length<=df/\(a==JF)=c2 /\
  ∃xs,KT H kvs xs/\h.DictOfH (OE (aG P w)) a xs:=ji b (.inl e)
end
abbrev dk(H:Hp)(a:fS)(y:V)(r:Option V):Prop :=
 (∃kvs k,Rd H a (.dK kvs)/\y=kV k/\r=cU kvs k)\/∃kvs k b,Rd H a (.dT kvs)/\y=.ref b/\H b=a5 (.tup (k.map kV))/\r=cU kvs k
abbrev su(H:Hp)(a:fS)(y v:V)(H':Hp):Prop :=
 (∃kvs k,H a=a5 (.dK kvs)/\y=kV k/\kvs.length<df/\H'=upd H a (.dK (putK kvs k v))) \/
 ∃kvs k b,H a=a5 (.dT kvs)/\y=.ref b/\H b=a5 (.tup (k.map kV))/\kvs.length<df/\H'=upd H a (.dT (putK kvs k v))
def dk.k{H:Hp}{a:fS}{kvs:List (Key×V)}{k:Key}(e:H a=a5 (.dK kvs)):dk H a (kV k) (cU kvs k):=.inl ⟨kvs,k,.inl e,rfl,rfl⟩
def su.k{H:Hp}{a:fS}{kvs:List (Key×V)}{k:Key}{v:V}(e:H a=a5 (.dK kvs))(hl:kvs.length<df):su H a (kV k) v (upd H a (.dK (putK kvs k v))):=.inl ⟨kvs,k,e,rfl,hl,rfl⟩
section
def Inv.big(I:Inv X a σ H s):JF<s.heap.objs.size:=by
 have h:z8<s.heap.objs.size:=(I.mod.glob.keeps I.bk).lt;show O1 (by decide) h
def gS(r:A.units+1<Hg)(I:Inv X f σ H s)(g:dk H a y (a5 v))(q:RelV y u)(h:∀d s',Inv X f σ H s'->RelV v d->Q d s'):
  hA (hW X.prog X.w) A (Qy (.ref a) u) Q E s:=by
 rcases g with⟨kvs,k,e,i,l⟩|⟨kvs,k,b,e,i,t,l⟩
 .subst i;have⟨z,x,vs,c,j⟩:=jh I.EZ e;have⟨d,m,n⟩:=iG.some_of (v:=v) (o:=P' vs k) (by rw[l];show c.val k);show wpAny_getItem_of (kN q) j.mapOf m (h d _ (I.tok _) n)
 .subst i;cases(show u=i1 b from q);have⟨z,x,xs,c,j⟩:=ji I.EZ e;have⟨d,m,n⟩:=iG.some_of (v:=v) (o:=(Sk xs k).map (·.2)) (by rw[l];show c.val k);have⟨p,B,C⟩:=fx.mp m;show wpAny_getItem_heap (KY r) (gR I.EZ t) j B ?_;rw[C];show h d _ (I.tok _) n
def AB(n:A.units+1<Hg)(I:Inv X d σ H s)(g:dk H a y o)(m:RelV y u)(h:∀s',Inv X d σ H s'->Q (.bool o.isSome) s'):
  hA (hW X.prog X.w) A (Iv .In u (.ref a)) Q E s:=by
 rcases g with⟨kvs,k,e,f,l⟩|⟨kvs,k,b,e,f,p,l⟩
 .subst f;have⟨z,i,vs,c,j⟩:=jh I.EZ e;show wpAny_in_of (kN m) i j.mapOf ?_;rw[<-(c.val k).dC,<-l];show h _ (I.tok _)
 .subst f;cases(show u=i1 b from m);have⟨z,i,xs,c,j⟩:=ji I.EZ e;show wpAny_in_heap (KY n) (gR I.EZ p) i j ?_;have q:=(c.val k).dC;rw[Ox]at q;rw[<-q,<-l];show h _ (I.tok _)
def mi(n:A.units+1<Hg)(I:Inv X d σ H s)(g:dk H a y o)(m:RelV y u)(h:∀s',Inv X d σ H s'->Q (.bool (!o.isSome)) s'):
  hA (hW X.prog X.w) A (Iv .NotIn u (.ref a)) Q E s:=by
 rcases g with⟨kvs,k,e,f,l⟩|⟨kvs,k,b,e,f,p,l⟩
 .subst f;have⟨z,i,vs,c,j⟩:=jh I.EZ e;show wpAny_notIn_of (kN m) i j.mapOf ?_;rw[<-(c.val k).dC,<-l];show h _ (I.tok _)
 .subst f;cases(show u=i1 b from m);have⟨z,i,xs,c,j⟩:=ji I.EZ e;show wpAny_notIn_heap (KY n) (gR I.EZ p) i j ?_;have q:=(c.val k).dC;rw[Ox]at q;rw[<-q,<-l];show h _ (I.tok _)
def qA(I:Inv X c σ H s)(f:KA (H a))(hs:H8 a s.heap h')(g:∃q,h'.get? a=a5 q)(new:bu X.prog X.w (upd H a d) h' a d):
  Inv X c σ (upd H a d) {s with heap:=h',toks:=t' } :=
 I.write (x:=a) (e:=a) f (.inl rfl) (λb q h z=>(hs.2 b h).trans z) g new
def AD(z:kvs.length<=df)(c:(a==JF)=c2)(b:KV kvs vs)(d:h'.DictOf (aG P w) a vs):
  bu P w H' h' a (.dK kvs):=⟨z,c,vs,b,d⟩
def sv(C:A.units+1<Hg)(I:Inv X f σ H s)(g:su H a y v H')(t:RelV y u)(rv:RelV v r)(h:∀s',Inv X f σ H' s'->Q () s'):
  hA (hW X.prog X.w) A (NG (.ref a) u r) Q E s:=by
 rcases g with⟨kvs,k,e,m,l,n⟩|⟨kvs,k,b,e,m,x,l,n⟩
 .subst m n;have⟨z,o,vs,d,p⟩:=ur I.EZ e;have hz:vs.length<=df:=by rw[<-d.length];show z
  have hl:(putK kvs k v).length<=df:=by have:=ir kvs k v;lia
  show wpAny_setItem_pairs (hsz:=hz) (kN t) p λh' i hs=>h _ ?_;have D:∃q,h'.get? a=a5 q:=let ⟨q,_,_,j,_⟩:=i;⟨q,j⟩;show qA I (by rw[e];show QM) hs D (AD hl o (d.put k rv) i)
 .subst m n;cases(show u=i1 b from t);have⟨z,o,xs,d,p⟩:=CN I.EZ e;have hz:xs.length<=df:=by rw[<-Paired.length d];show z
  have hl:(putK kvs k v).length<=df:=by have:=ir kvs k v;lia
  show wpAny_setItem_heap (hsz:=hz) (KY C) (gR I.EZ x) p λh' i hs=>h _ ?_;obtain⟨q,es,ep,j,G,J,L,_,N⟩:=i;show qA I (by rw[e];show QM) hs ⟨q,j⟩ ⟨hl,o,_,(d.put k x rv).keeps λc ys B=>?_,q,es,ep,j,G,J,L,N⟩;rw[aj (Cj B e (λz=>nomatch z))];show B
end
section
end
abbrev AE(i:l'):Prop:=∀a b,Rk i c2 a b=operate [a,b] (Qy a b)
def xD{T id:String}
  (hl:PD (.type T) "__getitem__"=pure (a5 (.builtin id))) (hs:AE a)
  (h:hA (hW prog w) A (D3 b env) (λo f=>hA (hW prog w) A (D3 a env) (λi d=>d.TypeIs o T/\hA (hW prog w) A (Qy o i) Q E d) E f) E s) :
  hA (hW prog w) A (D3 (.Subscript b a pos) env) Q E s:=by
 show Vv (r6 h (λo f k=>r6 k (λi d e=>?_) λ_ _ x=>x) λ_ _ x=>x);have⟨g,e⟩:=e;unfold Pj;show cc ?_;rw[getitemInPython_of_ne g.not_modules];show cc (N9 g hl ?_);have c:hA (hW prog w) A (Rk a c2 o i) (λr j=>hA (hW prog w) A (letTemporaryGo b o r >>= λ_=>pure r) Q E j) E d:=by
  rw[hs o i];show wpAny_operating (r6 e (λr j l=>cc (wpAny_letTemporaryGo (eL l))) λ_ _ x=>x)
 first
  |show eL (cc c)
  |show cc (eL (cc c))
  |show cc c
def eI(I:Inv X d σ H s)(g:dk H a y o):s.TypeIs (.ref a) "dict":=by
 rcases g with⟨kvs,k,e,_,_⟩|⟨kvs,k,b,e,_,_,_⟩
 .obtain⟨_,_,vs,_,c⟩:=jh I.EZ e;show c.typeIs
 .obtain⟨_,_,xs,_,c⟩:=ji I.EZ e;show c.typeIs
abbrev CO(c d:TE):TE:=λσ H Q=>c σ H λx e=>d σ e λy b=>∃a v,x=.ref a/\dk b a y (a5 v)/\Q v b
abbrev EA(c d:TE):TE:=λσ H Q=>c σ H λy e=>d σ e λx b=>∃a o,x=.ref a/\dk b a y o/\Q (.bl o.isSome) b
abbrev xE(c d:TE):TE:=λσ H Q=>c σ H λy e=>d σ e λx b=>∃a o,x=.ref a/\dk b a y o/\Q (.bl (!o.isSome)) b
section
def xF(d:X.A.units+1<Hg)(ho:PE X o e)(f:PE X i j)(hs:AE i):PE X (.Subscript o i pos) (CO e j):=by
 intro b s σ H Q I h;show xD PySem.F.slot_dict_getitem.lookup hs (E2 (ho b s σ H _ I h) λu s1 ⟨x,k,l,m,n⟩=>E2 (f b s1 σ k _ l n) λB s2 p=>?_);have⟨y,q,c,r,a,v,ex,g,t⟩:=p;subst ex;obtain rfl:u=i1 a:=m;show⟨eI c g,gS d c g r λC s3 w z=>⟨v,q,w,z,t⟩⟩
def AF(c:X.A.units+1<Hg)(d:PE X i e)(ho:PE X o f):PC X .In i o (EA e f):=by
 intro b s σ H Q I h;show E2 (d b s σ H _ I h) λz s1 ⟨y,j,k,l,m⟩=>E2 (ho b s1 σ j _ k m) λu s2 n=>?_;have⟨x,p,q,r,a,t,ex,g,v⟩:=n;subst ex;obtain rfl:u=i1 a:=r;show AB c q g l λs3 w=>⟨.bl t.isSome,p,w,rfl,v⟩
def sy(c:X.A.units+1<Hg)(d:PE X i e)(ho:PE X o f):PC X .NotIn i o (xE e f):=by
 intro b s σ H Q I h;show E2 (d b s σ H _ I h) λz s1 ⟨y,j,k,l,m⟩=>E2 (ho b s1 σ j _ k m) λu s2 n=>?_;have⟨x,p,q,r,a,t,ex,g,v⟩:=n;subst ex;obtain rfl:u=i1 a:=r;show mi c q g l λs3 w=>⟨.bl (!t.isSome),p,w,rfl,v⟩
end
def uu(h:Gz)(a:JF<h.objs.size):bu P w H (h.push {cls:=.type "dict",data:=.dict #[]}) h.objs.size (.dK []) :=
 ⟨kj _,beq_eq_false_iff_ne.mpr (qs (i2 a)),[],.nil,Wi h⟩
abbrev AG:TE:=λ_ H Q=>∀p,H p=b5->Q (.ref p) (upd H p (.dK []))
section
def nE:PE X (.Dict [] [] pos) AG:=λb s σ H Q I h =>
 wpAny_Dict_empty ⟨.ref s.heap.objs.size,_,I.laid (a:=s.heap.objs.size) (o:=.dK []) (t':=s.toks) (λ_ _ q=>c4 _ q) (hY _) (uu s.heap I.big),rfl,h _ (I.EZ.fresh (hY _))⟩
end
structure M2(X:Cx)(o:l')(m:Str)(apos:Pos)(e f:l')(cpos:Pos):Prop where
 base:Nr o m X.env (D3 o X.env)=D3 o X.env
 Mi:((E1 cpos (i7 [e,f] X.env)).all (λx=>!x.1)&&(M9 cpos (KC [] X.env)).all (λx=>x.1.isSome)
  && dV (([e,f]:List l').length+([]:List J5).length+(if ([]:List J5).isEmpty then 0 else 1)<30))=bD
 line:(apos.endLine==cpos.line)=bD
 trees:E1 cpos (i7 [e,f] X.env)=[(c2,D3 e X.env),(c2,D3 f X.env)]
abbrev Pk(H:Hp)(a:fS):Prop:=(∃kvs,Rd H a (.dK kvs))\/∃kvs,Rd H a (.dT kvs)
def AH(I:Inv X j σ H s)(d:Pk H a):
  s.TypeIs (.ref a) "dict"/\(∀b,i1 a=.ref b->∃c,s.heap.get? b=a5 c/\c.dict=b5)/\(a==JF)=c2:=by
 rcases d with⟨kvs,e⟩|⟨kvs,e⟩
 .obtain⟨_,g,vs,_,f⟩:=jh I.EZ e;show⟨f.typeIs,λb q=>?_,g⟩;cases q;obtain⟨c,_,_,h,i,_⟩:=f;show⟨c,h,i.2.1⟩
 .obtain⟨_,g,xs,_,f⟩:=ji I.EZ e;show⟨f.typeIs,λb q=>?_,g⟩;cases q;obtain⟨c,_,_,h,i,_⟩:=f;show⟨c,h,i.2.1⟩
section
def AI(t:A.units+1<Hg)(I:Inv X f σ H s)(g:dk H a y o)(n:RelV y u)(p:RelV d r)(h:∀q s',Inv X f σ H s'->RelV (o.getD d) q->Q q s'):
  hA (hW X.prog X.w) A (KS (.builtin "dict.get") [.ref a,u,r]) Q E s:=by
 rcases g with⟨kvs,k,e,j,l⟩|⟨kvs,k,b,e,j,v,l⟩
 .subst j;have⟨z,m,vs,c,i⟩:=jh I.EZ e;show Uu PySem.F.slot_dict_get i.typeIs PySem.F.entry_dict_get (PySem.F.args_dict_get_3 _ _ _) (meets_dict_get_default (aG X.prog X.w) a (kN n) m r) ⟨_,i.mapOf,h _ _ (I.tok _) ?_⟩;rw[l];show(c.val k).getD p
 .subst j;cases(show u=i1 b from n);have⟨z,m,xs,c,i⟩:=ji I.EZ e;show Uu PySem.F.slot_dict_get i.typeIs PySem.F.entry_dict_get (PySem.F.args_dict_get_3 _ _ _) (meetsH_dict_get_default (OE (aG X.prog X.w)) a b m r) ⟨KY t,k,xs,gR I.EZ v,i,h _ _ (I.tok _) ?_⟩;rw[l];show(c.val k).getD p
end
abbrev AJ(d e f:TE):TE:=λσ H Q=>d σ H λx b=>∃a,x=.ref a/\Pk b a/\e σ b λy g=>f σ g λz c=>∃o,dk c a y o/\Q (o.getD z) c
section
def uw(j:X.A.units+1<Hg)(ho:PE X o k)(l:PE X e n)(p:PE X f q)(m:M2 X o "get" c e f cpos):PE X (.Call (.Attribute o "get" c) [e,f] [] cpos) (AJ k n q):=by
 intro b s σ H Q I h;show wpAny_Call_method m.base m.Mi m.line PySem.F.plainAttrs_dict PySem.F.slot_dict_get PySem.F.type_dict_get (E2 (ho b s σ H _ I h) λu s1 r=>?_);have⟨x,t,i,v,a,ex,d,w⟩:=r;subst ex;obtain rfl:u=i1 a:=v;obtain⟨B,C,_⟩:=AH i d;show⟨B,C,?_⟩;rw[m.trees];show GH rfl (JV (KJ (E2 (l b s1 σ t _ i w) λiv s2 ⟨y,D,G,J,L⟩ =>
  KJ (E2 (p b s2 σ D _ G L) λfv s3 ⟨z,N,O,T,ov,g,Y⟩=>MW ?_))))
 show AI j O g J T λw' s4 I4 GC=>⟨_,N,I4,GC,Y⟩
end
section
end
section
end
end L2
namespace Fo
open PySem PySem.Builtin.Str PySem.StrLaws
abbrev uA(i:Int):Str:=Sy (V5 i)
def app_list(x y:Str):(x++y).cps.toList=x.cps.toList++y.cps.toList:=by
 change(x.cps++y.cps).toList=_;simp
end Fo
namespace L2
open PySem PySem.Spec PyProof.Rows
abbrev ba(env:Env):List (Str×Hi)->List (Str×fS)->List (Str×fS)
 |[],b=>b
 |(n,k)::r,b=>ba env r (if k==.free then(match env.cells.lookup n with|some a=>(n,a)::b|none=>b) else b)
def dE(h:∀y∈scope.names,y.2=.free->∃a,env.cells.lookup y.1=a5 a):closureFor scope env=pure (ba env scope.names []):=by
 unfold closureFor;generalize scope.names=names at h
 suffices H:∀b,(forIn names b (λ(x:Str×Hi) (r:List (Str×fS))=>if (x.2==F4)=bD then do let a <-cellOf env x.1;pure (Kj ((x.1,a)::r)) else pure (Kj r)):Sem (List (Str×fS)))=pure (ba env names b) by
  have:=H [];show Wv (λ(m:Sem (List (Str×fS)))=>m >>= pure) this
 induction names with
 |nil=>intro b;rfl
 |cons y r d =>
  intro b;have⟨n,k⟩:=y;rw[List.forIn_cons];have c:=d λy e=>h y (la _ e);by_cases hk:(k==F4)=bD
  .have⟨a,f⟩:=h (n,k) kl (by simpa using hk);have g:env.cells.lookup n=a5 a:=f;simp only[hk,if_true,cellOf,g,ba];show c _
  .simp only[hk,if_false,ba];show c _
theorem dS:∀(names:List (Str×Hi)) (b:List (Str×fS)),(∀n c,b.lookup n=a5 c->env.cells.lookup n=a5 c)->∀n c,(ba env names b).lookup n=a5 c->env.cells.lookup n=a5 c
 |[],_,h=>h
 |(m,k)::r,b,h=>by
  unfold ba;show dS r _ λn c e=>?_;by_cases hk:(k==F4)=bD
  .rw[Wq hk]at e;cases q:env.cells.lookup m with
   |none=>rw[q]at e;show h n c e
   |some a =>
    rw[q]at e;simp only[lb]at e;cases d:n==m with
    |true =>
     rw[d]at e;have f:n=m:=by simpa using d
     subst f;simp only at e;rw[q];show e
    |false=>rw[d]at e;show h n c e
  .rw[Ws hk]at e;show h n c e
theorem iu(d:env.cells.lookup n=a5 a):∀(names:List (Str×Hi)) (c:List (Str×fS)),c.lookup n=a5 a->(ba env names c).lookup n=a5 a
 |[],_,h=>h
 |(m,k)::r,c,h=>by
  unfold ba;show iu d r _ ?_;by_cases hk:(k==F4)=bD
  .rw[Wq hk];cases q:env.cells.lookup m with
   |none=>show h
   |some b =>
    simp only[lb];cases e:n==m with
    |true =>
     have f:n=m:=by simpa using e
     subst f;rw[d]at q;cases q;rfl
    |false=>show h
  .rw[Ws hk];show h
theorem fI(b:env.cells.lookup n=a5 a):∀(names:List (Str×Hi)) (c:List (Str×fS)),(n,F4)∈names->(ba env names c).lookup n=a5 a
 |[],_,h=>by cases h
 |(m,k)::r,c,h=>by
  unfold ba;rcases gs.mp h with e|e
  .cases e;show iu b r _ ?_;rw[Wq (by decide),b];simp[lb]
  .show fI b r _ e
theorem bw{env:Env}:∀{names:List (Str×Hi)}{x:Str}{k:Hi},
  (names.map λ(n,k)=>if (k==F4&&env.scope.kind==.function&&env.kindOf n==a5 .cell) then(n,Gj) else(n,k)).lookup x=a5 k ->
  names.lookup x=a5 k\/(k=.cell/\names.lookup x=a5 .free)
 |[],_,_,h=>by simp at h
 |(n,k0)::r,x,k,h=>by
  have e:=@bw env r x k;rw[gj]at h;by_cases b:(k0==F4&&env.scope.kind==.function&&env.kindOf n==a5 .cell)=bD
  .simp only[Wq b,lb]at h;cases a:x==n with
   |true =>
    rw[a]at h;have f:k0=.free:=by
     have:=(vl.mp (vl.mp b).1).1;simpa using this
    show .inr ⟨by simpa using h.symm,by simp[lb,a,f]⟩
   |false =>
    rw[a]at h;rcases e h with z|⟨c,d⟩
    .show .inl (by simp[lb,a,z])
    .show .inr ⟨c,by simp[lb,a,d]⟩
  .simp only[Ws b,lb]at h;cases a:x==n with
   |true=>rw[a]at h;show .inl (by simpa[lb,a] using h)
   |false =>
    rw[a]at h;rcases e h with z|⟨c,d⟩
    .show .inl (by simp[lb,a,z])
    .show .inr ⟨c,by simp[lb,a,d]⟩
theorem iw:∀(names:List (Str×Hi)) (b:List (Str×fS)),(ba env names b).lookup x=a5 c->(x,F4)∈names\/b.lookup x=a5 c
 |[],_,h=>.inr h
 |(m,k)::r,b,h=>by
  unfold ba at h;rcases iw r _ h with z|z
  .show .inl (la _ z)
  .by_cases hk:(k==F4)=bD
   .rw[Wq hk]at z;cases q:env.cells.lookup m with
    |none=>rw[q]at z;show .inr z
    |some a =>
     rw[q]at z;simp only[lb]at z;cases d:x==m with
     |true =>
      have e:x=m:=by simpa using d
      have f:k=.free:=by simpa using hk
      subst e f;show .inl kl
     |false=>rw[d]at z;show .inr z
   .rw[Ws hk]at z;show .inr z
theorem gh:∀(names:List (Str×Hi)) (n:Nat) (acc:List (Str×fS)),(IA n names acc).lookup x=a5 c->((x,Gj)∈names/\@Vf Nat _ n c)\/acc.lookup x=a5 c
 |[],_,_,h=>.inr h
 |(y,k)::r,n,acc,h=>by
  unfold IA at h;by_cases hk:(k==Gj)=bD
  .rw[Wq hk]at h;have e:k=.cell:=by simpa using hk
   subst e;rcases gh r (n+1) _ h with⟨a,b⟩|z
   .show .inl ⟨la _ a,Nat.le_of_succ_le b⟩
   .simp only[lb]at z;cases d:x==y with
    |true =>
     rw[d]at z;have f:x=y:=by simpa using d
     subst f;cases z;show .inl ⟨kl,hY _⟩
    |false=>rw[d]at z;show .inr z
  .rw[Ws hk]at h;rcases gh r n acc h with⟨a,b⟩|z
   .show .inl ⟨la _ a,b⟩
   .show .inr z
theorem mj:∀(names:List (Str×Hi)) (n:Nat) (acc:List (Str×fS)),(x,Gj)∉names->(IA n names acc).lookup x=acc.lookup x
 |[],_,_,_=>rfl
 |(y,k)::r,n,acc,h=>by
  unfold IA;have a:(x,Gj)∉r:=λz=>h (la _ z);by_cases hk:(k==Gj)=bD
  .rw[Wq hk,mj r _ _ a];have b:k=.cell:=by simpa using hk
   subst b;simp only[lb];cases c:x==y with
   |true =>
    have d:x=y:=by simpa using c
    subst d;show absurd kl h
   |false=>rfl
  .rw[Ws hk,mj r _ _ a]
theorem o_:∀(names:List (Str×Hi)) (n:Nat) (acc:List (Str×fS)),(∀(z:Str) (d:fS),acc.lookup z=a5 d->@Lh Nat _ d n)->(∀(u v:Str) (d:fS),acc.lookup u=a5 d->acc.lookup v=a5 d->u=v) ->
  (IA n names acc).lookup x=a5 c->(IA n names acc).lookup y=a5 c->x=y
 |[],_,_,_,f,a,b=>f x y c a b
 |(g,k)::r,n,acc,hl,f,a,b=>by
  unfold IA at a b;by_cases hk:(k==Gj)=bD
  .rw[Wq hk]at a b;have lk:∀(z:Str) (d:fS),List.lookup z ((g,(n:fS))::acc)=a5 d->(z=g/\d=n)\/acc.lookup z=a5 d:=λz d e=>by
    simp only[lb]at e;cases h:z==g with
    |true=>rw[h]at e;cases e;show .inl ⟨by simpa using h,rfl⟩
    |false=>rw[h]at e;show .inr e
   show o_ r (n+1) _ (λz d e=>?_) (λu v d i j=>?_) a b
   .rcases lk z d e with⟨_,q⟩|q
    .rw[q];show Kl _
    .show Ic (hl z d q)
   .rcases lk u d i with⟨l,m⟩|q<;>rcases lk v d j with⟨o,p2⟩|p
    .rw[l,o]
    .rw[m]at p;show absurd (hl v n p) (rb _)
    .rw[p2]at q;show absurd (hl u n q) (rb _)
    .show f u v d q p
  .rw[Ws hk]at a b;show o_ r n acc hl f a b
theorem mn:∀(names:List (Str×Hi)) (h:Gz) (acc:List (Str×fS)),(IA h.objs.size names acc).lookup x=a5 c->(MZ h names).IsCell c b5\/acc.lookup x=a5 c
 |[],_,_,e=>.inr e
 |(y,k)::r,h,acc,e=>by
  unfold IA at e;unfold MZ;by_cases hk:(k==Gj)=bD
  .rw[Wq hk]at e ⊢;have hs:h.objs.size+1=(h.push {cls:=.type "cell",data:=.cell b5}).objs.size:=by rw[NA]
   rw[hs]at e;rcases mn r _ _ e with z|z
   .show .inl z
   .simp only[lb]at z;cases a:x==y with
    |true =>
     rw[a]at z;cases z;show .inl ⟨_,RS r _ _ _ (hh _ rfl),rfl⟩
    |false=>rw[a]at z;show .inr z
  .rw[Ws hk]at e ⊢;show mn r h acc e
abbrev HB(X:Cx)(scope:Ir)(C:fS):List (Str×fS):=IA (C+1) scope.names (ba X.env scope.names [])
abbrev FT(X:Cx)(N:List Str)(scope:Ir)(C:fS)(s:hH)(H:Hp)(ex:List fS):Cx where
 prog:=X.prog
 w:=X.w
 K:=X.K
 mg:=X.mg
 base:=X.base
 A:=X.A
 N:=N
 s₀:=s
 H₀:=H
 env:=QD scope (HB X scope C) C X.env
 outer:=X.stack
 stack:=X.stack
 ex:=ex
 fn:=λx=>dV (scope.names.lookup x=a5 .cell)
 calm:=X.calm
 pn:=[]
 xe:=λ_ _=>False
abbrev dv(D N:List Str):Prop:=D.length=N.length/\∀(i:Nat) (y:Str),D[i]?=a5 y->N[i]?=a5 y\/y="."\/y=".."
def dv.refl(N:List Str):dv N N:=⟨rfl,λ_ _ h=>.inl h⟩
def dv.set{D N:List Str}(h:dv D N)(j:Nat){m:Str}(b:m="."\/m=".."):dv (D.set j m) N:=by
 show⟨by rw[Ve];show h.1,λi y e=>?_⟩;by_cases a:j=i
 .subst a;rw[List.getElem?_set,Wq rfl]at e;split at e
  .cases e;show .inr b
  .cases e
 .rw[hE a]at e;show h.2 i y e
structure cj(X:Cx)(N own:List Str)(scope:Ir):Prop where
 kind:scope.kind=.function
 uq:∀y∈scope.names,scope.names.lookup y.1=a5 y.2
 cl:∀y∈scope.names,y.2=.cell->y.1∈own
 nd:N.Nodup
 pre:N.take own.length=own
 loc:∀y∈scope.names,y.2=.local->y.1∈own\/y.1=".0"
 Q0:(".0":Str)∉N
 tail:dv (N.drop own.length) X.N
 free:∀y∈scope.names,y.2=.free->X.env.scope.names.lookup y.1=a5 .cell\/X.env.scope.names.lookup y.1=a5 .free
 dot:∀y∈scope.names,y.1≠"."/\y.1≠".."
def mem_lookup{names:List (Str×Hi)}(h:names.lookup x=a5 k):(x,k)∈names:=PySem.mem_of_lookup h
def cj.names(S:cj X N a scope):∀y∈scope.names,y.2=.local->scope.names.lookup y.1=a5 .local:=λy b e=>e▸S.uq y b
def cj.no(S:cj X N a scope)(h:scope.names.lookup x=a5 .free):(x,Gj)∉scope.names:=λz=>by
 have:=S.uq _ z;rw[h]at this;cases this
def cj.cells(S:cj X N c scope)(b:X.Ok):∀y∈scope.names,y.2=.free->∃a,X.env.cells.lookup y.1=a5 a:=λy d e=>by
 rcases S.free y d e with z|z
 .show b.has y.1 (.inl z)
 .show b.has y.1 (.inr z)
def uB(S:cj X N f scope)(I:Inv X D σ H s)
  (B:s.heap.objs.size<=C) (Jf:∀x c,(HB X scope C).lookup x=a5 c->s4.heap.IsCell c b5\/(ba X.env scope.names []).lookup x=a5 c) (NF:s4.os=s.os) (hg:s4.gens=s.gens) (keep:∀b o,s.heap.get? b=a5 o->s4.heap.get? b=a5 o) (ns:∃m,s4.heap.Ns C m)
  (g:∀b∈ex,ja X D H b/\b<s.heap.objs.size):Inv (FT X N scope C s H ex) [] (j0 f.length b5++σ) H s4:=by
 have⟨m0,Mj⟩:=ns;have sub:=dS (env:=X.env) scope.names [] (λn c e=>by simp at e);have Q1:∀(x:Str) (c:fS),(ba X.env scope.names []).lookup x=a5 c->c<s.heap.objs.size:=λx c e=>by
  obtain⟨v,o,ho,_⟩:=I.cell x c (sub x c e);show hQ ho
 have L:∀(x:Str) (c:fS),(HB X scope C).lookup x=a5 c->C<c\/(ba X.env scope.names []).lookup x=a5 c:=λx c e=>(gh _ _ _ e).imp (λz=>z.2) id;have Y:∀b∈ex,b<C:=λb t=>i5 (g b t).2 B;have tl:f.length<=N.length:=by have:=Wv D' S.pre;rw[ve]at this;lia
 show⟨⟨I.ok.mod,?_,I.ok.glob,I.ok.blt,B,λx y c w A=>o_ _ _ _ (λz d e=>Ic (i5 (Q1 z d e) B)) (λu v d G e2=>I.ok.inj u v d (sub u d G) (sub v d e2)) w A,λx hx=>?_,λx c h e=>?_,I.ok.hd,I.ok.frames,.inl rfl,λb t=>⟨i2 (Y b t),λx c e=>?_⟩,λb o e=>I.bs b o e,?_,λb o e t=>?_,λb t=>?_,I.stack,I.qu⟩,
  NF,(by rw[hg];show I.bare),Un.kept keep,⟨m0,Mj,λi y v w A h3=>?_⟩,λx c e=>?_,I.EZ.fresh B,λx c e=>?_,λp hp=>absurd (show p∈([]:List (fS×Obj)) from hp) (by simp),I.EZ.kept keep,?_⟩
 .change(NU scope X.env).kind=.function;show S.kind
 .
  have Q2:(NU scope X.env).names.lookup x=a5 .cell\/(NU scope X.env).names.lookup x=a5 .free:=hx;have Fb:scope.names.lookup x=a5 .cell\/scope.names.lookup x=a5 .free:=by
   rcases Q2 with z|z
   .rcases bw z with q|⟨_,q⟩
    .show .inl q
    .show .inr q
   .rcases bw z with q|⟨q,_⟩
    .show .inr q
    .cases q
  rcases Fb with Fb|Fb
  .show Kz.mp (PySem.W.cellsFrom_some scope.names (C+1) _ (.inl Fb))
  .have⟨a,ha⟩:=S.cells I.ok (x,.free) (mem_lookup Fb) rfl;show⟨a,(mj _ _ _ (S.no Fb)).trans (fI ha scope.names [] (mem_lookup Fb))⟩
 .have h':scope.names.lookup x=a5 .cell:=Wu h;rcases L x c e with z|z
  .show w6 B (Ie z)
  .rcases iw _ _ z with z|z
   .have:=S.uq _ z;rw[h']at this;cases this
   .simp at z
 .rcases L x c e with z|z
  .show λq=>absurd (O1 (Y b t) z) (by rw[q];show rb _)
  .show(g b t).1.2.2.2.2.1 x c (sub x c z)
 .show w6 I.ok.IW I.sz
 .have⟨f0,f1,f2,f3,f4,f5⟩:=(g b t).1;rcases f3 with z|z
  .show I.ok.HI b o e z
  .show absurd (i5 (hQ e) (w6 I.ok.IW z)) (rb _)
 .intro Jg;have⟨f0,f1,f2,f3,f4,f5⟩:=(g b t).1;rcases gs.mp (I.i9 b Jg) with z|z
  .show f1 z
  .show f2 z
 .
  have O:f.length<=i:=by
   by_cases O:i<f.length
   .rw[ti (by simpa using O),Fz]at A;split at A<;>cases A
   .lia
  rw[m3 (by simpa using O),Li]at A;have Q3:(N.drop f.length)[i - f.length]?=a5 y:=by
   rw[HJ];have e:f.length+(i - f.length)=i:=by lia
   rw[e];show w
  have Kf:(NU scope X.env).names.lookup y=a5 .local\/(NU scope X.env).names.lookup y=a5 .cell\/(NU scope X.env).names.lookup y=a5 .free:=h3;have Jh:∀y:Str,y∈f->N[i]?=a5 y->False:=λy Q w=>by
   have⟨j,hj,ej⟩:=LP Q;have HC:N[j]?=a5 y:=by
    have G:(N.take f.length)[j]?=a5 y:=by rw[S.pre,tj hj,ej]
    rw[Rp hj]at G;show G
   have:=i_ S.nd HC w;lia
  have Fb:scope.names.lookup y=a5 .free:=by
   rcases Kf with z|z|z
   .rcases bw z with q|⟨q,_⟩
    .exfalso
     have Q:y∈f:=by
      rcases S.loc (y,.local) (mem_lookup q) rfl with z|z
      .show z
      .have z':y=".0":=z;show absurd (sx w) (by rw[z'];show S.Q0)
     show Jh y Q w
    .cases q
   .rcases bw z with q|⟨_,q⟩
    .show(Jh y (S.cl _ (mem_lookup q) rfl) w).elim
    .show q
   .rcases bw z with q|⟨q,_⟩
    .show q
    .cases q
  have hX:X.N[i - f.length]?=a5 y:=by
   rcases S.tail.2 _ _ Q3 with e|e|e
   .show e
   .show absurd e (S.dot _ (mem_lookup Fb)).1
   .show absurd e (S.dot _ (mem_lookup Fb)).2
  have⟨m,hn,hl⟩:=I.loc;have hv:X.env.scope.names.lookup y=a5 .cell\/X.env.scope.names.lookup y=a5 .free:=S.free (y,.free) (mem_lookup Fb) rfl;have⟨u,r,l⟩:=hl _ y v hX A (.inr hv);show⟨u,r,?_⟩;rcases l with⟨k,_⟩|⟨k,c,e,z⟩
  .have k':X.env.scope.names.lookup y=a5 .local:=k;rcases hv with q|q<;>(rw[k']at q;cases q)
  .have hk:(NU scope X.env).names.lookup y=a5 .cell\/(NU scope X.env).names.lookup y=a5 .free:=by
    rcases Kf with q|q|q
    .rcases bw q with J|⟨J,_⟩
     .rw[Fb]at J;cases J
     .cases J
    .show .inl q
    .show .inr q
   have⟨o,ho,T⟩:=z;show .inr ⟨hk,c,(mj _ _ _ (S.no Fb)).trans (fI e scope.names [] (mem_lookup Fb)),o,keep c o ho,T⟩
 .rcases Jf x c e with z|z
  .show⟨_,z⟩
  .have⟨v,o,ho,T⟩:=I.cell x c (sub x c z);show⟨v,o,keep c o ho,T⟩
 .rcases L x c e with z|z
  .show I.EZ.fresh (w6 B (Ie z))
  .show I.Fy x c (sub x c z)
 .rw[ke,Li,I.len];have e:N.length=f.length+(N.drop f.length).length:=by rw[UQ];lia
  change _=N.length;rw[e,S.tail.1]
def nF(I:Inv X f σ H s)
  (d:Inv (FT X N scope C s H ex) T σ' k s4) (t:s.heap.objs.size<=D) (w:s.heap.objs.size<=C) (x:D≠C) (h:k D=b5) (rv:Vals ys m) (y:s4.heap.PlainList D m.toArray) (hl:ys.length<=df)
  (i:H8 C s4.heap h') (l:∀b∈ex,ja X f H b):Inv X f σ (upd k D (.lst ys)) {s4 with heap:=h' }:=by
 have p:k C=b5:=d.free;have lt:∀{b:fS} {o:Obj},s.heap.get? b=a5 o->b≠C/\b≠D:=λe=>⟨i2 (i5 (hQ e) w),i2 (i5 (hQ e) t)⟩
 show I.Cn (s':={s4 with heap:=h' }) (ch:=ex) d.os ⟨λb o e n j g=>?_,λb o e n j g=>?_,λb o e n g=>?_,λb o e g=>?_,λb xs e=>?_,λb o u e=>?_,λb A e=>?_⟩ (λa o e=>?_) d.bare λb j=>?_
 .show(i.2 b (lt e).1).trans (d.base.keep b o e n j g)
 .have⟨B,q⟩:=d.base.slot b o e n j g;show⟨B,(i.2 b (lt e).1).trans q⟩
 .rw[aj (lt e).2];show d.base.free b o e n g
 .have⟨o',q⟩:=d.base.there b o e g;show⟨o',(i.2 b (lt e).1).trans q⟩
 .have q:=d.base.iK b xs e;rw[aj (bh q h)];show q
 .have q:=d.base.Gk b o u e;rw[aj (bh q h)];show q
 .have⟨more,q⟩:=d.base.GA b A e;show⟨more,by rw[aj (bh q h)];show q⟩
 .by_cases r:a=D
  .subst r;rw[au]at e;cases e;have⟨n,q⟩:=y;show⟨hl,m,n,rv,(i.2 _ x).trans q⟩
  .rw[aj r]at e;show(d.EZ a o e).nq (λc v G q=>(i.2 c ?_).trans q) (λc q=>?_) λc xs q=>?_
   .rintro rfl;rcases G with z|z
    .rw[<-z,p]at e;cases e
    .rw[p]at z;cases z
   .rw[aj (bh q h)];show q
   .rw[aj (bh q h)];show q
 .have⟨Y,J,f2,L,O,Q⟩:=l b j;show⟨L,J,O,Q⟩
section
def mq(I:Nat->hH->Prop)
  (b:∀n s,I n s->hA (hW prog w) A (Oz it) (λr d=>match r with
   |none=>R (.ok .next) d
   |some v=>hA (hW prog w) A (Oh a it v) (λ_ d=>hA (hW prog w) A (M_ a env v) (λ_ j =>
     hA (hW prog w) A (forIn f bD λc r=>if r=bD then do let ok <-isTrue c env (D3 c env);pure (Kj ok) else pure (Kj r)) (λok i =>
      if ok=bD then hA (hW prog w) A (D3 elt env) (λx k =>
       hA (hW prog w) A (KS (.builtin "list.append") [acc,x]) (λ_ l=>∃m,m<n/\I m l) (OS (hW prog w) A env λe s'=>R (.error e) s') k) (OS (hW prog w) A env λe s'=>R (.error e) s') i
      else ∃m,m<n/\I m i) (OS (hW prog w) A env λe s'=>R (.error e) s') j) (OS (hW prog w) A env λe s'=>R (.error e) s') d) (OS (hW prog w) A env λe s'=>R (.error e) s') d) (OS (hW prog w) A env λe s'=>R (.error e) s') s)
  (n:Nat) (h:I n s) :
  LW (hW prog w) A (.compLoop (.ListComp elt [⟨a,g,f,0⟩] scope pos) 0 it acc env) R s:=by
 show codeAny_loop rfl I (λn s q=>?_) n h;change hA _ A ((compTurn (.ListComp elt [⟨a,g,f,0⟩] scope pos) 0 it acc env).onRaise (λx=>do noteFrame x env;theTreesLotGoes x)) _ _ s;show wpAny_noted ?_;rw[compTurn_list];show cc (Tz (cc (r6 (b n s q) (λr d o=>?_) λ_ _ h'=>h')));cases r with
 |none=>show eL o
 |some v =>
  show cc (r6 o (λ_ B t=>?_) λ_ _ h'=>h');show cc (r6 t (λ_ j u=>cc (r6 u (λok i p=>?_) λ_ _ h'=>h')) λ_ _ h'=>h');cases ok with
  |false=>show eL ⟨rfl,p⟩
  |true =>
   show cc (cc (r6 p (λx k y=>cc (r6 y (λ_ l z=>eL (eL ⟨rfl,z⟩)) λ_ _ h'=>h')) λ_ _ h'=>h'))
end
abbrev IB(X:Cx)(b:List l')(t:TT):Prop :=
 ∀(a:List (fS×Obj)) (s:hH) (σ:St) (H:Hp) (Q:Bool->Hp->Prop),Inv X a σ H s->t σ H Q ->
  hA (hW X.prog X.w) X.A (forIn b bD λc r=>if r=bD then do let d <-isTrue c X.env (D3 c X.env);pure (Kj d) else pure (Kj r)) (TP X a σ Q) X.xe s
abbrev EB:TT:=λ_ H Q=>Q bD H
def qB:IB X [] EB:=λ_ _ _ H _ I h=>wpAny_tests_nil ⟨H,I,h⟩
def qC(h:PT X c t):IB X [c] t:=λa s σ H Q I q=>wpAny_tests_one (h a s σ H Q I q)
abbrev qD(k:Nat)(J:It)(g:TG)(j:TT)(l:TE)(Q:VK)(σ:St)(n:Hp):Prop :=
  ∃W:Nat->Nat->List V->Hp->Prop,(∃m,W 0 m [] n)/\∀i m ys H,W i m ys H->ys.length<=df /\
    ((J.stop i H/\∀p,H p=b5->Q (.ref p) (upd H p (.lst ys))) \/
     (J.go i H/\∃c:List V->Hp->Prop,(∀e H',c e H'->∃f,f<m/\W (i+1) f e H')/\∀x H',J.L9 i H x H'->g x (j0 k b5++σ) H' λd o=>∃a:St,a.length=k/\d=a++σ /\
        j d o λb h=>if b=bD then l d h λy q=>c (ys++[y]) q else c ys h))
abbrev uC(k:Nat)(a:TI)(g:TG)(b:TT)(c:TE):TE:=λσ H Q=>a σ H λJ d=>qD k J g b c Q σ d
section
def uD
  (S:cj X N B scope) (hc:X.calm=bD) (hg:∀C s H ex,PG (FT X N scope C s H ex) tg g) (hf:∀C s H ex,IB (FT X N scope C s H ex) al tt) (he:∀C s H ex,PE (FT X N scope C s H ex) elt te)
  (I:Inv X am σ H s) (T:Turn X.prog X.w X.K tg J G it tn) (st:tn 0 s.heap) (f2:∀b∈G,ja X am H b) (W:qD B.length J g tt te Q σ H)
  (hD:@Eq Nat D s.heap.objs.size) (hC:@Eq Nat C (s.heap.objs.size+1)) (Jf:∀x c,(HB X scope C).lookup x=a5 c->s4.heap.IsCell c b5\/(ba X.env scope.names []).lookup x=a5 c) (NF:s4.os=s.os) (Q6:s4.gens=s.gens) (keep:∀b o,s.heap.get? b=a5 o->s4.heap.get? b=a5 o) (ns:∃m,s4.heap.Ns C m) (pl:s4.heap.PlainList D #[])
  (an:∀s5 O ys k,Inv (FT X N scope C s H G) [] (j0 B.length b5++σ) O s5->O D=b5->Vals ys k->s5.heap.PlainList D k.toArray->ys.length<=df->(∀p,O p=b5->Q (.ref p) (upd O p (.lst ys)))->R (.ok .next) s5) :
  LW (hW X.prog X.w) X.A (.compStart (.ListComp elt [⟨tg,ap,al,0⟩] scope pos) 0 (.ref it) (.ref D) (QD scope (HB X scope C) C X.env)) R s4:=by
 have HL:∀b∈G,@Lh Nat _ b s.heap.objs.size:=λb h=>by
  obtain⟨o,e,_⟩:=T.obj 0 s.heap st b h;show hQ e
 have I4:Inv (FT X N scope C s H G) [] (j0 B.length b5++σ) H s4:=uB S I ⋯ Jf NF Q6 keep ns λb h=>⟨f2 b h,HL b h⟩
 have Kg:tn 0 s4.heap:=T.keep 0 s.heap s4.heap st λb _ o e=>keep b o e;have nD:H D=b5:=I.EZ.fresh ⋯;obtain⟨W,⟨m0,w0⟩,UZ⟩:=W;generalize l:FT X N scope C s H G=f at I4 an;have eP:f.prog=X.prog:=by rw[<-l];rfl
 have ew:f.w=X.w:=by rw[<-l];rfl
 have eK:f.K=X.K:=by rw[<-l];rfl
 have ec:f.calm=bD:=by rw[<-l];show hc
 have eA:f.A=X.A:=by rw[<-l];rfl
 have ee:f.env=QD scope (HB X scope C) C X.env:=by rw[<-l];rfl
 have NH:f.xe=λ_ _=>False:=by rw[<-l];rfl
 have el:f.env.locals=C:=by rw[ee];rfl
 have Q7:PG f tg g:=by rw[<-l];show hg _ _ _ _
 have Q8:IB f al tt:=by rw[<-l];show hf _ _ _ _
 have Q9:PE f elt te:=by rw[<-l];show he _ _ _ _
 have s0:f.s₀=s:=by rw[<-l];rfl
 have K3:f.pn=[]:=by rw[<-l];rfl
 have NI:∀{H':Hp} {o:Obj},(∀b∈G,H' b=b5)->∀b∈G,ja f [(D,o)] H' b:=λ{H' o} hn b h=>by
  have ex:f.ex=G:=by rw[<-l];rfl
  show⟨hn b h,?_,?_,.inl (by rw[ex];show h),λx c e=>?_,λp L=>?_⟩
  .rw[el];have:=HL b h;show i2 (by change @Lh Nat _ b C;lia)
  .have e1:f.fs=Hh X.stack:=by rw[<-l];rfl
   rw[e1];intro z;have⟨f0,f1,Q_,f3,f4,f5⟩:=f2 b h;rcases gs.mp (I.i9 b z) with q|q
   .show f1 q
   .show Q_ q
  .have e1:f.env.cells=HB X scope C:=by rw[ee];rfl
   rw[e1]at e;rcases gh _ _ _ e with z|z
   .have:=HL b h;have:=z.2;show Ib (by change @Lh Nat _ b c;lia)
   .show(f2 b h).2.2.2.2.1 x c (dS scope.names [] (λn c e=>by simp at e) x c z)
  .rw[K3,o3]at L;have:p=(D,o):=by simpa using L
   subst this;have:=HL b h;show Ib (by change @Lh Nat _ b D;lia)
 have NJ:∀{σ':St} {H':Hp} {s':hH} {o:Obj},Inv f [] σ' H' s'->H' D=b5->s'.heap.get? D=a5 o->(∀v,o.data≠.cell v)->Inv f [(D,o)] σ' H' s':=λ{σ' H' s' o} I' n e d =>
  I'.eW λp L=>by
   have:p=(D,o):=by simpa using L
   subst this;show⟨e,n,?_,?_,d⟩
   .rw[el];show i2 (by change @Lh Nat _ D C;lia)
   .have e1:f.fs=Hh X.stack:=by rw[<-l];rfl
    rw[e1];intro z;have zz:(D:fS)∈Hh X.stack:=z;rcases gs.mp (I.i9 D zz) with q|q
    .have:=I.lt;rw[<-q]at this;show absurd this (by change ¬@Lh Nat _ D s.heap.objs.size;lia)
    .show I.Cm (a:=D) ⋯ q
 have start:∀s':hH,s'=s4->LW (hW X.prog X.w) X.A (.compLoop (.ListComp elt [⟨tg,ap,al,0⟩] scope pos) 0 (.ref it) (.ref D) (QD scope (HB X scope C) C X.env)) R s':=by
  rintro s' rfl;show mq (λn s'=>∃i ys k H',Inv f [] (j0 B.length b5++σ) H' s'/\tn i s'.heap/\(∀b∈G,H' b=b5)/\H' D=b5/\Vals ys k/\s'.heap.PlainList D k.toArray/\W i n ys H') ?_ m0
   ⟨0,[],[],H,I4,Kg,λb h=>(f2 b h).1,nD,.nil,pl,w0⟩
  rintro n s3 ⟨i,ys,k,H3,I3,Fs,KO,Pn,Mk,⟨nn,Ra⟩,w3⟩;have⟨Y,Hj⟩:=UZ i n ys H3 w3;have IP:=NJ I3 Pn Ra (λv z=>by have z':Data.seq _ _=Wj v:=z;cases z');rcases Hj with⟨as,qn⟩|⟨go,NN,Po,a0⟩
  .have d:=T.done f eP ew eK ec i _ s3 _ H3 (OS (hW X.prog X.w) X.A (QD scope (HB X scope C) C X.env) λe s'=>R (.error e) s') IP (NI KO) Fs as;rw[eA]at d;show E2 d λr s4 NK=>?_;have⟨hr,I5⟩:=NK;subst hr;have e5:=(I5.pin (D,({cls:=.type "list",data:=.seq k.toArray nn}:Obj)) (by rw[K3];simp)).1;show an s4 H3 ys k (I5.eW λp L=>by cases L) Pn Mk ⟨nn,e5⟩ Y qn
  .have d:=T.item f eP ew eK ec i _ s3 _ H3 (OS (hW X.prog X.w) X.A (QD scope (HB X scope C) C X.env) λe s'=>R (.error e) s') IP (NI KO) Fs go;rw[eA]at d;show E2 d λr s4 NM=>?_;have⟨u,hr,h4⟩:=NM;subst hr;show E2 h4 λ_ s5 NO=>?_;have⟨x,O,I5,r5,y5,Ja,Nc⟩:=NO;have T1:O D=b5:=(I5.pin (D,({cls:=.type "list",data:=.seq k.toArray nn}:Obj)) (by rw[K3];simp)).2.1;have Nd:=I5.pinned (NI Nc) (T.obj _ _ Ja);have a6:=Q7 _ s5 _ O x u _ Nd r5 (a0 x O y5);rw[eP,ew,eA,ee,NH]at a6;show r6 a6 (λ_ s6 ⟨σ6,H6,I6,q6⟩=>?_) λ_ _ z=>J2 z;have⟨ow,a1,rfl,q6⟩:=q6;have a7:=Q8 _ s6 _ H6 _ I6 q6;rw[eP,ew,eA,ee,NH]at a7;show r6 a7 (λb s7 ⟨H7,I7,q7⟩=>?_) λ_ _ z=>J2 z;have ac:∀{s8:hH} {t:Hp} {GD:List V} {its':List ei} {nn':Nat},Inv f [] (ow++σ) t s8->tn (i+1) s8.heap->(∀b∈G,t b=b5)->t D=b5->Vals GD its'->s8.heap.PlainList D its'.toArray->(∃m',m'<n/\W (i+1) m' GD t) ->
     ∃m,m<n/\∃i ys k H',Inv f [] (j0 B.length b5++σ) H' s8/\tn i s8.heap/\(∀b∈G,H' b=b5)/\H' D=b5/\Vals ys k/\s8.heap.PlainList D k.toArray/\W i m ys H':=λ{s8 t GD its' nn'} I8 Rb Rc n8 Rf Rg w8=>by
    have⟨m',hm,w8⟩:=w8;show⟨m',hm,i+1,GD,its',t,I8.weak (by simp[a1]) (λj v e=>?_),Rb,Rc,n8,Rf,Rg,w8⟩;by_cases hj:j<B.length
    .rw[ti (by simpa using hj),Fz]at e;split at e<;>cases e
    .rw[m3 (by simpa using(Nat.not_lt.mp hj)),Li]at e;rw[m3 ⋯,a1];show e
   have ag:∀{σ':St} {t:Hp} {s8:hH},Inv f ([(D,({cls:=.type "list",data:=.seq k.toArray nn}:Obj))]++jb G s5.heap) σ' t s8->s8.heap.get? D=a5 {cls:=.type "list",data:=.seq k.toArray nn}/\t D=b5/\tn (i+1) s8.heap/\∀b∈G,t b=b5:=λ{σ' t s8} I8=>by
    have p1:=I8.pin (D,({cls:=.type "list",data:=.seq k.toArray nn}:Obj)) (by rw[K3];simp);show⟨p1.1,p1.2.1,T.keep _ _ _ Ja λb h o e=>(I8.pin (b,o) (ri _ (ri _ (dQ h e)))).1,λb h=>?_⟩;have⟨o,e,d⟩:=T.obj _ _ Ja b h;show(I8.pin (b,o) (ri _ (ri _ (dQ h e)))).2.1
   cases b with
   |false =>
    rw[Ws i0]at q7 ⊢;have⟨p1,p2,p3,p4⟩:=ag I7;show ac (nn':=0) (I7.eW λp L=>by cases L) p3 p4 p2 Mk ⟨nn,p1⟩ (Po _ _ q7)
   |true =>
    rw[Wq rfl]at q7 ⊢;have a8:=Q9 _ s7 _ H7 _ I7 q7;rw[eP,ew,eA,ee,NH]at a8;show r6 a8 (λy s8 ⟨yv,t,I8,r8,q8⟩=>?_) λ_ _ z=>J2 z;have⟨p1,p2,p3,p4⟩:=ag I8;have hsz:k.toArray.size<=df:=by rw[fR,<-Mk.length];show Y
    show wpAny_list_append_plain (hsz:=hsz) ⟨nn,p1⟩ λh9 Rh Pp=>?_;have Ri:Inv f [] (ow++σ) t s8:=I8.eW λp L=>by cases L
    have Ml:∀x c,f.env.cells.lookup x=a5 c->c≠D:=λx c e=>by
     have e1:f.env.cells=HB X scope C:=by rw[ee];rfl
     rw[e1]at e;rcases gh _ _ _ e with z|z
     .have:=z.2;show Ib (by change @Lh Nat _ D c;lia)
     .have⟨v,z⟩:=I.cell x c (dS scope.names [] (λn c e=>by simp at e) x c z);have:@Lh Nat _ c s.heap.objs.size:=z.lt;show i2 (by change @Lh Nat _ c D;lia)
    have I9:Inv f [] (ow++σ) t {s8 with heap:=h9,toks:=s8.toks}:=Ri.turned (it:=D) (λb o h e=>(Pp.2 b h).trans e) p2 (by rw[el];show i2 (by change @Lh Nat _ D C;lia)) (.inr (by rw[s0];change @Vf Nat _ s.heap.objs.size D;lia)) Ml (λp L=>by rw[K3]at L;cases L);have Rj:(k++[y]).toArray=k.toArray.push y:=by simp
    show ac (nn':=0) (s8:={s8 with heap:=h9,toks:=s8.toks}) I9 (T.keep _ _ _ p3 λb h o e=>(Pp.2 b ?_).trans e) p4 p2 (Mk.append (.cons r8 .nil)) (by rw[Rj];show Rh) (Po _ _ q8);have:=HL b h;show i2 (by change @Lh Nat _ b D;lia)
 show codeAny_compStart_list (start _ rfl) (T.self _ _ _ _ _ Kg (start _ rfl))
def pb
  (f:Q (newEnv scope s.heap.objs.size b (IA (s.heap.objs.size+1) scope.names cl) d b5 .none (a5 c) a) {s with heap:=MZ (s.heap.push {cls:=.type "dict",data:=.dict #[]}) scope.names}) :
  hA M A (Sh scope b cl [] d b5 .none (a5 c) a) Q E s:=by
 simp only[Sh,Tw,if_true];show cc (wpAny_alloc ?_);show cc (wpAny_layCells _ (λname kind e=>by cases g:kind==Gj<;>simp[g]) _ _ _ _ ?_);rw[show({s with heap:=s.heap.push {cls:=.type "dict",data:=.dict #[]}}:hH).heap.objs.size=s.heap.objs.size+1 from NA ..];show cc ?_;rw[List.forIn_nil];show eL (eL f)
def jj{RR:ei->fS->Result->hH->Prop}
    (S:cj X N f scope) (y:X.calm=bD) (z:∀C s H ex,PG (FT X N scope C s H ex) tg g) (B:∀C s H ex,IB (FT X N scope C s H ex) k G) (L:∀C s H ex,PE (FT X N scope C s H ex) elt O)
 (I:Inv X h σ H s) (T:Turn X.prog X.w X.K tg J q it Y) (st:Y 0 s.heap) (f2:∀b∈q,ja X h H b) (W:qD f.length J g G O Q σ H)
    (l:∀D C i d ys j,@Eq Nat D s.heap.objs.size->@Eq Nat C (s.heap.objs.size+1)->Inv (FT X N scope C s H q) [] (j0 f.length b5++σ) d i->d D=b5->Vals ys j->i.heap.PlainList D j.toArray->ys.length<=df->(∀p,d p=b5->Q (.ref p) (upd d p (.lst ys)))->RR (.ref D) C (.ok .next) i) :
    hA (hW X.prog X.w) X.A (VG []) (λacc s₃=>hA (hW X.prog X.w) X.A (Sh scope X.env.globals (ba X.env scope.names []) [] X.env.qual b5 .none (a5 X.env)) (λr s₄ =>
      LW (hW X.prog X.w) X.A (.compStart (.ListComp elt [⟨tg,t,k,0⟩] scope pos) 0 (.ref it) acc {r with scope:=NU scope X.env}) (RR acc r.locals) s₄) E s₃) E s:=by
  show GQ (pb ?_)
  dsimp only
  generalize m:s.heap.push {cls:=.type "list",dict:=b5,data:=.seq ([]:List ei).toArray}=a;have u:a.objs.size=s.heap.objs.size+1:=by rw[<-m,NA]
  have v:∀b o,a.get? b=a5 o->(MZ (a.push {cls:=.type "dict",data:=.dict #[]}) scope.names).get? b=a5 o:=λb o e=>RS _ _ b o (c4 _ e);have n:∀b o,s.heap.get? b=a5 o->(MZ (a.push {cls:=.type "dict",data:=.dict #[]}) scope.names).get? b=a5 o:=λb o e=>v b o (m▸c4 _ e);have FI:(MZ (a.push {cls:=.type "dict",data:=.dict #[]}) scope.names).PlainList s.heap.objs.size #[]:=⟨_,v _ _ (m▸hh _ rfl)⟩
  have Jf:∀x c,(HB X scope a.objs.size).lookup x=a5 c->(MZ (a.push {cls:=.type "dict",data:=.dict #[]}) scope.names).IsCell c b5\/(ba X.env scope.names []).lookup x=a5 c:=λx c e=>by
    show mn scope.names (a.push {cls:=.type "dict",data:=.dict #[]}) _ ?_;rw[NA];show e
  show uD (s:=s) (s4:={s with heap:=MZ (a.push {cls:=.type "dict",data:=.dict #[]}) scope.names}) (C:=a.objs.size) (D:=s.heap.objs.size) S y z B L I T st f2 W rfl u Jf rfl rfl n ⟨_,(Heap.Ns.new a (.type "dict")).keeps (RS _ _)⟩ FI
    λi d ys j I5 n5 K5 K6 K7 q5=>l _ _ i d ys j rfl u I5 n5 K5 K6 K7 q5
def xG(S:cj X N c scope)(l:X.calm=bD)(m:PI X tg a n)(o:∀C s H ex,PG (FT X N scope C s H ex) tg g)(p:∀C s H ex,IB (FT X N scope C s H ex) d q)(r:∀C s H ex,PE (FT X N scope C s H ex) elt t)
  (hs:∀x,IV a X.env x=pure x:=by intro _;rfl):PE X (.ListComp elt [⟨tg,a,d,0⟩] scope pos) (uC c.length n g q t):=by
 intro b s σ H Q I h;rw[eval_ListComp];show TB (use:=b5) (cl:=ba X.env scope.names []) rfl hs (dE (S.cells I.ok)) S.kind S.names ?_;show E2 (m b s σ H _ I h) λv s1 u=>E2 u λL_ s2 y=>?_;have⟨it,fp,tn,J,H2,e,f,T,st2,i,W⟩:=y;subst e;show jj (RR:=λacc C=>compPost (hW X.prog X.w) X.A X.xe b5 (EP X b σ Q) acc C) S l o p r f T st2 i W ?_;intro D C s5 H5 ys A' z hC j k B G L O;obtain⟨Y,NP,_⟩:=j.loc;show⟨Y,NP,λh' sb=>⟨.ref D,_,nF f j (Th z.symm) (by change @Vf Nat _ s2.heap.objs.size C;lia) (i2 (by change @Lh Nat _ D C;lia)) k B G L sb i,rfl,O D k⟩⟩
def xH(S:cj X N q scope)(hc:X.calm=bD)(hN:X.N.Nodup)(Mm:X.N[i]?=a5 y)(u:X.env.scope.names.lookup y=a5 .local)
  (hi:PI X tg d wi) (hg:∀C s H ex,PG (FT X N scope C s H ex) tg g) (hf:∀C s H ex,IB (FT X N scope C s H ex) k tt) (he:∀C s H ex,PE (FT X N scope C s H ex) elt te)
  (Ih:K8 (.ListComp elt [⟨tg,d,k,0⟩] scope pos) (a5 (.Name y m)) Hr.line X.env=pure bD:=by rfl)
  (hs:∀x,IV d X.env x=pure x:=by intro _;rfl):PS X (.Assign [.Name y m] (.ListComp elt [⟨tg,d,k,0⟩] scope pos) Hr) (Ak (uC q.length wi g tt te) (qv i)):=by
 intro f s σ H D I h;rw[exec_Assign_Name_used _ _ _ _ Ih];show cc (Tz (cc ?_));change hA _ X.A (do let _ <-comprehension (.ListComp elt [⟨tg,d,k,0⟩] scope pos) scope X.env _ (VG []) c2 (D3 d X.env) (a5 (M_ (.Name y m) X.env))) _ _ s;show cc (r6 (TB (use:=a5 (M_ (.Name y m) X.env)) (cl:=ba X.env scope.names []) (Q:=λ_ s'=>SP X f D .next s') rfl hs (dE (S.cells I.ok)) S.kind S.names ?_) (λ_ s' hq=>eL (eL hq)) λ_ _ e=>e);show E2 (hi f s σ H _ I h) λv s1 h1=>E2 h1 λL_ s2 h2=>?_;have⟨it,fp,tn,J,H2,e,l,T,st2,G,W⟩:=h2;subst e;show jj (RR:=λacc C=>compPost (hW X.prog X.w) X.A X.xe (a5 (M_ (.Name y m) X.env)) (λ_ s'=>SP X f D .next s') acc C) S hc hg hf he l T st2 G W ?_;intro j C n r ys A' hD hC t L K5 K6 K7 q5;obtain⟨m5,NP,_⟩:=t.loc;have Rm:r C=b5:=t.free;have B:Inv X f σ (upd r j (.lst ys)) {n with heap:=n.heap}:=nF l t (Th hD.symm) (by change @Vf Nat _ s2.heap.objs.size C;lia) (i2 (by change @Lh Nat _ j C;lia)) L K5 K6 K7 (Q4 ..) G;change hA _ X.A (M_ (.Name y m) X.env (.ref j)) _ _ n;show VD (kF (s:=n) B hN Mm (.inl u) (show RelV (.ref j) (.ref j) from rfl) (λs6 I6 ⟨a,sb,ha⟩=>?_) (.inr u));have O:@Lh Nat _ X.env.locals C:=by have:@Lh Nat _ X.env.locals s2.heap.objs.size:=l.lt;lia
 have Y:∀x c,X.env.cells.lookup x=a5 c->c≠C:=λx c e=>by
  have⟨v,z⟩:=l.cell x c e;have:@Lh Nat _ c s2.heap.objs.size:=z.lt;show i2 (by change @Lh Nat _ c C;lia)
 have Rn:C≠a:=by
  rcases ha with z|z
  .rw[z];show Ib O
  .show(Y _ _ z).symm
 show⟨m5,NP.sameBut sb Rn,λh' Ro=>?_⟩;show⟨σ.set i (a5 (.ref j)),upd r j (.lst ys),I6.turned (it:=C) (t':=s6.toks) (λb o hb e=>(Ro.2 b hb).trans e) ?_ (Ib O) (.inr (by have:@Vf Nat _ X.s₀.heap.objs.size s2.heap.objs.size:=l.sz;change @Vf Nat _ X.s₀.heap.objs.size C;lia)) Y (λp hp=>?_),q5 j L⟩
 .rw[aj (Ib (by change @Lh Nat _ j C;lia))];show Rm
 .have:@Lh Nat _ p.1 s2.heap.objs.size:=hQ (l.pin p hp).1;show i2 (by change @Lh Nat _ p.1 C;lia)
end
section
end
section
abbrev CP:V->Option Int->Option Int->Hp->VK->Prop:=λx lo a H Q=>∃z,x=.str z/\z.length<=df/\Q (.str (PySem.StrLaws.sliceText z lo a)) H
def kf(x:Str)(lo a:Option Int)(hz:x.length<=df):(PySem.StrLaws.sliceText x lo a).length<=df:=w6 (Txt.slice_le x lo a) hz
def AK:Jc X CP:=by
 intro b s σ H x v n o lo c p Q I g hs m e h;have⟨z,rfl,hz,q⟩:=h;have⟨t,rfl⟩:=g;show⟨"str",_,VV.lookup,Se _ _ _,?_⟩;have a:(PySem.StrLaws.sliceText z lo c).length<=df/\∀t' k,EP X b σ Q (.str (PySem.StrLaws.sliceText z lo c) t') {s with toks:=k}:=⟨kf z lo c hz,λt' k=>⟨.str _,H,I.tok k,⟨_,rfl⟩,q⟩⟩
 cases m with
 |none =>
  cases e with
  |none=>show K4 (l:=b5) (u:=b5) (st:=b5) hs rfl (Od a)
  |int j d=>show K4 (l:=b5) (u:=a5 (j,d)) (st:=b5) hs rfl (Od a)
 |int i f =>
  cases e with
  |none=>show K4 (l:=a5 (i,f)) (u:=b5) (st:=b5) hs rfl (Od a)
  |int j d=>show K4 (l:=a5 (i,f)) (u:=a5 (j,d)) (st:=b5) hs rfl (Od a)
theorem gk:∀{ys:List Str}{a:List ei},Vals (ys.map V.str) a->∃l:List (Str×Tok),a=strValues l/\l.map (·.1)=ys
 |[],_,.nil=>⟨[],rfl,rfl⟩
 |y::ys,_,.cons r t=>by
  have⟨b,rfl⟩:=r;have⟨l,rfl,e⟩:=gk t;show⟨(y,b)::l,rfl,by rw[gj,e]⟩
def xI:Nn X "str.join" (λx xs H Q=>∃a p ys,x=.str a/\xs=[.ref p]/\Fj X.K H p (ys.map V.str)/\Vt a ys=bD/\Q (.str (N2 a ys)) H):=by
 intro b s σ H x xs v us Q I c rs h;have⟨a,p,ys,rfl,rfl,d,f,q⟩:=h;have⟨t,rfl⟩:=c;have⟨u,rfl,r⟩:=vals1 rs;cases r;have⟨i,rv,g,hz⟩:=I.list d;have⟨l,rfl,e⟩:=gk rv;show SC.join g.isList e f λt' k=>⟨.str _,H,I.tok k,⟨_,rfl⟩,q⟩
theorem ix:∀{a:List Bool}{c:List ei},Vals (a.map V.bl) c->c=a.map Md
 |[],_,.nil=>rfl
 |b::a,_,.cons r t=>by
  cases r;rw[ix t];rfl
def uE:X.calm=bD->f_ X (.builtin "all") (λxs H Q=>∃(p:fS) (a:List Bool),xs=[.ref p]/\Fj X.K H p (a.map V.bl)/\Q (.bl (a.all id)) H):=by
 intro j f s σ H xs us Q I rs h;have⟨p,a,rfl,k,q⟩:=h;have⟨u,rfl,r⟩:=vals1 rs;cases r;have⟨o,rv,d,hz⟩:=I.list k;have e:=ix rv;subst e;have l:p<s.heap.objs.size:=by obtain⟨_,_,e,_⟩:=d;show hQ e
 show call_all_walk (P_ d.isList ?_);show⟨s.heap.objs.size,[s.heap.objs.size,p],[s.heap.objs.size],(a.map Md).toArray.size,_,_,λi=>(a[i]?).getD bD,rfl,VT (A:=X.A.in1) (I.ok.hd j) _ p (i2 l) (a.map Md).toArray,
  ⟨⟨_,hh _ rfl,rfl,rfl⟩,d.isList.push _⟩,λi v s' Q' t m g=>?_,λh' n hk=>?_⟩
 .have c:(a.map Md)[i]?=a5 v:=by simpa using m
  rw[i6]at c;cases e:a[i]? with
  |none=>rw[e]at c;cases c
  |some b =>
   rw[e]at c;cases c;simp only[e,Option.getD_some]at g;show GO g
 .have e:((i3 (a.map Md).toArray.size).all λi=>(a[i]?).getD bD)=a.all id:=by
   rw[fR,d3];show Vi a
  rw[e];show⟨.bl _,H,I.kept (t':=n) (Vj hk),rfl,q⟩
end
section
end
abbrev AL(N a:List Str)(scope:Ir)(out:List (Str×Hi)):Bool :=
 dV (scope.kind=.function)&&scope.names.all (λy=>dV (scope.names.lookup y.1=a5 y.2))&&scope.names.all (λy=>dV (y.2≠.cell)||decide (y.1∈a))&&decide N.Nodup&&dV (N.take a.length=a) &&
 scope.names.all (λy=>dV (y.2≠.local)||decide (y.1∈a)||decide (y.1=".0"))&&dV ((".0":Str)∉N)&&scope.names.all (λy=>dV (y.2≠.free)||decide (out.lookup y.1=a5 .cell)||decide (out.lookup y.1=a5 .free))&&scope.names.all (λy=>dV (y.1≠".")&&dV (y.1≠".."))
def uF(c:X.env.scope.names=out)(d:dv (N.drop a.length) X.N)(h:AL N a scope out=bD):cj X N a scope:=by
 unfold AL at h;simp only[b6,lg,H0,Wo]at h;obtain⟨⟨⟨⟨⟨⟨⟨⟨f,g⟩,i⟩,j⟩,k⟩,l⟩,m⟩,n⟩,o⟩:=h;show⟨f,g,λy b e=>?_,j,k,λy b e=>?_,m,d,λy b e=>?_,o⟩
 .rcases i y b with z|z
  .show absurd e z
  .show z
 .rcases l y b with(z|z)|z
  .show absurd e z
  .show .inl z
  .show .inr z
 .rw[c];rcases n y b with(z|z)|z
  .show absurd e z
  .show .inl z
  .show .inr z
section
end
section
end
abbrev F5(a b:Str):Bool:=!dV (b.cps.toList<a.cps.toList)
def gn(a b:Str):F5 a b=bD↔a.cps.toList<=b.cps.toList:=by
 simp only[F5,rz,decide_eq_false_iff_not];show List.not_lt
def kP(a b c:Str)(d:F5 a b=bD)(e:F5 b c=bD):F5 a c=bD:=by
 rw[gn]at d e ⊢;show List.le_trans d e
def kQ(a b:Str):(F5 a b||F5 b a)=bD:=by
 rw[H0,gn,gn];show List.le_total _ _
def uG{x y:Str}(h:x.cps.toList=y.cps.toList):x=y:=by
 cases x;cases y;congr
 show Array.toList_inj.mp h
def gp(c:F5 a b=bD)(d:F5 b a=bD):a=b:=by
 rw[gn]at c d;show uG (List.le_antisymm c d)
abbrev aH(l:List Str):List Str:=l.mergeSort F5
def bj(l:List Str):(aH l).Perm l:=List.mergeSort_perm l F5
def dF(l:List Str):(aH l).Pairwise (λa b=>F5 a b=bD):=List.pairwise_mergeSort kP kQ l
theorem gq:∀(l:List Str) (p:Str),risingS p l=bD->(p::l).Pairwise (λa b=>F5 a b=bD)
 |[],p,_=>by simp
 |x::r,p,h=>by
  have h':(!ltCps x.cps.toList p.cps.toList&&risingS x r)=bD:=h;have⟨c,g⟩:=vl.mp h';have d:=gq r x g;have f:F5 p x=bD:=by rw[ltCps_eq]at c;show c
  show HE.mpr ⟨λy i=>?_,d⟩;rcases gs.mp i with e|e
  .rw[e];show f
  .show kP _ _ _ f ((HE.mp d).1 y e)
def mr(h:sortedS l=bD):l.Pairwise (λa b=>F5 a b=bD):=by
 cases l with
 |nil=>show .nil
 |cons x r=>show gq r x h
theorem dG:∀{l m:List Str},l.Perm m->l.Pairwise (λa b=>F5 a b=bD)->m.Pairwise (λa b=>F5 a b=bD)->l=m
 |[],m,c,_,_=>(List.Perm.nil_eq c)
 |x::l,m,c,d,f=>by
  cases m with
  |nil=>show absurd c.length_eq (by simp)
  |cons y m =>
   have⟨g,h⟩:=HE.mp d;have⟨i,j⟩:=HE.mp f;have k:x=y:=by
    have m1:x∈y::m:=c.mem_iff.mp kl;have m2:y∈x::l:=c.mem_iff.mpr kl;rcases gs.mp m1 with e|e
    .show e
    .rcases gs.mp m2 with e'|e'
     .show e'.symm
     .show gp (g y e') (i x e)
   subst k;rw[dG (List.Perm.cons_inv c) h j]
def uH(a:l.Perm m)(hs:sortedS l=bD):l=aH m:=dG (a.trans (bj m).symm) (mr hs) (dF m)
def iy(a:l.Perm m):aH l=aH m:=dG ((bj l).trans (a.trans (bj m).symm)) (dF l) (dF m)
def cm(l:List Str):(aH l).length=l.length:=(bj l).length_eq
section
theorem cY:∀{ys:List Str}{a:List ei},Vals (ys.map V.str) a->StrsAre a ys
 |[],_,.nil=>.nil
 |y::ys,_,.cons r t=>by
  have⟨b,rfl⟩:=r;show .cons y b (cY t)
theorem cV:∀{a:List ei}{ys:List Str},StrsAre a ys->Vals (ys.map V.str) a
 |_,_,.nil=>.nil
 |_,_,.cons x t h=>.cons ⟨t,rfl⟩ (cV h)
theorem dU(hc:hA (hW prog w) A.in1 (Ut x) (λvs s1=>∃ss,StrsAre vs ss/\vs.length<64 /\
      ∀(h':Gz) (FJ:List ei) (e:Nat),(∀b o,s1.heap.get? b=a5 o->h'.get? b=a5 o)->h'.get? s1.heap.objs.size=a5 (t4 "list" FJ.toArray e)->StrsAre FJ (aH ss)->Q (.ref s1.heap.objs.size) {s1 with heap:=h' }) E s) :
    hA (hW prog w) A (KS (.builtin "sorted") [x]) Q E s:=by
  refine MJ Vb UB UD (UE _) ?_;unfold J6.«sorted»;refine cc (m:=Vp "sorted" 1 1 _) (eL ?_);refine cc (r6 hc (λvs s1 h1=>?_) λ_ _ e=>e);obtain⟨ss,hS,Hs,h⟩:=h1
  refine wpAny_bind (wpAny_newList ?_ (by have : (64 : Nat) ≤ sizeLine := by decide
                                          lia))
  have Hn:(s1.heap.push (t4 "list" vs.toArray 0)).get? s1.heap.objs.size=a5 (t4 "list" vs.toArray 0):=hh _ rfl;show hA _ _ _ _ _ {s1 with heap:=s1.heap.push (t4 "list" vs.toArray 0)};refine cc (va (KH S0 ⟨_,Hn,rfl⟩ RU (list_sort_treeK strKind_oneLt Hn hS.keysOf (λv₁ v₂ rest e=>keyKind_strs (by rw[<-e];exact hS)) Hs λst' a1 a2=>⟨_,rfl,?_⟩) (Tf _)));obtain⟨GN,b1,b2,b3⟩:=sorted_out_str hS a1 a2;obtain⟨e,he⟩:=TX (out:=(arrOf st').map (·.2)) Hn;rw[uH b2 b3]at b1;refine eL ⟨_,rfl,h _ ((arrOf st').map (·.2)).toList e (λb o q=>?_) (by rw[Tn];exact he) b1⟩;have Fp:b<s1.heap.objs.size:=hQ q;show(SV (s1.heap.push (t4 "list" vs.toArray 0)) s1.heap.objs.size vs ((arrOf st').map (·.2))).get? b=a5 o;rw[SU (i2 Fp) (by rw[GR];exact Ic Fp)];exact c4 _ q
def kg(hl:Wm s.heap l vs.toArray)
  (h:Q vs {s with heap:=(s.heap.push (t4 "list" #[] 0)).update s.heap.objs.size (mx (·++vs.toArray))}) (hsz:vs.length<=df) :
  hA (hW prog w) A (Ut (.ref l)) Q E s:=by
 have⟨o,ho,b,n,c⟩:=id hl;unfold Ut;show cc (Sd (z9 entry_proto_collect' ?_));change hA _ _ (do Wf (.builtin "list.__iadd__" ⟨[<-VG [],.ref l],[]⟩)) _ _ s;show cc (O7 (eL ⟨Uh _ (by decide +kernel),z9 entry_list_iadd' ?_⟩));change hA _ _ (qP (.ref s.heap.objs.size) (.ref l) (.ref s.heap.objs.size)) _ _ {s with heap:=s.heap.push (t4 "list" #[] 0)};unfold qP;have a:(s.heap.push (t4 "list" #[] 0)).get? l=a5 o:=c4 _ ho;show cc (P9 (T:="tuple") ⟨o,a,b⟩ ?_);have d:(td "tuple"==td "tuple")=bD:=by rfl
 rw[Wq (by rw[d];simp)];show cc (UC a c ?_);show cc (UC (xs:=#[]) (n:=0) (hh _ rfl) rfl ?_);rw[Ws (by simp)];show cc (Pl (xs:=#[]) (n:=0) (hh _ rfl) rfl ?_ (kj _) (by change(#[]++vs.toArray).size<=df+1;simp only[OA,fR,PN];lia));show eL ?_;change hA (hW prog w) A (do
   let o <-load s.heap.objs.size
   match o.data with
   |.seq xs _=>pure xs.toList
   |_=>unsupported "internal:collect") Q E {s with heap:=(s.heap.push (t4 "list" #[] 0)).update s.heap.objs.size (mx (·++vs.toArray))}
 show cc (Vm (V3 (hh _ rfl) _) ?_);change hA _ _ (pure ((#[]:Array ei)++vs.toArray).toList) Q E _;rw[show((#[]:Array ei)++vs.toArray).toList=vs by simp];show eL h
end
section
def fw{h:Gz}{vs:List ei}(e:h.get? b=a5 o):((h.push (t4 "list" #[] 0)).update h.objs.size (mx (·++vs.toArray))).get? b=a5 o:=by
 rw[Ky _ _ _ _ (i2 (hQ e))];show c4 _ e
def nG(I:Inv X a σ H s)(i:∀b o,s.heap.get? b=a5 o->s1.heap.get? b=a5 o)(j:∃d c,s1={s with heap:=d,toks:=c})
  (hk:∀b o,s1.heap.get? b=a5 o->h'.get? b=a5 o) (k:h'.get? s1.heap.objs.size=a5 (t4 "list" g.toArray e)) (l:StrsAre g (aH f)) (hsz:s.heap.objs.size<=s1.heap.objs.size) (hl:f.length<=df)
  (q:∀p,H p=b5->Q (.ref p) (upd H p (.lst ((aH f).map V.str)))):EP X a σ Q (.ref s1.heap.objs.size) {s1 with heap:=h' }:=by
 have⟨d,c,rfl⟩:=j;have h:Inv X a σ H {s with heap:=d,toks:=c}:=I.kept (t':=c) i;show⟨.ref d.objs.size,_,h.laid (t':=c) (o:=.lst ((aH f).map V.str)) hk (hY _) ⟨by rw[d3,cm];show hl,g,e,cV l,k⟩,rfl,q _ (h.EZ.fresh (hY _))⟩
def iz:f_ X (.builtin "sorted") (λxs H Q=>∃(p:fS) (ys:List Str),xs=[.ref p]/\(Fj X.K H p (ys.map V.str)\/FH X.K H p (ys.map V.str))/\ys.length<64/\∀q,H q=b5->Q (.ref q) (upd H q (.lst ((aH ys).map V.str)))):=by
 intro d s σ H xs us Q I rs h;have⟨p,ys,rfl,hq,k,q⟩:=h;have⟨u,rfl,r⟩:=vals1 rs;cases r;have hl:ys.length<=df:=Ie (i5 k (by decide));have f:∀(a:List ei),Vals (ys.map V.str) a->∀(h':Gz) (c:List ei) (e:Nat),(∀b o,((s.heap.push (t4 "list" #[] 0)).update s.heap.objs.size (mx (·++a.toArray))).get? b=a5 o->h'.get? b=a5 o) ->
   h'.get? ((s.heap.push (t4 "list" #[] 0)).update s.heap.objs.size (mx (·++a.toArray))).objs.size=a5 (t4 "list" c.toArray e)->StrsAre c (aH ys) ->
   EP X d σ Q (.ref ((s.heap.push (t4 "list" #[] 0)).update s.heap.objs.size (mx (·++a.toArray))).objs.size) {s with heap:=h' }:=λa rv h' c e hk g i =>
  nG (s1:={s with heap:=(s.heap.push (t4 "list" #[] 0)).update s.heap.objs.size (mx (·++a.toArray))}) I (λb o z=>fw z) ⟨_,s.toks,rfl⟩ hk g i (by change s.heap.objs.size<=((s.heap.push (t4 "list" #[] 0)).update s.heap.objs.size (mx (·++a.toArray))).objs.size;rw[UM,GR];show Jy _) hl q
 rcases hq with hq|hq
 .have⟨a,rv,j,hz⟩:=I.list hq;have l:a.length=ys.length:=by rw[<-rv.length,d3]
  show dU (collect_list j.isList ⟨ys,cY rv,⋯,λh' c e hk g i=>f a rv h' c e hk g i⟩ ⋯)
 .have⟨a,rv,j,hz⟩:=I.tuple hq;have l:a.length=ys.length:=by rw[<-rv.length,d3]
  show dU (kg j ⟨ys,cY rv,⋯,λh' c e hk g i=>f a rv h' c e hk g i⟩ ⋯)
end
@[reducible]def sK(P:vr)(w:x8):=PySem.strKind P w
abbrev et(P:vr)(w:x8)(h:Gz)(a:fS)(b:Bool)(D:List Str):Prop :=
 ∃(L:List (Str×Tok)) (es:Array (Int×ei)) (ep:Nat) (t:Ng),h.get? a=a5 {cls:=.type "set",dict:=b5,data:=.set es ep t}/\es.toList=L.map (λp=>((sK P w).hash p.1,wh p.1 p.2)) /\
  (L.map (·.1)).Perm D/\D.Nodup/\t.fits es.size=bD/\es.size<Iu/\t.led=b/\(es.size=0\/t.plain=c2)
section
def uI{L:List (Str×Tok)}:ElemsOf (sK prog w) (L.map λp=>((sK prog w).hash p.1,wh p.1 p.2)):=by
 intro e a;obtain⟨p,_,rfl⟩:=l0.mp a;show⟨⟨p.1,by simp[PySem.strKind,Oj],rfl⟩,rfl⟩
def qE(x y:Str)(t:Tok):(sK prog w).is x (.str y t)=dV (x=y):=by
 rw[KP];simp[PySem.strKind,Oj];show⟨λh=>h.symm,λh=>h.symm⟩
def pd(t:Ng)(es:Array (Int×ei))(h:Int)(x:ei):(layNew t es h x).2.1.led=t.led:=by
 unfold layNew;split
 .change(R' (t.put _).1 _).led=t.led;unfold R';split<;>rfl
 .rfl
def mw(t:Ng)(es:Array (Int×ei))(n:Nat):(Sf t es n).2.1.led=t.led:=by
 unfold Sf;split
 .rename_i t' b a;have:t'.led=t.led:=by
   unfold TF Uw at a;cases c:Sz (R7 n - 1) (es.map (·.1)) with
   |none=>rw[c]at a;cases a
   |some o=>rw[c]at a;cases a;rfl
  dsimp only
  split
  .show this
  .rfl
 .rfl
def jk(t:Ng)(es:Array (Int×ei))(n:Nat)(h:t.plain=c2):(Sf t es n).2.1.plain=c2:=by
 unfold Sf;split
 .rename_i t' b a;have:t'.plain=t.plain:=by
   unfold TF Uw at a;cases c:Sz (R7 n - 1) (es.map (·.1)) with
   |none=>rw[c]at a;cases a
   |some o=>rw[c]at a;cases a;rfl
  dsimp only
  split
  .rw[this];show h
  .rfl
 .rfl
def fJ(h:l.Perm (L.map λp=>((sK prog w).hash p.1,wh p.1 p.2))):∃a:List (Str×Tok),l=a.map (λp=>((sK prog w).hash p.1,wh p.1 p.2))/\a.Perm L:=by
 have all:∀e∈l,∃p:Str×Tok,e=((sK prog w).hash p.1,wh p.1 p.2):=λe b=>by
  obtain⟨p,_,rfl⟩:=l0.mp (h.mem_iff.mp b);show⟨p,rfl⟩
 have ex:∀l:List (Int×ei),(∀e∈l,∃p:Str×Tok,e=((sK prog w).hash p.1,wh p.1 p.2))->∃a:List (Str×Tok),l=a.map (λp=>((sK prog w).hash p.1,wh p.1 p.2)):=by
  intro l;induction l with
  |nil=>intro _;show⟨[],rfl⟩
  |cons e l d =>
   intro c;have⟨p,rfl⟩:=c e kl;have⟨a,rfl⟩:=d λe b=>c e (la _ b);show⟨p::a,rfl⟩
 have⟨a,rfl⟩:=ex l all;show⟨a,rfl,?_⟩;have g:(a.map λp=>((sK prog w).hash p.1,wh p.1 p.2)).map (λe=>match e.2 with|.str x t=>(x,t)|_=>(tr,0))=a:=by
  rw[ro];show PF _
 have f:(L.map λp=>((sK prog w).hash p.1,wh p.1 p.2)).map (λe=>match e.2 with|.str x t=>(x,t)|_=>(tr,0))=L:=by
  rw[ro];show PF _
 have:=h.map (λe=>match e.2 with|.str x t=>(x,t)|_=>(tr,0));rw[g,f]at this;show this
theorem pe(hS:et prog w s.heap a led D)(Ji:D.length+1<Iu)
    (h:∀h',H8 a s.heap h'->et prog w h' a led (if x∈D then D else D++[x])->Q (dV (x∉D)) {s with heap:=h' }) :
    hA (hW prog w) A (setAddHashed a (.str x tk) ((sK prog w).hash x)) Q E s:=by
  obtain⟨L,es,ep,t,ho,ID,F8,FU,hf,hb,HN,Gq⟩:=hS;have NQ:(sK prog w).is x (.str x tk)=bD:=by rw[qE];simp
  have Mn:ElemsOf (sK prog w) es.toList:=by rw[ID];exact uI
  have hlen:es.size=D.length:=by rw[<-my,ID,d3,<-d3 (f:=Prod.fst) (as:=L),F8.length_eq]
  unfold setAddHashed setAddHashedIn;refine va (cc (x3 ho rfl hf ?_))
  dsimp only
  rw[byScan_of (knd:=sK prog w) rfl hb Mn];simp only[↓reduceIte];unfold setAddByScan;refine cc ?_;refine cc (ND ?_);refine cc (wpAny_setScan_of (knd:=sK prog w) NQ ho rfl hf Mn ?_);have mem_iff:(∃e∈es.toList,(sK prog w).is x e.2=bD)↔x∈D:=by
    rw[ID,<-F8.mem_iff,l0];constructor
    · rintro⟨e,he,hi⟩
      obtain⟨p,hp,rfl⟩:=l0.mp he;rw[qE,Wo]at hi;exact⟨p,hp,hi.symm⟩
    · rintro⟨p,hp,e⟩
      exact⟨_,l0.mpr ⟨p,hp,rfl⟩,by rw[qE];simp[e]⟩
  cases hr:Vz (λe=>(sK prog w).is x e.2) es.toList with
  | some j =>
    dsimp only
    obtain⟨hj,Rq,_⟩:=List.findIdx?_eq_some_iff_getElem.mp hr;have hx:x∈D:=mem_iff.mp ⟨es.toList[j],G_ hj,Rq⟩;refine eL (eL ?_);have e:s={s with heap:=s.heap}:=by cases s;rfl
    have:=h s.heap (Q4 a s.heap) (by rw[Wq hx];exact⟨L,es,ep,t,ho,ID,F8,FU,hf,hb,HN,Gq⟩);rw[Wr (λz=>z hx)]at this;rw[e];exact this
  | none =>
    dsimp only
    have hx:x∉D:=λhx=>by
      obtain⟨e,he,hp⟩:=mem_iff.mpr hx;have:=List.findIdx?_eq_none_iff.mp hr e he;rw[hp]at this;exact UX this
    have Rr:∀(b:Bool) {s₁:hH} {Q':Unit->hH->Prop},Q' () s₁->hA (hW prog w) A (match b with|true=>V8 "set.scan.the-table-gave-way"|false=>pure ()) Q' E s₁ :=
      λb s₁ Q' hq=>by cases b<;>first|exact eL hq|exact ND hq
    have K9:=layNew_perm t es ((sK prog w).hash x) (.str x tk);have Hk:=layNew_fits t es ((sK prog w).hash x) (.str x tk);have Ht:=pd t es ((sK prog w).hash x) (.str x tk);generalize hL:layNew t es ((sK prog w).hash x) (.str x tk)=NL at K9 Hk Ht ⊢;obtain⟨FD,t1,HP,Rt⟩:=NL
    dsimp only at K9 Hk Ht ⊢
    rw[Uq,ID,show [((sK prog w).hash x,wh x tk)]=[(x,tk)].map (λp=>((sK prog w).hash p.1,wh p.1 p.2)) from rfl,<-mA]at K9;obtain⟨L1,e1,Ru⟩:=fJ K9;have JH:FD.size=D.length+1:=by rw[<-my,K9.length_eq,d3,ke,<-hlen,<-my,ID,d3];rfl
    have Pt:FD.size<Iu:=by lia
    have Jj:(L1.map (·.1)).Perm (D++[x]):=(Ru.map _).trans (by rw[mA];exact F8.append_right _);have Pu:(D++[x]).Nodup:=by
      rw[wk]
      exact ⟨FU, by simp, fun y hy z hz => by have : z = x := by simpa using hz
                                              subst this;rintro rfl;exact hx hy⟩
    refine cc (Rr _ ?_);have K_:∀h',H8 a s.heap h'->et prog w h' a led (D++[x])->Q bD {s with heap:=h' }:=λh' sb hs=>by
      have:=h h' sb (by rw[Ws hx];exact hs);rw[Wt hx]at this;exact this
    have tail:∀(g:Bool->Sem Unit),(∀(b:Bool) (s₁:hH) (Q':Unit->hH->Prop),Q' () s₁->hA (hW prog w) A (g b) Q' E s₁)->∀(R:Option Bool->hH->Prop),(∀h',H8 a s.heap h'->et prog w h' a led (D++[x])->R (a5 bD) {s with heap:=h' })->∀t2:Ng,t2.fits FD.size=bD->t2.led=led->t2.plain=c2->hA (hW prog w) A (do
        storeSet a FD t2
        if (!HP&&t2.tooFull)=true then do
            g (relayAll t2 FD (SetTable.grown FD.size)).2.2
            storeSet a (relayAll t2 FD (SetTable.grown FD.size)).1 (relayAll t2 FD (SetTable.grown FD.size)).2.1
            pure (some true)
          else pure (a5 bD)) R E s:=by
      intro g hg R hR t2 Rv Hu IE;refine cc (VB ho rfl ?_ (VH Pt));have K':(s.heap.update a (Nt FD t2)).get? a=a5 {cls:=.type "set",dict:=b5,data:=.set FD (ep+1) t2}:=by
        have:=u7 (Nt FD t2) ho rfl;exact this
      have La:=JC s.heap a (Nt FD t2);split
      · have hp:=relayAll_perm t2 FD (Lr FD.size)
        have NR:=relayAll_fits t2 FD (Lr FD.size);have NS:=mw t2 FD (Lr FD.size);have NT:=jk t2 FD (Lr FD.size) IE;generalize T2:Sf t2 FD (Lr FD.size)=Rl at hp NR NS NT ⊢;obtain⟨Jk,t3,Pw⟩:=Rl
        dsimp only at hp NR NS NT ⊢
        rw[e1]at hp;obtain⟨L2,e2,Rw⟩:=fJ hp;have hsz:Jk.size=FD.size:=by rw[<-my,hp.length_eq,<-e1,my]
        refine cc (hg _ _ _ ?_);refine cc (VB K' rfl ?_ (VH ⋯));have JI:((s.heap.update a (Nt FD t2)).update a (Nt Jk t3)).get? a=a5 {cls:=.type "set",dict:=b5,data:=.set Jk (ep+1+1) t3}:=u7 (Nt Jk t3) K' rfl;refine eL (hR _ (La.trans (JC _ a _)) ⟨L2,Jk,_,t3,JI,e2,(Rw.map _).trans Jj,Pu,NR,⋯,NS.trans Hu,.inr NT⟩)
      · exact eL (hR _ La ⟨L1,FD,_,t2,K',e1,Jj,Pu,Rv,Pt,Hu,.inr IE⟩)
    split
    · rename_i hp
      refine cc ?_;rw[hashByValue_scannable 8 rfl];refine eL ?_;have ep:(if plainKind (wh x tk)=bD then t1 else {t1 with plain:=c2})={t1 with plain:=c2}:=rfl;rw[ep];refine tail _ ?_ _ ?_ {t1 with plain:=c2} (SetTable.fits_plain_off Hk) (Ht.trans HN) rfl
      · intro b s₁ Q' hq;cases b<;>first|exact eL hq|exact ND hq
      · intro h' Ii Gr;dsimp only;exact eL (K_ h' Ii Gr)
    · rename_i hp
      refine cc (eL ?_);simp only[↓reduceIte];refine tail _ ?_ _ ?_ t1 Hk (Ht.trans HN) (Bool.eq_false_iff.mpr hp)
      · intro b s₁ Q' hq;cases b<;>first|exact eL hq|exact ND hq
      · intro h' Ii Gr;dsimp only;exact eL (K_ h' Ii Gr)
end
abbrev iJ(D:List Str)(x:Str):List Str:=if x∈D then D else D++[x]
abbrev aI(l:List Str):List Str:=l.foldl iJ []
theorem pf(h:D.Nodup):(iJ D x).Nodup:=by
  unfold iJ;split
  · exact h
  · rename_i hx
    rw[wk]
    exact ⟨h, by simp, fun y hy z hz => by have : z = x := by simpa using hz
                                           subst this;rintro rfl;exact hx hy⟩
theorem dW:∀(l D:List Str),D.Nodup->(l.foldl iJ D).Nodup/\(∀x,x∈l.foldl iJ D↔x∈D\/x∈l)/\(l.foldl iJ D).length<=D.length+l.length
 |[],D,h=>⟨h,by simp,by simp⟩
 |y::l,D,h=>by
  have⟨a,b,f⟩:=dW l (iJ D y) (pf h);have c:∀x,x∈iJ D y↔x∈D\/x=y:=λx=>by
   unfold iJ;split
   .rename_i d;show⟨.inl,λz=>z.elim id (λe=>e▸d)⟩
   .simp
  have hl:(iJ D y).length<=D.length+1:=by
   unfold iJ;split
   .lia
   .simp
  show⟨a,λx=>?_,by rw[PU,mu];lia⟩;rw[PU,b,c,gs,or_assoc]
def dX(l:List Str):(aI l).Nodup:=(dW l [] NC).1
def fK(l:List Str)(x:Str):x∈aI l↔x∈l:=by rw[aI,(dW l [] NC).2.1];simp
def ph(l:List Str):(aI l).length<=l.length:=by have:=(dW l [] NC).2.2;simpa[aI] using this
def nH(l:List Str)(x:Str):aI (l++[x])=iJ (aI l) x:=by unfold aI;rw[List.foldl_append];rfl
section
variable{prog:vr}{w:x8}{A:K2}{R:Result->hH->Prop}{I:fS}{fp wr:List fS}{G:Array U4->Array U4->Prop}{n:Nat}{P:Nat->ei->Prop}{St:Nat->hH->Prop}
def gT(W:Vr prog w A.in1 I fp wr G n P St)(S:fS)(l:S∉fp)(a:Bool)
  (ys:List Str) (hn:ys.length=n) (u:∀i v,P i v->∃x t,ys[i]?=a5 x/\v=.str x t) (c:n+1<Iu) :
  ∀(k i:Nat) (s:hH),n - i=k->i<=n->St i s->et prog w s.heap S a (aI (ys.take i)) ->
   (∀s',Moved (S::wr) G s s'->et prog w s'.heap S a (aI ys)->R (.ok (.ret .none)) s') ->
   LW (hW prog w) A (.builtin "set.update.loop" ⟨[.ref S,.ref I],[]⟩) R s:=by
 have m:S∉wr:=λh=>l (W.sub _ h);have p:∀b∈wr,b∈S::wr:=λb c=>la _ c;intro k;induction k with
 |zero =>
  intro i s hk y g f j;have z:i=n:=by lia
  subst z;show z9 M1 ?_;rw[D2 JA _];change hA _ A.in1 (Oz (.ref I) >>= _) _ _ s;show cc (W.done s _ _ g λs' d=>?_);change hA _ A.in1 (ret oT) _ _ s';rw[Np ⋯]at f;show eL (j s' (d.mono p) (by
   have⟨L,es,ep,t,ho,rest⟩:=f;show⟨L,es,ep,t,d.heap S _ m ho,rest⟩))
 |succ k B =>
  intro i s hk y g f j;have q:i<n:=by lia
  show z9 M1 ?_;rw[D2 JA _];change hA _ A.in1 (Oz (.ref I) >>= _) _ _ s;show cc (W.item i s _ _ q g λv s' C D d=>?_);have⟨x,t,H,rfl⟩:=u i v C;have J:et prog w s'.heap S a (aI (ys.take i)):=by
   have⟨L,es,ep,N,ho,rest⟩:=f;show⟨L,es,ep,N,d.heap S _ m ho,rest⟩
  change hA _ A.in1 (Jb [wh x t] (setAdd S (.str x t)) >>= _) _ _ s';show cc (va ?_);unfold setAdd;show va ?_;show cc ((sK prog w).pyHash (k:=x) (by rw[qE];simp) ?_);have O:(aI (ys.take i)).length+1<Iu:=by have:=ph (ys.take i);rw[ve]at this;lia
  show pe (s:={s' with toks:=s'.toks+1}) J O λh' r Q=>?_;have T:et prog w h' S a (aI (ys.take (i+1))):=by
   rw[List.take_add_one,H];change et prog w h' S a (aI (ys.take i++[x]));rw[nH];show Q
  show eL ⟨KW JA _,B (i+1) _ ⋯ q (W.frame _ s' _ _ D (Jy _) λb c o e=>?_) T λY NV NW=>?_⟩
  .rw[r.2 b (λh:b=S=>l (by rw[<-h];show c))];show e
  .show j Y (VM W.gtrans ((d.mono p).then_heap (Jy _) λb o c e=>?_) NV) NW;rw[r.2 b (λh:b=S=>c (by rw[h];show kl))];show e
end
section
def kh(a:ei)
  (h:Q₁ (.ref s.heap.objs.size) {s with heap:=s.heap.push {cls:=.type "set",dict:=b5,data:=.set #[] 0 (.fresh 0 0 (!w.params.followText "set-order"))}}) :
  LW (hW prog w) A (.call (.builtin "set.__new__") ⟨[.type "set",a],[]⟩) (wants Q₁ E) s:=by
 show VZ ?_;change hA _ A.in1 (do checkBuiltinCall "set.__new__" ⟨[.type "set",a],[]⟩;Wf (.builtin "set.__new__" ⟨[.type "set",a],[]⟩)) _ _ s;show cc (UY (PySem.F.newCall_set_1 a) (eL ⟨KW PySem.F.plain_set_new _,z9 PySem.F.entry_set_new ?_⟩));rw[D2 PySem.F.plain_set_new _];unfold J6.«set.__new__» U9;have b:=sub_set_self;have⟨c,g,d,e,os⟩:=s
 dsimp only
 wp_walk
 show QW (eL ?_)
 dsimp only
 simp only[newObj];show cc (wpAny_alloc (eL ?_));show eL h
def pj(c:h.get? a=a5 {cls:=.type "set",dict:=b5,data:=.set #[] 0 (.fresh 0 0 b)}):et prog w h a b [] :=
 ⟨[],#[],0,_,c,rfl,.nil,NC,rfl,by unfold Iu;decide,rfl,.inl rfl⟩
end
def sub_tuple_set:Le (.type "tuple") (.type "set")=pure c2:=by rw[x6];kernel_rfl
def sub_tuple_frozenset:Le (.type "tuple") (.type "frozenset")=pure c2:=by rw[x6];kernel_rfl
section
@[reducible]def cT(w:x8):Bool:=!w.params.followText "set-order"
@[reducible]def pk(a:Bool):Obj:={cls:=.type "set",dict:=b5,data:=.set #[] 0 (.fresh 0 0 a)}
def gu
  (J:s.TypeIs (.ref l) T) (Rz:Le (.type T) (.type "set")=pure c2) (RA:Le (.type T) (.type "frozenset")=pure c2) (F9:(td T==td "dict")=c2)
  (L:ys.length+1<Iu)
  (j:∀(s1:hH) (B:K2) (Q':ei->hH->Prop),B.handled=A.handled->(∀b o,s.heap.get? b=a5 o->s1.heap.get? b=a5 o)->s.heap.objs.size<s1.heap.objs.size ->
   (∀I k m G P St a,Vr prog w B.in1 I k m G ys.length P St->(∀g g',G g g'->g'=g)->s.heap.objs.size∉k->(∀b∈m,s.heap.objs.size<b)->(∀i v,P i v->∃x t,ys[i]?=a5 x/\v=.str x t)->St 0 {s1 with heap:=a}->(∀b o,s1.heap.get? b=a5 o->a.get? b=a5 o)->Q' (.ref I) {s1 with heap:=a})->hA (hW prog w) B (Sg (.ref l)) Q' E s1)
  (h:∀(h':Gz) (d:Nat),et prog w h' s.heap.objs.size (cT w) (aI ys)->(∀b o,b<s.heap.objs.size->s.heap.get? b=a5 o->h'.get? b=a5 o)->Q (.ref s.heap.objs.size) {s with heap:=h',toks:=d}) :
  hA (hW prog w) A (KS (.type "set") [.ref l]) Q E s:=by
 have⟨c,tl,RB⟩:=PySem.F.called_set.mro;have Py:=PySem.F.called_set.made;have IF:=PySem.F.called_set.sub;show wpAny_call (VZ ?_);change hA _ _ (callAny (.type "set") _) _ _ _;show eL ⟨Uh _ (by decide +kernel),z9 PySem.F.entry_type_call ?_⟩;rw[Around.under_plain (weight_type_call_type "set" [.ref l] []) rfl];have a:=PySem.F.called_set.notType;have h2:=PySem.F.called_set.canCreate;have T3:=PySem.F.typeCall_set_1 (.ref l)
 repeat (any_goals (first|assumption|wp_step))
 show NX (kh (.ref l) (E:=E) (Q₁:=λobj y=>obj=.ref s.heap.objs.size/\y={s with heap:=s.heap.push (pk (cT w))}) ⟨rfl,rfl⟩) λr y n=>?_;cases r with
 |error e=>show n
 |ok N =>
  cases N with
  |ret obj =>
   have⟨rfl,rfl⟩:=n;have C:(s.heap.push (pk (cT w))).get? s.heap.objs.size=a5 (pk (cT w)):=hh _ rfl;have O:MS {s with heap:=s.heap.push (pk (cT w))} (.ref s.heap.objs.size) "set":=⟨_,C,rfl⟩
   have T4:=PySem.F.called_set.init.lookup;have T5:=PySem.F.called_set.init.bind (.ref s.heap.objs.size)
   repeat (any_goals (first|assumption|wp_step))
   show NX (codeAny_call_builtin (R:=wants (λr D=>r=.none/\∃h' d,D={s with heap:=h',toks:=d} /\
     et prog w h' s.heap.objs.size (cT w) (aI ys) /\
     (∀b o,b<s.heap.objs.size->s.heap.get? b=a5 o->h'.get? b=a5 o)) E) PySem.F.called_set.init.plain PySem.F.entry_set_init (check_set_init_1 O ?_)) λY D p=>?_
   .have⟨ol,RC,H⟩:=J;have⟨RE,Lb,Lc,JK⟩:=ol;simp only at H;subst H;have NY:(s.heap.push (pk (cT w))).get? l=a5 {cls:=.type T,dict:=Lb,data:=Lc,slots:=JK}:=c4 _ RC;have T6:MS {s with heap:=s.heap.push (pk (cT w))} (.ref l) T:=⟨_,NY,rfl⟩
    unfold J6.«set.__init__» noKeywords U6;generalize RF:Sg=PI
    wp_walk
    subst RF;show j {s with heap:=s.heap.push (pk (cT w))} _ _ rfl (λb o e=>c4 _ e) (by rw[GR];show Kl _) λI k m G P St a W hG hf RG JJ E5 hk=>?_;show cc (Sd ?_);show gT W s.heap.objs.size hf (cT w) ys rfl JJ L (ys.length - 0) 0 _ ⋯ (kj _) E5 (pj (hk _ _ C)) ?_;intro s' f q;have⟨h',g',d',RH,Nh⟩:=s';have eg:g'=s.gens:=hG _ _ f.gens;have ed:d'=s.drawn:=f.drawn;have eo:Nh=s.os:=f.os;subst eg;subst ed;subst eo;change hA _ _ _ _ _ _;show eL ?_;change hA _ _ (ret oT) _ _ _;show eL ⟨rfl,h',RH,rfl,q,λb o u e=>?_⟩;show f.heap b o (λz=>by
     rcases gs.mp z with z|z
     .rw[z]at u;show rb _ u
     .show absurd (RG b z) (Vc u)) (hk _ _ (c4 _ e))
   .cases Y with
    |error e=>show p
    |ok RI =>
     cases RI with
     |ret r =>
      have⟨rfl,h',d,rfl,q,Ft⟩:=p
      repeat (any_goals (first|assumption|wp_step))
      show h _ _ q Ft
     |_=>show p.elim
  |_=>show n.elim
end
section
theorem mz:∀{vs:List ei}{a:List Str},StrsAre vs a->∀(i:Nat) (v:ei),vs[i]?=a5 v->∃x t,a[i]?=a5 x/\v=.str x t
 |_,_,.nil,i,v,h=>by simp at h
 |_,_,.cons x t h,0,v,e=>by simp at e;show⟨x,t,rfl,e.symm⟩
 |_,_,.cons x t h,i+1,v,e=>by rw[Nk]at e;rw[Nk];show mz h i v e
theorem gv:∀{vs:List ei}{a:List Str},StrsAre vs a->vs.length=a.length
 |_,_,.nil=>rfl
 |_,_,.cons x t h=>by simp[gv h]
def qF(a:n≠S)(b:n≠l):n∉[S,l]:=by simp[a,b]
def jl(g:A.handled=b5)(hl:s.heap.IsList l vs.toArray)(d:StrsAre vs ys)(a:ys.length+1<Iu)
  (h:∀(h':Gz) (j:Nat),et prog w h' s.heap.objs.size (cT w) (aI ys)->(∀b o,b<s.heap.objs.size->s.heap.get? b=a5 o->h'.get? b=a5 o)->Q (.ref s.heap.objs.size) {s with heap:=h',toks:=j}) :
  hA (hW prog w) A (KS (.type "set") [.ref l]) Q E s:=by
 have f:l<s.heap.objs.size:=let ⟨o,ho,_⟩:=hl;hQ ho;show gu hl.typeIs PySem.F.sub_list_set PySem.F.sub_list_frozenset (by decide) a (λs1 B Q' k hk c m=>?_) h;have Ht:s1.heap.IsList l vs.toArray:=let ⟨o,ho,r⟩:=hl;⟨o,hk _ _ ho,r⟩;show P_ Ht ?_;have n:l≠s1.heap.objs.size:=i2 (O1 f c);have W:=(VT (prog:=prog) (w:=w) (A:=B.in1) (by simp[k,g]) s1.heap.objs.size l n vs.toArray).toS;have p:vs.toArray.size=ys.length:=by simp[gv d]
 rw[p]at W;show m _ _ _ _ _ _ _ W (λ_ _ e=>e) (qF (i2 c) (Ib f)) (λb a=>by rw[js.mp a];show c) (λi v q=>mz d i v (by simpa using q)) ⟨⟨_,hh _ rfl,rfl,rfl⟩,Ht.push _⟩ λb o e=>c4 _ e
def km(g:A.handled=b5)(hl:s.heap.IsTuple l vs.toArray)(d:StrsAre vs ys)(a:ys.length+1<Iu)
  (h:∀(h':Gz) (j:Nat),et prog w h' s.heap.objs.size (cT w) (aI ys)->(∀b o,b<s.heap.objs.size->s.heap.get? b=a5 o->h'.get? b=a5 o)->Q (.ref s.heap.objs.size) {s with heap:=h',toks:=j}) :
  hA (hW prog w) A (KS (.type "set") [.ref l]) Q E s:=by
 have f:l<s.heap.objs.size:=let ⟨o,ho,_⟩:=hl;hQ ho;show gu hl.typeIs sub_tuple_set sub_tuple_frozenset (by decide) a (λs1 B Q' k hk c m=>?_) h;have Ht:s1.heap.IsTuple l vs.toArray:=let ⟨o,ho,r⟩:=hl;⟨o,hk _ _ ho,r⟩;show Vl Ht ?_;have n:l≠s1.heap.objs.size:=i2 (O1 f c);have W:=(Walks.tuple (prog:=prog) (w:=w) (A:=B.in1) (by simp[k,g]) s1.heap.objs.size l n vs.toArray).toS;have p:vs.toArray.size=ys.length:=by simp[gv d]
 rw[p]at W;show m _ _ _ _ _ _ _ W (λ_ _ e=>e) (qF (i2 c) (Ib f)) (λb a=>by rw[js.mp a];show c) (λi v q=>mz d i v (by simpa using q)) ⟨⟨_,hh _ rfl,rfl,rfl⟩,let ⟨o,ho,r⟩:=Ht;⟨o,c4 _ ho,r⟩⟩ λb o e=>c4 _ e
def mB(a:n≠0)(h:∀i<n,Q i {s with drawn:=s.drawn.bump src}):hA M A (choose src n) Q E s:=λΓ p b=>by
 change Sem.wp M Γ (.choose src n .pure) _ _ p s;rw[Sem.wp_choose];show⟨a,h _ (Wn _ (Nat.pos_of_ne_zero a))⟩
theorem fL:∀{xs:List α}{i:Nat}{x:α},xs[i]?=a5 x->(x::xs.eraseIdx i).Perm xs
 |[],i,x,h=>by simp at h
 |y::ys,0,x,h=>by simp at h;subst h;show .refl _
 |y::ys,i+1,x,h=>by
  rw[Nk]at h;rw[RX];show(List.Perm.swap y x _).trans ((fL h).cons y)
theorem fy:∀(n:Nat) (xs:List α) (s:hH) (Q:List α->hH->Prop),xs.length=n->(∀ys d,ys.Perm xs->Q ys {s with drawn:=d})->hA M A (drawOrder n xs) Q E s
 |0,xs,s,Q,a,h=>by
  have:xs=[]:=RW.mp a;subst this;show eL (h [] s.drawn (.refl _))
 |n+1,[],s,Q,a,h=>by simp at a
 |n+1,y::ys,s,Q,a,h=>by
  change hA M A (choose .order (y::ys).length >>= _) Q E s;show cc (mB (by simp) λi b=>?_);have e:(y::ys)[i]?=a5 ((y::ys)[i]'b):=tj b;have c:=fL e;generalize (y::ys)[i]'b=x at e c;simp only[e];show cc (fy n _ _ _ (by have:=c.length_eq;simp at this a ⊢;lia) λf d hz=>?_);show eL (h (x::f) d ((hz.cons x).trans c))
theorem iA(next:Nat->Nat):∀(fuel k:Nat) (left:List α) (out:Array α),left.length=fuel->(Qx next fuel k left out).toList.Perm (out.toList++left)
 |0,k,left,out,hl=>by
  have:left=[]:=RW.mp hl;subst this;simp[Qx]
 |fuel+1,k,left,out,hl=>by
  unfold Qx;have a:next k % left.length<left.length:=Wn _ ⋯;have e:left[next k % left.length]?=a5 (left[next k % left.length]'a):=tj a;have b:=fL e;generalize left[next k % left.length]'a=x at e b;simp only[e];show(iA next fuel _ _ _ (by have:=b.length_eq;simp at this;lia)).trans ?_;rw[Uq,List.append_assoc];show(b.append_left _)
def eJ(next:Nat->Nat)(xs:Array α):(QY next xs).toList.Perm xs.toList:=by
 have:=iA next xs.size 0 xs.toList #[] (by simp);simpa[QY] using this
end
namespace SI
def nI:Manifest.owners.lookup (String.ofList ['r','o','t','a','r','e','t','i','_','t','e','s'].reverse)=a5 Manifest.sig_set_iterator:=by kernel_rfl
def slot_next:Slot "set_iterator" "__next__" "set_iterator.__next__" :=
 .of (owner:="set_iterator") (n:="__next__") (by rw[MC,J4];kernel_rfl) (by decide +kernel) (by decide +kernel) (by decide +kernel)
  (by first|show .inl (by decide +kernel)|show .inr (by decide +kernel)) (by rw[x6];kernel_rfl)
def entry_next:Wb table "set_iterator.__next__"=a5 J6.«set_iterator.__next__»:=entryFor_of_tree (by kernel_rfl)
def args_next(a:ei):We "set_iterator.__next__" ⟨[a],[]⟩:=by
 unfold We;rw[signature?_of (id:="set_iterator.__next__") (n:=['_','_','t','x','e','n','_','_']) (o:=['r','o','t','a','r','e','t','i','_','t','e','s']) (by kernel_rfl) nI];kernel_rfl
def kR:Slot "set_iterator" "__iter__" "set_iterator.__iter__" :=
 .of (owner:="set_iterator") (n:="__iter__") (by rw[MC,J4];kernel_rfl) (by decide +kernel) (by decide +kernel) (by decide +kernel)
  (by first|show .inl (by decide +kernel)|show .inr (by decide +kernel)) (by rw[x6];kernel_rfl)
def sA(a:ei):We "set_iterator.__iter__" ⟨[a],[]⟩:=by
 unfold We;rw[signature?_of (id:="set_iterator.__iter__") (n:=['_','_','r','e','t','i','_','_']) (o:=['r','o','t','a','r','e','t','i','_','t','e','s']) (by kernel_rfl) nI];kernel_rfl
def pq:Wb table "set_iterator.__iter__"=a5 J6.«dict_keyiterator.__iter__» :=
 Wa (id':="dict_keyiterator.__iter__") (by kernel_rfl) (by first|rfl|decide +kernel|(unfold String.splitOn;simp +decide [String.splitOnAux])) (by decide +kernel) (by kernel_rfl)
def jm:Wb table "set.__iter__"=a5 J6.«frozenset.__iter__» :=
 Wa (id':="frozenset.__iter__") (by kernel_rfl) rfl (by decide +kernel) (by kernel_rfl)
end SI
section
variable{prog:vr}{w:x8}{A:K2}{E:ei->hH->Prop}{s:hH}
abbrev fM(h:Gz)(I:fS)(first:ei)(i:Nat)(S:fS)(n ep:Nat):Prop:=∃o,h.get? I=a5 o/\o.cls=.type "set_iterator"/\o.data=.fields #[first,u5 i,.ref S,u5 n,u5 ep]
def fM.typeIs(x:fM s.heap I f i S n ep):s.TypeIs (.ref I) "set_iterator":=let ⟨o,ho,a,_⟩:=x;⟨o,ho,a⟩
def xJ(a:fM s.heap I f i S n ep)(h:Q (.ref I) s):hA (hW prog w) A (Sg (.ref I)) Q E s:=by
 show VC a.typeIs SI.kR (KH SI.kR a.typeIs SI.pq ?_ (SI.sA _));change hA _ _ (ret (.ref I)) _ _ s;show eL ⟨_,rfl,"set_iterator",_,a.typeIs,SI.slot_next.lookup,h⟩
def dY(h:Q (M.w.params.followText "set-order") s):hA M A setsByText Q E s:=by
 unfold setsByText;show cc (QW (eL h))
end
end L2
namespace L2
open PySem PySem.Spec PyProof.Rows
section
variable{prog:vr}{w:x8}{A:K2}{E:ei->hH->Prop}{s:hH}
@[reducible]def mC(es:Array (Int×ei))(ep:Nat)(t:Ng):Obj:={cls:=.type "set",dict:=b5,data:=.set es ep t}
def nJ{I:fS}{B:K2}{Q:Option ei->hH->Prop}{c:Gz}{k:ei->Sem (Option ei)}(d:B.handled=b5)
  (f:∀h',(∀b o,c.get? b=a5 o->h'.get? b=a5 o)->∀e,MS {s with heap:=h' } e "StopIteration"->E e {s with heap:=h' }) {Q':Fin->hH->Prop} :
  hA (hW prog w) B (V_ (.type "StopIteration") [] >>= λe=>(U1 e:Sem Fin)) Q' E {s with heap:=c}:=by
 show cc ?_;simp only[V_,newTuple];show cc (GQ ?_ (by size_fits));show cc (m:=V' _ _) (UY (a:=oT) (by first|rfl|(simp only[V'];rfl)) ?_);show GQ ?_ (by size_fits);simp only[U1];show cc (wpAny_handled ?_);rw[d];show cc (eL (wpAny_throw ?_));show f _ (λb o e=>c4 _ (c4 _ e)) _ ⟨_,hh _ rfl,rfl⟩
def qG{I S:fS}{first:ei}{i ep:Nat}{es:Array (Int×ei)}{t:Ng}(d:fM s.heap I first i S es.size ep)(ho:s.heap.get? S=a5 (mC es ep t))(j:t.fits es.size=bD)
  (k:∀(Q':Fin->hH->Prop) (h:ei->hH->Prop) ,(∀v s',Q (a5 v) s'->Q' (.done (.ret v)) s')->(∀e s',s'.TypeIs e "StopIteration"->Q b5 s'->h e s') ->
   hA (hW prog w) A.in1 (if let .int slot _:=first then(do
     match <-Qs S slot.toNat i ep with
     |some (x,next) =>
      Qv (.ref I) 0 (u5 next)
      Qv (.ref I) 1 (u5 ((i:Int)+1))
      ret x
     |none=>Qv (.ref I) 2 .none;U1 (<-V_ (.type "StopIteration") []))
    else(do
     let a5 c <-seqItems? first|unsupported "internal:set_iterator"
     match c[i]? with
     |some (.int f _) =>
      let x <-Us S f.toNat ep
      Qv (.ref I) 1 (u5 ((i:Int)+1))
      ret x
     |some _=>unsupported "internal:set_iterator"
     |none=>Qv (.ref I) 0 (u5 0);Qv (.ref I) 2 .none;U1 (<-V_ (.type "StopIteration") []))) Q' h s):hA (hW prog w) A (Oz (.ref I)) Q E s:=by
 have⟨o,l,n,m⟩:=id d;unfold Oz;show cc (wpAny_attempt (wpAny_callSpecial?_slot (name:=Sy "__next__") d.typeIs SI.slot_next
  (KH SI.slot_next d.typeIs SI.entry_next ?_ (SI.args_next _))))
 unfold J6.«set_iterator.__next__»;show cc (UY (a:=(i1 I,[])) rfl ?_)
 try dsimp only
 show cc (wpAny_fieldsOf l m ?_)
 try dsimp only
 show cc (Vg ho rfl j ?_);rw[Ws (by simp)];show r6 (k (λg s'=>∃r,g=.done (.ret r)/\Q (a5 r) s') (λe s'=>s'.TypeIs e "StopIteration"/\Q b5 s') (λv s' q=>⟨v,rfl,q⟩) λe s' z q=>⟨z,q⟩) ?_ ?_
 .rintro g s' ⟨r,rfl,q⟩;show⟨r,rfl,eL q⟩
 .rintro e s' ⟨z,q⟩;show cc (QP (T:="StopIteration") (b:=bD) z isSubtype_stop ?_);show eL q
end
section
def qH{I S:fS}{f f':ei}{i n ep:Nat}{h:Gz}{o:Obj}(b:h.get? I=a5 o)(c:o.cls=.type "set_iterator")(a:o.data=.fields #[f,u5 i,.ref S,u5 n,u5 ep]):
  fM (h.update I (VL (·.setIfInBounds 1 (u5 ((i:Int)+1))))) I f (i+1) S n ep :=
 ⟨_,u7 _ b (Tr (MI a _)),(UL ..).trans c,by rw[MI a];simp⟩
def nK{h:Gz}(b:h.get? I=a5 o)(c:o.cls=.type "set_iterator")(a:o.data=.fields #[f,u5 i,.ref S,u5 n,u5 ep]):
  ∃o',(h.update I (VL (·.setIfInBounds 0 f'))).get? I=a5 o'/\o'.cls=.type "set_iterator"/\o'.data=.fields #[f',u5 i,.ref S,u5 n,u5 ep] :=
 ⟨_,u7 _ b (Tr (MI a _)),(UL ..).trans c,by rw[MI a];simp⟩
def uJ{I S:fS}{slot i ep:Nat}{es:Array (Int×ei)}{t:Ng}{Q:Option ei->hH->Prop}(a:fM s.heap I (u5 slot) i S es.size ep)(ho:s.heap.get? S=a5 (mC es ep t))(j:t.fits es.size=bD)(l:A.handled=b5)
  {r:Option (ei×Nat)} (m:∀(B:K2) (f:ei->hH->Prop) (Q':Option (ei×Nat)->hH->Prop),Q' r s->hA (hW prog w) B (Qs S slot i ep) Q' f s)
  (n:∀x nx,r=a5 (x,nx)->∀h',fM h' I (u5 nx) (i+1) S es.size ep->H8 I s.heap h'->Q (a5 x) {s with heap:=h' })
  (q:r=b5->∀h',(∀b o,b≠I->s.heap.get? b=a5 o->h'.get? b=a5 o)->Q b5 {s with heap:=h' }):hA (hW prog w) A (Oz (.ref I)) Q E s:=by
 show qG a ho j λQ' f u v=>?_;have⟨o,c,y,d⟩:=id a;change hA _ _ (Qs S slot i ep >>= _) _ _ s;show cc (m _ _ _ ?_);cases r with
 |some p =>
  have⟨x,nx⟩:=p
  dsimp only
  show cc (Lk c d (by simp) ?_);have⟨o',g,z,h⟩:=nK (f':=u5 nx) c y d;show cc (Lk (s:={s with heap:=_}) g h (by simp) ?_);show eL (u _ _ (n x nx rfl _ (qH (f':=u5 nx) g z h) ((JC ..).trans (JC ..))))
 |none =>
  dsimp only
  show cc (Lk c d (by simp) ?_);show nJ (I:=I) (k:=λ_=>pure b5) (Q:=λ_ _=>True) (s:=s) (by simpa using l) λh' hk e C=>v e _ C (q rfl h' λb D G H=>hk b D ?_);rw[Ky _ _ _ _ G];show H
def AM{I S T:fS}{i ep:Nat}{es:Array (Int×ei)}{t:Ng}{a:List Nat}{Q:Option ei->hH->Prop}(c:fM s.heap I (.ref T) i S es.size ep)(ho:s.heap.get? S=a5 (mC es ep t))(m:t.fits es.size=bD)(r:A.handled=b5)
  (u:s.heap.IsTuple T ((a.map λ(j:Nat)=>u5 j).toArray))
  (v:∀(j:Nat) (e:Int×ei),a[i]?=a5 j->es[j]?=a5 e->∀h',fM h' I (.ref T) (i+1) S es.size ep->H8 I s.heap h'->Q (a5 e.2) {s with heap:=h' })
  (x:∀j∈a,j<es.size)
  (y:a[i]?=b5->∀h',(∀b o,b≠I->s.heap.get? b=a5 o->h'.get? b=a5 o)->Q b5 {s with heap:=h' }):hA (hW prog w) A (Oz (.ref I)) Q E s:=by
 show qG c ho m λQ' O z B=>?_;have⟨o,d,n,f⟩:=id c;have⟨Y,C,T7,nT,D⟩:=u;change hA _ _ (seqItems? (.ref T) >>= _) _ _ s;show cc (V6 C D ?_);cases e:a[i]? with
 |some j =>
  have g:(a.map λ(j:Nat)=>u5 j).toArray[i]?=a5 (u5 j):=by simp[e]
  simp only[g];have h:j<es.size:=x j (sx e);have l:es[j]?=a5 (es[j]'h):=by simp[h]
  change hA _ _ (Us S (j:Int).toNat ep >>= _) _ _ s;unfold Us;rw[UW];show cc (cc (x3 ho rfl m ?_))
  dsimp only
  rw[Ws (by simp)];generalize es[j]'h=p at l;simp only[l];show eL ?_;show cc (Lk d f (by simp) ?_);show eL (z _ _ (v j p e l _ (qH (f':=.ref T) d n f) (JC ..)))
 |none =>
  have g:(a.map λ(j:Nat)=>u5 j).toArray[i]?=b5:=by simp at e ⊢;show e
  simp only[g];show cc (Lk d f (by simp) ?_);have⟨o',G,e2,H⟩:=nK (f':=u5 0) d n f;show cc (Lk (s:={s with heap:=_}) G H (by simp) ?_);show nJ (I:=I) (k:=λ_=>pure b5) (Q:=λ_ _=>True) (s:=s) (by simpa using r) λh' hk ex J=>B ex _ J (y e h' λb L q N=>hk b L ?_);rw[Ky _ _ _ _ q,Ky _ _ _ _ q];show N
end
section
def fM.at(x:fM h I f i S n ep)(e:∀o,h.get? I=a5 o->h'.get? I=a5 o):fM h' I f i S n ep:=let ⟨o,ho,r⟩:=x;⟨o,e _ ho,r⟩
def jn(r:A.handled=b5)(n:S≠I)(u:t.fits es.size=bD)(T:fS)(p:T≠I)(c:List ei)(k:c.length=es.size)
  (first:Nat->ei) (a:Gz->Prop) (l:∀h h',a h->(∀o,h.get? T=a5 o->h'.get? T=a5 o)->a h')
  (m:∀(s:hH) (i:Nat) (E:ei->hH->Prop) (Q:Option ei->hH->Prop),i<=es.size->a s.heap->fM s.heap I (first i) i S es.size ep->s.heap.get? S=a5 (mC es ep t) ->
   (∀x,c[i]?=a5 x->∀h',fM h' I (first (i+1)) (i+1) S es.size ep->H8 I s.heap h'->Q (a5 x) {s with heap:=h' }) ->
   (c[i]?=b5->∀h',(∀b o,b≠I->s.heap.get? b=a5 o->h'.get? b=a5 o)->Q b5 {s with heap:=h' })->hA (hW prog w) A (Oz (.ref I)) Q E s) :
  Walks prog w A I [I,S,T] [I] es.size (λi v=>c[i]?=a5 v) (λi h=>i<=es.size/\fM h I (first i) i S es.size ep/\h.get? S=a5 (mC es ep t)/\a h) where
 sub:=λb d=>by rw[js.mp d];simp
 frame:=λi h h' x hk=>⟨x.1,x.2.1.at λo e=>hk I (by simp) o e,hk S (by simp) _ x.2.2.1,l h h' x.2.2.2 λo e=>hk T (by simp) o e⟩
 item:=λi s Q E q x f=>by
  show m s i E Q x.1 x.2.2.2 x.2.1 x.2.2.1 (λv g h' j hs=>?_) λz=>absurd z (by simp;lia);show f v h' s.toks g ⟨q,j,?_,l _ h' x.2.2.2 λo e=>?_⟩ λb o d e=>?_
  .rw[hs.2 S n];show x.2.2.1
  .rw[hs.2 T p];show e
  .rw[hs.2 b λz=>d (by simp[z])];show e
 done:=λs Q E x f=>by
  show m s es.size E Q x.1 x.2.2.2 x.2.1 x.2.2.1 (λv g=>absurd g (by rw[HR ⋯];simp)) λ_ h' hk=>f h' s.toks λb o d e=>hk b o (λz=>d (by simp[z])) e
 self:=λi s Q E x f=>xJ x.2.1 f
def mD(ho:s.heap.get? S=a5 (mC es ep t))(a:t.fits es.size=bD)(h:Q (!w.params.followText "set-order"&&(!t.plain&&dV (es.size>1))) s):hA (hW prog w) A (setDrawn S) Q E s:=by
 unfold setDrawn;show cc (x3 ho rfl a ?_)
 dsimp only
 show cc (dY (eL h))
def mE(a:w.params.followText "set-order"=bD)(ho:s.heap.get? S=a5 (mC es ep t))(b:t.fits es.size=bD)
  (h:Q ((QY (w.params.setOrder S ep) es)[i]?.map λe=>(e.2,0)) s):hA (hW prog w) A (Qs S 0 i ep) Q E s:=by
 unfold Qs;show cc (x3 ho rfl b ?_)
 dsimp only
 show cc (dY ?_);change hA _ _ (if (w.params.followText "set-order")=bD then _ else _) _ _ s;rw[Wq a];rw[Ws (by simp)];unfold setWalk;show cc (cc (x3 ho rfl b ?_))
 dsimp only
 show cc (dY ?_);change hA _ _ (if (w.params.followText "set-order")=bD then _ else _) _ _ s;rw[Wq a];show cc (QW (eL ?_));show eL h
theorem nL(hw:w.params.followText "set-order"=c2)(ho:s.heap.get? S=a5 (mC es ep t))(hf:t.fits es.size=bD)(hl:t.led=bD)(h1:es.size<=1)
    (h:Q (match es[Ig t.place slot]?,t.place[Ig t.place slot]? with|some (_,x),a5 j=>a5 (x,j+1)|_,_=>b5) s):hA (hW prog w) A (Qs S slot i ep) Q E s:=by
  unfold Qs;refine cc (x3 ho rfl hf ?_)
  dsimp only
  refine cc (dY ?_);show hA _ _ (if (w.params.followText "set-order")=bD then _ else _) _ _ s;rw[Ws (by rw[hw];simp)];show hA _ _ (if (!t.plain&&dV (es.size>1))=bD then _ else _) _ _ s
  rw [if_neg (by have : decide (es.size > 1) = false := decide_eq_false (by lia)
                 rw[this];simp)]
  show hA _ _ ((if (!t.led&&!es.isEmpty)=bD then _ else _) >>= _) _ _ s;rw[Ws (by rw[hl];simp)];exact cc (eL (eL h))
def nM(es:Array (Int×ei))(a:Array Nat)(i:Nat)(c:es.size<=1)(d:a.size=es.size)(b:i<=es.size):
  (match es[Ig a (if i=0 then 0 else(a[0]?).getD 0+1)]?,a[Ig a (if i=0 then 0 else(a[0]?).getD 0+1)]? with|some (_,x),a5 j=>a5 (x,j+1)|_,_=>b5)=es[i]?.map λe=>(e.2,(a[0]?).getD 0+1):=by
 have⟨es⟩:=es;have⟨a⟩:=a
 match es,a,c,d,b with
 |[],[],_,_,b=>simp
 |[e],[p],_,_,b =>
  match i,b with
  |0,_ =>
   have:Ig #[p] 0=0:=by simp[Ig,QE]
   simp[this]
  |1,_ =>
   have:Ig #[p] (p+1)=1:=by simp[Ig,QE]
   simp[this]
  |n+2,h=>simp at h
 |[],_::_,_,h,_=>simp at h
 |[_],[],_,h,_=>simp at h
 |[_],_::_::_,_,h,_=>simp at h
 |_::_::_,_,h,_,_=>simp at h
def uK(C:B.handled=b5)(hS:et prog w s.heap S (cT w) D)
  (h:∀(I:fS) (fp:List fS) (n:Nat) (P:Nat->ei->Prop) (St:Nat->Gz->Prop) (ys:List Str) (h':Gz) (d':Drawn),Walks prog w B I fp [I] n P St->ys.Perm D->n=ys.length->(∀i v,P i v->∃x tk,ys[i]?=a5 x/\v=.str x tk)->s.heap.objs.size<=I->(∀b∈fp,b=S\/s.heap.objs.size<=b)->St 0 h' ->
   (∀b o,s.heap.get? b=a5 o->h'.get? b=a5 o)->Q (.ref I) {s with heap:=h',drawn:=d' }):hA (hW prog w) A (Sg (.ref S)) Q E s:=by
 have⟨L,es,ep,t,ho,ID,F8,FU,a,c,HN,Gq⟩:=hS;have Pz:s.TypeIs (.ref S) "set":=⟨_,ho,rfl⟩
 have HQ:S<s.heap.objs.size:=hQ ho;show VC Pz PySem.F.slot_set_iter (KH PySem.F.slot_set_iter Pz SI.jm ?_ (PySem.F.args_set_iter_1 _));unfold J6.«frozenset.__iter__» U7 slotArgs;simp only[List.isEmpty_nil,VA,HK,↓reduceIte,bind_assoc,PN,bne_self_eq_false];unfold U_ U8;show cc (eL ?_)
 try dsimp only
 show cc (eL ?_);show cc (cc (Vg ho rfl a (eL ?_)));have RL:D.length=es.size:=by rw[<-F8.length_eq,d3,<-my,ID,d3]
 have d:∀(l:List (Int×ei)),l.Perm es.toList->∃ys:List Str,ys.Perm D/\ys.length=es.size/\∀(i:Nat) (v:ei),(l.map (·.2))[i]?=a5 v->∃(x:Str) (tk:Tok),ys[i]?=a5 x/\v=wh x tk:=by
  intro l hl;rw[ID]at hl;have⟨L',e',p'⟩:=fJ hl;show⟨L'.map (·.1),(p'.map _).trans F8,by rw[((p'.map _).trans F8).length_eq,RL],λi v G=>?_⟩;subst e';rw[ro,i6]at G;rw[i6];cases q:L'[i]? with
  |none=>rw[q]at G;simp at G
  |some p=>rw[q]at G;simp at G;show⟨p.1,p.2,rfl,G.symm⟩
 show cc (mD ho a ?_);cases hw:w.params.followText "set-order" with
 |true =>
  simp only[VA,Vk,HK,↓reduceIte];show cc (eL ?_);show cc (cc (x3 ho rfl a (eL ?_)));show cc (GQ ?_);have m:S≠s.heap.objs.size:=i2 HQ;have⟨ys,H,J,N⟩:=d (QY (w.params.setOrder S ep) es).toList (eJ _ _);have W:=jn (prog:=prog) (w:=w) (A:=B) (I:=s.heap.objs.size) (S:=S) (es:=es) (ep:=ep) (t:=t) C m a S m ((QY (w.params.setOrder S ep) es).toList.map (·.2)) (by rw[d3,(eJ _ _).length_eq,my]) (λ_=>u5 0) (λ_=>True) (λ_ _ _ _=>trivial)
   (λs i E Q _ _ f u O T=>uJ (slot:=0) f u a C (λB E' Q' q=>mE hw u a q) (λx nx e h' Y hs=>by
    rw[fx]at e;have⟨p,y,e2⟩:=e;cases e2;show O _ (by rw[i6,tA,y];rfl) h' Y hs) (λe=>T (by rw[i6,tA,Nj];rwa [Nj]at e)))
  show eL ⟨_,rfl,"set_iterator",_,⟨_,hh _ rfl,rfl⟩,SI.slot_next.lookup,?_⟩;show h _ _ _ _ _ ys _ s.drawn W H J.symm N (hY _) (λb c=>by
   simp only[gs,DD,or_false]at c;rcases c with rfl|rfl|rfl
   .show .inr (hY _)
   .show .inl rfl
   .show .inl rfl) ⟨kj _,⟨_,hh _ rfl,rfl,rfl⟩,c4 _ ho,trivial⟩ λb o e=>c4 _ e
 |false =>
  by_cases hsz:es.size>1
  .have Gh:t.plain=c2:=by
    rcases Gq with z|z
    .lia
    .show z
   have y:(!c2&&(!t.plain&&dV (es.size>1)))=bD:=by rw[Gh,Wt hsz];rfl
   rw[y];simp only[↓reduceIte];show cc (fy _ _ _ _ Fw λg d' hp=>?_);simp only[newTuple];have IE:∀j∈g,j<es.size:=λj hj=>by have:=hp.mem_iff.mp hj;simpa using this
   have Lf:g.length=es.size:=by rw[hp.length_eq];simp
   show cc (GQ ?_ (by
    change(g.map λ(j:Nat)=>u5 j).toArray.size<=_;have:es.size<4096:=c;simp only[fR,d3,Lf];have:(4096:Nat)<=df:=by decide
    lia))
   have Hw:(s.heap.push {cls:=.type "tuple",data:=.seq (g.map λ(j:Nat)=>u5 j).toArray}).get? S=a5 (mC es ep t):=c4 _ ho;show cc (cc (x3 (s:={s with heap:=_,drawn:=d' }) Hw rfl a (eL ?_)));show cc (GQ ?_);have RM:s.heap.objs.size≠(s.heap.push {cls:=.type "tuple",data:=.seq (g.map λ(j:Nat)=>u5 j).toArray}).objs.size:=by rw[GR];show i2 (Kl _)
   have m:S≠(s.heap.push {cls:=.type "tuple",data:=.seq (g.map λ(j:Nat)=>u5 j).toArray}).objs.size:=by rw[GR];show i2 (Ic HQ)
   have JM:(g.map λj=>(es[j]?).getD (0,oT)).Perm es.toList:=by
    show(hp.map _).trans ?_;have:(i3 es.size).map (λj=>(es[j]?).getD (0,oT))=es.toList:=by
     apply Px
     .simp
     .intro i h1 h2;simp at h1 ⊢;simp[h1]
    rw[this]
   have⟨ys,H,J,N⟩:=d _ JM;have W:=jn (prog:=prog) (w:=w) (A:=B) (I:=(s.heap.push {cls:=.type "tuple",data:=.seq (g.map λ(j:Nat)=>u5 j).toArray}).objs.size) (S:=S) (es:=es) (ep:=ep) (t:=t) C m a s.heap.objs.size RM ((g.map λj=>(es[j]?).getD (0,oT)).map (·.2)) (by simp[Lf]) (λ_=>.ref s.heap.objs.size) (λh=>h.IsTuple s.heap.objs.size (g.map λ(j:Nat)=>u5 j).toArray) (λh h' ⟨o,ho,r⟩ k=>⟨o,k _ ho,r⟩)
    (λs' i E Q _ Hl f u O T=>AM f u a C Hl (λj e ej ee h' Y hs=>O _ (by rw[i6,i6,ej];simp[ee]) h' Y hs) IE (λe=>T (by rw[i6,i6,e];rfl)))
   show eL ⟨_,rfl,"set_iterator",_,⟨_,hh _ rfl,rfl⟩,SI.slot_next.lookup,?_⟩;show h _ _ _ _ _ ys _ d' W H J.symm N (by rw[GR];show Jy _) (λb c=>?_) ⟨kj _,⟨_,hh _ rfl,rfl,rfl⟩,c4 _ Hw,⟨_,c4 _ (hh _ rfl),rfl,_,rfl⟩⟩ λb o e=>c4 _ (c4 _ e);rw[GR]at c;simp only[gs,DD,or_false]at c;rcases c with rfl|rfl|rfl
   .show .inr (Jy _)
   .show .inl rfl
   .show .inr (hY _)
  .have y:(!c2&&(!t.plain&&dV (es.size>1)))=c2:=by rw[Wr hsz];simp
   rw[y];simp only[HK,↓reduceIte];show cc (eL ?_);show cc (cc (x3 ho rfl a (eL ?_)));show cc (GQ ?_);have m:S≠s.heap.objs.size:=i2 HQ;have RN:t.led=bD:=by rw[HN];change(!w.params.followText "set-order")=bD;rw[hw];rfl
   have⟨ys,H,J,N⟩:=d es.toList (.refl _);have Ge:t.place.size=es.size:=by
    unfold SetTable.fits at a;simp only[b6,beq_iff_eq]at a;show a.1
   have W:=jn (prog:=prog) (w:=w) (A:=B) (I:=s.heap.objs.size) (S:=S) (es:=es) (ep:=ep) (t:=t) C m a S m (es.toList.map (·.2)) (by simp) (λi=>u5 ((if i=0 then 0 else(t.place[0]?).getD 0+1:Nat):Nat)) (λ_=>True) (λ_ _ _ _=>trivial)
    (λs' i E Q hi _ f u O T=>uJ (slot:=if i=0 then 0 else(t.place[0]?).getD 0+1) f u a C (λB E' Q' q=>nL hw u a RN ⋯ q) (λx nx e h' Y hs=>by
     rw[nM es t.place i ⋯ Ge hi,fx]at e;have⟨p,y,e2⟩:=e;cases e2;show O _ (by rw[i6,tA,y];rfl) h' ?_ hs;rw[Ws (Nat.succ_ne_zero i)];show Y) (λe=>by
     rw[nM es t.place i ⋯ Ge hi,Nj]at e;show T (by rw[i6,tA,e];rfl)))
   show eL ⟨_,rfl,"set_iterator",_,⟨_,hh _ rfl,rfl⟩,SI.slot_next.lookup,?_⟩;show h _ _ _ _ _ ys _ s.drawn W H J.symm N (hY _) (λb c=>by
    simp only[gs,DD,or_false]at c;rcases c with rfl|rfl|rfl
    .show .inr (hY _)
    .show .inl rfl
    .show .inl rfl) ⟨kj _,⟨_,hh _ rfl,rfl,rfl⟩,c4 _ ho,trivial⟩ λb o e=>c4 _ e
end
def nN:PD (.type "set") "__len__"=pure (a5 (.builtin "set.__len__")):=by rw[MC,J4];kernel_rfl
section
theorem jo:∀{vs:List ei}{ys:List Str},vs.length=ys.length->(∀(i:Nat) (v:ei),vs[i]?=a5 v->∃x t,ys[i]?=a5 x/\v=.str x t)->StrsAre vs ys
 |[],[],_,_=>.nil
 |[],_::_,h,_=>by simp at h
 |_::_,[],h,_=>by simp at h
 |v::vs,y::ys,h,k=>by
  have⟨x,t,a,b⟩:=k 0 v rfl;cases a;subst b;show .cons y t (jo (by simpa using h) λi w c=>k (i+1) w c)
def nO(H:A.handled=b5)(J:et prog w s.heap S (cT w) D)(N:D.length<=df)
  (O:∀(vs:List ei) (ys:List Str) (h':Gz) (d':Drawn) (g:Nat),ys.Perm D->StrsAre vs ys->s.heap.objs.size<=h'.objs.size->s.toks<=g->(∀b o,s.heap.get? b=a5 o->h'.get? b=a5 o)->Q vs {s with heap:=h',drawn:=d',toks:=g}) :
  hA (hW prog w) A (Ut (.ref S)) Q E s:=by
 have⟨L,es,ep,t,ho,rest⟩:=id J;have T:S<s.heap.objs.size:=hQ ho;unfold Ut;show cc (Sd (z9 PySem.F.entry_proto_collect ?_));rw[D2 PySem.F.plain_proto_collect _];change hA _ A.in1 (VG [] >>= λl=>Wf (.builtin "list.__iadd__" ⟨[l,.ref S],[]⟩)) _ _ s;show cc (GQ ?_);show eL ⟨KW PySem.F.plain_list_iadd _,z9 PySem.F.entry_list_iadd ?_⟩;rw[D2 PySem.F.plain_list_iadd _];have d:(s.heap.push {cls:=.type "list",data:=.seq ([]:List ei).toArray}).get? S=a5 {cls:=.type "set",dict:=b5,data:=.set es ep t}:=c4 _ ho;have Y:MS {s with heap:=s.heap.push {cls:=.type "list",data:=.seq ([]:List ei).toArray}} (.ref S) "set":=⟨_,d,rfl⟩
 change hA _ A.in1 (qP (.ref s.heap.objs.size) (.ref S) (.ref s.heap.objs.size)) _ _ _;unfold qP;show cc (P9 Y ?_);have h:s.heap.objs.size≠S:=Ib T;have h1:JG (.ref s.heap.objs.size) (.ref S)=c2:=by simp[JG,h]
 have h2:(td "set"==td "list")=c2:=by decide
 have h3:(td "set"==td "tuple")=c2:=by decide
 simp only[h1,h2,h3,Ry,HK,if_false];show cc (uK (B:=A.in1) (by simpa using H) ⟨L,es,ep,t,d,rest⟩ ?_);intro I fp n P St ys h' d' W j k hP m NZ E5 hk;have f:MS {s with heap:=h',drawn:=d' } (.ref S) "set":=⟨_,hk _ _ d,rfl⟩
 show cc (va ?_);unfold Om;show cc (N9 f nN ?_);have GK:splitId "set.__len__"=a5 ("set","__len__"):=by decide +kernel
 dsimp only
 rw[GK]
 dsimp only
 show cc (QP f sub_set_self ?_);rw[Ws (by decide)];rw[Wq (by decide +kernel)];show cc (P9 f ?_);show eL ?_;rw[Wq (by decide +kernel)];have p:s.heap.objs.size∉fp:=λa=>by
  rcases NZ _ a with z|z
  .show h z
  .rw[GR]at z;show absurd z (Nat.not_succ_le_self _)
 have q:h'.get? s.heap.objs.size=a5 {cls:=.type "list",data:=.seq ([]:List ei).toArray}:=hk _ _ (hh _ rfl);show cc (ND ?_);show cc ?_;change hA _ A.in1 (VS s.heap.objs.size (·.push .none) >>= λ_=>VS s.heap.objs.size (·.pop)) _ _ _;show cc (Mr q rfl ?_);have r:=u7 (mx (·.push oT)) q rfl;show Mr r rfl ?_;have RO:=u7 (mx (·.pop)) r rfl;have u:∀b o,b≠s.heap.objs.size->h'.get? b=a5 o->((h'.update s.heap.objs.size (mx (·.push oT))).update s.heap.objs.size (mx (·.pop))).get? b=a5 o :=
  λb o c e=>(Jw _ _ (qs c)).trans ((Jw _ _ (qs c)).trans e)
 show eL ⟨KW PySem.F.plain_extend_loop _,U2 W.toS (by rw[k,j.length_eq];show N) _ p _ n 0 _ _ _ rfl (kj _) (W.frame 0 h' _ E5 λb c o e=>u b o (λz=>p (z▸c)) e) RO (Vh P) λs' FE c' a x y=>?_⟩;change hA _ A (load s.heap.objs.size >>= _) _ _ s';show cc (Vm x ?_);have⟨Kk,g2,C,RP,RQ⟩:=s';have eg:g2=s.gens:=a.gens;have ed:C=d':=a.drawn;have eo:RQ=s.os:=a.os;subst eg;subst ed;subst eo;show eL (O _ ys Kk C RP j (jo (by rw[my,y.1,k]) λi v hv=>hP i v (y.2 i v (by rwa [tA]at hv))) (Ie (hQ x)) a.toks λb o e=>?_);have G:b≠s.heap.objs.size:=λz=>by rw[z]at e;show absurd (hQ e) (rb _)
 show a.heap b o (λz=>?_) (u b o G (hk _ _ (c4 _ e)));rcases gs.mp z with z|z
 .show G z
 .rw[js.mp z]at e;have:=hQ e;rw[GR]at m;show absurd (i5 this (w6 (Jy _) m)) (rb _)
end
section
def Inv.drawn(I:Inv X a σ H s)(d:Drawn):Inv X a σ H {s with drawn:=d}:=⟨I.ok,I.os,I.bare,I.base,I.loc,I.cell,I.free,I.Fy,I.pin,I.EZ,I.len⟩
def mF(j:X.calm=bD)(I:Inv X c σ H s)(hq:Fj X.K H p (ys.map V.str)\/FH X.K H p (ys.map V.str))(g:ys.length+1<Iu)
  (h:∀(S:fS) (h':Gz) (a:Nat),et X.prog X.w h' S (cT X.w) (aI ys)->Inv X c σ H {s with heap:=h',toks:=a}->Q (.ref S) {s with heap:=h',toks:=a}) :
  hA (hW X.prog X.w) X.A (KS (.type "set") [.ref p]) Q X.xe s:=by
 have i:X.A.handled=b5:=I.ok.hd j;rcases hq with hq|hq
 .have⟨l,rv,d,hz⟩:=I.list hq;show jl i d.isList (cY rv) g λh' a f k=>h _ h' a f (I.kept λb o e=>k b o (hQ e) e)
 .have⟨l,rv,d,hz⟩:=I.tuple hq;show km i d (cY rv) g λh' a f k=>h _ h' a f (I.kept λb o e=>k b o (hQ e) e)
def kn(i:X.calm=bD)(I:Inv X a σ H s)(j:et X.prog X.w s.heap S (cT X.w) D)(d:D.length<64)
  (q:∀p,H p=b5->Q (.ref p) (upd H p (.lst ((aH D).map V.str)))):hA (hW X.prog X.w) X.A (KS (.builtin "sorted") [.ref S]) (EP X a σ Q) X.xe s:=by
 have k:X.A.handled=b5:=I.ok.hd i;have hl:D.length<=df:=Ie (i5 d (by decide));show dU (nO (A:=X.A.in1) (by simpa using k) j hl λvs ys h' d' b f g hsz r hk=>⟨ys,g,by rw[gv g,f.length_eq];show d,λt l e m c s2=>?_⟩);rw[iy f]at s2;have n:Inv X a σ H {s with heap:=h',toks:=b}:=I.kept (t':=b) hk;have h:Inv X a σ H {s with heap:=h',drawn:=d',toks:=b}:=n.drawn d';show⟨.ref h'.objs.size,_,h.laid (t':=b) (o:=.lst ((aH D).map V.str)) m (hY _) ⟨by rw[d3,cm];show hl,l,e,cV s2,c⟩,rfl,q _ (h.EZ.fresh (hY _))⟩
end
def pv:PD (.type "list_reverseiterator") "__len__"=pure b5:=by rw[MC,J4];kernel_rfl
def uL:PD (.type "list_reverseiterator") "__length_hint__"=pure (a5 (.builtin "list_reverseiterator.__length_hint__")):=by rw[MC,J4];kernel_rfl
def mG:Le (.type "list_reverseiterator") (.type "list_reverseiterator")=pure bD:=by rw[x6];kernel_rfl
section
variable{I:fS}{fp wr:List fS}{G:Array U4->Array U4->Prop}{n:Nat}{P:Nat->ei->Prop}{St:Nat->hH->Prop}
def pw(W:Vr prog w A.in1 I fp wr G n P St)(c:∀i s,St i s->s.TypeIs (.ref I) "list_reverseiterator")(S:fS)(res:ei)(j:Nat)(a:St 0 s)(h:S∉fp)(k:I∈fp)
  (l:s.heap.get? S=a5 {cls:=.type "list",data:=.seq #[] j})
  (m:∀s' d b,Moved (S::wr) G s s'->s'.heap.get? S=a5 {cls:=.type "list",dict:=b5,data:=.seq d b,slots:=#[]}->VN P d n->R (.ok (.ret res)) s') (o:n<=df) :
  hA (hW prog w) A.in1 (qP (.ref S) (.ref I) res)
   (λg s'=>match g with|.done f=>R (.ok f) s'|.again b=>b.quiet=bD/\LW (hW prog w) A b R s') (λe s'=>R (.error e) s') s:=by
 have p:S≠I:=λe=>h (e▸k);unfold qP;show cc (P9 (c 0 _ a) ?_);have q:JG (.ref S) (.ref I)=c2:=by simp[JG,p]
 have r:(td "list_reverseiterator"==td "list")=c2:=by decide
 have t:(td "list_reverseiterator"==td "tuple")=c2:=by decide
 simp only[q,r,t,Ry,HK,if_false];show cc (W.self 0 _ _ _ a ?_);show cc (va ?_);unfold Om;show cc (N9 (c 0 _ a) pv ?_);change hA _ A.in1 (specialOf (i1 I) (Sy "__length_hint__") >>= _) _ _ _;show cc (N9 (c 0 _ a) uL ?_);have u:splitId "list_reverseiterator.__length_hint__"=a5 ("list_reverseiterator","__length_hint__"):=by decide +kernel
 dsimp only
 rw[u]
 dsimp only
 show cc (QP (c 0 _ a) mG ?_);rw[Ws (by decide)];rw[Wq (by decide +kernel)];rw[Ws (by decide +kernel)];show eL ?_;rw[Ws (by decide +kernel)];show eL ⟨KW PySem.F.plain_extend_loop _,U2 W o _ h _ n 0 _ _ _ rfl (kj _) a l (Vh P) λs' d b v x y=>?_⟩;show m s' d b v x y
def kq(W:Vr prog w A.in1 I fp wr G n P St)(p:∀i s,St i s->s.TypeIs (.ref I) "list_reverseiterator")(S:fS)(q:St 0 s)(l:S∉fp)(r:I∈fp)
  (g:s.heap.get? S=a5 {cls:=.type "list",data:=.seq #[]})
  (t:∀s' d a,Moved (S::wr) G s s'->s'.heap.get? S=a5 {cls:=.type "list",dict:=b5,data:=.seq d a,slots:=#[]}->VN P d n->R (.ok (.ret .none)) s') (u:n<=df) :
  hA (hW prog w) A.in1 (J6.«list.__init__» ⟨[.ref S,.ref I],[]⟩)
   (λj s'=>match j with|.done f=>R (.ok f) s'|.again a=>a.quiet=bD/\LW (hW prog w) A a R s') (λe s'=>R (.error e) s') s:=by
 change hA _ A.in1 (do let k <-Pf (.ref S);V1 (.ref S) (λ_=>#[]);letGo k.toList.reverse;qP (.ref S) (.ref I) .none) _ _ s;show cc ?_;unfold Pf;show cc (V6 g rfl (eL ?_));change hA _ A.in1 (VS S (λ_=>#[]) >>= λ_=>letGo (#[]:Array ei).toList.reverse >>= λ_=>qP (.ref S) (.ref I) .none) _ _ s;show cc (Mr g rfl ?_);have v:=u7 (mx (λ_=>(#[]:Array ei))) g rfl;have m:∀b o,b≠S->s.heap.get? b=a5 o->(s.heap.update S (mx (λ_=>(#[]:Array ei)))).get? b=a5 o :=
  λb o c e=>(Jw _ _ (qs c)).trans e
 show cc (wpAny_letGo ?_);show pw W p S .none _ (W.frame 0 s _ s.toks q (hY _) λb c o e=>m b o (λh=>l (h▸c)) e) l r v (λs' d a x y z=>?_) u;show t s' d a (VM W.gtrans ((Moved.refl W.grefl).then_heap (hY _) λb o c e=>m b o (λh=>c (h▸kl)) e) x) y z
def nP(W:Vr prog w A.in1.in1 I fp wr G n P St)(h:∀i s,St i s->s.TypeIs (.ref I) "list_reverseiterator")(j:St 0 s)(k:∀b∈fp,b<s.heap.objs.size)(l:I∈fp)
  (m:∀s' a c,Moved (s.heap.objs.size::wr) G {s with heap:=s.heap.push {cls:=.type "list",data:=.seq #[]}} s' ->
   s'.heap.get? s.heap.objs.size=a5 {cls:=.type "list",dict:=b5,data:=.seq a c,slots:=#[]}->VN P a n->Q (.ref s.heap.objs.size) s') (p:n<=df) :
  hA (hW prog w) A (KS (.type "list") [.ref I]) Q E s:=by
 have q:s.heap.objs.size∉fp:=λd=>rb _ (k _ d);show callType_codes (Q₁:=λobj f=>obj=.ref s.heap.objs.size/\f={s with heap:=s.heap.push {cls:=.type "list",data:=.seq #[]}}) PySem.F.called_list (PySem.F.typeCall_list_1 _) PySem.F.entry_list_init
  (code_list_new _ ⟨rfl,rfl⟩) λobj f r=>?_
 have⟨rfl,rfl⟩:=r;have g:(s.heap.push {cls:=.type "list",data:=.seq #[]}).get? s.heap.objs.size=a5 {cls:=.type "list",data:=.seq #[]}:=hh _ rfl;show⟨⟨_,g,rfl⟩,PySem.F.args_list_init_2 _ _,kq W h _ (W.frame 0 s _ s.toks j (hY _) λb _ o e=>c4 _ e) q l g (λs' a c d t u=>?_) p⟩;show⟨rfl,m s' a c d t u⟩
open AutoSeq1 (wpAny_loadPart') in
end
def xK{a:List ei}(h:VN (λi v=>a.toArray[a.toArray.size - 1 - i]?=a5 v) acc a.toArray.size):acc.toList=a.reverse:=by
 apply OU;intro i;have hs:acc.size=a.length:=by have:=h.1;simpa using this
 by_cases c:i<a.length
 .have b:i<acc.size:=by lia
  have:=h.2 i (acc[i]'b) (by simp[b]);rw[tA,Array.getElem?_eq_getElem b,List.getElem?_reverse c];simpa using this.symm
 .rw[HR (by rw[my];lia),HR (by rw[Ol];lia)]
section
def uM(j:X.calm=bD)(I:Inv X f σ H s)(k:Fj X.K H a xs)
  (h:∀c,Vals xs c->xs.length<=df->∀(R:fS) (d:Gz),R=s.heap.objs.size->d.objs.size=s.heap.objs.size+1->(∀b o,s.heap.get? b=a5 o->d.get? b=a5 o)->(∀B:K2,B.handled=X.A.handled ->
   Walks X.prog X.w B R [R,a] [R] c.toArray.size (λi v=>c.toArray[c.toArray.size - 1 - i]?=a5 v) (λi h=>i<=c.toArray.size/\h.IsRevIter R a ((c.toArray.size:Int) - 1 - (i:Int))/\h.IsList a c.toArray)) ->
   d.IsRevIter R a ((c.toArray.size:Int) - 1 - ((0:Nat):Int))->d.IsList a c.toArray->a<s.heap.objs.size->Q (.ref R) {s with heap:=d}):hA (hW X.prog X.w) X.A (KS (.type "reversed") [.ref a]) Q X.xe s:=by
 have⟨c,rv,p,hz⟩:=I.list k;have g:a<s.heap.objs.size:=let ⟨o,ho,_⟩:=p.isList;hQ ho;show call_reversed_list p.isList (h c rv hz _ _ rfl (by rw[GR]) (λb o e=>c4 _ e) (λB l=>Walks.listRev (by rw[l];show I.ok.hd j) _ a (i2 g) c.toArray) ?_ (p.isList.push _) g);show⟨_,hh _ rfl,rfl,?_⟩;change Tu _=Tu _;congr 3
 simp
def uN(p:X.calm=bD)(I:Inv X c σ H s)(r:Fj X.K H a xs)(q:∀l,H l=b5->Q (.ref l) (upd H l (.lst xs.reverse))):
  hA (hW X.prog X.w) X.A (KS (.type "reversed") [.ref a]) (λv s1=>hA (hW X.prog X.w) X.A (KS (.type "list") [v]) (EP X c σ Q) X.xe s1) X.xe s:=by
 show uM p I r λh rv hz R d j hsz hk t u hl x=>?_;have el:h.length=xs.length:=rv.length.symm;show nP (s:={s with heap:=d}) (t X.A.in1.in1 rfl).toS (λi s st=>st.2.1.typeIs) ⟨kj _,u,hl⟩ (λb f=>?_) (by simp) (λs' acc k g y B=>?_) (by simp;lia)
 .change b<d.objs.size;rw[hsz];rcases gs.mp f with z|z
  .rw[z,j];show Kl _
  .rw[js.mp z];show Ic x
 .have⟨m,C,D,G,J⟩:=s';have L:C=s.gens:=g.gens;have N:D=s.drawn:=g.drawn;have O:J=s.os:=g.os;subst L N O;have T:∀b o,s.heap.get? b=a5 o->m.get? b=a5 o:=λb o e=>g.heap b o (λz=>by
   have f:=hQ e;rcases gs.mp z with z|z
   .rw[z]at f;have n:d.objs.size<s.heap.objs.size:=f;rw[hsz]at n;show absurd n (Vc (Kl _))
   .rw[js.mp z,j]at e;show absurd (hQ e) (rb _)) (c4 _ (hk b o e))
  have Y:=xK B;show⟨.ref d.objs.size,_,I.laid (t':=G) (o:=.lst xs.reverse) T (by rw[hsz];show Jy _) ⟨by rw[Ol];show hz,h.reverse,k,rv.reverse,?_⟩,rfl,q _ (I.EZ.fresh (by rw[hsz];show Jy _))⟩;have Gr:m.get? d.objs.size=a5 {cls:=.type "list",dict:=b5,data:=.seq acc k,slots:=#[]}:=y;rw[Gr,<-Y,Tn]
end
def sC(l:fS)(a:Array ei)(n:Nat)(b:fS)(c:Array ei)(e:Nat)(f:Option fS)(i:Array (Option ei))(p:¬(!a.isEmpty&&Hv (a.size+c.size))=bD)(j:a.size<=df)(k:a.size+c.size<=df+1):
  Meets (J6.«list.extend» ⟨[.ref l,.ref b],[]⟩) (λ_ R s=>s.heap.get? l=a5 {cls:=.type "list",dict:=b5,data:=.seq a n,slots:=#[]}/\s.heap.get? b=a5 {cls:=.type "list",dict:=f,data:=.seq c e,slots:=i}/\R (.ok (.ret oT)) {s with heap:=s.heap.update l (mx λx=>x++c),toks:=s.toks}) :=
 .of_wp λprog w A R s h=>by
  have⟨q,g,d,r,os⟩:=s;have⟨hl,m,h⟩:=h;have t:=Tv;have u:=PK;have v:=M0;have y:=QH;have z:=QI;
  have o:(a++c).size<=df+1:=by rw[OA];show k
  wp_walk using(Mr hl rfl (hz:=j) (_hz':=o)),J7 hl,J7 m;show⟨_,rfl,h⟩
def sD(l:fS)(a:Array ei)(n:Nat)(b:fS)(c:Array ei)(e:Nat)(f:Option fS)(i:Array (Option ei))(p:¬(!a.isEmpty&&Hv (a.size+c.size))=bD)(j:a.size<=df)(k:a.size+c.size<=df+1):
  Meets (J6.«list.extend» ⟨[.ref l,.ref b],[]⟩) (λ_ R s=>s.heap.get? l=a5 {cls:=.type "list",dict:=b5,data:=.seq a n,slots:=#[]}/\s.heap.get? b=a5 {cls:=.type "tuple",dict:=f,data:=.seq c e,slots:=i}/\R (.ok (.ret oT)) {s with heap:=s.heap.update l (mx λx=>x++c),toks:=s.toks}) :=
 .of_wp λprog w A R s h=>by
  have⟨q,g,d,r,os⟩:=s;have⟨hl,m,h⟩:=h;have t:=Tv;have u:=PK;have v:=M0;have y:=QH;have z:=QI;
  have o:(a++c).size<=df+1:=by rw[OA];show k
  wp_walk using(Mr hl rfl (hz:=j) (_hz':=o)),J7 hl,J7 m;show⟨_,rfl,h⟩
section
def pz:KZ X "list.extend" (λx vs H Q=>∃l b xs c,x=.ref l/\vs=[.ref b]/\H l=a5 (.lst xs)/\(Fj X.K H b c\/FH X.K H b c)/\xs.length+c.length<=df/\Q .EY (upd H l (.lst (xs++c)))):=by
 intro g s σ H x vs v us Q I B rv h;have⟨l,b,xs,c,rfl,rfl,y,hB,hz,q⟩:=h;cases B;have⟨u,rfl,C⟩:=rv.one;cases C;have⟨z,f,n,r,hl,e⟩:=I.ug y;have i:∀a:List ei,Vals c a->EP X g σ Q oT {s with heap:=s.heap.update l (mx λx=>x++a.toArray),toks:=s.toks}:=λa d=>by
  show⟨.EY,_,I.jg (its':=f++a) y e (by simp) (r.append d) ?_,rfl,q⟩;rw[ke];lia
 have m:∀a:List ei,c.length=a.length->f.toArray.size+a.toArray.size<=df:=λa h=>by rw[fR,fR];lia
 have A:∀a:List ei,c.length=a.length->¬(!f.toArray.isEmpty&&Hv (f.toArray.size+a.toArray.size))=bD:=λa h=>by
  rw[uh (m a h),QO];show i0
 rcases hB with hB|hB
 .obtain⟨a,d,o,_⟩:=I.list hB;obtain⟨⟨cls,p,data,t⟩,ho,j,w,k⟩:=o.isList;simp only at j k;subst j k;have Hu:=d.length;have D:=m a Hu;show M6 U5 ⟨_,e,rfl⟩ UN (Uy _ _) (sC l f.toArray n b a.toArray w p t (A a Hu) ⋯ ⋯) ⟨e,ho,i a d⟩
 .obtain⟨a,d,o,_⟩:=I.tuple hB;obtain⟨⟨cls,p,data,t⟩,ho,j,w,k⟩:=o;simp only at j k;subst j k;have Hu:=d.length;have D:=m a Hu;show M6 U5 ⟨_,e,rfl⟩ UN (Uy _ _) (sD l f.toArray n b a.toArray w p t (A a Hu) ⋯ ⋯) ⟨e,ho,i a d⟩
end
end L2
namespace L2
open PySem PySem.W PyProof.Rows
section
def sE{vs:List (Key×ei)}(hk:vs.map (·.1)=ks.map ko)(hl:acc.length=vs.length)(h:∀(j:Nat) (v:ei),acc[j]?=a5 v->∃k x,vs[j]?=a5 (k,x)/\(aG P w).is k v=bD):StrsAre acc ks:=by
 induction acc generalizing ks vs with
 |nil =>
  cases vs with
  |nil=>cases ks with
   |nil=>show .nil
   |cons _ _=>cases hk
  |cons _ _=>cases hl
 |cons v acc b =>
  cases vs with
  |nil=>cases hl
  |cons p vs =>
   cases ks with
   |nil=>cases hk
   |cons k ks =>
    simp only[gj,Lj]at hk;have⟨k',x,a,c⟩:=h 0 v rfl;simp only[List.getElem?_cons_zero,Nv]at a;subst a;have d:k'=ko k:=hk.1;subst d;rcases aT (show iq (ko k) v=bD from c) with⟨i,t,e,rfl⟩|⟨y,t,e,rfl⟩
    .cases e
    .cases e;show .cons _ _ (b hk.2 (by simpa using hl) λj u f=>h (j+1) u (by simpa using f))
def gU:X.calm=bD->f_ X (.builtin "sorted") (λxs H Q=>∃(d:fS) (kvs:List (Key×V)) (ks:List Str),xs=[.ref d]/\H d=a5 (.dK kvs)/\kvs.map (·.1)=ks.map ko/\ks.length<64/\∀q,H q=b5->Q (.ref q) (upd H q (.lst ((aH ks).map V.str)))):=by
 intro m a s σ H xs us Q I rs h;have⟨d,kvs,ks,rfl,e,hk,J,q⟩:=h;have⟨u,rfl,r⟩:=vals1 rs;cases r;have⟨hz,lo,vs,kv,k⟩:=ur I.EZ e;have b:vs.length=kvs.length:=(Paired.length kv).symm;have n:kvs.length=ks.length:=by rw[<-d3 (f:=(·.1)),hk,d3]
 have p:vs.map (·.1)=ks.map ko:=by
  rw[<-hk];clear k b hk n e q hz;induction kv with
  |nil=>rfl
  |cons r _ t=>rw[gj,gj,t,r.1]
 have⟨o,es,ep,x⟩:=id k;have y:(64:Nat)<=df:=by decide
 show dU (kdu_collect (A:=X.A.in1) (kdl_dict (knd:=aG X.prog X.w) (kvs:=vs) (ep:=ep) lo) (I.ok.hd m) ⟨o,es,x⟩ ⋯ λh' c acc z g=>⟨ks,sE p (by rw[my];show g.1) (λj v B=>g.2 j v (by rw[<-tA];show B)),by rw[my,g.1];lia,λL C D G i s2=>?_⟩);have l:Inv X a σ H {s with heap:=h',toks:=c}:=I.kept (t':=c) z;show⟨.ref h'.objs.size,_,l.laid (t':=c) (o:=.lst ((aH ks).map V.str)) G (hY _) ⟨by rw[d3,cm];lia,C,D,cV s2,i⟩,rfl,q _ (l.EZ.fresh (hY _))⟩
end
abbrev cZ{α:Type}(lt:Nat->Nat->Bool):Wg α->α
 |.ret x=>x
 |.ask i j k=>cZ lt (k (lt i j))
def F6{α:Type}(n:Nat)(P:α->Prop):Wg α->Prop
 |.ret x=>P x
 |.ask i j k=>i<n/\j<n/\∀b,F6 n P (k b)
theorem F6.Km{P:α->Prop}{Q:β->Prop}{f:α->Wg β}(a:∀x,P x->F6 n Q (f x)):∀{t:Wg α},F6 n P t->F6 n Q (t.bind f)
 |.ret x,h=>a x h
 |.ask i j k,h=>⟨h.1,h.2.1,λb=>F6.Km a (h.2.2 b)⟩
theorem F6.got:∀{t:Wg α},F6 n P t->P (cZ lt t)
 |.ret _,h=>h
 |.ask i j k,h=>F6.got (t:=k (lt i j)) (h.2.2 _)
theorem F6.wp(b:∀i j,i<n->j<n->∀C:Bool->hH->Prop,C (lt i j) s->a i j C s):
  ∀{t:Wg α},F6 n P t->Q (cZ lt t) s->t.kasWp a Q s
 |.ret _,_,q=>q
 |.ask i j k,h,q=>b i j h.1 h.2.1 _ (F6.wp b (t:=k (lt i j)) (h.2.2 _) q)
abbrev Pm(n:Nat)(p:Array Nat):Prop:=p.toList.Perm (i3 n)
section
variable{n:Nat}(hn:0<n)
include hn
def Pm.at(h:Pm n p)(i:Nat):p.getD i 0<n:=by
 by_cases a:i<p.size
 .have:p.getD i 0=p[i]:=by simp[QL,a]
  rw[this];have b:p[i]∈p.toList:=by simp
  show I0.mp (h.mem_iff.mp b)
 .have:p.getD i 0=0:=by simp[QL,a]
  rw[this];show hn
omit hn in
def Pm.rev(h:Pm n p)(i j:Nat):Pm n (kas_rev p i j):=(mirror_perm p i j _).toList.trans h
omit hn in
def Pm.RV(h:Pm n p)(i j:Nat):Pm n (bubble p i j):=(bubble_perm p i j).toList.trans h
theorem pA(h:Pm n p):∀(f m:Nat),F6 n (λ_=>True) (kas_asc p f m)
 |0,m=>trivial
 |f+1,m=>⟨h.at hn _,h.at hn _,λb=>by
  cases b
  .show pA h f (m+1)
  .show trivial⟩
theorem iR:∀(f:Nat) (p:Array Nat) (m q:Nat),Pm n p->F6 n (λr=>Pm n r.1) (kas_desc f p m q)
 |0,p,m,q,h=>h
 |f+1,p,m,q,h=>⟨h.at hn _,h.at hn _,λb=>by
  cases b
  .show⟨h.at hn _,h.at hn _,λb=>by
    cases b
    .show iR f p (m+1) (q+1) h
    .show h⟩
  .change F6 n _ (if q>0 then _ else _);split
   .show iR f _ _ _ (h.rev _ _)
   .show iR f _ _ _ h⟩
def qJ(h:Pm n p)(m r:Nat):F6 n (λx=>Pm n x.2) (kas_tail3 m r p):=by
 unfold kas_tail3;show F6.Km (λx _=>?_) (pA hn (h.rev _ _) _ _);show h.rev _ _
def qK(h:Pm n p)(m r:Nat):F6 n (λx=>Pm n x.2) (kas_descPart m r p):=by
 unfold kas_descPart;show F6.Km (λx a=>?_) (iR hn _ _ _ _ h);split
 .show qJ hn (a.rev _ _) _ _
 .show qJ hn a _ _
def uO(h:Pm n p)(r:Nat):F6 n (λx=>Pm n x.2) (Ug r p):=by
 unfold Ug;show F6.Km (λm _=>?_) (pA hn h _ _);split
 .show h
 .split
  .show⟨h.at hn _,h.at hn _,λb=>by
    cases b
    .show qK hn (h.rev _ _) _ _
    .show h⟩
  .show qK hn h _ _
theorem jq(h:Pm n p)(k:Nat):∀(f l r:Nat),F6 n (λ_=>True) (kas_place p k f l r)
 |0,l,r=>trivial
 |f+1,l,r=>by
  unfold kas_place;split
  .show trivial
  .show⟨h.at hn _,h.at hn _,λb=>by
    cases b
    .show jq h k f _ _
    .show jq h k f _ _⟩
theorem uP:∀(f:Nat) (p:Array Nat) (k:Nat),Pm n p->F6 n (Pm n) (kas_bin f p k)
 |0,p,k,h=>h
 |f+1,p,k,h=>F6.Km (λl _=>uP f _ _ (h.RV _ _)) (jq hn h _ _ _ _)
def qL:F6 n (Pm n) (HZ n):=by
 unfold HZ;show F6.Km (λx a=>?_) (uO hn (p:=J8 (i3 n)) (by unfold Pm;simp) n);split
 .show uP hn _ _ _ a
 .show a
end
def gw(lt:Nat->Nat->Bool)(n:Nat):(cZ lt (HZ n)).toList.Perm (i3 n):=by
 cases n with
 |zero=>show List.Perm.refl _
 |succ n=>show(qL (Nat.succ_pos n)).got
section
def kU(ho:s.heap.get? a=a5 (t4 "list" vs.toArray n))(l:vs.length<64)
  (m:2<=vs.length->∀s1:hH,(∀b o,b≠a->s.heap.get? b=a5 o->s1.heap.get? b=a5 o)->hA (hW prog w) A (Wk vs.toArray) (λκ s'=>s'=s1/\∀i j,i<vs.length->j<vs.length->∀C:Bool->hH->Prop,C (lt i j) s1->R6 prog w A κ vs i j C s1) (λ_ _=>False) s1)
  (h:P (.done (.ret .none)) {s with heap:=SV s.heap a vs (((cZ lt (HZ vs.length)).toList.map λi=>vs.getD i oT).toArray)}) :
  hA (hW prog w) A (J6.«list.sort» ⟨[.ref a],[]⟩) P E s:=by
 have N:a<s.heap.objs.size:=hQ ho;have u:(64:Nat)<=df:=by decide
 rw[list_sort_plain];show cc (UC ho rfl (cc (Pl ho rfl ?_ (by rw[fR];lia) (kj _))));obtain⟨k,q⟩:∃k,(s.heap.update a (mx λ_=>(#[]:Array ei))).get? a=a5 (t4 "list" #[] k):=⟨_,V3 ho λ_=>#[]⟩
 show cc (Va q rfl (cc (wpAny_newTuple (cc (O7 (va ?_) (kj _))) (by change vs.length<=_;lia))));have d:(((s.heap.update a (mx λ_=>(#[]:Array ei))).push (t4 "tuple" vs.toArray 0)).push (t4 "list" #[] 0)).get? a=a5 (t4 "list" #[] k):=c4 _ (c4 _ q);have f:∀b o,b≠a->s.heap.get? b=a5 o->(((s.heap.update a (mx λ_=>(#[]:Array ei))).push (t4 "tuple" vs.toArray 0)).push (t4 "list" #[] 0)).get? b=a5 o:=λb o y e =>
  c4 _ (c4 _ (by rw[Ky _ _ _ _ y];show e))
 change hA (hW prog w) A _ P E {s with heap:=((s.heap.update a (mx λ_=>(#[]:Array ei))).push (t4 "tuple" vs.toArray 0)).push (t4 "list" #[] 0)}
 dsimp only
 have r:((cZ lt (HZ vs.length)).toList.map λi=>vs.getD i oT).length=vs.length:=by rw[d3,(gw lt _).length_eq,Fw]
 by_cases c:vs.toArray.size<2
 .rw[Wq c,Wq c];show cc (eL ?_);rw[StateT.run_pure];show cc (eL ?_);have z:((cZ lt (HZ vs.length)).toList.map λi=>vs.getD i oT).toArray=(vs.toArray.zip vs.toArray).map (·.2):=by
   have g:=gw lt vs.length;clear h m r f d ho l
   match vs,c,g with
   |[],_,g=>rw[show(cZ lt (HZ ([]:List ei).length)).toList=[] from Vw.mp g];simp
   |[v],_,g=>rw[show(cZ lt (HZ [v].length)).toList=[0] from List.perm_singleton.mp g];simp
   |_::_::_,c,_=>simp at c;lia
  rw[z]at h
  dsimp only
  show cc (Va d rfl (cc (Pl d rfl ?_ (kj _) (by rw[Array.size_map];change(pairsOf vs).size<=_;rw[pairsOf_size];lia))));simp only[bne_self_eq_false,HK,if_false];show eL h
 .rw[Ws c,Ws c];have t:2<=vs.length:=by rw[fR]at c;lia
  show cc (r6 (m t _ f) (λκ O hk=>?_) λ_ _ x=>x.elim);have⟨rfl,hk⟩:=hk;show cc (r6 (kat_run (κ:=κ) (ks:=vs) (vs:=vs) (G:=λp s'=>p=cZ lt (HZ vs.length)/\s'={s with heap:=((s.heap.update a (mx λ_=>(#[]:Array ei))).push (t4 "tuple" vs.toArray 0)).push (t4 "list" #[] 0)})
   (Q:=λst' s'=>∃p:Array Nat,arrOf st'=p.map (kas_item (vs.toArray.zip vs.toArray))/\failedOf st'=b5/\p=cZ lt (HZ vs.length)/\s'={s with heap:=((s.heap.update a (mx λ_=>(#[]:Array ei))).push (t4 "tuple" vs.toArray 0)).push (t4 "list" #[] 0)})
   rfl t l (λp st' s' T B D H=>⟨p,B,D,H⟩) (F6.wp hk (qL ⋯) ⟨rfl,rfl⟩)) ?_ λ_ _ e=>e)
  rintro⟨⟨⟩,st'⟩ s' ⟨p,I,J,rfl,rfl⟩
  dsimp only
  have L:=kat_snds rfl I;rw[L,J];show cc (Va d rfl (cc (Pl d rfl ?_ (kj _) (by rw[fR,r];lia))));simp only[bne_self_eq_false,HK,if_false];show eL h
end
@[reducible]def xM:=Str×Int
abbrev Jl(ks:List Str)(i j:Nat):Bool:=dV ((ks.getD i tr).cps.toList<(ks.getD j tr).cps.toList)
abbrev jr(ks:List Str):List Nat:=(cZ (Jl ks) (HZ ks.length)).toList
def gV(ks:List Str):(jr ks).Perm (i3 ks.length):=gw _ _
abbrev CQ(x:Str)(n:Int)(t u:Tok):Obj:={cls:=.type "tuple",data:=.seq #[.str x t,.int n u]}
abbrev d_(h:Gz)(as:List fS)(b:List xM):Prop:=as.length=b.length/\∀(j:Nat) (a:fS),as[j]?=a5 a->∃p t u,b[j]?=a5 p/\h.get? a=a5 (CQ p.1 p.2 t u)
def d_.keeps(x:d_ h as c)(k:∀b o,b∈as->h.get? b=a5 o->h'.get? b=a5 o):d_ h' as c :=
 ⟨x.1,λj a e=>let ⟨p,t,u,d,f⟩:=x.2 j a e;⟨p,t,u,d,k a _ (sx e) f⟩⟩
def d_.tail(x:d_ h (a::as) (p::c)):d_ h as c :=
 ⟨by have:=x.1;simpa using this,λj b e=>by
  have⟨q,t,u,d,f⟩:=x.2 (j+1) b (by simpa using e);show⟨q,t,u,by simpa using d,f⟩⟩
theorem d_.iK:∀{as:List fS}{c:List xM},d_ h as c->∃b:List ei,KatTups h (as.map i1) b/\b.length=as.length/\∀v∈b,∃x t,v=wh x t
 |[],_,_=>⟨[],KatTups.nil,rfl,by simp⟩
 |a::as,[],x=>by have:=x.1;simp at this
 |a::as,p::c,x=>by
  have⟨b,d,e,f⟩:=d_.iK x.tail;have⟨q,t,u,i,g⟩:=x.2 0 a rfl;show⟨.str q.1 t::b,KatTups.cons g rfl rfl rfl d,by simp[e],λv hv=>?_⟩;rcases gs.mp hv with rfl|hv
  .show⟨_,_,rfl⟩
  .show f v hv
theorem kW:∀{l:List α}{m:List β}{i:Nat}{x:α},Paired F l m->l[i]?=a5 x->∃y,m[i]?=a5 y/\F x y
 |_,_,_,_,.nil,e=>by simp at e
 |_,_,0,_,.cons r _,e=>by simp at e;subst e;show⟨_,rfl,r⟩
 |_,_,i+1,x,.cons _ t,e=>by
  have⟨u,a,b⟩:=kW (i:=i) (x:=x) t (by simpa using e);show⟨u,by simpa using a,b⟩
section
def AN(x:d_ s.heap as a)(k:(a.map (·.1)).Nodup)(f:i<as.length)(g:j<as.length)(q:C (Jl (a.map (·.1)) i j) s):
  R6 prog w A (tuples' bD) (as.map i1) i j C s:=by
 have⟨p,t,u,e,l⟩:=x.2 i as[i] (by simp[f]);have⟨c,t',u',d,m⟩:=x.2 j as[j] (by simp[g]);have hl:=x.1;have n:i<a.length:=by lia
 have o:j<a.length:=by lia
 have r:(as.map i1).getD i oT=.ref as[i]:=by simp[I_,f]
 have v:(as.map i1).getD j oT=.ref as[j]:=by simp[I_,g]
 have y:(a.map (·.1)).getD i tr=p.1:=by simp[I_,e]
 have z:(a.map (·.1)).getD j tr=c.1:=by simp[I_,d]
 unfold R6;rw[r,v];show kat_lt (b:=bD) l rfl m rfl ?_;unfold Jl at q;rw[y,z]at q;change KatLex prog w A bD (dV (2<2)) C [(.str p.1 t,.str c.1 t'),(.int p.2 u,.int c.2 u')] 0 s;show kat_cons (QV ?_);by_cases h:p.1=c.1
 .have B:i=j:=by
   have D:(a.map (·.1))[i]'(by simpa using n)=(a.map (·.1))[j]'(by simpa using o):=by
    obtain⟨_,G⟩:=eH.mp e;obtain⟨_,H⟩:=eH.mp d;simp[G,H,h]
   show(UR k).mp D
  subst B;rw[e]at d;cases d;rw[Wt rfl];show kat_yes (kat_cons (VR ?_));rw[show(p.2==p.2)=bD by simp];show kat_yes (kat_nil ?_);have:dV (p.1.cps.toList<p.1.cps.toList)=c2:=Wr (List.lt_irrefl _);rw[this]at q;show q
 .rw[Wr h];show kat_no (oneLt_str q)
def AO(x:d_ s.heap as a)(d:(a.map (·.1)).Nodup)(h:2<=as.length):
  hA (hW prog w) A (Wk (as.map i1).toArray) (λκ s'=>s'=s/\∀i j,i<(as.map i1).length->j<(as.map i1).length->∀C:Bool->hH->Prop,C (Jl (a.map (·.1)) i j) s->R6 prog w A κ (as.map i1) i j C s) (λ_ _=>False) s:=by
 have⟨k,e,l,f⟩:=x.iK;show kat_kind (T:=.type "str") e ⋯ (λv g=>?_) rfl ⟨rfl,λi j b c C q=>?_⟩
 .have⟨y,t,rfl⟩:=f v g;show Looks.of_pure rfl
 .rw[d3]at b c;show AN x d b c q
end
abbrev iL(H:Hp):List (fS×List V)->Hp
 |[]=>H
 |(a,vs)::r=>upd (iL H r) a (.tup vs)
theorem jt:∀{l:List (fS×List V)}{b:fS}{o:HO},iL H l b=a5 o->(∃vs,(b,vs)∈l/\o=.tup vs)\/H b=a5 o
 |[],b,o,h=>.inr h
 |(a,vs)::r,b,o,h=>by
  by_cases c:b=a
  .subst c;rw[iL,au]at h;cases h;show .inl ⟨vs,by simp,rfl⟩
  .rw[iL,aj c]at h;rcases jt h with⟨ws,d,e⟩|q
   .show .inl ⟨ws,by simp[d],e⟩
   .show .inr q
theorem ju:∀{l:List (fS×List V)}{b:fS},(∀p∈l,p.1≠b)->iL H l b=H b
 |[],b,_=>rfl
 |(a,vs)::r,b,h=>by
  rw[iL,aj (qs (h _ kl))];show ju λp c=>h p (by simp[c])
theorem qM:∀{l:List (fS×List V)}{b:fS}{vs:List V},(l.map (·.1)).Nodup->(b,vs)∈l->iL H l b=a5 (.tup vs)
 |(a,ws)::r,b,vs,d,h=>by
  have c:a∉r.map (·.1)/\(r.map (·.1)).Nodup:=by simpa using d
  rcases gs.mp h with h|h
  .cases h;show au
  .have:b≠a:=λz=>c.1 (by rw[<-z];show l0.mpr ⟨_,h,rfl⟩);rw[iL,aj this];show qM c.2 h
section
def Inv.many(I:Inv X a σ H s)(k:∀b u,s.heap.get? b=a5 u->h'.get? b=a5 u)(d:∀b o,H b=a5 o->H' b=a5 o)
  (f:∀b o,H' b=a5 o->H b=a5 o\/(s.heap.objs.size<=b/\bu X.prog X.w H' h' b o)):Inv X a σ H' {s with heap:=h',toks:=t' }:=by
 show I.un ⟨λb u q _ _ _=>k b u q,λb u q _ _ _=>⟨u.slots,k b u q⟩,λb u q n _=>?_,λb u q _=>⟨u,k b u q⟩,λb xs q=>d b _ q,λb u xs q=>d b _ q,λb g q=>⟨#[],by rw[d b _ q];simp⟩⟩ λb o e=>?_
 .cases e:H' b with
  |none=>rfl
  |some o =>
   rcases f b o e with z|⟨z,_⟩
   .rw[n]at z;cases z
   .show absurd (i5 (hQ q) z) (rb _)
 .rcases f b o e with z|⟨_,z⟩
  .show(I.EZ b o z).nq (λc v _ q=>k c v q) (λc q=>d c _ q) λc xs q=>d c _ q
  .show z
abbrev Ij(p:xM):List V:=[.str p.1,.int p.2]
def mH{c:List xM}(hc:X.calm=bD)(I:Inv X n σ H s)(e:H d=a5 (.dK (c.map λp=>((ko p.1:Key),V.int p.2))))(FU:(c.map (·.1)).Nodup)(Hs:c.length<64)
  (q:∀(as:List fS) (L:fS),as.length=c.length->as.Nodup->(∀a∈L::as,H a=b5)->L∉as->Q (.ref L) (upd (iL H (as.zip (c.map Ij))) L (.lst ((jr (c.map (·.1))).map λi=>V.ref (as.getD i 0))))) :
  hA (hW X.prog X.w) X.A (KS (.builtin "dict.items") [.ref d]) (λv s1=>hA (hW X.prog X.w) X.A (KS (.builtin "sorted") [v]) (EP X n σ Q) X.xe s1) X.xe s:=by
 have ac:(64:Nat)<=df:=by decide
 have⟨hz,lo,vs,kv,dd⟩:=ur I.EZ e;have D:vs.length=c.length:=by
  have:=Paired.length kv;simpa using this.symm
 have⟨o,es,ep,B⟩:=id dd;show Uu PySem.F.slot_dict_items (show s.TypeIs (.ref d) "dict" from⟨o,B.1,B.2.1.1⟩) PySem.F.entry_dict_items (PySem.F.args_dict_items_1 _) (meets_dict_items (aG X.prog X.w) d lo) ⟨⟨vs,dd⟩,?_⟩;change hA (hW X.prog X.w) X.A (KS (.builtin "sorted") [.ref s.heap.objs.size]) (EP X n σ Q) X.xe {s with heap:=s.heap.push {cls:=.type "dict_items",data:=.fields #[.ref d]}};have O:∀b u,s.heap.get? b=a5 u->(s.heap.push {cls:=.type "dict_items",data:=.fields #[.ref d]}).get? b=a5 u:=λb u z=>c4 _ z;have T8:(s.heap.push {cls:=.type "dict_items",data:=.fields #[.ref d]}).DictOf (aG X.prog X.w) d vs:=⟨o,es,ep,O _ _ B.1,B.2⟩
 have IC:(s.heap.push {cls:=.type "dict_items",data:=.fields #[.ref d]}).DictAt (aG X.prog X.w) d vs ep:=⟨o,es,O _ _ B.1,B.2⟩
 show MJ Vb UB UD (UE _) ?_;unfold J6.«sorted»;show cc (m:=Vp "sorted" 1 1 _) (eL ?_);show cc (kdx_collect (A:=X.A.in1) (knd:=aG X.prog X.w) (kvs:=vs) (ep:=ep) (I.ok.hd hc) ⟨_,hh _ rfl,rfl,rfl⟩ IC ⋯ λf tk as hk hl G=>?_);have J:as.length=c.length:=hl.trans D;have g:∀a∈as,s.heap.objs.size<=a:=λa ha=>by
  have:=G.above a ha;have z:(s.heap.push {cls:=.type "dict_items",data:=.fields #[.ref d]}).objs.size=s.heap.objs.size+1:=GR ..;have PH:(s.heap.push {cls:=.type "dict_items",data:=.fields #[.ref d]}).objs.size<a:=this;lia
 have pa:d_ f as c:=⟨J,λj a ea=>by
  have⟨T,k,x,Y,e2,e3⟩:=G.pairs j a ea;have C:j<c.length:=by rw[<-J];show(eH.mp ea).1
  have⟨y,ey,r1,r2⟩:=kW kv (i:=j) (x:=((ko c[j].1:Key),V.int c[j].2)) (by simp[C]);rw[Y]at ey;cases ey;obtain⟨tx,rfl⟩:∃t,x=.int c[j].2 t:=r2;have RY:k=ko c[j].1:=r1.symm;subst RY;have⟨t,rfl⟩:=To (x:=c[j].1) (v:=T) e2;show⟨c[j],t,tx,by simp[C],e3⟩⟩
 have nd:as.Nodup:=G.rise.imp λh=>i2 h;show cc (O7 ?_ (by rw[d3];lia));have Hn:(f.push (t4 "list" (as.map i1).toArray 0)).get? f.objs.size=a5 (t4 "list" (as.map i1).toArray 0):=hh _ rfl;change hA _ _ _ _ _ {s with heap:=f.push (t4 "list" (as.map i1).toArray 0),toks:=tk};have Mp:∀a∈as,a<f.objs.size:=λa ha=>G.there ha;show cc (va (KH S0 ⟨_,Hn,rfl⟩ RU (kU (lt:=Jl (c.map (·.1))) Hn (by rw[d3];lia) (λh2 s1 ks=>?_) ⟨_,rfl,?_⟩) (Tf _)))
 .show AO (pa.keeps λb o N z=>ks b o (i2 (Mp b N)) (c4 _ z)) FU (by rw[d3]at h2;show h2)
 .have⟨ee,he⟩:=TX (out:=((cZ (Jl (c.map (·.1))) (HZ (as.map i1).length)).toList.map λi=>(as.map i1).getD i oT).toArray) Hn;have r:∀b o,f.get? b=a5 o->(SV (f.push (t4 "list" (as.map i1).toArray 0)) f.objs.size (as.map i1) ((cZ (Jl (c.map (·.1))) (HZ (as.map i1).length)).toList.map λi=>(as.map i1).getD i oT).toArray).get? b=a5 o:=λb o z=>by
   have Fp:b<f.objs.size:=hQ z;rw[SU (i2 Fp) (by rw[GR];show Ic Fp)];show c4 _ z
  have JH:s.heap.objs.size<=f.objs.size:=Ie (hQ (hk _ _ (hh _ rfl)));have eP:((cZ (Jl (c.map (·.1))) (HZ (as.map i1).length)).toList)=jr (c.map (·.1)):=by
   unfold jr;rw[d3,d3,J]
  have Kn:H f.objs.size=b5:=I.EZ.fresh JH;have RZ:f.objs.size∉as:=λz=>rb _ (Mp _ z);have PJ:∀a∈as,H a=b5:=λa ha=>I.EZ.fresh (g a ha);have N5:∀{b:fS} {ws:List V},(b,ws)∈as.zip (c.map Ij)->b∈as:=λz=>(Lw z).1;show eL ⟨_,rfl,.ref f.objs.size,upd (iL H (as.zip (c.map Ij))) f.objs.size (.lst ((jr (c.map (·.1))).map λi=>V.ref (as.getD i 0))),?_,rfl,q as _ J nd (λa ha=>?_) RZ⟩
  .show I.many (λb u z=>r b u (hk b u (O b u z))) (λb o z=>?_) λb o z=>?_
   .have n1:b≠f.objs.size:=λy=>by rw[y,Kn]at z;cases z
    rw[aj n1,ju λp hp y=>?_]
    .show z
    .have:=PJ p.1 (N5 (b:=p.1) (ws:=p.2) hp);rw[y,z]at this;cases this
   .by_cases N:b=f.objs.size
    .subst N;rw[au]at z;cases z;show .inr ⟨JH,by rw[d3,(gV _).length_eq,Fw,d3];lia,(jr (c.map (·.1))).map λi=>(as.map i1).getD i oT,ee,?_,?_⟩
     .have GS:∀i∈jr (c.map (·.1)),i<as.length:=λi hi=>by
       have:=I0.mp ((gV _).mem_iff.mp hi);rw[d3]at this;lia
      generalize jr (c.map (·.1))=l at GS;induction l with
      |nil=>show .nil
      |cons i l ih =>
       show .cons ?_ (ih λj C=>GS j (by simp[C]));have hi:=GS i (by simp);change RelV (.ref (as.getD i 0)) ((as.map i1).getD i oT);have:(as.map i1).getD i oT=.ref (as.getD i 0):=by simp[I_,hi]
       rw[this];rfl
     .rw[<-eP];show he
    .rw[aj N]at z;rcases jt z with⟨ws,z1,rfl⟩|z1
     .have⟨j,C,ej⟩:=Lq.mp z1;have N6:j<as.length:=by simp at C;lia
      have N4:j<c.length:=by lia
      have R0:as[j]=b/\Ij c[j]=ws:=by simpa using ej
      have⟨rfl,rfl⟩:=R0;have⟨p,t,u,Y,e2⟩:=pa.2 j as[j] (by simp[N6]);have:p=c[j]:=by simpa[N4] using Y.symm
      subst this;show .inr ⟨g _ (by simp),by change 2<=df;lia,[.str c[j].1 t,.int c[j].2 u],.cons ⟨t,rfl⟩ (.cons ⟨u,rfl⟩ .nil),_,r _ _ e2,rfl,0,rfl⟩
     .show .inl z1
  .rcases gs.mp ha with rfl|ha
   .show Kn
   .show PJ a ha
end
section
def Inv.freeze(I:Inv X a σ H s)(c:H r=a5 (.dK kvs))(ho:s.heap.get? r=a5 o):Inv X a σ (upd H r (.FO o (.dK kvs))) s:=by
 have d:∀b u,H b=a5 u->u≠.dK kvs->b≠r:=λb u e n z=>by subst z;rw[c]at e;cases e;show n rfl
 show I.write (t':=s.toks) (x:=r) (e:=r) (by rw[c];trivial) (.inl rfl) (λb u _ q=>q) ⟨o,ho⟩ ⟨ho,(I.EZ r _ c).nq (λ_ _ _ q=>q) (λb q=>by rw[aj (d b _ q (λz=>by cases z))];show q) λb xs q=>by rw[aj (d b _ q (λz=>by cases z))];show q⟩
end
def AQ(h:(aG P w).is k u=bD):RelV (kV k) u:=by
 rcases aT (show iq k u=bD from h) with⟨i,t,rfl,rfl⟩|⟨y,t,rfl,rfl⟩
 .show⟨t,rfl⟩
 .show⟨t,rfl⟩
theorem zx:∀{kvs:List (Key×V)}{vs:List (Key×ei)},KV kvs vs->∀(i:Nat) (h:i<kvs.length) (h':i<vs.length),kvs[i].1=vs[i].1/\RelV kvs[i].2 vs[i].2
 |_,_,.cons a _,0,_,_=>a
 |_,_,.cons _ b,i+1,h,h'=>zx b i (by simpa using h) (by simpa using h')
section
end
section
abbrev EC(b:TE):TE:=λσ H Q=>b σ H λv a=>∃r kvs,v=.ref r/\a r=a5 (.dK kvs)/\∀o,Q v (upd a r (.FO o (.dK kvs)))
def AR(d:PE X e f):PE X e (EC f):=by
 intro a s σ H Q I g;show E2 (d a s σ H _ I g) λv s1 h=>?_;have⟨n,i,b,j,r,kvs,k,c,l⟩:=h;subst k;obtain⟨_,_,_,_,o,_,_,m,_⟩:=(show bu X.prog X.w i s1.heap r (.dK kvs) from b.EZ r _ c)
 show⟨_,_,b.freeze c m,j,l o⟩
abbrev N8(r:fS)(o:Obj)(kvs:List (Key×V)):It :=
 ⟨λi H=>H r=a5 (.FO o (.dK kvs))/\i<kvs.length,λi H x H'=>H'=H/\∀k v,kvs[i]?=a5 (k,v)->x=kV k,λi H=>H r=a5 (.FO o (.dK kvs))/\kvs.length<=i⟩
def sF{K:PySem.W.Frag}(l:o.data=.dict O ep):
  Turn P w K tg (N8 r o kvs) [it] it (λi h=>h.IsKeyIter it r i kvs.length ep) where
 mem:=by simp
 obj:=λi h st b f=>by
  rw[js.mp f];have⟨o,e,c,d⟩:=st;show⟨o,e,λv z=>by rw[d]at z;cases z⟩
 keep:=λi h h' st k=>st.at λo e=>k it (by simp) o e
 item:=by
  intro X n p hK Q i a s σ H E I m st t;subst n p;have⟨u,x⟩:=t;have⟨ho,z1,z2,vs,kv,o',R4,KI,g,y,j,A⟩:=(show bu X.prog X.w H s.heap r (.FO o (.dK kvs)) from I.EZ r _ u)
  rw[ho]at g;cases g;rw[l]at j;cases j;have hl:vs.length=kvs.length:=(Paired.length kv).symm;have B:s.heap.DictAt (aG X.prog X.w) r vs ep:=⟨o,O,ho,y,l,A⟩
  obtain⟨q,hq,e1⟩:∃q,vs[i]?=a5 q/\kvs[i].1=q.1:=by
   have T:i<vs.length:=by lia
   show⟨vs[i],by simp[T],(zx kv i x T).1⟩
  have⟨C,D,f2,G,J,L⟩:=m it (by simp);rw[<-hl]at st;show wpAny_pyNext_dict_item st B (k:=q.1) (v:=q.2) hq λN h' hk st' sb=>?_;have I1:Inv X a σ H {s with heap:=h' }:=I.turned (t':=s.toks) (λb o f e=>(sb.2 b f).trans e) C D G J L;have⟨o2,e,c,d⟩:=id st';show⟨N,rfl,qw (s:={s with heap:=h' }) e c d (by decide) ⟨kV q.1,H,I1,AQ hk,⟨rfl,λk v Y=>?_⟩,by rw[hl]at st';show st',λb f=>(m b f).1⟩⟩;rw[tj x]at Y;rw[<-e1,ra Y]
 done:=by
  intro X n p hK Q i a s σ H E I m st t;subst n p;have⟨u,x⟩:=t;have⟨ho,z1,z2,vs,kv,o',R4,KI,g,y,j,A⟩:=(show bu X.prog X.w H s.heap r (.FO o (.dK kvs)) from I.EZ r _ u)
  rw[ho]at g;cases g;rw[l]at j;cases j;have hl:vs.length=kvs.length:=(Paired.length kv).symm;have B:s.heap.DictAt (aG X.prog X.w) r vs ep:=⟨o,O,ho,y,l,A⟩
  have⟨C,D,f2,G,J,L⟩:=m it (by simp);rw[<-hl]at st;show wpAny_pyNext_dict_end (I.ok.hd Q) st B (HR ⋯) λh' eb=>⟨rfl,I.turned (t':=s.toks) (λb o f e=>eb b o f e) C D G J L⟩
 self:=λ_ _ _ _ _ st h=>wpAny_pyIter_keyiter st h
abbrev CS(b:TE):TI:=λσ H R=>b σ H λv a=>∃r o kvs,v=.ref r/\a r=a5 (.FO o (.dK kvs))/\R (N8 r o kvs) a
def xN(j:PE X e k):PI X tg e (CS k):=by
 intro a s σ H R I h;show E2 (j a s σ H _ I h) λv s1 l=>?_;have⟨x,d,c,m,r,o,kvs,f,n,p⟩:=l;subst f;cases(show v=i1 r from m);have⟨ho,f,lo,vs,kv,o',q,ep,g,t,i,u⟩:=(show bu X.prog X.w d s1.heap r (.FO o (.dK kvs)) from c.EZ r _ n)
 rw[ho]at g;cases g;have hl:vs.length=kvs.length:=(Paired.length kv).symm;have y:s1.heap.DictAt (aG X.prog X.w) r vs ep:=⟨o,q,ho,t,i,u⟩
 show wpAny_pyIter_dict lo y ?_;show⟨s1.heap.objs.size,[s1.heap.objs.size],_,_,d,rfl,c.kept (t':=s1.toks) λb o e=>c4 _ e,sF (kvs:=kvs) i,⟨_,hh _ rfl,rfl,by rw[hl];rfl⟩,λb z=>?_,p⟩;have e:b=s1.heap.objs.size:=by simpa using z
 subst e;show c.xn (hY _) (c.EZ.fresh (hY _))
end
abbrev ku:List Str->List Str->Bool
 |[],[]=>c2
 |[],_::_=>bD
 |_::_,[]=>c2
 |x::xs,y::ys=>if x=y then ku xs ys else dV (x.cps.toList<y.cps.toList)
abbrev StrsAre(a:Array ei)(xs:List Str):Prop:=a.size=xs.length/\∀(j:Nat) (x:Str),xs[j]?=a5 x->∃t,a[j]?=a5 (.str x t)
section
open AutoSeq1 (wpAny_loadPart')
open PySem.MeetsSeq PySem.MeetsSeq3
def xO(l b:fS)(c f:Array ei)(n C:Nat)(D G:Option fS)(H I:Array (Option ei))(xs ys:List Str)(v:StrsAre c xs)(x:StrsAre f ys)(k:Nat):
  ∀i:Nat,c.size - i=k->i<=xs.length->i<=ys.length->Meets (J6.«list.__eq__.loop» ⟨[.ref l,.ref b,u5 i,u5 0],[]⟩)
   (λ_ R s=>s.heap.get? l=a5 {cls:=.type "list",dict:=D,data:=.seq c n,slots:=H}/\s.heap.get? b=a5 {cls:=.type "list",dict:=G,data:=.seq f C,slots:=I} /\
    R (.ok (.ret (.bool (ku (xs.drop i) (ys.drop i))))) s):=by
 have z1:=v.1;have z2:=x.1;induction k with
 |zero =>
  intro i hk J L prog w A R s h;have⟨y,g,d,z,os⟩:=s;have⟨hl,j,h⟩:=h
  wp_walk using u6 hl,u6 j
  have o:c[((i:Nat):Int).toNat]?=b5:=by simp;lia
  have r:xs.drop i=[]:=by simp;lia
  rw[r]at h;rw[o]
  wp_walk using u6 hl,u6 j
  change R (.ok (.ret (.bool (dV (c.size<f.size))))) _;have e:ku [] (ys.drop i)=dV (c.size<f.size):=by
   cases B:ys.drop i with
   |nil =>
    have:ys.length<=i:=by simpa using B
    rw[Wr ⋯];rfl
   |cons a l =>
    have:i<ys.length:=by
     have:=Wv D' B;simp at this;lia
    rw[Wt ⋯];rfl
  rw[<-e];show h
 |succ k N =>
  intro i hk J L prog w A R s h;have⟨y,g,d,z,os⟩:=s;have⟨hl,j,h⟩:=h
  wp_walk using u6 hl,u6 j
  have O:i<xs.length:=by lia
  have⟨t,Q⟩:=v.2 i xs[i] (by simp[O]);have o:c[((i:Nat):Int).toNat]?=a5 (.str xs[i] t):=by simpa using Q
  have r:xs.drop i=xs[i]::xs.drop (i+1):=by simp
  rw[r]at h;rw[o];by_cases T:i<ys.length
  .have⟨u,Y⟩:=x.2 i ys[i] (by simp[T]);have p:f[((i:Nat):Int).toNat]?=a5 (.str ys[i] u):=by simpa using Y
   have m:ys.drop i=ys[i]::ys.drop (i+1):=by simp
   have hc:((i:Int)+1)=((i+1:Nat):Int):=by push_cast;rfl
   rw[m]at h;rw[p];unfold ku at h;show cc (QV ?_);by_cases q:xs[i]=ys[i]
   .rw[Wq q]at h;rw[Wt q]
    wp_walk
    rw[hc];show⟨KW O' _,z9 entry_eq_loop (by
     rw[D2 O' _];show N (i+1) ⋯ ⋯ ⋯ prog w A R _ ⟨hl,j,h⟩)⟩
   .rw[Ws q]at h;rw[Wr q]
    wp_walk using u6 hl,u6 j
    rw[o,p];show cc (V2 (s:=⟨y,g,d,z,os⟩) ?_);show eL h
  .have p:f[((i:Nat):Int).toNat]?=b5:=by simp;lia
   have m:ys.drop i=[]:=by simp;lia
   rw[m]at h;rw[p]
   wp_walk using u6 hl,u6 j
   change R (.ok (.ret (.bool (dV (c.size<f.size))))) _;rw[Wr ⋯];show h
def xP(l b:fS)(a c:Array ei)(n e:Nat)(f i:Option fS)(j k:Array (Option ei))(xs ys:List Str)(o:StrsAre a xs)(p:StrsAre c ys):
  Meets (J6.«list.__lt__» ⟨[.ref l,.ref b],[]⟩)
   (λ_ R s=>s.heap.get? l=a5 {cls:=.type "list",dict:=f,data:=.seq a n,slots:=j}/\s.heap.get? b=a5 {cls:=.type "list",dict:=i,data:=.seq c e,slots:=k} /\
    R (.ok (.ret (.bool (ku xs ys)))) s):=by
 intro prog w A R s h;have⟨q,g,d,r,os⟩:=s;have⟨hl,m,h⟩:=h;have t:=M0
 wp_walk using u6 hl,u6 m
 show⟨KW O' _,z9 entry_eq_loop (by
  rw[D2 O' _];show xO l b a c n e f i j k xs ys o p _ 0 rfl (kj _) (kj _) prog w A R _ ⟨hl,m,h⟩)⟩
end
abbrev nQ(h:Gz)(as:List fS)(ks:List (List Str)):Prop:=as.length=ks.length/\∀(j:Nat) (a:fS),as[j]?=a5 a->∃k b o n,ks[j]?=a5 k/\h.get? a=a5 o/\o.cls=.type "list"/\o.data=.seq b n/\StrsAre b k
def nQ.keeps(x:nQ h as ks)(k:∀b o,b∈as->h.get? b=a5 o->h'.get? b=a5 o):nQ h' as ks :=
 ⟨x.1,λj a e=>let ⟨k0,t,o,n,c,d,f⟩:=x.2 j a e;⟨k0,t,o,n,c,k a o (sx e) d,f⟩⟩
abbrev uQ(ks:List (List Str))(i j:Nat):Bool:=ku (ks.getD i []) (ks.getD j [])
section
def AS(r:A.units<Hg)(x:nQ s.heap as ks)(t:2<=as.length):
  hA (hW prog w) A (Wk (as.map i1).toArray) (λκ s'=>s'=s/\∀i j,i<(as.map i1).length->j<(as.map i1).length->∀C:Bool->hH->Prop,C (uQ ks i j) s->R6 prog w A κ (as.map i1) i j C s) (λ_ _=>False) s:=by
 show kas_kind (T:=.type "list") (by rw[d3];show t) (λv u=>?_) rfl rfl ⟨rfl,λi j h b C q=>?_⟩
 .have⟨a,y,rfl⟩:=l0.mp u;have⟨j,b,z⟩:=Lq.mp y;obtain⟨k,l,o,n,m,e,g,_⟩:=x.2 j a (by simp[b,z]);show(Looks.ld e).andThen ?_;rw[g];show .now
 .rw[d3]at h b;have⟨k,l,o,n,m,e,g,B,D⟩:=x.2 i as[i] (by simp[h]);have⟨k',its',o',G,H,I,J,L,N⟩:=x.2 j as[j] (by simp[b]);have O:(as.map i1).getD i oT=.ref as[i]:=by simp[I_,h]
  have Q:(as.map i1).getD j oT=.ref as[j]:=by simp[I_,b]
  have Y:C (ku k k') s:=by
   unfold uQ at q
   rwa [I_,m,I_,H]at q
  unfold R6;rw[O,Q,keyLt'_oneType,oneLt'_eq];simp only[if_true];show cc (wpAny_cRoomFor r ?_);have p:s.TypeIs (.ref as[i]) "list":=⟨o,e,g⟩
  have⟨c,d,f,sl⟩:=o;have⟨c',d',f',MT⟩:=o';cases g;cases B;cases J;cases L;show cc (wpAny_callSpecialIfBound?_slot p PySem.F.slot_list_lt (M6 PySem.F.slot_list_lt p PySem.F.entry_list_lt (PySem.F.args_list_lt_2 _ _) (xP as[i] as[j] l its' n G d d' sl MT k k' D N) ⟨e,I,GO Y⟩))
end
abbrev kA:List (List Str)->Bool
 |x::y::r=>!ku y x&&kA (y::r)
 |_=>bD
theorem qN:∀{ks:List (List Str)}{i:Nat},kA ks=bD->i+1<ks.length->uQ ks (i+1) i=c2
 |x::y::r,0,h,_=>by
  simp only[kA,b6,rz]at h;show h.1
 |x::y::r,i+1,h,a=>by
  simp only[kA,b6]at h;show qN (ks:=y::r) (i:=i) h.2 (by simpa using a)
 |[x],i,_,a=>by simp at a
 |[],i,_,a=>by simp at a
theorem qO(h:∀i,i+1<n->lt (i+1) i=c2):∀(f k:Nat),f+k=n->1<=k->cZ lt (kas_asc (J8 (i3 n)) f k)=n
 |0,k,e,_=>by
  change k=n;lia
 |f+1,k,e,c=>by
  change cZ lt (if lt ((J8 (i3 n)).getD k 0) ((J8 (i3 n)).getD (k - 1) 0)=bD then _ else _)=_;have a:(J8 (i3 n)).getD k 0=k:=by simp[QL,show k<n by lia]
  have b:(J8 (i3 n)).getD (k - 1) 0=k - 1:=by simp[QL,show k - 1<n by lia]
  rw[a,b];have:=h (k - 1) ⋯;rw[show k - 1+1=k by lia]at this;rw[this,Ws i0];show qO h f (k+1) ⋯ ⋯
theorem gW:∀t:Wg α,cZ lt (t.bind f)=cZ lt (f (cZ lt t))
 |.ret _=>rfl
 |.ask i j k=>gW (k (lt i j))
def uR(h:∀i,i+1<n->lt (i+1) i=c2):(cZ lt (HZ n)).toList=i3 n:=by
 cases n with
 |zero=>show Vw.mp (gw lt 0)
 |succ n =>
  have e:cZ lt (Ug (n+1) (J8 (i3 (n+1))))=(n+1,J8 (i3 (n+1))):=by
   unfold Ug;rw[gW,qO h (n+1 - 1) 1 ⋯ ⋯,Wq (beq_self_eq_true _)];rfl
  unfold HZ;rw[gW,e,Ws (rb _)];rfl
section
def pB{as:List fS}(D:X.A.units+60<Hg)(I:Inv X d σ H s)(e:Fj X.K H L (as.map V.ref))(hl:as.length=ks.length)
  (T:∀(j:Nat) a k,as[j]?=a5 a->ks[j]?=a5 k->Fj X.K H a (k.map V.str)) (hs:kA ks=bD) (Hs:as.length<64)
  (q:∀y,H y=b5->Q (.ref y) (upd H y (.lst (as.map V.ref)))) :
  hA (hW X.prog X.w) X.A (KS (.builtin "sorted") [.ref L]) (EP X d σ Q) X.xe s:=by
 have Y:(64:Nat)<=df:=by decide
 have⟨c,rv,pl,hz⟩:=I.list e;have N_:c=as.map i1:=by
  have:∀(as:List fS) (c:List ei),Vals (as.map V.ref) c->c=as.map i1:=λas=>by
   induction as with
   |nil=>intro c h;cases h;rfl
   |cons a as ih =>
    intro c h;cases h with
    |cons r t=>rw[ih _ t];cases r;rfl
  show this as c rv
 subst N_;have G:nQ s.heap as ks:=⟨hl,λj a p=>by
  have v:j<ks.length:=by rw[<-hl];show(eH.mp p).1
  obtain⟨us,r,⟨o,n,B,f,h3,h4⟩,_⟩:=I.list (T j a ks[j] p (by simp[v]));show⟨ks[j],us.toArray,o,n,by simp[v],B,f,h4,by rw[fR,<-r.length,d3],λi x hx=>?_⟩;have⟨u,D,ru⟩:=r.get (i:=i) (x:=.str x) (by rw[i6,hx];rfl);have⟨t,rfl⟩:=ru;show⟨t,by simpa using D⟩⟩
 show MJ Vb UB UD (UE _) ?_;unfold J6.«sorted»;show cc (m:=Vp "sorted" 1 1 _) (eL ?_);show cc (collect_list pl.isList ?_ (by simp;lia));generalize J:(s.heap.push (t4 "list" #[] 0)).update s.heap.objs.size (mx (·++(as.map i1).toArray))=g;have N:∀b o,s.heap.get? b=a5 o->g.get? b=a5 o:=λb o z=>by subst J;show fw z
 have hsz:s.heap.objs.size<=g.objs.size:=by subst J;rw[UM,GR];show Jy _
 have Mp:∀a∈as,a<g.objs.size:=λa ha=>by
  have⟨j,v,p⟩:=Lq.mp ha;obtain⟨_,_,o,_,_,z,_⟩:=G.2 j a (by simp[v,p]);show i5 (hQ z) hsz
 show cc (O7 ?_ (by rw[d3];lia));have C:(g.push (t4 "list" (as.map i1).toArray 0)).get? g.objs.size=a5 (t4 "list" (as.map i1).toArray 0):=hh _ rfl;change hA _ _ _ _ _ {s with heap:=g.push (t4 "list" (as.map i1).toArray 0)};show cc (va (KH S0 ⟨_,C,rfl⟩ RU (kU (lt:=uQ ks) C (by rw[d3];lia) (λf s1 kp=>?_) ⟨_,rfl,?_⟩) (Tf _)))
 .show AS ?_ (G.keeps λb o hb z=>kp b o (i2 (Mp b hb)) (c4 _ (N b o z))) (by rw[d3]at f;show f);have:X.A.in1.in1.units<=X.A.units+2:=hY _;lia
 .have eP:(cZ (uQ ks) (HZ (as.map i1).length)).toList=i3 as.length:=by
   rw[d3];show uR λi hi=>qN hs (by rw[<-hl];show hi)
  rw[eP];have eV:((i3 as.length).map λi=>(as.map i1).getD i oT)=as.map i1:=by
   apply Px
   .simp
   .intro i B f;have:i<as.length:=by simpa using B
    simp[I_,this]
  rw[eV];have⟨ee,he⟩:=TX (out:=(as.map i1).toArray) C;have l:∀b o,g.get? b=a5 o->(SV (g.push (t4 "list" (as.map i1).toArray 0)) g.objs.size (as.map i1) (as.map i1).toArray).get? b=a5 o:=λb o z=>by
   have O:b<g.objs.size:=hQ z;rw[SU (i2 O) (by rw[GR];show Ic O)];show c4 _ z
  show eL ⟨_,rfl,.ref g.objs.size,_,I.laid (t':=s.toks) (o:=.lst (as.map V.ref)) (λb u z=>l b u (N b u z)) hsz ⟨by rw[d3];lia,as.map i1,ee,rv,he⟩,rfl,q _ (I.EZ.fresh hsz)⟩
end
end L2
namespace TM
open PySem L2
inductive U where
 |EY|bl (b:Bool)|int (i:Int)|str (x:Str)
 |tup (xs:List U)|lst (xs:List U)
 |EX (ks:List Str) (vs:List U)
 |HS (xs:List U)
 |Fm (ks:List Str) (vs:List U)
mutual
noncomputable def Fu:U->Bool
 |.tup xs=>bK xs
 |.lst _=>c2
 |.EX _ _=>c2
 |.HS _=>c2
 |.Fm _ xs=>bK xs
 |.EY=>bD|.bl _=>bD|.int _=>bD|.str _=>bD
noncomputable def bK:List U->Bool
 |[]=>bD
 |u::us=>Fu u&&bK us
end
inductive Kd where|own|io|loc|any|bor (j:Nat)|B'
deriving DecidableEq
abbrev Kd.root:Kd->Bool
 |.own=>bD
 |.io=>bD
 |_=>c2
@[reducible]def av:=List (Option (Kd×U))
structure Ct where
 P:vr
 w:x8
 K:PySem.W.Frag
 H₀:Hp
 G4:fS->Prop
 IO:fS->Prop
abbrev KL(K:PySem.W.Frag)(a:fS)(xs:List V):Prop :=
 ∃(o:Obj) (b:Array ei) (n:Nat),K.lookup a=a5 o/\o.cls=.type "list"/\o.dict=b5/\o.data=.seq b n/\b.size<=df/\Vals xs b.toList
abbrev uS(K:PySem.W.Frag)(S:fS->Prop)(H:Hp)(a:fS)(vs:List V):Prop:=(S a/\Rd H a (.lst vs))\/KL K a vs
def uS.sq(h:uS K S H a vs):Fj K H a vs:=h.elim (λz=>.inl z.2) .inr
abbrev Ll(K:PySem.W.Frag)(S:fS->Prop)(H:Hp)(a:fS)(vs:List V):Prop:=S a/\H a=a5 (.lst vs)
def Ll.sq(h:Ll K S H a vs):Fj K H a vs:=.inl (.inl h.2)
abbrev Jn(H:Hp)(R:List V->Prop)(a:fS)(ks:List Str):Prop:=∃kvs:List (Key×V),H a=a5 (.dK kvs)/\kvs.map (·.1)=ks.map ko/\R (kvs.map (·.2))
abbrev R8(H:Hp)(R:List V->Prop)(a:fS)(ks:List Str):Prop:=∃(o:Obj) (kvs:List (Key×V)),H a=a5 (.FO o (.dK kvs))/\kvs.map (·.1)=ks.map ko/\R (kvs.map (·.2))
section
variable(C:Ct)(S:fS->Prop)(H:Hp)
mutual
def Rep:U->V->Prop
 |.EY,v=>v=.EY
 |.bl b,v=>v=.bl b
 |.int i,v=>v=.int i
 |.str x,v=>v=.str x
 |.tup us,v=>∃a vs,v=.ref a/\FH C.K H a vs/\ah us vs
 |.lst us,v=>∃a vs,v=.ref a/\Ll C.K S H a vs/\ah us vs
 |.EX ks us,v=>∃a,v=.ref a/\S a/\Jn H (ah us) a ks
 |.HS us,v=>∃a vs,v=.ref a/\uS C.K S H a vs/\ah us vs
 |.Fm ks us,v=>∃a,v=.ref a/\R8 H (ah us) a ks
def ah:List U->List V->Prop
 |[],vs=>vs=[]
 |u::us,vs=>∃v r,vs=v::r/\Rep u v/\ah us r
end
end
def Tp:HO->Prop
 |.tup _=>True
 |.FO _ (.tup _)=>True
 |.FO _ (.dK _)=>True
 |_=>False
structure Mv(S:fS->Prop)(H:Hp)(S':fS->Prop)(H':Hp):Prop where
 sub:∀a,S a->S' a
 Kp:∀a o,H a=a5 o->Tp o->H' a=a5 o
 Mt:∀a o,S a->H a=a5 o->H' a=a5 o
def Mv.R9(m:Mv S H S' H')(h:FH K H a vs):FH K H' a vs:=by
 rcases h with(h|⟨o,h⟩)|h
 .show .inl (.inl (m.Kp a _ h trivial))
 .show .inl (.inr ⟨o,m.Kp a _ h trivial⟩)
 .show .inr h
def Mv.ED(m:Mv S H S' H')(h:uS K S H a vs):uS K S' H' a vs:=by
 rcases h with⟨s,h|⟨o,h⟩⟩|h
 .show .inl ⟨m.sub a s,.inl (m.Mt a _ s h)⟩
 .show .inl ⟨m.sub a s,.inr ⟨o,m.Mt a _ s h⟩⟩
 .show .inr h
def Mv.R_(m:Mv S H S' H')(h:Ll K S H a vs):Ll K S' H' a vs:=⟨m.sub a h.1,m.Mt a _ h.1 h.2⟩
def Jn.mv(b:∀o,H a=a5 o->H' a=a5 o)(c:∀vs,R vs->d vs)(h:Jn H R a ks):Jn H' d a ks :=
 let ⟨kvs,e,f,g⟩:=h;⟨kvs,b _ e,f,c _ g⟩
section
mutual
theorem Rep.Im(m:Mv S H S' H'):∀(u:U) (v:V),Rep C S H u v->Rep C S' H' u v
 |.EY,_,h=>h
 |.bl _,_,h=>h
 |.int _,_,h=>h
 |.str _,_,h=>h
 |.tup us,v,h=>by
  have⟨a,vs,e,b,c⟩:=h;show⟨a,vs,e,m.R9 b,ah.Im m us vs c⟩
 |.lst us,v,h=>by
  have⟨a,vs,e,b,c⟩:=h;show⟨a,vs,e,m.R_ b,ah.Im m us vs c⟩
 |.EX ks us,v,h=>by
  have⟨a,e,b,c⟩:=h;show⟨a,e,m.sub a b,c.mv (λo q=>m.Mt a o b q) λvs q=>ah.Im m us vs q⟩
 |.HS us,v,h=>by
  have⟨a,vs,e,b,c⟩:=h;show⟨a,vs,e,m.ED b,ah.Im m us vs c⟩
 |.Fm ks us,v,h=>by
  have⟨a,e,o,kvs,b,c,d⟩:=h;show⟨a,e,o,kvs,m.Kp a _ b trivial,c,ah.Im m us _ d⟩
theorem ah.Im(m:Mv S H S' H'):∀(us:List U) (vs:List V),ah C S H us vs->ah C S' H' us vs
 |[],_,h=>h
 |u::us,vs,h=>by
  have⟨v,r,e,a,b⟩:=h;show⟨v,r,e,Rep.Im m u v a,ah.Im m us r b⟩
end
mutual
theorem Rep.pC:∀(u:U) (v:V),Fu u=bD->Rep C S H u v->Rep C S' H u v
 |.EY,_,_,h=>h
 |.bl _,_,_,h=>h
 |.int _,_,_,h=>h
 |.str _,_,_,h=>h
 |.tup us,v,i,h=>by
  have⟨a,vs,e,b,c⟩:=h;show⟨a,vs,e,b,ah.pC us vs (by simpa[TM.Fu] using i) c⟩
 |.lst us,v,i,h=>by simp[TM.Fu]at i
 |.EX ks us,v,i,h=>by simp[TM.Fu]at i
 |.HS us,v,i,h=>by simp[TM.Fu]at i
 |.Fm ks us,v,i,h=>by
  have⟨a,e,o,kvs,b,c,d⟩:=h;show⟨a,e,o,kvs,b,c,ah.pC us _ (by simpa[TM.Fu] using i) d⟩
theorem ah.pC:∀(us:List U) (vs:List V),bK us=bD->ah C S H us vs->ah C S' H us vs
 |[],_,_,h=>h
 |u::us,vs,i,h=>by
  have⟨v,r,e,b,c⟩:=h;have a:TM.Fu u=bD/\bK us=bD:=by simpa[bK] using i
  show⟨v,r,e,Rep.pC u v a.1 b,ah.pC us r a.2 c⟩
end
def Rep.mv(m:Mv S H S' H')(h:Rep C S H u v):Rep C S' H' u v:=Rep.Im m u v h
def ah.mv(m:Mv S H S' H')(h:ah C S H us vs):ah C S' H' us vs:=ah.Im m us vs h
def Rep.Fu(i:TM.Fu u=bD)(h:Rep C S H u v):Rep C S' H u v:=Rep.pC u v i h
def ah.Fu(i:bK us=bD)(h:ah C S H us vs):ah C S' H us vs:=ah.pC us vs i h
def Mv.up(sub:∀a,S a->S' a):Mv S H S' H:=⟨sub,λ_ _ h _=>h,λ_ _ _ h=>h⟩
theorem ah.len:∀{us:List U}{vs:List V},ah C S H us vs->us.length=vs.length
 |[],_,h=>by cases h;rfl
 |u::us,vs,h=>by
  obtain⟨v,r,rfl,_,a⟩:=h;rw[mu,mu,ah.len a]
theorem ah.get:∀{us:List U}{vs:List V}{i:Nat}{u:U},ah C S H us vs->us[i]?=a5 u->∃v,vs[i]?=a5 v/\Rep C S H u v
 |[],_,_,_,_,e=>by simp at e
 |u::us,vs,0,w,h,e=>by
  obtain⟨v,r,rfl,a,_⟩:=h;simp at e;subst e;show⟨v,rfl,a⟩
 |u::us,vs,i+1,w,h,e=>by
  obtain⟨v,r,rfl,_,b⟩:=h;have⟨c,d,h'⟩:=ah.get (i:=i) (u:=w) b (by simpa using e);show⟨c,by simpa using d,h'⟩
theorem ah.append:∀{us ws:List U}{vs ys:List V},ah C S H us vs->ah C S H ws ys->ah C S H (us++ws) (vs++ys)
 |[],_,_,_,h,h'=>by cases h;show h'
 |u::us,ws,vs,ys,h,h'=>by
  have⟨v,r,rfl,a,b⟩:=h;show⟨v,r++ys,rfl,a,b.append h'⟩
theorem ah.take:∀{us:List U}{vs:List V} (n:Nat),ah C S H us vs->ah C S H (us.take n) (vs.take n)
 |_,_,0,_=>by simp[ah]
 |[],_,n+1,h=>by cases h;simp[ah]
 |u::us,vs,n+1,h=>by
  have⟨v,r,rfl,a,b⟩:=h;show⟨v,r.take n,rfl,a,b.take n⟩
theorem ah.drop:∀{us:List U}{vs:List V} (n:Nat),ah C S H us vs->ah C S H (us.drop n) (vs.drop n)
 |_,_,0,h=>h
 |[],_,n+1,h=>by cases h;simp[ah]
 |u::us,vs,n+1,h=>by
  have⟨v,r,rfl,b,a⟩:=h;show a.drop n
theorem ah.set:∀{us:List U}{vs:List V} (n:Nat) {u:U}{v:V},ah C S H us vs->Rep C S H u v->ah C S H (us.set n u) (vs.set n v)
 |[],_,n,_,_,h,_=>by cases h;simp[ah]
 |u::us,vs,0,_,_,h,h'=>by
  have⟨v,r,rfl,b,a⟩:=h;show⟨_,r,rfl,h',a⟩
 |u::us,vs,n+1,_,_,h,h'=>by
  have⟨v,r,rfl,b,a⟩:=h;show⟨v,_,rfl,b,a.set n h'⟩
def ah.snoc(h:ah C S H us vs)(h':Rep C S H u v):ah C S H (us++[u]) (vs++[v]):=h.append ⟨v,[],rfl,h',rfl⟩
theorem ah.strs:∀{xs:List Str}{vs:List V},ah C S H (xs.map .str) vs↔vs=xs.map V.str
 |[],vs=>by simp[ah]
 |x::xs,vs=>by
  constructor
  .rintro⟨v,r,rfl,a,b⟩;rw[ah.strs.mp b];have:v=.str x:=a;rw[this];rfl
  .rintro rfl;show⟨_,_,rfl,rfl,ah.strs.mpr rfl⟩
end
structure Ct.Eqv(C C':Ct):Prop where
 P:C.P=C'.P
 w:C.w=C'.w
 K:C.K=C'.K
section
mutual
theorem Rep.Io(q:C.Eqv d):∀(u:U) (v:V),Rep C S H u v->Rep d S H u v
 |.EY,_,h=>h
 |.bl _,_,h=>h
 |.int _,_,h=>h
 |.str _,_,h=>h
 |.tup us,v,h=>by
  have⟨a,vs,e,b,c⟩:=h;show⟨a,vs,e,q.K▸b,ah.Io q us vs c⟩
 |.lst us,v,h=>by
  have⟨a,vs,e,b,c⟩:=h;show⟨a,vs,e,q.K▸b,ah.Io q us vs c⟩
 |.EX ks us,v,h=>by
  have⟨a,e,b,c⟩:=h;show⟨a,e,b,c.mv (λ_ q=>q) λvs z=>ah.Io q us vs z⟩
 |.HS us,v,h=>by
  have⟨a,vs,e,b,c⟩:=h;show⟨a,vs,e,q.K▸b,ah.Io q us vs c⟩
 |.Fm ks us,v,h=>by
  have⟨a,e,o,kvs,b,c,f⟩:=h;show⟨a,e,o,kvs,b,c,ah.Io q us _ f⟩
theorem ah.Io(q:C.Eqv a):∀(us:List U) (vs:List V),ah C S H us vs->ah a S H us vs
 |[],_,h=>h
 |u::us,vs,h=>by
  have⟨v,r,e,b,c⟩:=h;show⟨v,r,e,Rep.Io q u v b,ah.Io q us r c⟩
end
def Rep.cg(q:C.Eqv a)(h:Rep C S H u v):Rep a S H u v:=Rep.Io q u v h
def ah.cg(q:C.Eqv a)(h:ah C S H us vs):ah a S H us vs:=ah.Io q us vs h
end
def cn(C:Ct)(S:fS->Prop)(H:Hp)(r:fS):U->Prop
 |.lst us=>∃vs,H r=a5 (.lst vs)/\ah C S H us vs
 |.EX ks us=>Jn H (ah C S H us) r ks
 |_=>False
def cn.mv(m:Mv S H S' H')(a:∀o,H r=a5 o->H' r=a5 o)(h:cn C S H r u):cn C S' H' r u:=by
 cases u with
 |lst us=>have⟨vs,b,c⟩:=h;show⟨vs,a _ b,c.mv m⟩
 |EX ks us=>show Jn.mv a (λvs q=>q.mv m) h
 |_=>show h
def cn.rep(hs:∀a,S a->S' a)(b:S' r)(h:cn C S H r u):Rep C S' H u (.ref r):=by
 cases u with
 |lst us=>have⟨vs,c,d⟩:=h;show⟨r,vs,rfl,⟨b,c⟩,d.mv (.up hs)⟩
 |EX ks us=>show⟨r,rfl,b,Jn.mv (λ_ q=>q) (λvs q=>q.mv (.up hs)) h⟩
 |_=>show h.elim
def cn.cg(q:C.Eqv a)(h:cn C S H r u):cn a S H r u:=by
 cases u with
 |lst us=>have⟨vs,b,c⟩:=h;show⟨vs,b,c.cg q⟩
 |EX ks us=>show Jn.mv (λ_ q=>q) (λvs z=>z.cg q) h
 |_=>show h
def cn.some(h:cn C S H r u):∃o,H r=a5 o/\¬Tp o:=by
 cases u with
 |lst us=>obtain⟨vs,a,_⟩:=h;show⟨_,a,λz=>z⟩
 |EX ks us=>obtain⟨kvs,a,_⟩:=h;show⟨_,a,λz=>z⟩
 |_=>show h.elim
structure Cf where
 S:fS->Prop
 H:Hp
 σ:St
 st:av
 kid:Nat->List fS
abbrev Cf.R1(c:Cf)(a:fS):Prop:=∃(j:Nat) (k:Kd) (u:U),k.root=bD/\c.st[j]?=a5 (a5 (k,u))/\c.σ[j]?=a5 (a5 (.ref a))
abbrev Cf.RD(c:Cf)(j:Nat)(a:fS):Prop:=∃(u:U) (r:fS),c.st[j]?=a5 (a5 (.B',u))/\c.σ[j]?=a5 (a5 (.ref r))/\(a=r\/a∈c.kid j)
abbrev Cf.R(c:Cf)(a:fS):Prop:=c.R1 a\/∃j,c.RD j a
abbrev PS(C:Ct)(S:fS->Prop):fS->Prop:=λa=>C.G4 a\/S a
def eM(C:Ct)(S:fS->Prop)(H:Hp):Kd->U->V->Prop
 |.own,u,v=>∃r,v=.ref r/\¬S r/\¬C.G4 r/\C.H₀ r=b5/\cn C S H r u
 |.io,u,v=>∃r,v=.ref r/\¬S r/\¬C.G4 r/\C.IO r/\cn C S H r u
 |.loc,u,v=>Rep C S H u v
 |.any,u,v=>Rep C (PS C S) H u v
 |.bor _,_,_=>False
 |.B',_,v=>∃r,v=.ref r
def cP(C:Ct)(S:fS->Prop)(H:Hp):List U->List fS->Prop
 |[],as=>as=[]
 |u::us,as=>∃a as' ys vs,as=a::as'/\u=.lst ys/\H a=a5 (.lst vs)/\ah C S H ys vs/\cP C S H us as'
def bC(C:Ct)(S:fS->Prop)(H:Hp)(r:fS)(as:List fS):U->Prop
 |.EX ks us=>∃kvs:List (Key×V),H r=a5 (.dK kvs)/\kvs.map (·.1)=ks.map ko/\kvs.map (·.2)=as.map V.ref/\(r::as).Nodup/\(∀a∈r::as,¬S a/\¬C.G4 a/\C.H₀ a=b5)/\cP C S H us as
 |_=>False
structure HD(C:Ct)(c:Cf):Prop where
 kd:∀(j:Nat) (u:U) (r:fS),c.st[j]?=a5 (a5 (.B',u))->c.σ[j]?=a5 (a5 (.ref r))->bC C c.S c.H r (c.kid j) u
 dj:∀(i j:Nat) (a:fS),c.RD i a->c.RD j a->i=j
 d1:∀(j:Nat) (a:fS),c.RD j a->¬c.R1 a
structure Ok(C:Ct)(c:Cf):Prop where
 same:∀a o,C.H₀ a=a5 o->¬C.IO a->c.H a=a5 o
 Gi:∀a,c.S a->C.H₀ a=b5/\∃o,c.H a=a5 o
 par:∀a,C.G4 a->(∃o,C.H₀ a=a5 o)/\¬C.IO a
 io:∀a,C.IO a->(∃o,C.H₀ a=a5 o)/\∃o,c.H a=a5 o
 len:c.st.length=c.σ.length
 sl:∀(i:Nat) (k:Kd) (u:U),c.st[i]?=a5 (a5 (k,u))->∃v,c.σ[i]?=a5 (a5 v)/\eM C c.S c.H k u v
 inj:∀(i j:Nat) (k k':Kd) (u u':U) (r:fS),k.root=bD->k'.root=bD->c.st[i]?=a5 (a5 (k,u))->c.st[j]?=a5 (a5 (k',u'))->c.σ[i]?=a5 (a5 (.ref r))->c.σ[j]?=a5 (a5 (.ref r))->i=j
 dd:HD C c
structure Ns(c c':Cf):Prop where
 keep:∀a o,c.H a=a5 o->¬c.R a->c'.H a=a5 o
 there:∀a o,c.H a=a5 o->∃o',c'.H a=a5 o'
 roots:∀a,c'.R a->c.R a\/c.H a=b5
 sub:∀a,c.S a->c'.S a
 new:∀a,c'.S a->c.S a\/c.R a\/c.H a=b5
section
def Ns.refl(c:Cf):Ns c c:=⟨λ_ _ h _=>h,λ_ o h=>⟨o,h⟩,λ_ h=>.inl h,λ_ h=>h,λ_ h=>.inl h⟩
def Ns.none(n:Ns c b)(h:b.H a=.none):c.H a=.none:=by
 cases e:c.H a with
 |none=>rfl
 |some o=>have⟨o',q⟩:=n.there a o e;rw[h]at q;cases q
def Ns.trans(m:Ns c d)(n:Ns d e):Ns c e where
 keep:=λa o h b=>by
  show n.keep a o (m.keep a o h b) λz=>?_;rcases m.roots a z with z|z
  .show b z
  .rw[h]at z;cases z
 there:=λa o h=>let ⟨o',h'⟩:=m.there a o h;n.there a o' h'
 roots:=λa h=>by
  rcases n.roots a h with z|z
  .show m.roots a z
  .show .inr (m.none z)
 sub:=λa h=>n.sub a (m.sub a h)
 new:=λa h=>by
  rcases n.new a h with z|z|z
  .show m.new a z
  .rcases m.roots a z with z|z
   .show .inr (.inl z)
   .show .inr (.inr z)
  .show .inr (.inr (m.none z))
def eM.rt(hk:k.root=bD)(h:eM C S H k u v):∃r,v=.ref r/\¬S r/\¬C.G4 r/\(C.H₀ r=b5\/C.IO r)/\cn C S H r u:=by
 cases k with
 |own=>have⟨r,a,b,c,d,e⟩:=h;show⟨r,a,b,c,.inl d,e⟩
 |io=>have⟨r,a,b,c,d,e⟩:=h;show⟨r,a,b,c,.inr d,e⟩
 |_=>cases hk
theorem cP.mem:∀{us:List U}{as:List fS}{a:fS},cP C S H us as->a∈as->∃vs,H a=a5 (.lst vs)
 |[],as,a,h,ha=>by cases h;cases ha
 |u::us,as,a,h,ha=>by
  obtain⟨d,as',ys,vs,rfl,_,b,_,c⟩:=h;rcases gs.mp ha with rfl|ha
  .show⟨vs,b⟩
  .show cP.mem c ha
theorem cP.mv(m:Mv S H S' H'):∀{us:List U}{as:List fS},(∀a∈as,∀o,H a=a5 o->H' a=a5 o)->cP C S H us as->cP C S' H' us as
 |[],as,_,h=>h
 |u::us,as,b,h=>by
  have⟨a,as',ys,vs,rfl,e,c,d,f⟩:=h;show⟨a,as',ys,vs,rfl,e,b a (by simp) _ c,d.mv m,cP.mv m (λa g=>b a (by simp[g])) f⟩
def bC.fr(h:bC C S H r as u):∀a∈r::as,¬S a/\¬C.G4 a/\(C.H₀ a=b5\/C.IO a):=by
 cases u<;>first|show h.elim|(obtain⟨kvs,_,_,_,_,b,_⟩:=h;show λa c=>let ⟨p,q,r⟩:=b a c;⟨p,q,.inl r⟩)
def bC.N'(h:bC C S H r as (.EX ks us)):∀a∈r::as,¬S a/\¬C.G4 a/\C.H₀ a=b5:=by
 obtain⟨kvs,_,_,_,_,b,_⟩:=h;show b
def bC.there(h:bC C S H r as u):∀a∈r::as,∃o,H a=a5 o/\¬Tp o:=by
 cases u<;>first|show h.elim|skip
 obtain⟨kvs,b,_,_,_,_,c⟩:=h;intro a ha;rcases gs.mp ha with rfl|ha
 .show⟨_,b,λz=>z⟩
 .have⟨vs,e⟩:=c.mem ha;show⟨_,e,λz=>z⟩
def bC.mv(m:Mv S H S' H')(c:∀a∈r::as,¬S' a/\∀o,H a=a5 o->H' a=a5 o)(h:bC C S H r as u):bC C S' H' r as u:=by
 cases u<;>first|show h.elim|skip
 have⟨kvs,d,e,f,g,i,j⟩:=h;show⟨kvs,(c r (by simp)).2 _ d,e,f,g,λa b=>⟨(c a b).1,(i a b).2⟩,j.mv m λa b=>(c a (by simp[b])).2⟩
def HD.of(d:HD C c)(hk:e.kid=c.kid)(p:∀(j:Nat) (u:U),e.st[j]?=a5 (a5 (.B',u))->c.st[j]?=a5 (a5 (.B',u))/\e.σ[j]?=c.σ[j]?)(s:∀a,e.R1 a->c.R1 a\/∀j,¬c.RD j a)
  (m:Mv c.S c.H e.S e.H) (t:∀j a,c.RD j a->¬e.S a/\∀o,c.H a=a5 o->e.H a=a5 o):HD C e:=by
 have b:∀j a,e.RD j a->c.RD j a:=λj a v=>by
  have⟨u,r,k,f,q⟩:=v;have⟨g,l⟩:=p j u k;rw[l]at f;rw[hk]at q;show⟨u,r,g,f,q⟩
 show⟨λj u r k f=>?_,λi j a h n=>d.dj i j a (b i a h) (b j a n),λj a h n=>?_⟩
 .have⟨g,l⟩:=p j u k;rw[l]at f;rw[hk];show bC.mv m (λa w=>t j a ⟨u,r,g,f,gs.mp w⟩) (d.kd j u r g f)
 .rcases s a n with z|z
  .show d.d1 j a (b j a h) z
  .show z j (b j a h)
def HD.hs(d:HD C c)(m:Mv c.S c.H S' H')(b:∀j a,c.RD j a->¬S' a/\∀o,c.H a=a5 o->H' a=a5 o):HD C {c with H:=H',S:=S' } :=
 d.of rfl (λ_ _ e=>⟨e,rfl⟩) (λ_ z=>.inl z) m b
def Ok.root(f:Ok C c)(h:c.R r):¬c.S r/\¬C.G4 r/\(C.H₀ r=b5\/C.IO r)/\∃o,c.H r=a5 o/\¬Tp o:=by
 rcases h with⟨j,k,u,hk,b,d⟩|⟨j,u,g,b,d,a⟩
 .have⟨v,e,hs⟩:=f.sl j _ _ b;have⟨g,ev,a,l,m,n⟩:=hs.rt hk;rw[d]at e;cases e;cases ev;show⟨a,l,m,n.some⟩
 .have i:=f.dd.kd j u g b d;have⟨p,q,s⟩:=bC.fr i r (gs.mpr a);show⟨p,q,s,bC.there i r (gs.mpr a)⟩
def Ok.mv(b:Ok C c)(n:Ns c d):Mv c.S c.H d.S d.H:=⟨n.sub,λa o h t=>n.keep a o h λz=>by
  obtain⟨_,_,_,o',h',e⟩:=b.root z;rw[h]at h';cases h';show e t,λa o s h=>n.keep a o h λz=>(b.root z).1 s⟩
def Ok.IG(b:Ok C c)(n:Ns c d):Mv (PS C c.S) c.H (PS C d.S) d.H:=⟨λa h=>h.imp id (n.sub a),(b.mv n).Kp,λa o s h=>n.keep a o h λz=>by
  rcases s with s|s
  .show(b.root z).2.1 s
  .show(b.root z).1 s⟩
def Ok.iM(a:Ok C c)(h:c.H p=b5):C.H₀ p=b5/\¬c.S p/\¬C.G4 p/\¬C.IO p/\¬c.R p:=by
 have b:¬C.IO p:=λz=>by obtain⟨_,o,q⟩:=a.io p z;rw[h]at q;cases q
 have d:C.H₀ p=b5:=by
  cases e:C.H₀ p with
  |none=>rfl
  |some o=>have:=a.same p o e b;rw[h]at this;cases this
 show⟨d,λz=>?_,λz=>?_,b,λz=>?_⟩
 .obtain⟨_,o,q⟩:=a.Gi p z;rw[h]at q;cases q
 .obtain⟨⟨o,q⟩,_⟩:=a.par p z;rw[d]at q;cases q
 .obtain⟨_,_,_,o,q,_⟩:=a.root z;rw[h]at q;cases q
def eM.mv(m:Mv S H S' H')(i:Mv (PS C S) H (PS C S') H')(g:k.root=bD->∀r,v=.ref r->¬S' r/\∀o,H r=a5 o->H' r=a5 o)(h:eM C S H k u v):eM C S' H' k u v:=by
 cases k with
 |own =>
  have⟨r,e,l,a,b,c⟩:=h;have⟨d,f⟩:=g rfl r e;show⟨r,e,d,a,b,c.mv m f⟩
 |io =>
  have⟨r,e,l,a,b,c⟩:=h;have⟨d,f⟩:=g rfl r e;show⟨r,e,d,a,b,c.mv m f⟩
 |loc=>show Rep.mv m h
 |any=>show Rep.mv i h
 |bor j=>show h.elim
 |B'=>show h
structure Nx(c c':Cf):Prop extends Ns c c' where
instance {c a:Cf}:Coe (Nx c a) (Ns c a):=⟨Nx.toNs⟩
def Nx.refl(c:Cf):Nx c c:=⟨.refl c⟩
def Nx.trans(m:Nx c a)(n:Nx a b):Nx c b:=⟨m.toNs.trans n.toNs⟩
def Nx.none(n:Nx c b)(h:b.H a=.none):c.H a=.none:=n.toNs.none h
def Ok.lay(b:Ok C c)(h:c.H p=b5):Ok C {c with H:=upd c.H p o}/\Nx c {c with H:=upd c.H p o}:=by
 have l:∀{a:fS} {o':HO},c.H a=a5 o'->a≠p:=λe z=>by subst z;rw[h]at e;cases e
 have d:∀a o',c.H a=a5 o'->(upd c.H p o) a=a5 o':=λa o' e=>by rw[aj (l e)];show e
 have nx:Nx c {c with H:=upd c.H p o}:=⟨⟨λa o' e _=>d a o' e,λa o' e=>⟨o',d a o' e⟩,λa z=>.inl z,λ_ z=>z,λ_ z=>.inl z⟩⟩
 show⟨⟨λa o' e z=>d a o' (b.same a o' e z),λa z=>⟨(b.Gi a z).1,let ⟨o',q⟩:=(b.Gi a z).2;⟨o',d a o' q⟩⟩,b.par,λa z=>⟨(b.io a z).1,let ⟨o',q⟩:=(b.io a z).2;⟨o',d a o' q⟩⟩,b.len,λi k u e=>?_,b.inj,b.dd.hs (b.mv nx.toNs) λj a z=>⟨(b.root (.inr ⟨j,z⟩)).1,λo' e=>d a o' e⟩⟩,nx⟩;have⟨v,m,f⟩:=b.sl i k u e;show⟨v,m,f.mv (b.mv nx.toNs) (b.IG nx.toNs) λhk r n=>?_⟩;obtain⟨t,g,s,_⟩:=f.rt hk;rw[n]at g;cases g;show⟨s,λo' e=>d r o' e⟩
def Ok.grow(b:Ok C c)(hs:fH c.H H')(g:∀a,S' a->c.S a\/(c.H a=b5/\∃o,H' a=a5 o))(p:∀a,c.S a->S' a):Ok C {c with H:=H',S:=S' }/\Nx c {c with H:=H',S:=S' }:=by
 have nx:Nx c {c with H:=H',S:=S' }:=⟨⟨λa o' e _=>hs a o' e,λa o' e=>⟨o',hs a o' e⟩,λa z=>.inl z,p,λa z=>(g a z).imp id λq=>.inr q.1⟩⟩
 show⟨⟨λa o' e z=>hs a o' (b.same a o' e z),λa z=>?_,b.par,λa z=>⟨(b.io a z).1,let ⟨o',q⟩:=(b.io a z).2;⟨o',hs a o' q⟩⟩,b.len,λi k u e=>?_,b.inj,b.dd.hs (b.mv nx.toNs) λj a z=>⟨λd=>?_,λo' e=>hs a o' e⟩⟩,nx⟩
 rotate_left 2
 .obtain⟨f,_,_,o,h,_⟩:=b.root (.inr ⟨j,z⟩);rcases g a d with d|⟨d,_⟩
  .show f d
  .rw[h]at d;cases d
 .rcases g a z with q|⟨f,l⟩
  .show⟨(b.Gi a q).1,let ⟨o',q⟩:=(b.Gi a q).2;⟨o',hs a o' q⟩⟩
  .show⟨(b.iM f).1,l⟩
 .have⟨v,s,m⟩:=b.sl i k u e;show⟨v,s,m.mv (b.mv nx.toNs) (b.IG nx.toNs) λhk r t=>?_⟩;have⟨w,n,f,l,x,h⟩:=m.rt hk;rw[t]at n;cases n;obtain⟨o,ho,_⟩:=h.some;show⟨λz=>?_,λo' e=>hs r o' e⟩;rcases g r z with z|⟨z,_⟩
  .show f z
  .rw[z]at ho;cases ho
def aC(C:Ct)(c0 c:Cf):Kd->U->V->Prop
 |.own,u,v=>∃r,v=.ref r/\c0.H r=b5/\¬c.S r/\¬c.R r/\cn C c.S c.H r u
 |.loc,u,v=>Rep C c.S c.H u v
 |.any,u,v=>Rep C (PS C c.S) c.H u v
 |.bor j,u,v=>(∃k:Kd,k.root=bD/\c.st[j]?=a5 (a5 (k,u)))/\c.σ[j]?=a5 (a5 v)
 |.io,_,_=>False
 |.B',_,_=>False
def eN(C:Ct)(c0 c:Cf):Kd->U->V->Prop
 |.own,u,v=>∃r,v=.ref r/\c0.H r=b5/\¬c.S r/\¬c.R r/\cn C c.S c.H r u
 |.loc,u,v=>Rep C c.S c.H u v
 |.any,u,v=>Rep C (PS C c.S) c.H u v
 |.bor j,u,v=>c.σ[j]?=a5 (a5 v)
 |.io,_,_=>False
 |.B',_,_=>False
def aC.w(h:aC C c0 c k u v):eN C c0 c k u v:=by
 cases k with
 |bor j=>show h.2
 |_=>show h
def eN.PL(a:Ok C c)(n:Ns c b)(g:∀j,k=.bor j->b.σ[j]?=c.σ[j]?)(h:eN C c0 c k u v):eN C c0 b k u v:=by
 cases k with
 |own =>
  have⟨r,e,i,l,d,f⟩:=h;obtain⟨o,ho,_⟩:=f.some;show⟨r,e,i,λz=>?_,λz=>?_,f.mv (a.mv n) λo q=>n.keep r o q d⟩
  .rcases n.new r z with z|z|z
   .show l z
   .show d z
   .rw[z]at ho;cases ho
  .rcases n.roots r z with z|z
   .show d z
   .rw[z]at ho;cases ho
 |loc=>show Rep.mv (a.mv n) h
 |any=>show Rep.mv (a.IG n) h
 |bor j=>change b.σ[j]?=_;rw[g j rfl];show h
 |_=>show h
def eN.on(b:Ok C c)(n:Ns c a)(d:a.σ=c.σ)(h:eN C c0 c k u v):eN C c0 a k u v:=h.PL b n λj _=>by rw[d]
def eN.from(n:Ns c0 c1)(h:eN C c1 c k u v):eN C c0 c k u v:=by
 cases k with
 |own=>have⟨r,e,a,b⟩:=h;show⟨r,e,n.none a,b⟩
 |_=>show h
def aC.from(n:Ns c0 c1)(h:aC C c1 c k u v):aC C c0 c k u v:=by
 cases k with
 |own=>have⟨r,e,a,b⟩:=h;show⟨r,e,n.none a,b⟩
 |_=>show h
def SK(C:Ct)(c:Cf):Kd->fS->Prop
 |.any=>PS C c.S
 |_=>c.S
abbrev kE:Kd->Kd
 |.any=>.any
 |_=>.loc
def Ok.rootOf(b:Ok C c){j:Nat}(h:∃k:Kd,k.root=bD/\c.st[j]?=a5 (a5 (k,u)))(e:c.σ[j]?=a5 (a5 v)):∃r,v=.ref r/\¬c.S r/\¬C.G4 r/\(C.H₀ r=b5\/C.IO r)/\cn C c.S c.H r u:=by
 have⟨k,hk,h⟩:=h;have⟨f,a,d⟩:=b.sl j _ _ h;rw[e]at a;cases a;show d.rt hk
def aC.list(f:Ok C c)(h:aC C c0 c k (.lst us) v):∃a vs,v=.ref a/\Fj C.K c.H a vs/\ah C (SK C c k) c.H us vs:=by
 cases k with
 |own=>obtain⟨r,e,_,_,_,vs,b,d⟩:=h;show⟨r,vs,e,Fj.of b,d⟩
 |bor j=>obtain⟨r,e,_,_,_,vs,b,d⟩:=f.rootOf h.1 h.2;show⟨r,vs,e,Fj.of b,d⟩
 |io=>show h.elim
 |B'=>show h.elim
 |_=>have⟨a,vs,e,b,d⟩:=h;show⟨a,vs,e,b.sq,d⟩
def aC.tuple(b:Ok C c)(h:aC C c0 c k (.tup us) v):∃a vs,v=.ref a/\FH C.K c.H a vs/\ah C (SK C c k) c.H us vs:=by
 cases k with
 |own=>obtain⟨r,e,_,_,_,h⟩:=h;show h.elim
 |bor j=>obtain⟨r,e,_,_,_,h⟩:=b.rootOf h.1 h.2;show h.elim
 |io=>show h.elim
 |B'=>show h.elim
 |_=>have⟨a,vs,e,d,f⟩:=h;show⟨a,vs,e,d,f⟩
def aC.flat(b:Ok C c)(a:Fu u=bD)(h:aC C c0 c k u v):Rep C c.S c.H u v:=by
 cases k with
 |own=>obtain⟨r,e,_,_,_,h⟩:=h;cases u<;>simp[Fu]at a<;>show h.elim
 |loc=>show h
 |any=>show Rep.Fu a h
 |bor j=>obtain⟨r,e,_,_,_,h⟩:=b.rootOf h.1 h.2;cases u<;>simp[Fu]at a<;>show h.elim
 |_=>show h.elim
def aC.int(a:Ok C c)(h:aC C c0 c k (.int i) v):v=.int i:=h.flat a rfl
def aC.str(a:Ok C c)(h:aC C c0 c k (.str x) v):v=.str x:=h.flat a rfl
def aC.bl(a:Ok C c)(h:aC C c0 c k (.bl b) v):v=.bl b:=h.flat a rfl
def aC.EY(a:Ok C c)(h:aC C c0 c k .EY v):v=.EY:=h.flat a rfl
def aC.item(h:Rep C (SK C c k) c.H u v):aC C c0 c (kE k) u v:=by
 cases k<;>show h
abbrev Gv(H:Hp):fS->Prop:=λa=>∃o,H a=a5 o
def Ok.uT(b:Ok C c):∀a,c.S a->Gv c.H a:=λa h=>(b.Gi a h).2
def Ok.CT(b:Ok C c):∀a,PS C c.S a->Gv c.H a:=λa h=>by
 rcases h with h|h
 .obtain⟨⟨o,e⟩,n⟩:=b.par a h;show⟨o,b.same a o e n⟩
 .show b.uT a h
def aC.read(a:Ok C c)(h:aC C c0 c k u v):Rep C (Gv c.H) c.H u v:=by
 cases k with
 |own =>
  obtain⟨r,e,_,_,_,b⟩:=h;rw[e];obtain⟨o,ho,_⟩:=b.some;show b.rep a.uT ⟨o,ho⟩
 |loc=>show Rep.mv (.up a.uT) h
 |any=>show Rep.mv (.up a.CT) h
 |bor j =>
  obtain⟨r,e,_,_,_,b⟩:=a.rootOf h.1 h.2;rw[e];obtain⟨o,ho,_⟩:=b.some;show b.rep a.uT ⟨o,ho⟩
 |_=>show h.elim
def Ok.newList(a:Ok C c)(n:Nx c0 c)(h:c.H p=b5)(d:ah C c.S c.H us vs):
  Ok C {c with H:=upd c.H p (.lst vs)}/\Nx c0 {c with H:=upd c.H p (.lst vs)}/\aC C c0 {c with H:=upd c.H p (.lst vs)} .own (.lst us) (.ref p):=by
 have⟨e,b⟩:=a.lay (o:=.lst vs) h;have⟨i,f,j,k,g⟩:=a.iM h;show⟨e,n.trans b,p,rfl,n.none h,f,g,vs,au,d.mv (a.mv b.toNs)⟩
def Ok.AU(a:Ok C c)(n:Nx c0 c)(h:c.H p=b5)(d:ah C c.S c.H us vs):
  Ok C {c with H:=upd c.H p (.tup vs)}/\Nx c0 {c with H:=upd c.H p (.tup vs)}/\aC C c0 {c with H:=upd c.H p (.tup vs)} .loc (.tup us) (.ref p):=by
 have⟨e,b⟩:=a.lay (o:=.tup vs) h;show⟨e,n.trans b,p,vs,rfl,FH.of au,d.mv (a.mv b.toNs)⟩
end
inductive Ex(α:Type) where|ok (a:α)|exc (c:Str)
abbrev M(α:Type):=av->Option (Ex α×av)
namespace M
abbrev pure(a:α):M α:=λst=>a5 (.ok a,st)
abbrev fail:M α:=λ_=>b5
abbrev bind(m:M α)(f:α->M β):M β:=λst=>match m st with
 |none=>b5
 |some (.ok a,st')=>f a st'
 |some (.exc c,st')=>a5 (.exc c,st')
abbrev Ff(o:Option α):M α:=λst=>match o with
 |none=>b5
 |some a=>a5 (.ok a,st)
end M
noncomputable instance:Monad M:={pure:=M.pure,bind:=M.bind}
abbrev W{α:Type}(m:M α)(st:av)(Q:α->av->Prop):Prop:=∃a st',m st=a5 (.ok a,st')/\Q a st'
section
def ak:W (pure a) st Q↔Q a st:=by
 constructor
 .rintro⟨b,st',e,h⟩;cases e;show h
 .intro h;show⟨a,st,rfl,h⟩
def ae:W (m >>= f) st Q↔W m st λa st'=>W (f a) st' Q:=by
 constructor
 .rintro⟨b,st',e,h⟩;have d:M.bind m f st=a5 (.ok b,st'):=e;unfold M.bind at d;cases q:m st with
  |none=>rw[q]at d;cases d
  |some r =>
   have⟨r,s1⟩:=r;rw[q]at d;cases r with
   |ok a=>show⟨a,s1,q,b,st',d,h⟩
   |exc c=>cases d
 .rintro⟨a,s1,q,b,st',e,h⟩;show⟨b,st',?_,h⟩;change M.bind m f st=_;unfold M.bind;rw[q];show e
def bX:W (M.Ff o) st Q↔∃a,o=a5 a/\Q a st:=by
 cases o with
 |none=>show⟨λ⟨_,_,e,_⟩=>(by cases e),λ⟨_,e,_⟩=>(by cases e)⟩
 |some a=>show⟨λ⟨_,_,e,h⟩=>(by cases e;show⟨a,rfl,h⟩),λ⟨_,e,h⟩=>(by cases e;show⟨a,st,rfl,h⟩)⟩
def aQ:W (M.fail:M α) st Q↔False:=⟨λ⟨_,_,e,_⟩=>(by cases e),J2⟩
def W.mono(h:W m st Q)(i:∀a s,Q a s->Q' a s):W m st Q':=let ⟨a,s,e,q⟩:=h;⟨a,s,e,i a s q⟩
end
inductive Mu where|add|sub|mul|JN|mod|pow
deriving DecidableEq
inductive Lm where|eq|ne|lt|le|gt|ge|isin|Fg|is|JO
deriving DecidableEq
inductive Bf where|len|sorted|list|tuple|str|int|repr|max|min|all|any
 |FV
deriving DecidableEq
inductive B2 where|HU|GV|sset|jg
deriving DecidableEq
inductive Mf where|split|join|partition|endswith
deriving DecidableEq
inductive GW where|str|list|tuple|int|bool
deriving DecidableEq
inductive Ik where|seq|FK|Sa|T9|zip|rev
deriving DecidableEq
inductive E where
 |var (i:Nat)
 |cst (u:U)
 |Mw (x:Str) (u:U)
 |bin (op:Mu) (a b:E)
 |cmp (op:Lm) (a b:E)
 |HV (o1 o2:Lm) (a b c:E)
 |and (es:List E)|or (es:List E)|not (a:E)
 |ite (c a b:E)
 |tup (es:List E)|lst (es:List E)|Gp (r:Bool)
 |idx (a b:E)
 |IH (a:E) (lo hi:List E)
 |bi (f:Bf) (es:List E)
 |Jo (f:B2) (es:List E)
 |Jp (m:Mf) (a:E) (es:List E)
 |call (f:Str) (es:List E)
 |comp (k:Nat) (t:Bool) (ik:Ik) (src:List E) (cond:List E) (e:E)
 |neg (a:E)|bad|G' (a:E) (T:GW)|fst (es:List E)|inD (neg:Bool) (a:E) (i:Nat)|Kq (i:Nat)|GX (i:Nat) (k d:E)|Mx (i:Nat)|My (ln:Bool) (a b:E)
 |EW (f:Str) (es:List E) (is:List Nat)
 |pop (i:Nat)|Ha (i:Nat) (e:E)
 |II (a:E)
inductive S where
 |set (i:Nat) (e:E)
 |IJ (is:List Nat) (e:E)
 |put (i:Nat) (k v:E)
 |app (i:Nat) (e:E)|ext (i:Nat) (e:E)|bad|newD (i:Nat)|putD (i:Nat) (k v:E)|Hb (i:Nat) (k v:E)|aug (sub:Bool) (i:Nat) (k v:E)|Mz (i:Nat)
 |exp (e:E)
 |ret (e:E)|Hx
 |ite (c:E) (a b:List S)
 |Fh (t:Bool) (is:List Nat) (ik:Ik) (src:List E) (body:List S)
 |Jq (c:E) (body:List S)
 |brk|cnt|MA
 |HF (is:List Nat)
 |Ip (i j:Nat) (f:Str) (es:List E) (c:E)|shr (i:Nat)
abbrev isAny:Kd->Bool
 |.any=>bD
 |_=>c2
abbrev dZ(k:Kd)(xs:List U):Bool:=!isAny k||bK xs
abbrev kT(k k':Kd):Kd:=if isAny k||isAny k' then .any else .loc
abbrev cut{α:Type}(xs:List α)(lo a:Option Int):List α:=(xs.drop (HT.GL xs.length 0 lo)).take (HT.GL xs.length xs.length a - HT.GL xs.length 0 lo)
abbrev xQ:Kd×U->Kd×U->Option (Kd×U)
 |(_,.int i),(_,.int j)=>a5 (.loc,.int (i+j))
 |(_,.str x),(_,.str y)=>if x.length+y.length<=df then a5 (.loc,.str (x++y)) else b5
 |(k,.lst xs),(k',.lst ys)=>if xs.length+ys.length<=df/\dZ k xs=bD/\dZ k' ys=bD then a5 (.own,.lst (xs++ys)) else b5
 |(k,.tup xs),(k',.tup ys)=>if xs.length+ys.length<=df then a5 (kT k k',.tup (xs++ys)) else b5
 |_,_=>b5
abbrev pD(f:Int->Int->Option Int):U->U->Option (Kd×U)
 |.int i,.int j=>(f i j).map λn=>(.loc,.int n)
 |_,_=>b5
abbrev xR(i j:Int):Option Int:=if ((-(2 ^ 64)<i/\i<2 ^ 64)\/(-(2 ^ 64)<j/\j<2 ^ 64)) then a5 (i * j) else b5
abbrev xS(i j:Int):Option Int:=if 0<j/\j<1073741824 then a5 (i / j) else b5
abbrev xT(i j:Int):Option Int:=if 0<j then a5 (i % j) else b5
abbrev xU(i j:Int):Option Int:=if 0<=j/\j<=1000000/\i.natAbs<2 ^ 64 then a5 (i ^ j.toNat) else b5
abbrev HW(a:Mu)(x y:Kd×U):Option (Kd×U):=match a with
 |.add=>xQ x y
 |.sub=>pD (λi j=>a5 (i - j)) x.2 y.2
 |.mul=>pD xR x.2 y.2
 |.JN=>pD xS x.2 y.2
 |.mod=>pD xT x.2 y.2
 |.pow=>pD xU x.2 y.2
mutual
noncomputable def GY:Nat->U->Bool
 |_,.EX _ _=>c2
 |_,.HS _=>c2
 |_,.Fm _ _=>c2
 |0,.tup _=>c2
 |0,.lst _=>c2
 |n+1,.tup xs=>gx n xs
 |n+1,.lst xs=>gx n xs
 |_,.EY=>bD|_,.bl _=>bD|_,.int _=>bD|_,.str _=>bD
noncomputable def gx:Nat->List U->Bool
 |_,[]=>bD
 |n,u::us=>GY n u&&gx n us
end
mutual
noncomputable def bE:U->U->Bool
 |.EY,.EY=>bD
 |.bl a,.bl b=>a==b
 |.bl a,.int b=>(if a then 1 else 0)==b
 |.int a,.bl b=>a==(if b then 1 else 0)
 |.int a,.int b=>a==b
 |.str a,.str b=>a==b
 |.tup xs,.tup ys=>cp xs ys
 |.lst xs,.lst ys=>cp xs ys
 |_,_=>c2
noncomputable def cp:List U->List U->Bool
 |[],[]=>bD
 |u::us,w::ws=>bE u w&&cp us ws
 |_,_=>c2
end
abbrev IK(x:U)(ys:List U):Option Bool:=if GY 50 x=bD/\gx 50 ys=bD then a5 (ys.any λy=>bE y x) else b5
abbrev strsOf:List U->Option (List Str)
 |[]=>a5 []
 |.str x::us=>(strsOf us).map (x::·)
 |_::_=>b5
abbrev xV:U->U->Option Bool
 |x,.lst ys=>IK x ys
 |x,.tup ys=>IK x ys
 |.str x,.EX ks _=>a5 (dV (x∈ks))
 |.str x,.Fm ks _=>a5 (dV (x∈ks))
 |_,_=>b5
abbrev cC:List Str->List U->Str->Option U
 |y::ks,u::us,x=>if y=x then a5 u else cC ks us x
 |_,_,_=>b5
abbrev dput(ks:List Str)(us:List U)(x:Str)(u:U):List Str×List U :=
 if x∈ks then(ks,(ks.zip us).map λp=>if p.1=x then u else p.2) else(ks++[x],us++[u])
abbrev kX:U->Bool
 |.EY=>bD
 |_=>c2
abbrev cz:Lm->U->U->Option Bool
 |.eq,a,b=>if GY 50 a=bD/\GY 50 b=bD then a5 (bE a b) else b5
 |.ne,a,b=>if GY 50 a=bD/\GY 50 b=bD then a5 (!bE a b) else b5
 |.lt,.int i,.int j=>a5 (dV (i<j))
 |.gt,.int i,.int j=>a5 (dV (j<i))
 |.ge,.int i,.int j=>a5 (dV (j<=i))
 |.isin,x,y=>xV x y
 |.Fg,x,y=>(xV x y).map (!·)
 |.is,x,.EY=>a5 (kX x)
 |.JO,x,.EY=>a5 (!kX x)
 |.is,.bl x,.bl y=>a5 (x==y)
 |.JO,.bl x,.bl y=>a5 (!(x==y))
 |_,_,_=>b5
abbrev jv:List U->Option (List Bool)
 |[]=>a5 []
 |.bl x::us=>(jv us).map (x::·)
 |_::_=>b5
abbrev fN:Kd×U->U->Option (Kd×U)
 |(k,.lst xs),.int i=>(FR xs i).map λu=>(kE k,u)
 |(k,.tup xs),.int i=>(FR xs i).map λu=>(kE k,u)
 |(_,.str x),.int i=>if x.length<=df then(FR x.cps.toList i).map λc=>(.loc,.str ⟨#[c]⟩) else b5
 |(k,.EX ks us),.str x=>(cC ks us x).map λu=>(kE k,u)
 |(k,.Fm ks us),.str x=>(cC ks us x).map λu=>(kE k,u)
 |_,_=>b5
abbrev pE:Kd×U->Option Int->Option Int->Option (Kd×U)
 |(k,.lst xs),lo,a=>if dZ k xs=bD then a5 (.own,.lst (cut xs lo a)) else b5
 |(.any,.HS xs),lo,a=>if bK xs=bD then a5 (.own,.lst (cut xs lo a)) else b5
 |(_,.str x),lo,a=>if x.length<=df then a5 (.loc,.str (PySem.StrLaws.sliceText x lo a)) else b5
 |_,_,_=>b5
abbrev AV:U->Option Nat
 |.lst xs=>a5 xs.length
 |.tup xs=>a5 xs.length
 |.str x=>if x.length<=df then a5 x.length else b5
 |_=>b5
abbrev gy{β:Type}(f:Kd×U->Option β):List (Kd×U)->Option β
 |[x]=>f x
 |_=>b5
abbrev intsOf:List U->Option (List Int)
 |[]=>a5 []
 |.int x::us=>(intsOf us).map (x::·)
 |_::_=>b5
abbrev AW:Kd×U->Option (Kd×U)
 |(_,.lst xs)=>(strsOf xs).bind λa=>if a.length<64 then a5 (.own,.lst ((aH a).map .str)) else b5
 |(_,.EX ks _)=>if ks.length<64 then a5 (.own,.lst ((aH ks).map .str)) else b5
 |(_,.tup xs)=>(strsOf xs).bind λa=>if a.length<64 then a5 (.own,.lst ((aH a).map .str)) else b5
 |_=>b5
abbrev AX:Kd×U->Option (Kd×U)
 |(k,.lst xs)=>if dZ k xs=bD then a5 (.own,.lst xs) else b5
 |(k,.tup xs)=>if dZ k xs=bD then a5 (.own,.lst xs) else b5
 |_=>b5
abbrev AY:Kd×U->Option (Kd×U)
 |(k,.lst xs)=>a5 (kE k,.tup xs)
 |(k,.tup xs)=>a5 (kE k,.tup xs)
 |_=>b5
abbrev xW:Kd×U->Option (Kd×U)
 |(_,.int i)=>if i.natAbs.log2<1920 then a5 (.loc,.str (V5 i)) else b5
 |_=>b5
abbrev AZ:Kd×U->Option (Kd×U)
 |(_,.lst xs)=>(jv xs).map λa=>(.loc,.bl (a.all id))
 |_=>b5
abbrev gX:List U->Option (List (List Str))
 |[]=>a5 []
 |.lst ys::us=>(strsOf ys).bind λa=>(gX us).map (a::·)
 |_=>b5
abbrev Oa:Kd×U->Option (Kd×U)
 |(k,.lst xs)=>(gX xs).bind λks=>if dZ k xs=bD/\kA ks=bD/\ks.length<64 then a5 (.own,.lst xs) else b5
 |_=>b5
abbrev GZ(f:Bf)(rs:List (Kd×U)):Option (Kd×U):=match f with
 |.len=>gy (λx=>(AV x.2).map λ(n:Nat)=>(Kd.loc,U.int (n:Int))) rs
 |.sorted=>gy AW rs
 |.FV=>gy Oa rs
 |.list=>gy AX rs
 |.tuple=>gy AY rs
 |.str=>gy xW rs
 |.all=>gy AZ rs
 |_=>b5
abbrev sG:U->Option (List Str)
 |.lst xs=>(strsOf xs).bind λa=>if a.length+1<Iu then a5 (aI a) else b5
 |.tup xs=>(strsOf xs).bind λa=>if a.length+1<Iu then a5 (aI a) else b5
 |_=>b5
abbrev A0:Kd×U->Option (Kd×U)
 |(k,.lst xs)=>if dZ k xs=bD then a5 (.own,.lst xs.reverse) else b5
 |_=>b5
abbrev pF(f:B2)(rs:List (Kd×U)):Option (Kd×U):=match f with
 |.HU=>b5
 |.GV=>gy A0 rs
 |.sset=>gy (λx=>(sG x.2).bind λa=>if a.length<64 then a5 (.own,.lst ((aH a).map .str)) else b5) rs
 |.jg=>b5
abbrev kB:Mf->U->List (Kd×U)->Option (Kd×U)
 |.join,.str a,[(_,.lst xs)]=>(strsOf xs).bind λb=>if Vt a b=bD then a5 (.loc,.str (N2 a b)) else b5
 |_,_,_=>b5
abbrev EE:Kd×U->Option (List (Kd×U))
 |(k,.lst xs)=>a5 (xs.map λu=>(kE k,u))
 |(k,.tup xs)=>a5 (xs.map λu=>(kE k,u))
 |(_,.Fm ks _)=>a5 (ks.map λx=>(.loc,.str x))
 |_=>b5
abbrev sH:Kd×U->Option (List (Kd×U))
 |(_,.int n)=>if n<2 ^ 62/\-(2 ^ 62)<n then a5 ((i3 n.toNat).map λi:Nat=>(Kd.loc,U.int (0+(i:Int)))) else b5
 |_=>b5
abbrev G0(a:Ik)(rs:List (Kd×U)):Option (List (Kd×U)):=match a with
 |.seq=>gy EE rs
 |.FK=>gy sH rs
 |_=>b5
abbrev A4(a:List (Str×Int)):List (Str×Int):=(jr (a.map (·.1))).map λi=>a.getD i (tr,0)
abbrev A5(p:Str×Int):U:=.tup [.str p.1,.int p.2]
abbrev A6:U->Option (Kd×U)
 |.EX ks us=>(intsOf us).bind λns=>if ks.length<64/\ks.Nodup/\ks.length=ns.length then a5 (.own,.lst ((A4 (ks.zip ns)).map A5)) else b5
 |_=>b5
abbrev sI:U->Option Bool
 |.bl b=>a5 b
 |.lst xs=>a5 !xs.isEmpty
 |.tup xs=>a5 !xs.isEmpty
 |.str x=>if x.length<=df then a5 ((x.length:Int) != 0) else b5
 |_=>b5
abbrev lift:Kd×U->M U
 |(.own,u)=>pure u
 |(.loc,u)=>pure u
 |(.any,u)=>if Fu u=bD then pure u else M.fail
 |(.bor j,_)=>λst=>match st[j]? with
  |some (a5 (.own,u))=>a5 (.ok u,st.set j (a5 (.loc,u)))
  |_=>b5
 |(.io,_)=>M.fail
 |(.B',_)=>M.fail
abbrev cI:List (Kd×U)->M (List U)
 |[]=>pure []
 |r::rs=>do let u <-lift r;let us <-cI rs;pure (u::us)
abbrev eB(i:Nat):Kd×U->M Unit
 |(.bor j,_)=>λst=>match st[j]? with
  |some (a5 (.own,u))=>a5 (.ok (),(st.set j (a5 (.loc,u))).set i (a5 (.loc,u)))
  |_=>b5
 |(.io,_)=>M.fail
 |(.B',_)=>M.fail
 |(k,u)=>λst=>a5 (.ok (),st.set i (a5 (k,u)))
def aX:List (Kd×U)->av->Prop
 |[],_=>True
 |(.bor j,u)::rs,st=>(∃k:Kd,k.root=bD/\st[j]?=a5 (a5 (k,u)))/\aX rs st
 |_::rs,st=>aX rs st
open Classical in
abbrev ay(rs:List (Kd×U)):M Unit:=λst=>if aX rs st then a5 (.ok (),st) else b5
@[reducible]def Tab:=Str->List U->Option (Ex (Kd×U))
abbrev jw(Γ:Tab)(f:Str)(us:List U):M (Kd×U):=λst=>match Γ f us with
 |some (.ok (.any,_))=>b5
 |none=>b5
 |some r=>a5 (r,st)
abbrev fO(rs:List (Kd×U))(p:Nat):Option Nat:=match rs[p]? with
 |some (.bor j,.lst us)=>if bK us=bD then a5 j else b5
 |_=>b5
abbrev nS(a:List (Option Nat)):Kd×U->Bool
 |(.bor j,_)=>dV (a5 j∉a)
 |_=>bD
abbrev nU(rs:List (Kd×U))(is:List Nat):Bool:=is.all (λp=>(fO rs p).isSome)&&dV ((is.map (fO rs)).Nodup)&&(i3 rs.length).all λq=>dV (q∈is)||nS (is.map (fO rs)) (rs.getD q (.loc,.EY))
abbrev fz(rs:List (Kd×U)):List Nat->List U->av->Option av
 |[],[],st=>a5 st
 |p::is,w::ws,st=>match fO rs p with
  |some j=>match w,st[j]? with
   |.lst us,a5 (a5 (k,_))=>fz rs is ws (st.set j (a5 (k,.lst us)))
   |_,_=>b5
  |none=>b5
 |_,_,_=>b5
abbrev Ob:Kd×U->Option (Kd×U×List U)
 |(.own,.tup (u::ws))=>a5 (.own,u,ws)
 |(.loc,.tup (u::ws))=>a5 (.loc,u,ws)
 |_=>b5
abbrev dm(st:av):Kd×U->Kd×U
 |(.bor j,u)=>(.bor j,match st[j]? with|some (a5 (k,u'))=>if k.root=bD then u' else u|_=>u)
 |r=>r
abbrev xX(rs:List (Kd×U)):M (List (Kd×U)):=λst=>a5 (.ok (rs.map (dm st)),st)
abbrev nV(Γ:Tab)(f:Str)(rs:List (Kd×U))(is:List Nat):M (Kd×U):=λst=>match Γ f (rs.map (·.2)) with
 |some (.ok r)=>match Ob r with
  |some (k,u,ws)=>if nU rs is=bD then(match fz rs is ws st with|some st'=>a5 (.ok (k,u),st')|none=>b5) else b5
  |none=>b5
 |_=>b5
abbrev uU(i:Nat):M (Kd×U):=λst=>match st[i]? with
 |some (a5 (k,.lst us))=>if k.root=bD then(match us[us.length - 1]? with|some u=>a5 (.ok (.loc,u),st.set i (a5 (k,.lst us.dropLast)))|none=>b5) else b5
 |_=>b5
abbrev sJ(i:Nat):U->M (Kd×U)
 |.int j=>λst=>match st[i]? with
  |some (a5 (k,.lst us))=>if k.root=bD/\0<=j/\j<1000000 then(match us[j.toNat]? with|some u=>a5 (.ok (.loc,u),st.set i (a5 (k,.lst (us.eraseIdx j.toNat))))|none=>b5) else b5
  |_=>b5
 |_=>M.fail
abbrev sL:Kd×U->M (Kd×U)
 |(.own,.EX ks us)=>pure (.loc,.Fm ks us)
 |(.bor j,_)=>λst=>match st[j]? with
  |some (a5 (.own,.EX ks us))=>a5 (.ok (.loc,.Fm ks us),st.set j (a5 (.loc,.Fm ks us)))
  |_=>b5
 |_=>M.fail
abbrev cJ(i:Nat):M (Kd×U):=λst=>match st[i]? with
 |some (a5 (.B',_))=>b5
 |some (a5 (k,u))=>a5 (.ok (if k.root=bD then .bor i else k,u),st)
 |_=>b5
abbrev gz(i:Nat):M (List Str×List U):=λst=>match st[i]? with
 |some (a5 (.B',.EX ks us))=>a5 (.ok (ks,us),st)
 |_=>b5
abbrev iN(x:Kd×U):M Str:=match x.2 with
 |.str y=>pure y
 |_=>M.fail
abbrev Oc(neg:Bool)(y:Str)(ks:List Str):Bool:=if neg=bD then !dV (y∈ks) else dV (y∈ks)
abbrev uV(i:Nat):M (Kd×U):=λst=>match st[i]? with
 |some (a5 (.B',.EX ks us))=>a5 (.ok (.bor i,.EX ks us),st.set i (a5 (.own,.EX ks us)))
 |_=>cJ i st
abbrev zy(i:Nat):M Unit:=λst=>a5 (.ok (),st.set i (a5 (.B',.EX [] [])))
abbrev jx(i:Nat)(y:Str):Kd×U->M Unit
 |(.own,.lst us)=>λst=>match st[i]? with
  |some (a5 (.B',.EX ks vs))=>if y∉ks/\ks.length<df then a5 (.ok (),st.set i (a5 (.B',.EX (ks++[y]) (vs++[.lst us])))) else b5
  |_=>b5
 |_=>M.fail
abbrev iO:List Str->List U->Str->U->List U
 |k::ks,v::vs,y,u=>if k=y then u::vs else v::iO ks vs y u
 |_,vs,_,_=>vs
abbrev jy(i:Nat)(y:Str)(u:U):M Unit:=λst=>match st[i]? with
 |some (a5 (.B',.EX ks vs))=>match cC ks vs y with
  |some (.lst xs)=>if xs.length<df then a5 (.ok (),st.set i (a5 (.B',.EX ks (iO ks vs y (.lst (xs++[u])))))) else b5
  |_=>b5
 |_=>b5
abbrev Oe:U->M Unit
 |.EX _ _=>pure ()
 |_=>M.fail
abbrev xY(x:Kd×U)(y:Str)(u:U):Option (Kd×U):=match x with
 |(k,.EX ks us)=>a5 (match cC ks us y with|some v=>(kE k,v)|none=>(.loc,u))
 |_=>b5
abbrev sM(i:Nat):M (List U):=λst=>match st[i]? with
 |some (a5 (k,.lst us))=>if k.root=bD then a5 (.ok us,st) else b5
 |_=>b5
abbrev sN(x:Kd×U):M Int:=match x.2 with
 |.int j=>pure j
 |_=>M.fail
abbrev uW(us:List U)(j:Int):Option Int:=if 0<=j then(match us[j.toNat]? with|some (.int o)=>a5 o|_=>b5) else b5
abbrev uX(sub:Bool)(o w:Int):Int:=if sub=bD then o - w else o+w
abbrev EF:U->Option U
 |.lst us=>a5 (.lst us.reverse)
 |_=>b5
abbrev sets:List Nat->List (Kd×U)->M Unit
 |[],[]=>pure ()
 |i::is,r::rs=>do eB i r;sets is rs
 |_,_=>M.fail
abbrev dH(t:Bool)(is:List Nat)(r:Kd×U):M Unit:=match t,is,r with
 |false,[i],r=>eB i r
 |true,is,(k,.tup xs)=>sets is (xs.map λu=>(kE k,u))
 |_,_,_=>M.fail
abbrev inScope{α:Type}(k:Nat)(m:M α):M α:=λst=>match m (j0 k b5++st) with
 |none=>b5
 |some (r,st')=>a5 (r,st'.drop k)
abbrev bF(k:Nat)(t:Bool)(cond:M Bool)(elt:M (Kd×U))(src:List (Kd×U)):List (Kd×U)->List U->M (List U)
 |[],acc=>do ay src;pure acc
 |x::xs,acc=>do
  ay src
  let r <-inScope k (dH t (i3 k) x >>= λ_=>cond >>= λb=>if b=bD then(elt >>= λr=>lift r >>= λu=>pure (a5 u)) else pure b5)
  match r with
  |some u=>if acc.length<df then bF k t cond elt src xs (acc++[u]) else M.fail
  |none=>bF k t cond elt src xs acc
abbrev mI:U->GW->Option Bool
 |.str _,T=>a5 (dV (T=.str))
 |.int _,T=>a5 (dV (T=.int))
 |.bl _,.bool=>a5 bD
 |.bl _,.int=>a5 bD
 |.lst _,T=>a5 (dV (T=.list))
 |.tup _,T=>a5 (dV (T=.tuple))
 |_,_=>b5
abbrev EG:Kd×U->Option (Kd×U)
 |(_,.int i)=>a5 (.loc,.int (-i))
 |_=>b5
abbrev A7(x:Kd×U):M (Option Int):=match x.2 with
 |.int i=>pure (a5 i)
 |_=>M.fail
abbrev IL:U->M Unit
 |.lst _=>pure ()
 |_=>M.fail
section
variable(Γ:Tab)
mutual
noncomputable def ev:E->M (Kd×U)
 |.var i=>cJ i
 |.cst u=>pure (.loc,u)
 |.Mw _ u=>pure (.loc,u)
 |.bin g a b=>do
  let x <-ev a
  let y <-ev b
  ay [x,y]
  M.Ff (HW g x y)
 |.cmp g a b=>do
  let x <-ev a
  let y <-ev b
  ay [x,y]
  let c <-M.Ff (cz g x.2 y.2)
  pure (.loc,.bl c)
 |.HV _ _ _ _ _=>M.fail
 |.and es=>gA es
 |.or _=>M.fail
 |.not a=>do
  let x <-ev a
  match x.2 with
  |.bl c=>pure (.loc,.bl !c)
  |_=>M.fail
 |.ite c a b=>do
  let p <-E8 c
  if p=bD then ev a else ev b
 |.tup es=>do
  let rs <-a9 es
  ay rs
  let us <-cI rs
  if us.length<=df then pure (.loc,.tup us) else M.fail
 |.lst es=>do
  let rs <-a9 es
  ay rs
  let us <-cI rs
  if us.length<=df then pure (.own,.lst us) else M.fail
 |.Gp r=>pure (.own,.EX [] [])
 |.idx a b=>do
  let x <-ev a
  let y <-ev b
  ay [x,y]
  M.Ff (fN x y.2)
 |.IH a lo j=>do
  let x <-ev a
  let l <-JP lo
  let h <-JP j
  ay [x]
  M.Ff (pE x l h)
 |.bi f es=>do
  let rs <-a9 es
  ay rs
  M.Ff (GZ f rs)
 |.Jo f es=>do
  let rs <-a9 es
  ay rs
  M.Ff (pF f rs)
 |.Jp m a es=>do
  let x <-ev a
  let rs <-a9 es
  ay (x::rs)
  M.Ff (kB m x.2 rs)
 |.call f es=>do
  let rs <-a9 es
  ay rs
  jw Γ f (rs.map (·.2))
 |.comp k t n src cond e=>do
  let rs <-a9 src
  ay rs
  let xs <-M.Ff (G0 n rs)
  let us <-bF k t (bb cond) (ev e) rs xs []
  pure (.own,.lst us)
 |.neg a=>do
  let x <-ev a
  M.Ff (EG x)
 |.bad=>M.fail
 |.inD _ _ _=>M.fail
 |.Kq i=>uV i
 |.GX i k d=>do
  let x <-cJ i
  Oe x.2
  let y <-ev k
  let y <-iN y
  let z <-ev d
  let u <-lift z
  let x <-cJ i
  M.Ff (xY x y u)
 |.Mx i=>do
  let x <-cJ i
  M.Ff (A6 x.2)
 |.EW f es is=>do
  let rs <-(a9 es >>= xX)
  ay rs
  nV Γ f rs is
 |.II a=>ev a >>= sL
 |.pop i=>uU i
 |.Ha i e=>do
  let x <-cJ i
  IL x.2
  let y <-ev e
  sJ i y.2
 |.My _ _ _=>M.fail
 |.fst es=>M.fail
 |.G' a T=>do
  let x <-ev a
  let b <-M.Ff (mI x.2 T)
  pure (.loc,.bl b)
noncomputable def a9:List E->M (List (Kd×U))
 |[]=>pure []
 |e::es=>do let r <-ev e;let rs <-a9 es;pure (r::rs)
noncomputable def JP:List E->M (Option Int)
 |[]=>pure b5
 |[e]=>do let x <-ev e;A7 x
 |_=>M.fail
noncomputable def gA:List E->M (Kd×U)
 |[]=>M.fail
 |[e]=>ev e
 |e::es=>do
  let x <-ev e
  match x.2 with
  |.bl bD=>gA es
  |.bl c2=>pure (.loc,.bl c2)
  |_=>M.fail
noncomputable def E8:E->M Bool
 |.and es=>bb es
 |.or es=>eO es
 |.not a=>do let b <-E8 a;pure !b
 |.cmp e a b=>do
  let x <-ev a
  let y <-ev b
  ay [x,y]
  M.Ff (cz e x.2 y.2)
 |.var i=>do let x <-cJ i;M.Ff (sI x.2)
 |.bi f es=>do
  let rs <-a9 es
  ay rs
  let r <-M.Ff (GZ f rs)
  M.Ff (sI r.2)
 |.call f es=>do
  let rs <-a9 es
  ay rs
  let r <-jw Γ f (rs.map (·.2))
  M.Ff (sI r.2)
 |.HV o1 g a b c=>do
  let x <-ev a
  let y <-ev b
  ay [x,y]
  let p <-M.Ff (cz o1 x.2 y.2)
  if p=bD then do
   let z <-ev c
   ay [y,z]
   M.Ff (cz g y.2 z.2)
  else pure c2
 |.inD neg a i=>do
  let x <-ev a
  let y <-iN x
  let d <-gz i
  pure (Oc neg y d.1)
 |.G' a T=>do
  let x <-ev a
  M.Ff (mI x.2 T)
 |_=>M.fail
noncomputable def bb:List E->M Bool
 |[]=>pure bD
 |[e]=>E8 e
 |e::es=>do let b <-E8 e;if b=bD then bb es else pure c2
noncomputable def eO:List E->M Bool
 |[]=>pure c2
 |[e]=>E8 e
 |e::es=>do let b <-E8 e;if b=bD then pure bD else eO es
end
inductive Fl where|nx|rt (k:Kd) (u:U)|bk|ct
abbrev retS:Kd×U->M Fl
 |(.own,u)=>pure (.rt .own u)
 |(.loc,u)=>pure (.rt .loc u)
 |(.any,u)=>if Fu u=bD then pure (.rt .loc u) else pure (.rt .any u)
 |(.bor j,_)=>λst=>match st[j]? with
  |some (a5 (.own,u))=>a5 (.ok (.rt .own u),st.set j b5)
  |_=>b5
 |(.io,_)=>M.fail
 |(.B',_)=>M.fail
abbrev forM(t:Bool)(is:List Nat)(body:M Fl)(src:List (Kd×U)):List (Kd×U)->M Fl
 |[]=>do ay src;pure .nx
 |x::xs=>do
  ay src
  dH t is x
  let f <-body
  match f with
  |.nx=>forM t is body src xs
  |.ct=>forM t is body src xs
  |.bk=>pure .nx
  |.rt k u=>pure (.rt k u)
abbrev fj(c:M Bool)(body:M Fl):Nat->M Fl
 |0=>M.fail
 |n+1=>do
  let b <-c
  if b=bD then do
   let f <-body
   match f with
   |.nx=>fj c body n
   |.ct=>fj c body n
   |.bk=>pure .nx
   |.rt k u=>pure (.rt k u)
  else pure .nx
abbrev modS(i:Nat)(f:U->Option U):M Unit:=λst=>match st[i]? with
 |some (a5 (k,u))=>if k.root=bD then match f u with
   |some u'=>a5 (.ok (),st.set i (a5 (k,u')))
   |none=>b5
  else b5
 |_=>b5
abbrev uY(u:U):U->Option U
 |.lst xs=>if xs.length<df then a5 (.lst (xs++[u])) else b5
 |_=>b5
abbrev gY:Kd×U->U->Option U
 |(k,.lst ys),.lst xs=>if xs.length+ys.length<=df/\dZ k ys=bD then a5 (.lst (xs++ys)) else b5
 |(k,.tup ys),.lst xs=>if xs.length+ys.length<=df/\dZ k ys=bD then a5 (.lst (xs++ys)) else b5
 |_,_=>b5
abbrev dI(x u:U):U->Option U
 |.EX ks vs=>match x with
  |.str y=>if ks.length<df then a5 (.EX (dput ks vs y u).1 (dput ks vs y u).2) else b5
  |_=>b5
 |.lst xs=>match x with
  |.int i=>(Iz xs.length i).map λj=>.lst (xs.set j u)
  |_=>b5
 |_=>b5
abbrev qQ:List U->U->Option U
 |[u,x]=>dI x u
 |_=>λ_=>b5
abbrev qR:U->Bool
 |.lst _=>bD
 |_=>c2
abbrev c6(st:av):av:=st.map λo=>match o with
 |some (.loc,u)=>a5 (.loc,u)
 |some (.any,u)=>a5 (.any,u)
 |_=>b5
abbrev uZ(F:List U->Option (Ex (Kd×U)))(i j:Nat)(ms:M (List (Kd×U)))(a:M Bool):M Fl:=λst=>match (ms >>= λrs=>ay rs >>= λ_=>pure rs) st with
 |some (.ok rs,st1)=>match F (rs.map (·.2)) with
  |some (.ok (.own,.lst xs))=>match a (st1.set i (a5 (.loc,.lst xs))) with
   |some (.ok c2,_)=>if xs.all qR=bD then a5 (.ok .nx,c6 ((st.set i b5).set j b5)) else b5
   |_=>b5
  |_=>b5
 |_=>b5
abbrev u9(i:Nat):M Fl:=λst=>match st[i]? with
 |some (a5 (.own,u))=>a5 (.ok .nx,st.set i (a5 (.loc,u)))
 |_=>b5
abbrev fuel:Nat:=1000000000000
mutual
noncomputable def Of:S->Nat->Bool
 |.set i _,j=>dV (j≠i)
 |.IJ is _,j=>dV (j∉is)
 |.ite _ a b,j=>Gf a j&&Gf b j
 |.Fh _ is _ _ body,j=>dV (j∉is)&&Gf body j
 |.Jq _ body,j=>Gf body j
 |.put _ _ _,_=>bD
 |.app _ _,_=>bD
 |.ext _ _,_=>bD
 |.bad,_=>bD
 |.newD i,j=>dV (j≠i)
 |.putD _ _ _,_=>bD
 |.Hb _ _ _,_=>bD
 |.aug _ _ _ _,_=>bD
 |.Mz _,_=>bD
 |.exp _,_=>bD
 |.ret _,_=>bD
 |.Hx,_=>bD
 |.brk,_=>bD
 |.cnt,_=>bD
 |.MA,_=>bD
 |.HF _,_=>bD
 |.Ip i k _ _ _,j=>dV (j≠i)&&dV (j≠k)
 |.shr _,_=>bD
noncomputable def Gf:List S->Nat->Bool
 |[],_=>bD
 |s::a,j=>Of s j&&Gf a j
end
abbrev qS(rs:List (Kd×U))(is:List Nat)(body:List S):Bool:=rs.all λr=>match r.1 with
 |.bor j=>dV (j∉is)&&Gf body j
 |_=>bD
mutual
noncomputable def exec:S->M Fl
 |.set i e=>do let r <-ev Γ e;eB i r;pure .nx
 |.IJ is e=>do let r <-ev Γ e;dH bD is r;pure .nx
 |.put i k v=>do
  let r <-ev Γ v
  let _ <-cJ i
  let x <-ev Γ k
  let us <-cI [r,x]
  modS i (qQ us)
  pure .nx
 |.app i e=>do
  let x <-cJ i
  IL x.2
  let r <-ev Γ e
  let u <-lift r
  modS i (uY u)
  pure .nx
 |.ext i e=>do
  let x <-cJ i
  IL x.2
  let r <-ev Γ e
  modS i (gY r)
  pure .nx
 |.bad=>M.fail
 |.newD i=>do zy i;pure .nx
 |.putD i k v=>do
  let r <-ev Γ v
  let d <-gz i
  let x <-ev Γ k
  let y <-iN x
  jx i y r
  pure .nx
 |.Hb i k v=>do
  let _ <-gz i
  let x <-ev Γ k
  let y <-iN x
  let d <-gz i
  if y∈d.1 then do
   let r <-ev Γ v
   let u <-lift r
   jy i y u
   pure .nx
  else M.fail
 |.aug sub i k v=>do
  let _ <-sM i
  let y <-ev Γ k
  let j <-sN y
  let us <-sM i
  let o <-M.Ff (uW us j)
  let z <-ev Γ v
  let w <-sN z
  modS i (dI (.int j) (.int (uX sub o w)))
  pure .nx
 |.Mz i=>do
  modS i EF
  pure .nx
 |.exp e=>do let _ <-ev Γ e;pure .nx
 |.ret e=>do let r <-ev Γ e;retS r
 |.Hx=>pure (.rt .loc .EY)
 |.ite c a b=>do let p <-E8 Γ c;if p=bD then execs a else execs b
 |.Fh t is g src body=>do
  let rs <-a9 Γ src
  ay rs
  let xs <-M.Ff (G0 g rs)
  if qS rs is body=bD then forM t is (execs body) rs xs else M.fail
 |.Jq c body=>fj (E8 Γ c) (execs body) fuel
 |.brk=>pure .bk
 |.cnt=>pure .ct
 |.MA=>pure .nx
 |.HF _=>M.fail
 |.Ip i j f es c=>uZ (Γ f) i j (a9 Γ es) (E8 Γ c)
 |.shr i=>u9 i
noncomputable def execs:List S->M Fl
 |[]=>pure .nx
 |s::a=>do
  let f <-exec s
  match f with
  |.nx=>execs a
  |f=>pure f
end
end
structure Fn where
 name:Str
 np:Nat
 ns:Nat
 body:List S
abbrev start(us:List U)(n:Nat):av:=us.map (λu=>a5 (if Fu u=bD then Kd.loc else Kd.any,u))++j0 (n - us.length) b5
abbrev fQ(Γ:Tab)(fn:Fn)(us:List U):Option (Ex (Kd×U)):=if us.length=fn.np then match execs Γ fn.body (start us fn.ns) with
  |some (.ok (.rt .own u),_)=>a5 (.ok (.own,u))
  |some (.ok (.rt .loc u),_)=>a5 (.ok (.loc,u))
  |some (.ok (.rt .any u),_)=>a5 (.ok (.any,u))
  |some (.ok .nx,_)=>a5 (.ok (.loc,.EY))
  |some (.exc c,_)=>a5 (.exc c)
  |_=>b5
 else b5
abbrev cq(is:List Nat)(us:List U)(n:Nat):av:=(us.zipIdx.map λp=>a5 (if p.2∈is then Kd.io else if Fu p.1=bD then Kd.loc else Kd.any,p.1))++j0 (n - us.length) b5
abbrev JQ:List Nat->av->Option (List U)
 |[],_=>a5 []
 |i::is,st=>match st[i]? with
  |some (a5 (.io,u))=>(JQ is st).map (u::·)
  |_=>b5
abbrev MB:Fl->Option (Kd×U)
 |.rt .own u=>a5 (.own,u)
 |.rt .loc u=>a5 (.loc,u)
 |.nx=>a5 (.loc,.EY)
 |_=>b5
abbrev fk(Γ:Tab)(fn:Fn)(is:List Nat)(body:List S)(us:List U):Option (Ex (Kd×U)):=if us.length=fn.np then match execs Γ body (cq is us fn.ns) with
  |some (.ok f,st)=>(MB f).bind λr=>(JQ is st).map λws=>.ok (r.1,.tup (r.2::ws))
  |_=>b5
 else b5
abbrev Fn.io(fn:Fn):Option (List Nat×List S):=match fn.body with
 |.HF is::body=>a5 (is,body)
 |_=>b5
abbrev gZ(Γ:Tab)(fn:Fn)(us:List U):Option (Ex (Kd×U)):=match fn.io with
 |some (is,body)=>fk Γ fn is body us
 |none=>fQ Γ fn us
abbrev E7(P:List Fn):Nat->Tab
 |0=>λ_ _=>b5
 |d+1=>λf us=>match P.find? λfn=>dV (fn.name=f) with
  |some fn=>gZ (E7 P d) fn us
  |none=>b5
end TM
namespace TM
open PySem L2
section
variable{X:Cx}{pins:List (fS×Obj)}{σ:St}{H:Hp}{s:hH}{C:Ct}{S:fS->Prop}
def qT(I:Inv X pins σ H s)(h:Fj X.K H a vs):∃b:List ei,Vals vs b/\s.heap.IsList a b.toArray/\vs.length<=df:=by
 have⟨b,r,p,z⟩:=I.list h;show⟨b,r,p.isList,z⟩
inductive Fx(s:hH):Nat->U->ei->Prop where
 |EY {n:Nat}:Fx s n .EY .none
 |bl {n:Nat} {b:Bool}:Fx s n (.bl b) (.bool b)
 |int {n:Nat} {i:Int} {t:Tok}:Fx s n (.int i) (.int i t)
 |str {n:Nat} {y:Str} {t:Tok}:Fx s n (.str y) (.str y t)
 |tup {n:Nat} {us:List U} {A':List ei} {a:fS}:us.length=A'.length->(∀j (hj:j<A'.length),Fx s n (us.getD j .EY) A'[j])->cp us us=bD->s.heap.IsTuple a A'.toArray->Fx s (n+1) (.tup us) (.ref a)
 |lst {n:Nat} {us:List U} {A':List ei} {a:fS}:us.length=A'.length->(∀j (hj:j<A'.length),Fx s n (us.getD j .EY) A'[j])->cp us us=bD->s.heap.IsList a A'.toArray->Fx s (n+1) (.lst us) (.ref a)
def Fx.self(h:Fx s n u x):bE u u=bD:=by
 cases h<;>first|assumption|simp[bE]
theorem Fx.sO(f:∀u v x,GY n u=bD->Rep C S H u v->RelV v x->Fx s n u x):∀{us:List U}{vs:List V}{a:List ei},gx n us=bD->ah C S H us vs->Vals vs a->us.length=a.length/\(∀j (b:j<a.length),Fx s n (us.getD j .EY) a[j])/\cp us us=bD
 |[],_,_,_,h,r=>by cases h;cases r;show⟨rfl,λj b=>(nomatch b),rfl⟩
 |u::us,_,_,e,h,r=>by
  have⟨v,vs,rfl,c,g⟩:=h;simp only[gx,b6]at e;cases r with
  |cons d i =>
   have⟨l,k,y⟩:=Fx.sO f e.2 g i;show⟨by simp[l],λj b=>?_,by rw[cp,(f _ _ _ e.1 c d).self,y];rfl⟩;cases j with
   |zero=>show f _ _ _ e.1 c d
   |succ j=>show k j (by simpa using b)
def Fx.of(I:Inv X pins σ H s)(d:C.K=X.K):∀(n:Nat) (u:U) (v:V) (x:ei),GY n u=bD->Rep C S H u v->RelV v x->Fx s n u x:=by
 intro n;induction n with
 |zero=>intro u v x e h r;cases u<;>first|(simp[GY]at e;done)|(simp only[Rep]at h;subst h;first|(cases r;constructor)|(have⟨t,rfl⟩:=r;constructor))
 |succ n f =>
  intro u v x e h r;cases u with
  |tup us =>
   have⟨a,vs,rfl,b,c⟩:=h;cases r;obtain⟨g,rv,p,_⟩:=I.tuple (d▸b);have⟨l,k,y⟩:=Fx.sO f (by simpa[GY] using e) c rv;show .tup l k y p
  |lst us =>
   have⟨a,vs,rfl,b,c⟩:=h;cases r;obtain⟨g,rv,p,_⟩:=qT I (d▸b.sq);have⟨l,k,y⟩:=Fx.sO f (by simpa[GY] using e) c rv;show .lst l k y p
  |_=>first|(simp[GY]at e;done)|(simp only[Rep]at h;subst h;first|(cases r;constructor)|(have⟨t,rfl⟩:=r;constructor))
def Fx.inj:∀{n:Nat}{u w:U}{x:ei},Fx s n u x->Fx s n w x->u=w:=by
 intro n;induction n with
 |zero=>intro u w x h h';cases h<;>cases h'<;>rfl
 |succ n r =>
  have go:∀{us ws:List U} {c its':List ei} {a:fS} {o o':Obj} {m i:Nat},us.length=c.length->(∀j (t:j<c.length),Fx s n (us.getD j .EY) c[j])->ws.length=its'.length->(∀j (t:j<its'.length),Fx s n (ws.getD j .EY) its'[j])->s.heap.get? a=a5 o->o.data=.seq c.toArray m->s.heap.get? a=a5 o'->o'.data=.seq its'.toArray i->us=ws:=by
   intro us ws c its' a o o' m i l k f k' e d g d';rw[e]at g;cases g;rw[d]at d';injection d' with v _
   have:c=its':=by simpa using Wv R3 v
   subst this;show Px ⋯ λj z A=>?_;have:=r (k j ⋯) (k' j ⋯);simpa[z,A] using this
  intro u w x h h';cases h with
  |tup l k y p =>
   cases h' with
   |tup f k' q b=>obtain⟨o,e,_,m,d⟩:=p;obtain⟨o',g,_,i,d'⟩:=b;rw[go l k f k' e d g d']
   |lst f k' q b=>show absurd rfl (RT b p)
  |lst l k y p =>
   cases h' with
   |lst f k' q b=>obtain⟨o,e,_,m,d⟩:=p;obtain⟨o',g,_,i,d'⟩:=b;rw[go l k f k' e d g d']
   |tup f k' q b=>show absurd rfl (RT p b)
  |_=>cases h';rfl
theorem g9:∀{us ws:List U},us.length≠ws.length->cp us ws=c2
 |[],[],h=>absurd rfl h
 |[],_::_,_=>rfl
 |_::_,[],_=>rfl
 |u::us,w::ws,h=>by
  rw[cp,g9 (us:=us) (ws:=ws) (λe=>h (by simp[e])),QO]
theorem eQ:∀{us ws:List U},us.length=ws.length->cp us ws=(i3 us.length).all λj=>bE (us.getD j .EY) (ws.getD j .EY)
 |[],[],_=>rfl
 |[],_::_,h=>by simp at h
 |_::_,[],h=>by simp at h
 |u::us,w::ws,h=>by
  have h':us.length=ws.length:=by simpa using h
  rw[cp,eQ h',mu,List.range_succ_eq_map,Rx,VQ];rfl
def CU{a its':List ei}(c:us.length=a.length)(d:ws.length=its'.length):cp us ws=((i3 (min a.toArray.size its'.toArray.size)).all (λj=>bE (us.getD j .EY) (ws.getD j .EY))&&a.toArray.size==its'.toArray.size):=by
 simp only[fR];by_cases b:us.length=ws.length
 .rw[eQ b,show min a.length its'.length=us.length by lia,show(a.length==its'.length)=bD by simp;lia,RJ]
 .rw[g9 b,show(a.length==its'.length)=c2 by simp;lia,QO]
def qU(b:Fx s n u y)(h:TH A s y x k)(hs:y=x->k=bD):Nl A s y x k:=λprog w E Q a=>by
 unfold eqBool;show va ?_;show wpAny_ite_split (λc=>?_) (λ_=>?_)
 .rw[hs (eq_of_beq c)]at a;show cc (ND (eL a))
 .cases b<;>show cc (h prog w E _ (GO a))
def Og(r:∀m,m+1=n->∀{u w:U}{x f:ei}{A:K2},Fx s m u x->Fx s m w f->A.units+m<Hg->Nl A s x f (bE u w))(h:Fx s n u x)(h':Fx s n w f)(v:A.units+n<Hg):TH A s x f (bE u w)/\Vs A s x f (!bE u w):=by
 have a:A.units<Hg:=by lia
 have go:∀{m:Nat} {us ws:List U} {g its':List ei},m+1=n->(∀j (t:j<g.length),Fx s m (us.getD j .EY) g[j])->(∀j (t:j<its'.length),Fx s m (ws.getD j .EY) its'[j])->∀j (i:j<g.toArray.size) (o:j<its'.toArray.size),Nl A.in1 s g.toArray[j] its'.toArray[j] (bE (us.getD j .EY) (ws.getD j .EY)):=λ{m us ws g its'} e k k' j i o=>r m e (k j i) (k' j o) (by change A.units+1+m < _;lia);cases h with
 |EY =>
  cases h' with
  |EY=>show⟨.none_none,.none_none⟩
  |bl=>show⟨.none_bool _,.none_bool _⟩
  |int=>show⟨.none_int _ _,.none_int _ _⟩
  |str=>show⟨.none_str _ _,.none_str _ _⟩
  |tup c k' d b=>show⟨.none_tuple b a,.none_tuple b a⟩
  |lst c k' d b=>show⟨.none_list b a,.none_list b a⟩
 |bl =>
  cases h' with
  |EY=>show⟨.bool_none _,.bool_none _⟩
  |bl=>show⟨.bool_bool _ _,.bool_bool _ _⟩
  |int=>show⟨.bool_int _ _ _,.bool_int _ _ _⟩
  |str=>show⟨.bool_str _ _ _,.bool_str _ _ _⟩
  |tup c k' d b=>show⟨.bool_tuple _ b a,.bool_tuple _ b a⟩
  |lst c k' d b=>show⟨.bool_list _ b a,.bool_list _ b a⟩
 |int =>
  cases h' with
  |EY=>show⟨.int_none _ _,.int_none _ _⟩
  |bl=>show⟨.int_bool _ _ _,.int_bool _ _ _⟩
  |int=>show⟨.int_int _ _ _ _,.int_int _ _ _ _⟩
  |str=>show⟨.int_str _ _ _ _,.int_str _ _ _ _⟩
  |tup c k' d b=>show⟨.int_tuple _ _ b a,.int_tuple _ _ b a⟩
  |lst c k' d b=>show⟨.int_list _ _ b a,.int_list _ _ b a⟩
 |str =>
  cases h' with
  |EY=>show⟨.str_none _ _,.str_none _ _⟩
  |bl=>show⟨.str_bool _ _ _,.str_bool _ _ _⟩
  |int=>show⟨.str_int _ _ _ _,.str_int _ _ _ _⟩
  |str=>show⟨.str_str _ _ _ _,.str_str _ _ _ _⟩
  |tup c k' d b=>show⟨.str_tuple _ _ b a,.str_tuple _ _ b a⟩
  |lst c k' d b=>show⟨.str_list _ _ b a,.str_list _ _ b a⟩
 |tup l k y p =>
  cases h' with
  |EY=>show⟨.tuple_none p a,.tuple_none p a⟩
  |bl=>show⟨.tuple_bool _ p a,.tuple_bool _ p a⟩
  |int=>show⟨.tuple_int _ _ p a,.tuple_int _ _ p a⟩
  |str=>show⟨.tuple_str _ _ p a,.tuple_str _ _ p a⟩
  |tup c k' d b=>rw[show bE (.tup _) (.tup _)=_ from CU l c];show⟨.tuples p b a (go rfl k k'),.tuples p b a (go rfl k k')⟩
  |lst c k' d b=>show⟨.tuple_list p b a,.tuple_list p b a⟩
 |lst l k y p =>
  cases h' with
  |EY=>show⟨.list_none p a,.list_none p a⟩
  |bl=>show⟨.list_bool _ p a,.list_bool _ p a⟩
  |int=>show⟨.list_int _ _ p a,.list_int _ _ p a⟩
  |str=>show⟨.list_str _ _ p a,.list_str _ _ p a⟩
  |tup c k' d b=>show⟨.list_tuple p b a,.list_tuple p b a⟩
  |lst c k' d b =>
   rename_i us _ _ ws _ _;by_cases q:us.length=ws.length
   .rw[show bE (.lst us) (.lst ws)=_ from eQ q,l,<-fR];show⟨.lists p b (by simp;lia) a (go rfl k k'),.lists p b (by simp;lia) a (go rfl k k')⟩
   .rw[show bE (.lst us) (.lst ws)=c2 from g9 q];show⟨.lists_lengths p b (by simp;lia) a,.lists_lengths p b (by simp;lia) a⟩
def CV:∀{n:Nat}{u w:U}{x a:ei}{A:K2},Fx s n u x->Fx s n w a->A.units+n<Hg->Nl A s x a (bE u w):=by
 intro n;induction n with
 |zero=>intro u w x a A h h' b;show qU h (Og (λm e=>by cases e) h h' b).1 λe=>by subst e;rw[h.inj h'];show h'.self
 |succ n c=>intro u w x a A h h' b;show qU h (Og (λm e=>by cases e;show c) h h' b).1 λe=>by subst e;rw[h.inj h'];show h'.self
def CW(h:Fx s n u x)(h':Fx s n w a)(b:A.units+n<Hg):TH A s x a (bE u w)/\Vs A s x a (!bE u w):=Og (λm e=>by cases e;show CV) h h' b
end
end TM
namespace TM
open PySem L2 PyProof.Rows
abbrev E4(C:Ct)(m:M (Kd×U)):TE:=λσ H Q=>∃c0:Cf,c0.σ=σ/\c0.H=H/\Ok C c0/\W m c0.st λr st'=>∀c v,c.σ=σ->c.st=st'->Ok C c->Nx c0 c->aC C c0 c r.1 r.2 v->Q v c.H
abbrev F2(C:Ct)(m:M Bool):TT:=λσ H Q=>∃c0:Cf,c0.σ=σ/\c0.H=H/\Ok C c0/\W m c0.st λb st'=>∀c,c.σ=σ->c.st=st'->Ok C c->Nx c0 c->Q b c.H
def bY(C:Ct)(c0 c:Cf):List (Kd×U)->List V->Prop
 |[],vs=>vs=[]
 |r::rs,vs=>∃v t,vs=v::t/\eN C c0 c r.1 r.2 v/\bY C c0 c rs t/\(r.1=.own->∀(i:Nat) a b,rs[i]?=a5 a->t[i]?=a5 b->a.1=.own->b≠v)
abbrev F'(C:Ct)(m:M (List (Kd×U))):TA:=λσ H Q=>∃c0:Cf,c0.σ=σ/\c0.H=H/\Ok C c0/\W m c0.st λrs st'=>∀c vs,c.σ=σ->c.st=st'->Ok C c->Nx c0 c->bY C c0 c rs vs->Q vs c.H
section
def PE.weak(h:PE X e t)(i:∀σ H Q,t' σ H Q->t σ H Q):PE X e t':=λa s σ H Q I q=>h a s σ H Q I (i σ H Q q)
def PT.weak(h:PT X e t)(i:∀σ H Q,t' σ H Q->t σ H Q):PT X e t':=λa s σ H Q I q=>h a s σ H Q I (i σ H Q q)
def bS{st:av}:W (ay rs) st Q↔aX rs st/\Q () st:=by
 constructor
 .rintro⟨a,st',e,h⟩;unfold ay at e;split at e
  .cases e;show⟨by assumption,h⟩
  .cases e
 .rintro⟨b,c⟩;show⟨(),st,by unfold ay;rw[Wq b],c⟩
def eZ{st:av}:aX (r::rs) st↔aX [r] st/\aX rs st:=by
 have⟨k,u⟩:=r;cases k<;>simp[aX]
def eN.t(h:eN C c0 c k u v)(s:aX [(k,u)] c.st):aC C c0 c k u v:=by
 cases k with
 |bor j=>show⟨s.1,h⟩
 |_=>show h
structure Ln(C:Ct)(c0 c:Cf)(x y:Kd×U)(vx vy:V):Prop where
 hσ:c.σ=c0.σ
 ok:Ok C c
 nx:Nx c0 c
 rx:aC C c0 c x.1 x.2 vx
 ry:aC C c0 c y.1 y.2 vy
 ne:x.1=.own->y.1=.own->vy≠vx
def mJ(h:eN C c0 c1 k u v)(h':eN C c1 c k' u' b):k=.own->k'=.own->b≠v:=by
 rintro rfl rfl e;obtain⟨r,d,_,_,_,f⟩:=h;obtain⟨i,g,a,_⟩:=h';obtain⟨o,ho,_⟩:=f.some;subst d;rw[g]at e;cases e;rw[ho]at a;cases a
def two{k:Kd×U->Kd×U->M β}{Post:β->av->Prop}{f:ei->ei->Sem α}{Q':ei->ei->α->hH->Prop}(L:PE X a (E4 C N))(O:PE X b (E4 C r))(I:Inv X d c0.σ c0.H s)(Q:Ok C c0)
  (h:W (N >>= λx=>r >>= λy=>ay [x,y] >>= λ_=>k x y) c0.st Post)
  (T:∀x y c e i v u s2,Ln C c0 c x y e i->Inv X d c.σ c.H s2->RelV e v->RelV i u->W (k x y) c.st Post->hA (hW X.prog X.w) X.A (f v u) (Q' v u) X.xe s2) :
  hA (hW X.prog X.w) X.A (D3 a X.env) (λv Y=>hA (hW X.prog X.w) X.A (D3 b X.env) (λu s₂=>hA (hW X.prog X.w) X.A (f v u) (Q' v u) X.xe s₂) X.xe Y) X.xe s:=by
 rw[ae]at h;show E2 (L d s c0.σ c0.H (λe z=>∃x c1,c1.H=z/\c1.σ=c0.σ/\Ok C c1/\Nx c0 c1/\aC C c0 c1 x.1 x.2 e/\W (r >>= λy=>ay [x,y] >>= λ_=>k x y) c1.st Post) I ⟨c0,rfl,rfl,Q,h.mono λx st1 m c1 e n e2 o p q=>⟨x,c1,rfl,n,o,p,q,by rw[e2];show m⟩⟩) ?_;rintro v s1 ⟨e,z,I1,rv,x,c1,rfl,n,o,p,q,m⟩;rw[ae]at m;show E2 (O d s1 c0.σ c1.H (λi B=>∃y g,g.H=B/\Ln C c0 g x y e i/\W (k x y) g.st Post) I1 ⟨c1,n,rfl,o,m.mono λy st2 j g i D e4 Fe G J=>?_⟩) ?_
 .rw[ae,bS]at j;subst e4;rw[eZ]at j;show⟨y,g,rfl,⟨D,Fe,p.trans G,(q.w.on o G (D.trans n.symm)).t j.1.1,(J.from p),mJ q.w J.w⟩,j.2⟩
 .rintro u s2 ⟨i,B,I2,ru,y,g,rfl,l,j⟩;have hs:g.σ=c0.σ:=l.hσ;show T x y g e i v u s2 l (by rw[hs];show I2) rv ru j
structure JR(C:Ct)(c0 c:Cf)(x:Kd×U)(vx:V):Prop where
 hσ:c.σ=c0.σ
 ok:Ok C c
 nx:Nx c0 c
 rx:aC C c0 c x.1 x.2 vx
abbrev bR(C:Ct)(c0:Cf)(Q:VK)(r:Kd×U)(st':av):Prop:=∀c v,c.σ=c0.σ->c.st=st'->Ok C c->Nx c0 c->aC C c0 c r.1 r.2 v->Q v c.H
section
def bR.flat(h:bR C c0 Q (.loc,u) c.st)(a:c.σ=c0.σ)(b:Ok C c)(n:Nx c0 c)(r:Rep C c.S c.H u v):Q v c.H:=h c v a rfl b n r
def bR.list(h:bR C c0 Q (.own,.lst us) c.st)(a:c.σ=c0.σ)(b:Ok C c)(n:Nx c0 c)(r:ah C c.S c.H us vs)(p:fS)(d:c.H p=b5):Q (.ref p) (upd c.H p (.lst vs)):=by
 have⟨e,f,g⟩:=b.newList n d r;show h {c with H:=upd c.H p (.lst vs)} _ a rfl e f g
def bR.tup(h:bR C c0 Q (.loc,.tup us) c.st)(a:c.σ=c0.σ)(b:Ok C c)(n:Nx c0 c)(r:ah C c.S c.H us vs)(p:fS)(d:c.H p=b5):Q (.ref p) (upd c.H p (.tup vs)):=by
 have⟨e,f,g⟩:=b.AU n d r;show h {c with H:=upd c.H p (.tup vs)} _ a rfl e f g
def bR.tupK(h:bR C c0 Q (kE k,.tup us) c.st)(d:c.σ=c0.σ)(a:Ok C c)(n:Nx c0 c)(r:ah C (SK C c k) c.H us vs)(p:fS)(e:c.H p=b5):Q (.ref p) (upd c.H p (.tup vs)):=by
 have⟨f,b⟩:=a.lay (o:=.tup vs) e;show h {c with H:=upd c.H p (.tup vs)} _ d rfl f (n.trans b) (aC.item ?_);cases k<;>show⟨p,vs,rfl,FH.of au,by first|show r.mv (a.IG b)|show r.mv (a.mv b)⟩
def cu(h:dZ k us=bD)(r:ah C (SK C c k) c.H us vs):ah C c.S c.H us vs:=by
 cases k with
 |any=>show r.Fu (by simpa[dZ,isAny] using h)
 |_=>show r
end
def A8(k k':Kd):∀a,SK C c k a->SK C c (kT k k') a:=by
 intro a h;cases k<;>cases k'<;>first|show h|show .inr h
def xZ(k k':Kd):∀a,SK C c k' a->SK C c (kT k k') a:=by
 intro a h;cases k<;>cases k'<;>first|show h|show .inr h
def CY(k k':Kd):kE (kT k k')=kT k k':=by cases k<;>cases k'<;>rfl
def x9:Gm X (KX .Add) (λx y H Q=>∃l b xs c,x=.ref l/\y=.ref b/\Fj X.K H l xs/\Fj X.K H b c/\xs.length+c.length<=df/\∀p,H p=b5->Q (.ref p) (upd H p (.lst (xs++c)))):=by
 intro f s σ H x y v u Q I o t h;have⟨l,b,xs,c,rfl,rfl,w,A,hz,q⟩:=h;cases o;cases t;have⟨d,r,B,z⟩:=I.list w;have⟨e,g,C,T⟩:=I.list A;have hl:=r.length;have Hu:=g.length;obtain⟨⟨cls,D,data,G⟩,ho,i,n,j⟩:=B.isList;obtain⟨⟨Y,J,data2,L⟩,k,m,N,a⟩:=C.isList;simp only at i j m a;subst i j m a;show Qz ⟨_,ho,rfl⟩ ⟨_,k,rfl⟩ noFill_list_add seq_list_add PySem.F.slot_list_add PySem.F.entry_list_add (PySem.F.args_list_add_2 _ _)
   (list_addW l b d.toArray e.toArray n N D J G L (by rw[fR,fR];lia)) ⟨ho,k,?_⟩
 have O:d.toArray++e.toArray=(d++e).toArray:=by simp
 rw[O];show⟨.ref _,_,I.Ey (t':=s.toks) (r.append g) (by rw[ke];lia),rfl,q _ I.fresh⟩
end
section
variable{X:Cx}{C:Ct}{pins:List (fS×Obj)}{s:hH}{c0 c:Cf}{Q:VK}
def u_:Gm X (KX .Add) (λx y H Q=>∃a b ys,x=.ref a/\y=.ref b/\FH X.K H a []/\FH X.K H b ys/\Q (.ref b) H):=by
 intro pins s σ H x y v u Q I j k h;have⟨a,b,ys,rfl,rfl,l,m,q⟩:=h;cases j;cases k;obtain⟨D,o,p,_⟩:=I.tuple l;obtain⟨r,G,p2,_⟩:=I.tuple m;cases o;obtain⟨⟨cls,t,data,w⟩,ho,e,n,f⟩:=id p;obtain⟨⟨J,z,data2,A⟩,g,i,B,d⟩:=id p2;simp only at e f i d;subst e f i d;show Qz ⟨_,ho,rfl⟩ ⟨_,g,rfl⟩ QZ TC PySem.F.slot_tuple_add PySem.F.entry_tuple_add (PySem.F.args_tuple_add_2 _ _)
   (tuple_addW0 a b _ r.toArray n B t z w A (by rfl)) ⟨ho,g,.ref b,H,I,rfl,q⟩
abbrev Mu.op:Mu->U3
 |.add=>.Add|.sub=>.Sub|.mul=>.Mult|.JN=>.FloorDiv|.mod=>.Mod|.pow=>.Pow
def dJ(h:pD f a b=a5 r):∃i j o,a=.int i/\b=.int j/\f i j=a5 o/\r=(.loc,.int o):=by
 unfold pD at h;split at h
 .rw[fx]at h;have⟨o,e,rfl⟩:=h;show⟨_,_,o,rfl,rfl,e,rfl⟩
 .cases h
def A9(Y:C.K=X.K)(t:Ln C c0 c x y g l)(I:Inv X pins c.σ c.H s)(z:RelV g v)(B:RelV l u)(h:HW op x y=a5 r)(q:bR C c0 Q r c.st):
  hA (hW X.prog X.w) X.A (KX op.op v u) (EP X pins c.σ Q) X.xe s:=by
 obtain⟨m,d,n,D,G,_⟩:=t;cases op with
 |add =>
  have h:xQ x y=a5 r:=h;unfold xQ at h;split at h
  .have ex:=D.int d;have e:=G.int d;cases h;show bP pins s c.σ c.H g l v u Q I z B ⟨_,_,ex,e,q.flat m d n rfl⟩
  .have ex:=D.str d;have e:=G.str d;split at h
   .cases h;show oV pins s c.σ c.H g l v u Q I z B ⟨_,_,ex,e,by assumption,q.flat m d n rfl⟩
   .cases h
  .have⟨a,vs,ex,O,J⟩:=D.list d;have⟨b,ws,e,T,L⟩:=G.list d;split at h
   .rename_i N;cases h;show x9 pins s c.σ c.H g l v u Q I z B ⟨a,b,vs,ws,ex,e,Y▸O,Y▸T,by rw[<-J.len,<-L.len];show N.1,λp hp=>q.list m d n ((cu N.2.1 J).append (cu N.2.2 L)) p hp⟩
   .cases h
  .rename_i k xs k' ys _ _;have⟨a,vs,ex,O,J⟩:=D.tuple d;have⟨b,ws,e,T,L⟩:=G.tuple d;have Gw:=O;have Kf:=T;rw[Y]at Gw Kf;split at h
   .rename_i N;cases h;have m1:ah C (SK C c (kT k k')) c.H xs vs:=J.mv (.up (A8 k k'));have m2:ah C (SK C c (kT k k')) c.H ys ws:=L.mv (.up (xZ k k'));have q':bR C c0 Q (kE (kT k k'),.tup (xs++ys)) c.st:=by rw[CY];show q
    by_cases e1:vs=[]
    .subst e1;show u_ pins s c.σ c.H g l v u Q I z B ⟨a,b,ws,ex,e,Gw,Kf,?_⟩;show q' c (.ref b) m rfl d n (aC.item ⟨b,ws,rfl,T,?_⟩);have:xs=[]:=by have:=m1.len;simpa using this
     rw[this];show m2
    .show xx pins s c.σ c.H g l v u Q I z B ⟨a,b,vs,ws,ex,e,Gw,Kf,e1,by rw[<-J.len,<-L.len];show N,λe2=>?_,λ_ p hp=>q'.tupK m d n (m1.append m2) p hp⟩;subst e2;show q' c (.ref a) m rfl d n (aC.item ⟨a,vs,rfl,O,?_⟩);have:ys=[]:=by have:=m2.len;simpa using this
     rw[this,x2];show m1
   .cases h
  .cases h
 |sub =>
  have⟨i,j,o,ex,e,f,rfl⟩:=dJ h;have ex:=(ex▸D).int d;have e:=(e▸G).int d;cases f;show oS pins s c.σ c.H g l v u Q I z B ⟨_,_,ex,e,q.flat m d n rfl⟩
 |mul =>
  have⟨i,j,o,ex,e,f,rfl⟩:=dJ h;have ex:=(ex▸D).int d;have e:=(e▸G).int d;unfold xR at f;split at f
  .cases f;show jd pins s c.σ c.H g l v u Q I z B ⟨_,_,ex,e,by assumption,q.flat m d n rfl⟩
  .cases f
 |JN =>
  have⟨i,j,o,ex,e,f,rfl⟩:=dJ h;have ex:=(ex▸D).int d;have e:=(e▸G).int d;unfold xS at f;split at f
  .cases f;show xo pins s c.σ c.H g l v u Q I z B ⟨_,_,ex,e,by assumption,q.flat m d n rfl⟩
  .cases f
 |mod =>
  have⟨i,j,o,ex,e,f,rfl⟩:=dJ h;have ex:=(ex▸D).int d;have e:=(e▸G).int d;unfold xT at f;split at f
  .cases f;show du pins s c.σ c.H g l v u Q I z B ⟨_,_,ex,e,by assumption,q.flat m d n rfl⟩
  .cases f
 |pow =>
  have⟨i,j,o,ex,e,f,rfl⟩:=dJ h;have ex:=(ex▸D).int d;have e:=(e▸G).int d;unfold xU at f;split at f
  .cases f;show lT pins s c.σ c.H g l v u Q I z B ⟨_,_,ex,e,by assumption,q.flat m d n rfl⟩
  .cases f
def x_(d:C.K=X.K)(f:PE X a (E4 C g))(i:PE X b (E4 C j)):PE X (.BinOp a k.op b pos) (E4 C (g >>= λx=>j >>= λy=>ay [x,y] >>= λ_=>M.Ff (HW k x y))):=by
 rintro pins s σ H Q I ⟨c0,rfl,rfl,l,h⟩;show wpAny_BinOp (two f i I l h λx y c p A v u s2 t m n o w=>?_);have⟨r,e,q⟩:=bX.mp w;show E2 (A9 d t m n o e q) λ_ _ z=>by rw[t.hσ]at z;show z
abbrev Lm.op:Lm->CmpOp
 |.eq=>.Eq|.ne=>.NotEq|.lt=>.Lt|.le=>.LtE|.gt=>.Gt|.ge=>.GtE|.isin=>.In|.Fg=>.NotIn|.is=>.Is|.JO=>.IsNot
def CZ{neg:Bool}(I:Inv X pins c.σ c.H s)(i:C.K=X.K)(L:X.A.units+60<Hg){S:fS->Prop}(n:Rep C S c.H x m)(o:RelV m v)(r:ah C S c.H ys vs)
  (ha:Fj C.K c.H a vs\/FH C.K c.H a vs) (t:GY 50 x=bD) (u:gx 50 ys=bD) {Q:ei->hH->Prop} (q:Q (.bool (if neg then !(ys.any λy=>bE y x) else ys.any λy=>bE y x)) s) :
  hA (hW X.prog X.w) X.A (Iv (if neg then .NotIn else .In) v (.ref a)) Q X.xe s:=by
 have z:=Fx.of I i 50 x m v t n o;have go:∀d:List ei,Vals vs d->∃e:ei->Bool,(∀y,y∈d.toArray->Nl X.A.in1 s y v (e y))/\d.toArray.any e=ys.any λy=>bE y x:=by
  intro d rv;obtain⟨l,k,_⟩:=Fx.sO (Fx.of I i 50) u r rv
  classical
  have q:∀j (b:j<d.length),dV (∃w,Fx s 50 w d[j]/\bE w x=bD)=bE (ys.getD j .EY) x:=λj b=>by
   rw[KP,decide_eq_true_iff];show⟨λ⟨w,f,g⟩=>by rw[<-f.inj (k j b)];show g,λh=>⟨_,k j b,h⟩⟩
  show⟨λy=>dV (∃w,Fx s 50 w y/\bE w x=bD),λy B=>?_,?_⟩
  .have⟨j,b,e⟩:=LP (show y∈d by simpa using B);subst e;change Nl _ _ _ _ (decide _);rw[q j b];show CV (k j b) z (by change X.A.units+1+50 < _;lia)
  .rw[KP];simp only[List.any_toArray,PB];constructor
   .rintro⟨y,D,h⟩;have⟨j,b,rfl⟩:=LP D;rw[q j b]at h;show⟨_,G_ (l▸b),by simpa[l▸b] using h⟩
   .rintro⟨w,G,J⟩;have⟨j,b,rfl⟩:=LP G;show⟨_,G_ (l▸b),by rw[q j (l▸b)];simpa[b] using J⟩
 rcases ha with ha|ha
 .obtain⟨d,rv,p,_⟩:=qT I (i▸ha);have⟨e,f,g⟩:=go d rv;cases neg with
  |false=>show SeqAt.in_listAt e p f (by rw[g];show q)
  |true=>show SeqAt.notIn_listAt e p f (by rw[g];show q)
 .rw[i]at ha;obtain⟨d,rv,p,_⟩:=I.tuple ha;have⟨e,f,g⟩:=go d rv;cases neg with
  |false=>show SeqAt.in_tupleAt e p f (by rw[g];show q)
  |true=>show SeqAt.notIn_tupleAt e p f (by rw[g];show q)
end
section
theorem bG:∀{us:List U}{a:List Str},strsOf us=a5 a->us=a.map .str
 |[],a,h=>by cases h;rfl
 |.str x::us,a,h=>by
  simp only[strsOf,fx]at h;have⟨t,b,rfl⟩:=h;rw[bG b];rfl
 |.EY::_,_,h=>by cases h
 |.bl _::_,_,h=>by cases h
 |.int _::_,_,h=>by cases h
 |.tup _::_,_,h=>by cases h
 |.lst _::_,_,h=>by cases h
 |.EX _ _::_,_,h=>by cases h
 |.Fm _ _::_,_,h=>by cases h
theorem iB:∀{us:List U}{ns:List Int},intsOf us=a5 ns->us=ns.map .int
 |[],ns,h=>by cases h;rfl
 |u::us,ns,h=>by
  cases u<;>first|(cases h;done)|skip
  rename_i x;have h':(intsOf us).map (x::·)=a5 ns:=h;rw[fx]at h';have⟨ms,e,rfl⟩:=h';rw[iB e];rfl
theorem ah.ints{S:fS->Prop}:∀{ns:List Int}{vs:List V},ah C S H (ns.map .int) vs->vs=ns.map V.int
 |[],vs,h=>h
 |n::ns,vs,h=>by
  have⟨v,r,rfl,a,b⟩:=h;rw[ah.ints b];have:v=.int n:=a;rw[this];rfl
theorem jz:∀{us:List U}{a:List Bool},jv us=a5 a->us=a.map .bl
 |[],a,h=>by cases h;rfl
 |.bl x::us,a,h=>by
  simp only[jv,fx]at h;have⟨t,b,rfl⟩:=h;rw[jz b];rfl
 |.EY::_,_,h=>by cases h
 |.str _::_,_,h=>by cases h
 |.int _::_,_,h=>by cases h
 |.tup _::_,_,h=>by cases h
 |.lst _::_,_,h=>by cases h
 |.EX _ _::_,_,h=>by cases h
 |.Fm _ _::_,_,h=>by cases h
theorem ah.PM{S:fS->Prop}:∀{xs:List Bool}{vs:List V},ah C S H (xs.map .bl) vs->vs=xs.map V.bl
 |[],vs,h=>h
 |x::xs,vs,h=>by
  have⟨v,r,rfl,a,b⟩:=h;rw[ah.PM b];have:v=.bl x:=a;rw[this];rfl
abbrev A_(X:Cx)(a:List (fS×Obj))(c:Cf)(b:Bool)(v:ei)(s':hH):Prop:=v=.bool b/\Inv X a c.σ c.H s'
def d0(o:Gm X f r)(I:Inv X a c.σ c.H s)(g:RelV d v)(i:RelV e u)(h:r d e c.H λx H'=>x=.bl b/\H'=c.H):
  hA (hW X.prog X.w) X.A (f v u) (A_ X a c b) X.xe s :=
 E2 (o a s c.σ c.H d e v u _ I g i h) λw s' j=>by
  have⟨z,H',k,r,l,m⟩:=j;subst l m;show⟨r,k⟩
def aC.dict(g:Ok C c)(h:aC C c0 c k (.EX ks us) v):∃a kvs,v=.ref a/\c.H a=a5 (.dK kvs)/\kvs.map (·.1)=ks.map ko/\ah C (SK C c k) c.H us (kvs.map (·.2)):=by
 cases k with
 |own=>obtain⟨r,e,_,_,_,kvs,b,d,f⟩:=h;show⟨r,kvs,e,b,d,f⟩
 |bor j=>obtain⟨r,e,_,_,_,kvs,b,d,f⟩:=g.rootOf h.1 h.2;show⟨r,kvs,e,b,d,f⟩
 |io=>show h.elim
 |B'=>show h.elim
 |_=>obtain⟨a,e,_,kvs,b,d,f⟩:=h;show⟨a,kvs,e,b,d,f⟩
def aC.vb(b:Ok C c)(h:aC C c0 c k (.Fm ks us) v):∃a o kvs,v=.ref a/\c.H a=a5 (.FO o (.dK kvs))/\kvs.map (·.1)=ks.map ko/\ah C (SK C c k) c.H us (kvs.map (·.2)):=by
 cases k with
 |own=>obtain⟨r,e,_,_,_,h⟩:=h;show h.elim
 |bor j=>obtain⟨r,e,_,_,_,h⟩:=b.rootOf h.1 h.2;show h.elim
 |io=>show h.elim
 |B'=>show h.elim
 |_=>have⟨a,e,o,kvs,d,f,g⟩:=h;show⟨a,o,kvs,e,d,f,g⟩
theorem bL{S:fS->Prop}:∀{ks:List Str}{us:List U}{kvs:List (Key×V)},kvs.map (·.1)=ks.map ko->ah C S H us (kvs.map (·.2)) ->
  (∀u,cC ks us x=a5 u->∃v,cU kvs (ko x)=a5 v/\Rep C S H u v)/\(cU kvs (ko x)).isSome=dV (x∈ks)
 |[],us,kvs,a,b=>by
  have:kvs=[]:=by simpa using a
  subst this;show⟨λu h=>by cases us<;>simp[cC]at h,by simp[cU]⟩
 |k::ks,us,[],a,b=>by simp at a
 |k::ks,[],p::kvs,a,b=>by simp[ah]at b
 |k::ks,j::us,p::kvs,a,b=>by
  have⟨v,r,e,d,f⟩:=b;rw[gj]at e;cases e;rw[gj,gj,Lj]at a;have⟨g,i⟩:=bL (x:=x) a.2 f;by_cases hk:k=x
  .subst hk;show⟨λu h=>?_,?_⟩
   .simp[cC]at h;subst h;show⟨p.2,dA a.1,d⟩
   .rw[dA a.1];simp
  .have c:¬p.1=ko x:=by rw[a.1];intro z;show hk (OD z)
   show⟨λu h=>?_,?_⟩
   .simp[cC,hk]at h;have⟨v,e,q⟩:=g u h;show⟨v,by rw[dB c];show e,q⟩
   .rw[dB c,i];simp[qs hk]
def Rep.kX{S:fS->Prop}(h:Rep C S H u v):dV (v=.EY)=kX u:=by
 cases u with
 |EY=>have:v=.EY:=h;subst this;rfl
 |bl b=>have:v=.bl b:=h;subst this;rfl
 |int b=>have:v=.int b:=h;subst this;rfl
 |str b=>have:v=.str b:=h;subst this;rfl
 |EX ks us=>obtain⟨a,rfl,_⟩:=h;rfl
 |Fm ks us=>obtain⟨a,rfl,_⟩:=h;rfl
 |_=>obtain⟨a,vs,rfl,_⟩:=h;rfl
def vc:Gm X (Iv .Is) (λx y H Q=>∃i j,x=.bl i/\y=.bl j/\Q (.bl (i==j)) H):=by
 intro a s σ H x y v u Q I b c h;have⟨i,j,rfl,rfl,q⟩:=h;cases b;cases c;cases i<;>cases j<;>show eL (lU I q rfl)
def pG:Gm X (Iv .IsNot) (λx y H Q=>∃i j,x=.bl i/\y=.bl j/\Q (.bl (!(i==j))) H):=by
 intro a s σ H x y v u Q I b c h;have⟨i,j,rfl,rfl,q⟩:=h;cases b;cases c;cases i<;>cases j<;>show eL (lU I q rfl)
def vd(hP:C.P=X.prog)(hw:C.w=X.w)(B:C.K=X.K)(O:X.A.units+60<Hg)(t:Ln C c0 c x y L T)(I:Inv X p c.σ c.H s)(f:RelV L v)(g:RelV T u)(h:cz Y x.2 y.2=a5 b):
  hA (hW X.prog X.w) X.A (Iv Y.op v u) (A_ X p c b) X.xe s:=by
 obtain⟨hσ,d,n,j,i,_⟩:=t;have⟨kx,ux⟩:=x;have⟨ky,uy⟩:=y
 dsimp only at h j i
 have G:∀neg:Bool,∀D,xV ux uy=a5 D->hA (hW X.prog X.w) X.A (Iv (if neg then .NotIn else .In) v u) (A_ X p c (if neg then !D else D)) X.xe s:=by
  intro neg D h;have J:=j.read d;have Q:=i.read d;unfold xV at h;split at h
  .have⟨a,vs,rfl,l,q⟩:=Q;cases g;unfold IK at h;split at h
   .rename_i m;cases h;show CZ I B O J f q (.inl l.sq) m.1 m.2 ⟨by cases neg<;>rfl,I⟩
   .cases h
  .have⟨a,vs,rfl,l,q⟩:=Q;cases g;unfold IK at h;split at h
   .rename_i m;cases h;show CZ I B O J f q (.inr l) m.1 m.2 ⟨by cases neg<;>rfl,I⟩
   .cases h
  .cases h;have ex:L=_:=J;have⟨a,kvs,rfl,l,q,N⟩:=i.dict d;cases g;subst ex;have hs:=λz:Str=>(bL (x:=z) q N).2;cases neg with
   |false=>show AB ⋯ I (dk.k (k:=ko _) l) f λs' r=>⟨by rw[hs];rfl,r⟩
   |true=>show mi ⋯ I (dk.k (k:=ko _) l) f λs' r=>⟨by rw[hs];rfl,r⟩
  .cases h;have ex:L=_:=J;have⟨a,o,kvs,rfl,l,q,N⟩:=i.vb d;cases g;subst ex;have hs:=λz:Str=>(bL (x:=z) q N).2;cases neg with
   |false=>show AB ⋯ I (.inl ⟨kvs,ko _,.inr ⟨o,l⟩,rfl,rfl⟩) f λs' r=>⟨by rw[hs];rfl,r⟩
   |true=>show mi ⋯ I (.inl ⟨kvs,ko _,.inr ⟨o,l⟩,rfl,rfl⟩) f λs' r=>⟨by rw[hs];rfl,r⟩
  .cases h
 unfold cz at h;split at h
 .split at h
  .rename_i m;cases h;show(CW (n:=50) (.of I B _ _ _ _ m.1 (j.read d) f) (.of I B _ _ _ _ m.2 (i.read d) g) ⋯).1 _ _ _ _ ⟨rfl,I⟩
  .cases h
 .split at h
  .rename_i m;cases h;show(CW (n:=50) (.of I B _ _ _ _ m.1 (j.read d) f) (.of I B _ _ _ _ m.2 (i.read d) g) ⋯).2 _ _ _ _ ⟨rfl,I⟩
  .cases h
 .cases h;show d0 CC I f g ⟨_,_,j.int d,i.int d,rfl,rfl⟩
 .cases h;show d0 CD I f g ⟨_,_,j.int d,i.int d,rfl,rfl⟩
 .cases h;show d0 CF I f g ⟨_,_,j.int d,i.int d,rfl,rfl⟩
 .show G c2 b h
 .rw[fx]at h;have⟨D,l,rfl⟩:=h;show G bD D l
 .cases h;have e:=i.EY d;show d0 Ar I f g ⟨e,by rw[(j.read d).kX],rfl⟩
 .cases h;have e:=i.EY d;show d0 xp I f g ⟨e,by rw[(j.read d).kX],rfl⟩
 .cases h;show d0 vc I f g ⟨_,_,j.bl d,i.bl d,rfl,rfl⟩
 .cases h;show d0 pG I f g ⟨_,_,j.bl d,i.bl d,rfl,rfl⟩
 .cases h
def ya(g:C.P=X.prog)(i:C.w=X.w)(j:C.K=X.K)(k:X.A.units+60<Hg)(l:PE X a (E4 C m))(n:PE X b (E4 C o))(p:LX d.op b=c2):
  PE X (.Compare a [d.op] [b] pos) (E4 C (m >>= λx=>o >>= λy=>ay [x,y] >>= λ_=>M.Ff (cz d x.2 y.2) >>= λc=>pure (.loc,.bl c))):=by
 rintro f s σ H Q I ⟨c0,rfl,rfl,B,h⟩;show wpAny_Compare1 (two l n I B h λx y c O T v u s2 t D G J w=>?_) p;rw[ae]at w;have⟨r,e,q⟩:=bX.mp w;rw[ak]at q;show E2 (vd g i j k t D G J e) λz s' L=>?_;have⟨e,N⟩:=L;subst e;show⟨.bl r,c.H,by rw[<-t.hσ];show N,rfl,q c (.bl r) t.hσ rfl t.ok t.nx rfl⟩
def yb(i:C.P=X.prog)(j:C.w=X.w)(k:C.K=X.K)(l:X.A.units+60<Hg)(m:PE X a (E4 C n))(o:PE X b (E4 C p))(B:LX g.op b=c2):
  PT X (.Compare a [g.op] [b] pos) (F2 C (n >>= λx=>p >>= λy=>ay [x,y] >>= λ_=>M.Ff (cz g x.2 y.2))):=by
 rintro d s σ H Q I ⟨c0,rfl,rfl,D,h⟩;show UK (two (f:=λv u=>Iv g.op v u) (Q':=λ_ _ c s=>hA (hW X.prog X.w) X.A (V7 c) (TP X d c0.σ Q) X.xe s) m o I D h λx y c T Y v u s2 t G J L w=>?_) B;have⟨r,e,q⟩:=bX.mp w;show E2 (vd i j k l t G J L e) λz s' N=>?_;have⟨e,O⟩:=N;subst e;show GO ⟨c.H,by rw[<-t.hσ];show O,q c t.hσ rfl t.ok t.nx⟩
end
section
abbrev C0(C:Ct)(c0:Cf)(Q:Bool->Hp->Prop)(b:Bool)(st':av):Prop:=∀c,c.σ=c0.σ->c.st=st'->Ok C c->Nx c0 c->Q b c.H
def pH(a:c1.σ=c0.σ)(b:Ok C c1)(n:Nx c0 c1)(h:W m c1.st (bR C c0 Q)):E4 C m c0.σ c1.H Q :=
 ⟨c1,a,rfl,b,h.mono λr st c d v e f g i j=>c d v e f g (n.trans i) (j.from n)⟩
def vf(a:c1.σ=c0.σ)(b:Ok C c1)(n:Nx c0 c1)(h:W m c1.st (C0 C c0 Q)):F2 C m c0.σ c1.H Q :=
 ⟨c1,a,rfl,b,h.mono λr st c d e f g i=>c d e f g (n.trans i)⟩
def aF(a:Ok C c0)(h:W (b >>= k) c0.st Post)
  (hz:∀x c v,JR C c0 c x v->W (k x) c.st Post->Z v c.H):E4 C b c0.σ c0.H Z:=by
 rw[ae]at h;show⟨c0,rfl,rfl,a,h.mono λx st1 d c1 e f g i j l=>hz x c1 e ⟨f,i,j,l⟩ (by rw[g];show d)⟩
def dM(a:Ok C c0)(h:W (d >>= k) c0.st Post)
  (hz:∀b c,c.σ=c0.σ->Ok C c->Nx c0 c->W (k b) c.st Post->Z b c.H):F2 C d c0.σ c0.H Z:=by
 rw[ae]at h;show⟨c0,rfl,rfl,a,h.mono λx st1 e c1 f g i j=>hz x c1 f i j (by rw[g];show e)⟩
abbrev C1(m:M (Kd×U))(x:Kd×U):M (Kd×U):=match x.2 with
 |.bl bD=>m
 |.bl c2=>pure (.loc,.bl c2)
 |_=>M.fail
abbrev C2(x:Kd×U):M (Kd×U):=match x.2 with
 |.bl c=>pure (.loc,.bl !c)
 |_=>M.fail
def snd_and(g:PE X a (E4 C i))(j:PE X (.BoolOp .And (b::rest) pos) (E4 C l)):PE X (.BoolOp .And (a::b::rest) pos) (E4 C (i >>= C1 l)):=by
 show PE.weak (Af g j) ?_;rintro σ H Q ⟨c0,rfl,rfl,m,h⟩;show aF m h λx c v t w=>?_;have⟨k,u⟩:=x;have⟨f,d,n,r⟩:=t;unfold C1 at w;split at w
 .rename_i e
  dsimp only at e r
  subst e;show⟨bD,r.bl d,by rw[Wq rfl];show pH f d n w⟩
 .rename_i e
  dsimp only at e r
  subst e;rw[ak]at w;show⟨c2,r.bl d,by rw[Ws i0];show w c (.bl c2) f rfl d n rfl⟩
 .show(aQ.mp w).elim
def yc(d:PE X a (E4 C f)):PE X (.UnaryOp .Not a pos) (E4 C (f >>= C2)):=by
 show PE.weak (Ag d) ?_;rintro σ H Q ⟨c0,rfl,rfl,g,h⟩;show aF g h λx c v t w=>?_;have⟨k,u⟩:=x;have⟨i,b,n,r⟩:=t;unfold C2 at w;split at w
 .rename_i e
  dsimp only at e r
  subst e;rw[ak]at w;show⟨_,r.bl b,w c (.bl _) i rfl b n rfl⟩
 .show(aQ.mp w).elim
def yd(g:PT X d (F2 C i))(j:PE X a (E4 C k))(l:PE X b (E4 C m)):PE X (.IfExp d a b pos) (E4 C (i >>= λp=>if p=bD then k else m)):=by
 show PE.weak (t7 g j l) ?_;rintro σ H Q ⟨c0,rfl,rfl,o,h⟩;show dM o h λp c e f n w=>?_;cases p with
 |true=>rw[Wq rfl]at w ⊢;show pH e f n w
 |false=>rw[Ws i0]at w ⊢;show pH e f n w
def ye(d:PT X a (F2 C e)):PT X (.UnaryOp .Not a pos) (F2 C (e >>= λb=>pure !b)):=by
 show PT.weak (Ad d) ?_;rintro σ H Q ⟨c0,rfl,rfl,f,h⟩;show dM f h λp c g i n w=>?_;rw[ak]at w;show w c g rfl i n
def yf(g:PT X a (F2 C i))(j:PW X (.BoolOp .And (b::rest) pos) (F2 C k)):PW X (.BoolOp .And (a::b::rest) pos) (F2 C (i >>= λp=>if p=bD then k else pure c2)):=by
 have l:=Ac g j;rintro m d s σ H Q I ⟨c0,rfl,rfl,o,h⟩;show l m d s c0.σ c0.H Q I (dM o h λp c e f n w=>?_);cases p with
 |true=>rw[Wq rfl]at w ⊢;show vf e f n w
 |false=>rw[Ws i0]at w ⊢;rw[ak]at w;show w c e rfl f n
def Ba(g:PT X a (F2 C i))(j:PW X (.BoolOp .Or (b::rest) pos) (F2 C k)):PW X (.BoolOp .Or (a::b::rest) pos) (F2 C (i >>= λp=>if p=bD then pure bD else k)):=by
 have l:=Co g j;rintro m d s σ H Q I ⟨c0,rfl,rfl,o,h⟩;show l m d s c0.σ c0.H Q I (dM o h λp c e f n w=>?_);cases p with
 |true=>rw[Wq rfl]at w ⊢;rw[ak]at w;show w c e rfl f n
 |false=>rw[Ws i0]at w ⊢;show vf e f n w
def qV{us:List α}{vs:List β}(h:us.length=vs.length):(!us.isEmpty)=!vs.isEmpty:=by
 cases us<;>cases vs<;>simp_all
def iS(j:PE X a (E4 C l))(i:C.K=X.K)(m:∀b,isTrue a X.env b=(do let v <-b;R5 a.pos;Jb [v] (V7 v))):PT X a (F2 C (l >>= λx=>M.Ff (sI x.2))):=by
 show PT.weak (ue j m) ?_;rintro σ H Q ⟨c0,rfl,rfl,o,h⟩;show aF o h λx c v t w=>?_;have⟨k,u⟩:=x;have⟨s,d,n,r⟩:=t;have⟨p,e,q⟩:=bX.mp w
 dsimp only at e r
 show⟨p,?_,q c s rfl d n⟩;unfold sI at e;split at e
 .cases e;rw[r.bl d];rfl
 .cases e;have⟨a,vs,rfl,f,g⟩:=r.list d;show .inl ⟨vs,i▸f,qV g.len⟩
 .cases e;have⟨a,vs,rfl,f,g⟩:=r.tuple d;rw[i]at f;show .inr (.inl ⟨vs,f,qV g.len⟩)
 .split at e
  .cases e;rw[r.str d];show⟨by assumption,rfl⟩
  .cases e
 .cases e
end
section
def bY.from(n:Nx c0 c1):bY C c1 c rs vs->bY C c0 c rs vs:=by
 intro h;induction rs generalizing vs with
 |nil=>show h
 |cons r rs a=>have⟨v,t,e,b,d,f⟩:=h;show⟨v,t,e,b.from n,a d,f⟩
def bY.get{i:Nat}(h:bY C c0 c rs vs)(e:rs[i]?=a5 r)(a:vs[i]?=a5 v):eN C c0 c r.1 r.2 v:=by
 induction rs generalizing vs i with
 |nil=>simp at e
 |cons g rs b =>
  have⟨j,t,rfl,d,f,k⟩:=h;cases i with
  |zero=>simp at e a;subst e a;show d
  |succ i=>show b f (by simpa using e) (by simpa using a)
def yg:PA X [] (F' C (pure [])):=by
 rintro pos a s σ H Q I ⟨c0,rfl,rfl,b,h⟩;rw[ak]at h;show gQ pos a s c0.σ c0.H Q I (h c0 [] rfl rfl b (Nx.refl c0) rfl)
def vg(g:PE X e (E4 C m))(j:PA X es (F' C ms))(hs:i7 (e::es) X.env=(c2,D3 e X.env)::i7 es X.env):PA X (e::es) (F' C (m >>= λr=>ms >>= λrs=>pure (r::rs))):=by
 rintro pos a s σ H Q I ⟨c0,rfl,rfl,k,h⟩;show dR g j hs pos a s c0.σ c0.H Q I (aF k h λr c1 v t w=>?_);rw[ae]at w;show⟨c1,t.hσ,rfl,t.ok,w.mono λrs st2 b l vs c n o d f=>?_⟩;rw[ak]at b;show b l (v::vs) c n o (t.nx.trans d) ⟨v,vs,rfl,t.rx.w.on t.ok d (c.trans t.hσ.symm),f.from t.nx,λhk i x y p q u=>?_⟩;show mJ t.rx.w (f.get p q) hk u
structure Hc(C:Ct)(c0 c:Cf)(rs:List (Kd×U))(vs:List V):Prop where
 hσ:c.σ=c0.σ
 ok:Ok C c
 nx:Nx c0 c
 rep:bY C c0 c rs vs
 Lo:aX rs c.st
def args{k:List (Kd×U)->M β}{Post:β->av->Prop}(e:PA X es (F' C ms))(I:Inv X a c0.σ c0.H s)(f:Ok C c0)(h:W (ms >>= λrs=>ay rs >>= λ_=>k rs) c0.st Post)(pos:Pos):
  hA (hW X.prog X.w) X.A (VE (E1 pos (i7 es X.env))) (λus s1=>∃rs c vs,Hc C c0 c rs vs/\Inv X a c.σ c.H s1/\Vals vs us/\W (k rs) c.st Post) X.xe s:=by
 rw[ae]at h;show E2 (e pos a s c0.σ c0.H (λvs d=>∃rs c,c.H=d/\Hc C c0 c rs vs/\W (k rs) c.st Post) I ⟨c0,rfl,rfl,f,h.mono λrs st1 b c1 vs g i j l m=>?_⟩) ?_
 .rw[ae,bS]at b;subst i;show⟨rs,c1,rfl,⟨g,j,l,m,b.1⟩,b.2⟩
 .rintro us s1 ⟨vs,d,n,rv,rs,c1,rfl,t,w⟩;show⟨rs,c1,vs,t,by rw[t.hσ];show n,rv,w⟩
def Hc.one(t:Hc C c0 c [r] vs):∃v,vs=[v]/\aC C c0 c r.1 r.2 v:=by
 obtain⟨v,t',rfl,a,b,_⟩:=t.rep;cases b;show⟨v,rfl,a.t t.Lo⟩
def Ok.share(b:Ok C c)(g:C.H₀ r=b5)(h:∃o,c.H r=a5 o)(hl:st'.length=c.st.length)
  (d:∀(i:Nat) k u,st'[i]?=a5 (a5 (k,u))->(∃v,c.σ[i]?=a5 (a5 v)/\eM C (λa=>c.S a\/a=r) c.H k u v)/\(k.root=bD->c.st[i]?=a5 (a5 (k,u)))) (l:HD C {c with S:=λa=>c.S a\/a=r,st:=st' }) :
  Ok C {c with S:=λa=>c.S a\/a=r,st:=st' }:=by
 show⟨b.same,λa z=>?_,b.par,b.io,by rw[show({c with S:=λa=>c.S a\/a=r,st:=st' }:Cf).st.length=st'.length from rfl,hl];show b.len,λi k u e=>(d i k u e).1,λi j k k' u u' m hk f n p q s=>?_,l⟩
 .rcases z with z|rfl
  .show b.Gi a z
  .show⟨g,h⟩
 .show b.inj i j k k' u u' m hk f ((d i k u n).2 hk) ((d j k' u' p).2 f) q s
def Ok.Bb(p:Ok C c0)(b:Ok C c)(n:Nx c0 c)(d:c0.H r=b5)(f:¬c.R r)(s:cn C c.S c.H r u):
  Ok C {c with S:=λa=>c.S a\/a=r}/\Nx c0 {c with S:=λa=>c.S a\/a=r}:=by
 obtain⟨o,ho,_⟩:=s.some;show⟨b.share (st':=c.st) (p.iM d).1 ⟨o,ho⟩ rfl (λi k u e=>⟨?_,λ_=>e⟩) (b.dd.hs (.up λa=>.inl) λj a z=>⟨λq=>q.elim (b.root (.inr ⟨j,z⟩)).1 λe=>f (.inr ⟨j,e▸z⟩),λo q=>q⟩),⟨⟨n.keep,n.there,n.roots,λa z=>.inl (n.sub a z),λa z=>?_⟩⟩⟩
 .have⟨v,g,h⟩:=b.sl i k u e;have t:Mv c.S c.H (λa=>c.S a\/a=r) c.H:=.up λa=>.inl;show⟨v,g,h.mv t (.up λa z=>z.imp id .inl) λhk x l=>⟨?_,λo q=>q⟩⟩;obtain⟨y,m,w,_⟩:=h.rt hk;rw[l]at m;cases m;rintro(z|rfl)
  .show w z
  .show f (.inl ⟨i,k,u,hk,e,by rw[g,l]⟩)
 .rcases z with z|rfl
  .show n.new a z
  .show .inr (.inr d)
def Ok.vh(d:Ok C c)(n:Nx c0 c)(g:c.st[j]?=a5 (a5 (.own,u)))(h:c.σ[j]?=a5 (a5 (.ref r))):
  Ok C {c with S:=λa=>c.S a\/a=r,st:=c.st.set j (a5 (.loc,u))}/\Nx c0 {c with S:=λa=>c.S a\/a=r,st:=c.st.set j (a5 (.loc,u))}/\Rep C (λa=>c.S a\/a=r) c.H u (.ref r):=by
 have⟨Y,f,l,m,q1,q2,G,x⟩:=d.sl j _ _ g;rw[h]at f;cases f;cases m;have y:Rep C (λa=>c.S a\/a=r) c.H u (.ref r):=x.rep (λa=>.inl) (.inr rfl);obtain⟨o,ho,_⟩:=x.some;have s:j<c.st.length:=(eH.mp g).1;have t:∀(i:Nat) k u',(c.st.set j (a5 (.loc,u)))[i]?=a5 (a5 (k,u'))->i≠j->c.st[i]?=a5 (a5 (k,u')):=λi k u' e I=>by rw[hE (qs I)]at e;show e
 have J:c.R1 r:=⟨j,.own,u,rfl,g,h⟩
 have A:∀(i:Nat) (u':U),(c.st.set j (a5 (.loc,u)))[i]?=a5 (a5 (.B',u'))->c.st[i]?=a5 (a5 (.B',u')):=λi u' e=>by
  by_cases b:i=j
  .subst b;rw[ez s]at e;cases e
  .show t i .B' u' e b
 have B:∀a,({c with S:=λa=>c.S a\/a=r,st:=c.st.set j (a5 (.loc,u))}:Cf).R1 a->c.R1 a:=λa L=>by
  have⟨i,k,u',hk,e,N⟩:=L;by_cases b:i=j
  .subst b;rw[ez s]at e;cases e;cases hk
  .show⟨i,k,u',hk,t i k u' e b,N⟩
 have O:HD C {c with S:=λa=>c.S a\/a=r,st:=c.st.set j (a5 (.loc,u))}:=d.dd.of rfl (λi u' e=>⟨A i u' e,rfl⟩) (λa z=>.inl (B a z)) (.up λa=>.inl) λi a z=>⟨λq=>q.elim (d.root (.inr ⟨i,z⟩)).1 λe=>d.dd.d1 i a z (e▸J),λo q=>q⟩
 show⟨d.share (st':=c.st.set j (a5 (.loc,u))) G ⟨o,ho⟩ (by simp) (λi k u' e=>?_) O,⟨⟨n.keep,n.there,λa z=>?_,λa z=>.inl (n.sub a z),λa z=>?_⟩⟩,y⟩
 .by_cases b:i=j
  .subst b;rw[ez s]at e;cases e;show⟨⟨.ref r,h,y⟩,λz=>nomatch z⟩
  .have w:=t i k u' e b;have⟨v,f,p⟩:=d.sl i k u' w;show⟨⟨v,f,p.mv (.up λa=>.inl) (.up λa z=>z.imp id .inl) λhk l m=>⟨?_,λo q=>q⟩⟩,λ_=>w⟩;obtain⟨Kr,D,Q,_⟩:=p.rt hk;rw[m]at D;cases D;rintro(z|rfl)
   .show Q z
   .show b (d.inj i j k .own u' u l hk rfl w g (by rw[f,m]) h)
 .rcases z with z|⟨i,u',l,f,p,T⟩
  .show n.roots a (.inl (B a z))
  .show n.roots a (.inr ⟨i,u',l,A i u' f,p,T⟩)
 .rcases z with z|rfl
  .show n.new a z
  .rcases n.roots a (.inl ⟨j,.own,u,rfl,g,h⟩) with z|z
   .show .inr (.inl z)
   .show .inr (.inr z)
def e_(A:Ok C c0)(b:Ok C c)(n:Nx c0 c)(d:eN C c0 c r.1 r.2 v)(h:W (lift r) c.st Post):
  ∃(S':fS->Prop) (st':av) (u:U),(∀a,c.S a->S' a)/\Ok C {c with S:=S',st:=st' }/\Nx c0 {c with S:=S',st:=st' }/\Rep C S' c.H u v/\Post u st' /\
   (∀a,S' a->c.S a\/v=.ref a/\(r.1=.own\/c.R a))/\∀a,({c with S:=S',st:=st' }:Cf).R a->c.R a:=by
 have⟨k,u⟩:=r;cases k with
 |own =>
  rw[show lift (.own,u)=pure u from rfl,ak]at h;have⟨r,e,B,N,D,t⟩:=d;have⟨l,m⟩:=Ok.Bb A b n B D t;show⟨_,c.st,u,λa=>.inl,l,m,by rw[e];show t.rep (λa=>.inl) (.inr rfl),h,λa z=>?_,λa z=>z⟩;rcases z with z|rfl
  .show .inl z
  .show .inr ⟨e,.inl rfl⟩
 |loc =>
  rw[show lift (.loc,u)=pure u from rfl,ak]at h;show⟨c.S,c.st,u,λa=>id,b,n,d,h,λa z=>.inl z,λa z=>z⟩
 |any =>
  rw[show lift (.any,u)=if Fu u=bD then pure u else M.fail from rfl]at h;split at h
  .rw[ak]at h;show⟨c.S,c.st,u,λa=>id,b,n,Rep.Fu (by assumption) d,h,λa z=>.inl z,λa z=>z⟩
  .show(aQ.mp h).elim
 |bor j =>
  have⟨x,st',e,G⟩:=h;rw[show lift (.bor j,u) c.st=match c.st[j]? with|some (a5 (.own,u))=>a5 (Ex.ok u,c.st.set j (a5 (.loc,u)))|_=>b5 from rfl]at e;split at e
  .rename_i w f;cases e;obtain⟨O,y,r,I,_⟩:=b.sl j _ _ f;have o:c.σ[j]?=a5 (a5 v):=d;rw[o]at y;cases y;subst I;have⟨l,m,p⟩:=b.vh n f o;show⟨_,_,_,λa=>.inl,l,m,p,G,λa z=>?_,λa z=>?_⟩
   .rcases z with z|rfl
    .show .inl z
    .show .inr ⟨rfl,.inr (.inl ⟨j,.own,_,rfl,f,o⟩)⟩
   .rcases z with⟨i,k,u',hk,e,q⟩|⟨i,u',J,e,q,L⟩
    rotate_left 1
    .by_cases g:i=j
     .subst g;have s:i<c.st.length:=(eH.mp f).1;rw[ez s]at e;cases e
     .rw[hE (qs g)]at e;show .inr ⟨i,u',J,e,q,L⟩
    by_cases g:i=j
    .subst g;have s:i<c.st.length:=(eH.mp f).1;rw[ez s]at e;cases e;cases hk
    .rw[hE (qs g)]at e;show .inl ⟨i,k,u',hk,e,q⟩
  .cases e
 |_=>show d.elim
theorem gB:∀{rs:List (Kd×U)}{vs:List V}{c:Cf}{Post:List U->av->Prop},Ok C c0->Ok C c->Nx c0 c->bY C c0 c rs vs->W (cI rs) c.st Post ->
  ∃(S':fS->Prop) (st':av) (us:List U),(∀a,c.S a->S' a)/\Ok C {c with S:=S',st:=st' }/\Nx c0 {c with S:=S',st:=st' }/\ah C S' c.H us vs/\Post us st'
 |[],vs,c,Post,k,m,n,p,h=>by
  rw[show cI []=pure [] from rfl,ak]at h;show⟨c.S,c.st,[],λa=>id,m,n,p,h⟩
 |r::rs,vs,c,Post,k,m,n,p,h=>by
  have⟨v,t,rfl,I,J,L⟩:=p;rw[show cI (r::rs)=lift r >>= λu=>cI rs >>= λus=>pure (u::us) from rfl,ae]at h;have⟨S1,st1,u,s1,N,O,b,s,Q,T⟩:=e_ k m n I h;rw[ae]at s;have Y:bY C c0 {c with S:=S1,st:=st1} rs t:=by
   clear h s;have x:∀(l:List (Kd×U)) (w:List V),bY C c0 c l w->(r.1=.own->∀(i:Nat) f g,l[i]?=a5 f->w[i]?=a5 g->f.1=.own->g≠v)->bY C c0 {c with S:=S1,st:=st1} l w:=by
    intro l;induction l with
    |nil=>intro w q _;show q
    |cons r2 l ih =>
     intro w q y;have⟨A,B,rfl,j,q2,q3⟩:=q;show⟨A,B,rfl,?_,ih B q2 (λhk i f g e1 e2 Ft=>y hk (i+1) f g (by simpa using e1) (by simpa using e2) Ft),q3⟩;have⟨k2,u2⟩:=r2;cases k2 with
     |own =>
      have⟨a,e,p1,p2,D,p4⟩:=j;show⟨a,e,p1,λz=>?_,λz=>D (T a z),p4.mv (.up s1) λo q=>q⟩;rcases Q a z with z|⟨z,z'|z'⟩
      .show p2 z
      .show y z' 0 _ A rfl rfl rfl (e.trans z.symm)
      .show D z'
     |loc=>show Rep.mv (.up s1) j
     |any=>show Rep.mv (.up λa z=>z.imp id (s1 a)) j
     |_=>show j
   show x rs t J L
  have⟨S2,st2,us,s2,Fe,n2,d,G⟩:=gB (c:={c with S:=S1,st:=st1}) k N O Y s;rw[ak]at G;show⟨S2,st2,u::us,λa z=>s2 a (s1 a z),Fe,n2,⟨v,t,rfl,b.mv (.up s2),d⟩,G⟩
def yh(j:PA X es (F' C ms)):PE X (.Tuple es p pos) (E4 C (ms >>= λrs=>ay rs >>= λ_=>cI rs >>= λus=>if us.length<=df then pure (.loc,.tup us) else M.fail)):=by
 rintro a s σ H Q I ⟨c0,rfl,rfl,g,h⟩;show wpAny_Tuple_spliced (E2 (args j I g h pos) λus s1 k=>?_);have⟨rs,c,vs,t,i,rv,w⟩:=k;rw[ae]at w;have⟨S',st',ws,q,l,m,d,f⟩:=gB g t.ok t.nx t.rep w;split at f
 .rename_i hz;rw[ak]at f;have hl:vs.length<=df:=by rw[<-d.len];show hz
  show⟨by rw[<-rv.length];show hl,?_⟩;have n:c.H s1.heap.objs.size=b5:=i.EZ.fresh (hY _);have o:Inv X a c0.σ c.H s1:=by rw[<-t.hσ];show i
  show⟨.ref s1.heap.objs.size,upd c.H s1.heap.objs.size (.tup vs),o.laid (t':=s1.toks) (λb u e=>c4 _ e) (hY _) ⟨hl,us,rv,UG _ _⟩,rfl,?_⟩;show bR.tup (c:={c with S:=S',st:=st' }) f t.hσ l m d _ n
 .show(aQ.mp f).elim
def yi(j:PA X es (F' C ms)):PE X (.List es pos) (E4 C (ms >>= λrs=>ay rs >>= λ_=>cI rs >>= λus=>if us.length<=df then pure (.own,.lst us) else M.fail)):=by
 rintro a s σ H Q I ⟨c0,rfl,rfl,g,h⟩;show wpAny_List_spliced (E2 (args j I g h pos) λus s1 k=>?_);have⟨rs,c,vs,t,i,rv,w⟩:=k;rw[ae]at w;have⟨S',st',ws,p,l,m,d,f⟩:=gB g t.ok t.nx t.rep w;split at f
 .rename_i hz;rw[ak]at f;have hl:vs.length<=df:=by rw[<-d.len];show hz
  show⟨by rw[<-rv.length];show hl,?_⟩;have n:c.H s1.heap.objs.size=b5:=i.EZ.fresh (hY _);have o:Inv X a c0.σ c.H s1:=by rw[<-t.hσ];show i
  show⟨.ref s1.heap.objs.size,upd c.H s1.heap.objs.size (.lst vs),o.laid (t':=s1.toks) (λb u e=>c4 _ e) (hY _) ⟨hl,us,0,rv,hh _ rfl⟩,rfl,?_⟩;show bR.list (c:={c with S:=S',st:=st' }) f t.hσ l m d _ n
 .show(aQ.mp f).elim
end
section
def mK(d:X.N[i]?=a5 x)(f:GB X.env.scope x)(g:(x==("__debug__":Str))=c2)(l:(x==("__classdict__":Str))=c2):PE X (.Name x pos) (E4 C (cJ i)):=by
 show PE.weak (bB d f g l) ?_;rintro σ H Q ⟨c0,rfl,rfl,b,r,st',e,h⟩;unfold cJ at e;split at e
 .cases e
 .rename_i k u m hs;cases e;have⟨v,c,a⟩:=b.sl i k u hs;show⟨v,c,h c0 v rfl rfl b (Nx.refl c0) ?_⟩;by_cases hk:k.root=bD
  .rw[Wq hk];show⟨⟨k,hk,hs⟩,c⟩
  .rw[Ws hk];cases k with
   |loc=>show a
   |any=>show a
   |bor j=>show a.elim
   |B'=>show(m rfl).elim
   |_=>show absurd rfl hk
 .cases e
def iT(h:PE X e (tC v))(r:∀S H,Rep C S H u v):PE X e (E4 C (pure (.loc,u))):=by
 show PE.weak h ?_;rintro σ H Q ⟨c0,rfl,rfl,a,h⟩;rw[ak]at h;show h c0 v rfl rfl a (Nx.refl c0) (r _ _)
def bR.root(h:bR C c0 Q (.own,u) c.st)(d:c.σ=c0.σ)(b:Ok C c)(n:Nx c0 c)(p:fS)(a:c.H p=b5)(r:cn C c.S (upd c.H p o) p u):Q (.ref p) (upd c.H p o):=by
 have⟨e,f⟩:=b.lay (o:=o) a;have⟨j,g,k,l,i⟩:=b.iM a;show h {c with H:=upd c.H p o} _ d rfl e (n.trans f) ⟨p,rfl,n.none a,g,i,r⟩
def vi(c:C.P=X.prog)(d:C.w=X.w)(r:Bool):PE X (.Dict [] [] pos) (E4 C (pure (.own,.EX [] []))):=by
 show PE.weak nE ?_;rintro σ H Q ⟨c0,rfl,rfl,a,h⟩ p b;rw[ak]at h;show bR.root h rfl a (Nx.refl c0) p b ⟨[],au,rfl,rfl⟩
def ah.FR{S:fS->Prop}(h:ah C S H us vs)(e:FR us i=a5 u):∃v,L2.FR vs i=a5 v/\Rep C S H u v:=by
 unfold L2.FR at e ⊢;rw[h.len]at e;cases q:Iz vs.length i with
 |none=>rw[q]at e;cases e
 |some j =>
  rw[q]at e;show h.get e
def Bc(hK:C.K=X.K)(hu:X.A.units+60<Hg)(hs:lY b)(t:Ln C c0 c x y N O)(I:Inv X f c.σ c.H s)(D:RelV N v)(G:RelV O u)(h:fN x y.2=a5 r)(q:bR C c0 Q r c.st):
  hA (hW X.prog X.w) X.A (Pj a b v u) (EP X f c.σ Q) X.xe s:=by
 obtain⟨J,d,n,L,B,-⟩:=t;have⟨ky,uy⟩:=y
 dsimp only at h B
 unfold fN at h;split at h
 .rename_i k xs i;rw[fx]at h;have⟨w,e,rfl⟩:=h;have⟨j,vs,ex,l,m⟩:=L.list d;have⟨vw,p,z⟩:=m.FR e;show xy a b f s c.σ c.H N O v u Q I D G ⟨j,vs,i,vw,ex,B.int d,hK▸l,p,q c vw J rfl d n (aC.item z)⟩ (hs _ _)
 .rename_i k xs i;rw[fx]at h;have⟨w,e,rfl⟩:=h;have⟨j,vs,ex,l,m⟩:=L.tuple d;have⟨vw,p,z⟩:=m.FR e;rw[hK]at l;show lZ a b f s c.σ c.H N O v u Q I D G ⟨j,vs,i,vw,ex,B.int d,l,p,q c vw J rfl d n (aC.item z)⟩ (hs _ _)
 .split at h
  .rw[fx]at h;have⟨w,e,rfl⟩:=h;show l8 a b f s c.σ c.H N O v u Q I D G ⟨_,_,w,L.str d,B.int d,by assumption,e,q c _ J rfl d n rfl⟩ (hs _ _)
  .cases h
 .rename_i k ks us x;rw[fx]at h;have⟨w,e,rfl⟩:=h;have⟨j,kvs,ex,l,m,T⟩:=L.dict d;have⟨vw,p,z⟩:=(bL (x:=x) m T).1 w e;have Y:=B.str d;subst ex Y;cases D;have g:dk c.H j (.str x) (a5 vw):=by rw[<-p];show dk.k (k:=ko x) l
  show U' (ops:=[.ref j,u]) (eI I g) PySem.F.slot_dict_getitem.lookup (gS ⋯ I g G λw' s3 I3 GC=>⟨vw,c.H,I3,GC,q c vw J rfl d n (aC.item z)⟩) (hs _ _)
 .rename_i k ks us x;rw[fx]at h;have⟨w,e,rfl⟩:=h;have⟨j,o,kvs,ex,l,m,T⟩:=L.vb d;have⟨vw,p,z⟩:=(bL (x:=x) m T).1 w e;have Y:=B.str d;subst ex Y;cases D;have g:dk c.H j (.str x) (a5 vw):=by rw[<-p];show .inl ⟨kvs,ko x,.inr ⟨o,l⟩,rfl,rfl⟩
  show U' (ops:=[.ref j,u]) (eI I g) PySem.F.slot_dict_getitem.lookup (gS ⋯ I g G λw' s3 I3 GC=>⟨vw,c.H,I3,GC,q c vw J rfl d n (aC.item z)⟩) (hs _ _)
 .cases h
def yj(f:C.K=X.K)(g:X.A.units+60<Hg)(hs:lY b)(i:PE X a (E4 C j))(k:PE X b (E4 C l)):PE X (.Subscript a b pos) (E4 C (j >>= λx=>l >>= λy=>ay [x,y] >>= λ_=>M.Ff (fN x y.2))):=by
 rintro d s σ H Q I ⟨c0,rfl,rfl,m,h⟩;show Vv (two i k I m h λx y c B D v u s2 t n o p w=>?_);have⟨r,e,q⟩:=bX.mp w;show E2 (Bc f g hs t n o p e q) λ_ _ z=>by rw[t.hσ]at z;show z
def ah.cut{S:fS->Prop}(h:ah C S H us vs)(lo a:Option Int):ah C S H (TM.cut us lo a) (sm vs lo a):=by
 unfold TM.cut sm;rw[h.len];show(h.drop _).take _
end
section
end
section
variable{X:Cx}{C:Ct}{pins:List (fS×Obj)}{s:hH}{c0 c c1:Cf}
variable{a b d e:l'}{es:List l'}{m ma mb md:M (Kd×U)}{ms:M (List (Kd×U))}{ta tb:M Bool}{pos p p2:Pos}
abbrev tO(C:Ct)(m:M (Option Int)):TO:=λσ H Q=>∃c0:Cf,c0.σ=σ/\c0.H=H/\Ok C c0/\W m c0.st λi st'=>∀c,c.σ=σ->c.st=st'->Ok C c->Nx c0 c->Q i c.H
def sQ:PO X b5 (tO C (pure b5)):=by
 rintro pins s σ H Q I ⟨c0,rfl,rfl,f,h⟩;rw[ak]at h;show xv pins s c0.σ c0.H Q I (h c0 rfl rfl f (Nx.refl c0))
def sR(f:PE X a (E4 C ma)):PO X (a5 a) (tO C (ma >>= A7)):=by
 rintro pins s σ H Q I ⟨c0,rfl,rfl,g,h⟩;show xw f pins s c0.σ c0.H Q I (aF g h λx c v t w=>?_);have⟨k,u⟩:=x;unfold A7 at w;split at w
 .rename_i i e
  dsimp only at e
  subst e;rw[ak]at w;show⟨i,t.rx.int t.ok,w c t.hσ rfl t.ok t.nx⟩
 .show(aQ.mp w).elim
def Bd{lo f:Option Int}(v:C.K=X.K)(i:c.σ=c0.σ)(g:Ok C c)(n:Nx c0 c)(j:aC C c0 c x.1 x.2 w)(h:pE x lo f=a5 r)(q:bR C c0 Q r c.st):
  CM X.K w lo f c.H Q\/CP w lo f c.H Q:=by
 unfold pE at h;split at h
 .split at h
  .rename_i k;cases h;have⟨l,vs,ex,o,t⟩:=j.list g;show .inl ⟨l,vs,ex,v▸o,λp u=>q.list i g n ((cu k t).cut lo f) p u⟩
  .cases h
 .split at h
  .rename_i k;cases h;have⟨l,vs,ex,o,t⟩:=j;show .inl ⟨l,vs,ex,v▸o.sq,λp u=>q.list i g n ((t.Fu k).cut lo f) p u⟩
  .cases h
 .split at h
  .cases h;show .inr ⟨_,j.str g,by assumption,q.flat i g n rfl⟩
  .cases h
 .cases h
def yk{lo g:Option l'}(n:C.K=X.K)(o:PE X a (E4 C ma))(hl:PO X lo (tO C ml))(u:PO X g (tO C y)):
  PE X (.Subscript a (.Slice lo g b5 p2) pos) (E4 C (ma >>= λx=>ml >>= λl=>y >>= λh=>ay [x] >>= λ_=>M.Ff (pE x l h))):=by
 show PE.weak (uf (Jc.or xA AK) o hl u) ?_;rintro σ H Q ⟨c0,rfl,rfl,z,h⟩;show aF z h λx c v t w=>?_;rw[ae]at w;show⟨c,t.hσ,rfl,t.ok,w.mono λl st2 i A B D G I=>?_⟩;subst D;rw[ae]at i;show⟨A,B,rfl,G,i.mono λT Y f J j L N O=>?_⟩;subst L;rw[ae,bS]at f;have⟨r,e,q⟩:=bX.mp f.2;have k:Nx c J:=I.trans O;show Bd n j N (t.nx.trans k) ((t.rx.w.on t.ok k (j.trans t.hσ.symm)).t f.1) e q
end
section
variable{X:Cx}{C:Ct}{pins:List (fS×Obj)}{s:hH}{c0 c c1:Cf}
variable{a b d e:l'}{es:List l'}{m ma mb md:M (Kd×U)}{ms:M (List (Kd×U))}{ta tb:M Bool}{pos p p2:Pos}
abbrev Bf.val:Bf->ei
 |.len=>.builtin "len"|.sorted=>.builtin "sorted"|.repr=>.builtin "repr"|.max=>.builtin "max"|.min=>.builtin "min"|.all=>.builtin "all"|.any=>.builtin "any"
 |.list=>.type "list"|.tuple=>.type "tuple"|.str=>.type "str"|.int=>.type "int"
 |.FV=>.builtin "sorted"
abbrev Bf.name:Bf->Str
 |.len=>"len"|.sorted=>"sorted"|.repr=>"repr"|.max=>"max"|.min=>"min"|.all=>"all"|.any=>"any"
 |.list=>"list"|.tuple=>"tuple"|.str=>"str"|.int=>"int"
 |.FV=>"sorted"
theorem qW{S:fS->Prop}:∀{xs:List U}{ks:List (List Str)}{vs:List V},gX xs=a5 ks->ah C S H xs vs->∃as:List fS,vs=as.map V.ref/\as.length=ks.length/\∀(j:Nat) a k,as[j]?=a5 a->ks[j]?=a5 k->Fj C.K H a (k.map V.str)
 |[],ks,vs,e,h=>by
  cases e;show⟨[],h,rfl,λj a k z=>by cases z⟩
 |u::xs,ks,vs,e,h=>by
  have⟨v,r,rfl,l,n⟩:=h;cases u with
  |lst ys =>
   have⟨A,o,e⟩:=nc.mp e;have⟨B,q,rfl⟩:=fx.mp e;have⟨as,rfl,t,w⟩:=qW q n;have x:=bG o;subst x;have⟨a,ws,rfl,y,f⟩:=l;rw[ah.strs]at f;subst f;show⟨a::as,rfl,by simp[t],λj b k g i=>?_⟩;cases j with
   |zero=>cases g;cases i;show y.sq
   |succ j=>show w j b k g i
  |_=>cases e
def call_of(g:f_ X f r)(I:Inv X pins c.σ c.H s)(rv:Vals vs us)(h:r vs c.H Q):hA (hW X.prog X.w) X.A (KS f us) (EP X pins c.σ Q) X.xe s:=g pins s c.σ c.H vs us Q I rv h
def bA(h:gy f rs=a5 r):∃x,rs=[x]/\f x=a5 r:=by
 unfold gy at h;split at h
 .show⟨_,rfl,h⟩
 .cases h
def zA(T:X.calm=bD)(D:C.K=X.K)(MD:X.A.guards=a5 [])(JS:X.A.units+60<Hg)(t:Hc C c0 c rs vs)(I:Inv X pins c.σ c.H s)(rv:Vals vs us)(h:GZ f rs=a5 r)(q:bR C c0 Q r c.st):
  hA (hW X.prog X.w) X.A (KS f.val us) (EP X pins c.σ Q) X.xe s:=by
 have z:=t.hσ;have g:=t.ok;have n:=t.nx;cases f with
 |len =>
  have⟨x,rfl,hz⟩:=bA (f:=λx=>(AV x.2).map λ(n:Nat)=>(Kd.loc,U.int (n:Int))) h;clear h;have h:=hz;clear hz;rw[fx]at h;have⟨k,e,rfl⟩:=h;have⟨v,rfl,y⟩:=t.one;have⟨kx,L⟩:=x;unfold AV at e;split at e
  .rename_i xs G;have G:L=.lst xs:=G;subst G;cases e;have⟨o,ws,ex,i,l⟩:=y.list g;rw[l.len]at q;show call_of gb I rv ⟨o,ws,by rw[ex],.inl (D▸i),q.flat z g n rfl⟩
  .rename_i xs G;have G:L=.tup xs:=G;subst G;cases e;have⟨o,ws,ex,i,l⟩:=y.tuple g;rw[D]at i;rw[l.len]at q;show call_of gb I rv ⟨o,ws,by rw[ex],.inr i,q.flat z g n rfl⟩
  .rename_i xs G;have G:L=.str xs:=G;subst G;split at e
   .cases e;show call_of l_ I rv ⟨_,by rw[y.str g],by assumption,q.flat z g n rfl⟩
   .cases e
  .cases e
 |sorted =>
  have⟨x,rfl,hz⟩:=bA (f:=AW) h;clear h;have h:=hz;clear hz;have⟨v,rfl,y⟩:=t.one;unfold AW at h;split at h
  .rw[nc]at h;have⟨N,e,h⟩:=h;have J:=bG e;subst J;have⟨o,ws,ex,i,l⟩:=y.list g;rw[ah.strs]at l;subst l;split at h
   .cases h;show call_of iz I rv ⟨o,N,by rw[ex],.inl (D▸i),by assumption,λp B=>q.list z g n (ah.strs.mpr rfl) p B⟩
   .cases h
  .obtain⟨o,kvs,ex,i,l,_⟩:=y.dict g;split at h
   .cases h;show call_of (gU T) I rv ⟨o,kvs,_,by rw[ex],i,l,by assumption,λp B=>q.list z g n (ah.strs.mpr rfl) p B⟩
   .cases h
  .rw[nc]at h;have⟨N,e,h⟩:=h;have J:=bG e;subst J;have⟨o,ws,ex,i,l⟩:=y.tuple g;rw[D]at i;rw[ah.strs]at l;subst l;split at h
   .cases h;show call_of iz I rv ⟨o,N,by rw[ex],.inr i,by assumption,λp B=>q.list z g n (ah.strs.mpr rfl) p B⟩
   .cases h
  .cases h
 |list =>
  have⟨x,rfl,hz⟩:=bA (f:=AX) h;clear h;have h:=hz;clear hz;have⟨v,rfl,y⟩:=t.one;unfold AX at h;split at h
  .have⟨o,ws,ex,i,l⟩:=y.list g;split at h
   .cases h;show call_of gc I rv ⟨o,ws,by rw[ex],.inl (D▸i),λp B=>q.list z g n (cu (by assumption) l) p B⟩
   .cases h
  .have⟨o,ws,ex,i,l⟩:=y.tuple g;rw[D]at i;split at h
   .cases h;show call_of gc I rv ⟨o,ws,by rw[ex],.inr i,λp B=>q.list z g n (cu (by assumption) l) p B⟩
   .cases h
  .cases h
 |FV =>
  have⟨x,rfl,hz⟩:=bA (f:=Oa) h;clear h;have h:=hz;clear hz;have⟨v,rfl,y⟩:=t.one;unfold Oa at h;split at h
  .have⟨o,ws,ex,i,l⟩:=y.list g;have⟨ks,e,h⟩:=nc.mp h;split at h
   .rename_i O;cases h;have⟨as,rfl,Y,h4⟩:=qW e l;subst ex;have⟨u,rfl,rr⟩:=vals1 rv;cases rr;show pB JS I (D▸i) Y (λj a k z1 z2=>D▸h4 j a k z1 z2) O.2.1 (by rw[Y];show O.2.2) λp B=>q.list z g n (cu O.1 l) p B
   .cases h
  .cases h
 |tuple =>
  have⟨x,rfl,hz⟩:=bA (f:=AY) h;clear h;have h:=hz;clear hz;have⟨v,rfl,y⟩:=t.one;unfold AY at h;split at h
  .have⟨o,ws,ex,i,l⟩:=y.list g;cases h;show call_of fu I rv ⟨o,ws,by rw[ex],.inl ⟨D▸i,λp B=>q.tupK z g n l p B⟩⟩
  .have⟨o,ws,ex,i,l⟩:=y.tuple g;have Gw:=i;rw[D]at Gw;cases h;show call_of fu I rv ⟨o,ws,by rw[ex],.inr ⟨Gw,q c (.ref o) z rfl g n (aC.item ⟨o,ws,rfl,i,l⟩)⟩⟩
  .cases h
 |str =>
  have⟨x,rfl,hz⟩:=bA (f:=xW) h;clear h;have h:=hz;clear hz;have⟨v,rfl,y⟩:=t.one;unfold xW at h;split at h
  .split at h
   .cases h;show call_of lV I rv ⟨_,by rw[y.int g],by assumption,q.flat z g n rfl⟩
   .cases h
  .cases h
 |all =>
  have⟨x,rfl,hz⟩:=bA (f:=AZ) h;clear h;have h:=hz;clear hz;have⟨v,rfl,y⟩:=t.one;unfold AZ at h;split at h
  .rw[fx]at h;have⟨bs,e,rfl⟩:=h;have J:=jz e;subst J;have⟨o,ws,ex,i,l⟩:=y.list g;have:=l.PM;subst this;show call_of (uE T) I rv ⟨o,bs,by rw[ex],D▸i,q.flat z g n rfl⟩
  .cases h
 |_=>cases h
def yl{id:String}(g:X.calm=bD)(i:C.K=X.K)(j:X.A.guards=a5 [])(k:X.A.units+60<Hg)(l:f.val=.builtin id)(n:Gl X x)(o:X.mg x=b5)(u:E6 x=a5 (.builtin id))(v:x≠"__name__")(y:(x==("__debug__":Str))=c2)
  (B:PA X (e::es) (F' C ms)) (D:i7 (e::es) X.env=(c2,D3 e X.env)::i7 es X.env) (G:(E1 pos (i7 es X.env)).any (·.1)=c2) :
  PE X (.Call (.Name x p) (e::es) [] pos) (E4 C (ms >>= λrs=>ay rs >>= λ_=>M.Ff (GZ f rs))):=by
 rintro pins s σ H Q I ⟨c0,rfl,rfl,J,h⟩;show vu (eE I n o u ?_ v y);show NB (E2 (args B I J h pos) λus s1 ⟨rs,c,vs,t,L,rv,w⟩=>?_) D G;have⟨r,e,q⟩:=bX.mp w;have z:=zA g i j k t L rv e q;rw[l,t.hσ]at z;show z
def ym(g:X.calm=bD)(i:C.K=X.K)(j:X.A.guards=a5 [])(k:X.A.units+60<Hg)(l:f.val=.type T)(n:Gl X x)(o:X.mg x=b5)(u:E6 x=a5 (.type T))(v:x≠"__name__")(y:(x==("__debug__":Str))=c2)
  (B:PA X (e::es) (F' C ms)) (D:i7 (e::es) X.env=(c2,D3 e X.env)::i7 es X.env) (G:(E1 pos (i7 es X.env)).any (·.1)=c2) :
  PE X (.Call (.Name x p) (e::es) [] pos) (E4 C (ms >>= λrs=>ay rs >>= λ_=>M.Ff (GZ f rs))):=by
 rintro pins s σ H Q I ⟨c0,rfl,rfl,J,h⟩;show vu (eE I n o u ?_ v y);show Lg (E2 (args B I J h pos) λus s1 ⟨rs,c,vs,t,L,rv,w⟩=>?_) D G;have⟨r,e,q⟩:=bX.mp w;have z:=zA g i j k t L rv e q;rw[l,t.hσ]at z;show z
abbrev GW.name:GW->Str
 |.str=>"str"|.list=>"list"|.tuple=>"tuple"|.int=>"int"|.bool=>"bool"
abbrev GW.nm:GW->String
 |.str=>"str"|.list=>"list"|.tuple=>"tuple"|.int=>"int"|.bool=>"bool"
def yn(T:GW):E6 T.name=a5 (.type T.nm)/\T.name≠"__name__"/\(T.name==("__debug__":Str))=c2:=by
 cases T<;>show⟨by decide +kernel,by decide +kernel,by decide +kernel⟩
def gC(T:GW):Vo (.type T.nm)=pure (.type "type"):=by cases T<;>kernel_rfl
def qX(T:GW):Le (.type "str") (.type T.nm)=pure (dV (T=.str)):=by cases T<;>(rw[x6];kernel_rfl)
def sub_int(T:GW):Le (.type "int") (.type T.nm)=pure (dV (T=.int)):=by cases T<;>(rw[x6];kernel_rfl)
def ne_str{T:GW}(h:¬T=.str):(td "str"==td T.nm)=c2:=by cases T<;>first|show absurd rfl h|decide
def ne_int{T:GW}(h:¬T=.int):(td "int"==td T.nm)=c2:=by cases T<;>first|show absurd rfl h|decide
def nW(T:GW):Le (.type "list") (.type T.nm)=pure (dV (T=.list)):=by cases T<;>(rw[x6];kernel_rfl)
def qY(T:GW):Le (.type "tuple") (.type T.nm)=pure (dV (T=.tuple)):=by cases T<;>(rw[x6];kernel_rfl)
def yo{T:GW}(h:¬T=.list):(td "list"==td T.nm)=c2:=by cases T<;>first|show absurd rfl h|decide
def Be{T:GW}(h:¬T=.tuple):(td "tuple"==td T.nm)=c2:=by cases T<;>first|show absurd rfl h|decide
def Bg{b:Bool}(B:C.K=X.K)(t:JR C c0 c x v)(I:Inv X pins c.σ c.H s)(rv:RelV v i)(h:mI x.2 T=a5 b)(q:∀l,Q (.bool b) {s with toks:=l}):
  hA (hW X.prog X.w) X.A (KS (.builtin "isinstance") [i,.type T.nm]) Q X.xe s:=by
 have⟨k,u⟩:=x;have⟨hσ,j,n,r⟩:=t;have G:Q (.bool b) s:=q s.toks
 dsimp only at h r
 have g:∀{D:String},b=bD->s.TypeIs i D->Le (.type D) (.type T.nm)=pure bD->hA (hW X.prog X.w) X.A (KS (.builtin "isinstance") [i,.type T.nm]) Q X.xe s:=λe J hs=>by
  subst e;show V4 J (gC T) hs G
 unfold mI at h;split at h
 .cases h;have e:v=_:=r.str j;subst e;have⟨l,rfl⟩:=rv;by_cases f:T=.str
  .subst f;show g (by simp) (Se s _ l) (qX .str)
  .rw[Wr f]at q;show Oi (isinstance_false_str (ne_str f) (gC T) (by rw[qX,Wr f])) (q _)
 .cases h;have e:v=_:=r.int j;subst e;have⟨l,rfl⟩:=rv;by_cases f:T=.int
  .subst f;show g (by simp) (typeIs_int s _ l) (sub_int .int)
  .rw[Wr f]at q;show Oi (isinstance_false_int (ne_int f) (gC T) (by rw[sub_int,Wr f])) (q _)
 .cases h;have e:v=_:=r.bl j;subst e;cases rv;show g rfl (PySem.typeIs_bool s _) (by rw[x6];kernel_rfl)
 .cases h;have e:v=_:=r.bl j;subst e;cases rv;show g rfl (PySem.typeIs_bool s _) (by rw[x6];kernel_rfl)
 .cases h;have⟨L,ws,rfl,y,N⟩:=r.list j;cases rv;rw[B]at y;obtain⟨O,_,Y,_⟩:=I.list y;obtain⟨o,ho,z,_⟩:=Y.isList;by_cases f:T=.list
  .subst f;show g (by simp) ⟨o,ho,z⟩ (nW .list)
  .rw[Wr f]at q;show Oi (isinstance_false_list (yo f) (gC T) (by rw[nW,Wr f])) ⟨⟨o,ho,z⟩,q _⟩
 .cases h;have⟨L,ws,rfl,y,N⟩:=r.tuple j;cases rv;rw[B]at y;obtain⟨O,_,⟨o,ho,z,_⟩,_⟩:=I.tuple y;by_cases f:T=.tuple
  .subst f;show g (by simp) ⟨o,ho,z⟩ (qY .tuple)
  .rw[Wr f]at q;show Oi (isinstance_false_tuple (Be f) (gC T) (by rw[qY,Wr f])) ⟨⟨o,ho,z⟩,q _⟩
 .cases h
def qZ(g:C.K=X.K)(i:Gl X "isinstance")(j:X.mg "isinstance"=b5)(k:Gl X T.name)(l:X.mg T.name=b5)(n:PE X a (E4 C ma))(hs:i7 [a,.Name T.name p2] X.env=(c2,D3 a X.env)::i7 [.Name T.name p2] X.env):
  PE X (.Call (.Name "isinstance" p) [a,.Name T.name p2] [] pos) (E4 C (ma >>= λx=>M.Ff (mI x.2 T) >>= λb=>pure (.loc,.bl b))):=by
 rintro pins s σ H Q I ⟨c0,rfl,rfl,o,h⟩;have⟨q,r,u⟩:=yn T;show vu (eE I i j (show E6 "isinstance"=a5 (.builtin "isinstance") by decide +kernel) ?_ (by decide +kernel) (by decide +kernel));show NB (E2 (dR n (dR (xi (v:=.ty T.nm) k l q rfl r u) gQ) hs pos pins s c0.σ c0.H (λvs H'=>∃x c v b,JR C c0 c x v/\c.H=H'/\vs=[v,.ty T.nm]/\mI x.2 T=a5 b/\bR C c0 Q (.loc,.bl b) c.st) I ?_) λus s1 ⟨vs,N,f,y,x,c,v,b,t,e,A,B,w⟩=>?_) hs (by rfl)
 .show aF o h λx c v t w=>?_;rw[ae]at w;have⟨b,e,w⟩:=bX.mp w;rw[ak]at w;show⟨x,c,v,b,t,rfl,rfl,e,w⟩
 .subst e A;have⟨O,Y,rfl,D,G⟩:=vals2 y;cases G;have J:Inv X pins c.σ c.H s1:=by rw[t.hσ];show f
  have z:=Bg (Q:=EP X pins c0.σ Q) g t J D B λL=>⟨.bl b,c.H,f.tok L,rfl,w c (.bl b) t.hσ rfl t.ok t.nx rfl⟩
  show z
@[reducible]def Hy(P:vr)(w:x8)(K:PySem.W.Frag)(H:Hp)(f:fS->Prop):Ct:=⟨P,w,K,H,f,λ_=>False⟩
structure Back(C:Ct)(H H':Hp)(S':fS->Prop)(k:Kd)(u:U)(v:V):Prop where
 same:fH H H'
 new:∀a,S' a->H a=b5/\∃o,H' a=a5 o
 own:k=.own->∃r,v=.ref r/\H r=b5/\¬S' r/\cn C S' H' r u
 loc:k=.loc->Rep C S' H' u v
 any:k=.any->Rep C (PS C S') H' u v
abbrev spT(P:vr)(w:x8)(K:PySem.W.Frag)(F:List U->Option (Ex (Kd×U)))(g:Nat):Sp:=λvs H Q _=>vs.length=g/\∃us k u f,F us=a5 (.ok (k,u))/\(k=.own\/k=.loc\/k=.any)/\(∀a,f a->Gv H a) /\
 ah (Hy P w K H f) f H us vs/\∀v H' S',Back (Hy P w K H f) H H' S' k u v->Q v H'
def Hc.read(t:Hc C c0 c rs vs):ah C (Gv c.H) c.H (rs.map (·.2)) vs:=by
 have f:∀(l:List (Kd×U)) (w:List V),bY C c0 c l w->aX l c.st->ah C (Gv c.H) c.H (l.map (·.2)) w:=by
  intro l;induction l with
  |nil=>intro w h _;show h
  |cons r l g =>
   intro w h hs;obtain⟨v,t',rfl,i,j,_⟩:=h;rw[eZ]at hs;show⟨v,t',rfl,(i.t hs.1).read t.ok,g t' j hs.2⟩
 show f rs vs t.rep t.Lo
def Back.here(hk:k=.own\/k=.loc)(i:c.σ=c0.σ)(f:Ok C c)(n:Nx c0 c)(q:j.Eqv C)(h:Back j c.H H' S' k u v)(w:bR C c0 Q (k,u) c.st):Q v H':=by
 have⟨l,t⟩:=f.grow (S':=λa=>c.S a\/S' a) h.same (λa z=>z.imp id λz=>h.new a z) λa=>.inl;have x:=n.trans t;show w {c with H:=H',S:=λa=>c.S a\/S' a} v i rfl l x ?_;rcases hk with rfl|rfl
 .have⟨r,e,g,y,A⟩:=h.own rfl;have⟨G,B,I,J,D⟩:=f.iM g;show⟨r,e,n.none g,λz=>z.elim B y,D,(A.cg q).mv (.up λa=>.inr) λo q=>q⟩
 .show((h.loc rfl).cg q).mv (.up λa=>.inr)
def vj(o:C.P=X.prog)(x:C.w=X.w)(y:C.K=X.K)(L:Γ f=F)(hk:∀us k u,F us=a5 (.ok (k,u))->(k=.own\/k=.loc\/k=.any)/\us.length=B)
  (G:iH X.prog X.w X.K X.mg X.base Hq k fa fd N (spT X.prog X.w X.K F B)) (O:eG k X.A) (T:Gl X f) (Y:X.mg f=a5 (.ref fa)) (Ls:PySem.W.keepIn X.K (.ref fa)=bD) (j:Binds X.K fd N [])
  (IS:(f==("__debug__":Str))=c2) (ha:PA X (e::es) (F' C ms)) (he:i7 (e::es) X.env=(c2,D3 e X.env)::i7 es X.env) (Gq:(E1 pos (i7 es X.env)).any (·.1)=c2) :
  PE X (.Call (.Name f p) (e::es) [] pos) (E4 C (ms >>= λrs=>ay rs >>= λ_=>jw Γ f (rs.map (·.2)))):=by
 rintro pins s σ H Q I ⟨c0,rfl,rfl,ok,h⟩;show vu (lP I T Y ?_ IS);show PySem.W.callWith_K (h₀:=X.base) I.ok.mod.KD Ls (E2 (args ha I ok h pos) λus s1 ⟨rs,c,vs,t,D,rv,w⟩=>⟨D.IX,?_⟩) he Gq;have⟨r,st',g,q⟩:=w;unfold jw at g;rw[L]at g;cases i:F (rs.map (·.2)) with
 |none=>rw[i]at g;cases g
 |some r' =>
  rw[i]at g;split at g
  .cases g
  .rename_i z;cases z
  rename_i Si e3;cases e3;cases g;have⟨l,u⟩:=r;have⟨k0,k2⟩:=hk _ _ _ i;have k1:l=.own\/l=.loc:=by
   rcases k0 with z|z|z
   .show .inl z
   .show .inr z
   .subst z;show(Si u rfl).elim
  have n:C.Eqv (Hy X.prog X.w X.K c.H (Gv c.H)):=⟨o,x,y⟩
  have He:(Hy X.prog X.w X.K c.H (Gv c.H)).Eqv C:=⟨o.symm,x.symm,y.symm⟩
  have J:=t.read;have GK:spT X.prog X.w X.K F B vs c.H (λv H'=>Q v H') E0:=⟨by rw[<-J.len];show k2,rs.map (·.2),l,u,Gv c.H,i,k0,λ_ z=>z,J.cg n,λv H' S' j=>j.here k1 t.hσ t.ok t.nx He q⟩
  have z:=oW (Q:=Q) G O j .nil um D rv (by rw[x2];show GK);rw[t.hσ]at z;show z
end
section
abbrev Mf.id:Mf->String
 |.split=>"str.split"|.join=>"str.join"|.partition=>"str.partition"|.endswith=>"str.endswith"
abbrev Mf.name:Mf->Str
 |.split=>"split"|.join=>"join"|.partition=>"partition"|.endswith=>"endswith"
def vk(h:kB f u rs=a5 r):∃x,u=.str x:=by
 unfold kB at h;split at h
 .show⟨_,rfl⟩
 .cases h
def Bh(k:C.K=X.K)(t:Hc C c0 c (x::rs) (b::vs))(I:Inv X a c.σ c.H s)(l:RelV b v)(rv:Vals vs us)(h:kB f x.2 rs=a5 r)(q:bR C c0 Q r c.st):
  hA (hW X.prog X.w) X.A (KS (.builtin f.id) (v::us)) (EP X a c.σ Q) X.xe s:=by
 have m:=t.hσ;have d:=t.ok;have n:=t.nx;have⟨o,p⟩:=x;have hs:=eZ.mp t.Lo;obtain⟨L,N,u,g,i,-⟩:=t.rep;cases u;have y:aC C c0 c o p b:=g.t hs.1;have one:∀{r:Kd×U},bY C c0 c [r] vs->aX [r] c.st->∃v,vs=[v]/\aC C c0 c r.1 r.2 v:=λ{r} h s=>by
  obtain⟨v,t',rfl,g,i,_⟩:=h;cases i;show⟨v,rfl,g.t s⟩
 dsimp only at h
 unfold kB at h;split at h
 .rw[nc]at h;have⟨z,e,h⟩:=h;have B:=bG e;subst B;have⟨w,rfl,D⟩:=one i hs.2;have⟨G,ws,ex,J,j⟩:=D.list d;rw[ah.strs]at j;subst j;split at h
  .cases h;show xI a s c.σ c.H b [w] v us Q I l rv ⟨_,G,z,y.str d,by rw[ex],k▸J,by assumption,q.flat m d n rfl⟩
  .cases h
 .cases h
def yp(J:C.K=X.K)(slot:Slot "str" name f.id)(L:Vo (.builtin f.id)=pure (.type "method_descriptor"))(ho:PE X o (E4 C m))(N:PA X (e::es) (F' C ms))
  (O:Nr o name X.env (D3 o X.env)=D3 o X.env)
  (T:((E1 cpos (i7 (e::es) X.env)).all (λx=>!x.1)&&(M9 cpos (KC [] X.env)).all (λx=>x.1.isSome)
   && dV ((e::es).length+([]:List J5).length+(if ([]:List J5).isEmpty then 0 else 1)<30))=bD)
  (Y:(d.endLine==cpos.line)=bD) (hs:i7 (e::es) X.env=(c2,D3 e X.env)::i7 es X.env) (Gh:(E1 cpos (i7 es X.env)).any (·.1)=c2) :
  PE X (.Call (.Attribute o name d) (e::es) [] cpos) (E4 C (m >>= λx=>ms >>= λrs=>ay (x::rs) >>= λ_=>M.Ff (kB f x.2 rs))):=by
 rintro a s σ H Q I ⟨c0,rfl,rfl,ok,h⟩;show Ur O T Y rfl (E2 (ho a s c0.σ c0.H (λg n=>∃x c1,c1.H=n/\JR C c0 c1 x g/\W (ms >>= λrs=>ay (x::rs) >>= λ_=>M.Ff (kB f x.2 rs)) c1.st (bR C c0 Q)) I (aF ok h λx c v t w=>⟨x,c,rfl,t,w⟩)) ?_);rintro v s1 ⟨g,n,p,u,x,c1,rfl,t,w⟩;have JT:∃z,x.2=.str z:=by
  rw[ae]at w;obtain⟨rs,st2,_,w⟩:=w;rw[ae]at w;obtain⟨_,Fs,_,w⟩:=w;obtain⟨r,e,_⟩:=bX.mp w;show vk e
 have⟨z,hz⟩:=JT;have y:=t.rx;rw[hz]at y;have ev:=y.str t.ok;have ty:Mc X.K "str" g c1.H:=by rw[ev];rfl
 have⟨h1,h2⟩:=mf p u ty;show⟨"str",f.id,PySem.F.plainAttrs_str,slot,L,h1,h2,?_⟩;rw[ae]at w;have A:=N cpos a s1 c0.σ c1.H (λvs B=>∃rs b,b.H=B/\Hc C c0 b (x::rs) (g::vs)/\W (M.Ff (kB f x.2 rs)) b.st (bR C c0 Q)) p ⟨c1,t.hσ,rfl,t.ok,w.mono λrs st2 k b vs D e4 Fe G j=>by
  rw[ae,bS]at k;subst e4;show⟨rs,b,rfl,⟨D,Fe,t.nx.trans G,⟨g,vs,rfl,t.rx.w.on t.ok G (D.trans t.hσ.symm),j.from t.nx,λhk i r' v' e5 e6 Ft=>mJ t.rx.w (j.get e5 e6) hk Ft⟩,k.1⟩,k.2⟩⟩
 rw[hs]at A ⊢;show GH (by change(c2||(E1 cpos (i7 es X.env)).any (·.1))=c2;rw[Gh]<;>rfl) (JV ?_);show E2 A ?_;rintro us s2 ⟨vs,B,I2,j,rs,b,rfl,l,w2⟩;have⟨r,e,q⟩:=bX.mp w2;have z:=Bh J l (by rw[l.hσ];show I2) u j e q;rw[l.hσ]at z;show z
end
section
variable{X:Cx}{C:Ct}{pins:List (fS×Obj)}{s:hH}{c0 c c1:Cf}
variable{e:l'}{es:List l'}{ms:M (List (Kd×U))}{pos p p2 pos2:Pos}
abbrev B2.out:B2->ei
 |.HU=>.type "tuple"|.GV=>.type "list"|.sset=>.builtin "sorted"|.jg=>.builtin "len"
abbrev B2.ME:B2->ei
 |.HU=>.type "reversed"|.GV=>.type "reversed"|.sset=>.type "set"|.jg=>.type "set"
abbrev B2.mL:B2->Str
 |.HU=>"tuple"|.GV=>"list"|.sset=>"sorted"|.jg=>"len"
abbrev B2.gD:B2->Str
 |.HU=>"reversed"|.GV=>"reversed"|.sset=>"set"|.jg=>"set"
theorem ah.rev{S:fS->Prop}:∀{us:List U}{vs:List V},ah C S H us vs->ah C S H us.reverse vs.reverse
 |[],vs,h=>by cases h;show rfl
 |u::us,vs,h=>by
  have⟨v,r,rfl,a,b⟩:=h;rw[MY,MY];show(ah.rev b).append ⟨v,[],rfl,a,rfl⟩
def sT(i:C.K=X.K)(j:Ok C c)(l:aC C c0 c k u v)(h:sG u=a5 m):∃a ys,v=.ref a/\(Fj X.K c.H a (ys.map V.str)\/FH X.K c.H a (ys.map V.str))/\ys.length+1<Iu/\m=aI ys:=by
 unfold sG at h;split at h
 .rw[nc]at h;have⟨ys,e,h⟩:=h;have f:=bG e;subst f;have⟨g,ws,ex,d,b⟩:=l.list j;rw[ah.strs]at b;subst b;split at h
  .cases h;show⟨g,ys,ex,.inl (i▸d),by assumption,rfl⟩
  .cases h
 .rw[nc]at h;have⟨ys,e,h⟩:=h;have f:=bG e;subst f;have⟨g,ws,ex,d,b⟩:=l.tuple j;rw[ah.strs]at b;subst b;rw[i]at d;split at h
  .cases h;show⟨g,ys,ex,.inr d,by assumption,rfl⟩
  .cases h
 .cases h
def Bi(d:X.calm=bD)(m:C.K=X.K)(t:Hc C c0 c rs vs)(I:Inv X pins c.σ c.H s)(rv:Vals vs us)(h:pF f rs=a5 r)(q:bR C c0 Q r c.st):
  hA (hW X.prog X.w) X.A (KS f.ME us) (λv s1=>hA (hW X.prog X.w) X.A (KS f.out [v]) (EP X pins c.σ Q) X.xe s1) X.xe s:=by
 have o:=t.hσ;have a:=t.ok;have n:=t.nx;cases f with
 |GV =>
  have⟨x,rfl,hz⟩:=bA (f:=A0) h;clear h;have h:=hz;clear hz;have⟨v,rfl,g⟩:=t.one;unfold A0 at h;split at h
  .have⟨y,ws,ex,b,i⟩:=g.list a;rw[m]at b;subst ex;have⟨u,rfl,j⟩:=vals1 rv;cases j;split at h
   .cases h;show uN d I b λl hl=>q.list o a n (cu (by assumption) i).rev l hl
   .cases h
  .cases h
 |sset =>
  have⟨x,rfl,hz⟩:=bA (f:=λx=>(sG x.2).bind λk=>if k.length<64 then a5 (Kd.own,U.lst ((aH k).map .str)) else b5) h;clear h;have h:=hz;clear hz;have⟨k,e,h⟩:=nc.mp h;have⟨v,rfl,g⟩:=t.one;have⟨y,ys,rfl,b,i,rfl⟩:=sT m a g e;have⟨u,rfl,j⟩:=vals1 rv;cases j;split at h
  .cases h;show mF d I b i λS h' D z B=>kn d B z (by assumption) λl hl=>q.list o a n (ah.strs.mpr rfl) l hl
  .cases h
 |_=>cases h
def q9:∀f:B2,E6 f.mL=a5 f.out/\E6 f.gD=a5 f.ME/\f.mL≠"__name__"/\f.gD≠"__name__"/\(f.mL==("__debug__":Str))=c2/\(f.gD==("__debug__":Str))=c2:=by
 intro f;cases f<;>show⟨by decide +kernel,by decide +kernel,by decide +kernel,by decide +kernel,by decide +kernel,by decide +kernel⟩
def Bj(f:B2):∃T,f.ME=.type T:=by cases f<;>show⟨_,rfl⟩
def Bk(f:B2):(∃T,f.out=.type T)\/∃T,f.out=.builtin T:=by cases f<;>first|show .inl ⟨_,rfl⟩|show .inr ⟨_,rfl⟩
def yq{M:Model}{E:ei->hH->Prop}(h:hA M A t (λv a=>hA M A (KS (.type T) [v]) Q E a) E s):hA M A (callWith pos (.type T) [] [(c2,t)] []) Q E s :=
 PySem.callWith_type rfl (JV (KJ (r6 h (λ_ _ b=>MW b) λ_ _ e=>e)))
def vm{M:Model}{E:ei->hH->Prop}(h:hA M A t (λv a=>hA M A (KS (.builtin T) [v]) Q E a) E s):hA M A (callWith pos (.builtin T) [] [(c2,t)] []) Q E s :=
 GH rfl (JV (KJ (r6 h (λ_ _ b=>MW b) λ_ _ e=>e)))
def vn(b:X.calm=bD)(d:C.K=X.K)(g:Gl X f.gD)(i:X.mg f.gD=b5)
  (j:PA X (e::es) (F' C ms)) (k:i7 (e::es) X.env=(c2,D3 e X.env)::i7 es X.env) (l:(E1 pos2 (i7 es X.env)).any (·.1)=c2)
  (I:Inv X pins c0.σ c0.H s) (m:Ok C c0) (h:W (ms >>= λrs=>ay rs >>= λ_=>M.Ff (pF f rs)) c0.st (bR C c0 Q)) :
  hA (hW X.prog X.w) X.A (D3 (.Call (.Name f.gD p2) (e::es) [] pos2) X.env) (λv s1=>hA (hW X.prog X.w) X.A (KS f.out [v]) (EP X pins c0.σ Q) X.xe s1) X.xe s:=by
 have⟨D,n,G,o,J,u⟩:=q9 f;show vu (eE I g i n ?_ o u);have a:hA (hW X.prog X.w) X.A (VE (E1 pos2 (i7 (e::es) X.env))) (λus s1=>hA (hW X.prog X.w) X.A (KS f.ME us) (λv s1=>hA (hW X.prog X.w) X.A (KS f.out [v]) (EP X pins c0.σ Q) X.xe s1) X.xe s1) X.xe s :=
  E2 (args j I m h pos2) λus s1 x=>by
   have⟨rs,c,vs,t,y,rv,w⟩:=x;have⟨r,e,q⟩:=bX.mp w;have z:=Bi b d t y rv e q;rw[t.hσ]at z;show z
 have⟨T,B⟩:=Bj f;rw[B]at a ⊢;show Lg a k l
def yr(d:X.calm=bD)(g:C.K=X.K)(i:Gl X f.mL)(j:X.mg f.mL=b5)(k:Gl X f.gD)(l:X.mg f.gD=b5)
  (m:PA X (e::es) (F' C ms)) (n:i7 (e::es) X.env=(c2,D3 e X.env)::i7 es X.env) (o:(E1 pos2 (i7 es X.env)).any (·.1)=c2) :
  PE X (.Call (.Name f.mL p) [.Call (.Name f.gD p2) (e::es) [] pos2] [] pos) (E4 C (ms >>= λrs=>ay rs >>= λ_=>M.Ff (pF f rs))):=by
 rintro pins s σ H Q I ⟨c0,rfl,rfl,q,h⟩;have⟨r,x,t,y,u,z⟩:=q9 f;show vu (eE I i j r ?_ t u);have a:=vn (p2:=p2) (pos2:=pos2) d g k l m n o I q h;have v:E1 pos (i7 [.Call (.Name f.gD p2) (e::es) [] pos2] X.env)=[(c2,D3 (.Call (.Name f.gD p2) (e::es) [] pos2) X.env)]:=rfl;have w:M9 pos (KC [] X.env)=[]:=rfl;rw[v,w];rcases Bk f with⟨T,b⟩|⟨T,b⟩
 .rw[b]at a ⊢;show yq a
 .rw[b]at a ⊢;show vm a
end
section
variable{X:Cx}{C:Ct}{pins:List (fS×Obj)}{s:hH}{c0 c c1:Cf}
variable{a b d e o tg:l'}{es:List l'}{m ma mb md:M (Kd×U)}{ms:M (List (Kd×U))}{ta tb:M Bool}{pos p p2 apos cpos:Pos}
abbrev kY(rs:List (Kd×U))(c f:Cf):Prop:=∀j u,(Kd.bor j,u)∈rs->f.σ[j]?=c.σ[j]?
abbrev Walk(C:Ct)(c:Cf)(rs:List (Kd×U))(xs:List (Kd×U))(J:It):Prop:=∀f,Ok C f->Ns c f->kY rs c f->aX rs f.st ->
 (∀(i:Nat) r,xs[i]?=a5 r->(r.1=.loc\/r.1=.any)/\J.go i f.H/\∀x H',J.L9 i f.H x H'->∃g:Cf,g.H=H'/\g.σ=f.σ/\g.st=f.st/\Ok C g/\Nx f g/\aC C f g r.1 r.2 x) /\
 ∀i:Nat,xs.length<=i->J.stop i f.H
abbrev IT(C:Ct)(f:Ik)(ms:M (List (Kd×U))):TI:=λσ H R=>∃c0:Cf,c0.σ=σ/\c0.H=H/\Ok C c0/\W (ms >>= λrs=>ay rs >>= λ_=>M.Ff (G0 f rs) >>= λxs=>pure (rs,xs)) c0.st λq st' =>
 ∀c J,c.σ=σ->c.st=st'->Ok C c->Nx c0 c->aX q.1 c.st->Walk C c q.1 q.2 J->R J c.H
def aC.walk(g:Ok C c)(n:Ns c f)(i:kY [r] c f)(hs:aX [r] f.st)(h:aC C c0 c r.1 r.2 v):aC C c0 f r.1 r.2 v :=
 (h.w.PL g n λj e=>i j r.2 (by rw[<-e];simp)).t hs
def zB(k:Kd):kE k=.loc\/kE k=.any:=by cases k<;>simp[kE]
def sU(z:C.K=X.K)(A:Ok C c)(h:aC C c0 c k (.lst us) (.ref B)):Walk C c [(k,.lst us)] (us.map λu=>(kE k,u)) (M7 X.K B):=by
 intro l q n D hs;have h':=aC.walk (r:=(k,.lst us)) A n D hs h;have⟨I,vs,e,f,t⟩:=h'.list q;cases e;rw[z]at f;show⟨λi r w=>?_,λi G=>⟨vs,f,by rw[<-t.len];simpa using G⟩⟩;rw[i6,fx]at w;have⟨u,H,rfl⟩:=w;have⟨v,y,g⟩:=t.get H;show⟨zB k,⟨vs,v,f,y⟩,λx H' j=>?_⟩;have⟨e,j⟩:=j;subst e;have:=j vs f;rw[y]at this;cases this;show⟨l,rfl,rfl,rfl,q,Nx.refl l,aC.item g⟩
def pI(z:C.K=X.K)(A:Ok C c)(h:aC C c0 c k (.tup us) (.ref B)):Walk C c [(k,.tup us)] (us.map λu=>(kE k,u)) (M8 X.K B):=by
 intro l q n D hs;have h':=aC.walk (r:=(k,.tup us)) A n D hs h;have⟨I,vs,e,f,t⟩:=h'.tuple q;cases e;rw[z]at f;show⟨λi r w=>?_,λi G=>⟨vs,f,by rw[<-t.len];simpa using G⟩⟩;rw[i6,fx]at w;have⟨u,H,rfl⟩:=w;have⟨v,y,g⟩:=t.get H;show⟨zB k,⟨vs,v,f,y⟩,λx H' j=>?_⟩;have⟨e,j⟩:=j;subst e;have:=j vs f;rw[y]at this;cases this;show⟨l,rfl,rfl,rfl,q,Nx.refl l,aC.item g⟩
def sV{o:Obj}(A:Ok C c)(g:c.H h=a5 (.FO o (.dK kvs)))(j:kvs.map (·.1)=ks.map ko):Walk C c [(k,.Fm ks us)] (ks.map λx=>(.loc,.str x)) (N8 h o kvs):=by
 intro l B n L hs;have D:¬c.R h:=λz=>by
  obtain⟨_,_,_,N,e,G⟩:=A.root z;rw[g]at e;cases e;show G trivial
 have q:=n.keep _ _ g D;have hl:kvs.length=ks.length:=by simpa using Wv D' j
 show⟨λi r t=>?_,λi u=>⟨q,by rw[hl];simpa using u⟩⟩;rw[i6,fx]at t;have⟨x,v,rfl⟩:=t;have u:i<ks.length:=(eH.mp v).1;show⟨.inl rfl,⟨q,⋯⟩,λy H' f=>?_⟩;have⟨e,f⟩:=f;subst e;have w:(kvs.map (·.1))[i]?=a5 (ko x):=by rw[j,i6,v];rfl
 rw[i6,fx]at w;obtain⟨⟨k0,O⟩,I,J⟩:=w;cases J;show⟨l,rfl,rfl,rfl,B,Nx.refl l,f _ _ I⟩
def pJ{lo:Int}:Walk C c rs ((i3 n).map λi:Nat=>(Kd.loc,U.int (lo+(i:Int)))) (Ma lo n):=by
 intro h l nx t hs;show⟨λi r k=>?_,λi f=>by change n<=i;simpa using f⟩;rw[i6,fx]at k;have⟨j,g,rfl⟩:=k;have f:i<n:=by simpa using(eH.mp g).1
 rw[List.getElem?_range f]at g;cases g;show⟨.inl rfl,f,λy H' q=>?_⟩;have⟨e,rfl⟩:=q;subst e;show⟨h,rfl,rfl,rfl,l,Nx.refl h,rfl⟩
def Bl(q:C.K=X.K)(w:PE X a (E4 C ma)):PI X tg a (IT C .seq (ma >>= λr=>pure [] >>= λrs=>pure (r::rs))):=by
 rintro pins s σ H R I ⟨c0,rfl,rfl,x,h⟩;rw[ae,ae]at h;have⟨r,st1,y,h⟩:=h;rw[ae,ak,ak,ae,bS,ae]at h;have⟨z,h⟩:=h;have⟨xs,t,h⟩:=bX.mp h;rw[ak]at h;have⟨k,u⟩:=r;cases u with
 |lst us =>
  cases t;show qx w pins s c0.σ c0.H R I ⟨c0,rfl,rfl,x,_,st1,y,λc v j hs g n f=>?_⟩;have⟨l,vs,rfl,i,A⟩:=f.list g;subst hs;show⟨l,rfl,⟨vs,q▸i⟩,h c _ j rfl g n z (sU q g f)⟩
 |tup us =>
  cases t;show Ao w pins s c0.σ c0.H R I ⟨c0,rfl,rfl,x,_,st1,y,λc v j hs g n f=>?_⟩;have⟨l,vs,rfl,i,A⟩:=f.tuple g;subst hs;have B:=i;rw[q]at B;show⟨l,rfl,⟨vs,B⟩,h c _ j rfl g n z (pI q g f)⟩
 |Fm ks us =>
  cases t;show xN w pins s c0.σ c0.H R I ⟨c0,rfl,rfl,x,_,st1,y,λc v j hs g n f=>?_⟩;have⟨l,o,kvs,rfl,i,A,D⟩:=f.vb g;subst hs;show⟨l,o,kvs,rfl,i,h c _ j rfl g n z (sV g i A)⟩
 |_=>cases t
def Bm{k:List (Kd×U)->M β}{Post:β->av->Prop}(g:Ok C c0)(h:W (ms >>= λrs=>ay rs >>= λ_=>k rs) c0.st Post)
  (hz:∀rs c vs,Hc C c0 c rs vs->W (k rs) c.st Post->Z vs c.H):F' C ms c0.σ c0.H Z:=by
 rw[ae]at h;show⟨c0,rfl,rfl,g,h.mono λrs st1 f c1 vs i j l n q=>?_⟩;rw[ae,bS]at f;subst j;show hz rs c1 vs ⟨i,l,n,q,f.1⟩ f.2
def yt(i:Gl X "range")(j:X.mg "range"=b5)(hs:i7 [a] X.env=[(c2,D3 a X.env)])(k:PA X [a] (F' C ms)):PI X tg (.Call (.Name "range" p) [a] [] pos) (IT C .FK ms):=by
 rintro pins s σ H R I ⟨c0,rfl,rfl,l,h⟩;show si i j k hs pins s c0.σ c0.H R I (Bm l h λrs c vs t w=>?_);rw[ae]at w;have⟨xs,g,w⟩:=bX.mp w;rw[ak]at w;have⟨x,rfl,hz⟩:=bA (f:=sH) g;clear g;have g:=hz;clear hz;have⟨v,rfl,n⟩:=t.one;unfold sH at g;split at g
 .split at g
  .rename_i q;cases g;show⟨_,by rw[n.int t.ok],⋯,⋯,w c _ t.hσ rfl t.ok t.nx t.Lo pJ⟩
  .cases g
 .cases g
def Ok.put(t:Ok C c)(n:Nx c0 c)(Y:i<c.σ.length)(hk:k=.own\/k=.loc\/k=.any)(Ga:Ok C c0)(h:aC C c0 c k u v):
  Ok C {c with σ:=c.σ.set i (a5 v),st:=c.st.set i (a5 (k,u))}/\Nx c0 {c with σ:=c.σ.set i (a5 v),st:=c.st.set i (a5 (k,u))}:=by
 have GG:i<c.st.length:=by rw[t.len];show Y
 have E_:∀(j:Nat) k' u',(c.st.set i (a5 (k,u)))[j]?=a5 (a5 (k',u'))->j≠i->c.st[j]?=a5 (a5 (k',u')):=λj k' u' e ne=>by rw[hE (qs ne)]at e;show e
 have G1:∀(j:Nat) G,(c.σ.set i (a5 v))[j]?=a5 (a5 G)->j≠i->c.σ[j]?=a5 (a5 G):=λj G e ne=>by rw[hE (qs ne)]at e;show e
 have sl:eM C c.S c.H k u v:=by
  rcases hk with rfl|rfl|rfl
  .have⟨r,e,I,N,y,O⟩:=h;have⟨z0,z1,Q,z3,z4⟩:=Ga.iM I;show⟨r,e,N,Q,z0,O⟩
  .show h
  .show h
 have JU:∀(j:Nat) k' u' r,k'.root=bD->(c.st.set i (a5 (k,u)))[j]?=a5 (a5 (k',u'))->(c.σ.set i (a5 v))[j]?=a5 (a5 (.ref r))->j=i/\k=.own/\v=.ref r\/j≠i/\c.st[j]?=a5 (a5 (k',u'))/\c.σ[j]?=a5 (a5 (.ref r)):=λj k' u' r J g l=>by
  by_cases f:j=i
  .subst f;rw[ez GG]at g;rw[ez Y]at l;cases g;cases l;rcases hk with rfl|rfl|rfl
   .show .inl ⟨rfl,rfl,rfl⟩
   .cases J
   .cases J
  .show .inr ⟨f,E_ j k' u' g f,G1 j _ l f⟩
 have dD:∀(j:Nat) (u':U),(c.st.set i (a5 (k,u)))[j]?=a5 (a5 (.B',u'))->c.st[j]?=a5 (a5 (.B',u'))/\(c.σ.set i (a5 v))[j]?=c.σ[j]?:=λj u' e=>by
  by_cases f:j=i
  .subst f;rw[ez GG]at e;cases e;rcases hk with hk|hk|hk<;>cases hk
  .show⟨E_ j .B' u' e f,hE (qs f)⟩
 have A:∀a,({c with σ:=c.σ.set i (a5 v),st:=c.st.set i (a5 (k,u))}:Cf).R1 a->c.R1 a\/k=.own/\v=.ref a:=λa Fi=>by
  have⟨j,k',u',J,g,l⟩:=Fi;rcases JU j k' u' a J g l with⟨T,w,x⟩|⟨T,w,x⟩
  .show .inr ⟨w,x⟩
  .show .inl ⟨j,k',u',J,w,x⟩
 have IM:HD C {c with σ:=c.σ.set i (a5 v),st:=c.st.set i (a5 (k,u))}:=t.dd.of rfl dD (λa z=>(A a z).imp id λ⟨q1,q2⟩ j z'=>by
  subst q1;obtain⟨L,e,_,_,y,_⟩:=h;rw[q2]at e;cases e;show y (.inr ⟨j,z'⟩)) (.up λ_ z=>z) λj a z=>⟨(t.root (.inr ⟨j,z⟩)).1,λo q=>q⟩
 show⟨⟨t.same,t.Gi,t.par,t.io,by simp[t.len],λj k' u' e=>?_,λj1 j2 k1 k2 u1 u2 r HG Lp g l e3 e4=>?_,IM⟩,⟨⟨n.keep,n.there,λa z=>?_,n.sub,n.new⟩⟩⟩
 .by_cases f:j=i
  .subst f;rw[ez GG]at e;cases e;show⟨v,by rw[ez Y],sl⟩
  .have⟨G,g,l⟩:=t.sl j k' u' (E_ j k' u' e f);show⟨G,by rw[hE (qs f)];show g,l⟩
 .have z1:=JU j1 k1 u1 r HG g e3;have Q:=JU j2 k2 u2 r Lp l e4;rcases z1 with⟨T,w,x⟩|⟨T,w,x⟩
  .rcases Q with⟨A,B,D⟩|⟨A,B,D⟩
   .show T.trans A.symm
   .subst w;have⟨L,e,I,N,y,O⟩:=h;rw[x]at e;cases e;show(y (.inl ⟨j2,k2,u2,Lp,B,D⟩)).elim
  .rcases Q with⟨A,B,D⟩|⟨A,B,D⟩
   .subst B;have⟨L,e,I,N,y,O⟩:=h;rw[D]at e;cases e;show(y (.inl ⟨j1,k1,u1,HG,w,x⟩)).elim
   .show t.inj j1 j2 k1 k2 u1 u2 r HG Lp w B x D
 .rcases z with z|⟨j,u',L,g,l,e3⟩
  .rcases A a z with z|⟨w,x⟩
   .show n.roots a (.inl z)
   .subst w;have⟨L,e,I,N,y,O⟩:=h;rw[x]at e;cases e;show .inr I
  .have⟨q1,q2⟩:=dD j u' g;show n.roots a (.inr ⟨j,u',L,q1,q2▸l,e3⟩)
def mM(z:Ok C c0)(q:Ok C c)(n:Nx c0 c)(A:i<c.σ.length)(t:aC C c0 c r.1 r.2 v)(h:W (eB i r) c.st Post):
  ∃y,y.σ=c.σ.set i (a5 v)/\y.H=c.H/\Ok C y/\Nx c0 y/\Post () y.st:=by
 have⟨k,u⟩:=r;cases k with
 |own =>
  have⟨x,st',e,f⟩:=h;cases e;have⟨g,l⟩:=q.put n A (.inl rfl) z t;show⟨{c with σ:=c.σ.set i (a5 v),st:=c.st.set i (a5 (.own,u))},rfl,rfl,g,l,f⟩
 |loc =>
  have⟨x,st',e,f⟩:=h;cases e;have⟨g,l⟩:=q.put n A (.inr (.inl rfl)) z t;show⟨{c with σ:=c.σ.set i (a5 v),st:=c.st.set i (a5 (.loc,u))},rfl,rfl,g,l,f⟩
 |any =>
  have⟨x,st',e,f⟩:=h;cases e;have⟨g,l⟩:=q.put n A (.inr (.inr rfl)) z t;show⟨{c with σ:=c.σ.set i (a5 v),st:=c.st.set i (a5 (.any,u))},rfl,rfl,g,l,f⟩
 |bor j =>
  have⟨x,st',e,f⟩:=h;rw[show eB i (.bor j,u) c.st=match c.st[j]? with|some (a5 (.own,u))=>a5 (Ex.ok (),(c.st.set j (a5 (.loc,u))).set i (a5 (.loc,u)))|_=>b5 from rfl]at e;split at e
  .rename_i w D;cases e;obtain⟨O,G,r,J,_⟩:=q.sl j _ _ D;have I:c.σ[j]?=a5 (a5 v):=t.2;rw[I]at G;cases G;subst J;have⟨L,N,B⟩:=q.vh n D I;have⟨g,l⟩:=Ok.put (c:={c with S:=λa=>c.S a\/a=r,st:=c.st.set j (a5 (.loc,w))}) L N (k:=.loc) (u:=w) (v:=.ref r) A (.inr (.inl rfl)) z B;show⟨{S:=λa=>c.S a\/a=r,H:=c.H,σ:=c.σ.set i (a5 (.ref r)),st:=(c.st.set j (a5 (.loc,w))).set i (a5 (.loc,w)),kid:=c.kid},rfl,rfl,g,l,f⟩
  .cases e
 |_=>show t.elim
end
section
variable{X:Cx}{C:Ct}{pins:List (fS×Obj)}{s:hH}{c0 c c1:Cf}{ns:Nat->Bool}{a:l'}{ma:M (Kd×U)}
def Ok.C3(b:Ok C c)(m:c.st[i]?=a5 (a5 (.own,u)))(p:c.σ[i]?=a5 (a5 (.ref r))):Ok C {c with H:=upd c.H r o',st:=c.st.set i b5}/\Ns c {c with H:=upd c.H r o',st:=c.st.set i b5}/\¬({c with H:=upd c.H r o',st:=c.st.set i b5}:Cf).R r:=by
 have FL:i<c.st.length:=(eH.mp m).1;have A:c.R1 r:=⟨i,.own,u,rfl,m,p⟩
 have⟨t,z2,z3,o,z4,z5⟩:=b.root (.inl A);have N:C.H₀ r=b5:=by
  obtain⟨v,f,h,x,_,_,q,_⟩:=b.sl i _ _ m;rw[p]at f;cases f;cases x;show q
 have l:∀(j:Nat) k w,(c.st.set i b5)[j]?=a5 (a5 (k,w))->j≠i/\c.st[j]?=a5 (a5 (k,w)):=λj k w e=>by
  by_cases B:j=i
  .subst B;rw[ez FL]at e;cases e
  .rw[hE (qs B)]at e;show⟨B,e⟩
 have D:∀a,({c with H:=upd c.H r o',st:=c.st.set i b5}:Cf).R1 a->c.R1 a/\a≠r:=λa Fi=>by
  have⟨j,k,w,hk,f,g⟩:=Fi;have⟨G,O⟩:=l j k w f;show⟨⟨j,k,w,hk,O,g⟩,λz=>?_⟩;subst z;show G (b.inj j i k .own w u a hk rfl O m g p)
 have Q:∀j a,({c with H:=upd c.H r o',st:=c.st.set i b5}:Cf).RD j a->c.RD j a:=λj a ⟨w,h,f,g,I⟩=>⟨w,h,(l j _ w f).2,g,I⟩
 have T:∀j a,c.RD j a->a≠r:=λj a z e=>by subst e;show b.dd.d1 j a z A
 have J:∀S:fS->Prop,¬S r->Mv S c.H S (upd c.H r o'):=λS hS=>⟨λa z=>z,λa d e tp=>by
  have:a≠r:=λz=>by subst z;rw[z4]at e;cases e;show z5 tp
  rw[aj this];show e,λa d z e=>by
  have:a≠r:=λy=>by subst y;show hS z
  rw[aj this];show e⟩
 have hP:¬PS C c.S r:=λz=>z.elim z2 t;show⟨⟨λa d e FG=>?_,λa z=>?_,b.par,λa z=>?_,by simp[b.len],λj k w e=>?_,λj1 j2 k1 k2 w1 w2 h h1 h2 f g I e4=>b.inj j1 j2 k1 k2 w1 w2 h h1 h2 (l _ _ _ f).2 (l _ _ _ g).2 I e4,?_⟩,⟨λa d e hR=>?_,λa d e=>?_,λa z=>?_,λa z=>z,λa z=>.inl z⟩,λz=>?_⟩
 .have:a≠r:=λy=>by subst y;rw[N]at e;cases e
  change upd c.H r o' a=_;rw[aj this];show b.same a d e FG
 .have⟨n,d,L⟩:=b.Gi a z;have:a≠r:=λy=>by subst y;show t z
  show⟨n,d,by change upd c.H r o' a=_;rw[aj this];show L⟩
 .obtain⟨⟨d,n⟩,Sj,L⟩:=b.io a z;have:a≠r:=λy=>by subst y;rw[N]at n;cases n
  show⟨⟨d,n⟩,Sj,by change upd c.H r o' a=_;rw[aj this];show L⟩
 .have⟨G,Y⟩:=l j k w e;have⟨v,f,g⟩:=b.sl j k w Y;show⟨v,f,g.mv (J _ t) (J _ hP) λhk h x=>?_⟩;obtain⟨Kr,F_,y1,_⟩:=g.rt hk;rw[x]at F_;cases F_;have:h≠r:=λy=>by subst y;show G (b.inj j i k .own w u h hk rfl Y m (by rw[f,x]) p)
  show⟨y1,λd q=>by change upd c.H r o' h=_;rw[aj this];show q⟩
 .show b.dd.of rfl (λj w e=>⟨(l j _ w e).2,rfl⟩) (λa z=>.inl (D a z).1) (J _ t) λj a z=>⟨(b.root (.inr ⟨j,z⟩)).1,λd q=>by change upd c.H r o' a=_;rw[aj (T j a z)];show q⟩
 .have:a≠r:=λy=>by subst y;show hR (.inl A)
  change upd c.H r o' a=_;rw[aj this];show e
 .by_cases ha:a=r
  .subst ha;show⟨o',au⟩
  .show⟨d,by change upd c.H r o' a=_;rw[aj ha];show e⟩
 .rcases z with z|⟨j,z⟩
  .show .inl (.inl (D a z).1)
  .show .inl (.inr ⟨j,Q j a z⟩)
 .rcases z with z|⟨j,z⟩
  .show(D r z).2 rfl
  .show T j r (Q j r z) rfl
def Ok.EH(D:Ok C c0)(d:Ok C c)(n:Nx c0 c)(q:c0.H r=b5)(g:¬c.S r)(t:¬c.R r)(G:∃o,c.H r=a5 o/\¬Tp o):
  Ok C {c with H:=upd c.H r o' }/\Nx c0 {c with H:=upd c.H r o' }:=by
 have⟨o,ho,I⟩:=G;obtain⟨J,_,L,qI,_⟩:=D.iM q;have N:¬PS C c.S r:=λz=>z.elim L g;have f:∀a b,a≠r->c.H a=a5 b->(upd c.H r o') a=a5 b:=λa b O e=>by rw[aj O];show e
 have l:∀S:fS->Prop,¬S r->Mv S c.H S (upd c.H r o'):=λS g=>⟨λa z=>z,λa m e Q=>f a m (λz=>by subst z;rw[ho]at e;cases e;show I Q) e,λa m z e=>f a m (λy=>by subst y;show g z) e⟩
 have T:∀{a:fS} {b:HO},c0.H a=a5 b->a≠r:=λe z=>by subst z;rw[q]at e;cases e
 have p:∀a,(∃b,c.H a=a5 b)->∃b,(upd c.H r o') a=a5 b:=λa Y=>by
  have⟨b,e⟩:=Y;by_cases w:a=r
  .subst w;show⟨o',au⟩
  .show⟨b,f a b w e⟩
 show⟨⟨λa b e z=>f a b (λy=>by subst y;rw[J]at e;cases e) (d.same a b e z),λa z=>⟨(d.Gi a z).1,p a (d.Gi a z).2⟩,d.par,λa z=>⟨(d.io a z).1,p a (d.io a z).2⟩,d.len,λi k u e=>?_,d.inj,d.dd.hs (l _ g) λj a z=>⟨(d.root (.inr ⟨j,z⟩)).1,λb e=>f a b (λy=>by subst y;show t (.inr ⟨j,z⟩)) e⟩⟩,?_⟩
 .have⟨v,x,h⟩:=d.sl i k u e;show⟨v,x,h.mv (l _ g) (l _ N) λhk r' A=>?_⟩;obtain⟨Kr,B,q1,_⟩:=h.rt hk;rw[A]at B;cases B;show⟨q1,λb h=>f r' b (λy=>by subst y;show t (.inl ⟨i,k,u,hk,e,by rw[x,A]⟩)) h⟩
 .show⟨⟨λa b e z=>f a b (T e) (n.keep a b e z),λa b e=>p a (n.there a b e),n.roots,n.sub,n.new⟩⟩
def mN(b:¬c.S r)(d:c.H r=a5 (.dK kvs))(f:kvs.map (·.1)=ks.map ko)(g:ah C c.S c.H us (kvs.map (·.2))):
  Rep C c.S (upd c.H r (.FO o (.dK kvs))) (.Fm ks us) (.ref r):=by
 show⟨r,rfl,o,kvs,au,f,ah.mv ⟨λa z=>z,λa h e i=>?_,λa h z e=>?_⟩ g⟩
 .have:a≠r:=λy=>by subst y;rw[d]at e;cases e;show i
  rw[aj this];show e
 .have:a≠r:=λy=>by subst y;show b z
  rw[aj this];show e
def yu(T:PE X a (E4 C ma)):PE X a (E4 C (ma >>= sL)):=by
 show PE.weak (AR T) ?_;rintro σ H Q ⟨c0,rfl,rfl,p,h⟩;show aF p h λx c v t w=>?_;have⟨D,g,n,d⟩:=t;have⟨k,u⟩:=x;cases k with
 |own =>
  cases u with
  |EX ks us =>
   rw[show sL (.own,.EX ks us)=pure (.loc,.Fm ks us) from rfl,ak]at w;obtain⟨r,rfl,G,f,Y,_⟩:∃r,v=.ref r/\c0.H r=b5/\¬c.S r/\¬c.R r/\True:=by
    obtain⟨r,y,z2,z3,z4,_⟩:=d;show⟨r,y,z2,z3,z4,trivial⟩
   have⟨a2,kvs,y,b,l,m⟩:=d.dict g;cases y;show⟨r,kvs,rfl,b,λo=>?_⟩;have⟨A,B⟩:=Ok.EH (o':=.FO o (.dK kvs)) p g n G f Y ⟨_,b,λz=>z⟩;show w {c with H:=upd c.H r (.FO o (.dK kvs))} _ D rfl A B (mN f b l m)
  |_=>show(aQ.mp w).elim
 |bor j =>
  have⟨q,st',e,w⟩:=w;unfold sL at e
  dsimp only at e
  split at e
  .rename_i ks us I;cases e;have⟨r,rfl,f,fP,G,hr⟩:=g.rootOf ⟨.own,rfl,I⟩ d.2;have⟨kvs,b,l,m⟩:=hr;show⟨r,kvs,rfl,b,λo=>?_⟩;have⟨A,B,nR⟩:=Ok.C3 (o':=.FO o (.dK kvs)) g I d.2;have J:j<c.σ.length:=(eH.mp d.2).1;have⟨L,N⟩:=Ok.put (i:=j) (k:=.loc) (u:=.Fm ks us) (v:=.ref r) A (n.trans ⟨B⟩) J (.inr (.inl rfl)) p (mN f b l m);have eσ:c.σ.set j (a5 (.ref r))=c.σ:=by
    apply OU;intro i;by_cases O:j=i
    .subst O;rw[ez J,d.2]
    .rw[hE O]
   have es:(c.st.set j b5).set j (a5 (.loc,.Fm ks us))=c.st.set j (a5 (.loc,.Fm ks us)):=List.set_set ..;rw[show({c with H:=upd c.H r (.FO o (.dK kvs)),st:=c.st.set j b5}:Cf).σ=c.σ from rfl,eσ,show({c with H:=upd c.H r (.FO o (.dK kvs)),st:=c.st.set j b5}:Cf).st=c.st.set j b5 from rfl,es]at L N;show w {c with H:=upd c.H r (.FO o (.dK kvs)),st:=c.st.set j (a5 (.loc,.Fm ks us))} _ D rfl L N (mN f b l m)
  .cases e
 |_=>show(aQ.mp w).elim
end
section
abbrev tG(C:Ct)(t:Bool)(is:List Nat):TG:=λv σ H Q=>∃c0 c r,c.σ=σ/\c.H=H/\Ok C c0/\Ok C c/\Nx c0 c/\aC C c0 c r.1 r.2 v/\W (dH t is r) c.st λ_ st' =>
 ∀a,a.st=st'->Ok C a->Nx c0 a->(∀j,j∉is->a.σ[j]?=c.σ[j]?)->a.σ.length=c.σ.length->Q a.σ a.H
structure pK(X:Cx)(e:l')(i:Nat):Prop where
 is:∃x pos,e=.Name x pos/\X.N[i]?=a5 x/\Loc X.env.scope x/\(X.fn x=bD\/X.env.scope.names.lookup x=a5 .local)
def Bn(g:X.N.Nodup)(h:pK X e i):PG X e (tG C c2 [i]):=by
 have⟨x,pos,rfl,f,k,l⟩:=h.is;rintro a s σ H v u Q I rv ⟨c0,c,r,rfl,rfl,m,o,n,b,w⟩;have p:i<c.σ.length:=by rw[I.len];show(eH.mp f).1
 have⟨t,d,y,A,B,q⟩:=mM (r:=r) m o n p b w;show lS g f k l a s c.σ c.H v u Q I rv ?_;have z:=q t rfl A B (λj D=>by rw[d,hE (by intro z;show D (by simp[z]))]) (by rw[d];simp);rw[d,y]at z;show z
abbrev Oo:List Nat->Kb
 |[]=>Cv
 |i::is=>zv (qv i) (Oo is)
inductive d4(X:Cx):List l'->List Nat->Prop where
 |nil:d4 X [] []
 |cons {e:l'} {es:List l'} {i:Nat} {is:List Nat} (h:pK X e i) (t:d4 X es is):d4 X (e::es) (i::is)
def sW(a:X.N.Nodup)(h:d4 X es is):KN X es (Oo is):=by
 induction h with
 |nil=>show xl
 |cons h t b =>
  have⟨x,pos,rfl,c,d,e⟩:=h.is;show t_ (lS a c d e) b rfl
def pL(h:d4 X es is):(K0 es X.env).length=is.length/\(K0 es X.env).findIdx? (·.1)=b5:=by
 induction h with
 |nil=>show⟨rfl,rfl⟩
 |cons h t a =>
  have⟨x,pos,rfl,b,c,d⟩:=h.is;show⟨?_,?_⟩
  .change(_::_).length=_;simp[a.1]
  .change Vz _ (_::_)=b5;rw[List.findIdx?_cons,Ws (by simp),a.2];rfl
theorem q_(hk:kE k=k)(g:Ok C c0):∀{is:List Nat}{us:List U}{vs:List V}{c:Cf}{Post:Unit->av->Prop}{Q:L2.St->Hp->Prop},Ok C c->Nx c0 c->(∀i∈is,i<c.σ.length)->ah C (SK C c k) c.H us vs->W (sets is (us.map λu=>(k,u))) c.st Post ->
  (∀b,Post () b.st->Ok C b->Nx c0 b->(∀j,j∉is->b.σ[j]?=c.σ[j]?)->b.σ.length=c.σ.length->Q b.σ b.H)->Oo is vs c.σ c.H Q
 |[],[],vs,c,Post,Q,ok,n,d,a,w,q=>by
  rw[show sets [] (List.map (λu=>(k,u)) [])=pure () from rfl,ak]at w;show⟨a,q c w ok n (λ_ _=>rfl) rfl⟩
 |[],u::us,vs,c,Post,Q,ok,n,d,a,w,q=>(aQ.mp w).elim
 |i::is,[],vs,c,Post,Q,ok,n,d,a,w,q=>(aQ.mp w).elim
 |i::is,u::us,vs,c,Post,Q,ok,n,d,a,w,q=>by
  rw[show sets (i::is) (List.map (λu=>(k,u)) (u::us))=eB i (k,u) >>= λ_=>sets is (us.map λu=>(k,u)) from rfl,ae]at w;have⟨v,r,rfl,h,l⟩:=a;have m:k=.own\/k=.loc\/k=.any:=by cases k<;>simp[kE]at hk<;>simp
  have B:k≠.own:=by cases k<;>simp[kE]at hk<;>simp
  have rt:aC C c0 c k u v:=by rw[<-hk];show aC.item h
  have⟨o,s⟩:=ok.put n (d i (by simp)) m g rt;have es:eB i (k,u)=λst=>a5 (.ok (),st.set i (a5 (k,u))):=by cases k<;>simp[kE]at hk<;>rfl
  obtain⟨_,st',e,t⟩:=w;rw[es]at e;cases e;show⟨v,r,rfl,q_ (c:={c with σ:=c.σ.set i (a5 v),st:=c.st.set i (a5 (k,u))}) hk g o s (λj f=>by simpa using d j (by simp[f])) (by cases k<;>show l) t λb p x y A hl=>?_⟩;show q b p x y (λj f=>?_) (by rw[hl];simp);rw[A j (λz=>f (by simp[z])),hE (λz=>f (by simp[z]))]
def C4(m:X.calm=bD)(o:C.K=X.K)(q:X.N.Nodup)(h:d4 X es is)(hl:∀i∈is,i<X.N.length):PG X (.Tuple es kk pos) (tG C bD is):=by
 rintro a s σ H v u Q I rv ⟨c0,c,r,rfl,rfl,t,f,n,d,w⟩;have⟨y,z⟩:=pL h;show Aj m (sW q h) y z a s c.σ c.H v u Q I rv ?_;have⟨k,A⟩:=r;cases A with
 |tup us =>
  rw[show dH bD is (k,.tup us)=sets is (us.map λu=>(kE k,u)) from by cases is<;>rfl]at w;have⟨B,vs,rfl,g,j⟩:=d.tuple f;rw[o]at g;have b:us.length=is.length:=by
   have e:∀(is:List Nat) (l:List (Kd×U)) (st:av) (P:Unit->av->Prop),W (sets is l) st P->l.length=is.length:=by
    intro is;induction is with
    |nil=>intro l st P w;cases l with
     |nil=>rfl
     |cons _ _=>show(aQ.mp w).elim
    |cons i is D=>intro l st P w;cases l with
     |nil=>show(aQ.mp w).elim
     |cons x l =>
      rw[show sets (i::is) (x::l)=eB i x >>= λ_=>sets is l from rfl,ae]at w;obtain⟨_,_,_,w⟩:=w;rw[mu,mu,D l _ _ w]
   simpa using e _ _ _ _ w
  show⟨B,vs,rfl,g,by rw[<-j.len,b],?_⟩;show q_ (k:=kE k) (by cases k<;>rfl) t f n (λi G=>by rw[I.len];show hl i G) (by cases k<;>show j) w λJ p L O T Y=>p J rfl L O T Y
 |_=>cases is<;>show(aQ.mp w).elim
end
section
variable{X:Cx}{C:Ct}{pins:List (fS×Obj)}{s:hH}{c0 c c1:Cf}
variable{a b d e o tg iter elt:l'}{es ifs:List l'}{m ma mb md me:M (Kd×U)}{ms:M (List (Kd×U))}{ta tb tc:M Bool}{pos p p2 apos cpos:Pos}
def sX{m:M α}{st:av}{Q:α->av->Prop}:W (inScope k m) st Q↔W m (j0 k b5++st) λa st'=>Q a (st'.drop k):=by
 constructor
 .rintro⟨a,st',e,h⟩;unfold inScope at e;cases q:m (j0 k b5++st) with
  |none=>rw[q]at e;cases e
  |some r=>have⟨g,f⟩:=r;rw[q]at e;cases e;show⟨a,f,q,h⟩
 .rintro⟨a,st',e,h⟩;show⟨a,st'.drop k,by unfold inScope;rw[e],h⟩
abbrev Cf.ext(k:Nat)(c:Cf):Cf:={c with σ:=j0 k b5++c.σ,st:=j0 k b5++c.st,kid:=λj=>c.kid (j - k)}
abbrev Cf.cut(k:Nat)(c:Cf):Cf:={c with σ:=c.σ.drop k,st:=c.st.drop k,kid:=λj=>c.kid (k+j)}
def fb(h:(j0 k b5++l)[j]?=a5 (a5 x)):∃i,j=k+i/\l[i]?=a5 (a5 x):=by
 by_cases f:j<k
 .rw[ti (by simpa using f)]at h;rw[Fz]at h;rw[Wq f]at h;cases h
 .show⟨j - k,⋯,?_⟩;rw[m3 (by simp;lia)]at h;simpa using h
def d5:(j0 k b5++l)[k+i]?=l[i]?:=by
 rw[m3 (by simp)];simp
def vp:(c.ext k).R1 r↔c.R1 r:=by
 constructor
 .rintro⟨j,g,u,h,l,f⟩;have⟨i,rfl,e⟩:=fb l;rw[Cf.ext,d5]at f;show⟨i,g,u,h,e,f⟩
 .rintro⟨i,g,u,h,l,f⟩;show⟨k+i,g,u,h,by rw[Cf.ext,d5];show l,by rw[Cf.ext,d5];show f⟩
def mO{a:fS}(h:(c.ext k).RD j a):∃i,j=k+i/\c.RD i a:=by
 have⟨u,r,l,f,g⟩:=h;have⟨i,rfl,e⟩:=fb l;rw[Cf.ext,d5]at f;show⟨i,rfl,u,r,e,f,?_⟩;have:(c.ext k).kid (k+i)=c.kid i:=by change c.kid (k+i - k)=_;rw[Sb]
 rw[this]at g;show g
def C5(h:(c.ext k).R r):c.R r:=by
 rcases h with h|⟨j,h⟩
 .show .inl (vp.mp h)
 .obtain⟨i,_,h⟩:=mO h;show .inr ⟨i,h⟩
def Ok.ext(k:Nat)(f:Ok C c):Ok C (c.ext k)/\Nx c (c.ext k):=by
 show⟨⟨f.same,f.Gi,f.par,f.io,by simp[Cf.ext,f.len],λj A u e=>?_,λi j B D u u' r G H l g y z=>?_,⟨λj u r l g=>?_,λi j a n q=>?_,λj a n q=>?_⟩⟩,⟨⟨λ_ _ h _=>h,λ_ o h=>⟨o,h⟩,λa h=>.inl (C5 h),λ_ h=>h,λ_ h=>.inl h⟩⟩⟩
 .have⟨i,rfl,I⟩:=fb e;have⟨v,l,g⟩:=f.sl i A u I;show⟨v,by rw[Cf.ext,d5];show l,g⟩
 .have⟨t,rfl,J⟩:=fb l;have⟨w,rfl,L⟩:=fb g;rw[Cf.ext,d5]at y z;rw[f.inj t w B D u u' r G H J L y z]
 .have⟨i,rfl,e⟩:=fb l;rw[Cf.ext,d5]at g;have:(c.ext k).kid (k+i)=c.kid i:=by change c.kid (k+i - k)=_;rw[Sb]
  rw[this];show f.dd.kd i u r e g
 .have⟨t,rfl,x⟩:=mO n;have⟨w,rfl,N⟩:=mO q;rw[f.dd.dj t w a x N]
 .have⟨i,rfl,x⟩:=mO n;show f.dd.d1 i a x (vp.mp q)
def vq{a:fS}(h:(c.cut k).R1 a):c.R1 a:=by
 have⟨j,i,u,l,f,g⟩:=h;rw[Cf.cut,HJ]at f g;show⟨k+j,i,u,l,f,g⟩
def mP{a:fS}(h:(c.cut k).RD j a):c.RD (k+j) a:=by
 have⟨u,r,f,g,i⟩:=h;rw[Cf.cut,HJ]at f g;show⟨u,r,f,g,i⟩
def Ok.cut(k:Nat)(f:Ok C c):Ok C (c.cut k)/\Nx c (c.cut k):=by
 show⟨⟨f.same,f.Gi,f.par,f.io,by simp[Cf.cut,f.len],λj x u e=>?_,λi j y A u u' r B D g l t w=>?_,⟨λj u r g l=>?_,λi j a n q=>?_,λj a n q=>f.dd.d1 _ a (mP n) (vq q)⟩⟩,⟨⟨λ_ _ h _=>h,λ_ o h=>⟨o,h⟩,λa h=>.inl (h.elim (λz=>.inl (vq z)) λ⟨j,z⟩=>.inr ⟨k+j,mP z⟩),λ_ h=>h,λ_ h=>.inl h⟩⟩⟩
 .rw[Cf.cut,HJ]at e;have⟨v,g,l⟩:=f.sl _ x u e;show⟨v,by rw[Cf.cut,HJ];show g,l⟩
 .rw[Cf.cut,HJ]at g l t w;have:=f.inj _ _ y A u u' r B D g l t w;lia
 .rw[Cf.cut,HJ]at g l;show f.dd.kd _ u r g l
 .have:=f.dd.dj _ _ a (mP n) (mP q);lia
def yw(h:∀j,j∉i3 k->σ'[j]?=(j0 k b5++σ)[j]?)(hl:σ'.length=(j0 k (b5:Option V)++σ).length):∃f:L2.St,f.length=k/\σ'=f++σ:=by
 show⟨σ'.take k,by rw[ve,hl];simp,?_⟩;apply OU;intro j;by_cases g:j<k
 .rw[ti (by rw[ve,hl];simp;lia),List.getElem?_take,Wq g]
 .rw[h j (by simpa using g),m3 (by simp;lia),m3 (by rw[ve,hl];simp;lia)];congr 1
  rw[ve,hl];simp
def sY(e1:c1.σ=c0.σ)(E3:Ok C c1)(n1:Nx c0 c1)(hw:Walk C c1 rs xs J)(h3:W (bF k t tc me rs xs []) c1.st λus st'=>W (pure (Kd.own,U.lst us)) st' (bR C c0 Q)):
  qD k J (tG C t (i3 k)) (F2 C tc) (E4 C me) Q c0.σ c1.H:=by
 show⟨λi m ys H=>∃c acc,c.H=H/\c.σ=c0.σ/\Ok C c/\Nx c1 c/\m=xs.length - i/\i<=xs.length/\ah C c.S c.H acc ys/\acc.length<=df/\W (bF k t tc me rs (xs.drop i) acc) c.st λus st'=>W (pure (Kd.own,U.lst us)) st' (bR C c0 Q),⟨xs.length,c1,[],rfl,e1,E3,Nx.refl c1,by simp,kj _,rfl,kj _,by simpa using h3⟩,?_⟩;rintro i m ys H ⟨c,acc,rfl,D,q,y,rfl,hi,g,h,w⟩;show⟨by rw[<-g.len];show h,?_⟩;have f:kY rs c1 c:=λj u _=>by rw[D,e1]
 by_cases G:i<xs.length
 .right
  rw[Q5 G]at w;rw[show bF k t tc me rs (xs[i]::xs.drop (i+1)) acc=ay rs >>= λ_=>inScope k (dH t (i3 k) xs[i] >>= λ_=>tc >>= λb=>if b=bD then(me >>= λr=>lift r >>= λu=>pure (a5 u)) else pure b5) >>= λr=>match r with|some u=>if acc.length<df then bF k t tc me rs (xs.drop (i+1)) (acc++[u]) else M.fail|none=>bF k t tc me rs (xs.drop (i+1)) acc from rfl,ae,bS]at w;have⟨HX,w⟩:=w;obtain⟨I,_⟩:=hw c q y f HX;have⟨Oq,Ot,Ou⟩:=I i xs[i] (by simp[G]);show⟨Ot,λGD H'=>∃c acc,c.H=H'/\c.σ=c0.σ/\Ok C c/\Nx c1 c/\ah C c.S c.H acc GD/\acc.length<=df/\W (bF k t tc me rs (xs.drop (i+1)) acc) c.st λus st'=>W (pure (Kd.own,U.lst us)) st' (bR C c0 Q),λGD H' ⟨c',FE,z1,z2,z3,z4,z5,z6,z7⟩=>⟨xs.length - (i+1),⋯,c',FE,z1,z2,z3,z4,rfl,G,z5,z6,z7⟩,λx H' hy=>?_⟩;have⟨l,rfl,e4,e5,Fe,n2,rt⟩:=Ou x H' hy;rw[ae,sX,ae]at w;have⟨PQ,nx⟩:=Fe.ext k;have Sl:aC C (l.ext k) (l.ext k) xs[i].1 xs[i].2 x:=by
   rcases Oq with z|z
   .rw[z]at rt ⊢;show rt
   .rw[z]at rt ⊢;show rt
  have eσ:(l.ext k).σ=j0 k b5++c0.σ:=by rw[Cf.ext];change j0 k b5++l.σ=_;rw[e4,D]
  show⟨l.ext k,l.ext k,xs[i],eσ,rfl,PQ,PQ,Nx.refl _,Sl,?_⟩;have Sm:(l.ext k).st=j0 k b5++c.st:=by rw[Cf.ext];change j0 k b5++l.st=_;rw[e5]
  rw[Sm];show w.mono λ_ Fs w3 c3 e6 Gy n3 Lu Jr=>?_;subst e6;rw[eσ]at Lu Jr;have⟨L,N,O⟩:=yw Lu Jr;show⟨L,N,O,?_⟩;have PR:Nx c c3:=(n2.trans nx).trans n3;rw[ae]at w3;show⟨c3,rfl,rfl,Gy,w3.mono λb Kg n B e7 e8 T n4=>?_⟩;subst e8;cases b with
  |false =>
   rw[Ws i0]at n ⊢;rw[ak]at n;have⟨Y,nk⟩:=T.cut k;have nn:Nx c (B.cut k):=(PR.trans n4).trans nk;show⟨B.cut k,acc,rfl,?_,Y,y.trans nn,g.mv (q.mv nn),h,n⟩;change B.σ.drop k=_;rw[e7,O,PV N]
  |true =>
   rw[Wq rfl]at n ⊢;rw[ae]at n;show⟨B,e7,rfl,T,n.mono λr Ja w5 c5 v e9 Sn So n5 Sq=>?_⟩;subst Sn;rw[ae]at w5;obtain⟨S',st',u,sS,Sr,n6,Ow,A,_,_⟩:=e_ T So n5 Sq.w w5;rw[ak]at A
   dsimp only at A
   split at A
   .rename_i hz;have⟨Y,nk⟩:=Sr.cut k;have nn:Nx c (Cf.cut k {c5 with S:=S',st:=st' }):=((PR.trans n4).trans n6).trans nk;show⟨Cf.cut k {c5 with S:=S',st:=st' },acc++[u],rfl,?_,Y,y.trans nn,(g.mv (q.mv nn)).snoc Ow,by rw[ke];show hz,A⟩;change c5.σ.drop k=_;rw[e9,O,PV N]
   .show(aQ.mp A).elim
 .left
  have GG:i=xs.length:=by lia
  subst GG;rw[UT,show bF k t tc me rs [] acc=ay rs >>= λ_=>pure acc from rfl,ae,bS,ak,ak]at w;obtain⟨_,I⟩:=hw c q y f w.1;show⟨I _ (hY _),λp hp=>bR.list w.2 D q (n1.trans y) g p hp⟩
def kZ(l:Ok C c0)
  (h:W (ms >>= λrs=>ay rs >>= λ_=>M.Ff (G0 n rs) >>= λxs=>bF k t tc me rs xs [] >>= λus=>pure (Kd.own,U.lst us)) c0.st (bR C c0 Q)) :
  uC k (IT C n ms) (tG C t (i3 k)) (F2 C tc) (E4 C me) c0.σ c0.H Q:=by
 rw[ae]at h;show⟨c0,rfl,rfl,l,?_⟩;rw[ae];show h.mono λrs st1 f=>?_;rw[ae,bS]at f ⊢;show⟨f.1,?_⟩;have g:=f.2;rw[ae]at g ⊢;show g.mono λxs st2 i=>?_;rw[ak];intro c1 J q r u v w j;rw[ae]at i;subst r
 dsimp only at w j
 show sY q u v j i
def vt(S:cj X N own scope)(f:X.calm=bD)(g:PI X tg iter (IT C i ms))
  (j:∀D s H ex,PG (FT X N scope D s H ex) tg (tG C t (i3 own.length))) (k:∀D s H ex,IB (FT X N scope D s H ex) ifs (F2 C tc)) (l:∀D s H ex,PE (FT X N scope D s H ex) elt (E4 C me))
  (hs:∀x,IV iter X.env x=pure x) :
  PE X (.ListComp elt [⟨tg,iter,ifs,0⟩] scope pos) (E4 C (ms >>= λrs=>ay rs >>= λ_=>M.Ff (G0 i rs) >>= λxs=>bF own.length t tc me rs xs [] >>= λus=>pure (.own,.lst us))):=by
 show PE.weak (xG S f g j k l hs) ?_;rintro σ H Q ⟨c0,rfl,rfl,n,h⟩;show kZ n h
end
section
variable{a b d e o tg iter elt:l'}{es ifs:List l'}{m ma mb md me:M (Kd×U)}{ms:M (List (Kd×U))}{ta tb tc:M Bool}{pos p p2 apos cpos:Pos}{st:HM}{rest body:List HM}{f g mm:M Fl}{ns FP:Nat->Bool}
def Bo(C:Ct)(c:Cf):Kd->U->V->Prop
 |.own,u,v=>∃r,v=.ref r/\C.H₀ r=b5/\¬c.S r/\¬c.R r/\cn C c.S c.H r u
 |.loc,u,v=>Rep C c.S c.H u v
 |.any,u,v=>Rep C (PS C c.S) c.H u v
 |_,_,_=>False
abbrev Fin(C:Ct)(D:Ends)(f:Fl)(c:Cf):Prop:=match f with
 |.nx=>D.nx c.σ c.H
 |.bk=>D.bk c.σ c.H
 |.ct=>D.ct c.σ c.H
 |.rt k u=>∀v,Bo C c k u v->D.rt v c.H
abbrev Kept(ns:Nat->Bool)(c h:Cf):Prop:=(∀j,ns j=bD->h.σ[j]?=c.σ[j]?)/\h.σ.length=c.σ.length
def Kept.refl:Kept ns c c:=⟨λ_ _=>rfl,rfl⟩
def Kept.trans(h:Kept ns c i)(h':Kept ns i k):Kept ns c k:=⟨λj z=>(h'.1 j z).trans (h.1 j z),h'.2.trans h.2⟩
def Kept.le(i:∀j,FP j=bD->ns j=bD)(h:Kept ns c k):Kept FP c k:=⟨λj z=>h.1 j (i j z),h.2⟩
def Kept.of(h:i.σ=c.σ):Kept ns c i:=⟨λj z=>by rw[h],by rw[h]⟩
abbrev fA(C:Ct)(c0:Cf)(ns:Nat->Bool)(D:Ends)(f:Fl)(st':av):Prop:=∀c,c.st=st'->Ok C c->Ns c0 c->Kept ns c0 c->Fin C D f c
abbrev FC(C:Ct)(ns:Nat->Bool)(m:M Fl):TS:=λD σ H=>∃c0:Cf,c0.σ=σ/\c0.H=H/\Ok C c0/\W m c0.st (fA C c0 ns D)
def jA(c:Ok C c1)(n:Ns c0 c1)(k:Kept ns c0 c1)(h:W mm c1.st (fA C c0 ns D)):FC C ns mm D c1.σ c1.H :=
 ⟨c1,rfl,rfl,c,h.mono λf st i j e l q r=>i j e l (n.trans q) (k.trans r)⟩
def PS.weak(h:L2.PS X st t)(i:∀D σ H,t' D σ H->t D σ H):L2.PS X st t':=λc s σ H D I q=>h c s σ H D I (i D σ H q)
def FA.weak(h:FA X rest t)(i:∀D σ H,t' D σ H->t D σ H):FA X rest t':=λc s σ H D I q=>h c s σ H D I (i D σ H q)
def jB(i:∀j,FP j=bD->ns j=bD)(h:FC C FP mm D σ H):FC C ns mm D σ H :=
 let ⟨c0,c,k,l,w⟩:=h;⟨c0,c,k,l,w.mono λf st n q e r s t=>n q e r s (t.le i)⟩
def C6:FA X [] (FC C ns (pure .nx)):=by
 show FA.weak lQ ?_;rintro D σ H ⟨c0,rfl,rfl,c,h⟩;rw[ak]at h;show h c0 rfl c (Ns.refl c0) Kept.refl
abbrev yx(m:M Fl)(f:Fl):M Fl:=match f with
 |.nx=>m
 |f=>pure f
def Bp(l:L2.PS X st (FC C ns f))(n:FA X rest (FC C ns g)):FA X (st::rest) (FC C ns (f >>= yx g)):=by
 show FA.weak (dz l n) ?_;rintro D σ H ⟨c0,rfl,rfl,q,h⟩;rw[ae]at h;show⟨c0,rfl,rfl,q,h.mono λr st1 w c1 e c i j=>?_⟩;subst e;cases r with
 |nx=>show jA c i j w
 |bk=>rw[show yx g .bk=pure .bk from rfl,ak]at w;show w c1 rfl c i j
 |ct=>rw[show yx g .ct=pure .ct from rfl,ak]at w;show w c1 rfl c i j
 |rt k u=>rw[show yx g (.rt k u)=pure (.rt k u) from rfl,ak]at w;show w c1 rfl c i j
def C7(i:PE X a (E4 C ma))(hs:K8 a b5 pos.line X.env=pure c2):L2.PS X (.Expr a pos) (FC C ns (ma >>= λ_=>pure .nx)):=by
 show PS.weak (eX i hs) ?_;rintro D σ H ⟨c0,rfl,rfl,j,h⟩;show aF j h λx c v t w=>?_;rw[ak]at w;have:=w c rfl t.ok t.nx (Kept.of t.hσ);rw[<-t.hσ];show this
def Br:L2.PS X (.Return b5 pos) (FC C ns (pure (.rt .loc .EY))):=by
 show PS.weak xk ?_;rintro D σ H ⟨c0,rfl,rfl,c,h⟩;rw[ak]at h;show h c0 rfl c (Ns.refl c0) Kept.refl .EY rfl
def vv(ok:Ok C c0)(t:JR C c0 c x v)(w:W (retS x) c.st (fA C c0 ns D)):D.rt v c.H:=by
 have⟨k,u⟩:=x;have⟨G,l,n,r⟩:=t;cases k with
 |own =>
  rw[show retS (.own,u)=pure (.rt .own u) from rfl,ak]at w;have⟨B,e,h1,h2,h3,h4⟩:=r;show w c rfl l n (Kept.of G) v ⟨B,e,(ok.iM h1).1,h2,h3,h4⟩
 |loc =>
  rw[show retS (.loc,u)=pure (.rt .loc u) from rfl,ak]at w;show w c rfl l n (Kept.of G) v r
 |any =>
  rw[show retS (.any,u)=if Fu u=bD then pure (.rt .loc u) else pure (.rt .any u) from rfl]at w;split at w
  .rw[ak]at w;show w c rfl l n (Kept.of G) v (Rep.Fu (by assumption) r)
  .rw[ak]at w;show w c rfl l n (Kept.of G) v r
 |bor j =>
  have⟨fl,st',e,w⟩:=w;rw[show retS (.bor j,u) c.st=match c.st[j]? with|some (a5 (.own,u))=>a5 (Ex.ok (Fl.rt .own u),c.st.set j b5)|_=>b5 from rfl]at e;split at e
  .rename_i u' J;cases e;have Hd:j<c.st.length:=(eH.mp J).1;have A:∀(i:Nat) k u',(c.st.set j b5)[i]?=a5 (a5 (k,u'))->i≠j/\c.st[i]?=a5 (a5 (k,u')):=λi k u' e=>by
    by_cases L:i=j
    .subst L;rw[ez Hd]at e;cases e
    .rw[hE (qs L)]at e;show⟨L,e⟩
   have⟨v',s,B,er,q1,q2,q3,q4⟩:=l.sl j _ _ J;have N:c.σ[j]?=a5 (a5 v):=r.2;rw[N]at s;cases s;subst er;have Q:∀a,({c with st:=c.st.set j b5}:Cf).R1 a->c.R1 a:=λa ⟨i,k,h,hk,s,y⟩=>⟨i,k,h,hk,(A i k h s).2,y⟩
   have hR:∀a,({c with st:=c.st.set j b5}:Cf).R a->c.R a:=λa z=>z.elim (λz=>.inl (Q a z)) λ⟨i,h,O,s,y,I⟩=>.inr ⟨i,h,O,(A i .B' h s).2,y,I⟩;have IM:HD C {c with st:=c.st.set j b5}:=l.dd.of rfl (λi h e=>⟨(A i .B' h e).2,rfl⟩) (λa z=>.inl (Q a z)) (.up λ_ z=>z) λi a z=>⟨(l.root (.inr ⟨i,z⟩)).1,λo q=>q⟩
   have Ss:Ok C {c with st:=c.st.set j b5}:=⟨l.same,l.Gi,l.par,l.io,by simp[l.len],λi k h e=>l.sl i k h (A i k h e).2,λi T k k' Y h r hk Ft s y I e4=>l.inj i T k k' Y h r hk Ft (A i k Y s).2 (A T k' h y).2 I e4,IM⟩
   have nn:Ns c0 {c with st:=c.st.set j b5}:=⟨n.keep,n.there,λa z=>n.roots a (hR a z),n.sub,n.new⟩
   show w {c with st:=c.st.set j b5} rfl Ss nn (Kept.of G) (.ref B) ⟨B,rfl,q3,q1,λz=>?_,q4⟩
   .rcases z with⟨i,k,h,hk,s,y⟩|⟨i,h,O,s,y,I⟩
    .have⟨ne,FF⟩:=A i k h s;show ne (l.inj i j k .own h _ B hk rfl FF J y N)
    .show l.dd.d1 i B ⟨h,O,(A i .B' h s).2,y,I⟩ ⟨j,.own,_,rfl,J,N⟩
  .cases e
 |_=>show r.elim
def C8(j:PE X a (E4 C ma)):L2.PS X (.Return (a5 a) pos) (FC C ns (ma >>= retS)):=by
 show PS.weak (Ah j) ?_;rintro D σ H ⟨c0,rfl,rfl,i,h⟩;show aF i h λx c v t w=>vv i t w
end
section
def nX(e:∀j,ns j=bD->j≠i)(f:Ok C c0)(t:JR C c0 c r v)(g:i<c.σ.length)(w:W (eB i r >>= λ_=>(pure .nx:M Fl)) c.st (fA C c0 ns D)):D.nx (c0.σ.set i (a5 v)) c.H:=by
 rw[ae]at w;have⟨a,b,h,k,l,q⟩:=mM (r:=r) f t.ok t.nx g t.rx w;rw[ak]at q;have z:=q a rfl k l ⟨λj m=>by rw[b,t.hσ,hE (qs (e j m))],by rw[b,t.hσ];simp⟩;have d:D.nx a.σ a.H:=z;rw[b,h,t.hσ]at d;show d
def zC(g:∀j,ns j=bD->j≠i)(k:X.N.Nodup)(e:X.N[i]?=a5 x)(l:Loc X.env.scope x)(m:X.fn x=bD\/X.env.scope.names.lookup x=a5 .local)(n:PE X a (E4 C o))
  (hs:K8 a (a5 (.Name x b)) pos.line X.env=pure c2):L2.PS X (.Assign [.Name x b] a pos) (FC C ns (o >>= λr=>eB i r >>= λ_=>pure .nx)):=by
 rintro d s σ H D I ⟨c0,rfl,rfl,f,h⟩;have p:i<c0.σ.length:=by rw[I.len];show(eH.mp e).1
 show oP k e l n hs m d s c0.σ c0.H D I (aF f h λr c v t w=>nX g f t (by rw[t.hσ];show p) w)
def Bs(k:∀j,ns j=bD->j≠i)(S:cj X N own scope)(l:X.calm=bD)(m:X.N.Nodup)(e:X.N[i]?=a5 y)(o:X.env.scope.names.lookup y=a5 .local)
  (p:PI X tg a (IT C q ms)) (u:∀D s H ex,PG (FT X N scope D s H ex) tg (tG C t (i3 own.length))) (z:∀D s H ex,IB (FT X N scope D s H ex) b (F2 C A)) (B:∀D s H ex,PE (FT X N scope D s H ex) elt (E4 C G))
  (J:K8 (.ListComp elt [⟨tg,a,b,0⟩] scope pos) (a5 (.Name y L)) O.line X.env=pure bD) (hs:∀x,IV a X.env x=pure x) :
  L2.PS X (.Assign [.Name y L] (.ListComp elt [⟨tg,a,b,0⟩] scope pos) O)
   (FC C ns ((ms >>= λrs=>ay rs >>= λ_=>M.Ff (G0 q rs) >>= λxs=>bF own.length t A G rs xs [] >>= λus=>pure (.own,.lst us)) >>= λr=>eB i r >>= λ_=>pure .nx)):=by
 rintro d s σ H D I ⟨c0,rfl,rfl,f,h⟩;have Q:i<c0.σ.length:=by rw[I.len];show(eH.mp e).1
 show xH S l m e o p u z B J hs d s c0.σ c0.H D I ?_;rw[ae]at h;show kZ f (h.mono λr st1 w c v g T Y n rt=>?_);subst T;show nX k f ⟨g,Y,n,rt⟩ (by rw[g];show Q) w
def Bt(f:∀j,ns j=bD->j∉is)(g:PE X a (E4 C i))(k:PG X tg (tG C bD is))(hs:LV [tg] a pos.line X.env=pure c2)(l:O_ [tg] a X.env=pure b5)(m:(K0 [tg] X.env).map (·.2)=[M_ tg X.env]):
  L2.PS X (.Assign [tg] a pos) (FC C ns (i >>= λr=>dH bD is r >>= λ_=>pure .nx)):=by
 show PS.weak (oO g k hs l m) ?_;rintro D σ H ⟨c0,rfl,rfl,b,h⟩;show aF b h λr c v t w=>?_;rw[ae]at w;show⟨c0,c,r,t.hσ,rfl,b,t.ok,t.nx,t.rx,w.mono λ_ st1 d n e o p q hl=>?_⟩;subst e;rw[ak]at d;show d n rfl o p ⟨λj s=>by rw[q j (f j s),t.hσ],by rw[hl,t.hσ]⟩
def C9(i:PT X a (F2 C j))(k:FA X l (FC C ns f))(m:FA X o (FC C ns g)):L2.PS X (.If a l o pos) (FC C ns (j >>= λp=>if p=bD then f else g)):=by
 show PS.weak (zu i k m) ?_;rintro D σ H ⟨c0,rfl,rfl,q,h⟩;show dM q h λp c b d n w=>?_;have e:c0.σ=c.σ:=b.symm;rw[e];cases p with
 |true=>rw[Wq rfl]at w ⊢;show jA d n (Kept.of b) w
 |false=>rw[Ws i0]at w ⊢;show jA d n (Kept.of b) w
def C_(J:OT (hW X.prog X.w) X.A X.env X.xe)(L:PT X a (F2 C d))(N:FA X body (FC C ns f)):L2.PS X (.While a body [] pos) (FC C ns (fj d f n)):=by
 show PS.weak (ub J L N) ?_;rintro D σ H ⟨c0,rfl,rfl,O,h⟩;show⟨λm σ' H'=>∃c,c.H=H'/\c.σ=σ'/\Ok C c/\Ns c0 c/\Kept ns c0 c/\W (fj d f m) c.st (fA C c0 ns D),⟨n,c0,rfl,rfl,O,Ns.refl c0,Kept.refl,h⟩,?_⟩;rintro m σ' H' ⟨c,rfl,rfl,Q,s,t,w⟩;cases m with
 |zero=>show(aQ.mp w).elim
 |succ m =>
  rw[show fj d f (m+1)=d >>= λb=>if b=bD then(f >>= λf'=>match f' with|.nx=>fj d f m|.ct=>fj d f m|.bk=>pure .nx|.rt k u=>pure (.rt k u)) else pure .nx from rfl]at w;show dM Q w λp j v x y g=>?_;have B:Kept ns c j:=Kept.of v;rw[<-v];cases p with
  |false =>
   rw[Ws i0]at g ⊢;rw[ak]at g;show g j rfl x (s.trans y) (t.trans B)
  |true =>
   rw[Wq rfl]at g ⊢;show⟨λG I=>∃c,c.H=I/\c.σ=G/\Ok C c/\Ns c0 c/\Kept ns c0 c/\W (fj d f m) c.st (fA C c0 ns D),λG I z=>⟨m,Kl m,z⟩,?_⟩;rw[ae]at g;show⟨j,rfl,rfl,x,g.mono λT Fs i l e o Y k3=>?_⟩;subst e;have q:=(s.trans y).trans Y;have r:=(t.trans B).trans k3;cases T with
   |nx=>show⟨l,rfl,rfl,o,q,r,i⟩
   |ct=>show⟨l,rfl,rfl,o,q,r,i⟩
   |_=>rw[ak]at i;show i l rfl o q r
def Dd(hp:OT (hW X.prog X.w) X.A X.env X.xe)(hc:X.calm=bD)(hi:PI X tg a (IT C ik ms))(hg:PG X tg (tG C t is))(hb:FA X body (FC C (Gf p) f))(hs:∀x,IV a X.env x=pure x)
  (FZ:∀j,ns j=bD->j∉is/\Gf p j=bD) :
  L2.PS X (.For tg a body [] pos) (FC C ns (ms >>= λrs=>ay rs >>= λ_=>M.Ff (G0 ik rs) >>= λxs=>if qS rs is p=bD then forM t is f rs xs else M.fail)):=by
 show PS.weak (ud hp hc hi hg hb hs) ?_;rintro D σ H ⟨c0,rfl,rfl,ok,h⟩;rw[ae]at h;show⟨c0,rfl,rfl,ok,?_⟩;rw[ae];show h.mono λrs st1 q=>?_;rw[ae,bS]at q ⊢;show⟨q.1,?_⟩;have Y:=q.2;rw[ae]at Y ⊢;show Y.mono λxs st2 r=>?_;rw[ak];intro c1 J e1 e2 E3 n1 E5 s;subst e2
 dsimp only at E5 s
 split at r
 .rename_i JW;have Oy:∀j u,(Kd.bor j,u)∈rs->j∉is/\Gf p j=bD:=λj u g=>by
   have:=lg.mp JW _ g;simpa using this
  show⟨λi m σ' H'=>∃c,c.H=H'/\c.σ=σ'/\Ok C c/\Ns c1 c/\Kept ns c0 c/\kY rs c1 c/\m=xs.length - i/\i<=xs.length/\W (forM t is f rs (xs.drop i)) c.st (fA C c0 ns D),
   ⟨xs.length,c1,rfl,e1,E3,Ns.refl c1,Kept.of e1,λ_ _ _=>rfl,by simp,kj _,by simpa using r⟩,?_⟩
  rintro i m σ' H' ⟨c,rfl,rfl,v,l,kc,y,rfl,GG,w⟩;by_cases B:i<xs.length
  .right
   rw[Q5 B,show forM t is f rs (xs[i]::xs.drop (i+1))=ay rs >>= λ_=>dH t is xs[i] >>= λ_=>f >>= λf'=>match f' with|.nx=>forM t is f rs (xs.drop (i+1))|.ct=>forM t is f rs (xs.drop (i+1))|.bk=>pure .nx|.rt k u=>pure (.rt k u) from rfl,ae,bS]at w;have⟨HX,w⟩:=w;obtain⟨G,_⟩:=s c v l y HX;have⟨Oq,Ot,Ou⟩:=G i xs[i] (by simp[B]);show⟨Ot,λσ' H'=>∃c,c.H=H'/\c.σ=σ'/\Ok C c/\Ns c1 c/\Kept ns c0 c/\kY rs c1 c/\W (forM t is f rs (xs.drop (i+1))) c.st (fA C c0 ns D),λσ' H' ⟨c',z1,z2,z3,z4,z5,z6,z7⟩=>⟨xs.length - (i+1),⋯,c',z1,z2,z3,z4,z5,z6,rfl,B,z7⟩,λx H' hy=>?_⟩;have⟨d,rfl,n,e5,Fe,n2,rt⟩:=Ou x H' hy;rw[ae]at w;have Su:aC C d d xs[i].1 xs[i].2 x:=by
    rcases Oq with z|z
    .rw[z]at rt ⊢;show rt
    .rw[z]at rt ⊢;show rt
   show⟨d,d,xs[i],n,rfl,Fe,Fe,Nx.refl d,Su,?_⟩;rw[e5];show w.mono λ_ Fs w3 c3 e6 Gy n3 PX Jr=>?_;subst e6;rw[ae]at w3;show⟨c3,rfl,rfl,Gy,w3.mono λfl Kg o b e I n4 L=>?_⟩;subst e;have N:Ns c1 b:=((l.trans n2.toNs).trans n3.toNs).trans n4;have O:Kept ns c0 b:=by
    show kc.trans ⟨λj hj=>?_,by rw[L.2,Jr,n]⟩;have⟨Q,T⟩:=FZ j hj;rw[L.1 j T,PX j Q,n]
   have PY:kY rs c1 b:=λj u g=>by
    have⟨Q,T⟩:=Oy j u g;rw[L.1 j T,PX j Q,n];show y j u g
   cases fl with
   |nx=>show⟨b,rfl,rfl,I,N,O,PY,o⟩
   |ct=>show⟨b,rfl,rfl,I,N,O,PY,o⟩
   |_=>rw[ak]at o;show o b rfl I (n1.toNs.trans N) O
  .left
   have Ko:i=xs.length:=by lia
   subst Ko;rw[UT,show forM t is f rs []=ay rs >>= λ_=>pure .nx from rfl,ae,bS,ak]at w;obtain⟨_,G⟩:=s c v l y w.1;show⟨G _ (hY _),w.2 c rfl v (n1.toNs.trans l) kc⟩
 .show(aQ.mp r).elim
end
section
def Ok.mod(b:Ok C c)(n:Ns c0 c)(hk:k.root=bD)(y:c.st[i]?=a5 (a5 (k,u)))(D:c.σ[i]?=a5 (a5 (.ref r)))(F9:∀a,a≠r->H' a=c.H a)(hr:∃o,H' r=a5 o)
  (new:Mv c.S c.H c.S H'->cn C c.S H' r u'):Ok C {c with H:=H',st:=c.st.set i (a5 (k,u'))}/\Ns c0 {c with H:=H',st:=c.st.set i (a5 (k,u'))}:=by
 have IQ:c.R1 r:=⟨i,k,u,hk,y,D⟩
 have hR:c.R r:=.inl IQ;have⟨I,q2,q3,o,ho,JX⟩:=b.root hR;have J:i<c.st.length:=(eH.mp y).1;have m:∀{a:fS} {o':HO},a≠r->c.H a=a5 o'->H' a=a5 o':=λL e=>by rw[F9 _ L];show e
 have G:Mv c.S c.H c.S H':=⟨λ_ z=>z,λa o' e t=>m (λz=>by subst z;rw[ho]at e;cases e;show JX t) e,λa o' z e=>m (λd=>I (d▸z)) e⟩
 have IG:Mv (PS C c.S) c.H (PS C c.S) H':=⟨λ_ z=>z,G.Kp,λa o' z e=>m (λd=>by subst d;show z.elim q2 I) e⟩
 have N:∀(j:Nat) k' w,(c.st.set i (a5 (k,u')))[j]?=a5 (a5 (k',w))->j≠i->c.st[j]?=a5 (a5 (k',w)):=λj k' w e L=>by rw[hE (qs L)]at e;show e
 have f:∀(j:Nat) k' w,k'.root=bD->(c.st.set i (a5 (k,u')))[j]?=a5 (a5 (k',w))->∃O,c.st[j]?=a5 (a5 (k',O)):=λj k' w _ e=>by
  by_cases p:j=i
  .subst p;rw[ez J]at e;cases e;show⟨u,y⟩
  .show⟨w,N j k' w e p⟩
 have b1:∀a,({c with H:=H',st:=c.st.set i (a5 (k,u'))}:Cf).R1 a->c.R1 a:=λa Fi=>by
  have⟨j,k',w,g,h,l⟩:=Fi;have⟨O,Q⟩:=f j k' w g h;show⟨j,k',O,g,Q,l⟩
 have dD:∀(j:Nat) (w:U),(c.st.set i (a5 (k,u')))[j]?=a5 (a5 (.B',w))->c.st[j]?=a5 (a5 (.B',w)):=λj w e=>by
  by_cases p:j=i
  .subst p;rw[ez J]at e;cases e;cases hk
  .show N j .B' w e p
 have IM:HD C {c with H:=H',st:=c.st.set i (a5 (k,u'))}:=b.dd.of rfl (λj w e=>⟨dD j w e,rfl⟩) (λa z=>.inl (b1 a z)) G λj a z=>⟨(b.root (.inr ⟨j,z⟩)).1,λo' e=>m (λd=>b.dd.d1 j a z (d▸IQ)) e⟩
 show⟨⟨λa o' e z=>?_,λa z=>?_,b.par,λa z=>?_,by simp[b.len],λj k' w e=>?_,λj1 j2 k1 k2 w1 w2 q g s h l T e4=>?_,IM⟩,n.trans ⟨λa o' e z=>m (λd=>z (d▸hR)) e,λa o' e=>?_,λa z=>?_,λ_ z=>z,λ_ z=>.inl z⟩⟩
 .have g:=b.same a o' e z;show m (λd=>?_) g;subst d;rcases q3 with q3|q3
  .rw[e]at q3;cases q3
  .show z q3
 .have⟨g,o',s⟩:=b.Gi a z;show⟨g,o',m (λd=>I (d▸z)) s⟩
 .have⟨g,o',s⟩:=b.io a z;show⟨g,?_⟩;by_cases A:a=r
  .subst A;show hr
  .show⟨o',m A s⟩
 .by_cases p:j=i
  .subst p;rw[ez J]at e;cases e;have⟨v,h,l⟩:=b.sl j _ _ y;rw[D]at h;cases h;show⟨.ref r,D,?_⟩;have nr:=new G;cases k with
   |own=>obtain⟨q,x,B,Y,z3,_⟩:=l;cases x;show⟨r,rfl,B,Y,z3,nr⟩
   |io=>obtain⟨q,x,B,Y,z3,_⟩:=l;cases x;show⟨r,rfl,B,Y,z3,nr⟩
   |_=>cases hk
  .have e0:=N j k' w e p;have⟨v,h,l⟩:=b.sl j k' w e0;show⟨v,h,l.mv G IG λFt q x=>?_⟩;obtain⟨Kr,F_,B,_⟩:=l.rt Ft;rw[x]at F_;cases F_;show⟨B,λo' e=>m (λz=>?_) e⟩;subst z;show p (b.inj j i k' k w u q Ft hk e0 y (by rw[h,x]) D)
 .have⟨MF,Q⟩:=f j1 k1 w1 g h;have⟨PZ,a2⟩:=f j2 k2 w2 s l;show b.inj j1 j2 k1 k2 MF PZ q g s Q a2 T e4
 .by_cases A:a=r
  .subst A;show hr
  .show⟨o',m A e⟩
 .rcases z with z|⟨j,w,q,h,l,T⟩
  .show .inl (.inl (b1 a z))
  .show .inl (.inr ⟨j,w,q,dD j w h,l,T⟩)
def fc{f:U->Option U}{st:av}(h:W (modS i f) st Q):∃k u u',k.root=bD/\st[i]?=a5 (a5 (k,u))/\f u=a5 u'/\Q () (st.set i (a5 (k,u'))):=by
 obtain⟨_,st',e,q⟩:=h;unfold modS at e;split at e
 .rename_i k u hs;split at e
  .rename_i hk;cases a:f u with
   |none=>rw[a]at e;cases e
   |some u'=>rw[a]at e;cases e;show⟨k,u,u',hk,hs,a,q⟩
  .cases e
 .cases e
def cD{st:av}(h:W (cJ i) st Q):∃k u,k≠.B'/\st[i]?=a5 (a5 (k,u))/\Q (if k.root=bD then .bor i else k,u) st:=by
 have⟨r,st',e,q⟩:=h;unfold cJ at e;split at e
 .cases e
 .rename_i k u a hs;cases e;show⟨k,u,λz=>a z,hs,q⟩
 .cases e
def De(Q:C.K=X.K)(T:X.N[i]?=a5 x)(Y:GB X.env.scope x)(hd:(x==("__debug__":Str))=c2)(Fq:(x==("__classdict__":Str))=c2)(ha:PE X a (E4 C ma))
  (Gg:((E1 cpos (i7 [a] X.env)).all (λx=>!x.1)&&(M9 cpos (KC [] X.env)).all (λx=>x.1.isSome)
   && dV ([a].length+([]:List J5).length+(if ([]:List J5).isEmpty then 0 else 1)<30))=bD)
  (Fc:(b.endLine==cpos.line)=bD) (o:i7 [a] X.env=[(c2,D3 a X.env)]) :
  L2.PS X (.Expr (.Call (.Attribute (.Name x px) "append" b) [a] [] cpos) pos) (FC C ns (cJ i >>= λx=>IL x.2 >>= λ_=>ma >>= λr=>lift r >>= λu=>modS i (uY u) >>= λ_=>pure .nx)):=by
 show PS.weak (eX (qz PySem.F.plainAttrs_list PySem.F.slot_list_append PySem.F.type_list_append kL (bB T Y hd Fq) (dR ha gQ o) rfl Gg Fc o rfl)) ?_;rintro D σ H ⟨c0,rfl,rfl,f,h⟩;rw[ae]at h;have⟨k0,p,Hz,s,h⟩:=cD h;have⟨y,l,m⟩:=f.sl i k0 p s;show⟨y,l,?_⟩;cases p with
 |lst A =>
  rw[ae,show IL (U.lst A)=pure () from rfl,ak]at h;have Lv:aC C c0 c0 (if k0.root=bD then .bor i else k0) (.lst A) y:=by
   by_cases hk:k0.root=bD
   .rw[Wq hk];show⟨⟨k0,hk,s⟩,l⟩
   .rw[Ws hk];cases k0 with
    |loc=>show m
    |any=>show m
    |bor j=>show m.elim
    |B'=>show(Hz rfl).elim
    |_=>show absurd rfl hk
  obtain⟨g,Ks,n,Ke,_⟩:=Lv.list f;show⟨by rw[n];show .inl ⟨rfl,Ks,Q▸Ke⟩,?_⟩;show aF f h λr c v t w=>?_;rw[ae]at w;obtain⟨S',st',u,sS,B,n1,d,G,_,_⟩:=e_ f t.ok t.nx t.rx.w w;rw[ae]at G;have⟨k,u1,u2,hk,hs,e,q⟩:=fc G;have I:c.σ[i]?=a5 (a5 (.ref g)):=by rw[t.hσ,l,n]
  cases u1 with
  |lst ys =>
   simp only[uY]at e;split at e
   .rename_i hz;cases e;have⟨v',e1,e2⟩:=B.sl i k (.lst ys) hs;have J:c.σ[i]?=a5 (a5 v'):=e1;rw[I]at J;cases J;obtain⟨r',er,_,_,_,ws,hw,L⟩:=e2.rt hk;cases er;have MG:c.H g=a5 (.lst ws):=hw;show⟨g,ws,v,n,rfl,MG,by rw[<-L.len];show hz,?_⟩;rw[ak]at q;have⟨Fe,n2⟩:=Ok.mod (c:={c with S:=S',st:=st' }) (H':=upd c.H g (.lst (ws++[v]))) (u':=.lst (ys++[u])) B n1.toNs hk hs I (λa ne=>aj ne) ⟨_,au⟩ λO=>⟨ws++[v],au,(L.mv O).snoc (d.mv O)⟩
    have z:=q _ rfl Fe n2 (Kept.of t.hσ);rw[<-t.hσ];show z
   .cases e
  |_=>cases e
 |_=>rw[ae]at h;show(aQ.mp h).elim
def Df(A:C.K=X.K)(hN:X.N[i]?=a5 x)(hv:GB X.env.scope x)(hd:(x==("__debug__":Str))=c2)(Fq:(x==("__classdict__":Str))=c2)(ha:PE X a (E4 C ma))
  (Gg:((E1 cpos (i7 [a] X.env)).all (λx=>!x.1)&&(M9 cpos (KC [] X.env)).all (λx=>x.1.isSome)
   && dV ([a].length+([]:List J5).length+(if ([]:List J5).isEmpty then 0 else 1)<30))=bD)
  (Fc:(f.endLine==cpos.line)=bD) (B:i7 [a] X.env=[(c2,D3 a X.env)]) :
  L2.PS X (.Expr (.Call (.Attribute (.Name x px) "extend" f) [a] [] cpos) pos) (FC C ns (cJ i >>= λx=>IL x.2 >>= λ_=>ma >>= λr=>modS i (gY r) >>= λ_=>pure .nx)):=by
 show PS.weak (eX (qz PySem.F.plainAttrs_list PySem.F.slot_list_extend PySem.F.type_list_extend pz (bB hN hv hd Fq) (dR ha gQ B) rfl Gg Fc B rfl)) ?_;rintro D σ H ⟨c0,rfl,rfl,g,h⟩;rw[ae]at h;have⟨k0,G,Hz,I,h⟩:=cD h;have⟨J,l,m⟩:=g.sl i k0 G I;show⟨J,l,?_⟩;cases G with
 |lst L =>
  rw[ae,show IL (U.lst L)=pure () from rfl,ak]at h;have Lv:aC C c0 c0 (if k0.root=bD then .bor i else k0) (.lst L) J:=by
   by_cases hk:k0.root=bD
   .rw[Wq hk];show⟨⟨k0,hk,I⟩,l⟩
   .rw[Ws hk];cases k0 with
    |loc=>show m
    |any=>show m
    |bor j=>show m.elim
    |B'=>show(Hz rfl).elim
    |_=>show absurd rfl hk
  obtain⟨n,Ks,o,Ke,_⟩:=Lv.list g;show⟨by rw[o];show .inl ⟨rfl,Ks,A▸Ke⟩,?_⟩;show aF g h λr c v t w=>?_;rw[ae]at w;have⟨k,p,u2,hk,hs,d,q⟩:=fc w;have O:c.σ[i]?=a5 (a5 (.ref n)):=by rw[t.hσ,l,o]
  have⟨rk,ru⟩:=r;have s:∃ys e b vs,p=.lst ys/\v=.ref b/\(Fj C.K c.H b vs\/FH C.K c.H b vs)/\ah C c.S c.H e vs/\ys.length+e.length<=df/\u2=.lst (ys++e):=by
   cases ru with
   |lst e =>
    cases p with
    |lst ys =>
     simp only[gY]at d;split at d
     .rename_i hz;cases d;have⟨b,vs,ev,u,y⟩:=t.rx.list t.ok;show⟨_,_,b,vs,rfl,ev,.inl u,cu hz.2 y,hz.1,rfl⟩
     .cases d
    |_=>simp[gY]at d
   |tup e =>
    cases p with
    |lst ys =>
     simp only[gY]at d;split at d
     .rename_i hz;cases d;have⟨b,vs,ev,u,y⟩:=t.rx.tuple t.ok;show⟨_,_,b,vs,rfl,ev,.inr u,cu hz.2 y,hz.1,rfl⟩
     .cases d
    |_=>simp[gY]at d
   |_=>simp[gY]at d
  have⟨ys,e,b,vs,rfl,rfl,hB,hz,hl,rfl⟩:=s;have⟨v',Q,e2⟩:=t.ok.sl i k (.lst ys) hs;rw[O]at Q;cases Q;obtain⟨r',er,_,_,_,ws,hw,T⟩:=e2.rt hk;cases er;show⟨n,b,ws,vs,o,rfl,hw,A▸hB,by rw[<-T.len,<-hz.len];show hl,?_⟩;rw[ak]at q;have⟨Fe,n2⟩:=Ok.mod (c:=c) (H':=upd c.H n (.lst (ws++vs))) (u':=.lst (ys++e)) t.ok t.nx.toNs hk hs O (λa ne=>aj ne) ⟨_,au⟩ λY=>⟨ws++vs,au,(T.mv Y).append (hz.mv Y)⟩
  have z:=q _ rfl Fe n2 (Kept.of t.hσ);rw[<-t.hσ];show z
 |_=>rw[ae]at h;show(aQ.mp h).elim
def lR.or(h:lR X t)(h':lR X t'):lR X (λo i v H Q=>t o i v H Q\/t' o i v H Q):=λa s σ H o i v b c u Q I d e f q =>
 q.elim (h a s σ H o i v b c u Q I d e f) (h' a s σ H o i v b c u Q I d e f)
def set_dict(c:X.A.units+1<Hg):lR X (λo i v H Q=>∃a H',o=.ref a/\su H a i v H'/\Q H'):=by
 rintro b s σ H o i v h j u Q I d e rv ⟨a,H',rfl,g,q⟩;cases d;show sv c I g e rv λs' f=>⟨H',f,q⟩
def vA{S:fS->Prop}{kvs:List (Key×V)}(a:kvs.map (·.1)=ks.map ko)(c:ah C S H us (kvs.map (·.2)))(d:Rep C S H u v):
  (putK kvs (ko y) v).map (·.1)=(dput ks us y u).1.map ko/\ah C S H (dput ks us y u).2 ((putK kvs (ko y) v).map (·.2)):=by
 have e:(kvs.any λkv=>dV (kv.1=(ko y:Key)))=dV (y∈ks):=by
  rw[gf];show(bL (x:=y) a c).2
 unfold putK dput;rw[e];by_cases b:y∈ks
 .rw[Wq (by simpa using b),Wq b];constructor
  .rw[ro];rw[<-a];apply IY;intro p _;change(if p.1=ko y then(p.1,v) else p).1=p.1;split<;>rfl
  .clear e b;induction kvs generalizing ks us with
   |nil =>
    have:ks=[]:=by simpa using a.symm
    subst this;simp[ah]
   |cons p kvs g =>
    cases ks with
    |nil=>simp at a
    |cons k ks =>
     cases us with
     |nil=>simp[ah]at c
     |cons j us =>
      rw[gj,gj,Lj]at a;have⟨l,m,f,h,i⟩:=c;rw[gj]at f;cases f;rw[gj,Mh,gj,gj];show⟨_,_,rfl,?_,g a.2 i⟩;by_cases hk:k=y
      .rw[Wq (by show hk),Wq (by rw[a.1,hk])];show d
      .rw[Ws (by show hk),Ws (by rw[a.1];intro z;show hk (OD z))];show h
 .rw[Ws (by simpa using b),Ws b];show⟨by rw[mA,a,mA];rfl,by rw[mA];show c.snoc d⟩
def Dg(hP:C.P=X.prog)(hw:C.w=X.w)(hK:C.K=X.K)(hu:X.A.units+60<Hg)(hN:X.N[i]?=a5 x)(hv:GB X.env.scope x)(hd:(x==("__debug__":Str))=c2)(Fq:(x==("__classdict__":Str))=c2)
  (ha:PE X a (E4 C ma)) (hb:PE X b (E4 C mb)) (hs:LV [.Subscript (.Name x G) b p] a pos.line X.env=pure c2) (OB:O_ [.Subscript (.Name x G) b p] a X.env=pure b5)
  (Q:∀v,M_ (.Subscript (.Name x G) b p) X.env v=(do
   let I <-Jb [v] (D3 (.Name x G) X.env)
   let T <-Jb [v,I] (D3 b X.env)
   R5 p
   Jb [v,I,T] (NG I T v)
   Qw [v,I,T] [])) :
  L2.PS X (.Assign [.Subscript (.Name x G) b p] a pos) (FC C ns (ma >>= λr=>cJ i >>= λ_=>mb >>= λx=>cI [r,x] >>= λus=>modS i (qQ us) >>= λ_=>pure .nx)):=by
 show PS.weak (oO ha (ua (bB hN hv hd Fq) hb (lR.or set_list (set_dict (X:=X) ⋯)) Q) hs OB rfl) ?_;rintro D σ H ⟨c0,rfl,rfl,ok,h⟩;show aF ok h λr c v t w=>?_;rw[ae]at w;have⟨k0,u0,Hz,Gn,w⟩:=cD w;have⟨v0,e0,Hm⟩:=t.ok.sl i k0 u0 Gn;show⟨v0,by rw[<-t.hσ];show e0,?_⟩;rw[ae]at w;show⟨c,t.hσ,rfl,t.ok,w.mono λy st2 w2 f m J e4 Fe n2 r2=>?_⟩;subst e4;rw[ae]at w2;have OC:=t.nx.trans n2;have Y:bY C c0 f [r,y] [v,m]:=⟨v,[m],rfl,t.rx.w.on t.ok n2 (J.trans t.hσ.symm),⟨m,[],rfl,(r2.w).from t.nx,rfl,λ_ i r' v' e _=>by simp at e⟩,λhk i r' v' e5 e6 Ft=>by
  cases i with
  |zero=>simp at e5 e6;subst e5 e6;show mJ t.rx.w r2.w hk Ft
  |succ i=>simp at e5⟩
 have⟨S',st',us,sS,E3,n1,g,w1⟩:=gB ok Fe OC Y w2;rw[ae]at w1;have⟨k,L,u2,hk,GF,d,q⟩:=fc w1;rw[ak]at q;have hσ:f.σ[i]?=a5 (a5 v0):=by rw[J,<-t.hσ];show e0
 have⟨v',e1,e2⟩:=E3.sl i k L GF;have FF:f.σ[i]?=a5 (a5 v'):=e1;rw[hσ]at FF;cases FF;have⟨n,er,z1,z2,z3,l⟩:=e2.rt hk;subst er;have Sv:({f with S:=S',st:=st' }:Cf).σ[i]?=a5 (a5 (.ref n)):=hσ;obtain⟨MF,ws,ew,P0,PZ,Ua,Ub,P1,Sw⟩:∃u ws,us=[u,ws]/\Rep C S' f.H u v/\∃(_:Unit) (_:Unit),True/\Rep C S' f.H ws m/\True:=by
  cases us with
  |nil=>simp[ah]at g
  |cons u us =>
   obtain⟨_,_,e,q1,q2⟩:=g;cases e;cases us with
   |nil=>simp[ah]at q2
   |cons u' us =>
    obtain⟨_,_,e,q3,q4⟩:=q2;cases e;cases us with
    |nil=>show⟨u,u',rfl,q1,(),(),trivial,q3,trivial⟩
    |cons _ _=>obtain⟨_,_,e,_⟩:=q4;cases e
 subst ew;rw[show qQ [MF,ws] L=dI ws MF L from rfl]at d;have s:∀{H':Hp} ,(∀a,a≠n->H' a=f.H a)->(∃o,H' n=a5 o)->(Mv S' f.H S' H'->cn C S' H' n u2)->D.nx c0.σ H':=λ{H'} F9 hr new=>by
  have⟨Gy,n3⟩:=Ok.mod (c:={f with S:=S',st:=st' }) (H':=H') (u':=u2) E3 n1.toNs hk GF Sv F9 hr new;have z:=q _ rfl Gy n3 (Kept.of J);rw[<-J];show z
 cases L with
 |lst xs =>
  cases ws with
  |int j =>
   simp only[dI,fx]at d;have⟨j',hj,rfl⟩:=d;have⟨vs,h1,B⟩:=l;have ey:m=.int j:=P1;show .inl ⟨n,vs,j,j',rfl,ey,h1,by rw[<-B.len];show hj,?_⟩;show s (λa ne=>aj ne) ⟨_,au⟩ λO=>⟨vs.set j' v,au,(B.mv O).set j' (P0.mv O)⟩
  |_=>simp[dI]at d
 |EX ks vs =>
  cases ws with
  |str y' =>
   simp only[dI]at d;split at d
   .rename_i hz;cases d;have⟨kvs,h1,B,h3⟩:=l;have ey:m=.str y':=P1;subst ey;have hl:kvs.length=ks.length:=by have:=Wv D' B;simpa using this
    show .inr ⟨n,_,rfl,su.k (k:=ko y') h1 (by rw[hl];show hz),?_⟩;show s (λa ne=>aj ne) ⟨_,au⟩ λO=>?_;have⟨g1,g2⟩:=vA (y:=y') B h3 P0;show⟨_,au,g1,g2.mv O⟩
   .cases d
  |_=>simp[dI]at d
 |_=>simp[dI]at d
def Ok.slot(d:Ok C c)(e:k≠.B')(hs:c.st[i]?=a5 (a5 (k,u))):∃v,c.σ[i]?=a5 (a5 v)/\aC C c c (if k.root=bD then .bor i else k) u v:=by
 have⟨f,b,a⟩:=d.sl i k u hs;show⟨f,b,?_⟩;by_cases hk:k.root=bD
 .rw[Wq hk];show⟨⟨k,hk,hs⟩,b⟩
 .rw[Ws hk];cases k with
  |loc=>show a
  |any=>show a
  |bor j=>show a.elim
  |B'=>show(e rfl).elim
  |_=>show absurd rfl hk
end
section
def Ok.Dh(d:Ok C c)(n:Ns c0 c)(O:c.st[i]?=a5 (a5 (.B',u)))(B:c.σ[i]?=a5 (a5 (.ref r)))(F9:∀a,¬c.RD i a->H' a=c.H a)(Q:∀a o,c.H a=a5 o->∃o',H' a=a5 o')
  (new:Mv c.S c.H c.S H'->bC C c.S H' r as' u') (T:∀a∈as',a∈c.kid i\/(¬c.R a/\c0.H a=b5)) :
  Ok C {c with H:=H',st:=c.st.set i (a5 (.B',u')),kid:=λj=>if j=i then as' else c.kid j}/\Ns c0 {c with H:=H',st:=c.st.set i (a5 (.B',u')),kid:=λj=>if j=i then as' else c.kid j}:=by
 have Y:i<c.st.length:=(eH.mp O).1;have rt:∀{a},c.RD i a->¬c.S a/\¬C.G4 a/\(C.H₀ a=b5\/C.IO a)/\∃o,c.H a=a5 o/\¬Tp o:=λz=>d.root (.inr ⟨i,z⟩);have h0:∀{a},c.RD i a->C.H₀ a=b5\/C.IO a:=λ⟨u1,r1,g,b,e3⟩=>(bC.fr (d.dd.kd i u1 r1 g b) _ (gs.mpr e3)).2.2;have q:∀{a:fS} {o:HO},¬c.RD i a->c.H a=a5 o->H' a=a5 o:=λz e=>by rw[F9 _ z];show e
 have N:Mv c.S c.H c.S H':=⟨λ_ z=>z,λa o e t=>q (λz=>by
  obtain⟨_,_,_,o',l,nt⟩:=rt z;rw[e]at l;cases l;show nt t) e,λa o z e=>q (λm=>(rt m).1 z) e⟩
 have IG:Mv (PS C c.S) c.H (PS C c.S) H':=⟨λ_ z=>z,N.Kp,λa o z e=>q (λm=>z.elim (rt m).2.1 (rt m).1) e⟩
 have D:∀(j:Nat) k w,(c.st.set i (a5 (.B',u')))[j]?=a5 (a5 (k,w))->j≠i->c.st[j]?=a5 (a5 (k,w)):=λj k w e ne=>by rw[hE (qs ne)]at e;show e
 have JZ:∀(j:Nat) k w,k.root=bD->(c.st.set i (a5 (.B',u')))[j]?=a5 (a5 (k,w))->c.st[j]?=a5 (a5 (k,w)):=λj k w hk e=>by
  by_cases f:j=i
  .subst f;rw[ez Y]at e;cases e;cases hk
  .show D j k w e f
 have b1:∀a,({c with H:=H',st:=c.st.set i (a5 (.B',u')),kid:=λj=>if j=i then as' else c.kid j}:Cf).R1 a->c.R1 a:=λa ⟨j,k,w,hk,g,b⟩=>⟨j,k,w,hk,JZ j k w hk g,b⟩
 have G:∀j a,({c with H:=H',st:=c.st.set i (a5 (.B',u')),kid:=λj=>if j=i then as' else c.kid j}:Cf).RD j a->c.RD j a\/(j=i/\¬c.R a/\c0.H a=b5):=λj a Fi=>by
  have⟨w,h,g,b,e3⟩:=Fi;by_cases f:j=i
  .subst f;have I:c.σ[j]?=a5 (a5 (.ref h)):=b;rw[B]at I;cases I;rcases e3 with rfl|e3
   .show .inl ⟨u,_,O,B,.inl rfl⟩
   .have Il:a∈as':=by simpa using e3
    rcases T a Il with z|z
    .show .inl ⟨u,_,O,B,.inr z⟩
    .show .inr ⟨rfl,z⟩
  .have Il:a=h\/a∈c.kid j:=by simpa[f] using e3
   show .inl ⟨w,h,D j _ w g f,b,Il⟩
 show⟨⟨λa o e z=>q (λm=>(h0 m).elim (λy=>by rw[y]at e;cases e) z) (d.same a o e z),λa z=>?_,d.par,λa z=>?_,by simp[d.len],λj k w e=>?_,λx s k1 k2 w1 w2 h h1 h2 g b e3 e4=>d.inj x s k1 k2 w1 w2 h h1 h2 (JZ x k1 w1 h1 g) (JZ s k2 w2 h2 b) e3 e4,⟨λj w h g b=>?_,λx s a J L=>?_,λj a J L=>?_⟩⟩,⟨λa o e z=>?_,λa o e=>?_,λa z=>?_,n.sub,n.new⟩⟩
 .have⟨q1,o,q2⟩:=d.Gi a z;show⟨q1,Q a o q2⟩
 .have⟨q1,o,q2⟩:=d.io a z;show⟨q1,Q a o q2⟩
 .by_cases f:j=i
  .subst f;rw[ez Y]at e;cases e;show⟨.ref r,B,r,rfl⟩
  .have⟨v,g,b⟩:=d.sl j k w (D j k w e f);show⟨v,g,b.mv N IG λhk h er=>?_⟩;obtain⟨Kr,F_,J,_⟩:=b.rt hk;rw[er]at F_;cases F_;show⟨J,λo l=>q (λz=>d.dd.d1 i h z ⟨j,k,w,hk,D j k w e f,by rw[g,er]⟩) l⟩
 .by_cases f:j=i
  .subst f;rw[ez Y]at g;cases g;have I:c.σ[j]?=a5 (a5 (.ref h)):=b;rw[B]at I;cases I;have z:=new N;simpa using z
  .have FF:=D j _ w g f;have Ft:(if j=i then as' else c.kid j)=c.kid j:=Ws f;change bC C c.S H' h (if j=i then as' else c.kid j) w;rw[Ft];show bC.mv N (λa ha=>⟨(d.root (.inr ⟨j,w,h,FF,b,gs.mp ha⟩)).1,λo l=>q (λz=>f (d.dd.dj j i a ⟨w,h,FF,b,gs.mp ha⟩ z)) l⟩) (d.dd.kd j w h FF b)
 .rcases G x a J with p|⟨rfl,p,_⟩
  .rcases G s a L with A|⟨rfl,A,_⟩
   .show d.dd.dj x s a p A
   .show(A (.inr ⟨x,p⟩)).elim
  .rcases G s a L with A|⟨rfl,A,_⟩
   .show(p (.inr ⟨s,A⟩)).elim
   .rfl
 .rcases G j a J with p|⟨rfl,p,_⟩
  .show d.dd.d1 j a p (b1 a L)
  .show p (.inl (b1 a L))
 .show q (λm=>by
   rcases n.roots a (.inr ⟨i,m⟩) with y|y
   .show z y
   .rw[e]at y;cases y) (n.keep a o e z)
 .have⟨o',l⟩:=n.there a o e;show Q a o' l
 .rcases z with z|⟨j,z⟩
  .show n.roots a (.inl (b1 a z))
  .rcases G j a z with y|⟨_,_,y⟩
   .show n.roots a (.inr ⟨j,y⟩)
   .show .inr y
def Ok.newD(l:Ok C c)(B:c.H p=b5)(u:i<c.σ.length):
  Ok C {c with H:=upd c.H p (.dK []),σ:=c.σ.set i (a5 (.ref p)),st:=c.st.set i (a5 (.B',.EX [] [])),kid:=λj=>if j=i then [] else c.kid j}/\Ns c {c with H:=upd c.H p (.dK []),σ:=c.σ.set i (a5 (.ref p)),st:=c.st.set i (a5 (.B',.EX [] [])),kid:=λj=>if j=i then [] else c.kid j}:=by
 have⟨n,Y⟩:=l.lay (o:=.dK []) B;have⟨q1,q2,q3,q4,D⟩:=l.iM B;have G:i<c.st.length:=by rw[l.len];show u
 have x:∀(j:Nat) k w,(c.st.set i (a5 (.B',.EX [] [])))[j]?=a5 (a5 (k,w))->j≠i->c.st[j]?=a5 (a5 (k,w)):=λj k w e I=>by rw[hE (qs I)]at e;show e
 have q:∀(j:Nat),j≠i->(c.σ.set i (a5 (.ref p)))[j]?=c.σ[j]?:=λj I=>hE (qs I);have J:∀(j:Nat) k w,k.root=bD->(c.st.set i (a5 (.B',.EX [] [])))[j]?=a5 (a5 (k,w))->j≠i/\c.st[j]?=a5 (a5 (k,w)):=λj k w hk e=>by
  by_cases b:j=i
  .subst b;rw[ez G]at e;cases e;cases hk
  .show⟨b,x j k w e b⟩
 have L:∀a,({c with H:=upd c.H p (.dK []),σ:=c.σ.set i (a5 (.ref p)),st:=c.st.set i (a5 (.B',.EX [] [])),kid:=λj=>if j=i then [] else c.kid j}:Cf).R1 a->c.R1 a:=λa N=>by
  have⟨j,k,w,hk,d,f⟩:=N;have⟨b,O⟩:=J j k w hk d;show⟨j,k,w,hk,O,by rw[<-q j b];show f⟩
 have r:∀j a,({c with H:=upd c.H p (.dK []),σ:=c.σ.set i (a5 (.ref p)),st:=c.st.set i (a5 (.B',.EX [] [])),kid:=λj=>if j=i then [] else c.kid j}:Cf).RD j a->(j≠i/\c.RD j a)\/(j=i/\a=p):=λj a N=>by
  have⟨w,g,d,f,e3⟩:=N;by_cases b:j=i
  .subst b;have s:(c.σ.set j (a5 (.ref p)))[j]?=a5 (a5 (.ref g)):=f;rw[ez u]at s;cases s;rcases e3 with rfl|e3
   .show .inr ⟨rfl,rfl⟩
   .simp at e3
  .have Il:a=g\/a∈c.kid j:=by simpa[b] using e3
   show .inl ⟨b,w,g,x j _ w d b,by rw[<-q j b];show f,Il⟩
 show⟨⟨n.same,n.Gi,n.par,n.io,by simp[l.len],λj k w e=>?_,λm h k1 k2 w1 w2 g h1 h2 d f e3 e4=>?_,⟨λj w g d f=>?_,λm h a Q t=>?_,λj a Q t=>?_⟩⟩,⟨Y.keep,Y.there,λa z=>?_,λ_ z=>z,λ_ z=>.inl z⟩⟩
 .by_cases b:j=i
  .subst b;rw[ez G]at e;cases e;show⟨.ref p,ez u,p,rfl⟩
  .have⟨v,d,f⟩:=n.sl j k w (x j k w e b);show⟨v,(q j b).trans d,f⟩
 .have⟨Ku,a1⟩:=J m k1 w1 h1 d;have⟨J0,a2⟩:=J h k2 w2 h2 f;show l.inj m h k1 k2 w1 w2 g h1 h2 a1 a2 ((q m Ku).symm.trans e3) ((q h J0).symm.trans e4)
 .by_cases b:j=i
  .subst b;rw[ez G]at d;cases d;have s:(c.σ.set j (a5 (.ref p)))[j]?=a5 (a5 (.ref g)):=f;rw[ez u]at s;cases s;change bC C c.S (upd c.H p (.dK [])) p (if j=j then [] else c.kid j) (.EX [] []);rw[Wq rfl];show⟨[],au,rfl,rfl,by simp,λa ha=>by rw[js.mp ha];show⟨q2,q3,q1⟩,rfl⟩
  .have O:=x j _ w d b;have z:=n.dd.kd j w g O ((q j b).symm.trans f);change bC C c.S (upd c.H p (.dK [])) g (if j=i then [] else c.kid j) w;rw[Ws b];show z
 .rcases r m a Q with⟨_,A⟩|⟨rfl,rfl⟩
  .rcases r h a t with⟨_,T⟩|⟨rfl,rfl⟩
   .show l.dd.dj m h a A T
   .show(D (.inr ⟨m,A⟩)).elim
  .rcases r h a t with⟨_,T⟩|⟨rfl,_⟩
   .show(D (.inr ⟨h,T⟩)).elim
   .rfl
 .rcases r j a Q with⟨_,A⟩|⟨rfl,rfl⟩
  .show l.dd.d1 j a A (L a t)
  .show D (.inl (L a t))
 .rcases z with z|⟨j,z⟩
  .show .inl (.inl (L a z))
  .rcases r j a z with⟨_,y⟩|⟨_,rfl⟩
   .show .inl (.inr ⟨j,y⟩)
   .show .inr B
end
section
theorem cP.rep{S S':fS->Prop}(hs:∀a,S a->S' a):∀{us:List U}{as:List fS},(∀a∈as,S' a)->cP C S H us as->ah C S' H us (as.map V.ref)
 |[],as,_,h=>by cases h;show rfl
 |u::us,as,c,h=>by
  have⟨a,as',ys,vs,rfl,rfl,d,e,f⟩:=h;show⟨.ref a,as'.map V.ref,rfl,⟨a,vs,rfl,⟨c a (by simp),d⟩,e.mv (.up hs)⟩,cP.rep hs (λb g=>c b (by simp[g])) f⟩
def Ok.EI(b:Ok C c)(n:Nx c0 c)(B:∃ks us,u=.EX ks us)(Y:c.st[i]?=a5 (a5 (.B',u)))(s:c.σ[i]?=a5 (a5 (.ref r))):
  Ok C {c with S:=λa=>c.S a\/a∈c.kid i,st:=c.st.set i (a5 (.own,u))}/\Nx c0 {c with S:=λa=>c.S a\/a∈c.kid i,st:=c.st.set i (a5 (.own,u))}:=by
 have FL:i<c.st.length:=(eH.mp Y).1;have⟨ks,us,B⟩:=B;have rd:=b.dd.kd i u r Y s;have fr:=bC.N' (B▸rd);have mem:∀a,(a=r\/a∈c.kid i)->c.RD i a:=λa z=>⟨u,r,Y,s,z⟩
 have up:Mv c.S c.H (λa=>c.S a\/a∈c.kid i) c.H:=.up λa=>.inl;have Sx:Mv (PS C c.S) c.H (PS C λa=>c.S a\/a∈c.kid i) c.H:=.up λa z=>z.imp id .inl;have MH:r∉c.kid i/\cn C (λa=>c.S a\/a∈c.kid i) c.H r u:=by
  subst B;have⟨kvs,D,G,h3,h4,h5,h6⟩:=rd;show⟨(nC.mp h4).1,kvs,D,G,?_⟩;rw[h3];show h6.rep (λa=>.inl) λa I=>.inr I
 have p:∀(j:Nat) k w,(c.st.set i (a5 (.own,u)))[j]?=a5 (a5 (k,w))->j≠i->c.st[j]?=a5 (a5 (k,w)):=λj k w e ne=>by rw[hE (qs ne)]at e;show e
 have b1:∀a,({c with S:=λa=>c.S a\/a∈c.kid i,st:=c.st.set i (a5 (.own,u))}:Cf).R1 a->c.R1 a\/a=r:=λa Fi=>by
  have⟨j,k,w,hk,f,g⟩:=Fi;by_cases d:j=i
  .subst d;have Gu:c.σ[j]?=a5 (a5 (.ref a)):=g;rw[s]at Gu;cases Gu;show .inr rfl
  .show .inl ⟨j,k,w,hk,p j k w f d,g⟩
 have J:∀j a,({c with S:=λa=>c.S a\/a∈c.kid i,st:=c.st.set i (a5 (.own,u))}:Cf).RD j a->j≠i/\c.RD j a:=λj a Fi=>by
  have⟨w,h,f,g,t⟩:=Fi;by_cases d:j=i
  .subst d;rw[ez FL]at f;cases f
  .show⟨d,w,h,p j _ w f d,g,t⟩
 show⟨⟨b.same,λa z=>?_,b.par,b.io,by simp[b.len],λj k w e=>?_,λm l L N O Q h D G f g t e4=>?_,⟨λj w h f g=>?_,λm l a x z2=>b.dd.dj m l a (J m a x).2 (J l a z2).2,λj a x z2=>?_⟩⟩,⟨⟨n.keep,n.there,λa z=>?_,λa z=>.inl (n.sub a z),λa z=>?_⟩⟩⟩
 .rcases z with z|z
  .show b.Gi a z
  .obtain⟨o,ho,_⟩:=bC.there rd a (la _ z);show⟨(fr a (la _ z)).2.2,o,ho⟩
 .by_cases d:j=i
  .subst d;rw[ez FL]at e;cases e;have⟨q1,q2,q3⟩:=fr r (kl ..);show⟨.ref r,s,r,rfl,λz=>z.elim q1 MH.1,q2,q3,MH.2⟩
  .have⟨v,f,g⟩:=b.sl j k w (p j k w e d);show⟨v,f,g.mv up Sx λhk h er=>?_⟩;obtain⟨Kr,F_,x,_⟩:=g.rt hk;rw[er]at F_;cases F_;show⟨λz=>z.elim x λz=>b.dd.d1 i h (mem h (.inr z)) ⟨j,k,w,hk,p j k w e d,by rw[f,er]⟩,λo q=>q⟩
 .by_cases T:m=i
  .by_cases A:l=i
   .rw[T,A]
   .subst T;have Il:c.σ[m]?=a5 (a5 (.ref h)):=t;rw[s]at Il;cases Il;show(b.dd.d1 m r (mem r (.inl rfl)) ⟨l,N,Q,G,p l N Q g A,e4⟩).elim
  .by_cases A:l=i
   .subst A;have Ms:c.σ[l]?=a5 (a5 (.ref h)):=e4;rw[s]at Ms;cases Ms;show(b.dd.d1 l r (mem r (.inl rfl)) ⟨m,L,O,D,p m L O f T,t⟩).elim
   .show b.inj m l L N O Q h D G (p m L O f T) (p l N Q g A) t e4
 .by_cases d:j=i
  .subst d;rw[ez FL]at f;cases f
  .have FF:=p j _ w f d;show bC.mv up (λa I=>⟨λz=>z.elim (b.root (.inr ⟨j,w,h,FF,g,gs.mp I⟩)).1 λz=>d (b.dd.dj j i a ⟨w,h,FF,g,gs.mp I⟩ (mem a (.inr z))),λo q=>q⟩) (b.dd.kd j w h FF g)
 .have⟨d,y⟩:=J j a x;rcases b1 a z2 with z|z
  .show b.dd.d1 j a y z
  .subst z;show d (b.dd.dj j i a y (mem a (.inl rfl)))
 .rcases z with z|⟨j,z⟩
  .rcases b1 a z with z|rfl
   .show n.roots a (.inl z)
   .show n.roots a (.inr ⟨i,mem a (.inl rfl)⟩)
  .show n.roots a (.inr ⟨j,(J j a z).2⟩)
 .rcases z with z|z
  .show n.new a z
  .rcases n.roots a (.inr ⟨i,mem a (.inr z)⟩) with y|y
   .show .inr (.inl y)
   .show .inr (.inr y)
def yy(f:X.N[i]?=a5 x)(g:GB X.env.scope x)(j:(x==("__debug__":Str))=c2)(k:(x==("__classdict__":Str))=c2):PE X (.Name x pos) (E4 C (uV i)):=by
 have m:=mK (C:=C) (pos:=pos) f g j k;rintro b s σ H Q I ⟨c0,rfl,rfl,c,r,st',e,h⟩;unfold uV at e;split at e
 .rename_i ks us hs;cases e;have⟨v,d,l,rfl⟩:=c.sl i _ _ hs;have⟨n,o⟩:=c.EI (Nx.refl c0) ⟨_,_,rfl⟩ hs d;have p:i<c0.st.length:=(eH.mp hs).1;show bB f g j k b s c0.σ c0.H Q I ⟨.ref l,d,h {c0 with S:=λa=>c0.S a\/a∈c0.kid i,st:=c0.st.set i (a5 (.own,.EX ks us))} (.ref l) rfl rfl n o ⟨⟨.own,rfl,ez p⟩,d⟩⟩
 .show m b s c0.σ c0.H Q I ⟨c0,rfl,rfl,c,r,st',e,h⟩
end
section
def fe{st:av}(h:W (gz i) st Q):∃ks us,st[i]?=a5 (a5 (.B',.EX ks us))/\Q (ks,us) st:=by
 have⟨r,st',e,q⟩:=h;unfold gz at e;split at e
 .rename_i ks us hs;cases e;show⟨ks,us,hs,q⟩
 .cases e
def ff{st:av}(h:W (iN x) st Q):∃y,x.2=.str y/\Q y st:=by
 unfold iN at h;split at h
 .rename_i y e;rw[ak]at h;show⟨y,e,h⟩
 .show(aQ.mp h).elim
def Ok.EX(d:Ok C c)(f:c.st[i]?=a5 (a5 (.B',.EX ks us))):∃(r:fS) (kvs:List (Key×V)),c.σ[i]?=a5 (a5 (.ref r))/\c.H r=a5 (.dK kvs)/\kvs.map (·.1)=ks.map ko/\kvs.map (·.2)=(c.kid i).map V.ref /\
  (r::c.kid i).Nodup/\cP C c.S c.H us (c.kid i)/\(∀y:Str,(cU kvs (ko y)).isSome=dV (y∈ks))/\∀(y:Str) (u:U),cC ks us y=a5 u->∃v,cU kvs (ko y)=a5 v/\Rep C (λa=>c.S a\/a∈c.kid i) c.H u v:=by
 have⟨v,e,r,rfl⟩:=d.sl i _ _ f;have⟨kvs,k,b,g,l,n,h⟩:=d.dd.kd i _ r f e;have j:ah C (λa=>c.S a\/a∈c.kid i) c.H us (kvs.map (·.2)):=by rw[g];show h.rep (λa=>.inl) λa m=>.inr m
 show⟨r,kvs,e,k,b,g,l,h,λy=>(bL (x:=y) b j).2,λy=>(bL (x:=y) b j).1⟩
def nY{k:Str->List Str×List U->M β}{Post:β->av->Prop}{Z:V->V->Hp->Prop}(l:Ok C c0)(h:W (m >>= λx=>iN x >>= λy=>gz i >>= λd=>k y d) c0.st Post)
  (hz:∀(c:Cf) (y:Str) (ks:List Str) (us:List U) (r:fS) (kvs:List (Key×V)),c.σ=c0.σ->Ok C c->Nx c0 c->c.H r=a5 (.dK kvs)->(cU kvs (ko y)).isSome=dV (y∈ks)->W (k y (ks,us)) c.st Post->Z (.str y) (.ref r) c.H) :
  E4 C m c0.σ c0.H λv o=>∃b,c0.σ[i]?=a5 (a5 b)/\Z v b o:=by
 show⟨c0,rfl,rfl,l,?_⟩;rw[ae]at h;show W.mono h λx st' w c v f hs a n r=>?_;subst hs;have⟨t,u⟩:=x;rw[ae]at w;have⟨y,e,g⟩:=ff w;clear w
 dsimp only at e r
 subst e;have ev:v=.str y:=r.str a;subst ev;rw[ae]at g;have⟨ks,us,hs,w⟩:=fe g;obtain⟨j,kvs,p,q,_,_,_,_,s,_⟩:=a.EX hs;show⟨.ref j,by rw[<-f];show p,hz c y ks us j kvs f a n q (s y) w⟩
abbrev Bu(neg:Bool):CmpOp:=if neg=bD then .NotIn else .In
def Bv(d:∀j,ns j=bD->j≠i)(f:X.N.Nodup)(c:X.N[i]?=a5 x)(g:Loc X.env.scope x)(k:X.fn x=bD\/X.env.scope.names.lookup x=a5 .local)
  (hs:K8 (.Dict [] [] p) (a5 (.Name x a)) pos.line X.env=pure c2):L2.PS X (.Assign [.Name x a] (.Dict [] [] p) pos) (FC C ns (zy i >>= λ_=>pure .nx)):=by
 rintro b s σ H D I ⟨c0,rfl,rfl,l,h⟩;have m:i<c0.σ.length:=by rw[I.len];show(eH.mp c).1
 show oP f c g nE hs k b s c0.σ c0.H D I λq n=>?_;have⟨o,r⟩:=l.newD n m;rw[ae]at h;obtain⟨_,st',e,w⟩:=h;cases e;rw[ak]at w;show w _ rfl o r ⟨λj t=>hE (qs (d j t)),by simp⟩
end
section
def yz(G:X.A.units+60<Hg)(p:X.N[i]?=a5 x)(q:GB X.env.scope x)(t:(x==("__debug__":Str))=c2)(u:(x==("__classdict__":Str))=c2)(v:PE X a (E4 C D))(z:LX (Bu neg) (.Name x p2)=c2):
  PT X (.Compare a [Bu neg] [.Name x p2] pos) (F2 C (D >>= λx=>iN x >>= λy=>gz i >>= λd=>pure (Oc neg y d.1))):=by
 rintro e s σ H Q I ⟨c0,rfl,rfl,B,h⟩;cases neg with
 |false =>
  show t6 (AF ⋯ v (bB p q t u)) z e s c0.σ c0.H Q I (nY (Z:=λy x f=>∃a o,x=V.ref a/\dk f a y o/\∃b,V.bl o.isSome=.bl b/\Q b f) B h λc y ks us r kvs g j n l m w=>?_);rw[ak]at w;show⟨r,_,rfl,dk.k (k:=ko y) l,?_⟩;rw[m];show⟨_,rfl,w c g rfl j n⟩
 |true =>
  show t6 (sy ⋯ v (bB p q t u)) z e s c0.σ c0.H Q I (nY (Z:=λy x f=>∃a o,x=V.ref a/\dk f a y o/\∃b,V.bl (!o.isSome)=.bl b/\Q b f) B h λc y ks us r kvs g j n l m w=>?_);rw[ak]at w;show⟨r,_,rfl,dk.k (k:=ko y) l,?_⟩;rw[m];show⟨_,rfl,w c g rfl j n⟩
theorem cP.snoc{S:fS->Prop}{a:fS}(b:H a=a5 (.lst vs))(c:ah C S H ys vs):∀{us:List U}{as:List fS},cP C S H us as->cP C S H (us++[.lst ys]) (as++[a])
 |[],as,h=>by cases h;show⟨a,[],ys,vs,rfl,rfl,b,c,rfl⟩
 |u::us,as,h=>by
  have⟨d,as',f,g,rfl,e,i,j,k⟩:=h;show⟨d,as'++[a],f,g,rfl,e,i,j,cP.snoc b c k⟩
def pM{st:av}(h:W (jx i y r) st Q):∃us ks vs,r=(.own,.lst us)/\st[i]?=a5 (a5 (.B',.EX ks vs))/\y∉ks/\ks.length<df/\Q () (st.set i (a5 (.B',.EX (ks++[y]) (vs++[.lst us])))):=by
 have⟨k,u⟩:=r;cases k<;>cases u<;>first|show(aQ.mp h).elim|skip
 rename_i us;obtain⟨_,st',e,q⟩:=h;unfold jx at e
 dsimp only at e
 split at e
 .rename_i ks vs hs;split at e
  .rename_i hz;cases e;show⟨us,ks,vs,rfl,hs,hz.1,hz.2,q⟩
  .cases e
 .cases e
def Bw{i:Nat}{x:Str}{j:Pos}(hu:X.A.units+60<Hg)(hN:X.N[i]?=a5 x)(hv:GB X.env.scope x)(hd:(x==("__debug__":Str))=c2)(Fq:(x==("__classdict__":Str))=c2)
  (ha:PE X a (E4 C ma)) (B:PE X b (E4 C mb)) (hs:LV [.Subscript (.Name x j) b p] a pos.line X.env=pure c2) (OB:O_ [.Subscript (.Name x j) b p] a X.env=pure b5)
  (G:∀v,M_ (.Subscript (.Name x j) b p) X.env v=(do
   let n <-Jb [v] (D3 (.Name x j) X.env)
   let I <-Jb [v,n] (D3 b X.env)
   R5 p
   Jb [v,n,I] (NG n I v)
   Qw [v,n,I] [])) :
  L2.PS X (.Assign [.Subscript (.Name x j) b p] a pos) (FC C ns (ma >>= λr=>gz i >>= λ_=>mb >>= λx=>iN x >>= λy=>jx i y r >>= λ_=>pure .nx)):=by
 show PS.weak (oO ha (ua (bB hN hv hd Fq) B (set_dict (X:=X) ⋯) G) hs OB rfl) ?_;rintro D σ H ⟨c0,rfl,rfl,Q,h⟩;show aF Q h λr c v t w=>?_;rw[ae]at w;have⟨P2,us0,Gn,w⟩:=fe w;obtain⟨T,J1,Y,g0,_⟩:=t.ok.EX Gn;show⟨.ref T,by rw[<-t.hσ];show Y,?_⟩;rw[ae]at w;show⟨c,t.hσ,rfl,t.ok,w.mono λy st2 w2 J vy s e4 u n2 r2=>?_⟩;subst e4;rw[ae]at w2;have⟨ky,uy⟩:=y;have⟨y,ey,w3⟩:=ff w2
 dsimp only at ey r2
 subst ey;have ev:vy=.str y:=r2.str u;subst ev;rw[ae]at w3;have⟨us,ks,vs,L,g,Mo,l,q⟩:=pM w3;subst L;rw[ak]at q;obtain⟨m,kvs,d,g1,g2,g3,g4,g5,g6,_⟩:=u.EX g;have L:m=T:=by rw[s,<-t.hσ,Y]at d;cases d;rfl
 subst L;have⟨f,rfl,k1,k2,O,FJ,k4,k5⟩:=t.rx.w.on t.ok n2.toNs (s.trans t.hσ.symm);have OC:=t.nx.trans n2;have hl:kvs.length=ks.length:=by have:=Wv D' g2;simpa using this
 have HY:cU kvs (ko y)=b5:=by
  have:=g6 y;rw[Wr Mo]at this;cases hq:cU kvs (ko y) with
  |none=>rfl
  |some _=>rw[hq]at this;cases this
 show⟨m,_,rfl,su.k (k:=ko y) g1 (by rw[hl];show l),?_⟩;rw[uo _ HY];have MH:f∉J.kid i:=λz=>O (.inr ⟨i,_,_,g,d,.inr z⟩);have P5:f≠m:=λz=>O (.inr ⟨i,_,_,g,d,.inl z⟩);have rd:=u.dd.kd i _ _ g d;have fr:=bC.N' rd;have⟨Gy,n3⟩:=Ok.Dh (H':=upd J.H m (.dK (kvs++[(ko y,.ref f)]))) (u':=.EX (ks++[y]) (vs++[.lst us])) (as':=J.kid i++[f]) u OC.toNs g d
  (λa ne=>aj λz=>ne ⟨_,_,g,d,.inl z⟩) (λa o e=>by
   by_cases hz:a=m
   .subst hz;show⟨_,au⟩
   .rw[aj hz];show⟨o,e⟩)
  (λmv=>by
   show⟨_,au,by rw[mA,g2,mA];rfl,by rw[mA,g3,mA];rfl,?_,λa ha=>?_,?_⟩
   .rw[<-UU,wk];show⟨g4,by simp,λa ha b B=>by
     have:b=f:=by simpa using B
     subst this;rintro rfl;rcases gs.mp ha with z|z
     .show P5 z
     .show MH z⟩
   .rw[<-UU]at ha;rcases mh.mp ha with ha|ha
    .show fr a ha
    .have:a=f:=by simpa using ha
     subst this;obtain⟨z1,_,z3,_⟩:=Q.iM k1;show⟨k2,z3,z1⟩
   .show cP.snoc (by rw[aj P5];show k4) (k5.mv mv) (cP.mv mv (λa ha o e=>by
     rw[aj (λz=>(nC.mp g4).1 (by rw[<-z];show ha))];show e) g5))
  (λa ha=>by
   rcases mh.mp ha with ha|ha
   .show .inl ha
   .have:a=f:=by simpa using ha
    subst this;show .inr ⟨O,k1⟩)
 have z:=q _ rfl Gy n3 (Kept.of s);rw[<-s];show z
theorem cP.at{S:fS->Prop}:∀{ks:List Str}{us:List U}{as:List fS}{kvs:List (Key×V)}{u:U},kvs.map (·.1)=ks.map ko->kvs.map (·.2)=as.map V.ref->as.Nodup->cP C S H us as->cC ks us y=a5 u ->
  ∃a ws ys,cU kvs (ko y)=a5 (.ref a)/\a∈as/\u=.lst ys/\H a=a5 (.lst ws)/\ah C S H ys ws/\∀(H':Hp) (c:List U) (d:List V),Mv S H S H'->H' a=a5 (.lst d)->ah C S H' c d->(∀b∈as,b≠a->H' b=H b)->cP C S H' (iO ks us y (.lst c)) as
 |[],us,as,kvs,u,_,_,_,_,h=>by cases us<;>cases h
 |k::ks,[],as,kvs,u,_,_,_,_,h=>by cases h
 |k::ks,O::us,as,kvs,u,f,n,g,hk,h=>by
  have⟨a,as',ys,ws,rfl,rfl,s,t,v⟩:=hk;cases kvs with
  |nil=>simp at f
  |cons p kvs =>
   rw[gj,gj,Lj]at f n;rw[nC]at g;by_cases i:k=y
   .subst i;simp only[cC,if_true]at h;cases h;show⟨a,ws,ys,by rw[dA f.1,n.1],by simp,rfl,s,t,λH' c d j q r l=>?_⟩;simp only[iO,if_true];show⟨a,as',c,d,rfl,rfl,q,r,cP.mv j (λb m o e=>by rw[l b (by simp[m]) (λz=>g.1 (z▸m))];show e) v⟩
   .simp only[cC,Ws i]at h;have⟨w,A,B,D,x,G,I,J,L⟩:=cP.at f.2 n.2 g.2 v h;show⟨w,A,B,?_,by simp[x],G,I,J,λH' c d j q r l=>?_⟩
    .rw[dB (by rw[f.1];intro z;show i (OD z))];show D
    .simp only[iO,Ws i];have N:a≠w:=λz=>g.1 (z▸x);show⟨a,as',ys,ws,rfl,rfl,by rw[l a (by simp) N];show s,t.mv j,L H' c d j q r λb m=>l b (by simp[m])⟩
def pN{st:av}(h:W (jy i y u) st Q):∃ks vs xs,st[i]?=a5 (a5 (.B',.EX ks vs))/\cC ks vs y=a5 (.lst xs)/\xs.length<df/\Q () (st.set i (a5 (.B',.EX ks (iO ks vs y (.lst (xs++[u])))))):=by
 obtain⟨_,st',e,q⟩:=h;unfold jy at e;split at e
 .rename_i ks vs hs;split at e
  .rename_i xs a;split at e
   .rename_i hz;cases e;show⟨ks,vs,xs,hs,a,hz,q⟩
   .cases e
  .cases e
 .cases e
abbrev sZ(C:Ct)(m:M (Kd×U)):TE:=λσ H Q=>∃c0:Cf,c0.σ=σ/\c0.H=H/\Ok C c0/\W m c0.st λr st'=>∀c v,c.σ=σ->c.st=st'->Ok C c->Nx c0 c->(∀a o,c0.H a=a5 o->c.H a=a5 o)->aC C c0 c r.1 r.2 v->Q v c.H
def k7(b:Ok C c0)(h:W (d >>= k) c0.st Post)
  (hz:∀x c v,JR C c0 c x v->(∀a o,c0.H a=a5 o->c.H a=a5 o)->W (k x) c.st Post->Z v c.H):sZ C d c0.σ c0.H Z:=by
 rw[ae]at h;show⟨c0,rfl,rfl,b,h.mono λx st1 e c1 f g i j l m n=>hz x c1 f ⟨g,j,l,n⟩ m (by rw[i];show e)⟩
def vB(d:X.N[i]?=a5 x)(f:GB X.env.scope x)(g:(x==("__debug__":Str))=c2)(l:(x==("__classdict__":Str))=c2):PE X (.Name x pos) (sZ C (cJ i)):=by
 show PE.weak (bB d f g l) ?_;rintro σ H Q ⟨c0,rfl,rfl,b,r,st',e,h⟩;unfold cJ at e;split at e
 .cases e
 .rename_i k u m hs;cases e;have⟨v,c,a⟩:=b.sl i k u hs;show⟨v,c,h c0 v rfl rfl b (Nx.refl c0) (λ_ _ z=>z) ?_⟩;by_cases hk:k.root=bD
  .rw[Wq hk];show⟨⟨k,hk,hs⟩,c⟩
  .rw[Ws hk];cases k with
   |loc=>show a
   |any=>show a
   |bor j=>show a.elim
   |B'=>show(m rfl).elim
   |_=>show absurd rfl hk
 .cases e
def gE(h:PE X e (tC v))(r:∀S H,Rep C S H u v):PE X e (sZ C (pure (.loc,u))):=by
 show PE.weak h ?_;rintro σ H Q ⟨c0,rfl,rfl,a,h⟩;rw[ak]at h;show h c0 v rfl rfl a (Nx.refl c0) (λ_ _ z=>z) (r _ _)
def Bx(hK:C.K=X.K)(hu:X.A.units+60<Hg)(hN:X.N[i]?=a5 x)(hv:GB X.env.scope x)(hd:(x==("__debug__":Str))=c2)(Fq:(x==("__classdict__":Str))=c2)(I:PE X a (sZ C ma))(hb:PE X b (E4 C mb))(P6:AE b)
  (Gg:((E1 cpos (i7 [a] X.env)).all (λx=>!x.1)&&(M9 cpos (KC [] X.env)).all (λx=>x.1.isSome)
   && dV ([a].length+([]:List J5).length+(if ([]:List J5).isEmpty then 0 else 1)<30))=bD)
  (Fc:(j.endLine==cpos.line)=bD) (E5:i7 [a] X.env=[(c2,D3 a X.env)]) :
  L2.PS X (.Expr (.Call (.Attribute (.Subscript (.Name x px) b p) "append" j) [a] [] cpos) pos) (FC C ns (gz i >>= λ_=>mb >>= λx=>iN x >>= λy=>gz i >>= λd=>if y∈d.1 then(ma >>= λr=>lift r >>= λu=>jy i y u >>= λ_=>pure .nx) else M.fail)):=by
 show PS.weak (eX (qz PySem.F.plainAttrs_list PySem.F.slot_list_append PySem.F.type_list_append kL (xF ⋯ (bB hN hv hd Fq) hb P6) (dR I gQ E5) rfl Gg Fc E5 rfl)) ?_;rintro D σ H ⟨c0,rfl,rfl,ok,h⟩;rw[ae]at h;have⟨P2,us0,Gn,h⟩:=fe h;obtain⟨r0,J1,J,g0,_⟩:=ok.EX Gn;show⟨.ref r0,J,?_⟩;show aF ok h λry c vy t w=>?_;rw[ae]at w;have⟨ky,uy⟩:=ry;have⟨y,ey,w1⟩:=ff w
 dsimp only at ey
 subst ey;have ev:vy=.str y:=t.rx.str t.ok;subst ev;rw[ae]at w1;have⟨ks,us,hs,l⟩:=fe w1
 dsimp only at l
 by_cases L:y∈ks
 case neg=>rw[Ws L]at l;show(aQ.mp l).elim
 rw[Wq L]at l;obtain⟨O,kvs,f1,g1,g2,g3,g4,g5,g6,_⟩:=t.ok.EX hs;have Q:O=r0:=by rw[t.hσ,J]at f1;cases f1;rfl
 subst Q;have Js:=g6 y;rw[Wt L]at Js;have⟨v0,n⟩:=Kz.mp Js;have G9:v0∈(c.kid i).map V.ref:=by
  rw[<-g3];unfold cU at n;have⟨q,hq,rfl⟩:=fx.mp n;show LM (List.mem_of_find?_eq_some hq)
 have⟨f,SA,rfl⟩:=l0.mp G9;have⟨P7,OF⟩:=g5.mem SA;show⟨O,.ref f,rfl,by rw[<-n];show dk.k (k:=ko y) g1,Or.inl ⟨rfl,P7,.inl (.inl OF)⟩,?_⟩;rw[<-t.hσ];show k7 t.ok l λr g v t' sO w3=>?_;rw[ae]at w3;obtain⟨S',st',u,sS,T,n1,m,w4,_,_⟩:=e_ t.ok t'.ok t'.nx t'.rx.w w3;rw[ae]at w4;have⟨Fv,FJ,xs,s,hx,hz,q⟩:=pN w4;rw[ak]at q;obtain⟨B,Y,G,k2,k3,k4,k5,k6,_,_⟩:=T.EX s;have P8:g.σ[i]?=a5 (a5 (.ref B)):=G;have Q:B=O:=by rw[t'.hσ,t.hσ,J]at P8;cases P8;rfl
 subst Q;have SD:g.H B=a5 (.dK Y):=k2;have OG:Y=kvs:=by have:=sO _ _ g1;rw[SD]at this;cases this;rfl
 subst OG;have nd:=(nC.mp k5).2;have⟨a2,ws,ys,l1,l2,l3,l4,l5,l6⟩:=cP.at k3 k4 nd k6 hx;cases l3;rw[n]at l1;cases l1;have SE:g.H f=a5 (.lst ws):=l4;show⟨f,ws,v,rfl,rfl,SE,by rw[<-l5.len];show hz,?_⟩;have F9:f≠B:=λz=>(nC.mp k5).1 (z▸l2);have⟨Fe,n2⟩:=Ok.Dh (c:={g with S:=S',st:=st' }) (H':=upd g.H f (.lst (ws++[v]))) (u':=.EX Fv (iO Fv FJ y (.lst (xs++[u])))) (as':=g.kid i) T (t.nx.trans n1).toNs s G
  (λa ne=>aj λz=>ne ⟨_,_,s,G,.inr (z▸l2)⟩) (λa o e=>by
   by_cases hz:a=f
   .subst hz;show⟨_,au⟩
   .rw[aj hz];show⟨o,e⟩)
  (λmv=>⟨Y,by rw[aj (qs F9)];show k2,k3,k4,k5,bC.N' (T.dd.kd i _ _ s G),l6 _ _ _ mv au ((l5.mv mv).snoc (m.mv mv)) λb _ ne=>aj ne⟩)
  (λa I=>.inl I)
 have z:=q _ rfl Fe n2 (Kept.of (t'.hσ.trans t.hσ));rw[<-t'.hσ];show z
end
section
def vC{st:av}(h:W (Oe u) st Q):∃ks us,u=.EX ks us/\Q () st:=by
 cases u<;>first|show(aQ.mp h).elim|skip
 show⟨_,_,rfl,ak.mp h⟩
def k8{st:av}(h:W (sN x) st Q):∃j,x.2=.int j/\Q j st:=by
 unfold sN at h;split at h
 .rename_i y e;rw[ak]at h;show⟨y,e,h⟩
 .show(aQ.mp h).elim
def k9{st:av}(h:W (sM i) st Q):∃k us,k.root=bD/\st[i]?=a5 (a5 (k,.lst us))/\Q us st:=by
 have⟨r,st',e,q⟩:=h;unfold sM at e;split at e
 .rename_i k us hs;split at e
  .rename_i hk;cases e;show⟨k,_,hk,hs,q⟩
  .cases e
 .cases e
theorem nZ:∀{ks:List Str}{us:List U},y∈ks->ks.length=us.length->cC ks us y=b5->False
 |[],us,h,_,_=>by cases h
 |k::ks,[],_,h,_=>by simp at h
 |k::ks,u::us,h,hl,e=>by
  by_cases hk:k=y
  .simp[cC,hk]at e
  .simp only[cC,Ws hk]at e;rcases gs.mp h with h|h
   .show hk h.symm
   .show nZ h (by simpa using hl) e
def vD{i:Nat}{x:Str}{G:Pos}(hu:X.A.units+60<Hg)(hN:X.N[i]?=a5 x)(hv:GB X.env.scope x)(hd:(x==("__debug__":Str))=c2)(Fq:(x==("__classdict__":Str))=c2)
  (ha:PE X a (E4 C ma)) (hb:PE X b (E4 C mb)) (hm:M2 X (.Name x G) "get" e a b cpos) :
  PE X (.Call (.Attribute (.Name x G) "get" e) [a,b] [] cpos) (E4 C (cJ i >>= λx=>Oe x.2 >>= λ_=>ma >>= λy=>iN y >>= λy=>mb >>= λz=>lift z >>= λu=>cJ i >>= λx=>M.Ff (xY x y u))):=by
 rintro f s σ H Q I ⟨c0,rfl,rfl,p,h⟩;show uw ⋯ (bB hN hv hd Fq) ha hb hm f s c0.σ c0.H Q I ?_;rw[ae]at h;have⟨k0,u0,OH,Gn,h⟩:=cD h;have⟨v0,J,t0⟩:=p.slot OH Gn;rw[ae]at h;have⟨P2,us0,L,h'⟩:=vC h
 dsimp only at L
 subst L;obtain⟨B,J1,rfl,g0,_⟩:=t0.dict p;show⟨.ref B,J,B,rfl,.inl ⟨J1,.inl g0⟩,?_⟩;show aF p h' λry c vy t w=>?_;rw[ae]at w;have⟨ky,uy⟩:=ry;have⟨y,O,w1⟩:=ff w
 dsimp only at O
 subst O;have ev:vy=.str y:=t.rx.str t.ok;subst ev;rw[<-t.hσ];show aF t.ok w1 λz g vz j T=>?_;rw[ae]at T;obtain⟨S',st',u,sS,D,n1,l,Y,_,_⟩:=e_ t.ok j.ok j.nx j.rx.w T;rw[ae]at Y;have⟨k,u1,SF,GF,w5⟩:=cD Y;have⟨r,d,q⟩:=bX.mp w5;have⟨v1,e1,t1⟩:=D.slot SF GF;have FF:g.σ[i]?=a5 (a5 v1):=e1;rw[j.hσ,t.hσ,J]at FF;cases FF;cases u1<;>first|(simp only[xY]at d;cases d;done)|skip
 rename_i ks us;have⟨a1,kvs,ea,g1,g2,g3⟩:=t1.dict D;cases ea;have MK:g.H B=a5 (.dK kvs):=g1;show⟨_,dk.k (k:=ko y) MK,?_⟩;simp only[xY]at d;have⟨l1,l2⟩:=bL (x:=y) g2 g3;have m:∀v:V,aC C c0 {g with S:=S',st:=st' } r.1 r.2 v->Q v g.H:=λv z=>q {g with S:=S',st:=st' } v (j.hσ.trans t.hσ) rfl D (t.nx.trans n1) z;cases o:cC ks us y with
 |some w =>
  rw[o]at d;cases d;have⟨v,ev,rv⟩:=l1 w o;rw[ev];show m v ?_;show aC.item (k:=if k.root=bD then .bor i else k) rv
 |none =>
  rw[o]at d;cases d;have HY:cU kvs (ko y)=b5:=by
   cases hq:cU kvs (ko y) with
   |none=>rfl
   |some v =>
    exfalso
    rw[hq]at l2;have hy:y∈ks:=by simpa using l2.symm
    have n:ks.length=us.length:=by have h1:=Wv D' g2;have h2:=g3.len;simp at h1 h2;lia
    show nZ hy n o
  rw[HY];show m vz l
def vE:Cy X (λo i H Q=>∃p xs j v,o=.ref p/\i=.int j/\H p=a5 (.lst xs)/\0<=j/\xs[j.toNat]?=a5 v/\Q v H):=by
 rintro a s σ H o i l m Q I c d ⟨p,xs,j,v,rfl,rfl,e,f,b,q⟩;cases c;have⟨t,rfl⟩:=d;have⟨n,r,g,hz⟩:=I.list (.inl (.inl e));have⟨w,h,k⟩:=r.get b;have hl:=r.length;have u:=eF;have x:=(eH.mp b).1;show wpAny_getItem_list g.isList f ⋯ (by simpa using h) ⟨v,H,I,k,q⟩
def yA:L8 X (if sub=bD then .Sub else .Add) (M5 (uX sub)):=by
 cases sub with
 |true=>show Am
 |false=>show Al
def Di(hN:X.N[i]?=a5 x)(hv:GB X.env.scope x)(hd:(x==("__debug__":Str))=c2)(Fq:(x==("__classdict__":Str))=c2)
  (ha:PE X a (sZ C ma)) (hb:PE X b (E4 C mb))
  (n:∀f g new,Wd b f g new=(do Jb [new,f,g] (NG f g new);Qw [new,f,g] [];pure .next)) :
  L2.PS X (.AugAssign (.Subscript (.Name x px) b p) (if sub=bD then .Sub else .Add) a pos) (FC C ns (sM i >>= λ_=>mb >>= λy=>sN y >>= λj=>sM i >>= λus=>M.Ff (uW us j) >>= λo=>ma >>= λz=>sN z >>= λw=>modS i (dI (.int j) (.int (uX sub o w))) >>= λ_=>pure .nx)):=by
 show PS.weak (xm (bB hN hv hd Fq) hb vE ha yA set_list n) ?_;rintro D σ H ⟨c0,rfl,rfl,v,h⟩;rw[ae]at h;have⟨k0,us0,FW,Gn,h⟩:=k9 h;have⟨v0,r,Hm⟩:=v.sl i _ _ Gn;obtain⟨e,rfl,_,_,_,_⟩:=Hm.rt FW;show⟨.ref e,r,?_⟩;show aF v h λry c vy t w=>?_;rw[ae]at w;have⟨ky,uy⟩:=ry;have⟨j,A,B⟩:=k8 w
 dsimp only at A
 subst A;have ev:vy=.int j:=t.rx.int t.ok;subst ev;rw[ae]at B;have⟨k1,OI,N1,GF,G⟩:=k9 B;rw[ae]at G;have⟨o,ho,w3⟩:=bX.mp G;have⟨v1,I,SG⟩:=t.ok.sl i _ _ GF;obtain⟨a1,rfl,_,_,_,Lx⟩:=SG.rt N1;rw[t.hσ,r]at I;cases I;have⟨vs,J,g2⟩:=Lx;unfold uW at ho;split at ho
 case isFalse=>cases ho
 rename_i SH;split at ho
 case h_2=>cases ho
 rename_i o' OJ;cases ho;have⟨vo,SJ,SM⟩:=g2.get OJ;have SN:vo=.int o:=SM;subst SN;show⟨e,vs,j,_,rfl,rfl,J,SH,SJ,?_⟩;rw[<-t.hσ];show k7 t.ok w3 λz s vz d all2 L=>?_;rw[ae]at L;have⟨kz,uz⟩:=z;have⟨w,O,Q⟩:=k8 L
 dsimp only at O
 subst O;have ev:vz=.int w:=d.rx.int d.ok;subst ev;show⟨o,w,rfl,rfl,?_⟩;rw[ae]at Q;have⟨k,u1,u2,hk,T,l,q⟩:=fc Q;rw[ak]at q;have⟨v2,u,Ho⟩:=d.ok.sl i _ _ T;obtain⟨a2,rfl,_,_,_,Ly⟩:=Ho.rt hk;have SO:=u;rw[d.hσ,t.hσ,r]at u;cases u;have Y:s.H e=a5 (.lst vs):=all2 _ _ J;cases u1 with
 |lst xs =>
  simp only[dI,fx]at l;have⟨m,HC,rfl⟩:=l;have⟨SQ,l1,l2⟩:=Ly;rw[Y]at l1;cases l1;show⟨e,vs,j,m,rfl,rfl,Y,by rw[<-l2.len];show HC,?_⟩;have⟨Gy,n3⟩:=Ok.mod (c:=s) (H':=upd s.H e (.lst (vs.set m (.int (uX sub o w))))) (u':=.lst (xs.set m (.int (uX sub o w)))) d.ok (t.nx.trans d.nx).toNs hk T SO (λa ne=>aj ne) ⟨_,au⟩ λmv=>⟨_,au,(l2.mv mv).set m rfl⟩
  have z:=q _ rfl Gy n3 (Kept.of (d.hσ.trans t.hσ));rw[<-d.hσ];show z
 |EX ks vs=>simp[dI]at l
 |_=>simp[dI]at l
end
section
def yB{ks:List Str}(c:kvs.map (·.1)=ks.map ko)(d:kvs.map (·.2)=ns.map V.int):kvs=(ks.zip ns).map λp=>((ko p.1:Key),V.int p.2):=by
 induction kvs generalizing ks ns with
 |nil =>
  cases ks with
  |nil=>rfl
  |cons _ _=>cases c
 |cons kv kvs e =>
  cases ks with
  |nil=>cases c
  |cons k ks =>
   cases ns with
   |nil=>cases d
   |cons n ns =>
    have⟨a,b⟩:=kv;simp only[gj,Lj]at c d;have⟨rfl,c⟩:=c;have⟨rfl,d⟩:=d;rw[e c d];rfl
theorem ah.of_map{S:fS->Prop}{f:α->U}{g:α->V}:∀{l:List α},(∀x∈l,Rep C S H (f x) (g x))->ah C S H (l.map f) (l.map g)
 |[],_=>rfl
 |x::l,h=>⟨g x,l.map g,rfl,h x (by simp),ah.of_map λy a=>h y (by simp[a])⟩
def yC(O:X.calm=bD)(hK:C.K=X.K)(Y:Gl X "sorted")(hm:X.mg "sorted"=b5)(hN:X.N[i]?=a5 x)(hv:GB X.env.scope x)(hd:(x==("__debug__":Str))=c2)(Fq:(x==("__classdict__":Str))=c2)(Fc:(b.endLine==cpos.line)=bD):
  PE X (.Call (.Name "sorted" p) [.Call (.Attribute (.Name x m) "items" b) [] [] cpos] [] pos) (E4 C (cJ i >>= λx=>M.Ff (A6 x.2))):=by
 rintro f s σ H Q I ⟨c0,rfl,rfl,l,h⟩;show vu (eE I Y hm (show E6 "sorted"=a5 (.builtin "sorted") by decide +kernel) ?_ (by decide +kernel) (by decide +kernel));rw[ae]at h;have⟨k0,u0,OH,Gn,h⟩:=cD h;have⟨v0,e0,t0⟩:=l.slot OH Gn;have⟨r,c,k⟩:=bX.mp h
 dsimp only at c
 unfold A6 at c;split at c
 rotate_left
 .cases c
 rename_i ks us;rw[nc]at c;have⟨ns,en,c⟩:=c;split at c
 rotate_left
 .cases c
 rename_i OK;cases c;have⟨Hs,FU,t⟩:=OK;have⟨d,kvs,rfl,u,FW,B⟩:=t0.dict l;rw[iB en]at B;have OG:=yB FW (ah.ints B);subst OG;have ek:((ks.zip ns).map (·.1))=ks:=UP ⋯;have g:hA (hW X.prog X.w) X.A (D3 (.Call (.Attribute (.Name x m) "items" b) [] [] cpos) X.env) (λv s1=>hA (hW X.prog X.w) X.A (KS (.builtin "sorted") [v]) (EP X f c0.σ Q) X.xe s1) X.xe s:=by
  show TZ rfl Fc (E2 (bB hN hv hd Fq f s c0.σ c0.H (λv D=>v=.ref d/\D=c0.H) I ⟨_,e0,rfl,rfl⟩) λv s1 OL=>?_);have⟨x1,D,G,r1,z1,z2⟩:=OL;subst z1 z2;cases(show v=i1 d from r1);have⟨h1,h2⟩:=mf (T:="dict") G (x:=.ref d) rfl (.inr (.inr (.inl ⟨rfl,.inl ⟨_,u⟩⟩)));show⟨"dict","dict.items",PySem.F.plainAttrs_dict,PySem.F.slot_dict_items,PySem.F.type_dict_items,h1,h2,GH rfl (PySem.evalArgs_none (mH O G u (by rw[ek];show FU) (by rw[Vd];lia) λas L hl nd J hL=>?_))⟩;have n:c0.H L=b5:=J L (by simp);have SR:(as.zip ((ks.zip ns).map Ij)).map (·.1)=as:=UP (by rw[d3];lia);have SS:∀p∈as.zip ((ks.zip ns).map Ij),p.1∈as:=λp q=>(Lw q).1;have same:fH c0.H (upd (iL c0.H (as.zip ((ks.zip ns).map Ij))) L (.lst ((jr ((ks.zip ns).map (·.1))).map λi=>V.ref (as.getD i 0)))):=λa o e=>by
   have n1:a≠L:=λy=>by rw[y,n]at e;cases e
   rw[aj n1,ju λp q y=>?_]
   .show e
   .have:=J p.1 (by simp[SS p q]);rw[y,e]at this;cases this
  have⟨Fd,n'⟩:=l.grow (S':=c0.S) same (λa z=>.inl z) λa z=>z;have⟨q1,q2,q3,q4,q5⟩:=l.iM n;show k {c0 with H:=upd (iL c0.H (as.zip ((ks.zip ns).map Ij))) L (.lst ((jr ((ks.zip ns).map (·.1))).map λi=>V.ref (as.getD i 0))),S:=c0.S} _ rfl rfl Fd n' ⟨L,rfl,n,q2,q5,_,au,?_⟩;change ah C c0.S _ ((A4 (ks.zip ns)).map A5) _;unfold A4;rw[ro];show ah.of_map λj hj=>?_;have HC:j<(ks.zip ns).length:=by
   have:=I0.mp ((gV _).mem_iff.mp hj);rw[d3]at this;show this
  have N6:j<as.length:=by lia
  have e1:(ks.zip ns).getD j (tr,0)=(ks.zip ns)[j]:=(List.getElem_eq_getD _).symm;have e2:as.getD j 0=as[j]:=by simp[I_,N6]
  change Rep C c0.S _ (A5 ((ks.zip ns).getD j (tr,0))) (V.ref (as.getD j 0));rw[e1,e2];show⟨as[j],Ij (ks.zip ns)[j],rfl,FH.of ?_,⟨_,_,rfl,rfl,_,_,rfl,rfl,rfl⟩⟩;have F9:as[j]≠L:=λy=>hL (by rw[<-y];simp);show(aj F9).trans (qM (by rw[SR];show nd) (vs:=Ij (ks.zip ns)[j]) ?_);show Lq.mpr ⟨j,by rw[Vd,d3];lia,?_⟩;rw[List.getElem_zip,List.getElem_map]
 have eb:E1 pos (i7 [.Call (.Attribute (.Name x m) "items" b) [] [] cpos] X.env)=[(c2,D3 (.Call (.Attribute (.Name x m) "items" b) [] [] cpos) X.env)]:=rfl;have OM:M9 pos (KC [] X.env)=[]:=rfl;rw[eb,OM];show vm g
end
section
variable{X:Cx}{C:Ct}{a:l'}{ma:M (Kd×U)}{apos cpos:Pos}{i:Nat}{x:Str}{px:Pos}
def Ok.zD(b:Ok C c)(hk:k.root=bD)(hs:c.st[i]?=a5 (a5 (k,.lst us))):∃a vs,c.σ[i]?=a5 (a5 (.ref a))/\c.H a=a5 (.lst vs)/\ah C c.S c.H us vs:=by
 have⟨v,d,e⟩:=b.sl i k _ hs;obtain⟨r,rfl,_,_,_,vs,f,g⟩:=e.rt hk;show⟨r,vs,d,f,g⟩
theorem ah.eraseIdx{S:fS->Prop}:∀{us:List U}{vs:List V} (n:Nat),ah C S H us vs->ah C S H (us.eraseIdx n) (vs.eraseIdx n)
 |[],_,n,h=>by cases h;simp[ah]
 |u::us,vs,0,h=>by
  have⟨v,r,rfl,c,b⟩:=h;show b
 |u::us,vs,n+1,h=>by
  have⟨v,r,rfl,c,b⟩:=h;show⟨v,_,rfl,c,b.eraseIdx n⟩
def Ok.out(f:Ok C c)(n:Nx c0 c)(j:c.σ=c0.σ)(hk:k.root=bD)(hs:c.st[i]?=a5 (a5 (k,.lst us)))(g:c.σ[i]?=a5 (a5 (.ref r)))(l:ah C c.S c.H d b)(m:Rep C c.S c.H u v)(w:bR C c0 Q (.loc,u) (c.st.set i (a5 (k,.lst d)))):Q v (upd c.H r (.lst b)):=by
 have p:Mv c.S c.H c.S (upd c.H r (.lst b)):=by
  have⟨N,h,q⟩:=f.sl i k _ hs;rw[g]at h;cases h;obtain⟨O,s,y,_,_,A⟩:=q.rt hk;cases s;have⟨o,ho,B⟩:=A.some;show⟨λ_ z=>z,λa o' e t=>by rw[aj (λz=>by subst z;rw[ho]at e;cases e;show B t)];show e,λa o' z e=>by rw[aj (λD=>by subst D;show y z)];show e⟩
 have⟨G,I⟩:=f.mod (H':=upd c.H r (.lst b)) (u':=.lst d) n.toNs hk hs g (λa J=>aj J) ⟨_,au⟩ λL=>⟨b,au,l.mv L⟩
 show w {c with H:=upd c.H r (.lst b),st:=c.st.set i (a5 (k,.lst d))} v j rfl G ⟨I⟩ (m.mv p)
def yD(g:X.N[i]?=a5 x)(j:GB X.env.scope x)(l:(x==("__debug__":Str))=c2)(m:(x==("__classdict__":Str))=c2)(n:(apos.endLine==cpos.line)=bD)(o:C.K=X.K):
  PE X (.Call (.Attribute (.Name x px) "pop" apos) [] [] cpos) (E4 C (uU i)):=by
 show PE.weak (oY PySem.F.plainAttrs_list PySem.F.slot_list_pop PySem.F.type_list_pop Av (bB g j l m) rfl n) ?_;rintro σ H Q ⟨c0,rfl,rfl,c,h⟩;have⟨r,st',e,w⟩:=h;unfold uU at e;split at e
 .rename_i k us hs;split at e
  .rename_i hk;split at e
   .rename_i u q;cases e;have⟨p,vs,d,f,b⟩:=c.zD hk hs;have⟨v,s,t⟩:=b.get q;have hl:=b.len;show⟨_,d,.inl ⟨rfl,vs,o▸Fj.of f⟩,p,vs,v,rfl,rfl,f,by rw[<-hl];show s,?_⟩;show c.out (Nx.refl c0) rfl hk hs d ?_ t w;rw[Ti,Ti,hl];show b.take _
   .cases e
  .cases e
 .cases e
def Dj(b:0<=j)(h:j.toNat<n):QX j n=a5 j.toNat:=by
 simp only[QX];rw[Ws (show ¬j<0 by lia),Wq (by rw[b6,Wo,Wo];lia)]
def s9{st:av}(h:W (sJ i u) st Q):∃(j:Int) (k:Kd) (us:List U) (y:U),u=.int j/\k.root=bD/\0<=j/\j<1000000/\st[i]?=a5 (a5 (k,.lst us))/\us[j.toNat]?=a5 y/\Q (.loc,y) (st.set i (a5 (k,.lst (us.eraseIdx j.toNat)))):=by
 have⟨r,st',e,w⟩:=h;cases u with
 |int j =>
  unfold sJ at e
  dsimp only at e
  split at e
  .rename_i k us hs;split at e
   .rename_i hk;split at e
    .rename_i y b;cases e;show⟨j,k,us,y,rfl,hk.1,hk.2.1,hk.2.2,hs,b,w⟩
    .cases e
   .cases e
  .cases e
 |_=>cases e
def vF(q:C.K=X.K)(s:X.N[i]?=a5 x)(u:GB X.env.scope x)(A:(x==("__debug__":Str))=c2)(B:(x==("__classdict__":Str))=c2)(D:PE X a (E4 C ma))
  (G:((E1 cpos (i7 [a] X.env)).all (λx=>!x.1)&&(M9 cpos (KC [] X.env)).all (λx=>x.1.isSome)
   && dV ([a].length+([]:List J5).length+(if ([]:List J5).isEmpty then 0 else 1)<30))=bD)
  (I:(apos.endLine==cpos.line)=bD) (e:i7 [a] X.env=[(c2,D3 a X.env)]) :
  PE X (.Call (.Attribute (.Name x px) "pop" apos) [a] [] cpos) (E4 C (cJ i >>= λx=>IL x.2 >>= λ_=>ma >>= λy=>sJ i y.2)):=by
 show PE.weak (qz PySem.F.plainAttrs_list PySem.F.slot_list_pop PySem.F.type_list_pop ui (bB s u A B) (dR D gQ e) rfl G I e rfl) ?_;rintro σ H Q ⟨c0,rfl,rfl,b,h⟩;rw[ae]at h;have⟨k0,J,L,O,h⟩:=cD h;have⟨T,f,Y⟩:=b.slot L O;show⟨T,f,?_⟩;cases J with
 |lst JY =>
  rw[ae,show IL (U.lst JY)=pure () from rfl,ak]at h;obtain⟨a0,Ks,d,Ke,_⟩:=Y.list b;show⟨by rw[d];show .inl ⟨rfl,Ks,q▸Ke⟩,?_⟩;show aF b h λr c v t w=>?_;have⟨j,k,us,y,ej,hk,g,j1,hs,hu,w⟩:=s9 w;have⟨p,vs,l,h2,m⟩:=t.ok.zD hk hs;have hp:p=a0:=by
   have:=l;rw[t.hσ,f,d]at this;cases this;rfl
  subst hp;have⟨z,n,g2⟩:=m.get hu;have Hd:j.toNat<vs.length:=(eH.mp n).1;have o:=t.rx;rw[ej]at o;have ev:=o.int t.ok;show⟨p,vs,j,j.toNat,z,d,by rw[ev],h2,VY (by decide) g,Int.lt_trans j1 (by decide),Dj g Hd,n,t.ok.out t.nx t.hσ hk hs l (m.eraseIdx _) g2 w⟩
 |_=>rw[ae]at h;show(aQ.mp h).elim
end
end TM
namespace TM
open PySem L2 PyProof.Rows PySem.W
section
abbrev ON(X:Cx)(C:Ct)(ms:M (List (Kd×U)))(F:List U->Option (Ex (Kd×U))):TE:=λσ H Q=>∃c0:Cf,c0.σ=σ/\c0.H=H/\Ok C c0/\W (ms >>= λrs=>ay rs >>= λ_=>pure rs) c0.st λrs st' =>
 ∃u,F (rs.map (·.2))=a5 (.ok (.own,u))/\∀c:Cf,c.σ=c0.σ->c.st=st'->Ok C c->Nx c0 c->∀v H' S',Back (Hy X.prog X.w X.K c.H (Gv c.H)) c.H H' S' .own u v->Q v H'
def s_(m:C.P=X.prog)(n:C.w=X.w)(o:C.K=X.K)(hk:∀us k u,F us=a5 (.ok (k,u))->(k=.own\/k=.loc\/k=.any)/\us.length=d)
  (G:iH X.prog X.w X.K X.mg X.base Hq k fa fd r (spT X.prog X.w X.K F d)) (x:eG k X.A) (y:Gl X f) (B:X.mg f=a5 (.ref fa)) (D:PySem.W.keepIn X.K (.ref fa)=bD) (a:Binds X.K fd r [])
  (J:(f==("__debug__":Str))=c2) (L:PA X (e::es) (F' C ms)) (N:i7 (e::es) X.env=(c2,D3 e X.env)::i7 es X.env) (O:(E1 pos (i7 es X.env)).any (·.1)=c2) :
  PE X (.Call (.Name f p) (e::es) [] pos) (ON X C ms F):=by
 rintro g s σ H Q I ⟨c0,rfl,rfl,ok,h⟩;show vu (lP I y B ?_ J);show PySem.W.callWith_K (h₀:=X.base) I.ok.mod.KD D (E2 (args L I ok h pos) λus s1 ⟨rs,c,vs,t,i,rv,w⟩=>⟨i.IX,?_⟩) N O;rw[ak]at w;have⟨u,j,q⟩:=w;have⟨k0,T⟩:=hk _ _ _ j;have b:C.Eqv (Hy X.prog X.w X.K c.H (Gv c.H)):=⟨m,n,o⟩
 have l:=t.read;have Y:spT X.prog X.w X.K F d vs c.H (λv H'=>Q v H') E0:=⟨by rw[<-l.len];show T,rs.map (·.2),.own,u,Gv c.H,j,k0,λ_ z=>z,l.cg b,λv H' S' a=>q c t.hσ rfl t.ok t.nx v H' S' a⟩
 have z:=oW (Q:=Q) G x a .nil um i rv (by rw[x2];show Y);rw[t.hσ]at z;show z
def tf{st:av}{i:Nat}(h:(c6 st)[i]?=a5 (a5 (k,u))):st[i]?=a5 (a5 (k,u))/\(k=.loc\/k=.any):=by
 unfold c6 at h;rw[i6,fx]at h;have⟨o,e,h⟩:=h;cases o with
 |none=>cases h
 |some p =>
  have⟨k',u'⟩:=p;cases k'<;>first|(cases h;show⟨e,.inl rfl⟩)|(cases h;show⟨e,.inr rfl⟩)|cases h
def Ok.only(d:Ok C c0)(hl:σ'.length=c0.σ.length)(w:∀m,m≠i->m≠j->σ'[m]?=c0.σ[m]?)(hs:∀a o,C.H₀ a=a5 o->¬C.IO a->H' a=a5 o)(hk:∀a o,c0.H a=a5 o->¬c0.R a->H' a=a5 o)(g:∀a o,c0.H a=a5 o->∃o',H' a=a5 o'):
  Ok C {c0 with H:=H',σ:=σ',st:=c6 ((c0.st.set i b5).set j b5)}/\Ns c0 {c0 with H:=H',σ:=σ',st:=c6 ((c0.st.set i b5).set j b5)}:=by
 have b:∀(m:Nat) (k:Kd) (u:U),(c6 ((c0.st.set i b5).set j b5))[m]?=a5 (a5 (k,u))->c0.st[m]?=a5 (a5 (k,u))/\(k=.loc\/k=.any)/\m≠i/\m≠j:=λm k u h=>by
  have⟨c,x⟩:=tf h;have q:m≠j:=λz=>by
   subst z;by_cases hl:m<(c0.st.set i b5).length
   .rw[ez hl]at c;cases c
   .rw[HR (by simp at hl ⊢;lia)]at c;cases c
  rw[hE (qs q)]at c;have s:m≠i:=λz=>by
   subst z;by_cases hl:m<c0.st.length
   .rw[ez hl]at c;cases c
   .rw[HR (by simp at hl ⊢;lia)]at c;cases c
  rw[hE (qs s)]at c;show⟨c,x,s,q⟩
 have y:∀a,¬({c0 with H:=H',σ:=σ',st:=c6 ((c0.st.set i b5).set j b5)}:Cf).R1 a:=λa l=>by
  obtain⟨m,k,u,hk,f,_⟩:=l;obtain⟨_,z,_⟩:=b m k u f;rcases z with rfl|rfl<;>cases hk
 have p:∀m a,¬({c0 with H:=H',σ:=σ',st:=c6 ((c0.st.set i b5).set j b5)}:Cf).RD m a:=λm a l=>by
  obtain⟨u,r,f,_⟩:=l;obtain⟨_,z,_⟩:=b m _ u f;rcases z with z|z<;>cases z
 have n:Ns c0 {c0 with H:=H',σ:=σ',st:=c6 ((c0.st.set i b5).set j b5)}:=⟨hk,g,λa z=>(z.elim (y a) λ⟨m,z⟩=>p m a z).elim,λ_ z=>z,λ_ z=>.inl z⟩
 show⟨⟨hs,λa z=>⟨(d.Gi a z).1,let ⟨o,e⟩:=(d.Gi a z).2;g a o e⟩,d.par,λa z=>⟨(d.io a z).1,let ⟨o,e⟩:=(d.io a z).2;g a o e⟩,by simp[c6,d.len,hl],λm k u e=>?_,λm A k k' u u' r B L f=>?_,⟨λm u r f t=>?_,λm A a z=>?_,λm a z=>?_⟩⟩,n⟩
 .have⟨f,t,D,G⟩:=b m k u e;have⟨v,I,J⟩:=d.sl m k u f;show⟨v,(w m D G).trans I,J.mv (d.mv n) (d.IG n) λhk=>by rcases t with rfl|rfl<;>cases hk⟩
 .obtain⟨_,z,_⟩:=b m k u f;rcases z with rfl|rfl<;>cases B
 .obtain⟨_,z,_⟩:=b m _ u f;rcases z with z|z<;>cases z
 .show(p m a z).elim
 .show(p m a z).elim
theorem mQ{S:fS->Prop}:∀{xs:List U}{vs:List V},xs.all qR=bD->ah C S H xs vs->∀v∈vs,∃k ws,v=.ref k/\S k/\H k=a5 (.lst ws)
 |[],vs,_,h=>λv hv=>by rw[show vs=[] from h]at hv;cases hv
 |x::xs,vs,a,h=>λv hv=>by
  have⟨g,i,rfl,b,c⟩:=h;rw[Rx,b6]at a;rcases gs.mp hv with rfl|hv
  .cases x with
   |lst ys =>
    obtain⟨k,ws,e,⟨d,f⟩,_⟩:=b;show⟨k,ws,e,d,f⟩
   |_=>cases a.1
  .show mQ a.2 c v hv
def Dk{ret rest:List HM}(FZ:∀m,FP m=bD->ns m=bD/\m≠i/\m≠j)(hK:C.K=X.K)(hN:X.N.Nodup)
  (T:X.N[i]?=a5 y) (u:Loc X.env.scope y) (SW:X.fn y=bD) (hv:GB X.env.scope y) (hd:(y==("__debug__":Str))=c2) (Fq:(y==("__classdict__":Str))=c2)
  (hj:X.N[j]?=a5 z) (hz:Loc X.env.scope z) (SX:X.fn z=bD) (SY:GB X.env.scope z) (S3:(z==("__debug__":Str))=c2) (OO:(z==("__classdict__":Str))=c2) (F0:i≠j)
  (S4:OT (hW X.prog X.w) X.A X.env X.xe) (S5:X.calm=bD)
  (hP:C.P=X.prog) (hw:C.w=X.w) (Lz:PE X a (ON X C ms F)) (Ih:K8 a (a5 (.Name y p1)) p4.line X.env=pure c2) (hc:PT X S6 (F2 C tc)) (Jr:(a8.endLine==c8.line)=bD) (S7:(Qa.endLine==OP.line)=bD) (GU:FA X rest (FC C ns m2)) :
  FA X (.Assign [.Name y p1] a p4::.If S6 ret [] p5::.For (.Name z p6) (.Name y p7) [.Expr (.Call (.Attribute (.Name z p8) "clear" a8) [] [] c8) p9] [] Kv::.Expr (.Call (.Attribute (.Name y Qb) "clear" Qa) [] [] OP) Qc::rest)
   (FC C FP (uZ F i j ms tc >>= λf=>match f with|.nx=>m2|f=>pure f)):=by
 rintro B s σ H D I ⟨c0,rfl,rfl,Y,h⟩;rw[ae]at h;have⟨fl,st',e,h⟩:=h;unfold uZ at e;split at e
 case h_2=>cases e
 rename_i rs st1 e1;split at e
 case h_2=>cases e
 rename_i xs e2;split at e
 case h_2=>cases e
 rename_i Fs e3;split at e
 case isFalse=>cases e
 rename_i Qd;cases e;have q:W m2 (c6 ((c0.st.set i b5).set j b5)) (fA C c0 FP D):=h;have FL:i<c0.σ.length:=by rw[I.len];show(eH.mp T).1
 have Hd:j<c0.σ.length:=by rw[I.len];show(eH.mp hj).1
 have P3:=ud (X:=X) (pos:=Kv) S4 S5 (qx (tg:=.Name z p6) (bB (pos:=p7) T hv hd Fq)) (lS hN hj hz (.inl SX)) (dz (eX (pos:=p9) (oY (cpos:=c8) PySem.F.plainAttrs_list PySem.F.slot_list_clear PySem.F.type_list_clear nA (bB (pos:=p8) hj SY S3 OO) rfl Jr)) lQ);have P4:=eX (X:=X) (pos:=Qc) (oY (cpos:=OP) PySem.F.plainAttrs_list PySem.F.slot_list_clear PySem.F.type_list_clear nA (bB (pos:=Qb) T hv hd Fq) rfl S7);show(dz (oP hN T u Lz Ih (.inl SW)) (dz (zu hc (sf (sts:=ret)) lQ) (dz P3 (dz P4 GU)))) B s c0.σ c0.H D I ?_;show⟨c0,rfl,rfl,Y,rs,st1,e1,.lst xs,e2,λc hσ E5 E9 OQ v H' S' hB=>?_⟩;have⟨r,rfl,Jm,S8,LA⟩:=hB.own rfl;have⟨vs,HG,Gb⟩:=LA;have He:(Hy X.prog X.w X.K c.H (Gv c.H)).Eqv C:=⟨hP.symm,hw.symm,hK.symm⟩
 have Jt:=Gb.cg He;have⟨Fd,n'⟩:=E9.grow (S':=λa=>c.S a\/S' a\/a=r) hB.same (λa z=>z.imp id λz=>z.elim (λz=>hB.new a z) λz=>by subst z;show⟨Jm,_,HG⟩) λa=>.inl;have⟨l,G,J,Fe,n2,L⟩:=mM (r:=(.loc,.lst xs)) (v:=.ref r) (i:=i) Y Fd (OQ.trans n') (by change i<c.σ.length;rw[hσ];show FL) (show Rep C (λa=>c.S a\/S' a\/a=r) H' (.lst xs) (.ref r) from⟨r,vs,rfl,⟨.inr (.inr rfl),HG⟩,Jt.mv (.up λa z=>.inr (.inl z))⟩) (Post:=λ_ st=>st=c.st.set i (a5 (.loc,.lst xs))) ⟨(),_,rfl,rfl⟩;have G:l.σ=c0.σ.set i (a5 (.ref r)):=by rw[G];change c.σ.set i _=_;rw[hσ]
 have J:l.H=H':=J;have L:l.st=st1.set i (a5 (.loc,.lst xs)):=by rw[L,E5]
 have OR:(c0.σ.set i (a5 (V.ref r)))[i]?=a5 (a5 (.ref r)):=ez FL;have LB:i<l.st.length:=by rw[Fe.len,G];simpa using FL
 have⟨v2,z1,z2⟩:=Fe.sl i .loc (.lst xs) (by rw[L];rw[L]at LB;show ez (by simpa using LB));rw[G,OR]at z1;cases z1;obtain⟨a2,SQ,ea,⟨Ki,Kh⟩,LC⟩:=z2;cases ea;rw[J,HG]at Kh;cases Kh;have g:=mQ Qd LC;have LD:=mQ Qd Jt;let n:fS->Prop:=λb=>V.ref b∈vs;have kS:∀b,n b->l.S b/\(∃ws,H' b=a5 (.lst ws))/\S' b:=λb d=>by
  have⟨k,ws,ek,p,h2⟩:=g _ d;have⟨k',Iq,OM,Gw,Kk⟩:=LD _ d;cases ek;cases OM;show⟨p,⟨Iq,Kk⟩,Gw⟩
 have kr:∀b,n b->b≠r:=λb d z=>S8 (z▸(kS b d).2.2);have k0:∀b,n b->c0.H b=b5:=λb d=>OQ.none (hB.new b (kS b d).2.2).1;have r0:c0.H r=b5:=OQ.none Jm;change Cu (F2 C tc) t9 zt _ (c0.σ.set i (a5 (.ref r))) H';show⟨l,G,J,Fe,c2,Fs,by rw[L];show e3,λO p h2 Gy n3=>?_⟩;change(if (c2:Bool)=bD then _ else _);rw[Ws i0];have sh:∀b o,l.S b->H' b=a5 o->O.H b=a5 o:=λb o d e=>n3.keep b o (by rw[J];show e) λz=>(Fe.root z).1 d;have Qe:O.H r=a5 (.lst vs):=sh r _ Ki HG;have Kt:=n2.trans n3;let W:Nat->Nat->L2.St->Hp->Prop:=λx m σ H=>x<=vs.length/\m=vs.length - x/\(σ.length=c0.σ.length/\σ[i]?=a5 (a5 (.ref r))/\∀m,m≠i->m≠j->σ[m]?=c0.σ[m]?)/\H r=a5 (.lst vs)/\(∀b,n b->∃ws,H b=a5 (.lst ws))/\∀b o,O.H b=a5 o->¬n b->H b=a5 o;have w0:W 0 vs.length (c0.σ.set i (a5 (.ref r))) O.H:=⟨kj _,⋯,⟨by simp,OR,λm p _=>hE (qs p)⟩,Qe,λb d=>let ⟨ws,e⟩:=(kS b d).2.1;⟨ws,sh b _ (kS b d).1 e⟩,λb o e _=>e⟩
 show⟨.ref r,OR,r,rfl,⟨vs,.inl (.inl Qe)⟩,W,⟨_,w0⟩,λx m σ H w=>?_⟩;obtain⟨w1,w2,⟨w3,w4,w5⟩,t,w7,w8⟩:=w;by_cases hx:x<vs.length
 .show .inr ⟨⟨vs,vs[x],.inl (.inl t),by simp⟩,W (x+1) (m - 1),λσ' H' w=>⟨m - 1,⋯,w⟩,λv H1 u=>?_⟩;have⟨rfl,u⟩:=u;have Qf:=u vs (.inl (.inl t));obtain⟨k,_,ek,_⟩:=g v (sx Qf);subst ek;have hk:n k:=sx Qf;have⟨ws,Qg⟩:=w7 k hk;have S9:(σ.set j (a5 (V.ref k)))[j]?=a5 (a5 (.ref k)):=ez ⋯;show⟨.ref k,S9,.inl ⟨rfl,ws,.inl (.inl Qg)⟩,k,ws,rfl,rfl,Qg,?_⟩;show⟨⋯,⋯,⟨by simp[w3],by rw[hE (qs F0)];show w4,λm p h2=>by rw[hE (qs h2)];show w5 m p h2⟩,by rw[aj (qs (kr k hk))];show t,λb d=>?_,λb o e d=>?_⟩
  .by_cases h:b=k
   .subst h;show⟨[],au⟩
   .rw[aj h];show w7 b d
  .rw[aj (show b≠k from λz=>d (z▸hk))];show w8 b o e d
 .show .inl ⟨⟨vs,.inl (.inl t),⋯⟩,?_⟩;show⟨.ref r,w4,.inl ⟨rfl,vs,.inl (.inl t)⟩,r,vs,rfl,rfl,t,?_⟩;have Q:∀b,(∃o,c0.H b=a5 o)->¬n b/\b≠r:=λb ⟨o,e⟩=>⟨(λz=>by rw[k0 b z]at e;cases e),(λz=>by rw[z,r0]at e;cases e)⟩
  have up:∀b o,(∃o,c0.H b=a5 o)->O.H b=a5 o->upd H r (.lst []) b=a5 o:=λb o h e=>by
   rw[aj (Q b h).2];show w8 b o e (Q b h).1
  have⟨S_,nf⟩:=Y.only (i:=i) (j:=j) (H':=upd H r (.lst [])) (σ':=σ) w3 w5 (λa o e FG=>up a o ⟨o,Y.same a o e FG⟩ (Gy.same a o e FG)) (λa o e hR=>up a o ⟨o,e⟩ (Kt.keep a o e hR)) (λa o e=>let ⟨o',e'⟩:=Kt.there a o e;⟨o',up a o' ⟨o,e⟩ e'⟩);show jB (λm hm=>(FZ m hm).1) (jA (c0:=c0) (c1:={c0 with H:=upd H r (.lst []),σ:=σ,st:=c6 ((c0.st.set i b5).set j b5)}) S_ nf ⟨λm hm=>w5 m (FZ m hm).2.1 (FZ m hm).2.2,w3⟩ q)
def Dl(c:FA X rest (FC C ns m2)):FA X rest (FC C ns (u9 i >>= λf=>match f with|.nx=>m2|f=>pure f)):=by
 show FA.weak c ?_;rintro D σ H ⟨c0,rfl,rfl,a,h⟩;rw[ae]at h;have⟨n,st',e,h⟩:=h;unfold u9 at e;split at e
 case h_2=>cases e
 rename_i u b;cases e;have q:W m2 (c0.st.set i (a5 (.loc,u))) (fA C c0 ns D):=h;have⟨v,d,o⟩:=a.sl i .own u b;have g:W (lift (.bor i,u)) c0.st (λ_ st=>st=c0.st.set i (a5 (.loc,u))):=⟨u,_,by change(match c0.st[i]? with|some (a5 (.own,u))=>a5 (Ex.ok u,c0.st.set i (a5 (.loc,u)))|_=>b5)=_;rw[b],rfl⟩
 obtain⟨S',st',u',s1,j,k,l,m,_⟩:=e_ a a (Nx.refl c0) (r:=(.bor i,u)) (v:=v) d g;subst m;show jA (c0:=c0) (c1:={c0 with S:=S',st:=c0.st.set i (a5 (.loc,u))}) j k.toNs (Kept.of rfl) q
end
end TM
namespace TM
open PySem L2 PyProof.Rows
@[reducible]def H9(P:vr)(w:x8)(K:PySem.W.Frag)(H:Hp)(a IO:fS->Prop):Ct:=⟨P,w,K,H,a,IO⟩
structure zE(C:Ct)(H H':Hp)(S':fS->Prop)(is:List Nat)(vs:List V)(ws:List U)(k:Kd)(u:U)(v:V):Prop where
 same:∀a o,H a=a5 o->¬C.IO a->H' a=a5 o
 new:∀a,S' a->H a=b5/\∃o,H' a=a5 o
 own:k=.own->∃r,v=.ref r/\H r=b5/\¬S' r/\cn C S' H' r u
 loc:k=.loc->Rep C S' H' u v
 len:ws.length=is.length
 GP:∀(n i:Nat) (r:fS) (w:U),is[n]?=a5 i->vs[i]?=a5 (.ref r)->ws[n]?=a5 w->cn C S' H' r w
structure By(C:Ct)(H:Hp)(is:List Nat)(us:List U)(vs:List V):Prop where
 len:us.length=vs.length
 par:∀a,C.G4 a->Gv H a/\¬C.IO a
 Qh:∀a,C.IO a->Gv H a
 io:∀(i:Nat) (u:U),i∈is->us[i]?=a5 u->∃r,vs[i]?=a5 (.ref r)/\C.IO r/\cn C (λ_=>False) H r u
 any:∀(i:Nat) (u:U),i∉is->us[i]?=a5 u->∃v,vs[i]?=a5 v/\Rep C C.G4 H u v
 inj:∀(i j:Nat) (r:fS),i∈is->j∈is->vs[i]?=a5 (.ref r)->vs[j]?=a5 (.ref r)->i=j
 GP:∀a,C.IO a->∃i∈is,vs[i]?=a5 (.ref a)
abbrev ML(P:vr)(w:x8)(K:PySem.W.Frag)(F:List U->Option (Ex (Kd×U)))(b:Nat)(is:List Nat):Sp:=λvs H Q _=>vs.length=b/\∃us k u ws a IO,F us=a5 (.ok (k,.tup (u::ws)))/\(k=.own\/k=.loc)/\By (H9 P w K H a IO) H is us vs /\
 ∀v H' S',zE (H9 P w K H a IO) H H' S' is vs ws k u v->Q v H'
theorem map_inj:∀{l:List α},(l.map f).Nodup->∀x∈l,∀y∈l,f x=f y->x=y
 |[],_,_,h,_,_,_=>by cases h
 |a::l,h,x,g,y,c,e=>by
  rw[gj,nC]at h;rcases gs.mp g with d|h1
  .rcases gs.mp c with b|h2
   .rw[d,b]
   .show absurd (l0.mpr ⟨y,h2,by rw[<-e,d]⟩) h.1
  .rcases gs.mp c with b|h2
   .show absurd (l0.mpr ⟨x,h1,by rw[e,b]⟩) h.1
   .show map_inj h.2 x h1 y h2 e
section
def tm(h:fO rs p=a5 j):∃us,rs[p]?=a5 (.bor j,.lst us)/\bK us=bD:=by
 unfold fO at h;split at h
 .split at h
  .cases h;show⟨_,by assumption,by assumption⟩
  .cases h
 .cases h
def Hc.Qi(t:Hc C c0 c rs vs){i:Nat}(h:rs[i]?=a5 r):∃v,vs[i]?=a5 v/\aC C c0 c r.1 r.2 v:=by
 have d:∀(l:List (Kd×U)) (w:List V),bY C c0 c l w->aX l c.st->∀(i:Nat) (r:Kd×U),l[i]?=a5 r->∃v,w[i]?=a5 v/\aC C c0 c r.1 r.2 v:=by
  intro l;induction l with
  |nil=>intro w _ _ i r e;simp at e
  |cons x l f =>
   intro w h hs i r e;obtain⟨v,t',rfl,g,j,_⟩:=h;rw[eZ]at hs;cases i with
   |zero=>simp at e;subst e;show⟨v,rfl,g.t hs.1⟩
   |succ i=>have⟨k,a,b⟩:=f t' j hs.2 i r (by simpa using e);show⟨k,by simpa using a,b⟩
 show d rs vs t.rep t.Lo i r h
def Hc.len(t:Hc C c0 c rs vs):rs.length=vs.length:=by
 have:=t.read.len;rw[d3]at this;show this
theorem rf(q:C'.Eqv C){vs:List V}(hs:∀a,S' a->S1 a){IO:fS->Prop}(T:∀a,S' a->¬IO a)(B:∀a o,IO a->H' a=a5 o->¬Tp o):
  ∀(g:List Nat) (ws:List U) (c:Cf) (st':av),Ok C c->Ns c1 c->c.S=S1->fz rs g ws c.st=a5 st'->(g.map (fO rs)).Nodup->(∀p∈g,∀a,vs[p]?=a5 (.ref a)->IO a) ->
  (∀p∈g,∀j,fO rs p=a5 j->∃k u r,k.root=bD/\c.st[j]?=a5 (a5 (k,u))/\c.σ[j]?=a5 (a5 (.ref r))/\vs[p]?=a5 (.ref r)) ->
  (∀(n p:Nat) (r:fS) (w:U),g[n]?=a5 p->vs[p]?=a5 (.ref r)->ws[n]?=a5 w->cn C' S' H' r w)->(∀a,(∀p∈g,vs[p]?≠a5 (.ref a))->c.H a=H' a)->(∀a,¬IO a->c.H a=H' a) ->
  ∃l:Cf,Ok C l/\Ns c1 l/\l.σ=c.σ/\l.S=S1/\l.st=st'/\l.H=H'/\l.kid=c.kid/\∀(j:Nat) (k:Kd) (u:U),l.st[j]?=a5 (a5 (k,u))->∃D,c.st[j]?=a5 (a5 (k,D))
 |[],ws,c,st',G,n,A,e,_,_,_,_,I,_=>by
  cases ws with
  |nil=>cases e;show⟨c,G,n,rfl,A,rfl,funext λa=>I a λp hp=>(by cases hp),rfl,λj k u e=>⟨u,e⟩⟩
  |cons _ _=>cases e
 |p::g,ws,c,st',G,n,A,e,J,Y,sl,rt,I,L=>by
  cases ws with
  |nil=>cases e
  |cons w ws =>
   simp only[fz]at e;split at e
   .rename_i j hj;split at e
    .rename_i us k0 Uc E5;have⟨k,u,r,hk,t,e2,N⟩:=sl p (by simp) j hj;rw[E5]at t;cases t;have t:=E5;have hr:=rt 0 p r _ rfl N rfl;have⟨xs,g1,g2⟩:=hr;have O:IO r:=Y p (by simp) r N;rw[gj,nC]at J;have⟨Fd,n'⟩:=G.mod (H':=upd c.H r (.lst xs)) (u':=.lst us) n hk t e2 (λa x=>aj x) ⟨_,au⟩ (λ_=>⟨xs,au,by
      show(g2.cg q).mv ⟨λa z=>by rw[A];show hs a z,λa o h tp=>?_,λa o z h=>?_⟩
      .by_cases s:a=r
       .subst s;show absurd tp (B a o O h)
       .rw[aj s];by_cases y:IO a
        .show absurd tp (B a o y h)
        .rw[L a y];show h
      .have y:=T a z;have s:a≠r:=λe=>y (e▸O);rw[aj s,L a y];show h⟩)
     have FL:j<c.st.length:=(eH.mp t).1;have A1:∀f∈g,∀v,fO rs f=a5 v->∃k u r,Kd.root k=bD/\(c.st.set j (a5 (k0,.lst us)))[v]?=a5 (a5 (k,u))/\c.σ[v]?=a5 (a5 (.ref r))/\vs[f]?=a5 (.ref r):=λf hp v HC=>by
      have⟨k',u',Q,a1,a2,a3,a4⟩:=sl f (by simp[hp]) v HC;have x:j≠v:=λz=>J.1 (l0.mpr ⟨f,hp,by rw[HC,hj,z]⟩);show⟨k',u',Q,a1,by rw[hE x];show a2,a3,a4⟩
     have A2:∀a,(∀f∈g,vs[f]?≠a5 (.ref a))->upd c.H r (.lst xs) a=H' a:=λa s=>by
      by_cases h:a=r
      .subst h;rw[au,g1]
      .rw[aj h];show I a λf hp z=>?_;rcases gs.mp hp with rfl|hp
       .rw[N]at z;cases z;show h rfl
       .show s f hp z
     have A3:∀a,¬IO a->upd c.H r (.lst xs) a=H' a:=λa s=>by
      have x:a≠r:=λz=>s (by rw[z];show O);rw[aj x];show L a s
     have⟨l,f1,f2,f3,f4,f5,f6,f7,f8⟩:=rf q hs T B g ws {c with H:=upd c.H r (.lst xs),st:=c.st.set j (a5 (k0,.lst us))} st' Fd n' A e J.2 (λf hp=>Y f (by simp[hp])) A1 (λm f Q w' a b d=>rt (m+1) f Q w' (by simpa using a) b (by simpa using d)) A2 A3;show⟨l,f1,f2,f3,f4,f5,f6,f7,λi k' u' z=>?_⟩;have⟨D,z⟩:=f8 i k' u' z;by_cases hi:i=j
     .subst hi;have z:(c.st.set i (a5 (k0,.lst us)))[i]?=_:=z;rw[ez FL]at z;cases z;show⟨_,t⟩
     .have z:(c.st.set j (a5 (k0,.lst us)))[i]?=_:=z;rw[hE (qs hi)]at z;show⟨D,z⟩
    .cases e
   .cases e
end
section
def yE(st:av)(r:Kd×U):(dm st r).1=r.1:=by
 unfold dm;split<;>rfl
theorem bY.Qj{st:av}:∀{rs:List (Kd×U)}{vs:List V},bY C c0 c rs vs->bY C c0 c (rs.map (dm st)) vs
 |[],_,h=>h
 |r::rs,vs,h=>by
  have⟨v,t,rfl,d,e,f⟩:=h;show⟨v,t,rfl,?_,bY.Qj e,λhk i m g a j b=>?_⟩
  .have⟨k,u⟩:=r;cases k<;>show d
  .rw[i6,fx]at a;have⟨l,a,rfl⟩:=a;rw[yE]at hk b;show f hk i l g a j b
def yF(h:PA X es (F' C ms)):PA X es (F' C (ms >>= xX)):=by
 rintro pos a s σ H Q I ⟨c0,rfl,rfl,b,w⟩;show h pos a s c0.σ c0.H Q I ⟨c0,rfl,rfl,b,?_⟩;rw[ae]at w;show w.mono λrs st d c vs f g i n r=>?_;have⟨j,st',e,q⟩:=d;cases e;show q c vs f g i n r.Qj
def vG(h:Ob r=a5 (k,u,ws)):r=(k,.tup (u::ws))/\(k=.own\/k=.loc):=by
 unfold Ob at h;split at h
 .cases h;show⟨rfl,.inl rfl⟩
 .cases h;show⟨rfl,.inr rfl⟩
 .cases h
def vH(hP:C.P=X.prog)(hw:C.w=X.w)(hK:C.K=X.K)(hF:Γ f=F)(hk:∀us r,F us=a5 (.ok r)->us.length=np)
  (G:iH X.prog X.w X.K X.mg X.base Hq k fa fd ps (ML X.prog X.w X.K F np is)) (hr:eG k X.A) (hg:Gl X f) (hm:X.mg f=a5 (.ref fa)) (Ls:PySem.W.keepIn X.K (.ref fa)=bD) (B:Binds X.K fd ps [])
  (IS:(f==("__debug__":Str))=c2) (ha:PA X (e::es) (F' C ms)) (he:i7 (e::es) X.env=(c2,D3 e X.env)::i7 es X.env) (Gq:(E1 pos (i7 es X.env)).any (·.1)=c2) :
  PE X (.Call (.Name f p) (e::es) [] pos) (E4 C (ms >>= λrs=>ay rs >>= λ_=>nV Γ f rs is)):=by
 rintro al s σ H Q I ⟨c0,rfl,rfl,ok,h⟩;show vu (lP I hg hm ?_ IS);show PySem.W.callWith_K (h₀:=X.base) I.ok.mod.KD Ls (E2 (args ha I ok h pos) λus s1 ⟨rs,c,vs,t,I1,rv,w⟩=>⟨I1.IX,?_⟩) he Gq;have⟨r,st',D,q⟩:=w;unfold nV at D;rw[hF]at D;split at D
 .rename_i r0 e2;split at D
  .rename_i kd u ws eu;split at D
   .rename_i FG;split at D
    .rename_i st2 OV;cases D;have⟨rfl,k1⟩:=vG eu;have k2:=hk _ _ e2;unfold nU at FG;simp only[b6,lg,Wo,H0,I0]at FG;obtain⟨⟨h1,h2⟩,h3⟩:=FG;have Y:∀p∈is,∃j xs k r,fO rs p=a5 j/\rs[p]?=a5 (.bor j,.lst xs)/\bK xs=bD/\Kd.root k=bD/\c.st[j]?=a5 (a5 (k,.lst xs))/\c.σ[j]?=a5 (a5 (.ref r))/\vs[p]?=a5 (.ref r)/\¬c.S r/\¬C.G4 r/\cn C c.S c.H r (.lst xs):=λp L=>by
      have⟨j,T⟩:=Kz.mp (h1 p L);have⟨xs,a1,a2⟩:=tm T;have⟨v,b1,l⟩:=t.Qi a1;obtain⟨r,rfl,d1,d2,_,N⟩:=t.ok.rootOf l.1 l.2;have⟨k,m,x⟩:=l.1;show⟨j,xs,k,r,T,a1,a2,m,x,l.2,b1,d1,d2,N⟩
     let IO:fS->Prop:=λa=>∃p∈is,vs[p]?=a5 (.ref a);have LG:∀a,IO a->c.R a/\¬c.S a/\¬C.G4 a/\Gv c.H a:=λa Fi=>by
      have⟨p,L,e⟩:=Fi;obtain⟨j,xs,k,r,_,_,_,m,x,y,J,g5,g6,g7⟩:=Y p L;rw[e]at J;cases J;obtain⟨o,ho,_⟩:=g7.some;show⟨.inl ⟨j,k,_,m,x,y⟩,g5,g6,o,ho⟩
     let Pr:fS->Prop:=λa=>Gv c.H a/\¬IO a;have ac:C.Eqv (H9 X.prog X.w X.K c.H Pr IO):=⟨hP,hw,hK⟩
     have He:(H9 X.prog X.w X.K c.H Pr IO).Eqv C:=⟨hP.symm,hw.symm,hK.symm⟩
     have sP:∀a,c.S a->Pr a:=λa z=>⟨t.ok.uT a z,λz'=>(LG a z').2.1 z⟩
     have gi:∀{i:Nat} {u:U},(rs.map (·.2))[i]?=a5 u->∃k,rs[i]?=a5 (k,u):=λ{i u} e=>by
      rw[i6,fx]at e;obtain⟨⟨k,u'⟩,e,rfl⟩:=e;show⟨k,e⟩
     have ag:By (H9 X.prog X.w X.K c.H Pr IO) c.H is (rs.map (·.2)) vs:=by
      show⟨by rw[d3];show t.len,λa z=>z,λa z=>(LG a z).2.2.2,λi u O e=>?_,λi u O e=>?_,λi j r O T e3 e4=>?_,λa z=>z⟩
      .obtain⟨j,xs,k,r,_,g0,gm,m,x,y,J,g5,g6,zs,g7,g8⟩:=Y i O;have⟨k',e⟩:=gi e;rw[g0]at e;cases e;show⟨r,J,⟨i,O,J⟩,zs,g7,(ah.Fu gm g8).cg ac⟩
      .have⟨k',e⟩:=gi e;have⟨v,b1,l⟩:=t.Qi e;show⟨v,b1,?_⟩;have FL:i<rs.length:=(eH.mp e).1;have Kw:=(h3 i FL).resolve_left O;rw[List.getD_eq_getElem?_getD,e]at Kw;show Rep.cg ac (u:=u) ?_;cases k' with
       |own =>
        obtain⟨r,rfl,_,d1,d2,N⟩:=l;obtain⟨o,ho,_⟩:=N.some;show N.rep sP ⟨⟨o,ho⟩,λz=>d2 (LG r z).1⟩
       |loc=>show Rep.mv (.up sP) l
       |any=>show Rep.mv (.up λa z=>z.elim (λz=>⟨t.ok.CT a (.inl z),λz'=>(LG a z').2.2.1 z⟩) (sP a)) l
       |bor j =>
        obtain⟨r,rfl,d1,d2,_,N⟩:=t.ok.rootOf l.1 l.2;obtain⟨o,ho,_⟩:=N.some;show N.rep sP ⟨⟨o,ho⟩,λ⟨p',Qk,e'⟩=>?_⟩;obtain⟨j',xs,k2,r2,g,_,_,m,x,y,J,_⟩:=Y p' Qk;rw[e']at J;cases J;have⟨k3,z1,z2⟩:=l.1;have:=t.ok.inj j j' k3 k2 _ _ r z1 m z2 x l.2 y;subst this;have:a5 j∉is.map (fO rs):=by simpa[nS] using Kw
        show this (l0.mpr ⟨p',Qk,g⟩)
       |_=>show l.elim
      .obtain⟨j1,_,k1,r1,a0,_,_,a1,a2,a3,a4,_⟩:=Y i O;obtain⟨j2,_,k2,r2,b0,_,_,b1,l,b3,b4,_⟩:=Y j T;rw[e3]at a4;cases a4;rw[e4]at b4;cases b4;have:=t.ok.inj j1 j2 k1 k2 _ _ r a1 b1 a2 l a3 b3;subst this;show map_inj h2 i O j T (by rw[a0,b0])
     have GK:ML X.prog X.w X.K F np is vs c.H (λv H'=>Q v H') E0:=⟨by rw[<-t.len,<-k2,d3],rs.map (·.2),kd,u,ws,Pr,IO,e2,k1,ag,λv H' S' B=>by
      classical
      let H1:Hp:=λa=>if IO a then c.H a else H' a
      have MM:∀a,¬IO a->H1 a=H' a:=λa z=>Ws z;have LF:∀a,S' a->¬IO a:=λa z z'=>by
       have⟨o,ho⟩:=(LG a z').2.2.2;rw[(B.new a z).1]at ho;cases ho
      have LH:fH c.H H1:=λa o e=>by
       by_cases z:IO a
       .change(if IO a then _ else _)=_;rw[Wq z];show e
       .rw[MM a z];show B.same a o e z
      have⟨E3,n1⟩:=t.ok.grow (H':=H1) (S':=λa=>c.S a\/S' a) LH (λa z=>z.imp id λz=>⟨(B.new a z).1,by rw[MM a (LF a z)];show(B.new a z).2⟩) λa=>.inl;have LI:∀(n i:Nat) (r:fS),is[n]?=a5 i->vs[i]?=a5 (.ref r)->∃w,ws[n]?=a5 w/\cn (H9 X.prog X.w X.K c.H Pr IO) S' H' r w:=λn i r a b=>by
       have hn:n<ws.length:=by rw[B.len];show(eH.mp a).1
       show⟨_,tj hn,B.GP n i r _ a b (tj hn)⟩
      have⟨cf,f1,f2,f3,f4,f5,f6,f7,f8⟩:=rf (C:=C) He (rs:=rs) (vs:=vs) (H':=H') (S':=S') (S1:=λa=>c.S a\/S' a) (λa=>.inr) (IO:=IO) LF (λa o ⟨i,O,z⟩ e=>by
        have⟨n,hn⟩:=List.getElem?_of_mem O;obtain⟨w,_,g⟩:=LI n i a hn z;have⟨o',m,x⟩:=g.some;rw[e]at m;cases m;show x) is ws {c with H:=H1,S:=λa=>c.S a\/S' a} st' E3 n1.toNs rfl OV h2 (λp L a z=>⟨p,L,z⟩) (λp L j T=>by
        obtain⟨j',xs,k,r,g0,_,_,m,x,y,J,_⟩:=Y p L;rw[T]at g0;cases g0;show⟨k,_,r,m,x,y,J⟩) (λn i r w a b d=>B.GP n i r w a b d) (λa ha=>MM a λ⟨p,L,z⟩=>ha p L z) MM
      subst f6;have Ta:∀a,cf.R a->c.R a:=λa z=>by
       rcases z with⟨j,k,u,m,x,y⟩|⟨j,u,r,m,x,y⟩
       .have⟨u0,g⟩:=f8 j k u x;rw[f3]at y;show .inl ⟨j,k,u0,m,g,y⟩
       .have⟨u0,g⟩:=f8 j .B' u m;rw[f3]at x;rw[f7]at y;show .inr ⟨j,u0,r,g,x,y⟩
      show q cf v (f3.trans t.hσ) f5 f1 ⟨t.nx.toNs.trans f2⟩ ?_;rcases k1 with rfl|rfl
      .have⟨r,rfl,d1,d2,N⟩:=B.own rfl;obtain⟨_,z1,_,_,z4⟩:=t.ok.iM d1;show⟨r,rfl,t.nx.none d1,by rw[f4];show λz=>z.elim z1 d2,λz=>z4 (Ta r z),(N.cg He).mv (.up λa z=>by rw[f4];show .inr z) λo q=>q⟩
      .show((B.loc rfl).cg He).mv (.up λa z=>by rw[f4];show .inr z)⟩
     have z:=oW (Q:=Q) G hr B .nil um I1 rv (by rw[x2];show GK);rw[t.hσ]at z;show z
    .cases D
   .cases D
  .cases D
 .cases D
end
structure Ck where
 fns:List Str
 gl:List (Str×U)
 GP:List (Str×List Nat)
abbrev pO:U->U->Bool
 |.int i,.int j=>dV (i=j)
 |.str x,.str y=>dV (x=y)
 |.bl a,.bl b=>a==b
 |.EY,.EY=>bD
 |_,_=>c2
def bZ(h:pO u v=bD):u=v:=by
 cases u<;>cases v<;>simp[pO]at h<;>subst_vars<;>rfl
abbrev noStar:l'->Bool
 |.Starred _ _=>c2
 |_=>bD
abbrev dr:l'->Bool
 |.Slice _ _ _ _=>c2
 |_=>bD
abbrev pP:l'->Bool
 |.Set _ _ _=>c2
 |_=>bD
abbrev mR:l'->Bool
 |.Call (.Name _ _) [] [] _=>c2
 |_=>bD
abbrev cW:l'->Bool
 |.ListComp _ _ _ _=>c2
 |.SetComp _ _ _ _=>c2
 |.DictComp _ _ _ _ _=>c2
 |_=>bD
abbrev Bz:l'->Bool
 |.Tuple _ _ _=>c2
 |_=>bD
abbrev G2(a:Ir)(x:Str):Bool:=dV (a.names.lookup x=a5 .globalImplicit)
abbrev fm(a:Ir)(x:Str):Bool:=dV (a.names.lookup x=a5 .local)||decide (a.names.lookup x=a5 .cell)||decide (a.names.lookup x=a5 .free)
abbrev kC(a:Ir)(x:Str):Bool:=dV (a.names.lookup x=a5 .local)||decide (a.names.lookup x=a5 .cell)
abbrev Dm(a:Ir)(x:Str):Bool:=dV (a.names.lookup x=a5 .local)
abbrev bo(x:Str):Bool:=!(x==("__debug__":Str))&&!(x==("__classdict__":Str))
abbrev rg(N:List Str)(a:Ir)(fa:Str->Bool)(i:Nat):l'->Bool
 |.Name x _=>dV (N[i]?=a5 x)&&kC a x&&(fa x||Dm a x)
 |_=>c2
abbrev mS(N:List Str)(a:Ir)(fa:Str->Bool):List Nat->List l'->Bool
 |[],[]=>bD
 |i::is,e::es=>rg N a fa i e&&mS N a fa is es
 |_,_=>c2
abbrev fB:l'->List Str
 |.Name x _=>[x]
 |.Tuple es _ _=>es.filterMap fun|.Name x _=>a5 x|_=>b5
 |_=>[]
abbrev hide(a N:List Str):List Str:=match a.filter λx=>dV (x∈N) with
 |[]=>N
 |[x]=>N.set (N.idxOf x) "."
 |x::y::_=>(N.set (N.idxOf x) ".").set (N.idxOf y) ".."
abbrev Kx(t:Bool)(N:List Str)(a:Ir)(fa:Str->Bool)(is:List Nat):l'->Bool
 |.Name x p=>!t&&(match is with|[i]=>rg N a fa i (.Name x p)|_=>c2)
 |.Tuple es _ _=>t&&mS N a fa is es&&is.all λi=>dV (i<N.length)
 |_=>c2
abbrev pQ(e:l'):Option (Str×List l'):=match e with
 |.Call f as kw _=>match f with
  |.Name x _=>if kw.isEmpty=bD then a5 (x,as) else b5
  |_=>b5
 |_=>b5
def n9(h:pQ e=a5 (x,as)):∃p q,e=.Call (.Name x p) as [] q:=by
 unfold pQ at h;split at h
 .split at h
  .split at h
   .rename_i hk;rw[uv]at hk;cases h;subst hk;show⟨_,_,rfl⟩
   .cases h
  .cases h
 .cases h
abbrev eS(a:Ir)(tg:l')(b:Ik)(e:l'):Option (List l'):=match b with
 |.seq=>a5 [e]
 |.FK=>(pQ e).bind λp=>if p.1="range"/\G2 a p.1=bD/\p.2.length=1 then a5 p.2 else b5
 |_=>b5
abbrev simple:Bf->Bool:=λ_=>bD
abbrev BA(scope a:Ir):Ir:={scope with names:=scope.names.map λ(n,k)=>if (k==F4&&a.kind==.function&&a.names.lookup n==a5 .cell)=bD then(n,.cell) else(n,k)}
abbrev aR(e:l')(k:Str->Bool):Bool:=match e with|.Name x _=>k x|_=>c2
def ai(h:aR e k=bD):∃x p,e=.Name x p/\k x=bD:=by
 unfold aR at h;split at h
 .show⟨_,_,rfl,h⟩
 .cases h
abbrev dN{α:Type}(l:List α)(k:α->Bool):Bool:=match l with|[a]=>k a|_=>c2
def aY(h:dN l k=bD):∃a,l=[a]/\k a=bD:=by
 unfold dN at h;split at h
 .show⟨_,rfl,h⟩
 .cases h
abbrev c7(e:l')(k:l'->List l'->Pos->Bool):Bool:=match e with|.Call f as kw p=>kw.isEmpty&&k f as p|_=>c2
def aO(h:c7 e k=bD):∃f as p,e=.Call f as [] p/\k f as p=bD:=by
 unfold c7 at h;split at h
 .rename_i f as kw p;rw[b6,uv]at h;have⟨rfl,h⟩:=h;show⟨_,_,_,rfl,h⟩
 .cases h
abbrev pR(e:l')(k:l'->Str->Pos->Bool):Bool:=match e with|.Attribute o m p=>k o m p|_=>c2
def n_(h:pR e k=bD):∃o m p,e=.Attribute o m p/\k o m p=bD:=by
 unfold pR at h;split at h
 .show⟨_,_,_,rfl,h⟩
 .cases h
abbrev vI(e:l')(k:l'->U3->l'->Bool):Bool:=match e with|.BinOp a c b _=>k a c b|_=>c2
def pS(h:vI e k=bD):∃a c b p,e=.BinOp a c b p/\k a c b=bD:=by
 unfold vI at h;split at h
 .show⟨_,_,_,_,rfl,h⟩
 .cases h
abbrev rh(e:l')(k:l'->CmpOp->l'->Bool):Bool:=match e with|.Compare a ops c _=>dN ops λd=>dN c λb=>k a d b|_=>c2
def fT(h:rh e k=bD):∃a c b p,e=.Compare a [c] [b] p/\k a c b=bD:=by
 unfold rh at h;split at h
 .have⟨c,rfl,d⟩:=aY h;have⟨b,rfl,f⟩:=aY d;show⟨_,_,_,_,rfl,f⟩
 .cases h
abbrev dw(e:l')(k:l'->Str->Pos->List l'->Pos->Bool):Bool:=c7 e λf as cpos=>pR f λo m a=>k o m a as cpos
def bf(h:dw e k=bD):∃o m a as cpos,e=.Call (.Attribute o m a) as [] cpos/\k o m a as cpos=bD:=by
 have⟨f,as,p,rfl,h⟩:=aO h;have⟨o,m,q,rfl,h⟩:=n_ h;show⟨_,_,_,_,_,rfl,h⟩
abbrev iC(e:l')(k:l'->l'->Bool):Bool:=match e with|.Subscript a b _=>k a b|_=>c2
def cE(h:iC e k=bD):∃a b p,e=.Subscript a b p/\k a b=bD:=by
 unfold iC at h;split at h
 .show⟨_,_,_,rfl,h⟩
 .cases h
abbrev OW:E->Bool
 |.var _=>bD
 |.cst _=>bD
 |_=>c2
abbrev rj{α:Type}(l:List α)(k:α->α->Bool):Bool:=match l with|[a,b]=>k a b|_=>c2
def fU(h:rj l k=bD):∃a b,l=[a,b]/\k a b=bD:=by
 unfold rj at h;split at h
 .show⟨_,_,rfl,h⟩
 .cases h
abbrev vJ(e:l')(k:Const->Bool):Bool:=match e with|.Constant c _ _=>k c|_=>c2
def jC(h:vJ e k=bD):∃c q p,e=.Constant c q p/\k c=bD:=by
 unfold vJ at h;split at h
 .show⟨_,_,_,rfl,h⟩
 .cases h
abbrev EJ:Const->Option U
 |.int j=>a5 (.int j)
 |.str y=>a5 (.str y)
 |.bool y=>a5 (.bl y)
 |.none=>a5 .EY
 |_=>b5
abbrev EK(u:U)(c:Const):Bool:=match EJ c with|some v=>pO u v|none=>c2
abbrev yG(e:l')(a:BoolOp)(k:List l'->Bool):Bool:=match e with|.BoolOp o es _=>dV (o=a)&&k es|_=>c2
def g_(h:yG e a k=bD):∃es p,e=.BoolOp a es p/\k es=bD:=by
 unfold yG at h;split at h
 .rw[b6,Wo]at h;have⟨rfl,h⟩:=h;show⟨_,_,rfl,h⟩
 .cases h
abbrev BB(e:l')(b:UnaryOp)(k:l'->Bool):Bool:=match e with|.UnaryOp o a _=>dV (o=b)&&k a|_=>c2
def k_(h:BB e b k=bD):∃a p,e=.UnaryOp b a p/\k a=bD:=by
 unfold BB at h;split at h
 .rw[b6,Wo]at h;have⟨rfl,h⟩:=h;show⟨_,_,rfl,h⟩
 .cases h
abbrev BC(e:l')(k:l'->l'->l'->Bool):Bool:=match e with|.IfExp c a b _=>k c a b|_=>c2
def tq(h:BC e k=bD):∃c a b p,e=.IfExp c a b p/\k c a b=bD:=by
 unfold BC at h;split at h
 .show⟨_,_,_,_,rfl,h⟩
 .cases h
abbrev rm(e:l')(k:List l'->Bool):Bool:=match e with|.Tuple l _ _=>k l|_=>c2
def jD(h:rm e k=bD):∃l q p,e=.Tuple l q p/\k l=bD:=by
 unfold rm at h;split at h
 .show⟨_,_,_,rfl,h⟩
 .cases h
abbrev vK(e:l')(k:List l'->Bool):Bool:=match e with|.List l _=>k l|_=>c2
def pT(h:vK e k=bD):∃l p,e=.List l p/\k l=bD:=by
 unfold vK at h;split at h
 .show⟨_,_,rfl,h⟩
 .cases h
abbrev yH(e:l'):Bool:=match e with|.Dict a b _=>a.isEmpty&&b.isEmpty|_=>c2
def lh(h:yH e=bD):∃p,e=.Dict [] [] p:=by
 unfold yH at h;split at h
 .rw[b6,uv,uv]at h;have⟨rfl,rfl⟩:=h;show⟨_,rfl⟩
 .cases h
abbrev vL(e:l')(k:Option l'->Option l'->Bool):Bool:=match e with|.Slice a b c _=>c.isNone&&k a b|_=>c2
def pU(h:vL e k=bD):∃a b p,e=.Slice a b b5 p/\k a b=bD:=by
 unfold vL at h;split at h
 .rw[b6,Mg]at h;have⟨rfl,h⟩:=h;show⟨_,_,_,rfl,h⟩
 .cases h
abbrev BD(e:l')(k:l'->l'->l'->List l'->Ir->Bool):Bool:=match e with|.ListComp elt a b _=>dN a λg=>dV (g.is_async=0)&&k elt g.target g.iter g.ifs b|_=>c2
def hJ(h:BD e k=bD):∃elt tg a b d p,e=.ListComp elt [⟨tg,a,b,0⟩] d p/\k elt tg a b d=bD:=by
 unfold BD at h;split at h
 .obtain⟨⟨tg,a,b,z⟩,rfl,c⟩:=aY h;rw[b6,Wo]at c;have⟨rfl,c⟩:=c;show⟨_,_,_,_,_,_,rfl,c⟩
 .cases h
abbrev isNm(e:l')(n:Str):Bool:=aR e λx=>dV (x=n)
def hU(h:isNm e n=bD):∃p,e=.Name n p:=by
 have⟨x,p,e,z⟩:=ai h;show⟨p,Wu z▸e⟩
abbrev Dn(v:l')(f:Str)(k:List l'->Bool):Bool:=c7 v λg as _=>isNm g f&&k as
def tu(h:Dn v f k=bD):∃as p q,v=.Call (.Name f p) as [] q/\k as=bD:=by
 have⟨g,as,q,rfl,z⟩:=aO h;rw[b6]at z;have⟨p,rfl⟩:=hU z.1;show⟨as,p,q,rfl,z.2⟩
mutual
noncomputable def a_(k:Ck):E->List Str->Ir->l'->Bool
 |.var i,N,d,g=>aR g λx=>dV (N[i]?=a5 x)&&fm d x&&bo x
 |.cst u,N,d,g=>vJ g λc=>EK u c
 |.Mw _ _,_,_,_=>c2
 |.bin v a b,N,d,g=>vI g λl r p=>dV (v.op=r)&&a_ k a N d l&&a_ k b N d p
 |.cmp v a b,N,d,g=>rh g λl r p=>dV (v.op=r)&&!LX r p&&a_ k a N d l&&a_ k b N d p
 |.HV _ _ _ _ _,_,_,_=>c2
 |.and es,N,d,g=>yG g .And λj=>aE k es N d j
 |.or es,N,d,g=>yG g .Or λj=>aE k es N d j
 |.not a,N,d,g=>BB g .Not λl=>a_ k a N d l
 |.ite c a b,N,d,g=>BC g λw l p=>a_ k c N d w&&a_ k a N d l&&a_ k b N d p
 |.neg _,_,_,_=>c2
 |.bad,_,_,_=>bD
 |.pop i,N,d,g=>dw g λo m h as cpos=>aR o λx=>as.isEmpty&&dV (m="pop")&&dV (N[i]?=a5 x)&&fm d x&&bo x&&(h.endLine==cpos.line)
 |.Ha i a,N,d,g=>dw g λo m h as cpos=>aR o λx=>dN as λl=>dV (m="pop")&&dV (N[i]?=a5 x)&&fm d x&&bo x&&(h.endLine==cpos.line)&&noStar l&&a_ k a N d l
 |.EW f es is,N,d,g=>c7 g λf' j _=>aR f' λx=>dV (x=f)&&dV ((f,is)∈k.GP)&&G2 d x&&bo x&&!j.isEmpty&&aE k es N d j
 |.inD neg a i,N,d,g=>rh g λl r p=>aR p λx=>dV (Bu neg=r)&&!LX r p&&dV (N[i]?=a5 x)&&fm d x&&bo x&&a_ k a N d l
 |.Kq i,N,d,g=>aR g λx=>dV (N[i]?=a5 x)&&fm d x&&bo x
 |.GX i a b,N,d,g=>dw g λo m h as cpos=>aR o λx=>rj as λl p=>dV (m="get")&&dV (N[i]?=a5 x)&&fm d x&&bo x&&(h.endLine==cpos.line)&&noStar l&&noStar p&&a_ k a N d l&&a_ k b N d p
 |.Mx i,N,d,g=>c7 g λf' as _=>aR f' λf=>dN as λc=>dw c λo m h z cpos=>aR o λx=>z.isEmpty&&dV (f="sorted")&&G2 d f&&dV (m="items")&&dV (N[i]?=a5 x)&&fm d x&&bo x&&(h.endLine==cpos.line)
 |.My _ _ _,_,_,_=>c2
 |.fst es,N,d,g=>c2
 |.G' a T,N,d,g=>c7 g λf' as _=>aR f' λx=>rj as λl p=>aR p λy=>dV (x="isinstance")&&dV (y=T.name)&&G2 d x&&G2 d y&&noStar l&&a_ k a N d l
 |.tup es,N,d,g=>rm g λj=>aE k es N d j
 |.lst es,N,d,g=>vK g λj=>aE k es N d j
 |.Gp _,N,d,g=>yH g
 |.idx a b,N,d,g=>iC g λl p=>dr p&&a_ k a N d l&&a_ k b N d p
 |.IH a lo A,N,d,g=>iC g λl p=>vL p λB C=>a_ k a N d l&&pV k lo N d B&&pV k A N d C
 |.bi f es,N,d,g=>c7 g λf' j _=>aR f' λx=>dV (x=f.name)&&simple f&&G2 d x&&!j.isEmpty&&aE k es N d j
 |.Jo f es,N,d,g=>c7 g λf' as _=>aR f' λx=>dN as λc=>c7 c λg' j _=>aR g' λy=>dV (x=f.mL)&&dV (y=f.gD)&&G2 d x&&G2 d y&&!j.isEmpty&&aE k es N d j
 |.Jp m a es,N,d,g=>dw g λo name h j cpos=>dV (name=m.name)&&mR o&&(h.endLine==cpos.line)&&!j.isEmpty&&dV (j.length<20)&&a_ k a N d o&&aE k es N d j
 |.call f es,N,d,g=>c7 g λf' j _=>aR f' λx=>dV (x=f)&&dV (f∈k.fns)&&G2 d x&&bo x&&!j.isEmpty&&aE k es N d j
 |.II a,N,d,g=>a_ k a N d g
 |.comp n t D src cond e,N,d,g=>BD g λelt tg q s scope =>
   dV ((fB tg).length=n)&&AL (fB tg++hide (fB tg) N) (fB tg) scope d.names&&Kx t (fB tg++hide (fB tg) N) (BA scope d) (λx=>dV (scope.names.lookup x=a5 .cell)) (i3 n) tg&&pP q &&
   (match eS d tg D q with
    |some as=>aE k src N d as
    |none=>c2) &&
   dV (s.length<=1)&&aE k cond (fB tg++hide (fB tg) N) (BA scope d) s&&a_ k e (fB tg++hide (fB tg) N) (BA scope d) elt
noncomputable def aE(k:Ck):List E->List Str->Ir->List l'->Bool
 |[],_,_,a=>a.isEmpty
 |e::es,N,b,a=>match a with
  |e'::a=>noStar e'&&a_ k e N b e'&&aE k es N b a
  |[]=>c2
noncomputable def pV(k:Ck):List E->List Str->Ir->Option l'->Bool
 |[],_,_,o=>o.isNone
 |[e],N,a,o=>match o with
  |some b=>a_ k e N a b
  |none=>c2
 |_::_::_,_,_,_=>c2
end
abbrev bx:List Str:=["len","sorted","repr","max","min","all","any","list","tuple","str","int","range","enumerate","zip","reversed","set","dict","sum","isinstance","bool"]
structure yI(P:vr)(w:x8)(K:PySem.W.Frag)(mg:Str->Option ei)(base:Gz)(d:Nat)(F:List U->Option (Ex (Kd×U)))(f:Str):Prop where
 ex:∃(np:Nat) (fa:fS) (fd:Ni) (ps:List Str),iH P w K mg base Hq d fa fd ps (spT P w K F np)/\mg f=a5 (.ref fa)/\PySem.W.keepIn K (.ref fa)=bD/\Binds K fd ps []/\∀us k u,F us=a5 (.ok (k,u))->(k=.own\/k=.loc\/k=.any)/\us.length=np
structure yJ(P:vr)(w:x8)(K:PySem.W.Frag)(mg:Str->Option ei)(base:Gz)(d:Nat)(F:List U->Option (Ex (Kd×U)))(f:Str)(is:List Nat):Prop where
 ex:∃(np:Nat) (fa:fS) (fd:Ni) (ps:List Str),iH P w K mg base Hq d fa fd ps (ML P w K F np is)/\mg f=a5 (.ref fa)/\PySem.W.keepIn K (.ref fa)=bD/\Binds K fd ps []/\∀us r,F us=a5 (.ok r)->us.length=np
structure Tb(ck:Ck)(Γ:Tab)(P:vr)(w:x8)(K:PySem.W.Frag)(mg:Str->Option ei)(base:Gz)(d:Nat):Prop where
 f:∀p∈ck.GP,yJ P w K mg base d (Γ p.1) p.1 p.2
structure Gd(ck:Ck)(Γ:Tab)(C:Ct)(d:Nat)(X:Cx):Prop where
 P:C.P=X.prog
 w:C.w=X.w
 K:C.K=X.K
 u:X.A.units+60<Hg
 calm:X.calm=bD
 room:eG d X.A
 blt:∀x∈bx,X.mg x=b5
 fns:∀f∈ck.fns,yI X.prog X.w X.K X.mg X.base d (Γ f) f
 HH:∀p∈ck.gl,∃val v,X.mg p.1=a5 val/\RelV v val/\∀S H,Rep C S H p.2 v
 GP:Tb ck Γ X.prog X.w X.K X.mg X.base d
def Gd.cx(g:Gd ck Γ C d X)(N:List Str)(a:Ir)(D:fS)(s:hH)(H:Hp)(ex:List fS):Gd ck Γ C d (FT X N a D s H ex) :=
 ⟨g.P,g.w,g.K,g.u,g.calm,g.room,g.blt,g.fns,g.HH,g.GP⟩
def bH(h:fm a x=bD):GB a x:=by
 unfold fm at h;simp only[H0,Wo]at h;rcases h with(h|h)|h
 .show .inl h
 .show .inr (.inl h)
 .show .inr (.inr h)
def az(h:bo x=bD):(x==("__debug__":Str))=c2/\(x==("__classdict__":Str))=c2:=by
 unfold bo at h;simpa using h
def bg(h:noStar e=bD):i7 (e::es) env=(c2,D3 e env)::i7 es env:=by
 cases e<;>first|rfl|cases h
def oa(h:dr e=bD):lY e:=by
 intro o i;cases e<;>first|rfl|cases h
def pW(h:pP e=bD):∀x,IV e env x=pure x:=by
 intro x;cases e<;>first|rfl|cases h
def iU(h:mR o=bD):Nr o name env a=a:=by
 cases o with
 |Call f as ks p =>
  cases f with
  |Name x q=>cases as with
   |nil=>cases ks with
    |nil=>cases h
    |cons _ _=>rfl
   |cons _ _=>rfl
  |_=>rfl
 |_=>rfl
def aU(h:∀e∈es,noStar e=bD):(E1 pos (i7 es env)).any (·.1)=c2/\(E1 pos (i7 es env)).all (λx=>!x.1)=bD:=by
 induction es with
 |nil=>show⟨rfl,rfl⟩
 |cons e es a =>
  rw[bg (h e (by simp))];have:=a λb c=>h b (by simp[c]);constructor
  .change(c2||(E1 pos (i7 es env)).any (·.1))=c2;rw[this.1];rfl
  .change(!c2&&(E1 pos (i7 es env)).all (λx=>!x.1))=bD;rw[this.2];rfl
def b8(h:aE k es N c a=bD):∀e∈a,noStar e=bD:=by
 induction es generalizing a with
 |nil =>
  cases a with
  |nil=>intro e he;cases he
  |cons _ _=>simp[aE]at h
 |cons x es b =>
  cases a with
  |nil=>intro e he;cases he
  |cons d a =>
   simp only[aE,b6]at h;intro e he;rcases gs.mp he with rfl|he
   .show h.1.1
   .show b h.2 e he
def lj(a:∀x,fa x=bD->X.fn x=bD)(h:rg X.N X.env.scope fa i e=bD):pK X e i:=by
 cases e with
 |Name x p =>
  simp only[rg,b6,Wo,kC,H0,Dm]at h;show⟨x,p,rfl,h.1.1,?_,?_⟩
  .rcases h.1.2 with z|z
   .show .inl z
   .show .inr z
  .rcases h.2 with z|z
   .show .inl (a x z)
   .show .inr z
 |_=>cases h
theorem jE(a:∀x,fa x=bD->X.fn x=bD):∀{is:List Nat}{es:List l'},mS X.N X.env.scope fa is es=bD->d4 X es is
 |[],[],_=>.nil
 |[],_::_,h=>by cases h
 |_::_,[],h=>by cases h
 |i::is,e::es,h=>by
  simp only[mS,b6]at h;show .cons (lj a h.1) (jE a h.2)
def rn(c:X.calm=bD)(d:C.K=X.K)(a:X.N.Nodup)(b:∀x,fa x=bD->X.fn x=bD)(h:Kx t X.N X.env.scope fa is tg=bD):PG X tg (tG C t is):=by
 cases tg with
 |Name x p =>
  simp only[Kx,b6,rz]at h;have⟨rfl,h⟩:=h;cases is with
  |nil=>cases h
  |cons i is=>cases is with
   |nil=>show Bn a (lj b h)
   |cons _ _=>cases h
 |Tuple es k p =>
  simp only[Kx,b6,lg,Wo]at h;obtain⟨⟨rfl,e⟩,f⟩:=h;show C4 c d a (jE b e) f
 |_=>cases h
def ll(a N:List Str):dv ((a++hide a N).drop a.length) N:=by
 rw[PV rfl];unfold hide;split
 .show .refl N
 .show(dv.refl N).set _ (.inl rfl)
 .show((dv.refl N).set _ (.inl rfl)).set _ (.inr rfl)
abbrev Bf.Ud:Bf->Bool
 |.len=>bD|.sorted=>bD|.repr=>bD|.max=>bD|.min=>bD|.all=>bD|.any=>bD|_=>c2
abbrev Bf.id:Bf->String
 |.len=>"len"|.sorted=>"sorted"|.repr=>"repr"|.max=>"max"|.min=>"min"|.all=>"all"|.any=>"any"
 |.list=>"list"|.tuple=>"tuple"|.str=>"str"|.int=>"int"
 |.FV=>"sorted"
def yK:∀f:Bf,simple f=bD->E6 f.name=a5 f.val/\f.name∈bx/\f.name≠"__name__"/\(f.name==("__debug__":Str))=c2:=by
 intro f h;cases f<;>first|show⟨by decide +kernel,by decide +kernel,by decide +kernel,by decide +kernel⟩|(cases h;done)
def BE:∀f:Bf,simple f=bD->(f.val=.builtin f.id\/f.val=.type f.id):=by
 intro f h;cases f<;>first|show .inl rfl|show .inr rfl|(cases h;done)
def BF:∀f:B2,f.mL∈bx/\f.gD∈bx:=by
 intro f;cases f<;>show⟨by decide +kernel,by decide +kernel⟩
def yL:∀f:Mf,Slot "str" f.name f.id/\Vo (.builtin f.id)=pure (.type "method_descriptor"):=by
 intro f;cases f with
 |split=>show⟨PySem.F.slot_str_split,PySem.F.type_str_split⟩
 |join=>show⟨PySem.F.slot_str_join,PySem.F.type_str_join⟩
 |partition=>show⟨PySem.F.slot_str_partition,PySem.F.type_str_partition⟩
 |endswith=>show⟨PySem.F.slot_str_endswith,PySem.F.type_str_endswith⟩
section
def dO(h:G2 X.env.scope x=bD):Gl X x:=by
 unfold G2 at h;change X.env.kindOf x=a5 .globalImplicit;show Wu h
def og:("isinstance":Str)∈bx:=by decide +kernel
def vM(T:GW):T.name∈bx:=by cases T<;>decide +kernel
def yM:("range":Str)∈bx:=by decide +kernel
def zF(g:Gd ck Γ C d X)(h:eS X.env.scope tg j c=a5 as)(k:PA X as (F' C (a9 Γ src)))(l:∀a,as=[a]->∃e,src=[e]/\PE X a (E4 C (ev Γ e)))(m:∀e∈as,noStar e=bD):PI X tg c (IT C j (a9 Γ src)):=by
 unfold eS at h;split at h
 .cases h;have⟨e,rfl,n⟩:=l _ rfl;show Bl g.K n
 .rw[nc]at h;obtain⟨⟨x,s⟩,o,h⟩:=h;split at h
  .rename_i r;cases h;have⟨f,i,hl⟩:=r
   dsimp only at f i hl
   subst f;have⟨p,q,rfl⟩:=n9 o;have⟨b,rfl⟩:=List.length_eq_one_iff.mp hl;show yt (dO i) (g.blt _ yM) (bg (m _ (by simp))) k
  .cases h
 .cases h
def zG{a:M α}{b:α->M β}{c:α->M γ}{g:γ->M δ}{st:av}{Q:δ->av->Prop}(w:W (a >>= λx=>b x >>= λ_=>c x >>= g) st Q):W ((a >>= λx=>b x >>= λ_=>c x) >>= g) st Q:=by
 simp only[ae]at w ⊢;show w
def aZ:PT X e (F2 C M.fail):=λa s σ H Q I ⟨_,_,_,_,w⟩=>(aQ.mp w).elim
def hZ:PE X e (E4 C M.fail):=λa s σ H Q I ⟨_,_,_,_,w⟩=>(aQ.mp w).elim
def PT.eqv(h:PT X e (F2 C m))(i:∀st Q,W a st Q->W m st Q):PT X e (F2 C a):=PT.weak h λσ H Q ⟨c0,b,c,d,w⟩=>⟨c0,b,c,d,i _ _ w⟩
def Dp(g:Gd ck Γ C d X)(b:PA X a (F' C (a9 Γ es)))
  (h:(dV (x=f.name)&&simple f&&G2 X.env.scope x&&!a.isEmpty&&aE ck es X.N X.env.scope a)=bD):PE X (.Call (.Name x p) a [] pos) (E4 C (ev Γ (.bi f es))):=by
 simp only[b6,Wo,rz]at h;obtain⟨⟨⟨⟨rfl,c⟩,i⟩,r⟩,s⟩:=h;have⟨j,k,l,m⟩:=yK f c;have n:=b8 s;cases a with
 |nil=>cases r
 |cons t o =>
  have st:=bg (env:=X.env) (es:=o) (n t (by simp));have q:=(aU (pos:=pos) (env:=X.env) (es:=o) λe v=>n e (by simp[v])).1;rcases BE f c with hv|hv
  .show yl g.calm g.K g.room.gd g.u hv (dO i) (g.blt _ k) (by rw[j,hv]) l m b st q
  .show ym g.calm g.K g.room.gd g.u hv (dO i) (g.blt _ k) (by rw[j,hv]) l m b st q
def Dq(g:Gd ck Γ C d X)(i:PA X a (F' C (a9 Γ es)))
  (h:(dV (x=f.mL)&&dV (y=f.gD)&&G2 X.env.scope x&&G2 X.env.scope y&&!a.isEmpty&&aE ck es X.N X.env.scope a)=bD):PE X (.Call (.Name x p) [.Call (.Name y p2) a [] pos2] [] pos) (E4 C (ev Γ (.Jo f es))):=by
 simp only[b6,Wo,rz]at h;obtain⟨⟨⟨⟨⟨rfl,rfl⟩,j⟩,k⟩,l⟩,m⟩:=h;have⟨n,o⟩:=BF f;have b:=b8 m;cases a with
 |nil=>cases l
 |cons q c =>
  have st:=bg (env:=X.env) (es:=c) (b q (by simp));have r:=(aU (pos:=pos2) (env:=X.env) (es:=c) λe s=>b e (by simp[s])).1;show yr g.calm g.K (dO j) (g.blt _ n) (dO k) (g.blt _ o) i st r
def Dr(g:Gd ck Γ C d X)(k:PE X o (E4 C (ev Γ a)))(l:PA X b (F' C (a9 Γ es)))
  (h:(dV (name=m.name)&&mR o&&(c.endLine==cpos.line)&&!b.isEmpty&&dV (b.length<20)&&a_ ck a X.N X.env.scope o&&aE ck es X.N X.env.scope b)=bD):PE X (.Call (.Attribute o name c) b [] cpos) (E4 C (ev Γ (.Jp m a es))):=by
 simp only[b6,Wo,rz]at h;obtain⟨⟨⟨⟨⟨⟨rfl,n⟩,p⟩,q⟩,r⟩,w⟩,s⟩:=h;have i:=b8 s;have⟨s1,s2⟩:=yL m;cases b with
 |nil=>cases q
 |cons j f =>
  have st:=bg (env:=X.env) (es:=f) (i j (by simp));have t:=(aU (pos:=cpos) (env:=X.env) (es:=f) λe u=>i e (by simp[u])).1;have v:=(aU (pos:=cpos) (env:=X.env) (es:=j::f) i).2;show yp g.K s1 s2 k l (iU n) ?_ p st t;rw[v];have:(j::f).length+([]:List J5).length+(if ([]:List J5).isEmpty=bD then 0 else 1)<30:=by simp at r ⊢;lia
  simp only[Wt this];rfl
def vN(g:Gd ck Γ C d X)(i:PA X a (F' C (a9 Γ es)))
  (h:(dV (x=f)&&dV (f∈ck.fns)&&G2 X.env.scope x&&bo x&&!a.isEmpty&&aE ck es X.N X.env.scope a)=bD):PE X (.Call (.Name x p) a [] pos) (E4 C (ev Γ (.call f es))):=by
 simp only[b6,Wo,rz]at h;obtain⟨⟨⟨⟨⟨rfl,j⟩,k⟩,l⟩,m⟩,n⟩:=h;have b:=b8 n;have⟨z,fa,fd,A,o,q,r,s,t⟩:=(g.fns _ j).ex;cases a with
 |nil=>cases m
 |cons u c =>
  have st:=bg (env:=X.env) (es:=c) (b u (by simp));have v:=(aU (pos:=pos) (env:=X.env) (es:=c) λe y=>b e (by simp[y])).1;show vj g.P g.w g.K rfl t o g.room (dO k) q r s (az l).1 i st v
def BG(g:Gd ck Γ C d X)(i:PA X a (F' C (a9 Γ es)))
  (h:(dV (x=f)&&dV ((f,is)∈ck.GP)&&G2 X.env.scope x&&bo x&&!a.isEmpty&&aE ck es X.N X.env.scope a)=bD):PE X (.Call (.Name x p) a [] pos) (E4 C (ev Γ (.EW f es is))):=by
 simp only[b6,Wo,rz]at h;obtain⟨⟨⟨⟨⟨rfl,j⟩,k⟩,l⟩,m⟩,n⟩:=h;have b:=b8 n;have⟨z,fa,fd,A,o,q,r,s,t⟩:=(g.GP.f _ j).ex;cases a with
 |nil=>cases m
 |cons u c =>
  have st:=bg (env:=X.env) (es:=c) (b u (by simp));have v:=(aU (pos:=pos) (env:=X.env) (es:=c) λe y=>b e (by simp[y])).1;show vH g.P g.w g.K rfl t o g.room (dO k) q r s (az l).1 (yF i) st v
def c9(h:(b&&aE k es N a c)=bD):aE k es N a c=bD:=(vl.mp h).2
mutual
theorem bq:∀(e:E) (X:Cx) (k:l'),Gd ck Γ C d X->a_ ck e X.N X.env.scope k=bD->PE X k (E4 C (ev Γ e))
 |.var i,X,k,g,h=>by
  have⟨x,A,rfl,p⟩:=ai h;clear h;have h:=p;simp only[b6,Wo]at h;have⟨G,J⟩:=az h.2;show mK h.1.1 (bH h.1.2) G J
 |.cst u,X,k,g,h=>by
  have⟨c,q0,A,rfl,p⟩:=jC h;cases c with
  |int j=>have:=bZ p;subst this;show iT tY λ_ _=>rfl
  |str y=>have:=bZ p;subst this;show iT t5 λ_ _=>rfl
  |bool y=>have:=bZ p;subst this;show iT zr λ_ _=>rfl
  |none=>have:=bZ p;subst this;show iT tZ λ_ _=>rfl
  |_=>cases p
 |.Mw x u,X,k,g,h=>absurd (show c2=bD from h) i0
 |.bin op a b,X,k,g,h=>by
  have⟨a',H_,b',A,rfl,p⟩:=pS h;clear h;have h:=p;simp only[b6,Wo]at h;obtain⟨⟨rfl,L⟩,Y⟩:=h;show x_ g.K (bq a X _ g L) (bq b X _ g Y)
 |.cmp op a b,X,k,g,h=>by
  have⟨a',H_,b',A,rfl,q⟩:=fT h;have h:=q;simp only[b6,Wo,rz]at h;obtain⟨⟨⟨rfl,h0⟩,L⟩,Y⟩:=h;show ya g.P g.w g.K g.u (bq a X _ g L) (bq b X _ g Y) h0
 |.HV o1 o2 a b c,X,k,g,h=>absurd (show c2=bD from h) i0
 |.and es,X,k,g,h=>by
  have⟨EV,A,rfl,p⟩:=g_ h;clear h;have h:=p;show vO es X _ g h
 |.or es,X,k,g,h=>hZ
 |.not a,X,k,g,h=>by
  have⟨a',A,rfl,p⟩:=k_ h;clear h;have h:=p;show yc (bq a X _ g h)
 |.neg a,X,k,g,h=>absurd (show c2=bD from h) i0
 |.bad,X,k,g,h=>hZ
 |.pop i,X,k,g,h=>by
  have⟨o,m,O,as,cpos,rfl,q⟩:=bf h;have⟨x,px,rfl,v⟩:=ai q;simp only[b6,Wo,uv]at v;obtain⟨⟨⟨⟨⟨rfl,rfl⟩,L⟩,Y⟩,G⟩,J⟩:=v;have⟨q1,q2⟩:=az G;show yD L (bH Y) q1 q2 J g.K
 |.Ha i a,X,k,g,h=>by
  have⟨o,m,O,as,cpos,rfl,q⟩:=bf h;have⟨x,px,rfl,v⟩:=ai q;have⟨a',rfl,z3⟩:=aY v;simp only[b6,Wo]at z3;obtain⟨⟨⟨⟨⟨⟨rfl,L⟩,Y⟩,G⟩,J⟩,B⟩,h6⟩:=z3;have⟨q1,q2⟩:=az G;have sa:=aU (pos:=cpos) (env:=X.env) (es:=[a']) λe he=>by rw[js.mp he];show B
  show vF g.K L (bH Y) q1 q2 (bq a X _ g h6) (by rw[sa.2];rfl) J (bg B)
 |.EW f es is,X,k,g,h=>by
  have⟨f',as,A,rfl,q⟩:=aO h;have⟨x,p1,rfl,v⟩:=ai q;show BG g (h_ es X _ g (c9 v)) v
 |.inD neg a i,X,k,g,h=>hZ
 |.Kq i,X,k,g,h=>by
  have⟨x,A,rfl,p⟩:=ai h;clear h;have h:=p;simp only[b6,Wo]at h;have⟨G,J⟩:=az h.2;show yy h.1.1 (bH h.1.2) G J
 |.GX i a b,X,k,g,h=>by
  have⟨o,m,O,as,cpos,rfl,q⟩:=bf h;have⟨x,px,rfl,v⟩:=ai q;have⟨a',b',rfl,z3⟩:=fU v;clear h q;have v:=z3;simp only[b6,Wo]at v;obtain⟨⟨⟨⟨⟨⟨⟨⟨rfl,L⟩,Y⟩,G⟩,J⟩,B⟩,h6⟩,h7⟩,h8⟩:=v;have⟨q1,q2⟩:=az G;have sa:=aU (pos:=cpos) (env:=X.env) (es:=[a',b']) λe he=>by
   rcases gs.mp he with rfl|he
   .show B
   .simp at he;subst he;show h6
  show vD g.u L (bH Y) q1 q2 (bq a X _ g h7) (bq b X _ g h8) ⟨rfl,by rw[sa.2];rfl,J,by rw[bg B,bg h6];rfl⟩
 |.Mx i,X,k,g,h=>by
  obtain⟨f',as,_,rfl,q⟩:=aO h;obtain⟨f,_,rfl,v⟩:=ai q;have⟨c,rfl,z3⟩:=aY v;have⟨o,m,O,bs,cpos,rfl,z4⟩:=bf z3;have⟨x,px,rfl,z5⟩:=ai z4;simp only[b6,Wo,uv]at z5;obtain⟨⟨⟨⟨⟨⟨⟨rfl,rfl⟩,L⟩,rfl⟩,G⟩,J⟩,B⟩,h6⟩:=z5;have⟨q1,q2⟩:=az B;show yC g.calm g.K (dO L) (g.blt _ (by decide +kernel)) G (bH J) q1 q2 h6
 |.My ln a b,X,k,g,h=>hZ
 |.fst es,X,k,g,h=>hZ
 |.G' a T,X,k,g,h=>by
  have⟨f',as,A,rfl,q⟩:=aO h;have⟨x,p1,rfl,v⟩:=ai q;clear h q;have⟨a',b',rfl,z4⟩:=fU v;have⟨y,p2,rfl,z3⟩:=ai z4;have h:=z3;simp only[b6,Wo]at h;obtain⟨⟨⟨⟨⟨rfl,rfl⟩,L⟩,Y⟩,G⟩,J⟩:=h;show qZ g.K (dO L) (g.blt _ og) (dO Y) (g.blt _ (vM T)) (bq a X _ g J) (bg G)
 |.ite c a b,X,k,g,h=>by
  have⟨c',a',b',A,rfl,p⟩:=tq h;clear h;have h:=p;simp only[b6]at h;show yd (jF c X _ g h.1.1) (bq a X _ g h.1.2) (bq b X _ g h.2)
 |.tup es,X,k,g,h=>by
  have⟨l,q0,A,rfl,p⟩:=jD h;clear h;have h:=p;show yh (h_ es X _ g h)
 |.lst es,X,k,g,h=>by
  have⟨l,A,rfl,p⟩:=pT h;clear h;have h:=p;show yi (h_ es X _ g h)
 |.Gp r,X,k,g,h=>by
  have⟨A,rfl⟩:=lh h;show vi g.P g.w r
 |.idx a b,X,k,g,h=>by
  have⟨a',b',A,rfl,p⟩:=cE h;clear h;have h:=p;simp only[b6]at h;show yj g.K g.u (oa h.1.1) (bq a X _ g h.1.2) (bq b X _ g h.2)
 |.IH a lo hi,X,k,g,h=>by
  have⟨a',b',A,rfl,q⟩:=cE h;have⟨Ql,GG,p1,rfl,p⟩:=pU q;clear h q;simp only[b6]at p;show yk g.K (bq a X _ g p.1.1) (Ds lo X _ g p.1.2) (Ds hi X _ g p.2)
 |.bi f es,X,k,g,h=>by
  have⟨f',as,A,rfl,q⟩:=aO h;have⟨x,p1,rfl,v⟩:=ai q;have h:=v;show Dp g (h_ es X _ g (c9 h)) h
 |.Jo f es,X,k,g,h=>by
  have⟨f',as,A,rfl,q⟩:=aO h;have⟨x,p1,rfl,v⟩:=ai q;have⟨c,rfl,z3⟩:=aY v;have⟨g',as',p2,rfl,z4⟩:=aO z3;have⟨y,p3,rfl,z5⟩:=ai z4;have h:=z5;show Dq g (h_ es X _ g (c9 h)) h
 |.Jp m a es,X,k,g,h=>by
  have⟨o,name,O,as,cpos,rfl,q⟩:=bf h;have h:=q;have h':=h;simp only[b6]at h';show Dr g (bq a X _ g h'.1.2) (h_ es X _ g (c9 h)) h
 |.call f es,X,k,g,h=>by
  have⟨f',as,A,rfl,q⟩:=aO h;have⟨x,p1,rfl,v⟩:=ai q;have h:=v;show vN g (h_ es X _ g (c9 h)) h
 |.II a,X,k,g,h=>yu (bq a X _ g h)
 |.comp n t ik src cond e,X,k,g,h=>by
  have⟨elt,tg,ac,al,scope,A,rfl,p⟩:=hJ h;clear h;have h:=p;simp only[b6,Wo]at h;obtain⟨⟨⟨⟨⟨⟨⟨L,Y⟩,G⟩,J⟩,B⟩,h6⟩,h7⟩,h8⟩:=h;subst L;have S:=uF (X:=X) rfl (ll _ _) Y;split at B
  .rename_i as am;have E5:=b8 B;have hI:PI X tg ac (IT C ik (a9 Γ src)):=zF g am (h_ src X _ g B) (λa e=>by
    subst e;cases src with
    |nil=>simp[aE]at B
    |cons e1 FD =>
     cases FD with
     |nil =>
      simp only[aE,b6]at B;show⟨e1,rfl,bq e1 X _ g B.1.2⟩
     |cons _ _=>simp[aE]at B) E5
   show vt S g.calm hI (λD s H ex=>rn (fa:=λx=>dV (scope.names.lookup x=a5 .cell)) g.calm g.K S.nd (λ_ z=>z) G)
    (λD s H ex=>by
     cases al with
     |nil =>
      cases cond with
      |nil=>show λag s σ H Q I ⟨c0,e1,e2,ok,w⟩=>qB ag s σ H Q I (by subst e1 e2;rw[show bb Γ []=pure bD from rfl,ak]at w;show w c0 rfl rfl ok (Nx.refl c0))
      |cons _ _=>simp[aE]at h7
     |cons c1 cs =>
      cases cs with
      |nil =>
       cases cond with
       |nil=>simp[aE]at h7
       |cons e1 FD =>
        cases FD with
        |nil =>
         simp only[aE,b6]at h7;show qC (jF e1 (FT X _ scope D s H ex) c1 (g.cx _ _ _ _ _ _) h7.1.2)
        |cons _ _=>simp[aE]at h7
      |cons _ _=>simp at h6)
    (λD s H ex=>bq e (FT X _ scope D s H ex) elt (g.cx _ _ _ _ _ _) h8) (pW J)
  .cases B
theorem h_:∀(es:List E) (X:Cx) (a:List l'),Gd ck Γ C d X->aE ck es X.N X.env.scope a=bD->PA X a (F' C (a9 Γ es))
 |[],X,a,g,h=>by
  cases a with
  |nil=>show yg
  |cons _ _=>simp[aE]at h
 |e::es,X,a,g,h=>by
  cases a with
  |nil=>simp[aE]at h
  |cons b a =>
   simp only[aE,b6]at h;show vg (bq e X b g h.1.2) (h_ es X a g h.2) (bg h.1.1)
theorem Ds:∀(es:List E) (X:Cx) (o:Option l'),Gd ck Γ C d X->pV ck es X.N X.env.scope o=bD->PO X o (tO C (JP Γ es))
 |[],X,o,g,h=>by
  cases o with
  |none=>show sQ
  |some _=>simp[pV]at h
 |[e],X,o,g,h=>by
  cases o with
  |none=>simp[pV]at h
  |some a=>simp only[pV]at h;show sR (bq e X a g h)
 |_::_::_,X,o,g,h=>by simp[pV]at h
theorem vO:∀(es:List E) (X:Cx) (a:List l'),Gd ck Γ C d X->aE ck es X.N X.env.scope a=bD->∀{pos},PE X (.BoolOp .And a pos) (E4 C (gA Γ es))
 |[],X,a,g,h,pos=>hZ
 |[e],X,a,g,h,pos=>by
  cases a with
  |nil=>simp[aE]at h
  |cons b a =>
   cases a with
   |nil=>simp only[aE,b6]at h;show Ae (bq e X b g h.1.2)
   |cons _ _=>simp[aE]at h
 |e::c::es,X,a,g,h,pos=>by
  cases a with
  |nil=>simp[aE]at h
  |cons b a =>
   have h':noStar b=bD/\a_ ck e X.N X.env.scope b=bD/\aE ck (c::es) X.N X.env.scope a=bD:=by
    rw[aE]at h;simp only[b6]at h;show⟨h.1.1,h.1.2,h.2⟩
   cases a with
   |nil=>have:=h'.2.2;simp[aE]at this
   |cons f i=>show snd_and (bq e X b g h'.2.1) (vO (c::es) X _ g h'.2.2)
theorem jF:∀(e:E) (X:Cx) (j:l'),Gd ck Γ C d X->a_ ck e X.N X.env.scope j=bD->PT X j (F2 C (E8 Γ e))
 |.and es,X,j,g,h=>by
  have⟨H,o,rfl,k⟩:=g_ h;clear h;have h:=k;show(rp es X _ g h).pt
 |.or es,X,j,g,h=>by
  have⟨H,o,rfl,k⟩:=g_ h;clear h;have h:=k;show(vP es X _ g h).pt
 |.not a,X,j,g,h=>by
  have⟨A,o,rfl,k⟩:=k_ h;clear h;have h:=k;show ye (jF a X _ g h)
 |.cmp I a b,X,j,g,h=>by
  have⟨A,J,G,o,rfl,l⟩:=fT h;have h:=l;simp only[b6,Wo,rz]at h;obtain⟨⟨⟨rfl,B⟩,q⟩,s⟩:=h;show yb g.P g.w g.K g.u (bq a X _ g q) (bq b X _ g s) B
 |.HV o1 o2 a b c,X,j,g,h=>absurd (show c2=bD from h) i0
 |.var i,X,j,g,h=>by
  have⟨x,o,rfl,k⟩:=ai h;simp only[b6,Wo]at k;have⟨v,z⟩:=az k.2;show iS (mK k.1.1 (bH k.1.2) v z) g.K λ_=>rfl
 |.idx a b,X,j,g,h=>aZ
 |.bi f es,X,j,g,h=>by
  have⟨f',as,o,rfl,l⟩:=aO h;have⟨x,D,rfl,p⟩:=ai l;have h:=p;show PT.eqv (iS (Dp g (h_ es X _ g (c9 h)) h) g.K λ_=>rfl) λst Q w=>zG w
 |.Jo f es,X,j,g,h=>aZ
 |.Jp m a es,X,j,g,h=>aZ
 |.call f es,X,j,g,h=>by
  have⟨f',as,o,rfl,l⟩:=aO h;have⟨x,D,rfl,p⟩:=ai l;have h:=p;show PT.eqv (iS (vN g (h_ es X _ g (c9 h)) h) g.K λ_=>rfl) λst Q w=>zG w
 |.cst u,X,j,g,h=>aZ
 |.fst es,X,j,g,h=>aZ
 |.Mw x u,X,j,g,h=>aZ
 |.neg a,X,j,g,h=>aZ
 |.G' a T,X,j,g,h=>by
  have⟨f',as,o,rfl,l⟩:=aO h;have⟨x,D,rfl,p⟩:=ai l;clear h l;have⟨A,G,rfl,L⟩:=fU p;have⟨y,p2,rfl,O⟩:=ai L;have h:=O;simp only[b6,Wo]at h;obtain⟨⟨⟨⟨⟨rfl,rfl⟩,q⟩,s⟩,v⟩,z⟩:=h;show PT.eqv (iS (qZ g.K (dO q) (g.blt _ og) (dO s) (g.blt _ (vM T)) (bq a X _ g z) (bg v)) g.K λ_=>rfl) λst Q w=>?_;have w:W (ev Γ a >>= λx=>M.Ff (mI x.2 T)) st Q:=w;simp only[ae]at w ⊢;show W.mono w λx s1 Y=>?_;have⟨b,e,w2⟩:=bX.mp Y;show bX.mpr ⟨b,e,ak.mpr (bX.mpr ⟨b,rfl,w2⟩)⟩
 |.bad,X,j,g,h=>aZ
 |.pop i,X,j,g,h=>aZ
 |.Ha i a,X,j,g,h=>aZ
 |.EW f es is,X,j,g,h=>aZ
 |.inD neg a i,X,j,g,h=>by
  have⟨A,J,G,o,rfl,l⟩:=fT h;have⟨x,D,rfl,p⟩:=ai l;have h:=p;simp only[b6,Wo,rz]at h;obtain⟨⟨⟨⟨⟨rfl,B⟩,q⟩,s⟩,v⟩,z⟩:=h;have⟨q1,q2⟩:=az v;show yz g.u q (bH s) q1 q2 (bq a X _ g z) B
 |.Kq i,X,j,g,h=>aZ
 |.My ln a b,X,j,g,h=>aZ
 |.Mx i,X,j,g,h=>aZ
 |.II a,X,j,g,h=>aZ
 |.GX i a b,X,j,g,h=>aZ
 |.bin I a b,X,j,g,h=>aZ
 |.ite c a b,X,j,g,h=>aZ
 |.tup es,X,j,g,h=>aZ
 |.lst es,X,j,g,h=>aZ
 |.Gp r,X,j,g,h=>aZ
 |.IH a lo hi,X,j,g,h=>aZ
 |.comp n t ik src cond e,X,j,g,h=>aZ
theorem rp:∀(es:List E) (X:Cx) (a:List l'),Gd ck Γ C d X->aE ck es X.N X.env.scope a=bD->∀{pos},PW X (.BoolOp .And a pos) (F2 C (bb Γ es))
 |[],X,a,g,h,pos=>by
  cases a with
  |nil =>
   rintro j c s σ H Q I ⟨c0,rfl,rfl,i,w⟩;rw[show bb Γ []=pure bD from rfl,ak]at w;show Wl ⟨c0.H,I,w c0 rfl rfl i (Nx.refl c0)⟩
  |cons _ _=>simp[aE]at h
 |[e],X,a,g,h,pos=>by
  cases a with
  |nil=>simp[aE]at h
  |cons b a =>
   cases a with
   |nil=>simp only[aE,b6]at h;show xj (jF e X b g h.1.2)
   |cons _ _=>simp[aE]at h
 |e::f::es,X,a,g,h,pos=>by
  cases a with
  |nil=>simp[aE]at h
  |cons b a =>
   have h':noStar b=bD/\a_ ck e X.N X.env.scope b=bD/\aE ck (f::es) X.N X.env.scope a=bD:=by
    rw[aE]at h;simp only[b6]at h;show⟨h.1.1,h.1.2,h.2⟩
   cases a with
   |nil=>have:=h'.2.2;simp[aE]at this
   |cons k l=>show yf (jF e X b g h'.2.1) (rp (f::es) X _ g h'.2.2)
theorem vP:∀(es:List E) (X:Cx) (a:List l'),Gd ck Γ C d X->aE ck es X.N X.env.scope a=bD->∀{pos},PW X (.BoolOp .Or a pos) (F2 C (eO Γ es))
 |[],X,a,g,h,pos=>by
  cases a with
  |nil =>
   rintro j c s σ H Q I ⟨c0,rfl,rfl,i,w⟩;rw[show eO Γ []=pure c2 from rfl,ak]at w;show isTrue_or_nil ⟨c0.H,I,w c0 rfl rfl i (Nx.refl c0)⟩
  |cons _ _=>simp[aE]at h
 |[e],X,a,g,h,pos=>by
  cases a with
  |nil=>simp[aE]at h
  |cons b a =>
   cases a with
   |nil=>simp only[aE,b6]at h;show Ab (jF e X b g h.1.2)
   |cons _ _=>simp[aE]at h
 |e::f::es,X,a,g,h,pos=>by
  cases a with
  |nil=>simp[aE]at h
  |cons b a =>
   have h':noStar b=bD/\a_ ck e X.N X.env.scope b=bD/\aE ck (f::es) X.N X.env.scope a=bD:=by
    rw[aE]at h;simp only[b6]at h;show⟨h.1.1,h.1.2,h.2⟩
   cases a with
   |nil=>have:=h'.2.2;simp[aE]at this
   |cons k l=>show Ba (jF e X b g h'.2.1) (vP (f::es) X _ g h'.2.2)
end
def Dt(g:Gd ck Γ C d X)(b:OW e=bD)(h:a_ ck e X.N X.env.scope f=bD):PE X f (sZ C (ev Γ e)):=by
 cases e with
 |var i =>
  have⟨x,k,rfl,a⟩:=ai h;simp only[b6,Wo]at a;have⟨l,m⟩:=az a.2;show vB a.1.1 (bH a.1.2) l m
 |cst u =>
  have⟨c,n,k,rfl,a⟩:=jC h;cases c with
  |int j=>have:=bZ a;subst this;show gE tY λ_ _=>rfl
  |str y=>have:=bZ a;subst this;show gE t5 λ_ _=>rfl
  |bool y=>have:=bZ a;subst this;show gE zr λ_ _=>rfl
  |none=>have:=bZ a;subst this;show gE tZ λ_ _=>rfl
  |_=>cases a
 |_=>cases b
end
abbrev LJ(b:Ir)(x:Str)(a:Nat):l'->Bool
 |.ListComp elt gens s pos=>dV (b.names.lookup x=a5 .local)&&(a==pos.line)&&!(s.names.any λ(n,k)=>n==x&&(k==.local||k==.cell))
 |_=>c2
abbrev jG(s:HM)(k:l'->Bool):Bool:=match s with|.Expr e _=>k e|_=>c2
def c_(h:jG s k=bD):∃e p,s=.Expr e p/\k e=bD:=by
 unfold jG at h;split at h
 .show⟨_,_,rfl,h⟩
 .cases h
abbrev iD(s:HM)(k:l'->l'->Bool):Bool:=match s with|.Assign ts v _=>dN ts λt=>k t v|_=>c2
def cF(h:iD s k=bD):∃t v p,s=.Assign [t] v p/\k t v=bD:=by
 unfold iD at h;split at h
 .have⟨t,rfl,a⟩:=aY h;show⟨_,_,_,rfl,h⟩
 .cases h
abbrev BH(e:l')(k:Str->Pos->Bool):Bool:=match e with|.Name x p=>k x p|_=>c2
def tv(h:BH e k=bD):∃x p,e=.Name x p/\k x p=bD:=by
 unfold BH at h;split at h
 .show⟨_,_,rfl,h⟩
 .cases h
abbrev vQ(s:HM)(k:l'->U3->l'->Bool):Bool:=match s with|.AugAssign t a b _=>k t a b|_=>c2
def pX(h:vQ s k=bD):∃t a b p,s=.AugAssign t a b p/\k t a b=bD:=by
 unfold vQ at h;split at h
 .show⟨_,_,_,_,rfl,h⟩
 .cases h
abbrev rq(s:HM)(k:Option l'->Bool):Bool:=match s with|.Return v _=>k v|_=>c2
def jH(h:rq s k=bD):∃v p,s=.Return v p/\k v=bD:=by
 unfold rq at h;split at h
 .show⟨_,_,rfl,h⟩
 .cases h
abbrev Du(v:Option l')(k:l'->Bool):Bool:=match v with|some e=>k e|none=>c2
def tw(h:Du v k=bD):∃e,v=a5 e/\k e=bD:=by
 cases v with
 |none=>cases h
 |some e=>show⟨e,rfl,h⟩
abbrev rA(s:HM)(k:l'->List HM->List HM->Bool):Bool:=match s with|.If c a b _=>k c a b|_=>c2
def jI(h:rA s k=bD):∃c a b p,s=.If c a b p/\k c a b=bD:=by
 unfold rA at h;split at h
 .show⟨_,_,_,_,rfl,h⟩
 .cases h
abbrev rB(s:HM)(k:l'->l'->List HM->Bool):Bool:=match s with|.For t i b o _=>o.isEmpty&&k t i b|_=>c2
def jJ(h:rB s k=bD):∃t i b p,s=.For t i b [] p/\k t i b=bD:=by
 unfold rB at h;split at h
 .rw[b6,uv]at h;have⟨rfl,h⟩:=h;show⟨_,_,_,_,rfl,h⟩
 .cases h
abbrev BI(s:HM)(k:l'->List HM->Bool):Bool:=match s with|.While c b o _=>o.isEmpty&&k c b|_=>c2
def tD(h:BI s k=bD):∃c b p,s=.While c b [] p/\k c b=bD:=by
 unfold BI at h;split at h
 .rw[b6,uv]at h;have⟨rfl,h⟩:=h;show⟨_,_,_,rfl,h⟩
 .cases h
abbrev BJ(s:HM)(x:Str):Bool:=jG s λc=>dw c λo m a as cpos=>as.isEmpty&&dV (m="clear")&&(a.endLine==cpos.line)&&isNm o x
def lp(h:BJ s x=bD):∃b a cpos p,s=.Expr (.Call (.Attribute (.Name x b) "clear" a) [] [] cpos) p/\(a.endLine==cpos.line)=bD:=by
 have⟨c,p,rfl,e⟩:=c_ h;have⟨o,m,a,as,cpos,rfl,d⟩:=bf e;simp only[b6,Wo,uv]at d;obtain⟨⟨⟨rfl,rfl⟩,f⟩,g⟩:=d;have⟨b,rfl⟩:=hU g;show⟨b,a,cpos,p,rfl,f⟩
abbrev isIf(s:HM)(k:l'->Bool):Bool:=rA s λc a b=>b.isEmpty&&k c
abbrev Qm(k:Ck)(f:Str)(es:List E)(N:List Str)(a:Ir)(v:l'):Bool:=Dn v f λas=>dV (f∈k.fns)&&G2 a f&&bo f&&!as.isEmpty&&aE k es N a as
abbrev Dv(s:HM)(y:Str)(k:Str->Bool):Bool:=rB s λtg a body=>aR tg λz=>isNm a y&&dN body (λb=>BJ b z)&&k z
def tE(h:Dv s y k=bD):∃z d e f a c g i,s=.For (.Name z d) (.Name y e) [.Expr (.Call (.Attribute (.Name z f) "clear" a) [] [] c) g] [] i/\(a.endLine==c.line)=bD/\k z=bD:=by
 have⟨tg,j,body,i,rfl,m⟩:=jJ h;have⟨z,d,rfl,l⟩:=ai m;rw[b6,b6]at l;obtain⟨⟨n,o⟩,p⟩:=l;have⟨e,rfl⟩:=hU n;have⟨b,rfl,q⟩:=aY o;have⟨f,a,c,g,rfl,r⟩:=lp q;show⟨z,d,e,f,a,c,g,i,rfl,r,p⟩
abbrev MN(N:List Str)(a:Ir)(i:Nat)(y:Str):Bool:=dV (N[i]?=a5 y)&&kC a y&&fm a y&&bo y
abbrev Qn(k:Ck)(i j:Nat)(f:Str)(es:List E)(c:E)(N:List Str)(a:Ir)(s1 s2 s3 s4:HM):Bool:=iD s1 λt v=>aR t λy=>isIf s2 (λb=>a_ k c N a b)&&Qm k f es N a v&&Dv s3 y (MN N a j)&&BJ s4 y&&MN N a i y&&dV (i≠j)
abbrev lq:S->Option (Option (Nat×Nat×Str×List E×E))
 |.Ip i j f es c=>a5 (a5 (i,j,f,es,c))
 |.shr _=>a5 b5
 |_=>b5
def pY(h:lq s=a5 (a5 q)):s=.Ip q.1 q.2.1 q.2.2.1 q.2.2.2.1 q.2.2.2.2:=by
 unfold lq at h;split at h
 .cases h;rfl
 .cases h
 .cases h
def pZ(h:lq s=a5 b5):∃i,s=.shr i:=by
 unfold lq at h;split at h
 .cases h
 .show⟨_,rfl⟩
 .cases h
abbrev four(e:List HM)(k:HM->HM->HM->HM->List HM->Bool):Bool:=match e with
 |a::b::c::d::r=>k a b c d r
 |_=>c2
def tF(h:four e k=bD):∃a b c d r,e=a::b::c::d::r/\k a b c d r=bD:=by
 unfold four at h;split at h
 .show⟨_,_,_,_,_,rfl,h⟩
 .cases h
mutual
noncomputable def Dw(k:Ck):S->List Str->Ir->HM->Bool
 |.set i e,N,d,s=>iD s λt v=>BH t λx p=>dV (N[i]?=a5 x)&&kC d x&&dV (d.kind=.function)&&a_ k e N d v&&(cW v||LJ d x p.line v||(match v with|.ListComp _ _ _ _=>bD|_=>c2))&&(match e with|.comp _ _ _ _ _ _=>bD|_=>cW v)
 |.IJ is e,N,d,s=>iD s λt v=>rm t λ_=>Kx bD N d (λ_=>bD) is t&&cW v&&Bz v&&a_ k e N d v
 |.put i a b,N,d,s=>iD s λt j=>iC t λo g=>aR o λx=>dV (N[i]?=a5 x)&&fm d x&&bo x&&cW j&&dr g&&a_ k a N d g&&a_ k b N d j
 |.app i e,N,d,s=>jG s λc=>dw c λo m f as cpos=>aR o λx=>dN as λa=>dV (m="append")&&dV (N[i]?=a5 x)&&fm d x&&bo x&&(f.endLine==cpos.line)&&noStar a&&a_ k e N d a
 |.ext i e,N,d,s=>jG s λc=>dw c λo m f as cpos=>aR o λx=>dN as λa=>dV (m="extend")&&dV (N[i]?=a5 x)&&fm d x&&bo x&&(f.endLine==cpos.line)&&noStar a&&a_ k e N d a
 |.bad,_,_,_=>bD
 |.newD i,N,d,s=>iD s λt v=>aR t λx=>yH v&&dV (N[i]?=a5 x)&&kC d x
 |.putD i a b,N,d,s=>iD s λt j=>iC t λo g=>aR o λx=>dV (N[i]?=a5 x)&&fm d x&&bo x&&cW j&&dr g&&a_ k a N d g&&a_ k b N d j
 |.Hb i a e,N,d,s=>jG s λc=>dw c λo m f as cpos=>iC o λo' g=>aR o' λx=>dN as λb=>dV (m="append")&&dV (N[i]?=a5 x)&&fm d x&&bo x&&dr g&&(f.endLine==cpos.line)&&noStar b&&a_ k a N d g&&a_ k e N d b&&OW e
 |.aug sub i a e,N,d,s=>vQ s λt r b=>iC t λo g=>aR o λx=>dV (r=if sub=bD then .Sub else .Add)&&dV (N[i]?=a5 x)&&fm d x&&bo x&&dr g&&a_ k a N d g&&a_ k e N d b&&OW e
 |.Mz _,_,_,_=>c2
 |.exp e,N,d,s=>jG s λl=>cW l&&a_ k e N d l
 |.ret e,N,d,s=>rq s λv=>Du v λl=>a_ k e N d l
 |.Hx,N,d,s=>rq s λv=>v.isNone
 |.ite c a b,N,d,s=>rA s λn g j=>a_ k c N d n&&cv k a N d g&&cv k b N d j
 |.Fh t is u src body,N,d,s=>rB s λtg h q=>Kx t N d (λ_=>bD) is tg&&pP h&&(match eS d tg u h with
    |some as=>aE k src N d as
    |none=>c2)&&cv k body N d q
 |.Jq c body,N,d,s=>BI s λn q=>a_ k c N d n&&cv k body N d q
 |.brk,_,_,_=>c2
 |.cnt,_,_,_=>c2
 |.HF _,_,_,_=>c2
 |.Ip _ _ _ _ _,_,_,_=>c2
 |.shr _,_,_,_=>c2
 |.MA,_,_,_=>c2
noncomputable def cv(k:Ck):List S->List Str->Ir->List HM->Bool
 |[],_,_,a=>a.isEmpty
 |s::c,N,b,a=>match lq s with
  |some (a5 q)=>four a λs1 s2 s3 s4 r=>Qn k q.1 q.2.1 q.2.2.1 q.2.2.2.1 q.2.2.2.2 N b s1 s2 s3 s4&&cv k c N b r
  |some b5=>cv k c N b a
  |none=>match a with
   |s'::a=>Dw k s N b s'&&cv k c N b a
   |[]=>c2
end
section
variable{ck:Ck}{Γ:Tab}{C:Ct}{d:Nat}{X:Cx}
def jK(h:kC a x=bD):Loc a x:=by
 unfold kC at h;simp only[H0,Wo]at h;show h
def eT(h:cW v=bD):K8 v t a env=pure c2:=by
 cases v<;>first|rfl|cases h
def mT(h:cW v=bD):LV [t] v a env=pure c2:=by
 rw[LV];show eT h
def yN(h:dr i=bD):∀a b new,Wd i a b new=(do Jb [new,a,b] (NG a b new);Qw [new,a,b] [];pure .next):=by
 intro a b new;cases i<;>first|rfl|cases h
def rC(h:dr i=bD):∀v,M_ (.Subscript o i p) env v=(do
   let a <-Jb [v] (D3 o env)
   let b <-Jb [v,a] (D3 i env)
   R5 p
   Jb [v,a,b] (NG a b v)
   Qw [v,a,b] []):=by
 intro v;cases i<;>first|rfl|cases h
structure Gs(ck:Ck)(Γ:Tab)(C:Ct)(d:Nat)(X:Cx):Prop where
 gd:Gd ck Γ C d X
 nd:X.N.Nodup
 fn:∀x,X.fn x=bD
 po:OT (hW X.prog X.w) X.A X.env X.xe
 kd:X.env.scope.kind=.function
def rD(g:Gd ck Γ C d X)(h:(match eS X.env.scope tg i b with|some as=>aE ck src X.N X.env.scope as|none=>c2)=bD):PI X tg b (IT C i (a9 Γ src)):=by
 split at h
 .rename_i as c;show zF g c (h_ src X _ g h) (λa e=>by
   subst e;cases src with
   |nil=>simp[aE]at h
   |cons f j =>
    cases j with
    |nil =>
     simp only[aE,b6]at h;show⟨f,rfl,bq f X _ g h.1.2⟩
    |cons _ _=>simp[aE]at h) (b8 h)
 .cases h
def jL{pos p a:Pos}(hk:X.env.scope.kind=.function):K8 (.ListComp elt gens s pos) (a5 (.Name x p)) a.line X.env=pure (LJ X.env.scope x p.line (.ListComp elt gens s pos)):=by
 have b:X.env.blockKind=.function:=by
  unfold Env.blockKind;rw[hk];rfl
 change(pure (X.env.blockKind==.function&&X.env.kindOf x==a5 .local&&p.line==pos.line&&!(s.names.any λ(n,k)=>n==x&&(k==.local||k==.cell))):Sem Bool)=_;rw[b];unfold LJ;congr 1
 have:(X.env.kindOf x==a5 NameKind.local)=dV (X.env.scope.names.lookup x=a5 .local):=by
  unfold Env.kindOf;rw[KP];simp
 rw[this];rfl
def BK{src cond:List E}(G:Gs ck Γ C d X)(m:X.N[i]?=a5 x)(y:kC X.env.scope x=bD)
  (h:a_ ck (.comp n t o src cond e) X.N X.env.scope (.ListComp elt [⟨tg,a,b,0⟩] scope pos)=bD) (ns:Nat->Bool) (q:∀j,ns j=bD->j≠i) :
  L2.PS X (.Assign [.Name x p] (.ListComp elt [⟨tg,a,b,0⟩] scope pos) Hr) (FC C ns (ev Γ (.comp n t o src cond e) >>= λr=>eB i r >>= λ_=>pure .nx)):=by
 have g:=G.gd;have u:=bq (.comp n t o src cond e) X _ g h;cases k:LJ X.env.scope x p.line (.ListComp elt [⟨tg,a,b,0⟩] scope pos) with
 |false=>show zC q G.nd m (jK y) (.inl (G.fn x)) u (by rw[jL G.kd,k])
 |true =>
  have hl:X.env.scope.names.lookup x=a5 .local:=by
   simp only[LJ,b6,Wo]at k;show k.1.1
  have⟨Tc,Ue,Qo,Td,OX,p',A,v⟩:=hJ h;cases A;clear h u;simp only[b6,Wo]at v;obtain⟨⟨⟨⟨⟨⟨⟨B,J⟩,L⟩,O⟩,T⟩,Y⟩,c⟩,h8⟩:=v;subst B;have S:=uF (X:=X) rfl (ll _ _) J;show Bs q S g.calm G.nd m hl (rD g T) (λD s H ex=>rn (fa:=λx=>dV (scope.names.lookup x=a5 .cell)) g.calm g.K S.nd (λ_ z=>z) L)
   (λD s H ex=>by
    cases b with
    |nil =>
     cases cond with
     |nil=>show λf s σ H Q I ⟨c0,l,e2,ok,w⟩=>qB f s σ H Q I (by subst l e2;rw[show bb Γ []=pure bD from rfl,ak]at w;show w c0 rfl rfl ok (Nx.refl c0))
     |cons _ _=>simp[aE]at c
    |cons c1 cs =>
     cases cs with
     |nil =>
      cases cond with
      |nil=>simp[aE]at c
      |cons l FD =>
       cases FD with
       |nil =>
        simp only[aE,b6]at c;show qC (jF l (FT X _ scope D s H ex) c1 (g.cx _ _ _ _ _ _) c.1.2)
       |cons _ _=>simp[aE]at c
     |cons _ _=>simp at Y)
   (λD s H ex=>bq e (FT X _ scope D s H ex) elt (g.cx _ _ _ _ _ _) h8) (by rw[jL G.kd,k]) (pW O)
def BL(G:Gs ck Γ C d X)(h:Qm ck f es X.N X.env.scope v=bD):PE X v (ON X C (a9 Γ es) (Γ f))/\∃p a as j,v=.Call (.Name f p) (a::as) [] j:=by
 have⟨as,p2,k,rfl,b⟩:=tu h;simp only[b6,Wo,rz]at b;obtain⟨⟨⟨⟨l,m⟩,n⟩,o⟩,c⟩:=b;have g:=b8 c;have⟨A,fa,fd,B,q,r,s,t,u⟩:=(G.gd.fns _ l).ex;cases as with
 |nil=>cases o
 |cons x i =>
  show⟨?_,_,_,_,_,rfl⟩;have st:=bg (env:=X.env) (es:=i) (g x (by simp));have y:=(aU (pos:=k) (env:=X.env) (es:=i) λe z=>g e (by simp[z])).1;show s_ G.gd.P G.gd.w G.gd.K u q G.gd.room (dO m) r s t (az n).1 (h_ es X _ G.gd c) st y
def yO(G:Gs ck Γ C d X)(h:Qn ck i j f es c X.N X.env.scope s1 s2 s3 s4=bD)(o:FA X r (FC C (Gf b) (execs Γ b))):FA X (s1::s2::s3::s4::r) (FC C (Gf (.Ip i j f es c::b)) (execs Γ (.Ip i j f es c::b))):=by
 have⟨t,v,Y,rfl,g⟩:=cF h;have⟨y,p1,rfl,z⟩:=ai g;clear g h;simp only[b6,Wo,MN]at z;obtain⟨⟨⟨⟨⟨p,q⟩,s⟩,u⟩,⟨⟨⟨A,B⟩,D⟩,k⟩⟩,H⟩:=z;have⟨c',ca,cb,p5,rfl,e⟩:=jI p;simp only[b6,uv]at e;have⟨rfl,e⟩:=e;have⟨I,p2,a0,as,p3,rfl⟩:=BL G q;have⟨x,p6,p7,p8,a8,c8,p9,Kv,rfl,J,l⟩:=tE s;have⟨Qb,Qa,OP,Qc,rfl,L⟩:=lp u;simp only[b6,Wo,MN]at l;obtain⟨⟨⟨O,Q⟩,T⟩,n⟩:=l;show Dk (ns:=Gf b) (λm a=>by
  have a:((dV (m≠i)&&dV (m≠j))&&Gf b m)=bD:=a;simp only[b6,Wo]at a;show⟨a.2,a.1.1,a.1.2⟩) G.gd.K G.nd A (jK B) (G.fn _) (bH D) (az k).1 (az k).2 O (jK Q) (G.fn _) (bH T) (az n).1 (az n).2 H G.po G.gd.calm G.gd.P G.gd.w I (eT rfl) (jF c X _ G.gd e) J L o
mutual
theorem EL:∀(s:S) (X:Cx) (s':HM),Gs ck Γ C d X->Dw ck s X.N X.env.scope s'=bD->L2.PS X s' (FC C (Of s) (exec Γ s))
 |.set i e,X,s',G,h=>by
  have⟨t,v,p1,rfl,f⟩:=cF h;have⟨x,p,rfl,g⟩:=tv f;clear h f;have h:=g;simp only[b6,Wo]at h;obtain⟨⟨⟨⟨⟨l,q⟩,r⟩,k⟩,y⟩,A⟩:=h;have FZ:∀j,Of (.set i e) j=bD->j≠i:=λj J=>Wu (show dV (j≠i)=bD from J);by_cases hc:cW v=bD
  .show zC FZ G.nd l (jK q) (.inl (G.fn x)) (bq e X v G.gd k) (eT hc)
  .cases e with
   |comp n t ik src cond e =>
    obtain⟨elt,tg,ac,al,scope,p3,rfl,_⟩:=hJ k;show BK G l q k _ FZ
   |_=>show absurd A hc
 |.IJ is e,X,s',G,h=>by
  have⟨t,v,p1,rfl,f⟩:=cF h;have⟨es,kk,p,rfl,g⟩:=jD f;clear h f;have h:=g;simp only[b6]at h;obtain⟨⟨⟨l,q⟩,r⟩,k⟩:=h;show Bt (λj J=>Wu (show dV (j∉is)=bD from J)) (bq e X v G.gd k) (rn (fa:=λ_=>bD) G.gd.calm G.gd.K G.nd (λx _=>G.fn x) l) (mT q) ?_ rfl;cases v<;>first|rfl|cases r
 |.put i a b,X,s',G,h=>by
  have⟨t,v,p,rfl,f⟩:=cF h;have⟨o,a',p1,rfl,g⟩:=cE f;have⟨x,px,rfl,L⟩:=ai g;simp only[b6,Wo]at L;obtain⟨⟨⟨⟨⟨⟨l,q⟩,r⟩,k⟩,y⟩,A⟩,h7⟩:=L;have⟨O,Q⟩:=az r;show Dg G.gd.P G.gd.w G.gd.K G.gd.u l (bH q) O Q (bq b X _ G.gd h7) (bq a X _ G.gd A) (mT k) rfl (rC y)
 |.app i e,X,s',G,h=>by
  have⟨c,p0,rfl,f⟩:=c_ h;have⟨o,m,T,as,cpos,rfl,g⟩:=bf f;have⟨x,px,rfl,L⟩:=ai g;have⟨a,rfl,z4⟩:=aY L;simp only[b6,Wo]at z4;obtain⟨⟨⟨⟨⟨⟨rfl,l⟩,q⟩,r⟩,k⟩,y⟩,A⟩:=z4;have⟨O,Q⟩:=az r;have st:=bg (env:=X.env) (es:=[]) y;have sa:=(aU (pos:=cpos) (env:=X.env) (es:=[a]) λe Y=>by simp at Y;subst Y;show y).2;show De G.gd.K l (bH q) O Q (bq e X _ G.gd A) ?_ k st;rw[sa];rfl
 |.ext i e,X,s',G,h=>by
  have⟨c,p0,rfl,f⟩:=c_ h;have⟨o,m,T,as,cpos,rfl,g⟩:=bf f;have⟨x,px,rfl,L⟩:=ai g;have⟨a,rfl,z4⟩:=aY L;simp only[b6,Wo]at z4;obtain⟨⟨⟨⟨⟨⟨rfl,l⟩,q⟩,r⟩,k⟩,y⟩,A⟩:=z4;have⟨O,Q⟩:=az r;have st:=bg (env:=X.env) (es:=[]) y;have sa:=(aU (pos:=cpos) (env:=X.env) (es:=[a]) λe Y=>by simp at Y;subst Y;show y).2;show Df G.gd.K l (bH q) O Q (bq e X _ G.gd A) ?_ k st;rw[sa];rfl
 |.bad,X,s',G,h=>λag sh σ H D I ⟨_,_,_,_,w⟩=>(aQ.mp w).elim
 |.newD i,X,s',G,h=>by
  have⟨t,v,p1,rfl,f⟩:=cF h;have⟨x,p,rfl,g⟩:=ai f;clear h f;have h:=g;simp only[b6,Wo]at h;have⟨p2,rfl⟩:=lh h.1.1;show Bv (λj J=>Wu (show dV (j≠i)=bD from J)) G.nd h.1.2 (jK h.2) (.inl (G.fn _)) (eT rfl)
 |.putD i a b,X,s',G,h=>by
  have⟨t,v,p,rfl,f⟩:=cF h;have⟨o,a',p1,rfl,g⟩:=cE f;have⟨x,px,rfl,L⟩:=ai g;simp only[b6,Wo]at L;obtain⟨⟨⟨⟨⟨⟨l,q⟩,r⟩,k⟩,y⟩,A⟩,h7⟩:=L;have⟨O,Q⟩:=az r;show Bw G.gd.u l (bH q) O Q (bq b X _ G.gd h7) (bq a X _ G.gd A) (mT k) rfl (rC y)
 |.Hb i a e,X,s',G,h=>by
  have⟨c,p0,rfl,f⟩:=c_ h;have⟨o,m,T,as,cpos,rfl,g⟩:=bf f;have⟨o',a',p1,rfl,L⟩:=cE g;have⟨x,px,rfl,z4⟩:=ai L;have⟨b,rfl,z5⟩:=aY z4;simp only[b6,Wo]at z5;obtain⟨⟨⟨⟨⟨⟨⟨⟨⟨rfl,l⟩,q⟩,r⟩,k⟩,y⟩,A⟩,h7⟩,h8⟩,h9⟩:=z5;have ha:=Dt (C:=C) (Γ:=Γ) (d:=d) (ck:=ck) G.gd h9 h8;have⟨O,Q⟩:=az r;have st:=bg (env:=X.env) (es:=[]) A;have sa:=(aU (pos:=cpos) (env:=X.env) (es:=[b]) λe Y=>by simp at Y;subst Y;show A).2;show Bx G.gd.K G.gd.u l (bH q) O Q ha (bq a X _ G.gd h7) (oa k) ?_ y st;rw[sa];rfl
 |.aug sub i a e,X,s',G,h=>by
  have⟨t,op,b,p,rfl,B⟩:=pX h;clear h;have h:=B;have⟨o,a',p1,rfl,f⟩:=cE h;have⟨x,px,rfl,g⟩:=ai f;simp only[b6,Wo]at g;obtain⟨⟨⟨⟨⟨⟨⟨rfl,l⟩,q⟩,r⟩,k⟩,y⟩,A⟩,h7⟩:=g;have ha:=Dt (C:=C) (Γ:=Γ) (d:=d) (ck:=ck) G.gd h7 A;have⟨O,Q⟩:=az r;show Di l (bH q) O Q ha (bq a X _ G.gd y) (yN k)
 |.Mz i,X,s',G,h=>absurd (show c2=bD from h) i0
 |.exp e,X,s',G,h=>by
  have⟨e',p,rfl,B⟩:=c_ h;clear h;have h:=B;simp only[b6]at h;show C7 (bq e X _ G.gd h.2) (eT h.1)
 |.ret e,X,s',G,h=>by
  have⟨v,p,rfl,B⟩:=jH h;have⟨e',rfl,f⟩:=tw B;clear h B;have h:=f;show C8 (bq e X _ G.gd h)
 |.Hx,X,s',G,h=>by
  have⟨v,p,rfl,B⟩:=jH h;cases v with
  |none=>show Br
  |some _=>cases B
 |.ite c a b,X,s',G,h=>by
  have⟨c',a',b',p,rfl,B⟩:=jI h;clear h;have h:=B;simp only[b6]at h;have ha:=gF a X _ G h.1.2;have hb:=gF b X _ G h.2;show C9 (jF c X _ G.gd h.1.1) (FA.weak ha λD σ H z=>jB (λj J=>(vl.mp (show(Gf a j&&Gf b j)=bD from J)).1) z) (FA.weak hb λD σ H z=>jB (λj J=>(vl.mp (show(Gf a j&&Gf b j)=bD from J)).2) z)
 |.Fh t is ik src body,X,s',G,h=>by
  have⟨tg,ac,G3,p,rfl,B⟩:=jJ h;clear h;have h:=B;rw[b6,b6,b6]at h;show Dd G.po G.gd.calm (rD G.gd h.1.2) (rn (fa:=λ_=>bD) G.gd.calm G.gd.K G.nd (λx _=>G.fn x) h.1.1.1) (gF body X _ G h.2) (pW h.1.1.2) λj J=>by have J:(dV (j∉is)&&Gf body j)=bD:=J;simpa using J
 |.Jq c body,X,s',G,h=>by
  have⟨c',G3,p,rfl,B⟩:=tD h;clear h;have h:=B;simp only[b6]at h;show C_ G.po (jF c X _ G.gd h.1) (gF body X _ G h.2)
 |.brk,X,s',G,h=>absurd (show c2=bD from h) i0
 |.cnt,X,s',G,h=>absurd (show c2=bD from h) i0
 |.HF is,X,s',G,h=>absurd (show c2=bD from h) i0
 |.Ip _ _ _ _ _,X,s',G,h=>absurd (show c2=bD from h) i0
 |.shr _,X,s',G,h=>absurd (show c2=bD from h) i0
 |.MA,X,s',G,h=>absurd (show c2=bD from h) i0
theorem gF:∀(b:List S) (X:Cx) (a:List HM),Gs ck Γ C d X->cv ck b X.N X.env.scope a=bD->FA X a (FC C (Gf b) (execs Γ b))
 |[],X,a,G,h=>by
  cases a with
  |nil=>show C6
  |cons _ _=>simp[cv]at h
 |s::b,X,a,G,h=>by
  cases c:lq s with
  |some q =>
   cases q with
   |some q =>
    simp only[cv,c]at h;have⟨s1,s2,s3,s4,r,rfl,z⟩:=tF h;rw[b6]at z;rw[pY c];show yO G z.1 (gF b X r G z.2)
   |none =>
    simp only[cv,c]at h;have⟨i,rfl⟩:=pZ c;show Dl (gF b X a G h)
  |none =>
  cases a with
  |nil=>simp[cv,c]at h
  |cons s' a =>
   simp only[cv,c,b6]at h;have f:=EL s X s' G h.1;have g:=gF b X a G h.2;show Bp (PS.weak f λD σ H z=>jB (λj e=>by simp only[Gf,b6]at e;show e.1) z) (FA.weak g λD σ H z=>jB (λj e=>by simp only[Gf,b6]at e;show e.2) z)
end
end
section
variable{ck:Ck}{Γ:Tab}{d:Nat}{P:vr}{w:x8}{K:PySem.W.Frag}{mg:Str->Option ei}{base:Gz}
def ia{n i:Nat}(h:(start us n)[i]?=a5 (a5 (k,u))):us[i]?=a5 u/\k=if Fu u=bD then .loc else .any:=by
 unfold start at h;by_cases a:i<us.length
 .rw[ti (by simpa using a),i6]at h;rw[tj a]at h ⊢;simp only[Pq,Nv,QJ]at h;have⟨b,c⟩:=h;subst c;show⟨rfl,b.symm⟩
 .rw[m3 (by simp;lia),Fz]at h;split at h<;>cases h
def cG{i:Nat}(h:vs[i]?=a5 v):(L2.start N vs)[i]?=a5 (a5 v):=by
 unfold L2.start;have a:i<vs.length:=(eH.mp h).1;rw[ti (by simpa using a),i6,h];rfl
def vR(p:∀a,c a->Gv H a)(h:ah (Hy P w K H c) c H us vs)(q:N.length=n):Ok (Hy P w K H c) ⟨λ_=>False,H,L2.start N vs,start us n,λ_=>[]⟩:=by
 have f:∀(j:Nat) (u:U),(start us n)[j]?≠a5 (a5 (.B',u)):=λj u e=>by
  have:=(ia e).2;split at this<;>cases this
 show⟨λa o e _=>e,λa z=>z.elim,λa z=>⟨p a z,λz=>z⟩,λa z=>z.elim,?_,λi k u e=>?_,λi j k k' u u' r hk t g m x y=>?_,⟨λj u r e _=>(f j u e).elim,λi j a ⟨u,_,e,_⟩=>(f i u e).elim,λj a ⟨u,_,e,_⟩=>(f j u e).elim⟩⟩
 .have:=h.len;simp[start,L2.start,q];lia
 .have⟨g,m⟩:=ia e;have⟨v,ev,b⟩:=h.get g;show⟨v,cG ev,?_⟩;subst m;by_cases l:Fu u=bD
  .rw[Wq l];show Rep.Fu l b
  .rw[Ws l];show Rep.mv (.up λa z=>.inl z) b
 .obtain⟨_,s⟩:=ia g;subst s;split at hk<;>cases hk
def mU(h:fQ Γ fn us=a5 (.ok (k,u))):us.length=fn.np/\((k=.own\/k=.loc\/k=.any)/\(∃st',execs Γ fn.body (start us fn.ns)=a5 (.ok (.rt k u),st'))\/(k=.loc/\u=.EY/\∃st',execs Γ fn.body (start us fn.ns)=a5 (.ok .nx,st'))):=by
 unfold fQ at h;split at h
 .rename_i hl;show⟨hl,?_⟩;split at h
  .rename_i e;cases h;show .inl ⟨.inl rfl,_,e⟩
  .rename_i e;cases h;show .inl ⟨.inr (.inl rfl),_,e⟩
  .rename_i e;cases h;show .inl ⟨.inr (.inr rfl),_,e⟩
  .rename_i e;cases h;show .inr ⟨rfl,rfl,_,e⟩
  .cases h
  .cases h
 .cases h
def zH{st:HM}(F:Je K fn.name i st f fd)(S:dq N B (aD st))(L:N.length=fn.ns)(O:B.length=fn.np)
  (T:cv ck fn.body N (aD st) (b_ st)=bD) (q:∀x∈bx,mg x=b5) (t:∀g∈ck.fns,yI P w K mg base d (Γ g) g)
  (Y:∀p∈ck.gl,∃b v,mg p.1=a5 b/\RelV v b/\∀(C:Ct) S H,Rep C S H p.2 v) (GP:∀p∈ck.GP,yJ P w K mg base d (Γ p.1) p.1 p.2):iH P w K mg base Hq (d+1) f fd B (spT P w K (fQ Γ fn) fn.np):=by
 show F.ok S (λvs H Q E h=>h.1.trans O.symm) (λD A outer s H vs Q E I h=>?_);have⟨hl,us,k,u,m,GI,hk,Te,y,j⟩:=h;have JS:=I.un;have G:Gs ck Γ (Hy P w K H m) d (nv Hq P w K mg base N i (aD st) f D A outer s H E).Ka :=
  ⟨⟨rfl,rfl,rfl,by change(A.deeper (N3 i (aD st) s.heap.objs.size f D)).units+60<Hg;lia,rfl,I,q,t,λp hp=>let ⟨b,v,q1,q2,q3⟩:=Y p hp;⟨b,v,q1,q2,q3 _⟩,⟨GP⟩⟩,S.nd,λ_=>rfl,Tq,S.kind⟩
 show⟨_,gF fn.body _ _ G T,⟨λ_=>False,H,L2.start N vs,start us fn.ns,λ_=>[]⟩,rfl,rfl,vR Te y L,?_⟩;obtain⟨_,OY⟩:=mU GI;have J:∀(c:Cf),Ok (Hy P w K H m) c->∀v,Bo (Hy P w K H m) c k u v->Back (Hy P w K H m) H c.H c.S k u v:=λc l v r=>by
  show⟨λa o e=>l.same a o e λz=>z,λa z=>l.Gi a z,λe=>?_,λe=>?_,λe=>?_⟩
  .subst e;have⟨r0,e,h1,h2,h3,h4⟩:=r;show⟨r0,e,h1,h2,h4⟩
  .subst e;show r
  .subst e;show r
 rcases OY with⟨_,st',e⟩|⟨rfl,rfl,st',e⟩
 .show⟨_,st',e,λc ec l n kp v r=>j v c.H c.S (J c l v r)⟩
 .show⟨_,st',e,λc ec l n kp=>j .EY c.H c.S (J c l .EY rfl)⟩
def fV(h:(cq is us n)[i]?=a5 (a5 (k,u))):us[i]?=a5 u/\k=if i∈is then .io else if Fu u=bD then .loc else .any:=by
 unfold cq at h;by_cases a:i<us.length
 .rw[ti (by simpa using a),i6,List.getElem?_zipIdx]at h;rw[tj a]at h ⊢;simp only[Pq,Nv,QJ,Nat.zero_add]at h;have⟨b,c⟩:=h;subst c;show⟨rfl,b.symm⟩
 .rw[m3 (by simp;lia),Fz]at h;split at h<;>cases h
def tH(a:By C C.H₀ is us vs)(t:N.length=n):Ok C ⟨λ_=>False,C.H₀,L2.start N vs,cq is us n,λ_=>[]⟩:=by
 have h:∀(j:Nat) (u:U),(cq is us n)[j]?≠a5 (a5 (.B',u)):=λj u e=>by
  have:=(fV e).2;split at this
  .cases this
  .split at this<;>cases this
 have rt:∀(j:Nat) (k:Kd) (u:U),k.root=bD->(cq is us n)[j]?=a5 (a5 (k,u))->j∈is/\us[j]?=a5 u:=λj k u hk e=>by
  have⟨f,b⟩:=fV e;show⟨?_,f⟩;by_cases z:j∈is
  .show z
  .rw[Ws z]at b;subst b;split at hk<;>cases hk
 show⟨λa o e _=>e,λa z=>z.elim,λx z=>a.par x z,λx z=>⟨a.Qh x z,a.Qh x z⟩,?_,λi k u e=>?_,λi j k k' u u' r hk y f b m p=>?_,⟨λj u r e _=>(h j u e).elim,λi j a ⟨u,_,e,_⟩=>(h i u e).elim,λj a ⟨u,_,e,_⟩=>(h j u e).elim⟩⟩
 .have:=a.len;simp[cq,L2.start,t];lia
 .have⟨f,b⟩:=fV e;by_cases z:i∈is
  .rw[Wq z]at b;subst b;have⟨r,g,c,A⟩:=a.io i u z f;show⟨_,cG g,r,rfl,λz=>z,λz=>(a.par r z).2 c,c,A⟩
  .rw[Ws z]at b;have⟨v,g,c⟩:=a.any i u z f;show⟨v,cG g,?_⟩;subst b;by_cases l:Fu u=bD
   .rw[Wq l];show Rep.Fu l c
   .rw[Ws l];show Rep.mv (.up λa z=>.inl z) c
 .have⟨q,B⟩:=rt i k u hk f;have⟨s,D⟩:=rt j k' u' y b;obtain⟨G,g,_⟩:=a.io i u q B;obtain⟨H,c,_⟩:=a.io j u' s D;rw[cG g]at m;rw[cG c]at p;cases m;cases p;show a.inj i j _ q s g c
theorem rE:∀{is:List Nat}{st:av}{ws:List U},JQ is st=a5 ws->ws.length=is.length/\∀(n i:Nat),is[n]?=a5 i->∃w,ws[n]?=a5 w/\st[i]?=a5 (a5 (.io,w))
 |[],_,_,h=>by cases h;show⟨rfl,λn i e=>by simp at e⟩
 |i::is,st,ws,h=>by
  unfold JQ at h;split at h
  .rename_i u c;rw[fx]at h;have⟨k,h,rfl⟩:=h;have⟨a,b⟩:=rE h;show⟨by simp[a],λn j e=>?_⟩;cases n with
   |zero=>simp at e;subst e;show⟨u,rfl,c⟩
   |succ n=>have⟨w,f,g⟩:=b n j (by simpa using e);show⟨w,by simpa using f,g⟩
  .cases h
def rF(h:fk Γ fn is body us=a5 (.ok r)):us.length=fn.np/\∃f st k u ws,execs Γ body (cq is us fn.ns)=a5 (.ok f,st)/\MB f=a5 (k,u)/\JQ is st=a5 ws/\r=(k,.tup (u::ws)):=by
 unfold fk at h;split at h
 .rename_i hl;show⟨hl,?_⟩;split at h
  .rename_i f st e;obtain⟨⟨k,u⟩,a,h⟩:=nc.mp h;rw[fx]at h;have⟨ws,b,c⟩:=h;cases c;show⟨f,st,k,u,ws,e,a,b,rfl⟩
  .cases h
 .cases h
def BM{st:HM}(F:Je K fn.name j st f fd)(S:dq N L (aD st))(hN:N.length=fn.ns)(Ge:L.length=fn.np)(FZ:∀i∈is,Gf body i=bD)
  (J3:cv ck body N (aD st) (b_ st)=bD) (B:∀x∈bx,mg x=b5) (D:∀g∈ck.fns,yI P w K mg base d (Γ g) g)
  (HH:∀p∈ck.gl,∃b v,mg p.1=a5 b/\RelV v b/\∀(C:Ct) S H,Rep C S H p.2 v) (GP:∀p∈ck.GP,yJ P w K mg base d (Γ p.1) p.1 p.2):iH P w K mg base Hq (d+1) f fd L (ML P w K (fk Γ fn is body) fn.np is):=by
 show F.ok S (λvs H Q E h=>h.1.trans Ge.symm) (λO A outer s H vs Q E T h=>?_);have⟨hl,us,k,u,ws,o,IO,GI,hk,I,l⟩:=h;have JS:=T.un;have G:Gs ck Γ (H9 P w K H o IO) d (nv Hq P w K mg base N j (aD st) f O A outer s H E).Ka :=
  ⟨⟨rfl,rfl,rfl,by change(A.deeper (N3 j (aD st) s.heap.objs.size f O)).units+60<Hg;lia,rfl,T,B,D,λp hp=>let ⟨b,v,q1,q2,q3⟩:=HH p hp;⟨b,v,q1,q2,q3 _⟩,⟨GP⟩⟩,S.nd,λ_=>rfl,Tq,S.kind⟩
 show⟨_,gF body _ _ G J3,⟨λ_=>False,H,L2.start N vs,cq is us fn.ns,λ_=>[]⟩,rfl,rfl,tH (C:=H9 P w K H o IO) I hN,?_⟩;obtain⟨_,Y,st',k',u',Iq,e,q,e2,e3⟩:=rF GI;cases e3;have⟨l1,l2⟩:=rE e2;have mk:∀(c:Cf),c.st=st'->Ok (H9 P w K H o IO) c->Kept (Gf body) ⟨λ_=>False,H,L2.start N vs,cq is us fn.ns,λ_=>[]⟩ c->∀v,Bo (H9 P w K H o IO) c k u v->zE (H9 P w K H o IO) H c.H c.S is vs ws k u v:=λc t m y v r=>by
  show⟨m.same,λa z=>m.Gi a z,λe=>?_,λe=>?_,l1,λn i r w g1 g2 g3=>?_⟩
  .subst e;have⟨r0,e,h1,h2,h3,h4⟩:=r;show⟨r0,e,h1,h2,h4⟩
  .subst e;show r
  .have⟨w',z1,z2⟩:=l2 n i g1;rw[g3]at z1;cases z1;rw[<-t]at z2;obtain⟨v',J,r',y2,_,_,_,y3⟩:=m.sl i _ _ z2;have hi:i∈is:=sx g1;rw[y.1 i (FZ i hi)]at J;rw[show(L2.start N vs)[i]?=a5 (a5 (.ref r)) from cG g2]at J;cases J;cases y2;show y3
 show⟨Y,st',e,λc t m n y=>?_⟩;cases Y with
 |nx=>cases q;show l .EY c.H c.S (mk c t m y .EY rfl)
 |rt k0 u0=>cases k0<;>first|(cases q;done)|(cases q;show λv r=>l v c.H c.S (mk c t m y v r))
 |_=>cases q
abbrev Fn.bd(fn:Fn):List S:=match fn.io with|some (_,b)=>b|none=>fn.body
abbrev MO(fn:Fn):Bool:=match fn.io with|some (is,b)=>is.all λi=>Gf b i|none=>bD
abbrev MP(ck:Ck)(Pg:List Fn):Bool:=ck.fns.all (λg=>Pg.any λfn=>dV (fn.name=g)&&fn.io.isNone)&&ck.GP.all λp=>Pg.any λfn=>dV (fn.name=p.1)&&dV (fn.io.map (·.1)=a5 p.2)
structure Ld(ck:Ck)(K:PySem.W.Frag)(mg:Str->Option ei)(fn:Fn):Prop where
 ex:∃(qual:Str) (st:HM) (f:fS) (fd:Ni) (N ps:List Str),Je K fn.name qual st f fd/\mg fn.name=a5 (.ref f)/\Binds K fd ps []/\dq N ps (aD st)/\N.length=fn.ns/\ps.length=fn.np/\cv ck fn.bd N (aD st) (b_ st)=bD/\MO fn=bD
def yP{Pg:List Fn}(a:(Pg.map (·.name)).Nodup)(h:fn∈Pg):Pg.find? (λg=>dV (g.name=fn.name))=a5 fn:=by
 induction Pg with
 |nil=>cases h
 |cons g Pg b =>
  rw[gj,nC]at a;rcases gs.mp h with rfl|h
  .simp
  .rw[JB];have:dV (g.name=fn.name)=c2:=by
    apply Wr;intro z;show a.1 (z▸LM h)
   rw[this];show b a.2 h
def p_(a:(Pg.map (·.name)).Nodup)(h:fn∈Pg):E7 Pg (d+1) fn.name=gZ (E7 Pg d) fn:=by
 funext us
 change(match Pg.find? λg=>dV (g.name=fn.name) with|some fn=>gZ (E7 Pg d) fn us|none=>b5)=_;rw[yP a h]
def lr(h:fn.io=b5):gZ Γ fn=fQ Γ fn:=by funext us;unfold gZ;rw[h]
def tI(h:fn.io=a5 (is,b)):gZ Γ fn=fk Γ fn is b:=by funext us;unfold gZ;rw[h]
def rG(O:(Pg.map (·.name)).Nodup)(o:MP ck Pg=bD)(q:∀x∈bx,mg x=b5)(T:∀p∈ck.gl,∃t v,mg p.1=a5 t/\RelV v t/\∀(C:Ct) S H,Rep C S H p.2 v)
  (ld:∀fn∈Pg,Ld ck K mg fn):∀d,(∀g∈ck.fns,yI P w K mg base d (E7 Pg d g) g)/\∀p∈ck.GP,yJ P w K mg base d (E7 Pg d p.1) p.1 p.2:=by
 simp only[MP,b6,lg,PB,Wo]at o;intro d;induction d with
 |zero =>
  show⟨λg I=>?_,λp J=>?_⟩
  .obtain⟨fn,i,rfl,_⟩:=o.1 g I;obtain⟨a,st,f,fd,N,j,F,l,m,S,B,n,_⟩:=(ld fn i).ex;show⟨fn.np,f,fd,j,⟨λvs H Q E h=>h.1.trans n.symm,λA outer s H args us vs Q E _ _ _ _ h=>by obtain⟨_,us,k,u,_,e,_⟩:=h;cases e⟩,l,F.kp,m,λus k u e=>by cases e⟩
  .obtain⟨fn,i,e,_⟩:=o.2 p J;obtain⟨a,st,f,fd,N,j,F,l,m,S,B,n,_⟩:=(ld fn i).ex;show⟨fn.np,f,fd,j,⟨λvs H Q E h=>h.1.trans n.symm,λA outer s H args us vs Q E _ _ _ _ h=>by obtain⟨_,us,k,u,_,_,_,e,_⟩:=h;cases e⟩,e▸l,F.kp,m,λus k e=>by cases e⟩
 |succ d G =>
  show⟨λg I=>?_,λp J=>?_⟩
  .have⟨fn,i,rfl,c⟩:=o.1 g I;rw[Mg]at c;obtain⟨a,st,f,fd,N,j,F,l,m,S,B,n,D,_⟩:=(ld fn i).ex;rw[p_ O i,lr c];rw[show fn.bd=fn.body by unfold Fn.bd;rw[c]]at D;show⟨fn.np,f,fd,j,zH F S B n D q G.1 T G.2,l,F.kp,m,λus k u e=>?_⟩;have⟨h1,h2⟩:=mU e;show⟨?_,h1⟩;rcases h2 with⟨z,_⟩|⟨z,_⟩
   .show z
   .show .inr (.inl z)
  .have⟨fn,i,e,c⟩:=o.2 p J;rw[fx]at c;obtain⟨⟨is,b⟩,c,Y⟩:=c;have⟨x,y⟩:=p
   dsimp only at e Y
   subst e Y;have⟨a,st,f,fd,N,j,F,l,m,S,B,n,D,L⟩:=(ld fn i).ex;rw[p_ O i,tI c];rw[show fn.bd=b by unfold Fn.bd;rw[c]]at D;unfold MO at L;rw[c]at L;show⟨fn.np,f,fd,j,BM F S B n (lg.mp L) D q G.1 T G.2,l,F.kp,m,λus r e=>(rF e).1⟩
end
abbrev qa(ns:List Int):U:=.HS (ns.map .int)
theorem lu{S:fS->Prop}:∀(ns:List Int),ah C S H (ns.map .int) (ns.map V.int)
 |[]=>rfl
 |n::ns=>⟨_,_,rfl,rfl,lu ns⟩
def qb(h:Fj C.K H a (ns.map V.int)):Rep C (Gv H) H (qa ns) (.ref a):=by
 show⟨a,_,rfl,?_,lu ns⟩;rcases h with(h|⟨o,h⟩)|h
 .show .inl ⟨⟨_,h⟩,.inl h⟩
 .show .inl ⟨⟨_,h⟩,.inr ⟨o,h⟩⟩
 .show .inr h
theorem oh:∀{l:List α},(∀a∈l,f a=g a)->l.filterMap f=l.filterMap g
 |[],_=>rfl
 |a::l,h=>by rw[IZ,IZ,h a (by simp),oh λb c=>h b (by simp[c])]
theorem rH:∀(l:List Str) (us:List ei),l.Nodup->us.length=l.length->l.filterMap (λn=>((l.zip us).lookup n).map (n,·))=l.zip us
 |[],_,_,_=>rfl
 |a::l,[],_,h=>nomatch h
 |a::l,u::us,b,h=>by
  rw[nC]at b;have c:=rH l us b.2 (by simpa using h);simp only[Mh,IZ,lb,beq_self_eq_true,Pq];congr 1
  conv=>rhs;rw[<-c]
  show oh λn d=>?_;have:(n==a)=c2:=by
   rw[beq_eq_false_iff_ne];rintro rfl;show b.1 d
  rw[this]
def vS(l:List Str)(us:List ei)(h:us.length=l.length):l.filter (λn=>((l.zip us).lookup n).isNone)=[]:=by
 rw[Nq];intro n hn;induction l generalizing us with
 |nil=>cases hn
 |cons a l b =>
  cases us with
  |nil=>cases h
  |cons u us =>
   simp only[Mh,lb];cases e:n==a with
   |true=>simp
   |false =>
    rcases gs.mp hn with rfl|hn
    .simp at e
    .show b us (by simpa using h) hn
def vT{kV a b c ct:ei}(d:(as.map (·.arg)).Nodup)(hl:us.length=(as.map (·.arg)).length):
  Wc (PySem.W.fnOf x q ⟨[],as,b5,[],[],b5,[]⟩ body scope .none kV a b m c ct) ⟨us,[]⟩=pure ((as.map (·.arg)).zip us):=by
 have e:=rH _ us d hl;have f:=vS _ us hl;change(if _ then _ else _)=_;rw[Ws (by simp[hl])];have g:∀k:Nat,¬(!(((as.map (·.arg)).take k).filter λn=>(((as.map (·.arg)).zip us).lookup n).isNone).isEmpty)=bD:=λk=>by
  rw[Nq.mpr λn h=>Nq.mp f n (List.mem_of_mem_take h)];show i0
 show(Ws (g _)).trans ?_;have hz:∀(l:List Str) (i j:Nat),(l.drop i).zip ((b5.getD #[]:Array ei).toList.drop j)=[]:=λl i j=>by rw[show(b5.getD #[]:Array ei).toList=[] from rfl,List.drop_nil,List.zip_nil_right]
 show Eq.trans (Wv (λz=>Bind.bind (forIn z _ _) _) (hz _ _ _)) ?_;show Wv (pure:List (Str×ei)->Sem (List (Str×ei))) ((Wv (List.filterMap _) (x2 _)).trans e)
structure Me where
 fn:Fn
 i:Nat
 N:List Str
 a:fS
 c:fS
 m:ei
 cr:Obj
abbrev Me.fd(top:Nat->HM)(m:Me):Ni:=PySem.W.fnOf m.fn.name m.fn.name (eY (top m.i)) (b_ (top m.i)) (aD (top m.i)) .none .none .none m.m b5 (.ref m.c) .none
abbrev Me.fo(top:Nat->HM)(m:Me):Obj:=⟨.type "function",b5,.func (m.fd top),#[]⟩
@[reducible]def Gx:=Obj
abbrev adr(ms:List Me):List fS:=3::ms.flatMap λm=>[m.c,m.a]
abbrev Hf(top:Nat->HM)(g:Gx)(ms:List Me):PySem.W.Frag:=(3,g)::ms.flatMap λm=>[(m.c,m.cr),(m.a,m.fo top)]
def rJ(top:Nat->HM)(g:Gx)(ms:List Me):adr ms=(Hf top g ms).map (·.1):=by
 unfold adr Hf;rw[gj,List.map_flatMap];rfl
abbrev BN(v:Option (Option ei))(a:fS):Bool:=match v with|some (a5 (.ref b))=>dV (b=a)|_=>c2
def yQ(h:BN v a=bD):v=a5 (a5 (.ref a)):=by
 unfold BN at h;split at h
 .rw[Wu h]
 .cases h
abbrev nn(o:Option (Option ei)):Bool:=match o with|some b5=>bD|_=>c2
def Dx(h:nn o=bD):o=a5 b5:=by
 unfold nn at h;split at h
 .rfl
 .cases h
abbrev Dy(p:Arguments)(a:List Str):Bool:=p.posonlyargs.isEmpty&&p.vararg.isNone&&p.kwonlyargs.isEmpty&&p.kw_defaults.isEmpty&&p.kwarg.isNone&&p.defaults.isEmpty&&dV (p.args.map (·.arg)=a)
abbrev Qp(N:List Str)(b:Nat)(a:Ir):Bool:=dV (a.kind=.function)&&dV (a.isCoroutine=c2)&&dV (a.isGenerator=c2)&&decide N.Nodup&&(N.take b).all (kC a)&&a.names.all (λy=>dV (y.2≠.free))
abbrev Qq(ck:Ck)(top:Nat->HM)(K:PySem.W.Frag)(m:Me):Bool:=PySem.W.codeIn K (.ref m.c) m.fn.name&&PySem.W.keepIn K (.ref m.a)&&BN (PySem.W.nsIn K z8 m.fn.name) m.a&&Dy (eY (top m.i)) (m.N.take m.fn.np) &&
 Qp m.N m.fn.np (aD (top m.i))&&dV (m.N.length=m.fn.ns)&&dV (m.fn.np<=m.fn.ns)&&(cv ck m.fn.bd m.N (aD (top m.i)) (b_ (top m.i))&&MO m.fn)
abbrev Qr(K:PySem.W.Frag)(p:Str×U):Bool:=match p.2,PySem.W.nsIn K z8 p.1 with
 |.int i,a5 (a5 (.int j _))=>dV (i=j)
 |.str i,a5 (a5 (.str j _))=>dV (i=j)
 |_,_=>c2
abbrev Ju(ck:Ck)(top:Nat->HM)(K:PySem.W.Frag)(ms:List Me):Bool:=ms.all (Qq ck top K)&&bx.all (λy=>nn (PySem.W.nsIn K z8 y))&&ck.gl.all (Qr K)&&dV (K.map (·.1)).Nodup
def Dz{K:PySem.W.Frag}(b:(K.map (·.1)).Nodup)(h:(a,o)∈K):K.lookup a=a5 o:=by
 induction K with
 |nil=>cases h
 |cons p K c =>
  rw[gj,nC]at b;rw[lb];rcases gs.mp h with rfl|h
  .simp
  .have:(a==p.1)=c2:=by
    rw[beq_eq_false_iff_ne];rintro rfl;show b.1 (l0.mpr ⟨_,h,rfl⟩)
   rw[this];show c b.2 h
section
def zI(c:Ju ck top (Hf top g ms) ms=bD)(h:m∈ms):Je (Hf top g ms) m.fn.name m.fn.name (top m.i) m.a (m.fd top)/\PySem.W.nsIn (Hf top g ms) z8 m.fn.name=a5 (a5 (.ref m.a)) /\
  (∀us:List ei,us.length=(m.N.take m.fn.np).length->Wc (m.fd top) ⟨us,[]⟩=pure ((m.N.take m.fn.np).zip us))/\dq m.N (m.N.take m.fn.np) (aD (top m.i))/\m.N.length=m.fn.ns/\(m.N.take m.fn.np).length=m.fn.np/\(cv ck m.fn.bd m.N (aD (top m.i)) (b_ (top m.i))=bD/\MO m.fn=bD):=by
 simp only[Ju,b6,Wo]at c;have z:=lg.mp c.1.1.1 m h;simp only[Qq,b6,Wo]at z;obtain⟨⟨⟨⟨⟨⟨⟨j,k⟩,l⟩,b⟩,d⟩,n⟩,u⟩,o⟩:=z;simp only[Qp,b6,Wo]at d;obtain⟨⟨⟨⟨⟨s1,s2⟩,s3⟩,s4⟩,p⟩,q⟩:=d;have r:(Hf top g ms).lookup m.a=a5 (m.fo top):=Dz c.2 (gs.mpr (.inr (List.mem_flatMap.mpr ⟨m,h,by simp⟩)));have hl:(m.N.take m.fn.np).length=m.fn.np:=by rw[ve];lia
 show⟨Az r j k,yQ l,λus f=>?_,⟨s1,s2,s3,s4,by rw[hl],λx s=>?_,λy t=>?_⟩,n,hl,o⟩
 .unfold Me.fd;revert b;cases eY (top m.i) with
  |mk v as w A B kw C =>
   intro b;simp only[Dy,b6,uv,Mg,Wo]at b;obtain⟨⟨⟨⟨⟨⟨rfl,rfl⟩,rfl⟩,rfl⟩,rfl⟩,rfl⟩,e⟩:=b;rw[<-e]at f ⊢;show vT (by rw[e];show(UI _ _).nodup s4) f
 .have:=lg.mp p x s;simpa[kC] using this
 .have:=lg.mp q y t;simpa using this
def DA{h:Gz}{mg:Str->Option ei}(i:Ju ck top (Hf top g ms) ms=bD)(X:(Hf top g ms).In h)(G:h.Ns z8 mg){m:Me}(j:m∈ms):Ld ck (Hf top g ms) mg m.fn :=
 let ⟨a,b,c,d,e,f,k⟩:=zI i j
 ⟨_,_,_,_,_,_,a,PySem.W.mg_of X G b,.all c,d,e,f,k⟩
def BO(d:Ju ck top (Hf top g ms) ms=bD)(X:(Hf top g ms).In h)(G:h.Ns z8 mg):∀p∈ck.gl,∃a v,mg p.1=a5 a/\RelV v a/\∀(C:Ct) S H,Rep C S H p.2 v:=by
 intro p e;simp only[Ju,b6,Wo]at d;have z:=lg.mp d.1.2 p e;unfold Qr at z;split at z
 .rename_i i j k b c;obtain rfl:=Wu z;show⟨_,.int i,PySem.W.mg_of X G c,⟨_,rfl⟩,λ_ _ _=>by rw[b];rfl⟩
 .rename_i i j k b c;obtain rfl:=Wu z;show⟨_,.str i,PySem.W.mg_of X G c,⟨_,rfl⟩,λ_ _ _=>by rw[b];rfl⟩
 .cases z
end
def walk{l:PySem.W.OpenLaw}{K:Ux->PySem.W.Frag}
  (A:l.most=a5 63) (B:d.params.defaults=[]) (D:eG (dp+1) N0) (I:∀(w:x8) (h:Gz),J w h->(K w.params).In h)
  (j:(Pg.map (·.name)).Nodup) (r:MP ck Pg=bD) (L:fn.io=b5) (O:fn∈Pg) (Ia:fn.name=d.name)
  (F:∀(w:x8) (mg:Str->Option ei) (fa:fS) (h:Gz),(K w.params).In h->h.Ns z8 mg->mg d.name=a5 (.ref fa) ->
   (∀y∈bx,mg y=b5)/\(∀p∈ck.gl,∃i v,mg p.1=a5 i/\RelV v i/\∀(C:Ct) S H,Rep C S H p.2 v)/\(∀g∈Pg,Ld ck (K w.params) mg g) /\
   ∃(c:Str) (st:HM) (fd:Ni) (N:List Str),Je (K w.params) fn.name c st fa fd/\dq N [x] (aD st)/\N.length=fn.ns/\1=fn.np/\cv ck fn.body N (aD st) (b_ st)=bD/\∀(s:hH) (u:ei),Uz s fd ⟨[u],[]⟩ [(x,u)])
  (T:∀ns:List Int,ns.length<=63->E7 Pg (dp+1) fn.name [qa ns]=a5 (.ok (.loc,.bl bD))) :
  PySem.W.WalkO q m XP J l.row.toRowW d [] (λf vs=>PySem.call f vs) :=
 L2.xC (n:=63) (k:=dp+1) (x:=x) (CX:=λ_=>Hq) (sp:=λw=>spT l.prog w (K w.params) (fQ (E7 Pg dp) fn) fn.np) A (by decide) B D I
  (λw mg fa h Q G Y=>by
   have⟨e,o,ld,c,st,fd,N,F1,S,hN,Ge,hc,hb⟩:=F w mg fa h Q G Y;show⟨fd,hb,λbase _ _=>zH F1 S hN Ge hc e (rG j r e o ld dp).1 o (rG j r e o ld dp).2⟩)
  (λw H a ns hl _ hS=>by
   have t:=T ns hl;rw[p_ j O,lr L]at t;have Tg:fn.np=1:=(mU t).1.symm;show⟨Tg.symm,[qa ns],.loc,.bl bD,Gv H,t,.inr (.inl rfl),λ_ z=>z,⟨_,_,rfl,qb hS,rfl⟩,λv H' S' b=>b.loc rfl⟩)
  λ_ _ _ _ _ z=>z
def walk2{l:PySem.W.OpenLaw}{g:Ux->Obj}
  (z:l.most=a5 63) (A:d.params.defaults=[]) (B:eG (dp+1) N0) (o:ms.map (·.fn)=Pg) (C:(Pg.map (·.name)).Nodup) (D:MP ck Pg=bD) (p:m.fn.io=b5) (r:m∈ms) (t:m.fn.name=d.name) (H:m.N.take m.fn.np=[x])
  (ok:∀P,Ju ck top (Hf top (g P) ms) ms=bD) (T:∀ns:List Int,ns.length<=63->E7 Pg (dp+1) m.fn.name [qa ns]=a5 (.ok (.loc,.bl bD))) :
  PySem.W.WalkO q j J (PySem.W.kHook (λP=>Hf top (g P) ms) (adr ms) λP=>rJ top (g P) ms).says l.row.toRowW d [] (λf vs=>PySem.call f vs) :=
 walk z A B (λw h Y=>PySem.W.kIn_of Y) C D p (o▸l0.mpr ⟨m,r,rfl⟩) t (λw mg fa h X G v=>by
  have hk:=ok w.params;have⟨a,b,c,e,f,k,n⟩:=zI hk r;rw[<-t,PySem.W.mg_of X G b]at v;cases v;rw[H]at c e k;show⟨λy i=>PySem.W.mg_none_of X G (Dx ?_),BO hk X G,λy i=>?_,_,_,_,_,a,e,f,k,by have:=n.1;rw[show m.fn.bd=m.fn.body by unfold Fn.bd;rw[p]]at this;show this,λs u=>.of_eq (c [u] rfl)⟩
  .simp only[Ju,b6]at hk;show lg.mp hk.1.1.2 y i
  .rw[<-o]at i;have⟨L,I,rfl⟩:=l0.mp i;show DA hk X G I) T
abbrev co(n:Str)(k l c:Nat)(r s:fS)(x y z:ei)(a b t:Nat):Obj:=⟨.type "code",b5,.fields #[.str n k,.str n (k+1),.str "/claim/cut.py" (k+2),.int l 0,.int c 0,.int 0 0,.int 0 0,.int 3 0,.ref r,.bool bD,.int t 0,.ref s,.none,x,y,z,.int a 0,.int l 0,.str "/claim/cut.py" b],#[]⟩
abbrev ge(P:Ux)(x:Str)(k:Nat)(v:ei):DictEntry:=⟨PyData.keyHash P x,.str x k,v⟩
end TM
namespace TM
open PySem L2
section
abbrev Run(m:M α)(st:av)(a:α)(st':av):Prop:=m st=a5 (.ok a,st')
def aa(c:Run m st a st1)(d:Run (f a) st1 b st2):Run (m >>= f) st b st2:=by
 change M.bind m f st=_;unfold M.bind;rw[show m st=_ from c];show d
def aJ:Run (pure a:M α) st a st:=rfl
def da(h:o=a5 a):Run (M.Ff o) st a st:=by subst h;rfl
def aP(h:aX rs st):Run (ay rs) st () st:=by change ay rs st=_;unfold ay;rw[Wq h]
abbrev kv(i:Nat)(k:Kd):Kd:=if k.root=bD then .bor i else k
def dt(h:st[i]?=a5 (a5 (k,u)))(hk:k≠.B':=by intro z;cases z):Run (cJ i) st (kv i k,u) st:=by
 change cJ i st=_;unfold cJ;rw[h];cases k<;>first|rfl|show absurd rfl hk
def ab(h:st[i]?=a5 (a5 (.loc,u))):Run (ev Γ (.var i)) st (.loc,u) st:=dt h
def aS(h:st[i]?=a5 (a5 (.any,u))):Run (ev Γ (.var i)) st (.any,u) st:=dt h
def aL(h:st[i]?=a5 (a5 (.own,u))):Run (ev Γ (.var i)) st (.bor i,u) st:=dt h
def ao:Run (ev Γ (.cst u)) st (.loc,u) st:=rfl
def br(c:Run (ev Γ a) st x st1)(d:Run (ev Γ b) st1 y st2)(e:aX [x,y] st2)(f:HW g x y=a5 r):Run (ev Γ (.bin g a b)) st r st2 :=
 aa c (aa d (aa (aP e) (da f)))
def oi(d:Run (ev Γ a) st x st1)(e:Run (ev Γ b) st1 y st2)(f:aX [x,y] st2)(g:cz h x.2 y.2=a5 c):Run (ev Γ (.cmp h a b)) st (.loc,.bl c) st2 :=
 aa d (aa e (aa (aP f) (aa (da g) aJ)))
def aW(c:Run (ev Γ a) st x st1)(d:Run (ev Γ b) st1 y st2)(e:aX [x,y] st2)(f:fN x y.2=a5 r):Run (ev Γ (.idx a b)) st r st2 :=
 aa c (aa d (aa (aP e) (da f)))
def rK:Run (JP Γ []) st b5 st:=rfl
def lx(h:Run (ev Γ e) st (k,.int i) st1):Run (JP Γ [e]) st (a5 i) st1:=aa h rfl
def oj(c:Run (ev Γ a) st x st1)(d:Run (JP Γ lo) st1 l st2)(e:Run (JP Γ f) st2 h b)(g:aX [x] b)(i:pE x l h=a5 r):Run (ev Γ (.IH a lo f)) st r b :=
 aa c (aa d (aa e (aa (aP g) (da i))))
def aq:Run (a9 Γ []) st [] st:=rfl
def af(a:Run (ev Γ e) st r st1)(b:Run (a9 Γ es) st1 rs st2):Run (a9 Γ (e::es)) st (r::rs) st2:=aa a (aa b aJ)
def cQ(a:Run (a9 Γ es) st rs st1)(b:aX rs st1)(c:GZ f rs=a5 r):Run (ev Γ (.bi f es)) st r st1:=aa a (aa (aP b) (da c))
def zJ(a:Run (a9 Γ es) st rs st1)(b:aX rs st1)(c:pF f rs=a5 r):Run (ev Γ (.Jo f es)) st r st1:=aa a (aa (aP b) (da c))
def vU(b:Run (ev Γ a) st x st1)(c:Run (a9 Γ es) st1 rs st2)(d:aX (x::rs) st2)(e:kB m x.2 rs=a5 r):Run (ev Γ (.Jp m a es)) st r st2:=aa b (aa c (aa (aP d) (da e)))
def rL(h:Γ f us=a5 (.ok r))(a:isAny r.1=c2):Run (jw Γ f us) st r st:=by
 have⟨k,u⟩:=r;change jw Γ f us st=_;unfold jw;rw[h];cases k<;>first|rfl|cases a
def cR(a:Run (a9 Γ es) st rs st1)(b:aX rs st1)(c:Γ f (rs.map (·.2))=a5 (.ok r))(d:isAny r.1=c2:=by show rfl):Run (ev Γ (.call f es)) st r st1:=aa a (aa (aP b) (rL c d))
def jM(a:Run (a9 Γ es) st rs st1)(b:aX rs st1)(c:Run (cI rs) st1 us st2)(d:us.length<=df):Run (ev Γ (.tup es)) st (.loc,.tup us) st2:=by
 show aa a (aa (aP b) (aa c ?_));rw[Wq d];show aJ
def cK(a:Run (a9 Γ es) st rs st1)(b:aX rs st1)(c:Run (cI rs) st1 us st2)(d:us.length<=df):Run (ev Γ (.lst es)) st (.own,.lst us) st2:=by
 show aa a (aa (aP b) (aa c ?_));rw[Wq d];show aJ
def jN:Run (ev Γ (.Gp r)) st (.own,.EX [] []) st:=rfl
def om:Run (lift (.own,u)) st u st:=rfl
def aM:Run (lift (.loc,u)) st u st:=rfl
def vV(h:Fu u=bD):Run (lift (.any,u)) st u st:=by
 change(if Fu u=bD then(pure u:M U) else M.fail) st=_;rw[Wq h];rfl
def aK:Run (cI []) st [] st:=rfl
def aB(a:Run (lift r) st u st1)(b:Run (cI rs) st1 us st2):Run (cI (r::rs)) st (u::us) st2:=aa a (aa b aJ)
def BP(d:Run (E8 Γ c) st bD st1)(e:Run (ev Γ a) st1 r st2):Run (ev Γ (.ite c a b)) st r st2:=aa d e
def BQ(d:Run (E8 Γ c) st c2 st1)(e:Run (ev Γ b) st1 r st2):Run (ev Γ (.ite c a b)) st r st2:=aa d e
def BR(h:Run (ev Γ e) st r st1):Run (gA Γ [e]) st r st1:=h
def BS(h:Run (ev Γ e) st (k,.bl p) st1)(a:if p=bD then Run (gA Γ (b::es)) st1 r st2 else st2=st1/\r=(.loc,.bl c2)):Run (gA Γ (e::b::es)) st r st2:=by
 show aa h ?_;cases p with
 |true=>show a
 |false=>have⟨rfl,rfl⟩:=a;show aJ
def DB(h:Run (gA Γ es) st r st1):Run (ev Γ (.and es)) st r st1:=h
def aN(d:Run (ev Γ a) st x st1)(e:Run (ev Γ b) st1 y st2)(f:aX [x,y] st2)(g:cz h x.2 y.2=a5 c):Run (E8 Γ (.cmp h a b)) st c st2:=aa d (aa e (aa (aP f) (da g)))
def zK(h:Run (E8 Γ a) st c st1):Run (E8 Γ (.not a)) st (!c) st1:=aa h aJ
def fC(h:Run (bb Γ es) st c st1):Run (E8 Γ (.and es)) st c st1:=h
def DC(h:Run (eO Γ es) st c st1):Run (E8 Γ (.or es)) st c st1:=h
def vW:Run (bb Γ []) st bD st:=rfl
def de(h:Run (E8 Γ e) st c st1):Run (bb Γ [e]) st c st1:=h
def fW(h:Run (E8 Γ e) st bD st1)(a:Run (bb Γ (b::es)) st1 c st2):Run (bb Γ (e::b::es)) st c st2:=aa h a
def mV(h:Run (E8 Γ e) st c2 st1):Run (bb Γ (e::a::es)) st c2 st1:=aa h aJ
def zL(h:Run (E8 Γ e) st c st1):Run (eO Γ [e]) st c st1:=h
def DE(h:Run (E8 Γ e) st bD st1):Run (eO Γ (e::a::es)) st bD st1:=aa h aJ
def zM(h:Run (E8 Γ e) st c2 st1)(a:Run (eO Γ (b::es)) st1 c st2):Run (eO Γ (e::b::es)) st c st2:=aa h a
def bt:Run (eB i (.own,u)) st () (st.set i (a5 (.own,u))):=rfl
def aA:Run (eB i (.loc,u)) st () (st.set i (a5 (.loc,u))):=rfl
def jO:Run (eB i (.any,u)) st () (st.set i (a5 (.any,u))):=rfl
def DF(a:Run (ev Γ e) st r st1)(b:Run (eB i r) st1 () st2):Run (exec Γ (.set i e)) st .nx st2:=aa a (aa b aJ)
def DG(b:∃k' c,st[i]?=a5 (a5 (k',.lst c))/\k'≠.B')(d:Run (ev Γ e) st r st1)(f:Run (lift r) st1 u st2)(g:st2[i]?=a5 (a5 (k,.lst us)))(hk:k.root=bD)(hl:us.length<df):
  Run (exec Γ (.app i e)) st .nx (st2.set i (a5 (k,.lst (us++[u])))):=by
 have⟨k',c,b,h⟩:=b;show aa (dt b h) (aa (a:=()) (st1:=st) rfl (aa d (aa f (aa (a:=()) ?_ aJ))));change modS i (uY u) st2=_;unfold modS;rw[g];simp only[hk,if_true];have e:uY u (.lst us)=a5 (.lst (us++[u])):=by change(if us.length<df then _ else _)=_;rw[Wq hl]
 rw[e]
def DH(a:Run (ev Γ e) st r st1)(b:Run (retS r) st1 f st2):Run (exec Γ (.ret e)) st f st2:=aa a b
def oo:Run (retS (.own,u)) st (.rt .own u) st:=rfl
def gG:Run (retS (.loc,u)) st (.rt .loc u) st:=rfl
def iE(h:st[j]?=a5 (a5 (.own,u))):Run (retS (.bor j,a)) st (.rt .own u) (st.set j b5):=by
 change(match st[j]? with|some (a5 (.own,u))=>a5 (Ex.ok (Fl.rt .own u),st.set j b5)|_=>b5)=_;rw[h]
def mW(d:Run (E8 Γ c) st bD st1)(e:Run (execs Γ a) st1 f st2):Run (exec Γ (.ite c a b)) st f st2:=aa d e
def qc(d:Run (E8 Γ c) st c2 st1)(e:Run (execs Γ b) st1 f st2):Run (exec Γ (.ite c a b)) st f st2:=aa d e
def ar:Run (execs Γ []) st .nx st:=rfl
def eC(a:Run (exec Γ s) st .nx st1)(b:Run (execs Γ c) st1 f st2):Run (execs Γ (s::c)) st f st2:=aa a b
def tJ(a:Run (exec Γ s) st (.rt k u) st1):Run (execs Γ (s::b)) st (.rt k u) st1:=aa a aJ
def aw(a:Run (ev Γ e) st r st1)(b:Run (eB i r) st1 () st2)(c:Run (execs Γ d) st2 f g):Run (execs Γ (.set i e::d)) st f g:=eC (DF a b) c
def fD(a:st[i]?=a5 (a5 (k',.lst m)))(b:Run (ev Γ e) st r st1)(c:Run (lift r) st1 u st2)(d:st2[i]?=a5 (a5 (k,.lst us)))(hk:k.root=bD)(hl:us.length<df)
  (g:Run (execs Γ h) (st2.set i (a5 (k,.lst (us++[u])))) f j) (l:k'≠.B':=by intro z;cases z):Run (execs Γ (.app i e::h)) st f j:=eC (DG ⟨_,_,a,l⟩ b c d hk hl) g
def cA(a:Run (ev Γ e) st r st1)(b:Run (retS r) st1 (.rt k u) st2):Run (execs Γ (.ret e::c)) st (.rt k u) st2:=tJ (DH a b)
def cw(d:Run (E8 Γ c) st bD st1)(e:Run (execs Γ a) st1 .nx st2)(g:Run (execs Γ h) st2 f i):Run (execs Γ (.ite c a b::h)) st f i:=eC (mW d e) g
def aV(d:Run (E8 Γ c) st c2 st1)(e:Run (execs Γ b) st1 .nx st2)(g:Run (execs Γ h) st2 f i):Run (execs Γ (.ite c a b::h)) st f i:=eC (qc d e) g
def ib(d:Run (E8 Γ c) st bD st1)(e:Run (execs Γ a) st1 (.rt k u) st2):Run (execs Γ (.ite c a b::f)) st (.rt k u) st2:=tJ (mW d e)
def zN(a:Run (a9 Γ src) st rs st1)(b:aX rs st1)(c:G0 d rs=a5 xs)(e:qS rs is body=bD)(g:Run (forM t is (execs Γ body) rs xs) st1 f st2):
  Run (exec Γ (.Fh t is d src body)) st f st2:=by
 show aa a (aa (aP b) (aa (da c) ?_));rw[Wq e];show g
def cL(a:Run (a9 Γ src) st rs st1)(b:aX rs st1)(c:G0 d rs=a5 xs)(e:qS rs is body=bD)(g:Run (forM t is (execs Γ body) rs xs) st1 .nx st2)(h:Run (execs Γ i) st2 f j):
  Run (execs Γ (.Fh t is d src body::i)) st f j:=eC (zN a b c e g) h
def vX(h:aX rs st):Run (forM t is body rs []) st .nx st:=aa (aP h) aJ
def yR(h:aX rs st)(a:Run (dH t is x) st () st1)(b:Run body st1 .nx st2)(c:Run (forM t is body rs xs) st2 f d):Run (forM t is body rs (x::xs)) st f d:=aa (aP h) (aa a (aa b c))
def EM(h:aX rs st)(a:Run (dH t is x) st () st1)(b:Run body st1 (.rt k u) st2):Run (forM t is body rs (x::xs)) st (.rt k u) st2:=aa (aP h) (aa a (aa b aJ))
def dg(h:Run (eB i r) st () st1):Run (dH c2 [i] r) st () st1:=h
def cy(a:us.length=fn.np)(hk:k=.own\/k=.loc)(hs:start us fn.ns=st0)(h:Run (execs Γ fn.body) st0 (.rt k u) st):fQ Γ fn us=a5 (.ok (k,u)):=by
 subst hs;unfold fQ;rw[Wq a,show execs Γ fn.body (start us fn.ns)=_ from h];rcases hk with rfl|rfl<;>rfl
def vY{cond:M Bool}(h:aX src st):Run (bF k t cond elt src [] acc) st acc st:=aa (aP h) aJ
def qd{cond:M Bool}(h:aX src st)(c:Run (dH t (i3 k) x) (j0 k b5++st) () s1)(d:Run cond s1 bD s2)(e:Run elt s2 r s3)(g:Run (lift r) s3 u s4)
  (hl:acc.length<df) (i:Run (bF k t cond elt src xs (acc++[u])) (s4.drop k) us st2):Run (bF k t cond elt src (x::xs) acc) st us st2:=by
 show aa (aP h) (aa (a:=a5 u) (st1:=s4.drop k) ?_ ?_)
 .change inScope k _ st=_;unfold inScope;have j:Run (dH t (i3 k) x >>= λ_=>cond >>= λb=>if b=bD then(elt >>= λr=>lift r >>= λu=>pure (a5 u)) else pure b5) (j0 k b5++st) (a5 u) s4 :=
   aa c (aa d (show Run (elt >>= λr=>lift r >>= λu=>pure (a5 u)) s2 (a5 u) s4 from aa e (aa (f:=λu=>pure (a5 u)) g rfl)))
  rw[show _=_ from j]
 .change Run (if acc.length<df then bF k t cond elt src xs (acc++[u]) else M.fail) _ _ _;rw[Wq hl];show i
def BU{cond:M Bool}(h:aX src st)(c:Run (dH t (i3 k) x) (j0 k b5++st) () s1)(d:Run cond s1 c2 s2)
  (e:Run (bF k t cond elt src xs acc) (s2.drop k) us st2):Run (bF k t cond elt src (x::xs) acc) st us st2:=by
 show aa (aP h) (aa (a:=b5) (st1:=s2.drop k) ?_ e);change inScope k _ st=_;unfold inScope;have f:Run (dH t (i3 k) x >>= λ_=>cond >>= λb=>if b=bD then(elt >>= λr=>lift r >>= λu=>pure (a5 u)) else pure b5) (j0 k b5++st) b5 s2 :=
  aa c (aa d (show Run (pure b5:M (Option U)) s2 b5 s2 from rfl))
 rw[show _=_ from f]
def ic{src cond:List E}(a:Run (a9 Γ src) st rs st1)(b:aX rs st1)(c:G0 d rs=a5 xs)(f:Run (bF k t (bb Γ cond) (ev Γ e) rs xs []) st1 us st2):Run (ev Γ (.comp k t d src cond e)) st (.own,.lst us) st2 :=
 aa a (aa (aP b) (aa (da c) (aa f aJ)))
end
section
def qe(c:Run (a9 Γ es) st rs st1)(d:aX (rs.map (dm st1)) st1)(e:Γ f ((rs.map (dm st1)).map (·.2))=a5 (.ok (k,.tup (u::ws))))(hk:k=.own\/k=.loc)(a:nU (rs.map (dm st1)) is=bD)(b:fz (rs.map (dm st1)) is ws st1=a5 st2):
  Run (ev Γ (.EW f es is)) st (k,u) st2:=by
 have g:Run (a9 Γ es >>= xX) st (rs.map (dm st1)) st1:=aa c (show Run (xX rs) st1 (rs.map (dm st1)) st1 from rfl);show aa g (aa (aP d) ?_);change nV Γ f _ is st1=_;unfold nV;rw[e];rcases hk with rfl|rfl
 .change(if _ then _ else _)=_;rw[Wq a,b]
 .change(if _ then _ else _)=_;rw[Wq a,b]
def zO(h:st[i]?=a5 (a5 (k,.lst us)))(hk:k.root=bD)(a:us[us.length - 1]?=a5 u):Run (ev Γ (.pop i)) st (.loc,u) (st.set i (a5 (k,.lst us.dropLast))):=by
 change uU i st=_;unfold uU;rw[h];change(if _ then _ else _)=_;rw[Wq hk,a]
def BV(b:st[i]?=a5 (a5 (k0,.lst us0)))(c:k0≠.B')(d:Run (ev Γ e) st (m,.int j) st1)(h:st1[i]?=a5 (a5 (k,.lst us)))(hk:k.root=bD)(f:0<=j)(g:j<1000000)(l:us[j.toNat]?=a5 u):Run (ev Γ (.Ha i e)) st (.loc,u) (st1.set i (a5 (k,.lst (us.eraseIdx j.toNat)))):=by
 show aa (dt b c) (aa (a:=()) (st1:=st) rfl (aa d ?_));change sJ i (.int j) st1=_;unfold sJ
 dsimp only
 rw[h];change(if _ then _ else _)=_;rw[Wq ⟨hk,f,g⟩,l]
def bI(a:us.length=fn.np)(hs:cq is us fn.ns=st0)(h:Run (execs Γ body) st0 f st)(b:MB f=a5 (k,u))(c:JQ is st=a5 ws):fk Γ fn is body us=a5 (.ok (k,.tup (u::ws))):=by
 subst hs;unfold fk;rw[Wq a,show execs Γ body (cq is us fn.ns)=_ from h];change(MB f).bind _=_;rw[b];change(JQ is st).map _=_;rw[c];rfl
end
abbrev FX(Pg:List Fn)(f:Str)(fn:Fn):Prop:=(Pg.find? λg=>dV (g.name=f))=a5 fn
section
def bJ(h:FX Pg f fn)(us:List U)(a:fn.io=b5:=by rfl):E7 Pg (d+1) f us=fQ (E7 Pg d) fn us:=by
 change(match Pg.find? λg=>dV (g.name=f) with|some fn=>gZ (E7 Pg d) fn us|none=>b5)=_;rw[show _=a5 fn from h];change gZ _ _ _=_;unfold gZ;rw[a]
def b9(h:FX Pg f fn)(us:List U)(a:fn.io=a5 (is,b)):E7 Pg (d+1) f us=fk (E7 Pg d) fn is b us:=by
 change(match Pg.find? λg=>dV (g.name=f) with|some fn=>gZ (E7 Pg d) fn us|none=>b5)=_;rw[show _=a5 fn from h];change gZ _ _ _=_;unfold gZ;rw[a]
end
def du(h:0<j):HW .mod (k,.int i) (k',.int j)=a5 (.loc,.int (i % j)):=by change(xT i j).map _=_;rw[xT,Wq h];rfl
def jP(h:0<j/\j<1073741824):HW .JN (k,.int i) (k',.int j)=a5 (.loc,.int (i / j)):=by change(xS i j).map _=_;rw[xS,Wq h];rfl
def jd(h:(-(2 ^ 64)<i/\i<2 ^ 64)\/(-(2 ^ 64)<j/\j<2 ^ 64)):HW .mul (k,.int i) (k',.int j)=a5 (.loc,.int (i * j)):=by change(xR i j).map _=_;rw[xR,Wq h];rfl
def lT(h:0<=j/\j<=1000000/\i.natAbs<2 ^ 64):HW .pow (k,.int i) (k',.int j)=a5 (.loc,.int (i ^ j.toNat)):=by change(xU i j).map _=_;rw[xU,Wq h];rfl
def bP:HW .add (k,.int i) (k',.int j)=a5 (.loc,.int (i+j)):=rfl
def bT(h:FR xs i=a5 u):fN (k,.lst xs) (.int i)=a5 (kE k,u):=by change(FR xs i).map _=_;rw[h];rfl
def lZ(h:FR xs i=a5 u):fN (k,.tup xs) (.int i)=a5 (kE k,u):=by change(FR xs i).map _=_;rw[h];rfl
local macro_rules
 |`(tactic| sizeOf_list_dec)=>`(tactic| first|exact ar|apply aw|apply fD|apply cA|exact ao|exact ab rfl|exact aS rfl|exact aL rfl|apply br|apply oi|apply aW|apply cQ|apply cR|apply vU|apply aN|exact aq|apply af|apply jM|apply cK|exact aK|apply aB|exact aM|exact om|(first|exact trivial|exact⟨⟨_,rfl,rfl⟩,trivial⟩|exact⟨⟨_,rfl,rfl⟩,⟨_,rfl,rfl⟩,trivial⟩)|exact bP|exact oS|exact du (by first|lia|decide)|exact jP (by first|lia|decide)|exact jd (by first|lia|decide)|exact lT (by decide)|exact aA|exact bt|exact jO|exact gG|exact oo|exact iE rfl|exact kj _|exact rfl|exact IU)
def DI(h:dV (i<j)=c):cz .lt (.int i) (.int j)=a5 c:=by subst h;rfl
def ly(h:dV (j<i)=c):cz .gt (.int i) (.int j)=a5 c:=by subst h;rfl
def bU(h:(i==j)=c):cz .eq (.int i) (.int j)=a5 c:=by subst h;rfl
def bM:GZ .len [(k,.lst xs)]=a5 (.loc,.int (xs.length:Nat)):=rfl
def oq(x:Kd×U):G0 .FK [x]=sH x:=rfl
def ie(h:n<2 ^ 62):G0 .FK [(k,.int (n:Nat))]=a5 ((i3 n).map λi:Nat=>(Kd.loc,U.int (0+(i:Int)))):=by
 rw[oq,sH,Wq ⋯,UW]
end TM
local macro_rules
 |`(tactic| sizeOf_list_dec)=>`(tactic| first|exact TM.ar|apply TM.aw|apply TM.fD|apply TM.cA|exact TM.ao|exact TM.ab rfl|exact TM.aS rfl|exact TM.aL rfl|apply TM.br|apply TM.oi|apply TM.aW|apply TM.cQ|apply TM.cR|apply TM.vU|apply TM.aN|exact TM.aq|apply TM.af|apply TM.jM|apply TM.cK|exact TM.aK|apply TM.aB|exact TM.aM|exact TM.om|(first|exact trivial|exact⟨⟨_,rfl,rfl⟩,trivial⟩|exact⟨⟨_,rfl,rfl⟩,⟨_,rfl,rfl⟩,trivial⟩)|exact TM.bP|exact TM.oS|exact TM.du (by first|lia|decide)|exact TM.jP (by first|lia|decide)|exact TM.jd (by first|lia|decide)|exact TM.lT (by decide)|exact TM.aA|exact TM.bt|exact TM.jO|exact TM.gG|exact TM.oo|exact TM.iE rfl|exact kj _|exact rfl|exact TM.IU)
namespace Fo
open PySem L2
def len_list(x:Str):x.length=x.cps.toList.length:=by simp[Wh]
def tK(a:0<=k)(b:k<=99):(uA k).length<=2:=by
 have⟨m,rfl⟩:=uk a;have c:m<100:=by lia
 clear a b;revert m;decide +kernel
theorem ef:∀(a:List Str) (acc:Array Nat),(a.foldl (λacc p=>acc++tr.cps++p.cps) acc).toList=acc.toList++(a.map λp=>p.cps.toList).flatten
 |[],acc=>by simp
 |p::a,acc=>by
  rw[PU,ef a];have:tr.cps=#[]:=rfl;simp[this]
def join_list(ts:List Str):(N2 tr ts).cps.toList=(ts.map λp=>p.cps.toList).flatten:=by
 cases ts with
 |nil=>rfl
 |cons t ts =>
  change(ts.foldl (λacc p=>acc++tr.cps++p.cps) t.cps).toList=_;rw[ef];simp
abbrev one(c:Nat):Str:=⟨#[c]⟩
def join_ones(a:List Nat):(N2 tr (a.map one)).cps.toList=a:=by
 rw[join_list,ro];induction a with
 |nil=>rfl
 |cons c a b=>rw[gj,UJ,b];rfl
def ot(a:List Nat)(h:a.length<=100):Vt tr (a.map one)=bD:=by
 unfold Vt;have e:=PySem.StrLaws.joinTotal tr (a.map one);have b:tr.length=0:=rfl;have es:((a.map one).map (·.length)).sum=a.length:=by
  rw[ro];clear h e;induction a with
  |nil=>rfl
  |cons c a d=>rw[gj,List.sum_cons,d];change 1+a.length=a.length+1;lia
 rw[e,b,es];have f:a.length+(a.map one).length * 0<=100:=by lia
 revert f;generalize a.length+(a.map one).length * 0=m;revert m;decide
def BW(x:Str)(j:Nat):(PySem.StrLaws.sliceText x b5 (a5 (j:Int))).cps.toList=x.cps.toList.take j:=by
 by_cases h:j<=x.cps.toList.length
 .rw[PySem.StrLaws.sliceText_to (x:=x) ⟨⋯,⋯⟩];simp
 .have e:PySem.StrLaws.sliceText x b5 (a5 (j:Int))=PySem.StrLaws.sliceText x b5 (a5 (x.length:Int)):=by
   unfold PySem.StrLaws.sliceText;have hl:=len_list x;have:PySem.Builtin.Str.strSliceIndices b5 (a5 (j:Int)) 1 x.length=PySem.Builtin.Str.strSliceIndices b5 (a5 (x.length:Int)) 1 x.length:=by
    have a:¬((j:Int)<0):=by lia
    have b:¬((x.length:Int)<0):=by lia
    have c:min (j:Int) (x.length:Int)=x.length:=by lia
    simp[PySem.Builtin.Str.strSliceIndices,a,b,c]
   rw[this]
  have hl:=len_list x;rw[e,PySem.StrLaws.sliceText_to (x:=x) ⟨⋯,⋯⟩,List.drop_zero,Np (l:=x.cps.toList) (i:=j) ⋯];change(x.cps.toList.take ((x.length:Int) - 0).toNat).toArray.toList=_;rw[Np ⋯]
abbrev small:Str:="abcdefghijklmnopqrstuvwxyz"
theorem gH [DecidableEq α]:∀{l m:List α},l.Nodup->(∀x∈l,x∈m)->l.length<=m.length
 |[],_,_,_=>kj _
 |x::l,m,c,h=>by
  have⟨d,e⟩:=nC.mp c;have a:=h x kl;have f:=gH (l:=l) (m:=m.erase x) e λy b=>(List.mem_erase_of_ne (by rintro rfl;show d b)).mpr (h y (la _ b));rw[List.length_erase_of_mem a]at f;have:0<m.length:=List.length_pos_of_mem a;rw[mu];lia
end Fo
namespace TM
open PySem L2 Fo
def yS(a:0<=z)(h:z<2 ^ 62):G0 .FK [(k,.int z)]=a5 ((i3 z.toNat).map λi:Nat=>(Kd.loc,U.int (0+(i:Int)))):=by
 rw[oq,sH,Wq ⋯]
def l8(a:x.length<=df)(h:FR x.cps.toList i=a5 c):fN (k,.str x) (.int i)=a5 (.loc,.str (Fo.one c)):=by
 simp only[fN];rw[Wq a,h];rfl
def ou:small.length<=df:=by decide
theorem cX:∀(a:List Str),strsOf (a.map U.str)=a5 a
 |[]=>rfl
 |s::a=>by change(strsOf (a.map U.str)).map (s::·)=_;rw[cX a];rfl
section
def mX(h:x.length+y.length<=df):HW .add (k,.str x) (k',.str y)=a5 (.loc,.str (x++y)):=by
 simp only[HW,xQ];rw[Wq h]
theorem fg:∀(a:List Str) (n:Nat),gx n (a.map U.str)=bD
 |[],n=>by simp[gx]
 |s::a,n=>by simp only[gj,gx,fg a n,RJ];cases n<;>rfl
theorem ox(x:Str):∀(a:List Str),((a.map U.str).any λy=>bE y (.str x))=dV (x∈a)
 |[]=>by simp
 |s::a=>by
  rw[gj,Ov,ox x a];have:bE (.str s) (.str x)=dV (x=s):=by
   simp only[bE];by_cases h:x=s
   .subst h;simp
   .have h':s≠x:=λz=>h z.symm;simp[h,h']
  rw[this,KP];simp
def yT(x:Str)(a:List Str):IK (.str x) (a.map U.str)=a5 (dV (x∈a)):=by
 unfold IK;rw[Wq ⟨by rfl,fg a 50⟩,ox]
def jQ{a:List Str}:cz .Fg (.str x) (.lst (a.map U.str))=a5 (dV (x∉a)):=by
 change(IK (.str x) (a.map U.str)).map (!·)=_;rw[yT];simp
end
section
end
def gI(h:Run (ev Γ j) st rv st1)(l:st1[i]?=a5 (a5 (k',u')))(m:Run (ev Γ n) st1 rk st2)(o:Run (cI [rv,rk]) st2 [c,d] b)(p:b[i]?=a5 (a5 (k,e)))(hk:k.root=bD)(q:dI d c e=a5 g)
  (r:Run (execs Γ s) (b.set i (a5 (k,g))) f t) (u:k'≠.B':=by intro z;cases z):Run (execs Γ (.put i n j::s)) st f t:=by
 show eC (aa h (aa (dt l u) (aa m (aa o (aa (a:=()) (st1:=b.set i (a5 (k,g))) ?_ aJ))))) r;change modS i (qQ [c,d]) b=_;unfold modS;rw[p];simp only[hk,if_true];change(match dI d c e with|some u'=>_|none=>b5)=_;rw[q]
@[reducible]def Row:=Str×List Str
abbrev EU(r:Row):U:=.tup [.str r.1,.tup (r.2.map .str)]
abbrev keyOf(r:Row):Row:=(r.1,aH r.2)
def sorted_strs(h:a.length<64):GZ .sorted [(k,.tup (a.map .str))]=a5 (.own,.lst ((aH a).map .str)):=by
 change(strsOf (a.map U.str)).bind _=_;rw[cX];change(if a.length<64 then _ else _)=_;rw[Wq h]
structure rM(names:List Str)(r:Row):Prop where
 word:r.1∈names
 Mi:r.2.length<=8
 once:r.2.Nodup
 told:∀x∈r.2,x∈names
section
def lz(h:Run (execs Γ (a++i)) st f st2):(∃s1,Run (execs Γ a) st .nx s1/\Run (execs Γ i) s1 f st2)\/(Run (execs Γ a) st f st2/\f≠.nx):=by
 induction a generalizing st with
 |nil=>show .inl ⟨st,ar,h⟩
 |cons s a j =>
  have h':M.bind (exec Γ s) (λf=>match f with|.nx=>execs Γ (a++i)|f=>pure f) st=a5 (.ok f,st2):=h;unfold M.bind at h';cases e:exec Γ s st with
  |none=>rw[e]at h';cases h'
  |some p =>
   have⟨x,s1⟩:=p;rw[e]at h';cases x with
   |exc c=>cases h'
   |ok g =>
    cases g with
    |nx =>
     rcases j h' with⟨s2,b,d⟩|⟨b,d⟩
     .show .inl ⟨s2,eC e b,d⟩
     .show .inr ⟨eC e b,d⟩
    |rt k u=>cases h';show .inr ⟨tJ e,λz=>nomatch z⟩
    |bk=>cases h';show .inr ⟨aa (show Run (exec Γ s) st Fl.bk _ from e) aJ,λz=>nomatch z⟩
    |ct=>cases h';show .inr ⟨aa (show Run (exec Γ s) st Fl.ct _ from e) aJ,λz=>nomatch z⟩
def DJ(a:Run (exec Γ s) st f st1)(b:f≠.nx):Run (execs Γ (s::c)) st f st1:=by
 cases f with
 |nx=>show absurd rfl b
 |rt k u=>show tJ a
 |_=>show aa a aJ
def DK(g:Run (E8 Γ c) st p st1)(i:p=bD->Run (execs Γ (a++h)) st1 f st2)(j:p=c2->Run (execs Γ (b++h)) st1 f st2):Run (execs Γ (.ite c a b::h)) st f st2:=by
 cases p with
 |true =>
  rcases lz (i rfl) with⟨s1,d,e⟩|⟨d,e⟩
  .show eC (mW g d) e
  .show DJ (mW g d) e
 |false =>
  rcases lz (j rfl) with⟨s1,d,e⟩|⟨d,e⟩
  .show eC (qc g d) e
  .show DJ (qc g d) e
def BX(h:Run (ev Γ e) st (k,.bl p) st)(a:p=bD->Run (gA Γ (b::es)) st (.loc,.bl q) st):Run (gA Γ (e::b::es)) st (.loc,.bl (p&&q)) st:=by
 show BS h ?_;cases p with
 |true=>rw[Wq rfl];show a rfl
 |false=>rw[Ws i0];show⟨rfl,rfl⟩
def DL(h:Run (E8 Γ e) st p st)(a:p=c2->Run (eO Γ (b::es)) st q st):Run (eO Γ (e::b::es)) st (p||q) st:=by
 cases p with
 |true=>show DE h
 |false=>show zM h (a rfl)
def vZ(h:Run (E8 Γ e) st p st)(a:p=bD->Run (bb Γ (b::es)) st q st):Run (bb Γ (e::b::es)) st (p&&q) st:=by
 cases p with
 |true=>show fW h (a rfl)
 |false=>show mV h
theorem qf{cond:M Bool}(h:aX src st)(k:Kd)(hk:k=.loc\/k=.any)(a g:α->U)(b:Kd)(c:∀y,Run cond (a5 (k,a y)::st) bD (a5 (k,a y)::st)):∀(ys:List α) (acc:List U),acc.length+ys.length<=df ->
  (∀y∈ys,Run elt (a5 (k,a y)::st) (b,g y) (a5 (k,a y)::st)/\Run (lift (b,g y)) (a5 (k,a y)::st) (g y) (a5 (k,a y)::st))->Run (bF 1 c2 cond elt src (ys.map λy=>(k,a y)) acc) st (acc++ys.map g) st
 |[],acc,_,_=>by rw[J_,J_,x2];show vY h
 |y::ys,acc,hl,d=>by
  have⟨e,f⟩:=d y (by simp);rw[mu]at hl;show qd (s1:=a5 (k,a y)::st) (s2:=a5 (k,a y)::st) (s3:=a5 (k,a y)::st) (s4:=a5 (k,a y)::st) h ?_ (c y) e f ⋯ ?_
  .rcases hk with rfl|rfl
   .show dg aA
   .show dg jO
  .have:=qf h k hk a g b c ys (acc++[g y]) (by simp;lia) λz hz=>d z (by simp[hz]);rw[gj];simpa using this
theorem jR{cond:M Bool}(h:aX src st)(k:Kd)(hk:k=.loc\/k=.any)(a g:α->U)(p:α->Bool)(c:Kd):∀(ys:List α) (acc:List U),acc.length+ys.length<=df ->
  (∀y∈ys,Run cond (a5 (k,a y)::st) (p y) (a5 (k,a y)::st)/\(p y=bD->Run elt (a5 (k,a y)::st) (c,g y) (a5 (k,a y)::st)/\Run (lift (c,g y)) (a5 (k,a y)::st) (g y) (a5 (k,a y)::st)))->Run (bF 1 c2 cond elt src (ys.map λy=>(k,a y)) acc) st (acc++(ys.filter p).map g) st
 |[],acc,_,_=>by rw[J_,List.filter_nil,J_,x2];show vY h
 |y::ys,acc,hl,e=>by
  have⟨d,i⟩:=e y (by simp);rw[mu]at hl;have f:Run (dH c2 (i3 1) (k,a y)) (j0 1 b5++st) () (a5 (k,a y)::st):=by
   rcases hk with rfl|rfl
   .show dg aA
   .show dg jO
  cases b:p y with
  |true =>
   rw[b]at d;have⟨j,l⟩:=i b;show qd (s1:=a5 (k,a y)::st) (s2:=a5 (k,a y)::st) (s3:=a5 (k,a y)::st) (s4:=a5 (k,a y)::st) h f d j l ⋯ ?_;have:=jR h k hk a g p c ys (acc++[g y]) (by simp;lia) λz hz=>e z (by simp[hz]);rw[US,Wq b,gj];simpa using this
  |false =>
   rw[b]at d;show BU (s1:=a5 (k,a y)::st) (s2:=a5 (k,a y)::st) h f d ?_;have:=jR h k hk a g p c ys acc ⋯ λz hz=>e z (by simp[hz]);rw[US,Ws (by simp[b])];show this
theorem bV(it:α->Kd×U)(I:List α->List α->av->Prop)(hs:∀d r st,I d r st->aX rs st)
  (UZ:∀d y r st,I d (y::r) st->∃st1 st2,Run (dH t is (it y)) st () st1/\Run body st1 .nx st2/\I (d++[y]) r st2):∀(r d:List α) (st:av),I d r st->∃st',Run (forM t is body rs (r.map it)) st .nx st'/\I (d++r) [] st'
 |[],d,st,h=>⟨st,vX (hs _ _ _ h),by rw[x2];show h⟩
 |y::r,d,st,h=>by
  have⟨s1,s2,a,b,c⟩:=UZ d y r st h;have⟨s3,e,f⟩:=bV it I hs UZ r (d++[y]) s2 c;show⟨s3,yR (hs _ _ _ h) a b e,by simpa using f⟩
def BY(a:Run (a9 Γ es) st rs st1)(c:aX rs st1)(d:Γ f (rs.map (·.2))=a5 (.ok r))(e:sI r.2=a5 b)(g:isAny r.1=c2:=by show rfl):Run (E8 Γ (.call f es)) st b st1:=aa a (aa (aP c) (aa (rL d g) (da e)))
def v3(c:st[i]?=a5 (a5 (k',.lst o)))(d:Run (ev Γ e) st r st1)(g:st1[i]?=a5 (a5 (k,.lst us)))(hk:k.root=bD)(h:gY r (.lst us)=a5 (.lst b))
  (j:Run (execs Γ l) (st1.set i (a5 (k,.lst b))) f m) (n:k'≠.B':=by intro z;cases z):Run (execs Γ (.ext i e::l)) st f m:=by
 show eC (aa (dt c n) (aa (a:=()) (st1:=st) rfl (aa d (aa (a:=()) (st1:=st1.set i (a5 (k,.lst b))) ?_ aJ)))) j;change modS i (gY r) st1=_;unfold modS;rw[g];simp only[hk,if_true];rw[h]
end
def yU(h:xs.length+ys.length<=df)(hs:dZ k ys=bD):gY (k,.tup ys) (.lst xs)=a5 (.lst (xs++ys)):=by
 change(if xs.length+ys.length<=df/\dZ k ys=bD then _ else _)=_;rw[Wq ⟨h,hs⟩]
def rN(h:xs.length+ys.length<=df)(hs:dZ k ys=bD):gY (k,.lst ys) (.lst xs)=a5 (.lst (xs++ys)):=by
 change(if xs.length+ys.length<=df/\dZ k ys=bD then _ else _)=_;rw[Wq ⟨h,hs⟩]
theorem ig:∀a:List Str,bK (a.map U.str)=bD
 |[]=>by simp[bK]
 |s::a=>by simp[bK,Fu,ig a]
def rO(r:Row):Fu (EU r)=bD:=by simp[EU,Fu,bK,ig]
theorem dP:∀rs:List Row,bK (rs.map EU)=bD
 |[]=>by simp[bK]
 |r::rs=>by simp[bK,rO,dP rs]
theorem fX:∀(a b:List Str),cp (a.map U.str) (b.map U.str)=dV (a=b)
 |[],[]=>by simp[cp]
 |[],_::_=>by simp[cp]
 |_::_,[]=>by simp[cp]
 |x::a,y::b=>by
  rw[gj,gj,cp,fX a b];simp only[bE];by_cases h:x=y
  .subst h;simp
  .simp[h]
def d6(a:List Str)(n:Nat):GY (n+1) (.lst (a.map U.str))=bD:=by simp[GY,fg]
def oy{a b:List Str}:cz .eq (.lst (a.map U.str)) (.lst (b.map U.str))=a5 (dV (a=b)):=by
 simp only[cz];rw[Wq ⟨d6 a 49,d6 b 49⟩];simp only[bE,fX]
def iV:cz .eq (.str a) (.str b)=a5 (dV (a=b)):=by
 simp only[cz];rw[Wq ⟨rfl,rfl⟩];simp only[bE];by_cases h:a=b
 .subst h;simp
 .simp[h]
def yV(f:α->β)(xs:List α)(lo a:Option Int):cut (xs.map f) lo a=(cut xs lo a).map f:=by simp[cut,Vx,Vy]
def yW(xs:List α)(lo a:Option Int):(cut xs lo a).length<=xs.length:=by simp[cut];lia
def v5(h:acc.length<4000)(a:(aI acc).length<64):pF .sset [(k,.lst (acc.map .str))]=a5 (.own,.lst ((aH (aI acc)).map .str)):=by
 have e:sG (.lst (acc.map U.str))=a5 (aI acc):=by
  change(strsOf (acc.map U.str)).bind _=_;rw[cX];change(if acc.length+1<Iu then _ else _)=_;rw[Wq (by change acc.length+1<4096;lia)]
 change(sG (.lst (acc.map U.str))).bind _=_;rw[e];change(if (aI acc).length<64 then _ else _)=_;rw[Wq a]
def oz(l:List Str):(aH (aI l)).Nodup:=(bj _).nodup_iff.mpr (dX l)
def BZ(l:List Str)(x:Str):x∈aH (aI l)↔x∈l:=by rw[(bj _).mem_iff,fK]
def v7{l names:List Str}(h:∀x∈l,x∈names):(aI l).length<=names.length:=gH (dX l) λx a=>h x ((fK l x).mp a)
section
end
section
def DM(c:Run (ev Γ a) st x st1)(d:mI x.2 T=a5 b):Run (ev Γ (.G' a T)) st (.loc,.bl b) st1:=aa c (aa (da d) aJ)
def lA(c:Run (ev Γ a) st x st1)(d:mI x.2 T=a5 b):Run (E8 Γ (.G' a T)) st b st1:=aa c (da d)
end
abbrev bW(rows:List Row):List Str:=(rows.map λr=>r.1::r.2).flatten
abbrev ax(rows:List Row):List Str:=aH (aI (bW rows))
def oA(d:List Row)(y:Row):bW (d++[y])=bW d++[y.1]++y.2:=by simp[bW]
def d7:x∈bW rows↔∃r∈rows,x=r.1\/x∈r.2:=by
 simp only[bW,UO,l0];constructor
 .rintro⟨l,⟨r,a,rfl⟩,b⟩;show⟨r,a,gs.mp b⟩
 .rintro⟨r,a,b⟩;show⟨_,⟨r,a,rfl⟩,gs.mpr b⟩
def gJ(h:∀r∈rows,rM names r):∀x∈bW rows,x∈names:=by
 intro x hx;have⟨r,a,hx⟩:=d7.mp hx;rcases hx with rfl|hx
 .show(h r a).word
 .show(h r a).told x hx
def jS(h:∀r∈rows,r.2.length<=8):(bW rows).length<=9 * rows.length:=by
 induction rows with
 |nil=>simp[bW]
 |cons r rows a =>
  have c:=h r (by simp);have b:=a λs hs=>h s (by simp[hs]);simp only[bW,gj,UJ,ke,mu]at b ⊢;lia
def jT:x∈ax rows↔x∈bW rows:=BZ _ _
def d8(rows:List Row):(ax rows).Nodup:=oz _
def jU(h:∀r∈rows,rM names r):(ax rows).length<=names.length:=by
 change(aH (aI (bW rows))).length<=_;rw[cm];show v7 (gJ h)
abbrev qg:Fn:=⟨"words_of",1,3,[.set 1 (.lst []),.Fh c2 [2] .seq [.var 0] [.app 1 (.idx (.var 2) (.cst (.int 0))),.ext 1 (.idx (.var 2) (.cst (.int 1)))],.ret (.Jo .sset [.var 1])]⟩
def mY(hl:rows.length<=120)(f:∀r∈rows,rM names r)(o:names.length<64):fQ Γ qg [.tup (rows.map EU)]=a5 (.ok (.own,.lst ((ax rows).map .str))):=by
 have hsz:(4000:Nat)<=df:=by decide
 have g:TM.start [.tup (rows.map EU)] 3=[a5 (.loc,.tup (rows.map EU)),b5,b5]:=by simp[TM.start,Fu,dP]
 have b:∀r∈rows,r.2.length<=8:=λr h=>(f r h).Mi;obtain⟨st',i,_,c,e⟩:=bV (t:=c2) (is:=[2]) (body:=execs Γ [.app 1 (.idx (.var 2) (.cst (.int 0))),.ext 1 (.idx (.var 2) (.cst (.int 1)))]) (rs:=[(.loc,.tup (rows.map EU))]) (λr:Row=>(Kd.loc,EU r))
  (λd r st=>d++r=rows/\∃c,st=[a5 (.loc,.tup (rows.map EU)),a5 (.own,.lst ((bW d).map .str)),c]) (λ_ _ _ _=>trivial) (λd y r st j=>by
   have⟨a,c,e⟩:=j;subst e;have l:y∈rows:=by rw[<-a];simp
   have p:=jS (rows:=d) λs hs=>b s (by rw[<-a];simp[hs]);have m:d.length<=120:=by have:=Wv D' a;simp at this;lia
   have q:=b y l;show⟨[a5 (.loc,.tup (rows.map EU)),a5 (.own,.lst ((bW d).map .str)),a5 (.loc,EU y)],[a5 (.loc,.tup (rows.map EU)),a5 (.own,.lst ((bW d).map .str++[.str y.1]++y.2.map .str)),a5 (.loc,EU y)],dg aA,?_,by rw[<-a];simp,a5 (.loc,EU y),?_⟩
   .show fD (k:=.own) (k':=.own) (r:=(.loc,.str y.1)) rfl (aW (x:=(.loc,EU y)) (ab rfl) ao trivial rfl) aM rfl rfl (by rw[d3];lia)
     (v3 (k:=.own) rfl (aW (x:=(.loc,EU y)) (ab rfl) ao trivial rfl) rfl rfl (yU (by simp;lia) rfl) ar)
   .rw[oA];simp) rows [] [a5 (.loc,.tup (rows.map EU)),a5 (.own,.lst []),b5] ⟨rfl,b5,rfl⟩
 subst e;have n:(rows.map EU).map (λu=>(kE .loc,u))=rows.map λr=>(Kd.loc,EU r):=by rw[ro];rfl
 have v:=jS b;have m:=v7 (gJ f);show cy rfl (.inl rfl) g (aw (r:=(.own,.lst [])) (cK aq trivial aK (kj _)) bt (cL (rs:=[(.loc,.tup (rows.map EU))]) (af (ab rfl) aq) trivial rfl rfl (by rw[n];show i) (cA (zJ (af (aL rfl) aq) ⟨⟨.own,rfl,rfl⟩,trivial⟩ (v5 ⋯ ⋯)) oo)))
def rP(h:ks.length<1000):dI (.str x) u (.EX ks us)=a5 (.EX (dput ks us x u).1 (dput ks us x u).2):=by
 have hsz:(1000:Nat)<=df:=by decide
 change(if ks.length<df then _ else _)=_;rw[Wq ⋯]
end TM
namespace Od
section
variable{W:Type}[DecidableEq W]{rows:List (W×List W)}
end
end Od
namespace TM
open PySem L2 Fo
section
def zP(h:st[j]?=a5 (a5 (.own,u))):Run (lift (.bor j,a)) st u (st.set j (a5 (.loc,u))):=by
 change(match st[j]? with|some (a5 (.own,u))=>a5 (Ex.ok u,st.set j (a5 (.loc,u)))|_=>b5)=_;rw[h]
def rQ(h:Run c st c2 st1):Run (fj c body (n+1)) st .nx st1:=aa h aJ
def v8(h:Run c st bD st1)(a:Run body st1 .nx st2)(b:Run (fj c body n) st2 f d):Run (fj c body (n+1)) st f d:=aa h (aa a b)
def v9(h:Run (fj (E8 Γ c) (execs Γ body) fuel) st .nx st1)(a:Run (execs Γ b) st1 f st2):Run (execs Γ (.Jq c body::b)) st f st2:=eC h a
def v_(hk:k=.loc\/k=.any):Run (dH bD [i,j] (k,.tup [a,b])) st () ((st.set i (a5 (k,a))).set j (a5 (k,b))):=by
 rcases hk with rfl|rfl<;>rfl
def B0(h:Run (execs Γ b) (st.set i (a5 (.B',.EX [] []))) f st1):Run (execs Γ (.newD i::b)) st f st1:=eC (aa (a:=()) (st1:=st.set i (a5 (.B',.EX [] []))) rfl aJ) h
def mZ(h:st[i]?=a5 (a5 (.B',.EX ks us))):Run (gz i) st (ks,us) st:=by
 change gz i st=_;unfold gz;rw[h]
def qh:Run (iN (k,.str y)) st y st:=rfl
def yX(a:st[i]?=a5 (a5 (.B',.EX ks us)))(b:y∉ks)(c:ks.length<df):Run (jx i y (.own,.lst xs)) st () (st.set i (a5 (.B',.EX (ks++[y]) (us++[.lst xs])))):=by
 change jx i y (.own,.lst xs) st=_;unfold jx
 dsimp only
 rw[a]
 dsimp only
 rw[Wq ⟨b,c⟩]
def yY(a:st[i]?=a5 (a5 (.B',.EX ks us)))(b:cC ks us y=a5 (.lst xs))(c:xs.length<df):Run (jy i y u) st () (st.set i (a5 (.B',.EX ks (iO ks us y (.lst (xs++[u])))))):=by
 change jy i y u st=_;unfold jy;rw[a]
 dsimp only
 rw[b]
 dsimp only
 rw[Wq c]
def DN(b:Run (ev Γ a) st (k,.str y) st1)(c:st1[i]?=a5 (a5 (.B',.EX ks us))):Run (E8 Γ (.inD neg a i)) st (Oc neg y ks) st1 :=
 aa b (aa qh (aa (mZ c) aJ))
def B1(b:Run (ev Γ c) st (.own,.lst xs) st1)(a:st1[i]?=a5 (a5 (.B',.EX ks us)))(d:Run (ev Γ e) st1 (k,.str y) st1)(g:y∉ks)(h:ks.length<df)
  (j:Run (execs Γ l) (st1.set i (a5 (.B',.EX (ks++[y]) (us++[.lst xs])))) f m):Run (execs Γ (.putD i e c::l)) st f m:=by
 show eC ?_ j;show aa b (aa (mZ a) (aa d (aa qh (aa (yX a g h) aJ))))
def B3(a:st[i]?=a5 (a5 (.B',.EX ks us)))(b:Run (ev Γ c) st (k,.str y) st)(d:y∈ks)(e:Run (ev Γ g) st r st)(h:Run (lift r) st u st)(j:cC ks us y=a5 (.lst xs))(l:xs.length<df)
  (m:Run (execs Γ n) (st.set i (a5 (.B',.EX ks (iO ks us y (.lst (xs++[u])))))) f o):Run (execs Γ (.Hb i c g::n)) st f o:=by
 show eC ?_ m;show aa (mZ a) (aa b (aa qh (aa (mZ a) ?_)));rw[Wq d];show aa e (aa h (aa (yY a j l) aJ))
def DO(h:st[i]?=a5 (a5 (.B',.EX ks us))):Run (ev Γ (.Kq i)) st (.bor i,.EX ks us) (st.set i (a5 (.own,.EX ks us))):=by
 change uV i st=_;unfold uV;rw[h]
end
theorem gK(f:Str->U)(y:Str):∀ks:List Str,cC ks (ks.map f) y=if y∈ks then a5 (f y) else b5
 |[]=>rfl
 |k::ks=>by
  rw[gj];change(if k=y then a5 (f k) else cC ks (ks.map f) y)=_;by_cases e:k=y
  .subst e;rw[Wq rfl,Wq (by simp)]
  .rw[Ws e,gK f y ks];have:(y∈k::ks)↔y∈ks:=by simp[qs e]
   by_cases h:y∈ks
   .rw[Wq h,Wq (this.mpr h)]
   .rw[Ws h,Ws λz=>h (this.mp z)]
theorem oB(f:Str->U)(y:Str)(u:U):∀ks:List Str,ks.Nodup->iO ks (ks.map f) y u=ks.map λk=>if k=y then u else f k
 |[],_=>rfl
 |k::ks,h=>by
  have⟨a,b⟩:=nC.mp h;rw[gj,gj];change(if k=y then u::ks.map f else f k::iO ks (ks.map f) y u)=_;by_cases e:k=y
  .subst e;rw[Wq rfl,Wq rfl];congr 1
   show IY λz hz=>?_;have c:z≠k:=λq=>a (by rw[<-q];show hz);rw[Ws c]
  .rw[Ws e,Ws e,oB f y u ks b]
def wa:cz .isin (.str x) (.EX ks vs)=a5 (dV (x∈ks)):=rfl
def lB:cz .Fg (.str x) (.EX ks vs)=a5 (!dV (x∈ks)):=rfl
def yZ(a:List Bool):GZ .all [(k,.lst (a.map .bl))]=a5 (.loc,.bl (a.all id)):=by
 change(jv (a.map U.bl)).map _=_;have:∀a:List Bool,jv (a.map U.bl)=a5 a:=λa=>by
  induction a with
  |nil=>rfl
  |cons b a c=>change(jv (a.map U.bl)).map _=_;rw[c];rfl
 rw[this];rfl
section
end
def rR(h:ks.length<1000)(a:x∉ks):dI (.str x) u (.EX ks us)=a5 (.EX (ks++[x]) (us++[u])):=by
 rw[rP h];unfold dput;rw[Ws a]
def y4:cz .eq (.tup (a.map U.str)) (.tup [])=a5 (dV (a=[])):=by
 simp only[cz];rw[Wq ⟨by simp[GY,fg],by simp[GY,gx]⟩];cases a with
 |_=>simp[bE,cp]
section
end
end TM
namespace TM
open PySem L2
section
def cS(h:st[i]?=a5 (a5 (.io,u))):Run (ev Γ (.var i)) st (.bor i,u) st:=dt h
end
abbrev B4:List S :=
   [.ite (.cmp .eq (.bi .len [.var 0]) (.cst (.int 0)))
      [.ret (.lst [.var 1,.cst (.int 0),.cst (.int 1)])]
      [],
    .set 2 (.pop 0),
    .ret (.lst [(.bin .JN (.var 2) (.cst (.int 2))),(.cst (.int 0)),(.bin .mod (.var 2) (.cst (.int 2)))])]
abbrev wb:Fn:=⟨"_law_source",2,3,.HF [0]::B4⟩
def Qt:(3:Nat)<=df:=by decide
def wc:fk Γ wb [0] B4 [.lst [],.int k]=a5 (.ok (.own,.tup [.lst [.int k,.int 0,.int 1],.lst []])):=by
 show bI (st0:=[a5 (.io,.lst []),a5 (.loc,.int k),b5]) (f:=.rt .own (.lst [.int k,.int 0,.int 1])) (st:=[a5 (.io,.lst []),a5 (.loc,.int k),b5]) rfl rfl ?_ rfl rfl;apply ib
 all_goals repeat' (first|show cS rfl|show bU (by simp)|show bM|show Qt|sizeOf_list_dec)
def wd:fk Γ wb [0] B4 [.lst ((ns++[c]).map .int),.int k]=a5 (.ok (.own,.tup [.lst [.int (c / 2),.int 0,.int (c % 2)],.lst (ns.map .int)])):=by
 have hl:cz .eq (.int (((ns++[c]).map U.int).length:Nat)) (.int 0)=a5 c2:=bU (by simp;lia);have a:((ns++[c]).map U.int).dropLast=ns.map .int:=by simp
 have b:Run (ev Γ (.pop 0)) [a5 (.io,.lst ((ns++[c]).map .int)),a5 (.loc,.int k),b5] (.loc,.int c) [a5 (.io,.lst (ns.map .int)),a5 (.loc,.int k),b5]:=by
  have:=zO (Γ:=Γ) (st:=[a5 (.io,.lst ((ns++[c]).map .int)),a5 (.loc,.int k),b5]) (i:=0) (u:=.int c) (us:=(ns++[c]).map .int) (k:=.io) rfl rfl (by simp);rw[a]at this;show this
 show bI (st0:=[a5 (.io,.lst ((ns++[c]).map .int)),a5 (.loc,.int k),b5]) (f:=.rt .own (.lst [.int (c / 2),.int 0,.int (c % 2)])) (st:=[a5 (.io,.lst (ns.map .int)),a5 (.loc,.int k),a5 (.loc,.int c)]) rfl rfl ?_ rfl rfl;show aV (st1:=[a5 (.io,.lst ((ns++[c]).map .int)),a5 (.loc,.int k),b5]) ?_ ar (aw (st2:=[a5 (.io,.lst (ns.map .int)),a5 (.loc,.int k),a5 (.loc,.int c)]) b aA ?_)
 all_goals repeat' (first|show cS rfl|show hl|show bM|show Qt|sizeOf_list_dec)
abbrev eD(a t w:Int):U:=.lst [.int a,.int t,.int w]
abbrev lC(a t w m:Int):Int:=if w=0 then a % m else((a % 10 ^ 15+1) * 48271+(t+1) * (t+1) * 16807+(t+1) * 7919) % 2147483647 * 69621 % 2147483629 % m
abbrev we(a w m:Int):Int:=if w=0 then a / m else a
abbrev zQ:List S :=
   [.put 0 (.cst (.int 1)) (.bin .add (.idx (.var 0) (.cst (.int 1))) (.cst (.int 1))),
    .ite (.cmp .eq (.idx (.var 0) (.cst (.int 2))) (.cst (.int 0)))
      [.set 2 (.bin .mod (.idx (.var 0) (.cst (.int 0))) (.var 1)),
      .put 0 (.cst (.int 0)) (.bin .JN (.idx (.var 0) (.cst (.int 0))) (.var 1)),
      .ret (.var 2)]
      [],
    .set 3 (.idx (.var 0) (.cst (.int 1))),
    .set 4 (.bin .add (.bin .add (.bin .mul (.bin .add (.bin .mod (.idx (.var 0) (.cst (.int 0))) (.bin .pow (.cst (.int 10)) (.cst (.int 15)))) (.cst (.int 1))) (.cst (.int 48271))) (.bin .mul (.bin .mul (.var 3) (.var 3)) (.cst (.int 16807)))) (.bin .mul (.var 3) (.cst (.int 7919)))),
    .ret (.bin .mod (.bin .mod (.bin .mul (.bin .mod (.var 4) (.cst (.int 2147483647))) (.cst (.int 69621))) (.cst (.int 2147483629))) (.var 1))]
abbrev rS:Fn:=⟨"_law_draw",2,5,.HF [0]::zQ⟩
def wg(i:0<=t)(j:t<2 ^ 62)(m0:0<m)(m1:m<1073741824):fk Γ rS [0] zQ [eD a t w,.int m]=a5 (.ok (.loc,.tup [.int (lC a t w m),eD (we a w m) (t+1) w])):=by
 unfold lC we eD;have c:∀a t w:Int,FR [U.int a,.int t,.int w] 0=a5 (.int a):=λa t w=>rfl;have d:∀a t w:Int,FR [U.int a,.int t,.int w] 1=a5 (.int t):=λa t w=>rfl;have e:∀a t w:Int,FR [U.int a,.int t,.int w] 2=a5 (.int w):=λa t w=>rfl;have g:∀a t w x:Int,dI (.int 1) (.int x) (.lst [.int a,.int t,.int w])=a5 (.lst [.int a,.int x,.int w]):=λa t w x=>rfl;have h:∀a t w x:Int,dI (.int 0) (.int x) (.lst [.int a,.int t,.int w])=a5 (.lst [.int x,.int t,.int w]):=λa t w x=>rfl;by_cases b:w=0
 .subst b;rw[Wq rfl,Wq rfl];show bI (st0:=[a5 (.io,.lst [.int a,.int t,.int 0]),a5 (.loc,.int m),b5,b5,b5]) (f:=.rt .loc (.int (a % m))) (st:=[a5 (.io,.lst [.int (a / m),.int (t+1),.int 0]),a5 (.loc,.int m),a5 (.loc,.int (a % m)),b5,b5]) rfl rfl ?_ rfl rfl;show gI (rv:=(.loc,.int (t+1))) (rk:=(.loc,.int 1)) (k:=.io) (k':=.io) (br (aW (cS rfl) ao ∅ (bT (d _ _ _))) ao ∅ bP) rfl ao (aB aM (aB aM aK)) rfl rfl (g _ _ _ _) ?_;apply ib
  .repeat' (first|show cS rfl|show bT (e _ _ _)|show bU (show((0:Int)==0)=bD from rfl)|sizeOf_list_dec)
  .show aw (st2:=[a5 (.io,.lst [.int a,.int (t+1),.int 0]),a5 (.loc,.int m),a5 (.loc,.int (a % m)),b5,b5]) (br (aW (cS rfl) ao ∅ (bT (c _ _ _))) (ab rfl) ∅ (du m0)) aA ?_;show gI (rv:=(.loc,.int (a / m))) (rk:=(.loc,.int 0)) (k:=.io) (k':=.io) (br (aW (cS rfl) ao ∅ (bT (c _ _ _))) (ab rfl) ∅ (jP ⟨m0,m1⟩)) rfl ao (aB aM (aB aM aK)) rfl rfl (h _ _ _ _) ?_
   repeat' sizeOf_list_dec
 .rw[Ws b,Ws b];show bI (st0:=[a5 (.io,.lst [.int a,.int t,.int w]),a5 (.loc,.int m),b5,b5,b5]) (f:=.rt .loc (.int (((a % 10 ^ 15+1) * 48271+(t+1) * (t+1) * 16807+(t+1) * 7919) % 2147483647 * 69621 % 2147483629 % m))) (st:=[a5 (.io,.lst [.int a,.int (t+1),.int w]),a5 (.loc,.int m),b5,a5 (.loc,.int (t+1)),a5 (.loc,.int ((a % 10 ^ 15+1) * 48271+(t+1) * (t+1) * 16807+(t+1) * 7919))]) rfl rfl ?_ rfl rfl;show gI (rv:=(.loc,.int (t+1))) (rk:=(.loc,.int 1)) (k:=.io) (k':=.io) (br (aW (cS rfl) ao ∅ (bT (d _ _ _))) ao ∅ bP) rfl ao (aB aM (aB aM aK)) rfl rfl (g _ _ _ _) ?_;apply aV
  .repeat' (first|show cS rfl|show bT (e _ _ _)|show bU (show(w==0)=c2 by simp[b])|sizeOf_list_dec)
  .show ar
  .repeat' (first|show cS rfl|show bT (c _ _ _)|show bT (d _ _ _)|show du m0|sizeOf_list_dec)
abbrev Src(T:Int)(u:U):Prop:=∃a t w,u=eD a t w/\0<=t/\t<=T
def Src.up(h:Src T u)(l:T<=b):Src b u:=let ⟨a,t,w,e,c,d⟩:=h;⟨a,t,w,e,c,VY d l⟩
abbrev bc(Γ:Tab):Prop:=∀(T m:Int) (u:U),Src T u->T<2 ^ 62->0<m->m<1073741824->∃n u',Γ "_law_draw" [u,.int m]=a5 (.ok (.loc,.tup [.int n,u']))/\0<=n/\n<m/\Src (T+1) u'
def oC(m0:0<m):0<=lC a t w m/\lC a t w m<m:=by
 unfold lC;split
 .show⟨LU _ ⋯,MQ _ m0⟩
 .show⟨LU _ ⋯,MQ _ m0⟩
def wj(h:FX Pg "_law_draw" rS):bc (E7 Pg (d+1)):=by
 rintro T m u ⟨a,t,w,rfl,b,c⟩ e m0 m1;show⟨lC a t w m,eD (we a w m) (t+1) w,?_,(oC m0).1,(oC m0).2,⟨_,_,_,rfl,⋯,⋯⟩⟩;rw[b9 h _ rfl];show wg b ⋯ m0 m1
section
def wm(p:bc Γ)(q:st[i]?=a5 (a5 (k0,b)))(f:k0.root=bD)(r:Run (ev Γ e) st (.loc,.int m) st1)(d:st1[i]?=a5 (a5 (k,u)))(hk:k.root=bD)(g:Src T u)(s:T<2 ^ 62)(m0:0<m)(m1:m<1073741824):
  ∃n u',Run (ev Γ (.EW "_law_draw" [.var i,e] [0])) st (.loc,.int n) (st1.set i (a5 (k,u')))/\0<=n/\n<m/\Src (T+1) u':=by
 have⟨n,u',v,x,y,hs⟩:=p T m u g s m0 m1;show⟨n,u',?_,x,y,hs⟩;obtain⟨a,t,w,rfl,_,_⟩:=hs;obtain⟨h,l,o,rfl,_,_⟩:=g;have z:Run (ev Γ (.var i)) st (.bor i,b) st:=by
  have:=dt q (by rintro rfl;cases f);unfold kv at this;rw[Wq f]at this;show this
 have c:[((Kd.bor i,b):Kd×U),(.loc,.int m)].map (dm st1)=[(.bor i,eD h l o),(.loc,.int m)]:=by
  change [dm st1 (.bor i,b),(.loc,.int m)]=_;unfold dm
  dsimp only
  rw[d];simp[hk]
 show qe (rs:=[(.bor i,b),(.loc,.int m)]) (ws:=[eD a t w]) (st1:=st1) (af z (af r aq)) ?_ ?_ (.inr rfl) ?_ ?_
 .rw[c];show⟨⟨k,hk,d⟩,trivial⟩
 .rw[c];show v
 .rw[c];change((bD&&dV ([a5 i].Nodup))&&(bD&&(bD&&bD)))=bD;simp
 .rw[c];change(match fO [(Kd.bor i,eD h l o),(.loc,.int m)] 0 with|some j=>(match eD a t w,st1[j]? with|.lst us,a5 (a5 (k,_))=>fz _ [] [] (st1.set j (a5 (k,.lst us)))|_,_=>b5)|none=>b5)=_;change(match eD a t w,st1[i]? with|.lst us,a5 (a5 (k,_))=>fz _ [] [] (st1.set i (a5 (k,.lst us)))|_,_=>b5)=_;rw[d];rfl
def cM(b:bc Γ)(a:st[i]?=a5 (a5 (k,u)))(hk:k.root=bD)(c:Run (ev Γ e) st (.loc,.int m) st)(d:Src T u)(f:T<2 ^ 62)(m0:0<m)(m1:m<1073741824):
  ∃n u',Run (ev Γ (.EW "_law_draw" [.var i,e] [0])) st (.loc,.int n) (st.set i (a5 (k,u')))/\0<=n/\n<m/\Src (T+1) u':=wm b a hk c a hk d f m0 m1
end
section
def ij(h:st[i]?=a5 (a5 (.loc,.bl b))):Run (E8 Γ (.var i)) st b st:=aa (dt h) (da rfl)
end
abbrev wo:List S :=
   [.set 6 (.idx (.var 1) (.EW "_law_draw" [.var 0,.bi .len [.var 1]] [0])),
   .ite (.and [.var 3,.cmp .gt (.var 2) (.cst (.int 0))])
    [.set 6 (.idx (.var 1) (.EW "_law_draw" [.var 0,.var 2] [0]))]
    [],
   .ite (.cmp .Fg (.var 6) (.var 4))
    [.app 4 (.var 6)]
    []]
abbrev DP:List U:=[.int 0,.int 1,.int 1,.int 2,.int 2,.int 3,.int 8,.int 2]
abbrev DQ:List S :=
   [.set 4 (.lst []),
    .Fh c2 [5] .FK [.idx (.lst [.cst (.int 0),.cst (.int 1),.cst (.int 1),.cst (.int 2),.cst (.int 2),.cst (.int 3),.cst (.int 8),.cst (.int 2)]) (.EW "_law_draw" [.var 0,.cst (.int 8)] [0])] wo,
    .ret (.tup [(.idx (.var 1) (.var 2)),(.bi .tuple [(.var 4)])])]
abbrev B5:Fn:=⟨"_law_row",4,7,.HF [0]::DQ⟩
abbrev dh(u:U)(ws:List Str)(at_:Int)(b:Bool)(told:List Str)(o5 o6:Option (Kd×U)):av:=[a5 (.io,u),a5 (.any,.lst (ws.map .str)),a5 (.loc,.int at_),a5 (.loc,.bl b),a5 (.own,.lst (told.map .str)),o5,o6]
def m6{ws:List Str}{n:Int}(b:0<=n)(c:n<ws.length):∃x,x∈ws/\ws[n.toNat]?=a5 x/\FR (ws.map U.str) n=a5 (.str x):=by
 have⟨k,rfl⟩:=uk b;have a:k<ws.length:=by lia
 show⟨ws[k],G_ a,by simp[a],iQ (by simp[a])⟩
def wq(j:bc Γ)(s:Src T u)(G:T+1<2 ^ 62)(H:ws.length<1000000)(I:0<=at_)(J:at_<ws.length)(L:told.length<=8):
  ∃u' x a,Run (execs Γ wo) (dh u ws at_ b told o5 o6) .nx (dh u' ws at_ b a o5 (a5 (.any,.str x)))/\Src (T+2) u'/\(a=told\/(x∈ws/\x∉told/\a=told++[x])):=by
 have t:(8:Nat)<df:=by decide
 have⟨n,f,v,w,l,s1⟩:=cM (st:=dh u ws at_ b told o5 o6) j (i:=0) (k:=.io) (e:=.bi .len [.var 1]) (m:=((ws.map U.str).length:Nat)) rfl rfl (cQ (af (aS rfl) aq) trivial bM) s ⋯ (by simp;lia) (by simp;lia);rw[d3]at l;obtain⟨x,A,_,ex⟩:=m6 w l;have o:Run (ev Γ (.idx (.var 1) (.EW "_law_draw" [.var 0,.bi .len [.var 1]] [0]))) (dh u ws at_ b told o5 o6) (.any,.str x) (dh f ws at_ b told o5 o6):=aW (aS rfl) v trivial (bT (k:=.any) ex);have d:∀(c:U) (y:Str),y∈ws->Src (T+2) c->∃u' x a,Run (execs Γ [.ite (.cmp .Fg (.var 6) (.var 4)) [.app 4 (.var 6)] []]) (dh c ws at_ b told o5 (a5 (.any,.str y))) .nx (dh u' ws at_ b a o5 (a5 (.any,.str x)))/\Src (T+2) u'/\(a=told\/(x∈ws/\x∉told/\a=told++[x])):=by
  intro c y g hs;by_cases h:y∈told
  .show⟨c,y,told,?_,hs,.inl rfl⟩;show aV (aN (aS rfl) (aL rfl) ∅ (jQ.trans (by simp[h]))) ar ar
  .show⟨c,y,told++[y],?_,hs,.inr ⟨g,h,rfl⟩⟩;show cw (aN (aS rfl) (aL rfl) ∅ (jQ.trans (by simp[h]))) (fD (k:=.own) (k':=.own) rfl (aS rfl) (vV rfl) rfl rfl (by simp;lia) ar) ?_;rw[show told.map U.str++[U.str y]=(told++[y]).map U.str by simp];show ar
 by_cases p:b=bD/\0<at_
 .have⟨rfl,r⟩:=p;have⟨N,c,B,C,O,s2⟩:=cM (st:=dh f ws at_ bD told o5 (a5 (.any,.str x))) j (i:=0) (k:=.io) (e:=.var 2) (m:=at_) rfl rfl (ab rfl) s1 ⋯ r ⋯;obtain⟨y,g,_,D⟩:=m6 (ws:=ws) C ⋯;have⟨u',z,a,q,hs,ho⟩:=d c y g (s2.up ⋯);show⟨u',z,a,aw o jO (cw (fC (fW (ij rfl) (de (aN (ab rfl) ao trivial (ly (by simp[r])))))) (aw (aW (aS rfl) B trivial (bT (k:=.any) D)) jO ar) q),hs,ho⟩
 .have⟨u',z,a,q,hs,ho⟩:=d f x A (s1.up ⋯);show⟨u',z,a,aw o jO (aV (st1:=dh f ws at_ b told o5 (a5 (.any,.str x))) (fC ?_) ar q),hs,ho⟩;cases b with
  |false=>show mV (ij rfl)
  |true=>show fW (ij rfl) (de (aN (ab rfl) ao trivial (ly (by simp at p ⊢;lia))))
abbrev jV(Γ:Tab):Prop:=∀(T at_:Int) (u:U) (ws:List Str) (b:Bool),Src T u->T+17<2 ^ 62->ws.length<1000000->0<=at_->at_<ws.length->∃(x:Str) (told:List Str) (u':U),Γ "_law_row" [u,.lst (ws.map .str),.int at_,.bl b]=a5 (.ok (.loc,.tup [.tup [.str x,.tup (told.map .str)],u']))/\ws[at_.toNat]?=a5 x/\told.Nodup/\(∀y∈told,y∈ws)/\told.length<=8/\Src (T+17) u'
def y6(a:0<=n)(b:n<8):∃m:Nat,m<=8/\FR DP n=a5 (.int (m:Nat)):=by
 have⟨k,rfl⟩:=uk a;have:k=0\/k=1\/k=2\/k=3\/k=4\/k=5\/k=6\/k=7:=by lia
 rcases this with rfl|rfl|rfl|rfl|rfl|rfl|rfl|rfl
 .show⟨0,⋯,rfl⟩
 .show⟨1,⋯,rfl⟩
 .show⟨1,⋯,rfl⟩
 .show⟨2,⋯,rfl⟩
 .show⟨2,⋯,rfl⟩
 .show⟨3,⋯,rfl⟩
 .show⟨8,⋯,rfl⟩
 .show⟨2,⋯,rfl⟩
def y7(o:bc Γ){ws:List Str}{T at_:Int}(p:Src T u)(hT:T+17<2 ^ 62)(C:ws.length<1000000)(s:0<=at_)(v:at_<ws.length):
  ∃(x:Str) (told:List Str) (u':U),fk Γ B5 [0] DQ [u,.lst (ws.map .str),.int at_,.bl b]=a5 (.ok (.loc,.tup [.tup [.str x,.tup (told.map .str)],u']))/\ws[at_.toNat]?=a5 x/\told.Nodup/\(∀y∈told,y∈ws)/\told.length<=8/\Src (T+17) u':=by
 have D:(8:Nat)<df:=by decide
 obtain⟨x,_,G,ex⟩:=m6 s v;have⟨n,w,H,I,J,s1⟩:=cM (st:=dh u ws at_ b [] b5 b5) o (i:=0) (k:=.io) (e:=.cst (.int 8)) (m:=8) rfl rfl ao p ⋯ ⋯ ⋯;have⟨m,hm,em⟩:=y6 I J;obtain⟨st',L,g,told,o5,o6,rfl,s2,j,l,A,_⟩:=bV (rs:=[(.loc,.int (m:Nat))]) (t:=c2) (is:=[5]) (body:=execs Γ wo) (λi:Nat=>(Kd.loc,U.int (0+(i:Int)))) (λd r st=>∃(g:U) (told:List Str) (o5 o6:Option (Kd×U)),st=dh g ws at_ b told o5 o6/\Src (T+1+2 * (d.length:Nat)) g/\told.Nodup/\(∀y∈told,y∈ws)/\told.length<=d.length/\d.length+r.length=m)
  (λd r st _=>trivial) (λd y r st h=>by
   have⟨g,told,o5,o6,rfl,s2,j,l,A,N⟩:=h;simp only[mu]at N;have⟨O,z,Q,q,s3,ho⟩:=wq o (u:=g) (ws:=ws) (told:=told) (b:=b) (at_:=at_) (o5:=a5 (.loc,.int (0+(y:Int)))) (o6:=o6) s2 ⋯ C s v ⋯;show⟨dh g ws at_ b told (a5 (.loc,.int (0+(y:Int)))) o6,_,aA,q,O,Q,_,_,rfl,s3.up (by simp;lia),?_⟩;rw[ke,y0];rcases ho with rfl|⟨Y,h2,rfl⟩
   .show⟨j,l,⋯,⋯⟩
   .show⟨wk.mpr ⟨j,by simp,λa ha c B=>by rw[js]at B;subst B;show λe=>h2 (e▸ha)⟩,λy hy=>?_,by simp;lia,⋯⟩;rcases mh.mp hy with hy|hy
    .show l y hy
    .rw[js]at hy;subst hy;show Y) (i3 m) [] (dh w ws at_ b [] b5 b5) ⟨w,[],b5,b5,rfl,by simpa using s1,by simp,by simp,by simp,by simp⟩
 rw[o3,Fw]at s2 A;show⟨x,told,g,?_,G,j,l,⋯,s2.up ⋯⟩;show bI (st0:=[a5 (.io,u),a5 (.any,.lst (ws.map .str)),a5 (.loc,.int at_),a5 (.loc,.bl b),b5,b5,b5]) (f:=.rt .loc (.tup [.str x,.tup (told.map .str)])) (st:=dh g ws at_ b told o5 o6) rfl ?_ ?_ rfl rfl
 .obtain⟨_,_,_,rfl,_⟩:=p;rfl
 show aw (st2:=dh u ws at_ b [] b5 b5) (cK aq trivial aK (kj _)) bt ?_;show cL (rs:=[(.loc,.int (m:Nat))]) (af (aW (x:=(.own,.lst DP)) (cK (by repeat (first|show aq|show af ao (by assumption)|apply af ao)) (by show trivial) (by repeat (first|show aK|apply aB aM)) (by decide)) H trivial (bT em)) aq) trivial (ie ⋯) rfl L ?_;show cA (jM (af (aW (aS rfl) (ab rfl) trivial (bT (k:=.any) ex)) (af (cQ (af (aL rfl) aq) ∅ rfl) aq)) trivial (aB (vV rfl) (aB aM aK)) (by change 2<=df;lia)) gG
def DR(a:bc (E7 Pg d))(h:FX Pg "_law_row" B5):jV (E7 Pg (d+1)):=by
 intro T at_ u ws b c f g i j;have⟨x,told,u',e,r⟩:=y7 a (b:=b) c f g i j;show⟨x,told,u',by rw[b9 h _ rfl];show e,r⟩
abbrev zR:List S :=
   [.ite (.and [.cmp .eq (.idx (.var 2) (.cst (.int 0))) (.idx (.var 1) (.cst (.int 0))),.cmp .eq (.bi .sorted [.idx (.var 2) (.cst (.int 1))]) (.bi .sorted [.idx (.var 1) (.cst (.int 1))])])
    [.Hx]
    []]
abbrev DS:List S:=[.Fh c2 [2] .seq [.var 0] zR,.app 0 (.var 1)]
abbrev y8:Fn:=⟨"_law_lay",2,3,.HF [0]::DS⟩
abbrev fE(rs:List Row)(r:Row)(o:Option (Kd×U)):av:=[a5 (.io,.lst (rs.map EU)),a5 (.loc,EU r),o]
abbrev layR(rs:List Row)(r:Row):List Row:=if keyOf r∈rs.map keyOf then rs else rs++[r]
def wu(c:x.2.length<64)(d:r.2.length<64):Run (E8 Γ (.and [.cmp .eq (.idx (.var 2) (.cst (.int 0))) (.idx (.var 1) (.cst (.int 0))),.cmp .eq (.bi .sorted [.idx (.var 2) (.cst (.int 1))]) (.bi .sorted [.idx (.var 1) (.cst (.int 1))])])) (fE rs r (a5 (.loc,EU x))) (dV (keyOf x=keyOf r)) (fE rs r (a5 (.loc,EU x))):=by
 have a:∀y:Row,fN (.loc,EU y) (.int 0)=a5 (.loc,.str y.1):=λy=>rfl;have b:∀y:Row,fN (.loc,EU y) (.int 1)=a5 (.loc,.tup (y.2.map .str)):=λy=>rfl;have f:Run (E8 Γ (.cmp .eq (.idx (.var 2) (.cst (.int 0))) (.idx (.var 1) (.cst (.int 0))))) (fE rs r (a5 (.loc,EU x))) (dV (x.1=r.1)) (fE rs r (a5 (.loc,EU x))):=aN (aW (ab rfl) ao trivial (a x)) (aW (ab rfl) ao trivial (a r)) trivial iV;have g:Run (E8 Γ (.cmp .eq (.bi .sorted [.idx (.var 2) (.cst (.int 1))]) (.bi .sorted [.idx (.var 1) (.cst (.int 1))]))) (fE rs r (a5 (.loc,EU x))) (dV (aH x.2=aH r.2)) (fE rs r (a5 (.loc,EU x))):=aN (cQ (af (aW (ab rfl) ao trivial (b x)) aq) trivial (sorted_strs c)) (cQ (af (aW (ab rfl) ao trivial (b r)) aq) trivial (sorted_strs d)) trivial oy;have e:dV (keyOf x=keyOf r)=(dV (x.1=r.1)&&dV (aH x.2=aH r.2)):=by
  rw[<-Bool.decide_and];show decide_eq_decide.mpr (by unfold keyOf;show QJ ..▸Iff.rfl)
 rw[e];show fC (vZ f λ_=>de g)
def B6:Run (execs Γ (.Hx::a)) st (.rt .loc .EY) st:=tJ (aJ)
theorem oD(b:r.2.length<64):∀(xs:List Row) (o:Option (Kd×U)),(∀x∈xs,x.2.length<64) ->
  ∃o',Run (forM c2 [2] (execs Γ zR) [(.bor 0,.lst (rs.map EU))] (xs.map λx=>(Kd.loc,EU x))) (fE rs r o) (if keyOf r∈xs.map keyOf then .rt .loc .EY else .nx) (fE rs r o')
 |[],o,_=>⟨o,by rw[Ws (by simp)];show vX ⟨⟨_,rfl,rfl⟩,trivial⟩⟩
 |x::xs,o,h=>by
  have a:=wu (Γ:=Γ) (rs:=rs) (h x (by simp)) b;by_cases hk:keyOf x=keyOf r
  .show⟨a5 (.loc,EU x),?_⟩;rw[Wq (by simp[hk])];rw[Wt hk]at a;show EM ⟨⟨_,rfl,rfl⟩,trivial⟩ aA (ib a B6)
  .rw[Wr hk]at a;have⟨o',q⟩:=oD (Γ:=Γ) (rs:=rs) b xs (a5 (.loc,EU x)) λy c=>h y (by simp[c]);show⟨o',?_⟩;have d:(keyOf r∈(x::xs).map keyOf)↔(keyOf r∈xs.map keyOf):=by
    rw[gj,gs];show⟨λz=>z.resolve_left λe=>hk e.symm,.inr⟩
   rw[show(if keyOf r∈(x::xs).map keyOf then Fl.rt .loc .EY else Fl.nx)=(if keyOf r∈xs.map keyOf then Fl.rt .loc .EY else Fl.nx) by simp only[d]];show yR ⟨⟨_,rfl,rfl⟩,trivial⟩ aA (aV a ar ar) q
def y9(b:r.2.length<64)(h:∀x∈rs,x.2.length<64)(hl:rs.length<1000):fk Γ y8 [0] DS [.lst (rs.map EU),EU r]=a5 (.ok (.loc,.tup [.EY,.lst ((layR rs r).map EU)])):=by
 have c:(1000:Nat)<df:=by decide
 have⟨o',q⟩:=oD (Γ:=Γ) b rs b5 h;have hs:cq [0] [.lst (rs.map EU),EU r] y8.ns=fE rs r b5:=by
  change [a5 (Kd.io,U.lst (rs.map EU)),a5 (if Fu (EU r)=bD then Kd.loc else Kd.any,EU r),b5]=_;rw[Wq (rO r)];rfl
 have a:G0 .seq [(Kd.bor 0,U.lst (rs.map EU))]=a5 (rs.map λx=>(Kd.loc,EU x)):=by
  change a5 ((rs.map EU).map λu=>(kE (.bor 0),u))=_;rw[ro];rfl
 unfold layR;by_cases hk:keyOf r∈rs.map keyOf
 .rw[Wq hk]at q ⊢;show bI (f:=.rt .loc .EY) rfl hs (tJ (zN (af (cS rfl) aq) ⟨⟨_,rfl,rfl⟩,trivial⟩ a rfl q)) rfl rfl
 .rw[Ws hk]at q ⊢;show bI (f:=.nx) (st:=fE (rs++[r]) r o') rfl hs (cL (af (cS rfl) aq) ⟨⟨_,rfl,rfl⟩,trivial⟩ a rfl q (fD (k:=.io) (k':=.io) rfl (ab rfl) aM rfl rfl (by simp;lia) ?_)) rfl rfl;rw[show rs.map EU++[EU r]=(rs++[r]).map EU by simp];show ar
abbrev jW(Γ:Tab):Prop:=∀(rs:List Row) (r:Row),r.2.length<64->(∀x∈rs,x.2.length<64)->rs.length<1000->Γ "_law_lay" [.lst (rs.map EU),EU r]=a5 (.ok (.loc,.tup [.EY,.lst ((layR rs r).map EU)]))
def DT(h:FX Pg "_law_lay" y8):jW (E7 Pg (d+1)):=λrs r a b hl=>by
 rw[b9 h _ rfl];show y9 a b hl
abbrev LK:Kd×U->Bool
 |(.bor _,_)=>c2
 |_=>bD
section
def oE(h:LK r=bD):dm st r=r:=by
 have⟨k,u⟩:=r;cases k<;>first|rfl|cases h
def lD(h:LK r=bD):nS a r=bD:=by
 have⟨k,u⟩:=r;cases k<;>first|rfl|cases h
def oF(h:rs.all LK=bD):aX rs st:=by
 induction rs with
 |nil=>trivial
 |cons r rs a =>
  have⟨k,u⟩:=r;rw[Rx,b6]at h;have:=a h.2;cases k<;>first|show this|cases h.1
def y_(j:st[i]?=a5 (a5 (k0,a)))(g:k0.root=bD)(l:Run (a9 Γ es) st rs st1)(c:st1[i]?=a5 (a5 (k,.lst us)))(hk:k.root=bD)(m:bK us=bD)(n:rs.map (dm st1)=rs)(o:aX rs st1)(p:∀r∈rs,nS [a5 i] r=bD)
  (s:Γ f (.lst us::rs.map (·.2))=a5 (.ok (d,.tup [v,.lst h]))) (t:d=.own\/d=.loc):Run (ev Γ (.EW f (.var i::es) [0])) st (d,v) (st1.set i (a5 (k,.lst h))):=by
 have u:Run (ev Γ (.var i)) st (.bor i,a) st:=by
  have:=dt j (by rintro rfl;cases g);unfold kv at this;rw[Wq g]at this;show this
 have w:dm st1 (.bor i,a)=(.bor i,.lst us):=by
  unfold dm
  dsimp only
  rw[c];simp[hk]
 have b:((Kd.bor i,a)::rs).map (dm st1)=(.bor i,.lst us)::rs:=by rw[gj,w,n]
 have e:fO ((Kd.bor i,U.lst us)::rs) 0=a5 i:=by
  change(if bK us=bD then a5 i else b5)=_;rw[Wq m]
 show qe (rs:=(.bor i,a)::rs) (ws:=[.lst h]) (st1:=st1) (af u l) ?_ ?_ t ?_ ?_
 .rw[b];show⟨⟨k,hk,c⟩,o⟩
 .rw[b];show s
 .rw[b];unfold nU;rw[b6,b6];show⟨⟨by simp[e],by simp⟩,lg.mpr λq x=>?_⟩;cases q with
  |zero=>simp
  |succ q =>
   have hl:q<rs.length:=by have:=I0.mp x;simpa using this
   rw[H0];show .inr ?_;rw[show((Kd.bor i,U.lst us)::rs).getD (q+1) (.loc,.EY)=rs[q] by simp[I_,hl]];simp only[gj,J_,e];show p _ (G_ hl)
 .rw[b];unfold fz;rw[e]
  dsimp only
  rw[c];rfl
def fY(d:st[i]?=a5 (a5 (k0,o)))(e:k0.root=bD)(g:Run (a9 Γ es) st rs st1)(h:st1[i]?=a5 (a5 (k,.lst us)))(hk:k.root=bD)(j:bK us=bD)(a:rs.all LK=bD)
  (l:Γ f (.lst us::rs.map (·.2))=a5 (.ok (b,.tup [v,.lst m]))) (n:b=.own\/b=.loc):Run (ev Γ (.EW f (.var i::es) [0])) st (b,v) (st1.set i (a5 (k,.lst m))) :=
 y_ d e g h hk j ((IY λr c=>oE (lg.mp a r c)).trans (PF rs)) (oF a) (λr c=>lD (lg.mp a r c)) l n
end
section
def wx(p:jV Γ){ws:List Str}(c:st[i]?=a5 (a5 (k0,H)))(d:k0.root=bD)(f:st[j]?=a5 (a5 (kw,.lst (ws.map .str))))(q:kw=.loc\/kw=.any)(g:Run (ev Γ e) st (.loc,.int at_) st1)(h:Run (ev Γ t) st1 (.loc,.bl b) st2)
  (l:st2[i]?=a5 (a5 (k,u))) (hk:k.root=bD) (m:Src T u) (s:T+17<2 ^ 62) (v:ws.length<1000000) (z:0<=at_) (A:at_<ws.length) :
  ∃(r:Row) (u':U),Run (ev Γ (.EW "_law_row" [.var i,.var j,e,t] [0])) st (.loc,EU r) (st2.set i (a5 (k,u')))/\ws[at_.toNat]?=a5 r.1/\r.2.Nodup/\(∀y∈r.2,y∈ws)/\r.2.length<=8/\Src (T+17) u':=by
 have⟨x,told,u',n,B,C,D,G,o⟩:=p T at_ u ws b m s v z A;show⟨(x,told),u',?_,B,C,D,G,o⟩;obtain⟨a,t',w,rfl,_,_⟩:=m;obtain⟨I,J,L,rfl,_,_⟩:=o;rcases q with rfl|rfl
 .show fY (rs:=[(.loc,.lst (ws.map .str)),(.loc,.int at_),(.loc,.bl b)]) c d (af (ab f) (af g (af h aq))) l hk rfl rfl n (.inr rfl)
 .show fY (rs:=[(.any,.lst (ws.map .str)),(.loc,.int at_),(.loc,.bl b)]) c d (af (aS f) (af g (af h aq))) l hk rfl rfl n (.inr rfl)
def wy(a:jW Γ)(b:st[i]?=a5 (a5 (k0,j)))(c:k0.root=bD)(d:Run (ev Γ e) st (.loc,EU r) st1)(f:st1[i]?=a5 (a5 (k,.lst (rs.map EU))))(hk:k.root=bD)(g:r.2.length<64)(h:∀x∈rs,x.2.length<64)(hl:rs.length<1000):
  Run (ev Γ (.EW "_law_lay" [.var i,e] [0])) st (.loc,.EY) (st1.set i (a5 (k,.lst ((layR rs r).map EU)))) :=
 fY (rs:=[(.loc,EU r)]) b c (af d aq) f hk (dP rs) rfl (a rs r g h hl) (.inr rfl)
def zS(a:Run (ev Γ e) st r st1)(b:Run (execs Γ c) st1 f st2):Run (execs Γ (.exp e::c)) st f st2:=eC (aa a aJ) b
abbrev gL(Γ:Tab):Prop:=(∀k:Int,Γ "_law_source" [.lst [],.int k]=a5 (.ok (.own,.tup [eD k 0 1,.lst []])))/\∀(ns:List Int) (c k:Int),Γ "_law_source" [.lst ((ns++[c]).map .int),.int k]=a5 (.ok (.own,.tup [eD (c / 2) 0 (c % 2),.lst (ns.map .int)]))
def wz(h:FX Pg "_law_source" wb):gL (E7 Pg (d+1)):=⟨λk=>by rw[b9 h _ rfl];show wc,λns c k=>by rw[b9 h _ rfl];show wd⟩
theorem fh:∀ns:List Int,bK (ns.map U.int)=bD
 |[]=>rfl
 |n::ns=>by change(bD&&bK (ns.map U.int))=bD;rw[fh ns];rfl
def wA(a:gL Γ)(b:st[i]?=a5 (a5 (k0,h)))(d:k0.root=bD)(f:Run (ev Γ e) st (.loc,.int m) st1)(g:st1[i]?=a5 (a5 (k,.lst ((ns++[c]).map .int))))(hk:k.root=bD):
  Run (ev Γ (.EW "_law_source" [.var i,e] [0])) st (.own,eD (c / 2) 0 (c % 2)) (st1.set i (a5 (k,.lst (ns.map .int)))) :=
 fY (rs:=[(.loc,.int m)]) b d (af f aq) g hk (fh _) rfl (a.2 ns c m) (.inl rfl)
def B7(a:gL Γ)(b:st[i]?=a5 (a5 (k0,g)))(c:k0.root=bD)(d:Run (ev Γ e) st (.loc,.int m) st1)(f:st1[i]?=a5 (a5 (k,.lst [])))(hk:k.root=bD):
  Run (ev Γ (.EW "_law_source" [.var i,e] [0])) st (.own,eD m 0 1) (st1.set i (a5 (k,.lst []))) :=
 fY (rs:=[(.loc,.int m)]) b c (af d aq) f hk rfl rfl (a.1 m) (.inl rfl)
end
abbrev qi:List S :=
   [.set 6 (.EW "_law_draw" [.var 1,.bi .len [.var 2]] [0]),
   .ite (.cmp .eq (.var 4) (.cst (.int 3)))
    [.set 6 (.bin .mod (.var 5) (.bi .len [.var 2]))]
    [],
   .exp (.EW "_law_lay" [(.var 3),(.EW "_law_row" [(.var 1),(.var 2),(.var 6),(.cmp .gt (.var 4) (.cst (.int 1)))] [0])] [0])]
abbrev qj:List S :=
   [.set 7 (.EW "_law_source" [.var 0,.cst (.int 0)] [0]),
   .exp (.EW "_law_lay" [(.var 3),(.EW "_law_row" [(.var 7),(.var 2),(.EW "_law_draw" [(.var 7),(.bi .len [(.var 2)])] [0]),(.cmp .eq (.var 4) (.cst (.int 2)))] [0])] [0])]
abbrev cN(ns:List Int)(u:U)(ws:List Str)(rs:List Row)(way:Int)(o5 o6 o7:Option (Kd×U)):av:=[a5 (.io,.lst (ns.map .int)),a5 (.io,u),a5 (.any,.lst (ws.map .str)),a5 (.own,.lst (rs.map EU)),a5 (.loc,.int way),o5,o6,o7]
abbrev bO(ws:List Str)(r:Row):Prop:=r.1∈ws/\r.2.Nodup/\(∀y∈r.2,y∈ws)/\r.2.length<=8
abbrev cH(ws:List Str)(rs:List Row):Prop:=(∀r∈rs,bO ws r)/\(rs.map keyOf).Nodup
def cH.lay(h:cH ws rs)(d:bO ws r):cH ws (layR rs r):=by
 unfold layR;split
 .show h
 .rename_i hk;show⟨λx hx=>?_,?_⟩
  .rcases mh.mp hx with hx|hx
   .show h.1 x hx
   .rw[js]at hx;subst hx;show d
  .rw[mA];show wk.mpr ⟨h.2,by simp,λa f c b=>by rw[Ul,js]at b;subst b;show λe=>hk (e▸f)⟩
def oG:(layR rs r).length<=rs.length+1:=by
 unfold layR;split
 .lia
 .simp
def tL(s:bc Γ)(v:jV Γ)(w:jW Γ){k:Nat}(y:Src T u)(Q:T+18<2 ^ 62)(Y:0<ws.length)(z:ws.length<1000000)(h:cH ws rs)(hl:rs.length<1000):
  ∃u' a c,Run (execs Γ qi) (cN ns u ws rs way (a5 (.loc,.int (0+(k:Int)))) o6 o7) .nx (cN ns u' ws a way (a5 (.loc,.int (0+(k:Int)))) c o7)/\Src (T+18) u'/\cH ws a/\a.length<=rs.length+1:=by
 have⟨n,f,l,A,o,s1⟩:=cM (st:=cN ns u ws rs way (a5 (.loc,.int (0+(k:Int)))) o6 o7) s (i:=1) (k:=.io) (e:=.bi .len [.var 2]) (m:=((ws.map U.str).length:Nat)) rfl rfl (cQ (af (aS rfl) aq) trivial bM) y ⋯ (by simp;lia) (by simp;lia);rw[d3]at o;have d:∀at_:Int,0<=at_->at_<ws.length->∃u' a c,Run (execs Γ [.exp (.EW "_law_lay" [.var 3,.EW "_law_row" [.var 1,.var 2,.var 6,.cmp .gt (.var 4) (.cst (.int 1))] [0]] [0])]) (cN ns f ws rs way (a5 (.loc,.int (0+(k:Int)))) (a5 (.loc,.int at_)) o7) .nx (cN ns u' ws a way (a5 (.loc,.int (0+(k:Int)))) c o7)/\Src (T+18) u'/\cH ws a/\a.length<=rs.length+1:=by
  intro at_ B C;have⟨r,D,q,G,H,I,J,L⟩:=wx (st:=cN ns f ws rs way (a5 (.loc,.int (0+(k:Int)))) (a5 (.loc,.int at_)) o7) (st1:=cN ns f ws rs way (a5 (.loc,.int (0+(k:Int)))) (a5 (.loc,.int at_)) o7) (st2:=cN ns f ws rs way (a5 (.loc,.int (0+(k:Int)))) (a5 (.loc,.int at_)) o7) v (i:=1) (j:=2) (e:=.var 6) (t:=.cmp .gt (.var 4) (.cst (.int 1))) (k0:=.io) (k:=.io) (kw:=.any) (b:=dV (1<way)) rfl rfl rfl (.inr rfl) (ab rfl) (oi (ab rfl) ao trivial (ly rfl)) rfl rfl s1 ⋯ z B C;have N:bO ws r:=⟨sx G,H,I,J⟩
  show⟨D,layR rs r,_,zS (wy w (k0:=.own) (k:=.own) (rs:=rs) rfl rfl q rfl rfl ⋯ (λx O=>by have:=(h.1 x O).2.2.2;lia) hl) ar,L.up ⋯,h.lay N,oG⟩
 by_cases p:way=3
 .subst p;have⟨u',a,c,q,g⟩:=d ((0+(k:Int)) % (ws.length:Nat)) (LU _ ⋯) (MQ _ ⋯);show⟨u',a,c,aw l aA (cw (aN (ab rfl) ao trivial (bU rfl)) (aw (br (ab rfl) (cQ (af (aS rfl) aq) trivial bM) trivial (du (by simp;lia))) aA ar) ?_),g⟩;rw[d3];show q
 .have⟨u',a,c,q,g⟩:=d n A o;show⟨u',a,c,aw l aA (aV (aN (ab rfl) ao trivial (bU (by simp[p]))) ar q),g⟩
def tM(o:gL Γ)(p:bc Γ)(s:jV Γ)(w:jW Γ)(N:0<ws.length)(y:ws.length<1000000)(d:cH ws rs)(hl:rs.length<1000):
  ∃a z,Run (execs Γ qj) (cN (ns++[c]) u ws rs way o5 o6 o7) .nx (cN ns u ws a way o5 o6 z)/\cH ws a/\a.length<=rs.length+1:=by
 have f:=wA (st:=cN (ns++[c]) u ws rs way o5 o6 o7) (st1:=cN (ns++[c]) u ws rs way o5 o6 o7) o (i:=0) (k0:=.io) (k:=.io) (e:=.cst (.int 0)) (m:=0) rfl rfl ao rfl rfl;have g:Src 0 (eD (c / 2) 0 (c % 2)):=⟨_,_,_,rfl,⋯,⋯⟩
 generalize eD (c / 2) 0 (c % 2)=v at f g;have⟨n,h,A,B,l,s1⟩:=cM (st:=cN ns u ws rs way o5 o6 (a5 (.own,v))) p (i:=7) (k:=.own) (e:=.bi .len [.var 2]) (m:=((ws.map U.str).length:Nat)) rfl rfl (cQ (af (aS rfl) aq) trivial bM) g ⋯ (by simp;lia) (by simp;lia);rw[d3]at l;have⟨r,C,q,D,G,H,I,O⟩:=wx (st:=cN ns u ws rs way o5 o6 (a5 (.own,v))) (st1:=cN ns u ws rs way o5 o6 (a5 (.own,h))) (st2:=cN ns u ws rs way o5 o6 (a5 (.own,h))) s (i:=7) (j:=2) (t:=.cmp .eq (.var 4) (.cst (.int 2))) (k0:=.own) (k:=.own) (kw:=.any) (b:=(way==2)) rfl rfl rfl (.inr rfl) A (oi (ab rfl) ao trivial (bU rfl)) rfl rfl s1 ⋯ y B l;have J:bO ws r:=⟨sx D,G,H,I⟩
 show⟨layR rs r,a5 (.own,C),aw (st2:=cN ns u ws rs way o5 o6 (a5 (.own,v))) f bt (zS (wy w (k0:=.own) (k:=.own) (rs:=rs) rfl rfl q rfl rfl ⋯ (λx L=>by have:=(d.1 x L).2.2.2;lia) hl) ar),d.lay J,oG⟩
abbrev qk:E:=.and [.cmp .gt (.bi .len [.var 0]) (.cst (.int 0)),.cmp .lt (.bi .len [.var 3]) (.cst (.int 60))]
def lE:Run (E8 Γ qk) (cN ns u ws rs way o5 o6 o7) (dV (0<ns.length)&&dV (rs.length<60)) (cN ns u ws rs way o5 o6 o7):=by
 show fC (vZ (aN (cQ (af (cS rfl) aq) ∅ bM) ao trivial (ly ?_)) λ_=>de (aN (cQ (af (aL rfl) aq) ∅ bM) ao trivial (DI ?_)))
 .rw[d3];show decide_eq_decide.mpr ⋯
 .rw[d3];show decide_eq_decide.mpr ⋯
def ql(m:gL Γ)(n:bc Γ)(o:jV Γ)(p:jW Γ)(q:0<ws.length)(r:ws.length<1000000):
  ∀(k f:Nat) (ns:List Int) (rs:List Row) (o7:Option (Kd×U)),ns.length=k->k<f->cH ws rs->rs.length<=60->∃d b i,Run (fj (E8 Γ qk) (execs Γ qj) f) (cN ns u ws rs way o5 o6 o7) .nx (cN d u ws b way o5 o6 i)/\cH ws b/\b.length<=60/\d.length<=ns.length:=by
 intro k;induction k with
 |zero =>
  intro f ns rs o7 hk s h hl;obtain⟨f,rfl⟩:∃g,f=g+1:=⟨f - 1,⋯⟩
  have a:=lE (Γ:=Γ) (ns:=ns) (u:=u) (ws:=ws) (rs:=rs) (way:=way) (o5:=o5) (o6:=o6) (o7:=o7);rw[Wr (show ¬0<ns.length by lia)]at a;show⟨ns,rs,o7,rQ a,h,hl,hY _⟩
 |succ k t =>
  intro f ns rs o7 hk s h hl;obtain⟨f,rfl⟩:∃g,f=g+1:=⟨f - 1,⋯⟩
  have a:=lE (Γ:=Γ) (ns:=ns) (u:=u) (ws:=ws) (rs:=rs) (way:=way) (o5:=o5) (o6:=o6) (o7:=o7);rw[Wt (show 0<ns.length by lia)]at a;by_cases j:rs.length<60
  .rw[Wt j]at a;obtain⟨ms,c,rfl⟩:∃ms c,ns=ms++[c]:=by
    have l:ns≠[]:=λe=>by rw[e]at hk;cases hk
    show⟨ns.dropLast,ns.getLast l,(LL l).symm⟩
   have v:ms.length=k:=by simpa using hk
   have⟨w,x,y,z,D⟩:=tM (u:=u) (ws:=ws) (way:=way) (o5:=o5) (o6:=o6) (o7:=o7) (ns:=ms) (c:=c) m n o p q r h ⋯;have⟨d,b,i,A,B,C,G⟩:=t f ms w x v ⋯ z ⋯;show⟨d,b,i,v8 a y A,B,C,by simp;lia⟩
  .rw[Wr j]at a;show⟨ns,rs,o7,rQ a,h,hl,hY _⟩
abbrev zT:List S :=
   [.set 3 (.lst []),
    .set 4 (.EW "_law_draw" [.var 1,.cst (.int 4)] [0]),
    .Fh c2 [5] .FK [.EW "_law_draw" [.var 1,.cst (.int 25)] [0]] qi,
    .Jq qk qj,
    .ret (.bi .tuple [(.var 3)])]
abbrev m7:Fn:=⟨"_law_book",3,8,.HF [0,1]::zT⟩
def qm(B:gL Γ)(g:bc Γ)(o:jV Γ)(p:jW Γ){ns:List Int}(s:Src T u)(hT:T+500<2 ^ 62)(hn:ns.length<1000)(v:0<ws.length)(w:ws.length<1000000):
  ∃(rs:List Row) (c:List Int) (u':U),fk Γ m7 [0,1] zT [.lst (ns.map .int),u,.lst (ws.map .str)]=a5 (.ok (.loc,.tup [.tup (rs.map EU),.lst (c.map .int),u']))/\cH ws rs/\rs.length<=60/\c.length<=ns.length/\Src (T+500) u':=by
 have C:(60:Nat)<df:=by decide
 obtain⟨way,D,G,_,_,s1⟩:=cM (st:=[a5 (.io,.lst (ns.map .int)),a5 (.io,u),a5 (.any,.lst (ws.map .str)),a5 (.own,.lst []),b5,b5,b5,b5]) g (i:=1) (k:=.io) (e:=.cst (.int 4)) (m:=4) rfl rfl ao s ⋯ ⋯ ⋯;have⟨m,x,H,m0,m1,s2⟩:=cM (st:=cN ns D ws [] way b5 b5 b5) g (i:=1) (k:=.io) (e:=.cst (.int 25)) (m:=25) rfl rfl ao s1 ⋯ ⋯ ⋯;have⟨m,rfl⟩:=uk m0;obtain⟨st',I,a,b,o5,o6,rfl,s3,j,z,_⟩:=bV (rs:=[(.loc,.int (m:Nat))]) (t:=c2) (is:=[5]) (body:=execs Γ qi) (λi:Nat=>(Kd.loc,U.int (0+(i:Int)))) (λd r st=>∃(a:U) (b:List Row) (o5 o6:Option (Kd×U)),st=cN ns a ws b way o5 o6 b5/\Src (T+2+18 * (d.length:Nat)) a/\cH ws b/\b.length<=d.length/\d.length+r.length=m)
  (λd r st _=>trivial) (λd y r st h=>by
   have⟨a,b,o5,o6,rfl,s3,j,z,J⟩:=h;simp only[mu]at J;have⟨L,N,F7,q,s4,l,A⟩:=tL (ns:=ns) (way:=way) (k:=y) (o6:=o6) (o7:=b5) g o p s3 ⋯ v w j ⋯;show⟨cN ns a ws b way (a5 (.loc,.int (0+(y:Int)))) o6 b5,_,aA,q,L,N,_,_,rfl,s4.up (by simp;lia),l,?_,?_⟩
   .simp;lia
   .simp;lia) (i3 m) [] (cN ns x ws [] way b5 b5 b5) ⟨x,[],b5,b5,rfl,s2.up (by simp;lia),⟨by simp,by simp⟩,by simp,by simp⟩
 rw[o3,Fw]at s3 z;have⟨c,n,O,Q,l,A,Y⟩:=ql B g o p (u:=a) (way:=way) (o5:=o5) (o6:=o6) v w ns.length fuel ns b b5 rfl (by unfold fuel;lia) j ⋯;show⟨n,c,a,?_,l,A,Y,s3.up ⋯⟩;show bI (st0:=[a5 (.io,.lst (ns.map .int)),a5 (.io,u),a5 (.any,.lst (ws.map .str)),b5,b5,b5,b5,b5]) (f:=.rt .loc (.tup (n.map EU))) (st:=cN c a ws n way o5 o6 O) rfl ?_ ?_ rfl rfl
 .obtain⟨_,_,_,rfl,_⟩:=s;rfl
 show aw (cK aq trivial aK (kj _)) bt (aw G aA ?_);show cL (rs:=[(.loc,.int (m:Nat))]) (af H aq) trivial (ie ⋯) rfl I (v9 Q ?_);show cA (cQ (af (aL rfl) aq) ∅ rfl) gG
end TM
namespace TM
open PySem L2 Fo
theorem wB{cond:M Bool}(it:α->Kd×U)(I:List α->List α->List U->av->Prop)(hs:∀d r a st,I d r a st->aX src st)
  (UZ:∀d y q a st,I d (y::q) a st->∃s1 s2 s3 s4 r u,Run (dH t (i3 k) (it y)) (j0 k b5++st) () s1/\Run cond s1 bD s2/\Run elt s2 r s3/\Run (lift r) s3 u s4/\I (d++[y]) q (a++[u]) (s4.drop k)) :
  ∀(ys d:List α) (acc:List U) (st:av),I d ys acc st->acc.length+ys.length<=df->∃us st',Run (bF k t cond elt src (ys.map it) acc) st us st'/\I (d++ys) [] us st'
 |[],d,acc,st,h,_=>⟨acc,st,vY (hs _ _ _ _ h),by rw[x2];show h⟩
 |y::ys,d,acc,st,h,hl=>by
  rw[mu]at hl;have⟨s1,s2,s3,s4,r,u,b,c,e,f,g⟩:=UZ d y ys acc st h;have⟨us,st',i,j⟩:=wB it I hs UZ ys (d++[y]) (acc++[u]) _ g (by simp;lia);show⟨us,st',qd (hs _ _ _ _ h) b c e f ⋯ i,by simpa using j⟩
def oH(a:0<=n)(b:n<26):∃c,FR small.cps.toList n=a5 c:=by
 have⟨k,rfl⟩:=uk a;have hl:small.cps.toList.length=26:=by decide
 show⟨small.cps.toList[k]'⋯,iQ (by simp)⟩
def wC(g:bc Γ)(j:Src T u)(z:T+8<2 ^ 62):
  ∃x u',Run (ev Γ (.Jp .join (.cst (.str "")) [.comp 1 c2 .FK [.cst (.int 8)] [] (.idx (.var 2) (.EW "_law_draw" [.var 1,.cst (.int 26)] [0]))])) (a5 (.io,u)::a5 (.loc,.str small)::rest) (.loc,.str x) (a5 (.io,u')::a5 (.loc,.str small)::rest)/\x.length=8/\Src (T+8) u':=by
 have l:(100:Nat)<=df:=by decide
 obtain⟨us,st',f,u',b,rfl,rfl,hl,hs,_⟩:=wB (k:=1) (t:=c2) (cond:=bb Γ []) (elt:=ev Γ (.idx (.var 2) (.EW "_law_draw" [.var 1,.cst (.int 26)] [0]))) (src:=[(.loc,.int (8:Nat))]) (λi:Nat=>(Kd.loc,U.int (0+(i:Int))))
  (λd r a st=>∃(u':U) (b:List Nat),st=a5 (.io,u')::a5 (.loc,.str small)::rest/\a=(b.map Fo.one).map U.str/\b.length=d.length/\Src (T+(d.length:Nat)) u'/\d.length+r.length=8) (λ_ _ _ _ _=>trivial)
  (λd y q a st h=>by
   have⟨u',b,rfl,rfl,hl,hs,o⟩:=h;rw[mu]at o;have⟨n,p,r,s,v,s2⟩:=cM (st:=a5 (.loc,.int (0+(y:Int)))::a5 (.io,u')::a5 (.loc,.str small)::rest) g (i:=1) (k:=.io) (e:=.cst (.int 26)) (m:=26) rfl rfl ao hs ⋯ ⋯ ⋯;have⟨c,f⟩:=oH s v;show⟨_,_,_,_,_,_,dg aA,vW,aW (ab rfl) r trivial (l8 ou f),aM,p,b++[c],rfl,by simp,by simp[hl],s2.up (by simp;lia),by simp;lia⟩)
  (i3 8) [] [] (a5 (.io,u)::a5 (.loc,.str small)::rest) ⟨u,[],rfl,rfl,rfl,by simpa using j,by simp⟩ (by simp;lia)
 rw[o3,Fw]at hl hs;have w:kB .join (.str "") [(.own,.lst ((b.map Fo.one).map U.str))]=a5 (.loc,.str (N2 tr (b.map Fo.one))):=by
  change(strsOf ((b.map Fo.one).map U.str)).bind _=_;rw[cX];change(if Vt tr (b.map Fo.one)=bD then _ else _)=_;rw[Wq (Fo.ot b ⋯)];rfl
 show⟨N2 tr (b.map Fo.one),u',vU ao (af (ic (af ao aq) trivial (ie (n:=8) ⋯) f) aq) trivial w,?_,hs⟩;change(N2 tr (b.map Fo.one)).cps.size=8;rw[<-my,Fo.join_ones,hl]
abbrev wD:List S:=[.app 7 (.ite (.cmp .eq (.var 10) (.cst (.int 1))) (.var 9) (.bin .add (.bin .add (.var 9) (.cst (.str "/"))) (.bi .str [.var 10])))]
abbrev wF:List S :=
   .ite (.cmp .eq (.var 4) (.cst (.int 3)))
    [.set 10 (.bin .add (.cst (.int 1)) (.EW "_law_draw" [.var 0,.cst (.int 99)] [0]))]
    []::wD
abbrev wG:List S :=
   .ite (.cmp .gt (.var 4) (.cst (.int 1)))
    [.set 9 (.bin .add (.idx (.var 1) (.bin .mod (.bin .add (.var 6) (.bin .mul (.cst (.int 7)) (.var 8))) (.cst (.int 26)))) (.IH (.var 3) [.cst (.int 1)] [.var 5])),
    .set 10 (.cst (.int 1))]
    []::wF
abbrev qo:List S :=
   .set 9 (.IH (.var 3) [] [.bin .add (.cst (.int 1)) (.bin .mod (.var 8) (.cst (.int 8)))]) ::
   .set 10 (.bin .add (.cst (.int 1)) (.bin .JN (.var 8) (.cst (.int 8)))) ::
   .ite (.cmp .eq (.var 4) (.cst (.int 1)))
    [.set 9 (.IH (.var 3) [] [.var 5]),
    .set 10 (.bin .add (.cst (.int 1)) (.var 8))]
    []::wG
abbrev wH:List S :=
   [.set 1 (.cst (.str "abcdefghijklmnopqrstuvwxyz")),
    .set 2 (.bin .add (.cst (.int 1)) (.EW "_law_draw" [.var 0,.idx (.lst [.cst (.int 8),.cst (.int 16),.cst (.int 24)]) (.EW "_law_draw" [.var 0,.cst (.int 3)] [0])] [0])),
    .set 3 (.Jp .join (.cst (.str "")) [.comp 1 c2 .FK [.cst (.int 8)] [] (.idx (.var 2) (.EW "_law_draw" [.var 1,.cst (.int 26)] [0]))]),
    .set 4 (.EW "_law_draw" [.var 0,.cst (.int 4)] [0]),
    .set 5 (.bin .add (.cst (.int 1)) (.EW "_law_draw" [.var 0,.cst (.int 8)] [0])),
    .set 6 (.EW "_law_draw" [.var 0,.cst (.int 26)] [0]),
    .set 7 (.lst []),
    .Fh c2 [8] .FK [.var 2] qo,
    .ret (.var 7)]
abbrev jX:Fn:=⟨"_law_words",1,11,.HF [0]::wH⟩
abbrev il(u:U)(many:Int)(base:Str)(way size first:Int)(acc:List Str)(o8 o9 o10:Option (Kd×U)):av:=[a5 (.io,u),a5 (.loc,.str small),a5 (.loc,.int many),a5 (.loc,.str base),a5 (.loc,.int way),a5 (.loc,.int size),a5 (.loc,.int first),a5 (.own,.lst (acc.map .str)),o8,o9,o10]
def iW(h:x.length<=df):pE (k,.str x) lo a=a5 (.loc,.str (PySem.StrLaws.sliceText x lo a)):=by
 change(if x.length<=df then _ else _)=_;rw[Wq h]
def lF(e:acc.length<1000)(f:w.length<=9)(g:1<=s)(s1:s<=99):
  ∃x:Str,x.length<=20/\Run (execs Γ wD) (il u many base way size first acc o8 (a5 (.loc,.str w)) (a5 (.loc,.int s))) .nx (il u many base way size first (acc++[x]) o8 (a5 (.loc,.str w)) (a5 (.loc,.int s))):=by
 have b:(1000:Nat)<=df:=by decide
 by_cases h:s=1
 .subst h;show⟨w,⋯,fD (k:=.own) (k':=.own) rfl (BP (aN (ab rfl) ao trivial (bU rfl)) (ab rfl)) aM rfl rfl (by simp;lia) ?_⟩;rw[show acc.map U.str++[U.str w]=(acc++[w]).map U.str by simp];show ar
 .have i:=tK (k:=s) ⋯ s1;have c:GZ .str [(.loc,.int s)]=a5 (.loc,.str (uA s)):=by
   simp only[GZ,gy,xW];rw[Wq (by
    have:s.natAbs<2 ^ 7:=by lia
    have d:s.natAbs≠0:=by lia
    have:=(Nat.log2_lt d).mpr this;lia)]
   rfl
  have a:(w++("/":Str)).length=w.length+1:=by rw[len_list,len_list,app_list,ke];rfl
  show⟨w++("/":Str)++uA s,by rw[len_list,app_list,ke,<-len_list,<-len_list,a];lia,fD (k:=.own) (k':=.own) rfl (BQ (aN (ab rfl) ao trivial (bU (by simp[h]))) (br (br (ab rfl) ao trivial (mX (by change w.length+1<=df;lia))) (cQ (af (ab rfl) aq) trivial c) trivial (mX (by rw[a];lia)))) aM rfl rfl (by simp;lia) ?_⟩;rw[show acc.map U.str++[U.str (w++("/":Str)++uA s)]=(acc++[w++("/":Str)++uA s]).map U.str by simp];show ar
def lG(g:bc Γ)(b:Src T u)(p:T+1<2 ^ 62)(c:acc.length<1000)(d:w.length<=9)(j:1<=s)(s1:s<=99):
  ∃u' x o9 o10,Run (execs Γ wF) (il u many base way size first acc o8 (a5 (.loc,.str w)) (a5 (.loc,.int s))) .nx (il u' many base way size first (acc++[x]) o8 o9 o10)/\Src (T+1) u'/\x.length<=20:=by
 by_cases h:way=3
 .subst h;have⟨n,f,l,r,t,o⟩:=cM (st:=il u many base 3 size first acc o8 (a5 (.loc,.str w)) (a5 (.loc,.int s))) g (i:=0) (k:=.io) (e:=.cst (.int 99)) (m:=99) rfl rfl ao b ⋯ ⋯ ⋯;have⟨x,a,q⟩:=lF (Γ:=Γ) (u:=f) (many:=many) (base:=base) (way:=3) (size:=size) (first:=first) (acc:=acc) (o8:=o8) (w:=w) (s:=1+n) c d ⋯ ⋯;show⟨f,x,_,_,cw (aN (ab rfl) ao trivial (bU rfl)) (aw (br ao l trivial bP) aA ar) q,o,a⟩
 .have⟨x,a,q⟩:=lF (Γ:=Γ) (u:=u) (many:=many) (base:=base) (way:=way) (size:=size) (first:=first) (acc:=acc) (o8:=o8) (w:=w) (s:=s) c d j s1;show⟨u,x,_,_,aV (aN (ab rfl) ao trivial (bU (by simp[h]))) ar q,b.up ⋯,a⟩
def lH(a:bc Γ){k:Nat}(b:Src T u)(d:T+1<2 ^ 62)(e:acc.length<1000)(f:w.length<=9)(g:1<=s)(s1:s<=99)(p:base.length=8)(i:1<=size)(r:size<=8)(t:0<=first)(v:first<26)(hk:k<1000):
  ∃u' x o9 o10,Run (execs Γ wG) (il u many base way size first acc (a5 (.loc,.int (0+(k:Int)))) (a5 (.loc,.str w)) (a5 (.loc,.int s))) .nx (il u' many base way size first (acc++[x]) (a5 (.loc,.int (0+(k:Int)))) o9 o10)/\Src (T+1) u'/\x.length<=20:=by
 have j:(1000:Nat)<=df:=by decide
 by_cases h:1<way
 .have l:0<=(first+7 * (0+(k:Int))) % 26:=LU _ ⋯;have m:(first+7 * (0+(k:Int))) % 26<26:=MQ _ ⋯;have⟨c,n⟩:=oH l m;have y:=len_list base;have z:(PySem.StrLaws.sliceText base (a5 1) (a5 size)).length<=8:=by
   rw[PySem.StrLaws.sliceText_plain ⟨⋯,i,⋯⟩,len_list];simp;lia
  have Ht:(Fo.one c).length=1:=rfl;have o:(Fo.one c++PySem.StrLaws.sliceText base (a5 1) (a5 size)).length<=9:=by rw[len_list,app_list,ke,<-len_list,<-len_list];lia
  have⟨u',x,o9,o10,q,hs⟩:=lG (Γ:=Γ) a (u:=u) (many:=many) (base:=base) (way:=way) (size:=size) (first:=first) (acc:=acc) (o8:=a5 (.loc,.int (0+(k:Int)))) (w:=Fo.one c++PySem.StrLaws.sliceText base (a5 1) (a5 size)) (s:=1) b d e o ⋯ ⋯;show⟨u',x,o9,o10,cw (aN (ab rfl) ao trivial (ly (by simp[h]))) (aw (br (aW (ab rfl) (br (br (ab rfl) (br ao (ab rfl) trivial (jd ⋯)) trivial bP) ao trivial (du ⋯)) trivial (l8 ou n)) (oj (ab rfl) (lx ao) (lx (ab rfl)) trivial (iW ⋯)) trivial (mX ⋯)) aA (aw ao aA ar)) q,hs⟩
 .have⟨u',x,o9,o10,q,hs⟩:=lG (Γ:=Γ) a (u:=u) (many:=many) (base:=base) (way:=way) (size:=size) (first:=first) (acc:=acc) (o8:=a5 (.loc,.int (0+(k:Int)))) (w:=w) (s:=s) b d e f g s1;show⟨u',x,o9,o10,aV (aN (ab rfl) ao trivial (ly (by simp[h]))) ar q,hs⟩
def wI(a:0<=j)(b:x.length=8):(PySem.StrLaws.sliceText x b5 (a5 j)).length<=9:=by
 have⟨j,rfl⟩:=uk a;have h:=len_list (PySem.StrLaws.sliceText x b5 (a5 (j:Int)));have hl:=len_list x;rw[BW]at h;rw[h,ve];lia
def tN(b:bc Γ){k:Nat}(c:Src T u)(d:T+1<2 ^ 62)(e:acc.length<1000)(a:base.length=8)(f:1<=size)(g:size<=8)(i:0<=first)(j:first<26)(hk:k<98):
  ∃u' x l m,Run (execs Γ qo) (il u many base way size first acc (a5 (.loc,.int (0+(k:Int)))) o9 o10) .nx (il u' many base way size first (acc++[x]) (a5 (.loc,.int (0+(k:Int)))) l m)/\Src (T+1) u'/\x.length<=20:=by
 have n:(1000:Nat)<=df:=by decide
 have o:0<=(0+(k:Int)) % 8:=LU _ ⋯;by_cases h:way=1
 .have⟨u',x,o9,o10,q,hs⟩:=lH (Γ:=Γ) b (u:=u) (many:=many) (base:=base) (way:=way) (size:=size) (first:=first) (acc:=acc) (k:=k) (w:=PySem.StrLaws.sliceText base b5 (a5 size)) (s:=1+(0+(k:Int))) c d e (wI ⋯ a) ⋯ ⋯ a f g i j ⋯;show⟨u',x,o9,o10,aw (oj (ab rfl) rK (lx (br ao (br (ab rfl) ao trivial (du ⋯)) trivial bP)) trivial (iW ⋯)) aA (aw (br ao (br (ab rfl) ao trivial (jP ⋯)) trivial bP) aA (cw (aN (ab rfl) ao trivial (bU (by simp[h]))) (aw (oj (ab rfl) rK (lx (ab rfl)) trivial (iW ⋯)) aA (aw (br ao (ab rfl) trivial bP) aA ar)) q)),hs⟩
 .have⟨u',x,o9,o10,q,hs⟩:=lH (Γ:=Γ) b (u:=u) (many:=many) (base:=base) (way:=way) (size:=size) (first:=first) (acc:=acc) (k:=k) (w:=PySem.StrLaws.sliceText base b5 (a5 (1+(0+(k:Int)) % 8))) (s:=1+(0+(k:Int)) / 8) c d e (wI ⋯ a) ⋯ ⋯ a f g i j ⋯;show⟨u',x,o9,o10,aw (oj (ab rfl) rK (lx (br ao (br (ab rfl) ao trivial (du ⋯)) trivial bP)) trivial (iW ⋯)) aA (aw (br ao (br (ab rfl) ao trivial (jP ⋯)) trivial bP) aA (aV (aN (ab rfl) ao trivial (bU (by simp[h]))) ar q)),hs⟩
def EN(a:0<=n)(b:n<3):∃m:Int,8<=m/\m<=24/\FR [U.int 8,.int 16,.int 24] n=a5 (.int m):=by
 have⟨k,rfl⟩:=uk a;have:k=0\/k=1\/k=2:=by lia
 rcases this with rfl|rfl|rfl
 .show⟨8,⋯,⋯,rfl⟩
 .show⟨16,⋯,⋯,rfl⟩
 .show⟨24,⋯,⋯,rfl⟩
def tP(a:bc Γ)(l:Src T u)(hT:T+100<2 ^ 62):
  ∃(ws:List Str) (u':U),fk Γ jX [0] wH [u]=a5 (.ok (.own,.tup [.lst (ws.map .str),u']))/\1<=ws.length/\ws.length<=24/\Src (T+100) u'/\∀x∈ws,x.length<=20:=by
 have A:(1000:Nat)<=df:=by decide
 let S1:U->av:=λv=>[a5 (.io,v),a5 (.loc,.str small),b5,b5,b5,b5,b5,b5,b5,b5,b5]
 have⟨i,B,C,D,G,s1⟩:=cM (st:=S1 u) a (i:=0) (k:=.io) (e:=.cst (.int 3)) (m:=3) rfl rfl ao l ⋯ ⋯ ⋯;have⟨m,m0,m1,em⟩:=EN D G;have⟨n,u2,H,n0,n1,s2⟩:=wm (st:=S1 u) (st1:=S1 B) a (i:=0) (k:=.io) (k0:=.io) (e:=.idx (.lst [.cst (.int 8),.cst (.int 16),.cst (.int 24)]) (.EW "_law_draw" [.var 0,.cst (.int 3)] [0])) (m:=m) rfl rfl (aW (x:=(.own,.lst [U.int 8,.int 16,.int 24])) (cK (af ao (af ao (af ao aq))) trivial (aB aM (aB aM (aB aM aK))) (by change 3<=df;lia)) C trivial (bT em)) rfl rfl s1 ⋯ ⋯ ⋯;have⟨base,b,I,J,s3⟩:=wC (rest:=[a5 (.loc,.int (1+n)),b5,b5,b5,b5,b5,b5,b5,b5]) a s2 ⋯;obtain⟨way,g,L,_,_,s4⟩:=cM (st:=[a5 (.io,b),a5 (.loc,.str small),a5 (.loc,.int (1+n)),a5 (.loc,.str base),b5,b5,b5,b5,b5,b5,b5]) a (i:=0) (k:=.io) (e:=.cst (.int 4)) (m:=4) rfl rfl ao s3 ⋯ ⋯ ⋯;have⟨size,N,O,z0,z1,Q⟩:=cM (st:=[a5 (.io,g),a5 (.loc,.str small),a5 (.loc,.int (1+n)),a5 (.loc,.str base),a5 (.loc,.int way),b5,b5,b5,b5,b5,b5]) a (i:=0) (k:=.io) (e:=.cst (.int 8)) (m:=8) rfl rfl ao s4 ⋯ ⋯ ⋯;have⟨first,o,Y,f0,f1,s6⟩:=cM (st:=[a5 (.io,N),a5 (.loc,.str small),a5 (.loc,.int (1+n)),a5 (.loc,.str base),a5 (.loc,.int way),a5 (.loc,.int (1+size)),b5,b5,b5,b5,b5]) a (i:=0) (k:=.io) (e:=.cst (.int 26)) (m:=26) rfl rfl ao Q ⋯ ⋯ ⋯;have⟨many,LO⟩:=uk (show 0<=1+n by lia);obtain⟨st',hf,p,ws,o8,o9,o10,rfl,s,l7,b7,_⟩:=bV (rs:=[(.loc,.int (1+n))]) (t:=c2) (is:=[8]) (body:=execs Γ qo) (λi:Nat=>(Kd.loc,U.int (0+(i:Int)))) (λd r st=>∃(b:U) (ws:List Str) (o8 o9 o10:Option (Kd×U)),st=il b (1+n) base way (1+size) first ws o8 o9 o10/\Src (T+13+(d.length:Nat)) b/\ws.length=d.length/\(∀x∈ws,x.length<=20)/\∃j,d=VW 0 j/\r=VW j (many - j)/\j<=many)
  (λd r st _=>trivial) (λd y r st h=>by
   have⟨b,ws,o8,o9,o10,rfl,s3,w,b3,j,rfl,c,hj⟩:=h;have Uk:j<many:=by
    rcases Nat.lt_or_ge j many with z|z
    .show z
    .rw[show many - j=0 by lia]at c;cases c
   rw[show many - j=(many - (j+1))+1 by lia,List.range'_succ]at c;cases c;rw[List.length_range']at s3 w;have⟨g,x,Qu,LN,q,s4,hx⟩:=tN (Γ:=Γ) a (u:=b) (many:=1+n) (base:=base) (way:=way) (size:=1+size) (first:=first) (acc:=ws) (k:=y) (o9:=o9) (o10:=o10) s3 ⋯ ⋯ J ⋯ ⋯ f0 f1 ⋯;show⟨il b (1+n) base way (1+size) first ws (a5 (.loc,.int (0+(y:Int)))) o9 o10,_,aA,q,g,ws++[x],_,_,_,rfl,s4.up (by simp;lia),by simp[w],λz hz=>(mh.mp hz).elim (b3 z) λhz=>by rw[js.mp hz];show hx,y+1,by have:=@List.range'_1_concat 0 y;simpa using this.symm,rfl,⋯⟩) (i3 many) [] (il o (1+n) base way (1+size) first [] b5 b5 b5) ⟨o,[],b5,b5,b5,rfl,s6.up (by simp;lia),by simp,λ_ h=>(nomatch h),0,rfl,by rw[List.range_eq_range'];simp,⋯⟩
 rw[o3,Fw]at s l7;show⟨ws,p,?_,⋯,⋯,s.up ⋯,b7⟩;show bI (st0:=[a5 (.io,u),b5,b5,b5,b5,b5,b5,b5,b5,b5,b5]) (f:=.rt .own (.lst (ws.map .str))) (st:=(il p (1+n) base way (1+size) first ws o8 o9 o10).set 7 b5) rfl ?_ ?_ rfl rfl
 .obtain⟨_,_,_,rfl,_⟩:=l;rfl
 show aw (st2:=S1 u) ao aA (aw (br ao H trivial bP) aA (aw I aA (aw L aA (aw (br ao O trivial bP) aA (aw Y aA (aw (cK aq trivial aK (kj _)) bt ?_))))));show cL (rs:=[(.loc,.int (1+n))]) (xs:=(i3 many).map λi:Nat=>(Kd.loc,U.int (0+(i:Int)))) (af (ab rfl) aq) trivial (by rw[LO];show ie ⋯) rfl hf (cA (aL rfl) (iE rfl))
abbrev m8(Γ:Tab):Prop:=∀(T:Int) (u:U),Src T u->T+100<2 ^ 62->∃(ws:List Str) (u':U),Γ "_law_words" [u]=a5 (.ok (.own,.tup [.lst (ws.map .str),u']))/\1<=ws.length/\ws.length<=24/\Src (T+100) u'/\∀x∈ws,x.length<=20
def za(a:bc (E7 Pg d))(h:FX Pg "_law_words" jX):m8 (E7 Pg (d+1)):=by
 intro T u b c;have⟨ws,u',e,r⟩:=tP a b c;show⟨ws,u',by rw[b9 h _ rfl];show e,r⟩
abbrev dn(ks:List Str)(x:Str):List Str:=if x∈ks then ks else ks++[x]
def wJ:dput ks (ks.map f) x u=(dn ks x,(dn ks x).map λk=>if k=x then u else f k):=by
 unfold dput dn;by_cases h:x∈ks
 .rw[Wq h,Wq h];congr 1
  clear h;induction ks with
  |nil=>rfl
  |cons k ks a=>rw[gj,Mh,gj,gj,a]
 .rw[Ws h,Ws h];congr 1
  rw[mA,Ul,Wq rfl];congr 1
  show IY λk hk=>?_;rw[Ws (λe:k=x=>h (e▸hk))]
def qp(h:ks.Nodup):(dn ks x).Nodup:=by
 unfold dn;split
 .show h
 .rename_i d;show wk.mpr ⟨h,by simp,λa f c b=>by rw[js]at b;subst b;show λe=>d (e▸f)⟩
def bz:y∈dn ks x↔y∈ks\/y=x:=by
 unfold dn;split
 .rename_i h;show⟨.inl,λz=>z.elim id λe=>e▸h⟩
 .simp
def zb(h:ks.length<1000):dI (.str x) u (.EX ks (ks.map f))=a5 (.EX (dn ks x) ((dn ks x).map λk=>if k=x then u else f k)):=by
 rw[rP h,wJ]
def wK(h:x∈ks):cC ks (ks.map f) x=a5 (f x):=by
 induction ks with
 |nil=>cases h
 |cons k ks a =>
  rw[gj];unfold cC;by_cases e:k=x
  .rw[Wq e,e]
  .rw[Ws e];show a ((gs.mp h).resolve_left λz=>e z.symm)
abbrev zU:List S:=[.put 1 (.var 4) (.cst (.bl bD))]
abbrev wL:List S:=[.put 1 (.var 2) (.cst (.bl bD)),.Fh c2 [4] .seq [.var 3] zU]
abbrev zc:Fn:=⟨"_law_all",1,5,[.set 1 (.Gp c2),.Fh bD [2,3] .seq [.var 0] wL,.ret (.bi .sorted [.var 1])]⟩
abbrev dy(ks:List Str):U:=.EX ks (ks.map λ_=>.bl bD)
def iX(h:ks.length<1000):dI (.str x) (.bl bD) (dy ks)=a5 (dy (dn ks x)):=by
 unfold dy;rw[zb h];congr 3
 funext k
 split<;>rfl
abbrev fq(ws ks:List Str):Prop:=ks.Nodup/\∀x∈ks,x∈ws
def fq.ins(h:fq ws ks)(a:x∈ws):fq ws (dn ks x):=⟨qp h.1,λy b=>(bz.mp b).elim (h.2 y) λe=>e▸a⟩
def fq.len(h:fq ws ks):ks.length<=ws.length:=gH h.1 h.2
abbrev m9(rs:List Row)(ks:List Str)(a b o4:Option (Kd×U)):av:=[a5 (.loc,.tup (rs.map EU)),a5 (.own,dy ks),a,b,o4]
def iY{rs:List Row}:G0 .seq [(k,.tup (rs.map EU))]=a5 (rs.map λr=>(kE k,EU r)):=by
 change a5 ((rs.map EU).map λu=>(kE k,u))=_;rw[ro];rfl
abbrev wM(Γ:Tab):Prop:=∀(ws:List Str) (rs:List Row),ws.length<=24->(∀r∈rs,bO ws r)->∃ts,Γ "_law_all" [.tup (rs.map EU)]=a5 (.ok (.own,.lst (ts.map .str)))/\fq ws ts
abbrev wN:List S :=
   [.set 7 (.Ha 4 (.EW "_law_draw" [.var 0,.bi .len [.var 4]] [0])),
   .ite (.and [.cmp .Fg (.var 7) (.var 3),.cmp .eq (.EW "_law_draw" [.var 0,.var 2] [0]) (.cst (.int 0))])
    [.app 5 (.tup [.var 7,.tup []])]
    []]
abbrev DU:List S :=
   [.ite (.cmp .ne (.EW "_law_draw" [.var 0,.cst (.int 8)] [0]) (.cst (.int 1)))
      [.ret (.var 1)]
      [],
    .set 2 (.bin .add (.cst (.int 1)) (.EW "_law_draw" [.var 0,.cst (.int 2)] [0])),
    .set 3 (.comp 1 c2 .seq [.var 1] [.cmp .eq (.idx (.var 0) (.cst (.int 1))) (.tup [])] (.idx (.var 0) (.cst (.int 0)))),
    .set 4 (.call "_law_all" [.var 1]),
    .set 5 (.lst []),
    .Fh c2 [6] .FK [.bi .len [.var 4]] wN,
    .ret (.bin .add (.var 1) (.bi .tuple [(.var 5)]))]
abbrev zd:Fn:=⟨"_law_widened",2,8,.HF [0]::DU⟩
def qq(h:(!(i==j))=c):cz .ne (.int i) (.int j)=a5 c:=by subst h;rfl
abbrev iP(u:U)(rs:List Row)(share:Int)(hs ts:List Str)(more:List Row)(o6 o7:Option (Kd×U)):av:=[a5 (.io,u),a5 (.loc,.tup (rs.map EU)),a5 (.loc,.int share),a5 (.own,.lst (hs.map .str)),a5 (.own,.lst (ts.map .str)),a5 (.own,.lst (more.map EU)),o6,o7]
def wO(o:bc Γ)(A:Src T u)(N:T+2<2 ^ 62)(B:0<share)(O:share<=2)(Q:0<ts.length)(Y:ts.length<=24)(p:∀x∈ts,x∈ws)(h:∀r∈more,bO ws r)(Um:more.length<1000):
  ∃u' a j C,Run (execs Γ wN) (iP u rs share hs ts more o6 o7) .nx (iP u' rs share hs a j o6 C)/\Src (T+2) u'/\a.length+1=ts.length/\(∀x∈a,x∈ws)/\(∀r∈j,bO ws r)/\j.length<=more.length+1:=by
 have D:(1000:Nat)<=df:=by decide
 have⟨n,b,G,H,I,s1⟩:=cM (st:=iP u rs share hs ts more o6 o7) o (i:=0) (k:=.io) (e:=.bi .len [.var 4]) (m:=((ts.map U.str).length:Nat)) rfl rfl (cQ (af (aL rfl) aq) ∅ bM) A ⋯ (by simp;lia) (by simp;lia);rw[d3]at I;have l:n.toNat<ts.length:=by lia
 have q:(ts.map U.str)[n.toNat]?=a5 (.str ts[n.toNat]):=by simp[l]
 have s:ts[n.toNat]∈ws:=p _ (G_ l);generalize ts[n.toNat]=x at q s;have J:(ts.map U.str).eraseIdx n.toNat=(ts.eraseIdx n.toNat).map U.str:=by
  rw[O2,O2,mA,Vx,Vy]
 have hl:(ts.eraseIdx n.toNat).length+1=ts.length:=by rw[List.length_eraseIdx_of_lt l];lia
 have f:∀y∈ts.eraseIdx n.toNat,y∈ws:=λy L=>p y (List.mem_of_mem_eraseIdx L);have g:Run (ev Γ (.Ha 4 (.EW "_law_draw" [.var 0,.bi .len [.var 4]] [0]))) (iP u rs share hs ts more o6 o7) (.loc,.str x) (iP b rs share hs (ts.eraseIdx n.toNat) more o6 o7):=by
  have:=BV (i:=4) (k0:=.own) (k:=.own) (us0:=ts.map U.str) (us:=ts.map U.str) rfl (by intro z;cases z) G rfl rfl H ⋯ q;rw[J]at this;show this
 generalize ts.eraseIdx n.toNat=a at g hl f;have d:Run (E8 Γ (.cmp .Fg (.var 7) (.var 3))) (iP b rs share hs a more o6 (a5 (.loc,.str x))) (dV (x∉hs)) (iP b rs share hs a more o6 (a5 (.loc,.str x))):=aN (ab rfl) (aL rfl) ∅ jQ;by_cases t:x∈hs
 .rw[Wr (by simp[t])]at d;show⟨b,a,more,_,aw g aA (aV (fC (mV d)) ar ar),s1.up ⋯,hl,f,h,⋯⟩
 .rw[Wt t]at d;have⟨m,v,w,m0,m1,s2⟩:=cM (st:=iP b rs share hs a more o6 (a5 (.loc,.str x))) o (i:=0) (k:=.io) (e:=.var 2) (m:=share) rfl rfl (ab rfl) s1 ⋯ B ⋯;by_cases hz:m=0
  .show⟨v,a,more++[(x,[])],a5 (.loc,.str x),aw g aA (cw (fC (fW d (de (aN w ao trivial (bU (c:=bD) (by simp[hz])))))) (fD (k:=.own) (k':=.own) rfl (jM (af (ab rfl) (af (jM aq trivial aK (kj _)) aq)) trivial (aB aM (aB aM aK)) (by change 2<=df;lia)) aM rfl rfl (by simp;lia) ar) ?_),s2.up ⋯,hl,f,?_,by simp⟩
   .rw[show more.map EU++[U.tup [.str x,.tup []]]=(more++[(x,[])]).map EU by simp[EU]];show ar
   .intro r hr;rcases mh.mp hr with hr|hr
    .show h r hr
    .rw[js]at hr;subst hr;show⟨s,by simp,by simp,by simp⟩
  .show⟨v,a,more,_,aw g aA (aV (fC (fW d (de (aN w ao trivial (bU (c:=c2) (by simp[hz])))))) ar ar),s2.up ⋯,hl,f,h,⋯⟩
def wQ{rs:List Row}(hl:rs.length<=1000)(h:st[i]?=a5 (a5 (.loc,.tup (rs.map EU)))):Run (ev Γ (.comp 1 c2 .seq [.var i] [.cmp .eq (.idx (.var 0) (.cst (.int 1))) (.tup [])] (.idx (.var 0) (.cst (.int 0))))) st (.own,.lst (((rs.filter λr=>dV (r.2=[])).map (·.1)).map .str)) st:=by
 have b:(1000:Nat)<=df:=by decide
 have c:∀y:Row,fN (.loc,EU y) (.int 0)=a5 (.loc,.str y.1):=λy=>rfl;have d:∀y:Row,fN (.loc,EU y) (.int 1)=a5 (.loc,.tup (y.2.map .str)):=λy=>rfl;have a:=jR (cond:=bb Γ [.cmp .eq (.idx (.var 0) (.cst (.int 1))) (.tup [])]) (elt:=ev Γ (.idx (.var 0) (.cst (.int 0)))) (src:=[(.loc,.tup (rs.map EU))]) (st:=st) trivial .loc (.inl rfl) EU (λr:Row=>.str r.1) (λr=>dV (r.2=[])) .loc rs [] (by simp;lia)
  (λr _=>⟨de (aN (aW (ab rfl) ao trivial (d r)) (jM aq trivial aK (kj _)) trivial y4),λ_=>⟨aW (ab rfl) ao trivial (c r),aM⟩⟩)
 rw[o3]at a;rw[ro];show ic (rs:=[(.loc,.tup (rs.map EU))]) (af (ab h) aq) trivial iY a
abbrev wR(Γ:Tab):Prop:=∀(T:Int) (u:U) (ws:List Str) (rs:List Row),Src T u->T+60<2 ^ 62->ws.length<=24->(∀r∈rs,bO ws r)->rs.length<=60->∃(a:List Row) (u':U),Γ "_law_widened" [u,.tup (rs.map EU)]=a5 (.ok (.loc,.tup [.tup (a.map EU),u']))/\(∀r∈a,bO ws r)/\a.length<=84/\Src (T+60) u'
def ze(g:bc Γ)(L:wM Γ){rs:List Row}(z:Src T u)(hT:T+60<2 ^ 62)(N:ws.length<=24)(j:∀r∈rs,bO ws r)(hl:rs.length<=60):
  ∃(l:List Row) (u':U),fk Γ zd [0] DU [u,.tup (rs.map EU)]=a5 (.ok (.loc,.tup [.tup (l.map EU),u']))/\(∀r∈l,bO ws r)/\l.length<=84/\Src (T+60) u':=by
 have O:(1000:Nat)<=df:=by decide
 let c:U->av:=λv=>[a5 (.io,v),a5 (.loc,.tup (rs.map EU)),b5,b5,b5,b5,b5,b5]
 have A:cq [0] [u,.tup (rs.map EU)] zd.ns=c u:=by
  obtain⟨_,_,_,rfl,_⟩:=z;change [a5 (Kd.io,_),a5 (if Fu (.tup (rs.map EU))=bD then Kd.loc else Kd.any,U.tup (rs.map EU)),b5,b5,b5,b5,b5,b5]=_;rw[Wq (by change bK (rs.map EU)=bD;show dP rs)]
 have⟨n,o,B,n0,n1,s1⟩:=cM (st:=c u) g (i:=0) (k:=.io) (e:=.cst (.int 8)) (m:=8) rfl rfl ao z ⋯ ⋯ ⋯;by_cases C:n=1
 .have⟨p,s,Q,p0,p1,s2⟩:=cM (st:=c o) g (i:=0) (k:=.io) (e:=.cst (.int 2)) (m:=2) rfl rfl ao s1 ⋯ ⋯ ⋯;have⟨ts,Y,D⟩:=L ws rs N j;have OZ:=D.len;generalize Ts:((rs.filter λr=>dV (r.2=[])).map (·.1))=hs;have G:=wQ (Γ:=Γ) (st:=[a5 (.io,s),a5 (.loc,.tup (rs.map EU)),a5 (.loc,.int (1+p)),b5,b5,b5,b5,b5]) (rs:=rs) (i:=1) ⋯ rfl;rw[Ts]at G;obtain⟨st',hf,a,b,more,o6,o7,rfl,s3,H,I,J,w,_⟩:=bV (rs:=[(.loc,.int (ts.length:Nat))]) (t:=c2) (is:=[6]) (body:=execs Γ wN) (λi:Nat=>(Kd.loc,U.int (0+(i:Int)))) (λd r st=>∃(a:U) (b:List Str) (more:List Row) (o6 o7:Option (Kd×U)),st=iP a rs (1+p) hs b more o6 o7/\Src (T+2+2 * (d.length:Nat)) a/\b.length=r.length/\more.length<=d.length/\(∀x∈b,x∈ws)/\(∀r∈more,bO ws r)/\d.length+r.length=ts.length)
   (λd r st _=>trivial) (λd y r st h=>by
    have⟨a,b,more,o6,o7,rfl,s3,H,I,J,w,t3⟩:=h;simp only[mu]at H t3;have⟨u4,Tt,LQ,HA,q,s4,l4,i4,g4,m4⟩:=wO (Γ:=Γ) g (u:=a) (share:=1+p) (rs:=rs) (more:=more) (ws:=ws) (hs:=hs) (ts:=b) (o6:=a5 (.loc,.int (0+(y:Int)))) (o7:=o7) s3 ⋯ ⋯ ⋯ ⋯ ⋯ J w ⋯;show⟨iP a rs (1+p) hs b more (a5 (.loc,.int (0+(y:Int)))) o7,_,aA,q,u4,Tt,LQ,_,_,rfl,s4.up (by simp;lia),⋯,by simp;lia,i4,g4,by simp;lia⟩) (i3 ts.length) [] (iP s rs (1+p) hs ts [] b5 b5) ⟨s,ts,[],b5,b5,rfl,s2.up (by simp;lia),by simp,by simp,D.2,by simp,by simp⟩
  rw[o3,Fw]at I s3;show⟨rs++more,a,?_,?_,by simp;lia,s3.up ⋯⟩
  .show bI (f:=.rt .loc (.tup ((rs++more).map EU))) (st:=iP a rs (1+p) hs b more o6 o7) rfl A ?_ rfl rfl;show aV (aN B ao trivial (qq (by simp[C]))) ar (aw (br ao Q trivial bP) aA (aw G bt (aw (cR (af (ab rfl) aq) trivial Y) bt (aw (cK aq trivial aK (kj _)) bt ?_))));show cL (rs:=[(.loc,.int (ts.length:Nat))]) (af (cQ (af (aL rfl) aq) ∅ (by rw[bM,d3])) aq) trivial (ie ⋯) rfl hf (cA (br (ab rfl) (cQ (af (aL rfl) aq) ∅ rfl) trivial ?_) gG);change(if (rs.map EU).length+(more.map EU).length<=df then a5 (kT .loc .loc,U.tup (rs.map EU++more.map EU)) else b5)=_;rw[Wq (by simp;lia),mA];rfl
  .intro r hm;rcases mh.mp hm with hm|hm
   .show j r hm
   .show w r hm
 .show⟨rs,o,bI (f:=.rt .loc (.tup (rs.map EU))) (st:=c o) rfl A (ib (aN B ao trivial (qq (by simp[C]))) (cA (ab rfl) gG)) rfl rfl,j,⋯,s1.up ⋯⟩
def DV(a:bc (E7 Pg d))(b:wM (E7 Pg d))(h:FX Pg "_law_widened" zd):wR (E7 Pg (d+1)):=by
 intro T u ws rs c f g i hl;have⟨j,u',e,r⟩:=ze a b c f g i hl;show⟨j,u',by rw[b9 h _ rfl];show e,r⟩
abbrev jY:Fn:=⟨"_law_same",2,2,[.ite (.G' (.var 1) .tuple) [.ite (.or [.not (.G' (.var 0) .tuple),.cmp .ne (.bi .len [.var 0]) (.bi .len [.var 1])]) [.ret (.cst (.bl c2))] [],.ret (.bi .all [.comp 1 c2 .FK [.bi .len [.var 1]] [] (.call "_law_same" [.idx (.var 1) (.var 0),.idx (.var 2) (.var 0)])])] [],.ite (.G' (.var 1) .list) [.ite (.or [.not (.G' (.var 0) .list),.cmp .ne (.bi .len [.var 0]) (.bi .len [.var 1])]) [.ret (.cst (.bl c2))] [],.ret (.bi .all [.comp 1 c2 .FK [.bi .len [.var 1]] [] (.call "_law_same" [.idx (.var 1) (.var 0),.idx (.var 2) (.var 0)])])] [],.ite (.cmp .is (.var 1) (.cst .EY)) [.ret (.cmp .is (.var 0) (.cst .EY))] [],.ite (.G' (.var 1) .str) [.ret (.and [.G' (.var 0) .str,.cmp .eq (.var 0) (.var 1)])] [],.ret (.and [.G' (.var 0) .int,.not (.G' (.var 0) .bool),.cmp .eq (.var 0) (.var 1)])]⟩
abbrev fH(Γ:Tab)(u:U):Prop:=Γ "_law_same" [u,u]=a5 (.ok (.loc,.bl bD))
def tQ:fQ Γ jY [.str x,.str x]=a5 (.ok (.loc,.bl bD)):=by
 show cy (st0:=[a5 (.loc,.str x),a5 (.loc,.str x)]) rfl (.inr rfl) rfl (aV (lA (ab rfl) rfl) ar (aV (lA (ab rfl) rfl) ar (aV (aN (ab rfl) ao trivial rfl) ar (ib (lA (ab rfl) rfl) (cA (DB (BX (p:=bD) (q:=bD) (DM (ab rfl) rfl) λ_=>BR (oi (ab rfl) (ab rfl) trivial (by rw[iV];simp)))) gG)))))
def tR{xs:List U}(hk:k=.loc\/k=.any)(d:∀i u,xs[i]?=a5 u->fN (k,w) (.int (i:Nat))=a5 (k,u))(f:GZ .len [(k,w)]=a5 (.loc,.int (xs.length:Nat)))(hl:xs.length<=1000)(g:∀u∈xs,fH Γ u):
  Run (ev Γ (.bi .all [.comp 1 c2 .FK [.bi .len [.var 1]] [] (.call "_law_same" [.idx (.var 1) (.var 0),.idx (.var 2) (.var 0)])])) [a5 (k,w),a5 (k,w)] (.loc,.bl bD) [a5 (k,w),a5 (k,w)]:=by
 have j:(1000:Nat)<=df:=by decide
 have l:∀(i:Nat) (st:av),st[i]?=a5 (a5 (k,w))->Run (ev Γ (.var i)) st (k,w) st:=λi st h=>by
  rcases hk with rfl|rfl
  .show ab h
  .show aS h
 have a:=qf (cond:=bb Γ []) (elt:=ev Γ (.call "_law_same" [.idx (.var 1) (.var 0),.idx (.var 2) (.var 0)])) (src:=[(.loc,.int (xs.length:Nat))]) (st:=[a5 (k,w),a5 (k,w)]) trivial .loc (.inl rfl) (λi:Nat=>U.int (0+(i:Int))) (λ_=>.bl bD) .loc (λ_=>vW) (i3 xs.length) [] (by simp;lia)
  (λi m=>by
   have b:=I0.mp m;have e:=d i xs[i] (by simp[b]);have c:=g xs[i] (G_ b);rw[show(0:Int)+(i:Int)=(i:Nat) by lia];show⟨?_,aM⟩;rcases hk with rfl|rfl
   .show cR (af (aW (ab rfl) (ab rfl) trivial e) (af (aW (ab rfl) (ab rfl) trivial e) aq)) trivial c
   .show cR (af (aW (aS rfl) (ab rfl) trivial e) (af (aW (aS rfl) (ab rfl) trivial e) aq)) trivial c)
 rw[o3]at a;have n:GZ .all [(.own,.lst ((i3 xs.length).map λ_=>U.bl bD))]=a5 (.loc,.bl bD):=by
  have:=yZ (k:=.own) ((i3 xs.length).map λ_=>bD);rw[ro]at this;show Eq.trans this ?_;congr 3
  rw[VQ];show lg.mpr λ_ _=>rfl
 show cQ (af (ic (rs:=[(.loc,.int (xs.length:Nat))]) (af (cQ (af (l 1 _ rfl) aq) ?_ f) aq) trivial (ie ⋯) a) aq) trivial n;rcases hk with rfl|rfl<;>show trivial
def tS(hl:xs.length<=1000)(a:∀u∈xs,fH Γ u):fQ Γ jY [.lst xs,.lst xs]=a5 (.ok (.loc,.bl bD)):=by
 have q:=tR (Γ:=Γ) (k:=.any) (w:=.lst xs) (xs:=xs) (.inr rfl) (λi u h=>bT (iQ h)) bM hl a;show cy (st0:=[a5 (.any,.lst xs),a5 (.any,.lst xs)]) rfl (.inr rfl) rfl (aV (lA (aS rfl) rfl) ar (ib (lA (aS rfl) rfl) (aV (DC (zM (zK (lA (b:=bD) (aS rfl) rfl)) (zL (aN (cQ (af (aS rfl) aq) trivial bM) (cQ (af (aS rfl) aq) trivial bM) trivial (qq (c:=c2) (by simp)))))) ar (cA q gG))))
def DW(h:FX Pg "_law_same" jY)(x:Str):fH (E7 Pg (d+1)) (.str x):=by unfold fH;rw[bJ h];show tQ
def zV(h:FX Pg "_law_same" jY)(hl:xs.length<=1000)(a:∀u∈xs,fH (E7 Pg d) u):fH (E7 Pg (d+1)) (.lst xs):=by unfold fH;rw[bJ h];show tS hl a
section
def wU(o:i≠j)(l:st[i]?=a5 (a5 (k0,a)))(c:k0.root=bD)(y:st[j]?=a5 (a5 (k0',d)))(z:k0'.root=bD)(A:Run (a9 Γ es) st rs st1)
  (b:st1[i]?=a5 (a5 (k,.lst us))) (hk:k.root=bD) (B:bK us=bD) (m:st1[j]?=a5 (a5 (k',.lst vs))) (p:k'.root=bD) (C:bK vs=bD) (D:rs.map (dm st1)=rs) (G:aX rs st1) (H:∀r∈rs,nS [a5 i,a5 j] r=bD)
  (I:Γ f (.lst us::.lst vs::rs.map (·.2))=a5 (.ok (n,.tup [v,.lst s,.lst t]))) (J:n=.own\/n=.loc):Run (ev Γ (.EW f (.var i::.var j::es) [0,1])) st (n,v) ((st1.set i (a5 (k,.lst s))).set j (a5 (k',.lst t))):=by
 have w:∀(i:Nat) (k0:Kd) (a:U),st[i]?=a5 (a5 (k0,a))->k0.root=bD->Run (ev Γ (.var i)) st (.bor i,a) st:=λi k0 a l c=>by
  have:=dt l (by rintro rfl;cases c);unfold kv at this;rw[Wq c]at this;show this
 have x:∀(i:Nat) (k:Kd) (a u:U),st1[i]?=a5 (a5 (k,u))->k.root=bD->dm st1 (.bor i,a)=(.bor i,u):=λi k a u b hk=>by
  unfold dm
  dsimp only
  rw[b];simp[hk]
 have e:((Kd.bor i,a)::(Kd.bor j,d)::rs).map (dm st1)=(.bor i,.lst us)::(.bor j,.lst vs)::rs:=by rw[gj,gj,x i k a _ b hk,x j k' d _ m p,D]
 have g:fO ((Kd.bor i,U.lst us)::(Kd.bor j,U.lst vs)::rs) 0=a5 i:=by
  change(if bK us=bD then a5 i else b5)=_;rw[Wq B]
 have h:fO ((Kd.bor i,U.lst us)::(Kd.bor j,U.lst vs)::rs) 1=a5 j:=by
  change(if bK vs=bD then a5 j else b5)=_;rw[Wq C]
 show qe (rs:=(.bor i,a)::(.bor j,d)::rs) (ws:=[.lst s,.lst t]) (st1:=st1) (af (w i k0 a l c) (af (w j k0' d y z) A)) ?_ ?_ J ?_ ?_
 .rw[e];show⟨⟨k,hk,b⟩,⟨k',p,m⟩,G⟩
 .rw[e];show I
 .rw[e];unfold nU;rw[b6,b6];show⟨⟨by simp[g,h],by simp[g,h,o]⟩,lg.mpr λq L=>?_⟩
  match q with
  |0=>simp
  |1=>simp
  |q+2 =>
   have hl:q<rs.length:=by have:=I0.mp L;simpa using this
   rw[H0];show .inr ?_;rw[show((Kd.bor i,U.lst us)::(Kd.bor j,U.lst vs)::rs).getD (q+2) (.loc,.EY)=rs[q] by simp[I_,hl]];simp only[gj,J_,g,h];show H _ (G_ hl)
 .rw[e];unfold fz;rw[g]
  dsimp only
  rw[b]
  dsimp only
  unfold fz;rw[h]
  dsimp only
  rw[hE o,m];rfl
def zf(d:i≠j)(e:st[i]?=a5 (a5 (k0,y)))(g:k0.root=bD)(h:st[j]?=a5 (a5 (k0',z)))(l:k0'.root=bD)(m:Run (a9 Γ es) st rs st1)
  (n:st1[i]?=a5 (a5 (k,.lst us))) (hk:k.root=bD) (o:bK us=bD) (p:st1[j]?=a5 (a5 (k',.lst vs))) (q:k'.root=bD) (s:bK vs=bD) (a:rs.all LK=bD)
  (t:Γ f (.lst us::.lst vs::rs.map (·.2))=a5 (.ok (b,.tup [v,.lst u,.lst w]))) (x:b=.own\/b=.loc):Run (ev Γ (.EW f (.var i::.var j::es) [0,1])) st (b,v) ((st1.set i (a5 (k,.lst u))).set j (a5 (k',.lst w))) :=
 wU d e g h l m n hk o p q s ((IY λr c=>oE (lg.mp a r c)).trans (PF rs)) (oF a) (λr c=>lD (lg.mp a r c)) t x
end
abbrev jZ(Γ:Tab):Prop:=∀(ns:List Int) (u:U) (ws:List Str) (T:Int),Src T u->T+500<2 ^ 62->ns.length<1000->0<ws.length->ws.length<1000000 ->
  ∃(rs:List Row) (a:List Int) (u':U),Γ "_law_book" [.lst (ns.map .int),u,.lst (ws.map .str)]=a5 (.ok (.loc,.tup [.tup (rs.map EU),.lst (a.map .int),u']))/\cH ws rs/\rs.length<=60/\a.length<=ns.length/\Src (T+500) u'
def wV(a:gL (E7 Pg d))(b:bc (E7 Pg d))(c:jV (E7 Pg d))(f:jW (E7 Pg d))(h:FX Pg "_law_book" m7):jZ (E7 Pg (d+1)):=by
 intro ns u ws T g i j k l;have⟨rs,m,u',e,r⟩:=qm a b c f g i j k l;show⟨rs,m,u',by rw[b9 h _ rfl];show e,r⟩
def wW(a:gL Γ){ns:List Int}:∃(b:List Int) (u:U),Run (ev Γ (.EW "_law_source" [.var 1,.cst (.int k)] [0])) (o0::a5 (.own,.lst (ns.map .int))::rest) (.own,u) (o0::a5 (.own,.lst (b.map .int))::rest)/\b.length<=ns.length/\Src 0 u:=by
 by_cases h:ns=[]
 .subst h;show⟨[],eD k 0 1,B7 (k0:=.own) (k:=.own) a rfl rfl ao rfl rfl,hY _,⟨_,_,_,rfl,⋯,⋯⟩⟩
 .have e:=LL h;generalize ns.dropLast=l at e;generalize ns.getLast h=c at e;subst e;show⟨l,eD (c / 2) 0 (c % 2),wA (k0:=.own) (k:=.own) a rfl rfl ao rfl rfl,by simp,⟨_,_,_,rfl,⋯,⋯⟩⟩
def Src.lst(h:Src T u):∃us,u=.lst us/\bK us=bD:=by
 obtain⟨a,t,w,rfl,_,_⟩:=h;show⟨_,rfl,rfl⟩
def oI(f:m8 Γ)(g:jZ Γ)(h:wR Γ){ns:List Int}(l:ns.length<1000)(b:Src 0 u):
  ∃(ws:List Str) (rs:List Row) (a:List Int) (u':U),Run (ev Γ (.EW "_law_widened" [.var 2,.EW "_law_book" [.var 1,.var 2,.EW "_law_words" [.var 2] [0]] [0,1]] [0])) (o0::a5 (.own,.lst (ns.map .int))::a5 (.own,u)::rest) (.loc,.tup (rs.map EU)) (o0::a5 (.own,.lst (a.map .int))::a5 (.own,u')::rest)/\ws.length<=24/\(∀r∈rs,bO ws r)/\rs.length<=84:=by
 obtain⟨ws,C,m,D,c,s1,_⟩:=f 0 u b ⋯;have⟨us,rfl,n⟩:=b.lst;have⟨d,rfl,o⟩:=s1.lst;have p:=fY (Γ:=Γ) (st:=o0::a5 (.own,.lst (ns.map .int))::a5 (.own,.lst us)::rest) (i:=2) (es:=[]) (k0:=.own) (k:=.own) rfl rfl aq rfl rfl n rfl m (.inl rfl);have⟨rs,a,G,q,s,t,H,s2⟩:=g ns (.lst d) ws _ s1 ⋯ l ⋯ ⋯;have⟨e,rfl,v⟩:=s2.lst;have w:=zf (Γ:=Γ) (st:=o0::a5 (.own,.lst (ns.map .int))::a5 (.own,.lst us)::rest) (st1:=o0::a5 (.own,.lst (ns.map .int))::a5 (.own,.lst d)::rest) (i:=1) (j:=2) (k0:=.own) (k:=.own) (k0':=.own) (k':=.own) (rs:=[(.own,.lst (ws.map .str))]) ⋯ rfl rfl rfl rfl (af p aq) rfl rfl (fh ns) rfl rfl o rfl q (.inr rfl);have⟨x,I,y,z,A,s3⟩:=h _ (.lst e) ws rs s2 ⋯ c s.1 t;have⟨B,rfl,J⟩:=s3.lst;show⟨ws,x,a,.lst B,fY (Γ:=Γ) (st:=o0::a5 (.own,.lst (ns.map .int))::a5 (.own,.lst us)::rest) (st1:=o0::a5 (.own,.lst (a.map .int))::a5 (.own,.lst e)::rest) (i:=2) (k0:=.own) (k:=.own) (rs:=[(.loc,.tup (rs.map EU))]) rfl rfl (af w aq) rfl rfl v rfl y (.inr rfl),c,z,A⟩
section
def rT{a b:List Str}:cz .ne (.lst (a.map U.str)) (.lst (b.map U.str))=a5 (!dV (a=b)):=by
 have h:=@oy a b;simp only[cz]at h ⊢;split at h
 .rename_i c;rw[Wq c,ra h]
 .cases h
def di(rs:List Row):(a5 (if Fu (.tup (rs.map EU))=bD then Kd.loc else Kd.any,U.tup (rs.map EU)):Option (Kd×U))=a5 (.loc,.tup (rs.map EU)):=by
 rw[Wq (by change bK (rs.map EU)=bD;show dP rs)]
def j3{a:List Str}:G0 .seq [(k,.tup (a.map .str))]=a5 (a.map λx=>(kE k,U.str x)):=by
 change a5 ((a.map U.str).map λu=>(kE k,u))=_;rw[ro];rfl
def lI{a:List Str}(hk:k=.any\/k=.loc):dZ k (a.map .str)=bD:=by
 rcases hk with rfl|rfl
 .show ig a
 .rfl
def bO.ok(h:bO ws r):rM ws r:=⟨h.1,h.2.2.2,h.2.1,h.2.2.1⟩
structure Bq(ws:List Str)(rs:List Row):Prop where
 wl:ws.length<=24
 rl:rs.length<=84
 ok:∀r∈rs,bO ws r
def wX(n:ws.length<1000)(hk:fq ws ks)(e:bO ws r):
  ∃a b,Run (execs Γ wL) (m9 rs ks (a5 (.loc,.str r.1)) (a5 (.loc,.tup (r.2.map .str))) o4) .nx (m9 rs a (a5 (.loc,.str r.1)) (a5 (.loc,.tup (r.2.map .str))) b)/\fq ws a/\∀x,x∈a↔x∈ks\/x=r.1\/x∈r.2:=by
 have o:=hk.len;obtain⟨st',j,a,b,rfl,l,_,c⟩:=bV (rs:=[(.loc,.tup (r.2.map .str))]) (t:=c2) (is:=[4]) (body:=execs Γ zU) (λx:Str=>(Kd.loc,U.str x)) (λd q st=>∃a b,st=m9 rs a (a5 (.loc,.str r.1)) (a5 (.loc,.tup (r.2.map .str))) b/\fq ws a/\(∀x∈q,x∈ws)/\∀x,x∈a↔(x∈ks\/x=r.1)\/x∈d)
  (λ_ _ _ _=>trivial) (λd y q st h=>by
   have⟨f,b,rfl,g,i,c⟩:=h;have p:=g.len;show⟨m9 rs f (a5 (.loc,.str r.1)) (a5 (.loc,.tup (r.2.map .str))) (a5 (.loc,.str y)),_,aA,gI (k:=.own) (k':=.own) ao rfl (ab rfl) (aB aM (aB aM aK)) rfl rfl (iX ⋯) ar,dn f y,_,rfl,g.ins (i y (by simp)),λx m=>i x (by simp[m]),λx=>?_⟩;rw[bz,c x,mh,js,or_assoc]) r.2 [] (m9 rs (dn ks r.1) (a5 (.loc,.str r.1)) (a5 (.loc,.tup (r.2.map .str))) o4) ⟨_,_,rfl,hk.ins e.1,e.2.2.1,λx=>by rw[bz];simp⟩
 show⟨a,b,?_,l,λx=>by rw[c x,or_assoc,o3]⟩;show gI (k:=.own) (k':=.own) ao rfl (ab rfl) (aB aM (aB aM aK)) rfl rfl (iX ⋯) (cL (rs:=[(.loc,.tup (r.2.map .str))]) (af (ab rfl) aq) trivial j3 rfl j ar)
def DX(h:FX Pg "_law_all" zc)(u:ws.length<=24)(g:∀r∈rs,bO ws r):E7 Pg (d+1) "_law_all" [.tup (rs.map EU)]=a5 (.ok (.own,.lst ((ax rs).map .str))):=by
 obtain⟨st',i,ks,b,c,o4,rfl,hk,_,j⟩:=bV (rs:=[(.loc,.tup (rs.map EU))]) (t:=bD) (is:=[2,3]) (body:=execs (E7 Pg d) wL) (λr:Row=>(Kd.loc,EU r)) (λd q st=>∃ks b c o4,st=m9 rs ks b c o4/\fq ws ks/\(∀r∈q,bO ws r)/\∀x,x∈ks↔∃r∈d,x=r.1\/x∈r.2)
  (λ_ _ _ _=>trivial) (λd y q st h=>by
   have⟨k,b,c,o4,rfl,l,f,m⟩:=h;have⟨n,v,o,p,s⟩:=wX (Γ:=E7 Pg ‹Nat›) (rs:=rs) (o4:=o4) ⋯ l (f y (by simp));show⟨m9 rs k (a5 (.loc,.str y.1)) (a5 (.loc,.tup (y.2.map .str))) o4,_,v_ (.inl rfl),o,n,_,_,_,rfl,p,λr a=>f r (by simp[a]),λx=>?_⟩;rw[s x,m x];constructor
   .rintro(⟨r,a,e⟩|e)
    .show⟨r,by simp[a],e⟩
    .show⟨y,by simp,e⟩
   .rintro⟨r,a,e⟩;rcases mh.mp a with q|q
    .show .inl ⟨r,q,e⟩
    .rw[js]at q;subst q;show .inr e) rs [] (m9 rs [] b5 b5 b5) ⟨[],b5,b5,b5,rfl,⟨by simp,by simp⟩,g,by simp⟩
 have hl:=hk.len;have e:aH ks=ax rs:=iy ((Mq hk.1 (dX _)).mpr λx=>by rw[j x,fK,d7,o3]);show(bJ h _).trans (cy (st0:=[a5 (.loc,.tup (rs.map EU)),b5,b5,b5,b5]) rfl (.inl rfl) (Wv (λx:Option (Kd×U)=>[x,b5,b5,b5,b5]) (di rs)) (aw (st2:=m9 rs [] b5 b5 b5) jN bt (cL (rs:=[(.loc,.tup (rs.map EU))]) (af (ab rfl) aq) trivial iY rfl i (cA (cQ (af (aL rfl) aq) ∅ ?_) oo))));change(if ks.length<64 then a5 (Kd.own,U.lst ((aH ks).map .str)) else b5)=_;rw[Wq ⋯,e]
def all2(h:FX Pg "_law_all" zc)(a:Bq ws rs):E7 Pg (d+1) "_law_all" [.tup (rs.map EU)]=a5 (.ok (.own,.lst ((ax rs).map .str))):=DX h a.wl a.ok
def B8(h:FX Pg "_law_all" zc):wM (E7 Pg (d+1)):=λws rs c a=>⟨_,DX h c a,oz _,λx f=>by
 have⟨r,b,e⟩:=d7.mp (jT.mp f);rcases e with rfl|e
 .show(a r b).1
 .show(a r b).2.2.1 _ e⟩
end
def B9(h:FX Pg "_law_same" jY){a:List Str}(hl:a.length<=1000):fH (E7 Pg (d+2)) (.lst (a.map .str)):=zV h (by simpa using hl) λu b=>by
 obtain⟨x,_,rfl⟩:=l0.mp b;show DW h x
abbrev G5(p:Str×Str):U:=.tup [.str p.1,.str p.2]
abbrev bp(a:List (Str×Str))(w:Str):List Str:=(a.filter λp=>dV (p.1=w)).map (·.2)
def fi:x∈bp a w↔(w,x)∈a:=by
 unfold bp;constructor
 .intro h;have⟨p,b,rfl⟩:=l0.mp h;have⟨c,d⟩:=F3.mp b;rw[<-Wu d];show c
 .intro h;show l0.mpr ⟨_,F3.mpr ⟨h,Wt rfl⟩,rfl⟩
def ip(a:List (Str×Str))(w:Str):(bp a w).length<=a.length:=by
 unfold bp;rw[d3];show Nu _ _
def fZ(d:List (Str×Str))(y:Str×Str)(k:Str):bp (d++[y]) k=if y.1=k then bp d k++[y.2] else bp d k:=by
 unfold bp;rw[Uo,mA];by_cases e:y.1=k
 .rw[Wq e];simp[e]
 .rw[Ws e];simp[e]
abbrev G6(a:List (Str×Str))(k:Str):U:=.lst ((bp a k).map .str)
abbrev cB(ks:List Str)(a:List (Str×Str)):U:=.EX ks (ks.map (G6 a))
inductive FN(ps:List (Str×Str))(a:Str):Str->Prop
 |one {b:Str}:(a,b)∈ps->FN ps a b
 |more {b c:Str}:FN ps a b->(b,c)∈ps->FN ps a c
def FN.last(r:FN d a b):∃c,(c,b)∈d:=by cases r with
 |one h=>show⟨_,h⟩
 |more _ h=>show⟨_,h⟩
def FN.sub{F:List Str}(h:∀y z,y=a\/y∈F->(y,z)∈c->z∈F)(r:FN c a b):b∈F:=by
 induction r with
 |one d=>show h _ _ (.inl rfl) d
 |more _ e f=>show h _ _ (.inr f) e
abbrev DY:List S:=[.ite (.inD bD (.var 2) 1) [.putD 1 (.var 2) (.lst [])] [],.Hb 1 (.var 2) (.var 3)]
abbrev wY:Fn:=⟨"gathered",1,4,[.newD 1,.Fh bD [2,3] .seq [.var 0] DY,.ret (.Kq 1)]⟩
section
def zg(hl:c.length<=1000):∃ks:List Str,(∀w,w∉ks->bp c w=[])/\fQ Γ wY [.lst (c.map G5)]=a5 (.ok (.own,cB ks c)):=by
 have hsz:(2000:Nat)<=df:=by decide
 let S:=λ(ks:List Str) (us:List U) (g i:Option (Kd×U))=>([a5 (.any,.lst (c.map G5)),a5 (.B',.EX ks us),g,i]:av)
 have⟨st',C,o,ks,g,i,e,j,hk,D⟩:=bV (t:=bD) (is:=[2,3]) (body:=execs Γ DY) (rs:=[(.any,.lst (c.map G5))]) (λp:Str×Str=>(Kd.any,G5 p))
  (λd r st=>d++r=c/\∃(ks:List Str) (g i:Option (Kd×U)),st=S ks (ks.map (G6 d)) g i/\ks.Nodup/\(∀w,w∉ks->bp d w=[])/\ks.length<=d.length) (λ_ _ _ _=>trivial) (λd y r st G=>by
   have⟨o,ks,g,i,e,j,hk,D⟩:=G;subst e;have N:d.length<1000:=by have:=Wv D' o;simp at this;lia
   let l:Option (Kd×U):=a5 (.any,.str y.1);let m:Option (Kd×U):=a5 (.any,.str y.2);have O:=ip d y.1;have n:∀(ks:List Str),ks.Nodup->y.1∈ks->Run (execs Γ [.Hb 1 (.var 2) (.var 3)]) (S ks (ks.map (G6 d)) l m) .nx (S ks (ks.map (G6 (d++[y]))) l m):=λks j f=>by
    have H:cC ks (ks.map (G6 d)) y.1=a5 (.lst ((bp d y.1).map .str)):=by rw[gK,Wq f];rfl
    have hs:iO ks (ks.map (G6 d)) y.1 (.lst ((bp d y.1).map U.str++[.str y.2]))=ks.map (G6 (d++[y])):=by
     rw[oB _ _ _ _ j];show IY λk hk=>?_;unfold G6;rw[fZ];by_cases e:y.1=k
     .subst e;rw[Wq rfl,Wq rfl];simp
     .rw[Ws e,Ws (qs e)]
    rw[<-hs];show B3 (k:=.any) (r:=(.any,.str y.2)) rfl (aS rfl) f (aS rfl) (vV rfl) H (by rw[d3];lia) ar
   have q:Run (E8 Γ (.inD bD (.var 2) 1)) (S ks (ks.map (G6 d)) l m) (!dV (y.1∈ks)) (S ks (ks.map (G6 d)) l m):=DN (neg:=bD) (k:=.any) (aS rfl) rfl;have v:Run (dH bD [2,3] (.any,G5 y)) (S ks (ks.map (G6 d)) g i) () (S ks (ks.map (G6 d)) l m):=v_ (.inr rfl);by_cases f:y.1∈ks
   .rw[Wt f]at q;show⟨_,_,v,DK q (λh=>by cases h) λ_=>n ks j f,by rw[<-o];simp,ks,_,_,rfl,j,λw s=>?_,by simp;lia⟩;have I:y.1≠w:=λz=>s (by rw[<-z];show f);rw[fZ,Ws I];show hk w s
   .rw[Wr f]at q;have x:(ks++[y.1]).Nodup:=by
     rw[wk];show⟨j,by simp,λa J b L e=>?_⟩;have:b=y.1:=by simpa using L
     subst this;show f (e▸J)
    have em:ks.map (G6 d)++[.lst []]=(ks++[y.1]).map (G6 d):=by
     rw[mA];congr 1
     change _=[G6 d y.1]
     unfold G6;rw[hk y.1 f];rfl
    have A:=n (ks++[y.1]) x (by simp);rw[<-em]at A;show⟨_,_,v,DK q (λ_=>B1 (k:=.any) (xs:=[]) (cK aq trivial aK (kj _)) rfl (aS rfl) f ⋯ A) λh=>(by cases h),by rw[<-o];simp,ks++[y.1],_,_,rfl,x,λw s=>?_,by simp;lia⟩;have B:w∉ks/\w≠y.1:=by simpa using s
    rw[fZ,Ws (qs B.2)];show hk w B.1) c [] (S [] [] b5 b5) ⟨rfl,[],b5,b5,rfl,.nil,λ_ _=>rfl,hY _⟩
 subst e;rw[o3]at *;show⟨ks,hk,?_⟩;have e:(c.map G5).map (λu=>(kE .any,u))=c.map λp=>(Kd.any,G5 p):=by rw[ro];rfl
 show cy rfl (.inl rfl) (st0:=[a5 (.any,.lst (c.map G5)),b5,b5,b5]) rfl (B0 (cL (rs:=[(.any,.lst (c.map G5))]) (st1:=S [] [] b5 b5) (af (aS rfl) aq) trivial rfl rfl (by rw[e];show C) (cA (DO rfl) (iE rfl))))
abbrev EO(Γ:Tab):Prop:=∀a:List (Str×Str),a.length<=1000->∃ks:List Str,(∀w,w∉ks->bp a w=[])/\Γ "gathered" [.lst (a.map G5)]=a5 (.ok (.own,cB ks a))
def ER(h:FX Pg "gathered" wY):EO (E7 Pg (d+1)):=λa hl=>by
 have⟨ks,hk,e⟩:=zg (Γ:=E7 Pg d) hl;show⟨ks,hk,(bJ h _).trans e⟩
abbrev bQ(rs:List Row):List (Str×Str):=(rs.map λr=>r.2.map λx=>(r.1,x)).flatten
def gM:(a,b)∈bQ rs↔∃r∈rs,r.1=a/\b∈r.2:=by
 unfold bQ;rw[UO];constructor
 .rintro⟨l,hl,h⟩;have⟨r,c,rfl⟩:=l0.mp hl;have⟨x,d,e⟩:=l0.mp h;cases e;show⟨r,c,rfl,d⟩
 .rintro⟨r,c,rfl,f⟩;show⟨_,LM c,LM f⟩
def tT(d:List Row)(r:Row):bQ (d++[r])=bQ d++r.2.map λx=>(r.1,x):=by simp[bQ]
theorem gN:∀{rs:List Row},(∀r∈rs,r.2.length<=8)->(bQ rs).length<=8 * rs.length
 |[],_=>by simp[bQ]
 |r::rs,h=>by
  have b:=gN (rs:=rs) λq a=>h q (by simp[a]);have c:=h r (by simp);have e:bQ (r::rs)=(r.2.map λx=>(r.1,x))++bQ rs:=by simp[bQ]
  rw[e,ke,d3,mu];lia
abbrev DZ:List S:=[.ext 1 (.comp 1 c2 .seq [.idx (.var 2) (.cst (.int 1))] [] (.tup [.idx (.var 3) (.cst (.int 0)),.var 0]))]
abbrev zh:Fn:=⟨"pairs_of",1,3,[.set 1 (.lst []),.Fh c2 [2] .seq [.var 0] DZ,.ret (.var 1)]⟩
def zi(c:∀r∈rs,r.2.length<=8)(n:rs.length<=100):fQ Γ zh [.tup (rs.map EU)]=a5 (.ok (.own,.lst ((bQ rs).map G5))):=by
 have hsz:(2000:Nat)<=df:=by decide
 let S:=λ(h:List (Str×Str)) (a:Option (Kd×U))=>([a5 (.loc,.tup (rs.map EU)),a5 (.own,.lst (h.map G5)),a]:av)
 have⟨st',i,b,a,rfl⟩:=bV (t:=c2) (is:=[2]) (body:=execs Γ DZ) (rs:=[(.loc,.tup (rs.map EU))]) (λr:Row=>(Kd.loc,EU r))
  (λd r st=>d++r=rs/\∃(a:Option (Kd×U)),st=S (bQ d) a) (λ_ _ _ _=>trivial) (λd y r st j=>by
   have⟨b,a,e⟩:=j;subst e;have l:∀r∈d,r.2.length<=8:=λq m=>c q (by rw[<-b];simp[m]);have o:=c y (by rw[<-b];simp);have p:d.length<100:=by have:=Wv D' b;simp at this;lia
   have s:=gN l;have f:=qf (cond:=bb Γ []) (elt:=ev Γ (.tup [.idx (.var 3) (.cst (.int 0)),.var 0])) (src:=[(.loc,.tup (y.2.map .str))]) (st:=S (bQ d) (a5 (.loc,EU y))) trivial .loc (.inl rfl) U.str (λx=>G5 (y.1,x)) .loc (λ_=>vW) y.2 [] (by simp;lia)
    (λx g=>⟨jM (rs:=[(.loc,.str y.1),(.loc,.str x)]) (af (aW (ab rfl) ao trivial (lZ rfl)) (af (ab rfl) aq)) trivial (aB aM (aB aM aK)) (by change 2<=df;lia),aM⟩)
   rw[o3]at f;have g:gY (.own,.lst (y.2.map λx=>G5 (y.1,x))) (.lst ((bQ d).map G5))=a5 (.lst ((bQ (d++[y])).map G5)):=by
    rw[rN (by rw[d3,d3];lia) rfl,tT,mA,ro];rfl
   show⟨S (bQ d) (a5 (.loc,EU y)),_,aA,v3 (k:=.own) (k':=.own) rfl (ic (af (aW (ab rfl) ao trivial (lZ rfl)) aq) trivial j3 f) rfl rfl g ar,by rw[<-b];simp,_,rfl⟩) rs [] (S [] b5) ⟨rfl,b5,rfl⟩
 show cy rfl (.inl rfl) (st0:=[a5 (.loc,.tup (rs.map EU)),b5,b5]) (Wv (λx=>[x,b5,b5]) (di rs)) (aw (cK aq trivial aK (kj _)) bt (cL (rs:=[(.loc,.tup (rs.map EU))]) (af (ab rfl) aq) trivial iY rfl i (cA (aL rfl) (iE rfl))))
abbrev rU:Fn:=⟨"words_told_of",1,1,[.ret (.call "gathered" [.call "pairs_of" [.var 0]])]⟩
abbrev wZ(Γ:Tab)(f:Str)(rs:List Row)(a:List (Str×Str)):Prop:=∃ks:List Str,(∀w,w∉ks->bp a w=[])/\Γ f [.tup (rs.map EU)]=a5 (.ok (.own,cB ks a))
def B_(b:FX Pg "gathered" wY)(c:FX Pg "pairs_of" zh)(f:FX Pg "words_told_of" rU)(a:∀r∈rs,r.2.length<=8)(g:rs.length<=100):wZ (E7 Pg (d+2)) "words_told_of" rs (bQ rs):=by
 have⟨ks,hk,e⟩:=ER (d:=d) b (bQ rs) (by have:=gN a;lia);show⟨ks,hk,(bJ f _).trans (cy rfl (.inl rfl) (st0:=[a5 (.loc,.tup (rs.map EU))]) (Wv (λx=>[x]) (di rs)) (cA (cR (af (cR (af (ab rfl) aq) trivial ((bJ c _).trans (zi a g))) aq) trivial e) oo))⟩
end
section
def rV(c:st[i]?=a5 (a5 (.any,.EX ks us)))(d:Run (ev Γ a) st (k,.str y) st)(e:Run (ev Γ b) st z st)(f:Run (lift z) st u st)(g:(match cC ks us y with|some v=>(Kd.any,v)|none=>(.loc,u))=r):
  Run (ev Γ (.GX i a b)) st r st:=by
 show aa (dt c) (aa (a:=()) (st1:=st) rfl (aa d (aa (a:=y) (st1:=st) rfl (aa e (aa f (aa (dt c) (da ?_)))))));subst g;rfl
def rW(hk:∀w,w∉ks->bp b w=[])(c:st[i]?=a5 (a5 (.any,cB ks b)))(d:Run (ev Γ a) st (.loc,.str y) st):∃k,(k=.any\/k=.loc)/\Run (ev Γ (.GX i a (.lst []))) st (k,.lst ((bp b y).map .str)) st:=by
 by_cases h:y∈ks
 .show⟨.any,.inl rfl,rV c d (cK aq trivial aK (kj _)) om (by rw[gK,Wq h];rfl)⟩
 .show⟨.loc,.inr rfl,rV c d (cK aq trivial aK (kj _)) om (by rw[gK,Ws h,hk y h];rfl)⟩
abbrev D0:List S :=
   [.set 4 (.pop 3),
   .ite (.cmp .Fg (.var 4) (.var 2))
    [.put 2 (.var 4) (.cst (.bl bD)),
    .ext 3 (.GX 0 (.var 4) (.lst []))]
    []]
abbrev D1:Fn:=⟨"reached",2,5,[.set 2 (.Gp c2),.set 3 (.bi .list [.GX 0 (.var 1) (.lst [])]),.Jq (.cmp .ne (.var 3) (.lst [])) D0,.ret (.var 2)]⟩
abbrev kD(l:U)(w:Str)(fd a:List Str)(o4:Option (Kd×U)):av:=[a5 (.any,l),a5 (.loc,.str w),a5 (.own,dy fd),a5 (.own,.lst (a.map .str)),o4]
structure LS(ws:List Str)(ps:List (Str×Str))(w:Str)(fd wt:List Str):Prop where
 ks:fq ws fd
 fr:∀x∈fd,FN ps w x
 wr:∀x∈wt,FN ps w x
 cl:∀y z,y=w\/y∈fd->(y,z)∈ps->z∈fd\/z∈wt
 wl:wt.length<=(fd.length+1) * 1000
theorem j4(I:ws.length<=24)(J:d.length<=1000)(v:∀p∈d,p.2∈ws)(hk:∀w,w∉ks->bp d w=[]):
  ∀(n:Nat) (fd f:List Str) (o4:Option (Kd×U)),(64 - fd.length) * 2000+f.length<n->LS ws d w fd f->∃m o,Run (fj (E8 Γ (.cmp .ne (.var 3) (.lst []))) (execs Γ D0) n) (kD (cB ks d) w fd f o4) .nx (kD (cB ks d) w m [] o)/\LS ws d w m []
 |0,_,_,_,h,_=>by lia
 |n+1,fd,f,o4,h,g=>by
  have Q:(100000:Nat)<=df:=by decide
  have L:∀f,Run (E8 Γ (.cmp .ne (.var 3) (.lst []))) (kD (cB ks d) w fd f o4) (!dV (f=[])) (kD (cB ks d) w fd f o4):=λf=>aN (aL rfl) (cK aq trivial aK (kj _)) ∅ (rT (b:=[]));by_cases e:f=[]
  .subst e;show⟨fd,o4,rQ (L []),g⟩
  .have hl:=g.ks.len;have A:=L f;rw[Wr e]at A;have B:=LL e;generalize f.dropLast=l at B;generalize f.getLast e=y at B;subst B;have T:=g.wl;rw[ke,y0]at T h;have N:Run (ev Γ (.pop 3)) (kD (cB ks d) w fd (l++[y]) o4) (.loc,.str y) (kD (cB ks d) w fd l o4):=by
    have q:=zO (Γ:=Γ) (st:=kD (cB ks d) w fd (l++[y]) o4) (i:=3) (k:=.own) (us:=(l++[y]).map .str) (u:=.str y) rfl rfl (by simp);rw[show((l++[y]).map U.str).dropLast=l.map U.str by rw[mA];simp]at q;show q
   have C:FN d w y:=g.wr y (by simp);have Y:y∈ws:=by have⟨c,hc⟩:=C.last;show v _ hc
   have s:Run (E8 Γ (.cmp .Fg (.var 4) (.var 2))) (kD (cB ks d) w fd l (a5 (.loc,.str y))) (!dV (y∈fd)) (kD (cB ks d) w fd l (a5 (.loc,.str y))):=aN (ab rfl) (aL rfl) ∅ lB;by_cases t:y∈fd
   .rw[Wt t]at s;have D:LS ws d w fd l:=⟨g.ks,g.fr,λx j=>g.wr x (by simp[j]),λa z ha hz=>by
     rcases g.cl a z ha hz with q|q
     .show .inl q
     .rcases mh.mp q with q|q
      .show .inr q
      .rw[js]at q;subst q;show .inl t,⋯⟩
    have⟨m,o,q,G⟩:=j4 I J v hk n fd l (a5 (.loc,.str y)) ⋯ D;show⟨m,o,v8 A (aw N aA (aV s ar ar)) q,G⟩
   .rw[Wr t]at s;have H:dn fd y=fd++[y]:=by unfold dn;rw[Ws t]
    have O:=g.ks.ins Y;have Hu:=O.len;rw[H,ke,y0]at Hu;have OZ:=ip d y;have D:LS ws d w (dn fd y) (l++bp d y):=⟨O,λx j=>(bz.mp j).elim (g.fr x) λe=>e▸C,λx j=>by
      rcases mh.mp j with q|q
      .show g.wr x (by simp[q])
      .show .more C (fi.mp q),λa z ha hz=>by
      have r:a=w\/a∈fd->z∈dn fd y\/z∈l++bp d y:=λha=>by
       rcases g.cl a z ha hz with q|q
       .show .inl (bz.mpr (.inl q))
       .rcases mh.mp q with q|q
        .show .inr (mh.mpr (.inl q))
        .rw[js]at q;show .inl (bz.mpr (.inr q))
      rcases ha with ha|ha
      .show r (.inl ha)
      .rcases bz.mp ha with ha|rfl
       .show r (.inr ha)
       .show .inr (mh.mpr (.inr (fi.mpr hz))),by rw[H,ke,ke,y0];lia⟩
    have⟨k,Ft,q5⟩:=rW (Γ:=Γ) (st:=kD (cB ks d) w (dn fd y) l (a5 (.loc,.str y))) (i:=0) (a:=.var 4) (y:=y) hk rfl (ab rfl);have j:gY (k,.lst ((bp d y).map .str)) (.lst (l.map .str))=a5 (.lst ((l++bp d y).map .str)):=by
     rw[rN (by rw[d3,d3];lia) (lI Ft),mA]
    have⟨m,o,q,G⟩:=j4 I J v hk n (dn fd y) (l++bp d y) (a5 (.loc,.str y)) (by rw[H,ke,ke,y0];lia) D;show⟨m,o,v8 A (aw N aA (cw s (gI (k:=.own) (k':=.own) ao rfl (ab rfl) (aB aM (aB aM aK)) rfl rfl (iX ⋯) (v3 (k:=.own) (k':=.own) rfl q5 rfl rfl j ar)) ar)) q,G⟩
abbrev w9(Γ:Tab):Prop:=∀(ws ks:List Str) (a:List (Str×Str)) (w:Str),ws.length<=24->a.length<=1000->(∀p∈a,p.2∈ws)->(∀w,w∉ks->bp a w=[])->∃fd,Γ "reached" [cB ks a,.str w]=a5 (.ok (.own,dy fd))/\fq ws fd/\∀x,x∈fd↔FN a w x
def D4(h:FX Pg "reached" D1):w9 (E7 Pg (d+1)):=λws ks b w f g j hk=>by
 have l:(100000:Nat)<=df:=by decide
 have s:=ip b w;have m:LS ws b w [] (bp b w):=by
  show⟨⟨.nil,λ_ h=>absurd h DD⟩,λ_ h=>absurd h DD,λx n=>.one (fi.mp n),λa z ha hz=>?_,by simp;lia⟩;rcases ha with rfl|ha
  .show .inr (fi.mpr hz)
  .cases ha
 have⟨fd,o4,q,c⟩:=j4 (Γ:=E7 Pg d) f g j hk fuel [] (bp b w) b5 (by unfold fuel;simp;lia) m;have⟨k,e,o⟩:=rW (Γ:=E7 Pg d) (st:=[a5 (.any,cB ks b),a5 (.loc,.str w),a5 (.own,.EX [] []),b5,b5]) (i:=0) (a:=.var 1) (y:=w) hk rfl (ab rfl);show⟨fd,(bJ h _).trans (cy rfl (.inl rfl) (st0:=[a5 (.any,cB ks b),a5 (.loc,.str w),b5,b5,b5]) rfl (aw jN bt (aw (r:=(.own,.lst ((bp b w).map .str))) (cQ (af o aq) ?_ ?_) bt (v9 q (cA (aL rfl) (iE rfl)))))),c.ks,λx=>⟨c.fr x,λr=>r.sub λy z p hz=>(c.cl y z p hz).elim id λq=>by cases q⟩⟩
 .rcases e with rfl|rfl<;>show trivial
 .change(if dZ k ((bp b w).map U.str)=bD then _ else _)=_;rw[Wq (lI e)]
end
section
abbrev D5:List S:=[.ite (.cmp .Fg (.var 6) (.var 2)) [.put 2 (.var 6) (.cst (.bl bD)),.set 3 (.cst (.bl bD))] []]
abbrev Ca:List S:=[.ite (.or [.cmp .eq (.var 4) (.var 1),.cmp .isin (.var 4) (.var 2)]) [.Fh c2 [6] .seq [.var 5] D5] []]
abbrev Cb:List S:=[.set 3 (.cst (.bl c2)),.Fh bD [4,5] .seq [.var 0] Ca]
abbrev QA:Fn:=⟨"_law_beneath",2,7,[.set 2 (.Gp c2),.set 3 (.cst (.bl bD)),.Jq (.var 3) Cb,.ret (.var 2)]⟩
abbrev eU(rs:List Row)(w:Str)(ks:List Str)(g:Bool)(o4 o5 o6:Option (Kd×U)):av:=[a5 (.loc,.tup (rs.map EU)),a5 (.loc,.str w),a5 (.own,dy ks),a5 (.loc,.bl g),o4,o5,o6]
structure Iw(ws:List Str)(rs:List Row)(w:Str)(k0 ks:List Str)(g:Bool):Prop where
 ki:fq ws ks
 rc:∀x∈ks,FN (bQ rs) w x
 sb:∀x∈k0,x∈ks
 nf:g=c2->ks=k0
 gr:g=bD->k0.length<ks.length
def Iw.add(h:Iw ws rs w k0 ks g)(b:y∉ks)(c:y∈ws)(d:FN (bQ rs) w y):Iw ws rs w k0 (dn ks y) bD:=by
 show⟨h.ki.ins c,λx a=>(bz.mp a).elim (h.rc x) λe=>e▸d,λx a=>bz.mpr (.inl (h.sb x a)),λe=>UX e,λ_=>?_⟩;have:k0.length<=ks.length:=by
  cases g with
  |false=>rw[h.nf rfl];show hY _
  |true=>show Ie (h.gr rfl)
 unfold dn;rw[Ws b,ke,y0];lia
def zj(G:ws.length<=24)(z:r∈rs)(A:bO ws r)(h:Iw ws rs w k0 ks g):
  ∃a g' f,Run (execs Γ Ca) (eU rs w ks g (a5 (.loc,.str r.1)) (a5 (.loc,.tup (r.2.map .str))) o6) .nx (eU rs w a g' (a5 (.loc,.str r.1)) (a5 (.loc,.tup (r.2.map .str))) f)/\Iw ws rs w k0 a g'/\(∀x∈ks,x∈a)/\(r.1=w\/r.1∈ks->∀x∈r.2,x∈a):=by
 have l:Run (E8 Γ (.or [.cmp .eq (.var 4) (.var 1),.cmp .isin (.var 4) (.var 2)])) (eU rs w ks g (a5 (.loc,.str r.1)) (a5 (.loc,.tup (r.2.map .str))) o6) (dV (r.1=w)||decide (r.1∈ks)) (eU rs w ks g (a5 (.loc,.str r.1)) (a5 (.loc,.tup (r.2.map .str))) o6) :=
  DC (DL (aN (ab rfl) (ab rfl) trivial iV) λ_=>zL (aN (ab rfl) (aL rfl) ∅ wa))
 by_cases m:r.1=w\/r.1∈ks
 .rw[show(dV (r.1=w)||decide (r.1∈ks))=bD by simpa using m]at l;have B:∀x∈r.2,FN (bQ rs) w x:=λx b=>by
   have:(r.1,x)∈bQ rs:=gM.mpr ⟨r,z,rfl,b⟩;rcases m with e|e
   .show .one (e▸this)
   .show .more (h.rc _ e) this
  obtain⟨st',C,a,g',f,rfl,i,n,o,_⟩:=bV (rs:=[(.loc,.tup (r.2.map .str))]) (t:=c2) (is:=[6]) (body:=execs Γ D5) (λx:Str=>(Kd.loc,U.str x)) (λd q st=>∃a g' f,st=eU rs w a g' (a5 (.loc,.str r.1)) (a5 (.loc,.tup (r.2.map .str))) f/\Iw ws rs w k0 a g'/\(∀x∈ks,x∈a)/\(∀x∈d,x∈a)/\∀x∈q,x∈r.2)
   (λ_ _ _ _=>trivial) (λd y q st D=>by
    have⟨c,j,f,rfl,i,n,o,u⟩:=D;have H:=i.ki.len;have v:=u y (by simp);have p:Run (E8 Γ (.cmp .Fg (.var 6) (.var 2))) (eU rs w c j (a5 (.loc,.str r.1)) (a5 (.loc,.tup (r.2.map .str))) (a5 (.loc,.str y))) (!dV (y∈c)) (eU rs w c j (a5 (.loc,.str r.1)) (a5 (.loc,.tup (r.2.map .str))) (a5 (.loc,.str y))):=aN (ab rfl) (aL rfl) ∅ lB;by_cases s:y∈c
    .rw[Wt s]at p;show⟨eU rs w c j (a5 (.loc,.str r.1)) (a5 (.loc,.tup (r.2.map .str))) (a5 (.loc,.str y)),_,aA,aV p ar ar,c,j,_,rfl,i,n,λx b=>?_,λx b=>u x (by simp[b])⟩;rcases mh.mp b with q|q
     .show o x q
     .rw[js]at q;subst q;show s
    .rw[Wr s]at p;show⟨eU rs w c j (a5 (.loc,.str r.1)) (a5 (.loc,.tup (r.2.map .str))) (a5 (.loc,.str y)),_,aA,cw p (gI (k:=.own) (k':=.own) ao rfl (ab rfl) (aB aM (aB aM aK)) rfl rfl (iX ⋯) (aw ao aA ar)) ar,dn c y,bD,_,rfl,i.add s (A.2.2.1 y v) (B y v),λx b=>bz.mpr (.inl (n x b)),λx b=>?_,λx b=>u x (by simp[b])⟩;rcases mh.mp b with q|q
     .show bz.mpr (.inl (o x q))
     .rw[js]at q;show bz.mpr (.inr q)) r.2 [] (eU rs w ks g (a5 (.loc,.str r.1)) (a5 (.loc,.tup (r.2.map .str))) o6) ⟨ks,g,o6,rfl,h,λ_ q=>q,λ_ q=>absurd q DD,λ_ q=>q⟩
  show⟨a,g',f,cw l (cL (rs:=[(.loc,.tup (r.2.map .str))]) (af (ab rfl) aq) trivial j3 rfl C ar) ar,i,n,λ_=>o⟩
 .rw[show(dV (r.1=w)||decide (r.1∈ks))=c2 by simpa using m]at l;show⟨ks,g,o6,aV l ar ar,h,λ_ q=>q,λe=>absurd e m⟩
def zk(o:ws.length<=24)(p:∀r∈rs,bO ws r)(h:Iw ws rs w ks ks c2):
  ∃a g' e f b,Run (execs Γ Cb) (eU rs w ks g o4 o5 o6) .nx (eU rs w a g' e f b)/\Iw ws rs w ks a g'/\∀r∈rs,r.1=w\/r.1∈ks->∀x∈r.2,x∈a:=by
 obtain⟨st',s,a,g',e,f,b,rfl,c,i,_⟩:=bV (rs:=[(.loc,.tup (rs.map EU))]) (t:=bD) (is:=[4,5]) (body:=execs Γ Ca) (λr:Row=>(Kd.loc,EU r)) (λd q st=>∃a g' o4 o5 b,st=eU rs w a g' o4 o5 b/\Iw ws rs w ks a g'/\(∀r∈d,r.1=w\/r.1∈ks->∀x∈r.2,x∈a)/\∀r∈q,r∈rs)
  (λ_ _ _ _=>trivial) (λd y q st u=>by
   have⟨v,z,o4,o5,o6,rfl,c,i,k⟩:=u;have l:=k y (by simp);have⟨A,B,b,C,D,G,H⟩:=zj (Γ:=Γ) (o6:=o6) o l (p y l) c;show⟨eU rs w v z (a5 (.loc,.str y.1)) (a5 (.loc,.tup (y.2.map .str))) o6,_,v_ (.inl rfl),C,A,B,_,_,_,rfl,D,λr j m x n=>?_,λr j=>k r (by simp[j])⟩;rcases mh.mp j with q|q
   .show G x (i r q m x n)
   .rw[js]at q;subst q;show H (m.imp id (c.sb _)) x n) rs [] (eU rs w ks c2 o4 o5 o6) ⟨ks,c2,_,_,_,rfl,h,λ_ q=>absurd q DD,λ_ q=>q⟩
 show⟨a,g',e,f,b,aw ao aA (cL (rs:=[(.loc,.tup (rs.map EU))]) (af (ab rfl) aq) trivial iY rfl s ar),c,i⟩
theorem rX(i:ws.length<=24)(j:∀r∈rs,bO ws r):
  ∀(n:Nat) (ks:List Str) (o4 o5 o6:Option (Kd×U)),64 - ks.length<n->Iw ws rs w ks ks c2->∃b c d f,Run (fj (E8 Γ (.var 3)) (execs Γ Cb) (n+1)) (eU rs w ks bD o4 o5 o6) .nx (eU rs w b c2 c d f)/\fq ws b/\∀x,x∈b↔FN (bQ rs) w x
 |0,_,_,_,_,h,_=>by lia
 |n+1,ks,o4,o5,o6,h,l=>by
  have⟨k,m,c,d,f,q,a,o⟩:=zk (Γ:=Γ) (g:=bD) (o4:=o4) (o5:=o5) (o6:=o6) i j l;have hl:=a.ki.len;cases m with
  |true =>
   have C:=a.gr rfl;have⟨b,p,s,t,u,r⟩:=rX i j n k c d f ⋯ ⟨a.ki,a.rc,λ_ z=>z,λ_=>rfl,λe=>by cases e⟩;show⟨b,p,s,t,v8 (ij rfl) q u,r⟩
  |false =>
   have e:=a.nf rfl;subst e;show⟨k,c,d,f,v8 (ij rfl) q (rQ (ij rfl)),a.ki,λx=>⟨a.rc x,λr=>r.sub λy z v hz=>?_⟩⟩;have⟨r,A,rfl,B⟩:=gM.mp hz;show o r A v z B
abbrev D6(Γ:Tab):Prop:=∀(ws:List Str) (rs:List Row) (w:Str),Bq ws rs->∃ks,Γ "_law_beneath" [.tup (rs.map EU),.str w]=a5 (.ok (.own,dy ks))/\fq ws ks/\∀x,x∈ks↔FN (bQ rs) w x
def ES(h:FX Pg "_law_beneath" QA):D6 (E7 Pg (d+1)):=λws rs w a=>by
 have b:start [.tup (rs.map EU),.str w] 7=[a5 (.loc,.tup (rs.map EU)),a5 (.loc,.str w),b5,b5,b5,b5,b5]:=Wv (λx:Option (Kd×U)=>[x,a5 (Kd.loc,U.str w),b5,b5,b5,b5,b5]) (di rs);have⟨ks,o4,o5,o6,q,c,f⟩:=rX (Γ:=E7 Pg d) (w:=w) a.wl a.ok 999999999999 [] b5 b5 b5 (by simp) ⟨⟨.nil,λ_ h=>absurd h DD⟩,λ_ h=>absurd h DD,λ_ h=>h,λ_=>rfl,λe=>by cases e⟩;show⟨ks,(bJ h _).trans (cy rfl (.inl rfl) b (aw jN bt (aw ao aA (v9 q (cA (aL rfl) (iE rfl)))))),c,f⟩
end
def FN.trans(h:FN e a b)(r:FN e b c):FN e a c:=by
 induction r with
 |one d=>show .more h d
 |more _ d f=>show .more f d
structure Dc(ws:List Str)(ps:List (Str×Str))(D:Str->List Str):Prop where
 ks:∀w,fq ws (D w)
 rc:∀w x,x∈D w↔FN ps w x
section
abbrev ring(D:Str->List Str)(w:Str):List Str:=(aH (D w)).filter λx=>dV (w∈D x)
def lJ{l:List Str}(h:l.Pairwise (λa b=>F5 a b=bD)):(l.filter p).Pairwise (λa b=>F5 a b=bD):=h.sublist LR
def cO(h:Dc ws a D):x∈ring D w↔FN a w x/\FN a x w:=by
 unfold ring;rw[F3,(bj _).mem_iff,Wo,h.rc,h.rc]
def d9(h:Dc ws a D):(ring D w).Nodup:=((bj _).nodup_iff.mpr (h.ks w).1).sublist LR
def iZ:(ring D w).Pairwise (λa b=>F5 a b=bD):=lJ (dF _)
def zl(h:Dc ws a D)(b:l.Nodup)(c:∀x,x∈l↔FN a w x/\FN a x w):aH l=ring D w :=
 dG ((bj l).trans ((Mq b (d9 h)).mpr λx=>(c x).trans (cO h).symm)) (dF l) iZ
def tU(h:Dc ws b D)(a:x∈ring D w):ring D x=ring D w:=by
 have a:=(cO h).mp a;show dG ((Mq (d9 h) (d9 h)).mpr λy=>?_) iZ iZ;rw[cO h,cO h];show⟨λq=>⟨a.1.trans q.1,q.2.trans a.2⟩,λq=>⟨a.2.trans q.1,q.2.trans a.1⟩⟩
def tV(h:Dc ws a D):w∈ring D w↔FN a w w:=by rw[cO h];show⟨λq=>q.1,λq=>⟨q,q⟩⟩
abbrev ft(D:Str->List Str)(w:Str):Bool:=dV ((ring D w).head?=a5 w)
def Cc(h:(ring D w).head?=a5 y):y∈ring D w:=List.mem_of_mem_head? (by rw[h];rfl)
def D7(h:(ring D w).head?=a5 y)(hx:x∈ring D w):F5 y x=bD:=by
 have b:=iZ (D:=D) (w:=w);cases c:ring D w with
 |nil=>rw[c]at h;cases h
 |cons a l =>
  rw[c]at h b hx;cases h;rcases gs.mp hx with rfl|hx
  .have:=kQ x x;simpa using this
  .show(HE.mp b).1 x hx
abbrev GJ(D:Str->List Str)(d:List Str):List (List Str):=(d.filter (ft D)).map (ring D)
def oJ(d:List Str)(w:Str):GJ D (d++[w])=if ft D w=bD then GJ D d++[ring D w] else GJ D d:=by
 unfold GJ;rw[Uo];by_cases h:ft D w=bD
 .rw[Wq h,List.filter_cons_of_pos h];simp
 .rw[Ws h,List.filter_cons_of_neg h];simp
def zm(h:Dc ws k D)(o:(d++w::r).Pairwise (λa b=>F5 a b=bD))(p:(d++w::r).Nodup)(s:∀y,FN k w y->y∈d++w::r)(t:FN k w w):(ring D w∈GJ D d)↔ft D w=c2:=by
 have g:=(tV h).mpr t;obtain⟨y,c⟩:∃y,(ring D w).head?=a5 y:=by
  cases u:ring D w with
  |nil=>rw[u]at g;cases g
  |cons a l=>show⟨a,rfl⟩
 have m:=Cc c;have x:=(cO h).mp m;have i:=D7 c g;have A:=wk.mp p;constructor
 .intro B;have⟨v,C,e⟩:=l0.mp B;have⟨G,f⟩:=F3.mp C;have f:=Wu f;rw[e,c]at f;cases f;unfold ft;rw[c];show Wr λz=>?_;cases z;show A.2.2 w G w kl rfl
 .intro j;have n:y≠w:=λz=>by
   subst z;unfold ft at j;rw[c,Wt rfl]at j;cases j
  have H:y∈d:=by
   rcases mh.mp (s y x.1) with q|q
   .show q
   .rcases gs.mp q with q|q
    .show absurd q n
    .have:=(HE.mp (List.pairwise_append.mp o).2.1).1 y q;show absurd (gp i this) n
  have es:=tU h m;show l0.mpr ⟨y,F3.mpr ⟨H,by unfold ft;rw[es,c];show Wt rfl⟩,es⟩
def w_(h:Dc ws b D)(c:¬FN b w w):ring D w=[]:=by
 cases d:ring D w with
 |nil=>rfl
 |cons a l =>
  have:=(cO h).mp (show a∈ring D w by rw[d];show kl);show absurd (this.1.trans this.2) c
def m_(h:Dc ws a D)(d:List Str):(GJ D d).length<=d.length:=by
 unfold GJ;rw[d3];show Nu _ _
def xa(h:Dc ws b D):(ring D w).length<=ws.length:=gH (d9 h) λx a=>by
 have:=(h.rc w x).mpr ((cO h).mp a).1;show(h.ks w).2 x this
def zo:∀{d:List Str},d.Pairwise (λa b=>F5 a b=bD)->d.Nodup->kA (GJ D d)=bD:=by
 have f:∀l:List Str,l.Pairwise (λa b=>F5 a b=bD)->l.Nodup->(∀x∈l,ft D x=bD)->kA (l.map (ring D))=bD:=λl=>by
  induction l with
  |nil=>intro _ _ _;rfl
  |cons a l o =>
   intro g h i;cases l with
   |nil=>rfl
   |cons b l =>
    have⟨p,p2⟩:=HE.mp g;have⟨q,r⟩:=nC.mp h;change(!ku (ring D b) (ring D a)&&kA ((b::l).map (ring D)))=bD;rw[o p2 r λx j=>i x (la _ j),RJ];have c:=Wu (i a kl);have e:=Wu (i b (by simp));have k:F5 a b=bD:=p b kl;have s:b≠a:=λz=>q (by simp[z]);cases m:ring D a with
    |nil=>rw[m]at c;cases c
    |cons t u =>
     cases n:ring D b with
     |nil=>rw[n]at e;cases e
     |cons v w =>
      rw[m]at c;rw[n]at e;cases c;cases e;unfold ku;rw[Ws s];rw[gn]at k;rw[Wr (λz=>absurd k (List.not_le.mpr z))];rfl
 intro d g h;show f _ (lJ g) (h.sublist LR) λx j=>(F3.mp j).2
end
section
def xb(h:st[j]?=a5 (a5 (.own,.EX ks us))):Run (ev Γ (.II (.var j))) st (.loc,.Fm ks us) (st.set j (a5 (.loc,.Fm ks us))):=by
 show aa (aL h) ?_;change sL (.bor j,.EX ks us) st=_;unfold sL
 dsimp only
 rw[h]
def Cd(h:Run (ev Γ e) st (.own,.EX ks us) st1):Run (ev Γ (.II e)) st (.loc,.Fm ks us) st1:=aa h aJ
def D8(h:st[i]?=a5 (a5 (.own,u)))(a:Run (execs Γ b) (st.set i (a5 (.loc,u))) f st2):Run (execs Γ (.shr i::b)) st f st2:=eC (by
 change u9 i st=_;unfold u9;rw[h]) a
def D9(a:Run (a9 Γ es) st rs st1)(b:aX rs st1)(d:Γ g (rs.map (·.2))=a5 (.ok (.own,.lst xs)))(e:Run (E8 Γ c) (st1.set i (a5 (.loc,.lst xs))) c2 n)(h:xs.all qR=bD)
  (k:Run (execs Γ l) (c6 ((st.set i b5).set j b5)) f st2):Run (execs Γ (.Ip i j g es c::l)) st f st2:=by
 show eC (st1:=c6 ((st.set i b5).set j b5)) ?_ k;change uZ (Γ g) i j (a9 Γ es) (E8 Γ c) st=_;unfold uZ;have m:(a9 Γ es >>= λrs=>ay rs >>= λ_=>pure rs) st=a5 (.ok rs,st1):=aa a (aa (aP b) aJ);rw[m]
 dsimp only
 rw[d]
 dsimp only
 rw[show E8 Γ c (st1.set i (a5 (.loc,.lst xs)))=_ from e];show Wq h
def ng:G0 .seq [(k,.Fm ks us)]=a5 (ks.map λx=>(Kd.loc,U.str x)):=rfl
def nh(h:x∈ks):fN (k,.Fm ks (ks.map f)) (.str x)=a5 (kE k,f x):=by
 change(cC ks (ks.map f) x).map _=_;rw[wK h];rfl
def xc:cz .isin (.str x) (.Fm ks vs)=a5 (dV (x∈ks)):=rfl
theorem rY:∀ks:List (List Str),gX (ks.map λk=>U.lst (k.map .str))=a5 ks
 |[]=>rfl
 |k::ks=>by
  change(strsOf (k.map U.str)).bind _=_;rw[cX];change(gX (ks.map λk=>U.lst (k.map .str))).map _=_;rw[rY ks];rfl
def xf(h:kA ks=bD)(hl:ks.length<64):GZ .FV [(.loc,.lst (ks.map λk=>U.lst (k.map .str)))]=a5 (.own,.lst (ks.map λk=>U.lst (k.map .str))):=by
 change(gX _).bind _=_;rw[rY];show Wq ⟨rfl,h,hl⟩
abbrev D_:List S:=[.put 2 (.var 3) (.call "reached" [.var 1,.var 3])]
abbrev Ce:List S :=
   [.set 5 (.comp 1 c2 .seq [.bi .sorted [.idx (.var 2) (.var 3)]] [.cmp .isin (.var 4) (.idx (.var 3) (.var 0))] (.var 0)),
   .ite (.and [.cmp .ne (.var 5) (.lst []),.cmp .eq (.idx (.var 5) (.cst (.int 0))) (.var 3)])
    [.app 4 (.var 5)]
    []]
abbrev QB:Fn:=⟨"rings",1,6,[.set 1 (.call "words_told_of" [.var 0]),.set 2 (.Gp c2),.Fh c2 [3] .seq [.call "words_of" [.var 0]] D_,.set 4 (.lst []),.Fh c2 [3] .seq [.II (.var 2)] Ce,.ret (.var 4)]⟩
@[reducible]def bN(k:List Str):U:=.lst (k.map .str)
def zp{W:List Str}(h:Dc ws r D)(hl:ws.length<=24)(s:w∈W)(t:∀x,FN r w x->x∈W)(A:fd.length<=1000):
  ∃u,Run (execs Γ Ce) [o0,o1,a5 (.loc,.Fm W (W.map λk=>dy (D k))),a5 (.loc,.str w),a5 (.own,.lst (fd.map bN)),o5] .nx [o0,o1,a5 (.loc,.Fm W (W.map λk=>dy (D k))),a5 (.loc,.str w),a5 (.own,.lst ((if ft D w=bD then fd++[ring D w] else fd).map bN)),u]:=by
 have v:(10000:Nat)<=df:=by decide
 let c:Option (Kd×U):=a5 (.loc,.Fm W (W.map λk=>dy (D k)));let d:Option (Kd×U):=a5 (.loc,.str w);let f:Option (Kd×U):=a5 (.own,.lst (fd.map bN));let g:Option (Kd×U):=a5 (.own,.lst ((ring D w).map .str));have B:=(h.ks w).len;have hs:GZ .sorted [(.loc,dy (D w))]=a5 (.own,.lst ((aH (D w)).map .str)):=by
  change(if (D w).length<64 then a5 (Kd.own,U.lst ((aH (D w)).map .str)) else b5)=_;rw[Wq ⋯]
 have y:Run (ev Γ (.bi .sorted [.idx (.var 2) (.var 3)])) [o0,o1,c,d,f,o5] (.own,.lst ((aH (D w)).map .str)) [o0,o1,c,d,f,o5]:=cQ (af (aW (ab rfl) (ab rfl) trivial (nh s)) aq) trivial hs;have n:=jR (cond:=bb Γ [.cmp .isin (.var 4) (.idx (.var 3) (.var 0))]) (elt:=ev Γ (.var 0)) (src:=[(.own,.lst ((aH (D w)).map .str))]) (st:=[o0,o1,c,d,f,o5]) trivial .loc (.inl rfl) U.str U.str (λx=>dV (w∈D x)) .loc (aH (D w)) [] (by rw[cm];simp;lia)
  (λx n=>by
   have z:=(h.rc w x).mp ((bj _).mem_iff.mp n);show⟨de (aN (ab rfl) (aW (ab rfl) (ab rfl) trivial (nh (t x z))) trivial wa),λ_=>⟨ab rfl,aM⟩⟩)
 rw[o3]at n;have p:Run (ev Γ (.comp 1 c2 .seq [.bi .sorted [.idx (.var 2) (.var 3)]] [.cmp .isin (.var 4) (.idx (.var 3) (.var 0))] (.var 0))) [o0,o1,c,d,f,o5] (.own,.lst ((ring D w).map .str)) [o0,o1,c,d,f,o5] :=
  ic (rs:=[(.own,.lst ((aH (D w)).map .str))]) (af y aq) trivial (by change a5 _=_;rw[ro];rfl) n
 have m:Run (E8 Γ (.cmp .ne (.var 5) (.lst []))) [o0,o1,c,d,f,g] (!dV (ring D w=[])) [o0,o1,c,d,f,g]:=aN (aL rfl) (cK aq trivial aK (kj _)) ⟨⟨.own,rfl,rfl⟩,trivial⟩ (rT (b:=[]));cases i:ring D w with
 |nil =>
  have q:ft D w=c2:=by unfold ft;rw[i];rfl
  rw[i,Wt rfl]at m;rw[Ws (by rw[q];show i0)];show⟨g,aw p bt (aV (fC (mV m)) ar ar)⟩
 |cons a l =>
  rw[i,Wr (by simp)]at m;have o:Run (E8 Γ (.cmp .eq (.idx (.var 5) (.cst (.int 0))) (.var 3))) [o0,o1,c,d,f,g] (dV (a=w)) [o0,o1,c,d,f,g]:=aN (aW (aL rfl) ao ⟨⟨.own,rfl,rfl⟩,trivial⟩ (bT (show FR ((ring D w).map U.str) 0=a5 (.str a) by rw[i];show iQ (j:=0) rfl))) (ab rfl) trivial iV;have q:ft D w=dV (a=w):=by unfold ft;rw[i];simp
  rw[q];by_cases e:a=w
  .rw[Wt e]at o ⊢;rw[Wq rfl,<-i,show(fd++[ring D w]).map bN=fd.map bN++[bN (ring D w)] by simp];show⟨a5 (.loc,.lst ((ring D w).map .str)),aw p bt (cw (fC (fW m (de o))) (fD (k:=.own) (k':=.own) rfl (aL rfl) (zP rfl) rfl rfl (by rw[d3];lia) ar) ar)⟩
  .rw[Wr e]at o ⊢;rw[Ws i0];show⟨g,aw p bt (aV (fC (fW m (de o))) ar ar)⟩
def xg{S:U->Option (Kd×U)->av}{W:List Str}{E:Str->U}(b:W.Nodup)(hl:W.length<=900)(c:src=[(.own,.lst (W.map .str))])
  (f:∀u o x,(S u o).set i x=S u x)
  (g:∀(d:List Str) (w:Str),w∈W->w∉d->d.length<=900->Run (execs Γ body) (S (.EX d (d.map E)) (a5 (.loc,.str w))) .nx (S (.EX (d++[w]) ((d++[w]).map E)) (a5 (.loc,.str w)))) (o:Option (Kd×U)) :
  ∃o',Run (forM c2 [i] (execs Γ body) src (W.map λx=>(Kd.loc,U.str x))) (S (.EX [] []) o) .nx (S (.EX W (W.map E)) o'):=by
 subst c;obtain⟨st',h,_,o',e⟩:=bV (rs:=[(.own,.lst (W.map .str))]) (t:=c2) (is:=[i]) (body:=execs Γ body) (λx:Str=>(Kd.loc,U.str x)) (λd r st=>d++r=W/\∃o',st=S (.EX d (d.map E)) o') (λ_ _ _ _=>trivial) (λd y r st j=>by
  have⟨a,o',e⟩:=j;subst e;have k:y∈W:=by rw[<-a];simp
  have l:y∉d:=λz=>by
   rw[<-a]at b;show(wk.mp b).2.2 y z y kl rfl
  have m:d.length<=900:=by have:=Wv D' a;simp at this;lia
  show⟨_,_,dg aA,by rw[f];show g d y k l m,by rw[<-a];simp,_,rfl⟩) W [] (S (.EX [] []) o) ⟨rfl,o,rfl⟩
 subst e;show⟨o',h⟩
abbrev Cg(Γ:Tab):Prop:=∀(ws:List Str) (rs:List Row),Bq ws rs->∃D,Dc ws (bQ rs) D/\Γ "rings" [.tup (rs.map EU)]=a5 (.ok (.own,.lst ((GJ D (ax rs)).map bN)))
def oK(h:FN (bQ rs) w x):x∈ax rs:=by
 have⟨c,a⟩:=h.last;obtain⟨r,b,_,d⟩:=gM.mp a;show jT.mpr (d7.mpr ⟨r,b,.inr d⟩)
def ET(h:FX Pg "rings" QB)(C:w9 (E7 Pg d))(G:∀rs:List Row,(∀r∈rs,r.2.length<=8)->rs.length<=100->wZ (E7 Pg d) "words_told_of" rs (bQ rs))
  (H:∀ws rs,Bq ws rs->E7 Pg d "words_of" [.tup (rs.map EU)]=a5 (.ok (.own,.lst ((ax rs).map .str)))):Cg (E7 Pg (d+1)):=λws rs a=>by
 have I:(10000:Nat)<=df:=by decide
 have s:=a.wl;have rl:=a.rl;have v:∀r∈rs,r.2.length<=8:=λr b=>(a.ok r b).ok.Mi;have Jd:(ax rs).length<=ws.length:=jU λr b=>(a.ok r b).ok;have⟨ks,hk,J⟩:=G rs v ⋯;have L:∀p∈bQ rs,p.2∈ws:=λp N=>by
  obtain⟨r,b,_,j⟩:=gM.mp (show(p.1,p.2)∈bQ rs from N);show(a.ok r b).ok.told _ j
 have Gq:=gN v;have z:=λw=>C ws ks (bQ rs) w s ⋯ L hk;let D:Str->List Str:=λw=>Tj (z w);have l:=λw=>QN (z w);have m:Dc ws (bQ rs) D:=⟨λw=>(l w).2.1,λw=>(l w).2.2⟩
 show⟨D,m,(bJ h _).trans ?_⟩;have O:start [.tup (rs.map EU)] 6=[a5 (.loc,.tup (rs.map EU)),b5,b5,b5,b5,b5]:=Wv (λx:Option (Kd×U)=>[x,b5,b5,b5,b5,b5]) (di rs);let f:Option (Kd×U):=a5 (.loc,.tup (rs.map EU));let g:Option (Kd×U):=a5 (.own,cB ks (bQ rs));have⟨c,Q⟩:=xg (Γ:=E7 Pg d) (S:=λu o=>[f,g,a5 (.own,u),o,b5,b5]) (body:=D_) (W:=ax rs) (E:=λk=>dy (D k)) (i:=3) (src:=[(.own,.lst ((ax rs).map .str))]) (d8 rs) ⋯ rfl (λ_ _ _=>rfl) (λe w hw T hl=>by
  have:=rR (ks:=e) (us:=e.map λk=>dy (D k)) (x:=w) (u:=dy (D w)) ⋯ T;rw[show(e.map λk=>dy (D k))++[dy (D w)]=(e++[w]).map λk=>dy (D k) by simp]at this;show gI (k:=.own) (k':=.own) (cR (af (aL rfl) (af (ab rfl) aq)) ⟨⟨.own,rfl,rfl⟩,trivial⟩ (l w).1) rfl (ab rfl) (aB om (aB aM aK)) rfl rfl this ar) b5
 let A:Option (Kd×U):=a5 (.loc,.Fm (ax rs) ((ax rs).map λk=>dy (D k)));obtain⟨st',B,_,Up,o5,e⟩:=bV (rs:=[(.loc,.Fm (ax rs) ((ax rs).map λk=>dy (D k)))]) (t:=c2) (is:=[3]) (body:=execs (E7 Pg d) Ce) (λx:Str=>(Kd.loc,U.str x)) (λe r st=>e++r=ax rs/\∃c o5,st=[f,g,A,c,a5 (.own,.lst ((GJ D e).map bN)),o5]) (λ_ _ _ _=>trivial) (λe y r st Y=>by
  have⟨n,c,o5,es⟩:=Y;subst es;have hy:y∈ax rs:=by rw[<-n];simp
  have Mn:e.length<=24:=by have:=Wv D' n;simp at this;lia
  have Jv:=m_ m e;have⟨G7,q⟩:=zp (Γ:=E7 Pg d) (W:=ax rs) (w:=y) (o0:=f) (o1:=g) (o5:=o5) (fd:=GJ D e) m s hy (λx j=>oK j) ⋯;rw[<-oJ]at q;show⟨_,_,dg aA,q,by rw[<-n];simp,_,_,rfl⟩) (ax rs) [] [f,g,A,c,a5 (.own,.lst []),b5] ⟨rfl,c,b5,rfl⟩
 subst e;rw[o3]at B;have e1:((ax rs).map U.str).map (λu=>(kE .own,u))=(ax rs).map λx=>(Kd.loc,U.str x):=by rw[ro];rfl
 show cy rfl (.inl rfl) O (aw (cR (af (ab rfl) aq) trivial J) bt (aw (r:=(.own,.EX [] [])) jN bt (cL (rs:=[(.own,.lst ((ax rs).map .str))]) (af (cR (af (ab rfl) aq) trivial (H ws rs a)) aq) trivial (by change a5 _=_;rw[e1]) rfl Q
  (aw (r:=(.own,.lst [])) (cK aq trivial aK (kj _)) bt (cL (rs:=[(.loc,.Fm (ax rs) ((ax rs).map λk=>dy (D k)))]) (af (xb rfl) aq) trivial ng rfl B (cA (aL rfl) (iE rfl)))))))
end
section
def zq:pE (.any,.HS (ns.map .int)) lo a=a5 (.own,.lst ((cut ns lo a).map .int)):=by
 change(if bK (ns.map U.int)=bD then a5 (Kd.own,U.lst (cut (ns.map U.int) lo a)) else b5)=_;rw[Wq (fh ns),yV]
abbrev QC:List S:=[.put 4 (.var 5) (.II (.call "_law_beneath" [.var 3,.var 5]))]
abbrev O4:List S :=
   [.ite (.cmp .isin (.var 5) (.idx (.var 4) (.var 5)))
    [.set 7 (.bi .sorted [.comp 1 c2 .seq [.idx (.var 4) (.var 5)] [.cmp .isin (.var 6) (.idx (.var 5) (.var 0))] (.var 0)]),
    .ite (.cmp .Fg (.var 7) (.var 6))
     [.app 6 (.var 7)]
     []]
    []]
abbrev O5:List S:=[.Ip 9 7 "rings" [.var 3] (.not (.call "_law_same" [.var 9,.bi .FV [.var 6]]))]
abbrev qr:Fn:=⟨"law",1,10,[.set 1 (.Jo .GV [.IH (.var 0) [] [.cst (.int 200)]]),.set 2 (.EW "_law_source" [.var 1,.cst (.int 1)] [0]),.set 3 (.EW "_law_widened" [.var 2,.EW "_law_book" [.var 1,.var 2,.EW "_law_words" [.var 2] [0]] [0,1]] [0]),.set 4 (.Gp c2),.Fh c2 [5] .seq [.call "_law_all" [.var 3]] QC,.set 6 (.lst []),.Fh c2 [5] .seq [.II (.var 4)] O4,.shr 6,.Fh c2 [8] .FK [.cst (.int 2)] O5,.ret (.cst (.bl bD))]⟩
abbrev f9(ks:List Str):U:=.Fm ks (ks.map λ_=>.bl bD)
theorem oM(n:Nat):∀ks:List (List Str),gx (n+1) (ks.map bN)=bD
 |[]=>by simp[gx]
 |k::ks=>by rw[gj,gx,oM n ks,d6 k n];rfl
def oN(a b:List Str):bE (bN a) (bN b)=dV (a=b):=by
 change cp (a.map U.str) (b.map U.str)=_;show fX a b
def qt{ks:List (List Str)}:cz .Fg (bN k) (.lst (ks.map bN))=a5 (!dV (k∈ks)):=by
 change(IK (bN k) (ks.map bN)).map _=_;unfold IK;rw[Wq ⟨d6 k 49,oM 49 ks⟩];change a5 (!(ks.map bN).any λy=>bE y (bN k))=_;congr 2
 rw[List.any_map];rw[KP,PB,Wo];constructor
 .rintro⟨x,a,e⟩;have e:bE (bN x) (bN k)=bD:=e;rw[oN]at e;show(Wu e)▸a
 .intro h;show⟨k,h,by change bE (bN k) (bN k)=bD;rw[oN];show Wt rfl⟩
def Ci{W d r:List Str}(h:Dc ws t D)(h':Dc ws t c)(hl:ws.length<=24)(o:W=d++w::r)(C:W.Pairwise (λa b=>F5 a b=bD))(G:W.Nodup)(v:∀x,FN t w x->x∈W)(O:d.length<=100)
  (o0 o1 e f o8 o9:Option (Kd×U)) :
  ∃H,Run (execs Γ O4) [o0,o1,e,f,a5 (.loc,.Fm W (W.map λk=>f9 (D k))),a5 (.loc,.str w),a5 (.own,.lst ((GJ c d).map bN)),o7,o8,o9] .nx [o0,o1,e,f,a5 (.loc,.Fm W (W.map λk=>f9 (D k))),a5 (.loc,.str w),a5 (.own,.lst ((GJ c (d++[w])).map bN)),H,o8,o9]:=by
 have I:(10000:Nat)<=df:=by decide
 have J:w∈W:=by rw[o];simp
 have Q:=(h.ks w).len;have T:=m_ h' d;let i:Option (Kd×U):=a5 (.loc,.Fm W (W.map λk=>f9 (D k)));let j:Option (Kd×U):=a5 (.loc,.str w);let l:Option (Kd×U):=a5 (.own,.lst ((GJ c d).map bN));have g:∀o7,Run (ev Γ (.idx (.var 4) (.var 5))) [o0,o1,e,f,i,j,l,o7,o8,o9] (.loc,f9 (D w)) [o0,o1,e,f,i,j,l,o7,o8,o9]:=λo7=>aW (ab rfl) (ab rfl) trivial (nh J);have n:Run (E8 Γ (.cmp .isin (.var 5) (.idx (.var 4) (.var 5)))) [o0,o1,e,f,i,j,l,o7,o8,o9] (dV (w∈D w)) [o0,o1,e,f,i,j,l,o7,o8,o9]:=aN (ab rfl) (g o7) trivial xc;rw[oJ];by_cases p:FN t w w
 .rw[Wt ((h.rc w w).mpr p)]at n;have q:=jR (cond:=bb Γ [.cmp .isin (.var 6) (.idx (.var 5) (.var 0))]) (elt:=ev Γ (.var 0)) (src:=[(.loc,f9 (D w))]) (st:=[o0,o1,e,f,i,j,l,o7,o8,o9]) trivial .loc (.inl rfl) U.str U.str (λx=>dV (w∈D x)) .loc (D w) [] (by simp;lia)
   (λx q=>⟨de (aN (ab rfl) (aW (ab rfl) (ab rfl) trivial (nh (v x ((h.rc w x).mp q)))) trivial xc),λ_=>⟨ab rfl,aM⟩⟩)
  rw[o3]at q;have L:aH ((D w).filter λx=>dV (w∈D x))=ring c w:=zl h' ((h.ks w).1.sublist LR) λx=>by rw[F3,Wo,h.rc,h.rc]
  have Y:((D w).filter λx=>dV (w∈D x)).length<=(D w).length:=Nu _ _;have hs:GZ .sorted [(.own,.lst (((D w).filter λx=>dV (w∈D x)).map .str))]=a5 (.own,bN (ring c w)):=by
   rw[<-L];change(strsOf _).bind _=_;rw[cX];show Wq ⋯
  have A:Run (ev Γ (.bi .sorted [.comp 1 c2 .seq [.idx (.var 4) (.var 5)] [.cmp .isin (.var 6) (.idx (.var 5) (.var 0))] (.var 0)])) [o0,o1,e,f,i,j,l,o7,o8,o9] (.own,bN (ring c w)) [o0,o1,e,f,i,j,l,o7,o8,o9] :=
   cQ (af (ic (rs:=[(.loc,f9 (D w))]) (af (g o7) aq) trivial ng q) aq) trivial hs
  let u:Option (Kd×U):=a5 (.own,bN (ring c w));have s:Run (E8 Γ (.cmp .Fg (.var 7) (.var 6))) [o0,o1,e,f,i,j,l,u,o8,o9] (!dV (ring c w∈GJ c d)) [o0,o1,e,f,i,j,l,u,o8,o9]:=aN (aL rfl) (aL rfl) ⟨⟨.own,rfl,rfl⟩,⟨.own,rfl,rfl⟩,trivial⟩ qt;have B:=zm h' (w:=w) (d:=d) (r:=r) (by rw[<-o];show C) (by rw[<-o];show G) (λy N=>by rw[<-o];show v y N) p;by_cases m:ft c w=bD
  .rw[Wq m,show(GJ c d++[ring c w]).map bN=(GJ c d).map bN++[bN (ring c w)] by simp];rw[Wr (λz=>by rw[B.mp z]at m;cases m)]at s;show⟨a5 (.loc,bN (ring c w)),cw n (aw A bt (cw s (fD (k:=.own) (k':=.own) rfl (aL rfl) (zP rfl) rfl rfl (by rw[d3];lia) ar) ar)) ar⟩
  .rw[Ws m];rw[Wt (B.mpr (by simpa using m))]at s;show⟨u,cw n (aw A bt (aV s ar ar)) ar⟩
 .rw[Wr λz=>p ((h.rc w w).mp z)]at n;have m:ft c w=c2:=by unfold ft;rw[w_ h' p];rfl
  rw[Ws (by rw[m];show i0)];show⟨o7,aV n ar ar⟩
def tW(hS:gL Γ)(TJ:m8 Γ)(hB:jZ Γ)(hV:wR Γ)(TK:D6 Γ)(O6:∀ws rs,Bq ws rs->Γ "_law_all" [.tup (rs.map EU)]=a5 (.ok (.own,.lst ((ax rs).map .str))))(TL:Cg Γ)
  (TN:∀ks:List (List Str),ks.length<=1000->(∀k∈ks,k.length<=1000)->fH Γ (.lst (ks.map bN))) {ns:List Int} (J:ns.length<=63):fQ Γ qr [.HS (ns.map .int)]=a5 (.ok (.loc,.bl bD)):=by
 have ac:(10000:Nat)<=df:=by decide
 have L:pF .GV [(.own,.lst ((cut ns b5 (a5 200)).map .int))]=a5 (.own,.lst ((cut ns b5 (a5 200)).reverse.map .int)):=by
  change(if dZ .own ((cut ns b5 (a5 200)).map U.int)=bD then a5 (Kd.own,U.lst ((cut ns b5 (a5 200)).map U.int).reverse) else b5)=_;rw[Wq (show dZ .own ((cut ns b5 (a5 200)).map U.int)=bD from rfl),List.map_reverse]
 have v:(cut ns b5 (a5 200)).reverse.length<=63:=by rw[Ol];have:=yW ns b5 (a5 200);lia
 generalize (cut ns b5 (a5 200)).reverse=TQ at L v;let o0:Option (Kd×U):=a5 (.any,.HS (ns.map .int));have⟨TR,u2,q2,l2,s2⟩:=wW (Γ:=Γ) hS (ns:=TQ) (rest:=[b5,b5,b5,b5,b5,b5,b5,b5]) (o0:=o0) (k:=1);have⟨ws,rs,TU,u3,q3,N,EZ,rl⟩:=oI (Γ:=Γ) TJ hB hV (ns:=TR) (u:=u2) (rest:=[b5,b5,b5,b5,b5,b5,b5]) (o0:=o0) ⋯ s2;have A:Bq ws rs:=⟨N,rl,EZ⟩
 have Jd:(ax rs).length<=ws.length:=jU λr hr=>(A.ok r hr).ok;have O:=λw=>TK ws rs w A;let D:Str->List Str:=λw=>Tj (O w);have C:=λw=>QN (O w);have dc:Dc ws (bQ rs) D:=⟨λw=>(C w).2.1,λw=>(C w).2.2⟩
 have⟨Q,G,eR⟩:=TL ws rs A;let p:Option (Kd×U):=a5 (.own,.lst (TU.map .int));let s:Option (Kd×U):=a5 (.own,u3);let f:Option (Kd×U):=a5 (.loc,.tup (rs.map EU));have⟨o5,J9⟩:=xg (Γ:=Γ) (S:=λu o=>[o0,p,s,f,a5 (.own,u),o,b5,b5,b5,b5]) (body:=QC) (W:=ax rs) (E:=λk=>f9 (D k)) (i:=5) (src:=[(.own,.lst ((ax rs).map .str))]) (d8 rs) ⋯ rfl (λ_ _ _=>rfl) (λe w hw J hl=>by
  have:=rR (ks:=e) (us:=e.map λk=>f9 (D k)) (x:=w) (u:=f9 (D w)) ⋯ J;rw[show(e.map λk=>f9 (D k))++[f9 (D w)]=(e++[w]).map λk=>f9 (D k) by simp]at this;show gI (k:=.own) (k':=.own) (Cd (cR (af (ab rfl) (af (ab rfl) aq)) trivial (C w).1)) rfl (ab rfl) (aB aM (aB aM aK)) rfl rfl this ar) b5
 let g:Option (Kd×U):=a5 (.loc,.Fm (ax rs) ((ax rs).map λk=>f9 (D k)));have T:(ax rs).Pairwise (λa b=>F5 a b=bD):=dF _;have Y:=d8 rs;obtain⟨st',hf,_,B,o7,e⟩:=bV (rs:=[(.loc,.Fm (ax rs) ((ax rs).map λk=>f9 (D k)))]) (t:=c2) (is:=[5]) (body:=execs Γ O4) (λx:Str=>(Kd.loc,U.str x)) (λe r st=>e++r=ax rs/\∃o5 o7,st=[o0,p,s,f,g,o5,a5 (.own,.lst ((GJ Q e).map bN)),o7,b5,b5]) (λ_ _ _ _=>trivial) (λe y r st Fi=>by
  have⟨H,o5,o7,es⟩:=Fi;subst es;have Mn:e.length<=24:=by have:=Wv D' H;simp at this;lia
  have⟨HA,q⟩:=Ci (Γ:=Γ) (W:=ax rs) (d:=e) (r:=r) (w:=y) (o7:=o7) dc G N H.symm T Y (λx hx=>oK hx) ⋯ o0 p s f b5 b5;show⟨_,_,dg aA,q,by rw[<-H];simp,_,_,rfl⟩) (ax rs) [] [o0,p,s,f,g,o5,a5 (.own,.lst []),b5,b5,b5] ⟨rfl,o5,b5,rfl⟩
 subst e;rw[o3]at hf;have Jv:=m_ G (ax rs);let us:List U:=(GJ Q (ax rs)).map bN;have LY:GZ .FV [(.loc,.lst us)]=a5 (.own,.lst us):=xf (zo T Y) ⋯;have LZ:fH Γ (.lst us):=TN _ ⋯ λk hk=>by
  obtain⟨w,_,rfl⟩:=l0.mp hk;have:=xa G (w:=w);lia
 have TV:us.all qR=bD:=lg.mpr λu hu=>by obtain⟨k,_,rfl⟩:=l0.mp hu;rfl
 have tc:∀(h p2 j n l:Option (Kd×U)),Run (E8 Γ (.not (.call "_law_same" [.var 9,.bi .FV [.var 6]]))) [o0,h,p2,f,g,j,a5 (.loc,.lst us),n,l,a5 (.loc,.lst us)] c2 [o0,h,p2,f,g,j,a5 (.loc,.lst us),n,l,a5 (.loc,.lst us)]:=λh p2 j n l =>
  zK (c:=bD) (BY (af (ab rfl) (af (cQ (af (ab rfl) aq) trivial LY) aq)) trivial LZ rfl)
 have m:∀(h p2 j n l:Option (Kd×U)),Run (execs Γ O5) [o0,h,p2,f,g,j,a5 (.loc,.lst us),n,l,b5] .nx (c6 [o0,h,p2,f,g,j,a5 (.loc,.lst us),b5,l,b5]):=λh p2 j n l =>
  D9 (rs:=[(.loc,.tup (rs.map EU))]) (af (ab rfl) aq) trivial eR (tc h p2 j n l) TV ar
 have e1:((ax rs).map U.str).map (λu=>(kE .own,u))=(ax rs).map λx=>(Kd.loc,U.str x):=by rw[ro];rfl
 let I:Option (Kd×U)->Option (Kd×U):=λo=>match o with
  |some (.loc,u)=>a5 (.loc,u)
  |some (.any,u)=>a5 (.any,u)
  |_=>b5
 have O8:Run (forM c2 [8] (execs Γ O5) [(.loc,.int 2)] [(.loc,.int 0),(.loc,.int 1)]) [o0,p,s,f,g,B,a5 (.loc,.lst us),o7,b5,b5] .nx [o0,b5,b5,f,g,I (I B),a5 (.loc,.lst us),b5,a5 (.loc,.int 1),b5] :=
  yR trivial (dg aA) (m p s B o7 (a5 (.loc,.int 0))) (yR trivial (dg aA) (m b5 b5 (I B) b5 (a5 (.loc,.int 1))) (vX trivial))
 show cy (st0:=[o0,b5,b5,b5,b5,b5,b5,b5,b5,b5]) rfl (.inr rfl) rfl (aw (zJ (af (oj (aS rfl) rK (lx ao) trivial zq) aq) trivial L) bt (aw q2 bt (aw q3 aA
  (aw (r:=(.own,.EX [] [])) jN bt (cL (rs:=[(.own,.lst ((ax rs).map .str))]) (af (cR (af (ab rfl) aq) trivial (O6 ws rs A)) aq) trivial (by change a5 _=_;rw[e1]) rfl J9
   (aw (r:=(.own,.lst [])) (cK aq trivial aK (kj _)) bt (cL (rs:=[(.loc,.Fm (ax rs) ((ax rs).map λk=>f9 (D k)))]) (af (xb rfl) aq) trivial ng rfl hf
    (D8 rfl (cL (rs:=[(.loc,.int 2)]) (af ao aq) trivial (yS (z:=2) ⋯ ⋯) rfl O8 (cA ao gG))))))))))
end
end TM
namespace K
open PySem L2 TM
abbrev top(i:Nat):HM:=PySem.Challenge.pw_primer_k32_rings.main.body.getD i (.Pass ⟨0,0,0,0⟩)
noncomputable abbrev j5:Fn:=TM.qg
noncomputable abbrev j6:Fn:=TM.wY
noncomputable abbrev j7:Fn:=TM.zh
noncomputable abbrev eh:Fn:=TM.rU
noncomputable abbrev lK:Fn:=TM.D1
noncomputable abbrev rZ:Fn:=TM.QB
noncomputable abbrev gO:Fn:=TM.wb
noncomputable abbrev j8:Fn:=TM.rS
noncomputable abbrev iF:Fn:=TM.jX
noncomputable abbrev lL:Fn:=TM.B5
noncomputable abbrev lM:Fn:=TM.y8
noncomputable abbrev j9:Fn:=TM.m7
noncomputable abbrev lN:Fn:=TM.zc
noncomputable abbrev j_:Fn:=TM.jY
noncomputable abbrev fF:Fn:=TM.QA
noncomputable abbrev fG:Fn:=TM.zd
noncomputable abbrev zW:Fn:=TM.qr
abbrev prog:List Fn:=[j5,j6,j7,eh,lK,rZ,gO,j8,iF,lL,lM,j9,lN,j_,fF,fG,zW]
abbrev ck:Ck:=⟨(prog.filter λf=>f.io.isNone).map (·.name),[],prog.filterMap λf=>f.io.map λp=>(f.name,p.1)⟩
def pure(ns:List Int)(g:ns.length<=63):E7 prog 5 "law" [qa ns]=a5 (.ok (.loc,.bl bD)):=by
 have e:FX prog "_law_draw" rS:=rfl;have hs:FX prog "_law_source" wb:=rfl;have f:FX prog "_law_same" jY:=rfl;have h:FX prog "gathered" wY:=rfl;have i:FX prog "pairs_of" zh:=rfl;have j:FX prog "words_of" qg:=rfl;have b:w9 (E7 prog 3):=D4 (Pg:=prog) (d:=2) rfl;have l:bc (E7 prog 2):=wj e;have c:bc (E7 prog 3):=wj e;have hl:FX prog "law" qr:=rfl;rw[show E7 prog 5 "law" [qa ns]=_ from bJ hl [qa ns]];have R:Cg (E7 prog 4):=ET (Pg:=prog) (d:=3) rfl b (λrs m hl=>B_ h i rfl m hl) λws rs a=>(bJ j _).trans (mY (by have:=a.rl;lia) (λr b=>(a.ok r b).ok) (by have:=a.wl;lia));show tW (wz hs) (za c rfl) (wV (wz hs) c (DR l rfl) (DT rfl) rfl) (DV c (B8 rfl) rfl) (ES rfl) (λws rs a=>all2 (Pg:=prog) rfl a) R (λks hl hk=>zV (Pg:=prog) (d:=3) f (by rw[d3];show hl) λu n=>by
  have⟨k,o,rfl⟩:=l0.mp n;show B9 f (hk k o)) g
end K
namespace K
open PySem L2 TM PySem.W PyProof.Rows
abbrev m0:ei:=.str "primer.books" 187
abbrev m1:ei:=.str "primer.leaning" 208
abbrev m2:ei:=.str "law_primer_k32_rings" 240
abbrev ml:Me:=⟨zW,19,["_law_script","_law_left","_law_source_here","_law_book_here","_law_beneath_here","_law_word","_law_due","_law_ring","_law_turn","_law_found"],121,120,m2,co "law" 340 150 1 117 118 .none .none (.ref 119) 343 344 181⟩
abbrev ms:List Me:=[⟨j5,1,["book","words","row"],21,20,m0,co "words_of" 189 2 1 15 16 (.ref 17) (.ref 18) (.ref 19) 195 196 181⟩,
 ⟨j6,2,["pairs","found","key","value"],28,27,m0,co "gathered" 198 8 1 22 23 (.ref 24) (.ref 25) (.ref 26) 205 206 181⟩,
 ⟨j7,4,["book","pairs","row"],33,32,m1,co "pairs_of" 210 16 1 29 30 .none .none (.ref 31) 213 214 181⟩,
 ⟨eh,5,["book"],40,39,m1,co "words_told_of" 216 21 1 34 35 (.ref 36) (.ref 37) (.ref 38) 220 221 181⟩,
 ⟨lK,6,["links","word","found","waiting","each"],47,46,m1,co "reached" 223 23 2 41 42 (.ref 43) (.ref 44) (.ref 45) 231 232 181⟩,
 ⟨rZ,7,["book","links","below","word","found","ring"],52,51,m1,co "rings" 234 32 1 48 49 .none .none (.ref 50) 237 238 181⟩,
 ⟨gO,9,["_law_left","_law_k","_law_cell"],59,58,m2,co "_law_source" 242 44 2 53 54 (.ref 55) (.ref 56) (.ref 57) 248 249 181⟩,
 ⟨j8,10,["_law_source_here","_law_many","_law_number","_law_turn","_law_mixed"],66,65,m2,co "_law_draw" 251 49 2 60 61 (.ref 62) (.ref 63) (.ref 64) 259 260 181⟩,
 ⟨iF,11,["_law_source_here","_law_letters","_law_many","_law_base","_law_way","_law_size","_law_first","_law_words_here","_law_k","_law_word","_law_sense"],71,70,m2,co "_law_words" 262 58 1 67 68 .none .none (.ref 69) 265 266 181⟩,
 ⟨lL,12,["_law_source_here","_law_words_here","_law_at","_law_below","_law_told","_law_k","_law_one"],78,77,m2,co "_law_row" 268 79 4 72 73 (.ref 74) (.ref 75) (.ref 76) 278 279 181⟩,
 ⟨lM,13,["_law_rows","_law_row_here","_law_other"],85,84,m2,co "_law_lay" 281 88 2 79 80 (.ref 81) (.ref 82) (.ref 83) 287 288 181⟩,
 ⟨j9,14,["_law_left","_law_source_here","_law_words_here","_law_rows","_law_way","_law_k","_law_at","_law_more"],92,91,m2,co "_law_book" 290 93 3 86 87 (.ref 88) (.ref 89) (.ref 90) 301 302 181⟩,
 ⟨lN,15,["_law_book_here","_law_met","_law_word","_law_told","_law_one"],99,98,m2,co "_law_all" 304 105 1 93 94 (.ref 95) (.ref 96) (.ref 97) 312 313 181⟩,
 ⟨j_,16,["_law_found","_law_due"],104,103,m2,co "_law_same" 315 112 2 100 101 .none .none (.ref 102) 318 319 181⟩,
 ⟨fF,17,["_law_book_here","_law_word","_law_met","_law_grew","_law_head","_law_told","_law_one"],111,110,m2,co "_law_beneath" 321 126 2 105 106 (.ref 107) (.ref 108) (.ref 109) 331 332 181⟩,
 ⟨fG,18,["_law_source_here","_law_book_here","_law_share","_law_heads","_law_pool","_law_more","_law_k","_law_word"],116,115,m2,co "_law_widened" 334 138 2 112 113 .none .none (.ref 114) 337 338 181⟩,
 ml]
abbrev gg(P:Ux):Obj:=⟨.type "dict",b5,.dict #[ge P "__name__" 165 (.str "law_primer_k32_rings" 240),ge P "__doc__" 166 .none,ge P "__package__" 167 .none,ge P "__loader__" 168 (.builtin "__main__.__loader__#opaque"),ge P "__spec__" 169 .none,ge P "__annotations__" 170 (.ref 6),ge P "__builtins__" 171 (.ref 4),ge P "__file__" 173 (.str "/claim/cut.py" 172),ge P "__cached__" 174 .none,ge P "words_of" 197 (.ref 21),ge P "gathered" 207 (.ref 28),ge P "pairs_of" 215 (.ref 33),ge P "words_told_of" 222 (.ref 40),ge P "reached" 233 (.ref 47),ge P "rings" 239 (.ref 52),ge P "_law_source" 250 (.ref 59),ge P "_law_draw" 261 (.ref 66),ge P "_law_words" 267 (.ref 71),ge P "_law_row" 280 (.ref 78),ge P "_law_lay" 289 (.ref 85),ge P "_law_book" 303 (.ref 92),ge P "_law_all" 314 (.ref 99),ge P "_law_same" 320 (.ref 104),ge P "_law_beneath" 333 (.ref 111),ge P "_law_widened" 339 (.ref 116),ge P "law" 345 (.ref 121)] 26,#[]⟩
abbrev vw:vr:=view PySem.Challenge.pw_primer_k32_rings [1,2,4,5,6,7,9,10,11,12,13,14,15,16,17,18,19]
abbrev hk:Hook:=kHook (λP=>Hf top (gg P) ms) (adr ms) λP=>rJ top (gg P) ms
abbrev lo:List Str:=[]
noncomputable abbrev xt(s:hH):Bool:=xlAt vw [] s&&recOk (RowW.records PySem.Challenge.rw_primer_k32_rings.row.toRowW) s
noncomputable abbrev oe(w:x8):Option hH:=openEnds treeTable PySem.Challenge.rw_primer_k32_rings.row.prog w 4000
noncomputable abbrev os(s:hH):=openSeen vw lo (importedModules PySem.Challenge.rw_primer_k32_rings.row.prog.main.body) xt bD s
def Ht(w:x8):(oe w).map (λs=>(os s).1)=a5 (openGood vw lo).1:=by kernel_rfl
def Hu(w:x8):(oe w).map (λs=>(os s).2)=a5 (openGood vw lo).2:=by kernel_rfl
def Jr(w:x8):(oe w).map hk.obs=a5 (hk.val w):=by kernel_rfl
def hl:LeftO PySem.Challenge.rw_primer_k32_rings.row.prog vw lo xt hk.obs hk.val 4000:=λw=>by
 have⟨s,e,a⟩:=fx.mp (Ht w);have b:=Hu w;have c:=Jr w;rw[e]at b c;change(oe w).map _=_;rw[e];show Wv a5 (Prod.ext (Prod.ext a (ra b)) (ra c))
def hs:PySem.Challenge.rw_primer_k32_rings.wellSaid=bD:=by kernel_rfl
def ho(P:Ux):Ju ck top (Hf top (gg P) ms) ms=bD:=by kernel_rfl
end K
open PySem PySem.W PyProof.Rows K
theorem PySem.Challenge.cw_primer_k32_rings_holds : PySem.Challenge.rw_primer_k32_rings.Holds := by
 w_on
 refine holds_law hs λz => ?_;refine holds_open hl hk.of hk.keeps (λs e => xl_of s (vl.mp e).1) XL.keeps rfl rfl rfl (λs e => recFacts_of (vl.mp e).2) rfl z (by kernel_rfl) ⟨rfl, rfl, rfl, rfl, rfl, by decide +kernel⟩ ?hw ?a
 (case hw => w_witness2)
 exact TM.walk2 (l := PySem.Challenge.rw_primer_k32_rings) (Pg := prog) (ck := ck) (dp := 4) (x := "_law_script") (m := ml) rfl rfl ⟨rfl, by decide, by decide, rfl⟩ rfl (by decide +kernel) (by decide +kernel) rfl (List.mem_iff_getElem?.mpr ⟨16, rfl⟩) rfl rfl ho K.pure
