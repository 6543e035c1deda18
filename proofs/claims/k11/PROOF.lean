import PyProof.Rows.All
import Wide.All
import OpenK.AllK
import Wide.FinOn
import Lean
import PyProof.EqAt
import PyProof.EqKinds
import PyProof.TupleCall
import PyProof.StrLawsChain
import PyProof.StrLawsFirst
import PyProof.Rows.StrNews2
import OpenK.AllK
import PyProof.DictItems
import OpenK.AllK
import PyProof.ReprBulk
import PySem.Challenge.RW_primer_k11_rounds
set_option Elab.async false
set_option linter.all false
set_option bootstrap.genMatcherCode false
set_option maxRecDepth 100000
set_option maxHeartbeats 4000000
set_option genInjectivity false
set_option genSizeOf false
set_option autoImplicit true
set_option relaxedAutoImplicit true
open Option renaming some->a5,none->b6,map_eq_some_iff->f6,bind_eq_some_iff->rr,isSome_map->Nu,isSome_iff_exists->Ny,map_eq_none_iff->Of,getD_some->RB,map_some->Sx,isNone_iff_eq_none->Tf,isSome_some->Ue,getD_none->UG
open PySem renaming wpAny_bind->bD,wpAny_pure->cb,sizeLine->dV,Value->eH,wpAny->fx,Shared->hH,Addr->hQ,model->ke,starEach->mu,Expr->pk,wpAny_newObj_type->pw,wpAny_mono->wk,wpAny_call_entry->w6,wpAny_holding->DD,rawInt->DF,Program->DW,mainGlobals->D',cLine->Eg,World->Fi,sysModules->Fv,wpAny_callSpecial?_slot->FH,wpAny_setState_of->FY,eval->F',wpAny_truthy_bool->G9,backTo->G_,Heap->Hb,NameKind->HB,scanBound->HH,Stmt->HK,wpAny_Call_Name_kw->HR,codeAny_builtin->Iw,cellsFrom->Iy,wpAny_field->ID,foldedSetIterable->IF,bootBuiltins->IU,Scope->IW,holding->Js,wpAny_setField->Ju,wpAny_passesOwn->JZ,compareOp->J9,Around->Ke,wpAny_rule->K1,wpAny_isInstance->K9,binaryOp->Ln,wpAny_specialOf->Lw,Keyword->Lx,Builtin->LB,wpAny_pyIter_tuple->LJ,tupleKind_room_in1->LK,assignEach->LO,wpAny_getItem_str_slice->LQ,swapsWith->LR,keywordEach->LS,wpAny_typeOf->Mq,tupleKeyHash->Mr,getItem->My,call->MD,swapsWithSole->M1,behindInMarks->M3,sliceBounds->Ng,pushCells->N1,wpAny_seqItems->N',assign->Oa,SetTable->Ob,codeAny->OU,attributeBase->O0,wpAny_forIn_list->O6,backToKw->O7,FuncData->O9,typeIs_str->O',setItem->Pa,relabel->Pl,pyNext->Pn,codeAny_mono->Po,callerA->Pp,call_meets->Pr,builtinsNs->Pw,wpAny_updateSeq->PY,wpAny_loadPart'->PZ,post_val_or_str->P0,letOwnedTupleGo->P1,isSubtype_tuple_tuple->P5,builtinLookup_eq_fast->P6,isSubtype_type->QE,firstArgMember->QI,atKey->QJ,IsPart->QL,tupleKind->Rw,notedBy->Ry,swappedStores->R_,plainId_quiet->R',wpAny_tupleItemsOf->SJ,wpAny_sequenceKey->SY,wpAny_pyIter_list->S1,wpAny_pyIter_enum->S3,valueAt->S4,setNext->S5,setField->S6,release->S7,concat_meets->S9,compEnvC->S_,wpAny_askSetting->Tr,pickOrder->Ts,noFill_tuple_add->Tt,PassesOwn->Tv,wpAny_of_eq->Tz,subscripted->TB,wpAny_execs_nil->TK,typeLookup_type->TL,pushCells_keeps->TN,standAt->TU,wpAny_runValue->T4,relayAll->T5,raiseNew->T6,pyIter->T7,newFunctionEnv->T8,IsTupleKey->T_,wpAny_standAt->Ul,wpAny_newList->Um,wpAny_comprehension_free->Uo,seq_tuple_add->Up,evalPart_none->Uq,strValues->Ux,seqItems?->Uy,isSubtype->Uz,eqIsQuiet->UA,bindL->UB,bindC->UC,wpAny_Call_method_late->UK,setNextDrawn->UL,newExc->UM,collect->UN,call_meetsIn->UO,PyData->UR,Params->US,IsEnum->UT,BindsTo->UW,wpAny_isTrue_Compare1->U4,step->Vf,seqIndex_of->Vg,Operator->Vh,wpAny_setEntries_of->Vs,wpAny_setItem_heap->Vz,wpAny_load->VA,wpAny_Name->VB,wpAny_List_spliced->VC,typeLookup->VD,rule->VE,isInstance->VF,JoinOk->VH,wpAny_storeSet_of->VN,wpAny_pyIter_slot->VO,wpAny_assign_Name->VP,spliced->VQ,slot_list_getitem->VR,newList->VS,fits_of_scanBound->VT,eqIsQuiet_byValue->VU,wpAny_eqBool_str->V0,wpAny_eqBool_int->V1,wpAny_Dict_empty->V2,codeAny_of_tree->Wb,typeOf->Wl,truthy->Wm,recursionLimit->Wn,numbered_texts->Wo,newTuple->Wq,isSubtype_stop->Wr,field->Ws,entryFor_alias->Wt,entryFor->Wu,bindArgs->Wv,augStore->Ww,argsOk->Wx,again->Wy
open Bool renaming true->b5,and_eq_true->c4,false->df,false_ne_true->mh,false_eq_true->tj,not_eq_true'->B0,and_eq_true_iff->Fg,eq_iff_iff->FW,not_true->Hf,and_true->MB,or_eq_true->MN,eq_false_iff->NZ,and_false->Tq,not_false->Vx,false_and->Vy,or_false->VL,and_self->VM
open List renaming length_map->dt,map_cons->gc,getElem?_eq_some_iff->gi,getElem?_set_self->gj,range->hE,size_toArray->hW,length_append->i5,mem_cons->ka,mem_map->ki,map_map->kj,mem_append->ko,getElem?_set_ne->k8,length_cons->lx,replicate->l0,mem_cons_self->l',nil_append->my,mem_cons_of_mem->mA,getElem?_map->nc,mem_of_getElem?->nC,nodup_cons->nH,lookup_cons->pb,map_append->qs,getElem?_eq_getElem->r3,nodup_append->sx,mem_singleton->ti,getElem?_append_right->uk,mem_filter->uv,append_nil->va,all_eq_true->ve,mem_append_right->vr,getElem?_append_left->z9,map_congr_left->Bs,mem_range->DS,length_filter_le->Ew,length_take->EX,length->E1,filter_cons->E6,isEmpty_iff->F3,filterMap_cons->GU,getElem?_drop->HD,getD_eq_getElem?_getD->HG,map_nil->H0,getElem?_replicate->I0,ext_getElem->Ja,find?_cons->JM,map->LC,length_range->LD,filter_eq_nil_iff->LH,mem_iff_getElem?->L6,length_singleton->Ma,length_replicate->Md,not_mem_nil->Mh,getElem_mem->Mi,getD->Ml,eq_nil_of_length_eq_zero->MC,of_mem_zip->MG,length_reverse->MS,getElem_of_mem->MU,flatten_append->MV,sublist_flatten_of_mem->Nc,pairwise_cons->Np,nodup_nil->Nt,pairwise_iff_getElem->NB,drop_eq_getElem_cons->NH,reverse_cons->NO,flatten_cons->NT,append_assoc->NU,length_eq_zero_iff->Oi,getElem?_cons_succ->Oj,filter_cons_of_pos->OH,filter_cons_of_neg->OI,take_of_length_le->OX,filter_nil->O4,getElem?_eq_none->O5,mem_of_mem_take->O_,getElem?_range->P2,any_cons->Qc,zip_cons_cons->QC,filter_append->QD,nodup_range->SF,length_drop->SG,length_zip->SS,length_nil->SU,foldl_cons->SV,drop_left'->SW,perm_ext_iff_of_nodup->To,length_erase_of_mem->TH,getElem?_take_of_lt->TJ,toArray->T1,length_pos_of_mem->T2,length_eq_one_iff->T3,not_lt->Ug,mem_iff_getElem->Uh,mem_erase_of_ne->Ui,mem_append_left->Uj,getElem?_zipIdx->Uk,mem_map_of_mem->Uv,filter_eq_self->Uw,mem_filterMap->UH,take_sublist->U0,ext_getElem?->U1,mem_flatten->U9,map_fst_zip->U_,le_antisymm->U',getElem_map->Va,getElem_inj->Vb,drop_length->Vc,cons_append->Vd,any_eq_true->Ve,length_set->Vp,filter_map->Vq,findIdx?->VJ,all_map->VZ,map_id->V_
open PySem.Heap renaming get?_push_of_some->et,get?_push_size->hA,lt_size->hY,get?_update_self->Ej,SameBut->Gy,get?_update_ne->KX,size_push->Ly,get?_update_other->LA,ExtBut->V4
open Decidable renaming decide->ez
open Nat renaming le_refl->gs,ne_of_lt->k7,lt_of_lt_of_le->k9,zero_le->mx,le_trans->vu,lt_irrefl->wh,ne_of_gt->Hd,le_of_lt->H8,lt_succ_of_lt->LP,le_succ->ME,lt_succ_self->OQ,lt_trans->R0,mod_lt->Tx,add_sub_cancel_left->TZ,zero_add->T',le_of_eq->Ua,lt_trichotomy->U8,mul_add->Wi,log2_lt->Wj
open PySem.Value renaming ref->lg,none->oa,str->DE,type->GC,isStrOf->JF,bool->Nn,isStrOf_shape->Ub,int->UP,isInt->VX
open PyProof.Rows renaming slot_tuple_getitem->oT,seqObj->ES,callWith_type1->Jd,size_push'->JN,StrsAre->MA,AllBare->Px,slicePart_none->Q8,envOfC->Q9,entry_tuple_getitem->RW,subscriptTail->Sg,listUpdate_at->Sq,args_tuple_getitem->SN,Subscript_->SO,tupleItemsOf_->Uu,IsTup->UE,subscriptTail_builtinR->UX,listItems_at->UY,IntsAre->UZ,seqEpoch_at->Vo,sortedHeap->VI,wpAny_notIn_heap->V8,slot_str_getitem->V9,get?_update_seq->Wf,entry_list_sort->Wg,callWith_builtin1->Wh,tail_any->WB,sortedHeap_old->WC,slot_list_sort->WD,isTrue_and_nil->WE,args_list_sort->WG
open Sum renaming inr->ri,inl->RC
open Array renaming length_toList->ro,getElem?_toList->FZ,toList_append->PR,getD->Ql,forIn_toList->Qm,size_append->Ru,getD_eq_getD_getElem?->SX,toList->TR,toList_push->UJ,toList_inj->U3
open PySem.Str renaming empty->td,ofString->Ky,length->Tu
open PySem.Obj renaming mapSeq->tA,data_mapFields->Jy,putSet->O1,isFreed_of_fields->O8,cls_mapFields->RQ,mapFields->VY
open Option.some renaming inj->vl,injEq->TF
open PySem.Builtin.Tuple renaming tupleExact->y3,tupleHashOf->Fm,tupleItemsOf->Jo
open Ne renaming symm->z8
open PySem.Builtin.Slice renaming slicePlaces->DI,sliceApplied->LV,sliceAdjust->Mz,sliceFields->Qy,slicePartIndex->V6
open PySem.PyData renaming leavesShort->F0,leavesShortAll->Hx,showable->HP,showableAll->Jl,depth->Kb,depthAll->K2,bulk->Lc,shown_fits_bulk->Lj,bulkAll->Lm,list->TY,hasDictAll->Ut,hasDict->U5,shown->Vt
open PySem.Heap.SameBut renaming update->Gb,refl->Tw
open PySem.Builtin.SmallTypes renaming nextOf->Gz
open PySem.NameKind renaming free->GP,cell->GS
open PySem.W renaming kas_sort->Ho,kas_descPart->La,kas_place->LU,kas_count->MR,kas_asc->Nb,kas_rev->NK,kas_tail3->N5,kas_desc->QK,kas_ask->VV,KasT->Wz
open PySem.Builtin.List renaming listTooLong->HC,listExtendWith->Jc,listSameRef->RA,listLengthHint->We
open Int renaming toNat_natCast->Ii,toNat_of_nonneg->K7,eq_ofNat_of_zero_le->OS,emod_lt_of_pos->Rt,zero_add->R7,emod_nonneg->Tg,natCast_add->Vw,ediv_one->Wa
open PySem.SetTable renaming below->Iq,grown->MF,sizeAbove->TV,orStandIn->TX,layClean->T9,relaid->Ur,laid->UQ
open PySem.Calls renaming callWith_builtin->Jm,evalArgs_plain->J0,spliced_cons->Le,spliced_nil->Nw,Name_function_global->Tc,call_function_entry->Th
open PySem.Builtin.Str renaming occurrences->Jz,partsBetween->J1,strKind->Ti
open PyProof.Rows.F renaming plain_set_update_loop->JJ,entry_set_update_loop->N6
open PySem.Around renaming under_plainId->JP
open LT renaming lt->J2
open False renaming elim->J8
open PySem.AutoSeq1 renaming wpAny_loadPart'->Kk,sub_tuple_tuple->SR,sub_tuple_list->Td,sub_list_tuple->Te,sub_list_list->Tj,idx_int->Uc
open List.cons renaming injEq->Kt
open ForInStep renaming yield->Ku
open PySem.Txt renaming split->Lf,join->RL
open PySem.Shared renaming TypeIs->Nv
open PySem.SeqAt renaming EqAt->OP,ne_of_list_tuple->TQ,RcAt->Us,RcNeAt->VG
open True renaming intro->Qx
open Sum.inr renaming inj->Rv
open PySem.F renaming args_str_split_2->RU,entry_str_split->SM,slot_str_split->Tb,args_list_extend_2->UU,entry_list_extend->U6,slot_list_extend->Vi
open Classical renaming byContradiction->SH
open PySem.Heap.IsSliceOf renaming new->SQ
open PySem.pickOrder renaming go->S8
open PySem.SetTable.below renaming go->Ta
open Prod renaming ext->Tn,fst->Ud
open PyProof.Rows.IsTup renaming new->TC
open PySem.Code renaming quiet_builtin->UD
open LawfulBEq renaming eq_of_beq->UI
open Function renaming comp->U2
open PySem.Data renaming cell->U7,fields->V5
open PySem.Builtin.Frozenset renaming updateFrom->Vj,slot0->Vk,sizeOf->Vl,newClass->Vm,addrOf->Vn
open LE renaming le->Vr
open PyProof.Rows.LSm renaming range_all->Vu,kept_iter->Vv
open PySem.W.WShape renaming has->VW
open PySem.Walks renaming list->V3
open PySem.Builtin.Range renaming rangeSize->V7
open List.Pairwise renaming nil->V'
open PySem.W.WData renaming int->Wc
open PySem.Heap.DictOfH renaming new->Wd
open ToString renaming toString->Wk
open PySem.Heap.DictOf renaming new->WA
open ForIn renaming forIn->WH
abbrev WI:=@decide_eq_true_eq
abbrev WJ:=@if_pos
abbrev WK:=@if_neg
abbrev WL:=@decide_eq_false
abbrev WM:=@decide_eq_true
abbrev WN:=@congrArg
abbrev WO:=@of_decide_eq_true
abbrev WQ:=@if_false
local macro_rules|`(def $a:declId $b* : $t :=$v)=>`(theorem $a:declId $b* : $t :=$v)
local macro_rules|`(abbrev $a:declId $b:optDeclSig $c:declVal)=>`(noncomputable def $a:declId $b:optDeclSig $c:declVal)
local macro_rules|`(tactic|show $t)=>`(tactic|refine $t)
local macro_rules|`(tactic|have⟨$a,*⟩:=$t)=>do let p<-a.getElems.mapM fun x=>`(Lean.Parser.Tactic.rcasesPatLo|$(⟨x⟩):ident);`(tactic|obtain⟨$p,*⟩:=$t)
local macro_rules|`(⋯)=>`(by lia)
namespace L2
open PySem PySem.Spec PyProof.Rows
@[reducible]def Key:=Sum Int Str
abbrev iC:Key->eH->Bool
 |.inl k,v=>VX k v
 |.inr x,v=>JF x v
abbrev CK(w:Fi):Key->Int
 |.inl k=>hashInt k
 |.inr x=>hashStr w x
theorem aW:∀{k:Key}{v:eH},iC k v=b5->(∃i t,k=RC i/\v=UP i t)\/(∃x t,k=ri x/\v=DE x t)
 |.inl i,v,h=>by
  have⟨t,e⟩:=Value.isInt_shape (k:=i) (v:=v) h;show .inl ⟨i,t,rfl,e⟩
 |.inr x,v,h=>by
  have⟨t,e⟩:=Ub (x:=x) (v:=v) h;show .inr ⟨x,t,rfl,e⟩
def rE(i:Int)(t:Tok):iC (.inl i) (.int i t)=b5:=by simp[iC,VX]
def rF(x:Str)(t:Tok):iC (.inr x) (.str x t)=b5:=by simp[iC,JF]
def yR(a b:Int):ez ((RC a:Key)=RC b)=(a==b):=by
 by_cases e:a=b
 .subst e;simp
 .have h:¬(RC a:Key)=RC b:=λq=>e (Sum.inl.inj q);rw[WL h];show(beq_eq_false_iff_ne.mpr e).symm
def yS(a b:Str):ez ((ri a:Key)=ri b)=ez (a=b):=by
 by_cases e:a=b
 .subst e;simp
 .have h:¬(ri a:Key)=ri b:=λq=>e (Rv q);rw[WL h,WL e]
def yT(a:Int)(b:Str):ez ((RC a:Key)=ri b)=df:=WL (λq=>nomatch q)
def yU(a:Str)(b:Int):ez ((ri a:Key)=RC b)=df:=WL (λq=>nomatch q)
abbrev aI(prog:DW)(w:Fi):PySem.KeyKind prog w Key where
 is:=iC
 hash:=CK w
 inj:=λv a b g f=>by
  rcases aW g with⟨i,t,rfl,rfl⟩|⟨x,t,rfl,rfl⟩
  .rcases aW f with⟨j,u,rfl,e⟩|⟨y,u,rfl,e⟩
   .injection e with c _;rw[c]
   .show nomatch e
  .rcases aW f with⟨j,u,rfl,e⟩|⟨y,u,rfl,e⟩
   .show nomatch e
   .injection e with c _;rw[c]
 byValue:=λk v h=>by
  rcases aW h with⟨i,t,rfl,rfl⟩|⟨x,t,rfl,rfl⟩<;>rfl
 pyHash:=λd h=>by
  rcases aW d with⟨i,t,rfl,rfl⟩|⟨x,t,rfl,rfl⟩
  .show wpAny_pyHash_int h
  .show wpAny_pyHash_str h
 eqBool:=λl d h=>by
  rcases aW l with⟨i,t,rfl,rfl⟩|⟨x,t,rfl,rfl⟩
  .rcases aW d with⟨j,u,rfl,rfl⟩|⟨y,u,rfl,rfl⟩
   .rw[yR]at h;show V1 h
   .rw[yT]at h;show SeqAt.EqAt.int_str i t y u _ _ _ _ h
  .rcases aW d with⟨j,u,rfl,rfl⟩|⟨y,u,rfl,rfl⟩
   .rw[yU]at h;show SeqAt.EqAt.str_int x t j u _ _ _ _ h
   .rw[yS]at h;show V0 h
 «strs»:=λk x t v h=>by
  rcases aW h with⟨i,u,rfl,e⟩|⟨y,u,rfl,e⟩
  .show nomatch e
  .injection e with c _
   subst c;cases v<;>rfl
def mL(prog:DW)(w:Fi)(i:Int)(t:Tok):(aI prog w).is (.inl i) (.int i t)=b5:=rE i t
def mM(prog:DW)(w:Fi)(x:Str)(t:Tok):(aI prog w).is (.inr x) (.str x t)=b5:=rF x t
inductive V where
 |DB|bl (b:Bool)|int (i:Int)|str (x:Str)|Kf (b:Array UInt8)|Kg (b:UInt64)|ref (a:hQ)|ty (n:String)
 deriving DecidableEq
def RelV:V->eH->Prop
 |.DB,u=>u=oa
 |.bl b,u=>u=Nn b
 |.int i,u=>∃t,u=UP i t
 |.str x,u=>∃t,u=DE x t
 |.Kf b,u=>∃t,u=Value.bytes b t
 |.Kg b,u=>∃t,u=Value.float b t
 |.ref a,u=>u=lg a
 |.ty n,u=>u=GC n
@[reducible]def Vals:List V->List eH->Prop:=Paired RelV
def Vals.length(r:Vals xs us):xs.length=us.length:=Paired.length r
theorem Vals.get:∀{xs:List V}{us:List eH}{i:Nat}{x:V},Vals xs us->xs[i]?=a5 x->∃u,us[i]?=a5 u/\RelV x u
 |_,_,_,_,.nil,e=>by simp at e
 |_,_,0,_,.cons r _,e=>by simp at e;subst e;show⟨_,rfl,r⟩
 |_,_,i+1,x,.cons _ t,e=>by
  have⟨u,a,b⟩:=Vals.get (i:=i) (x:=x) t (by simpa using e);show⟨u,by simpa using a,b⟩
theorem Vals.set(r:RelV x u):∀{xs:List V}{us:List eH} (i:Nat),Vals xs us->Vals (xs.set i x) (us.set i u)
 |_,_,_,.nil=>.nil
 |_,_,0,.cons _ t=>.cons r t
 |_,_,i+1,.cons q t=>.cons q (Vals.set r i t)
theorem Vals.append:∀{xs a:List V}{us ws:List eH},Vals xs us->Vals a ws->Vals (xs++a) (us++ws)
 |_,_,_,_,.nil,s=>s
 |_,_,_,_,.cons r t,s=>.cons r (Vals.append t s)
theorem Vals.take:∀{xs:List V}{us:List eH} (n:Nat),Vals xs us->Vals (xs.take n) (us.take n)
 |_,_,0,_=>.nil
 |_,_,_+1,.nil=>.nil
 |_,_,n+1,.cons r t=>.cons r (Vals.take n t)
theorem Vals.drop:∀{xs:List V}{us:List eH} (n:Nat),Vals xs us->Vals (xs.drop n) (us.drop n)
 |_,_,0,r=>r
 |_,_,_+1,.nil=>.nil
 |_,_,n+1,.cons _ t=>Vals.drop n t
def ia:Option V->Option eH->Prop
 |some v,a5 u=>RelV v u
 |none,b6=>True
 |_,_=>False
abbrev KV{κ:Type}:List (κ×V)->List (κ×eH)->Prop:=Paired λ(p:κ×V) (q:κ×eH)=>p.1=q.1/\RelV p.2 q.2
abbrev kV:Key->V
 |.inl i=>.int i
 |.inr x=>.str x
inductive HO where
 |lst (xs:List V)
 |tup (xs:List V)
 |dK (kvs:List (Key×V))|dT (kvs:List (List Key×V))
 |set (S:Int->Bool) (n:Nat)
 |ins (C dx:hQ) (fs:List (Str×V))
 |own (x:hQ)
 |xd (fs:List (Str×V))
 |met (f x:hQ)
 |K8 (lo hi:Int)
 |FE (o:Obj) (u:HO)
 |Hw (ps:Array eH)
 |ext (φ:Hb->Prop)
@[reducible]def Hp:=hQ->Option HO
abbrev upd(H:Hp)(a:hQ)(o:HO):Hp:=λb=>if b=a then a5 o else H b
def aq:upd H a o a=a5 o:=by unfold upd;rw[WJ rfl]
def ai(h:b≠a):upd H a o b=H b:=by unfold upd;rw[WK h]
def tv{H:Hp}(h:H a=a5 o)(h':H b=a5 u)(d:o≠u):a≠b:=by
 intro e;subst e;rw[h]at h';show d (vl h')
def bb{H:Hp}(h:H a=a5 o)(h':H b=b6):a≠b:=by
 intro e;subst e;rw[h]at h';cases h'
section
variable(P:DW)(w:Fi)
def bz(H:Hp)(h:Hb)(a:hQ):HO->Prop
 |.lst xs=>xs.length<=dV/\∃(c:List eH) (n:Nat),Vals xs c/\h.get? a=a5 {cls:=.type "list",data:=.seq c.toArray n}
 |.tup xs=>xs.length<=dV/\∃c:List eH,Vals xs c/\UE h a c.toArray
 |.dK kvs=>kvs.length<=dV/\(a==Fv)=df/\∃vs,KV kvs vs/\h.DictOf (aI P w) a vs
 |.dT kvs=>kvs.length<=dV/\(a==Fv)=df/\∃xs:List (List Key×hQ×eH),
   Paired (λ(p:List Key×V) (q:List Key×hQ×eH)=>p.1=q.1/\H q.2.1=a5 (.tup (p.1.map kV))/\RelV p.2 q.2.2) kvs xs /\
   ∃o es ep,h.get? a=a5 o/\o.ExactDict/\o.data=.dict es ep/\es.toList=xs.map (entryOfKey (Rw (aI P w)))/\(xs.map (·.1)).Nodup
 |.set S n=>h.SetOf (intKind P w) a S n
 |.ins C e d=>H e=a5 (.own a)/\d.length<=1000/\e≠a/\h.get? a=a5 (PySem.W.instObj C e) /\
   ∃b,h.Ns1 e b/\(∀f,ia (d.lookup f) (b f))/\PySem.Within b (d.map (·.1))
 |.own _=>∃o,h.get? a=a5 o
 |.xd d=>∃b,h.Ns1 a b/\∀f,ia (d.lookup f) (b f)
 |.K8 lo j=>∃t u v,h.get? a=a5 {cls:=.type "range",data:=.fields #[.int lo t,.int j u,.int 1 v]}
 |.FE o u=>h.get? a=a5 o/\bz H h a u
 |.Hw ps=>h.get? a=a5 {cls:=.none,data:=.fields ps}
 |.met f x=>h.get? a=a5 (PySem.W.methodObj (.ref f) (.ref x))
 |.ext φ=>φ h/\(∃o,h.get? a=a5 o)/\∀g i:Hb,φ g->(∀o,g.get? a=a5 o->i.get? a=a5 o)->φ i
abbrev Ef(H:Hp)(h:Hb):Prop:=∀a o,H a=a5 o->bz P w H h a o
end
section
def bz.lt(x:bz P w H h a o):a<h.objs.size:=by
 cases o with
 |lst xs=>obtain⟨_,_,_,_,e⟩:=x;show hY e
 |tup xs=>obtain⟨_,_,_,p⟩:=x;show p.lt
 |set S n=>obtain⟨o,_,_,_,e,_⟩:=x;show hY e
 |ins C c b=>obtain⟨_,_,_,e,_⟩:=x;show hY e
 |own y=>obtain⟨_,e⟩:=x;show hY e
 |xd b=>obtain⟨_,⟨_,_,_,e,_⟩,_⟩:=x;show hY e
 |K8 lo d=>obtain⟨_,_,_,e⟩:=x;show hY e
 |FE g u=>obtain⟨e,_⟩:=x;show hY e
 |Hw ps=>show hY (show h.get? a=a5 _ from x)
 |met f y=>show hY (show h.get? a=a5 _ from x)
 |ext φ=>obtain⟨_,⟨_,e⟩,_⟩:=x;show hY e
 |_=>obtain⟨_,_,_,_,o,_,_,e,_⟩:=x;show hY e
theorem Paired.yV:∀{c:List α}{d:List β},Paired F c d->(∀a b,F a b->G a b)->Paired G c d
 |_,_,.nil,_=>.nil
 |_,_,.cons r t,f=>.cons (f _ _ r) (Paired.yV t f)
def bz.la(x:bz P w H h a o)(k:∀b u,(b=a\/H b=a5 (.own a))->h.get? b=a5 u->h'.get? b=a5 u)
  (ho:∀b,H b=a5 (.own a)->H' b=a5 (.own a)) (m:∀b xs,H b=a5 (.tup xs)->H' b=a5 (.tup xs)):bz P w H' h' a o:=by
 induction o with
 |lst xs=>have⟨z,i,n,r,e⟩:=x;show⟨z,i,n,r,k _ _ (.inl rfl) e⟩
 |tup xs=>have⟨z,i,r,g,e,c⟩:=x;show⟨z,i,r,g,k _ _ (.inl rfl) e,c⟩
 |dK kvs=>have⟨z,y,vs,r,g,es,ep,e,c⟩:=x;show⟨z,y,vs,r,g,es,ep,k _ _ (.inl rfl) e,c⟩
 |dT kvs =>
  have⟨z,y,xs,r,g,es,ep,e,c⟩:=x;show⟨z,y,xs,Paired.yV r λp q z=>⟨z.1,m _ _ z.2.1,z.2.2⟩,g,es,ep,k _ _ (.inl rfl) e,c⟩
 |set S n=>have⟨g,es,ep,t,e,c⟩:=x;show⟨g,es,ep,t,k _ _ (.inl rfl) e,c⟩
 |ins C G s =>
  obtain⟨d,z,A,e,j,⟨l,es,ep,B,c⟩,r⟩:=x;show⟨ho _ d,z,A,k _ _ (.inl rfl) e,j,⟨l,es,ep,k _ _ (.inr d) B,c⟩,r⟩
 |own y=>have⟨g,e⟩:=x;show⟨g,k _ _ (.inl rfl) e⟩
 |xd s=>obtain⟨j,⟨l,es,ep,e,c⟩,r⟩:=x;show⟨j,⟨l,es,ep,k _ _ (.inl rfl) e,c⟩,r⟩
 |K8 lo I=>have⟨t,u,v,e⟩:=x;show⟨t,u,v,k _ _ (.inl rfl) e⟩
 |FE g u D=>have⟨e,q⟩:=x;show⟨k _ _ (.inl rfl) e,D q⟩
 |Hw ps =>
  have e:h.get? a=a5 {cls:=.none,data:=.fields ps}:=x;change h'.get? a=a5 {cls:=.none,data:=.fields ps};show k a _ (.inl rfl) e
 |met f y =>
  have e:h.get? a=a5 (PySem.W.methodObj (.ref f) (.ref y)):=x;change h'.get? a=a5 (PySem.W.methodObj (.ref f) (.ref y));show k a _ (.inl rfl) e
 |ext φ=>obtain⟨p,⟨o,e⟩,st⟩:=x;show⟨st _ _ p λo q=>k _ _ (.inl rfl) q,⟨o,k _ _ (.inl rfl) e⟩,st⟩
def Ef.lt(x:Ef P w H h)(e:H a=a5 o):a<h.objs.size:=(x a o e).lt
def Ef.fresh(x:Ef P w H h)(e:h.objs.size<=a):H a=b6:=by
 cases q:H a with
 |none=>rfl
 |some u=>show absurd (k9 (x.lt q) e) (wh _)
def Ef.kept(x:Ef P w H h)(k:∀b u,h.get? b=a5 u->h'.get? b=a5 u):Ef P w H h':=λa o e =>
 (x a o e).la (λb u _ q=>k b u q) (λ_ q=>q) λ_ _ q=>q
def Ef.laid(x:Ef P w H h)(k:∀b u,h.get? b=a5 u->h'.get? b=a5 u)(g:h.objs.size<=a)(new:bz P w (upd H a o) h' a o):Ef P w (upd H a o) h':=λb u e=>by
 have d:=x.fresh g;by_cases f:b=a
 .subst f;rw[aq]at e;cases e;show new
 .rw[ai f]at e;show(x b u e).la (λc v _ q=>k c v q) (λc q=>by rw[ai (bb q d)];show q) λc xs q=>by rw[ai (bb q d)];show q
end
abbrev Rd(H:Hp)(a:hQ)(u:HO):Prop:=H a=a5 u\/∃o,H a=a5 (.FE o u)
def Rd.ok(r:Rd H a u)(x:Ef P w H h):bz P w H h a u:=by
 rcases r with r|⟨o,r⟩
 .show x a u r
 .obtain⟨_,q⟩:=x a _ r;show q
def IZ:Option HO->Prop
 |some (.lst _)=>True
 |some (.dK _)=>True
 |some (.dT _)=>True
 |some (.set _ _)=>True
 |some (.ins _ _ _)=>True
 |some (.ext _)=>True
 |_=>False
section
def Ef.write(m:Ef P w H h)(a:IZ (H x))(g:e=x\/H e=a5 (.own x))(k:∀b u,b≠e->h.get? b=a5 u->h'.get? b=a5 u)(n:∃u,h'.get? e=a5 u)
  (new:bz P w (upd H x i) h' x i):Ef P w (upd H x i) h':=λb u q=>by
 have j:∀c y,H c=a5 (.own y)->c≠x:=λc y r z=>by subst z;rw[r]at a;show a
 have o:∀c xs,H c=a5 (.tup xs)->c≠x:=λc xs r z=>by subst z;rw[r]at a;show a
 by_cases d:b=x
 .subst d;rw[aq]at q;cases q;show new
 .rw[ai d]at q;by_cases f:b=e
  .have l:H b=a5 (.own x):=by
    rcases g with z|z
    .show absurd (f.trans z) d
    .rw[f];show z
   rw[q]at l;cases l;have⟨v,p⟩:=n;show⟨v,by rw[f];show p⟩
  .show(m b u q).la (λc v hc r=>k c v ?_ r) (λc r=>by rw[ai (j c b r)];show r) λc xs r=>by rw[ai (o c xs r)];show r
   rcases hc with rfl|hc
   .show f
   .rintro rfl;rcases g with z|z
    .show j c b hc z
    .rw[hc]at z;cases z;show d rfl
end
structure Un(fs ex:List hQ)(H H':Hp)(h h':Hb):Prop where
 keep:∀b o,h.get? b=a5 o->H b=b6->b∉fs->b∉ex->h'.get? b=a5 o
 slot:∀b o,h.get? b=a5 o->H b=b6->b∈fs->b∉ex->∃sl,h'.get? b=a5 {o with slots:=sl}
 free:∀b o,h.get? b=a5 o->H b=b6->b∉ex->H' b=b6
 there:∀b o,h.get? b=a5 o->b∉ex->∃o',h'.get? b=a5 o'
 ig:∀b xs,H b=a5 (.tup xs)->H' b=a5 (.tup xs)
 EH:∀b o u,H b=a5 (.FE o u)->H' b=a5 (.FE o u)
 EO:∀b ps,H b=a5 (.Hw ps)->∃more,H' b=a5 (.Hw (ps++more))
section
def Un.any(u:Un e ex H i h f)(q:h.get? b=a5 a)(n:H b=b6)(c:b∉ex):∃g,f.get? b=a5 {a with slots:=g}:=by
 by_cases d:b∈e
 .show u.slot b a q n d c
 .show⟨a.slots,u.keep b a q n d c⟩
def Un.kept(k:∀b u,h.get? b=a5 u->h'.get? b=a5 u):Un c ex H H h h' :=
 ⟨λb a q _ _ _=>k b a q,λb a q _ _ _=>⟨a.slots,k b a q⟩,λ_ _ _ n _=>n,λb a q _=>⟨a,k b a q⟩,λ_ _ q=>q,λ_ _ _ q=>q,λ_ ps q=>⟨#[],by rw[q];simp⟩⟩
def Un.refl:Un a ex H H h h:=Un.kept λ_ _ q=>q
def Un.laid(k:∀b u,h.get? b=a5 u->h'.get? b=a5 u)(d:h.objs.size<=a)(c:H a=b6):Un e ex H (upd H a o) h h' where
 keep:=λb u q _ _ _=>k b u q
 slot:=λb u q _ _ _=>⟨u.slots,k b u q⟩
 free:=λb u q n _=>by rw[ai (k7 (k9 (hY q) d))];show n
 there:=λb u q _=>⟨u,k b u q⟩
 ig:=λb xs q=>by rw[ai (bb q c)];show q
 EH:=λb u xs q=>by rw[ai (bb q c)];show q
 EO:=λb ps q=>⟨#[],by rw[ai (bb q c),q];simp⟩
def Un.write(a:IZ (H x))(i:e=x\/H e=a5 (.own x))(k:∀b u,b≠e->h.get? b=a5 u->h'.get? b=a5 u)(j:∃u,h'.get? e=a5 u):Un m ex H (upd H x o) h h':=by
 have d:∀b,H b=b6->b≠x:=λb n z=>by subst z;rw[n]at a;show a
 have f:∀b,H b=b6->b≠e:=λb n z=>by
  subst z;rcases i with r|r
  .show d b n r
  .rw[n]at r;cases r
 have c:∀b u,H b=a5 u->¬IZ (a5 u)->b≠x:=λb u q l z=>by subst z;rw[q]at a;show l a
 show⟨λb u q n _ _=>k b u (f b n) q,λb u q n _ _=>⟨u.slots,k b u (f b n) q⟩,λb u q n _=>by rw[ai (d b n)];show n,λb u q _=>?_,
  λb xs q=>by rw[ai (c b _ q λz=>z)];show q,λb u xs q=>by rw[ai (c b _ q λz=>z)];show q,λb ps q=>⟨#[],by rw[ai (c b _ q λz=>z),q];simp⟩⟩
 by_cases g:b=e
 .subst g;show j
 .show⟨u,k b u g q⟩
end
abbrev Kh(h:Hb)(H:Hp):List hQ:=(hE h.objs.size).filter λa=>(H a).isSome
abbrev lb(h:Hb)(H:Hp):Hb:=PySem.W.hideAll h (Kh h H)
def rG(h:Hb)(H:Hp):(lb h H).objs.size=h.objs.size:=PySem.W.hideAll_size _ _
def tw(e:h.get? b=a5 o)(n:H b=b6):(lb h H).get? b=a5 o :=
 PySem.W.hideAll_get _ e λa=>by
  have q:(H b).isSome=b5:=(uv.mp a).2;rw[n]at q;simp at q
def v8(e:(lb h H).get? b=a5 o):h.get? b=a5 o/\H b=b6:=by
 have a:h.get? b=a5 o:=PySem.W.of_hideAll (Kh h H) e;show⟨a,?_⟩;cases q:H b with
 |none=>rfl
 |some x =>
  have c:b∈Kh h H:=uv.mpr ⟨DS.mpr (hY a),by simp[q]⟩;have z:(lb h H).get? b=b6:=PySem.W.hideAll_none (Kh h H) c;rw[z]at e;cases e
structure Mod(K:PySem.W.Frag)(mg:Str->Option eH)(base:Hb):Prop where
 Ki:K.In base
 glob:base.Ns D' mg
 blt:∃mb,base.Ns Pw mb/\∀x:Str,x≠"__name__"->mb x=IU x
 nolimit:base.NoLimit
structure Cx where
 prog:DW
 w:Fi
 K:PySem.W.Frag
 mg:Str->Option eH
 base:Hb
 A:Ke
 N:List Str
 s₀:hH
 H₀:Hp
 env:Env
 outer:List Env
 stack:List Env
 ex:List hQ
 fn:Str->Bool
 calm:Bool
 pn:List (hQ×Obj)
 xe:eH->hH->Prop
abbrev Fu(l:List Env):List hQ:=l.filterMap (·.frame)
noncomputable abbrev Cx.fs(X:Cx):List hQ:=Fu X.outer
abbrev Fh(a:IW)(x:Str):Prop:=a.names.lookup x=a5 .local\/a.names.lookup x=a5 .cell\/a.names.lookup x=a5 .free
abbrev Loc(a:IW)(x:Str):Prop:=a.names.lookup x=a5 .local\/a.names.lookup x=a5 .cell
abbrev Look(env:Env)(h:Hb)(m:Str->Option eH)(x:Str)(u:eH):Prop :=
 (env.kindOf x=a5 .local/\m x=a5 u)\/((env.kindOf x=a5 .cell\/env.kindOf x=a5 .free)/\∃c,env.cells.lookup x=a5 c/\h.IsCell c (a5 u))
structure Cx.Ok(X:Cx):Prop where
 mod:Mod X.K X.mg X.base
 kind:X.env.scope.kind=.function
 glob:X.env.globals=D'
 blt:X.env.builtins=Pw
 above:X.s₀.heap.objs.size<=X.env.locals
 inj:∀x y c,X.env.cells.lookup x=a5 c->X.env.cells.lookup y=a5 c->x=y
 has:∀x,(X.env.kindOf x=a5 .cell\/X.env.kindOf x=a5 .free)->∃c,X.env.cells.lookup x=a5 c
 I_:∀x c,X.fn x=b5->X.env.cells.lookup x=a5 c->X.s₀.heap.objs.size<=c
 hd:X.calm=b5->X.A.handled=b6
 frames:X.A.frames=a5 X.stack
 Kj:X.stack=X.outer\/(X.stack=X.env::X.outer/\X.env.frame=a5 X.env.locals)
 NA:∀b∈X.ex,b≠X.env.locals/\∀x c,X.env.cells.lookup x=a5 c->c≠b
 bs:∀b o,X.base.get? b=a5 o->X.s₀.heap.get? b=a5 o/\X.H₀ b=b6
 Ha:X.base.objs.size<=X.s₀.heap.objs.size
 F2:∀b o,X.base.get? b=a5 o->b∉X.ex
 GQ:∀b∈X.ex,b∉X.fs
 iD:X.s₀.heap.FunFrames X.base X.outer
 Ir:∀b∈X.fs,X.H₀ b=b6
structure Inv(X:Cx)(pins:List (hQ×Obj))(σ:List (Option V))(H:Hp)(s:hH):Prop where
 ok:X.Ok
 os:s.os=X.s₀.os
 bare:Px s.gens
 base:Un X.fs X.ex X.H₀ H X.s₀.heap s.heap
 loc:∃m,s.heap.Ns X.env.locals m/\∀(i:Nat) (x:Str) (v:V),X.N[i]?=a5 x->σ[i]?=a5 (a5 v)->Fh X.env.scope x->∃u,RelV v u/\Look X.env s.heap m x u
 cell:∀x c,X.env.cells.lookup x=a5 c->∃v,s.heap.IsCell c v
 free:H X.env.locals=b6
 D7:∀x c,X.env.cells.lookup x=a5 c->H c=b6
 pin:∀p∈X.pn++pins,s.heap.get? p.1=a5 p.2/\H p.1=b6/\p.1≠X.env.locals/\p.1∉X.fs/\∀v,p.2.data≠.cell v
 Dw:Ef X.prog X.w H s.heap
 len:σ.length=X.N.length
section
variable{X:Cx}{pins:List (hQ×Obj)}{σ:List (Option V)}{H H':Hp}{s:hH}{h':Hb}
def Cx.Ok.CL(a:X.Ok)(e:X.base.get? b=a5 o):b∉X.fs:=λc=>by
 have:=(a.iD.mem c).1;rw[e]at this;cases this
def Inv.bs(I:Inv X pins σ H s):∀b o,X.base.get? b=a5 o->s.heap.get? b=a5 o/\H b=b6:=λb o e =>
 ⟨I.base.keep b o (I.ok.bs b o e).1 (I.ok.bs b o e).2 (I.ok.CL e) (I.ok.F2 b o e),I.base.free b o (I.ok.bs b o e).1 (I.ok.bs b o e).2 (I.ok.F2 b o e)⟩
def Inv.bk(I:Inv X pins σ H s):∀b o,X.base.get? b=a5 o->s.heap.get? b=a5 o:=λb o e=>(I.bs b o e).1
def Inv.mod(I:Inv X pins σ H s):Mod X.K X.mg X.base:=I.ok.mod
def Inv.Hy(I:Inv X pins σ H s):X.K.In s.heap:=I.ok.mod.Ki.keeps I.bk
def Inv.lt(I:Inv X pins σ H s):X.env.locals<s.heap.objs.size:=let ⟨_,a,_⟩:=I.loc;a.lt
def Inv.sz(I:Inv X pins σ H s):X.s₀.heap.objs.size<=s.heap.objs.size:=vu I.ok.above (H8 I.lt)
def Inv.A1(I:Inv X pins σ H s)(h:s.heap.objs.size<=a):a∉X.fs:=λb=>by
 obtain⟨_,o,ho,_⟩:=I.ok.iD.mem b;show absurd (k9 (hY ho) (vu I.sz h)) (wh _)
def Inv.Hz(I:Inv X pins σ H s):∀x c,X.env.cells.lookup x=a5 c->c≠X.env.locals:=λx c e z=>by
 have⟨v,o,ho,a⟩:=I.cell x c e;obtain⟨m,⟨f,es,ep,b,d,_⟩,_⟩:=I.loc;rw[z,b]at ho;cases ho;rw[d]at a;cases a
def Inv.iD(I:Inv X pins σ H s):s.heap.FunFrames X.base X.outer:=by
 have all:∀(l:List Env),(∀b∈Fu l,b∈X.fs)->X.s₀.heap.FunFrames X.base l->s.heap.FunFrames X.base l:=by
  intro l;induction l with
  |nil=>intro _ _;trivial
  |cons env r f =>
   intro hs hl;obtain⟨hk,⟨L,o,a,g,ho,h⟩,i⟩:=hl;have c:L∈X.fs:=hs L (by unfold Fu;rw[GU,a];show l');have⟨j,e⟩:=I.base.slot L o ho (I.ok.Ir L c) c λz=>I.ok.GQ L z c;show⟨hk,⟨L,_,a,g,e,h⟩,f (λb d=>hs b (by unfold Fu;rw[GU,a];show mA _ d)) i⟩
 show all X.outer (λ_ d=>d) I.ok.iD
def Inv.stack(I:Inv X pins σ H s):s.heap.FunFrames X.base X.stack:=by
 rcases I.ok.Kj with e|⟨e,a⟩
 .rw[e];show I.iD
 .rw[e];obtain⟨m,b,_⟩:=I.loc;show .cons (by rw[I.ok.kind];decide) a b ?_ I.iD;show Heap.get?_none_of_le (vu I.ok.Ha I.ok.above)
def Inv.iE(I:Inv X pins σ H s):∀b∈Fu X.stack,b∈X.env.locals::X.fs:=λb a=>by
 rcases I.ok.Kj with e|⟨e,c⟩
 .rw[e]at a;show mA _ a
 .rw[e]at a;unfold Fu at a;rw[GU,c]at a;show a
def Inv.qg(I:Inv X pins σ H s):∀b∈Fu X.stack,H b=b6:=λb hb=>by
 rcases ka.mp (I.iE b hb) with e|hb
 .rw[e];show I.free
 .obtain⟨_,o,ho,_⟩:=I.ok.iD.mem hb;show I.base.free b o ho (I.ok.Ir b hb) λz=>I.ok.GQ b z hb
def Inv.step{ch:List hQ}(I:Inv X pins σ H s)
  (j:∀b∈ch,(b∈X.ex\/X.s₀.heap.objs.size<=b)/\b≠X.env.locals/\(∀x c,X.env.cells.lookup x=a5 c->c≠b)/\∀p∈X.pn++pins,p.1≠b)
  (keep:∀b o,b≠X.env.locals->b∉X.fs->b∉ch->s.heap.get? b=a5 o->H b=b6->h'.get? b=a5 o)
  (slot:∀b o,b≠X.env.locals->b∈X.fs->b∉ch->s.heap.get? b=a5 o->H b=b6->∃D,h'.get? b=a5 {o with slots:=D}) (free:∀b o,b∉ch->s.heap.get? b=a5 o->H b=b6->H' b=b6)
  (there:∀b o,b∉ch->s.heap.get? b=a5 o->∃t,h'.get? b=a5 t)
  (ig:∀b xs,H b=a5 (.tup xs)->H' b=a5 (.tup xs)) (EH:∀b o u,H b=a5 (.FE o u)->H' b=a5 (.FE o u)) (EO:∀b ps,H b=a5 (.Hw ps)->∃y,H' b=a5 (.Hw (ps++y)))
  (ns:∀m,s.heap.Ns X.env.locals m->h'.Ns X.env.locals m) (T:Ef X.prog X.w H' h') (Y:Px g') :
  Inv X pins σ H' {s with heap:=h',gens:=g',drawn:=d',toks:=t' }:=by
 have J:∀b o,X.s₀.heap.get? b=a5 o->b≠X.env.locals:=λb o e=>k7 (k9 (hY e) I.ok.above);have C:∀b o,X.s₀.heap.get? b=a5 o->b∉X.ex->b∉ch:=λb o e a h=>by
  rcases(j b h).1 with z|z
  .show a z
  .show absurd (k9 (hY e) z) (wh _)
 have f:∀x c,X.env.cells.lookup x=a5 c->∀v,s.heap.IsCell c v->h'.IsCell c v:=λx c e v DH=>by
  have⟨o,ho,G⟩:=DH;have A:c∉ch:=λz=>(j c z).2.2.1 x c e rfl;by_cases L:c∈X.fs
  .have⟨D,q⟩:=slot c o (I.Hz x c e) L A ho (I.D7 x c e);show⟨_,q,G⟩
  .show⟨o,keep c o (I.Hz x c e) L A ho (I.D7 x c e),G⟩
 show⟨I.ok,I.os,Y,⟨λb o e n h a=>?_,λb o e n h a=>?_,λb o e n a=>?_,λb o e a=>?_,λb xs e=>ig b xs (I.base.ig b xs e),λb o xs e=>EH b o xs (I.base.EH b o xs e),λb ps e=>?_⟩,?_,λx c e=>?_,?_,λx c e=>?_,λp N=>?_,T,I.len⟩
 .show keep b o (J b o e) h (C b o e a) (I.base.keep b o e n h a) (I.base.free b o e n a)
 .have⟨D,g⟩:=I.base.slot b o e n h a;have⟨O2,B⟩:=slot b _ (J b o e) h (C b o e a) g (I.base.free b o e n a);show⟨O2,B⟩
 .have⟨t,g⟩:=I.base.there b o e a;show free b t (C b o e a) g (I.base.free b o e n a)
 .have⟨t,g⟩:=I.base.there b o e a;show there b t (C b o e a) g
 .have⟨m1,g⟩:=I.base.EO b ps e;have⟨m2,B⟩:=EO b _ g;show⟨m1++m2,by rw[B,Array.append_assoc]⟩
 .have⟨m,hn,hl⟩:=I.loc;show⟨m,ns m hn,λi x v g B e3=>?_⟩;have⟨u,r,l⟩:=hl i x v g B e3;show⟨u,r,?_⟩;rcases l with l|⟨k,c,e,z⟩
  .show .inl l
  .show .inr ⟨k,c,e,f x c e _ z⟩
 .have⟨v,z⟩:=I.cell x c e;show⟨v,f x c e v z⟩
 .obtain⟨m,⟨o,_,_,ho,_⟩,_⟩:=I.loc;show free _ o (λz=>(j _ z).2.1 rfl) ho I.free
 .have⟨v,o,ho,G⟩:=I.cell x c e;show free c o (λz=>(j c z).2.2.1 x c e rfl) ho (I.D7 x c e)
 .have⟨e,n,O,Q,d⟩:=I.pin p N;have A:p.1∉ch:=λz=>(j p.1 z).2.2.2 p N rfl;show⟨keep p.1 p.2 O Q A e n,free p.1 p.2 A e n,O,Q,d⟩
def Inv.un(I:Inv X pins σ H s)(u:Un X.fs [] H H' s.heap h')(d:Ef X.prog X.w H' h'):Inv X pins σ H' {s with heap:=h',toks:=t' }:=by
 obtain⟨m,⟨o,es,ep,ho,r⟩,_⟩:=id I.loc;have⟨k,f⟩:=u.any ho I.free (by simp);show I.step (g':=s.gens) (d':=s.drawn) (ch:=[]) (λ_ z=>nomatch z) (λb o _ a _ e n=>u.keep b o e n a (by simp)) (λb o _ a _ e n=>u.slot b o e n a (by simp)) (λb o _ e n=>u.free b o e n (by simp)) (λb o _ e=>u.there b o e (by simp)) u.ig u.EH u.EO (λl g=>by
  have⟨p,h,i,c,j⟩:=g;rw[ho]at c;cases c;show⟨_,h,i,f,j⟩) d I.bare
def Inv.call(I:Inv X pins σ H s)(u:Un (Fu X.stack) ch H H' s.heap h')(h:Ef X.prog X.w H' h')(i:Px g')
  (f:∀b∈ch,(b∈X.ex\/X.s₀.heap.objs.size<=b)/\b≠X.env.locals/\(∀x c,X.env.cells.lookup x=a5 c->c≠b)/\∀p∈X.pn++pins,p.1≠b) :
  Inv X pins σ H' {s with heap:=h',gens:=g',drawn:=d',toks:=t' }:=by
 obtain⟨m,⟨o,es,ep,ho,r⟩,_⟩:=id I.loc;have⟨v,d⟩:=u.any ho I.free λz=>(f _ z).2.1 rfl;show I.step (ch:=ch) f (λb o d j a e n=>u.keep b o e n (λz=>(ka.mp (I.iE b z)).elim d j) a) (λb o _ _ a e n=>u.any e n a) (λb o a e n=>u.free b o e n a) (λb o a e=>u.there b o e a) u.ig u.EH u.EO (λy k=>by
  have⟨A,l,q,g,t⟩:=k;rw[ho]at g;cases g;show⟨_,l,q,d,t⟩) h i
def Inv.turned(I:Inv X pins σ H s)(k:∀b o,b≠it->s.heap.get? b=a5 o->h'.get? b=a5 o)(g:H it=b6)(d:it≠X.env.locals)
  (h:it∈X.ex\/X.s₀.heap.objs.size<=it) (i:∀x c,X.env.cells.lookup x=a5 c->c≠it) (j:∀p∈X.pn++pins,p.1≠it):Inv X pins σ H {s with heap:=h',toks:=t' }:=by
 have f:∀b u,H b=a5 u->b≠it:=λb u e z=>by rw[z,g]at e;cases e
 show I.step (g':=s.gens) (d':=s.drawn) (ch:=[it]) (λb l=>?_) (λb o _ _ a e _=>k b o (λz=>a (by simp[z])) e) (λb o _ _ a e _=>⟨o.slots,k b o (λz=>a (by simp[z])) e⟩) (λ_ _ _ _ n=>n)
  (λb o a e=>⟨o,k b o (λz=>a (by simp[z])) e⟩) (λ_ _ e=>e) (λ_ _ _ e=>e) (λb ps e=>⟨#[],by rw[e];simp⟩) (λm t=>?_) (λb u e=>?_) I.bare
 .have e:b=it:=by simpa using l
  subst e;show⟨h,d,i,j⟩
 .have⟨o,es,ep,ho,r⟩:=t;show⟨o,es,ep,k _ o (z8 d) ho,r⟩
 .show(I.Dw b u e).la (λc v a q=>k c v ?_ q) (λ_ q=>q) λ_ _ q=>q;rcases a with z|z
  .rw[z];show f b u e
  .show f c _ z
def Inv.tok(I:Inv X pins σ H s)(t:Nat):Inv X pins σ H {s with toks:=t}:=I.un (h':=s.heap) (t':=t) Un.refl I.Dw
def Inv.kept(I:Inv X pins σ H s)(k:∀b u,s.heap.get? b=a5 u->h'.get? b=a5 u):Inv X pins σ H {s with heap:=h',toks:=t' }:=I.un (Un.kept k) (I.Dw.kept k)
def Inv.laid(I:Inv X pins σ H s)(k:∀b u,s.heap.get? b=a5 u->h'.get? b=a5 u)(c:s.heap.objs.size<=a)(new:bz X.prog X.w (upd H a o) h' a o):
  Inv X pins σ (upd H a o) {s with heap:=h',toks:=t' }:=I.un (Un.laid k c (I.Dw.fresh c)) (I.Dw.laid k c new)
def Inv.write(I:Inv X pins σ H s)(a:IZ (H x))(c:e=x\/H e=a5 (.own x))(k:∀b u,b≠e->s.heap.get? b=a5 u->h'.get? b=a5 u)(d:∃u,h'.get? e=a5 u)
  (new:bz X.prog X.w (upd H x o) h' x o):Inv X pins σ (upd H x o) {s with heap:=h',toks:=t' }:=I.un (Un.write a c k d) (I.Dw.write a c k d new)
def Inv.weak(I:Inv X pins σ H s)(hl:a.length=σ.length)(w:∀(i:Nat) v,a[i]?=a5 (a5 v)->σ[i]?=a5 (a5 v)):Inv X pins a H s :=
 ⟨I.ok,I.os,I.bare,I.base,let ⟨m,b,c⟩:=I.loc;⟨m,b,λi x v d e f=>c i x v d (w i v e) f⟩,I.cell,I.free,I.D7,I.pin,I.Dw,hl.trans I.len⟩
def Inv.eS(I:Inv X pins σ H s)(h:∀p∈a,s.heap.get? p.1=a5 p.2/\H p.1=b6/\p.1≠X.env.locals/\p.1∉X.fs/\∀v,p.2.data≠.cell v):Inv X a σ H s :=
 ⟨I.ok,I.os,I.bare,I.base,I.loc,I.cell,I.free,I.D7,λp b=>(ko.mp b).elim (λz=>I.pin p (Uj _ z)) (h p),I.Dw,I.len⟩
def iF{N:List Str}(c:N.Nodup){i j:Nat}(a:N[i]?=a5 x)(b:N[j]?=a5 x):i=j:=by
 have⟨f,d⟩:=gi.mp a;have⟨g,e⟩:=gi.mp b;show(Vb c).mp (d.trans e.symm)
def j9(I:Inv X pins σ H s)(hN:X.N.Nodup)(D:X.N[i]?=a5 x)(l:Loc X.env.scope x)(r:RelV v u)
  (h:∀s',Inv X pins (σ.set i (a5 v)) H s'->(∃a,Gy a s.heap s'.heap/\(a=X.env.locals\/X.env.cells.lookup x=a5 a))->Q () s') (hf:X.fn x=b5\/X.env.scope.names.lookup x=a5 .local:=by first|show .inl rfl|show .inr rfl|assumption):fx M A (storeName X.env x u) Q E s:=by
 have⟨m,O,hl⟩:=id I.loc;have K_:(X.env.scope.kind==.class||(X.env.scope.kind==.module&&X.env.locals != X.env.globals))=df:=by rw[I.ok.kind];rfl
 have NC:i < σ.length:=by rw[I.len];show(gi.mp D).1
 have T:=I.Hz;have f:∀{a:hQ} {h':Hb},(∃o,s.heap.get? a=a5 o/\H a=b6)->Gy a s.heap h'->Ef X.prog X.w H h':=λ{a h'} ha hs b ob e=>by
  obtain⟨_,_,DM⟩:=ha;show(I.Dw b ob e).la (λc G hc q=>(hs.2 c ?_).trans q) (λ_ q=>q) λ_ _ q=>q;rintro rfl;rcases hc with rfl|hc
  .rw[DM]at e;cases e
  .rw[DM]at hc;cases hc
 rcases l with hk|hk
 .show wpAny_storeName_local hk O (λh' HA hs=>?_) K_;obtain⟨oL,_,_,GR,_⟩:=id O;show h _ ⟨I.ok,I.os,I.bare,⟨λb o e n B l=>?_,λb o e n B l=>?_,I.base.free,λb o e l=>?_,I.base.ig,I.base.EH,I.base.EO⟩,⟨_,HA,λj y Y g t e3=>?_⟩,λy c e=>?_,I.free,I.D7,λp hp=>?_,f ⟨oL,GR,I.free⟩ hs,by simpa using I.len⟩ ⟨_,hs,.inl rfl⟩
  .show(hs.2 b (k7 (k9 (hY e) I.ok.above))).trans (I.base.keep b o e n B l)
  .have⟨sl,g⟩:=I.base.slot b o e n B l;show⟨sl,(hs.2 b (k7 (k9 (hY e) I.ok.above))).trans g⟩
  .have⟨o',g⟩:=I.base.there b o e l;show⟨o',(hs.2 b (k7 (k9 (hY e) I.ok.above))).trans g⟩
  .by_cases C:j=i
   .subst C;rw[D]at g;cases g;rw[gj NC]at t;cases t;show⟨u,r,.inl ⟨hk,by simp⟩⟩
   .rw[k8 (z8 C)]at t;have⟨u',r',q⟩:=hl j y Y g t e3;show⟨u',r',?_⟩;rcases q with⟨k,e⟩|⟨k,c,e,z⟩
    .show .inl ⟨k,?_⟩;have:y≠x:=λe=>C (iF hN g (e▸D));simp[this,e]
    .show .inr ⟨k,c,e,z.sameBut hs (T y c e)⟩
  .have⟨G,z⟩:=I.cell y c e;show⟨G,z.sameBut hs (T y c e)⟩
  .have⟨e,n,J,nf,d⟩:=I.pin p hp;show⟨(hs.2 p.1 J).trans e,n,J,nf,d⟩
 .have GA:X.fn x=b5:=by
   rcases hf with z|z
   .show z
   .rw[z]at hk;cases hk
  have⟨c,hc⟩:=I.ok.has x (.inl hk);have⟨G,z⟩:=I.cell x c hc;show wpAny_storeName_cell I.ok.kind hk hc z (λh' GB hs=>?_);have⟨oc,ND,K'⟩:=id z;show h {s with heap:=h' } ⟨I.ok,I.os,I.bare,⟨λb o e n B l=>?_,λb o e n B l=>?_,I.base.free,λb o e l=>?_,I.base.ig,I.base.EH,I.base.EO⟩,⟨m,O.sameBut hs (z8 (T x c hc)),λj y Y g t e3=>?_⟩,λy L e=>?_,I.free,I.D7,λp hp=>?_,f ⟨oc,ND,I.D7 x c hc⟩ hs,by simpa using I.len⟩ ⟨c,hs,.inr hc⟩
  .show(hs.2 b (k7 (k9 (hY e) (I.ok.I_ x c GA hc)))).trans (I.base.keep b o e n B l)
  .have⟨sl,g⟩:=I.base.slot b o e n B l;show⟨sl,(hs.2 b (k7 (k9 (hY e) (I.ok.I_ x c GA hc)))).trans g⟩
  .have⟨o',g⟩:=I.base.there b o e l;show⟨o',(hs.2 b (k7 (k9 (hY e) (I.ok.I_ x c GA hc)))).trans g⟩
  .by_cases C:j=i
   .subst C;rw[D]at g;cases g;rw[gj NC]at t;cases t;show⟨u,r,.inr ⟨.inl hk,c,hc,GB⟩⟩
   .rw[k8 (z8 C)]at t;have⟨u',r',q⟩:=hl j y Y g t e3;show⟨u',r',?_⟩;rcases q with q|⟨k,L,e,z'⟩
    .show .inl q
    .show .inr ⟨k,L,e,z'.sameBut hs ?_⟩;rintro rfl;show C (iF hN g (I.ok.inj _ _ _ e hc▸D))
  .by_cases NF:L=c
   .subst NF;show⟨_,GB⟩
   .have⟨w2,z2⟩:=I.cell y L e;show⟨w2,z2.sameBut hs NF⟩
  .have⟨e,n,J,nf,d⟩:=I.pin p hp;show⟨(hs.2 p.1 ?_).trans e,n,J,nf,d⟩;intro q;rw[q,ND]at e;have q':oc=p.2:=vl e;show d G (by rw[<-q'];show K')
def mN(I:Inv X pins σ H s)(a:X.N.Nodup)(b:X.N[i]?=a5 x)(c:Loc X.env.scope x)(r:RelV v u)
  (h:∀s',Inv X pins (σ.set i (a5 v)) H s'->Q () s') (d:X.fn x=b5\/X.env.scope.names.lookup x=a5 .local:=by first|show .inl rfl|show .inr rfl|assumption):fx M A (storeName X.env x u) Q E s :=
 j9 I a b c r (λs' e _=>h s' e) d
def Inv.A2(I:Inv X pins σ H s)(ho:s'.os=s.os)(u:Un (Fu X.stack) ch H H' s.heap s'.heap)(a:Ef X.prog X.w H' s'.heap)(d:Px s'.gens)
  (f:∀b∈ch,(b∈X.ex\/X.s₀.heap.objs.size<=b)/\b≠X.env.locals/\(∀x c,X.env.cells.lookup x=a5 c->c≠b)/\∀p∈X.pn++pins,p.1≠b):Inv X pins σ H' s':=by
 have⟨h',g',d',t',g⟩:=s';have e:g=s.os:=ho;subst e;show I.call (g':=g') (t':=t') (d':=d') u a d f
end
@[reducible]def XK:=eH->Option hQ->Hp->Prop
@[reducible]def St:=List (Option V)
@[reducible]def VK:=V->Hp->Prop
@[reducible]def TE:=St->Hp->VK->Prop
@[reducible]def TT:=St->Hp->(Bool->Hp->Prop)->Prop
@[reducible]def TA:=St->Hp->(List V->Hp->Prop)->Prop
structure Ends where
 nx:St->Hp->Prop
 rt:VK
 bk:St->Hp->Prop:=λ_ _=>False
 ct:St->Hp->Prop:=λ_ _=>False
@[reducible]def TS:=Ends->St->Hp->Prop
abbrev EP(X:Cx)(a:List (hQ×Obj))(σ:St)(Q:VK)(u:eH)(s':hH):Prop:=∃v H',Inv X a σ H' s'/\RelV v u/\Q v H'
abbrev TP(X:Cx)(a:List (hQ×Obj))(σ:St)(Q:Bool->Hp->Prop)(b:Bool)(s':hH):Prop:=∃H',Inv X a σ H' s'/\Q b H'
abbrev AP(X:Cx)(a:List (hQ×Obj))(σ:St)(Q:List V->Hp->Prop)(us:List eH)(s':hH):Prop:=∃vs H',Inv X a σ H' s'/\Vals vs us/\Q vs H'
abbrev SP(X:Cx)(a:List (hQ×Obj))(D:Ends)(f:Flow)(s':hH):Prop :=
 match f with
 |.next=>∃b H',Inv X a b H' s'/\D.nx b H'
 |.brk=>∃b H',Inv X a b H' s'/\D.bk b H'
 |.cont=>∃b H',Inv X a b H' s'/\D.ct b H'
 |.ret u=>∃v b H',Inv X a b H' s'/\RelV v u/\D.rt v H'
abbrev PE(X:Cx)(e:pk)(t:TE):Prop :=
 ∀(a:List (hQ×Obj)) (s:hH) (σ:St) (H:Hp) (Q:VK),Inv X a σ H s->t σ H Q->fx (ke X.prog X.w) X.A (F' e X.env) (EP X a σ Q) X.xe s
abbrev PT(X:Cx)(e:pk)(t:TT):Prop :=
 ∀(a:List (hQ×Obj)) (s:hH) (σ:St) (H:Hp) (Q:Bool->Hp->Prop),Inv X a σ H s->t σ H Q->fx (ke X.prog X.w) X.A (isTrue e X.env (F' e X.env)) (TP X a σ Q) X.xe s
abbrev PW(X:Cx)(e:pk)(t:TT):Prop :=
 ∀(b:Sem eH) (a:List (hQ×Obj)) (s:hH) (σ:St) (H:Hp) (Q:Bool->Hp->Prop),Inv X a σ H s->t σ H Q->fx (ke X.prog X.w) X.A (isTrue e X.env b) (TP X a σ Q) X.xe s
def PW.pt(h:PW X e t):PT X e t:=h _
abbrev PA(X:Cx)(es:List pk)(t:TA):Prop :=
 ∀(pos:Pos) (a:List (hQ×Obj)) (s:hH) (σ:St) (H:Hp) (Q:List V->Hp->Prop),Inv X a σ H s->t σ H Q->fx (ke X.prog X.w) X.A (VQ (G_ pos (mu es X.env))) (AP X a σ Q) X.xe s
abbrev PS(X:Cx)(st:HK)(t:TS):Prop :=
 ∀(a:List (hQ×Obj)) (s:hH) (σ:St) (H:Hp) (D:Ends),Inv X a σ H s->t D σ H->fx (ke X.prog X.w) X.A (exec st X.env) (SP X a D) X.xe s
abbrev Eb(X:Cx)(st:List HK)(t:TS):Prop :=
 ∀(a:List (hQ×Obj)) (s:hH) (σ:St) (H:Hp) (D:Ends),Inv X a σ H s->t D σ H->fx (ke X.prog X.w) X.A (execs st X.env) (SP X a D) X.xe s
def Dx(h:fx M A t Q E s)(b:∀a s,Q a s->Q' a s):fx M A t Q' E s:=wk h b λ_ _ x=>x
section
abbrev CM(i:Nat):TE:=λσ H Q=>∃v,σ[i]?=a5 (a5 v)/\Q v H
abbrev tC(v:V):TE:=λ_ H Q=>Q v H
def bY(j:X.N[i]?=a5 x)(k:Fh X.env.scope x)(d:(x==("__debug__":Str))=df:=by decide)(n:(x==("__classdict__":Str))=df:=by decide):PE X (.Name x pos) (CM i):=by
 intro b s σ H Q I h;have⟨v,e,h⟩:=h;have⟨m,o,hl⟩:=I.loc;have⟨u,r,l⟩:=hl i x v j e k;have a:EP X b σ Q u s:=⟨v,H,I,r,h⟩
 rcases l with⟨hk,p⟩|⟨hk,c,f,g⟩
 .show VB (wpAny_loadName_local I.ok.kind hk o p a) d
 .rcases hk with hk|hk
  .show VB (wpAny_loadName_cell I.ok.kind hk f g a) d
  .show VB (wpAny_loadName_free I.ok.kind hk f g a n) d
def ot:PE X (.Constant (.int i) j pos) (tC (.int i)):=λ_ _ _ H _ I h=>wpAny_Constant_int ⟨.int i,H,I.tok _,⟨_,rfl⟩,h⟩
def A3:PE X (.Constant (.bool b) j pos) (tC (.bl b)):=λ_ _ _ H _ I h=>Constant_bool ⟨.bl b,H,I,rfl,h⟩
def yW:PE X (.Constant .none j pos) (tC .DB):=λ_ _ _ H _ I h=>Constant_none ⟨.DB,H,I,rfl,h⟩
def lh:PE X (.Constant (.str x) j pos) (tC (.str x)):=λ_ _ _ H _ I h=>Calls.Constant_str ⟨.str x,H,I.tok _,⟨_,rfl⟩,h⟩
abbrev Gl(X:Cx)(x:Str):Prop:=X.env.kindOf x=a5 .globalImplicit
def qh(I:Inv X a σ H s)(b:Gl X x)(c:X.mg x=a5 u)(h:Q u s)
  (d:(x==("__debug__":Str))=df:=by decide):fx (ke X.prog X.w) X.A (F' (.Name x pos) X.env) Q E s :=
 Tc I.ok.kind b (Calls.loadGlobal_global (by rw[I.ok.glob];show I.mod.glob.keeps I.bk) c h) d
def fm(I:Inv X a σ H s)(b:Gl X x)(c:X.mg x=b6)(d:IU x=a5 u)(h:Q u s)
  (e:x≠"__name__":=by decide) (f:(x==("__debug__":Str))=df:=by decide):fx (ke X.prog X.w) X.A (F' (.Name x pos) X.env) Q E s:=by
 have⟨j,g,i⟩:=I.mod.blt;show Tc I.ok.kind b (Calls.loadGlobal_builtin (by rw[I.ok.glob];show I.mod.glob.keeps I.bk) c (by rw[I.ok.blt];show g.keeps I.bk) ((i x e).trans d) h) f
abbrev PC(X:Cx)(op:CmpOp)(a b:pk)(t:TE):Prop :=
 ∀(c:List (hQ×Obj)) (s:hH) (σ:St) (H:Hp) (Q:VK),Inv X c σ H s->t σ H Q ->
  fx (ke X.prog X.w) X.A (F' a X.env) (λv d=>fx (ke X.prog X.w) X.A (F' b X.env) (λu e=>fx (ke X.prog X.w) X.A (J9 op v u) (EP X c σ Q) X.xe e) X.xe d) X.xe s
abbrev tB(t:TE):TT:=λσ H Q=>t σ H λx a=>∃c,x=.bl c/\Q c a
def tD(h:PC X op a b t)(f:M3 op b=df:=by first|show n _ (by decide) (by decide)|rfl):PT X (.Compare a [op] [b] pos) (tB t):=by
 intro e s σ H Q I g;show U4 (Dx (h e s σ H _ I g) λv s1 f=>Dx f λu s2 i=>Dx i λc s3 ⟨x,j,k,l,m⟩=>?_) f;have⟨d,rfl,q⟩:=m;cases l;show G9 ⟨j,k,q⟩
abbrev CN(t u:TT):TT:=λσ H Q=>t σ H λc a=>if c=b5 then u σ a Q else Q df a
abbrev O3(t u:TT):TT:=λσ H Q=>t σ H λc a=>if c=b5 then Q b5 a else u σ a Q
abbrev CO(t:TT):TT:=λσ H Q=>t σ H λc a=>Q (!c) a
def v9(d:PT X a f):PW X (.BoolOp .And [a] pos) f:=by
 intro g b s σ H Q I h;show isTrue_and (Dx (d b s σ H Q I h) λc s1 e=>?_);cases c with
 |true=>show WE e
 |false=>show e
def yX(d:PT X a f):PW X (.BoolOp .Or [a] pos) f:=by
 intro g b s σ H Q I h;show isTrue_or (Dx (d b s σ H Q I h) λc s1 e=>?_);cases c with
 |false=>show isTrue_or_nil e
 |true=>show e
def yY(j:PT X a k)(l:PW X (.BoolOp .And (b::e) pos) m):PW X (.BoolOp .And (a::b::e) pos) (CN k m):=by
 intro n d s σ H Q I h;show isTrue_and (Dx (j d s σ H _ I h) λc s1 o=>?_);have⟨f,g,i⟩:=o;cases c with
 |true=>show l n d s1 σ f Q g i
 |false=>show⟨f,g,i⟩
def A4(j:PT X a k)(l:PW X (.BoolOp .Or (b::e) pos) m):PW X (.BoolOp .Or (a::b::e) pos) (O3 k m):=by
 intro n d s σ H Q I h;show isTrue_or (Dx (j d s σ H _ I h) λc s1 o=>?_);have⟨f,g,i⟩:=o;cases c with
 |true=>show⟨f,g,i⟩
 |false=>show l n d s1 σ f Q g i
def yZ(d:PT X a e):PT X (.UnaryOp .Not a pos) (CO e):=by
 intro b s σ H Q I h;show isTrue_not (d b s σ H (λc f=>Q (!c) f) I h)
abbrev A5(b d:TE):TE:=λσ H Q=>b σ H λx a=>∃c,x=.bl c/\if c=b5 then d σ a Q else Q (.bl df) a
abbrev A6(a:TE):TE:=λσ H Q=>a σ H λx b=>∃c,x=.bl c/\Q (.bl (!c)) b
def y4(h:PE X a t):PE X (.BoolOp op [a] pos) t:=λb s σ H Q I c=>BoolOp_one (h b s σ H Q I c)
def y6(j:PE X a k)(l:PE X (.BoolOp .And (b::e) pos) m):PE X (.BoolOp .And (a::b::e) pos) (A5 k m):=by
 intro d s σ H Q I h;show BoolOp_and (Dx (j d s σ H _ I h) λv s1 n=>?_);have⟨x,g,i,o,f⟩:=n;have⟨c,rfl,f⟩:=f;cases o;show G9 ?_;cases c with
 |true=>show l d s1 σ g Q i f
 |false=>show⟨.bl df,g,i,rfl,f⟩
def y7(e:PE X a f):PE X (.UnaryOp .Not a pos) (A6 f):=by
 intro b s σ H Q I h;show UnaryOp_ (Dx (e b s σ H _ I h) λv s1 g=>?_);have⟨x,i,j,k,d⟩:=g;have⟨c,rfl,d⟩:=d;cases k;show not_of (G9 ⟨.bl (!c),i,j,rfl,d⟩)
end
abbrev D3(K:PySem.W.Frag)(H:Hp)(a:hQ)(xs:List V):Prop :=
 Rd H a (.lst xs) \/
  ∃(o:Obj) (b:Array eH) (n:Nat),K.lookup a=a5 o/\o.cls=.type "list"/\o.dict=b6/\o.data=.seq b n/\b.size<=dV/\Vals xs b.toList
abbrev DU(K:PySem.W.Frag)(H:Hp)(a:hQ)(xs:List V):Prop :=
 Rd H a (.tup xs) \/
  ∃(o:Obj) (b:Array eH) (n:Nat),K.lookup a=a5 o/\o.cls=.type "tuple"/\o.data=.seq b n/\b.size<=dV/\Vals xs b.toList
abbrev CP:eH->Option V
 |.none=>a5 .DB
 |.bool b=>a5 (.bl b)
 |.int i _=>a5 (.int i)
 |.str x _=>a5 (.str x)
 |.bytes b _=>a5 (.Kf b)
 |.float b _=>a5 (.Kg b)
 |.ref a=>a5 (.ref a)
 |.type n=>a5 (.ty n)
 |_=>b6
def RelV.abs(r:RelV x u):CP u=a5 x:=by
 cases x with
 |DB=>cases r;rfl
 |bl _=>cases r;rfl
 |ref _=>cases r;rfl
 |ty _=>cases r;rfl
 |_=>have⟨t,rfl⟩:=r;rfl
def RelV.inj(r:RelV x u)(q:RelV y u):x=y:=vl (r.abs.symm.trans q.abs)
theorem Vals.inj:∀{xs a:List V}{us:List eH},Vals xs us->Vals a us->xs=a
 |_,_,_,.nil,.nil=>rfl
 |_,_,_,.cons r t,.cons b t'=>by rw[r.inj b,Vals.inj t t']
section
def D3.of{K:PySem.W.Frag}(h:H a=a5 (.lst xs)):D3 K H a xs:=.inl (.inl h)
def DU.of{K:PySem.W.Frag}(h:H a=a5 (.tup xs)):DU K H a xs:=.inl (.inl h)
def Inv.list(I:Inv X c σ H s)(h:D3 X.K H a xs):∃b:List eH,Vals xs b/\PlainL s.heap a b.toArray/\xs.length<=dV:=by
 rcases h with h|⟨o,b,n,hk,d,f,hs,hz,r⟩
 .have⟨z,b,n,r,e⟩:=h.ok I.Dw;show⟨b,r,⟨_,n,e,rfl,rfl,rfl⟩,z⟩
 .show⟨b.toList,r,⟨o,n,I.Hy a o hk,d,f,by simpa using hs⟩,?_⟩;have e:=r.length;simp only[ro]at e;lia
def Inv.tuple(I:Inv X c σ H s)(h:DU X.K H a xs):∃b:List eH,Vals xs b/\UE s.heap a b.toArray/\xs.length<=dV:=by
 rcases h with h|⟨o,b,n,hk,d,hs,hz,r⟩
 .have⟨z,b,r,p⟩:=h.ok I.Dw;show⟨b,r,p,z⟩
 .show⟨b.toList,r,⟨o,I.Hy a o hk,d,n,by simpa using hs⟩,?_⟩;have e:=r.length;simp only[ro]at e;lia
def Inv.mO(I:Inv X b σ H s)(h:D3 X.K H a xs)(h':D3 X.K H a f):xs=f:=by
 obtain⟨g,r,⟨o,n,e,_,_,d⟩,_⟩:=I.list h;obtain⟨its',i,⟨k,l,c,_,_,d'⟩,_⟩:=I.list h';rw[e]at c;cases c;rw[d]at d';injection d' with j _
 have:g=its':=by simpa using WN TR j
 subst this;show r.inj i
def Inv.j_(I:Inv X b σ H s)(h:DU X.K H a xs)(h':DU X.K H a f):xs=f:=by
 obtain⟨g,r,⟨o,e,_,n,d⟩,_⟩:=I.tuple h;obtain⟨its',i,⟨k,c,_,l,d'⟩,_⟩:=I.tuple h';rw[e]at c;cases c;rw[d]at d';injection d' with j _
 have:g=its':=by simpa using WN TR j
 subst this;show r.inj i
end
@[reducible]def Cx.jU(X:Cx)(E:eH->hH->Prop):Cx:={X with xe:=E}
@[reducible]def Cx.Je(X:Cx):Cx:=X.jU λ_ _=>False
def Cx.Ok.jU{X:Cx}(a:X.Ok)(E:eH->hH->Prop):(X.jU E).Ok :=
 ⟨a.mod,a.kind,a.glob,a.blt,a.above,a.inj,a.has,a.I_,a.hd,a.frames,a.Kj,a.NA,a.bs,a.Ha,a.F2,a.GQ,a.iD,a.Ir⟩
def Cx.Ok.gk{X:Cx}(a:(X.jU E).Ok):X.Ok :=
 ⟨a.mod,a.kind,a.glob,a.blt,a.above,a.inj,a.has,a.I_,a.hd,a.frames,a.Kj,a.NA,a.bs,a.Ha,a.F2,a.GQ,a.iD,a.Ir⟩
section
def Inv.jU(I:Inv X a σ H s)(E:eH->hH->Prop):Inv (X.jU E) a σ H s:=⟨I.ok.jU E,I.os,I.bare,I.base,I.loc,I.cell,I.free,I.D7,I.pin,I.Dw,I.len⟩
def Inv.gk(I:Inv (X.jU E) a σ H s):Inv X a σ H s:=⟨I.ok.gk,I.os,I.bare,I.base,I.loc,I.cell,I.free,I.D7,I.pin,I.Dw,I.len⟩
def SP.gk(h:SP (X.jU E) a D f s'):SP X a D f s':=by
 cases f with
 |ret u=>have⟨v,b,H',I,r,q⟩:=h;show⟨v,b,H',I.gk,r,q⟩
 |_=>have⟨b,H',I,q⟩:=h;show⟨b,H',I.gk,q⟩
def Eb.Je{st:List HK}(h:Eb X.Je st t):Eb X st t:=λa s σ H D I b =>
 wk (h a s σ H D (I.jU _) b) (λ_ _ q=>q.gk) λ_ _ z=>J8 z
end
section
variable{X:Cx}{st:HK}{rest:List HK}{t u:TS}{e:pk}{te:TE}{pos:Pos}
abbrev tE:TS:=λD σ H=>D.nx σ H
abbrev CQ(t u:TS):TS:=λD σ H=>t {D with nx:=u D} σ H
def qi:Eb X [] tE:=λ_ _ σ H _ I h=>TK ⟨σ,H,I,h⟩
def d7(b:PS X st t)(c:Eb X rest u):Eb X (st::rest) (CQ t u):=by
 intro a s σ H D I h;show wpAny_execs_cons (Dx (b a s σ H {D with nx:=u D} I h) λf s1 q=>?_);cases f with
 |next =>
  have⟨d,H',g,q⟩:=q;show c a s1 d H' D g q
 |_=>show q
abbrev y8:TS:=λD σ H=>D.bk σ H
abbrev A7:TS:=λD σ H=>D.ct σ H
def v_:PS X (.Pass pos) tE:=λ_ _ σ H _ I h=>wpAny_Pass ⟨σ,H,I,h⟩
def tF:PS X (.Break pos) y8:=λ_ _ σ H _ I h=>wpAny_Break ⟨σ,H,I,h⟩
def mP:PS X (.Continue pos) A7:=λ_ _ σ H _ I h=>wpAny_Continue ⟨σ,H,I,h⟩
def Inv.quiet(I:Inv X a σ H s):interactive X.env=df:=by simp[interactive,I.ok.kind]
abbrev A8(te:TE):TS:=λD σ H=>te σ H λ_ a=>D.nx σ a
def dz(b:PE X e te)(hs:LR e b6 pos.line X.env=pure df:=by rfl):PS X (.Expr e pos) (A8 te):=by
 intro a s σ H D I h;show wpAny_Expr_any (Dx (b a s σ H _ I h) λv s1 ⟨x,c,d,g,f⟩=>⟨σ,c,d,f⟩) I.quiet hs
abbrev CS(te:TE):TS:=λD σ H=>te σ H D.rt
def y9(b:PE X e te):PS X (.Return (a5 e) pos) (CS te):=by
 intro a s σ H D I h;show wpAny_Return_some (Dx (b a s σ H _ I h) λv s1 ⟨x,c,d,f,g⟩=>⟨x,σ,c,d,f,g⟩)
abbrev A9:TS:=λD _ H=>D.rt .DB H
def wa:PS X (.Return b6 pos) A9:=λ_ _ σ H _ I h=>wpAny_Return_none ⟨.DB,σ,H,I,rfl,h⟩
abbrev A_(c:TT)(t u:TS):TS:=λD σ H=>c σ H λb a=>if b=b5 then t D σ a else u D σ a
def yo(k:PT X c l)(m:Eb X a t)(n:Eb X b u):PS X (.If c a b pos) (A_ l t u):=by
 intro f s σ H D I h;show wpAny_If (Dx (k f s σ H _ I h) λd s1 o=>?_);have⟨g,i,j⟩:=o;cases d with
 |true=>show m f s1 σ g D i j
 |false=>show n f s1 σ g D i j
abbrev tH:TS:=λ_ _ _=>False
def rH:Eb X sts tH:=λ_ _ _ _ _ _ h=>h.elim
end
@[reducible]def TG:=V->St->Hp->(St->Hp->Prop)->Prop
@[reducible]def Iu:=List V->St->Hp->(St->Hp->Prop)->Prop
abbrev PG(X:Cx)(a:pk)(t:TG):Prop :=
 ∀(b:List (hQ×Obj)) (s:hH) (σ:St) (H:Hp) (v:V) (u:eH) (Q:St->Hp->Prop),Inv X b σ H s->RelV v u->t v σ H Q ->
  fx (ke X.prog X.w) X.A (Oa a X.env u) (λ_ s'=>∃c H',Inv X b c H' s'/\Q c H') X.xe s
abbrev Jf(X:Cx)(ts:List pk)(t:Iu):Prop :=
 ∀(a:List (hQ×Obj)) (s:hH) (σ:St) (H:Hp) (vs:List V) (us:List eH) (Q:St->Hp->Prop),Inv X a σ H s->Vals vs us->t vs σ H Q ->
  fx (ke X.prog X.w) X.A (assignInOrder ((LO ts X.env).map (·.2)) us) (λ_ s'=>∃b H',Inv X a b H' s'/\Q b H') X.xe s
@[reducible]def y_:=V->V->V->Hp->(Hp->Prop)->Prop
abbrev iG(X:Cx)(t:y_):Prop :=
 ∀(a:List (hQ×Obj)) (s:hH) (σ:St) (H:Hp) (o i v:V) (b c u:eH) (Q:Hp->Prop),Inv X a σ H s->RelV o b->RelV i c->RelV v u->t o i v H Q ->
  fx (ke X.prog X.w) X.A (Pa b c u) (λ_ s'=>∃H',Inv X a σ H' s'/\Q H') X.xe s
@[reducible]def Lb:=V->V->Hp->VK->Prop
abbrev Kl(X:Cx)(op:Vh)(t:Lb):Prop :=
 ∀(a:List (hQ×Obj)) (s:hH) (σ:St) (H:Hp) (x y:V) (v u:eH) (Q:VK),Inv X a σ H s->RelV x v->RelV y u->t x y H Q ->
  fx (ke X.prog X.w) X.A (inplaceOp op v u) (EP X a σ Q) X.xe s
section
abbrev qj(i:Nat):TG:=λv σ H Q=>Q (σ.set i (a5 v)) H
def qk(b:X.N.Nodup)(c:X.N[i]?=a5 x)(d:Loc X.env.scope x)(e:X.fn x=b5\/X.env.scope.names.lookup x=a5 .local:=by first|show .inl rfl|show .inr rfl|assumption):PG X (.Name x pos) (qj i):=by
 intro a s σ H v u Q I r h;show VP (mN I b c d r (λs' f=>⟨_,H,f,h⟩) e)
abbrev Ba:Iu:=λvs σ H Q=>vs=[]/\Q σ H
abbrev yp(t:TG)(u:Iu):Iu:=λvs σ H Q=>∃v r,vs=v::r/\t v σ H λa H'=>u r a H' Q
def wb:Jf X [] Ba:=by
 intro a s σ H vs us Q I r h;have⟨e,h⟩:=h;subst e;cases r;show assignInOrder_nil ⟨σ,H,I,h⟩
def tI(b:PG X e t)(c:Jf X es u)
  (hs:(LO (e::es) X.env).map (·.2)=Oa e X.env::(LO es X.env).map (·.2):=by rfl):Jf X (e::es) (yp t u):=by
 intro a s σ H vs us Q I r h;have⟨v,m,d,h⟩:=h;subst d;cases r with
 |cons r f =>
  rw[hs];show assignInOrder_cons (Dx (b a s σ H _ _ _ I r h) λ_ s1 g=>?_);have⟨i,j,k,l⟩:=g;show c a s1 i j _ _ Q k f l
abbrev CT(K:PySem.W.Frag)(n:Nat)(t:Iu):TG:=λv σ H Q=>∃a xs,v=.ref a/\DU K H a xs/\xs.length=n/\t xs σ H Q
def za(f:X.calm=b5)(h:Jf X es t)
  (g:(LO es X.env).length=n:=by rfl) (i:(LO es X.env).findIdx? (·.1)=b6:=by rfl):PG X (.Tuple es k pos) (CT X.K n t):=by
 intro c s σ H v u Q I r d;have⟨a,xs,j,l,hl,d⟩:=d;subst j;cases r;have⟨w,rv,m,hz⟩:=I.tuple l;show assign_Tuple_tuple (I.ok.hd f) m (by simp[g,<-hl,rv.length]) i λh' p=>?_;have q:Inv X c σ H {s with heap:=h' }:=I.kept (t':=s.toks) λb o e=>p b o (k7 (hY e)) e;show h c _ σ H xs _ Q q (by simpa using rv) d
abbrev CU(a b:TE)(t:y_):TG:=λv σ H Q=>a σ H λo c=>b σ c λi d=>t o i v d λe=>Q σ e
def tJ(ho:PE X o d)(e:PE X i f)(hs:iG X t)
  (g:∀v,Oa (.Subscript o i pos) X.env v=(do
   let b <-Js [v] (F' o X.env)
   let c <-Js [v,b] (F' i X.env)
   TU pos
   Js [v,b,c] (Pa b c v)
   S7 [v,b,c] []):=by intro _;rfl):PG X (.Subscript o i pos) (CU d f t):=by
 intro a s σ H v u Q I r h;rw[g];show bD (DD (Dx (ho a s σ H _ I h) λb s1 j=>?_));have⟨x,k,l,m,n⟩:=j;show bD (DD (Dx (e a s1 σ k _ l n) λc s2 p=>?_));have⟨y,q,w,z,A⟩:=p;show bD (Ul (bD (DD (Dx (hs a s2 σ q x y v b c u _ w m z r A) λ_ s3 B=>?_))));have⟨C,D,G⟩:=B;show wpAny_release ⟨σ,C,D,G⟩
abbrev zb(a:TE)(g:TG):TS:=λD σ H=>a σ H λx b=>g x σ b D.nx
def ou(c:PE X e d)(f:PG X b g)(hs:M1 [b] e pos.line X.env=pure df:=by rfl)(i:R_ [b] e X.env=pure b6:=by rfl)
  (j:(LO [b] X.env).map (·.2)=[Oa b X.env]:=by rfl):PS X (.Assign [b] e pos) (zb d g):=by
 intro a s σ H D I h;show wpAny_Assign_stores (Dx (c a s σ H _ I h) λv s1 ⟨x,k,l,m,n⟩=>?_) hs i;rw[j];show Dx (f a s1 σ k x v _ l m n) λ_ s2 q=>q
def ox(c:X.N.Nodup)(d:X.N[i]?=a5 x)(f:Loc X.env.scope x)(g:PE X e j)(hs:LR e (a5 (.Name x a)) pos.line X.env=pure df:=by rfl)(k:X.fn x=b5\/X.env.scope.names.lookup x=a5 .local:=by first|show .inl rfl|show .inr rfl|assumption):
  PS X (.Assign [.Name x a] e pos) (zb j (qj i)):=by
 intro b s σ H D I h;show wpAny_Assign_Name (Dx (g b s σ H _ I h) λv s1 ⟨y,l,m,n,o⟩=>?_) hs;show mN m c d f n (λs2 p=>⟨_,l,p,o⟩) k
abbrev Bb(a b c:TE)(d:V->V->Hp->VK->Prop)(e:Lb)(f:y_):TS:=λD σ H=>a σ H λo g=>b σ g λi h=>d o i h λx j=>c σ j λy k=>e x y k λz l=>f o i z l λm=>D.nx σ m
abbrev Bc(X:Cx)(t:V->V->Hp->VK->Prop):Prop :=
 ∀(a:List (hQ×Obj)) (s:hH) (σ:St) (H:Hp) (o i:V) (b c:eH) (Q:VK),Inv X a σ H s->RelV o b->RelV i c->t o i H Q ->
  fx (ke X.prog X.w) X.A (My b c) (EP X a σ Q) X.xe s
def wc(ho:PE X o l)(m:PE X i n)(p:Bc X q)(r:PE X e t)(u:Kl X op w)(hs:iG X x)
  (y:∀b c new,Ww i b c new=(do Js [new,b,c] (Pa b c new);S7 [new,b,c] [];pure .next):=by intros;rfl):PS X (.AugAssign (.Subscript o i Pb) op e pos) (Bb l n t q w x):=by
 intro a s σ H D I h;show wpAny_AugAssign_SubscriptAny (Dx (ho a s σ H _ I h) λb s1 ⟨f,z,A,g,B⟩=>?_) y;show Dx (m a s1 σ z _ A B) λc s2 C=>?_;have⟨j,G,J,k,L⟩:=C;show Dx (p a s2 σ G f j b c _ J g k L) λd s3 N=>?_;have⟨O,Q,T,Y,q3⟩:=N;show Dx (r a s3 σ Q _ T q3) λv s4 Lg=>?_;have⟨x4,H4,I4,r4,q4⟩:=Lg;show Dx (u a s4 σ H4 O x4 d v _ I4 Y r4 q4) λnew s5 Lh=>?_;have⟨x5,H5,I5,r5,q5⟩:=Lh;show Dx (hs a s5 σ H5 f j x5 b c new _ I5 g k r5 q5) λ_ s6 ⟨H6,I6,q6⟩=>⟨σ,H6,I6,q6⟩
abbrev Li(f:Int->Int->Int):Lb:=λx y H Q=>∃i j,x=.int i/\y=.int j/\Q (.int (f i j)) H
def zc:Kl X .Add (Li λi j=>i+j):=by
 intro a s σ H x y v u Q I b c h;have⟨i,j,d,e,q⟩:=h;subst d;subst e;have⟨t,rfl⟩:=b;have⟨t',rfl⟩:=c;show iadd_int ⟨.int _,H,I.tok _,⟨_,rfl⟩,q⟩
def zd:Kl X .Sub (Li λi j=>i - j):=by
 intro a s σ H x y v u Q I b c h;have⟨i,j,d,e,q⟩:=h;subst d;subst e;have⟨t,rfl⟩:=b;have⟨t',rfl⟩:=c;show isub_int ⟨.int _,H,I.tok _,⟨_,rfl⟩,q⟩
end
section
abbrev ze(c:TT)(f:TS):TS:=λD σ H=>∃W:Nat->St->Hp->Prop,(∃m,W m σ H)/\∀m σ H,W m σ H ->
 c σ H λb a=>if b=b5 then ∃N:St->Hp->Prop,(∀d H',N d H'->∃e,e<m/\W e d H')/\f {D with nx:=N,ct:=N,bk:=D.nx} σ a else D.nx σ a
def tK(r:Tv (ke X.prog X.w) X.A X.env X.xe)(z:PT X c B)(C:Eb X body G):PS X (.While c body [] pos) (ze B G):=by
 intro a s σ H D I h;obtain⟨W,⟨m0,J⟩,d⟩:=h;show wpAny_While (codeAny_whileLoop (λn s'=>∃t H',Inv X a t H' s'/\W n t H') ?_ m0 ⟨σ,H,I,J⟩);rintro n s1 ⟨i,u,L,O⟩;show JZ r (Dx (z a s1 i u _ L (d n i u O)) λb s2 Q=>?_);have⟨v,x,j⟩:=Q;cases b with
 |true =>
  have⟨N,y,j⟩:=j;rw[WJ rfl];show JZ r (Dx (C a s2 i v _ x j) λf s3 k=>?_);cases f with
  |next =>
   have⟨e,g,l,m⟩:=k;have⟨o,p,q⟩:=y e g m;show⟨o,p,e,g,l,q⟩
  |cont =>
   have⟨e,g,l,m⟩:=k;have⟨o,p,q⟩:=y e g m;show⟨o,p,e,g,l,q⟩
  |_=>show k
 |false =>
  rw[WK mh];show TK ⟨i,v,x,j⟩
end
structure It where
 go:Nat->Hp->Prop
 Km:Nat->Hp->V->Hp->Prop
 stop:Nat->Hp->Prop
abbrev fG(X:Cx)(a:List (hQ×Obj))(H:Hp)(b:hQ):Prop :=
 H b=b6/\b≠X.env.locals/\b∉X.fs/\(b∈X.ex\/X.s₀.heap.objs.size<=b)/\(∀x c,X.env.cells.lookup x=a5 c->c≠b)/\∀p∈X.pn++a,p.1≠b
def Inv.we(I:Inv X a σ H s)(d:s.heap.objs.size<=b)(f:H' b=b6):fG X a H' b:=by
 show⟨f,Hd (k9 I.lt d),I.A1 d,.inr (vu I.sz d),λx c e z=>?_,λp g z=>?_⟩
 .have⟨v,q⟩:=I.cell x c e;show absurd (k9 q.lt (by rw[z];show d)) (wh _)
 .show absurd (k9 (hY (I.pin p g).1) (by rw[z];show d)) (wh _)
structure Turn(P:DW)(w:Fi)(K:PySem.W.Frag)(tg:pk)(J:It)(fp:List hQ)(it:hQ)(tn:Nat->Hb->Prop):Prop where
 mem:it∈fp
 obj:∀i h,tn i h->∀b∈fp,∃o,h.get? b=a5 o/\∀v,o.data≠.cell v
 keep:∀i h h',tn i h->(∀b∈fp,∀o,h.get? b=a5 o->h'.get? b=a5 o)->tn i h'
 item:∀(X:Cx),X.prog=P->X.w=w->X.K=K->X.calm=b5->∀(i:Nat) (pins:List (hQ×Obj)) (s:hH) (σ:St) (H:Hp) (E:eH->hH->Prop),Inv X pins σ H s->(∀b∈fp,fG X pins H b)->tn i s.heap->J.go i H ->
  fx (ke P w) X.A (Pn (.ref it)) (λr s1=>∃u,r=a5 u /\
   fx (ke P w) X.A (P1 tg (.ref it) u) (λ_ s2=>∃x H',Inv X pins σ H' s2/\RelV x u/\J.Km i H x H'/\tn (i+1) s2.heap/\∀b∈fp,H' b=b6) E s1) E s
 done:∀(X:Cx),X.prog=P->X.w=w->X.K=K->X.calm=b5->∀(i:Nat) (pins:List (hQ×Obj)) (s:hH) (σ:St) (H:Hp) (E:eH->hH->Prop),Inv X pins σ H s->(∀b∈fp,fG X pins H b)->tn i s.heap->J.stop i H ->
  fx (ke P w) X.A (Pn (.ref it)) (λr s1=>r=b6/\Inv X pins σ H s1) E s
 self:∀(A:Ke) (i:Nat) (s:hH) (Q:eH->hH->Prop) (E:eH->hH->Prop),tn i s.heap->Q (.ref it) s->fx (ke P w) A (T7 (.ref it)) Q E s
@[reducible]def TI:=St->Hp->(It->Hp->Prop)->Prop
abbrev NG(X:Cx)(a:List (hQ×Obj))(σ:St)(e:pk)(R:It->Hp->Prop)(f:eH)(s2:hH):Prop :=
 ∃(it:hQ) (c:List hQ) (d:Nat->Hb->Prop) (J:It) (H':Hp),f=.ref it/\Inv X a σ H' s2/\Turn X.prog X.w X.K e J c it d/\d 0 s2.heap/\(∀b∈c,fG X a H' b)/\R J H'
abbrev PI(X:Cx)(c b:pk)(d:TI):Prop :=
 ∀(a:List (hQ×Obj)) (s:hH) (σ:St) (H:Hp) (R:It->Hp->Prop),Inv X a σ H s->d σ H R ->
  fx (ke X.prog X.w) X.A (F' b X.env) (λv s1=>fx (ke X.prog X.w) X.A (T7 v) (NG X a σ c R) X.xe s1) X.xe s
def tL(ho:s.heap.get? it=a5 o)(b:o.cls=.type n)(c:o.data=.fields vs)
    (d:["enumerate","zip","dict_itemiterator","dict_reverseitemiterator","odict_iterator","itertools.zip_longest","itertools.pairwise"].contains n=df) (a:Q () s):fx M A (P1 e (.ref it) u) Q E s:=by
  unfold P1;cases e<;>first
    | show cb a
    | (cases u<;>first
        | show cb a
        | (show bD (VA ho ?_)
           rw[b,c];change fx M A (if (["enumerate","zip","dict_itemiterator","dict_reverseitemiterator","odict_iterator","itertools.zip_longest","itertools.pairwise"].contains n&&vs[0]?==a5 (DF _))=b5 then _ else _) Q E s;rw[WK (by intro h;rw[d,Vy]at h;cases h)];show cb a))
abbrev Lk(K:PySem.W.Frag)(a:hQ):It :=
 ⟨λi H=>∃xs x,D3 K H a xs/\xs[i]?=a5 x,λi H x H'=>H'=H/\∀xs,D3 K H a xs->xs[i]?=a5 x,λi H=>∃xs,D3 K H a xs/\xs.length<=i⟩
abbrev Ll(K:PySem.W.Frag)(a:hQ):It :=
 ⟨λi H=>∃xs x,DU K H a xs/\xs[i]?=a5 x,λi H x H'=>H'=H/\∀xs,DU K H a xs->xs[i]?=a5 x,λi H=>∃xs,DU K H a xs/\xs.length<=i⟩
abbrev Kp(lo:Int)(n:Nat):It:=⟨λi _=>i<n,λi H x H'=>H'=H/\x=.int (lo+i),λi _=>n<=i⟩
def rJ{K:PySem.W.Frag}(a it:hQ):Turn P w K tg (Lk K a) [it] it (λi h=>h.IsListIter it a i) where
 mem:=by simp
 obj:=λi h st b g=>by
  have e:b=it:=by simpa using g
  subst e;have⟨o,e,c,d⟩:=st;show⟨o,e,λv z=>by rw[d]at z;cases z⟩
 keep:=λi h h' st k=>st.at λo e=>k it (by simp) o e
 item:=by
  intro X m n q G i f s σ H E I j st r;subst m n q;have⟨xs,x,l,t⟩:=r;have⟨J,rv,p,hz⟩:=I.list l;have⟨u,L,N⟩:=rv.get t;have⟨y,A,O,B,C,D⟩:=j it (by simp);show wpAny_pyNext_list_item st p.isList (x:=u) (by simpa using L) λh' st' Q=>?_;have T:Inv X f σ H {s with heap:=h' }:=I.turned (t':=s.toks) (λb o g e=>(Q.2 b g).trans e) y A B C D;have⟨o,e,c,d⟩:=id st';show⟨u,rfl,tL (s:={s with heap:=h' }) e c d (by decide) ⟨x,H,T,N,⟨rfl,λys Y=>by rw[I.mO Y l];show t⟩,st',λb g=>(j b g).1⟩⟩
 done:=by
  intro X m n q G i f s σ H E I j st r;subst m n q;have⟨xs,l,t⟩:=r;have⟨J,rv,p,hz⟩:=I.list l;have⟨y,A,O,B,C,D⟩:=j it (by simp);have hl:=rv.length;show wpAny_pyNext_list_end (I.ok.hd G) st p.isList (by simp;lia) λh' eb=>⟨rfl,I.turned (t':=s.toks) (λb o g e=>eb b o g e) y A B C D⟩
 self:=λ_ _ _ _ _ st h=>wpAny_pyIter_listiter st h
def oy{K:PySem.W.Frag}(a it:hQ):Turn P w K tg (Ll K a) [it] it (λi h=>h.IsTupleIter it a i) where
 mem:=by simp
 obj:=λi h st b g=>by
  have e:b=it:=by simpa using g
  subst e;have⟨o,e,c,d⟩:=st;show⟨o,e,λv z=>by rw[d]at z;cases z⟩
 keep:=λi h h' st k=>st.at λo e=>k it (by simp) o e
 item:=by
  intro X m n q J i f s σ H E I j st r;subst m n q;have⟨xs,x,l,t⟩:=r;have⟨y,rv,p,hz⟩:=I.tuple l;have⟨u,L,N⟩:=rv.get t;have⟨A,B,O,C,D,G⟩:=j it (by simp);show wpAny_pyNext_tuple_item st (show s.heap.IsTuple a y.toArray from p) (x:=u) (by simpa using L) λh' st' Q=>?_;have T:Inv X f σ H {s with heap:=h' }:=I.turned (t':=s.toks) (λb o g e=>(Q.2 b g).trans e) A B C D G;have⟨o,e,c,d⟩:=id st';show⟨u,rfl,tL (s:={s with heap:=h' }) e c d (by decide) ⟨x,H,T,N,⟨rfl,λys Y=>by rw[I.j_ Y l];show t⟩,st',λb g=>(j b g).1⟩⟩
 done:=by
  intro X m n q J i f s σ H E I j st r;subst m n q;have⟨xs,l,t⟩:=r;have⟨y,rv,p,hz⟩:=I.tuple l;have⟨A,B,O,C,D,G⟩:=j it (by simp);have hl:=rv.length;show wpAny_pyNext_tuple_end (I.ok.hd J) st (show s.heap.IsTuple a y.toArray from p) (by simp;lia) λh' eb=>⟨rfl,I.turned (t':=s.toks) (λb o g e=>eb b o g e) A B C D G⟩
 self:=λ_ _ _ _ _ st h=>wpAny_pyIter_tupleiter st h
def oz{K:PySem.W.Frag}(it:hQ)(lo:Int)(n:Nat):Turn P w K L (Kp lo n) [it] it (λi h=>IsRangeIter h it (lo+(i:Nat) * 1) ((n:Int) - (i:Nat)) 1) where
 mem:=by simp
 obj:=λi h st b c=>by
  have e:b=it:=by simpa using c
  subst e;show⟨_,st,λv z=>by
   have A:V5 _=U7 v:=z;cases A⟩
 keep:=λi h h' st k=>k it (by simp) _ st
 item:=by
  intro X f g j l i a s σ H E I d st m;subst f g j;have⟨p,q,B,r,u,x⟩:=d it (by simp);have W:=Walks.range (prog:=X.prog) (w:=X.w) (I.ok.hd l) it lo 1 n;show W.item i s _ _ m st λv h' y C st' D=>?_;have⟨t,rfl⟩:=C;have G:Inv X a σ H {s with heap:=h',toks:=y}:=I.turned (λb o c e=>D b o (by simpa using c) e) p q r u x;show⟨_,rfl,tL (s:={s with heap:=h',toks:=y}) (n:="range_iterator") st' rfl rfl (by decide) ⟨.int (lo+i),H,G,⟨t,?_⟩,⟨rfl,rfl⟩,st',λb c=>(d b c).1⟩⟩;rw[Int.mul_one]
 done:=by
  intro X f g j l i a s σ H E I d st m;subst f g j;have⟨p,q,B,r,u,x⟩:=d it (by simp);show wpAny_pyNext_range_end (I.ok.hd l) st (by have:n<=i:=m;lia) λh' J=>⟨rfl,I.turned (t':=s.toks) (λb o c e=>J b o c e) p q r u x⟩
 self:=λ_ _ _ _ _ st h=>wpAny_pyIter_rangeiter st h
section
abbrev Bd(K:PySem.W.Frag)(c:TE):TI:=λσ H R=>c σ H λx b=>∃a,x=.ref a/\(∃xs,D3 K b a xs)/\R (Lk K a) b
abbrev CV(K:PySem.W.Frag)(c:TE):TI:=λσ H R=>c σ H λx b=>∃a,x=.ref a/\(∃xs,DU K b a xs)/\R (Ll K a) b
def wg(hl:PE X l f):PI X r l (Bd X.K f):=by
 intro c s σ H R I h;show Dx (hl c s σ H _ I h) λv s1 g=>?_;have⟨x,i,d,j,k⟩:=g;obtain⟨a,e,⟨xs,m⟩,q⟩:=k;subst e;cases j;have⟨t,rv,p,hz⟩:=d.list m;show S1 p.isList ?_;show⟨s1.heap.objs.size,[s1.heap.objs.size],_,_,i,rfl,d.kept (t':=s1.toks) λb o e=>et _ e,rJ a _,⟨_,hA _ rfl,rfl,rfl⟩,λb n=>?_,q⟩;have e:b=s1.heap.objs.size:=by simpa using n
 subst e;show d.we (gs _) (d.Dw.fresh (gs _))
def zf(hl:PE X l f):PI X t l (CV X.K f):=by
 intro c s σ H R I h;show Dx (hl c s σ H _ I h) λv s1 g=>?_;have⟨x,i,d,j,k⟩:=g;obtain⟨a,e,⟨xs,m⟩,q⟩:=k;subst e;cases j;have⟨n,rv,p,hz⟩:=d.tuple m;show LJ (show s1.heap.IsTuple a n.toArray from p) ?_;show⟨s1.heap.objs.size,[s1.heap.objs.size],_,_,i,rfl,d.kept (t':=s1.toks) λb o e=>et _ e,oy a _,⟨_,hA _ rfl,rfl,rfl⟩,λb r=>?_,q⟩;have e:b=s1.heap.objs.size:=by simpa using r
 subst e;show d.we (gs _) (d.Dw.fresh (gs _))
def tM{lo a:Int}(I:Inv X c σ H s)(g:-(2 ^ 62)<=lo)(h:lo<2 ^ 62)(i:-(2 ^ 62)<=a)(j:a<2 ^ 62)
  (q:R (Kp lo (a - lo).toNat) H):fx (ke X.prog X.w) X.A (T7 (.ref s.heap.objs.size)) (NG X c σ n R) E {s with heap:=s.heap.push {cls:=.type "range",data:=.fields #[.int lo t,.int a u,.int 1 v]},toks:=f}:=by
 show wpAny_pyIter_range (IsRange.new ..) (small_one g h i j) ?_;have d:Inv X c σ H {s with heap:=s.heap.push {cls:=.type "range",data:=.fields #[.int lo t,.int a u,.int 1 v]},toks:=f}:=I.kept λb o e=>et _ e;show⟨(s.heap.push {cls:=.type "range",data:=.fields #[.int lo t,.int a u,.int 1 v]}).objs.size,[(s.heap.push {cls:=.type "range",data:=.fields #[.int lo t,.int a u,.int 1 v]}).objs.size],_,_,H,rfl,
  d.kept (t':=f) λb o e=>et _ e,oz _ lo (a - lo).toNat,?_,λb k=>?_,q⟩
 .have l:lo+((0:Nat):Int) * 1=lo:=by simp
  have m:(((a - lo).toNat:Nat):Int) - ((0:Nat):Int)=V7 lo a 1:=by rw[rangeSize_one];split<;>lia
  change IsRangeIter _ _ (lo+((0:Nat):Int) * 1) ((((a - lo).toNat:Nat):Int) - ((0:Nat):Int)) 1;rw[l,m];show hA _ rfl
 .have e:b=(s.heap.push {cls:=.type "range",data:=.fields #[.int lo t,.int a u,.int 1 v]}).objs.size:=by simpa using k
  subst e;show d.we (gs _) (d.Dw.fresh (gs _))
abbrev Be(a:TA):TI:=λσ H R=>a σ H λvs b=>∃j:Int,vs=[.int j]/\-(2 ^ 62)<=j/\j<2 ^ 62/\R (Kp 0 j.toNat) b
def rK(d:Gl X "range")(f:X.mg "range"=b6)(g:PA X [a] i)(hs:mu [a] X.env=[(df,F' a X.env)]:=by rfl):PI X o (.Call (.Name "range" p) [a] [] pos) (Be i):=by
 intro b s σ H R I h;show Call_ (fm I d f boot_range (Jd (Dx (g pos b s σ H _ I h) λus s1 ⟨vs,u,k,l,c⟩=>?_) hs rfl));have⟨j,e,c,m,q⟩:=c;subst e;cases l with
 |cons r n =>
  cases n;have⟨t,rfl⟩:=r;show call_range_1 (tM k ⋯ ⋯ c m (by simpa using q))
abbrev CW(c:TI)(g:TG)(d:TS):TS:=λD σ H=>c σ H λJ e=>∃W:Nat->Nat->St->Hp->Prop,(∃m,W 0 m σ e)/\∀i m σ H,W i m σ H ->
 (J.stop i H/\D.nx σ H)\/(J.go i H/\∃N:St->Hp->Prop,(∀a H',N a H'->∃b,b<m/\W (i+1) b a H')/\∀x H',J.Km i H x H'->g x σ H' λf h=>d {D with nx:=N,ct:=N,bk:=D.nx} f h)
abbrev iH(a:List hQ)(h:Hb):List (hQ×Obj):=a.filterMap λb=>(h.get? b).map λo=>(b,o)
def dA(a:b∈c)(e:h.get? b=a5 o):(b,o)∈iH c h:=UH.mpr ⟨b,a,by rw[e];rfl⟩
def rL(a:p∈iH c h):p.1∈c/\h.get? p.1=a5 p.2:=by
 have⟨b,d,e⟩:=UH.mp a;cases q:h.get? b with
 |none=>rw[q]at e;cases e
 |some o =>
  rw[q]at e;have f:(b,o)=p:=vl e;subst f;show⟨d,q⟩
def Inv.pinned(I:Inv X a σ H s)(h:∀b∈c,fG X a H b)(ho:∀b∈c,∃o,s.heap.get? b=a5 o/\∀v,o.data≠.cell v):Inv X (a++iH c s.heap) σ H s :=
 I.eS λp i=>(ko.mp i).elim (λz=>I.pin p (vr _ z)) λz=>by
  have⟨f,e⟩:=rL z;obtain⟨j,k,l,_⟩:=h p.1 f;have⟨o,g,d⟩:=ho p.1 f;rw[e]at g;cases g;show⟨e,j,k,l,d⟩
def Inv.iI(I:Inv X (a++c) σ H s):Inv X a σ H s:=I.eS λp b=>I.pin p (vr _ (Uj _ b))
def zg(t:Tv (ke X.prog X.w) X.A X.env X.xe)(hc:X.calm=b5)(hi:PI X tg p wi)(hg:PG X tg g)(c:Eb X body tb)
  (hs:∀x,IF p X.env x=pure x:=by intro _;rfl):PS X (.For tg p body [] pos) (CW wi g tb):=by
 intro a s σ H D I h;show wpAny_For (Dx (hi a s σ H _ I h) λv s1 h1=>Dx h1 λKo s2 h2=>?_) hs;obtain⟨it,y,tn,J,H2,e,I2,T,st2,f2,W,⟨m0,w0⟩,z⟩:=h2;subst e;have O:∀{H':Hp},(∀b∈y,H' b=b6)->∀b∈y,fG X a H' b:=λhn b c=>⟨hn b c,(f2 b c).2⟩
 show codeAny_forLoop_any (λn s'=>∃i B H',Inv X a B H' s'/\tn i s'.heap/\(∀b∈y,H' b=b6)/\W i n B H') ?_ m0 ⟨0,σ,H2,I2,st2,λb c=>(f2 b c).1,w0⟩;rintro n s3 ⟨i,C,L,I3,st3,Jg,w3⟩;rcases z i n C L w3 with⟨G,qn⟩|⟨go,N,hN,Vf⟩
 .show JZ t (Dx (T.done X rfl rfl rfl hc i a s3 C L X.xe I3 (O Jg) st3 G) λr s4 Lo=>?_);have⟨Q,I4⟩:=Lo;subst Q;show TK ⟨C,L,I4,qn⟩
 .show JZ t (Dx (T.item X rfl rfl rfl hc i a s3 C L X.xe I3 (O Jg) st3 go) λr s4 Lp=>?_);have⟨u,Q,h4⟩:=Lp;subst Q;show JZ t (Dx h4 λ_ s5 Lq=>?_);have⟨x,H5,I5,r5,y5,Y,Lr⟩:=Lq;have Ls:=I5.pinned (O Lr) (T.obj _ _ Y);show JZ t (Dx (hg _ s5 C H5 x u _ Ls r5 (Vf x H5 y5)) λ_ s6 Lu=>?_);have⟨σ6,H6,I6,q6⟩:=Lu;show JZ t (Dx (c _ s6 σ6 H6 _ I6 q6) λf s7 q=>?_);have Wy:∀{j:St} {k:Hp},Inv X (a++iH y s5.heap) j k s7->N j k->∃m,m<n/\∃i B H',Inv X a B H' s7/\tn i s7.heap/\(∀b∈y,H' b=b6)/\W i m B H':=λ{j k} l n7=>by
   have⟨m',hm,w7⟩:=hN j k n7;show⟨m',hm,i+1,j,k,l.iI,T.keep _ _ _ Y λb c o e=>(l.pin (b,o) (vr _ (vr _ (dA c e)))).1,λb c=>?_,w7⟩;have⟨o,e,d⟩:=T.obj _ _ Y b c;show(l.pin (b,o) (vr _ (vr _ (dA c e)))).2.1
  cases f with
  |brk=>have⟨j,k,l,q⟩:=q;show⟨j,k,l.iI,q⟩
  |ret v=>have⟨x7,j,k,l,r7,q⟩:=q;show⟨x7,j,k,l.iI,r7,q⟩
  |_=>have⟨j,k,l,n7⟩:=q;show Wy l n7
end
@[reducible]def R2:=V->V->Hp->VK->Prop
abbrev ER(X:Cx)(f:eH->eH->Sem eH)(r:R2):Prop :=
 ∀(a:List (hQ×Obj)) (s:hH) (σ:St) (H:Hp) (x y:V) (v u:eH) (Q:VK),Inv X a σ H s->RelV x v->RelV y u->r x y H Q ->
  fx (ke X.prog X.w) X.A (f v u) (EP X a σ Q) X.xe s
abbrev Lv(X:Cx)(f:eH->Sem eH)(r:V->Hp->VK->Prop):Prop :=
 ∀(a:List (hQ×Obj)) (s:hH) (σ:St) (H:Hp) (x:V) (v:eH) (Q:VK),Inv X a σ H s->RelV x v->r x H Q ->
  fx (ke X.prog X.w) X.A (f v) (EP X a σ Q) X.xe s
abbrev gN(X:Cx)(f:eH)(r:List V->Hp->VK->Prop):Prop :=
 ∀(a:List (hQ×Obj)) (s:hH) (σ:St) (H:Hp) (xs:List V) (us:List eH) (Q:VK),Inv X a σ H s->Vals xs us->r xs H Q ->
  fx (ke X.prog X.w) X.A (MD f us) (EP X a σ Q) X.xe s
abbrev CY(X:Cx)(r:V->Hp->(Bool->Hp->Prop)->Prop):Prop :=
 ∀(a:List (hQ×Obj)) (s:hH) (σ:St) (H:Hp) (x:V) (v:eH) (Q:Bool->Hp->Prop),Inv X a σ H s->RelV x v->r x H Q ->
  fx (ke X.prog X.w) X.A (Wm v) (TP X a σ Q) X.xe s
abbrev Pc(r:R2)(a b:TE):TE:=λσ H Q=>a σ H λx c=>b σ c λy d=>r x y d Q
abbrev Pd(r:V->Hp->VK->Prop)(a:TE):TE:=λσ H Q=>a σ H λx b=>r x b Q
abbrev rI(C:Int->Int->Prop)(g:Int->Int->V):R2:=λx y H Q=>∃i j,x=.int i/\y=.int j/\C i j/\Q (g i j) H
abbrev HE(g:Int->Int->V):R2:=λx y H Q=>∃i j,x=.int i/\y=.int j/\Q (g i j) H
abbrev rU(g:Int->V):V->Hp->VK->Prop:=λx H Q=>∃i,x=.int i/\Q (g i) H
section
def CZ(g:PE X a i)(j:PE X b k){R:V->V->Hp->Prop}(I:Inv X c σ H s)
  (h:i σ H λx e=>k σ e λy d=>R x y d) {f:eH->eH->Sem eH}
  (l:∀v u s2 x y d,Inv X c σ d s2->RelV x v->RelV y u->R x y d->fx (ke X.prog X.w) X.A (f v u) Q X.xe s2) :
  fx (ke X.prog X.w) X.A (F' a X.env) (λv m=>fx (ke X.prog X.w) X.A (F' b X.env) (λu n=>fx (ke X.prog X.w) X.A (f v u) Q X.xe n) X.xe m) X.xe s:=by
 show Dx (g c s σ H _ I h) λv s1 o=>?_;have⟨x,e,p,q,r⟩:=o;show Dx (j c s1 σ e _ p r) λu s2 t=>?_;have⟨y,d,z,B,C⟩:=t;show l v u s2 x y d z q B C
def Bg(ho:Lv X (unaryOp op) r)(c:PE X a d):PE X (.UnaryOp op a pos) (Pd r d):=by
 intro b s σ H Q I h;show UnaryOp_ (Dx (c b s σ H _ I h) λv s1 ⟨x,e,f,g,i⟩=>ho b s1 σ e x v Q f g i)
def Kq{g:Int->Int->Int}
  (VE:∀(i j:Int) (t u:Tok) (s:hH) (Q:eH->hH->Prop) (E:eH->hH->Prop),C i j->Q (.int (g i j) s.toks) {s with toks:=s.toks+1}->fx (ke X.prog X.w) X.A (f (.int i t) (.int j u)) Q E s) :
  ER X f (rI C λi j=>.int (g i j)):=by
 intro a s σ H x y v u Q I b c h;have⟨i,j,rfl,rfl,d,q⟩:=h;have⟨t,rfl⟩:=b;have⟨t',rfl⟩:=c;show VE i j t t' s _ _ d ⟨.int (g i j),H,I.tok _,⟨_,rfl⟩,q⟩
def Bh{g:Int->Int->Int}
  (VE:∀(i j:Int) (t u:Tok) (s:hH) (Q:eH->hH->Prop) (E:eH->hH->Prop),Q (.int (g i j) s.toks) {s with toks:=s.toks+1}->fx (ke X.prog X.w) X.A (f (.int i t) (.int j u)) Q E s) :
  ER X f (HE λi j=>.int (g i j)):=by
 intro a s σ H x y v u Q I b c h;have⟨i,j,rfl,rfl,q⟩:=h;have⟨t,rfl⟩:=b;have⟨t',rfl⟩:=c;show VE i j t t' s _ _ ⟨.int (g i j),H,I.tok _,⟨_,rfl⟩,q⟩
def zh{g:Int->Int->Bool}
  (VE:∀(i j:Int) (t u:Tok) (s:hH) (Q:eH->hH->Prop) (E:eH->hH->Prop),Q (.bool (g i j)) s->fx (ke X.prog X.w) X.A (f (.int i t) (.int j u)) Q E s) :
  ER X f (HE λi j=>.bl (g i j)):=by
 intro a s σ H x y v u Q I b c h;have⟨i,j,rfl,rfl,q⟩:=h;have⟨t,rfl⟩:=b;have⟨t',rfl⟩:=c;show VE i j t t' s _ _ ⟨.bl (g i j),H,I,rfl,q⟩
abbrev C0(i j:Int):Prop:=0<j/\j<1073741824
abbrev C1(i j:Int):Prop:=0<=j/\j<=1000000/\i.natAbs<2 ^ 64
abbrev zi(i j:Int):Prop:=(-(2 ^ 64)<i/\i<2 ^ 64)\/(-(2 ^ 64)<j/\j<2 ^ 64)
def zi.ok(h:zi i j):IntMulOk i j:=by
 rcases h with⟨a,b⟩|⟨a,b⟩
 .show .of_left (intBits_le_64 a b)
 .show .of_right (intBits_le_64 a b)
def iJ:ER X (Ln .Add) (HE λi j=>.int (i+j)):=Bh λ_ _ _ _ _ _ _ q=>add_int q
def oA:ER X (Ln .Sub) (HE λi j=>.int (i - j)):=Bh λ_ _ _ _ _ _ _ q=>sub_int q
def lj:ER X (Ln .Mult) (rI zi λi j=>.int (i * j)):=Kq λ_ _ _ _ _ _ _ a q=>mul_int q a.ok
def wj:ER X (Ln .FloorDiv) (rI C0 λi j=>.int (i / j)):=Kq λi j _ _ _ _ _ a q=>by
 have b:(0:Int)<j:=a.1;have c:j<1073741824:=a.2;show floordiv_int ⋯ (by rw[Int.fdiv_eq_ediv_of_nonneg i ⋯];show q) (.inl (PyProof.noPylong_small ⋯))
def cy:ER X (Ln .Mod) (rI (λ_ j=>0<j) λi j=>.int (i % j)):=Kq λi j _ _ _ _ _ a q=>by
 have b:(0:Int)<j:=a;show mod_int' ⋯ (by rw[Int.fmod_eq_emod_of_nonneg i ⋯];show q)
def ll:ER X (Ln .Pow) (rI C1 λi j=>.int (i ^ j.toNat)):=Kq λ_ _ _ _ _ _ _ a q=>pow_int_small a.1 a.2.1 a.2.2 q
def Pe{g:Int->Int}
  (VE:∀(i:Int) (t:Tok) (s:hH) (Q:eH->hH->Prop) (E:eH->hH->Prop),Q (.int (g i) s.toks) {s with toks:=s.toks+1}->fx (ke X.prog X.w) X.A (f (.int i t)) Q E s) :
  Lv X f (rU λi=>.int (g i)):=by
 intro a s σ H x v Q I b h;have⟨i,rfl,q⟩:=h;have⟨t,rfl⟩:=b;show VE i t s _ _ ⟨.int (g i),H,I.tok _,⟨_,rfl⟩,q⟩
def zj:Lv X (unaryOp .USub) (rU λi=>.int (-i)):=Pe λ_ _ _ _ _ q=>neg_int q
end
section
def Bi:ER X (J9 .Lt) (HE λi j=>.bl (ez (i<j))):=zh λ_ _ _ _ _ _ _ q=>lt_int q
def Bj:ER X (J9 .Gt) (HE λi j=>.bl (ez (j<i))):=zh λ_ _ _ _ _ _ _ q=>gt_int q
def Bk:ER X (J9 .GtE) (HE λi j=>.bl (ez (j<=i))):=zh λ_ _ _ _ _ _ _ q=>ge_int q
abbrev Bl(K:PySem.W.Frag)(x:V)(H:Hp)(k:Bool):Prop :=
 match x with
 |.DB=>k=df
 |.bl b=>k=b
 |.int i=>k=(i != 0)
 |.str y=>y.length<=dV/\k=((y.length:Int) != 0)
 |.Kf y=>y.size<=dV/\k=((y.size:Int) != 0)
 |.ref p=>(∃xs,D3 K H p xs/\k=!xs.isEmpty)\/(∃xs,DU K H p xs/\k=!xs.isEmpty)\/∃kvs,H p=a5 (.dK kvs)/\k=!kvs.isEmpty
 |_=>False
def oB(r:KV kvs vs):(!vs.isEmpty)=!kvs.isEmpty:=by
 cases r<;>rfl
def iK(r:Vals xs a):(!a.toArray.isEmpty)=!xs.isEmpty:=by
 cases r<;>simp
def d8:(dV:Nat)<2 ^ 63:=by rw[sizeLine_eq];decide
def zk:CY X (λx H Q=>∃k,Bl X.K x H k/\Q k H):=by
 intro j s σ H x v Q I d h;have⟨k,e,q⟩:=h;have hl:=d8;have hs:dV=16777216:=sizeLine_eq;cases x with
 |DB =>
  cases d;have a:k=df:=e;subst a;show truthy_none ⟨H,I,q⟩
 |bl b =>
  cases d;have a:k=b:=e;subst a;show G9 ⟨H,I,q⟩
 |int i =>
  have⟨t,rfl⟩:=d;have a:k=(i != 0):=e;subst a;show PySem.P.truthy_int ⟨H,I,q⟩
 |str y =>
  have⟨t,rfl⟩:=d;obtain⟨l,a⟩:y.length<=dV/\k=((y.length:Int) != 0):=e;subst a;show PySem.P.truthy_str ⋯ ⟨H,I.tok _,q⟩
 |Kf y =>
  have⟨t,rfl⟩:=d;obtain⟨l,a⟩:y.size<=dV/\k=((y.size:Int) != 0):=e;subst a;show PySem.W.truthy_bytes ⋯ ⟨H,I.tok _,q⟩
 |ref p =>
  cases d;have a:(∃xs,D3 X.K H p xs/\k=!xs.isEmpty)\/(∃xs,DU X.K H p xs/\k=!xs.isEmpty)\/∃kvs,H p=a5 (.dK kvs)/\k=!kvs.isEmpty:=e;rcases a with⟨xs,f,a⟩|⟨xs,f,a⟩|⟨kvs,f,a⟩
  .subst a;have⟨n,r,g,hz⟩:=I.list f;have c:=r.length;show wpAny_truthy_list g.isList (by simp only[hW];lia) ⟨H,I.tok _,by rw[iK r];show q⟩
  .subst a;have⟨n,r,g,hz⟩:=I.tuple f;have c:=r.length;show truthy_tuple g (by simp only[hW];lia) ⟨H,I.tok _,by rw[iK r];show q⟩
  .subst a;obtain⟨hz,o,vs,r,m⟩:kvs.length<=dV/\(p==Fv)=df/\∃vs,KV kvs vs/\s.heap.DictOf (aI X.prog X.w) p vs:=I.Dw p _ f;have c:kvs.length=vs.length:=Paired.length r;show wpAny_truthy_dict o m ⋯ ⟨H,I.tok _,by rw[oB r];show q⟩
 |_=>show(show False from e).elim
def tN(d:PE X a e)(f:∀b,isTrue a X.env b=(do let v <-b;TU a.pos;Js [v] (Wm v))):
  PT X a (λσ H Q=>e σ H λx H'=>∃k,Bl X.K x H' k/\Q k H'):=by
 intro c s σ H Q I h;show isTrue_plain (Dx (d c s σ H _ I h) λv s1 ⟨x,g,i,j,l⟩=>zk c s1 σ g x v Q i j l) (f _)
def oC:ER X (Ln .Add) (λx y H Q=>∃i j,x=.str i/\y=.str j/\i.length+j.length<=dV/\Q (.str (i++j)) H):=by
 intro a s σ H x y v u Q I b c h;have⟨i,j,rfl,rfl,hz,q⟩:=h;have⟨t,rfl⟩:=b;have⟨t',rfl⟩:=c;show add_str (λt' d=>⟨.str (i++j),H,I.tok _,⟨_,rfl⟩,q⟩) hz
def vals1(r:Vals [x] us):∃u,us=[u]/\RelV x u:=by
 cases r with
 |cons a b=>cases b;show⟨_,rfl,a⟩
def lp:gN X (.type "str") (λxs H Q=>∃i,xs=[.int i]/\i.natAbs.log2<1920/\Q (.str (Wk i)) H):=by
 intro a s σ H xs us Q I r h;have⟨i,rfl,hz,q⟩:=h;have⟨u,rfl,t,rfl⟩:=vals1 r;show PySem.P.str_of_int hz ⟨.str _,H,I.tok _,⟨_,rfl⟩,q⟩
end
section
end
def ia.some_of(r:ia (a5 v) o):∃u,o=a5 u/\RelV v u:=by
 cases o with
 |none=>show(show False from r).elim
 |some u=>show⟨u,rfl,r⟩
section
end
structure Pf(K:PySem.W.Frag)(C:hQ):Prop where
 pg:PySem.W.plainGet K C td=b5
 hd:PySem.W.hasDictIn K C=b5
 po:PySem.W.plainOver K C=b5
 sa:PySem.W.findIn K (.ref C) "__setattr__"=a5 (a5 (.builtin "object.__setattr__"))
section
end
section
end
section
inductive iL(K:PySem.W.Frag)(H:Hp):V->eH->Prop where
 |DB:iL K H .DB (.type "NoneType")
 |bl (x:Bool):iL K H (.bl x) (.type "bool")
 |int (i:Int):iL K H (.int i) (.type "int")
 |str (x:Str):iL K H (.str x) (.type "str")
 |Kg (x:UInt64):iL K H (.Kg x) (.type "float")
 |lst {a:hQ} {xs:List V} (e:H a=a5 (.lst xs)):iL K H (.ref a) (.type "list")
 |FE {a:hQ} {o:Obj} {xs:List V} (e:H a=a5 (.FE o (.lst xs))):iL K H (.ref a) (.type "list")
 |tup {a:hQ} {xs:List V} (e:H a=a5 (.tup xs)):iL K H (.ref a) (.type "tuple")
 |dK {a:hQ} {kvs:List (Key×V)} (e:H a=a5 (.dK kvs)):iL K H (.ref a) (.type "dict")
 |dT {a:hQ} {kvs:List (List Key×V)} (e:H a=a5 (.dT kvs)):iL K H (.ref a) (.type "dict")
 |ins {a C dx:hQ} {fs:List (Str×V)} (e:H a=a5 (.ins C dx fs)) (cl:Pf K C) (ha:PySem.W.findIn K (.ref C) "__class__"=a5 (a5 (.builtin "object.__class__")))
   (hn:PySem.W.specialIn K (.builtin "object.__class__") "__get__"=a5 (a5 (.builtin "getset_descriptor.__get__"))) (Ph:PySem.W.takesIn K (.builtin "object.__class__")=a5 b5)
   (hm:PySem.W.mroIn K C (.type "object")=a5 b5):iL K H (.ref a) (.ref C)
end
structure fc(k:Nat)(A:Ke):Prop where
 hd:A.handled=b6
 dp:A.depth+3 * k+5<Wn
 un:A.units+16 * k+200<Eg
 gd:A.guards=a5 []
def fc.deeper(r:fc (k+1) A)(env:Env):fc k (A.deeper env) :=
 ⟨r.hd,by have:=r.dp;change A.depth+1+3 * k+5 < _;lia,by have:=r.un;change A.units+3+16 * k+200 < _;lia,r.gd⟩
def fc.depth(r:fc k A):A.depth<Wn:=by have:=r.dp;lia
abbrev C2:TA:=λ_ H Q=>Q [] H
abbrev Bm(a:TE)(b:TA):TA:=λσ H Q=>a σ H λx c=>b σ c λxs d=>Q (x::xs) d
section
def d9:PA X [] C2:=λ_ _ _ _ H Q I h=>Nw ⟨[],H,I,.nil,h⟩
def cY(b:PE X e c)(d:PA X es t)(hs:mu (e::es) X.env=(df,F' e X.env)::mu es X.env:=by rfl):PA X (e::es) (Bm c t):=by
 intro pos a s σ H Q I h;rw[hs];change fx _ _ (VQ ((df,F' e X.env)::G_ pos (mu es X.env))) _ _ s;show Le (Dx (b a s σ H _ I h) λu s1 f=>?_);have⟨x,g,i,j,k⟩:=f;show Dx (d pos a s1 σ g _ i k) λus s2 ⟨xs,l,m,n,o⟩=>⟨x::xs,l,m,.cons j n,o⟩
abbrev C3(t:TA):TE:=λσ H Q=>t σ H λxs a=>xs.length<=dV/\∀p,a p=b6->Q (.ref p) (upd a p (.lst xs))
def zl(h:PA X es t):PE X (.List es pos) (C3 t):=by
 intro a s σ H Q I f;show VC (Dx (h pos a s σ H _ I f) λus s1 ⟨xs,c,d,r,z,q⟩=>⟨by rw[<-r.length];show z,?_⟩);have g:c s1.heap.objs.size=b6:=d.Dw.fresh (gs _);show⟨.ref s1.heap.objs.size,upd c s1.heap.objs.size (.lst xs),d.laid (t':=s1.toks) (λb u e=>et _ e) (gs _) ?_,rfl,q _ g⟩;show⟨z,us,0,r,hA _ rfl⟩
end
@[reducible]def Sp:=List V->Hp->VK->XK->Prop
@[reducible]def Iv:=List Env->Hp->hH->XK->eH->hH->Prop
structure wm(P:DW)(w:Fi)(K:PySem.W.Frag)(mg:Str->Option eH)(base:Hb)(A:Ke)(outer:List Env)(s:hH)(H:Hp):Prop where
 frames:A.frames=a5 outer
 mod:Mod K mg base
 bs:∀b o,base.get? b=a5 o->s.heap.get? b=a5 o/\H b=b6
 Ha:base.objs.size<=s.heap.objs.size
 iD:s.heap.FunFrames base outer
 Ir:∀b∈Fu outer,H b=b6
 Dw:Ef P w H s.heap
 bare:Px s.gens
abbrev CE(outer:List Env)(P:DW)(w:Fi)(H:Hp)(s:hH)(Q:VK)(u:eH)(s':hH):Prop :=
 ∃v H',s'.os=s.os/\Px s'.gens/\Un (Fu outer) [] H H' s.heap s'.heap/\Ef P w H' s'.heap/\RelV v u/\Q v H'
abbrev CR(CX:Iv)(outer:List Env)(P:DW)(w:Fi)(H:Hp)(s:hH)(Q:VK)(E:XK)(r:Result)(s':hH):Prop :=
 match r with
 |.ok (.ret u)=>CE outer P w H s Q u s'
 |.ok _=>False
 |.error e=>CX outer H s E e s'
structure lq(P:DW)(w:Fi)(K:PySem.W.Frag)(mg:Str->Option eH)(base:Hb)(CX:Iv)(k:Nat)(f:hQ)(fd:O9)(ps:List Str)(sp:Sp):Prop where
 len:∀vs H Q E,sp vs H Q E->vs.length=ps.length
 run:∀(A:Ke) (outer:List Env) (s:hH) (H:Hp) (args:Args) (us:List eH) (vs:List V) (Q:VK) (E:XK),fc k A->wm P w K mg base A outer s H->UW s fd args (ps.zip us)->Vals vs us->sp vs H Q E ->
  OU (ke P w) A (.call (.ref f) args) (CR CX outer P w H s Q E) s
section
def Inv.C4(I:Inv X a σ H s):wm X.prog X.w X.K X.mg X.base X.A X.stack s H :=
 ⟨I.ok.frames,I.ok.mod,I.bs,vu I.ok.Ha I.sz,I.stack,I.qg,I.Dw,I.bare⟩
def Inv.after(I:Inv X a σ H s)(h:CE X.stack X.prog X.w H s Q u s'):EP X a σ Q u s':=by
 have⟨v,H',os,c,e,f,r,q⟩:=h;have⟨hh,g,d,t,i⟩:=s';obtain rfl:i=s.os:=os;show⟨v,H',I.call (h':=hh) (g':=g) (d':=d) (t':=t) (ch:=[]) e f c (λb z=>absurd z (by simp)),r,q⟩
end
abbrev Binds(K:PySem.W.Frag)(b:O9)(ps:List Str)(a:List eH):Prop :=
 ∀(s:hH) (us:List eH),K.In s.heap->(us++a).length=ps.length->UW s b ⟨us,[]⟩ (ps.zip (us++a))
def Binds.all{K:PySem.W.Frag}(h:∀us:List eH,us.length=ps.length->Wv a ⟨us,[]⟩=pure (ps.zip us)):Binds K a ps []:=λs us _ hl=>by
 rw[va]at hl ⊢;show .of_eq (h us hl)
abbrev Passes(CX:Iv)(X:Cx)(E:XK):Prop:=∀(a:List (hQ×Obj)) (σ:St) (H:Hp) (s:hH) (e:eH) (s':hH),Inv X a σ H s->CX X.stack H s E e s'->X.xe e s'
section
def tP(F:lq X.prog X.w X.K X.mg X.base CX k f i ps sp)(j:fc k X.A)(l:Binds X.K i ps b)(m:Vals c b)(n:Passes CX X E)
  (I:Inv X a σ H s) (r:Vals vs us) (h:sp (vs++c) H Q E):fx (ke X.prog X.w) X.A (MD (.ref f) us) (EP X a σ Q) X.xe s:=by
 have g:Vals (vs++c) (us++b):=r.append m;have hl:(us++b).length=ps.length:=by rw[<-g.length];show F.len _ _ _ _ h
 show wpAny_call (Po (F.run X.A X.stack s H ⟨us,[]⟩ (us++b) (vs++c) Q E j I.C4 (l s us I.Hy hl) g h) λr s' d=>?_);cases r with
 |error e=>show n a σ H s e s' I d
 |ok o =>
  cases o with
  |ret u=>show I.after d
  |_=>show J8 d
end
section
end
structure dB(N P:List Str)(sc:IW):Prop where
 kind:sc.kind=.function
 co:sc.isCoroutine=df
 gen:sc.isGenerator=df
 nd:N.Nodup
 pre:N.take P.length=P
 par:∀x∈P,sc.names.lookup x=a5 .local\/sc.names.lookup x=a5 .cell
 HF:∀y∈sc.names,y.2≠.free
theorem kb{kindOf:Str->Option HB}:∀{a:List (Str×eH)}{m:Str->Option eH},(∀v,(x,v)∉a)->UB kindOf a m x=m x
 |[],_,_=>rfl
 |(n,v)::r,m,h=>by
  unfold UB;rw[kb λw b=>h w (mA _ b)];split
  .have:x≠n:=by rintro rfl;show h v l'
   simp[this]
  .rfl
theorem kg{kindOf:Str->Option HB}:∀{a:List (Str×eH)}{m:Str->Option eH},(∀v,(x,v)∉a)->UC kindOf a m x=m x
 |[],_,_=>rfl
 |(n,v)::r,m,h=>by
  unfold UC;rw[kg λw b=>h w (mA _ b)];split
  .rfl
  .have:x≠n:=by rintro rfl;show h v l'
   simp[this]
theorem kh{kindOf:Str->Option HB}:∀{P:List Str}{vs:List eH}{i:Nat}{m:Str->Option eH},P.Nodup->P[i]?=a5 x->vs[i]?=a5 v->kindOf x=a5 .local ->
  UB kindOf (P.zip vs) m x=a5 v
 |[],_,_,_,_,h,_,_=>by simp at h
 |_::_,[],_,_,_,_,h,_=>by simp at h
 |p::P,w::vs,0,m,c,a,b,hk=>by
  simp at a b;subst a;subst b;change UB kindOf ((p,w)::P.zip vs) m p=_;unfold UB;rw[kb λv d=>(nH.mp c).1 (MG d).1,WJ hk];simp
 |p::P,w::vs,i+1,m,c,a,b,hk=>by
  change UB kindOf ((p,w)::P.zip vs) m x=_;unfold UB;show kh (i:=i) (nH.mp c).2 (by simpa using a) (by simpa using b) hk
theorem kl{kindOf:Str->Option HB}:∀{P:List Str}{vs:List eH}{i:Nat}{m:Str->Option eH},P.Nodup->P[i]?=a5 x->vs[i]?=a5 v->kindOf x≠a5 .local ->
  UC kindOf (P.zip vs) m x=a5 v
 |[],_,_,_,_,h,_,_=>by simp at h
 |_::_,[],_,_,_,_,h,_=>by simp at h
 |p::P,w::vs,0,m,c,a,b,hk=>by
  simp at a b;subst a;subst b;change UC kindOf ((p,w)::P.zip vs) m p=_;unfold UC;rw[kg λv d=>(nH.mp c).1 (MG d).1,WK hk];simp
 |p::P,w::vs,i+1,m,c,a,b,hk=>by
  change UC kindOf ((p,w)::P.zip vs) m x=_;unfold UC;show kl (i:=i) (nH.mp c).2 (by simpa using a) (by simpa using b) hk
abbrev start(N:List Str)(vs:List V):St:=vs.map a5++l0 (N.length - vs.length) b6
abbrev oD(CX:Iv)(P:DW)(w:Fi)(K:PySem.W.Frag)(mg:Str->Option eH)(base:Hb)(N:List Str)(a:Str)(scope:IW)(f:hQ)(b:eH)(A:Ke)(outer:List Env)(s:hH)(H:Hp)(E:XK):Cx where
 prog:=P
 w:=w
 K:=K
 mg:=mg
 base:=base
 A:=A.deeper (Q9 a scope s.heap.objs.size f b)
 N:=N
 s₀:=s
 H₀:=H
 env:=Q9 a scope s.heap.objs.size f b
 outer:=outer
 stack:=Q9 a scope s.heap.objs.size f b::outer
 ex:=[]
 calm:=b5
 fn:=λ_=>b5
 pn:=[]
 xe:=λe s'=>fx (ke P w) (A.deeper (Q9 a scope s.heap.objs.size f b)) (leaving (Q9 a scope s.heap.objs.size f b) e) (λ_ c=>CX outer H s E e c) (λd c=>CX outer H s E d c) s'
def mQ{a:IW}(h:a.names.lookup x=a5 .cell):∃c,(Iy n a.names []).lookup x=a5 c:=by
 have q:=PySem.W.cellsFrom_some a.names n [] (.inl h);show Ny.mp q
def rM{K:PySem.W.Frag}
  (S:dB N ps scope) (G:A.handled=b6) (j:wm P w K mg base A outer s H) (hl:vs.length=ps.length) (r:Vals vs us)
  (x:InCallC s s.heap.objs.size (UB (Q9 g scope s.heap.objs.size f t).kindOf (ps.zip us) λ_=>b6) (Iy (s.heap.objs.size+1) scope.names []) (UC (Q9 g scope s.heap.objs.size f t).kindOf (ps.zip us) λ_=>b6) s1) :
  Inv (oD CX P w K mg base N g scope f t A outer s H E) [] (start N vs) H s1:=by
 have J:ps.length<=N.length:=by have:=WN E1 S.pre;rw[EX]at this;lia
 have⟨m,L,rfl,hk⟩:=x.done;have B:∀b:hQ,b∉(oD CX P w K mg base N g scope f t A outer s H E).ex:=λb z=>absurd (show b∈([]:List hQ) from z) (by simp);show⟨⟨j.mod,S.kind,rfl,rfl,gs _,λy z c m d=>?_,λy hy=>?_,λy c _ h=>?_,λ_=>G,Around.frames_deeper j.frames,.inr ⟨rfl,rfl⟩,λb z=>absurd z (B b),j.bs,j.Ha,λb _ _=>B b,λb z=>absurd z (B b),j.iD,j.Ir⟩,
  rfl,j.bare,Un.kept hk,⟨_,x.toInCall.ns,λi y v m d O=>?_⟩,λy c h=>⟨_,x.cell y c h⟩,j.Dw.fresh (gs _),λy c h=>?_,λp l=>absurd (show p∈([]:List (hQ×Obj)) from l) (by simp),j.Dw.kept hk,?_⟩
 .show name_of_addr x.apart (PySem.mem_of_lookup m) (PySem.mem_of_lookup d)
 .have hy:scope.names.lookup y=a5 .cell\/scope.names.lookup y=a5 .free:=hy;rcases hy with hy|hy
  .show mQ hy
  .show absurd rfl (S.HF _ (PySem.mem_of_lookup hy))
 .show H8 (x.above y c (PySem.mem_of_lookup h))
 .have o:i<vs.length:=by
   unfold start at d;by_cases o:i<vs.length
   .show o
   .rw[uk (by simpa using o)]at d;rw[I0]at d;split at d<;>cases d
  have I:vs[i]?=a5 v:=by
   unfold start at d;rw[z9 (by simpa using o),nc]at d;cases e:vs[i]? with
   |none=>rw[e]at d;cases d
   |some a=>rw[e]at d;cases d;rfl
  have⟨u,C,rv⟩:=r.get I;have l:ps[i]?=a5 y:=by
   rw[<-S.pre,TJ ⋯];show m
  have D:ps.Nodup:=by rw[<-S.pre];show S.nd.sublist (U0 _ _)
  show⟨u,rv,?_⟩;rcases S.par y (nC l) with k|k
  .show .inl ⟨k,kh D l C k⟩
  .have⟨c,e⟩:=mQ (n:=s.heap.objs.size+1) k;show .inr ⟨.inl k,c,e,?_⟩;have q:=x.cell y c e;rw[kl D l C (by change scope.names.lookup y≠_;rw[k];decide)]at q;show q
 .show j.Dw.fresh (H8 (x.above y c (PySem.mem_of_lookup h)))
 .unfold start;change _=N.length;rw[i5,dt,Md];lia
def Bn{K:PySem.W.Frag}{z kV g B d ct G:eH}
 (lk:K.lookup f=a5 ⟨G,od,.func (PySem.W.fnOf name a c body scope z kV g B L d ct),Jj⟩) (O:PySem.W.codeIn K d a=b5) (S:dB N ps scope)
    (h:∀vs H Q E,sp vs H Q E->vs.length=ps.length)
    (T:∀(A:Ke) (outer:List Env) (s:hH) (H:Hp) (vs:List V) (Q:VK) (E:XK),fc k (A.deeper (Q9 a scope s.heap.objs.size f d))->sp vs H Q E ->
      ∃t,Eb (oD CX P w K mg base N a scope f d A outer s H E) body t/\t {nx:=λ_ H'=>Q .DB H',rt:=Q} (start N vs) H) :
    lq P w K mg base CX (k+1) f (PySem.W.fnOf name a c body scope z kV g B L d ct) ps sp:=by
  show⟨h,λA outer s H args us vs Q E m i Y r C=>?_⟩;have hl:=h _ _ _ _ C;have D:K.In s.heap:=i.mod.Ki.keeps λb o e=>(i.bs b o e).1;have p:s.heap.NoLimit:=i.mod.nolimit.keeps λb o e=>(i.bs b o e).1;have Jk:∀y∈ps.zip us,scope.names.lookup y.1=a5 .local\/(scope.names.lookup y.1=a5 .cell/\((Iy (s.heap.objs.size+1) scope.names []).lookup y.1).isSome=b5):=λ⟨n,v⟩ hy=>by
    rcases S.par n (MG hy).1 with q|q
    . show .inl q
    . show .inr ⟨q,PySem.W.cellsFrom_some _ _ _ (.inl q)⟩
  show codeAny_call_function m.depth (D _ _ lk) rfl S.co S.gen rfl (PySem.W.codeRec_of D O) (Y _ _ _ _ ?_);show wpAny_newFunctionEnv_cells S.kind Jk λenv he s1 x=>?_;subst he;show⟨p.keeps x.toInCall.keep,codeAny_func ?_⟩;have⟨t,ht,hq⟩:=T A outer s H vs Q E (m.deeper _) C;have I:Inv (oD CX P w K mg base N a scope f d A outer s H E) [] (start N vs) H s1:=rM S m.hd i hl r x;show wk (ht [] s1 (start N vs) H _ I hq) (λfl s' hs=>?_) λe s' hs=>hs;have j:∀{l:St} {H':Hp} {v:V} {u:eH},Inv (oD CX P w K mg base N a scope f d A outer s H E) [] l H' s'->RelV v u->Q v H'->CE outer P w H s Q u s' :=
    λ{l H' v u} J rv q=>⟨v,H',J.os,J.bare,J.base,J.Dw,rv,q⟩
  cases fl with
  | ret u =>
    have⟨v,l,H',J,rv,q⟩:=hs;show j J rv q
  | next =>
    have⟨l,H',J,q⟩:=hs;show j (v:=V.DB) (u:=oa) J rfl q
  | brk =>
    obtain⟨_,_,_,q⟩:=hs;show J8 q
  | cont =>
    obtain⟨_,_,_,q⟩:=hs;show J8 q
section
end
end L2
namespace HT
open PySem PyProof.Rows
section
open PySem.SeqAt
open PySem.AutoSeq1 (wpAny_loadPart')
open PySem.MeetsSeq PySem.MeetsSeq2 PySem.MeetsSeq3
end
section
def wo(o:UE s.heap t vs.toArray)(p:UE s.heap b ws.toArray)(f:vs≠[])
  (q:ws=[]->Q (.ref t) s) (r:ws≠[]->Q (.ref s.heap.objs.size) {s with heap:=s.heap.push {cls:=.type "tuple",data:=.seq (vs++ws).toArray}})
  (hsz:vs.length+ws.length<=dV):fx (ke prog w) A (Ln .Add (.ref t) (.ref b)) Q E s:=by
 obtain⟨⟨cls,dd,data,g⟩,ho,h,n,i⟩:=id o;obtain⟨⟨u,j,data2,k⟩,c,l,m,a⟩:=id p;simp only at h i l a;subst h i l a;have e:vs.toArray++ws.toArray=(vs++ws).toArray:=by simp
 by_cases d:ws=[]
 .show S9 ⟨_,ho,rfl⟩ ⟨_,c,rfl⟩ Tt Up PySem.F.slot_tuple_add PySem.F.entry_tuple_add (PySem.F.args_tuple_add_2 _ _)
   (tuple_addW1 t b vs.toArray ws.toArray n m dd j g k (by simpa using f) (by simp[d])) ⟨ho,c,q d⟩
 .show S9 ⟨_,ho,rfl⟩ ⟨_,c,rfl⟩ Tt Up PySem.F.slot_tuple_add PySem.F.entry_tuple_add (PySem.F.args_tuple_add_2 _ _)
   (tuple_addW2 t b vs.toArray ws.toArray n m dd j g k (by simpa using f) (by simpa using d) (by rw[hW,hW];show hsz)) ⟨ho,c,?_⟩
  rw[e];show r d
abbrev DA(n d:Nat):Option Int->Nat
 |none=>d
 |some v=>if v<0 then(v+(n:Int)).toNat else min v.toNat n
def zm(n d:Nat)(b:d<=n)(o:Option Int):DA n d o<=n:=by
 cases o with
 |none=>show b
 |some v =>
  change(if v<0 then(v+(n:Int)).toNat else min v.toNat n)<=n;by_cases a:v<0
  .rw[WJ a];lia
  .rw[WK a];show Nat.min_le_right _ _
def ql(v:Int)(n d:Nat):(if v<0 then max (v+(n:Int)) 0 else min v (n:Int))=((DA n d (a5 v):Nat):Int):=by
 change(if v<0 then max (v+(n:Int)) 0 else min v (n:Int))=(((if v<0 then(v+(n:Int)).toNat else min v.toNat n):Nat):Int)
 by_cases a:v<0
 .simp only[WJ a];lia
 .simp only[WK a];lia
def oE(lo a:Option Int)(n:Nat):Mz lo a 1 (n:Int)=(((DA n 0 lo:Nat):Int),((DA n n a:Nat):Int)):=by
 have b:¬((1:Int)<0):=by lia
 unfold Mz;simp only[b,WQ];show Tn ?_ ?_
 .cases lo with
  |none=>rfl
  |some v=>show ql v n 0
 .cases a with
  |none=>rfl
  |some v=>show ql v n n
def oF(i j:Nat):DI (i:Int) (j:Int) 1=j - i:=by
 unfold DI;have a:(1:Int)>0:=by lia
 simp only[a,if_true,Wa];split<;>lia
def iM(p:QL v o)(h:Q o s):fx (ke prog w) A (V6 v) Q E s:=by
 cases p with
 |none=>show Q8 h
 |int i t=>show slicePart_int h
def da{lo a:Option Int}{n:Nat}(hs:s.heap.IsSliceOf f d e .none)(g:QL d lo)(i:QL e a)
  (h:Q (((DA n 0 lo:Nat):Int),1,DA n n a - DA n 0 lo) s):fx (ke prog w) A (LV (.ref f) (pure (n:Int))) Q E s:=by
 have⟨os,b,j,c⟩:=id hs;unfold LV Qy;show bD (bD (ID b c (x:=d) rfl (bD (ID b c (x:=e) rfl (bD (ID b c (x:=.none) rfl (cb ?_)))))));show bD (Q8 ?_);change fx _ _ (if ((1:Int)==0)=b5 then _ else _) _ _ s;rw[WK (by decide)];show bD (iM g (bD (iM i (bD (cb ?_)))));change fx _ _ (match Mz lo a 1 (n:Int) with|(lo,a)=>pure (lo,(1:Int),DI lo a 1)) _ _ s;rw[oE lo a n];change fx _ _ (pure (((DA n 0 lo:Nat):Int),(1:Int),DI ((DA n 0 lo:Nat):Int) ((DA n n a:Nat):Int) 1)) _ _ s;rw[oF];show cb h
def tQ(xs:Array eH)(i k:Nat):((hE k).filterMap λ(m:Nat)=>xs[((i:Int)+(m:Int) * 1).toNat]?).toArray=((xs.toList.drop i).take k).toArray:=by
 have e:(λ(m:Nat)=>xs[((i:Int)+(m:Int) * 1).toNat]?)=λm=>xs[i+m]?:=by
  funext m
  have:((i:Int)+(m:Int) * 1).toNat=i+m:=by lia
  rw[this]
 rw[e];have:=pick_run xs i k;rw[List.filterMap_map]at this;have a:((λx=>xs[x]?) ∘ λx=>i+x)=λm=>xs[i+m]?:=rfl;rw[a]at this;rw[this]
def fH{lo b:Option Int}(c:UE s.heap t a)(hs:s.heap.IsSliceOf e f g .none)(i:QL f lo)(j:QL g b)
  (k:¬(DA a.size 0 lo=0/\DA a.size a.size b=a.size))
  (h:Q (.ref s.heap.objs.size) {s with heap:=s.heap.push {cls:=.type "tuple",data:=.seq ((a.toList.drop (DA a.size 0 lo)).take (DA a.size a.size b - DA a.size 0 lo)).toArray}})
  (hsz:a.size<=dV):fx (ke prog w) A (My (.ref t) (.ref e)) Q E s:=by
 have d:sizeOk (.seq ((a.toList.drop (DA a.size 0 lo)).take (DA a.size a.size b - DA a.size 0 lo)).toArray):=by
  change((a.toList.drop (DA a.size 0 lo)).take (DA a.size a.size b - DA a.size 0 lo)).toArray.size<=dV;rw[hW,EX,SG,ro];lia
 have r:DA a.size a.size b<=a.size:=zm _ _ (gs _) b;have⟨os,l,n,u⟩:=id hs;have o:s.TypeIs (.ref e) "slice":=⟨os,l,n⟩
 unfold My
 try with_reducible show DD ?_
 first|show bD (cb ?_)|skip
 show bD (SY c.typeIs (by decide) ?_);show bD (FH (name:=Ky "__getitem__") c.typeIs oT
  (w6 oT c.typeIs RW ?_ (SN _ _)))
 change fx _ _ (Jo (.ref t) >>= _) _ _ s;show bD (Uu c ?_);show bD (Mq o ?_);rw[WJ (by decide)];show bD (da hs i j ?_);have p:¬((((DA a.size 0 lo:Nat):Int)==0&&(1:Int)==1&&(DA a.size a.size b - DA a.size 0 lo)==a.size)=b5):=by
  intro q;rw[c4,c4]at q;have v:((DA a.size 0 lo:Nat):Int)=0:=UI q.1.1;have x:DA a.size a.size b - DA a.size 0 lo=a.size:=UI q.2;show k ⟨⋯,⋯⟩
 change fx _ _ (if (((DA a.size 0 lo:Nat):Int)==0&&(1:Int)==1&&(DA a.size a.size b - DA a.size 0 lo)==a.size)=b5 then _ else _) _ _ s;rw[WK p,tQ]
 first
  |show bD (m:=y3 _) (pw (cb ⟨_,rfl,cb h⟩) d)
  |show bD (m:=y3 _) (pw (bD (cb (cb ⟨_,rfl,cb h⟩))) d)
  |show bD (bD (m:=y3 _) (pw (cb (cb ⟨_,rfl,cb h⟩)) d))
  |show bD (bD (m:=y3 _) (pw (cb ⟨_,rfl,cb h⟩) d))
end
end HT
namespace L2
open PySem PySem.Spec PyProof.Rows
@[reducible]def TO:=St->Hp->(Option Int->Hp->Prop)->Prop
abbrev PO(X:Cx)(e:Option pk)(t:TO):Prop :=
 ∀(a:List (hQ×Obj)) (s:hH) (σ:St) (H:Hp) (Q:Option Int->Hp->Prop),Inv X a σ H s->t σ H Q ->
  fx (ke X.prog X.w) X.A (evalPart e X.env) (λu s'=>∃o H',Inv X a σ H' s'/\QL u o/\Q o H') X.xe s
abbrev wq:TO:=λ_ H Q=>Q b6 H
abbrev Bo(t:TE):TO:=λσ H Q=>t σ H λx a=>∃i,x=.int i/\Q (a5 i) a
section
variable{X:Cx}{e:pk}{te:TE}{lo hi:Option pk}{tl th:TO}{pos p2:Pos}
def wt:PO X b6 wq:=by
 intro a s σ H Q I h;rw[Uq];show cb ⟨b6,H,I,.none,h⟩
def wu(h:PE X e te):PO X (a5 e) (Bo te):=by
 intro a s σ H Q I b;rw[evalPart_some];show Dx (h a s σ H _ I b) λu s1 c=>?_;have⟨x,d,f,g,j⟩:=c;have⟨i,rfl,q⟩:=j;have⟨t,rfl⟩:=g;show⟨a5 i,d,f,.int i t,q⟩
abbrev GD(X:Cx)(r:V->Option Int->Option Int->Hp->VK->Prop):Prop :=
 ∀(a:List (hQ×Obj)) (s:hH) (σ:St) (H:Hp) (x:V) (v b c:eH) (lo hi:Option Int) (d:hQ) (Q:VK),Inv X a σ H s->RelV x v->s.heap.IsSliceOf d b c .none->QL b lo->QL c hi->r x lo hi H Q ->
  ∃T id,VD (.type T) "__getitem__"=pure (a5 (.builtin id))/\s.TypeIs v T/\fx (ke X.prog X.w) X.A (My v (.ref d)) (EP X a σ Q) X.xe s
def GD.or(h:GD X r)(h':GD X j):GD X (λx lo hi H Q=>r x lo hi H Q\/j x lo hi H Q):=by
 intro a s σ H x v b c lo hi d Q I f hs g i q;rcases q with q|q
 .show h a s σ H x v b c lo hi d Q I f hs g i q
 .show h' a s σ H x v b c lo hi d Q I f hs g i q
abbrev Pj(r:V->Option Int->Option Int->Hp->VK->Prop)(te:TE)(tl th:TO):TE:=λσ H Q=>te σ H λx a=>tl σ a λl b=>th σ b λu c=>r x l u c Q
def tR(g:GD X r)(i:PE X e te)(hl:PO X lo tl)(j:PO X hi th):PE X (.Subscript e (.Slice lo hi b6 p2) pos) (Pj r te tl th):=by
 intro a s σ H Q I h;show SO (Dx (i a s σ H _ I h) λv s1 k=>?_);have⟨x,m,n,o,p⟩:=k;show wpAny_Slice (Dx (hl a s1 σ m _ n p) λc s2 ⟨l,t,y,z,B⟩=>Dx (j a s2 σ t _ y B) λd s3 C=>?_);have⟨u,f,D,G,J⟩:=C;rw[Uq];show cb ?_;have L:Inv X a σ f {s3 with heap:=s3.heap.push {cls:=.type "slice",data:=.fields #[c,d,.none]}}:=D.kept (t':=s3.toks) λb ob q=>et _ q;have⟨T,id,N,O,Y⟩:=g a {s3 with heap:=s3.heap.push {cls:=.type "slice",data:=.fields #[c,d,.none]}} σ f x v c d l u s3.heap.objs.size Q L o (SQ ..) z G J;change fx (ke X.prog X.w) X.A (Sg e (.Slice lo hi b6 p2) v (.ref s3.heap.objs.size)) (EP X a σ Q) X.xe {s3 with heap:=s3.heap.push {cls:=.type "slice",data:=.fields #[c,d,.none]}};show WB (ops:=[.ref s3.heap.objs.size,v]) O N Y (by with_unfolding_all rfl)
abbrev mR(xs:List V)(lo hi:Option Int):List V:=(xs.drop (HT.DA xs.length 0 lo)).take (HT.DA xs.length xs.length hi - HT.DA xs.length 0 lo)
def gO(xs:List V)(lo hi:Option Int):(mR xs lo hi).length<=xs.length:=by
 unfold mR;rw[EX,SG];lia
abbrev Bp(K:PySem.W.Frag):V->Option Int->Option Int->Hp->VK->Prop:=λx lo hi H Q=>∃a xs,x=.ref a/\DU K H a xs /\
 ¬(HT.DA xs.length 0 lo=0/\HT.DA xs.length xs.length hi=xs.length)/\∀p,H p=b6->Q (.ref p) (upd H p (.tup (mR xs lo hi)))
def zo:GD X (Bp X.K):=by
 intro d s σ H x v n p lo hi t Q I g hs i j h;have⟨a,xs,rfl,k,l,q⟩:=h;cases g;have⟨m,r,f,hz⟩:=I.tuple k;have c:m.toArray.size=xs.length:=by rw[hW];show r.length.symm
 show⟨"tuple",_,oT.lookup,f.typeIs,?_⟩;show HT.fH f hs i j (by rw[c];show l) ?_ (by rw[c];show hz);rw[c];show⟨.ref s.heap.objs.size,_,I.laid (t':=s.toks) (o:=.tup (mR xs lo hi)) (λb u q=>et _ q) (gs _) ?_,rfl,q _ (I.Dw.fresh (gs _))⟩;show⟨vu (gO xs lo hi) hz,_,(r.drop (HT.DA xs.length 0 lo)).take (HT.DA xs.length xs.length hi - HT.DA xs.length 0 lo),TC _ _⟩
abbrev Bq(K:PySem.W.Frag):R2:=λx y H Q=>∃a b xs c,x=.ref a/\y=.ref b/\DU K H a xs/\DU K H b c/\xs≠[]/\xs.length+c.length<=dV /\
 (c=[]->Q (.ref a) H)/\(c≠[]->∀p,H p=b6->Q (.ref p) (upd H p (.tup (xs++c))))
def Vals.lr(r:Vals xs us):us=[]↔xs=[]:=by
 cases r with
 |_=>simp
def wx:ER X (Ln .Add) (Bq X.K):=by
 intro f s σ H x y v u Q I g i h;have⟨a,b,xs,j,rfl,rfl,k,l,m,hz,n,p⟩:=h;cases g;cases i;obtain⟨t,d,r,_⟩:=I.tuple k;obtain⟨A,c,p2,_⟩:=I.tuple l;show HT.wo r p2 (λz=>m (d.lr.mp z)) (λz=>⟨.ref a,H,I,rfl,n (c.lr.mp z)⟩) (λz=>?_) (by rw[<-d.length,<-c.length];show hz);show⟨.ref s.heap.objs.size,_,I.laid (t':=s.toks) (o:=.tup (xs++j)) (λb B q=>et _ q) (gs _) ?_,rfl,p (λw=>z (c.lr.mpr w)) _ (I.Dw.fresh (gs _))⟩;show⟨by rw[i5];show hz,_,d.append c,TC _ _⟩
end
abbrev F4(n:Nat)(i:Int):Option Nat:=if 0<=i then(if i<n then a5 i.toNat else b6) else if -(n:Int)<=i then a5 (i+n).toNat else b6
abbrev DL{α:Type}(xs:List α)(i:Int):Option α:=(F4 xs.length i).bind λj=>xs[j]?
def qm{n:Nat}(h:F4 n i=a5 j):seqIndex? i n=a5 j/\j<n/\-(n:Int)<=i/\i<n:=by
 unfold F4 at h;by_cases b:0<=i
 .rw[WJ b]at h;by_cases a:i<n
  .rw[WJ a]at h;have e:i.toNat=j:=vl h;show⟨by rw[Vg b a,e],⋯,⋯,a⟩
  .rw[WK a]at h;cases h
 .rw[WK b]at h;by_cases a:-(n:Int)<=i
  .rw[WJ a]at h;have e:(i+n).toNat=j:=vl h;show⟨by rw[seqIndex_neg ⋯ a,e],⋯,a,⋯⟩
  .rw[WK a]at h;cases h
def lu(h:DL xs i=a5 v):∃j,seqIndex? i xs.length=a5 j/\xs[j]?=a5 v/\j<xs.length/\-(xs.length:Int)<=i/\i<xs.length:=by
 unfold DL at h;cases e:F4 xs.length i with
 |none=>rw[e]at h;cases h
 |some j =>
  rw[e]at h;have⟨a,b,c,d⟩:=qm e;show⟨j,a,h,b,c,d⟩
def bQ{j:Nat}(h:xs[j]?=a5 v):DL xs (j:Int)=a5 v:=by
 have a:j<xs.length:=(gi.mp h).1;have e:F4 xs.length (j:Int)=a5 j:=by
  unfold F4;rw[WJ ⋯,WJ ⋯];simp
 unfold DL;rw[e];show h
abbrev ir(b:pk):Prop:=∀o i,TB b df o i=operate [o,i] (My o i)
abbrev Kr(X:Cx)(r:R2):Prop :=
 ∀(c a:pk) (b:List (hQ×Obj)) (s:hH) (σ:St) (H:Hp) (x y:V) (v u:eH) (Q:VK),Inv X b σ H s->RelV x v->RelV y u->r x y H Q ->
  TB a df v u=operate [v,u] (My v u)->fx (ke X.prog X.w) X.A (Sg c a v u) (EP X b σ Q) X.xe s
abbrev LF(X:Cx)(id:String)(r:V->List V->Hp->VK->Prop):Prop :=
 ∀(a:List (hQ×Obj)) (s:hH) (σ:St) (H:Hp) (x:V) (xs:List V) (v:eH) (us:List eH) (Q:VK),Inv X a σ H s->RelV x v->Vals xs us->r x xs H Q ->
  fx (ke X.prog X.w) X.A (MD (.builtin id) (v::us)) (EP X a σ Q) X.xe s
section
def Br(d:Kr X r)(f:PE X a g)(i:PE X b j)(hs:ir b):PE X (.Subscript a b pos) (Pc r g j):=by
 intro c s σ H Q I h;show SO (CZ f i I h λv u s2 x y k l m n q=>d a b c s2 σ k x y v u Q l m n q (hs _ _))
abbrev C5(K:PySem.W.Frag):R2:=λx y H Q=>∃p xs i v,x=.ref p/\y=.int i/\D3 K H p xs/\DL xs i=a5 v/\Q v H
abbrev C6(K:PySem.W.Frag):R2:=λx y H Q=>∃p xs i v,x=.ref p/\y=.int i/\DU K H p xs/\DL xs i=a5 v/\Q v H
abbrev C7:R2:=λx y H Q=>∃z i c,x=.str z/\y=.int i/\z.length<=dV/\DL z.cps.toList i=a5 c/\Q (.str ⟨#[c]⟩) H
def ly:Kr X (C5 X.K):=by
 intro d f a s σ H x y v u Q I n A h hs;have⟨p,xs,i,z,rfl,rfl,B,C,q⟩:=h;cases n;have⟨t,rfl⟩:=A;have⟨D,r,g,hz⟩:=I.list B;have⟨j,c,G,O,J,L⟩:=lu C;have⟨w,l,N⟩:=r.get G;have hl:=r.length;have Y:=d8;have b:EP X a σ Q w s:=⟨z,H,I,N,q⟩
 by_cases m:0<=i
 .have k:i.toNat=j:=by
   rw[Vg m L]at c;show vl c
  show item_listR g.isList m ⋯ (by rw[k];simpa using l) b hs
 .have k:(i+(D.toArray.size:Int)).toNat=j:=by
   rw[seqIndex_neg ⋯ J]at c;rw[hW,<-hl];show vl c
  show UX (x:=w) g.isList.typeIs VR.lookup
   (wpAny_getItem_list_neg (Q:=λr s'=>r=w/\EP X a σ Q r s') g.isList ⋯ (by rw[hW]<;>lia) ⋯ (by rw[k];simpa using l) ⟨rfl,b⟩) hs
def oG:Kr X (C6 X.K):=by
 intro b c a s σ H x y v u Q I g k h hs;have⟨p,xs,i,z,rfl,rfl,l,m,q⟩:=h;cases g;have⟨t,rfl⟩:=k;have⟨D,r,f,hz⟩:=I.tuple l;have⟨j,n,A,G,J,L⟩:=lu m;have⟨w,B,C⟩:=r.get A;have hl:=r.length;have N:=d8;have d:EP X a σ Q w s:=⟨z,H,I,C,q⟩
 show UX (x:=w) f.typeIs oT.lookup
  (getItem_tuple (j:=j) (Q:=λr s'=>r=w/\EP X a σ Q r s') f ⋯ ⋯ (by rw[hW,<-hl];show n) (by simpa using B) ⟨rfl,d⟩) hs
def iN:Kr X C7:=by
 intro a b d s σ H x y v u Q I g k h hs;have⟨z,i,c,rfl,rfl,hz,l,q⟩:=h;have⟨t,rfl⟩:=g;have⟨t',rfl⟩:=k;have⟨j,f,m,B,n,p⟩:=lu l;have hl:z.cps.toList.length=z.length:=by simp[Tu]
 rw[hl]at f n p;have C:=d8;show WB (O' s z t) V9.lookup (getItem_str (c:=c) (by
  have w:ez (i < -(2 ^ 63:Int))=df:=WL ⋯;have A:ez (i >= 2 ^ 63)=df:=WL ⋯;rw[w,A,VL]) (by rw[f];simpa using m) ⟨.str ⟨#[c]⟩,H,I.tok _,⟨_,rfl⟩,q⟩) hs
def oH(a:List eH)(n j:Nat)(u:eH):tA (·.setIfInBounds j u) {cls:=.type "list",data:=.seq a.toArray n}={cls:=.type "list",data:=.seq (a.set j u).toArray n}:=by
 simp[tA]
def Inv.lst(I:Inv X b σ H s)(h:H p=a5 (.lst xs)):
  ∃(a:List eH) (n:Nat),Vals xs a/\s.heap.get? p=a5 {cls:=.type "list",data:=.seq a.toArray n}/\xs.length<=dV:=by
 have⟨z,a,n,r,e⟩:=I.Dw p _ h;show⟨a,n,r,e,z⟩
def Inv.zp{c its':List eH}(I:Inv X a σ H s)(h:H p=a5 (.lst xs))
  (ho:s.heap.get? p=a5 {cls:=.type "list",data:=.seq c.toArray n}) (d:f {cls:=.type "list",data:=.seq c.toArray n}={cls:=.type "list",data:=.seq its'.toArray g }) (r:Vals i its') (hz:i.length<=dV) (t:Nat) :
  Inv X a σ (upd H p (.lst i)) {s with heap:=s.heap.update p f,toks:=t}:=by
 have e:(s.heap.update p f).get? p=a5 {cls:=.type "list",data:=.seq its'.toArray g }:=by
  rw[Ej f ho (by rw[d]<;>rfl),d]
 show I.write (x:=p) (e:=p) (by rw[h];trivial) (.inl rfl) (λb u j q=>(LA _ _ (z8 j)).trans q) ⟨_,e⟩ ?_;show⟨hz,its',g,r,e⟩
abbrev Bt:V->V->V->Hp->(Hp->Prop)->Prop:=λo i v H Q=>∃p xs k j,o=.ref p/\i=.int k/\H p=a5 (.lst xs)/\F4 xs.length k=a5 j/\Q (upd H p (.lst (xs.set j v)))
def set_list:iG X Bt:=by
 intro a s σ H o i v z A u Q I w x rv h;have⟨p,xs,k,j,rfl,rfl,c,y,q⟩:=h;cases w;have⟨t,rfl⟩:=x;have⟨d,n,r,ho,hz⟩:=I.lst c;have⟨b,B,f,g⟩:=qm y;have hl:=r.length;have C:=d8;have l:Inv X a σ (upd H p (.lst (xs.set j v))) {s with heap:=s.heap.update p (tA (·.setIfInBounds j u))} :=
  I.zp c ho (oH d n j u) (r.set rv j) (by rw[Vp];show hz) s.toks
 by_cases m:0<=k
 .have hk:k.toNat=j:=by
   rw[Vg m g]at b;show vl b
  show PySem.W.ki_setAt ho m ⋯ (by rw[hW,<-hl];show g) (by rw[hk];show⟨_,l,q⟩)
 .have hk:(k+(d.toArray.size:Int)).toNat=j:=by
   rw[seqIndex_neg ⋯ f]at b;rw[hW,<-hl];show vl b
  show PySem.W.ki_setBack ho ⋯ (by rw[hW,<-hl];show f) ⋯ (by rw[hk];show⟨_,l,q⟩)
def lz(lo a:Option Int)(n:Nat):(Ng lo a b6 n).1=((HT.DA n 0 lo:Nat):Int)/\(Ng lo a b6 n).2.1=((HT.DA n n a:Nat):Int)/\(Ng lo a b6 n).2.2=1:=by
 show⟨?_,?_,rfl⟩
 .cases lo with
  |none=>simp[Ng,HT.DA]
  |some i =>
   simp only[Ng,HT.DA,UG,show(1:Int)>0 by decide,if_true];by_cases h:i<0
   .simp only[h,if_true]<;>lia
   .simp only[h,WQ]<;>lia
 .cases a with
  |none=>simp[Ng,HT.DA]
  |some i =>
   simp only[Ng,HT.DA,UG,show(1:Int)>0 by decide,if_true];by_cases h:i<0
   .simp only[h,if_true]<;>lia
   .simp only[h,WQ]<;>lia
def jV(a:List eH)(lo b:Option Int):slicePick a.toArray lo b b6=((a.drop (HT.DA a.length 0 lo)).take (HT.DA a.length a.length b - HT.DA a.length 0 lo)).toArray:=by
 have⟨c,d,f⟩:=lz lo b a.toArray.size;unfold slicePick;rw[c,d,f];simp only[sliceRange_one,pick_run,hW]<;>rfl
abbrev Bu(K:PySem.W.Frag):V->Option Int->Option Int->Hp->VK->Prop:=λx lo b H Q=>∃a xs,x=.ref a/\D3 K H a xs/\∀p,H p=b6->Q (.ref p) (upd H p (.lst (mR xs lo b)))
def wy:GD X (Bu X.K):=by
 intro f s σ H x v m n lo d p Q I i hs j k h;have⟨a,xs,rfl,l,q⟩:=h;cases i;have⟨u,r,g,hz⟩:=I.list l;have c:=r.length;show⟨"list",_,VR.lookup,g.isList.typeIs,?_⟩;show wpAny_getItem_list_slice g.isList hs j k .none (by simp) ?_ (by rw[hW]<;>lia);rw[jV,<-c];show⟨.ref s.heap.objs.size,_,I.laid (t':=s.toks) (o:=.lst (mR xs lo d)) (λb w q=>et _ q) (gs _) ?_,rfl,q _ (I.Dw.fresh (gs _))⟩;show⟨vu (gO xs lo d) hz,_,0,(r.drop (HT.DA xs.length 0 lo)).take (HT.DA xs.length xs.length d - HT.DA xs.length 0 lo),hA _ rfl⟩
def dC:gN X (.builtin "len") (λxs H Q=>∃p b,xs=[.ref p]/\(D3 X.K H p b\/DU X.K H p b)/\Q (.int b.length) H):=by
 intro f s σ H xs us Q I r h;have⟨p,b,rfl,hq,q⟩:=h;have⟨u,rfl,g⟩:=vals1 r;cases g;have j:=d8;rcases hq with hq|hq
 .have⟨i,c,d,hz⟩:=I.list hq;have a:=c.length;show Calls.call_len_list d.isList (by simp only[hW]<;>lia) ⟨.int b.length,H,I.tok _,⟨s.toks+1,by rw[hW,a]⟩,q⟩
 .have⟨i,c,d,hz⟩:=I.tuple hq;have a:=c.length;show len_tuple d (by simp only[hW]<;>lia) ⟨.int b.length,H,I.tok _,⟨s.toks+1,by rw[hW,a]⟩,q⟩
def lA:gN X (.builtin "len") (λxs H Q=>∃z,xs=[.str z]/\z.length<=dV/\Q (.int z.length) H):=by
 intro a s σ H xs us Q I r h;have⟨z,rfl,hz,q⟩:=h;have⟨u,rfl,t,rfl⟩:=vals1 r;have b:=d8;show len_str ⋯ ⟨.int z.length,H,I.tok _,⟨_,rfl⟩,q⟩
def fg:gN X (.type "tuple") (λxs H Q=>∃p c,xs=[.ref p]/\((D3 X.K H p c/\∀l,H l=b6->Q (.ref l) (upd H l (.tup c)))\/(DU X.K H p c/\Q (.ref p) H))):=by
 intro a s σ H xs us Q I r h;have⟨p,c,rfl,h⟩:=h;have⟨u,rfl,m⟩:=vals1 r;cases m;rcases h with⟨d,q⟩|⟨d,q⟩
 .have⟨f,g,i,hz⟩:=I.list d;have j:=g.length;show call_tuple_list i.isList (λh' n=>?_) (by simp only[hW]<;>lia);have k:Inv X a σ H {s with heap:=h' }:=I.kept (t':=s.toks) n;have v:Inv X a σ (upd H h'.objs.size (.tup c)) {s with heap:=h'.push {cls:=.type "tuple",data:=.seq f.toArray}} :=
   k.laid (t':=s.toks) (λb o e=>et _ e) (gs _) (show bz X.prog X.w _ _ _ (.tup c) from⟨hz,f,g,TC _ _⟩)
  show⟨.ref h'.objs.size,_,v,rfl,q _ (k.Dw.fresh (gs _))⟩
 .have⟨f,g,i,hz⟩:=I.tuple d;show call_tuple_same i ⟨.ref p,H,I,rfl,q⟩
abbrev LG(K:PySem.W.Frag)(T:String)(x:V)(H:Hp):Prop:=match x with
 |.str _=>T="str"
 |.int _=>T="int"
 |.ref p=>(T="list"/\∃xs,D3 K H p xs)\/(T="tuple"/\∃o,K.lookup p=a5 o/\o.cls=.type "tuple"/\o.dict=b6) \/
   (T="dict"/\((∃kvs,H p=a5 (.dK kvs))\/∃kvs,H p=a5 (.dT kvs)))\/(T="set"/\∃S n,H p=a5 (.set S n))
 |_=>False
def oI(I:Inv X g σ H s)(r:RelV x v)(b:LG X.K T x H):
  s.TypeIs v T/\∀a,v=.ref a->∃h,s.heap.get? a=a5 h/\h.dict=b6:=by
 cases x with
 |str z =>
  have⟨t,rfl⟩:=r;cases(show T="str" from b);show⟨O' s z t,λ_ e=>nomatch e⟩
 |int i =>
  have⟨t,rfl⟩:=r;cases(show T="int" from b);show⟨typeIs_int s i t,λ_ e=>nomatch e⟩
 |ref p =>
  cases r;rcases b with⟨rfl,xs,k⟩|⟨rfl,o,hk,l,d⟩|⟨rfl,hk⟩|⟨rfl,S,n,hk⟩
  .obtain⟨m,_,j,_⟩:=I.list k;show⟨j.isList.typeIs,λa e=>?_⟩;cases e;obtain⟨o,n,e,c,d,_⟩:=j;show⟨o,e,d⟩
  .show⟨⟨o,I.Hy p o hk,l⟩,λa e=>?_⟩;cases e;show⟨o,I.Hy _ o hk,d⟩
  .have z:∃o,s.heap.get? p=a5 o/\o.ExactDict:=by
    rcases hk with⟨kvs,hk⟩|⟨kvs,hk⟩
    .obtain⟨_,_,_,_,o,_,_,e,ex,_⟩:=I.Dw p _ hk;show⟨o,e,ex⟩
    .obtain⟨_,_,_,_,o,_,_,e,ex,_⟩:=I.Dw p _ hk;show⟨o,e,ex⟩
   have⟨o,e,ex⟩:=z;show⟨⟨o,e,ex.1⟩,λa f=>?_⟩;cases f;show⟨o,e,ex.2.1⟩
  .obtain⟨o,_,_,_,e,ex,_⟩:=I.Dw p _ hk;show⟨⟨o,e,ex.1⟩,λa f=>?_⟩;cases f;show⟨o,e,ex.2.1⟩
 |_=>show J8 b
abbrev Pk(K:PySem.W.Frag)(T:String)(r:V->List V->Hp->VK->Prop)(to:TE)(t:TA):TE:=λσ H Q=>to σ H λx a=>LG K T x a/\t σ a λxs b=>r x xs b Q
variable{o e:pk}{es:List pk}{to:TE}{t:TA}{name:Str}{apos cpos:Pos}{T id:String}{r:V->List V->Hp->VK->Prop}
def km(f:PlainAttrs T)(slot:Slot T name id)(g:Wl (.builtin id)=pure (.type "method_descriptor"))(i:LF X id r)(ho:PE X o to)(j:PA X (e::es) t)
  (k:O0 o name X.env (F' o X.env)=F' o X.env:=by rfl)
  (l:((G_ cpos (mu (e::es) X.env)).all (λx=>!x.1)&&(O7 cpos (LS [] X.env)).all (λx=>x.1.isSome)
   && ez ((e::es).length+([]:List Lx).length+(if ([]:List Lx).isEmpty then 0 else 1)<30))=b5:=by rfl)
  (m:(apos.endLine==cpos.line)=b5:=by rfl) (hs:mu (e::es) X.env=(df,F' e X.env)::mu es X.env:=by rfl) (n:(G_ cpos (mu es X.env)).any (·.1)=df:=by rfl) :
  PE X (.Call (.Attribute o name apos) (e::es) [] cpos) (Pk X.K T r to t):=by
 intro a s σ H Q I h;show UK k l m rfl (Dx (ho a s σ H _ I h) λv s1 p=>?_);have⟨x,q,b,c,u,w⟩:=p;have⟨y,z⟩:=oI b c u;show⟨T,id,f,slot,g,y,z,?_⟩;have d:=j cpos a s1 σ q _ b w;rw[hs]at d ⊢;show Jm (by change(df||(G_ cpos (mu es X.env)).any (·.1))=df;rw[n]<;>rfl) (J0 ?_);show Dx d λus s2 ⟨vs,A,B,C,D⟩=>i a s2 σ A x vs v us Q B c C D
end
abbrev NI(X:Cx)(id:String)(r:V->List V->Hp->VK->Prop):Prop :=
 ∀(a:List (hQ×Obj)) (s:hH) (σ:St) (H:Hp) (x:V) (xs:List V) (v:eH) (us:List eH) (Q:VK),Inv X a σ H s->RelV x v->Vals xs us->r x xs H Q ->
  fx (ke X.prog X.w) X.A (MD (.builtin id) (v::us)) (EP X a σ Q) X.xe s
theorem Vals.one:∀{x:V}{us:List eH},Vals [x] us->∃u,us=[u]/\RelV x u
 |_,_,.cons r .nil=>⟨_,rfl,r⟩
section
def Inv.mS{b its':List eH}(I:Inv X a σ H s)(d:H l=a5 (.lst xs))
  (e:s.heap.get? l=a5 {cls:=.type "list",data:=.seq b.toArray n}) (g:f b.toArray=its'.toArray) (h:Vals c its') (hz:c.length<=dV) :
  Inv X a σ (upd H l (.lst c)) {s with heap:=s.heap.update l (tA f),toks:=t' }:=by
 have q:=PySem.IsL.update e f;rw[g]at q;show I.write (x:=l) (e:=l) (by rw[d];show trivial) (.inl rfl) (λk u i j=>(LA s.heap (tA f) (z8 i)).trans j) ⟨_,q⟩ ?_;show⟨hz,its',_,h,q⟩
def Inv.C8(I:Inv X a σ H s)(d:Vals b c)(hz:b.length<=dV):
  Inv X a σ (upd H s.heap.objs.size (.lst b)) {s with heap:=s.heap.push {cls:=.type "list",data:=.seq c.toArray},toks:=t' } :=
 I.laid (λ_ _ q=>et _ q) (gs _) ⟨hz,c,0,d,hA _ rfl⟩
def Inv.fresh(I:Inv X a σ H s):H s.heap.objs.size=b6:=I.Dw.fresh (gs _)
def Inv.Bv(I:Inv X b σ H s)(c:H l=a5 (.lst xs)):xs.length<=dV/\∃(a:List eH) (n:Nat),Vals xs a/\xs.length=a.length/\s.heap.get? l=a5 {cls:=.type "list",data:=.seq a.toArray n}:=by
 have⟨z,a,n,r,e⟩:=I.Dw l _ c;show⟨z,a,n,r,r.length,e⟩
def tS(h:n<=dV):HC n=df:=by
 unfold HC;show WL ⋯
end
section
abbrev wz:V->List V->Hp->VK->Prop:=λx vs H Q=>∃l xs y,x=.ref l/\vs=[y]/\H l=a5 (.lst xs)/\xs.length<dV/\Q .DB (upd H l (.lst (xs++[y])))
def dc:NI X "list.append" wz:=by
 intro a s σ H x vs v us Q I d rv h;have⟨l,xs,y,rfl,rfl,b,hz,q⟩:=h;cases d;have⟨u,rfl,f⟩:=rv.one;have⟨z,c,n,r,hl,e⟩:=I.Bv b;show Pr F.slot_list_append ⟨_,e,rfl⟩ F.entry_list_append (F.args_list_append_2 _ _) (PySem.list_append l c.toArray n u (by rw[hW];lia)) ⟨e,?_⟩;show⟨.DB,_,I.mS (its':=c++[u]) b e (by simp) (r.append (.cons f .nil)) ?_,rfl,q⟩;rw[i5,Ma];lia
end
section
set_option maxRecDepth 100000 in
end
section
end
end L2
namespace NJ
open PySem PySem.W PySem.Calls PyProof.Rows
def ib:∀(ns:List Int) (vs:List eH),WellAll P h vs (ns.map Wc)->UZ vs ns:=by
 intro ns;induction ns with
 |nil =>
  intro vs w;rw[H0]at w;cases w;show .nil
 |cons n ns c =>
  intro vs w;rw[gc]at w;cases w with
  |cons a b =>
   cases a;show .cons _ _ (c _ b)
def rN{l:OpenLaw}(j:l.most=a5 n)
  (g:l.row.toRowW.claim.pre args=b5) (k:WellAll P h b args) :
  ∃a vs ns,b=[lg a]/\args=[WData.list (ns.map Wc)]/\h.get? a=a5 {cls:=.type "list",data:=.seq vs.toArray}/\UZ vs ns/\ns.length<=n:=by
 have m:WShape.hasAll [] args [.list .int]=b5:=(pre_splitW g).1;have i:l.pre.holds [] {args:=args}=b5:=(pre_splitW g).2;have⟨d,r,rfl,o,p⟩:=hasAllW_cons m;obtain rfl:=hasAllW_nil p;have⟨xs,rfl,s⟩:=hasW_list o;have⟨ns,rfl⟩:=items_int s;have c:ns.length<=n:=by
  unfold OpenLaw.pre at i;have e:(WTm.not (.lt (.lit (.int (n:Int))) (.len (.arg 0)))).holds [] {args:=[.list (ns.map .int)]}=b5:=by
   have e:=(holds_andW i).1;rw[j]at e;show e
  have f:=condW_of e (w_not (w_lt w_lit (w_len_list (w_arg rfl))));rw[dt]at f;show Nat.le_of_not_lt λq=>?_;have t:(n:Int)<((ns.length:Nat):Int):=by lia
  first
   |(rw[WM t]at f;show absurd f (by decide))
   |(simp at f;lia)
 cases k with
 |cons u v =>
  cases v;cases u with
  |list ho w=>show⟨_,_,ns,rfl,rfl,ho,ib ns _ w,c⟩
def rO(l:OpenLaw)(args:List WData):l.row.toRowW.claim.post args (.bool b5) args=b5 :=
 postW_of (r:=l.row.toRowW) (X:=(b5==b5))
  (show VW [] (.bool b5) .bool=b5 by first|rfl|decide|simp[VW,WShape.arms,WShape.armsAll])
  (show(WTm.eq .res (.lit (.bool b5))).value [] {args:=args,res:=a5 (.bool b5),after:=args}=a5 (.bool (b5==b5)) from w_eq_bool (w_res rfl) w_lit) rfl
def mT{l:OpenLaw}
  (s:l.most=a5 n) (t:d.params.defaults=[])
  (MD:∀(w:Fi) (s₀ b:hH) (mg j:Str->Option eH) (fa:hQ) (o:Obj) (k i c:eH) (a:hQ) (vs:List eH) (ns:List Int),
   Ground q e [] u w s₀ mg j b.heap->v w b.heap ->
   b.heap.get? fa=a5 o->o.data=.func (docDef d.name d.params d.body d.scope k i c)->b.heap.CodeRec i d.name->mg d.name=a5 (.ref fa) ->
   b.heap.get? a=a5 {cls:=.type "list",data:=.seq vs.toArray}->UZ vs ns->ns.length<=n->b.gens=#[] ->
   OU (ke l.prog w) Pp (.call (.ref fa) ⟨[.ref a],[]⟩) (λr s'=>r=.ok (.ret (.bool b5))/\OldK b.heap s'.heap/\s'.os=b.os/\Px s'.gens) b) :
  WalkO q e u v l.row.toRowW d [] (λf vs=>PySem.call f vs):=by
 intro w s₀ b mg j G Y fa o k i c x kV ho y z m A B args p as C Q T D R9;obtain rfl:x=.none:=Dflts.none m t;obtain rfl:kV=.none:=Dflts.noKw m;have⟨a,vs,ns,rfl,rfl,H,g,h⟩:=rN s C D;show enter_call (Po (MD w s₀ b mg j fa o k i c a vs ns G Y ho (fd_plain y) z A H g h B) λr s' I=>?_);have⟨rfl,J,L,N⟩:=I;show⟨.inl ⟨.bool b5,.bool b5,[],rfl,λ_=>rfl,.bool b5,rO l _,λ_=>⟨V',λ_ O=>(nomatch O)⟩⟩,J,L,N⟩
section
end
end NJ
namespace L2
open PySem PySem.Spec PyProof.Rows
theorem kn:∀{vs:List eH}{ns:List Int},UZ vs ns->Vals (ns.map V.int) vs
 |_,_,.nil=>.nil
 |_,_,.cons n t h=>.cons ⟨t,rfl⟩ (kn h)
abbrev zq(H:Hp):Prop:=∀b,H b=b6\/∃o xs,H b=a5 (.FE o (.lst xs))
def tT{K:PySem.W.Frag}
  (y:K.In c.heap) (A:c.heap.Ns D' mg) (f:c.heap.Ns Pw B) (O:∀x:Str,x≠"__name__"->B x=IU x) (Q:c.heap.NoLimit) (T:c.gens=#[])
  (l:c.heap.get? a=a5 {cls:=.type "list",data:=.seq vs.toArray}) (C:UZ vs ns) (hl:ns.length<=dV) (Y:fc k Pp)
  (F:∀base:Hb,K.In base->base.Ns D' mg->lq P w K mg base CX k fa fd [x] sp) (Jq:∀(s:hH) (u:eH),UW s fd ⟨[u],[]⟩ [(x,u)])
  (E8:∀H:Hp,zq H->D3 K H a (ns.map V.int)->sp [.ref a] H (λv _=>v=.bl b5) λ_ _ _=>False)
  (LL:∀H e s',CX [] H c (λ_ _ _=>False) e s'->False) :
  OU (ke P w) Pp (.call (.ref fa) ⟨[.ref a],[]⟩) (λr s'=>r=.ok (.ret (.bool b5))/\OldK c.heap s'.heap/\s'.os=c.os/\Px s'.gens) c:=by
 have rv:=kn C;have LM:=C.length;have g:∀H:Hp,zq H->D3 K H a (ns.map V.int)->Ef P w H c.heap->(∀b,H b≠b6->b=a)->(H a≠b6->K.lookup a=b6) ->
   OU (ke P w) Pp (.call (.ref fa) ⟨[.ref a],[]⟩) (λr s'=>r=.ok (.ret (.bool b5))/\OldK c.heap s'.heap/\s'.os=c.os/\Px s'.gens) c:=by
  intro H D hS G I hK;have iy:∀{b:hQ} {o:Obj},c.heap.get? b=a5 o->H b=b6->(lb c.heap H).get? b=a5 o:=λe n=>tw e n;have Ji:∀{b:hQ} {o:Obj} {es:Array DictEntry} {ep:Nat},c.heap.get? b=a5 o->o.data=.dict es ep->H b=b6:=λ{b o es ep} e d=>by
   cases q:H b with
   |none=>rfl
   |some u =>
    have t:b=a:=I b (by rw[q];simp);subst t;rw[l]at e;cases e;have d':Data.seq vs.toArray _=Data.dict es ep:=d;cases d'
  have p:∀{b:hQ} {m:Str->Option eH},c.heap.Ns b m->(lb c.heap H).Ns b m:=λ{b m} ⟨o,es,ep,e,d,r⟩=>⟨o,es,ep,iy e (Ji e d),d,r⟩
  have J:K.In (lb c.heap H):=λb o e=>iy (y b o e) (by
   cases q:H b with
   |none=>rfl
   |some u =>
    have t:b=a:=I b (by rw[q];simp);subst t;rw[hK (by rw[q];simp)]at e;cases e)
  have hM:Mod K mg (lb c.heap H):=⟨J,p A,⟨B,p f,O⟩,let ⟨mc,h1,h2⟩:=Q;⟨mc,p h1,h2⟩⟩
  have e0:wm P w K mg (lb c.heap H) Pp [] c H:=⟨rfl,hM,λb o e=>v8 e,Ua (rG _ _),trivial,λb f=>absurd (show b∈([]:List hQ) from f) (by simp),G,.of_eq T⟩
  show Po ((F _ J (p A)).run Pp [] c H ⟨[.ref a],[]⟩ [.ref a] [.ref a] _ _ Y e0 (Jq c (.ref a)) (.cons rfl .nil) (E8 H D hS)) λr s' h=>?_;cases r with
  |error e=>show(LL H e s' h).elim
  |ok fl =>
   cases fl with
   |ret u =>
    have⟨v,H',os,i,L,LN,r',q⟩:=h;have q':v=.bl b5:=q;subst q';obtain rfl:u=Nn b5:=r';show⟨rfl,OldK.of_keep λb o e=>?_,os,i⟩;cases q:H b with
    |none=>show L.keep b o e q (by intro z;show absurd (show b∈([]:List hQ) from z) (by simp)) (by simp)
    |some u =>
     rcases D b with z|⟨ob,xs,z⟩
     .rw[q]at z;cases z
     .have z2:=L.EH b ob _ z;obtain⟨N,_⟩:=G b _ z;obtain⟨e2,_⟩:=LN b _ z2;rw[e]at N;cases N;show e2
   |_=>show J8 h
 cases hk:K.lookup a with
 |some o =>
  have e:=y a o hk;rw[l]at e;cases e;show g (λ_=>b6) (λ_=>.inl rfl) (.inr ⟨_,vs.toArray,_,hk,rfl,rfl,rfl,by rw[hW,LM];show hl,by simpa using rv⟩) (λb u z=>by have j:(b6:Option HO)=a5 u:=z;cases j) (λb z=>absurd rfl z) λz=>absurd rfl z
 |none =>
  show g (λb=>if b=a then a5 (.FE {cls:=.type "list",data:=.seq vs.toArray} (.lst (ns.map V.int))) else b6) (λb=>?_) (.inl (.inr ⟨{cls:=.type "list",data:=.seq vs.toArray},WJ rfl⟩)) (λb u z=>?_) (λb z=>?_) λ_=>hk
  .by_cases f:b=a
   .show .inr ⟨_,_,WJ f⟩
   .show .inl (WK f)
  .by_cases f:b=a
   .have j:=(WJ f).symm.trans z;cases j;subst f;show⟨l,by rw[dt];show hl,vs,_,rv,l⟩
   .have j:=(WK f).symm.trans z;cases j
  .by_cases f:b=a
   .show f
   .show absurd (WK f) z
def wA{l:PySem.W.OpenLaw}{K:US->PySem.W.Frag}{CX:Fi->Iv}{sp:Fi->Sp}
  (r:l.most=a5 n) (t:n<=dV) (y:d.params.defaults=[]) (z:fc k Pp)
  (A:∀(w:Fi) (h:Hb),B w h->(K w.params).In h)
  (F:∀(w:Fi) (mg:Str->Option eH) (fa:hQ) (h:Hb),(K w.params).In h->h.Ns D' mg->mg d.name=a5 (.ref fa) ->
   ∃j:O9,(∀(s:hH) (u:eH),UW s j ⟨[u],[]⟩ [(x,u)]) /\
    ∀base:Hb,(K w.params).In base->base.Ns D' mg->lq l.prog w (K w.params) mg base (CX w) k fa j [x] (sp w))
  (C:∀(w:Fi) (H:Hp) (a:hQ) (ns:List Int),ns.length<=n->zq H->D3 (K w.params) H a (ns.map V.int)->sp w [.ref a] H (λv _=>v=.bl b5) λ_ _ _=>False)
  (D:∀(w:Fi) (H:Hp) (s:hH) (e:eH) (s':hH),CX w [] H s (λ_ _ _=>False) e s'->False) :
  PySem.W.WalkO q m XP B l.row.toRowW d [] (λf vs=>PySem.call f vs):=by
 show NJ.mT r y λw s₀ I mg mb fa o pm cd J a vs ns G Y ho hd D9 L N i c O=>?_;have p:=A w _ Y;have⟨j,Q,hF⟩:=F w mg fa _ p G.T.g L;show tT p G.T.g G.T.b G.T.builtins G.T.nolimit O N i (vu c t) z hF Q (λH hO hS=>C w H a ns c hO hS) λH e s'=>D w H I e s'
abbrev eT(s:HK):Arguments:=match s with
 |.FunctionDef _ a _ _ _ _ _ _ _ _=>a
 |_=>{posonlyargs:=[],args:=[],vararg:=b6,kwonlyargs:=[],kw_defaults:=[],kwarg:=b6,defaults:=[]}
abbrev cu(s:HK):List HK:=match s with
 |.FunctionDef _ _ b _ _ _ _ _ _ _=>b
 |_=>[]
abbrev aE(s:HK):IW:=match s with
 |.FunctionDef _ _ _ _ _ _ a _ _ _=>a
 |_=>{kind:=.function,names:=[],isGenerator:=df,isCoroutine:=df}
@[reducible]def GV:Iv:=λ_ _ _ _ _ _=>False
@[reducible]def E0:XK:=λ_ _ _=>False
def yq:Passes GV X E0:=λ_ _ _ _ _ _ _ h=>h.elim
structure HI(K:PySem.W.Frag)(x qual:Str)(st:HK)(f:hQ)(fd:O9):Prop where
 ex:∃(oc:eH) (od:Option hQ) (kV doc pm:eH) (an:Option hQ) (Ey ct:eH) (Jj:Array (Option eH)),
  fd=PySem.W.fnOf x qual (eT st) (cu st) (aE st) .none kV doc pm an Ey ct/\K.lookup f=a5 ⟨oc,od,.func fd,Jj⟩/\PySem.W.codeIn K Ey qual=b5
 kp:PySem.W.keepIn K (.ref f)=b5
section
variable{P:DW}{w:Fi}{K:PySem.W.Frag}{mg:Str->Option eH}{base:Hb}
def HI.ok{st:HK}(F:HI K x a st f d)(S:dB N ps (aE st))(c:∀vs H Q E,sp vs H Q E->vs.length=ps.length)
  (e:∀(b:eH) (A:Ke) (outer:List Env) (s:hH) (H:Hp) (vs:List V) (Q:VK) (E:XK),fc k (A.deeper (Q9 a (aE st) s.heap.objs.size f b))->sp vs H Q E ->
   ∃t,Eb (oD GV P w K mg base N a (aE st) f b A outer s H E).Je (cu st) t/\t {nx:=λ_ H'=>Q .DB H',rt:=Q} (start N vs) H):lq P w K mg base GV (k+1) f d ps sp:=by
 have⟨m,n,kV,g,o,p,b,ct,r,rfl,lk,i⟩:=F.ex;show Bn lk i S c λA outer s H vs Q E j l=>?_;have⟨t,h,q⟩:=e b A outer s H vs Q E j l;show⟨t,h.Je,q⟩
def zr{st:HK}{kV b e d ct:eH}(l:K.lookup f=a5 ⟨h,i,.func (PySem.W.fnOf x a (eT st) (cu st) (aE st) .none kV b e g d ct),j⟩)
  (c:PySem.W.codeIn K d a=b5) (k:PySem.W.keepIn K (.ref f)=b5):HI K x a st f (PySem.W.fnOf x a (eT st) (cu st) (aE st) .none kV b e g d ct):=⟨⟨h,i,kV,b,e,g,d,ct,j,rfl,l,c⟩,k⟩
end
def rP(h:n<=1000):n<dV:=Nat.lt_of_le_of_lt h (by decide)
section
end
abbrev tU(H H':Hp):Prop:=∀b o,H b=a5 o->H' b=a5 o
section
variable{κ:Type}[DecidableEq κ]
abbrev cI(kvs:List (κ×V))(k:κ):Option V:=(kvs.find? λkv=>ez (kv.1=k)).map (·.2)
abbrev putK(kvs:List (κ×V))(k:κ)(v:V):List (κ×V) :=
 if (kvs.any λkv=>ez (kv.1=k))=b5 then kvs.map (λkv=>if kv.1=k then(kv.1,v) else kv) else kvs++[(k,v)]
def de{p:κ×V}{k:κ}(e:p.1=k):cI (p::r) k=a5 p.2:=by simp[cI,JM,e]
def dg{p:κ×V}{k:κ}(e:¬p.1=k):cI (p::r) k=cI r k:=by simp[cI,JM,e]
theorem fI(k:κ):∀kvs:List (κ×V),(kvs.any λkv=>ez (kv.1=k))=(cI kvs k).isSome
 |[]=>rfl
 |p::r=>by
  rw[Qc];by_cases e:p.1=k
  .simp only[de e,WM e,Bool.true_or,Ue]
  .rw[dg e,WL e,Bool.false_or];show fI k r
def gP(kvs:List (κ×V))(k:κ)(v:V):(putK kvs k v).length<=kvs.length+1:=by
 unfold putK;split
 .rw[dt];lia
 .rw[i5,lx,SU];lia
def tV{k:κ}(v:V)(h:cI kvs k=b6):putK kvs k v=kvs++[(k,v)]:=by
 unfold putK;rw[fI,h];show WK (by decide)
def ia.dh(r:ia o u):o.isSome=u.isSome:=by
 cases o with
 |none=>cases u with
  |none=>rfl
  |some _=>show(show False from r).elim
 |some _=>cases u with
  |none=>show(show False from r).elim
  |some _=>rfl
def ia.getD(r:ia o u)(a:RelV d d'):RelV (o.getD d) (u.getD d'):=by
 cases o with
 |none=>cases u with
  |none=>show a
  |some _=>show(show False from r).elim
 |some _=>cases u with
  |none=>show(show False from r).elim
  |some _=>show r
def KV.val(r:KV kvs vs)(k:κ):ia (cI kvs k) (S4 vs k):=by
 unfold KV at r;induction r with
 |nil=>show Qx
 |@cons p q ps a h t f =>
  have⟨d,g⟩:=h;by_cases e:p.1=k
  .have c:q.1=k:=d.symm.trans e;have b:S4 (q::a) k=a5 q.2:=by simp[S4,JM,c]
   rw[de e,b];show g
  .have c:¬q.1=k:=λz=>e (d.trans z);have b:S4 (q::a) k=S4 a k:=by simp[S4,JM,c]
   rw[dg e,b];show f
def KV.any(r:KV kvs vs)(k:κ):(kvs.any λkv=>ez (kv.1=k))=vs.any λkv=>ez (kv.1=k):=by
 unfold KV at r;induction r with
 |nil=>rfl
 |cons h t a=>rw[Qc,Qc,a,h.1]
def KV.zt(r:KV kvs vs)(k:κ)(b:RelV y u):
  KV (kvs.map λkv=>if kv.1=k then(kv.1,y) else kv) (vs.map λkv=>if kv.1=k then(kv.1,u) else kv):=by
 unfold KV at r ⊢;induction r with
 |nil=>show .nil
 |@cons p q ps f h t c =>
  rw[gc,gc];show .cons ?_ c;have⟨a,d⟩:=h;by_cases e:p.1=k
  .rw[WJ e,WJ (a.symm.trans e)];show⟨a,b⟩
  .rw[WK e,WK (λz=>e (a.trans z))];show⟨a,d⟩
def KV.put(r:KV kvs vs)(k:κ)(a:RelV y u):KV (putK kvs k y) (stored vs k u):=by
 unfold putK stored;rw[r.any k];by_cases e:(vs.any λkv=>ez (kv.1=k))=b5
 .rw[WJ e,WJ e];show r.zt k a
 .rw[WK e,WK e];show Paired.snoc r ⟨rfl,a⟩
def KV.length(r:KV kvs vs):kvs.length=vs.length:=Paired.length r
end
def kq(r:RelV (kV k) u):(aI P w).is k u=b5:=by
 cases k with
 |inl i=>have⟨t,e⟩:=(show ∃t,u=UP i t from r);subst e;show mL P w i t
 |inr x=>have⟨t,e⟩:=(show ∃t,u=DE x t from r);subst e;show mM P w x t
theorem kr:∀{ks:List Key}{us:List eH},Vals (ks.map kV) us->ItemsAre (aI P w) ks us
 |[],_,r=>by rw[H0]at r;cases r;show .nil
 |k::ks,_,r=>by
  rw[gc]at r;cases r with
  |cons h t=>show .cons (kq h) (kr t)
@[reducible]def KT(H:Hp):List (List Key×V)->List (List Key×hQ×eH)->Prop:=Paired λp q=>p.1=q.1/\H q.2.1=a5 (.tup (p.1.map kV))/\RelV p.2 q.2.2
def KT.val(r:KT H kvs xs)(k:List Key):ia (cI kvs k) ((QJ xs k).map (·.2)):=by
 induction r with
 |nil=>show Qx
 |@cons p q ps a h t f =>
  obtain⟨d,_,g⟩:=h;by_cases e:p.1=k
  .have c:q.1=k:=d.symm.trans e;have b:QJ (q::a) k=a5 q.2:=by simp[QJ,JM,c]
   rw[de e,b];show g
  .have c:¬q.1=k:=λz=>e (d.trans z);have b:QJ (q::a) k=QJ a k:=by simp[QJ,JM,c]
   rw[dg e,b];show f
def KT.zt(r:KT H kvs xs)(k:List Key)(c:RelV y u):
  KT H (kvs.map λkv=>if kv.1=k then(kv.1,y) else kv) (xs.map (putAt k u)):=by
 induction r with
 |nil=>show .nil
 |@cons p q ps g h t d =>
  rw[gc,gc];show .cons ?_ d;have⟨a,b,f⟩:=h;unfold putAt;by_cases e:p.1=k
  .rw[WJ e,WJ (a.symm.trans e)];show⟨a,b,c⟩
  .rw[WK e,WK (λz=>e (a.trans z))];show⟨a,b,f⟩
def KT.put(r:KT H kvs xs)(k:List Key)(c:H b=a5 (.tup (k.map kV)))(a:RelV y u):
  KT H (putK kvs k y) (storedH xs k b u):=by
 have e:(kvs.any λkv=>ez (kv.1=k))=(QJ xs k).isSome:=by
  rw[fI,(r.val k).dh,Nu]
 unfold putK storedH;rw[e];by_cases q:(QJ xs k).isSome=b5
 .rw[WJ q,WJ q];show r.zt k a
 .rw[WK q,WK q];show Paired.snoc r ⟨rfl,c,a⟩
def KT.keeps(r:KT H kvs xs)(c:∀b a,H b=a5 (.tup a)->H' b=a5 (.tup a)):KT H' kvs xs :=
 Paired.yV r λ_ _ z=>⟨z.1,c _ _ z.2.1,z.2.2⟩
section
def qo(b:Ef P w H h)(e:Rd H a u):bz P w H h a u:=e.ok b
def iO(b:Ef P w H h)(e:Rd H a (.dK kvs)):kvs.length<=dV/\(a==Fv)=df/\∃vs,KV kvs vs/\h.DictOf (aI P w) a vs :=
 show bz P w H h a (.dK kvs) from qo b e
def tW(b:Ef P w H h)(e:H a=a5 (.dK kvs)):kvs.length<=dV/\(a==Fv)=df/\∃vs,KV kvs vs/\h.DictOf (aI P w) a vs:=iO b (.inl e)
def gm(b:Ef P w H h)(e:H a=a5 (.tup (ks.map kV))):(Rw (aI P w)).is h ks a:=by
 obtain⟨_,c,r,o,d,f,n,g⟩:=(show bz P w H h a (.tup (ks.map kV)) from b a _ e)
 show⟨o,c.toArray,n,d,f,g,by simpa using kr r⟩
def iP(b:Ef P w H h)(e:Rd H a (.dT kvs)):kvs.length<=dV/\(a==Fv)=df /\
  ∃xs,KT H kvs xs/\h.DictOfH (Rw (aI P w)) a xs:=by
 have⟨z,y,xs,r,o,es,ep,d,f,g,i,j⟩:=(show bz P w H h a (.dT kvs) from qo b e)
 show⟨z,y,xs,r,o,es,ep,d,f,g,i,λx hx=>?_,j⟩;have all:∀{l:List (List Key×V)} {m:List (List Key×hQ×eH)},KT H l m->∀x∈m,(Rw (aI P w)).is h x.1 x.2.1:=by
  intro l m q;induction q with
  |nil=>intro x hx;show nomatch hx
  |@cons p q ps n c t k =>
   intro x hx;rcases ka.mp hx with e|hx
   .subst e;show gm b (by rw[<-c.1];show c.2.1)
   .show k x hx
 show all r x hx
def Bw(b:Ef P w H h)(e:H a=a5 (.dT kvs)):kvs.length<=dV/\(a==Fv)=df /\
  ∃xs,KT H kvs xs/\h.DictOfH (Rw (aI P w)) a xs:=iP b (.inl e)
end
abbrev dE(H:Hp)(a:hQ)(y:V)(r:Option V):Prop :=
 (∃kvs k,Rd H a (.dK kvs)/\y=kV k/\r=cI kvs k)\/∃kvs k b,Rd H a (.dT kvs)/\y=.ref b/\H b=a5 (.tup (k.map kV))/\r=cI kvs k
abbrev rQ(H:Hp)(a:hQ)(y v:V)(H':Hp):Prop :=
 (∃kvs k,H a=a5 (.dK kvs)/\y=kV k/\kvs.length<dV/\H'=upd H a (.dK (putK kvs k v))) \/
 ∃kvs k b,H a=a5 (.dT kvs)/\y=.ref b/\H b=a5 (.tup (k.map kV))/\kvs.length<dV/\H'=upd H a (.dT (putK kvs k v))
def dE.k{H:Hp}{a:hQ}{kvs:List (Key×V)}{k:Key}(e:H a=a5 (.dK kvs)):dE H a (kV k) (cI kvs k):=.inl ⟨kvs,k,.inl e,rfl,rfl⟩
def rQ.k{H:Hp}{a:hQ}{kvs:List (Key×V)}{k:Key}{v:V}(e:H a=a5 (.dK kvs))(hl:kvs.length<dV):rQ H a (kV k) v (upd H a (.dK (putK kvs k v))):=.inl ⟨kvs,k,e,rfl,hl,rfl⟩
section
def Inv.big(I:Inv X a σ H s):Fv<s.heap.objs.size:=by
 have h:D'<s.heap.objs.size:=(I.mod.glob.keeps I.bk).lt;show R0 (by decide) h
def rR(q:A.units+1<Eg)(I:Inv X f σ H s)(g:dE H a y (a5 v))(n:RelV y u)(h:∀d s',Inv X f σ H s'->RelV v d->Q d s'):
  fx (ke X.prog X.w) A (My (.ref a) u) Q E s:=by
 rcases g with⟨kvs,k,e,i,l⟩|⟨kvs,k,b,e,i,r,l⟩
 .subst i;have⟨z,t,vs,c,dd⟩:=iO I.Dw e;have⟨d,j,m⟩:=ia.some_of (v:=v) (o:=S4 vs k) (by rw[l];show c.val k);show wpAny_getItem_of (kq n) dd.mapOf j (h d _ (I.tok _) m)
 .subst i;cases(show u=lg b from n);have⟨z,t,xs,c,dd⟩:=iP I.Dw e;have⟨d,j,m⟩:=ia.some_of (v:=v) (o:=(QJ xs k).map (·.2)) (by rw[l];show c.val k);have⟨p,x,B⟩:=f6.mp j;show wpAny_getItem_heap (LK q) (gm I.Dw r) dd x ?_;rw[B];show h d _ (I.tok _) m
def Bx(m:A.units+1<Eg)(I:Inv X d σ H s)(g:dE H a y o)(j:RelV y u)(h:∀s',Inv X d σ H s'->Q (.bool o.isSome) s'):
  fx (ke X.prog X.w) A (J9 .In u (.ref a)) Q E s:=by
 rcases g with⟨kvs,k,e,f,l⟩|⟨kvs,k,b,e,f,n,l⟩
 .subst f;have⟨z,i,vs,c,dd⟩:=iO I.Dw e;show wpAny_in_of (kq j) i dd.mapOf ?_;rw[<-(c.val k).dh,<-l];show h _ (I.tok _)
 .subst f;cases(show u=lg b from j);have⟨z,i,xs,c,dd⟩:=iP I.Dw e;show wpAny_in_heap (LK m) (gm I.Dw n) i dd ?_;have q:=(c.val k).dh;rw[Nu]at q;rw[<-q,<-l];show h _ (I.tok _)
def qp(m:A.units+1<Eg)(I:Inv X d σ H s)(g:dE H a y o)(j:RelV y u)(h:∀s',Inv X d σ H s'->Q (.bool (!o.isSome)) s'):
  fx (ke X.prog X.w) A (J9 .NotIn u (.ref a)) Q E s:=by
 rcases g with⟨kvs,k,e,f,l⟩|⟨kvs,k,b,e,f,n,l⟩
 .subst f;have⟨z,i,vs,c,dd⟩:=iO I.Dw e;show wpAny_notIn_of (kq j) i dd.mapOf ?_;rw[<-(c.val k).dh,<-l];show h _ (I.tok _)
 .subst f;cases(show u=lg b from j);have⟨z,i,xs,c,dd⟩:=iP I.Dw e;show V8 (LK m) (gm I.Dw n) i dd ?_;have q:=(c.val k).dh;rw[Nu]at q;rw[<-q,<-l];show h _ (I.tok _)
def qq(I:Inv X c σ H s)(f:IZ (H a))(hs:Gy a s.heap h')(g:∃q,h'.get? a=a5 q)(new:bz X.prog X.w (upd H a d) h' a d):
  Inv X c σ (upd H a d) {s with heap:=h',toks:=t' } :=
 I.write (x:=a) (e:=a) f (.inl rfl) (λb q h z=>(hs.2 b h).trans z) g new
def zu(z:kvs.length<=dV)(c:(a==Fv)=df)(b:KV kvs vs)(dd:h'.DictOf (aI P w) a vs):
  bz P w H' h' a (.dK kvs):=⟨z,c,vs,b,dd⟩
def rS(B:A.units+1<Eg)(I:Inv X f σ H s)(g:rQ H a y v H')(p:RelV y u)(rv:RelV v r)(h:∀s',Inv X f σ H' s'->Q () s'):
  fx (ke X.prog X.w) A (Pa (.ref a) u r) Q E s:=by
 rcases g with⟨kvs,k,e,m,l,n⟩|⟨kvs,k,b,e,m,t,l,n⟩
 .subst m n;have⟨z,o,vs,d,dd⟩:=tW I.Dw e;have hz:vs.length<=dV:=by rw[<-d.length];show z
  have hl:(putK kvs k v).length<=dV:=by have:=gP kvs k v;lia
  show wpAny_setItem_pairs (hsz:=hz) (kq p) dd λh' i hs=>h _ ?_;have C:∃q,h'.get? a=a5 q:=let ⟨q,_,_,j,_⟩:=i;⟨q,j⟩;show qq I (by rw[e];show Qx) hs C (zu hl o (d.put k rv) i)
 .subst m n;cases(show u=lg b from p);have⟨z,o,xs,d,dd⟩:=Bw I.Dw e;have hz:xs.length<=dV:=by rw[<-Paired.length d];show z
  have hl:(putK kvs k v).length<=dV:=by have:=gP kvs k v;lia
  show Vz (hsz:=hz) (LK B) (gm I.Dw t) dd λh' i hs=>h _ ?_;obtain⟨q,es,ep,j,D,G,J,_,L⟩:=i;show qq I (by rw[e];show Qx) hs ⟨q,j⟩ ⟨hl,o,_,(d.put k t rv).keeps λc N x=>?_,q,es,ep,j,D,G,J,L⟩;rw[ai (tv x e (λz=>nomatch z))];show x
end
section
end
abbrev zv(i:pk):Prop:=∀a b,TB i df a b=operate [a,b] (My a b)
def wB{T id:String}
  (hl:VD (.type T) "__getitem__"=pure (a5 (.builtin id))) (hs:zv a)
  (h:fx (ke prog w) A (F' b env) (λo f=>fx (ke prog w) A (F' a env) (λi d=>d.TypeIs o T/\fx (ke prog w) A (My o i) Q E d) E f) E s) :
  fx (ke prog w) A (F' (.Subscript b a pos) env) Q E s:=by
 show SO (wk h (λo f k=>wk k (λi d e=>?_) λ_ _ x=>x) λ_ _ x=>x);have⟨g,e⟩:=e;unfold Sg;show bD ?_;rw[getitemInPython_of_ne g.not_modules];show bD (Lw g hl ?_);have c:fx (ke prog w) A (TB a df o i) (λr j=>fx (ke prog w) A (letTemporaryGo b o r >>= λ_=>pure r) Q E j) E d:=by
  rw[hs o i];show wpAny_operating (wk e (λr j l=>bD (wpAny_letTemporaryGo (cb l))) λ_ _ x=>x)
 first
  |show cb (bD c)
  |show bD (cb (bD c))
  |show bD c
def mU(I:Inv X c σ H s)(g:dE H a y o):s.TypeIs (.ref a) "dict":=by
 rcases g with⟨kvs,k,e,_,_⟩|⟨kvs,k,b,e,_,_,_⟩
 .obtain⟨_,_,vs,_,dd⟩:=iO I.Dw e;show dd.typeIs
 .obtain⟨_,_,xs,_,dd⟩:=iP I.Dw e;show dd.typeIs
abbrev By(c d:TE):TE:=λσ H Q=>c σ H λx e=>d σ e λy b=>∃a v,x=.ref a/\dE b a y (a5 v)/\Q v b
abbrev C9(c d:TE):TE:=λσ H Q=>c σ H λy e=>d σ e λx b=>∃a o,x=.ref a/\dE b a y o/\Q (.bl o.isSome) b
abbrev wC(c d:TE):TE:=λσ H Q=>c σ H λy e=>d σ e λx b=>∃a o,x=.ref a/\dE b a y o/\Q (.bl (!o.isSome)) b
section
def wD(d:X.A.units+1<Eg)(ho:PE X o e)(f:PE X i j)(hs:zv i):PE X (.Subscript o i pos) (By e j):=by
 intro b s σ H Q I h;show wB PySem.F.slot_dict_getitem.lookup hs (Dx (ho b s σ H _ I h) λu s1 ⟨x,k,l,m,n⟩=>Dx (f b s1 σ k _ l n) λB s2 p=>?_);have⟨y,q,c,r,a,v,ex,g,t⟩:=p;subst ex;obtain rfl:u=lg a:=m;show⟨mU c g,rR d c g r λC s3 w z=>⟨v,q,w,z,t⟩⟩
def zw(c:X.A.units+1<Eg)(d:PE X i e)(ho:PE X o f):PC X .In i o (C9 e f):=by
 intro b s σ H Q I h;show Dx (d b s σ H _ I h) λz s1 ⟨y,j,k,l,m⟩=>Dx (ho b s1 σ j _ k m) λu s2 n=>?_;have⟨x,p,q,r,a,t,ex,g,v⟩:=n;subst ex;obtain rfl:u=lg a:=r;show Bx c q g l λs3 w=>⟨.bl t.isSome,p,w,rfl,v⟩
def rT(c:X.A.units+1<Eg)(d:PE X i e)(ho:PE X o f):PC X .NotIn i o (wC e f):=by
 intro b s σ H Q I h;show Dx (d b s σ H _ I h) λz s1 ⟨y,j,k,l,m⟩=>Dx (ho b s1 σ j _ k m) λu s2 n=>?_;have⟨x,p,q,r,a,t,ex,g,v⟩:=n;subst ex;obtain rfl:u=lg a:=r;show qp c q g l λs3 w=>⟨.bl (!t.isSome),p,w,rfl,v⟩
end
def tX(h:Hb)(a:Fv<h.objs.size):bz P w H (h.push {cls:=.type "dict",data:=.dict #[]}) h.objs.size (.dK []) :=
 ⟨mx _,beq_eq_false_iff_ne.mpr (z8 (k7 a)),[],.nil,WA h⟩
abbrev zx:TE:=λ_ H Q=>∀p,H p=b6->Q (.ref p) (upd H p (.dK []))
section
def mV:PE X (.Dict [] [] pos) zx:=λb s σ H Q I h =>
 V2 ⟨.ref s.heap.objs.size,_,I.laid (a:=s.heap.objs.size) (o:=.dK []) (t':=s.toks) (λ_ _ q=>et _ q) (gs _) (tX s.heap I.big),rfl,h _ (I.Dw.fresh (gs _))⟩
end
structure M2(X:Cx)(o:pk)(m:Str)(apos:Pos)(e f:pk)(cpos:Pos):Prop where
 base:O0 o m X.env (F' o X.env)=F' o X.env
 E_:((G_ cpos (mu [e,f] X.env)).all (λx=>!x.1)&&(O7 cpos (LS [] X.env)).all (λx=>x.1.isSome)
  && ez (([e,f]:List pk).length+([]:List Lx).length+(if ([]:List Lx).isEmpty then 0 else 1)<30))=b5
 line:(apos.endLine==cpos.line)=b5
 trees:G_ cpos (mu [e,f] X.env)=[(df,F' e X.env),(df,F' f X.env)]
abbrev NM(H:Hp)(a:hQ):Prop:=(∃kvs,Rd H a (.dK kvs))\/∃kvs,Rd H a (.dT kvs)
def zy(I:Inv X i σ H s)(d:NM H a):
  s.TypeIs (.ref a) "dict"/\(∀b,lg a=.ref b->∃c,s.heap.get? b=a5 c/\c.dict=b6)/\(a==Fv)=df:=by
 rcases d with⟨kvs,e⟩|⟨kvs,e⟩
 .obtain⟨_,f,vs,_,dd⟩:=iO I.Dw e;show⟨dd.typeIs,λb q=>?_,f⟩;cases q;obtain⟨c,_,_,g,h,_⟩:=dd;show⟨c,g,h.2.1⟩
 .obtain⟨_,f,xs,_,dd⟩:=iP I.Dw e;show⟨dd.typeIs,λb q=>?_,f⟩;cases q;obtain⟨c,_,_,g,h,_⟩:=dd;show⟨c,g,h.2.1⟩
section
def zA(q:A.units+1<Eg)(I:Inv X f σ H s)(g:dE H a y o)(m:RelV y u)(n:RelV d r)(h:∀p s',Inv X f σ H s'->RelV (o.getD d) p->Q p s'):
  fx (ke X.prog X.w) A (MD (.builtin "dict.get") [.ref a,u,r]) Q E s:=by
 rcases g with⟨kvs,k,e,i,l⟩|⟨kvs,k,b,e,i,t,l⟩
 .subst i;have⟨z,j,vs,c,dd⟩:=iO I.Dw e;show UO PySem.F.slot_dict_get dd.typeIs PySem.F.entry_dict_get (PySem.F.args_dict_get_3 _ _ _) (meets_dict_get_default (aI X.prog X.w) a (kq m) j r) ⟨_,dd.mapOf,h _ _ (I.tok _) ?_⟩;rw[l];show(c.val k).getD n
 .subst i;cases(show u=lg b from m);have⟨z,j,xs,c,dd⟩:=iP I.Dw e;show UO PySem.F.slot_dict_get dd.typeIs PySem.F.entry_dict_get (PySem.F.args_dict_get_3 _ _ _) (meetsH_dict_get_default (Rw (aI X.prog X.w)) a b j r) ⟨LK q,k,xs,gm I.Dw t,dd,h _ _ (I.tok _) ?_⟩;rw[l];show(c.val k).getD n
end
abbrev zB(d e f:TE):TE:=λσ H Q=>d σ H λx b=>∃a,x=.ref a/\NM b a/\e σ b λy g=>f σ g λz c=>∃o,dE c a y o/\Q (o.getD z) c
section
def tY(j:X.A.units+1<Eg)(ho:PE X o k)(l:PE X e n)(p:PE X f q)(m:M2 X o "get" c e f cpos):PE X (.Call (.Attribute o "get" c) [e,f] [] cpos) (zB k n q):=by
 intro b s σ H Q I h;show wpAny_Call_method m.base m.E_ m.line PySem.F.plainAttrs_dict PySem.F.slot_dict_get PySem.F.type_dict_get (Dx (ho b s σ H _ I h) λu s1 r=>?_);have⟨x,t,i,v,a,ex,d,w⟩:=r;subst ex;obtain rfl:u=lg a:=v;obtain⟨B,C,_⟩:=zy i d;show⟨B,C,?_⟩;rw[m.trees];show Jm rfl (J0 (Le (Dx (l b s1 σ t _ i w) λiv s2 ⟨y,D,G,J,L⟩ =>
  Le (Dx (p b s2 σ D _ G L) λfv s3 ⟨z,N,O,T,ov,g,Y⟩=>Nw ?_))))
 show zA j O g J T λw' s4 I4 FF=>⟨_,N,I4,FF,Y⟩
end
section
end
section
end
end L2
namespace D4
open PySem PySem.Builtin.Str PySem.StrLaws
abbrev low(c:Nat):Bool:=ez (97<=c)&&ez (c<=122)
abbrev dU(l:List Nat):Bool:=ez (1<=l.length)&&ez (l.length<=8)&&l.all low
def bH(l:List Nat):dU l=b5↔1<=l.length/\l.length<=8/\∀c∈l,97<=c/\c<=122:=by
 simp[dU,low,ve,and_assoc]
def mW(h:dU l=b5):47∉l:=λm=>by
 have:=((bH l).mp h).2.2 47 m;lia
def wF{x y:Str}(h:x.cps.toList=y.cps.toList):x=y:=by
 cases x;cases y;congr
 show U3.mp h
def lB(x:Str)(c i:Nat):At x ⟨#[c]⟩ x.length i↔x.cps.toList[i]?=a5 c:=subAt_one x c i
def zC(h:x.cps.toList=a++c::b)(j:c∉a)(d:Nat)(hl:1<=d):∃r,Jz x ⟨#[c]⟩ 0 x.length d=a.length::r:=by
 have f:x.cps.toList[a.length]?=a5 c:=by rw[h];simp
 rcases occ_head x ⟨#[c]⟩ d hl with⟨_,k⟩|⟨i,r,e,l,m⟩
 .show absurd ((lB x c a.length).mpr f) (k _)
 .have g:=(lB x c i).mp l;have:i=a.length:=by
   rcases U8 i a.length with z|z|z
   .exfalso
    rw[h,z9 z]at g;show j (nC g)
   .show z
   .show absurd ((lB x c a.length).mpr f) (m _ z)
  subst this;show⟨r,e⟩
def oJ(h:c∉x.cps.toList):Lf x ⟨#[c]⟩=[x]:=by
 unfold Lf;split
 .rfl
 .rw[WJ];rcases occ_head x ⟨#[c]⟩ (x.length+1) ⋯ with⟨e,_⟩|⟨i,r,e,a,_⟩
  .rw[e];rfl
  .show absurd (nC ((lB x c i).mp a)) h
def mX(c:Nat)(h:c<256)(x:Str):¬(PySem.Builtin.Str.strKind x<PySem.Builtin.Str.strKind ⟨#[c]⟩):=by
 have e:PySem.Builtin.Str.strKind ⟨#[c]⟩=1:=by simp[PySem.Builtin.Str.strKind,h]
 rw[e];unfold PySem.Builtin.Str.strKind;split
 .lia
 .split<;>lia
def tZ(h:x.cps.toList=a++c::b)(d:c∉a)(f:c<256):∃r,Lf x ⟨#[c]⟩=⟨a.toArray⟩::r:=by
 have⟨r,e⟩:=zC h d (x.length+1) ⋯;have g:(⟨#[c]⟩:Str).length=1:=rfl;have k:x.length=a.length+1+b.length:=by
  have:=WN E1 h;simp[Tu]at this ⊢;lia
 unfold Lf;rw[WK (by
  have i:¬(x.length<(⟨#[c]⟩:Str).length):=by rw[g];lia
  have j:=mX c f x;simp[i,j]),WK (by rw[e];simp),partsBetween_eq,e]
 show⟨_,WN (·::_) ?_⟩;apply wF;rw[strSub_toList,h];simp
abbrev oK(i:Int):Str:=Ky (Wk i)
abbrev yr:Str:=⟨#[47]⟩
end D4
namespace L2
open PySem PySem.Spec PyProof.Rows
abbrev a9(env:Env):List (Str×HB)->List (Str×hQ)->List (Str×hQ)
 |[],b=>b
 |(n,k)::r,b=>a9 env r (if k==.free then(match env.cells.lookup n with|some a=>(n,a)::b|none=>b) else b)
def di(h:∀y∈scope.names,y.2=.free->∃a,env.cells.lookup y.1=a5 a):closureFor scope env=pure (a9 env scope.names []):=by
 unfold closureFor;generalize scope.names=names at h
 suffices H:∀b,(WH names b (λ(x:Str×HB) (r:List (Str×hQ))=>if (x.2==GP)=b5 then do let a <-cellOf env x.1;pure (Ku ((x.1,a)::r)) else pure (Ku r)):Sem (List (Str×hQ)))=pure (a9 env names b) by
  have:=H [];show WN (λ(m:Sem (List (Str×hQ)))=>m >>= pure) this
 induction names with
 |nil=>intro b;rfl
 |cons y r d =>
  intro b;have⟨n,k⟩:=y;rw[List.forIn_cons];have c:=d λy e=>h y (mA _ e);by_cases hk:(k==GP)=b5
  .have⟨a,f⟩:=h (n,k) l' (by simpa using hk);have g:env.cells.lookup n=a5 a:=f;simp only[hk,if_true,cellOf,g,a9];show c _
  .simp only[hk,WQ,a9];show c _
theorem dF:∀(names:List (Str×HB)) (b:List (Str×hQ)),(∀n c,b.lookup n=a5 c->env.cells.lookup n=a5 c)->∀n c,(a9 env names b).lookup n=a5 c->env.cells.lookup n=a5 c
 |[],_,h=>h
 |(m,k)::r,b,h=>by
  unfold a9;show dF r _ λn c e=>?_;by_cases hk:(k==GP)=b5
  .rw[WJ hk]at e;cases q:env.cells.lookup m with
   |none=>rw[q]at e;show h n c e
   |some a =>
    rw[q]at e;simp only[pb]at e;cases d:n==m with
    |true =>
     rw[d]at e;have f:n=m:=by simpa using d
     subst f;simp only at e;rw[q];show e
    |false=>rw[d]at e;show h n c e
  .rw[WK hk]at e;show h n c e
theorem gQ(d:env.cells.lookup n=a5 a):∀(names:List (Str×HB)) (c:List (Str×hQ)),c.lookup n=a5 a->(a9 env names c).lookup n=a5 a
 |[],_,h=>h
 |(m,k)::r,c,h=>by
  unfold a9;show gQ d r _ ?_;by_cases hk:(k==GP)=b5
  .rw[WJ hk];cases q:env.cells.lookup m with
   |none=>show h
   |some b =>
    simp only[pb];cases e:n==m with
    |true =>
     have f:n=m:=by simpa using e
     subst f;rw[d]at q;cases q;rfl
    |false=>show h
  .rw[WK hk];show h
theorem fq(b:env.cells.lookup n=a5 a):∀(names:List (Str×HB)) (c:List (Str×hQ)),(n,GP)∈names->(a9 env names c).lookup n=a5 a
 |[],_,h=>by cases h
 |(m,k)::r,c,h=>by
  unfold a9;rcases ka.mp h with e|e
  .cases e;show gQ b r _ ?_;rw[WJ (by decide),b];simp[pb]
  .show fq b r _ e
theorem bt{env:Env}:∀{names:List (Str×HB)}{x:Str}{k:HB},
  (names.map λ(n,k)=>if (k==GP&&env.scope.kind==.function&&env.kindOf n==a5 .cell) then(n,GS) else(n,k)).lookup x=a5 k ->
  names.lookup x=a5 k\/(k=.cell/\names.lookup x=a5 .free)
 |[],_,_,h=>by simp at h
 |(n,e)::r,x,k,h=>by
  have f:=@bt env r x k;rw[gc]at h;by_cases b:(e==GP&&env.scope.kind==.function&&env.kindOf n==a5 .cell)=b5
  .simp only[WJ b,pb]at h;cases a:x==n with
   |true =>
    rw[a]at h;have g:e=.free:=by
     have:=(Fg.mp (Fg.mp b).1).1;simpa using this
    show .inr ⟨by simpa using h.symm,by simp[pb,a,g]⟩
   |false =>
    rw[a]at h;rcases f h with z|⟨c,d⟩
    .show .inl (by simp[pb,a,z])
    .show .inr ⟨c,by simp[pb,a,d]⟩
  .simp only[WK b,pb]at h;cases a:x==n with
   |true=>rw[a]at h;show .inl (by simpa[pb,a] using h)
   |false =>
    rw[a]at h;rcases f h with z|⟨c,d⟩
    .show .inl (by simp[pb,a,z])
    .show .inr ⟨c,by simp[pb,a,d]⟩
theorem gR:∀(names:List (Str×HB)) (b:List (Str×hQ)),(a9 env names b).lookup x=a5 c->(x,GP)∈names\/b.lookup x=a5 c
 |[],_,h=>.inr h
 |(m,k)::r,b,h=>by
  unfold a9 at h;rcases gR r _ h with z|z
  .show .inl (mA _ z)
  .by_cases hk:(k==GP)=b5
   .rw[WJ hk]at z;cases q:env.cells.lookup m with
    |none=>rw[q]at z;show .inr z
    |some a =>
     rw[q]at z;simp only[pb]at z;cases d:x==m with
     |true =>
      have e:x=m:=by simpa using d
      have f:k=.free:=by simpa using hk
      subst e f;show .inl l'
     |false=>rw[d]at z;show .inr z
   .rw[WK hk]at z;show .inr z
theorem fJ:∀(names:List (Str×HB)) (n:Nat) (acc:List (Str×hQ)),(Iy n names acc).lookup x=a5 c->((x,GS)∈names/\@Vr Nat _ n c)\/acc.lookup x=a5 c
 |[],_,_,h=>.inr h
 |(y,k)::r,n,acc,h=>by
  unfold Iy at h;by_cases hk:(k==GS)=b5
  .rw[WJ hk]at h;have e:k=.cell:=by simpa using hk
   subst e;rcases fJ r (n+1) _ h with⟨a,b⟩|z
   .show .inl ⟨mA _ a,Nat.le_of_succ_le b⟩
   .simp only[pb]at z;cases d:x==y with
    |true =>
     rw[d]at z;have f:x=y:=by simpa using d
     subst f;cases z;show .inl ⟨l',gs _⟩
    |false=>rw[d]at z;show .inr z
  .rw[WK hk]at h;rcases fJ r n acc h with⟨a,b⟩|z
   .show .inl ⟨mA _ a,b⟩
   .show .inr z
theorem lC:∀(names:List (Str×HB)) (n:Nat) (acc:List (Str×hQ)),(x,GS)∉names->(Iy n names acc).lookup x=acc.lookup x
 |[],_,_,_=>rfl
 |(y,k)::r,n,acc,h=>by
  unfold Iy;have a:(x,GS)∉r:=λz=>h (mA _ z);by_cases hk:(k==GS)=b5
  .rw[WJ hk,lC r _ _ a];have b:k=.cell:=by simpa using hk
   subst b;simp only[pb];cases c:x==y with
   |true =>
    have d:x=y:=by simpa using c
    subst d;show absurd l' h
   |false=>rfl
  .rw[WK hk,lC r _ _ a]
theorem oM:∀(names:List (Str×HB)) (n:Nat) (acc:List (Str×hQ)),(∀(z:Str) (d:hQ),acc.lookup z=a5 d->@J2 Nat _ d n)->(∀(u v:Str) (d:hQ),acc.lookup u=a5 d->acc.lookup v=a5 d->u=v) ->
  (Iy n names acc).lookup x=a5 c->(Iy n names acc).lookup y=a5 c->x=y
 |[],_,_,_,f,a,b=>f x y c a b
 |(g,k)::r,n,acc,hl,f,a,b=>by
  unfold Iy at a b;by_cases hk:(k==GS)=b5
  .rw[WJ hk]at a b;have lk:∀(z:Str) (d:hQ),List.lookup z ((g,(n:hQ))::acc)=a5 d->(z=g/\d=n)\/acc.lookup z=a5 d:=λz d e=>by
    simp only[pb]at e;cases h:z==g with
    |true=>rw[h]at e;cases e;show .inl ⟨by simpa using h,rfl⟩
    |false=>rw[h]at e;show .inr e
   show oM r (n+1) _ (λz d e=>?_) (λu v d i j=>?_) a b
   .rcases lk z d e with⟨_,q⟩|q
    .rw[q];show OQ _
    .show LP (hl z d q)
   .rcases lk u d i with⟨l,m⟩|q<;>rcases lk v d j with⟨o,p2⟩|p
    .rw[l,o]
    .rw[m]at p;show absurd (hl v n p) (wh _)
    .rw[p2]at q;show absurd (hl u n q) (wh _)
    .show f u v d q p
  .rw[WK hk]at a b;show oM r n acc hl f a b
theorem lD:∀(names:List (Str×HB)) (h:Hb) (acc:List (Str×hQ)),(Iy h.objs.size names acc).lookup x=a5 c->(N1 h names).IsCell c b6\/acc.lookup x=a5 c
 |[],_,_,e=>.inr e
 |(y,k)::r,h,acc,e=>by
  unfold Iy at e;unfold N1;by_cases hk:(k==GS)=b5
  .rw[WJ hk]at e ⊢;have hs:h.objs.size+1=(h.push {cls:=.type "cell",data:=.cell b6}).objs.size:=by rw[Ly]
   rw[hs]at e;rcases lD r _ _ e with z|z
   .show .inl z
   .simp only[pb]at z;cases a:x==y with
    |true =>
     rw[a]at z;cases z;show .inl ⟨_,TN r _ _ _ (hA _ rfl),rfl⟩
    |false=>rw[a]at z;show .inr z
  .rw[WK hk]at e ⊢;show lD r h acc e
abbrev FQ(X:Cx)(scope:IW)(C:hQ):List (Str×hQ):=Iy (C+1) scope.names (a9 X.env scope.names [])
abbrev Eh(X:Cx)(N:List Str)(scope:IW)(C:hQ)(s:hH)(H:Hp)(ex:List hQ):Cx where
 prog:=X.prog
 w:=X.w
 K:=X.K
 mg:=X.mg
 base:=X.base
 A:=X.A
 N:=N
 s₀:=s
 H₀:=H
 env:=S_ scope (FQ X scope C) C X.env
 outer:=X.stack
 stack:=X.stack
 ex:=ex
 fn:=λx=>ez (scope.names.lookup x=a5 .cell)
 calm:=X.calm
 pn:=[]
 xe:=λ_ _=>False
abbrev c9(D N:List Str):Prop:=D.length=N.length/\∀(i:Nat) (y:Str),D[i]?=a5 y->N[i]?=a5 y\/y="."\/y=".."
def c9.refl(N:List Str):c9 N N:=⟨rfl,λ_ _ h=>.inl h⟩
def c9.set{D N:List Str}(h:c9 D N)(j:Nat){m:Str}(b:m="."\/m=".."):c9 (D.set j m) N:=by
 show⟨by rw[Vp];show h.1,λi y e=>?_⟩;by_cases a:j=i
 .subst a;rw[List.getElem?_set,WJ rfl]at e;split at e
  .cases e;show .inr b
  .cases e
 .rw[k8 a]at e;show h.2 i y e
structure bZ(X:Cx)(N own:List Str)(scope:IW):Prop where
 kind:scope.kind=.function
 uq:∀y∈scope.names,scope.names.lookup y.1=a5 y.2
 cl:∀y∈scope.names,y.2=.cell->y.1∈own
 nd:N.Nodup
 pre:N.take own.length=own
 loc:∀y∈scope.names,y.2=.local->y.1∈own\/y.1=".0"
 Pq:(".0":Str)∉N
 tail:c9 (N.drop own.length) X.N
 free:∀y∈scope.names,y.2=.free->X.env.scope.names.lookup y.1=a5 .cell\/X.env.scope.names.lookup y.1=a5 .free
 dot:∀y∈scope.names,y.1≠"."/\y.1≠".."
def mem_lookup{names:List (Str×HB)}(h:names.lookup x=a5 k):(x,k)∈names:=PySem.mem_of_lookup h
def bZ.names(S:bZ X N a scope):∀y∈scope.names,y.2=.local->scope.names.lookup y.1=a5 .local:=λy b e=>e▸S.uq y b
def bZ.no(S:bZ X N a scope)(h:scope.names.lookup x=a5 .free):(x,GS)∉scope.names:=λz=>by
 have:=S.uq _ z;rw[h]at this;cases this
def bZ.cells(S:bZ X N c scope)(b:X.Ok):∀y∈scope.names,y.2=.free->∃a,X.env.cells.lookup y.1=a5 a:=λy d e=>by
 rcases S.free y d e with z|z
 .show b.has y.1 (.inl z)
 .show b.has y.1 (.inr z)
def t5(S:bZ X N f scope)(I:Inv X D σ H s)
  (B:s.heap.objs.size<=C) (GF:∀x c,(FQ X scope C).lookup x=a5 c->s4.heap.IsCell c b6\/(a9 X.env scope.names []).lookup x=a5 c) (E9:s4.os=s.os) (hg:s4.gens=s.gens) (keep:∀b o,s.heap.get? b=a5 o->s4.heap.get? b=a5 o) (ns:∃m,s4.heap.Ns C m)
  (g:∀b∈ex,fG X D H b/\b<s.heap.objs.size):Inv (Eh X N scope C s H ex) [] (l0 f.length b6++σ) H s4:=by
 have⟨m0,Jr⟩:=ns;have sub:=dF (env:=X.env) scope.names [] (λn c e=>by simp at e);have Pt:∀(x:Str) (c:hQ),(a9 X.env scope.names []).lookup x=a5 c->c<s.heap.objs.size:=λx c e=>by
  obtain⟨v,o,ho,_⟩:=I.cell x c (sub x c e);show hY ho
 have L:∀(x:Str) (c:hQ),(FQ X scope C).lookup x=a5 c->C<c\/(a9 X.env scope.names []).lookup x=a5 c:=λx c e=>(fJ _ _ _ e).imp (λz=>z.2) id;have Y:∀b∈ex,b<C:=λb t=>k9 (g b t).2 B;have tl:f.length<=N.length:=by have:=WN E1 S.pre;rw[EX]at this;lia
 show⟨⟨I.ok.mod,?_,I.ok.glob,I.ok.blt,B,λx y c w A=>oM _ _ _ (λz d e=>LP (k9 (Pt z d e) B)) (λu v d G e2=>I.ok.inj u v d (sub u d G) (sub v d e2)) w A,λx hx=>?_,λx c h e=>?_,I.ok.hd,I.ok.frames,.inl rfl,λb t=>⟨k7 (Y b t),λx c e=>?_⟩,λb o e=>I.bs b o e,?_,λb o e t=>?_,λb t=>?_,I.stack,I.qg⟩,
  E9,(by rw[hg];show I.bare),Un.kept keep,⟨m0,Jr,λi y v w A h3=>?_⟩,λx c e=>?_,I.Dw.fresh B,λx c e=>?_,λp hp=>absurd (show p∈([]:List (hQ×Obj)) from hp) (by simp),I.Dw.kept keep,?_⟩
 .change(Pl scope X.env).kind=.function;show S.kind
 .
  have LW:(Pl scope X.env).names.lookup x=a5 .cell\/(Pl scope X.env).names.lookup x=a5 .free:=hx;have DM:scope.names.lookup x=a5 .cell\/scope.names.lookup x=a5 .free:=by
   rcases LW with z|z
   .rcases bt z with q|⟨_,q⟩
    .show .inl q
    .show .inr q
   .rcases bt z with q|⟨q,_⟩
    .show .inr q
    .cases q
  rcases DM with DM|DM
  .show Ny.mp (PySem.W.cellsFrom_some scope.names (C+1) _ (.inl DM))
  .have⟨a,ha⟩:=S.cells I.ok (x,.free) (mem_lookup DM) rfl;show⟨a,(lC _ _ _ (S.no DM)).trans (fq ha scope.names [] (mem_lookup DM))⟩
 .have h':scope.names.lookup x=a5 .cell:=WO h;rcases L x c e with z|z
  .show vu B (H8 z)
  .rcases gR _ _ z with z|z
   .have:=S.uq _ z;rw[h']at this;cases this
   .simp at z
 .rcases L x c e with z|z
  .show λq=>absurd (R0 (Y b t) z) (by rw[q];show wh _)
  .show(g b t).1.2.2.2.2.1 x c (sub x c z)
 .show vu I.ok.Ha I.sz
 .have⟨f0,f1,f2,f3,f4,f5⟩:=(g b t).1;rcases f3 with z|z
  .show I.ok.F2 b o e z
  .show absurd (k9 (hY e) (vu I.ok.Ha z)) (wh _)
 .intro GG;have⟨f0,f1,f2,f3,f4,f5⟩:=(g b t).1;rcases ka.mp (I.iE b GG) with z|z
  .show f1 z
  .show f2 z
 .
  have O:f.length<=i:=by
   by_cases O:i<f.length
   .rw[z9 (by simpa using O),I0]at A;split at A<;>cases A
   .lia
  rw[uk (by simpa using O),Md]at A;have Pu:(N.drop f.length)[i - f.length]?=a5 y:=by
   rw[HD];have e:f.length+(i - f.length)=i:=by lia
   rw[e];show w
  have Iz:(Pl scope X.env).names.lookup y=a5 .local\/(Pl scope X.env).names.lookup y=a5 .cell\/(Pl scope X.env).names.lookup y=a5 .free:=h3;have Hg:∀y:Str,y∈f->N[i]?=a5 y->False:=λy Q w=>by
   have⟨j,hj,ej⟩:=MU Q;have HJ:N[j]?=a5 y:=by
    have G:(N.take f.length)[j]?=a5 y:=by rw[S.pre,r3 hj,ej]
    rw[TJ hj]at G;show G
   have:=iF S.nd HJ w;lia
  have DM:scope.names.lookup y=a5 .free:=by
   rcases Iz with z|z|z
   .rcases bt z with q|⟨q,_⟩
    .exfalso
     have Q:y∈f:=by
      rcases S.loc (y,.local) (mem_lookup q) rfl with z|z
      .show z
      .have z':y=".0":=z;show absurd (nC w) (by rw[z'];show S.Pq)
     show Hg y Q w
    .cases q
   .rcases bt z with q|⟨_,q⟩
    .show(Hg y (S.cl _ (mem_lookup q) rfl) w).elim
    .show q
   .rcases bt z with q|⟨q,_⟩
    .show q
    .cases q
  have hX:X.N[i - f.length]?=a5 y:=by
   rcases S.tail.2 _ _ Pu with e|e|e
   .show e
   .show absurd e (S.dot _ (mem_lookup DM)).1
   .show absurd e (S.dot _ (mem_lookup DM)).2
  have⟨m,hn,hl⟩:=I.loc;have hv:X.env.scope.names.lookup y=a5 .cell\/X.env.scope.names.lookup y=a5 .free:=S.free (y,.free) (mem_lookup DM) rfl;have⟨u,r,l⟩:=hl _ y v hX A (.inr hv);show⟨u,r,?_⟩;rcases l with⟨k,_⟩|⟨k,c,e,z⟩
  .have k':X.env.scope.names.lookup y=a5 .local:=k;rcases hv with q|q<;>(rw[k']at q;cases q)
  .have hk:(Pl scope X.env).names.lookup y=a5 .cell\/(Pl scope X.env).names.lookup y=a5 .free:=by
    rcases Iz with q|q|q
    .rcases bt q with J|⟨J,_⟩
     .rw[DM]at J;cases J
     .cases J
    .show .inl q
    .show .inr q
   have⟨o,ho,T⟩:=z;show .inr ⟨hk,c,(lC _ _ _ (S.no DM)).trans (fq e scope.names [] (mem_lookup DM)),o,keep c o ho,T⟩
 .rcases GF x c e with z|z
  .show⟨_,z⟩
  .have⟨v,o,ho,T⟩:=I.cell x c (sub x c z);show⟨v,o,keep c o ho,T⟩
 .rcases L x c e with z|z
  .show I.Dw.fresh (vu B (H8 z))
  .show I.D7 x c (sub x c z)
 .rw[i5,Md,I.len];have e:N.length=f.length+(N.drop f.length).length:=by rw[SG];lia
  change _=N.length;rw[e,S.tail.1]
def mY(I:Inv X f σ H s)
  (d:Inv (Eh X N scope C s H ex) Hc σ' l s4) (x:s.heap.objs.size<=D) (y:s.heap.objs.size<=C) (A:D≠C) (h:l D=b6) (rv:Vals p r) (B:s4.heap.PlainList D r.toArray) (hl:p.length<=dV)
  (i:Gy C s4.heap h') (m:∀b∈ex,fG X f H b):Inv X f σ (upd l D (.lst p)) {s4 with heap:=h' }:=by
 have t:l C=b6:=d.free;have lt:∀{b:hQ} {o:Obj},s.heap.get? b=a5 o->b≠C/\b≠D:=λe=>⟨k7 (k9 (hY e) y),k7 (k9 (hY e) x)⟩
 show I.A2 (s':={s4 with heap:=h' }) (ch:=ex) d.os ⟨λb o e n j g=>?_,λb o e n j g=>?_,λb o e n g=>?_,λb o e g=>?_,λb xs e=>?_,λb o u e=>?_,λb ps e=>?_⟩ (λa o e=>?_) d.bare λb j=>?_
 .show(i.2 b (lt e).1).trans (d.base.keep b o e n j g)
 .have⟨G,q⟩:=d.base.slot b o e n j g;show⟨G,(i.2 b (lt e).1).trans q⟩
 .rw[ai (lt e).2];show d.base.free b o e n g
 .have⟨J,q⟩:=d.base.there b o e g;show⟨J,(i.2 b (lt e).1).trans q⟩
 .have q:=d.base.ig b xs e;rw[ai (bb q h)];show q
 .have q:=d.base.EH b o u e;rw[ai (bb q h)];show q
 .have⟨k,q⟩:=d.base.EO b ps e;show⟨k,by rw[ai (bb q h)];show q⟩
 .by_cases w:a=D
  .subst w;rw[aq]at e;cases e;have⟨n,q⟩:=B;show⟨hl,r,n,rv,(i.2 _ A).trans q⟩
  .rw[ai w]at e;show(d.Dw a o e).la (λc v L q=>(i.2 c ?_).trans q) (λc q=>?_) λc xs q=>?_
   .rintro rfl;rcases L with z|z
    .rw[<-z,t]at e;cases e
    .rw[t]at z;cases z
   .rw[ai (bb q h)];show q
   .rw[ai (bb q h)];show q
 .have⟨f0,O,f2,Q,T,Y⟩:=m b j;show⟨Q,O,T,Y⟩
section
def lE(I:Nat->hH->Prop)
  (b:∀n s,I n s->fx (ke prog w) A (Pn it) (λr d=>match r with
   |none=>R (.ok .next) d
   |some v=>fx (ke prog w) A (P1 a it v) (λ_ d=>fx (ke prog w) A (Oa a env v) (λ_ j =>
     fx (ke prog w) A (WH f b5 λc r=>if r=b5 then do let ok <-isTrue c env (F' c env);pure (Ku ok) else pure (Ku r)) (λok i =>
      if ok=b5 then fx (ke prog w) A (F' elt env) (λx k =>
       fx (ke prog w) A (MD (.builtin "list.append") [acc,x]) (λ_ l=>∃m,m<n/\I m l) (Ry (ke prog w) A env λe s'=>R (.error e) s') k) (Ry (ke prog w) A env λe s'=>R (.error e) s') i
      else ∃m,m<n/\I m i) (Ry (ke prog w) A env λe s'=>R (.error e) s') j) (Ry (ke prog w) A env λe s'=>R (.error e) s') d) (Ry (ke prog w) A env λe s'=>R (.error e) s') d) (Ry (ke prog w) A env λe s'=>R (.error e) s') s)
  (n:Nat) (h:I n s) :
  OU (ke prog w) A (.compLoop (.ListComp elt [⟨a,g,f,0⟩] scope pos) 0 it acc env) R s:=by
 show codeAny_loop rfl I (λn s q=>?_) n h;change fx _ A ((compTurn (.ListComp elt [⟨a,g,f,0⟩] scope pos) 0 it acc env).onRaise (λx=>do noteFrame x env;theTreesLotGoes x)) _ _ s;show wpAny_noted ?_;rw[compTurn_list];show bD (Ul (bD (wk (b n s q) (λr d o=>?_) λ_ _ h'=>h')));cases r with
 |none=>show cb o
 |some v =>
  show bD (wk o (λ_ B t=>?_) λ_ _ h'=>h');show bD (wk t (λ_ j u=>bD (wk u (λok i p=>?_) λ_ _ h'=>h')) λ_ _ h'=>h');cases ok with
  |false=>show cb ⟨rfl,p⟩
  |true =>
   show bD (bD (wk p (λx k y=>bD (wk y (λ_ l z=>cb (cb ⟨rfl,z⟩)) λ_ _ h'=>h')) λ_ _ h'=>h'))
end
abbrev GW(X:Cx)(b:List pk)(t:TT):Prop :=
 ∀(a:List (hQ×Obj)) (s:hH) (σ:St) (H:Hp) (Q:Bool->Hp->Prop),Inv X a σ H s->t σ H Q ->
  fx (ke X.prog X.w) X.A (WH b b5 λc r=>if r=b5 then do let d <-isTrue c X.env (F' c X.env);pure (Ku d) else pure (Ku r)) (TP X a σ Q) X.xe s
abbrev C_:TT:=λ_ H Q=>Q b5 H
def qr:GW X [] C_:=λ_ _ _ H _ I h=>wpAny_tests_nil ⟨H,I,h⟩
def qt(h:PT X c t):GW X [c] t:=λa s σ H Q I q=>wpAny_tests_one (h a s σ H Q I q)
abbrev qu(k:Nat)(J:It)(g:TG)(l:TT)(n:TE)(Q:VK)(σ:St)(o:Hp):Prop :=
  ∃W:Nat->Nat->List V->Hp->Prop,(∃m,W 0 m [] o)/\∀i m a H,W i m a H->a.length<=dV /\
    ((J.stop i H/\∀p,H p=b6->Q (.ref p) (upd H p (.lst a))) \/
     (J.go i H/\∃d:List V->Hp->Prop,(∀f H',d f H'->∃h,h<m/\W (i+1) h f H')/\∀x H',J.Km i H x H'->g x (l0 k b6++σ) H' λe q=>∃c:St,c.length=k/\e=c++σ /\
        l e q λb j=>if b=b5 then n e j λy r=>d (a++[y]) r else d a j))
abbrev t6(k:Nat)(a:TI)(g:TG)(b:TT)(c:TE):TE:=λσ H Q=>a σ H λJ d=>qu k J g b c Q σ d
section
def t7
  (S:bZ X N B scope) (hc:X.calm=b5) (hg:∀C s H ex,PG (Eh X N scope C s H ex) tg g) (hf:∀C s H ex,GW (Eh X N scope C s H ex) an tt) (he:∀C s H ex,PE (Eh X N scope C s H ex) elt te)
  (I:Inv X ap σ H s) (T:Turn X.prog X.w X.K tg J G it tn) (st:tn 0 s.heap) (f2:∀b∈G,fG X ap H b) (W:qu B.length J g tt te Q σ H)
  (hD:@Eq Nat D s.heap.objs.size) (hC:@Eq Nat C (s.heap.objs.size+1)) (GF:∀x c,(FQ X scope C).lookup x=a5 c->s4.heap.IsCell c b6\/(a9 X.env scope.names []).lookup x=a5 c) (E9:s4.os=s.os) (Py:s4.gens=s.gens) (keep:∀b o,s.heap.get? b=a5 o->s4.heap.get? b=a5 o) (ns:∃m,s4.heap.Ns C m) (pl:s4.heap.PlainList D #[])
  (as:∀s5 Y O k,Inv (Eh X N scope C s H G) [] (l0 B.length b6++σ) Y s5->Y D=b6->Vals O k->s5.heap.PlainList D k.toArray->O.length<=dV->(∀p,Y p=b6->Q (.ref p) (upd Y p (.lst O)))->R (.ok .next) s5) :
  OU (ke X.prog X.w) X.A (.compStart (.ListComp elt [⟨tg,a0,an,0⟩] scope pos) 0 (.ref it) (.ref D) (S_ scope (FQ X scope C) C X.env)) R s4:=by
 have F5:∀b∈G,@J2 Nat _ b s.heap.objs.size:=λb h=>by
  obtain⟨o,e,_⟩:=T.obj 0 s.heap st b h;show hY e
 have I4:Inv (Eh X N scope C s H G) [] (l0 B.length b6++σ) H s4:=t5 S I ⋯ GF E9 Py keep ns λb h=>⟨f2 b h,F5 b h⟩
 have IA:tn 0 s4.heap:=T.keep 0 s.heap s4.heap st λb _ o e=>keep b o e;have nD:H D=b6:=I.Dw.fresh ⋯;obtain⟨W,⟨m0,w0⟩,Vf⟩:=W;generalize l:Eh X N scope C s H G=f at I4 as;have eP:f.prog=X.prog:=by rw[<-l];rfl
 have ew:f.w=X.w:=by rw[<-l];rfl
 have eK:f.K=X.K:=by rw[<-l];rfl
 have ec:f.calm=b5:=by rw[<-l];show hc
 have eA:f.A=X.A:=by rw[<-l];rfl
 have ee:f.env=S_ scope (FQ X scope C) C X.env:=by rw[<-l];rfl
 have LX:f.xe=λ_ _=>False:=by rw[<-l];rfl
 have el:f.env.locals=C:=by rw[ee];rfl
 have Pz:PG f tg g:=by rw[<-l];show hg _ _ _ _
 have PB:GW f an tt:=by rw[<-l];show hf _ _ _ _
 have LY:PE f elt te:=by rw[<-l];show he _ _ _ _
 have s0:f.s₀=s:=by rw[<-l];rfl
 have Jt:f.pn=[]:=by rw[<-l];rfl
 have LZ:∀{H':Hp} {o:Obj},(∀b∈G,H' b=b6)->∀b∈G,fG f [(D,o)] H' b:=λ{H' o} hn b h=>by
  have ex:f.ex=G:=by rw[<-l];rfl
  show⟨hn b h,?_,?_,.inl (by rw[ex];show h),λx c e=>?_,λp L=>?_⟩
  .rw[el];have:=F5 b h;show k7 (by change @J2 Nat _ b C;lia)
  .have e1:f.fs=Fu X.stack:=by rw[<-l];rfl
   rw[e1];intro z;have⟨f0,f1,PD,f3,f4,f5⟩:=f2 b h;rcases ka.mp (I.iE b z) with q|q
   .show f1 q
   .show PD q
  .have e1:f.env.cells=FQ X scope C:=by rw[ee];rfl
   rw[e1]at e;rcases fJ _ _ _ e with z|z
   .have:=F5 b h;have:=z.2;show Hd (by change @J2 Nat _ b c;lia)
   .show(f2 b h).2.2.2.2.1 x c (dF scope.names [] (λn c e=>by simp at e) x c z)
  .rw[Jt,my]at L;have:p=(D,o):=by simpa using L
   subst this;have:=F5 b h;show Hd (by change @J2 Nat _ b D;lia)
 have L0:∀{σ':St} {H':Hp} {s':hH} {o:Obj},Inv f [] σ' H' s'->H' D=b6->s'.heap.get? D=a5 o->(∀v,o.data≠.cell v)->Inv f [(D,o)] σ' H' s':=λ{σ' H' s' o} I' n e d =>
  I'.eS λp L=>by
   have:p=(D,o):=by simpa using L
   subst this;show⟨e,n,?_,?_,d⟩
   .rw[el];show k7 (by change @J2 Nat _ D C;lia)
   .have e1:f.fs=Fu X.stack:=by rw[<-l];rfl
    rw[e1];intro z;have zz:(D:hQ)∈Fu X.stack:=z;rcases ka.mp (I.iE D zz) with q|q
    .have:=I.lt;rw[<-q]at this;show absurd this (by change ¬@J2 Nat _ D s.heap.objs.size;lia)
    .show I.A1 (a:=D) ⋯ q
 have start:∀s':hH,s'=s4->OU (ke X.prog X.w) X.A (.compLoop (.ListComp elt [⟨tg,a0,an,0⟩] scope pos) 0 (.ref it) (.ref D) (S_ scope (FQ X scope C) C X.env)) R s':=by
  rintro s' rfl;show lE (λn s'=>∃i O k H',Inv f [] (l0 B.length b6++σ) H' s'/\tn i s'.heap/\(∀b∈G,H' b=b6)/\H' D=b6/\Vals O k/\s'.heap.PlainList D k.toArray/\W i n O H') ?_ m0
   ⟨0,[],[],H,I4,IA,λb h=>(f2 b h).1,nD,.nil,pl,w0⟩
  rintro n s3 ⟨i,O,k,H3,I3,st3,Jg,NP,Kv,⟨nn,PF⟩,w3⟩;have⟨ac,Fw⟩:=Vf i n O H3 w3;have IP:=L0 I3 NP PF (λv z=>by have z':Data.seq _ _=U7 v:=z;cases z');rcases Fw with⟨a1,qn⟩|⟨go,NN,NQ,a2⟩
  .have d:=T.done f eP ew eK ec i _ s3 _ H3 (Ry (ke X.prog X.w) X.A (S_ scope (FQ X scope C) C X.env) λe s'=>R (.error e) s') IP (LZ Jg) st3 a1;rw[eA]at d;show Dx d λr s4 L3=>?_;have⟨hr,I5⟩:=L3;subst hr;have e5:=(I5.pin (D,({cls:=.type "list",data:=.seq k.toArray nn}:Obj)) (by rw[Jt];simp)).1;show as s4 H3 O k (I5.eS λp L=>by cases L) NP Kv ⟨nn,e5⟩ ac qn
  .have d:=T.item f eP ew eK ec i _ s3 _ H3 (Ry (ke X.prog X.w) X.A (S_ scope (FQ X scope C) C X.env) λe s'=>R (.error e) s') IP (LZ Jg) st3 go;rw[eA]at d;show Dx d λr s4 L4=>?_;have⟨u,hr,h4⟩:=L4;subst hr;show Dx h4 λ_ s5 L5=>?_;have⟨x,Y,I5,r5,y5,FP,Lr⟩:=L5;have Sa:Y D=b6:=(I5.pin (D,({cls:=.type "list",data:=.seq k.toArray nn}:Obj)) (by rw[Jt];simp)).2.1;have Ls:=I5.pinned (LZ Lr) (T.obj _ _ FP);have a6:=Pz _ s5 _ Y x u _ Ls r5 (a2 x Y y5);rw[eP,ew,eA,ee,LX]at a6;show wk a6 (λ_ s6 ⟨σ6,H6,I6,q6⟩=>?_) λ_ _ z=>J8 z;have⟨ow,a3,rfl,q6⟩:=q6;have a7:=PB _ s6 _ H6 _ I6 q6;rw[eP,ew,eA,ee,LX]at a7;show wk a7 (λb s7 ⟨H7,I7,q7⟩=>?_) λ_ _ z=>J8 z;have al:∀{s8:hH} {t:Hp} {EU:List V} {its':List eH} {nn':Nat},Inv f [] (ow++σ) t s8->tn (i+1) s8.heap->(∀b∈G,t b=b6)->t D=b6->Vals EU its'->s8.heap.PlainList D its'.toArray->(∃m',m'<n/\W (i+1) m' EU t) ->
     ∃m,m<n/\∃i O k H',Inv f [] (l0 B.length b6++σ) H' s8/\tn i s8.heap/\(∀b∈G,H' b=b6)/\H' D=b6/\Vals O k/\s8.heap.PlainList D k.toArray/\W i m O H':=λ{s8 t EU its' nn'} I8 PH PJ n8 PK PL w8=>by
    have⟨m',hm,w8⟩:=w8;show⟨m',hm,i+1,EU,its',t,I8.weak (by simp[a3]) (λj v e=>?_),PH,PJ,n8,PK,PL,w8⟩;by_cases hj:j<B.length
    .rw[z9 (by simpa using hj),I0]at e;split at e<;>cases e
    .rw[uk (by simpa using(Nat.not_lt.mp hj)),Md]at e;rw[uk ⋯,a3];show e
   have am:∀{σ':St} {t:Hp} {s8:hH},Inv f ([(D,({cls:=.type "list",data:=.seq k.toArray nn}:Obj))]++iH G s5.heap) σ' t s8->s8.heap.get? D=a5 {cls:=.type "list",data:=.seq k.toArray nn}/\t D=b6/\tn (i+1) s8.heap/\∀b∈G,t b=b6:=λ{σ' t s8} I8=>by
    have p1:=I8.pin (D,({cls:=.type "list",data:=.seq k.toArray nn}:Obj)) (by rw[Jt];simp);show⟨p1.1,p1.2.1,T.keep _ _ _ FP λb h o e=>(I8.pin (b,o) (vr _ (vr _ (dA h e)))).1,λb h=>?_⟩;have⟨o,e,d⟩:=T.obj _ _ FP b h;show(I8.pin (b,o) (vr _ (vr _ (dA h e)))).2.1
   cases b with
   |false =>
    rw[WK mh]at q7 ⊢;have⟨p1,p2,p3,p4⟩:=am I7;show al (nn':=0) (I7.eS λp L=>by cases L) p3 p4 p2 Kv ⟨nn,p1⟩ (NQ _ _ q7)
   |true =>
    rw[WJ rfl]at q7 ⊢;have a8:=LY _ s7 _ H7 _ I7 q7;rw[eP,ew,eA,ee,LX]at a8;show wk a8 (λy s8 ⟨yv,t,I8,r8,q8⟩=>?_) λ_ _ z=>J8 z;have⟨p1,p2,p3,p4⟩:=am I8;have hsz:k.toArray.size<=dV:=by rw[hW,<-Kv.length];show ac
    show wpAny_list_append_plain (hsz:=hsz) ⟨nn,p1⟩ λh9 PM NR=>?_;have PN:Inv f [] (ow++σ) t s8:=I8.eS λp L=>by cases L
    have Kw:∀x c,f.env.cells.lookup x=a5 c->c≠D:=λx c e=>by
     have e1:f.env.cells=FQ X scope C:=by rw[ee];rfl
     rw[e1]at e;rcases fJ _ _ _ e with z|z
     .have:=z.2;show Hd (by change @J2 Nat _ D c;lia)
     .have⟨v,z⟩:=I.cell x c (dF scope.names [] (λn c e=>by simp at e) x c z);have:@J2 Nat _ c s.heap.objs.size:=z.lt;show k7 (by change @J2 Nat _ c D;lia)
    have I9:Inv f [] (ow++σ) t {s8 with heap:=h9,toks:=s8.toks}:=PN.turned (it:=D) (λb o h e=>(NR.2 b h).trans e) p2 (by rw[el];show k7 (by change @J2 Nat _ D C;lia)) (.inr (by rw[s0];change @Vr Nat _ s.heap.objs.size D;lia)) Kw (λp L=>by rw[Jt]at L;cases L);have PQ:(k++[y]).toArray=k.toArray.push y:=by simp
    show al (nn':=0) (s8:={s8 with heap:=h9,toks:=s8.toks}) I9 (T.keep _ _ _ p3 λb h o e=>(NR.2 b ?_).trans e) p4 p2 (Kv.append (.cons r8 .nil)) (by rw[PQ];show PM) (NQ _ _ q8);have:=F5 b h;show k7 (by change @J2 Nat _ b D;lia)
 show codeAny_compStart_list (start _ rfl) (T.self _ _ _ _ _ IA (start _ rfl))
def oN
  (f:Q (newEnv scope s.heap.objs.size b (Iy (s.heap.objs.size+1) scope.names cl) d b6 .none (a5 c) a) {s with heap:=N1 (s.heap.push {cls:=.type "dict",data:=.dict #[]}) scope.names}) :
  fx M A (T8 scope b cl [] d b6 .none (a5 c) a) Q E s:=by
 simp only[T8,Ue,if_true];show bD (wpAny_alloc ?_);show bD (wpAny_layCells _ (λname kind e=>by cases g:kind==GS<;>simp[g]) _ _ _ _ ?_);rw[show({s with heap:=s.heap.push {cls:=.type "dict",data:=.dict #[]}}:hH).heap.objs.size=s.heap.objs.size+1 from Ly ..];show bD ?_;rw[List.forIn_nil];show cb (cb f)
def iQ{RR:eH->hQ->Result->hH->Prop}
    (S:bZ X N f scope) (B:X.calm=b5) (G:∀C s H ex,PG (Eh X N scope C s H ex) r g) (L:∀C s H ex,GW (Eh X N scope C s H ex) l O) (Y:∀C s H ex,PE (Eh X N scope C s H ex) elt te)
 (I:Inv X h σ H s) (T:Turn X.prog X.w X.K r J t it tn) (st:tn 0 s.heap) (f2:∀b∈t,fG X h H b) (W:qu f.length J g O te Q σ H)
    (m:∀D C i d j k,@Eq Nat D s.heap.objs.size->@Eq Nat C (s.heap.objs.size+1)->Inv (Eh X N scope C s H t) [] (l0 f.length b6++σ) d i->d D=b6->Vals j k->i.heap.PlainList D k.toArray->j.length<=dV->(∀p,d p=b6->Q (.ref p) (upd d p (.lst j)))->RR (.ref D) C (.ok .next) i) :
    fx (ke X.prog X.w) X.A (VS []) (λacc s₃=>fx (ke X.prog X.w) X.A (T8 scope X.env.globals (a9 X.env scope.names []) [] X.env.qual b6 .none (a5 X.env)) (λu s₄ =>
      OU (ke X.prog X.w) X.A (.compStart (.ListComp elt [⟨r,v,l,0⟩] scope pos) 0 (.ref it) acc {u with scope:=Pl scope X.env}) (RR acc u.locals) s₄) E s₃) E s:=by
  show pw (oN ?_)
  dsimp only
  generalize n:s.heap.push {cls:=.type "list",dict:=b6,data:=.seq ([]:List eH).toArray}=a;have y:a.objs.size=s.heap.objs.size+1:=by rw[<-n,Ly]
  have z:∀b o,a.get? b=a5 o->(N1 (a.push {cls:=.type "dict",data:=.dict #[]}) scope.names).get? b=a5 o:=λb o e=>TN _ _ b o (et _ e);have q:∀b o,s.heap.get? b=a5 o->(N1 (a.push {cls:=.type "dict",data:=.dict #[]}) scope.names).get? b=a5 o:=λb o e=>z b o (n▸et _ e);have DR:(N1 (a.push {cls:=.type "dict",data:=.dict #[]}) scope.names).PlainList s.heap.objs.size #[]:=⟨_,z _ _ (n▸hA _ rfl)⟩
  have GF:∀x c,(FQ X scope a.objs.size).lookup x=a5 c->(N1 (a.push {cls:=.type "dict",data:=.dict #[]}) scope.names).IsCell c b6\/(a9 X.env scope.names []).lookup x=a5 c:=λx c e=>by
    show lD scope.names (a.push {cls:=.type "dict",data:=.dict #[]}) _ ?_;rw[Ly];show e
  show t7 (s:=s) (s4:={s with heap:=N1 (a.push {cls:=.type "dict",data:=.dict #[]}) scope.names}) (C:=a.objs.size) (D:=s.heap.objs.size) S B G L Y I T st f2 W rfl y GF rfl rfl q ⟨_,(Heap.Ns.new a (.type "dict")).keeps (TN _ _)⟩ DR
    λi d j k I5 n5 Jv Jw Jx q5=>m _ _ i d j k rfl y I5 n5 Jv Jw Jx q5
def wG(S:bZ X N c scope)(m:X.calm=b5)(n:PI X f a o)(p:∀C s H ex,PG (Eh X N scope C s H ex) f g)(q:∀C s H ex,GW (Eh X N scope C s H ex) d r)(t:∀C s H ex,PE (Eh X N scope C s H ex) elt u)
  (hs:∀x,IF a X.env x=pure x:=by intro _;rfl):PE X (.ListComp elt [⟨f,a,d,0⟩] scope pos) (t6 c.length o g r u):=by
 intro b s σ H Q I h;rw[eval_ListComp];show Uo (use:=b6) (cl:=a9 X.env scope.names []) rfl hs (di (S.cells I.ok)) S.kind S.names ?_;show Dx (n b s σ H _ I h) λv s1 y=>Dx y λKo s2 z=>?_;have⟨it,fp,tn,J,H2,e,i,T,st2,j,W⟩:=z;subst e;show iQ (RR:=λacc C=>compPost (ke X.prog X.w) X.A X.xe b6 (EP X b σ Q) acc C) S m p q t i T st2 j W ?_;intro D C s5 H5 ys A' B hC k l G L O Y;obtain⟨m5,L7,_⟩:=k.loc;show⟨m5,L7,λh' sb=>⟨.ref D,_,mY i k (Ua B.symm) (by change @Vr Nat _ s2.heap.objs.size C;lia) (k7 (by change @J2 Nat _ D C;lia)) l G L O sb j,rfl,Y D l⟩⟩
def wH(S:bZ X N r scope)(hc:X.calm=b5)(hN:X.N.Nodup)(Kx:X.N[i]?=a5 y)(G:X.env.scope.names.lookup y=a5 .local)
  (hi:PI X n d wi) (hg:∀C s H ex,PG (Eh X N scope C s H ex) n g) (hf:∀C s H ex,GW (Eh X N scope C s H ex) k tt) (he:∀C s H ex,PE (Eh X N scope C s H ex) elt te)
  (GH:LR (.ListComp elt [⟨n,d,k,0⟩] scope pos) (a5 (.Name y m)) FG.line X.env=pure b5:=by rfl)
  (hs:∀x,IF d X.env x=pure x:=by intro _;rfl):PS X (.Assign [.Name y m] (.ListComp elt [⟨n,d,k,0⟩] scope pos) FG) (zb (t6 r.length wi g tt te) (qj i)):=by
 intro f s σ H D I h;rw[exec_Assign_Name_used _ _ _ _ GH];show bD (Ul (bD ?_));change fx _ X.A (do let _ <-comprehension (.ListComp elt [⟨n,d,k,0⟩] scope pos) scope X.env _ (VS []) df (F' d X.env) (a5 (Oa (.Name y m) X.env))) _ _ s;show bD (wk (Uo (use:=a5 (Oa (.Name y m) X.env)) (cl:=a9 X.env scope.names []) (Q:=λ_ s'=>SP X f D .next s') rfl hs (di (S.cells I.ok)) S.kind S.names ?_) (λ_ s' hq=>cb (cb hq)) λ_ _ e=>e);show Dx (hi f s σ H _ I h) λv s1 h1=>Dx h1 λKo s2 h2=>?_;have⟨it,fp,tn,J,H2,e,l,T,st2,L,W⟩:=h2;subst e;show iQ (RR:=λacc C=>compPost (ke X.prog X.w) X.A X.xe (a5 (Oa (.Name y m) X.env)) (λ_ s'=>SP X f D .next s') acc C) S hc hg hf he l T st2 L W ?_;intro j C q t O A' hD hC u Y Jv Jw Jx q5;obtain⟨m5,L7,_⟩:=u.loc;have PU:t C=b6:=u.free;have B:Inv X f σ (upd t j (.lst O)) {q with heap:=q.heap}:=mY l u (Ua hD.symm) (by change @Vr Nat _ s2.heap.objs.size C;lia) (k7 (by change @J2 Nat _ j C;lia)) Y Jv Jw Jx (Tw ..) L;change fx _ X.A (Oa (.Name y m) X.env (.ref j)) _ _ q;show VP (j9 (s:=q) B hN Kx (.inl G) (show RelV (.ref j) (.ref j) from rfl) (λs6 I6 ⟨a,sb,ha⟩=>?_) (.inr G));have Kw:@J2 Nat _ X.env.locals C:=by have:@J2 Nat _ X.env.locals s2.heap.objs.size:=l.lt;lia
 have F6:∀x c,X.env.cells.lookup x=a5 c->c≠C:=λx c e=>by
  have⟨v,z⟩:=l.cell x c e;have:@J2 Nat _ c s2.heap.objs.size:=z.lt;show k7 (by change @J2 Nat _ c C;lia)
 have PV:C≠a:=by
  rcases ha with z|z
  .rw[z];show Hd Kw
  .show(F6 _ _ z).symm
 show⟨m5,L7.sameBut sb PV,λh' PX=>?_⟩;show⟨σ.set i (a5 (.ref j)),upd t j (.lst O),I6.turned (it:=C) (t':=s6.toks) (λb o hb e=>(PX.2 b hb).trans e) ?_ (Hd Kw) (.inr (by have:@Vr Nat _ X.s₀.heap.objs.size s2.heap.objs.size:=l.sz;change @Vr Nat _ X.s₀.heap.objs.size C;lia)) F6 (λp hp=>?_),q5 j Y⟩
 .rw[ai (Hd (by change @J2 Nat _ j C;lia))];show PU
 .have:@J2 Nat _ p.1 s2.heap.objs.size:=hY (l.pin p hp).1;show k7 (by change @J2 Nat _ p.1 C;lia)
end
section
end
section
abbrev Bz:V->Option Int->Option Int->Hp->VK->Prop:=λx lo a H Q=>∃z,x=.str z/\z.length<=dV/\Q (.str (PySem.StrLaws.sliceText z lo a)) H
def jW(x:Str)(lo a:Option Int)(hz:x.length<=dV):(PySem.StrLaws.sliceText x lo a).length<=dV:=vu (Txt.slice_le x lo a) hz
def zD:GD X Bz:=by
 intro b s σ H x v n o lo c p Q I g hs m e h;have⟨z,rfl,hz,q⟩:=h;have⟨t,rfl⟩:=g;show⟨"str",_,V9.lookup,O' _ _ _,?_⟩;have a:(PySem.StrLaws.sliceText z lo c).length<=dV/\∀t' k,EP X b σ Q (.str (PySem.StrLaws.sliceText z lo c) t') {s with toks:=k}:=⟨jW z lo c hz,λt' k=>⟨.str _,H,I.tok k,⟨_,rfl⟩,q⟩⟩
 cases m with
 |none =>
  cases e with
  |none=>show LQ (l:=b6) (u:=b6) (st:=b6) hs rfl (P0 a)
  |int j d=>show LQ (l:=b6) (u:=a5 (j,d)) (st:=b6) hs rfl (P0 a)
 |int i f =>
  cases e with
  |none=>show LQ (l:=a5 (i,f)) (u:=b6) (st:=b6) hs rfl (P0 a)
  |int j d=>show LQ (l:=a5 (i,f)) (u:=a5 (j,d)) (st:=b6) hs rfl (P0 a)
theorem ku:∀(l:List (Str×Tok)),Vals (l.map λp=>V.str p.1) (Ux l)
 |[]=>.nil
 |(x,t)::r=>.cons ⟨t,rfl⟩ (ku r)
theorem fK:∀{a:List Str}{b:List eH},Vals (a.map V.str) b->∃l:List (Str×Tok),b=Ux l/\l.map (·.1)=a
 |[],_,.nil=>⟨[],rfl,rfl⟩
 |y::a,_,.cons r t=>by
  have⟨c,rfl⟩:=r;have⟨l,rfl,e⟩:=fK t;show⟨(y,c)::l,rfl,by rw[gc,e]⟩
def t8:LF X "str.split" (λx xs H Q=>∃a b,x=.str a/\xs=[.str b]/\(b.length==0)=df/\a.length+2<=dV /\
  ∀p,H p=b6->Q (.ref p) (upd H p (.lst ((Lf a b).map V.str)))):=by
 intro g s σ H x xs v us Q I j rs h;have⟨x,y,rfl,rfl,i,hz,q⟩:=h;have⟨t,rfl⟩:=j;have⟨r,rfl,u,rfl⟩:=vals1 rs;have d:H s.heap.objs.size=b6:=I.Dw.fresh (gs _);have m:=q _ d;have c:∀(l:List (Str×Tok)) (k:Nat),l.length<=dV->l.map (·.1)=Lf x y->EP X g σ Q (.ref s.heap.objs.size) {s with toks:=k,heap:=s.heap.push {cls:=.type "list",data:=.seq (Ux l).toArray}}:=λl k hl e =>
  ⟨.ref s.heap.objs.size,_,I.laid (t':=k) (o:=.lst ((Lf x y).map V.str)) (λb u e=>et _ e) (gs _)
   ⟨by rw[<-e,dt,dt];show hl,Ux l,_,by rw[<-e,kj];show ku l,hA _ rfl⟩,rfl,m⟩
 have one:1<=dV:=by decide
 cases f:(ez (x.length<y.length)||decide (Ti x<Ti y))
 .cases d:(Jz x y 0 x.length (x.length+1)).isEmpty
  .have n:(J1 x (Jz x y 0 x.length (x.length+1)) y.length).length<=dV:=by
    have:=PySem.StrLaws.occ_length_le x y 0 x.length (x.length+1);simp only[J1,dt,SS,lx,i5];lia
   show Pr Tb (O' _ _ _) SM (RU _ _) (meets_str_split_sep x y t u f i d ⋯ n) ?_;change wants _ _ _ {s with toks:=_,heap:=s.heap.push {cls:=.type "list",data:=.seq (strsFrom s.toks (J1 x (Jz x y 0 x.length (x.length+1)) y.length)).toArray}};rw[strsFrom_eq];show c (numbered s.toks _) _ ?_ ((Wo _ _).trans ((WK (ne_true_of_eq_false f)).trans (WK (ne_true_of_eq_false d))).symm);have e:=WN E1 (Wo s.toks (J1 x (Jz x y 0 x.length (x.length+1)) y.length));rw[dt]at e;lia
  .show Pr Tb (O' _ _ _) SM (RU _ _) (meets_str_split_not_found x y t u f i d)
    (c [(x,t)] _ one ((WK (ne_true_of_eq_false f)).trans (WJ d)).symm)
 .show Pr Tb (O' _ _ _) SM (RU _ _) (meets_str_split_cannot_occur x y t u f)
   (c [(x,t)] _ one (WJ f).symm)
def wI:LF X "str.join" (λx xs H Q=>∃a p b,x=.str a/\xs=[.ref p]/\D3 X.K H p (b.map V.str)/\VH a b=b5/\Q (.str (RL a b)) H):=by
 intro c s σ H x xs v us Q I d rs h;have⟨a,p,b,rfl,rfl,f,g,q⟩:=h;have⟨t,rfl⟩:=d;have⟨u,rfl,r⟩:=vals1 rs;cases r;have⟨j,rv,i,hz⟩:=I.list f;have⟨l,rfl,e⟩:=fK rv;show SC.join i.isList e g λt' k=>⟨.str _,H,I.tok k,⟨_,rfl⟩,q⟩
theorem gS:∀{a:List Bool}{c:List eH},Vals (a.map V.bl) c->c=a.map Nn
 |[],_,.nil=>rfl
 |b::a,_,.cons r t=>by
  cases r;rw[gS t];rfl
def t9:X.calm=b5->gN X (.builtin "all") (λxs H Q=>∃(p:hQ) (a:List Bool),xs=[.ref p]/\D3 X.K H p (a.map V.bl)/\Q (.bl (a.all id)) H):=by
 intro j f s σ H xs us Q I rs h;have⟨p,a,rfl,k,q⟩:=h;have⟨u,rfl,r⟩:=vals1 rs;cases r;have⟨o,rv,d,hz⟩:=I.list k;have e:=gS rv;subst e;have l:p<s.heap.objs.size:=by obtain⟨_,_,e,_⟩:=d;show hY e
 show call_all_walk (S1 d.isList ?_);show⟨s.heap.objs.size,[s.heap.objs.size,p],[s.heap.objs.size],(a.map Nn).toArray.size,_,_,λi=>(a[i]?).getD b5,rfl,V3 (A:=X.A.in1) (I.ok.hd j) _ p (k7 l) (a.map Nn).toArray,
  ⟨⟨_,hA _ rfl,rfl,rfl⟩,d.isList.push _⟩,λi v s' Q' t m g=>?_,λh' n hk=>?_⟩
 .have c:(a.map Nn)[i]?=a5 v:=by simpa using m
  rw[nc]at c;cases e:a[i]? with
  |none=>rw[e]at c;cases c
  |some b =>
   rw[e]at c;cases c;simp only[e,RB]at g;show G9 g
 .have e:((hE (a.map Nn).toArray.size).all λi=>(a[i]?).getD b5)=a.all id:=by
   rw[hW,dt];show Vu a
  rw[e];show⟨.bl _,H,I.kept (t':=n) (Vv hk),rfl,q⟩
end
section
end
abbrev zE(N a:List Str)(scope:IW)(out:List (Str×HB)):Bool :=
 ez (scope.kind=.function)&&scope.names.all (λy=>ez (scope.names.lookup y.1=a5 y.2))&&scope.names.all (λy=>ez (y.2≠.cell)||decide (y.1∈a))&&decide N.Nodup&&ez (N.take a.length=a) &&
 scope.names.all (λy=>ez (y.2≠.local)||decide (y.1∈a)||decide (y.1=".0"))&&ez ((".0":Str)∉N)&&scope.names.all (λy=>ez (y.2≠.free)||decide (out.lookup y.1=a5 .cell)||decide (out.lookup y.1=a5 .free))&&scope.names.all (λy=>ez (y.1≠".")&&ez (y.1≠".."))
def t_(c:X.env.scope.names=out)(d:c9 (N.drop a.length) X.N)(h:zE N a scope out=b5):bZ X N a scope:=by
 unfold zE at h;simp only[c4,ve,MN,WI]at h;obtain⟨⟨⟨⟨⟨⟨⟨⟨f,g⟩,i⟩,j⟩,k⟩,l⟩,m⟩,n⟩,o⟩:=h;show⟨f,g,λy b e=>?_,j,k,λy b e=>?_,m,d,λy b e=>?_,o⟩
 .rcases i y b with z|z
  .show absurd e z
  .show z
 .rcases l y b with(z|z)|z
  .show absurd e z
  .show .inl z
  .show .inr z
 .rw[c];rcases n y b with(z|z)|z
  .show absurd e z
  .show .inl z
  .show .inr z
section
abbrev aR(prog:DW)(w:Fi)(h:Hb)(k:Str×List Str)(a:hQ):Prop :=
 ∃o n t b,h.get? a=a5 o/\o.cls=.type "tuple"/\o.data=.seq #[.str k.1 t,.ref b] n/\T_ (PySem.strKind prog w) h k.2 b
def aR.typeIs{s:hH}(x:aR prog w s.heap k a):s.TypeIs (.ref a) "tuple":=let ⟨o,_,_,_,ho,b,_⟩:=x;⟨o,ho,b⟩
def aR.inj(e:aR prog w h x a)(f:aR prog w h y a):x=y:=by
 obtain⟨o,n,t,b,ho,_,g,i⟩:=e;obtain⟨j,q,t',r,k,_,c,l⟩:=f;obtain rfl:o=j:=vl (ho.symm.trans k);rw[g]at c;injection c with d _
 simp only[Array.mk.injEq,Kt,Value.str.injEq,Value.ref.injEq,and_true]at d;obtain⟨⟨m,_⟩,p⟩:=d;subst p;show Tn m (i.inj l)
def aR.keeps(x:aR prog w h k a)(ho:h.get? d=a5 o)(e:o.data=.dict es ep)(hs:Gy d h h'):aR prog w h' k a:=by
 have⟨f,n,t,b,g,i,c,j⟩:=x;have l:a≠d:=by
  rintro rfl;obtain rfl:f=o:=vl (g.symm.trans ho);rw[e]at c;show nomatch c
 show⟨f,n,t,b,(hs.2 a l).trans g,i,c,j.keeps ho e hs⟩
abbrev lF(prog:DW)(w:Fi)(k:Str×List Str):Int:=reduceHash (Fm [(PySem.strKind prog w).hash k.1,Mr (PySem.strKind prog w) k.2])
abbrev ua(prog:DW)(w:Fi)(hh:Hb)(v:eH)(n:Int)(d:Nat):Prop :=
 ∀{A:Ke} {E:eH->hH->Prop} {s:hH} {Q:Int->hH->Prop},s.heap=hh->A.units<Eg->Q n {s with toks:=s.toks+d}->fx (ke prog w) A (pyHash v) Q E s
def oO(x:Str)(t:Tok):ua prog w hh (.str x t) ((PySem.strKind prog w).hash x) 1:=λ_ _ h=>(PySem.strKind prog w).pyHash (by simp[PySem.strKind,JF]) h
def lG(hk:T_ (PySem.strKind prog w) hh ks b):ua prog w hh (.ref b) (Mr (PySem.strKind prog w) ks) (ks.length+1):=λe a h=>by
 subst e;show wpAny_pyHash_tuple a hk h
def gn(j:A.units+1<Eg)(hk:aR prog w s.heap k a)(h:Q (lF prog w k) {s with toks:=s.toks+(k.2.length+3)}):
  fx (ke prog w) A (pyHash (.ref a)) Q E s:=by
 have f:=hk.typeIs;obtain⟨o,n,t,b,ho,_,m,p⟩:=hk;unfold pyHash
 first|unfold pyHashByItsType|skip
 first|show bD (wpAny_cRoomFor_or (.inr ⋯) ?_)|skip
 show bD (Lw f PySem.F.slot_tuple_hash.lookup ?_);change fx _ _ (if (a5 (Value.builtin "tuple.__hash__")==a5 oa)=b5 then _ else _) Q E s;rw[WK (by rw[beq_builtin_none];show mh)];show bD (Lw f PySem.F.slot_tuple_hash.lookup ?_);change fx _ _ (callSpecialIfBoundUnlessNone? (.ref a) "__hash__" _ >>= _) Q E s;show bD (wpAny_callSpecialIfBoundUnlessNone?_slot f PySem.F.slot_tuple_hash (w6 PySem.F.slot_tuple_hash f PySem.F.entry_tuple_hash ?_ (PySem.F.args_tuple_hash_1 _)));change fx _ _ (Jo (.ref a) >>= _) _ _ s;show bD (SJ ho m ?_);show bD ?_;rw[<-Qm];show O6 _
  (λc (d:Array Int) s'=>(c=[DE k.1 t,lg b]/\d=#[]/\s'=s)\/(c=[lg b]/\d.toList=[(PySem.strKind prog w).hash k.1]/\s'={s with toks:=s.toks+1}) \/
   (c=[]/\d.toList=[(PySem.strKind prog w).hash k.1,Mr (PySem.strKind prog w) k.2]/\s'={s with toks:=s.toks+1+(k.2.length+1)}))
  _ ?_ ?_ _ _ (.inl ⟨rfl,rfl,rfl⟩)
 .rintro x c d s' (⟨e,rfl,rfl⟩|⟨e,g,rfl⟩|⟨e,_,_⟩)
  .cases e;show bD (oO k.1 t (hh:=s'.heap) rfl (by change A.units+1<Eg;show j) ?_)
   first
    |show cb (.inr (.inl ⟨rfl,rfl,rfl⟩))
    |show bD (cb (cb (.inr (.inl ⟨rfl,rfl,rfl⟩))))
  .cases e;show bD (lG p rfl (by change A.units+1<Eg;show j) ?_)
   first
    |show cb (.inr (.inr ⟨rfl,by simp[g],rfl⟩))
    |show bD (cb (cb (.inr (.inr ⟨rfl,by simp[g],rfl⟩))))
  .cases e
 .rintro d s' (⟨e,_,_⟩|⟨e,_,_⟩|⟨_,g,rfl⟩)
  .cases e
  .cases e
  .change fx _ _ (retInt (Fm d.toList)) _ _ _;rw[g];show wpAny_ret_mkInt ?_;have l:s.toks+1+(k.2.length+1)+1=s.toks+(k.2.length+3):=by lia
   change fx _ _ (if (ez (-(2:Int) ^ 63<=Fm [(PySem.strKind prog w).hash k.1,Mr (PySem.strKind prog w) k.2])&&ez (Fm [(PySem.strKind prog w).hash k.1,Mr (PySem.strKind prog w) k.2]<2 ^ 63))=b5 then _ else _) Q E _;unfold lF reduceHash at h;by_cases i:(ez (-(2:Int) ^ 63<=Fm [(PySem.strKind prog w).hash k.1,Mr (PySem.strKind prog w) k.2])&&ez (Fm [(PySem.strKind prog w).hash k.1,Mr (PySem.strKind prog w) k.2]<2 ^ 63))=b5
   .rw[WJ i];rw[WJ i]at h;show cb (by rw[l];show h)
   .rw[WK i];rw[WK i]at h;show bD (K1 (cb (by rw[l];show h)))
def mZ(j:A.units<Eg)(k:aR prog w s.heap x a)(f:aR prog w s.heap y b)(h:P (.done (.ret (.bool (ez (x=y))))) s):
  fx (ke prog w) A (LB.«tuple.__eq__» ⟨[.ref a,.ref b],[]⟩) P E s:=by
 have l:=f.typeIs;obtain⟨G,H,m,g,n,_,o,p⟩:=k;obtain⟨I,J,q,i,t,_,B,C⟩:=f;change fx _ _ (VF (.ref b) (.type "tuple") >>= _) _ _ s;show bD (K9 l P5 ?_);simp only[Hf,tj,WQ];show bD (SJ n o ?_);show bD (SJ t B ?_);show bD ?_;show O6 _
  (λc r s'=>r.1=b6/\s'=s/\((c=[(DE x.1 m,DE y.1 q),(lg g,lg i)])\/(c=[(lg g,lg i)]/\x.1=y.1)\/(c=[]/\x=y)))
  _ ?_ ?_ _ _ ⟨rfl,rfl,.inl rfl⟩
 .rintro⟨u,v⟩ c r s' ⟨d,rfl,(e|⟨e,D⟩|⟨e,_⟩)⟩
  .cases e;show bD ((PySem.strKind prog w).eqBool (a:=x.1) (b:=y.1) (by simp[PySem.strKind,JF]) (by simp[PySem.strKind,JF]) ?_);by_cases hk:x.1=y.1
   .rw[WM hk];simp only[Hf,tj,WQ];show cb ⟨rfl,rfl,.inr (.inl ⟨by first|rfl|trivial,hk⟩)⟩
   .rw[WL hk];simp only[Vx,if_true];rw[WL (λz=>hk (by rw[z]))]at h;show bD (cb (cb (cb h)))
  .cases e;show bD (wpAny_eqBool_tuple j p C ?_);by_cases hk:x.2=y.2
   .rw[WM hk];simp only[Hf,tj,WQ];show cb ⟨rfl,rfl,.inr (.inr ⟨by first|rfl|trivial,Tn D hk⟩)⟩
   .rw[WL hk];simp only[Vx,if_true];rw[WL (λz=>hk (by rw[z]))]at h;show bD (cb (cb (cb h)))
  .cases e
 .rintro⟨L,N⟩ s' ⟨d,rfl,(e|⟨e,_⟩|⟨_,rfl⟩)⟩
  .cases e
  .cases e
  .simp only at d;subst d;show cb ?_;rw[WM rfl]at h;show h
def gp(g:A.units+2<Eg)(c:aR prog w s.heap x a)(d:aR prog w s.heap y b)(h:Q (ez (x=y)) s):
  fx (ke prog w) A (eqBool (.ref a) (.ref b)) Q E s:=by
 unfold eqBool
 try with_reducible show DD ?_
 change fx _ _ (if (lg a==lg b)=b5 then _ else _) Q E s;by_cases f:(lg a==lg b)=b5
 .rw[WJ f];have e:a=b:=by have:=UI f;injection this
  subst e;obtain rfl:=c.inj d;show bD (K1 (cb (by simpa using h)))
 .rw[WK f];show bD (wpAny_richCompare_same_room (op:=.Eq) c.typeIs d.typeIs PySem.F.slot_tuple_eq
   (w6 PySem.F.slot_tuple_eq c.typeIs PySem.F.entry_tuple_eq (mZ (by first|(change A.units+1<Eg;lia)|(change A.units<Eg;lia)|(change A.units+1+1<Eg;lia)) c d ⟨_,rfl,(λe=>nomatch e),G9 h⟩) (PySem.F.args_tuple_eq_2 _ _)) ⋯)
def fL(hk:T_ (PySem.strKind prog w) s.heap ks a)(h:Q b5 s):fx (ke prog w) A (UA (n+1) (.ref a)) Q E s:=by
 have e:=hk.typeIs;obtain⟨o,c,k,ho,_,g,i⟩:=hk;unfold UA;show bD (Lw e PySem.F.slot_tuple_eq.lookup ?_);change fx _ _ (VF (.ref a) (.type "tuple") >>= _) _ _ s;show bD (K9 e P5 ?_);simp only[Hf,tj,WQ];show bD (N' ho g ?_);show bD ?_;change fx _ _ (WH c _ _) _ _ s;rw[<-Qm];show O6 _ (λb r s'=>r.1=b6/\s'=s/\∀v∈b,carriedByValue v=b5) _ ?_ ?_ _ _ ⟨rfl,rfl,i.byValue⟩
 .rintro v b r s' ⟨d,rfl,f⟩;rw[VU _ (f v l')];show bD (cb ?_);simp only[Hf,tj,WQ];show cb ⟨rfl,rfl,λu j=>f u (mA _ j)⟩
 .rintro⟨l,m⟩ s' ⟨d,rfl,_⟩;simp only at d;subst d;show cb h
def ic(hk:aR prog w s.heap k a)(h:Q b5 s):fx (ke prog w) A (UA 8 (.ref a)) Q E s:=by
 have f:=hk.typeIs;obtain⟨o,n,t,b,ho,_,g,i⟩:=hk;unfold UA;show bD (Lw f PySem.F.slot_tuple_eq.lookup ?_);change fx _ _ (VF (.ref a) (.type "tuple") >>= _) _ _ s;show bD (K9 f P5 ?_);simp only[Hf,tj,WQ];show bD (N' ho g ?_);show bD ?_;rw[<-Qm];show O6 _ (λc r s'=>r.1=b6/\s'=s/\(c=[DE k.1 t,lg b]\/c=[lg b]\/c=[])) _ ?_ ?_ _ _ ⟨rfl,rfl,.inl rfl⟩
 .rintro v c r s' ⟨d,rfl,(e|e|e)⟩
  .cases e;rw[VU _ rfl];show bD (cb ?_);simp only[Hf,tj,WQ];show cb ⟨rfl,rfl,.inr (.inl (by first|rfl|trivial))⟩
  .cases e;show bD (fL i ?_);simp only[Hf,tj,WQ];show cb ⟨rfl,rfl,.inr (.inr (by first|rfl|trivial))⟩
  .cases e
 .rintro⟨j,l⟩ s' ⟨d,rfl,_⟩;simp only at d;subst d;show cb h
end
abbrev fM(prog:DW)(w:Fi):HeapKind prog w (Str×List Str) where
 is:=aR prog w
 hash:=lF prog w
 draws:=λk=>k.2.length+3
 room:=λA=>A.units+2<Eg
 inj:=λa b=>a.inj b
 keeps:=λx ho d hs=>x.keeps ho d hs
 pyHash:=λc hk h=>gn ⋯ hk h
 eqBool:=λc a b h=>gp c a b h
 quiet:=λhk h=>ic hk h
@[reducible]def jX:=Str×List Str
abbrev d_(K:PySem.W.Frag)(H:Hp)(v:V)(k:jX):Prop:=∃a b,v=.ref a/\DU K H a [.str k.1,.ref b]/\DU K H b (k.2.map V.str)
abbrev gT(P:DW)(w:Fi)(d:hQ)(xs:List (jX×hQ×eH)):HO:=.ext λh=>(d==Fv)=df/\∃o es ep,h.get? d=a5 o/\o.ExactDict/\o.data=.dict es ep/\es.toList=xs.map (entryOfKey (fM P w))/\(xs.map (·.1)).Nodup
abbrev dW(P:DW)(w:Fi)(K:PySem.W.Frag)(H:Hp)(d:hQ)(ks:List jX):Prop:=∃xs,H d=a5 (gT P w d xs)/\xs.map (·.1)=ks/\∀x∈xs,d_ K H (.ref x.2.1) x.1
theorem iR:∀{ks:List Str}{a:List eH},Vals (ks.map V.str) a->ItemsAre (PySem.strKind P w) ks a
 |[],_,.nil=>.nil
 |k::ks,_,.cons r t=>by
  have⟨b,rfl⟩:=r;show .cons (by simp[PySem.strKind,JF]) (iR t)
def wJ(I:Inv X a σ H s)(e:DU X.K H b (ks.map V.str)):T_ (PySem.strKind X.prog X.w) s.heap ks b:=by
 obtain⟨c,r,⟨o,d,f,n,g⟩,_⟩:=I.tuple e;show⟨o,c.toArray,n,d,f,g,by simpa using iR r⟩
def iu(I:Inv X d σ H s)(e:d_ X.K H (.ref a) k):aR X.prog X.w s.heap k a:=by
 have⟨a',b,q,f,g⟩:=e;cases q;obtain⟨p,r,⟨o,h,i,n,j⟩,_⟩:=I.tuple f;cases r with
 |cons l c =>
  cases c with
  |cons c m =>
   cases m;have⟨t,rfl⟩:=l;cases c;show⟨o,n,t,b,h,i,j,wJ I g⟩
section
def Inv.Dc(I:Inv X a σ H s):Fv<s.heap.objs.size:=by
 obtain⟨o,es,ep,ho,_⟩:=I.mod.glob;have b:@J2 Nat _ D' s.heap.objs.size:=hY (I.bk _ _ ho);obtain⟨e,⟨f,g,h,c,_⟩,_⟩:=I.mod.blt;have d:@J2 Nat _ Pw s.heap.objs.size:=hY (I.bk _ _ c);revert b d;change @J2 Nat _ D' s.heap.objs.size->@J2 Nat _ Pw s.heap.objs.size->@J2 Nat _ Fv s.heap.objs.size;unfold D' Pw Fv;lia
def iS(I:Inv X a σ H s)(h:H d=a5 (gT X.prog X.w d xs))(hk:∀x∈xs,d_ X.K H (.ref x.2.1) x.1):(d==Fv)=df/\s.heap.DictOfH (fM X.prog X.w) d xs:=by
 obtain⟨⟨b,o,es,ep,c,e,f,g,i⟩,_⟩:=I.Dw d _ h;show⟨b,o,es,ep,c,e,f,g,λx j=>iu I (hk x j),i⟩
def yt(b:(d==Fv)=df)(x:h.DictOfH (fM P w) d xs):bz P w H' h d (gT P w d xs):=by
 obtain⟨o,es,ep,a,c,e,f,_,g⟩:=x;show⟨⟨b,o,es,ep,a,c,e,f,g⟩,⟨o,a⟩,λq a ⟨i,o,es,ep,j,l,m,n,p⟩ k=>⟨i,o,es,ep,k _ j,l,m,n,p⟩⟩
def wK:PE X (.Dict [] [] pos) (λ_ H Q=>∀p,H p=b6->Q (.ref p) (upd H p (gT X.prog X.w p []))):=λb s σ H Q I h =>
 V2 ⟨.ref s.heap.objs.size,_,I.laid (a:=s.heap.objs.size) (o:=gT X.prog X.w s.heap.objs.size []) (t':=s.toks) (λ_ _ q=>et _ q) (gs _)
  (yt (beq_eq_false_iff_ne.mpr (z8 (k7 I.Dc))) (Wd s.heap)),rfl,h _ (I.Dw.fresh (gs _))⟩
def ft(k:jX):(QJ xs k).isSome=ez (k∈xs.map (·.1)):=by
 unfold QJ;rw[Nu,FW,List.find?_isSome,WI,ki];constructor
 .rintro⟨x,a,e⟩;show⟨x,a,WO e⟩
 .rintro⟨x,a,e⟩;show⟨x,a,WM e⟩
def rV(o:X.A.units+3<Eg):ER X (J9 .NotIn) (λx y H Q=>∃k d ks,d_ X.K H x k/\y=.ref d/\dW X.prog X.w X.K H d ks/\Q (.bl (!ez (k∈ks))) H):=by
 intro c s σ H x y v u Q I f g h;obtain⟨k,d,ks,e,rfl,⟨xs,i,j,l⟩,q⟩:=h;cases g;have⟨a,b,rfl,p,r⟩:=id e;cases f;have⟨m,n⟩:=iS I i l;show V8 (knd:=fM X.prog X.w) (k:=k) (by change X.A.units+1+2<Eg;lia) (iu I e) m n ?_;rw[ft,j];show⟨.bl _,H,I.tok _,rfl,q⟩
def wL(hu:X.A.units+3<Eg):iG X (λo i v H Q=>∃d k ks,o=.ref d/\d_ X.K H i k/\dW X.prog X.w X.K H d ks/\k∉ks/\ks.length<=1000/\∀H',dW X.prog X.w X.K H' d (ks++[k])->(∀b,b≠d->H' b=H b)->Q H'):=by
 intro p s σ H o i v ov iv u Q I t B rv h;obtain⟨d,k,ks,rfl,f,⟨xs,c,g,r⟩,C,hl,q⟩:=h;cases t;have⟨a,b,rfl,e1,e2⟩:=id f;cases B;have⟨D,G⟩:=iS I c r;have J:xs.length<=dV:=by
  have:=WN E1 g;rw[dt]at this;rw[this];show H8 (rP hl)
 show Vz (hsz:=J) (knd:=fM X.prog X.w) (k:=k) (by change X.A.units+1+2<Eg;lia) (iu I f) G λh' j L=>?_;have N:QJ xs k=b6:=by
  have:=ft (xs:=xs) k;rw[g,WL C]at this;cases e:QJ xs k with
  |none=>rfl
  |some _=>rw[e]at this;cases this
 rw[storedH_new N]at j;obtain⟨O,Du,Jb,T,_⟩:=id j;show⟨upd H d (gT X.prog X.w d (xs++[(k,a,u)])),I.write (x:=d) (e:=d) (by rw[c];show Qx) (.inl rfl) (λb q l z=>(L.2 b l).trans z) ⟨O,T⟩ (yt D j),q _ ⟨_,aq,by rw[qs,g];rfl,λx Y=>?_⟩ λb l=>ai l⟩;have kT:∀{a':hQ} {n:List V},DU X.K H a' n->DU X.K (upd H d (gT X.prog X.w d (xs++[(k,a,u)]))) a' n:=λ{a' n} z=>by
  rcases z with(z|⟨o,z⟩)|z
  .show .inl (.inl (by rw[ai (tv z c (λz=>nomatch z))];show z))
  .show .inl (.inr ⟨o,by rw[ai (tv z c (λz=>nomatch z))];show z⟩)
  .show .inr z
 have keep:∀{y:V} {k':jX},d_ X.K H y k'->d_ X.K (upd H d (gT X.prog X.w d (xs++[(k,a,u)]))) y k':=λ{y k'} ⟨a',b',z1,z2,z3⟩=>⟨a',b',z1,kT z2,kT z3⟩
 rcases ko.mp Y with m|m
 .show keep (r x m)
 .have:x=(k,a,u):=by simpa using m
  subst this;show keep f
end
abbrev EY(a b:Str):Bool:=!ez (b.cps.toList<a.cps.toList)
def fN(a b:Str):EY a b=b5↔a.cps.toList<=b.cps.toList:=by
 simp only[EY,B0,decide_eq_false_iff_not];show Ug
def kA(a b c:Str)(d:EY a b=b5)(e:EY b c=b5):EY a c=b5:=by
 rw[fN]at d e ⊢;show List.le_trans d e
def rW(a b:Str):(EY a b||EY b a)=b5:=by
 rw[MN,fN,fN];show List.le_total _ _
def m3{x y:Str}(h:x.cps.toList=y.cps.toList):x=y:=by
 cases x;cases y;congr
 show U3.mp h
def lH(c:EY a b=b5)(d:EY b a=b5):a=b:=by
 rw[fN]at c d;show m3 (U' c d)
abbrev av(l:List Str):List Str:=l.mergeSort EY
def aQ(l:List Str):(av l).Perm l:=List.mergeSort_perm l EY
def eh(l:List Str):(av l).Pairwise (λa b=>EY a b=b5):=List.pairwise_mergeSort kA rW l
theorem fO:∀(l:List Str) (p:Str),risingS p l=b5->(p::l).Pairwise (λa b=>EY a b=b5)
 |[],p,_=>by simp
 |x::r,p,h=>by
  have h':(!ltCps x.cps.toList p.cps.toList&&risingS x r)=b5:=h;have⟨c,g⟩:=Fg.mp h';have d:=fO r x g;have f:EY p x=b5:=by rw[ltCps_eq]at c;show c
  show Np.mpr ⟨λy i=>?_,d⟩;rcases ka.mp i with e|e
  .rw[e];show f
  .show kA _ _ _ f ((Np.mp d).1 y e)
def lI(h:sortedS l=b5):l.Pairwise (λa b=>EY a b=b5):=by
 cases l with
 |nil=>show .nil
 |cons x r=>show fO r x h
theorem dk:∀{l m:List Str},l.Perm m->l.Pairwise (λa b=>EY a b=b5)->m.Pairwise (λa b=>EY a b=b5)->l=m
 |[],m,c,_,_=>(List.Perm.nil_eq c)
 |x::l,m,c,d,f=>by
  cases m with
  |nil=>show absurd c.length_eq (by simp)
  |cons y m =>
   have⟨g,h⟩:=Np.mp d;have⟨b1,i⟩:=Np.mp f;have j:x=y:=by
    have m1:x∈y::m:=c.mem_iff.mp l';have m2:y∈x::l:=c.mem_iff.mpr l';rcases ka.mp m1 with e|e
    .show e
    .rcases ka.mp m2 with e'|e'
     .show e'.symm
     .show lH (g y e') (b1 x e)
   subst j;rw[dk (List.Perm.cons_inv c) h i]
def ub(a:l.Perm m)(hs:sortedS l=b5):l=av m:=dk (a.trans (aQ m).symm) (lI hs) (eh m)
def bV(a:l.Perm m):av l=av m:=dk ((aQ l).trans (a.trans (aQ m).symm)) (eh l) (eh m)
def aS(l:List Str):(av l).length=l.length:=(aQ l).length_eq
section
theorem cP:∀{a:List Str}{b:List eH},Vals (a.map V.str) b->MA b a
 |[],_,.nil=>.nil
 |y::a,_,.cons r t=>by
  have⟨c,rfl⟩:=r;show .cons y c (cP t)
theorem cJ:∀{a:List eH}{b:List Str},MA a b->Vals (b.map V.str) a
 |_,_,.nil=>.nil
 |_,_,.cons x t h=>.cons ⟨t,rfl⟩ (cJ h)
theorem dG(hc:fx (ke prog w) A.in1 (UN x) (λvs s1=>∃ss,MA vs ss/\vs.length<64 /\
      ∀(h':Hb) (DY:List eH) (e:Nat),(∀b o,s1.heap.get? b=a5 o->h'.get? b=a5 o)->h'.get? s1.heap.objs.size=a5 (ES "list" DY.toArray e)->MA DY (av ss)->Q (.ref s1.heap.objs.size) {s1 with heap:=h' }) E s) :
    fx (ke prog w) A (MD (.builtin "sorted") [x]) Q E s:=by
  refine Th kind_sorted plain_sorted entry_sorted (args_sorted1 _) ?_;unfold LB.«sorted»;refine bD (m:=checkCount "sorted" 1 1 _) (cb ?_);refine bD (wk hc (λvs s1 h1=>?_) λ_ _ e=>e);obtain⟨ss,hS,FR,h⟩:=h1
  refine wpAny_bind (wpAny_newList ?_ (by have : (64 : Nat) ≤ sizeLine := by decide
                                          lia))
  have GR:(s1.heap.push (ES "list" vs.toArray 0)).get? s1.heap.objs.size=a5 (ES "list" vs.toArray 0):=hA _ rfl;show fx _ _ _ _ _ {s1 with heap:=s1.heap.push (ES "list" vs.toArray 0)};refine bD (DD (w6 WD ⟨_,GR,rfl⟩ Wg (list_sort_treeK strKind_oneLt GR hS.keysOf (λv₁ v₂ rest e=>keyKind_strs (by rw[<-e];exact hS)) FR λst' a1 a2=>⟨_,rfl,?_⟩) (WG _)));obtain⟨Fb,b1,b2,b3⟩:=sorted_out_str hS a1 a2;obtain⟨e,he⟩:=sortedHeap_at (out:=(arrOf st').map (·.2)) GR;rw[ub b2 b3]at b1;refine cb ⟨_,rfl,h _ ((arrOf st').map (·.2)).toList e (λb o q=>?_) (by rw[Array.toArray_toList];exact he) b1⟩;have DX:b<s1.heap.objs.size:=hY q;show(VI (s1.heap.push (ES "list" vs.toArray 0)) s1.heap.objs.size vs ((arrOf st').map (·.2))).get? b=a5 o;rw[WC (k7 DX) (by rw[JN];exact LP DX)];exact et _ q
def jY(hl:UE s.heap l vs.toArray)
  (h:Q vs {s with heap:=(s.heap.push (ES "list" #[] 0)).update s.heap.objs.size (tA (·++vs.toArray))}) (hsz:vs.length<=dV) :
  fx (ke prog w) A (UN (.ref l)) Q E s:=by
 have⟨o,ho,b,n,c⟩:=id hl;unfold UN;show bD (T4 (Iw entry_proto_collect' ?_));change fx _ _ (do Wy (.builtin "list.__iadd__" ⟨[<-VS [],.ref l],[]⟩)) _ _ s;show bD (Um (cb ⟨UD _ (by decide +kernel),Iw entry_list_iadd' ?_⟩));change fx _ _ (Jc (.ref s.heap.objs.size) (.ref l) (.ref s.heap.objs.size)) _ _ {s with heap:=s.heap.push (ES "list" #[] 0)};unfold Jc;have a:(s.heap.push (ES "list" #[] 0)).get? l=a5 o:=et _ ho;show bD (Mq (T:="tuple") ⟨o,a,b⟩ ?_);have d:(GC "tuple"==GC "tuple")=b5:=by rfl
 rw[WJ (by rw[d];simp)];show bD (UY a c ?_);show bD (UY (xs:=#[]) (n:=0) (hA _ rfl) rfl ?_);rw[WK (by simp)];show bD (Sq (xs:=#[]) (n:=0) (hA _ rfl) rfl ?_ (mx _) (by change(#[]++vs.toArray).size<=dV+1;simp only[Ru,hW,SU];lia));show cb ?_;change fx (ke prog w) A (do
   let o <-load s.heap.objs.size
   match o.data with
   |.seq xs _=>pure xs.toList
   |_=>unsupported "internal:collect") Q E {s with heap:=(s.heap.push (ES "list" #[] 0)).update s.heap.objs.size (tA (·++vs.toArray))}
 show bD (VA (Wf (hA _ rfl) _) ?_);change fx _ _ (pure ((#[]:Array eH)++vs.toArray).toList) Q E _;rw[show((#[]:Array eH)++vs.toArray).toList=vs by simp];show cb h
end
section
def jZ{h:Hb}{vs:List eH}(e:h.get? b=a5 o):((h.push (ES "list" #[] 0)).update h.objs.size (tA (·++vs.toArray))).get? b=a5 o:=by
 rw[KX _ _ _ _ (k7 (hY e))];show et _ e
def m4(I:Inv X a σ H s)(k1:∀b o,s.heap.get? b=a5 o->s1.heap.get? b=a5 o)(h:∃d c,s1={s with heap:=d,toks:=c})
  (hk:∀b o,s1.heap.get? b=a5 o->h'.get? b=a5 o) (i:h'.get? s1.heap.objs.size=a5 (ES "list" f.toArray e)) (j:MA f (av ss)) (hsz:s.heap.objs.size<=s1.heap.objs.size) (hl:ss.length<=dV)
  (q:∀p,H p=b6->Q (.ref p) (upd H p (.lst ((av ss).map V.str)))):EP X a σ Q (.ref s1.heap.objs.size) {s1 with heap:=h' }:=by
 have⟨d,c,rfl⟩:=h;have g:Inv X a σ H {s with heap:=d,toks:=c}:=I.kept (t':=c) k1;show⟨.ref d.objs.size,_,g.laid (t':=c) (o:=.lst ((av ss).map V.str)) hk (gs _) ⟨by rw[dt,aS];show hl,f,e,cJ j,i⟩,rfl,q _ (g.Dw.fresh (gs _))⟩
def gU:gN X (.builtin "sorted") (λxs H Q=>∃(p:hQ) (c:List Str),xs=[.ref p]/\(D3 X.K H p (c.map V.str)\/DU X.K H p (c.map V.str))/\c.length<64/\∀q,H q=b6->Q (.ref q) (upd H q (.lst ((av c).map V.str)))):=by
 intro f s σ H xs us Q I rs h;have⟨p,c,rfl,hq,l,q⟩:=h;have⟨u,rfl,r⟩:=vals1 rs;cases r;have hl:c.length<=dV:=H8 (k9 l (by decide));have g:∀(a:List eH),Vals (c.map V.str) a->∀(h':Hb) (d:List eH) (e:Nat),(∀b o,((s.heap.push (ES "list" #[] 0)).update s.heap.objs.size (tA (·++a.toArray))).get? b=a5 o->h'.get? b=a5 o) ->
   h'.get? ((s.heap.push (ES "list" #[] 0)).update s.heap.objs.size (tA (·++a.toArray))).objs.size=a5 (ES "list" d.toArray e)->MA d (av c) ->
   EP X f σ Q (.ref ((s.heap.push (ES "list" #[] 0)).update s.heap.objs.size (tA (·++a.toArray))).objs.size) {s with heap:=h' }:=λa rv h' d e hk i j =>
  m4 (s1:={s with heap:=(s.heap.push (ES "list" #[] 0)).update s.heap.objs.size (tA (·++a.toArray))}) I (λb o z=>jZ z) ⟨_,s.toks,rfl⟩ hk i j (by change s.heap.objs.size<=((s.heap.push (ES "list" #[] 0)).update s.heap.objs.size (tA (·++a.toArray))).objs.size;rw[Heap.size_update,JN];show ME _) hl q
 rcases hq with hq|hq
 .have⟨a,rv,k,hz⟩:=I.list hq;have m:a.length=c.length:=by rw[<-rv.length,dt]
  show dG (collect_list k.isList ⟨c,cP rv,⋯,λh' d e hk i j=>g a rv h' d e hk i j⟩ ⋯)
 .have⟨a,rv,k,hz⟩:=I.tuple hq;have m:a.length=c.length:=by rw[<-rv.length,dt]
  show dG (jY k ⟨c,cP rv,⋯,λh' d e hk i j=>g a rv h' d e hk i j⟩ ⋯)
end
@[reducible]def sK(P:DW)(w:Fi):=PySem.strKind P w
abbrev d0(P:DW)(w:Fi)(h:Hb)(a:hQ)(b:Bool)(D:List Str):Prop :=
 ∃(L:List (Str×Tok)) (es:Array (Int×eH)) (ep:Nat) (t:Ob),h.get? a=a5 {cls:=.type "set",dict:=b6,data:=.set es ep t}/\es.toList=L.map (λp=>((sK P w).hash p.1,DE p.1 p.2)) /\
  (L.map (·.1)).Perm D/\D.Nodup/\t.fits es.size=b5/\es.size<HH/\t.led=b/\(es.size=0\/t.plain=df)
section
def uc{L:List (Str×Tok)}:ElemsOf (sK prog w) (L.map λp=>((sK prog w).hash p.1,DE p.1 p.2)):=by
 intro e a;obtain⟨p,_,rfl⟩:=ki.mp a;show⟨⟨p.1,by simp[PySem.strKind,JF],rfl⟩,rfl⟩
def qv(x y:Str)(t:Tok):(sK prog w).is x (.str y t)=ez (x=y):=by
 rw[FW];simp[PySem.strKind,JF];show⟨λh=>h.symm,λh=>h.symm⟩
def oP(t:Ob)(es:Array (Int×eH))(h:Int)(x:eH):(layNew t es h x).2.1.led=t.led:=by
 unfold layNew;split
 .change(TX (t.put _).1 _).led=t.led;unfold TX;split<;>rfl
 .rfl
def lJ(t:Ob)(es:Array (Int×eH))(n:Nat):(T5 t es n).2.1.led=t.led:=by
 unfold T5;split
 .rename_i t' b a;have:t'.led=t.led:=by
   unfold Ur UQ at a;cases c:T9 (TV n - 1) (es.map (·.1)) with
   |none=>rw[c]at a;cases a
   |some o=>rw[c]at a;cases a;rfl
  dsimp only
  split
  .show this
  .rfl
 .rfl
def iT(t:Ob)(es:Array (Int×eH))(n:Nat)(h:t.plain=df):(T5 t es n).2.1.plain=df:=by
 unfold T5;split
 .rename_i t' b a;have:t'.plain=t.plain:=by
   unfold Ur UQ at a;cases c:T9 (TV n - 1) (es.map (·.1)) with
   |none=>rw[c]at a;cases a
   |some o=>rw[c]at a;cases a;rfl
  dsimp only
  split
  .rw[this];show h
  .rfl
 .rfl
def fu(h:l.Perm (L.map λp=>((sK prog w).hash p.1,DE p.1 p.2))):∃a:List (Str×Tok),l=a.map (λp=>((sK prog w).hash p.1,DE p.1 p.2))/\a.Perm L:=by
 have all:∀e∈l,∃p:Str×Tok,e=((sK prog w).hash p.1,DE p.1 p.2):=λe b=>by
  obtain⟨p,_,rfl⟩:=ki.mp (h.mem_iff.mp b);show⟨p,rfl⟩
 have ex:∀l:List (Int×eH),(∀e∈l,∃p:Str×Tok,e=((sK prog w).hash p.1,DE p.1 p.2))->∃a:List (Str×Tok),l=a.map (λp=>((sK prog w).hash p.1,DE p.1 p.2)):=by
  intro l;induction l with
  |nil=>intro _;show⟨[],rfl⟩
  |cons e l d =>
   intro c;have⟨p,rfl⟩:=c e l';have⟨a,rfl⟩:=d λe b=>c e (mA _ b);show⟨p::a,rfl⟩
 have⟨a,rfl⟩:=ex l all;show⟨a,rfl,?_⟩;have g:(a.map λp=>((sK prog w).hash p.1,DE p.1 p.2)).map (λe=>match e.2 with|.str x t=>(x,t)|_=>(td,0))=a:=by
  rw[kj];show V_ _
 have f:(L.map λp=>((sK prog w).hash p.1,DE p.1 p.2)).map (λe=>match e.2 with|.str x t=>(x,t)|_=>(td,0))=L:=by
  rw[kj];show V_ _
 have:=h.map (λe=>match e.2 with|.str x t=>(x,t)|_=>(td,0));rw[g,f]at this;show this
theorem oQ(hS:d0 prog w s.heap a led D)(Hi:D.length+1<HH)
    (h:∀h',Gy a s.heap h'->d0 prog w h' a led (if x∈D then D else D++[x])->Q (ez (x∉D)) {s with heap:=h' }) :
    fx (ke prog w) A (setAddHashed a (.str x tk) ((sK prog w).hash x)) Q E s:=by
  obtain⟨L,es,ep,t,ho,GY,Er,DN,hf,hb,F7,Ep⟩:=hS;have L8:(sK prog w).is x (.str x tk)=b5:=by rw[qv];simp
  have NV:ElemsOf (sK prog w) es.toList:=by rw[GY];exact uc
  have hlen:es.size=D.length:=by rw[<-ro,GY,dt,<-dt (f:=Ud) (as:=L),Er.length_eq]
  unfold setAddHashed setAddHashedIn;refine DD (bD (FY ho rfl hf ?_))
  dsimp only
  rw[byScan_of (knd:=sK prog w) rfl hb NV];simp only[↓reduceIte];unfold setAddByScan;refine bD ?_;refine bD (K1 ?_);refine bD (wpAny_setScan_of (knd:=sK prog w) L8 ho rfl hf NV ?_);have mem_iff:(∃e∈es.toList,(sK prog w).is x e.2=b5)↔x∈D:=by
    rw[GY,<-Er.mem_iff,ki];constructor
    · rintro⟨e,he,hi⟩
      obtain⟨p,hp,rfl⟩:=ki.mp he;rw[qv,WI]at hi;exact⟨p,hp,hi.symm⟩
    · rintro⟨p,hp,e⟩
      exact⟨_,ki.mpr ⟨p,hp,rfl⟩,by rw[qv];simp[e]⟩
  cases hr:VJ (λe=>(sK prog w).is x e.2) es.toList with
  | some j =>
    dsimp only
    obtain⟨hj,P7,_⟩:=List.findIdx?_eq_some_iff_getElem.mp hr;have hx:x∈D:=mem_iff.mp ⟨es.toList[j],Mi hj,P7⟩;refine cb (cb ?_);have e:s={s with heap:=s.heap}:=by cases s;rfl
    have:=h s.heap (Tw a s.heap) (by rw[WJ hx];exact⟨L,es,ep,t,ho,GY,Er,DN,hf,hb,F7,Ep⟩);rw[WL (λz=>z hx)]at this;rw[e];exact this
  | none =>
    dsimp only
    have hx:x∉D:=λhx=>by
      obtain⟨e,he,hp⟩:=mem_iff.mpr hx;have:=List.findIdx?_eq_none_iff.mp hr e he;rw[hp]at this;exact Bool.noConfusion this
    have P8:∀(b:Bool) {s₁:hH} {Q':Unit->hH->Prop},Q' () s₁->fx (ke prog w) A (match b with|true=>VE "set.scan.the-table-gave-way"|false=>pure ()) Q' E s₁ :=
      λb s₁ Q' hq=>by cases b<;>first|exact cb hq|exact K1 hq
    have JA:=layNew_perm t es ((sK prog w).hash x) (.str x tk);have Fx:=layNew_fits t es ((sK prog w).hash x) (.str x tk);have FT:=oP t es ((sK prog w).hash x) (.str x tk);generalize hL:layNew t es ((sK prog w).hash x) (.str x tk)=NL at JA Fx FT ⊢;obtain⟨D_,t1,F8,P9⟩:=NL
    dsimp only at JA Fx FT ⊢
    rw[UJ,GY,show [((sK prog w).hash x,DE x tk)]=[(x,tk)].map (λp=>((sK prog w).hash p.1,DE p.1 p.2)) from rfl,<-qs]at JA;obtain⟨L1,e1,P_⟩:=fu JA;have HL:D_.size=D.length+1:=by rw[<-ro,JA.length_eq,dt,i5,<-hlen,<-ro,GY,dt];rfl
    have NW:D_.size<HH:=by lia
    have Hj:(L1.map (·.1)).Perm (D++[x]):=(P_.map _).trans (by rw[qs];exact Er.append_right _);have NX:(D++[x]).Nodup:=by
      rw[sx]
      exact ⟨DN, by simp, fun y hy z hz => by have : z = x := by simpa using hz
                                              subst this;rintro rfl;exact hx hy⟩
    refine bD (P8 _ ?_);have GZ:∀h',Gy a s.heap h'->d0 prog w h' a led (D++[x])->Q b5 {s with heap:=h' }:=λh' sb hs=>by
      have:=h h' sb (by rw[WK hx];exact hs);rw[WM hx]at this;exact this
    have tail:∀(g:Bool->Sem Unit),(∀(b:Bool) (s₁:hH) (Q':Unit->hH->Prop),Q' () s₁->fx (ke prog w) A (g b) Q' E s₁)->∀(R:Option Bool->hH->Prop),(∀h',Gy a s.heap h'->d0 prog w h' a led (D++[x])->R (a5 b5) {s with heap:=h' })->∀t2:Ob,t2.fits D_.size=b5->t2.led=led->t2.plain=df->fx (ke prog w) A (do
        storeSet a D_ t2
        if (!F8&&t2.tooFull)=true then do
            g (relayAll t2 D_ (SetTable.grown D_.size)).2.2
            storeSet a (relayAll t2 D_ (SetTable.grown D_.size)).1 (relayAll t2 D_ (SetTable.grown D_.size)).2.1
            pure (some true)
          else pure (a5 b5)) R E s:=by
      intro g hg R hR t2 P' Fj G0;refine bD (VN ho rfl ?_ (VT NW));have JB:(s.heap.update a (O1 D_ t2)).get? a=a5 {cls:=.type "set",dict:=b6,data:=.set D_ (ep+1) t2}:=by
        have:=Ej (O1 D_ t2) ho rfl;exact this
      have JC:=Gb s.heap a (O1 D_ t2);split
      · have hp:=relayAll_perm t2 D_ (MF D_.size)
        have L9:=relayAll_fits t2 D_ (MF D_.size);have IB:=lJ t2 D_ (MF D_.size);have JD:=iT t2 D_ (MF D_.size) G0;generalize L_:T5 t2 D_ (MF D_.size)=Rl at hp L9 IB JD ⊢;obtain⟨Hk,t3,NY⟩:=Rl
        dsimp only at hp L9 IB JD ⊢
        rw[e1]at hp;obtain⟨L2,e2,Qa⟩:=fu hp;have hsz:Hk.size=D_.size:=by rw[<-ro,hp.length_eq,<-e1,ro]
        refine bD (hg _ _ _ ?_);refine bD (VN JB rfl ?_ (VT ⋯));have JE:((s.heap.update a (O1 D_ t2)).update a (O1 Hk t3)).get? a=a5 {cls:=.type "set",dict:=b6,data:=.set Hk (ep+1+1) t3}:=Ej (O1 Hk t3) JB rfl;refine cb (hR _ (JC.trans (Gb _ a _)) ⟨L2,Hk,_,t3,JE,e2,(Qa.map _).trans Hj,NX,L9,⋯,IB.trans Fj,.inr JD⟩)
      · exact cb (hR _ JC ⟨L1,D_,_,t2,JB,e1,Hj,NX,P',NW,Fj,.inr G0⟩)
    split
    · rename_i hp
      refine bD ?_;rw[hashByValue_scannable 8 rfl];refine cb ?_;have ep:(if plainKind (DE x tk)=b5 then t1 else {t1 with plain:=df})={t1 with plain:=df}:=rfl;rw[ep];refine tail _ ?_ _ ?_ {t1 with plain:=df} (SetTable.fits_plain_off Fx) (FT.trans F7) rfl
      · intro b s₁ Q' hq;cases b<;>first|exact cb hq|exact K1 hq
      · intro h' IC FU;dsimp only;exact cb (GZ h' IC FU)
    · rename_i hp
      refine bD (cb ?_);simp only[↓reduceIte];refine tail _ ?_ _ ?_ t1 Fx (FT.trans F7) (NZ.mpr hp)
      · intro b s₁ Q' hq;cases b<;>first|exact cb hq|exact K1 hq
      · intro h' IC FU;dsimp only;exact cb (GZ h' IC FU)
end
abbrev ie(D:List Str)(x:Str):List Str:=if x∈D then D else D++[x]
abbrev au(l:List Str):List Str:=l.foldl ie []
theorem oR(h:D.Nodup):(ie D x).Nodup:=by
  unfold ie;split
  · exact h
  · rename_i hx
    rw[sx]
    exact ⟨h, by simp, fun y hy z hz => by have : z = x := by simpa using hz
                                           subst this;rintro rfl;exact hx hy⟩
theorem dH:∀(l D:List Str),D.Nodup->(l.foldl ie D).Nodup/\(∀x,x∈l.foldl ie D↔x∈D\/x∈l)/\(l.foldl ie D).length<=D.length+l.length
 |[],D,h=>⟨h,by simp,by simp⟩
 |y::l,D,h=>by
  have⟨a,b,f⟩:=dH l (ie D y) (oR h);have c:∀x,x∈ie D y↔x∈D\/x=y:=λx=>by
   unfold ie;split
   .rename_i d;show⟨.inl,λz=>z.elim id (λe=>e▸d)⟩
   .simp
  have hl:(ie D y).length<=D.length+1:=by
   unfold ie;split
   .lia
   .simp
  show⟨a,λx=>?_,by rw[SV,lx];lia⟩;rw[SV,b,c,ka,or_assoc]
def cK(l:List Str):(au l).Nodup:=(dH l [] Nt).1
def dI(l:List Str)(x:Str):x∈au l↔x∈l:=by rw[au,(dH l [] Nt).2.1];simp
def oS(l:List Str):(au l).length<=l.length:=by have:=(dH l [] Nt).2.2;simpa[au] using this
def m6(l:List Str)(x:Str):au (l++[x])=ie (au l) x:=by unfold au;rw[List.foldl_append];rfl
section
variable{prog:DW}{w:Fi}{A:Ke}{R:Result->hH->Prop}{I:hQ}{fp wr:List hQ}{G:Array GenState->Array GenState->Prop}{n:Nat}{P:Nat->eH->Prop}{St:Nat->hH->Prop}
def gq(W:WalksS prog w A.in1 I fp wr G n P St)(S:hQ)(p:S∉fp)(a:Bool)
  (d:List Str) (hn:d.length=n) (z:∀i v,P i v->∃x t,d[i]?=a5 x/\v=.str x t) (f:n+1<HH) :
  ∀(k i:Nat) (s:hH),n - i=k->i<=n->St i s->d0 prog w s.heap S a (au (d.take i)) ->
   (∀s',Moved (S::wr) G s s'->d0 prog w s'.heap S a (au d)->R (.ok (.ret .none)) s') ->
   OU (ke prog w) A (.builtin "set.update.loop" ⟨[.ref S,.ref I],[]⟩) R s:=by
 have q:S∉wr:=λh=>p (W.sub _ h);have r:∀b∈wr,b∈S::wr:=λb f=>mA _ f;intro k;induction k with
 |zero =>
  intro i s hk B l j m;have C:i=n:=by lia
  subst C;show Iw N6 ?_;rw[JP JJ _];change fx _ A.in1 (Pn (.ref I) >>= _) _ _ s;show bD (W.done s _ _ l λs' g=>?_);change fx _ A.in1 (ret oa) _ _ s';rw[OX ⋯]at j;show cb (m s' (g.mono r) (by
   have⟨L,es,ep,t,ho,c⟩:=j;show⟨L,es,ep,t,g.heap S _ q ho,c⟩))
 |succ k D =>
  intro i s hk B l j m;have u:i<n:=by lia
  show Iw N6 ?_;rw[JP JJ _];change fx _ A.in1 (Pn (.ref I) >>= _) _ _ s;show bD (W.item i s _ _ u l λv s' H J g=>?_);have⟨x,t,N,rfl⟩:=z i v H;have O:d0 prog w s'.heap S a (au (d.take i)):=by
   have⟨L,es,ep,Q,ho,c⟩:=j;show⟨L,es,ep,Q,g.heap S _ q ho,c⟩
  change fx _ A.in1 (Js [DE x t] (setAdd S (.str x t)) >>= _) _ _ s';show bD (DD ?_);unfold setAdd;show DD ?_;show bD ((sK prog w).pyHash (k:=x) (by rw[qv];simp) ?_);have T:(au (d.take i)).length+1<HH:=by have:=oS (d.take i);rw[EX]at this;lia
  show oQ (s:={s' with toks:=s'.toks+1}) O T λh' y Y=>?_;have Qb:d0 prog w h' S a (au (d.take (i+1))):=by
   rw[List.take_add_one,N];change d0 prog w h' S a (au (d.take i++[x]));rw[m6];show Y
  show cb ⟨R' JJ _,D (i+1) _ ⋯ u (W.frame _ s' _ _ J (ME _) λb f o e=>?_) Qb λJh Mb Mc=>?_⟩
  .rw[y.2 b (λh:b=S=>p (by rw[<-h];show f))];show e
  .show m Jh (Moved.trans W.gtrans ((g.mono r).then_heap (ME _) λb o f e=>?_) Mb) Mc;rw[y.2 b (λh:b=S=>f (by rw[h];show l'))];show e
end
section
def j3(a:eH)
  (h:Q₁ (.ref s.heap.objs.size) {s with heap:=s.heap.push {cls:=.type "set",dict:=b6,data:=.set #[] 0 (.fresh 0 0 (!w.params.followText "set-order"))}}) :
  OU (ke prog w) A (.call (.builtin "set.__new__") ⟨[.type "set",a],[]⟩) (wants Q₁ E) s:=by
 show Wb ?_;change fx _ A.in1 (do checkBuiltinCall "set.__new__" ⟨[.type "set",a],[]⟩;Wy (.builtin "set.__new__" ⟨[.type "set",a],[]⟩)) _ _ s;show bD (Tz (PySem.F.newCall_set_1 a) (cb ⟨R' PySem.F.plain_set_new _,Iw PySem.F.entry_set_new ?_⟩));rw[JP PySem.F.plain_set_new _];unfold LB.«set.__new__» Vm;have b:=sub_set_self;have⟨c,g,d,e,os⟩:=s
 dsimp only
 wp_walk
 show Tr (cb ?_)
 dsimp only
 simp only[newObj];show bD (wpAny_alloc (cb ?_));show cb h
def oU(c:h.get? a=a5 {cls:=.type "set",dict:=b6,data:=.set #[] 0 (.fresh 0 0 b)}):d0 prog w h a b [] :=
 ⟨[],#[],0,_,c,rfl,.nil,Nt,rfl,by unfold HH;decide,rfl,.inl rfl⟩
end
def sub_tuple_set:Uz (.type "tuple") (.type "set")=pure df:=by rw[QE];kernel_rfl
def sub_tuple_frozenset:Uz (.type "tuple") (.type "frozenset")=pure df:=by rw[QE];kernel_rfl
section
@[reducible]def cE(w:Fi):Bool:=!w.params.followText "set-order"
@[reducible]def oV(a:Bool):Obj:={cls:=.type "set",dict:=b6,data:=.set #[] 0 (.fresh 0 0 a)}
def fP
  (L:s.TypeIs (.ref l) T) (Qd:Uz (.type T) (.type "set")=pure df) (Qe:Uz (.type T) (.type "frozenset")=pure df) (Ek:(GC T==GC "dict")=df)
  (N:a.length+1<HH)
  (k:∀(s1:hH) (B:Ke) (Q':eH->hH->Prop),B.handled=A.handled->(∀b o,s.heap.get? b=a5 o->s1.heap.get? b=a5 o)->s.heap.objs.size<s1.heap.objs.size ->
   (∀I m n G P St d,WalksS prog w B.in1 I m n G a.length P St->(∀g g',G g g'->g'=g)->s.heap.objs.size∉m->(∀b∈n,s.heap.objs.size<b)->(∀i v,P i v->∃x t,a[i]?=a5 x/\v=.str x t)->St 0 {s1 with heap:=d}->(∀b o,s1.heap.get? b=a5 o->d.get? b=a5 o)->Q' (.ref I) {s1 with heap:=d})->fx (ke prog w) B (T7 (.ref l)) Q' E s1)
  (h:∀(h':Hb) (f:Nat),d0 prog w h' s.heap.objs.size (cE w) (au a)->(∀b o,b<s.heap.objs.size->s.heap.get? b=a5 o->h'.get? b=a5 o)->Q (.ref s.heap.objs.size) {s with heap:=h',toks:=f}) :
  fx (ke prog w) A (MD (.type "set") [.ref l]) Q E s:=by
 have⟨c,tl,Qf⟩:=PySem.F.called_set.mro;have Hl:=PySem.F.called_set.made;have F9:=PySem.F.called_set.sub;show wpAny_call (Wb ?_);change fx _ _ (callAny (.type "set") _) _ _ _;show cb ⟨UD _ (by decide +kernel),Iw PySem.F.entry_type_call ?_⟩;rw[Around.under_plain (weight_type_call_type "set" [.ref l] []) rfl];have d:=PySem.F.called_set.notType;have h2:=PySem.F.called_set.canCreate;have Sb:=PySem.F.typeCall_set_1 (.ref l)
 repeat (any_goals (first|assumption|wp_step))
 show Po (j3 (.ref l) (E:=E) (Q₁:=λobj C=>obj=.ref s.heap.objs.size/\C={s with heap:=s.heap.push (oV (cE w))}) ⟨rfl,rfl⟩) λr C p=>?_;cases r with
 |error e=>show p
 |ok O =>
  cases O with
  |ret obj =>
   have⟨rfl,rfl⟩:=p;have D:(s.heap.push (oV (cE w))).get? s.heap.objs.size=a5 (oV (cE w)):=hA _ rfl;have Y:Nv {s with heap:=s.heap.push (oV (cE w))} (.ref s.heap.objs.size) "set":=⟨_,D,rfl⟩
   have Sd:=PySem.F.called_set.init.lookup;have Se:=PySem.F.called_set.init.bind (.ref s.heap.objs.size)
   repeat (any_goals (first|assumption|wp_step))
   show Po (codeAny_call_builtin (R:=wants (λr H=>r=.none/\∃h' f,H={s with heap:=h',toks:=f} /\
     d0 prog w h' s.heap.objs.size (cE w) (au a) /\
     (∀b o,b<s.heap.objs.size->s.heap.get? b=a5 o->h'.get? b=a5 o)) E) PySem.F.called_set.init.plain PySem.F.entry_set_init (check_set_init_1 Y ?_)) λr₂ H q=>?_
   .have⟨ol,JG,J⟩:=L;have⟨Qg,JH,JI,HN⟩:=ol;simp only at J;subst J;have Mg:(s.heap.push (oV (cE w))).get? l=a5 {cls:=.type T,dict:=JH,data:=JI,slots:=HN}:=et _ JG;have Sf:Nv {s with heap:=s.heap.push (oV (cE w))} (.ref l) T:=⟨_,Mg,rfl⟩
    unfold LB.«set.__init__» noKeywords Vj;generalize Qh:T7=PI
    wp_walk
    subst Qh;show k {s with heap:=s.heap.push (oV (cE w))} _ _ rfl (λb o e=>et _ e) (by rw[JN];show OQ _) λI m n G P St d W hG hf Qi HM DC hk=>?_;show bD (T4 ?_);show gq W s.heap.objs.size hf (cE w) a rfl HM N (a.length - 0) 0 _ ⋯ (mx _) DC (oU (hk _ _ D)) ?_;intro s' j u;have⟨h',g',d',Qj,Lz⟩:=s';have eg:g'=s.gens:=hG _ _ j.gens;have ed:d'=s.drawn:=j.drawn;have eo:Lz=s.os:=j.os;subst eg;subst ed;subst eo;change fx _ _ _ _ _ _;show cb ?_;change fx _ _ (ret oa) _ _ _;show cb ⟨rfl,h',Qj,rfl,u,λb o y e=>?_⟩;show j.heap b o (λz=>by
     rcases ka.mp z with z|z
     .rw[z]at y;show wh _ y
     .show absurd (Qi b z) (Nat.not_lt_of_lt y)) (hk _ _ (et _ e))
   .cases r₂ with
    |error e=>show q
    |ok Qk =>
     cases Qk with
     |ret r =>
      have⟨rfl,h',f,rfl,u,Ee⟩:=q
      repeat (any_goals (first|assumption|wp_step))
      show h _ _ u Ee
     |_=>show q.elim
  |_=>show p.elim
end
section
theorem lK:∀{vs:List eH}{ss:List Str},MA vs ss->∀(i:Nat) (v:eH),vs[i]?=a5 v->∃x t,ss[i]?=a5 x/\v=.str x t
 |_,_,.nil,i,v,h=>by simp at h
 |_,_,.cons x t h,0,v,e=>by simp at e;show⟨x,t,rfl,e.symm⟩
 |_,_,.cons x t h,i+1,v,e=>by rw[Oj]at e;rw[Oj];show lK h i v e
theorem fQ:∀{vs:List eH}{ss:List Str},MA vs ss->vs.length=ss.length
 |_,_,.nil=>rfl
 |_,_,.cons x t h=>by simp[fQ h]
def qw(a:n≠S)(b:n≠l):n∉[S,l]:=by simp[a,b]
def iU(hh:A.handled=b6)(hl:s.heap.IsList l vs.toArray)(f:MA vs a)(c:a.length+1<HH)
  (h:∀(h':Hb) (j:Nat),d0 prog w h' s.heap.objs.size (cE w) (au a)->(∀b o,b<s.heap.objs.size->s.heap.get? b=a5 o->h'.get? b=a5 o)->Q (.ref s.heap.objs.size) {s with heap:=h',toks:=j}) :
  fx (ke prog w) A (MD (.type "set") [.ref l]) Q E s:=by
 have g:l<s.heap.objs.size:=let ⟨o,ho,_⟩:=hl;hY ho;show fP hl.typeIs PySem.F.sub_list_set PySem.F.sub_list_frozenset (by decide) c (λs1 B Q' k hk d m=>?_) h;have FT:s1.heap.IsList l vs.toArray:=let ⟨o,ho,r⟩:=hl;⟨o,hk _ _ ho,r⟩;show S1 FT ?_;have n:l≠s1.heap.objs.size:=k7 (R0 g d);have W:=(V3 (prog:=prog) (w:=w) (A:=B.in1) (by simp[k,hh]) s1.heap.objs.size l n vs.toArray).toS;have p:vs.toArray.size=a.length:=by simp[fQ f]
 rw[p]at W;show m _ _ _ _ _ _ _ W (λ_ _ e=>e) (qw (k7 d) (Hd g)) (λb c=>by rw[ti.mp c];show d) (λi v q=>lK f i v (by simpa using q)) ⟨⟨_,hA _ rfl,rfl,rfl⟩,FT.push _⟩ λb o e=>et _ e
def j4(hh:A.handled=b6)(hl:s.heap.IsTuple l vs.toArray)(f:MA vs a)(c:a.length+1<HH)
  (h:∀(h':Hb) (j:Nat),d0 prog w h' s.heap.objs.size (cE w) (au a)->(∀b o,b<s.heap.objs.size->s.heap.get? b=a5 o->h'.get? b=a5 o)->Q (.ref s.heap.objs.size) {s with heap:=h',toks:=j}) :
  fx (ke prog w) A (MD (.type "set") [.ref l]) Q E s:=by
 have g:l<s.heap.objs.size:=let ⟨o,ho,_⟩:=hl;hY ho;show fP hl.typeIs sub_tuple_set sub_tuple_frozenset (by decide) c (λs1 B Q' k hk d m=>?_) h;have FT:s1.heap.IsTuple l vs.toArray:=let ⟨o,ho,r⟩:=hl;⟨o,hk _ _ ho,r⟩;show LJ FT ?_;have n:l≠s1.heap.objs.size:=k7 (R0 g d);have W:=(Walks.tuple (prog:=prog) (w:=w) (A:=B.in1) (by simp[k,hh]) s1.heap.objs.size l n vs.toArray).toS;have p:vs.toArray.size=a.length:=by simp[fQ f]
 rw[p]at W;show m _ _ _ _ _ _ _ W (λ_ _ e=>e) (qw (k7 d) (Hd g)) (λb c=>by rw[ti.mp c];show d) (λi v q=>lK f i v (by simpa using q)) ⟨⟨_,hA _ rfl,rfl,rfl⟩,let ⟨o,ho,r⟩:=FT;⟨o,et _ ho,r⟩⟩ λb o e=>et _ e
def lL(a:n≠0)(h:∀i<n,Q i {s with drawn:=s.drawn.bump src}):fx M A (choose src n) Q E s:=λΓ p b=>by
 change Sem.wp M Γ (.choose src n .pure) _ _ p s;rw[Sem.wp_choose];show⟨a,h _ (Tx _ (Nat.pos_of_ne_zero a))⟩
theorem fy:∀{xs:List α}{i:Nat}{x:α},xs[i]?=a5 x->(x::xs.eraseIdx i).Perm xs
 |[],i,x,h=>by simp at h
 |y::a,0,x,h=>by simp at h;subst h;show .refl _
 |y::a,i+1,x,h=>by
  rw[Oj]at h;rw[List.eraseIdx_cons_succ];show(List.Perm.swap y x _).trans ((fy h).cons y)
theorem fh:∀(n:Nat) (xs:List α) (s:hH) (Q:List α->hH->Prop),xs.length=n->(∀a d,a.Perm xs->Q a {s with drawn:=d})->fx M A (drawOrder n xs) Q E s
 |0,xs,s,Q,b,h=>by
  have:xs=[]:=Oi.mp b;subst this;show cb (h [] s.drawn (.refl _))
 |n+1,[],s,Q,b,h=>by simp at b
 |n+1,y::a,s,Q,b,h=>by
  change fx M A (choose .order (y::a).length >>= _) Q E s;show bD (lL (by simp) λi c=>?_);have e:(y::a)[i]?=a5 ((y::a)[i]'c):=r3 c;have f:=fy e;generalize (y::a)[i]'c=x at e f;simp only[e];show bD (fh n _ _ _ (by have:=f.length_eq;simp at this b ⊢;lia) λg d hz=>?_);show cb (h (x::g) d ((hz.cons x).trans f))
theorem gV(next:Nat->Nat):∀(fuel k:Nat) (left:List α) (out:Array α),left.length=fuel->(S8 next fuel k left out).toList.Perm (out.toList++left)
 |0,k,left,out,hl=>by
  have:left=[]:=Oi.mp hl;subst this;simp[S8]
 |fuel+1,k,left,out,hl=>by
  unfold S8;have a:next k % left.length<left.length:=Tx _ ⋯;have e:left[next k % left.length]?=a5 (left[next k % left.length]'a):=r3 a;have b:=fy e;generalize left[next k % left.length]'a=x at e b;simp only[e];show(gV next fuel _ _ _ (by have:=b.length_eq;simp at this;lia)).trans ?_;rw[UJ,NU];show(b.append_left _)
def ei(next:Nat->Nat)(xs:Array α):(Ts next xs).toList.Perm xs.toList:=by
 have:=gV next xs.size 0 xs.toList #[] (by simp);simpa[Ts] using this
end
namespace SI
def m7:Manifest.owners.lookup (String.ofList ['r','o','t','a','r','e','t','i','_','t','e','s'].reverse)=a5 Manifest.sig_set_iterator:=by kernel_rfl
def slot_next:Slot "set_iterator" "__next__" "set_iterator.__next__" :=
 .of (owner:="set_iterator") (n:="__next__") (by rw[TL,P6];kernel_rfl) (by decide +kernel) (by decide +kernel) (by decide +kernel)
  (by first|show .inl (by decide +kernel)|show .inr (by decide +kernel)) (by rw[QE];kernel_rfl)
def entry_next:Wu table "set_iterator.__next__"=a5 LB.«set_iterator.__next__»:=entryFor_of_tree (by kernel_rfl)
def args_next(a:eH):Wx "set_iterator.__next__" ⟨[a],[]⟩:=by
 unfold Wx;rw[signature?_of (id:="set_iterator.__next__") (n:=['_','_','t','x','e','n','_','_']) (o:=['r','o','t','a','r','e','t','i','_','t','e','s']) (by kernel_rfl) m7];kernel_rfl
def kB:Slot "set_iterator" "__iter__" "set_iterator.__iter__" :=
 .of (owner:="set_iterator") (n:="__iter__") (by rw[TL,P6];kernel_rfl) (by decide +kernel) (by decide +kernel) (by decide +kernel)
  (by first|show .inl (by decide +kernel)|show .inr (by decide +kernel)) (by rw[QE];kernel_rfl)
def rX(a:eH):Wx "set_iterator.__iter__" ⟨[a],[]⟩:=by
 unfold Wx;rw[signature?_of (id:="set_iterator.__iter__") (n:=['_','_','r','e','t','i','_','_']) (o:=['r','o','t','a','r','e','t','i','_','t','e','s']) (by kernel_rfl) m7];kernel_rfl
def oW:Wu table "set_iterator.__iter__"=a5 LB.«dict_keyiterator.__iter__» :=
 Wt (id':="dict_keyiterator.__iter__") (by kernel_rfl) (by first|rfl|decide +kernel|(unfold String.splitOn;simp +decide [String.splitOnAux])) (by decide +kernel) (by kernel_rfl)
def iV:Wu table "set.__iter__"=a5 LB.«frozenset.__iter__» :=
 Wt (id':="frozenset.__iter__") (by kernel_rfl) rfl (by decide +kernel) (by kernel_rfl)
end SI
section
variable{prog:DW}{w:Fi}{A:Ke}{E:eH->hH->Prop}{s:hH}
abbrev fz(h:Hb)(I:hQ)(first:eH)(i:Nat)(S:hQ)(n ep:Nat):Prop:=∃o,h.get? I=a5 o/\o.cls=.type "set_iterator"/\o.data=.fields #[first,DF i,.ref S,DF n,DF ep]
def fz.typeIs(x:fz s.heap I f i S n ep):s.TypeIs (.ref I) "set_iterator":=let ⟨o,ho,a,_⟩:=x;⟨o,ho,a⟩
def wM(a:fz s.heap I f i S n ep)(h:Q (.ref I) s):fx (ke prog w) A (T7 (.ref I)) Q E s:=by
 show VO a.typeIs SI.kB (w6 SI.kB a.typeIs SI.oW ?_ (SI.rX _));change fx _ _ (ret (.ref I)) _ _ s;show cb ⟨_,rfl,"set_iterator",_,a.typeIs,SI.slot_next.lookup,h⟩
def dJ(h:Q (M.w.params.followText "set-order") s):fx M A setsByText Q E s:=by
 unfold setsByText;show bD (Tr (cb h))
end
end L2
namespace L2
open PySem PySem.Spec PyProof.Rows
section
variable{prog:DW}{w:Fi}{A:Ke}{E:eH->hH->Prop}{s:hH}
@[reducible]def lM(es:Array (Int×eH))(ep:Nat)(t:Ob):Obj:={cls:=.type "set",dict:=b6,data:=.set es ep t}
def m8{I:hQ}{B:Ke}{Q:Option eH->hH->Prop}{c:Hb}{k:eH->Sem (Option eH)}(hh:B.handled=b6)
  (d:∀h',(∀b o,c.get? b=a5 o->h'.get? b=a5 o)->∀e,Nv {s with heap:=h' } e "StopIteration"->E e {s with heap:=h' }) {Q':Fin->hH->Prop} :
  fx (ke prog w) B (UM (.type "StopIteration") [] >>= λe=>(T6 e:Sem Fin)) Q' E {s with heap:=c}:=by
 show bD ?_;simp only[UM,Wq];show bD (pw ?_ (by size_fits));show bD (m:=QI _ _) (Tz (a:=oa) (by first|rfl|(simp only[QI];rfl)) ?_);show pw ?_ (by size_fits);simp only[T6];show bD (wpAny_handled ?_);rw[hh];show bD (cb (wpAny_throw ?_));show d _ (λb o e=>et _ (et _ e)) _ ⟨_,hA _ rfl,rfl⟩
def qx{I S:hQ}{first:eH}{i ep:Nat}{es:Array (Int×eH)}{t:Ob}(d:fz s.heap I first i S es.size ep)(ho:s.heap.get? S=a5 (lM es ep t))(j:t.fits es.size=b5)
  (k:∀(Q':Fin->hH->Prop) (h:eH->hH->Prop) ,(∀v s',Q (a5 v) s'->Q' (.done (.ret v)) s')->(∀e s',s'.TypeIs e "StopIteration"->Q b6 s'->h e s') ->
   fx (ke prog w) A.in1 (if let .int slot _:=first then(do
     match <-S5 S slot.toNat i ep with
     |some (x,next) =>
      S6 (.ref I) 0 (DF next)
      S6 (.ref I) 1 (DF ((i:Int)+1))
      ret x
     |none=>S6 (.ref I) 2 .none;T6 (<-UM (.type "StopIteration") []))
    else(do
     let a5 c <-Uy first|unsupported "internal:set_iterator"
     match c[i]? with
     |some (.int f _) =>
      let x <-UL S f.toNat ep
      S6 (.ref I) 1 (DF ((i:Int)+1))
      ret x
     |some _=>unsupported "internal:set_iterator"
     |none=>S6 (.ref I) 0 (DF 0);S6 (.ref I) 2 .none;T6 (<-UM (.type "StopIteration") []))) Q' h s):fx (ke prog w) A (Pn (.ref I)) Q E s:=by
 have⟨o,l,n,m⟩:=id d;unfold Pn;show bD (wpAny_attempt (FH (name:=Ky "__next__") d.typeIs SI.slot_next
  (w6 SI.slot_next d.typeIs SI.entry_next ?_ (SI.args_next _))))
 unfold LB.«set_iterator.__next__»;show bD (Tz (a:=(lg I,[])) rfl ?_)
 try dsimp only
 show bD (wpAny_fieldsOf l m ?_)
 try dsimp only
 show bD (Vs ho rfl j ?_);rw[WK (by simp)];show wk (k (λg s'=>∃r,g=.done (.ret r)/\Q (a5 r) s') (λe s'=>s'.TypeIs e "StopIteration"/\Q b6 s') (λv s' q=>⟨v,rfl,q⟩) λe s' z q=>⟨z,q⟩) ?_ ?_
 .rintro g s' ⟨r,rfl,q⟩;show⟨r,rfl,cb q⟩
 .rintro e s' ⟨z,q⟩;show bD (K9 (T:="StopIteration") (b:=b5) z Wr ?_);show cb q
end
section
def qy{I S:hQ}{f f':eH}{i n ep:Nat}{h:Hb}{o:Obj}(b:h.get? I=a5 o)(c:o.cls=.type "set_iterator")(a:o.data=.fields #[f,DF i,.ref S,DF n,DF ep]):
  fz (h.update I (VY (·.setIfInBounds 1 (DF ((i:Int)+1))))) I f (i+1) S n ep :=
 ⟨_,Ej _ b (O8 (Jy a _)),(RQ ..).trans c,by rw[Jy a];simp⟩
def m9{h:Hb}(c:h.get? I=a5 o)(d:o.cls=.type "set_iterator")(b:o.data=.fields #[f,DF i,.ref S,DF n,DF ep]):
  ∃a,(h.update I (VY (·.setIfInBounds 0 f'))).get? I=a5 a/\a.cls=.type "set_iterator"/\a.data=.fields #[f',DF i,.ref S,DF n,DF ep] :=
 ⟨_,Ej _ c (O8 (Jy b _)),(RQ ..).trans d,by rw[Jy b];simp⟩
def ud{I S:hQ}{slot i ep:Nat}{es:Array (Int×eH)}{t:Ob}{Q:Option eH->hH->Prop}(a:fz s.heap I (DF slot) i S es.size ep)(ho:s.heap.get? S=a5 (lM es ep t))(j:t.fits es.size=b5)(hh:A.handled=b6)
  {r:Option (eH×Nat)} (l:∀(B:Ke) (f:eH->hH->Prop) (Q':Option (eH×Nat)->hH->Prop),Q' r s->fx (ke prog w) B (S5 S slot i ep) Q' f s)
  (m:∀x nx,r=a5 (x,nx)->∀h',fz h' I (DF nx) (i+1) S es.size ep->Gy I s.heap h'->Q (a5 x) {s with heap:=h' })
  (n:r=b6->∀h',(∀b o,b≠I->s.heap.get? b=a5 o->h'.get? b=a5 o)->Q b6 {s with heap:=h' }):fx (ke prog w) A (Pn (.ref I)) Q E s:=by
 show qx a ho j λQ' f q u=>?_;have⟨o,c,v,d⟩:=id a;change fx _ _ (S5 S slot i ep >>= _) _ _ s;show bD (l _ _ _ ?_);cases r with
 |some p =>
  have⟨x,nx⟩:=p
  dsimp only
  show bD (Ju c d (by simp) ?_);have⟨H,g,y,h⟩:=m9 (f':=DF nx) c v d;show bD (Ju (s:={s with heap:=_}) g h (by simp) ?_);show cb (q _ _ (m x nx rfl _ (qy (f':=DF nx) g y h) ((Gb ..).trans (Gb ..))))
 |none =>
  dsimp only
  show bD (Ju c d (by simp) ?_);show m8 (I:=I) (k:=λ_=>pure b6) (Q:=λ_ _=>True) (s:=s) (by simpa using hh) λh' hk e z=>u e _ z (n rfl h' λb C D G=>hk b C ?_);rw[KX _ _ _ _ D];show G
def zF{I S T:hQ}{i ep:Nat}{es:Array (Int×eH)}{t:Ob}{a:List Nat}{Q:Option eH->hH->Prop}(c:fz s.heap I (.ref T) i S es.size ep)(ho:s.heap.get? S=a5 (lM es ep t))(m:t.fits es.size=b5)(hh:A.handled=b6)
  (r:s.heap.IsTuple T ((a.map λ(j:Nat)=>DF j).toArray))
  (u:∀(j:Nat) (e:Int×eH),a[i]?=a5 j->es[j]?=a5 e->∀h',fz h' I (.ref T) (i+1) S es.size ep->Gy I s.heap h'->Q (a5 e.2) {s with heap:=h' })
  (v:∀j∈a,j<es.size)
  (x:a[i]?=b6->∀h',(∀b o,b≠I->s.heap.get? b=a5 o->h'.get? b=a5 o)->Q b6 {s with heap:=h' }):fx (ke prog w) A (Pn (.ref I)) Q E s:=by
 show qx c ho m λQ' N y z=>?_;have⟨o,d,n,f⟩:=id c;have⟨O,B,Y,nT,C⟩:=r;change fx _ _ (Uy (.ref T) >>= _) _ _ s;show bD (N' B C ?_);cases e:a[i]? with
 |some j =>
  have g:(a.map λ(j:Nat)=>DF j).toArray[i]?=a5 (DF j):=by simp[e]
  simp only[g];have h:j<es.size:=v j (nC e);have l:es[j]?=a5 (es[j]'h):=by simp[h]
  change fx _ _ (UL S (j:Int).toNat ep >>= _) _ _ s;unfold UL;rw[Ii];show bD (bD (FY ho rfl m ?_))
  dsimp only
  rw[WK (by simp)];generalize es[j]'h=p at l;simp only[l];show cb ?_;show bD (Ju d f (by simp) ?_);show cb (y _ _ (u j p e l _ (qy (f':=.ref T) d n f) (Gb ..)))
 |none =>
  have g:(a.map λ(j:Nat)=>DF j).toArray[i]?=b6:=by simp at e ⊢;show e
  simp only[g];show bD (Ju d f (by simp) ?_);have⟨o',D,e2,G⟩:=m9 (f':=DF 0) d n f;show bD (Ju (s:={s with heap:=_}) D G (by simp) ?_);show m8 (I:=I) (k:=λ_=>pure b6) (Q:=λ_ _=>True) (s:=s) (by simpa using hh) λh' hk ex H=>z ex _ H (x e h' λb J q L=>hk b J ?_);rw[KX _ _ _ _ q,KX _ _ _ _ q];show L
end
section
def fz.at(x:fz h I f i S n ep)(e:∀o,h.get? I=a5 o->h'.get? I=a5 o):fz h' I f i S n ep:=let ⟨o,ho,r⟩:=x;⟨o,e _ ho,r⟩
def iW(hh:A.handled=b6)(n:S≠I)(r:t.fits es.size=b5)(T:hQ)(p:T≠I)(c:List eH)(k:c.length=es.size)
  (first:Nat->eH) (a:Hb->Prop) (l:∀h h',a h->(∀o,h.get? T=a5 o->h'.get? T=a5 o)->a h')
  (m:∀(s:hH) (i:Nat) (E:eH->hH->Prop) (Q:Option eH->hH->Prop),i<=es.size->a s.heap->fz s.heap I (first i) i S es.size ep->s.heap.get? S=a5 (lM es ep t) ->
   (∀x,c[i]?=a5 x->∀h',fz h' I (first (i+1)) (i+1) S es.size ep->Gy I s.heap h'->Q (a5 x) {s with heap:=h' }) ->
   (c[i]?=b6->∀h',(∀b o,b≠I->s.heap.get? b=a5 o->h'.get? b=a5 o)->Q b6 {s with heap:=h' })->fx (ke prog w) A (Pn (.ref I)) Q E s) :
  Walks prog w A I [I,S,T] [I] es.size (λi v=>c[i]?=a5 v) (λi h=>i<=es.size/\fz h I (first i) i S es.size ep/\h.get? S=a5 (lM es ep t)/\a h) where
 sub:=λb d=>by rw[ti.mp d];simp
 frame:=λi h h' x hk=>⟨x.1,x.2.1.at λo e=>hk I (by simp) o e,hk S (by simp) _ x.2.2.1,l h h' x.2.2.2 λo e=>hk T (by simp) o e⟩
 item:=λi s Q E q x f=>by
  show m s i E Q x.1 x.2.2.2 x.2.1 x.2.2.1 (λv g h' j hs=>?_) λz=>absurd z (by simp;lia);show f v h' s.toks g ⟨q,j,?_,l _ h' x.2.2.2 λo e=>?_⟩ λb o d e=>?_
  .rw[hs.2 S n];show x.2.2.1
  .rw[hs.2 T p];show e
  .rw[hs.2 b λz=>d (by simp[z])];show e
 done:=λs Q E x f=>by
  show m s es.size E Q x.1 x.2.2.2 x.2.1 x.2.2.1 (λv g=>absurd g (by rw[O5 ⋯];simp)) λ_ h' hk=>f h' s.toks λb o d e=>hk b o (λz=>d (by simp[z])) e
 self:=λi s Q E x f=>wM x.2.1 f
def lN(ho:s.heap.get? S=a5 (lM es ep t))(a:t.fits es.size=b5)(h:Q (!w.params.followText "set-order"&&(!t.plain&&ez (es.size>1))) s):fx (ke prog w) A (setDrawn S) Q E s:=by
 unfold setDrawn;show bD (FY ho rfl a ?_)
 dsimp only
 show bD (dJ (cb h))
def lO(a:w.params.followText "set-order"=b5)(ho:s.heap.get? S=a5 (lM es ep t))(b:t.fits es.size=b5)
  (h:Q ((Ts (w.params.setOrder S ep) es)[i]?.map λe=>(e.2,0)) s):fx (ke prog w) A (S5 S 0 i ep) Q E s:=by
 unfold S5;show bD (FY ho rfl b ?_)
 dsimp only
 show bD (dJ ?_);change fx _ _ (if (w.params.followText "set-order")=b5 then _ else _) _ _ s;rw[WJ a];rw[WK (by simp)];unfold setWalk;show bD (bD (FY ho rfl b ?_))
 dsimp only
 show bD (dJ ?_);change fx _ _ (if (w.params.followText "set-order")=b5 then _ else _) _ _ s;rw[WJ a];show bD (Tr (cb ?_));show cb h
theorem m_(hw:w.params.followText "set-order"=df)(ho:s.heap.get? S=a5 (lM es ep t))(hf:t.fits es.size=b5)(hl:t.led=b5)(h1:es.size<=1)
    (h:Q (match es[Iq t.place slot]?,t.place[Iq t.place slot]? with|some (_,x),a5 j=>a5 (x,j+1)|_,_=>b6) s):fx (ke prog w) A (S5 S slot i ep) Q E s:=by
  unfold S5;refine bD (FY ho rfl hf ?_)
  dsimp only
  refine bD (dJ ?_);show fx _ _ (if (w.params.followText "set-order")=b5 then _ else _) _ _ s;rw[WK (by rw[hw];simp)];show fx _ _ (if (!t.plain&&ez (es.size>1))=b5 then _ else _) _ _ s
  rw [if_neg (by have : decide (es.size > 1) = false := decide_eq_false (by lia)
                 rw[this];simp)]
  show fx _ _ ((if (!t.led&&!es.isEmpty)=b5 then _ else _) >>= _) _ _ s;rw[WK (by rw[hl];simp)];exact bD (cb (cb h))
def ng(es:Array (Int×eH))(a:Array Nat)(i:Nat)(c:es.size<=1)(d:a.size=es.size)(b:i<=es.size):
  (match es[Iq a (if i=0 then 0 else(a[0]?).getD 0+1)]?,a[Iq a (if i=0 then 0 else(a[0]?).getD 0+1)]? with|some (_,x),a5 j=>a5 (x,j+1)|_,_=>b6)=es[i]?.map λe=>(e.2,(a[0]?).getD 0+1):=by
 have⟨es⟩:=es;have⟨a⟩:=a
 match es,a,c,d,b with
 |[],[],_,_,b=>simp
 |[e],[p],_,_,b =>
  match i,b with
  |0,_ =>
   have:Iq #[p] 0=0:=by simp[Iq,Ta]
   simp[this]
  |1,_ =>
   have:Iq #[p] (p+1)=1:=by simp[Iq,Ta]
   simp[this]
  |n+2,h=>simp at h
 |[],_::_,_,h,_=>simp at h
 |[_],[],_,h,_=>simp at h
 |[_],_::_::_,_,h,_=>simp at h
 |_::_::_,_,h,_,_=>simp at h
def ue(hh:B.handled=b6)(hS:d0 prog w s.heap S (cE w) D)
  (h:∀(I:hQ) (fp:List hQ) (n:Nat) (P:Nat->eH->Prop) (St:Nat->Hb->Prop) (c:List Str) (h':Hb) (d':Drawn),Walks prog w B I fp [I] n P St->c.Perm D->n=c.length->(∀i v,P i v->∃x T,c[i]?=a5 x/\v=.str x T)->s.heap.objs.size<=I->(∀b∈fp,b=S\/s.heap.objs.size<=b)->St 0 h' ->
   (∀b o,s.heap.get? b=a5 o->h'.get? b=a5 o)->Q (.ref I) {s with heap:=h',drawn:=d' }):fx (ke prog w) A (T7 (.ref S)) Q E s:=by
 have⟨L,es,ep,t,ho,GY,Y,DN,a,d,F7,Ep⟩:=hS;have N0:s.TypeIs (.ref S) "set":=⟨_,ho,rfl⟩
 have Ga:S<s.heap.objs.size:=hY ho;show VO N0 PySem.F.slot_set_iter (w6 PySem.F.slot_set_iter N0 SI.iV ?_ (PySem.F.args_set_iter_1 _));unfold LB.«frozenset.__iter__» Vk slotArgs;simp only[List.isEmpty_nil,Hf,tj,↓reduceIte,bind_assoc,SU,bne_self_eq_false];unfold Vn Vl;show bD (cb ?_)
 try dsimp only
 show bD (cb ?_);show bD (bD (Vs ho rfl a (cb ?_)));have Qn:D.length=es.size:=by rw[<-Y.length_eq,dt,<-ro,GY,dt]
 have f:∀(l:List (Int×eH)),l.Perm es.toList->∃c:List Str,c.Perm D/\c.length=es.size/\∀(i:Nat) (v:eH),(l.map (·.2))[i]?=a5 v->∃(x:Str) (T:Tok),c[i]?=a5 x/\v=DE x T:=by
  intro l hl;rw[GY]at hl;have⟨L',e',p'⟩:=fu hl;show⟨L'.map (·.1),(p'.map _).trans Y,by rw[((p'.map _).trans Y).length_eq,Qn],λi v G=>?_⟩;subst e';rw[kj,nc]at G;rw[nc];cases q:L'[i]? with
  |none=>rw[q]at G;simp at G
  |some p=>rw[q]at G;simp at G;show⟨p.1,p.2,rfl,G.symm⟩
 show bD (lN ho a ?_);cases hw:w.params.followText "set-order" with
 |true =>
  simp only[Hf,Vy,tj,↓reduceIte];show bD (cb ?_);show bD (bD (FY ho rfl a (cb ?_)));show bD (pw ?_);have u:S≠s.heap.objs.size:=k7 Ga;have⟨c,H,J,N⟩:=f (Ts (w.params.setOrder S ep) es).toList (ei _ _);have W:=iW (prog:=prog) (w:=w) (A:=B) (I:=s.heap.objs.size) (S:=S) (es:=es) (ep:=ep) (t:=t) hh u a S u ((Ts (w.params.setOrder S ep) es).toList.map (·.2)) (by rw[dt,(ei _ _).length_eq,ro]) (λ_=>DF 0) (λ_=>True) (λ_ _ _ _=>trivial)
   (λs i E Q _ _ g y k1 k2=>ud (slot:=0) g y a hh (λB E' Q' q=>lO hw y a q) (λx nx e h' O hs=>by
    rw[f6]at e;have⟨p,C,e2⟩:=e;cases e2;show k1 _ (by rw[nc,FZ,C];rfl) h' O hs) (λe=>k2 (by rw[nc,FZ,Of];rwa [Of]at e)))
  show cb ⟨_,rfl,"set_iterator",_,⟨_,hA _ rfl,rfl⟩,SI.slot_next.lookup,?_⟩;show h _ _ _ _ _ c _ s.drawn W H J.symm N (gs _) (λb d=>by
   simp only[ka,Mh,or_false]at d;rcases d with rfl|rfl|rfl
   .show .inr (gs _)
   .show .inl rfl
   .show .inl rfl) ⟨mx _,⟨_,hA _ rfl,rfl,rfl⟩,et _ ho,trivial⟩ λb o e=>et _ e
 |false =>
  by_cases hsz:es.size>1
  .have EB:t.plain=df:=by
    rcases Ep with z|z
    .lia
    .show z
   have C:(!df&&(!t.plain&&ez (es.size>1)))=b5:=by rw[EB,WM hsz];rfl
   rw[C];simp only[↓reduceIte];show bD (fh _ _ _ _ LD λm d' hp=>?_);simp only[Wq];have G0:∀j∈m,j<es.size:=λj hj=>by have:=hp.mem_iff.mp hj;simpa using this
   have JK:m.length=es.size:=by rw[hp.length_eq];simp
   show bD (pw ?_ (by
    change(m.map λ(j:Nat)=>DF j).toArray.size<=_;have:es.size<4096:=d;simp only[hW,dt,JK];have:(4096:Nat)<=dV:=by decide
    lia))
   have FI:(s.heap.push {cls:=.type "tuple",data:=.seq (m.map λ(j:Nat)=>DF j).toArray}).get? S=a5 (lM es ep t):=et _ ho;show bD (bD (FY (s:={s with heap:=_,drawn:=d' }) FI rfl a (cb ?_)));show bD (pw ?_);have Qo:s.heap.objs.size≠(s.heap.push {cls:=.type "tuple",data:=.seq (m.map λ(j:Nat)=>DF j).toArray}).objs.size:=by rw[JN];show k7 (OQ _)
   have u:S≠(s.heap.push {cls:=.type "tuple",data:=.seq (m.map λ(j:Nat)=>DF j).toArray}).objs.size:=by rw[JN];show k7 (LP Ga)
   have HQ:(m.map λj=>(es[j]?).getD (0,oa)).Perm es.toList:=by
    show(hp.map _).trans ?_;have:(hE es.size).map (λj=>(es[j]?).getD (0,oa))=es.toList:=by
     apply Ja
     .simp
     .intro i h1 h2;simp at h1 ⊢;simp[h1]
    rw[this]
   have⟨c,H,J,N⟩:=f _ HQ;have W:=iW (prog:=prog) (w:=w) (A:=B) (I:=(s.heap.push {cls:=.type "tuple",data:=.seq (m.map λ(j:Nat)=>DF j).toArray}).objs.size) (S:=S) (es:=es) (ep:=ep) (t:=t) hh u a s.heap.objs.size Qo ((m.map λj=>(es[j]?).getD (0,oa)).map (·.2)) (by simp[JK]) (λ_=>.ref s.heap.objs.size) (λh=>h.IsTuple s.heap.objs.size (m.map λ(j:Nat)=>DF j).toArray) (λh h' ⟨o,ho,r⟩ k=>⟨o,k _ ho,r⟩)
    (λs' i E Q _ Fy g y k1 k2=>zF g y a hh Fy (λj e ej ee h' O hs=>k1 _ (by rw[nc,nc,ej];simp[ee]) h' O hs) G0 (λe=>k2 (by rw[nc,nc,e];rfl)))
   show cb ⟨_,rfl,"set_iterator",_,⟨_,hA _ rfl,rfl⟩,SI.slot_next.lookup,?_⟩;show h _ _ _ _ _ c _ d' W H J.symm N (by rw[JN];show ME _) (λb d=>?_) ⟨mx _,⟨_,hA _ rfl,rfl,rfl⟩,et _ FI,⟨_,et _ (hA _ rfl),rfl,_,rfl⟩⟩ λb o e=>et _ (et _ e);rw[JN]at d;simp only[ka,Mh,or_false]at d;rcases d with rfl|rfl|rfl
   .show .inr (ME _)
   .show .inl rfl
   .show .inr (gs _)
  .have C:(!df&&(!t.plain&&ez (es.size>1)))=df:=by rw[WL hsz];simp
   rw[C];simp only[tj,↓reduceIte];show bD (cb ?_);show bD (bD (FY ho rfl a (cb ?_)));show bD (pw ?_);have u:S≠s.heap.objs.size:=k7 Ga;have Qp:t.led=b5:=by rw[F7];change(!w.params.followText "set-order")=b5;rw[hw];rfl
   have⟨c,H,J,N⟩:=f es.toList (.refl _);have GI:t.place.size=es.size:=by
    unfold SetTable.fits at a;simp only[c4,beq_iff_eq]at a;show a.1
   have W:=iW (prog:=prog) (w:=w) (A:=B) (I:=s.heap.objs.size) (S:=S) (es:=es) (ep:=ep) (t:=t) hh u a S u (es.toList.map (·.2)) (by simp) (λi=>DF ((if i=0 then 0 else(t.place[0]?).getD 0+1:Nat):Nat)) (λ_=>True) (λ_ _ _ _=>trivial)
    (λs' i E Q hi _ g y k1 k2=>ud (slot:=if i=0 then 0 else(t.place[0]?).getD 0+1) g y a hh (λB E' Q' q=>m_ hw y a Qp ⋯ q) (λx nx e h' O hs=>by
     rw[ng es t.place i ⋯ GI hi,f6]at e;have⟨p,C,e2⟩:=e;cases e2;show k1 _ (by rw[nc,FZ,C];rfl) h' ?_ hs;rw[WK (Nat.succ_ne_zero i)];show O) (λe=>by
     rw[ng es t.place i ⋯ GI hi,Of]at e;show k2 (by rw[nc,FZ,e];rfl)))
   show cb ⟨_,rfl,"set_iterator",_,⟨_,hA _ rfl,rfl⟩,SI.slot_next.lookup,?_⟩;show h _ _ _ _ _ c _ s.drawn W H J.symm N (gs _) (λb d=>by
    simp only[ka,Mh,or_false]at d;rcases d with rfl|rfl|rfl
    .show .inr (gs _)
    .show .inl rfl
    .show .inl rfl) ⟨mx _,⟨_,hA _ rfl,rfl,rfl⟩,et _ ho,trivial⟩ λb o e=>et _ e
end
def nh:VD (.type "set") "__len__"=pure (a5 (.builtin "set.__len__")):=by rw[TL,P6];kernel_rfl
section
theorem iX:∀{vs:List eH}{a:List Str},vs.length=a.length->(∀(i:Nat) (v:eH),vs[i]?=a5 v->∃x t,a[i]?=a5 x/\v=.str x t)->MA vs a
 |[],[],_,_=>.nil
 |[],_::_,h,_=>by simp at h
 |_::_,[],h,_=>by simp at h
 |v::vs,y::a,h,k=>by
  have⟨x,t,b,c⟩:=k 0 v rfl;cases b;subst c;show .cons y t (iX (by simpa using h) λi w d=>k (i+1) w d)
def ni(hh:A.handled=b6)(N:d0 prog w s.heap S (cE w) D)(O:D.length<=dV)
  (T:∀(vs:List eH) (d:List Str) (h':Hb) (d':Drawn) (j:Nat),d.Perm D->MA vs d->s.heap.objs.size<=h'.objs.size->s.toks<=j->(∀b o,s.heap.get? b=a5 o->h'.get? b=a5 o)->Q vs {s with heap:=h',drawn:=d',toks:=j}) :
  fx (ke prog w) A (UN (.ref S)) Q E s:=by
 have⟨L,es,ep,t,ho,c⟩:=id N;have Y:S<s.heap.objs.size:=hY ho;unfold UN;show bD (T4 (Iw PySem.F.entry_proto_collect ?_));rw[JP PySem.F.plain_proto_collect _];change fx _ A.in1 (VS [] >>= λl=>Wy (.builtin "list.__iadd__" ⟨[l,.ref S],[]⟩)) _ _ s;show bD (pw ?_);show cb ⟨R' PySem.F.plain_list_iadd _,Iw PySem.F.entry_list_iadd ?_⟩;rw[JP PySem.F.plain_list_iadd _];have g:(s.heap.push {cls:=.type "list",data:=.seq ([]:List eH).toArray}).get? S=a5 {cls:=.type "set",dict:=b6,data:=.set es ep t}:=et _ ho;have hT:Nv {s with heap:=s.heap.push {cls:=.type "list",data:=.seq ([]:List eH).toArray}} (.ref S) "set":=⟨_,g,rfl⟩
 change fx _ A.in1 (Jc (.ref s.heap.objs.size) (.ref S) (.ref s.heap.objs.size)) _ _ _;unfold Jc;show bD (Mq hT ?_);have k:s.heap.objs.size≠S:=Hd Y;have h1:RA (.ref s.heap.objs.size) (.ref S)=df:=by simp[RA,k]
 have h2:(GC "set"==GC "list")=df:=by decide
 have h3:(GC "set"==GC "tuple")=df:=by decide
 simp only[h1,h2,h3,VL,tj,WQ];show bD (ue (B:=A.in1) (by simpa using hh) ⟨L,es,ep,t,g,c⟩ ?_);intro I fp n P St d h' d' W m p hP q Qq DC hk;have h:Nv {s with heap:=h',drawn:=d' } (.ref S) "set":=⟨_,hk _ _ g,rfl⟩
 show bD (DD ?_);unfold We;show bD (Lw h nh ?_);have E8:splitId "set.__len__"=a5 ("set","__len__"):=by decide +kernel
 dsimp only
 rw[E8]
 dsimp only
 show bD (K9 h sub_set_self ?_);rw[WK (by decide)];rw[WJ (by decide +kernel)];show bD (Mq h ?_);show cb ?_;rw[WJ (by decide +kernel)];have r:s.heap.objs.size∉fp:=λa=>by
  rcases Qq _ a with z|z
  .show k z
  .rw[JN]at z;show absurd z (Nat.not_succ_le_self _)
 have u:h'.get? s.heap.objs.size=a5 {cls:=.type "list",data:=.seq ([]:List eH).toArray}:=hk _ _ (hA _ rfl);show bD (K1 ?_);show bD ?_;change fx _ A.in1 (updateSeq s.heap.objs.size (·.push .none) >>= λ_=>updateSeq s.heap.objs.size (·.pop)) _ _ _;show bD (PY u rfl ?_);have x:=Ej (tA (·.push oa)) u rfl;show PY x rfl ?_;have Qr:=Ej (tA (·.pop)) x rfl;have y:∀b o,b≠s.heap.objs.size->h'.get? b=a5 o->((h'.update s.heap.objs.size (tA (·.push oa))).update s.heap.objs.size (tA (·.pop))).get? b=a5 o :=
  λb o f e=>(LA _ _ (z8 f)).trans ((LA _ _ (z8 f)).trans e)
 show cb ⟨R' PySem.F.plain_extend_loop _,codeAny_extend_loopS W.toS (by rw[p,m.length_eq];show O) _ r _ n 0 _ _ _ rfl (mx _) (W.frame 0 h' _ DC λb f o e=>y b o (λz=>r (z▸f)) e) Qr (ItemsOf.nil P) λs' JL c' a C G=>?_⟩;change fx _ A (load s.heap.objs.size >>= _) _ _ s';show bD (VA C ?_);have⟨Hh,g2,H,Qs,Qt⟩:=s';have eg:g2=s.gens:=a.gens;have ed:H=d':=a.drawn;have eo:Qt=s.os:=a.os;subst eg;subst ed;subst eo;show cb (T _ d Hh H Qs m (iX (by rw[ro,G.1,p]) λi v hv=>hP i v (G.2 i v (by rwa [FZ]at hv))) (H8 (hY C)) a.toks λb o e=>?_);have J:b≠s.heap.objs.size:=λz=>by rw[z]at e;show absurd (hY e) (wh _)
 show a.heap b o (λz=>?_) (y b o J (hk _ _ (et _ e)));rcases ka.mp z with z|z
 .show J z
 .rw[ti.mp z]at e;have:=hY e;rw[JN]at q;show absurd (k9 this (vu (ME _) q)) (wh _)
end
section
def Inv.drawn(I:Inv X a σ H s)(d:Drawn):Inv X a σ H {s with drawn:=d}:=⟨I.ok,I.os,I.bare,I.base,I.loc,I.cell,I.free,I.D7,I.pin,I.Dw,I.len⟩
def lP(j:X.calm=b5)(I:Inv X c σ H s)(hq:D3 X.K H p (d.map V.str)\/DU X.K H p (d.map V.str))(i:d.length+1<HH)
  (h:∀(S:hQ) (h':Hb) (a:Nat),d0 X.prog X.w h' S (cE X.w) (au d)->Inv X c σ H {s with heap:=h',toks:=a}->Q (.ref S) {s with heap:=h',toks:=a}) :
  fx (ke X.prog X.w) X.A (MD (.type "set") [.ref p]) Q X.xe s:=by
 have hh:X.A.handled=b6:=I.ok.hd j;rcases hq with hq|hq
 .have⟨l,rv,f,hz⟩:=I.list hq;show iU hh f.isList (cP rv) i λh' a g k=>h _ h' a g (I.kept λb o e=>k b o (hY e) e)
 .have⟨l,rv,f,hz⟩:=I.tuple hq;show j4 hh f (cP rv) i λh' a g k=>h _ h' a g (I.kept λb o e=>k b o (hY e) e)
def j5(i:X.calm=b5)(I:Inv X a σ H s)(j:d0 X.prog X.w s.heap S (cE X.w) D)(d:D.length<64)
  (q:∀p,H p=b6->Q (.ref p) (upd H p (.lst ((av D).map V.str)))):fx (ke X.prog X.w) X.A (MD (.builtin "sorted") [.ref S]) (EP X a σ Q) X.xe s:=by
 have hh:X.A.handled=b6:=I.ok.hd i;have hl:D.length<=dV:=H8 (k9 d (by decide));show dG (ni (A:=X.A.in1) (by simpa using hh) j hl λvs k h' d' b f g hsz n hk=>⟨k,g,by rw[fQ g,f.length_eq];show d,λr l e k2 c s2=>?_⟩);rw[bV f]at s2;have m:Inv X a σ H {s with heap:=h',toks:=b}:=I.kept (t':=b) hk;have h:Inv X a σ H {s with heap:=h',drawn:=d',toks:=b}:=m.drawn d';show⟨.ref h'.objs.size,_,h.laid (t':=b) (o:=.lst ((av D).map V.str)) k2 (gs _) ⟨by rw[dt,aS];show hl,l,e,cJ s2,c⟩,rfl,q _ (h.Dw.fresh (gs _))⟩
end
section
def fR(a:s.heap.IsTupleIter it l i)
  (hl:s.heap.IsTuple l b) (d:b[i]?=a5 x)
  (e:∀h',h'.IsTupleIter it l (i+1)->Gy it s.heap h'->Q x {s with heap:=h' }) :
  fx (ke prog w) A (Gz (.ref it)) Q E s:=by
 have⟨o,ho,f,c⟩:=id a;obtain⟨j,g,_,k,h⟩:=hl;unfold Gz;show bD (FH (name:=Ky "__next__") a.typeIs PySem.F.slot_tuple_iterator_next
  (w6 PySem.F.slot_tuple_iterator_next a.typeIs PySem.F.entry_tuple_iterator_next ?_ (PySem.F.args_tuple_iterator_next_1 _)))
 change fx _ _ (Ws (.ref it) 0 >>= _) _ _ s;show bD (ID ho c (x:=.ref l) rfl ?_);change fx _ _ (if (lg l==oa)=b5 then _ else _) _ _ s;rw[WK (show ¬((lg l==oa)=b5) from mh)];change fx _ _ (Ws (.ref it) 1 >>= _) _ _ s;show bD (ID ho c (x:=.int i 0) rfl ?_);change fx _ _ (Uy (.ref l) >>= _) _ _ s;show bD (N' g h ?_);simp only[Ii,d];show bD (Ju ho c (by simp) (cb ⟨x,rfl,cb (e _ ?_ (Gb ..))⟩));show⟨_,Ej _ ho (O8 (Jy c _)),(RQ ..).trans f,by
  rw[Jy c];simp[DF]⟩
def dm(hh:A.handled=b6)
  (b:s.heap.IsTupleIter it l i) (hl:s.heap.IsTuple l c) (f:c[i]?=b6)
  (g:∀h' e,V4 it s.heap h'->(∃o,h'.get? e=a5 o/\o.cls=.type "StopIteration")->E (.ref e) {s with heap:=h' }) :
  fx (ke prog w) A (Gz (.ref it)) Q E s:=by
 have⟨o,ho,k,d⟩:=id b;obtain⟨n,h,_,p,j⟩:=hl;unfold Gz;show bD (FH (name:=Ky "__next__") b.typeIs PySem.F.slot_tuple_iterator_next
  (w6 PySem.F.slot_tuple_iterator_next b.typeIs PySem.F.entry_tuple_iterator_next ?_ (PySem.F.args_tuple_iterator_next_1 _)))
 change fx _ _ (Ws (.ref it) 0 >>= _) _ _ s;show bD (ID ho d (x:=.ref l) rfl ?_);change fx _ _ (if (lg l==oa)=b5 then _ else _) _ _ s;rw[WK (show ¬((lg l==oa)=b5) from mh)];change fx _ _ (Ws (.ref it) 1 >>= _) _ _ s;show bD (ID ho d (x:=.int i 0) rfl ?_);change fx _ _ (Uy (.ref l) >>= _) _ _ s;show bD (N' h j ?_);simp only[Ii,f];show bD (K1 (bD (Ju ho d (by simp) ?_)));change fx _ _ (UM (.type "StopIteration") [] >>= _) _ _ _;show bD ?_;simp only[UM,Wq];show bD (pw ?_ (by size_fits));show bD (m:=QI _ _) (Tz (a:=oa) (by first|rfl|(simp only[QI];rfl)) ?_);show pw ?_ (by size_fits);simp only[T6];show bD (wpAny_handled ?_)
 first|rw[show A.in1.handled=b6 from hh]|rw[hh]
 show bD (cb (wpAny_throw ?_));show g _ _ (((Gb ..).extBut.push _).push _) ⟨_,hA _ rfl,rfl⟩
end
def nj(hh:A.handled=b6)(it l:hQ)(d:l≠it)(a:Array eH):
  Draws prog w A it [it,l] a.size (λi v=>a[i]?=a5 v) (λi h=>h.IsTupleIter it l i/\h.IsTuple l a) where
 live:=λ_ _ st=>let ⟨o,ho,_⟩:=st.1;⟨o,ho⟩
 frame:=λ_ _ _ st hk=>⟨st.1.at λo e=>hk it (by simp) o e,let ⟨o,ho,r⟩:=st.2;⟨o,hk l (by simp) o ho,r⟩⟩
 item:=λi s Q E b st f=>by
  show fR st.1 st.2 (x:=a[i]) (by simp[b]) λh' g c=>?_;show f _ h' s.toks (by simp[b]) ⟨g,let ⟨o,ho,r⟩:=st.2;⟨o,(c.2 l d).trans ho,r⟩⟩ c
 done:=λs Q E st j=>dm hh st.1 st.2 (by simp) j
open AutoSeq1 (wpAny_loadPart') in
def iY(l:hQ)(a:Array eH)(n:Nat)(e:Option hQ)(f:Array (Option eH)):
  Meets (LB.«enumerate.__new__» ⟨[.type "enumerate",.ref l],[]⟩) (λ_ R s=>s.heap.get? l=a5 {cls:=.type "tuple",dict:=e,data:=.seq a n,slots:=f} /\
   R (.ok (.ret (.ref (s.heap.push {cls:=.type "tuple_iterator",data:=.fields #[.ref l,.int 0 0]}).objs.size)))
    {s with heap:=(s.heap.push {cls:=.type "tuple_iterator",data:=.fields #[.ref l,.int 0 0]}).push {cls:=.type "enumerate",data:=.fields #[.none,.bool df,.ref s.heap.objs.size,DF 0,.none,.none]}}) :=
 .of_wp λprog w A R s h=>by
  have⟨i,g,d,j,os⟩:=s;have⟨hl,h⟩:=h;have k:=sub_enumerate;have b:Heap.IsTuple (Shared.heap ⟨i,g,d,j,os⟩) l a:=⟨_,hl,rfl,n,rfl⟩
  wp_walk using PZ hl
  show wpAny_stack_any λst=>cb ?_;split
  .rename_i c _ _ _ _ _;cases(c==GC "enumerate")
   .wp_walk using PZ hl,LJ b
    show⟨_,rfl,h⟩
   .wp_walk using PZ hl,LJ b
    show⟨_,rfl,h⟩
  .wp_walk using PZ hl,LJ b
   show⟨_,rfl,h⟩
section
def eu(g:s.heap.IsTuple l a)
  (h:∀h',UT h' (s.heap.objs.size+1) s.heap.objs.size 0 .none->h'.IsTupleIter s.heap.objs.size l 0->h'.objs.size=s.heap.objs.size+2 ->
   (∀b o,s.heap.get? b=a5 o->h'.get? b=a5 o)->Q (.ref (s.heap.objs.size+1)) {s with heap:=h' }) :
  fx (ke prog w) A (MD (.type "enumerate") [.ref l]) Q E s:=by
 obtain⟨⟨c,i,j,k⟩,hl,d,n,e⟩:=g
 replace d:c=.type "tuple":=d
 replace e:j=.seq a n:=e
 subst d e;show callType_new PySem.F.called_enumerate (by decide) (PySem.F.typeCall_enumerate_1 _) (PySem.F.newCall_enumerate_1 _) (λobj=>PySem.F.args_object_init_2 obj _) PySem.F.entry_enumerate_new
  (iY l a n i k) ⟨hl,?_⟩
 have hz:(s.heap.push {cls:=.type "tuple_iterator",data:=.fields #[.ref l,.int 0 0]}).objs.size=s.heap.objs.size+1:=Ly ..;change _/\_;rw[hz];have f:UT ((s.heap.push {cls:=.type "tuple_iterator",data:=.fields #[.ref l,.int 0 0]}).push
   {cls:=.type "enumerate",data:=.fields #[.none,.bool df,.ref s.heap.objs.size,DF 0,.none,.none]}) (s.heap.objs.size+1) s.heap.objs.size 0 .none:=by
  have:=hA (s.heap.push {cls:=.type "tuple_iterator",data:=.fields #[.ref l,.int 0 0]})
   (o:={cls:=.type "enumerate",data:=.fields #[.none,.bool df,.ref s.heap.objs.size,DF 0,.none,.none]}) rfl
  rw[hz]at this;show this
 show⟨⟨_,f,rfl⟩,h _ f ⟨_,et _ (hA _ rfl),rfl,rfl⟩ (by rw[Ly,hz]) λb o x=>et _ (et _ x)⟩
end
end L2
namespace L2
open PySem PySem.Spec PyProof.Rows
section
def Inv.qz{ch:List hQ}(I:Inv X a σ H s)(f:∀b∈ch,fG X a H b)(k:∀b o,b∉ch->s.heap.get? b=a5 o->h'.get? b=a5 o):Inv X a σ H {s with heap:=h',toks:=t' }:=by
 have g:∀b u,H b=a5 u->b∉ch:=λb u e z=>by rw[(f b z).1]at e;cases e
 show I.step (g':=s.gens) (d':=s.drawn) (ch:=ch) (λb h=>?_) (λb o _ _ d e _=>k b o d e) (λb o _ _ d e _=>⟨o.slots,k b o d e⟩) (λ_ _ _ _ n=>n)
  (λb o d e=>⟨o,k b o d e⟩) (λ_ _ e=>e) (λ_ _ _ e=>e) (λb ps e=>⟨#[],by rw[e];simp⟩) (λm i=>?_) (λb u e=>?_) I.bare
 .have⟨w,j,x,l,p,t⟩:=f b h;show⟨l,j,p,t⟩
 .have⟨o,es,ep,ho,r⟩:=i;show⟨o,es,ep,k _ o (λz=>(f _ z).2.1 rfl) ho,r⟩
 .show(I.Dw b u e).la (λc v d q=>k c v ?_ q) (λ_ q=>q) λ_ _ q=>q;rcases d with z|z
  .rw[z];show g b u e
  .show g c _ z
def Inv.oX{ch:List hQ}(I:Inv X a σ H s)(h:∀b∈ch,fG X a H b)(k:∀b o,b∉ch->s.heap.get? b=a5 o->h'.get? b=a5 o)(i:s.heap.objs.size<=T)(new:bz X.prog X.w (upd H T o) h' T o):
  Inv X a σ (upd H T o) {s with heap:=h',toks:=t' }:=by
 have j:Inv X a σ H {s with heap:=h',toks:=t' }:=I.qz h k;have l:H T=b6:=I.Dw.fresh i;have p:∀b o,s.heap.get? b=a5 o->b≠T:=λb o e z=>by rw[z]at e;show absurd (k9 (hY e) i) (wh _)
 have d:∀b u,H b=a5 u->b≠T:=λb u e z=>by rw[z,l]at e;cases e
 show I.step (g':=s.gens) (d':=s.drawn) (ch:=ch) (λb g=>?_) (λb o _ _ f e _=>k b o f e) (λb o _ _ f e _=>⟨o.slots,k b o f e⟩) (λb o _ e n=>by rw[ai (p b o e)];show n)
  (λb o f e=>⟨o,k b o f e⟩) (λb _ e=>by rw[ai (d b _ e)];show e) (λb _ _ e=>by rw[ai (d b _ e)];show e) (λb ps e=>⟨#[],by rw[ai (d b _ e),e];simp⟩) (λm t=>?_) (λb u e=>?_) I.bare
 .have⟨C,x,D,y,A,B⟩:=h b g;show⟨y,x,A,B⟩
 .have⟨o,es,ep,ho,r⟩:=t;show⟨o,es,ep,k _ o (λz=>(h _ z).2.1 rfl) ho,r⟩
 .by_cases g:b=T
  .subst g;rw[aq]at e;cases e;show new
  .rw[ai g]at e;show(j.Dw b u e).la (λc v _ q=>q) (λc q=>by rw[ai (d c _ q)];show q) λc xs q=>by rw[ai (d c _ q)];show q
end
abbrev IE(a:Hp->List V->Prop):It :=
 ⟨λi H=>∃xs x,a H xs/\xs[i]?=a5 x,λi H x H'=>∃p,H p=b6/\x=.ref p/\∀xs v,a H xs->xs[i]?=a5 v->H'=upd H p (.tup [.int i,v]),λi H=>∃xs,a H xs/\xs.length<=i⟩
def kC{K:PySem.W.Frag}(r:Hp->List V->Prop)(a e it:hQ)(O:e≠it)(At:Nat->Hb->Prop)(t:Hb->Array eH->Prop)
  (EE:∀i h h',At i h->(∀o,h.get? it=a5 o->h'.get? it=a5 o)->At i h') (N2:∀i h,At i h->∃o,h.get? it=a5 o/\∀v,o.data≠.cell v)
  (KA:∀(X:Cx) (d:List (hQ×Obj)) (s:hH) (σ:St) (H:Hp) (xs:List V),X.K=K->Inv X d σ H s->r H xs->∃l:List eH,Vals xs l/\t s.heap l.toArray)
  (Mj:∀(X:Cx) (d:List (hQ×Obj)) (s:hH) (σ:St) (H:Hp) (xs B:List V),X.K=K->Inv X d σ H s->r H xs->r H B->xs=B)
  (Qu:∀h c i f,t h c->UT h e it i f->e≠a)
  (hD:∀(A:Ke) (c:Array eH),A.handled=b6->Draws P w A it [it,a] c.size (λi v=>c[i]?=a5 v) (λi h=>At i h/\t h c))
  (GZ:∀(A:Ke) (s:hH) (i:Nat) (c:Array eH) (Q:eH->hH->Prop) (E:eH->hH->Prop),A.handled=b6->At i s.heap->t s.heap c->c[i]?=b6 ->
   (∀h' x,V4 it s.heap h'->(∃o,h'.get? x=a5 o/\o.cls=.type "StopIteration")->E (.ref x) {s with heap:=h' })->fx (ke P w) A (Gz (.ref it)) Q E s) :
  Turn P w K (.Tuple es kx ps) (IE r) [e,it] e (λi h=>(∃f,UT h e it i f)/\At i h) where
 mem:=by simp
 obj:=λi h st b g=>by
  obtain⟨⟨f,j⟩,hl⟩:=st;rcases ka.mp g with z|z
  .rw[z];show⟨_,j,λv z=>by
    have z':V5 _=U7 v:=z;cases z'⟩
  .rw[ti.mp z];show N2 i h hl
 keep:=λi h h' ⟨⟨f,j⟩,hl⟩ k=>⟨⟨f,k e (by simp) _ j⟩,EE i h h' hl λo q=>k it (by simp) o q⟩
 item:=by
  intro X Y hw C hc i d s σ H E I G ⟨⟨f,j⟩,hl⟩ hg;subst Y hw;have⟨xs,x,J,hx⟩:=hg;have⟨l,rv,p⟩:=KA X d s σ H xs C I J;have⟨u,hu,ru⟩:=rv.get hx;have DX:i<l.toArray.size:=by simpa using(gi.mp hu).1
  have D:=hD X.A.in1 l.toArray (by simpa using I.ok.hd hc);have Mk:=Qu _ _ _ _ p j;show wpAny_pyNext_enum_itemD D j ⟨hl,p⟩ DX O (by simp[O,Mk]) λy h1 m L ho st1 N hsz hk=>?_;have ey:y=u:=by
   have:l.toArray[i]?=a5 u:=by simpa using hu
   rw[this]at L;cases L;rfl
  subst ey;show⟨_,rfl,wpAny_letOwnedTupleGo_enum (s:={s with heap:=h1,toks:=m+1}) ho λn Qv FJ=>?_⟩;have N3:e<s.heap.objs.size:=hY j;have Qw:n.get? s.heap.objs.size=a5 {cls:=.type "tuple",data:=.seq #[.int i m,y]}:=(FJ.2 _ (Hd N3)).trans N;have k2:∀b o,b∉[e,it]->s.heap.get? b=a5 o->n.get? b=a5 o:=λb o g q=>by
   simp only[ka,Mh,or_false,not_or]at g;show(FJ.2 b g.1).trans (hk b o g.1 g.2 q)
  have I2:Inv X d σ (upd H s.heap.objs.size (.tup [.int i,x])) {s with heap:=n,toks:=m+1}:=I.oX G k2 (gs _)
   (show bz X.prog X.w _ n _ (.tup [.int i,x]) from⟨by change 2<=dV;decide,[.int i m,y],.cons ⟨m,rfl⟩ (.cons ru .nil),⟨_,Qw,rfl,_,rfl⟩⟩)
  show⟨.ref s.heap.objs.size,_,I2,rfl,⟨_,I.Dw.fresh (gs _),rfl,λB v L hv=>?_⟩,⟨⟨_,Qv⟩,EE (i+1) h1 n st1.1 λo q=>(FJ.2 it (z8 O)).trans q⟩,λb g=>?_⟩
  .have:=Mj X d s σ H B xs C I L J;subst this;rw[hx]at hv;cases hv;rfl
  .have GG:b≠s.heap.objs.size:=by
    rcases ka.mp g with z|z
    .rw[z];show k7 N3
    .rw[ti.mp z];obtain⟨o,q,_⟩:=N2 i _ hl;show k7 (hY q)
   rw[ai GG];show(G b g).1
 done:=by
  intro X Y hw C hc i d s σ H E I G ⟨⟨f,j⟩,hl⟩ hg;subst Y hw;have⟨xs,J,hx⟩:=hg;have⟨l,rv,p⟩:=KA X d s σ H xs C I J;have ac:=rv.length;have N:s.TypeIs (.ref e) "enumerate":=⟨_,j,rfl⟩
  unfold Pn;show bD (wpAny_attempt (FH (name:=Ky "__next__") N PySem.F.slot_enumerate_next
   (w6 PySem.F.slot_enumerate_next N PySem.F.entry_enumerate_next ?_ (PySem.F.args_enumerate_next_1 _))))
  change fx _ _ (Ws (.ref e) 2 >>= _) _ _ _;show bD (ID j rfl (x:=.ref it) rfl ?_);show bD (GZ _ _ i l.toArray _ _ (by simpa using I.ok.hd hc) hl p (by simp;lia) λh' x LY LW=>?_);have⟨o,ho,GF⟩:=LW;show bD (K9 (T:="StopIteration") (b:=b5) ⟨o,ho,GF⟩ Wr ?_);show cb ⟨rfl,I.qz (t':=s.toks) (ch:=[it]) (λb g=>G b (mA _ g)) λb o g q=>LY b o (λz=>g (by simp[z])) q⟩
 self:=λA i s Q E ⟨⟨f,j⟩,hl⟩ h=>S3 j h
section
variable{X:Cx}{es:List pk}{kx:Nat}{ps p pos:Pos}
def rY:IU "enumerate"=a5 (.type "enumerate"):=by decide +kernel
abbrev Dd(K:PySem.W.Frag)(c:TA):TI:=λσ H R=>c σ H λvs b=>∃a,vs=[.ref a]/\((∃xs,D3 K b a xs)/\R (IE λH xs=>D3 K H a xs) b\/(∃xs,DU K b a xs)/\R (IE λH xs=>DU K H a xs) b)
def zG(a e it:hQ)(n:e≠it)(q:a≠it):Turn X.prog X.w X.K (.Tuple es kx ps) (IE λH xs=>D3 X.K H a xs) [e,it] e (λi h=>(∃c,UT h e it i c)/\h.IsListIter it a i):=by
 show kC _ a e it n (λi h=>h.IsListIter it a i) (λh b=>h.IsList a b) (λi h h' x k=>x.at k) (λi h ⟨o,ho,j,r⟩=>⟨o,ho,λv z=>by rw[r]at z;cases z⟩)
  (λY d s σ H xs g I l=>?_) (λY d s σ H xs D g I f m=>?_) (λh b i c ⟨o,ho,j,_⟩ t z=>?_) (λA b hh=>Draws.list hh it a q b) (λA s i b Q E hh hl u f y=>wpAny_nextOf_list_end hh hl u f y)
 .rw[<-g]at l;have⟨B,rv,p,hz⟩:=I.list l;show⟨B,rv,p.isList⟩
 .rw[<-g]at f m;show I.mO f m
 .rw[<-z,t]at ho;cases ho;have C:GC "enumerate"=GC "list":=j;show absurd C (by decide)
def zH(a e it:hQ)(n:e≠it)(q:a≠it):Turn X.prog X.w X.K (.Tuple es kx ps) (IE λH xs=>DU X.K H a xs) [e,it] e (λi h=>(∃c,UT h e it i c)/\h.IsTupleIter it a i):=by
 show kC _ a e it n (λi h=>h.IsTupleIter it a i) (λh b=>h.IsTuple a b) (λi h h' x k=>x.at k) (λi h ⟨o,ho,j,r⟩=>⟨o,ho,λv z=>by rw[r]at z;cases z⟩)
  (λY d s σ H xs g I l=>?_) (λY d s σ H xs D g I f m=>?_) (λh b i c ⟨o,ho,j,_⟩ t z=>?_) (λA b hh=>nj hh it a q b) (λA s i b Q E hh hl u f y=>dm hh hl u f y)
 .rw[<-g]at l;have⟨B,rv,p,hz⟩:=I.tuple l;show⟨B,rv,p⟩
 .rw[<-g]at f m;show I.j_ f m
 .rw[<-z,t]at ho;cases ho;have C:GC "enumerate"=GC "tuple":=j;show absurd C (by decide)
def wN(n:Gl X "enumerate")(t:X.mg "enumerate"=b6)(v:PA X [a] w)(hs:mu [a] X.env=[(df,F' a X.env)]):PI X (.Tuple es kx ps) (.Call (.Name "enumerate" p) [a] [] pos) (Dd X.K w):=by
 intro c s σ H R I h;show Call_ (fm I n t rY (Jd (Dx (v pos c s σ H _ I h) λus s1 ⟨vs,j,d,x,y⟩=>?_) hs rfl));have⟨a',e,q⟩:=y;subst e;have⟨u,rfl,r⟩:=vals1 x;cases r;have f:s1.heap.objs.size+1≠s1.heap.objs.size:=Nat.succ_ne_self _;have g:∀(h':Hb),(∀b∈[s1.heap.objs.size+1,s1.heap.objs.size],fG X c j b):=λh' b A=>by
  have m:s1.heap.objs.size<=b:=by
   rcases ka.mp A with z|z
   .rw[z];show ME _
   .rw[ti.mp z];show gs _
  show d.we m (d.Dw.fresh m)
 rcases q with⟨⟨xs,k⟩,q⟩|⟨⟨xs,k⟩,q⟩
 .have⟨B,rv,p,hz⟩:=d.list k;have l:a'<s1.heap.objs.size:=let ⟨o,ho,_⟩:=p.isList;hY ho;show call_enumerate_list p.isList λh' i hl hsz hk=>?_;show S3 i ⟨_,[s1.heap.objs.size+1,s1.heap.objs.size],_,_,j,rfl,d.kept (t':=s1.toks) hk,zG a' _ _ f (k7 l),⟨⟨_,i⟩,hl⟩,g h',q⟩
 .have⟨B,rv,p,hz⟩:=d.tuple k;have l:a'<s1.heap.objs.size:=let ⟨o,ho,_⟩:=p;hY ho;show eu p λh' i hl hsz hk=>?_;show S3 i ⟨_,[s1.heap.objs.size+1,s1.heap.objs.size],_,_,j,rfl,d.kept (t':=s1.toks) hk,zH a' _ _ f (k7 l),⟨⟨_,i⟩,hl⟩,g h',q⟩
end
def rZ(l:hQ)(a:Array eH)(n:Nat)(b:hQ)(c:Array eH)(e:Nat)(dd:Option hQ)(f:Array (Option eH))(o:¬(!a.isEmpty&&HC (a.size+c.size))=b5)(i:a.size<=dV)(j:a.size+c.size<=dV+1):
  Meets (LB.«list.extend» ⟨[.ref l,.ref b],[]⟩) (λ_ R s=>s.heap.get? l=a5 {cls:=.type "list",dict:=b6,data:=.seq a n,slots:=#[]}/\s.heap.get? b=a5 {cls:=.type "list",dict:=dd,data:=.seq c e,slots:=f}/\R (.ok (.ret oa)) {s with heap:=s.heap.update l (tA λx=>x++c),toks:=s.toks}) :=
 .of_wp λprog w A R s h=>by
  have⟨p,g,d,q,os⟩:=s;have⟨hl,k,h⟩:=h;have r:=Uc;have t:=SR;have u:=Tj;have v:=Td;have y:=Te;
  have m:(a++c).size<=dV+1:=by rw[Ru];show j
  wp_walk using(PY hl rfl (hz:=i) (_hz':=m)),Kk hl,Kk k;show⟨_,rfl,h⟩
def r6(l:hQ)(a:Array eH)(n:Nat)(b:hQ)(c:Array eH)(e:Nat)(dd:Option hQ)(f:Array (Option eH))(o:¬(!a.isEmpty&&HC (a.size+c.size))=b5)(i:a.size<=dV)(j:a.size+c.size<=dV+1):
  Meets (LB.«list.extend» ⟨[.ref l,.ref b],[]⟩) (λ_ R s=>s.heap.get? l=a5 {cls:=.type "list",dict:=b6,data:=.seq a n,slots:=#[]}/\s.heap.get? b=a5 {cls:=.type "tuple",dict:=dd,data:=.seq c e,slots:=f}/\R (.ok (.ret oa)) {s with heap:=s.heap.update l (tA λx=>x++c),toks:=s.toks}) :=
 .of_wp λprog w A R s h=>by
  have⟨p,g,d,q,os⟩:=s;have⟨hl,k,h⟩:=h;have r:=Uc;have t:=SR;have u:=Tj;have v:=Td;have y:=Te;
  have m:(a++c).size<=dV+1:=by rw[Ru];show j
  wp_walk using(PY hl rfl (hz:=i) (_hz':=m)),Kk hl,Kk k;show⟨_,rfl,h⟩
section
def oY:NI X "list.extend" (λx vs H Q=>∃l b xs c,x=.ref l/\vs=[.ref b]/\H l=a5 (.lst xs)/\(D3 X.K H b c\/DU X.K H b c)/\xs.length+c.length<=dV/\Q .DB (upd H l (.lst (xs++c)))):=by
 intro g s σ H x vs v us Q I A rv h;have⟨l,b,xs,c,rfl,rfl,w,hB,hz,q⟩:=h;cases A;have⟨u,rfl,B⟩:=rv.one;cases B;have⟨z,f,n,r,hl,e⟩:=I.Bv w;have i:∀a:List eH,Vals c a->EP X g σ Q oa {s with heap:=s.heap.update l (tA λx=>x++a.toArray),toks:=s.toks}:=λa d=>by
  show⟨.DB,_,I.mS (its':=f++a) w e (by simp) (r.append d) ?_,rfl,q⟩;rw[i5];lia
 have m:∀a:List eH,c.length=a.length->f.toArray.size+a.toArray.size<=dV:=λa h=>by rw[hW,hW];lia
 have y:∀a:List eH,c.length=a.length->¬(!f.toArray.isEmpty&&HC (f.toArray.size+a.toArray.size))=b5:=λa h=>by
  rw[tS (m a h),Tq];show mh
 rcases hB with hB|hB
 .obtain⟨a,d,o,_⟩:=I.list hB;obtain⟨⟨cls,dd,data,p⟩,ho,j,t,k⟩:=o.isList;simp only at j k;subst j k;have Fj:=d.length;have C:=m a Fj;show Pr Vi ⟨_,e,rfl⟩ U6 (UU _ _) (rZ l f.toArray n b a.toArray t dd p (y a Fj) ⋯ ⋯) ⟨e,ho,i a d⟩
 .obtain⟨a,d,o,_⟩:=I.tuple hB;obtain⟨⟨cls,dd,data,p⟩,ho,j,t,k⟩:=o;simp only at j k;subst j k;have Fj:=d.length;have C:=m a Fj;show Pr Vi ⟨_,e,rfl⟩ U6 (UU _ _) (r6 l f.toArray n b a.toArray t dd p (y a Fj) ⋯ ⋯) ⟨e,ho,i a d⟩
end
end L2
namespace L2
open PySem PySem.W PyProof.Rows
abbrev aC{α:Type}(lt:Nat->Nat->Bool):Wz α->α
 |.ret x=>x
 |.ask i j k=>aC lt (k (lt i j))
def Em{α:Type}(n:Nat)(P:α->Prop):Wz α->Prop
 |.ret x=>P x
 |.ask i j k=>i<n/\j<n/\∀b,Em n P (k b)
theorem Em.IG{P:α->Prop}{Q:β->Prop}{f:α->Wz β}(a:∀x,P x->Em n Q (f x)):∀{t:Wz α},Em n P t->Em n Q (t.bind f)
 |.ret x,h=>a x h
 |.ask i j k,h=>⟨h.1,h.2.1,λb=>Em.IG a (h.2.2 b)⟩
theorem Em.got:∀{t:Wz α},Em n P t->P (aC lt t)
 |.ret _,h=>h
 |.ask i j k,h=>Em.got (t:=k (lt i j)) (h.2.2 _)
theorem Em.wp(b:∀i j,i<n->j<n->∀C:Bool->hH->Prop,C (lt i j) s->a i j C s):
  ∀{t:Wz α},Em n P t->Q (aC lt t) s->t.kasWp a Q s
 |.ret _,_,q=>q
 |.ask i j k,h,q=>b i j h.1 h.2.1 _ (Em.wp b (t:=k (lt i j)) (h.2.2 _) q)
abbrev Pm(n:Nat)(p:Array Nat):Prop:=p.toList.Perm (hE n)
section
variable{n:Nat}(hn:0<n)
include hn
def Pm.at(h:Pm n p)(i:Nat):p.getD i 0<n:=by
 by_cases a:i<p.size
 .have:p.getD i 0=p[i]:=by simp[Ql,a]
  rw[this];have b:p[i]∈p.toList:=by simp
  show DS.mp (h.mem_iff.mp b)
 .have:p.getD i 0=0:=by simp[Ql,a]
  rw[this];show hn
omit hn in
def Pm.rev(h:Pm n p)(i j:Nat):Pm n (NK p i j):=(mirror_perm p i j _).toList.trans h
omit hn in
def Pm.N4(h:Pm n p)(i j:Nat):Pm n (bubble p i j):=(bubble_perm p i j).toList.trans h
theorem oZ(h:Pm n p):∀(f m:Nat),Em n (λ_=>True) (Nb p f m)
 |0,m=>trivial
 |f+1,m=>⟨h.at hn _,h.at hn _,λb=>by
  cases b
  .show oZ h f (m+1)
  .show trivial⟩
theorem iw:∀(f:Nat) (p:Array Nat) (m q:Nat),Pm n p->Em n (λr=>Pm n r.1) (QK f p m q)
 |0,p,m,q,h=>h
 |f+1,p,m,q,h=>⟨h.at hn _,h.at hn _,λb=>by
  cases b
  .show⟨h.at hn _,h.at hn _,λb=>by
    cases b
    .show iw f p (m+1) (q+1) h
    .show h⟩
  .change Em n _ (if q>0 then _ else _);split
   .show iw f _ _ _ (h.rev _ _)
   .show iw f _ _ _ h⟩
def qA(h:Pm n p)(m r:Nat):Em n (λx=>Pm n x.2) (N5 m r p):=by
 unfold N5;show Em.IG (λx _=>?_) (oZ hn (h.rev _ _) _ _);show h.rev _ _
def qB(h:Pm n p)(m r:Nat):Em n (λx=>Pm n x.2) (La m r p):=by
 unfold La;show Em.IG (λx a=>?_) (iw hn _ _ _ _ h);split
 .show qA hn (a.rev _ _) _ _
 .show qA hn a _ _
def uf(h:Pm n p)(r:Nat):Em n (λx=>Pm n x.2) (MR r p):=by
 unfold MR;show Em.IG (λm _=>?_) (oZ hn h _ _);split
 .show h
 .split
  .show⟨h.at hn _,h.at hn _,λb=>by
    cases b
    .show qB hn (h.rev _ _) _ _
    .show h⟩
  .show qB hn h _ _
theorem iZ(h:Pm n p)(k:Nat):∀(f l r:Nat),Em n (λ_=>True) (LU p k f l r)
 |0,l,r=>trivial
 |f+1,l,r=>by
  unfold LU;split
  .show trivial
  .show⟨h.at hn _,h.at hn _,λb=>by
    cases b
    .show iZ h k f _ _
    .show iZ h k f _ _⟩
theorem ug:∀(f:Nat) (p:Array Nat) (k:Nat),Pm n p->Em n (Pm n) (kas_bin f p k)
 |0,p,k,h=>h
 |f+1,p,k,h=>Em.IG (λl _=>ug f _ _ (h.N4 _ _)) (iZ hn h _ _ _ _)
def qC:Em n (Pm n) (Ho n):=by
 unfold Ho;show Em.IG (λx a=>?_) (uf hn (p:=T1 (hE n)) (by unfold Pm;simp) n);split
 .show ug hn _ _ _ a
 .show a
end
def i_(lt:Nat->Nat->Bool)(n:Nat):(aC lt (Ho n)).toList.Perm (hE n):=by
 cases n with
 |zero=>show List.Perm.refl _
 |succ n=>show(qC (Nat.succ_pos n)).got
section
def r9(ho:s.heap.get? a=a5 (ES "list" vs.toArray n))(l:vs.length<64)
  (m:2<=vs.length->∀s1:hH,(∀b o,b≠a->s.heap.get? b=a5 o->s1.heap.get? b=a5 o)->fx (ke prog w) A (keyKind' vs.toArray) (λκ s'=>s'=s1/\∀i j,i<vs.length->j<vs.length->∀C:Bool->hH->Prop,C (lt i j) s1->VV prog w A κ vs i j C s1) (λ_ _=>False) s1)
  (h:P (.done (.ret .none)) {s with heap:=VI s.heap a vs (((aC lt (Ho vs.length)).toList.map λi=>vs.getD i oa).toArray)}) :
  fx (ke prog w) A (LB.«list.sort» ⟨[.ref a],[]⟩) P E s:=by
 have N:a<s.heap.objs.size:=hY ho;have u:(64:Nat)<=dV:=by decide
 rw[list_sort_plain];show bD (UY ho rfl (bD (Sq ho rfl ?_ (by rw[hW];lia) (mx _))));obtain⟨k,q⟩:∃k,(s.heap.update a (tA λ_=>(#[]:Array eH))).get? a=a5 (ES "list" #[] k):=⟨_,Wf ho λ_=>#[]⟩
 show bD (Vo q rfl (bD (wpAny_newTuple (bD (Um (DD ?_) (mx _))) (by change vs.length<=_;lia))));have d:(((s.heap.update a (tA λ_=>(#[]:Array eH))).push (ES "tuple" vs.toArray 0)).push (ES "list" #[] 0)).get? a=a5 (ES "list" #[] k):=et _ (et _ q);have f:∀b o,b≠a->s.heap.get? b=a5 o->(((s.heap.update a (tA λ_=>(#[]:Array eH))).push (ES "tuple" vs.toArray 0)).push (ES "list" #[] 0)).get? b=a5 o:=λb o y e =>
  et _ (et _ (by rw[KX _ _ _ _ y];show e))
 change fx (ke prog w) A _ P E {s with heap:=((s.heap.update a (tA λ_=>(#[]:Array eH))).push (ES "tuple" vs.toArray 0)).push (ES "list" #[] 0)}
 dsimp only
 have r:((aC lt (Ho vs.length)).toList.map λi=>vs.getD i oa).length=vs.length:=by rw[dt,(i_ lt _).length_eq,LD]
 by_cases c:vs.toArray.size<2
 .rw[WJ c,WJ c];show bD (cb ?_);rw[StateT.run_pure];show bD (cb ?_);have z:((aC lt (Ho vs.length)).toList.map λi=>vs.getD i oa).toArray=(vs.toArray.zip vs.toArray).map (·.2):=by
   have g:=i_ lt vs.length;clear h m r f d ho l
   match vs,c,g with
   |[],_,g=>rw[show(aC lt (Ho ([]:List eH).length)).toList=[] from List.perm_nil.mp g];simp
   |[v],_,g=>rw[show(aC lt (Ho [v].length)).toList=[0] from List.perm_singleton.mp g];simp
   |_::_::_,c,_=>simp at c;lia
  rw[z]at h
  dsimp only
  show bD (Vo d rfl (bD (Sq d rfl ?_ (mx _) (by rw[Array.size_map];change(pairsOf vs).size<=_;rw[pairsOf_size];lia))));simp only[bne_self_eq_false,tj,WQ];show cb h
 .rw[WK c,WK c];have t:2<=vs.length:=by rw[hW]at c;lia
  show bD (wk (m t _ f) (λκ O hk=>?_) λ_ _ x=>x.elim);have⟨rfl,hk⟩:=hk;show bD (wk (kat_run (κ:=κ) (ks:=vs) (vs:=vs) (G:=λp s'=>p=aC lt (Ho vs.length)/\s'={s with heap:=((s.heap.update a (tA λ_=>(#[]:Array eH))).push (ES "tuple" vs.toArray 0)).push (ES "list" #[] 0)})
   (Q:=λst' s'=>∃p:Array Nat,arrOf st'=p.map (kas_item (vs.toArray.zip vs.toArray))/\failedOf st'=b6/\p=aC lt (Ho vs.length)/\s'={s with heap:=((s.heap.update a (tA λ_=>(#[]:Array eH))).push (ES "tuple" vs.toArray 0)).push (ES "list" #[] 0)})
   rfl t l (λp st' s' T B D H=>⟨p,B,D,H⟩) (Em.wp hk (qC ⋯) ⟨rfl,rfl⟩)) ?_ λ_ _ e=>e)
  rintro⟨⟨⟩,st'⟩ s' ⟨p,I,J,rfl,rfl⟩
  dsimp only
  have L:=kat_snds rfl I;rw[L,J];show bD (Vo d rfl (bD (Sq d rfl ?_ (mx _) (by rw[hW,r];lia))));simp only[bne_self_eq_false,tj,WQ];show cb h
end
@[reducible]def wO:=Str×Int
abbrev Fz(ks:List Str)(i j:Nat):Bool:=ez ((ks.getD i td).cps.toList<(ks.getD j td).cps.toList)
abbrev dn(ks:List Str):List Nat:=(aC (Fz ks) (Ho ks.length)).toList
def dq(ks:List Str):(dn ks).Perm (hE ks.length):=i_ _ _
abbrev BA(x:Str)(n:Int)(t u:Tok):Obj:={cls:=.type "tuple",data:=.seq #[.str x t,.int n u]}
abbrev dX(h:Hb)(as:List hQ)(ps:List wO):Prop:=as.length=ps.length/\∀(j:Nat) (a:hQ),as[j]?=a5 a->∃p t u,ps[j]?=a5 p/\h.get? a=a5 (BA p.1 p.2 t u)
def dX.keeps(x:dX h as ps)(k:∀b o,b∈as->h.get? b=a5 o->h'.get? b=a5 o):dX h' as ps :=
 ⟨x.1,λj a e=>let ⟨p,t,u,c,d⟩:=x.2 j a e;⟨p,t,u,c,k a _ (nC e) d⟩⟩
def dX.tail(x:dX h (a::as) (p::ps)):dX h as ps :=
 ⟨by have:=x.1;simpa using this,λj b e=>by
  have⟨q,t,u,c,d⟩:=x.2 (j+1) b (by simpa using e);show⟨q,t,u,by simpa using c,d⟩⟩
theorem dX.ig:∀{as:List hQ}{ps:List wO},dX h as ps->∃b:List eH,KatTups h (as.map lg) b/\b.length=as.length/\∀v∈b,∃x t,v=DE x t
 |[],_,_=>⟨[],KatTups.nil,rfl,by simp⟩
 |a::as,[],x=>by have:=x.1;simp at this
 |a::as,p::ps,x=>by
  have⟨b,c,d,e⟩:=dX.ig x.tail;have⟨q,t,u,g,f⟩:=x.2 0 a rfl;show⟨.str q.1 t::b,KatTups.cons f rfl rfl rfl c,by simp[d],λv hv=>?_⟩;rcases ka.mp hv with rfl|hv
  .show⟨_,_,rfl⟩
  .show e v hv
theorem kD:∀{l:List α}{m:List β}{i:Nat}{x:α},Paired F l m->l[i]?=a5 x->∃y,m[i]?=a5 y/\F x y
 |_,_,_,_,.nil,e=>by simp at e
 |_,_,0,_,.cons r _,e=>by simp at e;subst e;show⟨_,rfl,r⟩
 |_,_,i+1,x,.cons _ t,e=>by
  have⟨u,a,b⟩:=kD (i:=i) (x:=x) t (by simpa using e);show⟨u,by simpa using a,b⟩
section
def zI(x:dX s.heap as ps)(g:(ps.map (·.1)).Nodup)(e:i<as.length)(f:j<as.length)(q:C (Fz (ps.map (·.1)) i j) s):
  VV prog w A (tuples' b5) (as.map lg) i j C s:=by
 have⟨p,t,u,d,k⟩:=x.2 i as[i] (by simp[e]);have⟨a,t',u',c,l⟩:=x.2 j as[j] (by simp[f]);have hl:=x.1;have m:i<ps.length:=by lia
 have n:j<ps.length:=by lia
 have o:(as.map lg).getD i oa=.ref as[i]:=by simp[Ml,e]
 have r:(as.map lg).getD j oa=.ref as[j]:=by simp[Ml,f]
 have v:(ps.map (·.1)).getD i td=p.1:=by simp[Ml,d]
 have y:(ps.map (·.1)).getD j td=a.1:=by simp[Ml,c]
 unfold VV;rw[o,r];show kat_lt (b:=b5) k rfl l rfl ?_;unfold Fz at q;rw[v,y]at q;change KatLex prog w A b5 (ez (2<2)) C [(.str p.1 t,.str a.1 t'),(.int p.2 u,.int a.2 u')] 0 s;show kat_cons (V0 ?_);by_cases h:p.1=a.1
 .have z:i=j:=by
   have B:(ps.map (·.1))[i]'(by simpa using m)=(ps.map (·.1))[j]'(by simpa using n):=by
    obtain⟨_,D⟩:=gi.mp d;obtain⟨_,G⟩:=gi.mp c;simp[D,G,h]
   show(Vb g).mp B
  subst z;rw[d]at c;cases c;rw[WM rfl];show kat_yes (kat_cons (V1 ?_));rw[show(p.2==p.2)=b5 by simp];show kat_yes (kat_nil ?_);have:ez (p.1.cps.toList<p.1.cps.toList)=df:=WL (List.lt_irrefl _);rw[this]at q;show q
 .rw[WL h];show kat_no (oneLt_str q)
def zJ(x:dX s.heap as ps)(c:(ps.map (·.1)).Nodup)(g:2<=as.length):
  fx (ke prog w) A (keyKind' (as.map lg).toArray) (λκ s'=>s'=s/\∀i j,i<(as.map lg).length->j<(as.map lg).length->∀C:Bool->hH->Prop,C (Fz (ps.map (·.1)) i j) s->VV prog w A κ (as.map lg) i j C s) (λ_ _=>False) s:=by
 have⟨h,d,k,e⟩:=x.ig;show kat_kind (T:=.type "str") d ⋯ (λv f=>?_) rfl ⟨rfl,λi j a b C q=>?_⟩
 .have⟨y,t,rfl⟩:=e v f;show Looks.of_pure rfl
 .rw[dt]at a b;show zI x c a b q
end
abbrev ij(H:Hp):List (hQ×List V)->Hp
 |[]=>H
 |(a,vs)::r=>upd (ij H r) a (.tup vs)
theorem ja:∀{l:List (hQ×List V)}{b:hQ}{o:HO},ij H l b=a5 o->(∃vs,(b,vs)∈l/\o=.tup vs)\/H b=a5 o
 |[],b,o,h=>.inr h
 |(a,vs)::r,b,o,h=>by
  by_cases c:b=a
  .subst c;rw[ij,aq]at h;cases h;show .inl ⟨vs,by simp,rfl⟩
  .rw[ij,ai c]at h;rcases ja h with⟨ws,d,e⟩|q
   .show .inl ⟨ws,by simp[d],e⟩
   .show .inr q
theorem jb:∀{l:List (hQ×List V)}{b:hQ},(∀p∈l,p.1≠b)->ij H l b=H b
 |[],b,_=>rfl
 |(a,vs)::r,b,h=>by
  rw[ij,ai (z8 (h _ l'))];show jb λp c=>h p (by simp[c])
theorem qD:∀{l:List (hQ×List V)}{b:hQ}{vs:List V},(l.map (·.1)).Nodup->(b,vs)∈l->ij H l b=a5 (.tup vs)
 |(a,ws)::r,b,vs,d,h=>by
  have c:a∉r.map (·.1)/\(r.map (·.1)).Nodup:=by simpa using d
  rcases ka.mp h with h|h
  .cases h;show aq
  .have:b≠a:=λz=>c.1 (by rw[<-z];show ki.mpr ⟨_,h,rfl⟩);rw[ij,ai this];show qD c.2 h
section
def Inv.many(I:Inv X a σ H s)(k:∀b u,s.heap.get? b=a5 u->h'.get? b=a5 u)(d:∀b o,H b=a5 o->H' b=a5 o)
  (f:∀b o,H' b=a5 o->H b=a5 o\/(s.heap.objs.size<=b/\bz X.prog X.w H' h' b o)):Inv X a σ H' {s with heap:=h',toks:=t' }:=by
 show I.un ⟨λb u q _ _ _=>k b u q,λb u q _ _ _=>⟨u.slots,k b u q⟩,λb u q n _=>?_,λb u q _=>⟨u,k b u q⟩,λb xs q=>d b _ q,λb u xs q=>d b _ q,λb ps q=>⟨#[],by rw[d b _ q];simp⟩⟩ λb o e=>?_
 .cases e:H' b with
  |none=>rfl
  |some o =>
   rcases f b o e with z|⟨z,_⟩
   .rw[n]at z;cases z
   .show absurd (k9 (hY q) z) (wh _)
 .rcases f b o e with z|⟨_,z⟩
  .show(I.Dw b o z).la (λc v _ q=>k c v q) (λc q=>d c _ q) λc xs q=>d c _ q
  .show z
abbrev GJ(p:wO):List V:=[.str p.1,.int p.2]
def lQ{ps:List wO}(hc:X.calm=b5)(I:Inv X g σ H s)(e:H d=a5 (.dK (ps.map λp=>((ri p.1:Key),V.int p.2))))(DN:(ps.map (·.1)).Nodup)(FR:ps.length<64)
  (q:∀(as:List hQ) (L:hQ),as.length=ps.length->as.Nodup->(∀a∈L::as,H a=b6)->L∉as->Q (.ref L) (upd (ij H (as.zip (ps.map GJ))) L (.lst ((dn (ps.map (·.1))).map λi=>V.ref (as.getD i 0))))) :
  fx (ke X.prog X.w) X.A (MD (.builtin "dict.items") [.ref d]) (λv s1=>fx (ke X.prog X.w) X.A (MD (.builtin "sorted") [v]) (EP X g σ Q) X.xe s1) X.xe s:=by
 have ac:(64:Nat)<=dV:=by decide
 have⟨hz,lo,vs,kv,dd⟩:=tW I.Dw e;have C:vs.length=ps.length:=by
  have:=Paired.length kv;simpa using this.symm
 have⟨o,es,ep,r⟩:=id dd;show UO PySem.F.slot_dict_items (show s.TypeIs (.ref d) "dict" from⟨o,r.1,r.2.1.1⟩) PySem.F.entry_dict_items (PySem.F.args_dict_items_1 _) (meets_dict_items (aI X.prog X.w) d lo) ⟨⟨vs,dd⟩,?_⟩;change fx (ke X.prog X.w) X.A (MD (.builtin "sorted") [.ref s.heap.objs.size]) (EP X g σ Q) X.xe {s with heap:=s.heap.push {cls:=.type "dict_items",data:=.fields #[.ref d]}};have k1:∀b u,s.heap.get? b=a5 u->(s.heap.push {cls:=.type "dict_items",data:=.fields #[.ref d]}).get? b=a5 u:=λb u z=>et _ z;have Sh:(s.heap.push {cls:=.type "dict_items",data:=.fields #[.ref d]}).DictOf (aI X.prog X.w) d vs:=⟨o,es,ep,k1 _ _ r.1,r.2⟩
 have EE:(s.heap.push {cls:=.type "dict_items",data:=.fields #[.ref d]}).DictAt (aI X.prog X.w) d vs ep:=⟨o,es,k1 _ _ r.1,r.2⟩
 show Th kind_sorted plain_sorted entry_sorted (args_sorted1 _) ?_;unfold LB.«sorted»;show bD (m:=checkCount "sorted" 1 1 _) (cb ?_);show bD (kdx_collect (A:=X.A.in1) (knd:=aI X.prog X.w) (kvs:=vs) (ep:=ep) (I.ok.hd hc) ⟨_,hA _ rfl,rfl,rfl⟩ EE ⋯ λc tk as hk hl D=>?_);have G:as.length=ps.length:=hl.trans C;have f:∀a∈as,s.heap.objs.size<=a:=λa ha=>by
  have:=D.above a ha;have z:(s.heap.push {cls:=.type "dict_items",data:=.fields #[.ref d]}).objs.size=s.heap.objs.size+1:=JN ..;have N7:(s.heap.push {cls:=.type "dict_items",data:=.fields #[.ref d]}).objs.size<a:=this;lia
 have pa:dX c as ps:=⟨G,λj a ea=>by
  have⟨N,k,x,O,T,e3⟩:=D.pairs j a ea;have B:j<ps.length:=by rw[<-G];show(gi.mp ea).1
  have⟨y,ey,r1,r2⟩:=kD kv (i:=j) (x:=((ri ps[j].1:Key),V.int ps[j].2)) (by simp[B]);rw[O]at ey;cases ey;obtain⟨tx,rfl⟩:∃t,x=.int ps[j].2 t:=r2;have Qz:k=ri ps[j].1:=r1.symm;subst Qz;have⟨t,rfl⟩:=Ub (x:=ps[j].1) (v:=N) T;show⟨ps[j],t,tx,by simp[B],e3⟩⟩
 have nd:as.Nodup:=D.rise.imp λh=>k7 h;show bD (Um ?_ (by rw[dt];lia));have Y:(c.push (ES "list" (as.map lg).toArray 0)).get? c.objs.size=a5 (ES "list" (as.map lg).toArray 0):=hA _ rfl;change fx _ _ _ _ _ {s with heap:=c.push (ES "list" (as.map lg).toArray 0),toks:=tk};have N8:∀a∈as,a<c.objs.size:=λa ha=>D.there ha;show bD (DD (w6 WD ⟨_,Y,rfl⟩ Wg (r9 (lt:=Fz (ps.map (·.1))) Y (by rw[dt];lia) (λh2 s1 ks=>?_) ⟨_,rfl,?_⟩) (WG _)))
 .show zJ (pa.keeps λb o J z=>ks b o (k7 (N8 b J)) (et _ z)) DN (by rw[dt]at h2;show h2)
 .have⟨ee,he⟩:=sortedHeap_at (out:=((aC (Fz (ps.map (·.1))) (Ho (as.map lg).length)).toList.map λi=>(as.map lg).getD i oa).toArray) Y;have n:∀b o,c.get? b=a5 o->(VI (c.push (ES "list" (as.map lg).toArray 0)) c.objs.size (as.map lg) ((aC (Fz (ps.map (·.1))) (Ho (as.map lg).length)).toList.map λi=>(as.map lg).getD i oa).toArray).get? b=a5 o:=λb o z=>by
   have DX:b<c.objs.size:=hY z;rw[WC (k7 DX) (by rw[JN];show LP DX)];show et _ z
  have HL:s.heap.objs.size<=c.objs.size:=H8 (hY (hk _ _ (hA _ rfl)));have eP:((aC (Fz (ps.map (·.1))) (Ho (as.map lg).length)).toList)=dn (ps.map (·.1)):=by
   unfold dn;rw[dt,dt,G]
  have IH:H c.objs.size=b6:=I.Dw.fresh HL;have QA:c.objs.size∉as:=λz=>wh _ (N8 _ z);have N9:∀a∈as,H a=b6:=λa ha=>I.Dw.fresh (f a ha);have Mn:∀{b:hQ} {ws:List V},(b,ws)∈as.zip (ps.map GJ)->b∈as:=λz=>(MG z).1;show cb ⟨_,rfl,.ref c.objs.size,upd (ij H (as.zip (ps.map GJ))) c.objs.size (.lst ((dn (ps.map (·.1))).map λi=>V.ref (as.getD i 0))),?_,rfl,q as _ G nd (λa ha=>?_) QA⟩
  .show I.many (λb u z=>n b u (hk b u (k1 b u z))) (λb o z=>?_) λb o z=>?_
   .have n1:b≠c.objs.size:=λy=>by rw[y,IH]at z;cases z
    rw[ai n1,jb λp hp y=>?_]
    .show z
    .have:=N9 p.1 (Mn (b:=p.1) (ws:=p.2) hp);rw[y,z]at this;cases this
   .by_cases J:b=c.objs.size
    .subst J;rw[aq]at z;cases z;show .inr ⟨HL,by rw[dt,(dq _).length_eq,LD,dt];lia,(dn (ps.map (·.1))).map λi=>(as.map lg).getD i oa,ee,?_,?_⟩
     .have Es:∀i∈dn (ps.map (·.1)),i<as.length:=λi hi=>by
       have:=DS.mp ((dq _).mem_iff.mp hi);rw[dt]at this;lia
      generalize dn (ps.map (·.1))=l at Es;induction l with
      |nil=>show .nil
      |cons i l ih =>
       show .cons ?_ (ih λj B=>Es j (by simp[B]));have hi:=Es i (by simp);change RelV (.ref (as.getD i 0)) ((as.map lg).getD i oa);have:(as.map lg).getD i oa=.ref (as.getD i 0):=by simp[Ml,hi]
       rw[this];rfl
     .rw[<-eP];show he
    .rw[ai J]at z;rcases ja z with⟨ws,z1,rfl⟩|z1
     .have⟨j,B,ej⟩:=Uh.mp z1;have Mo:j<as.length:=by simp at B;lia
      have Mm:j<ps.length:=by lia
      have QB:as[j]=b/\GJ ps[j]=ws:=by simpa using ej
      have⟨rfl,rfl⟩:=QB;have⟨p,t,u,O,T⟩:=pa.2 j as[j] (by simp[Mo]);have:p=ps[j]:=by simpa[Mm] using O.symm
      subst this;show .inr ⟨f _ (by simp),by change 2<=dV;lia,[.str ps[j].1 t,.int ps[j].2 u],.cons ⟨t,rfl⟩ (.cons ⟨u,rfl⟩ .nil),_,n _ _ T,rfl,0,rfl⟩
     .show .inl z1
  .rcases ka.mp ha with rfl|ha
   .show IH
   .show N9 a ha
end
structure N_(n:Nat)(lt:Nat->Nat->Bool):Prop where
 tr:∀a b c,a<n->b<n->c<n->lt a b=b5->lt b c=b5->lt a c=b5
 Mp:∀a b,a<n->b<n->a≠b->lt a b=df->lt b a=b5
abbrev aT(p:Array Nat)(i:Nat):Nat:=p.getD i 0
def qE(h:p[i]?=q[j]?):aT p i=aT q j:=by
 unfold aT;rw[SX,SX,h]
abbrev FA(lt:Nat->Nat->Bool)(p:Array Nat)(m:Nat):Prop:=∀i j,i<j->j<m->lt (aT p i) (aT p j)=b5
abbrev Hm(lt:Nat->Nat->Bool)(p:Array Nat)(m:Nat):Prop:=∀i j,i<j->j<m->lt (aT p j) (aT p i)=b5
theorem eU:∀t:Wz α,aC lt (t.bind f)=aC lt (f (aC lt t))
 |.ret _=>rfl
 |.ask i j k=>eU (k (lt i j))
def Pm.size(h:Pm n p):p.size=n:=by
 have:=h.length_eq;simpa using this
def uh{l:List α}(a:l.Nodup)(b:i<l.length)(c:j<l.length)(e:l[i]=l[j]):i=j:=by
 rcases U8 i j with z|z|z
 .show absurd e (NB.mp a i j b c z)
 .show z
 .show absurd e.symm (NB.mp a j i c b z)
def Pm.ne(h:Pm n p)(a:i<n)(b:j<n)(c:i≠j):aT p i≠aT p j:=by
 have hs:=h.size;have d:p.toList.Nodup:=h.nodup_iff.mpr SF;have f:aT p i=p.toList[i]'(by simpa[hs] using a):=by unfold aT;simp[Ql,hs,a]
 have g:aT p j=p.toList[j]'(by simpa[hs] using b):=by unfold aT;simp[Ql,hs,b]
 rw[f,g];intro e;show c (uh d _ _ e)
section
variable{n:Nat}{lt:Nat->Nat->Bool}(ht:N_ n lt)(hn:0<n)
include ht hn
def FA.ext(h:Pm n p)(m1:1<=m)(a:FA lt p m)(hl:lt (aT p (m - 1)) (aT p m)=b5):FA lt p (m+1):=by
 intro i j b d;by_cases e:j=m
 .subst e;by_cases c:i=j - 1
  .subst c;show hl
  .show ht.tr _ (aT p (j - 1)) _ (h.at hn _) (h.at hn _) (h.at hn _) (a i (j - 1) ⋯ ⋯) hl
 .show a i j b ⋯
def Hm.ext(h:Pm n p)(m1:1<=m)(a:Hm lt p m)(hl:lt (aT p m) (aT p (m - 1))=b5):Hm lt p (m+1):=by
 intro i j b d;by_cases e:j=m
 .subst e;by_cases c:i=j - 1
  .subst c;show hl
  .show ht.tr _ (aT p (j - 1)) _ (h.at hn _) (h.at hn _) (h.at hn _) hl (a i (j - 1) ⋯ ⋯)
 .show a i j b ⋯
theorem lR(h:Pm n p):∀(f m:Nat),1<=m->m+f<=n->FA lt p m->FA lt p (aC lt (Nb p f m))/\m<=aC lt (Nb p f m)/\aC lt (Nb p f m)<=m+f/\(aC lt (Nb p f m)<m+f->lt (aT p (aC lt (Nb p f m))) (aT p (aC lt (Nb p f m) - 1))=b5)
 |0,m,m1,l,g=>⟨g,gs _,gs _,λz=>absurd z (wh _)⟩
 |f+1,m,m1,l,g=>by
  have e:aC lt (Nb p (f+1) m)=aC lt (if lt (aT p m) (aT p (m - 1))=b5 then .ret m else Nb p f (m+1)):=rfl;by_cases k:lt (aT p m) (aT p (m - 1))=b5
  .rw[e,WJ k];show⟨g,gs _,by change m<=_;lia,λ_=>k⟩
  .rw[e,WK k];have hl:=ht.Mp _ _ (h.at hn _) (h.at hn _) (h.ne (i:=m) (j:=m - 1) ⋯ ⋯ ⋯) (NZ.mpr k);have⟨a,b,c,d⟩:=lR h f (m+1) ⋯ ⋯ (FA.ext ht hn h m1 g hl);show⟨a,⋯,⋯,λz=>d ⋯⟩
theorem nq(h:Pm n p):∀(f m:Nat),1<=m->m+f<=n->Hm lt p m->∃r,aC lt (QK f p m 0)=(p,r,0)/\Hm lt p r/\m<=r/\r<=m+f
 |0,m,m1,l,g=>⟨m,rfl,g,gs _,gs _⟩
 |f+1,m,m1,l,g=>by
  have e:aC lt (QK (f+1) p m 0)=aC lt (if lt (aT p m) (aT p (m - 1))=b5 then(if 0>0 then QK f (NK p (m - (0+1)) m) (m+1) 0 else QK f p (m+1) 0)
   else .ask (aT p (m - 1)) (aT p m) λd=>if d=b5 then .ret (p,m,0) else QK f p (m+1) (0+1)):=rfl
  by_cases k:lt (aT p m) (aT p (m - 1))=b5
  .rw[e,WJ k,WK ⋯];have⟨r,a,b,c,d⟩:=nq h f (m+1) ⋯ ⋯ (Hm.ext ht hn h m1 g k);show⟨r,a,b,⋯,⋯⟩
  .have hl:=ht.Mp _ _ (h.at hn _) (h.at hn _) (h.ne (i:=m) (j:=m - 1) ⋯ ⋯ ⋯) (NZ.mpr k);rw[e,WK k];show⟨m,?_,g,gs _,⋯⟩;change aC lt (if lt (aT p (m - 1)) (aT p m)=b5 then .ret (p,m,0) else QK f p (m+1) (0+1))=_;have o:lt (aT p (m - 1)) (aT p m)=b5:=hl;rw[WJ o];rfl
def ui(h:Pm n p)(m1:1<=m)(o:m<=n)(f:Hm lt p m):FA lt (aC lt (N5 m n p)).2 (aC lt (N5 m n p)).1/\Pm n (aC lt (N5 m n p)).2/\1<=(aC lt (N5 m n p)).1/\(aC lt (N5 m n p)).1<=n:=by
 have e:Pm n (NK p 0 m):=h.rev 0 m;have hs:=h.size;have g:FA lt (NK p 0 m) m:=by
  have d:∀k,k<m->aT (NK p 0 m) k=aT p (m - 1 - k):=λk hk=>by
   show qE ?_;unfold NK;rw[getElem?_mirror_all ⋯,WJ ⟨mx _,hk⟩,T']
  intro i j q l;rw[d i ⋯,d j l];show f (m - 1 - j) (m - 1 - i) ⋯ ⋯
 obtain⟨a,b,c,_⟩:=lR ht hn e (n - m) m m1 ⋯ g;unfold N5;rw[eU];show⟨a,e,by change 1<=aC lt (Nb _ _ _);lia,by change aC lt (Nb _ _ _)<=n;lia⟩
def r_(h:Pm n p):FA lt (aC lt (MR n p)).2 (aC lt (MR n p)).1/\Pm n (aC lt (MR n p)).2/\1<=(aC lt (MR n p)).1/\(aC lt (MR n p)).1<=n:=by
 have⟨a,b,c,d⟩:=lR ht hn h (n - 1) 1 (gs _) ⋯ (λi j f g=>by lia);unfold MR;rw[eU];generalize aC lt (Nb p (n - 1) 1)=m at a b c d;by_cases e:m=n
 .rw[WJ (by simp[e])];show⟨a,h,b,by change m<=n;lia⟩
 .rw[WK (by simp[e])];by_cases m1:m>1
  .rw[WJ m1];change FA lt (aC lt (if lt (aT p 0) (aT p (m - 1))=b5 then .ret (m,p) else La m n (NK p 0 m))).2 (aC lt (if lt (aT p 0) (aT p (m - 1))=b5 then .ret (m,p) else La m n (NK p 0 m))).1/\Pm n (aC lt (if lt (aT p 0) (aT p (m - 1))=b5 then .ret (m,p) else La m n (NK p 0 m))).2/\1<=(aC lt (if lt (aT p 0) (aT p (m - 1))=b5 then .ret (m,p) else La m n (NK p 0 m))).1/\(aC lt (if lt (aT p 0) (aT p (m - 1))=b5 then .ret (m,p) else La m n (NK p 0 m))).1<=n;rw[WJ (a 0 (m - 1) ⋯ ⋯)];show⟨a,h,b,by change m<=n;lia⟩
  .rw[WK m1];have em:m=1:=by lia
   subst em;have k:Hm lt p 2:=λi j f g=>by
    have l:i=0:=by lia
    have o:j=1:=by lia
    subst l o;show d ⋯
   have⟨r,q,b1,c1,t⟩:=nq ht hn h (n - 2) 2 ⋯ ⋯ k;unfold La;rw[eU,q];rw[WK (by change ¬(0>0);lia)];have s:r<=n:=by
    have u:2<=n:=by lia
    lia
   show ui ht hn h (m:=r) ⋯ s b1
theorem gr(h:Pm n p)(hk:k<n)(b:FA lt p k):∀(f l r:Nat),r - l<=f->l<=r->r<=k->(∀j,j<l->lt (aT p j) (aT p k)=b5)->(∀j,r<=j->j<k->lt (aT p k) (aT p j)=b5) ->
  aC lt (LU p k f l r)<=k/\(∀j,j<aC lt (LU p k f l r)->lt (aT p j) (aT p k)=b5)/\∀j,aC lt (LU p k f l r)<=j->j<k->lt (aT p k) (aT p j)=b5
 |0,l,r,s,hl,t,c,d=>⟨by change l<=k;lia,c,λj g=>d j (by have:l<=j:=g;lia)⟩
 |f+1,l,r,s,hl,t,c,d=>by
  by_cases o:l >= r
  .have e:aC lt (LU p k (f+1) l r)=l:=by
    change aC lt (if l >= r then .ret l else _)=l;rw[WJ o];rfl
   rw[e];show⟨⋯,c,λj g=>d j ⋯⟩
  .have e:aC lt (LU p k (f+1) l r)=aC lt (if lt (aT p k) (aT p ((l+r) / 2))=b5 then LU p k f l ((l+r) / 2) else LU p k f ((l+r) / 2+1) r):=by
    change aC lt (if l >= r then .ret l else _)=_;rw[WK o];rfl
   rw[e];by_cases a:lt (aT p k) (aT p ((l+r) / 2))=b5
   .rw[WJ a];show gr h hk b f l ((l+r) / 2) ⋯ ⋯ ⋯ c λj g u=>?_;by_cases m:j=(l+r) / 2
    .subst m;show a
    .show ht.tr _ _ _ (h.at hn _) (h.at hn _) (h.at hn _) a (b _ _ ⋯ u)
   .rw[WK a];have q:=ht.Mp _ _ (h.at hn _) (h.at hn _) (h.ne (i:=k) (j:=(l+r) / 2) ⋯ ⋯ ⋯) (NZ.mpr a);show gr h hk b f ((l+r) / 2+1) r ⋯ ⋯ ⋯ (λj g=>?_) d;by_cases m:j=(l+r) / 2
    .subst m;show q
    .show ht.tr _ _ _ (h.at hn _) (h.at hn _) (h.at hn _) (b j _ ⋯ ⋯) q
theorem qF:∀(f:Nat) (p:Array Nat) (k:Nat),Pm n p->FA lt p k->k+f=n->FA lt (aC lt (kas_bin f p k)) n
 |0,p,k,h,d,hk=>by
  have e:k=n:=by lia
  subst e;show d
 |f+1,p,k,h,d,hk=>by
  have⟨a,b,c⟩:=gr ht hn h (k:=k) ⋯ d k 0 k ⋯ ⋯ (gs _) (λj o=>by lia) λj o x=>by lia
  unfold kas_bin;rw[eU];generalize aC lt (LU p k k 0 k)=l at a b c;show qF f _ (k+1) (h.N4 _ _) ?_ ⋯;have hs:=h.size;have m:∀i,aT (bubble p k (k - l)) i=if i=l then aT p k else if l<i/\i<=k then aT p (i - 1) else aT p i:=λi=>by
   have g:=getElem?_bubble (xs:=p) (src:=k) ⋯ (k - l) ⋯ i;rw[show k - (k - l)=l by lia]at g;by_cases q:i=l
   .rw[WJ q]at g ⊢;show qE g
   .rw[WK q]at g ⊢;by_cases r:l<i/\i<=k
    .rw[WJ r]at g ⊢;show qE g
    .rw[WK r]at g ⊢;show qE g
  intro i j w o;rw[m i,m j];by_cases s:i=l
  .rw[WJ s,WK ⋯,WJ ⋯];show c _ ⋯ ⋯
  .rw[WK s];by_cases t:l<i/\i<=k
   .rw[WJ t,WK ⋯,WJ ⋯];show d _ _ ⋯ ⋯
   .rw[WK t];by_cases u:j=l
    .rw[WJ u];show b _ ⋯
    .rw[WK u];by_cases v:l<j/\j<=k
     .rw[WJ v];by_cases e:i=j - 1
      .exfalso;lia
      .show d _ _ ⋯ ⋯
     .rw[WK v];show d _ _ w ⋯
def uj:FA lt (aC lt (Ho n)) n:=by
 have⟨a,b,c,d⟩:=r_ ht hn (p:=T1 (hE n)) (by unfold Pm;simp);unfold Ho;rw[eU];generalize aC lt (MR n (T1 (hE n)))=x at a b c d;by_cases e:x.1<n
 .rw[WJ e,show max x.1 1=x.1 by lia];show qF ht hn _ _ _ b a ⋯
 .rw[WK e];have f:x.1=n:=by lia
  rw[<-f];show a
end
def wQ(h:ks.Nodup):N_ ks.length (Fz ks):=by
 show⟨λa b c _ _ _ d j=>?_,λa b g i k d=>?_⟩
 .unfold Fz at *;rw[WI]at *;show List.lt_trans d j
 .unfold Fz at *;rw[decide_eq_false_iff_not]at d;rw[WI];have f:=Ug.mp d;rcases Decidable.em ((ks.getD b td).cps.toList<(ks.getD a td).cps.toList) with z|z
  .show z
  .exfalso
   have e:=m3 (U' f (Ug.mp z));rw[HG,HG,r3 g,r3 i]at e;show k (uh h g i e.symm)
def sd(h:ks.Nodup):(dn ks).map (λi=>ks.getD i td)=av ks:=by
 have b:=dq ks;have e:(hE ks.length).map (λi=>ks.getD i td)=ks:=by
  apply Ja
  .simp
  .intro i o d;simp[Ml,d]
 have f:((dn ks).map λi=>ks.getD i td).Perm ks:=by
  have:=b.map λi=>ks.getD i td;rw[e]at this;show this
 show dk (f.trans (aQ ks).symm) ?_ (eh ks);rw[List.pairwise_map,NB];intro i j g l m;have hl:(dn ks).length=ks.length:=by rw[b.length_eq,LD]
 have a:=uj (wQ h) ⋯ i j m ⋯;have c:∀(k:Nat) (hk:k<(dn ks).length),aT (aC (Fz ks) (Ho ks.length)) k=(dn ks)[k]:=λk hk=>by
  unfold aT;have n:k<(aC (Fz ks) (Ho ks.length)).size:=by simpa[dn] using hk
  simp[dn,Ql,n]
 rw[c i g,c j l]at a;unfold Fz at a;rw[WI]at a;rw[fN];show List.le_of_lt a
section
def se{vs:List (Key×eH)}(hk:vs.map (·.1)=ks.map ri)(hl:acc.length=vs.length)(h:∀(j:Nat) (v:eH),acc[j]?=a5 v->∃k x,vs[j]?=a5 (k,x)/\(aI P w).is k v=b5):MA acc ks:=by
 induction acc generalizing ks vs with
 |nil =>
  cases vs with
  |nil=>cases ks with
   |nil=>show .nil
   |cons _ _=>cases hk
  |cons _ _=>cases hl
 |cons v acc b =>
  cases vs with
  |nil=>cases hl
  |cons p vs =>
   cases ks with
   |nil=>cases hk
   |cons k ks =>
    simp only[gc,Kt]at hk;have⟨k',x,a,c⟩:=h 0 v rfl;simp only[List.getElem?_cons_zero,TF]at a;subst a;have d:k'=ri k:=hk.1;subst d;rcases aW (show iC (ri k) v=b5 from c) with⟨i,t,e,rfl⟩|⟨y,t,e,rfl⟩
    .cases e
    .cases e;show .cons _ _ (b hk.2 (by simpa using hl) λj u f=>h (j+1) u (by simpa using f))
def gu:X.calm=b5->gN X (.builtin "sorted") (λxs H Q=>∃(d:hQ) (kvs:List (Key×V)) (ks:List Str),xs=[.ref d]/\H d=a5 (.dK kvs)/\kvs.map (·.1)=ks.map ri/\ks.length<64/\∀q,H q=b6->Q (.ref q) (upd H q (.lst ((av ks).map V.str)))):=by
 intro l a s σ H xs us Q I rs h;have⟨d,kvs,ks,rfl,e,hk,D,q⟩:=h;have⟨u,rfl,r⟩:=vals1 rs;cases r;have⟨hz,lo,vs,kv,dd⟩:=tW I.Dw e;have b:vs.length=kvs.length:=(Paired.length kv).symm;have m:kvs.length=ks.length:=by rw[<-dt (f:=(·.1)),hk,dt]
 have n:vs.map (·.1)=ks.map ri:=by
  rw[<-hk];clear dd b hk m e q hz;induction kv with
  |nil=>rfl
  |cons r _ p=>rw[gc,gc,p,r.1]
 have⟨o,es,ep,t⟩:=id dd;have x:(64:Nat)<=dV:=by decide
 show dG (kdu_collect (A:=X.A.in1) (kdl_dict (knd:=aI X.prog X.w) (kvs:=vs) (ep:=ep) lo) (I.ok.hd l) ⟨o,es,t⟩ ⋯ λh' c acc y g=>⟨ks,se n (by rw[ro];show g.1) (λj v z=>g.2 j v (by rw[<-FZ];show z)),by rw[ro,g.1];lia,λG B C k2 i s2=>?_⟩);have k:Inv X a σ H {s with heap:=h',toks:=c}:=I.kept (t':=c) y;show⟨.ref h'.objs.size,_,k.laid (t':=c) (o:=.lst ((av ks).map V.str)) k2 (gs _) ⟨by rw[dt,aS];lia,B,C,cJ s2,i⟩,rfl,q _ (k.Dw.fresh (gs _))⟩
end
end L2
namespace L2
open PySem PySem.Spec PyProof.Rows PySem.SeqAt
open PySem.AutoSeq1 (wpAny_loadPart')
open PySem.MeetsSeq PySem.MeetsSeq2 PySem.MeetsSeq3
section
def um(xs:Array eH):((hE xs.size).filterMap λ(m:Nat)=>xs[((xs.size:Int) - 1+(m:Int) * -1).toNat]?).toArray=xs.toList.reverse.toArray:=by
 congr 1
 apply U1;intro i;have e:(hE xs.size).filterMap (λ(m:Nat)=>xs[((xs.size:Int) - 1+(m:Int) * -1).toNat]?)=(hE xs.size).map λm=>xs.toList.reverse.getD m .none:=by
  have:∀l:List Nat,(∀m∈l,m<xs.size)->l.filterMap (λ(m:Nat)=>xs[((xs.size:Int) - 1+(m:Int) * -1).toNat]?)=l.map λm=>xs.toList.reverse.getD m .none:=λl hl=>by
   induction l with
   |nil=>rfl
   |cons a l d =>
    have f:=hl a (by simp);have g:((xs.size:Int) - 1+(a:Int) * -1).toNat=xs.size - 1 - a:=by lia
    have h:xs[xs.size - 1 - a]?=a5 (xs.toList.reverse.getD a .none):=by
     rw[HG,List.getElem?_reverse (by simpa using f),ro,FZ,Array.getElem?_eq_getElem (show xs.size - 1 - a<xs.size by lia)];rfl
    rw[GU,g,h,gc,d λm b=>hl m (by simp[b])]
  show this _ λm b=>DS.mp b
 rw[e,nc];by_cases c:i<xs.size
 .rw[P2 c,Sx,HG,r3 (by simpa using c)];rfl
 .rw[O5 (by simp;lia),O5 (by simp;lia)];rfl
def fS(b:UE s.heap t a)(hs:s.heap.IsSliceOf f .none .none (.int (-1) g))
  (h:Q (.ref s.heap.objs.size) {s with heap:=s.heap.push {cls:=.type "tuple",data:=.seq a.toList.reverse.toArray}}) (hsz:a.size<=dV):fx (ke prog w) A (My (.ref t) (.ref f)) Q E s:=by
 have c:sizeOk (.seq a.toList.reverse.toArray):=by
  change a.toList.reverse.toArray.size<=dV;rw[hW,MS,ro];show hsz
 have⟨os,d,i,e⟩:=id hs;have j:s.TypeIs (.ref f) "slice":=⟨os,d,i⟩
 unfold My
 try with_reducible show DD ?_
 first|show bD (cb ?_)|skip
 show bD (SY b.typeIs (by decide) ?_);show bD (FH (name:=Ky "__getitem__") b.typeIs oT
  (w6 oT b.typeIs RW ?_ (SN _ _)))
 change fx _ _ (Jo (.ref t) >>= _) _ _ s;show bD (Uu b ?_);show bD (Mq j ?_);rw[WJ (by decide)];show bD ?_;unfold LV Qy;show bD (bD (ID d e (x:=.none) rfl (bD (ID d e (x:=.none) rfl (bD (ID d e (x:=.int (-1) g) rfl (cb ?_)))))));show bD (slicePart_int ?_);change fx _ _ (if ((-1:Int)==0)=b5 then _ else _) _ _ s;rw[WK (by decide)];show bD (Q8 (bD (Q8 (bD (cb ?_)))));have k:DI ((a.size:Int) - 1) (-1) (-1)=a.size:=by
  unfold DI;simp only[show ¬((-1:Int)>0) by lia,WQ,show(- (-1:Int))=1 from rfl,Wa];split<;>lia
 change fx _ _ (pure ((a.size:Int) - 1,(-1:Int),DI ((a.size:Int) - 1) (-1) (-1))) _ _ s;rw[k];show cb ?_;change fx _ _ (if ((a.size:Int) - 1==0&&(-1:Int)==1&&a.size==a.size)=b5 then _ else _) _ _ s;rw[WK (by simp),um]
 first
  |show bD (m:=y3 _) (pw (cb ⟨_,rfl,cb h⟩) c)
  |show bD (m:=y3 _) (pw (bD (cb (cb ⟨_,rfl,cb h⟩))) c)
  |show bD (bD (m:=y3 _) (pw (cb (cb ⟨_,rfl,cb h⟩)) c))
  |show bD (bD (m:=y3 _) (pw (cb ⟨_,rfl,cb h⟩) c))
end
section
abbrev De(K:PySem.W.Frag)(c:TE):TE:=λσ H Q=>c σ H λx b=>∃a xs,x=.ref a/\DU K b a xs/\∀p,b p=b6->Q (.ref p) (upd b p (.tup xs.reverse))
def uo:∀{xs:List V}{us:List eH},Vals xs us->Vals xs.reverse us.reverse:=λ{xs us} h=>by
 induction h with
 |nil=>show .nil
 |cons r _ a =>
  rw[NO,NO];show a.append (.cons r .nil)
def zK(w:PE X e y):PE X (.Subscript e (.Slice b6 b6 (a5 (.UnaryOp .USub (.Constant (.int 1) N O) T)) p2) pos) (De X.K y):=by
 intro c s σ H Q I h;show SO (Dx (w c s σ H _ I h) λv s1 z=>?_);have⟨x,j,A,B,C⟩:=z;have⟨a,xs,rfl,k,q⟩:=C;cases B;show wpAny_Slice ?_;rw[Uq,evalPart_some];show cb (cb ?_);show Dx (Bg zj ot c s1 σ j (λv g=>v=.int (-1)/\g=j) A ⟨1,rfl,rfl,rfl⟩) λu s2 D=>?_;have⟨Y,g,l,G,J,L⟩:=D;subst J L;have⟨m,rfl⟩:=G;have⟨A',r,ht,hz⟩:=l.tuple k;have k1:∀b f,s2.heap.get? b=a5 f->(s2.heap.push {cls:=.type "slice",data:=.fields #[oa,oa,.int (-1) m]}).get? b=a5 f:=λb f q=>et _ q;have i:Inv X c σ g {s2 with heap:=s2.heap.push {cls:=.type "slice",data:=.fields #[oa,oa,.int (-1) m]}}:=l.kept (t':=s2.toks) k1;have⟨its',n,p,t⟩:=i.tuple k;have d:its'.toArray.size=xs.length:=by rw[hW];show n.length.symm
 show WB (ops:=[.ref a,.ref s2.heap.objs.size]) p.typeIs oT.lookup (fS p (SQ ..) ?_ (by rw[d];show t)) (by with_unfolding_all rfl);show⟨.ref _,_,i.laid (t':=s2.toks) (o:=.tup xs.reverse) (λb f q=>et _ q) (gs _) ⟨by rw[MS];show t,its'.reverse,uo n,⟨_,hA _ rfl,rfl,_,rfl⟩⟩,rfl,q _ (i.Dw.fresh (gs _))⟩
end
end L2
namespace TM
open PySem L2
inductive U where
 |DB|bl (b:Bool)|int (i:Int)|str (x:Str)
 |tup (xs:List U)|lst (xs:List U)
 |Dt (ks:List Str) (vs:List U)|Ec (ks:List jX)
 |DT (xs:List U)
mutual
noncomputable def DZ:U->Bool
 |.tup xs=>fA xs
 |.lst _=>df
 |.Dt _ _=>df
 |.Ec _=>df
 |.DT _=>df
 |.DB=>b5|.bl _=>b5|.int _=>b5|.str _=>b5
noncomputable def fA:List U->Bool
 |[]=>b5
 |u::us=>DZ u&&fA us
end
inductive Kd where|own|io|loc|any|bor (j:Nat)|Ds
deriving DecidableEq
abbrev Kd.root:Kd->Bool
 |.own=>b5
 |.io=>b5
 |_=>df
@[reducible]def ak:=List (Option (Kd×U))
structure Ct where
 P:DW
 w:Fi
 K:PySem.W.Frag
 H₀:Hp
 Ge:hQ->Prop
 IO:hQ->Prop
abbrev KL(K:PySem.W.Frag)(a:hQ)(xs:List V):Prop :=
 ∃(o:Obj) (b:Array eH) (n:Nat),K.lookup a=a5 o/\o.cls=.type "list"/\o.dict=b6/\o.data=.seq b n/\b.size<=dV/\Vals xs b.toList
abbrev ur(K:PySem.W.Frag)(S:hQ->Prop)(H:Hp)(a:hQ)(vs:List V):Prop:=(S a/\Rd H a (.lst vs))\/KL K a vs
def ur.sq(h:ur K S H a vs):D3 K H a vs:=h.elim (λz=>.inl z.2) .inr
abbrev JQ(K:PySem.W.Frag)(S:hQ->Prop)(H:Hp)(a:hQ)(vs:List V):Prop:=S a/\H a=a5 (.lst vs)
def JQ.sq(h:JQ K S H a vs):D3 K H a vs:=.inl (.inl h.2)
abbrev Hn(H:Hp)(R:List V->Prop)(a:hQ)(ks:List Str):Prop:=∃kvs:List (Key×V),H a=a5 (.dK kvs)/\kvs.map (·.1)=ks.map ri/\R (kvs.map (·.2))
section
variable(C:Ct)(S:hQ->Prop)(H:Hp)
mutual
def Rep:U->V->Prop
 |.DB,v=>v=.DB
 |.bl b,v=>v=.bl b
 |.int i,v=>v=.int i
 |.str x,v=>v=.str x
 |.tup us,v=>∃a vs,v=.ref a/\DU C.K H a vs/\ae us vs
 |.lst us,v=>∃a vs,v=.ref a/\JQ C.K S H a vs/\ae us vs
 |.Dt ks us,v=>∃a,v=.ref a/\S a/\Hn H (ae us) a ks
 |.Ec ks,v=>∃a,v=.ref a/\S a/\dW C.P C.w C.K H a ks
 |.DT us,v=>∃a vs,v=.ref a/\ur C.K S H a vs/\ae us vs
def ae:List U->List V->Prop
 |[],vs=>vs=[]
 |u::us,vs=>∃v r,vs=v::r/\Rep u v/\ae us r
end
end
def Tp:HO->Prop
 |.tup _=>True
 |.FE _ (.tup _)=>True
 |_=>False
structure Mv(S:hQ->Prop)(H:Hp)(S':hQ->Prop)(H':Hp):Prop where
 sub:∀a,S a->S' a
 JR:∀a o,H a=a5 o->Tp o->H' a=a5 o
 JS:∀a o,S a->H a=a5 o->H' a=a5 o
def Mv.Ms(m:Mv S H S' H')(h:DU K H a vs):DU K H' a vs:=by
 rcases h with(h|⟨o,h⟩)|h
 .show .inl (.inl (m.JR a _ h trivial))
 .show .inl (.inr ⟨o,m.JR a _ h trivial⟩)
 .show .inr h
def Mv.Df(m:Mv S H S' H')(h:ur K S H a vs):ur K S' H' a vs:=by
 rcases h with⟨s,h|⟨o,h⟩⟩|h
 .show .inl ⟨m.sub a s,.inl (m.JS a _ s h)⟩
 .show .inl ⟨m.sub a s,.inr ⟨o,m.JS a _ s h⟩⟩
 .show .inr h
def Mv.QF(m:Mv S H S' H')(h:JQ K S H a vs):JQ K S' H' a vs:=⟨m.sub a h.1,m.JS a _ h.1 h.2⟩
def Mv.row(m:Mv S H S' H')(h:d_ K H v r):d_ K H' v r :=
 let ⟨a,b,e,c,d⟩:=h;⟨a,b,e,m.Ms c,m.Ms d⟩
def Hn.mv(b:∀o,H a=a5 o->H' a=a5 o)(c:∀vs,R vs->d vs)(h:Hn H R a ks):Hn H' d a ks :=
 let ⟨kvs,e,f,g⟩:=h;⟨kvs,b _ e,f,c _ g⟩
def Mv.qG(m:Mv S H S' H')(b:∀o,H a=a5 o->H' a=a5 o)(h:dW P w K H a ks):dW P w K H' a ks :=
 let ⟨xs,c,d,e⟩:=h;⟨xs,b _ c,d,λx f=>m.row (e x f)⟩
section
mutual
theorem Rep.G1(m:Mv S H S' H'):∀(u:U) (v:V),Rep C S H u v->Rep C S' H' u v
 |.DB,_,h=>h
 |.bl _,_,h=>h
 |.int _,_,h=>h
 |.str _,_,h=>h
 |.tup us,v,h=>by
  have⟨a,vs,e,b,c⟩:=h;show⟨a,vs,e,m.Ms b,ae.G1 m us vs c⟩
 |.lst us,v,h=>by
  have⟨a,vs,e,b,c⟩:=h;show⟨a,vs,e,m.QF b,ae.G1 m us vs c⟩
 |.Dt ks us,v,h=>by
  have⟨a,e,b,c⟩:=h;show⟨a,e,m.sub a b,c.mv (λo q=>m.JS a o b q) λvs q=>ae.G1 m us vs q⟩
 |.Ec ks,v,h=>by
  have⟨a,e,b,c⟩:=h;show⟨a,e,m.sub a b,m.qG (λo q=>m.JS a o b q) c⟩
 |.DT us,v,h=>by
  have⟨a,vs,e,b,c⟩:=h;show⟨a,vs,e,m.Df b,ae.G1 m us vs c⟩
theorem ae.G1(m:Mv S H S' H'):∀(us:List U) (vs:List V),ae C S H us vs->ae C S' H' us vs
 |[],_,h=>h
 |u::us,vs,h=>by
  have⟨v,r,e,a,b⟩:=h;show⟨v,r,e,Rep.G1 m u v a,ae.G1 m us r b⟩
end
mutual
theorem Rep.sf:∀(u:U) (v:V),DZ u=b5->Rep C S H u v->Rep C S' H u v
 |.DB,_,_,h=>h
 |.bl _,_,_,h=>h
 |.int _,_,_,h=>h
 |.str _,_,_,h=>h
 |.tup us,v,i,h=>by
  have⟨a,vs,e,b,c⟩:=h;show⟨a,vs,e,b,ae.sf us vs (by simpa[TM.DZ] using i) c⟩
 |.lst us,v,i,h=>by simp[TM.DZ]at i
 |.Dt ks us,v,i,h=>by simp[TM.DZ]at i
 |.Ec ks,v,i,h=>by simp[TM.DZ]at i
 |.DT us,v,i,h=>by simp[TM.DZ]at i
theorem ae.sf:∀(us:List U) (vs:List V),fA us=b5->ae C S H us vs->ae C S' H us vs
 |[],_,_,h=>h
 |u::us,vs,i,h=>by
  have⟨v,r,e,b,c⟩:=h;have a:TM.DZ u=b5/\fA us=b5:=by simpa[fA] using i
  show⟨v,r,e,Rep.sf u v a.1 b,ae.sf us r a.2 c⟩
end
def Rep.mv(m:Mv S H S' H')(h:Rep C S H u v):Rep C S' H' u v:=Rep.G1 m u v h
def ae.mv(m:Mv S H S' H')(h:ae C S H us vs):ae C S' H' us vs:=ae.G1 m us vs h
def Rep.DZ(i:TM.DZ u=b5)(h:Rep C S H u v):Rep C S' H u v:=Rep.sf u v i h
def ae.DZ(i:fA us=b5)(h:ae C S H us vs):ae C S' H us vs:=ae.sf us vs i h
def Mv.up(sub:∀a,S a->S' a):Mv S H S' H:=⟨sub,λ_ _ h _=>h,λ_ _ _ h=>h⟩
theorem ae.len:∀{us:List U}{vs:List V},ae C S H us vs->us.length=vs.length
 |[],_,h=>by cases h;rfl
 |u::us,vs,h=>by
  obtain⟨v,r,rfl,_,a⟩:=h;rw[lx,lx,ae.len a]
theorem ae.get:∀{us:List U}{vs:List V}{i:Nat}{u:U},ae C S H us vs->us[i]?=a5 u->∃v,vs[i]?=a5 v/\Rep C S H u v
 |[],_,_,_,_,e=>by simp at e
 |u::us,vs,0,w,h,e=>by
  obtain⟨v,r,rfl,a,_⟩:=h;simp at e;subst e;show⟨v,rfl,a⟩
 |u::us,vs,i+1,w,h,e=>by
  obtain⟨v,r,rfl,_,b⟩:=h;have⟨c,d,h'⟩:=ae.get (i:=i) (u:=w) b (by simpa using e);show⟨c,by simpa using d,h'⟩
theorem ae.append:∀{us ws:List U}{vs a:List V},ae C S H us vs->ae C S H ws a->ae C S H (us++ws) (vs++a)
 |[],_,_,_,h,h'=>by cases h;show h'
 |u::us,ws,vs,a,h,h'=>by
  have⟨v,r,rfl,b,c⟩:=h;show⟨v,r++a,rfl,b,c.append h'⟩
theorem ae.take:∀{us:List U}{vs:List V} (n:Nat),ae C S H us vs->ae C S H (us.take n) (vs.take n)
 |_,_,0,_=>by simp[ae]
 |[],_,n+1,h=>by cases h;simp[ae]
 |u::us,vs,n+1,h=>by
  have⟨v,r,rfl,a,b⟩:=h;show⟨v,r.take n,rfl,a,b.take n⟩
theorem ae.drop:∀{us:List U}{vs:List V} (n:Nat),ae C S H us vs->ae C S H (us.drop n) (vs.drop n)
 |_,_,0,h=>h
 |[],_,n+1,h=>by cases h;simp[ae]
 |u::us,vs,n+1,h=>by
  have⟨v,r,rfl,b,a⟩:=h;show a.drop n
theorem ae.set:∀{us:List U}{vs:List V} (n:Nat) {u:U}{v:V},ae C S H us vs->Rep C S H u v->ae C S H (us.set n u) (vs.set n v)
 |[],_,n,_,_,h,_=>by cases h;simp[ae]
 |u::us,vs,0,_,_,h,h'=>by
  have⟨v,r,rfl,b,a⟩:=h;show⟨_,r,rfl,h',a⟩
 |u::us,vs,n+1,_,_,h,h'=>by
  have⟨v,r,rfl,b,a⟩:=h;show⟨v,_,rfl,b,a.set n h'⟩
def ae.snoc(h:ae C S H us vs)(h':Rep C S H u v):ae C S H (us++[u]) (vs++[v]):=h.append ⟨v,[],rfl,h',rfl⟩
theorem ae.strs:∀{xs:List Str}{vs:List V},ae C S H (xs.map .str) vs↔vs=xs.map V.str
 |[],vs=>by simp[ae]
 |x::xs,vs=>by
  constructor
  .rintro⟨v,r,rfl,a,b⟩;rw[ae.strs.mp b];have:v=.str x:=a;rw[this];rfl
  .rintro rfl;show⟨_,_,rfl,rfl,ae.strs.mpr rfl⟩
end
structure Ct.Eqv(C C':Ct):Prop where
 P:C.P=C'.P
 w:C.w=C'.w
 K:C.K=C'.K
section
mutual
theorem Rep.G2(q:C.Eqv d):∀(u:U) (v:V),Rep C S H u v->Rep d S H u v
 |.DB,_,h=>h
 |.bl _,_,h=>h
 |.int _,_,h=>h
 |.str _,_,h=>h
 |.tup us,v,h=>by
  have⟨a,vs,e,b,c⟩:=h;show⟨a,vs,e,q.K▸b,ae.G2 q us vs c⟩
 |.lst us,v,h=>by
  have⟨a,vs,e,b,c⟩:=h;show⟨a,vs,e,q.K▸b,ae.G2 q us vs c⟩
 |.Dt ks us,v,h=>by
  have⟨a,e,b,c⟩:=h;show⟨a,e,b,c.mv (λ_ q=>q) λvs z=>ae.G2 q us vs z⟩
 |.Ec ks,v,h=>by
  have⟨a,e,b,c⟩:=h;show⟨a,e,b,by rw[<-q.P,<-q.w,<-q.K];show c⟩
 |.DT us,v,h=>by
  have⟨a,vs,e,b,c⟩:=h;show⟨a,vs,e,q.K▸b,ae.G2 q us vs c⟩
theorem ae.G2(q:C.Eqv a):∀(us:List U) (vs:List V),ae C S H us vs->ae a S H us vs
 |[],_,h=>h
 |u::us,vs,h=>by
  have⟨v,r,e,b,c⟩:=h;show⟨v,r,e,Rep.G2 q u v b,ae.G2 q us r c⟩
end
def Rep.cg(q:C.Eqv a)(h:Rep C S H u v):Rep a S H u v:=Rep.G2 q u v h
def ae.cg(q:C.Eqv a)(h:ae C S H us vs):ae a S H us vs:=ae.G2 q us vs h
end
def cz(C:Ct)(S:hQ->Prop)(H:Hp)(r:hQ):U->Prop
 |.lst us=>∃vs,H r=a5 (.lst vs)/\ae C S H us vs
 |.Dt ks us=>Hn H (ae C S H us) r ks
 |.Ec ks=>dW C.P C.w C.K H r ks
 |_=>False
def cz.mv(m:Mv S H S' H')(a:∀o,H r=a5 o->H' r=a5 o)(h:cz C S H r u):cz C S' H' r u:=by
 cases u with
 |lst us=>have⟨vs,b,c⟩:=h;show⟨vs,a _ b,c.mv m⟩
 |Dt ks us=>show Hn.mv a (λvs q=>q.mv m) h
 |Ec ks=>show m.qG a h
 |_=>show h
def cz.rep(hs:∀a,S a->S' a)(b:S' r)(h:cz C S H r u):Rep C S' H u (.ref r):=by
 cases u with
 |lst us=>have⟨vs,c,d⟩:=h;show⟨r,vs,rfl,⟨b,c⟩,d.mv (.up hs)⟩
 |Dt ks us=>show⟨r,rfl,b,Hn.mv (λ_ q=>q) (λvs q=>q.mv (.up hs)) h⟩
 |Ec ks=>show⟨r,rfl,b,h⟩
 |_=>show h.elim
def cz.cg(q:C.Eqv a)(h:cz C S H r u):cz a S H r u:=by
 cases u with
 |lst us=>have⟨vs,b,c⟩:=h;show⟨vs,b,c.cg q⟩
 |Dt ks us=>show Hn.mv (λ_ q=>q) (λvs z=>z.cg q) h
 |Ec ks=>change dW _ _ _ _ _ _;rw[<-q.P,<-q.w,<-q.K];show h
 |_=>show h
def cz.some(h:cz C S H r u):∃o,H r=a5 o/\¬Tp o:=by
 cases u with
 |lst us=>obtain⟨vs,a,_⟩:=h;show⟨_,a,λz=>z⟩
 |Dt ks us=>obtain⟨kvs,a,_⟩:=h;show⟨_,a,λz=>z⟩
 |Ec ks=>obtain⟨xs,a,_⟩:=h;show⟨_,a,λz=>z⟩
 |_=>show h.elim
structure Cf where
 S:hQ->Prop
 H:Hp
 σ:St
 st:ak
 kid:Nat->List hQ
abbrev Cf.R1(c:Cf)(a:hQ):Prop:=∃(j:Nat) (k:Kd) (u:U),k.root=b5/\c.st[j]?=a5 (a5 (k,u))/\c.σ[j]?=a5 (a5 (.ref a))
abbrev Cf.RD(c:Cf)(j:Nat)(a:hQ):Prop:=∃(u:U) (r:hQ),c.st[j]?=a5 (a5 (.Ds,u))/\c.σ[j]?=a5 (a5 (.ref r))/\(a=r\/a∈c.kid j)
abbrev Cf.R(c:Cf)(a:hQ):Prop:=c.R1 a\/∃j,c.RD j a
abbrev PS(C:Ct)(S:hQ->Prop):hQ->Prop:=λa=>C.Ge a\/S a
def eB(C:Ct)(S:hQ->Prop)(H:Hp):Kd->U->V->Prop
 |.own,u,v=>∃r,v=.ref r/\¬S r/\¬C.Ge r/\C.H₀ r=b6/\cz C S H r u
 |.io,u,v=>∃r,v=.ref r/\¬S r/\¬C.Ge r/\C.IO r/\cz C S H r u
 |.loc,u,v=>Rep C S H u v
 |.any,u,v=>Rep C (PS C S) H u v
 |.bor _,_,_=>False
 |.Ds,_,v=>∃r,v=.ref r
def cA(C:Ct)(S:hQ->Prop)(H:Hp):List U->List hQ->Prop
 |[],as=>as=[]
 |u::us,as=>∃a as' b vs,as=a::as'/\u=.lst b/\H a=a5 (.lst vs)/\ae C S H b vs/\cA C S H us as'
def bL(C:Ct)(S:hQ->Prop)(H:Hp)(r:hQ)(as:List hQ):U->Prop
 |.Dt ks us=>∃kvs:List (Key×V),H r=a5 (.dK kvs)/\kvs.map (·.1)=ks.map ri/\kvs.map (·.2)=as.map V.ref/\(r::as).Nodup/\(∀a∈r::as,¬S a/\¬C.Ge a/\C.H₀ a=b6)/\cA C S H us as
 |_=>False
structure FK(C:Ct)(c:Cf):Prop where
 kd:∀(j:Nat) (u:U) (r:hQ),c.st[j]?=a5 (a5 (.Ds,u))->c.σ[j]?=a5 (a5 (.ref r))->bL C c.S c.H r (c.kid j) u
 dj:∀(i j:Nat) (a:hQ),c.RD i a->c.RD j a->i=j
 d1:∀(j:Nat) (a:hQ),c.RD j a->¬c.R1 a
structure Ok(C:Ct)(c:Cf):Prop where
 same:∀a o,C.H₀ a=a5 o->¬C.IO a->c.H a=a5 o
 E2:∀a,c.S a->C.H₀ a=b6/\∃o,c.H a=a5 o
 par:∀a,C.Ge a->(∃o,C.H₀ a=a5 o)/\¬C.IO a
 io:∀a,C.IO a->(∃o,C.H₀ a=a5 o)/\∃o,c.H a=a5 o
 len:c.st.length=c.σ.length
 sl:∀(i:Nat) (k:Kd) (u:U),c.st[i]?=a5 (a5 (k,u))->∃v,c.σ[i]?=a5 (a5 v)/\eB C c.S c.H k u v
 inj:∀(i j:Nat) (k k':Kd) (u u':U) (r:hQ),k.root=b5->k'.root=b5->c.st[i]?=a5 (a5 (k,u))->c.st[j]?=a5 (a5 (k',u'))->c.σ[i]?=a5 (a5 (.ref r))->c.σ[j]?=a5 (a5 (.ref r))->i=j
 dd:FK C c
structure Ns(c c':Cf):Prop where
 keep:∀a o,c.H a=a5 o->¬c.R a->c'.H a=a5 o
 there:∀a o,c.H a=a5 o->∃o',c'.H a=a5 o'
 roots:∀a,c'.R a->c.R a\/c.H a=b6
 sub:∀a,c.S a->c'.S a
 new:∀a,c'.S a->c.S a\/c.R a\/c.H a=b6
section
def Ns.refl(c:Cf):Ns c c:=⟨λ_ _ h _=>h,λ_ o h=>⟨o,h⟩,λ_ h=>.inl h,λ_ h=>h,λ_ h=>.inl h⟩
def Ns.none(n:Ns c b)(h:b.H a=.none):c.H a=.none:=by
 cases e:c.H a with
 |none=>rfl
 |some o=>have⟨d,q⟩:=n.there a o e;rw[h]at q;cases q
def Ns.trans(m:Ns c d)(n:Ns d e):Ns c e where
 keep:=λa o h b=>by
  show n.keep a o (m.keep a o h b) λz=>?_;rcases m.roots a z with z|z
  .show b z
  .rw[h]at z;cases z
 there:=λa o h=>let ⟨f,h'⟩:=m.there a o h;n.there a f h'
 roots:=λa h=>by
  rcases n.roots a h with z|z
  .show m.roots a z
  .show .inr (m.none z)
 sub:=λa h=>n.sub a (m.sub a h)
 new:=λa h=>by
  rcases n.new a h with z|z|z
  .show m.new a z
  .rcases m.roots a z with z|z
   .show .inr (.inl z)
   .show .inr (.inr z)
  .show .inr (.inr (m.none z))
def eB.rt(hk:k.root=b5)(h:eB C S H k u v):∃r,v=.ref r/\¬S r/\¬C.Ge r/\(C.H₀ r=b6\/C.IO r)/\cz C S H r u:=by
 cases k with
 |own=>have⟨r,a,b,c,d,e⟩:=h;show⟨r,a,b,c,.inl d,e⟩
 |io=>have⟨r,a,b,c,d,e⟩:=h;show⟨r,a,b,c,.inr d,e⟩
 |_=>cases hk
theorem cA.mem:∀{us:List U}{as:List hQ}{a:hQ},cA C S H us as->a∈as->∃vs,H a=a5 (.lst vs)
 |[],as,a,h,ha=>by cases h;cases ha
 |u::us,as,a,h,ha=>by
  obtain⟨a',as',d,vs,rfl,_,b,_,c⟩:=h;rcases ka.mp ha with rfl|ha
  .show⟨vs,b⟩
  .show cA.mem c ha
theorem cA.mv(m:Mv S H S' H'):∀{us:List U}{as:List hQ},(∀a∈as,∀o,H a=a5 o->H' a=a5 o)->cA C S H us as->cA C S' H' us as
 |[],as,_,h=>h
 |u::us,as,b,h=>by
  have⟨a,as',c,vs,rfl,e,d,f,g⟩:=h;show⟨a,as',c,vs,rfl,e,b a (by simp) _ d,f.mv m,cA.mv m (λa i=>b a (by simp[i])) g⟩
def bL.fr(h:bL C S H r as u):∀a∈r::as,¬S a/\¬C.Ge a/\C.H₀ a=b6:=by
 cases u<;>first|show h.elim|(obtain⟨kvs,_,_,_,_,b,_⟩:=h;show b)
def bL.there(h:bL C S H r as u):∀a∈r::as,∃o,H a=a5 o/\¬Tp o:=by
 cases u<;>first|show h.elim|skip
 obtain⟨kvs,b,_,_,_,_,c⟩:=h;intro a ha;rcases ka.mp ha with rfl|ha
 .show⟨_,b,λz=>z⟩
 .have⟨vs,e⟩:=c.mem ha;show⟨_,e,λz=>z⟩
def bL.mv(m:Mv S H S' H')(c:∀a∈r::as,¬S' a/\∀o,H a=a5 o->H' a=a5 o)(h:bL C S H r as u):bL C S' H' r as u:=by
 cases u<;>first|show h.elim|skip
 have⟨kvs,d,e,f,g,i,j⟩:=h;show⟨kvs,(c r (by simp)).2 _ d,e,f,g,λa b=>⟨(c a b).1,(i a b).2⟩,j.mv m λa b=>(c a (by simp[b])).2⟩
def FK.of(d:FK C c)(hk:e.kid=c.kid)(p:∀(j:Nat) (u:U),e.st[j]?=a5 (a5 (.Ds,u))->c.st[j]?=a5 (a5 (.Ds,u))/\e.σ[j]?=c.σ[j]?)(s:∀a,e.R1 a->c.R1 a\/∀j,¬c.RD j a)
  (m:Mv c.S c.H e.S e.H) (t:∀j a,c.RD j a->¬e.S a/\∀o,c.H a=a5 o->e.H a=a5 o):FK C e:=by
 have b:∀j a,e.RD j a->c.RD j a:=λj a v=>by
  have⟨u,r,k,f,q⟩:=v;have⟨g,l⟩:=p j u k;rw[l]at f;rw[hk]at q;show⟨u,r,g,f,q⟩
 show⟨λj u r k f=>?_,λi j a h n=>d.dj i j a (b i a h) (b j a n),λj a h n=>?_⟩
 .have⟨g,l⟩:=p j u k;rw[l]at f;rw[hk];show bL.mv m (λa w=>t j a ⟨u,r,g,f,ka.mp w⟩) (d.kd j u r g f)
 .rcases s a n with z|z
  .show d.d1 j a (b j a h) z
  .show z j (b j a h)
def FK.hs(d:FK C c)(m:Mv c.S c.H S' H')(b:∀j a,c.RD j a->¬S' a/\∀o,c.H a=a5 o->H' a=a5 o):FK C {c with H:=H',S:=S' } :=
 d.of rfl (λ_ _ e=>⟨e,rfl⟩) (λ_ z=>.inl z) m b
def Ok.root(f:Ok C c)(h:c.R r):¬c.S r/\¬C.Ge r/\(C.H₀ r=b6\/C.IO r)/\∃o,c.H r=a5 o/\¬Tp o:=by
 rcases h with⟨j,k,u,hk,b,d⟩|⟨j,u,g,b,d,a⟩
 .have⟨v,e,hs⟩:=f.sl j _ _ b;have⟨g,ev,a,l,m,n⟩:=hs.rt hk;rw[d]at e;cases e;cases ev;show⟨a,l,m,n.some⟩
 .have i:=f.dd.kd j u g b d;have⟨p,q,s⟩:=bL.fr i r (ka.mpr a);show⟨p,q,.inl s,bL.there i r (ka.mpr a)⟩
def Ok.mv(b:Ok C c)(n:Ns c d):Mv c.S c.H d.S d.H:=⟨n.sub,λa o h t=>n.keep a o h λz=>by
  obtain⟨_,_,_,f,h',e⟩:=b.root z;rw[h]at h';cases h';show e t,λa o s h=>n.keep a o h λz=>(b.root z).1 s⟩
def Ok.G3(b:Ok C c)(n:Ns c d):Mv (PS C c.S) c.H (PS C d.S) d.H:=⟨λa h=>h.imp id (n.sub a),(b.mv n).JR,λa o s h=>n.keep a o h λz=>by
  rcases s with s|s
  .show(b.root z).2.1 s
  .show(b.root z).1 s⟩
def Ok.jc(a:Ok C c)(h:c.H p=b6):C.H₀ p=b6/\¬c.S p/\¬C.Ge p/\¬C.IO p/\¬c.R p:=by
 have b:¬C.IO p:=λz=>by obtain⟨_,o,q⟩:=a.io p z;rw[h]at q;cases q
 have d:C.H₀ p=b6:=by
  cases e:C.H₀ p with
  |none=>rfl
  |some o=>have:=a.same p o e b;rw[h]at this;cases this
 show⟨d,λz=>?_,λz=>?_,b,λz=>?_⟩
 .obtain⟨_,o,q⟩:=a.E2 p z;rw[h]at q;cases q
 .obtain⟨⟨o,q⟩,_⟩:=a.par p z;rw[d]at q;cases q
 .obtain⟨_,_,_,o,q,_⟩:=a.root z;rw[h]at q;cases q
def eB.mv(m:Mv S H S' H')(i:Mv (PS C S) H (PS C S') H')(g:k.root=b5->∀r,v=.ref r->¬S' r/\∀o,H r=a5 o->H' r=a5 o)(h:eB C S H k u v):eB C S' H' k u v:=by
 cases k with
 |own =>
  have⟨r,e,l,a,b,c⟩:=h;have⟨d,f⟩:=g rfl r e;show⟨r,e,d,a,b,c.mv m f⟩
 |io =>
  have⟨r,e,l,a,b,c⟩:=h;have⟨d,f⟩:=g rfl r e;show⟨r,e,d,a,b,c.mv m f⟩
 |loc=>show Rep.mv m h
 |any=>show Rep.mv i h
 |bor j=>show h.elim
 |Ds=>show h
structure Nx(c c':Cf):Prop extends Ns c c' where
 all:∀a o,c.H a=a5 o->c'.H a=a5 o
instance {c a:Cf}:Coe (Nx c a) (Ns c a):=⟨Nx.toNs⟩
def Nx.refl(c:Cf):Nx c c:=⟨.refl c,λ_ _ h=>h⟩
def Nx.trans(m:Nx c b)(n:Nx b d):Nx c d:=⟨m.toNs.trans n.toNs,λa o h=>n.all a o (m.all a o h)⟩
def Nx.none(n:Nx c b)(h:b.H a=.none):c.H a=.none:=n.toNs.none h
def Ok.lay(d:Ok C c)(h:c.H p=b6):Ok C {c with H:=upd c.H p o}/\Nx c {c with H:=upd c.H p o}:=by
 have m:∀{a:hQ} {b:HO},c.H a=a5 b->a≠p:=λe z=>by subst z;rw[h]at e;cases e
 have f:∀a b,c.H a=a5 b->(upd c.H p o) a=a5 b:=λa b e=>by rw[ai (m e)];show e
 have nx:Nx c {c with H:=upd c.H p o}:=⟨⟨λa b e _=>f a b e,λa b e=>⟨b,f a b e⟩,λa z=>.inl z,λ_ z=>z,λ_ z=>.inl z⟩,f⟩
 show⟨⟨λa b e z=>f a b (d.same a b e z),λa z=>⟨(d.E2 a z).1,let ⟨b,q⟩:=(d.E2 a z).2;⟨b,f a b q⟩⟩,d.par,λa z=>⟨(d.io a z).1,let ⟨b,q⟩:=(d.io a z).2;⟨b,f a b q⟩⟩,d.len,λi k u e=>?_,d.inj,d.dd.hs (d.mv nx.toNs) λj a z=>⟨(d.root (.inr ⟨j,z⟩)).1,λb e=>f a b e⟩⟩,nx⟩;have⟨v,n,g⟩:=d.sl i k u e;show⟨v,n,g.mv (d.mv nx.toNs) (d.G3 nx.toNs) λhk r s=>?_⟩;obtain⟨w,l,t,_⟩:=g.rt hk;rw[s]at l;cases l;show⟨t,λb e=>f r b e⟩
def Ok.grow(d:Ok C c)(hs:tU c.H H')(h:∀a,S' a->c.S a\/(c.H a=b6/\∃o,H' a=a5 o))(s:∀a,c.S a->S' a):Ok C {c with H:=H',S:=S' }/\Nx c {c with H:=H',S:=S' }:=by
 have nx:Nx c {c with H:=H',S:=S' }:=⟨⟨λa b e _=>hs a b e,λa b e=>⟨b,hs a b e⟩,λa z=>.inl z,s,λa z=>(h a z).imp id λq=>.inr q.1⟩,hs⟩
 show⟨⟨λa b e z=>hs a b (d.same a b e z),λa z=>?_,d.par,λa z=>⟨(d.io a z).1,let ⟨b,q⟩:=(d.io a z).2;⟨b,hs a b q⟩⟩,d.len,λi k u e=>?_,d.inj,d.dd.hs (d.mv nx.toNs) λj a z=>⟨λf=>?_,λb e=>hs a b e⟩⟩,nx⟩
 rotate_left 2
 .obtain⟨g,_,_,o,l,_⟩:=d.root (.inr ⟨j,z⟩);rcases h a f with f|⟨f,_⟩
  .show g f
  .rw[l]at f;cases f
 .rcases h a z with q|⟨g,m⟩
  .show⟨(d.E2 a q).1,let ⟨b,q⟩:=(d.E2 a q).2;⟨b,hs a b q⟩⟩
  .show⟨(d.jc g).1,m⟩
 .have⟨v,t,n⟩:=d.sl i k u e;show⟨v,t,n.mv (d.mv nx.toNs) (d.G3 nx.toNs) λhk r w=>?_⟩;have⟨x,p,g,m,y,l⟩:=n.rt hk;rw[w]at p;cases p;obtain⟨o,ho,_⟩:=l.some;show⟨λz=>?_,λb e=>hs r b e⟩;rcases h r z with z|⟨z,_⟩
  .show g z
  .rw[z]at ho;cases ho
def ay(C:Ct)(c0 c:Cf):Kd->U->V->Prop
 |.own,u,v=>∃r,v=.ref r/\c0.H r=b6/\¬c.S r/\¬c.R r/\cz C c.S c.H r u
 |.loc,u,v=>Rep C c.S c.H u v
 |.any,u,v=>Rep C (PS C c.S) c.H u v
 |.bor j,u,v=>(∃k:Kd,k.root=b5/\c.st[j]?=a5 (a5 (k,u)))/\c.σ[j]?=a5 (a5 v)
 |.io,_,_=>False
 |.Ds,_,_=>False
def eC(C:Ct)(c0 c:Cf):Kd->U->V->Prop
 |.own,u,v=>∃r,v=.ref r/\c0.H r=b6/\¬c.S r/\¬c.R r/\cz C c.S c.H r u
 |.loc,u,v=>Rep C c.S c.H u v
 |.any,u,v=>Rep C (PS C c.S) c.H u v
 |.bor j,u,v=>c.σ[j]?=a5 (a5 v)
 |.io,_,_=>False
 |.Ds,_,_=>False
def ay.w(h:ay C c0 c k u v):eC C c0 c k u v:=by
 cases k with
 |bor j=>show h.2
 |_=>show h
def eC.Oc(a:Ok C c)(n:Ns c b)(g:∀j,k=.bor j->b.σ[j]?=c.σ[j]?)(h:eC C c0 c k u v):eC C c0 b k u v:=by
 cases k with
 |own =>
  have⟨r,e,i,l,d,f⟩:=h;obtain⟨o,ho,_⟩:=f.some;show⟨r,e,i,λz=>?_,λz=>?_,f.mv (a.mv n) λo q=>n.keep r o q d⟩
  .rcases n.new r z with z|z|z
   .show l z
   .show d z
   .rw[z]at ho;cases ho
  .rcases n.roots r z with z|z
   .show d z
   .rw[z]at ho;cases ho
 |loc=>show Rep.mv (a.mv n) h
 |any=>show Rep.mv (a.G3 n) h
 |bor j=>change b.σ[j]?=_;rw[g j rfl];show h
 |_=>show h
def eC.on(b:Ok C c)(n:Ns c a)(d:a.σ=c.σ)(h:eC C c0 c k u v):eC C c0 a k u v:=h.Oc b n λj _=>by rw[d]
def eC.from(n:Ns c0 c1)(h:eC C c1 c k u v):eC C c0 c k u v:=by
 cases k with
 |own=>have⟨r,e,a,b⟩:=h;show⟨r,e,n.none a,b⟩
 |_=>show h
def ay.from(n:Ns c0 c1)(h:ay C c1 c k u v):ay C c0 c k u v:=by
 cases k with
 |own=>have⟨r,e,a,b⟩:=h;show⟨r,e,n.none a,b⟩
 |_=>show h
def SK(C:Ct)(c:Cf):Kd->hQ->Prop
 |.any=>PS C c.S
 |_=>c.S
abbrev kE:Kd->Kd
 |.any=>.any
 |_=>.loc
def Ok.rootOf(b:Ok C c){j:Nat}(h:∃k:Kd,k.root=b5/\c.st[j]?=a5 (a5 (k,u)))(e:c.σ[j]?=a5 (a5 v)):∃r,v=.ref r/\¬c.S r/\¬C.Ge r/\(C.H₀ r=b6\/C.IO r)/\cz C c.S c.H r u:=by
 have⟨k,hk,h⟩:=h;have⟨f,a,d⟩:=b.sl j _ _ h;rw[e]at a;cases a;show d.rt hk
def ay.list(f:Ok C c)(h:ay C c0 c k (.lst us) v):∃a vs,v=.ref a/\D3 C.K c.H a vs/\ae C (SK C c k) c.H us vs:=by
 cases k with
 |own=>obtain⟨r,e,_,_,_,vs,b,d⟩:=h;show⟨r,vs,e,D3.of b,d⟩
 |bor j=>obtain⟨r,e,_,_,_,vs,b,d⟩:=f.rootOf h.1 h.2;show⟨r,vs,e,D3.of b,d⟩
 |io=>show h.elim
 |Ds=>show h.elim
 |_=>have⟨a,vs,e,b,d⟩:=h;show⟨a,vs,e,b.sq,d⟩
def ay.tuple(b:Ok C c)(h:ay C c0 c k (.tup us) v):∃a vs,v=.ref a/\DU C.K c.H a vs/\ae C (SK C c k) c.H us vs:=by
 cases k with
 |own=>obtain⟨r,e,_,_,_,h⟩:=h;show h.elim
 |bor j=>obtain⟨r,e,_,_,_,h⟩:=b.rootOf h.1 h.2;show h.elim
 |io=>show h.elim
 |Ds=>show h.elim
 |_=>have⟨a,vs,e,d,f⟩:=h;show⟨a,vs,e,d,f⟩
def ay.flat(b:Ok C c)(a:DZ u=b5)(h:ay C c0 c k u v):Rep C c.S c.H u v:=by
 cases k with
 |own=>obtain⟨r,e,_,_,_,h⟩:=h;cases u<;>simp[DZ]at a<;>show h.elim
 |loc=>show h
 |any=>show Rep.DZ a h
 |bor j=>obtain⟨r,e,_,_,_,h⟩:=b.rootOf h.1 h.2;cases u<;>simp[DZ]at a<;>show h.elim
 |_=>show h.elim
def ay.int(a:Ok C c)(h:ay C c0 c k (.int i) v):v=.int i:=h.flat a rfl
def ay.str(a:Ok C c)(h:ay C c0 c k (.str x) v):v=.str x:=h.flat a rfl
def ay.bl(a:Ok C c)(h:ay C c0 c k (.bl b) v):v=.bl b:=h.flat a rfl
def ay.item(h:Rep C (SK C c k) c.H u v):ay C c0 c (kE k) u v:=by
 cases k<;>show h
abbrev Fc(H:Hp):hQ->Prop:=λa=>∃o,H a=a5 o
def Ok.wR(b:Ok C c):∀a,c.S a->Fc c.H a:=λa h=>(b.E2 a h).2
def Ok.Dg(b:Ok C c):∀a,PS C c.S a->Fc c.H a:=λa h=>by
 rcases h with h|h
 .obtain⟨⟨o,e⟩,n⟩:=b.par a h;show⟨o,b.same a o e n⟩
 .show b.wR a h
def ay.read(a:Ok C c)(h:ay C c0 c k u v):Rep C (Fc c.H) c.H u v:=by
 cases k with
 |own =>
  obtain⟨r,e,_,_,_,b⟩:=h;rw[e];obtain⟨o,ho,_⟩:=b.some;show b.rep a.wR ⟨o,ho⟩
 |loc=>show Rep.mv (.up a.wR) h
 |any=>show Rep.mv (.up a.Dg) h
 |bor j =>
  obtain⟨r,e,_,_,_,b⟩:=a.rootOf h.1 h.2;rw[e];obtain⟨o,ho,_⟩:=b.some;show b.rep a.wR ⟨o,ho⟩
 |_=>show h.elim
def Ok.newList(a:Ok C c)(n:Nx c0 c)(h:c.H p=b6)(d:ae C c.S c.H us vs):
  Ok C {c with H:=upd c.H p (.lst vs)}/\Nx c0 {c with H:=upd c.H p (.lst vs)}/\ay C c0 {c with H:=upd c.H p (.lst vs)} .own (.lst us) (.ref p):=by
 have⟨e,b⟩:=a.lay (o:=.lst vs) h;have⟨i,f,j,k,g⟩:=a.jc h;show⟨e,n.trans b,p,rfl,n.none h,f,g,vs,aq,d.mv (a.mv b.toNs)⟩
def Ok.zL(a:Ok C c)(n:Nx c0 c)(h:c.H p=b6)(d:ae C c.S c.H us vs):
  Ok C {c with H:=upd c.H p (.tup vs)}/\Nx c0 {c with H:=upd c.H p (.tup vs)}/\ay C c0 {c with H:=upd c.H p (.tup vs)} .loc (.tup us) (.ref p):=by
 have⟨e,b⟩:=a.lay (o:=.tup vs) h;show⟨e,n.trans b,p,vs,rfl,DU.of aq,d.mv (a.mv b.toNs)⟩
end
inductive Ex(α:Type) where|ok (a:α)|exc (c:Str)
abbrev M(α:Type):=ak->Option (Ex α×ak)
namespace M
abbrev pure(a:α):M α:=λst=>a5 (.ok a,st)
abbrev fail:M α:=λ_=>b6
abbrev bind(m:M α)(f:α->M β):M β:=λst=>match m st with
 |none=>b6
 |some (.ok a,st')=>f a st'
 |some (.exc c,st')=>a5 (.exc c,st')
abbrev DQ(o:Option α):M α:=λst=>match o with
 |none=>b6
 |some a=>a5 (.ok a,st)
end M
noncomputable instance:Monad M:={pure:=M.pure,bind:=M.bind}
abbrev W{α:Type}(m:M α)(st:ak)(Q:α->ak->Prop):Prop:=∃a st',m st=a5 (.ok a,st')/\Q a st'
section
def af:W (pure a) st Q↔Q a st:=by
 constructor
 .rintro⟨b,st',e,h⟩;cases e;show h
 .intro h;show⟨a,st,rfl,h⟩
def ab:W (m >>= f) st Q↔W m st λa st'=>W (f a) st' Q:=by
 constructor
 .rintro⟨b,st',e,h⟩;have d:M.bind m f st=a5 (.ok b,st'):=e;unfold M.bind at d;cases q:m st with
  |none=>rw[q]at d;cases d
  |some r =>
   have⟨r,s1⟩:=r;rw[q]at d;cases r with
   |ok a=>show⟨a,s1,q,b,st',d,h⟩
   |exc c=>cases d
 .rintro⟨a,s1,q,b,st',e,h⟩;show⟨b,st',?_,h⟩;change M.bind m f st=_;unfold M.bind;rw[q];show e
def b8:W (M.DQ o) st Q↔∃a,o=a5 a/\Q a st:=by
 cases o with
 |none=>show⟨λ⟨_,_,e,_⟩=>(by cases e),λ⟨_,e,_⟩=>(by cases e)⟩
 |some a=>show⟨λ⟨_,_,e,h⟩=>(by cases e;show⟨a,rfl,h⟩),λ⟨_,e,h⟩=>(by cases e;show⟨a,st,rfl,h⟩)⟩
def aU:W (M.fail:M α) st Q↔False:=⟨λ⟨_,_,e,_⟩=>(by cases e),J8⟩
def W.mono(h:W m st Q)(i:∀a s,Q a s->Q' a s):W m st Q':=let ⟨a,s,e,q⟩:=h;⟨a,s,e,i a s q⟩
end
inductive KC where|add|sub|mul|Fo|mod|pow
deriving DecidableEq
inductive JT where|eq|ne|lt|le|gt|ge|isin|Dv|is|Mt
deriving DecidableEq
inductive Bf where|len|sorted|list|tuple|str|int|repr|max|min|all|any
deriving DecidableEq
inductive B2 where|Gf|Gg|sset|mS
deriving DecidableEq
inductive Mf where|split|join|partition|endswith
deriving DecidableEq
inductive QG where|str|list|tuple|int|bool
deriving DecidableEq
inductive Ik where|seq|DV|QH|HS|zip|rev
deriving DecidableEq
inductive E where
 |var (i:Nat)
 |cst (u:U)
 |KD (x:Str) (u:U)
 |bin (op:KC) (a b:E)
 |cmp (op:JT) (a b:E)
 |Gh (o1 o2:JT) (a b c:E)
 |and (es:List E)|or (es:List E)|not (a:E)
 |ite (c a b:E)
 |tup (es:List E)|lst (es:List E)|EV (r:Bool)
 |idx (a b:E)
 |FX (a:E) (lo hi:List E)
 |bi (f:Bf) (es:List E)
 |Gi (f:B2) (es:List E)
 |Gj (m:Mf) (a:E) (es:List E)
 |call (f:Str) (es:List E)
 |comp (k:Nat) (t:Bool) (ik:Ik) (src:List E) (cond:List E) (e:E)
 |neg (a:E)|bad|KG (a:E) (T:QG)|fst (es:List E)|inD (neg:Bool) (a:E) (i:Nat)|II (i:Nat)|Fp (i:Nat) (k d:E)|IJ (i:Nat)|KH (ln:Bool) (a b:E)
 |HU (a:E)
inductive S where
 |set (i:Nat) (e:E)
 |G4 (is:List Nat) (e:E)
 |put (i:Nat) (k v:E)
 |app (i:Nat) (e:E)|ext (i:Nat) (e:E)|bad|newD (i:Nat)|putD (i:Nat) (k v:E)|E3 (i:Nat) (k v:E)|aug (sub:Bool) (i:Nat) (k v:E)|KI (i:Nat)
 |exp (e:E)
 |ret (e:E)|G5
 |ite (c:E) (a b:List S)
 |DJ (t:Bool) (is:List Nat) (ik:Ik) (src:List E) (body:List S)
 |HV (c:E) (body:List S)
 |brk|cnt|KJ
 |Gk (i:Nat) (f:Str) (es:List E) (c:E)|GK (f:Str) (es:List E)
abbrev isAny:Kd->Bool
 |.any=>b5
 |_=>df
abbrev jd(k:Kd)(xs:List U):Bool:=!isAny k||fA xs
abbrev kT(k k':Kd):Kd:=if isAny k||isAny k' then .any else .loc
abbrev cut{α:Type}(xs:List α)(lo a:Option Int):List α:=(xs.drop (HT.DA xs.length 0 lo)).take (HT.DA xs.length xs.length a - HT.DA xs.length 0 lo)
abbrev uu:Kd×U->Kd×U->Option (Kd×U)
 |(_,.int i),(_,.int j)=>a5 (.loc,.int (i+j))
 |(_,.str x),(_,.str y)=>if x.length+y.length<=dV then a5 (.loc,.str (x++y)) else b6
 |(k,.lst xs),(k',.lst a)=>if xs.length+a.length<=dV/\jd k xs=b5/\jd k' a=b5 then a5 (.own,.lst (xs++a)) else b6
 |(k,.tup xs),(k',.tup a)=>if xs.length+a.length<=dV then a5 (kT k k',.tup (xs++a)) else b6
 |_,_=>b6
abbrev o_(f:Int->Int->Option Int):U->U->Option (Kd×U)
 |.int i,.int j=>(f i j).map λn=>(.loc,.int n)
 |_,_=>b6
abbrev wU(i j:Int):Option Int:=if ((-(2 ^ 64)<i/\i<2 ^ 64)\/(-(2 ^ 64)<j/\j<2 ^ 64)) then a5 (i * j) else b6
abbrev wV(i j:Int):Option Int:=if 0<j/\j<1073741824 then a5 (i / j) else b6
abbrev wW(i j:Int):Option Int:=if 0<j then a5 (i % j) else b6
abbrev wX(i j:Int):Option Int:=if 0<=j/\j<=1000000/\i.natAbs<2 ^ 64 then a5 (i ^ j.toNat) else b6
abbrev Fq(op:KC)(x y:Kd×U):Option (Kd×U):=match op with
 |.add=>uu x y
 |.sub=>o_ (λi j=>a5 (i - j)) x.2 y.2
 |.mul=>o_ wU x.2 y.2
 |.Fo=>o_ wV x.2 y.2
 |.mod=>o_ wW x.2 y.2
 |.pow=>o_ wX x.2 y.2
mutual
noncomputable def EC:Nat->U->Bool
 |_,.Dt _ _=>df
 |_,.Ec _=>df
 |_,.DT _=>df
 |0,.tup _=>df
 |0,.lst _=>df
 |n+1,.tup xs=>cB n xs
 |n+1,.lst xs=>cB n xs
 |_,.DB=>b5|_,.bl _=>b5|_,.int _=>b5|_,.str _=>b5
noncomputable def cB:Nat->List U->Bool
 |_,[]=>b5
 |n,u::us=>EC n u&&cB n us
end
mutual
noncomputable def bM:U->U->Bool
 |.DB,.DB=>b5
 |.bl a,.bl b=>a==b
 |.bl a,.int b=>(if a then 1 else 0)==b
 |.int a,.bl b=>a==(if b then 1 else 0)
 |.int a,.int b=>a==b
 |.str a,.str b=>a==b
 |.tup xs,.tup c=>bW xs c
 |.lst xs,.lst c=>bW xs c
 |_,_=>df
noncomputable def bW:List U->List U->Bool
 |[],[]=>b5
 |u::us,w::ws=>bM u w&&bW us ws
 |_,_=>df
end
abbrev G6(x:U)(a:List U):Option Bool:=if EC 50 x=b5/\cB 50 a=b5 then a5 (a.any λy=>bM y x) else b6
abbrev strsOf:List U->Option (List Str)
 |[]=>a5 []
 |.str x::us=>(strsOf us).map (x::·)
 |_::_=>b6
abbrev rowOf:U->Option jX
 |.tup [.str x,.tup a]=>(strsOf a).map λss=>(x,ss)
 |_=>b6
abbrev sg:U->U->Option Bool
 |x,.lst a=>G6 x a
 |x,.tup a=>G6 x a
 |.str x,.Dt ks _=>a5 (ez (x∈ks))
 |x,.Ec ks=>(rowOf x).map λr=>ez (r∈ks)
 |_,_=>b6
abbrev cQ:List Str->List U->Str->Option U
 |y::ks,u::us,x=>if y=x then a5 u else cQ ks us x
 |_,_,_=>b6
abbrev dput(ks:List Str)(us:List U)(x:Str)(u:U):List Str×List U :=
 if x∈ks then(ks,(ks.zip us).map λp=>if p.1=x then u else p.2) else(ks++[x],us++[u])
abbrev bB:JT->U->U->Option Bool
 |.eq,a,b=>if EC 50 a=b5/\EC 50 b=b5 then a5 (bM a b) else b6
 |.ne,a,b=>if EC 50 a=b5/\EC 50 b=b5 then a5 (!bM a b) else b6
 |.lt,.int i,.int j=>a5 (ez (i<j))
 |.gt,.int i,.int j=>a5 (ez (j<i))
 |.ge,.int i,.int j=>a5 (ez (j<=i))
 |.isin,x,y=>sg x y
 |.Dv,x,y=>(sg x y).map (!·)
 |_,_,_=>b6
abbrev je:List U->Option (List Bool)
 |[]=>a5 []
 |.bl x::us=>(je us).map (x::·)
 |_::_=>b6
abbrev gv:Kd×U->U->Option (Kd×U)
 |(k,.lst xs),.int i=>(DL xs i).map λu=>(kE k,u)
 |(k,.tup xs),.int i=>(DL xs i).map λu=>(kE k,u)
 |(_,.str x),.int i=>if x.length<=dV then(DL x.cps.toList i).map λc=>(.loc,.str ⟨#[c]⟩) else b6
 |(.any,.DT xs),.int i=>(DL xs i).map λu=>(.any,u)
 |_,_=>b6
abbrev pd:Kd×U->Option Int->Option Int->Option (Kd×U)
 |(k,.lst xs),lo,a=>if jd k xs=b5 then a5 (.own,.lst (cut xs lo a)) else b6
 |(.any,.DT xs),lo,a=>if fA xs=b5 then a5 (.own,.lst (cut xs lo a)) else b6
 |(k,.tup xs),lo,a=>a5 (kE k,.tup (cut xs lo a))
 |(_,.str x),lo,a=>if x.length<=dV then a5 (.loc,.str (PySem.StrLaws.sliceText x lo a)) else b6
 |_,_,_=>b6
abbrev zM:U->Option Nat
 |.lst xs=>a5 xs.length
 |.tup xs=>a5 xs.length
 |.str x=>if x.length<=dV then a5 x.length else b6
 |.DT xs=>a5 xs.length
 |_=>b6
mutual
noncomputable def cv:U->Option UR
 |.DB=>a5 .none
 |.bl b=>a5 (.bool b)
 |.int i=>a5 (.int i)
 |.str x=>a5 (.str x)
 |.tup us=>(d4 us).map .tuple
 |.lst us=>(d4 us).map .list
 |.Dt _ _=>b6
 |.Ec _=>b6
 |.DT _=>b6
noncomputable def d4:List U->Option (List UR)
 |[]=>a5 []
 |u::us=>(cv u).bind λd=>(d4 us).map (d::·)
end
abbrev yu:U->Bool
 |.tup _=>b5
 |.lst _=>b5
 |_=>df
abbrev qH(u:U):Option (Kd×U):=(cv u).bind λd=>if d.showable=b5/\d.depth<=50/\d.shown.length<=dV/\yu u=b5 then a5 (.loc,.str d.shown) else b6
abbrev gw{β:Type}(f:Kd×U->Option β):List (Kd×U)->Option β
 |[x]=>f x
 |_=>b6
abbrev intsOf:List U->Option (List Int)
 |[]=>a5 []
 |.int x::us=>(intsOf us).map (x::·)
 |_::_=>b6
abbrev zN:Kd×U->Option (Kd×U)
 |(_,.lst xs)=>(strsOf xs).bind λss=>if ss.length<64 then a5 (.own,.lst ((av ss).map .str)) else b6
 |(_,.Dt ks _)=>if ks.length<64 then a5 (.own,.lst ((av ks).map .str)) else b6
 |(_,.tup xs)=>(strsOf xs).bind λss=>if ss.length<64 then a5 (.own,.lst ((av ss).map .str)) else b6
 |_=>b6
abbrev zO:Kd×U->Option (Kd×U)
 |(k,.lst xs)=>a5 (kE k,.tup xs)
 |(k,.tup xs)=>a5 (kE k,.tup xs)
 |_=>b6
abbrev wY:Kd×U->Option (Kd×U)
 |(_,.int i)=>if i.natAbs.log2<1920 then a5 (.loc,.str (Wk i)) else b6
 |_=>b6
abbrev zP:Kd×U->Option (Kd×U)
 |(_,.lst xs)=>qH (.lst xs)
 |(_,.tup xs)=>qH (.tup xs)
 |_=>b6
abbrev zQ:Kd×U->Option (Kd×U)
 |(_,.lst xs)=>(je xs).map λa=>(.loc,.bl (a.all id))
 |_=>b6
abbrev EW(f:Bf)(rs:List (Kd×U)):Option (Kd×U):=match f with
 |.len=>gw (λx=>(zM x.2).map λ(n:Nat)=>(Kd.loc,U.int (n:Int))) rs
 |.sorted=>gw zN rs
 |.tuple=>gw zO rs
 |.str=>gw wY rs
 |.repr=>gw zP rs
 |.all=>gw zQ rs
 |_=>b6
abbrev pe:U->Option (List Str)
 |.lst xs=>(strsOf xs).bind λss=>if ss.length+1<HH then a5 (au ss) else b6
 |.tup xs=>(strsOf xs).bind λss=>if ss.length+1<HH then a5 (au ss) else b6
 |_=>b6
abbrev si(f:B2)(rs:List (Kd×U)):Option (Kd×U):=match f with
 |.Gf=>b6
 |.Gg=>b6
 |.sset=>gw (λx=>(pe x.2).bind λss=>if ss.length<64 then a5 (.own,.lst ((av ss).map .str)) else b6) rs
 |.mS=>b6
abbrev jf:Mf->U->List (Kd×U)->Option (Kd×U)
 |.split,.str a,[(_,.str b)]=>if (b.length==0)=df/\a.length+2<=dV then a5 (.own,.lst ((Lf a b).map .str)) else b6
 |.join,.str a,[(_,.lst xs)]=>(strsOf xs).bind λss=>if VH a ss=b5 then a5 (.loc,.str (RL a ss)) else b6
 |_,_,_=>b6
abbrev Dh:Kd×U->Option (List (Kd×U))
 |(k,.lst xs)=>a5 (xs.map λu=>(kE k,u))
 |(k,.tup xs)=>a5 (xs.map λu=>(kE k,u))
 |_=>b6
abbrev sj:Kd×U->Option (List (Kd×U))
 |(_,.int n)=>if n<2 ^ 62/\-(2 ^ 62)<n then a5 ((hE n.toNat).map λi:Nat=>(Kd.loc,U.int (0+(i:Int)))) else b6
 |_=>b6
abbrev zR:Kd×U->Option (List (Kd×U))
 |(k,.lst xs)=>a5 (xs.zipIdx.map λp=>(kE k,.tup [.int p.2,p.1]))
 |(k,.tup xs)=>a5 (xs.zipIdx.map λp=>(kE k,.tup [.int p.2,p.1]))
 |_=>b6
abbrev Fd(a:Ik)(rs:List (Kd×U)):Option (List (Kd×U)):=match a with
 |.seq=>gw Dh rs
 |.DV=>gw sj rs
 |.HS=>gw zR rs
 |_=>b6
abbrev wZ(ps:List (Str×Int)):List (Str×Int):=(dn (ps.map (·.1))).map λi=>ps.getD i (td,0)
abbrev sk(p:Str×Int):U:=.tup [.str p.1,.int p.2]
abbrev uw:U->Option (Kd×U)
 |.Dt ks us=>(intsOf us).bind λns=>if ks.length<64/\ks.Nodup/\ks.length=ns.length then a5 (.own,.lst ((wZ (ks.zip ns)).map sk)) else b6
 |_=>b6
abbrev uA:U->Option Bool
 |.bl b=>a5 b
 |.lst xs=>a5 !xs.isEmpty
 |.tup xs=>a5 !xs.isEmpty
 |.str x=>if x.length<=dV then a5 ((x.length:Int) != 0) else b6
 |_=>b6
abbrev lift:Kd×U->M U
 |(.own,u)=>pure u
 |(.loc,u)=>pure u
 |(.any,u)=>if DZ u=b5 then pure u else M.fail
 |(.bor j,_)=>λst=>match st[j]? with
  |some (a5 (.own,u))=>a5 (.ok u,st.set j (a5 (.loc,u)))
  |_=>b6
 |(.io,_)=>M.fail
 |(.Ds,_)=>M.fail
abbrev cw:List (Kd×U)->M (List U)
 |[]=>pure []
 |r::rs=>do let u <-lift r;let us <-cw rs;pure (u::us)
abbrev d5(i:Nat):Kd×U->M Unit
 |(.bor j,_)=>λst=>match st[j]? with
  |some (a5 (.own,u))=>a5 (.ok (),(st.set j (a5 (.loc,u))).set i (a5 (.loc,u)))
  |_=>b6
 |(.io,_)=>M.fail
 |(.Ds,_)=>M.fail
 |(k,u)=>λst=>a5 (.ok (),st.set i (a5 (k,u)))
def aY:List (Kd×U)->ak->Prop
 |[],_=>True
 |(.bor j,u)::rs,st=>(∃k:Kd,k.root=b5/\st[j]?=a5 (a5 (k,u)))/\aY rs st
 |_::rs,st=>aY rs st
open Classical in
abbrev ar(rs:List (Kd×U)):M Unit:=λst=>if aY rs st then a5 (.ok (),st) else b6
@[reducible]def Tab:=Str->List U->Option (Ex (Kd×U))
abbrev jg(Γ:Tab)(f:Str)(us:List U):M (Kd×U):=λst=>match Γ f us with
 |some (.ok (.any,_))=>b6
 |none=>b6
 |some r=>a5 (r,st)
abbrev cW(i:Nat):M (Kd×U):=λst=>match st[i]? with
 |some (a5 (.Ds,_))=>b6
 |some (a5 (k,u))=>a5 (.ok (if k.root=b5 then .bor i else k,u),st)
 |_=>b6
abbrev fT(i:Nat):M (List Str×List U):=λst=>match st[i]? with
 |some (a5 (.Ds,.Dt ks us))=>a5 (.ok (ks,us),st)
 |_=>b6
abbrev il(x:Kd×U):M Str:=match x.2 with
 |.str y=>pure y
 |_=>M.fail
abbrev Mu(neg:Bool)(y:Str)(ks:List Str):Bool:=if neg=b5 then !ez (y∈ks) else ez (y∈ks)
abbrev uB(i:Nat):M (Kd×U):=λst=>match st[i]? with
 |some (a5 (.Ds,u))=>a5 (.ok (.bor i,u),st.set i (a5 (.own,u)))
 |_=>cW i st
abbrev yw(i:Nat):M Unit:=λst=>a5 (.ok (),st.set i (a5 (.Ds,.Dt [] [])))
abbrev jh(i:Nat)(y:Str):Kd×U->M Unit
 |(.own,.lst us)=>λst=>match st[i]? with
  |some (a5 (.Ds,.Dt ks vs))=>if y∉ks/\ks.length<dV then a5 (.ok (),st.set i (a5 (.Ds,.Dt (ks++[y]) (vs++[.lst us])))) else b6
  |_=>b6
 |_=>M.fail
abbrev ip:List Str->List U->Str->U->List U
 |k::ks,v::vs,y,u=>if k=y then u::vs else v::ip ks vs y u
 |_,vs,_,_=>vs
abbrev ji(i:Nat)(y:Str)(u:U):M Unit:=λst=>match st[i]? with
 |some (a5 (.Ds,.Dt ks vs))=>match cQ ks vs y with
  |some (.lst xs)=>if xs.length<dV then a5 (.ok (),st.set i (a5 (.Ds,.Dt ks (ip ks vs y (.lst (xs++[u])))))) else b6
  |_=>b6
 |_=>b6
abbrev Mw:U->M Unit
 |.Dt _ _=>pure ()
 |_=>M.fail
abbrev w9(x:Kd×U)(y:Str)(u:U):Option (Kd×U):=match x with
 |(k,.Dt ks us)=>a5 (match cQ ks us y with|some v=>(kE k,v)|none=>(.loc,u))
 |_=>b6
abbrev nu(i:Nat):M (List U):=λst=>match st[i]? with
 |some (a5 (k,.lst us))=>if k.root=b5 then a5 (.ok us,st) else b6
 |_=>b6
abbrev sm(x:Kd×U):M Int:=match x.2 with
 |.int j=>pure j
 |_=>M.fail
abbrev nv(us:List U)(j:Int):Option Int:=if 0<=j then(match us[j.toNat]? with|some (.int o)=>a5 o|_=>b6) else b6
abbrev so(sub:Bool)(o w:Int):Int:=if sub=b5 then o - w else o+w
abbrev Di:U->Option U
 |.lst us=>a5 (.lst us.reverse)
 |_=>b6
abbrev sets:List Nat->List (Kd×U)->M Unit
 |[],[]=>pure ()
 |i::is,r::rs=>do d5 i r;sets is rs
 |_,_=>M.fail
abbrev cL(t:Bool)(is:List Nat)(r:Kd×U):M Unit:=match t,is,r with
 |false,[i],r=>d5 i r
 |true,is,(k,.tup xs)=>sets is (xs.map λu=>(kE k,u))
 |_,_,_=>M.fail
abbrev inScope{α:Type}(k:Nat)(m:M α):M α:=λst=>match m (l0 k b6++st) with
 |none=>b6
 |some (r,st')=>a5 (r,st'.drop k)
abbrev bp(k:Nat)(t:Bool)(cond:M Bool)(elt:M (Kd×U))(src:List (Kd×U)):List (Kd×U)->List U->M (List U)
 |[],acc=>do ar src;pure acc
 |x::xs,acc=>do
  ar src
  let r <-inScope k (cL t (hE k) x >>= λ_=>cond >>= λb=>if b=b5 then(elt >>= λr=>lift r >>= λu=>pure (a5 u)) else pure b6)
  match r with
  |some u=>if acc.length<dV then bp k t cond elt src xs (acc++[u]) else M.fail
  |none=>bp k t cond elt src xs acc
abbrev w_:Kd×U->Option (Kd×U)
 |(k,.tup xs)=>a5 (kE k,.tup xs.reverse)
 |_=>b6
abbrev Dj:Kd×U->Option (Kd×U)
 |(_,.int i)=>a5 (.loc,.int (-i))
 |_=>b6
abbrev zS(x:Kd×U):M (Option Int):=match x.2 with
 |.int i=>pure (a5 i)
 |_=>M.fail
abbrev IK:U->M Unit
 |.lst _=>pure ()
 |_=>M.fail
section
variable(Γ:Tab)
mutual
noncomputable def ev:E->M (Kd×U)
 |.var i=>cW i
 |.cst u=>pure (.loc,u)
 |.KD _ u=>pure (.loc,u)
 |.bin op a b=>do
  let x <-ev a
  let y <-ev b
  ar [x,y]
  M.DQ (Fq op x y)
 |.cmp op a b=>do
  let x <-ev a
  let y <-ev b
  ar [x,y]
  let c <-M.DQ (bB op x.2 y.2)
  pure (.loc,.bl c)
 |.Gh _ _ _ _ _=>M.fail
 |.and es=>uC es
 |.or _=>M.fail
 |.not a=>do
  let x <-ev a
  match x.2 with
  |.bl c=>pure (.loc,.bl !c)
  |_=>M.fail
 |.ite c a b=>do
  let p <-DO c
  if p=b5 then ev a else ev b
 |.tup es=>do
  let rs <-a_ es
  ar rs
  let us <-cw rs
  if us.length<=dV then pure (.loc,.tup us) else M.fail
 |.lst es=>do
  let rs <-a_ es
  ar rs
  let us <-cw rs
  if us.length<=dV then pure (.own,.lst us) else M.fail
 |.EV r=>pure (.own,if r=b5 then .Ec [] else .Dt [] [])
 |.idx a b=>do
  let x <-ev a
  let y <-ev b
  ar [x,y]
  M.DQ (gv x y.2)
 |.FX a lo g=>do
  let x <-ev a
  let l <-HW lo
  let h <-HW g
  ar [x]
  M.DQ (pd x l h)
 |.bi f es=>do
  let rs <-a_ es
  ar rs
  M.DQ (EW f rs)
 |.Gi f es=>do
  let rs <-a_ es
  ar rs
  M.DQ (si f rs)
 |.Gj m a es=>do
  let x <-ev a
  let rs <-a_ es
  ar (x::rs)
  M.DQ (jf m x.2 rs)
 |.call f es=>do
  let rs <-a_ es
  ar rs
  jg Γ f (rs.map (·.2))
 |.comp k t j src cond e=>do
  let rs <-a_ src
  ar rs
  let xs <-M.DQ (Fd j rs)
  let us <-bp k t (aF cond) (ev e) rs xs []
  pure (.own,.lst us)
 |.neg a=>do
  let x <-ev a
  M.DQ (Dj x)
 |.bad=>M.fail
 |.inD _ _ _=>M.fail
 |.II i=>uB i
 |.Fp i k d=>do
  let x <-cW i
  Mw x.2
  let y <-ev k
  let y <-il y
  let z <-ev d
  let u <-lift z
  let x <-cW i
  M.DQ (w9 x y u)
 |.IJ i=>do
  let x <-cW i
  M.DQ (uw x.2)
 |.HU a=>do
  let x <-ev a
  M.DQ (w_ x)
 |.KH _ _ _=>M.fail
 |.fst es=>M.fail
 |.KG a T=>M.fail
noncomputable def a_:List E->M (List (Kd×U))
 |[]=>pure []
 |e::es=>do let r <-ev e;let rs <-a_ es;pure (r::rs)
noncomputable def HW:List E->M (Option Int)
 |[]=>pure b6
 |[e]=>do let x <-ev e;zS x
 |_=>M.fail
noncomputable def uC:List E->M (Kd×U)
 |[]=>M.fail
 |[e]=>ev e
 |e::es=>do
  let x <-ev e
  match x.2 with
  |.bl b5=>uC es
  |.bl df=>pure (.loc,.bl df)
  |_=>M.fail
noncomputable def DO:E->M Bool
 |.and es=>aF es
 |.or es=>eD es
 |.not a=>do let b <-DO a;pure !b
 |.cmp op a b=>do
  let x <-ev a
  let y <-ev b
  ar [x,y]
  M.DQ (bB op x.2 y.2)
 |.var i=>do let x <-cW i;M.DQ (uA x.2)
 |.bi f es=>do
  let rs <-a_ es
  ar rs
  let r <-M.DQ (EW f rs)
  M.DQ (uA r.2)
 |.call f es=>do
  let rs <-a_ es
  ar rs
  let r <-jg Γ f (rs.map (·.2))
  M.DQ (uA r.2)
 |.Gh o1 o2 a b c=>do
  let x <-ev a
  let y <-ev b
  ar [x,y]
  let p <-M.DQ (bB o1 x.2 y.2)
  if p=b5 then do
   let z <-ev c
   ar [y,z]
   M.DQ (bB o2 y.2 z.2)
  else pure df
 |.inD neg a i=>do
  let x <-ev a
  let y <-il x
  let d <-fT i
  pure (Mu neg y d.1)
 |_=>M.fail
noncomputable def aF:List E->M Bool
 |[]=>pure b5
 |[e]=>DO e
 |e::es=>do let b <-DO e;if b=b5 then aF es else pure df
noncomputable def eD:List E->M Bool
 |[]=>pure df
 |[e]=>DO e
 |e::es=>do let b <-DO e;if b=b5 then pure b5 else eD es
end
inductive Fl where|nx|rt (k:Kd) (u:U)|bk|ct
abbrev retS:Kd×U->M Fl
 |(.own,u)=>pure (.rt .own u)
 |(.loc,u)=>pure (.rt .loc u)
 |(.any,u)=>if DZ u=b5 then pure (.rt .loc u) else pure (.rt .any u)
 |(.bor j,_)=>λst=>match st[j]? with
  |some (a5 (.own,u))=>a5 (.ok (.rt .own u),st.set j b6)
  |_=>b6
 |(.io,_)=>M.fail
 |(.Ds,_)=>M.fail
abbrev forM(t:Bool)(is:List Nat)(body:M Fl)(src:List (Kd×U)):List (Kd×U)->M Fl
 |[]=>do ar src;pure .nx
 |x::xs=>do
  ar src
  cL t is x
  let f <-body
  match f with
  |.nx=>forM t is body src xs
  |.ct=>forM t is body src xs
  |.bk=>pure .nx
  |.rt k u=>pure (.rt k u)
abbrev fB(c:M Bool)(body:M Fl):Nat->M Fl
 |0=>M.fail
 |n+1=>do
  let b <-c
  if b=b5 then do
   let f <-body
   match f with
   |.nx=>fB c body n
   |.ct=>fB c body n
   |.bk=>pure .nx
   |.rt k u=>pure (.rt k u)
  else pure .nx
abbrev modS(i:Nat)(f:U->Option U):M Unit:=λst=>match st[i]? with
 |some (a5 (k,u))=>if k.root=b5 then match f u with
   |some u'=>a5 (.ok (),st.set i (a5 (k,u')))
   |none=>b6
  else b6
 |_=>b6
abbrev uD(u:U):U->Option U
 |.lst xs=>if xs.length<dV then a5 (.lst (xs++[u])) else b6
 |_=>b6
abbrev jj:Kd×U->U->Option U
 |(k,.lst a),.lst xs=>if xs.length+a.length<=dV/\jd k a=b5 then a5 (.lst (xs++a)) else b6
 |(k,.tup a),.lst xs=>if xs.length+a.length<=dV/\jd k a=b5 then a5 (.lst (xs++a)) else b6
 |_,_=>b6
abbrev c_(x u:U):U->Option U
 |.Dt ks vs=>match x with
  |.str y=>if ks.length<dV then a5 (.Dt (dput ks vs y u).1 (dput ks vs y u).2) else b6
  |_=>b6
 |.Ec ks=>match rowOf x,u with
  |some r,.bl b5=>if r∉ks/\ks.length<=1000 then a5 (.Ec (ks++[r])) else b6
  |_,_=>b6
 |.lst xs=>match x with
  |.int i=>(F4 xs.length i).map λj=>.lst (xs.set j u)
  |_=>b6
 |_=>b6
abbrev qI:List U->U->Option U
 |[u,x]=>c_ x u
 |_=>λ_=>b6
abbrev KN:U->Bool
 |.lst a=>ez (a.length<1000)
 |_=>df
abbrev uE(F:List U->Option (Ex (Kd×U)))(i:Nat)(ms:M (List (Kd×U)))(a:M Bool):M Fl:=λst=>match st[i]?,(ms >>= λrs=>ar rs >>= λ_=>pure rs) st with
 |some b6,a5 (.ok rs,st1)=>match F (rs.map (·.2)) with
  |some (.ok (.own,.lst xs))=>match a (st1.set i (a5 (.own,.lst xs))) with
   |some (.ok df,_)=>if xs.all KN=b5/\xs.length<1000 then a5 (.ok .nx,st) else b6
   |_=>b6
  |_=>b6
 |_,_=>b6
abbrev uF(F:List U->Option (Ex (Kd×U)))(ms:M (List (Kd×U))):M Fl:=λst=>match (ms >>= λrs=>ar rs >>= λ_=>pure rs) st with
 |some (.ok rs,_)=>match F (rs.map (·.2)) with
  |some (.ok (.own,.lst xs))=>if xs.length<1000 then a5 (.ok .nx,st) else b6
  |_=>b6
 |_=>b6
abbrev fuel:Nat:=1000000000000
mutual
noncomputable def KO:S->Nat->Bool
 |.set i _,j=>ez (j≠i)
 |.G4 is _,j=>ez (j∉is)
 |.ite _ a b,j=>EI a j&&EI b j
 |.DJ _ is _ _ body,j=>ez (j∉is)&&EI body j
 |.HV _ body,j=>EI body j
 |.put _ _ _,_=>b5
 |.app _ _,_=>b5
 |.ext _ _,_=>b5
 |.bad,_=>b5
 |.newD i,j=>ez (j≠i)
 |.putD _ _ _,_=>b5
 |.E3 _ _ _,_=>b5
 |.aug _ _ _ _,_=>b5
 |.KI _,_=>b5
 |.exp _,_=>b5
 |.ret _,_=>b5
 |.G5,_=>b5
 |.brk,_=>b5
 |.cnt,_=>b5
 |.KJ,_=>b5
 |.Gk i _ _ _,j=>ez (j≠i)
 |.GK _ _,_=>b5
noncomputable def EI:List S->Nat->Bool
 |[],_=>b5
 |s::ss,j=>KO s j&&EI ss j
end
abbrev ny(rs:List (Kd×U))(is:List Nat)(body:List S):Bool:=rs.all λr=>match r.1 with
 |.bor j=>ez (j∉is)&&EI body j
 |_=>b5
mutual
noncomputable def exec:S->M Fl
 |.set i e=>do let r <-ev Γ e;d5 i r;pure .nx
 |.G4 is e=>do let r <-ev Γ e;cL b5 is r;pure .nx
 |.put i k v=>do
  let r <-ev Γ v
  let _ <-cW i
  let x <-ev Γ k
  let us <-cw [r,x]
  modS i (qI us)
  pure .nx
 |.app i e=>do
  let x <-cW i
  IK x.2
  let r <-ev Γ e
  let u <-lift r
  modS i (uD u)
  pure .nx
 |.ext i e=>do
  let x <-cW i
  IK x.2
  let r <-ev Γ e
  modS i (jj r)
  pure .nx
 |.bad=>M.fail
 |.newD i=>do yw i;pure .nx
 |.putD i k v=>do
  let r <-ev Γ v
  let d <-fT i
  let x <-ev Γ k
  let y <-il x
  jh i y r
  pure .nx
 |.E3 i k v=>do
  let _ <-fT i
  let x <-ev Γ k
  let y <-il x
  let d <-fT i
  if y∈d.1 then do
   let r <-ev Γ v
   let u <-lift r
   ji i y u
   pure .nx
  else M.fail
 |.aug sub i k v=>do
  let _ <-nu i
  let y <-ev Γ k
  let j <-sm y
  let us <-nu i
  let o <-M.DQ (nv us j)
  let z <-ev Γ v
  let w <-sm z
  modS i (c_ (.int j) (.int (so sub o w)))
  pure .nx
 |.KI i=>do
  modS i Di
  pure .nx
 |.exp e=>do let _ <-ev Γ e;pure .nx
 |.ret e=>do let r <-ev Γ e;retS r
 |.G5=>pure (.rt .loc .DB)
 |.ite c a b=>do let p <-DO Γ c;if p=b5 then execs a else execs b
 |.DJ t is g src body=>do
  let rs <-a_ Γ src
  ar rs
  let xs <-M.DQ (Fd g rs)
  if ny rs is body=b5 then forM t is (execs body) rs xs else M.fail
 |.HV c body=>fB (DO Γ c) (execs body) fuel
 |.brk=>pure .bk
 |.cnt=>pure .ct
 |.KJ=>pure .nx
 |.Gk i f es c=>uE (Γ f) i (a_ Γ es) (DO Γ c)
 |.GK f es=>uF (Γ f) (a_ Γ es)
noncomputable def execs:List S->M Fl
 |[]=>pure .nx
 |s::ss=>do
  let f <-exec s
  match f with
  |.nx=>execs ss
  |f=>pure f
end
end
structure Fn where
 name:Str
 np:Nat
 ns:Nat
 body:List S
abbrev start(us:List U)(n:Nat):ak:=us.map (λu=>a5 (if DZ u=b5 then Kd.loc else Kd.any,u))++l0 (n - us.length) b6
abbrev bS(Γ:Tab)(fn:Fn)(us:List U):Option (Ex (Kd×U)):=if us.length=fn.np then match execs Γ fn.body (start us fn.ns) with
  |some (.ok (.rt .own u),_)=>a5 (.ok (.own,u))
  |some (.ok (.rt .loc u),_)=>a5 (.ok (.loc,u))
  |some (.ok (.rt .any u),_)=>a5 (.ok (.any,u))
  |some (.ok .nx,_)=>a5 (.ok (.loc,.DB))
  |some (.exc c,_)=>a5 (.exc c)
  |_=>b6
 else b6
abbrev D8(P:List Fn):Nat->Tab
 |0=>λ_ _=>b6
 |d+1=>λf us=>match P.find? λfn=>ez (fn.name=f) with
  |some fn=>bS (D8 P d) fn us
  |none=>b6
end TM
namespace TM
open PySem L2
section
variable{X:Cx}{pins:List (hQ×Obj)}{σ:St}{H:Hp}{s:hH}{C:Ct}{S:hQ->Prop}
def qJ(I:Inv X pins σ H s)(h:D3 X.K H a vs):∃b:List eH,Vals vs b/\s.heap.IsList a b.toArray/\vs.length<=dV:=by
 have⟨b,r,p,z⟩:=I.list h;show⟨b,r,p.isList,z⟩
inductive D5(s:hH):Nat->U->eH->Prop where
 |DB {n:Nat}:D5 s n .DB .none
 |bl {n:Nat} {b:Bool}:D5 s n (.bl b) (.bool b)
 |int {n:Nat} {i:Int} {t:Tok}:D5 s n (.int i) (.int i t)
 |str {n:Nat} {y:Str} {t:Tok}:D5 s n (.str y) (.str y t)
 |tup {n:Nat} {us:List U} {A':List eH} {a:hQ}:us.length=A'.length->(∀j (hj:j<A'.length),D5 s n (us.getD j .DB) A'[j])->bW us us=b5->s.heap.IsTuple a A'.toArray->D5 s (n+1) (.tup us) (.ref a)
 |lst {n:Nat} {us:List U} {A':List eH} {a:hQ}:us.length=A'.length->(∀j (hj:j<A'.length),D5 s n (us.getD j .DB) A'[j])->bW us us=b5->s.heap.IsList a A'.toArray->D5 s (n+1) (.lst us) (.ref a)
def D5.self(h:D5 s n u x):bM u u=b5:=by
 cases h<;>first|assumption|simp[bM]
theorem D5.sr(f:∀u v x,EC n u=b5->Rep C S H u v->RelV v x->D5 s n u x):∀{us:List U}{vs:List V}{a:List eH},cB n us=b5->ae C S H us vs->Vals vs a->us.length=a.length/\(∀j (b:j<a.length),D5 s n (us.getD j .DB) a[j])/\bW us us=b5
 |[],_,_,_,h,r=>by cases h;cases r;show⟨rfl,λj b=>(nomatch b),rfl⟩
 |u::us,_,_,e,h,r=>by
  have⟨v,vs,rfl,c,g⟩:=h;simp only[cB,c4]at e;cases r with
  |cons d i =>
   have⟨l,k,y⟩:=D5.sr f e.2 g i;show⟨by simp[l],λj b=>?_,by rw[bW,(f _ _ _ e.1 c d).self,y];rfl⟩;cases j with
   |zero=>show f _ _ _ e.1 c d
   |succ j=>show k j (by simpa using b)
def D5.of(I:Inv X pins σ H s)(d:C.K=X.K):∀(n:Nat) (u:U) (v:V) (x:eH),EC n u=b5->Rep C S H u v->RelV v x->D5 s n u x:=by
 intro n;induction n with
 |zero=>intro u v x e h r;cases u<;>first|(simp[EC]at e;done)|(simp only[Rep]at h;subst h;first|(cases r;constructor)|(have⟨t,rfl⟩:=r;constructor))
 |succ n f =>
  intro u v x e h r;cases u with
  |tup us =>
   have⟨a,vs,rfl,b,c⟩:=h;cases r;obtain⟨g,rv,p,_⟩:=I.tuple (d▸b);have⟨l,k,y⟩:=D5.sr f (by simpa[EC] using e) c rv;show .tup l k y p
  |lst us =>
   have⟨a,vs,rfl,b,c⟩:=h;cases r;obtain⟨g,rv,p,_⟩:=qJ I (d▸b.sq);have⟨l,k,y⟩:=D5.sr f (by simpa[EC] using e) c rv;show .lst l k y p
  |_=>first|(simp[EC]at e;done)|(simp only[Rep]at h;subst h;first|(cases r;constructor)|(have⟨t,rfl⟩:=r;constructor))
def D5.inj:∀{n:Nat}{u w:U}{x:eH},D5 s n u x->D5 s n w x->u=w:=by
 intro n;induction n with
 |zero=>intro u w x h h';cases h<;>cases h'<;>rfl
 |succ n t =>
  have go:∀{us ws:List U} {c its':List eH} {a:hQ} {o i:Obj} {m q:Nat},us.length=c.length->(∀j (v:j<c.length),D5 s n (us.getD j .DB) c[j])->ws.length=its'.length->(∀j (v:j<its'.length),D5 s n (ws.getD j .DB) its'[j])->s.heap.get? a=a5 o->o.data=.seq c.toArray m->s.heap.get? a=a5 i->i.data=.seq its'.toArray q->us=ws:=by
   intro us ws c its' a o i m q l k f k' e d g d';rw[e]at g;cases g;rw[d]at d';injection d' with z _
   have:c=its':=by simpa using WN TR z
   subst this;show Ja ⋯ λj A B=>?_;have:=t (k j ⋯) (k' j ⋯);simpa[A,B] using this
  intro u w x h h';cases h with
  |tup l k y p =>
   cases h' with
   |tup f k' r b=>obtain⟨o,e,_,m,d⟩:=p;obtain⟨i,g,_,q,d'⟩:=b;rw[go l k f k' e d g d']
   |lst f k' r b=>show absurd rfl (TQ b p)
  |lst l k y p =>
   cases h' with
   |lst f k' r b=>obtain⟨o,e,_,m,d⟩:=p;obtain⟨i,g,_,q,d'⟩:=b;rw[go l k f k' e d g d']
   |tup f k' r b=>show absurd rfl (TQ p b)
  |_=>cases h';rfl
theorem gx:∀{us ws:List U},us.length≠ws.length->bW us ws=df
 |[],[],h=>absurd rfl h
 |[],_::_,_=>rfl
 |_::_,[],_=>rfl
 |u::us,w::ws,h=>by
  rw[bW,gx (us:=us) (ws:=ws) (λe=>h (by simp[e])),Tq]
theorem eE:∀{us ws:List U},us.length=ws.length->bW us ws=(hE us.length).all λj=>bM (us.getD j .DB) (ws.getD j .DB)
 |[],[],_=>rfl
 |[],_::_,h=>by simp at h
 |_::_,[],h=>by simp at h
 |u::us,w::ws,h=>by
  have h':us.length=ws.length:=by simpa using h
  rw[bW,eE h',lx,List.range_succ_eq_map,List.all_cons,VZ];rfl
def BB{a its':List eH}(c:us.length=a.length)(d:ws.length=its'.length):bW us ws=((hE (min a.toArray.size its'.toArray.size)).all (λj=>bM (us.getD j .DB) (ws.getD j .DB))&&a.toArray.size==its'.toArray.size):=by
 simp only[hW];by_cases b:us.length=ws.length
 .rw[eE b,show min a.length its'.length=us.length by lia,show(a.length==its'.length)=b5 by simp;lia,MB]
 .rw[gx b,show(a.length==its'.length)=df by simp;lia,Tq]
def qK(b:D5 s n u y)(h:Us A s y x k)(hs:y=x->k=b5):OP A s y x k:=λprog w E Q a=>by
 unfold eqBool;show DD ?_;show wpAny_ite_split (λc=>?_) (λ_=>?_)
 .rw[hs (UI c)]at a;show bD (K1 (cb a))
 .cases b<;>show bD (h prog w E _ (G9 a))
def Mx(r:∀m,m+1=n->∀{u w:U}{x f:eH}{A:Ke},D5 s m u x->D5 s m w f->A.units+m<Eg->OP A s x f (bM u w))(h:D5 s n u x)(h':D5 s n w f)(v:A.units+n<Eg):Us A s x f (bM u w)/\VG A s x f (!bM u w):=by
 have a:A.units<Eg:=by lia
 have go:∀{m:Nat} {us ws:List U} {g its':List eH},m+1=n->(∀j (t:j<g.length),D5 s m (us.getD j .DB) g[j])->(∀j (t:j<its'.length),D5 s m (ws.getD j .DB) its'[j])->∀j (i:j<g.toArray.size) (o:j<its'.toArray.size),OP A.in1 s g.toArray[j] its'.toArray[j] (bM (us.getD j .DB) (ws.getD j .DB)):=λ{m us ws g its'} e k k' j i o=>r m e (k j i) (k' j o) (by change A.units+1+m < _;lia);cases h with
 |DB =>
  cases h' with
  |DB=>show⟨.none_none,.none_none⟩
  |bl=>show⟨.none_bool _,.none_bool _⟩
  |int=>show⟨.none_int _ _,.none_int _ _⟩
  |str=>show⟨.none_str _ _,.none_str _ _⟩
  |tup c k' d b=>show⟨.none_tuple b a,.none_tuple b a⟩
  |lst c k' d b=>show⟨.none_list b a,.none_list b a⟩
 |bl =>
  cases h' with
  |DB=>show⟨.bool_none _,.bool_none _⟩
  |bl=>show⟨.bool_bool _ _,.bool_bool _ _⟩
  |int=>show⟨.bool_int _ _ _,.bool_int _ _ _⟩
  |str=>show⟨.bool_str _ _ _,.bool_str _ _ _⟩
  |tup c k' d b=>show⟨.bool_tuple _ b a,.bool_tuple _ b a⟩
  |lst c k' d b=>show⟨.bool_list _ b a,.bool_list _ b a⟩
 |int =>
  cases h' with
  |DB=>show⟨.int_none _ _,.int_none _ _⟩
  |bl=>show⟨.int_bool _ _ _,.int_bool _ _ _⟩
  |int=>show⟨.int_int _ _ _ _,.int_int _ _ _ _⟩
  |str=>show⟨.int_str _ _ _ _,.int_str _ _ _ _⟩
  |tup c k' d b=>show⟨.int_tuple _ _ b a,.int_tuple _ _ b a⟩
  |lst c k' d b=>show⟨.int_list _ _ b a,.int_list _ _ b a⟩
 |str =>
  cases h' with
  |DB=>show⟨.str_none _ _,.str_none _ _⟩
  |bl=>show⟨.str_bool _ _ _,.str_bool _ _ _⟩
  |int=>show⟨.str_int _ _ _ _,.str_int _ _ _ _⟩
  |str=>show⟨.str_str _ _ _ _,.str_str _ _ _ _⟩
  |tup c k' d b=>show⟨.str_tuple _ _ b a,.str_tuple _ _ b a⟩
  |lst c k' d b=>show⟨.str_list _ _ b a,.str_list _ _ b a⟩
 |tup l k y p =>
  cases h' with
  |DB=>show⟨.tuple_none p a,.tuple_none p a⟩
  |bl=>show⟨.tuple_bool _ p a,.tuple_bool _ p a⟩
  |int=>show⟨.tuple_int _ _ p a,.tuple_int _ _ p a⟩
  |str=>show⟨.tuple_str _ _ p a,.tuple_str _ _ p a⟩
  |tup c k' d b=>rw[show bM (.tup _) (.tup _)=_ from BB l c];show⟨.tuples p b a (go rfl k k'),.tuples p b a (go rfl k k')⟩
  |lst c k' d b=>show⟨.tuple_list p b a,.tuple_list p b a⟩
 |lst l k y p =>
  cases h' with
  |DB=>show⟨.list_none p a,.list_none p a⟩
  |bl=>show⟨.list_bool _ p a,.list_bool _ p a⟩
  |int=>show⟨.list_int _ _ p a,.list_int _ _ p a⟩
  |str=>show⟨.list_str _ _ p a,.list_str _ _ p a⟩
  |tup c k' d b=>show⟨.list_tuple p b a,.list_tuple p b a⟩
  |lst c k' d b =>
   rename_i us _ _ ws _ _;by_cases q:us.length=ws.length
   .rw[show bM (.lst us) (.lst ws)=_ from eE q,l,<-hW];show⟨.lists p b (by simp;lia) a (go rfl k k'),.lists p b (by simp;lia) a (go rfl k k')⟩
   .rw[show bM (.lst us) (.lst ws)=df from gx q];show⟨.lists_lengths p b (by simp;lia) a,.lists_lengths p b (by simp;lia) a⟩
def BC:∀{n:Nat}{u w:U}{x a:eH}{A:Ke},D5 s n u x->D5 s n w a->A.units+n<Eg->OP A s x a (bM u w):=by
 intro n;induction n with
 |zero=>intro u w x a A h h' b;show qK h (Mx (λm e=>by cases e) h h' b).1 λe=>by subst e;rw[h.inj h'];show h'.self
 |succ n c=>intro u w x a A h h' b;show qK h (Mx (λm e=>by cases e;show c) h h' b).1 λe=>by subst e;rw[h.inj h'];show h'.self
def BD(h:D5 s n u x)(h':D5 s n w a)(b:A.units+n<Eg):Us A s x a (bM u w)/\VG A s x a (!bM u w):=Mx (λm e=>by cases e;show BC) h h' b
end
end TM
namespace TM
open PySem L2 PyProof.Rows
abbrev Dy(C:Ct)(m:M (Kd×U)):TE:=λσ H Q=>∃c0:Cf,c0.σ=σ/\c0.H=H/\Ok C c0/\W m c0.st λr st'=>∀c v,c.σ=σ->c.st=st'->Ok C c->Nx c0 c->ay C c0 c r.1 r.2 v->Q v c.H
abbrev En(C:Ct)(m:M Bool):TT:=λσ H Q=>∃c0:Cf,c0.σ=σ/\c0.H=H/\Ok C c0/\W m c0.st λb st'=>∀c,c.σ=σ->c.st=st'->Ok C c->Nx c0 c->Q b c.H
def cR(C:Ct)(c0 c:Cf):List (Kd×U)->List V->Prop
 |[],vs=>vs=[]
 |r::rs,vs=>∃v t,vs=v::t/\eC C c0 c r.1 r.2 v/\cR C c0 c rs t/\(r.1=.own->∀(i:Nat) a b,rs[i]?=a5 a->t[i]?=a5 b->a.1=.own->b≠v)
abbrev EG(C:Ct)(m:M (List (Kd×U))):TA:=λσ H Q=>∃c0:Cf,c0.σ=σ/\c0.H=H/\Ok C c0/\W m c0.st λrs st'=>∀c vs,c.σ=σ->c.st=st'->Ok C c->Nx c0 c->cR C c0 c rs vs->Q vs c.H
section
def PE.weak(h:PE X e t)(i:∀σ H Q,t' σ H Q->t σ H Q):PE X e t':=λa s σ H Q I q=>h a s σ H Q I (i σ H Q q)
def PT.weak(h:PT X e t)(i:∀σ H Q,t' σ H Q->t σ H Q):PT X e t':=λa s σ H Q I q=>h a s σ H Q I (i σ H Q q)
def bR{st:ak}:W (ar rs) st Q↔aY rs st/\Q () st:=by
 constructor
 .rintro⟨a,st',e,h⟩;unfold ar at e;split at e
  .cases e;show⟨by assumption,h⟩
  .cases e
 .rintro⟨b,c⟩;show⟨(),st,by unfold ar;rw[WJ b],c⟩
def gy{st:ak}:aY (r::rs) st↔aY [r] st/\aY rs st:=by
 have⟨k,u⟩:=r;cases k<;>simp[aY]
def eC.t(h:eC C c0 c k u v)(s:aY [(k,u)] c.st):ay C c0 c k u v:=by
 cases k with
 |bor j=>show⟨s.1,h⟩
 |_=>show h
structure JU(C:Ct)(c0 c:Cf)(x y:Kd×U)(vx vy:V):Prop where
 hσ:c.σ=c0.σ
 ok:Ok C c
 nx:Nx c0 c
 rx:ay C c0 c x.1 x.2 vx
 ry:ay C c0 c y.1 y.2 vy
 ne:x.1=.own->y.1=.own->vy≠vx
def lS(h:eC C c0 c1 k u v)(h':eC C c1 c k' u' b):k=.own->k'=.own->b≠v:=by
 rintro rfl rfl e;obtain⟨r,d,_,_,_,f⟩:=h;obtain⟨i,g,a,_⟩:=h';obtain⟨o,ho,_⟩:=f.some;subst d;rw[g]at e;cases e;rw[ho]at a;cases a
def two{k:Kd×U->Kd×U->M β}{Post:β->ak->Prop}{f:eH->eH->Sem α}{Q':eH->eH->α->hH->Prop}(L:PE X a (Dy C N))(O:PE X b (Dy C r))(I:Inv X d c0.σ c0.H s)(Q:Ok C c0)
  (h:W (N >>= λx=>r >>= λy=>ar [x,y] >>= λ_=>k x y) c0.st Post)
  (T:∀x y c e i v u s2,JU C c0 c x y e i->Inv X d c.σ c.H s2->RelV e v->RelV i u->W (k x y) c.st Post->fx (ke X.prog X.w) X.A (f v u) (Q' v u) X.xe s2) :
  fx (ke X.prog X.w) X.A (F' a X.env) (λv Y=>fx (ke X.prog X.w) X.A (F' b X.env) (λu s₂=>fx (ke X.prog X.w) X.A (f v u) (Q' v u) X.xe s₂) X.xe Y) X.xe s:=by
 rw[ab]at h;show Dx (L d s c0.σ c0.H (λe z=>∃x c1,c1.H=z/\c1.σ=c0.σ/\Ok C c1/\Nx c0 c1/\ay C c0 c1 x.1 x.2 e/\W (r >>= λy=>ar [x,y] >>= λ_=>k x y) c1.st Post) I ⟨c0,rfl,rfl,Q,h.mono λx st1 m c1 e n e2 o p q=>⟨x,c1,rfl,n,o,p,q,by rw[e2];show m⟩⟩) ?_;rintro v s1 ⟨e,z,I1,rv,x,c1,rfl,n,o,p,q,m⟩;rw[ab]at m;show Dx (O d s1 c0.σ c1.H (λi B=>∃y g,g.H=B/\JU C c0 g x y e i/\W (k x y) g.st Post) I1 ⟨c1,n,rfl,o,m.mono λy st2 j g i D e4 D0 G J=>?_⟩) ?_
 .rw[ab,bR]at j;subst e4;rw[gy]at j;show⟨y,g,rfl,⟨D,D0,p.trans G,(q.w.on o G (D.trans n.symm)).t j.1.1,(J.from p),lS q.w J.w⟩,j.2⟩
 .rintro u s2 ⟨i,B,I2,ru,y,g,rfl,l,j⟩;have hs:g.σ=c0.σ:=l.hσ;show T x y g e i v u s2 l (by rw[hs];show I2) rv ru j
structure KP(C:Ct)(c0 c:Cf)(x:Kd×U)(vx:V):Prop where
 hσ:c.σ=c0.σ
 ok:Ok C c
 nx:Nx c0 c
 rx:ay C c0 c x.1 x.2 vx
abbrev bN(C:Ct)(c0:Cf)(Q:VK)(r:Kd×U)(st':ak):Prop:=∀c v,c.σ=c0.σ->c.st=st'->Ok C c->Nx c0 c->ay C c0 c r.1 r.2 v->Q v c.H
section
def bN.flat(h:bN C c0 Q (.loc,u) c.st)(a:c.σ=c0.σ)(b:Ok C c)(n:Nx c0 c)(r:Rep C c.S c.H u v):Q v c.H:=h c v a rfl b n r
def bN.list(h:bN C c0 Q (.own,.lst us) c.st)(a:c.σ=c0.σ)(b:Ok C c)(n:Nx c0 c)(r:ae C c.S c.H us vs)(p:hQ)(d:c.H p=b6):Q (.ref p) (upd c.H p (.lst vs)):=by
 have⟨e,f,g⟩:=b.newList n d r;show h {c with H:=upd c.H p (.lst vs)} _ a rfl e f g
def bN.tup(h:bN C c0 Q (.loc,.tup us) c.st)(a:c.σ=c0.σ)(b:Ok C c)(n:Nx c0 c)(r:ae C c.S c.H us vs)(p:hQ)(d:c.H p=b6):Q (.ref p) (upd c.H p (.tup vs)):=by
 have⟨e,f,g⟩:=b.zL n d r;show h {c with H:=upd c.H p (.tup vs)} _ a rfl e f g
def bN.tupK(h:bN C c0 Q (kE k,.tup us) c.st)(d:c.σ=c0.σ)(a:Ok C c)(n:Nx c0 c)(r:ae C (SK C c k) c.H us vs)(p:hQ)(e:c.H p=b6):Q (.ref p) (upd c.H p (.tup vs)):=by
 have⟨f,b⟩:=a.lay (o:=.tup vs) e;show h {c with H:=upd c.H p (.tup vs)} _ d rfl f (n.trans b) (ay.item ?_);cases k<;>show⟨p,vs,rfl,DU.of aq,by first|show r.mv (a.G3 b)|show r.mv (a.mv b)⟩
def eF(h:jd k us=b5)(r:ae C (SK C c k) c.H us vs):ae C c.S c.H us vs:=by
 cases k with
 |any=>show r.DZ (by simpa[jd,isAny] using h)
 |_=>show r
end
def zT(k k':Kd):∀a,SK C c k a->SK C c (kT k k') a:=by
 intro a h;cases k<;>cases k'<;>first|show h|show .inr h
def xa(k k':Kd):∀a,SK C c k' a->SK C c (kT k k') a:=by
 intro a h;cases k<;>cases k'<;>first|show h|show .inr h
def BE(k k':Kd):kE (kT k k')=kT k k':=by cases k<;>cases k'<;>rfl
def xb:ER X (Ln .Add) (λx y H Q=>∃l b xs c,x=.ref l/\y=.ref b/\D3 X.K H l xs/\D3 X.K H b c/\xs.length+c.length<=dV/\∀p,H p=b6->Q (.ref p) (upd H p (.lst (xs++c)))):=by
 intro f s σ H x y v u Q I o t h;have⟨l,b,xs,c,rfl,rfl,w,A,hz,q⟩:=h;cases o;cases t;have⟨d,r,B,z⟩:=I.list w;have⟨e,g,C,O⟩:=I.list A;have hl:=r.length;have Fj:=g.length;obtain⟨⟨cls,dd,data,D⟩,ho,i,n,j⟩:=B.isList;obtain⟨⟨T,G,data2,J⟩,k,m,L,a⟩:=C.isList;simp only at i j m a;subst i j m a;show S9 ⟨_,ho,rfl⟩ ⟨_,k,rfl⟩ noFill_list_add seq_list_add PySem.F.slot_list_add PySem.F.entry_list_add (PySem.F.args_list_add_2 _ _)
   (list_addW l b d.toArray e.toArray n L dd G D J (by rw[hW,hW];lia)) ⟨ho,k,?_⟩
 have N:d.toArray++e.toArray=(d++e).toArray:=by simp
 rw[N];show⟨.ref _,_,I.C8 (t':=s.toks) (r.append g) (by rw[i5];lia),rfl,q _ I.fresh⟩
end
section
variable{X:Cx}{C:Ct}{pins:List (hQ×Obj)}{s:hH}{c0 c:Cf}{Q:VK}
def uG:ER X (Ln .Add) (λx y H Q=>∃a b e,x=.ref a/\y=.ref b/\DU X.K H a []/\DU X.K H b e/\Q (.ref b) H):=by
 intro pins s σ H x y v u Q I k l h;have⟨a,b,e,rfl,rfl,m,o,q⟩:=h;cases k;cases l;obtain⟨D,p,r,_⟩:=I.tuple m;obtain⟨t,G,p2,_⟩:=I.tuple o;cases p;obtain⟨⟨cls,dd,data,w⟩,ho,f,n,g⟩:=id r;obtain⟨⟨J,z,data2,A⟩,i,j,B,d⟩:=id p2;simp only at f g j d;subst f g j d;show S9 ⟨_,ho,rfl⟩ ⟨_,i,rfl⟩ Tt Up PySem.F.slot_tuple_add PySem.F.entry_tuple_add (PySem.F.args_tuple_add_2 _ _)
   (tuple_addW0 a b _ t.toArray n B dd z w A (by rfl)) ⟨ho,i,.ref b,H,I,rfl,q⟩
abbrev KC.op:KC->Vh
 |.add=>.Add|.sub=>.Sub|.mul=>.Mult|.Fo=>.FloorDiv|.mod=>.Mod|.pow=>.Pow
def dr(h:o_ f a b=a5 r):∃i j o,a=.int i/\b=.int j/\f i j=a5 o/\r=(.loc,.int o):=by
 unfold o_ at h;split at h
 .rw[f6]at h;have⟨o,e,rfl⟩:=h;show⟨_,_,o,rfl,rfl,e,rfl⟩
 .cases h
def zU(T:C.K=X.K)(t:JU C c0 c x y g l)(I:Inv X pins c.σ c.H s)(z:RelV g v)(B:RelV l u)(h:Fq op x y=a5 r)(q:bN C c0 Q r c.st):
  fx (ke X.prog X.w) X.A (Ln op.op v u) (EP X pins c.σ Q) X.xe s:=by
 obtain⟨m,d,n,D,G,_⟩:=t;cases op with
 |add =>
  have h:uu x y=a5 r:=h;unfold uu at h;split at h
  .have ex:=D.int d;have e:=G.int d;cases h;show iJ pins s c.σ c.H g l v u Q I z B ⟨_,_,ex,e,q.flat m d n rfl⟩
  .have ex:=D.str d;have e:=G.str d;split at h
   .cases h;show oC pins s c.σ c.H g l v u Q I z B ⟨_,_,ex,e,by assumption,q.flat m d n rfl⟩
   .cases h
  .have⟨a,vs,ex,N,J⟩:=D.list d;have⟨b,ws,e,O,L⟩:=G.list d;split at h
   .rename_i hh;cases h;show xb pins s c.σ c.H g l v u Q I z B ⟨a,b,vs,ws,ex,e,T▸N,T▸O,by rw[<-J.len,<-L.len];show hh.1,λp Y=>q.list m d n ((eF hh.2.1 J).append (eF hh.2.2 L)) p Y⟩
   .cases h
  .rename_i k xs k' ys _ _;have⟨a,vs,ex,N,J⟩:=D.tuple d;have⟨b,ws,e,O,L⟩:=G.tuple d;have Fe:=N;have Iz:=O;rw[T]at Fe Iz;split at h
   .rename_i hh;cases h;have m1:ae C (SK C c (kT k k')) c.H xs vs:=J.mv (.up (zT k k'));have m2:ae C (SK C c (kT k k')) c.H ys ws:=L.mv (.up (xa k k'));have q':bN C c0 Q (kE (kT k k'),.tup (xs++ys)) c.st:=by rw[BE];show q
    by_cases e1:vs=[]
    .subst e1;show uG pins s c.σ c.H g l v u Q I z B ⟨a,b,ws,ex,e,Fe,Iz,?_⟩;show q' c (.ref b) m rfl d n (ay.item ⟨b,ws,rfl,O,?_⟩);have:xs=[]:=by have:=m1.len;simpa using this
     rw[this];show m2
    .show wx pins s c.σ c.H g l v u Q I z B ⟨a,b,vs,ws,ex,e,Fe,Iz,e1,by rw[<-J.len,<-L.len];show hh,λe2=>?_,λ_ p Y=>q'.tupK m d n (m1.append m2) p Y⟩;subst e2;show q' c (.ref a) m rfl d n (ay.item ⟨a,vs,rfl,N,?_⟩);have:ys=[]:=by have:=m2.len;simpa using this
     rw[this,va];show m1
   .cases h
  .cases h
 |sub =>
  have⟨i,j,o,ex,e,f,rfl⟩:=dr h;have ex:=(ex▸D).int d;have e:=(e▸G).int d;cases f;show oA pins s c.σ c.H g l v u Q I z B ⟨_,_,ex,e,q.flat m d n rfl⟩
 |mul =>
  have⟨i,j,o,ex,e,f,rfl⟩:=dr h;have ex:=(ex▸D).int d;have e:=(e▸G).int d;unfold wU at f;split at f
  .cases f;show lj pins s c.σ c.H g l v u Q I z B ⟨_,_,ex,e,by assumption,q.flat m d n rfl⟩
  .cases f
 |Fo =>
  have⟨i,j,o,ex,e,f,rfl⟩:=dr h;have ex:=(ex▸D).int d;have e:=(e▸G).int d;unfold wV at f;split at f
  .cases f;show wj pins s c.σ c.H g l v u Q I z B ⟨_,_,ex,e,by assumption,q.flat m d n rfl⟩
  .cases f
 |mod =>
  have⟨i,j,o,ex,e,f,rfl⟩:=dr h;have ex:=(ex▸D).int d;have e:=(e▸G).int d;unfold wW at f;split at f
  .cases f;show cy pins s c.σ c.H g l v u Q I z B ⟨_,_,ex,e,by assumption,q.flat m d n rfl⟩
  .cases f
 |pow =>
  have⟨i,j,o,ex,e,f,rfl⟩:=dr h;have ex:=(ex▸D).int d;have e:=(e▸G).int d;unfold wX at f;split at f
  .cases f;show ll pins s c.σ c.H g l v u Q I z B ⟨_,_,ex,e,by assumption,q.flat m d n rfl⟩
  .cases f
def xc(d:C.K=X.K)(f:PE X a (Dy C g))(i:PE X b (Dy C j)):PE X (.BinOp a op.op b pos) (Dy C (g >>= λx=>j >>= λy=>ar [x,y] >>= λ_=>M.DQ (Fq op x y))):=by
 rintro pins s σ H Q I ⟨c0,rfl,rfl,k,h⟩;show wpAny_BinOp (two f i I k h λx y c o p v u s2 t l m n w=>?_);have⟨r,e,q⟩:=b8.mp w;show Dx (zU d t l m n e q) λ_ _ z=>by rw[t.hσ]at z;show z
abbrev JT.op:JT->CmpOp
 |.eq=>.Eq|.ne=>.NotEq|.lt=>.Lt|.le=>.LtE|.gt=>.Gt|.ge=>.GtE|.isin=>.In|.Dv=>.NotIn|.is=>.Is|.Mt=>.IsNot
def BF{neg:Bool}(I:Inv X pins c.σ c.H s)(m:C.K=X.K)(N:X.A.units+60<Eg){S:hQ->Prop}(o:Rep C S c.H x n)(r:RelV n v)(t:ae C S c.H i vs)
  (ha:D3 C.K c.H a vs\/DU C.K c.H a vs) (u:EC 50 x=b5) (z:cB 50 i=b5) {Q:eH->hH->Prop} (q:Q (.bool (if neg then !(i.any λy=>bM y x) else i.any λy=>bM y x)) s) :
  fx (ke X.prog X.w) X.A (J9 (if neg then .NotIn else .In) v (.ref a)) Q X.xe s:=by
 have B:=D5.of I m 50 x n v u o r;have go:∀d:List eH,Vals vs d->∃e:eH->Bool,(∀y,y∈d.toArray->OP X.A.in1 s y v (e y))/\d.toArray.any e=i.any λy=>bM y x:=by
  intro d rv;obtain⟨l,k,_⟩:=D5.sr (D5.of I m 50) z t rv
  classical
  have q:∀j (b:j<d.length),ez (∃w,D5 s 50 w d[j]/\bM w x=b5)=bM (i.getD j .DB) x:=λj b=>by
   rw[FW,decide_eq_true_iff];show⟨λ⟨w,f,g⟩=>by rw[<-f.inj (k j b)];show g,λh=>⟨_,k j b,h⟩⟩
  show⟨λy=>ez (∃w,D5 s 50 w y/\bM w x=b5),λy D=>?_,?_⟩
  .have⟨j,b,e⟩:=MU (show y∈d by simpa using D);subst e;change OP _ _ _ _ (decide _);rw[q j b];show BC (k j b) B (by change X.A.units+1+50 < _;lia)
  .rw[FW];simp only[List.any_toArray,Ve];constructor
   .rintro⟨y,G,h⟩;have⟨j,b,rfl⟩:=MU G;rw[q j b]at h;show⟨_,Mi (l▸b),by simpa[l▸b] using h⟩
   .rintro⟨w,J,L⟩;have⟨j,b,rfl⟩:=MU J;show⟨_,Mi (l▸b),by rw[q j (l▸b)];simpa[b] using L⟩
 rcases ha with ha|ha
 .obtain⟨d,rv,p,_⟩:=qJ I (m▸ha);have⟨e,f,g⟩:=go d rv;cases neg with
  |false=>show SeqAt.in_listAt e p f (by rw[g];show q)
  |true=>show SeqAt.notIn_listAt e p f (by rw[g];show q)
 .rw[m]at ha;obtain⟨d,rv,p,_⟩:=I.tuple ha;have⟨e,f,g⟩:=go d rv;cases neg with
  |false=>show SeqAt.in_tupleAt e p f (by rw[g];show q)
  |true=>show SeqAt.notIn_tupleAt e p f (by rw[g];show q)
end
section
theorem bC:∀{us:List U}{ss:List Str},strsOf us=a5 ss->us=ss.map .str
 |[],ss,h=>by cases h;rfl
 |.str x::us,ss,h=>by
  simp only[strsOf,f6]at h;have⟨t,a,rfl⟩:=h;rw[bC a];rfl
 |.DB::_,_,h=>by cases h
 |.bl _::_,_,h=>by cases h
 |.int _::_,_,h=>by cases h
 |.tup _::_,_,h=>by cases h
 |.lst _::_,_,h=>by cases h
 |.Dt _ _::_,_,h=>by cases h
 |.Ec _::_,_,h=>by cases h
theorem gW:∀{us:List U}{ns:List Int},intsOf us=a5 ns->us=ns.map .int
 |[],ns,h=>by cases h;rfl
 |u::us,ns,h=>by
  cases u<;>first|(cases h;done)|skip
  rename_i x;have h':(intsOf us).map (x::·)=a5 ns:=h;rw[f6]at h';have⟨ms,e,rfl⟩:=h';rw[gW e];rfl
theorem ae.ints{S:hQ->Prop}:∀{ns:List Int}{vs:List V},ae C S H (ns.map .int) vs->vs=ns.map V.int
 |[],vs,h=>h
 |n::ns,vs,h=>by
  have⟨v,r,rfl,a,b⟩:=h;rw[ae.ints b];have:v=.int n:=a;rw[this];rfl
theorem jk:∀{us:List U}{ss:List Bool},je us=a5 ss->us=ss.map .bl
 |[],ss,h=>by cases h;rfl
 |.bl x::us,ss,h=>by
  simp only[je,f6]at h;have⟨t,a,rfl⟩:=h;rw[jk a];rfl
 |.DB::_,_,h=>by cases h
 |.str _::_,_,h=>by cases h
 |.int _::_,_,h=>by cases h
 |.tup _::_,_,h=>by cases h
 |.lst _::_,_,h=>by cases h
 |.Dt _ _::_,_,h=>by cases h
 |.Ec _::_,_,h=>by cases h
theorem ae.Oe{S:hQ->Prop}:∀{xs:List Bool}{vs:List V},ae C S H (xs.map .bl) vs->vs=xs.map V.bl
 |[],vs,h=>h
 |x::xs,vs,h=>by
  have⟨v,r,rfl,a,b⟩:=h;rw[ae.Oe b];have:v=.bl x:=a;rw[this];rfl
abbrev BG(r:jX):U:=.tup [.str r.1,.tup (r.2.map .str)]
def jl(h:rowOf u=a5 r):u=BG r:=by
 unfold rowOf at h;split at h
 .rw[f6]at h;have⟨ss,a,rfl⟩:=h;rw[bC a];rfl
 .cases h
abbrev zV(X:Cx)(a:List (hQ×Obj))(c:Cf)(b:Bool)(v:eH)(s':hH):Prop:=v=.bool b/\Inv X a c.σ c.H s'
def fU(o:ER X f r)(I:Inv X a c.σ c.H s)(g:RelV d v)(i:RelV e u)(h:r d e c.H λx H'=>x=.bl b/\H'=c.H):
  fx (ke X.prog X.w) X.A (f v u) (zV X a c b) X.xe s :=
 Dx (o a s c.σ c.H d e v u _ I g i h) λw s' j=>by
  have⟨z,H',k,r,l,m⟩:=j;subst l m;show⟨r,k⟩
def ay.dict(g:Ok C c)(h:ay C c0 c k (.Dt ks us) v):∃a kvs,v=.ref a/\c.H a=a5 (.dK kvs)/\kvs.map (·.1)=ks.map ri/\ae C (SK C c k) c.H us (kvs.map (·.2)):=by
 cases k with
 |own=>obtain⟨r,e,_,_,_,kvs,b,d,f⟩:=h;show⟨r,kvs,e,b,d,f⟩
 |bor j=>obtain⟨r,e,_,_,_,kvs,b,d,f⟩:=g.rootOf h.1 h.2;show⟨r,kvs,e,b,d,f⟩
 |io=>show h.elim
 |Ds=>show h.elim
 |_=>obtain⟨a,e,_,kvs,b,d,f⟩:=h;show⟨a,kvs,e,b,d,f⟩
def ay.qG(b:Ok C c)(h:ay C c0 c k (.Ec ks) v):∃a,v=.ref a/\dW C.P C.w C.K c.H a ks:=by
 cases k with
 |own=>obtain⟨r,e,_,_,_,h⟩:=h;show⟨r,e,h⟩
 |bor j=>obtain⟨r,e,_,_,_,h⟩:=b.rootOf h.1 h.2;show⟨r,e,h⟩
 |io=>show h.elim
 |Ds=>show h.elim
 |_=>obtain⟨a,e,_,h⟩:=h;show⟨a,e,h⟩
theorem cN{S:hQ->Prop}:∀{ks:List Str}{us:List U}{kvs:List (Key×V)},kvs.map (·.1)=ks.map ri->ae C S H us (kvs.map (·.2)) ->
  (∀u,cQ ks us x=a5 u->∃v,cI kvs (ri x)=a5 v/\Rep C S H u v)/\(cI kvs (ri x)).isSome=ez (x∈ks)
 |[],us,kvs,a,b=>by
  have:kvs=[]:=by simpa using a
  subst this;show⟨λu h=>by cases us<;>simp[cQ]at h,by simp[cI]⟩
 |k::ks,us,[],a,b=>by simp at a
 |k::ks,[],p::kvs,a,b=>by simp[ae]at b
 |k::ks,j::us,p::kvs,a,b=>by
  have⟨v,r,e,d,f⟩:=b;rw[gc]at e;cases e;rw[gc,gc,Kt]at a;have⟨g,i⟩:=cN (x:=x) a.2 f;by_cases hk:k=x
  .subst hk;show⟨λu h=>?_,?_⟩
   .simp[cQ]at h;subst h;show⟨p.2,de a.1,d⟩
   .rw[de a.1];simp
  .have c:¬p.1=ri x:=by rw[a.1];intro z;show hk (Rv z)
   show⟨λu h=>?_,?_⟩
   .simp[cQ,hk]at h;have⟨v,e,q⟩:=g u h;show⟨v,by rw[dg c];show e,q⟩
   .rw[dg c,i];simp[z8 hk]
def zW(e:X.A.units+3<Eg):ER X (J9 .In) (λx y H Q=>∃k d ks,d_ X.K H x k/\y=.ref d/\dW X.prog X.w X.K H d ks/\Q (.bl (ez (k∈ks))) H):=by
 intro c s σ H x y v u Q I f g h;obtain⟨k,d,ks,⟨a,b,rfl,i,j⟩,rfl,⟨xs,l,m,n⟩,q⟩:=h;cases f;cases g;have⟨o,dd⟩:=iS I l n;show wpAny_in_heap e (iu I ⟨a,b,rfl,i,j⟩) o dd ?_;show⟨.bl (ez (k∈ks)),H,I.tok _,by rw[ft,m];rfl,q⟩
def Rep.row{S:hQ->Prop}(h:Rep C S H (BG r) v):d_ C.K H v r:=by
 have⟨a,vs,e,d,f,p,g,i,q,s,j,k,l⟩:=h;cases l;have m:f=.str r.1:=i;have⟨b,ws,n,o,c⟩:=k;rw[ae.strs]at c;subst g j m n c;show⟨a,b,e,d,o⟩
def uH(Y:C.P=X.prog)(hw:C.w=X.w)(m:C.K=X.K)(N:X.A.units+60<Eg)(t:JU C c0 c x y O vy)(I:Inv X l c.σ c.H s)(f:RelV O v)(g:RelV vy u)(h:bB op x.2 y.2=a5 b):
  fx (ke X.prog X.w) X.A (J9 op.op v u) (zV X l c b) X.xe s:=by
 obtain⟨hσ,d,n,o,j,_⟩:=t;have⟨kx,ux⟩:=x;have⟨ky,uy⟩:=y
 dsimp only at h o j
 have D:∀neg:Bool,∀q,sg ux uy=a5 q->fx (ke X.prog X.w) X.A (J9 (if neg then .NotIn else .In) v u) (zV X l c (if neg then !q else q)) X.xe s:=by
  intro neg q h;have G:=o.read d;have Q:=j.read d;unfold sg at h;split at h
  .have⟨a,vs,rfl,i,p⟩:=Q;cases g;unfold G6 at h;split at h
   .rename_i hh;cases h;show BF I m N G f p (.inl i.sq) hh.1 hh.2 ⟨by cases neg<;>rfl,I⟩
   .cases h
  .have⟨a,vs,rfl,i,p⟩:=Q;cases g;unfold G6 at h;split at h
   .rename_i hh;cases h;show BF I m N G f p (.inr i) hh.1 hh.2 ⟨by cases neg<;>rfl,I⟩
   .cases h
  .cases h;have ex:O=_:=G;have⟨a,kvs,rfl,i,p,B⟩:=j.dict d;cases g;subst ex;have hs:=λz:Str=>(cN (x:=z) p B).2;cases neg with
   |false=>show Bx ⋯ I (dE.k (k:=ri _) i) f λs' J=>⟨by rw[hs];rfl,J⟩
   |true=>show qp ⋯ I (dE.k (k:=ri _) i) f λs' J=>⟨by rw[hs];rfl,J⟩
  .rw[f6]at h;have⟨r,i,p⟩:=h;have e:=jl i;subst e;have L:=G.row;have⟨a,T,B⟩:=j.qG d;rw[m]at L B;rw[Y,hw]at B;subst p;cases neg with
   |false=>show fU (zW ⋯) I f g ⟨r,a,_,L,T,B,rfl,rfl⟩
   |true=>show fU (rV ⋯) I f g ⟨r,a,_,L,T,B,rfl,rfl⟩
  .cases h
 unfold bB at h;split at h
 .split at h
  .rename_i hh;cases h;show(BD (n:=50) (.of I m _ _ _ _ hh.1 (o.read d) f) (.of I m _ _ _ _ hh.2 (j.read d) g) ⋯).1 _ _ _ _ ⟨rfl,I⟩
  .cases h
 .split at h
  .rename_i hh;cases h;show(BD (n:=50) (.of I m _ _ _ _ hh.1 (o.read d) f) (.of I m _ _ _ _ hh.2 (j.read d) g) ⋯).2 _ _ _ _ ⟨rfl,I⟩
  .cases h
 .cases h;show fU Bi I f g ⟨_,_,o.int d,j.int d,rfl,rfl⟩
 .cases h;show fU Bj I f g ⟨_,_,o.int d,j.int d,rfl,rfl⟩
 .cases h;show fU Bk I f g ⟨_,_,o.int d,j.int d,rfl,rfl⟩
 .show D df b h
 .rw[f6]at h;have⟨q,i,rfl⟩:=h;show D b5 q i
 .cases h
def xf(f:C.P=X.prog)(g:C.w=X.w)(i:C.K=X.K)(j:X.A.units+60<Eg)(k:PE X a (Dy C l))(m:PE X b (Dy C n))(o:M3 op.op b=df):
  PE X (.Compare a [op.op] [b] pos) (Dy C (l >>= λx=>n >>= λy=>ar [x,y] >>= λ_=>M.DQ (bB op x.2 y.2) >>= λc=>pure (.loc,.bl c))):=by
 rintro d s σ H Q I ⟨c0,rfl,rfl,p,h⟩;show wpAny_Compare1 (two k m I p h λx y c N O v u s2 t B D G w=>?_) o;rw[ab]at w;have⟨r,e,q⟩:=b8.mp w;rw[af]at q;show Dx (uH f g i j t B D G e) λz s' J=>?_;have⟨e,L⟩:=J;subst e;show⟨.bl r,c.H,by rw[<-t.hσ];show L,rfl,q c (.bl r) t.hσ rfl t.ok t.nx rfl⟩
def xg(g:C.P=X.prog)(i:C.w=X.w)(j:C.K=X.K)(k:X.A.units+60<Eg)(l:PE X a (Dy C m))(n:PE X b (Dy C o))(p:M3 op.op b=df):
  PT X (.Compare a [op.op] [b] pos) (En C (m >>= λx=>o >>= λy=>ar [x,y] >>= λ_=>M.DQ (bB op x.2 y.2))):=by
 rintro d s σ H Q I ⟨c0,rfl,rfl,B,h⟩;show U4 (two (f:=λv u=>J9 op.op v u) (Q':=λ_ _ c s=>fx (ke X.prog X.w) X.A (Wm c) (TP X d c0.σ Q) X.xe s) l n I B h λx y c O T v u s2 t D G J w=>?_) p;have⟨r,e,q⟩:=b8.mp w;show Dx (uH g i j k t D G J e) λz s' L=>?_;have⟨e,N⟩:=L;subst e;show G9 ⟨c.H,by rw[<-t.hσ];show N,q c t.hσ rfl t.ok t.nx⟩
end
section
abbrev BH(C:Ct)(c0:Cf)(Q:Bool->Hp->Prop)(b:Bool)(st':ak):Prop:=∀c,c.σ=c0.σ->c.st=st'->Ok C c->Nx c0 c->Q b c.H
def zX(a:c1.σ=c0.σ)(b:Ok C c1)(n:Nx c0 c1)(h:W m c1.st (bN C c0 Q)):Dy C m c0.σ c1.H Q :=
 ⟨c1,a,rfl,b,h.mono λr st c d v e f g i j=>c d v e f g (n.trans i) (j.from n)⟩
def uI(a:c1.σ=c0.σ)(b:Ok C c1)(n:Nx c0 c1)(h:W m c1.st (BH C c0 Q)):En C m c0.σ c1.H Q :=
 ⟨c1,a,rfl,b,h.mono λr st c d e f g i=>c d e f g (n.trans i)⟩
def az(a:Ok C c0)(h:W (b >>= k) c0.st Post)
  (hz:∀x c v,KP C c0 c x v->W (k x) c.st Post->Z v c.H):Dy C b c0.σ c0.H Z:=by
 rw[ab]at h;show⟨c0,rfl,rfl,a,h.mono λx st1 d c1 e f g i j l=>hz x c1 e ⟨f,i,j,l⟩ (by rw[g];show d)⟩
def eG(a:Ok C c0)(h:W (d >>= k) c0.st Post)
  (hz:∀b c,c.σ=c0.σ->Ok C c->Nx c0 c->W (k b) c.st Post->Z b c.H):En C d c0.σ c0.H Z:=by
 rw[ab]at h;show⟨c0,rfl,rfl,a,h.mono λx st1 e c1 f g i j=>hz x c1 f i j (by rw[g];show e)⟩
abbrev BI(m:M (Kd×U))(x:Kd×U):M (Kd×U):=match x.2 with
 |.bl b5=>m
 |.bl df=>pure (.loc,.bl df)
 |_=>M.fail
abbrev BJ(x:Kd×U):M (Kd×U):=match x.2 with
 |.bl c=>pure (.loc,.bl !c)
 |_=>M.fail
def snd_and(i:PE X a (Dy C j))(l:PE X (.BoolOp .And (b::d) pos) (Dy C m)):PE X (.BoolOp .And (a::b::d) pos) (Dy C (j >>= BI m)):=by
 show PE.weak (y6 i l) ?_;rintro σ H Q ⟨c0,rfl,rfl,o,h⟩;show az o h λx c v t w=>?_;have⟨k,u⟩:=x;have⟨g,f,n,r⟩:=t;unfold BI at w;split at w
 .rename_i e
  dsimp only at e r
  subst e;show⟨b5,r.bl f,by rw[WJ rfl];show zX g f n w⟩
 .rename_i e
  dsimp only at e r
  subst e;rw[af]at w;show⟨df,r.bl f,by rw[WK mh];show w c (.bl df) g rfl f n rfl⟩
 .show(aU.mp w).elim
def xh(d:PE X a (Dy C f)):PE X (.UnaryOp .Not a pos) (Dy C (f >>= BJ)):=by
 show PE.weak (y7 d) ?_;rintro σ H Q ⟨c0,rfl,rfl,g,h⟩;show az g h λx c v t w=>?_;have⟨k,u⟩:=x;have⟨i,b,n,r⟩:=t;unfold BJ at w;split at w
 .rename_i e
  dsimp only at e r
  subst e;rw[af]at w;show⟨_,r.bl b,w c (.bl _) i rfl b n rfl⟩
 .show(aU.mp w).elim
def xi(d:PT X a (En C e)):PT X (.UnaryOp .Not a pos) (En C (e >>= λb=>pure !b)):=by
 show PT.weak (yZ d) ?_;rintro σ H Q ⟨c0,rfl,rfl,f,h⟩;show eG f h λp c g i n w=>?_;rw[af]at w;show w c g rfl i n
def xj(i:PT X a (En C j))(k:PW X (.BoolOp .And (b::d) pos) (En C l)):PW X (.BoolOp .And (a::b::d) pos) (En C (j >>= λp=>if p=b5 then l else pure df)):=by
 have m:=yY i k;rintro o e s σ H Q I ⟨c0,rfl,rfl,q,h⟩;show m o e s c0.σ c0.H Q I (eG q h λp c f g n w=>?_);cases p with
 |true=>rw[WJ rfl]at w ⊢;show uI f g n w
 |false=>rw[WK mh]at w ⊢;rw[af]at w;show w c f rfl g n
def zY(i:PT X a (En C j))(k:PW X (.BoolOp .Or (b::d) pos) (En C l)):PW X (.BoolOp .Or (a::b::d) pos) (En C (j >>= λp=>if p=b5 then pure b5 else l)):=by
 have m:=A4 i k;rintro o e s σ H Q I ⟨c0,rfl,rfl,q,h⟩;show m o e s c0.σ c0.H Q I (eG q h λp c f g n w=>?_);cases p with
 |true=>rw[WJ rfl]at w ⊢;rw[af]at w;show w c f rfl g n
 |false=>rw[WK mh]at w ⊢;show uI f g n w
def qL{us:List α}{vs:List β}(h:us.length=vs.length):(!us.isEmpty)=!vs.isEmpty:=by
 cases us<;>cases vs<;>simp_all
def lT(j:PE X a (Dy C l))(i:C.K=X.K)(m:∀b,isTrue a X.env b=(do let v <-b;TU a.pos;Js [v] (Wm v))):PT X a (En C (l >>= λx=>M.DQ (uA x.2))):=by
 show PT.weak (tN j m) ?_;rintro σ H Q ⟨c0,rfl,rfl,o,h⟩;show az o h λx c v t w=>?_;have⟨k,u⟩:=x;have⟨s,d,n,r⟩:=t;have⟨p,e,q⟩:=b8.mp w
 dsimp only at e r
 show⟨p,?_,q c s rfl d n⟩;unfold uA at e;split at e
 .cases e;rw[r.bl d];rfl
 .cases e;have⟨a,vs,rfl,f,g⟩:=r.list d;show .inl ⟨vs,i▸f,qL g.len⟩
 .cases e;have⟨a,vs,rfl,f,g⟩:=r.tuple d;rw[i]at f;show .inr (.inl ⟨vs,f,qL g.len⟩)
 .split at e
  .cases e;rw[r.str d];show⟨by assumption,rfl⟩
  .cases e
 .cases e
end
section
def cR.from(n:Nx c0 c1):cR C c1 c rs vs->cR C c0 c rs vs:=by
 intro h;induction rs generalizing vs with
 |nil=>show h
 |cons r rs a=>have⟨v,t,e,b,d,f⟩:=h;show⟨v,t,e,b.from n,a d,f⟩
def cR.get{i:Nat}(h:cR C c0 c rs vs)(e:rs[i]?=a5 r)(a:vs[i]?=a5 v):eC C c0 c r.1 r.2 v:=by
 induction rs generalizing vs i with
 |nil=>simp at e
 |cons g rs b =>
  have⟨j,t,rfl,d,f,k⟩:=h;cases i with
  |zero=>simp at e a;subst e a;show d
  |succ i=>show b f (by simpa using e) (by simpa using a)
def xk:PA X [] (EG C (pure [])):=by
 rintro pos a s σ H Q I ⟨c0,rfl,rfl,b,h⟩;rw[af]at h;show d9 pos a s c0.σ c0.H Q I (h c0 [] rfl rfl b (Nx.refl c0) rfl)
def uJ(g:PE X e (Dy C m))(j:PA X es (EG C ms))(hs:mu (e::es) X.env=(df,F' e X.env)::mu es X.env):PA X (e::es) (EG C (m >>= λr=>ms >>= λrs=>pure (r::rs))):=by
 rintro pos a s σ H Q I ⟨c0,rfl,rfl,k,h⟩;show cY g j hs pos a s c0.σ c0.H Q I (az k h λr c1 v t w=>?_);rw[ab]at w;show⟨c1,t.hσ,rfl,t.ok,w.mono λrs st2 b l vs c n o d f=>?_⟩;rw[af]at b;show b l (v::vs) c n o (t.nx.trans d) ⟨v,vs,rfl,t.rx.w.on t.ok d (c.trans t.hσ.symm),f.from t.nx,λhk i x y p q u=>?_⟩;show lS t.rx.w (f.get p q) hk u
structure Gm(C:Ct)(c0 c:Cf)(rs:List (Kd×U))(vs:List V):Prop where
 hσ:c.σ=c0.σ
 ok:Ok C c
 nx:Nx c0 c
 rep:cR C c0 c rs vs
 IL:aY rs c.st
def args{k:List (Kd×U)->M β}{Post:β->ak->Prop}(e:PA X es (EG C ms))(I:Inv X a c0.σ c0.H s)(f:Ok C c0)(h:W (ms >>= λrs=>ar rs >>= λ_=>k rs) c0.st Post)(pos:Pos):
  fx (ke X.prog X.w) X.A (VQ (G_ pos (mu es X.env))) (λus s1=>∃rs c vs,Gm C c0 c rs vs/\Inv X a c.σ c.H s1/\Vals vs us/\W (k rs) c.st Post) X.xe s:=by
 rw[ab]at h;show Dx (e pos a s c0.σ c0.H (λvs d=>∃rs c,c.H=d/\Gm C c0 c rs vs/\W (k rs) c.st Post) I ⟨c0,rfl,rfl,f,h.mono λrs st1 b c1 vs g i j l m=>?_⟩) ?_
 .rw[ab,bR]at b;subst i;show⟨rs,c1,rfl,⟨g,j,l,m,b.1⟩,b.2⟩
 .rintro us s1 ⟨vs,d,n,rv,rs,c1,rfl,t,w⟩;show⟨rs,c1,vs,t,by rw[t.hσ];show n,rv,w⟩
def Gm.one(t:Gm C c0 c [r] vs):∃v,vs=[v]/\ay C c0 c r.1 r.2 v:=by
 obtain⟨v,t',rfl,a,b,_⟩:=t.rep;cases b;show⟨v,rfl,a.t t.IL⟩
def Ok.share(b:Ok C c)(g:C.H₀ r=b6)(h:∃o,c.H r=a5 o)(hl:st'.length=c.st.length)
  (d:∀(i:Nat) k u,st'[i]?=a5 (a5 (k,u))->(∃v,c.σ[i]?=a5 (a5 v)/\eB C (λa=>c.S a\/a=r) c.H k u v)/\(k.root=b5->c.st[i]?=a5 (a5 (k,u)))) (l:FK C {c with S:=λa=>c.S a\/a=r,st:=st' }) :
  Ok C {c with S:=λa=>c.S a\/a=r,st:=st' }:=by
 show⟨b.same,λa z=>?_,b.par,b.io,by rw[show({c with S:=λa=>c.S a\/a=r,st:=st' }:Cf).st.length=st'.length from rfl,hl];show b.len,λi k u e=>(d i k u e).1,λi j k k' u u' m hk f n p q s=>?_,l⟩
 .rcases z with z|rfl
  .show b.E2 a z
  .show⟨g,h⟩
 .show b.inj i j k k' u u' m hk f ((d i k u n).2 hk) ((d j k' u' p).2 f) q s
def Ok.zZ(p:Ok C c0)(b:Ok C c)(n:Nx c0 c)(d:c0.H r=b6)(f:¬c.R r)(s:cz C c.S c.H r u):
  Ok C {c with S:=λa=>c.S a\/a=r}/\Nx c0 {c with S:=λa=>c.S a\/a=r}:=by
 obtain⟨o,ho,_⟩:=s.some;show⟨b.share (st':=c.st) (p.jc d).1 ⟨o,ho⟩ rfl (λi k u e=>⟨?_,λ_=>e⟩) (b.dd.hs (.up λa=>.inl) λj a z=>⟨λq=>q.elim (b.root (.inr ⟨j,z⟩)).1 λe=>f (.inr ⟨j,e▸z⟩),λo q=>q⟩),⟨⟨n.keep,n.there,n.roots,λa z=>.inl (n.sub a z),λa z=>?_⟩,n.all⟩⟩
 .have⟨v,g,h⟩:=b.sl i k u e;have t:Mv c.S c.H (λa=>c.S a\/a=r) c.H:=.up λa=>.inl;show⟨v,g,h.mv t (.up λa z=>z.imp id .inl) λhk x l=>⟨?_,λo q=>q⟩⟩;obtain⟨y,m,w,_⟩:=h.rt hk;rw[l]at m;cases m;rintro(z|rfl)
  .show w z
  .show f (.inl ⟨i,k,u,hk,e,by rw[g,l]⟩)
 .rcases z with z|rfl
  .show n.new a z
  .show .inr (.inr d)
def Ok.uK(d:Ok C c)(n:Nx c0 c)(g:c.st[j]?=a5 (a5 (.own,u)))(h:c.σ[j]?=a5 (a5 (.ref r))):
  Ok C {c with S:=λa=>c.S a\/a=r,st:=c.st.set j (a5 (.loc,u))}/\Nx c0 {c with S:=λa=>c.S a\/a=r,st:=c.st.set j (a5 (.loc,u))}/\Rep C (λa=>c.S a\/a=r) c.H u (.ref r):=by
 have⟨T,f,l,m,Y,q2,D,x⟩:=d.sl j _ _ g;rw[h]at f;cases f;cases m;have y:Rep C (λa=>c.S a\/a=r) c.H u (.ref r):=x.rep (λa=>.inl) (.inr rfl);obtain⟨o,ho,_⟩:=x.some;have s:j<c.st.length:=(gi.mp g).1;have t:∀(i:Nat) k u',(c.st.set j (a5 (.loc,u)))[i]?=a5 (a5 (k,u'))->i≠j->c.st[i]?=a5 (a5 (k,u')):=λi k u' e G=>by rw[k8 (z8 G)]at e;show e
 have I:c.R1 r:=⟨j,.own,u,rfl,g,h⟩
 have A:∀(i:Nat) (u':U),(c.st.set j (a5 (.loc,u)))[i]?=a5 (a5 (.Ds,u'))->c.st[i]?=a5 (a5 (.Ds,u')):=λi u' e=>by
  by_cases b:i=j
  .subst b;rw[gj s]at e;cases e
  .show t i .Ds u' e b
 have b1:∀a,({c with S:=λa=>c.S a\/a=r,st:=c.st.set j (a5 (.loc,u))}:Cf).R1 a->c.R1 a:=λa J=>by
  have⟨i,k,u',hk,e,L⟩:=J;by_cases b:i=j
  .subst b;rw[gj s]at e;cases e;cases hk
  .show⟨i,k,u',hk,t i k u' e b,L⟩
 have N:FK C {c with S:=λa=>c.S a\/a=r,st:=c.st.set j (a5 (.loc,u))}:=d.dd.of rfl (λi u' e=>⟨A i u' e,rfl⟩) (λa z=>.inl (b1 a z)) (.up λa=>.inl) λi a z=>⟨λq=>q.elim (d.root (.inr ⟨i,z⟩)).1 λe=>d.dd.d1 i a z (e▸I),λo q=>q⟩
 show⟨d.share (st':=c.st.set j (a5 (.loc,u))) D ⟨o,ho⟩ (by simp) (λi k u' e=>?_) N,⟨⟨n.keep,n.there,λa z=>?_,λa z=>.inl (n.sub a z),λa z=>?_⟩,n.all⟩,y⟩
 .by_cases b:i=j
  .subst b;rw[gj s]at e;cases e;show⟨⟨.ref r,h,y⟩,λz=>nomatch z⟩
  .have w:=t i k u' e b;have⟨v,f,p⟩:=d.sl i k u' w;show⟨⟨v,f,p.mv (.up λa=>.inl) (.up λa z=>z.imp id .inl) λhk l m=>⟨?_,λo q=>q⟩⟩,λ_=>w⟩;obtain⟨KQ,B,O,_⟩:=p.rt hk;rw[m]at B;cases B;rintro(z|rfl)
   .show O z
   .show b (d.inj i j k .own u' u l hk rfl w g (by rw[f,m]) h)
 .rcases z with z|⟨i,u',l,f,p,Q⟩
  .show n.roots a (.inl (b1 a z))
  .show n.roots a (.inr ⟨i,u',l,A i u' f,p,Q⟩)
 .rcases z with z|rfl
  .show n.new a z
  .rcases n.roots a (.inl ⟨j,.own,u,rfl,g,h⟩) with z|z
   .show .inr (.inl z)
   .show .inr (.inr z)
def fV(A:Ok C c0)(b:Ok C c)(n:Nx c0 c)(d:eC C c0 c r.1 r.2 v)(h:W (lift r) c.st Post):
  ∃(S':hQ->Prop) (st':ak) (u:U),(∀a,c.S a->S' a)/\Ok C {c with S:=S',st:=st' }/\Nx c0 {c with S:=S',st:=st' }/\Rep C S' c.H u v/\Post u st' /\
   (∀a,S' a->c.S a\/v=.ref a/\(r.1=.own\/c.R a))/\∀a,({c with S:=S',st:=st' }:Cf).R a->c.R a:=by
 have⟨k,u⟩:=r;cases k with
 |own =>
  rw[show lift (.own,u)=pure u from rfl,af]at h;have⟨r,e,B,N,D,t⟩:=d;have⟨l,m⟩:=Ok.zZ A b n B D t;show⟨_,c.st,u,λa=>.inl,l,m,by rw[e];show t.rep (λa=>.inl) (.inr rfl),h,λa z=>?_,λa z=>z⟩;rcases z with z|rfl
  .show .inl z
  .show .inr ⟨e,.inl rfl⟩
 |loc =>
  rw[show lift (.loc,u)=pure u from rfl,af]at h;show⟨c.S,c.st,u,λa=>id,b,n,d,h,λa z=>.inl z,λa z=>z⟩
 |any =>
  rw[show lift (.any,u)=if DZ u=b5 then pure u else M.fail from rfl]at h;split at h
  .rw[af]at h;show⟨c.S,c.st,u,λa=>id,b,n,Rep.DZ (by assumption) d,h,λa z=>.inl z,λa z=>z⟩
  .show(aU.mp h).elim
 |bor j =>
  have⟨x,st',e,G⟩:=h;rw[show lift (.bor j,u) c.st=match c.st[j]? with|some (a5 (.own,u))=>a5 (Ex.ok u,c.st.set j (a5 (.loc,u)))|_=>b6 from rfl]at e;split at e
  .rename_i w f;cases e;obtain⟨O,y,r,I,_⟩:=b.sl j _ _ f;have o:c.σ[j]?=a5 (a5 v):=d;rw[o]at y;cases y;subst I;have⟨l,m,p⟩:=b.uK n f o;show⟨_,_,_,λa=>.inl,l,m,p,G,λa z=>?_,λa z=>?_⟩
   .rcases z with z|rfl
    .show .inl z
    .show .inr ⟨rfl,.inr (.inl ⟨j,.own,_,rfl,f,o⟩)⟩
   .rcases z with⟨i,k,u',hk,e,q⟩|⟨i,u',J,e,q,L⟩
    rotate_left 1
    .by_cases g:i=j
     .subst g;have s:i<c.st.length:=(gi.mp f).1;rw[gj s]at e;cases e
     .rw[k8 (z8 g)]at e;show .inr ⟨i,u',J,e,q,L⟩
    by_cases g:i=j
    .subst g;have s:i<c.st.length:=(gi.mp f).1;rw[gj s]at e;cases e;cases hk
    .rw[k8 (z8 g)]at e;show .inl ⟨i,k,u',hk,e,q⟩
  .cases e
 |_=>show d.elim
theorem fW:∀{rs:List (Kd×U)}{vs:List V}{c:Cf}{Post:List U->ak->Prop},Ok C c0->Ok C c->Nx c0 c->cR C c0 c rs vs->W (cw rs) c.st Post ->
  ∃(S':hQ->Prop) (st':ak) (us:List U),(∀a,c.S a->S' a)/\Ok C {c with S:=S',st:=st' }/\Nx c0 {c with S:=S',st:=st' }/\ae C S' c.H us vs/\Post us st'
 |[],vs,c,Post,k,m,n,p,h=>by
  rw[show cw []=pure [] from rfl,af]at h;show⟨c.S,c.st,[],λa=>id,m,n,p,h⟩
 |r::rs,vs,c,Post,k,m,n,p,h=>by
  have⟨v,t,rfl,J,L,N⟩:=p;rw[show cw (r::rs)=lift r >>= λu=>cw rs >>= λus=>pure (u::us) from rfl,ab]at h;have⟨s,st1,u,s1,O,Q,b,x,T,Y⟩:=fV k m n J h;rw[ab]at x;have JV:cR C c0 {c with S:=s,st:=st1} rs t:=by
   clear h x;have y:∀(l:List (Kd×U)) (w:List V),cR C c0 c l w->(r.1=.own->∀(i:Nat) f g,l[i]?=a5 f->w[i]?=a5 g->f.1=.own->g≠v)->cR C c0 {c with S:=s,st:=st1} l w:=by
    intro l;induction l with
    |nil=>intro w q _;show q
    |cons r2 l ih =>
     intro w q A;have⟨B,D,rfl,j,q2,q3⟩:=q;show⟨B,D,rfl,?_,ih D q2 (λhk i f g e1 e2 Ee=>A hk (i+1) f g (by simpa using e1) (by simpa using e2) Ee),q3⟩;have⟨k2,u2⟩:=r2;cases k2 with
     |own =>
      have⟨a,e,p1,p2,G,p4⟩:=j;show⟨a,e,p1,λz=>?_,λz=>G (Y a z),p4.mv (.up s1) λo q=>q⟩;rcases T a z with z|⟨z,z'|z'⟩
      .show p2 z
      .show A z' 0 _ B rfl rfl rfl (e.trans z.symm)
      .show G z'
     |loc=>show Rep.mv (.up s1) j
     |any=>show Rep.mv (.up λa z=>z.imp id (s1 a)) j
     |_=>show j
   show y rs t L N
  have⟨S2,st2,us,s2,D0,n2,d,I⟩:=fW (c:={c with S:=s,st:=st1}) k O Q JV x;rw[af]at I;show⟨S2,st2,u::us,λa z=>s2 a (s1 a z),D0,n2,⟨v,t,rfl,b.mv (.up s2),d⟩,I⟩
def xl(j:PA X es (EG C ms)):PE X (.Tuple es p pos) (Dy C (ms >>= λrs=>ar rs >>= λ_=>cw rs >>= λus=>if us.length<=dV then pure (.loc,.tup us) else M.fail)):=by
 rintro a s σ H Q I ⟨c0,rfl,rfl,g,h⟩;show wpAny_Tuple_spliced (Dx (args j I g h pos) λus s1 k=>?_);have⟨rs,c,vs,t,i,rv,w⟩:=k;rw[ab]at w;have⟨S',st',ws,q,l,m,d,f⟩:=fW g t.ok t.nx t.rep w;split at f
 .rename_i hz;rw[af]at f;have hl:vs.length<=dV:=by rw[<-d.len];show hz
  show⟨by rw[<-rv.length];show hl,?_⟩;have n:c.H s1.heap.objs.size=b6:=i.Dw.fresh (gs _);have o:Inv X a c0.σ c.H s1:=by rw[<-t.hσ];show i
  show⟨.ref s1.heap.objs.size,upd c.H s1.heap.objs.size (.tup vs),o.laid (t':=s1.toks) (λb u e=>et _ e) (gs _) ⟨hl,us,rv,TC _ _⟩,rfl,?_⟩;show bN.tup (c:={c with S:=S',st:=st' }) f t.hσ l m d _ n
 .show(aU.mp f).elim
def xm(j:PA X es (EG C ms)):PE X (.List es pos) (Dy C (ms >>= λrs=>ar rs >>= λ_=>cw rs >>= λus=>if us.length<=dV then pure (.own,.lst us) else M.fail)):=by
 rintro a s σ H Q I ⟨c0,rfl,rfl,g,h⟩;show VC (Dx (args j I g h pos) λus s1 k=>?_);have⟨rs,c,vs,t,i,rv,w⟩:=k;rw[ab]at w;have⟨S',st',ws,p,l,m,d,f⟩:=fW g t.ok t.nx t.rep w;split at f
 .rename_i hz;rw[af]at f;have hl:vs.length<=dV:=by rw[<-d.len];show hz
  show⟨by rw[<-rv.length];show hl,?_⟩;have n:c.H s1.heap.objs.size=b6:=i.Dw.fresh (gs _);have o:Inv X a c0.σ c.H s1:=by rw[<-t.hσ];show i
  show⟨.ref s1.heap.objs.size,upd c.H s1.heap.objs.size (.lst vs),o.laid (t':=s1.toks) (λb u e=>et _ e) (gs _) ⟨hl,us,0,rv,hA _ rfl⟩,rfl,?_⟩;show bN.list (c:={c with S:=S',st:=st' }) f t.hσ l m d _ n
 .show(aU.mp f).elim
end
section
def lU(d:X.N[i]?=a5 x)(f:Fh X.env.scope x)(g:(x==("__debug__":Str))=df)(l:(x==("__classdict__":Str))=df):PE X (.Name x pos) (Dy C (cW i)):=by
 show PE.weak (bY d f g l) ?_;rintro σ H Q ⟨c0,rfl,rfl,b,r,st',e,h⟩;unfold cW at e;split at e
 .cases e
 .rename_i k u m hs;cases e;have⟨v,c,a⟩:=b.sl i k u hs;show⟨v,c,h c0 v rfl rfl b (Nx.refl c0) ?_⟩;by_cases hk:k.root=b5
  .rw[WJ hk];show⟨⟨k,hk,hs⟩,c⟩
  .rw[WK hk];cases k with
   |loc=>show a
   |any=>show a
   |bor j=>show a.elim
   |Ds=>show(m rfl).elim
   |_=>show absurd rfl hk
 .cases e
def ix(h:PE X e (tC v))(r:∀S H,Rep C S H u v):PE X e (Dy C (pure (.loc,u))):=by
 show PE.weak h ?_;rintro σ H Q ⟨c0,rfl,rfl,a,h⟩;rw[af]at h;show h c0 v rfl rfl a (Nx.refl c0) (r _ _)
def bN.root(h:bN C c0 Q (.own,u) c.st)(d:c.σ=c0.σ)(b:Ok C c)(n:Nx c0 c)(p:hQ)(a:c.H p=b6)(r:cz C c.S (upd c.H p o) p u):Q (.ref p) (upd c.H p o):=by
 have⟨e,f⟩:=b.lay (o:=o) a;have⟨j,g,k,l,i⟩:=b.jc a;show h {c with H:=upd c.H p o} _ d rfl e (n.trans f) ⟨p,rfl,n.none a,g,i,r⟩
def uL(c:C.P=X.prog)(d:C.w=X.w)(r:Bool):PE X (.Dict [] [] pos) (Dy C (pure (.own,if r=b5 then .Ec [] else .Dt [] []))):=by
 cases r with
 |false =>
  show PE.weak mV ?_;rintro σ H Q ⟨c0,rfl,rfl,a,h⟩ p b;rw[af,WK mh]at h;show bN.root h rfl a (Nx.refl c0) p b ⟨[],aq,rfl,rfl⟩
 |true =>
  show PE.weak wK ?_;rintro σ H Q ⟨c0,rfl,rfl,a,h⟩ p b;rw[af,WJ rfl]at h;show bN.root h rfl a (Nx.refl c0) p b ⟨[],?_,rfl,λx e=>by cases e⟩;rw[c,d];show aq
def ae.DL{S:hQ->Prop}(h:ae C S H us vs)(e:DL us i=a5 u):∃v,L2.DL vs i=a5 v/\Rep C S H u v:=by
 unfold L2.DL at e ⊢;rw[h.len]at e;cases q:F4 vs.length i with
 |none=>rw[q]at e;cases e
 |some j =>
  rw[q]at e;show h.get e
def z_(L:C.K=X.K)(N:X.A.units+60<Eg)(hs:ir b)(t:JU C c0 c x y j l)(I:Inv X d c.σ c.H s)(B:RelV j v)(D:RelV l u)(h:gv x y.2=a5 r)(q:bN C c0 Q r c.st):
  fx (ke X.prog X.w) X.A (Sg a b v u) (EP X d c.σ Q) X.xe s:=by
 obtain⟨G,f,n,J,m,-⟩:=t;have⟨O,T⟩:=y
 dsimp only at h m
 unfold gv at h;split at h
 .rename_i k xs i;rw[f6]at h;have⟨w,e,rfl⟩:=h;have⟨a',vs,ex,g,o⟩:=J.list f;have⟨vw,p,z⟩:=o.DL e;show ly a b d s c.σ c.H j l v u Q I B D ⟨a',vs,i,vw,ex,m.int f,L▸g,p,q c vw G rfl f n (ay.item z)⟩ (hs _ _)
 .rename_i k xs i;rw[f6]at h;have⟨w,e,rfl⟩:=h;have⟨a',vs,ex,g,o⟩:=J.tuple f;have⟨vw,p,z⟩:=o.DL e;rw[L]at g;show oG a b d s c.σ c.H j l v u Q I B D ⟨a',vs,i,vw,ex,m.int f,g,p,q c vw G rfl f n (ay.item z)⟩ (hs _ _)
 .split at h
  .rw[f6]at h;have⟨w,e,rfl⟩:=h;show iN a b d s c.σ c.H j l v u Q I B D ⟨_,_,w,J.str f,m.int f,by assumption,e,q c _ G rfl f n rfl⟩ (hs _ _)
  .cases h
 .rename_i xs i;rw[f6]at h;have⟨w,e,rfl⟩:=h;have⟨a',vs,ex,g,o⟩:=J;have⟨vw,p,z⟩:=o.DL e;show ly a b d s c.σ c.H j l v u Q I B D ⟨a',vs,i,vw,ex,m.int f,L▸g.sq,p,q c vw G rfl f n (ay.item (k:=.any) z)⟩ (hs _ _)
 .cases h
def xn(f:C.K=X.K)(g:X.A.units+60<Eg)(hs:ir b)(i:PE X a (Dy C j))(k:PE X b (Dy C l)):PE X (.Subscript a b pos) (Dy C (j >>= λx=>l >>= λy=>ar [x,y] >>= λ_=>M.DQ (gv x y.2))):=by
 rintro d s σ H Q I ⟨c0,rfl,rfl,m,h⟩;show SO (two i k I m h λx y c B D v u s2 t n o p w=>?_);have⟨r,e,q⟩:=b8.mp w;show Dx (z_ f g hs t n o p e q) λ_ _ z=>by rw[t.hσ]at z;show z
def ae.cut{S:hQ->Prop}(h:ae C S H us vs)(lo a:Option Int):ae C S H (TM.cut us lo a) (mR vs lo a):=by
 unfold TM.cut mR;rw[h.len];show(h.drop _).take _
def su{lo a:Option Int}(h:HT.DA xs.length 0 lo=0/\HT.DA xs.length xs.length a=xs.length):cut xs lo a=xs:=by
 unfold cut;rw[h.1,h.2];simp
end
section
variable{prog:DW}{w:Fi}{A:Ke}{E:eH->hH->Prop}{s:hH}
def fe{lo c:Option Int}(b:UE s.heap t a)(hs:s.heap.IsSliceOf d f g .none)(i:QL f lo)(j:QL g c)
  (e:HT.DA a.size 0 lo=0/\HT.DA a.size a.size c=a.size) (h:Q (.ref t) s):fx (ke prog w) A (My (.ref t) (.ref d)) Q E s:=by
 have⟨os,k,l,o⟩:=id hs;have m:s.TypeIs (.ref d) "slice":=⟨os,k,l⟩
 unfold My
 try with_reducible show DD ?_
 first|show bD (cb ?_)|skip
 show bD (SY b.typeIs (by decide) ?_);show bD (FH (name:=Ky "__getitem__") b.typeIs oT
  (w6 oT b.typeIs RW ?_ (SN _ _)))
 change fx _ _ (Jo (.ref t) >>= _) _ _ s;show bD (Uu b ?_);show bD (Mq m ?_);rw[WJ (by decide)];show bD (HT.da hs i j ?_);have n:(((HT.DA a.size 0 lo:Nat):Int)==0&&(1:Int)==1&&(HT.DA a.size a.size c - HT.DA a.size 0 lo)==a.size)=b5:=by
  rw[e.1,e.2];simp
 change fx _ _ (if (((HT.DA a.size 0 lo:Nat):Int)==0&&(1:Int)==1&&(HT.DA a.size a.size c - HT.DA a.size 0 lo)==a.size)=b5 then _ else _) _ _ s;rw[WJ n];change fx (ke prog w) A.in1 ((Wl (lg t) >>= λx=>pure (x==.type "tuple")) >>= _) _ _ s;show bD (bD (Mq b.typeIs (cb ?_)));rw[WJ (by decide)];show bD (K1 (cb ⟨_,rfl,cb h⟩))
end
section
variable{X:Cx}{C:Ct}{pins:List (hQ×Obj)}{s:hH}{c0 c c1:Cf}
variable{a b d e:pk}{es:List pk}{m ma mb md:M (Kd×U)}{ms:M (List (Kd×U))}{ta tb:M Bool}{pos p p2:Pos}
def xo:GD X (λx lo g H Q=>∃a xs,x=.ref a/\DU X.K H a xs/\(HT.DA xs.length 0 lo=0/\HT.DA xs.length xs.length g=xs.length)/\Q (.ref a) H):=by
 intro pins s σ H x v u w lo g y Q I j hs k l h;have⟨a,xs,rfl,n,o,q⟩:=h;cases j;have⟨t,r,i,hz⟩:=I.tuple n;have f:t.toArray.size=xs.length:=by rw[hW];show r.length.symm
 show⟨"tuple",_,oT.lookup,i.typeIs,fe i hs k l (by rw[f];show o) ⟨.ref a,H,I,rfl,q⟩⟩
abbrev tO(C:Ct)(m:M (Option Int)):TO:=λσ H Q=>∃c0:Cf,c0.σ=σ/\c0.H=H/\Ok C c0/\W m c0.st λi st'=>∀c,c.σ=σ->c.st=st'->Ok C c->Nx c0 c->Q i c.H
def sv:PO X b6 (tO C (pure b6)):=by
 rintro pins s σ H Q I ⟨c0,rfl,rfl,f,h⟩;rw[af]at h;show wt pins s c0.σ c0.H Q I (h c0 rfl rfl f (Nx.refl c0))
def sy(f:PE X a (Dy C ma)):PO X (a5 a) (tO C (ma >>= zS)):=by
 rintro pins s σ H Q I ⟨c0,rfl,rfl,g,h⟩;show wu f pins s c0.σ c0.H Q I (az g h λx c v t w=>?_);have⟨k,u⟩:=x;unfold zS at w;split at w
 .rename_i i e
  dsimp only at e
  subst e;rw[af]at w;show⟨i,t.rx.int t.ok,w c t.hσ rfl t.ok t.nx⟩
 .show(aU.mp w).elim
def Aa{lo f:Option Int}(u:C.K=X.K)(k:c.σ=c0.σ)(g:Ok C c)(n:Nx c0 c)(o:ay C c0 c x.1 x.2 t)(h:pd x lo f=a5 r)(q:bN C c0 Q r c.st):
  ((Bu X.K t lo f c.H Q\/Bp X.K t lo f c.H Q)\/(∃a xs,t=.ref a/\DU X.K c.H a xs/\(HT.DA xs.length 0 lo=0/\HT.DA xs.length xs.length f=xs.length)/\Q (.ref a) c.H))\/Bz t lo f c.H Q:=by
 unfold pd at h;split at h
 .split at h
  .rename_i hh;cases h;have⟨a',vs,ex,j,i⟩:=o.list g;show .inl (.inl (.inl ⟨a',vs,ex,u▸j,λp l=>q.list k g n ((eF hh i).cut lo f) p l⟩))
  .cases h
 .split at h
  .rename_i hh;cases h;have⟨a',vs,ex,j,i⟩:=o;show .inl (.inl (.inl ⟨a',vs,ex,u▸j.sq,λp l=>q.list k g n ((i.DZ hh).cut lo f) p l⟩))
  .cases h
 .cases h;have⟨a',vs,ex,j,i⟩:=o.tuple g;have v:=j;rw[u]at v;by_cases w:HT.DA vs.length 0 lo=0/\HT.DA vs.length vs.length f=vs.length
  .show .inl (.inr ⟨a',vs,ex,v,w,?_⟩);show q c (.ref a') k rfl g n (ay.item ⟨a',vs,rfl,j,?_⟩);rw[su (by rw[i.len];show w)];show i
  .show .inl (.inl (.inr ⟨a',vs,ex,v,w,λp l=>q.tupK k g n (i.cut lo f) p l⟩))
 .split at h
  .cases h;show .inr ⟨_,o.str g,by assumption,q.flat k g n rfl⟩
  .cases h
 .cases h
def xp{lo g:Option pk}(n:C.K=X.K)(o:PE X a (Dy C ma))(hl:PO X lo (tO C ml))(hh:PO X g (tO C u)):
  PE X (.Subscript a (.Slice lo g b6 p2) pos) (Dy C (ma >>= λx=>ml >>= λl=>u >>= λh=>ar [x] >>= λ_=>M.DQ (pd x l h))):=by
 show PE.weak (tR (((GD.or wy zo).or xo).or zD) o hl hh) ?_;rintro σ H Q ⟨c0,rfl,rfl,y,h⟩;show az y h λx c v t w=>?_;rw[ab]at w;show⟨c,t.hσ,rfl,t.ok,w.mono λl st2 i z A B D G=>?_⟩;subst B;rw[ab]at i;show⟨z,A,rfl,D,i.mono λO st3 f I j J L N=>?_⟩;subst J;rw[ab,bR]at f;have⟨r,e,q⟩:=b8.mp f.2;have k:Nx c I:=G.trans N;show Aa n j L (t.nx.trans k) ((t.rx.w.on t.ok k (j.trans t.hσ.symm)).t f.1) e q
def ae.rz{S:hQ->Prop}(h:ae C S H us vs):ae C S H us.reverse vs.reverse:=by
 induction us generalizing vs with
 |nil=>cases h;show rfl
 |cons u us f =>
  have⟨v,r,rfl,g,i⟩:=h;rw[NO,NO];show(f i).snoc g
def xq(g:C.K=X.K)(i:PE X a (Dy C ma)):PE X (.Subscript a (.Slice b6 b6 (a5 (.UnaryOp .USub (.Constant (.int 1) I J) L)) p2) pos) (Dy C (ma >>= λx=>M.DQ (w_ x))):=by
 show PE.weak (zK i) ?_;rintro σ H Q ⟨c0,rfl,rfl,j,h⟩;show az j h λx c v t w=>?_;have⟨r,e,w⟩:=b8.mp w;have⟨k,u⟩:=x;unfold w_ at e;split at e
 .rename_i k' xs q;cases q;cases e;have⟨a',vs,ex,f,l⟩:=t.rx.tuple t.ok;rw[g]at f;show⟨a',vs,ex,f,λp n=>bN.tupK (λo y z A B D G=>w o y z A B D G) t.hσ t.ok t.nx l.rz p n⟩
 .cases e
end
section
variable{X:Cx}{C:Ct}{pins:List (hQ×Obj)}{s:hH}{c0 c c1:Cf}
variable{a b d e:pk}{es:List pk}{m ma mb md:M (Kd×U)}{ms:M (List (Kd×U))}{ta tb:M Bool}{pos p p2:Pos}
abbrev Bf.val:Bf->eH
 |.len=>.builtin "len"|.sorted=>.builtin "sorted"|.repr=>.builtin "repr"|.max=>.builtin "max"|.min=>.builtin "min"|.all=>.builtin "all"|.any=>.builtin "any"
 |.list=>.type "list"|.tuple=>.type "tuple"|.str=>.type "str"|.int=>.type "int"
abbrev Bf.name:Bf->Str
 |.len=>"len"|.sorted=>"sorted"|.repr=>"repr"|.max=>"max"|.min=>"min"|.all=>"all"|.any=>"any"
 |.list=>"list"|.tuple=>"tuple"|.str=>"str"|.int=>"int"
def call_of(g:gN X f r)(I:Inv X pins c.σ c.H s)(rv:Vals vs us)(h:r vs c.H Q):fx (ke X.prog X.w) X.A (MD f us) (EP X pins c.σ Q) X.xe s:=g pins s c.σ c.H vs us Q I rv h
mutual
theorem qM{S:hQ->Prop}(g:C.K=X.K)(I:Inv X pins c.σ c.H s):∀(u:U) (v:V) (f:eH) (d:UR),Rep C S c.H u v->RelV v f->cv u=a5 d->∃as,Reads s.heap f d as
 |.DB,v,f,d,h,r,e=>by cases h;cases r;cases e;show⟨_,.none⟩
 |.bl b,v,f,d,h,r,e=>by cases h;cases r;cases e;show⟨_,.bool b⟩
 |.int i,v,f,d,h,r,e=>by cases h;have⟨t,rfl⟩:=r;cases e;show⟨_,.int i t⟩
 |.str x,v,f,d,h,r,e=>by cases h;have⟨t,rfl⟩:=r;cases e;show⟨_,.str x t⟩
 |.tup us,v,f,d,h,r,e=>by
  have⟨a,vs,rfl,j,k⟩:=h;cases r;simp only[cv,f6]at e;have⟨l,q,rfl⟩:=e;rw[g]at j;obtain⟨w,rv,⟨o,ho,y,n,z⟩,_⟩:=I.tuple j;have⟨as,A⟩:=lV g I us vs w l k rv q;show⟨as,.tuple ho y z (by simpa using A)⟩
 |.lst us,v,f,d,h,r,e=>by
  have⟨a,vs,rfl,j,k⟩:=h;cases r;simp only[cv,f6]at e;have⟨l,q,rfl⟩:=e;have B:=j.sq;rw[g]at B;obtain⟨w,rv,D,_⟩:=I.list B;have⟨o,ho,y,n,z⟩:=D.isList;have⟨as,A⟩:=lV g I us vs w l k rv q;show⟨a::as,.list ho y z (by simpa using A)⟩
 |.Dt _ _,v,f,d,h,r,e=>by simp[cv]at e
 |.Ec _,v,f,d,h,r,e=>by simp[cv]at e
 |.DT _,v,f,d,h,r,e=>by simp[cv]at e
theorem lV{S:hQ->Prop}(i:C.K=X.K)(I:Inv X pins c.σ c.H s):∀(us:List U) (vs:List V) (f:List eH) (g:List UR),ae C S c.H us vs->Vals vs f->d4 us=a5 g->∃as,ReadsAll s.heap f g as
 |[],vs,f,g,h,r,e=>by
  cases h;cases r;cases e;show⟨_,.nil⟩
 |u::us,vs,f,g,h,r,e=>by
  have⟨v,j,rfl,k,l⟩:=h;cases r with
  |cons n o =>
   simp only[d4,rr,f6]at e;have⟨d,q,t,w,rfl⟩:=e;have⟨as,x⟩:=qM i I u v _ d k n q;have⟨y,z⟩:=lV i I us j _ t l o w;show⟨as++y,.cons x z⟩
end
mutual
theorem jm:∀(u:U) (d:UR),cv u=a5 d->d.hasDict=df
 |.DB,d,e=>by cases e;rfl
 |.bl b,d,e=>by cases e;rfl
 |.int i,d,e=>by cases e;rfl
 |.str x,d,e=>by cases e;rfl
 |.tup us,d,e=>by
  simp only[cv,f6]at e;have⟨f,g,rfl⟩:=e;simpa only[U5] using eI us f g
 |.lst us,d,e=>by
  simp only[cv,f6]at e;have⟨f,g,rfl⟩:=e;simpa only[U5] using eI us f g
 |.Dt _ _,d,e=>by simp[cv]at e
 |.Ec _,d,e=>by simp[cv]at e
 |.DT _,d,e=>by simp[cv]at e
theorem eI:∀(us:List U) (f:List UR),d4 us=a5 f->Ut f=df
 |[],f,e=>by cases e;rfl
 |u::us,f,e=>by
  simp only[d4,rr,f6]at e;have⟨d,g,h,i,rfl⟩:=e;simp only[Ut,jm u d g,eI us h i,Bool.or_self]
end
def qN{S:hQ->Prop}(j:C.K=X.K)(k:X.A.guards=a5 [])(y:X.A.units+60<Eg)(I:Inv X pins c.σ c.H s)(rv:Vals [v] us)(g:Rep C S c.H u v)(h:qH u=a5 r)(q:bN C c0 Q r c.st)(l:c.σ=c0.σ)(o:Ok C c)(n:Nx c0 c):
  fx (ke X.prog X.w) X.A (MD (.builtin "repr") us) (EP X pins c.σ Q) X.xe s:=by
 have⟨f,rfl,i⟩:=vals1 rv;unfold qH at h;rw[rr]at h;have⟨d,e,h⟩:=h;split at h
 .rename_i hz;cases h;have⟨as,t⟩:=qM j I u v f d g i e;have x:∃a,f=.ref a:=by
   cases u with
   |tup us=>obtain⟨a,vs,rfl,_⟩:=g;cases i;show⟨a,rfl⟩
   |lst us=>obtain⟨a,vs,rfl,_⟩:=g;cases i;show⟨a,rfl⟩
   |_=>simp[yu]at hz
  have⟨a,rfl⟩:=x;show repr_of_reads' t hz.1 (PyData.noDict_hsm (jm u d e)) k (by have:=hz.2.1;lia) (λ_ _ z=>z) (λh' u' B hk=>?_) hz.2.2.1;show⟨.str d.shown,c.H,I.kept hk,⟨_,rfl⟩,q.flat l o n rfl⟩
 .cases h
def bI(h:gw f rs=a5 r):∃x,rs=[x]/\f x=a5 r:=by
 unfold gw at h;split at h
 .show⟨_,rfl,h⟩
 .cases h
def yx(G:X.calm=b5)(y:C.K=X.K)(J:X.A.guards=a5 [])(L:X.A.units+60<Eg)(t:Gm C c0 c rs vs)(I:Inv X pins c.σ c.H s)(rv:Vals vs us)(h:EW f rs=a5 r)(q:bN C c0 Q r c.st):
  fx (ke X.prog X.w) X.A (MD f.val us) (EP X pins c.σ Q) X.xe s:=by
 have u:=t.hσ;have g:=t.ok;have n:=t.nx;cases f with
 |len =>
  have⟨x,rfl,hz⟩:=bI (f:=λx=>(zM x.2).map λ(n:Nat)=>(Kd.loc,U.int (n:Int))) h;clear h;have h:=hz;clear hz;rw[f6]at h;have⟨k,e,rfl⟩:=h;have⟨v,rfl,l⟩:=t.one;have⟨T,D⟩:=x;unfold zM at e;split at e
  .rename_i xs o;have o:D=.lst xs:=o;subst o;cases e;have⟨a',ws,ex,i,j⟩:=l.list g;rw[j.len]at q;show call_of dC I rv ⟨a',ws,by rw[ex],.inl (y▸i),q.flat u g n rfl⟩
  .rename_i xs o;have o:D=.tup xs:=o;subst o;cases e;have⟨a',ws,ex,i,j⟩:=l.tuple g;rw[y]at i;rw[j.len]at q;show call_of dC I rv ⟨a',ws,by rw[ex],.inr i,q.flat u g n rfl⟩
  .rename_i xs o;have o:D=.str xs:=o;subst o;split at e
   .cases e;show call_of lA I rv ⟨_,by rw[l.str g],by assumption,q.flat u g n rfl⟩
   .cases e
  .rename_i xs o;have o:D=.DT xs:=o;subst o;cases e;have⟨a',ws,ex,i,j⟩:=l.read g;rw[j.len]at q;show call_of dC I rv ⟨a',ws,by rw[ex],.inl (y▸i.sq),q.flat u g n rfl⟩
  .cases e
 |sorted =>
  have⟨x,rfl,hz⟩:=bI (f:=zN) h;clear h;have h:=hz;clear hz;have⟨v,rfl,l⟩:=t.one;unfold zN at h;split at h
  .rw[rr]at h;have⟨ss,e,h⟩:=h;have B:=bC e;subst B;have⟨a',ws,ex,i,j⟩:=l.list g;rw[ae.strs]at j;subst j;split at h
   .cases h;show call_of gU I rv ⟨a',ss,by rw[ex],.inl (y▸i),by assumption,λp z=>q.list u g n (ae.strs.mpr rfl) p z⟩
   .cases h
  .obtain⟨a',kvs,ex,i,j,_⟩:=l.dict g;split at h
   .cases h;show call_of (gu G) I rv ⟨a',kvs,_,by rw[ex],i,j,by assumption,λp z=>q.list u g n (ae.strs.mpr rfl) p z⟩
   .cases h
  .rw[rr]at h;have⟨ss,e,h⟩:=h;have B:=bC e;subst B;have⟨a',ws,ex,i,j⟩:=l.tuple g;rw[y]at i;rw[ae.strs]at j;subst j;split at h
   .cases h;show call_of gU I rv ⟨a',ss,by rw[ex],.inr i,by assumption,λp z=>q.list u g n (ae.strs.mpr rfl) p z⟩
   .cases h
  .cases h
 |tuple =>
  have⟨x,rfl,hz⟩:=bI (f:=zO) h;clear h;have h:=hz;clear hz;have⟨v,rfl,l⟩:=t.one;unfold zO at h;split at h
  .have⟨a',ws,ex,i,j⟩:=l.list g;cases h;show call_of fg I rv ⟨a',ws,by rw[ex],.inl ⟨y▸i,λp z=>q.tupK u g n j p z⟩⟩
  .have⟨a',ws,ex,i,j⟩:=l.tuple g;have N:=i;rw[y]at N;cases h;show call_of fg I rv ⟨a',ws,by rw[ex],.inr ⟨N,q c (.ref a') u rfl g n (ay.item ⟨a',ws,rfl,i,j⟩)⟩⟩
  .cases h
 |str =>
  have⟨x,rfl,hz⟩:=bI (f:=wY) h;clear h;have h:=hz;clear hz;have⟨v,rfl,l⟩:=t.one;unfold wY at h;split at h
  .split at h
   .cases h;show call_of lp I rv ⟨_,by rw[l.int g],by assumption,q.flat u g n rfl⟩
   .cases h
  .cases h
 |repr =>
  have⟨x,rfl,hz⟩:=bI (f:=zP) h;clear h;have h:=hz;clear hz;have⟨v,rfl,l⟩:=t.one;unfold zP at h;split at h
  .show qN y J L I rv (l.read g) h q u g n
  .show qN y J L I rv (l.read g) h q u g n
  .cases h
 |all =>
  have⟨x,rfl,hz⟩:=bI (f:=zQ) h;clear h;have h:=hz;clear hz;have⟨v,rfl,l⟩:=t.one;unfold zQ at h;split at h
  .rw[f6]at h;have⟨O,e,rfl⟩:=h;have B:=jk e;subst B;have⟨a',ws,ex,i,j⟩:=l.list g;have:=j.Oe;subst this;show call_of (t9 G) I rv ⟨a',O,by rw[ex],y▸i,q.flat u g n rfl⟩
  .cases h
 |_=>cases h
def xr{id:String}(g:X.calm=b5)(i:C.K=X.K)(j:X.A.guards=a5 [])(k:X.A.units+60<Eg)(l:f.val=.builtin id)(n:Gl X x)(o:X.mg x=b6)(u:IU x=a5 (.builtin id))(v:x≠"__name__")(y:(x==("__debug__":Str))=df)
  (B:PA X (e::es) (EG C ms)) (D:mu (e::es) X.env=(df,F' e X.env)::mu es X.env) (G:(G_ pos (mu es X.env)).any (·.1)=df) :
  PE X (.Call (.Name x p) (e::es) [] pos) (Dy C (ms >>= λrs=>ar rs >>= λ_=>M.DQ (EW f rs))):=by
 rintro pins s σ H Q I ⟨c0,rfl,rfl,J,h⟩;show HR (fm I n o u ?_ v y);show Wh (Dx (args B I J h pos) λus s1 ⟨rs,c,vs,t,L,rv,w⟩=>?_) D G;have⟨r,e,q⟩:=b8.mp w;have z:=yx g i j k t L rv e q;rw[l,t.hσ]at z;show z
def xu(g:X.calm=b5)(i:C.K=X.K)(j:X.A.guards=a5 [])(k:X.A.units+60<Eg)(l:f.val=.type T)(n:Gl X x)(o:X.mg x=b6)(u:IU x=a5 (.type T))(v:x≠"__name__")(y:(x==("__debug__":Str))=df)
  (B:PA X (e::es) (EG C ms)) (D:mu (e::es) X.env=(df,F' e X.env)::mu es X.env) (G:(G_ pos (mu es X.env)).any (·.1)=df) :
  PE X (.Call (.Name x p) (e::es) [] pos) (Dy C (ms >>= λrs=>ar rs >>= λ_=>M.DQ (EW f rs))):=by
 rintro pins s σ H Q I ⟨c0,rfl,rfl,J,h⟩;show HR (fm I n o u ?_ v y);show Jd (Dx (args B I J h pos) λus s1 ⟨rs,c,vs,t,L,rv,w⟩=>?_) D G;have⟨r,e,q⟩:=b8.mp w;have z:=yx g i j k t L rv e q;rw[l,t.hσ]at z;show z
@[reducible]def FO(P:DW)(w:Fi)(K:PySem.W.Frag)(H:Hp)(f:hQ->Prop):Ct:=⟨P,w,K,H,f,λ_=>False⟩
structure Back(C:Ct)(H H':Hp)(S':hQ->Prop)(k:Kd)(u:U)(v:V):Prop where
 same:tU H H'
 new:∀a,S' a->H a=b6/\∃o,H' a=a5 o
 own:k=.own->∃r,v=.ref r/\H r=b6/\¬S' r/\cz C S' H' r u
 loc:k=.loc->Rep C S' H' u v
 any:k=.any->Rep C (PS C S') H' u v
abbrev spT(P:DW)(w:Fi)(K:PySem.W.Frag)(F:List U->Option (Ex (Kd×U)))(g:Nat):Sp:=λvs H Q _=>vs.length=g/\∃us k u f,F us=a5 (.ok (k,u))/\(k=.own\/k=.loc\/k=.any)/\(∀a,f a->Fc H a) /\
 ae (FO P w K H f) f H us vs/\∀v H' S',Back (FO P w K H f) H H' S' k u v->Q v H'
def Gm.read(t:Gm C c0 c rs vs):ae C (Fc c.H) c.H (rs.map (·.2)) vs:=by
 have f:∀(l:List (Kd×U)) (w:List V),cR C c0 c l w->aY l c.st->ae C (Fc c.H) c.H (l.map (·.2)) w:=by
  intro l;induction l with
  |nil=>intro w h _;show h
  |cons r l g =>
   intro w h hs;obtain⟨v,t',rfl,i,j,_⟩:=h;rw[gy]at hs;show⟨v,t',rfl,(i.t hs.1).read t.ok,g t' j hs.2⟩
 show f rs vs t.rep t.IL
def Back.here(hk:k=.own\/k=.loc)(i:c.σ=c0.σ)(f:Ok C c)(n:Nx c0 c)(q:j.Eqv C)(h:Back j c.H H' S' k u v)(w:bN C c0 Q (k,u) c.st):Q v H':=by
 have⟨l,t⟩:=f.grow (S':=λa=>c.S a\/S' a) h.same (λa z=>z.imp id λz=>h.new a z) λa=>.inl;have x:=n.trans t;show w {c with H:=H',S:=λa=>c.S a\/S' a} v i rfl l x ?_;rcases hk with rfl|rfl
 .have⟨r,e,g,y,A⟩:=h.own rfl;have⟨G,B,I,J,D⟩:=f.jc g;show⟨r,e,n.none g,λz=>z.elim B y,D,(A.cg q).mv (.up λa=>.inr) λo q=>q⟩
 .show((h.loc rfl).cg q).mv (.up λa=>.inr)
def uM(o:C.P=X.prog)(x:C.w=X.w)(y:C.K=X.K)(N:Γ f=F)(hk:∀us k u,F us=a5 (.ok (k,u))->(k=.own\/k=.loc\/k=.any)/\us.length=B)
  (G:lq X.prog X.w X.K X.mg X.base GV k fa O ps (spT X.prog X.w X.K F B)) (T:fc k X.A) (Y:Gl X f) (hm:X.mg f=a5 (.ref fa)) (JW:PySem.W.keepIn X.K (.ref fa)=b5) (j:Binds X.K O ps [])
  (GX:(f==("__debug__":Str))=df) (ha:PA X (e::es) (EG C ms)) (he:mu (e::es) X.env=(df,F' e X.env)::mu es X.env) (Ep:(G_ pos (mu es X.env)).any (·.1)=df) :
  PE X (.Call (.Name f p) (e::es) [] pos) (Dy C (ms >>= λrs=>ar rs >>= λ_=>jg Γ f (rs.map (·.2)))):=by
 rintro pins s σ H Q I ⟨c0,rfl,rfl,ok,h⟩;show HR (qh I Y hm ?_ GX);show PySem.W.callWith_K (h₀:=X.base) I.ok.mod.Ki JW (Dx (args ha I ok h pos) λus s1 ⟨rs,c,vs,t,D,rv,w⟩=>⟨D.Hy,?_⟩) he Ep;have⟨r,st',g,q⟩:=w;unfold jg at g;rw[N]at g;cases i:F (rs.map (·.2)) with
 |none=>rw[i]at g;cases g
 |some r' =>
  rw[i]at g;split at g
  .cases g
  .rename_i z;cases z
  rename_i MH e3;cases e3;cases g;have⟨l,u⟩:=r;have⟨J,k2⟩:=hk _ _ _ i;have k1:l=.own\/l=.loc:=by
   rcases J with z|z|z
   .show .inl z
   .show .inr z
   .subst z;show(MH u rfl).elim
  have n:C.Eqv (FO X.prog X.w X.K c.H (Fc c.H)):=⟨o,x,y⟩
  have HX:(FO X.prog X.w X.K c.H (Fc c.H)).Eqv C:=⟨o.symm,x.symm,y.symm⟩
  have L:=t.read;have E8:spT X.prog X.w X.K F B vs c.H (λv H'=>Q v H') E0:=⟨by rw[<-L.len];show k2,rs.map (·.2),l,u,Fc c.H,i,J,λ_ z=>z,L.cg n,λv H' S' j=>j.here k1 t.hσ t.ok t.nx HX q⟩
  have z:=tP (Q:=Q) G T j .nil yq D rv (by rw[va];show E8);rw[t.hσ]at z;show z
end
section
abbrev Mf.id:Mf->String
 |.split=>"str.split"|.join=>"str.join"|.partition=>"str.partition"|.endswith=>"str.endswith"
abbrev Mf.name:Mf->Str
 |.split=>"split"|.join=>"join"|.partition=>"partition"|.endswith=>"endswith"
def uN(h:jf f u rs=a5 r):∃x,u=.str x:=by
 unfold jf at h;split at h
 .show⟨_,rfl⟩
 .show⟨_,rfl⟩
 .cases h
def Ab(u:C.K=X.K)(t:Gm C c0 c (x::rs) (d::vs))(I:Inv X a c.σ c.H s)(k:RelV d v)(rv:Vals vs us)(h:jf f x.2 rs=a5 r)(q:bN C c0 Q r c.st):
  fx (ke X.prog X.w) X.A (MD (.builtin f.id) (v::us)) (EP X a c.σ Q) X.xe s:=by
 have l:=t.hσ;have b:=t.ok;have n:=t.nx;have⟨y,z⟩:=x;have hs:=gy.mp t.IL;obtain⟨L,N,B,i,g,-⟩:=t.rep;cases B;have m:ay C c0 c y z d:=i.t hs.1;have one:∀{r:Kd×U},cR C c0 c [r] vs->aY [r] c.st->∃v,vs=[v]/\ay C c0 c r.1 r.2 v:=λ{r} h s=>by
  obtain⟨v,t',rfl,i,g,_⟩:=h;cases g;show⟨v,rfl,i.t s⟩
 dsimp only at h
 unfold jf at h;split at h
 .have⟨w,rfl,j⟩:=one g hs.2;split at h
  .rename_i hh;cases h;show t8 a s c.σ c.H d [w] v us Q I k rv ⟨_,_,m.str b,by rw[j.str b],hh.1,hh.2,λp D=>q.list l b n (ae.strs.mpr rfl) p D⟩
  .cases h
 .rw[rr]at h;have⟨ss,e,h⟩:=h;have G:=bC e;subst G;have⟨w,rfl,j⟩:=one g hs.2;have⟨a',ws,ex,J,o⟩:=j.list b;rw[ae.strs]at o;subst o;split at h
  .cases h;show wI a s c.σ c.H d [w] v us Q I k rv ⟨_,a',ss,m.str b,by rw[ex],u▸J,by assumption,q.flat l b n rfl⟩
  .cases h
 .cases h
def xv(J:C.K=X.K)(slot:Slot "str" name f.id)(L:Wl (.builtin f.id)=pure (.type "method_descriptor"))(ho:PE X o (Dy C m))(N:PA X (e::es) (EG C ms))
  (O:O0 o name X.env (F' o X.env)=F' o X.env)
  (T:((G_ cpos (mu (e::es) X.env)).all (λx=>!x.1)&&(O7 cpos (LS [] X.env)).all (λx=>x.1.isSome)
   && ez ((e::es).length+([]:List Lx).length+(if ([]:List Lx).isEmpty then 0 else 1)<30))=b5)
  (Y:(d.endLine==cpos.line)=b5) (hs:mu (e::es) X.env=(df,F' e X.env)::mu es X.env) (EB:(G_ cpos (mu es X.env)).any (·.1)=df) :
  PE X (.Call (.Attribute o name d) (e::es) [] cpos) (Dy C (m >>= λx=>ms >>= λrs=>ar (x::rs) >>= λ_=>M.DQ (jf f x.2 rs))):=by
 rintro a s σ H Q I ⟨c0,rfl,rfl,ok,h⟩;show UK O T Y rfl (Dx (ho a s c0.σ c0.H (λg n=>∃x c1,c1.H=n/\KP C c0 c1 x g/\W (ms >>= λrs=>ar (x::rs) >>= λ_=>M.DQ (jf f x.2 rs)) c1.st (bN C c0 Q)) I (az ok h λx c v t w=>⟨x,c,rfl,t,w⟩)) ?_);rintro v s1 ⟨g,n,p,u,x,c1,rfl,t,w⟩;have HY:∃z,x.2=.str z:=by
  rw[ab]at w;obtain⟨rs,st2,_,w⟩:=w;rw[ab]at w;obtain⟨_,st3,_,w⟩:=w;obtain⟨r,e,_⟩:=b8.mp w;show uN e
 have⟨z,hz⟩:=HY;have y:=t.rx;rw[hz]at y;have ev:=y.str t.ok;have ty:LG X.K "str" g c1.H:=by rw[ev];rfl
 have⟨h1,h2⟩:=oI p u ty;show⟨"str",f.id,PySem.F.plainAttrs_str,slot,L,h1,h2,?_⟩;rw[ab]at w;have A:=N cpos a s1 c0.σ c1.H (λvs B=>∃rs b,b.H=B/\Gm C c0 b (x::rs) (g::vs)/\W (M.DQ (jf f x.2 rs)) b.st (bN C c0 Q)) p ⟨c1,t.hσ,rfl,t.ok,w.mono λrs st2 k b vs D e4 D0 G j=>by
  rw[ab,bR]at k;subst e4;show⟨rs,b,rfl,⟨D,D0,t.nx.trans G,⟨g,vs,rfl,t.rx.w.on t.ok G (D.trans t.hσ.symm),j.from t.nx,λhk i r' v' e5 e6 Ee=>lS t.rx.w (j.get e5 e6) hk Ee⟩,k.1⟩,k.2⟩⟩
 rw[hs]at A ⊢;show Jm (by change(df||(G_ cpos (mu es X.env)).any (·.1))=df;rw[EB]<;>rfl) (J0 ?_);show Dx A ?_;rintro us s2 ⟨vs,B,I2,j,rs,b,rfl,l,w2⟩;have⟨r,e,q⟩:=b8.mp w2;have z:=Ab J l (by rw[l.hσ];show I2) u j e q;rw[l.hσ]at z;show z
end
section
variable{X:Cx}{C:Ct}{pins:List (hQ×Obj)}{s:hH}{c0 c c1:Cf}
variable{e:pk}{es:List pk}{ms:M (List (Kd×U))}{pos p p2 pos2:Pos}
abbrev B2.out:B2->eH
 |.Gf=>.type "tuple"|.Gg=>.type "list"|.sset=>.builtin "sorted"|.mS=>.builtin "len"
abbrev B2.KS:B2->eH
 |.Gf=>.type "reversed"|.Gg=>.type "reversed"|.sset=>.type "set"|.mS=>.type "set"
abbrev B2.lW:B2->Str
 |.Gf=>"tuple"|.Gg=>"list"|.sset=>"sorted"|.mS=>"len"
abbrev B2.fX:B2->Str
 |.Gf=>"reversed"|.Gg=>"reversed"|.sset=>"set"|.mS=>"set"
def sA(i:C.K=X.K)(j:Ok C c)(l:ay C c0 c k u v)(h:pe u=a5 ss):∃a b,v=.ref a/\(D3 X.K c.H a (b.map V.str)\/DU X.K c.H a (b.map V.str))/\b.length+1<HH/\ss=au b:=by
 unfold pe at h;split at h
 .rw[rr]at h;have⟨b,e,h⟩:=h;have g:=bC e;subst g;have⟨a',ws,ex,f,d⟩:=l.list j;rw[ae.strs]at d;subst d;split at h
  .cases h;show⟨a',b,ex,.inl (i▸f),by assumption,rfl⟩
  .cases h
 .rw[rr]at h;have⟨b,e,h⟩:=h;have g:=bC e;subst g;have⟨a',ws,ex,f,d⟩:=l.tuple j;rw[ae.strs]at d;subst d;rw[i]at f;split at h
  .cases h;show⟨a',b,ex,.inr f,by assumption,rfl⟩
  .cases h
 .cases h
def Ac(a:X.calm=b5)(d:C.K=X.K)(t:Gm C c0 c rs vs)(I:Inv X pins c.σ c.H s)(rv:Vals vs us)(h:si f rs=a5 r)(q:bN C c0 Q r c.st):
  fx (ke X.prog X.w) X.A (MD f.KS us) (λv s1=>fx (ke X.prog X.w) X.A (MD f.out [v]) (EP X pins c.σ Q) X.xe s1) X.xe s:=by
 have g:=t.hσ;have b:=t.ok;have n:=t.nx;cases f with
 |sset =>
  have⟨x,rfl,hz⟩:=bI (f:=λx=>(pe x.2).bind λss=>if ss.length<64 then a5 (Kd.own,U.lst ((av ss).map .str)) else b6) h;clear h;have h:=hz;clear hz;have⟨ss,e,h⟩:=rr.mp h;have⟨v,rfl,i⟩:=t.one;have⟨a',z,rfl,j,k,rfl⟩:=sA d b i e;have⟨u,rfl,m⟩:=vals1 rv;cases m;split at h
  .cases h;show lP a I j k λS h' B o y=>j5 a y o (by assumption) λl hl=>q.list g b n (ae.strs.mpr rfl) l hl
  .cases h
 |_=>cases h
def qO:∀f:B2,IU f.lW=a5 f.out/\IU f.fX=a5 f.KS/\f.lW≠"__name__"/\f.fX≠"__name__"/\(f.lW==("__debug__":Str))=df/\(f.fX==("__debug__":Str))=df:=by
 intro f;cases f<;>show⟨by decide +kernel,by decide +kernel,by decide +kernel,by decide +kernel,by decide +kernel,by decide +kernel⟩
def Ad(f:B2):∃T,f.KS=.type T:=by cases f<;>show⟨_,rfl⟩
def Ae(f:B2):(∃T,f.out=.type T)\/∃T,f.out=.builtin T:=by cases f<;>first|show .inl ⟨_,rfl⟩|show .inr ⟨_,rfl⟩
def xw{M:Model}{E:eH->hH->Prop}(h:fx M A t (λv a=>fx M A (MD (.type T) [v]) Q E a) E s):fx M A (callWith pos (.type T) [] [(df,t)] []) Q E s :=
 PySem.callWith_type rfl (J0 (Le (wk h (λ_ _ b=>Nw b) λ_ _ e=>e)))
def uO{M:Model}{E:eH->hH->Prop}(h:fx M A t (λv a=>fx M A (MD (.builtin T) [v]) Q E a) E s):fx M A (callWith pos (.builtin T) [] [(df,t)] []) Q E s :=
 Jm rfl (J0 (Le (wk h (λ_ _ b=>Nw b) λ_ _ e=>e)))
def uP(b:X.calm=b5)(d:C.K=X.K)(g:Gl X f.fX)(i:X.mg f.fX=b6)
  (j:PA X (e::es) (EG C ms)) (k:mu (e::es) X.env=(df,F' e X.env)::mu es X.env) (l:(G_ pos2 (mu es X.env)).any (·.1)=df)
  (I:Inv X pins c0.σ c0.H s) (m:Ok C c0) (h:W (ms >>= λrs=>ar rs >>= λ_=>M.DQ (si f rs)) c0.st (bN C c0 Q)) :
  fx (ke X.prog X.w) X.A (F' (.Call (.Name f.fX p2) (e::es) [] pos2) X.env) (λv s1=>fx (ke X.prog X.w) X.A (MD f.out [v]) (EP X pins c0.σ Q) X.xe s1) X.xe s:=by
 have⟨b1,n,b3,b4,B,o⟩:=qO f;show HR (fm I g i n ?_ b4 o);have a:fx (ke X.prog X.w) X.A (VQ (G_ pos2 (mu (e::es) X.env))) (λus s1=>fx (ke X.prog X.w) X.A (MD f.KS us) (λv s1=>fx (ke X.prog X.w) X.A (MD f.out [v]) (EP X pins c0.σ Q) X.xe s1) X.xe s1) X.xe s :=
  Dx (args j I m h pos2) λus s1 u=>by
   have⟨rs,c,vs,t,x,rv,w⟩:=u;have⟨r,e,q⟩:=b8.mp w;have z:=Ac b d t x rv e q;rw[t.hσ]at z;show z
 have⟨T,y⟩:=Ad f;rw[y]at a ⊢;show Jd a k l
def xx(d:X.calm=b5)(g:C.K=X.K)(i:Gl X f.lW)(j:X.mg f.lW=b6)(k:Gl X f.fX)(l:X.mg f.fX=b6)
  (m:PA X (e::es) (EG C ms)) (n:mu (e::es) X.env=(df,F' e X.env)::mu es X.env) (o:(G_ pos2 (mu es X.env)).any (·.1)=df) :
  PE X (.Call (.Name f.lW p) [.Call (.Name f.fX p2) (e::es) [] pos2] [] pos) (Dy C (ms >>= λrs=>ar rs >>= λ_=>M.DQ (si f rs))):=by
 rintro pins s σ H Q I ⟨c0,rfl,rfl,q,h⟩;have⟨b1,v,b3,b4,r,w⟩:=qO f;show HR (fm I i j b1 ?_ b3 r);have a:=uP (p2:=p2) (pos2:=pos2) d g k l m n o I q h;have t:G_ pos (mu [.Call (.Name f.fX p2) (e::es) [] pos2] X.env)=[(df,F' (.Call (.Name f.fX p2) (e::es) [] pos2) X.env)]:=rfl;have u:O7 pos (LS [] X.env)=[]:=rfl;rw[t,u];rcases Ae f with⟨T,b⟩|⟨T,b⟩
 .rw[b]at a ⊢;show xw a
 .rw[b]at a ⊢;show uO a
end
section
variable{X:Cx}{C:Ct}{pins:List (hQ×Obj)}{s:hH}{c0 c c1:Cf}
variable{a b d e o tg:pk}{es:List pk}{m ma mb md:M (Kd×U)}{ms:M (List (Kd×U))}{ta tb:M Bool}{pos p p2 apos cpos:Pos}
abbrev jn(rs:List (Kd×U))(c f:Cf):Prop:=∀j u,(Kd.bor j,u)∈rs->f.σ[j]?=c.σ[j]?
abbrev Walk(C:Ct)(c:Cf)(rs:List (Kd×U))(xs:List (Kd×U))(J:It):Prop:=∀f,Ok C f->Ns c f->jn rs c f->aY rs f.st ->
 (∀(i:Nat) r,xs[i]?=a5 r->(r.1=.loc\/r.1=.any)/\J.go i f.H/\∀x H',J.Km i f.H x H'->∃g:Cf,g.H=H'/\g.σ=f.σ/\g.st=f.st/\Ok C g/\Nx f g/\ay C f g r.1 r.2 x) /\
 ∀i:Nat,xs.length<=i->J.stop i f.H
abbrev GL(C:Ct)(f:Ik)(ms:M (List (Kd×U))):TI:=λσ H R=>∃c0:Cf,c0.σ=σ/\c0.H=H/\Ok C c0/\W (ms >>= λrs=>ar rs >>= λ_=>M.DQ (Fd f rs) >>= λxs=>pure (rs,xs)) c0.st λq st' =>
 ∀c J,c.σ=σ->c.st=st'->Ok C c->Nx c0 c->aY q.1 c.st->Walk C c q.1 q.2 J->R J c.H
def ay.walk(g:Ok C c)(n:Ns c f)(i:jn [r] c f)(hs:aY [r] f.st)(h:ay C c0 c r.1 r.2 v):ay C c0 f r.1 r.2 v :=
 (h.w.Oc g n λj e=>i j r.2 (by rw[<-e];simp)).t hs
def uQ(k:Kd):kE k=.loc\/kE k=.any:=by cases k<;>simp[kE]
def sC(z:C.K=X.K)(A:Ok C c)(h:ay C c0 c k (.lst us) (.ref a')):Walk C c [(k,.lst us)] (us.map λu=>(kE k,u)) (Lk X.K a'):=by
 intro l q n B hs;have h':=ay.walk (r:=(k,.lst us)) A n B hs h;have⟨H,vs,e,f,t⟩:=h'.list q;cases e;rw[z]at f;show⟨λi r w=>?_,λi D=>⟨vs,f,by rw[<-t.len];simpa using D⟩⟩;rw[nc,f6]at w;have⟨u,G,rfl⟩:=w;have⟨v,y,g⟩:=t.get G;show⟨uQ k,⟨vs,v,f,y⟩,λx H' j=>?_⟩;have⟨e,j⟩:=j;subst e;have:=j vs f;rw[y]at this;cases this;show⟨l,rfl,rfl,rfl,q,Nx.refl l,ay.item g⟩
def pf(z:C.K=X.K)(A:Ok C c)(h:ay C c0 c k (.tup us) (.ref a')):Walk C c [(k,.tup us)] (us.map λu=>(kE k,u)) (Ll X.K a'):=by
 intro l q n B hs;have h':=ay.walk (r:=(k,.tup us)) A n B hs h;have⟨H,vs,e,f,t⟩:=h'.tuple q;cases e;rw[z]at f;show⟨λi r w=>?_,λi D=>⟨vs,f,by rw[<-t.len];simpa using D⟩⟩;rw[nc,f6]at w;have⟨u,G,rfl⟩:=w;have⟨v,y,g⟩:=t.get G;show⟨uQ k,⟨vs,v,f,y⟩,λx H' j=>?_⟩;have⟨e,j⟩:=j;subst e;have:=j vs f;rw[y]at this;cases this;show⟨l,rfl,rfl,rfl,q,Nx.refl l,ay.item g⟩
def ph{lo:Int}:Walk C c rs ((hE n).map λi:Nat=>(Kd.loc,U.int (lo+(i:Int)))) (Kp lo n):=by
 intro h l nx t hs;show⟨λi r k=>?_,λi f=>by change n<=i;simpa using f⟩;rw[nc,f6]at k;have⟨j,g,rfl⟩:=k;have f:i<n:=by simpa using(gi.mp g).1
 rw[P2 f]at g;cases g;show⟨.inl rfl,f,λy H' q=>?_⟩;have⟨e,rfl⟩:=q;subst e;show⟨h,rfl,rfl,rfl,l,Nx.refl h,rfl⟩
def Af(i:C.K=X.K)(t:PE X a (Dy C ma)):PI X tg a (GL C .seq (ma >>= λr=>pure [] >>= λrs=>pure (r::rs))):=by
 rintro pins s σ H R I ⟨c0,rfl,rfl,w,h⟩;rw[ab,ab]at h;have⟨r,st1,x,h⟩:=h;rw[ab,af,af,ab,bR,ab]at h;have⟨y,h⟩:=h;have⟨xs,j,h⟩:=b8.mp h;rw[af]at h;have⟨k,u⟩:=r;cases u with
 |lst us =>
  cases j;show wg t pins s c0.σ c0.H R I ⟨c0,rfl,rfl,w,_,st1,x,λc v l hs g n f=>?_⟩;have⟨a',vs,rfl,q,A⟩:=f.list g;subst hs;show⟨a',rfl,⟨vs,i▸q⟩,h c _ l rfl g n y (sC i g f)⟩
 |tup us =>
  cases j;show zf t pins s c0.σ c0.H R I ⟨c0,rfl,rfl,w,_,st1,x,λc v l hs g n f=>?_⟩;have⟨a',vs,rfl,q,A⟩:=f.tuple g;subst hs;have z:=q;rw[i]at z;show⟨a',rfl,⟨vs,z⟩,h c _ l rfl g n y (pf i g f)⟩
 |_=>cases j
def uR{k:List (Kd×U)->M β}{Post:β->ak->Prop}(g:Ok C c0)(h:W (ms >>= λrs=>ar rs >>= λ_=>k rs) c0.st Post)
  (hz:∀rs c vs,Gm C c0 c rs vs->W (k rs) c.st Post->Z vs c.H):EG C ms c0.σ c0.H Z:=by
 rw[ab]at h;show⟨c0,rfl,rfl,g,h.mono λrs st1 f c1 vs i j l n q=>?_⟩;rw[ab,bR]at f;subst j;show hz rs c1 vs ⟨i,l,n,q,f.1⟩ f.2
def xy(i:Gl X "range")(j:X.mg "range"=b6)(hs:mu [a] X.env=[(df,F' a X.env)])(k:PA X [a] (EG C ms)):PI X tg (.Call (.Name "range" p) [a] [] pos) (GL C .DV ms):=by
 rintro pins s σ H R I ⟨c0,rfl,rfl,l,h⟩;show rK i j k hs pins s c0.σ c0.H R I (uR l h λrs c vs t w=>?_);rw[ab]at w;have⟨xs,g,w⟩:=b8.mp w;rw[af]at w;have⟨x,rfl,hz⟩:=bI (f:=sj) g;clear g;have g:=hz;clear hz;have⟨v,rfl,n⟩:=t.one;unfold sj at g;split at g
 .split at g
  .rename_i hh;cases g;show⟨_,by rw[n.int t.ok],⋯,⋯,w c _ t.hσ rfl t.ok t.nx t.IL ph⟩
  .cases g
 .cases g
def nz{k:Kd}{us:List U}{h:U}{a':hQ}{w:Hp->List V->Prop}(G:∀f,Ok C f->Ns c f->jn [(k,h)] c f->aY [(k,h)] f.st->∃vs,w f.H vs/\ae C (SK C f k) f.H us vs):Walk C c [(k,h)] (us.zipIdx.map λp=>(kE k,.tup [.int p.2,p.1])) (IE w):=by
 intro f g n I hs;have⟨vs,j,y⟩:=G f g n I hs;show⟨λi r z=>?_,λi J=>⟨vs,j,by rw[<-y.len];simpa using J⟩⟩;rw[nc,f6]at z;have⟨p,A,rfl⟩:=z;rw[Uk,f6]at A;have⟨u,L,rfl⟩:=A;have⟨v,B,l⟩:=y.get L;show⟨uQ k,⟨vs,v,j,B⟩,λx H' q=>?_⟩;have⟨p,N,rfl,q⟩:=q;have O:=q vs v j B;subst O;have⟨Q,t⟩:=g.lay (o:=.tup [.int i,v]) N;show⟨{f with H:=upd f.H p (.tup [.int i,v])},rfl,rfl,rfl,Q,t,ay.item ?_⟩;have D:ae C (SK C f k) f.H [.int ((0+i:Nat):Int),u] [.int (i:Int),v]:=by
  rw[T'];show⟨_,_,rfl,rfl,_,_,rfl,l,rfl⟩
 cases k<;>show⟨p,_,rfl,DU.of aq,by first|show D.mv (g.G3 t)|show D.mv (g.mv t)⟩
def Ag{es:List pk}{z:Nat}{ps:Pos}(k:C.K=X.K)(A:Gl X "enumerate")(B:X.mg "enumerate"=b6)(hs:mu [a] X.env=[(df,F' a X.env)])(D:PA X [a] (EG C ms)):PI X (.Tuple es z ps) (.Call (.Name "enumerate" p) [a] [] pos) (GL C .HS ms):=by
 rintro pins s σ H R I ⟨c0,rfl,rfl,G,h⟩;show wN A B D hs pins s c0.σ c0.H R I (uR G h λrs c vs t w=>?_);rw[ab]at w;have⟨xs,i,w⟩:=b8.mp w;rw[af]at w;have⟨x,rfl,hz⟩:=bI (f:=zR) i;clear i;have i:=hz;clear hz;have⟨v,rfl,l⟩:=t.one;unfold zR at i;split at i
 .cases i;have⟨a',ws,q,g,j⟩:=l.list t.ok;subst q;show⟨a',rfl,.inl ⟨⟨ws,k▸g⟩,w c _ t.hσ rfl t.ok t.nx t.IL ?_⟩⟩;show nz (a':=a') λJ r n u y=>?_;have⟨L,vs,e,g,j⟩:=(ay.walk t.ok n u y l).list r;cases e;show⟨vs,k▸g,j⟩
 .cases i;have⟨a',ws,q,g,j⟩:=l.tuple t.ok;subst q;rw[k]at g;show⟨a',rfl,.inr ⟨⟨ws,g⟩,w c _ t.hσ rfl t.ok t.nx t.IL ?_⟩⟩;show nz (a':=a') λJ r n u y=>?_;have⟨L,vs,e,g,j⟩:=(ay.walk t.ok n u y l).tuple r;cases e;rw[k]at g;show⟨vs,g,j⟩
 .cases i
def Ok.put(t:Ok C c)(n:Nx c0 c)(Q:i<c.σ.length)(hk:k=.own\/k=.loc\/k=.any)(ED:Ok C c0)(h:ay C c0 c k u v):
  Ok C {c with σ:=c.σ.set i (a5 v),st:=c.st.set i (a5 (k,u))}/\Nx c0 {c with σ:=c.σ.set i (a5 v),st:=c.st.set i (a5 (k,u))}:=by
 have T:i<c.st.length:=by rw[t.len];show Q
 have Y:∀(j:Nat) k' u',(c.st.set i (a5 (k,u)))[j]?=a5 (a5 (k',u'))->j≠i->c.st[j]?=a5 (a5 (k',u')):=λj k' u' e ne=>by rw[k8 (z8 ne)]at e;show e
 have E4:∀(j:Nat) B,(c.σ.set i (a5 v))[j]?=a5 (a5 B)->j≠i->c.σ[j]?=a5 (a5 B):=λj B e ne=>by rw[k8 (z8 ne)]at e;show e
 have sl:eB C c.S c.H k u v:=by
  rcases hk with rfl|rfl|rfl
  .have⟨r,e,D,J,y,L⟩:=h;have⟨z0,z1,N,z3,z4⟩:=ED.jc D;show⟨r,e,J,N,z0,L⟩
  .show h
  .show h
 have HZ:∀(j:Nat) k' u' r,k'.root=b5->(c.st.set i (a5 (k,u)))[j]?=a5 (a5 (k',u'))->(c.σ.set i (a5 v))[j]?=a5 (a5 (.ref r))->j=i/\k=.own/\v=.ref r\/j≠i/\c.st[j]?=a5 (a5 (k',u'))/\c.σ[j]?=a5 (a5 (.ref r)):=λj k' u' r G g l=>by
  by_cases f:j=i
  .subst f;rw[gj T]at g;rw[gj Q]at l;cases g;cases l;rcases hk with rfl|rfl|rfl
   .show .inl ⟨rfl,rfl,rfl⟩
   .cases G
   .cases G
  .show .inr ⟨f,Y j k' u' g f,E4 j _ l f⟩
 have dD:∀(j:Nat) (u':U),(c.st.set i (a5 (k,u)))[j]?=a5 (a5 (.Ds,u'))->c.st[j]?=a5 (a5 (.Ds,u'))/\(c.σ.set i (a5 v))[j]?=c.σ[j]?:=λj u' e=>by
  by_cases f:j=i
  .subst f;rw[gj T]at e;cases e;rcases hk with hk|hk|hk<;>cases hk
  .show⟨Y j .Ds u' e f,k8 (z8 f)⟩
 have b1:∀a,({c with σ:=c.σ.set i (a5 v),st:=c.st.set i (a5 (k,u))}:Cf).R1 a->c.R1 a\/k=.own/\v=.ref a:=λa DH=>by
  have⟨j,k',u',G,g,l⟩:=DH;rcases HZ j k' u' a G g l with⟨O,w,x⟩|⟨O,w,x⟩
  .show .inr ⟨w,x⟩
  .show .inl ⟨j,k',u',G,w,x⟩
 have G7:FK C {c with σ:=c.σ.set i (a5 v),st:=c.st.set i (a5 (k,u))}:=t.dd.of rfl dD (λa z=>(b1 a z).imp id λ⟨q1,q2⟩ j z'=>by
  subst q1;obtain⟨I,e,_,_,y,_⟩:=h;rw[q2]at e;cases e;show y (.inr ⟨j,z'⟩)) (.up λ_ z=>z) λj a z=>⟨(t.root (.inr ⟨j,z⟩)).1,λo q=>q⟩
 show⟨⟨t.same,t.E2,t.par,t.io,by simp[t.len],λj k' u' e=>?_,λj1 j2 k1 k2 u1 u2 r IM JV g l e3 e4=>?_,G7⟩,⟨⟨n.keep,n.there,λa z=>?_,n.sub,n.new⟩,n.all⟩⟩
 .by_cases f:j=i
  .subst f;rw[gj T]at e;cases e;show⟨v,by rw[gj Q],sl⟩
  .have⟨B,g,l⟩:=t.sl j k' u' (Y j k' u' e f);show⟨B,by rw[k8 (z8 f)];show g,l⟩
 .have z1:=HZ j1 k1 u1 r IM g e3;have N:=HZ j2 k2 u2 r JV l e4;rcases z1 with⟨O,w,x⟩|⟨O,w,x⟩
  .rcases N with⟨b1,A,b3⟩|⟨b1,A,b3⟩
   .show O.trans b1.symm
   .subst w;have⟨I,e,D,J,y,L⟩:=h;rw[x]at e;cases e;show(y (.inl ⟨j2,k2,u2,JV,A,b3⟩)).elim
  .rcases N with⟨b1,A,b3⟩|⟨b1,A,b3⟩
   .subst A;have⟨I,e,D,J,y,L⟩:=h;rw[b3]at e;cases e;show(y (.inl ⟨j1,k1,u1,IM,w,x⟩)).elim
   .show t.inj j1 j2 k1 k2 u1 u2 r IM JV w A x b3
 .rcases z with z|⟨j,u',I,g,l,e3⟩
  .rcases b1 a z with z|⟨w,x⟩
   .show n.roots a (.inl z)
   .subst w;have⟨I,e,D,J,y,L⟩:=h;rw[x]at e;cases e;show .inr D
  .have⟨q1,q2⟩:=dD j u' g;show n.roots a (.inr ⟨j,u',I,q1,q2▸l,e3⟩)
def lX(z:Ok C c0)(q:Ok C c)(n:Nx c0 c)(A:i<c.σ.length)(t:ay C c0 c r.1 r.2 v)(h:W (d5 i r) c.st Post):
  ∃y,y.σ=c.σ.set i (a5 v)/\y.H=c.H/\Ok C y/\Nx c0 y/\Post () y.st:=by
 have⟨k,u⟩:=r;cases k with
 |own =>
  have⟨x,st',e,f⟩:=h;cases e;have⟨g,l⟩:=q.put n A (.inl rfl) z t;show⟨{c with σ:=c.σ.set i (a5 v),st:=c.st.set i (a5 (.own,u))},rfl,rfl,g,l,f⟩
 |loc =>
  have⟨x,st',e,f⟩:=h;cases e;have⟨g,l⟩:=q.put n A (.inr (.inl rfl)) z t;show⟨{c with σ:=c.σ.set i (a5 v),st:=c.st.set i (a5 (.loc,u))},rfl,rfl,g,l,f⟩
 |any =>
  have⟨x,st',e,f⟩:=h;cases e;have⟨g,l⟩:=q.put n A (.inr (.inr rfl)) z t;show⟨{c with σ:=c.σ.set i (a5 v),st:=c.st.set i (a5 (.any,u))},rfl,rfl,g,l,f⟩
 |bor j =>
  have⟨x,st',e,f⟩:=h;rw[show d5 i (.bor j,u) c.st=match c.st[j]? with|some (a5 (.own,u))=>a5 (Ex.ok (),(c.st.set j (a5 (.loc,u))).set i (a5 (.loc,u)))|_=>b6 from rfl]at e;split at e
  .rename_i w D;cases e;obtain⟨O,G,r,J,_⟩:=q.sl j _ _ D;have I:c.σ[j]?=a5 (a5 v):=t.2;rw[I]at G;cases G;subst J;have⟨L,N,B⟩:=q.uK n D I;have⟨g,l⟩:=Ok.put (c:={c with S:=λa=>c.S a\/a=r,st:=c.st.set j (a5 (.loc,w))}) L N (k:=.loc) (u:=w) (v:=.ref r) A (.inr (.inl rfl)) z B;show⟨{S:=λa=>c.S a\/a=r,H:=c.H,σ:=c.σ.set i (a5 (.ref r)),st:=(c.st.set j (a5 (.loc,w))).set i (a5 (.loc,w)),kid:=c.kid},rfl,rfl,g,l,f⟩
  .cases e
 |_=>show t.elim
end
section
abbrev tG(C:Ct)(t:Bool)(is:List Nat):TG:=λv σ H Q=>∃c0 c r,c.σ=σ/\c.H=H/\Ok C c0/\Ok C c/\Nx c0 c/\ay C c0 c r.1 r.2 v/\W (cL t is r) c.st λ_ st' =>
 ∀a,a.st=st'->Ok C a->Nx c0 a->(∀j,j∉is->a.σ[j]?=c.σ[j]?)->a.σ.length=c.σ.length->Q a.σ a.H
structure pj(X:Cx)(e:pk)(i:Nat):Prop where
 is:∃x pos,e=.Name x pos/\X.N[i]?=a5 x/\Loc X.env.scope x/\(X.fn x=b5\/X.env.scope.names.lookup x=a5 .local)
def Ah(g:X.N.Nodup)(h:pj X e i):PG X e (tG C df [i]):=by
 have⟨x,pos,rfl,f,k,l⟩:=h.is;rintro a s σ H v u Q I rv ⟨c0,c,r,rfl,rfl,m,o,n,b,w⟩;have p:i<c.σ.length:=by rw[I.len];show(gi.mp f).1
 have⟨t,d,y,A,B,q⟩:=lX (r:=r) m o n p b w;show qk g f k l a s c.σ c.H v u Q I rv ?_;have z:=q t rfl A B (λj D=>by rw[d,k8 (by intro z;show D (by simp[z]))]) (by rw[d];simp);rw[d,y]at z;show z
abbrev MK:List Nat->Iu
 |[]=>Ba
 |i::is=>yp (qj i) (MK is)
inductive dM(X:Cx):List pk->List Nat->Prop where
 |nil:dM X [] []
 |cons {e:pk} {es:List pk} {i:Nat} {is:List Nat} (h:pj X e i) (t:dM X es is):dM X (e::es) (i::is)
def sD(a:X.N.Nodup)(h:dM X es is):Jf X es (MK is):=by
 induction h with
 |nil=>show wb
 |cons h t b =>
  have⟨x,pos,rfl,c,d,e⟩:=h.is;show tI (qk a c d e) b rfl
def pq(h:dM X es is):(LO es X.env).length=is.length/\(LO es X.env).findIdx? (·.1)=b6:=by
 induction h with
 |nil=>show⟨rfl,rfl⟩
 |cons h t a =>
  have⟨x,pos,rfl,b,c,d⟩:=h.is;show⟨?_,?_⟩
  .change(_::_).length=_;simp[a.1]
  .change VJ _ (_::_)=b6;rw[List.findIdx?_cons,WK (by simp),a.2];rfl
theorem qP(hk:kE k=k)(g:Ok C c0):∀{is:List Nat}{us:List U}{vs:List V}{c:Cf}{Post:Unit->ak->Prop}{Q:L2.St->Hp->Prop},Ok C c->Nx c0 c->(∀i∈is,i<c.σ.length)->ae C (SK C c k) c.H us vs->W (sets is (us.map λu=>(k,u))) c.st Post ->
  (∀b,Post () b.st->Ok C b->Nx c0 b->(∀j,j∉is->b.σ[j]?=c.σ[j]?)->b.σ.length=c.σ.length->Q b.σ b.H)->MK is vs c.σ c.H Q
 |[],[],vs,c,Post,Q,ok,n,d,a,w,q=>by
  rw[show sets [] (LC (λu=>(k,u)) [])=pure () from rfl,af]at w;show⟨a,q c w ok n (λ_ _=>rfl) rfl⟩
 |[],u::us,vs,c,Post,Q,ok,n,d,a,w,q=>(aU.mp w).elim
 |i::is,[],vs,c,Post,Q,ok,n,d,a,w,q=>(aU.mp w).elim
 |i::is,u::us,vs,c,Post,Q,ok,n,d,a,w,q=>by
  rw[show sets (i::is) (LC (λu=>(k,u)) (u::us))=d5 i (k,u) >>= λ_=>sets is (us.map λu=>(k,u)) from rfl,ab]at w;have⟨v,r,rfl,h,l⟩:=a;have m:k=.own\/k=.loc\/k=.any:=by cases k<;>simp[kE]at hk<;>simp
  have B:k≠.own:=by cases k<;>simp[kE]at hk<;>simp
  have rt:ay C c0 c k u v:=by rw[<-hk];show ay.item h
  have⟨o,s⟩:=ok.put n (d i (by simp)) m g rt;have es:d5 i (k,u)=λst=>a5 (.ok (),st.set i (a5 (k,u))):=by cases k<;>simp[kE]at hk<;>rfl
  obtain⟨_,st',e,t⟩:=w;rw[es]at e;cases e;show⟨v,r,rfl,qP (c:={c with σ:=c.σ.set i (a5 v),st:=c.st.set i (a5 (k,u))}) hk g o s (λj f=>by simpa using d j (by simp[f])) (by cases k<;>show l) t λb p x y A hl=>?_⟩;show q b p x y (λj f=>?_) (by rw[hl];simp);rw[A j (λz=>f (by simp[z])),k8 (λz=>f (by simp[z]))]
def BK(m:X.calm=b5)(o:C.K=X.K)(q:X.N.Nodup)(h:dM X es is)(hl:∀i∈is,i<X.N.length):PG X (.Tuple es Y pos) (tG C b5 is):=by
 rintro a s σ H v u Q I rv ⟨c0,c,r,rfl,rfl,t,f,n,d,w⟩;have⟨y,z⟩:=pq h;show za m (sD q h) y z a s c.σ c.H v u Q I rv ?_;have⟨k,A⟩:=r;cases A with
 |tup us =>
  rw[show cL b5 is (k,.tup us)=sets is (us.map λu=>(kE k,u)) from by cases is<;>rfl]at w;have⟨a',vs,rfl,g,j⟩:=d.tuple f;rw[o]at g;have b:us.length=is.length:=by
   have e:∀(is:List Nat) (l:List (Kd×U)) (st:ak) (P:Unit->ak->Prop),W (sets is l) st P->l.length=is.length:=by
    intro is;induction is with
    |nil=>intro l st P w;cases l with
     |nil=>rfl
     |cons _ _=>show(aU.mp w).elim
    |cons i is B=>intro l st P w;cases l with
     |nil=>show(aU.mp w).elim
     |cons x l =>
      rw[show sets (i::is) (x::l)=d5 i x >>= λ_=>sets is l from rfl,ab]at w;obtain⟨_,_,_,w⟩:=w;rw[lx,lx,B l _ _ w]
   simpa using e _ _ _ _ w
  show⟨a',vs,rfl,g,by rw[<-j.len,b],?_⟩;show qP (k:=kE k) (by cases k<;>rfl) t f n (λi D=>by rw[I.len];show hl i D) (by cases k<;>show j) w λG p J L O T=>p G rfl J L O T
 |_=>cases is<;>show(aU.mp w).elim
end
section
variable{X:Cx}{C:Ct}{pins:List (hQ×Obj)}{s:hH}{c0 c c1:Cf}
variable{a b d e o tg iter elt:pk}{es ifs:List pk}{m ma mb md me:M (Kd×U)}{ms:M (List (Kd×U))}{ta tb tc:M Bool}{pos p p2 apos cpos:Pos}
def sE{m:M α}{st:ak}{Q:α->ak->Prop}:W (inScope k m) st Q↔W m (l0 k b6++st) λa st'=>Q a (st'.drop k):=by
 constructor
 .rintro⟨a,st',e,h⟩;unfold inScope at e;cases q:m (l0 k b6++st) with
  |none=>rw[q]at e;cases e
  |some r=>have⟨g,f⟩:=r;rw[q]at e;cases e;show⟨a,f,q,h⟩
 .rintro⟨a,st',e,h⟩;show⟨a,st'.drop k,by unfold inScope;rw[e],h⟩
abbrev Cf.ext(k:Nat)(c:Cf):Cf:={c with σ:=l0 k b6++c.σ,st:=l0 k b6++c.st,kid:=λj=>c.kid (j - k)}
abbrev Cf.cut(k:Nat)(c:Cf):Cf:={c with σ:=c.σ.drop k,st:=c.st.drop k,kid:=λj=>c.kid (k+j)}
def eV(h:(l0 k b6++l)[j]?=a5 (a5 x)):∃i,j=k+i/\l[i]?=a5 (a5 x):=by
 by_cases f:j<k
 .rw[z9 (by simpa using f)]at h;rw[I0]at h;rw[WJ f]at h;cases h
 .show⟨j - k,⋯,?_⟩;rw[uk (by simp;lia)]at h;simpa using h
def dN:(l0 k b6++l)[k+i]?=l[i]?:=by
 rw[uk (by simp)];simp
def uS:(c.ext k).R1 r↔c.R1 r:=by
 constructor
 .rintro⟨j,g,u,h,l,f⟩;have⟨i,rfl,e⟩:=eV l;rw[Cf.ext,dN]at f;show⟨i,g,u,h,e,f⟩
 .rintro⟨i,g,u,h,l,f⟩;show⟨k+i,g,u,h,by rw[Cf.ext,dN];show l,by rw[Cf.ext,dN];show f⟩
def lY{a:hQ}(h:(c.ext k).RD j a):∃i,j=k+i/\c.RD i a:=by
 have⟨u,r,l,f,g⟩:=h;have⟨i,rfl,e⟩:=eV l;rw[Cf.ext,dN]at f;show⟨i,rfl,u,r,e,f,?_⟩;have:(c.ext k).kid (k+i)=c.kid i:=by change c.kid (k+i - k)=_;rw[TZ]
 rw[this]at g;show g
def BL(h:(c.ext k).R r):c.R r:=by
 rcases h with h|⟨j,h⟩
 .show .inl (uS.mp h)
 .obtain⟨i,_,h⟩:=lY h;show .inr ⟨i,h⟩
def Ok.ext(k:Nat)(f:Ok C c):Ok C (c.ext k)/\Nx c (c.ext k):=by
 show⟨⟨f.same,f.E2,f.par,f.io,by simp[Cf.ext,f.len],λj A u e=>?_,λi j k1 k2 u u' r B D l g y z=>?_,⟨λj u r l g=>?_,λi j a n q=>?_,λj a n q=>?_⟩⟩,⟨⟨λ_ _ h _=>h,λ_ o h=>⟨o,h⟩,λa h=>.inl (BL h),λ_ h=>h,λ_ h=>.inl h⟩,λ_ _ h=>h⟩⟩
 .have⟨i,rfl,G⟩:=eV e;have⟨v,l,g⟩:=f.sl i A u G;show⟨v,by rw[Cf.ext,dN];show l,g⟩
 .have⟨t,rfl,H⟩:=eV l;have⟨w,rfl,I⟩:=eV g;rw[Cf.ext,dN]at y z;rw[f.inj t w k1 k2 u u' r B D H I y z]
 .have⟨i,rfl,e⟩:=eV l;rw[Cf.ext,dN]at g;have:(c.ext k).kid (k+i)=c.kid i:=by change c.kid (k+i - k)=_;rw[TZ]
  rw[this];show f.dd.kd i u r e g
 .have⟨t,rfl,x⟩:=lY n;have⟨w,rfl,J⟩:=lY q;rw[f.dd.dj t w a x J]
 .have⟨i,rfl,x⟩:=lY n;show f.dd.d1 i a x (uS.mp q)
def uT{a:hQ}(h:(c.cut k).R1 a):c.R1 a:=by
 have⟨j,i,u,l,f,g⟩:=h;rw[Cf.cut,HD]at f g;show⟨k+j,i,u,l,f,g⟩
def lZ{a:hQ}(h:(c.cut k).RD j a):c.RD (k+j) a:=by
 have⟨u,r,f,g,i⟩:=h;rw[Cf.cut,HD]at f g;show⟨u,r,f,g,i⟩
def Ok.cut(k:Nat)(f:Ok C c):Ok C (c.cut k)/\Nx c (c.cut k):=by
 show⟨⟨f.same,f.E2,f.par,f.io,by simp[Cf.cut,f.len],λj x u e=>?_,λi j k1 k2 u u' r y A g l t w=>?_,⟨λj u r g l=>?_,λi j a n q=>?_,λj a n q=>f.dd.d1 _ a (lZ n) (uT q)⟩⟩,⟨⟨λ_ _ h _=>h,λ_ o h=>⟨o,h⟩,λa h=>.inl (h.elim (λz=>.inl (uT z)) λ⟨j,z⟩=>.inr ⟨k+j,lZ z⟩),λ_ h=>h,λ_ h=>.inl h⟩,λ_ _ h=>h⟩⟩
 .rw[Cf.cut,HD]at e;have⟨v,g,l⟩:=f.sl _ x u e;show⟨v,by rw[Cf.cut,HD];show g,l⟩
 .rw[Cf.cut,HD]at g l t w;have:=f.inj _ _ k1 k2 u u' r y A g l t w;lia
 .rw[Cf.cut,HD]at g l;show f.dd.kd _ u r g l
 .have:=f.dd.dj _ _ a (lZ n) (lZ q);lia
def xA(h:∀j,j∉hE k->g[j]?=(l0 k b6++σ)[j]?)(hl:g.length=(l0 k (b6:Option V)++σ).length):∃f:L2.St,f.length=k/\g=f++σ:=by
 show⟨g.take k,by rw[EX,hl];simp,?_⟩;apply U1;intro j;by_cases i:j<k
 .rw[z9 (by rw[EX,hl];simp;lia),List.getElem?_take,WJ i]
 .rw[h j (by simpa using i),uk (by simp;lia),uk (by rw[EX,hl];simp;lia)];congr 1
  rw[EX,hl];simp
def sF(e1:c1.σ=c0.σ)(Dz:Ok C c1)(n1:Nx c0 c1)(hw:Walk C c1 rs xs J)(h3:W (bp k t tc me rs xs []) c1.st λus st'=>W (pure (Kd.own,U.lst us)) st' (bN C c0 Q)):
  qu k J (tG C t (hE k)) (En C tc) (Dy C me) Q c0.σ c1.H:=by
 show⟨λi m ys H=>∃c acc,c.H=H/\c.σ=c0.σ/\Ok C c/\Nx c1 c/\m=xs.length - i/\i<=xs.length/\ae C c.S c.H acc ys/\acc.length<=dV/\W (bp k t tc me rs (xs.drop i) acc) c.st λus st'=>W (pure (Kd.own,U.lst us)) st' (bN C c0 Q),⟨xs.length,c1,[],rfl,e1,Dz,Nx.refl c1,by simp,mx _,rfl,mx _,by simpa using h3⟩,?_⟩;rintro i m ys H ⟨c,acc,rfl,D,q,y,rfl,hi,g,h,w⟩;show⟨by rw[<-g.len];show h,?_⟩;have f:jn rs c1 c:=λj u _=>by rw[D,e1]
 by_cases G:i<xs.length
 .right
  rw[NH G]at w;rw[show bp k t tc me rs (xs[i]::xs.drop (i+1)) acc=ar rs >>= λ_=>inScope k (cL t (hE k) xs[i] >>= λ_=>tc >>= λb=>if b=b5 then(me >>= λr=>lift r >>= λu=>pure (a5 u)) else pure b6) >>= λr=>match r with|some u=>if acc.length<dV then bp k t tc me rs (xs.drop (i+1)) (acc++[u]) else M.fail|none=>bp k t tc me rs (xs.drop (i+1)) acc from rfl,ab,bR]at w;have⟨Gn,w⟩:=w;obtain⟨I,_⟩:=hw c q y f Gn;have⟨ML,MM,JX⟩:=I i xs[i] (by simp[G]);show⟨MM,λEU H'=>∃c acc,c.H=H'/\c.σ=c0.σ/\Ok C c/\Nx c1 c/\ae C c.S c.H acc EU/\acc.length<=dV/\W (bp k t tc me rs (xs.drop (i+1)) acc) c.st λus st'=>W (pure (Kd.own,U.lst us)) st' (bN C c0 Q),λEU H' ⟨c',JL,z1,z2,z3,z4,z5,z6,z7⟩=>⟨xs.length - (i+1),⋯,c',JL,z1,z2,z3,z4,rfl,G,z5,z6,z7⟩,λx H' hy=>?_⟩;have⟨l,rfl,e4,e5,D0,n2,rt⟩:=JX x H' hy;rw[ab,sE,ab]at w;have⟨Og,nx⟩:=D0.ext k;have QM:ay C (l.ext k) (l.ext k) xs[i].1 xs[i].2 x:=by
   rcases ML with z|z
   .rw[z]at rt ⊢;show rt
   .rw[z]at rt ⊢;show rt
  have eσ:(l.ext k).σ=l0 k b6++c0.σ:=by rw[Cf.ext];change l0 k b6++l.σ=_;rw[e4,D]
  show⟨l.ext k,l.ext k,xs[i],eσ,rfl,Og,Og,Nx.refl _,QM,?_⟩;have QN:(l.ext k).st=l0 k b6++c.st:=by rw[Cf.ext];change l0 k b6++l.st=_;rw[e5]
  rw[QN];show w.mono λ_ st3 w3 c3 e6 Ff n3 JY Hr=>?_;subst e6;rw[eσ]at JY Hr;have⟨L,N,O⟩:=xA JY Hr;show⟨L,N,O,?_⟩;have Oh:Nx c c3:=(n2.trans nx).trans n3;rw[ab]at w3;show⟨c3,rfl,rfl,Ff,w3.mono λb IA n B e7 e8 T n4=>?_⟩;subst e8;cases b with
  |false =>
   rw[WK mh]at n ⊢;rw[af]at n;have⟨Y,nk⟩:=T.cut k;have nn:Nx c (B.cut k):=(Oh.trans n4).trans nk;show⟨B.cut k,acc,rfl,?_,Y,y.trans nn,g.mv (q.mv nn),h,n⟩;change B.σ.drop k=_;rw[e7,O,SW N]
  |true =>
   rw[WJ rfl]at n ⊢;rw[ab]at n;show⟨B,e7,rfl,T,n.mono λr FP w5 c5 v e9 QO MO n5 QP=>?_⟩;subst QO;rw[ab]at w5;obtain⟨S',st',u,sS,MP,n6,MQ,A,_,_⟩:=fV T MO n5 QP.w w5;rw[af]at A
   dsimp only at A
   split at A
   .rename_i hz;have⟨Y,nk⟩:=MP.cut k;have nn:Nx c (Cf.cut k {c5 with S:=S',st:=st' }):=((Oh.trans n4).trans n6).trans nk;show⟨Cf.cut k {c5 with S:=S',st:=st' },acc++[u],rfl,?_,Y,y.trans nn,(g.mv (q.mv nn)).snoc MQ,by rw[i5];show hz,A⟩;change c5.σ.drop k=_;rw[e9,O,SW N]
   .show(aU.mp A).elim
 .left
  have EJ:i=xs.length:=by lia
  subst EJ;rw[Vc,show bp k t tc me rs [] acc=ar rs >>= λ_=>pure acc from rfl,ab,bR,af,af]at w;obtain⟨_,I⟩:=hw c q y f w.1;show⟨I _ (gs _),λp hp=>bN.list w.2 D q (n1.trans y) g p hp⟩
def kF(l:Ok C c0)
  (h:W (ms >>= λrs=>ar rs >>= λ_=>M.DQ (Fd n rs) >>= λxs=>bp k t tc me rs xs [] >>= λus=>pure (Kd.own,U.lst us)) c0.st (bN C c0 Q)) :
  t6 k (GL C n ms) (tG C t (hE k)) (En C tc) (Dy C me) c0.σ c0.H Q:=by
 rw[ab]at h;show⟨c0,rfl,rfl,l,?_⟩;rw[ab];show h.mono λrs st1 f=>?_;rw[ab,bR]at f ⊢;show⟨f.1,?_⟩;have g:=f.2;rw[ab]at g ⊢;show g.mono λxs st2 i=>?_;rw[af];intro c1 J q r u v w j;rw[ab]at i;subst r
 dsimp only at w j
 show sF q u v j i
def uU(S:bZ X N own scope)(f:X.calm=b5)(g:PI X tg iter (GL C i ms))
  (j:∀D s H ex,PG (Eh X N scope D s H ex) tg (tG C t (hE own.length))) (k:∀D s H ex,GW (Eh X N scope D s H ex) ifs (En C tc)) (l:∀D s H ex,PE (Eh X N scope D s H ex) elt (Dy C me))
  (hs:∀x,IF iter X.env x=pure x) :
  PE X (.ListComp elt [⟨tg,iter,ifs,0⟩] scope pos) (Dy C (ms >>= λrs=>ar rs >>= λ_=>M.DQ (Fd i rs) >>= λxs=>bp own.length t tc me rs xs [] >>= λus=>pure (.own,.lst us))):=by
 show PE.weak (wG S f g j k l hs) ?_;rintro σ H Q ⟨c0,rfl,rfl,n,h⟩;show kF n h
end
section
variable{a b d e o tg iter elt:pk}{es ifs:List pk}{m ma mb md me:M (Kd×U)}{ms:M (List (Kd×U))}{ta tb tc:M Bool}{pos p p2 apos cpos:Pos}{st:HK}{rest body:List HK}{f g mm:M Fl}{ns H9:Nat->Bool}
def BM(C:Ct)(c:Cf):Kd->U->V->Prop
 |.own,u,v=>∃r,v=.ref r/\C.H₀ r=b6/\¬c.S r/\¬c.R r/\cz C c.S c.H r u
 |.loc,u,v=>Rep C c.S c.H u v
 |.any,u,v=>Rep C (PS C c.S) c.H u v
 |_,_,_=>False
abbrev Fin(C:Ct)(D:Ends)(f:Fl)(c:Cf):Prop:=match f with
 |.nx=>D.nx c.σ c.H
 |.bk=>D.bk c.σ c.H
 |.ct=>D.ct c.σ c.H
 |.rt k u=>∀v,BM C c k u v->D.rt v c.H
abbrev Kept(ns:Nat->Bool)(c h:Cf):Prop:=(∀j,ns j=b5->h.σ[j]?=c.σ[j]?)/\h.σ.length=c.σ.length
def Kept.refl:Kept ns c c:=⟨λ_ _=>rfl,rfl⟩
def Kept.trans(h:Kept ns c i)(h':Kept ns i k):Kept ns c k:=⟨λj z=>(h'.1 j z).trans (h.1 j z),h'.2.trans h.2⟩
def Kept.le(i:∀j,H9 j=b5->ns j=b5)(h:Kept ns c k):Kept H9 c k:=⟨λj z=>h.1 j (i j z),h.2⟩
def Kept.of(h:i.σ=c.σ):Kept ns c i:=⟨λj z=>by rw[h],by rw[h]⟩
abbrev fY(C:Ct)(c0:Cf)(ns:Nat->Bool)(D:Ends)(f:Fl)(st':ak):Prop:=∀c,c.st=st'->Ok C c->Ns c0 c->Kept ns c0 c->Fin C D f c
abbrev D6(C:Ct)(ns:Nat->Bool)(m:M Fl):TS:=λD σ H=>∃c0:Cf,c0.σ=σ/\c0.H=H/\Ok C c0/\W m c0.st (fY C c0 ns D)
def l7(c:Ok C c1)(n:Ns c0 c1)(k:Kept ns c0 c1)(h:W mm c1.st (fY C c0 ns D)):D6 C ns mm D c1.σ c1.H :=
 ⟨c1,rfl,rfl,c,h.mono λf st i j e l q k2=>i j e l (n.trans q) (k.trans k2)⟩
def PS.weak(h:L2.PS X st t)(i:∀D σ H,t' D σ H->t D σ H):L2.PS X st t':=λc s σ H D I q=>h c s σ H D I (i D σ H q)
def Eb.weak(h:Eb X rest t)(i:∀D σ H,t' D σ H->t D σ H):Eb X rest t':=λc s σ H D I q=>h c s σ H D I (i D σ H q)
def jo(i:∀j,H9 j=b5->ns j=b5)(h:D6 C H9 mm D σ H):D6 C ns mm D σ H :=
 let ⟨c0,c,k,l,w⟩:=h;⟨c0,c,k,l,w.mono λf st n q e r s k2=>n q e r s (k2.le i)⟩
def BN:Eb X [] (D6 C ns (pure .nx)):=by
 show Eb.weak qi ?_;rintro D σ H ⟨c0,rfl,rfl,c,h⟩;rw[af]at h;show h c0 rfl c (Ns.refl c0) Kept.refl
abbrev xB(m:M Fl)(f:Fl):M Fl:=match f with
 |.nx=>m
 |f=>pure f
def Ai(j:L2.PS X st (D6 C ns f))(l:Eb X rest (D6 C ns g)):Eb X (st::rest) (D6 C ns (f >>= xB g)):=by
 show Eb.weak (d7 j l) ?_;rintro D σ H ⟨c0,rfl,rfl,n,h⟩;rw[ab]at h;show⟨c0,rfl,rfl,n,h.mono λq st1 w c1 e c i k1=>?_⟩;subst e;cases q with
 |nx=>show l7 c i k1 w
 |bk=>rw[show xB g .bk=pure .bk from rfl,af]at w;show w c1 rfl c i k1
 |ct=>rw[show xB g .ct=pure .ct from rfl,af]at w;show w c1 rfl c i k1
 |rt k u=>rw[show xB g (.rt k u)=pure (.rt k u) from rfl,af]at w;show w c1 rfl c i k1
def BO:L2.PS X (.Break pos) (D6 C ns (pure .bk)):=by
 show PS.weak tF ?_;rintro D σ H ⟨c0,rfl,rfl,c,h⟩;rw[af]at h;show h c0 rfl c (Ns.refl c0) Kept.refl
def BP:L2.PS X (.Continue pos) (D6 C ns (pure .ct)):=by
 show PS.weak mP ?_;rintro D σ H ⟨c0,rfl,rfl,c,h⟩;rw[af]at h;show h c0 rfl c (Ns.refl c0) Kept.refl
def BQ:L2.PS X (.Pass pos) (D6 C ns (pure .nx)):=by
 show PS.weak v_ ?_;rintro D σ H ⟨c0,rfl,rfl,c,h⟩;rw[af]at h;show h c0 rfl c (Ns.refl c0) Kept.refl
def BR(i:PE X a (Dy C ma))(hs:LR a b6 pos.line X.env=pure df):L2.PS X (.Expr a pos) (D6 C ns (ma >>= λ_=>pure .nx)):=by
 show PS.weak (dz i hs) ?_;rintro D σ H ⟨c0,rfl,rfl,j,h⟩;show az j h λx c v t w=>?_;rw[af]at w;have:=w c rfl t.ok t.nx (Kept.of t.hσ);rw[<-t.hσ];show this
def Aj:L2.PS X (.Return b6 pos) (D6 C ns (pure (.rt .loc .DB))):=by
 show PS.weak wa ?_;rintro D σ H ⟨c0,rfl,rfl,c,h⟩;rw[af]at h;show h c0 rfl c (Ns.refl c0) Kept.refl .DB rfl
def uV(ok:Ok C c0)(t:KP C c0 c x v)(w:W (retS x) c.st (fY C c0 ns D)):D.rt v c.H:=by
 have⟨k,u⟩:=x;have⟨G,l,n,r⟩:=t;cases k with
 |own =>
  rw[show retS (.own,u)=pure (.rt .own u) from rfl,af]at w;have⟨B,e,h1,h2,h3,h4⟩:=r;show w c rfl l n (Kept.of G) v ⟨B,e,(ok.jc h1).1,h2,h3,h4⟩
 |loc =>
  rw[show retS (.loc,u)=pure (.rt .loc u) from rfl,af]at w;show w c rfl l n (Kept.of G) v r
 |any =>
  rw[show retS (.any,u)=if DZ u=b5 then pure (.rt .loc u) else pure (.rt .any u) from rfl]at w;split at w
  .rw[af]at w;show w c rfl l n (Kept.of G) v (Rep.DZ (by assumption) r)
  .rw[af]at w;show w c rfl l n (Kept.of G) v r
 |bor j =>
  have⟨fl,st',e,w⟩:=w;rw[show retS (.bor j,u) c.st=match c.st[j]? with|some (a5 (.own,u))=>a5 (Ex.ok (Fl.rt .own u),c.st.set j b6)|_=>b6 from rfl]at e;split at e
  .rename_i u' J;cases e;have FL:j<c.st.length:=(gi.mp J).1;have A:∀(i:Nat) k u',(c.st.set j b6)[i]?=a5 (a5 (k,u'))->i≠j/\c.st[i]?=a5 (a5 (k,u')):=λi k u' e=>by
    by_cases L:i=j
    .subst L;rw[gj FL]at e;cases e
    .rw[k8 (z8 L)]at e;show⟨L,e⟩
   have⟨v',s,B,er,q1,q2,q3,q4⟩:=l.sl j _ _ J;have N:c.σ[j]?=a5 (a5 v):=r.2;rw[N]at s;cases s;subst er;have Q:∀a,({c with st:=c.st.set j b6}:Cf).R1 a->c.R1 a:=λa ⟨i,k,h,hk,s,y⟩=>⟨i,k,h,hk,(A i k h s).2,y⟩
   have hR:∀a,({c with st:=c.st.set j b6}:Cf).R a->c.R a:=λa z=>z.elim (λz=>.inl (Q a z)) λ⟨i,h,O,s,y,I⟩=>.inr ⟨i,h,O,(A i .Ds h s).2,y,I⟩;have G7:FK C {c with st:=c.st.set j b6}:=l.dd.of rfl (λi h e=>⟨(A i .Ds h e).2,rfl⟩) (λa z=>.inl (Q a z)) (.up λ_ z=>z) λi a z=>⟨(l.root (.inr ⟨i,z⟩)).1,λo q=>q⟩
   have QQ:Ok C {c with st:=c.st.set j b6}:=⟨l.same,l.E2,l.par,l.io,by simp[l.len],λi k h e=>l.sl i k h (A i k h e).2,λi T k k' Y h r hk Ee s y I e4=>l.inj i T k k' Y h r hk Ee (A i k Y s).2 (A T k' h y).2 I e4,G7⟩
   have nn:Ns c0 {c with st:=c.st.set j b6}:=⟨n.keep,n.there,λa z=>n.roots a (hR a z),n.sub,n.new⟩
   show w {c with st:=c.st.set j b6} rfl QQ nn (Kept.of G) (.ref B) ⟨B,rfl,q3,q1,λz=>?_,q4⟩
   .rcases z with⟨i,k,h,hk,s,y⟩|⟨i,h,O,s,y,I⟩
    .have⟨ne,Ei⟩:=A i k h s;show ne (l.inj i j k .own h _ B hk rfl Ei J y N)
    .show l.dd.d1 i B ⟨h,O,(A i .Ds h s).2,y,I⟩ ⟨j,.own,_,rfl,J,N⟩
  .cases e
 |_=>show r.elim
def BS(j:PE X a (Dy C ma)):L2.PS X (.Return (a5 a) pos) (D6 C ns (ma >>= retS)):=by
 show PS.weak (y9 j) ?_;rintro D σ H ⟨c0,rfl,rfl,i,h⟩;show az i h λx c v t w=>uV i t w
end
section
def nA(e:∀j,ns j=b5->j≠i)(f:Ok C c0)(t:KP C c0 c r v)(g:i<c.σ.length)(w:W (d5 i r >>= λ_=>(pure .nx:M Fl)) c.st (fY C c0 ns D)):D.nx (c0.σ.set i (a5 v)) c.H:=by
 rw[ab]at w;have⟨a,b,h,k,l,q⟩:=lX (r:=r) f t.ok t.nx g t.rx w;rw[af]at q;have z:=q a rfl k l ⟨λj m=>by rw[b,t.hσ,k8 (z8 (e j m))],by rw[b,t.hσ];simp⟩;have d:D.nx a.σ a.H:=z;rw[b,h,t.hσ]at d;show d
def yy(g:∀j,ns j=b5->j≠i)(k:X.N.Nodup)(e:X.N[i]?=a5 x)(l:Loc X.env.scope x)(m:X.fn x=b5\/X.env.scope.names.lookup x=a5 .local)(n:PE X a (Dy C o))
  (hs:LR a (a5 (.Name x b)) pos.line X.env=pure df):L2.PS X (.Assign [.Name x b] a pos) (D6 C ns (o >>= λr=>d5 i r >>= λ_=>pure .nx)):=by
 rintro d s σ H D I ⟨c0,rfl,rfl,f,h⟩;have p:i<c0.σ.length:=by rw[I.len];show(gi.mp e).1
 show ox k e l n hs m d s c0.σ c0.H D I (az f h λr c v t w=>nA g f t (by rw[t.hσ];show p) w)
def Ak(l:∀j,ns j=b5->j≠i)(S:bZ X N own scope)(m:X.calm=b5)(o:X.N.Nodup)(f:X.N[i]?=a5 y)(p:X.env.scope.names.lookup y=a5 .local)
  (q:PI X e a (GL C u ms)) (z:∀D s H ex,PG (Eh X N scope D s H ex) e (tG C t (hE own.length))) (A:∀D s H ex,GW (Eh X N scope D s H ex) b (En C B)) (G:∀D s H ex,PE (Eh X N scope D s H ex) elt (Dy C J))
  (L:LR (.ListComp elt [⟨e,a,b,0⟩] scope pos) (a5 (.Name y O)) Q.line X.env=pure b5) (hs:∀x,IF a X.env x=pure x) :
  L2.PS X (.Assign [.Name y O] (.ListComp elt [⟨e,a,b,0⟩] scope pos) Q)
   (D6 C ns ((ms >>= λrs=>ar rs >>= λ_=>M.DQ (Fd u rs) >>= λxs=>bp own.length t B J rs xs [] >>= λus=>pure (.own,.lst us)) >>= λr=>d5 i r >>= λ_=>pure .nx)):=by
 rintro d s σ H D I ⟨c0,rfl,rfl,g,h⟩;have T:i<c0.σ.length:=by rw[I.len];show(gi.mp f).1
 show wH S m o f p q z A G L hs d s c0.σ c0.H D I ?_;rw[ab]at h;show kF g (h.mono λr st1 w c v k Y DP n rt=>?_);subst Y;show nA l g ⟨k,DP,n,rt⟩ (by rw[k];show T) w
def Al(g:∀j,ns j=b5->j∉is)(i:PE X a (Dy C k))(l:PG X b (tG C b5 is))(hs:M1 [b] a pos.line X.env=pure df)(m:R_ [b] a X.env=pure b6)(n:(LO [b] X.env).map (·.2)=[Oa b X.env]):
  L2.PS X (.Assign [b] a pos) (D6 C ns (k >>= λr=>cL b5 is r >>= λ_=>pure .nx)):=by
 show PS.weak (ou i l hs m n) ?_;rintro D σ H ⟨c0,rfl,rfl,d,h⟩;show az d h λr c v t w=>?_;rw[ab]at w;show⟨c0,c,r,t.hσ,rfl,d,t.ok,t.nx,t.rx,w.mono λ_ st1 f o e p q s hl=>?_⟩;subst e;rw[af]at f;show f o rfl p q ⟨λj u=>by rw[s j (g j u),t.hσ],by rw[hl,t.hσ]⟩
def BU(i:PT X a (En C j))(k:Eb X l (D6 C ns f))(m:Eb X o (D6 C ns g)):L2.PS X (.If a l o pos) (D6 C ns (j >>= λp=>if p=b5 then f else g)):=by
 show PS.weak (yo i k m) ?_;rintro D σ H ⟨c0,rfl,rfl,q,h⟩;show eG q h λp c b d n w=>?_;have e:c0.σ=c.σ:=b.symm;rw[e];cases p with
 |true=>rw[WJ rfl]at w ⊢;show l7 d n (Kept.of b) w
 |false=>rw[WK mh]at w ⊢;show l7 d n (Kept.of b) w
def BV(J:Tv (ke X.prog X.w) X.A X.env X.xe)(L:PT X a (En C d))(N:Eb X body (D6 C ns f)):L2.PS X (.While a body [] pos) (D6 C ns (fB d f n)):=by
 show PS.weak (tK J L N) ?_;rintro D σ H ⟨c0,rfl,rfl,O,h⟩;show⟨λm s H'=>∃c,c.H=H'/\c.σ=s/\Ok C c/\Ns c0 c/\Kept ns c0 c/\W (fB d f m) c.st (fY C c0 ns D),⟨n,c0,rfl,rfl,O,Ns.refl c0,Kept.refl,h⟩,?_⟩;rintro m s H' ⟨c,rfl,rfl,Q,t,v,w⟩;cases m with
 |zero=>show(aU.mp w).elim
 |succ m =>
  rw[show fB d f (m+1)=d >>= λb=>if b=b5 then(f >>= λf'=>match f' with|.nx=>fB d f m|.ct=>fB d f m|.bk=>pure .nx|.rt k u=>pure (.rt k u)) else pure .nx from rfl]at w;show eG Q w λp j x y B g=>?_;have k2:Kept ns c j:=Kept.of x;rw[<-x];cases p with
  |false =>
   rw[WK mh]at g ⊢;rw[af]at g;show g j rfl y (t.trans B) (v.trans k2)
  |true =>
   rw[WJ rfl]at g ⊢;show⟨λG I=>∃c,c.H=I/\c.σ=G/\Ok C c/\Ns c0 c/\Kept ns c0 c/\W (fB d f m) c.st (fY C c0 ns D),λG I z=>⟨m,OQ m,z⟩,?_⟩;rw[ab]at g;show⟨j,rfl,rfl,y,g.mono λT st3 i l e o Y k3=>?_⟩;subst e;have q:=(t.trans B).trans Y;have r:=(v.trans k2).trans k3;cases T with
   |nx=>show⟨l,rfl,rfl,o,q,r,i⟩
   |ct=>show⟨l,rfl,rfl,o,q,r,i⟩
   |_=>rw[af]at i;show i l rfl o q r
def BW(hp:Tv (ke X.prog X.w) X.A X.env X.xe)(hc:X.calm=b5)(hi:PI X tg a (GL C ik ms))(hg:PG X tg (tG C t is))(hb:Eb X body (D6 C (EI q) f))(hs:∀x,IF a X.env x=pure x)
  (EA:∀j,ns j=b5->j∉is/\EI q j=b5) :
  L2.PS X (.For tg a body [] pos) (D6 C ns (ms >>= λrs=>ar rs >>= λ_=>M.DQ (Fd ik rs) >>= λxs=>if ny rs is q=b5 then forM t is f rs xs else M.fail)):=by
 show PS.weak (zg hp hc hi hg hb hs) ?_;rintro D σ H ⟨c0,rfl,rfl,ok,h⟩;rw[ab]at h;show⟨c0,rfl,rfl,ok,?_⟩;rw[ab];show h.mono λrs st1 r=>?_;rw[ab,bR]at r ⊢;show⟨r.1,?_⟩;have h2:=r.2;rw[ab]at h2 ⊢;show h2.mono λxs st2 s=>?_;rw[af];intro c1 J e1 e2 Dz n1 DC v;subst e2
 dsimp only at DC v
 split at s
 .rename_i Gp;have MT:∀j u,(Kd.bor j,u)∈rs->j∉is/\EI q j=b5:=λj u l=>by
   have:=ve.mp Gp _ l;simpa using this
  show⟨λi m d H'=>∃c,c.H=H'/\c.σ=d/\Ok C c/\Ns c1 c/\Kept ns c0 c/\jn rs c1 c/\m=xs.length - i/\i<=xs.length/\W (forM t is f rs (xs.drop i)) c.st (fY C c0 ns D),
   ⟨xs.length,c1,rfl,e1,Dz,Ns.refl c1,Kept.of e1,λ_ _ _=>rfl,by simp,mx _,by simpa using s⟩,?_⟩
  rintro i m d H' ⟨c,rfl,rfl,y,n,kc,B,rfl,EJ,w⟩;by_cases G:i<xs.length
  .right
   rw[NH G,show forM t is f rs (xs[i]::xs.drop (i+1))=ar rs >>= λ_=>cL t is xs[i] >>= λ_=>f >>= λf'=>match f' with|.nx=>forM t is f rs (xs.drop (i+1))|.ct=>forM t is f rs (xs.drop (i+1))|.bk=>pure .nx|.rt k u=>pure (.rt k u) from rfl,ab,bR]at w;have⟨Gn,w⟩:=w;obtain⟨I,_⟩:=v c y n B Gn;have⟨ML,MM,JX⟩:=I i xs[i] (by simp[G]);show⟨MM,λd H'=>∃c,c.H=H'/\c.σ=d/\Ok C c/\Ns c1 c/\Kept ns c0 c/\jn rs c1 c/\W (forM t is f rs (xs.drop (i+1))) c.st (fY C c0 ns D),λd H' ⟨c',z1,z2,z3,z4,z5,z6,z7⟩=>⟨xs.length - (i+1),⋯,c',z1,z2,z3,z4,z5,z6,rfl,G,z7⟩,λx H' hy=>?_⟩;have⟨g,rfl,o,e5,D0,n2,rt⟩:=JX x H' hy;rw[ab]at w;have QR:ay C g g xs[i].1 xs[i].2 x:=by
    rcases ML with z|z
    .rw[z]at rt ⊢;show rt
    .rw[z]at rt ⊢;show rt
   show⟨g,g,xs[i],o,rfl,D0,D0,Nx.refl g,QR,?_⟩;rw[e5];show w.mono λ_ st3 w3 c3 e6 Ff n3 Ol Hr=>?_;subst e6;rw[ab]at w3;show⟨c3,rfl,rfl,Ff,w3.mono λfl IA p b e L n4 N=>?_⟩;subst e;have O:Ns c1 b:=((n.trans n2.toNs).trans n3.toNs).trans n4;have Q:Kept ns c0 b:=by
    show kc.trans ⟨λj hj=>?_,by rw[N.2,Hr,o]⟩;have⟨T,Y⟩:=EA j hj;rw[N.1 j Y,Ol j T,o]
   have Om:jn rs c1 b:=λj u l=>by
    have⟨T,Y⟩:=MT j u l;rw[N.1 j Y,Ol j T,o];show B j u l
   cases fl with
   |nx=>show⟨b,rfl,rfl,L,O,Q,Om,p⟩
   |ct=>show⟨b,rfl,rfl,L,O,Q,Om,p⟩
   |_=>rw[af]at p;show p b rfl L (n1.toNs.trans O) Q
  .left
   have QS:i=xs.length:=by lia
   subst QS;rw[Vc,show forM t is f rs []=ar rs >>= λ_=>pure .nx from rfl,ab,bR,af]at w;obtain⟨_,I⟩:=v c y n B w.1;show⟨I _ (gs _),w.2 c rfl y (n1.toNs.trans n) kc⟩
 .show(aU.mp s).elim
end
section
def Ok.mod(d:Ok C c)(n:Ns c0 c)(hk:k.root=b5)(A:c.st[i]?=a5 (a5 (k,u)))(G:c.σ[i]?=a5 (a5 (.ref r)))(Ek:∀a,a≠r->H' a=c.H a)(hr:∃o,H' r=a5 o)
  (new:Mv c.S c.H c.S H'->cz C c.S H' r u'):Ok C {c with H:=H',st:=c.st.set i (a5 (k,u'))}/\Ns c0 {c with H:=H',st:=c.st.set i (a5 (k,u'))}:=by
 have FN:c.R1 r:=⟨i,k,u,hk,A,G⟩
 have hR:c.R r:=.inl FN;have⟨J,q2,q3,o,ho,QT⟩:=d.root hR;have L:i<c.st.length:=(gi.mp A).1;have p:∀{a:hQ} {b:HO},a≠r->c.H a=a5 b->H' a=a5 b:=λN e=>by rw[Ek _ N];show e
 have I:Mv c.S c.H c.S H':=⟨λ_ z=>z,λa b e t=>p (λz=>by subst z;rw[ho]at e;cases e;show QT t) e,λa b z e=>p (λf=>J (f▸z)) e⟩
 have G3:Mv (PS C c.S) c.H (PS C c.S) H':=⟨λ_ z=>z,I.JR,λa b z e=>p (λf=>by subst f;show z.elim q2 J) e⟩
 have O:∀(j:Nat) k' w,(c.st.set i (a5 (k,u')))[j]?=a5 (a5 (k',w))->j≠i->c.st[j]?=a5 (a5 (k',w)):=λj k' w e N=>by rw[k8 (z8 N)]at e;show e
 have g:∀(j:Nat) k' w,k'.root=b5->(c.st.set i (a5 (k,u')))[j]?=a5 (a5 (k',w))->∃Q,c.st[j]?=a5 (a5 (k',Q)):=λj k' w _ e=>by
  by_cases q:j=i
  .subst q;rw[gj L]at e;cases e;show⟨u,A⟩
  .show⟨w,O j k' w e q⟩
 have b1:∀a,({c with H:=H',st:=c.st.set i (a5 (k,u'))}:Cf).R1 a->c.R1 a:=λa DH=>by
  have⟨j,k',w,h,l,m⟩:=DH;have⟨Q,T⟩:=g j k' w h l;show⟨j,k',Q,h,T,m⟩
 have dD:∀(j:Nat) (w:U),(c.st.set i (a5 (k,u')))[j]?=a5 (a5 (.Ds,w))->c.st[j]?=a5 (a5 (.Ds,w)):=λj w e=>by
  by_cases q:j=i
  .subst q;rw[gj L]at e;cases e;cases hk
  .show O j .Ds w e q
 have G7:FK C {c with H:=H',st:=c.st.set i (a5 (k,u'))}:=d.dd.of rfl (λj w e=>⟨dD j w e,rfl⟩) (λa z=>.inl (b1 a z)) I λj a z=>⟨(d.root (.inr ⟨j,z⟩)).1,λb e=>p (λf=>d.dd.d1 j a z (f▸FN)) e⟩
 show⟨⟨λa b e z=>?_,λa z=>?_,d.par,λa z=>?_,by simp[d.len],λj k' w e=>?_,λj1 j2 k1 k2 w1 w2 s h x l m Y e4=>?_,G7⟩,n.trans ⟨λa b e z=>p (λf=>z (f▸hR)) e,λa b e=>?_,λa z=>?_,λ_ z=>z,λ_ z=>.inl z⟩⟩
 .have h:=d.same a b e z;show p (λf=>?_) h;subst f;rcases q3 with q3|q3
  .rw[e]at q3;cases q3
  .show z q3
 .have⟨h,b,x⟩:=d.E2 a z;show⟨h,b,p (λf=>J (f▸z)) x⟩
 .have⟨h,b,x⟩:=d.io a z;show⟨h,?_⟩;by_cases B:a=r
  .subst B;show hr
  .show⟨b,p B x⟩
 .by_cases q:j=i
  .subst q;rw[gj L]at e;cases e;have⟨v,l,m⟩:=d.sl j _ _ A;rw[G]at l;cases l;show⟨.ref r,G,?_⟩;have nr:=new I;cases k with
   |own=>obtain⟨s,y,D,z2,z3,_⟩:=m;cases y;show⟨r,rfl,D,z2,z3,nr⟩
   |io=>obtain⟨s,y,D,z2,z3,_⟩:=m;cases y;show⟨r,rfl,D,z2,z3,nr⟩
   |_=>cases hk
  .have e0:=O j k' w e q;have⟨v,l,m⟩:=d.sl j k' w e0;show⟨v,l,m.mv I G3 λEe s y=>?_⟩;obtain⟨KQ,EK,D,_⟩:=m.rt Ee;rw[y]at EK;cases EK;show⟨D,λb e=>p (λz=>?_) e⟩;subst z;show q (d.inj j i k' k w u s Ee hk e0 A (by rw[l,y]) G)
 .have⟨KW,T⟩:=g j1 k1 w1 h l;have⟨Oo,a2⟩:=g j2 k2 w2 x m;show d.inj j1 j2 k1 k2 KW Oo s h x T a2 Y e4
 .by_cases B:a=r
  .subst B;show hr
  .show⟨b,p B e⟩
 .rcases z with z|⟨j,w,s,l,m,Y⟩
  .show .inl (.inl (b1 a z))
  .show .inl (.inr ⟨j,w,s,dD j w l,m,Y⟩)
def eW{f:U->Option U}{st:ak}(h:W (modS i f) st Q):∃k u u',k.root=b5/\st[i]?=a5 (a5 (k,u))/\f u=a5 u'/\Q () (st.set i (a5 (k,u'))):=by
 obtain⟨_,st',e,q⟩:=h;unfold modS at e;split at e
 .rename_i k u hs;split at e
  .rename_i hk;cases a:f u with
   |none=>rw[a]at e;cases e
   |some u'=>rw[a]at e;cases e;show⟨k,u,u',hk,hs,a,q⟩
  .cases e
 .cases e
def cO{st:ak}(h:W (cW i) st Q):∃k u,k≠.Ds/\st[i]?=a5 (a5 (k,u))/\Q (if k.root=b5 then .bor i else k,u) st:=by
 have⟨r,st',e,q⟩:=h;unfold cW at e;split at e
 .cases e
 .rename_i k u a hs;cases e;show⟨k,u,λz=>a z,hs,q⟩
 .cases e
def BX(Y:C.K=X.K)(hN:X.N[i]?=a5 x)(hv:Fh X.env.scope x)(hd:(x==("__debug__":Str))=df)(D9:(x==("__classdict__":Str))=df)(ha:PE X a (Dy C ma))
  (Ez:((G_ cpos (mu [a] X.env)).all (λx=>!x.1)&&(O7 cpos (LS [] X.env)).all (λx=>x.1.isSome)
   && ez ([a].length+([]:List Lx).length+(if ([]:List Lx).isEmpty then 0 else 1)<30))=b5)
  (D1:(d.endLine==cpos.line)=b5) (p:mu [a] X.env=[(df,F' a X.env)]) :
  L2.PS X (.Expr (.Call (.Attribute (.Name x px) "append" d) [a] [] cpos) pos) (D6 C ns (cW i >>= λx=>IK x.2 >>= λ_=>ma >>= λr=>lift r >>= λu=>modS i (uD u) >>= λ_=>pure .nx)):=by
 show PS.weak (dz (km PySem.F.plainAttrs_list PySem.F.slot_list_append PySem.F.type_list_append dc (bY hN hv hd D9) (cY ha d9 p) rfl Ez D1 p rfl)) ?_;rintro D σ H ⟨c0,rfl,rfl,g,h⟩;rw[ab]at h;have⟨b,s,G8,y,h⟩:=cO h;have⟨A,m,n⟩:=g.sl i b s y;show⟨A,m,?_⟩;cases s with
 |lst B =>
  rw[ab,show IK (U.lst B)=pure () from rfl,af]at h;have MW:ay C c0 c0 (if b.root=b5 then .bor i else b) (.lst B) A:=by
   by_cases hk:b.root=b5
   .rw[WJ hk];show⟨⟨b,hk,y⟩,m⟩
   .rw[WK hk];cases b with
    |loc=>show n
    |any=>show n
    |bor j=>show n.elim
    |Ds=>show(G8 rfl).elim
    |_=>show absurd rfl hk
  obtain⟨l,KR,o,Ks,_⟩:=MW.list g;show⟨by rw[o];show .inl ⟨rfl,KR,Y▸Ks⟩,?_⟩;show az g h λr c v t w=>?_;rw[ab]at w;obtain⟨S',st',u,sS,G,n1,e,I,_,_⟩:=fV g t.ok t.nx t.rx.w w;rw[ab]at I;have⟨k,u1,u2,hk,hs,f,q⟩:=eW I;have J:c.σ[i]?=a5 (a5 (.ref l)):=by rw[t.hσ,m,o]
  cases u1 with
  |lst L =>
   simp only[uD]at f;split at f
   .rename_i hz;cases f;have⟨v',e1,e2⟩:=G.sl i k (.lst L) hs;have O:c.σ[i]?=a5 (a5 v'):=e1;rw[J]at O;cases O;obtain⟨r',er,_,_,_,ws,hw,Q⟩:=e2.rt hk;cases er;have GN:c.H l=a5 (.lst ws):=hw;show⟨l,ws,v,o,rfl,GN,by rw[<-Q.len];show hz,?_⟩;rw[af]at q;have⟨D0,n2⟩:=Ok.mod (c:={c with S:=S',st:=st' }) (H':=upd c.H l (.lst (ws++[v]))) (u':=.lst (L++[u])) G n1.toNs hk hs J (λa ne=>ai ne) ⟨_,aq⟩ λT=>⟨ws++[v],aq,(Q.mv T).snoc (e.mv T)⟩
    have z:=q _ rfl D0 n2 (Kept.of t.hσ);rw[<-t.hσ];show z
   .cases f
  |_=>cases f
 |_=>rw[ab]at h;show(aU.mp h).elim
def BY(G:C.K=X.K)(hN:X.N[i]?=a5 x)(hv:Fh X.env.scope x)(hd:(x==("__debug__":Str))=df)(D9:(x==("__classdict__":Str))=df)(ha:PE X a (Dy C ma))
  (Ez:((G_ cpos (mu [a] X.env)).all (λx=>!x.1)&&(O7 cpos (LS [] X.env)).all (λx=>x.1.isSome)
   && ez ([a].length+([]:List Lx).length+(if ([]:List Lx).isEmpty then 0 else 1)<30))=b5)
  (D1:(l.endLine==cpos.line)=b5) (I:mu [a] X.env=[(df,F' a X.env)]) :
  L2.PS X (.Expr (.Call (.Attribute (.Name x px) "extend" l) [a] [] cpos) pos) (D6 C ns (cW i >>= λx=>IK x.2 >>= λ_=>ma >>= λr=>modS i (jj r) >>= λ_=>pure .nx)):=by
 show PS.weak (dz (km PySem.F.plainAttrs_list PySem.F.slot_list_extend PySem.F.type_list_extend oY (bY hN hv hd D9) (cY ha d9 I) rfl Ez D1 I rfl)) ?_;rintro D σ H ⟨c0,rfl,rfl,m,h⟩;rw[ab]at h;have⟨g,J,G8,L,h⟩:=cO h;have⟨O,n,o⟩:=m.sl i g J L;show⟨O,n,?_⟩;cases J with
 |lst Q =>
  rw[ab,show IK (U.lst Q)=pure () from rfl,af]at h;have MW:ay C c0 c0 (if g.root=b5 then .bor i else g) (.lst Q) O:=by
   by_cases hk:g.root=b5
   .rw[WJ hk];show⟨⟨g,hk,L⟩,n⟩
   .rw[WK hk];cases g with
    |loc=>show o
    |any=>show o
    |bor j=>show o.elim
    |Ds=>show(G8 rfl).elim
    |_=>show absurd rfl hk
  obtain⟨p,KR,s,Ks,_⟩:=MW.list m;show⟨by rw[s];show .inl ⟨rfl,KR,G▸Ks⟩,?_⟩;show az m h λr c v t w=>?_;rw[ab]at w;have⟨k,u,u2,hk,hs,d,q⟩:=eW w;have T:c.σ[i]?=a5 (a5 (.ref p)):=by rw[t.hσ,n,s]
  have⟨rk,ru⟩:=r;have y:∃e f b vs,u=.lst e/\v=.ref b/\(D3 C.K c.H b vs\/DU C.K c.H b vs)/\ae C c.S c.H f vs/\e.length+f.length<=dV/\u2=.lst (e++f):=by
   cases ru with
   |lst f =>
    cases u with
    |lst e =>
     simp only[jj]at d;split at d
     .rename_i hz;cases d;have⟨b,vs,ev,A,B⟩:=t.rx.list t.ok;show⟨_,_,b,vs,rfl,ev,.inl A,eF hz.2 B,hz.1,rfl⟩
     .cases d
    |_=>simp[jj]at d
   |tup f =>
    cases u with
    |lst e =>
     simp only[jj]at d;split at d
     .rename_i hz;cases d;have⟨b,vs,ev,A,B⟩:=t.rx.tuple t.ok;show⟨_,_,b,vs,rfl,ev,.inr A,eF hz.2 B,hz.1,rfl⟩
     .cases d
    |_=>simp[jj]at d
   |_=>simp[jj]at d
  have⟨e,f,b,vs,rfl,rfl,hB,hz,hl,rfl⟩:=y;have⟨v',Y,e2⟩:=t.ok.sl i k (.lst e) hs;rw[T]at Y;cases Y;obtain⟨r',er,_,_,_,ws,hw,Eo⟩:=e2.rt hk;cases er;show⟨p,b,ws,vs,s,rfl,hw,G▸hB,by rw[<-Eo.len,<-hz.len];show hl,?_⟩;rw[af]at q;have⟨D0,n2⟩:=Ok.mod (c:=c) (H':=upd c.H p (.lst (ws++vs))) (u':=.lst (e++f)) t.ok t.nx.toNs hk hs T (λa ne=>ai ne) ⟨_,aq⟩ λmv=>⟨ws++vs,aq,(Eo.mv mv).append (hz.mv mv)⟩
  have z:=q _ rfl D0 n2 (Kept.of t.hσ);rw[<-t.hσ];show z
 |_=>rw[ab]at h;show(aU.mp h).elim
def iG.or(h:iG X t)(h':iG X t'):iG X (λo i v H Q=>t o i v H Q\/t' o i v H Q):=λa s σ H o i v b c u Q I d e f q =>
 q.elim (h a s σ H o i v b c u Q I d e f) (h' a s σ H o i v b c u Q I d e f)
def set_dict(c:X.A.units+1<Eg):iG X (λo i v H Q=>∃a H',o=.ref a/\rQ H a i v H'/\Q H'):=by
 rintro b s σ H o i v h j u Q I d e rv ⟨a,H',rfl,g,q⟩;cases d;show rS c I g e rv λs' f=>⟨H',f,q⟩
def uW{S:hQ->Prop}{kvs:List (Key×V)}(a:kvs.map (·.1)=ks.map ri)(c:ae C S H us (kvs.map (·.2)))(d:Rep C S H u v):
  (putK kvs (ri y) v).map (·.1)=(dput ks us y u).1.map ri/\ae C S H (dput ks us y u).2 ((putK kvs (ri y) v).map (·.2)):=by
 have e:(kvs.any λkv=>ez (kv.1=(ri y:Key)))=ez (y∈ks):=by
  rw[fI];show(cN (x:=y) a c).2
 unfold putK dput;rw[e];by_cases b:y∈ks
 .rw[WJ (by simpa using b),WJ b];constructor
  .rw[kj];rw[<-a];apply Bs;intro p _;change(if p.1=ri y then(p.1,v) else p).1=p.1;split<;>rfl
  .clear e b;induction kvs generalizing ks us with
   |nil =>
    have:ks=[]:=by simpa using a.symm
    subst this;simp[ae]
   |cons p kvs g =>
    cases ks with
    |nil=>simp at a
    |cons k ks =>
     cases us with
     |nil=>simp[ae]at c
     |cons j us =>
      rw[gc,gc,Kt]at a;have⟨l,m,f,h,i⟩:=c;rw[gc]at f;cases f;rw[gc,QC,gc,gc];show⟨_,_,rfl,?_,g a.2 i⟩;by_cases hk:k=y
      .rw[WJ (by show hk),WJ (by rw[a.1,hk])];show d
      .rw[WK (by show hk),WK (by rw[a.1];intro z;show hk (Rv z))];show h
 .rw[WK (by simpa using b),WK b];show⟨by rw[qs,a,qs];rfl,by rw[qs];show c.snoc d⟩
def BZ(hP:C.P=X.prog)(hw:C.w=X.w)(Q:C.K=X.K)(hu:X.A.units+60<Eg)(hN:X.N[i]?=a5 x)(hv:Fh X.env.scope x)(hd:(x==("__debug__":Str))=df)(D9:(x==("__classdict__":Str))=df)
  (ha:PE X a (Dy C ma)) (hb:PE X b (Dy C mb)) (hs:M1 [.Subscript (.Name x I) b p] a pos.line X.env=pure df) (H_:R_ [.Subscript (.Name x I) b p] a X.env=pure b6)
  (T:∀v,Oa (.Subscript (.Name x I) b p) X.env v=(do
   let J <-Js [v] (F' (.Name x I) X.env)
   let Y <-Js [v,J] (F' b X.env)
   TU p
   Js [v,J,Y] (Pa J Y v)
   S7 [v,J,Y] [])) :
  L2.PS X (.Assign [.Subscript (.Name x I) b p] a pos) (D6 C ns (ma >>= λr=>cW i >>= λ_=>mb >>= λx=>cw [r,x] >>= λus=>modS i (qI us) >>= λ_=>pure .nx)):=by
 show PS.weak (ou ha (tJ (bY hN hv hd D9) hb (iG.or (iG.or set_list (set_dict (X:=X) ⋯)) (wL (X:=X) ⋯)) T) hs H_ rfl) ?_;rintro D σ H ⟨c0,rfl,rfl,ok,h⟩;show az ok h λr c v t w=>?_;rw[ab]at w;have⟨k0,u0,G8,El,w⟩:=cO w;have⟨v0,e0,FC⟩:=t.ok.sl i k0 u0 El;show⟨v0,by rw[<-t.hσ];show e0,?_⟩;rw[ab]at w;show⟨c,t.hσ,rfl,t.ok,w.mono λy st2 w2 g s L e4 D0 n2 r2=>?_⟩;subst e4;rw[ab]at w2;have MX:=t.nx.trans n2;have ac:cR C c0 g [r,y] [v,s]:=⟨v,[s],rfl,t.rx.w.on t.ok n2 (L.trans t.hσ.symm),⟨s,[],rfl,(r2.w).from t.nx,rfl,λ_ i r' v' e _=>by simp at e⟩,λhk i r' v' e5 e6 Ee=>by
  cases i with
  |zero=>simp at e5 e6;subst e5 e6;show lS t.rx.w r2.w hk Ee
  |succ i=>simp at e5⟩
 have⟨S',st',us,sS,Dz,n1,m,w1⟩:=fW ok D0 MX ac w2;rw[ab]at w1;have⟨k,O,u2,hk,EF,d,q⟩:=eW w1;rw[af]at q;have hσ:g.σ[i]?=a5 (a5 v0):=by rw[L,<-t.hσ];show e0
 have⟨v',e1,e2⟩:=Dz.sl i k O EF;have Ei:g.σ[i]?=a5 (a5 v'):=e1;rw[hσ]at Ei;cases Ei;have⟨l,er,z1,z2,z3,f⟩:=e2.rt hk;subst er;have QU:({g with S:=S',st:=st' }:Cf).σ[i]?=a5 (a5 (.ref l)):=hσ;obtain⟨KW,ws,ew,Oq,Oo,Si,Sj,MY,QV⟩:∃u ws,us=[u,ws]/\Rep C S' g.H u v/\∃(_:Unit) (_:Unit),True/\Rep C S' g.H ws s/\True:=by
  cases us with
  |nil=>simp[ae]at m
  |cons u us =>
   obtain⟨_,_,e,q1,q2⟩:=m;cases e;cases us with
   |nil=>simp[ae]at q2
   |cons u' us =>
    obtain⟨_,_,e,q3,q4⟩:=q2;cases e;cases us with
    |nil=>show⟨u,u',rfl,q1,(),(),trivial,q3,trivial⟩
    |cons _ _=>obtain⟨_,_,e,_⟩:=q4;cases e
 subst ew;rw[show qI [KW,ws] O=c_ ws KW O from rfl]at d;have n:∀{H':Hp} ,(∀a,a≠l->H' a=g.H a)->(∃o,H' l=a5 o)->(Mv S' g.H S' H'->cz C S' H' l u2)->D.nx c0.σ H':=λ{H'} Ek hr new=>by
  have⟨Ff,n3⟩:=Ok.mod (c:={g with S:=S',st:=st' }) (H':=H') (u':=u2) Dz n1.toNs hk EF QU Ek hr new;have z:=q _ rfl Ff n3 (Kept.of L);rw[<-L];show z
 cases O with
 |lst xs =>
  cases ws with
  |int j =>
   simp only[c_,f6]at d;have⟨j',hj,rfl⟩:=d;have⟨vs,h1,B⟩:=f;have ey:s=.int j:=MY;show .inl (.inl ⟨l,vs,j,j',rfl,ey,h1,by rw[<-B.len];show hj,?_⟩);show n (λa ne=>ai ne) ⟨_,aq⟩ λG=>⟨vs.set j' v,aq,(B.mv G).set j' (Oq.mv G)⟩
  |_=>simp[c_]at d
 |Dt ks vs =>
  cases ws with
  |str y' =>
   simp only[c_]at d;split at d
   .rename_i hz;cases d;have⟨kvs,h1,B,h3⟩:=f;have ey:s=.str y':=MY;subst ey;have hl:kvs.length=ks.length:=by have:=WN E1 B;simpa using this
    show .inl (.inr ⟨l,_,rfl,rQ.k (k:=ri y') h1 (by rw[hl];show hz),?_⟩);show n (λa ne=>ai ne) ⟨_,aq⟩ λG=>?_;have⟨g1,g2⟩:=uW (y:=y') B h3 Oq;show⟨_,aq,g1,g2.mv G⟩
   .cases d
  |_=>simp[c_]at d
 |Ec ks =>
  simp only[c_]at d;split at d
  .rename_i r0 GO;split at d
   .rename_i hh;cases d;have er:=jl GO;subst er;have Ed:=MY.row;have EL:dW C.P C.w C.K g.H l ks:=f;rw[Q]at Ed;rw[hP,hw,Q]at EL;show .inr ⟨l,r0,ks,rfl,Ed,EL,hh.1,hh.2,λH' hR Ek=>?_⟩;obtain⟨xs,hx,_⟩:=id hR;show n Ek ⟨_,hx⟩ λG=>?_;change dW C.P C.w C.K H' l _;rw[hP,hw,Q];show hR
   .cases d
  .cases d
 |_=>simp[c_]at d
def Ok.slot(d:Ok C c)(e:k≠.Ds)(hs:c.st[i]?=a5 (a5 (k,u))):∃v,c.σ[i]?=a5 (a5 v)/\ay C c c (if k.root=b5 then .bor i else k) u v:=by
 have⟨f,b,a⟩:=d.sl i k u hs;show⟨f,b,?_⟩;by_cases hk:k.root=b5
 .rw[WJ hk];show⟨⟨k,hk,hs⟩,b⟩
 .rw[WK hk];cases k with
  |loc=>show a
  |any=>show a
  |bor j=>show a.elim
  |Ds=>show(e rfl).elim
  |_=>show absurd rfl hk
end
end TM
namespace TM
open PySem L2 PyProof.Rows PySem.W
section
abbrev tB(X:Cx)(C:Ct)(ms:M (List (Kd×U)))(F:List U->Option (Ex (Kd×U))):TE:=λσ H Q=>∃c0:Cf,c0.σ=σ/\c0.H=H/\Ok C c0/\W (ms >>= λrs=>ar rs >>= λ_=>pure rs) c0.st λrs st' =>
 ∃u,F (rs.map (·.2))=a5 (.ok (.own,u))/\∀c:Cf,c.σ=c0.σ->c.st=st'->Ok C c->Nx c0 c->∀v H' S',Back (FO X.prog X.w X.K c.H (Fc c.H)) c.H H' S' .own u v->Q v H'
def uX(m:C.P=X.prog)(n:C.w=X.w)(o:C.K=X.K)(hk:∀us k u,F us=a5 (.ok (k,u))->(k=.own\/k=.loc\/k=.any)/\us.length=d)
  (G:lq X.prog X.w X.K X.mg X.base GV k fa r ps (spT X.prog X.w X.K F d)) (x:fc k X.A) (y:Gl X f) (B:X.mg f=a5 (.ref fa)) (D:PySem.W.keepIn X.K (.ref fa)=b5) (a:Binds X.K r ps [])
  (J:(f==("__debug__":Str))=df) (L:PA X (e::es) (EG C ms)) (N:mu (e::es) X.env=(df,F' e X.env)::mu es X.env) (O:(G_ pos (mu es X.env)).any (·.1)=df) :
  PE X (.Call (.Name f p) (e::es) [] pos) (tB X C ms F):=by
 rintro g s σ H Q I ⟨c0,rfl,rfl,ok,h⟩;show HR (qh I y B ?_ J);show PySem.W.callWith_K (h₀:=X.base) I.ok.mod.Ki D (Dx (args L I ok h pos) λus s1 ⟨rs,c,vs,t,i,rv,w⟩=>⟨i.Hy,?_⟩) N O;rw[af]at w;have⟨u,j,q⟩:=w;have⟨T,k2⟩:=hk _ _ _ j;have b:C.Eqv (FO X.prog X.w X.K c.H (Fc c.H)):=⟨m,n,o⟩
 have l:=t.read;have Y:spT X.prog X.w X.K F d vs c.H (λv H'=>Q v H') E0:=⟨by rw[<-l.len];show k2,rs.map (·.2),.own,u,Fc c.H,j,T,λ_ z=>z,l.cg b,λv H' S' a=>q c t.hσ rfl t.ok t.nx v H' S' a⟩
 have z:=tP (Q:=Q) G x a .nil yq i rv (by rw[va];show Y);rw[t.hσ]at z;show z
def Ok.Dk(b:Ok C c)(p:c.st[j]?=a5 b6)(o:Option V):Ok C {c with σ:=c.σ.set j o}/\Ns c {c with σ:=c.σ.set j o}:=by
 have f:∀(i:Nat) (r:Kd×U),c.st[i]?=a5 (a5 r)->(c.σ.set j o)[i]?=c.σ[i]?:=λi r e=>k8 λz=>by subst z;rw[p]at e;cases e
 have m:∀a,({c with σ:=c.σ.set j o}:Cf).R1 a->c.R1 a:=λa ⟨i,k,u,hk,d,g⟩=>⟨i,k,u,hk,d,(f i _ d)▸g⟩
 have s:FK C {c with σ:=c.σ.set j o}:=b.dd.of rfl (λi u e=>⟨e,f i _ e⟩) (λa z=>.inl (m a z)) (.up λ_ z=>z) λi a z=>⟨(b.root (.inr ⟨i,z⟩)).1,λo q=>q⟩
 show⟨⟨b.same,b.E2,b.par,b.io,by simp[b.len],λi k u e=>?_,λi n k k' u u' r hk t d g l w=>?_,s⟩,⟨λ_ _ h _=>h,λ_ o h=>⟨o,h⟩,λa z=>.inl ?_,λ_ h=>h,λ_ h=>.inl h⟩⟩
 .have⟨v,q,z⟩:=b.sl i k u e;show⟨v,(f i _ e).trans q,z⟩
 .show b.inj i n k k' u u' r hk t d g ((f i _ d)▸l) ((f n _ g)▸w)
 .show z.imp (m a) λ⟨i,u,r,d,g,l⟩=>⟨i,u,r,d,(f i _ d)▸g,l⟩
def B1(n:PE X a (tB X C ms F))(p:O0 a "append" X.env (F' a X.env)=F' a X.env)(s:(d.endLine==cpos.line)=b5):
  L2.PS X (.Expr (.Call (.Attribute a "append" d) [.Constant (.str f) J L] [] cpos) pos) (D6 C ns (uF F ms)):=by
 have hz:(100000:Nat)<=dV:=by decide
 show PS.weak (dz (km PySem.F.plainAttrs_list PySem.F.slot_list_append PySem.F.type_list_append dc n (cY (lh (x:=f)) d9 rfl) p rfl s rfl rfl)) ?_;rintro D σ H ⟨c0,rfl,rfl,g,h⟩;have⟨N,st',e,q⟩:=h;unfold uF at e;split at e
 .rename_i rs st1 t;split at e
  .rename_i xs u;split at e
   .rename_i O;cases e;show⟨c0,rfl,rfl,g,rs,st1,t,.lst xs,u,λc Q T Y i v H' S' j=>?_⟩;have⟨r,rfl,w,MZ,y⟩:=j.own rfl;have⟨vs,k,A⟩:=y;show⟨.inl ⟨rfl,vs,.inl (.inl k)⟩,r,vs,.str f,rfl,rfl,k,by rw[<-A.len];lia,?_⟩;have same:tU c0.H (upd H' r (.lst (vs++[.str f]))):=λb o l=>by
     have B:H' b=a5 o:=j.same b o (i.all b o l);have m:c.H b=a5 o:=i.all b o l;rw[ai λz=>by rw[z,w]at m;cases m];show B
    have⟨G,I⟩:=g.grow (S':=c0.S) same (λa z=>.inl z) λa z=>z;show q {c0 with H:=upd H' r (.lst (vs++[.str f]))} rfl G I.toNs (Kept.of rfl)
   .cases e
  .cases e
 .cases e
def B3{ret l:List HK}(EA:∀m,H9 m=b5->ns m=b5/\m≠i)(hK:C.K=X.K)(hN:X.N.Nodup)(L:X.N[i]?=a5 y)(hy:Loc X.env.scope y)(QW:X.fn y=b5)(hv:Fh X.env.scope y)(hd:(y==("__debug__":Str))=df)(D9:(y==("__classdict__":Str))=df)
  (hP:C.P=X.prog) (hw:C.w=X.w) (Gq:PE X a (tB X C ms F)) (GH:LR a (a5 (.Name y p1)) p4.line X.env=pure df) (hc:PT X QX (En C tc)) (Hr:(a6.endLine==c6.line)=b5) (QY:(a7.endLine==c7.line)=b5) (F_:Eb X l (D6 C ns m2)) :
  Eb X (.Assign [.Name y p1] a p4::.If QX ret [] p5::.Expr (.Call (.Attribute (.Name y p6) "append" a6) [.List [.Constant (.str O) q1 p7] p8] [] c6) p9::.Expr (.Call (.Attribute (.Subscript (.Name y Ot) (.Constant (.int 0) q2 Ou) Ov) "append" a7) [.Constant (.str Q) q3 Ow] [] c7) Ox::l)
   (D6 C H9 (uE F i ms tc >>= λf=>match f with|.nx=>m2|f=>pure f)):=by
 have hz:(100000:Nat)<=dV:=by decide
 rintro A s σ H D I ⟨c0,rfl,rfl,ok,h⟩;rw[ab]at h;have⟨fl,st',e,h⟩:=h;unfold uE at e;split at e
 case h_2=>cases e
 rename_i rs st1 QZ e1;split at e
 case h_2=>cases e
 rename_i xs e2;split at e
 case h_2=>cases e
 rename_i st3 e3;split at e
 case isFalse=>cases e
 rename_i Oy;cases e;have q:W m2 c0.st (fY C c0 H9 D):=h;have Et:i<c0.σ.length:=by rw[I.len];show(gi.mp L).1
 have P3:=dz (X:=X) (pos:=p9) (km (cpos:=c6) PySem.F.plainAttrs_list PySem.F.slot_list_append PySem.F.type_list_append dc (bY (pos:=p6) L hv hd D9) (cY (zl (pos:=p8) (cY (lh (x:=O) (j:=q1) (pos:=p7)) d9 rfl)) d9 rfl) rfl rfl Hr rfl rfl);have P4:=dz (X:=X) (pos:=Ox) (km (cpos:=c7) PySem.F.plainAttrs_list PySem.F.slot_list_append PySem.F.type_list_append dc (Br (pos:=Ov) ly (bY (pos:=Ot) L hv hd D9) (ot (i:=0) (j:=q2) (pos:=Ou)) (λ_ _=>rfl)) (cY (lh (x:=Q) (j:=q3) (pos:=Ow)) d9 rfl) rfl rfl QY rfl rfl);show(d7 (ox hN L hy Gq GH (.inl QW)) (d7 (yo hc (rH (sts:=ret)) qi) (d7 P3 (d7 P4 F_)))) A s c0.σ c0.H D I ?_;show⟨c0,rfl,rfl,ok,rs,st1,e1,.lst xs,e2,λc hσ DC DP IS v H' S' n=>?_⟩;have⟨r,rfl,GO,MZ,EL⟩:=n.own rfl;have⟨vs,IM,T⟩:=EL;have HX:(FO X.prog X.w X.K c.H (Fc c.H)).Eqv C:=⟨hP.symm,hw.symm,hK.symm⟩
 have⟨DG,n'⟩:=DP.grow (S':=λa=>c.S a\/S' a) n.same (λa z=>z.imp id λz=>n.new a z) λa=>.inl;have⟨z0,z1,z2,z3,z4⟩:=DP.jc GO;have⟨Y,g1,g2,D0,n2,g3⟩:=lX (r:=(.own,.lst xs)) (v:=.ref r) (i:=i) ok DG (IS.trans n') (by change i<c.σ.length;rw[hσ];show Et) ⟨r,rfl,IS.none GO,λz=>z.elim z1 MZ,z4,(show cz _ _ _ _ (.lst xs) from(cz.cg (u:=.lst xs) HX ⟨vs,IM,T⟩)).mv (.up λa=>.inr) λo q=>q⟩ (Post:=λ_ st=>st=c.st.set i (a5 (.own,.lst xs))) ⟨(),_,rfl,rfl⟩;have g1:Y.σ=c0.σ.set i (a5 (.ref r)):=by rw[g1];change c.σ.set i _=_;rw[hσ]
 have g2:Y.H=H':=g2;have g3:Y.st=st1.set i (a5 (.own,.lst xs)):=by rw[g3,DC]
 change A_ (En C tc) tH tE _ (c0.σ.set i (a5 (.ref r))) H';show⟨Y,g1,g2,D0,df,st3,by rw[g3];show e3,λc3 h1 h2 Ff n3=>?_⟩;change(if (df:Bool)=b5 then _ else _);rw[WK mh];have KY:∀b o,H' b=a5 o->c3.H b=a5 o:=λb o d=>n3.all b o (by rw[g2];show d);have Oz:(c0.σ.set i (a5 (V.ref r)))[i]?=a5 (a5 (.ref r)):=gj Et;have B:=KY r _ IM;have Sk:vs.length<1000:=by rw[<-T.len];show Oy.2
 have g:∀b o,c0.H b=a5 o->c.H b=a5 o:=λb o d=>IS.all b o d;have Q0:∀b o,c0.H b=a5 o->b≠r:=λb o d z=>by have:=g b o d;rw[z,GO]at this;cases this
 show⟨.ref r,Oz,.inl ⟨rfl,vs,.inl (.inl B)⟩,by change 1<=dV;lia,λp t=>⟨r,vs,.ref p,rfl,rfl,?_,⋯,?_⟩⟩
 .rw[ai λz=>by rw[z,t]at B;cases B];show B
 have JD:p≠r:=λz=>by rw[z,B]at t;cases t
 let G:Hp:=upd (upd c3.H p (.lst [.str O])) r (.lst (vs++[.ref p]));have Q1:G p=a5 (.lst [.str O]):=by change upd _ r _ p=_;rw[ai JD,aq]
 have Q2:G r=a5 (.lst (vs++[.ref p])):=aq;have kid:∃(k:hQ) (ws:List V),DL (vs++[V.ref p]) 0=a5 (.ref k)/\G k=a5 (.lst ws)/\ws.length<dV/\c0.H k=b6:=by
  have Ia:∀b,c3.H b=b6->c0.H b=b6:=λb hb=>by
   cases e:c0.H b with
   |none=>rfl
   |some o=>rw[KY b o (n.same b o (g b o e))]at hb;cases hb
  cases vs with
  |nil=>show⟨p,[.str O],rfl,Q1,by change 1<dV;lia,Ia p t⟩
  |cons v0 DY =>
   cases xs with
   |nil=>cases T
   |cons x0 Sl =>
    obtain⟨v1,Ib,ev,Ic,_⟩:=T;cases ev;have hx:=ve.mp Oy.1 x0 l';cases x0 with
    |lst ys =>
     obtain⟨k,ws,rfl,⟨OA,Q3⟩,Q4⟩:=Ic;have J:=KY k _ Q3;have Q5:k≠r:=λz=>MZ (z▸OA);have JW:k≠p:=λz=>by rw[z,t]at J;cases J
     show⟨k,ws,bQ (j:=0) rfl,?_,?_,?_⟩
     .change upd _ r _ k=_;rw[ai Q5,ai JW];show J
     .have hx:ys.length<1000:=WO hx;rw[<-Q4.len];lia
     .cases e:c0.H k with
      |none=>rfl
      |some o=>have:=g k o e;rw[(n.new k OA).1]at this;cases this
    |_=>cases hx
 have⟨k,ws,JO,OB,J,Q6⟩:=kid;show⟨.ref r,Oz,r,vs++[.ref p],0,.ref k,rfl,rfl,.inl (.inl Q2),JO,.inl ⟨rfl,ws,.inl (.inl OB)⟩,k,ws,.str Q,rfl,rfl,OB,J,?_⟩;have same:tU c0.H (upd G k (.lst (ws++[.str Q]))):=λb o d=>by
  have M0:=KY b o (n.same b o (g b o d));rw[ai λz=>by rw[z,Q6]at d;cases d];change upd _ r _ b=_;rw[ai (Q0 b o d),ai λz=>by rw[z,t]at M0;cases M0];show M0
 have⟨MO,n5⟩:=ok.grow (S':=c0.S) same (λa z=>.inl z) λa z=>z;have⟨MP,n6⟩:=MO.Dk (j:=i) QZ (a5 (.ref r));show jo (λm hm=>(EA m hm).1) (l7 (c0:=c0) (c1:={c0 with H:=upd G k (.lst (ws++[.str Q])),σ:=c0.σ.set i (a5 (.ref r))}) MP (n5.toNs.trans n6) ⟨λm hm=>by change(c0.σ.set i _)[m]?=_;rw[k8 (z8 (EA m hm).2)],by change(c0.σ.set i _).length=_;simp⟩ q)
end
end TM
namespace TM
open PySem L2 PyProof.Rows
section
def Ok.B4(d:Ok C c)(n:Ns c0 c)(Q:c.st[i]?=a5 (a5 (.Ds,u)))(B:c.σ[i]?=a5 (a5 (.ref r)))(Ek:∀a,¬c.RD i a->H' a=c.H a)(T:∀a o,c.H a=a5 o->∃N,H' a=a5 N)
  (new:Mv c.S c.H c.S H'->bL C c.S H' r as' u') (Y:∀a∈as',a∈c.kid i\/(¬c.R a/\c0.H a=b6)) :
  Ok C {c with H:=H',st:=c.st.set i (a5 (.Ds,u')),kid:=λj=>if j=i then as' else c.kid j}/\Ns c0 {c with H:=H',st:=c.st.set i (a5 (.Ds,u')),kid:=λj=>if j=i then as' else c.kid j}:=by
 have Et:i<c.st.length:=(gi.mp Q).1;have rt:∀{a},c.RD i a->¬c.S a/\¬C.Ge a/\(C.H₀ a=b6\/C.IO a)/\∃o,c.H a=a5 o/\¬Tp o:=λz=>d.root (.inr ⟨i,z⟩);have h0:∀{a},c.RD i a->C.H₀ a=b6:=λ⟨u1,r1,g,b,e3⟩=>(bL.fr (d.dd.kd i u1 r1 g b) _ (ka.mpr e3)).2.2;have q:∀{a:hQ} {o:HO},¬c.RD i a->c.H a=a5 o->H' a=a5 o:=λz e=>by rw[Ek _ z];show e
 have O:Mv c.S c.H c.S H':=⟨λ_ z=>z,λa o e t=>q (λz=>by
  obtain⟨_,_,_,N,l,nt⟩:=rt z;rw[e]at l;cases l;show nt t) e,λa o z e=>q (λm=>(rt m).1 z) e⟩
 have G3:Mv (PS C c.S) c.H (PS C c.S) H':=⟨λ_ z=>z,O.JR,λa o z e=>q (λm=>z.elim (rt m).2.1 (rt m).1) e⟩
 have D:∀(j:Nat) k w,(c.st.set i (a5 (.Ds,u')))[j]?=a5 (a5 (k,w))->j≠i->c.st[j]?=a5 (a5 (k,w)):=λj k w e ne=>by rw[k8 (z8 ne)]at e;show e
 have Ie:∀(j:Nat) k w,k.root=b5->(c.st.set i (a5 (.Ds,u')))[j]?=a5 (a5 (k,w))->c.st[j]?=a5 (a5 (k,w)):=λj k w hk e=>by
  by_cases f:j=i
  .subst f;rw[gj Et]at e;cases e;cases hk
  .show D j k w e f
 have b1:∀a,({c with H:=H',st:=c.st.set i (a5 (.Ds,u')),kid:=λj=>if j=i then as' else c.kid j}:Cf).R1 a->c.R1 a:=λa ⟨j,k,w,hk,g,b⟩=>⟨j,k,w,hk,Ie j k w hk g,b⟩
 have G:∀j a,({c with H:=H',st:=c.st.set i (a5 (.Ds,u')),kid:=λj=>if j=i then as' else c.kid j}:Cf).RD j a->c.RD j a\/(j=i/\¬c.R a/\c0.H a=b6):=λj a DH=>by
  have⟨w,h,g,b,e3⟩:=DH;by_cases f:j=i
  .subst f;have I:c.σ[j]?=a5 (a5 (.ref h)):=b;rw[B]at I;cases I;rcases e3 with rfl|e3
   .show .inl ⟨u,_,Q,B,.inl rfl⟩
   .have Hs:a∈as':=by simpa using e3
    rcases Y a Hs with z|z
    .show .inl ⟨u,_,Q,B,.inr z⟩
    .show .inr ⟨rfl,z⟩
  .have Hs:a=h\/a∈c.kid j:=by simpa[f] using e3
   show .inl ⟨w,h,D j _ w g f,b,Hs⟩
 show⟨⟨λa o e z=>q (λm=>by rw[h0 m]at e;cases e) (d.same a o e z),λa z=>?_,d.par,λa z=>?_,by simp[d.len],λj k w e=>?_,λx s k1 k2 w1 w2 h h1 h2 g b e3 e4=>d.inj x s k1 k2 w1 w2 h h1 h2 (Ie x k1 w1 h1 g) (Ie s k2 w2 h2 b) e3 e4,⟨λj w h g b=>?_,λx s a J L=>?_,λj a J L=>?_⟩⟩,⟨λa o e z=>?_,λa o e=>?_,λa z=>?_,n.sub,n.new⟩⟩
 .have⟨q1,o,q2⟩:=d.E2 a z;show⟨q1,T a o q2⟩
 .have⟨q1,o,q2⟩:=d.io a z;show⟨q1,T a o q2⟩
 .by_cases f:j=i
  .subst f;rw[gj Et]at e;cases e;show⟨.ref r,B,r,rfl⟩
  .have⟨v,g,b⟩:=d.sl j k w (D j k w e f);show⟨v,g,b.mv O G3 λhk h er=>?_⟩;obtain⟨KQ,EK,J,_⟩:=b.rt hk;rw[er]at EK;cases EK;show⟨J,λo l=>q (λz=>d.dd.d1 i h z ⟨j,k,w,hk,D j k w e f,by rw[g,er]⟩) l⟩
 .by_cases f:j=i
  .subst f;rw[gj Et]at g;cases g;have I:c.σ[j]?=a5 (a5 (.ref h)):=b;rw[B]at I;cases I;have z:=new O;simpa using z
  .have Ei:=D j _ w g f;have Ee:(if j=i then as' else c.kid j)=c.kid j:=WK f;change bL C c.S H' h (if j=i then as' else c.kid j) w;rw[Ee];show bL.mv O (λa ha=>⟨(d.root (.inr ⟨j,w,h,Ei,b,ka.mp ha⟩)).1,λo l=>q (λz=>f (d.dd.dj j i a ⟨w,h,Ei,b,ka.mp ha⟩ z)) l⟩) (d.dd.kd j w h Ei b)
 .rcases G x a J with p|⟨rfl,p,_⟩
  .rcases G s a L with A|⟨rfl,A,_⟩
   .show d.dd.dj x s a p A
   .show(A (.inr ⟨x,p⟩)).elim
  .rcases G s a L with A|⟨rfl,A,_⟩
   .show(p (.inr ⟨s,A⟩)).elim
   .rfl
 .rcases G j a J with p|⟨rfl,p,_⟩
  .show d.dd.d1 j a p (b1 a L)
  .show p (.inl (b1 a L))
 .show q (λm=>by
   rcases n.roots a (.inr ⟨i,m⟩) with y|y
   .show z y
   .rw[e]at y;cases y) (n.keep a o e z)
 .have⟨N,l⟩:=n.there a o e;show T a N l
 .rcases z with z|⟨j,z⟩
  .show n.roots a (.inl (b1 a z))
  .rcases G j a z with y|⟨_,_,y⟩
   .show n.roots a (.inr ⟨j,y⟩)
   .show .inr y
def Ok.newD(l:Ok C c)(B:c.H p=b6)(u:i<c.σ.length):
  Ok C {c with H:=upd c.H p (.dK []),σ:=c.σ.set i (a5 (.ref p)),st:=c.st.set i (a5 (.Ds,.Dt [] [])),kid:=λj=>if j=i then [] else c.kid j}/\Ns c {c with H:=upd c.H p (.dK []),σ:=c.σ.set i (a5 (.ref p)),st:=c.st.set i (a5 (.Ds,.Dt [] [])),kid:=λj=>if j=i then [] else c.kid j}:=by
 have⟨n,T⟩:=l.lay (o:=.dK []) B;have⟨q1,q2,q3,q4,D⟩:=l.jc B;have G:i<c.st.length:=by rw[l.len];show u
 have x:∀(j:Nat) k w,(c.st.set i (a5 (.Ds,.Dt [] [])))[j]?=a5 (a5 (k,w))->j≠i->c.st[j]?=a5 (a5 (k,w)):=λj k w e I=>by rw[k8 (z8 I)]at e;show e
 have q:∀(j:Nat),j≠i->(c.σ.set i (a5 (.ref p)))[j]?=c.σ[j]?:=λj I=>k8 (z8 I);have J:∀(j:Nat) k w,k.root=b5->(c.st.set i (a5 (.Ds,.Dt [] [])))[j]?=a5 (a5 (k,w))->j≠i/\c.st[j]?=a5 (a5 (k,w)):=λj k w hk e=>by
  by_cases b:j=i
  .subst b;rw[gj G]at e;cases e;cases hk
  .show⟨b,x j k w e b⟩
 have b1:∀a,({c with H:=upd c.H p (.dK []),σ:=c.σ.set i (a5 (.ref p)),st:=c.st.set i (a5 (.Ds,.Dt [] [])),kid:=λj=>if j=i then [] else c.kid j}:Cf).R1 a->c.R1 a:=λa L=>by
  have⟨j,k,w,hk,d,f⟩:=L;have⟨b,N⟩:=J j k w hk d;show⟨j,k,w,hk,N,by rw[<-q j b];show f⟩
 have r:∀j a,({c with H:=upd c.H p (.dK []),σ:=c.σ.set i (a5 (.ref p)),st:=c.st.set i (a5 (.Ds,.Dt [] [])),kid:=λj=>if j=i then [] else c.kid j}:Cf).RD j a->(j≠i/\c.RD j a)\/(j=i/\a=p):=λj a L=>by
  have⟨w,g,d,f,e3⟩:=L;by_cases b:j=i
  .subst b;have s:(c.σ.set j (a5 (.ref p)))[j]?=a5 (a5 (.ref g)):=f;rw[gj u]at s;cases s;rcases e3 with rfl|e3
   .show .inr ⟨rfl,rfl⟩
   .simp at e3
  .have Hs:a=g\/a∈c.kid j:=by simpa[b] using e3
   show .inl ⟨b,w,g,x j _ w d b,by rw[<-q j b];show f,Hs⟩
 show⟨⟨n.same,n.E2,n.par,n.io,by simp[l.len],λj k w e=>?_,λm h k1 k2 Y w2 g h1 h2 d f e3 e4=>?_,⟨λj w g d f=>?_,λm h a O t=>?_,λj a O t=>?_⟩⟩,⟨T.keep,T.there,λa z=>?_,λ_ z=>z,λ_ z=>.inl z⟩⟩
 .by_cases b:j=i
  .subst b;rw[gj G]at e;cases e;show⟨.ref p,gj u,p,rfl⟩
  .have⟨v,d,f⟩:=n.sl j k w (x j k w e b);show⟨v,(q j b).trans d,f⟩
 .have⟨IT,a1⟩:=J m k1 Y h1 d;have⟨Ig,a2⟩:=J h k2 w2 h2 f;show l.inj m h k1 k2 Y w2 g h1 h2 a1 a2 ((q m IT).symm.trans e3) ((q h Ig).symm.trans e4)
 .by_cases b:j=i
  .subst b;rw[gj G]at d;cases d;have s:(c.σ.set j (a5 (.ref p)))[j]?=a5 (a5 (.ref g)):=f;rw[gj u]at s;cases s;change bL C c.S (upd c.H p (.dK [])) p (if j=j then [] else c.kid j) (.Dt [] []);rw[WJ rfl];show⟨[],aq,rfl,rfl,by simp,λa ha=>by rw[ti.mp ha];show⟨q2,q3,q1⟩,rfl⟩
  .have N:=x j _ w d b;have z:=n.dd.kd j w g N ((q j b).symm.trans f);change bL C c.S (upd c.H p (.dK [])) g (if j=i then [] else c.kid j) w;rw[WK b];show z
 .rcases r m a O with⟨_,A⟩|⟨rfl,rfl⟩
  .rcases r h a t with⟨_,Q⟩|⟨rfl,rfl⟩
   .show l.dd.dj m h a A Q
   .show(D (.inr ⟨m,A⟩)).elim
  .rcases r h a t with⟨_,Q⟩|⟨rfl,_⟩
   .show(D (.inr ⟨h,Q⟩)).elim
   .rfl
 .rcases r j a O with⟨_,A⟩|⟨rfl,rfl⟩
  .show l.dd.d1 j a A (b1 a t)
  .show D (.inl (b1 a t))
 .rcases z with z|⟨j,z⟩
  .show .inl (.inl (b1 a z))
  .rcases r j a z with⟨_,y⟩|⟨_,rfl⟩
   .show .inl (.inr ⟨j,y⟩)
   .show .inr B
end
section
theorem cA.rep{S S':hQ->Prop}(hs:∀a,S a->S' a):∀{us:List U}{as:List hQ},(∀a∈as,S' a)->cA C S H us as->ae C S' H us (as.map V.ref)
 |[],as,_,h=>by cases h;show rfl
 |u::us,as,c,h=>by
  have⟨a,as',i,vs,rfl,rfl,d,e,f⟩:=h;show⟨.ref a,as'.map V.ref,rfl,⟨a,vs,rfl,⟨c a (by simp),d⟩,e.mv (.up hs)⟩,cA.rep hs (λb g=>c b (by simp[g])) f⟩
def Ok.Dl(b:Ok C c)(n:Nx c0 c)(Q:c.st[i]?=a5 (a5 (.Ds,u)))(s:c.σ[i]?=a5 (a5 (.ref r))):
  Ok C {c with S:=λa=>c.S a\/a∈c.kid i,st:=c.st.set i (a5 (.own,u))}/\Nx c0 {c with S:=λa=>c.S a\/a∈c.kid i,st:=c.st.set i (a5 (.own,u))}:=by
 have T:i<c.st.length:=(gi.mp Q).1;have B:=b.dd.kd i u r Q s;have fr:=bL.fr B;have mem:∀a,(a=r\/a∈c.kid i)->c.RD i a:=λa z=>⟨u,r,Q,s,z⟩
 have up:Mv c.S c.H (λa=>c.S a\/a∈c.kid i) c.H:=.up λa=>.inl;have Q7:Mv (PS C c.S) c.H (PS C λa=>c.S a\/a∈c.kid i) c.H:=.up λa z=>z.imp id .inl;have KZ:r∉c.kid i/\cz C (λa=>c.S a\/a∈c.kid i) c.H r u:=by
  cases u<;>first|show B.elim|skip
  have⟨kvs,D,G,h3,h4,h5,h6⟩:=B;show⟨(nH.mp h4).1,kvs,D,G,?_⟩;rw[h3];show h6.rep (λa=>.inl) λa I=>.inr I
 have p:∀(j:Nat) k w,(c.st.set i (a5 (.own,u)))[j]?=a5 (a5 (k,w))->j≠i->c.st[j]?=a5 (a5 (k,w)):=λj k w e ne=>by rw[k8 (z8 ne)]at e;show e
 have b1:∀a,({c with S:=λa=>c.S a\/a∈c.kid i,st:=c.st.set i (a5 (.own,u))}:Cf).R1 a->c.R1 a\/a=r:=λa Y=>by
  have⟨j,k,w,hk,f,g⟩:=Y;by_cases d:j=i
  .subst d;have EZ:c.σ[j]?=a5 (a5 (.ref a)):=g;rw[s]at EZ;cases EZ;show .inr rfl
  .show .inl ⟨j,k,w,hk,p j k w f d,g⟩
 have J:∀j a,({c with S:=λa=>c.S a\/a∈c.kid i,st:=c.st.set i (a5 (.own,u))}:Cf).RD j a->j≠i/\c.RD j a:=λj a Y=>by
  have⟨w,h,f,g,t⟩:=Y;by_cases d:j=i
  .subst d;rw[gj T]at f;cases f
  .show⟨d,w,h,p j _ w f d,g,t⟩
 show⟨⟨b.same,λa z=>?_,b.par,b.io,by simp[b.len],λj k w e=>?_,λm l k1 k2 L N h D G f g t e4=>?_,⟨λj w h f g=>?_,λm l a x z2=>b.dd.dj m l a (J m a x).2 (J l a z2).2,λj a x z2=>?_⟩⟩,⟨⟨n.keep,n.there,λa z=>?_,λa z=>.inl (n.sub a z),λa z=>?_⟩,n.all⟩⟩
 .rcases z with z|z
  .show b.E2 a z
  .obtain⟨o,ho,_⟩:=bL.there B a (mA _ z);show⟨(fr a (mA _ z)).2.2,o,ho⟩
 .by_cases d:j=i
  .subst d;rw[gj T]at e;cases e;have⟨q1,q2,q3⟩:=fr r (l' ..);show⟨.ref r,s,r,rfl,λz=>z.elim q1 KZ.1,q2,q3,KZ.2⟩
  .have⟨v,f,g⟩:=b.sl j k w (p j k w e d);show⟨v,f,g.mv up Q7 λhk h er=>?_⟩;obtain⟨KQ,EK,x,_⟩:=g.rt hk;rw[er]at EK;cases EK;show⟨λz=>z.elim x λz=>b.dd.d1 i h (mem h (.inr z)) ⟨j,k,w,hk,p j k w e d,by rw[f,er]⟩,λo q=>q⟩
 .by_cases O:m=i
  .by_cases A:l=i
   .rw[O,A]
   .subst O;have Hs:c.σ[m]?=a5 (a5 (.ref h)):=t;rw[s]at Hs;cases Hs;show(b.dd.d1 m r (mem r (.inl rfl)) ⟨l,k2,N,G,p l k2 N g A,e4⟩).elim
  .by_cases A:l=i
   .subst A;have OC:c.σ[l]?=a5 (a5 (.ref h)):=e4;rw[s]at OC;cases OC;show(b.dd.d1 l r (mem r (.inl rfl)) ⟨m,k1,L,D,p m k1 L f O,t⟩).elim
   .show b.inj m l k1 k2 L N h D G (p m k1 L f O) (p l k2 N g A) t e4
 .by_cases d:j=i
  .subst d;rw[gj T]at f;cases f
  .have Ei:=p j _ w f d;show bL.mv up (λa I=>⟨λz=>z.elim (b.root (.inr ⟨j,w,h,Ei,g,ka.mp I⟩)).1 λz=>d (b.dd.dj j i a ⟨w,h,Ei,g,ka.mp I⟩ (mem a (.inr z))),λo q=>q⟩) (b.dd.kd j w h Ei g)
 .have⟨d,y⟩:=J j a x;rcases b1 a z2 with z|z
  .show b.dd.d1 j a y z
  .subst z;show d (b.dd.dj j i a y (mem a (.inl rfl)))
 .rcases z with z|⟨j,z⟩
  .rcases b1 a z with z|rfl
   .show n.roots a (.inl z)
   .show n.roots a (.inr ⟨i,mem a (.inl rfl)⟩)
  .show n.roots a (.inr ⟨j,(J j a z).2⟩)
 .rcases z with z|z
  .show n.new a z
  .rcases n.roots a (.inr ⟨i,mem a (.inr z)⟩) with y|y
   .show .inr (.inl y)
   .show .inr (.inr y)
def xC(f:X.N[i]?=a5 x)(g:Fh X.env.scope x)(j:(x==("__debug__":Str))=df)(k:(x==("__classdict__":Str))=df):PE X (.Name x pos) (Dy C (uB i)):=by
 have m:=lU (C:=C) (pos:=pos) f g j k;rintro b s σ H Q I ⟨c0,rfl,rfl,c,r,st',e,h⟩;unfold uB at e;split at e
 .rename_i u hs;cases e;have⟨v,d,l,rfl⟩:=c.sl i _ _ hs;have⟨n,o⟩:=c.Dl (Nx.refl c0) hs d;have p:i<c0.st.length:=(gi.mp hs).1;show bY f g j k b s c0.σ c0.H Q I ⟨.ref l,d,h {c0 with S:=λa=>c0.S a\/a∈c0.kid i,st:=c0.st.set i (a5 (.own,u))} (.ref l) rfl rfl n o ⟨⟨.own,rfl,gj p⟩,d⟩⟩
 .show m b s c0.σ c0.H Q I ⟨c0,rfl,rfl,c,r,st',e,h⟩
end
section
def eX{st:ak}(h:W (fT i) st Q):∃ks us,st[i]?=a5 (a5 (.Ds,.Dt ks us))/\Q (ks,us) st:=by
 have⟨r,st',e,q⟩:=h;unfold fT at e;split at e
 .rename_i ks us hs;cases e;show⟨ks,us,hs,q⟩
 .cases e
def eY{st:ak}(h:W (il x) st Q):∃y,x.2=.str y/\Q y st:=by
 unfold il at h;split at h
 .rename_i y e;rw[af]at h;show⟨y,e,h⟩
 .show(aU.mp h).elim
def Ok.Dt(d:Ok C c)(f:c.st[i]?=a5 (a5 (.Ds,.Dt ks us))):∃(r:hQ) (kvs:List (Key×V)),c.σ[i]?=a5 (a5 (.ref r))/\c.H r=a5 (.dK kvs)/\kvs.map (·.1)=ks.map ri/\kvs.map (·.2)=(c.kid i).map V.ref /\
  (r::c.kid i).Nodup/\cA C c.S c.H us (c.kid i)/\(∀y:Str,(cI kvs (ri y)).isSome=ez (y∈ks))/\∀(y:Str) (u:U),cQ ks us y=a5 u->∃v,cI kvs (ri y)=a5 v/\Rep C (λa=>c.S a\/a∈c.kid i) c.H u v:=by
 have⟨v,e,r,rfl⟩:=d.sl i _ _ f;have⟨kvs,k,b,g,l,n,h⟩:=d.dd.kd i _ r f e;have j:ae C (λa=>c.S a\/a∈c.kid i) c.H us (kvs.map (·.2)):=by rw[g];show h.rep (λa=>.inl) λa m=>.inr m
 show⟨r,kvs,e,k,b,g,l,h,λy=>(cN (x:=y) b j).2,λy=>(cN (x:=y) b j).1⟩
def nB{k:Str->List Str×List U->M β}{Post:β->ak->Prop}{Z:V->V->Hp->Prop}(l:Ok C c0)(h:W (m >>= λx=>il x >>= λy=>fT i >>= λd=>k y d) c0.st Post)
  (hz:∀(c:Cf) (y:Str) (ks:List Str) (us:List U) (r:hQ) (kvs:List (Key×V)),c.σ=c0.σ->Ok C c->Nx c0 c->c.H r=a5 (.dK kvs)->(cI kvs (ri y)).isSome=ez (y∈ks)->W (k y (ks,us)) c.st Post->Z (.str y) (.ref r) c.H) :
  Dy C m c0.σ c0.H λv o=>∃b,c0.σ[i]?=a5 (a5 b)/\Z v b o:=by
 show⟨c0,rfl,rfl,l,?_⟩;rw[ab]at h;show W.mono h λx st' w c v f hs a n r=>?_;subst hs;have⟨t,u⟩:=x;rw[ab]at w;have⟨y,e,g⟩:=eY w;clear w
 dsimp only at e r
 subst e;have ev:v=.str y:=r.str a;subst ev;rw[ab]at g;have⟨ks,us,hs,w⟩:=eX g;obtain⟨j,kvs,p,q,_,_,_,_,s,_⟩:=a.Dt hs;show⟨.ref j,by rw[<-f];show p,hz c y ks us j kvs f a n q (s y) w⟩
abbrev Am(neg:Bool):CmpOp:=if neg=b5 then .NotIn else .In
def An(d:∀j,ns j=b5->j≠i)(f:X.N.Nodup)(c:X.N[i]?=a5 x)(g:Loc X.env.scope x)(k:X.fn x=b5\/X.env.scope.names.lookup x=a5 .local)
  (hs:LR (.Dict [] [] p) (a5 (.Name x a)) pos.line X.env=pure df):L2.PS X (.Assign [.Name x a] (.Dict [] [] p) pos) (D6 C ns (yw i >>= λ_=>pure .nx)):=by
 rintro b s σ H D I ⟨c0,rfl,rfl,l,h⟩;have m:i<c0.σ.length:=by rw[I.len];show(gi.mp c).1
 show ox f c g mV hs k b s c0.σ c0.H D I λq n=>?_;have⟨o,r⟩:=l.newD n m;rw[ab]at h;obtain⟨_,st',e,w⟩:=h;cases e;rw[af]at w;show w _ rfl o r ⟨λj t=>k8 (z8 (d j t)),by simp⟩
end
section
def xD(G:X.A.units+60<Eg)(p:X.N[i]?=a5 x)(q:Fh X.env.scope x)(t:(x==("__debug__":Str))=df)(u:(x==("__classdict__":Str))=df)(v:PE X a (Dy C D))(z:M3 (Am neg) (.Name x p2)=df):
  PT X (.Compare a [Am neg] [.Name x p2] pos) (En C (D >>= λx=>il x >>= λy=>fT i >>= λd=>pure (Mu neg y d.1))):=by
 rintro e s σ H Q I ⟨c0,rfl,rfl,B,h⟩;cases neg with
 |false =>
  show tD (zw ⋯ v (bY p q t u)) z e s c0.σ c0.H Q I (nB (Z:=λy x f=>∃a o,x=V.ref a/\dE f a y o/\∃b,V.bl o.isSome=.bl b/\Q b f) B h λc y ks us r kvs g j n l m w=>?_);rw[af]at w;show⟨r,_,rfl,dE.k (k:=ri y) l,?_⟩;rw[m];show⟨_,rfl,w c g rfl j n⟩
 |true =>
  show tD (rT ⋯ v (bY p q t u)) z e s c0.σ c0.H Q I (nB (Z:=λy x f=>∃a o,x=V.ref a/\dE f a y o/\∃b,V.bl (!o.isSome)=.bl b/\Q b f) B h λc y ks us r kvs g j n l m w=>?_);rw[af]at w;show⟨r,_,rfl,dE.k (k:=ri y) l,?_⟩;rw[m];show⟨_,rfl,w c g rfl j n⟩
theorem cA.snoc{S:hQ->Prop}{a:hQ}(b:H a=a5 (.lst vs))(c:ae C S H d vs):∀{us:List U}{as:List hQ},cA C S H us as->cA C S H (us++[.lst d]) (as++[a])
 |[],as,h=>by cases h;show⟨a,[],d,vs,rfl,rfl,b,c,rfl⟩
 |u::us,as,h=>by
  have⟨a',as',f,g,rfl,e,i,j,k⟩:=h;show⟨a',as'++[a],f,g,rfl,e,i,j,cA.snoc b c k⟩
def pv{st:ak}(h:W (jh i y r) st Q):∃us ks vs,r=(.own,.lst us)/\st[i]?=a5 (a5 (.Ds,.Dt ks vs))/\y∉ks/\ks.length<dV/\Q () (st.set i (a5 (.Ds,.Dt (ks++[y]) (vs++[.lst us])))):=by
 have⟨k,u⟩:=r;cases k<;>cases u<;>first|show(aU.mp h).elim|skip
 rename_i us;obtain⟨_,st',e,q⟩:=h;unfold jh at e
 dsimp only at e
 split at e
 .rename_i ks vs hs;split at e
  .rename_i hz;cases e;show⟨us,ks,vs,rfl,hs,hz.1,hz.2,q⟩
  .cases e
 .cases e
def Ao{i:Nat}{x:Str}{j:Pos}(hu:X.A.units+60<Eg)(hN:X.N[i]?=a5 x)(hv:Fh X.env.scope x)(hd:(x==("__debug__":Str))=df)(D9:(x==("__classdict__":Str))=df)
  (ha:PE X a (Dy C ma)) (B:PE X b (Dy C mb)) (hs:M1 [.Subscript (.Name x j) b p] a pos.line X.env=pure df) (H_:R_ [.Subscript (.Name x j) b p] a X.env=pure b6)
  (G:∀v,Oa (.Subscript (.Name x j) b p) X.env v=(do
   let n <-Js [v] (F' (.Name x j) X.env)
   let I <-Js [v,n] (F' b X.env)
   TU p
   Js [v,n,I] (Pa n I v)
   S7 [v,n,I] [])) :
  L2.PS X (.Assign [.Subscript (.Name x j) b p] a pos) (D6 C ns (ma >>= λr=>fT i >>= λ_=>mb >>= λx=>il x >>= λy=>jh i y r >>= λ_=>pure .nx)):=by
 show PS.weak (ou ha (tJ (bY hN hv hd D9) B (set_dict (X:=X) ⋯) G) hs H_ rfl) ?_;rintro D σ H ⟨c0,rfl,rfl,Q,h⟩;show az Q h λr c v t w=>?_;rw[ab]at w;have⟨OD,M4,El,w⟩:=eX w;obtain⟨T,Ih,Y,g0,_⟩:=t.ok.Dt El;show⟨.ref T,by rw[<-t.hσ];show Y,?_⟩;rw[ab]at w;show⟨c,t.hσ,rfl,t.ok,w.mono λy st2 w2 J vy s e4 u n2 r2=>?_⟩;subst e4;rw[ab]at w2;have⟨ky,uy⟩:=y;have⟨y,ey,w3⟩:=eY w2
 dsimp only at ey r2
 subst ey;have ev:vy=.str y:=r2.str u;subst ev;rw[ab]at w3;have⟨us,ks,vs,L,g,Kz,l,q⟩:=pv w3;subst L;rw[af]at q;obtain⟨m,kvs,d,g1,g2,g3,g4,g5,g6,_⟩:=u.Dt g;have L:m=T:=by rw[s,<-t.hσ,Y]at d;cases d;rfl
 subst L;have⟨f,rfl,k1,k2,O,DY,k4,k5⟩:=t.rx.w.on t.ok n2.toNs (s.trans t.hσ.symm);have MX:=t.nx.trans n2;have hl:kvs.length=ks.length:=by have:=WN E1 g2;simpa using this
 have Gr:cI kvs (ri y)=b6:=by
  have:=g6 y;rw[WL Kz]at this;cases hq:cI kvs (ri y) with
  |none=>rfl
  |some _=>rw[hq]at this;cases this
 show⟨m,_,rfl,rQ.k (k:=ri y) g1 (by rw[hl];show l),?_⟩;rw[tV _ Gr];have KZ:f∉J.kid i:=λz=>O (.inr ⟨i,_,_,g,d,.inr z⟩);have OE:f≠m:=λz=>O (.inr ⟨i,_,_,g,d,.inl z⟩);have rd:=u.dd.kd i _ _ g d;have fr:=bL.fr rd;have⟨Ff,n3⟩:=Ok.B4 (H':=upd J.H m (.dK (kvs++[(ri y,.ref f)]))) (u':=.Dt (ks++[y]) (vs++[.lst us])) (as':=J.kid i++[f]) u MX.toNs g d
  (λa ne=>ai λz=>ne ⟨_,_,g,d,.inl z⟩) (λa o e=>by
   by_cases hz:a=m
   .subst hz;show⟨_,aq⟩
   .rw[ai hz];show⟨o,e⟩)
  (λmv=>by
   show⟨_,aq,by rw[qs,g2,qs];rfl,by rw[qs,g3,qs];rfl,?_,λa ha=>?_,?_⟩
   .rw[<-Vd,sx];show⟨g4,by simp,λa ha b B=>by
     have:b=f:=by simpa using B
     subst this;rintro rfl;rcases ka.mp ha with z|z
     .show OE z
     .show KZ z⟩
   .rw[<-Vd]at ha;rcases ko.mp ha with ha|ha
    .show fr a ha
    .have:a=f:=by simpa using ha
     subst this;obtain⟨z1,_,z3,_⟩:=Q.jc k1;show⟨k2,z3,z1⟩
   .show cA.snoc (by rw[ai OE];show k4) (k5.mv mv) (cA.mv mv (λa ha o e=>by
     rw[ai (λz=>(nH.mp g4).1 (by rw[<-z];show ha))];show e) g5))
  (λa ha=>by
   rcases ko.mp ha with ha|ha
   .show .inl ha
   .have:a=f:=by simpa using ha
    subst this;show .inr ⟨O,k1⟩)
 have z:=q _ rfl Ff n3 (Kept.of s);rw[<-s];show z
theorem cA.at{S:hQ->Prop}:∀{ks:List Str}{us:List U}{as:List hQ}{kvs:List (Key×V)}{u:U},kvs.map (·.1)=ks.map ri->kvs.map (·.2)=as.map V.ref->as.Nodup->cA C S H us as->cQ ks us y=a5 u ->
  ∃a ws f,cI kvs (ri y)=a5 (.ref a)/\a∈as/\u=.lst f/\H a=a5 (.lst ws)/\ae C S H f ws/\∀(H':Hp) (c:List U) (d:List V),Mv S H S H'->H' a=a5 (.lst d)->ae C S H' c d->(∀b∈as,b≠a->H' b=H b)->cA C S H' (ip ks us y (.lst c)) as
 |[],us,as,kvs,u,_,_,_,_,h=>by cases us<;>cases h
 |k::ks,[],as,kvs,u,_,_,_,_,h=>by cases h
 |k::ks,Q::us,as,kvs,u,g,q,i,hk,h=>by
  have⟨a,as',f,ws,rfl,rfl,t,v,w⟩:=hk;cases kvs with
  |nil=>simp at g
  |cons p kvs =>
   rw[gc,gc,Kt]at g q;rw[nH]at i;by_cases j:k=y
   .subst j;simp only[cQ,if_true]at h;cases h;show⟨a,ws,f,by rw[de g.1,q.1],by simp,rfl,t,v,λH' c d l r s m=>?_⟩;simp only[ip,if_true];show⟨a,as',c,d,rfl,rfl,r,s,cA.mv l (λb n o e=>by rw[m b (by simp[n]) (λz=>i.1 (z▸n))];show e) w⟩
   .simp only[cQ,WK j]at h;have⟨x,B,D,G,A,I,J,L,N⟩:=cA.at g.2 q.2 i.2 w h;show⟨x,B,D,?_,by simp[A],I,J,L,λH' c d l r s m=>?_⟩
    .rw[dg (by rw[g.1];intro z;show j (Rv z))];show G
    .simp only[ip,WK j];have O:a≠x:=λz=>i.1 (z▸A);show⟨a,as',f,ws,rfl,rfl,by rw[m a (by simp) O];show t,v.mv l,N H' c d l r s λb n=>m b (by simp[n])⟩
def pz{st:ak}(h:W (ji i y u) st Q):∃ks vs xs,st[i]?=a5 (a5 (.Ds,.Dt ks vs))/\cQ ks vs y=a5 (.lst xs)/\xs.length<dV/\Q () (st.set i (a5 (.Ds,.Dt ks (ip ks vs y (.lst (xs++[u])))))):=by
 obtain⟨_,st',e,q⟩:=h;unfold ji at e;split at e
 .rename_i ks vs hs;split at e
  .rename_i xs a;split at e
   .rename_i hz;cases e;show⟨ks,vs,xs,hs,a,hz,q⟩
   .cases e
  .cases e
 .cases e
def Ap(hK:C.K=X.K)(hu:X.A.units+60<Eg)(hN:X.N[i]?=a5 x)(hv:Fh X.env.scope x)(hd:(x==("__debug__":Str))=df)(D9:(x==("__classdict__":Str))=df)(G:PE X a (Dy C ma))(hb:PE X b (Dy C mb))(J3:zv b)
  (Ez:((G_ cpos (mu [a] X.env)).all (λx=>!x.1)&&(O7 cpos (LS [] X.env)).all (λx=>x.1.isSome)
   && ez ([a].length+([]:List Lx).length+(if ([]:List Lx).isEmpty then 0 else 1)<30))=b5)
  (D1:(j.endLine==cpos.line)=b5) (DC:mu [a] X.env=[(df,F' a X.env)]) :
  L2.PS X (.Expr (.Call (.Attribute (.Subscript (.Name x px) b p) "append" j) [a] [] cpos) pos) (D6 C ns (fT i >>= λ_=>mb >>= λx=>il x >>= λy=>fT i >>= λd=>if y∈d.1 then(ma >>= λr=>lift r >>= λu=>ji i y u >>= λ_=>pure .nx) else M.fail)):=by
 show PS.weak (dz (km PySem.F.plainAttrs_list PySem.F.slot_list_append PySem.F.type_list_append dc (wD ⋯ (bY hN hv hd D9) hb J3) (cY G d9 DC) rfl Ez D1 DC rfl)) ?_;rintro D σ H ⟨c0,rfl,rfl,ok,h⟩;rw[ab]at h;have⟨OD,M4,El,h⟩:=eX h;obtain⟨r0,Ih,I,g0,_⟩:=ok.Dt El;show⟨.ref r0,I,?_⟩;show az ok h λry c vy t w=>?_;rw[ab]at w;have⟨ky,uy⟩:=ry;have⟨y,ey,w1⟩:=eY w
 dsimp only at ey
 subst ey;have ev:vy=.str y:=t.rx.str t.ok;subst ev;rw[ab]at w1;have⟨ks,us,hs,l⟩:=eX w1
 dsimp only at l
 by_cases J:y∈ks
 case neg=>rw[WK J]at l;show(aU.mp l).elim
 rw[WJ J]at l;obtain⟨L,kvs,f1,g1,g2,g3,g4,g5,g6,_⟩:=t.ok.Dt hs;have O:L=r0:=by rw[t.hσ,I]at f1;cases f1;rfl
 subst O;have Ht:=g6 y;rw[WM J]at Ht;have⟨v0,n⟩:=Ny.mp Ht;have ET:v0∈(c.kid i).map V.ref:=by
  rw[<-g3];unfold cI at n;have⟨q,hq,rfl⟩:=f6.mp n;show Uv (List.mem_of_find?_eq_some hq)
 have⟨f,Q_,rfl⟩:=ki.mp ET;have⟨Ib,M5⟩:=g5.mem Q_;show⟨L,.ref f,rfl,by rw[<-n];show dE.k (k:=ri y) g1,Or.inl ⟨rfl,Ib,.inl (.inl M5)⟩,?_⟩;rw[<-t.hσ];show az t.ok l λr g v t' w3=>?_;have sr:=t'.nx.all;rw[ab]at w3;obtain⟨S',st',u,sS,Q,n1,m,w4,_,_⟩:=fV t.ok t'.ok t'.nx t'.rx.w w3;rw[ab]at w4;have⟨OF,DY,xs,s,hx,hz,q⟩:=pz w4;rw[af]at q;obtain⟨B,T,k1,k2,k3,k4,Y,k6,_,_⟩:=Q.Dt s;have OG:g.σ[i]?=a5 (a5 (.ref B)):=k1;have O:B=L:=by rw[t'.hσ,t.hσ,I]at OG;cases OG;rfl
 subst O;have Ra:g.H B=a5 (.dK T):=k2;have M6:T=kvs:=by have:=sr _ _ g1;rw[Ra]at this;cases this;rfl
 subst M6;have nd:=(nH.mp Y).2;have⟨a2,ws,ys,l1,l2,l3,l4,l5,l6⟩:=cA.at k3 k4 nd k6 hx;cases l3;rw[n]at l1;cases l1;have Rb:g.H f=a5 (.lst ws):=l4;show⟨f,ws,v,rfl,rfl,Rb,by rw[<-l5.len];show hz,?_⟩;have Ek:f≠B:=λz=>(nH.mp Y).1 (z▸l2);have⟨D0,n2⟩:=Ok.B4 (c:={g with S:=S',st:=st' }) (H':=upd g.H f (.lst (ws++[v]))) (u':=.Dt OF (ip OF DY y (.lst (xs++[u])))) (as':=g.kid i) Q (t.nx.trans n1).toNs s k1
  (λa ne=>ai λz=>ne ⟨_,_,s,k1,.inr (z▸l2)⟩) (λa o e=>by
   by_cases hz:a=f
   .subst hz;show⟨_,aq⟩
   .rw[ai hz];show⟨o,e⟩)
  (λmv=>⟨T,by rw[ai (z8 Ek)];show k2,k3,k4,Y,bL.fr (Q.dd.kd i _ _ s k1),l6 _ _ _ mv aq ((l5.mv mv).snoc (m.mv mv)) λb _ ne=>ai ne⟩)
  (λa G=>.inl G)
 have z:=q _ rfl D0 n2 (Kept.of (t'.hσ.trans t.hσ));rw[<-t'.hσ];show z
end
section
def uY{st:ak}(h:W (Mw u) st Q):∃ks us,u=.Dt ks us/\Q () st:=by
 cases u<;>first|show(aU.mp h).elim|skip
 show⟨_,_,rfl,af.mp h⟩
def kG{st:ak}(h:W (sm x) st Q):∃j,x.2=.int j/\Q j st:=by
 unfold sm at h;split at h
 .rename_i y e;rw[af]at h;show⟨y,e,h⟩
 .show(aU.mp h).elim
def kH{st:ak}(h:W (nu i) st Q):∃k us,k.root=b5/\st[i]?=a5 (a5 (k,.lst us))/\Q us st:=by
 have⟨r,st',e,q⟩:=h;unfold nu at e;split at e
 .rename_i k us hs;split at e
  .rename_i hk;cases e;show⟨k,_,hk,hs,q⟩
  .cases e
 .cases e
theorem nE:∀{ks:List Str}{us:List U},y∈ks->ks.length=us.length->cQ ks us y=b6->False
 |[],us,h,_,_=>by cases h
 |k::ks,[],_,h,_=>by simp at h
 |k::ks,u::us,h,hl,e=>by
  by_cases hk:k=y
  .simp[cQ,hk]at e
  .simp only[cQ,WK hk]at e;rcases ka.mp h with h|h
   .show hk h.symm
   .show nE h (by simpa using hl) e
def uZ{i:Nat}{x:Str}{G:Pos}(hu:X.A.units+60<Eg)(hN:X.N[i]?=a5 x)(hv:Fh X.env.scope x)(hd:(x==("__debug__":Str))=df)(D9:(x==("__classdict__":Str))=df)
  (ha:PE X a (Dy C ma)) (hb:PE X b (Dy C mb)) (hm:M2 X (.Name x G) "get" e a b cpos) :
  PE X (.Call (.Attribute (.Name x G) "get" e) [a,b] [] cpos) (Dy C (cW i >>= λx=>Mw x.2 >>= λ_=>ma >>= λy=>il y >>= λy=>mb >>= λz=>lift z >>= λu=>cW i >>= λx=>M.DQ (w9 x y u))):=by
 rintro f s σ H Q I ⟨c0,rfl,rfl,p,h⟩;show tY ⋯ (bY hN hv hd D9) ha hb hm f s c0.σ c0.H Q I ?_;rw[ab]at h;have⟨k0,u0,M7,El,h⟩:=cO h;have⟨v0,J,t0⟩:=p.slot M7 El;rw[ab]at h;have⟨OD,M4,L,h'⟩:=uY h
 dsimp only at L
 subst L;obtain⟨B,Ih,rfl,g0,_⟩:=t0.dict p;show⟨.ref B,J,B,rfl,.inl ⟨Ih,.inl g0⟩,?_⟩;show az p h' λry c vy t w=>?_;rw[ab]at w;have⟨ky,uy⟩:=ry;have⟨y,O,w1⟩:=eY w
 dsimp only at O
 subst O;have ev:vy=.str y:=t.rx.str t.ok;subst ev;rw[<-t.hσ];show az t.ok w1 λz g vz j T=>?_;rw[ab]at T;obtain⟨S',st',u,sS,D,n1,l,Y,_,_⟩:=fV t.ok j.ok j.nx j.rx.w T;rw[ab]at Y;have⟨k,u1,Rc,EF,w5⟩:=cO Y;have⟨r,d,q⟩:=b8.mp w5;have⟨v1,e1,t1⟩:=D.slot Rc EF;have Ei:g.σ[i]?=a5 (a5 v1):=e1;rw[j.hσ,t.hσ,J]at Ei;cases Ei;cases u1<;>first|(simp only[w9]at d;cases d;done)|skip
 rename_i ks us;have⟨a1,kvs,ea,g1,g2,g3⟩:=t1.dict D;cases ea;have K3:g.H B=a5 (.dK kvs):=g1;show⟨_,dE.k (k:=ri y) K3,?_⟩;simp only[w9]at d;have⟨l1,l2⟩:=cN (x:=y) g2 g3;have m:∀v:V,ay C c0 {g with S:=S',st:=st' } r.1 r.2 v->Q v g.H:=λv z=>q {g with S:=S',st:=st' } v (j.hσ.trans t.hσ) rfl D (t.nx.trans n1) z;cases o:cQ ks us y with
 |some w =>
  rw[o]at d;cases d;have⟨v,ev,rv⟩:=l1 w o;rw[ev];show m v ?_;show ay.item (k:=if k.root=b5 then .bor i else k) rv
 |none =>
  rw[o]at d;cases d;have Gr:cI kvs (ri y)=b6:=by
   cases hq:cI kvs (ri y) with
   |none=>rfl
   |some v =>
    exfalso
    rw[hq]at l2;have hy:y∈ks:=by simpa using l2.symm
    have n:ks.length=us.length:=by have h1:=WN E1 g2;have h2:=g3.len;simp at h1 h2;lia
    show nE hy n o
  rw[Gr];show m vz l
def u3:Bc X (λo i H Q=>∃p xs j v,o=.ref p/\i=.int j/\H p=a5 (.lst xs)/\0<=j/\xs[j.toNat]?=a5 v/\Q v H):=by
 rintro a s σ H o i l m Q I c d ⟨p,xs,j,v,rfl,rfl,e,f,b,q⟩;cases c;have⟨t,rfl⟩:=d;have⟨n,r,g,hz⟩:=I.list (.inl (.inl e));have⟨w,h,k⟩:=r.get b;have hl:=r.length;have u:=d8;have x:=(gi.mp b).1;show wpAny_getItem_list g.isList f ⋯ (by simpa using h) ⟨v,H,I,k,q⟩
def xE:Kl X (if sub=b5 then .Sub else .Add) (Li (so sub)):=by
 cases sub with
 |true=>show zd
 |false=>show zc
def B5(hN:X.N[i]?=a5 x)(hv:Fh X.env.scope x)(hd:(x==("__debug__":Str))=df)(D9:(x==("__classdict__":Str))=df)
  (ha:PE X a (Dy C ma)) (hb:PE X b (Dy C mb))
  (n:∀g l new,Ww b g l new=(do Js [new,g,l] (Pa g l new);S7 [new,g,l] [];pure .next)) :
  L2.PS X (.AugAssign (.Subscript (.Name x px) b p) (if sub=b5 then .Sub else .Add) a pos) (D6 C ns (nu i >>= λ_=>mb >>= λy=>sm y >>= λj=>nu i >>= λus=>M.DQ (nv us j) >>= λo=>ma >>= λz=>sm z >>= λw=>modS i (c_ (.int j) (.int (so sub o w))) >>= λ_=>pure .nx)):=by
 show PS.weak (wc (bY hN hv hd D9) hb u3 ha xE set_list n) ?_;rintro D σ H ⟨c0,rfl,rfl,v,h⟩;rw[ab]at h;have⟨k0,M4,J4,El,h⟩:=kH h;have⟨v0,r,FC⟩:=v.sl i _ _ El;obtain⟨e,rfl,_,_,_,_⟩:=FC.rt J4;show⟨.ref e,r,?_⟩;show az v h λry c vy t w=>?_;rw[ab]at w;have⟨ky,uy⟩:=ry;have⟨j,A,B⟩:=kG w
 dsimp only at A
 subst A;have ev:vy=.int j:=t.rx.int t.ok;subst ev;rw[ab]at B;have⟨k1,Sm,JO,EF,G⟩:=kH B;rw[ab]at G;have⟨o,ho,w3⟩:=b8.mp G;have⟨v1,I,Rf⟩:=t.ok.sl i _ _ EF;obtain⟨a1,rfl,_,_,_,J5⟩:=Rf.rt JO;rw[t.hσ,r]at I;cases I;have⟨vs,J,g2⟩:=J5;unfold nv at ho;split at ho
 case isFalse=>cases ho
 rename_i Rg;split at ho
 case h_2=>cases ho
 rename_i o' M8;cases ho;have⟨vo,Rh,Ri⟩:=g2.get M8;have Rj:vo=.int o:=Ri;subst Rj;show⟨e,vs,j,_,rfl,rfl,J,Rg,Rh,?_⟩;rw[<-t.hσ];show az t.ok w3 λz s vz d L=>?_;have all2:=d.nx.all;rw[ab]at L;have⟨kz,uz⟩:=z;have⟨w,O,Q⟩:=kG L
 dsimp only at O
 subst O;have ev:vz=.int w:=d.rx.int d.ok;subst ev;show⟨o,w,rfl,rfl,?_⟩;rw[ab]at Q;have⟨k,u1,u2,hk,T,f,q⟩:=eW Q;rw[af]at q;have⟨v2,u,He⟩:=d.ok.sl i _ _ T;obtain⟨a2,rfl,_,_,_,J6⟩:=He.rt hk;have Rk:=u;rw[d.hσ,t.hσ,r]at u;cases u;have Y:s.H e=a5 (.lst vs):=all2 _ _ J;cases u1 with
 |lst xs =>
  simp only[c_,f6]at f;have⟨m,HJ,rfl⟩:=f;have⟨Sn,l1,l2⟩:=J6;rw[Y]at l1;cases l1;show⟨e,vs,j,m,rfl,rfl,Y,by rw[<-l2.len];show HJ,?_⟩;have⟨Ff,n3⟩:=Ok.mod (c:=s) (H':=upd s.H e (.lst (vs.set m (.int (so sub o w))))) (u':=.lst (xs.set m (.int (so sub o w)))) d.ok (t.nx.trans d.nx).toNs hk T Rk (λa ne=>ai ne) ⟨_,aq⟩ λmv=>⟨_,aq,(l2.mv mv).set m rfl⟩
  have z:=q _ rfl Ff n3 (Kept.of (d.hσ.trans t.hσ));rw[<-d.hσ];show z
 |Dt ks vs=>simp[c_]at f
 |Ec ks=>simp[c_,rowOf]at f
 |_=>simp[c_]at f
end
section
def xF{ks:List Str}(c:kvs.map (·.1)=ks.map ri)(d:kvs.map (·.2)=ns.map V.int):kvs=(ks.zip ns).map λp=>((ri p.1:Key),V.int p.2):=by
 induction kvs generalizing ks ns with
 |nil =>
  cases ks with
  |nil=>rfl
  |cons _ _=>cases c
 |cons kv kvs e =>
  cases ks with
  |nil=>cases c
  |cons k ks =>
   cases ns with
   |nil=>cases d
   |cons n ns =>
    have⟨a,b⟩:=kv;simp only[gc,Kt]at c d;have⟨rfl,c⟩:=c;have⟨rfl,d⟩:=d;rw[e c d];rfl
theorem ae.of_map{S:hQ->Prop}{f:α->U}{g:α->V}:∀{l:List α},(∀x∈l,Rep C S H (f x) (g x))->ae C S H (l.map f) (l.map g)
 |[],_=>rfl
 |x::l,h=>⟨g x,l.map g,rfl,h x (by simp),ae.of_map λy a=>h y (by simp[a])⟩
def xG(O:X.calm=b5)(hK:C.K=X.K)(Y:Gl X "sorted")(hm:X.mg "sorted"=b6)(hN:X.N[i]?=a5 x)(hv:Fh X.env.scope x)(hd:(x==("__debug__":Str))=df)(D9:(x==("__classdict__":Str))=df)(D1:(b.endLine==cpos.line)=b5):
  PE X (.Call (.Name "sorted" p) [.Call (.Attribute (.Name x m) "items" b) [] [] cpos] [] pos) (Dy C (cW i >>= λx=>M.DQ (uw x.2))):=by
 rintro f s σ H Q I ⟨c0,rfl,rfl,l,h⟩;show HR (fm I Y hm (show IU "sorted"=a5 (.builtin "sorted") by decide +kernel) ?_ (by decide +kernel) (by decide +kernel));rw[ab]at h;have⟨k0,u0,M7,El,h⟩:=cO h;have⟨v0,e0,t0⟩:=l.slot M7 El;have⟨r,c,k⟩:=b8.mp h
 dsimp only at c
 unfold uw at c;split at c
 rotate_left
 .cases c
 rename_i ks us;rw[rr]at c;have⟨ns,en,c⟩:=c;split at c
 rotate_left
 .cases c
 rename_i M9;cases c;have⟨FR,DN,t⟩:=M9;have⟨d,kvs,rfl,u,J4,B⟩:=t0.dict l;rw[gW en]at B;have M6:=xF J4 (ae.ints B);subst M6;have ek:((ks.zip ns).map (·.1))=ks:=U_ ⋯;have g:fx (ke X.prog X.w) X.A (F' (.Call (.Attribute (.Name x m) "items" b) [] [] cpos) X.env) (λv s1=>fx (ke X.prog X.w) X.A (MD (.builtin "sorted") [v]) (EP X f c0.σ Q) X.xe s1) X.xe s:=by
  show wpAny_Call_method0_late rfl D1 (Dx (bY hN hv hd D9 f s c0.σ c0.H (λv D=>v=.ref d/\D=c0.H) I ⟨_,e0,rfl,rfl⟩) λv s1 M_=>?_);have⟨x1,D,G,r1,z1,z2⟩:=M_;subst z1 z2;cases(show v=lg d from r1);have⟨h1,h2⟩:=oI (T:="dict") G (x:=.ref d) rfl (.inr (.inr (.inl ⟨rfl,.inl ⟨_,u⟩⟩)));show⟨"dict","dict.items",PySem.F.plainAttrs_dict,PySem.F.slot_dict_items,PySem.F.type_dict_items,h1,h2,Jm rfl (PySem.evalArgs_none (lQ O G u (by rw[ek];show DN) (by rw[SS];lia) λas L hl nd J hL=>?_))⟩;have n:c0.H L=b6:=J L (by simp);have Rm:(as.zip ((ks.zip ns).map GJ)).map (·.1)=as:=U_ (by rw[dt];lia);have Rn:∀p∈as.zip ((ks.zip ns).map GJ),p.1∈as:=λp q=>(MG q).1;have same:tU c0.H (upd (ij c0.H (as.zip ((ks.zip ns).map GJ))) L (.lst ((dn ((ks.zip ns).map (·.1))).map λi=>V.ref (as.getD i 0)))):=λa o e=>by
   have n1:a≠L:=λy=>by rw[y,n]at e;cases e
   rw[ai n1,jb λp q y=>?_]
   .show e
   .have:=J p.1 (by simp[Rn p q]);rw[y,e]at this;cases this
  have⟨DG,n'⟩:=l.grow (S':=c0.S) same (λa z=>.inl z) λa z=>z;have⟨q1,q2,q3,q4,q5⟩:=l.jc n;show k {c0 with H:=upd (ij c0.H (as.zip ((ks.zip ns).map GJ))) L (.lst ((dn ((ks.zip ns).map (·.1))).map λi=>V.ref (as.getD i 0))),S:=c0.S} _ rfl rfl DG n' ⟨L,rfl,n,q2,q5,_,aq,?_⟩;change ae C c0.S _ ((wZ (ks.zip ns)).map sk) _;unfold wZ;rw[kj];show ae.of_map λj hj=>?_;have HJ:j<(ks.zip ns).length:=by
   have:=DS.mp ((dq _).mem_iff.mp hj);rw[dt]at this;show this
  have Mo:j<as.length:=by lia
  have e1:(ks.zip ns).getD j (td,0)=(ks.zip ns)[j]:=(List.getElem_eq_getD _).symm;have e2:as.getD j 0=as[j]:=by simp[Ml,Mo]
  change Rep C c0.S _ (sk ((ks.zip ns).getD j (td,0))) (V.ref (as.getD j 0));rw[e1,e2];show⟨as[j],GJ (ks.zip ns)[j],rfl,DU.of ?_,⟨_,_,rfl,rfl,_,_,rfl,rfl,rfl⟩⟩;have Ek:as[j]≠L:=λy=>hL (by rw[<-y];simp);show(ai Ek).trans (qD (by rw[Rm];show nd) (vs:=GJ (ks.zip ns)[j]) ?_);show Uh.mpr ⟨j,by rw[SS,dt];lia,?_⟩;rw[List.getElem_zip,Va]
 have eb:G_ pos (mu [.Call (.Attribute (.Name x m) "items" b) [] [] cpos] X.env)=[(df,F' (.Call (.Attribute (.Name x m) "items" b) [] [] cpos) X.env)]:=rfl;have Ro:O7 pos (LS [] X.env)=[]:=rfl;rw[eb,Ro];show uO g
end
structure Ck where
 fns:List Str
 gl:List (Str×U)
abbrev pA:U->U->Bool
 |.int i,.int j=>ez (i=j)
 |.str x,.str y=>ez (x=y)
 |.bl a,.bl b=>a==b
 |.DB,.DB=>b5
 |_,_=>df
def eZ(h:pA u v=b5):u=v:=by
 cases u<;>cases v<;>simp[pA]at h<;>subst_vars<;>rfl
abbrev noStar:pk->Bool
 |.Starred _ _=>df
 |_=>b5
abbrev cZ:pk->Bool
 |.Slice _ _ _ _=>df
 |_=>b5
abbrev pB:pk->Bool
 |.Set _ _ _=>df
 |_=>b5
abbrev l8:pk->Bool
 |.Call (.Name _ _) [] [] _=>df
 |_=>b5
abbrev cM:pk->Bool
 |.ListComp _ _ _ _=>df
 |.SetComp _ _ _ _=>df
 |.DictComp _ _ _ _ _=>df
 |_=>b5
abbrev Aq:pk->Bool
 |.Tuple _ _ _=>df
 |_=>b5
abbrev FD(a:IW)(x:Str):Bool:=ez (a.names.lookup x=a5 .globalImplicit)
abbrev fZ(a:IW)(x:Str):Bool:=ez (a.names.lookup x=a5 .local)||decide (a.names.lookup x=a5 .cell)||decide (a.names.lookup x=a5 .free)
abbrev j6(a:IW)(x:Str):Bool:=ez (a.names.lookup x=a5 .local)||decide (a.names.lookup x=a5 .cell)
abbrev B6(a:IW)(x:Str):Bool:=ez (a.names.lookup x=a5 .local)
abbrev bE(x:Str):Bool:=!(x==("__debug__":Str))&&!(x==("__classdict__":Str))
abbrev qQ(N:List Str)(a:IW)(fa:Str->Bool)(i:Nat):pk->Bool
 |.Name x _=>ez (N[i]?=a5 x)&&j6 a x&&(fa x||B6 a x)
 |_=>df
abbrev l9(N:List Str)(a:IW)(fa:Str->Bool):List Nat->List pk->Bool
 |[],[]=>b5
 |i::is,e::es=>qQ N a fa i e&&l9 N a fa is es
 |_,_=>df
abbrev fi:pk->List Str
 |.Name x _=>[x]
 |.Tuple es _ _=>es.filterMap fun|.Name x _=>a5 x|_=>b6
 |_=>[]
abbrev hide(a N:List Str):List Str:=match a.filter λx=>ez (x∈N) with
 |[]=>N
 |[x]=>N.set (N.idxOf x) "."
 |x::y::_=>(N.set (N.idxOf x) ".").set (N.idxOf y) ".."
abbrev IV(t:Bool)(N:List Str)(a:IW)(fa:Str->Bool)(is:List Nat):pk->Bool
 |.Name x p=>!t&&(match is with|[i]=>qQ N a fa i (.Name x p)|_=>df)
 |.Tuple es _ _=>t&&l9 N a fa is es&&is.all λi=>ez (i<N.length)
 |_=>df
abbrev isTup:pk->Bool
 |.Tuple _ _ _=>b5
 |_=>df
abbrev l_(e:pk):Option (Str×List pk):=match e with
 |.Call f as a _=>match f with
  |.Name x _=>if a.isEmpty=b5 then a5 (x,as) else b6
  |_=>b6
 |_=>b6
def gX(h:l_ e=a5 (x,as)):∃p q,e=.Call (.Name x p) as [] q:=by
 unfold l_ at h;split at h
 .split at h
  .split at h
   .rename_i hk;rw[F3]at hk;cases h;subst hk;show⟨_,_,rfl⟩
   .cases h
  .cases h
 .cases h
abbrev eJ(a:IW)(b:pk)(c:Ik)(e:pk):Option (List pk):=match c with
 |.seq=>a5 [e]
 |.DV=>(l_ e).bind λp=>if p.1="range"/\FD a p.1=b5/\p.2.length=1 then a5 p.2 else b6
 |.HS=>(l_ e).bind λp=>if p.1="enumerate"/\FD a p.1=b5/\p.2.length=1/\isTup b=b5 then a5 p.2 else b6
 |_=>b6
abbrev simple:Bf->Bool:=λ_=>b5
abbrev Ar(scope a:IW):IW:={scope with names:=scope.names.map λ(n,k)=>if (k==GP&&a.kind==.function&&a.names.lookup n==a5 .cell)=b5 then(n,.cell) else(n,k)}
abbrev bc(e:pk)(k:Str->Bool):Bool:=match e with|.Name x _=>k x|_=>df
def ao(h:bc e k=b5):∃x p,e=.Name x p/\k x=b5:=by
 unfold bc at h;split at h
 .show⟨_,_,rfl,h⟩
 .cases h
abbrev du{α:Type}(l:List α)(k:α->Bool):Bool:=match l with|[a]=>k a|_=>df
def aX(h:du l k=b5):∃a,l=[a]/\k a=b5:=by
 unfold du at h;split at h
 .show⟨_,rfl,h⟩
 .cases h
abbrev dO(e:pk)(k:pk->List pk->Pos->Bool):Bool:=match e with|.Call f as a p=>a.isEmpty&&k f as p|_=>df
def ba(h:dO e k=b5):∃f as p,e=.Call f as [] p/\k f as p=b5:=by
 unfold dO at h;split at h
 .rename_i f as a p;rw[c4,F3]at h;have⟨rfl,h⟩:=h;show⟨_,_,_,rfl,h⟩
 .cases h
abbrev pC(e:pk)(k:pk->Str->Pos->Bool):Bool:=match e with|.Attribute o m p=>k o m p|_=>df
def nF(h:pC e k=b5):∃o m p,e=.Attribute o m p/\k o m p=b5:=by
 unfold pC at h;split at h
 .show⟨_,_,_,rfl,h⟩
 .cases h
abbrev u4(e:pk)(k:pk->Vh->pk->Bool):Bool:=match e with|.BinOp a op b _=>k a op b|_=>df
def pD(h:u4 e k=b5):∃a op b p,e=.BinOp a op b p/\k a op b=b5:=by
 unfold u4 at h;split at h
 .show⟨_,_,_,_,rfl,h⟩
 .cases h
abbrev qR(e:pk)(k:pk->CmpOp->pk->Bool):Bool:=match e with|.Compare a ops c _=>du ops λop=>du c λb=>k a op b|_=>df
def fC(h:qR e k=b5):∃a op b p,e=.Compare a [op] [b] p/\k a op b=b5:=by
 unfold qR at h;split at h
 .have⟨op,rfl,c⟩:=aX h;have⟨b,rfl,d⟩:=aX c;show⟨_,_,_,_,rfl,d⟩
 .cases h
abbrev eL(e:pk)(k:pk->Str->Pos->List pk->Pos->Bool):Bool:=dO e λf as cpos=>pC f λo m a=>k o m a as cpos
def bF(h:eL e k=b5):∃o m a as cpos,e=.Call (.Attribute o m a) as [] cpos/\k o m a as cpos=b5:=by
 have⟨f,as,p,rfl,h⟩:=ba h;have⟨o,m,q,rfl,h⟩:=nF h;show⟨_,_,_,_,_,rfl,h⟩
abbrev f7(e:pk)(k:pk->pk->Bool):Bool:=match e with|.Subscript a b _=>k a b|_=>df
def bT(h:f7 e k=b5):∃a b p,e=.Subscript a b p/\k a b=b5:=by
 unfold f7 at h;split at h
 .show⟨_,_,_,rfl,h⟩
 .cases h
abbrev As:pk->Bool
 |.Slice b6 b6 (a5 (.UnaryOp .USub (.Constant (.int 1) _ _) _)) _=>b5
 |_=>df
def sG(h:As e=b5):∃a b c p2,e=.Slice b6 b6 (a5 (.UnaryOp .USub (.Constant (.int 1) a b) c)) p2:=by
 unfold As at h;split at h
 .show⟨_,_,_,_,rfl⟩
 .cases h
abbrev u5{α:Type}(l:List α)(k:α->α->Bool):Bool:=match l with|[a,b]=>k a b|_=>df
def pE(h:u5 l k=b5):∃a b,l=[a,b]/\k a b=b5:=by
 unfold u5 at h;split at h
 .show⟨_,_,rfl,h⟩
 .cases h
abbrev u6(e:pk)(k:Const->Bool):Bool:=match e with|.Constant c _ _=>k c|_=>df
def pF(h:u6 e k=b5):∃c q p,e=.Constant c q p/\k c=b5:=by
 unfold u6 at h;split at h
 .show⟨_,_,_,rfl,h⟩
 .cases h
abbrev Dm:Const->Option U
 |.int j=>a5 (.int j)
 |.str y=>a5 (.str y)
 |.bool y=>a5 (.bl y)
 |.none=>a5 .DB
 |_=>b6
abbrev Dn(u:U)(c:Const):Bool:=match Dm c with|some v=>pA u v|none=>df
abbrev xH(e:pk)(op:BoolOp)(k:List pk->Bool):Bool:=match e with|.BoolOp o es _=>ez (o=op)&&k es|_=>df
def gz(h:xH e op k=b5):∃es p,e=.BoolOp op es p/\k es=b5:=by
 unfold xH at h;split at h
 .rw[c4,WI]at h;have⟨rfl,h⟩:=h;show⟨_,_,rfl,h⟩
 .cases h
abbrev Au(e:pk)(op:UnaryOp)(k:pk->Bool):Bool:=match e with|.UnaryOp o a _=>ez (o=op)&&k a|_=>df
def kI(h:Au e op k=b5):∃a p,e=.UnaryOp op a p/\k a=b5:=by
 unfold Au at h;split at h
 .rw[c4,WI]at h;have⟨rfl,h⟩:=h;show⟨_,_,rfl,h⟩
 .cases h
abbrev qS(e:pk)(k:List pk->Bool):Bool:=match e with|.Tuple l _ _=>k l|_=>df
def jq(h:qS e k=b5):∃l q p,e=.Tuple l q p/\k l=b5:=by
 unfold qS at h;split at h
 .show⟨_,_,_,rfl,h⟩
 .cases h
abbrev u7(e:pk)(k:List pk->Bool):Bool:=match e with|.List l _=>k l|_=>df
def pG(h:u7 e k=b5):∃l p,e=.List l p/\k l=b5:=by
 unfold u7 at h;split at h
 .show⟨_,_,rfl,h⟩
 .cases h
abbrev xI(e:pk):Bool:=match e with|.Dict a b _=>a.isEmpty&&b.isEmpty|_=>df
def kJ(h:xI e=b5):∃p,e=.Dict [] [] p:=by
 unfold xI at h;split at h
 .rw[c4,F3,F3]at h;have⟨rfl,rfl⟩:=h;show⟨_,rfl⟩
 .cases h
abbrev u9(e:pk)(k:Option pk->Option pk->Bool):Bool:=match e with|.Slice a b c _=>c.isNone&&k a b|_=>df
def pH(h:u9 e k=b5):∃a b p,e=.Slice a b b6 p/\k a b=b5:=by
 unfold u9 at h;split at h
 .rw[c4,Tf]at h;have⟨rfl,h⟩:=h;show⟨_,_,_,rfl,h⟩
 .cases h
abbrev Av(e:pk)(k:pk->pk->pk->List pk->IW->Bool):Bool:=match e with|.ListComp elt a b _=>du a λg=>ez (g.is_async=0)&&k elt g.target g.iter g.ifs b|_=>df
def gA(h:Av e k=b5):∃elt d a b f p,e=.ListComp elt [⟨d,a,b,0⟩] f p/\k elt d a b f=b5:=by
 unfold Av at h;split at h
 .obtain⟨⟨d,a,b,z⟩,rfl,c⟩:=aX h;rw[c4,WI]at c;have⟨rfl,c⟩:=c;show⟨_,_,_,_,_,_,rfl,c⟩
 .cases h
abbrev isNm(e:pk)(n:Str):Bool:=bc e λx=>ez (x=n)
def gB(h:isNm e n=b5):∃p,e=.Name n p:=by
 have⟨x,p,e,z⟩:=ao h;show⟨p,WO z▸e⟩
abbrev B7(v:pk)(f:Str)(k:List pk->Bool):Bool:=dO v λg as _=>isNm g f&&k as
def sH(h:B7 v f k=b5):∃as p q,v=.Call (.Name f p) as [] q/\k as=b5:=by
 have⟨g,as,q,rfl,z⟩:=ba h;rw[c4]at z;have⟨p,rfl⟩:=gB z.1;show⟨as,p,q,rfl,z.2⟩
mutual
noncomputable def bq(k:Ck):E->List Str->IW->pk->Bool
 |.var i,N,d,g=>bc g λx=>ez (N[i]?=a5 x)&&fZ d x&&bE x
 |.cst u,N,d,g=>u6 g λc=>Dn u c
 |.KD _ _,_,_,_=>df
 |.bin op a b,N,d,g=>u4 g λa' r j=>ez (op.op=r)&&bq k a N d a'&&bq k b N d j
 |.cmp op a b,N,d,g=>qR g λa' r j=>ez (op.op=r)&&!M3 r j&&bq k a N d a'&&bq k b N d j
 |.Gh _ _ _ _ _,_,_,_=>df
 |.and es,N,d,g=>xH g .And λh=>aA k es N d h
 |.or es,N,d,g=>xH g .Or λh=>aA k es N d h
 |.not a,N,d,g=>Au g .Not λa'=>bq k a N d a'
 |.ite _ _ _,_,_,_=>df
 |.neg _,_,_,_=>df
 |.bad,_,_,_=>b5
 |.inD neg a i,N,d,g=>qR g λa' r j=>bc j λx=>ez (Am neg=r)&&!M3 r j&&ez (N[i]?=a5 x)&&fZ d x&&bE x&&bq k a N d a'
 |.II i,N,d,g=>bc g λx=>ez (N[i]?=a5 x)&&fZ d x&&bE x
 |.Fp i a b,N,d,g=>eL g λo m l as cpos=>bc o λx=>u5 as λa' j=>ez (m="get")&&ez (N[i]?=a5 x)&&fZ d x&&bE x&&(l.endLine==cpos.line)&&noStar a'&&noStar j&&bq k a N d a'&&bq k b N d j
 |.IJ i,N,d,g=>dO g λf' as _=>bc f' λf=>du as λc=>eL c λo m l v cpos=>bc o λx=>v.isEmpty&&ez (f="sorted")&&FD d f&&ez (m="items")&&ez (N[i]?=a5 x)&&fZ d x&&bE x&&(l.endLine==cpos.line)
 |.HU a,N,d,g=>f7 g λa' j=>As j&&bq k a N d a'
 |.KH _ _ _,_,_,_=>df
 |.fst es,N,d,g=>df
 |.KG a T,N,d,g=>df
 |.tup es,N,d,g=>qS g λh=>aA k es N d h
 |.lst es,N,d,g=>u7 g λh=>aA k es N d h
 |.EV _,N,d,g=>xI g
 |.idx a b,N,d,g=>f7 g λa' j=>cZ j&&bq k a N d a'&&bq k b N d j
 |.FX a lo w,N,d,g=>f7 g λa' j=>u9 j λz A=>bq k a N d a'&&pI k lo N d z&&pI k w N d A
 |.bi f es,N,d,g=>dO g λf' h _=>bc f' λx=>ez (x=f.name)&&simple f&&FD d x&&!h.isEmpty&&aA k es N d h
 |.Gi f es,N,d,g=>dO g λf' as _=>bc f' λx=>du as λc=>dO c λg' h _=>bc g' λy=>ez (x=f.lW)&&ez (y=f.fX)&&FD d x&&FD d y&&!h.isEmpty&&aA k es N d h
 |.Gj m a es,N,d,g=>eL g λo name l h cpos=>ez (name=m.name)&&l8 o&&(l.endLine==cpos.line)&&!h.isEmpty&&ez (h.length<20)&&bq k a N d o&&aA k es N d h
 |.call f es,N,d,g=>dO g λf' h _=>bc f' λx=>ez (x=f)&&ez (f∈k.fns)&&FD d x&&bE x&&!h.isEmpty&&aA k es N d h
 |.comp n t B src cond e,N,d,g=>Av g λelt p q s scope =>
   ez ((fi p).length=n)&&zE (fi p++hide (fi p) N) (fi p) scope d.names&&IV t (fi p++hide (fi p) N) (Ar scope d) (λx=>ez (scope.names.lookup x=a5 .cell)) (hE n) p&&pB q &&
   (match eJ d p B q with
    |some as=>aA k src N d as
    |none=>df) &&
   ez (s.length<=1)&&aA k cond (fi p++hide (fi p) N) (Ar scope d) s&&bq k e (fi p++hide (fi p) N) (Ar scope d) elt
noncomputable def aA(k:Ck):List E->List Str->IW->List pk->Bool
 |[],_,_,a=>a.isEmpty
 |e::es,N,b,a=>match a with
  |e'::a=>noStar e'&&bq k e N b e'&&aA k es N b a
  |[]=>df
noncomputable def pI(k:Ck):List E->List Str->IW->Option pk->Bool
 |[],_,_,o=>o.isNone
 |[e],N,a,o=>match o with
  |some b=>bq k e N a b
  |none=>df
 |_::_::_,_,_,_=>df
end
abbrev bP:List Str:=["len","sorted","repr","max","min","all","any","list","tuple","str","int","range","enumerate","zip","reversed","set","dict","sum","isinstance","bool"]
structure Aw(P:DW)(w:Fi)(K:PySem.W.Frag)(mg:Str->Option eH)(base:Hb)(d:Nat)(F:List U->Option (Ex (Kd×U)))(f:Str):Prop where
 ex:∃(np:Nat) (fa:hQ) (fd:O9) (ps:List Str),lq P w K mg base GV d fa fd ps (spT P w K F np)/\mg f=a5 (.ref fa)/\PySem.W.keepIn K (.ref fa)=b5/\Binds K fd ps []/\∀us k u,F us=a5 (.ok (k,u))->(k=.own\/k=.loc\/k=.any)/\us.length=np
structure Gd(ck:Ck)(Γ:Tab)(C:Ct)(d:Nat)(X:Cx):Prop where
 P:C.P=X.prog
 w:C.w=X.w
 K:C.K=X.K
 u:X.A.units+60<Eg
 calm:X.calm=b5
 room:fc d X.A
 blt:∀x∈bP,X.mg x=b6
 fns:∀f∈ck.fns,Aw X.prog X.w X.K X.mg X.base d (Γ f) f
 Hu:∀p∈ck.gl,∃val v,X.mg p.1=a5 val/\RelV v val/\∀S H,Rep C S H p.2 v
def Gd.cx(g:Gd ck Γ C d X)(N:List Str)(a:IW)(D:hQ)(s:hH)(H:Hp)(ex:List hQ):Gd ck Γ C d (Eh X N a D s H ex) :=
 ⟨g.P,g.w,g.K,g.u,g.calm,g.room,g.blt,g.fns,g.Hu⟩
def b_(h:fZ a x=b5):Fh a x:=by
 unfold fZ at h;simp only[MN,WI]at h;rcases h with(h|h)|h
 .show .inl h
 .show .inr (.inl h)
 .show .inr (.inr h)
def aG(h:bE x=b5):(x==("__debug__":Str))=df/\(x==("__classdict__":Str))=df:=by
 unfold bE at h;simpa using h
def bA(h:noStar e=b5):mu (e::es) env=(df,F' e env)::mu es env:=by
 cases e<;>first|rfl|cases h
def nG(h:cZ e=b5):ir e:=by
 intro o i;cases e<;>first|rfl|cases h
def pJ(h:pB e=b5):∀x,IF e env x=pure x:=by
 intro x;cases e<;>first|rfl|cases h
def iy(h:l8 o=b5):O0 o name env a=a:=by
 cases o with
 |Call f as ks p =>
  cases f with
  |Name x q=>cases as with
   |nil=>cases ks with
    |nil=>cases h
    |cons _ _=>rfl
   |cons _ _=>rfl
  |_=>rfl
 |_=>rfl
def bf(h:∀e∈es,noStar e=b5):(G_ pos (mu es env)).any (·.1)=df/\(G_ pos (mu es env)).all (λx=>!x.1)=b5:=by
 induction es with
 |nil=>show⟨rfl,rfl⟩
 |cons e es a =>
  rw[bA (h e (by simp))];have:=a λb c=>h b (by simp[c]);constructor
  .change(df||(G_ pos (mu es env)).any (·.1))=df;rw[this.1];rfl
  .change(!df&&(G_ pos (mu es env)).all (λx=>!x.1))=b5;rw[this.2];rfl
def cc(h:aA k es N c a=b5):∀e∈a,noStar e=b5:=by
 induction es generalizing a with
 |nil =>
  cases a with
  |nil=>intro e he;cases he
  |cons _ _=>simp[aA]at h
 |cons x es b =>
  cases a with
  |nil=>intro e he;cases he
  |cons d a =>
   simp only[aA,c4]at h;intro e he;rcases ka.mp he with rfl|he
   .show h.1.1
   .show b h.2 e he
def kK(a:∀x,fa x=b5->X.fn x=b5)(h:qQ X.N X.env.scope fa i e=b5):pj X e i:=by
 cases e with
 |Name x p =>
  simp only[qQ,c4,WI,j6,MN,B6]at h;show⟨x,p,rfl,h.1.1,?_,?_⟩
  .rcases h.1.2 with z|z
   .show .inl z
   .show .inr z
  .rcases h.2 with z|z
   .show .inl (a x z)
   .show .inr z
 |_=>cases h
theorem jr(a:∀x,fa x=b5->X.fn x=b5):∀{is:List Nat}{es:List pk},l9 X.N X.env.scope fa is es=b5->dM X es is
 |[],[],_=>.nil
 |[],_::_,h=>by cases h
 |_::_,[],h=>by cases h
 |i::is,e::es,h=>by
  simp only[l9,c4]at h;show .cons (kK a h.1) (jr a h.2)
def qT(d:X.calm=b5)(e:C.K=X.K)(a:X.N.Nodup)(b:∀x,fa x=b5->X.fn x=b5)(h:IV t X.N X.env.scope fa is c=b5):PG X c (tG C t is):=by
 cases c with
 |Name x p =>
  simp only[IV,c4,B0]at h;have⟨rfl,h⟩:=h;cases is with
  |nil=>cases h
  |cons i is=>cases is with
   |nil=>show Ah a (kK b h)
   |cons _ _=>cases h
 |Tuple es k p =>
  simp only[IV,c4,ve,WI]at h;obtain⟨⟨rfl,f⟩,g⟩:=h;show BK d e a (jr b f) g
 |_=>cases h
def kL(a N:List Str):c9 ((a++hide a N).drop a.length) N:=by
 rw[SW rfl];unfold hide;split
 .show .refl N
 .show(c9.refl N).set _ (.inl rfl)
 .show((c9.refl N).set _ (.inl rfl)).set _ (.inr rfl)
abbrev Bf.So:Bf->Bool
 |.len=>b5|.sorted=>b5|.repr=>b5|.max=>b5|.min=>b5|.all=>b5|.any=>b5|_=>df
abbrev Bf.id:Bf->String
 |.len=>"len"|.sorted=>"sorted"|.repr=>"repr"|.max=>"max"|.min=>"min"|.all=>"all"|.any=>"any"
 |.list=>"list"|.tuple=>"tuple"|.str=>"str"|.int=>"int"
def xJ:∀f:Bf,simple f=b5->IU f.name=a5 f.val/\f.name∈bP/\f.name≠"__name__"/\(f.name==("__debug__":Str))=df:=by
 intro f h;cases f<;>first|show⟨by decide +kernel,by decide +kernel,by decide +kernel,by decide +kernel⟩|(cases h;done)
def Ax:∀f:Bf,simple f=b5->(f.val=.builtin f.id\/f.val=.type f.id):=by
 intro f h;cases f<;>first|show .inl rfl|show .inr rfl|(cases h;done)
def Ay:∀f:B2,f.lW∈bP/\f.fX∈bP:=by
 intro f;cases f<;>show⟨by decide +kernel,by decide +kernel⟩
def xK:∀f:Mf,Slot "str" f.name f.id/\Wl (.builtin f.id)=pure (.type "method_descriptor"):=by
 intro f;cases f with
 |split=>show⟨PySem.F.slot_str_split,PySem.F.type_str_split⟩
 |join=>show⟨PySem.F.slot_str_join,PySem.F.type_str_join⟩
 |partition=>show⟨PySem.F.slot_str_partition,PySem.F.type_str_partition⟩
 |endswith=>show⟨PySem.F.slot_str_endswith,PySem.F.type_str_endswith⟩
section
def f9(h:FD X.env.scope x=b5):Gl X x:=by
 unfold FD at h;change X.env.kindOf x=a5 .globalImplicit;show WO h
def xM:("enumerate":Str)∈bP:=by decide +kernel
def xN:("range":Str)∈bP:=by decide +kernel
def yz(g:Gd ck Γ C d X)(h:eJ X.env.scope k n c=a5 as)(l:PA X as (EG C (a_ Γ src)))(o:∀a,as=[a]->∃e,src=[e]/\PE X a (Dy C (ev Γ e)))(m:∀e∈as,noStar e=b5):PI X k c (GL C n (a_ Γ src)):=by
 unfold eJ at h;split at h
 .cases h;have⟨e,rfl,r⟩:=o _ rfl;show Af g.K r
 .rw[rr]at h;obtain⟨⟨x,s⟩,j,h⟩:=h;split at h
  .rename_i hh;cases h;have⟨f,i,hl⟩:=hh
   dsimp only at f i hl
   subst f;have⟨p,q,rfl⟩:=gX j;have⟨b,rfl⟩:=T3.mp hl;show xy (f9 i) (g.blt _ xN) (bA (m _ (by simp))) l
  .cases h
 .rw[rr]at h;obtain⟨⟨x,s⟩,j,h⟩:=h;split at h
  .rename_i hh;cases h;have⟨f,i,hl,t⟩:=hh
   dsimp only at f i hl
   subst f;have⟨p,q,rfl⟩:=gX j;have⟨b,rfl⟩:=T3.mp hl;cases k with
   |Tuple es u ps=>show Ag g.K (f9 i) (g.blt _ xM) (bA (m _ (by simp))) l
   |_=>cases t
  .cases h
 .cases h
def yA{a:M α}{b:α->M β}{c:α->M γ}{g:γ->M δ}{st:ak}{Q:δ->ak->Prop}(w:W (a >>= λx=>b x >>= λ_=>c x >>= g) st Q):W ((a >>= λx=>b x >>= λ_=>c x) >>= g) st Q:=by
 simp only[ab]at w ⊢;show w
def bg:PT X e (En C M.fail):=λa s σ H Q I ⟨_,_,_,_,w⟩=>(aU.mp w).elim
def fD:PE X e (Dy C M.fail):=λa s σ H Q I ⟨_,_,_,_,w⟩=>(aU.mp w).elim
def PT.eqv(h:PT X e (En C m))(i:∀st Q,W a st Q->W m st Q):PT X e (En C a):=PT.weak h λσ H Q ⟨c0,b,c,d,w⟩=>⟨c0,b,c,d,i _ _ w⟩
def B8(g:Gd ck Γ C d X)(b:PA X a (EG C (a_ Γ es)))
  (h:(ez (x=f.name)&&simple f&&FD X.env.scope x&&!a.isEmpty&&aA ck es X.N X.env.scope a)=b5):PE X (.Call (.Name x p) a [] pos) (Dy C (ev Γ (.bi f es))):=by
 simp only[c4,WI,B0]at h;obtain⟨⟨⟨⟨rfl,c⟩,i⟩,n⟩,o⟩:=h;have⟨b1,j,b3,b4⟩:=xJ f c;have k:=cc o;cases a with
 |nil=>cases n
 |cons q l =>
  have st:=bA (env:=X.env) (es:=l) (k q (by simp));have m:=(bf (pos:=pos) (env:=X.env) (es:=l) λe r=>k e (by simp[r])).1;rcases Ax f c with hv|hv
  .show xr g.calm g.K g.room.gd g.u hv (f9 i) (g.blt _ j) (by rw[b1,hv]) b3 b4 b st m
  .show xu g.calm g.K g.room.gd g.u hv (f9 i) (g.blt _ j) (by rw[b1,hv]) b3 b4 b st m
def B9(g:Gd ck Γ C d X)(i:PA X a (EG C (a_ Γ es)))
  (h:(ez (x=f.lW)&&ez (y=f.fX)&&FD X.env.scope x&&FD X.env.scope y&&!a.isEmpty&&aA ck es X.N X.env.scope a)=b5):PE X (.Call (.Name x p) [.Call (.Name y p2) a [] pos2] [] pos) (Dy C (ev Γ (.Gi f es))):=by
 simp only[c4,WI,B0]at h;obtain⟨⟨⟨⟨⟨rfl,rfl⟩,j⟩,k⟩,l⟩,m⟩:=h;have⟨b1,n⟩:=Ay f;have b:=cc m;cases a with
 |nil=>cases l
 |cons o c =>
  have st:=bA (env:=X.env) (es:=c) (b o (by simp));have q:=(bf (pos:=pos2) (env:=X.env) (es:=c) λe r=>b e (by simp[r])).1;show xx g.calm g.K (f9 j) (g.blt _ b1) (f9 k) (g.blt _ n) i st q
def B_(g:Gd ck Γ C d X)(k:PE X o (Dy C (ev Γ a)))(l:PA X b (EG C (a_ Γ es)))
  (h:(ez (name=m.name)&&l8 o&&(c.endLine==cpos.line)&&!b.isEmpty&&ez (b.length<20)&&bq ck a X.N X.env.scope o&&aA ck es X.N X.env.scope b)=b5):PE X (.Call (.Attribute o name c) b [] cpos) (Dy C (ev Γ (.Gj m a es))):=by
 simp only[c4,WI,B0]at h;obtain⟨⟨⟨⟨⟨⟨rfl,n⟩,p⟩,q⟩,r⟩,w⟩,s⟩:=h;have i:=cc s;have⟨s1,s2⟩:=xK m;cases b with
 |nil=>cases q
 |cons j f =>
  have st:=bA (env:=X.env) (es:=f) (i j (by simp));have t:=(bf (pos:=cpos) (env:=X.env) (es:=f) λe u=>i e (by simp[u])).1;have v:=(bf (pos:=cpos) (env:=X.env) (es:=j::f) i).2;show xv g.K s1 s2 k l (iy n) ?_ p st t;rw[v];have:(j::f).length+([]:List Lx).length+(if ([]:List Lx).isEmpty=b5 then 0 else 1)<30:=by simp at r ⊢;lia
  simp only[WM this];rfl
def u_(g:Gd ck Γ C d X)(i:PA X a (EG C (a_ Γ es)))
  (h:(ez (x=f)&&ez (f∈ck.fns)&&FD X.env.scope x&&bE x&&!a.isEmpty&&aA ck es X.N X.env.scope a)=b5):PE X (.Call (.Name x p) a [] pos) (Dy C (ev Γ (.call f es))):=by
 simp only[c4,WI,B0]at h;obtain⟨⟨⟨⟨⟨rfl,j⟩,k⟩,l⟩,m⟩,n⟩:=h;have b:=cc n;have⟨z,fa,A,ps,o,q,r,s,t⟩:=(g.fns _ j).ex;cases a with
 |nil=>cases m
 |cons u c =>
  have st:=bA (env:=X.env) (es:=c) (b u (by simp));have v:=(bf (pos:=pos) (env:=X.env) (es:=c) λe y=>b e (by simp[y])).1;show uM g.P g.w g.K rfl t o g.room (f9 k) q r s (aG l).1 i st v
def dv(h:(b&&aA k es N a c)=b5):aA k es N a c=b5:=(Fg.mp h).2
mutual
theorem bu:∀(e:E) (X:Cx) (k:pk),Gd ck Γ C d X->bq ck e X.N X.env.scope k=b5->PE X k (Dy C (ev Γ e))
 |.var i,X,k,g,h=>by
  have⟨x,v,rfl,p⟩:=ao h;clear h;have h:=p;simp only[c4,WI]at h;have⟨G,J⟩:=aG h.2;show lU h.1.1 (b_ h.1.2) G J
 |.cst u,X,k,g,h=>by
  have⟨c,q0,v,rfl,p⟩:=pF h;cases c with
  |int j=>have:=eZ p;subst this;show ix ot λ_ _=>rfl
  |str y=>have:=eZ p;subst this;show ix lh λ_ _=>rfl
  |bool y=>have:=eZ p;subst this;show ix A3 λ_ _=>rfl
  |none=>have:=eZ p;subst this;show ix yW λ_ _=>rfl
  |_=>cases p
 |.KD x u,X,k,g,h=>absurd (show df=b5 from h) mh
 |.bin op a b,X,k,g,h=>by
  have⟨a',Gu,b',v,rfl,p⟩:=pD h;clear h;have h:=p;simp only[c4,WI]at h;obtain⟨⟨rfl,L⟩,Y⟩:=h;show xc g.K (bu a X _ g L) (bu b X _ g Y)
 |.cmp op a b,X,k,g,h=>by
  have⟨a',Gu,b',v,rfl,q⟩:=fC h;have h:=q;simp only[c4,WI,B0]at h;obtain⟨⟨⟨rfl,h0⟩,L⟩,Y⟩:=h;show xf g.P g.w g.K g.u (bu a X _ g L) (bu b X _ g Y) h0
 |.Gh o1 o2 a b c,X,k,g,h=>absurd (show df=b5 from h) mh
 |.and es,X,k,g,h=>by
  have⟨Du,v,rfl,p⟩:=gz h;clear h;have h:=p;show vb es X _ g h
 |.or es,X,k,g,h=>fD
 |.not a,X,k,g,h=>by
  have⟨a',v,rfl,p⟩:=kI h;clear h;have h:=p;show xh (bu a X _ g h)
 |.neg a,X,k,g,h=>absurd (show df=b5 from h) mh
 |.bad,X,k,g,h=>fD
 |.HU a,X,k,g,h=>by
  have⟨a',b',v,rfl,q⟩:=bT h;rw[c4]at q;have⟨kx,p1,p3,p2,rfl⟩:=sG q.1;show xq g.K (bu a X _ g q.2)
 |.inD neg a i,X,k,g,h=>fD
 |.II i,X,k,g,h=>by
  have⟨x,v,rfl,p⟩:=ao h;clear h;have h:=p;simp only[c4,WI]at h;have⟨G,J⟩:=aG h.2;show xC h.1.1 (b_ h.1.2) G J
 |.Fp i a b,X,k,g,h=>by
  have⟨o,m,O,as,cpos,rfl,q⟩:=bF h;have⟨x,px,rfl,B⟩:=ao q;have⟨a',b',rfl,z3⟩:=pE B;clear h q;have B:=z3;simp only[c4,WI]at B;obtain⟨⟨⟨⟨⟨⟨⟨⟨rfl,L⟩,Y⟩,G⟩,J⟩,A⟩,h6⟩,h7⟩,h8⟩:=B;have⟨q1,q2⟩:=aG G;have sa:=bf (pos:=cpos) (env:=X.env) (es:=[a',b']) λe he=>by
   rcases ka.mp he with rfl|he
   .show A
   .simp at he;subst he;show h6
  show uZ g.u L (b_ Y) q1 q2 (bu a X _ g h7) (bu b X _ g h8) ⟨rfl,by rw[sa.2];rfl,J,by rw[bA A,bA h6];rfl⟩
 |.IJ i,X,k,g,h=>by
  obtain⟨f',as,_,rfl,q⟩:=ba h;obtain⟨f,_,rfl,B⟩:=ao q;have⟨c,rfl,z3⟩:=aX B;have⟨o,m,O,bs,cpos,rfl,z4⟩:=bF z3;have⟨x,px,rfl,z5⟩:=ao z4;simp only[c4,WI,F3]at z5;obtain⟨⟨⟨⟨⟨⟨⟨rfl,rfl⟩,L⟩,rfl⟩,G⟩,J⟩,A⟩,h6⟩:=z5;have⟨q1,q2⟩:=aG A;show xG g.calm g.K (f9 L) (g.blt _ (by decide +kernel)) G (b_ J) q1 q2 h6
 |.KH ln a b,X,k,g,h=>fD
 |.fst es,X,k,g,h=>fD
 |.KG a T,X,k,g,h=>fD
 |.ite c a b,X,k,g,h=>absurd (show df=b5 from h) mh
 |.tup es,X,k,g,h=>by
  have⟨l,q0,v,rfl,p⟩:=jq h;clear h;have h:=p;show xl (iq es X _ g h)
 |.lst es,X,k,g,h=>by
  have⟨l,v,rfl,p⟩:=pG h;clear h;have h:=p;show xm (iq es X _ g h)
 |.EV r,X,k,g,h=>by
  have⟨v,rfl⟩:=kJ h;show uL g.P g.w r
 |.idx a b,X,k,g,h=>by
  have⟨a',b',v,rfl,p⟩:=bT h;clear h;have h:=p;simp only[c4]at h;show xn g.K g.u (nG h.1.1) (bu a X _ g h.1.2) (bu b X _ g h.2)
 |.FX a lo hi,X,k,g,h=>by
  have⟨a',b',v,rfl,q⟩:=bT h;have⟨OJ,EJ,p1,rfl,p⟩:=pH q;clear h q;simp only[c4]at p;show xp g.K (bu a X _ g p.1.1) (Ca lo X _ g p.1.2) (Ca hi X _ g p.2)
 |.bi f es,X,k,g,h=>by
  have⟨f',as,v,rfl,q⟩:=ba h;have⟨x,p1,rfl,B⟩:=ao q;have h:=B;show B8 g (iq es X _ g (dv h)) h
 |.Gi f es,X,k,g,h=>by
  have⟨f',as,v,rfl,q⟩:=ba h;have⟨x,p1,rfl,B⟩:=ao q;have⟨c,rfl,z3⟩:=aX B;have⟨g',as',p2,rfl,z4⟩:=ba z3;have⟨y,p3,rfl,z5⟩:=ao z4;have h:=z5;show B9 g (iq es X _ g (dv h)) h
 |.Gj m a es,X,k,g,h=>by
  have⟨o,name,O,as,cpos,rfl,q⟩:=bF h;have h:=q;have h':=h;simp only[c4]at h';show B_ g (bu a X _ g h'.1.2) (iq es X _ g (dv h)) h
 |.call f es,X,k,g,h=>by
  have⟨f',as,v,rfl,q⟩:=ba h;have⟨x,p1,rfl,B⟩:=ao q;have h:=B;show u_ g (iq es X _ g (dv h)) h
 |.comp n t ik src cond e,X,k,g,h=>by
  have⟨elt,tg,ac,am,scope,v,rfl,p⟩:=gA h;clear h;have h:=p;simp only[c4,WI]at h;obtain⟨⟨⟨⟨⟨⟨⟨L,Y⟩,G⟩,J⟩,A⟩,h6⟩,h7⟩,h8⟩:=h;subst L;have S:=t_ (X:=X) rfl (kL _ _) Y;split at A
  .rename_i as an;have DC:=cc A;have hI:PI X tg ac (GL C ik (a_ Γ src)):=yz g an (iq src X _ g A) (λa e=>by
    subst e;cases src with
    |nil=>simp[aA]at A
    |cons e1 D_ =>
     cases D_ with
     |nil =>
      simp only[aA,c4]at A;show⟨e1,rfl,bu e1 X _ g A.1.2⟩
     |cons _ _=>simp[aA]at A) DC
   show uU S g.calm hI (λD s H ex=>qT (fa:=λx=>ez (scope.names.lookup x=a5 .cell)) g.calm g.K S.nd (λ_ z=>z) G)
    (λD s H ex=>by
     cases am with
     |nil =>
      cases cond with
      |nil=>show λal s σ H Q I ⟨c0,e1,e2,ok,w⟩=>qr al s σ H Q I (by subst e1 e2;rw[show aF Γ []=pure b5 from rfl,af]at w;show w c0 rfl rfl ok (Nx.refl c0))
      |cons _ _=>simp[aA]at h7
     |cons c1 cs =>
      cases cs with
      |nil =>
       cases cond with
       |nil=>simp[aA]at h7
       |cons e1 D_ =>
        cases D_ with
        |nil =>
         simp only[aA,c4]at h7;show qt (j7 e1 (Eh X _ scope D s H ex) c1 (g.cx _ _ _ _ _ _) h7.1.2)
        |cons _ _=>simp[aA]at h7
      |cons _ _=>simp at h6)
    (λD s H ex=>bu e (Eh X _ scope D s H ex) elt (g.cx _ _ _ _ _ _) h8) (pJ J)
  .cases A
theorem iq:∀(es:List E) (X:Cx) (a:List pk),Gd ck Γ C d X->aA ck es X.N X.env.scope a=b5->PA X a (EG C (a_ Γ es))
 |[],X,a,g,h=>by
  cases a with
  |nil=>show xk
  |cons _ _=>simp[aA]at h
 |e::es,X,a,g,h=>by
  cases a with
  |nil=>simp[aA]at h
  |cons b a =>
   simp only[aA,c4]at h;show uJ (bu e X b g h.1.2) (iq es X a g h.2) (bA h.1.1)
theorem Ca:∀(es:List E) (X:Cx) (o:Option pk),Gd ck Γ C d X->pI ck es X.N X.env.scope o=b5->PO X o (tO C (HW Γ es))
 |[],X,o,g,h=>by
  cases o with
  |none=>show sv
  |some _=>simp[pI]at h
 |[e],X,o,g,h=>by
  cases o with
  |none=>simp[pI]at h
  |some a=>simp only[pI]at h;show sy (bu e X a g h)
 |_::_::_,X,o,g,h=>by simp[pI]at h
theorem vb:∀(es:List E) (X:Cx) (a:List pk),Gd ck Γ C d X->aA ck es X.N X.env.scope a=b5->∀{pos},PE X (.BoolOp .And a pos) (Dy C (uC Γ es))
 |[],X,a,g,h,pos=>fD
 |[e],X,a,g,h,pos=>by
  cases a with
  |nil=>simp[aA]at h
  |cons b a =>
   cases a with
   |nil=>simp only[aA,c4]at h;show y4 (bu e X b g h.1.2)
   |cons _ _=>simp[aA]at h
 |e::c::es,X,a,g,h,pos=>by
  cases a with
  |nil=>simp[aA]at h
  |cons b a =>
   have h':noStar b=b5/\bq ck e X.N X.env.scope b=b5/\aA ck (c::es) X.N X.env.scope a=b5:=by
    rw[aA]at h;simp only[c4]at h;show⟨h.1.1,h.1.2,h.2⟩
   cases a with
   |nil=>have:=h'.2.2;simp[aA]at this
   |cons f i=>show snd_and (bu e X b g h'.2.1) (vb (c::es) X _ g h'.2.2)
theorem j7:∀(e:E) (X:Cx) (j:pk),Gd ck Γ C d X->bq ck e X.N X.env.scope j=b5->PT X j (En C (DO Γ e))
 |.and es,X,j,g,h=>by
  have⟨B,l,rfl,k⟩:=gz h;clear h;have h:=k;show(qU es X _ g h).pt
 |.or es,X,j,g,h=>by
  have⟨B,l,rfl,k⟩:=gz h;clear h;have h:=k;show(vc es X _ g h).pt
 |.not a,X,j,g,h=>by
  have⟨a',l,rfl,k⟩:=kI h;clear h;have h:=k;show xi (j7 a X _ g h)
 |.cmp op a b,X,j,g,h=>by
  have⟨a',D,G,l,rfl,o⟩:=fC h;have h:=o;simp only[c4,WI,B0]at h;obtain⟨⟨⟨rfl,q⟩,s⟩,v⟩:=h;show xg g.P g.w g.K g.u (bu a X _ g s) (bu b X _ g v) q
 |.Gh o1 o2 a b c,X,j,g,h=>absurd (show df=b5 from h) mh
 |.var i,X,j,g,h=>by
  have⟨x,l,rfl,k⟩:=ao h;simp only[c4,WI]at k;have⟨y,z⟩:=aG k.2;show lT (lU k.1.1 (b_ k.1.2) y z) g.K λ_=>rfl
 |.idx a b,X,j,g,h=>bg
 |.bi f es,X,j,g,h=>by
  have⟨f',as,l,rfl,o⟩:=ba h;have⟨x,A,rfl,p⟩:=ao o;have h:=p;show PT.eqv (lT (B8 g (iq es X _ g (dv h)) h) g.K λ_=>rfl) λst Q w=>yA w
 |.Gi f es,X,j,g,h=>bg
 |.Gj m a es,X,j,g,h=>bg
 |.call f es,X,j,g,h=>by
  have⟨f',as,l,rfl,o⟩:=ba h;have⟨x,A,rfl,p⟩:=ao o;have h:=p;show PT.eqv (lT (u_ g (iq es X _ g (dv h)) h) g.K λ_=>rfl) λst Q w=>yA w
 |.cst u,X,j,g,h=>bg
 |.fst es,X,j,g,h=>bg
 |.KD x u,X,j,g,h=>bg
 |.HU a,X,j,g,h=>bg
 |.neg a,X,j,g,h=>bg
 |.KG a T,X,j,g,h=>bg
 |.bad,X,j,g,h=>bg
 |.inD neg a i,X,j,g,h=>by
  have⟨a',D,G,l,rfl,o⟩:=fC h;have⟨x,A,rfl,p⟩:=ao o;have h:=p;simp only[c4,WI,B0]at h;obtain⟨⟨⟨⟨⟨rfl,q⟩,s⟩,v⟩,y⟩,z⟩:=h;have⟨H,I⟩:=aG y;show xD g.u s (b_ v) H I (bu a X _ g z) q
 |.II i,X,j,g,h=>bg
 |.KH J a b,X,j,g,h=>bg
 |.IJ i,X,j,g,h=>bg
 |.Fp i a b,X,j,g,h=>bg
 |.bin op a b,X,j,g,h=>bg
 |.ite c a b,X,j,g,h=>bg
 |.tup es,X,j,g,h=>bg
 |.lst es,X,j,g,h=>bg
 |.EV r,X,j,g,h=>bg
 |.FX a lo L,X,j,g,h=>bg
 |.comp n t O src cond e,X,j,g,h=>bg
theorem qU:∀(es:List E) (X:Cx) (a:List pk),Gd ck Γ C d X->aA ck es X.N X.env.scope a=b5->∀{pos},PW X (.BoolOp .And a pos) (En C (aF Γ es))
 |[],X,a,g,h,pos=>by
  cases a with
  |nil =>
   rintro j c s σ H Q I ⟨c0,rfl,rfl,i,w⟩;rw[show aF Γ []=pure b5 from rfl,af]at w;show WE ⟨c0.H,I,w c0 rfl rfl i (Nx.refl c0)⟩
  |cons _ _=>simp[aA]at h
 |[e],X,a,g,h,pos=>by
  cases a with
  |nil=>simp[aA]at h
  |cons b a =>
   cases a with
   |nil=>simp only[aA,c4]at h;show v9 (j7 e X b g h.1.2)
   |cons _ _=>simp[aA]at h
 |e::f::es,X,a,g,h,pos=>by
  cases a with
  |nil=>simp[aA]at h
  |cons b a =>
   have h':noStar b=b5/\bq ck e X.N X.env.scope b=b5/\aA ck (f::es) X.N X.env.scope a=b5:=by
    rw[aA]at h;simp only[c4]at h;show⟨h.1.1,h.1.2,h.2⟩
   cases a with
   |nil=>have:=h'.2.2;simp[aA]at this
   |cons k l=>show xj (j7 e X b g h'.2.1) (qU (f::es) X _ g h'.2.2)
theorem vc:∀(es:List E) (X:Cx) (a:List pk),Gd ck Γ C d X->aA ck es X.N X.env.scope a=b5->∀{pos},PW X (.BoolOp .Or a pos) (En C (eD Γ es))
 |[],X,a,g,h,pos=>by
  cases a with
  |nil =>
   rintro j c s σ H Q I ⟨c0,rfl,rfl,i,w⟩;rw[show eD Γ []=pure df from rfl,af]at w;show isTrue_or_nil ⟨c0.H,I,w c0 rfl rfl i (Nx.refl c0)⟩
  |cons _ _=>simp[aA]at h
 |[e],X,a,g,h,pos=>by
  cases a with
  |nil=>simp[aA]at h
  |cons b a =>
   cases a with
   |nil=>simp only[aA,c4]at h;show yX (j7 e X b g h.1.2)
   |cons _ _=>simp[aA]at h
 |e::f::es,X,a,g,h,pos=>by
  cases a with
  |nil=>simp[aA]at h
  |cons b a =>
   have h':noStar b=b5/\bq ck e X.N X.env.scope b=b5/\aA ck (f::es) X.N X.env.scope a=b5:=by
    rw[aA]at h;simp only[c4]at h;show⟨h.1.1,h.1.2,h.2⟩
   cases a with
   |nil=>have:=h'.2.2;simp[aA]at this
   |cons k l=>show zY (j7 e X b g h'.2.1) (vc (f::es) X _ g h'.2.2)
end
end
abbrev J7(b:IW)(x:Str)(a:Nat):pk->Bool
 |.ListComp elt gens s pos=>ez (b.names.lookup x=a5 .local)&&(a==pos.line)&&!(s.names.any λ(n,k)=>n==x&&(k==.local||k==.cell))
 |_=>df
abbrev js(s:HK)(k:pk->Bool):Bool:=match s with|.Expr e _=>k e|_=>df
def cS(h:js s k=b5):∃e p,s=.Expr e p/\k e=b5:=by
 unfold js at h;split at h
 .show⟨_,_,rfl,h⟩
 .cases h
abbrev gY(s:HK)(k:pk->pk->Bool):Bool:=match s with|.Assign ts v _=>du ts λt=>k t v|_=>df
def cf(h:gY s k=b5):∃t v p,s=.Assign [t] v p/\k t v=b5:=by
 unfold gY at h;split at h
 .have⟨t,rfl,a⟩:=aX h;show⟨_,_,_,rfl,h⟩
 .cases h
abbrev Az(e:pk)(k:Str->Pos->Bool):Bool:=match e with|.Name x p=>k x p|_=>df
def sI(h:Az e k=b5):∃x p,e=.Name x p/\k x p=b5:=by
 unfold Az at h;split at h
 .show⟨_,_,rfl,h⟩
 .cases h
abbrev vd(s:HK)(k:pk->Vh->pk->Bool):Bool:=match s with|.AugAssign t op b _=>k t op b|_=>df
def pK(h:vd s k=b5):∃t op b p,s=.AugAssign t op b p/\k t op b=b5:=by
 unfold vd at h;split at h
 .show⟨_,_,_,_,rfl,h⟩
 .cases h
abbrev qV(s:HK)(k:Option pk->Bool):Bool:=match s with|.Return v _=>k v|_=>df
def jt(h:qV s k=b5):∃v p,s=.Return v p/\k v=b5:=by
 unfold qV at h;split at h
 .show⟨_,_,rfl,h⟩
 .cases h
abbrev Cb(v:Option pk)(k:pk->Bool):Bool:=match v with|some e=>k e|none=>df
def sJ(h:Cb v k=b5):∃e,v=a5 e/\k e=b5:=by
 cases v with
 |none=>cases h
 |some e=>show⟨e,rfl,h⟩
abbrev qW(s:HK)(k:pk->List HK->List HK->Bool):Bool:=match s with|.If c a b _=>k c a b|_=>df
def ju(h:qW s k=b5):∃c a b p,s=.If c a b p/\k c a b=b5:=by
 unfold qW at h;split at h
 .show⟨_,_,_,_,rfl,h⟩
 .cases h
abbrev vf(s:HK)(k:pk->pk->List HK->Bool):Bool:=match s with|.For t i b o _=>o.isEmpty&&k t i b|_=>df
def pL(h:vf s k=b5):∃t i b p,s=.For t i b [] p/\k t i b=b5:=by
 unfold vf at h;split at h
 .rw[c4,F3]at h;have⟨rfl,h⟩:=h;show⟨_,_,_,_,rfl,h⟩
 .cases h
abbrev AA(s:HK)(k:pk->List HK->Bool):Bool:=match s with|.While c b o _=>o.isEmpty&&k c b|_=>df
def sL(h:AA s k=b5):∃c b p,s=.While c b [] p/\k c b=b5:=by
 unfold AA at h;split at h
 .rw[c4,F3]at h;have⟨rfl,h⟩:=h;show⟨_,_,_,rfl,h⟩
 .cases h
abbrev nI(n:Nat)(s:HK):Bool:=match s with|.Break _=>n==0|.Continue _=>n==1|.Pass _=>n==2|_=>df
def fE(h:nI n s=b5):(n=0/\∃p,s=.Break p)\/(n=1/\∃p,s=.Continue p)\/(n=2/\∃p,s=.Pass p):=by
 unfold nI at h;split at h
 .show .inl ⟨by simpa using h,_,rfl⟩
 .show .inr (.inl ⟨by simpa using h,_,rfl⟩)
 .show .inr (.inr ⟨by simpa using h,_,rfl⟩)
 .cases h
abbrev vg:pk->Bool
 |.Constant (.str _) _ _=>b5
 |_=>df
def gC(h:vg e=b5):∃t q p,e=.Constant (.str t) q p:=by
 unfold vg at h;split at h
 .show⟨_,_,_,rfl⟩
 .cases h
abbrev AB:pk->Bool
 |.List l _=>du l vg
 |_=>df
def sM(h:AB e=b5):∃t q p b,e=.List [.Constant (.str t) q p] b:=by
 unfold AB at h;split at h
 .have⟨a,rfl,z⟩:=aX h;have⟨t,q,p,rfl⟩:=gC z;show⟨_,_,_,_,rfl⟩
 .cases h
abbrev AD(e:pk)(x:Str):Bool:=match e with
 |.Subscript v (.Constant (.int 0) _ _) _=>isNm v x
 |_=>df
def sN(h:AD e x=b5):∃p q a p2,e=.Subscript (.Name x p) (.Constant (.int 0) q a) p2:=by
 unfold AD at h;split at h
 .have⟨p,rfl⟩:=gB h;show⟨_,_,_,_,rfl⟩
 .cases h
abbrev xO(s:HK)(d e:pk->Bool):Bool:=js s λc=>eL c λo m b as cpos=>du as λa=>ez (m="append")&&(b.endLine==cpos.line)&&d o&&e a
def gD(h:xO s e f=b5):∃o a b cpos p,s=.Expr (.Call (.Attribute o "append" b) [a] [] cpos) p/\(b.endLine==cpos.line)=b5/\e o=b5/\f a=b5:=by
 have⟨c,p,rfl,g⟩:=cS h;have⟨o,m,b,as,cpos,rfl,i⟩:=bF g;have⟨a,rfl,d⟩:=aX i;simp only[c4,WI]at d;obtain⟨⟨⟨rfl,j⟩,k⟩,l⟩:=d;show⟨o,a,b,cpos,p,rfl,j,k,l⟩
abbrev isIf(s:HK)(k:pk->Bool):Bool:=qW s λc a b=>b.isEmpty&&k c
abbrev M'(k:Ck)(f:Str)(es:List E)(N:List Str)(a:IW)(v:pk):Bool:=B7 v f λas=>ez (f∈k.fns)&&FD a f&&bE f&&!as.isEmpty&&aA k es N a as
abbrev OK(k:Ck)(i:Nat)(f:Str)(es:List E)(c:E)(N:List Str)(a:IW)(s1 s2 s3 s4:HK):Bool:=gY s1 λt v=>bc t λy=>isIf s2 (λb=>bq k c N a b)&&M' k f es N a v&&xO s3 (λo=>isNm o y) AB&&xO s4 (λo=>AD o y) vg&&ez (N[i]?=a5 y)&&j6 a y&&fZ a y&&bE y
abbrev qX:S->Option (Nat×Str×List E×E)
 |.Gk i f es c=>a5 (i,f,es,c)
 |_=>b6
def pM(h:qX s=a5 q):s=.Gk q.1 q.2.1 q.2.2.1 q.2.2.2:=by
 unfold qX at h;split at h
 .cases h;rfl
 .cases h
abbrev four(ss:List HK)(k:HK->HK->HK->HK->List HK->Bool):Bool:=match ss with
 |a::b::c::d::r=>k a b c d r
 |_=>df
def sO(h:four ss k=b5):∃a b c d r,ss=a::b::c::d::r/\k a b c d r=b5:=by
 unfold four at h;split at h
 .show⟨_,_,_,_,_,rfl,h⟩
 .cases h
mutual
noncomputable def AE(k:Ck):S->List Str->IW->HK->Bool
 |.set i e,N,d,s=>gY s λt v=>Az t λx p=>ez (N[i]?=a5 x)&&j6 d x&&ez (d.kind=.function)&&bq k e N d v&&(cM v||J7 d x p.line v||(match v with|.ListComp _ _ _ _=>b5|_=>df))&&(match e with|.comp _ _ _ _ _ _=>b5|_=>cM v)
 |.G4 is e,N,d,s=>gY s λt v=>qS t λ_=>IV b5 N d (λ_=>b5) is t&&cM v&&Aq v&&bq k e N d v
 |.put i a b,N,d,s=>gY s λt j=>f7 t λo a'=>bc o λx=>ez (N[i]?=a5 x)&&fZ d x&&bE x&&cM j&&cZ a'&&bq k a N d a'&&bq k b N d j
 |.app i e,N,d,s=>js s λc=>eL c λo m g as cpos=>bc o λx=>du as λa=>ez (m="append")&&ez (N[i]?=a5 x)&&fZ d x&&bE x&&(g.endLine==cpos.line)&&noStar a&&bq k e N d a
 |.ext i e,N,d,s=>js s λc=>eL c λo m g as cpos=>bc o λx=>du as λa=>ez (m="extend")&&ez (N[i]?=a5 x)&&fZ d x&&bE x&&(g.endLine==cpos.line)&&noStar a&&bq k e N d a
 |.bad,_,_,_=>b5
 |.newD i,N,d,s=>gY s λt v=>bc t λx=>xI v&&ez (N[i]?=a5 x)&&j6 d x
 |.putD i a b,N,d,s=>gY s λt j=>f7 t λo a'=>bc o λx=>ez (N[i]?=a5 x)&&fZ d x&&bE x&&cM j&&cZ a'&&bq k a N d a'&&bq k b N d j
 |.E3 i a e,N,d,s=>js s λc=>eL c λo m g as cpos=>f7 o λu a'=>bc u λx=>du as λb=>ez (m="append")&&ez (N[i]?=a5 x)&&fZ d x&&bE x&&cZ a'&&(g.endLine==cpos.line)&&noStar b&&bq k a N d a'&&bq k e N d b
 |.aug sub i a e,N,d,s=>vd s λt op b=>f7 t λo a'=>bc o λx=>ez (op=if sub=b5 then .Sub else .Add)&&ez (N[i]?=a5 x)&&fZ d x&&bE x&&cZ a'&&bq k a N d a'&&bq k e N d b
 |.KI _,_,_,_=>df
 |.exp e,N,d,s=>js s λl=>cM l&&bq k e N d l
 |.ret e,N,d,s=>qV s λv=>Cb v λl=>bq k e N d l
 |.G5,N,d,s=>qV s λv=>v.isNone
 |.ite c a b,N,d,s=>qW s λn a' j=>bq k c N d n&&cF k a N d a'&&cF k b N d j
 |.DJ t is w src body,N,d,s=>vf s λr h q=>IV t N d (λ_=>b5) is r&&pB h&&(match eJ d r w h with
    |some as=>aA k src N d as
    |none=>df)&&cF k body N d q
 |.HV c body,N,d,s=>AA s λn q=>bq k c N d n&&cF k body N d q
 |.brk,_,_,s=>nI 0 s
 |.cnt,_,_,s=>nI 1 s
 |.Gk _ _ _ _,_,_,_=>df
 |.GK f es,N,d,s=>xO s (λo=>M' k f es N d o) vg
 |.KJ,_,_,s=>nI 2 s
noncomputable def cF(k:Ck):List S->List Str->IW->List HK->Bool
 |[],_,_,a=>a.isEmpty
 |s::ss,N,b,a=>match qX s with
  |some q=>four a λs1 s2 s3 s4 r=>OK k q.1 q.2.1 q.2.2.1 q.2.2.2 N b s1 s2 s3 s4&&cF k ss N b r
  |none=>match a with
   |s'::a=>AE k s N b s'&&cF k ss N b a
   |[]=>df
end
section
variable{ck:Ck}{Γ:Tab}{C:Ct}{d:Nat}{X:Cx}
def mf(h:j6 a x=b5):Loc a x:=by
 unfold j6 at h;simp only[MN,WI]at h;show h
def eM(h:cM v=b5):LR v t a env=pure df:=by
 cases v<;>first|rfl|cases h
def mj(h:cM v=b5):M1 [t] v a env=pure df:=by
 rw[M1];show eM h
def xP(h:cZ i=b5):∀a b new,Ww i a b new=(do Js [new,a,b] (Pa a b new);S7 [new,a,b] [];pure .next):=by
 intro a b new;cases i<;>first|rfl|cases h
def qY(h:cZ i=b5):∀v,Oa (.Subscript o i p) env v=(do
   let a <-Js [v] (F' o env)
   let b <-Js [v,a] (F' i env)
   TU p
   Js [v,a,b] (Pa a b v)
   S7 [v,a,b] []):=by
 intro v;cases i<;>first|rfl|cases h
structure Gs(ck:Ck)(Γ:Tab)(C:Ct)(d:Nat)(X:Cx):Prop where
 gd:Gd ck Γ C d X
 nd:X.N.Nodup
 fn:∀x,X.fn x=b5
 po:Tv (ke X.prog X.w) X.A X.env X.xe
 kd:X.env.scope.kind=.function
def qZ(g:Gd ck Γ C d X)(h:(match eJ X.env.scope i j b with|some as=>aA ck src X.N X.env.scope as|none=>df)=b5):PI X i b (GL C j (a_ Γ src)):=by
 split at h
 .rename_i as c;show yz g c (iq src X _ g h) (λa e=>by
   subst e;cases src with
   |nil=>simp[aA]at h
   |cons f k =>
    cases k with
    |nil =>
     simp only[aA,c4]at h;show⟨f,rfl,bu f X _ g h.1.2⟩
    |cons _ _=>simp[aA]at h) (cc h)
 .cases h
def jv{pos p a:Pos}(hk:X.env.scope.kind=.function):LR (.ListComp elt gens s pos) (a5 (.Name x p)) a.line X.env=pure (J7 X.env.scope x p.line (.ListComp elt gens s pos)):=by
 have b:X.env.blockKind=.function:=by
  unfold Env.blockKind;rw[hk];rfl
 change(pure (X.env.blockKind==.function&&X.env.kindOf x==a5 .local&&p.line==pos.line&&!(s.names.any λ(n,k)=>n==x&&(k==.local||k==.cell))):Sem Bool)=_;rw[b];unfold J7;congr 1
 have:(X.env.kindOf x==a5 NameKind.local)=ez (X.env.scope.names.lookup x=a5 .local):=by
  unfold Env.kindOf;rw[FW];simp
 rw[this];rfl
def AF{src cond:List E}(G:Gs ck Γ C d X)(m:X.N[i]?=a5 x)(A:j6 X.env.scope x=b5)
  (h:bq ck (.comp n t o src cond e) X.N X.env.scope (.ListComp elt [⟨q,a,b,0⟩] scope pos)=b5) (ns:Nat->Bool) (u:∀j,ns j=b5->j≠i) :
  L2.PS X (.Assign [.Name x p] (.ListComp elt [⟨q,a,b,0⟩] scope pos) FG) (D6 C ns (ev Γ (.comp n t o src cond e) >>= λr=>d5 i r >>= λ_=>pure .nx)):=by
 have g:=G.gd;have v:=bu (.comp n t o src cond e) X _ g h;cases k:J7 X.env.scope x p.line (.ListComp elt [⟨q,a,b,0⟩] scope pos) with
 |false=>show yy u G.nd m (mf A) (.inl (G.fn x)) v (by rw[jv G.kd,k])
 |true =>
  have hl:X.env.scope.names.lookup x=a5 .local:=by
   simp only[J7,c4,WI]at k;show k.1.1
  have⟨Rq,Sr,OL,Rr,Na,p',B,y⟩:=gA h;cases B;clear h v;simp only[c4,WI]at y;obtain⟨⟨⟨⟨⟨⟨⟨J,L⟩,O⟩,T⟩,Y⟩,h6⟩,c⟩,h8⟩:=y;subst J;have S:=t_ (X:=X) rfl (kL _ _) L;show Ak u S g.calm G.nd m hl (qZ g Y) (λD s H ex=>qT (fa:=λx=>ez (scope.names.lookup x=a5 .cell)) g.calm g.K S.nd (λ_ z=>z) O)
   (λD s H ex=>by
    cases b with
    |nil =>
     cases cond with
     |nil=>show λf s σ H Q I ⟨c0,l,e2,ok,w⟩=>qr f s σ H Q I (by subst l e2;rw[show aF Γ []=pure b5 from rfl,af]at w;show w c0 rfl rfl ok (Nx.refl c0))
     |cons _ _=>simp[aA]at c
    |cons c1 cs =>
     cases cs with
     |nil =>
      cases cond with
      |nil=>simp[aA]at c
      |cons l D_ =>
       cases D_ with
       |nil =>
        simp only[aA,c4]at c;show qt (j7 l (Eh X _ scope D s H ex) c1 (g.cx _ _ _ _ _ _) c.1.2)
       |cons _ _=>simp[aA]at c
     |cons _ _=>simp at h6)
   (λD s H ex=>bu e (Eh X _ scope D s H ex) elt (g.cx _ _ _ _ _ _) h8) (by rw[jv G.kd,k]) (pJ T)
def yB(G:Gs ck Γ C d X)(h:M' ck f es X.N X.env.scope v=b5):PE X v (tB X C (a_ Γ es) (Γ f))/\∃p a as j,v=.Call (.Name f p) (a::as) [] j:=by
 have⟨as,p2,k,rfl,b⟩:=sH h;simp only[c4,WI,B0]at b;obtain⟨⟨⟨⟨l,m⟩,n⟩,o⟩,c⟩:=b;have g:=cc c;have⟨A,fa,B,ps,q,r,s,t,u⟩:=(G.gd.fns _ l).ex;cases as with
 |nil=>cases o
 |cons x i =>
  show⟨?_,_,_,_,_,rfl⟩;have st:=bA (env:=X.env) (es:=i) (g x (by simp));have y:=(bf (pos:=k) (env:=X.env) (es:=i) λe z=>g e (by simp[z])).1;show uX G.gd.P G.gd.w G.gd.K u q G.gd.room (f9 m) r s t (aG n).1 (iq es X _ G.gd c) st y
def xQ(G:Gs ck Γ C d X)(h:AE ck (.GK f es) X.N X.env.scope s'=b5):L2.PS X s' (D6 C (KO (.GK f es)) (exec Γ (.GK f es))):=by
 have⟨o,a,b,cpos,p,rfl,c,e,g⟩:=gD h;have⟨t,q,j,rfl⟩:=gC g;have⟨i,k,l,as,p2,rfl⟩:=yB G e;show B1 i rfl c
def xR(G:Gs ck Γ C d X)(h:OK ck i f es c X.N X.env.scope s1 s2 s3 s4=b5)(j:Eb X r (D6 C (EI ss) (execs Γ ss))):Eb X (s1::s2::s3::s4::r) (D6 C (EI (.Gk i f es c::ss)) (execs Γ (.Gk i f es c::ss))):=by
 have⟨t,v,J,rfl,e⟩:=cf h;have⟨y,L,rfl,z⟩:=ao e;clear e h;simp only[c4,WI]at z;obtain⟨⟨⟨⟨⟨⟨⟨k,l⟩,n⟩,o⟩,p⟩,q⟩,s⟩,g⟩:=z;have⟨O,Q,T,Y,rfl,b⟩:=ju k;simp only[c4,F3]at b;have⟨rfl,b⟩:=b;have⟨u,p2,a0,as,p3,rfl⟩:=yB G l;have⟨o3,a3,Ss,Su,p9,rfl,x,A,B⟩:=gD n;have⟨p6,rfl⟩:=gB A;have⟨t1,q1,p7,p8,rfl⟩:=sM B;have⟨o4,a4,Sv,Sw,Ox,rfl,D,H,I⟩:=gD o;have⟨Ot,q2,Ou,Ov,rfl⟩:=sN H;have⟨t2,q3,Ow,rfl⟩:=gC I;show B3 (ns:=EI ss) (λm a=>by
  have a:(ez (m≠i)&&EI ss m)=b5:=a;rw[c4,WI]at a;show⟨a.2,a.1⟩) G.gd.K G.nd p (mf q) (G.fn _) (b_ s) (aG g).1 (aG g).2 G.gd.P G.gd.w u (eM rfl) (j7 c X _ G.gd b) x D j
mutual
theorem Dp:∀(s:S) (X:Cx) (s':HK),Gs ck Γ C d X->AE ck s X.N X.env.scope s'=b5->L2.PS X s' (D6 C (KO s) (exec Γ s))
 |.set i e,X,s',G,h=>by
  have⟨t,v,p1,rfl,g⟩:=cf h;have⟨x,p,rfl,k⟩:=sI g;clear h g;have h:=k;simp only[c4,WI]at h;obtain⟨⟨⟨⟨⟨q,r⟩,y⟩,l⟩,A⟩,B⟩:=h;have EA:∀j,KO (.set i e) j=b5->j≠i:=λj L=>WO (show ez (j≠i)=b5 from L);by_cases hc:cM v=b5
  .show yy EA G.nd q (mf r) (.inl (G.fn x)) (bu e X v G.gd l) (eM hc)
  .cases e with
   |comp n t ik src cond e =>
    obtain⟨elt,tg,ac,am,scope,p3,rfl,_⟩:=gA l;show AF G q r l _ EA
   |_=>show absurd B hc
 |.G4 is e,X,s',G,h=>by
  have⟨t,v,p1,rfl,g⟩:=cf h;have⟨es,kk,p,rfl,k⟩:=jq g;clear h g;have h:=k;simp only[c4]at h;obtain⟨⟨⟨q,r⟩,y⟩,l⟩:=h;show Al (λj L=>WO (show ez (j∉is)=b5 from L)) (bu e X v G.gd l) (qT (fa:=λ_=>b5) G.gd.calm G.gd.K G.nd (λx _=>G.fn x) q) (mj r) ?_ rfl;cases v<;>first|rfl|cases y
 |.put i a b,X,s',G,h=>by
  have⟨t,v,p,rfl,g⟩:=cf h;have⟨o,a',p1,rfl,k⟩:=bT g;have⟨x,px,rfl,O⟩:=ao k;simp only[c4,WI]at O;obtain⟨⟨⟨⟨⟨⟨q,r⟩,y⟩,l⟩,A⟩,B⟩,h7⟩:=O;have⟨Q,T⟩:=aG y;show BZ G.gd.P G.gd.w G.gd.K G.gd.u q (b_ r) Q T (bu b X _ G.gd h7) (bu a X _ G.gd B) (mj l) rfl (qY A)
 |.app i e,X,s',G,h=>by
  have⟨c,p0,rfl,g⟩:=cS h;have⟨o,m,Y,as,cpos,rfl,k⟩:=bF g;have⟨x,px,rfl,O⟩:=ao k;have⟨a,rfl,z4⟩:=aX O;simp only[c4,WI]at z4;obtain⟨⟨⟨⟨⟨⟨rfl,q⟩,r⟩,y⟩,l⟩,A⟩,B⟩:=z4;have⟨Q,T⟩:=aG y;have st:=bA (env:=X.env) (es:=[]) A;have sa:=(bf (pos:=cpos) (env:=X.env) (es:=[a]) λe he=>by simp at he;subst he;show A).2;show BX G.gd.K q (b_ r) Q T (bu e X _ G.gd B) ?_ l st;rw[sa];rfl
 |.ext i e,X,s',G,h=>by
  have⟨c,p0,rfl,g⟩:=cS h;have⟨o,m,Y,as,cpos,rfl,k⟩:=bF g;have⟨x,px,rfl,O⟩:=ao k;have⟨a,rfl,z4⟩:=aX O;simp only[c4,WI]at z4;obtain⟨⟨⟨⟨⟨⟨rfl,q⟩,r⟩,y⟩,l⟩,A⟩,B⟩:=z4;have⟨Q,T⟩:=aG y;have st:=bA (env:=X.env) (es:=[]) A;have sa:=(bf (pos:=cpos) (env:=X.env) (es:=[a]) λe he=>by simp at he;subst he;show A).2;show BY G.gd.K q (b_ r) Q T (bu e X _ G.gd B) ?_ l st;rw[sa];rfl
 |.bad,X,s',G,h=>λal sh σ H D I ⟨_,_,_,_,w⟩=>(aU.mp w).elim
 |.newD i,X,s',G,h=>by
  have⟨t,v,p1,rfl,g⟩:=cf h;have⟨x,p,rfl,k⟩:=ao g;clear h g;have h:=k;simp only[c4,WI]at h;have⟨p2,rfl⟩:=kJ h.1.1;show An (λj L=>WO (show ez (j≠i)=b5 from L)) G.nd h.1.2 (mf h.2) (.inl (G.fn _)) (eM rfl)
 |.putD i a b,X,s',G,h=>by
  have⟨t,v,p,rfl,g⟩:=cf h;have⟨o,a',p1,rfl,k⟩:=bT g;have⟨x,px,rfl,O⟩:=ao k;simp only[c4,WI]at O;obtain⟨⟨⟨⟨⟨⟨q,r⟩,y⟩,l⟩,A⟩,B⟩,h7⟩:=O;have⟨Q,T⟩:=aG y;show Ao G.gd.u q (b_ r) Q T (bu b X _ G.gd h7) (bu a X _ G.gd B) (mj l) rfl (qY A)
 |.E3 i a e,X,s',G,h=>by
  have⟨c,p0,rfl,g⟩:=cS h;have⟨o,m,Y,as,cpos,rfl,k⟩:=bF g;have⟨o',a',p1,rfl,O⟩:=bT k;have⟨x,px,rfl,z4⟩:=ao O;have⟨b,rfl,z5⟩:=aX z4;simp only[c4,WI]at z5;obtain⟨⟨⟨⟨⟨⟨⟨⟨rfl,q⟩,r⟩,y⟩,l⟩,A⟩,B⟩,h7⟩,h8⟩:=z5;have ha:=bu e X _ G.gd h8;have⟨Q,T⟩:=aG y;have st:=bA (env:=X.env) (es:=[]) B;have sa:=(bf (pos:=cpos) (env:=X.env) (es:=[b]) λe he=>by simp at he;subst he;show B).2;show Ap G.gd.K G.gd.u q (b_ r) Q T ha (bu a X _ G.gd h7) (nG l) ?_ A st;rw[sa];rfl
 |.aug sub i a e,X,s',G,h=>by
  have⟨t,op,b,p,rfl,J⟩:=pK h;clear h;have h:=J;have⟨o,a',p1,rfl,g⟩:=bT h;have⟨x,px,rfl,k⟩:=ao g;simp only[c4,WI]at k;obtain⟨⟨⟨⟨⟨⟨rfl,q⟩,r⟩,y⟩,l⟩,A⟩,B⟩:=k;have ha:=bu e X _ G.gd B;have⟨Q,T⟩:=aG y;show B5 q (b_ r) Q T ha (bu a X _ G.gd A) (xP l)
 |.KI i,X,s',G,h=>absurd (show df=b5 from h) mh
 |.exp e,X,s',G,h=>by
  have⟨e',p,rfl,J⟩:=cS h;clear h;have h:=J;simp only[c4]at h;show BR (bu e X _ G.gd h.2) (eM h.1)
 |.ret e,X,s',G,h=>by
  have⟨v,p,rfl,J⟩:=jt h;have⟨e',rfl,g⟩:=sJ J;clear h J;have h:=g;show BS (bu e X _ G.gd h)
 |.G5,X,s',G,h=>by
  have⟨v,p,rfl,J⟩:=jt h;cases v with
  |none=>show Aj
  |some _=>cases J
 |.ite c a b,X,s',G,h=>by
  have⟨c',a',b',p,rfl,J⟩:=ju h;clear h;have h:=J;simp only[c4]at h;have ha:=jw a X _ G h.1.2;have hb:=jw b X _ G h.2;show BU (j7 c X _ G.gd h.1.1) (Eb.weak ha λD σ H z=>jo (λj L=>(Fg.mp (show(EI a j&&EI b j)=b5 from L)).1) z) (Eb.weak hb λD σ H z=>jo (λj L=>(Fg.mp (show(EI a j&&EI b j)=b5 from L)).2) z)
 |.DJ t is ik src body,X,s',G,h=>by
  have⟨tg,ac,E5,p,rfl,J⟩:=pL h;clear h;have h:=J;rw[c4,c4,c4]at h;show BW G.po G.gd.calm (qZ G.gd h.1.2) (qT (fa:=λ_=>b5) G.gd.calm G.gd.K G.nd (λx _=>G.fn x) h.1.1.1) (jw body X _ G h.2) (pJ h.1.1.2) λj L=>by have L:(ez (j∉is)&&EI body j)=b5:=L;simpa using L
 |.HV c body,X,s',G,h=>by
  have⟨c',E5,p,rfl,J⟩:=sL h;clear h;have h:=J;simp only[c4]at h;show BV G.po (j7 c X _ G.gd h.1) (jw body X _ G h.2)
 |.brk,X,s',G,h=>by
  rcases fE h with⟨_,p,rfl⟩|⟨e,_⟩|⟨e,_⟩
  .show BO
  .cases e
  .cases e
 |.cnt,X,s',G,h=>by
  rcases fE h with⟨e,_⟩|⟨_,p,rfl⟩|⟨e,_⟩
  .cases e
  .show BP
  .cases e
 |.Gk i f es c,X,s',G,h=>absurd (show df=b5 from h) mh
 |.GK f es,X,s',G,h=>xQ G h
 |.KJ,X,s',G,h=>by
  rcases fE h with⟨e,_⟩|⟨e,_⟩|⟨_,p,rfl⟩
  .cases e
  .cases e
  .show BQ
theorem jw:∀(ss:List S) (X:Cx) (a:List HK),Gs ck Γ C d X->cF ck ss X.N X.env.scope a=b5->Eb X a (D6 C (EI ss) (execs Γ ss))
 |[],X,a,G,h=>by
  cases a with
  |nil=>show BN
  |cons _ _=>simp[cF]at h
 |s::ss,X,a,G,h=>by
  cases c:qX s with
  |some q =>
   simp only[cF,c]at h;have⟨s1,s2,s3,s4,r,rfl,z⟩:=sO h;rw[c4]at z;rw[pM c];show xR G z.1 (jw ss X r G z.2)
  |none =>
  cases a with
  |nil=>simp[cF,c]at h
  |cons s' a =>
   simp only[cF,c,c4]at h;have e:=Dp s X s' G h.1;have f:=jw ss X a G h.2;show Ai (PS.weak e λD σ H z=>jo (λj b=>by simp only[EI,c4]at b;show b.1) z) (Eb.weak f λD σ H z=>jo (λj b=>by simp only[EI,c4]at b;show b.2) z)
end
end
section
variable{ck:Ck}{Γ:Tab}{d:Nat}{P:DW}{w:Fi}{K:PySem.W.Frag}{mg:Str->Option eH}{base:Hb}
def gE{n i:Nat}(h:(start us n)[i]?=a5 (a5 (k,u))):us[i]?=a5 u/\k=if DZ u=b5 then .loc else .any:=by
 unfold start at h;by_cases a:i<us.length
 .rw[z9 (by simpa using a),nc]at h;rw[r3 a]at h ⊢;simp only[Sx,TF,Prod.mk.injEq]at h;have⟨b,c⟩:=h;subst c;show⟨rfl,b.symm⟩
 .rw[uk (by simp;lia),I0]at h;split at h<;>cases h
def pN{i:Nat}(h:vs[i]?=a5 v):(L2.start N vs)[i]?=a5 (a5 v):=by
 unfold L2.start;have a:i<vs.length:=(gi.mp h).1;rw[z9 (by simpa using a),nc,h];rfl
def vh(p:∀a,c a->Fc H a)(h:ae (FO P w K H c) c H us vs)(q:N.length=n):Ok (FO P w K H c) ⟨λ_=>False,H,L2.start N vs,start us n,λ_=>[]⟩:=by
 have f:∀(j:Nat) (u:U),(start us n)[j]?≠a5 (a5 (.Ds,u)):=λj u e=>by
  have:=(gE e).2;split at this<;>cases this
 show⟨λa o e _=>e,λa z=>z.elim,λa z=>⟨p a z,λz=>z⟩,λa z=>z.elim,?_,λi k u e=>?_,λi j k k' u u' r hk t g m x y=>?_,⟨λj u r e _=>(f j u e).elim,λi j a ⟨u,_,e,_⟩=>(f i u e).elim,λj a ⟨u,_,e,_⟩=>(f j u e).elim⟩⟩
 .have:=h.len;simp[start,L2.start,q];lia
 .have⟨g,m⟩:=gE e;have⟨v,ev,b⟩:=h.get g;show⟨v,pN ev,?_⟩;subst m;by_cases l:DZ u=b5
  .rw[WJ l];show Rep.DZ l b
  .rw[WK l];show Rep.mv (.up λa z=>.inl z) b
 .obtain⟨_,s⟩:=gE g;subst s;split at hk<;>cases hk
def mn(h:bS Γ fn us=a5 (.ok (k,u))):us.length=fn.np/\((k=.own\/k=.loc\/k=.any)/\(∃st',execs Γ fn.body (start us fn.ns)=a5 (.ok (.rt k u),st'))\/(k=.loc/\u=.DB/\∃st',execs Γ fn.body (start us fn.ns)=a5 (.ok .nx,st'))):=by
 unfold bS at h;split at h
 .rename_i hl;show⟨hl,?_⟩;split at h
  .rename_i e;cases h;show .inl ⟨.inl rfl,_,e⟩
  .rename_i e;cases h;show .inl ⟨.inr (.inl rfl),_,e⟩
  .rename_i e;cases h;show .inl ⟨.inr (.inr rfl),_,e⟩
  .rename_i e;cases h;show .inr ⟨rfl,rfl,_,e⟩
  .cases h
  .cases h
 .cases h
def yC{st:HK}(F:HI K fn.name i st f J)(S:dB N ps (aE st))(L:N.length=fn.ns)(O:ps.length=fn.np)
  (T:cF ck fn.body N (aE st) (cu st)=b5) (q:∀x∈bP,mg x=b6) (t:∀g∈ck.fns,Aw P w K mg base d (Γ g) g)
  (Y:∀p∈ck.gl,∃b v,mg p.1=a5 b/\RelV v b/\∀(C:Ct) S H,Rep C S H p.2 v):lq P w K mg base GV (d+1) f J ps (spT P w K (bS Γ fn) fn.np):=by
 show F.ok S (λvs H Q E h=>h.1.trans O.symm) (λB A outer s H vs Q E D h=>?_);have⟨hl,us,k,u,m,DK,hk,Rx,y,j⟩:=h;have Hq:=D.un;have G:Gs ck Γ (FO P w K H m) d (oD GV P w K mg base N i (aE st) f B A outer s H E).Je :=
  ⟨⟨rfl,rfl,rfl,by change(A.deeper (Q9 i (aE st) s.heap.objs.size f B)).units+60<Eg;lia,rfl,D,q,t,λp hp=>let ⟨b,v,q1,q2,q3⟩:=Y p hp;⟨b,v,q1,q2,q3 _⟩⟩,S.nd,λ_=>rfl,PassesOwn.never,S.kind⟩
 show⟨_,jw fn.body _ _ G T,⟨λ_=>False,H,L2.start N vs,start us fn.ns,λ_=>[]⟩,rfl,rfl,vh Rx y L,?_⟩;obtain⟨_,Nd⟩:=mn DK;have I:∀(c:Cf),Ok (FO P w K H m) c->∀v,BM (FO P w K H m) c k u v->Back (FO P w K H m) H c.H c.S k u v:=λc l v r=>by
  show⟨λa o e=>l.same a o e λz=>z,λa z=>l.E2 a z,λe=>?_,λe=>?_,λe=>?_⟩
  .subst e;have⟨r0,e,h1,h2,h3,h4⟩:=r;show⟨r0,e,h1,h2,h4⟩
  .subst e;show r
  .subst e;show r
 rcases Nd with⟨_,st',e⟩|⟨rfl,rfl,st',e⟩
 .show⟨_,st',e,λc ec l n kp v r=>j v c.H c.S (I c l v r)⟩
 .show⟨_,st',e,λc ec l n kp=>j .DB c.H c.S (I c l .DB rfl)⟩
structure Ld(ck:Ck)(K:PySem.W.Frag)(mg:Str->Option eH)(fn:Fn):Prop where
 ex:∃(qual:Str) (st:HK) (f:hQ) (fd:O9) (N ps:List Str),HI K fn.name qual st f fd/\mg fn.name=a5 (.ref f)/\Binds K fd ps []/\dB N ps (aE st)/\N.length=fn.ns/\ps.length=fn.np/\cF ck fn.body N (aE st) (cu st)=b5
def xS{Pg:List Fn}(a:(Pg.map (·.name)).Nodup)(h:fn∈Pg):Pg.find? (λg=>ez (g.name=fn.name))=a5 fn:=by
 induction Pg with
 |nil=>cases h
 |cons g Pg b =>
  rw[gc,nH]at a;rcases ka.mp h with rfl|h
  .simp
  .rw[JM];have:ez (g.name=fn.name)=df:=by
    apply WL;intro z;show a.1 (z▸Uv h)
   rw[this];show b a.2 h
def vi(a:(Pg.map (·.name)).Nodup)(h:fn∈Pg):D8 Pg (d+1) fn.name=bS (D8 Pg d) fn:=by
 funext us
 change(match Pg.find? λg=>ez (g.name=fn.name) with|some fn=>bS (D8 Pg d) fn us|none=>b6)=_;rw[xS a h]
def xT(y:(Pg.map (·.name)).Nodup)(B:ck.fns=Pg.map (·.name))(i:∀x∈bP,mg x=b6)(D:∀p∈ck.gl,∃a v,mg p.1=a5 a/\RelV v a/\∀(C:Ct) S H,Rep C S H p.2 v)
  (ld:∀fn∈Pg,Ld ck K mg fn):∀d,∀fn∈Pg,Aw P w K mg base d (D8 Pg d fn.name) fn.name:=by
 intro d;induction d with
 |zero =>
  intro fn c;have⟨b,st,f,j,N,ps,F,l,m,S,q,n,r⟩:=(ld fn c).ex;show⟨fn.np,f,j,ps,⟨λvs H Q E h=>h.1.trans n.symm,λA outer s H args us vs Q E _ _ _ _ h=>by obtain⟨_,us,k,u,_,e,_⟩:=h;cases e⟩,l,F.kp,m,λus k u e=>by cases e⟩
 |succ d G =>
  intro fn c;have⟨b,st,f,j,N,ps,F,l,m,S,q,n,r⟩:=(ld fn c).ex;rw[vi y c];show⟨fn.np,f,j,ps,yC F S q n r i (λg t=>?_) D,l,F.kp,m,λus k u e=>?_⟩
  .rw[B]at t;have⟨I,o,rfl⟩:=ki.mp t;show G I o
  .have⟨o,J⟩:=mn e;show⟨?_,o⟩;rcases J with⟨z,_⟩|⟨z,_⟩
   .show z
   .show .inr (.inl z)
end
abbrev pO(ns:List Int):U:=.DT (ns.map .int)
theorem kM{S:hQ->Prop}:∀(ns:List Int),ae C S H (ns.map .int) (ns.map V.int)
 |[]=>rfl
 |n::ns=>⟨_,_,rfl,rfl,kM ns⟩
def pP(h:D3 C.K H a (ns.map V.int)):Rep C (Fc H) H (pO ns) (.ref a):=by
 show⟨a,_,rfl,?_,kM ns⟩;rcases h with(h|⟨o,h⟩)|h
 .show .inl ⟨⟨_,h⟩,.inl h⟩
 .show .inl ⟨⟨_,h⟩,.inr ⟨o,h⟩⟩
 .show .inr h
theorem nJ:∀{l:List α},(∀a∈l,f a=g a)->l.filterMap f=l.filterMap g
 |[],_=>rfl
 |a::l,h=>by rw[GU,GU,h a (by simp),nJ λb c=>h b (by simp[c])]
theorem q9:∀(l:List Str) (us:List eH),l.Nodup->us.length=l.length->l.filterMap (λn=>((l.zip us).lookup n).map (n,·))=l.zip us
 |[],_,_,_=>rfl
 |a::l,[],_,h=>nomatch h
 |a::l,u::us,b,h=>by
  rw[nH]at b;have c:=q9 l us b.2 (by simpa using h);simp only[QC,GU,pb,beq_self_eq_true,Sx];congr 1
  conv=>rhs;rw[<-c]
  show nJ λn d=>?_;have:(n==a)=df:=by
   rw[beq_eq_false_iff_ne];rintro rfl;show b.1 d
  rw[this]
def vj(l:List Str)(us:List eH)(h:us.length=l.length):l.filter (λn=>((l.zip us).lookup n).isNone)=[]:=by
 rw[LH];intro n hn;induction l generalizing us with
 |nil=>cases hn
 |cons a l b =>
  cases us with
  |nil=>cases h
  |cons u us =>
   simp only[QC,pb];cases e:n==a with
   |true=>simp
   |false =>
    rcases ka.mp hn with rfl|hn
    .simp at e
    .show b us (by simpa using h) hn
def vk{kV a b c ct:eH}(d:(as.map (·.arg)).Nodup)(hl:us.length=(as.map (·.arg)).length):
  Wv (PySem.W.fnOf x q ⟨[],as,b6,[],[],b6,[]⟩ body scope .none kV a b m c ct) ⟨us,[]⟩=pure ((as.map (·.arg)).zip us):=by
 have e:=q9 _ us d hl;have f:=vj _ us hl;change(if _ then _ else _)=_;rw[WK (by simp[hl])];have g:∀k:Nat,¬(!(((as.map (·.arg)).take k).filter λn=>(((as.map (·.arg)).zip us).lookup n).isNone).isEmpty)=b5:=λk=>by
  rw[LH.mpr λn h=>LH.mp f n (O_ h)];show mh
 show(WK (g _)).trans ?_;have hz:∀(l:List Str) (i j:Nat),(l.drop i).zip ((b6.getD #[]:Array eH).toList.drop j)=[]:=λl i j=>by rw[show(b6.getD #[]:Array eH).toList=[] from rfl,List.drop_nil,List.zip_nil_right]
 show Eq.trans (WN (λz=>Bind.bind (WH z _ _) _) (hz _ _ _)) ?_;show WN (pure:List (Str×eH)->Sem (List (Str×eH))) ((WN (List.filterMap _) (va _)).trans e)
structure Me where
 fn:Fn
 i:Nat
 N:List Str
 a:hQ
 c:hQ
 m:eH
 cr:Obj
abbrev Me.fd(top:Nat->HK)(m:Me):O9:=PySem.W.fnOf m.fn.name m.fn.name (eT (top m.i)) (cu (top m.i)) (aE (top m.i)) .none .none .none m.m b6 (.ref m.c) .none
abbrev Me.fo(top:Nat->HK)(m:Me):Obj:=⟨.type "function",b6,.func (m.fd top),#[]⟩
@[reducible]def Gx:=Obj
abbrev adr(ms:List Me):List hQ:=3::ms.flatMap λm=>[m.c,m.a]
abbrev Ft(top:Nat->HK)(g:Gx)(ms:List Me):PySem.W.Frag:=(3,g)::ms.flatMap λm=>[(m.c,m.cr),(m.a,m.fo top)]
def q_(top:Nat->HK)(g:Gx)(ms:List Me):adr ms=(Ft top g ms).map (·.1):=by
 unfold adr Ft;rw[gc,List.map_flatMap];rfl
abbrev AG(v:Option (Option eH))(a:hQ):Bool:=match v with|some (a5 (.ref b))=>ez (b=a)|_=>df
def xU(h:AG v a=b5):v=a5 (a5 (.ref a)):=by
 unfold AG at h;split at h
 .rw[WO h]
 .cases h
abbrev nn(o:Option (Option eH)):Bool:=match o with|some b6=>b5|_=>df
def Cc(h:nn o=b5):o=a5 b6:=by
 unfold nn at h;split at h
 .rfl
 .cases h
abbrev Cd(p:Arguments)(ps:List Str):Bool:=p.posonlyargs.isEmpty&&p.vararg.isNone&&p.kwonlyargs.isEmpty&&p.kw_defaults.isEmpty&&p.kwarg.isNone&&p.defaults.isEmpty&&ez (p.args.map (·.arg)=ps)
abbrev OM(N:List Str)(b:Nat)(a:IW):Bool:=ez (a.kind=.function)&&ez (a.isCoroutine=df)&&ez (a.isGenerator=df)&&decide N.Nodup&&(N.take b).all (j6 a)&&a.names.all (λy=>ez (y.2≠.free))
abbrev ON(ck:Ck)(top:Nat->HK)(K:PySem.W.Frag)(m:Me):Bool:=PySem.W.codeIn K (.ref m.c) m.fn.name&&PySem.W.keepIn K (.ref m.a)&&AG (PySem.W.nsIn K D' m.fn.name) m.a&&Cd (eT (top m.i)) (m.N.take m.fn.np) &&
 OM m.N m.fn.np (aE (top m.i))&&ez (m.N.length=m.fn.ns)&&ez (m.fn.np<=m.fn.ns)&&cF ck m.fn.body m.N (aE (top m.i)) (cu (top m.i))
abbrev OO(K:PySem.W.Frag)(p:Str×U):Bool:=match p.2,PySem.W.nsIn K D' p.1 with
 |.int i,a5 (a5 (.int j _))=>ez (i=j)
 |.str i,a5 (a5 (.str j _))=>ez (i=j)
 |_,_=>df
abbrev Hv(ck:Ck)(top:Nat->HK)(K:PySem.W.Frag)(ms:List Me):Bool:=ms.all (ON ck top K)&&bP.all (λy=>nn (PySem.W.nsIn K D' y))&&ck.gl.all (OO K)&&ez (K.map (·.1)).Nodup
def Ce{K:PySem.W.Frag}(b:(K.map (·.1)).Nodup)(h:(a,o)∈K):K.lookup a=a5 o:=by
 induction K with
 |nil=>cases h
 |cons p K c =>
  rw[gc,nH]at b;rw[pb];rcases ka.mp h with rfl|h
  .simp
  .have:(a==p.1)=df:=by
    rw[beq_eq_false_iff_ne];rintro rfl;show b.1 (ki.mpr ⟨_,h,rfl⟩)
   rw[this];show c b.2 h
section
def yD(c:Hv ck top (Ft top g ms) ms=b5)(h:m∈ms):HI (Ft top g ms) m.fn.name m.fn.name (top m.i) m.a (m.fd top)/\PySem.W.nsIn (Ft top g ms) D' m.fn.name=a5 (a5 (.ref m.a)) /\
  (∀us:List eH,us.length=(m.N.take m.fn.np).length->Wv (m.fd top) ⟨us,[]⟩=pure ((m.N.take m.fn.np).zip us))/\dB m.N (m.N.take m.fn.np) (aE (top m.i))/\m.N.length=m.fn.ns/\(m.N.take m.fn.np).length=m.fn.np/\cF ck m.fn.body m.N (aE (top m.i)) (cu (top m.i))=b5:=by
 simp only[Hv,c4,WI]at c;have z:=ve.mp c.1.1.1 m h;simp only[ON,c4,WI]at z;obtain⟨⟨⟨⟨⟨⟨⟨j,k⟩,l⟩,b⟩,d⟩,n⟩,u⟩,o⟩:=z;simp only[OM,c4,WI]at d;obtain⟨⟨⟨⟨⟨s1,s2⟩,s3⟩,s4⟩,p⟩,q⟩:=d;have r:(Ft top g ms).lookup m.a=a5 (m.fo top):=Ce c.2 (ka.mpr (.inr (List.mem_flatMap.mpr ⟨m,h,by simp⟩)));have hl:(m.N.take m.fn.np).length=m.fn.np:=by rw[EX];lia
 show⟨zr r j k,xU l,λus f=>?_,⟨s1,s2,s3,s4,by rw[hl],λx s=>?_,λy t=>?_⟩,n,hl,o⟩
 .unfold Me.fd;revert b;cases eT (top m.i) with
  |mk v as w A B C D =>
   intro b;simp only[Cd,c4,F3,Tf,WI]at b;obtain⟨⟨⟨⟨⟨⟨rfl,rfl⟩,rfl⟩,rfl⟩,rfl⟩,rfl⟩,e⟩:=b;rw[<-e]at f ⊢;show vk (by rw[e];show(U0 _ _).nodup s4) f
 .have:=ve.mp p x s;simpa[j6] using this
 .have:=ve.mp q y t;simpa using this
def Cg(i:Hv ck top (Ft top g ms) ms=b5)(X:(Ft top g ms).In h)(G:h.Ns D' mg)(j:m∈ms):Ld ck (Ft top g ms) mg m.fn :=
 let ⟨a,b,c,d,e,f,k⟩:=yD i j
 ⟨_,_,_,_,_,_,a,PySem.W.mg_of X G b,.all c,d,e,f,k⟩
def AH(d:Hv ck top (Ft top g ms) ms=b5)(X:(Ft top g ms).In h)(G:h.Ns D' mg):∀p∈ck.gl,∃a v,mg p.1=a5 a/\RelV v a/\∀(C:Ct) S H,Rep C S H p.2 v:=by
 intro p e;simp only[Hv,c4,WI]at d;have z:=ve.mp d.1.2 p e;unfold OO at z;split at z
 .rename_i i j k b c;obtain rfl:=WO z;show⟨_,.int i,PySem.W.mg_of X G c,⟨_,rfl⟩,λ_ _ _=>by rw[b];rfl⟩
 .rename_i i j k b c;obtain rfl:=WO z;show⟨_,.str i,PySem.W.mg_of X G c,⟨_,rfl⟩,λ_ _ _=>by rw[b];rfl⟩
 .cases z
end
def walk{l:PySem.W.OpenLaw}{K:US->PySem.W.Frag}
  (D:l.most=a5 63) (I:d.params.defaults=[]) (J:fc (dp+1) Pp) (L:∀(w:Fi) (h:Hb),O w h->(K w.params).In h)
  (o:(Pg.map (·.name)).Nodup) (r:ck.fns=Pg.map (·.name)) (Q:fn∈Pg) (Gv:fn.name=d.name)
  (F:∀(w:Fi) (mg:Str->Option eH) (fa:hQ) (h:Hb),(K w.params).In h->h.Ns D' mg->mg d.name=a5 (.ref fa) ->
   (∀y∈bP,mg y=b6)/\(∀p∈ck.gl,∃e v,mg p.1=a5 e/\RelV v e/\∀(C:Ct) S H,Rep C S H p.2 v)/\(∀g∈Pg,Ld ck (K w.params) mg g) /\
   ∃(c:Str) (st:HK) (j:O9) (N:List Str),HI (K w.params) fn.name c st fa j/\dB N [x] (aE st)/\N.length=fn.ns/\1=fn.np/\cF ck fn.body N (aE st) (cu st)=b5/\∀(s:hH) (u:eH),UW s j ⟨[u],[]⟩ [(x,u)])
  (T:∀ns:List Int,ns.length<=63->D8 Pg (dp+1) fn.name [pO ns]=a5 (.ok (.loc,.bl b5))) :
  PySem.W.WalkO q m XP O l.row.toRowW d [] (λf vs=>PySem.call f vs) :=
 L2.wA (n:=63) (k:=dp+1) (x:=x) (CX:=λ_=>GV) (sp:=λw=>spT l.prog w (K w.params) (bS (D8 Pg dp) fn) fn.np) D (by decide) I J L
  (λw mg fa h Y G Jp=>by
   have⟨i,A,ld,c,st,j,N,F1,S,hN,GI,hc,hb⟩:=F w mg fa h Y G Jp;show⟨j,hb,λbase _ _=>yC F1 S hN GI hc i (λg B=>?_) A⟩;rw[r]at B;have⟨Nf,h1,rfl⟩:=ki.mp B;show xT o r i A ld dp Nf h1)
  (λw H a ns hl _ hS=>by
   have t:=T ns hl;rw[vi o Q]at t;have Rz:fn.np=1:=(mn t).1.symm;show⟨Rz.symm,[pO ns],.loc,.bl b5,Fc H,t,.inr (.inl rfl),λ_ z=>z,⟨_,_,rfl,pP hS,rfl⟩,λv H' S' b=>b.loc rfl⟩)
  λ_ _ _ _ _ z=>z
def walk2{l:PySem.W.OpenLaw}{g:US->Obj}
  (v:l.most=a5 63) (z:d.params.defaults=[]) (A:fc (dp+1) Pp) (o:ms.map (·.fn)=Pg) (B:(Pg.map (·.name)).Nodup) (C:ck.fns=Pg.map (·.name)) (p:m∈ms) (r:m.fn.name=d.name) (D:m.N.take m.fn.np=[x])
  (ok:∀P,Hv ck top (Ft top (g P) ms) ms=b5) (T:∀ns:List Int,ns.length<=63->D8 Pg (dp+1) m.fn.name [pO ns]=a5 (.ok (.loc,.bl b5))) :
  PySem.W.WalkO q j I (PySem.W.kHook (λP=>Ft top (g P) ms) (adr ms) λP=>q_ top (g P) ms).says l.row.toRowW d [] (λf vs=>PySem.call f vs) :=
 walk v z A (λw h Y=>PySem.W.kIn_of Y) B C (o▸ki.mpr ⟨m,p,rfl⟩) r (λw mg fa h X G t=>by
  have hk:=ok w.params;have⟨a,b,c,e,f,k,n⟩:=yD hk p;rw[<-r,PySem.W.mg_of X G b]at t;cases t;rw[D]at c e k;show⟨λy i=>PySem.W.mg_none_of X G (Cc ?_),AH hk X G,λy i=>?_,_,_,_,_,a,e,f,k,n,λs u=>.of_eq (c [u] rfl)⟩
  .simp only[Hv,c4]at hk;show ve.mp hk.1.1.2 y i
  .rw[<-o]at i;have⟨J,H,rfl⟩:=ki.mp i;show Cg hk X G H) T
abbrev co(n:Str)(k l c:Nat)(r s:hQ)(x y z:eH)(a b t:Nat):Obj:=⟨.type "code",b6,.fields #[.str n k,.str n (k+1),.str "/claim/cut.py" (k+2),.int l 0,.int c 0,.int 0 0,.int 0 0,.int 3 0,.ref r,.bool b5,.int t 0,.ref s,.none,x,y,z,.int a 0,.int l 0,.str "/claim/cut.py" b],#[]⟩
abbrev ge(P:US)(x:Str)(k:Nat)(v:eH):DictEntry:=⟨PyData.keyHash P x,.str x k,v⟩
end TM
namespace D4
open PySem L2
abbrev bG(l:List Nat):Prop:=dU l=b5\/∃a b k,l=a++47::b/\dU a=b5/\2<=k/\k<=99/\(oK k).cps.toList=b
def len_list(x:Str):x.length=x.cps.toList.length:=by simp[Tu]
def gF(a:0<=k)(b:k<=99):(oK k).length<=2:=by
 have⟨m,rfl⟩:=OS a;have c:m<100:=by lia
 clear a b;revert m;decide +kernel
def bG.len(h:bG l):1<=l.length/\l.length<=11:=by
 rcases h with h|⟨a,b,k,rfl,h,e,c,d⟩
 .have:=(bH l).mp h;lia
 .have:=(bH a).mp h;have hl:=gF (k:=k) ⋯ c;rw[len_list,d]at hl;simp;lia
def bG.Dq(h:bG x.cps.toList):∃y r,Lf x yr=y::r/\dU y.cps.toList=b5:=by
 rcases h with h|⟨a,b,k,e,h,_⟩
 .show⟨x,[],oJ (mW h),h⟩
 .have⟨r,c⟩:=tZ e (mW h) (by decide);show⟨_,r,c,by simpa using h⟩
theorem dY:∀(ps:List Str) (acc:Array Nat),(ps.foldl (λacc p=>acc++td.cps++p.cps) acc).toList=acc.toList++(ps.map λp=>p.cps.toList).flatten
 |[],acc=>by simp
 |p::ps,acc=>by
  rw[SV,dY ps];have:td.cps=#[]:=rfl;simp[this]
def join_list(ts:List Str):(RL td ts).cps.toList=(ts.map λp=>p.cps.toList).flatten:=by
 cases ts with
 |nil=>rfl
 |cons t ts =>
  change(ts.foldl (λacc p=>acc++td.cps++p.cps) t.cps).toList=_;rw[dY];simp
abbrev one(c:Nat):Str:=⟨#[c]⟩
def join_ones(a:List Nat):(RL td (a.map one)).cps.toList=a:=by
 rw[join_list,kj];induction a with
 |nil=>rfl
 |cons c a b=>rw[gc,NT,b];rfl
def nK(a:List Nat)(h:a.length<=100):VH td (a.map one)=b5:=by
 unfold VH;have e:=PySem.StrLaws.joinTotal td (a.map one);have b:td.length=0:=rfl;have es:((a.map one).map (·.length)).sum=a.length:=by
  rw[kj];clear h e;induction a with
  |nil=>rfl
  |cons c a d=>rw[gc,List.sum_cons,d];change 1+a.length=a.length+1;lia
 rw[e,b,es];have f:a.length+(a.map one).length * 0<=100:=by lia
 revert f;generalize a.length+(a.map one).length * 0=m;revert m;decide
def AI(x:Str)(j:Nat):(PySem.StrLaws.sliceText x b6 (a5 (j:Int))).cps.toList=x.cps.toList.take j:=by
 by_cases h:j<=x.cps.toList.length
 .rw[PySem.StrLaws.sliceText_to (x:=x) ⟨⋯,⋯⟩];simp
 .have e:PySem.StrLaws.sliceText x b6 (a5 (j:Int))=PySem.StrLaws.sliceText x b6 (a5 (x.length:Int)):=by
   unfold PySem.StrLaws.sliceText;have hl:=len_list x;have:PySem.Builtin.Str.strSliceIndices b6 (a5 (j:Int)) 1 x.length=PySem.Builtin.Str.strSliceIndices b6 (a5 (x.length:Int)) 1 x.length:=by
    have a:¬((j:Int)<0):=by lia
    have b:¬((x.length:Int)<0):=by lia
    have c:min (j:Int) (x.length:Int)=x.length:=by lia
    simp[PySem.Builtin.Str.strSliceIndices,a,b,c]
   rw[this]
  have hl:=len_list x;rw[e,PySem.StrLaws.sliceText_to (x:=x) ⟨⋯,⋯⟩,List.drop_zero,OX (l:=x.cps.toList) (i:=j) ⋯];change(x.cps.toList.take ((x.length:Int) - 0).toNat).toArray.toList=_;rw[OX ⋯]
def sP(d:dU a=b5)(e:∀c∈b,low c=b5):dU ((a++b).take 8)=b5:=by
 have h:=(bH a).mp d;show(bH _).mpr ⟨by simp;lia,by simp;lia,λc f=>?_⟩;have g:=O_ f;rcases ko.mp g with m|m
 .show h.2.2 c m
 .have:=e c m;simp[low]at this;lia
def gZ(a:∀c∈b,low c=b5)(d:1<=b.length)(e:b.length<=8):dU b=b5 :=
 (bH b).mpr ⟨d,e,λc f=>by have:=a c f;simp[low]at this;lia⟩
abbrev small:Str:="abcdefghijklmnopqrstuvwxyz"
def pQ:small.cps.toList=(hE 26).map (97+·):=by decide +kernel
def jx(a:0<=k)(b:k<26):DL small.cps.toList k=a5 (97+k.toNat):=by
 have⟨j,rfl⟩:=OS a;show bQ ?_;rw[pQ,nc,P2 ⋯];rfl
def pR(h:j<26):low (97+j)=b5:=by simp[low];lia
abbrev kN(k:Nat):Str:=⟨#[97+k / 26,97+k % 26]⟩
def pS(h:k<40):dU (kN k).cps.toList=b5:=by
 show gZ (λc a=>?_) (by change 1<=2;decide) (by change 2<=8;decide);have b:c=97+k / 26\/c=97+k % 26:=by simpa[kN] using a
 rcases b with rfl|rfl
 .show pR ⋯
 .show pR ⋯
theorem jy [DecidableEq α]:∀{l m:List α},l.Nodup->(∀x∈l,x∈m)->l.length<=m.length
 |[],_,_,_=>mx _
 |x::l,m,c,h=>by
  have⟨d,e⟩:=nH.mp c;have a:=h x l';have f:=jy (l:=l) (m:=m.erase x) e λy b=>(Ui (by rintro rfl;show d b)).mpr (h y (mA _ b));rw[TH a]at f;have:0<m.length:=T2 a;rw[lx];lia
abbrev bx:List Str:=(hE 40).map kN
def mq:bx.Nodup:=by
 decide +kernel
def pT(names:List Str)(h:names.length<40):∃x∈bx,x∉names:=by
 apply SH;intro a;have:∀x∈bx,x∈names:=λx b=>SH λc=>a ⟨x,b,c⟩;have:=jy mq this;simp[bx]at this;lia
end D4
namespace TM
open PySem L2
section
abbrev Run(m:M α)(st:ak)(a:α)(st':ak):Prop:=m st=a5 (.ok a,st')
def aa(c:Run m st a st1)(d:Run (f a) st1 b st2):Run (m >>= f) st b st2:=by
 change M.bind m f st=_;unfold M.bind;rw[show m st=_ from c];show d
def aM:Run (pure a:M α) st a st:=rfl
def cT(h:o=a5 a):Run (M.DQ o) st a st:=by subst h;rfl
def aN(h:aY rs st):Run (ar rs) st () st:=by change ar rs st=_;unfold ar;rw[WJ h]
abbrev kv(i:Nat)(k:Kd):Kd:=if k.root=b5 then .bor i else k
def f_(h:st[i]?=a5 (a5 (k,u)))(hk:k≠.Ds:=by intro z;cases z):Run (cW i) st (kv i k,u) st:=by
 change cW i st=_;unfold cW;rw[h];cases k<;>first|rfl|show absurd rfl hk
def ag(h:st[i]?=a5 (a5 (.loc,u))):Run (ev Γ (.var i)) st (.loc,u) st:=f_ h
def bU(h:st[i]?=a5 (a5 (.any,u))):Run (ev Γ (.var i)) st (.any,u) st:=f_ h
def aD(h:st[i]?=a5 (a5 (.own,u))):Run (ev Γ (.var i)) st (.bor i,u) st:=f_ h
def bw:Run (ev Γ (.cst u)) st (.loc,u) st:=rfl
def fj(c:Run (ev Γ a) st x st1)(d:Run (ev Γ b) st1 y st2)(e:aY [x,y] st2)(f:Fq op x y=a5 r):Run (ev Γ (.bin op a b)) st r st2 :=
 aa c (aa d (aa (aN e) (cT f)))
def nL(d:Run (ev Γ a) st x st1)(e:Run (ev Γ b) st1 y st2)(f:aY [x,y] st2)(g:bB op x.2 y.2=a5 c):Run (ev Γ (.cmp op a b)) st (.loc,.bl c) st2 :=
 aa d (aa e (aa (aN f) (aa (cT g) aM)))
def dZ(c:Run (ev Γ a) st x st1)(d:Run (ev Γ b) st1 y st2)(e:aY [x,y] st2)(f:gv x y.2=a5 r):Run (ev Γ (.idx a b)) st r st2 :=
 aa c (aa d (aa (aN e) (cT f)))
def vm:Run (HW Γ []) st b6 st:=rfl
def vn(h:Run (ev Γ e) st (k,.int i) st1):Run (HW Γ [e]) st (a5 i) st1:=aa h rfl
def vp(b:Run (ev Γ a) st x st1)(c:Run (HW Γ lo) st1 l st2)(d:Run (HW Γ e) st2 h st3)(f:aY [x] st3)(g:pd x l h=a5 r):Run (ev Γ (.FX a lo e)) st r st3 :=
 aa b (aa c (aa d (aa (aN f) (cT g))))
def aj:Run (a_ Γ []) st [] st:=rfl
def ah(a:Run (ev Γ e) st r st1)(b:Run (a_ Γ es) st1 rs st2):Run (a_ Γ (e::es)) st (r::rs) st2:=aa a (aa b aM)
def fF(a:Run (a_ Γ es) st rs st1)(b:aY rs st1)(c:EW f rs=a5 r):Run (ev Γ (.bi f es)) st r st1:=aa a (aa (aN b) (cT c))
def vq(a:Run (a_ Γ es) st rs st1)(b:aY rs st1)(c:si f rs=a5 r):Run (ev Γ (.Gi f es)) st r st1:=aa a (aa (aN b) (cT c))
def vt(b:Run (ev Γ a) st x st1)(c:Run (a_ Γ es) st1 rs st2)(d:aY (x::rs) st2)(e:jf m x.2 rs=a5 r):Run (ev Γ (.Gj m a es)) st r st2:=aa b (aa c (aa (aN d) (cT e)))
def xV(h:Γ f us=a5 (.ok r))(a:isAny r.1=df):Run (jg Γ f us) st r st:=by
 have⟨k,u⟩:=r;change jg Γ f us st=_;unfold jg;rw[h];cases k<;>first|rfl|cases a
def cC(a:Run (a_ Γ es) st rs st1)(b:aY rs st1)(c:Γ f (rs.map (·.2))=a5 (.ok r))(d:isAny r.1=df:=by show rfl):Run (ev Γ (.call f es)) st r st1:=aa a (aa (aN b) (xV c d))
def ra(a:Run (a_ Γ es) st rs st1)(b:aY rs st1)(c:Run (cw rs) st1 us st2)(d:us.length<=dV):Run (ev Γ (.tup es)) st (.loc,.tup us) st2:=by
 show aa a (aa (aN b) (aa c ?_));rw[WJ d];show aM
def b9(a:Run (a_ Γ es) st rs st1)(b:aY rs st1)(c:Run (cw rs) st1 us st2)(d:us.length<=dV):Run (ev Γ (.lst es)) st (.own,.lst us) st2:=by
 show aa a (aa (aN b) (aa c ?_));rw[WJ d];show aM
def mr:Run (ev Γ (.EV r)) st (.own,if r=b5 then .Ec [] else .Dt [] []) st:=rfl
def rb:Run (lift (.own,u)) st u st:=rfl
def bh:Run (lift (.loc,u)) st u st:=rfl
def rf(h:DZ u=b5):Run (lift (.any,u)) st u st:=by
 change(if DZ u=b5 then(pure u:M U) else M.fail) st=_;rw[WJ h];rfl
def aV:Run (cw []) st [] st:=rfl
def bj(a:Run (lift r) st u st1)(b:Run (cw rs) st1 us st2):Run (cw (r::rs)) st (u::us) st2:=aa a (aa b aM)
def cG(d:Run (ev Γ a) st x st1)(e:Run (ev Γ b) st1 y st2)(f:aY [x,y] st2)(g:bB op x.2 y.2=a5 c):Run (DO Γ (.cmp op a b)) st c st2:=aa d (aa e (aa (aN f) (cT g)))
def nM(h:Run (aF Γ es) st c st1):Run (DO Γ (.and es)) st c st1:=h
def Ci(h:Run (eD Γ es) st c st1):Run (DO Γ (.or es)) st c st1:=h
def g_:Run (aF Γ []) st b5 st:=rfl
def dP(h:Run (DO Γ e) st c st1):Run (aF Γ [e]) st c st1:=h
def pU(h:Run (DO Γ e) st b5 st1)(a:Run (aF Γ (b::es)) st1 c st2):Run (aF Γ (e::b::es)) st c st2:=aa h a
def vv(h:Run (DO Γ e) st df st1):Run (aF Γ (e::a::es)) st df st1:=aa h aM
def yE(h:Run (DO Γ e) st c st1):Run (eD Γ [e]) st c st1:=h
def Cj(h:Run (DO Γ e) st b5 st1):Run (eD Γ (e::a::es)) st b5 st1:=aa h aM
def yF(h:Run (DO Γ e) st df st1)(a:Run (eD Γ (b::es)) st1 c st2):Run (eD Γ (e::b::es)) st c st2:=aa h a
def aZ:Run (d5 i (.own,u)) st () (st.set i (a5 (.own,u))):=rfl
def aO:Run (d5 i (.loc,u)) st () (st.set i (a5 (.loc,u))):=rfl
def jz:Run (d5 i (.any,u)) st () (st.set i (a5 (.any,u))):=rfl
def Cm(a:Run (ev Γ e) st r st1)(b:Run (d5 i r) st1 () st2):Run (exec Γ (.set i e)) st .nx st2:=aa a (aa b aM)
def Cn(b:∃k' us',st[i]?=a5 (a5 (k',.lst us'))/\k'≠.Ds)(c:Run (ev Γ e) st r st1)(d:Run (lift r) st1 u st2)(f:st2[i]?=a5 (a5 (k,.lst us)))(hk:k.root=b5)(hl:us.length<dV):
  Run (exec Γ (.app i e)) st .nx (st2.set i (a5 (k,.lst (us++[u])))):=by
 have⟨k',us',b,g⟩:=b;show aa (f_ b g) (aa (a:=()) (st1:=st) rfl (aa c (aa d (aa (a:=()) ?_ aM))));change modS i (uD u) st2=_;unfold modS;rw[f];simp only[hk,if_true];have e:uD u (.lst us)=a5 (.lst (us++[u])):=by change(if us.length<dV then _ else _)=_;rw[WJ hl]
 rw[e]
def Co(a:Run (ev Γ e) st r st1)(b:Run (retS r) st1 f st2):Run (exec Γ (.ret e)) st f st2:=aa a b
def nN:Run (retS (.own,u)) st (.rt .own u) st:=rfl
def jA:Run (retS (.loc,u)) st (.rt .loc u) st:=rfl
def Cp(h:DZ u=b5):Run (retS (.any,u)) st (.rt .loc u) st:=by
 change(if DZ u=b5 then(pure (Fl.rt .loc u):M Fl) else pure (.rt .any u)) st=_;rw[WJ h];rfl
def jB(h:st[j]?=a5 (a5 (.own,u))):Run (retS (.bor j,a)) st (.rt .own u) (st.set j b6):=by
 change(match st[j]? with|some (a5 (.own,u))=>a5 (Ex.ok (Fl.rt .own u),st.set j b6)|_=>b6)=_;rw[h]
def mw(d:Run (DO Γ c) st b5 st1)(e:Run (execs Γ a) st1 f st2):Run (exec Γ (.ite c a b)) st f st2:=aa d e
def pV(d:Run (DO Γ c) st df st1)(e:Run (execs Γ b) st1 f st2):Run (exec Γ (.ite c a b)) st f st2:=aa d e
def aB:Run (execs Γ []) st .nx st:=rfl
def d6(a:Run (exec Γ s) st .nx st1)(b:Run (execs Γ ss) st1 f st2):Run (execs Γ (s::ss)) st f st2:=aa a b
def xW(a:Run (exec Γ s) st (.rt k u) st1):Run (execs Γ (s::ss)) st (.rt k u) st1:=aa a aM
def ax(a:Run (ev Γ e) st r st1)(b:Run (d5 i r) st1 () st2)(c:Run (execs Γ ss) st2 f st3):Run (execs Γ (.set i e::ss)) st f st3:=d6 (Cm a b) c
def hJ(a:st[i]?=a5 (a5 (k',.lst us')))(b:Run (ev Γ e) st r st1)(c:Run (lift r) st1 u st2)(d:st2[i]?=a5 (a5 (k,.lst us)))(hk:k.root=b5)(hl:us.length<dV)
  (g:Run (execs Γ ss) (st2.set i (a5 (k,.lst (us++[u])))) f st3) (h:k'≠.Ds:=by intro z;cases z):Run (execs Γ (.app i e::ss)) st f st3:=d6 (Cn ⟨_,_,a,h⟩ b c d hk hl) g
def cU(a:Run (ev Γ e) st r st1)(b:Run (retS r) st1 (.rt k u) st2):Run (execs Γ (.ret e::ss)) st (.rt k u) st2:=xW (Co a b)
def eN(d:Run (DO Γ c) st b5 st1)(e:Run (execs Γ a) st1 .nx st2)(g:Run (execs Γ ss) st2 f st3):Run (execs Γ (.ite c a b::ss)) st f st3:=d6 (mw d e) g
def cj(d:Run (DO Γ c) st df st1)(e:Run (execs Γ b) st1 .nx st2)(g:Run (execs Γ ss) st2 f st3):Run (execs Γ (.ite c a b::ss)) st f st3:=d6 (pV d e) g
def AJ(d:Run (DO Γ c) st b5 st1)(e:Run (execs Γ a) st1 (.rt k u) st2):Run (execs Γ (.ite c a b::ss)) st (.rt k u) st2:=xW (mw d e)
def Cq(a:Run (a_ Γ src) st rs st1)(b:aY rs st1)(c:Fd d rs=a5 xs)(e:ny rs is body=b5)(g:Run (forM t is (execs Γ body) rs xs) st1 f st2):
  Run (exec Γ (.DJ t is d src body)) st f st2:=by
 show aa a (aa (aN b) (aa (cT c) ?_));rw[WJ e];show g
def cH(a:Run (a_ Γ src) st rs st1)(b:aY rs st1)(c:Fd d rs=a5 xs)(e:ny rs is body=b5)(g:Run (forM t is (execs Γ body) rs xs) st1 .nx st2)(h:Run (execs Γ ss) st2 f st3):
  Run (execs Γ (.DJ t is d src body::ss)) st f st3:=d6 (Cq a b c e g) h
def yG(h:aY rs st):Run (forM t is body rs []) st .nx st:=aa (aN h) aM
def Cr(h:aY rs st)(a:Run (cL t is x) st () st1)(b:Run body st1 .nx st2)(c:Run (forM t is body rs xs) st2 f st3):Run (forM t is body rs (x::xs)) st f st3:=aa (aN h) (aa a (aa b c))
theorem nO(I:List (Kd×U)->ak->Prop)(hs:∀xs st,I xs st->aY rs st)(Vf:∀x xs st,I (x::xs) st->∃st1 st2,Run (cL t is x) st () st1/\Run body st1 .nx st2/\I xs st2):
  ∀(xs:List (Kd×U)) (st:ak),I xs st->∃st',Run (forM t is body rs xs) st .nx st'/\I [] st'
 |[],st,h=>⟨st,yG (hs _ _ h),h⟩
 |x::xs,st,h=>by
  have⟨s1,s2,a,b,c⟩:=Vf x xs st h;have⟨s3,d,e⟩:=nO I hs Vf xs s2 c;show⟨s3,Cr (hs _ _ h) a b d,e⟩
def cD(h:Run (d5 i r) st () st1):Run (cL df [i] r) st () st1:=h
def aJ(a:us.length=fn.np)(hk:k=.own\/k=.loc)(hs:start us fn.ns=st0)(h:Run (execs Γ fn.body) st0 (.rt k u) st):bS Γ fn us=a5 (.ok (k,u)):=by
 subst hs;unfold bS;rw[WJ a,show execs Γ fn.body (start us fn.ns)=_ from h];rcases hk with rfl|rfl<;>rfl
def nP{cond:M Bool}(h:aY src st):Run (bp k t cond elt src [] acc) st acc st:=aa (aN h) aM
def jC{cond:M Bool}(h:aY src st)(c:Run (cL t (hE k) x) (l0 k b6++st) () s1)(d:Run cond s1 b5 s2)(e:Run elt s2 r s3)(g:Run (lift r) s3 u s4)
  (hl:acc.length<dV) (i:Run (bp k t cond elt src xs (acc++[u])) (s4.drop k) us st2):Run (bp k t cond elt src (x::xs) acc) st us st2:=by
 show aa (aN h) (aa (a:=a5 u) (st1:=s4.drop k) ?_ ?_)
 .change inScope k _ st=_;unfold inScope;have hh:Run (cL t (hE k) x >>= λ_=>cond >>= λb=>if b=b5 then(elt >>= λr=>lift r >>= λu=>pure (a5 u)) else pure b6) (l0 k b6++st) (a5 u) s4 :=
   aa c (aa d (show Run (elt >>= λr=>lift r >>= λu=>pure (a5 u)) s2 (a5 u) s4 from aa e (aa (f:=λu=>pure (a5 u)) g rfl)))
  rw[show _=_ from hh]
 .change Run (if acc.length<dV then bp k t cond elt src xs (acc++[u]) else M.fail) _ _ _;rw[WJ hl];show i
def pW{cond:M Bool}(h:aY src st)(c:Run (cL t (hE k) x) (l0 k b6++st) () s1)(d:Run cond s1 df s2)
  (e:Run (bp k t cond elt src xs acc) (s2.drop k) us st2):Run (bp k t cond elt src (x::xs) acc) st us st2:=by
 show aa (aN h) (aa (a:=b6) (st1:=s2.drop k) ?_ e);change inScope k _ st=_;unfold inScope;have hh:Run (cL t (hE k) x >>= λ_=>cond >>= λb=>if b=b5 then(elt >>= λr=>lift r >>= λu=>pure (a5 u)) else pure b6) (l0 k b6++st) b6 s2 :=
  aa c (aa d (show Run (pure b6:M (Option U)) s2 b6 s2 from rfl))
 rw[show _=_ from hh]
def cm{src cond:List E}(a:Run (a_ Γ src) st rs st1)(b:aY rs st1)(c:Fd d rs=a5 xs)(f:Run (bp k t (aF Γ cond) (ev Γ e) rs xs []) st1 us st2):Run (ev Γ (.comp k t d src cond e)) st (.own,.lst us) st2 :=
 aa a (aa (aN b) (aa (cT c) (aa f aM)))
theorem vA{cond:M Bool}(h:aY src st)(g:Kd×U->U)(a:Kd×U->Kd):∀(xs:List (Kd×U)) (acc:List U),acc.length+xs.length<=dV ->
  (∀x∈xs,x.1=.loc\/x.1=.any)->(∀x∈xs,Run cond (a5 x::st) b5 (a5 x::st)/\Run elt (a5 x::st) (a x,g x) (a5 x::st)/\Run (lift (a x,g x)) (a5 x::st) (g x) (a5 x::st))->Run (bp 1 df cond elt src xs acc) st (acc++xs.map g) st
 |[],acc,_,_,_=>by rw[H0,va];show nP h
 |x::xs,acc,hl,hk,c=>by
  have⟨d,e,f⟩:=c x (by simp);rw[lx]at hl;show jC (s1:=a5 x::st) (s2:=a5 x::st) (s3:=a5 x::st) (s4:=a5 x::st) h ?_ d e f ⋯ ?_
  .have⟨k,u⟩:=x;rcases hk _ (l' ..) with z|z<;>(cases z;rfl)
  .have:=vA h g a xs (acc++[g x]) (by simp;lia) (λy b=>hk y (by simp[b])) λy b=>c y (by simp[b]);rw[gc];simpa using this
theorem jD{cond:M Bool}(h:aY src st)(p:Kd×U->Bool)(g:Kd×U->U)(b:Kd×U->Kd):∀(xs:List (Kd×U)) (acc:List U),acc.length+xs.length<=dV ->
  (∀x∈xs,x.1=.loc\/x.1=.any)->(∀x∈xs,Run cond (a5 x::st) (p x) (a5 x::st)/\Run elt (a5 x::st) (b x,g x) (a5 x::st)/\Run (lift (b x,g x)) (a5 x::st) (g x) (a5 x::st))->Run (bp 1 df cond elt src xs acc) st (acc++(xs.filter p).map g) st
 |[],acc,_,_,_=>by rw[O4,H0,va];show nP h
 |x::xs,acc,hl,hk,e=>by
  have⟨c,i,j⟩:=e x (by simp);rw[lx]at hl;have f:Run (cL df (hE 1) x) (l0 1 b6++st) () (a5 x::st):=by
   have⟨k,u⟩:=x;rcases hk _ (l' ..) with z|z<;>(cases z;rfl)
  cases d:p x with
  |true =>
   rw[d]at c;show jC (s1:=a5 x::st) (s2:=a5 x::st) (s3:=a5 x::st) (s4:=a5 x::st) h f c i j ⋯ ?_;have:=jD h p g b xs (acc++[g x]) (by simp;lia) (λy a=>hk y (by simp[a])) λy a=>e y (by simp[a]);rw[E6,WJ d,gc];simpa using this
  |false =>
   rw[d]at c;show pW (s1:=a5 x::st) (s2:=a5 x::st) h f c ?_;have:=jD h p g b xs acc ⋯ (λy a=>hk y (by simp[a])) λy a=>e y (by simp[a]);rw[E6,WK (by simp[d])];show this
end
def cy(h:0<j):Fq .mod (k,.int i) (k',.int j)=a5 (.loc,.int (i % j)):=by change(wW i j).map _=_;rw[wW,WJ h];rfl
def vB(h:0<j/\j<1073741824):Fq .Fo (k,.int i) (k',.int j)=a5 (.loc,.int (i / j)):=by change(wV i j).map _=_;rw[wV,WJ h];rfl
def lj(h:(-(2 ^ 64)<i/\i<2 ^ 64)\/(-(2 ^ 64)<j/\j<2 ^ 64)):Fq .mul (k,.int i) (k',.int j)=a5 (.loc,.int (i * j)):=by change(wU i j).map _=_;rw[wU,WJ h];rfl
def ll(h:0<=j/\j<=1000000/\i.natAbs<2 ^ 64):Fq .pow (k,.int i) (k',.int j)=a5 (.loc,.int (i ^ j.toNat)):=by change(wX i j).map _=_;rw[wX,WJ h];rfl
def iJ:Fq .add (k,.int i) (k',.int j)=a5 (.loc,.int (i+j)):=rfl
def aH(h:DL xs i=a5 u):gv (k,.lst xs) (.int i)=a5 (kE k,u):=by change(DL xs i).map _=_;rw[h];rfl
def oG(h:DL xs i=a5 u):gv (k,.tup xs) (.int i)=a5 (kE k,u):=by change(DL xs i).map _=_;rw[h];rfl
def rg:Kd.own≠Kd.Ds:=by decide
local macro_rules
 |`(tactic| sizeOf_list_dec)=>`(tactic| first|exact aB|apply ax|apply hJ|apply cU|exact bw|exact ag rfl|exact bU rfl|exact aD rfl|apply fj|apply nL|apply dZ|apply fF|apply cC|apply vt|apply cG|exact aj|apply ah|apply ra|apply b9|exact aV|apply bj|exact bh|exact rb|(first|exact trivial|exact⟨⟨_,rfl,rfl⟩,trivial⟩|exact⟨⟨_,rfl,rfl⟩,⟨_,rfl,rfl⟩,trivial⟩)|exact iJ|exact oA|exact cy (by first|lia|decide)|exact vB (by first|lia|decide)|exact lj (by first|lia|decide)|exact ll (by decide)|exact aO|exact aZ|exact jz|exact jA|exact nN|exact jB rfl|exact mx _|exact rfl|exact rg)
abbrev pX(c k:Int):Int:=((c % 10 ^ 15+1) * 48271+k * k * 16807+k * 7919) % 2147483647 * 69621 % 2147483629
abbrev sQ:Fn:=⟨"_law_mix",2,3,[.set 2 (.bin .add (.bin .add (.bin .mul (.bin .add (.bin .mod (.var 0) (.bin .pow (.cst (.int 10)) (.cst (.int 15)))) (.cst (.int 1))) (.cst (.int 48271))) (.bin .mul (.bin .mul (.var 1) (.var 1)) (.cst (.int 16807)))) (.bin .mul (.var 1) (.cst (.int 7919)))),.ret (.bin .mod (.bin .mul (.bin .mod (.var 2) (.cst (.int 2147483647))) (.cst (.int 69621))) (.cst (.int 2147483629)))]⟩
def xX(a:0<=k)(b:k<2 ^ 63):bS Γ sQ [.int c,.int k]=a5 (.ok (.loc,.int (pX c k))):=by
 apply aJ (st0:=[a5 (.loc,.int c),a5 (.loc,.int k),b6]) rfl (.inr rfl) rfl
 repeat' sizeOf_list_dec
abbrev rh:Fn:=⟨"_law_cell",2,3,[.ite (.cmp .lt (.var 1) (.bi .len [.var 0])) [.ret (.idx (.var 0) (.var 1))] [],.set 2 (.cst (.int 0)),.ite (.cmp .gt (.bi .len [.var 0]) (.cst (.int 0))) [.set 2 (.idx (.var 0) (.bin .mod (.var 1) (.bi .len [.var 0])))] [],.ret (.bin .add (.bin .mul (.cst (.int 2)) (.call "_law_mix" [.var 2,.var 1])) (.cst (.int 1)))]⟩
abbrev vC(Γ:Tab):Prop:=∀c k:Int,0<=k->k<2 ^ 63->Γ "_law_mix" [.int c,.int k]=a5 (.ok (.loc,.int (pX c k)))
def yH(h:ez (i<j)=c):bB .lt (.int i) (.int j)=a5 c:=by subst h;rfl
def jE(h:ez (j<i)=c):bB .gt (.int i) (.int j)=a5 c:=by subst h;rfl
def eO(h:(i==j)=c):bB .eq (.int i) (.int j)=a5 c:=by subst h;rfl
def xY:EW .len [(k,.lst xs)]=a5 (.loc,.int (xs.length:Nat)):=rfl
def xZ:EW .len [(k,.tup xs)]=a5 (.loc,.int (xs.length:Nat)):=rfl
abbrev yI(ns:List Int)(k:Nat):Int:=if k<ns.length then(ns[k]?).getD 0 else 2 * pX ((ns[k % ns.length]?).getD 0) k+1
def vD(h:DL xs i=a5 u):gv (.any,.DT xs) (.int i)=a5 (.any,u):=by
 change(DL xs i).map _=_;rw[h];rfl
def vE(f:vC Γ){k:Nat}(hk:k<2 ^ 62):bS Γ rh [.DT (ns.map .int),.int k]=a5 (.ok (.loc,.int (yI ns k))):=by
 have b:∀c,Γ "_law_mix" [.int c,.int k]=a5 (.ok (.loc,.int (pX c k))):=λc=>f c k ⋯ ⋯;unfold yI;by_cases h:k<ns.length
 .rw[WJ h];have a:DL (ns.map U.int) (k:Int)=a5 (.int ((ns[k]?).getD 0)):=bQ (by simp[h]);apply aJ (st0:=[a5 (.any,.DT (ns.map .int)),a5 (.loc,.int k),b6]) rfl (.inr rfl) rfl;apply AJ
  all_goals repeat' (first|show yH (by simp[h])|show vD a|show Cp rfl|sizeOf_list_dec)
 .rw[WK h];have d:bB .lt (.int k) (.int ((ns.map U.int).length:Nat))=a5 df:=yH (by simp;lia);by_cases hz:0<ns.length
  .have g:k % ns.length<ns.length:=Tx _ hz;have a:DL (ns.map U.int) ((k:Int) % ((ns.map U.int).length:Nat))=a5 (.int ((ns[k % ns.length]?).getD 0)):=by
    rw[dt,show(k:Int) % (ns.length:Nat)=((k % ns.length:Nat):Int) by lia];show bQ (by simp[g])
   have i:(0:Int)<((ns.map U.int).length:Nat):=by simp;lia
   apply aJ (st0:=[a5 (.any,.DT (ns.map .int)),a5 (.loc,.int k),b6]) rfl (.inr rfl) rfl;apply cj
   all_goals repeat' (first|show d|sizeOf_list_dec)
   apply eN
   all_goals repeat' (first|show jE (by simp;lia)|show cy i|show vD a|show b _|sizeOf_list_dec)
  .have e:ns=[]:=MC ⋯;subst e;apply aJ (st0:=[a5 (.any,.DT ([].map .int)),a5 (.loc,.int k),b6]) rfl (.inr rfl) rfl;apply cj
   all_goals repeat' (first|show d|sizeOf_list_dec)
   apply cj
   all_goals repeat' (first|show b _|sizeOf_list_dec)
abbrev mz:Fn:=⟨"_law_drawn",2,5,[.set 2 (.lst []),.set 3 (.bin .Fo (.var 0) (.cst (.int 2))),.DJ df [4] .DV [.var 1] [.ite (.cmp .eq (.bin .mod (.var 0) (.cst (.int 2))) (.cst (.int 0))) [.app 2 (.bin .mod (.var 3) (.cst (.int 64))),.set 3 (.bin .Fo (.var 3) (.cst (.int 64)))] [.app 2 (.bin .mod (.bin .Fo (.call "_law_mix" [.var 0,.var 4]) (.cst (.int 7))) (.cst (.int 4096)))]],.ret (.var 2)]⟩
def nQ(x:Kd×U):Fd .DV [x]=sj x:=rfl
def jF(h:n<2 ^ 62):Fd .DV [(k,.int (n:Nat))]=a5 ((hE n).map λi:Nat=>(Kd.loc,U.int (0+(i:Int)))):=by
 rw[nQ,sj,WJ ⋯,Ii]
abbrev dw(n:Nat)(xs:List (Kd×U)):Prop:=∃i,i<=n/\xs=((hE n).drop i).map λi:Nat=>(Kd.loc,U.int (0+(i:Int)))
def dw.cons(h:dw n (x::xs)):∃i:Nat,i<n/\x=(.loc,.int (i:Nat))/\dw n xs/\i+xs.length+1=n:=by
 have⟨i,b,e⟩:=h;by_cases a:i<n
 .rw[NH (by simpa using a),gc]at e;cases e;show⟨i,a,by simp,⟨i+1,a,rfl⟩,by simp;lia⟩
 .rw[List.drop_eq_nil_of_le (by simp;lia)]at e;cases e
def dw.all(n:Nat):dw n ((hE n).map λi:Nat=>(Kd.loc,U.int (0+(i:Int)))):=⟨0,mx _,rfl⟩
def sR(r:vC Γ)(y:n<1000):∃a:List Int,a.length=n/\(∀d∈a,0<=d)/\bS Γ mz [.int c,.int n]=a5 (.ok (.own,.lst (a.map .int))):=by
 have hsz:(1000:Nat)<=dV:=by decide
 let I:List (Kd×U)->ak->Prop:=λxs st=>∃(a:List Int) (us:List U) (left:Int) (o:Option (Kd×U)),st=[a5 (.loc,.int c),a5 (.loc,.int n),a5 (.own,.lst us),a5 (.loc,.int left),o]/\us=a.map .int/\(∀d∈a,0<=d)/\a.length+xs.length=n/\dw n xs;have b:=nO (t:=df) (is:=[4]) (body:=execs Γ [.ite (.cmp .eq (.bin .mod (.var 0) (.cst (.int 2))) (.cst (.int 0)))
    [.app 2 (.bin .mod (.var 3) (.cst (.int 64))),
    .set 3 (.bin .Fo (.var 3) (.cst (.int 64)))]
    [.app 2 (.bin .mod (.bin .Fo (.call "_law_mix" [(.var 0),(.var 4)]) (.cst (.int 7))) (.cst (.int 4096)))]]) (rs:=[(.loc,.int n)]) I (λ_ _ _=>trivial) (λx xs st s=>by
  have⟨a,us,left,o,e,f,g,hl,u⟩:=s;subst e;have l:us.length=a.length:=by rw[f];simp
  have⟨i,A,rfl,m,p⟩:=u.cons;have v:Γ "_law_mix" [.int c,.int i]=a5 (.ok (.loc,.int (pX c i))):=r c i ⋯ ⋯;rw[lx]at hl;by_cases q:c % 2=0
  .show⟨[a5 (.loc,.int c),a5 (.loc,.int n),a5 (.own,.lst us),a5 (.loc,.int left),a5 (.loc,.int i)],[a5 (.loc,.int c),a5 (.loc,.int n),a5 (.own,.lst (us++[.int (left % 64)])),a5 (.loc,.int (left / 64)),a5 (.loc,.int i)],aO,?_,⟨a++[left % 64],_,left / 64,_,rfl,by simp[f],?_,by simp;lia,m⟩⟩
   .apply eN
    all_goals repeat' (first|show eO (by simp[q])|show(by rw[l];lia)|sizeOf_list_dec)
   .intro d h;rcases ko.mp h with z|z
    .show g d z
    .rw[ti.mp z];lia
  .show⟨[a5 (.loc,.int c),a5 (.loc,.int n),a5 (.own,.lst us),a5 (.loc,.int left),a5 (.loc,.int i)],[a5 (.loc,.int c),a5 (.loc,.int n),a5 (.own,.lst (us++[.int (pX c i / 7 % 4096)])),a5 (.loc,.int left),a5 (.loc,.int i)],aO,?_,⟨a++[pX c i / 7 % 4096],_,left,_,rfl,by simp[f],?_,by simp;lia,m⟩⟩
   .apply cj
    all_goals repeat' (first|show eO (by simp[q])|show v|show(by rw[l];lia)|sizeOf_list_dec)
   .intro d h;rcases ko.mp h with z|z
    .show g d z
    .rw[ti.mp z];lia)
 obtain⟨st',w,a,us,left,o,e,f,g,hl,_⟩:=b ((hE n).map λi:Nat=>(Kd.loc,U.int (0+(i:Int)))) [a5 (.loc,.int c),a5 (.loc,.int n),a5 (.own,.lst []),a5 (.loc,.int (c / 2)),b6] ⟨[],[],c / 2,b6,rfl,rfl,by simp,by simp,dw.all n⟩;subst e f;show⟨a,by simpa using hl,g,?_⟩;apply aJ (st0:=[a5 (.loc,.int c),a5 (.loc,.int n),b6,b6,b6]) rfl (.inl rfl) rfl
 repeat' sizeOf_list_dec
 have j:=jF (k:=.loc) (n:=n) ⋯;refine' cH (rs:=[(.loc,.int n)]) (st1:=[a5 (.loc,.int c),a5 (.loc,.int n),a5 (.own,.lst []),a5 (.loc,.int (c / 2)),b6]) _ trivial j rfl w _
 all_goals repeat' sizeOf_list_dec
end TM
local macro_rules
 |`(tactic| sizeOf_list_dec)=>`(tactic| first|exact TM.aB|apply TM.ax|apply TM.hJ|apply TM.cU|exact TM.bw|exact TM.ag rfl|exact TM.bU rfl|exact TM.aD rfl|apply TM.fj|apply TM.nL|apply TM.dZ|apply TM.fF|apply TM.cC|apply TM.vt|apply TM.cG|exact TM.aj|apply TM.ah|apply TM.ra|apply TM.b9|exact TM.aV|apply TM.bj|exact TM.bh|exact TM.rb|(first|exact trivial|exact⟨⟨_,rfl,rfl⟩,trivial⟩|exact⟨⟨_,rfl,rfl⟩,⟨_,rfl,rfl⟩,trivial⟩)|exact TM.iJ|exact TM.oA|exact TM.cy (by first|lia|decide)|exact TM.vB (by first|lia|decide)|exact TM.lj (by first|lia|decide)|exact TM.ll (by decide)|exact TM.aO|exact TM.aZ|exact TM.jz|exact TM.jA|exact TM.nN|exact TM.jB rfl|exact mx _|exact rfl|exact TM.rg)
namespace TM
open PySem L2 D4
def rj(a:0<=z)(h:z<2 ^ 62):Fd .DV [(k,.int z)]=a5 ((hE z.toNat).map λi:Nat=>(Kd.loc,U.int (0+(i:Int)))):=by
 rw[nQ,sj,WJ ⋯]
def iN(a:x.length<=dV)(h:DL x.cps.toList i=a5 c):gv (k,.str x) (.int i)=a5 (.loc,.str (D4.one c)):=by
 simp only[gv];rw[WJ a,h];rfl
def jG:small.length<=dV:=by decide
def bo{a:List Int}{i:Nat}(h:i<a.length):DL (a.map U.int) (i:Int)=a5 (.int ((a[i]?).getD 0)):=bQ (by simp[h])
theorem cn:∀(ss:List Str),strsOf (ss.map U.str)=a5 ss
 |[]=>rfl
 |s::ss=>by change(strsOf (ss.map U.str)).map (s::·)=_;rw[cn ss];rfl
abbrev mB(a:E):Fn:=⟨"_law_name",2,6,[.set 2 (.cst (.str "abcdefghijklmnopqrstuvwxyz")),.set 3 (.Gj .join (.cst (.str "")) [.comp 1 df .DV [.bin .add (.cst (.int 1)) (.bin .mod (.idx (.var 0) (.cst (.int 0))) (.cst (.int 8)))] [] (.idx (.var 3) (.bin .mod (.idx (.var 1) (.bin .add (.cst (.int 4)) (.var 0))) (.cst (.int 26))))]),.ite (.cmp .gt (.bi .len [.var 1]) (.cst (.int 0))) [.set 4 (.idx (.Gj .split (.idx (.var 1) (.bin .mod (.idx (.var 0) (.cst (.int 1))) (.bi .len [.var 1]))) [.cst (.str "/")]) (.cst (.int 0))),.ite (.cmp .eq (.bin .mod (.idx (.var 0) (.cst (.int 2))) (.cst (.int 4))) (.cst (.int 1))) [.set 3 (.FX (.bin .add (.var 4) (.var 3)) [] [.cst (.int 8)])] [],.ite (.cmp .eq (.bin .mod (.idx (.var 0) (.cst (.int 2))) (.cst (.int 4))) (.cst (.int 2))) [.set 3 (.bin .add (.bin .add (.var 4) (.cst (.str "/"))) (.bi .str [.bin .add (.cst (.int 2)) (.bin .mod (.idx (.var 0) (.cst (.int 3))) a)]))] []] [],.set 5 (.bin .add (.lst [.var 3]) (.comp 1 df .DV [.cst (.int 40)] [] (.bin .add (.idx (.var 3) (.bin .Fo (.var 0) (.cst (.int 26)))) (.idx (.var 3) (.bin .mod (.var 0) (.cst (.int 26))))))),.ret (.idx (.comp 1 df .seq [.var 5] [.cmp .Dv (.var 0) (.var 2)] (.var 0)) (.cst (.int 0)))]⟩
abbrev x6(b:E):Prop:=∀(Γ:Tab) (a:List Int),12<=a.length->(∀d∈a,0<=d)->∃m:Int,0<m/\m<=98/\∀o1 o2 o3 o4 o5,Run (ev Γ b) [a5 (.any,.lst (a.map .int)),o1,o2,o3,o4,o5] (.loc,.int m) [a5 (.any,.lst (a.map .int)),o1,o2,o3,o4,o5]
@[reducible]def Cs:E:=.cst (.int 98)
def x8:x6 Cs:=λ_ _ _ _=>⟨98,by decide,by decide,λ_ _ _ _ _=>bw⟩
section
variable{Γ:Tab}{ds:List Int}
abbrev dd(ds:List Int)(i:Nat):Int:=(ds[i]?).getD 0
def c8(a:∀d∈ds,0<=d)(i:Nat):0<=dd ds i:=by
 unfold dd;cases e:ds[i]? with
 |none=>simp
 |some d=>show a d (nC e)
def mC(q:12<=ds.length)(g:∀d∈ds,0<=d):∃b:List Nat,(∀c∈b,low c=b5)/\1<=b.length/\b.length<=8 /\
  Run (ev Γ (.comp 1 df .DV [.bin .add (.cst (.int 1)) (.bin .mod (.idx (.var 0) (.cst (.int 0))) (.cst (.int 8)))] [] (.idx (.var 3) (.bin .mod (.idx (.var 1) (.bin .add (.cst (.int 4)) (.var 0))) (.cst (.int 26))))))
   [a5 (.any,.lst (ds.map .int)),o1,a5 (.loc,.str small),o3,o4,o5] (.own,.lst ((b.map D4.one).map .str)) [a5 (.any,.lst (ds.map .int)),o1,a5 (.loc,.str small),o3,o4,o5]:=by
 have hz:=c8 g 0;let n:=(1+dd ds 0 % 8).toNat;have h:n<=8/\1<=n:=by change(1+dd ds 0 % 8).toNat<=8/\1<=(1+dd ds 0 % 8).toNat;lia
 let f:Nat->Nat:=λi=>97+(dd ds (4+i) % 26).toNat;show⟨(hE n).map f,?_,by simp;show h.2,by simp;show h.1,?_⟩
 .intro c m;obtain⟨i,_,rfl⟩:=ki.mp m;have:=c8 g (4+i);show pR ⋯
 .have a:Run (bp 1 df (aF Γ []) (ev Γ (.idx (.var 3) (.bin .mod (.idx (.var 1) (.bin .add (.cst (.int 4)) (.var 0))) (.cst (.int 26))))) [(.loc,.int (1+dd ds 0 % 8))] ((hE n).map λi:Nat=>(Kd.loc,U.int (0+(i:Int)))) [])
    [a5 (.any,.lst (ds.map .int)),o1,a5 (.loc,.str small),o3,o4,o5] ([]++((hE n).map λi:Nat=>(Kd.loc,U.int (0+(i:Int)))).map λx=>match x.2 with|.int j=>.str (D4.one (97+(dd ds (4+j.toNat) % 26).toNat))|u=>u) [a5 (.any,.lst (ds.map .int)),o1,a5 (.loc,.str small),o3,o4,o5]:=by
   have r:(8:Nat)<=dV:=by decide
   show vA (by show trivial) _ (λ_=>.loc) _ _ (by simp;lia) (λx a=>?_) (λx a=>?_)
   .obtain⟨i,_,rfl⟩:=ki.mp a;show .inl rfl
   .have⟨i,o,rfl⟩:=ki.mp a;have s:i<n:=by simpa using o
    have l:DL (ds.map U.int) (4+(0+(i:Int)))=a5 (.int (dd ds (4+i))):=by
     rw[show(4+(0+(i:Int)))=((4+i:Nat):Int) by lia];show bo ⋯
    have t:=c8 g (4+i);have hs:=jx (k:=dd ds (4+i) % 26) ⋯ ⋯;show⟨g_,?_,bh⟩;simp only[R7,Ii];rw[R7]at l
    repeat' (first|show aH l|show iN jG hs|sizeOf_list_dec)
  have e:((hE n).map f).map D4.one=(hE n).map λi=>D4.one (97+(dd ds (4+i) % 26).toNat):=by rw[kj];rfl
  rw[e];have p:([]++((hE n).map λi:Nat=>(Kd.loc,U.int (0+(i:Int)))).map λx=>match x.2 with|.int j=>U.str (D4.one (97+(dd ds (4+j.toNat) % 26).toNat))|u=>u)=((hE n).map λi=>D4.one (97+(dd ds (4+i) % 26).toNat)).map U.str:=by
   rw[my,kj,kj];apply Bs;intro i _;simp
  rw[p]at a;show cm (rs:=[(.loc,.int (1+dd ds 0 % 8))]) ?_ trivial (rj ⋯ ⋯) a
  repeat' (first|show aH (bo (i:=0) ⋯)|sizeOf_list_dec)
def iz(h:x.length+y.length<=dV):Fq .add (k,.str x) (k',.str y)=a5 (.loc,.str (x++y)):=by
 simp only[Fq,uu];rw[WJ h]
theorem e_:∀(ss:List Str) (n:Nat),cB n (ss.map U.str)=b5
 |[],n=>by simp[cB]
 |s::ss,n=>by simp only[gc,cB,e_ ss n,MB];cases n<;>rfl
theorem nR(x:Str):∀(ss:List Str),((ss.map U.str).any λy=>bM y (.str x))=ez (x∈ss)
 |[]=>by simp
 |s::ss=>by
  rw[gc,Qc,nR x ss];have:bM (.str s) (.str x)=ez (x=s):=by
   simp only[bM];by_cases h:x=s
   .subst h;simp
   .have h':s≠x:=λz=>h z.symm;simp[h,h']
  rw[this,FW];simp
def x9(x:Str)(ss:List Str):G6 (.str x) (ss.map U.str)=a5 (ez (x∈ss)):=by
 unfold G6;rw[WJ ⟨by rfl,e_ ss 50⟩,nR]
def nS{ss:List Str}:bB .Dv (.str x) (.lst (ss.map U.str))=a5 (ez (x∉ss)):=by
 change(G6 (.str x) (ss.map U.str)).map (!·)=_;rw[x9];simp
def nU:Run (ev Γ (.comp 1 df .DV [.cst (.int 40)] [] (.bin .add (.idx (.var 3) (.bin .Fo (.var 0) (.cst (.int 26)))) (.idx (.var 3) (.bin .mod (.var 0) (.cst (.int 26)))))))
   [o0,o1,a5 (.loc,.str small),o3,o4,o5] (.own,.lst (bx.map .str)) [o0,o1,a5 (.loc,.str small),o3,o4,o5]:=by
 have g:(100:Nat)<=dV:=by decide
 have a:Run (bp 1 df (aF Γ []) (ev Γ (.bin .add (.idx (.var 3) (.bin .Fo (.var 0) (.cst (.int 26)))) (.idx (.var 3) (.bin .mod (.var 0) (.cst (.int 26)))))) [(.loc,.int 40)] ((hE 40).map λi:Nat=>(Kd.loc,U.int (0+(i:Int)))) [])
   [o0,o1,a5 (.loc,.str small),o3,o4,o5] ([]++((hE 40).map λi:Nat=>(Kd.loc,U.int (0+(i:Int)))).map λx=>match x.2 with|.int j=>.str (kN j.toNat)|u=>u) [o0,o1,a5 (.loc,.str small),o3,o4,o5]:=by
  show vA (by show trivial) _ (λ_=>.loc) _ _ (by simp;lia) (λx a=>?_) (λx a=>?_)
  .obtain⟨i,_,rfl⟩:=ki.mp a;show .inl rfl
  .have⟨i,e,rfl⟩:=ki.mp a;have h:i<40:=by simpa using e
   show⟨g_,?_,bh⟩;simp only[R7,Ii];have c:=jx (k:=(i:Int) / 26) ⋯ ⋯;have d:=jx (k:=(i:Int) % 26) ⋯ ⋯;have f:((i:Int) / 26).toNat=i / 26:=by lia
   have b:((i:Int) % 26).toNat=i % 26:=by lia
   rw[f]at c;rw[b]at d;have ad:Fq .add (.loc,.str (D4.one (97+i / 26))) (.loc,.str (D4.one (97+i % 26)))=a5 (.loc,.str (kN i)):=by
    have:=iz (k:=.loc) (k':=.loc) (x:=D4.one (97+i / 26)) (y:=D4.one (97+i % 26)) (by change 1+1<=dV;lia);rw[this];rfl
   repeat' (first|show iN jG c|show iN jG d|show ad|sizeOf_list_dec)
 have b:([]++((hE 40).map λi:Nat=>(Kd.loc,U.int (0+(i:Int)))).map λx=>match x.2 with|.int j=>U.str (kN j.toNat)|u=>u)=bx.map U.str:=by
  rw[my,kj,bx,kj];apply Bs;intro i _;simp
 rw[b]at a;show cm (rs:=[(.loc,.int 40)]) (by repeat' sizeOf_list_dec) trivial (rj ⋯ ⋯) a
def sT{names ts:List Str}(hl:ts.length<=1000):Run (ev Γ (.comp 1 df .seq [.var 5] [.cmp .Dv (.var 0) (.var 2)] (.var 0)))
   [o0,a5 (.any,.lst (names.map .str)),o2,o3,o4,a5 (.own,.lst (ts.map .str))] (.own,.lst ((ts.filter λx=>ez (x∉names)).map .str)) [o0,a5 (.any,.lst (names.map .str)),o2,o3,o4,a5 (.own,.lst (ts.map .str))]:=by
 have c:(1000:Nat)<=dV:=by decide
 have a:=jD (cond:=aF Γ [.cmp .Dv (.var 0) (.var 2)]) (elt:=ev Γ (.var 0)) (src:=[(.bor 5,.lst (ts.map .str))]) (st:=[o0,a5 (.any,.lst (names.map .str)),o2,o3,o4,a5 (.own,.lst (ts.map .str))]) ⟨⟨.own,rfl,rfl⟩,trivial⟩
  (λx=>match x.2 with|.str y=>ez (y∉names)|_=>df) (λx=>x.2) (λ_=>.loc) ((ts.map U.str).map λu=>(kE (.bor 5),u)) [] (by simp;lia) (λx a=>by obtain⟨u,_,rfl⟩:=ki.mp a;show .inl rfl) (λx a=>by
   have⟨u,b,rfl⟩:=ki.mp a;obtain⟨y,_,rfl⟩:=ki.mp b;show⟨dP ?_,ag rfl,bh⟩
   repeat' (first|show nS|sizeOf_list_dec))
 have e:([]++(((ts.map U.str).map λu=>(kE (.bor 5),u)).filter λx=>match x.2 with|.str y=>ez (y∉names)|_=>df).map λx=>x.2)=(ts.filter λx=>ez (x∉names)).map U.str:=by
  rw[my,Vq,Vq,kj,kj];rfl
 rw[e]at a;show cm (rs:=[(.bor 5,.lst (ts.map .str))]) (by repeat' sizeOf_list_dec) ⟨⟨.own,rfl,rfl⟩,trivial⟩ rfl a
end
section
variable{Γ:Tab}{ds:List Int}
def sU{names:List Str}(d:names.length<40)(f:bG a.cps.toList):∃x st',bG x.cps.toList/\x∉names /\
  Run (execs Γ [.set 5 (.bin .add (.lst [.var 3]) (.comp 1 df .DV [.cst (.int 40)] [] (.bin .add (.idx (.var 3) (.bin .Fo (.var 0) (.cst (.int 26)))) (.idx (.var 3) (.bin .mod (.var 0) (.cst (.int 26))))))),
  .ret (.idx (.comp 1 df .seq [(.var 5)] [(.cmp .Dv (.var 0) (.var 2))] (.var 0)) (.cst (.int 0)))]) [o0,a5 (.any,.lst (names.map .str)),a5 (.loc,.str small),a5 (.loc,.str a),o4,b6] (.rt .loc (.str x)) st':=by
 have o:(1000:Nat)<=dV:=by decide
 have⟨y,g,i⟩:=pT names d;have j:(a::bx).filter (λx=>ez (x∉names))≠[]:=λz=>by
  have:y∈(a::bx).filter (λx=>ez (x∉names)):=uv.mpr ⟨mA _ g,by simpa using i⟩;rw[z]at this;cases this
 cases e:(a::bx).filter (λx=>ez (x∉names)) with
 |nil=>show absurd e j
 |cons x b =>
  have l:x∈(a::bx).filter (λx=>ez (x∉names)):=by rw[e];simp
  have⟨m,n⟩:=uv.mp l;have c:=sT (Γ:=Γ) (names:=names) (ts:=a::bx) (by simp[bx]) (o0:=o0) (o2:=a5 (.loc,.str small)) (o3:=a5 (.loc,.str a)) (o4:=o4);rw[e]at c;have ad:Fq .add (.own,.lst [.str a]) (.own,.lst (bx.map U.str))=a5 (.own,.lst ((a::bx).map U.str)):=by
   simp only[Fq,uu];rw[WJ ⟨by simp[bx];lia,rfl,rfl⟩];rfl
  show⟨x,[o0,a5 (.any,.lst (names.map .str)),a5 (.loc,.str small),a5 (.loc,.str a),o4,a5 (.own,.lst ((a::bx).map .str))],?_,by simpa using n,?_⟩
  .rcases ka.mp m with rfl|h
   .show f
   .have⟨k,hk,rfl⟩:=ki.mp h;show .inl (pS (by simpa using hk))
  .show ax (st2:=[o0,a5 (.any,.lst (names.map .str)),a5 (.loc,.str small),a5 (.loc,.str a),o4,a5 (.own,.lst ((a::bx).map .str))]) (fj (x:=(.own,.lst [.str a])) (b9 (ah (ag rfl) aj) (by(first|show trivial|show⟨⟨_,rfl,rfl⟩,trivial⟩|show⟨⟨_,rfl,rfl⟩,⟨_,rfl,rfl⟩,trivial⟩)) (bj bh aV) (by change 1<=dV;lia)) nU trivial ad) aZ ?_;show cU (dZ c bw trivial (aH (by change DL _ ((0:Nat):Int)=_;show bQ rfl))) jA
def vF(Q:x6 n)(D:12<=ds.length)(k:∀d∈ds,0<=d){names:List Str}(T:names.length<40)(Y:∀x∈names,bG x.cps.toList):
  ∃x,bG x.cps.toList/\x∉names/\bS Γ (mB n) [.lst (ds.map .int),.lst (names.map .str)]=a5 (.ok (.loc,.str x)):=by
 have⟨m,G,Sy,RE⟩:=Q Γ ds D k;have h8:(1000:Nat)<=dV:=by decide
 have⟨b,H,RF,I,J_⟩:=mC (Γ:=Γ) D k (o1:=a5 (.any,.lst (names.map .str))) (o3:=b6) (o4:=b6) (o5:=b6);have J':jf .join (.str "") [(.own,.lst ((b.map D4.one).map U.str))]=a5 (.loc,.str (RL td (b.map D4.one))):=by
  change(strsOf ((b.map D4.one).map U.str)).bind _=_;rw[cn];change(if VH td (b.map D4.one)=b5 then _ else _)=_;rw[WJ (nK b ⋯)];rfl
 let a:Str:=RL td (b.map D4.one);have o:a.cps.toList=b:=join_ones b;have J:dU a.cps.toList=b5:=by rw[o];show gZ H RF I
 have OR:a.length<=8:=by rw[len_list,o];show I
 have e:∀{f:Fl} {st':ak} (ss:List S),Run (execs Γ ss) [a5 (.any,.lst (ds.map .int)),a5 (.any,.lst (names.map .str)),a5 (.loc,.str small),a5 (.loc,.str a),b6,b6] f st' ->
   Run (execs Γ (.set 2 (.cst (.str "abcdefghijklmnopqrstuvwxyz"))::.set 3 (.Gj .join (.cst (.str "")) [.comp 1 df .DV [.bin .add (.cst (.int 1)) (.bin .mod (.idx (.var 0) (.cst (.int 0))) (.cst (.int 8)))] [] (.idx (.var 3) (.bin .mod (.idx (.var 1) (.bin .add (.cst (.int 4)) (.var 0))) (.cst (.int 26))))])::ss))
    [a5 (.any,.lst (ds.map .int)),a5 (.any,.lst (names.map .str)),b6,b6,b6,b6] f st':=λss h=>ax (r:=(.loc,.str small)) bw aO (ax (vt bw (ah J_ aj) (by(first|show trivial|show⟨⟨_,rfl,rfl⟩,trivial⟩|show⟨⟨_,rfl,rfl⟩,⟨_,rfl,rfl⟩,trivial⟩)) J') aO h)
 have l:∀(g:Str) (o4:Option (Kd×U)),bG g.cps.toList->∃x st',bG x.cps.toList/\x∉names/\Run (execs Γ [.set 5 (.bin .add (.lst [.var 3]) (.comp 1 df .DV [.cst (.int 40)] [] (.bin .add (.idx (.var 3) (.bin .Fo (.var 0) (.cst (.int 26)))) (.idx (.var 3) (.bin .mod (.var 0) (.cst (.int 26))))))),
  .ret (.idx (.comp 1 df .seq [(.var 5)] [(.cmp .Dv (.var 0) (.var 2))] (.var 0)) (.cst (.int 0)))]) [a5 (.any,.lst (ds.map .int)),a5 (.any,.lst (names.map .str)),a5 (.loc,.str small),a5 (.loc,.str g),o4,b6] (.rt .loc (.str x)) st':=λg o4 p=>sU T p
 by_cases hz:0<names.length
 .
  have q:(dd ds 1).toNat % names.length<names.length:=Tx _ hz;let j:=names[(dd ds 1).toNat % names.length]'q;have L:bG j.cps.toList:=Y _ (Mi q);have⟨y,r,E8,s⟩:=L.Dq;have JX:y.length<=8:=by rw[len_list];show((bH _).mp s).2.1
  have Ij:j.length<=11:=by rw[len_list];show L.len.2
  have RG:=c8 k 1;have EE:DL (names.map U.str) (dd ds 1 % ((names.map U.str).length:Nat))=a5 (.str j):=by
   rw[dt,show dd ds 1 % (names.length:Nat)=(((dd ds 1).toNat % names.length:Nat):Int) by rw[Int.natCast_emod,K7 RG]];show bQ (by simp[q];rfl)
  have Il:jf .split (.str j) [(.loc,.str "/")]=a5 (.own,.lst ((y::r).map U.str)):=by
   change(if (Tu "/"==0)=df/\j.length+2<=dV then a5 (Kd.own,U.lst ((Lf j "/").map .str)) else b6)=_;rw[WJ ⟨by decide,⋯⟩,show("/":Str)=yr from rfl,E8]
  have hp:(0:Int)<((names.map U.str).length:Nat):=by simp;lia
  have RH:gv (.own,.lst ((y::r).map U.str)) (.int 0)=a5 (.loc,.str y):=aH (by change DL _ ((0:Nat):Int)=_;show bQ rfl);have ac:=c8 k 2;have Sz:=c8 k 3;have i1:DL (ds.map U.int) 1=a5 (.int (dd ds 1)):=bo (i:=1) ⋯;have N:DL (ds.map U.int) 2=a5 (.int (dd ds 2)):=bo (i:=2) ⋯;have i3:DL (ds.map U.int) 3=a5 (.int (dd ds 3)):=bo (i:=3) ⋯;have go:∀g:Str,bG g.cps.toList->Run (execs Γ [.ite (.cmp .eq (.bin .mod (.idx (.var 0) (.cst (.int 2))) (.cst (.int 4))) (.cst (.int 1)))
    [.set 3 (.FX (.bin .add (.var 4) (.var 3)) [] [.cst (.int 8)])]
    [],
   .ite (.cmp .eq (.bin .mod (.idx (.var 0) (.cst (.int 2))) (.cst (.int 4))) (.cst (.int 2)))
    [.set 3 (.bin .add (.bin .add (.var 4) (.cst (.str "/"))) (.bi .str [.bin .add (.cst (.int 2)) (.bin .mod (.idx (.var 0) (.cst (.int 3))) n)]))]
    []]) [a5 (.any,.lst (ds.map .int)),a5 (.any,.lst (names.map .str)),a5 (.loc,.str small),a5 (.loc,.str a),a5 (.loc,.str y),b6] .nx [a5 (.any,.lst (ds.map .int)),a5 (.any,.lst (names.map .str)),a5 (.loc,.str small),a5 (.loc,.str g),a5 (.loc,.str y),b6] ->
    ∃x,bG x.cps.toList/\x∉names/\bS Γ (mB n) [.lst (ds.map .int),.lst (names.map .str)]=a5 (.ok (.loc,.str x)):=λg p hr=>by
   have⟨x,st',t,u,v⟩:=l g (a5 (.loc,.str y)) p;show⟨x,t,u,aJ (st0:=[a5 (.any,.lst (ds.map .int)),a5 (.any,.lst (names.map .str)),b6,b6,b6,b6]) rfl (.inr rfl) rfl (e _ (eN (st1:=[a5 (.any,.lst (ds.map .int)),a5 (.any,.lst (names.map .str)),a5 (.loc,.str small),a5 (.loc,.str a),b6,b6]) ?_ (ax (r:=(.loc,.str y)) (st1:=[a5 (.any,.lst (ds.map .int)),a5 (.any,.lst (names.map .str)),a5 (.loc,.str small),a5 (.loc,.str a),b6,b6]) ?_ aO hr) v))⟩
   .repeat' (first|show jE (by simp;lia)|sizeOf_list_dec)
   .repeat' (first|show cy hp|show aH EE|show aH i1|show Il|show RH|sizeOf_list_dec)
  have w:∀{c:Bool} {o3 o4:Option (Kd×U)},(dd ds 2 % 4==1)=c->Run (DO Γ (.cmp .eq (.bin .mod (.idx (.var 0) (.cst (.int 2))) (.cst (.int 4))) (.cst (.int 1)))) [a5 (.any,.lst (ds.map .int)),a5 (.any,.lst (names.map .str)),a5 (.loc,.str small),o3,o4,b6] c [a5 (.any,.lst (ds.map .int)),a5 (.any,.lst (names.map .str)),a5 (.loc,.str small),o3,o4,b6]:=λz=>by
   repeat' (first|show aH N|show eO z|sizeOf_list_dec)
  have A:∀{c:Bool} {o3 o4:Option (Kd×U)},(dd ds 2 % 4==2)=c->Run (DO Γ (.cmp .eq (.bin .mod (.idx (.var 0) (.cst (.int 2))) (.cst (.int 4))) (.cst (.int 2)))) [a5 (.any,.lst (ds.map .int)),a5 (.any,.lst (names.map .str)),a5 (.loc,.str small),o3,o4,b6] c [a5 (.any,.lst (ds.map .int)),a5 (.any,.lst (names.map .str)),a5 (.loc,.str small),o3,o4,b6]:=λz=>by
   repeat' (first|show aH N|show eO z|sizeOf_list_dec)
  by_cases B:dd ds 2 % 4=1
  .have RJ:y.length+a.length<=dV:=by lia
   have J3:pd (.loc,.str (y++a)) b6 (a5 8)=a5 (.loc,.str (PySem.StrLaws.sliceText (y++a) b6 (a5 8))):=by
    simp only[pd];rw[WJ (by rw[len_list];change(y.cps++a.cps).toList.length<=_;rw[PR,i5,<-len_list,<-len_list];lia)]
   show go (PySem.StrLaws.sliceText (y++a) b6 (a5 8)) (.inl ?_) ?_
   .have:=AI (y++a) 8;rw[show((8:Nat):Int)=8 from rfl]at this;rw[this];change dU ((y.cps++a.cps).toList.take 8)=b5;rw[PR];show sP s (by rw[o];show H)
   .show eN (w (by simp[B])) (ax (vp (fj (ag rfl) (ag rfl) trivial (iz RJ)) vm (vn bw) trivial J3) aO aB) (cj (A (by simp[B])) aB aB)
  .by_cases C:dd ds 2 % 4=2
   .have MI:=Tg (dd ds 3) (show m≠0 by lia);have KU:=Rt (dd ds 3) G;have J4:0<=2+dd ds 3 % m:=by lia
    have O:2+dd ds 3 % m<=99:=by lia
    have RK:=gF J4 O;have HY:EW .str [(.loc,.int (2+dd ds 3 % m))]=a5 (.loc,.str (oK (2+dd ds 3 % m))):=by
     simp only[EW,gw,wY];rw[WJ (by
      have:(2+dd ds 3 % m).natAbs<2 ^ 7:=by lia
      have h2:(2+dd ds 3 % m).natAbs≠0:=by lia
      have:=(Wj h2).mpr this;lia)]
     rfl
    have Nh:(y++("/":Str)).length=y.length+1:=by rw[len_list,len_list];change(y.cps++_).toList.length=_;rw[PR,i5];rfl
    have Ni:Run (ev Γ (.bin .add (.cst (.int 2)) (.bin .mod (.idx (.var 0) (.cst (.int 3))) n))) [a5 (.any,.lst (ds.map .int)),a5 (.any,.lst (names.map .str)),a5 (.loc,.str small),a5 (.loc,.str a),a5 (.loc,.str y),b6] (.loc,.int (2+dd ds 3 % m)) [a5 (.any,.lst (ds.map .int)),a5 (.any,.lst (names.map .str)),a5 (.loc,.str small),a5 (.loc,.str a),a5 (.loc,.str y),b6]:=fj bw (fj (dZ (bU rfl) bw trivial (aH i3)) (RE _ _ _ _ _) trivial (cy G)) trivial iJ;show go (y++"/"++oK (2+dd ds 3 % m)) (.inr ⟨y.cps.toList,(oK (2+dd ds 3 % m)).cps.toList,2+dd ds 3 % m,?_,s,⋯,O,rfl⟩) ?_
    .change((y.cps++#[47])++(oK _).cps).toList=_;simp
    .show cj (w (by simp[C])) aB (eN (A (by simp[C])) (ax (fj (fj (ag rfl) bw trivial (iz (by change y.length+1<=dV;lia))) (fF (ah Ni aj) trivial HY) trivial (iz (by rw[Nh];lia))) aO aB) aB)
   .show go a (.inl J) ?_;show cj (w (by simp[B])) aB (cj (A (by simp[C])) aB aB)
 .have⟨x,st',t,u,v⟩:=l a b6 (.inl J);show⟨x,t,u,aJ (st0:=[a5 (.any,.lst (ds.map .int)),a5 (.any,.lst (names.map .str)),b6,b6,b6,b6]) rfl (.inr rfl) rfl (e _ (cj (st1:=[a5 (.any,.lst (ds.map .int)),a5 (.any,.lst (names.map .str)),a5 (.loc,.str small),a5 (.loc,.str a),b6,b6]) ?_ aB v))⟩
  repeat' (first|show jE (WL (by simp only[dt];lia))|sizeOf_list_dec)
end
abbrev gG(Γ:Tab):Prop:=∀(ns:List Int) (k:Nat),k<2 ^ 62->∃z,Γ "_law_cell" [.DT (ns.map .int),.int (k:Nat)]=a5 (.ok (.loc,.int z))
abbrev fb(Γ:Tab):Prop:=∀(c:Int) (n:Nat),n<1000->∃a:List Int,a.length=n/\(∀d∈a,0<=d)/\Γ "_law_drawn" [.int c,.int (n:Nat)]=a5 (.ok (.own,.lst (a.map .int)))
abbrev vG(Γ:Tab):Prop:=∀(a:List Int) (names:List Str),12<=a.length->(∀d∈a,0<=d)->names.length<40->(∀x∈names,bG x.cps.toList)->∃x,bG x.cps.toList/\x∉names/\Γ "_law_name" [.lst (a.map .int),.lst (names.map .str)]=a5 (.ok (.loc,.str x))
abbrev fNames:Fn:=⟨"_law_names",3,5,[.set 3 (.lst []),.DJ df [4] .DV [.var 2] [.app 3 (.call "_law_name" [.call "_law_drawn" [.call "_law_cell" [.var 0,.bin .add (.var 1) (.var 4)],.cst (.int 12)],.var 3])],.ret (.var 3)]⟩
theorem sV(hc:gG Γ)(hd:fb Γ)(hn:vG Γ){ns:List Int}(hb:b<1000)(hm:m<40):
    ∃names:List Str,names.length=m/\names.Nodup/\(∀x∈names,bG x.cps.toList)/\bS Γ fNames [.DT (ns.map .int),.int (b:Nat),.int (m:Nat)]=a5 (.ok (.own,.lst (names.map .str))):=by
  have hsz:(1000:Nat)<=dV:=by decide
  let I:List (Kd×U)->ak->Prop:=λxs st=>∃(names:List Str) (us:List U) (o:Option (Kd×U)),st=[a5 (.any,.DT (ns.map .int)),a5 (.loc,.int (b:Nat)),a5 (.loc,.int (m:Nat)),a5 (.own,.lst us),o]/\us=names.map .str/\names.Nodup/\(∀x∈names,bG x.cps.toList)/\names.length+xs.length=m/\dw m xs;have loop:=nO (t:=df) (is:=[4]) (body:=execs Γ [.app 3 (.call "_law_name" [.call "_law_drawn" [.call "_law_cell" [.var 0,.bin .add (.var 1) (.var 4)],.cst (.int 12)],.var 3])]) (rs:=[(.loc,.int (m:Nat))]) I (λ_ _ _=>trivial) (λx xs st DH=>by
    obtain⟨names,us,o,e,e2,DN,hw,hl,hr⟩:=DH;subst e;obtain⟨i,hi,rfl,EM,hlen⟩:=hr.cons;rw[lx]at hl;obtain⟨z,hz⟩:=hc ns (b+i) ⋯;rw[Vw]at hz;obtain⟨ds,d1,d2,d3⟩:=hd z 12 ⋯;obtain⟨x,x1,x2,x3⟩:=hn ds names ⋯ d2 ⋯ hw;rw[<-e2]at x3;refine⟨[a5 (.any,.DT (ns.map .int)),a5 (.loc,.int (b:Nat)),a5 (.loc,.int (m:Nat)),a5 (.own,.lst us),a5 (.loc,.int (i:Nat))],[a5 (.any,.DT (ns.map .int)),a5 (.loc,.int (b:Nat)),a5 (.loc,.int (m:Nat)),a5 (.own,.lst (us++[.str x])),a5 (.loc,.int (i:Nat))],aO,?_,⟨names++[x],_,_,rfl,by simp[e2],?_,?_,by simp;lia,EM⟩⟩
    · repeat' (first|exact hz|exact d3|exact x3|exact(by rw[e2,dt];lia)|sizeOf_list_dec)
    · rw[sx]
      exact ⟨DN, by simp, fun y hy w GN => by have : w = x := by simpa using GN
                                              subst this;rintro rfl;exact x2 hy⟩
    · intro y hy
      rcases ko.mp hy with h|h
      · exact hw y h
      · rw[ti.mp h];exact x1)
  obtain⟨st',DK,names,us,o,e,e2,DN,hw,hl,_⟩:=loop ((hE m).map λi:Nat=>(Kd.loc,U.int (0+(i:Int)))) [a5 (.any,.DT (ns.map .int)),a5 (.loc,.int (b:Nat)),a5 (.loc,.int (m:Nat)),a5 (.own,.lst []),b6] ⟨[],[],b6,rfl,rfl,by simp,by simp,by simp,dw.all m⟩;subst e e2;refine⟨names,by simpa using hl,DN,hw,?_⟩;apply aJ (st0:=[a5 (.any,.DT (ns.map .int)),a5 (.loc,.int (b:Nat)),a5 (.loc,.int (m:Nat)),b6,b6]) rfl (.inl rfl) rfl
  repeat' sizeOf_list_dec
  have hit:=jF (k:=.loc) (n:=m) ⋯;refine' cH (rs:=[(.loc,.int (m:Nat))]) (st1:=[a5 (.any,.DT (ns.map .int)),a5 (.loc,.int (b:Nat)),a5 (.loc,.int (m:Nat)),a5 (.own,.lst []),b6]) _ trivial hit rfl DK _
  all_goals repeat' sizeOf_list_dec
abbrev hU:Fn:=⟨"_law_told",2,6,[.set 2 (.bi .len [.var 1]),.ite (.and [.cmp .gt (.bin .mod (.idx (.var 0) (.cst (.int 2))) (.cst (.int 3))) (.cst (.int 0)),.cmp .gt (.bin .mod (.idx (.var 0) (.cst (.int 0))) (.bi .len [.var 1])) (.cst (.int 0))]) [.set 2 (.bin .mod (.idx (.var 0) (.cst (.int 0))) (.bi .len [.var 1]))] [],.set 3 (.lst []),.DJ df [4] .DV [.idx (.lst [.cst (.int 0),.cst (.int 0),.cst (.int 1),.cst (.int 1),.cst (.int 1),.cst (.int 2),.cst (.int 2),.cst (.int 2),.cst (.int 3),.cst (.int 8)]) (.bin .mod (.idx (.var 0) (.cst (.int 1))) (.cst (.int 10)))] [.set 5 (.idx (.var 1) (.bin .mod (.idx (.var 0) (.bin .add (.cst (.int 3)) (.var 4))) (.var 2))),.ite (.cmp .Dv (.var 5) (.var 3)) [.app 3 (.var 5)] []],.ret (.bi .tuple [.var 3])]⟩
theorem Dr:∀j:Nat,j<10->∃q:Nat,q<=8/\DL [U.int 0,.int 0,.int 1,.int 1,.int 1,.int 2,.int 2,.int 2,.int 3,.int 8] (j:Int)=a5 (.int (q:Nat))
 |0,_=>⟨0,⋯,rfl⟩|1,_=>⟨0,⋯,rfl⟩|2,_=>⟨1,⋯,rfl⟩|3,_=>⟨1,⋯,rfl⟩|4,_=>⟨1,⋯,rfl⟩
 |5,_=>⟨2,⋯,rfl⟩|6,_=>⟨2,⋯,rfl⟩|7,_=>⟨2,⋯,rfl⟩|8,_=>⟨3,⋯,rfl⟩|9,_=>⟨8,⋯,rfl⟩
 |n+10,h=>absurd h ⋯
def AK(hz:0<=z)(b:0<t)(hl:t<=xs.length):∃x∈xs,DL xs (z % t)=a5 x:=by
 have c:=Tg z (by lia:t≠0);have e:=Rt z b;have⟨j,d⟩:=OS c;have a:j<xs.length:=by lia
 show⟨xs[j]'a,Mi a,?_⟩;rw[d];show bQ (by simp[a])
def rl{xs:List Str}{z t:Int}(hz:0<=z)(a:0<t)(hl:t<=xs.length):∃x∈xs,DL (xs.map U.str) (z % t)=a5 (.str x):=by
 have⟨u,b,e⟩:=AK (xs:=xs.map U.str) hz a (by simpa using hl);have⟨x,c,rfl⟩:=ki.mp b;show⟨x,c,e⟩
theorem vH{Γ:Tab}{ds:List Int}{names:List Str}(hd:11<=ds.length)(h0:∀d∈ds,0<=d)(hn:0<names.length):
    ∃told:List Str,told.length<=8/\told.Nodup/\(∀x∈told,x∈names)/\bS Γ hU [.lst (ds.map .int),.lst (names.map .str)]=a5 (.ok (.loc,.tup (told.map .str))):=by
  have hsz:(1000:Nat)<=dV:=by decide
  have i0:DL (ds.map U.int) 0=a5 (.int (dd ds 0)):=bo (i:=0) ⋯;have i1:DL (ds.map U.int) 1=a5 (.int (dd ds 1)):=bo (i:=1) ⋯;have i2:DL (ds.map U.int) 2=a5 (.int (dd ds 2)):=bo (i:=2) ⋯;have n0:=c8 h0 0;have n1:=c8 h0 1;have n2:=c8 h0 2;have hp:(0:Int)<((names.map U.str).length:Nat):=by simp;lia
  have hL:((names.map U.str).length:Int)=names.length:=by simp
  have Jr:=Rt (dd ds 0) hp;have MI:=Tg (dd ds 0) (by lia:((names.map U.str).length:Int)≠0);let B:=λ(t:Int) (us:List U) (o4 o5:Option (Kd×U))=>([a5 (.any,.lst (ds.map .int)),a5 (.any,.lst (names.map .str)),a5 (.loc,.int t),a5 (.own,.lst us),o4,o5]:ak)
  have hj:(dd ds 1 % 10).toNat<10:=by lia
  obtain⟨q,hq,EE⟩:=Dr _ hj;rw[K7 ⋯]at EE;have main:∀t:Int,0<t->t<=names.length->∃told:List Str,told.length<=8/\told.Nodup/\(∀x∈told,x∈names)/\∃st',Run (execs Γ (hU.body.drop 2)) [a5 (.any,.lst (ds.map .int)),a5 (.any,.lst (names.map .str)),a5 (.loc,.int t),b6,b6,b6] (.rt .loc (.tup (told.map .str))) st':=λt ht Ka=>by
    let I:List (Kd×U)->ak->Prop:=λxs st=>∃(told:List Str) (us:List U) (o4 o5:Option (Kd×U)),st=B t us o4 o5/\us=told.map .str/\told.Nodup/\(∀x∈told,x∈names)/\told.length+xs.length<=q/\dw q xs;have loop:=nO (t:=df) (is:=[4]) (body:=execs Γ [.set 5 (.idx (.var 1) (.bin .mod (.idx (.var 0) (.bin .add (.cst (.int 3)) (.var 4))) (.var 2))),
      .ite (.cmp .Dv (.var 5) (.var 3))
        [.app 3 (.var 5)]
        []]) (rs:=[(.loc,.int (q:Nat))]) I (λ_ _ _=>trivial) (λx xs st DH=>by
      obtain⟨told,us,o4,o5,e,e2,DN,hw,hl,hr⟩:=DH;subst e;obtain⟨i,hi,rfl,EM,hlen⟩:=hr.cons;rw[lx]at hl;have ik:DL (ds.map U.int) (3+(i:Int))=a5 (.int (dd ds (3+i))):=by
        rw[show(3+(i:Int))=((3+i:Nat):Int) by lia];exact bo ⋯
      obtain⟨x,hx,OT⟩:=rl (xs:=names) (c8 h0 (3+i)) ht Ka;have IQ:bB .Dv (.str x) (.lst us)=a5 (ez (x∉told)):=by rw[e2];exact nS
      by_cases Es:x∈told
      · refine⟨B t us (a5 (.loc,.int (i:Nat))) o5,B t us (a5 (.loc,.int (i:Nat))) (a5 (.any,.str x)),aO,?_,⟨told,us,_,_,rfl,e2,DN,hw,⋯,EM⟩⟩
        refine ax (r:=(.any,.str x)) (st1:=B t us (a5 (.loc,.int (i:Nat))) o5) ?_ jz (cj (st1:=B t us (a5 (.loc,.int (i:Nat))) (a5 (.any,.str x))) ?_ aB aB)
        · repeat' (first|exact aH ik|exact cy ht|exact aH OT|sizeOf_list_dec)
        · have:bB .Dv (.str x) (.lst us)=a5 df:=by rw[IQ];simp[Es]
          repeat' (first|exact this|sizeOf_list_dec)
      · refine⟨B t us (a5 (.loc,.int (i:Nat))) o5,B t (us++[.str x]) (a5 (.loc,.int (i:Nat))) (a5 (.any,.str x)),aO,?_,⟨told++[x],_,_,_,rfl,by simp[e2],?_,?_,by simp;lia,EM⟩⟩
        · refine ax (r:=(.any,.str x)) (st1:=B t us (a5 (.loc,.int (i:Nat))) o5) ?_ jz (eN (st1:=B t us (a5 (.loc,.int (i:Nat))) (a5 (.any,.str x))) (st2:=B t (us++[.str x]) (a5 (.loc,.int (i:Nat))) (a5 (.any,.str x))) ?_ ?_ aB)
          · repeat' (first|exact aH ik|exact cy ht|exact aH OT|sizeOf_list_dec)
          · have:bB .Dv (.str x) (.lst us)=some true:=by rw[IQ];simp[Es]
            repeat' (first|exact this|sizeOf_list_dec)
          · repeat' (first|exact rf rfl|exact(by rw[e2,dt];lia)|sizeOf_list_dec)
        · rw[sx]
          exact ⟨DN, by simp, fun y hy w GN => by have : w = x := by simpa using GN
                                                  subst this;rintro rfl;exact Es hy⟩
        · intro y hy
          rcases ko.mp hy with h|h
          · exact hw y h
          · rw[ti.mp h];exact hx)
    obtain⟨st',DK,told,us,o4,o5,e,e2,DN,hw,hl,_⟩:=loop ((hE q).map λi:Nat=>(Kd.loc,U.int (0+(i:Int)))) (B t [] b6 b6) ⟨[],[],b6,b6,rfl,rfl,by simp,by simp,by simp,dw.all q⟩;subst e e2;refine⟨told,by simp at hl;lia,DN,hw,?_⟩;have hit:=jF (k:=.loc) (n:=q) ⋯;refine⟨B t (told.map .str) o4 o5,ax (r:=(.own,.lst [])) (b9 aj trivial aV (mx _)) aZ (cH (rs:=[(.loc,.int (q:Nat))]) (st1:=B t [] b6 b6) ?_ trivial hit rfl DK ?_)⟩
    · refine ah (dZ (x:=(.own,.lst [U.int 0,.int 0,.int 1,.int 1,.int 1,.int 2,.int 2,.int 2,.int 3,.int 8])) (y:=(.loc,.int (dd ds 1 % 10))) (st1:=B t [] b6 b6) ?_ ?_ trivial (aH EE)) aj
      · repeat' (first|exact(by decide:(10:Nat)<=dV)|sizeOf_list_dec)
      · repeat' (first|exact aH i1|sizeOf_list_dec)
    · repeat' sizeOf_list_dec
  have fin:∀t:Int,0<t->t<=names.length->(∀{f:Fl} {st':ak},Run (execs Γ (hU.body.drop 2)) [a5 (.any,.lst (ds.map .int)),a5 (.any,.lst (names.map .str)),a5 (.loc,.int t),b6,b6,b6] f st'->Run (execs Γ hU.body) [a5 (.any,.lst (ds.map .int)),a5 (.any,.lst (names.map .str)),b6,b6,b6,b6] f st') ->
      ∃told:List Str,told.length<=8/\told.Nodup/\(∀x∈told,x∈names)/\bS Γ hU [.lst (ds.map .int),.lst (names.map .str)]=a5 (.ok (.loc,.tup (told.map .str))):=λt ht Ka hh=>by
    obtain⟨told,a1,a2,a3,st',a4⟩:=main t ht Ka;exact⟨told,a1,a2,a3,aJ (st0:=[a5 (.any,.lst (ds.map .int)),a5 (.any,.lst (names.map .str)),b6,b6,b6,b6]) rfl (.inr rfl) rfl (hh a4)⟩
  let S0:ak:=[a5 (.any,.lst (ds.map .int)),a5 (.any,.lst (names.map .str)),a5 (.loc,.int ((names.map U.str).length:Nat)),b6,b6,b6]
  have q1:∀{c:Bool},ez (0<dd ds 2 % 3)=c->Run (DO Γ (.cmp .gt (.bin .mod (.idx (.var 0) (.cst (.int 2))) (.cst (.int 3))) (.cst (.int 0)))) S0 c S0:=λh=>by repeat' (first|exact aH i2|exact jE h|sizeOf_list_dec)
  have q2:∀{c:Bool},ez (0<dd ds 0 % ((names.map U.str).length:Nat))=c->Run (DO Γ (.cmp .gt (.bin .mod (.idx (.var 0) (.cst (.int 0))) (.bi .len [.var 1])) (.cst (.int 0)))) S0 c S0:=λh=>by repeat' (first|exact aH i0|exact cy hp|exact jE h|sizeOf_list_dec)
  have s2:Run (ev Γ (.bi .len [.var 1])) [a5 (.any,.lst (ds.map .int)),a5 (.any,.lst (names.map .str)),b6,b6,b6,b6] (.loc,.int ((names.map U.str).length:Nat)) [a5 (.any,.lst (ds.map .int)),a5 (.any,.lst (names.map .str)),b6,b6,b6,b6]:=by repeat' sizeOf_list_dec
  have s3:Run (ev Γ (.bin .mod (.idx (.var 0) (.cst (.int 0))) (.bi .len [.var 1]))) S0 (.loc,.int (dd ds 0 % ((names.map U.str).length:Nat))) S0:=by repeat' (first|exact aH i0|exact cy hp|sizeOf_list_dec)
  by_cases c1:0<dd ds 2 % 3
  · by_cases c2:0<dd ds 0 % ((names.map U.str).length:Nat)
    · exact fin (dd ds 0 % ((names.map U.str).length:Nat)) c2 ⋯ λh=>ax s2 aO (eN (nM (pU (q1 (WM c1)) (dP (q2 (WM c2))))) (ax s3 aO aB) h)
    · exact fin ((names.map U.str).length:Nat) hp ⋯ λh=>ax s2 aO (cj (nM (pU (q1 (WM c1)) (dP (q2 (WL c2))))) aB h)
  · exact fin ((names.map U.str).length:Nat) hp ⋯ λh=>ax s2 aO (cj (nM (vv (q1 (WL c1)))) aB h)
def rm(g:Run (ev Γ h) st rv st1)(j:st1[i]?=a5 (a5 (k',u')))(l:Run (ev Γ m) st1 rk st2)(n:Run (cw [rv,rk]) st2 [b,c] st3)(o:st3[i]?=a5 (a5 (k,d)))(hk:k.root=b5)(p:c_ c b d=a5 e)
  (q:Run (execs Γ ss) (st3.set i (a5 (k,e))) f r) (s:k'≠.Ds:=by intro z;cases z):Run (execs Γ (.put i m h::ss)) st f r:=by
 show d6 (aa g (aa (f_ j s) (aa l (aa n (aa (a:=()) (st1:=st3.set i (a5 (k,e))) ?_ aM))))) q;change modS i (qI [b,c]) st3=_;unfold modS;rw[o];simp only[hk,if_true];change(match c_ c b d with|some u'=>_|none=>b6)=_;rw[p]
@[reducible]def Row:=Str×List Str
abbrev B'(r:Row):U:=.tup [.str r.1,.tup (r.2.map .str)]
abbrev keyOf(r:Row):Row:=(r.1,av r.2)
def kO(r:Row):rowOf (B' r)=a5 r:=by
 change(strsOf (r.2.map U.str)).map _=_;rw[cn];rfl
def sorted_strs(h:ss.length<64):EW .sorted [(k,.tup (ss.map .str))]=a5 (.own,.lst ((av ss).map .str)):=by
 change(strsOf (ss.map U.str)).bind _=_;rw[cn];change(if ss.length<64 then _ else _)=_;rw[WJ h]
abbrev vI:Fn:=⟨"_law_book",4,10,[.set 4 (.lst []),.set 5 (.EV b5),.DJ df [6] .DV [.var 3] [.set 7 (.call "_law_drawn" [.call "_law_cell" [.var 0,.bin .add (.var 1) (.var 6)],.cst (.int 11)]),.set 8 (.tup [.idx (.var 2) (.bin .mod (.idx (.var 7) (.cst (.int 0))) (.bi .len [.var 2])),.call "_law_told" [.var 7,.var 2]]),.set 9 (.tup [.idx (.var 8) (.cst (.int 0)),.bi .tuple [.bi .sorted [.idx (.var 8) (.cst (.int 1))]]]),.ite (.cmp .Dv (.var 9) (.var 5)) [.put 5 (.var 9) (.cst (.bl b5)),.app 4 (.var 8)] []],.ret (.bi .tuple [.var 4])]⟩
abbrev vJ(Γ:Tab):Prop:=∀(a:List Int) (names:List Str),11<=a.length->(∀d∈a,0<=d)->0<names.length ->
 ∃told:List Str,told.length<=8/\told.Nodup/\(∀x∈told,x∈names)/\Γ "_law_told" [.lst (a.map .int),.lst (names.map .str)]=a5 (.ok (.loc,.tup (told.map .str)))
structure gb(names:List Str)(r:Row):Prop where
 word:r.1∈names
 E_:r.2.length<=8
 once:r.2.Nodup
 told:∀x∈r.2,x∈names
theorem vK(hc:gG Γ)(hd:fb Γ)(ht:vJ Γ){ns:List Int}(hn:0<names.length)(hb:b<1000)(hm:m<1000):
    ∃rows:List Row,rows.length<=m/\(rows.map keyOf).Nodup/\(∀r∈rows,gb names r)/\bS Γ vI [.DT (ns.map .int),.int (b:Nat),.lst (names.map .str),.int (m:Nat)]=a5 (.ok (.loc,.tup (rows.map B'))):=by
  have hsz:(1000:Nat)<=dV:=by decide
  let B:=λ(us:List U) (ks:List jX) (o6 o7 o8 o9:Option (Kd×U))=>([a5 (.any,.DT (ns.map .int)),a5 (.loc,.int (b:Nat)),a5 (.any,.lst (names.map .str)),a5 (.loc,.int (m:Nat)),a5 (.own,.lst us),a5 (.own,.Ec ks),o6,o7,o8,o9]:ak)
  let I:List (Kd×U)->ak->Prop:=λxs st=>∃(rows:List Row) (us:List U) (ks:List jX) (o6 o7 o8 o9:Option (Kd×U)),st=B us ks o6 o7 o8 o9/\us=rows.map B'/\ks=rows.map keyOf/\ks.Nodup/\(∀r∈rows,gb names r)/\rows.length+xs.length<=m/\dw m xs;have hp:(0:Int)<((names.map U.str).length:Nat):=by simp;lia
  have loop:=nO (t:=df) (is:=[6]) (body:=execs Γ [.set 7 (.call "_law_drawn" [.call "_law_cell" [.var 0,.bin .add (.var 1) (.var 6)],.cst (.int 11)]),
      .set 8 (.tup [.idx (.var 2) (.bin .mod (.idx (.var 7) (.cst (.int 0))) (.bi .len [.var 2])),.call "_law_told" [.var 7,.var 2]]),
      .set 9 (.tup [.idx (.var 8) (.cst (.int 0)),.bi .tuple [.bi .sorted [.idx (.var 8) (.cst (.int 1))]]]),
      .ite (.cmp .Dv (.var 9) (.var 5))
        [.put 5 (.var 9) (.cst (.bl b5)),
        .app 4 (.var 8)]
        []]) (rs:=[(.loc,.int (m:Nat))]) I (λ_ _ _=>trivial) (λx xs st DH=>by
    obtain⟨rows,us,ks,o6,o7,o8,o9,e,e2,e3,DN,hw,hl,hr⟩:=DH;subst e;obtain⟨i,hi,rfl,EM,hlen⟩:=hr.cons;rw[lx]at hl;obtain⟨z,hz⟩:=hc ns (b+i) ⋯;rw[Vw]at hz;obtain⟨ds,d1,d2,d3⟩:=hd z 11 ⋯;obtain⟨told,t1,t2,t3,t4⟩:=ht ds names ⋯ d2 hn;have i0:DL (ds.map U.int) 0=a5 (.int (dd ds 0)):=bo (i:=0) ⋯;obtain⟨nm,EN,MH⟩:=rl (xs:=names) (t:=((names.map U.str).length:Nat)) (c8 d2 0) hp (by simp);have Ed:gb names (nm,told):=⟨EN,t1,t2,t3⟩
    have j0:gv (.loc,B' (nm,told)) (.int 0)=a5 (.loc,.str nm):=rfl;have j1:gv (.loc,B' (nm,told)) (.int 1)=a5 (.loc,.tup (told.map .str)):=rfl;have K4:=sorted_strs (k:=.loc) (ss:=told) ⋯;let i6:Option (Kd×U):=a5 (.loc,.int (i:Nat));let i7:Option (Kd×U):=a5 (.own,.lst (ds.map .int));let i8:Option (Kd×U):=a5 (.loc,B' (nm,told));let i9:Option (Kd×U):=a5 (.loc,B' (keyOf (nm,told)));have g7:Run (ev Γ (.call "_law_drawn" [.call "_law_cell" [.var 0,.bin .add (.var 1) (.var 6)],.cst (.int 11)])) (B us ks i6 o7 o8 o9) (.own,.lst (ds.map .int)) (B us ks i6 o7 o8 o9):=by repeat' (first|exact hz|exact d3|sizeOf_list_dec)
    have g8:Run (ev Γ (.tup [.idx (.var 2) (.bin .mod (.idx (.var 7) (.cst (.int 0))) (.bi .len [.var 2])),.call "_law_told" [.var 7,.var 2]])) (B us ks i6 i7 o8 o9) (.loc,B' (nm,told)) (B us ks i6 i7 o8 o9):=by
      repeat' (first|exact aH i0|exact cy hp|exact aH MH|exact t4|exact rf rfl|exact(by decide:(2:Nat)<=dV)|sizeOf_list_dec)
    have g9:Run (ev Γ (.tup [.idx (.var 8) (.cst (.int 0)),.bi .tuple [.bi .sorted [.idx (.var 8) (.cst (.int 1))]]])) (B us ks i6 i7 i8 o9) (.loc,B' (keyOf (nm,told))) (B us ks i6 i7 i8 o9):=by
      repeat' (first|exact j0|exact j1|exact K4|exact(by decide:(2:Nat)<=dV)|sizeOf_list_dec)
    have IQ:bB .Dv (B' (keyOf (nm,told))) (.Ec ks)=a5 (ez (keyOf (nm,told)∉ks)):=by
      show(((rowOf (B' (keyOf (nm,told)))).map λr=>ez (r∈ks))).map (!·)=_;rw[kO];simp
    by_cases Es:keyOf (nm,told)∈ks
    · refine⟨B us ks i6 o7 o8 o9,B us ks i6 i7 i8 i9,aO,ax g7 aZ (ax g8 aO (ax g9 aO (cj ?_ aB aB))),⟨rows,us,ks,_,_,_,_,rfl,e2,e3,DN,hw,⋯,EM⟩⟩
      have:bB .Dv (B' (keyOf (nm,told))) (.Ec ks)=a5 df:=by rw[IQ];simp[Es]
      exact cG (ag rfl) (aD rfl) ⟨⟨.own,rfl,rfl⟩,trivial⟩ this
    · refine⟨B us ks i6 o7 o8 o9,B (us++[B' (nm,told)]) (ks++[keyOf (nm,told)]) i6 i7 i8 i9,aO,ax g7 aZ (ax g8 aO (ax g9 aO (eN (st1:=B us ks i6 i7 i8 i9) (st2:=B (us++[B' (nm,told)]) (ks++[keyOf (nm,told)]) i6 i7 i8 i9) ?_ ?_ aB))),⟨rows++[(nm,told)],_,_,_,_,_,_,rfl,by simp[e2],by simp[e3],?_,?_,by simp;lia,EM⟩⟩
      · have:bB .Dv (B' (keyOf (nm,told))) (.Ec ks)=a5 b5:=by rw[IQ];simp[Es]
        exact cG (ag rfl) (aD rfl) ⟨⟨.own,rfl,rfl⟩,trivial⟩ this
      · have Nj:c_ (B' (keyOf (nm,told))) (.bl b5) (.Ec ks)=a5 (.Ec (ks++[keyOf (nm,told)])):=by
          show(match rowOf (B' (keyOf (nm,told))),U.bl b5 with|some r,.bl b5=>if r∉ks/\ks.length<=1000 then a5 (U.Ec (ks++[r])) else b6|_,_=>b6)=_;rw[kO];show(if keyOf (nm,told)∉ks/\ks.length<=1000 then _ else _)=_;rw[WJ ⟨Es,by rw[e3,dt];lia⟩]
        exact rm (st1:=B us ks i6 i7 i8 i9) (st2:=B us ks i6 i7 i8 i9) (st3:=B us ks i6 i7 i8 i9) (k:=.own) (k':=.own) bw rfl (ag rfl) (bj bh (bj bh aV)) rfl rfl Nj
          (hJ (st1:=B us (ks++[keyOf (nm,told)]) i6 i7 i8 i9) (st2:=B us (ks++[keyOf (nm,told)]) i6 i7 i8 i9) (k:=.own) (k':=.own) (us:=us) (us':=us) rfl (ag rfl) bh rfl rfl (by rw[e2,dt];lia) aB)
      · rw[sx]
        exact ⟨DN, by simp, fun y hy w GN => by have : w = keyOf (nm, told) := by simpa using GN
                                                subst this;rintro rfl;exact Es hy⟩
      · intro y hy
        rcases ko.mp hy with h|h
        · exact hw y h
        · rw[ti.mp h];exact Ed)
  obtain⟨st',DK,rows,us,ks,o6,o7,o8,o9,e,e2,e3,DN,hw,hl,_⟩:=loop ((hE m).map λi:Nat=>(Kd.loc,U.int (0+(i:Int)))) (B [] [] b6 b6 b6 b6) ⟨[],[],[],b6,b6,b6,b6,rfl,rfl,rfl,by simp,by simp,by simp,dw.all m⟩;subst e e2 e3;refine⟨rows,by simpa using hl,DN,hw,?_⟩;have hit:=jF (k:=.loc) (n:=m) ⋯;exact aJ (st0:=[a5 (.any,.DT (ns.map .int)),a5 (.loc,.int (b:Nat)),a5 (.any,.lst (names.map .str)),a5 (.loc,.int (m:Nat)),b6,b6,b6,b6,b6,b6]) rfl (.inr rfl) rfl
    (ax (r:=(.own,.lst [])) (b9 aj trivial aV (mx _)) aZ (ax (r:=(.own,.Ec [])) mr aZ (cH (rs:=[(.loc,.int (m:Nat))]) (st1:=B [] [] b6 b6 b6 b6) (ah (ag rfl) aj) trivial hit rfl DK
      (cU (fF (ah (aD rfl) aj) ⟨⟨.own,rfl,rfl⟩,trivial⟩ rfl) jA))))
abbrev iA(Γ:Tab):Prop:=∀(ns:List Int) (b m:Nat),b<1000->m<40->∃names:List Str,names.length=m/\names.Nodup/\(∀x∈names,bG x.cps.toList)/\Γ "_law_names" [.DT (ns.map .int),.int (b:Nat),.int (m:Nat)]=a5 (.ok (.own,.lst (names.map .str)))
abbrev pY(Γ:Tab):Prop:=∀(ns:List Int) (names:List Str) (b m:Nat),0<names.length->b<1000->m<1000 ->
 ∃rows:List Row,rows.length<=m/\(rows.map keyOf).Nodup/\(∀r∈rows,gb names r)/\Γ "_law_book" [.DT (ns.map .int),.int (b:Nat),.lst (names.map .str),.int (m:Nat)]=a5 (.ok (.loc,.tup (rows.map B')))
abbrev vL:Fn:=⟨"_law_made",1,3,[.set 1 (.call "_law_drawn" [.call "_law_cell" [.var 0,.cst (.int 0)],.cst (.int 4)]),.set 2 (.call "_law_names" [.var 0,.cst (.int 1),.bin .add (.cst (.int 1)) (.bin .mod (.idx (.var 1) (.cst (.int 0))) (.cst (.int 14)))]),.ret (.call "_law_book" [.var 0,.cst (.int 20),.var 2,.bin .mod (.idx (.var 1) (.cst (.int 1))) (.cst (.int 41))])]⟩
def vM(d:gG Γ)(e:fb Γ)(f:iA Γ)(g:pY Γ)(ns:List Int):∃(names:List Str) (rows:List Row),0<names.length/\names.length<=14/\names.Nodup/\(∀x∈names,bG x.cps.toList) /\
  rows.length<=40/\(rows.map keyOf).Nodup/\(∀r∈rows,gb names r)/\bS Γ vL [.DT (ns.map .int)]=a5 (.ok (.loc,.tup (rows.map B'))):=by
 have⟨z,hz⟩:=d ns 0 ⋯;have⟨a,o,b,h⟩:=e z 4 ⋯;have j:DL (a.map U.int) 0=a5 (.int (dd a 0)):=bo (i:=0) ⋯;have k:DL (a.map U.int) 1=a5 (.int (dd a 1)):=bo (i:=1) ⋯;have p:=c8 b 0;have q:=c8 b 1;have⟨names,s,l,m,c⟩:=f ns 1 (1+dd a 0 % 14).toNat ⋯ ⋯;rw[K7 ⋯]at c;have⟨rows,b1,n,b3,b4⟩:=g ns names 20 (dd a 1 % 41).toNat ⋯ ⋯ ⋯;rw[K7 ⋯]at b4;show⟨names,rows,⋯,⋯,l,m,⋯,n,b3,?_⟩;apply aJ (st0:=[a5 (.any,.DT (ns.map .int)),b6,b6]) rfl (.inr rfl) rfl
 repeat' (first|show hz|show h|show aH j|show aH k|show c|show b4|sizeOf_list_dec)
section
abbrev Eu(Pg:List Fn)(f:Str)(fn:Fn):Prop:=(Pg.find? λg=>ez (g.name=f))=a5 fn
def aK(h:Eu Pg f fn)(us:List U):D8 Pg (d+1) f us=bS (D8 Pg d) fn us:=by
 change(match Pg.find? λg=>ez (g.name=f) with|some fn=>bS (D8 Pg d) fn us|none=>b6)=_;rw[show _=a5 fn from h]
def yJ(h:Eu Pg "_law_mix" sQ):vC (D8 Pg (d+1)):=λc k a b=>by rw[aK h];show xX a b
def gH(h:Eu Pg "_law_mix" sQ)(a:Eu Pg "_law_cell" rh):gG (D8 Pg (d+2)):=λns k hk=>⟨_,by rw[aK a];show vE (yJ h) hk⟩
def drawnOk(h:Eu Pg "_law_mix" sQ)(f:Eu Pg "_law_drawn" mz):fb (D8 Pg (d+2)):=λc n g=>by
 have⟨i,a,b,e⟩:=sR (yJ (d:=d) h) (c:=c) g;show⟨i,a,b,by rw[aK f];show e⟩
def AL(f:x6 g)(h:Eu Pg "_law_name" (mB g)):vG (D8 Pg (d+1)):=λi names a b c e=>by
 have⟨x,p,q,r⟩:=vF (Γ:=D8 Pg d) f a b c e;show⟨x,p,q,by rw[aK h];show r⟩
def AM(h:Eu Pg "_law_told" hU):vJ (D8 Pg (d+1)):=λe names a b c=>by
 have⟨x,p,q,r,s⟩:=vH (Γ:=D8 Pg d) a b c;show⟨x,p,q,r,by rw[aK h];show s⟩
structure b7(md:E)(Pg:List Fn):Prop where
 mix:Eu Pg "_law_mix" sQ
 cell:Eu Pg "_law_cell" rh
 drawn:Eu Pg "_law_drawn" mz
 name:Eu Pg "_law_name" (mB md)
 names:Eu Pg "_law_names" fNames
 told:Eu Pg "_law_told" hU
 book:Eu Pg "_law_book" vI
def b7.gH(M:b7 a Pg):gG (D8 Pg (d+2)):=TM.gH M.mix M.cell
def b7.drawnOk(M:b7 a Pg):fb (D8 Pg (d+2)):=TM.drawnOk M.mix M.drawn
def b7.vN(a:x6 c)(M:b7 c Pg):iA (D8 Pg (d+3)):=λns b m e f=>by
 have⟨names,p,q,r,s⟩:=sV (Γ:=D8 Pg (d+2)) M.gH M.drawnOk (TM.AL a M.name) (ns:=ns) e f;show⟨names,p,q,r,by rw[aK M.names];show s⟩
@[reducible]def vO(Pg:List Fn):Prop:=b7 Cs Pg
def b7.namesOk(M:vO Pg):iA (D8 Pg (d+3)):=b7.vN x8 M
def b7.vP(M:b7 f Pg):pY (D8 Pg (d+3)):=λns names b m a c e=>by
 have⟨rows,p,q,r,s⟩:=vK (Γ:=D8 Pg (d+2)) M.gH M.drawnOk (TM.AM M.told) (ns:=ns) a c e;show⟨rows,p,q,r,by rw[aK M.book];show s⟩
end
section
def kP(h:Run (execs Γ (a++ss)) st f st2):(∃s1,Run (execs Γ a) st .nx s1/\Run (execs Γ ss) s1 f st2)\/(Run (execs Γ a) st f st2/\f≠.nx):=by
 induction a generalizing st with
 |nil=>show .inl ⟨st,aB,h⟩
 |cons s a i =>
  have h':M.bind (exec Γ s) (λf=>match f with|.nx=>execs Γ (a++ss)|f=>pure f) st=a5 (.ok f,st2):=h;unfold M.bind at h';cases e:exec Γ s st with
  |none=>rw[e]at h';cases h'
  |some p =>
   have⟨x,s1⟩:=p;rw[e]at h';cases x with
   |exc c=>cases h'
   |ok g =>
    cases g with
    |nx =>
     rcases i h' with⟨s2,b,d⟩|⟨b,d⟩
     .show .inl ⟨s2,d6 e b,d⟩
     .show .inr ⟨d6 e b,d⟩
    |rt k u=>cases h';show .inr ⟨xW e,λz=>nomatch z⟩
    |bk=>cases h';show .inr ⟨aa (show Run (exec Γ s) st Fl.bk _ from e) aM,λz=>nomatch z⟩
    |ct=>cases h';show .inr ⟨aa (show Run (exec Γ s) st Fl.ct _ from e) aM,λz=>nomatch z⟩
def Cu(a:Run (exec Γ s) st f st1)(b:f≠.nx):Run (execs Γ (s::ss)) st f st1:=by
 cases f with
 |nx=>show absurd rfl b
 |rt k u=>show xW a
 |_=>show aa a aM
def gI(g:Run (DO Γ c) st p st1)(h:p=b5->Run (execs Γ (a++ss)) st1 f st2)(i:p=df->Run (execs Γ (b++ss)) st1 f st2):Run (execs Γ (.ite c a b::ss)) st f st2:=by
 cases p with
 |true =>
  rcases kP (h rfl) with⟨s1,d,e⟩|⟨d,e⟩
  .show d6 (mw g d) e
  .show Cu (mw g d) e
 |false =>
  rcases kP (i rfl) with⟨s1,d,e⟩|⟨d,e⟩
  .show d6 (pV g d) e
  .show Cu (pV g d) e
def Cv(h:Run (DO Γ e) st p st)(a:p=df->Run (eD Γ (b::es)) st q st):Run (eD Γ (e::b::es)) st (p||q) st:=by
 cases p with
 |true=>show Cj h
 |false=>show yF h (a rfl)
def vQ(h:Run (DO Γ e) st p st)(a:p=b5->Run (aF Γ (b::es)) st q st):Run (aF Γ (e::b::es)) st (p&&q) st:=by
 cases p with
 |true=>show pU h (a rfl)
 |false=>show vv h
theorem jH{cond:M Bool}(h:aY src st)(k:Kd)(hk:k=.loc\/k=.any)(a g:α->U)(c:Kd)(d:∀y,Run cond (a5 (k,a y)::st) b5 (a5 (k,a y)::st)):∀(b:List α) (acc:List U),acc.length+b.length<=dV ->
  (∀y∈b,Run elt (a5 (k,a y)::st) (c,g y) (a5 (k,a y)::st)/\Run (lift (c,g y)) (a5 (k,a y)::st) (g y) (a5 (k,a y)::st))->Run (bp 1 df cond elt src (b.map λy=>(k,a y)) acc) st (acc++b.map g) st
 |[],acc,_,_=>by rw[H0,H0,va];show nP h
 |y::b,acc,hl,e=>by
  have⟨f,i⟩:=e y (by simp);rw[lx]at hl;show jC (s1:=a5 (k,a y)::st) (s2:=a5 (k,a y)::st) (s3:=a5 (k,a y)::st) (s4:=a5 (k,a y)::st) h ?_ (d y) f i ⋯ ?_
  .rcases hk with rfl|rfl
   .show cD aO
   .show cD jz
  .have:=jH h k hk a g c d b (acc++[g y]) (by simp;lia) λz hz=>e z (by simp[hz]);rw[gc];simpa using this
theorem mD{cond:M Bool}(h:aY src st)(k:Kd)(hk:k=.loc\/k=.any)(a g:α->U)(p:α->Bool)(d:Kd):∀(b:List α) (acc:List U),acc.length+b.length<=dV ->
  (∀y∈b,Run cond (a5 (k,a y)::st) (p y) (a5 (k,a y)::st)/\(p y=b5->Run elt (a5 (k,a y)::st) (d,g y) (a5 (k,a y)::st)/\Run (lift (d,g y)) (a5 (k,a y)::st) (g y) (a5 (k,a y)::st)))->Run (bp 1 df cond elt src (b.map λy=>(k,a y)) acc) st (acc++(b.filter p).map g) st
 |[],acc,_,_=>by rw[H0,O4,H0,va];show nP h
 |y::b,acc,hl,f=>by
  have⟨e,j⟩:=f y (by simp);rw[lx]at hl;have i:Run (cL df (hE 1) (k,a y)) (l0 1 b6++st) () (a5 (k,a y)::st):=by
   rcases hk with rfl|rfl
   .show cD aO
   .show cD jz
  cases c:p y with
  |true =>
   rw[c]at e;have⟨l,m⟩:=j c;show jC (s1:=a5 (k,a y)::st) (s2:=a5 (k,a y)::st) (s3:=a5 (k,a y)::st) (s4:=a5 (k,a y)::st) h i e l m ⋯ ?_;have:=mD h k hk a g p d b (acc++[g y]) (by simp;lia) λz hz=>f z (by simp[hz]);rw[E6,WJ c,gc];simpa using this
  |false =>
   rw[c]at e;show pW (s1:=a5 (k,a y)::st) (s2:=a5 (k,a y)::st) h i e ?_;have:=mD h k hk a g p d b acc ⋯ λz hz=>f z (by simp[hz]);rw[E6,WK (by simp[c])];show this
theorem cp(it:α->Kd×U)(I:List α->List α->ak->Prop)(hs:∀d r st,I d r st->aY rs st)
  (Vf:∀d y r st,I d (y::r) st->∃st1 st2,Run (cL t is (it y)) st () st1/\Run body st1 .nx st2/\I (d++[y]) r st2):∀(r d:List α) (st:ak),I d r st->∃st',Run (forM t is body rs (r.map it)) st .nx st'/\I (d++r) [] st'
 |[],d,st,h=>⟨st,yG (hs _ _ _ h),by rw[va];show h⟩
 |y::r,d,st,h=>by
  have⟨s1,s2,a,b,c⟩:=Vf d y r st h;have⟨s3,e,f⟩:=cp it I hs Vf r (d++[y]) s2 c;show⟨s3,Cr (hs _ _ _ h) a b e,by simpa using f⟩
def AN(h:Run (ev Γ (.bi f es)) st (k,.bl b) st1):Run (DO Γ (.bi f es)) st b st1:=by
 have h':(a_ Γ es >>= λrs=>ar rs >>= λ_=>M.DQ (EW f rs)) st=a5 (.ok (k,.bl b),st1):=h;obtain⟨rs,s1,c,d,s2,e,r,s3,g,i⟩:∃rs s1,a_ Γ es st=a5 (.ok rs,s1)/\∃(a:Unit) (s2:ak),ar rs s1=a5 (.ok a,s2)/\∃r s3,M.DQ (EW f rs) s2=a5 (.ok r,s3)/\(r,s3)=((k,U.bl b),st1):=by
  have w:W (a_ Γ es >>= λrs=>ar rs >>= λ_=>M.DQ (EW f rs)) st λr s=>(r,s)=((k,U.bl b),st1):=⟨_,_,h',rfl⟩
  rw[ab]at w;have⟨rs,s1,c,w⟩:=w;rw[ab]at w;have⟨a,s2,d,w⟩:=w;have⟨r,s3,e,w⟩:=w;show⟨rs,s1,c,a,s2,d,r,s3,e,w⟩
 cases i;show aa c (aa (a:=d) e (aa g (cT rfl)))
def rn(c:st[i]?=a5 (a5 (k',.lst us')))(d:Run (ev Γ e) st r st1)(g:st1[i]?=a5 (a5 (k,.lst us)))(hk:k.root=b5)(h:jj r (.lst us)=a5 (.lst b))
  (j:Run (execs Γ ss) (st1.set i (a5 (k,.lst b))) f st3) (l:k'≠.Ds:=by intro z;cases z):Run (execs Γ (.ext i e::ss)) st f st3:=by
 show d6 (aa (f_ c l) (aa (a:=()) (st1:=st) rfl (aa d (aa (a:=()) (st1:=st1.set i (a5 (k,.lst b))) ?_ aM)))) j;change modS i (jj r) st1=_;unfold modS;rw[g];simp only[hk,if_true];rw[h]
end
def x_(h:xs.length+a.length<=dV)(hs:jd k a=b5):jj (k,.tup a) (.lst xs)=a5 (.lst (xs++a)):=by
 change(if xs.length+a.length<=dV/\jd k a=b5 then _ else _)=_;rw[WJ ⟨h,hs⟩]
def mE(h:xs.length+a.length<=dV)(hs:jd k a=b5):jj (k,.lst a) (.lst xs)=a5 (.lst (xs++a)):=by
 change(if xs.length+a.length<=dV/\jd k a=b5 then _ else _)=_;rw[WJ ⟨h,hs⟩]
theorem kQ:∀ss:List Str,fA (ss.map U.str)=b5
 |[]=>by simp[fA]
 |s::ss=>by simp[fA,DZ,kQ ss]
def ya(r:Row):DZ (B' r)=b5:=by simp[B',DZ,fA,kQ]
theorem bJ:∀rs:List Row,fA (rs.map B')=b5
 |[]=>by simp[fA]
 |r::rs=>by simp[fA,ya,bJ rs]
theorem jI:∀(a b:List Str),bW (a.map U.str) (b.map U.str)=ez (a=b)
 |[],[]=>by simp[bW]
 |[],_::_=>by simp[bW]
 |_::_,[]=>by simp[bW]
 |x::a,y::b=>by
  rw[gc,gc,bW,jI a b];simp only[bM];by_cases h:x=y
  .subst h;simp
  .simp[h]
def sW(a b:Row):bM (B' a) (B' b)=ez (a=b):=by
 have⟨c,d⟩:=a;have⟨b1,e⟩:=b;simp only[B',bM,bW,MB,jI];by_cases h:c=b1
 .subst h;simp
 .simp[h]
def rp(r:Row):EC 50 (B' r)=b5:=by
 simp[B',EC,cB,e_]
def yb:bB .eq (.str a) (.str b)=a5 (ez (a=b)):=by
 simp only[bB];rw[WJ ⟨rfl,rfl⟩];simp only[bM];by_cases h:a=b
 .subst h;simp
 .simp[h]
def rq(f:α->β)(xs:List α)(lo a:Option Int):cut (xs.map f) lo a=(cut xs lo a).map f:=by simp[cut,List.map_take,List.map_drop]
def iB(xs:List α)(lo a:Option Int):(cut xs lo a).length<=xs.length:=by simp[cut];lia
def rA(h:x∈cut xs lo a):x∈xs:=List.mem_of_mem_drop (O_ h)
theorem kR:∀rs:List Row,cB 50 (rs.map B')=b5
 |[]=>by simp[cB]
 |r::rs=>by rw[gc,cB,rp,kR rs];rfl
def yc(r:Row)(rows:List Row):G6 (B' r) (rows.map B')=a5 (ez (r∈rows)):=by
 unfold G6;rw[WJ ⟨rp r,kR rows⟩];congr 1
 rw[List.any_map,FW,Ve];simp only[U2,sW,WI];show⟨λ⟨x,a,b⟩=>b▸a,λh=>⟨r,h,rfl⟩⟩
def sX{rows:List Row}:bB .Dv (B' r) (.tup (rows.map B'))=a5 (ez (r∉rows)):=by
 change(sg (B' r) (.tup (rows.map B'))).map (!·)=_;rw[show sg (B' r) (.tup (rows.map B'))=a5 (ez (r∈rows)) from yc r rows];simp
def jJ(h:acc.length<4000)(a:(au acc).length<64):si .sset [(k,.lst (acc.map .str))]=a5 (.own,.lst ((av (au acc)).map .str)):=by
 have e:pe (.lst (acc.map U.str))=a5 (au acc):=by
  change(strsOf (acc.map U.str)).bind _=_;rw[cn];change(if acc.length+1<HH then _ else _)=_;rw[WJ (by change acc.length+1<4096;lia)]
 change(pe (.lst (acc.map U.str))).bind _=_;rw[e];change(if (au acc).length<64 then _ else _)=_;rw[WJ a]
abbrev mF(rows:List Row):List Str:=rows.map (·.1)++(rows.map (·.2)).flatten
def mG(h:∀r∈rows,gb names r):∀x∈mF rows,x∈names:=by
 intro x hx;rcases ko.mp hx with hx|hx
 .have⟨r,a,rfl⟩:=ki.mp hx;show(h r a).word
 .have⟨l,hl,hx⟩:=U9.mp hx;have⟨r,a,rfl⟩:=ki.mp hl;show(h r a).told x hx
def nV{rows:List Row}(h:∀r∈rows,r.2.length<=n):(rows.map (·.2)).flatten.length<=n * rows.length:=by
 induction rows with
 |nil=>simp
 |cons r rows a =>
  have b:=h r (by simp);have c:=a λs hs=>h s (by simp[hs]);simp only[gc,NT,i5,lx,Wi];lia
theorem hV:∀{l:List α},(∀x∈l,∀y∈l,f x=f y->x=y)->l.Nodup->(l.map f).Nodup
 |[],_,_=>Nt
 |a::l,h,n=>by
  rw[nH]at n;rw[gc,nH];show⟨λz=>?_,hV (λx d y g=>h x (by simp[d]) y (by simp[g])) n.2⟩;have⟨b,c,e⟩:=ki.mp z;show n.1 (h b (by simp[c]) a (by simp) e▸c)
theorem kS:∀{l:List α}{i j:Nat}{x:α},l.Nodup->l[i]?=a5 x->l[j]?=a5 x->i=j
 |[],_,_,_,_,h,_=>by simp at h
 |a::l,0,0,_,_,_,_=>rfl
 |a::l,0,j+1,x,n,b,c=>by
  simp at b c;subst b;show absurd (nC c) (nH.mp n).1
 |a::l,i+1,0,x,n,b,c=>by
  simp at b c;subst c;show absurd (nC b) (nH.mp n).1
 |a::l,i+1,j+1,x,n,b,c=>by
  simp at b c;rw[kS (nH.mp n).2 b c]
def eQ(l:List Str):(av (au l)).Nodup:=(aQ _).nodup_iff.mpr (cK l)
def jK(l:List Str)(x:Str):x∈av (au l)↔x∈l:=by rw[(aQ _).mem_iff,dI]
def pZ{l names:List Str}(h:∀x∈l,x∈names):(au l).length<=names.length:=jy (cK l) λx a=>h x ((dI l x).mp a)
section
def sY{rows:List Row}(hl:rows.length<=1000)(h:st[i]?=a5 (a5 (.loc,.tup (rows.map B')))):Run (ev Γ (.comp 1 df .seq [.var i] [] (.idx (.var 0) (.cst (.int 0))))) st (.own,.lst ((rows.map (·.1)).map .str)) st:=by
 have hsz:(1000:Nat)<=dV:=by decide
 have a:=jH (cond:=aF Γ []) (elt:=ev Γ (.idx (.var 0) (.cst (.int 0)))) (src:=[(.loc,.tup (rows.map B'))]) (st:=st) trivial .loc (.inl rfl) B' (λr=>.str r.1) .loc (λ_=>g_) rows [] (by simp;lia)
  (λr _=>⟨dZ (x:=(.loc,B' r)) (ag rfl) bw trivial rfl,bh⟩)
 rw[my]at a;have e:(rows.map B').map (λu=>(kE .loc,u))=rows.map λr=>(Kd.loc,B' r):=by rw[kj];rfl
 rw[kj];show cm (rs:=[(.loc,.tup (rows.map B'))]) (ah (ag h) aj) trivial (by change a5 _=_;rw[e]) a
end
abbrev jL:Fn:=⟨"_law_widened",2,5,[.set 2 (.call "_law_drawn" [.call "_law_cell" [.var 0,.cst (.int 0)],.cst (.int 5)]),.ite (.cmp .gt (.bin .mod (.idx (.var 2) (.cst (.int 2))) (.cst (.int 4))) (.cst (.int 0))) [.ret (.var 1)] [],.set 1 (.call "_law_book" [.var 0,.cst (.int 20),.call "_law_names" [.var 0,.cst (.int 1),.bin .add (.cst (.int 1)) (.bin .mod (.idx (.var 2) (.cst (.int 0))) (.cst (.int 14)))],.cst (.int 60)]),.set 3 (.comp 1 df .seq [.var 1] [] (.idx (.var 0) (.cst (.int 0)))),.DJ df [4] .seq [.var 1] [.ext 3 (.idx (.var 4) (.cst (.int 1)))],.set 3 (.comp 1 df .seq [.Gi .sset [.var 3]] [.cmp .Dv (.tup [.var 0,.tup []]) (.var 2)] (.var 0)),.ret (.bin .add (.var 1) (.bi .tuple [.comp 1 df .DV [.bi .len [.var 3]] [.or [.cmp .eq (.bin .mod (.idx (.var 3) (.cst (.int 3))) (.cst (.int 2))) (.cst (.int 0)),.cmp .eq (.bin .mod (.var 0) (.cst (.int 2))) (.bin .mod (.idx (.var 3) (.cst (.int 4))) (.cst (.int 2)))]] (.tup [.idx (.var 4) (.var 0),.tup []])]))]⟩
structure yK(names:List Str)(rows:List Row)(n:Nat):Prop where
 pos:0<names.length
 E_:names.length<=14
 once:names.Nodup
 word:∀x∈names,bG x.cps.toList
 len:rows.length<=n
 keys:(rows.map keyOf).Nodup
 ok:∀r∈rows,gb names r
def nW(hc:gG Γ)(hd:fb Γ)(hn:iA Γ)(hb:pY Γ){ns:List Int}(l:yK f b 40):
  ∃names rows,yK names rows 74/\bS Γ jL [.DT (ns.map .int),.tup (b.map B')]=a5 (.ok (.loc,.tup (rows.map B'))):=by
 have hsz:(4000:Nat)<=dV:=by decide
 have⟨z,hz⟩:=hc ns 0 ⋯;have⟨c,d1,d2,d3⟩:=hd z 5 ⋯;have i0:DL (c.map U.int) 0=a5 (.int (dd c 0)):=bo (i:=0) ⋯;have i2:DL (c.map U.int) 2=a5 (.int (dd c 2)):=bo (i:=2) ⋯;have i3:DL (c.map U.int) 3=a5 (.int (dd c 3)):=bo (i:=3) ⋯;have i4:DL (c.map U.int) 4=a5 (.int (dd c 4)):=bo (i:=4) ⋯;have n0:=c8 d2 0;have⟨names,a1,a2,a3,L⟩:=hn ns 1 (1+dd c 0 % 14).toNat ⋯ ⋯;rw[K7 ⋯]at L;have⟨rows,b1,b2,b3,b4⟩:=hb ns names 20 60 ⋯ ⋯ ⋯;have N:TM.start [.DT (ns.map .int),.tup (b.map B')] 5=[a5 (.any,.DT (ns.map .int)),a5 (.loc,.tup (b.map B')),b6,b6,b6]:=by simp[TM.start,DZ,bJ]
 let o:Option (Kd×U):=a5 (.own,.lst (c.map .int));have O:∀{o1 o2 o3 o4:Option (Kd×U)},Run (ev Γ (.call "_law_drawn" [.call "_law_cell" [.var 0,.cst (.int 0)],.cst (.int 5)])) [a5 (.any,.DT (ns.map .int)),o1,o2,o3,o4] (.own,.lst (c.map .int)) [a5 (.any,.DT (ns.map .int)),o1,o2,o3,o4]:=by
  intro o1 o2 o3 o4
  repeat' (first|show hz|show d3|sizeOf_list_dec)
 have gt:∀{o1 o3 o4:Option (Kd×U)},Run (DO Γ (.cmp .gt (.bin .mod (.idx (.var 2) (.cst (.int 2))) (.cst (.int 4))) (.cst (.int 0)))) [a5 (.any,.DT (ns.map .int)),o1,o,o3,o4] (ez (0<dd c 2 % 4)) [a5 (.any,.DT (ns.map .int)),o1,o,o3,o4]:=by
  intro o1 o3 o4
  repeat' (first|show aH i2|show jE rfl|sizeOf_list_dec)
 by_cases Q:0<dd c 2 % 4
 .show⟨f,b,⟨l.pos,l.E_,l.once,l.word,by have:=l.len;lia,l.keys,l.ok⟩,?_⟩;show aJ rfl (.inr rfl) N (ax O aZ (gI gt (λ_=>cU (ag rfl) jA) λh=>?_));simp[Q]at h
 .
  let acc:=mF rows;have T:∀x∈acc,x∈names:=mG b3;have Ka:(rows.map (·.2)).flatten.length<=8 * rows.length:=nV λr hr=>(b3 r hr).E_;have K5:acc.length<=540:=by change(mF rows).length<=540;unfold mF;rw[i5,dt];lia
  have FV:(au acc).length<=14:=vu (pZ T) ⋯;let a:=(av (au acc)).filter λx=>ez (((x,[]):Row)∉rows);have Jn:a.length<=14:=vu (Ew _ _) (by rw[aS];show FV);let m:Nat->Bool:=λi=>(dd c 3 % 2==0)||((0+(i:Int)) % 2==dd c 4 % 2)
  let n:Nat->Row:=λi=>((a[i]?).getD "",[])
  let g:=((hE a.length).filter m).map n;have Y:∀r∈g,r.2=[]/\r.1∈a:=λr hr=>by
   have⟨i,v,rfl⟩:=ki.mp hr;have:=DS.mp (uv.mp v).1;show⟨rfl,by simp[n,this]⟩
  have Ep:g.length<=14:=by
   change(((hE a.length).filter m).map n).length<=14;rw[dt];show vu (Ew _ _) (by rw[LD];show Jn)
  have MJ:(g.map keyOf).Nodup:=by
   have e:g.map keyOf=((hE a.length).filter m).map λi=>(((a[i]?).getD ("":Str),av []):Row):=by
    change(((hE a.length).filter m).map n).map keyOf=_;rw[kj];rfl
   rw[e];have DN:a.Nodup:=(eQ acc).filter _;show hV (λi v j hj e=>?_) (SF.filter _);have C:i<a.length:=DS.mp (uv.mp v).1;have HJ:j<a.length:=DS.mp (uv.mp hj).1;have e':(a[i]?).getD ("":Str)=(a[j]?).getD ("":Str):=WN Ud e;rw[r3 C,r3 HJ,RB,RB]at e';show kS DN (r3 C) (by rw[e'];show r3 HJ)
  show⟨names,rows++g,⟨⋯,⋯,a2,a3,by rw[i5];lia,?_,λr hr=>?_⟩,?_⟩
  .rw[qs,sx];show⟨b2,MJ,λk hk k' Ee e=>?_⟩;subst e;have⟨r,hr,rfl⟩:=ki.mp hk;have⟨I,EM,e⟩:=ki.mp Ee;have⟨D,G⟩:=Y I EM;have e3:I.1=r.1:=by have:=WN Ud e;show this
   have e4:av I.2=av r.2:=by have:=WN Prod.snd e;show this
   rw[D]at e4;have J:r.2=[]:=by
    have h1:=aS r.2;rw[<-e4,aS]at h1;show MC h1.symm
   have hw:=(uv.mp G).2;simp only[WI]at hw;show hw (by rw[e3,<-J];show hr)
  .rcases ko.mp hr with hr|hr
   .show b3 r hr
   .have⟨D,G⟩:=Y r hr;have⟨w,t⟩:=r;simp only at D G;subst D;show⟨T _ ((jK acc w).mp (uv.mp G).1),by simp,by simp,by simp⟩
  .let S:=λ(o3 o4:Option (Kd×U))=>([a5 (.any,.DT (ns.map .int)),a5 (.loc,.tup (rows.map B')),o,o3,o4]:ak)
   have g1:Run (ev Γ (.call "_law_book" [.var 0,.cst (.int 20),.call "_law_names" [.var 0,.cst (.int 1),.bin .add (.cst (.int 1)) (.bin .mod (.idx (.var 2) (.cst (.int 0))) (.cst (.int 14)))],.cst (.int 60)])) [a5 (.any,.DT (ns.map .int)),a5 (.loc,.tup (b.map B')),o,b6,b6] (.loc,.tup (rows.map B')) [a5 (.any,.DT (ns.map .int)),a5 (.loc,.tup (b.map B')),o,b6,b6]:=by
    repeat' (first|show aH i0|show L|show b4|sizeOf_list_dec)
   have A:=cp (t:=df) (is:=[4]) (body:=execs Γ [.ext 3 (.idx (.var 4) (.cst (.int 1)))]) (rs:=[(.loc,.tup (rows.map B'))]) (λr:Row=>(Kd.loc,B' r))
    (λd r st=>d++r=rows/\∃o4,st=S (a5 (.own,.lst ((rows.map (·.1)++(d.map (·.2)).flatten).map .str))) o4) (λ_ _ _ _=>trivial) (λd y r st DH=>by
     have⟨H,o4,e⟩:=DH;subst e;have hy:y∈rows:=by rw[<-H];simp
     have SA:(d.map (·.2)).flatten.length<=8 * d.length:=nV λs hs=>(b3 s (by rw[<-H];simp[hs])).E_;have RM:d.length<=rows.length:=by rw[<-H];simp
     have SD:=(b3 y hy).E_;show⟨S (a5 (.own,.lst ((rows.map (·.1)++(d.map (·.2)).flatten).map .str))) (a5 (.loc,B' y)),S (a5 (.own,.lst (((rows.map (·.1)++(d.map (·.2)).flatten).map .str)++y.2.map .str))) (a5 (.loc,B' y)),cD aO,?_,⟨by rw[<-H];simp,a5 (.loc,B' y),?_⟩⟩
     .show rn (k:=.own) rfl (dZ (x:=(.loc,B' y)) (ag rfl) bw trivial rfl) rfl rfl (x_ (by rw[dt,i5,dt,dt];lia) rfl) aB
     .simp[qs]) rows [] (S (a5 (.own,.lst ((rows.map (·.1)).map .str))) b6) ⟨rfl,b6,by simp⟩
   obtain⟨st',DK,_,o4,e⟩:=A;subst e;have g3:Run (ev Γ (.comp 1 df .seq [.Gi .sset [.var 3]] [.cmp .Dv (.tup [.var 0,.tup []]) (.var 2)] (.var 0))) (S (a5 (.own,.lst (acc.map .str))) o4) (.own,.lst (a.map .str)) (S (a5 (.own,.lst (acc.map .str))) o4):=by
    have B:=mD (cond:=aF Γ [.cmp .Dv (.tup [.var 0,.tup []]) (.var 2)]) (elt:=ev Γ (.var 0)) (src:=[(.own,.lst ((av (au acc)).map .str))]) (st:=S (a5 (.own,.lst (acc.map .str))) o4) trivial .loc (.inl rfl) U.str U.str (λx=>ez (((x,[]):Row)∉rows)) .loc (av (au acc)) [] (by rw[aS];simp;lia)
     (λy _=>⟨dP (cG (x:=(.loc,B' (y,[]))) (by repeat' (first|show(by decide:(2:Nat)<=dV)|show(by decide:(0:Nat)<=dV)|sizeOf_list_dec)) (ag rfl) trivial sX),λ_=>⟨ag rfl,bh⟩⟩)
    rw[my]at B;have e:((av (au acc)).map U.str).map (λu=>(kE .own,u))=(av (au acc)).map λr=>(Kd.loc,U.str r):=by rw[kj];rfl
    show cm (rs:=[(.own,.lst ((av (au acc)).map .str))]) (ah (vq (ah (aD rfl) aj) ⟨⟨.own,rfl,rfl⟩,trivial⟩ (jJ ⋯ ⋯)) aj) trivial (by change a5 _=_;rw[e]) B
   have g4:Run (ev Γ (.bi .tuple [.comp 1 df .DV [.bi .len [.var 3]] [.or [.cmp .eq (.bin .mod (.idx (.var 3) (.cst (.int 3))) (.cst (.int 2))) (.cst (.int 0)),.cmp .eq (.bin .mod (.var 0) (.cst (.int 2))) (.bin .mod (.idx (.var 3) (.cst (.int 4))) (.cst (.int 2)))]] (.tup [.idx (.var 4) (.var 0),.tup []])])) (S (a5 (.own,.lst (a.map .str))) o4) (.loc,.tup (g.map B')) (S (a5 (.own,.lst (a.map .str))) o4):=by
    have B:=mD (cond:=aF Γ [.or [.cmp .eq (.bin .mod (.idx (.var 3) (.cst (.int 3))) (.cst (.int 2))) (.cst (.int 0)),.cmp .eq (.bin .mod (.var 0) (.cst (.int 2))) (.bin .mod (.idx (.var 3) (.cst (.int 4))) (.cst (.int 2)))]]) (elt:=ev Γ (.tup [.idx (.var 4) (.var 0),.tup []])) (src:=[(.loc,.int ((a.map U.str).length:Nat))]) (st:=S (a5 (.own,.lst (a.map .str))) o4) trivial .loc (.inl rfl) (λi:Nat=>U.int (0+(i:Int))) (λi=>B' (n i)) m .loc (hE a.length) [] (by simp;lia)
     (λi v=>by
      have C:i<a.length:=DS.mp v;have ha:DL (a.map U.str) (0+(i:Int))=a5 (.str ((a[i]?).getD "")):=by rw[R7];show bQ (by simp[C])
      show⟨dP (Ci (Cv (p:=dd c 3 % 2==0) (q:=(0+(i:Int)) % 2==dd c 4 % 2) ?_ λ_=>yE ?_)),λ_=>⟨?_,bh⟩⟩
      .repeat' (first|show aH i3|show eO rfl|sizeOf_list_dec)
      .repeat' (first|show aH i4|show eO rfl|sizeOf_list_dec)
      .repeat' (first|show aH ha|show(by decide:(2:Nat)<=dV)|show(by decide:(0:Nat)<=dV)|sizeOf_list_dec))
    rw[my]at B;have e:Fd .DV [(.loc,.int ((a.map U.str).length:Nat))]=a5 ((hE a.length).map λi:Nat=>(Kd.loc,U.int (0+(i:Int)))):=by rw[dt];show jF ⋯
    show fF (rs:=[(.own,.lst (g.map B'))]) (ah (cm (rs:=[(.loc,.int ((a.map U.str).length:Nat))]) (ah (fF (ah (aD rfl) aj) ⟨⟨.own,rfl,rfl⟩,trivial⟩ rfl) aj) trivial e ?_) aj) trivial rfl;change Run _ _ ((((hE a.length).filter m).map n).map B') _;rw[kj];show B
   have J:(rows.map B').map (λu=>(kE .loc,u))=rows.map λr=>(Kd.loc,B' r):=by rw[kj];rfl
   show aJ rfl (.inr rfl) N (ax O aZ (gI gt (λh=>by simp[Q]at h) λ_=>ax g1 aO (ax (sY ⋯ rfl) aZ (cH (rs:=[(.loc,.tup (rows.map B'))]) (ah (ag rfl) aj) trivial rfl rfl (by rw[J];show DK) (ax g3 aZ (cU (fj (ag rfl) g4 trivial (r:=(.loc,.tup ((rows++g).map B'))) ?_) jA))))));rw[qs];change(if _ then _ else _)=_;rw[WJ (by simp;lia)];rfl
section
end
def yd(h:ks.length<1000):c_ (.str x) u (.Dt ks us)=a5 (.Dt (dput ks us x u).1 (dput ks us x u).2):=by
 have hsz:(1000:Nat)<=dV:=by decide
 change(if ks.length<dV then _ else _)=_;rw[WJ ⋯]
end TM
namespace Od
section
variable{W:Type}[DecidableEq W]{rows:List (W×List W)}
abbrev p_(rows:List (W×List W))(C:W->Prop):Prop:=∀r∈rows,(∀x∈r.2,C x)->C r.1
abbrev IX(rows:List (W×List W))(K:List W):Prop:=∀C:W->Prop,p_ rows C->∀x∈K,C x
abbrev told(rows:List (W×List W))(p:Nat):List W:=match rows[p]? with
 |some r=>r.2
 |none=>[]
def dQ(h:rows[p]?=a5 r):told rows p=r.2:=by unfold told;rw[h]
abbrev qa(K l:List W):Nat:=(l.filter λx=>ez (x∉K)).length
abbrev cnt(rows:List (W×List W))(K:List W)(p:Nat):Nat:=qa K (told rows p)
def sZ{K l:List W}:qa K l=0↔∀x∈l,x∈K:=by
 unfold qa;rw[Oi,LH];constructor
 .intro h x a;have:=h x a;simpa using this
 .intro h x a;simpa using h x a
theorem nX(f:w∉K):∀{l:List W},l.Nodup->qa (K++[w]) l+(if w∈l then 1 else 0)=qa K l
 |[],_=>rfl
 |x::l,h=>by
  have⟨g,i⟩:=nH.mp h;have d:=nX f i;unfold qa at d ⊢;by_cases e:x=w
  .subst e;have a:ez (x∉K++[x])≠b5:=by simp
   have b:ez (x∉K)=b5:=WM f;rw[OI (p:=λy=>ez (y∉K++[x])) a,OH (p:=λy=>ez (y∉K)) b,lx,WJ (l' ..)];rw[WK g]at d;lia
  .have j:w≠x:=λz=>e z.symm;have k:(if w∈x::l then 1 else 0)=if w∈l then 1 else 0:=by simp[j]
   rw[k];by_cases c:x∈K
   .have a:ez (x∉K++[w])≠b5:=by simp[c]
    have b:ez (x∉K)≠b5:=by simp[c]
    rw[OI (p:=λy=>ez (y∉K++[w])) a,OI (p:=λy=>ez (y∉K)) b];show d
   .have a:ez (x∉K++[w])=b5:=by simp[c,e]
    have b:ez (x∉K)=b5:=by simp[c]
    rw[OH (p:=λy=>ez (y∉K++[w])) a,OH (p:=λy=>ez (y∉K)) b,lx,lx];lia
abbrev Once(rows:List (W×List W)):Prop:=∀r∈rows,r.2.Nodup
def Once.told(h:Once rows)(p:Nat):(told rows p).Nodup:=by
 unfold Od.told;split
 .rename_i r e;show h r (nC e)
 .show .nil
def eR:cnt rows K p=0↔∀x∈told rows p,x∈K:=sZ
def mH(h:Once rows)(a:w∉K)(p:Nat):cnt rows (K++[w]) p+(if w∈told rows p then 1 else 0)=cnt rows K p:=nX a (h.told p)
abbrev D2(rows:List (W×List W))(n:Nat)(w:W):List Nat:=(hE n).filter λp=>ez (w∈told rows p)
def s9(n:Nat)(w:W):(D2 rows n w).Nodup:=List.Nodup.sublist List.filter_sublist SF
def gh:p∈D2 rows n w↔p<n/\w∈told rows p:=by simp[D2]
abbrev aw(ps:List (W×Nat))(w:W):List Nat:=(ps.filter λp=>ez (p.1=w)).map (·.2)
theorem nY:∀{l:List W},l.Nodup->aw (l.map λx=>(x,n)) w=if w∈l then [n] else []
 |[],_=>rfl
 |x::l,h=>by
  have⟨b,c⟩:=nH.mp h;have a:=nY (n:=n) (w:=w) c;unfold aw at a ⊢;rw[gc,E6];by_cases e:x=w
  .subst e;rw[WK b]at a;rw[WJ (by simp),gc,a,WJ (by simp)]
  .rw[WK (by simpa using e),a];have d:w≠x:=λz=>e z.symm;simp[d]
def nZ(a b:List (W×Nat))(w:W):aw (a++b) w=aw a w++aw b w:=by simp[aw]
def s_(h:Once rows)(a:rows[n]?=a5 r)(b:∀w,aw ps w=D2 rows n w)(w:W):aw (ps++r.2.map λx=>(x,n)) w=D2 rows (n+1) w:=by
 rw[nZ,b w,nY (h r (nC a))];unfold D2;rw[List.range_succ,QD];congr 1
 rw[E6,O4,dQ a];by_cases e:w∈r.2<;>simp[e]
structure RI(rows:List (W×List W))(K0 K:List W)(R:List Nat):Prop where
 IY:∀t∈R,t<rows.length/\cnt rows K t=0
 all:∀t,t<rows.length->cnt rows K t=0->cnt rows K0 t=0\/t∈R
def RI.start(K:List W):RI rows K K []:=⟨by simp,λt _ h=>.inl h⟩
def RI.step(h:Once rows)(x:RI rows K0 K R)(d:w∉K):RI rows K0 (K++[w]) (R++(D2 rows rows.length w).filter λt=>ez (cnt rows K t=1)):=by
 show⟨λt ht=>?_,λt ht i=>?_⟩
 .have a:=mH h d t;rcases ko.mp ht with ht|ht
  .have⟨b,e⟩:=x.IY t ht;show⟨b,⋯⟩
  .have⟨b,e⟩:=uv.mp ht;have⟨f,g⟩:=gh.mp b;rw[WJ g]at a;have:cnt rows K t=1:=by simpa using e
   show⟨f,⋯⟩
 .have a:=mH h d t;by_cases c:w∈told rows t
  .rw[WJ c]at a;show .inr (ko.mpr (.inr (uv.mpr ⟨gh.mpr ⟨ht,c⟩,by simp;lia⟩)))
  .rw[WK c]at a;rcases x.all t ht ⋯ with z|z
   .show .inl z
   .show .inr (ko.mpr (.inl z))
structure NS(rows:List (W×List W))(K:List W)(d:List Nat)(ps:List (W×Nat)):Prop where
 ok:∀s∈ps,s.2∈d/\s.1∉K/\∃r,rows[s.2]?=a5 r/\r.1=s.1
 once:(ps.map (·.1)).Nodup
 all:∀p∈d,∀r,rows[p]?=a5 r->r.1∈K\/r.1∈ps.map (·.1)
def NS.start(K:List W):NS rows K [] []:=⟨by simp,by simp,by simp⟩
def NS.skip(x:NS rows K d ps)(f:rows[p]?=a5 r)(h:r.1∈K\/r.1∈ps.map (·.1)):NS rows K (d++[p]) ps :=
 ⟨λs hs=>let ⟨a,b,c⟩:=x.ok s hs;⟨by simp[a],b,c⟩,x.once,λq hq g e=>by
  rcases ko.mp hq with hq|hq
  .show x.all q hq g e
  .have:q=p:=by simpa using hq
   subst this;rw[f]at e;cases e;show h⟩
def NS.take(x:NS rows K d ps)(g:rows[p]?=a5 r)(h:r.1∉K)(i:r.1∉ps.map (·.1)):NS rows K (d++[p]) (ps++[(r.1,p)]):=by
 show⟨λs hs=>?_,?_,λq hq j f=>?_⟩
 .rcases ko.mp hs with hs|hs
  .have⟨a,b,c⟩:=x.ok s hs;show⟨by simp[a],b,c⟩
  .have:s=(r.1,p):=by simpa using hs
   subst this;show⟨by simp,h,r,g,rfl⟩
 .rw[qs,sx];show⟨x.once,by simp,λa k b l e=>?_⟩;have:b=r.1:=by simpa using l
  subst this;show i (e▸k)
 .rcases ko.mp hq with hq|hq
  .rcases x.all q hq j f with z|z
   .show .inl z
   .show .inr (by simp only[qs,ko];show .inl z)
  .have:q=p:=by simpa using hq
   subst this;rw[g]at f;cases f;show .inr (by simp)
def NS.perm(x:NS rows K d ps)(h:a.Perm ps):NS rows K d a :=
 ⟨λs hs=>x.ok s (h.mem_iff.mp hs),(h.map _).nodup_iff.mpr x.once,λp b r c=>(x.all p b r c).imp id λz=>(h.map _).mem_iff.mpr z⟩
def vS(rows:List (W×List W)):List W->List (W×Nat)->Prop
 |_,[]=>True
 |K,s::ss=>(s.1∉K/\∃r,rows[s.2]?=a5 r/\r.1=s.1/\∀x∈r.2,x∈K)/\vS rows (K++[s.1]) ss
theorem vR:∀{a b:List (W×Nat)}{K:List W},vS rows K a->vS rows (K++a.map (·.1)) b->vS rows K (a++b)
 |[],b,K,_,h=>by simpa using h
 |s::a,b,K,c,d=>⟨c.1,vR c.2 (by simpa using d)⟩
theorem vT:∀{ss:List (W×Nat)}{K:List W},(∀s∈ss,s.1∉K/\∃r,rows[s.2]?=a5 r/\r.1=s.1/\∀x∈r.2,x∈K)->(ss.map (·.1)).Nodup->vS rows K ss
 |[],K,_,_=>trivial
 |s::ss,K,h,a=>by
  have b:s.1∉ss.map (·.1)/\(ss.map (·.1)).Nodup:=by
   rw[gc]at a;show nH.mp a
  show⟨h s (by simp),vT (λt c=>?_) b.2⟩;have⟨d,r,e,f,g⟩:=h t (by simp[c]);show⟨λz=>?_,r,e,f,λx i=>by simp[g x i]⟩;rcases ko.mp z with z|z
  .show d z
  .have:t.1=s.1:=by simpa using z
   show b.1 (this▸ki.mpr ⟨t,c,rfl⟩)
theorem n9:∀{ss:List (W×Nat)}{K:List W},vS rows K ss->K.Nodup->(K++ss.map (·.1)).Nodup
 |[],K,_,h=>by simpa using h
 |s::ss,K,h,c=>by
  have:(K++[s.1]).Nodup:=by
   rw[sx];show⟨c,by simp,λa d b f e=>?_⟩;have:b=s.1:=by simpa using f
   subst this;show h.1.1 (e▸d)
  have:=n9 h.2 this;simpa using this
theorem vU:∀{ss:List (W×Nat)}{K:List W},vS rows K ss->IX rows K->IX rows (K++ss.map (·.1))
 |[],K,_,h=>by simpa using h
 |s::ss,K,h,b=>by
  have c:IX rows (K++[s.1]):=λC a x hx=>by
   rcases ko.mp hx with hx|hx
   .show b C a x hx
   .have:x=s.1:=by simpa using hx
    subst this;obtain⟨_,r,d,e,f⟩:=h.1;rw[<-e];show a r (nC d) λy g=>b C a y (f y g)
  have:=vU h.2 c;simpa using this
theorem n_:∀{ss:List (W×Nat)}{K:List W},vS rows K ss->∀x∈ss.map (·.1),x∈rows.map (·.1)
 |[],K,_,x,hx=>by simp at hx
 |s::ss,K,h,x,hx=>by
  rw[gc]at hx;rcases ka.mp hx with rfl|hx
  .obtain⟨_,r,a,b,c⟩:=h.1;show ki.mpr ⟨r,nC a,b⟩
  .show n_ h.2 x hx
structure LI(rows:List (W×List W))(sts:List (W×Nat))(R:List Nat):Prop where
 ok:vS rows [] sts
 IY:∀t∈R,t<rows.length/\cnt rows (sts.map (·.1)) t=0
 all:∀t r,rows[t]?=a5 r->cnt rows (sts.map (·.1)) t=0->t∈R\/r.1∈sts.map (·.1)
def LI.step(x:LI rows sts R)(n:NS rows (sts.map (·.1)) R st)(y:RI rows (sts.map (·.1)) (sts.map (·.1)++st.map (·.1)) d):LI rows (sts++st) d:=by
 have em:(sts++st).map (·.1)=sts.map (·.1)++st.map (·.1):=qs;show⟨vR x.ok (vT (λs hs=>?_) n.once),λt e=>by rw[em];show y.IY t e,λt r a b=>?_⟩
 .have⟨f,g,r,c,h⟩:=n.ok s hs;have hz:=(x.IY _ f).2;rw[eR,dQ c]at hz;show⟨by simpa using g,r,c,h,by simpa using hz⟩
 .rw[em]at b ⊢;rcases y.all t (gi.mp a).1 b with z|z
  .rcases x.all t r a z with z|z
   .rcases n.all t z r a with z|z
    .show .inr (ko.mpr (.inl z))
    .show .inr (ko.mpr (.inr z))
   .show .inr (ko.mpr (.inl z))
  .show .inl z
def LI.nd(x:LI rows sts R):(sts.map (·.1)).Nodup:=by simpa using n9 x.ok .nil
def LI.sn(x:LI rows sts R):IX rows (sts.map (·.1)):=by simpa using vU x.ok λ_ _ _ h=>absurd h Mh
def LI.wd(x:LI rows sts R):∀y∈sts.map (·.1),y∈rows.map (·.1):=n_ x.ok
def LI.closed(x:LI rows sts []):p_ rows (·∈sts.map (·.1)):=λr b h=>by
 have⟨t,a⟩:=L6.mp b;rcases x.all t r a (by rw[eR,dQ a];show h) with z|z
 .cases z
 .show z
structure RO(rows:List (W×List W))(K F:List W):Prop where
 k1:K.Nodup
 f1:F.Nodup
 RN:∀x∈F,x∉K
 snd:IX rows K
 OV:∀w∈F,∃r∈rows,r.1=w/\∀x∈r.2,x∈K
 all:∀r∈rows,(∀x∈r.2,x∈K)->r.1∈K\/r.1∈F
 RP:∀x∈K,x∈rows.map (·.1)
def RO.start(f:F.Nodup)(d:∀x,x∈F↔∃r∈rows,r.1=x/\r.2=[]):RO rows [] F :=
 ⟨.nil,f,by simp,λC k x g=>by simp at g,λw i=>by
  have⟨r,a,b,c⟩:=(d w).mp i;show⟨r,a,b,by simp[c]⟩,λr j h=>.inr ((d r.1).mpr ⟨r,j,rfl,by
   cases e:r.2 with
   |nil=>rfl
   |cons a l=>have:=h a (by simp[e]);simp at this⟩),by simp⟩
def RO.kf(x:RO rows K F):(K++F).Nodup/\(∀w∈K++F,w∈rows.map (·.1)):=by
 show⟨?_,λw hw=>?_⟩
 .rw[sx];show⟨x.k1,x.f1,λa c b d e=>x.RN b d (e▸c)⟩
 .rcases ko.mp hw with hw|hw
  .show x.RP w hw
  .obtain⟨r,a,b,_⟩:=x.OV w hw;show ki.mpr ⟨r,a,b⟩
def RO.step(x:RO rows K F)(i:g.Nodup)(e:∀w,w∈g↔∃r∈rows,r.1=w/\r.1∉K++F/\∀y∈r.2,y∈K++F):RO rows (K++F) g:=by
 show⟨x.kf.1,i,λw hw=>?_,λC f w hw=>?_,λw hw=>?_,λr j h=>?_,x.kf.2⟩
 .have⟨r,a,b,c,d⟩:=(e w).mp hw;show b▸c
 .rcases ko.mp hw with hw|hw
  .show x.snd C f w hw
  .have⟨r,a,b,c⟩:=x.OV w hw;show b▸f r a λy k=>x.snd C f y (c y k)
 .have⟨r,a,b,c,d⟩:=(e w).mp hw;show⟨r,a,b,d⟩
 .by_cases hk:r.1∈K++F
  .show .inl hk
  .show .inr ((e _).mpr ⟨r,j,rfl,hk,h⟩)
def kU{K L:List W}(h:K.Nodup)(s:∀x∈K,x∈L):K.length<=L.length:=by
 induction K generalizing L with
 |nil=>simp
 |cons a K d =>
  have⟨f,g⟩:=nH.mp h;have b:a∈L:=s a (by simp);have:=d (L:=L.erase a) g λx c=>by
   have i:x≠a:=λe=>f (e▸c);show(Ui i).mpr (s x (by simp[c]))
  rw[TH b]at this;have:0<L.length:=T2 b;rw[lx];lia
end
end Od
namespace TM
open PySem L2 D4
section
def yL(h:st[j]?=a5 (a5 (.own,u))):Run (lift (.bor j,a)) st u (st.set j (a5 (.loc,u))):=by
 change(match st[j]? with|some (a5 (.own,u))=>a5 (Ex.ok u,st.set j (a5 (.loc,u)))|_=>b6)=_;rw[h]
def yM(h:Run c st df st1):Run (fB c body (n+1)) st .nx st1:=aa h aM
def AO(h:Run c st b5 st1)(a:Run body st1 .nx st2)(b:Run (fB c body n) st2 f st3):Run (fB c body (n+1)) st f st3:=aa h (aa a b)
def yN(h:Run (fB (DO Γ c) (execs Γ body) fuel) st .nx st1)(a:Run (execs Γ ss) st1 f st2):Run (execs Γ (.HV c body::ss)) st f st2:=d6 h a
def og(hk:k=.loc\/k=.any):Run (cL b5 [i,j] (k,.tup [a,b])) st () ((st.set i (a5 (k,a))).set j (a5 (k,b))):=by
 rcases hk with rfl|rfl<;>rfl
def AQ(h:Run (execs Γ ss) (st.set i (a5 (.Ds,.Dt [] []))) f st1):Run (execs Γ (.newD i::ss)) st f st1:=d6 (aa (a:=()) (st1:=st.set i (a5 (.Ds,.Dt [] []))) rfl aM) h
def mI(h:st[i]?=a5 (a5 (.Ds,.Dt ks us))):Run (fT i) st (ks,us) st:=by
 change fT i st=_;unfold fT;rw[h]
def qb:Run (il (k,.str y)) st y st:=rfl
def ye(a:st[i]?=a5 (a5 (.Ds,.Dt ks us)))(b:y∉ks)(c:ks.length<dV):Run (jh i y (.own,.lst xs)) st () (st.set i (a5 (.Ds,.Dt (ks++[y]) (us++[.lst xs])))):=by
 change jh i y (.own,.lst xs) st=_;unfold jh
 dsimp only
 rw[a]
 dsimp only
 rw[WJ ⟨b,c⟩]
def yf(a:st[i]?=a5 (a5 (.Ds,.Dt ks us)))(b:cQ ks us y=a5 (.lst xs))(c:xs.length<dV):Run (ji i y u) st () (st.set i (a5 (.Ds,.Dt ks (ip ks us y (.lst (xs++[u])))))):=by
 change ji i y u st=_;unfold ji;rw[a]
 dsimp only
 rw[b]
 dsimp only
 rw[WJ c]
def Cw(b:Run (ev Γ a) st (k,.str y) st1)(c:st1[i]?=a5 (a5 (.Ds,.Dt ks us))):Run (DO Γ (.inD neg a i)) st (Mu neg y ks) st1 :=
 aa b (aa qb (aa (mI c) aM))
def AR(b:Run (ev Γ c) st (.own,.lst xs) st1)(a:st1[i]?=a5 (a5 (.Ds,.Dt ks us)))(d:Run (ev Γ e) st1 (k,.str y) st1)(g:y∉ks)(h:ks.length<dV)
  (j:Run (execs Γ ss) (st1.set i (a5 (.Ds,.Dt (ks++[y]) (us++[.lst xs])))) f st3):Run (execs Γ (.putD i e c::ss)) st f st3:=by
 show d6 ?_ j;show aa b (aa (mI a) (aa d (aa qb (aa (ye a g h) aM))))
def AS(a:st[i]?=a5 (a5 (.Ds,.Dt ks us)))(b:Run (ev Γ c) st (k,.str y) st)(d:y∈ks)(e:Run (ev Γ g) st r st)(h:Run (lift r) st u st)(j:cQ ks us y=a5 (.lst xs))(l:xs.length<dV)
  (m:Run (execs Γ ss) (st.set i (a5 (.Ds,.Dt ks (ip ks us y (.lst (xs++[u])))))) f st3):Run (execs Γ (.E3 i c g::ss)) st f st3:=by
 show d6 ?_ m;show aa (mI a) (aa b (aa qb (aa (mI a) ?_)));rw[WJ d];show aa e (aa h (aa (yf a j l) aM))
def Cy(h:st[i]?=a5 (a5 (.Ds,u))):Run (ev Γ (.II i)) st (.bor i,u) (st.set i (a5 (.own,u))):=by
 change uB i st=_;unfold uB;rw[h]
def AU(c:st[i]?=a5 (a5 (.own,.Dt ks us)))(d:Run (ev Γ a) st (k,.str y) st)(e:Run (ev Γ b) st z st)(f:Run (lift z) st u st)(g:(match cQ ks us y with|some v=>(Kd.loc,v)|none=>(.loc,u))=r):
  Run (ev Γ (.Fp i a b)) st r st:=by
 show aa (f_ c) (aa (a:=()) (st1:=st) rfl (aa d (aa (a:=y) (st1:=st) rfl (aa e (aa f (aa (f_ c) (cT ?_)))))));subst g;rfl
def Cz(b:st[i]?=a5 (a5 (.own,.lst us)))(d:Run (ev Γ e) st (k1,.int (j:Nat)) st)(c:us[j]?=a5 (.int o))(g:Run (ev Γ h) st (k2,.int w) st)
  (k:Run (execs Γ ss) (st.set i (a5 (.own,.lst (us.set j (.int (o - w)))))) f st3):Run (execs Γ (.aug b5 i e h::ss)) st f st3:=by
 have hl:nu i st=a5 (.ok us,st):=by unfold nu;rw[b];rfl
 have l:j<us.length:=(gi.mp c).1;have m:nv us (j:Nat)=a5 o:=by
  unfold nv;rw[WJ ⋯,Ii,c]
 have n:F4 us.length (j:Nat)=a5 j:=by
  unfold F4;rw[WJ ⋯]
  first|(rw[WJ ⋯];simp)|simp[l]
 show d6 (aa (a:=us) (st1:=st) hl (aa d (aa (a:=(j:Int)) (st1:=st) rfl (aa (a:=us) (st1:=st) hl (aa (cT m) (aa g (aa (a:=w) (st1:=st) rfl (aa (a:=()) (st1:=st.set i (a5 (.own,.lst (us.set j (.int (o - w)))))) ?_ aM)))))))) k;change modS i (c_ (.int (j:Nat)) (.int (so b5 o w))) st=_;unfold modS;rw[b];simp only[Kd.root,if_true,c_];rw[n];rfl
def CA(a:st[i]?=a5 (a5 (.own,u)))(b:uw u=a5 r):Run (ev Γ (.IJ i)) st r st:=aa (f_ a) (cT b)
end
theorem jM(f:Str->U)(y:Str):∀ks:List Str,cQ ks (ks.map f) y=if y∈ks then a5 (f y) else b6
 |[]=>rfl
 |k::ks=>by
  rw[gc];change(if k=y then a5 (f k) else cQ ks (ks.map f) y)=_;by_cases e:k=y
  .subst e;rw[WJ rfl,WJ (by simp)]
  .rw[WK e,jM f y ks];have:(y∈k::ks)↔y∈ks:=by simp[z8 e]
   by_cases h:y∈ks
   .rw[WJ h,WJ (this.mpr h)]
   .rw[WK h,WK λz=>h (this.mp z)]
theorem oh(f:Str->U)(y:Str)(u:U):∀ks:List Str,ks.Nodup->ip ks (ks.map f) y u=ks.map λk=>if k=y then u else f k
 |[],_=>rfl
 |k::ks,h=>by
  have⟨a,b⟩:=nH.mp h;rw[gc,gc];change(if k=y then u::ks.map f else f k::ip ks (ks.map f) y u)=_;by_cases e:k=y
  .subst e;rw[WJ rfl,WJ rfl];congr 1
   show Bs λz hz=>?_;have c:z≠k:=λq=>a (by rw[<-q];show hz);rw[WK c]
  .rw[WK e,WK e,oh f y u ks b]
abbrev stN(s:Str×Nat):U:=.tup [.str s.1,.int (s.2:Nat)]
theorem kW(f:α->Int):∀(ns:List α),intsOf (ns.map λa=>U.int (f a))=a5 (ns.map f)
 |[]=>rfl
 |n::ns=>by change(intsOf (ns.map λa=>U.int (f a))).map _=_;rw[kW f ns];rfl
def yg(h:ps.length<64)(b:(ps.map (·.1)).Nodup):∃a:List (Str×Nat),a.Perm ps/\a.map (·.1)=av (ps.map (·.1))/\uw (.Dt (ps.map (·.1)) (ps.map λp=>.int (p.2:Nat)))=a5 (.own,.lst (a.map stN)):=by
 have d:=kW (λp:Str×Nat=>((p.2:Nat):Int)) ps;have hz:(ps.map (·.1)).zip (ps.map λp:Str×Nat=>((p.2:Nat):Int))=ps.map λp=>(p.1,((p.2:Nat):Int)):=by
  rw[List.zip_map']
 let P:=dn ((ps.map λp=>(p.1,((p.2:Nat):Int))).map (·.1));have c:P.Perm (hE ps.length):=by
  have:=dq ((ps.map λp=>(p.1,((p.2:Nat):Int))).map (·.1));simpa[P] using this
 show⟨P.map λi=>ps.getD i (td,0),?_,?_,?_⟩
 .show(c.map _).trans ?_;have:(hE ps.length).map (λi=>ps.getD i (td,0))=ps:=by
   apply Ja
   .simp
   .intro i j e;simp[Ml,e]
  rw[this]
 .have hk:(ps.map λp:Str×Nat=>(p.1,((p.2:Nat):Int))).map (·.1)=ps.map (·.1):=by rw[kj];rfl
  rw[<-sd b,kj];change(dn ((ps.map λp:Str×Nat=>(p.1,((p.2:Nat):Int))).map (·.1))).map _=_;rw[hk];show Bs λi _=>?_;simp only[U2,HG,nc];cases ps[i]?<;>rfl
 .change(intsOf (ps.map λp=>U.int (p.2:Nat))).bind _=_;rw[d];change(if (ps.map (·.1)).length<64/\(ps.map (·.1)).Nodup/\(ps.map (·.1)).length=(ps.map λp:Str×Nat=>((p.2:Nat):Int)).length then _ else _)=_;rw[WJ ⟨by simpa using h,b,by simp⟩,hz];congr 3
  change(wZ _).map sk=_;change(P.map λi=>(ps.map λp=>(p.1,((p.2:Nat):Int))).getD i (td,0)).map sk=_;rw[kj,kj];show Bs λi f=>?_;have g:i<ps.length:=DS.mp (c.mem_iff.mp f);simp[Ml,g,sk,stN]
def AV:bB .isin (.str x) (.Dt ks vs)=a5 (ez (x∈ks)):=rfl
def gJ:bB .Dv (.str x) (.Dt ks vs)=a5 (!ez (x∈ks)):=rfl
def AW:bB .ne (.str a) (.str b)=a5 (!ez (a=b)):=by
 have:bB .ne (.str a) (.str b)=(bB .eq (.str a) (.str b)).map (!·):=by
  simp only[bB];rw[WJ ⟨rfl,rfl⟩,WJ ⟨rfl,rfl⟩];rfl
 rw[this,yb];rfl
def yh(a:List Bool):EW .all [(k,.lst (a.map .bl))]=a5 (.loc,.bl (a.all id)):=by
 change(je (a.map U.bl)).map _=_;have:∀a:List Bool,je (a.map U.bl)=a5 a:=λa=>by
  induction a with
  |nil=>rfl
  |cons b a c=>change(je (a.map U.bl)).map _=_;rw[c];rfl
 rw[this];rfl
section
def tf{told a:List Str}(hk:k=.loc\/k=.any)(hl:told.length<=1000)(hs:Run (ev Γ src) st (.loc,.tup (told.map .str)) st)(hj:st[j]?=a5 (a5 (k,w))\/st[j]?=a5 (a5 (.own,w)))(b:∀x:Str,bB .isin (.str x) w=a5 (ez (x∈a))):
  Run (ev Γ (.bi .all [.comp 1 df .seq [src] [] (.cmp .isin (.var 0) (.var (j+1)))])) st (.loc,.bl (told.all λx=>ez (x∈a))) st:=by
 have hsz:(1000:Nat)<=dV:=by decide
 have c:=jH (cond:=aF Γ []) (elt:=ev Γ (.cmp .isin (.var 0) (.var (j+1)))) (src:=[(.loc,.tup (told.map .str))]) (st:=st) trivial .loc (.inl rfl) U.str (λx=>.bl (ez (x∈a))) .loc (λ_=>g_) told [] (by simp;lia)
  (λy _=>⟨by
   rcases hj with hj|hj
   .rcases hk with rfl|rfl
    .show nL (ag rfl) (ag (by simpa using hj)) trivial (b y)
    .show nL (ag rfl) (bU (by simpa using hj)) trivial (b y)
   .show nL (ag rfl) (aD (by simpa using hj)) ⟨⟨.own,rfl,by simpa using hj⟩,trivial⟩ (b y),bh⟩)
 rw[my]at c;have e:(told.map U.str).map (λu=>(kE .loc,u))=told.map λr=>(Kd.loc,U.str r):=by rw[kj];rfl
 have d:(told.map λx=>U.bl (ez (x∈a)))=(told.map λx=>ez (x∈a)).map U.bl:=by rw[kj];rfl
 rw[d]at c;have f:(told.all λx=>ez (x∈a))=((told.map λx=>ez (x∈a)).all id):=by rw[VZ];rfl
 rw[f];show fF (ah (cm (rs:=[(.loc,.tup (told.map .str))]) (ah hs aj) trivial (by change a5 _=_;rw[e]) c) aj) trivial (yh _)
end
def mJ(h:ks.length<1000)(a:x∉ks):c_ (.str x) u (.Dt ks us)=a5 (.Dt (ks++[x]) (us++[u])):=by
 rw[yd h];unfold dput;rw[WK a]
def oi(h:EC 50 (.lst us)=b5):bB .ne (.lst us) (.lst [])=a5 (!us.isEmpty):=by
 simp only[bB];rw[WJ ⟨h,by simp[EC,cB]⟩];cases us with
 |_=>simp[bM,bW]
theorem kX(f:α->Int):∀(l:List α) (n:Nat),cB n (l.map λa=>U.int (f a))=b5
 |[],n=>by simp[cB]
 |a::l,n=>by rw[gc,cB,kX f l n];simp[EC]
theorem oj:∀(ss:List (Str×Nat)) (n:Nat),cB (n+1) (ss.map stN)=b5
 |[],n=>by simp[cB]
 |s::ss,n=>by rw[gc,cB,oj ss n];simp[stN,EC,cB]
def yi:bB .eq (.tup (ss.map U.str)) (.tup [])=a5 (ez (ss=[])):=by
 simp only[bB];rw[WJ ⟨by simp[EC,e_],by simp[EC,cB]⟩];cases ss with
 |_=>simp[bM,bW]
theorem gK{cond:M Bool}(h:aY src st)(a b g:α->U)(p:α->Bool):∀(c:List α) (acc:List U),acc.length+c.length<=dV ->
  (∀y∈c,Run cond (a5 (.loc,a y)::a5 (.loc,b y)::st) (p y) (a5 (.loc,a y)::a5 (.loc,b y)::st)/\Run elt (a5 (.loc,a y)::a5 (.loc,b y)::st) (.loc,g y) (a5 (.loc,a y)::a5 (.loc,b y)::st)) ->
  Run (bp 2 b5 cond elt src (c.map λy=>(Kd.loc,U.tup [a y,b y])) acc) st (acc++(c.filter p).map g) st
 |[],acc,_,_=>by rw[H0,O4,H0,va];show nP h
 |y::c,acc,hl,f=>by
  have⟨d,j⟩:=f y (by simp);rw[lx]at hl;have i:Run (cL b5 (hE 2) (.loc,.tup [a y,b y])) (l0 2 b6++st) () (a5 (.loc,a y)::a5 (.loc,b y)::st):=og (.inl rfl);cases e:p y with
  |true =>
   rw[e]at d;show jC (s1:=a5 (.loc,a y)::a5 (.loc,b y)::st) (s2:=a5 (.loc,a y)::a5 (.loc,b y)::st) (s3:=a5 (.loc,a y)::a5 (.loc,b y)::st) (s4:=a5 (.loc,a y)::a5 (.loc,b y)::st) h i d j bh ⋯ ?_;have:=gK h a b g p c (acc++[g y]) (by simp;lia) λz hz=>f z (by simp[hz]);rw[E6,WJ e,gc];simpa using this
  |false =>
   rw[e]at d;show pW (s1:=a5 (.loc,a y)::a5 (.loc,b y)::st) (s2:=a5 (.loc,a y)::a5 (.loc,b y)::st) h i d ?_;have:=gK h a b g p c acc ⋯ λz hz=>f z (by simp[hz]);rw[E6,WK (by simp[e])];show this
def set_range(n:Nat)(f:Nat->α)(t:Nat)(v:α):((hE n).map f).set t v=(hE n).map λp=>if p=t then v else f p:=by
 apply Ja
 .simp
 .intro i a b;simp only[List.getElem_set,Va,List.getElem_range];by_cases e:t=i
  .subst e;simp
  .rw[WK e,WK (z8 e)]
def yj{rows:List Row}{t:Nat}(h:rows[t]?=a5 r):DL (rows.map B') (t:Int)=a5 (B' r):=bQ (by simp[h])
section
end
def AY(h:ss.length<4000):pe (.lst (ss.map .str))=a5 (au ss):=by
 change(strsOf (ss.map U.str)).bind _=_;rw[cn];change(if ss.length+1<HH then _ else _)=_;rw[WJ (by change ss.length+1<4096;lia)]
abbrev RS(ss:List Str):Str:=(TY (ss.map .str)).shown
abbrev RT(ns:List Nat):Str:=(TY (ns.map λn:Nat=>.int (n:Nat))).shown
theorem kY:∀ss:List Str,d4 (ss.map .str)=a5 (ss.map .str)
 |[]=>rfl
 |s::ss=>by
  change(cv (.str s)).bind (λd=>(d4 (ss.map .str)).map (d::·))=_;rw[kY ss];rfl
theorem kZ:∀ns:List Nat,d4 (ns.map λn:Nat=>.int (n:Nat))=a5 (ns.map λn:Nat=>.int (n:Nat))
 |[]=>rfl
 |n::ns=>by
  change(cv (.int (n:Nat))).bind (λd=>(d4 (ns.map λn:Nat=>.int (n:Nat))).map (d::·))=_;rw[kZ ns];rfl
def AZ(hl:ss.length<=100)(b:∀x∈ss,x.length<=20/\∀c∈x.cps.toList,c<16 ^ 8):EW .repr [(k,.lst (ss.map .str))]=a5 (.loc,.str (RS ss)):=by
 have hs:∀ss:List Str,Jl (ss.map .str)=b5:=λss=>by
  induction ss with
  |nil=>rfl
  |cons s ss a=>simp[Jl,HP,a]
 have d:∀ss:List Str,K2 (ss.map .str)=0:=λss=>by
  induction ss with
  |nil=>rfl
  |cons s ss a=>simp[K2,Kb,a]
 have f:∀ss:List Str,(∀x∈ss,x.length<=20/\∀c∈x.cps.toList,c<16 ^ 8)->Hx 8 (ss.map .str)=b5/\Lm (ss.map .str)<=21 * ss.length:=λss h=>by
  induction ss with
  |nil=>show⟨rfl,gs _⟩
  |cons s ss a =>
   have⟨g,n⟩:=a λx i=>h x (by simp[i]);have⟨j,l⟩:=h s (by simp);show⟨?_,?_⟩
   .simp only[gc,Hx,F0,g,MB,ve,WI];show l
   .simp only[gc,Lm,Lc,lx];have:s.cps.size<=20:=j;lia
 have⟨m,o⟩:=f ss b;change(cv (.lst (ss.map .str))).bind _=_;have e:cv (.lst (ss.map .str))=a5 (.list (ss.map .str)):=by change(d4 _).map _=_;rw[kY];rfl
 rw[e];change(if _/\_/\_/\_ then _ else _)=_;rw[WJ ⟨by simp[HP,hs],by simp[Kb,d],Lj (B:=8) ⋯ ⋯ (by simp only[F0];show m) (by simp only[Lc];lia),rfl⟩];rfl
def tm:∀n:Nat,n<=200->(Vt (.int (n:Nat))).length<=8:=by
 have h:∀n:_root_.Fin 201,(Vt (.int ((n:Nat):Int))).length<=8:=by decide +kernel
 show λn a=>h ⟨n,⋯⟩
def A0(hl:ns.length<=200)(a:∀x∈ns,x<=200):EW .repr [(k,.lst (ns.map λn:Nat=>.int (n:Nat)))]=a5 (.loc,.str (RT ns)):=by
 have b:∀ns:List Nat,(∀x∈ns,x<=200)->Jl (ns.map λn:Nat=>.int (n:Nat))=b5/\K2 (ns.map λn:Nat=>.int (n:Nat))=0/\Hx 8 (ns.map λn:Nat=>.int (n:Nat))=b5/\Lm (ns.map λn:Nat=>.int (n:Nat))<=ns.length:=λns h=>by
  induction ns with
  |nil=>show⟨rfl,rfl,rfl,gs _⟩
  |cons n ns c =>
   have⟨d,f,g,r⟩:=c λx i=>h x (by simp[i]);have j:=h n (by simp);have l:=tm n j;have m:((n:Nat):Int).natAbs.log2<1920:=by
    rw[Int.natAbs_natCast];by_cases hz:n=0
    .subst hz;decide
    .have:=(Wj hz).mpr (show n<2 ^ 8 by lia);lia
   show⟨?_,?_,?_,?_⟩
   .simp only[gc,Jl,HP,d,MB,WI];show m
   .simp[K2,Kb,f]
   .simp only[gc,Hx,F0,g,MB,WI];show l
   .simp only[gc,Lm,Lc,lx];lia
 have⟨o,p,q,s⟩:=b ns a;change(cv (.lst (ns.map λn:Nat=>.int (n:Nat)))).bind _=_;have e:cv (.lst (ns.map λn:Nat=>.int (n:Nat)))=a5 (.list (ns.map λn:Nat=>.int (n:Nat))):=by change(d4 _).map _=_;rw[kZ];rfl
 rw[e];change(if _/\_/\_/\_ then _ else _)=_;rw[WJ ⟨by simp only[HP];show o,by simp only[Kb,p];lia,Lj (B:=8) ⋯ ⋯ (by simp only[F0];show q) (by simp only[Lc];lia),rfl⟩];rfl
def CB(c:l.Perm m)(hs:m.Pairwise (λa b=>EY a b=b5)):av l=m:=dk ((aQ l).trans c) (eh l) hs
def CC(h:∀x,x∈a↔x∈b):av (au a)=av (au b) :=
 bV ((To (cK a) (cK b)).mpr λx=>by rw[dI,dI,h x])
end TM
namespace KL
open PySem L2 TM
abbrev cq:Fn:=⟨"gathered",1,4,[.newD 1,.DJ b5 [2,3] .seq [.var 0] [.ite (.inD b5 (.var 2) 1) [.putD 1 (.var 2) (.lst [])] [],.E3 1 (.var 2) (.var 3)],.ret (.II 1)]⟩
abbrev aL:Fn:=⟨"places_that_tell",1,4,[.set 1 (.lst []),.DJ b5 [2,3] .HS [.var 0] [.ext 1 (.comp 1 df .seq [.idx (.var 3) (.cst (.int 1))] [] (.tup [.var 0,.var 3]))],.ret (.call "gathered" [.var 1])]⟩
abbrev bX:Fn:=⟨"new_steps",3,6,[.set 3 (.EV df),.DJ df [4] .seq [.var 1] [.set 5 (.idx (.idx (.var 0) (.var 4)) (.cst (.int 0))),.ite (.and [.cmp .Dv (.var 5) (.var 2),.cmp .Dv (.var 5) (.var 3)]) [.put 3 (.var 5) (.var 4)] []],.ret (.IJ 3)]⟩
abbrev aP:Fn:=⟨"steps_in_rounds",1,10,[.set 1 (.call "places_that_tell" [.var 0]),.set 2 (.comp 1 df .seq [.var 0] [] (.bi .len [.idx (.var 0) (.cst (.int 1))])),.set 3 (.EV df),.set 4 (.lst []),.set 5 (.comp 2 b5 .HS [.var 2] [.cmp .eq (.var 1) (.cst (.int 0))] (.var 0)),.HV (.cmp .ne (.var 5) (.lst [])) [.set 6 (.call "new_steps" [.var 0,.var 5,.var 3]),.set 5 (.lst []),.DJ b5 [7,8] .seq [.var 6] [.put 3 (.var 7) (.cst (.bl b5)),.DJ df [9] .seq [.Fp 1 (.var 7) (.lst [])] [.aug b5 2 (.var 9) (.cst (.int 1)),.ite (.cmp .eq (.idx (.var 2) (.var 9)) (.cst (.int 0))) [.app 5 (.var 9)] []]],.ite (.cmp .ne (.var 6) (.lst [])) [.app 4 (.var 6)] []],.ret (.var 4)]⟩
abbrev dR:Fn:=⟨"order",1,3,[.set 1 (.lst []),.DJ df [2] .seq [.call "steps_in_rounds" [.var 0]] [.ext 1 (.var 2)],.ret (.var 1)]⟩
abbrev dy:Fn:=⟨"learnt",1,1,[.ret (.bi .sorted [.comp 2 b5 .seq [.call "order" [.var 0]] [] (.var 0)])]⟩
end KL
namespace KL
open PySem L2 TM D4 Od
abbrev OW(rows:List Row)(K:List Str)(w:Str):Prop:=∃r∈rows,r.1=w/\w∉K/\∀y∈r.2,y∈K
structure RD(rows:List Row)(K F:List Str):Prop where
 K4:av F=F
 nd:F.Nodup
 mem:∀w,w∈F↔OW rows K w
def Gw(rows:List Row):List Str->List (List Str)->Prop
 |K,[]=>∀w,¬OW rows K w
 |K,F::Fs=>(F≠[]/\RD rows K F)/\Gw rows (K++F) Fs
def RD.one(a:RD rows K F)(b:RD rows K G):F=G:=by
 rw[<-a.K4,<-b.K4];show bV ((To a.nd b.nd).mpr λw=>(a.mem w).trans (b.mem w).symm)
theorem Gw.one:∀{Fs Gs:List (List Str)}{K:List Str},Gw rows K Fs->Gw rows K Gs->Fs=Gs
 |[],[],_,_,_=>rfl
 |[],[]::_,_,_,b=>absurd rfl b.1.1
 |[],(w::_)::_,_,a,b=>absurd ((b.1.2.mem w).mp l') (a w)
 |[]::_,[],_,a,_=>absurd rfl a.1.1
 |(w::_)::_,[],_,a,b=>absurd ((a.1.2.mem w).mp l') (b w)
 |F::Fs,G::Gs,K,a,b=>by
  have e:=a.1.2.one b.1.2;subst e;rw[Gw.one a.2 b.2]
def qo(x:LI rows sts R)(n:NS rows (sts.map (·.1)) R st)(hs:av (st.map (·.1))=st.map (·.1)):RD rows (sts.map (·.1)) (st.map (·.1)):=by
 show⟨hs,n.once,λw=>⟨λh=>?_,λ⟨r,d,e,b,f⟩=>?_⟩⟩
 .have⟨s,a,rfl⟩:=ki.mp h;have⟨g,i,r,c,j⟩:=n.ok s a;have hz:=(x.IY _ g).2;rw[eR,dQ c]at hz;show⟨r,nC c,j,i,hz⟩
 .have⟨t,a⟩:=L6.mp d;subst e;rcases x.all t r a (by rw[eR,dQ a];show f) with z|z
  .rcases n.all t z r a with z|z
   .show absurd z b
   .show z
  .show absurd z b
def yk(x:LI rows sts []):Gw rows (sts.map (·.1)) []:=λw b=>by
 have⟨r,c,e,d,f⟩:=b;have⟨t,a⟩:=L6.mp c;subst e;rcases x.all t r a (by rw[eR,dQ a];show f) with z|z
 .cases z
 .show d z
abbrev bO(f:Str->List Nat)(k:Str):U:=.lst ((f k).map λt:Nat=>U.int (t:Nat))
def gL(d:List (Str×Nat))(y:Str×Nat)(k:Str):aw (d++[y]) k=if y.1=k then aw d k++[y.2] else aw d k:=by
 rw[nZ];by_cases e:y.1=k
 .rw[WJ e];simp[aw,e]
 .rw[WK e];simp[aw,e]
def vV(d:List (Str×Nat))(k:Str):(aw d k).length<=d.length:=by
 unfold aw;rw[dt];show Ew _ _
section
def mK(hl:ps.length<=1000):∃ks:List Str,(∀w,w∉ks->aw ps w=[])/\bS Γ cq [.lst (ps.map stN)]=a5 (.ok (.own,.Dt ks (ks.map (bO (aw ps))))):=by
 have hsz:(2000:Nat)<=dV:=by decide
 have x:TM.start [.lst (ps.map stN)] 4=[a5 (.any,.lst (ps.map stN)),b6,b6,b6]:=rfl;let S:=λ(ks:List Str) (us:List U) (o2 o3:Option (Kd×U))=>([a5 (.any,.lst (ps.map stN)),a5 (.Ds,.Dt ks us),o2,o3]:ak)
 let body:List TM.S:=[.ite (.inD b5 (.var 2) 1)
    [.putD 1 (.var 2) (.lst [])]
    [],
   .E3 1 (.var 2) (.var 3)]
 have⟨st',A,l,ks,o2,o3,e,f,hk,B⟩:=cp (t:=b5) (is:=[2,3]) (body:=execs Γ body) (rs:=[(.any,.lst (ps.map stN))]) (λp:Str×Nat=>(Kd.any,stN p))
  (λd r st=>d++r=ps/\∃(ks:List Str) (o2 o3:Option (Kd×U)),st=S ks (ks.map (bO (aw d))) o2 o3/\ks.Nodup/\(∀w,w∉ks->aw d w=[])/\ks.length<=d.length) (λ_ _ _ _=>trivial) (λd y r st C=>by
   have⟨l,ks,o2,o3,e,f,hk,B⟩:=C;subst e;have J:d.length<1000:=by have:=WN E1 l;simp at this;lia
   let g:Option (Kd×U):=a5 (.any,.str y.1);let i:Option (Kd×U):=a5 (.any,.int (y.2:Nat));have L:=vV d y.1;have j:∀(ks:List Str),ks.Nodup->y.1∈ks->Run (execs Γ [.E3 1 (.var 2) (.var 3)]) (S ks (ks.map (bO (aw d))) g i) .nx (S ks (ks.map (bO (aw (d++[y])))) g i):=λks f c=>by
    have D:cQ ks (ks.map (bO (aw d))) y.1=a5 (.lst ((aw d y.1).map λt:Nat=>U.int (t:Nat))):=by rw[jM,WJ c];rfl
    have hs:ip ks (ks.map (bO (aw d))) y.1 (.lst ((aw d y.1).map (λt:Nat=>U.int (t:Nat))++[.int (y.2:Nat)]))=ks.map (bO (aw (d++[y]))):=by
     rw[oh _ _ _ _ f];show Bs λk hk=>?_;unfold bO;rw[gL];by_cases e:y.1=k
     .subst e;rw[WJ rfl,WJ rfl];simp
     .rw[WK e,WK (z8 e)]
    rw[<-hs];show AS (k:=.any) (r:=(.any,.int (y.2:Nat))) rfl (bU rfl) c (bU rfl) (rf rfl) D (by rw[dt];lia) aB
   have m:Run (DO Γ (.inD b5 (.var 2) 1)) (S ks (ks.map (bO (aw d))) g i) (!ez (y.1∈ks)) (S ks (ks.map (bO (aw d))) g i):=Cw (neg:=b5) (k:=.any) (bU rfl) rfl;have o:Run (cL b5 [2,3] (.any,stN y)) (S ks (ks.map (bO (aw d))) o2 o3) () (S ks (ks.map (bO (aw d))) g i):=og (.inr rfl);by_cases c:y.1∈ks
   .rw[WM c]at m;show⟨_,_,o,gI m (λh=>by cases h) λ_=>j ks f c,by rw[<-l];simp,ks,_,_,rfl,f,λw n=>?_,by simp;lia⟩;have G:y.1≠w:=λz=>n (by rw[<-z];show c);rw[gL,WK G];show hk w n
   .rw[WL c]at m;have q:(ks++[y.1]).Nodup:=by
     rw[sx];show⟨f,by simp,λa H b I e=>?_⟩;have:b=y.1:=by simpa using I
     subst this;show c (e▸H)
    have em:ks.map (bO (aw d))++[.lst []]=(ks++[y.1]).map (bO (aw d)):=by
     rw[qs];congr 1
     change _=[bO (aw d) y.1]
     unfold bO;rw[hk y.1 c];rfl
    have s:=j (ks++[y.1]) q (by simp);rw[<-em]at s;show⟨_,_,o,gI m (λ_=>AR (k:=.any) (xs:=[]) (b9 aj trivial aV (mx _)) rfl (bU rfl) c ⋯ s) λh=>(by cases h),by rw[<-l];simp,ks++[y.1],_,_,rfl,q,λw n=>?_,by simp;lia⟩;have v:w∉ks/\w≠y.1:=by simpa using n
    rw[gL,WK (z8 v.2)];show hk w v.1) ps [] (S [] [] b6 b6) ⟨rfl,[],b6,b6,rfl,.nil,λ_ _=>rfl,gs _⟩
 subst e;rw[my]at *;show⟨ks,hk,?_⟩;have e:(ps.map stN).map (λu=>(kE .any,u))=ps.map λp=>(Kd.any,stN p):=by rw[kj];rfl
 show aJ rfl (.inl rfl) x (AQ (cH (rs:=[(.any,.lst (ps.map stN))]) (st1:=S [] [] b6 b6) (ah (bU rfl) aj) trivial rfl rfl (by rw[e];show A) (cU (Cy rfl) (jB rfl))))
abbrev yO(Γ:Tab):Prop:=∀ps:List (Str×Nat),ps.length<=1000->∃ks:List Str,(∀w,w∉ks->aw ps w=[])/\Γ "gathered" [.lst (ps.map stN)]=a5 (.ok (.own,.Dt ks (ks.map (bO (aw ps)))))
def qc(s:yO Γ)(v:Once rows)(z:∀r∈rows,r.2.length<=8)(I:rows.length<=120):
  ∃ks:List Str,(∀w,w∉ks->D2 rows rows.length w=[])/\bS Γ aL [.tup (rows.map B')]=a5 (.ok (.own,.Dt ks (ks.map (bO (D2 rows rows.length))))):=by
 have hsz:(2000:Nat)<=dV:=by decide
 have A:TM.start [.tup (rows.map B')] 4=[a5 (.loc,.tup (rows.map B')),b6,b6,b6]:=by simp[TM.start,DZ,bJ]
 let S:=λ(ps:List (Str×Nat)) (o2 o3:Option (Kd×U))=>([a5 (.loc,.tup (rows.map B')),a5 (.own,.lst (ps.map stN)),o2,o3]:ak)
 let body:List TM.S:=[.ext 1 (.comp 1 df .seq [.idx (.var 3) (.cst (.int 1))] [] (.tup [.var 0,.var 3]))]
 have⟨st',B,g,ps,o2,o3,e,h,l⟩:=cp (t:=b5) (is:=[2,3]) (body:=execs Γ body) (rs:=[(.loc,.tup (rows.map B'))]) (λp:Row×Nat=>(Kd.loc,U.tup [.int (p.2:Nat),B' p.1]))
  (λd r st=>d++r=rows.zipIdx/\∃(ps:List (Str×Nat)) (o2 o3:Option (Kd×U)),st=S ps o2 o3/\(∀w,aw ps w=D2 rows d.length w)/\ps.length<=8 * d.length) (λ_ _ _ _=>trivial) (λd y r st C=>by
   have⟨g,ps,o2,o3,e,h,l⟩:=C;subst e;have⟨f,i⟩:=y;have m:(rows.zipIdx)[d.length]?=a5 (f,i):=by rw[<-g];simp
   rw[Uk,f6]at m;have⟨a,n,e⟩:=m;have D:a=f:=WN Ud e;have o:0+d.length=i:=WN Prod.snd e;rw[T']at o;subst D o;have J:d.length<120:=by have:=WN E1 g;simp at this;lia
   have L:=z a (nC n);let b:Option (Kd×U):=a5 (.loc,.int (d.length:Nat));let c:Option (Kd×U):=a5 (.loc,B' a);have q:=jH (cond:=aF Γ []) (elt:=ev Γ (.tup [.var 0,.var 3])) (src:=[(.loc,.tup (a.2.map .str))]) (st:=S ps b c) trivial .loc (.inl rfl) U.str (λx=>stN (x,d.length)) .loc (λ_=>g_) a.2 [] (by simp;lia)
    (λy _=>⟨ra (ah (ag rfl) (ah (ag rfl) aj)) trivial (bj bh (bj bh aV)) (by change 2<=dV;lia),bh⟩)
   rw[my]at q;have e:(a.2.map U.str).map (λu=>(kE .loc,u))=a.2.map λr=>(Kd.loc,U.str r):=by rw[kj];rfl
   have G:Run (ev Γ (.comp 1 df .seq [.idx (.var 3) (.cst (.int 1))] [] (.tup [.var 0,.var 3]))) (S ps b c) (.own,.lst (a.2.map λx=>stN (x,d.length))) (S ps b c) :=
    cm (rs:=[(.loc,.tup (a.2.map .str))]) (ah (dZ (x:=(.loc,B' a)) (ag rfl) bw trivial rfl) aj) trivial (by change a5 _=_;rw[e]) q
   have em:ps.map stN++(a.2.map λx=>stN (x,d.length))=(ps++a.2.map λx=>(x,d.length)).map stN:=by simp
   show⟨S ps b c,S (ps++a.2.map λx=>(x,d.length)) b c,og (.inl rfl),?_,by rw[<-g];simp,_,_,_,rfl,λw=>?_,by simp;lia⟩
   .change Run _ _ _ [a5 (.loc,.tup (rows.map B')),a5 (.own,.lst ((ps++a.2.map λx=>(x,d.length)).map stN)),b,c];rw[<-em];show rn (k:=.own) (k':=.own) rfl G rfl rfl (mE (by rw[dt,dt];lia) rfl) aB
   .rw[i5];show s_ v n h w) rows.zipIdx [] (S [] b6 b6) ⟨rfl,[],b6,b6,rfl,λw=>by simp[aw,D2],by simp⟩
 subst e;rw[my,List.length_zipIdx]at h l;have j:Fd .HS [(.loc,.tup (rows.map B'))]=a5 (rows.zipIdx.map λp:Row×Nat=>(Kd.loc,U.tup [.int (p.2:Nat),B' p.1])):=by
  change a5 ((rows.map B').zipIdx.map λp=>(kE .loc,U.tup [.int p.2,p.1]))=_;rw[List.zipIdx_map,kj];rfl
 have⟨ks,k1,k2⟩:=s ps ⋯;have H:aw ps=D2 rows rows.length:=funext h;rw[H]at k1 k2;show⟨ks,k1,?_⟩;show aJ rfl (.inl rfl) A (ax (r:=(.own,.lst [])) (b9 aj trivial aV (mx _)) aZ (cH (rs:=[(.loc,.tup (rows.map B'))]) (st1:=S [] b6 b6) (ah (ag rfl) aj) trivial j rfl B
  (cU (cC (ah (aD rfl) aj) ⟨⟨.own,rfl,rfl⟩,trivial⟩ k2) nN)))
def j8{names:List Str}(v:∀r∈rows,r.1∈names)(T:names.length<64)(y:∀t∈R,t<rows.length):
  ∃st:List (Str×Nat),NS rows K0 R st/\av (st.map (·.1))=st.map (·.1)/\bS Γ bX [.tup (rows.map B'),.lst (R.map λt:Nat=>.int (t:Nat)),.Dt K0 vs]=a5 (.ok (.own,.lst (st.map stN))):=by
 have hsz:(2000:Nat)<=dV:=by decide
 have z:TM.start [.tup (rows.map B'),.lst (R.map λt:Nat=>.int (t:Nat)),.Dt K0 vs] 6=[a5 (.loc,.tup (rows.map B')),a5 (.any,.lst (R.map λt:Nat=>.int (t:Nat))),a5 (.any,.Dt K0 vs),b6,b6,b6]:=by simp[TM.start,DZ,bJ]
 let S:=λ(ps:List (Str×Nat)) (o4 o5:Option (Kd×U))=>([a5 (.loc,.tup (rows.map B')),a5 (.any,.lst (R.map λt:Nat=>.int (t:Nat))),a5 (.any,.Dt K0 vs),a5 (.own,.Dt (ps.map (·.1)) (ps.map λp=>.int (p.2:Nat))),o4,o5]:ak)
 let body:List TM.S:=[.set 5 (.idx (.idx (.var 0) (.var 4)) (.cst (.int 0))),
   .ite (.and [.cmp .Dv (.var 5) (.var 2),.cmp .Dv (.var 5) (.var 3)])
    [.put 3 (.var 5) (.var 4)]
    []]
 have o:∀{d:List Nat} {ps:List (Str×Nat)},NS rows K0 d ps->ps.length<=names.length:=λ{d ps} x=>by
  have:=kU x.once (L:=names) λw A=>by
   have⟨s,hs,rfl⟩:=ki.mp A;obtain⟨_,_,r,b,c⟩:=x.ok s hs;rw[<-c];show v r (nC b)
  simpa using this
 have⟨st',B,j,ps,o4,o5,e,x⟩:=cp (t:=df) (is:=[4]) (body:=execs Γ body) (rs:=[(.any,.lst (R.map λt:Nat=>.int (t:Nat)))]) (λt:Nat=>(Kd.any,U.int (t:Nat)))
  (λd r st=>d++r=R/\∃(ps:List (Str×Nat)) (o4 o5:Option (Kd×U)),st=S ps o4 o5/\NS rows K0 d ps) (λ_ _ _ _=>trivial) (λd t r st C=>by
   have⟨j,ps,o4,o5,e,x⟩:=C;subst e;have D:t<rows.length:=y t (by rw[<-j];simp);have l:rows[t]?=a5 rows[t]:=by simp[D]
   generalize rows[t]=a at l;let f:Option (Kd×U):=a5 (.any,.int (t:Nat));let m:Option (Kd×U):=a5 (.loc,.str a.1);have G:=o x;have i:Run (DO Γ (.and [.cmp .Dv (.var 5) (.var 2),.cmp .Dv (.var 5) (.var 3)])) (S ps f m) (!ez (a.1∈K0)&&!ez (a.1∈ps.map (·.1))) (S ps f m) :=
    nM (vQ (cG (ag rfl) (bU rfl) trivial gJ) λ_=>dP (cG (ag rfl) (aD rfl) ⟨⟨.own,rfl,rfl⟩,trivial⟩ gJ))
   have g:∀{q:ak},Run (execs Γ [.ite (.and [.cmp .Dv (.var 5) (.var 2),.cmp .Dv (.var 5) (.var 3)])
    [.put 3 (.var 5) (.var 4)]
    []]) (S ps f m) .nx q->Run (execs Γ body) (S ps f o5) .nx q:=λh =>
    ax (r:=(.loc,.str a.1)) (dZ (x:=(.loc,B' a)) (dZ (ag rfl) (bU rfl) trivial (oG (yj l))) bw trivial rfl) aO h
   have n:Run (cL df [4] (.any,.int (t:Nat))) (S ps o4 o5) () (S ps f o5):=cD jz;by_cases b:a.1∈K0
   .rw[WM b]at i;show⟨_,_,n,g (gI i (λh=>by cases h) λ_=>aB),by rw[<-j];simp,ps,_,_,rfl,x.skip l (.inl b)⟩
   .by_cases c:a.1∈ps.map (·.1)
    .rw[WL b,WM c]at i;show⟨_,_,n,g (gI i (λh=>by cases h) λ_=>aB),by rw[<-j];simp,ps,_,_,rfl,x.skip l (.inr c)⟩
    .rw[WL b,WL c]at i;show⟨_,S (ps++[(a.1,t)]) f m,n,g (gI i (λ_=>?_) λh=>by cases h),by rw[<-j];simp,_,_,_,rfl,x.take l b c⟩;have H:(ps++[(a.1,t)]).map (·.1)=ps.map (·.1)++[a.1]:=by simp
     have I:((ps++[(a.1,t)]).map λp=>U.int (p.2:Nat))=(ps.map λp=>U.int (p.2:Nat))++[.int (t:Nat)]:=by simp
     change Run _ _ _ [a5 (.loc,.tup (rows.map B')),a5 (.any,.lst (R.map λt:Nat=>.int (t:Nat))),a5 (.any,.Dt K0 vs),a5 (.own,.Dt ((ps++[(a.1,t)]).map (·.1)) ((ps++[(a.1,t)]).map λp=>.int (p.2:Nat))),f,m];rw[H,I];show rm (k:=.own) (rv:=(.any,.int (t:Nat))) (rk:=(.loc,.str a.1)) (bU rfl) rfl (ag rfl) (bj (rf rfl) (bj bh aV)) rfl rfl (mJ (by rw[dt];lia) c) aB) R [] (S [] b6 b6) ⟨rfl,[],b6,b6,rfl,NS.start K0⟩
 subst e;rw[my]at x;have G:=o x;have⟨J,N,O,Q⟩:=yg (ps:=ps) ⋯ x.once;show⟨J,x.perm N,by rw[O];show bV (aQ _),?_⟩;have e:(R.map λt:Nat=>U.int (t:Nat)).map (λu=>(kE .any,u))=R.map λt=>(Kd.any,U.int (t:Nat)):=by rw[kj];rfl
 show aJ rfl (.inl rfl) z (ax (r:=(.own,.Dt [] [])) mr aZ (cH (rs:=[(.any,.lst (R.map λt:Nat=>.int (t:Nat)))]) (st1:=S [] b6 b6) (ah (bU rfl) aj) trivial rfl rfl (by rw[e];show B) (cU (CA rfl Q) nN)))
end
abbrev mi(rows:List Row)(K0:List Str)(d:List Nat)(p:Nat):Int:=(cnt rows K0 p:Int) - (if p∈d then 1 else 0)
abbrev br(rows:List Row)(f:Nat->Int):List U:=(hE rows.length).map λp=>U.int (f p)
abbrev dS(R:List Nat):List U:=R.map λt:Nat=>U.int (t:Nat)
def yl(rows:List Row)(K0:List Str):br rows (mi rows K0 [])=br rows λp=>(cnt rows K0 p:Int):=by
 unfold br mi;show Bs λp _=>?_;simp
def ym(b:Once rows)(c:w∉K0):br rows (mi rows K0 (D2 rows rows.length w))=br rows λp=>(cnt rows (K0++[w]) p:Int):=by
 unfold br mi;show Bs λp d=>?_;have e:=DS.mp d;have a:=mH b c p;by_cases h:w∈told rows p
 .rw[WJ (gh.mpr ⟨e,h⟩)];rw[WJ h]at a;change U.int ((cnt rows K0 p:Int) - 1)=U.int (cnt rows (K0++[w]) p:Int);congr 1
  lia
 .rw[WK λz=>h (gh.mp z).2];rw[WK h]at a;change U.int ((cnt rows K0 p:Int) - 0)=U.int (cnt rows (K0++[w]) p:Int);congr 1
  lia
def vW(a:t∉d):(br rows (mi rows K0 d)).set t (.int (mi rows K0 d t - 1))=br rows (mi rows K0 (d++[t])):=by
 unfold br;rw[set_range];show Bs λp _=>?_;unfold mi;by_cases e:p=t
 .subst e;rw[WJ rfl,WK a,WJ (by simp)];rw[show((cnt rows K0 p:Int) - 0 - 1)=(cnt rows K0 p:Int) - 1 by lia]
 .rw[WK e];have:(p∈d++[t])↔p∈d:=by simp[e]
  simp only[this]
def vX(h:t<rows.length):(br rows f)[t]?=a5 (.int (f t)):=by simp[br,h]
section
variable{Γ:Tab}{rows:List Row}
abbrev rB:List TM.S:=[.aug b5 2 (.var 9) (.cst (.int 1)),.ite (.cmp .eq (.idx (.var 2) (.var 9)) (.cst (.int 0))) [.app 5 (.var 9)] []]
def om(v:Once rows)(L:rows.length<=120)(y:w∉K0)(N:R.length<=14400)(b:Option (Kd×U))(A:∀st,aY src st):∃m:Option (Kd×U),
  Run (forM df [9] (execs Γ rB) src ((D2 rows rows.length w).map λt:Nat=>(Kd.loc,U.int (t:Nat))))
   [b0,b1,a5 (.own,.lst (br rows λp=>(cnt rows K0 p:Int))),b3,b4,a5 (.own,.lst (dS R)),o6,o7,o8,b] .nx
   [b0,b1,a5 (.own,.lst (br rows λp=>(cnt rows (K0++[w]) p:Int))),b3,b4,a5 (.own,.lst (dS (R++(D2 rows rows.length w).filter λt=>ez (cnt rows K0 t=1)))),o6,o7,o8,m]:=by
 have hsz:(20000:Nat)<=dV:=by decide
 let S:=λ(ms:List U) (R:List Nat) (b:Option (Kd×U))=>([b0,b1,a5 (.own,.lst ms),b3,b4,a5 (.own,.lst (dS R)),o6,o7,o8,b]:ak)
 have⟨st',n,f,m,e⟩:=cp (t:=df) (is:=[9]) (body:=execs Γ rB) (rs:=src) (λt:Nat=>(Kd.loc,U.int (t:Nat)))
  (λd r st=>d++r=D2 rows rows.length w/\∃b:Option (Kd×U),st=S (br rows (mi rows K0 d)) (R++d.filter λt=>ez (cnt rows K0 t=1)) b) (λ_ _ st _=>A st) (λd t r st B=>by
   have⟨f,b,e⟩:=B;subst e;have C:t∈D2 rows rows.length w:=by rw[<-f];simp
   have o:t<rows.length:=(gh.mp C).1;have q:=s9 (rows:=rows) rows.length w;have D:t∉d:=λz=>by
    rw[<-f,sx]at q;show q.2.2 t z t (by simp) rfl
   have O:d.length<=120:=by
    have G:=WN E1 f;have H:(D2 rows rows.length w).length<=(hE rows.length).length:=Ew _ _;simp at G H;lia
   let c:Option (Kd×U):=a5 (.loc,.int (t:Nat));let a:=R++d.filter λt=>ez (cnt rows K0 t=1);have Q:a.length<=14520:=by
    have:(d.filter λt=>ez (cnt rows K0 t=1)).length<=d.length:=Ew _ _;change(R++_).length<=_;rw[i5];lia
   have I:DL (br rows (mi rows K0 (d++[t]))) (t:Int)=a5 (.int (mi rows K0 (d++[t]) t)):=bQ (vX o);have J:mi rows K0 (d++[t]) t=(cnt rows K0 t:Int) - 1:=by unfold mi;rw[WJ (by simp)]
   have i:Run (DO Γ (.cmp .eq (.idx (.var 2) (.var 9)) (.cst (.int 0)))) (S (br rows (mi rows K0 (d++[t]))) a c) (ez (cnt rows K0 t=1)) (S (br rows (mi rows K0 (d++[t]))) a c) :=
    cG (dZ (x:=(.bor 2,.lst (br rows (mi rows K0 (d++[t]))))) (aD rfl) (ag rfl) ⟨⟨.own,rfl,rfl⟩,trivial⟩ (aH I)) bw trivial (eO (by
     rw[J,FW];simp;lia))
   have g:∀{s:ak},Run (execs Γ [.ite (.cmp .eq (.idx (.var 2) (.var 9)) (.cst (.int 0)))
      [.app 5 (.var 9)]
      []]) (S (br rows (mi rows K0 (d++[t]))) a c) .nx s->Run (execs Γ rB) (S (br rows (mi rows K0 d)) a c) .nx s:=λh=>by
    show Cz (us:=br rows (mi rows K0 d)) (k1:=.loc) (k2:=.loc) (j:=t) (w:=1) rfl (ag rfl) (vX o) bw ?_;rw[vW D];show h
   have u:Run (cL df [9] (.loc,.int (t:Nat))) (S (br rows (mi rows K0 d)) a b) () (S (br rows (mi rows K0 d)) a c):=cD aO;cases l:ez (cnt rows K0 t=1) with
   |false =>
    rw[l]at i;show⟨_,_,u,g (gI i (λh=>by cases h) λ_=>aB),by rw[<-f];simp,c,?_⟩;rw[QD,E6,l];simp[S,a]
   |true =>
    rw[l]at i;show⟨_,S (br rows (mi rows K0 (d++[t]))) (a++[t]) c,u,g (gI i (λ_=>?_) λh=>by cases h),by rw[<-f];simp,c,?_⟩
    .have em:dS (a++[t])=dS a++[.int (t:Nat)]:=by simp[dS]
     change Run _ _ _ [b0,b1,a5 (.own,.lst (br rows (mi rows K0 (d++[t])))),b3,b4,a5 (.own,.lst (dS (a++[t]))),o6,o7,o8,c];rw[em];show hJ (k:=.own) (k':=.own) (r:=(.loc,.int (t:Nat))) rfl (ag rfl) bh rfl rfl (by unfold dS;rw[dt];lia) aB
    .rw[QD,E6,l];simp[S,a]) (D2 rows rows.length w) [] (S (br rows (mi rows K0 [])) R b) ⟨rfl,b,by simp⟩
 subst e;rw[my]at n;rw[yl,ym v y]at n;show⟨m,n⟩
abbrev vY:List TM.S:=[.put 3 (.var 7) (.cst (.bl b5)),.DJ df [9] .seq [.Fp 1 (.var 7) (.lst [])] rB]
def tp(o:Once rows)(A:rows.length<=120)(B:∀w,w∉ks->D2 rows rows.length w=[])(q:(K0++st.map (·.1)).Nodup)(hl:K0.length+st.length<=120)(vs:List U)(o7 o8 a:Option (Kd×U)):∃(i:List U) (R:List Nat) (j l b:Option (Kd×U)),
  RI rows K0 (K0++st.map (·.1)) R/\(st=[]->R=[])/\Run (forM b5 [7,8] (execs Γ vY) [(.bor 6,.lst (st.map stN))] (st.map λs=>(Kd.loc,stN s)))
   [b0,a5 (.own,.Dt ks (ks.map (bO (D2 rows rows.length)))),a5 (.own,.lst (br rows λp=>(cnt rows K0 p:Int))),a5 (.own,.Dt K0 vs),b4,a5 (.own,.lst []),a5 (.own,.lst (st.map stN)),o7,o8,a] .nx
   [b0,a5 (.own,.Dt ks (ks.map (bO (D2 rows rows.length)))),a5 (.own,.lst (br rows λp=>(cnt rows (K0++st.map (·.1)) p:Int))),a5 (.own,.Dt (K0++st.map (·.1)) i),b4,a5 (.own,.lst (dS R)),a5 (.own,.lst (st.map stN)),j,l,b]:=by
 let S:=λ(K:List Str) (vs:List U) (R:List Nat) (o7 o8 a:Option (Kd×U))=>([b0,a5 (.own,.Dt ks (ks.map (bO (D2 rows rows.length)))),a5 (.own,.lst (br rows λp=>(cnt rows K p:Int))),a5 (.own,.Dt K vs),b4,a5 (.own,.lst (dS R)),a5 (.own,.lst (st.map stN)),o7,o8,a]:ak)
 have⟨st',C,c,i,R,j,l,b,e,x,D,y⟩:=cp (t:=b5) (is:=[7,8]) (body:=execs Γ vY) (rs:=[(.bor 6,.lst (st.map stN))]) (λs:Str×Nat=>(Kd.loc,stN s))
  (λd r m=>d++r=st/\∃(vs:List U) (R:List Nat) (o7 o8 a:Option (Kd×U)),m=S (K0++d.map (·.1)) vs R o7 o8 a/\RI rows K0 (K0++d.map (·.1)) R/\R.length<=120 * d.length/\(d=[]->R=[])) (λ_ _ m ⟨_,vs,R,o7,o8,a,e,_⟩=>by subst e;show⟨⟨.own,rfl,rfl⟩,trivial⟩) (λd s r m G=>by
   have⟨c,vs,R,o7,o8,a,e,x,D,y⟩:=G;subst e;have⟨w,p⟩:=s;have O:d.length<st.length:=by have:=WN E1 c;simp at this;lia
   have n:w∉K0++d.map (·.1):=λz=>by
    rw[<-c,qs,<-NU,sx]at q;show q.2.2 w z w (by simp) rfl
   let f:Option (Kd×U):=a5 (.loc,.str w);let g:Option (Kd×U):=a5 (.loc,.int (p:Nat));have⟨b,H⟩:=om (Γ:=Γ) o A n (R:=R) ⋯ (b0:=b0) (b1:=a5 (.own,.Dt ks (ks.map (bO (D2 rows rows.length))))) (b3:=a5 (.own,.Dt (K0++d.map (·.1)++[w]) (vs++[.bl b5]))) (b4:=b4) (o6:=a5 (.own,.lst (st.map stN))) (o7:=f) (o8:=g) a (src:=[(.loc,bO (D2 rows rows.length) w)]) (λ_=>trivial);have em:K0++(d++[(w,p)]).map (·.1)=K0++d.map (·.1)++[w]:=by simp
   have I:(K0++d.map (·.1)).length<1000:=by rw[i5,dt];lia
   have J:(match cQ ks (ks.map (bO (D2 rows rows.length))) w with|some v=>(Kd.loc,v)|none=>(.loc,U.lst []))=(.loc,bO (D2 rows rows.length) w):=by
    rw[jM];by_cases h:w∈ks
    .rw[WJ h]
    .rw[WK h];unfold bO;rw[B w h];rfl
   have L:((D2 rows rows.length w).map λt:Nat=>U.int (t:Nat)).map (λu=>(kE .loc,u))=(D2 rows rows.length w).map λt=>(Kd.loc,U.int (t:Nat)):=by rw[kj];rfl
   show⟨S (K0++d.map (·.1)) vs R f g a,S (K0++d.map (·.1)++[w]) (vs++[.bl b5]) (R++(D2 rows rows.length w).filter λt=>ez (cnt rows (K0++d.map (·.1)) t=1)) f g b,og (.inl rfl),?_,by rw[<-c];simp,vs++[.bl b5],_,f,g,b,by rw[em],?_,?_,λz=>by simp at z⟩
   .show rm (k:=.own) (rv:=(.loc,.bl b5)) (rk:=(.loc,.str w)) bw rfl (ag rfl) (bj bh (bj bh aV)) rfl rfl (mJ I n) ?_;show cH (rs:=[(.loc,bO (D2 rows rows.length) w)]) (ah (AU (k:=.loc) (z:=(.own,.lst [])) (u:=.lst []) rfl (ag rfl) (b9 aj trivial aV (mx _)) rb J) aj) trivial (by change a5 (LC (λu=>(kE .loc,u)) _)=_;rw[L]) rfl H aB
   .rw[em];show x.step o n
   .have:((D2 rows rows.length w).filter λt=>ez (cnt rows (K0++d.map (·.1)) t=1)).length<=120:=by
     show vu (Ew _ _) ?_;have N:(D2 rows rows.length w).length<=(hE rows.length).length:=Ew _ _;simp at N;lia
    rw[i5,i5,Ma];lia) st [] (S K0 vs [] o7 o8 a) ⟨rfl,vs,[],o7,o8,a,by simp[S],by simpa using RI.start K0,by simp,λ_=>rfl⟩
 subst e;show⟨i,R,j,l,b,by simpa using x,λz=>y (by simpa using z),by simpa[S,dS] using C⟩
abbrev cX(a:List (List (Str×Nat))):List U:=a.map λl=>U.lst (l.map stN)
abbrev vZ:List TM.S:=[.set 6 (.call "new_steps" [.var 0,.var 5,.var 3]),.set 5 (.lst []),.DJ b5 [7,8] .seq [.var 6] vY,.ite (.cmp .ne (.var 6) (.lst [])) [.app 4 (.var 6)] []]
abbrev v3(Γ:Tab)(rows:List Row):Prop:=∀(R:List Nat) (K0:List Str) (vs:List U),(∀t∈R,t<rows.length)->∃st:List (Str×Nat),NS rows K0 R st/\av (st.map (·.1))=st.map (·.1)/\Γ "new_steps" [.tup (rows.map B'),.lst (dS R),.Dt K0 vs]=a5 (.ok (.own,.lst (st.map stN)))
theorem gM(J:Once rows)(N:rows.length<=120)(O:v3 Γ rows)(Q:∀w,w∉ks->D2 rows rows.length w=[]):∀(f:Nat) (sts:List (Str×Nat)) (c:List (List (Str×Nat))) (R:List Nat) (vs:List U) (o6 o7 o8 i:Option (Kd×U)),
  LI rows sts R->c.flatten=sts->c.length<=sts.length->(rows.length - sts.length)+(if R=[] then 1 else 2)<=f ->
  ∃(Kc:List (Str×Nat)) (D:List (List (Str×Nat))) (st':ak),(∃d:List (List (Str×Nat)),D=c++d/\Gw rows (sts.map (·.1)) (d.map λl=>l.map (·.1)))/\LI rows Kc []/\D.flatten=Kc/\D.length<=120/\st'[4]?=a5 (a5 (.own,.lst (cX D))) /\
   Run (fB (DO Γ (.cmp .ne (.var 5) (.lst []))) (execs Γ vZ) f) [a5 (.loc,.tup (rows.map B')),a5 (.own,.Dt ks (ks.map (bO (D2 rows rows.length)))),a5 (.own,.lst (br rows λp=>(cnt rows (sts.map (·.1)) p:Int))),a5 (.own,.Dt (sts.map (·.1)) vs),a5 (.own,.lst (cX c)),a5 (.own,.lst (dS R)),o6,o7,o8,i] .nx st'
 |0,sts,c,R,vs,o6,o7,o8,i,_,_,_,h=>by split at h<;>lia
 |f+1,sts,c,R,vs,o6,o7,o8,i,x,T,OY,h=>by
  have hsz:(20000:Nat)<=dV:=by decide
  have E_:∀{s:List (Str×Nat)} {g:List Nat},LI rows s g->s.length<=rows.length:=λ{s g} x=>by
   have:=kU x.nd x.wd;simpa using this
  have Ez:=E_ x;let S:=λ(K:List Str) (vs:List U) (c:List (List (Str×Nat))) (R:List Nat) (o6 o7 o8 i:Option (Kd×U))=>([a5 (.loc,.tup (rows.map B')),a5 (.own,.Dt ks (ks.map (bO (D2 rows rows.length)))),a5 (.own,.lst (br rows λp=>(cnt rows K p:Int))),a5 (.own,.Dt K vs),a5 (.own,.lst (cX c)),a5 (.own,.lst (dS R)),o6,o7,o8,i]:ak)
  have RX:∀R:List Nat,EC 50 (.lst (dS R))=b5:=λR=>by change cB 49 _=b5;show kX (λt:Nat=>((t:Nat):Int)) R 49
  have G:Run (DO Γ (.cmp .ne (.var 5) (.lst []))) (S (sts.map (·.1)) vs c R o6 o7 o8 i) (!(dS R).isEmpty) (S (sts.map (·.1)) vs c R o6 o7 o8 i) :=
   cG (aD rfl) (b9 aj trivial aV (mx _)) ⟨⟨.own,rfl,rfl⟩,trivial⟩ (oi (RX R))
  by_cases Y:R=[]
  .subst Y;show⟨sts,c,_,⟨[],(va _).symm,yk x⟩,x,T,⋯,rfl,yM G⟩
  .rw[WK Y]at h;have RY:(!(dS R).isEmpty)=b5:=by
    cases R with
    |nil=>show absurd rfl Y
    |cons a l=>rfl
   rw[RY]at G;have⟨st,n,Nk,DC⟩:=O R (sts.map (·.1)) vs λt ht=>(x.IY t ht).1;have DN:(sts.map (·.1)++st.map (·.1)).Nodup:=by
    rw[sx];show⟨x.nd,n.once,λa ha b v e=>?_⟩;have⟨s,hs,rfl⟩:=ki.mp v;show(n.ok s hs).2.1 (e▸ha)
   have ac:sts.length+st.length<=rows.length:=by
    have:=kU DN (L:=rows.map (·.1)) λy hy=>by
     rcases ko.mp hy with hy|hy
     .show x.wd y hy
     .have⟨s,hs,rfl⟩:=ki.mp hy;obtain⟨_,_,r,q1,q2⟩:=n.ok s hs;show ki.mpr ⟨r,nC q1,q2⟩
    simpa using this
   let A:Option (Kd×U):=a5 (.own,.lst (st.map stN));have⟨j,g,m,o,q,y,RZ,Nl⟩:=tp (Γ:=Γ) J N Q DN (by rw[dt];lia) (b0:=a5 (.loc,.tup (rows.map B'))) (b4:=a5 (.own,.lst (cX c))) vs o7 o8 i;have x':=x.step n y;have em:(sts++st).map (·.1)=sts.map (·.1)++st.map (·.1):=qs;have R3:EC 50 (.lst (st.map stN))=b5:=by change cB 49 _=b5;show oj st 48
   have H:Run (DO Γ (.cmp .ne (.var 6) (.lst []))) (S (sts.map (·.1)++st.map (·.1)) j c g A m o q) (!(st.map stN).isEmpty) (S (sts.map (·.1)++st.map (·.1)) j c g A m o q) :=
    cG (aD rfl) (b9 aj trivial aV (mx _)) ⟨⟨.own,rfl,rfl⟩,trivial⟩ (oi R3)
   have e1:(st.map stN).map (λu=>(kE (.bor 6),u))=st.map λs=>(Kd.loc,stN s):=by rw[kj];rfl
   have B:∀{E7:ak},Run (execs Γ [.ite (.cmp .ne (.var 6) (.lst []))
    [.app 4 (.var 6)]
    []]) (S (sts.map (·.1)++st.map (·.1)) j c g A m o q) .nx E7->Run (execs Γ vZ) (S (sts.map (·.1)) vs c R o6 o7 o8 i) .nx E7:=λh=>by
    show ax (r:=(.own,.lst (st.map stN))) (cC (ah (ag rfl) (ah (aD rfl) (ah (aD rfl) aj))) ⟨⟨.own,rfl,rfl⟩,⟨.own,rfl,rfl⟩,trivial⟩ DC) aZ ?_;show ax (r:=(.own,.lst [])) (b9 aj trivial aV (mx _)) aZ ?_;show cH (rs:=[(.bor 6,.lst (st.map stN))]) (ah (aD rfl) aj) ⟨⟨.own,rfl,rfl⟩,trivial⟩ (by change a5 (LC (λu=>(kE (.bor 6),u)) _)=_;rw[e1]) rfl Nl h
   by_cases C:st=[]
   .have R4:=RZ C;subst C;rw[show(!(([]:List (Str×Nat)).map stN).isEmpty)=df from rfl]at H;have ee:sts++[]=sts:=va _;rw[ee]at x';have v:=B (gI H (λh=>by cases h) λ_=>aB);have⟨Im,Io,st2,z0,z1,z2,z3,z4,I⟩:=gM J N O Q f sts c g j A m o q x' T OY (by rw[WJ R4];lia);show⟨Im,Io,st2,z0,z1,z2,z3,z4,AO G v ?_⟩;have e3:sts.map (·.1)++([]:List (Str×Nat)).map (·.1)=sts.map (·.1):=by simp
    change Run _ (S (sts.map (·.1)++([]:List (Str×Nat)).map (·.1)) j c g A m o q) _ _;rw[e3];show I
   .have Nm:(!(st.map stN).isEmpty)=b5:=by
     cases st with
     |nil=>show absurd rfl C
     |cons a l=>rfl
    rw[Nm]at H;have R5:0<st.length:=List.length_pos_iff.mpr C;have ef:cX (c++[st])=cX c++[.lst (st.map stN)]:=by simp[cX]
    have v:Run (execs Γ vZ) (S (sts.map (·.1)) vs c R o6 o7 o8 i) .nx (S (sts.map (·.1)++st.map (·.1)) j (c++[st]) g (a5 (.loc,.lst (st.map stN))) m o q):=by
     show B (gI H (λ_=>?_) λh=>by cases h);change Run _ _ _ [a5 (.loc,.tup (rows.map B')),a5 (.own,.Dt ks (ks.map (bO (D2 rows rows.length)))),a5 (.own,.lst (br rows λp=>(cnt rows (sts.map (·.1)++st.map (·.1)) p:Int))),a5 (.own,.Dt (sts.map (·.1)++st.map (·.1)) j),a5 (.own,.lst (cX (c++[st]))),a5 (.own,.lst (dS g)),a5 (.loc,.lst (st.map stN)),m,o,q];rw[ef];show hJ (k:=.own) (k':=.own) (r:=(.bor 6,.lst (st.map stN))) (u:=.lst (st.map stN)) rfl (aD rfl) (yL rfl) rfl rfl (by unfold cX;rw[dt];lia) aB
    have⟨Im,Io,st2,z0,z1,z2,z3,z4,I⟩:=gM J N O Q f (sts++st) (c++[st]) g j (a5 (.loc,.lst (st.map stN))) m o q x' (by rw[MV,T];simp) (by rw[i5,i5,Ma];lia) (by rw[i5];split<;>lia);have⟨d,y1,y2⟩:=z0;have y0:st.map (·.1)≠[]:=λz=>C (List.map_eq_nil_iff.mp z);show⟨Im,Io,st2,⟨st::d,by rw[y1];simp,⟨y0,qo x n Nk⟩,by rw[em]at y2;show y2⟩,z1,z2,z3,z4,AO G v ?_⟩;rw[em]at I;show I
abbrev yP(Γ:Tab)(rows:List Row):Prop:=∃ks:List Str,(∀w,w∉ks->D2 rows rows.length w=[])/\Γ "places_that_tell" [.tup (rows.map B')]=a5 (.ok (.own,.Dt ks (ks.map (bO (D2 rows rows.length)))))
def ff(v:Once rows)(w:rows.length<=120)(z:yP Γ rows)(A:v3 Γ rows):∃(sts:List (Str×Nat)) (c:List (List (Str×Nat))),Gw rows [] (c.map λl=>l.map (·.1))/\LI rows sts []/\c.flatten=sts/\c.length<=120/\bS Γ aP [.tup (rows.map B')]=a5 (.ok (.own,.lst (cX c))):=by
 have hsz:(20000:Nat)<=dV:=by decide
 have⟨ks,B,C⟩:=z;have D:TM.start [.tup (rows.map B')] 10=[a5 (.loc,.tup (rows.map B')),b6,b6,b6,b6,b6,b6,b6,b6,b6]:=by simp[TM.start,DZ,bJ]
 let f:Option (Kd×U):=a5 (.loc,.tup (rows.map B'));let g:Option (Kd×U):=a5 (.own,.Dt ks (ks.map (bO (D2 rows rows.length))));let G:Option (Kd×U):=a5 (.own,.lst (br rows λp=>(cnt rows [] p:Int)));have H:Run (ev Γ (.comp 1 df .seq [.var 0] [] (.bi .len [.idx (.var 0) (.cst (.int 1))]))) [f,g,b6,b6,b6,b6,b6,b6,b6,b6] (.own,.lst (br rows λp=>(cnt rows [] p:Int))) [f,g,b6,b6,b6,b6,b6,b6,b6,b6]:=by
  have d:=jH (cond:=aF Γ []) (elt:=ev Γ (.bi .len [.idx (.var 0) (.cst (.int 1))])) (src:=[(.loc,.tup (rows.map B'))]) (st:=[f,g,b6,b6,b6,b6,b6,b6,b6,b6]) trivial .loc (.inl rfl) B' (λr=>.int (r.2.length:Nat)) .loc (λ_=>g_) rows [] (by simp;lia)
   (λy _=>⟨fF (ah (dZ (x:=(.loc,B' y)) (ag rfl) bw trivial rfl) aj) trivial (by rw[xZ,dt]),bh⟩)
  rw[my]at d;have e:(rows.map B').map (λu=>(kE .loc,u))=rows.map λr=>(Kd.loc,B' r):=by rw[kj];rfl
  have I:(rows.map λr=>U.int (r.2.length:Nat))=br rows λp=>(cnt rows [] p:Int):=by
   unfold br;apply Ja
   .simp
   .intro i h j;have J:i<rows.length:=by simpa using h
    have k:told rows i=rows[i].2:=dQ (by simp[J]);have L:cnt rows [] i=rows[i].2.length:=by unfold cnt qa;rw[k];simp
    simp[L]
  rw[I]at d;show cm (rs:=[(.loc,.tup (rows.map B'))]) (ah (ag rfl) aj) trivial (by change a5 _=_;rw[e]) d
 let m:=(hE rows.length).filter λp=>ez (cnt rows [] p=0);let n:ak:=[f,g,G,a5 (.own,.Dt [] []),a5 (.own,.lst []),b6,b6,b6,b6,b6]
 have N:Run (ev Γ (.comp 2 b5 .HS [.var 2] [.cmp .eq (.var 1) (.cst (.int 0))] (.var 0))) n (.own,.lst (dS m)) n:=by
  have d:=gK (st:=n) (cond:=aF Γ [.cmp .eq (.var 1) (.cst (.int 0))]) (elt:=ev Γ (.var 0)) (src:=[(.bor 2,.lst (br rows λp=>(cnt rows [] p:Int)))]) ⟨⟨.own,rfl,rfl⟩,trivial⟩ (λp:Nat=>U.int (p:Nat)) (λp:Nat=>U.int (cnt rows [] p:Int)) (λp:Nat=>U.int (p:Nat)) (λp=>ez (cnt rows [] p=0)) (hE rows.length) [] (by simp;lia)
   (λy _=>⟨dP (cG (ag rfl) bw trivial (eO (by rw[FW];simp))),ag rfl⟩)
  rw[my]at d;have e:((br rows λp=>(cnt rows [] p:Int)).zipIdx.map λp=>(kE (.bor 2),U.tup [.int p.2,p.1]))=(hE rows.length).map λp:Nat=>(Kd.loc,U.tup [.int (p:Nat),.int (cnt rows [] p:Int)]):=by
   unfold br;apply Ja
   .simp
   .intro i h j;simp[kE]
  show cm (rs:=[(.bor 2,.lst (br rows λp=>(cnt rows [] p:Int)))]) (ah (aD rfl) aj) ⟨⟨.own,rfl,rfl⟩,trivial⟩ (by change a5 _=_;rw[e]) d
 have O:LI rows [] m:=⟨trivial,λt k=>by
  have⟨a,b⟩:=uv.mp k;show⟨DS.mp a,by simpa using b⟩,λt r h j=>.inl (uv.mpr ⟨DS.mpr (gi.mp h).1,by simpa using j⟩)⟩
 have⟨sts,c,st',Q,T,Y,z3,o,z5⟩:=gM v w A B fuel [] [] m [] b6 b6 b6 b6 O rfl (gs _) (by unfold fuel;split<;>simp<;>lia);have⟨q,s,y2⟩:=Q;rw[my]at s;subst s;show⟨sts,c,y2,T,Y,z3,?_⟩;show aJ rfl (.inl rfl) D (ax (r:=(.own,.Dt ks (ks.map (bO (D2 rows rows.length))))) (cC (ah (ag rfl) aj) trivial C) aZ (ax H aZ (ax (r:=(.own,.Dt [] [])) mr aZ (ax (r:=(.own,.lst [])) (b9 aj trivial aV (mx _)) aZ (ax N aZ (yN z5 (cU (aD o) (jB o))))))))
def tq(hs:Γ "steps_in_rounds" [.tup (rows.map B')]=a5 (.ok (.own,.lst (cX a))))(c:a.flatten=sts)(hl:sts.length<=120):bS Γ dR [.tup (rows.map B')]=a5 (.ok (.own,.lst (sts.map stN))):=by
 have hsz:(20000:Nat)<=dV:=by decide
 have g:TM.start [.tup (rows.map B')] 3=[a5 (.loc,.tup (rows.map B')),b6,b6]:=by simp[TM.start,DZ,bJ]
 let S:=λ(l:List (Str×Nat)) (o2:Option (Kd×U))=>([a5 (.loc,.tup (rows.map B')),a5 (.own,.lst (l.map stN)),o2]:ak)
 have⟨st',h,b,o2,e⟩:=cp (t:=df) (is:=[2]) (body:=execs Γ [.ext 1 (.var 2)]) (rs:=[(.own,.lst (cX a))]) (λl:List (Str×Nat)=>(Kd.loc,U.lst (l.map stN)))
  (λd r st=>d++r=a/\∃o2:Option (Kd×U),st=S d.flatten o2) (λ_ _ _ _=>trivial) (λd y r st i=>by
   have⟨b,o2,e⟩:=i;subst e;have j:d.flatten.length+y.length<=120:=by
    have:=WN (λl:List (List (Str×Nat))=>l.flatten.length) b;simp only[MV,NT,i5,c]at this;lia
   show⟨S d.flatten (a5 (.loc,.lst (y.map stN))),S (d++[y]).flatten (a5 (.loc,.lst (y.map stN))),cD aO,?_,by rw[<-b];simp,_,rfl⟩;have em:(d++[y]).flatten.map stN=d.flatten.map stN++y.map stN:=by simp
   change Run _ _ _ [a5 (.loc,.tup (rows.map B')),a5 (.own,.lst ((d++[y]).flatten.map stN)),a5 (.loc,.lst (y.map stN))];rw[em];show rn (k:=.own) (k':=.own) rfl (ag rfl) rfl rfl (mE (by rw[dt,dt];lia) rfl) aB) a [] (S [] b6) ⟨rfl,b6,rfl⟩
 subst e;have e:(cX a).map (λu=>(kE .own,u))=a.map λl=>(Kd.loc,U.lst (l.map stN)):=by unfold cX;rw[kj];rfl
 have f:=aJ (Γ:=Γ) (fn:=dR) rfl (.inl rfl) g (ax (r:=(.own,.lst [])) (b9 aj trivial aV (mx _)) aZ (cH (rs:=[(.own,.lst (cX a))]) (st1:=S [] b6) (ah (cC (ah (ag rfl) aj) trivial hs) aj) trivial rfl rfl (by rw[e];show h) (cU (aD rfl) (jB rfl))));rw[my,c]at f;show f
end
section
variable{Γ:Tab}{rows:List Row}{names:List Str}
def jN(h:ss.length<64):EW .sorted [(k,.lst (ss.map .str))]=a5 (.own,.lst ((av ss).map .str)):=by
 change(strsOf (ss.map U.str)).bind _=_;rw[cn];change(if ss.length<64 then _ else _)=_;rw[WJ h]
def qd{sts:List (Str×Nat)}(hl:sts.length<64)(ho:Γ "order" [.tup (rows.map B')]=a5 (.ok (.own,.lst (sts.map stN)))):bS Γ dy [.tup (rows.map B')]=a5 (.ok (.own,.lst ((av (sts.map (·.1))).map .str))):=by
 have hsz:(20000:Nat)<=dV:=by decide
 have b:TM.start [.tup (rows.map B')] 1=[a5 (.loc,.tup (rows.map B'))]:=by simp[TM.start,DZ,bJ]
 have a:=gK (st:=[a5 (.loc,.tup (rows.map B'))]) (cond:=aF Γ []) (elt:=ev Γ (.var 0)) (src:=[(.own,.lst (sts.map stN))]) trivial (λs:Str×Nat=>U.str s.1) (λs=>U.int (s.2:Nat)) (λs=>U.str s.1) (λ_=>b5) sts [] (by simp;lia) (λy _=>⟨g_,ag rfl⟩);rw[my,Uw.mpr (λ_ _=>rfl)]at a;have e:(sts.map stN).map (λu=>(kE .own,u))=sts.map λs=>(Kd.loc,U.tup [.str s.1,.int (s.2:Nat)]):=by rw[kj];rfl
 have c:(sts.map λs=>U.str s.1)=(sts.map (·.1)).map U.str:=by rw[kj];rfl
 rw[c]at a;show aJ rfl (.inl rfl) b (cU (fF (ah (cm (rs:=[(.own,.lst (sts.map stN))]) (ah (cC (ah (ag rfl) aj) trivial ho) aj) trivial (by change a5 (LC (λu=>(kE .own,u)) _)=_;rw[e]) a) aj) trivial (jN (by rw[dt];show hl))) nN)
structure OZ(prog:List Fn):Prop where
 g:Eu prog "gathered" cq
 p:Eu prog "places_that_tell" aL
 n:Eu prog "new_steps" bX
 s:Eu prog "steps_in_rounds" aP
 o:Eu prog "order" dR
structure Kn(rows:List Row)(K:List Str):Prop where
 nd:K.Nodup
 sn:IX rows K
 cl:p_ rows (·∈K)
def Kn.of(s:LI rows sts []):Kn rows (sts.map (·.1)):=⟨s.nd,s.sn,s.closed⟩
def rC(L:OZ prog)(n:Nat)(e:∀r∈rows,gb names r)(A:names.length<=24)(f:rows.length<=120):∃(sts:List (Str×Nat)) (d:List (List (Str×Nat))),(Gw rows [] (d.map λl=>l.map (·.1))/\d.flatten=sts/\d.length<=120/\D8 prog (n+3) "steps_in_rounds" [.tup (rows.map B')]=a5 (.ok (.own,.lst (cX d))))/\LI rows sts []/\sts.length<=24/\D8 prog (n+4) "order" [.tup (rows.map B')]=a5 (.ok (.own,.lst (sts.map stN))):=by
 have m:∀r∈rows,r.2.length<=8:=λr h=>(e r h).E_;have i:Once rows:=λr h=>(e r h).once;have j:∀r∈rows,r.1∈names:=λr h=>(e r h).word;have q:yO (D8 prog (n+1)):=λps hl=>by
  have⟨ks,a,b⟩:=mK (Γ:=D8 prog n) hl;show⟨ks,a,(aK L.g _).trans b⟩
 have t:yP (D8 prog (n+2)) rows:=by
  have⟨ks,a,b⟩:=qc q i m f;show⟨ks,a,(aK L.p _).trans b⟩
 have u:v3 (D8 prog (n+2)) rows:=λR K0 vs v=>by
  have⟨st,a,c,b⟩:=j8 (Γ:=D8 prog (n+1)) j ⋯ v (K0:=K0) (vs:=vs);show⟨st,a,c,(aK L.n _).trans b⟩
 have⟨sts,d,w,s1,s2,s3,s4⟩:=ff i f t u;have k:D8 prog (n+3) "steps_in_rounds" [.tup (rows.map B')]=a5 (.ok (.own,.lst (cX d))):=(aK L.s _).trans s4;have y:sts.length<=24:=by
  have:=kU (Kn.of s1).nd (L:=names) λx z=>by
   have⟨r,a,b⟩:=ki.mp (s1.wd x z);show b▸j r a
  rw[dt]at this;lia
 show⟨sts,d,⟨w,s2,s3,k⟩,s1,y,(aK L.o _).trans (tq k s2 ⋯)⟩
end
end KL
namespace TM
open PySem L2 D4
section
def CD(b:Run (ev Γ a) st x st1)(c:w_ x=a5 r):Run (ev Γ (.HU a)) st r st1:=aa b (cT c)
def CF(a:st[i]?=a5 b6)(b:Run (a_ Γ es) st rs st1)(d:aY rs st1)(e:Γ g (rs.map (·.2))=a5 (.ok (.own,.lst xs)))(h:Run (DO Γ c) (st1.set i (a5 (.own,.lst xs))) df st2)(j:xs.all KN=b5/\xs.length<1000)(k:Run (execs Γ ss) st f st3):Run (execs Γ (.Gk i g es c::ss)) st f st3:=by
 show d6 (st1:=st) ?_ k;have l:(a_ Γ es >>= λrs=>ar rs >>= λ_=>pure rs) st=a5 (.ok rs,st1):=aa b (aa (aN d) aM);have m:DO Γ c (st1.set i (a5 (.own,.lst xs)))=a5 (.ok df,st2):=h;change uE (Γ g) i (a_ Γ es) (DO Γ c) st=_;unfold uE;rw[a,l];change(match Γ g (rs.map (·.2)) with|some (.ok (.own,.lst xs))=>_|_=>_)=_;rw[e];change(match DO Γ c (st1.set i (a5 (.own,.lst xs))) with|some (.ok df,_)=>_|_=>_)=_;rw[m];change(if xs.all KN=b5/\xs.length<1000 then _ else _)=_;rw[WJ j]
def CG(a:Run (a_ Γ es) st rs st1)(b:aY rs st1)(c:Γ g (rs.map (·.2))=a5 (.ok (.own,.lst xs)))(d:xs.length<1000)(e:Run (execs Γ ss) st f st3):Run (execs Γ (.GK g es::ss)) st f st3:=by
 show d6 (st1:=st) ?_ e;have h:(a_ Γ es >>= λrs=>ar rs >>= λ_=>pure rs) st=a5 (.ok rs,st1):=aa a (aa (aN b) aM);change uF (Γ g) (a_ Γ es) st=_;unfold uF;rw[h];change(match Γ g (rs.map (·.2)) with|some (.ok (.own,.lst xs))=>_|_=>_)=_;rw[c];change(if xs.length<1000 then _ else _)=_;rw[WJ d]
end
def word_short{x:Str}(h:bG x.cps.toList):x.length<=20/\∀c∈x.cps.toList,c<16 ^ 8:=by
 have g:∀n:_root_.Fin 100,∀c∈(oK ((n:Nat):Int)).cps.toList,c<16 ^ 8:=by decide +kernel
 rw[len_list];rcases h with h|⟨a,b,k,e,h,k2,i,f⟩
 .have⟨j,l,d⟩:=(bH _).mp h;show⟨⋯,λc hc=>by have:=d c hc;lia⟩
 .have⟨j,l,d⟩:=(bH _).mp h;have hl:=gF (k:=k) ⋯ i;rw[len_list,f]at hl;rw[e];show⟨by simp;lia,λc hc=>?_⟩;rcases ko.mp hc with hc|hc
  .have:=d c hc;lia
  .rcases ka.mp hc with rfl|hc
   .decide
   .rw[<-f]at hc;have:=g ⟨k.toNat,⋯⟩ c;have m:(((k.toNat:Nat)):Int)=k:=by lia
    rw[show(((⟨k.toNat,⋯⟩:_root_.Fin 100):Nat):Int)=k from m]at this;show this hc
abbrev Rp(n b:Nat)(u:U):Prop:=∃d,cv u=a5 d/\d.showable=b5/\d.depth<=n/\d.leavesShort 8=b5/\d.bulk<=b
def v5(h:x.length<=20/\∀c∈x.cps.toList,c<16 ^ 8):Rp 0 20 (.str x):=by
 show⟨.str x,rfl,by simp[HP],by simp[Kb],?_,?_⟩
 .simp only[F0,ve,WI];show h.2
 .simp only[Lc];show h.1
theorem qe:∀{us:List U},(∀u∈us,Rp n b u)->∃a,d4 us=a5 a/\Jl a=b5/\K2 a<=n/\Hx 8 a=b5/\Lm a<=(b+1) * us.length
 |[],_=>⟨[],rfl,rfl,mx _,rfl,mx _⟩
 |u::us,h=>by
  have⟨a,e,c,j,g,k⟩:=qe λv i=>h v (mA _ i);have⟨d,f,b1,l,b3,b4⟩:=h u l';show⟨d::a,?_,?_,?_,?_,?_⟩
  .change(cv u).bind (λd=>(d4 us).map (d::·))=_;rw[f,e];rfl
  .simp only[Jl,c,b1,VM]
  .simp only[K2];lia
  .simp only[Hx,g,b3,VM]
  .simp only[Lm,lx,Wi];lia
def CH(h:Rp n b u)(a:n<=m)(e:b<=c):Rp m c u:=by
 have⟨d,f,b1,g,b3,b4⟩:=h;show⟨d,f,b1,⋯,b3,⋯⟩
def v7(l:Bool)(h:∀u∈us,Rp n b u)(f:n<=40)(g:(b+1) * us.length<=2 ^ 20):∃s:Str,∀k,EW .repr [(k,if l=b5 then .lst us else .tup us)]=a5 (.loc,.str s):=by
 have⟨a,e,c,i,d,j⟩:=qe h;cases l with
 |false =>
  show⟨(PyData.tuple a).shown,λk=>?_⟩;change(cv (.tup us)).bind _=_;have e:cv (.tup us)=a5 (.tuple a):=by change(d4 _).map _=_;rw[e];rfl
  rw[e];change(if _/\_/\_/\_ then _ else _)=_;rw[WJ ⟨by simp only[HP];show c,by simp only[Kb];lia,Lj (B:=8) ⋯ ⋯ (by simp only[F0];show d) (by simp only[Lc];lia),rfl⟩]
 |true =>
  show⟨(TY a).shown,λk=>?_⟩;change(cv (.lst us)).bind _=_;have e:cv (.lst us)=a5 (.list a):=by change(d4 _).map _=_;rw[e];rfl
  rw[e];change(if _/\_/\_/\_ then _ else _)=_;rw[WJ ⟨by simp only[HP];show c,by simp only[Kb];lia,Lj (B:=8) ⋯ ⋯ (by simp only[F0];show d) (by simp only[Lc];lia),rfl⟩]
def AX(h:∀u∈us,Rp n b u):Rp (n+1) ((b+1) * us.length) (.lst us):=by
 have⟨a,e,c,g,d,f⟩:=qe h;show⟨.list a,?_,by simp only[HP];show c,by simp only[Kb];lia,by simp only[F0];show d,by simp only[Lc];show f⟩;change(d4 us).map _=_;rw[e];rfl
end TM
namespace KL
open PySem L2 TM D4 Od
abbrev cV:Fn:=⟨"rounds",1,3,[.set 1 (.lst []),.DJ df [2] .seq [.call "steps_in_rounds" [.var 0]] [.app 1 (.comp 2 b5 .seq [.var 2] [] (.var 0))],.ret (.var 1)]⟩
abbrev bK:Fn:=⟨"_law_rounds",1,7,[.set 1 (.EV df),.set 2 (.lst []),.set 3 (.Gi .sset [.comp 2 b5 .seq [.var 0] [.cmp .eq (.var 1) (.tup [])] (.var 0)]),.HV (.cmp .gt (.bi .len [.var 3]) (.cst (.int 0))) [.app 2 (.var 3),.DJ df [4] .seq [.var 3] [.put 1 (.var 4) (.cst (.bl b5))],.set 5 (.lst []),.DJ b5 [4,6] .seq [.var 0] [.ite (.and [.cmp .Dv (.var 4) (.var 1),.bi .all [.comp 1 df .seq [.var 6] [] (.cmp .isin (.var 0) (.var 2))]]) [.app 5 (.var 4)] []],.set 3 (.Gi .sset [.var 5])],.ret (.var 2)]⟩
section
variable{Γ:Tab}{rows:List Row}{names:List Str}
abbrev Ea(Fs:List (List Str)):List U:=Fs.map λF=>U.lst (F.map .str)
abbrev CI:List TM.S:=[.ite (.and [.cmp .Dv (.var 4) (.var 1),.bi .all [.comp 1 df .seq [.var 6] [] (.cmp .isin (.var 0) (.var 2))]]) [.app 5 (.var 4)] []]
abbrev yQ:List TM.S:=[.app 2 (.var 3),.DJ df [4] .seq [.var 3] [.put 1 (.var 4) (.cst (.bl b5))],.set 5 (.lst []),.DJ b5 [4,6] .seq [.var 0] CI,.set 3 (.Gi .sset [.var 5])]
def tu(N:∀r∈rows,r.2.length<=8)(hr:rows.length<=100)(O:∀r∈rows,r.1∈names)(Ij:names.length<64)(x:RO rows K0 F)(SE:Fs.length<200)(vs:List U)(o4 o5 o6:Option (Kd×U)):
  ∃(A:List Str) (Q:List U) (T Y Nq:Option (Kd×U)),RD rows (K0++F) A/\RO rows (K0++F) A /\
   Run (execs Γ yQ) [a5 (.loc,.tup (rows.map B')),a5 (.own,.Dt K0 vs),a5 (.own,.lst (Ea Fs)),a5 (.own,.lst (F.map .str)),o4,o5,o6] .nx
    [a5 (.loc,.tup (rows.map B')),a5 (.own,.Dt (K0++F) Q),a5 (.own,.lst (Ea (Fs++[F]))),a5 (.own,.lst (A.map .str)),T,Y,Nq]:=by
 have hsz:(20000:Nat)<=dV:=by decide
 have Nr:=kU x.kf.1 x.kf.2;rw[dt,i5]at Nr;let S:=λ(K:List Str) (vs:List U) (o4 o5 o6:Option (Kd×U))=>([a5 (.loc,.tup (rows.map B')),a5 (.own,.Dt K vs),a5 (.own,.lst (Ea (Fs++[F]))),a5 (.loc,.lst (F.map .str)),o4,o5,o6]:ak)
 obtain⟨st1,G,_,s,H,e⟩:=cp (t:=df) (is:=[4]) (body:=execs Γ [.put 1 (.var 4) (.cst (.bl b5))]) (rs:=[(.loc,.lst (F.map .str))]) (λw:Str=>(Kd.loc,U.str w))
  (λd r st=>d++r=F/\∃(vs:List U) (o4:Option (Kd×U)),st=S (K0++d) vs o4 o5 o6) (λ_ _ _ _=>trivial) (λd w r st B=>by
   have⟨l,vs,o4,e⟩:=B;subst e;have FV:d.length<F.length:=by have:=WN E1 l;simp at this;lia
   have C:w∉K0++d:=λz=>by
    have I:=x.kf.1;rw[<-l,<-NU,sx]at I;show I.2.2 w z w (by simp) rfl
   show⟨S (K0++d) vs (a5 (.loc,.str w)) o5 o6,S (K0++d++[w]) (vs++[.bl b5]) (a5 (.loc,.str w)) o5 o6,cD aO,?_,by rw[<-l];simp,vs++[.bl b5],_,by rw[NU]⟩;show rm (k:=.own) (rv:=(.loc,.bl b5)) (rk:=(.loc,.str w)) bw rfl (ag rfl) (bj bh (bj bh aV)) rfl rfl (mJ (by rw[i5];lia) C) aB) F [] (S K0 vs o4 o5 o6) ⟨rfl,vs,o4,by rw[va]⟩
 subst e;rw[my]at G;let g:=K0++F;let m:=λ(acc:List Str) (o4 o6:Option (Kd×U))=>S g s o4 (a5 (.own,.lst (acc.map .str))) o6;obtain⟨st2,G',_,acc,R6,q6,e,n,J⟩:=cp (t:=b5) (is:=[4,6]) (body:=execs Γ CI) (rs:=[(.loc,.tup (rows.map B'))]) (λr:Row=>(Kd.loc,B' r))
  (λd r st=>d++r=rows/\∃(acc:List Str) (o4 o6:Option (Kd×U)),st=m acc o4 o6/\(∀w,w∈acc↔∃r∈d,r.1=w/\r.1∉g/\∀y∈r.2,y∈g)/\acc.length<=d.length) (λ_ _ _ _=>trivial) (λd f r st B=>by
   have⟨l,acc,o4,o6,e,n,J⟩:=B;subst e;have FV:d.length<100:=by have:=WN E1 l;simp at this;lia
   have Ed:f∈rows:=by rw[<-l];simp
   have RV:=N f Ed;let o:Option (Kd×U):=a5 (.loc,.str f.1);let p:Option (Kd×U):=a5 (.loc,.tup (f.2.map .str));have v:Run (DO Γ (.and [.cmp .Dv (.var 4) (.var 1),.bi .all [.comp 1 df .seq [.var 6] [] (.cmp .isin (.var 0) (.var 2))]])) (m acc o p) (!ez (f.1∈g)&&f.2.all λy=>ez (y∈g)) (m acc o p) :=
    nM (vQ (cG (ag rfl) (aD rfl) ⟨⟨.own,rfl,rfl⟩,trivial⟩ gJ) λ_=>dP (AN (tf (j:=1) (k:=.loc) (w:=.Dt g s) (.inl rfl) ⋯ (ag rfl) (.inr rfl) λ_=>AV)))
   have L:Run (cL b5 [4,6] (.loc,B' f)) (m acc o4 o6) () (m acc o p):=og (.inl rfl);cases q:(!ez (f.1∈g)&&f.2.all λy=>ez (y∈g)) with
   |false =>
    rw[q]at v;show⟨_,_,L,gI v (λh=>by cases h) λ_=>aB,by rw[<-l];simp,acc,_,_,rfl,λw=>?_,by simp;lia⟩;rw[n w];constructor
    .rintro⟨i,a,b⟩;show⟨i,by simp[a],b⟩
    .rintro⟨i,a,b,c,dd⟩;rcases ko.mp a with a|a
     .show⟨i,a,b,c,dd⟩
     .have:i=f:=by simpa using a
      subst this;have:(!ez (i.1∈g)&&i.2.all λy=>ez (y∈g))=b5:=by
       rw[WL c];simpa using dd
      rw[this]at q;cases q
   |true =>
    rw[q]at v;have D:=q;simp only[c4,B0,decide_eq_false_iff_not,ve,WI]at D;have em:(acc++[f.1]).map U.str=acc.map U.str++[.str f.1]:=by simp
    show⟨_,m (acc++[f.1]) o p,L,gI v (λ_=>?_) (λh=>by cases h),by rw[<-l];simp,acc++[f.1],_,_,rfl,λw=>?_,by simp;lia⟩
    .change Run _ _ _ [a5 (.loc,.tup (rows.map B')),a5 (.own,.Dt g s),a5 (.own,.lst (Ea (Fs++[F]))),a5 (.loc,.lst (F.map .str)),o,a5 (.own,.lst ((acc++[f.1]).map .str)),p];rw[em];show hJ (k:=.own) (k':=.own) (r:=(.loc,.str f.1)) rfl (ag rfl) bh rfl rfl (by rw[dt];lia) aB
    .rw[ko,n w];constructor
     .rintro(⟨i,a,b⟩|a)
      .show⟨i,by simp[a],b⟩
      .have:w=f.1:=by simpa using a
       subst this;show⟨f,by simp,rfl,D.1,D.2⟩
     .rintro⟨i,a,b,c⟩;rcases ko.mp a with a|a
      .show .inl ⟨i,a,b,c⟩
      .have:i=f:=by simpa using a
       subst this;show .inr (by simp[b])) rows [] (m [] H o6) ⟨rfl,[],H,o6,rfl,by simp,by simp⟩
 subst e;rw[my]at n J;have Es:∀w∈acc,w∈names:=λw C=>by
  obtain⟨r,a,b,_⟩:=(n w).mp C;show b▸O r a
 have Ip:=jJ (k:=.bor 5) (acc:=acc) ⋯ (by have:=pZ Es;lia);show⟨av (au acc),s,R6,a5 (.own,.lst (acc.map .str)),q6,⟨bV (aQ _),eQ acc,λw=>by
  rw[jK,n w];constructor
  .rintro⟨r,a,b,c,d⟩;show⟨r,a,b,b▸c,d⟩
  .rintro⟨r,a,b,c,d⟩;show⟨r,a,b,by rw[b];show c,d⟩⟩,x.step (eQ acc) λw=>by rw[jK,n w],?_⟩
 have e1:(F.map U.str).map (λu=>(kE .loc,u))=F.map λw=>(Kd.loc,U.str w):=by rw[kj];rfl
 have e2:(rows.map B').map (λu=>(kE .loc,u))=rows.map λr=>(Kd.loc,B' r):=by rw[kj];rfl
 have ef:Ea (Fs++[F])=Ea Fs++[.lst (F.map .str)]:=by simp[Ea]
 show hJ (k:=.own) (k':=.own) (r:=(.bor 3,.lst (F.map .str))) (u:=.lst (F.map .str)) rfl (aD rfl) (yL rfl) rfl rfl (by unfold Ea;rw[dt];lia) ?_;rw[<-ef];show cH (rs:=[(.loc,.lst (F.map .str))]) (ah (ag rfl) aj) trivial (by change a5 (LC (λu=>(kE .loc,u)) _)=_;rw[e1]) rfl G ?_;show ax (r:=(.own,.lst [])) (b9 aj trivial aV (mx _)) aZ ?_;show cH (rs:=[(.loc,.tup (rows.map B'))]) (ah (ag rfl) aj) trivial (by change a5 (LC (λu=>(kE .loc,u)) _)=_;rw[e2]) rfl G' ?_;show ax (vq (ah (aD rfl) aj) ⟨⟨.own,rfl,rfl⟩,trivial⟩ Ip) aZ aB
theorem jO(j:∀r∈rows,r.2.length<=8)(k:rows.length<=100)(l:∀r∈rows,r.1∈names)(m:names.length<64):∀(f:Nat) (K0 F:List Str) (Fs:List (List Str)) (vs:List U) (o4 o5 o6:Option (Kd×U)),RD rows K0 F->RO rows K0 F->Fs.flatten=K0->Fs.length<=K0.length->rows.length - K0.length+1<=f ->
  ∃(c:List Str) (b:List (List Str)) (st':ak),(∃a:List (List Str),b=Fs++a/\Gw rows K0 a)/\RO rows c []/\b.flatten=c/\st'[2]?=a5 (a5 (.own,.lst (Ea b))) /\
   Run (fB (DO Γ (.cmp .gt (.bi .len [.var 3]) (.cst (.int 0)))) (execs Γ yQ) f) [a5 (.loc,.tup (rows.map B')),a5 (.own,.Dt K0 vs),a5 (.own,.lst (Ea Fs)),a5 (.own,.lst (F.map .str)),o4,o5,o6] .nx st'
 |0,_,_,_,_,_,_,_,_,_,_,_,h=>by lia
 |f+1,K0,F,Fs,vs,o4,o5,o6,g,x,n,J,h=>by
  have o:=kU x.kf.1 x.kf.2;rw[dt,i5]at o;have d:Run (DO Γ (.cmp .gt (.bi .len [.var 3]) (.cst (.int 0)))) [a5 (.loc,.tup (rows.map B')),a5 (.own,.Dt K0 vs),a5 (.own,.lst (Ea Fs)),a5 (.own,.lst (F.map .str)),o4,o5,o6] (ez (0<F.length)) [a5 (.loc,.tup (rows.map B')),a5 (.own,.Dt K0 vs),a5 (.own,.lst (Ea Fs)),a5 (.own,.lst (F.map .str)),o4,o5,o6] :=
   cG (fF (ah (aD rfl) aj) ⟨⟨.own,rfl,rfl⟩,trivial⟩ xY) bw trivial (jE (by rw[dt,FW];simp))
  by_cases i:0<F.length
  .rw[WM i]at d;have⟨p,q,s,t,u,g',y,v⟩:=tu (Γ:=Γ) j k l m x (Fs:=Fs) ⋯ vs o4 o5 o6;obtain⟨c,b,st',⟨a,A,B⟩,C,D,G,H⟩:=jO j k l m f (K0++F) p (Fs++[F]) q s t u g' y (by rw[MV,n];simp) (by rw[i5,i5,Ma];lia) (by rw[i5];lia);show⟨c,b,st',⟨F::a,by rw[A];simp,⟨λz=>by subst z;simp at i,g⟩,B⟩,C,D,G,AO d v H⟩
  .rw[WL i]at d;have e:F=[]:=MC ⋯;subst e;show⟨K0,Fs,_,⟨[],(va _).symm,λw I=>by
    have:=(g.mem w).mpr I;cases this⟩,x,n,rfl,yM d⟩
def qf(q:∀r∈rows,r.2.length<=8)(s:rows.length<=100)(m:∀r∈rows,r.1∈names)(t:names.length<64):∃(f:List Str) (Fs:List (List Str)),Gw rows [] Fs/\RO rows f []/\Fs.flatten=f/\bS Γ bK [.tup (rows.map B')]=a5 (.ok (.own,.lst (Ea Fs))):=by
 have hsz:(20000:Nat)<=dV:=by decide
 have v:TM.start [.tup (rows.map B')] 7=[a5 (.loc,.tup (rows.map B')),b6,b6,b6,b6,b6,b6]:=by simp[TM.start,DZ,bJ]
 let g:ak:=[a5 (.loc,.tup (rows.map B')),a5 (.own,.Dt [] []),a5 (.own,.lst []),b6,b6,b6,b6]
 let acc:=(rows.filter λr=>ez (r.2=[])).map (·.1);have i:∀w,w∈acc↔∃r∈rows,r.1=w/\r.2=[]:=λw=>by
  constructor
  .intro h;have⟨r,a,b⟩:=ki.mp h;have⟨c,d⟩:=uv.mp a;show⟨r,c,b,by simpa using d⟩
  .rintro⟨r,a,b,c⟩;show ki.mpr ⟨r,uv.mpr ⟨a,by simpa using c⟩,b⟩
 have x:∀w∈acc,w∈names:=λw z=>by
  obtain⟨r,a,b,_⟩:=(i w).mp z;show b▸m r a
 have N:acc.length<=rows.length:=by
  change(LC _ _).length<=_;rw[dt];show Ew _ _
 have A:Run (ev Γ (.comp 2 b5 .seq [.var 0] [.cmp .eq (.var 1) (.tup [])] (.var 0))) g (.own,.lst (acc.map .str)) g:=by
  have j:=gK (st:=g) (cond:=aF Γ [.cmp .eq (.var 1) (.tup [])]) (elt:=ev Γ (.var 0)) (src:=[(.loc,.tup (rows.map B'))]) trivial (λr:Row=>U.str r.1) (λr:Row=>U.tup (r.2.map .str)) (λr:Row=>U.str r.1) (λr=>ez (r.2=[])) rows [] (by simp;lia)
   (λy _=>⟨dP (cG (ag rfl) (ra aj trivial aV (mx _)) trivial yi),ag rfl⟩)
  rw[my]at j;have e:(rows.map B').map (λu=>(kE .loc,u))=rows.map λr=>(Kd.loc,U.tup [.str r.1,.tup (r.2.map .str)]):=by rw[kj];rfl
  have B:((rows.filter λr=>ez (r.2=[])).map λr=>U.str r.1)=acc.map U.str:=by simp[acc]
  rw[B]at j;show cm (rs:=[(.loc,.tup (rows.map B'))]) (ah (ag rfl) aj) trivial (by change a5 _=_;rw[e]) j
 have C:=jJ (k:=.own) (acc:=acc) ⋯ (by have:=pZ x;lia);have D:RO rows [] (av (au acc)):=RO.start (eQ acc) λw=>by rw[jK,i w]
 have G:RD rows [] (av (au acc)):=⟨bV (aQ _),eQ acc,λw=>by
  rw[jK,i w];constructor
  .rintro⟨r,a,b,c⟩;show⟨r,a,b,by simp,by simp[c]⟩
  .rintro⟨r,a,b,c,d⟩;show⟨r,a,b,?_⟩;cases e:r.2 with
   |nil=>rfl
   |cons y l=>show absurd (d y (by rw[e];simp)) (by simp)⟩
 obtain⟨f,Fs,st',⟨n,o,H⟩,I,J,p,L⟩:=jO (Γ:=Γ) q s m t fuel [] _ [] [] b6 b6 b6 G D rfl (gs _) (by unfold fuel;simp;lia);rw[my]at o;subst o;show⟨f,Fs,H,I,J,?_⟩;show aJ rfl (.inl rfl) v (ax (r:=(.own,.Dt [] [])) mr aZ (ax (r:=(.own,.lst [])) (b9 aj trivial aV (mx _)) aZ (ax (vq (ah A aj) trivial C) aZ (yN L (cU (aD p) (jB p))))))
def oo(hs:Γ "steps_in_rounds" [.tup (rows.map B')]=a5 (.ok (.own,.lst (cX a))))(hl:a.length<=120)(Fj:∀l∈a,l.length<=120):bS Γ cV [.tup (rows.map B')]=a5 (.ok (.own,.lst (Ea (a.map λl=>l.map (·.1))))):=by
 have hsz:(20000:Nat)<=dV:=by decide
 have h:TM.start [.tup (rows.map B')] 3=[a5 (.loc,.tup (rows.map B')),b6,b6]:=by simp[TM.start,DZ,bJ]
 let S:=λ(l:List (List (Str×Nat))) (o2:Option (Kd×U))=>([a5 (.loc,.tup (rows.map B')),a5 (.own,.lst (Ea (l.map λl=>l.map (·.1)))),o2]:ak)
 have⟨st',i,b,o2,e⟩:=cp (t:=df) (is:=[2]) (body:=execs Γ [.app 1 (.comp 2 b5 .seq [.var 2] [] (.var 0))]) (rs:=[(.own,.lst (cX a))]) (λl:List (Str×Nat)=>(Kd.loc,U.lst (l.map stN)))
  (λd r st=>d++r=a/\∃o2:Option (Kd×U),st=S d o2) (λ_ _ _ _=>trivial) (λd y r st j=>by
   have⟨b,o2,e⟩:=j;subst e;have n:d.length<120:=by have:=WN E1 b;simp at this;lia
   have o:=Fj y (by rw[<-b];simp);let c:Option (Kd×U):=a5 (.loc,.lst (y.map stN));have f:=gK (st:=S d c) (cond:=aF Γ []) (elt:=ev Γ (.var 0)) (src:=[(.loc,.lst (y.map stN))]) trivial (λs:Str×Nat=>U.str s.1) (λs=>U.int (s.2:Nat)) (λs=>U.str s.1) (λ_=>b5) y [] (by simp;lia) (λy _=>⟨g_,ag rfl⟩);rw[my,Uw.mpr (λ_ _=>rfl)]at f;have e:(y.map stN).map (λu=>(kE .loc,u))=y.map λs=>(Kd.loc,U.tup [.str s.1,.int (s.2:Nat)]):=by rw[kj];rfl
   have m:(y.map λs=>U.str s.1)=(y.map (·.1)).map U.str:=by rw[kj];rfl
   rw[m]at f;show⟨S d c,S (d++[y]) c,cD aO,?_,by rw[<-b];simp,_,rfl⟩;have em:Ea ((d++[y]).map λl=>l.map (·.1))=Ea (d.map λl=>l.map (·.1))++[.lst ((y.map (·.1)).map .str)]:=by simp[Ea]
   change Run _ _ _ [a5 (.loc,.tup (rows.map B')),a5 (.own,.lst (Ea ((d++[y]).map λl=>l.map (·.1)))),c];rw[em];show hJ (k:=.own) (k':=.own) (r:=(.own,.lst ((y.map (·.1)).map .str))) rfl (cm (rs:=[(.loc,.lst (y.map stN))]) (ah (ag rfl) aj) trivial (by change a5 (LC (λu=>(kE .loc,u)) _)=_;rw[e]) f) rb rfl rfl (by unfold Ea;rw[dt,dt];lia) aB) a [] (S [] b6) ⟨rfl,b6,rfl⟩
 subst e;have e:(cX a).map (λu=>(kE .own,u))=a.map λl=>(Kd.loc,U.lst (l.map stN)):=by unfold cX;rw[kj];rfl
 have g:=aJ (Γ:=Γ) (fn:=cV) rfl (.inl rfl) h (ax (r:=(.own,.lst [])) (b9 aj trivial aV (mx _)) aZ (cH (rs:=[(.own,.lst (cX a))]) (st1:=S [] b6) (ah (cC (ah (ag rfl) aj) trivial hs) aj) trivial rfl rfl (by rw[e];show i) (cU (aD rfl) (jB rfl))));rw[my]at g;show g
end
end KL
namespace K
open PySem L2 TM
abbrev top(i:Nat):HK:=PySem.Challenge.pw_primer_k11_rounds.main.body.getD i (.Pass ⟨0,0,0,0⟩)
noncomputable abbrev cq:Fn:=KL.cq
noncomputable abbrev aL:Fn:=KL.aL
noncomputable abbrev bX:Fn:=KL.bX
noncomputable abbrev aP:Fn:=KL.aP
noncomputable abbrev cV:Fn:=KL.cV
noncomputable abbrev dR:Fn:=KL.dR
noncomputable abbrev dy:Fn:=KL.dy
noncomputable abbrev k_:Fn:=TM.sQ
noncomputable abbrev jP:Fn:=TM.rh
noncomputable abbrev hZ:Fn:=TM.mz
abbrev jQ:Fn:=⟨"_law_name",2,6,[.set 2 (.cst (.str "abcdefghijklmnopqrstuvwxyz")),.set 3 (.Gj .join (.cst (.str "")) [.comp 1 df .DV [.bin .add (.cst (.int 1)) (.bin .mod (.idx (.var 0) (.cst (.int 0))) (.cst (.int 8)))] [] (.idx (.var 3) (.bin .mod (.idx (.var 1) (.bin .add (.cst (.int 4)) (.var 0))) (.cst (.int 26))))]),.ite (.cmp .gt (.bi .len [.var 1]) (.cst (.int 0))) [.set 4 (.idx (.Gj .split (.idx (.var 1) (.bin .mod (.idx (.var 0) (.cst (.int 1))) (.bi .len [.var 1]))) [.cst (.str "/")]) (.cst (.int 0))),.ite (.cmp .eq (.bin .mod (.idx (.var 0) (.cst (.int 2))) (.cst (.int 4))) (.cst (.int 1))) [.set 3 (.FX (.bin .add (.var 4) (.var 3)) [] [.cst (.int 8)])] [],.ite (.cmp .eq (.bin .mod (.idx (.var 0) (.cst (.int 2))) (.cst (.int 4))) (.cst (.int 2))) [.set 3 (.bin .add (.bin .add (.var 4) (.cst (.str "/"))) (.bi .str [.bin .add (.cst (.int 2)) (.bin .mod (.idx (.var 0) (.cst (.int 3))) (.cst (.int 98)))]))] []] [],.set 5 (.bin .add (.lst [.var 3]) (.comp 1 df .DV [.cst (.int 40)] [] (.bin .add (.idx (.var 3) (.bin .Fo (.var 0) (.cst (.int 26)))) (.idx (.var 3) (.bin .mod (.var 0) (.cst (.int 26))))))),.ret (.idx (.comp 1 df .seq [.var 5] [.cmp .Dv (.var 0) (.var 2)] (.var 0)) (.cst (.int 0)))]⟩
noncomputable abbrev h_:Fn:=TM.fNames
noncomputable abbrev jR:Fn:=TM.hU
noncomputable abbrev jS:Fn:=TM.vI
noncomputable abbrev jT:Fn:=TM.vL
noncomputable abbrev fk:Fn:=TM.jL
noncomputable abbrev bK:Fn:=KL.bK
abbrev rD:Fn:=⟨"law",1,7,[.set 1 (.call "_law_widened" [.var 0,.call "_law_made" [.var 0]]),.DJ df [2] .seq [.lst [.var 1,.bin .add (.HU (.FX (.var 1) [] [.cst (.int 60)])) (.FX (.var 1) [.cst (.int 60)] []),.var 1]] [.set 3 (.call "_law_rounds" [.var 2]),.set 4 (.lst []),.DJ df [5] .seq [.var 3] [.ext 4 (.var 5)],.Gk 6 "rounds" [.var 2] (.or [.cmp .ne (.bi .repr [.var 6]) (.bi .repr [.var 3]),.cmp .ne (.bi .repr [.call "learnt" [.var 2]]) (.bi .repr [.bi .sorted [.var 4]])]),.GK "learnt" [.var 2]],.ret (.cst (.bl b5))]⟩
abbrev prog:List Fn:=[cq,aL,bX,aP,cV,dR,dy,k_,jP,hZ,jQ,h_,jR,jS,jT,fk,bK,rD]
abbrev ck:Ck:=⟨prog.map (·.name),[]⟩
end K
namespace K
open PySem L2 TM D4 Od KL
section
def oq:vO prog:=⟨rfl,rfl,rfl,rfl,rfl,rfl,rfl⟩
def CJ:OZ prog:=⟨rfl,rfl,rfl,rfl,rfl⟩
structure Good(Γ:Tab)(rows:List Row)(Fs:List (List Str)):Prop where
 lw:Γ "_law_rounds" [.tup (rows.map B')]=a5 (.ok (.own,.lst (Ea Fs)))
 rs:Γ "rounds" [.tup (rows.map B')]=a5 (.ok (.own,.lst (Ea Fs)))
 ln:Γ "learnt" [.tup (rows.map B')]=a5 (.ok (.own,.lst ((av Fs.flatten).map .str)))
 fw:Fs.length<=120
 fl:Fs.flatten.length<=24
 wd:∀x∈Fs.flatten,bG x.cps.toList
def good(i:∀x∈names,bG x.cps.toList)(c:∀r∈rows,gb names r)(z:names.length<=14)(j:rows.length<=100):∃Fs,Good (D8 prog 5) rows Fs:=by
 have k:∀r∈rows,r.2.length<=8:=λr h=>(c r h).E_;have d:∀r∈rows,r.1∈names:=λr h=>(c r h).word;have⟨A,Fs,c1,B,C,m⟩:=qf (Γ:=D8 prog 4) k j d ⋯;obtain⟨n,o,⟨c0,p,_,_⟩,q,s,o0⟩:=rC CJ 0 c ⋯ ⋯;obtain⟨D,t,⟨u,v,e,w⟩,G,H,_⟩:=rC CJ 1 c ⋯ ⋯;have y:(o.map λl=>l.map (·.1))=Fs:=c0.one c1;have f:(t.map λl=>l.map (·.1))=Fs:=u.one c1;have es:n.map (·.1)=Fs.flatten:=by rw[<-y,<-p,List.map_flatten]
 show⟨Fs,(aK (show Eu prog "_law_rounds" bK from rfl) _).trans m,?_,?_,by rw[<-f,dt];show e,by rw[<-es,dt];show s,λx g=>?_⟩
 .show(aK (show Eu prog "rounds" cV from rfl) _).trans ?_;rw[<-f];show oo w e λl hl=>?_;have:=(Nc hl).length_le;rw[v]at this;lia
 .rw[<-es];show(aK (show Eu prog "learnt" dy from rfl) _).trans (qd ⋯ o0)
 .rw[<-es]at g;have⟨r,a,b⟩:=ki.mp (q.wd x g);show i x (b▸d r a)
def yn{a:List Row}(J:Γ "_law_made" [.DT (ns.map .int)]=a5 (.ok (.loc,.tup (a.map B'))))(L:Γ "_law_widened" [.DT (ns.map .int),.tup (a.map B')]=a5 (.ok (.loc,.tup (rows.map B'))))(hl:rows.length<=100)(w:∃Fs,Good Γ rows Fs)(N:∃Fs,Good Γ ((cut rows b6 (a5 60)).reverse++cut rows (a5 60) b6) Fs):bS Γ rD [pO ns]=a5 (.ok (.loc,.bl b5)):=by
 have hsz:(20000:Nat)<=dV:=by decide
 let j:Option (Kd×U):=a5 (.any,.DT (ns.map .int));let z:Option (Kd×U):=a5 (.loc,.tup (rows.map B'));have O:TM.start [pO ns] 7=[j,b6,b6,b6,b6,b6,b6]:=rfl;let S:=λ(o2 o3 o4 o5:Option (Kd×U))=>([j,z,o2,o3,o4,o5,b6]:ak)
 let c:List (List Row):=[rows,(cut rows b6 (a5 60)).reverse++cut rows (a5 60) b6,rows]
 have Q:∀b∈c,∃Fs,Good Γ b Fs:=λb hb=>by
  rcases ka.mp hb with rfl|hb
  .show w
  rcases ka.mp hb with rfl|hb
  .show N
  rw[ti.mp hb];show w
 let body:List TM.S:=[.set 3 (.call "_law_rounds" [.var 2]),
   .set 4 (.lst []),
   .DJ df [5] .seq [.var 3]
    [.ext 4 (.var 5)],
   .Gk 6 "rounds" [.var 2] (.or [.cmp .ne (.bi .repr [.var 6]) (.bi .repr [.var 3]),.cmp .ne (.bi .repr [.call "learnt" [.var 2]]) (.bi .repr [.bi .sorted [.var 4]])]),
   .GK "learnt" [(.var 2)]]
 obtain⟨st1,Y,_,o2,o3,o4,o5,e⟩:=cp (t:=df) (is:=[2]) (body:=execs Γ body) (rs:=[(.own,.lst (c.map λb:List Row=>U.tup (b.map B')))]) (λb:List Row=>(Kd.loc,U.tup (b.map B')))
  (λd r st=>d++r=c/\∃o2 o3 o4 o5:Option (Kd×U),st=S o2 o3 o4 o5) (λ_ _ _ _=>trivial) (λd b r st m=>by
   have⟨f,o2,o3,o4,o5,e⟩:=m;subst e;have⟨Fs,g⟩:=Q b (by rw[<-f];simp);have gf:=g.fw;have A:=g.fl;let o:Option (Kd×U):=a5 (.loc,.tup (b.map B'));let B:Option (Kd×U):=a5 (.own,.lst (Ea Fs));let T:=λ(l:List Str) (o5:Option (Kd×U))=>S o B (a5 (.own,.lst (l.map .str))) o5;obtain⟨st2,C,_,p,e⟩:=cp (t:=df) (is:=[5]) (body:=execs Γ [.ext 4 (.var 5)]) (rs:=[(.bor 3,.lst (Ea Fs))]) (λF:List Str=>(Kd.loc,U.lst (F.map .str)))
    (λd r st=>d++r=Fs/\∃o5:Option (Kd×U),st=T d.flatten o5) (λ_ _ K6 ⟨_,o5,e⟩=>by subst e;show⟨⟨.own,rfl,rfl⟩,trivial⟩) (λd y r st m=>by
     have⟨f,o5,e⟩:=m;subst e;have hb:d.flatten.length+y.length<=24:=by
      have:=WN (λl:List (List Str)=>l.flatten.length) f;simp only[MV,NT,i5]at this;lia
     show⟨T d.flatten (a5 (.loc,.lst (y.map .str))),T (d++[y]).flatten (a5 (.loc,.lst (y.map .str))),cD aO,?_,by rw[<-f];simp,_,rfl⟩;have em:(d++[y]).flatten.map U.str=d.flatten.map U.str++y.map U.str:=by simp
     change Run _ _ _ [j,z,o,B,a5 (.own,.lst ((d++[y]).flatten.map .str)),a5 (.loc,.lst (y.map .str)),b6];rw[em];show rn (k:=.own) (k':=.own) rfl (ag rfl) rfl rfl (mE (by rw[dt,dt];lia) rfl) aB) Fs [] (T [] o5) ⟨rfl,o5,rfl⟩
   subst e;rw[my]at C;have⟨s1,D⟩:=v7 (n:=1) (b:=21 * 24) (us:=Ea Fs) b5 (λu h=>by
    have⟨F,i,rfl⟩:=ki.mp h;have R8:=(Nc i).length_le;show CH (AX (n:=0) (b:=20) λv hv=>?_) (gs _) (Nat.mul_le_mul_left 21 (by rw[dt];lia));have⟨x,q,rfl⟩:=ki.mp hv;show v5 (word_short (g.wd x (U9.mpr ⟨F,i,q⟩)))) ⋯ (by unfold Ea;rw[dt];lia)
   have⟨s2,G⟩:=v7 (n:=0) (b:=20) (us:=(av Fs.flatten).map .str) b5 (λu h=>by
    have⟨x,q,rfl⟩:=ki.mp h;show v5 (word_short (g.wd x ((aQ _).mem_iff.mp q)))) ⋯ (by rw[dt,aS];lia)
   have h5:(Ea Fs).all KN=b5/\(Ea Fs).length<1000:=by
    show⟨?_,by unfold Ea;rw[dt];lia⟩;rw[ve];intro u h;have⟨F,i,rfl⟩:=ki.mp h;have R8:=(Nc i).length_le;change ez (_<1000)=b5;rw[WI,dt];lia
   have H:∀x:Str,bB .ne (.str x) (.str x)=a5 df:=λx=>by rw[AW];simp
   have tc:Run (DO Γ (.or [.cmp .ne (.bi .repr [.var 6]) (.bi .repr [.var 3]),.cmp .ne (.bi .repr [.call "learnt" [.var 2]]) (.bi .repr [.bi .sorted [.var 4]])])) ((T Fs.flatten p).set 6 (a5 (.own,.lst (Ea Fs)))) df ((T Fs.flatten p).set 6 (a5 (.own,.lst (Ea Fs)))) :=
    Ci (yF (cG (fF (ah (aD rfl) aj) ⟨⟨.own,rfl,rfl⟩,trivial⟩ (D _)) (fF (ah (aD rfl) aj) ⟨⟨.own,rfl,rfl⟩,trivial⟩ (D _)) trivial (H s1))
     (yE (cG (fF (ah (cC (ah (ag rfl) aj) trivial g.ln) aj) trivial (G _)) (fF (ah (fF (ah (aD rfl) aj) ⟨⟨.own,rfl,rfl⟩,trivial⟩ (jN ⋯)) aj) trivial (G _)) trivial (H s2))))
   have e1:(Ea Fs).map (λu=>(kE (.bor 3),u))=Fs.map λF=>(Kd.loc,U.lst (F.map .str)):=by unfold Ea;rw[kj];rfl
   show⟨S o o3 o4 o5,T Fs.flatten p,cD aO,?_,by rw[<-f];simp,_,_,_,_,rfl⟩;show ax (cC (ah (ag rfl) aj) trivial g.lw) aZ (ax (r:=(.own,.lst [])) (b9 aj trivial aV (mx _)) aZ ?_);show cH (rs:=[(.bor 3,.lst (Ea Fs))]) (ah (aD rfl) aj) ⟨⟨.own,rfl,rfl⟩,trivial⟩ (by change a5 (LC (λu=>(kE (.bor 3),u)) _)=_;rw[e1]) rfl C ?_;show CF (rs:=[(.loc,.tup (b.map B'))]) rfl (ah (ag rfl) aj) trivial g.rs tc h5 ?_;show CG (rs:=[(.loc,.tup (b.map B'))]) (ah (ag rfl) aj) trivial g.ln (by rw[dt,aS];lia) aB) c [] (S b6 b6 b6 b6) ⟨rfl,b6,b6,b6,b6,rfl⟩
 subst e;let I:List U:=(cut (rows.map B') b6 (a5 60)).reverse++cut (rows.map B') (a5 60) b6;have e0:(c.map λb:List Row=>U.tup (b.map B'))=[U.tup (rows.map B'),U.tup I,U.tup (rows.map B')]:=by
  change [U.tup (rows.map B'),U.tup (((cut rows b6 (a5 60)).reverse++cut rows (a5 60) b6).map B'),U.tup (rows.map B')]=_;rw[qs,List.map_reverse,<-rq,<-rq]
 have c1:=iB (rows.map B') b6 (a5 60);have c2:=iB (rows.map B') (a5 60) b6;rw[dt]at c1 c2;have Nz:Fq .add (.loc,.tup (cut (rows.map B') b6 (a5 60)).reverse) (.loc,.tup (cut (rows.map B') (a5 60) b6))=a5 (.loc,.tup I):=by
  change(if _<=dV then _ else _)=_;rw[WJ (by rw[MS];lia)];rfl
 have A:Run (ev Γ (.lst [.var 1,.bin .add (.HU (.FX (.var 1) [] [.cst (.int 60)])) (.FX (.var 1) [.cst (.int 60)] []),.var 1])) (S b6 b6 b6 b6) (Kd.own,U.lst (c.map λb:List Row=>U.tup (b.map B'))) (S b6 b6 b6 b6):=by
  rw[e0];show b9 (ah (ag rfl) (ah (fj (CD (vp (x:=(.loc,.tup (rows.map B'))) (r:=(.loc,.tup (cut (rows.map B') b6 (a5 60)))) (ag rfl) vm (vn bw) trivial rfl) rfl) (vp (x:=(.loc,.tup (rows.map B'))) (r:=(.loc,.tup (cut (rows.map B') (a5 60) b6))) (ag rfl) (vn bw) vm trivial rfl) trivial Nz) (ah (ag rfl) aj))) trivial (bj bh (bj bh (bj bh aV))) (by change 3<=dV;lia)
 have s:Fd .seq [(Kd.own,U.lst (c.map λb:List Row=>U.tup (b.map B')))]=a5 (c.map λb:List Row=>(Kd.loc,U.tup (b.map B'))):=by
  change a5 (LC (λu=>(kE .own,u)) _)=_;rw[kj];rfl
 have Gp:ny [(Kd.own,U.lst (c.map λb:List Row=>U.tup (b.map B')))] [2] body=b5:=rfl;show aJ rfl (.inr rfl) O (ax (cC (ah (bU rfl) (ah (cC (ah (bU rfl) aj) trivial J) aj)) trivial L) aO (cH (rs:=[(Kd.own,U.lst (c.map λb:List Row=>U.tup (b.map B')))]) (st1:=S b6 b6 b6 b6) (ah A aj) trivial s Gp Y (cU bw jA)))
end
def pure(ns:List Int)(n:ns.length<=63):D8 prog 6 "law" [pO ns]=a5 (.ok (.loc,.bl b5)):=by
 have⟨a,b,k1,k2,c,d,f,g,i,j⟩:=vM (Γ:=D8 prog 4) oq.gH oq.drawnOk oq.namesOk oq.vP ns;have⟨names,rows,B,k⟩:=nW (Γ:=D8 prog 4) oq.gH oq.drawnOk oq.namesOk oq.vP (ns:=ns) ⟨k1,k2,c,d,f,g,i⟩;have o:=B.len;have l:∀r∈(cut rows b6 (a5 60)).reverse++cut rows (a5 60) b6,r∈rows:=λr m=>by
  rcases ko.mp m with h|h
  .show rA (List.mem_reverse.mp h)
  .show rA h
 have c1:=iB rows b6 (a5 60);have p:=iB rows (a5 60) b6;have Fj:((cut rows b6 (a5 60)).reverse++cut rows (a5 60) b6).length<=100:=by
  have e:(cut rows b6 (a5 60)).length+(cut rows (a5 60) b6).length<=rows.length:=by
   simp[cut,HT.DA];lia
  rw[i5,MS];lia
 show(aK (show Eu prog "law" rD from rfl) _).trans (yn ((aK (show Eu prog "_law_made" vL from rfl) _).trans j) ((aK (show Eu prog "_law_widened" jL from rfl) _).trans k) ⋯ (good B.word B.ok B.E_ ⋯) (good B.word (λr h=>B.ok r (l r h)) B.E_ Fj))
end K
namespace K
open PySem L2 TM PySem.W PyProof.Rows
abbrev m0:eH:=.str "primer.books" 187
abbrev m1:eH:=.str "primer.learning" 199
abbrev m2:eH:=.str "law_primer_k11_rounds" 246
abbrev ml:Me:=⟨rD,20,["_law_script","_law_book_here","_law_some","_law_due","_law_words","_law_fresh","_law_found"],126,125,m2,co "law" 343 138 1 120 121 (.ref 122) (.ref 123) (.ref 124) 353 354 181⟩
abbrev ms:List Me:=[⟨cq,1,["pairs","found","key","value"],21,20,m0,co "gathered" 189 2 1 15 16 (.ref 17) (.ref 18) (.ref 19) 196 197 181⟩,
 ⟨aL,3,["book","pairs","place","row"],26,25,m1,co "places_that_tell" 201 10 1 22 23 .none .none (.ref 24) 204 205 181⟩,
 ⟨bX,4,["book","places","known","steps","place","word"],33,32,m1,co "new_steps" 207 15 3 27 28 (.ref 29) (.ref 30) (.ref 31) 216 217 181⟩,
 ⟨aP,5,["book","tellers","missing","known","found","ready","steps","word","place","teller"],38,37,m1,co "steps_in_rounds" 219 22 1 34 35 .none .none (.ref 36) 222 223 181⟩,
 ⟨cV,6,["book","found","steps"],43,42,m1,co "rounds" 225 40 1 39 40 .none .none (.ref 41) 228 229 181⟩,
 ⟨dR,7,["book","found","steps"],50,49,m1,co "order" 231 45 1 44 45 (.ref 46) (.ref 47) (.ref 48) 237 238 181⟩,
 ⟨dy,8,["book"],55,54,m1,co "learnt" 240 50 1 51 52 .none .none (.ref 53) 243 244 181⟩,
 ⟨k_,10,["_law_cell_here","_law_k","_law_by"],62,61,m2,co "_law_mix" 248 53 2 56 57 (.ref 58) (.ref 59) (.ref 60) 254 255 181⟩,
 ⟨jP,11,["_law_script","_law_k","_law_seed"],69,68,m2,co "_law_cell" 257 56 2 63 64 (.ref 65) (.ref 66) (.ref 67) 263 264 181⟩,
 ⟨hZ,12,["_law_cell_here","_law_many","_law_found","_law_left","_law_k"],76,75,m2,co "_law_drawn" 266 63 2 70 71 (.ref 72) (.ref 73) (.ref 74) 274 275 181⟩,
 ⟨jQ,13,["_law_drawn_here","_law_names_here","_law_letters","_law_name_here","_law_stem","_law_spare"],81,80,m2,co "_law_name" 277 73 2 77 78 .none .none (.ref 79) 280 281 181⟩,
 ⟨h_,14,["_law_script","_law_base","_law_many","_law_names_here","_law_k"],88,87,m2,co "_law_names" 283 84 3 82 83 (.ref 84) (.ref 85) (.ref 86) 291 292 181⟩,
 ⟨jR,15,["_law_drawn_here","_law_names_here","_law_top","_law_told_here","_law_k","_law_one"],95,94,m2,co "_law_told" 294 89 2 89 90 (.ref 91) (.ref 92) (.ref 93) 303 304 181⟩,
 ⟨jS,16,["_law_script","_law_base","_law_names_here","_law_many","_law_rows","_law_met","_law_k","_law_drawn_here","_law_row","_law_key"],102,101,m2,co "_law_book" 306 99 4 96 97 (.ref 98) (.ref 99) (.ref 100) 319 320 181⟩,
 ⟨jT,17,["_law_script","_law_drawn_here","_law_names_here"],109,108,m2,co "_law_made" 322 110 1 103 104 (.ref 105) (.ref 106) (.ref 107) 328 329 181⟩,
 ⟨fk,18,["_law_script","_law_book_here","_law_drawn_here","_law_words","_law_row"],114,113,m2,co "_law_widened" 331 114 2 110 111 .none .none (.ref 112) 334 335 181⟩,
 ⟨bK,19,["_law_book_here","_law_known","_law_found","_law_fresh","_law_word","_law_some","_law_told_here"],119,118,m2,co "_law_rounds" 337 124 1 115 116 .none .none (.ref 117) 340 341 181⟩,
 ml]
abbrev gg(P:US):Obj:=⟨.type "dict",b6,.dict #[ge P "__name__" 165 (.str "law_primer_k11_rounds" 246),ge P "__doc__" 166 .none,ge P "__package__" 167 .none,ge P "__loader__" 168 (.builtin "__main__.__loader__#opaque"),ge P "__spec__" 169 .none,ge P "__annotations__" 170 (.ref 6),ge P "__builtins__" 171 (.ref 4),ge P "__file__" 173 (.str "/claim/cut.py" 172),ge P "__cached__" 174 .none,ge P "gathered" 198 (.ref 21),ge P "places_that_tell" 206 (.ref 26),ge P "new_steps" 218 (.ref 33),ge P "steps_in_rounds" 224 (.ref 38),ge P "rounds" 230 (.ref 43),ge P "order" 239 (.ref 50),ge P "learnt" 245 (.ref 55),ge P "_law_mix" 256 (.ref 62),ge P "_law_cell" 265 (.ref 69),ge P "_law_drawn" 276 (.ref 76),ge P "_law_name" 282 (.ref 81),ge P "_law_names" 293 (.ref 88),ge P "_law_told" 305 (.ref 95),ge P "_law_book" 321 (.ref 102),ge P "_law_made" 330 (.ref 109),ge P "_law_widened" 336 (.ref 114),ge P "_law_rounds" 342 (.ref 119),ge P "law" 355 (.ref 126)] 27,#[]⟩
abbrev vw:DW:=view PySem.Challenge.pw_primer_k11_rounds [1,3,4,5,6,7,8,10,11,12,13,14,15,16,17,18,19,20]
abbrev hk:Hook:=kHook (λP=>Ft top (gg P) ms) (adr ms) λP=>q_ top (gg P) ms
abbrev lo:List Str:=[]
noncomputable abbrev xt(s:hH):Bool:=xlAt vw [] s&&recOk (RowW.records PySem.Challenge.rw_primer_k11_rounds.row.toRowW) s
noncomputable abbrev oe(w:Fi):Option hH:=openEnds treeTable PySem.Challenge.rw_primer_k11_rounds.row.prog w 4000
noncomputable abbrev os(s:hH):=openSeen vw lo (importedModules PySem.Challenge.rw_primer_k11_rounds.row.prog.main.body) xt b5 s
def FT(w:Fi):(oe w).map (λs=>(os s).1)=a5 (openGood vw lo).1:=by kernel_rfl
def Fj(w:Fi):(oe w).map (λs=>(os s).2)=a5 (openGood vw lo).2:=by kernel_rfl
def Hr(w:Fi):(oe w).map hk.obs=a5 (hk.val w):=by kernel_rfl
def hl:LeftO PySem.Challenge.rw_primer_k11_rounds.row.prog vw lo xt hk.obs hk.val 4000:=λw=>by
 have⟨s,e,a⟩:=f6.mp (FT w);have b:=Fj w;have c:=Hr w;rw[e]at b c;change(oe w).map _=_;rw[e];show WN a5 (Tn (Tn a (vl b)) (vl c))
def hs:PySem.Challenge.rw_primer_k11_rounds.wellSaid=b5:=by kernel_rfl
def ho(P:US):Hv ck top (Ft top (gg P) ms) ms=b5:=by kernel_rfl
end K
open PySem PySem.W PyProof.Rows K
theorem PySem.Challenge.cw_primer_k11_rounds_holds : PySem.Challenge.rw_primer_k11_rounds.Holds := by
 w_on
 refine holds_law hs λz => ?_;refine holds_open hl hk.of hk.keeps (λs e => xl_of s (Fg.mp e).1) XL.keeps rfl rfl rfl (λs e => recFacts_of (Fg.mp e).2) rfl z (by kernel_rfl) ⟨rfl, rfl, rfl, rfl, rfl, by decide +kernel⟩ ?hw ?a
 (case hw => w_witness2)
 exact TM.walk2 (l := PySem.Challenge.rw_primer_k11_rounds) (Pg := prog) (ck := ck) (dp := 5) (x := "_law_script") (m := ml) rfl rfl ⟨rfl, by decide, by decide, rfl⟩ rfl (by decide +kernel) rfl (L6.mpr ⟨17, rfl⟩) rfl rfl ho K.pure
