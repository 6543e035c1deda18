import PyProof.Rows.All
import Wide.All
import OpenK.AllK
import Wide.FinOn
import Lean
import PyProof.EqAt
import PyProof.EqKinds
import PyProof.TupleCall
import PyProof.StrLawsChain
import PyProof.StrLawsFirst
import PyProof.Rows.StrNews2
import OpenK.AllK
import PySem.SetOps
import PyProof.MeetsStr2
import PyProof.ReprBulk
import PySem.Challenge.RW_primer_k05_shown_and_read
set_option Elab.async false
set_option linter.all false
set_option bootstrap.genMatcherCode false
set_option maxRecDepth 100000
set_option maxHeartbeats 4000000
set_option genInjectivity false
set_option genSizeOf false
set_option autoImplicit true
set_option relaxedAutoImplicit true
open Option renaming some->a5,none->b6,map_eq_some_iff->eH,bind_eq_some_iff->nC,isSome_map->Ko,map_eq_none_iff->K5,map_some->Nn,isNone_iff_eq_none->NO,isSome_iff_exists->NS,isSome_some->Ow,getD_some->OQ,getD_none->OR
open PySem renaming wpAny_bind->b4,wpAny_pure->c4,sizeLine->df,Value->eh,wpAny->gi,Shared->gs,Addr->hA,model->ko,starEach->mu,Expr->ri,wpAny_setState_of->ti,Program->ve,mainGlobals->w',cLine->y0,World->y1,wpAny_holding->z8,rawInt->AQ,codeAny_builtin->BQ,wpAny_mono->B9,sysModules->C8,Heap->DW,isSubtype_type->D4,wpAny_newObj_type->Ei,eval->Ew,SetTable->ED,NameKind->EI,bootBuiltins->Fo,backTo->Fq,wpAny_forIn_list->FD,scanBound->FP,cellsFrom->FQ,wpAny_truthy_bool->FR,ofAClassStatement->FV,foldedSetIterable->FW,compareOp->Gm,Scope->Gn,Around->Gp,wpAny_Call_Name_kw->GG,wpAny_passesOwn->He,Stmt->Hq,call_meets->Hw,wpAny_call_entry->HE,isSubtype->HM,wpAny_specialOf->Ie,Keyword->Iu,typeIs_str->Iy,assignEach->Iz,wpAny_getItem_str_slice->IC,wpAny_setField->IS,wpAny_seqItems->IT,tupleKeyHash->IW,holding->IX,codeAny_mono->I_,call->Ja,wpAny_rule->Jv,wpAny_isInstance->JA,Builtin->JJ,sliceBounds->JY,keywordEach->J1,binaryOp->J2,pyNext->Kl,JoinOk->Kn,codeAny->Kw,swapsWith->Kx,pushCells->Ky,wpAny_storeSet_of->K',wpAny_pyIter_list->La,fits_of_scanBound->Lm,swapsWithSole->Lx,plainId_quiet->Ly,attributeBase->LJ,assign->LK,FuncData->LV,wpAny_typeOf->MA,relabel->ME,callerA->MF,builtinsNs->MK,wpAny_updateSeq->MR,post_val_or_str->MS,letOwnedTupleGo->MT,call_isinstance->MU,isSubtype_tuple_tuple->MV,builtinLookup_eq_fast->MW,wpAny_runValue->M6,reprText->M7,pyIter->M8,backToKw->M9,notedBy->Nc,atKey->Nl,wpAny_tupleItemsOf->Nt,tupleKind_room_in1->Nu,IsTupleKey->Nv,setNext->NB,setField->NC,setAddHashed->ND,searchCouldBeSeen->NF,compEnvC->NH,wpAny_askSetting->NU,tupleKind->NV,pickOrder->NW,PassesOwn->NZ,wpAny_execs_nil->N7,typeLookup_type->N8,pushCells_keeps->N9,codeAny_of_tree->N_,valueAt->Od,typeIs_int->Oh,relayAll->Oi,newFunctionEnv->Oj,wpAny_standAt->Oz,wpAny_comprehension_free->OA,swappedStores->OB,behindInMarks->OC,strValues->OM,eqIsQuiet->ON,bindL->OO,bindC->OP,wpAny_Call_method_late->OV,standAt->OW,setNextDrawn->OX,setItem->OY,collect->OZ,PyData->O3,Params->O4,BindsTo->O6,weight_type_call_type->Pd,wpAny_of_eq->Pt,unsupported->Pu,step->Pw,seqIndex_of->Px,raiseNew->Py,hashByValue->Pz,codeAny_call_builtin->PB,GenState->PC,wpAny_setEntries_of->PU,wpAny_setItem_heap->P1,wpAny_pyIter_tuple->P2,wpAny_load->P4,wpAny_call->P5,wpAny_Name->P6,isInstance->P7,wpAny_pyIter_slot->Qc,wpAny_assign_Name->Qd,spliced->Qe,slot_list_getitem->Qf,newList->Qg,eqIsQuiet_byValue->Qh,wpAny_Dict_empty->Qp,check_set_init_1->Qq,typeOf->QL,truthy->QM,setAddHashedIn->QN,setAdd->QO,rule->QP,recursionLimit->QQ,numbered_texts->QR,newExc->QS,firstArgMember->QT,entryFor_alias->QU,entryFor->QV,carriedByValue->QW,bindArgs->QX,argsOk->QY,again->QZ,WalksS->Q0,Result->Q1
open Bool renaming true->b5,false->cb,and_eq_true->dV,false_eq_true->k9,false_ne_true->mA,not_true->w6,and_eq_true_iff->Bl,not_eq_true'->CG,eq_iff_iff->HW,or_eq_true->Ju,not_false->Kk,and_false->Mx,and_self->N5,eq_false_iff->Pc,false_and->P0,true_and->P',or_false->Qa,and_true->Qb
open PySem.Heap renaming get?_push_of_some->ea,get?_push_size->g0,lt_size->hY,get?_update_self->vr,SameBut->A6,get?_update_other->Iv,get?_update_ne->JG,size_push->Mj
open List renaming length_map->ek,mem_cons_of_mem->eu,mem_cons->fx,mem_cons_self->gm,replicate->g5,range->hQ,size_toArray->i5,map_cons->kT,length_cons->k4,mem_map->lg,getElem?_eq_some_iff->l2,length_append->mh,getElem?_set_self->my,getElem?_map->nc,map_map->nt,mem_append->oa,lookup_cons->oT,getElem?_set_ne->pa,mem_append_right->pj,mem_singleton->ro,length_take->rr,getElem?_append_right->sx,getElem?_append_left->tr,filterMap_cons_some->tA,nil_append->uv,all_eq_true->va,mem_range->w4,map_append->Ba,nodup_cons->CZ,filterMap_cons_none->DJ,mem_of_getElem?->DN,append_nil->DY,replicate_succ->Eh,take_of_length_le->Em,getElem?_drop->EO,nodup_append->FG,mem_iff_getElem->FH,flatten_cons->FJ,filterMap_cons->FZ,length_drop->F0,isEmpty_iff->F2,getElem?_replicate->F3,length->Ge,foldl_cons->GA,find?_cons->GF,length_range->G7,append_assoc->Ha,mem_append_left->Ho,getElem?_eq_getElem->HC,mem_filter->HQ,zip_cons_cons->H8,pairwise_cons->Ic,range_succ_eq_map->Iw,length_singleton->ID,length_replicate->IE,getElem_mem->IF,mem_of_mem_take->Jl,eq_nil_of_length_eq_zero->Jm,length_nil->Jr,map_congr_left->JH,getElem_of_mem->JI,map_nil->JT,drop_eq_getElem_cons->Kr,getElem?_cons_succ->K6,filter_eq_nil_iff->Ln,take_append_drop->LQ,nodup_nil->Ms,mem_of_mem_drop->Mu,any_cons->MY,mem_filterMap->M5,perm_middle->Np,not_mem_nil->Nq,cons_ne_nil->Nr,of_mem_zip->Nz,drop_left'->NA,perm_append_singleton->NT,pairwise_iff_getElem->N0,length_erase_of_mem->N3,getElem?_take_of_lt->N4,length_eq_zero_iff->Ob,length_pos_of_mem->Og,pairwise_append->Ox,mem_erase_of_ne->Oy,getElem?_range->OK,foldl->OS,take_sublist->O',take_add_one->Pa,foldl_append->Pb,nodup_range->Pm,filter_cons->Pn,ext_getElem->Po,drop_length->Pp,cons_append->Pq,any_eq_true->Pr,length_set->PN,filter_map->PQ,map->PY,sum_cons->P9,findIdx?->P_,map_id->Qz
open Decidable renaming decide->et
open Array renaming length_toList->i4,getElem?_eq_some_iff->l',getD_eq_getD_getElem?->wh,getElem?_eq_getElem->y3,getElem?_toList->Fj,forIn_toList->Gh,replicate->Lw,toList_append->MQ,size_append->Nb,toList_inj->Nk,toList->Oc,toList_push->OU
open Nat renaming le_refl->ke,lt_of_lt_of_le->lx,ne_of_lt->l1,zero_le->pb,le_trans->y2,lt_irrefl->AY,ne_of_gt->Er,le_of_lt->FO,le_of_lt_succ->Hb,lt_succ_self->Ji,mod_lt->Kp,lt_succ_of_lt->Kz,le_succ->KH,lt_trans->LN,zero_add->Ni,le_of_eq->Nj,add_sub_cancel_left->Of,succ_pos->Om,pos_of_ne_zero->O9,add_right_comm->O_,lt_trichotomy->Pk,not_lt_of_lt->PL,le_add_right->PM,succ_mul->Qx,mul_comm->Qy,log2_lt->QJ
open PySem.SetTable renaming below->mx,insertAt->C9,grown->H4,turns->Kb,layClean->LS,sizeAbove->Mh,tooFull->M0,relaid->Nd,Probe->Nm,runEnd->NX,bits->NY,orStandIn->Oe,laid->Ol,leap->OG,fits->O1
open PySem.Txt renaming partition->qs,join->AV,split->DX,endswith->Qr
open PySem.Value renaming ref->rd,str->vl,type->wk,none->CA,isStrOf->Gu,bool->Ka,int->O0,isInt->Qj
open Option.some renaming inj->tj,injEq->Q5
open PyProof.Rows.F renaming plain_set_update_loop->tx,entry_set_update_loop->Dl
open PySem.Builtin.Str renaming occurrences->uk,partsBetween->Hf,strKind->NP,glued->N2
open PySem.Obj renaming mapSeq->vu,putSet->D5,data_mapFields->Km,isFreed_of_fields->Ot,cls_mapFields->Ph,mapFields->Qk
open PySem.Builtin.Tuple renaming tupleHashOf->BX,tupleItemsOf->Qt
open PySem.Builtin.List renaming listTooLong->CW,listExtendWith->F5,listSameRef->Nf,listLengthHint->QE,listFitsIndex->QF
open PySem.Heap.SameBut renaming update->DD,refl->LP
open PySem.Around renaming under_plainId->DI,under_plain->Ov
open Sum renaming inr->DM,inl->Ng
open PySem.NameKind renaming free->Ea,cell->Ed
open Ne renaming symm->Eu
open PySem.Str renaming empty->EA,length->LL,join->OF,ofString->Qs
open Classical renaming byContradiction->EJ
open PyProof.Rows renaming callWith_type1->F_,size_push'->Hx,seqObj->IA,StrsAre->JS,callWith_builtin1->Mk,AllBare->MP,envOfC->M',subscriptTail->OJ,subscriptTail_builtinR->O7,IntsAre->O8,wpAny_notIn_heap->Qv,slot_str_getitem->Qw,joinOk_of->QG,call_isinstance_yes->QH,isTrue_and_nil->Q4
open LT renaming lt->Hm
open False renaming elim->Hn
open PySem.AutoSeq1 renaming wpAny_loadPart'->Hr,sub_tuple_tuple->Ny,sub_tuple_list->NK,sub_list_tuple->NM,sub_list_list->NQ,idx_int->Ou
open ForInStep renaming yield->Ht
open PySem.Shared renaming TypeIs->Hv
open PySem.PyData renaming leavesShort->Hy,shown_fits_bulk->K1,showable->K8,bulk->LO,depth->M3,leavesShortAll->Oa,showableAll->Oq,hasDictAll->OI,depthAll->O2,hasDict->Pe,bulkAll->Pf
open Int renaming toNat_natCast->IB,toNat_of_nonneg->JU,emod_lt_of_pos->Kq,eq_ofNat_of_zero_le->K_,emod_nonneg->LR,zero_add->Oo,natCast_add->PZ
open PySem.Calls renaming evalArgs_plain->Jd,callWith_builtin->K9,spliced_cons->MX,spliced_nil->M_,Name_function_global->NJ
open PySem.SetTable.below renaming go->Ke
open PySem.SetTable.layClean renaming free->Kj
open PySem.SetTable.probe renaming go->KI
open PySem.SeqAt renaming EqAt->K7,ne_of_list_tuple->N',RcAt->OH,RcNeAt->P8
open PySem.Builtin.Frozenset renaming updateFrom->LM,slot0->PF,sizeOf->PH,newClass->PJ,addrOf->PK
open Prod renaming ext->Ml,fst->NR
open True renaming intro->MZ
open PySem.Code renaming quiet_builtin->M4
open List.cons renaming injEq->Na
open PySem.F renaming args_str_split_2->Nh,entry_str_split->Nw,slot_str_split->NI,args_list_extend_2->O5,entry_list_extend->Pj,slot_list_extend->PD,slot_int_rmul->Qn
open PySem.pickOrder renaming go->NG
open PySem.StrLaws renaming glued_eq_join->N1,strSub_toList->OE
open Sum.inr renaming inj->N6
open PySem.Walks renaming list->OD
open List.Perm renaming swap->OL
open LawfulBEq renaming eq_of_beq->OT
open LE renaming le->PR
open PyProof.Rows.LSm renaming range_all->PV,kept_iter->PX
open PySem.W.WShape renaming has->Qi
open PySem.Moved renaming trans->Ql
open PySem.Heap.IsSliceOf renaming new->Qm
open ForIn renaming forIn->Qo
open PySem.Builtin.Range renaming rangeSize->Qu
open List.Pairwise renaming sublist->QA,nil->QB
open PySem.W.WData renaming int->QC
open PySem.Heap.DictOfH renaming new->QD
open PyProof.Rows.IsTup renaming new->QI
open ToString renaming toString->QK
open PySem.Heap.DictOf renaming new->Q2
open PySem.Data renaming cell->Q3
abbrev Q6:=@decide_eq_true_eq
abbrev Q7:=@decide_eq_false
abbrev Q8:=@if_pos
abbrev Q9:=@if_neg
abbrev Q_:=@decide_eq_true
abbrev Ra:=@if_false
abbrev Rb:=@congrArg
abbrev Rc:=@of_decide_eq_true
local macro_rules|`(def $a:declId $b* : $t :=$v)=>`(theorem $a:declId $b* : $t :=$v)
local macro_rules|`(abbrev $a:declId $b:optDeclSig $c:declVal)=>`(noncomputable def $a:declId $b:optDeclSig $c:declVal)
local macro_rules|`(tactic|show $t)=>`(tactic|refine $t)
local macro_rules|`(tactic|have⟨$a,*⟩:=$t)=>do let p<-a.getElems.mapM fun x=>`(Lean.Parser.Tactic.rcasesPatLo|$(⟨x⟩):ident);`(tactic|obtain⟨$p,*⟩:=$t)
local macro_rules|`(⋯)=>`(by lia)
namespace L2
open PySem PySem.Spec PyProof.Rows
@[reducible]def Key:=Sum Int Str
abbrev jo:Key->eh->Bool
 |.inl k,v=>Qj k v
 |.inr x,v=>Gu x v
abbrev zW(w:y1):Key->Int
 |.inl k=>hashInt k
 |.inr x=>hashStr w x
theorem aO:∀{k:Key}{v:eh},jo k v=b5->(∃i t,k=Ng i/\v=O0 i t)\/(∃x t,k=DM x/\v=vl x t)
 |.inl i,v,h=>by
  have⟨t,e⟩:=Value.isInt_shape (k:=i) (v:=v) h;show .inl ⟨i,t,rfl,e⟩
 |.inr x,v,h=>by
  have⟨t,e⟩:=Value.isStrOf_shape (x:=x) (v:=v) h;show .inr ⟨x,t,rfl,e⟩
def p5(i:Int)(t:Tok):jo (.inl i) (.int i t)=b5:=by simp[jo,Qj]
def p6(x:Str)(t:Tok):jo (.inr x) (.str x t)=b5:=by simp[jo,Gu]
def wy(a b:Int):et ((Ng a:Key)=Ng b)=(a==b):=by
 by_cases e:a=b
 .subst e;simp
 .have h:¬(Ng a:Key)=Ng b:=λq=>e (Sum.inl.inj q);rw[Q7 h];show(beq_eq_false_iff_ne.mpr e).symm
def wz(a b:Str):et ((DM a:Key)=DM b)=et (a=b):=by
 by_cases e:a=b
 .subst e;simp
 .have h:¬(DM a:Key)=DM b:=λq=>e (N6 q);rw[Q7 h,Q7 e]
def wA(a:Int)(b:Str):et ((Ng a:Key)=DM b)=cb:=Q7 (λq=>nomatch q)
def wB(a:Str)(b:Int):et ((DM a:Key)=Ng b)=cb:=Q7 (λq=>nomatch q)
abbrev bb(prog:ve)(w:y1):PySem.KeyKind prog w Key where
 is:=jo
 hash:=zW w
 inj:=λv a b g f=>by
  rcases aO g with⟨i,t,rfl,rfl⟩|⟨x,t,rfl,rfl⟩
  .rcases aO f with⟨j,u,rfl,e⟩|⟨y,u,rfl,e⟩
   .injection e with c _;rw[c]
   .show nomatch e
  .rcases aO f with⟨j,u,rfl,e⟩|⟨y,u,rfl,e⟩
   .show nomatch e
   .injection e with c _;rw[c]
 byValue:=λk v h=>by
  rcases aO h with⟨i,t,rfl,rfl⟩|⟨x,t,rfl,rfl⟩<;>rfl
 pyHash:=λd h=>by
  rcases aO d with⟨i,t,rfl,rfl⟩|⟨x,t,rfl,rfl⟩
  .show wpAny_pyHash_int h
  .show wpAny_pyHash_str h
 eqBool:=λl d h=>by
  rcases aO l with⟨i,t,rfl,rfl⟩|⟨x,t,rfl,rfl⟩
  .rcases aO d with⟨j,u,rfl,rfl⟩|⟨y,u,rfl,rfl⟩
   .rw[wy]at h;show wpAny_eqBool_int h
   .rw[wA]at h;show SeqAt.EqAt.int_str i t y u _ _ _ _ h
  .rcases aO d with⟨j,u,rfl,rfl⟩|⟨y,u,rfl,rfl⟩
   .rw[wB]at h;show SeqAt.EqAt.str_int x t j u _ _ _ _ h
   .rw[wz]at h;show wpAny_eqBool_str h
 «strs»:=λk x t v h=>by
  rcases aO h with⟨i,u,rfl,e⟩|⟨y,u,rfl,e⟩
  .show nomatch e
  .injection e with c _
   subst c;cases v<;>rfl
def lr(prog:ve)(w:y1)(i:Int)(t:Tok):(bb prog w).is (.inl i) (.int i t)=b5:=p5 i t
def lu(prog:ve)(w:y1)(x:Str)(t:Tok):(bb prog w).is (.inr x) (.str x t)=b5:=p6 x t
inductive V where
 |AM|bl (b:Bool)|int (i:Int)|str (x:Str)|Gv (b:Array UInt8)|Gw (b:UInt64)|ref (a:hA)|ty (n:String)
 deriving DecidableEq
def RelV:V->eh->Prop
 |.AM,u=>u=CA
 |.bl b,u=>u=Ka b
 |.int i,u=>∃t,u=O0 i t
 |.str x,u=>∃t,u=vl x t
 |.Gv b,u=>∃t,u=Value.bytes b t
 |.Gw b,u=>∃t,u=Value.float b t
 |.ref a,u=>u=rd a
 |.ty n,u=>u=wk n
@[reducible]def Vals:List V->List eh->Prop:=Paired RelV
def Vals.length(r:Vals xs us):xs.length=us.length:=Paired.length r
theorem Vals.get:∀{xs:List V}{us:List eh}{i:Nat}{x:V},Vals xs us->xs[i]?=a5 x->∃u,us[i]?=a5 u/\RelV x u
 |_,_,_,_,.nil,e=>by simp at e
 |_,_,0,_,.cons r _,e=>by simp at e;subst e;show⟨_,rfl,r⟩
 |_,_,i+1,x,.cons _ t,e=>by
  have⟨u,a,b⟩:=Vals.get (i:=i) (x:=x) t (by simpa using e);show⟨u,by simpa using a,b⟩
theorem Vals.set(r:RelV x u):∀{xs:List V}{us:List eh} (i:Nat),Vals xs us->Vals (xs.set i x) (us.set i u)
 |_,_,_,.nil=>.nil
 |_,_,0,.cons _ t=>.cons r t
 |_,_,i+1,.cons q t=>.cons q (Vals.set r i t)
theorem Vals.append:∀{xs a:List V}{us ws:List eh},Vals xs us->Vals a ws->Vals (xs++a) (us++ws)
 |_,_,_,_,.nil,s=>s
 |_,_,_,_,.cons r t,s=>.cons r (Vals.append t s)
theorem Vals.take:∀{xs:List V}{us:List eh} (n:Nat),Vals xs us->Vals (xs.take n) (us.take n)
 |_,_,0,_=>.nil
 |_,_,_+1,.nil=>.nil
 |_,_,n+1,.cons r t=>.cons r (Vals.take n t)
theorem Vals.drop:∀{xs:List V}{us:List eh} (n:Nat),Vals xs us->Vals (xs.drop n) (us.drop n)
 |_,_,0,r=>r
 |_,_,_+1,.nil=>.nil
 |_,_,n+1,.cons _ t=>Vals.drop n t
def p7:Option V->Option eh->Prop
 |some v,a5 u=>RelV v u
 |none,b6=>True
 |_,_=>False
abbrev KV{κ:Type}:List (κ×V)->List (κ×eh)->Prop:=Paired λ(p:κ×V) (q:κ×eh)=>p.1=q.1/\RelV p.2 q.2
abbrev kV:Key->V
 |.inl i=>.int i
 |.inr x=>.str x
inductive HO where
 |lst (xs:List V)
 |tup (xs:List V)
 |dK (AF:List (Key×V))|dT (AF:List (List Key×V))
 |set (S:Int->Bool) (n:Nat)
 |ins (C dx:hA) (fs:List (Str×V))
 |own (x:hA)
 |xd (fs:List (Str×V))
 |met (f x:hA)
 |G6 (lo hi:Int)
 |Cq (o:Obj) (u:HO)
 |D' (ps:Array eh)
 |ext (φ:DW->Prop)
@[reducible]def Hp:=hA->Option HO
abbrev upd(H:Hp)(a:hA)(o:HO):Hp:=λb=>if b=a then a5 o else H b
def aC:upd H a o a=a5 o:=by unfold upd;rw[Q8 rfl]
def az(h:b≠a):upd H a o b=H b:=by unfold upd;rw[Q9 h]
def qZ{H:Hp}(h:H a=a5 o)(h':H b=a5 u)(d:o≠u):a≠b:=by
 intro e;subst e;rw[h]at h';show d (tj h')
def aQ{H:Hp}(h:H a=a5 o)(h':H b=b6):a≠b:=by
 intro e;subst e;rw[h]at h';cases h'
section
variable(P:ve)(w:y1)
def bt(H:Hp)(h:DW)(a:hA):HO->Prop
 |.lst xs=>xs.length<=df/\∃(c:List eh) (n:Nat),Vals xs c/\h.get? a=a5 {cls:=.type "list",data:=.seq c.toArray n}
 |.tup xs=>xs.length<=df/\∃c:List eh,Vals xs c/\IsTup h a c.toArray
 |.dK d=>d.length<=df/\(a==C8)=cb/\∃i,KV d i/\h.DictOf (bb P w) a i
 |.dT d=>d.length<=df/\(a==C8)=cb/\∃xs:List (List Key×hA×eh),
   Paired (λ(p:List Key×V) (q:List Key×hA×eh)=>p.1=q.1/\H q.2.1=a5 (.tup (p.1.map kV))/\RelV p.2 q.2.2) d xs /\
   ∃o es ep,h.get? a=a5 o/\o.ExactDict/\o.data=.dict es ep/\es.toList=xs.map (entryOfKey (NV (bb P w)))/\(xs.map (·.1)).Nodup
 |.set S n=>h.SetOf (intKind P w) a S n
 |.ins C g e=>H g=a5 (.own a)/\e.length<=1000/\g≠a/\h.get? a=a5 (PySem.W.instObj C g) /\
   ∃b,h.Ns1 g b/\(∀f,p7 (e.lookup f) (b f))/\PySem.Within b (e.map (·.1))
 |.own _=>∃o,h.get? a=a5 o
 |.xd e=>∃b,h.Ns1 a b/\∀f,p7 (e.lookup f) (b f)
 |.G6 lo l=>∃t u v,h.get? a=a5 {cls:=.type "range",data:=.fields #[.int lo t,.int l u,.int 1 v]}
 |.Cq o u=>h.get? a=a5 o/\bt H h a u
 |.D' m=>h.get? a=a5 {cls:=.none,data:=.fields m}
 |.met f x=>h.get? a=a5 (PySem.W.methodObj (.ref f) (.ref x))
 |.ext φ=>φ h/\(∃o,h.get? a=a5 o)/\∀j k:DW,φ j->(∀o,j.get? a=a5 o->k.get? a=a5 o)->φ k
abbrev Bh(H:Hp)(h:DW):Prop:=∀a o,H a=a5 o->bt P w H h a o
end
section
def bt.lt(x:bt P w H h a o):a<h.objs.size:=by
 cases o with
 |lst xs=>obtain⟨_,_,_,_,e⟩:=x;show hY e
 |tup xs=>obtain⟨_,_,_,p⟩:=x;show p.lt
 |set S n=>obtain⟨o,_,_,_,e,_⟩:=x;show hY e
 |ins C c b=>obtain⟨_,_,_,e,_⟩:=x;show hY e
 |own y=>obtain⟨_,e⟩:=x;show hY e
 |xd b=>obtain⟨_,⟨_,_,_,e,_⟩,_⟩:=x;show hY e
 |G6 lo d=>obtain⟨_,_,_,e⟩:=x;show hY e
 |Cq g u=>obtain⟨e,_⟩:=x;show hY e
 |D' i=>show hY (show h.get? a=a5 _ from x)
 |met f y=>show hY (show h.get? a=a5 _ from x)
 |ext φ=>obtain⟨_,⟨_,e⟩,_⟩:=x;show hY e
 |_=>obtain⟨_,_,_,_,o,_,_,e,_⟩:=x;show hY e
theorem Paired.wC:∀{c:List α}{d:List β},Paired F c d->(∀a b,F a b->G a b)->Paired G c d
 |_,_,.nil,_=>.nil
 |_,_,.cons r t,f=>.cons (f _ _ r) (Paired.wC t f)
def bt.p8(x:bt P w H h a o)(k:∀b u,(b=a\/H b=a5 (.own a))->h.get? b=a5 u->h'.get? b=a5 u)
  (ho:∀b,H b=a5 (.own a)->H' b=a5 (.own a)) (s:∀b xs,H b=a5 (.tup xs)->H' b=a5 (.tup xs)):bt P w H' h' a o:=by
 induction o with
 |lst xs=>have⟨z,i,n,r,e⟩:=x;show⟨z,i,n,r,k _ _ (.inl rfl) e⟩
 |tup xs=>have⟨z,i,r,g,e,c⟩:=x;show⟨z,i,r,g,k _ _ (.inl rfl) e,c⟩
 |dK A=>have⟨z,y,B,r,g,es,ep,e,c⟩:=x;show⟨z,y,B,r,g,es,ep,k _ _ (.inl rfl) e,c⟩
 |dT A =>
  have⟨z,y,xs,r,g,es,ep,e,c⟩:=x;show⟨z,y,xs,Paired.wC r λp q z=>⟨z.1,s _ _ z.2.1,z.2.2⟩,g,es,ep,k _ _ (.inl rfl) e,c⟩
 |set S n=>have⟨g,es,ep,t,e,c⟩:=x;show⟨g,es,ep,t,k _ _ (.inl rfl) e,c⟩
 |ins C L D =>
  obtain⟨d,z,G,e,j,⟨l,es,ep,I,c⟩,r⟩:=x;show⟨ho _ d,z,G,k _ _ (.inl rfl) e,j,⟨l,es,ep,k _ _ (.inr d) I,c⟩,r⟩
 |own y=>have⟨g,e⟩:=x;show⟨g,k _ _ (.inl rfl) e⟩
 |xd D=>obtain⟨j,⟨l,es,ep,e,c⟩,r⟩:=x;show⟨j,⟨l,es,ep,k _ _ (.inl rfl) e,c⟩,r⟩
 |G6 lo N=>have⟨t,u,v,e⟩:=x;show⟨t,u,v,k _ _ (.inl rfl) e⟩
 |Cq g u J=>have⟨e,q⟩:=x;show⟨k _ _ (.inl rfl) e,J q⟩
 |D' m =>
  have e:h.get? a=a5 {cls:=.none,data:=.fields m}:=x;change h'.get? a=a5 {cls:=.none,data:=.fields m};show k a _ (.inl rfl) e
 |met f y =>
  have e:h.get? a=a5 (PySem.W.methodObj (.ref f) (.ref y)):=x;change h'.get? a=a5 (PySem.W.methodObj (.ref f) (.ref y));show k a _ (.inl rfl) e
 |ext φ=>obtain⟨p,⟨o,e⟩,st⟩:=x;show⟨st _ _ p λo q=>k _ _ (.inl rfl) q,⟨o,k _ _ (.inl rfl) e⟩,st⟩
def Bh.lt(x:Bh P w H h)(e:H a=a5 o):a<h.objs.size:=(x a o e).lt
def Bh.fresh(x:Bh P w H h)(e:h.objs.size<=a):H a=b6:=by
 cases q:H a with
 |none=>rfl
 |some u=>show absurd (lx (x.lt q) e) (AY _)
def Bh.kept(x:Bh P w H h)(k:∀b u,h.get? b=a5 u->h'.get? b=a5 u):Bh P w H h':=λa o e =>
 (x a o e).p8 (λb u _ q=>k b u q) (λ_ q=>q) λ_ _ q=>q
def Bh.laid(x:Bh P w H h)(k:∀b u,h.get? b=a5 u->h'.get? b=a5 u)(g:h.objs.size<=a)(new:bt P w (upd H a o) h' a o):Bh P w (upd H a o) h':=λb u e=>by
 have d:=x.fresh g;by_cases f:b=a
 .subst f;rw[aC]at e;cases e;show new
 .rw[az f]at e;show(x b u e).p8 (λc v _ q=>k c v q) (λc q=>by rw[az (aQ q d)];show q) λc xs q=>by rw[az (aQ q d)];show q
end
abbrev Rd(H:Hp)(a:hA)(u:HO):Prop:=H a=a5 u\/∃o,H a=a5 (.Cq o u)
def Rd.ok(r:Rd H a u)(x:Bh P w H h):bt P w H h a u:=by
 rcases r with r|⟨o,r⟩
 .show x a u r
 .obtain⟨_,q⟩:=x a _ r;show q
def Fm:Option HO->Prop
 |some (.lst _)=>True
 |some (.dK _)=>True
 |some (.dT _)=>True
 |some (.set _ _)=>True
 |some (.ins _ _ _)=>True
 |some (.ext _)=>True
 |_=>False
section
def Bh.write(ok:Bh P w H h)(a:Fm (H x))(g:e=x\/H e=a5 (.own x))(k:∀b u,b≠e->h.get? b=a5 u->h'.get? b=a5 u)(m:∃u,h'.get? e=a5 u)
  (new:bt P w (upd H x i) h' x i):Bh P w (upd H x i) h':=λb u q=>by
 have j:∀c y,H c=a5 (.own y)->c≠x:=λc y r z=>by subst z;rw[r]at a;show a
 have n:∀c xs,H c=a5 (.tup xs)->c≠x:=λc xs r z=>by subst z;rw[r]at a;show a
 by_cases d:b=x
 .subst d;rw[aC]at q;cases q;show new
 .rw[az d]at q;by_cases f:b=e
  .have l:H b=a5 (.own x):=by
    rcases g with z|z
    .show absurd (f.trans z) d
    .rw[f];show z
   rw[q]at l;cases l;have⟨v,o⟩:=m;show⟨v,by rw[f];show o⟩
  .show(ok b u q).p8 (λc v hc r=>k c v ?_ r) (λc r=>by rw[az (j c b r)];show r) λc xs r=>by rw[az (n c xs r)];show r
   rcases hc with rfl|hc
   .show f
   .rintro rfl;rcases g with z|z
    .show j c b hc z
    .rw[hc]at z;cases z;show d rfl
end
structure Un(fs ex:List hA)(H H':Hp)(h h':DW):Prop where
 keep:∀b o,h.get? b=a5 o->H b=b6->b∉fs->b∉ex->h'.get? b=a5 o
 slot:∀b o,h.get? b=a5 o->H b=b6->b∈fs->b∉ex->∃sl,h'.get? b=a5 {o with slots:=sl}
 free:∀b o,h.get? b=a5 o->H b=b6->b∉ex->H' b=b6
 there:∀b o,h.get? b=a5 o->b∉ex->∃o',h'.get? b=a5 o'
 BJ:∀b xs,H b=a5 (.tup xs)->H' b=a5 (.tup xs)
 BC:∀b o u,H b=a5 (.Cq o u)->H' b=a5 (.Cq o u)
 BK:∀b ps,H b=a5 (.D' ps)->∃more,H' b=a5 (.D' (ps++more))
section
def Un.any(u:Un e ex H i h f)(q:h.get? b=a5 a)(n:H b=b6)(c:b∉ex):∃g,f.get? b=a5 {a with slots:=g}:=by
 by_cases d:b∈e
 .show u.slot b a q n d c
 .show⟨a.slots,u.keep b a q n d c⟩
def Un.kept(k:∀b u,h.get? b=a5 u->h'.get? b=a5 u):Un c ex H H h h' :=
 ⟨λb a q _ _ _=>k b a q,λb a q _ _ _=>⟨a.slots,k b a q⟩,λ_ _ _ n _=>n,λb a q _=>⟨a,k b a q⟩,λ_ _ q=>q,λ_ _ _ q=>q,λ_ d q=>⟨#[],by rw[q];simp⟩⟩
def Un.refl:Un a ex H H h h:=Un.kept λ_ _ q=>q
def Un.laid(k:∀b u,h.get? b=a5 u->h'.get? b=a5 u)(d:h.objs.size<=a)(c:H a=b6):Un e ex H (upd H a o) h h' where
 keep:=λb u q _ _ _=>k b u q
 slot:=λb u q _ _ _=>⟨u.slots,k b u q⟩
 free:=λb u q n _=>by rw[az (l1 (lx (hY q) d))];show n
 there:=λb u q _=>⟨u,k b u q⟩
 BJ:=λb xs q=>by rw[az (aQ q c)];show q
 BC:=λb u xs q=>by rw[az (aQ q c)];show q
 BK:=λb f q=>⟨#[],by rw[az (aQ q c),q];simp⟩
def Un.write(a:Fm (H x))(i:e=x\/H e=a5 (.own x))(k:∀b u,b≠e->h.get? b=a5 u->h'.get? b=a5 u)(j:∃u,h'.get? e=a5 u):Un m ex H (upd H x o) h h':=by
 have d:∀b,H b=b6->b≠x:=λb n z=>by subst z;rw[n]at a;show a
 have f:∀b,H b=b6->b≠e:=λb n z=>by
  subst z;rcases i with r|r
  .show d b n r
  .rw[n]at r;cases r
 have c:∀b u,H b=a5 u->¬Fm (a5 u)->b≠x:=λb u q l z=>by subst z;rw[q]at a;show l a
 show⟨λb u q n _ _=>k b u (f b n) q,λb u q n _ _=>⟨u.slots,k b u (f b n) q⟩,λb u q n _=>by rw[az (d b n)];show n,λb u q _=>?_,
  λb xs q=>by rw[az (c b _ q λz=>z)];show q,λb u xs q=>by rw[az (c b _ q λz=>z)];show q,λb p q=>⟨#[],by rw[az (c b _ q λz=>z),q];simp⟩⟩
 by_cases g:b=e
 .subst g;show j
 .show⟨u,k b u g q⟩
end
abbrev Gy(h:DW)(H:Hp):List hA:=(hQ h.objs.size).filter λa=>(H a).isSome
abbrev jS(h:DW)(H:Hp):DW:=PySem.W.hideAll h (Gy h H)
def p9(h:DW)(H:Hp):(jS h H).objs.size=h.objs.size:=PySem.W.hideAll_size _ _
def q9(e:h.get? b=a5 o)(n:H b=b6):(jS h H).get? b=a5 o :=
 PySem.W.hideAll_get _ e λa=>by
  have q:(H b).isSome=b5:=(HQ.mp a).2;rw[n]at q;simp at q
def t8(e:(jS h H).get? b=a5 o):h.get? b=a5 o/\H b=b6:=by
 have a:h.get? b=a5 o:=PySem.W.of_hideAll (Gy h H) e;show⟨a,?_⟩;cases q:H b with
 |none=>rfl
 |some x =>
  have c:b∈Gy h H:=HQ.mpr ⟨w4.mpr (hY a),by simp[q]⟩;have z:(jS h H).get? b=b6:=PySem.W.hideAll_none (Gy h H) c;rw[z]at e;cases e
structure Mod(K:PySem.W.Frag)(mg:Str->Option eh)(base:DW):Prop where
 G8:K.In base
 glob:base.Ns w' mg
 blt:∃mb,base.Ns MK mb/\∀x:Str,x≠"__name__"->mb x=Fo x
 nolimit:base.NoLimit
structure Cx where
 prog:ve
 w:y1
 K:PySem.W.Frag
 mg:Str->Option eh
 base:DW
 A:Gp
 N:List Str
 s₀:gs
 H₀:Hp
 env:Env
 outer:List Env
 stack:List Env
 ex:List hA
 fn:Str->Bool
 calm:Bool
 pn:List (hA×Obj)
 xe:eh->gs->Prop
abbrev Cg(l:List Env):List hA:=l.filterMap (·.frame)
noncomputable abbrev Cx.fs(X:Cx):List hA:=Cg X.outer
abbrev Eb(a:Gn)(x:Str):Prop:=a.names.lookup x=a5 .local\/a.names.lookup x=a5 .cell\/a.names.lookup x=a5 .free
abbrev Loc(a:Gn)(x:Str):Prop:=a.names.lookup x=a5 .local\/a.names.lookup x=a5 .cell
abbrev Look(env:Env)(h:DW)(m:Str->Option eh)(x:Str)(u:eh):Prop :=
 (env.kindOf x=a5 .local/\m x=a5 u)\/((env.kindOf x=a5 .cell\/env.kindOf x=a5 .free)/\∃c,env.cells.lookup x=a5 c/\h.IsCell c (a5 u))
structure Cx.Ok(X:Cx):Prop where
 mod:Mod X.K X.mg X.base
 kind:X.env.scope.kind=.function
 glob:X.env.globals=w'
 blt:X.env.builtins=MK
 above:X.s₀.heap.objs.size<=X.env.locals
 inj:∀x y c,X.env.cells.lookup x=a5 c->X.env.cells.lookup y=a5 c->x=y
 has:∀x,(X.env.kindOf x=a5 .cell\/X.env.kindOf x=a5 .free)->∃c,X.env.cells.lookup x=a5 c
 Fp:∀x c,X.fn x=b5->X.env.cells.lookup x=a5 c->X.s₀.heap.objs.size<=c
 hd:X.calm=b5->X.A.handled=b6
 frames:X.A.frames=a5 X.stack
 Gz:X.stack=X.outer\/(X.stack=X.env::X.outer/\X.env.frame=a5 X.env.locals)
 Jk:∀b∈X.ex,b≠X.env.locals/\∀x c,X.env.cells.lookup x=a5 c->c≠b
 bs:∀b o,X.base.get? b=a5 o->X.s₀.heap.get? b=a5 o/\X.H₀ b=b6
 DK:X.base.objs.size<=X.s₀.heap.objs.size
 CI:∀b o,X.base.get? b=a5 o->b∉X.ex
 Dn:∀b∈X.ex,b∉X.fs
 gO:X.s₀.heap.FunFrames X.base X.outer
 ER:∀b∈X.fs,X.H₀ b=b6
structure Inv(X:Cx)(pins:List (hA×Obj))(σ:List (Option V))(H:Hp)(s:gs):Prop where
 ok:X.Ok
 os:s.os=X.s₀.os
 bare:MP s.gens
 base:Un X.fs X.ex X.H₀ H X.s₀.heap s.heap
 loc:∃m,s.heap.Ns X.env.locals m/\∀(i:Nat) (x:Str) (v:V),X.N[i]?=a5 x->σ[i]?=a5 (a5 v)->Eb X.env.scope x->∃u,RelV v u/\Look X.env s.heap m x u
 cell:∀x c,X.env.cells.lookup x=a5 c->∃v,s.heap.IsCell c v
 free:H X.env.locals=b6
 A8:∀x c,X.env.cells.lookup x=a5 c->H c=b6
 pin:∀p∈X.pn++pins,s.heap.get? p.1=a5 p.2/\H p.1=b6/\p.1≠X.env.locals/\p.1∉X.fs/\∀v,p.2.data≠.cell v
 AJ:Bh X.prog X.w H s.heap
 len:σ.length=X.N.length
section
variable{X:Cx}{pins:List (hA×Obj)}{σ:List (Option V)}{H H':Hp}{s:gs}{h':DW}
def Cx.Ok.zX(ok:X.Ok)(e:X.base.get? b=a5 o):b∉X.fs:=λa=>by
 have:=(ok.gO.mem a).1;rw[e]at this;cases this
def Inv.bs(I:Inv X pins σ H s):∀b o,X.base.get? b=a5 o->s.heap.get? b=a5 o/\H b=b6:=λb o e =>
 ⟨I.base.keep b o (I.ok.bs b o e).1 (I.ok.bs b o e).2 (I.ok.zX e) (I.ok.CI b o e),I.base.free b o (I.ok.bs b o e).1 (I.ok.bs b o e).2 (I.ok.CI b o e)⟩
def Inv.bk(I:Inv X pins σ H s):∀b o,X.base.get? b=a5 o->s.heap.get? b=a5 o:=λb o e=>(I.bs b o e).1
def Inv.mod(I:Inv X pins σ H s):Mod X.K X.mg X.base:=I.ok.mod
def Inv.ES(I:Inv X pins σ H s):X.K.In s.heap:=I.ok.mod.G8.keeps I.bk
def Inv.lt(I:Inv X pins σ H s):X.env.locals<s.heap.objs.size:=let ⟨_,a,_⟩:=I.loc;a.lt
def Inv.sz(I:Inv X pins σ H s):X.s₀.heap.objs.size<=s.heap.objs.size:=y2 I.ok.above (FO I.lt)
def Inv.yw(I:Inv X pins σ H s)(h:s.heap.objs.size<=a):a∉X.fs:=λb=>by
 obtain⟨_,o,ho,_⟩:=I.ok.gO.mem b;show absurd (lx (hY ho) (y2 I.sz h)) (AY _)
def Inv.Ec(I:Inv X pins σ H s):∀x c,X.env.cells.lookup x=a5 c->c≠X.env.locals:=λx c e z=>by
 have⟨v,o,ho,a⟩:=I.cell x c e;obtain⟨m,⟨f,es,ep,b,d,_⟩,_⟩:=I.loc;rw[z,b]at ho;cases ho;rw[d]at a;cases a
def Inv.gO(I:Inv X pins σ H s):s.heap.FunFrames X.base X.outer:=by
 have all:∀(l:List Env),(∀b∈Cg l,b∈X.fs)->X.s₀.heap.FunFrames X.base l->s.heap.FunFrames X.base l:=by
  intro l;induction l with
  |nil=>intro _ _;trivial
  |cons env r f =>
   intro hs hl;obtain⟨hk,⟨L,o,a,g,ho,h⟩,i⟩:=hl;have c:L∈X.fs:=hs L (by unfold Cg;rw[FZ,a];show gm);have⟨j,e⟩:=I.base.slot L o ho (I.ok.ER L c) c λz=>I.ok.Dn L z c;show⟨hk,⟨L,_,a,g,e,h⟩,f (λb d=>hs b (by unfold Cg;rw[FZ,a];show eu _ d)) i⟩
 show all X.outer (λ_ d=>d) I.ok.gO
def Inv.stack(I:Inv X pins σ H s):s.heap.FunFrames X.base X.stack:=by
 rcases I.ok.Gz with e|⟨e,a⟩
 .rw[e];show I.gO
 .rw[e];obtain⟨m,b,_⟩:=I.loc;show .cons (by rw[I.ok.kind];decide) a b ?_ I.gO;show Heap.get?_none_of_le (y2 I.ok.DK I.ok.above)
def Inv.gP(I:Inv X pins σ H s):∀b∈Cg X.stack,b∈X.env.locals::X.fs:=λb a=>by
 rcases I.ok.Gz with e|⟨e,c⟩
 .rw[e]at a;show eu _ a
 .rw[e]at a;unfold Cg at a;rw[FZ,c]at a;show a
def Inv.oz(I:Inv X pins σ H s):∀b∈Cg X.stack,H b=b6:=λb hb=>by
 rcases fx.mp (I.gP b hb) with e|hb
 .rw[e];show I.free
 .obtain⟨_,o,ho,_⟩:=I.ok.gO.mem hb;show I.base.free b o ho (I.ok.ER b hb) λz=>I.ok.Dn b z hb
def Inv.step{ch:List hA}(I:Inv X pins σ H s)
  (j:∀b∈ch,(b∈X.ex\/X.s₀.heap.objs.size<=b)/\b≠X.env.locals/\(∀x c,X.env.cells.lookup x=a5 c->c≠b)/\∀p∈X.pn++pins,p.1≠b)
  (keep:∀b o,b≠X.env.locals->b∉X.fs->b∉ch->s.heap.get? b=a5 o->H b=b6->h'.get? b=a5 o)
  (slot:∀b o,b≠X.env.locals->b∈X.fs->b∉ch->s.heap.get? b=a5 o->H b=b6->∃G,h'.get? b=a5 {o with slots:=G}) (free:∀b o,b∉ch->s.heap.get? b=a5 o->H b=b6->H' b=b6)
  (there:∀b o,b∉ch->s.heap.get? b=a5 o->∃t,h'.get? b=a5 t)
  (BJ:∀b xs,H b=a5 (.tup xs)->H' b=a5 (.tup xs)) (BC:∀b o u,H b=a5 (.Cq o u)->H' b=a5 (.Cq o u)) (BK:∀b C,H b=a5 (.D' C)->∃y,H' b=a5 (.D' (C++y)))
  (ns:∀m,s.heap.Ns X.env.locals m->h'.Ns X.env.locals m) (Y:Bh X.prog X.w H' h') (hg:MP g') :
  Inv X pins σ H' {s with heap:=h',gens:=g',drawn:=d',toks:=t' }:=by
 have L:∀b o,X.s₀.heap.get? b=a5 o->b≠X.env.locals:=λb o e=>l1 (lx (hY e) I.ok.above);have D:∀b o,X.s₀.heap.get? b=a5 o->b∉X.ex->b∉ch:=λb o e a h=>by
  rcases(j b h).1 with z|z
  .show a z
  .show absurd (lx (hY e) z) (AY _)
 have f:∀x c,X.env.cells.lookup x=a5 c->∀v,s.heap.IsCell c v->h'.IsCell c v:=λx c e v Bm=>by
  have⟨o,ho,J⟩:=Bm;have A:c∉ch:=λz=>(j c z).2.2.1 x c e rfl;by_cases N:c∈X.fs
  .have⟨G,q⟩:=slot c o (I.Ec x c e) N A ho (I.A8 x c e);show⟨_,q,J⟩
  .show⟨o,keep c o (I.Ec x c e) N A ho (I.A8 x c e),J⟩
 show⟨I.ok,I.os,hg,⟨λb o e n h a=>?_,λb o e n h a=>?_,λb o e n a=>?_,λb o e a=>?_,λb xs e=>BJ b xs (I.base.BJ b xs e),λb o xs e=>BC b o xs (I.base.BC b o xs e),λb C e=>?_⟩,?_,λx c e=>?_,?_,λx c e=>?_,λp O=>?_,Y,I.len⟩
 .show keep b o (L b o e) h (D b o e a) (I.base.keep b o e n h a) (I.base.free b o e n a)
 .have⟨G,g⟩:=I.base.slot b o e n h a;have⟨Kg,B⟩:=slot b _ (L b o e) h (D b o e a) g (I.base.free b o e n a);show⟨Kg,B⟩
 .have⟨t,g⟩:=I.base.there b o e a;show free b t (D b o e a) g (I.base.free b o e n a)
 .have⟨t,g⟩:=I.base.there b o e a;show there b t (D b o e a) g
 .have⟨m1,g⟩:=I.base.BK b C e;have⟨m2,B⟩:=BK b _ g;show⟨m1++m2,by rw[B,Array.append_assoc]⟩
 .have⟨m,hn,hl⟩:=I.loc;show⟨m,ns m hn,λi x v g B e3=>?_⟩;have⟨u,r,l⟩:=hl i x v g B e3;show⟨u,r,?_⟩;rcases l with l|⟨k,c,e,z⟩
  .show .inl l
  .show .inr ⟨k,c,e,f x c e _ z⟩
 .have⟨v,z⟩:=I.cell x c e;show⟨v,f x c e v z⟩
 .obtain⟨m,⟨o,_,_,ho,_⟩,_⟩:=I.loc;show free _ o (λz=>(j _ z).2.1 rfl) ho I.free
 .have⟨v,o,ho,J⟩:=I.cell x c e;show free c o (λz=>(j c z).2.2.1 x c e rfl) ho (I.A8 x c e)
 .have⟨e,n,Q,T,d⟩:=I.pin p O;have A:p.1∉ch:=λz=>(j p.1 z).2.2.2 p O rfl;show⟨keep p.1 p.2 Q T A e n,free p.1 p.2 A e n,Q,T,d⟩
def Inv.un(I:Inv X pins σ H s)(u:Un X.fs [] H H' s.heap h')(d:Bh X.prog X.w H' h'):Inv X pins σ H' {s with heap:=h',toks:=t' }:=by
 obtain⟨m,⟨o,es,ep,ho,r⟩,_⟩:=id I.loc;have⟨k,f⟩:=u.any ho I.free (by simp);show I.step (g':=s.gens) (d':=s.drawn) (ch:=[]) (λ_ z=>nomatch z) (λb o _ a _ e n=>u.keep b o e n a (by simp)) (λb o _ a _ e n=>u.slot b o e n a (by simp)) (λb o _ e n=>u.free b o e n (by simp)) (λb o _ e=>u.there b o e (by simp)) u.BJ u.BC u.BK (λl g=>by
  have⟨p,h,i,c,j⟩:=g;rw[ho]at c;cases c;show⟨_,h,i,f,j⟩) d I.bare
def Inv.call(I:Inv X pins σ H s)(u:Un (Cg X.stack) ch H H' s.heap h')(h:Bh X.prog X.w H' h')(i:MP g')
  (f:∀b∈ch,(b∈X.ex\/X.s₀.heap.objs.size<=b)/\b≠X.env.locals/\(∀x c,X.env.cells.lookup x=a5 c->c≠b)/\∀p∈X.pn++pins,p.1≠b) :
  Inv X pins σ H' {s with heap:=h',gens:=g',drawn:=d',toks:=t' }:=by
 obtain⟨m,⟨o,es,ep,ho,r⟩,_⟩:=id I.loc;have⟨v,d⟩:=u.any ho I.free λz=>(f _ z).2.1 rfl;show I.step (ch:=ch) f (λb o d j a e n=>u.keep b o e n (λz=>(fx.mp (I.gP b z)).elim d j) a) (λb o _ _ a e n=>u.any e n a) (λb o a e n=>u.free b o e n a) (λb o a e=>u.there b o e a) u.BJ u.BC u.BK (λy k=>by
  have⟨A,l,q,g,t⟩:=k;rw[ho]at g;cases g;show⟨_,l,q,d,t⟩) h i
def Inv.turned(I:Inv X pins σ H s)(k:∀b o,b≠it->s.heap.get? b=a5 o->h'.get? b=a5 o)(g:H it=b6)(d:it≠X.env.locals)
  (h:it∈X.ex\/X.s₀.heap.objs.size<=it) (i:∀x c,X.env.cells.lookup x=a5 c->c≠it) (j:∀p∈X.pn++pins,p.1≠it):Inv X pins σ H {s with heap:=h',toks:=t' }:=by
 have f:∀b u,H b=a5 u->b≠it:=λb u e z=>by rw[z,g]at e;cases e
 show I.step (g':=s.gens) (d':=s.drawn) (ch:=[it]) (λb l=>?_) (λb o _ _ a e _=>k b o (λz=>a (by simp[z])) e) (λb o _ _ a e _=>⟨o.slots,k b o (λz=>a (by simp[z])) e⟩) (λ_ _ _ _ n=>n)
  (λb o a e=>⟨o,k b o (λz=>a (by simp[z])) e⟩) (λ_ _ e=>e) (λ_ _ _ e=>e) (λb w e=>⟨#[],by rw[e];simp⟩) (λm t=>?_) (λb u e=>?_) I.bare
 .have e:b=it:=by simpa using l
  subst e;show⟨h,d,i,j⟩
 .have⟨o,es,ep,ho,r⟩:=t;show⟨o,es,ep,k _ o (Eu d) ho,r⟩
 .show(I.AJ b u e).p8 (λc v a q=>k c v ?_ q) (λ_ q=>q) λ_ _ q=>q;rcases a with z|z
  .rw[z];show f b u e
  .show f c _ z
def Inv.tok(I:Inv X pins σ H s)(t:Nat):Inv X pins σ H {s with toks:=t}:=I.un (h':=s.heap) (t':=t) Un.refl I.AJ
def Inv.kept(I:Inv X pins σ H s)(k:∀b u,s.heap.get? b=a5 u->h'.get? b=a5 u):Inv X pins σ H {s with heap:=h',toks:=t' }:=I.un (Un.kept k) (I.AJ.kept k)
def Inv.laid(I:Inv X pins σ H s)(k:∀b u,s.heap.get? b=a5 u->h'.get? b=a5 u)(c:s.heap.objs.size<=a)(new:bt X.prog X.w (upd H a o) h' a o):
  Inv X pins σ (upd H a o) {s with heap:=h',toks:=t' }:=I.un (Un.laid k c (I.AJ.fresh c)) (I.AJ.laid k c new)
def Inv.write(I:Inv X pins σ H s)(a:Fm (H x))(c:e=x\/H e=a5 (.own x))(k:∀b u,b≠e->s.heap.get? b=a5 u->h'.get? b=a5 u)(d:∃u,h'.get? e=a5 u)
  (new:bt X.prog X.w (upd H x o) h' x o):Inv X pins σ (upd H x o) {s with heap:=h',toks:=t' }:=I.un (Un.write a c k d) (I.AJ.write a c k d new)
def Inv.weak(I:Inv X pins σ H s)(hl:a.length=σ.length)(w:∀(i:Nat) v,a[i]?=a5 (a5 v)->σ[i]?=a5 (a5 v)):Inv X pins a H s :=
 ⟨I.ok,I.os,I.bare,I.base,let ⟨m,b,c⟩:=I.loc;⟨m,b,λi x v d e f=>c i x v d (w i v e) f⟩,I.cell,I.free,I.A8,I.pin,I.AJ,hl.trans I.len⟩
def Inv.dM(I:Inv X pins σ H s)(h:∀p∈a,s.heap.get? p.1=a5 p.2/\H p.1=b6/\p.1≠X.env.locals/\p.1∉X.fs/\∀v,p.2.data≠.cell v):Inv X a σ H s :=
 ⟨I.ok,I.os,I.bare,I.base,I.loc,I.cell,I.free,I.A8,λp b=>(oa.mp b).elim (λz=>I.pin p (Ho _ z)) (h p),I.AJ,I.len⟩
def gQ{N:List Str}(c:N.Nodup){i j:Nat}(a:N[i]?=a5 x)(b:N[j]?=a5 x):i=j:=by
 have⟨f,d⟩:=l2.mp a;have⟨g,e⟩:=l2.mp b;show(List.getElem_inj c).mp (d.trans e.symm)
def jq(I:Inv X pins σ H s)(hN:X.N.Nodup)(D:X.N[i]?=a5 x)(l:Loc X.env.scope x)(r:RelV v u)
  (h:∀s',Inv X pins (σ.set i (a5 v)) H s'->(∃a,A6 a s.heap s'.heap/\(a=X.env.locals\/X.env.cells.lookup x=a5 a))->Q () s') (hf:X.fn x=b5\/X.env.scope.names.lookup x=a5 .local:=by first|show .inl rfl|show .inr rfl|assumption):gi M A (storeName X.env x u) Q E s:=by
 have⟨m,O,hl⟩:=id I.loc;have G_:(X.env.scope.kind==.class||(X.env.scope.kind==.module&&X.env.locals != X.env.globals))=cb:=by rw[I.ok.kind];rfl
 have Jn:i < σ.length:=by rw[I.len];show(l2.mp D).1
 have T:=I.Ec;have f:∀{a:hA} {h':DW},(∃o,s.heap.get? a=a5 o/\H a=b6)->A6 a s.heap h'->Bh X.prog X.w H h':=λ{a h'} ha hs b ob e=>by
  obtain⟨_,_,AW⟩:=ha;show(I.AJ b ob e).p8 (λc G hc q=>(hs.2 c ?_).trans q) (λ_ q=>q) λ_ _ q=>q;rintro rfl;rcases hc with rfl|hc
  .rw[AW]at e;cases e
  .rw[AW]at hc;cases hc
 rcases l with hk|hk
 .show wpAny_storeName_local hk O (λh' Kh hs=>?_) G_;obtain⟨oL,_,_,Ft,_⟩:=id O;show h _ ⟨I.ok,I.os,I.bare,⟨λb o e n B l=>?_,λb o e n B l=>?_,I.base.free,λb o e l=>?_,I.base.BJ,I.base.BC,I.base.BK⟩,⟨_,Kh,λj y Y g t e3=>?_⟩,λy c e=>?_,I.free,I.A8,λp hp=>?_,f ⟨oL,Ft,I.free⟩ hs,by simpa using I.len⟩ ⟨_,hs,.inl rfl⟩
  .show(hs.2 b (l1 (lx (hY e) I.ok.above))).trans (I.base.keep b o e n B l)
  .have⟨sl,g⟩:=I.base.slot b o e n B l;show⟨sl,(hs.2 b (l1 (lx (hY e) I.ok.above))).trans g⟩
  .have⟨o',g⟩:=I.base.there b o e l;show⟨o',(hs.2 b (l1 (lx (hY e) I.ok.above))).trans g⟩
  .by_cases C:j=i
   .subst C;rw[D]at g;cases g;rw[my Jn]at t;cases t;show⟨u,r,.inl ⟨hk,by simp⟩⟩
   .rw[pa (Eu C)]at t;have⟨u',r',q⟩:=hl j y Y g t e3;show⟨u',r',?_⟩;rcases q with⟨k,e⟩|⟨k,c,e,z⟩
    .show .inl ⟨k,?_⟩;have:y≠x:=λe=>C (gQ hN g (e▸D));simp[this,e]
    .show .inr ⟨k,c,e,z.sameBut hs (T y c e)⟩
  .have⟨G,z⟩:=I.cell y c e;show⟨G,z.sameBut hs (T y c e)⟩
  .have⟨e,n,J,nf,d⟩:=I.pin p hp;show⟨(hs.2 p.1 J).trans e,n,J,nf,d⟩
 .have C_:X.fn x=b5:=by
   rcases hf with z|z
   .show z
   .rw[z]at hk;cases hk
  have⟨c,hc⟩:=I.ok.has x (.inl hk);have⟨G,z⟩:=I.cell x c hc;show wpAny_storeName_cell I.ok.kind hk hc z (λh' ET hs=>?_);have⟨oc,Jo,G'⟩:=id z;show h {s with heap:=h' } ⟨I.ok,I.os,I.bare,⟨λb o e n B l=>?_,λb o e n B l=>?_,I.base.free,λb o e l=>?_,I.base.BJ,I.base.BC,I.base.BK⟩,⟨m,O.sameBut hs (Eu (T x c hc)),λj y Y g t e3=>?_⟩,λy L e=>?_,I.free,I.A8,λp hp=>?_,f ⟨oc,Jo,I.A8 x c hc⟩ hs,by simpa using I.len⟩ ⟨c,hs,.inr hc⟩
  .show(hs.2 b (l1 (lx (hY e) (I.ok.Fp x c C_ hc)))).trans (I.base.keep b o e n B l)
  .have⟨sl,g⟩:=I.base.slot b o e n B l;show⟨sl,(hs.2 b (l1 (lx (hY e) (I.ok.Fp x c C_ hc)))).trans g⟩
  .have⟨o',g⟩:=I.base.there b o e l;show⟨o',(hs.2 b (l1 (lx (hY e) (I.ok.Fp x c C_ hc)))).trans g⟩
  .by_cases C:j=i
   .subst C;rw[D]at g;cases g;rw[my Jn]at t;cases t;show⟨u,r,.inr ⟨.inl hk,c,hc,ET⟩⟩
   .rw[pa (Eu C)]at t;have⟨u',r',q⟩:=hl j y Y g t e3;show⟨u',r',?_⟩;rcases q with q|⟨k,L,e,z'⟩
    .show .inl q
    .show .inr ⟨k,L,e,z'.sameBut hs ?_⟩;rintro rfl;show C (gQ hN g (I.ok.inj _ _ _ e hc▸D))
  .by_cases Jp:L=c
   .subst Jp;show⟨_,ET⟩
   .have⟨w2,z2⟩:=I.cell y L e;show⟨w2,z2.sameBut hs Jp⟩
  .have⟨e,n,J,nf,d⟩:=I.pin p hp;show⟨(hs.2 p.1 ?_).trans e,n,J,nf,d⟩;intro q;rw[q,Jo]at e;have q':oc=p.2:=tj e;show d G (by rw[<-q'];show G')
def ly(I:Inv X pins σ H s)(a:X.N.Nodup)(b:X.N[i]?=a5 x)(c:Loc X.env.scope x)(r:RelV v u)
  (h:∀s',Inv X pins (σ.set i (a5 v)) H s'->Q () s') (d:X.fn x=b5\/X.env.scope.names.lookup x=a5 .local:=by first|show .inl rfl|show .inr rfl|assumption):gi M A (storeName X.env x u) Q E s :=
 jq I a b c r (λs' e _=>h s' e) d
def Inv.yx(I:Inv X pins σ H s)(ho:s'.os=s.os)(u:Un (Cg X.stack) ch H H' s.heap s'.heap)(a:Bh X.prog X.w H' s'.heap)(d:MP s'.gens)
  (f:∀b∈ch,(b∈X.ex\/X.s₀.heap.objs.size<=b)/\b≠X.env.locals/\(∀x c,X.env.cells.lookup x=a5 c->c≠b)/\∀p∈X.pn++pins,p.1≠b):Inv X pins σ H' s':=by
 have⟨h',g',d',t',g⟩:=s';have e:g=s.os:=ho;subst e;show I.call (g':=g') (t':=t') (d':=d') u a d f
end
@[reducible]def XK:=eh->Option hA->Hp->Prop
@[reducible]def St:=List (Option V)
@[reducible]def VK:=V->Hp->Prop
@[reducible]def TE:=St->Hp->VK->Prop
@[reducible]def TT:=St->Hp->(Bool->Hp->Prop)->Prop
@[reducible]def TA:=St->Hp->(List V->Hp->Prop)->Prop
structure Ends where
 nx:St->Hp->Prop
 rt:VK
 bk:St->Hp->Prop:=λ_ _=>False
 ct:St->Hp->Prop:=λ_ _=>False
@[reducible]def TS:=Ends->St->Hp->Prop
abbrev EP(X:Cx)(a:List (hA×Obj))(σ:St)(Q:VK)(u:eh)(s':gs):Prop:=∃v H',Inv X a σ H' s'/\RelV v u/\Q v H'
abbrev TP(X:Cx)(a:List (hA×Obj))(σ:St)(Q:Bool->Hp->Prop)(b:Bool)(s':gs):Prop:=∃H',Inv X a σ H' s'/\Q b H'
abbrev AP(X:Cx)(a:List (hA×Obj))(σ:St)(Q:List V->Hp->Prop)(us:List eh)(s':gs):Prop:=∃b H',Inv X a σ H' s'/\Vals b us/\Q b H'
abbrev SP(X:Cx)(a:List (hA×Obj))(D:Ends)(f:Flow)(s':gs):Prop :=
 match f with
 |.next=>∃b H',Inv X a b H' s'/\D.nx b H'
 |.brk=>∃b H',Inv X a b H' s'/\D.bk b H'
 |.cont=>∃b H',Inv X a b H' s'/\D.ct b H'
 |.ret u=>∃v b H',Inv X a b H' s'/\RelV v u/\D.rt v H'
abbrev PE(X:Cx)(e:ri)(t:TE):Prop :=
 ∀(a:List (hA×Obj)) (s:gs) (σ:St) (H:Hp) (Q:VK),Inv X a σ H s->t σ H Q->gi (ko X.prog X.w) X.A (Ew e X.env) (EP X a σ Q) X.xe s
abbrev PT(X:Cx)(e:ri)(t:TT):Prop :=
 ∀(a:List (hA×Obj)) (s:gs) (σ:St) (H:Hp) (Q:Bool->Hp->Prop),Inv X a σ H s->t σ H Q->gi (ko X.prog X.w) X.A (isTrue e X.env (Ew e X.env)) (TP X a σ Q) X.xe s
abbrev PW(X:Cx)(e:ri)(t:TT):Prop :=
 ∀(b:Sem eh) (a:List (hA×Obj)) (s:gs) (σ:St) (H:Hp) (Q:Bool->Hp->Prop),Inv X a σ H s->t σ H Q->gi (ko X.prog X.w) X.A (isTrue e X.env b) (TP X a σ Q) X.xe s
def PW.pt(h:PW X e t):PT X e t:=h _
abbrev PA(X:Cx)(es:List ri)(t:TA):Prop :=
 ∀(pos:Pos) (a:List (hA×Obj)) (s:gs) (σ:St) (H:Hp) (Q:List V->Hp->Prop),Inv X a σ H s->t σ H Q->gi (ko X.prog X.w) X.A (Qe (Fq pos (mu es X.env))) (AP X a σ Q) X.xe s
abbrev PS(X:Cx)(st:Hq)(t:TS):Prop :=
 ∀(a:List (hA×Obj)) (s:gs) (σ:St) (H:Hp) (D:Ends),Inv X a σ H s->t D σ H->gi (ko X.prog X.w) X.A (exec st X.env) (SP X a D) X.xe s
abbrev Bk(X:Cx)(st:List Hq)(t:TS):Prop :=
 ∀(a:List (hA×Obj)) (s:gs) (σ:St) (H:Hp) (D:Ends),Inv X a σ H s->t D σ H->gi (ko X.prog X.w) X.A (execs st X.env) (SP X a D) X.xe s
def AO(h:gi M A t Q E s)(b:∀a s,Q a s->Q' a s):gi M A t Q' E s:=B9 h b λ_ _ x=>x
section
abbrev zY(i:Nat):TE:=λσ H Q=>∃v,σ[i]?=a5 (a5 v)/\Q v H
abbrev tC(v:V):TE:=λ_ H Q=>Q v H
def jT(j:X.N[i]?=a5 x)(k:Eb X.env.scope x)(d:(x==("__debug__":Str))=cb:=by decide)(n:(x==("__classdict__":Str))=cb:=by decide):PE X (.Name x pos) (zY i):=by
 intro b s σ H Q I h;have⟨v,e,h⟩:=h;have⟨m,o,hl⟩:=I.loc;have⟨u,r,l⟩:=hl i x v j e k;have a:EP X b σ Q u s:=⟨v,H,I,r,h⟩
 rcases l with⟨hk,p⟩|⟨hk,c,f,g⟩
 .show P6 (wpAny_loadName_local I.ok.kind hk o p a) d
 .rcases hk with hk|hk
  .show P6 (wpAny_loadName_cell I.ok.kind hk f g a) d
  .show P6 (wpAny_loadName_free I.ok.kind hk f g a n) d
def wD:PE X (.Constant (.int i) j pos) (tC (.int i)):=λ_ _ _ H _ I h=>wpAny_Constant_int ⟨.int i,H,I.tok _,⟨_,rfl⟩,h⟩
def yy:PE X (.Constant (.bool b) j pos) (tC (.bl b)):=λ_ _ _ H _ I h=>Constant_bool ⟨.bl b,H,I,rfl,h⟩
def wF:PE X (.Constant .none j pos) (tC .AM):=λ_ _ _ H _ I h=>Constant_none ⟨.AM,H,I,rfl,h⟩
def wG:PE X (.Constant (.str x) j pos) (tC (.str x)):=λ_ _ _ H _ I h=>Calls.Constant_str ⟨.str x,H,I.tok _,⟨_,rfl⟩,h⟩
abbrev Gl(X:Cx)(x:Str):Prop:=X.env.kindOf x=a5 .globalImplicit
def oA(I:Inv X a σ H s)(b:Gl X x)(c:X.mg x=a5 u)(h:Q u s)
  (d:(x==("__debug__":Str))=cb:=by decide):gi (ko X.prog X.w) X.A (Ew (.Name x pos) X.env) Q E s :=
 NJ I.ok.kind b (Calls.loadGlobal_global (by rw[I.ok.glob];show I.mod.glob.keeps I.bk) c h) d
def dn(I:Inv X a σ H s)(b:Gl X x)(c:X.mg x=b6)(d:Fo x=a5 u)(h:Q u s)
  (e:x≠"__name__":=by decide) (f:(x==("__debug__":Str))=cb:=by decide):gi (ko X.prog X.w) X.A (Ew (.Name x pos) X.env) Q E s:=by
 have⟨j,g,i⟩:=I.mod.blt;show NJ I.ok.kind b (Calls.loadGlobal_builtin (by rw[I.ok.glob];show I.mod.glob.keeps I.bk) c (by rw[I.ok.blt];show g.keeps I.bk) ((i x e).trans d) h) f
def t9(a:Gl X x)(b:X.mg x=a5 u)(r:RelV v u)(c:(x==("__debug__":Str))=cb:=by decide):PE X (.Name x pos) (tC v) :=
 λ_ _ _ H _ I h=>oA I a b ⟨v,H,I,r,h⟩ c
def t_(a:Gl X x)(b:X.mg x=b6)(c:Fo x=a5 u)(r:RelV v u)(d:x≠"__name__":=by decide)(e:(x==("__debug__":Str))=cb:=by decide):PE X (.Name x pos) (tC v) :=
 λ_ _ _ H _ I h=>dn I a b c ⟨v,H,I,r,h⟩ d e
abbrev zZ(t u:TT):TT:=λσ H Q=>t σ H λc a=>if c=b5 then u σ a Q else Q cb a
abbrev Ki(t u:TT):TT:=λσ H Q=>t σ H λc a=>if c=b5 then Q b5 a else u σ a Q
abbrev z9(t:TT):TT:=λσ H Q=>t σ H λc a=>Q (!c) a
def ua(d:PT X a f):PW X (.BoolOp .And [a] pos) f:=by
 intro g b s σ H Q I h;show isTrue_and (AO (d b s σ H Q I h) λc s1 e=>?_);cases c with
 |true=>show Q4 e
 |false=>show e
def wH(d:PT X a f):PW X (.BoolOp .Or [a] pos) f:=by
 intro g b s σ H Q I h;show isTrue_or (AO (d b s σ H Q I h) λc s1 e=>?_);cases c with
 |false=>show isTrue_or_nil e
 |true=>show e
def wI(j:PT X a k)(l:PW X (.BoolOp .And (b::e) pos) m):PW X (.BoolOp .And (a::b::e) pos) (zZ k m):=by
 intro n d s σ H Q I h;show isTrue_and (AO (j d s σ H _ I h) λc s1 o=>?_);have⟨f,g,i⟩:=o;cases c with
 |true=>show l n d s1 σ f Q g i
 |false=>show⟨f,g,i⟩
def yz(j:PT X a k)(l:PW X (.BoolOp .Or (b::e) pos) m):PW X (.BoolOp .Or (a::b::e) pos) (Ki k m):=by
 intro n d s σ H Q I h;show isTrue_or (AO (j d s σ H _ I h) λc s1 o=>?_);have⟨f,g,i⟩:=o;cases c with
 |true=>show⟨f,g,i⟩
 |false=>show l n d s1 σ f Q g i
def wJ(d:PT X a e):PT X (.UnaryOp .Not a pos) (z9 e):=by
 intro b s σ H Q I h;show isTrue_not (d b s σ H (λc f=>Q (!c) f) I h)
abbrev yA(b d:TE):TE:=λσ H Q=>b σ H λx a=>∃c,x=.bl c/\if c=b5 then d σ a Q else Q (.bl cb) a
abbrev yB(a:TE):TE:=λσ H Q=>a σ H λx b=>∃c,x=.bl c/\Q (.bl (!c)) b
def wK(h:PE X a t):PE X (.BoolOp op [a] pos) t:=λb s σ H Q I c=>BoolOp_one (h b s σ H Q I c)
def wL(j:PE X a k)(l:PE X (.BoolOp .And (b::e) pos) m):PE X (.BoolOp .And (a::b::e) pos) (yA k m):=by
 intro d s σ H Q I h;show BoolOp_and (AO (j d s σ H _ I h) λv s1 n=>?_);have⟨x,g,i,o,f⟩:=n;have⟨c,rfl,f⟩:=f;cases o;show FR ?_;cases c with
 |true=>show l d s1 σ g Q i f
 |false=>show⟨.bl cb,g,i,rfl,f⟩
def wM(e:PE X a f):PE X (.UnaryOp .Not a pos) (yB f):=by
 intro b s σ H Q I h;show UnaryOp_ (AO (e b s σ H _ I h) λv s1 g=>?_);have⟨x,i,j,k,d⟩:=g;have⟨c,rfl,d⟩:=d;cases k;show not_of (FR ⟨.bl (!c),i,j,rfl,d⟩)
end
abbrev A_(K:PySem.W.Frag)(H:Hp)(a:hA)(xs:List V):Prop :=
 Rd H a (.lst xs) \/
  ∃(o:Obj) (b:Array eh) (n:Nat),K.lookup a=a5 o/\o.cls=.type "list"/\o.dict=b6/\o.data=.seq b n/\b.size<=df/\Vals xs b.toList
abbrev Bb(K:PySem.W.Frag)(H:Hp)(a:hA)(xs:List V):Prop :=
 Rd H a (.tup xs) \/
  ∃(o:Obj) (b:Array eh) (n:Nat),K.lookup a=a5 o/\o.cls=.type "tuple"/\o.data=.seq b n/\b.size<=df/\Vals xs b.toList
abbrev z_:eh->Option V
 |.none=>a5 .AM
 |.bool b=>a5 (.bl b)
 |.int i _=>a5 (.int i)
 |.str x _=>a5 (.str x)
 |.bytes b _=>a5 (.Gv b)
 |.float b _=>a5 (.Gw b)
 |.ref a=>a5 (.ref a)
 |.type n=>a5 (.ty n)
 |_=>b6
def RelV.abs(r:RelV x u):z_ u=a5 x:=by
 cases x with
 |AM=>cases r;rfl
 |bl _=>cases r;rfl
 |ref _=>cases r;rfl
 |ty _=>cases r;rfl
 |_=>have⟨t,rfl⟩:=r;rfl
def RelV.inj(r:RelV x u)(q:RelV y u):x=y:=tj (r.abs.symm.trans q.abs)
theorem Vals.inj:∀{xs a:List V}{us:List eh},Vals xs us->Vals a us->xs=a
 |_,_,_,.nil,.nil=>rfl
 |_,_,_,.cons r t,.cons b t'=>by rw[r.inj b,Vals.inj t t']
section
def A_.of{K:PySem.W.Frag}(h:H a=a5 (.lst xs)):A_ K H a xs:=.inl (.inl h)
def Bb.of{K:PySem.W.Frag}(h:H a=a5 (.tup xs)):Bb K H a xs:=.inl (.inl h)
def Inv.list(I:Inv X c σ H s)(h:A_ X.K H a xs):∃b:List eh,Vals xs b/\PlainL s.heap a b.toArray/\xs.length<=df:=by
 rcases h with h|⟨o,b,n,hk,d,f,hs,hz,r⟩
 .have⟨z,b,n,r,e⟩:=h.ok I.AJ;show⟨b,r,⟨_,n,e,rfl,rfl,rfl⟩,z⟩
 .show⟨b.toList,r,⟨o,n,I.ES a o hk,d,f,by simpa using hs⟩,?_⟩;have e:=r.length;simp only[i4]at e;lia
def Inv.tuple(I:Inv X c σ H s)(h:Bb X.K H a xs):∃b:List eh,Vals xs b/\IsTup s.heap a b.toArray/\xs.length<=df:=by
 rcases h with h|⟨o,b,n,hk,d,hs,hz,r⟩
 .have⟨z,b,r,p⟩:=h.ok I.AJ;show⟨b,r,p,z⟩
 .show⟨b.toList,r,⟨o,I.ES a o hk,d,n,by simpa using hs⟩,?_⟩;have e:=r.length;simp only[i4]at e;lia
def Inv.q_(I:Inv X b σ H s)(h:A_ X.K H a xs)(h':A_ X.K H a f):xs=f:=by
 obtain⟨g,r,⟨o,n,e,_,_,d⟩,_⟩:=I.list h;obtain⟨its',i,⟨k,l,c,_,_,d'⟩,_⟩:=I.list h';rw[e]at c;cases c;rw[d]at d';injection d' with j _
 have:g=its':=by simpa using Rb Oc j
 subst this;show r.inj i
def Inv.p_(I:Inv X b σ H s)(h:Bb X.K H a xs)(h':Bb X.K H a f):xs=f:=by
 obtain⟨g,r,⟨o,e,_,n,d⟩,_⟩:=I.tuple h;obtain⟨its',i,⟨k,c,_,l,d'⟩,_⟩:=I.tuple h';rw[e]at c;cases c;rw[d]at d';injection d' with j _
 have:g=its':=by simpa using Rb Oc j
 subst this;show r.inj i
end
@[reducible]def Cx.jb(X:Cx)(E:eh->gs->Prop):Cx:={X with xe:=E}
@[reducible]def Cx.Fu(X:Cx):Cx:=X.jb λ_ _=>False
def Cx.Ok.jb{X:Cx}(ok:X.Ok)(E:eh->gs->Prop):(X.jb E).Ok :=
 ⟨ok.mod,ok.kind,ok.glob,ok.blt,ok.above,ok.inj,ok.has,ok.Fp,ok.hd,ok.frames,ok.Gz,ok.Jk,ok.bs,ok.DK,ok.CI,ok.Dn,ok.gO,ok.ER⟩
def Cx.Ok.fK{X:Cx}(ok:(X.jb E).Ok):X.Ok :=
 ⟨ok.mod,ok.kind,ok.glob,ok.blt,ok.above,ok.inj,ok.has,ok.Fp,ok.hd,ok.frames,ok.Gz,ok.Jk,ok.bs,ok.DK,ok.CI,ok.Dn,ok.gO,ok.ER⟩
section
def Inv.jb(I:Inv X a σ H s)(E:eh->gs->Prop):Inv (X.jb E) a σ H s:=⟨I.ok.jb E,I.os,I.bare,I.base,I.loc,I.cell,I.free,I.A8,I.pin,I.AJ,I.len⟩
def Inv.fK(I:Inv (X.jb E) a σ H s):Inv X a σ H s:=⟨I.ok.fK,I.os,I.bare,I.base,I.loc,I.cell,I.free,I.A8,I.pin,I.AJ,I.len⟩
def SP.fK(h:SP (X.jb E) a D f s'):SP X a D f s':=by
 cases f with
 |ret u=>have⟨v,b,H',I,r,q⟩:=h;show⟨v,b,H',I.fK,r,q⟩
 |_=>have⟨b,H',I,q⟩:=h;show⟨b,H',I.fK,q⟩
def Bk.Fu{st:List Hq}(h:Bk X.Fu st t):Bk X st t:=λa s σ H D I b =>
 B9 (h a s σ H D (I.jb _) b) (λ_ _ q=>q.fK) λ_ _ z=>Hn z
end
section
variable{X:Cx}{st:Hq}{rest:List Hq}{t u:TS}{e:ri}{te:TE}{pos:Pos}
abbrev vS:TS:=λD σ H=>D.nx σ H
abbrev Aa(t u:TS):TS:=λD σ H=>t {D with nx:=u D} σ H
def ub:Bk X [] vS:=λ_ _ σ H _ I h=>N7 ⟨σ,H,I,h⟩
def ra(b:PS X st t)(c:Bk X rest u):Bk X (st::rest) (Aa t u):=by
 intro a s σ H D I h;show wpAny_execs_cons (AO (b a s σ H {D with nx:=u D} I h) λf s1 q=>?_);cases f with
 |next =>
  have⟨d,H',g,q⟩:=q;show c a s1 d H' D g q
 |_=>show q
abbrev wN:TS:=λD σ H=>D.bk σ H
abbrev yC:TS:=λD σ H=>D.ct σ H
def uc:PS X (.Pass pos) vS:=λ_ _ σ H _ I h=>wpAny_Pass ⟨σ,H,I,h⟩
def rb:PS X (.Break pos) wN:=λ_ _ σ H _ I h=>wpAny_Break ⟨σ,H,I,h⟩
def lz:PS X (.Continue pos) yC:=λ_ _ σ H _ I h=>wpAny_Continue ⟨σ,H,I,h⟩
def Inv.quiet(I:Inv X a σ H s):interactive X.env=cb:=by simp[interactive,I.ok.kind]
abbrev yD(te:TE):TS:=λD σ H=>te σ H λ_ a=>D.nx σ a
def jU(b:PE X e te)(hs:Kx e b6 pos.line X.env=pure cb:=by rfl):PS X (.Expr e pos) (yD te):=by
 intro a s σ H D I h;show wpAny_Expr_any (AO (b a s σ H _ I h) λv s1 ⟨x,c,d,g,f⟩=>⟨σ,c,d,f⟩) I.quiet hs
abbrev Ab(te:TE):TS:=λD σ H=>te σ H D.rt
def wO(b:PE X e te):PS X (.Return (a5 e) pos) (Ab te):=by
 intro a s σ H D I h;show wpAny_Return_some (AO (b a s σ H _ I h) λv s1 ⟨x,c,d,f,g⟩=>⟨x,σ,c,d,f,g⟩)
abbrev yE:TS:=λD _ H=>D.rt .AM H
def ud:PS X (.Return b6 pos) yE:=λ_ _ σ H _ I h=>wpAny_Return_none ⟨.AM,σ,H,I,rfl,h⟩
abbrev Ac(c:TT)(t u:TS):TS:=λD σ H=>c σ H λb a=>if b=b5 then t D σ a else u D σ a
def yF(k:PT X c l)(m:Bk X a t)(n:Bk X b u):PS X (.If c a b pos) (Ac l t u):=by
 intro f s σ H D I h;show wpAny_If (AO (k f s σ H _ I h) λd s1 o=>?_);have⟨g,i,j⟩:=o;cases d with
 |true=>show m f s1 σ g D i j
 |false=>show n f s1 σ g D i j
end
@[reducible]def TG:=V->St->Hp->(St->Hp->Prop)->Prop
@[reducible]def EU:=List V->St->Hp->(St->Hp->Prop)->Prop
abbrev PG(X:Cx)(a:ri)(t:TG):Prop :=
 ∀(b:List (hA×Obj)) (s:gs) (σ:St) (H:Hp) (v:V) (u:eh) (Q:St->Hp->Prop),Inv X b σ H s->RelV v u->t v σ H Q ->
  gi (ko X.prog X.w) X.A (LK a X.env u) (λ_ s'=>∃c H',Inv X b c H' s'/\Q c H') X.xe s
abbrev Fv(X:Cx)(ts:List ri)(t:EU):Prop :=
 ∀(a:List (hA×Obj)) (s:gs) (σ:St) (H:Hp) (b:List V) (us:List eh) (Q:St->Hp->Prop),Inv X a σ H s->Vals b us->t b σ H Q ->
  gi (ko X.prog X.w) X.A (assignInOrder ((Iz ts X.env).map (·.2)) us) (λ_ s'=>∃c H',Inv X a c H' s'/\Q c H') X.xe s
@[reducible]def yG:=V->V->V->Hp->(Hp->Prop)->Prop
abbrev jc(X:Cx)(t:yG):Prop :=
 ∀(a:List (hA×Obj)) (s:gs) (σ:St) (H:Hp) (o i v:V) (b c u:eh) (Q:Hp->Prop),Inv X a σ H s->RelV o b->RelV i c->RelV v u->t o i v H Q ->
  gi (ko X.prog X.w) X.A (OY b c u) (λ_ s'=>∃H',Inv X a σ H' s'/\Q H') X.xe s
section
abbrev oB(i:Nat):TG:=λv σ H Q=>Q (σ.set i (a5 v)) H
def oC(b:X.N.Nodup)(c:X.N[i]?=a5 x)(d:Loc X.env.scope x)(e:X.fn x=b5\/X.env.scope.names.lookup x=a5 .local:=by first|show .inl rfl|show .inr rfl|assumption):PG X (.Name x pos) (oB i):=by
 intro a s σ H v u Q I r h;show Qd (ly I b c d r (λs' f=>⟨_,H,f,h⟩) e)
abbrev yH:EU:=λa σ H Q=>a=[]/\Q σ H
abbrev vT(t:TG)(u:EU):EU:=λa σ H Q=>∃v r,a=v::r/\t v σ H λb H'=>u r b H' Q
def ue:Fv X [] yH:=by
 intro a s σ H b us Q I r h;have⟨e,h⟩:=h;subst e;cases r;show assignInOrder_nil ⟨σ,H,I,h⟩
def rf(b:PG X e t)(c:Fv X es u)
  (hs:(Iz (e::es) X.env).map (·.2)=LK e X.env::(Iz es X.env).map (·.2):=by rfl):Fv X (e::es) (vT t u):=by
 intro a s σ H m us Q I r h;have⟨v,n,d,h⟩:=h;subst d;cases r with
 |cons r f =>
  rw[hs];show assignInOrder_cons (AO (b a s σ H _ _ _ I r h) λ_ s1 g=>?_);have⟨i,j,k,l⟩:=g;show c a s1 i j _ _ Q k f l
abbrev Ad(K:PySem.W.Frag)(n:Nat)(t:EU):TG:=λv σ H Q=>∃a xs,v=.ref a/\Bb K H a xs/\xs.length=n/\t xs σ H Q
def wQ(g:X.calm=b5)(h:Fv X es t)
  (i:(Iz es X.env).length=n:=by rfl) (j:(Iz es X.env).findIdx? (·.1)=b6:=by rfl):PG X (.Tuple es k pos) (Ad X.K n t):=by
 intro c s σ H v u Q I r d;have⟨a,xs,l,m,hl,d⟩:=d;subst l;cases r;have⟨x,f,p,hz⟩:=I.tuple m;show assign_Tuple_tuple (I.ok.hd g) p (by simp[i,<-hl,f.length]) j λh' q=>?_;have w:Inv X c σ H {s with heap:=h' }:=I.kept (t':=s.toks) λb o e=>q b o (l1 (hY e)) e;show h c _ σ H xs _ Q w (by simpa using f) d
abbrev Ae(a b:TE)(t:yG):TG:=λv σ H Q=>a σ H λo c=>b σ c λi d=>t o i v d λe=>Q σ e
def wR(ho:PE X o d)(e:PE X i f)(hs:jc X t)
  (g:∀v,LK (.Subscript o i pos) X.env v=(do
   let b <-IX [v] (Ew o X.env)
   let c <-IX [v,b] (Ew i X.env)
   OW pos
   IX [v,b,c] (OY b c v)
   release [v,b,c] []):=by intro _;rfl):PG X (.Subscript o i pos) (Ae d f t):=by
 intro a s σ H v u Q I r h;rw[g];show b4 (z8 (AO (ho a s σ H _ I h) λb s1 j=>?_));have⟨x,k,l,m,n⟩:=j;show b4 (z8 (AO (e a s1 σ k _ l n) λc s2 p=>?_));have⟨y,q,w,z,A⟩:=p;show b4 (Oz (b4 (z8 (AO (hs a s2 σ q x y v b c u _ w m z r A) λ_ s3 B=>?_))));have⟨C,D,G⟩:=B;show wpAny_release ⟨σ,C,D,G⟩
abbrev wU(a:TE)(g:TG):TS:=λD σ H=>a σ H λx b=>g x σ b D.nx
def rg(c:PE X e d)(f:PG X b g)(hs:Lx [b] e pos.line X.env=pure cb:=by rfl)(i:OB [b] e X.env=pure b6:=by rfl)
  (j:(Iz [b] X.env).map (·.2)=[LK b X.env]:=by rfl):PS X (.Assign [b] e pos) (wU d g):=by
 intro a s σ H D I h;show wpAny_Assign_stores (AO (c a s σ H _ I h) λv s1 ⟨x,k,l,m,n⟩=>?_) hs i;rw[j];show AO (f a s1 σ k x v _ l m n) λ_ s2 q=>q
def wV(c:X.N.Nodup)(d:X.N[i]?=a5 x)(f:Loc X.env.scope x)(g:PE X e j)(hs:Kx e (a5 (.Name x a)) pos.line X.env=pure cb:=by rfl)(k:X.fn x=b5\/X.env.scope.names.lookup x=a5 .local:=by first|show .inl rfl|show .inr rfl|assumption):
  PS X (.Assign [.Name x a] e pos) (wU j (oB i)):=by
 intro b s σ H D I h;show wpAny_Assign_Name (AO (g b s σ H _ I h) λv s1 ⟨y,l,m,n,o⟩=>?_) hs;show ly m c d f n (λs2 p=>⟨_,l,p,o⟩) k
end
section
abbrev wW(c:TT)(f:TS):TS:=λD σ H=>∃W:Nat->St->Hp->Prop,(∃m,W m σ H)/\∀m σ H,W m σ H ->
 c σ H λb a=>if b=b5 then ∃N:St->Hp->Prop,(∀d H',N d H'->∃e,e<m/\W e d H')/\f {D with nx:=N,ct:=N,bk:=D.nx} σ a else D.nx σ a
def rh(r:NZ (ko X.prog X.w) X.A X.env X.xe)(z:PT X c B)(C:Bk X body G):PS X (.While c body [] pos) (wW B G):=by
 intro a s σ H D I h;obtain⟨W,⟨m0,J⟩,d⟩:=h;show wpAny_While (codeAny_whileLoop (λn s'=>∃t H',Inv X a t H' s'/\W n t H') ?_ m0 ⟨σ,H,I,J⟩);rintro n s1 ⟨i,u,L,O⟩;show He r (AO (z a s1 i u _ L (d n i u O)) λb s2 Q=>?_);have⟨v,x,j⟩:=Q;cases b with
 |true =>
  have⟨N,y,j⟩:=j;rw[Q8 rfl];show He r (AO (C a s2 i v _ x j) λf s3 k=>?_);cases f with
  |next =>
   have⟨e,g,l,m⟩:=k;have⟨o,p,q⟩:=y e g m;show⟨o,p,e,g,l,q⟩
  |cont =>
   have⟨e,g,l,m⟩:=k;have⟨o,p,q⟩:=y e g m;show⟨o,p,e,g,l,q⟩
  |_=>show k
 |false =>
  rw[Q9 mA];show N7 ⟨i,v,x,j⟩
end
structure It where
 go:Nat->Hp->Prop
 GB:Nat->Hp->V->Hp->Prop
 stop:Nat->Hp->Prop
abbrev gD(X:Cx)(a:List (hA×Obj))(H:Hp)(b:hA):Prop :=
 H b=b6/\b≠X.env.locals/\b∉X.fs/\(b∈X.ex\/X.s₀.heap.objs.size<=b)/\(∀x c,X.env.cells.lookup x=a5 c->c≠b)/\∀p∈X.pn++a,p.1≠b
def Inv.uf(I:Inv X a σ H s)(d:s.heap.objs.size<=b)(f:H' b=b6):gD X a H' b:=by
 show⟨f,Er (lx I.lt d),I.yw d,.inr (y2 I.sz d),λx c e z=>?_,λp g z=>?_⟩
 .have⟨v,q⟩:=I.cell x c e;show absurd (lx q.lt (by rw[z];show d)) (AY _)
 .show absurd (lx (hY (I.pin p g).1) (by rw[z];show d)) (AY _)
structure Turn(P:ve)(w:y1)(K:PySem.W.Frag)(tg:ri)(J:It)(fp:List hA)(it:hA)(tn:Nat->DW->Prop):Prop where
 mem:it∈fp
 obj:∀i h,tn i h->∀b∈fp,∃o,h.get? b=a5 o/\∀v,o.data≠.cell v
 keep:∀i h h',tn i h->(∀b∈fp,∀o,h.get? b=a5 o->h'.get? b=a5 o)->tn i h'
 item:∀(X:Cx),X.prog=P->X.w=w->X.K=K->X.calm=b5->∀(i:Nat) (pins:List (hA×Obj)) (s:gs) (σ:St) (H:Hp) (E:eh->gs->Prop),Inv X pins σ H s->(∀b∈fp,gD X pins H b)->tn i s.heap->J.go i H ->
  gi (ko P w) X.A (Kl (.ref it)) (λr s1=>∃u,r=a5 u /\
   gi (ko P w) X.A (MT tg (.ref it) u) (λ_ s2=>∃x H',Inv X pins σ H' s2/\RelV x u/\J.GB i H x H'/\tn (i+1) s2.heap/\∀b∈fp,H' b=b6) E s1) E s
 done:∀(X:Cx),X.prog=P->X.w=w->X.K=K->X.calm=b5->∀(i:Nat) (pins:List (hA×Obj)) (s:gs) (σ:St) (H:Hp) (E:eh->gs->Prop),Inv X pins σ H s->(∀b∈fp,gD X pins H b)->tn i s.heap->J.stop i H ->
  gi (ko P w) X.A (Kl (.ref it)) (λr s1=>r=b6/\Inv X pins σ H s1) E s
 self:∀(A:Gp) (i:Nat) (s:gs) (Q:eh->gs->Prop) (E:eh->gs->Prop),tn i s.heap->Q (.ref it) s->gi (ko P w) A (M8 (.ref it)) Q E s
@[reducible]def TI:=St->Hp->(It->Hp->Prop)->Prop
abbrev Jq(X:Cx)(a:List (hA×Obj))(σ:St)(e:ri)(R:It->Hp->Prop)(f:eh)(s2:gs):Prop :=
 ∃(it:hA) (c:List hA) (d:Nat->DW->Prop) (J:It) (H':Hp),f=.ref it/\Inv X a σ H' s2/\Turn X.prog X.w X.K e J c it d/\d 0 s2.heap/\(∀b∈c,gD X a H' b)/\R J H'
abbrev PI(X:Cx)(c b:ri)(d:TI):Prop :=
 ∀(a:List (hA×Obj)) (s:gs) (σ:St) (H:Hp) (R:It->Hp->Prop),Inv X a σ H s->d σ H R ->
  gi (ko X.prog X.w) X.A (Ew b X.env) (λv s1=>gi (ko X.prog X.w) X.A (M8 v) (Jq X a σ c R) X.xe s1) X.xe s
def oD(ho:s.heap.get? it=a5 o)(b:o.cls=.type n)(c:o.data=.fields d)
    (e:["enumerate","zip","dict_itemiterator","dict_reverseitemiterator","odict_iterator","itertools.zip_longest","itertools.pairwise"].contains n=cb) (a:Q () s):gi M A (MT f (.ref it) u) Q E s:=by
  unfold MT;cases f<;>first
    | show c4 a
    | (cases u<;>first
        | show c4 a
        | (show b4 (P4 ho ?_)
           rw[b,c];change gi M A (if (["enumerate","zip","dict_itemiterator","dict_reverseitemiterator","odict_iterator","itertools.zip_longest","itertools.pairwise"].contains n&&d[0]?==a5 (AQ _))=b5 then _ else _) Q E s;rw[Q9 (by intro h;rw[e,P0]at h;cases h)];show c4 a))
abbrev Hc(K:PySem.W.Frag)(a:hA):It :=
 ⟨λi H=>∃xs x,A_ K H a xs/\xs[i]?=a5 x,λi H x H'=>H'=H/\∀xs,A_ K H a xs->xs[i]?=a5 x,λi H=>∃xs,A_ K H a xs/\xs.length<=i⟩
abbrev Hd(K:PySem.W.Frag)(a:hA):It :=
 ⟨λi H=>∃xs x,Bb K H a xs/\xs[i]?=a5 x,λi H x H'=>H'=H/\∀xs,Bb K H a xs->xs[i]?=a5 x,λi H=>∃xs,Bb K H a xs/\xs.length<=i⟩
abbrev Fw(lo:Int)(n:Nat):It:=⟨λi _=>i<n,λi H x H'=>H'=H/\x=.int (lo+i),λi _=>n<=i⟩
def qa{K:PySem.W.Frag}(a it:hA):Turn P w K tg (Hc K a) [it] it (λi h=>h.IsListIter it a i) where
 mem:=by simp
 obj:=λi h st b g=>by
  have e:b=it:=by simpa using g
  subst e;have⟨o,e,c,d⟩:=st;show⟨o,e,λv z=>by rw[d]at z;cases z⟩
 keep:=λi h h' st k=>st.at λo e=>k it (by simp) o e
 item:=by
  intro X m n q J i f s σ H E I j st r;subst m n q;have⟨xs,x,l,t⟩:=r;have⟨L,y,p,hz⟩:=I.list l;have⟨u,N,O⟩:=y.get t;have⟨A,B,Q,C,D,G⟩:=j it (by simp);show wpAny_pyNext_list_item st p.isList (x:=u) (by simpa using N) λh' st' T=>?_;have Y:Inv X f σ H {s with heap:=h' }:=I.turned (t':=s.toks) (λb o g e=>(T.2 b g).trans e) A B C D G;have⟨o,e,c,d⟩:=id st';show⟨u,rfl,oD (s:={s with heap:=h' }) e c d (by decide) ⟨x,H,Y,O,⟨rfl,λys hy=>by rw[I.q_ hy l];show t⟩,st',λb g=>(j b g).1⟩⟩
 done:=by
  intro X m n q J i f s σ H E I j st r;subst m n q;have⟨xs,l,t⟩:=r;have⟨L,y,p,hz⟩:=I.list l;have⟨A,B,Q,C,D,G⟩:=j it (by simp);have hl:=y.length;show wpAny_pyNext_list_end (I.ok.hd J) st p.isList (by simp;lia) λh' eb=>⟨rfl,I.turned (t':=s.toks) (λb o g e=>eb b o g e) A B C D G⟩
 self:=λ_ _ _ _ _ st h=>wpAny_pyIter_listiter st h
def mP{K:PySem.W.Frag}(a it:hA):Turn P w K tg (Hd K a) [it] it (λi h=>h.IsTupleIter it a i) where
 mem:=by simp
 obj:=λi h st b g=>by
  have e:b=it:=by simpa using g
  subst e;have⟨o,e,c,d⟩:=st;show⟨o,e,λv z=>by rw[d]at z;cases z⟩
 keep:=λi h h' st k=>st.at λo e=>k it (by simp) o e
 item:=by
  intro X m n q L i f s σ H E I j st r;subst m n q;have⟨xs,x,l,t⟩:=r;have⟨y,A,p,hz⟩:=I.tuple l;have⟨u,N,O⟩:=A.get t;have⟨B,C,Q,D,G,J⟩:=j it (by simp);show wpAny_pyNext_tuple_item st (show s.heap.IsTuple a y.toArray from p) (x:=u) (by simpa using N) λh' st' T=>?_;have Y:Inv X f σ H {s with heap:=h' }:=I.turned (t':=s.toks) (λb o g e=>(T.2 b g).trans e) B C D G J;have⟨o,e,c,d⟩:=id st';show⟨u,rfl,oD (s:={s with heap:=h' }) e c d (by decide) ⟨x,H,Y,O,⟨rfl,λys hy=>by rw[I.p_ hy l];show t⟩,st',λb g=>(j b g).1⟩⟩
 done:=by
  intro X m n q L i f s σ H E I j st r;subst m n q;have⟨xs,l,t⟩:=r;have⟨y,A,p,hz⟩:=I.tuple l;have⟨B,C,Q,D,G,J⟩:=j it (by simp);have hl:=A.length;show wpAny_pyNext_tuple_end (I.ok.hd L) st (show s.heap.IsTuple a y.toArray from p) (by simp;lia) λh' eb=>⟨rfl,I.turned (t':=s.toks) (λb o g e=>eb b o g e) B C D G J⟩
 self:=λ_ _ _ _ _ st h=>wpAny_pyIter_tupleiter st h
def mQ{K:PySem.W.Frag}(it:hA)(lo:Int)(n:Nat):Turn P w K L (Fw lo n) [it] it (λi h=>IsRangeIter h it (lo+(i:Nat) * 1) ((n:Int) - (i:Nat)) 1) where
 mem:=by simp
 obj:=λi h st b c=>by
  have e:b=it:=by simpa using c
  subst e;show⟨_,st,λv z=>by
   have A:Data.fields _=Q3 v:=z;cases A⟩
 keep:=λi h h' st k=>k it (by simp) _ st
 item:=by
  intro X f g j l i a s σ H E I d st m;subst f g j;have⟨p,q,B,r,u,x⟩:=d it (by simp);have W:=Walks.range (prog:=X.prog) (w:=X.w) (I.ok.hd l) it lo 1 n;show W.item i s _ _ m st λv h' y C st' D=>?_;have⟨t,rfl⟩:=C;have G:Inv X a σ H {s with heap:=h',toks:=y}:=I.turned (λb o c e=>D b o (by simpa using c) e) p q r u x;show⟨_,rfl,oD (s:={s with heap:=h',toks:=y}) (n:="range_iterator") st' rfl rfl (by decide) ⟨.int (lo+i),H,G,⟨t,?_⟩,⟨rfl,rfl⟩,st',λb c=>(d b c).1⟩⟩;rw[Int.mul_one]
 done:=by
  intro X f g j l i a s σ H E I d st m;subst f g j;have⟨p,q,B,r,u,x⟩:=d it (by simp);show wpAny_pyNext_range_end (I.ok.hd l) st (by have:n<=i:=m;lia) λh' J=>⟨rfl,I.turned (t':=s.toks) (λb o c e=>J b o c e) p q r u x⟩
 self:=λ_ _ _ _ _ st h=>wpAny_pyIter_rangeiter st h
section
abbrev yI(K:PySem.W.Frag)(tl:TE):TI:=λσ H R=>tl σ H λx b=>∃a,x=.ref a/\(∃xs,A_ K b a xs)/\R (Hc K a) b
abbrev Af(K:PySem.W.Frag)(tl:TE):TI:=λσ H R=>tl σ H λx b=>∃a,x=.ref a/\(∃xs,Bb K b a xs)/\R (Hd K a) b
def ug(hl:PE X l tl):PI X n l (yI X.K tl):=by
 intro c s σ H R I h;show AO (hl c s σ H _ I h) λv s1 f=>?_;have⟨x,g,d,i,j⟩:=f;obtain⟨a,e,⟨xs,k⟩,q⟩:=j;subst e;cases i;have⟨r,t,p,hz⟩:=d.list k;show La p.isList ?_;show⟨s1.heap.objs.size,[s1.heap.objs.size],_,_,g,rfl,d.kept (t':=s1.toks) λb o e=>ea _ e,qa a _,⟨_,g0 _ rfl,rfl,rfl⟩,λb m=>?_,q⟩;have e:b=s1.heap.objs.size:=by simpa using m
 subst e;show d.uf (ke _) (d.AJ.fresh (ke _))
def wX(hl:PE X l tl):PI X r l (Af X.K tl):=by
 intro c s σ H R I h;show AO (hl c s σ H _ I h) λv s1 f=>?_;have⟨x,g,d,i,j⟩:=f;obtain⟨a,e,⟨xs,k⟩,q⟩:=j;subst e;cases i;have⟨m,t,p,hz⟩:=d.tuple k;show P2 (show s1.heap.IsTuple a m.toArray from p) ?_;show⟨s1.heap.objs.size,[s1.heap.objs.size],_,_,g,rfl,d.kept (t':=s1.toks) λb o e=>ea _ e,mP a _,⟨_,g0 _ rfl,rfl,rfl⟩,λb n=>?_,q⟩;have e:b=s1.heap.objs.size:=by simpa using n
 subst e;show d.uf (ke _) (d.AJ.fresh (ke _))
def lA{lo a:Int}(I:Inv X c σ H s)(g:-(2 ^ 62)<=lo)(h:lo<2 ^ 62)(i:-(2 ^ 62)<=a)(j:a<2 ^ 62)
  (q:R (Fw lo (a - lo).toNat) H):gi (ko X.prog X.w) X.A (M8 (.ref s.heap.objs.size)) (Jq X c σ n R) E {s with heap:=s.heap.push {cls:=.type "range",data:=.fields #[.int lo t,.int a u,.int 1 v]},toks:=f}:=by
 show wpAny_pyIter_range (IsRange.new ..) (small_one g h i j) ?_;have d:Inv X c σ H {s with heap:=s.heap.push {cls:=.type "range",data:=.fields #[.int lo t,.int a u,.int 1 v]},toks:=f}:=I.kept λb o e=>ea _ e;show⟨(s.heap.push {cls:=.type "range",data:=.fields #[.int lo t,.int a u,.int 1 v]}).objs.size,[(s.heap.push {cls:=.type "range",data:=.fields #[.int lo t,.int a u,.int 1 v]}).objs.size],_,_,H,rfl,
  d.kept (t':=f) λb o e=>ea _ e,mQ _ lo (a - lo).toNat,?_,λb k=>?_,q⟩
 .have l:lo+((0:Nat):Int) * 1=lo:=by simp
  have m:(((a - lo).toNat:Nat):Int) - ((0:Nat):Int)=Qu lo a 1:=by rw[rangeSize_one];split<;>lia
  change IsRangeIter _ _ (lo+((0:Nat):Int) * 1) ((((a - lo).toNat:Nat):Int) - ((0:Nat):Int)) 1;rw[l,m];show g0 _ rfl
 .have e:b=(s.heap.push {cls:=.type "range",data:=.fields #[.int lo t,.int a u,.int 1 v]}).objs.size:=by simpa using k
  subst e;show d.uf (ke _) (d.AJ.fresh (ke _))
abbrev yJ(a:TA):TI:=λσ H R=>a σ H λb c=>∃j:Int,b=[.int j]/\-(2 ^ 62)<=j/\j<2 ^ 62/\R (Fw 0 j.toNat) c
abbrev yK(a:TA):TI:=λσ H R=>a σ H λb c=>∃i j:Int,b=[.int i,.int j]/\(-(2 ^ 62)<=i/\i<2 ^ 62/\-(2 ^ 62)<=j/\j<2 ^ 62)/\R (Fw i (j - i).toNat) c
def qb(d:Gl X "range")(f:X.mg "range"=b6)(g:PA X [a] i)(hs:mu [a] X.env=[(cb,Ew a X.env)]:=by rfl):PI X o (.Call (.Name "range" p) [a] [] pos) (yJ i):=by
 intro b s σ H R I h;show Call_ (dn I d f boot_range (F_ (AO (g pos b s σ H _ I h) λus s1 ⟨u,v,k,l,c⟩=>?_) hs rfl));have⟨j,e,c,m,q⟩:=c;subst e;cases l with
 |cons r n =>
  cases n;have⟨t,rfl⟩:=r;show call_range_1 (lA k ⋯ ⋯ c m (by simpa using q))
def qc(k:Gl X "range")(l:X.mg "range"=b6)(m:PA X [a,b] n)(hs:mu [a,b] X.env=[(cb,Ew a X.env),(cb,Ew b X.env)]:=by rfl)(g:mu [b] X.env=[(cb,Ew b X.env)]:=by rfl):
  PI X z (.Call (.Name "range" p) [a,b] [] pos) (yK n):=by
 intro c s σ H R I h;show Call_ (dn I k l boot_range (F_ (AO (m pos c s σ H _ I h) λus s1 ⟨A,B,o,u,d⟩=>?_) (by rw[hs,g]) (by rw[g];rfl)));obtain⟨i,j,e,⟨d,v,w,x⟩,q⟩:=d;subst e;cases u with
 |cons r f =>
  cases f with
  |cons y f =>
   cases f;have⟨t,rfl⟩:=r;have⟨t',rfl⟩:=y;show call_range_2 (lA o d v w x q)
abbrev Ag(c:TI)(g:TG)(d:TS):TS:=λD σ H=>c σ H λJ e=>∃W:Nat->Nat->St->Hp->Prop,(∃m,W 0 m σ e)/\∀i m σ H,W i m σ H ->
 (J.stop i H/\D.nx σ H)\/(J.go i H/\∃N:St->Hp->Prop,(∀a H',N a H'->∃b,b<m/\W (i+1) b a H')/\∀x H',J.GB i H x H'->g x σ H' λf h=>d {D with nx:=N,ct:=N,bk:=D.nx} f h)
abbrev gR(a:List hA)(h:DW):List (hA×Obj):=a.filterMap λb=>(h.get? b).map λo=>(b,o)
def cP(a:b∈c)(e:h.get? b=a5 o):(b,o)∈gR c h:=M5.mpr ⟨b,a,by rw[e];rfl⟩
def qd(a:p∈gR c h):p.1∈c/\h.get? p.1=a5 p.2:=by
 have⟨b,d,e⟩:=M5.mp a;cases q:h.get? b with
 |none=>rw[q]at e;cases e
 |some o =>
  rw[q]at e;have f:(b,o)=p:=tj e;subst f;show⟨d,q⟩
def Inv.pinned(I:Inv X a σ H s)(h:∀b∈c,gD X a H b)(ho:∀b∈c,∃o,s.heap.get? b=a5 o/\∀v,o.data≠.cell v):Inv X (a++gR c s.heap) σ H s :=
 I.dM λp i=>(oa.mp i).elim (λz=>I.pin p (pj _ z)) λz=>by
  have⟨f,e⟩:=qd z;obtain⟨j,k,l,_⟩:=h p.1 f;have⟨o,g,d⟩:=ho p.1 f;rw[e]at g;cases g;show⟨e,j,k,l,d⟩
def Inv.gS(I:Inv X (a++c) σ H s):Inv X a σ H s:=I.dM λp b=>I.pin p (pj _ (Ho _ b))
def wY(t:NZ (ko X.prog X.w) X.A X.env X.xe)(hc:X.calm=b5)(hi:PI X tg p wi)(hg:PG X tg g)(c:Bk X body tb)
  (hs:∀x,FW p X.env x=pure x:=by intro _;rfl):PS X (.For tg p body [] pos) (Ag wi g tb):=by
 intro a s σ H D I h;show wpAny_For (AO (hi a s σ H _ I h) λv s1 h1=>AO h1 λGC s2 h2=>?_) hs;obtain⟨it,y,tn,J,H2,e,I2,T,st2,f2,W,⟨m0,w0⟩,z⟩:=h2;subst e;have O:∀{H':Hp},(∀b∈y,H' b=b6)->∀b∈y,gD X a H' b:=λhn b c=>⟨hn b c,(f2 b c).2⟩
 show codeAny_forLoop_any (λn s'=>∃i B H',Inv X a B H' s'/\tn i s'.heap/\(∀b∈y,H' b=b6)/\W i n B H') ?_ m0 ⟨0,σ,H2,I2,st2,λb c=>(f2 b c).1,w0⟩;rintro n s3 ⟨i,C,L,I3,st3,Fx,w3⟩;rcases z i n C L w3 with⟨G,qn⟩|⟨go,N,hN,Pw⟩
 .show He t (AO (T.done X rfl rfl rfl hc i a s3 C L X.xe I3 (O Fx) st3 G) λr s4 Hg=>?_);have⟨Q,I4⟩:=Hg;subst Q;show N7 ⟨C,L,I4,qn⟩
 .show He t (AO (T.item X rfl rfl rfl hc i a s3 C L X.xe I3 (O Fx) st3 go) λr s4 Hh=>?_);have⟨u,Q,h4⟩:=Hh;subst Q;show He t (AO h4 λ_ s5 Hi=>?_);have⟨x,H5,I5,r5,y5,Y,Hj⟩:=Hi;have Hk:=I5.pinned (O Hj) (T.obj _ _ Y);show He t (AO (hg _ s5 C H5 x u _ Hk r5 (Pw x H5 y5)) λ_ s6 Hl=>?_);have⟨σ6,H6,I6,q6⟩:=Hl;show He t (AO (c _ s6 σ6 H6 _ I6 q6) λf s7 q=>?_);have QZ:∀{j:St} {k:Hp},Inv X (a++gR y s5.heap) j k s7->N j k->∃m,m<n/\∃i B H',Inv X a B H' s7/\tn i s7.heap/\(∀b∈y,H' b=b6)/\W i m B H':=λ{j k} l n7=>by
   have⟨m',hm,w7⟩:=hN j k n7;show⟨m',hm,i+1,j,k,l.gS,T.keep _ _ _ Y λb c o e=>(l.pin (b,o) (pj _ (pj _ (cP c e)))).1,λb c=>?_,w7⟩;have⟨o,e,d⟩:=T.obj _ _ Y b c;show(l.pin (b,o) (pj _ (pj _ (cP c e)))).2.1
  cases f with
  |brk=>have⟨j,k,l,q⟩:=q;show⟨j,k,l.gS,q⟩
  |ret v=>have⟨x7,j,k,l,r7,q⟩:=q;show⟨x7,j,k,l.gS,r7,q⟩
  |_=>have⟨j,k,l,n7⟩:=q;show QZ l n7
end
@[reducible]def R2:=V->V->Hp->VK->Prop
abbrev BF(X:Cx)(f:eh->eh->Sem eh)(r:R2):Prop :=
 ∀(a:List (hA×Obj)) (s:gs) (σ:St) (H:Hp) (x y:V) (v u:eh) (Q:VK),Inv X a σ H s->RelV x v->RelV y u->r x y H Q ->
  gi (ko X.prog X.w) X.A (f v u) (EP X a σ Q) X.xe s
abbrev dY(X:Cx)(f:eh)(r:List V->Hp->VK->Prop):Prop :=
 ∀(a:List (hA×Obj)) (s:gs) (σ:St) (H:Hp) (xs:List V) (us:List eh) (Q:VK),Inv X a σ H s->Vals xs us->r xs H Q ->
  gi (ko X.prog X.w) X.A (Ja f us) (EP X a σ Q) X.xe s
abbrev Ah(X:Cx)(r:V->Hp->(Bool->Hp->Prop)->Prop):Prop :=
 ∀(a:List (hA×Obj)) (s:gs) (σ:St) (H:Hp) (x:V) (v:eh) (Q:Bool->Hp->Prop),Inv X a σ H s->RelV x v->r x H Q ->
  gi (ko X.prog X.w) X.A (QM v) (TP X a σ Q) X.xe s
abbrev rI(C:Int->Int->Prop)(g:Int->Int->V):R2:=λx y H Q=>∃i j,x=.int i/\y=.int j/\C i j/\Q (g i j) H
abbrev Ee(g:Int->Int->V):R2:=λx y H Q=>∃i j,x=.int i/\y=.int j/\Q (g i j) H
section
def GD{g:Int->Int->Int}
  (QP:∀(i j:Int) (t u:Tok) (s:gs) (Q:eh->gs->Prop) (E:eh->gs->Prop),C i j->Q (.int (g i j) s.toks) {s with toks:=s.toks+1}->gi (ko X.prog X.w) X.A (f (.int i t) (.int j u)) Q E s) :
  BF X f (rI C λi j=>.int (g i j)):=by
 intro a s σ H x y v u Q I b c h;have⟨i,j,rfl,rfl,d,q⟩:=h;have⟨t,rfl⟩:=b;have⟨t',rfl⟩:=c;show QP i j t t' s _ _ d ⟨.int (g i j),H,I.tok _,⟨_,rfl⟩,q⟩
def yL{g:Int->Int->Int}
  (QP:∀(i j:Int) (t u:Tok) (s:gs) (Q:eh->gs->Prop) (E:eh->gs->Prop),Q (.int (g i j) s.toks) {s with toks:=s.toks+1}->gi (ko X.prog X.w) X.A (f (.int i t) (.int j u)) Q E s) :
  BF X f (Ee λi j=>.int (g i j)):=by
 intro a s σ H x y v u Q I b c h;have⟨i,j,rfl,rfl,q⟩:=h;have⟨t,rfl⟩:=b;have⟨t',rfl⟩:=c;show QP i j t t' s _ _ ⟨.int (g i j),H,I.tok _,⟨_,rfl⟩,q⟩
def wZ{g:Int->Int->Bool}
  (QP:∀(i j:Int) (t u:Tok) (s:gs) (Q:eh->gs->Prop) (E:eh->gs->Prop),Q (.bool (g i j)) s->gi (ko X.prog X.w) X.A (f (.int i t) (.int j u)) Q E s) :
  BF X f (Ee λi j=>.bl (g i j)):=by
 intro a s σ H x y v u Q I b c h;have⟨i,j,rfl,rfl,q⟩:=h;have⟨t,rfl⟩:=b;have⟨t',rfl⟩:=c;show QP i j t t' s _ _ ⟨.bl (g i j),H,I,rfl,q⟩
abbrev Ai(i j:Int):Prop:=0<j/\j<1073741824
abbrev Aj(i j:Int):Prop:=0<=j/\j<=1000000/\i.natAbs<2 ^ 64
abbrev w9(i j:Int):Prop:=(-(2 ^ 64)<i/\i<2 ^ 64)\/(-(2 ^ 64)<j/\j<2 ^ 64)
def w9.ok(h:w9 i j):IntMulOk i j:=by
 rcases h with⟨a,b⟩|⟨a,b⟩
 .show .of_left (intBits_le_64 a b)
 .show .of_right (intBits_le_64 a b)
def d9:BF X (J2 .Add) (Ee λi j=>.int (i+j)):=yL λ_ _ _ _ _ _ _ q=>add_int q
def mR:BF X (J2 .Sub) (Ee λi j=>.int (i - j)):=yL λ_ _ _ _ _ _ _ q=>sub_int q
def jV:BF X (J2 .Mult) (rI w9 λi j=>.int (i * j)):=GD λ_ _ _ _ _ _ _ a q=>mul_int q a.ok
def uh:BF X (J2 .FloorDiv) (rI Ai λi j=>.int (i / j)):=GD λi j _ _ _ _ _ a q=>by
 have b:(0:Int)<j:=a.1;have c:j<1073741824:=a.2;show floordiv_int ⋯ (by rw[Int.fdiv_eq_ediv_of_nonneg i ⋯];show q) (.inl (PyProof.noPylong_small ⋯))
def bX:BF X (J2 .Mod) (rI (λ_ j=>0<j) λi j=>.int (i % j)):=GD λi j _ _ _ _ _ a q=>by
 have b:(0:Int)<j:=a;show mod_int' ⋯ (by rw[Int.fmod_eq_emod_of_nonneg i ⋯];show q)
def jW:BF X (J2 .Pow) (rI Aj λi j=>.int (i ^ j.toNat)):=GD λ_ _ _ _ _ _ _ a q=>pow_int_small a.1 a.2.1 a.2.2 q
end
section
def w_(I:Inv X a σ H s)(q:Q (.bl k) H)(e:k=k'):EP X a σ Q (.bool k') s:=by
 subst e;show⟨.bl k,H,I,rfl,q⟩
def yM:BF X (Gm .Lt) (Ee λi j=>.bl (et (i<j))):=wZ λ_ _ _ _ _ _ _ q=>lt_int q
def yN:BF X (Gm .Gt) (Ee λi j=>.bl (et (j<i))):=wZ λ_ _ _ _ _ _ _ q=>gt_int q
def yO:BF X (Gm .GtE) (Ee λi j=>.bl (et (j<=i))):=wZ λ_ _ _ _ _ _ _ q=>ge_int q
def qe:BF X (Gm .In) (λx y H Q=>∃i j,x=.str i/\y=.str j/\Q (.bl (!(uk j i 0 j.length 1).isEmpty)) H):=by
 intro a s σ H x y v u Q I b c h;have⟨i,j,rfl,rfl,q⟩:=h;have⟨t,rfl⟩:=b;have⟨t',rfl⟩:=c;show in_str (w_ I q rfl)
abbrev yP(K:PySem.W.Frag)(x:V)(H:Hp)(k:Bool):Prop :=
 match x with
 |.AM=>k=cb
 |.bl b=>k=b
 |.int i=>k=(i != 0)
 |.str y=>y.length<=df/\k=((y.length:Int) != 0)
 |.Gv y=>y.size<=df/\k=((y.size:Int) != 0)
 |.ref p=>(∃xs,A_ K H p xs/\k=!xs.isEmpty)\/(∃xs,Bb K H p xs/\k=!xs.isEmpty)\/∃a,H p=a5 (.dK a)/\k=!a.isEmpty
 |_=>False
def mS(r:KV a b):(!b.isEmpty)=!a.isEmpty:=by
 cases r<;>rfl
def gT(r:Vals xs a):(!a.toArray.isEmpty)=!xs.isEmpty:=by
 cases r<;>simp
def d_:(df:Nat)<2 ^ 63:=by rw[sizeLine_eq];decide
def xa:Ah X (λx H Q=>∃k,yP X.K x H k/\Q k H):=by
 intro n s σ H x v Q I d h;have⟨k,e,q⟩:=h;have hl:=d_;have hs:df=16777216:=sizeLine_eq;cases x with
 |AM =>
  cases d;have a:k=cb:=e;subst a;show truthy_none ⟨H,I,q⟩
 |bl b =>
  cases d;have a:k=b:=e;subst a;show FR ⟨H,I,q⟩
 |int i =>
  have⟨t,rfl⟩:=d;have a:k=(i != 0):=e;subst a;show PySem.P.truthy_int ⟨H,I,q⟩
 |str y =>
  have⟨t,rfl⟩:=d;obtain⟨o,a⟩:y.length<=df/\k=((y.length:Int) != 0):=e;subst a;show PySem.P.truthy_str ⋯ ⟨H,I.tok _,q⟩
 |Gv y =>
  have⟨t,rfl⟩:=d;obtain⟨o,a⟩:y.size<=df/\k=((y.size:Int) != 0):=e;subst a;show PySem.W.truthy_bytes ⋯ ⟨H,I.tok _,q⟩
 |ref p =>
  cases d;have a:(∃xs,A_ X.K H p xs/\k=!xs.isEmpty)\/(∃xs,Bb X.K H p xs/\k=!xs.isEmpty)\/∃f,H p=a5 (.dK f)/\k=!f.isEmpty:=e;rcases a with⟨xs,g,a⟩|⟨xs,g,a⟩|⟨f,g,a⟩
  .subst a;have⟨u,r,l,hz⟩:=I.list g;have c:=r.length;show wpAny_truthy_list l.isList (by simp only[i5];lia) ⟨H,I.tok _,by rw[gT r];show q⟩
  .subst a;have⟨u,r,l,hz⟩:=I.tuple g;have c:=r.length;show truthy_tuple l (by simp only[i5];lia) ⟨H,I.tok _,by rw[gT r];show q⟩
  .subst a;obtain⟨hz,z,j,r,m⟩:f.length<=df/\(p==C8)=cb/\∃j,KV f j/\s.heap.DictOf (bb X.prog X.w) p j:=I.AJ p _ g;have c:f.length=j.length:=Paired.length r;show wpAny_truthy_dict z m ⋯ ⟨H,I.tok _,by rw[mS r];show q⟩
 |_=>show(show False from e).elim
def rj(d:PE X a e)(f:∀b,isTrue a X.env b=(do let v <-b;OW a.pos;IX [v] (QM v))):
  PT X a (λσ H Q=>e σ H λx H'=>∃k,yP X.K x H' k/\Q k H'):=by
 intro c s σ H Q I h;show isTrue_plain (AO (d c s σ H _ I h) λv s1 ⟨x,g,i,j,l⟩=>xa c s1 σ g x v Q i j l) (f _)
def mT:BF X (J2 .Add) (λx y H Q=>∃i j,x=.str i/\y=.str j/\i.length+j.length<=df/\Q (.str (i++j)) H):=by
 intro a s σ H x y v u Q I b c h;have⟨i,j,rfl,rfl,hz,q⟩:=h;have⟨t,rfl⟩:=b;have⟨t',rfl⟩:=c;show add_str (λt' d=>⟨.str (i++j),H,I.tok _,⟨_,rfl⟩,q⟩) hz
def vals1(r:Vals [x] us):∃u,us=[u]/\RelV x u:=by
 cases r with
 |cons a b=>cases b;show⟨_,rfl,a⟩
def vals2(r:Vals [x,y] us):∃u a,us=[u,a]/\RelV x u/\RelV y a:=by
 cases r with
 |cons b c =>
  cases c with
  |cons d e=>cases e;show⟨_,_,rfl,b,d⟩
def qf:dY X (.type "int") (λxs H Q=>(∃i,xs=[.int i]/\Q (.int i) H)\/∃k,xs=[.bl k]/\Q (.int (if k then 1 else 0)) H):=by
 intro a s σ H xs us Q I r h;rcases h with⟨i,rfl,q⟩|⟨k,rfl,q⟩
 .have⟨u,rfl,t,rfl⟩:=vals1 r;show call_int_int ⟨.int i,H,I,⟨_,rfl⟩,q⟩
 .have⟨u,rfl,b⟩:=vals1 r;cases b;show call_int_bool ⟨.int (if k then 1 else 0),H,I.tok _,⟨_,rfl⟩,q⟩
def jX:dY X (.type "str") (λxs H Q=>∃i,xs=[.int i]/\i.natAbs.log2<1920/\Q (.str (QK i)) H):=by
 intro a s σ H xs us Q I r h;have⟨i,rfl,hz,q⟩:=h;have⟨u,rfl,t,rfl⟩:=vals1 r;show PySem.P.str_of_int hz ⟨.str _,H,I.tok _,⟨_,rfl⟩,q⟩
end
section
end
section
end
structure Ks(K:PySem.W.Frag)(C:hA):Prop where
 pg:PySem.W.plainGet K C EA=b5
 hd:PySem.W.hasDictIn K C=b5
 po:PySem.W.plainOver K C=b5
 sa:PySem.W.findIn K (.ref C) "__setattr__"=a5 (a5 (.builtin "object.__setattr__"))
section
end
section
end
section
inductive gU(K:PySem.W.Frag)(H:Hp):V->eh->Prop where
 |AM:gU K H .AM (.type "NoneType")
 |bl (x:Bool):gU K H (.bl x) (.type "bool")
 |int (i:Int):gU K H (.int i) (.type "int")
 |str (x:Str):gU K H (.str x) (.type "str")
 |Gw (x:UInt64):gU K H (.Gw x) (.type "float")
 |lst {a:hA} {xs:List V} (e:H a=a5 (.lst xs)):gU K H (.ref a) (.type "list")
 |Cq {a:hA} {o:Obj} {xs:List V} (e:H a=a5 (.Cq o (.lst xs))):gU K H (.ref a) (.type "list")
 |tup {a:hA} {xs:List V} (e:H a=a5 (.tup xs)):gU K H (.ref a) (.type "tuple")
 |dK {a:hA} {AF:List (Key×V)} (e:H a=a5 (.dK AF)):gU K H (.ref a) (.type "dict")
 |dT {a:hA} {AF:List (List Key×V)} (e:H a=a5 (.dT AF)):gU K H (.ref a) (.type "dict")
 |ins {a C dx:hA} {fs:List (Str×V)} (e:H a=a5 (.ins C dx fs)) (cl:Ks K C) (ha:PySem.W.findIn K (.ref C) "__class__"=a5 (a5 (.builtin "object.__class__")))
   (hn:PySem.W.specialIn K (.builtin "object.__class__") "__get__"=a5 (a5 (.builtin "getset_descriptor.__get__"))) (Kt:PySem.W.takesIn K (.builtin "object.__class__")=a5 b5)
   (hm:PySem.W.mroIn K C (.type "object")=a5 b5):gU K H (.ref a) (.ref C)
end
structure ef(k:Nat)(A:Gp):Prop where
 hd:A.handled=b6
 dp:A.depth+3 * k+5<QQ
 un:A.units+16 * k+200<y0
 gd:A.guards=a5 []
def ef.deeper(r:ef (k+1) A)(env:Env):ef k (A.deeper env) :=
 ⟨r.hd,by have:=r.dp;change A.depth+1+3 * k+5 < _;lia,by have:=r.un;change A.units+3+16 * k+200 < _;lia,r.gd⟩
def ef.depth(r:ef k A):A.depth<QQ:=by have:=r.dp;lia
abbrev Ak:TA:=λ_ H Q=>Q [] H
abbrev yQ(a:TE)(b:TA):TA:=λσ H Q=>a σ H λx c=>b σ c λxs d=>Q (x::xs) d
section
def jY:PA X [] Ak:=λ_ _ _ _ H Q I h=>M_ ⟨[],H,I,.nil,h⟩
def eT(b:PE X e c)(d:PA X es t)(hs:mu (e::es) X.env=(cb,Ew e X.env)::mu es X.env:=by rfl):PA X (e::es) (yQ c t):=by
 intro pos a s σ H Q I h;rw[hs];change gi _ _ (Qe ((cb,Ew e X.env)::Fq pos (mu es X.env))) _ _ s;show MX (AO (b a s σ H _ I h) λu s1 f=>?_);have⟨x,g,i,j,k⟩:=f;show AO (d pos a s1 σ g _ i k) λus s2 ⟨xs,l,m,n,o⟩=>⟨x::xs,l,m,.cons j n,o⟩
end
@[reducible]def Sp:=List V->Hp->VK->XK->Prop
@[reducible]def EV:=List Env->Hp->gs->XK->eh->gs->Prop
structure ui(P:ve)(w:y1)(K:PySem.W.Frag)(mg:Str->Option eh)(base:DW)(A:Gp)(outer:List Env)(s:gs)(H:Hp):Prop where
 frames:A.frames=a5 outer
 mod:Mod K mg base
 bs:∀b o,base.get? b=a5 o->s.heap.get? b=a5 o/\H b=b6
 DK:base.objs.size<=s.heap.objs.size
 gO:s.heap.FunFrames base outer
 ER:∀b∈Cg outer,H b=b6
 AJ:Bh P w H s.heap
 bare:MP s.gens
abbrev CE(outer:List Env)(P:ve)(w:y1)(H:Hp)(s:gs)(Q:VK)(u:eh)(s':gs):Prop :=
 ∃v H',s'.os=s.os/\MP s'.gens/\Un (Cg outer) [] H H' s.heap s'.heap/\Bh P w H' s'.heap/\RelV v u/\Q v H'
abbrev CR(CX:EV)(outer:List Env)(P:ve)(w:y1)(H:Hp)(s:gs)(Q:VK)(E:XK)(r:Q1)(s':gs):Prop :=
 match r with
 |.ok (.ret u)=>CE outer P w H s Q u s'
 |.ok _=>False
 |.error e=>CX outer H s E e s'
structure lB(P:ve)(w:y1)(K:PySem.W.Frag)(mg:Str->Option eh)(base:DW)(CX:EV)(k:Nat)(f:hA)(fd:LV)(ps:List Str)(sp:Sp):Prop where
 len:∀vs H Q E,sp vs H Q E->vs.length=ps.length
 run:∀(A:Gp) (outer:List Env) (s:gs) (H:Hp) (args:Args) (us:List eh) (vs:List V) (Q:VK) (E:XK),ef k A->ui P w K mg base A outer s H->O6 s fd args (ps.zip us)->Vals vs us->sp vs H Q E ->
  Kw (ko P w) A (.call (.ref f) args) (CR CX outer P w H s Q E) s
section
def Inv.Al(I:Inv X a σ H s):ui X.prog X.w X.K X.mg X.base X.A X.stack s H :=
 ⟨I.ok.frames,I.ok.mod,I.bs,y2 I.ok.DK I.sz,I.stack,I.oz,I.AJ,I.bare⟩
def Inv.after(I:Inv X a σ H s)(h:CE X.stack X.prog X.w H s Q u s'):EP X a σ Q u s':=by
 have⟨v,H',os,c,e,f,r,q⟩:=h;have⟨hh,g,d,t,i⟩:=s';obtain rfl:i=s.os:=os;show⟨v,H',I.call (h':=hh) (g':=g) (d':=d) (t':=t) (ch:=[]) e f c (λb z=>absurd z (by simp)),r,q⟩
end
abbrev Binds(K:PySem.W.Frag)(c:LV)(a:List Str)(b:List eh):Prop :=
 ∀(s:gs) (us:List eh),K.In s.heap->(us++b).length=a.length->O6 s c ⟨us,[]⟩ (a.zip (us++b))
def Binds.all{K:PySem.W.Frag}(h:∀us:List eh,us.length=a.length->QX b ⟨us,[]⟩=pure (a.zip us)):Binds K b a []:=λs us _ hl=>by
 rw[DY]at hl ⊢;show .of_eq (h us hl)
abbrev Passes(CX:EV)(X:Cx)(E:XK):Prop:=∀(a:List (hA×Obj)) (σ:St) (H:Hp) (s:gs) (e:eh) (s':gs),Inv X a σ H s->CX X.stack H s E e s'->X.xe e s'
section
def xb(F:lB X.prog X.w X.K X.mg X.base CX k f l i sp)(m:ef k X.A)(n:Binds X.K l i b)(o:Vals c b)(p:Passes CX X E)
  (I:Inv X a σ H s) (r:Vals d us) (h:sp (d++c) H Q E):gi (ko X.prog X.w) X.A (Ja (.ref f) us) (EP X a σ Q) X.xe s:=by
 have j:Vals (d++c) (us++b):=r.append o;have hl:(us++b).length=i.length:=by rw[<-j.length];show F.len _ _ _ _ h
 show P5 (I_ (F.run X.A X.stack s H ⟨us,[]⟩ (us++b) (d++c) Q E m I.Al (n s us I.ES hl) j h) λr s' g=>?_);cases r with
 |error e=>show p a σ H s e s' I g
 |ok q =>
  cases q with
  |ret u=>show I.after g
  |_=>show Hn g
end
section
end
structure cQ(N P:List Str)(sc:Gn):Prop where
 kind:sc.kind=.function
 co:sc.isCoroutine=cb
 gen:sc.isGenerator=cb
 nd:N.Nodup
 pre:N.take P.length=P
 par:∀x∈P,sc.names.lookup x=a5 .local\/sc.names.lookup x=a5 .cell
 Ef:∀y∈sc.names,y.2≠.free
theorem jr{kindOf:Str->Option EI}:∀{a:List (Str×eh)}{m:Str->Option eh},(∀v,(x,v)∉a)->OO kindOf a m x=m x
 |[],_,_=>rfl
 |(n,v)::r,m,h=>by
  unfold OO;rw[jr λw b=>h w (eu _ b)];split
  .have:x≠n:=by rintro rfl;show h v gm
   simp[this]
  .rfl
theorem js{kindOf:Str->Option EI}:∀{a:List (Str×eh)}{m:Str->Option eh},(∀v,(x,v)∉a)->OP kindOf a m x=m x
 |[],_,_=>rfl
 |(n,v)::r,m,h=>by
  unfold OP;rw[js λw b=>h w (eu _ b)];split
  .rfl
  .have:x≠n:=by rintro rfl;show h v gm
   simp[this]
theorem jt{kindOf:Str->Option EI}:∀{P:List Str}{a:List eh}{i:Nat}{m:Str->Option eh},P.Nodup->P[i]?=a5 x->a[i]?=a5 v->kindOf x=a5 .local ->
  OO kindOf (P.zip a) m x=a5 v
 |[],_,_,_,_,h,_,_=>by simp at h
 |_::_,[],_,_,_,_,h,_=>by simp at h
 |p::P,w::a,0,m,d,b,c,hk=>by
  simp at b c;subst b;subst c;change OO kindOf ((p,w)::P.zip a) m p=_;unfold OO;rw[jr λv e=>(CZ.mp d).1 (Nz e).1,Q8 hk];simp
 |p::P,w::a,i+1,m,d,b,c,hk=>by
  change OO kindOf ((p,w)::P.zip a) m x=_;unfold OO;show jt (i:=i) (CZ.mp d).2 (by simpa using b) (by simpa using c) hk
theorem ju{kindOf:Str->Option EI}:∀{P:List Str}{a:List eh}{i:Nat}{m:Str->Option eh},P.Nodup->P[i]?=a5 x->a[i]?=a5 v->kindOf x≠a5 .local ->
  OP kindOf (P.zip a) m x=a5 v
 |[],_,_,_,_,h,_,_=>by simp at h
 |_::_,[],_,_,_,_,h,_=>by simp at h
 |p::P,w::a,0,m,d,b,c,hk=>by
  simp at b c;subst b;subst c;change OP kindOf ((p,w)::P.zip a) m p=_;unfold OP;rw[js λv e=>(CZ.mp d).1 (Nz e).1,Q9 hk];simp
 |p::P,w::a,i+1,m,d,b,c,hk=>by
  change OP kindOf ((p,w)::P.zip a) m x=_;unfold OP;show ju (i:=i) (CZ.mp d).2 (by simpa using b) (by simpa using c) hk
abbrev start(N:List Str)(a:List V):St:=a.map a5++g5 (N.length - a.length) b6
abbrev mU(CX:EV)(P:ve)(w:y1)(K:PySem.W.Frag)(mg:Str->Option eh)(base:DW)(N:List Str)(a:Str)(scope:Gn)(f:hA)(b:eh)(A:Gp)(outer:List Env)(s:gs)(H:Hp)(E:XK):Cx where
 prog:=P
 w:=w
 K:=K
 mg:=mg
 base:=base
 A:=A.deeper (M' a scope s.heap.objs.size f b)
 N:=N
 s₀:=s
 H₀:=H
 env:=M' a scope s.heap.objs.size f b
 outer:=outer
 stack:=M' a scope s.heap.objs.size f b::outer
 ex:=[]
 calm:=b5
 fn:=λ_=>b5
 pn:=[]
 xe:=λe s'=>gi (ko P w) (A.deeper (M' a scope s.heap.objs.size f b)) (leaving (M' a scope s.heap.objs.size f b) e) (λ_ c=>CX outer H s E e c) (λd c=>CX outer H s E d c) s'
def lC{a:Gn}(h:a.names.lookup x=a5 .cell):∃c,(FQ n a.names []).lookup x=a5 c:=by
 have q:=PySem.W.cellsFrom_some a.names n [] (.inl h);show NS.mp q
def qg{K:PySem.W.Frag}
  (S:cQ N l scope) (J:A.handled=b6) (j:ui P w K mg base A outer s H) (hl:m.length=l.length) (r:Vals m us)
  (x:InCallC s s.heap.objs.size (OO (M' g scope s.heap.objs.size f C).kindOf (l.zip us) λ_=>b6) (FQ (s.heap.objs.size+1) scope.names []) (OP (M' g scope s.heap.objs.size f C).kindOf (l.zip us) λ_=>b6) s1) :
  Inv (mU CX P w K mg base N g scope f C A outer s H E) [] (start N m) H s1:=by
 have Q:l.length<=N.length:=by have:=Rb Ge S.pre;rw[rr]at this;lia
 have⟨t,T,rfl,hk⟩:=x.done;have D:∀b:hA,b∉(mU CX P w K mg base N g scope f C A outer s H E).ex:=λb z=>absurd (show b∈([]:List hA) from z) (by simp);show⟨⟨j.mod,S.kind,rfl,rfl,ke _,λy z c t d=>?_,λy hy=>?_,λy c _ h=>?_,λ_=>J,Around.frames_deeper j.frames,.inr ⟨rfl,rfl⟩,λb z=>absurd z (D b),j.bs,j.DK,λb _ _=>D b,λb z=>absurd z (D b),j.gO,j.ER⟩,
  rfl,j.bare,Un.kept hk,⟨_,x.toInCall.ns,λi y v t d Y=>?_⟩,λy c h=>⟨_,x.cell y c h⟩,j.AJ.fresh (ke _),λy c h=>?_,λp o=>absurd (show p∈([]:List (hA×Obj)) from o) (by simp),j.AJ.kept hk,?_⟩
 .show name_of_addr x.apart (PySem.mem_of_lookup t) (PySem.mem_of_lookup d)
 .have hy:scope.names.lookup y=a5 .cell\/scope.names.lookup y=a5 .free:=hy;rcases hy with hy|hy
  .show lC hy
  .show absurd rfl (S.Ef _ (PySem.mem_of_lookup hy))
 .show FO (x.above y c (PySem.mem_of_lookup h))
 .have B:i<m.length:=by
   unfold start at d;by_cases B:i<m.length
   .show B
   .rw[sx (by simpa using B)]at d;rw[F3]at d;split at d<;>cases d
  have L:m[i]?=a5 v:=by
   unfold start at d;rw[tr (by simpa using B),nc]at d;cases e:m[i]? with
   |none=>rw[e]at d;cases d
   |some a=>rw[e]at d;cases d;rfl
  have⟨u,G,O⟩:=r.get L;have o:l[i]?=a5 y:=by
   rw[<-S.pre,N4 ⋯];show t
  have I:l.Nodup:=by rw[<-S.pre];show S.nd.sublist (O' _ _)
  show⟨u,O,?_⟩;rcases S.par y (DN o) with k|k
  .show .inl ⟨k,jt I o G k⟩
  .have⟨c,e⟩:=lC (n:=s.heap.objs.size+1) k;show .inr ⟨.inl k,c,e,?_⟩;have q:=x.cell y c e;rw[ju I o G (by change scope.names.lookup y≠_;rw[k];decide)]at q;show q
 .show j.AJ.fresh (FO (x.above y c (PySem.mem_of_lookup h)))
 .unfold start;change _=N.length;rw[mh,ek,IE];lia
def yR{K:PySem.W.Frag}{D kV h G g ct T:eh}
 (lk:K.lookup f=a5 ⟨T,od,.func (PySem.W.fnOf name a c body scope D kV h G Y g ct),FA⟩) (B6:PySem.W.codeIn K g a=b5) (S:cQ N p scope)
    (i:∀d H Q E,sp d H Q E->d.length=p.length)
    (CJ:∀(A:Gp) (outer:List Env) (s:gs) (H:Hp) (d:List V) (Q:VK) (E:XK),ef k (A.deeper (M' a scope s.heap.objs.size f g))->sp d H Q E ->
      ∃t,Bk (mU CX P w K mg base N a scope f g A outer s H E) body t/\t {nx:=λ_ H'=>Q .AM H',rt:=Q} (start N d) H) :
    lB P w K mg base CX (k+1) f (PySem.W.fnOf name a c body scope D kV h G Y g ct) p sp:=by
  show⟨i,λA outer s H args us d Q E z j hb r L=>?_⟩;have hl:=i _ _ _ _ L;have O:K.In s.heap:=j.mod.G8.keeps λb o e=>(j.bs b o e).1;have B:s.heap.NoLimit:=j.mod.nolimit.keeps λb o e=>(j.bs b o e).1;have FC:∀y∈p.zip us,scope.names.lookup y.1=a5 .local\/(scope.names.lookup y.1=a5 .cell/\((FQ (s.heap.objs.size+1) scope.names []).lookup y.1).isSome=b5):=λ⟨n,v⟩ hy=>by
    rcases S.par n (Nz hy).1 with q|q
    . show .inl q
    . show .inr ⟨q,PySem.W.cellsFrom_some _ _ _ (.inl q)⟩
  show codeAny_call_function z.depth (O _ _ lk) rfl S.co S.gen rfl (PySem.W.codeRec_of O B6) (hb _ _ _ _ ?_);show wpAny_newFunctionEnv_cells S.kind FC λenv he s1 x=>?_;subst he;show⟨B.keeps x.toInCall.keep,codeAny_func ?_⟩;have⟨t,ht,hq⟩:=CJ A outer s H d Q E (z.deeper _) L;have I:Inv (mU CX P w K mg base N a scope f g A outer s H E) [] (start N d) H s1:=qg S z.hd j hl r x;show B9 (ht [] s1 (start N d) H _ I hq) (λfl s' hs=>?_) λe s' hs=>hs;have l:∀{m:St} {H':Hp} {v:V} {u:eh},Inv (mU CX P w K mg base N a scope f g A outer s H E) [] m H' s'->RelV v u->Q v H'->CE outer P w H s Q u s' :=
    λ{m H' v u} J C q=>⟨v,H',J.os,J.bare,J.base,J.AJ,C,q⟩
  cases fl with
  | ret u =>
    have⟨v,m,H',J,C,q⟩:=hs;show l J C q
  | next =>
    have⟨m,H',J,q⟩:=hs;show l (v:=V.AM) (u:=CA) J rfl q
  | brk =>
    obtain⟨_,_,_,q⟩:=hs;show Hn q
  | cont =>
    obtain⟨_,_,_,q⟩:=hs;show Hn q
section
end
end L2
namespace HT
open PySem PyProof.Rows
section
open PySem.SeqAt
open PySem.AutoSeq1 (wpAny_loadPart')
open PySem.MeetsSeq PySem.MeetsSeq2 PySem.MeetsSeq3
end
section
abbrev BG(n d:Nat):Option Int->Nat
 |none=>d
 |some v=>if v<0 then(v+(n:Int)).toNat else min v.toNat n
def rl(n d:Nat):BG n d b6=d:=rfl
def uj(n d k:Nat):BG n d (a5 (k:Int))=min k n:=by
 change(if (k:Int)<0 then((k:Int)+(n:Int)).toNat else min (k:Int).toNat n)=min k n;rw[Q9 ⋯,IB]
end
end HT
namespace L2
open PySem PySem.Spec PyProof.Rows
@[reducible]def TO:=St->Hp->(Option Int->Hp->Prop)->Prop
abbrev PO(X:Cx)(e:Option ri)(t:TO):Prop :=
 ∀(a:List (hA×Obj)) (s:gs) (σ:St) (H:Hp) (Q:Option Int->Hp->Prop),Inv X a σ H s->t σ H Q ->
  gi (ko X.prog X.w) X.A (evalPart e X.env) (λu s'=>∃o H',Inv X a σ H' s'/\IsPart u o/\Q o H') X.xe s
abbrev um:TO:=λ_ H Q=>Q b6 H
abbrev yS(t:TE):TO:=λσ H Q=>t σ H λx a=>∃i,x=.int i/\Q (a5 i) a
section
variable{X:Cx}{e:ri}{te:TE}{lo hi:Option ri}{tl th:TO}{pos p2:Pos}
def uo:PO X b6 um:=by
 intro a s σ H Q I h;rw[evalPart_none];show c4 ⟨b6,H,I,.none,h⟩
def ur(h:PE X e te):PO X (a5 e) (yS te):=by
 intro a s σ H Q I b;rw[evalPart_some];show AO (h a s σ H _ I b) λu s1 c=>?_;have⟨x,d,f,g,j⟩:=c;have⟨i,rfl,q⟩:=j;have⟨t,rfl⟩:=g;show⟨a5 i,d,f,.int i t,q⟩
abbrev DP(X:Cx)(r:V->Option Int->Option Int->Hp->VK->Prop):Prop :=
 ∀(a:List (hA×Obj)) (s:gs) (σ:St) (H:Hp) (x:V) (v b c:eh) (lo hi:Option Int) (d:hA) (Q:VK),Inv X a σ H s->RelV x v->s.heap.IsSliceOf d b c .none->IsPart b lo->IsPart c hi->r x lo hi H Q ->
  ∃T id,typeLookup (.type T) "__getitem__"=pure (a5 (.builtin id))/\s.TypeIs v T/\gi (ko X.prog X.w) X.A (getItem v (.ref d)) (EP X a σ Q) X.xe s
def DP.or(h:DP X r)(h':DP X j):DP X (λx lo hi H Q=>r x lo hi H Q\/j x lo hi H Q):=by
 intro a s σ H x v b c lo hi d Q I f hs g i q;rcases q with q|q
 .show h a s σ H x v b c lo hi d Q I f hs g i q
 .show h' a s σ H x v b c lo hi d Q I f hs g i q
abbrev Ku(r:V->Option Int->Option Int->Hp->VK->Prop)(te:TE)(tl th:TO):TE:=λσ H Q=>te σ H λx a=>tl σ a λl b=>th σ b λu c=>r x l u c Q
def rm(g:DP X r)(i:PE X e te)(hl:PO X lo tl)(j:PO X hi th):PE X (.Subscript e (.Slice lo hi b6 p2) pos) (Ku r te tl th):=by
 intro a s σ H Q I h;show Subscript_ (AO (i a s σ H _ I h) λv s1 k=>?_);have⟨x,m,n,o,p⟩:=k;show wpAny_Slice (AO (hl a s1 σ m _ n p) λc s2 ⟨l,t,y,z,B⟩=>AO (j a s2 σ t _ y B) λd s3 C=>?_);have⟨u,f,D,G,J⟩:=C;rw[evalPart_none];show c4 ?_;have L:Inv X a σ f {s3 with heap:=s3.heap.push {cls:=.type "slice",data:=.fields #[c,d,.none]}}:=D.kept (t':=s3.toks) λb ob q=>ea _ q;have⟨T,id,N,O,Y⟩:=g a {s3 with heap:=s3.heap.push {cls:=.type "slice",data:=.fields #[c,d,.none]}} σ f x v c d l u s3.heap.objs.size Q L o (Qm ..) z G J;change gi (ko X.prog X.w) X.A (OJ e (.Slice lo hi b6 p2) v (.ref s3.heap.objs.size)) (EP X a σ Q) X.xe {s3 with heap:=s3.heap.push {cls:=.type "slice",data:=.fields #[c,d,.none]}};show tail_any (ops:=[.ref s3.heap.objs.size,v]) O N Y (by with_unfolding_all rfl)
abbrev qh(xs:List V)(lo hi:Option Int):List V:=(xs.drop (HT.BG xs.length 0 lo)).take (HT.BG xs.length xs.length hi - HT.BG xs.length 0 lo)
def lD(xs:List V)(lo hi:Option Int):(qh xs lo hi).length<=xs.length:=by
 unfold qh;rw[rr,F0];lia
end
abbrev Dp(n:Nat)(i:Int):Option Nat:=if 0<=i then(if i<n then a5 i.toNat else b6) else if -(n:Int)<=i then a5 (i+n).toNat else b6
abbrev AX{α:Type}(xs:List α)(i:Int):Option α:=(Dp xs.length i).bind λj=>xs[j]?
def oE{n:Nat}(h:Dp n i=a5 j):seqIndex? i n=a5 j/\j<n/\-(n:Int)<=i/\i<n:=by
 unfold Dp at h;by_cases b:0<=i
 .rw[Q8 b]at h;by_cases a:i<n
  .rw[Q8 a]at h;have e:i.toNat=j:=tj h;show⟨by rw[Px b a,e],⋯,⋯,a⟩
  .rw[Q9 a]at h;cases h
 .rw[Q9 b]at h;by_cases a:-(n:Int)<=i
  .rw[Q8 a]at h;have e:(i+n).toNat=j:=tj h;show⟨by rw[seqIndex_neg ⋯ a,e],⋯,a,⋯⟩
  .rw[Q9 a]at h;cases h
def jZ(h:AX xs i=a5 v):∃j,seqIndex? i xs.length=a5 j/\xs[j]?=a5 v/\j<xs.length/\-(xs.length:Int)<=i/\i<xs.length:=by
 unfold AX at h;cases e:Dp xs.length i with
 |none=>rw[e]at h;cases h
 |some j =>
  rw[e]at h;have⟨a,b,c,d⟩:=oE e;show⟨j,a,h,b,c,d⟩
def bS{j:Nat}(h:xs[j]?=a5 v):AX xs (j:Int)=a5 v:=by
 have a:j<xs.length:=(l2.mp h).1;have e:Dp xs.length (j:Int)=a5 j:=by
  unfold Dp;rw[Q8 ⋯,Q8 ⋯];simp
 unfold AX;rw[e];show h
abbrev j3(b:ri):Prop:=∀o i,subscripted b cb o i=operate [o,i] (getItem o i)
abbrev Hs(X:Cx)(r:R2):Prop :=
 ∀(c a:ri) (b:List (hA×Obj)) (s:gs) (σ:St) (H:Hp) (x y:V) (v u:eh) (Q:VK),Inv X b σ H s->RelV x v->RelV y u->r x y H Q ->
  subscripted a cb v u=operate [v,u] (getItem v u)->gi (ko X.prog X.w) X.A (OJ c a v u) (EP X b σ Q) X.xe s
abbrev EW(X:Cx)(id:String)(r:V->List V->Hp->VK->Prop):Prop :=
 ∀(a:List (hA×Obj)) (s:gs) (σ:St) (H:Hp) (x:V) (xs:List V) (v:eh) (us:List eh) (Q:VK),Inv X a σ H s->RelV x v->Vals xs us->r x xs H Q ->
  gi (ko X.prog X.w) X.A (Ja (.builtin id) (v::us)) (EP X a σ Q) X.xe s
section
abbrev Am(K:PySem.W.Frag):R2:=λx y H Q=>∃p xs i v,x=.ref p/\y=.int i/\A_ K H p xs/\AX xs i=a5 v/\Q v H
abbrev An(K:PySem.W.Frag):R2:=λx y H Q=>∃p xs i v,x=.ref p/\y=.int i/\Bb K H p xs/\AX xs i=a5 v/\Q v H
abbrev Ao:R2:=λx y H Q=>∃z i c,x=.str z/\y=.int i/\z.length<=df/\AX z.cps.toList i=a5 c/\Q (.str ⟨#[c]⟩) H
def uu:Hs X (Am X.K):=by
 intro d f a s σ H x y v u Q I n A h hs;have⟨p,xs,i,z,rfl,rfl,B,C,q⟩:=h;cases n;have⟨t,rfl⟩:=A;have⟨D,r,g,hz⟩:=I.list B;have⟨j,c,G,O,J,L⟩:=jZ C;have⟨w,l,N⟩:=r.get G;have hl:=r.length;have Y:=d_;have b:EP X a σ Q w s:=⟨z,H,I,N,q⟩
 by_cases m:0<=i
 .have k:i.toNat=j:=by
   rw[Px m L]at c;show tj c
  show item_listR g.isList m ⋯ (by rw[k];simpa using l) b hs
 .have k:(i+(D.toArray.size:Int)).toNat=j:=by
   rw[seqIndex_neg ⋯ J]at c;rw[i5,<-hl];show tj c
  show O7 (x:=w) g.isList.typeIs Qf.lookup
   (wpAny_getItem_list_neg (Q:=λr s'=>r=w/\EP X a σ Q r s') g.isList ⋯ (by rw[i5]<;>lia) ⋯ (by rw[k];simpa using l) ⟨rfl,b⟩) hs
def mV:Hs X (An X.K):=by
 intro b c a s σ H x y v u Q I g k h hs;have⟨p,xs,i,z,rfl,rfl,l,m,q⟩:=h;cases g;have⟨t,rfl⟩:=k;have⟨D,r,f,hz⟩:=I.tuple l;have⟨j,n,A,G,J,L⟩:=jZ m;have⟨w,B,C⟩:=r.get A;have hl:=r.length;have N:=d_;have d:EP X a σ Q w s:=⟨z,H,I,C,q⟩
 show O7 (x:=w) f.typeIs slot_tuple_getitem.lookup
  (getItem_tuple (j:=j) (Q:=λr s'=>r=w/\EP X a σ Q r s') f ⋯ ⋯ (by rw[i5,<-hl];show n) (by simpa using B) ⟨rfl,d⟩) hs
def gV:Hs X Ao:=by
 intro a b d s σ H x y v u Q I g k h hs;have⟨z,i,c,rfl,rfl,hz,l,q⟩:=h;have⟨t,rfl⟩:=g;have⟨t',rfl⟩:=k;have⟨j,f,m,B,n,p⟩:=jZ l;have hl:z.cps.toList.length=z.length:=by simp[LL]
 rw[hl]at f n p;have C:=d_;show tail_any (Iy s z t) Qw.lookup (getItem_str (c:=c) (by
  have w:et (i < -(2 ^ 63:Int))=cb:=Q7 ⋯;have A:et (i >= 2 ^ 63)=cb:=Q7 ⋯;rw[w,A,Qa]) (by rw[f];simpa using m) ⟨.str ⟨#[c]⟩,H,I.tok _,⟨_,rfl⟩,q⟩) hs
def mW(a:List eh)(n j:Nat)(u:eh):vu (·.setIfInBounds j u) {cls:=.type "list",data:=.seq a.toArray n}={cls:=.type "list",data:=.seq (a.set j u).toArray n}:=by
 simp[vu]
def Inv.lst(I:Inv X b σ H s)(h:H p=a5 (.lst xs)):
  ∃(a:List eh) (n:Nat),Vals xs a/\s.heap.get? p=a5 {cls:=.type "list",data:=.seq a.toArray n}/\xs.length<=df:=by
 have⟨z,a,n,r,e⟩:=I.AJ p _ h;show⟨a,n,r,e,z⟩
def Inv.xc{c its':List eh}(I:Inv X a σ H s)(h:H p=a5 (.lst xs))
  (ho:s.heap.get? p=a5 {cls:=.type "list",data:=.seq c.toArray n}) (d:f {cls:=.type "list",data:=.seq c.toArray n}={cls:=.type "list",data:=.seq its'.toArray g }) (r:Vals i its') (hz:i.length<=df) (t:Nat) :
  Inv X a σ (upd H p (.lst i)) {s with heap:=s.heap.update p f,toks:=t}:=by
 have e:(s.heap.update p f).get? p=a5 {cls:=.type "list",data:=.seq its'.toArray g }:=by
  rw[vr f ho (by rw[d]<;>rfl),d]
 show I.write (x:=p) (e:=p) (by rw[h];trivial) (.inl rfl) (λb u j q=>(Iv _ _ (Eu j)).trans q) ⟨_,e⟩ ?_;show⟨hz,its',g,r,e⟩
abbrev yT:V->V->V->Hp->(Hp->Prop)->Prop:=λo i v H Q=>∃p xs k j,o=.ref p/\i=.int k/\H p=a5 (.lst xs)/\Dp xs.length k=a5 j/\Q (upd H p (.lst (xs.set j v)))
def set_list:jc X yT:=by
 intro a s σ H o i v A B u Q I w x y h;have⟨p,xs,k,j,rfl,rfl,c,z,q⟩:=h;cases w;have⟨t,rfl⟩:=x;have⟨d,n,r,ho,hz⟩:=I.lst c;have⟨b,C,f,g⟩:=oE z;have hl:=r.length;have D:=d_;have l:Inv X a σ (upd H p (.lst (xs.set j v))) {s with heap:=s.heap.update p (vu (·.setIfInBounds j u))} :=
  I.xc c ho (mW d n j u) (r.set y j) (by rw[PN];show hz) s.toks
 by_cases m:0<=k
 .have hk:k.toNat=j:=by
   rw[Px m g]at b;show tj b
  show PySem.W.ki_setAt ho m ⋯ (by rw[i5,<-hl];show g) (by rw[hk];show⟨_,l,q⟩)
 .have hk:(k+(d.toArray.size:Int)).toNat=j:=by
   rw[seqIndex_neg ⋯ f]at b;rw[i5,<-hl];show tj b
  show PySem.W.ki_setBack ho ⋯ (by rw[i5,<-hl];show f) ⋯ (by rw[hk];show⟨_,l,q⟩)
def j4(lo a:Option Int)(n:Nat):(JY lo a b6 n).1=((HT.BG n 0 lo:Nat):Int)/\(JY lo a b6 n).2.1=((HT.BG n n a:Nat):Int)/\(JY lo a b6 n).2.2=1:=by
 show⟨?_,?_,rfl⟩
 .cases lo with
  |none=>simp[JY,HT.BG]
  |some i =>
   simp only[JY,HT.BG,OR,show(1:Int)>0 by decide,if_true];by_cases h:i<0
   .simp only[h,if_true]<;>lia
   .simp only[h,Ra]<;>lia
 .cases a with
  |none=>simp[JY,HT.BG]
  |some i =>
   simp only[JY,HT.BG,OR,show(1:Int)>0 by decide,if_true];by_cases h:i<0
   .simp only[h,if_true]<;>lia
   .simp only[h,Ra]<;>lia
def jd(a:List eh)(lo b:Option Int):slicePick a.toArray lo b b6=((a.drop (HT.BG a.length 0 lo)).take (HT.BG a.length a.length b - HT.BG a.length 0 lo)).toArray:=by
 have⟨c,d,f⟩:=j4 lo b a.toArray.size;unfold slicePick;rw[c,d,f];simp only[sliceRange_one,pick_run,i5]<;>rfl
abbrev yU(K:PySem.W.Frag):V->Option Int->Option Int->Hp->VK->Prop:=λx lo b H Q=>∃a xs,x=.ref a/\A_ K H a xs/\∀p,H p=b6->Q (.ref p) (upd H p (.lst (qh xs lo b)))
def uw:DP X (yU X.K):=by
 intro f s σ H x v m n lo d p Q I i hs j k h;have⟨a,xs,rfl,l,q⟩:=h;cases i;have⟨u,r,g,hz⟩:=I.list l;have c:=r.length;show⟨"list",_,Qf.lookup,g.isList.typeIs,?_⟩;show wpAny_getItem_list_slice g.isList hs j k .none (by simp) ?_ (by rw[i5]<;>lia);rw[jd,<-c];show⟨.ref s.heap.objs.size,_,I.laid (t':=s.toks) (o:=.lst (qh xs lo d)) (λb w q=>ea _ q) (ke _) ?_,rfl,q _ (I.AJ.fresh (ke _))⟩;show⟨y2 (lD xs lo d) hz,_,0,(r.drop (HT.BG xs.length 0 lo)).take (HT.BG xs.length xs.length d - HT.BG xs.length 0 lo),g0 _ rfl⟩
def j5:BF X (Gm .NotIn) (λx y H Q=>∃i j,x=.str i/\y=.str j/\Q (.bl (!(!(uk j i 0 j.length 1).isEmpty))) H):=by
 intro a s σ H x y v u Q I b c h;have⟨i,j,rfl,rfl,q⟩:=h;have⟨t,rfl⟩:=b;have⟨t',rfl⟩:=c;show notIn_str ⟨.bl _,H,I,rfl,q⟩
def eU:dY X (.builtin "len") (λxs H Q=>∃p b,xs=[.ref p]/\(A_ X.K H p b\/Bb X.K H p b)/\Q (.int b.length) H):=by
 intro f s σ H xs us Q I r h;have⟨p,b,rfl,hq,q⟩:=h;have⟨u,rfl,g⟩:=vals1 r;cases g;have j:=d_;rcases hq with hq|hq
 .have⟨i,c,d,hz⟩:=I.list hq;have a:=c.length;show Calls.call_len_list d.isList (by simp only[i5]<;>lia) ⟨.int b.length,H,I.tok _,⟨s.toks+1,by rw[i5,a]⟩,q⟩
 .have⟨i,c,d,hz⟩:=I.tuple hq;have a:=c.length;show len_tuple d (by simp only[i5]<;>lia) ⟨.int b.length,H,I.tok _,⟨s.toks+1,by rw[i5,a]⟩,q⟩
def j6:dY X (.builtin "len") (λxs H Q=>∃z,xs=[.str z]/\z.length<=df/\Q (.int z.length) H):=by
 intro a s σ H xs us Q I r h;have⟨z,rfl,hz,q⟩:=h;have⟨u,rfl,t,rfl⟩:=vals1 r;have b:=d_;show len_str ⋯ ⟨.int z.length,H,I.tok _,⟨_,rfl⟩,q⟩
def eV:dY X (.type "list") (λxs H Q=>∃p c,xs=[.ref p]/\(A_ X.K H p c\/Bb X.K H p c)/\∀l,H l=b6->Q (.ref l) (upd H l (.lst c))):=by
 intro g s σ H xs us Q I r h;have⟨p,c,rfl,hq,q⟩:=h;have⟨u,rfl,z⟩:=vals1 r;cases z;have i:∀(a:List eh),Vals c a->c.length<=df->∀(h':DW) (d:Nat),(∀b y,s.heap.get? b=a5 y->h'.get? b=a5 y) ->
   h'.get? s.heap.objs.size=a5 {cls:=.type "list",dict:=b6,data:=.seq a.toArray d,slots:=#[]}->EP X g σ Q (.ref s.heap.objs.size) {s with heap:=h' }:=λa f hz h' d j e =>
  ⟨.ref s.heap.objs.size,_,I.laid (t':=s.toks) j (ke _) (show bt X.prog X.w _ h' _ (.lst c) from⟨hz,a,d,f,e⟩),rfl,q _ (I.AJ.fresh (ke _))⟩
 rcases hq with hq|hq
 .have⟨a,f,m,hz⟩:=I.list hq;have k:=f.length;have⟨o,ho,v,n,x⟩:=m.isList;show call_list_seq p (.inl rfl) ho v x (λh' d j e=>i a f hz h' d j e) (by simp only[i5]<;>lia)
 .have⟨a,f,m,hz⟩:=I.tuple hq;have k:=f.length;have⟨o,ho,v,n,x⟩:=m;show call_list_seq p (.inr rfl) ho v x (λh' d j e=>i a f hz h' d j e) (by simp only[i5]<;>lia)
def dZ:dY X (.type "tuple") (λxs H Q=>∃p c,xs=[.ref p]/\((A_ X.K H p c/\∀l,H l=b6->Q (.ref l) (upd H l (.tup c)))\/(Bb X.K H p c/\Q (.ref p) H))):=by
 intro a s σ H xs us Q I r h;have⟨p,c,rfl,h⟩:=h;have⟨u,rfl,m⟩:=vals1 r;cases m;rcases h with⟨d,q⟩|⟨d,q⟩
 .have⟨f,g,i,hz⟩:=I.list d;have j:=g.length;show call_tuple_list i.isList (λh' n=>?_) (by simp only[i5]<;>lia);have k:Inv X a σ H {s with heap:=h' }:=I.kept (t':=s.toks) n;have v:Inv X a σ (upd H h'.objs.size (.tup c)) {s with heap:=h'.push {cls:=.type "tuple",data:=.seq f.toArray}} :=
   k.laid (t':=s.toks) (λb o e=>ea _ e) (ke _) (show bt X.prog X.w _ _ _ (.tup c) from⟨hz,f,g,QI _ _⟩)
  show⟨.ref h'.objs.size,_,v,rfl,q _ (k.AJ.fresh (ke _))⟩
 .have⟨f,g,i,hz⟩:=I.tuple d;show call_tuple_same i ⟨.ref p,H,I,rfl,q⟩
abbrev Hu(K:PySem.W.Frag)(T:String)(x:V)(H:Hp):Prop:=match x with
 |.str _=>T="str"
 |.int _=>T="int"
 |.ref p=>(T="list"/\∃xs,A_ K H p xs)\/(T="tuple"/\∃o,K.lookup p=a5 o/\o.cls=.type "tuple"/\o.dict=b6) \/
   (T="dict"/\((∃a,H p=a5 (.dK a))\/∃a,H p=a5 (.dT a)))\/(T="set"/\∃S n,H p=a5 (.set S n))
 |_=>False
def rn(I:Inv X g σ H s)(r:RelV x v)(b:Hu X.K T x H):
  s.TypeIs v T/\∀a,v=.ref a->∃h,s.heap.get? a=a5 h/\h.dict=b6:=by
 cases x with
 |str z =>
  have⟨t,rfl⟩:=r;cases(show T="str" from b);show⟨Iy s z t,λ_ e=>nomatch e⟩
 |int i =>
  have⟨t,rfl⟩:=r;cases(show T="int" from b);show⟨Oh s i t,λ_ e=>nomatch e⟩
 |ref p =>
  cases r;rcases b with⟨rfl,xs,k⟩|⟨rfl,o,hk,l,d⟩|⟨rfl,hk⟩|⟨rfl,S,n,hk⟩
  .obtain⟨q,_,j,_⟩:=I.list k;show⟨j.isList.typeIs,λa e=>?_⟩;cases e;obtain⟨o,n,e,c,d,_⟩:=j;show⟨o,e,d⟩
  .show⟨⟨o,I.ES p o hk,l⟩,λa e=>?_⟩;cases e;show⟨o,I.ES _ o hk,d⟩
  .have z:∃o,s.heap.get? p=a5 o/\o.ExactDict:=by
    rcases hk with⟨m,hk⟩|⟨m,hk⟩
    .obtain⟨_,_,_,_,o,_,_,e,ex,_⟩:=I.AJ p _ hk;show⟨o,e,ex⟩
    .obtain⟨_,_,_,_,o,_,_,e,ex,_⟩:=I.AJ p _ hk;show⟨o,e,ex⟩
   have⟨o,e,ex⟩:=z;show⟨⟨o,e,ex.1⟩,λa f=>?_⟩;cases f;show⟨o,e,ex.2.1⟩
  .obtain⟨o,_,_,_,e,ex,_⟩:=I.AJ p _ hk;show⟨⟨o,e,ex.1⟩,λa f=>?_⟩;cases f;show⟨o,e,ex.2.1⟩
 |_=>show Hn b
abbrev Kv(K:PySem.W.Frag)(T:String)(r:V->List V->Hp->VK->Prop)(to:TE)(t:TA):TE:=λσ H Q=>to σ H λx a=>Hu K T x a/\t σ a λxs b=>r x xs b Q
variable{o e:ri}{es:List ri}{to:TE}{t:TA}{name:Str}{apos AH:Pos}{T id:String}{r:V->List V->Hp->VK->Prop}
def vU(f:PlainAttrs T)(slot:Slot T name id)(g:QL (.builtin id)=pure (.type "method_descriptor"))(i:EW X id r)(ho:PE X o to)(j:PA X (e::es) t)
  (k:LJ o name X.env (Ew o X.env)=Ew o X.env:=by rfl)
  (l:((Fq AH (mu (e::es) X.env)).all (λx=>!x.1)&&(M9 AH (J1 [] X.env)).all (λx=>x.1.isSome)
   && et ((e::es).length+([]:List Iu).length+(if ([]:List Iu).isEmpty then 0 else 1)<30))=b5:=by rfl)
  (m:(apos.endLine==AH.line)=b5:=by rfl) (hs:mu (e::es) X.env=(cb,Ew e X.env)::mu es X.env:=by rfl) (n:(Fq AH (mu es X.env)).any (·.1)=cb:=by rfl) :
  PE X (.Call (.Attribute o name apos) (e::es) [] AH) (Kv X.K T r to t):=by
 intro a s σ H Q I h;show OV k l m rfl (AO (ho a s σ H _ I h) λv s1 p=>?_);have⟨x,q,b,c,u,w⟩:=p;have⟨y,z⟩:=rn b c u;show⟨T,id,f,slot,g,y,z,?_⟩;have d:=j AH a s1 σ q _ b w;rw[hs]at d ⊢;show K9 (by change(cb||(Fq AH (mu es X.env)).any (·.1))=cb;rw[n]<;>rfl) (Jd ?_);show AO d λus s2 ⟨A,B,C,D,G⟩=>i a s2 σ B x A v us Q C c D G
end
abbrev Js(X:Cx)(id:String)(r:V->List V->Hp->VK->Prop):Prop :=
 ∀(a:List (hA×Obj)) (s:gs) (σ:St) (H:Hp) (x:V) (xs:List V) (v:eh) (us:List eh) (Q:VK),Inv X a σ H s->RelV x v->Vals xs us->r x xs H Q ->
  gi (ko X.prog X.w) X.A (Ja (.builtin id) (v::us)) (EP X a σ Q) X.xe s
theorem Vals.one:∀{x:V}{us:List eh},Vals [x] us->∃u,us=[u]/\RelV x u
 |_,_,.cons r .nil=>⟨_,rfl,r⟩
theorem Vals.rep(h:Vals xs us):∀k:Nat,Vals (g5 k xs).flatten (g5 k us).flatten
 |0=>.nil
 |k+1=>by
  rw[Eh,Eh,FJ,FJ];show Vals.append h (Vals.rep h k)
theorem foldl_rep(b:List eh):∀(k:Nat) (a:List eh),
  OS (λc d=>c++d) a.toArray (g5 k b.toArray)=(a++(g5 k b).flatten).toArray
 |0,a=>by simp
 |k+1,a=>by
  have e:a.toArray++b.toArray=(a++b).toArray:=by simp
  have f:(a++b)++(g5 k b).flatten=a++(g5 (k+1) b).flatten:=by
   rw[Eh,FJ,Ha]
  rw[<-f,<-foldl_rep b k (a++b),<-e,Eh,GA]
section
def Inv.eW{b its':List eh}(I:Inv X a σ H s)(d:H l=a5 (.lst xs))
  (e:s.heap.get? l=a5 {cls:=.type "list",data:=.seq b.toArray n}) (g:f b.toArray=its'.toArray) (h:Vals c its') (hz:c.length<=df) :
  Inv X a σ (upd H l (.lst c)) {s with heap:=s.heap.update l (vu f),toks:=t' }:=by
 have q:=PySem.IsL.update e f;rw[g]at q;show I.write (x:=l) (e:=l) (by rw[d];show trivial) (.inl rfl) (λk u i j=>(Iv s.heap (vu f) (Eu i)).trans j) ⟨_,q⟩ ?_;show⟨hz,its',_,h,q⟩
def Inv.yV(I:Inv X a σ H s)(d:Vals b c)(hz:b.length<=df):
  Inv X a σ (upd H s.heap.objs.size (.lst b)) {s with heap:=s.heap.push {cls:=.type "list",data:=.seq c.toArray},toks:=t' } :=
 I.laid (λ_ _ q=>ea _ q) (ke _) ⟨hz,c,0,d,g0 _ rfl⟩
def Inv.fresh(I:Inv X a σ H s):H s.heap.objs.size=b6:=I.AJ.fresh (ke _)
def Inv.yW(I:Inv X b σ H s)(c:H l=a5 (.lst xs)):xs.length<=df/\∃(a:List eh) (n:Nat),Vals xs a/\xs.length=a.length/\s.heap.get? l=a5 {cls:=.type "list",data:=.seq a.toArray n}:=by
 have⟨z,a,n,r,e⟩:=I.AJ l _ c;show⟨z,a,n,r,r.length,e⟩
def lE(h:n<=df):CW n=cb:=by
 unfold CW;show Q7 ⋯
end
section
abbrev uz:V->List V->Hp->VK->Prop:=λx a H Q=>∃l xs y,x=.ref l/\a=[y]/\H l=a5 (.lst xs)/\xs.length<df/\Q .AM (upd H l (.lst (xs++[y])))
def qi:Js X "list.append" uz:=by
 intro a s σ H x i v us Q I d f h;have⟨l,xs,y,rfl,rfl,b,hz,q⟩:=h;cases d;have⟨u,rfl,g⟩:=f.one;have⟨z,c,n,r,hl,e⟩:=I.yW b;show Hw F.slot_list_append ⟨_,e,rfl⟩ F.entry_list_append (F.args_list_append_2 _ _) (PySem.list_append l c.toArray n u (by rw[i5];lia)) ⟨e,?_⟩;show⟨.AM,_,I.eW (its':=c++[u]) b e (by simp) (r.append (.cons g .nil)) ?_,rfl,q⟩;rw[mh,ID];lia
def len_rep(xs:List α)(k:Nat):(g5 k xs).flatten.length=k * xs.length:=by
 induction k with
 |zero=>simp
 |succ k a=>rw[Eh,FJ,mh,a,Qx,Nat.add_comm]
end
section
set_option maxRecDepth 100000 in
end
section
end
end L2
namespace Jt
open PySem PySem.W PySem.Calls PyProof.Rows
def gE:∀(ns:List Int) (c:List eh),WellAll P h c (ns.map QC)->O8 c ns:=by
 intro ns;induction ns with
 |nil =>
  intro c w;rw[JT]at w;cases w;show .nil
 |cons n ns d =>
  intro c w;rw[kT]at w;cases w with
  |cons a b =>
   cases a;show .cons _ _ (d _ b)
def qj{l:OpenLaw}(k:l.most=a5 n)
  (g:l.row.toRowW.claim.pre args=b5) (m:WellAll P h b args) :
  ∃a i ns,b=[rd a]/\args=[WData.list (ns.map QC)]/\h.get? a=a5 {cls:=.type "list",data:=.seq i.toArray}/\O8 i ns/\ns.length<=n:=by
 have o:WShape.hasAll [] args [.list .int]=b5:=(pre_splitW g).1;have j:l.pre.holds [] {args:=args}=b5:=(pre_splitW g).2;have⟨d,r,rfl,p,s⟩:=hasAllW_cons o;obtain rfl:=hasAllW_nil s;have⟨xs,rfl,t⟩:=hasW_list p;have⟨ns,rfl⟩:=items_int t;have c:ns.length<=n:=by
  unfold OpenLaw.pre at j;have e:(WTm.not (.lt (.lit (.int (n:Int))) (.len (.arg 0)))).holds [] {args:=[.list (ns.map .int)]}=b5:=by
   have e:=(holds_andW j).1;rw[k]at e;show e
  have f:=condW_of e (w_not (w_lt w_lit (w_len_list (w_arg rfl))));rw[ek]at f;show Nat.le_of_not_lt λq=>?_;have u:(n:Int)<((ns.length:Nat):Int):=by lia
  first
   |(rw[Q_ u]at f;show absurd f (by decide))
   |(simp at f;lia)
 cases m with
 |cons v w =>
  cases w;cases v with
  |list ho x=>show⟨_,_,ns,rfl,rfl,ho,gE ns _ x,c⟩
def qk(l:OpenLaw)(args:List WData):l.row.toRowW.claim.post args (.bool b5) args=b5 :=
 postW_of (r:=l.row.toRowW) (X:=(b5==b5))
  (show Qi [] (.bool b5) .bool=b5 by first|rfl|decide|simp[Qi,WShape.arms,WShape.armsAll])
  (show(WTm.eq .res (.lit (.bool b5))).value [] {args:=args,res:=a5 (.bool b5),after:=args}=a5 (.bool (b5==b5)) from w_eq_bool (w_res rfl) w_lit) rfl
def lF{l:OpenLaw}
  (t:l.most=a5 n) (u:d.params.defaults=[])
  (Ja:∀(w:y1) (s₀ b:gs) (mg k:Str->Option eh) (fa:hA) (o:Obj) (m j c:eh) (a:hA) (h:List eh) (ns:List Int),
   Ground q e [] v w s₀ mg k b.heap->x w b.heap ->
   b.heap.get? fa=a5 o->o.data=.func (docDef d.name d.params d.body d.scope m j c)->b.heap.CodeRec j d.name->mg d.name=a5 (.ref fa) ->
   b.heap.get? a=a5 {cls:=.type "list",data:=.seq h.toArray}->O8 h ns->ns.length<=n->b.gens=#[] ->
   Kw (ko l.prog w) MF (.call (.ref fa) ⟨[.ref a],[]⟩) (λr s'=>r=.ok (.ret (.bool b5))/\OldK b.heap s'.heap/\s'.os=b.os/\MP s'.gens) b) :
  WalkO q e v x l.row.toRowW d [] (λf h=>PySem.call f h):=by
 intro w s₀ b mg k G Y fa o m j c y kV ho z A p B C args s as D T EX H Mw;obtain rfl:y=.none:=Dflts.none p u;obtain rfl:kV=.none:=Dflts.noKw p;have⟨a,h,ns,rfl,rfl,I,g,i⟩:=qj t D H;show enter_call (I_ (Ja w s₀ b mg k fa o m j c a h ns G Y ho (fd_plain z) A B I g i C) λr s' J=>?_);have⟨rfl,L,N,O⟩:=J;show⟨.inl ⟨.bool b5,.bool b5,[],rfl,λ_=>rfl,.bool b5,qk l _,λ_=>⟨QB,λ_ Q=>(nomatch Q)⟩⟩,L,N,O⟩
section
end
end Jt
namespace L2
open PySem PySem.Spec PyProof.Rows
theorem jv:∀{a:List eh}{ns:List Int},O8 a ns->Vals (ns.map V.int) a
 |_,_,.nil=>.nil
 |_,_,.cons n t h=>.cons ⟨t,rfl⟩ (jv h)
abbrev xf(H:Hp):Prop:=∀b,H b=b6\/∃o xs,H b=a5 (.Cq o (.lst xs))
def rp{K:PySem.W.Frag}
  (A:K.In c.heap) (B:c.heap.Ns w' mg) (f:c.heap.Ns MK C) (T:∀x:Str,x≠"__name__"->C x=Fo x) (Y:c.heap.NoLimit) (hg:c.gens=#[])
  (p:c.heap.get? a=a5 {cls:=.type "list",data:=.seq i.toArray}) (D:O8 i ns) (hl:ns.length<=df) (hr:ef k MF)
  (F:∀base:DW,K.In base->base.Ns w' mg->lB P w K mg base CX k fa fd [x] sp) (FF:∀(s:gs) (u:eh),O6 s fd ⟨[u],[]⟩ [(x,u)])
  (BU:∀H:Hp,xf H->A_ K H a (ns.map V.int)->sp [.ref a] H (λv _=>v=.bl b5) λ_ _ _=>False)
  (Hz:∀H e s',CX [] H c (λ_ _ _=>False) e s'->False) :
  Kw (ko P w) MF (.call (.ref fa) ⟨[.ref a],[]⟩) (λr s'=>r=.ok (.ret (.bool b5))/\OldK c.heap s'.heap/\s'.os=c.os/\MP s'.gens) c:=by
 have G:=jv D;have HA:=D.length;have g:∀H:Hp,xf H->A_ K H a (ns.map V.int)->Bh P w H c.heap->(∀b,H b≠b6->b=a)->(H a≠b6->K.lookup a=b6) ->
   Kw (ko P w) MF (.call (.ref fa) ⟨[.ref a],[]⟩) (λr s'=>r=.ok (.ret (.bool b5))/\OldK c.heap s'.heap/\s'.os=c.os/\MP s'.gens) c:=by
  intro H I hS J L hK;have gM:∀{b:hA} {o:Obj},c.heap.get? b=a5 o->H b=b6->(jS c.heap H).get? b=a5 o:=λe n=>q9 e n;have Fz:∀{b:hA} {o:Obj} {es:Array DictEntry} {ep:Nat},c.heap.get? b=a5 o->o.data=.dict es ep->H b=b6:=λ{b o es ep} e d=>by
   cases q:H b with
   |none=>rfl
   |some u =>
    have y:b=a:=L b (by rw[q];simp);subst y;rw[p]at e;cases e;have d':Data.seq i.toArray _=Data.dict es ep:=d;cases d'
  have t:∀{b:hA} {m:Str->Option eh},c.heap.Ns b m->(jS c.heap H).Ns b m:=λ{b m} ⟨o,es,ep,e,d,r⟩=>⟨o,es,ep,gM e (Fz e d),d,r⟩
  have N:K.In (jS c.heap H):=λb o e=>gM (A b o e) (by
   cases q:H b with
   |none=>rfl
   |some u =>
    have y:b=a:=L b (by rw[q];simp);subst y;rw[hK (by rw[q];simp)]at e;cases e)
  have hM:Mod K mg (jS c.heap H):=⟨N,t B,⟨C,t f,T⟩,let ⟨mc,h1,h2⟩:=Y;⟨mc,t h1,h2⟩⟩
  have e0:ui P w K mg (jS c.heap H) MF [] c H:=⟨rfl,hM,λb o e=>t8 e,Nj (p9 _ _),trivial,λb f=>absurd (show b∈([]:List hA) from f) (by simp),J,.of_eq hg⟩
  show I_ ((F _ N (t B)).run MF [] c H ⟨[.ref a],[]⟩ [.ref a] [.ref a] _ _ hr e0 (FF c (.ref a)) (.cons rfl .nil) (BU H I hS)) λr s' h=>?_;cases r with
  |error e=>show(Hz H e s' h).elim
  |ok fl =>
   cases fl with
   |ret u =>
    have⟨v,H',os,j,O,HB,r',q⟩:=h;have q':v=.bl b5:=q;subst q';obtain rfl:u=Ka b5:=r';show⟨rfl,OldK.of_keep λb o e=>?_,os,j⟩;cases q:H b with
    |none=>show O.keep b o e q (by intro z;show absurd (show b∈([]:List hA) from z) (by simp)) (by simp)
    |some u =>
     rcases I b with z|⟨ob,xs,z⟩
     .rw[q]at z;cases z
     .have z2:=O.BC b ob _ z;obtain⟨Q,_⟩:=J b _ z;obtain⟨e2,_⟩:=HB b _ z2;rw[e]at Q;cases Q;show e2
   |_=>show Hn h
 cases hk:K.lookup a with
 |some o =>
  have e:=A a o hk;rw[p]at e;cases e;show g (λ_=>b6) (λ_=>.inl rfl) (.inr ⟨_,i.toArray,_,hk,rfl,rfl,rfl,by rw[i5,HA];show hl,by simpa using G⟩) (λb u z=>by have l:(b6:Option HO)=a5 u:=z;cases l) (λb z=>absurd rfl z) λz=>absurd rfl z
 |none =>
  show g (λb=>if b=a then a5 (.Cq {cls:=.type "list",data:=.seq i.toArray} (.lst (ns.map V.int))) else b6) (λb=>?_) (.inl (.inr ⟨{cls:=.type "list",data:=.seq i.toArray},Q8 rfl⟩)) (λb u z=>?_) (λb z=>?_) λ_=>hk
  .by_cases f:b=a
   .show .inr ⟨_,_,Q8 f⟩
   .show .inl (Q9 f)
  .by_cases f:b=a
   .have l:=(Q8 f).symm.trans z;cases l;subst f;show⟨p,by rw[ek];show hl,i,_,G,p⟩
   .have l:=(Q9 f).symm.trans z;cases l
  .by_cases f:b=a
   .show f
   .show absurd (Q9 f) z
def uA{l:PySem.W.OpenLaw}{K:O4->PySem.W.Frag}{CX:y1->EV}{sp:y1->Sp}
  (t:l.most=a5 n) (y:n<=df) (z:d.params.defaults=[]) (A:ef k MF)
  (B:∀(w:y1) (h:DW),C w h->(K w.params).In h)
  (F:∀(w:y1) (mg:Str->Option eh) (fa:hA) (h:DW),(K w.params).In h->h.Ns w' mg->mg d.name=a5 (.ref fa) ->
   ∃j:LV,(∀(s:gs) (u:eh),O6 s j ⟨[u],[]⟩ [(x,u)]) /\
    ∀base:DW,(K w.params).In base->base.Ns w' mg->lB l.prog w (K w.params) mg base (CX w) k fa j [x] (sp w))
  (D:∀(w:y1) (H:Hp) (a:hA) (ns:List Int),ns.length<=n->xf H->A_ (K w.params) H a (ns.map V.int)->sp w [.ref a] H (λv _=>v=.bl b5) λ_ _ _=>False)
  (I:∀(w:y1) (H:Hp) (s:gs) (e:eh) (s':gs),CX w [] H s (λ_ _ _=>False) e s'->False) :
  PySem.W.WalkO q m XP C l.row.toRowW d [] (λf p=>PySem.call f p):=by
 show Jt.lF t z λw s₀ J mg mb fa o pm cd L a p ns G Y ho hd B6 N O i c Q=>?_;have r:=B w _ Y;have⟨j,hb,hF⟩:=F w mg fa _ r G.T.g N;show rp r G.T.g G.T.b G.T.builtins G.T.nolimit Q O i (y2 c y) A hF hb (λH hO hS=>D w H a ns c hO hS) λH e s'=>I w H J e s'
abbrev dN(s:Hq):Arguments:=match s with
 |.FunctionDef _ a _ _ _ _ _ _ _ _=>a
 |_=>{posonlyargs:=[],args:=[],vararg:=b6,kwonlyargs:=[],kw_defaults:=[],kwarg:=b6,defaults:=[]}
abbrev bT(s:Hq):List Hq:=match s with
 |.FunctionDef _ _ b _ _ _ _ _ _ _=>b
 |_=>[]
abbrev aA(s:Hq):Gn:=match s with
 |.FunctionDef _ _ _ _ _ _ a _ _ _=>a
 |_=>{kind:=.function,names:=[],isGenerator:=cb,isCoroutine:=cb}
@[reducible]def DQ:EV:=λ_ _ _ _ _ _=>False
@[reducible]def E0:XK:=λ_ _ _=>False
def yX:Passes DQ X E0:=λ_ _ _ _ _ _ _ h=>h.elim
structure Ej(K:PySem.W.Frag)(x qual:Str)(st:Hq)(f:hA)(fd:LV):Prop where
 ex:∃(oc:eh) (od:Option hA) (kV doc pm:eh) (an:Option hA) (Bq ct:eh) (FA:Array (Option eh)),
  fd=PySem.W.fnOf x qual (dN st) (bT st) (aA st) .none kV doc pm an Bq ct/\K.lookup f=a5 ⟨oc,od,.func fd,FA⟩/\PySem.W.codeIn K Bq qual=b5
 kp:PySem.W.keepIn K (.ref f)=b5
section
variable{P:ve}{w:y1}{K:PySem.W.Frag}{mg:Str->Option eh}{base:DW}
def Ej.ok{st:Hq}(F:Ej K x a st f g)(S:cQ N e (aA st))(d:∀b H Q E,sp b H Q E->b.length=e.length)
  (i:∀(c:eh) (A:Gp) (outer:List Env) (s:gs) (H:Hp) (b:List V) (Q:VK) (E:XK),ef k (A.deeper (M' a (aA st) s.heap.objs.size f c))->sp b H Q E ->
   ∃t,Bk (mU DQ P w K mg base N a (aA st) f c A outer s H E).Fu (bT st) t/\t {nx:=λ_ H'=>Q .AM H',rt:=Q} (start N b) H):lB P w K mg base DQ (k+1) f g e sp:=by
 have⟨o,p,kV,j,r,u,c,ct,v,rfl,lk,l⟩:=F.ex;show yR lk l S d λA outer s H b Q E m n=>?_;have⟨t,h,q⟩:=i c A outer s H b Q E m n;show⟨t,h.Fu,q⟩
def xg{st:Hq}{kV b e d ct:eh}(l:K.lookup f=a5 ⟨h,i,.func (PySem.W.fnOf x a (dN st) (bT st) (aA st) .none kV b e g d ct),j⟩)
  (c:PySem.W.codeIn K d a=b5) (k:PySem.W.keepIn K (.ref f)=b5):Ej K x a st f (PySem.W.fnOf x a (dN st) (bT st) (aA st) .none kV b e g d ct):=⟨⟨h,i,kV,b,e,g,d,ct,j,rfl,l,c⟩,k⟩
end
def ql(h:n<=1000):n<df:=Nat.lt_of_le_of_lt h (by decide)
section
end
abbrev yY(H H':Hp):Prop:=∀b o,H b=a5 o->H' b=a5 o
section
variable{κ:Type}[DecidableEq κ]
abbrev eX(a:List (κ×V))(k:κ):Option V:=(a.find? λkv=>et (kv.1=k)).map (·.2)
abbrev putK(a:List (κ×V))(k:κ)(v:V):List (κ×V) :=
 if (a.any λkv=>et (kv.1=k))=b5 then a.map (λkv=>if kv.1=k then(kv.1,v) else kv) else a++[(k,v)]
def dq{p:κ×V}{k:κ}(e:p.1=k):eX (p::r) k=a5 p.2:=by simp[eX,GF,e]
def dr{p:κ×V}{k:κ}(e:¬p.1=k):eX (p::r) k=eX r k:=by simp[eX,GF,e]
theorem gW(k:κ):∀a:List (κ×V),(a.any λkv=>et (kv.1=k))=(eX a k).isSome
 |[]=>rfl
 |p::r=>by
  rw[MY];by_cases e:p.1=k
  .simp only[dq e,Q_ e,Bool.true_or,Ow]
  .rw[dr e,Q7 e,Bool.false_or];show gW k r
def f_(a:List (κ×V))(k:κ)(v:V):(putK a k v).length<=a.length+1:=by
 unfold putK;split
 .rw[ek];lia
 .rw[mh,k4,Jr];lia
def p7.cB(r:p7 o u):o.isSome=u.isSome:=by
 cases o with
 |none=>cases u with
  |none=>rfl
  |some _=>show(show False from r).elim
 |some _=>cases u with
  |none=>show(show False from r).elim
  |some _=>rfl
def KV.val(r:KV f g)(k:κ):p7 (eX f k) (Od g k):=by
 unfold KV at r;induction r with
 |nil=>show MZ
 |@cons p q l a h t i =>
  have⟨d,j⟩:=h;by_cases e:p.1=k
  .have c:q.1=k:=d.symm.trans e;have b:Od (q::a) k=a5 q.2:=by simp[Od,GF,c]
   rw[dq e,b];show j
  .have c:¬q.1=k:=λz=>e (d.trans z);have b:Od (q::a) k=Od a k:=by simp[Od,GF,c]
   rw[dr e,b];show i
def KV.any(r:KV a b)(k:κ):(a.any λkv=>et (kv.1=k))=b.any λkv=>et (kv.1=k):=by
 unfold KV at r;induction r with
 |nil=>rfl
 |cons h t c=>rw[MY,MY,c,h.1]
def KV.xh(r:KV b c)(k:κ)(d:RelV y u):
  KV (b.map λkv=>if kv.1=k then(kv.1,y) else kv) (c.map λkv=>if kv.1=k then(kv.1,u) else kv):=by
 unfold KV at r ⊢;induction r with
 |nil=>show .nil
 |@cons p q i j h t f =>
  rw[kT,kT];show .cons ?_ f;have⟨a,g⟩:=h;by_cases e:p.1=k
  .rw[Q8 e,Q8 (a.symm.trans e)];show⟨a,d⟩
  .rw[Q9 e,Q9 (λz=>e (a.trans z))];show⟨a,g⟩
def KV.put(r:KV c a)(k:κ)(b:RelV y u):KV (putK c k y) (stored a k u):=by
 unfold putK stored;rw[r.any k];by_cases e:(a.any λkv=>et (kv.1=k))=b5
 .rw[Q8 e,Q8 e];show r.xh k b
 .rw[Q9 e,Q9 e];show Paired.snoc r ⟨rfl,b⟩
def KV.length(r:KV a b):a.length=b.length:=Paired.length r
end
def oF(r:RelV (kV k) u):(bb P w).is k u=b5:=by
 cases k with
 |inl i=>have⟨t,e⟩:=(show ∃t,u=O0 i t from r);subst e;show lr P w i t
 |inr x=>have⟨t,e⟩:=(show ∃t,u=vl x t from r);subst e;show lu P w x t
theorem jw:∀{a:List Key}{us:List eh},Vals (a.map kV) us->ItemsAre (bb P w) a us
 |[],_,r=>by rw[JT]at r;cases r;show .nil
 |k::a,_,r=>by
  rw[kT]at r;cases r with
  |cons h t=>show .cons (oF h) (jw t)
@[reducible]def KT(H:Hp):List (List Key×V)->List (List Key×hA×eh)->Prop:=Paired λp q=>p.1=q.1/\H q.2.1=a5 (.tup (p.1.map kV))/\RelV p.2 q.2.2
def KT.val(r:KT H f xs)(k:List Key):p7 (eX f k) ((Nl xs k).map (·.2)):=by
 induction r with
 |nil=>show MZ
 |@cons p q j a h t g =>
  obtain⟨d,_,i⟩:=h;by_cases e:p.1=k
  .have c:q.1=k:=d.symm.trans e;have b:Nl (q::a) k=a5 q.2:=by simp[Nl,GF,c]
   rw[dq e,b];show i
  .have c:¬q.1=k:=λz=>e (d.trans z);have b:Nl (q::a) k=Nl a k:=by simp[Nl,GF,c]
   rw[dr e,b];show g
def KT.xh(r:KT H c xs)(k:List Key)(d:RelV y u):
  KT H (c.map λkv=>if kv.1=k then(kv.1,y) else kv) (xs.map (putAt k u)):=by
 induction r with
 |nil=>show .nil
 |@cons p q i j h t f =>
  rw[kT,kT];show .cons ?_ f;have⟨a,b,g⟩:=h;unfold putAt;by_cases e:p.1=k
  .rw[Q8 e,Q8 (a.symm.trans e)];show⟨a,b,d⟩
  .rw[Q9 e,Q9 (λz=>e (a.trans z))];show⟨a,b,g⟩
def KT.put(r:KT H a xs)(k:List Key)(d:H b=a5 (.tup (k.map kV)))(c:RelV y u):
  KT H (putK a k y) (storedH xs k b u):=by
 have e:(a.any λkv=>et (kv.1=k))=(Nl xs k).isSome:=by
  rw[gW,(r.val k).cB,Ko]
 unfold putK storedH;rw[e];by_cases q:(Nl xs k).isSome=b5
 .rw[Q8 q,Q8 q];show r.xh k c
 .rw[Q9 q,Q9 q];show Paired.snoc r ⟨rfl,d,c⟩
def KT.keeps(r:KT H c xs)(d:∀b a,H b=a5 (.tup a)->H' b=a5 (.tup a)):KT H' c xs :=
 Paired.wC r λ_ _ z=>⟨z.1,d _ _ z.2.1,z.2.2⟩
section
def vV(ok:Bh P w H h)(e:Rd H a u):bt P w H h a u:=e.ok ok
def rq(ok:Bh P w H h)(e:Rd H a (.dK b)):b.length<=df/\(a==C8)=cb/\∃c,KV b c/\h.DictOf (bb P w) a c :=
 show bt P w H h a (.dK b) from vV ok e
def yZ(ok:Bh P w H h)(e:H a=a5 (.dK b)):b.length<=df/\(a==C8)=cb/\∃c,KV b c/\h.DictOf (bb P w) a c:=rq ok (.inl e)
def j7(ok:Bh P w H h)(e:H a=a5 (.tup (b.map kV))):(NV (bb P w)).is h b a:=by
 obtain⟨_,c,r,o,d,f,n,g⟩:=(show bt P w H h a (.tup (b.map kV)) from ok a _ e)
 show⟨o,c.toArray,n,d,f,g,by simpa using jw r⟩
def rz(ok:Bh P w H h)(e:Rd H a (.dT b)):b.length<=df/\(a==C8)=cb /\
  ∃xs,KT H b xs/\h.DictOfH (NV (bb P w)) a xs:=by
 have⟨z,y,xs,r,o,es,ep,d,f,g,i,j⟩:=(show bt P w H h a (.dT b) from vV ok e)
 show⟨z,y,xs,r,o,es,ep,d,f,g,i,λx hx=>?_,j⟩;have all:∀{l:List (List Key×V)} {m:List (List Key×hA×eh)},KT H l m->∀x∈m,(NV (bb P w)).is h x.1 x.2.1:=by
  intro l m q;induction q with
  |nil=>intro x hx;show nomatch hx
  |@cons p q n s c t k =>
   intro x hx;rcases fx.mp hx with e|hx
   .subst e;show j7 ok (by rw[<-c.1];show c.2.1)
   .show k x hx
 show all r x hx
def y4(ok:Bh P w H h)(e:H a=a5 (.dT b)):b.length<=df/\(a==C8)=cb /\
  ∃xs,KT H b xs/\h.DictOfH (NV (bb P w)) a xs:=rz ok (.inl e)
end
abbrev qm(H:Hp)(a:hA)(y:V)(r:Option V):Prop :=
 (∃c k,Rd H a (.dK c)/\y=kV k/\r=eX c k)\/∃c k b,Rd H a (.dT c)/\y=.ref b/\H b=a5 (.tup (k.map kV))/\r=eX c k
abbrev rA(H:Hp)(a:hA)(y v:V)(H':Hp):Prop :=
 (∃c k,H a=a5 (.dK c)/\y=kV k/\c.length<df/\H'=upd H a (.dK (putK c k v))) \/
 ∃c k b,H a=a5 (.dT c)/\y=.ref b/\H b=a5 (.tup (k.map kV))/\c.length<df/\H'=upd H a (.dT (putK c k v))
def qm.k{H:Hp}{a:hA}{b:List (Key×V)}{k:Key}(e:H a=a5 (.dK b)):qm H a (kV k) (eX b k):=.inl ⟨b,k,.inl e,rfl,rfl⟩
def rA.k{H:Hp}{a:hA}{b:List (Key×V)}{k:Key}{v:V}(e:H a=a5 (.dK b))(hl:b.length<df):rA H a (kV k) v (upd H a (.dK (putK b k v))):=.inl ⟨b,k,e,rfl,hl,rfl⟩
section
def Inv.big(I:Inv X a σ H s):C8<s.heap.objs.size:=by
 have h:w'<s.heap.objs.size:=(I.mod.glob.keeps I.bk).lt;show LN (by decide) h
def Ap(m:A.units+1<y0)(I:Inv X d σ H s)(g:qm H a y o)(j:RelV y u)(h:∀s',Inv X d σ H s'->Q (.bool o.isSome) s'):
  gi (ko X.prog X.w) A (Gm .In u (.ref a)) Q E s:=by
 rcases g with⟨n,k,e,f,l⟩|⟨n,k,b,e,f,p,l⟩
 .subst f;have⟨z,i,r,c,dd⟩:=rq I.AJ e;show wpAny_in_of (oF j) i dd.mapOf ?_;rw[<-(c.val k).cB,<-l];show h _ (I.tok _)
 .subst f;cases(show u=rd b from j);have⟨z,i,xs,c,dd⟩:=rz I.AJ e;show wpAny_in_heap (Nu m) (j7 I.AJ p) i dd ?_;have q:=(c.val k).cB;rw[Ko]at q;rw[<-q,<-l];show h _ (I.tok _)
def uB(m:A.units+1<y0)(I:Inv X d σ H s)(g:qm H a y o)(j:RelV y u)(h:∀s',Inv X d σ H s'->Q (.bool (!o.isSome)) s'):
  gi (ko X.prog X.w) A (Gm .NotIn u (.ref a)) Q E s:=by
 rcases g with⟨n,k,e,f,l⟩|⟨n,k,b,e,f,p,l⟩
 .subst f;have⟨z,i,r,c,dd⟩:=rq I.AJ e;show wpAny_notIn_of (oF j) i dd.mapOf ?_;rw[<-(c.val k).cB,<-l];show h _ (I.tok _)
 .subst f;cases(show u=rd b from j);have⟨z,i,xs,c,dd⟩:=rz I.AJ e;show Qv (Nu m) (j7 I.AJ p) i dd ?_;have q:=(c.val k).cB;rw[Ko]at q;rw[<-q,<-l];show h _ (I.tok _)
def oG(I:Inv X c σ H s)(f:Fm (H a))(hs:A6 a s.heap h')(g:∃q,h'.get? a=a5 q)(new:bt X.prog X.w (upd H a d) h' a d):
  Inv X c σ (upd H a d) {s with heap:=h',toks:=t' } :=
 I.write (x:=a) (e:=a) f (.inl rfl) (λb q h z=>(hs.2 b h).trans z) g new
def xi(z:c.length<=df)(e:(a==C8)=cb)(b:KV c d)(dd:h'.DictOf (bb P w) a d):
  bt P w H' h' a (.dK c):=⟨z,e,d,b,dd⟩
def qo(D:A.units+1<y0)(I:Inv X f σ H s)(g:rA H a y v H')(t:RelV y u)(x:RelV v r)(h:∀s',Inv X f σ H' s'->Q () s'):
  gi (ko X.prog X.w) A (OY (.ref a) u r) Q E s:=by
 rcases g with⟨i,k,e,n,l,o⟩|⟨i,k,b,e,n,B,l,o⟩
 .subst n o;have⟨z,p,G,d,dd⟩:=yZ I.AJ e;have hz:G.length<=df:=by rw[<-d.length];show z
  have hl:(putK i k v).length<=df:=by have:=f_ i k v;lia
  show wpAny_setItem_pairs (hsz:=hz) (oF t) dd λh' j hs=>h _ ?_;have J:∃q,h'.get? a=a5 q:=let ⟨q,_,_,m,_⟩:=j;⟨q,m⟩;show oG I (by rw[e];show MZ) hs J (xi hl p (d.put k x) j)
 .subst n o;cases(show u=rd b from t);have⟨z,p,xs,d,dd⟩:=y4 I.AJ e;have hz:xs.length<=df:=by rw[<-Paired.length d];show z
  have hl:(putK i k v).length<=df:=by have:=f_ i k v;lia
  show P1 (hsz:=hz) (Nu D) (j7 I.AJ B) dd λh' j hs=>h _ ?_;obtain⟨q,es,ep,m,L,N,O,_,T⟩:=j;show oG I (by rw[e];show MZ) hs ⟨q,m⟩ ⟨hl,p,_,(d.put k B x).keeps λc Y C=>?_,q,es,ep,m,L,N,O,T⟩;rw[az (qZ C e (λz=>nomatch z))];show C
end
section
end
section
end
def rB(h:DW)(a:C8<h.objs.size):bt P w H (h.push {cls:=.type "dict",data:=.dict #[]}) h.objs.size (.dK []) :=
 ⟨pb _,beq_eq_false_iff_ne.mpr (Eu (l1 a)),[],.nil,Q2 h⟩
abbrev xj:TE:=λ_ H Q=>∀p,H p=b6->Q (.ref p) (upd H p (.dK []))
section
def rC:PE X (.Dict [] [] pos) xj:=λb s σ H Q I h =>
 Qp ⟨.ref s.heap.objs.size,_,I.laid (a:=s.heap.objs.size) (o:=.dK []) (t':=s.toks) (λ_ _ q=>ea _ q) (ke _) (rB s.heap I.big),rfl,h _ (I.AJ.fresh (ke _))⟩
end
structure M1(X:Cx)(o:ri)(m:Str)(apos:Pos)(e:ri)(AH:Pos):Prop where
 base:LJ o m X.env (Ew o X.env)=Ew o X.env
 Ci:((Fq AH (mu [e] X.env)).all (λx=>!x.1)&&(M9 AH (J1 [] X.env)).all (λx=>x.1.isSome)
  && et (([e]:List ri).length+([]:List Iu).length+(if ([]:List Iu).isEmpty then 0 else 1)<30))=b5
 line:(apos.endLine==AH.line)=b5
 trees:Fq AH (mu [e] X.env)=[(cb,Ew e X.env)]
structure M2(X:Cx)(o:ri)(m:Str)(apos:Pos)(e f:ri)(AH:Pos):Prop where
 base:LJ o m X.env (Ew o X.env)=Ew o X.env
 Ci:((Fq AH (mu [e,f] X.env)).all (λx=>!x.1)&&(M9 AH (J1 [] X.env)).all (λx=>x.1.isSome)
  && et (([e,f]:List ri).length+([]:List Iu).length+(if ([]:List Iu).isEmpty then 0 else 1)<30))=b5
 line:(apos.endLine==AH.line)=b5
 trees:Fq AH (mu [e,f] X.env)=[(cb,Ew e X.env),(cb,Ew f X.env)]
section
end
section
end
section
end
section
end
end L2
namespace A3
open PySem PySem.Builtin.Str PySem.StrLaws
abbrev low(c:Nat):Bool:=et (97<=c)&&et (c<=122)
abbrev cj(l:List Nat):Bool:=et (1<=l.length)&&et (l.length<=8)&&l.all low
def aN(l:List Nat):cj l=b5↔1<=l.length/\l.length<=8/\∀c∈l,97<=c/\c<=122:=by
 simp[cj,low,va,and_assoc]
def eY(h:cj l=b5):47∉l:=λm=>by
 have:=((aN l).mp h).2.2 47 m;lia
def cm{x y:Str}(h:x.cps.toList=y.cps.toList):x=y:=by
 cases x;cases y;congr
 show Nk.mp h
def mX(x:Str)(b:x.cps.toList=(hQ 26).map (97+·))(c:Nat):(!(uk x ⟨#[c]⟩ 0 x.length 1).isEmpty)=low c:=by
 rw[found_one,b];simp only[low,lg,w4];by_cases h:97<=c/\c<=122
 .have:∃a,a<26/\97+a=c:=⟨c - 97,⋯,⋯⟩
  simp[this,h.1,h.2]
 .have:¬∃a,a<26/\97+a=c:=λ⟨a,d,e⟩=>h ⟨⋯,⋯⟩;simp[this];lia
def j8(x:Str)(c i:Nat):At x ⟨#[c]⟩ x.length i↔x.cps.toList[i]?=a5 c:=subAt_one x c i
def rD(h:x.cps.toList=a++c::b)(j:c∉a)(d:Nat)(hl:1<=d):∃r,uk x ⟨#[c]⟩ 0 x.length d=a.length::r:=by
 have f:x.cps.toList[a.length]?=a5 c:=by rw[h];simp
 rcases occ_head x ⟨#[c]⟩ d hl with⟨_,k⟩|⟨i,r,e,l,m⟩
 .show absurd ((j8 x c a.length).mpr f) (k _)
 .have g:=(j8 x c i).mp l;have:i=a.length:=by
   rcases Pk i a.length with z|z|z
   .exfalso
    rw[h,tr z]at g;show j (DN g)
   .show z
   .show absurd ((j8 x c a.length).mpr f) (m _ z)
  subst this;show⟨r,e⟩
def uC(h:x.cps.toList=a++c::b)(d:c∉a):qs x ⟨#[c]⟩=(⟨a.toArray⟩,⟨#[c]⟩,⟨b.toArray⟩):=by
 have⟨r,e⟩:=rD h d 1 (ke _);unfold qs;rw[e];have f:(⟨#[c]⟩:Str).length=1:=rfl;have g:x.length=a.length+1+b.length:=by
  have:=Rb Ge h;simp[LL]at this ⊢;lia
 show Ml ?_ (Ml rfl ?_)
 .apply cm;rw[OE,h];simp
 .apply cm;change(strSub x (a.length+(⟨#[c]⟩:Str).length) x.length).cps.toList=_;rw[OE,h,f,g];simp
def mY(h:c∉x.cps.toList):DX x ⟨#[c]⟩=[x]:=by
 unfold DX;split
 .rfl
 .rw[Q8];rcases occ_head x ⟨#[c]⟩ (x.length+1) ⋯ with⟨e,_⟩|⟨i,r,e,a,_⟩
  .rw[e];rfl
  .show absurd (DN ((j8 x c i).mp a)) h
def lG(c:Nat)(h:c<256)(x:Str):¬(PySem.Builtin.Str.strKind x<PySem.Builtin.Str.strKind ⟨#[c]⟩):=by
 have e:PySem.Builtin.Str.strKind ⟨#[c]⟩=1:=by simp[PySem.Builtin.Str.strKind,h]
 rw[e];unfold PySem.Builtin.Str.strKind;split
 .lia
 .split<;>lia
def rE(h:x.cps.toList=a++c::b)(d:c∉a)(f:c<256):∃r,DX x ⟨#[c]⟩=⟨a.toArray⟩::r:=by
 have⟨r,e⟩:=rD h d (x.length+1) ⋯;have g:(⟨#[c]⟩:Str).length=1:=rfl;have k:x.length=a.length+1+b.length:=by
  have:=Rb Ge h;simp[LL]at this ⊢;lia
 unfold DX;rw[Q9 (by
  have i:¬(x.length<(⟨#[c]⟩:Str).length):=by rw[g];lia
  have j:=lG c f x;simp[i,j]),Q9 (by rw[e];simp),partsBetween_eq,e]
 show⟨_,Rb (·::_) ?_⟩;apply cm;rw[OE,h];simp
abbrev cC(i:Int):Str:=Qs (QK i)
abbrev vW:Str:=⟨#[47]⟩
def j9(h:a++c::b=p++c::q)(d:c∉a)(e:c∉p):a=p/\b=q:=by
 induction a generalizing p with
 |nil =>
  cases p with
  |nil=>simp at h;show⟨rfl,h⟩
  |cons z p=>simp at h;show absurd (by rw[h.1];show gm) e
 |cons y a f =>
  cases p with
  |nil=>simp at h;show absurd (by rw[h.1];show gm) d
  |cons z p =>
   simp at h;have⟨g,i⟩:=f h.2 (λm=>d (eu _ m)) (λm=>e (eu _ m));show⟨by rw[h.1,g],i⟩
end A3
namespace L2
open PySem PySem.Spec PyProof.Rows
abbrev aL(env:Env):List (Str×EI)->List (Str×hA)->List (Str×hA)
 |[],b=>b
 |(n,k)::r,b=>aL env r (if k==.free then(match env.cells.lookup n with|some a=>(n,a)::b|none=>b) else b)
def cD(h:∀y∈scope.names,y.2=.free->∃a,env.cells.lookup y.1=a5 a):closureFor scope env=pure (aL env scope.names []):=by
 unfold closureFor;generalize scope.names=names at h
 suffices H:∀b,(Qo names b (λ(x:Str×EI) (r:List (Str×hA))=>if (x.2==Ea)=b5 then do let a <-cellOf env x.1;pure (Ht ((x.1,a)::r)) else pure (Ht r)):Sem (List (Str×hA)))=pure (aL env names b) by
  have:=H [];show Rb (λ(m:Sem (List (Str×hA)))=>m >>= pure) this
 induction names with
 |nil=>intro b;rfl
 |cons y r d =>
  intro b;have⟨n,k⟩:=y;rw[List.forIn_cons];have c:=d λy e=>h y (eu _ e);by_cases hk:(k==Ea)=b5
  .have⟨a,f⟩:=h (n,k) gm (by simpa using hk);have g:env.cells.lookup n=a5 a:=f;simp only[hk,if_true,cellOf,g,aL];show c _
  .simp only[hk,Ra,aL];show c _
theorem cR:∀(names:List (Str×EI)) (b:List (Str×hA)),(∀n c,b.lookup n=a5 c->env.cells.lookup n=a5 c)->∀n c,(aL env names b).lookup n=a5 c->env.cells.lookup n=a5 c
 |[],_,h=>h
 |(m,k)::r,b,h=>by
  unfold aL;show cR r _ λn c e=>?_;by_cases hk:(k==Ea)=b5
  .rw[Q8 hk]at e;cases q:env.cells.lookup m with
   |none=>rw[q]at e;show h n c e
   |some a =>
    rw[q]at e;simp only[oT]at e;cases d:n==m with
    |true =>
     rw[d]at e;have f:n=m:=by simpa using d
     subst f;simp only at e;rw[q];show e
    |false=>rw[d]at e;show h n c e
  .rw[Q9 hk]at e;show h n c e
theorem gb(d:env.cells.lookup n=a5 a):∀(names:List (Str×EI)) (c:List (Str×hA)),c.lookup n=a5 a->(aL env names c).lookup n=a5 a
 |[],_,h=>h
 |(m,k)::r,c,h=>by
  unfold aL;show gb d r _ ?_;by_cases hk:(k==Ea)=b5
  .rw[Q8 hk];cases q:env.cells.lookup m with
   |none=>show h
   |some b =>
    simp only[oT];cases e:n==m with
    |true =>
     have f:n=m:=by simpa using e
     subst f;rw[d]at q;cases q;rfl
    |false=>show h
  .rw[Q9 hk];show h
theorem en(b:env.cells.lookup n=a5 a):∀(names:List (Str×EI)) (c:List (Str×hA)),(n,Ea)∈names->(aL env names c).lookup n=a5 a
 |[],_,h=>by cases h
 |(m,k)::r,c,h=>by
  unfold aL;rcases fx.mp h with e|e
  .cases e;show gb b r _ ?_;rw[Q8 (by decide),b];simp[oT]
  .show en b r _ e
theorem aX{env:Env}:∀{names:List (Str×EI)}{x:Str}{k:EI},
  (names.map λ(n,k)=>if (k==Ea&&env.scope.kind==.function&&env.kindOf n==a5 .cell) then(n,Ed) else(n,k)).lookup x=a5 k ->
  names.lookup x=a5 k\/(k=.cell/\names.lookup x=a5 .free)
 |[],_,_,h=>by simp at h
 |(n,e)::r,x,k,h=>by
  have f:=@aX env r x k;rw[kT]at h;by_cases b:(e==Ea&&env.scope.kind==.function&&env.kindOf n==a5 .cell)=b5
  .simp only[Q8 b,oT]at h;cases a:x==n with
   |true =>
    rw[a]at h;have g:e=.free:=by
     have:=(Bl.mp (Bl.mp b).1).1;simpa using this
    show .inr ⟨by simpa using h.symm,by simp[oT,a,g]⟩
   |false =>
    rw[a]at h;rcases f h with z|⟨c,d⟩
    .show .inl (by simp[oT,a,z])
    .show .inr ⟨c,by simp[oT,a,d]⟩
  .simp only[Q9 b,oT]at h;cases a:x==n with
   |true=>rw[a]at h;show .inl (by simpa[oT,a] using h)
   |false =>
    rw[a]at h;rcases f h with z|⟨c,d⟩
    .show .inl (by simp[oT,a,z])
    .show .inr ⟨c,by simp[oT,a,d]⟩
theorem gc:∀(names:List (Str×EI)) (b:List (Str×hA)),(aL env names b).lookup x=a5 c->(x,Ea)∈names\/b.lookup x=a5 c
 |[],_,h=>.inr h
 |(m,k)::r,b,h=>by
  unfold aL at h;rcases gc r _ h with z|z
  .show .inl (eu _ z)
  .by_cases hk:(k==Ea)=b5
   .rw[Q8 hk]at z;cases q:env.cells.lookup m with
    |none=>rw[q]at z;show .inr z
    |some a =>
     rw[q]at z;simp only[oT]at z;cases d:x==m with
     |true =>
      have e:x=m:=by simpa using d
      have f:k=.free:=by simpa using hk
      subst e f;show .inl gm
     |false=>rw[d]at z;show .inr z
   .rw[Q9 hk]at z;show .inr z
theorem eZ:∀(names:List (Str×EI)) (n:Nat) (a:List (Str×hA)),(FQ n names a).lookup x=a5 c->((x,Ed)∈names/\@PR Nat _ n c)\/a.lookup x=a5 c
 |[],_,_,h=>.inr h
 |(y,k)::r,n,a,h=>by
  unfold FQ at h;by_cases hk:(k==Ed)=b5
  .rw[Q8 hk]at h;have f:k=.cell:=by simpa using hk
   subst f;rcases eZ r (n+1) _ h with⟨b,d⟩|z
   .show .inl ⟨eu _ b,Nat.le_of_succ_le d⟩
   .simp only[oT]at z;cases e:x==y with
    |true =>
     rw[e]at z;have g:x=y:=by simpa using e
     subst g;cases z;show .inl ⟨gm,ke _⟩
    |false=>rw[e]at z;show .inr z
  .rw[Q9 hk]at h;rcases eZ r n a h with⟨b,d⟩|z
   .show .inl ⟨eu _ b,d⟩
   .show .inr z
theorem j_:∀(names:List (Str×EI)) (n:Nat) (a:List (Str×hA)),(x,Ed)∉names->(FQ n names a).lookup x=a.lookup x
 |[],_,_,_=>rfl
 |(y,k)::r,n,a,h=>by
  unfold FQ;have b:(x,Ed)∉r:=λz=>h (eu _ z);by_cases hk:(k==Ed)=b5
  .rw[Q8 hk,j_ r _ _ b];have c:k=.cell:=by simpa using hk
   subst c;simp only[oT];cases d:x==y with
   |true =>
    have e:x=y:=by simpa using d
    subst e;show absurd gm h
   |false=>rfl
  .rw[Q9 hk,j_ r _ _ b]
theorem mZ:∀(names:List (Str×EI)) (n:Nat) (a:List (Str×hA)),(∀(z:Str) (d:hA),a.lookup z=a5 d->@Hm Nat _ d n)->(∀(u v:Str) (d:hA),a.lookup u=a5 d->a.lookup v=a5 d->u=v) ->
  (FQ n names a).lookup x=a5 c->(FQ n names a).lookup y=a5 c->x=y
 |[],_,_,_,g,b,f=>g x y c b f
 |(h,k)::r,n,a,hl,g,b,f=>by
  unfold FQ at b f;by_cases hk:(k==Ed)=b5
  .rw[Q8 hk]at b f;have lk:∀(z:Str) (d:hA),List.lookup z ((h,(n:hA))::a)=a5 d->(z=h/\d=n)\/a.lookup z=a5 d:=λz d e=>by
    simp only[oT]at e;cases i:z==h with
    |true=>rw[i]at e;cases e;show .inl ⟨by simpa using i,rfl⟩
    |false=>rw[i]at e;show .inr e
   show mZ r (n+1) _ (λz d e=>?_) (λu v d j l=>?_) b f
   .rcases lk z d e with⟨_,q⟩|q
    .rw[q];show Ji _
    .show Kz (hl z d q)
   .rcases lk u d j with⟨m,o⟩|q<;>rcases lk v d l with⟨s,p2⟩|p
    .rw[m,s]
    .rw[o]at p;show absurd (hl v n p) (AY _)
    .rw[p2]at q;show absurd (hl u n q) (AY _)
    .show g u v d q p
  .rw[Q9 hk]at b f;show mZ r n a hl g b f
theorem ka:∀(names:List (Str×EI)) (h:DW) (a:List (Str×hA)),(FQ h.objs.size names a).lookup x=a5 c->(Ky h names).IsCell c b6\/a.lookup x=a5 c
 |[],_,_,e=>.inr e
 |(y,k)::r,h,a,e=>by
  unfold FQ at e;unfold Ky;by_cases hk:(k==Ed)=b5
  .rw[Q8 hk]at e ⊢;have hs:h.objs.size+1=(h.push {cls:=.type "cell",data:=.cell b6}).objs.size:=by rw[Mj]
   rw[hs]at e;rcases ka r _ _ e with z|z
   .show .inl z
   .simp only[oT]at z;cases b:x==y with
    |true =>
     rw[b]at z;cases z;show .inl ⟨_,N9 r _ _ _ (g0 _ rfl),rfl⟩
    |false=>rw[b]at z;show .inr z
  .rw[Q9 hk]at e ⊢;show ka r h a e
abbrev CB(X:Cx)(scope:Gn)(C:hA):List (Str×hA):=FQ (C+1) scope.names (aL X.env scope.names [])
abbrev Bi(X:Cx)(N:List Str)(scope:Gn)(C:hA)(s:gs)(H:Hp)(ex:List hA):Cx where
 prog:=X.prog
 w:=X.w
 K:=X.K
 mg:=X.mg
 base:=X.base
 A:=X.A
 N:=N
 s₀:=s
 H₀:=H
 env:=NH scope (CB X scope C) C X.env
 outer:=X.stack
 stack:=X.stack
 ex:=ex
 fn:=λx=>et (scope.names.lookup x=a5 .cell)
 calm:=X.calm
 pn:=[]
 xe:=λ_ _=>False
abbrev cv(D N:List Str):Prop:=D.length=N.length/\∀(i:Nat) (y:Str),D[i]?=a5 y->N[i]?=a5 y\/y="."\/y=".."
def cv.refl(N:List Str):cv N N:=⟨rfl,λ_ _ h=>.inl h⟩
def cv.set{D N:List Str}(h:cv D N)(j:Nat){m:Str}(b:m="."\/m=".."):cv (D.set j m) N:=by
 show⟨by rw[PN];show h.1,λi y e=>?_⟩;by_cases a:j=i
 .subst a;rw[List.getElem?_set,Q8 rfl]at e;split at e
  .cases e;show .inr b
  .cases e
 .rw[pa a]at e;show h.2 i y e
structure bJ(X:Cx)(N own:List Str)(scope:Gn):Prop where
 kind:scope.kind=.function
 uq:∀y∈scope.names,scope.names.lookup y.1=a5 y.2
 cl:∀y∈scope.names,y.2=.cell->y.1∈own
 nd:N.Nodup
 pre:N.take own.length=own
 loc:∀y∈scope.names,y.2=.local->y.1∈own\/y.1=".0"
 KA:(".0":Str)∉N
 tail:cv (N.drop own.length) X.N
 free:∀y∈scope.names,y.2=.free->X.env.scope.names.lookup y.1=a5 .cell\/X.env.scope.names.lookup y.1=a5 .free
 dot:∀y∈scope.names,y.1≠"."/\y.1≠".."
def mem_lookup{names:List (Str×EI)}(h:names.lookup x=a5 k):(x,k)∈names:=PySem.mem_of_lookup h
def bJ.names(S:bJ X N a scope):∀y∈scope.names,y.2=.local->scope.names.lookup y.1=a5 .local:=λy b e=>e▸S.uq y b
def bJ.no(S:bJ X N a scope)(h:scope.names.lookup x=a5 .free):(x,Ed)∉scope.names:=λz=>by
 have:=S.uq _ z;rw[h]at this;cases this
def bJ.cells(S:bJ X N b scope)(ok:X.Ok):∀y∈scope.names,y.2=.free->∃a,X.env.cells.lookup y.1=a5 a:=λy c d=>by
 rcases S.free y c d with z|z
 .show ok.has y.1 (.inl z)
 .show ok.has y.1 (.inr z)
def rF(S:bJ X N f scope)(I:Inv X D σ H s)
  (B:s.heap.objs.size<=C) (CL:∀x c,(CB X scope C).lookup x=a5 c->s4.heap.IsCell c b6\/(aL X.env scope.names []).lookup x=a5 c) (HD:s4.os=s.os) (hg:s4.gens=s.gens) (keep:∀b o,s.heap.get? b=a5 o->s4.heap.get? b=a5 o) (ns:∃m,s4.heap.Ns C m)
  (g:∀b∈ex,gD X D H b/\b<s.heap.objs.size):Inv (Bi X N scope C s H ex) [] (g5 f.length b6++σ) H s4:=by
 have⟨m0,Ek⟩:=ns;have sub:=cR (env:=X.env) scope.names [] (λn c e=>by simp at e);have KC:∀(x:Str) (c:hA),(aL X.env scope.names []).lookup x=a5 c->c<s.heap.objs.size:=λx c e=>by
  obtain⟨v,o,ho,_⟩:=I.cell x c (sub x c e);show hY ho
 have L:∀(x:Str) (c:hA),(CB X scope C).lookup x=a5 c->C<c\/(aL X.env scope.names []).lookup x=a5 c:=λx c e=>(eZ _ _ _ e).imp (λz=>z.2) id;have Y:∀b∈ex,b<C:=λb t=>lx (g b t).2 B;have tl:f.length<=N.length:=by have:=Rb Ge S.pre;rw[rr]at this;lia
 show⟨⟨I.ok.mod,?_,I.ok.glob,I.ok.blt,B,λx y c w A=>mZ _ _ _ (λz d e=>Kz (lx (KC z d e) B)) (λu v d G e2=>I.ok.inj u v d (sub u d G) (sub v d e2)) w A,λx hx=>?_,λx c h e=>?_,I.ok.hd,I.ok.frames,.inl rfl,λb t=>⟨l1 (Y b t),λx c e=>?_⟩,λb o e=>I.bs b o e,?_,λb o e t=>?_,λb t=>?_,I.stack,I.oz⟩,
  HD,(by rw[hg];show I.bare),Un.kept keep,⟨m0,Ek,λi y v w A h3=>?_⟩,λx c e=>?_,I.AJ.fresh B,λx c e=>?_,λp hp=>absurd (show p∈([]:List (hA×Obj)) from hp) (by simp),I.AJ.kept keep,?_⟩
 .change(ME scope X.env).kind=.function;show S.kind
 .
  have KD:(ME scope X.env).names.lookup x=a5 .cell\/(ME scope X.env).names.lookup x=a5 .free:=hx;have AW:scope.names.lookup x=a5 .cell\/scope.names.lookup x=a5 .free:=by
   rcases KD with z|z
   .rcases aX z with q|⟨_,q⟩
    .show .inl q
    .show .inr q
   .rcases aX z with q|⟨q,_⟩
    .show .inr q
    .cases q
  rcases AW with AW|AW
  .show NS.mp (PySem.W.cellsFrom_some scope.names (C+1) _ (.inl AW))
  .have⟨a,ha⟩:=S.cells I.ok (x,.free) (mem_lookup AW) rfl;show⟨a,(j_ _ _ _ (S.no AW)).trans (en ha scope.names [] (mem_lookup AW))⟩
 .have h':scope.names.lookup x=a5 .cell:=Rc h;rcases L x c e with z|z
  .show y2 B (FO z)
  .rcases gc _ _ z with z|z
   .have:=S.uq _ z;rw[h']at this;cases this
   .simp at z
 .rcases L x c e with z|z
  .show λq=>absurd (LN (Y b t) z) (by rw[q];show AY _)
  .show(g b t).1.2.2.2.2.1 x c (sub x c z)
 .show y2 I.ok.DK I.sz
 .have⟨f0,f1,f2,f3,f4,f5⟩:=(g b t).1;rcases f3 with z|z
  .show I.ok.CI b o e z
  .show absurd (lx (hY e) (y2 I.ok.DK z)) (AY _)
 .intro CM;have⟨f0,f1,f2,f3,f4,f5⟩:=(g b t).1;rcases fx.mp (I.gP b CM) with z|z
  .show f1 z
  .show f2 z
 .
  have O:f.length<=i:=by
   by_cases O:i<f.length
   .rw[tr (by simpa using O),F3]at A;split at A<;>cases A
   .lia
  rw[sx (by simpa using O),IE]at A;have KG:(N.drop f.length)[i - f.length]?=a5 y:=by
   rw[EO];have e:f.length+(i - f.length)=i:=by lia
   rw[e];show w
  have Jw:(ME scope X.env).names.lookup y=a5 .local\/(ME scope X.env).names.lookup y=a5 .cell\/(ME scope X.env).names.lookup y=a5 .free:=h3;have DR:∀y:Str,y∈f->N[i]?=a5 y->False:=λy Q w=>by
   have⟨j,hj,ej⟩:=JI Q;have HF:N[j]?=a5 y:=by
    have G:(N.take f.length)[j]?=a5 y:=by rw[S.pre,HC hj,ej]
    rw[N4 hj]at G;show G
   have:=gQ S.nd HF w;lia
  have AW:scope.names.lookup y=a5 .free:=by
   rcases Jw with z|z|z
   .rcases aX z with q|⟨q,_⟩
    .exfalso
     have Q:y∈f:=by
      rcases S.loc (y,.local) (mem_lookup q) rfl with z|z
      .show z
      .have z':y=".0":=z;show absurd (DN w) (by rw[z'];show S.KA)
     show DR y Q w
    .cases q
   .rcases aX z with q|⟨_,q⟩
    .show(DR y (S.cl _ (mem_lookup q) rfl) w).elim
    .show q
   .rcases aX z with q|⟨q,_⟩
    .show q
    .cases q
  have hX:X.N[i - f.length]?=a5 y:=by
   rcases S.tail.2 _ _ KG with e|e|e
   .show e
   .show absurd e (S.dot _ (mem_lookup AW)).1
   .show absurd e (S.dot _ (mem_lookup AW)).2
  have⟨m,hn,hl⟩:=I.loc;have hv:X.env.scope.names.lookup y=a5 .cell\/X.env.scope.names.lookup y=a5 .free:=S.free (y,.free) (mem_lookup AW) rfl;have⟨u,r,l⟩:=hl _ y v hX A (.inr hv);show⟨u,r,?_⟩;rcases l with⟨k,_⟩|⟨k,c,e,z⟩
  .have k':X.env.scope.names.lookup y=a5 .local:=k;rcases hv with q|q<;>(rw[k']at q;cases q)
  .have hk:(ME scope X.env).names.lookup y=a5 .cell\/(ME scope X.env).names.lookup y=a5 .free:=by
    rcases Jw with q|q|q
    .rcases aX q with J|⟨J,_⟩
     .rw[AW]at J;cases J
     .cases J
    .show .inl q
    .show .inr q
   have⟨o,ho,T⟩:=z;show .inr ⟨hk,c,(j_ _ _ _ (S.no AW)).trans (en e scope.names [] (mem_lookup AW)),o,keep c o ho,T⟩
 .rcases CL x c e with z|z
  .show⟨_,z⟩
  .have⟨v,o,ho,T⟩:=I.cell x c (sub x c z);show⟨v,o,keep c o ho,T⟩
 .rcases L x c e with z|z
  .show I.AJ.fresh (y2 B (FO z))
  .show I.A8 x c (sub x c z)
 .rw[mh,IE,I.len];have e:N.length=f.length+(N.drop f.length).length:=by rw[F0];lia
  change _=N.length;rw[e,S.tail.1]
def lH(I:Inv X f σ H s)
  (d:Inv (Bi X N scope C s H ex) DL σ' m s4) (y:s.heap.objs.size<=D) (A:s.heap.objs.size<=C) (B:D≠C) (h:m D=b6) (G:Vals r t) (J:s4.heap.PlainList D t.toArray) (hl:r.length<=df)
  (i:A6 C s4.heap h') (p:∀b∈ex,gD X f H b):Inv X f σ (upd m D (.lst r)) {s4 with heap:=h' }:=by
 have w:m C=b6:=d.free;have l:∀{b:hA} {o:Obj},s.heap.get? b=a5 o->b≠C/\b≠D:=λe=>⟨l1 (lx (hY e) A),l1 (lx (hY e) y)⟩
 show I.yx (s':={s4 with heap:=h' }) (ch:=ex) d.os ⟨λb o e n j g=>?_,λb o e n j g=>?_,λb o e n g=>?_,λb o e g=>?_,λb xs e=>?_,λb o u e=>?_,λb L e=>?_⟩ (λa o e=>?_) d.bare λb j=>?_
 .show(i.2 b (l e).1).trans (d.base.keep b o e n j g)
 .have⟨O,q⟩:=d.base.slot b o e n j g;show⟨O,(i.2 b (l e).1).trans q⟩
 .rw[az (l e).2];show d.base.free b o e n g
 .have⟨Q,q⟩:=d.base.there b o e g;show⟨Q,(i.2 b (l e).1).trans q⟩
 .have q:=d.base.BJ b xs e;rw[az (aQ q h)];show q
 .have q:=d.base.BC b o u e;rw[az (aQ q h)];show q
 .have⟨k,q⟩:=d.base.BK b L e;show⟨k,by rw[az (aQ q h)];show q⟩
 .by_cases x:a=D
  .subst x;rw[aC]at e;cases e;have⟨n,q⟩:=J;show⟨hl,t,n,G,(i.2 _ B).trans q⟩
  .rw[az x]at e;show(d.AJ a o e).p8 (λc v T q=>(i.2 c ?_).trans q) (λc q=>?_) λc xs q=>?_
   .rintro rfl;rcases T with z|z
    .rw[<-z,w]at e;cases e
    .rw[w]at z;cases z
   .rw[az (aQ q h)];show q
   .rw[az (aQ q h)];show q
 .have⟨f0,Y,f2,f3,f4,f5⟩:=p b j;show⟨f3,Y,f4,f5⟩
section
def kb(I:Nat->gs->Prop)
  (b:∀n s,I n s->gi (ko prog w) A (Kl it) (λr d=>match r with
   |none=>R (.ok .next) d
   |some v=>gi (ko prog w) A (MT a it v) (λ_ d=>gi (ko prog w) A (LK a env v) (λ_ k =>
     gi (ko prog w) A (Qo f b5 λc r=>if r=b5 then do let ok <-isTrue c env (Ew c env);pure (Ht ok) else pure (Ht r)) (λok j =>
      if ok=b5 then gi (ko prog w) A (Ew elt env) (λx l =>
       gi (ko prog w) A (Ja (.builtin "list.append") [g,x]) (λ_ o=>∃m,m<n/\I m o) (Nc (ko prog w) A env λe s'=>R (.error e) s') l) (Nc (ko prog w) A env λe s'=>R (.error e) s') j
      else ∃m,m<n/\I m j) (Nc (ko prog w) A env λe s'=>R (.error e) s') k) (Nc (ko prog w) A env λe s'=>R (.error e) s') d) (Nc (ko prog w) A env λe s'=>R (.error e) s') d) (Nc (ko prog w) A env λe s'=>R (.error e) s') s)
  (n:Nat) (h:I n s) :
  Kw (ko prog w) A (.compLoop (.ListComp elt [⟨a,i,f,0⟩] scope pos) 0 it g env) R s:=by
 show codeAny_loop rfl I (λn s t=>?_) n h;change gi _ A ((compTurn (.ListComp elt [⟨a,i,f,0⟩] scope pos) 0 it g env).onRaise (λx=>do noteFrame x env;theTreesLotGoes x)) _ _ s;show wpAny_noted ?_;rw[compTurn_list];show b4 (Oz (b4 (B9 (b n s t) (λr d p=>?_) λ_ _ h'=>h')));cases r with
 |none=>show c4 p
 |some v =>
  show b4 (B9 p (λ_ C u=>?_) λ_ _ h'=>h');show b4 (B9 u (λ_ k y=>b4 (B9 y (λok j q=>?_) λ_ _ h'=>h')) λ_ _ h'=>h');cases ok with
  |false=>show c4 ⟨rfl,q⟩
  |true =>
   show b4 (b4 (B9 q (λx l z=>b4 (B9 z (λ_ o B=>c4 (c4 ⟨rfl,B⟩)) λ_ _ h'=>h')) λ_ _ h'=>h'))
end
abbrev Dq(X:Cx)(b:List ri)(t:TT):Prop :=
 ∀(a:List (hA×Obj)) (s:gs) (σ:St) (H:Hp) (Q:Bool->Hp->Prop),Inv X a σ H s->t σ H Q ->
  gi (ko X.prog X.w) X.A (Qo b b5 λc r=>if r=b5 then do let ok <-isTrue c X.env (Ew c X.env);pure (Ht ok) else pure (Ht r)) (TP X a σ Q) X.xe s
abbrev Aq:TT:=λ_ H Q=>Q b5 H
def oH:Dq X [] Aq:=λ_ _ _ H _ I h=>wpAny_tests_nil ⟨H,I,h⟩
def oI(h:PT X c t):Dq X [c] t:=λa s σ H Q I q=>wpAny_tests_one (h a s σ H Q I q)
abbrev oJ(k:Nat)(J:It)(g:TG)(l:TT)(n:TE)(Q:VK)(σ:St)(o:Hp):Prop :=
  ∃W:Nat->Nat->List V->Hp->Prop,(∃m,W 0 m [] o)/\∀i m a H,W i m a H->a.length<=df /\
    ((J.stop i H/\∀p,H p=b6->Q (.ref p) (upd H p (.lst a))) \/
     (J.go i H/\∃d:List V->Hp->Prop,(∀f H',d f H'->∃h,h<m/\W (i+1) h f H')/\∀x H',J.GB i H x H'->g x (g5 k b6++σ) H' λe q=>∃c:St,c.length=k/\e=c++σ /\
        l e q λb j=>if b=b5 then n e j λy r=>d (a++[y]) r else d a j))
abbrev rG(k:Nat)(a:TI)(g:TG)(b:TT)(c:TE):TE:=λσ H Q=>a σ H λJ d=>oJ k J g b c Q σ d
section
def rJ
  (S:bJ X N B scope) (hc:X.calm=b5) (hg:∀C s H ex,PG (Bi X N scope C s H ex) tg g) (hf:∀C s H ex,Dq (Bi X N scope C s H ex) an tt) (he:∀C s H ex,PE (Bi X N scope C s H ex) elt te)
  (I:Inv X ap σ H s) (T:Turn X.prog X.w X.K tg J G it tn) (st:tn 0 s.heap) (f2:∀b∈G,gD X ap H b) (W:oJ B.length J g tt te Q σ H)
  (hD:@Eq Nat D s.heap.objs.size) (hC:@Eq Nat C (s.heap.objs.size+1)) (CL:∀x c,(CB X scope C).lookup x=a5 c->s4.heap.IsCell c b6\/(aL X.env scope.names []).lookup x=a5 c) (HD:s4.os=s.os) (KJ:s4.gens=s.gens) (keep:∀b o,s.heap.get? b=a5 o->s4.heap.get? b=a5 o) (ns:∃m,s4.heap.Ns C m) (pl:s4.heap.PlainList D #[])
  (as:∀s5 Y O k,Inv (Bi X N scope C s H G) [] (g5 B.length b6++σ) Y s5->Y D=b6->Vals O k->s5.heap.PlainList D k.toArray->O.length<=df->(∀p,Y p=b6->Q (.ref p) (upd Y p (.lst O)))->R (.ok .next) s5) :
  Kw (ko X.prog X.w) X.A (.compStart (.ListComp elt [⟨tg,ax,an,0⟩] scope pos) 0 (.ref it) (.ref D) (NH scope (CB X scope C) C X.env)) R s4:=by
 have CN:∀b∈G,@Hm Nat _ b s.heap.objs.size:=λb h=>by
  obtain⟨o,e,_⟩:=T.obj 0 s.heap st b h;show hY e
 have I4:Inv (Bi X N scope C s H G) [] (g5 B.length b6++σ) H s4:=rF S I ⋯ CL HD KJ keep ns λb h=>⟨f2 b h,CN b h⟩
 have EY:tn 0 s4.heap:=T.keep 0 s.heap s4.heap st λb _ o e=>keep b o e;have nD:H D=b6:=I.AJ.fresh ⋯;obtain⟨W,⟨m0,w0⟩,Pw⟩:=W;generalize l:Bi X N scope C s H G=f at I4 as;have eP:f.prog=X.prog:=by rw[<-l];rfl
 have ew:f.w=X.w:=by rw[<-l];rfl
 have eK:f.K=X.K:=by rw[<-l];rfl
 have ec:f.calm=b5:=by rw[<-l];show hc
 have eA:f.A=X.A:=by rw[<-l];rfl
 have ee:f.env=NH scope (CB X scope C) C X.env:=by rw[<-l];rfl
 have HG:f.xe=λ_ _=>False:=by rw[<-l];rfl
 have el:f.env.locals=C:=by rw[ee];rfl
 have GH:PG f tg g:=by rw[<-l];show hg _ _ _ _
 have KN:Dq f an tt:=by rw[<-l];show hf _ _ _ _
 have KO:PE f elt te:=by rw[<-l];show he _ _ _ _
 have s0:f.s₀=s:=by rw[<-l];rfl
 have FI:f.pn=[]:=by rw[<-l];rfl
 have HH:∀{H':Hp} {o:Obj},(∀b∈G,H' b=b6)->∀b∈G,gD f [(D,o)] H' b:=λ{H' o} hn b h=>by
  have ex:f.ex=G:=by rw[<-l];rfl
  show⟨hn b h,?_,?_,.inl (by rw[ex];show h),λx c e=>?_,λp L=>?_⟩
  .rw[el];have:=CN b h;show l1 (by change @Hm Nat _ b C;lia)
  .have e1:f.fs=Cg X.stack:=by rw[<-l];rfl
   rw[e1];intro z;have⟨f0,f1,KP,f3,f4,f5⟩:=f2 b h;rcases fx.mp (I.gP b z) with q|q
   .show f1 q
   .show KP q
  .have e1:f.env.cells=CB X scope C:=by rw[ee];rfl
   rw[e1]at e;rcases eZ _ _ _ e with z|z
   .have:=CN b h;have:=z.2;show Er (by change @Hm Nat _ b c;lia)
   .show(f2 b h).2.2.2.2.1 x c (cR scope.names [] (λn c e=>by simp at e) x c z)
  .rw[FI,uv]at L;have:p=(D,o):=by simpa using L
   subst this;have:=CN b h;show Er (by change @Hm Nat _ b D;lia)
 have HI:∀{σ':St} {H':Hp} {s':gs} {o:Obj},Inv f [] σ' H' s'->H' D=b6->s'.heap.get? D=a5 o->(∀v,o.data≠.cell v)->Inv f [(D,o)] σ' H' s':=λ{σ' H' s' o} I' n e d =>
  I'.dM λp L=>by
   have:p=(D,o):=by simpa using L
   subst this;show⟨e,n,?_,?_,d⟩
   .rw[el];show l1 (by change @Hm Nat _ D C;lia)
   .have e1:f.fs=Cg X.stack:=by rw[<-l];rfl
    rw[e1];intro z;have zz:(D:hA)∈Cg X.stack:=z;rcases fx.mp (I.gP D zz) with q|q
    .have:=I.lt;rw[<-q]at this;show absurd this (by change ¬@Hm Nat _ D s.heap.objs.size;lia)
    .show I.yw (a:=D) ⋯ q
 have start:∀s':gs,s'=s4->Kw (ko X.prog X.w) X.A (.compLoop (.ListComp elt [⟨tg,ax,an,0⟩] scope pos) 0 (.ref it) (.ref D) (NH scope (CB X scope C) C X.env)) R s':=by
  rintro s' rfl;show kb (λn s'=>∃i O k H',Inv f [] (g5 B.length b6++σ) H' s'/\tn i s'.heap/\(∀b∈G,H' b=b6)/\H' D=b6/\Vals O k/\s'.heap.PlainList D k.toArray/\W i n O H') ?_ m0
   ⟨0,[],[],H,I4,EY,λb h=>(f2 b h).1,nD,.nil,pl,w0⟩
  rintro n s3 ⟨i,O,k,H3,I3,st3,Fx,Jx,GI,⟨nn,KQ⟩,w3⟩;have⟨ac,Cj⟩:=Pw i n O H3 w3;have IP:=HI I3 Jx KQ (λv z=>by have z':Data.seq _ _=Q3 v:=z;cases z');rcases Cj with⟨a0,qn⟩|⟨go,NN,Jy,a1⟩
  .have d:=T.done f eP ew eK ec i _ s3 _ H3 (Nc (ko X.prog X.w) X.A (NH scope (CB X scope C) C X.env) λe s'=>R (.error e) s') IP (HH Fx) st3 a0;rw[eA]at d;show AO d λr s4 HJ=>?_;have⟨hr,I5⟩:=HJ;subst hr;have e5:=(I5.pin (D,({cls:=.type "list",data:=.seq k.toArray nn}:Obj)) (by rw[FI];simp)).1;show as s4 H3 O k (I5.dM λp L=>by cases L) Jx GI ⟨nn,e5⟩ ac qn
  .have d:=T.item f eP ew eK ec i _ s3 _ H3 (Nc (ko X.prog X.w) X.A (NH scope (CB X scope C) C X.env) λe s'=>R (.error e) s') IP (HH Fx) st3 go;rw[eA]at d;show AO d λr s4 HK=>?_;have⟨u,hr,h4⟩:=HK;subst hr;show AO h4 λ_ s5 HL=>?_;have⟨x,Y,I5,r5,y5,DO,Hj⟩:=HL;have My:Y D=b6:=(I5.pin (D,({cls:=.type "list",data:=.seq k.toArray nn}:Obj)) (by rw[FI];simp)).2.1;have Hk:=I5.pinned (HH Hj) (T.obj _ _ DO);have a6:=GH _ s5 _ Y x u _ Hk r5 (a1 x Y y5);rw[eP,ew,eA,ee,HG]at a6;show B9 a6 (λ_ s6 ⟨σ6,H6,I6,q6⟩=>?_) λ_ _ z=>Hn z;have⟨ow,a2,rfl,q6⟩:=q6;have a7:=KN _ s6 _ H6 _ I6 q6;rw[eP,ew,eA,ee,HG]at a7;show B9 a7 (λb s7 ⟨H7,I7,q7⟩=>?_) λ_ _ z=>Hn z;have al:∀{s8:gs} {t:Hp} {Dc:List V} {its':List eh} {nn':Nat},Inv f [] (ow++σ) t s8->tn (i+1) s8.heap->(∀b∈G,t b=b6)->t D=b6->Vals Dc its'->s8.heap.PlainList D its'.toArray->(∃m',m'<n/\W (i+1) m' Dc t) ->
     ∃m,m<n/\∃i O k H',Inv f [] (g5 B.length b6++σ) H' s8/\tn i s8.heap/\(∀b∈G,H' b=b6)/\H' D=b6/\Vals O k/\s8.heap.PlainList D k.toArray/\W i m O H':=λ{s8 t Dc its' nn'} I8 KR KS n8 KU KW w8=>by
    have⟨m',hm,w8⟩:=w8;show⟨m',hm,i+1,Dc,its',t,I8.weak (by simp[a2]) (λj v e=>?_),KR,KS,n8,KU,KW,w8⟩;by_cases hj:j<B.length
    .rw[tr (by simpa using hj),F3]at e;split at e<;>cases e
    .rw[sx (by simpa using(Nat.not_lt.mp hj)),IE]at e;rw[sx ⋯,a2];show e
   have am:∀{σ':St} {t:Hp} {s8:gs},Inv f ([(D,({cls:=.type "list",data:=.seq k.toArray nn}:Obj))]++gR G s5.heap) σ' t s8->s8.heap.get? D=a5 {cls:=.type "list",data:=.seq k.toArray nn}/\t D=b6/\tn (i+1) s8.heap/\∀b∈G,t b=b6:=λ{σ' t s8} I8=>by
    have p1:=I8.pin (D,({cls:=.type "list",data:=.seq k.toArray nn}:Obj)) (by rw[FI];simp);show⟨p1.1,p1.2.1,T.keep _ _ _ DO λb h o e=>(I8.pin (b,o) (pj _ (pj _ (cP h e)))).1,λb h=>?_⟩;have⟨o,e,d⟩:=T.obj _ _ DO b h;show(I8.pin (b,o) (pj _ (pj _ (cP h e)))).2.1
   cases b with
   |false =>
    rw[Q9 mA]at q7 ⊢;have⟨p1,p2,p3,p4⟩:=am I7;show al (nn':=0) (I7.dM λp L=>by cases L) p3 p4 p2 GI ⟨nn,p1⟩ (Jy _ _ q7)
   |true =>
    rw[Q8 rfl]at q7 ⊢;have a8:=KO _ s7 _ H7 _ I7 q7;rw[eP,ew,eA,ee,HG]at a8;show B9 a8 (λy s8 ⟨yv,t,I8,r8,q8⟩=>?_) λ_ _ z=>Hn z;have⟨p1,p2,p3,p4⟩:=am I8;have hsz:k.toArray.size<=df:=by rw[i5,<-GI.length];show ac
    show wpAny_list_append_plain (hsz:=hsz) ⟨nn,p1⟩ λh9 KY Jz=>?_;have KZ:Inv f [] (ow++σ) t s8:=I8.dM λp L=>by cases L
    have GJ:∀x c,f.env.cells.lookup x=a5 c->c≠D:=λx c e=>by
     have e1:f.env.cells=CB X scope C:=by rw[ee];rfl
     rw[e1]at e;rcases eZ _ _ _ e with z|z
     .have:=z.2;show Er (by change @Hm Nat _ D c;lia)
     .have⟨v,z⟩:=I.cell x c (cR scope.names [] (λn c e=>by simp at e) x c z);have:@Hm Nat _ c s.heap.objs.size:=z.lt;show l1 (by change @Hm Nat _ c D;lia)
    have I9:Inv f [] (ow++σ) t {s8 with heap:=h9,toks:=s8.toks}:=KZ.turned (it:=D) (λb o h e=>(Jz.2 b h).trans e) p2 (by rw[el];show l1 (by change @Hm Nat _ D C;lia)) (.inr (by rw[s0];change @PR Nat _ s.heap.objs.size D;lia)) GJ (λp L=>by rw[FI]at L;cases L);have K0:(k++[y]).toArray=k.toArray.push y:=by simp
    show al (nn':=0) (s8:={s8 with heap:=h9,toks:=s8.toks}) I9 (T.keep _ _ _ p3 λb h o e=>(Jz.2 b ?_).trans e) p4 p2 (GI.append (.cons r8 .nil)) (by rw[K0];show KY) (Jy _ _ q8);have:=CN b h;show l1 (by change @Hm Nat _ b D;lia)
 show codeAny_compStart_list (start _ rfl) (T.self _ _ _ _ _ EY (start _ rfl))
def m6
  (f:Q (newEnv scope s.heap.objs.size b (FQ (s.heap.objs.size+1) scope.names cl) d b6 .none (a5 c) a) {s with heap:=Ky (s.heap.push {cls:=.type "dict",data:=.dict #[]}) scope.names}) :
  gi M A (Oj scope b cl [] d b6 .none (a5 c) a) Q E s:=by
 simp only[Oj,Ow,if_true];show b4 (wpAny_alloc ?_);show b4 (wpAny_layCells _ (λname kind e=>by cases g:kind==Ed<;>simp[g]) _ _ _ _ ?_);rw[show({s with heap:=s.heap.push {cls:=.type "dict",data:=.dict #[]}}:gs).heap.objs.size=s.heap.objs.size+1 from Mj ..];show b4 ?_;rw[List.forIn_nil];show c4 (c4 f)
def gX{RR:eh->hA->Q1->gs->Prop}
    (S:bJ X N f scope) (G:X.calm=b5) (L:∀C s H ex,PG (Bi X N scope C s H ex) t g) (O:∀C s H ex,Dq (Bi X N scope C s H ex) m Y) (he:∀C s H ex,PE (Bi X N scope C s H ex) elt te)
 (I:Inv X h σ H s) (T:Turn X.prog X.w X.K t J u it tn) (st:tn 0 s.heap) (f2:∀b∈u,gD X h H b) (W:oJ f.length J g Y te Q σ H)
    (n:∀D C i d j l,@Eq Nat D s.heap.objs.size->@Eq Nat C (s.heap.objs.size+1)->Inv (Bi X N scope C s H u) [] (g5 f.length b6++σ) d i->d D=b6->Vals j l->i.heap.PlainList D l.toArray->j.length<=df->(∀p,d p=b6->Q (.ref p) (upd d p (.lst j)))->RR (.ref D) C (.ok .next) i) :
    gi (ko X.prog X.w) X.A (Qg []) (λk s₃=>gi (ko X.prog X.w) X.A (Oj scope X.env.globals (aL X.env scope.names []) [] X.env.qual b6 .none (a5 X.env)) (λv s₄ =>
      Kw (ko X.prog X.w) X.A (.compStart (.ListComp elt [⟨t,y,m,0⟩] scope pos) 0 (.ref it) k {v with scope:=ME scope X.env}) (RR k v.locals) s₄) E s₃) E s:=by
  show Ei (m6 ?_)
  dsimp only
  generalize q:s.heap.push {cls:=.type "list",dict:=b6,data:=.seq ([]:List eh).toArray}=a;have z:a.objs.size=s.heap.objs.size+1:=by rw[<-q,Mj]
  have B:∀b o,a.get? b=a5 o->(Ky (a.push {cls:=.type "dict",data:=.dict #[]}) scope.names).get? b=a5 o:=λb o e=>N9 _ _ b o (ea _ e);have r:∀b o,s.heap.get? b=a5 o->(Ky (a.push {cls:=.type "dict",data:=.dict #[]}) scope.names).get? b=a5 o:=λb o e=>B b o (q▸ea _ e);have Dr:(Ky (a.push {cls:=.type "dict",data:=.dict #[]}) scope.names).PlainList s.heap.objs.size #[]:=⟨_,B _ _ (q▸g0 _ rfl)⟩
  have CL:∀x c,(CB X scope a.objs.size).lookup x=a5 c->(Ky (a.push {cls:=.type "dict",data:=.dict #[]}) scope.names).IsCell c b6\/(aL X.env scope.names []).lookup x=a5 c:=λx c e=>by
    show ka scope.names (a.push {cls:=.type "dict",data:=.dict #[]}) _ ?_;rw[Mj];show e
  show rJ (s:=s) (s4:={s with heap:=Ky (a.push {cls:=.type "dict",data:=.dict #[]}) scope.names}) (C:=a.objs.size) (D:=s.heap.objs.size) S G L O he I T st f2 W rfl z CL rfl rfl r ⟨_,(Heap.Ns.new a (.type "dict")).keeps (N9 _ _)⟩ Dr
    λi d j l I5 n5 FK FL FN q5=>n _ _ i d j l rfl z I5 n5 FK FL FN q5
def uD(S:bJ X N c scope)(n:X.calm=b5)(o:PI X i a p)(q:∀C s H ex,PG (Bi X N scope C s H ex) i g)(r:∀C s H ex,Dq (Bi X N scope C s H ex) d t)(u:∀C s H ex,PE (Bi X N scope C s H ex) elt y)
  (hs:∀x,FW a X.env x=pure x:=by intro _;rfl):PE X (.ListComp elt [⟨i,a,d,0⟩] scope pos) (rG c.length p g t y):=by
 intro b s σ H Q I h;rw[eval_ListComp];show OA (use:=b6) (cl:=aL X.env scope.names []) rfl hs (cD (S.cells I.ok)) S.kind S.names ?_;show AO (o b s σ H _ I h) λv s1 z=>AO z λGC s2 B=>?_;have⟨it,fp,tn,J,H2,e,j,T,st2,k,W⟩:=B;subst e;show gX (RR:=λf C=>compPost (ko X.prog X.w) X.A X.xe b6 (EP X b σ Q) f C) S n q r u j T st2 k W ?_;intro D C s5 H5 ys AE G hC l m L O Y q5;obtain⟨m5,HN,_⟩:=l.loc;show⟨m5,HN,λh' sb=>⟨.ref D,_,lH j l (Nj G.symm) (by change @PR Nat _ s2.heap.objs.size C;lia) (l1 (by change @Hm Nat _ D C;lia)) m L O Y sb k,rfl,q5 D m⟩⟩
def uE(S:bJ X N r scope)(hc:X.calm=b5)(hN:X.N.Nodup)(GK:X.N[i]?=a5 y)(L:X.env.scope.names.lookup y=a5 .local)
  (hi:PI X n d wi) (hg:∀C s H ex,PG (Bi X N scope C s H ex) n g) (hf:∀C s H ex,Dq (Bi X N scope C s H ex) k tt) (he:∀C s H ex,PE (Bi X N scope C s H ex) elt te)
  (DS:Kx (.ListComp elt [⟨n,d,k,0⟩] scope pos) (a5 (.Name y m)) Cr.line X.env=pure b5:=by rfl)
  (hs:∀x,FW d X.env x=pure x:=by intro _;rfl):PS X (.Assign [.Name y m] (.ListComp elt [⟨n,d,k,0⟩] scope pos) Cr) (wU (rG r.length wi g tt te) (oB i)):=by
 intro f s σ H D I h;rw[exec_Assign_Name_used _ _ _ _ DS];show b4 (Oz (b4 ?_));change gi _ X.A (do let _ <-comprehension (.ListComp elt [⟨n,d,k,0⟩] scope pos) scope X.env _ (Qg []) cb (Ew d X.env) (a5 (LK (.Name y m) X.env))) _ _ s;show b4 (B9 (OA (use:=a5 (LK (.Name y m) X.env)) (cl:=aL X.env scope.names []) (Q:=λ_ s'=>SP X f D .next s') rfl hs (cD (S.cells I.ok)) S.kind S.names ?_) (λ_ s' hq=>c4 (c4 hq)) λ_ _ e=>e);show AO (hi f s σ H _ I h) λv s1 h1=>AO h1 λGC s2 h2=>?_;have⟨it,fp,tn,J,H2,e,l,T,st2,O,W⟩:=h2;subst e;show gX (RR:=λt C=>compPost (ko X.prog X.w) X.A X.xe (a5 (LK (.Name y m) X.env)) (λ_ s'=>SP X f D .next s') t C) S hc hg hf he l T st2 O W ?_;intro j C q u Y AE hD hC G n5 FK FL FN q5;obtain⟨m5,HN,_⟩:=G.loc;have K2:u C=b6:=G.free;have B:Inv X f σ (upd u j (.lst Y)) {q with heap:=q.heap}:=lH l G (Nj hD.symm) (by change @PR Nat _ s2.heap.objs.size C;lia) (l1 (by change @Hm Nat _ j C;lia)) n5 FK FL FN (LP ..) O;change gi _ X.A (LK (.Name y m) X.env (.ref j)) _ _ q;show Qd (jq (s:=q) B hN GK (.inl L) (show RelV (.ref j) (.ref j) from rfl) (λs6 I6 ⟨a,sb,ha⟩=>?_) (.inr L));have GJ:@Hm Nat _ X.env.locals C:=by have:@Hm Nat _ X.env.locals s2.heap.objs.size:=l.lt;lia
 have CO:∀x c,X.env.cells.lookup x=a5 c->c≠C:=λx c e=>by
  have⟨v,z⟩:=l.cell x c e;have:@Hm Nat _ c s2.heap.objs.size:=z.lt;show l1 (by change @Hm Nat _ c C;lia)
 have K3:C≠a:=by
  rcases ha with z|z
  .rw[z];show Er GJ
  .show(CO _ _ z).symm
 show⟨m5,HN.sameBut sb K3,λh' K4=>?_⟩;show⟨σ.set i (a5 (.ref j)),upd u j (.lst Y),I6.turned (it:=C) (t':=s6.toks) (λb o hb e=>(K4.2 b hb).trans e) ?_ (Er GJ) (.inr (by have:@PR Nat _ X.s₀.heap.objs.size s2.heap.objs.size:=l.sz;change @PR Nat _ X.s₀.heap.objs.size C;lia)) CO (λp hp=>?_),q5 j n5⟩
 .rw[az (Er (by change @Hm Nat _ j C;lia))];show K2
 .have:@Hm Nat _ p.1 s2.heap.objs.size:=hY (l.pin p hp).1;show l1 (by change @Hm Nat _ p.1 C;lia)
end
section
abbrev HP(x:Str):It:=⟨λi _=>i<x.cps.toList.length,λi H v H'=>H'=H/\∃c,x.cps.toList[i]?=a5 c/\v=.str ⟨#[c]⟩,λi _=>x.cps.toList.length<=i⟩
def lI{K:PySem.W.Frag}(it:hA)(J:["enumerate","zip","dict_itemiterator","dict_reverseitemiterator","odict_iterator","itertools.zip_longest","itertools.pairwise"].contains g=cb)
  (L:∀(A:Gp) (s:gs) (i c:Nat) (Q:Option eh->gs->Prop) (E:eh->gs->Prop),s.heap.IsStrIter it g x t i->x.cps[i]?=a5 c->(∀h',h'.IsStrIter it g x t (i+1)->A6 it s.heap h'->Q (a5 (.str ⟨#[c]⟩ s.toks)) {s with heap:=h',toks:=s.toks+1})->gi (ko P w) A (Kl (.ref it)) Q E s)
  (N:∀(A:Gp) (s:gs) (i:Nat) (Q:Option eh->gs->Prop) (E:eh->gs->Prop),A.handled=b6->s.heap.IsStrIter it g x t i->x.cps[i]?=b6->(∀h',Heap.ExtBut it s.heap h'->Q b6 {s with heap:=h' })->gi (ko P w) A (Kl (.ref it)) Q E s)
  (O:∀(A:Gp) (i:Nat) (s:gs) (Q:eh->gs->Prop) (E:eh->gs->Prop),s.heap.IsStrIter it g x t i->Q (.ref it) s->gi (ko P w) A (M8 (.ref it)) Q E s) :
  Turn P w K tg (HP x) [it] it (λi h=>h.IsStrIter it g x t i) where
 mem:=by simp
 obj:=λi h st b f=>by
  have e:b=it:=by simpa using f
  subst e;have⟨o,e,c,d⟩:=st;show⟨o,e,λv z=>by rw[d]at z;cases z⟩
 keep:=λi h h' st k=>let ⟨o,ho,r⟩:=st;⟨o,k it (by simp) o ho,r⟩
 item:=by
  intro X l m n D i a s σ H E I j st p;subst l m n;have⟨q,u,T,y,B,C⟩:=j it (by simp);have G:i<x.cps.toList.length:=p;show L X.A s i x.cps.toList[i] _ _ st (by simp) λh' st' Y=>?_;have I1:Inv X a σ H {s with heap:=h',toks:=s.toks+1}:=I.turned (λb o f e=>(Y.2 b f).trans e) q u y B C;have⟨o,e,cc,d⟩:=id st';show⟨_,rfl,oD (s:={s with heap:=h',toks:=s.toks+1}) e cc d J ⟨.str ⟨#[x.cps.toList[i]]⟩,H,I1,⟨_,rfl⟩,⟨rfl,_,by simp,rfl⟩,st',λb f=>(j b f).1⟩⟩
 done:=by
  intro X l m n D i a s σ H E I j st p;subst l m n;have⟨q,u,T,y,B,C⟩:=j it (by simp);have G:x.cps.toList.length<=i:=p;show N X.A s i _ _ (I.ok.hd D) st (by simpa using G) λh' eb=>⟨rfl,I.turned (t':=s.toks) (λb o f e=>eb b o f e) q u y B C⟩
 self:=λA i s Q E st h=>O A i s Q E st h
abbrev Ar(tl:TE):TI:=λσ H R=>tl σ H λv a=>∃x,v=.str x/\R (HP x) a
def xk(hl:PE X l tl):PI X w l (Ar tl):=by
 intro d s σ H R I h;show AO (hl d s σ H _ I h) λv s1 n=>?_;have⟨x,j,g,p,r⟩:=n;have⟨z,rfl,q⟩:=r;have⟨t,rfl⟩:=p;have k:∀b∈[s1.heap.objs.size],gD X d j b:=λb u=>by
  have e:b=s1.heap.objs.size:=by simpa using u
  subst e;show g.uf (ke _) (g.AJ.fresh (ke _))
 cases m:z.cps.all (·<128) with
 |true =>
  show wpAny_pyIter_ascii m ?_;show⟨s1.heap.objs.size,[s1.heap.objs.size],_,_,j,rfl,g.kept (t':=s1.toks) λb o e=>ea _ e,
   lI (x:=z) (t:=t) _ (by decide) (λA s i c Q E st f a=>wpAny_pyNext_ascii_item st f a) (λA s i Q E hh st f a=>wpAny_pyNext_ascii_end hh st f a) (λA i s Q E st a=>wpAny_pyIter_striter_ascii st a),
   ⟨_,g0 _ rfl,rfl,rfl⟩,k,q⟩
 |false =>
  show wpAny_pyIter_wide m ?_;show⟨s1.heap.objs.size,[s1.heap.objs.size],_,_,j,rfl,g.kept (t':=s1.toks) λb o e=>ea _ e,
   lI (x:=z) (t:=t) _ (by decide) (λA s i c Q E st f a=>wpAny_pyNext_wide_item st f a) (λA s i Q E hh st f a=>wpAny_pyNext_wide_end hh st f a) (λA i s Q E st a=>wpAny_pyIter_striter_wide st a),
   ⟨_,g0 _ rfl,rfl,rfl⟩,k,q⟩
end
section
abbrev y6:V->Option Int->Option Int->Hp->VK->Prop:=λx lo a H Q=>∃z,x=.str z/\z.length<=df/\Q (.str (PySem.StrLaws.sliceText z lo a)) H
def je(x:Str)(lo a:Option Int)(hz:x.length<=df):(PySem.StrLaws.sliceText x lo a).length<=df:=y2 (Txt.slice_le x lo a) hz
def xl:DP X y6:=by
 intro b s σ H x v n o lo c p Q I g hs m e h;have⟨z,rfl,hz,q⟩:=h;have⟨t,rfl⟩:=g;show⟨"str",_,Qw.lookup,Iy _ _ _,?_⟩;have a:(PySem.StrLaws.sliceText z lo c).length<=df/\∀t' k,EP X b σ Q (.str (PySem.StrLaws.sliceText z lo c) t') {s with toks:=k}:=⟨je z lo c hz,λt' k=>⟨.str _,H,I.tok k,⟨_,rfl⟩,q⟩⟩
 cases m with
 |none =>
  cases e with
  |none=>show IC (l:=b6) (u:=b6) (st:=b6) hs rfl (MS a)
  |int j d=>show IC (l:=b6) (u:=a5 (j,d)) (st:=b6) hs rfl (MS a)
 |int i f =>
  cases e with
  |none=>show IC (l:=a5 (i,f)) (u:=b6) (st:=b6) hs rfl (MS a)
  |int j d=>show IC (l:=a5 (i,f)) (u:=a5 (j,d)) (st:=b6) hs rfl (MS a)
def lJ:EW X "str.endswith" (λx xs H Q=>∃a b,x=.str a/\xs=[.str b]/\Q (.bl (Qr a b)) H):=by
 intro c s σ H x xs v us Q I d rs h;have⟨a,b,rfl,rfl,q⟩:=h;have⟨t,rfl⟩:=d;have⟨u,rfl,t',rfl⟩:=vals1 rs;show SC.endswith ⟨.bl _,H,I,rfl,q⟩
def kf:EW X "str.partition" (λx xs H Q=>∃a b,x=.str a/\xs=[.str b]/\(b.length==0)=cb/\a.length<=df /\
  ∀p,H p=b6->Q (.ref p) (upd H p (.tup [.str (qs a b).1,.str (qs a b).2.1,.str (qs a b).2.2]))):=by
 intro d s σ H x xs v us Q I j rs h;have⟨a,b,rfl,rfl,l,hz,q⟩:=h;have⟨t,rfl⟩:=j;have⟨u,rfl,t',rfl⟩:=vals1 rs;show Hw F.slot_str_partition (Iy _ _ _) F.entry_str_partition (F.args_str_partition_2 _ _) (meets_str_partition a b t t' l hz) ?_;have m:H s.heap.objs.size=b6:=I.AJ.fresh (ke _);have n:=q _ m;have c:∀(f g i:Tok) (k:Nat),EP X d σ Q (.ref s.heap.objs.size) {s with toks:=k,heap:=s.heap.push {cls:=.type "tuple",data:=.seq [.str (qs a b).1 f,.str (qs a b).2.1 g,.str (qs a b).2.2 i].toArray}}:=λf g i k =>
  ⟨.ref s.heap.objs.size,_,I.laid (t':=k) (o:=.tup [.str (qs a b).1,.str (qs a b).2.1,.str (qs a b).2.2]) (λb u e=>ea _ e) (ke _)
   ⟨by change 3<=df;decide,_,.cons ⟨f,rfl⟩ (.cons ⟨g,rfl⟩ (.cons ⟨i,rfl⟩ .nil)),⟨_,g0 _ rfl,rfl,_,rfl⟩⟩,rfl,n⟩
 revert c;unfold qs;cases uk a b 0 a.length 1 with
 |_=>intro c;show c _ _ _ _
theorem jx:∀(l:List (Str×Tok)),Vals (l.map λp=>V.str p.1) (OM l)
 |[]=>.nil
 |(x,t)::r=>.cons ⟨t,rfl⟩ (jx r)
theorem cS:∀{a:List Str}{b:List eh},Vals (a.map V.str) b->∃l:List (Str×Tok),b=OM l/\l.map (·.1)=a
 |[],_,.nil=>⟨[],rfl,rfl⟩
 |y::a,_,.cons r t=>by
  have⟨c,rfl⟩:=r;have⟨l,rfl,e⟩:=cS t;show⟨(y,c)::l,rfl,by rw[kT,e]⟩
def rK:EW X "str.split" (λx xs H Q=>∃a b,x=.str a/\xs=[.str b]/\(b.length==0)=cb/\a.length+2<=df /\
  ∀p,H p=b6->Q (.ref p) (upd H p (.lst ((DX a b).map V.str)))):=by
 intro g s σ H x xs v us Q I j rs h;have⟨x,y,rfl,rfl,i,hz,q⟩:=h;have⟨t,rfl⟩:=j;have⟨r,rfl,u,rfl⟩:=vals1 rs;have d:H s.heap.objs.size=b6:=I.AJ.fresh (ke _);have m:=q _ d;have c:∀(l:List (Str×Tok)) (k:Nat),l.length<=df->l.map (·.1)=DX x y->EP X g σ Q (.ref s.heap.objs.size) {s with toks:=k,heap:=s.heap.push {cls:=.type "list",data:=.seq (OM l).toArray}}:=λl k hl e =>
  ⟨.ref s.heap.objs.size,_,I.laid (t':=k) (o:=.lst ((DX x y).map V.str)) (λb u e=>ea _ e) (ke _)
   ⟨by rw[<-e,ek,ek];show hl,OM l,_,by rw[<-e,nt];show jx l,g0 _ rfl⟩,rfl,m⟩
 have one:1<=df:=by decide
 cases f:(et (x.length<y.length)||decide (NP x<NP y))
 .cases d:(uk x y 0 x.length (x.length+1)).isEmpty
  .have n:(Hf x (uk x y 0 x.length (x.length+1)) y.length).length<=df:=by
    have:=PySem.StrLaws.occ_length_le x y 0 x.length (x.length+1);simp only[Hf,ek,List.length_zip,k4,mh];lia
   show Hw NI (Iy _ _ _) Nw (Nh _ _) (meets_str_split_sep x y t u f i d ⋯ n) ?_;change wants _ _ _ {s with toks:=_,heap:=s.heap.push {cls:=.type "list",data:=.seq (strsFrom s.toks (Hf x (uk x y 0 x.length (x.length+1)) y.length)).toArray}};rw[strsFrom_eq];show c (numbered s.toks _) _ ?_ ((QR _ _).trans ((Q9 (ne_true_of_eq_false f)).trans (Q9 (ne_true_of_eq_false d))).symm);have e:=Rb Ge (QR s.toks (Hf x (uk x y 0 x.length (x.length+1)) y.length));rw[ek]at e;lia
  .show Hw NI (Iy _ _ _) Nw (Nh _ _) (meets_str_split_not_found x y t u f i d)
    (c [(x,t)] _ one ((Q9 (ne_true_of_eq_false f)).trans (Q8 d)).symm)
 .show Hw NI (Iy _ _ _) Nw (Nh _ _) (meets_str_split_cannot_occur x y t u f)
   (c [(x,t)] _ one (Q8 f).symm)
def uF:EW X "str.join" (λx xs H Q=>∃a p b,x=.str a/\xs=[.ref p]/\A_ X.K H p (b.map V.str)/\Kn a b=b5/\Q (.str (AV a b)) H):=by
 intro c s σ H x xs v us Q I d rs h;have⟨a,p,b,rfl,rfl,f,g,q⟩:=h;have⟨t,rfl⟩:=d;have⟨u,rfl,r⟩:=vals1 rs;cases r;have⟨m,i,j,hz⟩:=I.list f;have⟨l,rfl,e⟩:=cS i;show SC.join j.isList e g λt' k=>⟨.str _,H,I.tok k,⟨_,rfl⟩,q⟩
theorem gf:∀{bs:List Bool}{a:List eh},Vals (bs.map V.bl) a->a=bs.map Ka
 |[],_,.nil=>rfl
 |b::bs,_,.cons r t=>by
  cases r;rw[gf t];rfl
def rL:X.calm=b5->dY X (.builtin "all") (λxs H Q=>∃(p:hA) (bs:List Bool),xs=[.ref p]/\A_ X.K H p (bs.map V.bl)/\Q (.bl (bs.all id)) H):=by
 intro g d s σ H xs us Q I rs h;have⟨p,bs,rfl,j,q⟩:=h;have⟨u,rfl,r⟩:=vals1 rs;cases r;have⟨o,k,c,hz⟩:=I.list j;have e:=gf k;subst e;have l:p<s.heap.objs.size:=by obtain⟨_,_,e,_⟩:=c;show hY e
 show call_all_walk (La c.isList ?_);show⟨s.heap.objs.size,[s.heap.objs.size,p],[s.heap.objs.size],(bs.map Ka).toArray.size,_,_,λi=>(bs[i]?).getD b5,rfl,OD (A:=X.A.in1) (I.ok.hd g) _ p (l1 l) (bs.map Ka).toArray,
  ⟨⟨_,g0 _ rfl,rfl,rfl⟩,c.isList.push _⟩,λi v s' Q' t m f=>?_,λh' n hk=>?_⟩
 .have a:(bs.map Ka)[i]?=a5 v:=by simpa using m
  rw[nc]at a;cases e:bs[i]? with
  |none=>rw[e]at a;cases a
  |some b =>
   rw[e]at a;cases a;simp only[e,OQ]at f;show FR f
 .have e:((hQ (bs.map Ka).toArray.size).all λi=>(bs[i]?).getD b5)=bs.all id:=by
   rw[i5,ek];show PV bs
  rw[e];show⟨.bl _,H,I.kept (t':=n) (PX hk),rfl,q⟩
end
section
end
abbrev xm(N a:List Str)(scope:Gn)(out:List (Str×EI)):Bool :=
 et (scope.kind=.function)&&scope.names.all (λy=>et (scope.names.lookup y.1=a5 y.2))&&scope.names.all (λy=>et (y.2≠.cell)||decide (y.1∈a))&&decide N.Nodup&&et (N.take a.length=a) &&
 scope.names.all (λy=>et (y.2≠.local)||decide (y.1∈a)||decide (y.1=".0"))&&et ((".0":Str)∉N)&&scope.names.all (λy=>et (y.2≠.free)||decide (out.lookup y.1=a5 .cell)||decide (out.lookup y.1=a5 .free))&&scope.names.all (λy=>et (y.1≠".")&&et (y.1≠".."))
def rM(c:X.env.scope.names=out)(d:cv (N.drop a.length) X.N)(h:xm N a scope out=b5):bJ X N a scope:=by
 unfold xm at h;simp only[dV,va,Ju,Q6]at h;obtain⟨⟨⟨⟨⟨⟨⟨⟨f,g⟩,i⟩,j⟩,k⟩,l⟩,m⟩,n⟩,o⟩:=h;show⟨f,g,λy b e=>?_,j,k,λy b e=>?_,m,d,λy b e=>?_,o⟩
 .rcases i y b with z|z
  .show absurd e z
  .show z
 .rcases l y b with(z|z)|z
  .show absurd e z
  .show .inl z
  .show .inr z
 .rw[c];rcases n y b with(z|z)|z
  .show absurd e z
  .show .inl z
  .show .inr z
section
abbrev ai(prog:ve)(w:y1)(h:DW)(k:Str×List Str)(a:hA):Prop :=
 ∃o n t b,h.get? a=a5 o/\o.cls=.type "tuple"/\o.data=.seq #[.str k.1 t,.ref b] n/\Nv (PySem.strKind prog w) h k.2 b
def ai.typeIs{s:gs}(x:ai prog w s.heap k a):s.TypeIs (.ref a) "tuple":=let ⟨o,_,_,_,ho,b,_⟩:=x;⟨o,ho,b⟩
def ai.inj(e:ai prog w h x a)(f:ai prog w h y a):x=y:=by
 obtain⟨o,n,t,b,ho,_,g,i⟩:=e;obtain⟨j,q,t',r,k,_,c,l⟩:=f;obtain rfl:o=j:=tj (ho.symm.trans k);rw[g]at c;injection c with d _
 simp only[Array.mk.injEq,Na,Value.str.injEq,Value.ref.injEq,and_true]at d;obtain⟨⟨m,_⟩,p⟩:=d;subst p;show Ml m (i.inj l)
def ai.keeps(x:ai prog w h k a)(ho:h.get? d=a5 o)(e:o.data=.dict es ep)(hs:A6 d h h'):ai prog w h' k a:=by
 have⟨f,n,t,b,g,i,c,j⟩:=x;have l:a≠d:=by
  rintro rfl;obtain rfl:f=o:=tj (g.symm.trans ho);rw[e]at c;show nomatch c
 show⟨f,n,t,b,(hs.2 a l).trans g,i,c,j.keeps ho e hs⟩
abbrev e_(prog:ve)(w:y1)(k:Str×List Str):Int:=reduceHash (BX [(PySem.strKind prog w).hash k.1,IW (PySem.strKind prog w) k.2])
abbrev rN(prog:ve)(w:y1)(hh:DW)(v:eh)(n:Int)(d:Nat):Prop :=
 ∀{A:Gp} {E:eh->gs->Prop} {s:gs} {Q:Int->gs->Prop},s.heap=hh->A.units<y0->Q n {s with toks:=s.toks+d}->gi (ko prog w) A (pyHash v) Q E s
def m7(x:Str)(t:Tok):rN prog w hh (.str x t) ((PySem.strKind prog w).hash x) 1:=λ_ _ h=>(PySem.strKind prog w).pyHash (by simp[PySem.strKind,Gu]) h
def kg(hk:Nv (PySem.strKind prog w) hh a b):rN prog w hh (.ref b) (IW (PySem.strKind prog w) a) (a.length+1):=λe c h=>by
 subst e;show wpAny_pyHash_tuple c hk h
def cE(j:A.units+1<y0)(hk:ai prog w s.heap k a)(h:Q (e_ prog w k) {s with toks:=s.toks+(k.2.length+3)}):
  gi (ko prog w) A (pyHash (.ref a)) Q E s:=by
 have f:=hk.typeIs;obtain⟨o,n,t,b,ho,_,m,p⟩:=hk;unfold pyHash
 first|unfold pyHashByItsType|skip
 first|show b4 (wpAny_cRoomFor_or (.inr ⋯) ?_)|skip
 show b4 (Ie f PySem.F.slot_tuple_hash.lookup ?_);change gi _ _ (if (a5 (Value.builtin "tuple.__hash__")==a5 CA)=b5 then _ else _) Q E s;rw[Q9 (by rw[beq_builtin_none];show mA)];show b4 (Ie f PySem.F.slot_tuple_hash.lookup ?_);change gi _ _ (callSpecialIfBoundUnlessNone? (.ref a) "__hash__" _ >>= _) Q E s;show b4 (wpAny_callSpecialIfBoundUnlessNone?_slot f PySem.F.slot_tuple_hash (HE PySem.F.slot_tuple_hash f PySem.F.entry_tuple_hash ?_ (PySem.F.args_tuple_hash_1 _)));change gi _ _ (Qt (.ref a) >>= _) _ _ s;show b4 (Nt ho m ?_);show b4 ?_;rw[<-Gh];show FD _
  (λc (d:Array Int) s'=>(c=[vl k.1 t,rd b]/\d=#[]/\s'=s)\/(c=[rd b]/\d.toList=[(PySem.strKind prog w).hash k.1]/\s'={s with toks:=s.toks+1}) \/
   (c=[]/\d.toList=[(PySem.strKind prog w).hash k.1,IW (PySem.strKind prog w) k.2]/\s'={s with toks:=s.toks+1+(k.2.length+1)}))
  _ ?_ ?_ _ _ (.inl ⟨rfl,rfl,rfl⟩)
 .rintro x c d s' (⟨e,rfl,rfl⟩|⟨e,g,rfl⟩|⟨e,_,_⟩)
  .cases e;show b4 (m7 k.1 t (hh:=s'.heap) rfl (by change A.units+1<y0;show j) ?_)
   first
    |show c4 (.inr (.inl ⟨rfl,rfl,rfl⟩))
    |show b4 (c4 (c4 (.inr (.inl ⟨rfl,rfl,rfl⟩))))
  .cases e;show b4 (kg p rfl (by change A.units+1<y0;show j) ?_)
   first
    |show c4 (.inr (.inr ⟨rfl,by simp[g],rfl⟩))
    |show b4 (c4 (c4 (.inr (.inr ⟨rfl,by simp[g],rfl⟩))))
  .cases e
 .rintro d s' (⟨e,_,_⟩|⟨e,_,_⟩|⟨_,g,rfl⟩)
  .cases e
  .cases e
  .change gi _ _ (retInt (BX d.toList)) _ _ _;rw[g];show wpAny_ret_mkInt ?_;have l:s.toks+1+(k.2.length+1)+1=s.toks+(k.2.length+3):=by lia
   change gi _ _ (if (et (-(2:Int) ^ 63<=BX [(PySem.strKind prog w).hash k.1,IW (PySem.strKind prog w) k.2])&&et (BX [(PySem.strKind prog w).hash k.1,IW (PySem.strKind prog w) k.2]<2 ^ 63))=b5 then _ else _) Q E _;unfold e_ reduceHash at h;by_cases i:(et (-(2:Int) ^ 63<=BX [(PySem.strKind prog w).hash k.1,IW (PySem.strKind prog w) k.2])&&et (BX [(PySem.strKind prog w).hash k.1,IW (PySem.strKind prog w) k.2]<2 ^ 63))=b5
   .rw[Q8 i];rw[Q8 i]at h;show c4 (by rw[l];show h)
   .rw[Q9 i];rw[Q9 i]at h;show b4 (Jv (c4 (by rw[l];show h)))
def lK(j:A.units<y0)(k:ai prog w s.heap x a)(f:ai prog w s.heap y b)(h:P (.done (.ret (.bool (et (x=y))))) s):
  gi (ko prog w) A (JJ.«tuple.__eq__» ⟨[.ref a,.ref b],[]⟩) P E s:=by
 have l:=f.typeIs;obtain⟨G,H,m,g,n,_,o,p⟩:=k;obtain⟨I,J,q,i,t,_,B,C⟩:=f;change gi _ _ (P7 (.ref b) (.type "tuple") >>= _) _ _ s;show b4 (JA l MV ?_);simp only[w6,k9,Ra];show b4 (Nt n o ?_);show b4 (Nt t B ?_);show b4 ?_;show FD _
  (λc r s'=>r.1=b6/\s'=s/\((c=[(vl x.1 m,vl y.1 q),(rd g,rd i)])\/(c=[(rd g,rd i)]/\x.1=y.1)\/(c=[]/\x=y)))
  _ ?_ ?_ _ _ ⟨rfl,rfl,.inl rfl⟩
 .rintro⟨u,v⟩ c r s' ⟨d,rfl,(e|⟨e,D⟩|⟨e,_⟩)⟩
  .cases e;show b4 ((PySem.strKind prog w).eqBool (a:=x.1) (b:=y.1) (by simp[PySem.strKind,Gu]) (by simp[PySem.strKind,Gu]) ?_);by_cases hk:x.1=y.1
   .rw[Q_ hk];simp only[w6,k9,Ra];show c4 ⟨rfl,rfl,.inr (.inl ⟨by first|rfl|trivial,hk⟩)⟩
   .rw[Q7 hk];simp only[Kk,if_true];rw[Q7 (λz=>hk (by rw[z]))]at h;show b4 (c4 (c4 (c4 h)))
  .cases e;show b4 (wpAny_eqBool_tuple j p C ?_);by_cases hk:x.2=y.2
   .rw[Q_ hk];simp only[w6,k9,Ra];show c4 ⟨rfl,rfl,.inr (.inr ⟨by first|rfl|trivial,Ml D hk⟩)⟩
   .rw[Q7 hk];simp only[Kk,if_true];rw[Q7 (λz=>hk (by rw[z]))]at h;show b4 (c4 (c4 (c4 h)))
  .cases e
 .rintro⟨L,N⟩ s' ⟨d,rfl,(e|⟨e,_⟩|⟨_,rfl⟩)⟩
  .cases e
  .cases e
  .simp only at d;subst d;show c4 ?_;rw[Q_ rfl]at h;show h
def cF(g:A.units+2<y0)(c:ai prog w s.heap x a)(d:ai prog w s.heap y b)(h:Q (et (x=y)) s):
  gi (ko prog w) A (eqBool (.ref a) (.ref b)) Q E s:=by
 unfold eqBool
 try with_reducible show z8 ?_
 change gi _ _ (if (rd a==rd b)=b5 then _ else _) Q E s;by_cases f:(rd a==rd b)=b5
 .rw[Q8 f];have e:a=b:=by have:=OT f;injection this
  subst e;obtain rfl:=c.inj d;show b4 (Jv (c4 (by simpa using h)))
 .rw[Q9 f];show b4 (wpAny_richCompare_same_room (op:=.Eq) c.typeIs d.typeIs PySem.F.slot_tuple_eq
   (HE PySem.F.slot_tuple_eq c.typeIs PySem.F.entry_tuple_eq (lK (by first|(change A.units+1<y0;lia)|(change A.units<y0;lia)|(change A.units+1+1<y0;lia)) c d ⟨_,rfl,(λe=>nomatch e),FR h⟩) (PySem.F.args_tuple_eq_2 _ _)) ⋯)
def fb(hk:Nv (PySem.strKind prog w) s.heap k a)(h:Q b5 s):gi (ko prog w) A (ON (n+1) (.ref a)) Q E s:=by
 have e:=hk.typeIs;obtain⟨o,c,l,ho,_,g,i⟩:=hk;unfold ON;show b4 (Ie e PySem.F.slot_tuple_eq.lookup ?_);change gi _ _ (P7 (.ref a) (.type "tuple") >>= _) _ _ s;show b4 (JA e MV ?_);simp only[w6,k9,Ra];show b4 (IT ho g ?_);show b4 ?_;change gi _ _ (Qo c _ _) _ _ s;rw[<-Gh];show FD _ (λb r s'=>r.1=b6/\s'=s/\∀v∈b,QW v=b5) _ ?_ ?_ _ _ ⟨rfl,rfl,i.byValue⟩
 .rintro v b r s' ⟨d,rfl,f⟩;rw[Qh _ (f v gm)];show b4 (c4 ?_);simp only[w6,k9,Ra];show c4 ⟨rfl,rfl,λu j=>f u (eu _ j)⟩
 .rintro⟨m,p⟩ s' ⟨d,rfl,_⟩;simp only at d;subst d;show c4 h
def bY(hk:ai prog w s.heap k a)(h:Q b5 s):gi (ko prog w) A (ON 8 (.ref a)) Q E s:=by
 have f:=hk.typeIs;obtain⟨o,n,t,b,ho,_,g,i⟩:=hk;unfold ON;show b4 (Ie f PySem.F.slot_tuple_eq.lookup ?_);change gi _ _ (P7 (.ref a) (.type "tuple") >>= _) _ _ s;show b4 (JA f MV ?_);simp only[w6,k9,Ra];show b4 (IT ho g ?_);show b4 ?_;rw[<-Gh];show FD _ (λc r s'=>r.1=b6/\s'=s/\(c=[vl k.1 t,rd b]\/c=[rd b]\/c=[])) _ ?_ ?_ _ _ ⟨rfl,rfl,.inl rfl⟩
 .rintro v c r s' ⟨d,rfl,(e|e|e)⟩
  .cases e;rw[Qh _ rfl];show b4 (c4 ?_);simp only[w6,k9,Ra];show c4 ⟨rfl,rfl,.inr (.inl (by first|rfl|trivial))⟩
  .cases e;show b4 (fb i ?_);simp only[w6,k9,Ra];show c4 ⟨rfl,rfl,.inr (.inr (by first|rfl|trivial))⟩
  .cases e
 .rintro⟨j,l⟩ s' ⟨d,rfl,_⟩;simp only at d;subst d;show c4 h
end
abbrev fc(prog:ve)(w:y1):HeapKind prog w (Str×List Str) where
 is:=ai prog w
 hash:=e_ prog w
 draws:=λk=>k.2.length+3
 room:=λA=>A.units+2<y0
 inj:=λa b=>a.inj b
 keeps:=λx ho d hs=>x.keeps ho d hs
 pyHash:=λc hk h=>cE ⋯ hk h
 eqBool:=λc a b h=>cF c a b h
 quiet:=λhk h=>bY hk h
@[reducible]def bN:=Str×List Str
abbrev cG(K:PySem.W.Frag)(H:Hp)(v:V)(k:bN):Prop:=∃a b,v=.ref a/\Bb K H a [.str k.1,.ref b]/\Bb K H b (k.2.map V.str)
abbrev gh(P:ve)(w:y1)(d:hA)(xs:List (bN×hA×eh)):HO:=.ext λh=>(d==C8)=cb/\∃o es ep,h.get? d=a5 o/\o.ExactDict/\o.data=.dict es ep/\es.toList=xs.map (entryOfKey (fc P w))/\(xs.map (·.1)).Nodup
abbrev da(P:ve)(w:y1)(K:PySem.W.Frag)(H:Hp)(d:hA)(a:List bN):Prop:=∃xs,H d=a5 (gh P w d xs)/\xs.map (·.1)=a/\∀x∈xs,cG K H (.ref x.2.1) x.1
theorem gY:∀{a:List Str}{b:List eh},Vals (a.map V.str) b->ItemsAre (PySem.strKind P w) a b
 |[],_,.nil=>.nil
 |k::a,_,.cons r t=>by
  have⟨c,rfl⟩:=r;show .cons (by simp[PySem.strKind,Gu]) (gY t)
def uG(I:Inv X a σ H s)(e:Bb X.K H b (c.map V.str)):Nv (PySem.strKind X.prog X.w) s.heap c b:=by
 obtain⟨d,r,⟨o,f,g,n,h⟩,_⟩:=I.tuple e;show⟨o,d.toArray,n,f,g,h,by simpa using gY r⟩
def fe(I:Inv X d σ H s)(e:cG X.K H (.ref a) k):ai X.prog X.w s.heap k a:=by
 have⟨p,b,q,f,g⟩:=e;cases q;obtain⟨u,r,⟨o,h,i,n,j⟩,_⟩:=I.tuple f;cases r with
 |cons l c =>
  cases c with
  |cons c m =>
   cases m;have⟨t,rfl⟩:=l;cases c;show⟨o,n,t,b,h,i,j,uG I g⟩
section
def Inv.As(I:Inv X a σ H s):C8<s.heap.objs.size:=by
 obtain⟨o,es,ep,ho,_⟩:=I.mod.glob;have b:@Hm Nat _ w' s.heap.objs.size:=hY (I.bk _ _ ho);obtain⟨e,⟨f,g,h,c,_⟩,_⟩:=I.mod.blt;have d:@Hm Nat _ MK s.heap.objs.size:=hY (I.bk _ _ c);revert b d;change @Hm Nat _ w' s.heap.objs.size->@Hm Nat _ MK s.heap.objs.size->@Hm Nat _ C8 s.heap.objs.size;unfold w' MK C8;lia
def gZ(I:Inv X a σ H s)(h:H d=a5 (gh X.prog X.w d xs))(hk:∀x∈xs,cG X.K H (.ref x.2.1) x.1):(d==C8)=cb/\s.heap.DictOfH (fc X.prog X.w) d xs:=by
 obtain⟨⟨b,o,es,ep,c,e,f,g,i⟩,_⟩:=I.AJ d _ h;show⟨b,o,es,ep,c,e,f,g,λx j=>fe I (hk x j),i⟩
def vX(b:(d==C8)=cb)(x:h.DictOfH (fc P w) d xs):bt P w H' h d (gh P w d xs):=by
 obtain⟨o,es,ep,a,c,e,f,_,g⟩:=x;show⟨⟨b,o,es,ep,a,c,e,f,g⟩,⟨o,a⟩,λq a ⟨i,o,es,ep,j,l,m,n,p⟩ k=>⟨i,o,es,ep,k _ j,l,m,n,p⟩⟩
def uH:PE X (.Dict [] [] pos) (λ_ H Q=>∀p,H p=b6->Q (.ref p) (upd H p (gh X.prog X.w p []))):=λb s σ H Q I h =>
 Qp ⟨.ref s.heap.objs.size,_,I.laid (a:=s.heap.objs.size) (o:=gh X.prog X.w s.heap.objs.size []) (t':=s.toks) (λ_ _ q=>ea _ q) (ke _)
  (vX (beq_eq_false_iff_ne.mpr (Eu (l1 I.As))) (QD s.heap)),rfl,h _ (I.AJ.fresh (ke _))⟩
def ez(k:bN):(Nl xs k).isSome=et (k∈xs.map (·.1)):=by
 unfold Nl;rw[Ko,HW,List.find?_isSome,Q6,lg];constructor
 .rintro⟨x,a,e⟩;show⟨x,a,Rc e⟩
 .rintro⟨x,a,e⟩;show⟨x,a,Q_ e⟩
def qp(p:X.A.units+3<y0):BF X (Gm .NotIn) (λx y H Q=>∃k d c,cG X.K H x k/\y=.ref d/\da X.prog X.w X.K H d c/\Q (.bl (!et (k∈c))) H):=by
 intro e s σ H x y v u Q I g i h;obtain⟨k,d,c,f,rfl,⟨xs,j,l,m⟩,q⟩:=h;cases i;have⟨a,b,rfl,r,t⟩:=id f;cases g;have⟨n,o⟩:=gZ I j m;show Qv (knd:=fc X.prog X.w) (k:=k) (by change X.A.units+1+2<y0;lia) (fe I f) n o ?_;rw[ez,l];show⟨.bl _,H,I.tok _,rfl,q⟩
def uI(hu:X.A.units+3<y0):jc X (λo i v H Q=>∃d k c,o=.ref d/\cG X.K H i k/\da X.prog X.w X.K H d c/\k∉c/\c.length<=1000/\∀H',da X.prog X.w X.K H' d (c++[k])->(∀b,b≠d->H' b=H b)->Q H'):=by
 intro t s σ H o i v ov iv u Q I D G rv h;obtain⟨d,k,c,rfl,j,⟨xs,g,l,B⟩,J,hl,q⟩:=h;cases D;have⟨a,b,rfl,e1,e2⟩:=id j;cases G;have⟨L,N⟩:=gZ I g B;have O:xs.length<=df:=by
  have:=Rb Ge l;rw[ek]at this;rw[this];show FO (ql hl)
 show P1 (hsz:=O) (knd:=fc X.prog X.w) (k:=k) (by change X.A.units+1+2<y0;lia) (fe I j) N λh' n T=>?_;have Y:Nl xs k=b6:=by
  have:=ez (xs:=xs) k;rw[l,Q7 J]at this;cases e:Nl xs k with
  |none=>rfl
  |some _=>rw[e]at this;cases this
 rw[storedH_new Y]at n;obtain⟨o',AG,Fs,g1,_⟩:=id n;show⟨upd H d (gh X.prog X.w d (xs++[(k,a,u)])),I.write (x:=d) (e:=d) (by rw[g];show MZ) (.inl rfl) (λb q p z=>(T.2 b p).trans z) ⟨o',g1⟩ (vX L n),q _ ⟨_,aC,by rw[Ba,l];rfl,λx hx=>?_⟩ λb p=>az p⟩;have C:∀{f:hA} {r:List V},Bb X.K H f r->Bb X.K (upd H d (gh X.prog X.w d (xs++[(k,a,u)]))) f r:=λ{f r} z=>by
  rcases z with(z|⟨o,z⟩)|z
  .show .inl (.inl (by rw[az (qZ z g (λz=>nomatch z))];show z))
  .show .inl (.inr ⟨o,by rw[az (qZ z g (λz=>nomatch z))];show z⟩)
  .show .inr z
 have keep:∀{y:V} {k':bN},cG X.K H y k'->cG X.K (upd H d (gh X.prog X.w d (xs++[(k,a,u)]))) y k':=λ{y k'} ⟨f,b',z1,z2,z3⟩=>⟨f,b',z1,C z2,C z3⟩
 rcases oa.mp hx with m|m
 .show keep (B x m)
 .have:x=(k,a,u):=by simpa using m
  subst this;show keep j
end
abbrev BY(a b:Str):Bool:=!et (b.cps.toList<a.cps.toList)
def gI(a b:Str):BY a b=b5↔a.cps.toList<=b.cps.toList:=by
 simp only[BY,CG,decide_eq_false_iff_not];show List.not_lt
def jy(a b c:Str)(d:BY a b=b5)(e:BY b c=b5):BY a c=b5:=by
 rw[gI]at d e ⊢;show List.le_trans d e
def qq(a b:Str):(BY a b||BY b a)=b5:=by
 rw[Ju,gI,gI];show List.le_total _ _
def rO{x y:Str}(h:x.cps.toList=y.cps.toList):x=y:=by
 cases x;cases y;congr
 show Nk.mp h
def kh(c:BY a b=b5)(d:BY b a=b5):a=b:=by
 rw[gI]at c d;show rO (List.le_antisymm c d)
abbrev bF(l:List Str):List Str:=l.mergeSort BY
def cT(l:List Str):(bF l).Perm l:=List.mergeSort_perm l BY
def g4(l:List Str):(bF l).Pairwise (λa b=>BY a b=b5):=List.pairwise_mergeSort jy qq l
theorem ff:∀(l:List Str) (p:Str),risingS p l=b5->(p::l).Pairwise (λa b=>BY a b=b5)
 |[],p,_=>by simp
 |x::r,p,h=>by
  have h':(!ltCps x.cps.toList p.cps.toList&&risingS x r)=b5:=h;have⟨c,g⟩:=Bl.mp h';have d:=ff r x g;have f:BY p x=b5:=by rw[ltCps_eq]at c;show c
  show Ic.mpr ⟨λy i=>?_,d⟩;rcases fx.mp i with e|e
  .rw[e];show f
  .show jy _ _ _ f ((Ic.mp d).1 y e)
def ki(h:sortedS l=b5):l.Pairwise (λa b=>BY a b=b5):=by
 cases l with
 |nil=>show .nil
 |cons x r=>show ff r x h
theorem fL:∀{l m:List Str},l.Perm m->l.Pairwise (λa b=>BY a b=b5)->m.Pairwise (λa b=>BY a b=b5)->l=m
 |[],m,c,_,_=>(List.Perm.nil_eq c)
 |x::l,m,c,d,f=>by
  cases m with
  |nil=>show absurd c.length_eq (by simp)
  |cons y m =>
   have⟨g,h⟩:=Ic.mp d;have⟨i,j⟩:=Ic.mp f;have k:x=y:=by
    have m1:x∈y::m:=c.mem_iff.mp gm;have m2:y∈x::l:=c.mem_iff.mpr gm;rcases fx.mp m1 with e|e
    .show e
    .rcases fx.mp m2 with e'|e'
     .show e'.symm
     .show kh (g y e') (i x e)
   subst k;rw[fL (List.Perm.cons_inv c) h j]
def rP(a:l.Perm m)(hs:sortedS l=b5):l=bF m:=fL (a.trans (cT m).symm) (ki hs) (g4 m)
def lL(a:l.Perm m):bF l=bF m:=fL ((cT l).trans (a.trans (cT m).symm)) (g4 l) (g4 m)
def fg(l:List Str):(bF l).length=l.length:=(cT l).length_eq
section
theorem b8:∀{a:List Str}{b:List eh},Vals (a.map V.str) b->JS b a
 |[],_,.nil=>.nil
 |y::a,_,.cons r t=>by
  have⟨c,rfl⟩:=r;show .cons y c (b8 t)
theorem cU:∀{a:List eh}{b:List Str},JS a b->Vals (b.map V.str) a
 |_,_,.nil=>.nil
 |_,_,.cons x t h=>.cons ⟨t,rfl⟩ (cU h)
theorem eB(hc:gi (ko prog w) A.in1 (OZ x) (λvs s1=>∃ss,JS vs ss/\vs.length<64 /\
      ∀(h':DW) (BN:List eh) (e:Nat),(∀b o,s1.heap.get? b=a5 o->h'.get? b=a5 o)->h'.get? s1.heap.objs.size=a5 (IA "list" BN.toArray e)->JS BN (bF ss)->Q (.ref s1.heap.objs.size) {s1 with heap:=h' }) E s) :
    gi (ko prog w) A (Ja (.builtin "sorted") [x]) Q E s:=by
  refine Calls.call_function_entry kind_sorted plain_sorted entry_sorted (args_sorted1 _) ?_;unfold JJ.«sorted»;refine b4 (m:=checkCount "sorted" 1 1 _) (c4 ?_);refine b4 (B9 hc (λvs s1 h1=>?_) λ_ _ e=>e);obtain⟨ss,hS,EZ,h⟩:=h1
  refine wpAny_bind (wpAny_newList ?_ (by have : (64 : Nat) ≤ sizeLine := by decide
                                          lia))
  have Ft:(s1.heap.push (IA "list" vs.toArray 0)).get? s1.heap.objs.size=a5 (IA "list" vs.toArray 0):=g0 _ rfl;show gi _ _ _ _ _ {s1 with heap:=s1.heap.push (IA "list" vs.toArray 0)};refine b4 (z8 (HE slot_list_sort ⟨_,Ft,rfl⟩ entry_list_sort (list_sort_treeK strKind_oneLt Ft hS.keysOf (λv₁ v₂ rest e=>keyKind_strs (by rw[<-e];exact hS)) EZ λst' a1 a2=>⟨_,rfl,?_⟩) (args_list_sort _)));obtain⟨B_,b1,b2,b3⟩:=sorted_out_str hS a1 a2;obtain⟨e,he⟩:=sortedHeap_at (out:=(arrOf st').map (·.2)) Ft;rw[rP b2 b3]at b1;refine c4 ⟨_,rfl,h _ ((arrOf st').map (·.2)).toList e (λb o q=>?_) (by rw[Array.toArray_toList];exact he) b1⟩;have A4:b<s1.heap.objs.size:=hY q;show(sortedHeap (s1.heap.push (IA "list" vs.toArray 0)) s1.heap.objs.size vs ((arrOf st').map (·.2))).get? b=a5 o;rw[sortedHeap_old (l1 A4) (by rw[Hx];exact Kz A4)];exact ea _ q
def jf(hl:IsTup s.heap l a.toArray)
  (h:Q a {s with heap:=(s.heap.push (IA "list" #[] 0)).update s.heap.objs.size (vu (·++a.toArray))}) (hsz:a.length<=df) :
  gi (ko prog w) A (OZ (.ref l)) Q E s:=by
 have⟨o,ho,c,n,d⟩:=id hl;unfold OZ;show b4 (M6 (BQ entry_proto_collect' ?_));change gi _ _ (do QZ (.builtin "list.__iadd__" ⟨[<-Qg [],.ref l],[]⟩)) _ _ s;show b4 (wpAny_newList (c4 ⟨M4 _ (by decide +kernel),BQ entry_list_iadd' ?_⟩));change gi _ _ (F5 (.ref s.heap.objs.size) (.ref l) (.ref s.heap.objs.size)) _ _ {s with heap:=s.heap.push (IA "list" #[] 0)};unfold F5;have b:(s.heap.push (IA "list" #[] 0)).get? l=a5 o:=ea _ ho;show b4 (MA (T:="tuple") ⟨o,b,c⟩ ?_);have e:(wk "tuple"==wk "tuple")=b5:=by rfl
 rw[Q8 (by rw[e];simp)];show b4 (listItems_at b d ?_);show b4 (listItems_at (xs:=#[]) (n:=0) (g0 _ rfl) rfl ?_);rw[Q9 (by simp)];show b4 (listUpdate_at (xs:=#[]) (n:=0) (g0 _ rfl) rfl ?_ (pb _) (by change(#[]++a.toArray).size<=df+1;simp only[Nb,i5,Jr];lia));show c4 ?_;change gi (ko prog w) A (do
   let o <-load s.heap.objs.size
   match o.data with
   |.seq xs _=>pure xs.toList
   |_=>Pu "internal:collect") Q E {s with heap:=(s.heap.push (IA "list" #[] 0)).update s.heap.objs.size (vu (·++a.toArray))}
 show b4 (P4 (get?_update_seq (g0 _ rfl) _) ?_);change gi _ _ (pure ((#[]:Array eh)++a.toArray).toList) Q E _;rw[show((#[]:Array eh)++a.toArray).toList=a by simp];show c4 h
end
section
def jg{h:DW}{a:List eh}(e:h.get? b=a5 o):((h.push (IA "list" #[] 0)).update h.objs.size (vu (·++a.toArray))).get? b=a5 o:=by
 rw[JG _ _ _ _ (l1 (hY e))];show ea _ e
def lM(I:Inv X a σ H s)(h:∀b o,s.heap.get? b=a5 o->s1.heap.get? b=a5 o)(i:∃d c,s1={s with heap:=d,toks:=c})
  (hk:∀b o,s1.heap.get? b=a5 o->h'.get? b=a5 o) (j:h'.get? s1.heap.objs.size=a5 (IA "list" f.toArray e)) (k:JS f (bF ss)) (hsz:s.heap.objs.size<=s1.heap.objs.size) (hl:ss.length<=df)
  (q:∀p,H p=b6->Q (.ref p) (upd H p (.lst ((bF ss).map V.str)))):EP X a σ Q (.ref s1.heap.objs.size) {s1 with heap:=h' }:=by
 have⟨d,c,rfl⟩:=i;have g:Inv X a σ H {s with heap:=d,toks:=c}:=I.kept (t':=c) h;show⟨.ref d.objs.size,_,g.laid (t':=c) (o:=.lst ((bF ss).map V.str)) hk (ke _) ⟨by rw[ek,fg];show hl,f,e,cU k,j⟩,rfl,q _ (g.AJ.fresh (ke _))⟩
def gj:dY X (.builtin "sorted") (λxs H Q=>∃(p:hA) (c:List Str),xs=[.ref p]/\(A_ X.K H p (c.map V.str)\/Bb X.K H p (c.map V.str))/\c.length<64/\∀q,H q=b6->Q (.ref q) (upd H q (.lst ((bF c).map V.str)))):=by
 intro g s σ H xs us Q I rs h;have⟨p,c,rfl,hq,m,q⟩:=h;have⟨u,rfl,r⟩:=vals1 rs;cases r;have hl:c.length<=df:=FO (lx m (by decide));have i:∀(a:List eh),Vals (c.map V.str) a->∀(h':DW) (f:List eh) (e:Nat),(∀b o,((s.heap.push (IA "list" #[] 0)).update s.heap.objs.size (vu (·++a.toArray))).get? b=a5 o->h'.get? b=a5 o) ->
   h'.get? ((s.heap.push (IA "list" #[] 0)).update s.heap.objs.size (vu (·++a.toArray))).objs.size=a5 (IA "list" f.toArray e)->JS f (bF c) ->
   EP X g σ Q (.ref ((s.heap.push (IA "list" #[] 0)).update s.heap.objs.size (vu (·++a.toArray))).objs.size) {s with heap:=h' }:=λa d h' f e hk j k =>
  lM (s1:={s with heap:=(s.heap.push (IA "list" #[] 0)).update s.heap.objs.size (vu (·++a.toArray))}) I (λb o z=>jg z) ⟨_,s.toks,rfl⟩ hk j k (by change s.heap.objs.size<=((s.heap.push (IA "list" #[] 0)).update s.heap.objs.size (vu (·++a.toArray))).objs.size;rw[Heap.size_update,Hx];show KH _) hl q
 rcases hq with hq|hq
 .have⟨a,d,l,hz⟩:=I.list hq;have n:a.length=c.length:=by rw[<-d.length,ek]
  show eB (collect_list l.isList ⟨c,b8 d,⋯,λh' f e hk j k=>i a d h' f e hk j k⟩ ⋯)
 .have⟨a,d,l,hz⟩:=I.tuple hq;have n:a.length=c.length:=by rw[<-d.length,ek]
  show eB (jf l ⟨c,b8 d,⋯,λh' f e hk j k=>i a d h' f e hk j k⟩ ⋯)
end
@[reducible]def sK(P:ve)(w:y1):=PySem.strKind P w
abbrev cV(P:ve)(w:y1)(h:DW)(a:hA)(led:Bool)(D:List Str):Prop :=
 ∃(L:List (Str×Tok)) (es:Array (Int×eh)) (ep:Nat) (t:ED),h.get? a=a5 {cls:=.type "set",dict:=b6,data:=.set es ep t}/\es.toList=L.map (λp=>((sK P w).hash p.1,vl p.1 p.2)) /\
  (L.map (·.1)).Perm D/\D.Nodup/\t.fits es.size=b5/\es.size<FP/\t.led=led/\(es.size=0\/t.plain=cb)
section
def rQ{L:List (Str×Tok)}:ElemsOf (sK prog w) (L.map λp=>((sK prog w).hash p.1,vl p.1 p.2)):=by
 intro e a;obtain⟨p,_,rfl⟩:=lg.mp a;show⟨⟨p.1,by simp[PySem.strKind,Gu],rfl⟩,rfl⟩
def oK(x y:Str)(t:Tok):(sK prog w).is x (.str y t)=et (x=y):=by
 rw[HW];simp[PySem.strKind,Gu];show⟨λh=>h.symm,λh=>h.symm⟩
def m8(t:ED)(es:Array (Int×eh))(h:Int)(x:eh):(layNew t es h x).2.1.led=t.led:=by
 unfold layNew;split
 .change(Oe (t.put _).1 _).led=t.led;unfold Oe;split<;>rfl
 .rfl
def kj(t:ED)(es:Array (Int×eh))(n:Nat):(Oi t es n).2.1.led=t.led:=by
 unfold Oi;split
 .rename_i t' b a;have:t'.led=t.led:=by
   unfold Nd Ol at a;cases c:LS (Mh n - 1) (es.map (·.1)) with
   |none=>rw[c]at a;cases a
   |some o=>rw[c]at a;cases a;rfl
  dsimp only
  split
  .show this
  .rfl
 .rfl
def g6(t:ED)(es:Array (Int×eh))(n:Nat)(h:t.plain=cb):(Oi t es n).2.1.plain=cb:=by
 unfold Oi;split
 .rename_i t' b a;have:t'.plain=t.plain:=by
   unfold Nd Ol at a;cases c:LS (Mh n - 1) (es.map (·.1)) with
   |none=>rw[c]at a;cases a
   |some o=>rw[c]at a;cases a;rfl
  dsimp only
  split
  .rw[this];show h
  .rfl
 .rfl
def eC(h:l.Perm (L.map λp=>((sK prog w).hash p.1,vl p.1 p.2))):∃a:List (Str×Tok),l=a.map (λp=>((sK prog w).hash p.1,vl p.1 p.2))/\a.Perm L:=by
 have all:∀e∈l,∃p:Str×Tok,e=((sK prog w).hash p.1,vl p.1 p.2):=λe b=>by
  obtain⟨p,_,rfl⟩:=lg.mp (h.mem_iff.mp b);show⟨p,rfl⟩
 have ex:∀l:List (Int×eh),(∀e∈l,∃p:Str×Tok,e=((sK prog w).hash p.1,vl p.1 p.2))->∃a:List (Str×Tok),l=a.map (λp=>((sK prog w).hash p.1,vl p.1 p.2)):=by
  intro l;induction l with
  |nil=>intro _;show⟨[],rfl⟩
  |cons e l d =>
   intro c;have⟨p,rfl⟩:=c e gm;have⟨a,rfl⟩:=d λe b=>c e (eu _ b);show⟨p::a,rfl⟩
 have⟨a,rfl⟩:=ex l all;show⟨a,rfl,?_⟩;have g:(a.map λp=>((sK prog w).hash p.1,vl p.1 p.2)).map (λe=>match e.2 with|.str x t=>(x,t)|_=>(EA,0))=a:=by
  rw[nt];show Qz _
 have f:(L.map λp=>((sK prog w).hash p.1,vl p.1 p.2)).map (λe=>match e.2 with|.str x t=>(x,t)|_=>(EA,0))=L:=by
  rw[nt];show Qz _
 have:=h.map (λe=>match e.2 with|.str x t=>(x,t)|_=>(EA,0));rw[g,f]at this;show this
theorem m9(hS:cV prog w s.heap a led D)(BZ:D.length+1<FP)
    (h:∀h',A6 a s.heap h'->cV prog w h' a led (if x∈D then D else D++[x])->Q (et (x∉D)) {s with heap:=h' }) :
    gi (ko prog w) A (ND a (.str x tk) ((sK prog w).hash x)) Q E s:=by
  obtain⟨L,es,ep,t,ho,Bx,AS,A5,hf,hb,BD,BS⟩:=hS;have HR:(sK prog w).is x (.str x tk)=b5:=by rw[oK];simp
  have JB:ElemsOf (sK prog w) es.toList:=by rw[Bx];exact rQ
  have hlen:es.size=D.length:=by rw[<-i4,Bx,ek,<-ek (f:=NR) (as:=L),AS.length_eq]
  unfold ND QN;refine z8 (b4 (ti ho rfl hf ?_))
  dsimp only
  rw[byScan_of (knd:=sK prog w) rfl hb JB];simp only[↓reduceIte];unfold setAddByScan;refine b4 ?_;refine b4 (Jv ?_);refine b4 (wpAny_setScan_of (knd:=sK prog w) HR ho rfl hf JB ?_);have mem_iff:(∃e∈es.toList,(sK prog w).is x e.2=b5)↔x∈D:=by
    rw[Bx,<-AS.mem_iff,lg];constructor
    · rintro⟨e,he,hi⟩
      obtain⟨p,hp,rfl⟩:=lg.mp he;rw[oK,Q6]at hi;exact⟨p,hp,hi.symm⟩
    · rintro⟨p,hp,e⟩
      exact⟨_,lg.mpr ⟨p,hp,rfl⟩,by rw[oK];simp[e]⟩
  cases hr:P_ (λe=>(sK prog w).is x e.2) es.toList with
  | some j =>
    dsimp only
    obtain⟨hj,Lb,_⟩:=List.findIdx?_eq_some_iff_getElem.mp hr;have hx:x∈D:=mem_iff.mp ⟨es.toList[j],IF hj,Lb⟩;refine c4 (c4 ?_);have e:s={s with heap:=s.heap}:=by cases s;rfl
    have:=h s.heap (LP a s.heap) (by rw[Q8 hx];exact⟨L,es,ep,t,ho,Bx,AS,A5,hf,hb,BD,BS⟩);rw[Q7 (λz=>z hx)]at this;rw[e];exact this
  | none =>
    dsimp only
    have hx:x∉D:=λhx=>by
      obtain⟨e,he,hp⟩:=mem_iff.mpr hx;have:=List.findIdx?_eq_none_iff.mp hr e he;rw[hp]at this;exact Bool.noConfusion this
    have Lc:∀(b:Bool) {s₁:gs} {Q':Unit->gs->Prop},Q' () s₁->gi (ko prog w) A (match b with|true=>QP "set.scan.the-table-gave-way"|false=>pure ()) Q' E s₁ :=
      λb s₁ Q' hq=>by cases b<;>first|exact c4 hq|exact Jv hq
    have FU:=layNew_perm t es ((sK prog w).hash x) (.str x tk);have Cm:=layNew_fits t es ((sK prog w).hash x) (.str x tk);have B':=m8 t es ((sK prog w).hash x) (.str x tk);generalize hL:layNew t es ((sK prog w).hash x) (.str x tk)=NL at FU Cm B' ⊢;obtain⟨A',t1,CP,y8⟩:=NL
    dsimp only at FU Cm B' ⊢
    rw[OU,Bx,show [((sK prog w).hash x,vl x tk)]=[(x,tk)].map (λp=>((sK prog w).hash p.1,vl p.1 p.2)) from rfl,<-Ba]at FU;obtain⟨L1,e1,Le⟩:=eC FU;have Lf:A'.size=D.length+1:=by rw[<-i4,FU.length_eq,ek,mh,<-hlen,<-i4,Bx,ek];rfl
    have JC:A'.size<FP:=by lia
    have DU:(L1.map (·.1)).Perm (D++[x]):=(Le.map _).trans (by rw[Ba];exact AS.append_right _);have JD:(D++[x]).Nodup:=by
      rw[FG]
      exact ⟨A5, by simp, fun y hy z hz => by have : z = x := by simpa using hz
                                              subst this;rintro rfl;exact hx hy⟩
    refine b4 (Lc _ ?_);have CQ:∀h',A6 a s.heap h'->cV prog w h' a led (D++[x])->Q b5 {s with heap:=h' }:=λh' sb hs=>by
      have:=h h' sb (by rw[Q9 hx];exact hs);rw[Q_ hx]at this;exact this
    have tail:∀(g:Bool->Sem Unit),(∀(b:Bool) (s₁:gs) (Q':Unit->gs->Prop),Q' () s₁->gi (ko prog w) A (g b) Q' E s₁)->∀(R:Option Bool->gs->Prop),(∀h',A6 a s.heap h'->cV prog w h' a led (D++[x])->R (a5 b5) {s with heap:=h' })->∀t2:ED,t2.fits A'.size=b5->t2.led=led->t2.plain=cb->gi (ko prog w) A (do
        storeSet a A' t2
        if (!CP&&t2.tooFull)=true then do
            g (relayAll t2 A' (SetTable.grown A'.size)).2.2
            storeSet a (relayAll t2 A' (SetTable.grown A'.size)).1 (relayAll t2 A' (SetTable.grown A'.size)).2.1
            pure (some true)
          else pure (a5 b5)) R E s:=by
      intro g hg R hR t2 Lg CS Ds;refine b4 (K' ho rfl ?_ (Lm JC));have Dd:(s.heap.update a (D5 A' t2)).get? a=a5 {cls:=.type "set",dict:=b6,data:=.set A' (ep+1) t2}:=by
        have:=vr (D5 A' t2) ho rfl;exact this
      have CT:=DD s.heap a (D5 A' t2);split
      · have hp:=relayAll_perm t2 A' (H4 A'.size)
        have E1:=relayAll_fits t2 A' (H4 A'.size);have HS:=kj t2 A' (H4 A'.size);have HU:=g6 t2 A' (H4 A'.size) Ds;generalize Mz:Oi t2 A' (H4 A'.size)=Rl at hp E1 HS HU ⊢;obtain⟨DV,t3,JE⟩:=Rl
        dsimp only at hp E1 HS HU ⊢
        rw[e1]at hp;obtain⟨L2,e2,Lh⟩:=eC hp;have hsz:DV.size=A'.size:=by rw[<-i4,hp.length_eq,<-e1,i4]
        refine b4 (hg _ _ _ ?_);refine b4 (K' Dd rfl ?_ (Lm ⋯));have Dt:((s.heap.update a (D5 A' t2)).update a (D5 DV t3)).get? a=a5 {cls:=.type "set",dict:=b6,data:=.set DV (ep+1+1) t3}:=vr (D5 DV t3) Dd rfl;refine c4 (hR _ (CT.trans (DD _ a _)) ⟨L2,DV,_,t3,Dt,e2,(Lh.map _).trans DU,JD,E1,⋯,HS.trans CS,.inr HU⟩)
      · exact c4 (hR _ CT ⟨L1,A',_,t2,Dd,e1,DU,JD,Lg,JC,CS,.inr Ds⟩)
    split
    · rename_i hp
      refine b4 ?_;rw[hashByValue_scannable 8 rfl];refine c4 ?_;have ep:(if plainKind (vl x tk)=b5 then t1 else {t1 with plain:=cb})={t1 with plain:=cb}:=rfl;rw[ep];refine tail _ ?_ _ ?_ {t1 with plain:=cb} (SetTable.fits_plain_off Cm) (B'.trans BD) rfl
      · intro b s₁ Q' hq;cases b<;>first|exact c4 hq|exact Jv hq
      · intro h' De BV;dsimp only;exact c4 (CQ h' De BV)
    · rename_i hp
      refine b4 (c4 ?_);simp only[↓reduceIte];refine tail _ ?_ _ ?_ t1 Cm (B'.trans BD) (Pc.mpr hp)
      · intro b s₁ Q' hq;cases b<;>first|exact c4 hq|exact Jv hq
      · intro h' De BV;dsimp only;exact c4 (CQ h' De BV)
end
abbrev gF(D:List Str)(x:Str):List Str:=if x∈D then D else D++[x]
abbrev aE(l:List Str):List Str:=l.foldl gF []
theorem m_(h:D.Nodup):(gF D x).Nodup:=by
  unfold gF;split
  · exact h
  · rename_i hx
    rw[FG]
    exact ⟨h, by simp, fun y hy z hz => by have : z = x := by simpa using hz
                                           subst this;rintro rfl;exact hx hy⟩
theorem eD:∀(l D:List Str),D.Nodup->(l.foldl gF D).Nodup/\(∀x,x∈l.foldl gF D↔x∈D\/x∈l)/\(l.foldl gF D).length<=D.length+l.length
 |[],D,h=>⟨h,by simp,by simp⟩
 |y::l,D,h=>by
  have⟨a,b,f⟩:=eD l (gF D y) (m_ h);have c:∀x,x∈gF D y↔x∈D\/x=y:=λx=>by
   unfold gF;split
   .rename_i d;show⟨.inl,λz=>z.elim id (λe=>e▸d)⟩
   .simp
  have hl:(gF D y).length<=D.length+1:=by
   unfold gF;split
   .lia
   .simp
  show⟨a,λx=>?_,by rw[GA,k4];lia⟩;rw[GA,b,c,fx,or_assoc]
def ng(l:List Str)(x:Str):x∈aE l↔x∈l:=by rw[aE,(eD l [] Ms).2.1];simp
def g_(l:List Str):(aE l).length<=l.length:=by have:=(eD l [] Ms).2.2;simpa[aE] using this
def lN(l:List Str)(x:Str):aE (l++[x])=gF (aE l) x:=by unfold aE;rw[Pb];rfl
section
variable{prog:ve}{w:y1}{A:Gp}{R:Q1->gs->Prop}{I:hA}{fp wr:List hA}{G:Array PC->Array PC->Prop}{n:Nat}{P:Nat->eh->Prop}{St:Nat->gs->Prop}
def fM(W:Q0 prog w A.in1 I fp wr G n P St)(S:hA)(m:S∉fp)(led:Bool)
  (c:List Str) (hn:c.length=n) (y:∀i v,P i v->∃x t,c[i]?=a5 x/\v=.str x t) (d:n+1<FP) :
  ∀(k i:Nat) (s:gs),n - i=k->i<=n->St i s->cV prog w s.heap S led (aE (c.take i)) ->
   (∀s',Moved (S::wr) G s s'->cV prog w s'.heap S led (aE c)->R (.ok (.ret .none)) s') ->
   Kw (ko prog w) A (.builtin "set.update.loop" ⟨[.ref S,.ref I],[]⟩) R s:=by
 have p:S∉wr:=λh=>m (W.sub _ h);have q:∀b∈wr,b∈S::wr:=λb d=>eu _ d;intro k;induction k with
 |zero =>
  intro i s hk z j g l;have B:i=n:=by lia
  subst B;show BQ Dl ?_;rw[DI tx _];change gi _ A.in1 (Kl (.ref I) >>= _) _ _ s;show b4 (W.done s _ _ j λs' f=>?_);change gi _ A.in1 (ret CA) _ _ s';rw[Em ⋯]at g;show c4 (l s' (f.mono q) (by
   have⟨L,es,ep,t,ho,a⟩:=g;show⟨L,es,ep,t,f.heap S _ p ho,a⟩))
 |succ k C =>
  intro i s hk z j g l;have r:i<n:=by lia
  show BQ Dl ?_;rw[DI tx _];change gi _ A.in1 (Kl (.ref I) >>= _) _ _ s;show b4 (W.item i s _ _ r j λv s' D H f=>?_);have⟨x,t,J,rfl⟩:=y i v D;have N:cV prog w s'.heap S led (aE (c.take i)):=by
   have⟨L,es,ep,O,ho,a⟩:=g;show⟨L,es,ep,O,f.heap S _ p ho,a⟩
  change gi _ A.in1 (IX [vl x t] (QO S (.str x t)) >>= _) _ _ s';show b4 (z8 ?_);unfold QO;show z8 ?_;show b4 ((sK prog w).pyHash (k:=x) (by rw[oK];simp) ?_);have Q:(aE (c.take i)).length+1<FP:=by have:=g_ (c.take i);rw[rr]at this;lia
  show m9 (s:={s' with toks:=s'.toks+1}) N Q λh' u T=>?_;have Y:cV prog w h' S led (aE (c.take (i+1))):=by
   rw[Pa,J];change cV prog w h' S led (aE (c.take i++[x]));rw[lN];show T
  show c4 ⟨Ly tx _,C (i+1) _ ⋯ r (W.frame _ s' _ _ H (KH _) λb d o e=>?_) Y λEg Eo Ep=>?_⟩
  .rw[u.2 b (λh:b=S=>m (by rw[<-h];show d))];show e
  .show l Eg (Ql W.gtrans ((f.mono q).then_heap (KH _) λb o d e=>?_) Eo) Ep;rw[u.2 b (λh:b=S=>d (by rw[h];show gm))];show e
end
section
def d0(a:eh)
  (h:Q₁ (.ref s.heap.objs.size) {s with heap:=s.heap.push {cls:=.type "set",dict:=b6,data:=.set #[] 0 (.fresh 0 0 (!w.params.followText "set-order"))}}) :
  Kw (ko prog w) A (.call (.builtin "set.__new__") ⟨[.type "set",a],[]⟩) (wants Q₁ E) s:=by
 show N_ ?_;change gi _ A.in1 (do checkBuiltinCall "set.__new__" ⟨[.type "set",a],[]⟩;QZ (.builtin "set.__new__" ⟨[.type "set",a],[]⟩)) _ _ s;show b4 (Pt (PySem.F.newCall_set_1 a) (c4 ⟨Ly PySem.F.plain_set_new _,BQ PySem.F.entry_set_new ?_⟩));rw[DI PySem.F.plain_set_new _];unfold JJ.«set.__new__» PJ;have b:=sub_set_self;have⟨c,g,d,e,os⟩:=s
 dsimp only
 wp_walk
 show NU (c4 ?_)
 dsimp only
 simp only[newObj];show b4 (wpAny_alloc (c4 ?_));show c4 h
def nh(b:h.get? a=a5 {cls:=.type "set",dict:=b6,data:=.set #[] 0 (.fresh 0 0 led)}):cV prog w h a led [] :=
 ⟨[],#[],0,_,b,rfl,.nil,Ms,rfl,by unfold FP;decide,rfl,.inl rfl⟩
end
def sub_tuple_set:HM (.type "tuple") (.type "set")=pure cb:=by rw[D4];kernel_rfl
def sub_tuple_frozenset:HM (.type "tuple") (.type "frozenset")=pure cb:=by rw[D4];kernel_rfl
section
@[reducible]def aK(w:y1):Bool:=!w.params.followText "set-order"
@[reducible]def fh(led:Bool):Obj:={cls:=.type "set",dict:=b6,data:=.set #[] 0 (.fresh 0 0 led)}
def fi
  (L:s.TypeIs (.ref l) T) (HX:HM (.type T) (.type "set")=pure cb) (HY:HM (.type T) (.type "frozenset")=pure cb) (Bn:(wk T==wk "dict")=cb)
  (N:a.length+1<FP)
  (k:∀(s1:gs) (B:Gp) (Q':eh->gs->Prop),B.handled=A.handled->(∀b o,s.heap.get? b=a5 o->s1.heap.get? b=a5 o)->s.heap.objs.size<s1.heap.objs.size ->
   (∀I m n G P St d,Q0 prog w B.in1 I m n G a.length P St->(∀g g',G g g'->g'=g)->s.heap.objs.size∉m->(∀b∈n,s.heap.objs.size<b)->(∀i v,P i v->∃x t,a[i]?=a5 x/\v=.str x t)->St 0 {s1 with heap:=d}->(∀b o,s1.heap.get? b=a5 o->d.get? b=a5 o)->Q' (.ref I) {s1 with heap:=d})->gi (ko prog w) B (M8 (.ref l)) Q' E s1)
  (h:∀(h':DW) (f:Nat),cV prog w h' s.heap.objs.size (aK w) (aE a)->(∀b o,b<s.heap.objs.size->s.heap.get? b=a5 o->h'.get? b=a5 o)->Q (.ref s.heap.objs.size) {s with heap:=h',toks:=f}) :
  gi (ko prog w) A (Ja (.type "set") [.ref l]) Q E s:=by
 have⟨c,tl,HZ⟩:=PySem.F.called_set.mro;have B0:=PySem.F.called_set.made;have BO:=PySem.F.called_set.sub;show P5 (N_ ?_);change gi _ _ (callAny (.type "set") _) _ _ _;show c4 ⟨M4 _ (by decide +kernel),BQ PySem.F.entry_type_call ?_⟩;rw[Ov (Pd "set" [.ref l] []) rfl];have d:=PySem.F.called_set.notType;have h2:=PySem.F.called_set.canCreate;have Li:=PySem.F.typeCall_set_1 (.ref l)
 repeat (any_goals (first|assumption|wp_step))
 show I_ (d0 (.ref l) (E:=E) (Q₁:=λobj C=>obj=.ref s.heap.objs.size/\C={s with heap:=s.heap.push (fh (aK w))}) ⟨rfl,rfl⟩) λr C p=>?_;cases r with
 |error e=>show p
 |ok O =>
  cases O with
  |ret obj =>
   have⟨rfl,rfl⟩:=p;have D:(s.heap.push (fh (aK w))).get? s.heap.objs.size=a5 (fh (aK w)):=g0 _ rfl;have Y:Hv {s with heap:=s.heap.push (fh (aK w))} (.ref s.heap.objs.size) "set":=⟨_,D,rfl⟩
   have Lj:=PySem.F.called_set.init.lookup;have Lk:=PySem.F.called_set.init.bind (.ref s.heap.objs.size)
   repeat (any_goals (first|assumption|wp_step))
   show I_ (PB (R:=wants (λr H=>r=.none/\∃h' f,H={s with heap:=h',toks:=f} /\
     cV prog w h' s.heap.objs.size (aK w) (aE a) /\
     (∀b o,b<s.heap.objs.size->s.heap.get? b=a5 o->h'.get? b=a5 o)) E) PySem.F.called_set.init.plain PySem.F.entry_set_init (Qq Y ?_)) λr₂ H q=>?_
   .have⟨ol,H0,J⟩:=L;have⟨H9,CU,CV,Cb⟩:=ol;simp only at J;subst J;have Es:(s.heap.push (fh (aK w))).get? l=a5 {cls:=.type T,dict:=CU,data:=CV,slots:=Cb}:=ea _ H0;have Ll:Hv {s with heap:=s.heap.push (fh (aK w))} (.ref l) T:=⟨_,Es,rfl⟩
    unfold JJ.«set.__init__» noKeywords LM;generalize H_:M8=PI
    wp_walk
    subst H_;show k {s with heap:=s.heap.push (fh (aK w))} _ _ rfl (λb o e=>ea _ e) (by rw[Hx];show Ji _) λI m n G P St d W hG hf GL Ca AN hk=>?_;show b4 (M6 ?_);show fM W s.heap.objs.size hf (aK w) a rfl Ca N (a.length - 0) 0 _ ⋯ (pb _) AN (nh (hk _ _ D)) ?_;intro s' j u;have⟨h',g',d',Ia,Fy⟩:=s';have eg:g'=s.gens:=hG _ _ j.gens;have ed:d'=s.drawn:=j.drawn;have eo:Fy=s.os:=j.os;subst eg;subst ed;subst eo;change gi _ _ _ _ _ _;show c4 ?_;change gi _ _ (ret CA) _ _ _;show c4 ⟨rfl,h',Ia,rfl,u,λb o y e=>?_⟩;show j.heap b o (λz=>by
     rcases fx.mp z with z|z
     .rw[z]at y;show AY _ y
     .show absurd (GL b z) (PL y)) (hk _ _ (ea _ e))
   .cases r₂ with
    |error e=>show q
    |ok Ib =>
     cases Ib with
     |ret r =>
      have⟨rfl,h',f,rfl,u,BA⟩:=q
      repeat (any_goals (first|assumption|wp_step))
      show h _ _ u BA
     |_=>show q.elim
  |_=>show p.elim
end
section
theorem kl:∀{a:List eh}{ss:List Str},JS a ss->∀(i:Nat) (v:eh),a[i]?=a5 v->∃x t,ss[i]?=a5 x/\v=.str x t
 |_,_,.nil,i,v,h=>by simp at h
 |_,_,.cons x t h,0,v,e=>by simp at e;show⟨x,t,rfl,e.symm⟩
 |_,_,.cons x t h,i+1,v,e=>by rw[K6]at e;rw[K6];show kl h i v e
theorem fj:∀{a:List eh}{ss:List Str},JS a ss->a.length=ss.length
 |_,_,.nil=>rfl
 |_,_,.cons x t h=>by simp[fj h]
def km(a:n≠S)(b:n≠l):n∉[S,l]:=by simp[a,b]
def hJ(hh:A.handled=b6)(hl:s.heap.IsList l a.toArray)(g:JS a c)(d:c.length+1<FP)
  (h:∀(h':DW) (k:Nat),cV prog w h' s.heap.objs.size (aK w) (aE c)->(∀b o,b<s.heap.objs.size->s.heap.get? b=a5 o->h'.get? b=a5 o)->Q (.ref s.heap.objs.size) {s with heap:=h',toks:=k}) :
  gi (ko prog w) A (Ja (.type "set") [.ref l]) Q E s:=by
 have j:l<s.heap.objs.size:=let ⟨o,ho,_⟩:=hl;hY ho;show fi hl.typeIs PySem.F.sub_list_set PySem.F.sub_list_frozenset (by decide) d (λs1 B Q' m hk f n=>?_) h;have B':s1.heap.IsList l a.toArray:=let ⟨o,ho,r⟩:=hl;⟨o,hk _ _ ho,r⟩;show La B' ?_;have p:l≠s1.heap.objs.size:=l1 (LN j f);have W:=(OD (prog:=prog) (w:=w) (A:=B.in1) (by simp[m,hh]) s1.heap.objs.size l p a.toArray).toS;have q:a.toArray.size=c.length:=by simp[fj g]
 rw[q]at W;show n _ _ _ _ _ _ _ W (λ_ _ e=>e) (km (l1 f) (Er j)) (λb d=>by rw[ro.mp d];show f) (λi v t=>kl g i v (by simpa using t)) ⟨⟨_,g0 _ rfl,rfl,rfl⟩,B'.push _⟩ λb o e=>ea _ e
def jh(hh:A.handled=b6)(hl:s.heap.IsTuple l a.toArray)(g:JS a c)(d:c.length+1<FP)
  (h:∀(h':DW) (k:Nat),cV prog w h' s.heap.objs.size (aK w) (aE c)->(∀b o,b<s.heap.objs.size->s.heap.get? b=a5 o->h'.get? b=a5 o)->Q (.ref s.heap.objs.size) {s with heap:=h',toks:=k}) :
  gi (ko prog w) A (Ja (.type "set") [.ref l]) Q E s:=by
 have j:l<s.heap.objs.size:=let ⟨o,ho,_⟩:=hl;hY ho;show fi hl.typeIs sub_tuple_set sub_tuple_frozenset (by decide) d (λs1 B Q' m hk f n=>?_) h;have B':s1.heap.IsTuple l a.toArray:=let ⟨o,ho,r⟩:=hl;⟨o,hk _ _ ho,r⟩;show P2 B' ?_;have p:l≠s1.heap.objs.size:=l1 (LN j f);have W:=(Walks.tuple (prog:=prog) (w:=w) (A:=B.in1) (by simp[m,hh]) s1.heap.objs.size l p a.toArray).toS;have q:a.toArray.size=c.length:=by simp[fj g]
 rw[q]at W;show n _ _ _ _ _ _ _ W (λ_ _ e=>e) (km (l1 f) (Er j)) (λb d=>by rw[ro.mp d];show f) (λi v t=>kl g i v (by simpa using t)) ⟨⟨_,g0 _ rfl,rfl,rfl⟩,let ⟨o,ho,r⟩:=B';⟨o,ea _ ho,r⟩⟩ λb o e=>ea _ e
def kn(a:n≠0)(h:∀i<n,Q i {s with drawn:=s.drawn.bump src}):gi M A (choose src n) Q E s:=λΓ p b=>by
 change Sem.wp M Γ (.choose src n .pure) _ _ p s;rw[Sem.wp_choose];show⟨a,h _ (Kp _ (O9 a))⟩
theorem eE:∀{xs:List α}{i:Nat}{x:α},xs[i]?=a5 x->(x::xs.eraseIdx i).Perm xs
 |[],i,x,h=>by simp at h
 |y::a,0,x,h=>by simp at h;subst h;show .refl _
 |y::a,i+1,x,h=>by
  rw[K6]at h;rw[List.eraseIdx_cons_succ];show(OL y x _).trans ((eE h).cons y)
theorem d4:∀(n:Nat) (xs:List α) (s:gs) (Q:List α->gs->Prop),xs.length=n->(∀a d,a.Perm xs->Q a {s with drawn:=d})->gi M A (drawOrder n xs) Q E s
 |0,xs,s,Q,b,h=>by
  have:xs=[]:=Ob.mp b;subst this;show c4 (h [] s.drawn (.refl _))
 |n+1,[],s,Q,b,h=>by simp at b
 |n+1,y::a,s,Q,b,h=>by
  change gi M A (choose .order (y::a).length >>= _) Q E s;show b4 (kn (by simp) λi c=>?_);have e:(y::a)[i]?=a5 ((y::a)[i]'c):=HC c;have f:=eE e;generalize (y::a)[i]'c=x at e f;simp only[e];show b4 (d4 n _ _ _ (by have:=f.length_eq;simp at this b ⊢;lia) λg d hz=>?_);show c4 (h (x::g) d ((hz.cons x).trans f))
theorem gk(next:Nat->Nat):∀(fuel k:Nat) (left:List α) (out:Array α),left.length=fuel->(NG next fuel k left out).toList.Perm (out.toList++left)
 |0,k,left,out,hl=>by
  have:left=[]:=Ob.mp hl;subst this;simp[NG]
 |fuel+1,k,left,out,hl=>by
  unfold NG;have a:next k % left.length<left.length:=Kp _ ⋯;have e:left[next k % left.length]?=a5 (left[next k % left.length]'a):=HC a;have b:=eE e;generalize left[next k % left.length]'a=x at e b;simp only[e];show(gk next fuel _ _ _ (by have:=b.length_eq;simp at this;lia)).trans ?_;rw[OU,Ha];show(b.append_left _)
def dt(next:Nat->Nat)(xs:Array α):(NW next xs).toList.Perm xs.toList:=by
 have:=gk next xs.size 0 xs.toList #[] (by simp);simpa[NW] using this
end
namespace SI
def lO:Manifest.owners.lookup (String.ofList ['r','o','t','a','r','e','t','i','_','t','e','s'].reverse)=a5 Manifest.sig_set_iterator:=by kernel_rfl
def slot_next:Slot "set_iterator" "__next__" "set_iterator.__next__" :=
 .of (owner:="set_iterator") (n:="__next__") (by rw[N8,MW];kernel_rfl) (by decide +kernel) (by decide +kernel) (by decide +kernel)
  (by first|show .inl (by decide +kernel)|show .inr (by decide +kernel)) (by rw[D4];kernel_rfl)
def entry_next:QV table "set_iterator.__next__"=a5 JJ.«set_iterator.__next__»:=entryFor_of_tree (by kernel_rfl)
def args_next(a:eh):QY "set_iterator.__next__" ⟨[a],[]⟩:=by
 unfold QY;rw[signature?_of (id:="set_iterator.__next__") (n:=['_','_','t','x','e','n','_','_']) (o:=['r','o','t','a','r','e','t','i','_','t','e','s']) (by kernel_rfl) lO];kernel_rfl
def jz:Slot "set_iterator" "__iter__" "set_iterator.__iter__" :=
 .of (owner:="set_iterator") (n:="__iter__") (by rw[N8,MW];kernel_rfl) (by decide +kernel) (by decide +kernel) (by decide +kernel)
  (by first|show .inl (by decide +kernel)|show .inr (by decide +kernel)) (by rw[D4];kernel_rfl)
def qr(a:eh):QY "set_iterator.__iter__" ⟨[a],[]⟩:=by
 unfold QY;rw[signature?_of (id:="set_iterator.__iter__") (n:=['_','_','r','e','t','i','_','_']) (o:=['r','o','t','a','r','e','t','i','_','t','e','s']) (by kernel_rfl) lO];kernel_rfl
def ni:QV table "set_iterator.__iter__"=a5 JJ.«dict_keyiterator.__iter__» :=
 QU (id':="dict_keyiterator.__iter__") (by kernel_rfl) (by first|rfl|decide +kernel|(unfold String.splitOn;simp +decide [String.splitOnAux])) (by decide +kernel) (by kernel_rfl)
def hU:QV table "set.__iter__"=a5 JJ.«frozenset.__iter__» :=
 QU (id':="frozenset.__iter__") (by kernel_rfl) rfl (by decide +kernel) (by kernel_rfl)
end SI
section
variable{prog:ve}{w:y1}{A:Gp}{E:eh->gs->Prop}{s:gs}
abbrev eF(h:DW)(I:hA)(first:eh)(i:Nat)(S:hA)(n ep:Nat):Prop:=∃o,h.get? I=a5 o/\o.cls=.type "set_iterator"/\o.data=.fields #[first,AQ i,.ref S,AQ n,AQ ep]
def eF.typeIs(x:eF s.heap I f i S n ep):s.TypeIs (.ref I) "set_iterator":=let ⟨o,ho,a,_⟩:=x;⟨o,ho,a⟩
def uJ(a:eF s.heap I f i S n ep)(h:Q (.ref I) s):gi (ko prog w) A (M8 (.ref I)) Q E s:=by
 show Qc a.typeIs SI.jz (HE SI.jz a.typeIs SI.ni ?_ (SI.qr _));change gi _ _ (ret (.ref I)) _ _ s;show c4 ⟨_,rfl,"set_iterator",_,a.typeIs,SI.slot_next.lookup,h⟩
def cW(h:Q (M.w.params.followText "set-order") s):gi M A setsByText Q E s:=by
 unfold setsByText;show b4 (NU (c4 h))
end
end L2
namespace L2
open PySem PySem.Spec PyProof.Rows
section
variable{prog:ve}{w:y1}{A:Gp}{E:eh->gs->Prop}{s:gs}
@[reducible]def kq(es:Array (Int×eh))(ep:Nat)(t:ED):Obj:={cls:=.type "set",dict:=b6,data:=.set es ep t}
def lP{I:hA}{B:Gp}{Q:Option eh->gs->Prop}{c:DW}{k:eh->Sem (Option eh)}(hh:B.handled=b6)
  (d:∀h',(∀b o,c.get? b=a5 o->h'.get? b=a5 o)->∀e,Hv {s with heap:=h' } e "StopIteration"->E e {s with heap:=h' }) {Q':Fin->gs->Prop} :
  gi (ko prog w) B (QS (.type "StopIteration") [] >>= λe=>(Py e:Sem Fin)) Q' E {s with heap:=c}:=by
 show b4 ?_;simp only[QS,newTuple];show b4 (Ei ?_ (by size_fits));show b4 (m:=QT _ _) (Pt (a:=CA) (by first|rfl|(simp only[QT];rfl)) ?_);show Ei ?_ (by size_fits);simp only[Py];show b4 (wpAny_handled ?_);rw[hh];show b4 (c4 (wpAny_throw ?_));show d _ (λb o e=>ea _ (ea _ e)) _ ⟨_,g0 _ rfl,rfl⟩
def oM{I S:hA}{first:eh}{i ep:Nat}{es:Array (Int×eh)}{t:ED}(d:eF s.heap I first i S es.size ep)(ho:s.heap.get? S=a5 (kq es ep t))(h:t.fits es.size=b5)
  (j:∀(Q':Fin->gs->Prop) (g:eh->gs->Prop) ,(∀v s',Q (a5 v) s'->Q' (.done (.ret v)) s')->(∀e s',s'.TypeIs e "StopIteration"->Q b6 s'->g e s') ->
   gi (ko prog w) A.in1 (if let .int slot _:=first then(do
     match <-NB S slot.toNat i ep with
     |some (x,next) =>
      NC (.ref I) 0 (AQ next)
      NC (.ref I) 1 (AQ ((i:Int)+1))
      ret x
     |none=>NC (.ref I) 2 .none;Py (<-QS (.type "StopIteration") []))
    else(do
     let a5 c <-seqItems? first|unsupported "internal:set_iterator"
     match c[i]? with
     |some (.int place _) =>
      let x <-OX S place.toNat ep
      NC (.ref I) 1 (AQ ((i:Int)+1))
      ret x
     |some _=>Pu "internal:set_iterator"
     |none=>NC (.ref I) 0 (AQ 0);NC (.ref I) 2 .none;Py (<-QS (.type "StopIteration") []))) Q' g s):gi (ko prog w) A (Kl (.ref I)) Q E s:=by
 have⟨o,k,m,l⟩:=id d;unfold Kl;show b4 (wpAny_attempt (wpAny_callSpecial?_slot (name:=Qs "__next__") d.typeIs SI.slot_next
  (HE SI.slot_next d.typeIs SI.entry_next ?_ (SI.args_next _))))
 unfold JJ.«set_iterator.__next__»;show b4 (Pt (a:=(rd I,[])) rfl ?_)
 try dsimp only
 show b4 (wpAny_fieldsOf k l ?_)
 try dsimp only
 show b4 (PU ho rfl h ?_);rw[Q9 (by simp)];show B9 (j (λf s'=>∃r,f=.done (.ret r)/\Q (a5 r) s') (λe s'=>s'.TypeIs e "StopIteration"/\Q b6 s') (λv s' q=>⟨v,rfl,q⟩) λe s' z q=>⟨z,q⟩) ?_ ?_
 .rintro f s' ⟨r,rfl,q⟩;show⟨r,rfl,c4 q⟩
 .rintro e s' ⟨z,q⟩;show b4 (JA (T:="StopIteration") (b:=b5) z isSubtype_stop ?_);show c4 q
end
section
def oN{I S:hA}{f f':eh}{i n ep:Nat}{h:DW}{o:Obj}(b:h.get? I=a5 o)(c:o.cls=.type "set_iterator")(a:o.data=.fields #[f,AQ i,.ref S,AQ n,AQ ep]):
  eF (h.update I (Qk (·.setIfInBounds 1 (AQ ((i:Int)+1))))) I f (i+1) S n ep :=
 ⟨_,vr _ b (Ot (Km a _)),(Ph ..).trans c,by rw[Km a];simp⟩
def lQ{h:DW}(c:h.get? I=a5 o)(d:o.cls=.type "set_iterator")(b:o.data=.fields #[f,AQ i,.ref S,AQ n,AQ ep]):
  ∃a,(h.update I (Qk (·.setIfInBounds 0 f'))).get? I=a5 a/\a.cls=.type "set_iterator"/\a.data=.fields #[f',AQ i,.ref S,AQ n,AQ ep] :=
 ⟨_,vr _ c (Ot (Km b _)),(Ph ..).trans d,by rw[Km b];simp⟩
def rR{I S:hA}{slot i ep:Nat}{es:Array (Int×eh)}{t:ED}{Q:Option eh->gs->Prop}(a:eF s.heap I (AQ slot) i S es.size ep)(ho:s.heap.get? S=a5 (kq es ep t))(j:t.fits es.size=b5)(hh:A.handled=b6)
  {r:Option (eh×Nat)} (l:∀(B:Gp) (f:eh->gs->Prop) (Q':Option (eh×Nat)->gs->Prop),Q' r s->gi (ko prog w) B (NB S slot i ep) Q' f s)
  (m:∀x nx,r=a5 (x,nx)->∀h',eF h' I (AQ nx) (i+1) S es.size ep->A6 I s.heap h'->Q (a5 x) {s with heap:=h' })
  (n:r=b6->∀h',(∀b o,b≠I->s.heap.get? b=a5 o->h'.get? b=a5 o)->Q b6 {s with heap:=h' }):gi (ko prog w) A (Kl (.ref I)) Q E s:=by
 show oM a ho j λQ' f q u=>?_;have⟨o,c,v,d⟩:=id a;change gi _ _ (NB S slot i ep >>= _) _ _ s;show b4 (l _ _ _ ?_);cases r with
 |some p =>
  have⟨x,nx⟩:=p
  dsimp only
  show b4 (IS c d (by simp) ?_);have⟨H,g,y,h⟩:=lQ (f':=AQ nx) c v d;show b4 (IS (s:={s with heap:=_}) g h (by simp) ?_);show c4 (q _ _ (m x nx rfl _ (oN (f':=AQ nx) g y h) ((DD ..).trans (DD ..))))
 |none =>
  dsimp only
  show b4 (IS c d (by simp) ?_);show lP (I:=I) (k:=λ_=>pure b6) (Q:=λ_ _=>True) (s:=s) (by simpa using hh) λh' hk e z=>u e _ z (n rfl h' λb C D G=>hk b C ?_);rw[JG _ _ _ _ D];show G
def xn{I S T:hA}{i ep:Nat}{es:Array (Int×eh)}{t:ED}{a:List Nat}{Q:Option eh->gs->Prop}(c:eF s.heap I (.ref T) i S es.size ep)(ho:s.heap.get? S=a5 (kq es ep t))(m:t.fits es.size=b5)(hh:A.handled=b6)
  (r:s.heap.IsTuple T ((a.map λ(j:Nat)=>AQ j).toArray))
  (u:∀(j:Nat) (e:Int×eh),a[i]?=a5 j->es[j]?=a5 e->∀h',eF h' I (.ref T) (i+1) S es.size ep->A6 I s.heap h'->Q (a5 e.2) {s with heap:=h' })
  (v:∀j∈a,j<es.size)
  (x:a[i]?=b6->∀h',(∀b o,b≠I->s.heap.get? b=a5 o->h'.get? b=a5 o)->Q b6 {s with heap:=h' }):gi (ko prog w) A (Kl (.ref I)) Q E s:=by
 show oM c ho m λQ' N y z=>?_;have⟨o,d,n,f⟩:=id c;have⟨O,B,Y,nT,C⟩:=r;change gi _ _ (seqItems? (.ref T) >>= _) _ _ s;show b4 (IT B C ?_);cases e:a[i]? with
 |some j =>
  have g:(a.map λ(j:Nat)=>AQ j).toArray[i]?=a5 (AQ j):=by simp[e]
  simp only[g];have h:j<es.size:=v j (DN e);have l:es[j]?=a5 (es[j]'h):=by simp[h]
  change gi _ _ (OX S (j:Int).toNat ep >>= _) _ _ s;unfold OX;rw[IB];show b4 (b4 (ti ho rfl m ?_))
  dsimp only
  rw[Q9 (by simp)];generalize es[j]'h=p at l;simp only[l];show c4 ?_;show b4 (IS d f (by simp) ?_);show c4 (y _ _ (u j p e l _ (oN (f':=.ref T) d n f) (DD ..)))
 |none =>
  have g:(a.map λ(j:Nat)=>AQ j).toArray[i]?=b6:=by simp at e ⊢;show e
  simp only[g];show b4 (IS d f (by simp) ?_);have⟨o',D,e2,G⟩:=lQ (f':=AQ 0) d n f;show b4 (IS (s:={s with heap:=_}) D G (by simp) ?_);show lP (I:=I) (k:=λ_=>pure b6) (Q:=λ_ _=>True) (s:=s) (by simpa using hh) λh' hk ex H=>z ex _ H (x e h' λb J q L=>hk b J ?_);rw[JG _ _ _ _ q,JG _ _ _ _ q];show L
end
section
def eF.at(x:eF h I f i S n ep)(e:∀o,h.get? I=a5 o->h'.get? I=a5 o):eF h' I f i S n ep:=let ⟨o,ho,r⟩:=x;⟨o,e _ ho,r⟩
def hV(hh:A.handled=b6)(n:S≠I)(r:t.fits es.size=b5)(T:hA)(p:T≠I)(c:List eh)(k:c.length=es.size)
  (first:Nat->eh) (a:DW->Prop) (l:∀h h',a h->(∀o,h.get? T=a5 o->h'.get? T=a5 o)->a h')
  (m:∀(s:gs) (i:Nat) (E:eh->gs->Prop) (Q:Option eh->gs->Prop),i<=es.size->a s.heap->eF s.heap I (first i) i S es.size ep->s.heap.get? S=a5 (kq es ep t) ->
   (∀x,c[i]?=a5 x->∀h',eF h' I (first (i+1)) (i+1) S es.size ep->A6 I s.heap h'->Q (a5 x) {s with heap:=h' }) ->
   (c[i]?=b6->∀h',(∀b o,b≠I->s.heap.get? b=a5 o->h'.get? b=a5 o)->Q b6 {s with heap:=h' })->gi (ko prog w) A (Kl (.ref I)) Q E s) :
  Walks prog w A I [I,S,T] [I] es.size (λi v=>c[i]?=a5 v) (λi h=>i<=es.size/\eF h I (first i) i S es.size ep/\h.get? S=a5 (kq es ep t)/\a h) where
 sub:=λb d=>by rw[ro.mp d];simp
 frame:=λi h h' x hk=>⟨x.1,x.2.1.at λo e=>hk I (by simp) o e,hk S (by simp) _ x.2.2.1,l h h' x.2.2.2 λo e=>hk T (by simp) o e⟩
 item:=λi s Q E q x f=>by
  show m s i E Q x.1 x.2.2.2 x.2.1 x.2.2.1 (λv g h' j hs=>?_) λz=>absurd z (by simp;lia);show f v h' s.toks g ⟨q,j,?_,l _ h' x.2.2.2 λo e=>?_⟩ λb o d e=>?_
  .rw[hs.2 S n];show x.2.2.1
  .rw[hs.2 T p];show e
  .rw[hs.2 b λz=>d (by simp[z])];show e
 done:=λs Q E x f=>by
  show m s es.size E Q x.1 x.2.2.2 x.2.1 x.2.2.1 (λv g=>absurd g (by rw[List.getElem?_eq_none ⋯];simp)) λ_ h' hk=>f h' s.toks λb o d e=>hk b o (λz=>d (by simp[z])) e
 self:=λi s Q E x f=>uJ x.2.1 f
def kr(ho:s.heap.get? S=a5 (kq es ep t))(a:t.fits es.size=b5)(h:Q (!w.params.followText "set-order"&&(!t.plain&&et (es.size>1))) s):gi (ko prog w) A (setDrawn S) Q E s:=by
 unfold setDrawn;show b4 (ti ho rfl a ?_)
 dsimp only
 show b4 (cW (c4 h))
def ku(a:w.params.followText "set-order"=b5)(ho:s.heap.get? S=a5 (kq es ep t))(b:t.fits es.size=b5)
  (h:Q ((NW (w.params.setOrder S ep) es)[i]?.map λe=>(e.2,0)) s):gi (ko prog w) A (NB S 0 i ep) Q E s:=by
 unfold NB;show b4 (ti ho rfl b ?_)
 dsimp only
 show b4 (cW ?_);change gi _ _ (if (w.params.followText "set-order")=b5 then _ else _) _ _ s;rw[Q8 a];rw[Q9 (by simp)];unfold setWalk;show b4 (b4 (ti ho rfl b ?_))
 dsimp only
 show b4 (cW ?_);change gi _ _ (if (w.params.followText "set-order")=b5 then _ else _) _ _ s;rw[Q8 a];show b4 (NU (c4 ?_));show c4 h
theorem lR(hw:w.params.followText "set-order"=cb)(ho:s.heap.get? S=a5 (kq es ep t))(hf:t.fits es.size=b5)(hl:t.led=b5)(h1:es.size<=1)
    (h:Q (match es[mx t.place slot]?,t.place[mx t.place slot]? with|some (_,x),a5 j=>a5 (x,j+1)|_,_=>b6) s):gi (ko prog w) A (NB S slot i ep) Q E s:=by
  unfold NB;refine b4 (ti ho rfl hf ?_)
  dsimp only
  refine b4 (cW ?_);show gi _ _ (if (w.params.followText "set-order")=b5 then _ else _) _ _ s;rw[Q9 (by rw[hw];simp)];show gi _ _ (if (!t.plain&&et (es.size>1))=b5 then _ else _) _ _ s
  rw [if_neg (by have : decide (es.size > 1) = false := decide_eq_false (by lia)
                 rw[this];simp)]
  show gi _ _ ((if (!t.led&&!es.isEmpty)=b5 then _ else _) >>= _) _ _ s;rw[Q9 (by rw[hl];simp)];exact b4 (c4 (c4 h))
def lS(es:Array (Int×eh))(a:Array Nat)(i:Nat)(c:es.size<=1)(d:a.size=es.size)(b:i<=es.size):
  (match es[mx a (if i=0 then 0 else(a[0]?).getD 0+1)]?,a[mx a (if i=0 then 0 else(a[0]?).getD 0+1)]? with|some (_,x),a5 j=>a5 (x,j+1)|_,_=>b6)=es[i]?.map λe=>(e.2,(a[0]?).getD 0+1):=by
 have⟨es⟩:=es;have⟨a⟩:=a
 match es,a,c,d,b with
 |[],[],_,_,b=>simp
 |[e],[p],_,_,b =>
  match i,b with
  |0,_ =>
   have:mx #[p] 0=0:=by simp[mx,Ke]
   simp[this]
  |1,_ =>
   have:mx #[p] (p+1)=1:=by simp[mx,Ke]
   simp[this]
  |n+2,h=>simp at h
 |[],_::_,_,h,_=>simp at h
 |[_],[],_,h,_=>simp at h
 |[_],_::_::_,_,h,_=>simp at h
 |_::_::_,_,h,_,_=>simp at h
def rS(hh:B.handled=b6)(hS:cV prog w s.heap S (aK w) D)
  (h:∀(I:hA) (fp:List hA) (n:Nat) (P:Nat->eh->Prop) (St:Nat->DW->Prop) (c:List Str) (h':DW) (d':Drawn),Walks prog w B I fp [I] n P St->c.Perm D->n=c.length->(∀i v,P i v->∃x tk,c[i]?=a5 x/\v=.str x tk)->s.heap.objs.size<=I->(∀b∈fp,b=S\/s.heap.objs.size<=b)->St 0 h' ->
   (∀b o,s.heap.get? b=a5 o->h'.get? b=a5 o)->Q (.ref I) {s with heap:=h',drawn:=d' }):gi (ko prog w) A (M8 (.ref S)) Q E s:=by
 have⟨L,es,ep,t,ho,Bx,AS,A5,a,d,BD,BS⟩:=hS;have JF:s.TypeIs (.ref S) "set":=⟨_,ho,rfl⟩
 have CY:S<s.heap.objs.size:=hY ho;show Qc JF PySem.F.slot_set_iter (HE PySem.F.slot_set_iter JF SI.hU ?_ (PySem.F.args_set_iter_1 _));unfold JJ.«frozenset.__iter__» PF slotArgs;simp only[List.isEmpty_nil,w6,k9,↓reduceIte,bind_assoc,Jr,bne_self_eq_false];unfold PK PH;show b4 (c4 ?_)
 try dsimp only
 show b4 (c4 ?_);show b4 (b4 (PU ho rfl a (c4 ?_)));have Lo:D.length=es.size:=by rw[<-AS.length_eq,ek,<-i4,Bx,ek]
 have f:∀(l:List (Int×eh)),l.Perm es.toList->∃c:List Str,c.Perm D/\c.length=es.size/\∀(i:Nat) (v:eh),(l.map (·.2))[i]?=a5 v->∃(x:Str) (tk:Tok),c[i]?=a5 x/\v=vl x tk:=by
  intro l hl;rw[Bx]at hl;have⟨L',e',p'⟩:=eC hl;show⟨L'.map (·.1),(p'.map _).trans AS,by rw[((p'.map _).trans AS).length_eq,Lo],λi v G=>?_⟩;subst e';rw[nt,nc]at G;rw[nc];cases q:L'[i]? with
  |none=>rw[q]at G;simp at G
  |some p=>rw[q]at G;simp at G;show⟨p.1,p.2,rfl,G.symm⟩
 show b4 (kr ho a ?_);cases hw:w.params.followText "set-order" with
 |true =>
  simp only[w6,P0,k9,↓reduceIte];show b4 (c4 ?_);show b4 (b4 (ti ho rfl a (c4 ?_)));show b4 (Ei ?_);have u:S≠s.heap.objs.size:=l1 CY;have⟨c,H,J,N⟩:=f (NW (w.params.setOrder S ep) es).toList (dt _ _);have W:=hV (prog:=prog) (w:=w) (A:=B) (I:=s.heap.objs.size) (S:=S) (es:=es) (ep:=ep) (t:=t) hh u a S u ((NW (w.params.setOrder S ep) es).toList.map (·.2)) (by rw[ek,(dt _ _).length_eq,i4]) (λ_=>AQ 0) (λ_=>True) (λ_ _ _ _=>trivial)
   (λs i E Q _ _ g y O T=>rR (slot:=0) g y a hh (λB E' Q' q=>ku hw y a q) (λx nx e h' Y hs=>by
    rw[eH]at e;have⟨p,C,e2⟩:=e;cases e2;show O _ (by rw[nc,Fj,C];rfl) h' Y hs) (λe=>T (by rw[nc,Fj,K5];rwa [K5]at e)))
  show c4 ⟨_,rfl,"set_iterator",_,⟨_,g0 _ rfl,rfl⟩,SI.slot_next.lookup,?_⟩;show h _ _ _ _ _ c _ s.drawn W H J.symm N (ke _) (λb d=>by
   simp only[fx,Nq,or_false]at d;rcases d with rfl|rfl|rfl
   .show .inr (ke _)
   .show .inl rfl
   .show .inl rfl) ⟨pb _,⟨_,g0 _ rfl,rfl,rfl⟩,ea _ ho,trivial⟩ λb o e=>ea _ e
 |false =>
  by_cases hsz:es.size>1
  .have Bw:t.plain=cb:=by
    rcases BS with z|z
    .lia
    .show z
   have C:(!cb&&(!t.plain&&et (es.size>1)))=b5:=by rw[Bw,Q_ hsz];rfl
   rw[C];simp only[↓reduceIte];show b4 (d4 _ _ _ _ G7 λm d' hp=>?_);simp only[newTuple];have Ds:∀j∈m,j<es.size:=λj hj=>by have:=hp.mem_iff.mp hj;simpa using this
   have FX:m.length=es.size:=by rw[hp.length_eq];simp
   show b4 (Ei ?_ (by
    change(m.map λ(j:Nat)=>AQ j).toArray.size<=_;have:es.size<4096:=d;simp only[i5,ek,FX];have:(4096:Nat)<=df:=by decide
    lia))
   have Df:(s.heap.push {cls:=.type "tuple",data:=.seq (m.map λ(j:Nat)=>AQ j).toArray}).get? S=a5 (kq es ep t):=ea _ ho;show b4 (b4 (ti (s:={s with heap:=_,drawn:=d' }) Df rfl a (c4 ?_)));show b4 (Ei ?_);have Lp:s.heap.objs.size≠(s.heap.push {cls:=.type "tuple",data:=.seq (m.map λ(j:Nat)=>AQ j).toArray}).objs.size:=by rw[Hx];show l1 (Ji _)
   have u:S≠(s.heap.push {cls:=.type "tuple",data:=.seq (m.map λ(j:Nat)=>AQ j).toArray}).objs.size:=by rw[Hx];show l1 (Kz CY)
   have Et:(m.map λj=>(es[j]?).getD (0,CA)).Perm es.toList:=by
    show(hp.map _).trans ?_;have:(hQ es.size).map (λj=>(es[j]?).getD (0,CA))=es.toList:=by
     apply Po
     .simp
     .intro i h1 h2;simp at h1 ⊢;simp[h1]
    rw[this]
   have⟨c,H,J,N⟩:=f _ Et;have W:=hV (prog:=prog) (w:=w) (A:=B) (I:=(s.heap.push {cls:=.type "tuple",data:=.seq (m.map λ(j:Nat)=>AQ j).toArray}).objs.size) (S:=S) (es:=es) (ep:=ep) (t:=t) hh u a s.heap.objs.size Lp ((m.map λj=>(es[j]?).getD (0,CA)).map (·.2)) (by simp[FX]) (λ_=>.ref s.heap.objs.size) (λh=>h.IsTuple s.heap.objs.size (m.map λ(j:Nat)=>AQ j).toArray) (λh h' ⟨o,ho,r⟩ k=>⟨o,k _ ho,r⟩)
    (λs' i E Q _ Cn g y O T=>xn g y a hh Cn (λj e ej ee h' Y hs=>O _ (by rw[nc,nc,ej];simp[ee]) h' Y hs) Ds (λe=>T (by rw[nc,nc,e];rfl)))
   show c4 ⟨_,rfl,"set_iterator",_,⟨_,g0 _ rfl,rfl⟩,SI.slot_next.lookup,?_⟩;show h _ _ _ _ _ c _ d' W H J.symm N (by rw[Hx];show KH _) (λb d=>?_) ⟨pb _,⟨_,g0 _ rfl,rfl,rfl⟩,ea _ Df,⟨_,ea _ (g0 _ rfl),rfl,_,rfl⟩⟩ λb o e=>ea _ (ea _ e);rw[Hx]at d;simp only[fx,Nq,or_false]at d;rcases d with rfl|rfl|rfl
   .show .inr (KH _)
   .show .inl rfl
   .show .inr (ke _)
  .have C:(!cb&&(!t.plain&&et (es.size>1)))=cb:=by rw[Q7 hsz];simp
   rw[C];simp only[k9,↓reduceIte];show b4 (c4 ?_);show b4 (b4 (ti ho rfl a (c4 ?_)));show b4 (Ei ?_);have u:S≠s.heap.objs.size:=l1 CY;have Lq:t.led=b5:=by rw[BD];change(!w.params.followText "set-order")=b5;rw[hw];rfl
   have⟨c,H,J,N⟩:=f es.toList (.refl _);have Dg:t.place.size=es.size:=by
    unfold O1 at a;simp only[dV,beq_iff_eq]at a;show a.1
   have W:=hV (prog:=prog) (w:=w) (A:=B) (I:=s.heap.objs.size) (S:=S) (es:=es) (ep:=ep) (t:=t) hh u a S u (es.toList.map (·.2)) (by simp) (λi=>AQ ((if i=0 then 0 else(t.place[0]?).getD 0+1:Nat):Nat)) (λ_=>True) (λ_ _ _ _=>trivial)
    (λs' i E Q hi _ g y O T=>rR (slot:=if i=0 then 0 else(t.place[0]?).getD 0+1) g y a hh (λB E' Q' q=>lR hw y a Lq ⋯ q) (λx nx e h' Y hs=>by
     rw[lS es t.place i ⋯ Dg hi,eH]at e;have⟨p,C,e2⟩:=e;cases e2;show O _ (by rw[nc,Fj,C];rfl) h' ?_ hs;rw[Q9 (Nat.succ_ne_zero i)];show Y) (λe=>by
     rw[lS es t.place i ⋯ Dg hi,K5]at e;show T (by rw[nc,Fj,e];rfl)))
   show c4 ⟨_,rfl,"set_iterator",_,⟨_,g0 _ rfl,rfl⟩,SI.slot_next.lookup,?_⟩;show h _ _ _ _ _ c _ s.drawn W H J.symm N (ke _) (λb d=>by
    simp only[fx,Nq,or_false]at d;rcases d with rfl|rfl|rfl
    .show .inr (ke _)
    .show .inl rfl
    .show .inl rfl) ⟨pb _,⟨_,g0 _ rfl,rfl,rfl⟩,ea _ ho,trivial⟩ λb o e=>ea _ e
end
def lT:typeLookup (.type "set") "__len__"=pure (a5 (.builtin "set.__len__")):=by rw[N8,MW];kernel_rfl
section
theorem hW:∀{a:List eh}{b:List Str},a.length=b.length->(∀(i:Nat) (v:eh),a[i]?=a5 v->∃x t,b[i]?=a5 x/\v=.str x t)->JS a b
 |[],[],_,_=>.nil
 |[],_::_,h,_=>by simp at h
 |_::_,[],h,_=>by simp at h
 |v::a,y::b,h,k=>by
  have⟨x,t,c,d⟩:=k 0 v rfl;cases c;subst d;show .cons y t (hW (by simpa using h) λi w e=>k (i+1) w e)
def lU(hh:A.handled=b6)(O:cV prog w s.heap S (aK w) D)(T:D.length<=df)
  (Y:∀(j:List eh) (d:List Str) (h':DW) (d':Drawn) (k:Nat),d.Perm D->JS j d->s.heap.objs.size<=h'.objs.size->s.toks<=k->(∀b o,s.heap.get? b=a5 o->h'.get? b=a5 o)->Q j {s with heap:=h',drawn:=d',toks:=k}) :
  gi (ko prog w) A (OZ (.ref S)) Q E s:=by
 have⟨L,es,ep,t,ho,c⟩:=id O;have CY:S<s.heap.objs.size:=hY ho;unfold OZ;show b4 (M6 (BQ PySem.F.entry_proto_collect ?_));rw[DI PySem.F.plain_proto_collect _];change gi _ A.in1 (Qg [] >>= λl=>QZ (.builtin "list.__iadd__" ⟨[l,.ref S],[]⟩)) _ _ s;show b4 (Ei ?_);show c4 ⟨Ly PySem.F.plain_list_iadd _,BQ PySem.F.entry_list_iadd ?_⟩;rw[DI PySem.F.plain_list_iadd _];have g:(s.heap.push {cls:=.type "list",data:=.seq ([]:List eh).toArray}).get? S=a5 {cls:=.type "set",dict:=b6,data:=.set es ep t}:=ea _ ho;have hT:Hv {s with heap:=s.heap.push {cls:=.type "list",data:=.seq ([]:List eh).toArray}} (.ref S) "set":=⟨_,g,rfl⟩
 change gi _ A.in1 (F5 (.ref s.heap.objs.size) (.ref S) (.ref s.heap.objs.size)) _ _ _;unfold F5;show b4 (MA hT ?_);have m:s.heap.objs.size≠S:=Er CY;have h1:Nf (.ref s.heap.objs.size) (.ref S)=cb:=by simp[Nf,m]
 have h2:(wk "set"==wk "list")=cb:=by decide
 have h3:(wk "set"==wk "tuple")=cb:=by decide
 simp only[h1,h2,h3,Qa,k9,Ra];show b4 (rS (B:=A.in1) (by simpa using hh) ⟨L,es,ep,t,g,c⟩ ?_);intro I fp n P St d h' d' W p q hP r Lr AN hk;have h:Hv {s with heap:=h',drawn:=d' } (.ref S) "set":=⟨_,hk _ _ g,rfl⟩
 show b4 (z8 ?_);unfold QE;show b4 (Ie h lT ?_);have BU:splitId "set.__len__"=a5 ("set","__len__"):=by decide +kernel
 dsimp only
 rw[BU]
 dsimp only
 show b4 (JA h sub_set_self ?_);rw[Q9 (by decide)];rw[Q8 (by decide +kernel)];show b4 (MA h ?_);show c4 ?_;rw[Q8 (by decide +kernel)];have u:s.heap.objs.size∉fp:=λa=>by
  rcases Lr _ a with z|z
  .show m z
  .rw[Hx]at z;show absurd z (Nat.not_succ_le_self _)
 have x:h'.get? s.heap.objs.size=a5 {cls:=.type "list",data:=.seq ([]:List eh).toArray}:=hk _ _ (g0 _ rfl);show b4 (Jv ?_);show b4 ?_;change gi _ A.in1 (updateSeq s.heap.objs.size (·.push .none) >>= λ_=>updateSeq s.heap.objs.size (·.pop)) _ _ _;show b4 (MR x rfl ?_);have y:=vr (vu (·.push CA)) x rfl;show MR y rfl ?_;have Ls:=vr (vu (·.pop)) y rfl;have C:∀b o,b≠s.heap.objs.size->h'.get? b=a5 o->((h'.update s.heap.objs.size (vu (·.push CA))).update s.heap.objs.size (vu (·.pop))).get? b=a5 o :=
  λb o f e=>(Iv _ _ (Eu f)).trans ((Iv _ _ (Eu f)).trans e)
 show c4 ⟨Ly PySem.F.plain_extend_loop _,codeAny_extend_loopS W.toS (by rw[q,p.length_eq];show T) _ u _ n 0 _ _ _ rfl (pb _) (W.frame 0 h' _ AN λb f o e=>C b o (λz=>u (z▸f)) e) Ls (ItemsOf.nil P) λs' FY c' a G H=>?_⟩;change gi _ A (load s.heap.objs.size >>= _) _ _ s';show b4 (P4 G ?_);have⟨FT,g2,J,Lu,Lv⟩:=s';have eg:g2=s.gens:=a.gens;have ed:J=d':=a.drawn;have eo:Lv=s.os:=a.os;subst eg;subst ed;subst eo;show c4 (Y _ d FT J Lu p (hW (by rw[i4,H.1,q]) λi v hv=>hP i v (H.2 i v (by rwa [Fj]at hv))) (FO (hY G)) a.toks λb o e=>?_);have N:b≠s.heap.objs.size:=λz=>by rw[z]at e;show absurd (hY e) (AY _)
 show a.heap b o (λz=>?_) (C b o N (hk _ _ (ea _ e)));rcases fx.mp z with z|z
 .show N z
 .rw[ro.mp z]at e;have:=hY e;rw[Hx]at r;show absurd (lx this (y2 (KH _) r)) (AY _)
end
section
def Inv.drawn(I:Inv X a σ H s)(d:Drawn):Inv X a σ H {s with drawn:=d}:=⟨I.ok,I.os,I.bare,I.base,I.loc,I.cell,I.free,I.A8,I.pin,I.AJ,I.len⟩
def fk(l:X.calm=b5)(I:Inv X c σ H s)(hq:A_ X.K H p (d.map V.str)\/Bb X.K H p (d.map V.str))(j:d.length+1<FP)
  (h:∀(S:hA) (h':DW) (a:Nat),cV X.prog X.w h' S (aK X.w) (aE d)->Inv X c σ H {s with heap:=h',toks:=a}->Q (.ref S) {s with heap:=h',toks:=a}) :
  gi (ko X.prog X.w) X.A (Ja (.type "set") [.ref p]) Q X.xe s:=by
 have hh:X.A.handled=b6:=I.ok.hd l;rcases hq with hq|hq
 .have⟨m,f,g,hz⟩:=I.list hq;show hJ hh g.isList (b8 f) j λh' a i k=>h _ h' a i (I.kept λb o e=>k b o (hY e) e)
 .have⟨m,f,g,hz⟩:=I.tuple hq;show jh hh g (b8 f) j λh' a i k=>h _ h' a i (I.kept λb o e=>k b o (hY e) e)
def ji(i:X.calm=b5)(I:Inv X a σ H s)(j:cV X.prog X.w s.heap S (aK X.w) D)(d:D.length<64)
  (q:∀p,H p=b6->Q (.ref p) (upd H p (.lst ((bF D).map V.str)))):gi (ko X.prog X.w) X.A (Ja (.builtin "sorted") [.ref S]) (EP X a σ Q) X.xe s:=by
 have hh:X.A.handled=b6:=I.ok.hd i;have hl:D.length<=df:=FO (lx d (by decide));show eB (lU (A:=X.A.in1) (by simpa using hh) j hl λr k h' d' b f g hsz t hk=>⟨k,g,by rw[fj g,f.length_eq];show d,λu l e m c s2=>?_⟩);rw[lL f]at s2;have n:Inv X a σ H {s with heap:=h',toks:=b}:=I.kept (t':=b) hk;have h:Inv X a σ H {s with heap:=h',drawn:=d',toks:=b}:=n.drawn d';show⟨.ref h'.objs.size,_,h.laid (t':=b) (o:=.lst ((bF D).map V.str)) m (ke _) ⟨by rw[ek,fg];show hl,l,e,cU s2,c⟩,rfl,q _ (h.AJ.fresh (ke _))⟩
def nj(I:Inv X a σ H s)(c:cV X.prog X.w s.heap S (aK X.w) D)
  (q:Q (.int D.length) H):gi (ko X.prog X.w) X.A (Ja (.builtin "len") [.ref S]) (EP X a σ Q) X.xe s:=by
 have⟨L,es,ep,t,ho,d,g,j,h,i,k,l⟩:=c;have b:es.size=D.length:=by rw[<-i4,d,ek,<-ek (f:=NR) (as:=L),g.length_eq]
 have m:es.size<4096:=i;show call_len_set ho ⟨rfl,rfl,rfl⟩ rfl h ⋯ ?_;show⟨.int es.size,_,I.kept (t':=s.toks+1+1) (λ_ _ e=>e),⟨_,rfl⟩,by rw[b];show q⟩
end
def qt(l:hA)(a:Array eh)(n:Nat)(b:hA)(c:Array eh)(e:Nat)(dd:Option hA)(f:Array (Option eh))(o:¬(!a.isEmpty&&CW (a.size+c.size))=b5)(i:a.size<=df)(j:a.size+c.size<=df+1):
  Meets (JJ.«list.extend» ⟨[.ref l,.ref b],[]⟩) (λ_ R s=>s.heap.get? l=a5 {cls:=.type "list",dict:=b6,data:=.seq a n,slots:=#[]}/\s.heap.get? b=a5 {cls:=.type "list",dict:=dd,data:=.seq c e,slots:=f}/\R (.ok (.ret CA)) {s with heap:=s.heap.update l (vu λx=>x++c),toks:=s.toks}) :=
 .of_wp λprog w A R s h=>by
  have⟨p,g,d,q,os⟩:=s;have⟨hl,k,h⟩:=h;have r:=Ou;have t:=Ny;have u:=NQ;have v:=NK;have y:=NM;
  have m:(a++c).size<=df+1:=by rw[Nb];show j
  wp_walk using(MR hl rfl (hz:=i) (_hz':=m)),Hr hl,Hr k;show⟨_,rfl,h⟩
def qu(l:hA)(a:Array eh)(n:Nat)(b:hA)(c:Array eh)(e:Nat)(dd:Option hA)(f:Array (Option eh))(o:¬(!a.isEmpty&&CW (a.size+c.size))=b5)(i:a.size<=df)(j:a.size+c.size<=df+1):
  Meets (JJ.«list.extend» ⟨[.ref l,.ref b],[]⟩) (λ_ R s=>s.heap.get? l=a5 {cls:=.type "list",dict:=b6,data:=.seq a n,slots:=#[]}/\s.heap.get? b=a5 {cls:=.type "tuple",dict:=dd,data:=.seq c e,slots:=f}/\R (.ok (.ret CA)) {s with heap:=s.heap.update l (vu λx=>x++c),toks:=s.toks}) :=
 .of_wp λprog w A R s h=>by
  have⟨p,g,d,q,os⟩:=s;have⟨hl,k,h⟩:=h;have r:=Ou;have t:=Ny;have u:=NQ;have v:=NK;have y:=NM;
  have m:(a++c).size<=df+1:=by rw[Nb];show j
  wp_walk using(MR hl rfl (hz:=i) (_hz':=m)),Hr hl,Hr k;show⟨_,rfl,h⟩
section
def nq:Js X "list.extend" (λx w H Q=>∃l b xs c,x=.ref l/\w=[.ref b]/\H l=a5 (.lst xs)/\(A_ X.K H b c\/Bb X.K H b c)/\xs.length+c.length<=df/\Q .AM (upd H l (.lst (xs++c)))):=by
 intro g s σ H x w v us Q I B C h;have⟨l,b,xs,c,rfl,rfl,y,hB,hz,q⟩:=h;cases B;have⟨u,rfl,D⟩:=C.one;cases D;have⟨z,f,n,r,hl,e⟩:=I.yW y;have i:∀a:List eh,Vals c a->EP X g σ Q CA {s with heap:=s.heap.update l (vu λx=>x++a.toArray),toks:=s.toks}:=λa d=>by
  show⟨.AM,_,I.eW (its':=f++a) y e (by simp) (r.append d) ?_,rfl,q⟩;rw[mh];lia
 have m:∀a:List eh,c.length=a.length->f.toArray.size+a.toArray.size<=df:=λa h=>by rw[i5,i5];lia
 have A:∀a:List eh,c.length=a.length->¬(!f.toArray.isEmpty&&CW (f.toArray.size+a.toArray.size))=b5:=λa h=>by
  rw[lE (m a h),Mx];show mA
 rcases hB with hB|hB
 .obtain⟨a,d,o,_⟩:=I.list hB;obtain⟨⟨cls,dd,data,p⟩,ho,j,t,k⟩:=o.isList;simp only at j k;subst j k;have CS:=d.length;have G:=m a CS;show Hw PD ⟨_,e,rfl⟩ Pj (O5 _ _) (qt l f.toArray n b a.toArray t dd p (A a CS) ⋯ ⋯) ⟨e,ho,i a d⟩
 .obtain⟨a,d,o,_⟩:=I.tuple hB;obtain⟨⟨cls,dd,data,p⟩,ho,j,t,k⟩:=o;simp only at j k;subst j k;have CS:=d.length;have G:=m a CS;show Hw PD ⟨_,e,rfl⟩ Pj (O5 _ _) (qu l f.toArray n b a.toArray t dd p (A a CS) ⋯ ⋯) ⟨e,ho,i a d⟩
end
end L2
namespace Tb
open PySem PySem.SetTable
abbrev run(mask i:Nat):List Nat:=(hQ (NX mask i+1 - i)).map (i+·)
abbrev bL(mask:Nat):Nat->Nat->Nat->List Nat
 |0,_,_=>[]
 |f+1,i,p=>run mask i++bL mask f (OG mask i p).1 (OG mask i p).2
abbrev path(mask:Nat)(h:Int):List Nat:=bL mask (Kb mask) (NY h % (mask+1)) (NY h)
theorem free_eq(mask:Nat)(owner:Array (Option Nat)):∀(f i p:Nat),Kj mask owner f i p=(bL mask f i p).find? λj=>(owner.getD j (a5 0)).isNone
 |0,_,_=>rfl
 |f+1,i,p=>by
  rw[Kj,bL,List.find?_append,run,List.find?_map,<-free_eq mask owner f (OG mask i p).1 (OG mask i p).2];change(match (hQ (NX mask i+1 - i)).find? (λk=>(owner.getD (i+k) (a5 0)).isNone) with|some k=>_|none=>_)=_;rw[show((λj=>(owner.getD j (a5 0)).isNone) ∘ λx=>i+x)=λk=>(owner.getD (i+k) (a5 0)).isNone from rfl];cases(hQ (NX mask i+1 - i)).find? (λk=>(owner.getD (i+k) (a5 0)).isNone)<;>rfl
def uK(mask i:Nat):(run mask i).length<=10:=by
 unfold run NX;rw[ek,G7];split<;>lia
def xo{mask i j:Nat}(a:i<=mask)(h:j∈run mask i):j<=mask:=by
 unfold run NX at h;have⟨k,hk,rfl⟩:=lg.mp h;have:=w4.mp hk;split at this<;>lia
def rT(mask i:Nat):i∈run mask i:=by
 unfold run NX;show lg.mpr ⟨0,w4.mpr ?_,rfl⟩;split<;>lia
def oO(mask i p:Nat):(OG mask i p).1<=mask:=Hb (Kp _ (Om _))
theorem jA(mask:Nat):∀f i p,(bL mask f i p).length<=10 * f
 |0,_,_=>ke _
 |f+1,i,p=>by
  have:=jA mask f (OG mask i p).1 (OG mask i p).2;have:=uK mask i;rw[bL,mh];lia
theorem lV{mask j:Nat}:∀{f i p:Nat},i<=mask->j∈bL mask f i p->j<=mask
 |0,_,_,_,h=>by cases h
 |f+1,i,p,a,h=>by
  rcases oa.mp h with h|h
  .show xo a h
  .show lV (oO mask i p) h
def rU(mask:Nat)(h:Int):(path mask h).length<=10 * Kb mask:=jA ..
def kz{mask j:Nat}(a:j∈path mask h):j<=mask:=lV (Hb (Kp _ (Om _))) a
abbrev st(mask i:Nat):Nat:=(i * 5+1) % (mask+1)
abbrev it(mask:Nat):Nat->Nat->Nat
 |0,i=>i
 |k+1,i=>it mask k (st mask i)
theorem kA(mask:Nat):∀a b i,it mask (a+b) i=it mask b (it mask a i)
 |0,b,i=>by rw[Ni];rfl
 |a+1,b,i=>by rw[O_];show kA mask a b _
def y7(mask i:Nat):OG mask i 0=(st mask i,0):=rfl
theorem rV{mask:Nat}:∀{k f i:Nat},k<f->it mask k i∈bL mask f i 0
 |0,f+1,i,_=>Ho _ (rT mask i)
 |k+1,f+1,i,h=>by
  show pj _ ?_;rw[y7];show rV (k:=k) (f:=f) ⋯
structure Good(mask:Nat):Prop where
 all:∀j,j<=mask->∃k,k<=mask/\it mask k 0=j
 round:it mask (mask+1) 0=0
def Good.cover{mask:Nat}(g:Good mask)(c:i<=mask)(d:j<=mask):∃k,k<=mask/\it mask k i=j:=by
 have⟨a,e,rfl⟩:=g.all i c;have⟨b,f,rfl⟩:=g.all j d;by_cases h:a<=b
 .show⟨b - a,⋯,?_⟩;rw[<-kA,show a+(b - a)=b by lia]
 .show⟨mask+1+b - a,⋯,?_⟩;rw[<-kA,show a+(mask+1+b - a)=mask+1+b by lia,kA,g.round]
abbrev Ig(mask:Nat):Nat->Nat->List Nat
 |0,_=>[]
 |k+1,i=>i::Ig mask k (st mask i)
theorem oP{mask j:Nat}:∀{k i:Nat},j∈Ig mask k i->∃m,m<k/\it mask m i=j
 |0,_,h=>by cases h
 |k+1,i,h=>by
  rcases fx.mp h with rfl|h
  .show⟨0,⋯,rfl⟩
  .have⟨m,a,e⟩:=oP h;show⟨m+1,⋯,e⟩
abbrev vY(mask:Nat):Bool:=(hQ (mask+1)).all (λj=>(Ig mask (mask+1) 0).contains j)&&it mask (mask+1) 0==0
def kB{mask:Nat}(h:vY mask=b5):Good mask:=by
 unfold vY at h;rw[dV,va]at h;show⟨λj a=>?_,by simpa using h.2⟩;have:=h.1 j (w4.mpr ⋯);rw[List.contains_iff_mem]at this;have⟨m,b,e⟩:=oP this;show⟨m,⋯,e⟩
def vZ:Good 7:=kB (by decide +kernel)
def xp:Good 31:=kB (by decide +kernel)
def uL:Good 127:=kB (by decide +kernel)
abbrev E4:Nat->Nat->Nat
 |0,p=>p
 |n+1,p=>E4 n (p / 32)
theorem lW{mask j:Nat}:∀{n f i p:Nat},i<=mask->(∀a,a<=mask->j∈bL mask f a (E4 n p))->j∈bL mask (n+f) i p
 |0,f,i,p,b,h=>by rw[Ni];show h i b
 |n+1,f,i,p,b,h=>by
  rw[O_];show pj _ ?_;show lW (oO mask i p) h
theorem rW:∀n p,E4 n p=p / 32 ^ n
 |0,p=>by simp[E4]
 |n+1,p=>by rw[E4,rW n,Nat.div_div_eq_div_mul,Nat.pow_succ,Qy]
def uM(h:Int):NY h<2 ^ 64:=by
 unfold NY;have a:=Kq h (show(0:Int)<2 ^ 64 by decide);have b:=LR h (show(2 ^ 64:Int)≠0 by decide);lia
def Good.path{mask:Nat}(g:Good mask)(h:Int)(a:j<=mask):j∈path mask h:=by
 unfold Tb.path Kb;rw[show mask+15=13+(mask+2) by lia];show lW (Hb (Kp _ (Om _))) λc b=>?_;have:E4 13 (NY h)=0:=by
  rw[rW];have:=uM h;show Nat.div_eq_of_lt (lx this (by decide))
 rw[this];have⟨k,hk,rfl⟩:=g.cover b a;show rV ⋯
theorem hZ(hs:xs.toList.Pairwise (· < ·)):∀(f lo c:Nat),lo<=c->c<=xs.size->c - lo<=f->(∀i v,i<lo->xs[i]?=a5 v->v<j)->(∀i v,c<=i->xs[i]?=a5 v->j<=v) ->
  Ke xs j f lo c<=xs.size/\(∀i v,i<Ke xs j f lo c->xs[i]?=a5 v->v<j)/\∀i v,Ke xs j f lo c<=i->xs[i]?=a5 v->j<=v
 |0,lo,c,p,l,q,m,n=>by
  have:lo=c:=by lia
  subst this;show⟨l,m,n⟩
 |f+1,lo,c,p,l,q,m,n=>by
  rw[Ke];by_cases h:lo<c
  .rw[Q8 h]
   dsimp only
   have r:(lo+c) / 2<xs.size:=by lia
   have k:xs[(lo+c) / 2]?=a5 xs[(lo+c) / 2]:=y3 r;have e:xs.getD ((lo+c) / 2) j=xs[(lo+c) / 2]:=by rw[wh,k];rfl
   have d:∀a b u v,a<b->xs[a]?=a5 u->xs[b]?=a5 v->u<v:=λa b u v s t w=>by
    have⟨x,y⟩:=l'.mp t;have⟨z,A⟩:=l'.mp w;have:=N0.mp hs a b (by simpa using x) (by simpa using z) s;simpa[y,A] using this
   by_cases o:xs.getD ((lo+c) / 2) j<j
   .rw[Q8 o];show hZ hs f _ c ⋯ l ⋯ (λi v B g=>?_) n;by_cases hh:i=(lo+c) / 2
    .subst hh;rw[k]at g;cases g;lia
    .have:=d i _ v _ ⋯ g k;lia
   .rw[Q9 o];show hZ hs f lo _ ⋯ ⋯ ⋯ m λi v B g=>?_;by_cases hh:i=(lo+c) / 2
    .subst hh;rw[k]at g;cases g;lia
    .have:=d _ i _ v ⋯ k g;lia
  .rw[Q9 h];have:lo=c:=by lia
   subst this;show⟨l,m,n⟩
def eG(hs:xs.toList.Pairwise (· < ·)):mx xs j<=xs.size/\(∀i v,i<mx xs j->xs[i]?=a5 v->v<j)/\∀i v,mx xs j<=i->xs[i]?=a5 v->j<=v:=by
 unfold mx;show hZ hs _ 0 xs.size ⋯ (ke _) ⋯ (λi v h=>by lia) λi v h a=>?_;have:=(l'.mp a).1;lia
def below_at(hs:xs.toList.Pairwise (· < ·))(h:xs[i]?=a5 j):mx xs j=i:=by
 have⟨f,b,c⟩:=eG (j:=j) hs;rcases Pk (mx xs j) i with hl|hl|hl
 .have⟨d,e⟩:=l'.mp h;have a:mx xs j<xs.size:=by lia
  have g:=c _ _ (ke _) (y3 a);have:=N0.mp hs (mx xs j) i (by simpa using a) (by simpa using d) hl;simp[e]at this;lia
 .show hl
 .have:=b i j hl h;lia
section
variable{t:ED}
def dO(hs:t.place.toList.Pairwise (· < ·))(h:t.place[i]?=a5 j):t.slot j=.live i:=by
 unfold slot
 dsimp only
 rw[below_at hs h,h];simp
def h_(c:t.dummies=#[])(h:j∉t.place.toList):t.slot j=.empty:=by
 unfold slot
 dsimp only
 rw[Q9,c]
 .rfl
 .intro z;have z:=OT z;show h (by have⟨a,b⟩:=l'.mp z;rw[<-b];simp)
def gJ(h:t.slot j=.live i):t.place[i]?=a5 j:=by
 unfold slot at h
 dsimp only at h
 split at h
 .rename_i z;cases h;show OT z
 .split at h<;>cases h
def oQ(hs:t.place.toList.Pairwise (· < ·))(a:t.dummies=#[])(j:Nat):(j∈t.place.toList/\∃i,t.slot j=.live i)\/(j∉t.place.toList/\t.slot j=.empty):=by
 by_cases h:j∈t.place.toList
 .have⟨i,b,e⟩:=FH.mp h;show .inl ⟨h,i,dO hs (l'.mpr ⟨by simpa using b,by simpa using e⟩)⟩
 .show .inr ⟨h,h_ a h⟩
end
section
variable{t:ED}{hashAt:Nat->Int}{h:Int}
abbrev Pl(t:ED)(f:Nat)(p:Nm):List Nat:=(hQ (p.more+1)).map (p.j+·)++bL t.mask f (OG t.mask p.i p.perturb).1 (OG t.mask p.i p.perturb).2
def rX(f:Nat):Pl t f (t.probeStart h)=bL t.mask (f+1) (NY h % (t.mask+1)) (NY h):=by
 unfold Pl probeStart
 dsimp only
 rw[bL,run];congr 3
 unfold NX;split<;>lia
def uN:Pl t (t.mask+14) (t.probeStart h)=path t.mask h:=rX _
def oR(e:Pl t f p=p.j::l)(hl:l≠[]):∃f',l=Pl t f' (t.advance p):=by
 unfold Pl at e;unfold advance;by_cases a:p.more>0
 .rw[Q8 a];show⟨f,?_⟩;unfold Pl
  dsimp only
  rw[Iw,kT,Pq]at e;injection e with _ e
  rw[<-e,show p.more - 1+1=p.more by lia,nt];congr 1
  show JH λk _=>?_;change p.j+(k+1)=p.j+1+k;lia
 .rw[Q9 a];have b:p.more=0:=by lia
  rw[b]at e;cases f with
  |zero=>injection e with _ e;show absurd e.symm hl
  |succ f =>
   show⟨f,?_⟩;injection e with _ e
   have e:bL t.mask (f+1) (OG t.mask p.i p.perturb).1 (OG t.mask p.i p.perturb).2=l:=e;rw[<-e,bL];unfold Pl run
   dsimp only
   congr 3
   unfold NX;split<;>lia
def uO(f:Nat)(p:Nm):∃l,Pl t f p=p.j::l:=by
 unfold Pl;rw[Iw,kT,Pq];show⟨_,rfl⟩
def fN(p:Nm):(t.advance p).dummy=p.dummy:=by
 unfold advance;split<;>rfl
theorem oS:∀(l:List Nat) (fuel f:Nat) (p:Nm),Pl t f p=l->l.length<=fuel->p.dummy=b6->(∃j∈l,t.slot j=.empty)->(∀j∈l,t.slot j≠.dummy) ->
  ∃c j a,l=c++j::a/\(∀m∈c,∃i,t.slot m=.live i/\hashAt i≠h) /\
   ((t.slot j=.empty/\KI t hashAt h fuel p=a5 (.empty j b6))\/∃i f' next,t.slot j=.live i/\hashAt i=h/\KI t hashAt h fuel p=a5 (.candidate j i next)/\next.dummy=b6/\(a≠[]->Pl t f' next=a))
 |[],_,_,_,_,_,_,⟨_,u,_⟩,_=>by cases u
 |j::l,0,_,_,_,g,_,_,_=>by simp at g
 |j::l,fuel+1,f,p,e,g,d,⟨q,v,k⟩,r=>by
  have⟨D,s⟩:=uO (t:=t) f p;rw[e]at s;injection s with w x
  subst w;subst x;cases b:t.slot p.j with
  |empty=>show⟨[],p.j,l,rfl,(λm hm=>by cases hm),.inl ⟨b,by rw[KI,b];simp[d]⟩⟩
  |dummy=>show absurd b (r p.j gm)
  |live i =>
   by_cases hh:hashAt i=h
   .show⟨[],p.j,l,rfl,(λm hm=>by cases hm),.inr ?_⟩;by_cases hl:l=[]
    .show⟨i,0,t.advance p,b,hh,by rw[KI,b];simp[hh],by rw[fN];show d,λz=>absurd hl z⟩
    .have⟨f',n⟩:=oR e hl;show⟨i,f',t.advance p,b,hh,by rw[KI,b];simp[hh],by rw[fN];show d,λ_=>n.symm⟩
   .have o:q∈l:=by
     rcases fx.mp v with z|z
     .rw[z,b]at k;cases k
     .show z
    have⟨f',n⟩:=oR e (by intro z;rw[z]at o;cases o);have⟨c,j,a,y,A,B⟩:=oS l fuel f' (t.advance p) n.symm (by simpa using g) (by rw[fN];show d) ⟨q,o,k⟩ λm hm=>r m (eu _ hm);have C:KI t hashAt h (fuel+1) p=KI t hashAt h fuel (t.advance p):=by
     rw[KI,b];simp[hh]
    rw[C];show⟨p.j::c,j,a,by rw[y];rfl,λm hm=>by
     rcases fx.mp hm with rfl|hm
     .show⟨i,b,hh⟩
     .show A m hm,B⟩
end
abbrev On(mask:Nat)(a:Nat->Prop)(h:Int)(j:Nat):Prop:=∃b c,path mask h=b++j::c/\∀m∈b,a m
def On.mono{mask:Nat}(x:On mask P h j)(i:∀m,P m->Q m):On mask Q h j:=let ⟨a,b,c,d⟩:=x;⟨a,b,c,λm z=>i m (d m z)⟩
structure Tab(t:ED)(es:Array (Int×eh)):Prop where
 sz:t.place.size=es.size
 dm:t.dummies=#[]
 Cs:t.place.toList.Pairwise (· < ·)
 le:∀j∈t.place.toList,j<=t.mask
 Ci:es.size<=t.mask
 good:Good t.mask
 odd:t.mask % 2=1
 E5:∀q∈t.place.toList.zip es.toList,On t.mask (·∈t.place.toList) q.2.1 q.1
section
variable{t:ED}{es:Array (Int×eh)}
def Tab.fill(T:Tab t es):t.fill=es.size:=by
 unfold SetTable.fill;rw[T.dm,T.sz];rfl
def Tab.fits(T:Tab t es):t.fits es.size=b5:=by
 unfold O1;rw[T.fill,T.sz];simp[T.Ci]
def Tab.y8(T:Tab t es):t.gaveWay=cb:=by
 unfold SetTable.gaveWay;rw[T.odd];rfl
def Tab.uP(T:Tab t es)(j:Nat):t.slot j≠.dummy:=by
 rcases oQ T.Cs T.dm j with⟨_,i,e⟩|⟨_,e⟩<;>(rw[e];intro z;cases z)
theorem rY:∀{K L:List Nat},K.Nodup->(∀x∈K,x∈L)->K.length<=L.length
 |[],_,_,_=>pb _
 |a::K,L,h,s=>by
  rw[CZ]at h;have b:=s a gm;have:=rY (K:=K) (L:=L.erase a) h.2 λx c=>(Oy (show x≠a from λe=>h.1 (e▸c))).mpr (s x (eu _ c));rw[N3 b]at this;have:=Og b;rw[k4];lia
def rZ(l:List α)(m:List β)(p:Nat):(l.take p).zip (m.take p)=(l.zip m).take p:=List.take_zipWith.symm
def r9(l:List α)(m:List β)(p:Nat):(l.drop p).zip (m.drop p)=(l.zip m).drop p:=List.drop_zipWith.symm
def Tab.free(T:Tab t es)(h:Int):∃j∈path t.mask h,t.slot j=.empty:=by
 have:∃j,j<=t.mask/\j∉t.place.toList:=by
  show EJ λz=>?_;have hs:∀j∈hQ (t.mask+1),j∈t.place.toList:=λj a=>EJ λq=>z ⟨j,Hb (w4.mp a),q⟩;have:=rY Pm hs;rw[G7,i4,T.sz]at this;have:=T.Ci;lia
 have⟨j,b,c⟩:=this;show⟨j,T.good.path h b,h_ T.dm c⟩
def cw(xs:Array α)(p:Nat)(x:α)(h:p<=xs.size):(C9 xs p x).toList=xs.toList.take p++x::xs.toList.drop p:=by
 unfold C9;simp[Array.toList_extract,List.extract_eq_take_drop];show Em (by rw[F0,i4];lia)
def xq(a:t.dummies=#[])(j:Nat):t.put j=({t with place:=C9 t.place (mx t.place j) j},mx t.place j):=by
 unfold SetTable.put
 dsimp only
 rw[a];have:has #[] j=cb:=rfl;rw[this];simp
def Tab.put(T:Tab t es)(o:On t.mask (·∈t.place.toList) h j)(s:j∉t.place.toList)(u:j<=t.mask)(w:es.size+1<=t.mask):
  Tab {t with place:=C9 t.place (mx t.place j) j} (C9 es (mx t.place j) (h,v)):=by
 have⟨l,x,y⟩:=eG (j:=j) T.Cs;have hb:mx t.place j<=es.size:=by rw[<-T.sz];show l
 have d:=cw t.place (mx t.place j) j l;have n:=cw es (mx t.place j) (h,v) hb;have p:∀m,m∈t.place.toList->m∈(C9 t.place (mx t.place j) j).toList:=λm z=>by
  rw[d];rw[<-LQ (mx t.place j) t.place.toList]at z;rcases oa.mp z with z|z
  .show Ho _ z
  .show pj _ (eu _ z)
 have A:∀m,m∈(C9 t.place (mx t.place j) j).toList->m=j\/m∈t.place.toList:=λm z=>by
  rw[d]at z;rcases oa.mp z with z|z
  .show .inr (Jl z)
  .rcases fx.mp z with z|z
   .show .inl z
   .show .inr (Mu z)
 have B:(C9 t.place (mx t.place j) j).toList.length=t.place.size+1:=by
  rw[d,mh,k4,rr,F0,i4];lia
 have r:(C9 es (mx t.place j) (h,v)).toList.length=es.size+1:=by
  rw[n,mh,k4,rr,F0,i4];lia
 show⟨?_,T.dm,?_,?_,?_,T.good,T.odd,?_⟩
 .rw[<-i4,<-i4,B,r,T.sz]
 .change(C9 t.place (mx t.place j) j).toList.Pairwise (· < ·);rw[d];have hs:=T.Cs;rw[<-LQ (mx t.place j) t.place.toList,Ox]at hs;rw[Ox];have low:∀a∈t.place.toList.take (mx t.place j),a<j:=λa c=>by
   have⟨i,f,e⟩:=FH.mp c;rw[rr]at f;rw[List.getElem_take]at e;show x i a ⋯ (l'.mpr ⟨by simp at f;lia,by simpa using e⟩)
  have C:∀a∈t.place.toList.drop (mx t.place j),j<a:=λa c=>by
   have⟨i,f,e⟩:=FH.mp c;rw[F0]at f;rw[List.getElem_drop]at e;have:=y (mx t.place j+i) a ⋯ (l'.mpr ⟨by simp at f;lia,by simpa using e⟩);have:a≠j:=λz=>s (z▸Mu c);lia
  show⟨hs.1,Ic.mpr ⟨C,hs.2.1⟩,λa c b hb=>?_⟩;rcases fx.mp hb with rfl|hb
  .show low a c
  .show hs.2.2 a c b hb
 .intro m z;rcases A m z with rfl|z
  .show u
  .show T.le m z
 .rw[<-i4,r];show w
 .intro q k;have k:q∈(C9 t.place (mx t.place j) j).toList.zip (C9 es (mx t.place j) (h,v)).toList:=k;rw[d,n,List.zip_append (by rw[rr,rr,i4,i4,T.sz]),H8]at k;have g:q∈t.place.toList.zip es.toList->On t.mask (·∈(C9 t.place (mx t.place j) j).toList) q.2.1 q.1:=λz=>(T.E5 q z).mono p;rcases oa.mp k with z|z
  .show g ?_;rw[rZ]at z;show Jl z
  .rcases fx.mp z with rfl|z
   .show o.mono p
   .show g ?_;rw[r9]at z;show Mu z
end
def Tab.plain(T:Tab t es)(b:Bool):Tab {t with plain:=b} es:=⟨T.sz,T.dm,T.Cs,T.le,T.Ci,T.good,T.odd,T.E5⟩
structure Own(mask:Nat)(hs:List Int)(o:Array (Option Nat)):Prop where
 size:o.size=mask+1
 all:((hQ (mask+1)).filterMap λj=>(o.getD j b6).map (j,·)).map (·.2) |>.Perm (hQ hs.length)
 E5:∀j k,o.getD j b6=a5 k->∃h,hs[k]?=a5 h/\On mask (λm=>(o.getD m b6).isSome=b5) h j
theorem cH:∀{l:List α},(∀a∈l,f a=g a)->l.filterMap f=l.filterMap g
 |[],_=>rfl
 |a::l,h=>by
  have c:=cH λb d=>h b (eu _ d);have e:=h a gm;cases q:g a with
  |none=>rw[q]at e;rw[DJ e,DJ q,c]
  |some z=>rw[q]at e;rw[tA e,tA q,c]
theorem oU [DecidableEq α](j:f a0=b6)(k:f' a0=a5 y):∀(r:List α),r.Nodup->a0∈r->(∀a∈r,a≠a0->f' a=f a)->(r.filterMap f').Perm (y::r.filterMap f)
 |[],_,h,_=>by cases h
 |a::r,g,m,i=>by
  rw[CZ]at g;by_cases e:a=a0
  .subst e;rw[tA k,DJ j,cH (λb c=>i b (eu _ c) λz=>g.1 (z▸c))]
  .have l:=oU j k r g.2 (by rcases fx.mp m with z|z;show absurd z.symm e;show z) λb c=>i b (eu _ c);have d:=i a gm e;cases q:f a with
   |none =>
    rw[q]at d;rw[DJ d,DJ q];show l
   |some z =>
    rw[q]at d;rw[tA d,tA q];show(l.cons z).trans (OL y z _)
abbrev xr(mask:Nat)(a:Option (Array (Option Nat)×Nat))(h:Int):Option (Array (Option Nat)×Nat):=do
 let (owner,k) <-a
 let j <-Kj mask owner (Kb mask) (NY h % (mask+1)) (NY h)
 pure (owner.setIfInBounds j (a5 k),k+1)
def lX(mask:Nat)(a:Array Int):LS mask a=(a.toList.foldl (xr mask) (a5 (Lw (mask+1) b6,0))).map (·.1):=by
 unfold LS;rw[<-Array.foldl_toList];rfl
def r_{o:Array (Option Nat)}(a:j<o.size):(o.setIfInBounds j (a5 k)).getD m b6=if m=j then a5 k else o.getD m b6:=by
 rw[wh,wh,Array.getElem?_setIfInBounds];by_cases e:m=j
 .subst e;simp[a]
 .rw[Q9 (λz=>e z.symm),Q9 e]
def Own.free{mask:Nat}(O:Own mask hs o)(hl:hs.length<=mask):∃j,j<=mask/\o.getD j b6=b6:=by
 show EJ λz=>?_;have h:∀j∈hQ (mask+1),∃k,o.getD j b6=a5 k:=λj d=>by
  cases q:o.getD j b6 with
  |none=>show absurd ⟨j,Hb (w4.mp d),q⟩ z
  |some k=>show⟨k,rfl⟩
 have c:∀r:List Nat,(∀j∈r,∃k,o.getD j b6=a5 k)->(r.filterMap λj=>(o.getD j b6).map (j,·)).length=r.length:=by
  intro r;induction r with
  |nil=>intro _;rfl
  |cons a r g =>
   intro f;have⟨k,e⟩:=f a gm;rw[tA (b:=(a,k)) (by rw[e];rfl),k4,g λj d=>f j (eu _ d),k4]
 have:=O.all.length_eq;rw[ek,c _ h,G7,G7]at this;lia
def Own.step{mask:Nat}(g:Good mask)(O:Own mask hs o)(hl:hs.length<=mask)(h:Int):∃p,xr mask (a5 (o,hs.length)) h=a5 (p,hs.length+1)/\Own mask (hs++[h]) p:=by
 have⟨r,s,x⟩:=O.free hl;have A:=g.path h s;have c:∀m,m<=mask->o.getD m (a5 0)=o.getD m b6:=λm t=>by
  have:m<o.size:=by rw[O.size];lia
  rw[wh,wh,y3 this];rfl
 have B:∃j,Kj mask o (Kb mask) (NY h % (mask+1)) (NY h)=a5 j:=by
  rw[free_eq];cases q:(bL mask (Kb mask) (NY h % (mask+1)) (NY h)).find? λj=>(o.getD j (a5 0)).isNone with
  |some j=>show⟨j,rfl⟩
  |none =>
   have:=List.find?_eq_none.mp q r A;rw[c r s,x]at this;show absurd rfl this
 have⟨j,d⟩:=B;rw[free_eq]at d;have⟨C,i,a,e,D⟩:=List.find?_eq_some_iff_append.mp d;have G:j<=mask:=kz (h:=h) (by change j∈bL _ _ _ _;rw[e];simp);have H:o.getD j b6=b6:=by rw[<-c j G];simpa using C
 have I:j<o.size:=by rw[O.size];lia
 have b:∀m,(o.setIfInBounds j (a5 hs.length)).getD m b6=if m=j then a5 hs.length else o.getD m b6:=λm=>r_ I
 have u:∀m,(o.getD m b6).isSome=b5->((o.setIfInBounds j (a5 hs.length)).getD m b6).isSome=b5:=λm t=>by
  rw[b];split
  .rfl
  .show t
 show⟨o.setIfInBounds j (a5 hs.length),?_,⟨?_,?_,?_⟩⟩
 .change(Kj mask o (Kb mask) (NY h % (mask+1)) (NY h)).bind _=_;rw[free_eq,d];rfl
 .rw[Array.size_setIfInBounds];show O.size
 .have:=oU (f:=λm=>(o.getD m b6).map (m,·)) (f':=λm=>((o.setIfInBounds j (a5 hs.length)).getD m b6).map (m,·)) (a0:=j) (y:=(j,hs.length)) (by simp[H]) (by simp[b]) (hQ (mask+1)) Pm (w4.mpr ⋯) (λm _ J=>by simp only[b,Q9 J]);show(this.map (·.2)).trans ?_;rw[kT,mh,ID,List.range_succ (n:=hs.length)];show(O.all.cons hs.length).trans (NT _ _).symm
 .intro m k hk;rw[b]at hk;by_cases em:m=j
  .rw[Q8 em]at hk;cases hk;subst em;show⟨h,by simp,i,a,e,λq v=>u q ?_⟩;have l:=D q v;have L:q<=mask:=kz (h:=h) (by change q∈bL _ _ _ _;rw[e];show Ho _ v);rw[c q L]at l;cases z:o.getD q b6 with
   |none=>rw[z]at l;simp at l
   |some _=>rfl
  .rw[Q9 em]at hk;have⟨h',w,N⟩:=O.E5 m k hk;show⟨h',by rw[tr (l2.mp w).1];show w,N.mono u⟩
def uQ(mask:Nat):Own mask [] (Lw (mask+1) b6):=by
 have e:∀j,(Lw (mask+1) (b6:Option Nat)).getD j b6=b6:=λj=>by
  rw[wh,Array.getElem?_replicate];split<;>rfl
 show⟨Array.size_replicate,?_,λj k h=>by rw[e]at h;cases h⟩;have:∀r:List Nat,(r.filterMap λj=>((Lw (mask+1) (b6:Option Nat)).getD j b6).map (j,·))=[]:=λr=>by
  rw[List.filterMap_eq_nil_iff];intro j _;rw[e];rfl
 rw[this];show .nil
theorem oV{mask:Nat}(g:Good mask):∀(hs done:List Int) (o:Array (Option Nat)),Own mask done o->done.length+hs.length<=mask+1->∃a,hs.foldl (xr mask) (a5 (o,done.length))=a5 (a,done.length+hs.length)/\Own mask (done++hs) a
 |[],done,o,O,_=>⟨o,rfl,by rw[DY];show O⟩
 |h::hs,done,o,O,hl=>by
  rw[k4]at hl;have⟨o1,d,e⟩:=O.step g ⋯ h;have⟨o2,b,c⟩:=oV g hs (done++[h]) o1 e (by rw[mh,ID];lia);rw[mh,ID]at b;show⟨o2,?_,by rw[Ha]at c;show c⟩;rw[GA,d,b,k4];congr 2
  lia
theorem nu(g:Nat->Option Nat):∀r:List Nat,(r.filterMap λj=>(g j).map (j,·)).map (·.1)=r.filter λj=>(g j).isSome
 |[]=>rfl
 |a::r=>by
  cases q:g a with
  |none=>rw[DJ (by rw[q];rfl),List.filter_cons_of_neg (by rw[q];simp)];show nu g r
  |some k=>rw[tA (b:=(a,k)) (by rw[q];rfl),List.filter_cons_of_pos (by rw[q];rfl),kT,nu g r]
theorem lY(es:Array β):∀r:List (Nat×Nat),(∀q∈r,q.2<es.size)->∃c:List β,(r.map (·.2)).filterMap (es[·]?)=c/\c.length=r.length/\∀x∈(r.map (·.1)).zip c,∃q∈r,x.1=q.1/\es[q.2]?=a5 x.2
 |[],_=>⟨[],rfl,rfl,λx hx=>by cases hx⟩
 |q::r,h=>by
  have⟨c,e,l,z⟩:=lY es r λx hx=>h x (eu _ hx);have d:=h q gm;show⟨es[q.2]::c,?_,by rw[k4,l,k4],λx hx=>?_⟩
  .rw[kT,tA (y3 d),e]
  .rw[kT,H8]at hx;rcases fx.mp hx with rfl|hx
   .show⟨q,gm,rfl,y3 d⟩
   .have⟨p,a,b⟩:=z x hx;show⟨p,eu _ a,b⟩
def sd(es:Array β):(hQ es.size).filterMap (es[·]?)=es.toList:=by
 have:∀l:List β,(hQ l.length).filterMap (l[·]?)=l:=λl=>by
  induction l with
  |nil=>rfl
  |cons a l c =>
   rw[k4,Iw,tA (f:=λx=>(a::l)[x]?) (b:=a) rfl,List.filterMap_map];congr 1
 have h:=this es.toList;rw[i4]at h;show h.symm▸(cH λi _=>by simp)
def se{mask finger moves:Nat}{led plain:Bool}{es:Array (Int×eh)}(g:Good mask)(ho:mask % 2=1)(hl:es.size<=mask):∃t' e,Ol mask finger moves led plain (es.map (·.1))=a5 (t',e)/\(e.filterMap (es[·]?)).toList.Perm es.toList/\Tab t' (e.filterMap (es[·]?))/\t'.mask=mask/\t'.led=led/\t'.plain=plain/\t'.moves=moves:=by
 have hs:(es.map (·.1)).toList.length=es.size:=by rw[i4,Array.size_map]
 have⟨o,w,O⟩:=oV g (es.map (·.1)).toList [] _ (uQ mask) (by rw[hs];simp;lia);rw[uv]at O;have x:LS mask (es.map (·.1))=a5 o:=by
  rw[lX,show((0:Nat)=([]:List Int).length) from rfl,w];rfl
 let d:=(hQ (mask+1)).filterMap λj=>(o.getD j b6).map (j,·);have y:∀q∈d,q.2<es.size:=λq i=>by
  have:=O.all.mem_iff.mp (lg.mpr ⟨q,i,rfl⟩);rw[hs]at this;show w4.mp this
 have⟨A,r,B,C⟩:=lY es d y;have f:((d.map (·.2)).toArray.filterMap (es[·]?)).toList=A:=by
  rw[Array.toList_filterMap];show r
 have s:d.length=es.size:=by
  have:=O.all.length_eq;rw[ek,G7,hs]at this;show this
 have l:d.map (·.1)=(hQ (mask+1)).filter λj=>(o.getD j b6).isSome:=nu _ _;have t:((d.map (·.2)).toArray.filterMap (es[·]?)).size=es.size:=by rw[<-i4,f,B,s]
 show⟨{mask,place:=(d.map (·.1)).toArray,dummies:=#[],finger,led,moves,plain},(d.map (·.2)).toArray,?_,?_,⟨?_,rfl,?_,?_,?_,g,ho,?_⟩,rfl,rfl,rfl,rfl⟩
 .unfold Ol;rw[x];rfl
 .rw[f,<-r];show(O.all.filterMap _).trans ?_;rw[hs,sd]
 .rw[t];change(d.map (·.1)).toArray.size=_;rw[i5,ek,s]
 .change(d.map (·.1)).Pairwise (· < ·);rw[l];show QA List.filter_sublist List.pairwise_lt_range
 .change ∀j∈d.map (·.1),j<=mask;rw[l];intro j u;show Hb (w4.mp (HQ.mp u).1)
 .rw[t];show hl
 .intro q i;have i:q∈(d.map (·.1)).zip ((d.map (·.2)).toArray.filterMap (es[·]?)).toList:=i;rw[f]at i;have⟨p,a,b,c⟩:=C q i;have⟨j,u,ep⟩:=M5.mp a;have⟨k,D,G⟩:=eH.mp ep;subst G;have⟨h,v,H⟩:=O.E5 j k D;have I:q.2.1=h:=by
   have:(es.map (·.1)).toList[k]?=a5 q.2.1:=by
    rw[Fj,Array.getElem?_map,c];rfl
   rw[this]at v;show tj v
  rw[I,b];show H.mono λm n=>?_;change m∈d.map (·.1);rw[l];show HQ.mpr ⟨w4.mpr ?_,n⟩;show Nat.lt_of_not_le λz=>?_;have:o.getD m b6=b6:=by
   rw[wh,Array.getElem?_eq_none (by rw[O.size];show z)];rfl
  rw[this]at n;cases n
end Tb
namespace L2
open PySem PySem.Spec PyProof.Rows
section
def gG(hk:Nv (PySem.strKind prog w) s.heap m a)(h:Q cb s):gi (ko prog w) A (FV (n+1) (.ref a)) Q E s:=by
 have g:=hk.typeIs;obtain⟨o,c,p,ho,_,i,j⟩:=hk;unfold FV;show b4 (MA g ?_)
 dsimp only
 show b4 (c4 ?_);simp only[w6,k9,Ra];show b4 (IT ho i ?_);show b4 ?_;change gi _ _ (Qo c _ _) _ _ s;rw[<-Gh];show FD _ (λb r s'=>r.1=b6/\s'=s/\∀v∈b,QW v=b5) _ ?_ ?_ _ _ ⟨rfl,rfl,j.byValue⟩
 .rintro v b r s' ⟨d,rfl,f⟩;have k:=f v gm;have e:FV n v=pure cb:=by cases v<;>first|(unfold FV;rfl)|show nomatch k
  rw[e];show b4 (c4 ?_);simp only[k9,Ra];show c4 ⟨rfl,rfl,λu l=>f u (eu _ l)⟩
 .rintro⟨q,t⟩ s' ⟨d,rfl,_⟩;simp only at d;subst d;show c4 h
def d5(hk:ai prog w s.heap k a)(h:Q cb s):gi (ko prog w) A (FV 8 (.ref a)) Q E s:=by
 have f:=hk.typeIs;obtain⟨o,n,t,b,ho,_,g,i⟩:=hk;unfold FV;show b4 (MA f ?_)
 dsimp only
 show b4 (c4 ?_);simp only[w6,k9,Ra];show b4 (IT ho g ?_);show b4 ?_;rw[<-Gh];show FD _ (λc r s'=>r.1=b6/\s'=s/\(c=[vl k.1 t,rd b]\/c=[rd b]\/c=[])) _ ?_ ?_ _ _ ⟨rfl,rfl,.inl rfl⟩
 .rintro v c r s' ⟨d,rfl,(e|e|e)⟩
  .cases e;rw[show FV 7 (.str k.1 t)=pure cb from rfl];show b4 (c4 ?_);simp only[k9,Ra];show c4 ⟨rfl,rfl,.inr (.inl (by first|rfl|trivial))⟩
  .cases e;show b4 (gG i ?_);simp only[k9,Ra];show c4 ⟨rfl,rfl,.inr (.inr (by first|rfl|trivial))⟩
  .cases e
 .rintro⟨j,l⟩ s' ⟨d,rfl,_⟩;simp only at d;subst d;show c4 h
def jj(hk:ai prog w s.heap k a)(h:Q cb s):gi (ko prog w) A (Pz 8 (.ref a)) Q E s:=by
 have d:=hk.typeIs;obtain⟨o,n,t,b,ho,_,f,i⟩:=hk;unfold Pz;show b4 (Ie d PySem.F.slot_tuple_hash.lookup ?_)
 dsimp only
 show b4 (IT ho f ?_);show b4 ?_;rw[<-Gh];show FD _ (λc r s'=>r.1=b6/\s'=s/\c=[vl k.1 t,rd b]) _ ?_ ?_ _ _ ⟨rfl,rfl,rfl⟩
 .rintro v c r s' ⟨g,rfl,e⟩;cases e;rw[show Pz 7 (.str k.1 t)=pure cb from rfl];show b4 (c4 ?_);simp only[Kk,if_true];show c4 (c4 h)
 .rintro⟨j,l⟩ s' ⟨g,rfl,e⟩;cases e
def ia(hk:ai prog w s.heap k a)(i:∀y∈j,∃k' b,y=.ref b/\ai prog w s.heap k' b)(h:Q cb s):gi (ko prog w) A (NF (.ref a) j) Q E s:=by
 unfold NF;show b4 ?_;show FD _ (λc r s'=>r.1=b6/\s'=s/\∀y∈c,∃k' b,y=.ref b/\ai prog w s.heap k' b) _ ?_ ?_ _ _ ⟨rfl,rfl,i⟩
 .rintro v c r s' ⟨d,rfl,e⟩;have⟨k',b,rfl,f⟩:=e v gm;have g:∀u∈c,∃k' b,u=.ref b/\ai prog w s'.heap k' b:=λu l=>e u (eu _ l)
  dsimp only
  split
  .show c4 ⟨rfl,rfl,g⟩
  .show b4 (bY hk ?_);simp only[w6,k9,Ra];show b4 (bY f ?_);simp only[w6,k9,Ra];show b4 (d5 hk ?_);simp only[k9,Ra];show b4 (d5 f ?_);simp only[k9,Ra];show c4 ⟨rfl,rfl,g⟩
 .rintro⟨m,n⟩ s' ⟨d,rfl,_⟩;simp only at d;subst d;show c4 h
end
@[irreducible] noncomputable def rH(prog:ve)(w:y1)(k:Str×List Str):Int:=e_ prog w k
def y9(prog:ve)(w:y1)(k:Str×List Str):e_ prog w k=rH prog w k:=by
 unfold rH;rfl
end L2
namespace L2
open PySem PySem.Spec PyProof.Rows Tb
section
abbrev nv(prog:ve)(w:y1)(p:(Str×List Str)×hA):Int×eh:=(rH prog w p.1,.ref p.2)
theorem gn{t:ED}(hs:t.place.toList.Pairwise (· < ·))(g:t.dummies=#[]):∀{l:List Nat},(∃j∈l,t.slot j=.empty)->∃c j b,l=c++j::b/\(∀m∈c,m∈t.place.toList)/\t.slot j=.empty
 |[],⟨_,h,_⟩=>by cases h
 |a::l,⟨j,n,d⟩=>by
  rcases oQ hs g a with⟨k,i,f⟩|⟨k,f⟩
  .have o:j∈l:=by
    rcases fx.mp n with z|z
    .rw[z,f]at d;cases d
    .show z
   have⟨c,p,b,e,q,p2⟩:=gn hs g ⟨j,o,d⟩;show⟨a::c,p,b,by rw[e];rfl,λm hm=>by
    rcases fx.mp hm with rfl|hm
    .show k
    .show q m hm,p2⟩
  .show⟨[],a,l,rfl,(λm hm=>by cases hm),f⟩
abbrev Ih(t:ED)(es:Array (Int×eh))(prog:ve)(w:y1)(h:DW)(k:Str×List Str)(l:List Nat):Prop:=∃m∈l,∃(i:Nat) (b:hA),t.place[i]?=a5 m/\es[i]?=a5 (rH prog w k,rd b)/\ai prog w h k b
def ny{L:List ((Str×List Str)×hA)}(hu:A.units+2<y0)(ho:s.heap.get? a=a5 o)(hd:o.data=.set es ep t)(T:Tab t es)(Bx:es.toList=L.map (nv prog w))(hL:∀p∈L,ai prog w s.heap p.1 p.2)(hk:ai prog w s.heap k x):
  ∀(n fuel f:Nat) (l:List Nat) (p:Nm) (Co:Option Nm),l.length<=n->n<fuel->Co.getD (t.probeStart (rH prog w k))=p->Pl t f p=l->l.length<=10 * Kb t.mask->p.dummy=b6->(∃j∈l,t.slot j=.empty) ->
   (∀d j c,l=d++j::c->(∀m∈d,m∈t.place.toList)->t.slot j=.empty->(Ih t es prog w s.heap k d->Q (.there b6) s)/\(¬Ih t es prog w s.heap k d->Q (.free j cb) s)) ->
   gi (ko prog w) A (setSearchFrom a (.ref x) (rH prog w k) b5 fuel Co) Q E s:=by
 have Ii:∀{i:Nat} {e:Int×eh},es[i]?=a5 e->∃k' b,e=(rH prog w k',.ref b)/\ai prog w s.heap k' b:=λ{i e} h=>by
  have:e∈es.toList:=by have⟨q,rfl⟩:=l'.mp h;simp
  rw[Bx]at this;have⟨p,C,rfl⟩:=lg.mp this;show⟨p.1,p.2,rfl,hL p C⟩
 have live:∀{i j:Nat},t.slot j=.live i->∃e,es[i]?=a5 e:=λ{i j} h=>by
  obtain⟨q,_⟩:=l'.mp (gJ h);rw[T.sz]at q;show⟨_,y3 q⟩
 intro n;induction n with
 |zero =>
  intro fuel f l p Co hl hf AN C B JK ⟨j,hj,_⟩ _;have:l=[]:=Jm ⋯;subst this;cases hj
 |succ n ih =>
  intro fuel f l p Co hl hf AN C B JK JL H;cases fuel with
  |zero=>lia
  |succ fuel =>
   unfold setSearchFrom;show b4 (ti ho hd T.fits ?_)
   dsimp only
   rw[T.y8];simp only[k9,Ra]
   k_delta "storedHashAt"
   rw[AN];have⟨d,j,c,D,h1,h2⟩:=oS (hashAt:=λi=>((es[i]?).map (·.1)).getD 0) (h:=rH prog w k) l (10 * Kb t.mask) f p C B JK JL λm _=>T.uP m;have Br:∀m∈d,m∈t.place.toList:=λm g=>by
    obtain⟨i,hi,_⟩:=h1 m g;have⟨q,e⟩:=l'.mp (gJ hi);rw[<-e];simp
   have JM:¬Ih t es prog w s.heap k d:=λBm=>by
    obtain⟨m,g,i,b,e1,G,_⟩:=Bm;have⟨i',hi,Bn⟩:=h1 m g;rw[dO T.Cs e1]at hi;cases hi;rw[G,Nn,OQ]at Bn;show Bn rfl
   rcases h2 with⟨v,h4⟩|⟨i,f',next,v,h4,h5,h6,h7⟩
   .have e:t.probe (λi=>((es[i]?).map (·.1)).getD 0) (rH prog w k) p=a5 (.empty j b6):=h4;rw[e]
    dsimp only
    show c4 ((H d j c D Br v).2 JM)
   .have e:t.probe (λi=>((es[i]?).map (·.1)).getD 0) (rH prog w k) p=a5 (.candidate j i next):=h5;rw[e]
    dsimp only
    have⟨e0,I⟩:=live v;have⟨k',b,rfl,hb⟩:=Ii I;have E6:j∈t.place.toList:=by
     have⟨q,e⟩:=l'.mp (gJ v);rw[<-e];simp
    have Ey:∃j∈c,t.slot j=.empty:=by
     have⟨j0,J,N⟩:=JL;rw[D]at J;rcases oa.mp J with z|z
     .obtain⟨i0,Lz,_⟩:=h1 j0 z;rw[Lz]at N;cases N
     .rcases fx.mp z with z|z
      .rw[z,v]at N;cases N
      .show⟨j0,z,N⟩
    have F4:c≠[]:=by
     obtain⟨j0,J,_⟩:=Ey;intro z;rw[z]at J;cases J
    have ac:∀m:Sem SetFound,gi (ko prog w) A m Q E s->gi (ko prog w) A (if (!t.led)=b5 then(do
      let b <-NF (rd x) (PY (λx=>x.snd) (Array.filter (λx=>x.fst==rH prog w k) es).toList)
      if b=b5 then do
       Pu "set:the-search-would-show-the-table"
       m
      else m) else m) Q E s:=λm g=>by
     split
     .show b4 (ia hk (λy hy=>?_) ?_)
      .have⟨e,O,rfl⟩:=lg.mp hy;have O:e∈es.toList:=by
        rw[Array.mem_toList_iff]at O ⊢;show(Array.mem_filter.mp O).1
       rw[Bx]at O;have⟨p,C,rfl⟩:=lg.mp O;show⟨p.1,p.2,rfl,hL p C⟩
      .simp only[k9,Ra];show g
     .show g
    show ac _ ?_;rw[I]
    dsimp only
    show b4 (z8 (cF hu hb hk ?_));show b4 (ti ho hd T.fits ?_)
    dsimp only
    by_cases Y:k'=k
    .rw[Q_ Y];simp only[N5,if_true];have⟨Ez,j2,C0,G,q1,q2⟩:=gn T.Cs T.dm Ey;show c4 ((H (d++j::Ez) j2 C0 (by rw[D,G];simp) (λm g=>?_) q2).1 ⟨j,by simp,i,b,gJ v,by rw[<-Y];show I,Y▸hb⟩);rcases oa.mp g with z|z
     .show Br m z
     .rcases fx.mp z with rfl|z
      .show E6
      .show q1 m z
    .rw[Q7 Y];have LA:t.sameMemory t.moves t.mask=a5 b5:=by simp[SetTable.sameMemory]
     simp only[Mx,k9,Ra,LA,if_true,v,I];show b4 (wpAny_isSame_ref_self ?_);show b4 (c4 ?_);simp only[if_true];have LB:c.length<=n:=by
      have:=Rb Ge D;rw[mh,k4]at this;lia
     show ih fuel f' c next (a5 next) LB ⋯ rfl (h7 F4) (by
      have:=Rb Ge D;rw[mh,k4]at this;lia) h6 Ey λEz j2 C0 G q1 q2=>?_
     have hH:=H (d++j::Ez) j2 C0 (by rw[D,G];simp) (λm g=>by
      rcases oa.mp g with z|z
      .show Br m z
      .rcases fx.mp z with rfl|z
       .show E6
       .show q1 m z) q2
     show⟨λz=>hH.1 ?_,λz=>hH.2 λ⟨m,g,i2,b2,a1,u,a3⟩=>?_⟩
     .have⟨m,g,r⟩:=z;show⟨m,pj _ (eu _ g),r⟩
     .rcases oa.mp g with q|q
      .show JM ⟨m,q,i2,b2,a1,u,a3⟩
      .rcases fx.mp q with rfl|q
       .rw[dO T.Cs a1]at v;cases v;rw[I]at u;injection u with u
        injection u with _ u
        injection u with u
        subst u;show Y (hb.inj a3)
       .show z ⟨m,q,i2,b2,a1,u,a3⟩
end
def ai.up(x:ai prog w h k a)(d:∀b o,h.get? b=a5 o->h'.get? b=a5 o):ai prog w h' k a:=by
 have⟨e,n,t,b,f,g,i,o2,j,l,m,p,c,q⟩:=x;show⟨e,n,t,b,d _ _ f,g,i,o2,j,l,d _ _ m,p,c,q⟩
theorem lZ(f:α->β):∀(L:List α) {l:List β},l.Perm (L.map f)->∃b:List α,l=b.map f/\b.Perm L
 |[],l,h=>⟨[],h.eq_nil,.nil⟩
 |a::L,l,h=>by
  have g:f a∈l:=h.mem_iff.mpr gm;have⟨c,d,rfl⟩:=List.append_of_mem g;have i:(c++d).Perm (L.map f):=((Np.symm.trans h):(f a::(c++d)).Perm (f a::L.map f)).cons_inv;have⟨b,e,p⟩:=lZ f L i;have⟨M1,M2,rfl,j,k⟩:=List.map_eq_append_iff.mp e.symm;show⟨M1++a::M2,by rw[Ba,kT,j,k],Np.trans (p.cons a)⟩
theorem l0{P:Nat->Prop}:∀{i c k f:List Nat},i++m::k=c++j::f->(∀x∈i,P x)->P m->¬P j->m∈c
 |[],[],_,_,e,_,g,d=>by injection e with e;show absurd (e▸g) d
 |[],b::c,_,_,e,_,g,d=>by injection e with e;rw[e];show gm
 |a::i,[],_,_,e,h,g,d=>by injection e with e;show absurd (e▸h a gm) d
 |a::i,b::c,_,_,e,h,g,d=>by
  injection e with _ e
  show eu _ (l0 e (λx l=>h x (eu _ l)) g d)
abbrev GO(m:Nat):Prop:=m=7\/m=31\/m=127
def GO.good(h:GO m):Good m/\m % 2=1:=by
 rcases h with rfl|rfl|rfl
 .show⟨vZ,rfl⟩
 .show⟨xp,rfl⟩
 .show⟨uL,rfl⟩
abbrev eI(P:ve)(w:y1)(b h:DW)(a:hA)(led:Bool)(D:List (Str×List Str)):Prop :=
 ∃(L:List ((Str×List Str)×hA)) (es:Array (Int×eh)) (ep:Nat) (t:ED),h.get? a=a5 {cls:=.type "set",dict:=b6,data:=.set es ep t}/\es.toList=L.map (nv P w) /\
  (L.map (·.1)).Perm D/\D.Nodup/\(∀p∈L,ai P w b p.1 p.2)/\Tab t es/\t.tooFull=cb/\GO t.mask/\t.led=led
section
theorem nz(hS:eI prog w h0 s.heap a led D)(up:∀b o,h0.get? b=a5 o->s.heap.get? b=a5 o)(BZ:D.length<64)(hu:A.units+2<y0)(GP:ai prog w h0 k x)
    (h:∀h',A6 a s.heap h'->eI prog w h0 h' a led (if k∈D then D else D++[k])->Q (et (k∉D)) {s with heap:=h' }) :
    gi (ko prog w) A (ND a (.ref x) (rH prog w k)) Q E s:=by
  obtain⟨L,es,ep,t,ho,Bx,AS,A5,Ij,T,F6,EB,BD⟩:=hS;have hL:∀p∈L,ai prog w s.heap p.1 p.2:=λp hp=>(Ij p hp).up up;have hk:=GP.up up;have hlen:es.size=D.length:=by rw[<-i4,Bx,ek,<-ek (f:=NR) (as:=L),AS.length_eq]
  unfold ND QN;refine z8 (b4 (ti ho rfl T.fits ?_))
  dsimp only
  rw[show byScan (.ref x) es=cb from rfl];simp only[k9,Ra];unfold setSearch;have BS:=rU t.mask (rH prog w k);have MB:t.mask<=127:=by rcases EB with e|e|e<;>lia
  refine b4 (ny hu ho rfl T Bx hL hk (path t.mask (rH prog w k)).length 100000 (t.mask+14) (path t.mask (rH prog w k)) (t.probeStart (rH prog w k)) b6 (ke _) ?_ rfl uN BS rfl (T.free _) λpre j post e1 Br hj=>⟨λBI=>?_,λBI=>?_⟩)
  · unfold Kb at BS
    lia
  · dsimp only
    have E7:k∈D:=by
      obtain⟨m,_,i,b,_,e2,e3⟩:=BI;have:(rH prog w k,rd b)∈es.toList:=by obtain⟨q,z⟩:=l'.mp e2;rw[<-z];simp
      rw[Bx]at this;obtain⟨p,hp,z⟩:=lg.mp this;injection z with _ z
      injection z with z
      have:=hL p hp;rw[z]at this;rw[e3.inj this];exact AS.mem_iff.mp (lg.mpr ⟨p,hp,rfl⟩)
    have:=h s.heap (LP a s.heap) (by rw[Q8 E7];exact⟨L,es,ep,t,ho,Bx,AS,A5,Ij,T,F6,EB,BD⟩);rw[Q7 (λz=>z E7)]at this;exact c4 this
  · have GN:j∉t.place.toList:=λz=>by
      obtain⟨i,hi,e⟩:=FH.mp z;rw[dO T.Cs (i:=i) (l'.mpr ⟨by simpa using hi,by simpa using e⟩)]at hj;cases hj
    have E7:k∉D:=λz=>by
      obtain⟨p,hp,e⟩:=lg.mp (AS.mem_iff.mpr z);subst e;have LC:nv prog w p∈es.toList:=by rw[Bx];exact lg.mpr ⟨p,hp,rfl⟩
      obtain⟨i,hi,e⟩:=FH.mp LC;have BH:i<es.size:=by simpa using hi
      have LD:i<t.place.size:=by rw[T.sz];exact BH
      have hz:(t.place[i],nv prog w p)∈t.place.toList.zip es.toList:=by
        refine FH.mpr ⟨i,by simp;lia,?_⟩;rw[List.getElem_zip];exact Ml (by simp) e
      obtain⟨Cu,C1,f1,f2⟩:=T.E5 _ hz;have f1:path t.mask (rH prog w p.1)=Cu++t.place[i]::C1:=f1;have hm:=l0 (P:=(·∈t.place.toList)) (f1.symm.trans e1) f2 (by simp) GN;exact BI ⟨_,hm,i,p.2,y3 LD,l'.mpr ⟨BH,(by simpa using e:es[i]=nv prog w p)⟩,hL p hp⟩
    have E6:j<=t.mask:=kz (h:=rH prog w k) (by rw[e1];simp)
    dsimp only
    refine b4 (ti ho rfl T.fits ?_)
    dsimp only
    rw[xq T.dm]
    dsimp only
    have LF:es.size * 5<t.mask * 3:=by
      unfold M0 at F6;rw[T.fill]at F6;simpa using F6
    have BL:es.size+1<=t.mask:=by rcases EB with e|e|e<;>lia
    have hb:mx t.place j<=es.size:=by rw[<-T.sz];exact(eG (j:=j) T.Cs).1
    have T1:=T.put (v:=.ref x) (h:=rH prog w k) ⟨pre,post,e1,Br⟩ GN E6 BL;have A':=cw es (mx t.place j) (rH prog w k,rd x) hb;have eL:(C9 es (mx t.place j) (rH prog w k,rd x)).toList=(L.take (mx t.place j)++(k,x)::L.drop (mx t.place j)).map (nv prog w):=by
      rw[A',Bx,Ba,kT,List.map_take,List.map_drop];rfl
    have pL:(L.take (mx t.place j)++(k,x)::L.drop (mx t.place j)).Perm (L++[(k,x)]):=Np.trans (by rw[LQ];exact(NT _ _).symm);generalize hE:C9 es (mx t.place j) (rH prog w k,rd x)=AG at T1 eL;generalize hM:L.take (mx t.place j)++(k,x)::L.drop (mx t.place j)=L' at pL eL;have LG:AG.size=D.length+1:=by rw[<-i4,eL,ek,pL.length_eq,mh,<-ek (f:=NR) (as:=L),AS.length_eq];rfl
    have DZ:(L'.map (·.1)).Perm (D++[k]):=(pL.map _).trans (by rw[Ba];exact AS.append_right _);have JN:(D++[k]).Nodup:=by
      rw[FG]
      exact ⟨A5, by simp, fun y hy z hz => by have : z = k := by simpa using hz
                                              subst this;rintro rfl;exact E7 hy⟩
    have JO:∀p∈L',ai prog w h0 p.1 p.2:=λp hp=>by
      rcases oa.mp (pL.mem_iff.mp hp) with z|z
      · exact Ij p z
      · rw[ro.mp z];exact GP
    have CQ:∀h',A6 a s.heap h'->eI prog w h0 h' a led (D++[k])->Q b5 {s with heap:=h' }:=λh' sb hs=>by
      have:=h h' sb (by rw[Q9 E7];exact hs);rw[Q_ E7]at this;exact this
    have tail:∀(b:Bool) (t2:ED),t2={t with place:=C9 t.place (mx t.place j) j,plain:=b}->gi (ko prog w) A (do
        storeSet a AG t2
        if (!false&&t2.tooFull)=true then do
            setRelay a (SetTable.grown (es.size+1))
            pure true
          else pure b5) Q E s:=by
      intro b t2 Il;have T2:Tab t2 AG:=by rw[Il];exact T1.plain b
      have JP:t2.mask=t.mask:=by rw[Il]
      have JQ:t2.led=led:=by rw[Il];exact BD
      refine b4 (K' ho rfl ?_ (Lm (by show AG.size<4096;lia)));have Dd:(s.heap.update a (D5 AG t2)).get? a=a5 {cls:=.type "set",dict:=b6,data:=.set AG (ep+1) t2}:=by
        have:=vr (D5 AG t2) ho rfl;exact this
      have CT:=DD s.heap a (D5 AG t2);have F7:t2.tooFull=et (AG.size * 5 >= t.mask * 3):=by
        unfold M0;rw[T2.fill,JP]
      split
      · rename_i hc
        rw[Kk,P',F7,Q6]at hc;have F8:∃m',Mh (H4 (es.size+1))=m'+1/\GO m'/\AG.size * 5<m' * 3:=by
          rw[hlen];rcases EB with e|e|e
          · have:D.length=4:=by lia
            rw[this];exact⟨31,by decide +kernel,.inr (.inl rfl),by lia⟩
          · have:D.length=18:=by lia
            rw[this];exact⟨127,by decide +kernel,.inr (.inr rfl),by lia⟩
          · lia
        obtain⟨m',em,F9,A4⟩:=F8;unfold setRelay;refine b4 (b4 (ti Dd rfl T2.fits ?_))
        dsimp only
        rw [em, if_neg (by have : sizeLine = 16777216 := by decide
                           rcases F9 with z|z|z<;>lia)]
        unfold Nd;rw[em,Nat.add_sub_cancel];obtain⟨t3,order,r1,r2,r3,r4,r5,r6,r7⟩:=se (mask:=m') (finger:=t2.finger) (moves:=t2.movedTo m') (led:=t2.led) (plain:=t2.plain) (es:=AG) F9.good.1 F9.good.2 (by rcases F9 with z|z|z<;>lia);rw[r1]
        k_delta "reordered"
        dsimp only
        generalize hO:order.filterMap (AG[·]?)=EC at r2 r3;have JR:EC.size=AG.size:=by rw[<-i4,r2.length_eq,i4]
        rw[Q9 (by simp[JR])];refine b4 (c4 ?_)
        dsimp only
        refine K' Dd rfl ?_ (Lm (by show EC.size<4096;lia));have Dt:((s.heap.update a (D5 AG t2)).update a (D5 EC t3)).get? a=a5 {cls:=.type "set",dict:=b6,data:=.set EC (ep+1+1) t3}:=vr (D5 EC t3) Dd rfl;have Im:=DD (s.heap.update a (D5 AG t2)) a (D5 EC t3);rw[eL]at r2;obtain⟨L3,e3,p3⟩:=lZ (nv prog w) L' r2;refine c4 (CQ _ (CT.trans Im) ⟨L3,EC,_,t3,Dt,e3,(p3.map _).trans DZ,JN,λp hp=>JO p (p3.mem_iff.mp hp),r3,?_,by rw[r4];exact F9,by rw[r5];exact JQ⟩);unfold M0;rw[r3.fill,r4,JR];exact Q7 ⋯
      · rename_i hc
        rw[Kk,P']at hc;exact c4 (CQ _ CT ⟨L',AG,_,t2,Dd,eL,DZ,JN,JO,T2,Pc.mpr hc,by rw[JP];exact EB,JQ⟩)
    by_cases hp:t.plain=b5
    · rw[Q8 hp]
      refine b4 (jj hk ?_);simp only[k9,Ra];exact tail cb _ rfl
    · rw[Q9 hp]
      refine b4 (c4 ?_);simp only[if_true];exact tail t.plain _ rfl
end
abbrev l3(D:List bN)(x:bN):List bN:=if x∈D then D else D++[x]
abbrev bg(l:List bN):List bN:=l.foldl l3 []
def l4(l:List bN)(x:bN):bg (l++[x])=l3 (bg l) x:=by unfold bg;rw[Pb];rfl
theorem ib:∀(l D:List bN),(l.foldl l3 D).length<=D.length+l.length
 |[],D=>ke _
 |x::l,D=>by
  have:=ib l (l3 D x);have:(l3 D x).length<=D.length+1:=by
   unfold l3;split
   .lia
   .simp
  rw[GA,k4];lia
section
variable{prog:ve}{w:y1}{A:Gp}{R:Q1->gs->Prop}{I:hA}{fp wr:List hA}{G:Array PC->Array PC->Prop}{n:Nat}{P:Nat->eh->Prop}{St:Nat->gs->Prop}
def fO(W:Q0 prog w A.in1 I fp wr G n P St)(S:hA)(y:S∉fp)(led:Bool)(a:DW)(B:∀b∈S::wr,a.get? b=b6)(O:A.in1.units+2<y0)
  (ws:List (bN×hA)) (hn:ws.length=n) (Q:∀i v,P i v->∃q,ws[i]?=a5 q/\v=.ref q.2) (T:∀q∈ws,ai prog w a q.1 q.2) (d:n<=64) :
  ∀(k i:Nat) (s:gs),n - i=k->i<=n->St i s->eI prog w a s.heap S led (bg ((ws.take i).map (·.1)))->(∀b o,a.get? b=a5 o->s.heap.get? b=a5 o) ->
   (∀s',Moved (S::wr) G s s'->eI prog w a s'.heap S led (bg (ws.map (·.1)))->R (.ok (.ret .none)) s') ->
   Kw (ko prog w) A (.builtin "set.update.loop" ⟨[.ref S,.ref I],[]⟩) R s:=by
 have C:S∉wr:=λh=>y (W.sub _ h);have l:∀b∈wr,b∈S::wr:=λb d=>eu _ d;intro k;induction k with
 |zero =>
  intro i s hk Y m j D p;have BI:i=n:=by lia
  subst BI;show BQ Dl ?_;rw[DI tx _];change gi _ A.in1 (Kl (.ref I) >>= _) _ _ s;show b4 (W.done s _ _ m λs' f=>?_);change gi _ A.in1 (ret CA) _ _ s';rw[Em ⋯]at j;show c4 (p s' (f.mono l) (by
   have⟨L,es,ep,t,ho,c⟩:=j;show⟨L,es,ep,t,f.heap S _ C ho,c⟩))
 |succ k ih =>
  intro i s hk Y m j D p;have H:i<n:=by lia
  show BQ Dl ?_;rw[DI tx _];change gi _ A.in1 (Kl (.ref I) >>= _) _ _ s;show b4 (W.item i s _ _ H m λv s' hP En f=>?_);obtain⟨⟨x,g⟩,J,rfl⟩:=Q i v hP;have BV:eI prog w a s'.heap S led (bg ((ws.take i).map (·.1))):=by
   have⟨L,es,ep,tb,ho,c⟩:=j;show⟨L,es,ep,tb,f.heap S _ C ho,c⟩
  have r:∀b o,a.get? b=a5 o->s'.heap.get? b=a5 o:=λb o e=>f.heap b o (λz=>by rw[B b (l b z)]at e;cases e) (D b o e);have N:ai prog w a x g:=T (x,g) (DN J);change gi _ A.in1 (IX [rd g] (QO S (.ref g)) >>= _) _ _ s';show b4 (z8 ?_);unfold QO;show z8 ?_;show b4 (cE ⋯ (N.up r) ?_);have BZ:(bg ((ws.take i).map (·.1))).length<64:=by have:=ib ((ws.take i).map (·.1)) [];rw[ek,rr,Jr,Ni]at this;unfold bg;lia
  rw[y9];show nz (s:={s' with toks:=s'.toks+(x.2.length+3)}) BV r BZ O N λh' u E2=>?_;have HV:eI prog w a h' S led (bg ((ws.take (i+1)).map (·.1))):=by
   rw[Pa,J];change eI prog w a h' S led (bg ((ws.take i++[(x,g)]).map (·.1)));rw[Ba];change eI prog w a h' S led (bg ((ws.take i).map (·.1)++[x]));rw[l4];show E2
  show c4 ⟨Ly tx _,ih (i+1) _ ⋯ H (W.frame _ s' _ _ En (PM _ _) λb d o e=>?_) HV (λb o e=>?_) λEg Eo Ep=>?_⟩
  .rw[u.2 b (λh:b=S=>y (by rw[<-h];show d))];show e
  .change h'.get? b=a5 o;rw[u.2 b (λh:b=S=>by rw[h,B S gm]at e;cases e)];show r b o e
  .show p Eg (Ql W.gtrans ((f.mono l).then_heap (PM _ _) λb o d e=>?_) Eo) Ep;rw[u.2 b (λh:b=S=>d (by rw[h];show gm))];show e
end
section
def nA(b:h.get? a=a5 {cls:=.type "set",dict:=b6,data:=.set #[] 0 (.fresh 0 0 led)}):eI prog w f h a led [] :=
 ⟨[],#[],0,_,b,rfl,.nil,Ms,(λp c=>by cases c),⟨rfl,rfl,.nil,(λj d=>by cases d),pb _,vZ,(show(7:Nat) % 2=1 from rfl),λq e=>by cases e⟩,rfl,.inl rfl,rfl⟩
def jk{ws:List (bN×hA)}
  (L:s.TypeIs (.ref l) T) (HX:HM (.type T) (.type "set")=pure cb) (HY:HM (.type T) (.type "frozenset")=pure cb) (Bn:(wk T==wk "dict")=cb)
  (j:ws.length<=64) (hu:A.units+20<y0) (N:∀q∈ws,ai prog w s.heap q.1 q.2)
  (k:∀(s1:gs) (B:Gp) (Q':eh->gs->Prop),B.handled=A.handled->(∀b o,s.heap.get? b=a5 o->s1.heap.get? b=a5 o)->s.heap.objs.size<s1.heap.objs.size ->
   (∀I m n G P St a,Q0 prog w B.in1 I m n G ws.length P St->(∀g g',G g g'->g'=g)->s.heap.objs.size∉m->(∀b∈n,s.heap.objs.size<b)->(∀i v,P i v->∃q,ws[i]?=a5 q/\v=.ref q.2)->St 0 {s1 with heap:=a}->(∀b o,s1.heap.get? b=a5 o->a.get? b=a5 o)->Q' (.ref I) {s1 with heap:=a})->gi (ko prog w) B (M8 (.ref l)) Q' E s1)
  (h:∀(h':DW) (d:Nat),eI prog w s.heap h' s.heap.objs.size (aK w) (bg (ws.map (·.1)))->(∀b o,b<s.heap.objs.size->s.heap.get? b=a5 o->h'.get? b=a5 o)->Q (.ref s.heap.objs.size) {s with heap:=h',toks:=d}) :
  gi (ko prog w) A (Ja (.type "set") [.ref l]) Q E s:=by
 have⟨c,tl,HZ⟩:=PySem.F.called_set.mro;have B0:=PySem.F.called_set.made;have BO:=PySem.F.called_set.sub;show P5 (N_ ?_);change gi _ _ (callAny (.type "set") _) _ _ _;show c4 ⟨M4 _ (by decide +kernel),BQ PySem.F.entry_type_call ?_⟩;rw[Ov (Pd "set" [.ref l] []) rfl];have a:=PySem.F.called_set.notType;have h2:=PySem.F.called_set.canCreate;have Li:=PySem.F.typeCall_set_1 (.ref l)
 repeat (any_goals (first|assumption|wp_step))
 show I_ (d0 (.ref l) (E:=E) (Q₁:=λobj y=>obj=.ref s.heap.objs.size/\y={s with heap:=s.heap.push (fh (aK w))}) ⟨rfl,rfl⟩) λr y p=>?_;cases r with
 |error e=>show p
 |ok O =>
  cases O with
  |ret obj =>
   have⟨rfl,rfl⟩:=p;have C:(s.heap.push (fh (aK w))).get? s.heap.objs.size=a5 (fh (aK w)):=g0 _ rfl;have Y:Hv {s with heap:=s.heap.push (fh (aK w))} (.ref s.heap.objs.size) "set":=⟨_,C,rfl⟩
   have Lj:=PySem.F.called_set.init.lookup;have Lk:=PySem.F.called_set.init.bind (.ref s.heap.objs.size)
   repeat (any_goals (first|assumption|wp_step))
   show I_ (PB (R:=wants (λr D=>r=.none/\∃h' d,D={s with heap:=h',toks:=d} /\
     eI prog w s.heap h' s.heap.objs.size (aK w) (bg (ws.map (·.1))) /\
     (∀b o,b<s.heap.objs.size->s.heap.get? b=a5 o->h'.get? b=a5 o)) E) PySem.F.called_set.init.plain PySem.F.entry_set_init (Qq Y ?_)) λr₂ D t=>?_
   .have⟨ol,H0,H⟩:=L;have⟨H9,CU,CV,Cb⟩:=ol;simp only at H;subst H;have Es:(s.heap.push (fh (aK w))).get? l=a5 {cls:=.type T,dict:=CU,data:=CV,slots:=Cb}:=ea _ H0;have Ll:Hv {s with heap:=s.heap.push (fh (aK w))} (.ref l) T:=⟨_,Es,rfl⟩
    unfold JJ.«set.__init__» noKeywords LM;generalize H_:M8=PI
    wp_walk
    subst H_;show k {s with heap:=s.heap.push (fh (aK w))} _ _ rfl (λb o e=>ea _ e) (by rw[Hx];show Ji _) λI m n G P St a W hG hf J Ca AN hk=>?_;show b4 (M6 ?_);show fO W s.heap.objs.size hf (aK w) s.heap (λb j=>?_) ?_ ws rfl Ca N j (ws.length - 0) 0 _ ⋯ (pb _) AN (nA (hk _ _ C)) (λb o e=>hk _ _ (ea _ e)) ?_
    .have LH:s.heap.objs.size<=b:=by
      rcases fx.mp j with z|z
      .show Nj z.symm
      .show FO (J b z)
     cases q:s.heap.get? b with
     |none=>rfl
     |some o=>show absurd (hY q) (Nat.not_lt_of_le LH)
    .first|(change A.units+1+1+1+2<y0;lia)|(change A.units+3+2<y0;lia)
    intro s' f u;have⟨h',g',d',Ia,Fy⟩:=s';have eg:g'=s.gens:=hG _ _ f.gens;have ed:d'=s.drawn:=f.drawn;have eo:Fy=s.os:=f.os;subst eg;subst ed;subst eo;change gi _ _ _ _ _ _;show c4 ?_;change gi _ _ (ret CA) _ _ _;show c4 ⟨rfl,h',Ia,rfl,u,λb o x e=>?_⟩;show f.heap b o (λz=>by
     rcases fx.mp z with z|z
     .rw[z]at x;show AY _ x
     .show absurd (J b z) (PL x)) (hk _ _ (ea _ e))
   .cases r₂ with
    |error e=>show t
    |ok Ib =>
     cases Ib with
     |ret r =>
      have⟨rfl,h',d,rfl,u,BA⟩:=t
      repeat (any_goals (first|assumption|wp_step))
      show h _ _ u BA
     |_=>show t.elim
  |_=>show p.elim
def ic{ws:List (bN×hA)}(hh:A.handled=b6)(hl:s.heap.IsList l (ws.map λq=>rd q.2).toArray)(d:ws.length<=64)(j:A.units+20<y0)(k:∀q∈ws,ai prog w s.heap q.1 q.2)
  (h:∀(h':DW) (m:Nat),eI prog w s.heap h' s.heap.objs.size (aK w) (bg (ws.map (·.1)))->(∀b o,b<s.heap.objs.size->s.heap.get? b=a5 o->h'.get? b=a5 o)->Q (.ref s.heap.objs.size) {s with heap:=h',toks:=m}) :
  gi (ko prog w) A (Ja (.type "set") [.ref l]) Q E s:=by
 have g:l<s.heap.objs.size:=let ⟨o,ho,_⟩:=hl;hY ho;show jk hl.typeIs PySem.F.sub_list_set PySem.F.sub_list_frozenset (by decide) d j k (λs1 B Q' n hk f p=>?_) h;have B':s1.heap.IsList l (ws.map λq=>rd q.2).toArray:=let ⟨o,ho,r⟩:=hl;⟨o,hk _ _ ho,r⟩;show La B' ?_;have t:l≠s1.heap.objs.size:=l1 (LN g f);have W:=(OD (prog:=prog) (w:=w) (A:=B.in1) (by simp[n,hh]) s1.heap.objs.size l t (ws.map λq=>rd q.2).toArray).toS;have u:(ws.map λq=>rd q.2).toArray.size=ws.length:=by simp
 rw[u]at W;show p _ _ _ _ _ _ _ W (λ_ _ e=>e) (km (l1 f) (Er g)) (λb d=>by rw[ro.mp d];show f) (λi v c=>by
  have c:(ws.map λq=>rd q.2).toArray[i]?=a5 v:=c;rw[List.getElem?_toArray,nc,eH]at c;have⟨q,a,b⟩:=c;show⟨q,a,b.symm⟩) ⟨⟨_,g0 _ rfl,rfl,rfl⟩,B'.push _⟩ λb o e=>ea _ e
end
section
theorem jB:∀{ws:List (bN×hA)}{a:List eh},Vals (ws.map λq=>V.ref q.2) a->a=ws.map λq=>rd q.2
 |[],_,.nil=>rfl
 |q::ws,_,.cons r t=>by
  cases r;rw[jB t];rfl
def l5{ws:List (bN×hA)}(f:X.calm=b5)(n:X.A.units+60<y0)(I:Inv X a σ H s)(d:A_ X.K H p (ws.map λq=>V.ref q.2))(g:∀q∈ws,cG X.K H (.ref q.2) q.1)(i:ws.length<=64)
  (h:∀(S:hA) (h':DW) (c:Nat),eI X.prog X.w s.heap h' S (aK X.w) (bg (ws.map (·.1)))->Inv X a σ H {s with heap:=h',toks:=c}->Q (.ref S) {s with heap:=h',toks:=c}) :
  gi (ko X.prog X.w) X.A (Ja (.type "set") [.ref p]) Q X.xe s:=by
 have hh:X.A.handled=b6:=I.ok.hd f;have⟨r,j,l,hz⟩:=I.list d;obtain rfl:=jB j;show ic hh l.isList i ⋯ (λq d=>fe I (g q d)) λh' c m k=>h _ h' c m (I.kept λb o e=>k b o (hY e) e)
def l6(I:Inv X a σ H s)(c:eI X.prog X.w i s.heap S (aK X.w) D)
  (q:Q (.int D.length) H):gi (ko X.prog X.w) X.A (Ja (.builtin "len") [.ref S]) (EP X a σ Q) X.xe s:=by
 have⟨L,es,ep,t,ho,d,g,j,k,T,l,h,m⟩:=c;have b:es.size=D.length:=by rw[<-i4,d,ek,<-ek (f:=NR) (as:=L),g.length_eq]
 have n:es.size<4096:=by have:=T.Ci;rcases h with e|e|e<;>lia
 show call_len_set ho ⟨rfl,rfl,rfl⟩ rfl T.fits ⋯ ?_;show⟨.int es.size,_,I.kept (t':=s.toks+1+1) (λ_ _ e=>e),⟨_,rfl⟩,by rw[b];show q⟩
end
end L2
namespace L2
open PySem PySem.Spec PyProof.Rows
section
def sf:EW X "str.join" (λx xs H Q=>∃a p b,x=.str a/\xs=[.ref p]/\Bb X.K H p (b.map V.str)/\Kn a b=b5/\Q (.str (AV a b)) H):=by
 intro d s σ H x xs v us Q I f rs h;have⟨a,p,b,rfl,rfl,g,c,q⟩:=h;have⟨t,rfl⟩:=f;have⟨u,rfl,r⟩:=vals1 rs;cases r;have⟨z,i,j,hz⟩:=I.tuple g;have⟨l,rfl,e⟩:=cS i;subst e;unfold Kn at c;rw[CG]at c;have⟨o,m,w,n,y⟩:=j;show Hw F.slot_str_join (Iy _ _ _) F.entry_str_join (F.args_str_join_2 _ _) (meets_str_join_tuple a t p l c) ⟨⟨o,n,m,w,y⟩,post_join l ⟨joinFit_length c,λt' k=>⟨.str _,H,I.tok k,⟨_,rfl⟩,q⟩⟩⟩
def jm:dY X (.builtin "repr") (λxs H Q=>∃x,xs=[.str x]/\(M7 x).length<=df/\Q (.str (M7 x)) H):=by
 intro a s σ H xs us Q I rs h;have⟨x,rfl,hl,q⟩:=h;have⟨u,rfl,r⟩:=vals1 rs;have⟨t,rfl⟩:=r;show P.repr_of_str ⟨.str _,H,I.tok _,⟨_,rfl⟩,q⟩ hl
end
end L2
namespace TM
open PySem L2
inductive U where
 |AM|bl (b:Bool)|int (i:Int)|str (x:Str)
 |tup (xs:List U)|lst (xs:List U)
 |Bo (ks:List Str) (vs:List U)|Bc (ks:List bN)
mutual
noncomputable def A9:U->Bool
 |.tup xs=>fm xs
 |.lst _=>cb
 |.Bo _ _=>cb
 |.Bc _=>cb
 |.AM=>b5|.bl _=>b5|.int _=>b5|.str _=>b5
noncomputable def fm:List U->Bool
 |[]=>b5
 |u::us=>A9 u&&fm us
end
inductive Kd where|own|io|loc|any|bor (j:Nat)|AK
deriving DecidableEq
abbrev Kd.root:Kd->Bool
 |.own=>b5
 |.io=>b5
 |_=>cb
@[reducible]def aq:=List (Option (Kd×U))
structure Ct where
 P:ve
 w:y1
 K:PySem.W.Frag
 H₀:Hp
 Dh:hA->Prop
 IO:hA->Prop
abbrev KL(K:PySem.W.Frag)(a:hA)(xs:List V):Prop :=
 ∃(o:Obj) (b:Array eh) (n:Nat),K.lookup a=a5 o/\o.cls=.type "list"/\o.dict=b6/\o.data=.seq b n/\b.size<=df/\Vals xs b.toList
abbrev F'(K:PySem.W.Frag)(S:hA->Prop)(H:Hp)(a:hA)(b:List V):Prop:=(S a/\Rd H a (.lst b))\/KL K a b
def F'.sq(h:F' K S H a b):A_ K H a b:=h.elim (λz=>.inl z.2) .inr
abbrev D0(H:Hp)(R:List V->Prop)(a:hA)(c:List Str):Prop:=∃b:List (Key×V),H a=a5 (.dK b)/\b.map (·.1)=c.map DM/\R (b.map (·.2))
section
variable(C:Ct)(S:hA->Prop)(H:Hp)
mutual
def Rep:U->V->Prop
 |.AM,v=>v=.AM
 |.bl b,v=>v=.bl b
 |.int i,v=>v=.int i
 |.str x,v=>v=.str x
 |.tup us,v=>∃a c,v=.ref a/\Bb C.K H a c/\ag us c
 |.lst us,v=>∃a c,v=.ref a/\F' C.K S H a c/\ag us c
 |.Bo d us,v=>∃a,v=.ref a/\S a/\D0 H (ag us) a d
 |.Bc d,v=>∃a,v=.ref a/\S a/\da C.P C.w C.K H a d
def ag:List U->List V->Prop
 |[],a=>a=[]
 |u::us,a=>∃v r,a=v::r/\Rep u v/\ag us r
end
end
def Tp:HO->Prop
 |.tup _=>True
 |.Cq _ (.tup _)=>True
 |_=>False
structure Mv(S:hA->Prop)(H:Hp)(S':hA->Prop)(H':Hp):Prop where
 sub:∀a,S a->S' a
 GQ:∀a o,H a=a5 o->Tp o->H' a=a5 o
 GR:∀a o,S a->H a=a5 o->H' a=a5 o
def Mv.Io(m:Mv S H S' H')(h:Bb K H a b):Bb K H' a b:=by
 rcases h with(h|⟨o,h⟩)|h
 .show .inl (.inl (m.GQ a _ h trivial))
 .show .inl (.inr ⟨o,m.GQ a _ h trivial⟩)
 .show .inr h
def Mv.LI(m:Mv S H S' H')(h:F' K S H a b):F' K S' H' a b:=by
 rcases h with⟨s,h|⟨o,h⟩⟩|h
 .show .inl ⟨m.sub a s,.inl (m.GR a _ s h)⟩
 .show .inl ⟨m.sub a s,.inr ⟨o,m.GR a _ s h⟩⟩
 .show .inr h
def Mv.row(m:Mv S H S' H')(h:cG K H v r):cG K H' v r :=
 let ⟨a,b,e,c,d⟩:=h;⟨a,b,e,m.Io c,m.Io d⟩
def D0.mv(c:∀o,H a=a5 o->H' a=a5 o)(d:∀b,R b->e b)(h:D0 H R a f):D0 H' e a f :=
 let ⟨g,i,j,k⟩:=h;⟨g,c _ i,j,d _ k⟩
def Mv.oW(m:Mv S H S' H')(b:∀o,H a=a5 o->H' a=a5 o)(h:da P w K H a c):da P w K H' a c :=
 let ⟨xs,d,e,f⟩:=h;⟨xs,b _ d,e,λx g=>m.row (f x g)⟩
section
mutual
theorem Rep.D1(m:Mv S H S' H'):∀(u:U) (v:V),Rep C S H u v->Rep C S' H' u v
 |.AM,_,h=>h
 |.bl _,_,h=>h
 |.int _,_,h=>h
 |.str _,_,h=>h
 |.tup us,v,h=>by
  have⟨a,c,e,b,d⟩:=h;show⟨a,c,e,m.Io b,ag.D1 m us c d⟩
 |.lst us,v,h=>by
  have⟨a,c,e,b,d⟩:=h;show⟨a,c,e,m.LI b,ag.D1 m us c d⟩
 |.Bo f us,v,h=>by
  have⟨a,e,b,d⟩:=h;show⟨a,e,m.sub a b,d.mv (λo q=>m.GR a o b q) λc q=>ag.D1 m us c q⟩
 |.Bc f,v,h=>by
  have⟨a,e,b,d⟩:=h;show⟨a,e,m.sub a b,m.oW (λo q=>m.GR a o b q) d⟩
theorem ag.D1(m:Mv S H S' H'):∀(us:List U) (a:List V),ag C S H us a->ag C S' H' us a
 |[],_,h=>h
 |u::us,a,h=>by
  have⟨v,r,e,b,c⟩:=h;show⟨v,r,e,Rep.D1 m u v b,ag.D1 m us r c⟩
end
mutual
theorem Rep.qv:∀(u:U) (v:V),A9 u=b5->Rep C S H u v->Rep C S' H u v
 |.AM,_,_,h=>h
 |.bl _,_,_,h=>h
 |.int _,_,_,h=>h
 |.str _,_,_,h=>h
 |.tup us,v,i,h=>by
  have⟨a,b,e,c,d⟩:=h;show⟨a,b,e,c,ag.qv us b (by simpa[TM.A9] using i) d⟩
 |.lst us,v,i,h=>by simp[TM.A9]at i
 |.Bo f us,v,i,h=>by simp[TM.A9]at i
 |.Bc f,v,i,h=>by simp[TM.A9]at i
theorem ag.qv:∀(us:List U) (a:List V),fm us=b5->ag C S H us a->ag C S' H us a
 |[],_,_,h=>h
 |u::us,a,i,h=>by
  have⟨v,r,e,c,d⟩:=h;have b:TM.A9 u=b5/\fm us=b5:=by simpa[fm] using i
  show⟨v,r,e,Rep.qv u v b.1 c,ag.qv us r b.2 d⟩
end
def Rep.mv(m:Mv S H S' H')(h:Rep C S H u v):Rep C S' H' u v:=Rep.D1 m u v h
def ag.mv(m:Mv S H S' H')(h:ag C S H us a):ag C S' H' us a:=ag.D1 m us a h
def Rep.A9(i:TM.A9 u=b5)(h:Rep C S H u v):Rep C S' H u v:=Rep.qv u v i h
def ag.A9(i:fm us=b5)(h:ag C S H us a):ag C S' H us a:=ag.qv us a i h
def Mv.up(sub:∀a,S a->S' a):Mv S H S' H:=⟨sub,λ_ _ h _=>h,λ_ _ _ h=>h⟩
theorem ag.len:∀{us:List U}{a:List V},ag C S H us a->us.length=a.length
 |[],_,h=>by cases h;rfl
 |u::us,a,h=>by
  obtain⟨v,r,rfl,_,b⟩:=h;rw[k4,k4,ag.len b]
theorem ag.get:∀{us:List U}{a:List V}{i:Nat}{u:U},ag C S H us a->us[i]?=a5 u->∃v,a[i]?=a5 v/\Rep C S H u v
 |[],_,_,_,_,e=>by simp at e
 |u::us,a,0,w,h,e=>by
  obtain⟨v,r,rfl,b,_⟩:=h;simp at e;subst e;show⟨v,rfl,b⟩
 |u::us,a,i+1,w,h,e=>by
  obtain⟨v,r,rfl,_,c⟩:=h;have⟨d,f,h'⟩:=ag.get (i:=i) (u:=w) c (by simpa using e);show⟨d,by simpa using f,h'⟩
theorem ag.append:∀{us ws:List U}{b a:List V},ag C S H us b->ag C S H ws a->ag C S H (us++ws) (b++a)
 |[],_,_,_,h,h'=>by cases h;show h'
 |u::us,ws,b,a,h,h'=>by
  have⟨v,r,rfl,c,d⟩:=h;show⟨v,r++a,rfl,c,d.append h'⟩
theorem ag.take:∀{us:List U}{a:List V} (n:Nat),ag C S H us a->ag C S H (us.take n) (a.take n)
 |_,_,0,_=>by simp[ag]
 |[],_,n+1,h=>by cases h;simp[ag]
 |u::us,a,n+1,h=>by
  have⟨v,r,rfl,b,c⟩:=h;show⟨v,r.take n,rfl,b,c.take n⟩
theorem ag.drop:∀{us:List U}{a:List V} (n:Nat),ag C S H us a->ag C S H (us.drop n) (a.drop n)
 |_,_,0,h=>h
 |[],_,n+1,h=>by cases h;simp[ag]
 |u::us,a,n+1,h=>by
  have⟨v,r,rfl,c,b⟩:=h;show b.drop n
theorem ag.set:∀{us:List U}{a:List V} (n:Nat) {u:U}{v:V},ag C S H us a->Rep C S H u v->ag C S H (us.set n u) (a.set n v)
 |[],_,n,_,_,h,_=>by cases h;simp[ag]
 |u::us,a,0,_,_,h,h'=>by
  have⟨v,r,rfl,c,b⟩:=h;show⟨_,r,rfl,h',b⟩
 |u::us,a,n+1,_,_,h,h'=>by
  have⟨v,r,rfl,c,b⟩:=h;show⟨v,_,rfl,c,b.set n h'⟩
def ag.snoc(h:ag C S H us a)(h':Rep C S H u v):ag C S H (us++[u]) (a++[v]):=h.append ⟨v,[],rfl,h',rfl⟩
theorem ag.strs:∀{xs:List Str}{a:List V},ag C S H (xs.map .str) a↔a=xs.map V.str
 |[],a=>by simp[ag]
 |x::xs,a=>by
  constructor
  .rintro⟨v,r,rfl,b,c⟩;rw[ag.strs.mp c];have:v=.str x:=b;rw[this];rfl
  .rintro rfl;show⟨_,_,rfl,rfl,ag.strs.mpr rfl⟩
end
structure Ct.Eqv(C C':Ct):Prop where
 P:C.P=C'.P
 w:C.w=C'.w
 K:C.K=C'.K
section
mutual
theorem Rep.D2(q:C.Eqv f):∀(u:U) (v:V),Rep C S H u v->Rep f S H u v
 |.AM,_,h=>h
 |.bl _,_,h=>h
 |.int _,_,h=>h
 |.str _,_,h=>h
 |.tup us,v,h=>by
  have⟨a,b,e,c,d⟩:=h;show⟨a,b,e,q.K▸c,ag.D2 q us b d⟩
 |.lst us,v,h=>by
  have⟨a,b,e,c,d⟩:=h;show⟨a,b,e,q.K▸c,ag.D2 q us b d⟩
 |.Bo g us,v,h=>by
  have⟨a,e,c,d⟩:=h;show⟨a,e,c,d.mv (λ_ q=>q) λb z=>ag.D2 q us b z⟩
 |.Bc g,v,h=>by
  have⟨a,e,c,d⟩:=h;show⟨a,e,c,by rw[<-q.P,<-q.w,<-q.K];show d⟩
theorem ag.D2(q:C.Eqv b):∀(us:List U) (a:List V),ag C S H us a->ag b S H us a
 |[],_,h=>h
 |u::us,a,h=>by
  have⟨v,r,e,c,d⟩:=h;show⟨v,r,e,Rep.D2 q u v c,ag.D2 q us r d⟩
end
def Rep.cg(q:C.Eqv a)(h:Rep C S H u v):Rep a S H u v:=Rep.D2 q u v h
def ag.cg(q:C.Eqv b)(h:ag C S H us a):ag b S H us a:=ag.D2 q us a h
end
def cf(C:Ct)(S:hA->Prop)(H:Hp)(r:hA):U->Prop
 |.lst us=>∃b,H r=a5 (.lst b)/\ag C S H us b
 |.Bo a us=>D0 H (ag C S H us) r a
 |.Bc a=>da C.P C.w C.K H r a
 |_=>False
def cf.mv(m:Mv S H S' H')(a:∀o,H r=a5 o->H' r=a5 o)(h:cf C S H r u):cf C S' H' r u:=by
 cases u with
 |lst us=>have⟨b,c,d⟩:=h;show⟨b,a _ c,d.mv m⟩
 |Bo e us=>show D0.mv a (λb q=>q.mv m) h
 |Bc e=>show m.oW a h
 |_=>show h
def cf.rep(hs:∀a,S a->S' a)(b:S' r)(h:cf C S H r u):Rep C S' H u (.ref r):=by
 cases u with
 |lst us=>have⟨c,d,e⟩:=h;show⟨r,c,rfl,.inl ⟨b,.inl d⟩,e.mv (.up hs)⟩
 |Bo f us=>show⟨r,rfl,b,D0.mv (λ_ q=>q) (λc q=>q.mv (.up hs)) h⟩
 |Bc f=>show⟨r,rfl,b,h⟩
 |_=>show h.elim
def cf.cg(q:C.Eqv b)(h:cf C S H r u):cf b S H r u:=by
 cases u with
 |lst us=>have⟨a,c,d⟩:=h;show⟨a,c,d.cg q⟩
 |Bo e us=>show D0.mv (λ_ q=>q) (λa z=>z.cg q) h
 |Bc e=>change da _ _ _ _ _ _;rw[<-q.P,<-q.w,<-q.K];show h
 |_=>show h
def cf.some(h:cf C S H r u):∃o,H r=a5 o/\¬Tp o:=by
 cases u with
 |lst us=>obtain⟨c,a,_⟩:=h;show⟨_,a,λz=>z⟩
 |Bo b us=>obtain⟨d,a,_⟩:=h;show⟨_,a,λz=>z⟩
 |Bc b=>obtain⟨xs,a,_⟩:=h;show⟨_,a,λz=>z⟩
 |_=>show h.elim
structure Cf where
 S:hA->Prop
 H:Hp
 σ:St
 st:aq
 kid:Nat->List hA
abbrev Cf.R1(c:Cf)(a:hA):Prop:=∃(j:Nat) (k:Kd) (u:U),k.root=b5/\c.st[j]?=a5 (a5 (k,u))/\c.σ[j]?=a5 (a5 (.ref a))
abbrev Cf.RD(c:Cf)(j:Nat)(a:hA):Prop:=∃(u:U) (r:hA),c.st[j]?=a5 (a5 (.AK,u))/\c.σ[j]?=a5 (a5 (.ref r))/\(a=r\/a∈c.kid j)
abbrev Cf.R(c:Cf)(a:hA):Prop:=c.R1 a\/∃j,c.RD j a
abbrev PS(C:Ct)(S:hA->Prop):hA->Prop:=λa=>C.Dh a\/S a
def du(C:Ct)(S:hA->Prop)(H:Hp):Kd->U->V->Prop
 |.own,u,v=>∃r,v=.ref r/\¬S r/\¬C.Dh r/\C.H₀ r=b6/\cf C S H r u
 |.io,u,v=>∃r,v=.ref r/\¬S r/\¬C.Dh r/\C.IO r/\cf C S H r u
 |.loc,u,v=>Rep C S H u v
 |.any,u,v=>Rep C (PS C S) H u v
 |.bor _,_,_=>False
 |.AK,_,v=>∃r,v=.ref r
def kC(C:Ct)(S:hA->Prop)(H:Hp):List U->List hA->Prop
 |[],as=>as=[]
 |u::us,as=>∃a b c d,as=a::b/\u=.lst c/\H a=a5 (.lst d)/\ag C S H c d/\kC C S H us b
def dv(C:Ct)(S:hA->Prop)(H:Hp)(r:hA)(as:List hA):U->Prop
 |.Bo c us=>∃b:List (Key×V),H r=a5 (.dK b)/\b.map (·.1)=c.map DM/\b.map (·.2)=as.map V.ref/\(r::as).Nodup/\(∀a∈r::as,¬S a/\¬C.Dh a/\C.H₀ a=b6)/\kC C S H us as
 |_=>False
structure CF(C:Ct)(c:Cf):Prop where
 kd:∀(j:Nat) (u:U) (r:hA),c.st[j]?=a5 (a5 (.AK,u))->c.σ[j]?=a5 (a5 (.ref r))->dv C c.S c.H r (c.kid j) u
 dj:∀(i j:Nat) (a:hA),c.RD i a->c.RD j a->i=j
 d1:∀(j:Nat) (a:hA),c.RD j a->¬c.R1 a
structure Ok(C:Ct)(c:Cf):Prop where
 same:∀a o,C.H₀ a=a5 o->¬C.IO a->c.H a=a5 o
 Cv:∀a,c.S a->C.H₀ a=b6/\∃o,c.H a=a5 o
 par:∀a,C.Dh a->(∃o,C.H₀ a=a5 o)/\¬C.IO a
 io:∀a,C.IO a->(∃o,C.H₀ a=a5 o)/\∃o,c.H a=a5 o
 len:c.st.length=c.σ.length
 sl:∀(i:Nat) (k:Kd) (u:U),c.st[i]?=a5 (a5 (k,u))->∃v,c.σ[i]?=a5 (a5 v)/\du C c.S c.H k u v
 inj:∀(i j:Nat) (k k':Kd) (u u':U) (r:hA),k.root=b5->k'.root=b5->c.st[i]?=a5 (a5 (k,u))->c.st[j]?=a5 (a5 (k',u'))->c.σ[i]?=a5 (a5 (.ref r))->c.σ[j]?=a5 (a5 (.ref r))->i=j
 dd:CF C c
structure Ns(c c':Cf):Prop where
 keep:∀a o,c.H a=a5 o->¬c.R a->c'.H a=a5 o
 there:∀a o,c.H a=a5 o->∃o',c'.H a=a5 o'
 roots:∀a,c'.R a->c.R a\/c.H a=b6
 sub:∀a,c.S a->c'.S a
 new:∀a,c'.S a->c.S a\/c.R a\/c.H a=b6
section
def Ns.refl(c:Cf):Ns c c:=⟨λ_ _ h _=>h,λ_ o h=>⟨o,h⟩,λ_ h=>.inl h,λ_ h=>h,λ_ h=>.inl h⟩
def Ns.none(n:Ns c b)(h:b.H a=.none):c.H a=.none:=by
 cases e:c.H a with
 |none=>rfl
 |some o=>have⟨d,q⟩:=n.there a o e;rw[h]at q;cases q
def Ns.trans(m:Ns c d)(n:Ns d e):Ns c e where
 keep:=λa o h b=>by
  show n.keep a o (m.keep a o h b) λz=>?_;rcases m.roots a z with z|z
  .show b z
  .rw[h]at z;cases z
 there:=λa o h=>let ⟨f,h'⟩:=m.there a o h;n.there a f h'
 roots:=λa h=>by
  rcases n.roots a h with z|z
  .show m.roots a z
  .show .inr (m.none z)
 sub:=λa h=>n.sub a (m.sub a h)
 new:=λa h=>by
  rcases n.new a h with z|z|z
  .show m.new a z
  .rcases m.roots a z with z|z
   .show .inr (.inl z)
   .show .inr (.inr z)
  .show .inr (.inr (m.none z))
def du.rt(hk:k.root=b5)(h:du C S H k u v):∃r,v=.ref r/\¬S r/\¬C.Dh r/\(C.H₀ r=b6\/C.IO r)/\cf C S H r u:=by
 cases k with
 |own=>have⟨r,a,b,c,d,e⟩:=h;show⟨r,a,b,c,.inl d,e⟩
 |io=>have⟨r,a,b,c,d,e⟩:=h;show⟨r,a,b,c,.inr d,e⟩
 |_=>cases hk
theorem kC.mem:∀{us:List U}{as:List hA}{a:hA},kC C S H us as->a∈as->∃b,H a=a5 (.lst b)
 |[],as,a,h,ha=>by cases h;cases ha
 |u::us,as,a,h,ha=>by
  obtain⟨e,f,g,b,rfl,_,c,_,d⟩:=h;rcases fx.mp ha with rfl|ha
  .show⟨b,c⟩
  .show kC.mem d ha
theorem kC.mv(m:Mv S H S' H'):∀{us:List U}{as:List hA},(∀a∈as,∀o,H a=a5 o->H' a=a5 o)->kC C S H us as->kC C S' H' us as
 |[],as,_,h=>h
 |u::us,as,b,h=>by
  have⟨a,c,d,f,rfl,e,g,i,j⟩:=h;show⟨a,c,d,f,rfl,e,b a (by simp) _ g,i.mv m,kC.mv m (λa k=>b a (by simp[k])) j⟩
def dv.fr(h:dv C S H r as u):∀a∈r::as,¬S a/\¬C.Dh a/\C.H₀ a=b6:=by
 cases u<;>first|show h.elim|(obtain⟨c,_,_,_,_,b,_⟩:=h;show b)
def dv.there(h:dv C S H r as u):∀a∈r::as,∃o,H a=a5 o/\¬Tp o:=by
 cases u<;>first|show h.elim|skip
 obtain⟨d,b,_,_,_,_,c⟩:=h;intro a ha;rcases fx.mp ha with rfl|ha
 .show⟨_,b,λz=>z⟩
 .have⟨f,e⟩:=c.mem ha;show⟨_,e,λz=>z⟩
def dv.mv(m:Mv S H S' H')(c:∀a∈r::as,¬S' a/\∀o,H a=a5 o->H' a=a5 o)(h:dv C S H r as u):dv C S' H' r as u:=by
 cases u<;>first|show h.elim|skip
 have⟨d,e,f,g,i,j,k⟩:=h;show⟨d,(c r (by simp)).2 _ e,f,g,i,λa b=>⟨(c a b).1,(j a b).2⟩,k.mv m λa b=>(c a (by simp[b])).2⟩
def CF.of(d:CF C c)(hk:e.kid=c.kid)(p:∀(j:Nat) (u:U),e.st[j]?=a5 (a5 (.AK,u))->c.st[j]?=a5 (a5 (.AK,u))/\e.σ[j]?=c.σ[j]?)(s:∀a,e.R1 a->c.R1 a\/∀j,¬c.RD j a)
  (m:Mv c.S c.H e.S e.H) (t:∀j a,c.RD j a->¬e.S a/\∀o,c.H a=a5 o->e.H a=a5 o):CF C e:=by
 have b:∀j a,e.RD j a->c.RD j a:=λj a v=>by
  have⟨u,r,k,f,q⟩:=v;have⟨g,l⟩:=p j u k;rw[l]at f;rw[hk]at q;show⟨u,r,g,f,q⟩
 show⟨λj u r k f=>?_,λi j a h n=>d.dj i j a (b i a h) (b j a n),λj a h n=>?_⟩
 .have⟨g,l⟩:=p j u k;rw[l]at f;rw[hk];show dv.mv m (λa w=>t j a ⟨u,r,g,f,fx.mp w⟩) (d.kd j u r g f)
 .rcases s a n with z|z
  .show d.d1 j a (b j a h) z
  .show z j (b j a h)
def CF.hs(d:CF C c)(m:Mv c.S c.H S' H')(b:∀j a,c.RD j a->¬S' a/\∀o,c.H a=a5 o->H' a=a5 o):CF C {c with H:=H',S:=S' } :=
 d.of rfl (λ_ _ e=>⟨e,rfl⟩) (λ_ z=>.inl z) m b
def Ok.root(ok:Ok C c)(h:c.R r):¬c.S r/\¬C.Dh r/\(C.H₀ r=b6\/C.IO r)/\∃o,c.H r=a5 o/\¬Tp o:=by
 rcases h with⟨j,k,u,hk,b,d⟩|⟨j,u,f,b,d,a⟩
 .have⟨v,e,hs⟩:=ok.sl j _ _ b;have⟨f,ev,a,i,l,m⟩:=hs.rt hk;rw[d]at e;cases e;cases ev;show⟨a,i,l,m.some⟩
 .have g:=ok.dd.kd j u f b d;have⟨n,p,q⟩:=dv.fr g r (fx.mpr a);show⟨n,p,.inl q,dv.there g r (fx.mpr a)⟩
def Ok.mv(ok:Ok C c)(n:Ns c b):Mv c.S c.H b.S b.H:=⟨n.sub,λa o h t=>n.keep a o h λz=>by
  obtain⟨_,_,_,e,h',d⟩:=ok.root z;rw[h]at h';cases h';show d t,λa o s h=>n.keep a o h λz=>(ok.root z).1 s⟩
def Ok.E9(ok:Ok C c)(n:Ns c b):Mv (PS C c.S) c.H (PS C b.S) b.H:=⟨λa h=>h.imp id (n.sub a),(ok.mv n).GQ,λa o s h=>n.keep a o h λz=>by
  rcases s with s|s
  .show(ok.root z).2.1 s
  .show(ok.root z).1 s⟩
def Ok.nB(ok:Ok C c)(h:c.H p=b6):C.H₀ p=b6/\¬c.S p/\¬C.Dh p/\¬C.IO p/\¬c.R p:=by
 have a:¬C.IO p:=λz=>by obtain⟨_,o,q⟩:=ok.io p z;rw[h]at q;cases q
 have b:C.H₀ p=b6:=by
  cases e:C.H₀ p with
  |none=>rfl
  |some o=>have:=ok.same p o e a;rw[h]at this;cases this
 show⟨b,λz=>?_,λz=>?_,a,λz=>?_⟩
 .obtain⟨_,o,q⟩:=ok.Cv p z;rw[h]at q;cases q
 .obtain⟨⟨o,q⟩,_⟩:=ok.par p z;rw[b]at q;cases q
 .obtain⟨_,_,_,o,q,_⟩:=ok.root z;rw[h]at q;cases q
def du.mv(m:Mv S H S' H')(i:Mv (PS C S) H (PS C S') H')(g:k.root=b5->∀r,v=.ref r->¬S' r/\∀o,H r=a5 o->H' r=a5 o)(h:du C S H k u v):du C S' H' k u v:=by
 cases k with
 |own =>
  have⟨r,e,l,a,b,c⟩:=h;have⟨d,f⟩:=g rfl r e;show⟨r,e,d,a,b,c.mv m f⟩
 |io =>
  have⟨r,e,l,a,b,c⟩:=h;have⟨d,f⟩:=g rfl r e;show⟨r,e,d,a,b,c.mv m f⟩
 |loc=>show Rep.mv m h
 |any=>show Rep.mv i h
 |bor j=>show h.elim
 |AK=>show h
structure Nx(c c':Cf):Prop extends Ns c c' where
 all:∀a o,c.H a=a5 o->c'.H a=a5 o
instance {c a:Cf}:Coe (Nx c a) (Ns c a):=⟨Nx.toNs⟩
def Nx.refl(c:Cf):Nx c c:=⟨.refl c,λ_ _ h=>h⟩
def Nx.trans(m:Nx c b)(n:Nx b d):Nx c d:=⟨m.toNs.trans n.toNs,λa o h=>n.all a o (m.all a o h)⟩
def Nx.none(n:Nx c b)(h:b.H a=.none):c.H a=.none:=n.toNs.none h
def Ok.lay(ok:Ok C c)(h:c.H p=b6):Ok C {c with H:=upd c.H p o}/\Nx c {c with H:=upd c.H p o}:=by
 have l:∀{a:hA} {b:HO},c.H a=a5 b->a≠p:=λe z=>by subst z;rw[h]at e;cases e
 have d:∀a b,c.H a=a5 b->(upd c.H p o) a=a5 b:=λa b e=>by rw[az (l e)];show e
 have nx:Nx c {c with H:=upd c.H p o}:=⟨⟨λa b e _=>d a b e,λa b e=>⟨b,d a b e⟩,λa z=>.inl z,λ_ z=>z,λ_ z=>.inl z⟩,d⟩
 show⟨⟨λa b e z=>d a b (ok.same a b e z),λa z=>⟨(ok.Cv a z).1,let ⟨b,q⟩:=(ok.Cv a z).2;⟨b,d a b q⟩⟩,ok.par,λa z=>⟨(ok.io a z).1,let ⟨b,q⟩:=(ok.io a z).2;⟨b,d a b q⟩⟩,ok.len,λi k u e=>?_,ok.inj,ok.dd.hs (ok.mv nx.toNs) λj a z=>⟨(ok.root (.inr ⟨j,z⟩)).1,λb e=>d a b e⟩⟩,nx⟩;have⟨v,m,f⟩:=ok.sl i k u e;show⟨v,m,f.mv (ok.mv nx.toNs) (ok.E9 nx.toNs) λhk r n=>?_⟩;obtain⟨t,g,s,_⟩:=f.rt hk;rw[n]at g;cases g;show⟨s,λb e=>d r b e⟩
def Ok.grow(ok:Ok C c)(hs:yY c.H H')(g:∀a,S' a->c.S a\/(c.H a=b6/\∃o,H' a=a5 o))(p:∀a,c.S a->S' a):Ok C {c with H:=H',S:=S' }/\Nx c {c with H:=H',S:=S' }:=by
 have nx:Nx c {c with H:=H',S:=S' }:=⟨⟨λa b e _=>hs a b e,λa b e=>⟨b,hs a b e⟩,λa z=>.inl z,p,λa z=>(g a z).imp id λq=>.inr q.1⟩,hs⟩
 show⟨⟨λa b e z=>hs a b (ok.same a b e z),λa z=>?_,ok.par,λa z=>⟨(ok.io a z).1,let ⟨b,q⟩:=(ok.io a z).2;⟨b,hs a b q⟩⟩,ok.len,λi k u e=>?_,ok.inj,ok.dd.hs (ok.mv nx.toNs) λj a z=>⟨λd=>?_,λb e=>hs a b e⟩⟩,nx⟩
 rotate_left 2
 .obtain⟨f,_,_,o,h,_⟩:=ok.root (.inr ⟨j,z⟩);rcases g a d with d|⟨d,_⟩
  .show f d
  .rw[h]at d;cases d
 .rcases g a z with q|⟨f,l⟩
  .show⟨(ok.Cv a q).1,let ⟨b,q⟩:=(ok.Cv a q).2;⟨b,hs a b q⟩⟩
  .show⟨(ok.nB f).1,l⟩
 .have⟨v,s,m⟩:=ok.sl i k u e;show⟨v,s,m.mv (ok.mv nx.toNs) (ok.E9 nx.toNs) λhk r t=>?_⟩;have⟨w,n,f,l,x,h⟩:=m.rt hk;rw[t]at n;cases n;obtain⟨o,ho,_⟩:=h.some;show⟨λz=>?_,λb e=>hs r b e⟩;rcases g r z with z|⟨z,_⟩
  .show f z
  .rw[z]at ho;cases ho
def ay(C:Ct)(a c:Cf):Kd->U->V->Prop
 |.own,u,v=>∃r,v=.ref r/\a.H r=b6/\¬c.S r/\¬c.R r/\cf C c.S c.H r u
 |.loc,u,v=>Rep C c.S c.H u v
 |.any,u,v=>Rep C (PS C c.S) c.H u v
 |.bor j,u,v=>(∃k:Kd,k.root=b5/\c.st[j]?=a5 (a5 (k,u)))/\c.σ[j]?=a5 (a5 v)
 |.io,_,_=>False
 |.AK,_,_=>False
def dw(C:Ct)(a c:Cf):Kd->U->V->Prop
 |.own,u,v=>∃r,v=.ref r/\a.H r=b6/\¬c.S r/\¬c.R r/\cf C c.S c.H r u
 |.loc,u,v=>Rep C c.S c.H u v
 |.any,u,v=>Rep C (PS C c.S) c.H u v
 |.bor j,u,v=>c.σ[j]?=a5 (a5 v)
 |.io,_,_=>False
 |.AK,_,_=>False
def ay.w(h:ay C a c k u v):dw C a c k u v:=by
 cases k with
 |bor j=>show h.2
 |_=>show h
def dw.JV(ok:Ok C c)(n:Ns c a)(f:∀j,k=.bor j->a.σ[j]?=c.σ[j]?)(h:dw C g c k u v):dw C g a k u v:=by
 cases k with
 |own =>
  have⟨r,e,i,l,b,d⟩:=h;obtain⟨o,ho,_⟩:=d.some;show⟨r,e,i,λz=>?_,λz=>?_,d.mv (ok.mv n) λo q=>n.keep r o q b⟩
  .rcases n.new r z with z|z|z
   .show l z
   .show b z
   .rw[z]at ho;cases ho
  .rcases n.roots r z with z|z
   .show b z
   .rw[z]at ho;cases ho
 |loc=>show Rep.mv (ok.mv n) h
 |any=>show Rep.mv (ok.E9 n) h
 |bor j=>change a.σ[j]?=_;rw[f j rfl];show h
 |_=>show h
def dw.on(ok:Ok C c)(n:Ns c a)(b:a.σ=c.σ)(h:dw C d c k u v):dw C d a k u v:=h.JV ok n λj _=>by rw[b]
def dw.from(n:Ns a b)(h:dw C b c k u v):dw C a c k u v:=by
 cases k with
 |own=>have⟨r,e,d,f⟩:=h;show⟨r,e,n.none d,f⟩
 |_=>show h
def ay.from(n:Ns a b)(h:ay C b c k u v):ay C a c k u v:=by
 cases k with
 |own=>have⟨r,e,d,f⟩:=h;show⟨r,e,n.none d,f⟩
 |_=>show h
def SK(C:Ct)(c:Cf):Kd->hA->Prop
 |.any=>PS C c.S
 |_=>c.S
abbrev kE:Kd->Kd
 |.any=>.any
 |_=>.loc
def Ok.rootOf(ok:Ok C c){j:Nat}(h:∃k:Kd,k.root=b5/\c.st[j]?=a5 (a5 (k,u)))(e:c.σ[j]?=a5 (a5 v)):∃r,v=.ref r/\¬c.S r/\¬C.Dh r/\(C.H₀ r=b6\/C.IO r)/\cf C c.S c.H r u:=by
 have⟨k,hk,h⟩:=h;have⟨d,a,b⟩:=ok.sl j _ _ h;rw[e]at a;cases a;show b.rt hk
def ay.list(ok:Ok C c)(h:ay C g c k (.lst us) v):∃a b,v=.ref a/\A_ C.K c.H a b/\ag C (SK C c k) c.H us b:=by
 cases k with
 |own=>obtain⟨r,e,_,_,_,b,d,f⟩:=h;show⟨r,b,e,A_.of d,f⟩
 |bor j=>obtain⟨r,e,_,_,_,b,d,f⟩:=ok.rootOf h.1 h.2;show⟨r,b,e,A_.of d,f⟩
 |io=>show h.elim
 |AK=>show h.elim
 |_=>have⟨a,b,e,d,f⟩:=h;show⟨a,b,e,d.sq,f⟩
def ay.tuple(ok:Ok C c)(h:ay C g c k (.tup us) v):∃a b,v=.ref a/\Bb C.K c.H a b/\ag C (SK C c k) c.H us b:=by
 cases k with
 |own=>obtain⟨r,e,_,_,_,h⟩:=h;show h.elim
 |bor j=>obtain⟨r,e,_,_,_,h⟩:=ok.rootOf h.1 h.2;show h.elim
 |io=>show h.elim
 |AK=>show h.elim
 |_=>have⟨a,b,e,d,f⟩:=h;show⟨a,b,e,d,f⟩
def ay.flat(ok:Ok C c)(a:A9 u=b5)(h:ay C b c k u v):Rep C c.S c.H u v:=by
 cases k with
 |own=>obtain⟨r,e,_,_,_,h⟩:=h;cases u<;>simp[A9]at a<;>show h.elim
 |loc=>show h
 |any=>show Rep.A9 a h
 |bor j=>obtain⟨r,e,_,_,_,h⟩:=ok.rootOf h.1 h.2;cases u<;>simp[A9]at a<;>show h.elim
 |_=>show h.elim
def ay.int(ok:Ok C c)(h:ay C a c k (.int i) v):v=.int i:=h.flat ok rfl
def ay.str(ok:Ok C c)(h:ay C a c k (.str x) v):v=.str x:=h.flat ok rfl
def ay.bl(ok:Ok C c)(h:ay C a c k (.bl b) v):v=.bl b:=h.flat ok rfl
def ay.item(h:Rep C (SK C c k) c.H u v):ay C a c (kE k) u v:=by
 cases k<;>show h
abbrev CH(H:Hp):hA->Prop:=λa=>∃o,H a=a5 o
def Ok.uR(ok:Ok C c):∀a,c.S a->CH c.H a:=λa h=>(ok.Cv a h).2
def Ok.Au(ok:Ok C c):∀a,PS C c.S a->CH c.H a:=λa h=>by
 rcases h with h|h
 .obtain⟨⟨o,e⟩,n⟩:=ok.par a h;show⟨o,ok.same a o e n⟩
 .show ok.uR a h
def ay.read(ok:Ok C c)(h:ay C b c k u v):Rep C (CH c.H) c.H u v:=by
 cases k with
 |own =>
  obtain⟨r,e,_,_,_,a⟩:=h;rw[e];obtain⟨o,ho,_⟩:=a.some;show a.rep ok.uR ⟨o,ho⟩
 |loc=>show Rep.mv (.up ok.uR) h
 |any=>show Rep.mv (.up ok.Au) h
 |bor j =>
  obtain⟨r,e,_,_,_,a⟩:=ok.rootOf h.1 h.2;rw[e];obtain⟨o,ho,_⟩:=a.some;show a.rep ok.uR ⟨o,ho⟩
 |_=>show h.elim
def Ok.newList(ok:Ok C c)(n:Nx b c)(h:c.H p=b6)(e:ag C c.S c.H us a):
  Ok C {c with H:=upd c.H p (.lst a)}/\Nx b {c with H:=upd c.H p (.lst a)}/\ay C b {c with H:=upd c.H p (.lst a)} .own (.lst us) (.ref p):=by
 have⟨f,d⟩:=ok.lay (o:=.lst a) h;have⟨j,g,k,l,i⟩:=ok.nB h;show⟨f,n.trans d,p,rfl,n.none h,g,i,a,aC,e.mv (ok.mv d.toNs)⟩
def Ok.xu(ok:Ok C c)(n:Nx b c)(h:c.H p=b6)(e:ag C c.S c.H us a):
  Ok C {c with H:=upd c.H p (.tup a)}/\Nx b {c with H:=upd c.H p (.tup a)}/\ay C b {c with H:=upd c.H p (.tup a)} .loc (.tup us) (.ref p):=by
 have⟨f,d⟩:=ok.lay (o:=.tup a) h;show⟨f,n.trans d,p,a,rfl,Bb.of aC,e.mv (ok.mv d.toNs)⟩
end
inductive Ex(α:Type) where|ok (a:α)|exc (c:Str)
abbrev M(α:Type):=aq->Option (Ex α×aq)
namespace M
abbrev pure(a:α):M α:=λst=>a5 (.ok a,st)
abbrev fail:M α:=λ_=>b6
abbrev bind(m:M α)(f:α->M β):M β:=λst=>match m st with
 |none=>b6
 |some (.ok a,st')=>f a st'
 |some (.exc c,st')=>a5 (.exc c,st')
abbrev AZ(o:Option α):M α:=λst=>match o with
 |none=>b6
 |some a=>a5 (.ok a,st)
end M
noncomputable instance:Monad M:={pure:=M.pure,bind:=M.bind}
abbrev W{α:Type}(m:M α)(st:aq)(Q:α->aq->Prop):Prop:=∃a st',m st=a5 (.ok a,st')/\Q a st'
section
def af:W (pure a) st Q↔Q a st:=by
 constructor
 .rintro⟨b,st',e,h⟩;cases e;show h
 .intro h;show⟨a,st,rfl,h⟩
def ab:W (m >>= f) st Q↔W m st λa st'=>W (f a) st' Q:=by
 constructor
 .rintro⟨b,st',e,h⟩;have d:M.bind m f st=a5 (.ok b,st'):=e;unfold M.bind at d;cases q:m st with
  |none=>rw[q]at d;cases d
  |some r =>
   have⟨r,s1⟩:=r;rw[q]at d;cases r with
   |ok a=>show⟨a,s1,q,b,st',d,h⟩
   |exc c=>cases d
 .rintro⟨a,s1,q,b,st',e,h⟩;show⟨b,st',?_,h⟩;change M.bind m f st=_;unfold M.bind;rw[q];show e
def bM:W (M.AZ o) st Q↔∃a,o=a5 a/\Q a st:=by
 cases o with
 |none=>show⟨λ⟨_,_,e,_⟩=>(by cases e),λ⟨_,e,_⟩=>(by cases e)⟩
 |some a=>show⟨λ⟨_,_,e,h⟩=>(by cases e;show⟨a,rfl,h⟩),λ⟨_,e,h⟩=>(by cases e;show⟨a,st,rfl,h⟩)⟩
def aF:W (M.fail:M α) st Q↔False:=⟨λ⟨_,_,e,_⟩=>(by cases e),Hn⟩
def W.mono(h:W m st Q)(i:∀a s,Q a s->Q' a s):W m st Q':=let ⟨a,s,e,q⟩:=h;⟨a,s,e,i a s q⟩
end
inductive GS where|add|sub|mul|Cc|mod|pow
deriving DecidableEq
inductive Ga where|eq|ne|lt|le|gt|ge|isin|AL|is|Ip
deriving DecidableEq
inductive Bf where|len|sorted|list|tuple|str|int|repr|max|min|all|any
deriving DecidableEq
inductive B2 where|C2|C3|sset|eW
deriving DecidableEq
inductive Mf where|split|join|partition|endswith
deriving DecidableEq
inductive B1 where|str|list|tuple|int|bool
deriving DecidableEq
inductive Ik where|seq|A2|Du|MC|zip|rev
deriving DecidableEq
inductive E where
 |var (i:Nat)
 |cst (u:U)
 |BW (x:Str) (u:U)
 |bin (op:GS) (a b:E)
 |cmp (op:Ga) (a b:E)
 |C4 (o1 o2:Ga) (a b c:E)
 |and (es:List E)|or (es:List E)|not (a:E)
 |ite (c a b:E)
 |tup (es:List E)|lst (es:List E)|Cw (r:Bool)
 |idx (a b:E)
 |Dv (a:E) (lo hi:List E)
 |bi (f:Bf) (es:List E)
 |Dw (f:B2) (es:List E)
 |BB (m:Mf) (a:E) (es:List E)
 |call (f:Str) (es:List E)
 |comp (k:Nat) (t:Bool) (ik:Ik) (src:List E) (cond:List E) (e:E)
 |neg (a:E)|bad|D3 (a:E) (T:B1)|fst (es:List E)|inD (neg:Bool) (a:E) (i:Nat)|GU (i:Nat)|Dx (i:Nat) (k d:E)|GV (i:Nat)|GW (ln:Bool) (a b:E)
inductive S where
 |set (i:Nat) (e:E)
 |Dy (is:List Nat) (e:E)
 |put (i:Nat) (k v:E)
 |app (i:Nat) (e:E)|ext (i:Nat) (e:E)|bad|newD (i:Nat)|putD (i:Nat) (k v:E)|Dz (i:Nat) (k v:E)|aug (sub:Bool) (i:Nat) (k v:E)|GX (i:Nat)
 |exp (e:E)
 |ret (e:E)|DA
 |ite (c:E) (a b:List S)
 |Bs (t:Bool) (is:List Nat) (ik:Ik) (src:List E) (body:List S)
 |GY (c:E) (body:List S)
 |brk|cnt|GZ
abbrev isAny:Kd->Bool
 |.any=>b5
 |_=>cb
abbrev ie(k:Kd)(xs:List U):Bool:=!isAny k||fm xs
abbrev cut{α:Type}(xs:List α)(lo a:Option Int):List α:=(xs.drop (HT.BG xs.length 0 lo)).take (HT.BG xs.length xs.length a - HT.BG xs.length 0 lo)
abbrev qw:Kd×U->Kd×U->Option (Kd×U)
 |(_,.int i),(_,.int j)=>a5 (.loc,.int (i+j))
 |(_,.str x),(_,.str y)=>if x.length+y.length<=df then a5 (.loc,.str (x++y)) else b6
 |(k,.lst xs),(k',.lst a)=>if xs.length+a.length<=df/\ie k xs=b5/\ie k' a=b5 then a5 (.own,.lst (xs++a)) else b6
 |_,_=>b6
abbrev kD(f:Int->Int->Option Int):U->U->Option (Kd×U)
 |.int i,.int j=>(f i j).map λn=>(.loc,.int n)
 |_,_=>b6
abbrev l7:Kd×U->U->Option (Kd×U)
 |(.own,.lst xs),.int n=>if -(2 ^ 63)<=n/\n<2 ^ 63/\xs.length * n.toNat<=df then a5 (.own,.lst (g5 n.toNat xs).flatten) else b6
 |_,_=>b6
abbrev qx(i j:Int):Option Int:=if ((-(2 ^ 64)<i/\i<2 ^ 64)\/(-(2 ^ 64)<j/\j<2 ^ 64)) then a5 (i * j) else b6
abbrev uS(i j:Int):Option Int:=if 0<j/\j<1073741824 then a5 (i / j) else b6
abbrev uT(i j:Int):Option Int:=if 0<j then a5 (i % j) else b6
abbrev uU(i j:Int):Option Int:=if 0<=j/\j<=1000000/\i.natAbs<2 ^ 64 then a5 (i ^ j.toNat) else b6
abbrev oX:U->Bool
 |.lst _=>b5
 |_=>cb
abbrev B7(op:GS)(x y:Kd×U):Option (Kd×U):=match op with
 |.add=>qw x y
 |.sub=>kD (λi j=>a5 (i - j)) x.2 y.2
 |.mul=>if oX x.2=b5 then l7 x y.2 else kD qx x.2 y.2
 |.Cc=>kD uS x.2 y.2
 |.mod=>kD uT x.2 y.2
 |.pow=>kD uU x.2 y.2
mutual
noncomputable def Bp:Nat->U->Bool
 |_,.Bo _ _=>cb
 |_,.Bc _=>cb
 |0,.tup _=>cb
 |0,.lst _=>cb
 |n+1,.tup xs=>fq n xs
 |n+1,.lst xs=>fq n xs
 |_,.AM=>b5|_,.bl _=>b5|_,.int _=>b5|_,.str _=>b5
noncomputable def fq:Nat->List U->Bool
 |_,[]=>b5
 |n,u::us=>Bp n u&&fq n us
end
mutual
noncomputable def a_:U->U->Bool
 |.AM,.AM=>b5
 |.bl a,.bl b=>a==b
 |.bl a,.int b=>(if a then 1 else 0)==b
 |.int a,.bl b=>a==(if b then 1 else 0)
 |.int a,.int b=>a==b
 |.str a,.str b=>a==b
 |.tup xs,.tup c=>bG xs c
 |.lst xs,.lst c=>bG xs c
 |_,_=>cb
noncomputable def bG:List U->List U->Bool
 |[],[]=>b5
 |u::us,w::ws=>a_ u w&&bG us ws
 |_,_=>cb
end
abbrev EE(x:U)(a:List U):Option Bool:=if Bp 50 x=b5/\fq 50 a=b5 then a5 (a.any λy=>a_ y x) else b6
abbrev E_(x y:Str):Bool:=!(uk y x 0 y.length 1).isEmpty
abbrev strsOf:List U->Option (List Str)
 |[]=>a5 []
 |.str x::us=>(strsOf us).map (x::·)
 |_::_=>b6
abbrev rowOf:U->Option bN
 |.tup [.str x,.tup a]=>(strsOf a).map λss=>(x,ss)
 |_=>b6
abbrev uV:U->U->Option Bool
 |x,.lst a=>EE x a
 |x,.tup a=>EE x a
 |.str x,.str y=>a5 (E_ x y)
 |.str x,.Bo b _=>a5 (et (x∈b))
 |x,.Bc b=>(rowOf x).map λr=>et (r∈b)
 |_,_=>b6
abbrev sg:List Str->List U->Str->Option U
 |y::a,u::us,x=>if y=x then a5 u else sg a us x
 |_,_,_=>b6
abbrev dput(a:List Str)(us:List U)(x:Str)(u:U):List Str×List U :=
 if x∈a then(a,(a.zip us).map λp=>if p.1=x then u else p.2) else(a++[x],us++[u])
abbrev bo:Ga->U->U->Option Bool
 |.eq,a,b=>if Bp 50 a=b5/\Bp 50 b=b5 then a5 (a_ a b) else b6
 |.ne,a,b=>if Bp 50 a=b5/\Bp 50 b=b5 then a5 (!a_ a b) else b6
 |.lt,.int i,.int j=>a5 (et (i<j))
 |.gt,.int i,.int j=>a5 (et (j<i))
 |.ge,.int i,.int j=>a5 (et (j<=i))
 |.isin,x,y=>uV x y
 |.AL,x,y=>(uV x y).map (!·)
 |_,_,_=>b6
abbrev ig:List U->Option (List Bool)
 |[]=>a5 []
 |.bl x::us=>(ig us).map (x::·)
 |_::_=>b6
abbrev ft:Kd×U->U->Option (Kd×U)
 |(k,.lst xs),.int i=>(AX xs i).map λu=>(kE k,u)
 |(k,.tup xs),.int i=>(AX xs i).map λu=>(kE k,u)
 |(_,.str x),.int i=>if x.length<=df then(AX x.cps.toList i).map λc=>(.loc,.str ⟨#[c]⟩) else b6
 |_,_=>b6
abbrev l8:Kd×U->Option Int->Option Int->Option (Kd×U)
 |(k,.lst xs),lo,a=>if ie k xs=b5 then a5 (.own,.lst (cut xs lo a)) else b6
 |(_,.str x),lo,a=>if x.length<=df then a5 (.loc,.str (PySem.StrLaws.sliceText x lo a)) else b6
 |_,_,_=>b6
abbrev uW:U->Option Nat
 |.lst xs=>a5 xs.length
 |.tup xs=>a5 xs.length
 |.str x=>if x.length<=df then a5 x.length else b6
 |_=>b6
mutual
noncomputable def dh:U->Option O3
 |.AM=>a5 .none
 |.bl b=>a5 (.bool b)
 |.int i=>a5 (.int i)
 |.str x=>a5 (.str x)
 |.tup us=>(gH us).map .tuple
 |.lst us=>(gH us).map .list
 |.Bo _ _=>b6
 |.Bc _=>b6
noncomputable def gH:List U->Option (List O3)
 |[]=>a5 []
 |u::us=>(dh u).bind λd=>(gH us).map (d::·)
end
abbrev v3:U->Bool
 |.tup _=>b5
 |.lst _=>b5
 |_=>cb
abbrev oY(u:U):Option (Kd×U):=(dh u).bind λd=>if d.showable=b5/\d.depth<=50/\d.shown.length<=df/\v3 u=b5 then a5 (.loc,.str d.shown) else b6
abbrev dX{β:Type}(f:Kd×U->Option β):List (Kd×U)->Option β
 |[x]=>f x
 |_=>b6
abbrev xv:Kd×U->Option (Kd×U)
 |(_,.lst xs)=>(strsOf xs).bind λss=>if ss.length<64 then a5 (.own,.lst ((bF ss).map .str)) else b6
 |(_,.tup xs)=>(strsOf xs).bind λss=>if ss.length<64 then a5 (.own,.lst ((bF ss).map .str)) else b6
 |_=>b6
abbrev xw:Kd×U->Option (Kd×U)
 |(k,.lst xs)=>if ie k xs=b5 then a5 (.own,.lst xs) else b6
 |(k,.tup xs)=>if ie k xs=b5 then a5 (.own,.lst xs) else b6
 |_=>b6
abbrev xx:Kd×U->Option (Kd×U)
 |(k,.lst xs)=>a5 (kE k,.tup xs)
 |(k,.tup xs)=>a5 (kE k,.tup xs)
 |_=>b6
abbrev si:Kd×U->Option (Kd×U)
 |(_,.int i)=>if i.natAbs.log2<1920 then a5 (.loc,.str (QK i)) else b6
 |_=>b6
abbrev xy:Kd×U->Option (Kd×U)
 |(_,.str x)=>if (M7 x).length<=df then a5 (.loc,.str (M7 x)) else b6
 |(_,.lst xs)=>oY (.lst xs)
 |(_,.tup xs)=>oY (.tup xs)
 |_=>b6
abbrev xA:Kd×U->Option (Kd×U)
 |(_,.lst xs)=>(ig xs).map λbs=>(.loc,.bl (bs.all id))
 |_=>b6
abbrev xB:Kd×U->Option (Kd×U)
 |(_,.bl b)=>a5 (.loc,.int (if b then 1 else 0))
 |_=>b6
abbrev Bt(f:Bf)(rs:List (Kd×U)):Option (Kd×U):=match f with
 |.len=>dX (λx=>(uW x.2).map λ(n:Nat)=>(Kd.loc,U.int (n:Int))) rs
 |.sorted=>dX xv rs
 |.list=>dX xw rs
 |.tuple=>dX xx rs
 |.str=>dX si rs
 |.repr=>dX xy rs
 |.int=>dX xB rs
 |.all=>dX xA rs
 |_=>b6
abbrev nE:U->Option (List Str)
 |.lst xs=>(strsOf xs).bind λss=>if ss.length+1<FP then a5 (aE ss) else b6
 |.tup xs=>(strsOf xs).bind λss=>if ss.length+1<FP then a5 (aE ss) else b6
 |_=>b6
abbrev ij:List U->Option (List bN)
 |[]=>a5 []
 |u::us=>(rowOf u).bind λr=>(ij us).map (r::·)
abbrev xC:U->Option (Kd×U)
 |.lst xs=>(ij xs).bind λa=>if a.length<=64 then a5 (.loc,.int (bg a).length) else b6
 |_=>b6
abbrev il(x:Kd×U):Option (Kd×U):=match nE x.2 with
 |some ss=>a5 (.loc,.int ss.length)
 |none=>xC x.2
abbrev nF(f:B2)(rs:List (Kd×U)):Option (Kd×U):=match f with
 |.C2=>b6
 |.C3=>b6
 |.sset=>dX (λx=>(nE x.2).bind λss=>if ss.length<64 then a5 (.own,.lst ((bF ss).map .str)) else b6) rs
 |.eW=>dX il rs
abbrev dy:Mf->U->List (Kd×U)->Option (Kd×U)
 |.split,.str a,[(_,.str b)]=>if (b.length==0)=cb/\a.length+2<=df then a5 (.own,.lst ((DX a b).map .str)) else b6
 |.join,.str a,[(_,.lst xs)]=>(strsOf xs).bind λss=>if Kn a ss=b5 then a5 (.loc,.str (AV a ss)) else b6
 |.join,.str a,[(_,.tup xs)]=>(strsOf xs).bind λss=>if Kn a ss=b5 then a5 (.loc,.str (AV a ss)) else b6
 |.endswith,.str a,[(_,.str b)]=>a5 (.loc,.bl (Qr a b))
 |.partition,.str a,[(_,.str b)]=>if (b.length==0)=cb/\a.length<=df then a5 (.loc,.tup [.str (qs a b).1,.str (qs a b).2.1,.str (qs a b).2.2]) else b6
 |_,_,_=>b6
abbrev Av:Kd×U->Option (List (Kd×U))
 |(k,.lst xs)=>a5 (xs.map λu=>(kE k,u))
 |(k,.tup xs)=>a5 (xs.map λu=>(kE k,u))
 |(_,.str x)=>a5 (x.cps.toList.map λc=>(.loc,.str ⟨#[c]⟩))
 |_=>b6
abbrev qy:Kd×U->Option (List (Kd×U))
 |(_,.int n)=>if n<2 ^ 62/\-(2 ^ 62)<n then a5 ((hQ n.toNat).map λi:Nat=>(Kd.loc,U.int (0+(i:Int)))) else b6
 |_=>b6
abbrev xD:List (Kd×U)->Option (List (Kd×U))
 |[(_,.int lo),(_,.int a)]=>if a<2 ^ 62/\-(2 ^ 62)<lo/\lo<2 ^ 62/\-(2 ^ 62)<a then a5 ((hQ (a - lo).toNat).map λi:Nat=>(Kd.loc,U.int (lo+(i:Int)))) else b6
 |_=>b6
abbrev BP(a:Ik)(rs:List (Kd×U)):Option (List (Kd×U)):=match a with
 |.seq=>dX Av rs
 |.A2=>dX qy rs
 |.Du=>xD rs
 |_=>b6
abbrev qz:U->Option Bool
 |.bl b=>a5 b
 |.lst xs=>a5 !xs.isEmpty
 |.tup xs=>a5 !xs.isEmpty
 |.str x=>if x.length<=df then a5 ((x.length:Int) != 0) else b6
 |_=>b6
abbrev lift:Kd×U->M U
 |(.own,u)=>pure u
 |(.loc,u)=>pure u
 |(.any,u)=>if A9 u=b5 then pure u else M.fail
 |(.bor j,_)=>λst=>match st[j]? with
  |some (a5 (.own,u))=>a5 (.ok u,st.set j (a5 (.loc,u)))
  |_=>b6
 |(.io,_)=>M.fail
 |(.AK,_)=>M.fail
abbrev bV:List (Kd×U)->M (List U)
 |[]=>pure []
 |r::rs=>do let u <-lift r;let us <-bV rs;pure (u::us)
abbrev di(i:Nat):Kd×U->M Unit
 |(.bor j,_)=>λst=>match st[j]? with
  |some (a5 (.own,u))=>a5 (.ok (),(st.set j (a5 (.loc,u))).set i (a5 (.loc,u)))
  |_=>b6
 |(.io,_)=>M.fail
 |(.AK,_)=>M.fail
 |(k,u)=>λst=>a5 (.ok (),st.set i (a5 (k,u)))
def aS:List (Kd×U)->aq->Prop
 |[],_=>True
 |(.bor j,u)::rs,st=>(∃k:Kd,k.root=b5/\st[j]?=a5 (a5 (k,u)))/\aS rs st
 |_::rs,st=>aS rs st
open Classical in
abbrev ao(rs:List (Kd×U)):M Unit:=λst=>if aS rs st then a5 (.ok (),st) else b6
@[reducible]def Tab:=Str->List U->Option (Ex (Kd×U))
abbrev ip(Γ:Tab)(f:Str)(us:List U):M (Kd×U):=λst=>match Γ f us with
 |some (.ok (.any,_))=>b6
 |none=>b6
 |some r=>a5 (r,st)
abbrev eJ(i:Nat):M (Kd×U):=λst=>match st[i]? with
 |some (a5 (.AK,_))=>b6
 |some (a5 (k,u))=>a5 (.ok (if k.root=b5 then .bor i else k,u),st)
 |_=>b6
abbrev sets:List Nat->List (Kd×U)->M Unit
 |[],[]=>pure ()
 |i::is,r::rs=>do di i r;sets is rs
 |_,_=>M.fail
abbrev dk(t:Bool)(is:List Nat)(r:Kd×U):M Unit:=match t,is,r with
 |false,[i],r=>di i r
 |true,is,(k,.tup xs)=>sets is (xs.map λu=>(kE k,u))
 |_,_,_=>M.fail
abbrev inScope{α:Type}(k:Nat)(m:M α):M α:=λst=>match m (g5 k b6++st) with
 |none=>b6
 |some (r,st')=>a5 (r,st'.drop k)
abbrev aZ(k:Nat)(t:Bool)(cond:M Bool)(elt:M (Kd×U))(src:List (Kd×U)):List (Kd×U)->List U->M (List U)
 |[],a=>do ao src;pure a
 |x::xs,a=>do
  ao src
  let r <-inScope k (dk t (hQ k) x >>= λ_=>cond >>= λb=>if b=b5 then(elt >>= λr=>lift r >>= λu=>pure (a5 u)) else pure b6)
  match r with
  |some u=>if a.length<df then aZ k t cond elt src xs (a++[u]) else M.fail
  |none=>aZ k t cond elt src xs a
abbrev l9:U->B1->Option Bool
 |.str _,T=>a5 (et (T=.str))
 |.int _,T=>a5 (et (T=.int))
 |.bl _,.bool=>a5 b5
 |.bl _,.int=>a5 b5
 |.lst _,T=>a5 (et (T=.list))
 |.tup _,T=>a5 (et (T=.tuple))
 |_,_=>b6
abbrev Aw:Kd×U->Option (Kd×U)
 |(_,.int i)=>a5 (.loc,.int (-i))
 |_=>b6
abbrev xE(x:Kd×U):M (Option Int):=match x.2 with
 |.int i=>pure (a5 i)
 |_=>M.fail
abbrev Fb:U->M Unit
 |.lst _=>pure ()
 |_=>M.fail
section
variable(Γ:Tab)
mutual
noncomputable def ev:E->M (Kd×U)
 |.var i=>eJ i
 |.cst u=>pure (.loc,u)
 |.BW _ u=>pure (.loc,u)
 |.bin op a b=>do
  let x <-ev a
  let y <-ev b
  ao [x,y]
  M.AZ (B7 op x y)
 |.cmp op a b=>do
  let x <-ev a
  let y <-ev b
  ao [x,y]
  let c <-M.AZ (bo op x.2 y.2)
  pure (.loc,.bl c)
 |.C4 _ _ _ _ _=>M.fail
 |.and es=>iq es
 |.or _=>M.fail
 |.not a=>do
  let x <-ev a
  match x.2 with
  |.bl c=>pure (.loc,.bl !c)
  |_=>M.fail
 |.ite c a b=>do
  let p <-A1 c
  if p=b5 then ev a else ev b
 |.tup es=>do
  let rs <-bc es
  ao rs
  let us <-bV rs
  if us.length<=df then pure (.loc,.tup us) else M.fail
 |.lst es=>do
  let rs <-bc es
  ao rs
  let us <-bV rs
  if us.length<=df then pure (.own,.lst us) else M.fail
 |.Cw r=>pure (.own,if r=b5 then .Bc [] else .Bo [] [])
 |.idx a b=>do
  let x <-ev a
  let y <-ev b
  ao [x,y]
  M.AZ (ft x y.2)
 |.Dv a lo d=>do
  let x <-ev a
  let l <-EF lo
  let h <-EF d
  ao [x]
  M.AZ (l8 x l h)
 |.bi f es=>do
  let rs <-bc es
  ao rs
  M.AZ (Bt f rs)
 |.Dw f es=>do
  let rs <-bc es
  ao rs
  M.AZ (nF f rs)
 |.BB m a es=>do
  let x <-ev a
  let rs <-bc es
  ao (x::rs)
  M.AZ (dy m x.2 rs)
 |.call f es=>do
  let rs <-bc es
  ao rs
  ip Γ f (rs.map (·.2))
 |.comp k t g src cond e=>do
  let rs <-bc src
  ao rs
  let xs <-M.AZ (BP g rs)
  let us <-aZ k t (aG cond) (ev e) rs xs []
  pure (.own,.lst us)
 |.neg a=>do
  let x <-ev a
  M.AZ (Aw x)
 |.bad=>M.fail
 |.GV _=>M.fail
 |.inD _ _ _=>M.fail
 |.GU _=>M.fail
 |.Dx _ _ _=>M.fail
 |.GW _ _ _=>M.fail
 |.fst es=>M.fail
 |.D3 a T=>do
  let x <-ev a
  let b <-M.AZ (l9 x.2 T)
  pure (.loc,.bl b)
noncomputable def bc:List E->M (List (Kd×U))
 |[]=>pure []
 |e::es=>do let r <-ev e;let rs <-bc es;pure (r::rs)
noncomputable def EF:List E->M (Option Int)
 |[]=>pure b6
 |[e]=>do let x <-ev e;xE x
 |_=>M.fail
noncomputable def iq:List E->M (Kd×U)
 |[]=>M.fail
 |[e]=>ev e
 |e::es=>do
  let x <-ev e
  match x.2 with
  |.bl b5=>iq es
  |.bl cb=>pure (.loc,.bl cb)
  |_=>M.fail
noncomputable def A1:E->M Bool
 |.and es=>aG es
 |.or es=>gp es
 |.not a=>do let b <-A1 a;pure !b
 |.cmp op a b=>do
  let x <-ev a
  let y <-ev b
  ao [x,y]
  M.AZ (bo op x.2 y.2)
 |.var i=>do let x <-eJ i;M.AZ (qz x.2)
 |.bi f es=>do
  let rs <-bc es
  ao rs
  let r <-M.AZ (Bt f rs)
  M.AZ (qz r.2)
 |.call f es=>do
  let rs <-bc es
  ao rs
  let r <-ip Γ f (rs.map (·.2))
  M.AZ (qz r.2)
 |.C4 o1 o2 a b c=>do
  let x <-ev a
  let y <-ev b
  ao [x,y]
  let p <-M.AZ (bo o1 x.2 y.2)
  if p=b5 then do
   let z <-ev c
   ao [y,z]
   M.AZ (bo o2 y.2 z.2)
  else pure cb
 |.D3 a T=>do
  let x <-ev a
  M.AZ (l9 x.2 T)
 |_=>M.fail
noncomputable def aG:List E->M Bool
 |[]=>pure b5
 |[e]=>A1 e
 |e::es=>do let b <-A1 e;if b=b5 then aG es else pure cb
noncomputable def gp:List E->M Bool
 |[]=>pure cb
 |[e]=>A1 e
 |e::es=>do let b <-A1 e;if b=b5 then pure b5 else gp es
end
inductive Fl where|nx|rt (k:Kd) (u:U)|bk|ct
abbrev retS:Kd×U->M Fl
 |(.own,u)=>pure (.rt .own u)
 |(.loc,u)=>pure (.rt .loc u)
 |(.any,u)=>if A9 u=b5 then pure (.rt .loc u) else pure (.rt .any u)
 |(.bor j,_)=>λst=>match st[j]? with
  |some (a5 (.own,u))=>a5 (.ok (.rt .own u),st.set j b6)
  |_=>b6
 |(.io,_)=>M.fail
 |(.AK,_)=>M.fail
abbrev forM(t:Bool)(is:List Nat)(body:M Fl)(src:List (Kd×U)):List (Kd×U)->M Fl
 |[]=>do ao src;pure .nx
 |x::xs=>do
  ao src
  dk t is x
  let f <-body
  match f with
  |.nx=>forM t is body src xs
  |.ct=>forM t is body src xs
  |.bk=>pure .nx
  |.rt k u=>pure (.rt k u)
abbrev kF(c:M Bool)(body:M Fl):Nat->M Fl
 |0=>M.fail
 |n+1=>do
  let b <-c
  if b=b5 then do
   let f <-body
   match f with
   |.nx=>kF c body n
   |.ct=>kF c body n
   |.bk=>pure .nx
   |.rt k u=>pure (.rt k u)
  else pure .nx
abbrev modS(i:Nat)(f:U->Option U):M Unit:=λst=>match st[i]? with
 |some (a5 (k,u))=>if k.root=b5 then match f u with
   |some u'=>a5 (.ok (),st.set i (a5 (k,u')))
   |none=>b6
  else b6
 |_=>b6
abbrev sj(u:U):U->Option U
 |.lst xs=>if xs.length<df then a5 (.lst (xs++[u])) else b6
 |_=>b6
abbrev nG:Kd×U->U->Option U
 |(k,.lst a),.lst xs=>if xs.length+a.length<=df/\ie k a=b5 then a5 (.lst (xs++a)) else b6
 |(k,.tup a),.lst xs=>if xs.length+a.length<=df/\ie k a=b5 then a5 (.lst (xs++a)) else b6
 |_,_=>b6
abbrev ir(x u:U):U->Option U
 |.Bo a b=>match x with
  |.str y=>if a.length<df then a5 (.Bo (dput a b y u).1 (dput a b y u).2) else b6
  |_=>b6
 |.Bc a=>match rowOf x,u with
  |some r,.bl b5=>if r∉a/\a.length<=1000 then a5 (.Bc (a++[r])) else b6
  |_,_=>b6
 |.lst xs=>match x with
  |.int i=>(Dp xs.length i).map λj=>.lst (xs.set j u)
  |_=>b6
 |_=>b6
abbrev oZ:List U->U->Option U
 |[u,x]=>ir x u
 |_=>λ_=>b6
abbrev fuel:Nat:=1000000000000
mutual
noncomputable def Iq:S->Nat->Bool
 |.set i _,j=>et (j≠i)
 |.Dy is _,j=>et (j∉is)
 |.ite _ a b,j=>B3 a j&&B3 b j
 |.Bs _ is _ _ body,j=>et (j∉is)&&B3 body j
 |.GY _ body,j=>B3 body j
 |.put _ _ _,_=>b5
 |.app _ _,_=>b5
 |.ext _ _,_=>b5
 |.bad,_=>b5
 |.newD i,j=>et (j≠i)
 |.putD _ _ _,_=>b5
 |.Dz _ _ _,_=>b5
 |.aug _ _ _ _,_=>b5
 |.GX _,_=>b5
 |.exp _,_=>b5
 |.ret _,_=>b5
 |.DA,_=>b5
 |.brk,_=>b5
 |.cnt,_=>b5
 |.GZ,_=>b5
noncomputable def B3:List S->Nat->Bool
 |[],_=>b5
 |s::ss,j=>Iq s j&&B3 ss j
end
abbrev o_(rs:List (Kd×U))(is:List Nat)(body:List S):Bool:=rs.all λr=>match r.1 with
 |.bor j=>et (j∉is)&&B3 body j
 |_=>b5
mutual
noncomputable def exec:S->M Fl
 |.set i e=>do let r <-ev Γ e;di i r;pure .nx
 |.Dy is e=>do let r <-ev Γ e;dk b5 is r;pure .nx
 |.put i k v=>do
  let r <-ev Γ v
  let _ <-eJ i
  let x <-ev Γ k
  let us <-bV [r,x]
  modS i (oZ us)
  pure .nx
 |.app i e=>do
  let x <-eJ i
  Fb x.2
  let r <-ev Γ e
  let u <-lift r
  modS i (sj u)
  pure .nx
 |.ext i e=>do
  let x <-eJ i
  Fb x.2
  let r <-ev Γ e
  modS i (nG r)
  pure .nx
 |.bad=>M.fail
 |.newD _=>M.fail
 |.putD _ _ _=>M.fail
 |.Dz _ _ _=>M.fail
 |.aug _ _ _ _=>M.fail
 |.GX _=>M.fail
 |.exp e=>do let _ <-ev Γ e;pure .nx
 |.ret e=>do let r <-ev Γ e;retS r
 |.DA=>pure (.rt .loc .AM)
 |.ite c a b=>do let p <-A1 Γ c;if p=b5 then execs a else execs b
 |.Bs t is d src body=>do
  let rs <-bc Γ src
  ao rs
  let xs <-M.AZ (BP d rs)
  if o_ rs is body=b5 then forM t is (execs body) rs xs else M.fail
 |.GY c body=>kF (A1 Γ c) (execs body) fuel
 |.brk=>pure .bk
 |.cnt=>pure .ct
 |.GZ=>pure .nx
noncomputable def execs:List S->M Fl
 |[]=>pure .nx
 |s::ss=>do
  let f <-exec s
  match f with
  |.nx=>execs ss
  |f=>pure f
end
end
structure Fn where
 name:Str
 np:Nat
 ns:Nat
 body:List S
abbrev start(us:List U)(n:Nat):aq:=us.map (λu=>a5 (if A9 u=b5 then Kd.loc else Kd.any,u))++g5 (n - us.length) b6
abbrev bf(Γ:Tab)(fn:Fn)(us:List U):Option (Ex (Kd×U)):=if us.length=fn.np then match execs Γ fn.body (start us fn.ns) with
  |some (.ok (.rt .own u),_)=>a5 (.ok (.own,u))
  |some (.ok (.rt .loc u),_)=>a5 (.ok (.loc,u))
  |some (.ok (.rt .any u),_)=>a5 (.ok (.any,u))
  |some (.ok .nx,_)=>a5 (.ok (.loc,.AM))
  |some (.exc c,_)=>a5 (.exc c)
  |_=>b6
 else b6
abbrev Be(P:List Fn):Nat->Tab
 |0=>λ_ _=>b6
 |d+1=>λf us=>match P.find? λfn=>et (fn.name=f) with
  |some fn=>bf (Be P d) fn us
  |none=>b6
end TM
namespace TM
open PySem L2
section
variable{X:Cx}{pins:List (hA×Obj)}{σ:St}{H:Hp}{s:gs}{C:Ct}{S:hA->Prop}
def pd(I:Inv X pins σ H s)(h:A_ X.K H a c):∃b:List eh,Vals c b/\s.heap.IsList a b.toArray/\c.length<=df:=by
 have⟨b,r,p,z⟩:=I.list h;show⟨b,r,p.isList,z⟩
inductive A7(s:gs):Nat->U->eh->Prop where
 |AM {n:Nat}:A7 s n .AM .none
 |bl {n:Nat} {b:Bool}:A7 s n (.bl b) (.bool b)
 |int {n:Nat} {i:Int} {t:Tok}:A7 s n (.int i) (.int i t)
 |str {n:Nat} {y:Str} {t:Tok}:A7 s n (.str y) (.str y t)
 |tup {n:Nat} {us:List U} {AE:List eh} {a:hA}:us.length=AE.length->(∀j (hj:j<AE.length),A7 s n (us.getD j .AM) AE[j])->bG us us=b5->s.heap.IsTuple a AE.toArray->A7 s (n+1) (.tup us) (.ref a)
 |lst {n:Nat} {us:List U} {AE:List eh} {a:hA}:us.length=AE.length->(∀j (hj:j<AE.length),A7 s n (us.getD j .AM) AE[j])->bG us us=b5->s.heap.IsList a AE.toArray->A7 s (n+1) (.lst us) (.ref a)
def A7.self(h:A7 s n u x):a_ u u=b5:=by
 cases h<;>first|assumption|simp[a_]
theorem A7.uX(f:∀u v x,Bp n u=b5->Rep C S H u v->RelV v x->A7 s n u x):∀{us:List U}{c:List V}{a:List eh},fq n us=b5->ag C S H us c->Vals c a->us.length=a.length/\(∀j (b:j<a.length),A7 s n (us.getD j .AM) a[j])/\bG us us=b5
 |[],_,_,_,h,r=>by cases h;cases r;show⟨rfl,λj b=>(nomatch b),rfl⟩
 |u::us,_,_,e,h,r=>by
  have⟨v,c,rfl,d,i⟩:=h;simp only[fq,dV]at e;cases r with
  |cons g m =>
   have⟨l,k,y⟩:=A7.uX f e.2 i m;show⟨by simp[l],λj b=>?_,by rw[bG,(f _ _ _ e.1 d g).self,y];rfl⟩;cases j with
   |zero=>show f _ _ _ e.1 d g
   |succ j=>show k j (by simpa using b)
def A7.of(I:Inv X pins σ H s)(f:C.K=X.K):∀(n:Nat) (u:U) (v:V) (x:eh),Bp n u=b5->Rep C S H u v->RelV v x->A7 s n u x:=by
 intro n;induction n with
 |zero=>intro u v x e h r;cases u<;>first|(simp[Bp]at e;done)|(simp only[Rep]at h;subst h;first|(cases r;constructor)|(have⟨t,rfl⟩:=r;constructor))
 |succ n g =>
  intro u v x e h r;cases u with
  |tup us =>
   have⟨a,i,rfl,b,c⟩:=h;cases r;obtain⟨j,d,p,_⟩:=I.tuple (f▸b);have⟨l,k,y⟩:=A7.uX g (by simpa[Bp] using e) c d;show .tup l k y p
  |lst us =>
   have⟨a,i,rfl,b,c⟩:=h;cases r;obtain⟨j,d,p,_⟩:=pd I (f▸b.sq);have⟨l,k,y⟩:=A7.uX g (by simpa[Bp] using e) c d;show .lst l k y p
  |_=>first|(simp[Bp]at e;done)|(simp only[Rep]at h;subst h;first|(cases r;constructor)|(have⟨t,rfl⟩:=r;constructor))
def A7.inj:∀{n:Nat}{u w:U}{x:eh},A7 s n u x->A7 s n w x->u=w:=by
 intro n;induction n with
 |zero=>intro u w x h h';cases h<;>cases h'<;>rfl
 |succ n t =>
  have go:∀{us ws:List U} {c its':List eh} {a:hA} {o i:Obj} {m q:Nat},us.length=c.length->(∀j (v:j<c.length),A7 s n (us.getD j .AM) c[j])->ws.length=its'.length->(∀j (v:j<its'.length),A7 s n (ws.getD j .AM) its'[j])->s.heap.get? a=a5 o->o.data=.seq c.toArray m->s.heap.get? a=a5 i->i.data=.seq its'.toArray q->us=ws:=by
   intro us ws c its' a o i m q l k f k' e d g d';rw[e]at g;cases g;rw[d]at d';injection d' with z _
   have:c=its':=by simpa using Rb Oc z
   subst this;show Po ⋯ λj A B=>?_;have:=t (k j ⋯) (k' j ⋯);simpa[A,B] using this
  intro u w x h h';cases h with
  |tup l k y p =>
   cases h' with
   |tup f k' r b=>obtain⟨o,e,_,m,d⟩:=p;obtain⟨i,g,_,q,d'⟩:=b;rw[go l k f k' e d g d']
   |lst f k' r b=>show absurd rfl (N' b p)
  |lst l k y p =>
   cases h' with
   |lst f k' r b=>obtain⟨o,e,_,m,d⟩:=p;obtain⟨i,g,_,q,d'⟩:=b;rw[go l k f k' e d g d']
   |tup f k' r b=>show absurd rfl (N' p b)
  |_=>cases h';rfl
theorem fP:∀{us ws:List U},us.length≠ws.length->bG us ws=cb
 |[],[],h=>absurd rfl h
 |[],_::_,_=>rfl
 |_::_,[],_=>rfl
 |u::us,w::ws,h=>by
  rw[bG,fP (us:=us) (ws:=ws) (λe=>h (by simp[e])),Mx]
theorem dz:∀{us ws:List U},us.length=ws.length->bG us ws=(hQ us.length).all λj=>a_ (us.getD j .AM) (ws.getD j .AM)
 |[],[],_=>rfl
 |[],_::_,h=>by simp at h
 |_::_,[],h=>by simp at h
 |u::us,w::ws,h=>by
  have h':us.length=ws.length:=by simpa using h
  rw[bG,dz h',k4,Iw,List.all_cons,List.all_map];rfl
def y_{a its':List eh}(c:us.length=a.length)(d:ws.length=its'.length):bG us ws=((hQ (min a.toArray.size its'.toArray.size)).all (λj=>a_ (us.getD j .AM) (ws.getD j .AM))&&a.toArray.size==its'.toArray.size):=by
 simp only[i5];by_cases b:us.length=ws.length
 .rw[dz b,show min a.length its'.length=us.length by lia,show(a.length==its'.length)=b5 by simp;lia,Qb]
 .rw[fP b,show(a.length==its'.length)=cb by simp;lia,Mx]
def pe(b:A7 s n u y)(h:OH A s y x k)(hs:y=x->k=b5):K7 A s y x k:=λprog w E Q a=>by
 unfold eqBool;show z8 ?_;show wpAny_ite_split (λc=>?_) (λ_=>?_)
 .rw[hs (OT c)]at a;show b4 (Jv (c4 a))
 .cases b<;>show b4 (h prog w E _ (FR a))
def Ir(r:∀m,m+1=n->∀{u w:U}{x f:eh}{A:Gp},A7 s m u x->A7 s m w f->A.units+m<y0->K7 A s x f (a_ u w))(h:A7 s n u x)(h':A7 s n w f)(v:A.units+n<y0):OH A s x f (a_ u w)/\P8 A s x f (!a_ u w):=by
 have a:A.units<y0:=by lia
 have go:∀{m:Nat} {us ws:List U} {g its':List eh},m+1=n->(∀j (t:j<g.length),A7 s m (us.getD j .AM) g[j])->(∀j (t:j<its'.length),A7 s m (ws.getD j .AM) its'[j])->∀j (i:j<g.toArray.size) (o:j<its'.toArray.size),K7 A.in1 s g.toArray[j] its'.toArray[j] (a_ (us.getD j .AM) (ws.getD j .AM)):=λ{m us ws g its'} e k k' j i o=>r m e (k j i) (k' j o) (by change A.units+1+m < _;lia);cases h with
 |AM =>
  cases h' with
  |AM=>show⟨.none_none,.none_none⟩
  |bl=>show⟨.none_bool _,.none_bool _⟩
  |int=>show⟨.none_int _ _,.none_int _ _⟩
  |str=>show⟨.none_str _ _,.none_str _ _⟩
  |tup c k' d b=>show⟨.none_tuple b a,.none_tuple b a⟩
  |lst c k' d b=>show⟨.none_list b a,.none_list b a⟩
 |bl =>
  cases h' with
  |AM=>show⟨.bool_none _,.bool_none _⟩
  |bl=>show⟨.bool_bool _ _,.bool_bool _ _⟩
  |int=>show⟨.bool_int _ _ _,.bool_int _ _ _⟩
  |str=>show⟨.bool_str _ _ _,.bool_str _ _ _⟩
  |tup c k' d b=>show⟨.bool_tuple _ b a,.bool_tuple _ b a⟩
  |lst c k' d b=>show⟨.bool_list _ b a,.bool_list _ b a⟩
 |int =>
  cases h' with
  |AM=>show⟨.int_none _ _,.int_none _ _⟩
  |bl=>show⟨.int_bool _ _ _,.int_bool _ _ _⟩
  |int=>show⟨.int_int _ _ _ _,.int_int _ _ _ _⟩
  |str=>show⟨.int_str _ _ _ _,.int_str _ _ _ _⟩
  |tup c k' d b=>show⟨.int_tuple _ _ b a,.int_tuple _ _ b a⟩
  |lst c k' d b=>show⟨.int_list _ _ b a,.int_list _ _ b a⟩
 |str =>
  cases h' with
  |AM=>show⟨.str_none _ _,.str_none _ _⟩
  |bl=>show⟨.str_bool _ _ _,.str_bool _ _ _⟩
  |int=>show⟨.str_int _ _ _ _,.str_int _ _ _ _⟩
  |str=>show⟨.str_str _ _ _ _,.str_str _ _ _ _⟩
  |tup c k' d b=>show⟨.str_tuple _ _ b a,.str_tuple _ _ b a⟩
  |lst c k' d b=>show⟨.str_list _ _ b a,.str_list _ _ b a⟩
 |tup l k y p =>
  cases h' with
  |AM=>show⟨.tuple_none p a,.tuple_none p a⟩
  |bl=>show⟨.tuple_bool _ p a,.tuple_bool _ p a⟩
  |int=>show⟨.tuple_int _ _ p a,.tuple_int _ _ p a⟩
  |str=>show⟨.tuple_str _ _ p a,.tuple_str _ _ p a⟩
  |tup c k' d b=>rw[show a_ (.tup _) (.tup _)=_ from y_ l c];show⟨.tuples p b a (go rfl k k'),.tuples p b a (go rfl k k')⟩
  |lst c k' d b=>show⟨.tuple_list p b a,.tuple_list p b a⟩
 |lst l k y p =>
  cases h' with
  |AM=>show⟨.list_none p a,.list_none p a⟩
  |bl=>show⟨.list_bool _ p a,.list_bool _ p a⟩
  |int=>show⟨.list_int _ _ p a,.list_int _ _ p a⟩
  |str=>show⟨.list_str _ _ p a,.list_str _ _ p a⟩
  |tup c k' d b=>show⟨.list_tuple p b a,.list_tuple p b a⟩
  |lst c k' d b =>
   rename_i us _ _ ws _ _;by_cases q:us.length=ws.length
   .rw[show a_ (.lst us) (.lst ws)=_ from dz q,l,<-i5];show⟨.lists p b (by simp;lia) a (go rfl k k'),.lists p b (by simp;lia) a (go rfl k k')⟩
   .rw[show a_ (.lst us) (.lst ws)=cb from fP q];show⟨.lists_lengths p b (by simp;lia) a,.lists_lengths p b (by simp;lia) a⟩
def za:∀{n:Nat}{u w:U}{x a:eh}{A:Gp},A7 s n u x->A7 s n w a->A.units+n<y0->K7 A s x a (a_ u w):=by
 intro n;induction n with
 |zero=>intro u w x a A h h' b;show pe h (Ir (λm e=>by cases e) h h' b).1 λe=>by subst e;rw[h.inj h'];show h'.self
 |succ n c=>intro u w x a A h h' b;show pe h (Ir (λm e=>by cases e;show c) h h' b).1 λe=>by subst e;rw[h.inj h'];show h'.self
def zb(h:A7 s n u x)(h':A7 s n w a)(b:A.units+n<y0):OH A s x a (a_ u w)/\P8 A s x a (!a_ u w):=Ir (λm e=>by cases e;show za) h h' b
end
end TM
namespace TM
open PySem L2 PyProof.Rows
abbrev AR(C:Ct)(m:M (Kd×U)):TE:=λσ H Q=>∃a:Cf,a.σ=σ/\a.H=H/\Ok C a/\W m a.st λr st'=>∀c v,c.σ=σ->c.st=st'->Ok C c->Nx a c->ay C a c r.1 r.2 v->Q v c.H
abbrev Bu(C:Ct)(m:M Bool):TT:=λσ H Q=>∃a:Cf,a.σ=σ/\a.H=H/\Ok C a/\W m a.st λb st'=>∀c,c.σ=σ->c.st=st'->Ok C c->Nx a c->Q b c.H
def b9(C:Ct)(b c:Cf):List (Kd×U)->List V->Prop
 |[],a=>a=[]
 |r::rs,a=>∃v t,a=v::t/\dw C b c r.1 r.2 v/\b9 C b c rs t/\(r.1=.own->∀(i:Nat) d e,rs[i]?=a5 d->t[i]?=a5 e->d.1=.own->e≠v)
abbrev BE(C:Ct)(m:M (List (Kd×U))):TA:=λσ H Q=>∃a:Cf,a.σ=σ/\a.H=H/\Ok C a/\W m a.st λrs st'=>∀c b,c.σ=σ->c.st=st'->Ok C c->Nx a c->b9 C a c rs b->Q b c.H
section
def PE.weak(h:PE X e t)(i:∀σ H Q,t' σ H Q->t σ H Q):PE X e t':=λa s σ H Q I q=>h a s σ H Q I (i σ H Q q)
def PT.weak(h:PT X e t)(i:∀σ H Q,t' σ H Q->t σ H Q):PT X e t':=λa s σ H Q I q=>h a s σ H Q I (i σ H Q q)
def bB{st:aq}:W (ao rs) st Q↔aS rs st/\Q () st:=by
 constructor
 .rintro⟨a,st',e,h⟩;unfold ao at e;split at e
  .cases e;show⟨by assumption,h⟩
  .cases e
 .rintro⟨b,c⟩;show⟨(),st,by unfold ao;rw[Q8 b],c⟩
def dP{st:aq}:aS (r::rs) st↔aS [r] st/\aS rs st:=by
 have⟨k,u⟩:=r;cases k<;>simp[aS]
def dw.t(h:dw C a c k u v)(s:aS [(k,u)] c.st):ay C a c k u v:=by
 cases k with
 |bor j=>show⟨s.1,h⟩
 |_=>show h
structure Gb(C:Ct)(c0 c:Cf)(x y:Kd×U)(vx vy:V):Prop where
 hσ:c.σ=c0.σ
 ok:Ok C c
 nx:Nx c0 c
 rx:ay C c0 c x.1 x.2 vx
 ry:ay C c0 c y.1 y.2 vy
 ne:x.1=.own->y.1=.own->vy≠vx
def kG(h:dw C j b k u v)(h':dw C b c k' u' d):k=.own->k'=.own->d≠v:=by
 rintro rfl rfl e;obtain⟨r,f,_,_,_,g⟩:=h;obtain⟨l,i,a,_⟩:=h';obtain⟨o,ho,_⟩:=g.some;subst f;rw[i]at e;cases e;rw[ho]at a;cases a
def two{k:Kd×U->Kd×U->M β}{o:β->aq->Prop}{f:eh->eh->Sem α}{Q':eh->eh->α->gs->Prop}(Q:PE X a (AR C T))(Y:PE X b (AR C D))(I:Inv X e d.σ d.H s)(ok:Ok C d)
  (h:W (T >>= λx=>D >>= λy=>ao [x,y] >>= λ_=>k x y) d.st o)
  (hf:∀x y c i l v u s2,Gb C d c x y i l->Inv X e c.σ c.H s2->RelV i v->RelV l u->W (k x y) c.st o->gi (ko X.prog X.w) X.A (f v u) (Q' v u) X.xe s2) :
  gi (ko X.prog X.w) X.A (Ew a X.env) (λv s₁=>gi (ko X.prog X.w) X.A (Ew b X.env) (λu s₂=>gi (ko X.prog X.w) X.A (f v u) (Q' v u) X.xe s₂) X.xe s₁) X.xe s:=by
 rw[ab]at h;show AO (Q e s d.σ d.H (λi G=>∃x g,g.H=G/\g.σ=d.σ/\Ok C g/\Nx d g/\ay C d g x.1 x.2 i/\W (D >>= λy=>ao [x,y] >>= λ_=>k x y) g.st o) I ⟨d,rfl,rfl,ok,h.mono λx st1 p g i q e2 r z B=>⟨x,g,rfl,q,r,z,B,by rw[e2];show p⟩⟩) ?_;rintro v s1 ⟨i,G,I1,rv,x,g,rfl,q,r,z,B,p⟩;rw[ab]at p;show AO (Y e s1 d.σ g.H (λl J=>∃y j,j.H=J/\Gb C d j x y i l/\W (k x y) j.st o) I1 ⟨g,q,rfl,r,p.mono λy st2 m j l L e4 Bg N O=>?_⟩) ?_
 .rw[ab,bB]at m;subst e4;rw[dP]at m;show⟨y,j,rfl,⟨L,Bg,z.trans N,(B.w.on r N (L.trans q.symm)).t m.1.1,(O.from z),kG B.w O.w⟩,m.2⟩
 .rintro u s2 ⟨l,J,I2,ru,y,j,rfl,n,m⟩;have hs:j.σ=d.σ:=n.hσ;show hf x y j i l v u s2 n (by rw[hs];show I2) rv ru m
structure Fc(C:Ct)(c0 c:Cf)(x:Kd×U)(vx:V):Prop where
 hσ:c.σ=c0.σ
 ok:Ok C c
 nx:Nx c0 c
 rx:ay C c0 c x.1 x.2 vx
abbrev bz(C:Ct)(a:Cf)(Q:VK)(r:Kd×U)(st':aq):Prop:=∀c v,c.σ=a.σ->c.st=st'->Ok C c->Nx a c->ay C a c r.1 r.2 v->Q v c.H
section
def bz.flat(h:bz C a Q (.loc,u) c.st)(b:c.σ=a.σ)(ok:Ok C c)(n:Nx a c)(r:Rep C c.S c.H u v):Q v c.H:=h c v b rfl ok n r
def bz.list(h:bz C a Q (.own,.lst us) c.st)(d:c.σ=a.σ)(ok:Ok C c)(n:Nx a c)(r:ag C c.S c.H us b)(p:hA)(e:c.H p=b6):Q (.ref p) (upd c.H p (.lst b)):=by
 have⟨f,g,i⟩:=ok.newList n e r;show h {c with H:=upd c.H p (.lst b)} _ d rfl f g i
def bz.tup(h:bz C a Q (.loc,.tup us) c.st)(d:c.σ=a.σ)(ok:Ok C c)(n:Nx a c)(r:ag C c.S c.H us b)(p:hA)(e:c.H p=b6):Q (.ref p) (upd c.H p (.tup b)):=by
 have⟨f,g,i⟩:=ok.xu n e r;show h {c with H:=upd c.H p (.tup b)} _ d rfl f g i
def bz.tupK(h:bz C d Q (kE k,.tup us) c.st)(e:c.σ=d.σ)(ok:Ok C c)(n:Nx d c)(r:ag C (SK C c k) c.H us a)(p:hA)(f:c.H p=b6):Q (.ref p) (upd c.H p (.tup a)):=by
 have⟨g,b⟩:=ok.lay (o:=.tup a) f;show h {c with H:=upd c.H p (.tup a)} _ e rfl g (n.trans b) (ay.item ?_);cases k<;>show⟨p,a,rfl,Bb.of aC,by first|show r.mv (ok.E9 b)|show r.mv (ok.mv b)⟩
def b_(h:ie k us=b5)(r:ag C (SK C c k) c.H us a):ag C c.S c.H us a:=by
 cases k with
 |any=>show r.A9 (by simpa[ie,isAny] using h)
 |_=>show r
end
def uY:BF X (J2 .Add) (λx y H Q=>∃l b xs c,x=.ref l/\y=.ref b/\A_ X.K H l xs/\A_ X.K H b c/\xs.length+c.length<=df/\∀p,H p=b6->Q (.ref p) (upd H p (.lst (xs++c)))):=by
 intro f s σ H x y v u Q I o t h;have⟨l,b,xs,c,rfl,rfl,w,A,hz,q⟩:=h;cases o;cases t;have⟨d,r,B,z⟩:=I.list w;have⟨e,g,C,O⟩:=I.list A;have hl:=r.length;have CS:=g.length;obtain⟨⟨cls,dd,data,D⟩,ho,i,n,j⟩:=B.isList;obtain⟨⟨T,G,data2,J⟩,k,m,L,a⟩:=C.isList;simp only at i j m a;subst i j m a;show concat_meets ⟨_,ho,rfl⟩ ⟨_,k,rfl⟩ noFill_list_add seq_list_add PySem.F.slot_list_add PySem.F.entry_list_add (PySem.F.args_list_add_2 _ _)
   (list_addW l b d.toArray e.toArray n L dd G D J (by rw[i5,i5];lia)) ⟨ho,k,?_⟩
 have N:d.toArray++e.toArray=(d++e).toArray:=by simp
 rw[N];show⟨.ref _,_,I.yV (t':=s.toks) (r.append g) (by rw[mh];lia),rfl,q _ I.fresh⟩
end
section
variable{X:Cx}{C:Ct}{pins:List (hA×Obj)}{s:gs}{c0 c:Cf}{Q:VK}
abbrev GS.op:GS->Operator
 |.add=>.Add|.sub=>.Sub|.mul=>.Mult|.Cc=>.FloorDiv|.mod=>.Mod|.pow=>.Pow
theorem pf{S:hA->Prop}(h:ag C S H us a):∀k:Nat,ag C S H (g5 k us).flatten (g5 k a).flatten
 |0=>rfl
 |k+1=>by
  rw[Eh,Eh,FJ,FJ];show h.append (pf h k)
def uZ:BF X (J2 .Mult) (λx y H Q=>∃l k xs,x=.ref l/\y=.int k/\Rd H l (.lst xs)/\-(2 ^ 63)<=k/\k<2 ^ 63/\xs.length * k.toNat<=df/\∀p,H p=b6->Q (.ref p) (upd H p (.lst (g5 k.toNat xs).flatten))):=by
 intro pins s σ H x y v u Q I i j h;have⟨l,k,xs,rfl,rfl,o,w,A,hz,q⟩:=h;cases i;have⟨t,rfl⟩:=j;have⟨z,b,n,r,e⟩:=o.ok I.AJ;have hl:=r.length;have d:b.toArray.size * k.toNat<=df:=by rw[i5,<-hl];show hz
 have B:¬b.toArray.size * k.toNat>(2 ^ 63 - 1) / 8:=by
  have:(df:Nat)<=(2 ^ 63 - 1) / 8:=by decide
  lia
 have D:¬(!QF k)=b5:=by
  rw[fitsIndex_both w A];show mA
 have G:¬CW (b.toArray.size * k.toNat)=b5:=by
  rw[lE d];show mA
 have J:OS (λf g=>f++g) #[] (g5 (if b.toArray.isEmpty=b5 then 0 else k.toNat) b.toArray)=(g5 k.toNat b).flatten.toArray:=by
  have L:∀m:Nat,OS (λf g=>f++g) #[] (g5 m b.toArray)=(g5 m b).flatten.toArray:=λm=>by
   have:=foldl_rep b m [];rw[uv]at this;show this
  rw[L];cases b with
  |nil=>simp
  |cons a N=>rw[Q9 (by simp)]
 show wpAny_binaryOp_repeat_ref (T:="list") (U:="int") (by decide) ⟨_,e,rfl⟩ (λs'=>Oh s' k t) noFill_list_mul F.fills_int_mul Qn repeat_list F.slot_int_index.lookup
  (Hw Qn (Oh s k t) F.entry_int_rmul (F.args_int_rmul_2 _ _) (int___rmul___int_list k t l b.toArray n)
   ⟨e,rfl,⟨_,e,rfl⟩,Hw F.slot_list_mul ⟨_,e,rfl⟩ F.entry_list_mul (F.args_list_mul_2 _ _) (AutoListH.list___mul___list_int_3 l b.toArray n k t D B G) ⟨e,?_⟩⟩)
 rw[J];show⟨.ref _,_,I.yV (t':=s.toks) (r.rep k.toNat) (by rw[len_rep,Qy];show hz),rfl,q _ I.fresh⟩
def cI(h:kD f a b=a5 r):∃i j o,a=.int i/\b=.int j/\f i j=a5 o/\r=(.loc,.int o):=by
 unfold kD at h;split at h
 .rw[eH]at h;have⟨o,e,rfl⟩:=h;show⟨_,_,o,rfl,rfl,e,rfl⟩
 .cases h
def xF(O:C.K=X.K)(t:Gb C c0 c x y f g)(I:Inv X pins c.σ c.H s)(k:RelV f v)(l:RelV g u)(h:B7 op x y=a5 r)(q:bz C c0 Q r c.st):
  gi (ko X.prog X.w) X.A (J2 op.op v u) (EP X pins c.σ Q) X.xe s:=by
 obtain⟨m,ok,n,z,B,_⟩:=t;cases op with
 |add =>
  have h:qw x y=a5 r:=h;unfold qw at h;split at h
  .have ex:=z.int ok;have d:=B.int ok;cases h;show d9 pins s c.σ c.H f g v u Q I k l ⟨_,_,ex,d,q.flat m ok n rfl⟩
  .have ex:=z.str ok;have d:=B.str ok;split at h
   .cases h;show mT pins s c.σ c.H f g v u Q I k l ⟨_,_,ex,d,by assumption,q.flat m ok n rfl⟩
   .cases h
  .have⟨a,G,ex,J,D⟩:=z.list ok;have⟨b,ws,d,Y,T⟩:=B.list ok;split at h
   .rename_i hh;cases h;show uY pins s c.σ c.H f g v u Q I k l ⟨a,b,G,ws,ex,d,O▸J,O▸Y,by rw[<-D.len,<-T.len];show hh.1,λp L=>q.list m ok n ((b_ hh.2.1 D).append (b_ hh.2.2 T)) p L⟩
   .cases h
  .cases h
 |sub =>
  have⟨i,j,o,ex,d,e,rfl⟩:=cI h;have ex:=(ex▸z).int ok;have d:=(d▸B).int ok;cases e;show mR pins s c.σ c.H f g v u Q I k l ⟨_,_,ex,d,q.flat m ok n rfl⟩
 |mul =>
  by_cases hl:oX x.2=b5
  .have h:(if oX x.2=b5 then l7 x y.2 else kD qx x.2 y.2)=a5 r:=h;rw[Q8 hl]at h;have⟨k',uy⟩:=y;unfold l7 at h;split at h
   .rename_i Fd n0 N MD h0;have N:uy=.int n0:=N;subst N;obtain⟨a,ex,_,_,_,G,J,D⟩:=z;have d:=B.int ok;split at h
    .rename_i hh;cases h;show uZ pins s c.σ c.H f g v u Q I k l ⟨a,_,G,ex,d,.inl J,hh.1,hh.2.1,by rw[<-D.len];show hh.2.2,λp L=>q.list m ok n (pf D _) p L⟩
    .cases h
   .cases h
  have h:(if oX x.2=b5 then l7 x y.2 else kD qx x.2 y.2)=a5 r:=h;rw[Q9 hl]at h;have⟨i,j,o,ex,d,e,rfl⟩:=cI h;have ex:=(ex▸z).int ok;have d:=(d▸B).int ok;unfold qx at e;split at e
  .cases e;show jV pins s c.σ c.H f g v u Q I k l ⟨_,_,ex,d,by assumption,q.flat m ok n rfl⟩
  .cases e
 |Cc =>
  have⟨i,j,o,ex,d,e,rfl⟩:=cI h;have ex:=(ex▸z).int ok;have d:=(d▸B).int ok;unfold uS at e;split at e
  .cases e;show uh pins s c.σ c.H f g v u Q I k l ⟨_,_,ex,d,by assumption,q.flat m ok n rfl⟩
  .cases e
 |mod =>
  have⟨i,j,o,ex,d,e,rfl⟩:=cI h;have ex:=(ex▸z).int ok;have d:=(d▸B).int ok;unfold uT at e;split at e
  .cases e;show bX pins s c.σ c.H f g v u Q I k l ⟨_,_,ex,d,by assumption,q.flat m ok n rfl⟩
  .cases e
 |pow =>
  have⟨i,j,o,ex,d,e,rfl⟩:=cI h;have ex:=(ex▸z).int ok;have d:=(d▸B).int ok;unfold uU at e;split at e
  .cases e;show jW pins s c.σ c.H f g v u Q I k l ⟨_,_,ex,d,by assumption,q.flat m ok n rfl⟩
  .cases e
def u3(d:C.K=X.K)(f:PE X a (AR C g))(i:PE X b (AR C j)):PE X (.BinOp a op.op b pos) (AR C (g >>= λx=>j >>= λy=>ao [x,y] >>= λ_=>M.AZ (B7 op x y))):=by
 rintro pins s σ H Q I ⟨c0,rfl,rfl,ok,h⟩;show wpAny_BinOp (two f i I ok h λx y c n o v u s2 t k l m w=>?_);have⟨r,e,q⟩:=bM.mp w;show AO (xF d t k l m e q) λ_ _ z=>by rw[t.hσ]at z;show z
abbrev Ga.op:Ga->CmpOp
 |.eq=>.Eq|.ne=>.NotEq|.lt=>.Lt|.le=>.LtE|.gt=>.Gt|.ge=>.GtE|.isin=>.In|.AL=>.NotIn|.is=>.Is|.Ip=>.IsNot
def zc{f:Bool}(I:Inv X pins c.σ c.H s)(o:C.K=X.K)(Y:X.A.units+60<y0){S:hA->Prop}(u:Rep C S c.H x t)(z:RelV t v)(B:ag C S c.H m r)
  (ha:A_ C.K c.H a r\/Bb C.K c.H a r) (D:Bp 50 x=b5) (G:fq 50 m=b5) {Q:eh->gs->Prop} (q:Q (.bool (if f then !(m.any λy=>a_ y x) else m.any λy=>a_ y x)) s) :
  gi (ko X.prog X.w) X.A (Gm (if f then .NotIn else .In) v (.ref a)) Q X.xe s:=by
 have J:=A7.of I o 50 x t v D u z;have go:∀d:List eh,Vals r d->∃e:eh->Bool,(∀y,y∈d.toArray->K7 X.A.in1 s y v (e y))/\d.toArray.any e=m.any λy=>a_ y x:=by
  intro d n;obtain⟨l,k,_⟩:=A7.uX (A7.of I o 50) G B n
  classical
  have q:∀j (b:j<d.length),et (∃w,A7 s 50 w d[j]/\a_ w x=b5)=a_ (m.getD j .AM) x:=λj b=>by
   rw[HW,decide_eq_true_iff];show⟨λ⟨w,g,i⟩=>by rw[<-g.inj (k j b)];show i,λh=>⟨_,k j b,h⟩⟩
  show⟨λy=>et (∃w,A7 s 50 w y/\a_ w x=b5),λy L=>?_,?_⟩
  .have⟨j,b,e⟩:=JI (show y∈d by simpa using L);subst e;change K7 _ _ _ _ (decide _);rw[q j b];show za (k j b) J (by change X.A.units+1+50 < _;lia)
  .rw[HW];simp only[List.any_toArray,Pr];constructor
   .rintro⟨y,N,h⟩;have⟨j,b,rfl⟩:=JI N;rw[q j b]at h;show⟨_,IF (l▸b),by simpa[l▸b] using h⟩
   .rintro⟨w,O,T⟩;have⟨j,b,rfl⟩:=JI O;show⟨_,IF (l▸b),by rw[q j (l▸b)];simpa[b] using T⟩
 rcases ha with ha|ha
 .obtain⟨d,n,p,_⟩:=pd I (o▸ha);have⟨e,g,i⟩:=go d n;cases f with
  |false=>show SeqAt.in_listAt e p g (by rw[i];show q)
  |true=>show SeqAt.notIn_listAt e p g (by rw[i];show q)
 .rw[o]at ha;obtain⟨d,n,p,_⟩:=I.tuple ha;have⟨e,g,i⟩:=go d n;cases f with
  |false=>show SeqAt.in_tupleAt e p g (by rw[i];show q)
  |true=>show SeqAt.notIn_tupleAt e p g (by rw[i];show q)
end
section
theorem aW:∀{us:List U}{ss:List Str},strsOf us=a5 ss->us=ss.map .str
 |[],ss,h=>by cases h;rfl
 |.str x::us,ss,h=>by
  simp only[strsOf,eH]at h;have⟨t,a,rfl⟩:=h;rw[aW a];rfl
 |.AM::_,_,h=>by cases h
 |.bl _::_,_,h=>by cases h
 |.int _::_,_,h=>by cases h
 |.tup _::_,_,h=>by cases h
 |.lst _::_,_,h=>by cases h
 |.Bo _ _::_,_,h=>by cases h
 |.Bc _::_,_,h=>by cases h
theorem iu:∀{us:List U}{ss:List Bool},ig us=a5 ss->us=ss.map .bl
 |[],ss,h=>by cases h;rfl
 |.bl x::us,ss,h=>by
  simp only[ig,eH]at h;have⟨t,a,rfl⟩:=h;rw[iu a];rfl
 |.AM::_,_,h=>by cases h
 |.str _::_,_,h=>by cases h
 |.int _::_,_,h=>by cases h
 |.tup _::_,_,h=>by cases h
 |.lst _::_,_,h=>by cases h
 |.Bo _ _::_,_,h=>by cases h
 |.Bc _::_,_,h=>by cases h
theorem ag.JW{S:hA->Prop}:∀{xs:List Bool}{a:List V},ag C S H (xs.map .bl) a->a=xs.map V.bl
 |[],a,h=>h
 |x::xs,a,h=>by
  have⟨v,r,rfl,b,c⟩:=h;rw[ag.JW c];have:v=.bl x:=b;rw[this];rfl
abbrev zd(r:bN):U:=.tup [.str r.1,.tup (r.2.map .str)]
def eM(h:rowOf u=a5 r):u=zd r:=by
 unfold rowOf at h;split at h
 .rw[eH]at h;have⟨ss,a,rfl⟩:=h;rw[aW a];rfl
 .cases h
abbrev xG(X:Cx)(a:List (hA×Obj))(c:Cf)(b:Bool)(v:eh)(s':gs):Prop:=v=.bool b/\Inv X a c.σ c.H s'
def cX(o:BF X f r)(I:Inv X a c.σ c.H s)(g:RelV d v)(i:RelV e u)(h:r d e c.H λx H'=>x=.bl b/\H'=c.H):
  gi (ko X.prog X.w) X.A (f v u) (xG X a c b) X.xe s :=
 AO (o a s c.σ c.H d e v u _ I g i h) λw s' j=>by
  have⟨z,H',k,r,l,m⟩:=j;subst l m;show⟨r,k⟩
def ay.dict(ok:Ok C c)(h:ay C l c k (.Bo i us) v):∃a b,v=.ref a/\c.H a=a5 (.dK b)/\b.map (·.1)=i.map DM/\ag C (SK C c k) c.H us (b.map (·.2)):=by
 cases k with
 |own=>obtain⟨r,e,_,_,_,b,d,f,g⟩:=h;show⟨r,b,e,d,f,g⟩
 |bor j=>obtain⟨r,e,_,_,_,b,d,f,g⟩:=ok.rootOf h.1 h.2;show⟨r,b,e,d,f,g⟩
 |io=>show h.elim
 |AK=>show h.elim
 |_=>obtain⟨a,e,_,b,d,f,g⟩:=h;show⟨a,b,e,d,f,g⟩
def ay.oW(ok:Ok C c)(h:ay C d c k (.Bc b) v):∃a,v=.ref a/\da C.P C.w C.K c.H a b:=by
 cases k with
 |own=>obtain⟨r,e,_,_,_,h⟩:=h;show⟨r,e,h⟩
 |bor j=>obtain⟨r,e,_,_,_,h⟩:=ok.rootOf h.1 h.2;show⟨r,e,h⟩
 |io=>show h.elim
 |AK=>show h.elim
 |_=>obtain⟨a,e,_,h⟩:=h;show⟨a,e,h⟩
theorem fQ{S:hA->Prop}:∀{c:List Str}{us:List U}{b:List (Key×V)},b.map (·.1)=c.map DM->ag C S H us (b.map (·.2)) ->
  (∀u,sg c us x=a5 u->∃v,eX b (DM x)=a5 v/\Rep C S H u v)/\(eX b (DM x)).isSome=et (x∈c)
 |[],us,b,a,d=>by
  have:b=[]:=by simpa using a
  subst this;show⟨λu h=>by cases us<;>simp[sg]at h,by simp[eX]⟩
 |k::c,us,[],a,d=>by simp at a
 |k::c,[],p::b,a,d=>by simp[ag]at d
 |k::c,m::us,p::b,a,d=>by
  have⟨v,r,e,g,i⟩:=d;rw[kT]at e;cases e;rw[kT,kT,Na]at a;have⟨j,l⟩:=fQ (x:=x) a.2 i;by_cases hk:k=x
  .subst hk;show⟨λu h=>?_,?_⟩
   .simp[sg]at h;subst h;show⟨p.2,dq a.1,g⟩
   .rw[dq a.1];simp
  .have f:¬p.1=DM x:=by rw[a.1];intro z;show hk (N6 z)
   show⟨λu h=>?_,?_⟩
   .simp[sg,hk]at h;have⟨v,e,q⟩:=j u h;show⟨v,by rw[dr f];show e,q⟩
   .rw[dr f,l];simp[Eu hk]
def xH(f:X.A.units+3<y0):BF X (Gm .In) (λx y H Q=>∃k d c,cG X.K H x k/\y=.ref d/\da X.prog X.w X.K H d c/\Q (.bl (et (k∈c))) H):=by
 intro e s σ H x y v u Q I g i h;obtain⟨k,d,c,⟨a,b,rfl,j,l⟩,rfl,⟨xs,m,n,o⟩,q⟩:=h;cases g;cases i;have⟨p,dd⟩:=gZ I m o;show wpAny_in_heap f (fe I ⟨a,b,rfl,j,l⟩) p dd ?_;show⟨.bl (et (k∈c)),H,I.tok _,by rw[ez,n];rfl,q⟩
def Rep.row{S:hA->Prop}(h:Rep C S H (zd r) v):cG C.K H v r:=by
 have⟨a,p,e,d,f,q,g,i,s,t,j,k,l⟩:=h;cases l;have m:f=.str r.1:=i;have⟨b,ws,n,o,c⟩:=k;rw[ag.strs]at c;subst g j m n c;show⟨a,b,e,d,o⟩
def sk(hP:C.P=X.prog)(hw:C.w=X.w)(m:C.K=X.K)(O:X.A.units+60<y0)(t:Gb C c0 c x y G Q)(I:Inv X l c.σ c.H s)(f:RelV G v)(g:RelV Q u)(h:bo op x.2 y.2=a5 b):
  gi (ko X.prog X.w) X.A (Gm op.op v u) (xG X l c b) X.xe s:=by
 obtain⟨hσ,ok,n,o,j,_⟩:=t;have⟨kx,ux⟩:=x;have⟨ky,uy⟩:=y
 dsimp only at h o j
 have has:∀d:Bool,∀q,uV ux uy=a5 q->gi (ko X.prog X.w) X.A (Gm (if d then .NotIn else .In) v u) (xG X l c (if d then !q else q)) X.xe s:=by
  intro d q h;have D:=o.read ok;have J:=j.read ok;unfold uV at h;split at h
  .have⟨a,vs,rfl,i,p⟩:=J;cases g;unfold EE at h;split at h
   .rename_i hh;cases h;show zc I m O D f p (.inl i.sq) hh.1 hh.2 ⟨by cases d<;>rfl,I⟩
   .cases h
  .have⟨a,vs,rfl,i,p⟩:=J;cases g;unfold EE at h;split at h
   .rename_i hh;cases h;show zc I m O D f p (.inr i) hh.1 hh.2 ⟨by cases d<;>rfl,I⟩
   .cases h
  .cases h;have ex:G=_:=D;have T:Q=_:=J;cases d with
   |false=>show cX qe I f g ⟨_,_,ex,T,rfl,rfl⟩
   |true=>show cX j5 I f g ⟨_,_,ex,T,rfl,rfl⟩
  .cases h;have ex:G=_:=D;have⟨a,AF,rfl,i,p,B⟩:=j.dict ok;cases g;subst ex;have hs:=λz:Str=>(fQ (x:=z) p B).2;cases d with
   |false=>show Ap ⋯ I (qm.k (k:=DM _) i) f λs' L=>⟨by rw[hs];rfl,L⟩
   |true=>show uB ⋯ I (qm.k (k:=DM _) i) f λs' L=>⟨by rw[hs];rfl,L⟩
  .rw[eH]at h;have⟨r,i,p⟩:=h;have e:=eM i;subst e;have N:=D.row;have⟨a,Y,B⟩:=j.oW ok;rw[m]at N B;rw[hP,hw]at B;subst p;cases d with
   |false=>show cX (xH ⋯) I f g ⟨r,a,_,N,Y,B,rfl,rfl⟩
   |true=>show cX (qp ⋯) I f g ⟨r,a,_,N,Y,B,rfl,rfl⟩
  .cases h
 unfold bo at h;split at h
 .split at h
  .rename_i hh;cases h;show(zb (n:=50) (.of I m _ _ _ _ hh.1 (o.read ok) f) (.of I m _ _ _ _ hh.2 (j.read ok) g) ⋯).1 _ _ _ _ ⟨rfl,I⟩
  .cases h
 .split at h
  .rename_i hh;cases h;show(zb (n:=50) (.of I m _ _ _ _ hh.1 (o.read ok) f) (.of I m _ _ _ _ hh.2 (j.read ok) g) ⋯).2 _ _ _ _ ⟨rfl,I⟩
  .cases h
 .cases h;show cX yM I f g ⟨_,_,o.int ok,j.int ok,rfl,rfl⟩
 .cases h;show cX yN I f g ⟨_,_,o.int ok,j.int ok,rfl,rfl⟩
 .cases h;show cX yO I f g ⟨_,_,o.int ok,j.int ok,rfl,rfl⟩
 .show has cb b h
 .rw[eH]at h;have⟨q,i,rfl⟩:=h;show has b5 q i
 .cases h
def u4(f:C.P=X.prog)(g:C.w=X.w)(i:C.K=X.K)(j:X.A.units+60<y0)(k:PE X a (AR C l))(m:PE X b (AR C n))(o:OC op.op b=cb):
  PE X (.Compare a [op.op] [b] pos) (AR C (l >>= λx=>n >>= λy=>ao [x,y] >>= λ_=>M.AZ (bo op x.2 y.2) >>= λc=>pure (.loc,.bl c))):=by
 rintro d s σ H Q I ⟨L,rfl,rfl,ok,h⟩;show wpAny_Compare1 (two k m I ok h λx y c N O v u s2 t p B D w=>?_) o;rw[ab]at w;have⟨r,e,q⟩:=bM.mp w;rw[af]at q;show AO (sk f g i j t p B D e) λz s' G=>?_;have⟨e,J⟩:=G;subst e;show⟨.bl r,c.H,by rw[<-t.hσ];show J,rfl,q c (.bl r) t.hσ rfl t.ok t.nx rfl⟩
def u5(g:C.P=X.prog)(i:C.w=X.w)(j:C.K=X.K)(k:X.A.units+60<y0)(l:PE X a (AR C m))(n:PE X b (AR C o))(p:OC op.op b=cb):
  PT X (.Compare a [op.op] [b] pos) (Bu C (m >>= λx=>o >>= λy=>ao [x,y] >>= λ_=>M.AZ (bo op x.2 y.2))):=by
 rintro d s σ H Q I ⟨B,rfl,rfl,ok,h⟩;show wpAny_isTrue_Compare1 (two (f:=λv u=>Gm op.op v u) (Q':=λ_ _ c s=>gi (ko X.prog X.w) X.A (QM c) (TP X d B.σ Q) X.xe s) l n I ok h λx y c O T v u s2 t D G J w=>?_) p;have⟨r,e,q⟩:=bM.mp w;show AO (sk g i j k t D G J e) λz s' L=>?_;have⟨e,N⟩:=L;subst e;show FR ⟨c.H,by rw[<-t.hσ];show N,q c t.hσ rfl t.ok t.nx⟩
end
section
abbrev ze(C:Ct)(a:Cf)(Q:Bool->Hp->Prop)(b:Bool)(st':aq):Prop:=∀c,c.σ=a.σ->c.st=st'->Ok C c->Nx a c->Q b c.H
def xI(c:a.σ=b.σ)(ok:Ok C a)(n:Nx b a)(h:W m a.st (bz C b Q)):AR C m b.σ a.H Q :=
 ⟨a,c,rfl,ok,h.mono λr st d e v f g i j k=>d e v f g i (n.trans j) (k.from n)⟩
def sm(c:a.σ=b.σ)(ok:Ok C a)(n:Nx b a)(h:W m a.st (ze C b Q)):Bu C m b.σ a.H Q :=
 ⟨a,c,rfl,ok,h.mono λr st d e f g i j=>d e f g i (n.trans j)⟩
def aI(ok:Ok C a)(h:W (b >>= k) a.st d)
  (hz:∀x c v,Fc C a c x v->W (k x) c.st d->Z v c.H):AR C b a.σ a.H Z:=by
 rw[ab]at h;show⟨a,rfl,rfl,ok,h.mono λx st1 e f g i j l m n=>hz x f g ⟨i,l,m,n⟩ (by rw[j];show e)⟩
def dA(ok:Ok C a)(h:W (d >>= k) a.st e)
  (hz:∀b c,c.σ=a.σ->Ok C c->Nx a c->W (k b) c.st e->Z b c.H):Bu C d a.σ a.H Z:=by
 rw[ab]at h;show⟨a,rfl,rfl,ok,h.mono λx st1 f g i j l m=>hz x g i l m (by rw[j];show f)⟩
abbrev zf(m:M (Kd×U))(x:Kd×U):M (Kd×U):=match x.2 with
 |.bl b5=>m
 |.bl cb=>pure (.loc,.bl cb)
 |_=>M.fail
abbrev zg(x:Kd×U):M (Kd×U):=match x.2 with
 |.bl c=>pure (.loc,.bl !c)
 |_=>M.fail
def snd_and(i:PE X a (AR C j))(l:PE X (.BoolOp .And (b::d) pos) (AR C m)):PE X (.BoolOp .And (a::b::d) pos) (AR C (j >>= zf m)):=by
 show PE.weak (wL i l) ?_;rintro σ H Q ⟨o,rfl,rfl,ok,h⟩;show aI ok h λx c v t w=>?_;have⟨k,u⟩:=x;have⟨g,f,n,r⟩:=t;unfold zf at w;split at w
 .rename_i e
  dsimp only at e r
  subst e;show⟨b5,r.bl f,by rw[Q8 rfl];show xI g f n w⟩
 .rename_i e
  dsimp only at e r
  subst e;rw[af]at w;show⟨cb,r.bl f,by rw[Q9 mA];show w c (.bl cb) g rfl f n rfl⟩
 .show(aF.mp w).elim
def u6(d:PE X a (AR C f)):PE X (.UnaryOp .Not a pos) (AR C (f >>= zg)):=by
 show PE.weak (wM d) ?_;rintro σ H Q ⟨i,rfl,rfl,ok,h⟩;show aI ok h λx c v t w=>?_;have⟨k,u⟩:=x;have⟨g,b,n,r⟩:=t;unfold zg at w;split at w
 .rename_i e
  dsimp only at e r
  subst e;rw[af]at w;show⟨_,r.bl b,w c (.bl _) g rfl b n rfl⟩
 .show(aF.mp w).elim
def u7(d:PT X a (Bu C e)):PT X (.UnaryOp .Not a pos) (Bu C (e >>= λb=>pure !b)):=by
 show PT.weak (wJ d) ?_;rintro σ H Q ⟨i,rfl,rfl,ok,h⟩;show dA ok h λp c f g n w=>?_;rw[af]at w;show w c f rfl g n
def u9(j:PT X a (Bu C k))(l:PW X (.BoolOp .And (b::d) pos) (Bu C m)):PW X (.BoolOp .And (a::b::d) pos) (Bu C (k >>= λp=>if p=b5 then m else pure cb)):=by
 have o:=wI j l;rintro q e s σ H Q I ⟨f,rfl,rfl,ok,h⟩;show o q e s f.σ f.H Q I (dA ok h λp c g i n w=>?_);cases p with
 |true=>rw[Q8 rfl]at w ⊢;show sm g i n w
 |false=>rw[Q9 mA]at w ⊢;rw[af]at w;show w c g rfl i n
def xJ(j:PT X a (Bu C k))(l:PW X (.BoolOp .Or (b::d) pos) (Bu C m)):PW X (.BoolOp .Or (a::b::d) pos) (Bu C (k >>= λp=>if p=b5 then pure b5 else m)):=by
 have o:=yz j l;rintro q e s σ H Q I ⟨f,rfl,rfl,ok,h⟩;show o q e s f.σ f.H Q I (dA ok h λp c g i n w=>?_);cases p with
 |true=>rw[Q8 rfl]at w ⊢;rw[af]at w;show w c g rfl i n
 |false=>rw[Q9 mA]at w ⊢;show sm g i n w
def ph{us:List α}{a:List β}(h:us.length=a.length):(!us.isEmpty)=!a.isEmpty:=by
 cases us<;>cases a<;>simp_all
def gK(l:PE X a (AR C m))(j:C.K=X.K)(o:∀b,isTrue a X.env b=(do let v <-b;OW a.pos;IX [v] (QM v))):PT X a (Bu C (m >>= λx=>M.AZ (qz x.2))):=by
 show PT.weak (rj l o) ?_;rintro σ H Q ⟨y,rfl,rfl,ok,h⟩;show aI ok h λx c v t w=>?_;have⟨k,u⟩:=x;have⟨s,d,n,r⟩:=t;have⟨p,e,q⟩:=bM.mp w
 dsimp only at e r
 show⟨p,?_,q c s rfl d n⟩;unfold qz at e;split at e
 .cases e;rw[r.bl d];rfl
 .cases e;have⟨a,g,rfl,f,i⟩:=r.list d;show .inl ⟨g,j▸f,ph i.len⟩
 .cases e;have⟨a,g,rfl,f,i⟩:=r.tuple d;rw[j]at f;show .inr (.inl ⟨g,f,ph i.len⟩)
 .split at e
  .cases e;rw[r.str d];show⟨by assumption,rfl⟩
  .cases e
 .cases e
end
section
def b9.from(n:Nx b d):b9 C d c rs a->b9 C b c rs a:=by
 intro h;induction rs generalizing a with
 |nil=>show h
 |cons r rs f=>have⟨v,t,e,g,i,j⟩:=h;show⟨v,t,e,g.from n,f i,j⟩
def b9.get{i:Nat}(h:b9 C d c rs b)(e:rs[i]?=a5 r)(a:b[i]?=a5 v):dw C d c r.1 r.2 v:=by
 induction rs generalizing b i with
 |nil=>simp at e
 |cons k rs f =>
  have⟨l,t,rfl,g,j,m⟩:=h;cases i with
  |zero=>simp at e a;subst e a;show g
  |succ i=>show f j (by simpa using e) (by simpa using a)
def u_:PA X [] (BE C (pure [])):=by
 rintro pos a s σ H Q I ⟨b,rfl,rfl,ok,h⟩;rw[af]at h;show jY pos a s b.σ b.H Q I (h b [] rfl rfl ok (Nx.refl b) rfl)
def so(k:PE X e (AR C m))(l:PA X es (BE C ms))(hs:mu (e::es) X.env=(cb,Ew e X.env)::mu es X.env):PA X (e::es) (BE C (m >>= λr=>ms >>= λrs=>pure (r::rs))):=by
 rintro pos a s σ H Q I ⟨b,rfl,rfl,ok,h⟩;show eT k l hs pos a s b.σ b.H Q I (aI ok h λr n v t w=>?_);rw[ab]at w;show⟨n,t.hσ,rfl,t.ok,w.mono λrs st2 c o d f p q g j=>?_⟩;rw[af]at c;show c o (v::d) f p q (t.nx.trans g) ⟨v,d,rfl,t.rx.w.on t.ok g (f.trans t.hσ.symm),j.from t.nx,λhk i z A u x y=>?_⟩;show kG t.rx.w (j.get u x) hk y
structure Cy(C:Ct)(c0 c:Cf)(rs:List (Kd×U))(vs:List V):Prop where
 hσ:c.σ=c0.σ
 ok:Ok C c
 nx:Nx c0 c
 rep:b9 C c0 c rs vs
 Fe:aS rs c.st
def args{k:List (Kd×U)->M β}{e:β->aq->Prop}(j:PA X es (BE C ms))(I:Inv X a b.σ b.H s)(ok:Ok C b)(h:W (ms >>= λrs=>ao rs >>= λ_=>k rs) b.st e)(pos:Pos):
  gi (ko X.prog X.w) X.A (Qe (Fq pos (mu es X.env))) (λus s1=>∃rs c d,Cy C b c rs d/\Inv X a c.σ c.H s1/\Vals d us/\W (k rs) c.st e) X.xe s:=by
 rw[ab]at h;show AO (j pos a s b.σ b.H (λd i=>∃rs c,c.H=i/\Cy C b c rs d/\W (k rs) c.st e) I ⟨b,rfl,rfl,ok,h.mono λrs st1 f g d l m n o p=>?_⟩) ?_
 .rw[ab,bB]at f;subst m;show⟨rs,g,rfl,⟨l,n,o,p,f.1⟩,f.2⟩
 .rintro us s1 ⟨d,i,q,r,rs,g,rfl,t,w⟩;show⟨rs,g,d,t,by rw[t.hσ];show q,r,w⟩
def Cy.one(t:Cy C a c [r] b):∃v,b=[v]/\ay C a c r.1 r.2 v:=by
 obtain⟨v,t',rfl,d,e,_⟩:=t.rep;cases e;show⟨v,rfl,d.t t.Fe⟩
def Cy.two(t:Cy C b c [r,d] e):∃v a,e=[v,a]/\ay C b c r.1 r.2 v/\ay C b c d.1 d.2 a:=by
 obtain⟨v,t',rfl,f,⟨a,i,rfl,g,h,_⟩,_⟩:=t.rep;cases h;have hs:=dP.mp t.Fe;show⟨v,a,rfl,f.t hs.1,g.t hs.2⟩
def Ok.share(ok:Ok C c)(f:C.H₀ r=b6)(g:∃o,c.H r=a5 o)(hl:st'.length=c.st.length)
  (b:∀(i:Nat) k u,st'[i]?=a5 (a5 (k,u))->(∃v,c.σ[i]?=a5 (a5 v)/\du C (λa=>c.S a\/a=r) c.H k u v)/\(k.root=b5->c.st[i]?=a5 (a5 (k,u)))) (h:CF C {c with S:=λa=>c.S a\/a=r,st:=st' }) :
  Ok C {c with S:=λa=>c.S a\/a=r,st:=st' }:=by
 show⟨ok.same,λa z=>?_,ok.par,ok.io,by rw[show({c with S:=λa=>c.S a\/a=r,st:=st' }:Cf).st.length=st'.length from rfl,hl];show ok.len,λi k u e=>(b i k u e).1,λi j k k' u u' l hk d m n p q=>?_,h⟩
 .rcases z with z|rfl
  .show ok.Cv a z
  .show⟨f,g⟩
 .show ok.inj i j k k' u u' l hk d ((b i k u m).2 hk) ((b j k' u' n).2 d) p q
def Ok.xK(p:Ok C b)(ok:Ok C c)(n:Nx b c)(d:b.H r=b6)(f:¬c.R r)(s:cf C c.S c.H r u):
  Ok C {c with S:=λa=>c.S a\/a=r}/\Nx b {c with S:=λa=>c.S a\/a=r}:=by
 obtain⟨o,ho,_⟩:=s.some;show⟨ok.share (st':=c.st) (p.nB d).1 ⟨o,ho⟩ rfl (λi k u e=>⟨?_,λ_=>e⟩) (ok.dd.hs (.up λa=>.inl) λj a z=>⟨λq=>q.elim (ok.root (.inr ⟨j,z⟩)).1 λe=>f (.inr ⟨j,e▸z⟩),λo q=>q⟩),⟨⟨n.keep,n.there,n.roots,λa z=>.inl (n.sub a z),λa z=>?_⟩,n.all⟩⟩
 .have⟨v,g,h⟩:=ok.sl i k u e;have t:Mv c.S c.H (λa=>c.S a\/a=r) c.H:=.up λa=>.inl;show⟨v,g,h.mv t (.up λa z=>z.imp id .inl) λhk x l=>⟨?_,λo q=>q⟩⟩;obtain⟨y,m,w,_⟩:=h.rt hk;rw[l]at m;cases m;rintro(z|rfl)
  .show w z
  .show f (.inl ⟨i,k,u,hk,e,by rw[g,l]⟩)
 .rcases z with z|rfl
  .show n.new a z
  .show .inr (.inr d)
def Ok.sr(ok:Ok C c)(n:Nx D c)(f:c.st[j]?=a5 (a5 (.own,u)))(g:c.σ[j]?=a5 (a5 (.ref r))):
  Ok C {c with S:=λa=>c.S a\/a=r,st:=c.st.set j (a5 (.loc,u))}/\Nx D {c with S:=λa=>c.S a\/a=r,st:=c.st.set j (a5 (.loc,u))}/\Rep C (λa=>c.S a\/a=r) c.H u (.ref r):=by
 have⟨Y,d,h,l,q1,q2,G,w⟩:=ok.sl j _ _ f;rw[g]at d;cases d;cases l;have x:Rep C (λa=>c.S a\/a=r) c.H u (.ref r):=w.rep (λa=>.inl) (.inr rfl);obtain⟨o,ho,_⟩:=w.some;have p:j<c.st.length:=(l2.mp f).1;have s:∀(i:Nat) k u',(c.st.set j (a5 (.loc,u)))[i]?=a5 (a5 (k,u'))->i≠j->c.st[i]?=a5 (a5 (k,u')):=λi k u' e I=>by rw[pa (Eu I)]at e;show e
 have J:c.R1 r:=⟨j,.own,u,rfl,f,g⟩
 have y:∀(i:Nat) (u':U),(c.st.set j (a5 (.loc,u)))[i]?=a5 (a5 (.AK,u'))->c.st[i]?=a5 (a5 (.AK,u')):=λi u' e=>by
  by_cases b:i=j
  .subst b;rw[my p]at e;cases e
  .show s i .AK u' e b
 have A:∀a,({c with S:=λa=>c.S a\/a=r,st:=c.st.set j (a5 (.loc,u))}:Cf).R1 a->c.R1 a:=λa L=>by
  have⟨i,k,u',hk,e,N⟩:=L;by_cases b:i=j
  .subst b;rw[my p]at e;cases e;cases hk
  .show⟨i,k,u',hk,s i k u' e b,N⟩
 have O:CF C {c with S:=λa=>c.S a\/a=r,st:=c.st.set j (a5 (.loc,u))}:=ok.dd.of rfl (λi u' e=>⟨y i u' e,rfl⟩) (λa z=>.inl (A a z)) (.up λa=>.inl) λi a z=>⟨λq=>q.elim (ok.root (.inr ⟨i,z⟩)).1 λe=>ok.dd.d1 i a z (e▸J),λo q=>q⟩
 show⟨ok.share (st':=c.st.set j (a5 (.loc,u))) G ⟨o,ho⟩ (by simp) (λi k u' e=>?_) O,⟨⟨n.keep,n.there,λa z=>?_,λa z=>.inl (n.sub a z),λa z=>?_⟩,n.all⟩,x⟩
 .by_cases b:i=j
  .subst b;rw[my p]at e;cases e;show⟨⟨.ref r,g,x⟩,λz=>nomatch z⟩
  .have t:=s i k u' e b;have⟨v,d,m⟩:=ok.sl i k u' t;show⟨⟨v,d,m.mv (.up λa=>.inl) (.up λa z=>z.imp id .inl) λhk h l=>⟨?_,λo q=>q⟩⟩,λ_=>t⟩;obtain⟨JX,B,Q,_⟩:=m.rt hk;rw[l]at B;cases B;rintro(z|rfl)
   .show Q z
   .show b (ok.inj i j k .own u' u h hk rfl t f (by rw[d,l]) g)
 .rcases z with z|⟨i,u',h,d,m,T⟩
  .show n.roots a (.inl (A a z))
  .show n.roots a (.inr ⟨i,u',h,y i u' d,m,T⟩)
 .rcases z with z|rfl
  .show n.new a z
  .rcases n.roots a (.inl ⟨j,.own,u,rfl,f,g⟩) with z|z
   .show .inr (.inl z)
   .show .inr (.inr z)
def kH(A:Ok C g)(ok:Ok C c)(n:Nx g c)(b:dw C g c r.1 r.2 v)(h:W (lift r) c.st B):
  ∃(S':hA->Prop) (st':aq) (u:U),(∀a,c.S a->S' a)/\Ok C {c with S:=S',st:=st' }/\Nx g {c with S:=S',st:=st' }/\Rep C S' c.H u v/\B u st' /\
   (∀a,S' a->c.S a\/v=.ref a/\(r.1=.own\/c.R a))/\∀a,({c with S:=S',st:=st' }:Cf).R a->c.R a:=by
 have⟨k,u⟩:=r;cases k with
 |own =>
  rw[show lift (.own,u)=pure u from rfl,af]at h;have⟨r,e,D,O,G,t⟩:=b;have⟨l,m⟩:=Ok.xK A ok n D G t;show⟨_,c.st,u,λa=>.inl,l,m,by rw[e];show t.rep (λa=>.inl) (.inr rfl),h,λa z=>?_,λa z=>z⟩;rcases z with z|rfl
  .show .inl z
  .show .inr ⟨e,.inl rfl⟩
 |loc =>
  rw[show lift (.loc,u)=pure u from rfl,af]at h;show⟨c.S,c.st,u,λa=>id,ok,n,b,h,λa z=>.inl z,λa z=>z⟩
 |any =>
  rw[show lift (.any,u)=if A9 u=b5 then pure u else M.fail from rfl]at h;split at h
  .rw[af]at h;show⟨c.S,c.st,u,λa=>id,ok,n,Rep.A9 (by assumption) b,h,λa z=>.inl z,λa z=>z⟩
  .show(aF.mp h).elim
 |bor j =>
  have⟨x,st',e,I⟩:=h;rw[show lift (.bor j,u) c.st=match c.st[j]? with|some (a5 (.own,u))=>a5 (Ex.ok u,c.st.set j (a5 (.loc,u)))|_=>b6 from rfl]at e;split at e
  .rename_i w d;cases e;obtain⟨Q,y,r,J,_⟩:=ok.sl j _ _ d;have o:c.σ[j]?=a5 (a5 v):=b;rw[o]at y;cases y;subst J;have⟨l,m,p⟩:=ok.sr n d o;show⟨_,_,_,λa=>.inl,l,m,p,I,λa z=>?_,λa z=>?_⟩
   .rcases z with z|rfl
    .show .inl z
    .show .inr ⟨rfl,.inr (.inl ⟨j,.own,_,rfl,d,o⟩)⟩
   .rcases z with⟨i,k,u',hk,e,q⟩|⟨i,u',L,e,q,N⟩
    rotate_left 1
    .by_cases f:i=j
     .subst f;have s:i<c.st.length:=(l2.mp d).1;rw[my s]at e;cases e
     .rw[pa (Eu f)]at e;show .inr ⟨i,u',L,e,q,N⟩
    by_cases f:i=j
    .subst f;have s:i<c.st.length:=(l2.mp d).1;rw[my s]at e;cases e;cases hk
    .rw[pa (Eu f)]at e;show .inl ⟨i,k,u',hk,e,q⟩
  .cases e
 |_=>show b.elim
theorem fu:∀{rs:List (Kd×U)}{g:List V}{c:Cf}{j:List U->aq->Prop},Ok C b->Ok C c->Nx b c->b9 C b c rs g->W (bV rs) c.st j ->
  ∃(S':hA->Prop) (st':aq) (us:List U),(∀a,c.S a->S' a)/\Ok C {c with S:=S',st:=st' }/\Nx b {c with S:=S',st:=st' }/\ag C S' c.H us g/\j us st'
 |[],g,c,j,s,ok,n,x,h=>by
  rw[show bV []=pure [] from rfl,af]at h;show⟨c.S,c.st,[],λa=>id,ok,n,x,h⟩
 |r::rs,g,c,j,s,ok,n,x,h=>by
  have⟨v,t,rfl,N,O,Q⟩:=x;rw[show bV (r::rs)=lift r >>= λu=>bV rs >>= λus=>pure (u::us) from rfl,ab]at h;have⟨y,st1,u,s1,T,Y,d,A,E3,DC⟩:=kH s ok n N h;rw[ab]at A;have Di:b9 C b {c with S:=y,st:=st1} rs t:=by
   clear h A;have B:∀(l:List (Kd×U)) (w:List V),b9 C b c l w->(r.1=.own->∀(i:Nat) k m,l[i]?=a5 k->w[i]?=a5 m->k.1=.own->m≠v)->b9 C b {c with S:=y,st:=st1} l w:=by
    intro l;induction l with
    |nil=>intro w q _;show q
    |cons r2 l ih =>
     intro w q D;have⟨G,I,rfl,p,q2,q3⟩:=q;show⟨G,I,rfl,?_,ih I q2 (λhk i k m e1 e2 BA=>D hk (i+1) k m (by simpa using e1) (by simpa using e2) BA),q3⟩;have⟨k2,u2⟩:=r2;cases k2 with
     |own =>
      have⟨a,e,p1,p2,J,p4⟩:=p;show⟨a,e,p1,λz=>?_,λz=>J (DC a z),p4.mv (.up s1) λo q=>q⟩;rcases E3 a z with z|⟨z,z'|z'⟩
      .show p2 z
      .show D z' 0 _ G rfl rfl rfl (e.trans z.symm)
      .show J z'
     |loc=>show Rep.mv (.up s1) p
     |any=>show Rep.mv (.up λa z=>z.imp id (s1 a)) p
     |_=>show p
   show B rs t O Q
  have⟨S2,st2,us,s2,Bg,n2,f,L⟩:=fu (c:={c with S:=y,st:=st1}) s T Y Di A;rw[af]at L;show⟨S2,st2,u::us,λa z=>s2 a (s1 a z),Bg,n2,⟨v,t,rfl,d.mv (.up s2),f⟩,L⟩
def vb(k:PA X es (BE C ms)):PE X (.Tuple es r pos) (AR C (ms >>= λrs=>ao rs >>= λ_=>bV rs >>= λus=>if us.length<=df then pure (.loc,.tup us) else M.fail)):=by
 rintro a s σ H Q I ⟨l,rfl,rfl,ok,h⟩;show wpAny_Tuple_spliced (AO (args k I ok h pos) λus s1 m=>?_);have⟨rs,c,g,t,i,j,w⟩:=m;rw[ab]at w;have⟨S',st',ws,v,n,o,d,f⟩:=fu ok t.ok t.nx t.rep w;split at f
 .rename_i hz;rw[af]at f;have hl:g.length<=df:=by rw[<-d.len];show hz
  show⟨by rw[<-j.length];show hl,?_⟩;have p:c.H s1.heap.objs.size=b6:=i.AJ.fresh (ke _);have q:Inv X a l.σ c.H s1:=by rw[<-t.hσ];show i
  show⟨.ref s1.heap.objs.size,upd c.H s1.heap.objs.size (.tup g),q.laid (t':=s1.toks) (λb u e=>ea _ e) (ke _) ⟨hl,us,j,QI _ _⟩,rfl,?_⟩;show bz.tup (c:={c with S:=S',st:=st' }) f t.hσ n o d _ p
 .show(aF.mp f).elim
def vc(k:PA X es (BE C ms)):PE X (.List es pos) (AR C (ms >>= λrs=>ao rs >>= λ_=>bV rs >>= λus=>if us.length<=df then pure (.own,.lst us) else M.fail)):=by
 rintro a s σ H Q I ⟨l,rfl,rfl,ok,h⟩;show wpAny_List_spliced (AO (args k I ok h pos) λus s1 m=>?_);have⟨rs,c,g,t,i,j,w⟩:=m;rw[ab]at w;have⟨S',st',ws,r,n,o,d,f⟩:=fu ok t.ok t.nx t.rep w;split at f
 .rename_i hz;rw[af]at f;have hl:g.length<=df:=by rw[<-d.len];show hz
  show⟨by rw[<-j.length];show hl,?_⟩;have p:c.H s1.heap.objs.size=b6:=i.AJ.fresh (ke _);have q:Inv X a l.σ c.H s1:=by rw[<-t.hσ];show i
  show⟨.ref s1.heap.objs.size,upd c.H s1.heap.objs.size (.lst g),q.laid (t':=s1.toks) (λb u e=>ea _ e) (ke _) ⟨hl,us,0,j,g0 _ rfl⟩,rfl,?_⟩;show bz.list (c:={c with S:=S',st:=st' }) f t.hσ n o d _ p
 .show(aF.mp f).elim
end
section
def pk(d:X.N[i]?=a5 x)(f:Eb X.env.scope x)(g:(x==("__debug__":Str))=cb)(l:(x==("__classdict__":Str))=cb):PE X (.Name x pos) (AR C (eJ i)):=by
 show PE.weak (jT d f g l) ?_;rintro σ H Q ⟨b,rfl,rfl,ok,r,st',e,h⟩;unfold eJ at e;split at e
 .cases e
 .rename_i k u m hs;cases e;have⟨v,c,a⟩:=ok.sl i k u hs;show⟨v,c,h b v rfl rfl ok (Nx.refl b) ?_⟩;by_cases hk:k.root=b5
  .rw[Q8 hk];show⟨⟨k,hk,hs⟩,c⟩
  .rw[Q9 hk];cases k with
   |loc=>show a
   |any=>show a
   |bor j=>show a.elim
   |AK=>show(m rfl).elim
   |_=>show absurd rfl hk
 .cases e
def fv(h:PE X e (tC v))(r:∀S H,Rep C S H u v):PE X e (AR C (pure (.loc,u))):=by
 show PE.weak h ?_;rintro σ H Q ⟨a,rfl,rfl,ok,h⟩;rw[af]at h;show h a v rfl rfl ok (Nx.refl a) (r _ _)
def bz.root(h:bz C b Q (.own,u) c.st)(d:c.σ=b.σ)(ok:Ok C c)(n:Nx b c)(p:hA)(a:c.H p=b6)(r:cf C c.S (upd c.H p o) p u):Q (.ref p) (upd c.H p o):=by
 have⟨e,f⟩:=ok.lay (o:=o) a;have⟨j,g,k,l,i⟩:=ok.nB a;show h {c with H:=upd c.H p o} _ d rfl e (n.trans f) ⟨p,rfl,n.none a,g,i,r⟩
def su(c:C.P=X.prog)(d:C.w=X.w)(r:Bool):PE X (.Dict [] [] pos) (AR C (pure (.own,if r=b5 then .Bc [] else .Bo [] []))):=by
 cases r with
 |false =>
  show PE.weak rC ?_;rintro σ H Q ⟨a,rfl,rfl,ok,h⟩ p b;rw[af,Q9 mA]at h;show bz.root h rfl ok (Nx.refl a) p b ⟨[],aC,rfl,rfl⟩
 |true =>
  show PE.weak uH ?_;rintro σ H Q ⟨a,rfl,rfl,ok,h⟩ p b;rw[af,Q8 rfl]at h;show bz.root h rfl ok (Nx.refl a) p b ⟨[],?_,rfl,λx e=>by cases e⟩;rw[c,d];show aC
def ag.AX{S:hA->Prop}(h:ag C S H us a)(e:AX us i=a5 u):∃v,L2.AX a i=a5 v/\Rep C S H u v:=by
 unfold L2.AX at e ⊢;rw[h.len]at e;cases q:Dp a.length i with
 |none=>rw[q]at e;cases e
 |some j =>
  rw[q]at e;show h.get e
def xM(N:C.K=X.K)(T:X.A.units+60<y0)(hs:j3 b)(t:Gb C O c x y f g)(I:Inv X d c.σ c.H s)(m:RelV f v)(o:RelV g u)(h:ft x y.2=a5 r)(q:bz C O Q r c.st):
  gi (ko X.prog X.w) X.A (OJ a b v u) (EP X d c.σ Q) X.xe s:=by
 obtain⟨p,ok,n,z,j,-⟩:=t;have⟨Y,uy⟩:=y
 dsimp only at h j
 unfold ft at h;split at h
 .rename_i k xs i;rw[eH]at h;have⟨w,e,rfl⟩:=h;have⟨B,D,ex,l,G⟩:=z.list ok;have⟨vw,J,L⟩:=G.AX e;show uu a b d s c.σ c.H f g v u Q I m o ⟨B,D,i,vw,ex,j.int ok,N▸l,J,q c vw p rfl ok n (ay.item L)⟩ (hs _ _)
 .rename_i k xs i;rw[eH]at h;have⟨w,e,rfl⟩:=h;have⟨B,D,ex,l,G⟩:=z.tuple ok;have⟨vw,J,L⟩:=G.AX e;rw[N]at l;show mV a b d s c.σ c.H f g v u Q I m o ⟨B,D,i,vw,ex,j.int ok,l,J,q c vw p rfl ok n (ay.item L)⟩ (hs _ _)
 .split at h
  .rw[eH]at h;have⟨w,e,rfl⟩:=h;show gV a b d s c.σ c.H f g v u Q I m o ⟨_,_,w,z.str ok,j.int ok,by assumption,e,q c _ p rfl ok n rfl⟩ (hs _ _)
  .cases h
 .cases h
def vd(f:C.K=X.K)(g:X.A.units+60<y0)(hs:j3 b)(i:PE X a (AR C j))(k:PE X b (AR C l)):PE X (.Subscript a b pos) (AR C (j >>= λx=>l >>= λy=>ao [x,y] >>= λ_=>M.AZ (ft x y.2))):=by
 rintro d s σ H Q I ⟨p,rfl,rfl,ok,h⟩;show Subscript_ (two i k I ok h λx y c B D v u s2 t m n o w=>?_);have⟨r,e,q⟩:=bM.mp w;show AO (xM f g hs t m n o e q) λ_ _ z=>by rw[t.hσ]at z;show z
def ag.cut{S:hA->Prop}(h:ag C S H us b)(lo a:Option Int):ag C S H (TM.cut us lo a) (qh b lo a):=by
 unfold TM.cut qh;rw[h.len];show(h.drop _).take _
end
section
end
section
variable{X:Cx}{C:Ct}{pins:List (hA×Obj)}{s:gs}{c0 c c1:Cf}
variable{a b d e:ri}{es:List ri}{m ma mb md:M (Kd×U)}{ms:M (List (Kd×U))}{ta tb:M Bool}{pos p p2:Pos}
abbrev tO(C:Ct)(m:M (Option Int)):TO:=λσ H Q=>∃c0:Cf,c0.σ=σ/\c0.H=H/\Ok C c0/\W m c0.st λi st'=>∀c,c.σ=σ->c.st=st'->Ok C c->Nx c0 c->Q i c.H
def qA:PO X b6 (tO C (pure b6)):=by
 rintro pins s σ H Q I ⟨c0,rfl,rfl,ok,h⟩;rw[af]at h;show uo pins s c0.σ c0.H Q I (h c0 rfl rfl ok (Nx.refl c0))
def qB(f:PE X a (AR C ma)):PO X (a5 a) (tO C (ma >>= xE)):=by
 rintro pins s σ H Q I ⟨c0,rfl,rfl,ok,h⟩;show ur f pins s c0.σ c0.H Q I (aI ok h λx c v t w=>?_);have⟨k,u⟩:=x;unfold xE at w;split at w
 .rename_i i e
  dsimp only at e
  subst e;rw[af]at w;show⟨i,t.rx.int t.ok,w c t.hσ rfl t.ok t.nx⟩
 .show(aF.mp w).elim
def xN{lo f:Option Int}(k:C.K=X.K)(g:c.σ=c0.σ)(ok:Ok C c)(n:Nx c0 c)(i:ay C c0 c x.1 x.2 j)(h:l8 x lo f=a5 r)(q:bz C c0 Q r c.st):
  yU X.K j lo f c.H Q\/y6 j lo f c.H Q:=by
 unfold l8 at h;split at h
 .split at h
  .rename_i hh;cases h;have⟨l,o,ex,t,u⟩:=i.list ok;show .inl ⟨l,o,ex,k▸t,λp v=>q.list g ok n ((b_ hh u).cut lo f) p v⟩
  .cases h
 .split at h
  .cases h;show .inr ⟨_,i.str ok,by assumption,q.flat g ok n rfl⟩
  .cases h
 .cases h
def vf{lo g:Option ri}(n:C.K=X.K)(o:PE X a (AR C ma))(hl:PO X lo (tO C ml))(hh:PO X g (tO C u)):
  PE X (.Subscript a (.Slice lo g b6 p2) pos) (AR C (ma >>= λx=>ml >>= λl=>u >>= λh=>ao [x] >>= λ_=>M.AZ (l8 x l h))):=by
 show PE.weak (rm (DP.or uw xl) o hl hh) ?_;rintro σ H Q ⟨c0,rfl,rfl,ok,h⟩;show aI ok h λx c v t w=>?_;rw[ab]at w;show⟨c,t.hσ,rfl,t.ok,w.mono λl st2 i y z A B D=>?_⟩;subst A;rw[ab]at i;show⟨y,z,rfl,B,i.mono λN st3 f G j I J L=>?_⟩;subst I;rw[ab,bB]at f;have⟨r,e,q⟩:=bM.mp f.2;have k:Nx c G:=D.trans L;show xN n j J (t.nx.trans k) ((t.rx.w.on t.ok k (j.trans t.hσ.symm)).t f.1) e q
end
section
variable{X:Cx}{C:Ct}{pins:List (hA×Obj)}{s:gs}{c0 c c1:Cf}
variable{a b d e:ri}{es:List ri}{m ma mb md:M (Kd×U)}{ms:M (List (Kd×U))}{ta tb:M Bool}{pos p p2:Pos}
abbrev Bf.val:Bf->eh
 |.len=>.builtin "len"|.sorted=>.builtin "sorted"|.repr=>.builtin "repr"|.max=>.builtin "max"|.min=>.builtin "min"|.all=>.builtin "all"|.any=>.builtin "any"
 |.list=>.type "list"|.tuple=>.type "tuple"|.str=>.type "str"|.int=>.type "int"
abbrev Bf.name:Bf->Str
 |.len=>"len"|.sorted=>"sorted"|.repr=>"repr"|.max=>"max"|.min=>"min"|.all=>"all"|.any=>"any"
 |.list=>"list"|.tuple=>"tuple"|.str=>"str"|.int=>"int"
def call_of(i:dY X f r)(I:Inv X pins c.σ c.H s)(j:Vals g us)(h:r g c.H Q):gi (ko X.prog X.w) X.A (Ja f us) (EP X pins c.σ Q) X.xe s:=i pins s c.σ c.H g us Q I j h
mutual
theorem pq{S:hA->Prop}(g:C.K=X.K)(I:Inv X pins c.σ c.H s):∀(u:U) (v:V) (f:eh) (d:O3),Rep C S c.H u v->RelV v f->dh u=a5 d->∃as,Reads s.heap f d as
 |.AM,v,f,d,h,r,e=>by cases h;cases r;cases e;show⟨_,.none⟩
 |.bl b,v,f,d,h,r,e=>by cases h;cases r;cases e;show⟨_,.bool b⟩
 |.int i,v,f,d,h,r,e=>by cases h;have⟨t,rfl⟩:=r;cases e;show⟨_,.int i t⟩
 |.str x,v,f,d,h,r,e=>by cases h;have⟨t,rfl⟩:=r;cases e;show⟨_,.str x t⟩
 |.tup us,v,f,d,h,r,e=>by
  have⟨a,k,rfl,j,l⟩:=h;cases r;simp only[dh,eH]at e;have⟨q,w,rfl⟩:=e;rw[g]at j;obtain⟨y,z,⟨o,ho,A,n,B⟩,_⟩:=I.tuple j;have⟨as,D⟩:=kI g I us k y q l z w;show⟨as,.tuple ho A B (by simpa using D)⟩
 |.lst us,v,f,d,h,r,e=>by
  have⟨a,k,rfl,j,l⟩:=h;cases r;simp only[dh,eH]at e;have⟨q,w,rfl⟩:=e;have G:=j.sq;rw[g]at G;obtain⟨y,z,J,_⟩:=I.list G;have⟨o,ho,A,n,B⟩:=J.isList;have⟨as,D⟩:=kI g I us k y q l z w;show⟨a::as,.list ho A B (by simpa using D)⟩
 |.Bo _ _,v,f,d,h,r,e=>by simp[dh]at e
 |.Bc _,v,f,d,h,r,e=>by simp[dh]at e
theorem kI{S:hA->Prop}(j:C.K=X.K)(I:Inv X pins c.σ c.H s):∀(us:List U) (g:List V) (f:List eh) (i:List O3),ag C S c.H us g->Vals g f->gH us=a5 i->∃as,ReadsAll s.heap f i as
 |[],g,f,i,h,r,e=>by
  cases h;cases r;cases e;show⟨_,.nil⟩
 |u::us,g,f,i,h,r,e=>by
  have⟨v,k,rfl,l,n⟩:=h;cases r with
  |cons o q =>
   simp only[gH,nC,eH]at e;have⟨d,t,w,x,rfl⟩:=e;have⟨as,y⟩:=pq j I u v _ d l o t;have⟨bs,z⟩:=kI j I us k _ w n q x;show⟨as++bs,.cons y z⟩
end
mutual
theorem iw:∀(u:U) (d:O3),dh u=a5 d->d.hasDict=cb
 |.AM,d,e=>by cases e;rfl
 |.bl b,d,e=>by cases e;rfl
 |.int i,d,e=>by cases e;rfl
 |.str x,d,e=>by cases e;rfl
 |.tup us,d,e=>by
  simp only[dh,eH]at e;have⟨f,g,rfl⟩:=e;simpa only[Pe] using dB us f g
 |.lst us,d,e=>by
  simp only[dh,eH]at e;have⟨f,g,rfl⟩:=e;simpa only[Pe] using dB us f g
 |.Bo _ _,d,e=>by simp[dh]at e
 |.Bc _,d,e=>by simp[dh]at e
theorem dB:∀(us:List U) (f:List O3),gH us=a5 f->OI f=cb
 |[],f,e=>by cases e;rfl
 |u::us,f,e=>by
  simp only[gH,nC,eH]at e;have⟨d,g,h,i,rfl⟩:=e;simp only[OI,iw u d g,dB us h i,Bool.or_self]
end
def pv{S:hA->Prop}(j:C.K=X.K)(k:X.A.guards=a5 [])(B:X.A.units+60<y0)(I:Inv X pins c.σ c.H s)(l:Vals [v] us)(g:Rep C S c.H u v)(h:oY u=a5 r)(q:bz C c0 Q r c.st)(o:c.σ=c0.σ)(ok:Ok C c)(n:Nx c0 c):
  gi (ko X.prog X.w) X.A (Ja (.builtin "repr") us) (EP X pins c.σ Q) X.xe s:=by
 have⟨f,rfl,i⟩:=vals1 l;unfold oY at h;rw[nC]at h;have⟨d,e,h⟩:=h;split at h
 .rename_i hz;cases h;have⟨as,t⟩:=pq j I u v f d g i e;have x:∃a,f=.ref a:=by
   cases u with
   |tup us=>obtain⟨a,y,rfl,_⟩:=g;cases i;show⟨a,rfl⟩
   |lst us=>obtain⟨a,y,rfl,_⟩:=g;cases i;show⟨a,rfl⟩
   |_=>simp[v3]at hz
  have⟨a,rfl⟩:=x;show repr_of_reads' t hz.1 (PyData.noDict_hsm (iw u d e)) k (by have:=hz.2.1;lia) (λ_ _ z=>z) (λh' u' D hk=>?_) hz.2.2.1;show⟨.str d.shown,c.H,I.kept hk,⟨_,rfl⟩,q.flat o ok n rfl⟩
 .cases h
def aT(h:dX f rs=a5 r):∃x,rs=[x]/\f x=a5 r:=by
 unfold dX at h;split at h
 .show⟨_,rfl,h⟩
 .cases h
def v5(O:X.calm=b5)(y:C.K=X.K)(J:X.A.guards=a5 [])(L:X.A.units+60<y0)(t:Cy C c0 c rs T)(I:Inv X pins c.σ c.H s)(o:Vals T us)(h:Bt f rs=a5 r)(q:bz C c0 Q r c.st):
  gi (ko X.prog X.w) X.A (Ja f.val us) (EP X pins c.σ Q) X.xe s:=by
 have u:=t.hσ;have ok:=t.ok;have n:=t.nx;cases f with
 |len =>
  have⟨x,rfl,hz⟩:=aT (f:=λx=>(uW x.2).map λ(n:Nat)=>(Kd.loc,U.int (n:Int))) h;clear h;have h:=hz;clear hz;rw[eH]at h;have⟨k,e,rfl⟩:=h;have⟨v,rfl,g⟩:=t.one;have⟨Y,G⟩:=x;unfold uW at e;split at e
  .rename_i xs z;have z:G=.lst xs:=z;subst z;cases e;have⟨j,ws,ex,i,l⟩:=g.list ok;rw[l.len]at q;show call_of eU I o ⟨j,ws,by rw[ex],.inl (y▸i),q.flat u ok n rfl⟩
  .rename_i xs z;have z:G=.tup xs:=z;subst z;cases e;have⟨j,ws,ex,i,l⟩:=g.tuple ok;rw[y]at i;rw[l.len]at q;show call_of eU I o ⟨j,ws,by rw[ex],.inr i,q.flat u ok n rfl⟩
  .rename_i xs z;have z:G=.str xs:=z;subst z;split at e
   .cases e;show call_of j6 I o ⟨_,by rw[g.str ok],by assumption,q.flat u ok n rfl⟩
   .cases e
  .cases e
 |sorted =>
  have⟨x,rfl,hz⟩:=aT (f:=xv) h;clear h;have h:=hz;clear hz;have⟨v,rfl,g⟩:=t.one;unfold xv at h;split at h
  .rw[nC]at h;have⟨ss,e,h⟩:=h;have D:=aW e;subst D;have⟨j,ws,ex,i,l⟩:=g.list ok;rw[ag.strs]at l;subst l;split at h
   .cases h;show call_of gj I o ⟨j,ss,by rw[ex],.inl (y▸i),by assumption,λp B=>q.list u ok n (ag.strs.mpr rfl) p B⟩
   .cases h
  .rw[nC]at h;have⟨ss,e,h⟩:=h;have D:=aW e;subst D;have⟨j,ws,ex,i,l⟩:=g.tuple ok;rw[y]at i;rw[ag.strs]at l;subst l;split at h
   .cases h;show call_of gj I o ⟨j,ss,by rw[ex],.inr i,by assumption,λp B=>q.list u ok n (ag.strs.mpr rfl) p B⟩
   .cases h
  .cases h
 |list =>
  have⟨x,rfl,hz⟩:=aT (f:=xw) h;clear h;have h:=hz;clear hz;have⟨v,rfl,g⟩:=t.one;unfold xw at h;split at h
  .have⟨j,ws,ex,i,l⟩:=g.list ok;split at h
   .cases h;show call_of eV I o ⟨j,ws,by rw[ex],.inl (y▸i),λp B=>q.list u ok n (b_ (by assumption) l) p B⟩
   .cases h
  .have⟨j,ws,ex,i,l⟩:=g.tuple ok;rw[y]at i;split at h
   .cases h;show call_of eV I o ⟨j,ws,by rw[ex],.inr i,λp B=>q.list u ok n (b_ (by assumption) l) p B⟩
   .cases h
  .cases h
 |tuple =>
  have⟨x,rfl,hz⟩:=aT (f:=xx) h;clear h;have h:=hz;clear hz;have⟨v,rfl,g⟩:=t.one;unfold xx at h;split at h
  .have⟨j,ws,ex,i,l⟩:=g.list ok;cases h;show call_of dZ I o ⟨j,ws,by rw[ex],.inl ⟨y▸i,λp B=>q.tupK u ok n l p B⟩⟩
  .have⟨j,ws,ex,i,l⟩:=g.tuple ok;have N:=i;rw[y]at N;cases h;show call_of dZ I o ⟨j,ws,by rw[ex],.inr ⟨N,q c (.ref j) u rfl ok n (ay.item ⟨j,ws,rfl,i,l⟩)⟩⟩
  .cases h
 |str =>
  have⟨x,rfl,hz⟩:=aT (f:=si) h;clear h;have h:=hz;clear hz;have⟨v,rfl,g⟩:=t.one;unfold si at h;split at h
  .split at h
   .cases h;show call_of jX I o ⟨_,by rw[g.int ok],by assumption,q.flat u ok n rfl⟩
   .cases h
  .cases h
 |int =>
  have⟨x,rfl,hz⟩:=aT (f:=xB) h;clear h;have⟨v,rfl,g⟩:=t.one;unfold xB at hz;split at hz
  .cases hz;show call_of qf I o (.inr ⟨_,by rw[g.bl ok],q.flat u ok n rfl⟩)
  .cases hz
 |repr =>
  have⟨x,rfl,hz⟩:=aT (f:=xy) h;clear h;have h:=hz;clear hz;have⟨v,rfl,g⟩:=t.one;unfold xy at h;split at h
  .split at h
   .cases h;show call_of jm I o ⟨_,by rw[g.str ok],by assumption,q.flat u ok n rfl⟩
   .cases h
  .show pv y J L I o (g.read ok) h q u ok n
  .show pv y J L I o (g.read ok) h q u ok n
  .cases h
 |all =>
  have⟨x,rfl,hz⟩:=aT (f:=xA) h;clear h;have h:=hz;clear hz;have⟨v,rfl,g⟩:=t.one;unfold xA at h;split at h
  .rw[eH]at h;have⟨bs,e,rfl⟩:=h;have D:=iu e;subst D;have⟨j,ws,ex,i,l⟩:=g.list ok;have:=l.JW;subst this;show call_of (rL O) I o ⟨j,bs,by rw[ex],y▸i,q.flat u ok n rfl⟩
  .cases h
 |_=>cases h
def vg{id:String}(g:X.calm=b5)(i:C.K=X.K)(j:X.A.guards=a5 [])(k:X.A.units+60<y0)(l:f.val=.builtin id)(n:Gl X x)(o:X.mg x=b6)(u:Fo x=a5 (.builtin id))(v:x≠"__name__")(y:(x==("__debug__":Str))=cb)
  (B:PA X (e::es) (BE C ms)) (D:mu (e::es) X.env=(cb,Ew e X.env)::mu es X.env) (G:(Fq pos (mu es X.env)).any (·.1)=cb) :
  PE X (.Call (.Name x p) (e::es) [] pos) (AR C (ms >>= λrs=>ao rs >>= λ_=>M.AZ (Bt f rs))):=by
 rintro pins s σ H Q I ⟨c0,rfl,rfl,ok,h⟩;show GG (dn I n o u ?_ v y);show Mk (AO (args B I ok h pos) λus s1 ⟨rs,c,N,t,J,L,w⟩=>?_) D G;have⟨r,e,q⟩:=bM.mp w;have z:=v5 g i j k t J L e q;rw[l,t.hσ]at z;show z
def vh(g:X.calm=b5)(i:C.K=X.K)(j:X.A.guards=a5 [])(k:X.A.units+60<y0)(l:f.val=.type T)(n:Gl X x)(o:X.mg x=b6)(u:Fo x=a5 (.type T))(v:x≠"__name__")(y:(x==("__debug__":Str))=cb)
  (B:PA X (e::es) (BE C ms)) (D:mu (e::es) X.env=(cb,Ew e X.env)::mu es X.env) (G:(Fq pos (mu es X.env)).any (·.1)=cb) :
  PE X (.Call (.Name x p) (e::es) [] pos) (AR C (ms >>= λrs=>ao rs >>= λ_=>M.AZ (Bt f rs))):=by
 rintro pins s σ H Q I ⟨c0,rfl,rfl,ok,h⟩;show GG (dn I n o u ?_ v y);show F_ (AO (args B I ok h pos) λus s1 ⟨rs,c,N,t,J,L,w⟩=>?_) D G;have⟨r,e,q⟩:=bM.mp w;have z:=v5 g i j k t J L e q;rw[l,t.hσ]at z;show z
abbrev B1.name:B1->Str
 |.str=>"str"|.list=>"list"|.tuple=>"tuple"|.int=>"int"|.bool=>"bool"
abbrev B1.nm:B1->String
 |.str=>"str"|.list=>"list"|.tuple=>"tuple"|.int=>"int"|.bool=>"bool"
def vi(T:B1):Fo T.name=a5 (.type T.nm)/\T.name≠"__name__"/\(T.name==("__debug__":Str))=cb:=by
 cases T<;>show⟨by decide +kernel,by decide +kernel,by decide +kernel⟩
def fw(T:B1):QL (.type T.nm)=pure (.type "type"):=by cases T<;>kernel_rfl
def pw(T:B1):HM (.type "str") (.type T.nm)=pure (et (T=.str)):=by cases T<;>(rw[D4];kernel_rfl)
def sub_int(T:B1):HM (.type "int") (.type T.nm)=pure (et (T=.int)):=by cases T<;>(rw[D4];kernel_rfl)
def ne_str{T:B1}(h:¬T=.str):(wk "str"==wk T.nm)=cb:=by cases T<;>first|show absurd rfl h|decide
def ne_int{T:B1}(h:¬T=.int):(wk "int"==wk T.nm)=cb:=by cases T<;>first|show absurd rfl h|decide
def l_(T:B1):HM (.type "list") (.type T.nm)=pure (et (T=.list)):=by cases T<;>(rw[D4];kernel_rfl)
def pz(T:B1):HM (.type "tuple") (.type T.nm)=pure (et (T=.tuple)):=by cases T<;>(rw[D4];kernel_rfl)
def vj{T:B1}(h:¬T=.list):(wk "list"==wk T.nm)=cb:=by cases T<;>first|show absurd rfl h|decide
def xO{T:B1}(h:¬T=.tuple):(wk "tuple"==wk T.nm)=cb:=by cases T<;>first|show absurd rfl h|decide
def xP{b:Bool}(B:C.K=X.K)(t:Fc C c0 c x v)(I:Inv X pins c.σ c.H s)(j:RelV v i)(h:l9 x.2 T=a5 b)(q:∀l,Q (.bool b) {s with toks:=l}):
  gi (ko X.prog X.w) X.A (Ja (.builtin "isinstance") [i,.type T.nm]) Q X.xe s:=by
 have⟨k,u⟩:=x;have⟨hσ,ok,n,r⟩:=t;have G:Q (.bool b) s:=q s.toks
 dsimp only at h r
 have g:∀{D:String},b=b5->s.TypeIs i D->HM (.type D) (.type T.nm)=pure b5->gi (ko X.prog X.w) X.A (Ja (.builtin "isinstance") [i,.type T.nm]) Q X.xe s:=λe J hs=>by
  subst e;show QH J (fw T) hs G
 unfold l9 at h;split at h
 .cases h;have e:v=_:=r.str ok;subst e;have⟨l,rfl⟩:=j;by_cases f:T=.str
  .subst f;show g (by simp) (Iy s _ l) (pw .str)
  .rw[Q7 f]at q;show MU (isinstance_false_str (ne_str f) (fw T) (by rw[pw,Q7 f])) (q _)
 .cases h;have e:v=_:=r.int ok;subst e;have⟨l,rfl⟩:=j;by_cases f:T=.int
  .subst f;show g (by simp) (Oh s _ l) (sub_int .int)
  .rw[Q7 f]at q;show MU (isinstance_false_int (ne_int f) (fw T) (by rw[sub_int,Q7 f])) (q _)
 .cases h;have e:v=_:=r.bl ok;subst e;cases j;show g rfl (PySem.typeIs_bool s _) (by rw[D4];kernel_rfl)
 .cases h;have e:v=_:=r.bl ok;subst e;cases j;show g rfl (PySem.typeIs_bool s _) (by rw[D4];kernel_rfl)
 .cases h;have⟨L,ws,rfl,y,N⟩:=r.list ok;cases j;rw[B]at y;obtain⟨O,_,Y,_⟩:=I.list y;obtain⟨o,ho,z,_⟩:=Y.isList;by_cases f:T=.list
  .subst f;show g (by simp) ⟨o,ho,z⟩ (l_ .list)
  .rw[Q7 f]at q;show MU (isinstance_false_list (vj f) (fw T) (by rw[l_,Q7 f])) ⟨⟨o,ho,z⟩,q _⟩
 .cases h;have⟨L,ws,rfl,y,N⟩:=r.tuple ok;cases j;rw[B]at y;obtain⟨O,_,⟨o,ho,z,_⟩,_⟩:=I.tuple y;by_cases f:T=.tuple
  .subst f;show g (by simp) ⟨o,ho,z⟩ (pz .tuple)
  .rw[Q7 f]at q;show MU (isinstance_false_tuple (xO f) (fw T) (by rw[pz,Q7 f])) ⟨⟨o,ho,z⟩,q _⟩
 .cases h
def pA(i:C.K=X.K)(j:Gl X "isinstance")(k:X.mg "isinstance"=b6)(l:Gl X T.name)(n:X.mg T.name=b6)(o:PE X a (AR C ma))(hs:mu [a,.Name T.name p2] X.env=(cb,Ew a X.env)::mu [.Name T.name p2] X.env):
  PE X (.Call (.Name "isinstance" p) [a,.Name T.name p2] [] pos) (AR C (ma >>= λx=>M.AZ (l9 x.2 T) >>= λb=>pure (.loc,.bl b))):=by
 rintro pins s σ H Q I ⟨c0,rfl,rfl,ok,h⟩;have⟨q,r,u⟩:=vi T;show GG (dn I j k (show Fo "isinstance"=a5 (.builtin "isinstance") by decide +kernel) ?_ (by decide +kernel) (by decide +kernel));show Mk (AO (eT o (eT (t_ (v:=.ty T.nm) l n q rfl r u) jY) hs pos pins s c0.σ c0.H (λf H'=>∃x c v b,Fc C c0 c x v/\c.H=H'/\f=[v,.ty T.nm]/\l9 x.2 T=a5 b/\bz C c0 Q (.loc,.bl b) c.st) I ?_) λus s1 ⟨f,N,g,y,x,c,v,b,t,e,A,B,w⟩=>?_) hs (by rfl)
 .show aI ok h λx c v t w=>?_;rw[ab]at w;have⟨b,e,w⟩:=bM.mp w;rw[af]at w;show⟨x,c,v,b,t,rfl,rfl,e,w⟩
 .subst e A;have⟨O,Y,rfl,D,G⟩:=vals2 y;cases G;have J:Inv X pins c.σ c.H s1:=by rw[t.hσ];show g
  have z:=xP (Q:=EP X pins c0.σ Q) i t J D B λL=>⟨.bl b,c.H,g.tok L,rfl,w c (.bl b) t.hσ rfl t.ok t.nx rfl⟩
  show z
@[reducible]def Dj(P:ve)(w:y1)(K:PySem.W.Frag)(H:Hp)(f:hA->Prop):Ct:=⟨P,w,K,H,f,λ_=>False⟩
structure Back(C:Ct)(H H':Hp)(S':hA->Prop)(k:Kd)(u:U)(v:V):Prop where
 same:yY H H'
 new:∀a,S' a->H a=b6/\∃o,H' a=a5 o
 own:k=.own->∃r,v=.ref r/\H r=b6/\¬S' r/\cf C S' H' r u
 loc:k=.loc->Rep C S' H' u v
 any:k=.any->Rep C (PS C S') H' u v
abbrev spT(P:ve)(w:y1)(K:PySem.W.Frag)(F:List U->Option (Ex (Kd×U)))(h:Nat):Sp:=λg H Q _=>g.length=h/\∃us k u f,F us=a5 (.ok (k,u))/\(k=.own\/k=.loc\/k=.any)/\(∀a,f a->CH H a) /\
 ag (Dj P w K H f) f H us g/\∀v H' S',Back (Dj P w K H f) H H' S' k u v->Q v H'
def Cy.read(t:Cy C c0 c rs g):ag C (CH c.H) c.H (rs.map (·.2)) g:=by
 have f:∀(l:List (Kd×U)) (w:List V),b9 C c0 c l w->aS l c.st->ag C (CH c.H) c.H (l.map (·.2)) w:=by
  intro l;induction l with
  |nil=>intro w h _;show h
  |cons r l i =>
   intro w h hs;obtain⟨v,t',rfl,j,k,_⟩:=h;rw[dP]at hs;show⟨v,t',rfl,(j.t hs.1).read t.ok,i t' k hs.2⟩
 show f rs g t.rep t.Fe
def Back.here(hk:k=.own\/k=.loc)(g:c.σ=c0.σ)(ok:Ok C c)(n:Nx c0 c)(q:i.Eqv C)(h:Back i c.H H' S' k u v)(w:bz C c0 Q (k,u) c.st):Q v H':=by
 have⟨j,l⟩:=ok.grow (S':=λa=>c.S a\/S' a) h.same (λa z=>z.imp id λz=>h.new a z) λa=>.inl;have t:=n.trans l;show w {c with H:=H',S:=λa=>c.S a\/S' a} v g rfl j t ?_;rcases hk with rfl|rfl
 .have⟨r,e,f,x,y⟩:=h.own rfl;have⟨D,A,G,I,B⟩:=ok.nB f;show⟨r,e,n.none f,λz=>z.elim A x,B,(y.cg q).mv (.up λa=>.inr) λo q=>q⟩
 .show((h.loc rfl).cg q).mv (.up λa=>.inr)
def sv(o:C.P=X.prog)(x:C.w=X.w)(y:C.K=X.K)(N:Γ f=F)(hk:∀us k u,F us=a5 (.ok (k,u))->(k=.own\/k=.loc\/k=.any)/\us.length=B)
  (G:lB X.prog X.w X.K X.mg X.base DQ k fa O T (spT X.prog X.w X.K F B)) (Y:ef k X.A) (hg:Gl X f) (hm:X.mg f=a5 (.ref fa)) (LU:PySem.W.keepIn X.K (.ref fa)=b5) (j:Binds X.K O T [])
  (El:(f==("__debug__":Str))=cb) (ha:PA X (e::es) (BE C ms)) (he:mu (e::es) X.env=(cb,Ew e X.env)::mu es X.env) (BS:(Fq pos (mu es X.env)).any (·.1)=cb) :
  PE X (.Call (.Name f p) (e::es) [] pos) (AR C (ms >>= λrs=>ao rs >>= λ_=>ip Γ f (rs.map (·.2)))):=by
 rintro pins s σ H Q I ⟨c0,rfl,rfl,ok,h⟩;show GG (oA I hg hm ?_ El);show PySem.W.callWith_K (h₀:=X.base) I.ok.mod.G8 LU (AO (args ha I ok h pos) λus s1 ⟨rs,c,vs,t,D,rv,w⟩=>⟨D.ES,?_⟩) he BS;have⟨r,st',g,q⟩:=w;unfold ip at g;rw[N]at g;cases i:F (rs.map (·.2)) with
 |none=>rw[i]at g;cases g
 |some r' =>
  rw[i]at g;split at g
  .cases g
  .rename_i z;cases z
  rename_i IG e3;cases e3;cases g;have⟨l,u⟩:=r;have⟨J,k2⟩:=hk _ _ _ i;have k1:l=.own\/l=.loc:=by
   rcases J with z|z|z
   .show .inl z
   .show .inr z
   .subst z;show(IG u rfl).elim
  have n:C.Eqv (Dj X.prog X.w X.K c.H (CH c.H)):=⟨o,x,y⟩
  have IH:(Dj X.prog X.w X.K c.H (CH c.H)).Eqv C:=⟨o.symm,x.symm,y.symm⟩
  have L:=t.read;have BU:spT X.prog X.w X.K F B vs c.H (λv H'=>Q v H') E0:=⟨by rw[<-L.len];show k2,rs.map (·.2),l,u,CH c.H,i,J,λ_ z=>z,L.cg n,λv H' S' j=>j.here k1 t.hσ t.ok t.nx IH q⟩
  have z:=xb (Q:=Q) G Y j .nil yX D rv (by rw[DY];show BU);rw[t.hσ]at z;show z
end
section
abbrev Mf.id:Mf->String
 |.split=>"str.split"|.join=>"str.join"|.partition=>"str.partition"|.endswith=>"str.endswith"
abbrev Mf.name:Mf->Str
 |.split=>"split"|.join=>"join"|.partition=>"partition"|.endswith=>"endswith"
def sy(h:dy f u rs=a5 r):∃x,u=.str x:=by
 unfold dy at h;split at h
 .show⟨_,rfl⟩
 .show⟨_,rfl⟩
 .show⟨_,rfl⟩
 .show⟨_,rfl⟩
 .show⟨_,rfl⟩
 .cases h
def xQ(J:C.K=X.K)(t:Cy C o c (x::rs) (d::u))(I:Inv X a c.σ c.H s)(i:RelV d v)(j:Vals u us)(h:dy f x.2 rs=a5 r)(q:bz C o Q r c.st):
  gi (ko X.prog X.w) X.A (Ja (.builtin f.id) (v::us)) (EP X a c.σ Q) X.xe s:=by
 have k:=t.hσ;have ok:=t.ok;have n:=t.nx;have⟨L,N⟩:=x;have hs:=dP.mp t.Fe;obtain⟨T,Y,O,y,g,-⟩:=t.rep;cases O;have l:ay C o c L N d:=y.t hs.1;have one:∀{r:Kd×U},b9 C o c [r] u->aS [r] c.st->∃v,u=[v]/\ay C o c r.1 r.2 v:=λ{r} h s=>by
  obtain⟨v,t',rfl,y,g,_⟩:=h;cases g;show⟨v,rfl,y.t s⟩
 dsimp only at h
 unfold dy at h;split at h
 .have⟨w,rfl,b⟩:=one g hs.2;split at h
  .rename_i hh;cases h;show rK a s c.σ c.H d [w] v us Q I i j ⟨_,_,l.str ok,by rw[b.str ok],hh.1,hh.2,λp z=>q.list k ok n (ag.strs.mpr rfl) p z⟩
  .cases h
 .rw[nC]at h;have⟨ss,e,h⟩:=h;have B:=aW e;subst B;have⟨w,rfl,b⟩:=one g hs.2;have⟨D,ws,ex,G,m⟩:=b.list ok;rw[ag.strs]at m;subst m;split at h
  .cases h;show uF a s c.σ c.H d [w] v us Q I i j ⟨_,D,ss,l.str ok,by rw[ex],J▸G,by assumption,q.flat k ok n rfl⟩
  .cases h
 .rw[nC]at h;have⟨ss,e,h⟩:=h;have B:=aW e;subst B;have⟨w,rfl,b⟩:=one g hs.2;have⟨D,ws,ex,G,m⟩:=b.tuple ok;rw[ag.strs]at m;subst m;split at h
  .cases h;show sf a s c.σ c.H d [w] v us Q I i j ⟨_,D,ss,l.str ok,by rw[ex],J▸G,by assumption,q.flat k ok n rfl⟩
  .cases h
 .have⟨w,rfl,b⟩:=one g hs.2;cases h;show lJ a s c.σ c.H d [w] v us Q I i j ⟨_,_,l.str ok,by rw[b.str ok],q.flat k ok n rfl⟩
 .have⟨w,rfl,b⟩:=one g hs.2;split at h
  .rename_i hh;cases h;show kf a s c.σ c.H d [w] v us Q I i j ⟨_,_,l.str ok,by rw[b.str ok],hh.1,hh.2,λp z=>?_⟩;show q.tup k ok n ⟨_,_,rfl,rfl,_,_,rfl,rfl,_,_,rfl,rfl,rfl⟩ p z
  .cases h
 .cases h
def vk(T:C.K=X.K)(slot:Slot "str" name f.id)(Y:QL (.builtin f.id)=pure (.type "method_descriptor"))(ho:PE X o (AR C m))(ha:PA X (e::es) (BE C ms))
  (CK:LJ o name X.env (Ew o X.env)=Ew o X.env)
  (BL:((Fq g (mu (e::es) X.env)).all (λx=>!x.1)&&(M9 g (J1 [] X.env)).all (λx=>x.1.isSome)
   && et ((e::es).length+([]:List Iu).length+(if ([]:List Iu).isEmpty then 0 else 1)<30))=b5)
  (Bv:(k.endLine==g.line)=b5) (hs:mu (e::es) X.env=(cb,Ew e X.env)::mu es X.env) (Bw:(Fq g (mu es X.env)).any (·.1)=cb) :
  PE X (.Call (.Attribute o name k) (e::es) [] g) (AR C (m >>= λx=>ms >>= λrs=>ao (x::rs) >>= λ_=>M.AZ (dy f x.2 rs))):=by
 rintro a s σ H Q I ⟨b,rfl,rfl,ok,h⟩;show OV CK BL Bv rfl (AO (ho a s b.σ b.H (λl A=>∃x d,d.H=A/\Fc C b d x l/\W (ms >>= λrs=>ao (x::rs) >>= λ_=>M.AZ (dy f x.2 rs)) d.st (bz C b Q)) I (aI ok h λx c v t w=>⟨x,c,rfl,t,w⟩)) ?_);rintro v s1 ⟨l,A,B,D,x,d,rfl,t,w⟩;have EG:∃z,x.2=.str z:=by
  rw[ab]at w;obtain⟨rs,st2,_,w⟩:=w;rw[ab]at w;obtain⟨_,st3,_,w⟩:=w;obtain⟨r,e,_⟩:=bM.mp w;show sy e
 have⟨z,hz⟩:=EG;have G:=t.rx;rw[hz]at G;have ev:=G.str t.ok;have ty:Hu X.K "str" l d.H:=by rw[ev];rfl
 have⟨h1,h2⟩:=rn B D ty;show⟨"str",f.id,PySem.F.plainAttrs_str,slot,Y,h1,h2,?_⟩;rw[ab]at w;have J:=ha g a s1 b.σ d.H (λn L=>∃rs j,j.H=L/\Cy C b j (x::rs) (l::n)/\W (M.AZ (dy f x.2 rs)) j.st (bz C b Q)) B ⟨d,t.hσ,rfl,t.ok,w.mono λrs st2 u j n N e4 Bg O p=>by
  rw[ab,bB]at u;subst e4;show⟨rs,j,rfl,⟨N,Bg,t.nx.trans O,⟨l,n,rfl,t.rx.w.on t.ok O (N.trans t.hσ.symm),p.from t.nx,λhk i r' v' e5 e6 BA=>kG t.rx.w (p.get e5 e6) hk BA⟩,u.1⟩,u.2⟩⟩
 rw[hs]at J ⊢;show K9 (by change(cb||(Fq g (mu es X.env)).any (·.1))=cb;rw[Bw]<;>rfl) (Jd ?_);show AO J ?_;rintro us s2 ⟨n,L,I2,p,rs,j,rfl,y,w2⟩;have⟨r,e,q⟩:=bM.mp w2;have z:=xQ T y (by rw[y.hσ];show I2) D p e q;rw[y.hσ]at z;show z
end
section
variable{X:Cx}{C:Ct}{pins:List (hA×Obj)}{s:gs}{c0 c c1:Cf}
variable{e:ri}{es:List ri}{ms:M (List (Kd×U))}{pos p p2 pos2:Pos}
abbrev B2.out:B2->eh
 |.C2=>.type "tuple"|.C3=>.type "list"|.sset=>.builtin "sorted"|.eW=>.builtin "len"
abbrev B2.G1:B2->eh
 |.C2=>.type "reversed"|.C3=>.type "reversed"|.sset=>.type "set"|.eW=>.type "set"
abbrev B2.kJ:B2->Str
 |.C2=>"tuple"|.C3=>"list"|.sset=>"sorted"|.eW=>"len"
abbrev B2.fy:B2->Str
 |.C2=>"reversed"|.C3=>"reversed"|.sset=>"set"|.eW=>"set"
def jC(j:C.K=X.K)(ok:Ok C c)(l:ay C c0 c k u v)(h:nE u=a5 ss):∃a b,v=.ref a/\(A_ X.K c.H a (b.map V.str)\/Bb X.K c.H a (b.map V.str))/\b.length+1<FP/\ss=aE b:=by
 unfold nE at h;split at h
 .rw[nC]at h;have⟨b,e,h⟩:=h;have g:=aW e;subst g;have⟨i,ws,ex,f,d⟩:=l.list ok;rw[ag.strs]at d;subst d;split at h
  .cases h;show⟨i,b,ex,.inl (j▸f),by assumption,rfl⟩
  .cases h
 .rw[nC]at h;have⟨b,e,h⟩:=h;have g:=aW e;subst g;have⟨i,ws,ex,f,d⟩:=l.tuple ok;rw[ag.strs]at d;subst d;rw[j]at f;split at h
  .cases h;show⟨i,b,ex,.inr f,by assumption,rfl⟩
  .cases h
 .cases h
theorem mf{S:hA->Prop}:∀{xs:List U}{d:List bN}{f:List V},ij xs=a5 d->ag C S H xs f->∃ws:List (bN×hA),d=ws.map (·.1)/\f=ws.map (λq=>V.ref q.2)/\∀q∈ws,cG C.K H (.ref q.2) q.1
 |[],d,f,e,h=>by cases e;cases h;show⟨[],rfl,rfl,λq hq=>by cases hq⟩
 |u::us,d,f,e,h=>by
  rw[ij,nC]at e;have⟨r,g,e⟩:=e;have⟨w,i,rfl⟩:=eH.mp e;have j:=eM g;subst j;have⟨v,x,rfl,k,l⟩:=h;have⟨ws,rfl,rfl,m⟩:=mf i l;have n:=Rep.row k;have⟨a,b,rfl,o,t⟩:=n;show⟨(r,a)::ws,rfl,rfl,λq hq=>?_⟩;rcases fx.mp hq with rfl|hq
  .show⟨a,b,rfl,o,t⟩
  .show m q hq
def xR(j:X.calm=b5)(D:X.A.units+60<y0)(k:C.K=X.K)(t:Cy C c0 c rs G)(I:Inv X pins c.σ c.H s)(o:Vals G us)(h:nF f rs=a5 r)(q:bz C c0 Q r c.st):
  gi (ko X.prog X.w) X.A (Ja f.G1 us) (λv s1=>gi (ko X.prog X.w) X.A (Ja f.out [v]) (EP X pins c.σ Q) X.xe s1) X.xe s:=by
 have y:=t.hσ;have ok:=t.ok;have n:=t.nx;cases f with
 |sset =>
  have⟨x,rfl,hz⟩:=aT (f:=λx=>(nE x.2).bind λss=>if ss.length<64 then a5 (Kd.own,U.lst ((bF ss).map .str)) else b6) h;clear h;have h:=hz;clear hz;have⟨ss,e,h⟩:=nC.mp h;have⟨v,rfl,m⟩:=t.one;have⟨z,J,rfl,a,b,rfl⟩:=jC k ok m e;have⟨u,rfl,d⟩:=vals1 o;cases d;split at h
  .cases h;show fk j I a b λS h' B g i=>ji j i g (by assumption) λl hl=>q.list y ok n (ag.strs.mpr rfl) l hl
  .cases h
 |eW =>
  have⟨x,rfl,hz⟩:=aT (f:=il) h;clear h;have⟨T,L⟩:=x;have⟨v,rfl,m⟩:=t.one;unfold il at hz;split at hz
  .rename_i ss e;cases hz;have⟨z,J,rfl,a,b,rfl⟩:=jC k ok m e;have⟨u,rfl,d⟩:=vals1 o;cases d;show fk j I a b λS h' B g i=>nj i g (q.flat y ok n rfl)
  .have hz:xC L=a5 r:=hz;unfold xC at hz;split at hz
   .rw[nC]at hz;have⟨Y,e,hz⟩:=hz;split at hz
    .cases hz;have⟨z,BN,rfl,a,b⟩:=m.list ok;have⟨ws,rfl,rfl,N⟩:=mf e b;have⟨u,rfl,d⟩:=vals1 o;cases d;show l5 j D I (k▸a) (λq O=>k▸N q O) (by simpa using(by assumption:(ws.map (·.1)).length<=64)) λS h' B g i=>l6 i g (q.flat y ok n rfl)
    .cases hz
   .cases hz
 |_=>cases h
def pB:∀f:B2,Fo f.kJ=a5 f.out/\Fo f.fy=a5 f.G1/\f.kJ≠"__name__"/\f.fy≠"__name__"/\(f.kJ==("__debug__":Str))=cb/\(f.fy==("__debug__":Str))=cb:=by
 intro f;cases f<;>show⟨by decide +kernel,by decide +kernel,by decide +kernel,by decide +kernel,by decide +kernel,by decide +kernel⟩
def xS(f:B2):∃T,f.G1=.type T:=by cases f<;>show⟨_,rfl⟩
def xT(f:B2):(∃T,f.out=.type T)\/∃T,f.out=.builtin T:=by cases f<;>first|show .inl ⟨_,rfl⟩|show .inr ⟨_,rfl⟩
def vm{M:Model}{E:eh->gs->Prop}(h:gi M A t (λv a=>gi M A (Ja (.type T) [v]) Q E a) E s):gi M A (callWith pos (.type T) [] [(cb,t)] []) Q E s :=
 PySem.callWith_type rfl (Jd (MX (B9 h (λ_ _ b=>M_ b) λ_ _ e=>e)))
def xU{M:Model}{E:eh->gs->Prop}(h:gi M A t (λv a=>gi M A (Ja (.builtin T) [v]) Q E a) E s):gi M A (callWith pos (.builtin T) [] [(cb,t)] []) Q E s :=
 K9 rfl (Jd (MX (B9 h (λ_ _ b=>M_ b) λ_ _ e=>e)))
def sA(b:X.calm=b5)(d:X.A.units+60<y0)(g:C.K=X.K)(i:Gl X f.fy)(j:X.mg f.fy=b6)
  (k:PA X (e::es) (BE C ms)) (l:mu (e::es) X.env=(cb,Ew e X.env)::mu es X.env) (m:(Fq pos2 (mu es X.env)).any (·.1)=cb)
  (I:Inv X pins c0.σ c0.H s) (ok:Ok C c0) (h:W (ms >>= λrs=>ao rs >>= λ_=>M.AZ (nF f rs)) c0.st (bz C c0 Q)) :
  gi (ko X.prog X.w) X.A (Ew (.Call (.Name f.fy p2) (e::es) [] pos2) X.env) (λv s1=>gi (ko X.prog X.w) X.A (Ja f.out [v]) (EP X pins c0.σ Q) X.xe s1) X.xe s:=by
 have⟨G,n,J,o,L,u⟩:=pB f;show GG (dn I i j n ?_ o u);have a:gi (ko X.prog X.w) X.A (Qe (Fq pos2 (mu (e::es) X.env))) (λus s1=>gi (ko X.prog X.w) X.A (Ja f.G1 us) (λv s1=>gi (ko X.prog X.w) X.A (Ja f.out [v]) (EP X pins c0.σ Q) X.xe s1) X.xe s1) X.xe s :=
  AO (args k I ok h pos2) λus s1 x=>by
   have⟨rs,c,N,t,y,B,w⟩:=x;have⟨r,e,q⟩:=bM.mp w;have z:=xR b d g t y B e q;rw[t.hσ]at z;show z
 have⟨T,D⟩:=xS f;rw[D]at a ⊢;show F_ a l m
def vn(d:X.calm=b5)(g:X.A.units+60<y0)(i:C.K=X.K)(j:Gl X f.kJ)(k:X.mg f.kJ=b6)(l:Gl X f.fy)(m:X.mg f.fy=b6)
  (n:PA X (e::es) (BE C ms)) (o:mu (e::es) X.env=(cb,Ew e X.env)::mu es X.env) (q:(Fq pos2 (mu es X.env)).any (·.1)=cb) :
  PE X (.Call (.Name f.kJ p) [.Call (.Name f.fy p2) (e::es) [] pos2] [] pos) (AR C (ms >>= λrs=>ao rs >>= λ_=>M.AZ (nF f rs))):=by
 rintro pins s σ H Q I ⟨c0,rfl,rfl,ok,h⟩;have⟨r,x,t,y,u,z⟩:=pB f;show GG (dn I j k r ?_ t u);have a:=sA (p2:=p2) (pos2:=pos2) d g i l m n o q I ok h;have v:Fq pos (mu [.Call (.Name f.fy p2) (e::es) [] pos2] X.env)=[(cb,Ew (.Call (.Name f.fy p2) (e::es) [] pos2) X.env)]:=rfl;have w:M9 pos (J1 [] X.env)=[]:=rfl;rw[v,w];rcases xT f with⟨T,b⟩|⟨T,b⟩
 .rw[b]at a ⊢;show vm a
 .rw[b]at a ⊢;show xU a
end
section
variable{X:Cx}{C:Ct}{pins:List (hA×Obj)}{s:gs}{c0 c c1:Cf}
variable{a b d e o tg:ri}{es:List ri}{m ma mb md:M (Kd×U)}{ms:M (List (Kd×U))}{ta tb:M Bool}{pos p p2 apos AH:Pos}
abbrev jD(rs:List (Kd×U))(c f:Cf):Prop:=∀j u,(Kd.bor j,u)∈rs->f.σ[j]?=c.σ[j]?
abbrev Walk(C:Ct)(c:Cf)(rs:List (Kd×U))(xs:List (Kd×U))(J:It):Prop:=∀f,Ok C f->Ns c f->jD rs c f->aS rs f.st ->
 (∀(i:Nat) r,xs[i]?=a5 r->(r.1=.loc\/r.1=.any)/\J.go i f.H/\∀x H',J.GB i f.H x H'->∃g:Cf,g.H=H'/\g.σ=f.σ/\g.st=f.st/\Ok C g/\Nx f g/\ay C f g r.1 r.2 x) /\
 ∀i:Nat,xs.length<=i->J.stop i f.H
abbrev Dk(C:Ct)(f:Ik)(ms:M (List (Kd×U))):TI:=λσ H R=>∃c0:Cf,c0.σ=σ/\c0.H=H/\Ok C c0/\W (ms >>= λrs=>ao rs >>= λ_=>M.AZ (BP f rs) >>= λxs=>pure (rs,xs)) c0.st λq st' =>
 ∀c J,c.σ=σ->c.st=st'->Ok C c->Nx c0 c->aS q.1 c.st->Walk C c q.1 q.2 J->R J c.H
def ay.walk(ok:Ok C c)(n:Ns c f)(g:jD [r] c f)(hs:aS [r] f.st)(h:ay C c0 c r.1 r.2 v):ay C c0 f r.1 r.2 v :=
 (h.w.JV ok n λj e=>g j r.2 (by rw[<-e];simp)).t hs
def v7(k:Kd):kE k=.loc\/kE k=.any:=by cases k<;>simp[kE]
def qC(A:C.K=X.K)(ok:Ok C c)(h:ay C c0 c k (.lst us) (.ref B)):Walk C c [(k,.lst us)] (us.map λu=>(kE k,u)) (Hc X.K B):=by
 intro q t n D hs;have h':=ay.walk (r:=(k,.lst us)) ok n D hs h;have⟨I,g,e,f,w⟩:=h'.list t;cases e;rw[A]at f;show⟨λi r y=>?_,λi G=>⟨g,f,by rw[<-w.len];simpa using G⟩⟩;rw[nc,eH]at y;have⟨u,H,rfl⟩:=y;have⟨v,z,j⟩:=w.get H;show⟨v7 k,⟨g,v,f,z⟩,λx H' l=>?_⟩;have⟨e,l⟩:=l;subst e;have:=l g f;rw[z]at this;cases this;show⟨q,rfl,rfl,rfl,t,Nx.refl q,ay.item j⟩
def nH(A:C.K=X.K)(ok:Ok C c)(h:ay C c0 c k (.tup us) (.ref B)):Walk C c [(k,.tup us)] (us.map λu=>(kE k,u)) (Hd X.K B):=by
 intro q t n D hs;have h':=ay.walk (r:=(k,.tup us)) ok n D hs h;have⟨I,g,e,f,w⟩:=h'.tuple t;cases e;rw[A]at f;show⟨λi r y=>?_,λi G=>⟨g,f,by rw[<-w.len];simpa using G⟩⟩;rw[nc,eH]at y;have⟨u,H,rfl⟩:=y;have⟨v,z,j⟩:=w.get H;show⟨v7 k,⟨g,v,f,z⟩,λx H' l=>?_⟩;have⟨e,l⟩:=l;subst e;have:=l g f;rw[z]at this;cases this;show⟨q,rfl,rfl,rfl,t,Nx.refl q,ay.item j⟩
def sC:Walk C c [(k,.str x)] (x.cps.toList.map λch=>(.loc,.str ⟨#[ch]⟩)) (HP x):=by
 intro f l n u hs;show⟨λi r g=>?_,λi q=>by change x.cps.toList.length<=i;simpa using q⟩;rw[nc,eH]at g;have⟨ch,h,rfl⟩:=g;show⟨.inl rfl,(l2.mp h).1,λy H' t=>?_⟩;have⟨e,v,j,rfl⟩:=t;subst e;rw[h]at j;cases j;show⟨f,rfl,rfl,rfl,l,Nx.refl f,rfl⟩
def ix{lo:Int}:Walk C c rs ((hQ n).map λi:Nat=>(Kd.loc,U.int (lo+(i:Int)))) (Fw lo n):=by
 intro h l nx t hs;show⟨λi r k=>?_,λi f=>by change n<=i;simpa using f⟩;rw[nc,eH]at k;have⟨j,g,rfl⟩:=k;have f:i<n:=by simpa using(l2.mp g).1
 rw[OK f]at g;cases g;show⟨.inl rfl,f,λy H' q=>?_⟩;have⟨e,rfl⟩:=q;subst e;show⟨h,rfl,rfl,rfl,l,Nx.refl h,rfl⟩
def xV(j:C.K=X.K)(q:PE X a (AR C ma)):PI X tg a (Dk C .seq (ma >>= λr=>pure [] >>= λrs=>pure (r::rs))):=by
 rintro pins s σ H R I ⟨c0,rfl,rfl,ok,h⟩;rw[ab,ab]at h;have⟨r,st1,t,h⟩:=h;rw[ab,af,af,ab,bB,ab]at h;have⟨w,h⟩:=h;have⟨xs,l,h⟩:=bM.mp h;rw[af]at h;have⟨k,u⟩:=r;cases u with
 |lst us =>
  cases l;show ug q pins s c0.σ c0.H R I ⟨c0,rfl,rfl,ok,_,st1,t,λc v i hs g n f=>?_⟩;have⟨y,z,rfl,A,D⟩:=f.list g;subst hs;show⟨y,rfl,⟨z,j▸A⟩,h c _ i rfl g n w (qC j g f)⟩
 |tup us =>
  cases l;show wX q pins s c0.σ c0.H R I ⟨c0,rfl,rfl,ok,_,st1,t,λc v i hs g n f=>?_⟩;have⟨y,z,rfl,A,D⟩:=f.tuple g;subst hs;have B:=A;rw[j]at B;show⟨y,rfl,⟨z,B⟩,h c _ i rfl g n w (nH j g f)⟩
 |str x =>
  cases l;show xk q pins s c0.σ c0.H R I ⟨c0,rfl,rfl,ok,_,st1,t,λc v i hs g n f=>?_⟩;subst hs;show⟨_,f.str g,h c _ i rfl g n w sC⟩
 |_=>cases l
def sD{k:List (Kd×U)->M β}{i:β->aq->Prop}(ok:Ok C c0)(h:W (ms >>= λrs=>ao rs >>= λ_=>k rs) c0.st i)
  (hz:∀rs c f,Cy C c0 c rs f->W (k rs) c.st i->Z f c.H):BE C ms c0.σ c0.H Z:=by
 rw[ab]at h;show⟨c0,rfl,rfl,ok,h.mono λrs st1 g c1 f j l n q r=>?_⟩;rw[ab,bB]at g;subst l;show hz rs c1 f ⟨j,n,q,r,g.1⟩ g.2
def vo(i:Gl X "range")(j:X.mg "range"=b6)(hs:mu [a] X.env=[(cb,Ew a X.env)])(k:PA X [a] (BE C ms)):PI X tg (.Call (.Name "range" p) [a] [] pos) (Dk C .A2 ms):=by
 rintro pins s σ H R I ⟨c0,rfl,rfl,ok,h⟩;show qb i j k hs pins s c0.σ c0.H R I (sD ok h λrs c n t w=>?_);rw[ab]at w;have⟨xs,g,w⟩:=bM.mp w;rw[af]at w;have⟨x,rfl,hz⟩:=aT (f:=qy) g;clear g;have g:=hz;clear hz;have⟨v,rfl,l⟩:=t.one;unfold qy at g;split at g
 .split at g
  .rename_i hh;cases g;show⟨_,by rw[l.int t.ok],⋯,⋯,w c _ t.hσ rfl t.ok t.nx t.Fe ix⟩
  .cases g
 .cases g
def vp(g:Gl X "range")(i:X.mg "range"=b6)(hs:mu [a,b] X.env=[(cb,Ew a X.env),(cb,Ew b X.env)])(j:mu [b] X.env=[(cb,Ew b X.env)])(k:PA X [a,b] (BE C ms)):PI X tg (.Call (.Name "range" p) [a,b] [] pos) (Dk C .Du ms):=by
 rintro pins s σ H R I ⟨c0,rfl,rfl,ok,h⟩;show qc g i k hs j pins s c0.σ c0.H R I (sD ok h λrs c q t w=>?_);rw[ab]at w;have⟨xs,f,w⟩:=bM.mp w;rw[af]at w;have f:xD rs=a5 xs:=f;unfold xD at f;split at f
 .split at f
  .rename_i hh;cases f;have⟨v,r,rfl,l,n⟩:=t.two;show⟨_,_,by rw[l.int t.ok,n.int t.ok],⋯,w c _ t.hσ rfl t.ok t.nx t.Fe ix⟩
  .cases f
 .cases f
def Ok.put(ok:Ok C c)(n:Nx c0 c)(T:i<c.σ.length)(hk:k=.own\/k=.loc\/k=.any)(Bz:Ok C c0)(h:ay C c0 c k u v):
  Ok C {c with σ:=c.σ.set i (a5 v),st:=c.st.set i (a5 (k,u))}/\Nx c0 {c with σ:=c.σ.set i (a5 v),st:=c.st.set i (a5 (k,u))}:=by
 have Y:i<c.st.length:=by rw[ok.len];show T
 have By:∀(j:Nat) k' u',(c.st.set i (a5 (k,u)))[j]?=a5 (a5 (k',u'))->j≠i->c.st[j]?=a5 (a5 (k',u')):=λj k' u' e ne=>by rw[pa (Eu ne)]at e;show e
 have IJ:∀(j:Nat) D,(c.σ.set i (a5 v))[j]?=a5 (a5 D)->j≠i->c.σ[j]?=a5 (a5 D):=λj D e ne=>by rw[pa (Eu ne)]at e;show e
 have sl:du C c.S c.H k u v:=by
  rcases hk with rfl|rfl|rfl
  .have⟨r,e,G,L,x,N⟩:=h;have⟨z0,z1,O,z3,z4⟩:=Bz.nB G;show⟨r,e,L,O,z0,N⟩
  .show h
  .show h
 have EH:∀(j:Nat) k' u' r,k'.root=b5->(c.st.set i (a5 (k,u)))[j]?=a5 (a5 (k',u'))->(c.σ.set i (a5 v))[j]?=a5 (a5 (.ref r))->j=i/\k=.own/\v=.ref r\/j≠i/\c.st[j]?=a5 (a5 (k',u'))/\c.σ[j]?=a5 (a5 (.ref r)):=λj k' u' r I g l=>by
  by_cases f:j=i
  .subst f;rw[my Y]at g;rw[my T]at l;cases g;cases l;rcases hk with rfl|rfl|rfl
   .show .inl ⟨rfl,rfl,rfl⟩
   .cases I
   .cases I
  .show .inr ⟨f,By j k' u' g f,IJ j _ l f⟩
 have dD:∀(j:Nat) (u':U),(c.st.set i (a5 (k,u)))[j]?=a5 (a5 (.AK,u'))->c.st[j]?=a5 (a5 (.AK,u'))/\(c.σ.set i (a5 v))[j]?=c.σ[j]?:=λj u' e=>by
  by_cases f:j=i
  .subst f;rw[my Y]at e;cases e;rcases hk with hk|hk|hk<;>cases hk
  .show⟨By j .AK u' e f,pa (Eu f)⟩
 have y:∀a,({c with σ:=c.σ.set i (a5 v),st:=c.st.set i (a5 (k,u))}:Cf).R1 a->c.R1 a\/k=.own/\v=.ref a:=λa Bm=>by
  have⟨j,k',u',I,g,l⟩:=Bm;rcases EH j k' u' a I g l with⟨Q,t,w⟩|⟨Q,t,w⟩
  .show .inr ⟨t,w⟩
  .show .inl ⟨j,k',u',I,t,w⟩
 have DB:CF C {c with σ:=c.σ.set i (a5 v),st:=c.st.set i (a5 (k,u))}:=ok.dd.of rfl dD (λa z=>(y a z).imp id λ⟨q1,q2⟩ j z'=>by
  subst q1;obtain⟨J,e,_,_,x,_⟩:=h;rw[q2]at e;cases e;show x (.inr ⟨j,z'⟩)) (.up λ_ z=>z) λj a z=>⟨(ok.root (.inr ⟨j,z⟩)).1,λo q=>q⟩
 show⟨⟨ok.same,ok.Cv,ok.par,ok.io,by simp[ok.len],λj k' u' e=>?_,λj1 j2 k1 k2 u1 u2 r D7 Di g l e3 e4=>?_,DB⟩,⟨⟨n.keep,n.there,λa z=>?_,n.sub,n.new⟩,n.all⟩⟩
 .by_cases f:j=i
  .subst f;rw[my Y]at e;cases e;show⟨v,by rw[my T],sl⟩
  .have⟨D,g,l⟩:=ok.sl j k' u' (By j k' u' e f);show⟨D,by rw[pa (Eu f)];show g,l⟩
 .have z1:=EH j1 k1 u1 r D7 g e3;have O:=EH j2 k2 u2 r Di l e4;rcases z1 with⟨Q,t,w⟩|⟨Q,t,w⟩
  .rcases O with⟨y,A,B⟩|⟨y,A,B⟩
   .show Q.trans y.symm
   .subst t;have⟨J,e,G,L,x,N⟩:=h;rw[w]at e;cases e;show(x (.inl ⟨j2,k2,u2,Di,A,B⟩)).elim
  .rcases O with⟨y,A,B⟩|⟨y,A,B⟩
   .subst A;have⟨J,e,G,L,x,N⟩:=h;rw[B]at e;cases e;show(x (.inl ⟨j1,k1,u1,D7,t,w⟩)).elim
   .show ok.inj j1 j2 k1 k2 u1 u2 r D7 Di t A w B
 .rcases z with z|⟨j,u',J,g,l,e3⟩
  .rcases y a z with z|⟨t,w⟩
   .show n.roots a (.inl z)
   .subst t;have⟨J,e,G,L,x,N⟩:=h;rw[w]at e;cases e;show .inr G
  .have⟨q1,q2⟩:=dD j u' g;show n.roots a (.inr ⟨j,u',J,q1,q2▸l,e3⟩)
def pC(y:Ok C c0)(ok:Ok C c)(n:Nx c0 c)(z:i<c.σ.length)(q:ay C c0 c r.1 r.2 v)(h:W (di i r) c.st I):
  ∃t,t.σ=c.σ.set i (a5 v)/\t.H=c.H/\Ok C t/\Nx c0 t/\I () t.st:=by
 have⟨k,u⟩:=r;cases k with
 |own =>
  have⟨x,st',e,f⟩:=h;cases e;have⟨g,l⟩:=ok.put n z (.inl rfl) y q;show⟨{c with σ:=c.σ.set i (a5 v),st:=c.st.set i (a5 (.own,u))},rfl,rfl,g,l,f⟩
 |loc =>
  have⟨x,st',e,f⟩:=h;cases e;have⟨g,l⟩:=ok.put n z (.inr (.inl rfl)) y q;show⟨{c with σ:=c.σ.set i (a5 v),st:=c.st.set i (a5 (.loc,u))},rfl,rfl,g,l,f⟩
 |any =>
  have⟨x,st',e,f⟩:=h;cases e;have⟨g,l⟩:=ok.put n z (.inr (.inr rfl)) y q;show⟨{c with σ:=c.σ.set i (a5 v),st:=c.st.set i (a5 (.any,u))},rfl,rfl,g,l,f⟩
 |bor j =>
  have⟨x,st',e,f⟩:=h;rw[show di i (.bor j,u) c.st=match c.st[j]? with|some (a5 (.own,u))=>a5 (Ex.ok (),(c.st.set j (a5 (.loc,u))).set i (a5 (.loc,u)))|_=>b6 from rfl]at e;split at e
  .rename_i w B;cases e;obtain⟨O,D,r,J,_⟩:=ok.sl j _ _ B;have G:c.σ[j]?=a5 (a5 v):=q.2;rw[G]at D;cases D;subst J;have⟨L,N,A⟩:=ok.sr n B G;have⟨g,l⟩:=Ok.put (c:={c with S:=λa=>c.S a\/a=r,st:=c.st.set j (a5 (.loc,w))}) L N (k:=.loc) (u:=w) (v:=.ref r) z (.inr (.inl rfl)) y A;show⟨{S:=λa=>c.S a\/a=r,H:=c.H,σ:=c.σ.set i (a5 (.ref r)),st:=(c.st.set j (a5 (.loc,w))).set i (a5 (.loc,w)),kid:=c.kid},rfl,rfl,g,l,f⟩
  .cases e
 |_=>show q.elim
end
section
abbrev tG(C:Ct)(t:Bool)(is:List Nat):TG:=λv σ H Q=>∃b c r,c.σ=σ/\c.H=H/\Ok C b/\Ok C c/\Nx b c/\ay C b c r.1 r.2 v/\W (dk t is r) c.st λ_ st' =>
 ∀a,a.st=st'->Ok C a->Nx b a->(∀j,j∉is->a.σ[j]?=c.σ[j]?)->a.σ.length=c.σ.length->Q a.σ a.H
structure nI(X:Cx)(e:ri)(i:Nat):Prop where
 is:∃x pos,e=.Name x pos/\X.N[i]?=a5 x/\Loc X.env.scope x/\(X.fn x=b5\/X.env.scope.names.lookup x=a5 .local)
def xW(g:X.N.Nodup)(h:nI X e i):PG X e (tG C cb [i]):=by
 have⟨x,pos,rfl,f,k,l⟩:=h.is;rintro a s σ H v u Q I m ⟨G,c,r,rfl,rfl,o,ok,n,b,w⟩;have p:i<c.σ.length:=by rw[I.len];show(l2.mp f).1
 have⟨t,d,y,A,B,q⟩:=pC (r:=r) o ok n p b w;show oC g f k l a s c.σ c.H v u Q I m ?_;have z:=q t rfl A B (λj D=>by rw[d,pa (by intro z;show D (by simp[z]))]) (by rw[d];simp);rw[d,y]at z;show z
abbrev IK:List Nat->EU
 |[]=>yH
 |i::is=>vT (oB i) (IK is)
inductive cY(X:Cx):List ri->List Nat->Prop where
 |nil:cY X [] []
 |cons {e:ri} {es:List ri} {i:Nat} {is:List Nat} (h:nI X e i) (t:cY X es is):cY X (e::es) (i::is)
def qD(a:X.N.Nodup)(h:cY X es is):Fv X es (IK is):=by
 induction h with
 |nil=>show ue
 |cons h t b =>
  have⟨x,pos,rfl,c,d,e⟩:=h.is;show rf (oC a c d e) b rfl
def nJ(h:cY X es is):(Iz es X.env).length=is.length/\(Iz es X.env).findIdx? (·.1)=b6:=by
 induction h with
 |nil=>show⟨rfl,rfl⟩
 |cons h t a =>
  have⟨x,pos,rfl,b,c,d⟩:=h.is;show⟨?_,?_⟩
  .change(_::_).length=_;simp[a.1]
  .change P_ _ (_::_)=b6;rw[List.findIdx?_cons,Q9 (by simp),a.2];rfl
theorem pD(hk:kE k=k)(m:Ok C l):∀{is:List Nat}{us:List U}{d:List V}{c:Cf}{f:Unit->aq->Prop}{Q:L2.St->Hp->Prop},Ok C c->Nx l c->(∀i∈is,i<c.σ.length)->ag C (SK C c k) c.H us d->W (sets is (us.map λu=>(k,u))) c.st f ->
  (∀b,f () b.st->Ok C b->Nx l b->(∀j,j∉is->b.σ[j]?=c.σ[j]?)->b.σ.length=c.σ.length->Q b.σ b.H)->IK is d c.σ c.H Q
 |[],[],d,c,f,Q,ok,n,g,a,w,q=>by
  rw[show sets [] (PY (λu=>(k,u)) [])=pure () from rfl,af]at w;show⟨a,q c w ok n (λ_ _=>rfl) rfl⟩
 |[],u::us,d,c,f,Q,ok,n,g,a,w,q=>(aF.mp w).elim
 |i::is,[],d,c,f,Q,ok,n,g,a,w,q=>(aF.mp w).elim
 |i::is,u::us,d,c,f,Q,ok,n,g,a,w,q=>by
  rw[show sets (i::is) (PY (λu=>(k,u)) (u::us))=di i (k,u) >>= λ_=>sets is (us.map λu=>(k,u)) from rfl,ab]at w;have⟨v,r,rfl,o,s⟩:=a;have t:k=.own\/k=.loc\/k=.any:=by cases k<;>simp[kE]at hk<;>simp
  have I:k≠.own:=by cases k<;>simp[kE]at hk<;>simp
  have rt:ay C l c k u v:=by rw[<-hk];show ay.item o
  have⟨x,y⟩:=ok.put n (g i (by simp)) t m rt;have es:di i (k,u)=λst=>a5 (.ok (),st.set i (a5 (k,u))):=by cases k<;>simp[kE]at hk<;>rfl
  obtain⟨_,st',e,A⟩:=w;rw[es]at e;cases e;show⟨v,r,rfl,pD (c:={c with σ:=c.σ.set i (a5 v),st:=c.st.set i (a5 (k,u))}) hk m x y (λj h=>by simpa using g j (by simp[h])) (by cases k<;>show s) A λb p B D G hl=>?_⟩;show q b p B D (λj h=>?_) (by rw[hl];simp);rw[G j (λz=>h (by simp[z])),pa (λz=>h (by simp[z]))]
def zh(j:X.calm=b5)(m:C.K=X.K)(o:X.N.Nodup)(h:cY X es is)(hl:∀i∈is,i<X.N.length):PG X (.Tuple es kk pos) (tG C b5 is):=by
 rintro a s σ H v u Q I q ⟨c0,c,r,rfl,rfl,t,ok,n,d,w⟩;have⟨y,z⟩:=nJ h;show wQ j (qD o h) y z a s c.σ c.H v u Q I q ?_;have⟨k,A⟩:=r;cases A with
 |tup us =>
  rw[show dk b5 is (k,.tup us)=sets is (us.map λu=>(kE k,u)) from by cases is<;>rfl]at w;have⟨B,D,rfl,f,g⟩:=d.tuple ok;rw[m]at f;have b:us.length=is.length:=by
   have e:∀(is:List Nat) (l:List (Kd×U)) (st:aq) (P:Unit->aq->Prop),W (sets is l) st P->l.length=is.length:=by
    intro is;induction is with
    |nil=>intro l st P w;cases l with
     |nil=>rfl
     |cons _ _=>show(aF.mp w).elim
    |cons i is G=>intro l st P w;cases l with
     |nil=>show(aF.mp w).elim
     |cons x l =>
      rw[show sets (i::is) (x::l)=di i x >>= λ_=>sets is l from rfl,ab]at w;obtain⟨_,_,_,w⟩:=w;rw[k4,k4,G l _ _ w]
   simpa using e _ _ _ _ w
  show⟨B,D,rfl,f,by rw[<-g.len,b],?_⟩;show pD (k:=kE k) (by cases k<;>rfl) t ok n (λi J=>by rw[I.len];show hl i J) (by cases k<;>show g) w λL p O T Y G9=>p L rfl O T Y G9
 |_=>cases is<;>show(aF.mp w).elim
end
section
variable{X:Cx}{C:Ct}{pins:List (hA×Obj)}{s:gs}{c0 c c1:Cf}
variable{a b d e o tg iter elt:ri}{es ifs:List ri}{m ma mb md me:M (Kd×U)}{ms:M (List (Kd×U))}{ta tb tc:M Bool}{pos p p2 apos AH:Pos}
def qE{m:M α}{st:aq}{Q:α->aq->Prop}:W (inScope k m) st Q↔W m (g5 k b6++st) λa st'=>Q a (st'.drop k):=by
 constructor
 .rintro⟨a,st',e,h⟩;unfold inScope at e;cases q:m (g5 k b6++st) with
  |none=>rw[q]at e;cases e
  |some r=>have⟨g,f⟩:=r;rw[q]at e;cases e;show⟨a,f,q,h⟩
 .rintro⟨a,st',e,h⟩;show⟨a,st'.drop k,by unfold inScope;rw[e],h⟩
abbrev Cf.ext(k:Nat)(c:Cf):Cf:={c with σ:=g5 k b6++c.σ,st:=g5 k b6++c.st,kid:=λj=>c.kid (j - k)}
abbrev Cf.cut(k:Nat)(c:Cf):Cf:={c with σ:=c.σ.drop k,st:=c.st.drop k,kid:=λj=>c.kid (k+j)}
def dQ(h:(g5 k b6++l)[j]?=a5 (a5 x)):∃i,j=k+i/\l[i]?=a5 (a5 x):=by
 by_cases f:j<k
 .rw[tr (by simpa using f)]at h;rw[F3]at h;rw[Q8 f]at h;cases h
 .show⟨j - k,⋯,?_⟩;rw[sx (by simp;lia)]at h;simpa using h
def cZ:(g5 k b6++l)[k+i]?=l[i]?:=by
 rw[sx (by simp)];simp
def sE:(c.ext k).R1 r↔c.R1 r:=by
 constructor
 .rintro⟨j,g,u,h,l,f⟩;have⟨i,rfl,e⟩:=dQ l;rw[Cf.ext,cZ]at f;show⟨i,g,u,h,e,f⟩
 .rintro⟨i,g,u,h,l,f⟩;show⟨k+i,g,u,h,by rw[Cf.ext,cZ];show l,by rw[Cf.ext,cZ];show f⟩
def kK{a:hA}(h:(c.ext k).RD j a):∃i,j=k+i/\c.RD i a:=by
 have⟨u,r,l,f,g⟩:=h;have⟨i,rfl,e⟩:=dQ l;rw[Cf.ext,cZ]at f;show⟨i,rfl,u,r,e,f,?_⟩;have:(c.ext k).kid (k+i)=c.kid i:=by change c.kid (k+i - k)=_;rw[Of]
 rw[this]at g;show g
def zi(h:(c.ext k).R r):c.R r:=by
 rcases h with h|⟨j,h⟩
 .show .inl (sE.mp h)
 .obtain⟨i,_,h⟩:=kK h;show .inr ⟨i,h⟩
def Ok.ext(k:Nat)(ok:Ok C c):Ok C (c.ext k)/\Nx c (c.ext k):=by
 show⟨⟨ok.same,ok.Cv,ok.par,ok.io,by simp[Cf.ext,ok.len],λj z u e=>?_,λi j A B u u' r D G g f x y=>?_,⟨λj u r g f=>?_,λi j a l n=>?_,λj a l n=>?_⟩⟩,⟨⟨λ_ _ h _=>h,λ_ o h=>⟨o,h⟩,λa h=>.inl (zi h),λ_ h=>h,λ_ h=>.inl h⟩,λ_ _ h=>h⟩⟩
 .have⟨i,rfl,H⟩:=dQ e;have⟨v,g,f⟩:=ok.sl i z u H;show⟨v,by rw[Cf.ext,cZ];show g,f⟩
 .have⟨q,rfl,I⟩:=dQ g;have⟨t,rfl,J⟩:=dQ f;rw[Cf.ext,cZ]at x y;rw[ok.inj q t A B u u' r D G I J x y]
 .have⟨i,rfl,e⟩:=dQ g;rw[Cf.ext,cZ]at f;have:(c.ext k).kid (k+i)=c.kid i:=by change c.kid (k+i - k)=_;rw[Of]
  rw[this];show ok.dd.kd i u r e f
 .have⟨q,rfl,w⟩:=kK l;have⟨t,rfl,L⟩:=kK n;rw[ok.dd.dj q t a w L]
 .have⟨i,rfl,w⟩:=kK l;show ok.dd.d1 i a w (sE.mp n)
def sF{a:hA}(h:(c.cut k).R1 a):c.R1 a:=by
 have⟨j,i,u,l,f,g⟩:=h;rw[Cf.cut,EO]at f g;show⟨k+j,i,u,l,f,g⟩
def kL{a:hA}(h:(c.cut k).RD j a):c.RD (k+j) a:=by
 have⟨u,r,f,g,i⟩:=h;rw[Cf.cut,EO]at f g;show⟨u,r,f,g,i⟩
def Ok.cut(k:Nat)(ok:Ok C c):Ok C (c.cut k)/\Nx c (c.cut k):=by
 show⟨⟨ok.same,ok.Cv,ok.par,ok.io,by simp[Cf.cut,ok.len],λj w u e=>?_,λi j x y u u' r A B f g q t=>?_,⟨λj u r f g=>?_,λi j a l n=>?_,λj a l n=>ok.dd.d1 _ a (kL l) (sF n)⟩⟩,⟨⟨λ_ _ h _=>h,λ_ o h=>⟨o,h⟩,λa h=>.inl (h.elim (λz=>.inl (sF z)) λ⟨j,z⟩=>.inr ⟨k+j,kL z⟩),λ_ h=>h,λ_ h=>.inl h⟩,λ_ _ h=>h⟩⟩
 .rw[Cf.cut,EO]at e;have⟨v,f,g⟩:=ok.sl _ w u e;show⟨v,by rw[Cf.cut,EO];show f,g⟩
 .rw[Cf.cut,EO]at f g q t;have:=ok.inj _ _ x y u u' r A B f g q t;lia
 .rw[Cf.cut,EO]at f g;show ok.dd.kd _ u r f g
 .have:=ok.dd.dj _ _ a (kL l) (kL n);lia
def vq(h:∀j,j∉hQ k->g[j]?=(g5 k b6++σ)[j]?)(hl:g.length=(g5 k (b6:Option V)++σ).length):∃f:L2.St,f.length=k/\g=f++σ:=by
 show⟨g.take k,by rw[rr,hl];simp,?_⟩;apply List.ext_getElem?;intro j;by_cases i:j<k
 .rw[tr (by rw[rr,hl];simp;lia),List.getElem?_take,Q8 i]
 .rw[h j (by simpa using i),sx (by simp;lia),sx (by rw[rr,hl];simp;lia)];congr 1
  rw[rr,hl];simp
def qF(e1:c1.σ=c0.σ)(AU:Ok C c1)(n1:Nx c0 c1)(hw:Walk C c1 rs xs J)(h3:W (aZ k t tc me rs xs []) c1.st λus st'=>W (pure (Kd.own,U.lst us)) st' (bz C c0 Q)):
  oJ k J (tG C t (hQ k)) (Bu C tc) (AR C me) Q c0.σ c1.H:=by
 show⟨λi m ys H=>∃c f,c.H=H/\c.σ=c0.σ/\Ok C c/\Nx c1 c/\m=xs.length - i/\i<=xs.length/\ag C c.S c.H f ys/\f.length<=df/\W (aZ k t tc me rs (xs.drop i) f) c.st λus st'=>W (pure (Kd.own,U.lst us)) st' (bz C c0 Q),⟨xs.length,c1,[],rfl,e1,AU,Nx.refl c1,by simp,pb _,rfl,pb _,by simpa using h3⟩,?_⟩;rintro i m ys H ⟨c,f,rfl,G,y,A,rfl,hi,h,l,w⟩;show⟨by rw[<-h.len];show l,?_⟩;have g:jD rs c1 c:=λj u _=>by rw[G,e1]
 by_cases I:i<xs.length
 .right
  rw[Kr I]at w;rw[show aZ k t tc me rs (xs[i]::xs.drop (i+1)) f=ao rs >>= λ_=>inScope k (dk t (hQ k) xs[i] >>= λ_=>tc >>= λb=>if b=b5 then(me >>= λr=>lift r >>= λu=>pure (a5 u)) else pure b6) >>= λr=>match r with|some u=>if f.length<df then aZ k t tc me rs (xs.drop (i+1)) (f++[u]) else M.fail|none=>aZ k t tc me rs (xs.drop (i+1)) f from rfl,ab,bB]at w;have⟨C6,w⟩:=w;obtain⟨L,_⟩:=hw c y A g C6;have⟨Gf,IL,G2⟩:=L i xs[i] (by simp[I]);show⟨IL,λDc H'=>∃c f,c.H=H'/\c.σ=c0.σ/\Ok C c/\Nx c1 c/\ag C c.S c.H f Dc/\f.length<=df/\W (aZ k t tc me rs (xs.drop (i+1)) f) c.st λus st'=>W (pure (Kd.own,U.lst us)) st' (bz C c0 Q),λDc H' ⟨c',FY,z1,z2,z3,z4,z5,z6,z7⟩=>⟨xs.length - (i+1),⋯,c',FY,z1,z2,z3,z4,rfl,I,z5,z6,z7⟩,λx H' hy=>?_⟩;have⟨n,rfl,e4,e5,Bg,n2,rt⟩:=G2 x H' hy;rw[ab,qE,ab]at w;have⟨JZ,nx⟩:=Bg.ext k;have LW:ay C (n.ext k) (n.ext k) xs[i].1 xs[i].2 x:=by
   rcases Gf with z|z
   .rw[z]at rt ⊢;show rt
   .rw[z]at rt ⊢;show rt
  have eσ:(n.ext k).σ=g5 k b6++c0.σ:=by rw[Cf.ext];change g5 k b6++n.σ=_;rw[e4,G]
  show⟨n.ext k,n.ext k,xs[i],eσ,rfl,JZ,JZ,Nx.refl _,LW,?_⟩;have LX:(n.ext k).st=g5 k b6++c.st:=by rw[Cf.ext];change g5 k b6++n.st=_;rw[e5]
  rw[LX];show w.mono λ_ st3 w3 c3 e6 C5 n3 Gg Fh=>?_;subst e6;rw[eσ]at Gg Fh;have⟨N,O,T⟩:=vq Gg Fh;show⟨N,O,T,?_⟩;have J0:Nx c c3:=(n2.trans nx).trans n3;rw[ab]at w3;show⟨c3,rfl,rfl,C5,w3.mono λb EY q D e7 e8 Y n4=>?_⟩;subst e8;cases b with
  |false =>
   rw[Q9 mA]at q ⊢;rw[af]at q;have⟨IM,nk⟩:=Y.cut k;have nn:Nx c (D.cut k):=(J0.trans n4).trans nk;show⟨D.cut k,f,rfl,?_,IM,A.trans nn,h.mv (y.mv nn),l,q⟩;change D.σ.drop k=_;rw[e7,T,NA O]
  |true =>
   rw[Q8 rfl]at q ⊢;rw[ab]at q;show⟨D,e7,rfl,Y,q.mono λr DO w5 c5 v e9 LY LZ n5 L0=>?_⟩;subst LY;rw[ab]at w5;obtain⟨S',st',u,sS,L4,n6,IQ,B,_,_⟩:=kH Y LZ n5 L0.w w5;rw[af]at B
   dsimp only at B
   split at B
   .rename_i hz;have⟨IM,nk⟩:=L4.cut k;have nn:Nx c (Cf.cut k {c5 with S:=S',st:=st' }):=((J0.trans n4).trans n6).trans nk;show⟨Cf.cut k {c5 with S:=S',st:=st' },f++[u],rfl,?_,IM,A.trans nn,(h.mv (y.mv nn)).snoc IQ,by rw[mh];show hz,B⟩;change c5.σ.drop k=_;rw[e9,T,NA O]
   .show(aF.mp B).elim
 .left
  have BH:i=xs.length:=by lia
  subst BH;rw[Pp,show aZ k t tc me rs [] f=ao rs >>= λ_=>pure f from rfl,ab,bB,af,af]at w;obtain⟨_,L⟩:=hw c y A g w.1;show⟨L _ (ke _),λp hp=>bz.list w.2 G y (n1.trans A) h p hp⟩
def jE(ok:Ok C c0)
  (h:W (ms >>= λrs=>ao rs >>= λ_=>M.AZ (BP l rs) >>= λxs=>aZ k t tc me rs xs [] >>= λus=>pure (Kd.own,U.lst us)) c0.st (bz C c0 Q)) :
  rG k (Dk C l ms) (tG C t (hQ k)) (Bu C tc) (AR C me) c0.σ c0.H Q:=by
 rw[ab]at h;show⟨c0,rfl,rfl,ok,?_⟩;rw[ab];show h.mono λrs st1 f=>?_;rw[ab,bB]at f ⊢;show⟨f.1,?_⟩;have g:=f.2;rw[ab]at g ⊢;show g.mono λxs st2 i=>?_;rw[af];intro c1 J n q r u v j;rw[ab]at i;subst q
 dsimp only at v j
 show qF n r u j i
def sG(S:bJ X N own scope)(f:X.calm=b5)(g:PI X tg iter (Dk C i ms))
  (j:∀D s H ex,PG (Bi X N scope D s H ex) tg (tG C t (hQ own.length))) (k:∀D s H ex,Dq (Bi X N scope D s H ex) ifs (Bu C tc)) (l:∀D s H ex,PE (Bi X N scope D s H ex) elt (AR C me))
  (hs:∀x,FW iter X.env x=pure x) :
  PE X (.ListComp elt [⟨tg,iter,ifs,0⟩] scope pos) (AR C (ms >>= λrs=>ao rs >>= λ_=>M.AZ (BP i rs) >>= λxs=>aZ own.length t tc me rs xs [] >>= λus=>pure (.own,.lst us))):=by
 show PE.weak (uD S f g j k l hs) ?_;rintro σ H Q ⟨c0,rfl,rfl,ok,h⟩;show jE ok h
end
section
variable{a b d e o tg iter elt:ri}{es ifs:List ri}{m ma mb md me:M (Kd×U)}{ms:M (List (Kd×U))}{ta tb tc:M Bool}{pos p p2 apos AH:Pos}{st:Hq}{rest body:List Hq}{f g mm:M Fl}{ns G3:Nat->Bool}
def zj(C:Ct)(c:Cf):Kd->U->V->Prop
 |.own,u,v=>∃r,v=.ref r/\C.H₀ r=b6/\¬c.S r/\¬c.R r/\cf C c.S c.H r u
 |.loc,u,v=>Rep C c.S c.H u v
 |.any,u,v=>Rep C (PS C c.S) c.H u v
 |_,_,_=>False
abbrev Fin(C:Ct)(D:Ends)(f:Fl)(c:Cf):Prop:=match f with
 |.nx=>D.nx c.σ c.H
 |.bk=>D.bk c.σ c.H
 |.ct=>D.ct c.σ c.H
 |.rt k u=>∀v,zj C c k u v->D.rt v c.H
abbrev Kept(ns:Nat->Bool)(c h:Cf):Prop:=(∀j,ns j=b5->h.σ[j]?=c.σ[j]?)/\h.σ.length=c.σ.length
def Kept.refl:Kept ns c c:=⟨λ_ _=>rfl,rfl⟩
def Kept.trans(h:Kept ns c i)(h':Kept ns i k):Kept ns c k:=⟨λj z=>(h'.1 j z).trans (h.1 j z),h'.2.trans h.2⟩
def Kept.le(i:∀j,G3 j=b5->ns j=b5)(h:Kept ns c k):Kept G3 c k:=⟨λj z=>h.1 j (i j z),h.2⟩
def Kept.of(h:i.σ=c.σ):Kept ns c i:=⟨λj z=>by rw[h],by rw[h]⟩
abbrev gq(C:Ct)(h:Cf)(ns:Nat->Bool)(D:Ends)(f:Fl)(st':aq):Prop:=∀c,c.st=st'->Ok C c->Ns h c->Kept ns h c->Fin C D f c
abbrev Bj(C:Ct)(ns:Nat->Bool)(m:M Fl):TS:=λD σ H=>∃c:Cf,c.σ=σ/\c.H=H/\Ok C c/\W m c.st (gq C c ns D)
def nK(ok:Ok C c)(n:Ns i c)(k:Kept ns i c)(h:W mm c.st (gq C i ns D)):Bj C ns mm D c.σ c.H :=
 ⟨c,rfl,rfl,ok,h.mono λf st j l e q r s=>j l e q (n.trans r) (k.trans s)⟩
def PS.weak(h:L2.PS X st t)(i:∀D σ H,t' D σ H->t D σ H):L2.PS X st t':=λc s σ H D I q=>h c s σ H D I (i D σ H q)
def Bk.weak(h:Bk X rest t)(i:∀D σ H,t' D σ H->t D σ H):Bk X rest t':=λc s σ H D I q=>h c s σ H D I (i D σ H q)
def kM(i:∀j,G3 j=b5->ns j=b5)(h:Bj C G3 mm D σ H):Bj C ns mm D σ H :=
 let ⟨c,k,l,ok,w⟩:=h;⟨c,k,l,ok,w.mono λf st n q e r s t=>n q e r s (t.le i)⟩
def zk:Bk X [] (Bj C ns (pure .nx)):=by
 show Bk.weak ub ?_;rintro D σ H ⟨c,rfl,rfl,ok,h⟩;rw[af]at h;show h c rfl ok (Ns.refl c) Kept.refl
abbrev vt(m:M Fl)(f:Fl):M Fl:=match f with
 |.nx=>m
 |f=>pure f
def xX(n:L2.PS X st (Bj C ns f))(q:Bk X rest (Bj C ns g)):Bk X (st::rest) (Bj C ns (f >>= vt g)):=by
 show Bk.weak (ra n q) ?_;rintro D σ H ⟨r,rfl,rfl,ok,h⟩;rw[ab]at h;show⟨r,rfl,rfl,ok,h.mono λs st1 w l e c i j=>?_⟩;subst e;cases s with
 |nx=>show nK c i j w
 |bk=>rw[show vt g .bk=pure .bk from rfl,af]at w;show w l rfl c i j
 |ct=>rw[show vt g .ct=pure .ct from rfl,af]at w;show w l rfl c i j
 |rt k u=>rw[show vt g (.rt k u)=pure (.rt k u) from rfl,af]at w;show w l rfl c i j
def zl:L2.PS X (.Break pos) (Bj C ns (pure .bk)):=by
 show PS.weak rb ?_;rintro D σ H ⟨c,rfl,rfl,ok,h⟩;rw[af]at h;show h c rfl ok (Ns.refl c) Kept.refl
def zm:L2.PS X (.Continue pos) (Bj C ns (pure .ct)):=by
 show PS.weak lz ?_;rintro D σ H ⟨c,rfl,rfl,ok,h⟩;rw[af]at h;show h c rfl ok (Ns.refl c) Kept.refl
def zo:L2.PS X (.Pass pos) (Bj C ns (pure .nx)):=by
 show PS.weak uc ?_;rintro D σ H ⟨c,rfl,rfl,ok,h⟩;rw[af]at h;show h c rfl ok (Ns.refl c) Kept.refl
def zp(i:PE X a (AR C ma))(hs:Kx a b6 pos.line X.env=pure cb):L2.PS X (.Expr a pos) (Bj C ns (ma >>= λ_=>pure .nx)):=by
 show PS.weak (jU i hs) ?_;rintro D σ H ⟨j,rfl,rfl,ok,h⟩;show aI ok h λx c v t w=>?_;rw[af]at w;have:=w c rfl t.ok t.nx (Kept.of t.hσ);rw[<-t.hσ];show this
def xY:L2.PS X (.Return b6 pos) (Bj C ns (pure (.rt .loc .AM))):=by
 show PS.weak ud ?_;rintro D σ H ⟨c,rfl,rfl,ok,h⟩;rw[af]at h;show h c rfl ok (Ns.refl c) Kept.refl .AM rfl
def sH(ok:Ok C L)(t:Fc C L c x v)(w:W (retS x) c.st (gq C L ns D)):D.rt v c.H:=by
 have⟨k,u⟩:=x;have⟨G,l,n,r⟩:=t;cases k with
 |own =>
  rw[show retS (.own,u)=pure (.rt .own u) from rfl,af]at w;have⟨B,e,h1,h2,h3,h4⟩:=r;show w c rfl l n (Kept.of G) v ⟨B,e,(ok.nB h1).1,h2,h3,h4⟩
 |loc =>
  rw[show retS (.loc,u)=pure (.rt .loc u) from rfl,af]at w;show w c rfl l n (Kept.of G) v r
 |any =>
  rw[show retS (.any,u)=if A9 u=b5 then pure (.rt .loc u) else pure (.rt .any u) from rfl]at w;split at w
  .rw[af]at w;show w c rfl l n (Kept.of G) v (Rep.A9 (by assumption) r)
  .rw[af]at w;show w c rfl l n (Kept.of G) v r
 |bor j =>
  have⟨fl,st',e,w⟩:=w;rw[show retS (.bor j,u) c.st=match c.st[j]? with|some (a5 (.own,u))=>a5 (Ex.ok (Fl.rt .own u),c.st.set j b6)|_=>b6 from rfl]at e;split at e
  .rename_i u' J;cases e;have Cz:j<c.st.length:=(l2.mp J).1;have A:∀(i:Nat) k u',(c.st.set j b6)[i]?=a5 (a5 (k,u'))->i≠j/\c.st[i]?=a5 (a5 (k,u')):=λi k u' e=>by
    by_cases N:i=j
    .subst N;rw[my Cz]at e;cases e
    .rw[pa (Eu N)]at e;show⟨N,e⟩
   have⟨v',s,B,er,q1,q2,q3,q4⟩:=l.sl j _ _ J;have O:c.σ[j]?=a5 (a5 v):=r.2;rw[O]at s;cases s;subst er;have T:∀a,({c with st:=c.st.set j b6}:Cf).R1 a->c.R1 a:=λa ⟨i,k,h,hk,s,y⟩=>⟨i,k,h,hk,(A i k h s).2,y⟩
   have hR:∀a,({c with st:=c.st.set j b6}:Cf).R a->c.R a:=λa z=>z.elim (λz=>.inl (T a z)) λ⟨i,h,Q,s,y,I⟩=>.inr ⟨i,h,Q,(A i .AK h s).2,y,I⟩;have DB:CF C {c with st:=c.st.set j b6}:=l.dd.of rfl (λi h e=>⟨(A i .AK h e).2,rfl⟩) (λa z=>.inl (T a z)) (.up λ_ z=>z) λi a z=>⟨(l.root (.inr ⟨i,z⟩)).1,λo q=>q⟩
   have L5:Ok C {c with st:=c.st.set j b6}:=⟨l.same,l.Cv,l.par,l.io,by simp[l.len],λi k h e=>l.sl i k h (A i k h e).2,λi Y k k' u1 h r hk BA s y I e4=>l.inj i Y k k' u1 h r hk BA (A i k u1 s).2 (A Y k' h y).2 I e4,DB⟩
   have nn:Ns L {c with st:=c.st.set j b6}:=⟨n.keep,n.there,λa z=>n.roots a (hR a z),n.sub,n.new⟩
   show w {c with st:=c.st.set j b6} rfl L5 nn (Kept.of G) (.ref B) ⟨B,rfl,q3,q1,λz=>?_,q4⟩
   .rcases z with⟨i,k,h,hk,s,y⟩|⟨i,h,Q,s,y,I⟩
    .have⟨ne,DE⟩:=A i k h s;show ne (l.inj i j k .own h _ B hk rfl DE J y O)
    .show l.dd.d1 i B ⟨h,Q,(A i .AK h s).2,y,I⟩ ⟨j,.own,_,rfl,J,O⟩
  .cases e
 |_=>show r.elim
def zq(i:PE X a (AR C ma)):L2.PS X (.Return (a5 a) pos) (Bj C ns (ma >>= retS)):=by
 show PS.weak (wO i) ?_;rintro D σ H ⟨j,rfl,rfl,ok,h⟩;show aI ok h λx c v t w=>sH ok t w
end
section
def mi(f:∀j,ns j=b5->j≠i)(g:Ok C a)(t:Fc C a c r v)(h:i<c.σ.length)(w:W (di i r >>= λ_=>(pure .nx:M Fl)) c.st (gq C a ns D)):D.nx (a.σ.set i (a5 v)) c.H:=by
 rw[ab]at w;have⟨b,d,k,l,m,q⟩:=pC (r:=r) g t.ok t.nx h t.rx w;rw[af]at q;have z:=q b rfl l m ⟨λj n=>by rw[d,t.hσ,pa (Eu (f j n))],by rw[d,t.hσ];simp⟩;have e:D.nx b.σ b.H:=z;rw[d,k,t.hσ]at e;show e
def v8(g:∀j,ns j=b5->j≠i)(k:X.N.Nodup)(f:X.N[i]?=a5 x)(l:Loc X.env.scope x)(m:X.fn x=b5\/X.env.scope.names.lookup x=a5 .local)(n:PE X a (AR C o))
  (hs:Kx a (a5 (.Name x b)) pos.line X.env=pure cb):L2.PS X (.Assign [.Name x b] a pos) (Bj C ns (o >>= λr=>di i r >>= λ_=>pure .nx)):=by
 rintro d s σ H D I ⟨e,rfl,rfl,ok,h⟩;have p:i<e.σ.length:=by rw[I.len];show(l2.mp f).1
 show wV k f l n hs m d s e.σ e.H D I (aI ok h λr c v t w=>mi g ok t (by rw[t.hσ];show p) w)
def xZ(l:∀j,ns j=b5->j≠i)(S:bJ X N own scope)(m:X.calm=b5)(o:X.N.Nodup)(g:X.N[i]?=a5 y)(p:X.env.scope.names.lookup y=a5 .local)
  (q:PI X e a (Dk C u ms)) (z:∀D s H ex,PG (Bi X N scope D s H ex) e (tG C t (hQ own.length))) (A:∀D s H ex,Dq (Bi X N scope D s H ex) b (Bu C B)) (G:∀D s H ex,PE (Bi X N scope D s H ex) elt (AR C J))
  (L:Kx (.ListComp elt [⟨e,a,b,0⟩] scope pos) (a5 (.Name y O)) Q.line X.env=pure b5) (hs:∀x,FW a X.env x=pure x) :
  L2.PS X (.Assign [.Name y O] (.ListComp elt [⟨e,a,b,0⟩] scope pos) Q)
   (Bj C ns ((ms >>= λrs=>ao rs >>= λ_=>M.AZ (BP u rs) >>= λxs=>aZ own.length t B J rs xs [] >>= λus=>pure (.own,.lst us)) >>= λr=>di i r >>= λ_=>pure .nx)):=by
 rintro d s σ H D I ⟨f,rfl,rfl,ok,h⟩;have T:i<f.σ.length:=by rw[I.len];show(l2.mp g).1
 show uE S m o g p q z A G L hs d s f.σ f.H D I ?_;rw[ab]at h;show jE ok (h.mono λr st1 w c v k Y A0 n rt=>?_);subst Y;show mi l ok ⟨k,A0,n,rt⟩ (by rw[k];show T) w
def x4(f:∀j,ns j=b5->j∉is)(g:PE X a (AR C i))(k:PG X b (tG C b5 is))(hs:Lx [b] a pos.line X.env=pure cb)(l:OB [b] a X.env=pure b6)(m:(Iz [b] X.env).map (·.2)=[LK b X.env]):
  L2.PS X (.Assign [b] a pos) (Bj C ns (i >>= λr=>dk b5 is r >>= λ_=>pure .nx)):=by
 show PS.weak (rg g k hs l m) ?_;rintro D σ H ⟨n,rfl,rfl,ok,h⟩;show aI ok h λr c v t w=>?_;rw[ab]at w;show⟨n,c,r,t.hσ,rfl,ok,t.ok,t.nx,t.rx,w.mono λ_ st1 d o e p q s hl=>?_⟩;subst e;rw[af]at d;show d o rfl p q ⟨λj u=>by rw[s j (f j u),t.hσ],by rw[hl,t.hσ]⟩
def zr(i:PT X a (Bu C j))(k:Bk X l (Bj C ns f))(m:Bk X o (Bj C ns g)):L2.PS X (.If a l o pos) (Bj C ns (j >>= λp=>if p=b5 then f else g)):=by
 show PS.weak (yF i k m) ?_;rintro D σ H ⟨q,rfl,rfl,ok,h⟩;show dA ok h λp c b d n w=>?_;have e:q.σ=c.σ:=b.symm;rw[e];cases p with
 |true=>rw[Q8 rfl]at w ⊢;show nK d n (Kept.of b) w
 |false=>rw[Q9 mA]at w ⊢;show nK d n (Kept.of b) w
def zt(N:NZ (ko X.prog X.w) X.A X.env X.xe)(O:PT X a (Bu C g))(Q:Bk X body (Bj C ns f)):L2.PS X (.While a body [] pos) (Bj C ns (kF g f n)):=by
 show PS.weak (rh N O Q) ?_;rintro D σ H ⟨d,rfl,rfl,ok,h⟩;show⟨λm t H'=>∃c,c.H=H'/\c.σ=t/\Ok C c/\Ns d c/\Kept ns d c/\W (kF g f m) c.st (gq C d ns D),⟨n,d,rfl,rfl,ok,Ns.refl d,Kept.refl,h⟩,?_⟩;rintro m t H' ⟨c,rfl,rfl,T,v,x,w⟩;cases m with
 |zero=>show(aF.mp w).elim
 |succ m =>
  rw[show kF g f (m+1)=g >>= λb=>if b=b5 then(f >>= λf'=>match f' with|.nx=>kF g f m|.ct=>kF g f m|.bk=>pure .nx|.rt k u=>pure (.rt k u)) else pure .nx from rfl]at w;show dA T w λp l y B G i=>?_;have I:Kept ns c l:=Kept.of y;rw[<-y];cases p with
  |false =>
   rw[Q9 mA]at i ⊢;rw[af]at i;show i l rfl B (v.trans G) (x.trans I)
  |true =>
   rw[Q8 rfl]at i ⊢;show⟨λJ L=>∃c,c.H=L/\c.σ=J/\Ok C c/\Ns d c/\Kept ns d c/\W (kF g f m) c.st (gq C d ns D),λJ L z=>⟨m,Ji m,z⟩,?_⟩;rw[ab]at i;show⟨l,rfl,rfl,B,i.mono λY st3 j o e q n3 k3=>?_⟩;subst e;have r:=(v.trans G).trans n3;have s:=(x.trans I).trans k3;cases Y with
   |nx=>show⟨o,rfl,rfl,q,r,s,j⟩
   |ct=>show⟨o,rfl,rfl,q,r,s,j⟩
   |_=>rw[af]at j;show j o rfl q r s
def zu(hp:NZ (ko X.prog X.w) X.A X.env X.xe)(hc:X.calm=b5)(hi:PI X tg a (Dk C ik ms))(hg:PG X tg (tG C t is))(hb:Bk X body (Bj C (B3 s) f))(hs:∀x,FW a X.env x=pure x)
  (BM:∀j,ns j=b5->j∉is/\B3 s j=b5) :
  L2.PS X (.For tg a body [] pos) (Bj C ns (ms >>= λrs=>ao rs >>= λ_=>M.AZ (BP ik rs) >>= λxs=>if o_ rs is s=b5 then forM t is f rs xs else M.fail)):=by
 show PS.weak (wY hp hc hi hg hb hs) ?_;rintro D σ H ⟨d,rfl,rfl,ok,h⟩;rw[ab]at h;show⟨d,rfl,rfl,ok,?_⟩;rw[ab];show h.mono λrs st1 v=>?_;rw[ab,bB]at v ⊢;show⟨v.1,?_⟩;have h2:=v.2;rw[ab]at h2 ⊢;show h2.mono λxs st2 y=>?_;rw[af];intro b J e1 e2 AU n1 AN B;subst e2
 dsimp only at AN B
 split at y
 .rename_i IU;have IV:∀j u,(Kd.bor j,u)∈rs->j∉is/\B3 s j=b5:=λj u o=>by
   have:=va.mp IU _ o;simpa using this
  show⟨λi m l H'=>∃c,c.H=H'/\c.σ=l/\Ok C c/\Ns b c/\Kept ns d c/\jD rs b c/\m=xs.length - i/\i<=xs.length/\W (forM t is f rs (xs.drop i)) c.st (gq C d ns D),
   ⟨xs.length,b,rfl,e1,AU,Ns.refl b,Kept.of e1,λ_ _ _=>rfl,by simp,pb _,by simpa using y⟩,?_⟩
  rintro i m l H' ⟨c,rfl,rfl,G,p,kc,I,rfl,BH,w⟩;by_cases L:i<xs.length
  .right
   rw[Kr L,show forM t is f rs (xs[i]::xs.drop (i+1))=ao rs >>= λ_=>dk t is xs[i] >>= λ_=>f >>= λf'=>match f' with|.nx=>forM t is f rs (xs.drop (i+1))|.ct=>forM t is f rs (xs.drop (i+1))|.bk=>pure .nx|.rt k u=>pure (.rt k u) from rfl,ab,bB]at w;have⟨C6,w⟩:=w;obtain⟨N,_⟩:=B c G p I C6;have⟨Gf,IL,G2⟩:=N i xs[i] (by simp[L]);show⟨IL,λl H'=>∃c,c.H=H'/\c.σ=l/\Ok C c/\Ns b c/\Kept ns d c/\jD rs b c/\W (forM t is f rs (xs.drop (i+1))) c.st (gq C d ns D),λl H' ⟨c',z1,z2,z3,z4,z5,z6,z7⟩=>⟨xs.length - (i+1),⋯,c',z1,z2,z3,z4,z5,z6,rfl,L,z7⟩,λx H' hy=>?_⟩;have⟨n,rfl,q,e5,Bg,n2,rt⟩:=G2 x H' hy;rw[ab]at w;have L6:ay C n n xs[i].1 xs[i].2 x:=by
    rcases Gf with z|z
    .rw[z]at rt ⊢;show rt
    .rw[z]at rt ⊢;show rt
   show⟨n,n,xs[i],q,rfl,Bg,Bg,Nx.refl n,L6,?_⟩;rw[e5];show w.mono λ_ st3 w3 c3 e6 C5 n3 J3 Fh=>?_;subst e6;rw[ab]at w3;show⟨c3,rfl,rfl,C5,w3.mono λfl EY r g e O n4 Q=>?_⟩;subst e;have T:Ns b g:=((p.trans n2.toNs).trans n3.toNs).trans n4;have Y:Kept ns d g:=by
    show kc.trans ⟨λj hj=>?_,by rw[Q.2,Fh,q]⟩;have⟨j1,j2⟩:=BM j hj;rw[Q.1 j j2,J3 j j1,q]
   have J4:jD rs b g:=λj u o=>by
    have⟨j1,j2⟩:=IV j u o;rw[Q.1 j j2,J3 j j1,q];show I j u o
   cases fl with
   |nx=>show⟨g,rfl,rfl,O,T,Y,J4,r⟩
   |ct=>show⟨g,rfl,rfl,O,T,Y,J4,r⟩
   |_=>rw[af]at r;show r g rfl O (n1.toNs.trans T) Y
  .left
   have L7:i=xs.length:=by lia
   subst L7;rw[Pp,show forM t is f rs []=ao rs >>= λ_=>pure .nx from rfl,ab,bB,af]at w;obtain⟨_,N⟩:=B c G p I w.1;show⟨N _ (ke _),w.2 c rfl G (n1.toNs.trans p) kc⟩
 .show(aF.mp y).elim
end
section
def Ok.mod(ok:Ok C c)(n:Ns c0 c)(hk:k.root=b5)(y:c.st[i]?=a5 (a5 (k,u)))(D:c.σ[i]?=a5 (a5 (.ref r)))(Bn:∀a,a≠r->H' a=c.H a)(hr:∃o,H' r=a5 o)
  (new:Mv c.S c.H c.S H'->cf C c.S H' r u'):Ok C {c with H:=H',st:=c.st.set i (a5 (k,u'))}/\Ns c0 {c with H:=H',st:=c.st.set i (a5 (k,u'))}:=by
 have DC:c.R1 r:=⟨i,k,u,hk,y,D⟩
 have hR:c.R r:=.inl DC;have⟨I,q2,q3,o,ho,L8⟩:=ok.root hR;have J:i<c.st.length:=(l2.mp y).1;have m:∀{a:hA} {b:HO},a≠r->c.H a=a5 b->H' a=a5 b:=λL e=>by rw[Bn _ L];show e
 have G:Mv c.S c.H c.S H':=⟨λ_ z=>z,λa b e t=>m (λz=>by subst z;rw[ho]at e;cases e;show L8 t) e,λa b z e=>m (λd=>I (d▸z)) e⟩
 have E9:Mv (PS C c.S) c.H (PS C c.S) H':=⟨λ_ z=>z,G.GQ,λa b z e=>m (λd=>by subst d;show z.elim q2 I) e⟩
 have N:∀(j:Nat) k' w,(c.st.set i (a5 (k,u')))[j]?=a5 (a5 (k',w))->j≠i->c.st[j]?=a5 (a5 (k',w)):=λj k' w e L=>by rw[pa (Eu L)]at e;show e
 have f:∀(j:Nat) k' w,k'.root=b5->(c.st.set i (a5 (k,u')))[j]?=a5 (a5 (k',w))->∃O,c.st[j]?=a5 (a5 (k',O)):=λj k' w _ e=>by
  by_cases p:j=i
  .subst p;rw[my J]at e;cases e;show⟨u,y⟩
  .show⟨w,N j k' w e p⟩
 have b1:∀a,({c with H:=H',st:=c.st.set i (a5 (k,u'))}:Cf).R1 a->c.R1 a:=λa Bm=>by
  have⟨j,k',w,g,h,l⟩:=Bm;have⟨O,Q⟩:=f j k' w g h;show⟨j,k',O,g,Q,l⟩
 have dD:∀(j:Nat) (w:U),(c.st.set i (a5 (k,u')))[j]?=a5 (a5 (.AK,w))->c.st[j]?=a5 (a5 (.AK,w)):=λj w e=>by
  by_cases p:j=i
  .subst p;rw[my J]at e;cases e;cases hk
  .show N j .AK w e p
 have DB:CF C {c with H:=H',st:=c.st.set i (a5 (k,u'))}:=ok.dd.of rfl (λj w e=>⟨dD j w e,rfl⟩) (λa z=>.inl (b1 a z)) G λj a z=>⟨(ok.root (.inr ⟨j,z⟩)).1,λb e=>m (λd=>ok.dd.d1 j a z (d▸DC)) e⟩
 show⟨⟨λa b e z=>?_,λa z=>?_,ok.par,λa z=>?_,by simp[ok.len],λj k' w e=>?_,λj1 j2 k1 k2 w1 w2 q g s h l T e4=>?_,DB⟩,n.trans ⟨λa b e z=>m (λd=>z (d▸hR)) e,λa b e=>?_,λa z=>?_,λ_ z=>z,λ_ z=>.inl z⟩⟩
 .have g:=ok.same a b e z;show m (λd=>?_) g;subst d;rcases q3 with q3|q3
  .rw[e]at q3;cases q3
  .show z q3
 .have⟨g,b,s⟩:=ok.Cv a z;show⟨g,b,m (λd=>I (d▸z)) s⟩
 .have⟨g,b,s⟩:=ok.io a z;show⟨g,?_⟩;by_cases A:a=r
  .subst A;show hr
  .show⟨b,m A s⟩
 .by_cases p:j=i
  .subst p;rw[my J]at e;cases e;have⟨v,h,l⟩:=ok.sl j _ _ y;rw[D]at h;cases h;show⟨.ref r,D,?_⟩;have nr:=new G;cases k with
   |own=>obtain⟨q,x,B,Y,z3,_⟩:=l;cases x;show⟨r,rfl,B,Y,z3,nr⟩
   |io=>obtain⟨q,x,B,Y,z3,_⟩:=l;cases x;show⟨r,rfl,B,Y,z3,nr⟩
   |_=>cases hk
  .have e0:=N j k' w e p;have⟨v,h,l⟩:=ok.sl j k' w e0;show⟨v,h,l.mv G E9 λBA q x=>?_⟩;obtain⟨JX,Cp,B,_⟩:=l.rt BA;rw[x]at Cp;cases Cp;show⟨B,λb e=>m (λz=>?_) e⟩;subst z;show p (ok.inj j i k' k w u q BA hk e0 y (by rw[h,x]) D)
 .have⟨G4,Q⟩:=f j1 k1 w1 g h;have⟨J5,a2⟩:=f j2 k2 w2 s l;show ok.inj j1 j2 k1 k2 G4 J5 q g s Q a2 T e4
 .by_cases A:a=r
  .subst A;show hr
  .show⟨b,m A e⟩
 .rcases z with z|⟨j,w,q,h,l,T⟩
  .show .inl (.inl (b1 a z))
  .show .inl (.inr ⟨j,w,q,dD j w h,l,T⟩)
def fR{f:U->Option U}{st:aq}(h:W (modS i f) st Q):∃k u u',k.root=b5/\st[i]?=a5 (a5 (k,u))/\f u=a5 u'/\Q () (st.set i (a5 (k,u'))):=by
 obtain⟨_,st',e,q⟩:=h;unfold modS at e;split at e
 .rename_i k u hs;split at e
  .rename_i hk;cases a:f u with
   |none=>rw[a]at e;cases e
   |some u'=>rw[a]at e;cases e;show⟨k,u,u',hk,hs,a,q⟩
  .cases e
 .cases e
def fS{st:aq}(h:W (eJ i) st Q):∃k u,k≠.AK/\st[i]?=a5 (a5 (k,u))/\Q (if k.root=b5 then .bor i else k,u) st:=by
 have⟨r,st',e,q⟩:=h;unfold eJ at e;split at e
 .cases e
 .rename_i k u a hs;cases e;show⟨k,u,λz=>a z,hs,q⟩
 .cases e
def zv(Y:C.K=X.K)(hN:X.N[i]?=a5 x)(hv:Eb X.env.scope x)(hd:(x==("__debug__":Str))=cb)(B6:(x==("__classdict__":Str))=cb)(ha:PE X a (AR C ma))
  (BL:((Fq g (mu [a] X.env)).all (λx=>!x.1)&&(M9 g (J1 [] X.env)).all (λx=>x.1.isSome)
   && et ([a].length+([]:List Iu).length+(if ([]:List Iu).isEmpty then 0 else 1)<30))=b5)
  (Bv:(d.endLine==g.line)=b5) (o:mu [a] X.env=[(cb,Ew a X.env)]) :
  L2.PS X (.Expr (.Call (.Attribute (.Name x px) "append" d) [a] [] g) pos) (Bj C ns (eJ i >>= λx=>Fb x.2 >>= λ_=>ma >>= λr=>lift r >>= λu=>modS i (sj u) >>= λ_=>pure .nx)):=by
 show PS.weak (jU (vU PySem.F.plainAttrs_list PySem.F.slot_list_append PySem.F.type_list_append qi (jT hN hv hd B6) (eT ha jY o) rfl BL Bv o rfl)) ?_;rintro D σ H ⟨p,rfl,rfl,ok,h⟩;rw[ab]at h;have⟨b,s,DF,y,h⟩:=fS h;have⟨A,l,m⟩:=ok.sl i b s y;show⟨A,l,?_⟩;cases s with
 |lst B =>
  rw[ab,show Fb (U.lst B)=pure () from rfl,af]at h;have IY:ay C p p (if b.root=b5 then .bor i else b) (.lst B) A:=by
   by_cases hk:b.root=b5
   .rw[Q8 hk];show⟨⟨b,hk,y⟩,l⟩
   .rw[Q9 hk];cases b with
    |loc=>show m
    |any=>show m
    |bor j=>show m.elim
    |AK=>show(DF rfl).elim
    |_=>show absurd rfl hk
  obtain⟨a0,G0,n,EX,_⟩:=IY.list ok;show⟨by rw[n];show .inl ⟨rfl,G0,Y▸EX⟩,?_⟩;show aI ok h λr c v t w=>?_;rw[ab]at w;obtain⟨S',st',u,sS,G,n1,e,I,_,_⟩:=kH ok t.ok t.nx t.rx.w w;rw[ab]at I;have⟨k,u1,u2,hk,hs,f,q⟩:=fR I;have J:c.σ[i]?=a5 (a5 (.ref a0)):=by rw[t.hσ,l,n]
  cases u1 with
  |lst L =>
   simp only[sj]at f;split at f
   .rename_i hz;cases f;have⟨v',e1,e2⟩:=G.sl i k (.lst L) hs;have O:c.σ[i]?=a5 (a5 v'):=e1;rw[J]at O;cases O;obtain⟨r',er,_,_,_,ws,hw,Q⟩:=e2.rt hk;cases er;have EK:c.H a0=a5 (.lst ws):=hw;show⟨a0,ws,v,n,rfl,EK,by rw[<-Q.len];show hz,?_⟩;rw[af]at q;have⟨Bg,n2⟩:=Ok.mod (c:={c with S:=S',st:=st' }) (H':=upd c.H a0 (.lst (ws++[v]))) (u':=.lst (L++[u])) G n1.toNs hk hs J (λa ne=>az ne) ⟨_,aC⟩ λT=>⟨ws++[v],aC,(Q.mv T).snoc (e.mv T)⟩
    have z:=q _ rfl Bg n2 (Kept.of t.hσ);rw[<-t.hσ];show z
   .cases f
  |_=>cases f
 |_=>rw[ab]at h;show(aF.mp h).elim
def zw(G:C.K=X.K)(hN:X.N[i]?=a5 x)(hv:Eb X.env.scope x)(hd:(x==("__debug__":Str))=cb)(B6:(x==("__classdict__":Str))=cb)(ha:PE X a (AR C ma))
  (BL:((Fq n (mu [a] X.env)).all (λx=>!x.1)&&(M9 n (J1 [] X.env)).all (λx=>x.1.isSome)
   && et ([a].length+([]:List Iu).length+(if ([]:List Iu).isEmpty then 0 else 1)<30))=b5)
  (Bv:(m.endLine==n.line)=b5) (I:mu [a] X.env=[(cb,Ew a X.env)]) :
  L2.PS X (.Expr (.Call (.Attribute (.Name x px) "extend" m) [a] [] n) pos) (Bj C ns (eJ i >>= λx=>Fb x.2 >>= λ_=>ma >>= λr=>modS i (nG r) >>= λ_=>pure .nx)):=by
 show PS.weak (jU (vU PySem.F.plainAttrs_list PySem.F.slot_list_extend PySem.F.type_list_extend nq (jT hN hv hd B6) (eT ha jY I) rfl BL Bv I rfl)) ?_;rintro D σ H ⟨J,rfl,rfl,ok,h⟩;rw[ab]at h;have⟨l,L,DF,O,h⟩:=fS h;have⟨Q,o,p⟩:=ok.sl i l L O;show⟨Q,o,?_⟩;cases L with
 |lst T =>
  rw[ab,show Fb (U.lst T)=pure () from rfl,af]at h;have IY:ay C J J (if l.root=b5 then .bor i else l) (.lst T) Q:=by
   by_cases hk:l.root=b5
   .rw[Q8 hk];show⟨⟨l,hk,O⟩,o⟩
   .rw[Q9 hk];cases l with
    |loc=>show p
    |any=>show p
    |bor j=>show p.elim
    |AK=>show(DF rfl).elim
    |_=>show absurd rfl hk
  obtain⟨a0,G0,s,EX,_⟩:=IY.list ok;show⟨by rw[s];show .inl ⟨rfl,G0,G▸EX⟩,?_⟩;show aI ok h λr c v t w=>?_;rw[ab]at w;have⟨k,u,u2,hk,hs,d,q⟩:=fR w;have Y:c.σ[i]?=a5 (a5 (.ref a0)):=by rw[t.hσ,o,s]
  have⟨rk,ru⟩:=r;have y:∃f g b e,u=.lst f/\v=.ref b/\(A_ C.K c.H b e\/Bb C.K c.H b e)/\ag C c.S c.H g e/\f.length+g.length<=df/\u2=.lst (f++g):=by
   cases ru with
   |lst g =>
    cases u with
    |lst f =>
     simp only[nG]at d;split at d
     .rename_i hz;cases d;have⟨b,e,ev,A,B⟩:=t.rx.list t.ok;show⟨_,_,b,e,rfl,ev,.inl A,b_ hz.2 B,hz.1,rfl⟩
     .cases d
    |_=>simp[nG]at d
   |tup g =>
    cases u with
    |lst f =>
     simp only[nG]at d;split at d
     .rename_i hz;cases d;have⟨b,e,ev,A,B⟩:=t.rx.tuple t.ok;show⟨_,_,b,e,rfl,ev,.inr A,b_ hz.2 B,hz.1,rfl⟩
     .cases d
    |_=>simp[nG]at d
   |_=>simp[nG]at d
  have⟨f,g,b,e,rfl,rfl,hB,hz,hl,rfl⟩:=y;have⟨v',e1,e2⟩:=t.ok.sl i k (.lst f) hs;rw[Y]at e1;cases e1;obtain⟨r',er,_,_,_,ws,hw,B4⟩:=e2.rt hk;cases er;show⟨a0,b,ws,e,s,rfl,hw,G▸hB,by rw[<-B4.len,<-hz.len];show hl,?_⟩;rw[af]at q;have⟨Bg,n2⟩:=Ok.mod (c:=c) (H':=upd c.H a0 (.lst (ws++e))) (u':=.lst (f++g)) t.ok t.nx.toNs hk hs Y (λa ne=>az ne) ⟨_,aC⟩ λmv=>⟨ws++e,aC,(B4.mv mv).append (hz.mv mv)⟩
  have z:=q _ rfl Bg n2 (Kept.of t.hσ);rw[<-t.hσ];show z
 |_=>rw[ab]at h;show(aF.mp h).elim
def jc.or(h:jc X t)(h':jc X t'):jc X (λo i v H Q=>t o i v H Q\/t' o i v H Q):=λa s σ H o i v b c u Q I d e f q =>
 q.elim (h a s σ H o i v b c u Q I d e f) (h' a s σ H o i v b c u Q I d e f)
def set_dict(c:X.A.units+1<y0):jc X (λo i v H Q=>∃a H',o=.ref a/\rA H a i v H'/\Q H'):=by
 rintro b s σ H o i v j k u Q I d e f ⟨a,H',rfl,g,q⟩;cases d;show qo c I g e f λs' h=>⟨H',h,q⟩
def sI{S:hA->Prop}{c:List (Key×V)}(a:c.map (·.1)=b.map DM)(e:ag C S H us (c.map (·.2)))(f:Rep C S H u v):
  (putK c (DM y) v).map (·.1)=(dput b us y u).1.map DM/\ag C S H (dput b us y u).2 ((putK c (DM y) v).map (·.2)):=by
 have g:(c.any λkv=>et (kv.1=(DM y:Key)))=et (y∈b):=by
  rw[gW];show(fQ (x:=y) a e).2
 unfold putK dput;rw[g];by_cases d:y∈b
 .rw[Q8 (by simpa using d),Q8 d];constructor
  .rw[nt];rw[<-a];apply JH;intro p _;change(if p.1=DM y then(p.1,v) else p).1=p.1;split<;>rfl
  .clear g d;induction c generalizing b us with
   |nil =>
    have:b=[]:=by simpa using a.symm
    subst this;simp[ag]
   |cons p c i =>
    cases b with
    |nil=>simp at a
    |cons k b =>
     cases us with
     |nil=>simp[ag]at e
     |cons m us =>
      rw[kT,kT,Na]at a;have⟨n,o,h,j,l⟩:=e;rw[kT]at h;cases h;rw[kT,H8,kT,kT];show⟨_,_,rfl,?_,i a.2 l⟩;by_cases hk:k=y
      .rw[Q8 (by show hk),Q8 (by rw[a.1,hk])];show f
      .rw[Q9 (by show hk),Q9 (by rw[a.1];intro z;show hk (N6 z))];show j
 .rw[Q9 (by simpa using d),Q9 d];show⟨by rw[Ba,a,Ba];rfl,by rw[Ba];show e.snoc f⟩
def zx(hP:C.P=X.prog)(hw:C.w=X.w)(Q:C.K=X.K)(hu:X.A.units+60<y0)(hN:X.N[i]?=a5 x)(hv:Eb X.env.scope x)(hd:(x==("__debug__":Str))=cb)(B6:(x==("__classdict__":Str))=cb)
  (ha:PE X a (AR C ma)) (hb:PE X b (AR C mb)) (hs:Lx [.Subscript (.Name x G) b p] a pos.line X.env=pure cb) (EL:OB [.Subscript (.Name x G) b p] a X.env=pure b6)
  (has:∀v,LK (.Subscript (.Name x G) b p) X.env v=(do
   let I <-IX [v] (Ew (.Name x G) X.env)
   let T <-IX [v,I] (Ew b X.env)
   OW p
   IX [v,I,T] (OY I T v)
   release [v,I,T] [])) :
  L2.PS X (.Assign [.Subscript (.Name x G) b p] a pos) (Bj C ns (ma >>= λr=>eJ i >>= λ_=>mb >>= λx=>bV [r,x] >>= λus=>modS i (oZ us) >>= λ_=>pure .nx)):=by
 show PS.weak (rg ha (wR (jT hN hv hd B6) hb (jc.or (jc.or set_list (set_dict (X:=X) ⋯)) (uI (X:=X) ⋯)) has) hs EL rfl) ?_;rintro D σ H ⟨c0,rfl,rfl,ok,h⟩;show aI ok h λr c v t w=>?_;rw[ab]at w;have⟨k0,u0,DF,CC,w⟩:=fS w;have⟨v0,e0,D8⟩:=t.ok.sl i k0 u0 CC;show⟨v0,by rw[<-t.hσ];show e0,?_⟩;rw[ab]at w;show⟨c,t.hσ,rfl,t.ok,w.mono λy st2 w2 g n J e4 Bg n2 r2=>?_⟩;subst e4;rw[ab]at w2;have L9:=t.nx.trans n2;have Y:b9 C c0 g [r,y] [v,n]:=⟨v,[n],rfl,t.rx.w.on t.ok n2 (J.trans t.hσ.symm),⟨n,[],rfl,(r2.w).from t.nx,rfl,λ_ i r' v' e _=>by simp at e⟩,λhk i r' v' e5 e6 BA=>by
  cases i with
  |zero=>simp at e5 e6;subst e5 e6;show kG t.rx.w r2.w hk BA
  |succ i=>simp at e5⟩
 have⟨S',st',us,sS,AU,n1,l,w1⟩:=fu ok Bg L9 Y w2;rw[ab]at w1;have⟨k,L,u2,hk,DT,d,q⟩:=fR w1;rw[af]at q;have hσ:g.σ[i]?=a5 (a5 v0):=by rw[J,<-t.hσ];show e0
 have⟨v',e1,e2⟩:=AU.sl i k L DT;have DE:g.σ[i]?=a5 (a5 v'):=e1;rw[hσ]at DE;cases DE;have⟨a0,er,z1,z2,z3,f⟩:=e2.rt hk;subst er;have L_:({g with S:=S',st:=st' }:Cf).σ[i]?=a5 (a5 (.ref a0)):=hσ;obtain⟨G4,ws,ew,J6,J5,MG,MH,IZ,Ma⟩:∃u ws,us=[u,ws]/\Rep C S' g.H u v/\∃(_:Unit) (_:Unit),True/\Rep C S' g.H ws n/\True:=by
  cases us with
  |nil=>simp[ag]at l
  |cons u us =>
   obtain⟨_,_,e,q1,q2⟩:=l;cases e;cases us with
   |nil=>simp[ag]at q2
   |cons u' us =>
    obtain⟨_,_,e,q3,q4⟩:=q2;cases e;cases us with
    |nil=>show⟨u,u',rfl,q1,(),(),trivial,q3,trivial⟩
    |cons _ _=>obtain⟨_,_,e,_⟩:=q4;cases e
 subst ew;rw[show oZ [G4,ws] L=ir ws G4 L from rfl]at d;have m:∀{H':Hp} ,(∀a,a≠a0->H' a=g.H a)->(∃o,H' a0=a5 o)->(Mv S' g.H S' H'->cf C S' H' a0 u2)->D.nx c0.σ H':=λ{H'} Bn hr new=>by
  have⟨C5,n3⟩:=Ok.mod (c:={g with S:=S',st:=st' }) (H':=H') (u':=u2) AU n1.toNs hk DT L_ Bn hr new;have z:=q _ rfl C5 n3 (Kept.of J);rw[<-J];show z
 cases L with
 |lst xs =>
  cases ws with
  |int j =>
   simp only[ir,eH]at d;have⟨j',hj,rfl⟩:=d;have⟨vs,h1,s⟩:=f;have ey:n=.int j:=IZ;show .inl (.inl ⟨a0,vs,j,j',rfl,ey,h1,by rw[<-s.len];show hj,?_⟩);show m (λa ne=>az ne) ⟨_,aC⟩ λB=>⟨vs.set j' v,aC,(s.mv B).set j' (J6.mv B)⟩
  |_=>simp[ir]at d
 |Bo O vs =>
  cases ws with
  |str y' =>
   simp only[ir]at d;split at d
   .rename_i hz;cases d;have⟨AF,h1,s,h3⟩:=f;have ey:n=.str y':=IZ;subst ey;have hl:AF.length=O.length:=by have:=Rb Ge s;simpa using this
    show .inl (.inr ⟨a0,_,rfl,rA.k (k:=DM y') h1 (by rw[hl];show hz),?_⟩);show m (λa ne=>az ne) ⟨_,aC⟩ λB=>?_;have⟨g1,g2⟩:=sI (y:=y') s h3 J6;show⟨_,aC,g1,g2.mv B⟩
   .cases d
  |_=>simp[ir]at d
 |Bc O =>
  simp only[ir]at d;split at d
  .rename_i r0 Mb;split at d
   .rename_i hh;cases d;have er:=eM Mb;subst er;have DG:=IZ.row;have D9:da C.P C.w C.K g.H a0 O:=f;rw[Q]at DG;rw[hP,hw,Q]at D9;show .inr ⟨a0,r0,O,rfl,DG,D9,hh.1,hh.2,λH' hR Bn=>?_⟩;obtain⟨xs,hx,_⟩:=id hR;show m Bn ⟨_,hx⟩ λB=>?_;change da C.P C.w C.K H' a0 _;rw[hP,hw,Q];show hR
   .cases d
  .cases d
 |_=>simp[ir]at d
end
structure Ck where
 fns:List Str
 gl:List (Str×U)
abbrev kN:U->U->Bool
 |.int i,.int j=>et (i=j)
 |.str x,.str y=>et (x=y)
 |.bl a,.bl b=>a==b
 |.AM,.AM=>b5
 |_,_=>cb
def cJ(h:kN u v=b5):u=v:=by
 cases u<;>cases v<;>simp[kN]at h<;>subst_vars<;>rfl
abbrev noStar:ri->Bool
 |.Starred _ _=>cb
 |_=>b5
abbrev gL:ri->Bool
 |.Slice _ _ _ _=>cb
 |_=>b5
abbrev nL:ri->Bool
 |.Set _ _ _=>cb
 |_=>b5
abbrev kO:ri->Bool
 |.Call (.Name _ _) [] [] _=>cb
 |_=>b5
abbrev cn:ri->Bool
 |.ListComp _ _ _ _=>cb
 |.SetComp _ _ _ _=>cb
 |.DictComp _ _ _ _ _=>cb
 |_=>b5
abbrev x5:ri->Bool
 |.Tuple _ _ _=>cb
 |_=>b5
abbrev Cd(a:Gn)(x:Str):Bool:=et (a.names.lookup x=a5 .globalImplicit)
abbrev qG(a:Gn)(x:Str):Bool:=et (a.names.lookup x=a5 .local)||decide (a.names.lookup x=a5 .cell)||decide (a.names.lookup x=a5 .free)
abbrev mj(a:Gn)(x:Str):Bool:=et (a.names.lookup x=a5 .local)||decide (a.names.lookup x=a5 .cell)
abbrev zy(a:Gn)(x:Str):Bool:=et (a.names.lookup x=a5 .local)
abbrev c6(x:Str):Bool:=!(x==("__debug__":Str))&&!(x==("__classdict__":Str))
abbrev pE(N:List Str)(a:Gn)(fa:Str->Bool)(i:Nat):ri->Bool
 |.Name x _=>et (N[i]?=a5 x)&&mj a x&&(fa x||zy a x)
 |_=>cb
abbrev kP(N:List Str)(a:Gn)(fa:Str->Bool):List Nat->List ri->Bool
 |[],[]=>b5
 |i::is,e::es=>pE N a fa i e&&kP N a fa is es
 |_,_=>cb
abbrev d6:ri->List Str
 |.Name x _=>[x]
 |.Tuple es _ _=>es.filterMap fun|.Name x _=>a5 x|_=>b6
 |_=>[]
abbrev hide(a N:List Str):List Str:=match a.filter λx=>et (x∈N) with
 |[]=>N
 |[x]=>N.set (N.idxOf x) "."
 |x::y::_=>(N.set (N.idxOf x) ".").set (N.idxOf y) ".."
abbrev Fi(t:Bool)(N:List Str)(a:Gn)(fa:Str->Bool)(is:List Nat):ri->Bool
 |.Name x p=>!t&&(match is with|[i]=>pE N a fa i (.Name x p)|_=>cb)
 |.Tuple es _ _=>t&&kP N a fa is es&&is.all λi=>et (i<N.length)
 |_=>cb
abbrev kQ(e:ri):Option (Str×List ri):=match e with
 |.Call f as a _=>match f with
  |.Name x _=>if a.isEmpty=b5 then a5 (x,as) else b6
  |_=>b6
 |_=>b6
def gu(h:kQ e=a5 (x,as)):∃p q,e=.Call (.Name x p) as [] q:=by
 unfold kQ at h;split at h
 .split at h
  .split at h
   .rename_i hk;rw[F2]at hk;cases h;subst hk;show⟨_,_,rfl⟩
   .cases h
  .cases h
 .cases h
abbrev dC(a:Gn)(c:ri)(b:Ik)(e:ri):Option (List ri):=match b with
 |.seq=>a5 [e]
 |.A2=>(kQ e).bind λp=>if p.1="range"/\Cd a p.1=b5/\p.2.length=1 then a5 p.2 else b6
 |.Du=>(kQ e).bind λp=>if p.1="range"/\Cd a p.1=b5/\p.2.length=2 then a5 p.2 else b6
 |_=>b6
abbrev simple:Bf->Bool:=λ_=>b5
abbrev x6(scope a:Gn):Gn:={scope with names:=scope.names.map λ(n,k)=>if (k==Ea&&a.kind==.function&&a.names.lookup n==a5 .cell)=b5 then(n,.cell) else(n,k)}
abbrev bO(e:ri)(k:Str->Bool):Bool:=match e with|.Name x _=>k x|_=>cb
def au(h:bO e k=b5):∃x p,e=.Name x p/\k x=b5:=by
 unfold bO at h;split at h
 .show⟨_,_,rfl,h⟩
 .cases h
abbrev fz{α:Type}(l:List α)(k:α->Bool):Bool:=match l with|[a]=>k a|_=>cb
def bD(h:fz l k=b5):∃a,l=[a]/\k a=b5:=by
 unfold fz at h;split at h
 .show⟨_,rfl,h⟩
 .cases h
abbrev dE(e:ri)(k:ri->List ri->Pos->Bool):Bool:=match e with|.Call f as a p=>a.isEmpty&&k f as p|_=>cb
def aP(h:dE e k=b5):∃f as p,e=.Call f as [] p/\k f as p=b5:=by
 unfold dE at h;split at h
 .rename_i f as a p;rw[dV,F2]at h;have⟨rfl,h⟩:=h;show⟨_,_,_,rfl,h⟩
 .cases h
abbrev nM(e:ri)(k:ri->Str->Pos->Bool):Bool:=match e with|.Attribute o m p=>k o m p|_=>cb
def mn(h:nM e k=b5):∃o m p,e=.Attribute o m p/\k o m p=b5:=by
 unfold nM at h;split at h
 .show⟨_,_,_,rfl,h⟩
 .cases h
abbrev sJ(e:ri)(k:ri->Operator->ri->Bool):Bool:=match e with|.BinOp a op b _=>k a op b|_=>cb
def nN(h:sJ e k=b5):∃a op b p,e=.BinOp a op b p/\k a op b=b5:=by
 unfold sJ at h;split at h
 .show⟨_,_,_,_,rfl,h⟩
 .cases h
abbrev sL(e:ri)(k:ri->CmpOp->ri->Bool):Bool:=match e with|.Compare a ops bs _=>fz ops λop=>fz bs λb=>k a op b|_=>cb
def iy(h:sL e k=b5):∃a op b p,e=.Compare a [op] [b] p/\k a op b=b5:=by
 unfold sL at h;split at h
 .have⟨op,rfl,c⟩:=bD h;have⟨b,rfl,d⟩:=bD c;show⟨_,_,_,_,rfl,d⟩
 .cases h
abbrev kR(e:ri)(k:ri->Str->Pos->List ri->Pos->Bool):Bool:=dE e λf as b=>nM f λo m a=>k o m a as b
def dF(h:kR e k=b5):∃o m a as b,e=.Call (.Attribute o m a) as [] b/\k o m a as b=b5:=by
 have⟨f,as,p,rfl,h⟩:=aP h;have⟨o,m,q,rfl,h⟩:=mn h;show⟨_,_,_,_,_,rfl,h⟩
abbrev mq(e:ri)(k:ri->ri->Bool):Bool:=match e with|.Subscript a b _=>k a b|_=>cb
def eN(h:mq e k=b5):∃a b p,e=.Subscript a b p/\k a b=b5:=by
 unfold mq at h;split at h
 .show⟨_,_,_,rfl,h⟩
 .cases h
abbrev sM{α:Type}(l:List α)(k:α->α->Bool):Bool:=match l with|[a,b]=>k a b|_=>cb
def iz(h:sM l k=b5):∃a b,l=[a,b]/\k a b=b5:=by
 unfold sM at h;split at h
 .show⟨_,_,rfl,h⟩
 .cases h
abbrev sN(e:ri)(k:Const->Bool):Bool:=match e with|.Constant c _ _=>k c|_=>cb
def nO(h:sN e k=b5):∃c q p,e=.Constant c q p/\k c=b5:=by
 unfold sN at h;split at h
 .show⟨_,_,_,rfl,h⟩
 .cases h
abbrev Ax:Const->Option U
 |.int j=>a5 (.int j)
 |.str y=>a5 (.str y)
 |.bool y=>a5 (.bl y)
 |.none=>a5 .AM
 |_=>b6
abbrev Ay(u:U)(c:Const):Bool:=match Ax c with|some v=>kN u v|none=>cb
abbrev vv(e:ri)(op:BoolOp)(k:List ri->Bool):Bool:=match e with|.BoolOp o es _=>et (o=op)&&k es|_=>cb
def fT(h:vv e op k=b5):∃es p,e=.BoolOp op es p/\k es=b5:=by
 unfold vv at h;split at h
 .rw[dV,Q6]at h;have⟨rfl,h⟩:=h;show⟨_,_,rfl,h⟩
 .cases h
abbrev x8(e:ri)(op:UnaryOp)(k:ri->Bool):Bool:=match e with|.UnaryOp o a _=>et (o=op)&&k a|_=>cb
def jF(h:x8 e op k=b5):∃a p,e=.UnaryOp op a p/\k a=b5:=by
 unfold x8 at h;split at h
 .rw[dV,Q6]at h;have⟨rfl,h⟩:=h;show⟨_,_,rfl,h⟩
 .cases h
abbrev pF(e:ri)(k:List ri->Bool):Bool:=match e with|.Tuple l _ _=>k l|_=>cb
def iA(h:pF e k=b5):∃l q p,e=.Tuple l q p/\k l=b5:=by
 unfold pF at h;split at h
 .show⟨_,_,_,rfl,h⟩
 .cases h
abbrev sO(e:ri)(k:List ri->Bool):Bool:=match e with|.List l _=>k l|_=>cb
def nP(h:sO e k=b5):∃l p,e=.List l p/\k l=b5:=by
 unfold sO at h;split at h
 .show⟨_,_,rfl,h⟩
 .cases h
abbrev x9(e:ri):Bool:=match e with|.Dict a b _=>a.isEmpty&&b.isEmpty|_=>cb
def qH(h:x9 e=b5):∃p,e=.Dict [] [] p:=by
 unfold x9 at h;split at h
 .rw[dV,F2,F2]at h;have⟨rfl,rfl⟩:=h;show⟨_,rfl⟩
 .cases h
abbrev sP(e:ri)(k:Option ri->Option ri->Bool):Bool:=match e with|.Slice a b c _=>c.isNone&&k a b|_=>cb
def nQ(h:sP e k=b5):∃a b p,e=.Slice a b b6 p/\k a b=b5:=by
 unfold sP at h;split at h
 .rw[dV,NO]at h;have⟨rfl,h⟩:=h;show⟨_,_,_,rfl,h⟩
 .cases h
abbrev x_(e:ri)(k:ri->ri->ri->List ri->Gn->Bool):Bool:=match e with|.ListComp elt a b _=>fz a λg=>et (g.is_async=0)&&k elt g.target g.iter g.ifs b|_=>cb
def fU(h:x_ e k=b5):∃elt d a b f p,e=.ListComp elt [⟨d,a,b,0⟩] f p/\k elt d a b f=b5:=by
 unfold x_ at h;split at h
 .obtain⟨⟨d,a,b,z⟩,rfl,c⟩:=bD h;rw[dV,Q6]at c;have⟨rfl,c⟩:=c;show⟨_,_,_,_,_,_,rfl,c⟩
 .cases h
mutual
noncomputable def bH(k:Ck):E->List Str->Gn->ri->Bool
 |.var i,N,d,g=>bO g λx=>et (N[i]?=a5 x)&&qG d x&&c6 x
 |.cst u,N,d,g=>sN g λc=>Ay u c
 |.BW x u,N,d,g=>bO g λy=>et (x=y)&&Cd d x&&c6 x&&k.gl.any λp=>et (p.1=x)&&kN p.2 u
 |.bin op a b,N,d,g=>sJ g λj w q=>et (op.op=w)&&bH k a N d j&&bH k b N d q
 |.cmp op a b,N,d,g=>sL g λj w q=>et (op.op=w)&&!OC w q&&bH k a N d j&&bH k b N d q
 |.C4 _ _ _ _ _,_,_,_=>cb
 |.and es,N,d,g=>vv g .And λh=>aw k es N d h
 |.or es,N,d,g=>vv g .Or λh=>aw k es N d h
 |.not a,N,d,g=>x8 g .Not λj=>bH k a N d j
 |.ite _ _ _,_,_,_=>cb
 |.neg _,_,_,_=>cb
 |.bad,_,_,_=>b5
 |.GV _,_,_,_=>cb
 |.inD _ _ _,_,_,_=>cb
 |.Dx _ _ _,_,_,_=>cb
 |.GU _,_,_,_=>cb
 |.GW _ _ _,_,_,_=>cb
 |.fst es,N,d,g=>cb
 |.D3 a T,N,d,g=>dE g λf' as _=>bO f' λx=>sM as λj q=>bO q λy=>et (x="isinstance")&&et (y=T.name)&&Cd d x&&Cd d y&&noStar j&&bH k a N d j
 |.tup es,N,d,g=>pF g λh=>aw k es N d h
 |.lst es,N,d,g=>sO g λh=>aw k es N d h
 |.Cw _,N,d,g=>x9 g
 |.idx a b,N,d,g=>mq g λj q=>gL q&&bH k a N d j&&bH k b N d q
 |.Dv a lo z,N,d,g=>mq g λj q=>sP q λA B=>bH k a N d j&&nR k lo N d A&&nR k z N d B
 |.bi f es,N,d,g=>dE g λf' h _=>bO f' λx=>et (x=f.name)&&simple f&&Cd d x&&!h.isEmpty&&aw k es N d h
 |.Dw f es,N,d,g=>dE g λf' as _=>bO f' λx=>fz as λc=>dE c λg' h _=>bO g' λy=>et (x=f.kJ)&&et (y=f.fy)&&Cd d x&&Cd d y&&!h.isEmpty&&aw k es N d h
 |.BB m a es,N,d,g=>kR g λo name s h C=>et (name=m.name)&&kO o&&(s.endLine==C.line)&&!h.isEmpty&&et (h.length<20)&&bH k a N d o&&aw k es N d h
 |.call f es,N,d,g=>dE g λf' h _=>bO f' λx=>et (x=f)&&et (f∈k.fns)&&Cd d x&&c6 x&&!h.isEmpty&&aw k es N d h
 |.comp n t D src cond e,N,d,g=>x_ g λelt l r v scope =>
   et ((d6 l).length=n)&&xm (d6 l++hide (d6 l) N) (d6 l) scope d.names&&Fi t (d6 l++hide (d6 l) N) (x6 scope d) (λx=>et (scope.names.lookup x=a5 .cell)) (hQ n) l&&nL r &&
   (match dC d l D r with
    |some as=>aw k src N d as
    |none=>cb) &&
   et (v.length<=1)&&aw k cond (d6 l++hide (d6 l) N) (x6 scope d) v&&bH k e (d6 l++hide (d6 l) N) (x6 scope d) elt
noncomputable def aw(k:Ck):List E->List Str->Gn->List ri->Bool
 |[],_,_,a=>a.isEmpty
 |e::es,N,b,a=>match a with
  |e'::a=>noStar e'&&bH k e N b e'&&aw k es N b a
  |[]=>cb
noncomputable def nR(k:Ck):List E->List Str->Gn->Option ri->Bool
 |[],_,_,o=>o.isNone
 |[e],N,a,o=>match o with
  |some b=>bH k e N a b
  |none=>cb
 |_::_::_,_,_,_=>cb
end
abbrev bh:List Str:=["len","sorted","repr","max","min","all","any","list","tuple","str","int","range","enumerate","zip","reversed","set","dict","sum","isinstance","bool"]
structure ya(P:ve)(w:y1)(K:PySem.W.Frag)(mg:Str->Option eh)(base:DW)(d:Nat)(F:List U->Option (Ex (Kd×U)))(f:Str):Prop where
 ex:∃(np:Nat) (fa:hA) (fd:LV) (ps:List Str),lB P w K mg base DQ d fa fd ps (spT P w K F np)/\mg f=a5 (.ref fa)/\PySem.W.keepIn K (.ref fa)=b5/\Binds K fd ps []/\∀us k u,F us=a5 (.ok (k,u))->(k=.own\/k=.loc\/k=.any)/\us.length=np
structure Gd(ck:Ck)(Γ:Tab)(C:Ct)(d:Nat)(X:Cx):Prop where
 P:C.P=X.prog
 w:C.w=X.w
 K:C.K=X.K
 u:X.A.units+60<y0
 calm:X.calm=b5
 room:ef d X.A
 blt:∀x∈bh,X.mg x=b6
 fns:∀f∈ck.fns,ya X.prog X.w X.K X.mg X.base d (Γ f) f
 DH:∀p∈ck.gl,∃val v,X.mg p.1=a5 val/\RelV v val/\∀S H,Rep C S H p.2 v
def Gd.cx(g:Gd ck Γ C d X)(N:List Str)(a:Gn)(D:hA)(s:gs)(H:Hp)(ex:List hA):Gd ck Γ C d (Bi X N a D s H ex) :=
 ⟨g.P,g.w,g.K,g.u,g.calm,g.room,g.blt,g.fns,g.DH⟩
def iB(h:qG a x=b5):Eb a x:=by
 unfold qG at h;simp only[Ju,Q6]at h;rcases h with(h|h)|h
 .show .inl h
 .show .inr (.inl h)
 .show .inr (.inr h)
def bP(h:c6 x=b5):(x==("__debug__":Str))=cb/\(x==("__classdict__":Str))=cb:=by
 unfold c6 at h;simpa using h
def bp(h:noStar e=b5):mu (e::es) env=(cb,Ew e env)::mu es env:=by
 cases e<;>first|rfl|cases h
def sQ(h:gL e=b5):j3 e:=by
 intro o i;cases e<;>first|rfl|cases h
def nS(h:nL e=b5):∀x,FW e env x=pure x:=by
 intro x;cases e<;>first|rfl|cases h
def gM(h:kO o=b5):LJ o name env a=a:=by
 cases o with
 |Call f as b p =>
  cases f with
  |Name x q=>cases as with
   |nil=>cases b with
    |nil=>cases h
    |cons _ _=>rfl
   |cons _ _=>rfl
  |_=>rfl
 |_=>rfl
def bE(h:∀e∈es,noStar e=b5):(Fq pos (mu es env)).any (·.1)=cb/\(Fq pos (mu es env)).all (λx=>!x.1)=b5:=by
 induction es with
 |nil=>show⟨rfl,rfl⟩
 |cons e es a =>
  rw[bp (h e (by simp))];have:=a λb c=>h b (by simp[c]);constructor
  .change(cb||(Fq pos (mu es env)).any (·.1))=cb;rw[this.1];rfl
  .change(!cb&&(Fq pos (mu es env)).all (λx=>!x.1))=b5;rw[this.2];rfl
def b7(h:aw k es N c a=b5):∀e∈a,noStar e=b5:=by
 induction es generalizing a with
 |nil =>
  cases a with
  |nil=>intro e he;cases he
  |cons _ _=>simp[aw]at h
 |cons x es b =>
  cases a with
  |nil=>intro e he;cases he
  |cons d a =>
   simp only[aw,dV]at h;intro e he;rcases fx.mp he with rfl|he
   .show h.1.1
   .show b h.2 e he
def jG(a:∀x,fa x=b5->X.fn x=b5)(h:pE X.N X.env.scope fa i e=b5):nI X e i:=by
 cases e with
 |Name x p =>
  simp only[pE,dV,Q6,mj,Ju,zy]at h;show⟨x,p,rfl,h.1.1,?_,?_⟩
  .rcases h.1.2 with z|z
   .show .inl z
   .show .inr z
  .rcases h.2 with z|z
   .show .inl (a x z)
   .show .inr z
 |_=>cases h
theorem iC(a:∀x,fa x=b5->X.fn x=b5):∀{is:List Nat}{es:List ri},kP X.N X.env.scope fa is es=b5->cY X es is
 |[],[],_=>.nil
 |[],_::_,h=>by cases h
 |_::_,[],h=>by cases h
 |i::is,e::es,h=>by
  simp only[kP,dV]at h;show .cons (jG a h.1) (iC a h.2)
def pG(d:X.calm=b5)(e:C.K=X.K)(a:X.N.Nodup)(b:∀x,fa x=b5->X.fn x=b5)(h:Fi t X.N X.env.scope fa is c=b5):PG X c (tG C t is):=by
 cases c with
 |Name x p =>
  simp only[Fi,dV,CG]at h;have⟨rfl,h⟩:=h;cases is with
  |nil=>cases h
  |cons i is=>cases is with
   |nil=>show xW a (jG b h)
   |cons _ _=>cases h
 |Tuple es k p =>
  simp only[Fi,dV,va,Q6]at h;obtain⟨⟨rfl,f⟩,g⟩:=h;show zh d e a (iC b f) g
 |_=>cases h
def jH(a N:List Str):cv ((a++hide a N).drop a.length) N:=by
 rw[NA rfl];unfold hide;split
 .show .refl N
 .show(cv.refl N).set _ (.inl rfl)
 .show((cv.refl N).set _ (.inl rfl)).set _ (.inr rfl)
abbrev Bf.MI:Bf->Bool
 |.len=>b5|.sorted=>b5|.repr=>b5|.max=>b5|.min=>b5|.all=>b5|.any=>b5|_=>cb
abbrev Bf.id:Bf->String
 |.len=>"len"|.sorted=>"sorted"|.repr=>"repr"|.max=>"max"|.min=>"min"|.all=>"all"|.any=>"any"
 |.list=>"list"|.tuple=>"tuple"|.str=>"str"|.int=>"int"
def vz:∀f:Bf,simple f=b5->Fo f.name=a5 f.val/\f.name∈bh/\f.name≠"__name__"/\(f.name==("__debug__":Str))=cb:=by
 intro f h;cases f<;>first|show⟨by decide +kernel,by decide +kernel,by decide +kernel,by decide +kernel⟩|(cases h;done)
def yb:∀f:Bf,simple f=b5->(f.val=.builtin f.id\/f.val=.type f.id):=by
 intro f h;cases f<;>first|show .inl rfl|show .inr rfl|(cases h;done)
def yc:∀f:B2,f.kJ∈bh/\f.fy∈bh:=by
 intro f;cases f<;>show⟨by decide +kernel,by decide +kernel⟩
def vA:∀f:Mf,Slot "str" f.name f.id/\QL (.builtin f.id)=pure (.type "method_descriptor"):=by
 intro f;cases f with
 |split=>show⟨PySem.F.slot_str_split,PySem.F.type_str_split⟩
 |join=>show⟨PySem.F.slot_str_join,PySem.F.type_str_join⟩
 |partition=>show⟨PySem.F.slot_str_partition,PySem.F.type_str_partition⟩
 |endswith=>show⟨PySem.F.slot_str_endswith,PySem.F.type_str_endswith⟩
section
def dc(h:Cd X.env.scope x=b5):Gl X x:=by
 unfold Cd at h;change X.env.kindOf x=a5 .globalImplicit;show Rc h
def mr:("isinstance":Str)∈bh:=by decide +kernel
def sR(T:B1):T.name∈bh:=by cases T<;>decide +kernel
def pH:("range":Str)∈bh:=by decide +kernel
def v9(g:Gd ck Γ C d X)(h:dC X.env.scope n o c=a5 as)(m:PA X as (BE C (bc Γ src)))(r:∀a,as=[a]->∃e,src=[e]/\PE X a (AR C (ev Γ e)))(k:∀e∈as,noStar e=b5):PI X n c (Dk C o (bc Γ src)):=by
 unfold dC at h;split at h
 .cases h;have⟨e,rfl,s⟩:=r _ rfl;show xV g.K s
 .rw[nC]at h;obtain⟨⟨x,bs⟩,l,h⟩:=h;split at h
  .rename_i hh;cases h;have⟨f,i,hl⟩:=hh
   dsimp only at f i hl
   subst f;have⟨p,q,rfl⟩:=gu l;have⟨b,rfl⟩:=List.length_eq_one_iff.mp hl;show vo (dc i) (g.blt _ pH) (bp (k _ (by simp))) m
  .cases h
 .rw[nC]at h;obtain⟨⟨x,bs⟩,l,h⟩:=h;split at h
  .rename_i hh;cases h;have⟨f,i,hl⟩:=hh
   dsimp only at f i hl
   subst f;have⟨p,q,rfl⟩:=gu l;obtain⟨b,j,rfl⟩:∃b j,bs=[b,j]:=by match bs,hl with|[b,j],_=>show⟨b,j,rfl⟩
   have s1:=bp (env:=X.env) (es:=[]) (k _ (show _∈[_,_] from eu _ gm));show vp (dc i) (g.blt _ pH) (by rw[bp (k _ gm),s1];rfl) s1 m
  .cases h
 .cases h
def v_{a:M α}{b:α->M β}{c:α->M γ}{g:γ->M δ}{st:aq}{Q:δ->aq->Prop}(w:W (a >>= λx=>b x >>= λ_=>c x >>= g) st Q):W ((a >>= λx=>b x >>= λ_=>c x) >>= g) st Q:=by
 simp only[ab]at w ⊢;show w
def aU:PT X e (Bu C M.fail):=λa s σ H Q I ⟨_,_,_,_,w⟩=>(aF.mp w).elim
def c7:PE X e (AR C M.fail):=λa s σ H Q I ⟨_,_,_,_,w⟩=>(aF.mp w).elim
def PT.eqv(h:PT X e (Bu C m))(i:∀st Q,W a st Q->W m st Q):PT X e (Bu C a):=PT.weak h λσ H Q ⟨b,c,d,ok,w⟩=>⟨b,c,d,ok,i _ _ w⟩
def zA(g:Gd ck Γ C d X)(b:PA X a (BE C (bc Γ es)))
  (h:(et (x=f.name)&&simple f&&Cd X.env.scope x&&!a.isEmpty&&aw ck es X.N X.env.scope a)=b5):PE X (.Call (.Name x p) a [] pos) (AR C (ev Γ (.bi f es))):=by
 simp only[dV,Q6,CG]at h;obtain⟨⟨⟨⟨rfl,c⟩,i⟩,r⟩,s⟩:=h;have⟨j,k,l,m⟩:=vz f c;have n:=b7 s;cases a with
 |nil=>cases r
 |cons t o =>
  have st:=bp (env:=X.env) (es:=o) (n t (by simp));have q:=(bE (pos:=pos) (env:=X.env) (es:=o) λe v=>n e (by simp[v])).1;rcases yb f c with hv|hv
  .show vg g.calm g.K g.room.gd g.u hv (dc i) (g.blt _ k) (by rw[j,hv]) l m b st q
  .show vh g.calm g.K g.room.gd g.u hv (dc i) (g.blt _ k) (by rw[j,hv]) l m b st q
def zB(g:Gd ck Γ C d X)(i:PA X a (BE C (bc Γ es)))
  (h:(et (x=f.kJ)&&et (y=f.fy)&&Cd X.env.scope x&&Cd X.env.scope y&&!a.isEmpty&&aw ck es X.N X.env.scope a)=b5):PE X (.Call (.Name x p) [.Call (.Name y p2) a [] pos2] [] pos) (AR C (ev Γ (.Dw f es))):=by
 simp only[dV,Q6,CG]at h;obtain⟨⟨⟨⟨⟨rfl,rfl⟩,j⟩,k⟩,l⟩,m⟩:=h;have⟨n,o⟩:=yc f;have b:=b7 m;cases a with
 |nil=>cases l
 |cons q c =>
  have st:=bp (env:=X.env) (es:=c) (b q (by simp));have r:=(bE (pos:=pos2) (env:=X.env) (es:=c) λe s=>b e (by simp[s])).1;show vn g.calm g.u g.K (dc j) (g.blt _ n) (dc k) (g.blt _ o) i st r
def zC(g:Gd ck Γ C d X)(l:PE X o (AR C (ev Γ a)))(n:PA X b (BE C (bc Γ es)))
  (h:(et (name=m.name)&&kO o&&(c.endLine==i.line)&&!b.isEmpty&&et (b.length<20)&&bH ck a X.N X.env.scope o&&aw ck es X.N X.env.scope b)=b5):PE X (.Call (.Attribute o name c) b [] i) (AR C (ev Γ (.BB m a es))):=by
 simp only[dV,Q6,CG]at h;obtain⟨⟨⟨⟨⟨⟨rfl,p⟩,q⟩,r⟩,s⟩,x⟩,t⟩:=h;have j:=b7 t;have⟨s1,s2⟩:=vA m;cases b with
 |nil=>cases r
 |cons k f =>
  have st:=bp (env:=X.env) (es:=f) (j k (by simp));have u:=(bE (pos:=i) (env:=X.env) (es:=f) λe v=>j e (by simp[v])).1;have w:=(bE (pos:=i) (env:=X.env) (es:=k::f) j).2;show vk g.K s1 s2 l n (gM p) ?_ q st u;rw[w];have:(k::f).length+([]:List Iu).length+(if ([]:List Iu).isEmpty=b5 then 0 else 1)<30:=by simp at s ⊢;lia
  simp only[Q_ this];rfl
def sT(g:Gd ck Γ C d X)(i:PA X a (BE C (bc Γ es)))
  (h:(et (x=f)&&et (f∈ck.fns)&&Cd X.env.scope x&&c6 x&&!a.isEmpty&&aw ck es X.N X.env.scope a)=b5):PE X (.Call (.Name x p) a [] pos) (AR C (ev Γ (.call f es))):=by
 simp only[dV,Q6,CG]at h;obtain⟨⟨⟨⟨⟨rfl,j⟩,k⟩,l⟩,m⟩,n⟩:=h;have b:=b7 n;have⟨z,fa,A,B,o,q,r,s,t⟩:=(g.fns _ j).ex;cases a with
 |nil=>cases m
 |cons u c =>
  have st:=bp (env:=X.env) (es:=c) (b u (by simp));have v:=(bE (pos:=pos) (env:=X.env) (es:=c) λe y=>b e (by simp[y])).1;show sv g.P g.w g.K rfl t o g.room (dc k) q r s (bP l).1 i st v
def cK(h:(b&&aw k es N a c)=b5):aw k es N a c=b5:=(Bl.mp h).2
mutual
theorem bI:∀(e:E) (X:Cx) (k:ri),Gd ck Γ C d X->bH ck e X.N X.env.scope k=b5->PE X k (AR C (ev Γ e))
 |.var i,X,k,g,h=>by
  have⟨x,A,rfl,q⟩:=au h;clear h;have h:=q;simp only[dV,Q6]at h;have⟨h3,h4⟩:=bP h.2;show pk h.1.1 (iB h.1.2) h3 h4
 |.cst u,X,k,g,h=>by
  have⟨c,q0,A,rfl,q⟩:=nO h;cases c with
  |int j=>have:=cJ q;subst this;show fv wD λ_ _=>rfl
  |str y=>have:=cJ q;subst this;show fv wG λ_ _=>rfl
  |bool y=>have:=cJ q;subst this;show fv yy λ_ _=>rfl
  |none=>have:=cJ q;subst this;show fv wF λ_ _=>rfl
  |_=>cases q
 |.BW x u,X,k,g,h=>by
  have⟨y,A,rfl,q⟩:=au h;clear h;have h:=q;simp only[dV,Q6,Pr]at h;obtain⟨⟨⟨rfl,G⟩,J⟩,p,hp,L,e2⟩:=h;have:=cJ e2;subst this L;have⟨ap,v,q1,q2,q3⟩:=g.DH p hp;show fv (t9 (dc G) q1 q2 (bP J).1) q3
 |.bin op a b,X,k,g,h=>by
  have⟨a',EM,b',A,rfl,q⟩:=nN h;clear h;have h:=q;simp only[dV,Q6]at h;obtain⟨⟨rfl,G⟩,J⟩:=h;show u3 g.K (bI a X _ g G) (bI b X _ g J)
 |.cmp op a b,X,k,g,h=>by
  have⟨a',EM,b',A,rfl,B⟩:=iy h;have h:=B;simp only[dV,Q6,CG]at h;obtain⟨⟨⟨rfl,h0⟩,G⟩,J⟩:=h;show u4 g.P g.w g.K g.u (bI a X _ g G) (bI b X _ g J) h0
 |.C4 o1 o2 a b c,X,k,g,h=>absurd (show cb=b5 from h) mA
 |.and es,X,k,g,h=>by
  have⟨AG,A,rfl,q⟩:=fT h;clear h;have h:=q;show sU es X _ g h
 |.or es,X,k,g,h=>c7
 |.not a,X,k,g,h=>by
  have⟨a',A,rfl,q⟩:=jF h;clear h;have h:=q;show u6 (bI a X _ g h)
 |.neg a,X,k,g,h=>absurd (show cb=b5 from h) mA
 |.bad,X,k,g,h=>c7
 |.GV i,X,k,g,h=>c7
 |.inD neg a i,X,k,g,h=>c7
 |.GU i,X,k,g,h=>c7
 |.Dx i a b,X,k,g,h=>c7
 |.GW ln a b,X,k,g,h=>c7
 |.fst es,X,k,g,h=>c7
 |.D3 a T,X,k,g,h=>by
  have⟨f',as,A,rfl,B⟩:=aP h;have⟨x,p1,rfl,Y⟩:=au B;clear h B;have⟨a',b',rfl,z4⟩:=iz Y;have⟨y,p2,rfl,z3⟩:=au z4;have h:=z3;simp only[dV,Q6]at h;obtain⟨⟨⟨⟨⟨rfl,rfl⟩,G⟩,J⟩,h3⟩,h4⟩:=h;show pA g.K (dc G) (g.blt _ mr) (dc J) (g.blt _ (sR T)) (bI a X _ g h4) (bp h3)
 |.ite c a b,X,k,g,h=>absurd (show cb=b5 from h) mA
 |.tup es,X,k,g,h=>by
  have⟨l,q0,A,rfl,q⟩:=iA h;clear h;have h:=q;show vb (iD es X _ g h)
 |.lst es,X,k,g,h=>by
  have⟨l,A,rfl,q⟩:=nP h;clear h;have h:=q;show vc (iD es X _ g h)
 |.Cw r,X,k,g,h=>by
  have⟨A,rfl⟩:=qH h;show su g.P g.w r
 |.idx a b,X,k,g,h=>by
  have⟨a',b',A,rfl,q⟩:=eN h;clear h;have h:=q;simp only[dV]at h;show vd g.K g.u (sQ h.1.1) (bI a X _ g h.1.2) (bI b X _ g h.2)
 |.Dv a lo hi,X,k,g,h=>by
  have⟨a',b',A,rfl,B⟩:=eN h;have⟨J7,BH,p1,rfl,q⟩:=nQ B;clear h B;simp only[dV]at q;show vf g.K (bI a X _ g q.1.1) (zD lo X _ g q.1.2) (zD hi X _ g q.2)
 |.bi f es,X,k,g,h=>by
  have⟨f',as,A,rfl,B⟩:=aP h;have⟨x,p1,rfl,Y⟩:=au B;have h:=Y;show zA g (iD es X _ g (cK h)) h
 |.Dw f es,X,k,g,h=>by
  have⟨f',as,A,rfl,B⟩:=aP h;have⟨x,p1,rfl,Y⟩:=au B;have⟨c,rfl,z3⟩:=bD Y;have⟨g',E8,p2,rfl,z4⟩:=aP z3;have⟨y,p3,rfl,z5⟩:=au z4;have h:=z5;show zB g (iD es X _ g (cK h)) h
 |.BB m a es,X,k,g,h=>by
  have⟨o,name,an,as,AH,rfl,B⟩:=dF h;have h:=B;have h':=h;simp only[dV]at h';show zC g (bI a X _ g h'.1.2) (iD es X _ g (cK h)) h
 |.call f es,X,k,g,h=>by
  have⟨f',as,A,rfl,B⟩:=aP h;have⟨x,p1,rfl,Y⟩:=au B;have h:=Y;show sT g (iD es X _ g (cK h)) h
 |.comp n t ik src cond e,X,k,g,h=>by
  have⟨elt,tg,ac,am,scope,A,rfl,q⟩:=fU h;clear h;have h:=q;simp only[dV,Q6]at h;obtain⟨⟨⟨⟨⟨⟨⟨G,J⟩,h3⟩,h4⟩,O⟩,h6⟩,h7⟩,h8⟩:=h;subst G;have S:=rM (X:=X) rfl (jH _ _) J;split at O
  .rename_i as has;have AN:=b7 O;have hI:PI X tg ac (Dk C ik (bc Γ src)):=v9 g has (iD src X _ g O) (λa e=>by
    subst e;cases src with
    |nil=>simp[aw]at O
    |cons L A' =>
     cases A' with
     |nil =>
      simp only[aw,dV]at O;show⟨L,rfl,bI L X _ g O.1.2⟩
     |cons _ _=>simp[aw]at O) AN
   show sG S g.calm hI (λD s H ex=>pG (fa:=λx=>et (scope.names.lookup x=a5 .cell)) g.calm g.K S.nd (λ_ z=>z) h3)
    (λD s H ex=>by
     cases am with
     |nil =>
      cases cond with
      |nil=>show λal s σ H Q I ⟨c0,L,e2,ok,w⟩=>oH al s σ H Q I (by subst L e2;rw[show aG Γ []=pure b5 from rfl,af]at w;show w c0 rfl rfl ok (Nx.refl c0))
      |cons _ _=>simp[aw]at h7
     |cons c1 cs =>
      cases cs with
      |nil =>
       cases cond with
       |nil=>simp[aw]at h7
       |cons L A' =>
        cases A' with
        |nil =>
         simp only[aw,dV]at h7;show oI (kS L (Bi X _ scope D s H ex) c1 (g.cx _ _ _ _ _ _) h7.1.2)
        |cons _ _=>simp[aw]at h7
      |cons _ _=>simp at h6)
    (λD s H ex=>bI e (Bi X _ scope D s H ex) elt (g.cx _ _ _ _ _ _) h8) (nS h4)
  .cases O
theorem iD:∀(es:List E) (X:Cx) (a:List ri),Gd ck Γ C d X->aw ck es X.N X.env.scope a=b5->PA X a (BE C (bc Γ es))
 |[],X,a,g,h=>by
  cases a with
  |nil=>show u_
  |cons _ _=>simp[aw]at h
 |e::es,X,a,g,h=>by
  cases a with
  |nil=>simp[aw]at h
  |cons b a =>
   simp only[aw,dV]at h;show so (bI e X b g h.1.2) (iD es X a g h.2) (bp h.1.1)
theorem zD:∀(es:List E) (X:Cx) (o:Option ri),Gd ck Γ C d X->nR ck es X.N X.env.scope o=b5->PO X o (tO C (EF Γ es))
 |[],X,o,g,h=>by
  cases o with
  |none=>show qA
  |some _=>simp[nR]at h
 |[e],X,o,g,h=>by
  cases o with
  |none=>simp[nR]at h
  |some a=>simp only[nR]at h;show qB (bI e X a g h)
 |_::_::_,X,o,g,h=>by simp[nR]at h
theorem sU:∀(es:List E) (X:Cx) (a:List ri),Gd ck Γ C d X->aw ck es X.N X.env.scope a=b5->∀{pos},PE X (.BoolOp .And a pos) (AR C (iq Γ es))
 |[],X,a,g,h,pos=>c7
 |[e],X,a,g,h,pos=>by
  cases a with
  |nil=>simp[aw]at h
  |cons b a =>
   cases a with
   |nil=>simp only[aw,dV]at h;show wK (bI e X b g h.1.2)
   |cons _ _=>simp[aw]at h
 |e::c::es,X,a,g,h,pos=>by
  cases a with
  |nil=>simp[aw]at h
  |cons b a =>
   have h':noStar b=b5/\bH ck e X.N X.env.scope b=b5/\aw ck (c::es) X.N X.env.scope a=b5:=by
    rw[aw]at h;simp only[dV]at h;show⟨h.1.1,h.1.2,h.2⟩
   cases a with
   |nil=>have:=h'.2.2;simp[aw]at this
   |cons f i=>show snd_and (bI e X b g h'.2.1) (sU (c::es) X _ g h'.2.2)
theorem kS:∀(e:E) (X:Cx) (j:ri),Gd ck Γ C d X->bH ck e X.N X.env.scope j=b5->PT X j (Bu C (A1 Γ e))
 |.and es,X,j,g,h=>by
  have⟨D,o,rfl,k⟩:=fT h;clear h;have h:=k;show(pI es X _ g h).pt
 |.or es,X,j,g,h=>by
  have⟨D,o,rfl,k⟩:=fT h;clear h;have h:=k;show(sV es X _ g h).pt
 |.not a,X,j,g,h=>by
  have⟨A,o,rfl,k⟩:=jF h;clear h;have h:=k;show u7 (kS a X _ g h)
 |.cmp op a b,X,j,g,h=>by
  have⟨A,Y,G,o,rfl,l⟩:=iy h;have h:=l;simp only[dV,Q6,CG]at h;obtain⟨⟨⟨rfl,H⟩,q⟩,s⟩:=h;show u5 g.P g.w g.K g.u (bI a X _ g q) (bI b X _ g s) H
 |.C4 o1 o2 a b c,X,j,g,h=>absurd (show cb=b5 from h) mA
 |.var i,X,j,g,h=>by
  have⟨x,o,rfl,k⟩:=au h;simp only[dV,Q6]at k;have⟨v,z⟩:=bP k.2;show gK (pk k.1.1 (iB k.1.2) v z) g.K λ_=>rfl
 |.idx a b,X,j,g,h=>aU
 |.bi f es,X,j,g,h=>by
  have⟨f',as,o,rfl,l⟩:=aP h;have⟨x,B,rfl,p⟩:=au l;have h:=p;show PT.eqv (gK (zA g (iD es X _ g (cK h)) h) g.K λ_=>rfl) λst Q w=>v_ w
 |.Dw f es,X,j,g,h=>aU
 |.BB m a es,X,j,g,h=>aU
 |.call f es,X,j,g,h=>by
  have⟨f',as,o,rfl,l⟩:=aP h;have⟨x,B,rfl,p⟩:=au l;have h:=p;show PT.eqv (gK (sT g (iD es X _ g (cK h)) h) g.K λ_=>rfl) λst Q w=>v_ w
 |.cst u,X,j,g,h=>aU
 |.fst es,X,j,g,h=>aU
 |.BW x u,X,j,g,h=>aU
 |.neg a,X,j,g,h=>aU
 |.D3 a T,X,j,g,h=>by
  have⟨f',as,o,rfl,l⟩:=aP h;have⟨x,B,rfl,p⟩:=au l;clear h l;have⟨A,G,rfl,I⟩:=iz p;have⟨y,p2,rfl,J⟩:=au I;have h:=J;simp only[dV,Q6]at h;obtain⟨⟨⟨⟨⟨rfl,rfl⟩,q⟩,s⟩,v⟩,z⟩:=h;show PT.eqv (gK (pA g.K (dc q) (g.blt _ mr) (dc s) (g.blt _ (sR T)) (bI a X _ g z) (bp v)) g.K λ_=>rfl) λst Q w=>?_;have w:W (ev Γ a >>= λx=>M.AZ (l9 x.2 T)) st Q:=w;simp only[ab]at w ⊢;show W.mono w λx s1 L=>?_;have⟨b,e,O⟩:=bM.mp L;show bM.mpr ⟨b,e,af.mpr (bM.mpr ⟨b,rfl,O⟩)⟩
 |.bad,X,j,g,h=>aU
 |.inD neg a i,X,j,g,h=>aU
 |.GU i,X,j,g,h=>aU
 |.GW ln a b,X,j,g,h=>aU
 |.GV i,X,j,g,h=>aU
 |.Dx i a b,X,j,g,h=>aU
 |.bin op a b,X,j,g,h=>aU
 |.ite c a b,X,j,g,h=>aU
 |.tup es,X,j,g,h=>aU
 |.lst es,X,j,g,h=>aU
 |.Cw r,X,j,g,h=>aU
 |.Dv a lo hi,X,j,g,h=>aU
 |.comp n t ik src cond e,X,j,g,h=>aU
theorem pI:∀(es:List E) (X:Cx) (a:List ri),Gd ck Γ C d X->aw ck es X.N X.env.scope a=b5->∀{pos},PW X (.BoolOp .And a pos) (Bu C (aG Γ es))
 |[],X,a,g,h,pos=>by
  cases a with
  |nil =>
   rintro j f s σ H Q I ⟨c,rfl,rfl,ok,w⟩;rw[show aG Γ []=pure b5 from rfl,af]at w;show Q4 ⟨c.H,I,w c rfl rfl ok (Nx.refl c)⟩
  |cons _ _=>simp[aw]at h
 |[e],X,a,g,h,pos=>by
  cases a with
  |nil=>simp[aw]at h
  |cons b a =>
   cases a with
   |nil=>simp only[aw,dV]at h;show ua (kS e X b g h.1.2)
   |cons _ _=>simp[aw]at h
 |e::i::es,X,a,g,h,pos=>by
  cases a with
  |nil=>simp[aw]at h
  |cons b a =>
   have h':noStar b=b5/\bH ck e X.N X.env.scope b=b5/\aw ck (i::es) X.N X.env.scope a=b5:=by
    rw[aw]at h;simp only[dV]at h;show⟨h.1.1,h.1.2,h.2⟩
   cases a with
   |nil=>have:=h'.2.2;simp[aw]at this
   |cons k l=>show u9 (kS e X b g h'.2.1) (pI (i::es) X _ g h'.2.2)
theorem sV:∀(es:List E) (X:Cx) (a:List ri),Gd ck Γ C d X->aw ck es X.N X.env.scope a=b5->∀{pos},PW X (.BoolOp .Or a pos) (Bu C (gp Γ es))
 |[],X,a,g,h,pos=>by
  cases a with
  |nil =>
   rintro j f s σ H Q I ⟨c,rfl,rfl,ok,w⟩;rw[show gp Γ []=pure cb from rfl,af]at w;show isTrue_or_nil ⟨c.H,I,w c rfl rfl ok (Nx.refl c)⟩
  |cons _ _=>simp[aw]at h
 |[e],X,a,g,h,pos=>by
  cases a with
  |nil=>simp[aw]at h
  |cons b a =>
   cases a with
   |nil=>simp only[aw,dV]at h;show wH (kS e X b g h.1.2)
   |cons _ _=>simp[aw]at h
 |e::i::es,X,a,g,h,pos=>by
  cases a with
  |nil=>simp[aw]at h
  |cons b a =>
   have h':noStar b=b5/\bH ck e X.N X.env.scope b=b5/\aw ck (i::es) X.N X.env.scope a=b5:=by
    rw[aw]at h;simp only[dV]at h;show⟨h.1.1,h.1.2,h.2⟩
   cases a with
   |nil=>have:=h'.2.2;simp[aw]at this
   |cons k l=>show xJ (kS e X b g h'.2.1) (sV (i::es) X _ g h'.2.2)
end
end
abbrev Gi(b:Gn)(x:Str)(a:Nat):ri->Bool
 |.ListComp elt gens s pos=>et (b.names.lookup x=a5 .local)&&(a==pos.line)&&!(s.names.any λ(n,k)=>n==x&&(k==.local||k==.cell))
 |_=>cb
abbrev mw(s:Hq)(k:ri->Bool):Bool:=match s with|.Expr e _=>k e|_=>cb
def eO(h:mw s k=b5):∃e p,s=.Expr e p/\k e=b5:=by
 unfold mw at h;split at h
 .show⟨_,_,rfl,h⟩
 .cases h
abbrev mz(s:Hq)(k:ri->ri->Bool):Bool:=match s with|.Assign ts v _=>fz ts λt=>k t v|_=>cb
def eQ(h:mz s k=b5):∃t v p,s=.Assign [t] v p/\k t v=b5:=by
 unfold mz at h;split at h
 .have⟨t,rfl,a⟩:=bD h;show⟨_,_,_,rfl,h⟩
 .cases h
abbrev yd(e:ri)(k:Str->Pos->Bool):Bool:=match e with|.Name x p=>k x p|_=>cb
def qI(h:yd e k=b5):∃x p,e=.Name x p/\k x p=b5:=by
 unfold yd at h;split at h
 .show⟨_,_,rfl,h⟩
 .cases h
abbrev pJ(s:Hq)(k:Option ri->Bool):Bool:=match s with|.Return v _=>k v|_=>cb
def iE(h:pJ s k=b5):∃v p,s=.Return v p/\k v=b5:=by
 unfold pJ at h;split at h
 .show⟨_,_,rfl,h⟩
 .cases h
abbrev zE(v:Option ri)(k:ri->Bool):Bool:=match v with|some e=>k e|none=>cb
def qJ(h:zE v k=b5):∃e,v=a5 e/\k e=b5:=by
 cases v with
 |none=>cases h
 |some e=>show⟨e,rfl,h⟩
abbrev sW(s:Hq)(k:ri->List Hq->List Hq->Bool):Bool:=match s with|.If c a b _=>k c a b|_=>cb
def nU(h:sW s k=b5):∃c a b p,s=.If c a b p/\k c a b=b5:=by
 unfold sW at h;split at h
 .show⟨_,_,_,_,rfl,h⟩
 .cases h
abbrev sX(s:Hq)(k:ri->ri->List Hq->Bool):Bool:=match s with|.For t i b o _=>o.isEmpty&&k t i b|_=>cb
def nV(h:sX s k=b5):∃t i b p,s=.For t i b [] p/\k t i b=b5:=by
 unfold sX at h;split at h
 .rw[dV,F2]at h;have⟨rfl,h⟩:=h;show⟨_,_,_,_,rfl,h⟩
 .cases h
abbrev ye(s:Hq)(k:ri->List Hq->Bool):Bool:=match s with|.While c b o _=>o.isEmpty&&k c b|_=>cb
def qK(h:ye s k=b5):∃c b p,s=.While c b [] p/\k c b=b5:=by
 unfold ye at h;split at h
 .rw[dV,F2]at h;have⟨rfl,h⟩:=h;show⟨_,_,_,rfl,h⟩
 .cases h
abbrev mB(n:Nat)(s:Hq):Bool:=match s with|.Break _=>n==0|.Continue _=>n==1|.Pass _=>n==2|_=>cb
def eR(h:mB n s=b5):(n=0/\∃p,s=.Break p)\/(n=1/\∃p,s=.Continue p)\/(n=2/\∃p,s=.Pass p):=by
 unfold mB at h;split at h
 .show .inl ⟨by simpa using h,_,rfl⟩
 .show .inr (.inl ⟨by simpa using h,_,rfl⟩)
 .show .inr (.inr ⟨by simpa using h,_,rfl⟩)
 .cases h
mutual
noncomputable def zF(k:Ck):S->List Str->Gn->Hq->Bool
 |.set i e,N,d,s=>mz s λt v=>yd t λx p=>et (N[i]?=a5 x)&&mj d x&&et (d.kind=.function)&&bH k e N d v&&(cn v||Gi d x p.line v||(match v with|.ListComp _ _ _ _=>b5|_=>cb))&&(match e with|.comp _ _ _ _ _ _=>b5|_=>cn v)
 |.Dy is e,N,d,s=>mz s λt v=>pF t λ_=>Fi b5 N d (λ_=>b5) is t&&cn v&&x5 v&&bH k e N d v
 |.put i a b,N,d,s=>mz s λt h=>mq t λo j=>bO o λx=>et (N[i]?=a5 x)&&qG d x&&c6 x&&cn h&&gL j&&bH k a N d j&&bH k b N d h
 |.app i e,N,d,s=>mw s λc=>kR c λo m f as n=>bO o λx=>fz as λa=>et (m="append")&&et (N[i]?=a5 x)&&qG d x&&c6 x&&(f.endLine==n.line)&&noStar a&&bH k e N d a
 |.ext i e,N,d,s=>mw s λc=>kR c λo m f as n=>bO o λx=>fz as λa=>et (m="extend")&&et (N[i]?=a5 x)&&qG d x&&c6 x&&(f.endLine==n.line)&&noStar a&&bH k e N d a
 |.bad,_,_,_=>b5
 |.newD _,_,_,_=>cb
 |.aug _ _ _ _,_,_,_=>cb
 |.GX _,_,_,_=>cb
 |.putD _ _ _,_,_,_=>cb
 |.Dz _ _ _,_,_,_=>cb
 |.exp e,N,d,s=>mw s λl=>cn l&&bH k e N d l
 |.ret e,N,d,s=>pJ s λv=>zE v λl=>bH k e N d l
 |.DA,N,d,s=>pJ s λv=>v.isNone
 |.ite c a b,N,d,s=>sW s λq j h=>bH k c N d q&&cp k a N d j&&cp k b N d h
 |.Bs t is w src body,N,d,s=>sX s λu g r=>Fi t N d (λ_=>b5) is u&&nL g&&(match dC d u w g with
    |some as=>aw k src N d as
    |none=>cb)&&cp k body N d r
 |.GY c body,N,d,s=>ye s λq r=>bH k c N d q&&cp k body N d r
 |.brk,_,_,s=>mB 0 s
 |.cnt,_,_,s=>mB 1 s
 |.GZ,_,_,s=>mB 2 s
noncomputable def cp(k:Ck):List S->List Str->Gn->List Hq->Bool
 |[],_,_,a=>a.isEmpty
 |s::ss,N,b,a=>match a with
  |s'::a=>zF k s N b s'&&cp k ss N b a
  |[]=>cb
end
section
variable{ck:Ck}{Γ:Tab}{C:Ct}{d:Nat}{X:Cx}
def sY(h:mj a x=b5):Loc a x:=by
 unfold mj at h;simp only[Ju,Q6]at h;show h
def iF(h:cn v=b5):Kx v t a env=pure cb:=by
 cases v<;>first|rfl|cases h
def pK(h:cn v=b5):Lx [t] v a env=pure cb:=by
 rw[Lx];show iF h
def vB(h:gL i=b5):∀v,LK (.Subscript o i p) env v=(do
   let a <-IX [v] (Ew o env)
   let b <-IX [v,a] (Ew i env)
   OW p
   IX [v,a,b] (OY a b v)
   release [v,a,b] []):=by
 intro v;cases i<;>first|rfl|cases h
structure Gs(ck:Ck)(Γ:Tab)(C:Ct)(d:Nat)(X:Cx):Prop where
 gd:Gd ck Γ C d X
 nd:X.N.Nodup
 fn:∀x,X.fn x=b5
 po:NZ (ko X.prog X.w) X.A X.env X.xe
 kd:X.env.scope.kind=.function
def pM(g:Gd ck Γ C d X)(h:(match dC X.env.scope f i b with|some as=>aw ck src X.N X.env.scope as|none=>cb)=b5):PI X f b (Dk C i (bc Γ src)):=by
 split at h
 .rename_i as has;show v9 g has (iD src X _ g h) (λa e=>by
   subst e;cases src with
   |nil=>simp[aw]at h
   |cons c j =>
    cases j with
    |nil =>
     simp only[aw,dV]at h;show⟨c,rfl,bI c X _ g h.1.2⟩
    |cons _ _=>simp[aw]at h) (b7 h)
 .cases h
def iG{pos p a:Pos}(hk:X.env.scope.kind=.function):Kx (.ListComp elt gens s pos) (a5 (.Name x p)) a.line X.env=pure (Gi X.env.scope x p.line (.ListComp elt gens s pos)):=by
 have b:X.env.blockKind=.function:=by
  unfold Env.blockKind;rw[hk];rfl
 change(pure (X.env.blockKind==.function&&X.env.kindOf x==a5 .local&&p.line==pos.line&&!(s.names.any λ(n,k)=>n==x&&(k==.local||k==.cell))):Sem Bool)=_;rw[b];unfold Gi;congr 1
 have:(X.env.kindOf x==a5 NameKind.local)=et (X.env.scope.names.lookup x=a5 .local):=by
  unfold Env.kindOf;rw[HW];simp
 rw[this];rfl
def yf{src cond:List E}(G:Gs ck Γ C d X)(m:X.N[i]?=a5 x)(B:mj X.env.scope x=b5)
  (h:bH ck (.comp n t o src cond e) X.N X.env.scope (.ListComp elt [⟨q,a,b,0⟩] scope pos)=b5) (ns:Nat->Bool) (u:∀j,ns j=b5->j≠i) :
  L2.PS X (.Assign [.Name x p] (.ListComp elt [⟨q,a,b,0⟩] scope pos) Cr) (Bj C ns (ev Γ (.comp n t o src cond e) >>= λr=>di i r >>= λ_=>pure .nx)):=by
 have g:=G.gd;have v:=bI (.comp n t o src cond e) X _ g h;cases k:Gi X.env.scope x p.line (.ListComp elt [⟨q,a,b,0⟩] scope pos) with
 |false=>show v8 u G.nd m (sY B) (.inl (G.fn x)) v (by rw[iG G.kd,k])
 |true =>
  have hl:X.env.scope.names.lookup x=a5 .local:=by
   simp only[Gi,dV,Q6]at k;show k.1.1
  have⟨Mc,MJ,J8,Md,I0,p',J,y⟩:=fU h;cases J;clear h v;simp only[dV,Q6]at y;obtain⟨⟨⟨⟨⟨⟨⟨L,O⟩,T⟩,Y⟩,h5⟩,h6⟩,c⟩,h8⟩:=y;subst L;have S:=rM (X:=X) rfl (jH _ _) O;show xZ u S g.calm G.nd m hl (pM g h5) (λD s H ex=>pG (fa:=λx=>et (scope.names.lookup x=a5 .cell)) g.calm g.K S.nd (λ_ z=>z) T)
   (λD s H ex=>by
    cases b with
    |nil =>
     cases cond with
     |nil=>show λf s σ H Q I ⟨A,l,e2,ok,w⟩=>oH f s σ H Q I (by subst l e2;rw[show aG Γ []=pure b5 from rfl,af]at w;show w A rfl rfl ok (Nx.refl A))
     |cons _ _=>simp[aw]at c
    |cons c1 cs =>
     cases cs with
     |nil =>
      cases cond with
      |nil=>simp[aw]at c
      |cons l A' =>
       cases A' with
       |nil =>
        simp only[aw,dV]at c;show oI (kS l (Bi X _ scope D s H ex) c1 (g.cx _ _ _ _ _ _) c.1.2)
       |cons _ _=>simp[aw]at c
     |cons _ _=>simp at h6)
   (λD s H ex=>bI e (Bi X _ scope D s H ex) elt (g.cx _ _ _ _ _ _) h8) (by rw[iG G.kd,k]) (nS Y)
mutual
theorem Az:∀(s:S) (X:Cx) (s':Hq),Gs ck Γ C d X->zF ck s X.N X.env.scope s'=b5->L2.PS X s' (Bj C (Iq s) (exec Γ s))
 |.set i e,X,s',G,h=>by
  have⟨t,v,p1,rfl,g⟩:=eQ h;have⟨x,p,rfl,A⟩:=qI g;clear h g;have h:=A;simp only[dV,Q6]at h;obtain⟨⟨⟨⟨⟨r,y⟩,B⟩,l⟩,J⟩,L⟩:=h;have BM:∀j,Iq (.set i e) j=b5->j≠i:=λj q=>Rc (show et (j≠i)=b5 from q);by_cases hc:cn v=b5
  .show v8 BM G.nd r (sY y) (.inl (G.fn x)) (bI e X v G.gd l) (iF hc)
  .cases e with
   |comp n t ik src cond e =>
    obtain⟨elt,tg,Q,al,scope,p3,rfl,_⟩:=fU l;show yf G r y l _ BM
   |_=>show absurd L hc
 |.Dy is e,X,s',G,h=>by
  have⟨t,v,p1,rfl,g⟩:=eQ h;have⟨es,kk,p,rfl,A⟩:=iA g;clear h g;have h:=A;simp only[dV]at h;obtain⟨⟨⟨r,y⟩,B⟩,l⟩:=h;show x4 (λj q=>Rc (show et (j∉is)=b5 from q)) (bI e X v G.gd l) (pG (fa:=λ_=>b5) G.gd.calm G.gd.K G.nd (λx _=>G.fn x) r) (pK y) ?_ rfl;cases v<;>first|rfl|cases B
 |.put i a b,X,s',G,h=>by
  have⟨t,v,p,rfl,g⟩:=eQ h;have⟨o,a',p1,rfl,A⟩:=eN g;have⟨x,px,rfl,O⟩:=au A;simp only[dV,Q6]at O;obtain⟨⟨⟨⟨⟨⟨r,y⟩,B⟩,l⟩,J⟩,L⟩,h7⟩:=O;have⟨T,Y⟩:=bP B;show zx G.gd.P G.gd.w G.gd.K G.gd.u r (iB y) T Y (bI b X _ G.gd h7) (bI a X _ G.gd L) (pK l) rfl (vB J)
 |.app i e,X,s',G,h=>by
  have⟨c,p0,rfl,g⟩:=eO h;have⟨o,m,ac,as,AH,rfl,A⟩:=dF g;have⟨x,px,rfl,O⟩:=au A;have⟨a,rfl,z4⟩:=bD O;simp only[dV,Q6]at z4;obtain⟨⟨⟨⟨⟨⟨rfl,r⟩,y⟩,B⟩,l⟩,J⟩,L⟩:=z4;have⟨T,Y⟩:=bP B;have st:=bp (env:=X.env) (es:=[]) J;have sa:=(bE (pos:=AH) (env:=X.env) (es:=[a]) λe he=>by simp at he;subst he;show J).2;show zv G.gd.K r (iB y) T Y (bI e X _ G.gd L) ?_ l st;rw[sa];rfl
 |.ext i e,X,s',G,h=>by
  have⟨c,p0,rfl,g⟩:=eO h;have⟨o,m,ac,as,AH,rfl,A⟩:=dF g;have⟨x,px,rfl,O⟩:=au A;have⟨a,rfl,z4⟩:=bD O;simp only[dV,Q6]at z4;obtain⟨⟨⟨⟨⟨⟨rfl,r⟩,y⟩,B⟩,l⟩,J⟩,L⟩:=z4;have⟨T,Y⟩:=bP B;have st:=bp (env:=X.env) (es:=[]) J;have sa:=(bE (pos:=AH) (env:=X.env) (es:=[a]) λe he=>by simp at he;subst he;show J).2;show zw G.gd.K r (iB y) T Y (bI e X _ G.gd L) ?_ l st;rw[sa];rfl
 |.bad,X,s',G,h=>λf sh σ H D I ⟨_,_,_,_,w⟩=>(aF.mp w).elim
 |.aug sub i a e,X,s',G,h=>λf sh σ H D I ⟨_,_,_,_,w⟩=>(aF.mp w).elim
 |.GX i,X,s',G,h=>λf sh σ H D I ⟨_,_,_,_,w⟩=>(aF.mp w).elim
 |.newD i,X,s',G,h=>λf sh σ H D I ⟨_,_,_,_,w⟩=>(aF.mp w).elim
 |.putD i a b,X,s',G,h=>λf sh σ H D I ⟨_,_,_,_,w⟩=>(aF.mp w).elim
 |.Dz i a e,X,s',G,h=>λf sh σ H D I ⟨_,_,_,_,w⟩=>(aF.mp w).elim
 |.exp e,X,s',G,h=>by
  have⟨e',p,rfl,k⟩:=eO h;clear h;have h:=k;simp only[dV]at h;show zp (bI e X _ G.gd h.2) (iF h.1)
 |.ret e,X,s',G,h=>by
  have⟨v,p,rfl,k⟩:=iE h;have⟨e',rfl,g⟩:=qJ k;clear h k;have h:=g;show zq (bI e X _ G.gd h)
 |.DA,X,s',G,h=>by
  have⟨v,p,rfl,k⟩:=iE h;cases v with
  |none=>show xY
  |some _=>cases k
 |.ite c a b,X,s',G,h=>by
  have⟨c',a',b',p,rfl,k⟩:=nU h;clear h;have h:=k;simp only[dV]at h;have ha:=jI a X _ G h.1.2;have hb:=jI b X _ G h.2;show zr (kS c X _ G.gd h.1.1) (Bk.weak ha λD σ H z=>kM (λj q=>(Bl.mp (show(B3 a j&&B3 b j)=b5 from q)).1) z) (Bk.weak hb λD σ H z=>kM (λj q=>(Bl.mp (show(B3 a j&&B3 b j)=b5 from q)).2) z)
 |.Bs t is ik src body,X,s',G,h=>by
  have⟨tg,Q,B5,p,rfl,k⟩:=nV h;clear h;have h:=k;rw[dV,dV,dV]at h;show zu G.po G.gd.calm (pM G.gd h.1.2) (pG (fa:=λ_=>b5) G.gd.calm G.gd.K G.nd (λx _=>G.fn x) h.1.1.1) (jI body X _ G h.2) (nS h.1.1.2) λj q=>by have q:(et (j∉is)&&B3 body j)=b5:=q;simpa using q
 |.GY c body,X,s',G,h=>by
  have⟨c',B5,p,rfl,k⟩:=qK h;clear h;have h:=k;simp only[dV]at h;show zt G.po (kS c X _ G.gd h.1) (jI body X _ G h.2)
 |.brk,X,s',G,h=>by
  rcases eR h with⟨_,p,rfl⟩|⟨e,_⟩|⟨e,_⟩
  .show zl
  .cases e
  .cases e
 |.cnt,X,s',G,h=>by
  rcases eR h with⟨e,_⟩|⟨_,p,rfl⟩|⟨e,_⟩
  .cases e
  .show zm
  .cases e
 |.GZ,X,s',G,h=>by
  rcases eR h with⟨e,_⟩|⟨e,_⟩|⟨_,p,rfl⟩
  .cases e
  .cases e
  .show zo
theorem jI:∀(ss:List S) (X:Cx) (a:List Hq),Gs ck Γ C d X->cp ck ss X.N X.env.scope a=b5->Bk X a (Bj C (B3 ss) (execs Γ ss))
 |[],X,a,G,h=>by
  cases a with
  |nil=>show zk
  |cons _ _=>simp[cp]at h
 |s::ss,X,a,G,h=>by
  cases a with
  |nil=>simp[cp]at h
  |cons s' a =>
   simp only[cp,dV]at h;have c:=Az s X s' G h.1;have e:=jI ss X a G h.2;show xX (PS.weak c λD σ H z=>kM (λj b=>by simp only[B3,dV]at b;show b.1) z) (Bk.weak e λD σ H z=>kM (λj b=>by simp only[B3,dV]at b;show b.2) z)
end
end
section
variable{ck:Ck}{Γ:Tab}{d:Nat}{P:ve}{w:y1}{K:PySem.W.Frag}{mg:Str->Option eh}{base:DW}
def fV{n i:Nat}(h:(start us n)[i]?=a5 (a5 (k,u))):us[i]?=a5 u/\k=if A9 u=b5 then .loc else .any:=by
 unfold start at h;by_cases a:i<us.length
 .rw[tr (by simpa using a),nc]at h;rw[HC a]at h ⊢;simp only[Nn,Q5,Prod.mk.injEq]at h;have⟨b,c⟩:=h;subst c;show⟨rfl,b.symm⟩
 .rw[sx (by simp;lia),F3]at h;split at h<;>cases h
def nW{i:Nat}(h:a[i]?=a5 v):(L2.start N a)[i]?=a5 (a5 v):=by
 unfold L2.start;have b:i<a.length:=(l2.mp h).1;rw[tr (by simpa using b),nc,h];rfl
def sZ(p:∀a,c a->CH H a)(h:ag (Dj P w K H c) c H us q)(s:N.length=n):Ok (Dj P w K H c) ⟨λ_=>False,H,L2.start N q,start us n,λ_=>[]⟩:=by
 have f:∀(j:Nat) (u:U),(start us n)[j]?≠a5 (a5 (.AK,u)):=λj u e=>by
  have:=(fV e).2;split at this<;>cases this
 show⟨λa o e _=>e,λa z=>z.elim,λa z=>⟨p a z,λz=>z⟩,λa z=>z.elim,?_,λi k u e=>?_,λi j k k' u u' r hk x g m y A=>?_,⟨λj u r e _=>(f j u e).elim,λi j a ⟨u,_,e,_⟩=>(f i u e).elim,λj a ⟨u,_,e,_⟩=>(f j u e).elim⟩⟩
 .have:=h.len;simp[start,L2.start,s];lia
 .have⟨g,m⟩:=fV e;have⟨v,ev,b⟩:=h.get g;show⟨v,nW ev,?_⟩;subst m;by_cases l:A9 u=b5
  .rw[Q8 l];show Rep.A9 l b
  .rw[Q9 l];show Rep.mv (.up λa z=>.inl z) b
 .obtain⟨_,t⟩:=fV g;subst t;split at hk<;>cases hk
def kU(h:bf Γ fn us=a5 (.ok (k,u))):us.length=fn.np/\((k=.own\/k=.loc\/k=.any)/\(∃st',execs Γ fn.body (start us fn.ns)=a5 (.ok (.rt k u),st'))\/(k=.loc/\u=.AM/\∃st',execs Γ fn.body (start us fn.ns)=a5 (.ok .nx,st'))):=by
 unfold bf at h;split at h
 .rename_i hl;show⟨hl,?_⟩;split at h
  .rename_i e;cases h;show .inl ⟨.inl rfl,_,e⟩
  .rename_i e;cases h;show .inl ⟨.inr (.inl rfl),_,e⟩
  .rename_i e;cases h;show .inl ⟨.inr (.inr rfl),_,e⟩
  .rename_i e;cases h;show .inr ⟨rfl,rfl,_,e⟩
  .cases h
  .cases h
 .cases h
def wa{st:Hq}(F:Ej K fn.name i st f J)(S:cQ N y (aA st))(L:N.length=fn.ns)(O:y.length=fn.np)
  (T:cp ck fn.body N (aA st) (bT st)=b5) (m:∀x∈bh,mg x=b6) (q:∀g∈ck.fns,ya P w K mg base d (Γ g) g)
  (Y:∀p∈ck.gl,∃b v,mg p.1=a5 b/\RelV v b/\∀(C:Ct) S H,Rep C S H p.2 v):lB P w K mg base DQ (d+1) f J y (spT P w K (bf Γ fn) fn.np):=by
 show F.ok S (λB H Q E h=>h.1.trans O.symm) (λD A outer s H B Q E I h=>?_);have⟨hl,us,k,u,l,BR,hk,Mg,t,j⟩:=h;have D6:=I.un;have G:Gs ck Γ (Dj P w K H l) d (mU DQ P w K mg base N i (aA st) f D A outer s H E).Fu :=
  ⟨⟨rfl,rfl,rfl,by change(A.deeper (M' i (aA st) s.heap.objs.size f D)).units+60<y0;lia,rfl,I,m,q,λp hp=>let ⟨b,v,q1,q2,q3⟩:=Y p hp;⟨b,v,q1,q2,q3 _⟩⟩,S.nd,λ_=>rfl,PassesOwn.never,S.kind⟩
 show⟨_,jI fn.body _ _ G T,⟨λ_=>False,H,L2.start N B,start us fn.ns,λ_=>[]⟩,rfl,rfl,sZ Mg t L,?_⟩;obtain⟨_,Jb⟩:=kU BR;have mk:∀(c:Cf),Ok (Dj P w K H l) c->∀v,zj (Dj P w K H l) c k u v->Back (Dj P w K H l) H c.H c.S k u v:=λc ok v r=>by
  show⟨λa o e=>ok.same a o e λz=>z,λa z=>ok.Cv a z,λe=>?_,λe=>?_,λe=>?_⟩
  .subst e;have⟨r0,e,h1,h2,h3,h4⟩:=r;show⟨r0,e,h1,h2,h4⟩
  .subst e;show r
  .subst e;show r
 rcases Jb with⟨_,st',e⟩|⟨rfl,rfl,st',e⟩
 .show⟨_,st',e,λc ec ok n kp v r=>j v c.H c.S (mk c ok v r)⟩
 .show⟨_,st',e,λc ec ok n kp=>j .AM c.H c.S (mk c ok .AM rfl)⟩
structure Ld(ck:Ck)(K:PySem.W.Frag)(mg:Str->Option eh)(fn:Fn):Prop where
 ex:∃(qual:Str) (st:Hq) (f:hA) (fd:LV) (N ps:List Str),Ej K fn.name qual st f fd/\mg fn.name=a5 (.ref f)/\Binds K fd ps []/\cQ N ps (aA st)/\N.length=fn.ns/\ps.length=fn.np/\cp ck fn.body N (aA st) (bT st)=b5
def vC{Pg:List Fn}(a:(Pg.map (·.name)).Nodup)(h:fn∈Pg):Pg.find? (λg=>et (g.name=fn.name))=a5 fn:=by
 induction Pg with
 |nil=>cases h
 |cons g Pg b =>
  rw[kT,CZ]at a;rcases fx.mp h with rfl|h
  .simp
  .rw[GF];have:et (g.name=fn.name)=cb:=by
    apply Q7;intro z;show a.1 (z▸List.mem_map_of_mem h)
   rw[this];show b a.2 h
def s9(a:(Pg.map (·.name)).Nodup)(h:fn∈Pg):Be Pg (d+1) fn.name=bf (Be Pg d) fn:=by
 funext us
 change(match Pg.find? λg=>et (g.name=fn.name) with|some fn=>bf (Be Pg d) fn us|none=>b6)=_;rw[vC a h]
def vD(B:(Pg.map (·.name)).Nodup)(D:ck.fns=Pg.map (·.name))(i:∀x∈bh,mg x=b6)(G:∀p∈ck.gl,∃a v,mg p.1=a5 a/\RelV v a/\∀(C:Ct) S H,Rep C S H p.2 v)
  (ld:∀fn∈Pg,Ld ck K mg fn):∀d,∀fn∈Pg,ya P w K mg base d (Be Pg d fn.name) fn.name:=by
 intro d;induction d with
 |zero =>
  intro fn c;have⟨b,st,f,j,N,l,F,m,n,S,r,o,t⟩:=(ld fn c).ex;show⟨fn.np,f,j,l,⟨λI H Q E h=>h.1.trans o.symm,λA outer s H args us I Q E _ _ _ _ h=>by obtain⟨_,us,k,u,_,e,_⟩:=h;cases e⟩,m,F.kp,n,λus k u e=>by cases e⟩
 |succ d J =>
  intro fn c;have⟨b,st,f,j,N,l,F,m,n,S,r,o,t⟩:=(ld fn c).ex;rw[s9 B c];show⟨fn.np,f,j,l,wa F S r o t i (λg y=>?_) G,m,F.kp,n,λus k u e=>?_⟩
  .rw[D]at y;have⟨L,q,rfl⟩:=lg.mp y;show J L q
  .have⟨q,O⟩:=kU e;show⟨?_,q⟩;rcases O with⟨z,_⟩|⟨z,_⟩
   .show z
   .show .inr (.inl z)
end
abbrev nX(ns:List Int):U:=.lst (ns.map .int)
theorem jJ{S:hA->Prop}:∀(ns:List Int),ag C S H (ns.map .int) (ns.map V.int)
 |[]=>rfl
 |n::ns=>⟨_,_,rfl,rfl,jJ ns⟩
def nY(h:A_ C.K H a (ns.map V.int)):Rep C (CH H) H (nX ns) (.ref a):=by
 show⟨a,_,rfl,?_,jJ ns⟩;rcases h with(h|⟨o,h⟩)|h
 .show .inl ⟨⟨_,h⟩,.inl h⟩
 .show .inl ⟨⟨_,h⟩,.inr ⟨o,h⟩⟩
 .show .inr h
theorem cH:∀{l:List α},(∀a∈l,f a=g a)->l.filterMap f=l.filterMap g
 |[],_=>rfl
 |a::l,h=>by rw[FZ,FZ,h a (by simp),cH λb c=>h b (by simp[c])]
theorem pN:∀(l:List Str) (us:List eh),l.Nodup->us.length=l.length->l.filterMap (λn=>((l.zip us).lookup n).map (n,·))=l.zip us
 |[],_,_,_=>rfl
 |a::l,[],_,h=>nomatch h
 |a::l,u::us,b,h=>by
  rw[CZ]at b;have c:=pN l us b.2 (by simpa using h);simp only[H8,FZ,oT,beq_self_eq_true,Nn];congr 1
  conv=>rhs;rw[<-c]
  show cH λn d=>?_;have:(n==a)=cb:=by
   rw[beq_eq_false_iff_ne];rintro rfl;show b.1 d
  rw[this]
def s_(l:List Str)(us:List eh)(h:us.length=l.length):l.filter (λn=>((l.zip us).lookup n).isNone)=[]:=by
 rw[Ln];intro n hn;induction l generalizing us with
 |nil=>cases hn
 |cons a l b =>
  cases us with
  |nil=>cases h
  |cons u us =>
   simp only[H8,oT];cases e:n==a with
   |true=>simp
   |false =>
    rcases fx.mp hn with rfl|hn
    .simp at e
    .show b us (by simpa using h) hn
def td{kV a b c ct:eh}(d:(as.map (·.arg)).Nodup)(hl:us.length=(as.map (·.arg)).length):
  QX (PySem.W.fnOf x q ⟨[],as,b6,[],[],b6,[]⟩ body scope .none kV a b m c ct) ⟨us,[]⟩=pure ((as.map (·.arg)).zip us):=by
 have e:=pN _ us d hl;have f:=s_ _ us hl;change(if _ then _ else _)=_;rw[Q9 (by simp[hl])];have g:∀k:Nat,¬(!(((as.map (·.arg)).take k).filter λn=>(((as.map (·.arg)).zip us).lookup n).isNone).isEmpty)=b5:=λk=>by
  rw[Ln.mpr λn h=>Ln.mp f n (Jl h)];show mA
 show(Q9 (g _)).trans ?_;have hz:∀(l:List Str) (i j:Nat),(l.drop i).zip ((b6.getD #[]:Array eh).toList.drop j)=[]:=λl i j=>by rw[show(b6.getD #[]:Array eh).toList=[] from rfl,List.drop_nil,List.zip_nil_right]
 show Eq.trans (Rb (λz=>Bind.bind (Qo z _ _) _) (hz _ _ _)) ?_;show Rb (pure:List (Str×eh)->Sem (List (Str×eh))) ((Rb (List.filterMap _) (DY _)).trans e)
structure Me where
 fn:Fn
 i:Nat
 N:List Str
 a:hA
 c:hA
 m:eh
 cr:Obj
abbrev Me.fd(top:Nat->Hq)(m:Me):LV:=PySem.W.fnOf m.fn.name m.fn.name (dN (top m.i)) (bT (top m.i)) (aA (top m.i)) .none .none .none m.m b6 (.ref m.c) .none
abbrev Me.fo(top:Nat->Hq)(m:Me):Obj:=⟨.type "function",b6,.func (m.fd top),#[]⟩
@[reducible]def Gx:=Obj
abbrev adr(ms:List Me):List hA:=3::ms.flatMap λm=>[m.c,m.a]
abbrev Ce(top:Nat->Hq)(g:Gx)(ms:List Me):PySem.W.Frag:=(3,g)::ms.flatMap λm=>[(m.c,m.cr),(m.a,m.fo top)]
def pO(top:Nat->Hq)(g:Gx)(ms:List Me):adr ms=(Ce top g ms).map (·.1):=by
 unfold adr Ce;rw[kT,List.map_flatMap];rfl
abbrev yg(v:Option (Option eh))(a:hA):Bool:=match v with|some (a5 (.ref b))=>et (b=a)|_=>cb
def vE(h:yg v a=b5):v=a5 (a5 (.ref a)):=by
 unfold yg at h;split at h
 .rw[Rc h]
 .cases h
abbrev nn(o:Option (Option eh)):Bool:=match o with|some b6=>b5|_=>cb
def zG(h:nn o=b5):o=a5 b6:=by
 unfold nn at h;split at h
 .rfl
 .cases h
abbrev zH(p:Arguments)(a:List Str):Bool:=p.posonlyargs.isEmpty&&p.vararg.isNone&&p.kwonlyargs.isEmpty&&p.kw_defaults.isEmpty&&p.kwarg.isNone&&p.defaults.isEmpty&&et (p.args.map (·.arg)=a)
abbrev J9(N:List Str)(b:Nat)(a:Gn):Bool:=et (a.kind=.function)&&et (a.isCoroutine=cb)&&et (a.isGenerator=cb)&&decide N.Nodup&&(N.take b).all (mj a)&&a.names.all (λy=>et (y.2≠.free))
abbrev J_(ck:Ck)(top:Nat->Hq)(K:PySem.W.Frag)(m:Me):Bool:=PySem.W.codeIn K (.ref m.c) m.fn.name&&PySem.W.keepIn K (.ref m.a)&&yg (PySem.W.nsIn K w' m.fn.name) m.a&&zH (dN (top m.i)) (m.N.take m.fn.np) &&
 J9 m.N m.fn.np (aA (top m.i))&&et (m.N.length=m.fn.ns)&&et (m.fn.np<=m.fn.ns)&&cp ck m.fn.body m.N (aA (top m.i)) (bT (top m.i))
abbrev J'(K:PySem.W.Frag)(p:Str×U):Bool:=match p.2,PySem.W.nsIn K w' p.1 with
 |.int i,a5 (a5 (.int j _))=>et (i=j)
 |.str i,a5 (a5 (.str j _))=>et (i=j)
 |_,_=>cb
abbrev D_(ck:Ck)(top:Nat->Hq)(K:PySem.W.Frag)(ms:List Me):Bool:=ms.all (J_ ck top K)&&bh.all (λy=>nn (PySem.W.nsIn K w' y))&&ck.gl.all (J' K)&&et (K.map (·.1)).Nodup
def zI{K:PySem.W.Frag}(b:(K.map (·.1)).Nodup)(h:(a,o)∈K):K.lookup a=a5 o:=by
 induction K with
 |nil=>cases h
 |cons p K c =>
  rw[kT,CZ]at b;rw[oT];rcases fx.mp h with rfl|h
  .simp
  .have:(a==p.1)=cb:=by
    rw[beq_eq_false_iff_ne];rintro rfl;show b.1 (lg.mpr ⟨_,h,rfl⟩)
   rw[this];show c b.2 h
section
def wb(c:D_ ck top (Ce top g ms) ms=b5)(h:m∈ms):Ej (Ce top g ms) m.fn.name m.fn.name (top m.i) m.a (m.fd top)/\PySem.W.nsIn (Ce top g ms) w' m.fn.name=a5 (a5 (.ref m.a)) /\
  (∀us:List eh,us.length=(m.N.take m.fn.np).length->QX (m.fd top) ⟨us,[]⟩=pure ((m.N.take m.fn.np).zip us))/\cQ m.N (m.N.take m.fn.np) (aA (top m.i))/\m.N.length=m.fn.ns/\(m.N.take m.fn.np).length=m.fn.np/\cp ck m.fn.body m.N (aA (top m.i)) (bT (top m.i))=b5:=by
 simp only[D_,dV,Q6]at c;have z:=va.mp c.1.1.1 m h;simp only[J_,dV,Q6]at z;obtain⟨⟨⟨⟨⟨⟨⟨j,k⟩,l⟩,b⟩,d⟩,n⟩,u⟩,o⟩:=z;simp only[J9,dV,Q6]at d;obtain⟨⟨⟨⟨⟨s1,s2⟩,s3⟩,s4⟩,p⟩,q⟩:=d;have r:(Ce top g ms).lookup m.a=a5 (m.fo top):=zI c.2 (fx.mpr (.inr (List.mem_flatMap.mpr ⟨m,h,by simp⟩)));have hl:(m.N.take m.fn.np).length=m.fn.np:=by rw[rr];lia
 show⟨xg r j k,vE l,λus f=>?_,⟨s1,s2,s3,s4,by rw[hl],λx s=>?_,λy t=>?_⟩,n,hl,o⟩
 .unfold Me.fd;revert b;cases dN (top m.i) with
  |mk v as w A B C D =>
   intro b;simp only[zH,dV,F2,NO,Q6]at b;obtain⟨⟨⟨⟨⟨⟨rfl,rfl⟩,rfl⟩,rfl⟩,rfl⟩,rfl⟩,e⟩:=b;rw[<-e]at f ⊢;show td (by rw[e];show(O' _ _).nodup s4) f
 .have:=va.mp p x s;simpa[mj] using this
 .have:=va.mp q y t;simpa using this
def zJ(i:D_ ck top (Ce top g ms) ms=b5)(X:(Ce top g ms).In h)(G:h.Ns w' mg)(j:m∈ms):Ld ck (Ce top g ms) mg m.fn :=
 let ⟨a,b,c,d,e,f,k⟩:=wb i j
 ⟨_,_,_,_,_,_,a,PySem.W.mg_of X G b,.all c,d,e,f,k⟩
def yh(d:D_ ck top (Ce top g ms) ms=b5)(X:(Ce top g ms).In h)(G:h.Ns w' mg):∀p∈ck.gl,∃a v,mg p.1=a5 a/\RelV v a/\∀(C:Ct) S H,Rep C S H p.2 v:=by
 intro p e;simp only[D_,dV,Q6]at d;have z:=va.mp d.1.2 p e;unfold J' at z;split at z
 .rename_i i j k b c;obtain rfl:=Rc z;show⟨_,.int i,PySem.W.mg_of X G c,⟨_,rfl⟩,λ_ _ _=>by rw[b];rfl⟩
 .rename_i i j k b c;obtain rfl:=Rc z;show⟨_,.str i,PySem.W.mg_of X G c,⟨_,rfl⟩,λ_ _ _=>by rw[b];rfl⟩
 .cases z
end
def walk{l:PySem.W.OpenLaw}{K:O4->PySem.W.Frag}
  (D:l.most=a5 63) (I:d.params.defaults=[]) (J:ef (dp+1) MF) (L:∀(w:y1) (h:DW),O w h->(K w.params).In h)
  (o:(Pg.map (·.name)).Nodup) (r:ck.fns=Pg.map (·.name)) (Q:fn∈Pg) (C7:fn.name=d.name)
  (F:∀(w:y1) (mg:Str->Option eh) (fa:hA) (h:DW),(K w.params).In h->h.Ns w' mg->mg d.name=a5 (.ref fa) ->
   (∀y∈bh,mg y=b6)/\(∀p∈ck.gl,∃e v,mg p.1=a5 e/\RelV v e/\∀(C:Ct) S H,Rep C S H p.2 v)/\(∀g∈Pg,Ld ck (K w.params) mg g) /\
   ∃(c:Str) (st:Hq) (j:LV) (N:List Str),Ej (K w.params) fn.name c st fa j/\cQ N [x] (aA st)/\N.length=fn.ns/\1=fn.np/\cp ck fn.body N (aA st) (bT st)=b5/\∀(s:gs) (u:eh),O6 s j ⟨[u],[]⟩ [(x,u)])
  (T:∀ns:List Int,ns.length<=63->Be Pg (dp+1) fn.name [nX ns]=a5 (.ok (.loc,.bl b5))) :
  PySem.W.WalkO q m XP O l.row.toRowW d [] (λf Y=>PySem.call f Y) :=
 L2.uA (n:=63) (k:=dp+1) (x:=x) (CX:=λ_=>DQ) (sp:=λw=>spT l.prog w (K w.params) (bf (Be Pg dp) fn) fn.np) D (by decide) I J L
  (λw mg fa h KX G FE=>by
   have⟨i,A,ld,c,st,j,N,F1,S,hN,Dg,hc,hb⟩:=F w mg fa h KX G FE;show⟨j,hb,λbase _ _=>wa F1 S hN Dg hc i (λg B=>?_) A⟩;rw[r]at B;have⟨Jc,h1,rfl⟩:=lg.mp B;show vD o r i A ld dp Jc h1)
  (λw H a ns hl _ hS=>by
   have t:=T ns hl;rw[s9 o Q]at t;have Mi:fn.np=1:=(kU t).1.symm;show⟨Mi.symm,[nX ns],.loc,.bl b5,CH H,t,.inr (.inl rfl),λ_ z=>z,⟨_,_,rfl,nY hS,rfl⟩,λv H' S' b=>b.loc rfl⟩)
  λ_ _ _ _ _ z=>z
def walk2{l:PySem.W.OpenLaw}{g:O4->Obj}
  (v:l.most=a5 63) (z:d.params.defaults=[]) (A:ef (dp+1) MF) (o:ms.map (·.fn)=Pg) (B:(Pg.map (·.name)).Nodup) (C:ck.fns=Pg.map (·.name)) (p:m∈ms) (r:m.fn.name=d.name) (D:m.N.take m.fn.np=[x])
  (ok:∀P,D_ ck top (Ce top (g P) ms) ms=b5) (T:∀ns:List Int,ns.length<=63->Be Pg (dp+1) m.fn.name [nX ns]=a5 (.ok (.loc,.bl b5))) :
  PySem.W.WalkO q j J (PySem.W.kHook (λP=>Ce top (g P) ms) (adr ms) λP=>pO top (g P) ms).says l.row.toRowW d [] (λf H=>PySem.call f H) :=
 walk v z A (λw h Y=>PySem.W.kIn_of Y) B C (o▸lg.mpr ⟨m,p,rfl⟩) r (λw mg fa h X G t=>by
  have hk:=ok w.params;have⟨a,b,c,e,f,k,n⟩:=wb hk p;rw[<-r,PySem.W.mg_of X G b]at t;cases t;rw[D]at c e k;show⟨λy i=>PySem.W.mg_none_of X G (zG ?_),yh hk X G,λy i=>?_,_,_,_,_,a,e,f,k,n,λs u=>.of_eq (c [u] rfl)⟩
  .simp only[D_,dV]at hk;show va.mp hk.1.1.2 y i
  .rw[<-o]at i;have⟨L,I,rfl⟩:=lg.mp i;show zJ hk X G I) T
abbrev co(n:Str)(k l c:Nat)(r s:hA)(x y z:eh)(a b t:Nat):Obj:=⟨.type "code",b6,.fields #[.str n k,.str n (k+1),.str "/claim/cut.py" (k+2),.int l 0,.int c 0,.int 0 0,.int 0 0,.int 3 0,.ref r,.bool b5,.int t 0,.ref s,.none,x,y,z,.int a 0,.int l 0,.str "/claim/cut.py" b],#[]⟩
abbrev ge(P:O4)(x:Str)(k:Nat)(v:eh):DictEntry:=⟨PyData.keyHash P x,.str x k,v⟩
end TM
namespace A3
open PySem L2
abbrev aJ(l:List Nat):Prop:=cj l=b5\/∃a b k,l=a++47::b/\cj a=b5/\2<=k/\k<=99/\(cC k).cps.toList=b
def len_list(x:Str):x.length=x.cps.toList.length:=by simp[LL]
def fW(a:0<=k)(b:k<=99):(cC k).length<=2:=by
 have⟨m,rfl⟩:=K_ a;have c:m<100:=by lia
 clear a b;revert m;decide +kernel
def aJ.len(h:aJ l):1<=l.length/\l.length<=11:=by
 rcases h with h|⟨a,b,k,rfl,h,e,c,d⟩
 .have:=(aN l).mp h;lia
 .have:=(aN a).mp h;have hl:=fW (k:=k) ⋯ c;rw[len_list,d]at hl;simp;lia
def aJ.AA(h:aJ x.cps.toList):∃y r,DX x vW=y::r/\cj y.cps.toList=b5:=by
 rcases h with h|⟨a,b,k,e,h,_⟩
 .show⟨x,[],mY (eY h),h⟩
 .have⟨r,c⟩:=rE e (eY h) (by decide);show⟨_,r,c,by simpa using h⟩
theorem de:∀(b:List Str) (a:Array Nat),(b.foldl (λa p=>a++EA.cps++p.cps) a).toList=a.toList++(b.map λp=>p.cps.toList).flatten
 |[],a=>by simp
 |p::b,a=>by
  rw[GA,de b];have:EA.cps=#[]:=rfl;simp[this]
def join_list(ts:List Str):(AV EA ts).cps.toList=(ts.map λp=>p.cps.toList).flatten:=by
 cases ts with
 |nil=>rfl
 |cons t ts =>
  change(ts.foldl (λa p=>a++EA.cps++p.cps) t.cps).toList=_;rw[de];simp
abbrev one(c:Nat):Str:=⟨#[c]⟩
def join_ones(a:List Nat):(AV EA (a.map one)).cps.toList=a:=by
 rw[join_list,nt];induction a with
 |nil=>rfl
 |cons c a b=>rw[kT,FJ,b];rfl
def mC(a:List Nat)(h:a.length<=100):Kn EA (a.map one)=b5:=by
 unfold Kn;have e:=PySem.StrLaws.joinTotal EA (a.map one);have b:EA.length=0:=rfl;have es:((a.map one).map (·.length)).sum=a.length:=by
  rw[nt];clear h e;induction a with
  |nil=>rfl
  |cons c a d=>rw[kT,P9,d];change 1+a.length=a.length+1;lia
 rw[e,b,es];have f:a.length+(a.map one).length * 0<=100:=by lia
 revert f;generalize a.length+(a.map one).length * 0=m;revert m;decide
def yi(x:Str)(j:Nat):(PySem.StrLaws.sliceText x b6 (a5 (j:Int))).cps.toList=x.cps.toList.take j:=by
 by_cases h:j<=x.cps.toList.length
 .rw[PySem.StrLaws.sliceText_to (x:=x) ⟨⋯,⋯⟩];simp
 .have e:PySem.StrLaws.sliceText x b6 (a5 (j:Int))=PySem.StrLaws.sliceText x b6 (a5 (x.length:Int)):=by
   unfold PySem.StrLaws.sliceText;have hl:=len_list x;have:PySem.Builtin.Str.strSliceIndices b6 (a5 (j:Int)) 1 x.length=PySem.Builtin.Str.strSliceIndices b6 (a5 (x.length:Int)) 1 x.length:=by
    have a:¬((j:Int)<0):=by lia
    have b:¬((x.length:Int)<0):=by lia
    have c:min (j:Int) (x.length:Int)=x.length:=by lia
    simp[PySem.Builtin.Str.strSliceIndices,a,b,c]
   rw[this]
  have hl:=len_list x;rw[e,PySem.StrLaws.sliceText_to (x:=x) ⟨⋯,⋯⟩,List.drop_zero,Em (l:=x.cps.toList) (i:=j) ⋯];change(x.cps.toList.take ((x.length:Int) - 0).toNat).toArray.toList=_;rw[Em ⋯]
def qL(d:cj a=b5)(e:∀c∈b,low c=b5):cj ((a++b).take 8)=b5:=by
 have h:=(aN a).mp d;show(aN _).mpr ⟨by simp;lia,by simp;lia,λc f=>?_⟩;have g:=Jl f;rcases oa.mp g with m|m
 .show h.2.2 c m
 .have:=e c m;simp[low]at this;lia
def gv(a:∀c∈b,low c=b5)(d:1<=b.length)(e:b.length<=8):cj b=b5 :=
 (aN b).mpr ⟨d,e,λc f=>by have:=a c f;simp[low]at this;lia⟩
abbrev small:Str:="abcdefghijklmnopqrstuvwxyz"
def nZ:small.cps.toList=(hQ 26).map (97+·):=by decide +kernel
def iH(a:0<=k)(b:k<26):AX small.cps.toList k=a5 (97+k.toNat):=by
 have⟨j,rfl⟩:=K_ a;show bS ?_;rw[nZ,nc,OK ⋯];rfl
def n9(h:j<26):low (97+j)=b5:=by simp[low];lia
abbrev jK(k:Nat):Str:=⟨#[97+k / 26,97+k % 26]⟩
def n_(h:k<40):cj (jK k).cps.toList=b5:=by
 show gv (λc a=>?_) (by change 1<=2;decide) (by change 2<=8;decide);have b:c=97+k / 26\/c=97+k % 26:=by simpa[jK] using a
 rcases b with rfl|rfl
 .show n9 ⋯
 .show n9 ⋯
theorem iI [DecidableEq α]:∀{l m:List α},l.Nodup->(∀x∈l,x∈m)->l.length<=m.length
 |[],_,_,_=>pb _
 |x::l,m,c,h=>by
  have⟨d,e⟩:=CZ.mp c;have a:=h x gm;have f:=iI (l:=l) (m:=m.erase x) e λy b=>(Oy (by rintro rfl;show d b)).mpr (h y (eu _ b));rw[N3 a]at f;have:0<m.length:=Og a;rw[k4];lia
abbrev ba:List Str:=(hQ 40).map jK
def kW:ba.Nodup:=by
 decide +kernel
def og(names:List Str)(h:names.length<40):∃x∈ba,x∉names:=by
 apply EJ;intro a;have:∀x∈ba,x∈names:=λx b=>EJ λc=>a ⟨x,b,c⟩;have:=iI kW this;simp[ba]at this;lia
end A3
namespace TM
open PySem L2
section
abbrev Run(m:M α)(st:aq)(a:α)(st':aq):Prop:=m st=a5 (.ok a,st')
def aa(c:Run m st a st1)(d:Run (f a) st1 b st2):Run (m >>= f) st b st2:=by
 change M.bind m f st=_;unfold M.bind;rw[show m st=_ from c];show d
def aY:Run (pure a:M α) st a st:=rfl
def cL(h:o=a5 a):Run (M.AZ o) st a st:=by subst h;rfl
def aH(h:aS rs st):Run (ao rs) st () st:=by change ao rs st=_;unfold ao;rw[Q8 h]
abbrev kv(i:Nat)(k:Kd):Kd:=if k.root=b5 then .bor i else k
def mD(h:st[i]?=a5 (a5 (k,u)))(hk:k≠.AK:=by intro z;cases z):Run (eJ i) st (kv i k,u) st:=by
 change eJ i st=_;unfold eJ;rw[h];cases k<;>first|rfl|show absurd rfl hk
def aj(h:st[i]?=a5 (a5 (.loc,u))):Run (ev Γ (.var i)) st (.loc,u) st:=mD h
def dG(h:st[i]?=a5 (a5 (.any,u))):Run (ev Γ (.var i)) st (.any,u) st:=mD h
def cy(h:st[i]?=a5 (a5 (.own,u))):Run (ev Γ (.var i)) st (.bor i,u) st:=mD h
def aB:Run (ev Γ (.cst u)) st (.loc,u) st:=rfl
def gw:Run (ev Γ (.BW x u)) st (.loc,u) st:=rfl
def cq(c:Run (ev Γ a) st x st1)(d:Run (ev Γ b) st1 y st2)(e:aS [x,y] st2)(f:B7 op x y=a5 r):Run (ev Γ (.bin op a b)) st r st2 :=
 aa c (aa d (aa (aH e) (cL f)))
def gx(d:Run (ev Γ a) st x st1)(e:Run (ev Γ b) st1 y st2)(f:aS [x,y] st2)(g:bo op x.2 y.2=a5 c):Run (ev Γ (.cmp op a b)) st (.loc,.bl c) st2 :=
 aa d (aa e (aa (aH f) (aa (cL g) aY)))
def dg(c:Run (ev Γ a) st x st1)(d:Run (ev Γ b) st1 y st2)(e:aS [x,y] st2)(f:ft x y.2=a5 r):Run (ev Γ (.idx a b)) st r st2 :=
 aa c (aa d (aa (aH e) (cL f)))
def wc:Run (EF Γ []) st b6 st:=rfl
def wd(h:Run (ev Γ e) st (k,.int i) st1):Run (EF Γ [e]) st (a5 i) st1:=aa h rfl
def we(b:Run (ev Γ a) st x st1)(c:Run (EF Γ lo) st1 l st2)(d:Run (EF Γ e) st2 h st3)(f:aS [x] st3)(g:l8 x l h=a5 r):Run (ev Γ (.Dv a lo e)) st r st3 :=
 aa b (aa c (aa d (aa (aH f) (cL g))))
def ah:Run (bc Γ []) st [] st:=rfl
def ae(a:Run (ev Γ e) st r st1)(b:Run (bc Γ es) st1 rs st2):Run (bc Γ (e::es)) st (r::rs) st2:=aa a (aa b aY)
def cz(a:Run (bc Γ es) st rs st1)(b:aS rs st1)(c:Bt f rs=a5 r):Run (ev Γ (.bi f es)) st r st1:=aa a (aa (aH b) (cL c))
def wg(a:Run (bc Γ es) st rs st1)(b:aS rs st1)(c:nF f rs=a5 r):Run (ev Γ (.Dw f es)) st r st1:=aa a (aa (aH b) (cL c))
def d7(b:Run (ev Γ a) st x st1)(c:Run (bc Γ es) st1 rs st2)(d:aS (x::rs) st2)(e:dy m x.2 rs=a5 r):Run (ev Γ (.BB m a es)) st r st2:=aa b (aa c (aa (aH d) (cL e)))
def pP(h:Γ f us=a5 (.ok r))(a:isAny r.1=cb):Run (ip Γ f us) st r st:=by
 have⟨k,u⟩:=r;change ip Γ f us st=_;unfold ip;rw[h];cases k<;>first|rfl|cases a
def aM(a:Run (bc Γ es) st rs st1)(b:aS rs st1)(c:Γ f (rs.map (·.2))=a5 (.ok r))(d:isAny r.1=cb:=by show rfl):Run (ev Γ (.call f es)) st r st1:=aa a (aa (aH b) (pP c d))
def fA(a:Run (bc Γ es) st rs st1)(b:aS rs st1)(c:Run (bV rs) st1 us st2)(d:us.length<=df):Run (ev Γ (.tup es)) st (.loc,.tup us) st2:=by
 show aa a (aa (aH b) (aa c ?_));rw[Q8 d];show aY
def gy(a:Run (bc Γ es) st rs st1)(b:aS rs st1)(c:Run (bV rs) st1 us st2)(d:us.length<=df):Run (ev Γ (.lst es)) st (.own,.lst us) st2:=by
 show aa a (aa (aH b) (aa c ?_));rw[Q8 d];show aY
def yj:Run (ev Γ (.Cw r)) st (.own,if r=b5 then .Bc [] else .Bo [] []) st:=rfl
def bu:Run (lift (.loc,u)) st u st:=rfl
def wj(h:A9 u=b5):Run (lift (.any,u)) st u st:=by
 change(if A9 u=b5 then(pure u:M U) else M.fail) st=_;rw[Q8 h];rfl
def bx:Run (bV []) st [] st:=rfl
def bZ(a:Run (lift r) st u st1)(b:Run (bV rs) st1 us st2):Run (bV (r::rs)) st (u::us) st2:=aa a (aa b aY)
def kX(h:Run (ev Γ e) st r st1):Run (iq Γ [e]) st r st1:=h
def kY(h:Run (ev Γ e) st (k,.bl p) st1)(a:if p=b5 then Run (iq Γ (b::es)) st1 r st2 else st2=st1/\r=(.loc,.bl cb)):Run (iq Γ (e::b::es)) st r st2:=by
 show aa h ?_;cases p with
 |true=>show a
 |false=>have⟨rfl,rfl⟩:=a;show aY
def pQ(h:Run (iq Γ es) st r st1):Run (ev Γ (.and es)) st r st1:=h
def bW(d:Run (ev Γ a) st x st1)(e:Run (ev Γ b) st1 y st2)(f:aS [x,y] st2)(g:bo op x.2 y.2=a5 c):Run (A1 Γ (.cmp op a b)) st c st2:=aa d (aa e (aa (aH f) (cL g)))
def pR(h:Run (A1 Γ a) st c st1):Run (A1 Γ (.not a)) st (!c) st1:=aa h aY
def tf(h:Run (aG Γ es) st c st1):Run (A1 Γ (.and es)) st c st1:=h
def vF(h:Run (gp Γ es) st c st1):Run (A1 Γ (.or es)) st c st1:=h
def fB:Run (aG Γ []) st b5 st:=rfl
def oh(h:Run (A1 Γ e) st c st1):Run (aG Γ [e]) st c st1:=h
def tm(h:Run (A1 Γ e) st b5 st1)(a:Run (aG Γ (b::es)) st1 c st2):Run (aG Γ (e::b::es)) st c st2:=aa h a
def yk(h:Run (A1 Γ e) st cb st1):Run (aG Γ (e::a::es)) st cb st1:=aa h aY
def pS(h:Run (A1 Γ e) st c st1):Run (gp Γ [e]) st c st1:=h
def mE(h:Run (A1 Γ e) st cb st1)(a:Run (gp Γ (b::es)) st1 c st2):Run (gp Γ (e::b::es)) st c st2:=aa h a
def d8:Run (di i (.own,u)) st () (st.set i (a5 (.own,u))):=rfl
def aV:Run (di i (.loc,u)) st () (st.set i (a5 (.loc,u))):=rfl
def mF:Run (di i (.any,u)) st () (st.set i (a5 (.any,u))):=rfl
def zK(a:Run (ev Γ e) st r st1)(b:Run (di i r) st1 () st2):Run (exec Γ (.set i e)) st .nx st2:=aa a (aa b aY)
def zL(b:∃k' us',st[i]?=a5 (a5 (k',.lst us'))/\k'≠.AK)(c:Run (ev Γ e) st r st1)(d:Run (lift r) st1 u st2)(f:st2[i]?=a5 (a5 (k,.lst us)))(hk:k.root=b5)(hl:us.length<df):
  Run (exec Γ (.app i e)) st .nx (st2.set i (a5 (k,.lst (us++[u])))):=by
 have⟨k',us',b,g⟩:=b;show aa (mD b g) (aa (a:=()) (st1:=st) rfl (aa c (aa d (aa (a:=()) ?_ aY))));change modS i (sj u) st2=_;unfold modS;rw[f];simp only[hk,if_true];have e:sj u (.lst us)=a5 (.lst (us++[u])):=by change(if us.length<df then _ else _)=_;rw[Q8 hl]
 rw[e]
def zM(a:Run (ev Γ e) st r st1)(b:Run (retS r) st1 f st2):Run (exec Γ (.ret e)) st f st2:=aa a b
def bA:Run (retS (.loc,u)) st (.rt .loc u) st:=rfl
def wm(h:A9 u=b5):Run (retS (.any,u)) st (.rt .loc u) st:=by
 change(if A9 u=b5 then(pure (Fl.rt .loc u):M Fl) else pure (.rt .any u)) st=_;rw[Q8 h];rfl
def wo(h:st[j]?=a5 (a5 (.own,u))):Run (retS (.bor j,a)) st (.rt .own u) (st.set j b6):=by
 change(match st[j]? with|some (a5 (.own,u))=>a5 (Ex.ok (Fl.rt .own u),st.set j b6)|_=>b6)=_;rw[h]
def kZ(d:Run (A1 Γ c) st b5 st1)(e:Run (execs Γ a) st1 f st2):Run (exec Γ (.ite c a b)) st f st2:=aa d e
def oi(d:Run (A1 Γ c) st cb st1)(e:Run (execs Γ b) st1 f st2):Run (exec Γ (.ite c a b)) st f st2:=aa d e
def a9:Run (execs Γ []) st .nx st:=rfl
def jn(a:Run (exec Γ s) st .nx st1)(b:Run (execs Γ ss) st1 f st2):Run (execs Γ (s::ss)) st f st2:=aa a b
def vG(a:Run (exec Γ s) st (.rt k u) st1):Run (execs Γ (s::ss)) st (.rt k u) st1:=aa a aY
def aR(a:Run (ev Γ e) st r st1)(b:Run (di i r) st1 () st2)(c:Run (execs Γ ss) st2 f st3):Run (execs Γ (.set i e::ss)) st f st3:=jn (zK a b) c
def pT(a:st[i]?=a5 (a5 (k',.lst us')))(b:Run (ev Γ e) st r st1)(c:Run (lift r) st1 u st2)(d:st2[i]?=a5 (a5 (k,.lst us)))(hk:k.root=b5)(hl:us.length<df)
  (g:Run (execs Γ ss) (st2.set i (a5 (k,.lst (us++[u])))) f st3) (h:k'≠.AK:=by intro z;cases z):Run (execs Γ (.app i e::ss)) st f st3:=jn (zL ⟨_,_,a,h⟩ b c d hk hl) g
def bw(a:Run (ev Γ e) st r st1)(b:Run (retS r) st1 (.rt k u) st2):Run (execs Γ (.ret e::ss)) st (.rt k u) st2:=vG (zM a b)
def dH(d:Run (A1 Γ c) st b5 st1)(e:Run (execs Γ a) st1 .nx st2)(g:Run (execs Γ ss) st2 f st3):Run (execs Γ (.ite c a b::ss)) st f st3:=jn (kZ d e) g
def bQ(d:Run (A1 Γ c) st cb st1)(e:Run (execs Γ b) st1 .nx st2)(g:Run (execs Γ ss) st2 f st3):Run (execs Γ (.ite c a b::ss)) st f st3:=jn (oi d e) g
def iJ(d:Run (A1 Γ c) st b5 st1)(e:Run (execs Γ a) st1 (.rt k u) st2):Run (execs Γ (.ite c a b::ss)) st (.rt k u) st2:=vG (kZ d e)
def zN(a:Run (bc Γ src) st rs st1)(b:aS rs st1)(c:BP d rs=a5 xs)(e:o_ rs is body=b5)(g:Run (forM t is (execs Γ body) rs xs) st1 f st2):
  Run (exec Γ (.Bs t is d src body)) st f st2:=by
 show aa a (aa (aH b) (aa (cL c) ?_));rw[Q8 e];show g
def jL(a:Run (bc Γ src) st rs st1)(b:aS rs st1)(c:BP d rs=a5 xs)(e:o_ rs is body=b5)(g:Run (forM t is (execs Γ body) rs xs) st1 .nx st2)(h:Run (execs Γ ss) st2 f st3):
  Run (execs Γ (.Bs t is d src body::ss)) st f st3:=jn (zN a b c e g) h
def wq(h:aS rs st):Run (forM t is body rs []) st .nx st:=aa (aH h) aY
def zO(h:aS rs st)(a:Run (dk t is x) st () st1)(b:Run body st1 .nx st2)(c:Run (forM t is body rs xs) st2 f st3):Run (forM t is body rs (x::xs)) st f st3:=aa (aH h) (aa a (aa b c))
theorem mG(I:List (Kd×U)->aq->Prop)(hs:∀xs st,I xs st->aS rs st)(Pw:∀x xs st,I (x::xs) st->∃st1 st2,Run (dk t is x) st () st1/\Run body st1 .nx st2/\I xs st2):
  ∀(xs:List (Kd×U)) (st:aq),I xs st->∃st',Run (forM t is body rs xs) st .nx st'/\I [] st'
 |[],st,h=>⟨st,wq (hs _ _ h),h⟩
 |x::xs,st,h=>by
  have⟨s1,s2,a,b,c⟩:=Pw x xs st h;have⟨s3,d,e⟩:=mG I hs Pw xs s2 c;show⟨s3,zO (hs _ _ h) a b d,e⟩
def oj(h:Run (di i r) st () st1):Run (dk cb [i] r) st () st1:=h
def ar(a:us.length=fn.np)(hk:k=.own\/k=.loc)(hs:start us fn.ns=st0)(h:Run (execs Γ fn.body) st0 (.rt k u) st):bf Γ fn us=a5 (.ok (k,u)):=by
 subst hs;unfold bf;rw[Q8 a,show execs Γ fn.body (start us fn.ns)=_ from h];rcases hk with rfl|rfl<;>rfl
def tp{cond:M Bool}(h:aS src st):Run (aZ k t cond elt src [] a) st a st:=aa (aH h) aY
def om{cond:M Bool}(h:aS src st)(d:Run (dk t (hQ k) x) (g5 k b6++st) () s1)(e:Run cond s1 b5 s2)(g:Run elt s2 r s3)(i:Run (lift r) s3 u s4)
  (hl:c.length<df) (j:Run (aZ k t cond elt src xs (c++[u])) (s4.drop k) us st2):Run (aZ k t cond elt src (x::xs) c) st us st2:=by
 show aa (aH h) (aa (a:=a5 u) (st1:=s4.drop k) ?_ ?_)
 .change inScope k _ st=_;unfold inScope;have hh:Run (dk t (hQ k) x >>= λ_=>cond >>= λb=>if b=b5 then(elt >>= λr=>lift r >>= λu=>pure (a5 u)) else pure b6) (g5 k b6++st) (a5 u) s4 :=
   aa d (aa e (show Run (elt >>= λr=>lift r >>= λu=>pure (a5 u)) s2 (a5 u) s4 from aa g (aa (f:=λu=>pure (a5 u)) i rfl)))
  rw[show _=_ from hh]
 .change Run (if c.length<df then aZ k t cond elt src xs (c++[u]) else M.fail) _ _ _;rw[Q8 hl];show j
def yl{cond:M Bool}(h:aS src st)(d:Run (dk t (hQ k) x) (g5 k b6++st) () s1)(e:Run cond s1 cb s2)
  (f:Run (aZ k t cond elt src xs c) (s2.drop k) us st2):Run (aZ k t cond elt src (x::xs) c) st us st2:=by
 show aa (aH h) (aa (a:=b6) (st1:=s2.drop k) ?_ f);change inScope k _ st=_;unfold inScope;have hh:Run (dk t (hQ k) x >>= λ_=>cond >>= λb=>if b=b5 then(elt >>= λr=>lift r >>= λu=>pure (a5 u)) else pure b6) (g5 k b6++st) b6 s2 :=
  aa d (aa e (show Run (pure b6:M (Option U)) s2 b6 s2 from rfl))
 rw[show _=_ from hh]
def cA{src cond:List E}(a:Run (bc Γ src) st rs st1)(b:aS rs st1)(c:BP d rs=a5 xs)(f:Run (aZ k t (aG Γ cond) (ev Γ e) rs xs []) st1 us st2):Run (ev Γ (.comp k t d src cond e)) st (.own,.lst us) st2 :=
 aa a (aa (aH b) (aa (cL c) (aa f aY)))
theorem tq{cond:M Bool}(h:aS src st)(g:Kd×U->U)(b:Kd×U->Kd):∀(xs:List (Kd×U)) (a:List U),a.length+xs.length<=df ->
  (∀x∈xs,x.1=.loc\/x.1=.any)->(∀x∈xs,Run cond (a5 x::st) b5 (a5 x::st)/\Run elt (a5 x::st) (b x,g x) (a5 x::st)/\Run (lift (b x,g x)) (a5 x::st) (g x) (a5 x::st))->Run (aZ 1 cb cond elt src xs a) st (a++xs.map g) st
 |[],a,_,_,_=>by rw[JT,DY];show tp h
 |x::xs,a,hl,hk,d=>by
  have⟨e,f,i⟩:=d x (by simp);rw[k4]at hl;show om (s1:=a5 x::st) (s2:=a5 x::st) (s3:=a5 x::st) (s4:=a5 x::st) h ?_ e f i ⋯ ?_
  .have⟨k,u⟩:=x;rcases hk _ (gm ..) with z|z<;>(cases z;rfl)
  .have:=tq h g b xs (a++[g x]) (by simp;lia) (λy c=>hk y (by simp[c])) λy c=>d y (by simp[c]);rw[kT];simpa using this
theorem iK{cond:M Bool}(h:aS src st)(p:Kd×U->Bool)(g:Kd×U->U)(c:Kd×U->Kd):∀(xs:List (Kd×U)) (a:List U),a.length+xs.length<=df ->
  (∀x∈xs,x.1=.loc\/x.1=.any)->(∀x∈xs,Run cond (a5 x::st) (p x) (a5 x::st)/\Run elt (a5 x::st) (c x,g x) (a5 x::st)/\Run (lift (c x,g x)) (a5 x::st) (g x) (a5 x::st))->Run (aZ 1 cb cond elt src xs a) st (a++(xs.filter p).map g) st
 |[],a,_,_,_=>by rw[List.filter_nil,JT,DY];show tp h
 |x::xs,a,hl,hk,f=>by
  have⟨d,j,l⟩:=f x (by simp);rw[k4]at hl;have i:Run (dk cb (hQ 1) x) (g5 1 b6++st) () (a5 x::st):=by
   have⟨k,u⟩:=x;rcases hk _ (gm ..) with z|z<;>(cases z;rfl)
  cases e:p x with
  |true =>
   rw[e]at d;show om (s1:=a5 x::st) (s2:=a5 x::st) (s3:=a5 x::st) (s4:=a5 x::st) h i d j l ⋯ ?_;have:=iK h p g c xs (a++[g x]) (by simp;lia) (λy b=>hk y (by simp[b])) λy b=>f y (by simp[b]);rw[Pn,Q8 e,kT];simpa using this
  |false =>
   rw[e]at d;show yl (s1:=a5 x::st) (s2:=a5 x::st) h i d ?_;have:=iK h p g c xs a ⋯ (λy b=>hk y (by simp[b])) λy b=>f y (by simp[b]);rw[Pn,Q9 (by simp[e])];show this
end
def bX(h:0<j):B7 .mod (k,.int i) (k',.int j)=a5 (.loc,.int (i % j)):=by change(uT i j).map _=_;rw[uT,Q8 h];rfl
def tu(h:0<j/\j<1073741824):B7 .Cc (k,.int i) (k',.int j)=a5 (.loc,.int (i / j)):=by change(uS i j).map _=_;rw[uS,Q8 h];rfl
def jV(h:(-(2 ^ 64)<i/\i<2 ^ 64)\/(-(2 ^ 64)<j/\j<2 ^ 64)):B7 .mul (k,.int i) (k',.int j)=a5 (.loc,.int (i * j)):=by change(qx i j).map _=_;rw[qx,Q8 h];rfl
def jW(h:0<=j/\j<=1000000/\i.natAbs<2 ^ 64):B7 .pow (k,.int i) (k',.int j)=a5 (.loc,.int (i ^ j.toNat)):=by change(uU i j).map _=_;rw[uU,Q8 h];rfl
def d9:B7 .add (k,.int i) (k',.int j)=a5 (.loc,.int (i+j)):=rfl
def aD(h:AX xs i=a5 u):ft (k,.lst xs) (.int i)=a5 (kE k,u):=by change(AX xs i).map _=_;rw[h];rfl
def mV(h:AX xs i=a5 u):ft (k,.tup xs) (.int i)=a5 (kE k,u):=by change(AX xs i).map _=_;rw[h];rfl
def pU:Kd.own≠Kd.AK:=by decide
local macro_rules
 |`(tactic| sizeOf_list_dec)=>`(tactic| first|exact a9|apply aR|apply pT|apply bw|exact aB|exact aj rfl|exact dG rfl|exact cy rfl|apply cq|apply gx|apply dg|apply cz|apply aM|apply d7|apply bW|exact ah|apply ae|apply fA|apply gy|exact bx|apply bZ|exact bu|exact Gj|(first|exact trivial|exact⟨⟨_,rfl,rfl⟩,trivial⟩|exact⟨⟨_,rfl,rfl⟩,⟨_,rfl,rfl⟩,trivial⟩)|exact d9|exact mR|exact bX (by first|lia|decide)|exact tu (by first|lia|decide)|exact jV (by first|lia|decide)|exact jW (by decide)|exact aV|exact d8|exact mF|exact bA|exact Gk|exact wo rfl|exact pb _|exact rfl|exact pU)
abbrev oo(c k:Int):Int:=((c % 10 ^ 15+1) * 48271+k * k * 16807+k * 7919) % 2147483647 * 69621 % 2147483629
abbrev qM:Fn:=⟨"_law_mix",2,3,[.set 2 (.bin .add (.bin .add (.bin .mul (.bin .add (.bin .mod (.var 0) (.bin .pow (.cst (.int 10)) (.cst (.int 15)))) (.cst (.int 1))) (.cst (.int 48271))) (.bin .mul (.bin .mul (.var 1) (.var 1)) (.cst (.int 16807)))) (.bin .mul (.var 1) (.cst (.int 7919)))),.ret (.bin .mod (.bin .mul (.bin .mod (.var 2) (.cst (.int 2147483647))) (.cst (.int 69621))) (.cst (.int 2147483629)))]⟩
def vH(a:0<=k)(b:k<2 ^ 63):bf Γ qM [.int c,.int k]=a5 (.ok (.loc,.int (oo c k))):=by
 apply ar (st0:=[a5 (.loc,.int c),a5 (.loc,.int k),b6]) rfl (.inr rfl) rfl
 repeat' sizeOf_list_dec
abbrev pV:Fn:=⟨"_law_cell",2,3,[.ite (.cmp .lt (.var 1) (.bi .len [.var 0])) [.ret (.idx (.var 0) (.var 1))] [],.set 2 (.cst (.int 0)),.ite (.cmp .gt (.bi .len [.var 0]) (.cst (.int 0))) [.set 2 (.idx (.var 0) (.bin .mod (.var 1) (.bi .len [.var 0])))] [],.ret (.bin .add (.bin .mul (.cst (.int 2)) (.call "_law_mix" [.var 2,.var 1])) (.cst (.int 1)))]⟩
abbrev tv(Γ:Tab):Prop:=∀c k:Int,0<=k->k<2 ^ 63->Γ "_law_mix" [.int c,.int k]=a5 (.ok (.loc,.int (oo c k)))
def mH(h:et (i<j)=c):bo .lt (.int i) (.int j)=a5 c:=by subst h;rfl
def gz(h:et (j<i)=c):bo .gt (.int i) (.int j)=a5 c:=by subst h;rfl
def k5(h:(i==j)=c):bo .eq (.int i) (.int j)=a5 c:=by subst h;rfl
def vI:Bt .len [(k,.lst xs)]=a5 (.loc,.int (xs.length:Nat)):=rfl
def k6:Bt .len [(k,.tup xs)]=a5 (.loc,.int (xs.length:Nat)):=rfl
abbrev wt(ns:List Int)(k:Nat):Int:=if k<ns.length then(ns[k]?).getD 0 else 2 * oo ((ns[k % ns.length]?).getD 0) k+1
def tw(f:tv Γ){k:Nat}(hk:k<2 ^ 62):bf Γ pV [.lst (ns.map .int),.int k]=a5 (.ok (.loc,.int (wt ns k))):=by
 have b:∀c,Γ "_law_mix" [.int c,.int k]=a5 (.ok (.loc,.int (oo c k))):=λc=>f c k ⋯ ⋯;unfold wt;by_cases h:k<ns.length
 .rw[Q8 h];have a:AX (ns.map U.int) (k:Int)=a5 (.int ((ns[k]?).getD 0)):=bS (by simp[h]);apply ar (st0:=[a5 (.any,.lst (ns.map .int)),a5 (.loc,.int k),b6]) rfl (.inr rfl) rfl;apply iJ
  all_goals repeat' (first|show mH (by simp[h])|show aD a|show wm rfl|sizeOf_list_dec)
 .rw[Q9 h];have d:bo .lt (.int k) (.int ((ns.map U.int).length:Nat))=a5 cb:=mH (by simp;lia);by_cases hz:0<ns.length
  .have g:k % ns.length<ns.length:=Kp _ hz;have a:AX (ns.map U.int) ((k:Int) % ((ns.map U.int).length:Nat))=a5 (.int ((ns[k % ns.length]?).getD 0)):=by
    rw[ek,show(k:Int) % (ns.length:Nat)=((k % ns.length:Nat):Int) by lia];show bS (by simp[g])
   have i:(0:Int)<((ns.map U.int).length:Nat):=by simp;lia
   apply ar (st0:=[a5 (.any,.lst (ns.map .int)),a5 (.loc,.int k),b6]) rfl (.inr rfl) rfl;apply bQ
   all_goals repeat' (first|show d|sizeOf_list_dec)
   apply dH
   all_goals repeat' (first|show gz (by simp;lia)|show bX i|show aD a|show b _|sizeOf_list_dec)
  .have e:ns=[]:=Jm ⋯;subst e;apply ar (st0:=[a5 (.any,.lst ([].map .int)),a5 (.loc,.int k),b6]) rfl (.inr rfl) rfl;apply bQ
   all_goals repeat' (first|show d|sizeOf_list_dec)
   apply bQ
   all_goals repeat' (first|show b _|sizeOf_list_dec)
abbrev k7:Fn:=⟨"_law_drawn",2,5,[.set 2 (.lst []),.set 3 (.bin .Cc (.var 0) (.cst (.int 2))),.Bs cb [4] .A2 [.var 1] [.ite (.cmp .eq (.bin .mod (.var 0) (.cst (.int 2))) (.cst (.int 0))) [.app 2 (.bin .mod (.var 3) (.cst (.int 64))),.set 3 (.bin .Cc (.var 3) (.cst (.int 64)))] [.app 2 (.bin .mod (.bin .Cc (.call "_law_mix" [.var 0,.var 4]) (.cst (.int 7))) (.cst (.int 4096)))]],.ret (.var 2)]⟩
def mI(x:Kd×U):BP .A2 [x]=qy x:=rfl
def iL(h:n<2 ^ 62):BP .A2 [(k,.int (n:Nat))]=a5 ((hQ n).map λi:Nat=>(Kd.loc,U.int (0+(i:Int)))):=by
 rw[mI,qy,Q8 ⋯,IB]
abbrev cM(n:Nat)(xs:List (Kd×U)):Prop:=∃i,i<=n/\xs=((hQ n).drop i).map λi:Nat=>(Kd.loc,U.int (0+(i:Int)))
def cM.cons(h:cM n (x::xs)):∃i:Nat,i<n/\x=(.loc,.int (i:Nat))/\cM n xs/\i+xs.length+1=n:=by
 have⟨i,b,e⟩:=h;by_cases a:i<n
 .rw[Kr (by simpa using a),kT]at e;cases e;show⟨i,a,by simp,⟨i+1,a,rfl⟩,by simp;lia⟩
 .rw[List.drop_eq_nil_of_le (by simp;lia)]at e;cases e
def cM.all(n:Nat):cM n ((hQ n).map λi:Nat=>(Kd.loc,U.int (0+(i:Int)))):=⟨0,pb _,rfl⟩
def qN(r:tv Γ)(y:n<1000):∃a:List Int,a.length=n/\(∀d∈a,0<=d)/\bf Γ k7 [.int c,.int n]=a5 (.ok (.own,.lst (a.map .int))):=by
 have hsz:(1000:Nat)<=df:=by decide
 let I:List (Kd×U)->aq->Prop:=λxs st=>∃(a:List Int) (us:List U) (left:Int) (o:Option (Kd×U)),st=[a5 (.loc,.int c),a5 (.loc,.int n),a5 (.own,.lst us),a5 (.loc,.int left),o]/\us=a.map .int/\(∀d∈a,0<=d)/\a.length+xs.length=n/\cM n xs;have b:=mG (t:=cb) (is:=[4]) (body:=execs Γ [.ite (.cmp .eq (.bin .mod (.var 0) (.cst (.int 2))) (.cst (.int 0)))
    [.app 2 (.bin .mod (.var 3) (.cst (.int 64))),
    .set 3 (.bin .Cc (.var 3) (.cst (.int 64)))]
    [.app 2 (.bin .mod (.bin .Cc (.call "_law_mix" [(.var 0),(.var 4)]) (.cst (.int 7))) (.cst (.int 4096)))]]) (rs:=[(.loc,.int n)]) I (λ_ _ _=>trivial) (λx xs st s=>by
  have⟨a,us,left,o,e,f,g,hl,u⟩:=s;subst e;have l:us.length=a.length:=by rw[f];simp
  have⟨i,A,rfl,m,p⟩:=u.cons;have v:Γ "_law_mix" [.int c,.int i]=a5 (.ok (.loc,.int (oo c i))):=r c i ⋯ ⋯;rw[k4]at hl;by_cases q:c % 2=0
  .show⟨[a5 (.loc,.int c),a5 (.loc,.int n),a5 (.own,.lst us),a5 (.loc,.int left),a5 (.loc,.int i)],[a5 (.loc,.int c),a5 (.loc,.int n),a5 (.own,.lst (us++[.int (left % 64)])),a5 (.loc,.int (left / 64)),a5 (.loc,.int i)],aV,?_,⟨a++[left % 64],_,left / 64,_,rfl,by simp[f],?_,by simp;lia,m⟩⟩
   .apply dH
    all_goals repeat' (first|show k5 (by simp[q])|show(by rw[l];lia)|sizeOf_list_dec)
   .intro d h;rcases oa.mp h with z|z
    .show g d z
    .rw[ro.mp z];lia
  .show⟨[a5 (.loc,.int c),a5 (.loc,.int n),a5 (.own,.lst us),a5 (.loc,.int left),a5 (.loc,.int i)],[a5 (.loc,.int c),a5 (.loc,.int n),a5 (.own,.lst (us++[.int (oo c i / 7 % 4096)])),a5 (.loc,.int left),a5 (.loc,.int i)],aV,?_,⟨a++[oo c i / 7 % 4096],_,left,_,rfl,by simp[f],?_,by simp;lia,m⟩⟩
   .apply bQ
    all_goals repeat' (first|show k5 (by simp[q])|show v|show(by rw[l];lia)|sizeOf_list_dec)
   .intro d h;rcases oa.mp h with z|z
    .show g d z
    .rw[ro.mp z];lia)
 obtain⟨st',w,a,us,left,o,e,f,g,hl,_⟩:=b ((hQ n).map λi:Nat=>(Kd.loc,U.int (0+(i:Int)))) [a5 (.loc,.int c),a5 (.loc,.int n),a5 (.own,.lst []),a5 (.loc,.int (c / 2)),b6] ⟨[],[],c / 2,b6,rfl,rfl,by simp,by simp,cM.all n⟩;subst e f;show⟨a,by simpa using hl,g,?_⟩;apply ar (st0:=[a5 (.loc,.int c),a5 (.loc,.int n),b6,b6,b6]) rfl (.inl rfl) rfl
 repeat' sizeOf_list_dec
 have j:=iL (k:=.loc) (n:=n) ⋯;refine' jL (rs:=[(.loc,.int n)]) (st1:=[a5 (.loc,.int c),a5 (.loc,.int n),a5 (.own,.lst []),a5 (.loc,.int (c / 2)),b6]) _ trivial j rfl w _
 all_goals repeat' sizeOf_list_dec
end TM
local macro_rules
 |`(tactic| sizeOf_list_dec)=>`(tactic| first|exact TM.a9|apply TM.aR|apply TM.pT|apply TM.bw|exact TM.aB|exact TM.aj rfl|exact TM.dG rfl|exact TM.cy rfl|apply TM.cq|apply TM.gx|apply TM.dg|apply TM.cz|apply TM.aM|apply TM.d7|apply TM.bW|exact TM.ah|apply TM.ae|apply TM.fA|apply TM.gy|exact TM.bx|apply TM.bZ|exact TM.bu|exact TM.Gj|(first|exact trivial|exact⟨⟨_,rfl,rfl⟩,trivial⟩|exact⟨⟨_,rfl,rfl⟩,⟨_,rfl,rfl⟩,trivial⟩)|exact TM.d9|exact TM.mR|exact TM.bX (by first|lia|decide)|exact TM.tu (by first|lia|decide)|exact TM.jV (by first|lia|decide)|exact TM.jW (by decide)|exact TM.aV|exact TM.d8|exact TM.mF|exact TM.bA|exact TM.Gk|exact TM.wo rfl|exact pb _|exact rfl|exact TM.pU)
namespace TM
open PySem L2 A3
def pW(a:0<=z)(h:z<2 ^ 62):BP .A2 [(k,.int z)]=a5 ((hQ z.toNat).map λi:Nat=>(Kd.loc,U.int (0+(i:Int)))):=by
 rw[mI,qy,Q8 ⋯]
def gV(a:x.length<=df)(h:AX x.cps.toList i=a5 c):ft (k,.str x) (.int i)=a5 (.loc,.str (A3.one c)):=by
 simp only[ft];rw[Q8 a,h];rfl
def iM:small.length<=df:=by decide
def bC{a:List Int}{i:Nat}(h:i<a.length):AX (a.map U.int) (i:Int)=a5 (.int ((a[i]?).getD 0)):=bS (by simp[h])
theorem bR:∀(ss:List Str),strsOf (ss.map U.str)=a5 ss
 |[]=>rfl
 |s::ss=>by change(strsOf (ss.map U.str)).map (s::·)=_;rw[bR ss];rfl
abbrev k8(a:E):Fn:=⟨"_law_name",2,6,[.set 2 (.cst (.str "abcdefghijklmnopqrstuvwxyz")),.set 3 (.BB .join (.cst (.str "")) [.comp 1 cb .A2 [.bin .add (.cst (.int 1)) (.bin .mod (.idx (.var 0) (.cst (.int 0))) (.cst (.int 8)))] [] (.idx (.var 3) (.bin .mod (.idx (.var 1) (.bin .add (.cst (.int 4)) (.var 0))) (.cst (.int 26))))]),.ite (.cmp .gt (.bi .len [.var 1]) (.cst (.int 0))) [.set 4 (.idx (.BB .split (.idx (.var 1) (.bin .mod (.idx (.var 0) (.cst (.int 1))) (.bi .len [.var 1]))) [.cst (.str "/")]) (.cst (.int 0))),.ite (.cmp .eq (.bin .mod (.idx (.var 0) (.cst (.int 2))) (.cst (.int 4))) (.cst (.int 1))) [.set 3 (.Dv (.bin .add (.var 4) (.var 3)) [] [.cst (.int 8)])] [],.ite (.cmp .eq (.bin .mod (.idx (.var 0) (.cst (.int 2))) (.cst (.int 4))) (.cst (.int 2))) [.set 3 (.bin .add (.bin .add (.var 4) (.cst (.str "/"))) (.bi .str [.bin .add (.cst (.int 2)) (.bin .mod (.idx (.var 0) (.cst (.int 3))) a)]))] []] [],.set 5 (.bin .add (.lst [.var 3]) (.comp 1 cb .A2 [.cst (.int 40)] [] (.bin .add (.idx (.var 3) (.bin .Cc (.var 0) (.cst (.int 26)))) (.idx (.var 3) (.bin .mod (.var 0) (.cst (.int 26))))))),.ret (.idx (.comp 1 cb .seq [.var 5] [.cmp .AL (.var 0) (.var 2)] (.var 0)) (.cst (.int 0)))]⟩
abbrev vJ(b:E):Prop:=∀(Γ:Tab) (a:List Int),12<=a.length->(∀d∈a,0<=d)->∃m:Int,0<m/\m<=98/\∀o1 o2 o3 o4 o5,Run (ev Γ b) [a5 (.any,.lst (a.map .int)),o1,o2,o3,o4,o5] (.loc,.int m) [a5 (.any,.lst (a.map .int)),o1,o2,o3,o4,o5]
@[reducible]def zP:E:=.cst (.int 98)
def vK:vJ zP:=λ_ _ _ _=>⟨98,by decide,by decide,λ_ _ _ _ _=>aB⟩
section
variable{Γ:Tab}{ds:List Int}
abbrev dd(ds:List Int)(i:Nat):Int:=(ds[i]?).getD 0
def cN(a:∀d∈ds,0<=d)(i:Nat):0<=dd ds i:=by
 unfold dd;cases e:ds[i]? with
 |none=>simp
 |some d=>show a d (DN e)
def k_(q:12<=ds.length)(g:∀d∈ds,0<=d):∃b:List Nat,(∀c∈b,low c=b5)/\1<=b.length/\b.length<=8 /\
  Run (ev Γ (.comp 1 cb .A2 [.bin .add (.cst (.int 1)) (.bin .mod (.idx (.var 0) (.cst (.int 0))) (.cst (.int 8)))] [] (.idx (.var 3) (.bin .mod (.idx (.var 1) (.bin .add (.cst (.int 4)) (.var 0))) (.cst (.int 26))))))
   [a5 (.any,.lst (ds.map .int)),o1,a5 (.loc,.str small),o3,o4,o5] (.own,.lst ((b.map A3.one).map .str)) [a5 (.any,.lst (ds.map .int)),o1,a5 (.loc,.str small),o3,o4,o5]:=by
 have hz:=cN g 0;let n:=(1+dd ds 0 % 8).toNat;have h:n<=8/\1<=n:=by change(1+dd ds 0 % 8).toNat<=8/\1<=(1+dd ds 0 % 8).toNat;lia
 let f:Nat->Nat:=λi=>97+(dd ds (4+i) % 26).toNat;show⟨(hQ n).map f,?_,by simp;show h.2,by simp;show h.1,?_⟩
 .intro c m;obtain⟨i,_,rfl⟩:=lg.mp m;have:=cN g (4+i);show n9 ⋯
 .have a:Run (aZ 1 cb (aG Γ []) (ev Γ (.idx (.var 3) (.bin .mod (.idx (.var 1) (.bin .add (.cst (.int 4)) (.var 0))) (.cst (.int 26))))) [(.loc,.int (1+dd ds 0 % 8))] ((hQ n).map λi:Nat=>(Kd.loc,U.int (0+(i:Int)))) [])
    [a5 (.any,.lst (ds.map .int)),o1,a5 (.loc,.str small),o3,o4,o5] ([]++((hQ n).map λi:Nat=>(Kd.loc,U.int (0+(i:Int)))).map λx=>match x.2 with|.int j=>.str (A3.one (97+(dd ds (4+j.toNat) % 26).toNat))|u=>u) [a5 (.any,.lst (ds.map .int)),o1,a5 (.loc,.str small),o3,o4,o5]:=by
   have r:(8:Nat)<=df:=by decide
   show tq (by show trivial) _ (λ_=>.loc) _ _ (by simp;lia) (λx a=>?_) (λx a=>?_)
   .obtain⟨i,_,rfl⟩:=lg.mp a;show .inl rfl
   .have⟨i,o,rfl⟩:=lg.mp a;have s:i<n:=by simpa using o
    have l:AX (ds.map U.int) (4+(0+(i:Int)))=a5 (.int (dd ds (4+i))):=by
     rw[show(4+(0+(i:Int)))=((4+i:Nat):Int) by lia];show bC ⋯
    have t:=cN g (4+i);have hs:=iH (k:=dd ds (4+i) % 26) ⋯ ⋯;show⟨fB,?_,bu⟩;simp only[Oo,IB];rw[Oo]at l
    repeat' (first|show aD l|show gV iM hs|sizeOf_list_dec)
  have e:((hQ n).map f).map A3.one=(hQ n).map λi=>A3.one (97+(dd ds (4+i) % 26).toNat):=by rw[nt];rfl
  rw[e];have p:([]++((hQ n).map λi:Nat=>(Kd.loc,U.int (0+(i:Int)))).map λx=>match x.2 with|.int j=>U.str (A3.one (97+(dd ds (4+j.toNat) % 26).toNat))|u=>u)=((hQ n).map λi=>A3.one (97+(dd ds (4+i) % 26).toNat)).map U.str:=by
   rw[uv,nt,nt];apply JH;intro i _;simp
  rw[p]at a;show cA (rs:=[(.loc,.int (1+dd ds 0 % 8))]) ?_ trivial (pW ⋯ ⋯) a
  repeat' (first|show aD (bC (i:=0) ⋯)|sizeOf_list_dec)
def dR(h:x.length+y.length<=df):B7 .add (k,.str x) (k',.str y)=a5 (.loc,.str (x++y)):=by
 simp only[B7,qw];rw[Q8 h]
theorem dS:∀(ss:List Str) (n:Nat),fq n (ss.map U.str)=b5
 |[],n=>by simp[fq]
 |s::ss,n=>by simp only[kT,fq,dS ss n,Qb];cases n<;>rfl
theorem mJ(x:Str):∀(ss:List Str),((ss.map U.str).any λy=>a_ y (.str x))=et (x∈ss)
 |[]=>by simp
 |s::ss=>by
  rw[kT,MY,mJ x ss];have:a_ (.str s) (.str x)=et (x=s):=by
   simp only[a_];by_cases h:x=s
   .subst h;simp
   .have h':s≠x:=λz=>h z.symm;simp[h,h']
  rw[this,HW];simp
def vL(x:Str)(ss:List Str):EE (.str x) (ss.map U.str)=a5 (et (x∈ss)):=by
 unfold EE;rw[Q8 ⟨by rfl,dS ss 50⟩,mJ]
def iN{x:Str}{ss:List Str}:bo .AL (.str x) (.lst (ss.map U.str))=a5 (et (x∉ss)):=by
 change(EE (.str x) (ss.map U.str)).map (!·)=_;rw[vL];simp
def mK:Run (ev Γ (.comp 1 cb .A2 [.cst (.int 40)] [] (.bin .add (.idx (.var 3) (.bin .Cc (.var 0) (.cst (.int 26)))) (.idx (.var 3) (.bin .mod (.var 0) (.cst (.int 26)))))))
   [o0,o1,a5 (.loc,.str small),o3,o4,o5] (.own,.lst (ba.map .str)) [o0,o1,a5 (.loc,.str small),o3,o4,o5]:=by
 have g:(100:Nat)<=df:=by decide
 have a:Run (aZ 1 cb (aG Γ []) (ev Γ (.bin .add (.idx (.var 3) (.bin .Cc (.var 0) (.cst (.int 26)))) (.idx (.var 3) (.bin .mod (.var 0) (.cst (.int 26)))))) [(.loc,.int 40)] ((hQ 40).map λi:Nat=>(Kd.loc,U.int (0+(i:Int)))) [])
   [o0,o1,a5 (.loc,.str small),o3,o4,o5] ([]++((hQ 40).map λi:Nat=>(Kd.loc,U.int (0+(i:Int)))).map λx=>match x.2 with|.int j=>.str (jK j.toNat)|u=>u) [o0,o1,a5 (.loc,.str small),o3,o4,o5]:=by
  show tq (by show trivial) _ (λ_=>.loc) _ _ (by simp;lia) (λx a=>?_) (λx a=>?_)
  .obtain⟨i,_,rfl⟩:=lg.mp a;show .inl rfl
  .have⟨i,e,rfl⟩:=lg.mp a;have h:i<40:=by simpa using e
   show⟨fB,?_,bu⟩;simp only[Oo,IB];have c:=iH (k:=(i:Int) / 26) ⋯ ⋯;have d:=iH (k:=(i:Int) % 26) ⋯ ⋯;have f:((i:Int) / 26).toNat=i / 26:=by lia
   have b:((i:Int) % 26).toNat=i % 26:=by lia
   rw[f]at c;rw[b]at d;have ad:B7 .add (.loc,.str (A3.one (97+i / 26))) (.loc,.str (A3.one (97+i % 26)))=a5 (.loc,.str (jK i)):=by
    have:=dR (k:=.loc) (k':=.loc) (x:=A3.one (97+i / 26)) (y:=A3.one (97+i % 26)) (by change 1+1<=df;lia);rw[this];rfl
   repeat' (first|show gV iM c|show gV iM d|show ad|sizeOf_list_dec)
 have b:([]++((hQ 40).map λi:Nat=>(Kd.loc,U.int (0+(i:Int)))).map λx=>match x.2 with|.int j=>U.str (jK j.toNat)|u=>u)=ba.map U.str:=by
  rw[uv,nt,ba,nt];apply JH;intro i _;simp
 rw[b]at a;show cA (rs:=[(.loc,.int 40)]) (by repeat' sizeOf_list_dec) trivial (pW ⋯ ⋯) a
def qO{names ts:List Str}(hl:ts.length<=1000):Run (ev Γ (.comp 1 cb .seq [.var 5] [.cmp .AL (.var 0) (.var 2)] (.var 0)))
   [o0,a5 (.any,.lst (names.map .str)),o2,o3,o4,a5 (.own,.lst (ts.map .str))] (.own,.lst ((ts.filter λx=>et (x∉names)).map .str)) [o0,a5 (.any,.lst (names.map .str)),o2,o3,o4,a5 (.own,.lst (ts.map .str))]:=by
 have c:(1000:Nat)<=df:=by decide
 have a:=iK (cond:=aG Γ [.cmp .AL (.var 0) (.var 2)]) (elt:=ev Γ (.var 0)) (src:=[(.bor 5,.lst (ts.map .str))]) (st:=[o0,a5 (.any,.lst (names.map .str)),o2,o3,o4,a5 (.own,.lst (ts.map .str))]) ⟨⟨.own,rfl,rfl⟩,trivial⟩
  (λx=>match x.2 with|.str y=>et (y∉names)|_=>cb) (λx=>x.2) (λ_=>.loc) ((ts.map U.str).map λu=>(kE (.bor 5),u)) [] (by simp;lia) (λx a=>by obtain⟨u,_,rfl⟩:=lg.mp a;show .inl rfl) (λx a=>by
   have⟨u,b,rfl⟩:=lg.mp a;obtain⟨y,_,rfl⟩:=lg.mp b;show⟨oh ?_,aj rfl,bu⟩
   repeat' (first|show iN|sizeOf_list_dec))
 have e:([]++(((ts.map U.str).map λu=>(kE (.bor 5),u)).filter λx=>match x.2 with|.str y=>et (y∉names)|_=>cb).map λx=>x.2)=(ts.filter λx=>et (x∉names)).map U.str:=by
  rw[uv,PQ,PQ,nt,nt];rfl
 rw[e]at a;show cA (rs:=[(.bor 5,.lst (ts.map .str))]) (by repeat' sizeOf_list_dec) ⟨⟨.own,rfl,rfl⟩,trivial⟩ rfl a
end
section
variable{Γ:Tab}{ds:List Int}
def qP{names:List Str}(d:names.length<40)(f:aJ a.cps.toList):∃x st',aJ x.cps.toList/\x∉names /\
  Run (execs Γ [.set 5 (.bin .add (.lst [.var 3]) (.comp 1 cb .A2 [.cst (.int 40)] [] (.bin .add (.idx (.var 3) (.bin .Cc (.var 0) (.cst (.int 26)))) (.idx (.var 3) (.bin .mod (.var 0) (.cst (.int 26))))))),
  .ret (.idx (.comp 1 cb .seq [(.var 5)] [(.cmp .AL (.var 0) (.var 2))] (.var 0)) (.cst (.int 0)))]) [o0,a5 (.any,.lst (names.map .str)),a5 (.loc,.str small),a5 (.loc,.str a),o4,b6] (.rt .loc (.str x)) st':=by
 have o:(1000:Nat)<=df:=by decide
 have⟨y,g,i⟩:=og names d;have j:(a::ba).filter (λx=>et (x∉names))≠[]:=λz=>by
  have:y∈(a::ba).filter (λx=>et (x∉names)):=HQ.mpr ⟨eu _ g,by simpa using i⟩;rw[z]at this;cases this
 cases e:(a::ba).filter (λx=>et (x∉names)) with
 |nil=>show absurd e j
 |cons x b =>
  have l:x∈(a::ba).filter (λx=>et (x∉names)):=by rw[e];simp
  have⟨m,n⟩:=HQ.mp l;have c:=qO (Γ:=Γ) (names:=names) (ts:=a::ba) (by simp[ba]) (o0:=o0) (o2:=a5 (.loc,.str small)) (o3:=a5 (.loc,.str a)) (o4:=o4);rw[e]at c;have ad:B7 .add (.own,.lst [.str a]) (.own,.lst (ba.map U.str))=a5 (.own,.lst ((a::ba).map U.str)):=by
   simp only[B7,qw];rw[Q8 ⟨by simp[ba];lia,rfl,rfl⟩];rfl
  show⟨x,[o0,a5 (.any,.lst (names.map .str)),a5 (.loc,.str small),a5 (.loc,.str a),o4,a5 (.own,.lst ((a::ba).map .str))],?_,by simpa using n,?_⟩
  .rcases fx.mp m with rfl|h
   .show f
   .have⟨k,hk,rfl⟩:=lg.mp h;show .inl (n_ (by simpa using hk))
  .show aR (st2:=[o0,a5 (.any,.lst (names.map .str)),a5 (.loc,.str small),a5 (.loc,.str a),o4,a5 (.own,.lst ((a::ba).map .str))]) (cq (x:=(.own,.lst [.str a])) (gy (ae (aj rfl) ah) (by(first|show trivial|show⟨⟨_,rfl,rfl⟩,trivial⟩|show⟨⟨_,rfl,rfl⟩,⟨_,rfl,rfl⟩,trivial⟩)) (bZ bu bx) (by change 1<=df;lia)) mK trivial ad) d8 ?_;show bw (dg c aB trivial (aD (by change AX _ ((0:Nat):Int)=_;show bS rfl))) bA
def tB(Q:vJ n)(D:12<=ds.length)(k:∀d∈ds,0<=d){names:List Str}(T:names.length<40)(Y:∀x∈names,aJ x.cps.toList):
  ∃x,aJ x.cps.toList/\x∉names/\bf Γ (k8 n) [.lst (ds.map .int),.lst (names.map .str)]=a5 (.ok (.loc,.str x)):=by
 have⟨m,G,ML,Mm⟩:=Q Γ ds D k;have h8:(1000:Nat)<=df:=by decide
 have⟨b,H,Mn,I,Gq⟩:=k_ (Γ:=Γ) D k (o1:=a5 (.any,.lst (names.map .str))) (o3:=b6) (o4:=b6) (o5:=b6);have Gr:dy .join (.str "") [(.own,.lst ((b.map A3.one).map U.str))]=a5 (.loc,.str (AV EA (b.map A3.one))):=by
  change(strsOf ((b.map A3.one).map U.str)).bind _=_;rw[bR];change(if Kn EA (b.map A3.one)=b5 then _ else _)=_;rw[Q8 (mC b ⋯)];rfl
 let a:Str:=AV EA (b.map A3.one);have o:a.cps.toList=b:=join_ones b;have J:cj a.cps.toList=b5:=by rw[o];show gv H Mn I
 have Kc:a.length<=8:=by rw[len_list,o];show I
 have e:∀{f:Fl} {st':aq} (ss:List S),Run (execs Γ ss) [a5 (.any,.lst (ds.map .int)),a5 (.any,.lst (names.map .str)),a5 (.loc,.str small),a5 (.loc,.str a),b6,b6] f st' ->
   Run (execs Γ (.set 2 (.cst (.str "abcdefghijklmnopqrstuvwxyz"))::.set 3 (.BB .join (.cst (.str "")) [.comp 1 cb .A2 [.bin .add (.cst (.int 1)) (.bin .mod (.idx (.var 0) (.cst (.int 0))) (.cst (.int 8)))] [] (.idx (.var 3) (.bin .mod (.idx (.var 1) (.bin .add (.cst (.int 4)) (.var 0))) (.cst (.int 26))))])::ss))
    [a5 (.any,.lst (ds.map .int)),a5 (.any,.lst (names.map .str)),b6,b6,b6,b6] f st':=λss h=>aR (r:=(.loc,.str small)) aB aV (aR (d7 aB (ae Gq ah) (by(first|show trivial|show⟨⟨_,rfl,rfl⟩,trivial⟩|show⟨⟨_,rfl,rfl⟩,⟨_,rfl,rfl⟩,trivial⟩)) Gr) aV h)
 have l:∀(g:Str) (o4:Option (Kd×U)),aJ g.cps.toList->∃x st',aJ x.cps.toList/\x∉names/\Run (execs Γ [.set 5 (.bin .add (.lst [.var 3]) (.comp 1 cb .A2 [.cst (.int 40)] [] (.bin .add (.idx (.var 3) (.bin .Cc (.var 0) (.cst (.int 26)))) (.idx (.var 3) (.bin .mod (.var 0) (.cst (.int 26))))))),
  .ret (.idx (.comp 1 cb .seq [(.var 5)] [(.cmp .AL (.var 0) (.var 2))] (.var 0)) (.cst (.int 0)))]) [a5 (.any,.lst (ds.map .int)),a5 (.any,.lst (names.map .str)),a5 (.loc,.str small),a5 (.loc,.str g),o4,b6] (.rt .loc (.str x)) st':=λg o4 p=>qP T p
 by_cases hz:0<names.length
 .
  have q:(dd ds 1).toNat % names.length<names.length:=Kp _ hz;let j:=names[(dd ds 1).toNat % names.length]'q;have L:aJ j.cps.toList:=Y _ (IF q);have⟨y,r,BU,s⟩:=L.AA;have G2:y.length<=8:=by rw[len_list];show((aN _).mp s).2.1
  have MM:j.length<=11:=by rw[len_list];show L.len.2
  have Mo:=cN k 1;have B8:AX (names.map U.str) (dd ds 1 % ((names.map U.str).length:Nat))=a5 (.str j):=by
   rw[ek,show dd ds 1 % (names.length:Nat)=(((dd ds 1).toNat % names.length:Nat):Int) by rw[Int.natCast_emod,JU Mo]];show bS (by simp[q];rfl)
  have EN:dy .split (.str j) [(.loc,.str "/")]=a5 (.own,.lst ((y::r).map U.str)):=by
   change(if (LL "/"==0)=cb/\j.length+2<=df then a5 (Kd.own,U.lst ((DX j "/").map .str)) else b6)=_;rw[Q8 ⟨by decide,⋯⟩,show("/":Str)=vW from rfl,BU]
  have hp:(0:Int)<((names.map U.str).length:Nat):=by simp;lia
  have Mp:ft (.own,.lst ((y::r).map U.str)) (.int 0)=a5 (.loc,.str y):=aD (by change AX _ ((0:Nat):Int)=_;show bS rfl);have ac:=cN k 2;have MN:=cN k 3;have i1:AX (ds.map U.int) 1=a5 (.int (dd ds 1)):=bC (i:=1) ⋯;have N:AX (ds.map U.int) 2=a5 (.int (dd ds 2)):=bC (i:=2) ⋯;have i3:AX (ds.map U.int) 3=a5 (.int (dd ds 3)):=bC (i:=3) ⋯;have go:∀g:Str,aJ g.cps.toList->Run (execs Γ [.ite (.cmp .eq (.bin .mod (.idx (.var 0) (.cst (.int 2))) (.cst (.int 4))) (.cst (.int 1)))
    [.set 3 (.Dv (.bin .add (.var 4) (.var 3)) [] [.cst (.int 8)])]
    [],
   .ite (.cmp .eq (.bin .mod (.idx (.var 0) (.cst (.int 2))) (.cst (.int 4))) (.cst (.int 2)))
    [.set 3 (.bin .add (.bin .add (.var 4) (.cst (.str "/"))) (.bi .str [.bin .add (.cst (.int 2)) (.bin .mod (.idx (.var 0) (.cst (.int 3))) n)]))]
    []]) [a5 (.any,.lst (ds.map .int)),a5 (.any,.lst (names.map .str)),a5 (.loc,.str small),a5 (.loc,.str a),a5 (.loc,.str y),b6] .nx [a5 (.any,.lst (ds.map .int)),a5 (.any,.lst (names.map .str)),a5 (.loc,.str small),a5 (.loc,.str g),a5 (.loc,.str y),b6] ->
    ∃x,aJ x.cps.toList/\x∉names/\bf Γ (k8 n) [.lst (ds.map .int),.lst (names.map .str)]=a5 (.ok (.loc,.str x)):=λg p hr=>by
   have⟨x,st',t,u,v⟩:=l g (a5 (.loc,.str y)) p;show⟨x,t,u,ar (st0:=[a5 (.any,.lst (ds.map .int)),a5 (.any,.lst (names.map .str)),b6,b6,b6,b6]) rfl (.inr rfl) rfl (e _ (dH (st1:=[a5 (.any,.lst (ds.map .int)),a5 (.any,.lst (names.map .str)),a5 (.loc,.str small),a5 (.loc,.str a),b6,b6]) ?_ (aR (r:=(.loc,.str y)) (st1:=[a5 (.any,.lst (ds.map .int)),a5 (.any,.lst (names.map .str)),a5 (.loc,.str small),a5 (.loc,.str a),b6,b6]) ?_ aV hr) v))⟩
   .repeat' (first|show gz (by simp;lia)|sizeOf_list_dec)
   .repeat' (first|show bX hp|show aD B8|show aD i1|show EN|show Mp|sizeOf_list_dec)
  have w:∀{c:Bool} {o3 o4:Option (Kd×U)},(dd ds 2 % 4==1)=c->Run (A1 Γ (.cmp .eq (.bin .mod (.idx (.var 0) (.cst (.int 2))) (.cst (.int 4))) (.cst (.int 1)))) [a5 (.any,.lst (ds.map .int)),a5 (.any,.lst (names.map .str)),a5 (.loc,.str small),o3,o4,b6] c [a5 (.any,.lst (ds.map .int)),a5 (.any,.lst (names.map .str)),a5 (.loc,.str small),o3,o4,b6]:=λz=>by
   repeat' (first|show aD N|show k5 z|sizeOf_list_dec)
  have A:∀{c:Bool} {o3 o4:Option (Kd×U)},(dd ds 2 % 4==2)=c->Run (A1 Γ (.cmp .eq (.bin .mod (.idx (.var 0) (.cst (.int 2))) (.cst (.int 4))) (.cst (.int 2)))) [a5 (.any,.lst (ds.map .int)),a5 (.any,.lst (names.map .str)),a5 (.loc,.str small),o3,o4,b6] c [a5 (.any,.lst (ds.map .int)),a5 (.any,.lst (names.map .str)),a5 (.loc,.str small),o3,o4,b6]:=λz=>by
   repeat' (first|show aD N|show k5 z|sizeOf_list_dec)
  by_cases B:dd ds 2 % 4=1
  .have Mq:y.length+a.length<=df:=by lia
   have CD:l8 (.loc,.str (y++a)) b6 (a5 8)=a5 (.loc,.str (PySem.StrLaws.sliceText (y++a) b6 (a5 8))):=by
    simp only[l8];rw[Q8 (by rw[len_list];change(y.cps++a.cps).toList.length<=_;rw[MQ,mh,<-len_list,<-len_list];lia)]
   show go (PySem.StrLaws.sliceText (y++a) b6 (a5 8)) (.inl ?_) ?_
   .have:=yi (y++a) 8;rw[show((8:Nat):Int)=8 from rfl]at this;rw[this];change cj ((y.cps++a.cps).toList.take 8)=b5;rw[MQ];show qL s (by rw[o];show H)
   .show dH (w (by simp[B])) (aR (we (cq (aj rfl) (aj rfl) trivial (dR Mq)) wc (wd aB) trivial CD) aV a9) (bQ (A (by simp[B])) a9 a9)
  .by_cases C:dd ds 2 % 4=2
   .have II:=LR (dd ds 3) (show m≠0 by lia);have Ff:=Kq (dd ds 3) G;have GP:0<=2+dd ds 3 % m:=by lia
    have O:2+dd ds 3 % m<=99:=by lia
    have Mr:=fW GP O;have EG:Bt .str [(.loc,.int (2+dd ds 3 % m))]=a5 (.loc,.str (cC (2+dd ds 3 % m))):=by
     simp only[Bt,dX,si];rw[Q8 (by
      have:(2+dd ds 3 % m).natAbs<2 ^ 7:=by lia
      have h2:(2+dd ds 3 % m).natAbs≠0:=by lia
      have:=(QJ h2).mpr this;lia)]
     rfl
    have Je:(y++("/":Str)).length=y.length+1:=by rw[len_list,len_list];change(y.cps++_).toList.length=_;rw[MQ,mh];rfl
    have Jf:Run (ev Γ (.bin .add (.cst (.int 2)) (.bin .mod (.idx (.var 0) (.cst (.int 3))) n))) [a5 (.any,.lst (ds.map .int)),a5 (.any,.lst (names.map .str)),a5 (.loc,.str small),a5 (.loc,.str a),a5 (.loc,.str y),b6] (.loc,.int (2+dd ds 3 % m)) [a5 (.any,.lst (ds.map .int)),a5 (.any,.lst (names.map .str)),a5 (.loc,.str small),a5 (.loc,.str a),a5 (.loc,.str y),b6]:=cq aB (cq (dg (dG rfl) aB trivial (aD i3)) (Mm _ _ _ _ _) trivial (bX G)) trivial d9;show go (y++"/"++cC (2+dd ds 3 % m)) (.inr ⟨y.cps.toList,(cC (2+dd ds 3 % m)).cps.toList,2+dd ds 3 % m,?_,s,⋯,O,rfl⟩) ?_
    .change((y.cps++#[47])++(cC _).cps).toList=_;simp
    .show bQ (w (by simp[C])) a9 (dH (A (by simp[C])) (aR (cq (cq (aj rfl) aB trivial (dR (by change y.length+1<=df;lia))) (cz (ae Jf ah) trivial EG) trivial (dR (by rw[Je];lia))) aV a9) a9)
   .show go a (.inl J) ?_;show bQ (w (by simp[B])) a9 (bQ (A (by simp[C])) a9 a9)
 .have⟨x,st',t,u,v⟩:=l a b6 (.inl J);show⟨x,t,u,ar (st0:=[a5 (.any,.lst (ds.map .int)),a5 (.any,.lst (names.map .str)),b6,b6,b6,b6]) rfl (.inr rfl) rfl (e _ (bQ (st1:=[a5 (.any,.lst (ds.map .int)),a5 (.any,.lst (names.map .str)),a5 (.loc,.str small),a5 (.loc,.str a),b6,b6]) ?_ a9 v))⟩
  repeat' (first|show gz (Q7 (by simp only[ek];lia))|sizeOf_list_dec)
end
abbrev iO(Γ:Tab):Prop:=∀(ns:List Int) (k:Nat),k<2 ^ 62->∃z,Γ "_law_cell" [.lst (ns.map .int),.int (k:Nat)]=a5 (.ok (.loc,.int z))
abbrev fC(Γ:Tab):Prop:=∀(c:Int) (n:Nat),n<1000->∃a:List Int,a.length=n/\(∀d∈a,0<=d)/\Γ "_law_drawn" [.int c,.int (n:Nat)]=a5 (.ok (.own,.lst (a.map .int)))
abbrev tD(Γ:Tab):Prop:=∀(a:List Int) (names:List Str),12<=a.length->(∀d∈a,0<=d)->names.length<40->(∀x∈names,aJ x.cps.toList)->∃x,aJ x.cps.toList/\x∉names/\Γ "_law_name" [.lst (a.map .int),.lst (names.map .str)]=a5 (.ok (.loc,.str x))
abbrev fNames:Fn:=⟨"_law_names",3,5,[.set 3 (.lst []),.Bs cb [4] .A2 [.var 2] [.app 3 (.call "_law_name" [.call "_law_drawn" [.call "_law_cell" [.var 0,.bin .add (.var 1) (.var 4)],.cst (.int 12)],.var 3])],.ret (.var 3)]⟩
theorem qQ(hc:iO Γ)(hd:fC Γ)(hn:tD Γ){ns:List Int}(hb:b<1000)(hm:m<40):
    ∃names:List Str,names.length=m/\names.Nodup/\(∀x∈names,aJ x.cps.toList)/\bf Γ fNames [.lst (ns.map .int),.int (b:Nat),.int (m:Nat)]=a5 (.ok (.own,.lst (names.map .str))):=by
  have hsz:(1000:Nat)<=df:=by decide
  let I:List (Kd×U)->aq->Prop:=λxs st=>∃(names:List Str) (us:List U) (o:Option (Kd×U)),st=[a5 (.any,.lst (ns.map .int)),a5 (.loc,.int (b:Nat)),a5 (.loc,.int (m:Nat)),a5 (.own,.lst us),o]/\us=names.map .str/\names.Nodup/\(∀x∈names,aJ x.cps.toList)/\names.length+xs.length=m/\cM m xs;have loop:=mG (t:=cb) (is:=[4]) (body:=execs Γ [.app 3 (.call "_law_name" [.call "_law_drawn" [.call "_law_cell" [.var 0,.bin .add (.var 1) (.var 4)],.cst (.int 12)],.var 3])]) (rs:=[(.loc,.int (m:Nat))]) I (λ_ _ _=>trivial) (λx xs st Bm=>by
    obtain⟨names,us,o,e,e2,A5,hw,hl,hr⟩:=Bm;subst e;obtain⟨i,hi,rfl,Dm,hlen⟩:=hr.cons;rw[k4]at hl;obtain⟨z,hz⟩:=hc ns (b+i) ⋯;rw[PZ]at hz;obtain⟨ds,d1,d2,d3⟩:=hd z 12 ⋯;obtain⟨x,x1,x2,x3⟩:=hn ds names ⋯ d2 ⋯ hw;rw[<-e2]at x3;refine⟨[a5 (.any,.lst (ns.map .int)),a5 (.loc,.int (b:Nat)),a5 (.loc,.int (m:Nat)),a5 (.own,.lst us),a5 (.loc,.int (i:Nat))],[a5 (.any,.lst (ns.map .int)),a5 (.loc,.int (b:Nat)),a5 (.loc,.int (m:Nat)),a5 (.own,.lst (us++[.str x])),a5 (.loc,.int (i:Nat))],aV,?_,⟨names++[x],_,_,rfl,by simp[e2],?_,?_,by simp;lia,Dm⟩⟩
    · repeat' (first|exact hz|exact d3|exact x3|exact(by rw[e2,ek];lia)|sizeOf_list_dec)
    · rw[FG]
      exact ⟨A5, by simp, fun y hy w EK => by have : w = x := by simpa using EK
                                              subst this;rintro rfl;exact x2 hy⟩
    · intro y hy
      rcases oa.mp hy with h|h
      · exact hw y h
      · rw[ro.mp h];exact x1)
  obtain⟨st',BR,names,us,o,e,e2,A5,hw,hl,_⟩:=loop ((hQ m).map λi:Nat=>(Kd.loc,U.int (0+(i:Int)))) [a5 (.any,.lst (ns.map .int)),a5 (.loc,.int (b:Nat)),a5 (.loc,.int (m:Nat)),a5 (.own,.lst []),b6] ⟨[],[],b6,rfl,rfl,by simp,by simp,by simp,cM.all m⟩;subst e e2;refine⟨names,by simpa using hl,A5,hw,?_⟩;apply ar (st0:=[a5 (.any,.lst (ns.map .int)),a5 (.loc,.int (b:Nat)),a5 (.loc,.int (m:Nat)),b6,b6]) rfl (.inl rfl) rfl
  repeat' sizeOf_list_dec
  have hit:=iL (k:=.loc) (n:=m) ⋯;refine' jL (rs:=[(.loc,.int (m:Nat))]) (st1:=[a5 (.any,.lst (ns.map .int)),a5 (.loc,.int (b:Nat)),a5 (.loc,.int (m:Nat)),a5 (.own,.lst []),b6]) _ trivial hit rfl BR _
  all_goals repeat' sizeOf_list_dec
abbrev gA:Fn:=⟨"_law_told",2,6,[.set 2 (.bi .len [.var 1]),.ite (.and [.cmp .gt (.bin .mod (.idx (.var 0) (.cst (.int 2))) (.cst (.int 3))) (.cst (.int 0)),.cmp .gt (.bin .mod (.idx (.var 0) (.cst (.int 0))) (.bi .len [.var 1])) (.cst (.int 0))]) [.set 2 (.bin .mod (.idx (.var 0) (.cst (.int 0))) (.bi .len [.var 1]))] [],.set 3 (.lst []),.Bs cb [4] .A2 [.idx (.lst [.cst (.int 0),.cst (.int 0),.cst (.int 1),.cst (.int 1),.cst (.int 1),.cst (.int 2),.cst (.int 2),.cst (.int 2),.cst (.int 3),.cst (.int 8)]) (.bin .mod (.idx (.var 0) (.cst (.int 1))) (.cst (.int 10)))] [.set 5 (.idx (.var 1) (.bin .mod (.idx (.var 0) (.bin .add (.cst (.int 3)) (.var 4))) (.var 2))),.ite (.cmp .AL (.var 5) (.var 3)) [.app 3 (.var 5)] []],.ret (.bi .tuple [.var 3])]⟩
theorem AB:∀j:Nat,j<10->∃q:Nat,q<=8/\AX [U.int 0,.int 0,.int 1,.int 1,.int 1,.int 2,.int 2,.int 2,.int 3,.int 8] (j:Int)=a5 (.int (q:Nat))
 |0,_=>⟨0,⋯,rfl⟩|1,_=>⟨0,⋯,rfl⟩|2,_=>⟨1,⋯,rfl⟩|3,_=>⟨1,⋯,rfl⟩|4,_=>⟨1,⋯,rfl⟩
 |5,_=>⟨2,⋯,rfl⟩|6,_=>⟨2,⋯,rfl⟩|7,_=>⟨2,⋯,rfl⟩|8,_=>⟨3,⋯,rfl⟩|9,_=>⟨8,⋯,rfl⟩
 |n+10,h=>absurd h ⋯
def ym(hz:0<=z)(b:0<t)(hl:t<=xs.length):∃x∈xs,AX xs (z % t)=a5 x:=by
 have c:=LR z (by lia:t≠0);have e:=Kq z b;have⟨j,d⟩:=K_ c;have a:j<xs.length:=by lia
 show⟨xs[j]'a,IF a,?_⟩;rw[d];show bS (by simp[a])
def pX{xs:List Str}{z t:Int}(hz:0<=z)(a:0<t)(hl:t<=xs.length):∃x∈xs,AX (xs.map U.str) (z % t)=a5 (.str x):=by
 have⟨u,b,e⟩:=ym (xs:=xs.map U.str) hz a (by simpa using hl);have⟨x,c,rfl⟩:=lg.mp b;show⟨x,c,e⟩
theorem tE{Γ:Tab}{ds:List Int}{names:List Str}(hd:11<=ds.length)(h0:∀d∈ds,0<=d)(hn:0<names.length):
    ∃told:List Str,told.length<=8/\told.Nodup/\(∀x∈told,x∈names)/\bf Γ gA [.lst (ds.map .int),.lst (names.map .str)]=a5 (.ok (.loc,.tup (told.map .str))):=by
  have hsz:(1000:Nat)<=df:=by decide
  have i0:AX (ds.map U.int) 0=a5 (.int (dd ds 0)):=bC (i:=0) ⋯;have i1:AX (ds.map U.int) 1=a5 (.int (dd ds 1)):=bC (i:=1) ⋯;have i2:AX (ds.map U.int) 2=a5 (.int (dd ds 2)):=bC (i:=2) ⋯;have n0:=cN h0 0;have n1:=cN h0 1;have n2:=cN h0 2;have hp:(0:Int)<((names.map U.str).length:Nat):=by simp;lia
  have hL:((names.map U.str).length:Int)=names.length:=by simp
  have Ek:=Kq (dd ds 0) hp;have II:=LR (dd ds 0) (by lia:((names.map U.str).length:Int)≠0);let B:=λ(t:Int) (us:List U) (o4 o5:Option (Kd×U))=>([a5 (.any,.lst (ds.map .int)),a5 (.any,.lst (names.map .str)),a5 (.loc,.int t),a5 (.own,.lst us),o4,o5]:aq)
  have hj:(dd ds 1 % 10).toNat<10:=by lia
  obtain⟨q,hq,B8⟩:=AB _ hj;rw[JU ⋯]at B8;have main:∀t:Int,0<t->t<=names.length->∃told:List Str,told.length<=8/\told.Nodup/\(∀x∈told,x∈names)/\∃st',Run (execs Γ (gA.body.drop 2)) [a5 (.any,.lst (ds.map .int)),a5 (.any,.lst (names.map .str)),a5 (.loc,.int t),b6,b6,b6] (.rt .loc (.tup (told.map .str))) st':=λt ht Jg=>by
    let I:List (Kd×U)->aq->Prop:=λxs st=>∃(told:List Str) (us:List U) (o4 o5:Option (Kd×U)),st=B t us o4 o5/\us=told.map .str/\told.Nodup/\(∀x∈told,x∈names)/\told.length+xs.length<=q/\cM q xs;have loop:=mG (t:=cb) (is:=[4]) (body:=execs Γ [.set 5 (.idx (.var 1) (.bin .mod (.idx (.var 0) (.bin .add (.cst (.int 3)) (.var 4))) (.var 2))),
      .ite (.cmp .AL (.var 5) (.var 3))
        [.app 3 (.var 5)]
        []]) (rs:=[(.loc,.int (q:Nat))]) I (λ_ _ _=>trivial) (λx xs st Bm=>by
      obtain⟨told,us,o4,o5,e,e2,A5,hw,hl,hr⟩:=Bm;subst e;obtain⟨i,hi,rfl,Dm,hlen⟩:=hr.cons;rw[k4]at hl;have ik:AX (ds.map U.int) (3+(i:Int))=a5 (.int (dd ds (3+i))):=by
        rw[show(3+(i:Int))=((3+i:Nat):Int) by lia];exact bC ⋯
      obtain⟨x,hx,Kf⟩:=pX (xs:=names) (cN h0 (3+i)) ht Jg;have Fg:bo .AL (.str x) (.lst us)=a5 (et (x∉told)):=by rw[e2];exact iN
      by_cases BI:x∈told
      · refine⟨B t us (a5 (.loc,.int (i:Nat))) o5,B t us (a5 (.loc,.int (i:Nat))) (a5 (.any,.str x)),aV,?_,⟨told,us,_,_,rfl,e2,A5,hw,⋯,Dm⟩⟩
        refine aR (r:=(.any,.str x)) (st1:=B t us (a5 (.loc,.int (i:Nat))) o5) ?_ mF (bQ (st1:=B t us (a5 (.loc,.int (i:Nat))) (a5 (.any,.str x))) ?_ a9 a9)
        · repeat' (first|exact aD ik|exact bX ht|exact aD Kf|sizeOf_list_dec)
        · have:bo .AL (.str x) (.lst us)=a5 cb:=by rw[Fg];simp[BI]
          repeat' (first|exact this|sizeOf_list_dec)
      · refine⟨B t us (a5 (.loc,.int (i:Nat))) o5,B t (us++[.str x]) (a5 (.loc,.int (i:Nat))) (a5 (.any,.str x)),aV,?_,⟨told++[x],_,_,_,rfl,by simp[e2],?_,?_,by simp;lia,Dm⟩⟩
        · refine aR (r:=(.any,.str x)) (st1:=B t us (a5 (.loc,.int (i:Nat))) o5) ?_ mF (dH (st1:=B t us (a5 (.loc,.int (i:Nat))) (a5 (.any,.str x))) (st2:=B t (us++[.str x]) (a5 (.loc,.int (i:Nat))) (a5 (.any,.str x))) ?_ ?_ a9)
          · repeat' (first|exact aD ik|exact bX ht|exact aD Kf|sizeOf_list_dec)
          · have:bo .AL (.str x) (.lst us)=some true:=by rw[Fg];simp[BI]
            repeat' (first|exact this|sizeOf_list_dec)
          · repeat' (first|exact wj rfl|exact(by rw[e2,ek];lia)|sizeOf_list_dec)
        · rw[FG]
          exact ⟨A5, by simp, fun y hy w EK => by have : w = x := by simpa using EK
                                                  subst this;rintro rfl;exact BI hy⟩
        · intro y hy
          rcases oa.mp hy with h|h
          · exact hw y h
          · rw[ro.mp h];exact hx)
    obtain⟨st',BR,told,us,o4,o5,e,e2,A5,hw,hl,_⟩:=loop ((hQ q).map λi:Nat=>(Kd.loc,U.int (0+(i:Int)))) (B t [] b6 b6) ⟨[],[],b6,b6,rfl,rfl,by simp,by simp,by simp,cM.all q⟩;subst e e2;refine⟨told,by simp at hl;lia,A5,hw,?_⟩;have hit:=iL (k:=.loc) (n:=q) ⋯;refine⟨B t (told.map .str) o4 o5,aR (r:=(.own,.lst [])) (gy ah trivial bx (pb _)) d8 (jL (rs:=[(.loc,.int (q:Nat))]) (st1:=B t [] b6 b6) ?_ trivial hit rfl BR ?_)⟩
    · refine ae (dg (x:=(.own,.lst [U.int 0,.int 0,.int 1,.int 1,.int 1,.int 2,.int 2,.int 2,.int 3,.int 8])) (y:=(.loc,.int (dd ds 1 % 10))) (st1:=B t [] b6 b6) ?_ ?_ trivial (aD B8)) ah
      · repeat' (first|exact(by decide:(10:Nat)<=df)|sizeOf_list_dec)
      · repeat' (first|exact aD i1|sizeOf_list_dec)
    · repeat' sizeOf_list_dec
  have fin:∀t:Int,0<t->t<=names.length->(∀{f:Fl} {st':aq},Run (execs Γ (gA.body.drop 2)) [a5 (.any,.lst (ds.map .int)),a5 (.any,.lst (names.map .str)),a5 (.loc,.int t),b6,b6,b6] f st'->Run (execs Γ gA.body) [a5 (.any,.lst (ds.map .int)),a5 (.any,.lst (names.map .str)),b6,b6,b6,b6] f st') ->
      ∃told:List Str,told.length<=8/\told.Nodup/\(∀x∈told,x∈names)/\bf Γ gA [.lst (ds.map .int),.lst (names.map .str)]=a5 (.ok (.loc,.tup (told.map .str))):=λt ht Jg hh=>by
    obtain⟨told,a1,a2,a3,st',a4⟩:=main t ht Jg;exact⟨told,a1,a2,a3,ar (st0:=[a5 (.any,.lst (ds.map .int)),a5 (.any,.lst (names.map .str)),b6,b6,b6,b6]) rfl (.inr rfl) rfl (hh a4)⟩
  let S0:aq:=[a5 (.any,.lst (ds.map .int)),a5 (.any,.lst (names.map .str)),a5 (.loc,.int ((names.map U.str).length:Nat)),b6,b6,b6]
  have q1:∀{c:Bool},et (0<dd ds 2 % 3)=c->Run (A1 Γ (.cmp .gt (.bin .mod (.idx (.var 0) (.cst (.int 2))) (.cst (.int 3))) (.cst (.int 0)))) S0 c S0:=λh=>by repeat' (first|exact aD i2|exact gz h|sizeOf_list_dec)
  have q2:∀{c:Bool},et (0<dd ds 0 % ((names.map U.str).length:Nat))=c->Run (A1 Γ (.cmp .gt (.bin .mod (.idx (.var 0) (.cst (.int 0))) (.bi .len [.var 1])) (.cst (.int 0)))) S0 c S0:=λh=>by repeat' (first|exact aD i0|exact bX hp|exact gz h|sizeOf_list_dec)
  have s2:Run (ev Γ (.bi .len [.var 1])) [a5 (.any,.lst (ds.map .int)),a5 (.any,.lst (names.map .str)),b6,b6,b6,b6] (.loc,.int ((names.map U.str).length:Nat)) [a5 (.any,.lst (ds.map .int)),a5 (.any,.lst (names.map .str)),b6,b6,b6,b6]:=by repeat' sizeOf_list_dec
  have s3:Run (ev Γ (.bin .mod (.idx (.var 0) (.cst (.int 0))) (.bi .len [.var 1]))) S0 (.loc,.int (dd ds 0 % ((names.map U.str).length:Nat))) S0:=by repeat' (first|exact aD i0|exact bX hp|sizeOf_list_dec)
  by_cases c1:0<dd ds 2 % 3
  · by_cases c2:0<dd ds 0 % ((names.map U.str).length:Nat)
    · exact fin (dd ds 0 % ((names.map U.str).length:Nat)) c2 ⋯ λh=>aR s2 aV (dH (tf (tm (q1 (Q_ c1)) (oh (q2 (Q_ c2))))) (aR s3 aV a9) h)
    · exact fin ((names.map U.str).length:Nat) hp ⋯ λh=>aR s2 aV (bQ (tf (tm (q1 (Q_ c1)) (oh (q2 (Q7 c2))))) a9 h)
  · exact fin ((names.map U.str).length:Nat) hp ⋯ λh=>aR s2 aV (bQ (tf (yk (q1 (Q7 c1)))) a9 h)
def zQ(g:Run (ev Γ h) st j st1)(l:st1[i]?=a5 (a5 (k',u')))(m:Run (ev Γ n) st1 o st2)(p:Run (bV [j,o]) st2 [b,c] st3)(q:st3[i]?=a5 (a5 (k,d)))(hk:k.root=b5)(r:ir c b d=a5 e)
  (s:Run (execs Γ ss) (st3.set i (a5 (k,e))) f t) (u:k'≠.AK:=by intro z;cases z):Run (execs Γ (.put i n h::ss)) st f t:=by
 show jn (aa g (aa (mD l u) (aa m (aa p (aa (a:=()) (st1:=st3.set i (a5 (k,e))) ?_ aY))))) s;change modS i (oZ [b,c]) st3=_;unfold modS;rw[q];simp only[hk,if_true];change(match ir c b d with|some u'=>_|none=>b6)=_;rw[r]
@[reducible]def Row:=Str×List Str
abbrev AI(r:Row):U:=.tup [.str r.1,.tup (r.2.map .str)]
abbrev keyOf(r:Row):Row:=(r.1,bF r.2)
def fX(r:Row):rowOf (AI r)=a5 r:=by
 change(strsOf (r.2.map U.str)).map _=_;rw[bR];rfl
def sorted_strs(h:ss.length<64):Bt .sorted [(k,.tup (ss.map .str))]=a5 (.own,.lst ((bF ss).map .str)):=by
 change(strsOf (ss.map U.str)).bind _=_;rw[bR];change(if ss.length<64 then _ else _)=_;rw[Q8 h]
abbrev tF:Fn:=⟨"_law_book",4,10,[.set 4 (.lst []),.set 5 (.Cw b5),.Bs cb [6] .A2 [.var 3] [.set 7 (.call "_law_drawn" [.call "_law_cell" [.var 0,.bin .add (.var 1) (.var 6)],.cst (.int 11)]),.set 8 (.tup [.idx (.var 2) (.bin .mod (.idx (.var 7) (.cst (.int 0))) (.bi .len [.var 2])),.call "_law_told" [.var 7,.var 2]]),.set 9 (.tup [.idx (.var 8) (.cst (.int 0)),.bi .tuple [.bi .sorted [.idx (.var 8) (.cst (.int 1))]]]),.ite (.cmp .AL (.var 9) (.var 5)) [.put 5 (.var 9) (.cst (.bl b5)),.app 4 (.var 8)] []],.ret (.bi .tuple [.var 4])]⟩
abbrev tH(Γ:Tab):Prop:=∀(b:List Int) (names:List Str),11<=b.length->(∀d∈b,0<=d)->0<names.length ->
 ∃a:List Str,a.length<=8/\a.Nodup/\(∀x∈a,x∈names)/\Γ "_law_told" [.lst (b.map .int),.lst (names.map .str)]=a5 (.ok (.loc,.tup (a.map .str)))
structure mL(names:List Str)(r:Row):Prop where
 word:r.1∈names
 Ci:r.2.length<=8
 once:r.2.Nodup
 told:∀x∈r.2,x∈names
theorem tI(hc:iO Γ)(hd:fC Γ)(ht:tH Γ){ns:List Int}(hn:0<names.length)(hb:b<1000)(hm:m<1000):
    ∃rows:List Row,rows.length<=m/\(rows.map keyOf).Nodup/\(∀r∈rows,mL names r)/\bf Γ tF [.lst (ns.map .int),.int (b:Nat),.lst (names.map .str),.int (m:Nat)]=a5 (.ok (.loc,.tup (rows.map AI))):=by
  have hsz:(1000:Nat)<=df:=by decide
  let B:=λ(us:List U) (ks:List bN) (o6 o7 o8 o9:Option (Kd×U))=>([a5 (.any,.lst (ns.map .int)),a5 (.loc,.int (b:Nat)),a5 (.any,.lst (names.map .str)),a5 (.loc,.int (m:Nat)),a5 (.own,.lst us),a5 (.own,.Bc ks),o6,o7,o8,o9]:aq)
  let I:List (Kd×U)->aq->Prop:=λxs st=>∃(rows:List Row) (us:List U) (ks:List bN) (o6 o7 o8 o9:Option (Kd×U)),st=B us ks o6 o7 o8 o9/\us=rows.map AI/\ks=rows.map keyOf/\ks.Nodup/\(∀r∈rows,mL names r)/\rows.length+xs.length<=m/\cM m xs;have hp:(0:Int)<((names.map U.str).length:Nat):=by simp;lia
  have loop:=mG (t:=cb) (is:=[6]) (body:=execs Γ [.set 7 (.call "_law_drawn" [.call "_law_cell" [.var 0,.bin .add (.var 1) (.var 6)],.cst (.int 11)]),
      .set 8 (.tup [.idx (.var 2) (.bin .mod (.idx (.var 7) (.cst (.int 0))) (.bi .len [.var 2])),.call "_law_told" [.var 7,.var 2]]),
      .set 9 (.tup [.idx (.var 8) (.cst (.int 0)),.bi .tuple [.bi .sorted [.idx (.var 8) (.cst (.int 1))]]]),
      .ite (.cmp .AL (.var 9) (.var 5))
        [.put 5 (.var 9) (.cst (.bl b5)),
        .app 4 (.var 8)]
        []]) (rs:=[(.loc,.int (m:Nat))]) I (λ_ _ _=>trivial) (λx xs st Bm=>by
    obtain⟨rows,us,ks,o6,o7,o8,o9,e,e2,e3,A5,hw,hl,hr⟩:=Bm;subst e;obtain⟨i,hi,rfl,Dm,hlen⟩:=hr.cons;rw[k4]at hl;obtain⟨z,hz⟩:=hc ns (b+i) ⋯;rw[PZ]at hz;obtain⟨ds,d1,d2,d3⟩:=hd z 11 ⋯;obtain⟨told,t1,t2,t3,t4⟩:=ht ds names ⋯ d2 hn;have i0:AX (ds.map U.int) 0=a5 (.int (dd ds 0)):=bC (i:=0) ⋯;obtain⟨nm,G5,IG⟩:=pX (xs:=names) (t:=((names.map U.str).length:Nat)) (cN d2 0) hp (by simp);have DG:mL names (nm,told):=⟨G5,t1,t2,t3⟩
    have j0:ft (.loc,AI (nm,told)) (.int 0)=a5 (.loc,.str nm):=rfl;have j1:ft (.loc,AI (nm,told)) (.int 1)=a5 (.loc,.tup (told.map .str)):=rfl;have Cs:=sorted_strs (k:=.loc) (ss:=told) ⋯;let i6:Option (Kd×U):=a5 (.loc,.int (i:Nat));let i7:Option (Kd×U):=a5 (.own,.lst (ds.map .int));let i8:Option (Kd×U):=a5 (.loc,AI (nm,told));let i9:Option (Kd×U):=a5 (.loc,AI (keyOf (nm,told)));have g7:Run (ev Γ (.call "_law_drawn" [.call "_law_cell" [.var 0,.bin .add (.var 1) (.var 6)],.cst (.int 11)])) (B us ks i6 o7 o8 o9) (.own,.lst (ds.map .int)) (B us ks i6 o7 o8 o9):=by repeat' (first|exact hz|exact d3|sizeOf_list_dec)
    have g8:Run (ev Γ (.tup [.idx (.var 2) (.bin .mod (.idx (.var 7) (.cst (.int 0))) (.bi .len [.var 2])),.call "_law_told" [.var 7,.var 2]])) (B us ks i6 i7 o8 o9) (.loc,AI (nm,told)) (B us ks i6 i7 o8 o9):=by
      repeat' (first|exact aD i0|exact bX hp|exact aD IG|exact t4|exact wj rfl|exact(by decide:(2:Nat)<=df)|sizeOf_list_dec)
    have g9:Run (ev Γ (.tup [.idx (.var 8) (.cst (.int 0)),.bi .tuple [.bi .sorted [.idx (.var 8) (.cst (.int 1))]]])) (B us ks i6 i7 i8 o9) (.loc,AI (keyOf (nm,told))) (B us ks i6 i7 i8 o9):=by
      repeat' (first|exact j0|exact j1|exact Cs|exact(by decide:(2:Nat)<=df)|sizeOf_list_dec)
    have Fg:bo .AL (AI (keyOf (nm,told))) (.Bc ks)=a5 (et (keyOf (nm,told)∉ks)):=by
      show(((rowOf (AI (keyOf (nm,told)))).map λr=>et (r∈ks))).map (!·)=_;rw[fX];simp
    by_cases BI:keyOf (nm,told)∈ks
    · refine⟨B us ks i6 o7 o8 o9,B us ks i6 i7 i8 i9,aV,aR g7 d8 (aR g8 aV (aR g9 aV (bQ ?_ a9 a9))),⟨rows,us,ks,_,_,_,_,rfl,e2,e3,A5,hw,⋯,Dm⟩⟩
      have:bo .AL (AI (keyOf (nm,told))) (.Bc ks)=a5 cb:=by rw[Fg];simp[BI]
      exact bW (aj rfl) (cy rfl) ⟨⟨.own,rfl,rfl⟩,trivial⟩ this
    · refine⟨B us ks i6 o7 o8 o9,B (us++[AI (nm,told)]) (ks++[keyOf (nm,told)]) i6 i7 i8 i9,aV,aR g7 d8 (aR g8 aV (aR g9 aV (dH (st1:=B us ks i6 i7 i8 i9) (st2:=B (us++[AI (nm,told)]) (ks++[keyOf (nm,told)]) i6 i7 i8 i9) ?_ ?_ a9))),⟨rows++[(nm,told)],_,_,_,_,_,_,rfl,by simp[e2],by simp[e3],?_,?_,by simp;lia,Dm⟩⟩
      · have:bo .AL (AI (keyOf (nm,told))) (.Bc ks)=a5 b5:=by rw[Fg];simp[BI]
        exact bW (aj rfl) (cy rfl) ⟨⟨.own,rfl,rfl⟩,trivial⟩ this
      · have Jh:ir (AI (keyOf (nm,told))) (.bl b5) (.Bc ks)=a5 (.Bc (ks++[keyOf (nm,told)])):=by
          show(match rowOf (AI (keyOf (nm,told))),U.bl b5 with|some r,.bl b5=>if r∉ks/\ks.length<=1000 then a5 (U.Bc (ks++[r])) else b6|_,_=>b6)=_;rw[fX];show(if keyOf (nm,told)∉ks/\ks.length<=1000 then _ else _)=_;rw[Q8 ⟨BI,by rw[e3,ek];lia⟩]
        exact zQ (st1:=B us ks i6 i7 i8 i9) (st2:=B us ks i6 i7 i8 i9) (st3:=B us ks i6 i7 i8 i9) (k:=.own) (k':=.own) aB rfl (aj rfl) (bZ bu (bZ bu bx)) rfl rfl Jh
          (pT (st1:=B us (ks++[keyOf (nm,told)]) i6 i7 i8 i9) (st2:=B us (ks++[keyOf (nm,told)]) i6 i7 i8 i9) (k:=.own) (k':=.own) (us:=us) (us':=us) rfl (aj rfl) bu rfl rfl (by rw[e2,ek];lia) a9)
      · rw[FG]
        exact ⟨A5, by simp, fun y hy w EK => by have : w = keyOf (nm, told) := by simpa using EK
                                                subst this;rintro rfl;exact BI hy⟩
      · intro y hy
        rcases oa.mp hy with h|h
        · exact hw y h
        · rw[ro.mp h];exact DG)
  obtain⟨st',BR,rows,us,ks,o6,o7,o8,o9,e,e2,e3,A5,hw,hl,_⟩:=loop ((hQ m).map λi:Nat=>(Kd.loc,U.int (0+(i:Int)))) (B [] [] b6 b6 b6 b6) ⟨[],[],[],b6,b6,b6,b6,rfl,rfl,rfl,by simp,by simp,by simp,cM.all m⟩;subst e e2 e3;refine⟨rows,by simpa using hl,A5,hw,?_⟩;have hit:=iL (k:=.loc) (n:=m) ⋯;exact ar (st0:=[a5 (.any,.lst (ns.map .int)),a5 (.loc,.int (b:Nat)),a5 (.any,.lst (names.map .str)),a5 (.loc,.int (m:Nat)),b6,b6,b6,b6,b6,b6]) rfl (.inr rfl) rfl
    (aR (r:=(.own,.lst [])) (gy ah trivial bx (pb _)) d8 (aR (r:=(.own,.Bc [])) yj d8 (jL (rs:=[(.loc,.int (m:Nat))]) (st1:=B [] [] b6 b6 b6 b6) (ae (aj rfl) ah) trivial hit rfl BR
      (bw (cz (ae (cy rfl) ah) ⟨⟨.own,rfl,rfl⟩,trivial⟩ rfl) bA))))
abbrev la(Γ:Tab):Prop:=∀(ns:List Int) (b m:Nat),b<1000->m<40->∃names:List Str,names.length=m/\names.Nodup/\(∀x∈names,aJ x.cps.toList)/\Γ "_law_names" [.lst (ns.map .int),.int (b:Nat),.int (m:Nat)]=a5 (.ok (.own,.lst (names.map .str)))
abbrev tJ(Γ:Tab):Prop:=∀(ns:List Int) (names:List Str) (b m:Nat),0<names.length->b<1000->m<1000 ->
 ∃rows:List Row,rows.length<=m/\(rows.map keyOf).Nodup/\(∀r∈rows,mL names r)/\Γ "_law_book" [.lst (ns.map .int),.int (b:Nat),.lst (names.map .str),.int (m:Nat)]=a5 (.ok (.loc,.tup (rows.map AI)))
abbrev tK:Fn:=⟨"_law_made",1,3,[.set 1 (.call "_law_drawn" [.call "_law_cell" [.var 0,.cst (.int 0)],.cst (.int 4)]),.set 2 (.call "_law_names" [.var 0,.cst (.int 1),.bin .add (.cst (.int 1)) (.bin .mod (.idx (.var 1) (.cst (.int 0))) (.cst (.int 14)))]),.ret (.call "_law_book" [.var 0,.cst (.int 20),.var 2,.bin .mod (.idx (.var 1) (.cst (.int 1))) (.cst (.int 41))])]⟩
def tL(e:iO Γ)(f:fC Γ)(g:la Γ)(h:tJ Γ)(ns:List Int):∃(names:List Str) (rows:List Row),0<names.length/\names.length<=14/\names.Nodup/\(∀x∈names,aJ x.cps.toList) /\
  rows.length<=40/\(rows.map keyOf).Nodup/\(∀r∈rows,mL names r)/\bf Γ tK [.lst (ns.map .int)]=a5 (.ok (.loc,.tup (rows.map AI))):=by
 have⟨z,hz⟩:=e ns 0 ⋯;have⟨a,q,b,j⟩:=f z 4 ⋯;have k:AX (a.map U.int) 0=a5 (.int (dd a 0)):=bC (i:=0) ⋯;have l:AX (a.map U.int) 1=a5 (.int (dd a 1)):=bC (i:=1) ⋯;have s:=cN b 0;have t:=cN b 1;have⟨names,u,m,n,c⟩:=g ns 1 (1+dd a 0 % 14).toNat ⋯ ⋯;rw[JU ⋯]at c;have⟨rows,v,o,p,d⟩:=h ns names 20 (dd a 1 % 41).toNat ⋯ ⋯ ⋯;rw[JU ⋯]at d;show⟨names,rows,⋯,⋯,m,n,⋯,o,p,?_⟩;apply ar (st0:=[a5 (.any,.lst (ns.map .int)),b6,b6]) rfl (.inr rfl) rfl
 repeat' (first|show hz|show j|show aD k|show aD l|show c|show d|sizeOf_list_dec)
section
abbrev Bd(Pg:List Fn)(f:Str)(fn:Fn):Prop:=(Pg.find? λg=>et (g.name=f))=a5 fn
def av(h:Bd Pg f fn)(us:List U):Be Pg (d+1) f us=bf (Be Pg d) fn us:=by
 change(match Pg.find? λg=>et (g.name=f) with|some fn=>bf (Be Pg d) fn us|none=>b6)=_;rw[show _=a5 fn from h]
def wu(h:Bd Pg "_law_mix" qM):tv (Be Pg (d+1)):=λc k a b=>by rw[av h];show vH a b
def iP(h:Bd Pg "_law_mix" qM)(a:Bd Pg "_law_cell" pV):iO (Be Pg (d+2)):=λns k hk=>⟨_,by rw[av a];show tw (wu h) hk⟩
def drawnOk(h:Bd Pg "_law_mix" qM)(f:Bd Pg "_law_drawn" k7):fC (Be Pg (d+2)):=λc n g=>by
 have⟨i,a,b,e⟩:=qN (wu (d:=d) h) (c:=c) g;show⟨i,a,b,by rw[av f];show e⟩
def yn(f:vJ g)(h:Bd Pg "_law_name" (k8 g)):tD (Be Pg (d+1)):=λi names a b c e=>by
 have⟨x,p,q,r⟩:=tB (Γ:=Be Pg d) f a b c e;show⟨x,p,q,by rw[av h];show r⟩
def yo(h:Bd Pg "_law_told" gA):tH (Be Pg (d+1)):=λe names a b c=>by
 have⟨x,p,q,r,s⟩:=tE (Γ:=Be Pg d) a b c;show⟨x,p,q,r,by rw[av h];show s⟩
structure bK(md:E)(Pg:List Fn):Prop where
 mix:Bd Pg "_law_mix" qM
 cell:Bd Pg "_law_cell" pV
 drawn:Bd Pg "_law_drawn" k7
 name:Bd Pg "_law_name" (k8 md)
 names:Bd Pg "_law_names" fNames
 told:Bd Pg "_law_told" gA
 book:Bd Pg "_law_book" tF
def bK.iP(M:bK a Pg):iO (Be Pg (d+2)):=TM.iP M.mix M.cell
def bK.drawnOk(M:bK a Pg):fC (Be Pg (d+2)):=TM.drawnOk M.mix M.drawn
def bK.tM(a:vJ c)(M:bK c Pg):la (Be Pg (d+3)):=λns b m e f=>by
 have⟨names,p,q,r,s⟩:=qQ (Γ:=Be Pg (d+2)) M.iP M.drawnOk (TM.yn a M.name) (ns:=ns) e f;show⟨names,p,q,r,by rw[av M.names];show s⟩
@[reducible]def tN(Pg:List Fn):Prop:=bK zP Pg
def bK.namesOk(M:tN Pg):la (Be Pg (d+3)):=bK.tM vK M
def bK.yp(M:bK f Pg):tJ (Be Pg (d+3)):=λns names b m a c e=>by
 have⟨rows,p,q,r,s⟩:=tI (Γ:=Be Pg (d+2)) M.iP M.drawnOk (TM.yo M.told) (ns:=ns) a c e;show⟨rows,p,q,r,by rw[av M.book];show s⟩
end
section
def jM(h:Run (execs Γ (a++ss)) st f st2):(∃s1,Run (execs Γ a) st .nx s1/\Run (execs Γ ss) s1 f st2)\/(Run (execs Γ a) st f st2/\f≠.nx):=by
 induction a generalizing st with
 |nil=>show .inl ⟨st,a9,h⟩
 |cons s a i =>
  have h':M.bind (exec Γ s) (λf=>match f with|.nx=>execs Γ (a++ss)|f=>pure f) st=a5 (.ok f,st2):=h;unfold M.bind at h';cases e:exec Γ s st with
  |none=>rw[e]at h';cases h'
  |some p =>
   have⟨x,s1⟩:=p;rw[e]at h';cases x with
   |exc c=>cases h'
   |ok g =>
    cases g with
    |nx =>
     rcases i h' with⟨s2,b,d⟩|⟨b,d⟩
     .show .inl ⟨s2,jn e b,d⟩
     .show .inr ⟨jn e b,d⟩
    |rt k u=>cases h';show .inr ⟨vG e,λz=>nomatch z⟩
    |bk=>cases h';show .inr ⟨aa (show Run (exec Γ s) st Fl.bk _ from e) aY,λz=>nomatch z⟩
    |ct=>cases h';show .inr ⟨aa (show Run (exec Γ s) st Fl.ct _ from e) aY,λz=>nomatch z⟩
def zR(a:Run (exec Γ s) st f st1)(b:f≠.nx):Run (execs Γ (s::ss)) st f st1:=by
 cases f with
 |nx=>show absurd rfl b
 |rt k u=>show vG a
 |_=>show aa a aY
def fY(g:Run (A1 Γ c) st p st1)(h:p=b5->Run (execs Γ (a++ss)) st1 f st2)(i:p=cb->Run (execs Γ (b++ss)) st1 f st2):Run (execs Γ (.ite c a b::ss)) st f st2:=by
 cases p with
 |true =>
  rcases jM (h rfl) with⟨s1,d,e⟩|⟨d,e⟩
  .show jn (kZ g d) e
  .show zR (kZ g d) e
 |false =>
  rcases jM (i rfl) with⟨s1,d,e⟩|⟨d,e⟩
  .show jn (oi g d) e
  .show zR (oi g d) e
theorem dI{cond:M Bool}(h:aS src st)(k:Kd)(hk:k=.loc\/k=.any)(a g:α->U)(d:Kd)(e:∀y,Run cond (a5 (k,a y)::st) b5 (a5 (k,a y)::st)):∀(c:List α) (b:List U),b.length+c.length<=df ->
  (∀y∈c,Run elt (a5 (k,a y)::st) (d,g y) (a5 (k,a y)::st)/\Run (lift (d,g y)) (a5 (k,a y)::st) (g y) (a5 (k,a y)::st))->Run (aZ 1 cb cond elt src (c.map λy=>(k,a y)) b) st (b++c.map g) st
 |[],b,_,_=>by rw[JT,JT,DY];show tp h
 |y::c,b,hl,f=>by
  have⟨i,j⟩:=f y (by simp);rw[k4]at hl;show om (s1:=a5 (k,a y)::st) (s2:=a5 (k,a y)::st) (s3:=a5 (k,a y)::st) (s4:=a5 (k,a y)::st) h ?_ (e y) i j ⋯ ?_
  .rcases hk with rfl|rfl
   .show oj aV
   .show oj mF
  .have:=dI h k hk a g d e c (b++[g y]) (by simp;lia) λz hz=>f z (by simp[hz]);rw[kT];simpa using this
theorem oq(it:α->Kd×U)(I:List α->List α->aq->Prop)(hs:∀d r st,I d r st->aS rs st)
  (Pw:∀d y r st,I d (y::r) st->∃st1 st2,Run (dk t is (it y)) st () st1/\Run body st1 .nx st2/\I (d++[y]) r st2):∀(r d:List α) (st:aq),I d r st->∃st',Run (forM t is body rs (r.map it)) st .nx st'/\I (d++r) [] st'
 |[],d,st,h=>⟨st,wq (hs _ _ _ h),by rw[DY];show h⟩
 |y::r,d,st,h=>by
  have⟨s1,s2,a,b,c⟩:=Pw d y r st h;have⟨s3,e,f⟩:=oq it I hs Pw r (d++[y]) s2 c;show⟨s3,zO (hs _ _ _ h) a b e,by simpa using f⟩
def tP(a:Run (bc Γ es) st rs st1)(c:aS rs st1)(d:Γ f (rs.map (·.2))=a5 (.ok r))(e:qz r.2=a5 b)(g:isAny r.1=cb:=by show rfl):Run (A1 Γ (.call f es)) st b st1:=aa a (aa (aH c) (aa (pP d g) (cL e)))
def yq(h:Run (ev Γ (.bi f es)) st (k,.bl b) st1):Run (A1 Γ (.bi f es)) st b st1:=by
 have h':(bc Γ es >>= λrs=>ao rs >>= λ_=>M.AZ (Bt f rs)) st=a5 (.ok (k,.bl b),st1):=h;obtain⟨rs,s1,c,d,s2,e,r,s3,g,i⟩:∃rs s1,bc Γ es st=a5 (.ok rs,s1)/\∃(a:Unit) (s2:aq),ao rs s1=a5 (.ok a,s2)/\∃r s3,M.AZ (Bt f rs) s2=a5 (.ok r,s3)/\(r,s3)=((k,U.bl b),st1):=by
  have w:W (bc Γ es >>= λrs=>ao rs >>= λ_=>M.AZ (Bt f rs)) st λr s=>(r,s)=((k,U.bl b),st1):=⟨_,_,h',rfl⟩
  rw[ab]at w;have⟨rs,s1,c,w⟩:=w;rw[ab]at w;have⟨a,s2,d,w⟩:=w;have⟨r,s3,e,w⟩:=w;show⟨rs,s1,c,a,s2,d,r,s3,e,w⟩
 cases i;show aa c (aa (a:=d) e (aa g (cL rfl)))
end
theorem fZ:∀ss:List Str,fm (ss.map U.str)=b5
 |[]=>by simp[fm]
 |s::ss=>by simp[fm,A9,fZ ss]
def lb(r:Row):A9 (AI r)=b5:=by simp[AI,A9,fm,fZ]
theorem cO:∀rs:List Row,fm (rs.map AI)=b5
 |[]=>by simp[fm]
 |r::rs=>by simp[fm,lb,cO rs]
theorem iQ:∀(a b:List Str),bG (a.map U.str) (b.map U.str)=et (a=b)
 |[],[]=>by simp[bG]
 |[],_::_=>by simp[bG]
 |_::_,[]=>by simp[bG]
 |x::a,y::b=>by
  rw[kT,kT,bG,iQ a b];simp only[a_];by_cases h:x=y
  .subst h;simp
  .simp[h]
def iR(ss:List Str)(n:Nat):Bp (n+1) (.lst (ss.map U.str))=b5:=by simp[Bp,dS]
def tQ{a b:List Str}:bo .eq (.lst (a.map U.str)) (.lst (b.map U.str))=a5 (et (a=b)):=by
 simp only[bo];rw[Q8 ⟨iR a 49,iR b 49⟩];simp only[a_,iQ]
def lh:bo .eq (.str a) (.str b)=a5 (et (a=b)):=by
 simp only[bo];rw[Q8 ⟨rfl,rfl⟩];simp only[a_];by_cases h:a=b
 .subst h;simp
 .simp[h]
section
end
section
def zS(c:Run (ev Γ a) st x st1)(d:l9 x.2 T=a5 b):Run (A1 Γ (.D3 a T)) st b st1:=aa c (cL d)
end
def tR(h:xs.length+a.length<=df)(b:ie k xs=b5)(c:ie k' a=b5):B7 .add (k,.lst xs) (k',.lst a)=a5 (.own,.lst (xs++a)):=by
 simp only[B7,qw];rw[Q8 ⟨h,b,c⟩]
def c8(x y:Str):(x++y).cps.toList=x.cps.toList++y.cps.toList:=by
 change(x.cps++y.cps).toList=_;simp
def str_len(x y:Str):(x++y).length=x.length+y.length:=by rw[len_list,len_list,len_list,c8,mh]
def cm{x y:Str}(h:x.cps.toList=y.cps.toList):x=y:=by
 have⟨a⟩:=x;have⟨b⟩:=y;have:a=b:=Nk.mp h;rw[this]
end TM
namespace Od
section
variable{W:Type}[DecidableEq W]{rows:List (W×List W)}
end
end Od
namespace TM
open PySem L2 A3
section
def zT(hk:k=.loc\/k=.any):Run (dk b5 [i,j] (k,.tup [a,b])) st () ((st.set i (a5 (k,a))).set j (a5 (k,b))):=by
 rcases hk with rfl|rfl<;>rfl
end
def zU{ss:List Str}:bo .isin (.str x) (.lst (ss.map U.str))=a5 (et (x∈ss)):=by
 have h:=@iN x ss;have e:bo .AL (.str x) (.lst (ss.map U.str))=(bo .isin (.str x) (.lst (ss.map U.str))).map (!·):=rfl;rw[e,eH]at h;have⟨b,a,c⟩:=h;rw[a];congr 1
 cases b<;>simp_all
def vM(bs:List Bool):Bt .all [(k,.lst (bs.map .bl))]=a5 (.loc,.bl (bs.all id)):=by
 change(ig (bs.map U.bl)).map _=_;have:∀bs:List Bool,ig (bs.map U.bl)=a5 bs:=λbs=>by
  induction bs with
  |nil=>rfl
  |cons b bs a=>change(ig (bs.map U.bl)).map _=_;rw[a];rfl
 rw[this];rfl
mutual
theorem jN:∀(n:Nat) (u:U),Bp n u=b5->a_ u u=b5
 |_,.AM,_=>rfl
 |_,.bl b,_=>by simp[a_]
 |_,.int i,_=>by simp[a_]
 |_,.str x,_=>by simp[a_]
 |0,.tup xs,h=>by simp[Bp]at h
 |0,.lst xs,h=>by simp[Bp]at h
 |n+1,.tup xs,h=>by rw[a_];show eS n xs (by simpa[Bp] using h)
 |n+1,.lst xs,h=>by rw[a_];show eS n xs (by simpa[Bp] using h)
 |_,.Bo _ _,h=>by simp[Bp]at h
 |_,.Bc _,h=>by simp[Bp]at h
theorem eS:∀(n:Nat) (us:List U),fq n us=b5->bG us us=b5
 |_,[],_=>rfl
 |n,u::us,h=>by
  have h':Bp n u=b5/\fq n us=b5:=by simpa[fq] using h
  rw[bG,jN n u h'.1,eS n us h'.2];rfl
end
def qR(h:Bp 50 u=b5):bo .ne u u=a5 cb:=by
 simp only[bo];rw[Q8 ⟨h,h⟩,jN 50 u h];rfl
section
end
section
end
end TM
namespace K
open PySem L2 TM
abbrev top(i:Nat):Hq:=PySem.Challenge.pw_primer_k05_shown_and_read.main.body.getD i (.Pass ⟨0,0,0,0⟩)
abbrev dU:Fn:=⟨"is_stem",1,1,[.ite (.or [.cmp .eq (.var 0) (.cst (.str "")),.cmp .gt (.bi .len [.var 0]) (.BW "LONGEST_STEM" (.int 8))]) [.ret (.cst (.bl cb))] [],.ret (.bi .all [.comp 1 cb .seq [.var 0] [] (.cmp .isin (.var 0) (.BW "LETTERS" (.str "abcdefghijklmnopqrstuvwxyz")))])]⟩
abbrev bq:Fn:=⟨"is_later_sense",1,1,[.ret (.cmp .isin (.var 0) (.comp 1 cb .Du [.bin .add (.BW "FIRST_SENSE" (.int 1)) (.cst (.int 1)),.bin .add (.BW "LAST_SENSE" (.int 99)) (.cst (.int 1))] [] (.bi .str [.var 0])))]⟩
abbrev dW:Fn:=⟨"is_word",1,1,[.ite (.cmp .AL (.cst (.str "/")) (.var 0)) [.ret (.call "is_stem" [.var 0])] [],.ret (.and [.call "is_stem" [.call "stem_of" [.var 0]],.call "is_later_sense" [.call "number_of" [.var 0]]])]⟩
abbrev f6:Fn:=⟨"stem_of",1,1,[.ret (.idx (.BB .partition (.var 0) [.cst (.str "/")]) (.cst (.int 0)))]⟩
abbrev dJ:Fn:=⟨"number_of",1,1,[.ret (.idx (.BB .partition (.var 0) [.cst (.str "/")]) (.cst (.int 2)))]⟩
abbrev fD:Fn:=⟨"is_row",1,2,[.set 1 (.idx (.var 0) (.cst (.int 1))),.ite (.or [.cmp .gt (.bi .len [.var 1]) (.BW "MOST_TOLD" (.int 8)),.cmp .lt (.Dw .eW [.var 1]) (.bi .len [.var 1])]) [.ret (.cst (.bl cb))] [],.ret (.and [.call "is_word" [.idx (.var 0) (.cst (.int 0))],.bi .all [.comp 1 cb .seq [.var 1] [] (.call "is_word" [.var 0])]])]⟩
abbrev bj:Fn:=⟨"in_one_order",1,1,[.ret (.tup [.idx (.var 0) (.cst (.int 0)),.bi .tuple [.bi .sorted [.idx (.var 0) (.cst (.int 1))]]])]⟩
abbrev br:Fn:=⟨"has_alike_rows",1,1,[.ret (.cmp .lt (.Dw .eW [.comp 1 cb .seq [.var 0] [] (.call "in_one_order" [.var 0])]) (.bi .len [.var 0]))]⟩
abbrev lj:Fn:=⟨"fits",1,1,[.ite (.cmp .gt (.bi .len [.var 0]) (.BW "MOST_ROWS" (.int 60))) [.ret (.cst (.bl cb))] [],.ret (.and [.bi .all [.comp 1 cb .seq [.var 0] [] (.call "is_row" [.var 0])],.not (.call "has_alike_rows" [.var 0])])]⟩
abbrev fE:Fn:=⟨"fitted",1,1,[.ite (.not (.call "fits" [.var 0])) [.bad] [],.ret (.var 0)]⟩
abbrev ll:Fn:=⟨"read",1,1,[.ite (.not (.D3 (.var 0) .str)) [.bad] [],.ite (.cmp .eq (.var 0) (.cst (.str ""))) [.ret (.tup [])] [],.ret (.call "fitted" [.bi .tuple [.comp 1 cb .seq [.BB .split (.var 0) [.cst (.str "\n")]] [] (.call "read_row" [.var 0])]])]⟩
abbrev c9:Fn:=⟨"read_row",1,2,[.set 1 (.BB .split (.var 0) [.cst (.str " ")]),.ite (.or [.cmp .lt (.bi .len [.var 1]) (.cst (.int 3)),.not (.call "is_word" [.idx (.var 1) (.cst (.int 0))]),.cmp .ne (.idx (.var 1) (.cst (.int 1))) (.cst (.str "="))]) [.bad] [],.ret (.tup [.idx (.var 1) (.cst (.int 0)),.call "read_told" [.Dv (.var 1) [.cst (.int 2)] []]])]⟩
abbrev cu:Fn:=⟨"read_told",1,1,[.ite (.cmp .eq (.var 0) (.lst [.BW "PICTURE_SIGN" (.str "*")])) [.ret (.tup [])] [],.ite (.not (.bi .all [.comp 1 cb .seq [.var 0] [] (.call "is_word" [.var 0])])) [.bad] [],.ret (.bi .tuple [.var 0])]⟩
abbrev gN:Fn:=⟨"shown",1,1,[.ret (.BB .join (.cst (.str "\n")) [.comp 1 cb .seq [.var 0] [] (.bin .add (.bin .add (.idx (.var 0) (.cst (.int 0))) (.cst (.str " = "))) (.call "shown_told" [.idx (.var 0) (.cst (.int 1))]))])]⟩
abbrev b0:Fn:=⟨"shown_told",1,1,[.ite (.cmp .eq (.var 0) (.tup [])) [.ret (.BW "PICTURE_SIGN" (.str "*"))] [],.ret (.BB .join (.cst (.str " ")) [.var 0])]⟩
noncomputable abbrev jO:Fn:=TM.qM
noncomputable abbrev iS:Fn:=TM.pV
noncomputable abbrev gB:Fn:=TM.k7
abbrev iT:Fn:=⟨"_law_name",2,6,[.set 2 (.cst (.str "abcdefghijklmnopqrstuvwxyz")),.set 3 (.BB .join (.cst (.str "")) [.comp 1 cb .A2 [.bin .add (.cst (.int 1)) (.bin .mod (.idx (.var 0) (.cst (.int 0))) (.cst (.int 8)))] [] (.idx (.var 3) (.bin .mod (.idx (.var 1) (.bin .add (.cst (.int 4)) (.var 0))) (.cst (.int 26))))]),.ite (.cmp .gt (.bi .len [.var 1]) (.cst (.int 0))) [.set 4 (.idx (.BB .split (.idx (.var 1) (.bin .mod (.idx (.var 0) (.cst (.int 1))) (.bi .len [.var 1]))) [.cst (.str "/")]) (.cst (.int 0))),.ite (.cmp .eq (.bin .mod (.idx (.var 0) (.cst (.int 2))) (.cst (.int 4))) (.cst (.int 1))) [.set 3 (.Dv (.bin .add (.var 4) (.var 3)) [] [.cst (.int 8)])] [],.ite (.cmp .eq (.bin .mod (.idx (.var 0) (.cst (.int 2))) (.cst (.int 4))) (.cst (.int 2))) [.set 3 (.bin .add (.bin .add (.var 4) (.cst (.str "/"))) (.bi .str [.bin .add (.cst (.int 2)) (.bin .mod (.idx (.var 0) (.cst (.int 3))) (.cst (.int 98)))]))] []] [],.set 5 (.bin .add (.lst [.var 3]) (.comp 1 cb .A2 [.cst (.int 40)] [] (.bin .add (.idx (.var 3) (.bin .Cc (.var 0) (.cst (.int 26)))) (.idx (.var 3) (.bin .mod (.var 0) (.cst (.int 26))))))),.ret (.idx (.comp 1 cb .seq [.var 5] [.cmp .AL (.var 0) (.var 2)] (.var 0)) (.cst (.int 0)))]⟩
noncomputable abbrev gC:Fn:=TM.fNames
noncomputable abbrev iU:Fn:=TM.gA
noncomputable abbrev iV:Fn:=TM.tF
noncomputable abbrev iW:Fn:=TM.tK
abbrev pY:Fn:=⟨"law",1,7,[.set 1 (.call "_law_made" [.var 0]),.set 2 (.lst []),.Bs b5 [3,4] .seq [.var 1] [.app 2 (.bin .add (.bin .add (.var 3) (.cst (.str " = "))) (.BB .join (.cst (.str " ")) [.bin .add (.bi .list [.var 4]) (.bin .mul (.lst [.cst (.str "*")]) (.bi .int [.cmp .eq (.var 4) (.tup [])]))]))],.set 5 (.BB .join (.cst (.str "\n")) [.var 2]),.Bs cb [6] .A2 [.cst (.int 2)] [.ite (.or [.cmp .ne (.bi .repr [.call "shown" [.var 1]]) (.bi .repr [.var 5]),.cmp .ne (.bi .repr [.call "read" [.var 5]]) (.bi .repr [.var 1])]) [.ret (.cst (.bl cb))] []],.ret (.and [.cmp .eq (.call "read" [.cst (.str "")]) (.tup []),.cmp .eq (.call "shown" [.tup []]) (.cst (.str ""))])]⟩
abbrev prog:List Fn:=[dU,bq,dW,f6,dJ,fD,bj,br,lj,fE,ll,c9,cu,gN,b0,jO,iS,gB,iT,gC,iU,iV,iW,pY]
abbrev ck:Ck:=⟨prog.map (·.name),[("FIRST_SENSE",(.int 1)),("LAST_SENSE",(.int 99)),("LETTERS",(.str "abcdefghijklmnopqrstuvwxyz")),("LONGEST_STEM",(.int 8)),("MOST_ROWS",(.int 60)),("MOST_TOLD",(.int 8)),("PICTURE_SIGN",(.str "*"))]⟩
end K
namespace TM
open PySem L2 A3
def word_short{x:Str}(h:aJ x.cps.toList):x.length<=20/\∀c∈x.cps.toList,c<16 ^ 8:=by
 have g:∀n:_root_.Fin 100,∀c∈(cC ((n:Nat):Int)).cps.toList,c<16 ^ 8:=by decide +kernel
 rw[len_list];rcases h with h|⟨a,b,k,e,h,o,i,f⟩
 .have⟨j,l,d⟩:=(aN _).mp h;show⟨⋯,λc hc=>by have:=d c hc;lia⟩
 .have⟨j,l,d⟩:=(aN _).mp h;have hl:=fW (k:=k) ⋯ i;rw[len_list,f]at hl;rw[e];show⟨by simp;lia,λc hc=>?_⟩;rcases oa.mp hc with hc|hc
  .have:=d c hc;lia
  .rcases fx.mp hc with rfl|hc
   .decide
   .rw[<-f]at hc;have:=g ⟨k.toNat,⋯⟩ c;have m:(((k.toNat:Nat)):Int)=k:=by lia
    rw[show(((⟨k.toNat,⋯⟩:_root_.Fin 100):Nat):Int)=k from m]at this;show this hc
abbrev Rp(n b:Nat)(u:U):Prop:=∃d,dh u=a5 d/\d.showable=b5/\d.depth<=n/\d.leavesShort 8=b5/\d.bulk<=b
def tS(h:x.length<=20/\∀c∈x.cps.toList,c<16 ^ 8):Rp 0 20 (.str x):=by
 show⟨.str x,rfl,by simp[K8],by simp[M3],?_,?_⟩
 .simp only[Hy,va,Q6];show h.2
 .simp only[LO];show h.1
theorem ot:∀{us:List U},(∀u∈us,Rp n b u)->∃a,gH us=a5 a/\Oq a=b5/\O2 a<=n/\Oa 8 a=b5/\Pf a<=(b+1) * us.length
 |[],_=>⟨[],rfl,rfl,pb _,rfl,pb _⟩
 |u::us,h=>by
  have⟨a,e,c,l,g,m⟩:=ot λv i=>h v (eu _ i);have⟨d,f,j,o,k,p⟩:=h u gm;show⟨d::a,?_,?_,?_,?_,?_⟩
  .change(dh u).bind (λd=>(gH us).map (d::·))=_;rw[f,e];rfl
  .simp only[Oq,c,j,N5]
  .simp only[O2];lia
  .simp only[Oa,g,k,N5]
  .simp only[Pf,k4,Nat.mul_add];lia
def tT(h:∀u∈us,Rp n b u):Rp (n+1) ((b+1) * us.length) (.tup us):=by
 have⟨a,e,c,g,d,f⟩:=ot h;show⟨.tuple a,?_,by simp only[K8];show c,by simp only[M3];lia,by simp only[Hy];show d,by simp only[LO];show f⟩;change(gH us).map _=_;rw[e];rfl
def tU(h:Rp n b u)(g:n<=m)(i:b<=c):Rp m c u:=by
 have⟨d,f,a,j,e,k⟩:=h;show⟨d,f,a,⋯,e,⋯⟩
def yr(l:Bool)(h:∀u∈us,Rp n b u)(f:n<=40)(g:(b+1) * us.length<=2 ^ 20):∃s:Str,∀k,Bt .repr [(k,if l=b5 then .lst us else .tup us)]=a5 (.loc,.str s):=by
 have⟨a,e,c,i,d,j⟩:=ot h;cases l with
 |false =>
  show⟨(PyData.tuple a).shown,λk=>?_⟩;change(dh (.tup us)).bind _=_;have e:dh (.tup us)=a5 (.tuple a):=by change(gH _).map _=_;rw[e];rfl
  rw[e];change(if _/\_/\_/\_ then _ else _)=_;rw[Q8 ⟨by simp only[K8];show c,by simp only[M3];lia,K1 (B:=8) ⋯ ⋯ (by simp only[Hy];show d) (by simp only[LO];lia),rfl⟩]
 |true =>
  show⟨(PyData.list a).shown,λk=>?_⟩;change(dh (.lst us)).bind _=_;have e:dh (.lst us)=a5 (.list a):=by change(gH _).map _=_;rw[e];rfl
  rw[e];change(if _/\_/\_/\_ then _ else _)=_;rw[Q8 ⟨by simp only[K8];show c,by simp only[M3];lia,K1 (B:=8) ⋯ ⋯ (by simp only[Hy];show d) (by simp only[LO];lia),rfl⟩]
def yt(e:r.2.length<=8)(a:aJ r.1.cps.toList)(c:∀x∈r.2,aJ x.cps.toList):Rp 2 400 (AI r):=by
 have h:Rp 1 168 (.tup (r.2.map .str)):=tU (tT (n:=0) (b:=20) λu hu=>by
  have⟨x,d,rfl⟩:=lg.mp hu;show tS (word_short (c x d))) (ke _) (by rw[ek];lia)
 show tU (tT (n:=1) (b:=168) (us:=[.str r.1,.tup (r.2.map .str)]) λu hu=>?_) (ke _) (by change 169 * 2<=400;lia);rcases fx.mp hu with rfl|hu
 .show tU (tS (word_short a)) ⋯ ⋯
 .rw[ro.mp hu];show h
abbrev jl(c:Nat):List Str->List Nat
 |[]=>[]
 |[x]=>x.cps.toList
 |x::y::r=>x.cps.toList++c::jl c (y::r)
def bU(c:Nat):∀xs:List Str,(AV ⟨#[c]⟩ xs).cps.toList=jl c xs:=by
 have h:∀xs:List Str,(OF ⟨#[c]⟩ xs).cps.toList=jl c xs:=λxs=>by
  match xs with
  |[]=>rfl
  |[x]=>rfl
  |x::y::r =>
   have a:=bU.go c (y::r);change(x++(⟨#[c]⟩:Str)++OF ⟨#[c]⟩ (y::r)).cps.toList=_;rw[c8,c8,a,jl,Ha];rfl
 intro xs;change(N2 ⟨#[c]⟩ xs).cps.toList=_;rw[N1];show h xs
where go (c:Nat):∀xs:List Str,(OF ⟨#[c]⟩ xs).cps.toList=jl c xs
 |[]=>rfl
 |[x]=>rfl
 |x::y::r=>by
  change(x++(⟨#[c]⟩:Str)++OF ⟨#[c]⟩ (y::r)).cps.toList=_;rw[c8,c8,go c (y::r),jl,Ha];rfl
theorem tV:∀{xs a:List Str},xs≠[]->a≠[]->(∀x∈xs,c∉x.cps.toList)->(∀y∈a,c∉y.cps.toList)->jl c xs=jl c a->xs=a
 |[],_,h,_,_,_,_=>absurd rfl h
 |_::_,[],_,h,_,_,_=>absurd rfl h
 |[x],[y],_,_,_,_,e=>by rw[TM.cm (show x.cps.toList=y.cps.toList from e)]
 |[x],y::z::r,_,_,b,_,e=>by
  have e:x.cps.toList=y.cps.toList++c::jl c (z::r):=e;show absurd (by rw[e];simp) (b x (by simp))
 |x::z::r,[y],_,_,_,d,e=>by
  have e:x.cps.toList++c::jl c (z::r)=y.cps.toList:=e;show absurd (by rw[<-e];simp) (d y (by simp))
 |x::z::r,y::f::g,_,_,b,d,e=>by
  have e:x.cps.toList++c::jl c (z::r)=y.cps.toList++c::jl c (f::g):=e;have⟨i,j⟩:=j9 e (b x (by simp)) (d y (by simp));rw[TM.cm i,tV (Nr _ _) (Nr _ _) (λx k=>b x (eu _ k)) (λy l=>d y (eu _ l)) j]
def iX(h:xs≠[])(a:∀x∈xs,x.cps.toList≠[])(b:∀x∈xs,c∉x.cps.toList):DX (AV ⟨#[c]⟩ xs) ⟨#[c]⟩=xs:=by
 have d:=StrLaws.join_split (AV ⟨#[c]⟩ xs) ⟨#[c]⟩;have e:jl c (DX (AV ⟨#[c]⟩ xs) ⟨#[c]⟩)=jl c xs:=by
  rw[<-bU.go,d,bU]
 show tV (λz=>?_) h (StrLaws.split_free _ c) b e;rw[z]at e;cases xs with
 |nil=>show h rfl
 |cons x r =>
  cases r with
  |nil=>show a x (by simp) e.symm
  |cons y r=>show absurd e.symm (by change x.cps.toList++c::_≠[];simp)
def vN(x:Str)(c:Nat):E_ ⟨#[c]⟩ x=et (c∈x.cps.toList):=PySem.StrLaws.found_one x c
def lp{x:Str}(h:aJ x.cps.toList):∀c∈x.cps.toList,47<=c:=by
 have f:∀n:_root_.Fin 100,∀c∈(cC ((n:Nat):Int)).cps.toList,47<=c:=by decide +kernel
 rcases h with h|⟨a,b,k,e,h,m,o,g⟩
 .have⟨i,j,d⟩:=(aN _).mp h;show λc hc=>by have:=d c hc;lia
 .have⟨i,j,d⟩:=(aN _).mp h;rw[e];intro c hc;rcases oa.mp hc with hc|hc
  .have:=d c hc;lia
  .rcases fx.mp hc with rfl|hc
   .decide
   .rw[<-g]at hc;have:=f ⟨k.toNat,⋯⟩ c;have l:(((k.toNat:Nat)):Int)=k:=by lia
    rw[show(((⟨k.toNat,⋯⟩:_root_.Fin 100):Nat):Int)=k from l]at this;show this hc
def vO(a:0<=i)(b:i<=99):Bt .str [(k,.int i)]=a5 (.loc,.str (cC i)):=by
 simp only[Bt,dX,si];rw[Q8 (by
  by_cases hz:i.natAbs=0
  .rw[hz];decide
  .have:i.natAbs<2 ^ 7:=by lia
   have:=(QJ hz).mpr this;lia)]
 rfl
theorem wx:∀(l D:List bN),(D++l).Nodup->l.foldl l3 D=D++l
 |[],D,_=>by simp
 |x::l,D,h=>by
  have a:x∉D:=λz=>by
   rw[FG]at h;show h.2.2 x z x (by simp) rfl
  rw[GA,l3,Q9 a,wx l (D++[x]) (by simpa using h)];simp
theorem mM:∀rs:List Row,ij (rs.map AI)=a5 rs
 |[]=>rfl
 |r::rs=>by
  rw[kT,ij,fX,mM rs];rfl
def qS{rs:List Row}(h:rs.Nodup)(hl:rs.length<=64):nF .eW [(k,.lst (rs.map AI))]=a5 (.loc,.int (rs.length:Nat)):=by
 change il (k,.lst (rs.map AI))=_;unfold il;cases rs with
 |nil=>rfl
 |cons r rs =>
  have e:nE (.lst ((r::rs).map AI))=b6:=rfl;rw[show(k,U.lst ((r::rs).map AI)).2=U.lst ((r::rs).map AI) from rfl,e];change(ij ((r::rs).map AI)).bind _=_;rw[mM];change(if (r::rs).length<=64 then _ else _)=_;rw[Q8 hl,show bg (r::rs)=r::rs from wx _ [] h]
def qT{ss:List Str}(h:ss.Nodup)(hl:ss.length<=100):nF .eW [(k,.tup (ss.map .str))]=a5 (.loc,.int (ss.length:Nat)):=by
 change il (k,.tup (ss.map .str))=_;unfold il;have e:nE (.tup (ss.map U.str))=a5 (aE ss):=by
  change(strsOf (ss.map U.str)).bind _=_;rw[bR];change(if ss.length+1<FP then _ else _)=_;rw[Q8 (by change ss.length+1<4096;lia)]
 rw[show(k,U.tup (ss.map U.str)).2=U.tup (ss.map U.str) from rfl,e];have b:=g_ ss;have c:=iI h λx a=>(ng ss x).mpr a;change a5 (Kd.loc,U.int ((aE ss).length:Nat))=_;rw[show(aE ss).length=ss.length by lia]
end TM
namespace K
open PySem L2 TM A3
section
variable{Γ:Tab}{names:List Str}{rows:List Row}
def AD(h:Run (ev Γ a) st (k,.bl c) st1):Run (ev Γ (.not a)) st (.loc,.bl !c) st1:=aa h aY
def yu{bs:List Bool}(h:∀b∈bs,b=b5):Bt .all [(k,.lst (bs.map .bl))]=a5 (.loc,.bl b5):=by
 rw[vM];congr 3
 rw[va];show h
def tW(h:cj x.cps.toList=b5):bf Γ dU [.str x]=a5 (.ok (.loc,.bl b5)):=by
 have hsz:(1000:Nat)<=df:=by decide
 have⟨a,d,e⟩:=(aN _).mp h;have hl:x.length<=8:=by rw[len_list];show d
 have f:x≠"":=λz=>by rw[z]at a;show absurd a (by decide)
 let S:aq:=[a5 (.loc,.str x)]
 have g:Run (A1 Γ (.or [.cmp .eq (.var 0) (.cst (.str "")),.cmp .gt (.bi .len [.var 0]) (.BW "LONGEST_STEM" (.int 8))])) S cb S:=by
  show vF (mE (bW (aj rfl) aB trivial ?_) (pS (bW (cz (rs:=[(.loc,.str x)]) (r:=(.loc,.int (x.length:Nat))) (ae (aj rfl) ah) trivial ?_) gw trivial (gz (Q7 ⋯)))))
  .rw[lh,Q7 f]
  .change(uW (.str x)).map _=_;change(if x.length<=df then a5 x.length else b6).map _=_;rw[Q8 ⋯];rfl
 have b:=dI (cond:=aG Γ []) (elt:=ev Γ (.cmp .isin (.var 0) (.BW "LETTERS" (.str "abcdefghijklmnopqrstuvwxyz")))) (src:=[(.loc,.str x)]) (st:=S) trivial .loc (.inl rfl) (λc:Nat=>U.str ⟨#[c]⟩) (λ_=>U.bl b5) .loc (λ_=>fB) x.cps.toList [] (by rw[Jr,Ni];lia)
  (λc i=>⟨gx (c:=b5) (aj rfl) gw trivial (by
   change a5 (E_ ⟨#[c]⟩ "abcdefghijklmnopqrstuvwxyz")=_;have:=mX "abcdefghijklmnopqrstuvwxyz" (by decide +kernel) c;rw[show E_ ⟨#[c]⟩ "abcdefghijklmnopqrstuvwxyz"=low c from this];have:=e c i;simp[low,this.1,this.2]),bu⟩)
 rw[uv]at b;have j:Bt .all [(.own,.lst (x.cps.toList.map λ_=>U.bl b5))]=a5 (.loc,.bl b5):=by
  have:=yu (k:=.own) (bs:=x.cps.toList.map λ_=>b5) (by simp);rw[nt]at this;show this
 show ar rfl (.inr rfl) (show TM.start [.str x] 1=S from rfl) (fY g (λz=>by cases z) λ_=>bw (cz (ae (cA (rs:=[(.loc,.str x)]) (ae (aj rfl) ah) trivial rfl b) ah) trivial j) bA)
def qU(d:2<=k)(f:k<=99):bf Γ bq [.str (cC k)]=a5 (.ok (.loc,.bl b5)):=by
 have hsz:(1000:Nat)<=df:=by decide
 let S:aq:=[a5 (.loc,.str (cC k))]
 have a:=dI (cond:=aG Γ []) (elt:=ev Γ (.bi .str [.var 0])) (src:=[(.loc,.int (1+1)),(.loc,.int (99+1))]) (st:=S) trivial .loc (.inl rfl) (λi:Nat=>U.int (2+(i:Int))) (λi=>U.str (cC (2+(i:Int)))) .loc (λ_=>fB) (hQ 98) [] (by simp;lia)
  (λi b=>⟨cz (ae (aj rfl) ah) trivial (vO ⋯ (by have:=w4.mp b;lia)),bu⟩)
 rw[uv]at a;have e:((hQ 98).map λi:Nat=>U.str (cC (2+(i:Int))))=((hQ 98).map λi:Nat=>cC (2+(i:Int))).map U.str:=by rw[nt];rfl
 rw[e]at a;show ar rfl (.inr rfl) (show TM.start [.str (cC k)] 1=S from rfl) (bw (gx (c:=b5) (aj rfl) (cA (rs:=[(.loc,.int (1+1)),(.loc,.int (99+1))]) (ae (cq gw aB trivial d9) (ae (cq gw aB trivial d9) ah)) trivial rfl a) trivial ?_) bA);change bo .isin (.str (cC k)) (.lst (((hQ 98).map λi:Nat=>cC (2+(i:Int))).map U.str))=_;rw[zU,Q_];show lg.mpr ⟨(k - 2).toNat,w4.mpr ⋯,by rw[show(2:Int)+((k - 2).toNat:Nat)=k by lia]⟩
def tX(a:fn=⟨fn.name,1,1,[.ret (.idx (.BB .partition (.var 0) [.cst (.str "/")]) (.cst (.int n)))]⟩)(hl:x.length<=1000)(h:AX [U.str (qs x "/").1,.str (qs x "/").2.1,.str (qs x "/").2.2] n=a5 (.str y)):bf Γ fn [.str x]=a5 (.ok (.loc,.str y)):=by
 have hsz:(1000:Nat)<=df:=by decide
 have b:dy .partition (.str x) [(.loc,.str "/")]=a5 (.loc,.tup [.str (qs x "/").1,.str (qs x "/").2.1,.str (qs x "/").2.2]):=by
  change(if (LL "/"==0)=cb/\x.length<=df then _ else _)=_;rw[Q8 ⟨by decide,⋯⟩]
 rw[a];show ar (st0:=[a5 (.loc,.str x)]) rfl (.inr rfl) rfl (bw (dg (d7 (aj rfl) (ae aB ah) trivial b) aB trivial (mV h)) bA)
abbrev fF(Γ:Tab):Prop:=∀x:Str,aJ x.cps.toList->Γ "is_word" [.str x]=a5 (.ok (.loc,.bl b5))
def tY(f:∀x:Str,cj x.cps.toList=b5->Γ "is_stem" [.str x]=a5 (.ok (.loc,.bl b5)))(i:∀k:Int,2<=k->k<=99->Γ "is_later_sense" [.str (cC k)]=a5 (.ok (.loc,.bl b5)))
    (hs:∀x y:Str,x.length<=1000->(qs x "/").1=y->Γ "stem_of" [.str x]=a5 (.ok (.loc,.str y))) (d:∀x y:Str,x.length<=1000->(qs x "/").2.2=y->Γ "number_of" [.str x]=a5 (.ok (.loc,.str y)))
 (h:aJ x.cps.toList):bf Γ dW [.str x]=a5 (.ok (.loc,.bl b5)):=by
  have hl:x.length<=11:=by rw[len_list];show h.len.2
  let S:aq:=[a5 (.loc,.str x)]
  have c:Run (A1 Γ (.cmp .AL (.cst (.str "/")) (.var 0))) S (!et (47∈x.cps.toList)) S:=bW aB (aj rfl) trivial (by
    change(a5 (E_ "/" x)).map _=_;rw[show E_ "/" x=et (47∈x.cps.toList) from vN x 47];rfl)
  rcases h with h|⟨a,b,k,e,h,j,l,m⟩
  . have d:47∉x.cps.toList:=eY h
    rw[Q7 d]at c;show ar rfl (.inr rfl) (show TM.start [.str x] 1=S from rfl) (iJ c (bw (aM (ae (aj rfl) ah) trivial (f x h)) bA))
  . rw[Q_ (by rw[e];simp)]at c
    have g:=A3.uC e (eY h);have n:(⟨b.toArray⟩:Str)=cC k:=TM.cm (by simpa using m.symm);have o:=f ⟨a.toArray⟩ (by simpa using h);have q:=hs x ⟨a.toArray⟩ ⋯ (by rw[show("/":Str)=⟨#[47]⟩ from rfl,g]);have r:=d x (cC k) ⋯ (by rw[show("/":Str)=⟨#[47]⟩ from rfl,g];show n);show ar rfl (.inr rfl) (show TM.start [.str x] 1=S from rfl) (fY c (λz=>by cases z) λ_=>bw (pQ (kY (p:=b5) (aM (ae (aM (ae (aj rfl) ah) trivial q) ah) trivial o) (by rw[Q8 rfl];show kX (aM (ae (aM (ae (aj rfl) ah) trivial r) ah) trivial (i k j l))))) bA)
def jP(c:fF Γ){ss:List Str}(hs:∀x∈ss,aJ x.cps.toList)(hl:ss.length<=1000)(h:Run (ev Γ e) st (k,u) st)(d:aS [(k,u)] st)(hk:k'=.loc\/k'=.any)(b:BP .seq [(k,u)]=a5 (ss.map λx=>(k',U.str x))):Run (ev Γ (.bi .all [.comp 1 cb .seq [e] [] (.call "is_word" [.var 0])])) st (.loc,.bl b5) st:=by
 have hsz:(1000:Nat)<=df:=by decide
 have a:=dI (cond:=aG Γ []) (elt:=ev Γ (.call "is_word" [.var 0])) (src:=[(k,u)]) (st:=st) d k' hk U.str (λ_=>U.bl b5) .loc (λ_=>fB) ss [] (by simp;lia)
  (λx a=>by
   rcases hk with rfl|rfl
   .show⟨aM (ae (aj rfl) ah) trivial (c x (hs x a)),bu⟩
   .show⟨aM (ae (dG rfl) ah) trivial (c x (hs x a)),bu⟩)
 rw[uv]at a;have f:Bt .all [(.own,.lst (ss.map λ_=>U.bl b5))]=a5 (.loc,.bl b5):=by
  have:=yu (k:=.own) (bs:=ss.map λ_=>b5) (by simp);rw[nt]at this;show this
 show cz (ae (cA (rs:=[(k,u)]) (ae h ah) d b a) ah) trivial f
def vP(a:fF Γ)(j:r.2.length<=8)(c:r.2.Nodup)(d:aJ r.1.cps.toList)(e:∀x∈r.2,aJ x.cps.toList):bf Γ fD [AI r]=a5 (.ok (.loc,.bl b5)):=by
 have hsz:(1000:Nat)<=df:=by decide
 have g:TM.start [AI r] 2=[a5 (.loc,AI r),b6]:=by simp[TM.start,lb]
 let S:aq:=[a5 (.loc,AI r),a5 (.loc,.tup (r.2.map .str))]
 have i:Run (A1 Γ (.or [.cmp .gt (.bi .len [.var 1]) (.BW "MOST_TOLD" (.int 8)),.cmp .lt (.Dw .eW [.var 1]) (.bi .len [.var 1])])) S cb S:=by
  have b:Run (ev Γ (.bi .len [.var 1])) S (.loc,.int (r.2.length:Nat)) S:=by
   have h:=cz (Γ:=Γ) (st:=S) (f:=.len) (es:=[.var 1]) (ae (aj rfl) ah) trivial (k6 (xs:=r.2.map U.str));rw[ek]at h;show h
  show vF (mE (bW b gw trivial (gz (Q7 ⋯))) (pS (bW (wg (ae (aj rfl) ah) trivial (qT c ⋯)) b trivial (mH (Q7 ⋯)))))
 show ar rfl (.inr rfl) g (aR (dg (x:=(.loc,AI r)) (aj rfl) aB trivial rfl) aV (fY i (λz=>by cases z) λ_ =>
  bw (pQ (kY (p:=b5) (aM (ae (dg (x:=(.loc,AI r)) (aj rfl) aB trivial rfl) ah) trivial (a r.1 d)) (by rw[Q8 rfl];show kX (jP a e ⋯ (aj rfl) trivial (.inl rfl) (by change a5 _=_;rw[nt];rfl))))) bA))
def vQ(h:r.2.length<64):bf Γ bj [AI r]=a5 (.ok (.loc,AI (keyOf r))):=by
 have a:=sorted_strs (k:=.loc) (ss:=r.2) h;have b:ft (.loc,AI r) (.int 0)=a5 (.loc,.str r.1):=rfl;have c:ft (.loc,AI r) (.int 1)=a5 (.loc,.tup (r.2.map .str)):=rfl;apply ar (st0:=[a5 (.loc,AI r)]) rfl (.inr rfl) (by simp[TM.start,lb,bj])
 repeat' (first|show b|show c|show a|show(by decide:(2:Nat)<=df)|sizeOf_list_dec)
def ou(ho:∀r:Row,r.2.length<64->Γ "in_one_order" [AI r]=a5 (.ok (.loc,AI (keyOf r))))(b:∀r∈rows,r.2.length<=8)(hl:rows.length<=64)(hk:(rows.map keyOf).Nodup):bf Γ br [.tup (rows.map AI)]=a5 (.ok (.loc,.bl cb)):=by
 have hsz:(1000:Nat)<=df:=by decide
 let S:aq:=[a5 (.loc,.tup (rows.map AI))]
 have c:TM.start [.tup (rows.map AI)] 1=S:=by simp[TM.start,A9,cO,S]
 have a:=dI (cond:=aG Γ []) (elt:=ev Γ (.call "in_one_order" [.var 0])) (src:=[(.loc,.tup (rows.map AI))]) (st:=S) trivial .loc (.inl rfl) AI (λr=>AI (keyOf r)) .loc (λ_=>fB) rows [] (by simp;lia)
  (λr d=>⟨aM (ae (aj rfl) ah) trivial (ho r (by have:=b r d;lia)),bu⟩)
 rw[uv]at a;have e:(rows.map λr=>AI (keyOf r))=(rows.map keyOf).map AI:=by rw[nt];rfl
 rw[e]at a;have g:=qS (k:=.own) hk (by rw[ek];show hl);have i:Run (ev Γ (.bi .len [.var 0])) S (.loc,.int (rows.length:Nat)) S:=by
  have h:=cz (Γ:=Γ) (st:=S) (f:=.len) (es:=[.var 0]) (ae (aj rfl) ah) trivial (k6 (xs:=rows.map AI));rw[ek]at h;show h
 have j:BP .seq [(.loc,.tup (rows.map AI))]=a5 (rows.map λr=>(Kd.loc,AI r)):=by change a5 _=_;rw[nt];rfl
 show ar rfl (.inr rfl) c (bw (gx (wg (ae (cA (rs:=[(.loc,.tup (rows.map AI))]) (ae (aj rfl) ah) trivial j a) ah) trivial g) i trivial (mH (by rw[ek];simp))) bA)
def tZ(b:∀r∈rows,Γ "is_row" [AI r]=a5 (.ok (.loc,.bl b5)))(d:Γ "has_alike_rows" [.tup (rows.map AI)]=a5 (.ok (.loc,.bl cb)))(hl:rows.length<=60):bf Γ lj [.tup (rows.map AI)]=a5 (.ok (.loc,.bl b5)):=by
 have hsz:(1000:Nat)<=df:=by decide
 let S:aq:=[a5 (.loc,.tup (rows.map AI))]
 have e:TM.start [.tup (rows.map AI)] 1=S:=by simp[TM.start,A9,cO,S]
 have a:=dI (cond:=aG Γ []) (elt:=ev Γ (.call "is_row" [.var 0])) (src:=[(.loc,.tup (rows.map AI))]) (st:=S) trivial .loc (.inl rfl) AI (λ_=>U.bl b5) .loc (λ_=>fB) rows [] (by simp;lia)
  (λr h=>⟨aM (ae (aj rfl) ah) trivial (b r h),bu⟩)
 rw[uv]at a;have f:Bt .all [(.own,.lst (rows.map λ_=>U.bl b5))]=a5 (.loc,.bl b5):=by
  have:=yu (k:=.own) (bs:=rows.map λ_=>b5) (by simp);rw[nt]at this;show this
 have g:BP .seq [(.loc,.tup (rows.map AI))]=a5 (rows.map λr=>(Kd.loc,AI r)):=by change a5 _=_;rw[nt];rfl
 have i:Run (A1 Γ (.cmp .gt (.bi .len [.var 0]) (.BW "MOST_ROWS" (.int 60)))) S cb S:=bW (cz (ae (aj rfl) ah) trivial k6) gw trivial (gz (Q7 (by rw[ek];lia)));show ar rfl (.inr rfl) e (fY i (λz=>by cases z) λ_=>bw (pQ (kY (p:=b5) (cz (ae (cA (rs:=[(.loc,.tup (rows.map AI))]) (ae (aj rfl) ah) trivial g a) ah) trivial f) (by rw[Q8 rfl];show kX (AD (c:=cb) (aM (ae (aj rfl) ah) trivial d))))) bA)
def ox(a:Γ "fits" [.tup (rows.map AI)]=a5 (.ok (.loc,.bl b5))):bf Γ fE [.tup (rows.map AI)]=a5 (.ok (.loc,.tup (rows.map AI))):=by
 let S:aq:=[a5 (.loc,.tup (rows.map AI))]
 have b:TM.start [.tup (rows.map AI)] 1=S:=by simp[TM.start,A9,cO,S]
 show ar rfl (.inr rfl) b (fY (pR (c:=b5) (tP (ae (aj rfl) ah) trivial a rfl)) (λz=>by cases z) λ_=>bw (aj rfl) bA)
end
end K
namespace TM
open PySem L2 A3
theorem t5:∀{ss:List Str},(∀x∈ss,x.length<=n)->(ss.map (·.length)).sum<=n * ss.length
 |[],_=>pb _
 |x::ss,h=>by
  have:=t5 λy a=>h y (eu _ a);have:=h x gm;rw[kT,P9,k4,Nat.mul_succ];lia
def fG(h:∀x∈ss,x.length<=n)(hs:sep.length=1)(hl:(n+1) * ss.length<=1000000):Kn sep ss=b5/\(AV sep ss).length<=(n+1) * ss.length:=by
 have a:=t5 h;rw[Qx]at hl ⊢;show⟨QG (by rw[hs];lia),?_⟩;change(N2 sep ss).length<=_;rw[N1];have:=StrLaws.join_length_le sep ss;rw[hs]at this;lia
def iY(h:Kn sep ss=b5):dy .join (.str sep) [(k,.lst (ss.map .str))]=a5 (.loc,.str (AV sep ss)):=by
 change(strsOf (ss.map U.str)).bind _=_;rw[bR];change(if Kn sep ss=b5 then _ else _)=_;rw[Q8 h]
def t6(h:Kn sep ss=b5):dy .join (.str sep) [(k,.tup (ss.map .str))]=a5 (.loc,.str (AV sep ss)):=by
 change(strsOf (ss.map U.str)).bind _=_;rw[bR];change(if Kn sep ss=b5 then _ else _)=_;rw[Q8 h]
def jQ(hs:sep.length=1)(hl:x.length<=1000000)(e:DX x sep=ss):dy .split (.str x) [(k,.str sep)]=a5 (.own,.lst (ss.map .str)):=by
 change(if (sep.length==0)=cb/\x.length+2<=df then a5 (Kd.own,U.lst ((DX x sep).map .str)) else b6)=_;have hz:(1000002:Nat)<=df:=by decide
 rw[Q8 ⟨by rw[hs];rfl,⋯⟩,e]
def f7:bo .eq (.tup (ss.map U.str)) (.tup [])=a5 (et (ss=[])):=by
 simp only[bo];rw[Q8 ⟨by simp[Bp,dS],by simp[Bp,fq]⟩];cases ss<;>simp[a_,bG]
abbrev tl(r:Row):List Str:=if r.2=[] then [("*":Str)] else r.2
abbrev ak(r:Row):Str:=r.1++(" = ":Str)++AV " " (tl r)
structure RowW(r:Row):Prop where
 Ci:r.2.length<=8
 once:r.2.Nodup
 w1:aJ r.1.cps.toList
 w2:∀x∈r.2,aJ x.cps.toList
section
def c_(h:RowW r):1<=(tl r).length/\(tl r).length<=8:=by
 unfold tl;split
 .simp
 .rename_i z;show⟨O9 λe=>z (Jm e),h.Ci⟩
def pZ(h:RowW r):∀x∈tl r,x.cps.toList≠[]/\x.length<=11/\∀c∈x.cps.toList,42<=c:=by
 intro x a;unfold tl at a;split at a
 .rw[ro.mp a];show⟨by decide +kernel,by decide +kernel,by decide +kernel⟩
 .have b:=h.w2 x a;have:=b.len;show⟨λz=>by rw[z]at this;simp at this,by rw[len_list];show this.2,λc d=>by have:=lp b c d;lia⟩
def fH(h:RowW r):∀x∈r.1::("=":Str)::tl r,x.cps.toList≠[]/\x.length<=11/\∀c∈x.cps.toList,42<=c:=by
 intro x hx;rcases fx.mp hx with rfl|hx
 .have:=h.w1.len;show⟨λz=>by rw[z]at this;simp at this,by rw[len_list];show this.2,λc a=>by have:=lp h.w1 c a;lia⟩
 .rcases fx.mp hx with rfl|hx
  .show⟨by decide +kernel,by decide +kernel,by decide +kernel⟩
  .show pZ h x hx
def f9(h:RowW r):ak r=AV ⟨#[32]⟩ (r.1::("=":Str)::tl r):=by
 show TM.cm ?_;have e:(AV " " (tl r)).cps.toList=jl 32 (tl r):=bU 32 (tl r);rw[ak,c8,c8,e,bU];have hl:=(c_ h).1;cases q:tl r with
 |nil=>rw[q]at hl;simp at hl
 |cons y a =>
  change _=r.1.cps.toList++32::(("=":Str).cps.toList++32::jl 32 (y::a));rw[Ha];rfl
def oy(h:RowW r):DX (ak r) ⟨#[32]⟩=r.1::("=":Str)::tl r:=by
 rw[f9 h];show iX (Nr _ _) (λx a=>(fH h x a).1) λx a b=>by have:=(fH h x a).2.2 32 b;lia
theorem lq:∀{xs:List Str},d∈jl c xs->d=c\/∃x∈xs,d∈x.cps.toList
 |[],h=>by cases h
 |[x],h=>.inr ⟨x,by simp,h⟩
 |x::y::r,h=>by
  rcases oa.mp h with h|h
  .show .inr ⟨x,by simp,h⟩
  .rcases fx.mp h with h|h
   .show .inl h
   .rcases lq h with h|⟨z,a,b⟩
    .show .inl h
    .show .inr ⟨z,eu _ a,b⟩
def fI(h:RowW r):(ak r).cps.toList≠[]/\(ak r).length<=120/\∀c∈(ak r).cps.toList,32<=c:=by
 have e:=fG (sep:=⟨#[32]⟩) (n:=11) (ss:=r.1::("=":Str)::tl r) (λx f=>(fH h x f).2.1) rfl (by have:=(c_ h).2;simp;lia);rw[f9 h];show⟨λz=>?_,y2 e.2 (by have:=(c_ h).2;simp;lia),λc d=>?_⟩
 .rw[bU]at z;show absurd z (by change r.1.cps.toList++32::_≠[];simp)
 .rw[bU]at d;rcases lq d with rfl|⟨x,a,b⟩
  .show ke _
  .have:=(fH h x a).2.2 c b;lia
end
abbrev textOf(rows:List Row):Str:=AV ⟨#[10]⟩ (rows.map ak)
section
def fJ(h:∀r∈rows,RowW r)(hl:rows.length<=60):Kn ⟨#[10]⟩ (rows.map ak)=b5/\(textOf rows).length<=10000:=by
 have a:=fG (sep:=⟨#[10]⟩) (n:=120) (ss:=rows.map ak) (λx b=>by
  have⟨r,c,rfl⟩:=lg.mp b;show(fI (h r c)).2.1) rfl (by rw[ek];lia)
 show⟨a.1,y2 a.2 (by rw[ek];lia)⟩
def iZ(h:∀r∈rows,RowW r)(c:rows≠[]):DX (textOf rows) ⟨#[10]⟩=rows.map ak:=by
 show iX (by simpa using c) (λx a=>?_) λx a d=>?_
 .have⟨r,b,rfl⟩:=lg.mp a;show(fI (h r b)).1
 .have⟨r,b,rfl⟩:=lg.mp a;have:=(fI (h r b)).2.2 10 d;lia
def vR(h:∀r∈rows,RowW r)(a:rows≠[]):textOf rows≠"":=λz=>by
 have e:=iZ h a;have hz:(textOf rows).cps.toList=[]:=by rw[z];rfl
 cases rows with
 |nil=>show a rfl
 |cons r rs =>
  have:(textOf (r::rs)).cps.toList=jl 10 (ak r::rs.map ak):=bU 10 _;rw[this]at hz;have hl:=(fI (h r (by simp))).1;cases rs with
  |nil=>show hl hz
  |cons s rs=>show absurd hz (by change(ak r).cps.toList++10::_≠[];simp)
end
end TM
namespace K
open PySem L2 TM A3
section
def i_:bo .ne (.str a) (.str a)=a5 cb:=qR rfl
def mN(ss:List Str):A9 (.tup (ss.map U.str))=b5:=by simp[A9,fZ]
def qV(f:fF Γ)(h:RowW r):bf Γ cu [.lst ((tl r).map .str)]=a5 (.ok (.loc,.tup (r.2.map .str))):=by
 let S:aq:=[a5 (.any,.lst ((tl r).map .str))]
 have d:TM.start [.lst ((tl r).map .str)] 1=S:=rfl;have b:Run (A1 Γ (.cmp .eq (.var 0) (.lst [.BW "PICTURE_SIGN" (.str "*")]))) S (et (tl r=[("*":Str)])) S :=
  bW (y:=(.own,.lst ([("*":Str)].map .str))) (dG rfl) (gy (ae gw ah) trivial (bZ bu bx) (by change 1<=df;decide)) trivial tQ
 by_cases e:r.2=[]
 .have a:tl r=[("*":Str)]:=by unfold tl;rw[Q8 e]
  rw[Q_ a]at b;rw[e];show ar rfl (.inr rfl) d (iJ b (bw (fA ah trivial bx (pb _)) bA))
 .have a:tl r=r.2:=by unfold tl;rw[Q9 e]
  have g:tl r≠[("*":Str)]:=λz=>by
   have i:("*":Str)∈r.2:=by rw[<-a,z];simp
   show absurd (lp (h.w2 _ i) 42 (by decide +kernel)) (by decide)
  rw[Q7 g]at b;have j:∀x∈tl r,aJ x.cps.toList:=by rw[a];show h.w2
  have l:=jP f (st:=S) (e:=.var 0) (k:=.any) (k':=.any) (u:=.lst ((tl r).map .str)) j (by have:=(c_ h).2;lia) (dG rfl) trivial (.inr rfl) (by change a5 _=_;rw[nt];rfl);rw[<-a];show ar rfl (.inr rfl) d (fY b (λz=>by cases z) λ_=>fY (pR (c:=b5) (yq l)) (λz=>by cases z) λ_=>bw (cz (r:=(.any,.tup ((tl r).map .str))) (ae (dG rfl) ah) trivial rfl) (wm (mN (tl r))))
def t7(b:fF Γ)(h:RowW r)(d:Γ "read_told" [.lst ((tl r).map .str)]=a5 (.ok (.loc,.tup (r.2.map .str)))):bf Γ c9 [.str (ak r)]=a5 (.ok (.loc,AI r)):=by
 have hsz:(1000:Nat)<=df:=by decide
 let L:=r.1::("=":Str)::tl r;let S:aq:=[a5 (.loc,.str (ak r)),a5 (.own,.lst (L.map .str))]
 have e:dy .split (.str (ak r)) [(.loc,.str " ")]=a5 (.own,.lst (L.map .str)):=jQ rfl (by have:=(fI h).2.1;lia) (oy h);have f:AX (L.map U.str) 0=a5 (.str r.1):=by change AX _ ((0:Nat):Int)=_;show bS rfl
 have g:AX (L.map U.str) 1=a5 (.str "="):=by change AX _ ((1:Nat):Int)=_;show bS rfl
 have a:Run (ev Γ (.idx (.var 1) (.cst (.int 0)))) S (.loc,.str r.1) S:=dg (cy rfl) aB ⟨⟨.own,rfl,rfl⟩,trivial⟩ (aD f);have i:Run (A1 Γ (.or [.cmp .lt (.bi .len [.var 1]) (.cst (.int 3)),.not (.call "is_word" [.idx (.var 1) (.cst (.int 0))]),.cmp .ne (.idx (.var 1) (.cst (.int 1))) (.cst (.str "="))])) S cb S :=
  vF (mE (bW (cz (ae (cy rfl) ah) ⟨⟨.own,rfl,rfl⟩,trivial⟩ vI) aB trivial (mH (Q7 (by
   have:=(c_ h).1;rw[ek];change ¬(((tl r).length+1+1:Nat):Int)<3;lia)))) (mE (pR (c:=b5) (tP (ae a ah) trivial (b r.1 h.w1) rfl)) (pS (bW (dg (cy rfl) aB ⟨⟨.own,rfl,rfl⟩,trivial⟩ (aD g)) aB trivial i_))))
 have s2:l8 (.bor 1,.lst (L.map .str)) (a5 2) b6=a5 (.own,.lst ((tl r).map .str)):=by
  change a5 (Kd.own,U.lst (cut (L.map U.str) (a5 ((2:Nat):Int)) b6))=_;unfold cut;rw[HT.uj,HT.rl,Nat.min_eq_left (by rw[ek];change 2<=(tl r).length+1+1;lia),Em (by rw[F0];lia)];rfl
 show ar rfl (.inr rfl) (show TM.start [.str (ak r)] 2=[a5 (.loc,.str (ak r)),b6] from rfl) (aR (d7 (aj rfl) (ae aB ah) trivial e) d8 (fY i (λz=>by cases z) λ_ =>
  bw (fA (ae a (ae (aM (ae (we (cy rfl) (wd aB) wc ⟨⟨.own,rfl,rfl⟩,trivial⟩ s2) ah) trivial d) ah)) trivial (bZ bu (bZ bu bx)) (by change 2<=df;lia)) bA))
def run_read(h:∀r∈rows,RowW r)(hl:rows.length<=60)(f:∀r∈rows,Γ "read_row" [.str (ak r)]=a5 (.ok (.loc,AI r)))(g:Γ "fitted" [.tup (rows.map AI)]=a5 (.ok (.loc,.tup (rows.map AI)))):bf Γ ll [.str (textOf rows)]=a5 (.ok (.loc,.tup (rows.map AI))):=by
 have hsz:(1000:Nat)<=df:=by decide
 let S:aq:=[a5 (.loc,.str (textOf rows))]
 have b:Run (A1 Γ (.not (.D3 (.var 0) .str))) S cb S:=pR (c:=b5) (zS (aj rfl) rfl);have a:Run (A1 Γ (.cmp .eq (.var 0) (.cst (.str "")))) S (et (textOf rows="")) S:=bW (aj rfl) aB trivial lh;by_cases e:rows=[]
 .subst e;rw[Q_ (show textOf []="" by decide +kernel)]at a;show ar rfl (.inr rfl) (show TM.start [.str (textOf [])] 1=S from rfl) (fY b (λz=>by cases z) λ_=>iJ a (bw (fA ah trivial bx (pb _)) bA))
 .rw[Q7 (vR h e)]at a;have i:dy .split (.str (textOf rows)) [(.loc,.str "\n")]=a5 (.own,.lst ((rows.map ak).map .str)):=jQ rfl (by have:=(fJ h hl).2;lia) (iZ h e);have d:=dI (cond:=aG Γ []) (elt:=ev Γ (.call "read_row" [.var 0])) (src:=[(.own,.lst ((rows.map ak).map .str))]) (st:=S) trivial .loc (.inl rfl) (λr=>U.str (ak r)) AI .loc (λ_=>fB) rows [] (by simp;lia)
   (λr j=>⟨aM (ae (aj rfl) ah) trivial (f r j),bu⟩)
  rw[uv]at d;have k:BP .seq [(.own,.lst ((rows.map ak).map .str))]=a5 (rows.map λr=>(Kd.loc,U.str (ak r))):=by change a5 _=_;rw[nt,nt];rfl
  show ar rfl (.inr rfl) (show TM.start [.str (textOf rows)] 1=S from rfl) (fY b (λz=>by cases z) λ_=>fY a (λz=>by cases z) λ_=>bw (aM (ae (cz (r:=(.loc,.tup (rows.map AI))) (ae (cA (rs:=[(.own,.lst ((rows.map ak).map .str))]) (ae (d7 (aj rfl) (ae aB ah) trivial i) ah) trivial k d) ah) trivial rfl) ah) trivial g) bA)
def qW(h:RowW r):bf Γ b0 [.tup (r.2.map .str)]=a5 (.ok (.loc,.str (AV " " (tl r)))):=by
 let S:aq:=[a5 (.loc,.tup (r.2.map .str))]
 have c:TM.start [.tup (r.2.map .str)] 1=S:=by simp[TM.start,mN,S]
 have a:Run (A1 Γ (.cmp .eq (.var 0) (.tup []))) S (et (r.2=[])) S:=bW (aj rfl) (fA ah trivial bx (pb _)) trivial f7;by_cases e:r.2=[]
 .rw[Q_ e]at a;have b:AV " " (tl r)="*":=by unfold tl;rw[Q8 e];rfl
  rw[b];show ar rfl (.inr rfl) c (iJ a (bw gw bA))
 .rw[Q7 e]at a;have b:tl r=r.2:=by unfold tl;rw[Q9 e]
  have d:=fG (sep:=" ") (n:=11) (ss:=tl r) (λx f=>(pZ h x f).2.1) rfl (by have:=(c_ h).2;lia);rw[b]at d ⊢;show ar rfl (.inr rfl) c (fY a (λz=>by cases z) λ_=>bw (d7 aB (ae (aj rfl) ah) trivial (t6 d.1)) bA)
def zV(h:RowW r)(c:Run (ev Γ a) st (.loc,.str r.1) st)(d:Run (ev Γ b) st (.loc,.str (AV " " (tl r))) st):Run (ev Γ (.bin .add (.bin .add a (.cst (.str " = "))) b)) st (.loc,.str (ak r)) st:=by
 have hsz:(1000:Nat)<=df:=by decide
 have e:=fG (sep:=" ") (n:=11) (ss:=tl r) (λx f=>(pZ h x f).2.1) rfl (by have:=(c_ h).2;lia);have g:=(c_ h).2;have i:r.1.length<=11:=by rw[len_list];show h.w1.len.2
 have j:(" = ":Str).length=3:=by decide +kernel
 show cq (cq c aB trivial (dR ⋯)) d trivial (dR (by rw[str_len];have:=e.2;lia))
def qX(h:∀r∈rows,RowW r)(hl:rows.length<=60)(c:∀r∈rows,Γ "shown_told" [.tup (r.2.map .str)]=a5 (.ok (.loc,.str (AV " " (tl r))))):bf Γ gN [.tup (rows.map AI)]=a5 (.ok (.loc,.str (textOf rows))):=by
 have hsz:(1000:Nat)<=df:=by decide
 let S:aq:=[a5 (.loc,.tup (rows.map AI))]
 have d:TM.start [.tup (rows.map AI)] 1=S:=by simp[TM.start,A9,cO,S]
 have a:=dI (cond:=aG Γ []) (elt:=ev Γ (.bin .add (.bin .add (.idx (.var 0) (.cst (.int 0))) (.cst (.str " = "))) (.call "shown_told" [.idx (.var 0) (.cst (.int 1))]))) (src:=[(.loc,.tup (rows.map AI))]) (st:=S) trivial .loc (.inl rfl) AI (λr=>U.str (ak r)) .loc (λ_=>fB) rows [] (by simp;lia)
  (λr b=>⟨zV (h r b) (dg (x:=(.loc,AI r)) (aj rfl) aB trivial rfl) (aM (ae (dg (x:=(.loc,AI r)) (aj rfl) aB trivial rfl) ah) trivial (c r b)),bu⟩)
 rw[uv]at a;have e:(rows.map λr=>U.str (ak r))=(rows.map ak).map U.str:=by rw[nt];rfl
 rw[e]at a;have f:BP .seq [(.loc,.tup (rows.map AI))]=a5 (rows.map λr=>(Kd.loc,AI r)):=by change a5 _=_;rw[nt];rfl
 show ar rfl (.inr rfl) d (bw (d7 aB (ae (cA (rs:=[(.loc,.tup (rows.map AI))]) (ae (aj rfl) ah) trivial f a) ah) trivial (iY (fJ h hl).1)) bA)
abbrev Mt:List TM.S:=[.app 2 (.bin .add (.bin .add (.var 3) (.cst (.str " = "))) (.BB .join (.cst (.str " ")) [.bin .add (.bi .list [.var 4]) (.bin .mul (.lst [.cst (.str "*")]) (.bi .int [.cmp .eq (.var 4) (.tup [])]))]))]
def qY(h:∀r∈rows,RowW r)(hl:rows.length<=60)(w:Γ "_law_made" [.lst (ns.map .int)]=a5 (.ok (.loc,.tup (rows.map AI))))(y:Γ "shown" [.tup (rows.map AI)]=a5 (.ok (.loc,.str (textOf rows))))(A:Γ "read" [.str (textOf rows)]=a5 (.ok (.loc,.tup (rows.map AI))))
  (o:∀k,Bt .repr [(k,.str (textOf rows))]=a5 (.loc,.str s1)) (q:∀k,Bt .repr [(k,.tup (rows.map AI))]=a5 (.loc,.str s2)) (B:Γ "read" [.str ""]=a5 (.ok (.loc,.tup []))) (C:Γ "shown" [.tup []]=a5 (.ok (.loc,.str ""))):bf Γ pY [nX ns]=a5 (.ok (.loc,.bl b5)):=by
 have hsz:(1000:Nat)<=df:=by decide
 let j:Option (Kd×U):=a5 (.any,.lst (ns.map .int));let s:Option (Kd×U):=a5 (.loc,.tup (rows.map AI));have D:TM.start [nX ns] 7=[j,b6,b6,b6,b6,b6,b6]:=rfl;let S:=λ(G:List Str) (o3 o4 o5 a:Option (Kd×U))=>([j,s,a5 (.own,.lst (G.map .str)),o3,o4,o5,a]:aq)
 obtain⟨st',run,_,o3,o4,e⟩:=oq (t:=b5) (is:=[3,4]) (body:=execs Γ Mt) (rs:=[(.loc,.tup (rows.map AI))]) (λr:Row=>(Kd.loc,AI r))
  (λd r st=>d++r=rows/\∃o3 o4,st=S (d.map ak) o3 o4 b6 b6) (λ_ _ _ _=>trivial) (λd r v st l=>by
   have⟨m,o3,o4,e⟩:=l;subst e;have H:r∈rows:=by rw[<-m];simp
   have MO:d.length<=60:=by have:=Rb Ge m;simp at this;lia
   have c:=h r H;let f:Option (Kd×U):=a5 (.loc,.str r.1);let g:Option (Kd×U):=a5 (.loc,.tup (r.2.map .str));have I:=fG (sep:=" ") (n:=11) (ss:=tl r) (λx J=>(pZ c x J).2.1) rfl (by have:=(c_ c).2;lia);let T:=S (d.map ak) f g b6 b6;have L:Run (ev Γ (.bi .int [.cmp .eq (.var 4) (.tup [])])) T (.loc,.int (if et (r.2=[])=b5 then 1 else 0)) T:=cz (ae (gx (aj rfl) (fA ah trivial bx (pb _)) trivial f7) ah) trivial rfl;have N:Run (ev Γ (.bin .mul (.lst [.cst (.str "*")]) (.bi .int [.cmp .eq (.var 4) (.tup [])]))) T (.own,.lst ((if r.2=[] then [("*":Str)] else []).map .str)) T:=by
    show cq (gy (ae aB ah) trivial (bZ bu bx) (by change 1<=df;lia)) L trivial ?_;by_cases e:r.2=[]
    .rw[Q_ e,Q8 rfl,Q8 e];change l7 (.own,.lst [.str "*"]) (.int 1)=_;unfold l7
     dsimp only
     rw[Q8 ⟨by decide,by decide,by change 1 * 1<=df;lia⟩];rfl
    .rw[Q7 e,Q9 mA,Q9 e];change l7 (.own,.lst [.str "*"]) (.int 0)=_;unfold l7
     dsimp only
     rw[Q8 ⟨by decide,by decide,by change 1 * 0<=df;lia⟩];rfl
   have O:Run (ev Γ (.bin .add (.bi .list [.var 4]) (.bin .mul (.lst [.cst (.str "*")]) (.bi .int [.cmp .eq (.var 4) (.tup [])])))) T (.own,.lst ((tl r).map .str)) T:=by
    show cq (cz (r:=(.own,.lst (r.2.map .str))) (ae (aj rfl) ah) trivial rfl) N trivial ?_;have h8:=c.Ci;rw[tR (by rw[ek,ek];split<;>simp<;>lia) rfl rfl,<-Ba];congr 4
    unfold tl;by_cases e:r.2=[]
    .rw[Q8 e,Q8 e,e];rfl
    .rw[Q9 e,Q9 e,DY]
   have Q:=zV c (aj (i:=3) (st:=T) rfl) (d7 (Γ:=Γ) (aB (u:=.str " ")) (ae O ah) trivial (iY I.1));have em:((d++[r]).map ak).map U.str=(d.map ak).map U.str++[.str (ak r)]:=by simp
   show⟨T,S ((d++[r]).map ak) f g b6 b6,zT (.inl rfl),?_,by rw[<-m];simp,f,g,rfl⟩;change Run _ _ _ [j,s,a5 (.own,.lst (((d++[r]).map ak).map .str)),f,g,b6,b6];rw[em];show pT (k:=.own) (k':=.own) (r:=(.loc,.str (ak r))) (us:=(d.map ak).map .str) rfl Q bu rfl rfl (by rw[ek,ek];lia) a9) rows [] (S [] b6 b6 b6 b6) ⟨rfl,b6,b6,rfl⟩
 subst e;rw[uv]at run;let b:Option (Kd×U):=a5 (.loc,.str (textOf rows));have Y:Run (ev Γ (.BB .join (.cst (.str "\n")) [.var 2])) (S (rows.map ak) o3 o4 b6 b6) (.loc,.str (textOf rows)) (S (rows.map ak) o3 o4 b6 b6):=d7 aB (ae (cy rfl) ah) ⟨⟨.own,rfl,rfl⟩,trivial⟩ (iY (fJ h hl).1);have tc:∀a:Option (Kd×U),Run (A1 Γ (.or [.cmp .ne (.bi .repr [.call "shown" [.var 1]]) (.bi .repr [.var 5]),.cmp .ne (.bi .repr [.call "read" [.var 5]]) (.bi .repr [.var 1])])) (S (rows.map ak) o3 o4 b a) cb (S (rows.map ak) o3 o4 b a):=λa =>
  vF (mE (bW (cz (ae (aM (ae (aj rfl) ah) trivial y) ah) trivial (o _)) (cz (ae (aj rfl) ah) trivial (o _)) trivial i_) (pS (bW (cz (ae (aM (ae (aj rfl) ah) trivial A) ah) trivial (q _)) (cz (ae (aj rfl) ah) trivial (q _)) trivial i_)))
 have⟨st2,Jj,a,e⟩:=oq (t:=cb) (is:=[6]) (body:=execs Γ [.ite (.or [.cmp .ne (.bi .repr [.call "shown" [.var 1]]) (.bi .repr [.var 5]),.cmp .ne (.bi .repr [.call "read" [.var 5]]) (.bi .repr [.var 1])]) [.ret (.cst (.bl cb))] []]) (rs:=[(.loc,.int ((2:Nat):Int))]) (λi:Nat=>(Kd.loc,U.int (0+(i:Int))))
  (λd r st=>∃a,st=S (rows.map ak) o3 o4 b a) (λ_ _ _ _=>trivial) (λd i r st l=>by
   have⟨a,e⟩:=l;subst e;show⟨S (rows.map ak) o3 o4 b (a5 (.loc,.int (0+(i:Int)))),S (rows.map ak) o3 o4 b (a5 (.loc,.int (0+(i:Int)))),oj aV,fY (tc _) (λz=>by cases z) (λ_=>a9),_,rfl⟩) (hQ 2) [] (S (rows.map ak) o3 o4 b b6) ⟨b6,rfl⟩
 subst e;have ei:BP .seq [(.loc,.tup (rows.map AI))]=a5 (rows.map λr=>(Kd.loc,AI r)):=by change a5 _=_;rw[nt];rfl
 have gr:Run (ev Γ (.and [.cmp .eq (.call "read" [.cst (.str "")]) (.tup []),.cmp .eq (.call "shown" [.tup []]) (.cst (.str ""))])) (S (rows.map ak) o3 o4 b a) (.loc,.bl b5) (S (rows.map ak) o3 o4 b a) :=
  pQ (kY (p:=b5) (gx (aM (ae aB ah) trivial B) (fA ah trivial bx (pb _)) trivial (f7 (ss:=[]))) (by rw[Q8 rfl];show kX (gx (aM (ae (fA ah trivial bx (pb _)) ah) trivial C) aB trivial (by rw[lh];rfl))))
 show ar rfl (.inr rfl) D (aR (aM (ae (dG rfl) ah) trivial w) aV (aR (r:=(.own,.lst [])) (gy ah trivial bx (pb _)) d8 (jL (rs:=[(.loc,.tup (rows.map AI))]) (st1:=S [] b6 b6 b6 b6) (ae (aj rfl) ah) trivial ei rfl run
  (aR Y aV (jL (rs:=[(.loc,.int ((2:Nat):Int))]) (st1:=S (rows.map ak) o3 o4 b b6) (ae aB ah) trivial (iL ⋯) rfl Jj (bw gr bA))))))
end
def makers:tN prog:=⟨rfl,rfl,rfl,rfl,rfl,rfl,rfl⟩
def ja(d:Nat):fF (Be prog (d+2)):=λx h=>(av (show Bd prog "is_word" dW from rfl) _).trans (tY (λx c=>(av (show Bd prog "is_stem" dU from rfl) _).trans (tW c)) (λk a b=>(av (show Bd prog "is_later_sense" bq from rfl) _).trans (qU a b))
 (λx y hl e=>(av (show Bd prog "stem_of" f6 from rfl) _).trans (tX rfl hl (by rw[<-e];rfl))) (λx y hl e=>(av (show Bd prog "number_of" dJ from rfl) _).trans (tX rfl hl (by rw[<-e];rfl))) h)
section
def jR(d:Nat)(h:∀r∈rows,RowW r)(hl:rows.length<=60):Be prog (d+2) "shown" [.tup (rows.map AI)]=a5 (.ok (.loc,.str (textOf rows))) :=
 (av (show Bd prog "shown" gN from rfl) _).trans (qX h hl λr a=>(av (show Bd prog "shown_told" b0 from rfl) _).trans (qW (h r a)))
def mO(d:Nat)(h:∀r∈rows,RowW r)(hl:rows.length<=60)(hk:(rows.map keyOf).Nodup):Be prog (d+6) "read" [.str (textOf rows)]=a5 (.ok (.loc,.tup (rows.map AI))):=by
 show(av (show Bd prog "read" ll from rfl) _).trans (run_read h hl (λr a=>(av (show Bd prog "read_row" c9 from rfl) _).trans (t7 (ja (d+2)) (h r a) ((av (show Bd prog "read_told" cu from rfl) _).trans (qV (ja (d+1)) (h r a))))) ?_);show(av (show Bd prog "fitted" fE from rfl) _).trans (ox ((av (show Bd prog "fits" lj from rfl) _).trans (tZ (λr a=>(av (show Bd prog "is_row" fD from rfl) _).trans (vP (ja d) (h r a).Ci (h r a).once (h r a).w1 (h r a).w2)) ?_ hl)));show(av (show Bd prog "has_alike_rows" br from rfl) _).trans (ou (λr a=>(av (show Bd prog "in_one_order" bj from rfl) _).trans (vQ a)) (λr a=>(h r a).Ci) ⋯ hk)
end
def pure(ns:List Int)(z:ns.length<=63):Be prog 7 "law" [nX ns]=a5 (.ok (.loc,.bl b5)):=by
 have⟨names,rows,A,C,D,i,G,m,f,o⟩:=tL (Γ:=Be prog 5) makers.iP makers.drawnOk makers.namesOk makers.yp ns;have p:Be prog 6 "_law_made" [.lst (ns.map .int)]=a5 (.ok (.loc,.tup (rows.map AI))):=(av (show Bd prog "_law_made" tK from rfl) _).trans o;have h:∀r∈rows,RowW r:=λr a=>⟨(f r a).Ci,(f r a).once,i _ (f r a).word,λx g=>i x ((f r a).told x g)⟩
 have hl:rows.length<=60:=by lia
 have⟨s2,q⟩:=yr (n:=2) (b:=400) (us:=rows.map AI) cb (λu s=>by
  have⟨r,a,rfl⟩:=lg.mp s;show yt (h r a).Ci (h r a).w1 (h r a).w2) ⋯ (by rw[ek];lia)
 have t:∀k,Bt .repr [(k,.str (textOf rows))]=a5 (.loc,.str (M7 (textOf rows))):=λk=>by
  change(if (M7 (textOf rows)).length<=df then a5 (Kd.loc,U.str (M7 (textOf rows))) else b6)=_;rw[Q8];have v:=(fJ h hl).2;show K1 (B:=8) (d:=.str (textOf rows)) ⋯ ⋯ ?_ ?_
  .simp only[Hy,va,Q6];intro c e;rw[show(textOf rows).cps.toList=jl 10 (rows.map ak) from bU 10 _]at e;rcases lq e with rfl|⟨x,g,e⟩
   .decide
   .have⟨r,a,rfl⟩:=lg.mp g;rw[f9 (h r a),bU]at e;rcases lq e with rfl|⟨y,hy,e⟩
    .decide
    .rcases fx.mp hy with rfl|hy
     .show(word_short (h r a).w1).2 c e
     .rcases fx.mp hy with rfl|hy
      .have:∀c∈("=":Str).cps.toList,c<16 ^ 8:=by decide +kernel
       show this c e
      .unfold tl at hy;split at hy
       .rw[ro.mp hy]at e;have:∀c∈("*":Str).cps.toList,c<16 ^ 8:=by decide +kernel
        show this c e
       .show(word_short ((h r a).w2 y hy)).2 c e
  .simp only[LO];have:(textOf rows).cps.size<=10000:=v;lia
 have w:textOf []="":=by decide +kernel
 have j:=mO 0 (rows:=[]) (by simp) (by simp) (by simp);have l:=jR 4 (rows:=[]) (by simp) (by simp);rw[w]at j l;show(av (show Bd prog "law" pY from rfl) _).trans (qY h hl p (jR 4 h hl) (mO 0 h hl m) t q j l)
end K
namespace K
open PySem L2 TM PySem.W PyProof.Rows
abbrev m0:eh:=.str "primer.words" 239
abbrev m1:eh:=.str "primer.books" 282
abbrev m2:eh:=.str "primer.reader" 320
abbrev m3:eh:=.str "primer.writer" 344
abbrev m4:eh:=.str "law_primer_k05_shown_and_read" 359
abbrev ml:Me:=⟨pY,39,["_law_script","_law_book_here","_law_rows","_law_word","_law_told_here","_law_text","_law_turn"],201,200,m4,co "law" 444 135 1 195 196 (.ref 197) (.ref 198) (.ref 199) 454 455 181⟩
abbrev ms:List Me:=[⟨dU,9,["text"],56,55,m0,co "is_stem" 249 13 1 52 53 .none .none (.ref 54) 252 253 181⟩,
 ⟨bq,10,["text"],61,60,m0,co "is_later_sense" 255 17 1 57 58 .none .none (.ref 59) 258 259 181⟩,
 ⟨dW,11,["text"],68,67,m0,co "is_word" 261 19 1 62 63 (.ref 64) (.ref 65) (.ref 66) 265 266 181⟩,
 ⟨f6,12,["word"],75,74,m0,co "stem_of" 268 23 1 69 70 (.ref 71) (.ref 72) (.ref 73) 272 273 181⟩,
 ⟨dJ,13,["word"],82,81,m0,co "number_of" 275 25 1 76 77 (.ref 78) (.ref 79) (.ref 80) 279 280 181⟩,
 ⟨fD,17,["row","told"],87,86,m1,co "is_row" 288 30 1 83 84 .none .none (.ref 85) 291 292 181⟩,
 ⟨bj,18,["row"],94,93,m1,co "in_one_order" 294 35 1 88 89 (.ref 90) (.ref 91) (.ref 92) 298 299 181⟩,
 ⟨br,19,["book"],99,98,m1,co "has_alike_rows" 301 37 1 95 96 .none .none (.ref 97) 304 305 181⟩,
 ⟨lj,20,["book"],104,103,m1,co "fits" 307 39 1 100 101 .none .none (.ref 102) 310 311 181⟩,
 ⟨fE,21,["book"],111,110,m1,co "fitted" 313 43 1 105 106 (.ref 107) (.ref 108) (.ref 109) 317 318 181⟩,
 ⟨ll,24,["text"],116,115,m2,co "read" 324 49 1 112 113 .none .none (.ref 114) 327 328 181⟩,
 ⟨c9,25,["line","parts"],123,122,m2,co "read_row" 330 55 1 117 118 (.ref 119) (.ref 120) (.ref 121) 335 336 181⟩,
 ⟨cu,26,["parts"],128,127,m2,co "read_told" 338 60 1 124 125 .none .none (.ref 126) 341 342 181⟩,
 ⟨gN,28,["book"],133,132,m3,co "shown" 346 67 1 129 130 .none .none (.ref 131) 349 350 181⟩,
 ⟨b0,29,["told"],140,139,m3,co "shown_told" 352 69 1 134 135 (.ref 136) (.ref 137) (.ref 138) 356 357 181⟩,
 ⟨jO,31,["_law_cell_here","_law_k","_law_by"],147,146,m4,co "_law_mix" 361 74 2 141 142 (.ref 143) (.ref 144) (.ref 145) 367 368 181⟩,
 ⟨iS,32,["_law_script","_law_k","_law_seed"],154,153,m4,co "_law_cell" 370 77 2 148 149 (.ref 150) (.ref 151) (.ref 152) 376 377 181⟩,
 ⟨gB,33,["_law_cell_here","_law_many","_law_found","_law_left","_law_k"],161,160,m4,co "_law_drawn" 379 84 2 155 156 (.ref 157) (.ref 158) (.ref 159) 387 388 181⟩,
 ⟨iT,34,["_law_drawn_here","_law_names_here","_law_letters","_law_name_here","_law_stem","_law_spare"],166,165,m4,co "_law_name" 390 94 2 162 163 .none .none (.ref 164) 393 394 181⟩,
 ⟨gC,35,["_law_script","_law_base","_law_many","_law_names_here","_law_k"],173,172,m4,co "_law_names" 396 105 3 167 168 (.ref 169) (.ref 170) (.ref 171) 404 405 181⟩,
 ⟨iU,36,["_law_drawn_here","_law_names_here","_law_top","_law_told_here","_law_k","_law_one"],180,179,m4,co "_law_told" 407 110 2 174 175 (.ref 176) (.ref 177) (.ref 178) 416 417 181⟩,
 ⟨iV,37,["_law_script","_law_base","_law_names_here","_law_many","_law_rows","_law_met","_law_k","_law_drawn_here","_law_row","_law_key"],187,186,m4,co "_law_book" 419 120 4 181 182 (.ref 183) (.ref 184) (.ref 185) 432 433 181⟩,
 ⟨iW,38,["_law_script","_law_drawn_here","_law_names_here"],194,193,m4,co "_law_made" 435 131 1 188 189 (.ref 190) (.ref 191) (.ref 192) 441 442 181⟩,
 ml]
abbrev gg(P:O4):Obj:=⟨.type "dict",b6,.dict #[ge P "__name__" 165 (.str "law_primer_k05_shown_and_read" 359),ge P "__doc__" 166 .none,ge P "__package__" 167 .none,ge P "__loader__" 168 (.builtin "__main__.__loader__#opaque"),ge P "__spec__" 169 .none,ge P "__annotations__" 170 (.ref 6),ge P "__builtins__" 171 (.ref 4),ge P "__file__" 173 (.str "/claim/cut.py" 172),ge P "__cached__" 174 .none,ge P "PrimerError" 206 (.ref 24),ge P "NoText" 222 (.ref 37),ge P "Unfit" 238 (.ref 49),ge P "LETTERS" 242 (.str "abcdefghijklmnopqrstuvwxyz" 241),ge P "LONGEST_STEM" 244 (.int 8 243),ge P "FIRST_SENSE" 246 (.int 1 245),ge P "LAST_SENSE" 248 (.int 99 247),ge P "is_stem" 254 (.ref 56),ge P "is_later_sense" 260 (.ref 61),ge P "is_word" 267 (.ref 68),ge P "stem_of" 274 (.ref 75),ge P "number_of" 281 (.ref 82),ge P "MOST_TOLD" 285 (.int 8 284),ge P "MOST_ROWS" 287 (.int 60 286),ge P "is_row" 293 (.ref 87),ge P "in_one_order" 300 (.ref 94),ge P "has_alike_rows" 306 (.ref 99),ge P "fits" 312 (.ref 104),ge P "fitted" 319 (.ref 111),ge P "PICTURE_SIGN" 323 (.str "*" 322),ge P "read" 329 (.ref 116),ge P "read_row" 337 (.ref 123),ge P "read_told" 343 (.ref 128),ge P "shown" 351 (.ref 133),ge P "shown_told" 358 (.ref 140),ge P "_law_mix" 369 (.ref 147),ge P "_law_cell" 378 (.ref 154),ge P "_law_drawn" 389 (.ref 161),ge P "_law_name" 395 (.ref 166),ge P "_law_names" 406 (.ref 173),ge P "_law_told" 418 (.ref 180),ge P "_law_book" 434 (.ref 187),ge P "_law_made" 443 (.ref 194),ge P "law" 456 (.ref 201)] 43,#[]⟩
abbrev vw:ve:=view PySem.Challenge.pw_primer_k05_shown_and_read [9,10,11,12,13,17,18,19,20,21,24,25,26,28,29,31,32,33,34,35,36,37,38,39]
abbrev hk:Hook:=kHook (λP=>Ce top (gg P) ms) (adr ms) λP=>pO top (gg P) ms
abbrev lo:List Str:=["PrimerError","NoText","Unfit","LETTERS","LONGEST_STEM","FIRST_SENSE","LAST_SENSE","MOST_TOLD","MOST_ROWS","PICTURE_SIGN"]
noncomputable abbrev xt(s:gs):Bool:=xlAt vw [] s&&recOk (RowW.records PySem.Challenge.rw_primer_k05_shown_and_read.row.toRowW) s
noncomputable abbrev oe(w:y1):Option gs:=openEnds treeTable PySem.Challenge.rw_primer_k05_shown_and_read.row.prog w 4000
noncomputable abbrev os(s:gs):=openSeen vw lo (importedModules PySem.Challenge.rw_primer_k05_shown_and_read.row.prog.main.body) xt b5 s
def B'(w:y1):(oe w).map (λs=>(os s).1)=a5 (openGood vw lo).1:=by kernel_rfl
def CS(w:y1):(oe w).map (λs=>(os s).2)=a5 (openGood vw lo).2:=by kernel_rfl
def Fh(w:y1):(oe w).map hk.obs=a5 (hk.val w):=by kernel_rfl
def hl:LeftO PySem.Challenge.rw_primer_k05_shown_and_read.row.prog vw lo xt hk.obs hk.val 4000:=λw=>by
 have⟨s,e,a⟩:=eH.mp (B' w);have b:=CS w;have c:=Fh w;rw[e]at b c;change(oe w).map _=_;rw[e];show Rb a5 (Ml (Ml a (tj b)) (tj c))
def hs:PySem.Challenge.rw_primer_k05_shown_and_read.wellSaid=b5:=by kernel_rfl
def ho(P:O4):D_ ck top (Ce top (gg P) ms) ms=b5:=by kernel_rfl
end K
open PySem PySem.W PyProof.Rows K
theorem PySem.Challenge.cw_primer_k05_shown_and_read_holds : PySem.Challenge.rw_primer_k05_shown_and_read.Holds := by
 w_on
 refine holds_law hs λz => ?_;refine holds_open hl hk.of hk.keeps (λs e => xl_of s (Bl.mp e).1) XL.keeps rfl rfl rfl (λs e => recFacts_of (Bl.mp e).2) rfl z (by kernel_rfl) ⟨rfl, rfl, rfl, rfl, rfl, by decide +kernel⟩ ?hw ?a
 (case hw => w_witness2)
 exact TM.walk2 (l := PySem.Challenge.rw_primer_k05_shown_and_read) (Pg := prog) (ck := ck) (dp := 6) (x := "_law_script") (m := ml) rfl rfl ⟨rfl, by decide, by decide, rfl⟩ rfl (by decide +kernel) rfl (List.mem_iff_getElem?.mpr ⟨23, rfl⟩) rfl rfl ho K.pure
