import PyProof.Rows.All
import Wide.All
import OpenK.AllK
import Wide.FinOn
import Lean
import PyProof.EqAt
import PyProof.EqKinds
import PyProof.TupleCall
import PyProof.StrLawsChain
import PyProof.StrLawsFirst
import PyProof.Rows.StrNews2
import OpenK.AllK
import PyProof.DictItems
import OpenK.AllK
import PyProof.StationsW
import PyProof.ExcBaseAll.ValueError
import PyProof.RulesAs
import PyProof.NsDelKeeps
import OpenK.AllK
import PyProof.ReprBulk
import PySem.Challenge.RW_primer_k54_taken_back
set_option Elab.async false
set_option linter.all false
set_option bootstrap.genMatcherCode false
set_option maxRecDepth 100000
set_option maxHeartbeats 4000000
set_option genInjectivity false
set_option genSizeOf false
set_option autoImplicit true
set_option relaxedAutoImplicit true
open Option renaming some->a5,none->b6,map_eq_some_iff->hQ,bind_eq_some_iff->qs,isSome_iff_exists->N2,isNone_iff_eq_none->Q2,map_some->Rw,isSome_map->SW,isSome_some->X8,getD_none->YN
open Bool renaming true->bD,and_eq_true->b7,false->cb,false_ne_true->ko,not_eq_true'->rz,and_eq_true_iff->vu,eq_iff_iff->J7,or_eq_true->OF,false_eq_true->S3,and_false->Wa,and_true->Wz,or_false->ZN
open PySem renaming wpAny_bind->b8,sizeLine->cK,Value->dV,wpAny_pure->fx,Addr->gi,Shared->gm,wpAny->gs,model->i4,starEach->i7,mainGlobals->mN,Expr->nH,wpAny_mono->td,eval->uk,Program->va,backTo->wh,wpAny_Call_Name_kw->wk,World->w6,wpAny_call_entry->x8,wpAny_newObj_type->z8,wpAny_holding->D',wpAny_field->H0,wpAny_callSpecial?_slot->H8,keywordEach->Ig,wpAny_truthy_bool->Jx,Heap->Kq,holding->Kw,cLine->KA,NameKind->K9,bootBuiltins->La,Stmt->Le,Around->Li,builtinLookup_eq_fast->LC,Scope->L9,scanBound->L',cellsFrom->Md,wpAny_of_eq->Mz,foldedSetIterable->MB,Keyword->ME,backToKw->M6,sysModules->Nl,wpAny_passesOwn->Nn,codeAny_builtin->Nz,compareOp->NG,behindInMarks->NP,attributeBase->NU,Builtin->NV,wpAny_rule->Oe,isSubtype_type->Og,swapsWith->Ou,codeAny->Oz,call->OD,binaryOp->O2,wpAny_specialOf->Pa,typeLookup_type->Pb,wpAny_pyIter_tuple->Pc,tupleKind_room_in1->Pd,call_meets->Po,assignEach->Pp,wpAny_getItem_str_slice->PN,codeAny_mono->Qf,rawInt->QU,swapsWithSole->QX,sliceBounds->QZ,FuncData->Q0,wpAny_updateSeq->Q5,wpAny_execs_nil->Q6,getItem->Q7,pushCells->Q_,wpAny_setField->Rh,typeIs_str->Ri,assign->Rr,standAt->Rz,wpAny_attempt->RC,pyNext->RE,plainId_quiet->RF,wpAny_isInstance->RS,wpAny_typeOf->R_,setItem->R',relabel->Sb,notedBy->Se,callerA->Sh,wpAny_loadPart'->So,post_val_or_str->Sq,letOwnedTupleGo->Sr,wpAny_isTrue_Compare1->SA,firstArgMember->S4,Params->Tb,IsPart->Tc,tupleKind->Ts,seqIndex?->Tx,getMethod->TC,swappedStores->UC,wpAny_pyIter_list->Vq,wpAny_pyIter_enum->Vr,valueAt->Vs,release->Vt,concat_meets->Vu,compEnvC->Vy,callWith->Vz,GenState->VA,noFill_tuple_add->Wm,isSubtype->Wn,PassesOwn->Wo,subscripted->Ws,pushCells_keeps->WI,codeAny_of_tree->WJ,wpAny_seqItems->Xh,wpAny_call->XA,typeLookup->XB,relayAll->XC,pyIter->XD,newFunctionEnv->XE,atKey->XF,SetTable->XN,wpAny_standAt->Yu,wpAny_newList->Yv,wpAny_comprehension_free->Yw,signature?_of->Yx,seq_tuple_add->Yy,wpAny_Call_method0_late->YI,strValues->YJ,bindL->YK,bindC->YL,wpAny_Call_method_late->YO,typeOf->YP,spliced->YQ,call_meetsIn->YR,argsOk->YS,IsEnum->YU,BindsTo->YX,step->Zd,sizeLine_eq->Ze,seqIndex_of->Zf,codeAny_extend_loopS->Zg,Operator->Zi,wpAny_Tuple_spliced->Zs,wpAny_Name->Zz,wpAny_List_spliced->ZA,rule->ZC,builtinsNs->ZD,WalksS->ZE,JoinOk->ZG,wpAny_storeSet_of->ZO,wpAny_sequenceKey->ZP,wpAny_assign_Name->ZQ,slot_list_getitem->ZR,fits_of_scanBound->ZS,ItemsOf->ZY,wpAny_execs_cons->Z3,wpAny_eqBool_str->Z4,wpAny_eqBool_int->Z5,updateSeq->Z6,entryFor_of_tree->Z7,checkBuiltinCall->Z8,Slot->Z',wpAny_ite_split->Ë,wpAny_runValue->Ó,wpAny_Expr_any->Ô,wpAny_Compare1->Õ,truthy->Ö,recursionLimit->Ø,numbered_texts->Ù,isSubtype_stop->Ú,field->Û,entryFor->Ü,callType_codes->Ý,bindArgs->Þ,augStore->ß,again->à
open Decidable renaming decide->cL
open PySem.Heap renaming get?_push_of_some->df,get?_push_size->hW,lt_size->i6,get?_update_self->vr,SameBut->KX,size_push->MF,get?_update_other->M3,ExtBut->Ve,get?_update_ne->YD
open List renaming length_map->dr,getElem?_eq_some_iff->dt,getElem?_set_self->ez,mem_cons->gj,map_cons->g8,size_toArray->hH,getElem?_set_ne->hY,range->il,mem_cons_of_mem->i8,mem_append->i9,mem_singleton->js,length_append->j0,mem_cons_self->kj,length_cons->k9,replicate->lg,mem_map->lx,map_map->mh,getElem?_append_right->mu,nil_append->my,getElem?_append_left->nc,nodup_cons->nC,lookup_cons->nT,map_append->oD,getElem?_map->pa,length_take->pb,mem_of_getElem?->pd,nodup_append->ro,all_eq_true->rr,append_nil->sx,mem_append_right->ti,isEmpty_iff->ux,mem_range->ve,map_congr_left->x4,getElem?_drop->DD,getElem?_replicate->Hf,filter_cons->HR,filterMap_cons->Jd,length->Jt,getElem?_eq_getElem->JU,take_of_length_le->K1,filter_eq_nil_iff->K2,getElem_mem->K7,length_singleton->Lc,mem_filter->Lj,getD->Lz,mem_append_left->LG,map_nil->LL,lookup->LM,find?_cons->Nd,length_filter_le->Nf,ext_getElem->NX,drop_eq_getElem_cons->N0,mem_map_of_mem->N4,getElem?_take_of_lt->Oq,mem_filterMap->OG,filter_append->OO,getElem?_cons_succ->OP,filter_cons_of_pos->OQ,filter_cons_of_neg->OR,length_replicate->P0,dropLast_eq_take->P6,any_eq_true->Qe,getElem?_zipIdx->Qj,of_mem_zip->QG,getElem_of_mem->QW,pairwise_cons->Q4,reverse_cons->Q9,length_drop->Rt,filter_nil->RO,drop_left'->RP,mem_iff_getElem->R6,map->R9,length_reverse->Sy,getElem?_range->Sz,any_cons->SI,zip_cons_cons->SX,length_range->T7,eraseIdxIfInBounds_toArray->Ur,isEmpty_map->Va,length_zip->Vm,length_nil->Vo,foldl_cons->Vp,nodup_nil->V',length_erase_of_mem->Wy,length_pos_of_mem->Xe,length_eq_one_iff->Xf,drop_of_length_le->Xg,mem_iff_getElem?->XO,getElem?_eq_none->XQ,eq_nil_or_concat->XR,concat_eq_append->XY,mem_of_mem_take->X',mem_erase_of_ne->Ye,getElem?_of_mem->Yn,dropLast_concat->Yt,length_pos_iff->YE,flatten_append->YF,filter_eq_self->YG,take_sublist->Y1,flatten_cons->Y2,ext_getElem?->Y3,append_assoc->Y4,any_eq_false->Y5,not_mem_nil->Y9,map_fst_zip->Y_,getElem_map->Y',getElem_inj->Za,drop_length->Zb,cons_append->Zc,length_set->Zp,filter_map->Zq,drop_zero->Zy,perm_nil->ZL,findIdx?->ZM,all_map->Z2,map_id->Ç
open Nat renaming le_refl->i5,ne_of_lt->ke,lt_of_lt_of_le->ku,zero_le->mx,le_trans->uv,lt_irrefl->vl,ne_of_gt->LO,lt_succ_self->MG,le_succ->OX,add_sub_cancel_left->O1,lt_succ_of_lt->Pw,le_of_lt->PF,min_eq_left->QV,zero_add->RN,lt_trans->Ul,le_of_eq->Uq,not_lt_of_lt->Zn,min_eq_right->Zo,le_total->Æ,log2_lt->Ñ,mod_lt->è
open PySem.Value renaming ref->ki,none->r3,str->Iv,type->Jy,bool->PY,isStrOf->Su,int->Wt,isStrOf_shape->X2,isInt->ZV,float->ZW,bytes->ZX
open Sum renaming inr->ox,inl->T_
open PySem.PyData renaming keyHash->oT
open PySem.Txt renaming partition->o9,split->OT,join->Ub,endswith->Z_
open Ne renaming symm->ri
open PySem.Obj renaming mapSeq->rl,data_mapFields->M8,putSet->RL,isFreed_of_fields->R0,cls_mapFields->Y6
open PyProof.Rows renaming slot_tuple_getitem->sL,seqObj->E',callWith_type1->JX,StrsAre->Q8,AllBare->RB,envOfC->RM,callWith_builtin1->R3,size_push'->Sj,subscriptTail->UR,listUpdate_at->UT,IsTup->U',subscriptTail_builtinR->YY,listItems_at->YZ,IntsAre->Y0,seqEpoch_at->Zm,entry_tuple_getitem->Zu,sortedHeap->ZI,args_tuple_getitem->ZJ,Subscript_->ZK,slot_str_getitem->Ä,len_tuple->Å,get?_update_seq->Ï,entry_list_sort->Ð,sortedHeap_old->ã,slot_list_sort->ä,slicePart_none->å,isTrue_and_nil->æ,args_list_sort->ç
open Option.some renaming inj->tj,injEq->Qz
open Array renaming length_toList->tr,getElem?_toList->PR,toList_append->Sn,size_append->Tg,toList_inj->UA,getElem?_eq_getElem->Wb,toList->WL,toArray_toList->X1,append_assoc->YH,getD->Ê
open PySem.Str renaming empty->tv,ofString->M7,length->RG
open PySem.Builtin.Str renaming occurrences->tA,partsBetween->NC,strKind->VO
open PySem.Builtin.List renaming listExtendWith->y0,listTooLong->Jr,listLengthHint->JW,listSameRef->TY,listItems->UP,listUpdate->Í,listFitsIndex->Î
open False renaming elim->JQ
open PySem.Heap.SameBut renaming update->JT,refl->Wq
open PySem.Builtin.SmallTypes renaming nextOf->J2
open PySem.NameKind renaming free->J',cell->Km
open PySem.Calls renaming callWith_builtin->Ks,evalArgs_plain->Lf,spliced_cons->MJ,spliced_nil->O',Name_function_global->VE,call_function_entry->VN
open Int renaming toNat_natCast->L3,eq_ofNat_of_zero_le->Rx,toNat_of_nonneg->SS,emod_lt_of_pos->Td,zero_add->Uv,emod_nonneg->VI
open PySem.Builtin.Slice renaming slicePlaces->Nb,sliceAdjust->Qi,sliceApplied->SE,slicePartIndex->Á,sliceFields->Â
open PyProof.Rows.F renaming plain_set_update_loop->Nc,entry_set_update_loop->Rc
open PySem.Builtin.Tuple renaming tupleExact->Nm,tupleItemsOf->SD
open PySem.W renaming kas_sort->NA,kas_ask->ZT
open PySem.AutoSeq1 renaming wpAny_loadPart'->NW,sub_tuple_tuple->Vl,sub_tuple_list->VF,sub_list_tuple->VG,sub_list_list->V0,idx_int->X6
open ForInStep renaming yield->NY
open LT renaming lt->PQ
open List.cons renaming injEq->P8
open PySem.Around renaming under_plainId->P',under->SU
open PySem.SetTable renaming grown->Qq,sizeAbove->W0,orStandIn->W2,layClean->XG,relaid->YA,laid->YT
open PySem.SeqAt renaming EqAt->Rv,ne_of_list_tuple->WK,RcAt->YB,RcNeAt->ZF
open True renaming intro->Ry
open PySem.PassesOwn renaming leaving->Si
open Sum.inr renaming inj->To
open PySem.Code renaming isFrame->TQ,frames->X5,quiet_builtin->YM,isGuard->Z1
open PySem.F renaming args_str_split_2->Ug,entry_str_split->Vi,slot_str_split->VB,excBase_ValueError->YV,args_list_extend_2->YW,entry_list_extend->Y7,slot_list_extend->Zj,entry_list_pop->ZH,slot_list_pop->Z0
open Iff renaming rfl->Uw
open PySem.Moved renaming trans->UD,refl->YC
open Classical renaming byContradiction->Vb
open Prod.mk renaming injEq->VH
open Prod renaming ext->V4,fst->Zx
open PyProof.Rows.IsTup renaming new->Wx
open PySem.StrLaws renaming strSub_toList->Yz
open PySem.Data renaming cell->Y8,fields->À
open PySem.Shared renaming TypeIs->Zh
open PySem.Builtin.Frozenset renaming updateFrom->Zk,newClass->Zl
open LE renaming le->Zr
open PySem.ItemsOf renaming nil->Zt
open PyProof.Rows.LSm renaming range_all->Zv,kept_iter->Zw
open PySem.W.WShape renaming has->ZU
open PySem.Heap.IsSliceOf renaming new->ZZ
open PySem.Walks renaming list->Z9
open PySem.Builtin.Range renaming rangeSize->Ã
open List.Pairwise renaming nil->È
open LawfulBEq renaming eq_of_beq->É
open PySem.W.WData renaming int->Ì
open ToString renaming toString->Ò
open PySem.Heap.DictOf renaming new->á
open PySem.Flow renaming next->â
abbrev é:=@decide_eq_true_eq
abbrev ê:=@if_pos
abbrev ë:=@if_neg
abbrev ì:=@decide_eq_false
abbrev í:=@decide_eq_true
abbrev î:=@beq_eq_false_iff_ne
abbrev ï:=@congrArg
abbrev ð:=@of_decide_eq_true
local macro_rules|`(def $a:declId $b* : $t :=$v)=>`(theorem $a:declId $b* : $t :=$v)
local macro_rules|`(abbrev $a:declId $b:optDeclSig $c:declVal)=>`(noncomputable def $a:declId $b:optDeclSig $c:declVal)
local macro_rules|`(tactic|show $t)=>`(tactic|refine $t)
local macro_rules|`(tactic|have⟨$a,*⟩:=$t)=>do let p<-a.getElems.mapM fun x=>`(Lean.Parser.Tactic.rcasesPatLo|$(⟨x⟩):ident);`(tactic|obtain⟨$p,*⟩:=$t)
local macro_rules|`(⋯)=>`(by lia)
namespace K
open PySem PySem.W PyProof.Rows
abbrev vw:va:=view PySem.Challenge.pw_primer_k54_taken_back [11,12,13,14,15,19,20,21,22,24,25,26,27,28,30,31,33000,33001,33002,33003,33004,33005,33006,33007,33008,34,35,36,37,38,39,40,41,42,43,44,45]
abbrev lo:List Str:=["PrimerError","Unfit","TooMany","NoRow","NoDeed","LETTERS","LONGEST_STEM","FIRST_SENSE","LAST_SENSE","MOST_TOLD","MOST_ROWS","Shelf"]
noncomputable abbrev xt(s:gm):Bool:=xlAt vw [] s&&recOk (RowW.records PySem.Challenge.rw_primer_k54_taken_back.row.toRowW) s
noncomputable abbrev oe(w:w6):Option gm:=openEnds treeTable PySem.Challenge.rw_primer_k54_taken_back.row.prog w 4000
noncomputable abbrev os(s:gm):=openSeen vw lo (importedModules PySem.Challenge.rw_primer_k54_taken_back.row.prog.main.body) xt bD s
def K6(w:w6):(oe w).map (λs=>(os s).1)=a5 (openGood vw lo).1:=by kernel_rfl
def Lp(w:w6):(oe w).map (λs=>(os s).2)=a5 (openGood vw lo).2:=by kernel_rfl
end K
namespace L2
open PySem PySem.Spec PyProof.Rows
@[reducible]def Key:=Sum Int Str
abbrev kg:Key->dV->Bool
 |.inl k,v=>ZV k v
 |.inr x,v=>Su x v
abbrev GI(w:w6):Key->Int
 |.inl k=>hashInt k
 |.inr x=>hashStr w x
theorem br:∀{k:Key}{v:dV},kg k v=bD->(∃i t,k=T_ i/\v=Wt i t)\/(∃x t,k=ox x/\v=Iv x t)
 |.inl i,v,h=>by
  have⟨t,e⟩:=Value.isInt_shape (k:=i) (v:=v) h;show .inl ⟨i,t,rfl,e⟩
 |.inr x,v,h=>by
  have⟨t,e⟩:=X2 (x:=x) (v:=v) h;show .inr ⟨x,t,rfl,e⟩
def uo(i:Int)(t:Tok):kg (.inl i) (.int i t)=bD:=by simp[kg,ZV]
def ur(x:Str)(t:Tok):kg (.inr x) (.str x t)=bD:=by simp[kg,Su]
def Cw(a b:Int):cL ((T_ a:Key)=T_ b)=(a==b):=by
 by_cases e:a=b
 .subst e;simp
 .have h:¬(T_ a:Key)=T_ b:=λq=>e (Sum.inl.inj q);rw[ì h];show(î.mpr e).symm
def Cy(a b:Str):cL ((ox a:Key)=ox b)=cL (a=b):=by
 by_cases e:a=b
 .subst e;simp
 .have h:¬(ox a:Key)=ox b:=λq=>e (To q);rw[ì h,ì e]
def Cz(a:Int)(b:Str):cL ((T_ a:Key)=ox b)=cb:=ì (λq=>nomatch q)
def CA(a:Str)(b:Int):cL ((ox a:Key)=T_ b)=cb:=ì (λq=>nomatch q)
abbrev aY(prog:va)(w:w6):PySem.KeyKind prog w Key where
 is:=kg
 hash:=GI w
 inj:=λv a b f d=>by
  rcases br f with⟨i,t,rfl,rfl⟩|⟨x,t,rfl,rfl⟩
  .rcases br d with⟨j,u,rfl,e⟩|⟨y,u,rfl,e⟩
   .injection e with e1 _;rw[e1]
   .show nomatch e
  .rcases br d with⟨j,u,rfl,e⟩|⟨y,u,rfl,e⟩
   .show nomatch e
   .injection e with e1 _;rw[e1]
 byValue:=λk v h=>by
  rcases br h with⟨i,t,rfl,rfl⟩|⟨x,t,rfl,rfl⟩<;>rfl
 pyHash:=λc h=>by
  rcases br c with⟨i,t,rfl,rfl⟩|⟨x,t,rfl,rfl⟩
  .show wpAny_pyHash_int h
  .show wpAny_pyHash_str h
 eqBool:=λg c h=>by
  rcases br g with⟨i,t,rfl,rfl⟩|⟨x,t,rfl,rfl⟩
  .rcases br c with⟨j,u,rfl,rfl⟩|⟨y,u,rfl,rfl⟩
   .rw[Cw]at h;show Z5 h
   .rw[Cz]at h;show SeqAt.EqAt.int_str i t y u _ _ _ _ h
  .rcases br c with⟨j,u,rfl,rfl⟩|⟨y,u,rfl,rfl⟩
   .rw[CA]at h;show SeqAt.EqAt.str_int x t j u _ _ _ _ h
   .rw[Cy]at h;show Z4 h
 «strs»:=λk x t v h=>by
  rcases br h with⟨i,u,rfl,e⟩|⟨y,u,rfl,e⟩
  .show nomatch e
  .injection e with e1 _
   subst e1;cases v<;>rfl
def pw(prog:va)(w:w6)(i:Int)(t:Tok):(aY prog w).is (.inl i) (.int i t)=bD:=uo i t
def pz(prog:va)(w:w6)(x:Str)(t:Tok):(aY prog w).is (.inr x) (.str x t)=bD:=ur x t
inductive V where
 |HD|bl (b:Bool)|int (i:Int)|str (x:Str)|OA (b:Array UInt8)|OB (b:UInt64)|ref (a:gi)|ty (n:String)
 deriving DecidableEq
def RelV:V->dV->Prop
 |.HD,u=>u=r3
 |.bl b,u=>u=PY b
 |.int i,u=>∃t,u=Wt i t
 |.str x,u=>∃t,u=Iv x t
 |.OA b,u=>∃t,u=ZX b t
 |.OB b,u=>∃t,u=ZW b t
 |.ref a,u=>u=ki a
 |.ty n,u=>u=Jy n
@[reducible]def Vals:List V->List dV->Prop:=Paired RelV
def Vals.length(r:Vals xs us):xs.length=us.length:=Paired.length r
theorem Vals.get:∀{xs:List V}{us:List dV}{i:Nat}{x:V},Vals xs us->xs[i]?=a5 x->∃u,us[i]?=a5 u/\RelV x u
 |_,_,_,_,.nil,e=>by simp at e
 |_,_,0,_,.cons r _,e=>by simp at e;subst e;show⟨_,rfl,r⟩
 |_,_,i+1,x,.cons _ t,e=>by
  have⟨u,a,b⟩:=Vals.get (i:=i) (x:=x) t (by simpa using e);show⟨u,by simpa using a,b⟩
theorem Vals.set(r:RelV x u):∀{xs:List V}{us:List dV} (i:Nat),Vals xs us->Vals (xs.set i x) (us.set i u)
 |_,_,_,.nil=>.nil
 |_,_,0,.cons _ t=>.cons r t
 |_,_,i+1,.cons q t=>.cons q (Vals.set r i t)
theorem Vals.append:∀{xs ys:List V}{us ws:List dV},Vals xs us->Vals ys ws->Vals (xs++ys) (us++ws)
 |_,_,_,_,.nil,s=>s
 |_,_,_,_,.cons r t,s=>.cons r (Vals.append t s)
theorem Vals.take:∀{xs:List V}{us:List dV} (n:Nat),Vals xs us->Vals (xs.take n) (us.take n)
 |_,_,0,_=>.nil
 |_,_,_+1,.nil=>.nil
 |_,_,n+1,.cons r t=>.cons r (Vals.take n t)
theorem Vals.drop:∀{xs:List V}{us:List dV} (n:Nat),Vals xs us->Vals (xs.drop n) (us.drop n)
 |_,_,0,r=>r
 |_,_,_+1,.nil=>.nil
 |_,_,n+1,.cons _ t=>Vals.drop n t
def ft:Option V->Option dV->Prop
 |some v,a5 u=>RelV v u
 |none,b6=>True
 |_,_=>False
abbrev KV{κ:Type}:List (κ×V)->List (κ×dV)->Prop:=Paired λ(p:κ×V) (q:κ×dV)=>p.1=q.1/\RelV p.2 q.2
abbrev kV:Key->V
 |.inl i=>.int i
 |.inr x=>.str x
inductive HO where
 |lst (xs:List V)
 |tup (xs:List V)
 |dK (kvs:List (Key×V))|dT (kvs:List (List Key×V))
 |set (S:Int->Bool) (n:Nat)
 |ins (C dx:gi) (fs:List (Str×V))
 |own (x:gi)
 |xd (fs:List (Str×V))
 |met (f x:gi)
 |P9 (lo hi:Int)
 |Ko (o:Obj) (u:HO)
 |MC (ps:Array dV)
 |ext (φ:Kq->Prop)
@[reducible]def Hp:=gi->Option HO
abbrev upd(H:Hp)(a:gi)(o:HO):Hp:=λb=>if b=a then a5 o else H b
def aq:upd H a o a=a5 o:=by unfold upd;rw[ê rfl]
def ak(h:b≠a):upd H a o b=H b:=by unfold upd;rw[ë h]
def ER{H:Hp}(h:H a=a5 o)(h':H b=a5 u)(d:o≠u):a≠b:=by
 intro e;subst e;rw[h]at h';show d (tj h')
def bB{H:Hp}(h:H a=a5 o)(h':H b=b6):a≠b:=by
 intro e;subst e;rw[h]at h';cases h'
section
variable(P:va)(w:w6)
def bE(H:Hp)(h:Kq)(a:gi):HO->Prop
 |.lst xs=>xs.length<=cK/\∃(c:List dV) (n:Nat),Vals xs c/\h.get? a=a5 {cls:=.type "list",data:=.seq c.toArray n}
 |.tup xs=>xs.length<=cK/\∃c:List dV,Vals xs c/\U' h a c.toArray
 |.dK kvs=>kvs.length<=cK/\(a==Nl)=cb/\∃vs,KV kvs vs/\h.DictOf (aY P w) a vs
 |.dT kvs=>kvs.length<=cK/\(a==Nl)=cb/\∃xs:List (List Key×gi×dV),
   Paired (λ(p:List Key×V) (q:List Key×gi×dV)=>p.1=q.1/\H q.2.1=a5 (.tup (p.1.map kV))/\RelV p.2 q.2.2) kvs xs /\
   ∃o es ep,h.get? a=a5 o/\o.ExactDict/\o.data=.dict es ep/\es.toList=xs.map (entryOfKey (Ts (aY P w)))/\(xs.map (·.1)).Nodup
 |.set S n=>h.SetOf (intKind P w) a S n
 |.ins C e d=>H e=a5 (.own a)/\d.length<=1000/\e≠a/\h.get? a=a5 (PySem.W.instObj C e) /\
   ∃b,h.Ns1 e b/\(∀f,ft (d.lookup f) (b f))/\PySem.Within b (d.map (·.1))
 |.own _=>∃o,h.get? a=a5 o
 |.xd d=>∃b,h.Ns1 a b/\∀f,ft (d.lookup f) (b f)
 |.P9 lo hi=>∃t u v,h.get? a=a5 {cls:=.type "range",data:=.fields #[.int lo t,.int hi u,.int 1 v]}
 |.Ko o u=>h.get? a=a5 o/\bE H h a u
 |.MC ps=>h.get? a=a5 {cls:=.none,data:=.fields ps}
 |.met f x=>h.get? a=a5 (PySem.W.methodObj (.ref f) (.ref x))
 |.ext φ=>φ h/\(∃o,h.get? a=a5 o)/\∀g i:Kq,φ g->(∀o,g.get? a=a5 o->i.get? a=a5 o)->φ i
abbrev IS(H:Hp)(h:Kq):Prop:=∀a o,H a=a5 o->bE P w H h a o
end
section
def bE.lt(x:bE P w H h a o):a<h.objs.size:=by
 cases o with
 |lst xs=>obtain⟨_,_,_,_,e⟩:=x;show i6 e
 |tup xs=>obtain⟨_,_,_,p⟩:=x;show p.lt
 |set S n=>obtain⟨o,_,_,_,e,_⟩:=x;show i6 e
 |ins C c b=>obtain⟨_,_,_,e,_⟩:=x;show i6 e
 |own y=>obtain⟨_,e⟩:=x;show i6 e
 |xd b=>obtain⟨_,⟨_,_,_,e,_⟩,_⟩:=x;show i6 e
 |P9 lo hi=>obtain⟨_,_,_,e⟩:=x;show i6 e
 |Ko d u=>obtain⟨e,_⟩:=x;show i6 e
 |MC ps=>show i6 (show h.get? a=a5 _ from x)
 |met f y=>show i6 (show h.get? a=a5 _ from x)
 |ext φ=>obtain⟨_,⟨_,e⟩,_⟩:=x;show i6 e
 |_=>obtain⟨_,_,_,_,o,_,_,e,_⟩:=x;show i6 e
theorem Paired.CB:∀{c:List α}{d:List β},Paired F c d->(∀a b,F a b->G a b)->Paired G c d
 |_,_,.nil,_=>.nil
 |_,_,.cons r t,f=>.cons (f _ _ r) (Paired.CB t f)
def bE.kh(x:bE P w H h a o)(k:∀b u,(b=a\/H b=a5 (.own a))->h.get? b=a5 u->h'.get? b=a5 u)
  (ho:∀b,H b=a5 (.own a)->H' b=a5 (.own a)) (m:∀b xs,H b=a5 (.tup xs)->H' b=a5 (.tup xs)):bE P w H' h' a o:=by
 induction o with
 |lst xs=>have⟨z,i,n,r,e⟩:=x;show⟨z,i,n,r,k _ _ (.inl rfl) e⟩
 |tup xs=>have⟨z,i,r,g,e,c⟩:=x;show⟨z,i,r,g,k _ _ (.inl rfl) e,c⟩
 |dK kvs=>have⟨z,y,vs,r,g,es,ep,e,c⟩:=x;show⟨z,y,vs,r,g,es,ep,k _ _ (.inl rfl) e,c⟩
 |dT kvs =>
  have⟨z,y,xs,r,g,es,ep,e,c⟩:=x;show⟨z,y,xs,Paired.CB r λp q z=>⟨z.1,m _ _ z.2.1,z.2.2⟩,g,es,ep,k _ _ (.inl rfl) e,c⟩
 |set S n=>have⟨g,es,ep,t,e,c⟩:=x;show⟨g,es,ep,t,k _ _ (.inl rfl) e,c⟩
 |ins C G s =>
  obtain⟨d,z,A,e,j,⟨l,es,ep,B,c⟩,r⟩:=x;show⟨ho _ d,z,A,k _ _ (.inl rfl) e,j,⟨l,es,ep,k _ _ (.inr d) B,c⟩,r⟩
 |own y=>have⟨g,e⟩:=x;show⟨g,k _ _ (.inl rfl) e⟩
 |xd s=>obtain⟨j,⟨l,es,ep,e,c⟩,r⟩:=x;show⟨j,⟨l,es,ep,k _ _ (.inl rfl) e,c⟩,r⟩
 |P9 lo hi=>have⟨t,u,v,e⟩:=x;show⟨t,u,v,k _ _ (.inl rfl) e⟩
 |Ko g u D=>have⟨e,q⟩:=x;show⟨k _ _ (.inl rfl) e,D q⟩
 |MC ps =>
  have e:h.get? a=a5 {cls:=.none,data:=.fields ps}:=x;change h'.get? a=a5 {cls:=.none,data:=.fields ps};show k a _ (.inl rfl) e
 |met f y =>
  have e:h.get? a=a5 (PySem.W.methodObj (.ref f) (.ref y)):=x;change h'.get? a=a5 (PySem.W.methodObj (.ref f) (.ref y));show k a _ (.inl rfl) e
 |ext φ=>obtain⟨p,⟨o,e⟩,st⟩:=x;show⟨st _ _ p λo q=>k _ _ (.inl rfl) q,⟨o,k _ _ (.inl rfl) e⟩,st⟩
def IS.lt(x:IS P w H h)(e:H a=a5 o):a<h.objs.size:=(x a o e).lt
def IS.fresh(x:IS P w H h)(e:h.objs.size<=a):H a=b6:=by
 cases q:H a with
 |none=>rfl
 |some u=>show absurd (ku (x.lt q) e) (vl _)
def IS.kept(x:IS P w H h)(k:∀b u,h.get? b=a5 u->h'.get? b=a5 u):IS P w H h':=λa o e =>
 (x a o e).kh (λb u _ q=>k b u q) (λ_ q=>q) λ_ _ q=>q
def IS.laid(x:IS P w H h)(k:∀b u,h.get? b=a5 u->h'.get? b=a5 u)(g:h.objs.size<=a)(new:bE P w (upd H a o) h' a o):IS P w (upd H a o) h':=λb u e=>by
 have d:=x.fresh g;by_cases f:b=a
 .subst f;rw[aq]at e;cases e;show new
 .rw[ak f]at e;show(x b u e).kh (λc v _ q=>k c v q) (λc q=>by rw[ak (bB q d)];show q) λc xs q=>by rw[ak (bB q d)];show q
end
abbrev Rd(H:Hp)(a:gi)(u:HO):Prop:=H a=a5 u\/∃o,H a=a5 (.Ko o u)
def Rd.ok(r:Rd H a u)(x:IS P w H h):bE P w H h a u:=by
 rcases r with r|⟨o,r⟩
 .show x a u r
 .obtain⟨_,q⟩:=x a _ r;show q
def OC:Option HO->Prop
 |some (.lst _)=>True
 |some (.dK _)=>True
 |some (.dT _)=>True
 |some (.set _ _)=>True
 |some (.ins _ _ _)=>True
 |some (.ext _)=>True
 |_=>False
section
def IS.write(l:IS P w H h)(a:OC (H x))(g:e=x\/H e=a5 (.own x))(k:∀b u,b≠e->h.get? b=a5 u->h'.get? b=a5 u)(m:∃u,h'.get? e=a5 u)
  (new:bE P w (upd H x o') h' x o'):IS P w (upd H x o') h':=λb u q=>by
 have i:∀c y,H c=a5 (.own y)->c≠x:=λc y r z=>by subst z;rw[r]at a;show a
 have n:∀c xs,H c=a5 (.tup xs)->c≠x:=λc xs r z=>by subst z;rw[r]at a;show a
 by_cases d:b=x
 .subst d;rw[aq]at q;cases q;show new
 .rw[ak d]at q;by_cases f:b=e
  .have j:H b=a5 (.own x):=by
    rcases g with z|z
    .show absurd (f.trans z) d
    .rw[f];show z
   rw[q]at j;cases j;have⟨v,o⟩:=m;show⟨v,by rw[f];show o⟩
  .show(l b u q).kh (λc v hc r=>k c v ?_ r) (λc r=>by rw[ak (i c b r)];show r) λc xs r=>by rw[ak (n c xs r)];show r
   rcases hc with rfl|hc
   .show f
   .rintro rfl;rcases g with z|z
    .show i c b hc z
    .rw[hc]at z;cases z;show d rfl
end
structure Un(fs ex:List gi)(H H':Hp)(h h':Kq):Prop where
 keep:∀b o,h.get? b=a5 o->H b=b6->b∉fs->b∉ex->h'.get? b=a5 o
 slot:∀b o,h.get? b=a5 o->H b=b6->b∈fs->b∉ex->∃sl,h'.get? b=a5 {o with slots:=sl}
 free:∀b o,h.get? b=a5 o->H b=b6->b∉ex->H' b=b6
 there:∀b o,h.get? b=a5 o->b∉ex->∃o',h'.get? b=a5 o'
 gy:∀b xs,H b=a5 (.tup xs)->H' b=a5 (.tup xs)
 I0:∀b o u,H b=a5 (.Ko o u)->H' b=a5 (.Ko o u)
 Jf:∀b ps,H b=a5 (.MC ps)->∃more,H' b=a5 (.MC (ps++more))
section
def Un.any(u:Un e ex H i h f)(q:h.get? b=a5 a)(n:H b=b6)(c:b∉ex):∃g,f.get? b=a5 {a with slots:=g}:=by
 by_cases d:b∈e
 .show u.slot b a q n d c
 .show⟨a.slots,u.keep b a q n d c⟩
def Un.kept(k:∀b u,h.get? b=a5 u->h'.get? b=a5 u):Un c ex H H h h' :=
 ⟨λb a q _ _ _=>k b a q,λb a q _ _ _=>⟨a.slots,k b a q⟩,λ_ _ _ n _=>n,λb a q _=>⟨a,k b a q⟩,λ_ _ q=>q,λ_ _ _ q=>q,λ_ ps q=>⟨#[],by rw[q];simp⟩⟩
def Un.refl:Un a ex H H h h:=Un.kept λ_ _ q=>q
def Un.laid(k:∀b u,h.get? b=a5 u->h'.get? b=a5 u)(d:h.objs.size<=a)(c:H a=b6):Un e ex H (upd H a o) h h' where
 keep:=λb u q _ _ _=>k b u q
 slot:=λb u q _ _ _=>⟨u.slots,k b u q⟩
 free:=λb u q n _=>by rw[ak (ke (ku (i6 q) d))];show n
 there:=λb u q _=>⟨u,k b u q⟩
 gy:=λb xs q=>by rw[ak (bB q c)];show q
 I0:=λb u xs q=>by rw[ak (bB q c)];show q
 Jf:=λb ps q=>⟨#[],by rw[ak (bB q c),q];simp⟩
def Un.write(a:OC (H x))(i:e=x\/H e=a5 (.own x))(k:∀b u,b≠e->h.get? b=a5 u->h'.get? b=a5 u)(j:∃u,h'.get? e=a5 u):Un l ex H (upd H x o) h h':=by
 have d:∀b,H b=b6->b≠x:=λb n z=>by subst z;rw[n]at a;show a
 have f:∀b,H b=b6->b≠e:=λb n z=>by
  subst z;rcases i with r|r
  .show d b n r
  .rw[n]at r;cases r
 have c:∀b u,H b=a5 u->¬OC (a5 u)->b≠x:=λb u q nm z=>by subst z;rw[q]at a;show nm a
 show⟨λb u q n _ _=>k b u (f b n) q,λb u q n _ _=>⟨u.slots,k b u (f b n) q⟩,λb u q n _=>by rw[ak (d b n)];show n,λb u q _=>?_,
  λb xs q=>by rw[ak (c b _ q λz=>z)];show q,λb u xs q=>by rw[ak (c b _ q λz=>z)];show q,λb ps q=>⟨#[],by rw[ak (c b _ q λz=>z),q];simp⟩⟩
 by_cases g:b=e
 .subst g;show j
 .show⟨u,k b u g q⟩
end
abbrev P_(h:Kq)(H:Hp):List gi:=(il h.objs.size).filter λa=>(H a).isSome
abbrev ny(h:Kq)(H:Hp):Kq:=PySem.W.hideAll h (P_ h H)
def uu(h:Kq)(H:Hp):(ny h H).objs.size=h.objs.size:=PySem.W.hideAll_size _ _
def vW(e:h.get? b=a5 o)(n:H b=b6):(ny h H).get? b=a5 o :=
 PySem.W.hideAll_get _ e λa=>by
  have q:(H b).isSome=bD:=(Lj.mp a).2;rw[n]at q;simp at q
def zN(e:(ny h H).get? b=a5 o):h.get? b=a5 o/\H b=b6:=by
 have a:h.get? b=a5 o:=PySem.W.of_hideAll (P_ h H) e;show⟨a,?_⟩;cases q:H b with
 |none=>rfl
 |some x =>
  have c:b∈P_ h H:=Lj.mpr ⟨ve.mpr (i6 a),by simp[q]⟩;have z:(ny h H).get? b=b6:=PySem.W.hideAll_none (P_ h H) c;rw[z]at e;cases e
structure Mod(K:PySem.W.Frag)(mg:Str->Option dV)(base:Kq):Prop where
 M4:K.In base
 glob:base.Ns mN mg
 blt:∃mb,base.Ns ZD mb/\∀x:Str,x≠"__name__"->mb x=La x
 nolimit:base.NoLimit
structure Cx where
 prog:va
 w:w6
 K:PySem.W.Frag
 mg:Str->Option dV
 base:Kq
 A:Li
 N:List Str
 s₀:gm
 H₀:Hp
 env:Env
 outer:List Env
 stack:List Env
 ex:List gi
 fn:Str->Bool
 calm:Bool
 pn:List (gi×Obj)
 xe:dV->gm->Prop
abbrev Io(l:List Env):List gi:=l.filterMap (·.frame)
noncomputable abbrev Cx.fs(X:Cx):List gi:=Io X.outer
abbrev IT(a:L9)(x:Str):Prop:=a.names.lookup x=a5 .local\/a.names.lookup x=a5 .cell\/a.names.lookup x=a5 .free
abbrev Loc(a:L9)(x:Str):Prop:=a.names.lookup x=a5 .local\/a.names.lookup x=a5 .cell
abbrev Look(env:Env)(h:Kq)(m:Str->Option dV)(x:Str)(u:dV):Prop :=
 (env.kindOf x=a5 .local/\m x=a5 u)\/((env.kindOf x=a5 .cell\/env.kindOf x=a5 .free)/\∃c,env.cells.lookup x=a5 c/\h.IsCell c (a5 u))
structure Cx.Ok(X:Cx):Prop where
 mod:Mod X.K X.mg X.base
 kind:X.env.scope.kind=.function
 glob:X.env.globals=mN
 blt:X.env.builtins=ZD
 above:X.s₀.heap.objs.size<=X.env.locals
 inj:∀x y c,X.env.cells.lookup x=a5 c->X.env.cells.lookup y=a5 c->x=y
 has:∀x,(X.env.kindOf x=a5 .cell\/X.env.kindOf x=a5 .free)->∃c,X.env.cells.lookup x=a5 c
 N1:∀x c,X.fn x=bD->X.env.cells.lookup x=a5 c->X.s₀.heap.objs.size<=c
 hd:X.calm=bD->X.A.handled=b6
 frames:X.A.frames=a5 X.stack
 OE:X.stack=X.outer\/(X.stack=X.env::X.outer/\X.env.frame=a5 X.env.locals)
 QY:∀b∈X.ex,b≠X.env.locals/\∀x c,X.env.cells.lookup x=a5 c->c≠b
 bs:∀b o,X.base.get? b=a5 o->X.s₀.heap.get? b=a5 o/\X.H₀ b=b6
 LK:X.base.objs.size<=X.s₀.heap.objs.size
 KC:∀b o,X.base.get? b=a5 o->b∉X.ex
 Lg:∀b∈X.ex,b∉X.fs
 ja:X.s₀.heap.FunFrames X.base X.outer
 MD:∀b∈X.fs,X.H₀ b=b6
structure Inv(X:Cx)(pins:List (gi×Obj))(σ:List (Option V))(H:Hp)(s:gm):Prop where
 ok:X.Ok
 os:s.os=X.s₀.os
 bare:RB s.gens
 base:Un X.fs X.ex X.H₀ H X.s₀.heap s.heap
 loc:∃m,s.heap.Ns X.env.locals m/\∀(i:Nat) (x:Str) (v:V),X.N[i]?=a5 x->σ[i]?=a5 (a5 v)->IT X.env.scope x->∃u,RelV v u/\Look X.env s.heap m x u
 cell:∀x c,X.env.cells.lookup x=a5 c->∃v,s.heap.IsCell c v
 free:H X.env.locals=b6
 Im:∀x c,X.env.cells.lookup x=a5 c->H c=b6
 pin:∀p∈X.pn++pins,s.heap.get? p.1=a5 p.2/\H p.1=b6/\p.1≠X.env.locals/\p.1∉X.fs/\∀v,p.2.data≠.cell v
 HA:IS X.prog X.w H s.heap
 len:σ.length=X.N.length
section
variable{X:Cx}{pins:List (gi×Obj)}{σ:List (Option V)}{H H':Hp}{s:gm}{h':Kq}
def Cx.Ok.GJ(a:X.Ok)(e:X.base.get? b=a5 o):b∉X.fs:=λc=>by
 have:=(a.ja.mem c).1;rw[e]at this;cases this
def Inv.bs(I:Inv X pins σ H s):∀b o,X.base.get? b=a5 o->s.heap.get? b=a5 o/\H b=b6:=λb o e =>
 ⟨I.base.keep b o (I.ok.bs b o e).1 (I.ok.bs b o e).2 (I.ok.GJ e) (I.ok.KC b o e),I.base.free b o (I.ok.bs b o e).1 (I.ok.bs b o e).2 (I.ok.KC b o e)⟩
def Inv.bk(I:Inv X pins σ H s):∀b o,X.base.get? b=a5 o->s.heap.get? b=a5 o:=λb o e=>(I.bs b o e).1
def Inv.mod(I:Inv X pins σ H s):Mod X.K X.mg X.base:=I.ok.mod
def Inv.JE(I:Inv X pins σ H s):X.K.In s.heap:=I.ok.mod.M4.keeps I.bk
def Inv.lt(I:Inv X pins σ H s):X.env.locals<s.heap.objs.size:=let ⟨_,a,_⟩:=I.loc;a.lt
def Inv.sz(I:Inv X pins σ H s):X.s₀.heap.objs.size<=s.heap.objs.size:=uv I.ok.above (PF I.lt)
def Inv.ES(I:Inv X pins σ H s)(h:s.heap.objs.size<=a):a∉X.fs:=λb=>by
 obtain⟨_,o,ho,_⟩:=I.ok.ja.mem b;show absurd (ku (i6 ho) (uv I.sz h)) (vl _)
def Inv.Lh(I:Inv X pins σ H s):∀x c,X.env.cells.lookup x=a5 c->c≠X.env.locals:=λx c e z=>by
 have⟨v,o,ho,a⟩:=I.cell x c e;obtain⟨m,⟨o',es,ep,b,d,_⟩,_⟩:=I.loc;rw[z,b]at ho;cases ho;rw[d]at a;cases a
def Inv.ja(I:Inv X pins σ H s):s.heap.FunFrames X.base X.outer:=by
 have all:∀(l:List Env),(∀b∈Io l,b∈X.fs)->X.s₀.heap.FunFrames X.base l->s.heap.FunFrames X.base l:=by
  intro l;induction l with
  |nil=>intro _ _;trivial
  |cons env r f =>
   intro hs hl;obtain⟨hk,⟨L,o,a,g,ho,h⟩,i⟩:=hl;have c:L∈X.fs:=hs L (by unfold Io;rw[Jd,a];show kj);have⟨j,e⟩:=I.base.slot L o ho (I.ok.MD L c) c λz=>I.ok.Lg L z c;show⟨hk,⟨L,_,a,g,e,h⟩,f (λb d=>hs b (by unfold Io;rw[Jd,a];show i8 _ d)) i⟩
 show all X.outer (λ_ d=>d) I.ok.ja
def Inv.stack(I:Inv X pins σ H s):s.heap.FunFrames X.base X.stack:=by
 rcases I.ok.OE with e|⟨e,a⟩
 .rw[e];show I.ja
 .rw[e];obtain⟨m,b,_⟩:=I.loc;show .cons (by rw[I.ok.kind];decide) a b ?_ I.ja;show Heap.get?_none_of_le (uv I.ok.LK I.ok.above)
def Inv.kl(I:Inv X pins σ H s):∀b∈Io X.stack,b∈X.env.locals::X.fs:=λb a=>by
 rcases I.ok.OE with e|⟨e,c⟩
 .rw[e]at a;show i8 _ a
 .rw[e]at a;unfold Io at a;rw[Jd,c]at a;show a
def Inv.fW(I:Inv X pins σ H s):∀b∈Io X.stack,H b=b6:=λb hb=>by
 rcases gj.mp (I.kl b hb) with e|hb
 .rw[e];show I.free
 .obtain⟨_,o,ho,_⟩:=I.ok.ja.mem hb;show I.base.free b o ho (I.ok.MD b hb) λz=>I.ok.Lg b z hb
def Inv.step{ch:List gi}(I:Inv X pins σ H s)
  (h:∀b∈ch,(b∈X.ex\/X.s₀.heap.objs.size<=b)/\b≠X.env.locals/\(∀x c,X.env.cells.lookup x=a5 c->c≠b)/\∀p∈X.pn++pins,p.1≠b)
  (keep:∀b o,b≠X.env.locals->b∉X.fs->b∉ch->s.heap.get? b=a5 o->H b=b6->h'.get? b=a5 o)
  (slot:∀b o,b≠X.env.locals->b∈X.fs->b∉ch->s.heap.get? b=a5 o->H b=b6->∃B,h'.get? b=a5 {o with slots:=B}) (free:∀b o,b∉ch->s.heap.get? b=a5 o->H b=b6->H' b=b6)
  (there:∀b o,b∉ch->s.heap.get? b=a5 o->∃o',h'.get? b=a5 o')
  (gy:∀b xs,H b=a5 (.tup xs)->H' b=a5 (.tup xs)) (I0:∀b o u,H b=a5 (.Ko o u)->H' b=a5 (.Ko o u)) (Jf:∀b ps,H b=a5 (.MC ps)->∃j,H' b=a5 (.MC (ps++j)))
  (ns:∀m,s.heap.Ns X.env.locals m->h'.Ns X.env.locals m) (N:IS X.prog X.w H' h') (O:RB g') :
  Inv X pins σ H' {s with heap:=h',gens:=g',drawn:=d',toks:=t' }:=by
 have D:∀b o,X.s₀.heap.get? b=a5 o->b≠X.env.locals:=λb o e=>ke (ku (i6 e) I.ok.above);have A:∀b o,X.s₀.heap.get? b=a5 o->b∉X.ex->b∉ch:=λb o e a g=>by
  rcases(h b g).1 with z|z
  .show a z
  .show absurd (ku (i6 e) z) (vl _)
 have f:∀x c,X.env.cells.lookup x=a5 c->∀v,s.heap.IsCell c v->h'.IsCell c v:=λx c e v Q=>by
  have⟨o,ho,C⟩:=Q;have t:c∉ch:=λz=>(h c z).2.2.1 x c e rfl;by_cases G:c∈X.fs
  .have⟨B,q⟩:=slot c o (I.Lh x c e) G t ho (I.Im x c e);show⟨_,q,C⟩
  .show⟨o,keep c o (I.Lh x c e) G t ho (I.Im x c e),C⟩
 show⟨I.ok,I.os,O,⟨λb o e n g a=>?_,λb o e n g a=>?_,λb o e n a=>?_,λb o e a=>?_,λb xs e=>gy b xs (I.base.gy b xs e),λb o xs e=>I0 b o xs (I.base.I0 b o xs e),λb ps e=>?_⟩,?_,λx c e=>?_,?_,λx c e=>?_,λp J=>?_,N,I.len⟩
 .show keep b o (D b o e) g (A b o e a) (I.base.keep b o e n g a) (I.base.free b o e n a)
 .have⟨B,e1⟩:=I.base.slot b o e n g a;have⟨T,y⟩:=slot b _ (D b o e) g (A b o e a) e1 (I.base.free b o e n a);show⟨T,y⟩
 .have⟨o',e1⟩:=I.base.there b o e a;show free b o' (A b o e a) e1 (I.base.free b o e n a)
 .have⟨o',e1⟩:=I.base.there b o e a;show there b o' (A b o e a) e1
 .have⟨m1,e1⟩:=I.base.Jf b ps e;have⟨m2,y⟩:=Jf b _ e1;show⟨m1++m2,by rw[y,YH]⟩
 .have⟨m,Y,hl⟩:=I.loc;show⟨m,ns m Y,λi x v e1 y e3=>?_⟩;have⟨u,r,l⟩:=hl i x v e1 y e3;show⟨u,r,?_⟩;rcases l with l|⟨k,c,e,z⟩
  .show .inl l
  .show .inr ⟨k,c,e,f x c e _ z⟩
 .have⟨v,z⟩:=I.cell x c e;show⟨v,f x c e v z⟩
 .obtain⟨m,⟨o,_,_,ho,_⟩,_⟩:=I.loc;show free _ o (λz=>(h _ z).2.1 rfl) ho I.free
 .have⟨v,o,ho,C⟩:=I.cell x c e;show free c o (λz=>(h c z).2.2.1 x c e rfl) ho (I.Im x c e)
 .have⟨e,n,L,nf,d⟩:=I.pin p J;have t:p.1∉ch:=λz=>(h p.1 z).2.2.2 p J rfl;show⟨keep p.1 p.2 L nf t e n,free p.1 p.2 t e n,L,nf,d⟩
def Inv.un(I:Inv X pins σ H s)(u:Un X.fs [] H H' s.heap h')(d:IS X.prog X.w H' h'):Inv X pins σ H' {s with heap:=h',toks:=t' }:=by
 obtain⟨m,⟨o,es,ep,ho,r⟩,_⟩:=id I.loc;have⟨k,f⟩:=u.any ho I.free (by simp);show I.step (g':=s.gens) (d':=s.drawn) (ch:=[]) (λ_ z=>nomatch z) (λb o _ a _ e n=>u.keep b o e n a (by simp)) (λb o _ a _ e n=>u.slot b o e n a (by simp)) (λb o _ e n=>u.free b o e n (by simp)) (λb o _ e=>u.there b o e (by simp)) u.gy u.I0 u.Jf (λl g=>by
  have⟨o',h,i,c,j⟩:=g;rw[ho]at c;cases c;show⟨_,h,i,f,j⟩) d I.bare
def Inv.call(I:Inv X pins σ H s)(u:Un (Io X.stack) ch H H' s.heap h')(h:IS X.prog X.w H' h')(i:RB g')
  (f:∀b∈ch,(b∈X.ex\/X.s₀.heap.objs.size<=b)/\b≠X.env.locals/\(∀x c,X.env.cells.lookup x=a5 c->c≠b)/\∀p∈X.pn++pins,p.1≠b) :
  Inv X pins σ H' {s with heap:=h',gens:=g',drawn:=d',toks:=t' }:=by
 obtain⟨m,⟨o,es,ep,ho,r⟩,_⟩:=id I.loc;have⟨v,d⟩:=u.any ho I.free λz=>(f _ z).2.1 rfl;show I.step (ch:=ch) f (λb o d j a e n=>u.keep b o e n (λz=>(gj.mp (I.kl b z)).elim d j) a) (λb o _ _ a e n=>u.any e n a) (λb o a e n=>u.free b o e n a) (λb o a e=>u.there b o e a) u.gy u.I0 u.Jf (λy k=>by
  have⟨o',l,q,g,t⟩:=k;rw[ho]at g;cases g;show⟨_,l,q,d,t⟩) h i
def Inv.turned(I:Inv X pins σ H s)(k:∀b o,b≠it->s.heap.get? b=a5 o->h'.get? b=a5 o)(g:H it=b6)(d:it≠X.env.locals)
  (h:it∈X.ex\/X.s₀.heap.objs.size<=it) (i:∀x c,X.env.cells.lookup x=a5 c->c≠it) (j:∀p∈X.pn++pins,p.1≠it):Inv X pins σ H {s with heap:=h',toks:=t' }:=by
 have f:∀b u,H b=a5 u->b≠it:=λb u e z=>by rw[z,g]at e;cases e
 show I.step (g':=s.gens) (d':=s.drawn) (ch:=[it]) (λb l=>?_) (λb o _ _ a e _=>k b o (λz=>a (by simp[z])) e) (λb o _ _ a e _=>⟨o.slots,k b o (λz=>a (by simp[z])) e⟩) (λ_ _ _ _ n=>n)
  (λb o a e=>⟨o,k b o (λz=>a (by simp[z])) e⟩) (λ_ _ e=>e) (λ_ _ _ e=>e) (λb ps e=>⟨#[],by rw[e];simp⟩) (λm t=>?_) (λb u e=>?_) I.bare
 .have e:b=it:=by simpa using l
  subst e;show⟨h,d,i,j⟩
 .have⟨o,es,ep,ho,r⟩:=t;show⟨o,es,ep,k _ o (ri d) ho,r⟩
 .show(I.HA b u e).kh (λc v a q=>k c v ?_ q) (λ_ q=>q) λ_ _ q=>q;rcases a with z|z
  .rw[z];show f b u e
  .show f c _ z
def Inv.tok(I:Inv X pins σ H s)(t:Nat):Inv X pins σ H {s with toks:=t}:=I.un (h':=s.heap) (t':=t) Un.refl I.HA
def Inv.kept(I:Inv X pins σ H s)(k:∀b u,s.heap.get? b=a5 u->h'.get? b=a5 u):Inv X pins σ H {s with heap:=h',toks:=t' }:=I.un (Un.kept k) (I.HA.kept k)
def Inv.laid(I:Inv X pins σ H s)(k:∀b u,s.heap.get? b=a5 u->h'.get? b=a5 u)(c:s.heap.objs.size<=a)(new:bE X.prog X.w (upd H a o) h' a o):
  Inv X pins σ (upd H a o) {s with heap:=h',toks:=t' }:=I.un (Un.laid k c (I.HA.fresh c)) (I.HA.laid k c new)
def Inv.write(I:Inv X pins σ H s)(a:OC (H x))(c:e=x\/H e=a5 (.own x))(k:∀b u,b≠e->s.heap.get? b=a5 u->h'.get? b=a5 u)(d:∃u,h'.get? e=a5 u)
  (new:bE X.prog X.w (upd H x o) h' x o):Inv X pins σ (upd H x o) {s with heap:=h',toks:=t' }:=I.un (Un.write a c k d) (I.HA.write a c k d new)
def Inv.weak(I:Inv X pins σ H s)(hl:a.length=σ.length)(w:∀(i:Nat) v,a[i]?=a5 (a5 v)->σ[i]?=a5 (a5 v)):Inv X pins a H s :=
 ⟨I.ok,I.os,I.bare,I.base,let ⟨m,b,c⟩:=I.loc;⟨m,b,λi x v e1 d e=>c i x v e1 (w i v d) e⟩,I.cell,I.free,I.Im,I.pin,I.HA,hl.trans I.len⟩
def Inv.fX(I:Inv X pins σ H s)(h:∀p∈a,s.heap.get? p.1=a5 p.2/\H p.1=b6/\p.1≠X.env.locals/\p.1∉X.fs/\∀v,p.2.data≠.cell v):Inv X a σ H s :=
 ⟨I.ok,I.os,I.bare,I.base,I.loc,I.cell,I.free,I.Im,λp b=>(i9.mp b).elim (λz=>I.pin p (LG _ z)) (h p),I.HA,I.len⟩
def h_{N:List Str}(c:N.Nodup){i j:Nat}(a:N[i]?=a5 x)(b:N[j]?=a5 x):i=j:=by
 have⟨e,e1⟩:=dt.mp a;have⟨f,d⟩:=dt.mp b;show(Za c).mp (e1.trans d.symm)
def mq(I:Inv X pins σ H s)(hN:X.N.Nodup)(hi:X.N[i]?=a5 x)(g:Loc X.env.scope x)(r:RelV v u)
  (h:∀s',Inv X pins (σ.set i (a5 v)) H s'->(∃a,KX a s.heap s'.heap/\(a=X.env.locals\/X.env.cells.lookup x=a5 a))->Q () s') (hf:X.fn x=bD\/X.env.scope.names.lookup x=a5 .local:=by first|show .inl rfl|show .inr rfl|assumption):gs M A (storeName X.env x u) Q E s:=by
 have⟨m,J,hl⟩:=id I.loc;have M5:(X.env.scope.kind==.class||(X.env.scope.kind==.module&&X.env.locals != X.env.globals))=cb:=by rw[I.ok.kind];rfl
 have TZ:i < σ.length:=by rw[I.len];show(dt.mp hi).1
 have L:=I.Lh;have f:∀{a:gi} {h':Kq},(∃o,s.heap.get? a=a5 o/\H a=b6)->KX a s.heap h'->IS X.prog X.w H h':=λ{a h'} ha hs b ob e=>by
  obtain⟨_,_,HW⟩:=ha;show(I.HA b ob e).kh (λc C hc q=>(hs.2 c ?_).trans q) (λ_ q=>q) λ_ _ q=>q;rintro rfl;rcases hc with rfl|hc
  .rw[HW]at e;cases e
  .rw[HW]at hc;cases hc
 rcases g with hk|hk
 .show wpAny_storeName_local hk J (λh' L6 hs=>?_) M5;obtain⟨oL,_,_,L7,_⟩:=id J;show h _ ⟨I.ok,I.os,I.bare,⟨λb o e n t g=>?_,λb o e n t g=>?_,I.base.free,λb o e g=>?_,I.base.gy,I.base.I0,I.base.Jf⟩,⟨_,L6,λj y v' e1 l O=>?_⟩,λy c e=>?_,I.free,I.Im,λp T=>?_,f ⟨oL,L7,I.free⟩ hs,by simpa using I.len⟩ ⟨_,hs,.inl rfl⟩
  .show(hs.2 b (ke (ku (i6 e) I.ok.above))).trans (I.base.keep b o e n t g)
  .have⟨Y,e1⟩:=I.base.slot b o e n t g;show⟨Y,(hs.2 b (ke (ku (i6 e) I.ok.above))).trans e1⟩
  .have⟨o',e1⟩:=I.base.there b o e g;show⟨o',(hs.2 b (ke (ku (i6 e) I.ok.above))).trans e1⟩
  .by_cases B:j=i
   .subst B;rw[hi]at e1;cases e1;rw[ez TZ]at l;cases l;show⟨u,r,.inl ⟨hk,by simp⟩⟩
   .rw[hY (ri B)]at l;have⟨u',r',q⟩:=hl j y v' e1 l O;show⟨u',r',?_⟩;rcases q with⟨k,e⟩|⟨k,c,e,z⟩
    .show .inl ⟨k,?_⟩;have:y≠x:=λe=>B (h_ hN e1 (e▸hi));simp[this,e]
    .show .inr ⟨k,c,e,z.sameBut hs (L y c e)⟩
  .have⟨C,z⟩:=I.cell y c e;show⟨C,z.sameBut hs (L y c e)⟩
  .have⟨e,n,D,nf,d⟩:=I.pin p T;show⟨(hs.2 p.1 D).trans e,n,D,nf,d⟩
 .have Kp:X.fn x=bD:=by
   rcases hf with z|z
   .show z
   .rw[z]at hk;cases hk
  have⟨c,hc⟩:=I.ok.has x (.inl hk);have⟨C,z⟩:=I.cell x c hc;show wpAny_storeName_cell I.ok.kind hk hc z (λh' LN hs=>?_);have⟨oc,T1,Q1⟩:=id z;show h {s with heap:=h' } ⟨I.ok,I.os,I.bare,⟨λb o e n t g=>?_,λb o e n t g=>?_,I.base.free,λb o e g=>?_,I.base.gy,I.base.I0,I.base.Jf⟩,⟨m,J.sameBut hs (ri (L x c hc)),λj y v' e1 l O=>?_⟩,λy G e=>?_,I.free,I.Im,λp T=>?_,f ⟨oc,T1,I.Im x c hc⟩ hs,by simpa using I.len⟩ ⟨c,hs,.inr hc⟩
  .show(hs.2 b (ke (ku (i6 e) (I.ok.N1 x c Kp hc)))).trans (I.base.keep b o e n t g)
  .have⟨Y,e1⟩:=I.base.slot b o e n t g;show⟨Y,(hs.2 b (ke (ku (i6 e) (I.ok.N1 x c Kp hc)))).trans e1⟩
  .have⟨o',e1⟩:=I.base.there b o e g;show⟨o',(hs.2 b (ke (ku (i6 e) (I.ok.N1 x c Kp hc)))).trans e1⟩
  .by_cases B:j=i
   .subst B;rw[hi]at e1;cases e1;rw[ez TZ]at l;cases l;show⟨u,r,.inr ⟨.inl hk,c,hc,LN⟩⟩
   .rw[hY (ri B)]at l;have⟨u',r',q⟩:=hl j y v' e1 l O;show⟨u',r',?_⟩;rcases q with q|⟨k,G,e,z'⟩
    .show .inl q
    .show .inr ⟨k,G,e,z'.sameBut hs ?_⟩;rintro rfl;show B (h_ hN e1 (I.ok.inj _ _ _ e hc▸hi))
  .by_cases T5:G=c
   .subst T5;show⟨_,LN⟩
   .have⟨w2,z2⟩:=I.cell y G e;show⟨w2,z2.sameBut hs T5⟩
  .have⟨e,n,D,nf,d⟩:=I.pin p T;show⟨(hs.2 p.1 ?_).trans e,n,D,nf,d⟩;intro q;rw[q,T1]at e;have q':oc=p.2:=tj e;show d C (by rw[<-q'];show Q1)
def pA(I:Inv X pins σ H s)(a:X.N.Nodup)(hi:X.N[i]?=a5 x)(b:Loc X.env.scope x)(r:RelV v u)
  (h:∀s',Inv X pins (σ.set i (a5 v)) H s'->Q () s') (c:X.fn x=bD\/X.env.scope.names.lookup x=a5 .local:=by first|show .inl rfl|show .inr rfl|assumption):gs M A (storeName X.env x u) Q E s :=
 mq I a hi b r (λs' d _=>h s' d) c
def Inv.BZ(I:Inv X pins σ H s)(ho:s'.os=s.os)(u:Un (Io X.stack) ch H H' s.heap s'.heap)(a:IS X.prog X.w H' s'.heap)(d:RB s'.gens)
  (f:∀b∈ch,(b∈X.ex\/X.s₀.heap.objs.size<=b)/\b≠X.env.locals/\(∀x c,X.env.cells.lookup x=a5 c->c≠b)/\∀p∈X.pn++pins,p.1≠b):Inv X pins σ H' s':=by
 have⟨h',g',d',t',o'⟩:=s';have e:o'=s.os:=ho;subst e;show I.call (g':=g') (t':=t') (d':=d') u a d f
end
@[reducible]def XK:=dV->Option gi->Hp->Prop
@[reducible]def St:=List (Option V)
@[reducible]def VK:=V->Hp->Prop
@[reducible]def TE:=St->Hp->VK->Prop
@[reducible]def TT:=St->Hp->(Bool->Hp->Prop)->Prop
@[reducible]def TA:=St->Hp->(List V->Hp->Prop)->Prop
structure Ends where
 nx:St->Hp->Prop
 rt:VK
 bk:St->Hp->Prop:=λ_ _=>False
 ct:St->Hp->Prop:=λ_ _=>False
@[reducible]def TS:=Ends->St->Hp->Prop
abbrev EP(X:Cx)(a:List (gi×Obj))(σ:St)(Q:VK)(u:dV)(s':gm):Prop:=∃v H',Inv X a σ H' s'/\RelV v u/\Q v H'
abbrev TP(X:Cx)(a:List (gi×Obj))(σ:St)(Q:Bool->Hp->Prop)(b:Bool)(s':gm):Prop:=∃H',Inv X a σ H' s'/\Q b H'
abbrev AP(X:Cx)(a:List (gi×Obj))(σ:St)(Q:List V->Hp->Prop)(us:List dV)(s':gm):Prop:=∃vs H',Inv X a σ H' s'/\Vals vs us/\Q vs H'
abbrev SP(X:Cx)(a:List (gi×Obj))(D:Ends)(f:Flow)(s':gm):Prop :=
 match f with
 |.next=>∃b H',Inv X a b H' s'/\D.nx b H'
 |.brk=>∃b H',Inv X a b H' s'/\D.bk b H'
 |.cont=>∃b H',Inv X a b H' s'/\D.ct b H'
 |.ret u=>∃v b H',Inv X a b H' s'/\RelV v u/\D.rt v H'
abbrev PE(X:Cx)(e:nH)(t:TE):Prop :=
 ∀(a:List (gi×Obj)) (s:gm) (σ:St) (H:Hp) (Q:VK),Inv X a σ H s->t σ H Q->gs (i4 X.prog X.w) X.A (uk e X.env) (EP X a σ Q) X.xe s
abbrev PT(X:Cx)(e:nH)(t:TT):Prop :=
 ∀(a:List (gi×Obj)) (s:gm) (σ:St) (H:Hp) (Q:Bool->Hp->Prop),Inv X a σ H s->t σ H Q->gs (i4 X.prog X.w) X.A (isTrue e X.env (uk e X.env)) (TP X a σ Q) X.xe s
abbrev PW(X:Cx)(e:nH)(t:TT):Prop :=
 ∀(b:Sem dV) (a:List (gi×Obj)) (s:gm) (σ:St) (H:Hp) (Q:Bool->Hp->Prop),Inv X a σ H s->t σ H Q->gs (i4 X.prog X.w) X.A (isTrue e X.env b) (TP X a σ Q) X.xe s
def PW.pt(h:PW X e t):PT X e t:=h _
abbrev PA(X:Cx)(es:List nH)(t:TA):Prop :=
 ∀(pos:Pos) (a:List (gi×Obj)) (s:gm) (σ:St) (H:Hp) (Q:List V->Hp->Prop),Inv X a σ H s->t σ H Q->gs (i4 X.prog X.w) X.A (YQ (wh pos (i7 es X.env))) (AP X a σ Q) X.xe s
abbrev PS(X:Cx)(st:Le)(t:TS):Prop :=
 ∀(a:List (gi×Obj)) (s:gm) (σ:St) (H:Hp) (D:Ends),Inv X a σ H s->t D σ H->gs (i4 X.prog X.w) X.A (exec st X.env) (SP X a D) X.xe s
abbrev Je(X:Cx)(st:List Le)(t:TS):Prop :=
 ∀(a:List (gi×Obj)) (s:gm) (σ:St) (H:Hp) (D:Ends),Inv X a σ H s->t D σ H->gs (i4 X.prog X.w) X.A (execs st X.env) (SP X a D) X.xe s
def HE(h:gs M A t Q E s)(b:∀a s,Q a s->Q' a s):gs M A t Q' E s:=td h b λ_ _ x=>x
section
def bin(g:PE X a i)(j:PE X b tb){R:V->V->Hp->Prop}(I:Inv X c σ H s)(h:i σ H λx e=>tb σ e λy d=>R x y d)
 {Q:α->gm->Prop} {f:dV->dV->Sem α}
    (k:∀v u s2 x y d,Inv X c σ d s2->RelV x v->RelV y u->R x y d->gs (i4 X.prog X.w) X.A (f v u) Q X.xe s2) :
    gs (i4 X.prog X.w) X.A (uk a X.env) (λv l=>gs (i4 X.prog X.w) X.A (uk b X.env) (λu m=>gs (i4 X.prog X.w) X.A (f v u) Q X.xe m) X.xe l) X.xe s:=by
  show HE (g c s σ H _ I h) λv s1 n=>?_;have⟨x,e,o,r1,p⟩:=n;show HE (j c s1 σ e _ o p) λu s2 q=>?_;have⟨y,d,r,r2,t⟩:=q;show k v u s2 x y d r r1 r2 t
abbrev CC(i:Nat):TE:=λσ H Q=>∃v,σ[i]?=a5 (a5 v)/\Q v H
abbrev tC(v:V):TE:=λ_ H Q=>Q v H
def aZ(j:X.N[i]?=a5 x)(k:IT X.env.scope x)(d:(x==("__debug__":Str))=cb:=by decide)(n:(x==("__classdict__":Str))=cb:=by decide):PE X (.Name x pos) (CC i):=by
 intro b s σ H Q I h;have⟨v,e,h⟩:=h;have⟨m,o,hl⟩:=I.loc;have⟨u,r,l⟩:=hl i x v j e k;have a:EP X b σ Q u s:=⟨v,H,I,r,h⟩
 rcases l with⟨hk,p⟩|⟨hk,c,f,g⟩
 .show Zz (wpAny_loadName_local I.ok.kind hk o p a) d
 .rcases hk with hk|hk
  .show Zz (wpAny_loadName_cell I.ok.kind hk f g a) d
  .show Zz (wpAny_loadName_free I.ok.kind hk f g a n) d
def vX:PE X (.Constant (.int i) j pos) (tC (.int i)):=λ_ _ _ H _ I h=>wpAny_Constant_int ⟨.int i,H,I.tok _,⟨_,rfl⟩,h⟩
def vY:PE X (.Constant (.bool b) j pos) (tC (.bl b)):=λ_ _ _ H _ I h=>Constant_bool ⟨.bl b,H,I,rfl,h⟩
def vZ:PE X (.Constant .none j pos) (tC .HD):=λ_ _ _ H _ I h=>Constant_none ⟨.HD,H,I,rfl,h⟩
def v3:PE X (.Constant (.str x) j pos) (tC (.str x)):=λ_ _ _ H _ I h=>Calls.Constant_str ⟨.str x,H,I.tok _,⟨_,rfl⟩,h⟩
abbrev Gl(X:Cx)(x:Str):Prop:=X.env.kindOf x=a5 .globalImplicit
def eU(I:Inv X a σ H s)(b:Gl X x)(c:X.mg x=a5 u)(h:Q u s)
  (d:(x==("__debug__":Str))=cb:=by decide):gs (i4 X.prog X.w) X.A (uk (.Name x pos) X.env) Q E s :=
 VE I.ok.kind b (Calls.loadGlobal_global (by rw[I.ok.glob];show I.mod.glob.keeps I.bk) c h) d
def eV(I:Inv X a σ H s)(b:Gl X x)(c:X.mg x=b6)(d:La x=a5 u)(h:Q u s)
  (e:x≠"__name__":=by decide) (f:(x==("__debug__":Str))=cb:=by decide):gs (i4 X.prog X.w) X.A (uk (.Name x pos) X.env) Q E s:=by
 have⟨j,g,i⟩:=I.mod.blt;show VE I.ok.kind b (Calls.loadGlobal_builtin (by rw[I.ok.glob];show I.mod.glob.keeps I.bk) c (by rw[I.ok.blt];show g.keeps I.bk) ((i x e).trans d) h) f
def zO(a:Gl X x)(b:X.mg x=a5 u)(r:RelV v u)(c:(x==("__debug__":Str))=cb:=by decide):PE X (.Name x pos) (tC v) :=
 λ_ _ _ H _ I h=>eU I a b ⟨v,H,I,r,h⟩ c
abbrev PC(X:Cx)(op:CmpOp)(a b:nH)(t:TE):Prop :=
 ∀(c:List (gi×Obj)) (s:gm) (σ:St) (H:Hp) (Q:VK),Inv X c σ H s->t σ H Q ->
  gs (i4 X.prog X.w) X.A (uk a X.env) (λv d=>gs (i4 X.prog X.w) X.A (uk b X.env) (λu e=>gs (i4 X.prog X.w) X.A (NG op v u) (EP X c σ Q) X.xe e) X.xe d) X.xe s
abbrev tB(t:TE):TT:=λσ H Q=>t σ H λx a=>∃c,x=.bl c/\Q c a
def v5(h:PC X op a b t)(d:NP op b=cb:=by first|show f _ (by decide) (by decide)|rfl):PE X (.Compare a [op] [b] pos) t:=λc s σ H Q I e=>Õ (h c s σ H Q I e) d
def v7(h:PC X op a b t)(f:NP op b=cb:=by first|show m _ (by decide) (by decide)|rfl):PT X (.Compare a [op] [b] pos) (tB t):=by
 intro e s σ H Q I g;show SA (HE (h e s σ H _ I g) λv s1 f=>HE f λu s2 i=>HE i λc s3 ⟨x,j,k,r1,l⟩=>?_) f;have⟨d,rfl,q⟩:=l;cases r1;show Jx ⟨j,k,q⟩
abbrev GK(t u:TT):TT:=λσ H Q=>t σ H λc a=>if c=bD then u σ a Q else Q cb a
abbrev Vn(t u:TT):TT:=λσ H Q=>t σ H λc a=>if c=bD then Q bD a else u σ a Q
abbrev GL(t:TT):TT:=λσ H Q=>t σ H λc a=>Q (!c) a
def zP(d:PT X a f):PW X (.BoolOp .And [a] pos) f:=by
 intro g b s σ H Q I h;show isTrue_and (HE (d b s σ H Q I h) λc s1 e=>?_);cases c with
 |true=>show æ e
 |false=>show e
def CD(d:PT X a f):PW X (.BoolOp .Or [a] pos) f:=by
 intro g b s σ H Q I h;show isTrue_or (HE (d b s σ H Q I h) λc s1 e=>?_);cases c with
 |false=>show isTrue_or_nil e
 |true=>show e
def CF(j:PT X a k)(l:PW X (.BoolOp .And (b::e) pos) m):PW X (.BoolOp .And (a::b::e) pos) (GK k m):=by
 intro n d s σ H Q I h;show isTrue_and (HE (j d s σ H _ I h) λc s1 o=>?_);have⟨f,g,i⟩:=o;cases c with
 |true=>show l n d s1 σ f Q g i
 |false=>show⟨f,g,i⟩
def ET(j:PT X a k)(l:PW X (.BoolOp .Or (b::e) pos) m):PW X (.BoolOp .Or (a::b::e) pos) (Vn k m):=by
 intro n d s σ H Q I h;show isTrue_or (HE (j d s σ H _ I h) λc s1 o=>?_);have⟨f,g,i⟩:=o;cases c with
 |true=>show⟨f,g,i⟩
 |false=>show l n d s1 σ f Q g i
def CG(d:PT X a e):PT X (.UnaryOp .Not a pos) (GL e):=by
 intro b s σ H Q I h;show isTrue_not (d b s σ H (λc f=>Q (!c) f) I h)
abbrev EU(b tb:TE):TE:=λσ H Q=>b σ H λx a=>∃c,x=.bl c/\if c=bD then tb σ a Q else Q (.bl cb) a
abbrev GN(b tb:TE):TE:=λσ H Q=>b σ H λx a=>∃c,x=.bl c/\if c=bD then Q (.bl bD) a else tb σ a Q
abbrev EV(a:TE):TE:=λσ H Q=>a σ H λx b=>∃c,x=.bl c/\Q (.bl (!c)) b
def v8(h:PE X a t):PE X (.BoolOp op [a] pos) t:=λb s σ H Q I c=>BoolOp_one (h b s σ H Q I c)
def CH(j:PE X a k)(l:PE X (.BoolOp .And (b::e) pos) tb):PE X (.BoolOp .And (a::b::e) pos) (EU k tb):=by
 intro d s σ H Q I h;show BoolOp_and (HE (j d s σ H _ I h) λv s1 m=>?_);have⟨x,g,i,r1,f⟩:=m;have⟨c,rfl,f⟩:=f;cases r1;show Jx ?_;cases c with
 |true=>show l d s1 σ g Q i f
 |false=>show⟨.bl cb,g,i,rfl,f⟩
def EW(j:PE X a k)(l:PE X (.BoolOp .Or (b::e) pos) tb):PE X (.BoolOp .Or (a::b::e) pos) (GN k tb):=by
 intro d s σ H Q I h;show BoolOp_or (HE (j d s σ H _ I h) λv s1 m=>?_);have⟨x,g,i,r1,f⟩:=m;have⟨c,rfl,f⟩:=f;cases r1;show Jx ?_;cases c with
 |false=>show l d s1 σ g Q i f
 |true=>show⟨.bl bD,g,i,rfl,f⟩
def CI(e:PE X a f):PE X (.UnaryOp .Not a pos) (EV f):=by
 intro b s σ H Q I h;show UnaryOp_ (HE (e b s σ H _ I h) λv s1 g=>?_);have⟨x,i,j,r1,d⟩:=g;have⟨c,rfl,d⟩:=d;cases r1;show not_of (Jx ⟨.bl (!c),i,j,rfl,d⟩)
end
abbrev Ip(K:PySem.W.Frag)(H:Hp)(a:gi)(xs:List V):Prop :=
 Rd H a (.lst xs) \/
  ∃(o:Obj) (b:Array dV) (n:Nat),K.lookup a=a5 o/\o.cls=.type "list"/\o.dict=b6/\o.data=.seq b n/\b.size<=cK/\Vals xs b.toList
abbrev Iq(K:PySem.W.Frag)(H:Hp)(a:gi)(xs:List V):Prop :=
 Rd H a (.tup xs) \/
  ∃(o:Obj) (b:Array dV) (n:Nat),K.lookup a=a5 o/\o.cls=.type "tuple"/\o.data=.seq b n/\b.size<=cK/\Vals xs b.toList
abbrev GO:dV->Option V
 |.none=>a5 .HD
 |.bool b=>a5 (.bl b)
 |.int i _=>a5 (.int i)
 |.str x _=>a5 (.str x)
 |.bytes b _=>a5 (.OA b)
 |.float b _=>a5 (.OB b)
 |.ref a=>a5 (.ref a)
 |.type n=>a5 (.ty n)
 |_=>b6
def RelV.abs(r:RelV x u):GO u=a5 x:=by
 cases x with
 |HD=>cases r;rfl
 |bl _=>cases r;rfl
 |ref _=>cases r;rfl
 |ty _=>cases r;rfl
 |_=>have⟨t,rfl⟩:=r;rfl
def RelV.inj(r:RelV x u)(q:RelV y u):x=y:=tj (r.abs.symm.trans q.abs)
theorem Vals.inj:∀{xs ys:List V}{us:List dV},Vals xs us->Vals ys us->xs=ys
 |_,_,_,.nil,.nil=>rfl
 |_,_,_,.cons r t,.cons a t'=>by rw[r.inj a,Vals.inj t t']
section
def Ip.of{K:PySem.W.Frag}(h:H a=a5 (.lst xs)):Ip K H a xs:=.inl (.inl h)
def Iq.of{K:PySem.W.Frag}(h:H a=a5 (.tup xs)):Iq K H a xs:=.inl (.inl h)
def Inv.list(I:Inv X c σ H s)(h:Ip X.K H a xs):∃b:List dV,Vals xs b/\PlainL s.heap a b.toArray/\xs.length<=cK:=by
 rcases h with h|⟨o,b,n,hk,d,f,hs,hz,r⟩
 .have⟨z,b,n,r,e⟩:=h.ok I.HA;show⟨b,r,⟨_,n,e,rfl,rfl,rfl⟩,z⟩
 .show⟨b.toList,r,⟨o,n,I.JE a o hk,d,f,by simpa using hs⟩,?_⟩;have e:=r.length;simp only[tr]at e;lia
def Inv.tuple(I:Inv X c σ H s)(h:Iq X.K H a xs):∃b:List dV,Vals xs b/\U' s.heap a b.toArray/\xs.length<=cK:=by
 rcases h with h|⟨o,b,n,hk,d,hs,hz,r⟩
 .have⟨z,b,r,p⟩:=h.ok I.HA;show⟨b,r,p,z⟩
 .show⟨b.toList,r,⟨o,I.JE a o hk,d,n,by simpa using hs⟩,?_⟩;have e:=r.length;simp only[tr]at e;lia
def Inv.pB(I:Inv X b σ H s)(h:Ip X.K H a xs)(h':Ip X.K H a ys):xs=ys:=by
 obtain⟨f,r,⟨o,n,e,_,_,d⟩,_⟩:=I.list h;obtain⟨its',g,⟨o',j,c,_,_,d'⟩,_⟩:=I.list h';rw[e]at c;cases c;rw[d]at d';injection d' with i _
 have:f=its':=by simpa using ï WL i
 subst this;show r.inj g
def Inv.mr(I:Inv X b σ H s)(h:Iq X.K H a xs)(h':Iq X.K H a ys):xs=ys:=by
 obtain⟨f,r,⟨o,e,_,n,d⟩,_⟩:=I.tuple h;obtain⟨its',g,⟨o',c,_,j,d'⟩,_⟩:=I.tuple h';rw[e]at c;cases c;rw[d]at d';injection d' with i _
 have:f=its':=by simpa using ï WL i
 subst this;show r.inj g
end
@[reducible]def Cx.km(X:Cx)(E:dV->gm->Prop):Cx:={X with xe:=E}
@[reducible]def Cx.OH(X:Cx):Cx:=X.km λ_ _=>False
def Cx.Ok.km{X:Cx}(a:X.Ok)(E:dV->gm->Prop):(X.km E).Ok :=
 ⟨a.mod,a.kind,a.glob,a.blt,a.above,a.inj,a.has,a.N1,a.hd,a.frames,a.OE,a.QY,a.bs,a.LK,a.KC,a.Lg,a.ja,a.MD⟩
def Cx.Ok.gL{X:Cx}(a:(X.km E).Ok):X.Ok :=
 ⟨a.mod,a.kind,a.glob,a.blt,a.above,a.inj,a.has,a.N1,a.hd,a.frames,a.OE,a.QY,a.bs,a.LK,a.KC,a.Lg,a.ja,a.MD⟩
section
def Inv.km(I:Inv X a σ H s)(E:dV->gm->Prop):Inv (X.km E) a σ H s:=⟨I.ok.km E,I.os,I.bare,I.base,I.loc,I.cell,I.free,I.Im,I.pin,I.HA,I.len⟩
def Inv.gL(I:Inv (X.km E) a σ H s):Inv X a σ H s:=⟨I.ok.gL,I.os,I.bare,I.base,I.loc,I.cell,I.free,I.Im,I.pin,I.HA,I.len⟩
def SP.gL(h:SP (X.km E) a D f s'):SP X a D f s':=by
 cases f with
 |ret u=>have⟨v,b,H',I,r,q⟩:=h;show⟨v,b,H',I.gL,r,q⟩
 |_=>have⟨b,H',I,q⟩:=h;show⟨b,H',I.gL,q⟩
def Je.OH{st:List Le}(h:Je X.OH st t):Je X st t:=λa s σ H D I b =>
 td (h a s σ H D (I.km _) b) (λ_ _ q=>q.gL) λ_ _ z=>JQ z
end
section
variable{X:Cx}{st:Le}{rest:List Le}{t u:TS}{e:nH}{te:TE}{pos:Pos}
abbrev EX:TS:=λD σ H=>D.nx σ H
abbrev GP(t u:TS):TS:=λD σ H=>t {D with nx:=u D} σ H
def nA:Je X [] EX:=λ_ _ σ H _ I h=>Q6 ⟨σ,H,I,h⟩
def ia(b:PS X st t)(c:Je X rest u):Je X (st::rest) (GP t u):=by
 intro a s σ H D I h;show Z3 (HE (b a s σ H {D with nx:=u D} I h) λf s1 q=>?_);cases f with
 |next =>
  have⟨d,H',g,q⟩:=q;show c a s1 d H' D g q
 |_=>show q
def Inv.quiet(I:Inv X a σ H s):interactive X.env=cb:=by simp[interactive,I.ok.kind]
abbrev B0(te:TE):TS:=λD σ H=>te σ H λ_ a=>D.nx σ a
def ib(b:PE X e te)(hs:Ou e b6 pos.line X.env=pure cb:=by rfl):PS X (.Expr e pos) (B0 te):=by
 intro a s σ H D I h;show Ô (HE (b a s σ H _ I h) λv s1 ⟨x,c,d,r1,f⟩=>⟨σ,c,d,f⟩) I.quiet hs
abbrev GQ(te:TE):TS:=λD σ H=>te σ H D.rt
def CJ(b:PE X e te):PS X (.Return (a5 e) pos) (GQ te):=by
 intro a s σ H D I h;show wpAny_Return_some (HE (b a s σ H _ I h) λv s1 ⟨x,c,d,r1,f⟩=>⟨x,σ,c,d,r1,f⟩)
abbrev EY:TS:=λD _ H=>D.rt .HD H
def zQ:PS X (.Return b6 pos) EY:=λ_ _ σ H _ I h=>wpAny_Return_none ⟨.HD,σ,H,I,rfl,h⟩
abbrev GR(c:TT)(t u:TS):TS:=λD σ H=>c σ H λb a=>if b=bD then t D σ a else u D σ a
def EZ(k:PT X c l)(m:Je X a t)(n:Je X b u):PS X (.If c a b pos) (GR l t u):=by
 intro f s σ H D I h;show wpAny_If (HE (k f s σ H _ I h) λd s1 o=>?_);have⟨g,i,j⟩:=o;cases d with
 |true=>show m f s1 σ g D i j
 |false=>show n f s1 σ g D i j
end
@[reducible]def TG:=V->St->Hp->(St->Hp->Prop)->Prop
@[reducible]def N3:=List V->St->Hp->(St->Hp->Prop)->Prop
abbrev PG(X:Cx)(a:nH)(t:TG):Prop :=
 ∀(b:List (gi×Obj)) (s:gm) (σ:St) (H:Hp) (v:V) (u:dV) (Q:St->Hp->Prop),Inv X b σ H s->RelV v u->t v σ H Q ->
  gs (i4 X.prog X.w) X.A (Rr a X.env u) (λ_ s'=>∃c H',Inv X b c H' s'/\Q c H') X.xe s
abbrev OI(X:Cx)(ts:List nH)(t:N3):Prop :=
 ∀(a:List (gi×Obj)) (s:gm) (σ:St) (H:Hp) (vs:List V) (us:List dV) (Q:St->Hp->Prop),Inv X a σ H s->Vals vs us->t vs σ H Q ->
  gs (i4 X.prog X.w) X.A (assignInOrder ((Pp ts X.env).map (·.2)) us) (λ_ s'=>∃b H',Inv X a b H' s'/\Q b H') X.xe s
@[reducible]def CK:=V->V->V->Hp->(Hp->Prop)->Prop
abbrev nB(X:Cx)(t:CK):Prop :=
 ∀(a:List (gi×Obj)) (s:gm) (σ:St) (H:Hp) (o i v:V) (b c u:dV) (Q:Hp->Prop),Inv X a σ H s->RelV o b->RelV i c->RelV v u->t o i v H Q ->
  gs (i4 X.prog X.w) X.A (R' b c u) (λ_ s'=>∃H',Inv X a σ H' s'/\Q H') X.xe s
@[reducible]def Q3:=V->V->Hp->VK->Prop
abbrev Qa(X:Cx)(op:Zi)(t:Q3):Prop :=
 ∀(a:List (gi×Obj)) (s:gm) (σ:St) (H:Hp) (x y:V) (v u:dV) (Q:VK),Inv X a σ H s->RelV x v->RelV y u->t x y H Q ->
  gs (i4 X.prog X.w) X.A (inplaceOp op v u) (EP X a σ Q) X.xe s
section
abbrev sF(i:Nat):TG:=λv σ H Q=>Q (σ.set i (a5 v)) H
def sG(b:X.N.Nodup)(hi:X.N[i]?=a5 x)(c:Loc X.env.scope x)(d:X.fn x=bD\/X.env.scope.names.lookup x=a5 .local:=by first|show .inl rfl|show .inr rfl|assumption):PG X (.Name x pos) (sF i):=by
 intro a s σ H v u Q I r h;show ZQ (pA I b hi c r (λs' e=>⟨_,H,e,h⟩) d)
abbrev E1:N3:=λvs σ H Q=>vs=[]/\Q σ H
abbrev B1(t:TG)(u:N3):N3:=λvs σ H Q=>∃v r,vs=v::r/\t v σ H λa H'=>u r a H' Q
def zR:OI X [] E1:=by
 intro a s σ H vs us Q I r h;have⟨e,h⟩:=h;subst e;cases r;show assignInOrder_nil ⟨σ,H,I,h⟩
def v9(b:PG X e t)(c:OI X es u)
  (hs:(Pp (e::es) X.env).map (·.2)=Rr e X.env::(Pp es X.env).map (·.2):=by rfl):OI X (e::es) (B1 t u):=by
 intro a s σ H vs us Q I r h;have⟨v,l,e1,h⟩:=h;subst e1;cases r with
 |cons r d =>
  rw[hs];show assignInOrder_cons (HE (b a s σ H _ _ _ I r h) λ_ s1 f=>?_);have⟨g,i,j,k⟩:=f;show c a s1 g i _ _ Q j d k
abbrev GS(K:PySem.W.Frag)(n:Nat)(t:N3):TG:=λv σ H Q=>∃a xs,v=.ref a/\Iq K H a xs/\xs.length=n/\t xs σ H Q
def CL(f:X.calm=bD)(h:OI X es t)
  (g:(Pp es X.env).length=n:=by rfl) (i:(Pp es X.env).findIdx? (·.1)=b6:=by rfl):PG X (.Tuple es k pos) (GS X.K n t):=by
 intro c s σ H v u Q I r d;have⟨a,xs,e1,j,hl,d⟩:=d;subst e1;cases r;have⟨q,rv,l,hz⟩:=I.tuple j;show assign_Tuple_tuple (I.ok.hd f) l (by simp[g,<-hl,rv.length]) i λh' m=>?_;have p:Inv X c σ H {s with heap:=h' }:=I.kept (t':=s.toks) λb o e=>m b o (ke (i6 e)) e;show h c _ σ H xs _ Q p (by simpa using rv) d
abbrev GU(a b:TE)(t:CK):TG:=λv σ H Q=>a σ H λo c=>b σ c λi d=>t o i v d λe=>Q σ e
def v_(ho:PE X o d)(hi:PE X i e)(hs:nB X t)
  (f:∀v,Rr (.Subscript o i pos) X.env v=(do
   let b <-Kw [v] (uk o X.env)
   let c <-Kw [v,b] (uk i X.env)
   Rz pos
   Kw [v,b,c] (R' b c v)
   Vt [v,b,c] []):=by intro _;rfl):PG X (.Subscript o i pos) (GU d e t):=by
 intro a s σ H v u Q I r h;rw[f];show b8 (D' (HE (ho a s σ H _ I h) λb s1 g=>?_));have⟨x,j,k,r1,l⟩:=g;show b8 (D' (HE (hi a s1 σ j _ k l) λc s2 m=>?_));have⟨y,n,p,r2,q⟩:=m;show b8 (Yu (b8 (D' (HE (hs a s2 σ n x y v b c u _ p r1 r2 r q) λ_ s3 w=>?_))));have⟨z,A,B⟩:=w;show wpAny_release ⟨σ,z,A,B⟩
abbrev CM(a:TE)(g:TG):TS:=λD σ H=>a σ H λx b=>g x σ b D.nx
def qF(c:PE X e d)(f:PG X b g)(hs:QX [b] e pos.line X.env=pure cb:=by rfl)(i:UC [b] e X.env=pure b6:=by rfl)
  (j:(Pp [b] X.env).map (·.2)=[Rr b X.env]:=by rfl):PS X (.Assign [b] e pos) (CM d g):=by
 intro a s σ H D I h;show wpAny_Assign_stores (HE (c a s σ H _ I h) λv s1 ⟨x,k,l,r1,m⟩=>?_) hs i;rw[j];show HE (f a s1 σ k x v _ l r1 m) λ_ s2 q=>q
def nE(b:X.N.Nodup)(hi:X.N[i]?=a5 x)(c:Loc X.env.scope x)(d:PE X e f)(hs:Ou e (a5 (.Name x pos')) pos.line X.env=pure cb:=by rfl)(g:X.fn x=bD\/X.env.scope.names.lookup x=a5 .local:=by first|show .inl rfl|show .inr rfl|assumption):
  PS X (.Assign [.Name x pos'] e pos) (CM f (sF i)):=by
 intro a s σ H D I h;show wpAny_Assign_Name (HE (d a s σ H _ I h) λv s1 ⟨y,j,k,r1,l⟩=>?_) hs;show pA k b hi c r1 (λs2 m=>⟨_,j,m,l⟩) g
abbrev E2(a b c:TE)(d:V->V->Hp->VK->Prop)(e:Q3)(f:CK):TS:=λD σ H=>a σ H λo g=>b σ g λi h=>d o i h λx j=>c σ j λy k=>e x y k λz l=>f o i z l λm=>D.nx σ m
abbrev E3(X:Cx)(t:V->V->Hp->VK->Prop):Prop :=
 ∀(a:List (gi×Obj)) (s:gm) (σ:St) (H:Hp) (o i:V) (b c:dV) (Q:VK),Inv X a σ H s->RelV o b->RelV i c->t o i H Q ->
  gs (i4 X.prog X.w) X.A (Q7 b c) (EP X a σ Q) X.xe s
def zS(ho:PE X o j)(hi:PE X i k)(l:E3 X m)(n:PE X e p)(q:Qa X op r)(hs:nB X t)
  (u:∀b c new,ß i b c new=(do Kw [new,b,c] (R' b c new);Vt [new,b,c] [];pure .next):=by intros;rfl):PS X (.AugAssign (.Subscript o i Vv) op e pos) (E2 j k p m r t):=by
 intro a s σ H D I h;show wpAny_AugAssign_SubscriptAny (HE (ho a s σ H _ I h) λb s1 ⟨f,w,x,r1,y⟩=>?_) u;show HE (hi a s1 σ w _ x y) λc s2 z=>?_;have⟨g,A,B,r2,C⟩:=z;show HE (l a s2 σ A f g b c _ B r1 r2 C) λd s3 G=>?_;have⟨J,L,N,O,Q⟩:=G;show HE (n a s3 σ L _ N Q) λv s4 T=>?_;have⟨Y,H4,I4,r4,q4⟩:=T;show HE (q a s4 σ H4 J Y d v _ I4 O r4 q4) λnew s5 Ra=>?_;have⟨x5,H5,I5,r5,q5⟩:=Ra;show HE (hs a s5 σ H5 f g x5 b c new _ I5 r1 r2 r5 q5) λ_ s6 ⟨H6,I6,q6⟩=>⟨σ,H6,I6,q6⟩
abbrev Rb(f:Int->Int->Int):Q3:=λx y H Q=>∃i j,x=.int i/\y=.int j/\Q (.int (f i j)) H
def CN:Qa X .Add (Rb λi j=>i+j):=by
 intro a s σ H x y v u Q I r1 r2 h;have⟨i,j,e1,b,q⟩:=h;subst e1;subst b;have⟨t,rfl⟩:=r1;have⟨t',rfl⟩:=r2;show iadd_int ⟨.int _,H,I.tok _,⟨_,rfl⟩,q⟩
def CO:Qa X .Sub (Rb λi j=>i - j):=by
 intro a s σ H x y v u Q I r1 r2 h;have⟨i,j,e1,b,q⟩:=h;subst e1;subst b;have⟨t,rfl⟩:=r1;have⟨t',rfl⟩:=r2;show isub_int ⟨.int _,H,I.tok _,⟨_,rfl⟩,q⟩
end
section
abbrev CP(c:TT)(tb:TS):TS:=λD σ H=>∃W:Nat->St->Hp->Prop,(∃m,W m σ H)/\∀m σ H,W m σ H ->
 c σ H λb a=>if b=bD then ∃N:St->Hp->Prop,(∀d H',N d H'->∃e,e<m/\W e d H')/\tb {D with nx:=N,ct:=N,bk:=D.nx} σ a else D.nx σ a
def wa(r:Wo (i4 X.prog X.w) X.A X.env X.xe)(z:PT X c B)(C:Je X body tb):PS X (.While c body [] pos) (CP B tb):=by
 intro a s σ H D I h;obtain⟨W,⟨m0,G⟩,d⟩:=h;show wpAny_While (codeAny_whileLoop (λn s'=>∃t H',Inv X a t H' s'/\W n t H') ?_ m0 ⟨σ,H,I,G⟩);rintro n s1 ⟨i,u,J,L⟩;show Nn r (HE (z a s1 i u _ J (d n i u L)) λb s2 O=>?_);have⟨v,x,j⟩:=O;cases b with
 |true =>
  have⟨N,y,j⟩:=j;rw[ê rfl];show Nn r (HE (C a s2 i v _ x j) λf s3 k=>?_);cases f with
  |next =>
   have⟨e,g,l,m⟩:=k;have⟨o,p,q⟩:=y e g m;show⟨o,p,e,g,l,q⟩
  |cont =>
   have⟨e,g,l,m⟩:=k;have⟨o,p,q⟩:=y e g m;show⟨o,p,e,g,l,q⟩
  |_=>show k
 |false =>
  rw[ë ko];show Q6 ⟨i,v,x,j⟩
end
structure It where
 go:Nat->Hp->Prop
 Qb:Nat->Hp->V->Hp->Prop
 stop:Nat->Hp->Prop
abbrev gM(X:Cx)(a:List (gi×Obj))(H:Hp)(b:gi):Prop :=
 H b=b6/\b≠X.env.locals/\b∉X.fs/\(b∈X.ex\/X.s₀.heap.objs.size<=b)/\(∀x c,X.env.cells.lookup x=a5 c->c≠b)/\∀p∈X.pn++a,p.1≠b
def Inv.wb(I:Inv X a σ H s)(d:s.heap.objs.size<=b)(f:H' b=b6):gM X a H' b:=by
 show⟨f,LO (ku I.lt d),I.ES d,.inr (uv I.sz d),λx c e z=>?_,λp g z=>?_⟩
 .have⟨v,q⟩:=I.cell x c e;show absurd (ku q.lt (by rw[z];show d)) (vl _)
 .show absurd (ku (i6 (I.pin p g).1) (by rw[z];show d)) (vl _)
structure Turn(P:va)(w:w6)(K:PySem.W.Frag)(tg:nH)(J:It)(fp:List gi)(it:gi)(tn:Nat->Kq->Prop):Prop where
 mem:it∈fp
 obj:∀i h,tn i h->∀b∈fp,∃o,h.get? b=a5 o/\∀v,o.data≠.cell v
 keep:∀i h h',tn i h->(∀b∈fp,∀o,h.get? b=a5 o->h'.get? b=a5 o)->tn i h'
 item:∀(X:Cx),X.prog=P->X.w=w->X.K=K->X.calm=bD->∀(i:Nat) (pins:List (gi×Obj)) (s:gm) (σ:St) (H:Hp) (E:dV->gm->Prop),Inv X pins σ H s->(∀b∈fp,gM X pins H b)->tn i s.heap->J.go i H ->
  gs (i4 P w) X.A (RE (.ref it)) (λr s1=>∃u,r=a5 u /\
   gs (i4 P w) X.A (Sr tg (.ref it) u) (λ_ s2=>∃x H',Inv X pins σ H' s2/\RelV x u/\J.Qb i H x H'/\tn (i+1) s2.heap/\∀b∈fp,H' b=b6) E s1) E s
 done:∀(X:Cx),X.prog=P->X.w=w->X.K=K->X.calm=bD->∀(i:Nat) (pins:List (gi×Obj)) (s:gm) (σ:St) (H:Hp) (E:dV->gm->Prop),Inv X pins σ H s->(∀b∈fp,gM X pins H b)->tn i s.heap->J.stop i H ->
  gs (i4 P w) X.A (RE (.ref it)) (λr s1=>r=b6/\Inv X pins σ H s1) E s
 self:∀(A:Li) (i:Nat) (s:gm) (Q:dV->gm->Prop) (E:dV->gm->Prop),tn i s.heap->Q (.ref it) s->gs (i4 P w) A (XD (.ref it)) Q E s
@[reducible]def TI:=St->Hp->(It->Hp->Prop)->Prop
abbrev T6(X:Cx)(a:List (gi×Obj))(σ:St)(e:nH)(R:It->Hp->Prop)(f:dV)(s2:gm):Prop :=
 ∃(it:gi) (c:List gi) (d:Nat->Kq->Prop) (J:It) (H':Hp),f=.ref it/\Inv X a σ H' s2/\Turn X.prog X.w X.K e J c it d/\d 0 s2.heap/\(∀b∈c,gM X a H' b)/\R J H'
abbrev PI(X:Cx)(c b:nH)(d:TI):Prop :=
 ∀(a:List (gi×Obj)) (s:gm) (σ:St) (H:Hp) (R:It->Hp->Prop),Inv X a σ H s->d σ H R ->
  gs (i4 X.prog X.w) X.A (uk b X.env) (λv s1=>gs (i4 X.prog X.w) X.A (XD v) (T6 X a σ c R) X.xe s1) X.xe s
def sH(ho:s.heap.get? it=a5 o)(b:o.cls=.type n)(c:o.data=.fields vs)
    (d:["enumerate","zip","dict_itemiterator","dict_reverseitemiterator","odict_iterator","itertools.zip_longest","itertools.pairwise"].contains n=cb) (a:Q () s):gs M A (Sr e (.ref it) u) Q E s:=by
  unfold Sr;cases e<;>first
    | show fx a
    | (cases u<;>first
        | show fx a
        | (show b8 (wpAny_load ho ?_)
           rw[b,c];change gs M A (if (["enumerate","zip","dict_itemiterator","dict_reverseitemiterator","odict_iterator","itertools.zip_longest","itertools.pairwise"].contains n&&vs[0]?==a5 (QU _))=bD then _ else _) Q E s;rw[ë (by intro h;rw[d,Bool.false_and]at h;cases h)];show fx a))
abbrev Rf(K:PySem.W.Frag)(a:gi):It :=
 ⟨λi H=>∃xs x,Ip K H a xs/\xs[i]?=a5 x,λi H x H'=>H'=H/\∀xs,Ip K H a xs->xs[i]?=a5 x,λi H=>∃xs,Ip K H a xs/\xs.length<=i⟩
abbrev Rg(K:PySem.W.Frag)(a:gi):It :=
 ⟨λi H=>∃xs x,Iq K H a xs/\xs[i]?=a5 x,λi H x H'=>H'=H/\∀xs,Iq K H a xs->xs[i]?=a5 x,λi H=>∃xs,Iq K H a xs/\xs.length<=i⟩
abbrev OJ(lo:Int)(n:Nat):It:=⟨λi _=>i<n,λi H x H'=>H'=H/\x=.int (lo+i),λi _=>n<=i⟩
def uA{K:PySem.W.Frag}(a it:gi):Turn P w K tg (Rf K a) [it] it (λi h=>h.IsListIter it a i) where
 mem:=by simp
 obj:=λi h st b g=>by
  have e:b=it:=by simpa using g
  subst e;have⟨o,e,c,d⟩:=st;show⟨o,e,λv z=>by rw[d]at z;cases z⟩
 keep:=λi h h' st k=>st.at λo e=>k it (by simp) o e
 item:=by
  intro X m n q G i f s σ H E I j st r;subst m n q;have⟨xs,x,l,t⟩:=r;have⟨J,rv,p,hz⟩:=I.list l;have⟨u,L,N⟩:=rv.get t;have⟨y,A,O,B,C,D⟩:=j it (by simp);show wpAny_pyNext_list_item st p.isList (x:=u) (by simpa using L) λh' st' Q=>?_;have T:Inv X f σ H {s with heap:=h' }:=I.turned (t':=s.toks) (λb o g e=>(Q.2 b g).trans e) y A B C D;have⟨o,e,c,d⟩:=id st';show⟨u,rfl,sH (s:={s with heap:=h' }) e c d (by decide) ⟨x,H,T,N,⟨rfl,λys Y=>by rw[I.pB Y l];show t⟩,st',λb g=>(j b g).1⟩⟩
 done:=by
  intro X m n q G i f s σ H E I j st r;subst m n q;have⟨xs,l,t⟩:=r;have⟨J,rv,p,hz⟩:=I.list l;have⟨y,A,O,B,C,D⟩:=j it (by simp);have hl:=rv.length;show wpAny_pyNext_list_end (I.ok.hd G) st p.isList (by simp;lia) λh' eb=>⟨rfl,I.turned (t':=s.toks) (λb o g e=>eb b o g e) y A B C D⟩
 self:=λ_ _ _ _ _ st h=>wpAny_pyIter_listiter st h
def qG{K:PySem.W.Frag}(a it:gi):Turn P w K tg (Rg K a) [it] it (λi h=>h.IsTupleIter it a i) where
 mem:=by simp
 obj:=λi h st b g=>by
  have e:b=it:=by simpa using g
  subst e;have⟨o,e,c,d⟩:=st;show⟨o,e,λv z=>by rw[d]at z;cases z⟩
 keep:=λi h h' st k=>st.at λo e=>k it (by simp) o e
 item:=by
  intro X m n q J i f s σ H E I j st r;subst m n q;have⟨xs,x,l,t⟩:=r;have⟨y,rv,p,hz⟩:=I.tuple l;have⟨u,L,N⟩:=rv.get t;have⟨A,B,O,C,D,G⟩:=j it (by simp);show wpAny_pyNext_tuple_item st (show s.heap.IsTuple a y.toArray from p) (x:=u) (by simpa using L) λh' st' Q=>?_;have T:Inv X f σ H {s with heap:=h' }:=I.turned (t':=s.toks) (λb o g e=>(Q.2 b g).trans e) A B C D G;have⟨o,e,c,d⟩:=id st';show⟨u,rfl,sH (s:={s with heap:=h' }) e c d (by decide) ⟨x,H,T,N,⟨rfl,λys Y=>by rw[I.mr Y l];show t⟩,st',λb g=>(j b g).1⟩⟩
 done:=by
  intro X m n q J i f s σ H E I j st r;subst m n q;have⟨xs,l,t⟩:=r;have⟨y,rv,p,hz⟩:=I.tuple l;have⟨A,B,O,C,D,G⟩:=j it (by simp);have hl:=rv.length;show wpAny_pyNext_tuple_end (I.ok.hd J) st (show s.heap.IsTuple a y.toArray from p) (by simp;lia) λh' eb=>⟨rfl,I.turned (t':=s.toks) (λb o g e=>eb b o g e) A B C D G⟩
 self:=λ_ _ _ _ _ st h=>wpAny_pyIter_tupleiter st h
def qH{K:PySem.W.Frag}(it:gi)(lo:Int)(n:Nat):Turn P w K L (OJ lo n) [it] it (λi h=>IsRangeIter h it (lo+(i:Nat) * 1) ((n:Int) - (i:Nat)) 1) where
 mem:=by simp
 obj:=λi h st b c=>by
  have e:b=it:=by simpa using c
  subst e;show⟨_,st,λv z=>by
   have A:À _=Y8 v:=z;cases A⟩
 keep:=λi h h' st k=>k it (by simp) _ st
 item:=by
  intro X f g j l i a s σ H E I d st m;subst f g j;have⟨p,q,B,r,u,x⟩:=d it (by simp);have W:=Walks.range (prog:=X.prog) (w:=X.w) (I.ok.hd l) it lo 1 n;show W.item i s _ _ m st λv h' y C st' D=>?_;have⟨t,rfl⟩:=C;have G:Inv X a σ H {s with heap:=h',toks:=y}:=I.turned (λb o c e=>D b o (by simpa using c) e) p q r u x;show⟨_,rfl,sH (s:={s with heap:=h',toks:=y}) (n:="range_iterator") st' rfl rfl (by decide) ⟨.int (lo+i),H,G,⟨t,?_⟩,⟨rfl,rfl⟩,st',λb c=>(d b c).1⟩⟩;rw[Int.mul_one]
 done:=by
  intro X f g j l i a s σ H E I d st m;subst f g j;have⟨p,q,B,r,u,x⟩:=d it (by simp);show wpAny_pyNext_range_end (I.ok.hd l) st (by have:n<=i:=m;lia) λh' J=>⟨rfl,I.turned (t':=s.toks) (λb o c e=>J b o c e) p q r u x⟩
 self:=λ_ _ _ _ _ st h=>wpAny_pyIter_rangeiter st h
section
abbrev E4(K:PySem.W.Frag)(c:TE):TI:=λσ H R=>c σ H λx b=>∃a,x=.ref a/\(∃xs,Ip K b a xs)/\R (Rf K a) b
abbrev GV(K:PySem.W.Frag)(c:TE):TI:=λσ H R=>c σ H λx b=>∃a,x=.ref a/\(∃xs,Iq K b a xs)/\R (Rg K a) b
def zT(hl:PE X l f):PI X n l (E4 X.K f):=by
 intro c s σ H R I h;show HE (hl c s σ H _ I h) λv s1 g=>?_;have⟨x,i,d,r1,j⟩:=g;obtain⟨a,e,⟨xs,k⟩,q⟩:=j;subst e;cases r1;have⟨r,rv,p,hz⟩:=d.list k;show Vq p.isList ?_;show⟨s1.heap.objs.size,[s1.heap.objs.size],_,_,i,rfl,d.kept (t':=s1.toks) λb o e=>df _ e,uA a _,⟨_,hW _ rfl,rfl,rfl⟩,λb m=>?_,q⟩;have e:b=s1.heap.objs.size:=by simpa using m
 subst e;show d.wb (i5 _) (d.HA.fresh (i5 _))
def CQ(hl:PE X l f):PI X r l (GV X.K f):=by
 intro c s σ H R I h;show HE (hl c s σ H _ I h) λv s1 g=>?_;have⟨x,i,d,r1,j⟩:=g;obtain⟨a,e,⟨xs,k⟩,q⟩:=j;subst e;cases r1;have⟨m,rv,p,hz⟩:=d.tuple k;show Pc (show s1.heap.IsTuple a m.toArray from p) ?_;show⟨s1.heap.objs.size,[s1.heap.objs.size],_,_,i,rfl,d.kept (t':=s1.toks) λb o e=>df _ e,qG a _,⟨_,hW _ rfl,rfl,rfl⟩,λb n=>?_,q⟩;have e:b=s1.heap.objs.size:=by simpa using n
 subst e;show d.wb (i5 _) (d.HA.fresh (i5 _))
def pC{lo hi:Int}(I:Inv X a σ H s)(f:-(2 ^ 62)<=lo)(g:lo<2 ^ 62)(h:-(2 ^ 62)<=hi)(i:hi<2 ^ 62)
  (q:R (OJ lo (hi - lo).toNat) H):gs (i4 X.prog X.w) X.A (XD (.ref s.heap.objs.size)) (T6 X a σ l R) E {s with heap:=s.heap.push {cls:=.type "range",data:=.fields #[.int lo t,.int hi u,.int 1 v]},toks:=d}:=by
 show wpAny_pyIter_range (IsRange.new ..) (small_one f g h i) ?_;have c:Inv X a σ H {s with heap:=s.heap.push {cls:=.type "range",data:=.fields #[.int lo t,.int hi u,.int 1 v]},toks:=d}:=I.kept λb o e=>df _ e;show⟨(s.heap.push {cls:=.type "range",data:=.fields #[.int lo t,.int hi u,.int 1 v]}).objs.size,[(s.heap.push {cls:=.type "range",data:=.fields #[.int lo t,.int hi u,.int 1 v]}).objs.size],_,_,H,rfl,
  c.kept (t':=d) λb o e=>df _ e,qH _ lo (hi - lo).toNat,?_,λb j=>?_,q⟩
 .have e1:lo+((0:Nat):Int) * 1=lo:=by simp
  have k:(((hi - lo).toNat:Nat):Int) - ((0:Nat):Int)=Ã lo hi 1:=by rw[rangeSize_one];split<;>lia
  change IsRangeIter _ _ (lo+((0:Nat):Int) * 1) ((((hi - lo).toNat:Nat):Int) - ((0:Nat):Int)) 1;rw[e1,k];show hW _ rfl
 .have e:b=(s.heap.push {cls:=.type "range",data:=.fields #[.int lo t,.int hi u,.int 1 v]}).objs.size:=by simpa using j
  subst e;show c.wb (i5 _) (c.HA.fresh (i5 _))
abbrev E5(a:TA):TI:=λσ H R=>a σ H λvs b=>∃j:Int,vs=[.int j]/\-(2 ^ 62)<=j/\j<2 ^ 62/\R (OJ 0 j.toNat) b
abbrev E6(a:TA):TI:=λσ H R=>a σ H λvs b=>∃i j:Int,vs=[.int i,.int j]/\(-(2 ^ 62)<=i/\i<2 ^ 62/\-(2 ^ 62)<=j/\j<2 ^ 62)/\R (OJ i (j - i).toNat) b
def uB(d:Gl X "range")(f:X.mg "range"=b6)(g:PA X [a] i)(hs:i7 [a] X.env=[(cb,uk a X.env)]:=by rfl):PI X n (.Call (.Name "range" p) [a] [] pos) (E5 i):=by
 intro b s σ H R I h;show Call_ (eV I d f boot_range (JX (HE (g pos b s σ H _ I h) λus s1 ⟨vs,o,k,r1,c⟩=>?_) hs rfl));have⟨j,e,c,l,q⟩:=c;subst e;cases r1 with
 |cons r m =>
  cases m;have⟨t,rfl⟩:=r;show call_range_1 (pC k ⋯ ⋯ c l (by simpa using q))
def uC(k:Gl X "range")(l:X.mg "range"=b6)(m:PA X [a,b] n)(hs:i7 [a,b] X.env=[(cb,uk a X.env),(cb,uk b X.env)]:=by rfl)(g:i7 [b] X.env=[(cb,uk b X.env)]:=by rfl):
  PI X y (.Call (.Name "range" p) [a,b] [] pos) (E6 n):=by
 intro c s σ H R I h;show Call_ (eV I k l boot_range (JX (HE (m pos c s σ H _ I h) λus s1 ⟨vs,z,o,r1,d⟩=>?_) (by rw[hs,g]) (by rw[g];rfl)));obtain⟨i,j,e,⟨d,u,v,w⟩,q⟩:=d;subst e;cases r1 with
 |cons r f =>
  cases f with
  |cons x f =>
   cases f;have⟨t,rfl⟩:=r;have⟨t',rfl⟩:=x;show call_range_2 (pC o d u v w q)
abbrev GW(c:TI)(g:TG)(tb:TS):TS:=λD σ H=>c σ H λJ d=>∃W:Nat->Nat->St->Hp->Prop,(∃m,W 0 m σ d)/\∀i m σ H,W i m σ H ->
 (J.stop i H/\D.nx σ H)\/(J.go i H/\∃N:St->Hp->Prop,(∀a H',N a H'->∃b,b<m/\W (i+1) b a H')/\∀x H',J.Qb i H x H'->g x σ H' λe f=>tb {D with nx:=N,ct:=N,bk:=D.nx} e f)
abbrev kn(a:List gi)(h:Kq):List (gi×Obj):=a.filterMap λb=>(h.get? b).map λo=>(b,o)
def eW(a:b∈c)(e:h.get? b=a5 o):(b,o)∈kn c h:=OG.mpr ⟨b,a,by rw[e];rfl⟩
def uD(a:p∈kn c h):p.1∈c/\h.get? p.1=a5 p.2:=by
 have⟨b,d,e⟩:=OG.mp a;cases q:h.get? b with
 |none=>rw[q]at e;cases e
 |some o =>
  rw[q]at e;have f:(b,o)=p:=tj e;subst f;show⟨d,q⟩
def Inv.pinned(I:Inv X a σ H s)(h:∀b∈c,gM X a H b)(ho:∀b∈c,∃o,s.heap.get? b=a5 o/\∀v,o.data≠.cell v):Inv X (a++kn c s.heap) σ H s :=
 I.fX λp i=>(i9.mp i).elim (λz=>I.pin p (ti _ z)) λz=>by
  have⟨f,e⟩:=uD z;obtain⟨j,k,l,_⟩:=h p.1 f;have⟨o,g,d⟩:=ho p.1 f;rw[e]at g;cases g;show⟨e,j,k,l,d⟩
def Inv.kq(I:Inv X (a++pl) σ H s):Inv X a σ H s:=I.fX λp b=>I.pin p (ti _ (LG _ b))
def CS(t:Wo (i4 X.prog X.w) X.A X.env X.xe)(hc:X.calm=bD)(hi:PI X tg p wi)(hg:PG X tg g)(c:Je X body tb)
  (hs:∀x,MB p X.env x=pure x:=by intro _;rfl):PS X (.For tg p body [] pos) (GW wi g tb):=by
 intro a s σ H D I h;show wpAny_For (HE (hi a s σ H _ I h) λv s1 h1=>HE h1 λQc s2 h2=>?_) hs;obtain⟨it,y,tn,J,H2,e,I2,T,st2,f2,W,⟨m0,w0⟩,z⟩:=h2;subst e;have O:∀{H':Hp},(∀b∈y,H' b=b6)->∀b∈y,gM X a H' b:=λhn b c=>⟨hn b c,(f2 b c).2⟩
 show codeAny_forLoop_any (λn s'=>∃i B H',Inv X a B H' s'/\tn i s'.heap/\(∀b∈y,H' b=b6)/\W i n B H') ?_ m0 ⟨0,σ,H2,I2,st2,λb c=>(f2 b c).1,w0⟩;rintro n s3 ⟨i,C,L,I3,Ii,OK,w3⟩;rcases z i n C L w3 with⟨G,qn⟩|⟨go,N,hN,Zd⟩
 .show Nn t (HE (T.done X rfl rfl rfl hc i a s3 C L X.xe I3 (O OK) Ii G) λr s4 Rj=>?_);have⟨Q,I4⟩:=Rj;subst Q;show Q6 ⟨C,L,I4,qn⟩
 .show Nn t (HE (T.item X rfl rfl rfl hc i a s3 C L X.xe I3 (O OK) Ii go) λr s4 Rk=>?_);have⟨u,Q,h4⟩:=Rk;subst Q;show Nn t (HE h4 λ_ s5 Rm=>?_);have⟨x,H5,I5,r5,y5,Y,Rn⟩:=Rm;have Ro:=I5.pinned (O Rn) (T.obj _ _ Y);show Nn t (HE (hg _ s5 C H5 x u _ Ro r5 (Zd x H5 y5)) λ_ s6 Rp=>?_);have⟨σ6,H6,I6,q6⟩:=Rp;show Nn t (HE (c _ s6 σ6 H6 _ I6 q6) λf s7 q=>?_);have à:∀{j:St} {k:Hp},Inv X (a++kn y s5.heap) j k s7->N j k->∃m,m<n/\∃i B H',Inv X a B H' s7/\tn i s7.heap/\(∀b∈y,H' b=b6)/\W i m B H':=λ{j k} l n7=>by
   have⟨m',hm,w7⟩:=hN j k n7;show⟨m',hm,i+1,j,k,l.kq,T.keep _ _ _ Y λb c o e=>(l.pin (b,o) (ti _ (ti _ (eW c e)))).1,λb c=>?_,w7⟩;have⟨o,e,d⟩:=T.obj _ _ Y b c;show(l.pin (b,o) (ti _ (ti _ (eW c e)))).2.1
  cases f with
  |brk=>have⟨j,k,l,q⟩:=q;show⟨j,k,l.kq,q⟩
  |ret v=>have⟨x7,j,k,l,r7,q⟩:=q;show⟨x7,j,k,l.kq,r7,q⟩
  |_=>have⟨j,k,l,n7⟩:=q;show à l n7
end
@[reducible]def R2:=V->V->Hp->VK->Prop
abbrev JF(X:Cx)(f:dV->dV->Sem dV)(r:R2):Prop :=
 ∀(a:List (gi×Obj)) (s:gm) (σ:St) (H:Hp) (x y:V) (v u:dV) (Q:VK),Inv X a σ H s->RelV x v->RelV y u->r x y H Q ->
  gs (i4 X.prog X.w) X.A (f v u) (EP X a σ Q) X.xe s
abbrev Rq(X:Cx)(f:dV->Sem dV)(r:V->Hp->VK->Prop):Prop :=
 ∀(a:List (gi×Obj)) (s:gm) (σ:St) (H:Hp) (x:V) (v:dV) (Q:VK),Inv X a σ H s->RelV x v->r x H Q ->
  gs (i4 X.prog X.w) X.A (f v) (EP X a σ Q) X.xe s
abbrev gG(X:Cx)(f:dV)(r:List V->Hp->VK->Prop):Prop :=
 ∀(a:List (gi×Obj)) (s:gm) (σ:St) (H:Hp) (xs:List V) (us:List dV) (Q:VK),Inv X a σ H s->Vals xs us->r xs H Q ->
  gs (i4 X.prog X.w) X.A (OD f us) (EP X a σ Q) X.xe s
abbrev GX(X:Cx)(r:V->Hp->(Bool->Hp->Prop)->Prop):Prop :=
 ∀(a:List (gi×Obj)) (s:gm) (σ:St) (H:Hp) (x:V) (v:dV) (Q:Bool->Hp->Prop),Inv X a σ H s->RelV x v->r x H Q ->
  gs (i4 X.prog X.w) X.A (Ö v) (TP X a σ Q) X.xe s
abbrev Vw(r:V->Hp->VK->Prop)(a:TE):TE:=λσ H Q=>a σ H λx b=>r x b Q
abbrev rI(C:Int->Int->Prop)(g:Int->Int->V):R2:=λx y H Q=>∃i j,x=.int i/\y=.int j/\C i j/\Q (g i j) H
abbrev M9(g:Int->Int->V):R2:=λx y H Q=>∃i j,x=.int i/\y=.int j/\Q (g i j) H
abbrev rU(g:Int->V):V->Hp->VK->Prop:=λx H Q=>∃i,x=.int i/\Q (g i) H
section
def E7(ho:Rq X (unaryOp op) r)(c:PE X a d):PE X (.UnaryOp op a pos) (Vw r d):=by
 intro b s σ H Q I h;show UnaryOp_ (HE (c b s σ H _ I h) λv s1 ⟨x,e,f,r1,g⟩=>ho b s1 σ e x v Q f r1 g)
def Qd{g:Int->Int->Int}
  (ZC:∀(i j:Int) (t u:Tok) (s:gm) (Q:dV->gm->Prop) (E:dV->gm->Prop),C i j->Q (.int (g i j) s.toks) {s with toks:=s.toks+1}->gs (i4 X.prog X.w) X.A (f (.int i t) (.int j u)) Q E s) :
  JF X f (rI C λi j=>.int (g i j)):=by
 intro a s σ H x y v u Q I b c h;have⟨i,j,rfl,rfl,d,q⟩:=h;have⟨t,rfl⟩:=b;have⟨t',rfl⟩:=c;show ZC i j t t' s _ _ d ⟨.int (g i j),H,I.tok _,⟨_,rfl⟩,q⟩
def E8{g:Int->Int->Int}
  (ZC:∀(i j:Int) (t u:Tok) (s:gm) (Q:dV->gm->Prop) (E:dV->gm->Prop),Q (.int (g i j) s.toks) {s with toks:=s.toks+1}->gs (i4 X.prog X.w) X.A (f (.int i t) (.int j u)) Q E s) :
  JF X f (M9 λi j=>.int (g i j)):=by
 intro a s σ H x y v u Q I b c h;have⟨i,j,rfl,rfl,q⟩:=h;have⟨t,rfl⟩:=b;have⟨t',rfl⟩:=c;show ZC i j t t' s _ _ ⟨.int (g i j),H,I.tok _,⟨_,rfl⟩,q⟩
def CT{g:Int->Int->Bool}
  (ZC:∀(i j:Int) (t u:Tok) (s:gm) (Q:dV->gm->Prop) (E:dV->gm->Prop),Q (.bool (g i j)) s->gs (i4 X.prog X.w) X.A (f (.int i t) (.int j u)) Q E s) :
  JF X f (M9 λi j=>.bl (g i j)):=by
 intro a s σ H x y v u Q I b c h;have⟨i,j,rfl,rfl,q⟩:=h;have⟨t,rfl⟩:=b;have⟨t',rfl⟩:=c;show ZC i j t t' s _ _ ⟨.bl (g i j),H,I,rfl,q⟩
abbrev GY(i j:Int):Prop:=0<j/\j<1073741824
abbrev GZ(i j:Int):Prop:=0<=j/\j<=1000000/\i.natAbs<2 ^ 64
abbrev CU(i j:Int):Prop:=(-(2 ^ 64)<i/\i<2 ^ 64)\/(-(2 ^ 64)<j/\j<2 ^ 64)
def CU.ok(h:CU i j):IntMulOk i j:=by
 rcases h with⟨a,b⟩|⟨a,b⟩
 .show .of_left (intBits_le_64 a b)
 .show .of_right (intBits_le_64 a b)
def d5:JF X (O2 .Add) (M9 λi j=>.int (i+j)):=E8 λ_ _ _ _ _ _ _ q=>add_int q
def kr:JF X (O2 .Sub) (M9 λi j=>.int (i - j)):=E8 λ_ _ _ _ _ _ _ q=>sub_int q
def nF:JF X (O2 .Mult) (rI CU λi j=>.int (i * j)):=Qd λ_ _ _ _ _ _ _ a q=>mul_int q a.ok
def zU:JF X (O2 .FloorDiv) (rI GY λi j=>.int (i / j)):=Qd λi j _ _ _ _ _ a q=>by
 have b:(0:Int)<j:=a.1;have c:j<1073741824:=a.2;show floordiv_int ⋯ (by rw[Int.fdiv_eq_ediv_of_nonneg i ⋯];show q) (.inl (PyProof.noPylong_small ⋯))
def bM:JF X (O2 .Mod) (rI (λ_ j=>0<j) λi j=>.int (i % j)):=Qd λi j _ _ _ _ _ a q=>by
 have b:(0:Int)<j:=a;show mod_int' ⋯ (by rw[Int.fmod_eq_emod_of_nonneg i ⋯];show q)
def nG:JF X (O2 .Pow) (rI GZ λi j=>.int (i ^ j.toNat)):=Qd λ_ _ _ _ _ _ _ a q=>pow_int_small a.1 a.2.1 a.2.2 q
def Vx{g:Int->Int}
  (ZC:∀(i:Int) (t:Tok) (s:gm) (Q:dV->gm->Prop) (E:dV->gm->Prop),Q (.int (g i) s.toks) {s with toks:=s.toks+1}->gs (i4 X.prog X.w) X.A (f (.int i t)) Q E s) :
  Rq X f (rU λi=>.int (g i)):=by
 intro a s σ H x v Q I b h;have⟨i,rfl,q⟩:=h;have⟨t,rfl⟩:=b;show ZC i t s _ _ ⟨.int (g i),H,I.tok _,⟨_,rfl⟩,q⟩
def CV:Rq X (unaryOp .USub) (rU λi=>.int (-i)):=Vx λ_ _ _ _ _ q=>neg_int q
end
section
def CW(I:Inv X a σ H s)(q:Q (.bl k) H)(e:k=k'):EP X a σ Q (.bool k') s:=by
 subst e;show⟨.bl k,H,I,rfl,q⟩
def E9:JF X (NG .Lt) (M9 λi j=>.bl (cL (i<j))):=CT λ_ _ _ _ _ _ _ q=>lt_int q
def E_:JF X (NG .Gt) (M9 λi j=>.bl (cL (j<i))):=CT λ_ _ _ _ _ _ _ q=>gt_int q
def Fb:JF X (NG .GtE) (M9 λi j=>.bl (cL (j<=i))):=CT λ_ _ _ _ _ _ _ q=>ge_int q
def uE:JF X (NG .In) (λx y H Q=>∃i j,x=.str i/\y=.str j/\Q (.bl (!(tA j i 0 j.length 1).isEmpty)) H):=by
 intro a s σ H x y v u Q I b c h;have⟨i,j,rfl,rfl,q⟩:=h;have⟨t,rfl⟩:=b;have⟨t',rfl⟩:=c;show in_str (CW I q rfl)
abbrev Fc(K:PySem.W.Frag)(x:V)(H:Hp)(k:Bool):Prop :=
 match x with
 |.HD=>k=cb
 |.bl b=>k=b
 |.int i=>k=(i != 0)
 |.str y=>y.length<=cK/\k=((y.length:Int) != 0)
 |.OA y=>y.size<=cK/\k=((y.size:Int) != 0)
 |.ref p=>(∃xs,Ip K H p xs/\k=!xs.isEmpty)\/(∃xs,Iq K H p xs/\k=!xs.isEmpty)\/∃kvs,H p=a5 (.dK kvs)/\k=!kvs.isEmpty
 |_=>False
def qI(r:KV kvs vs):(!vs.isEmpty)=!kvs.isEmpty:=by
 cases r<;>rfl
def kA(r:Vals xs a):(!a.toArray.isEmpty)=!xs.isEmpty:=by
 cases r<;>simp
def fz:(cK:Nat)<2 ^ 63:=by rw[Ze];decide
def CY:GX X (λx H Q=>∃k,Fc X.K x H k/\Q k H):=by
 intro g s σ H x v Q I d h;have⟨k,e,q⟩:=h;have hl:=fz;have hs:cK=16777216:=Ze;cases x with
 |HD =>
  cases d;have a:k=cb:=e;subst a;show truthy_none ⟨H,I,q⟩
 |bl b =>
  cases d;have a:k=b:=e;subst a;show Jx ⟨H,I,q⟩
 |int i =>
  have⟨t,rfl⟩:=d;have a:k=(i != 0):=e;subst a;show PySem.P.truthy_int ⟨H,I,q⟩
 |str y =>
  have⟨t,rfl⟩:=d;obtain⟨j,a⟩:y.length<=cK/\k=((y.length:Int) != 0):=e;subst a;show PySem.P.truthy_str ⋯ ⟨H,I.tok _,q⟩
 |OA y =>
  have⟨t,rfl⟩:=d;obtain⟨j,a⟩:y.size<=cK/\k=((y.size:Int) != 0):=e;subst a;show PySem.W.truthy_bytes ⋯ ⟨H,I.tok _,q⟩
 |ref p =>
  cases d;have a:(∃xs,Ip X.K H p xs/\k=!xs.isEmpty)\/(∃xs,Iq X.K H p xs/\k=!xs.isEmpty)\/∃kvs,H p=a5 (.dK kvs)/\k=!kvs.isEmpty:=e;rcases a with⟨xs,f,a⟩|⟨xs,f,a⟩|⟨kvs,f,a⟩
  .subst a;have⟨l,r,pl,hz⟩:=I.list f;have c:=r.length;show wpAny_truthy_list pl.isList (by simp only[hH];lia) ⟨H,I.tok _,by rw[kA r];show q⟩
  .subst a;have⟨l,r,pl,hz⟩:=I.tuple f;have c:=r.length;show truthy_tuple pl (by simp only[hH];lia) ⟨H,I.tok _,by rw[kA r];show q⟩
  .subst a;obtain⟨hz,n,vs,r,m⟩:kvs.length<=cK/\(p==Nl)=cb/\∃vs,KV kvs vs/\s.heap.DictOf (aY X.prog X.w) p vs:=I.HA p _ f;have c:kvs.length=vs.length:=Paired.length r;show wpAny_truthy_dict n m ⋯ ⟨H,I.tok _,by rw[qI r];show q⟩
 |_=>show(show False from e).elim
def wc(d:PE X a e)(f:∀b,isTrue a X.env b=(do let v <-b;Rz a.pos;Kw [v] (Ö v))):
  PT X a (λσ H Q=>e σ H λx H'=>∃k,Fc X.K x H' k/\Q k H'):=by
 intro c s σ H Q I h;show isTrue_plain (HE (d c s σ H _ I h) λv s1 ⟨x,g,i,r1,j⟩=>CY c s1 σ g x v Q i r1 j) (f _)
def qJ:JF X (O2 .Add) (λx y H Q=>∃i j,x=.str i/\y=.str j/\i.length+j.length<=cK/\Q (.str (i++j)) H):=by
 intro a s σ H x y v u Q I b c h;have⟨i,j,rfl,rfl,hz,q⟩:=h;have⟨t,rfl⟩:=b;have⟨t',rfl⟩:=c;show add_str (λt' d=>⟨.str (i++j),H,I.tok _,⟨_,rfl⟩,q⟩) hz
def vals1(r:Vals [x] us):∃u,us=[u]/\RelV x u:=by
 cases r with
 |cons r1 r2=>cases r2;show⟨_,rfl,r1⟩
def nI:gG X (.type "str") (λxs H Q=>∃i,xs=[.int i]/\i.natAbs.log2<1920/\Q (.str (Ò i)) H):=by
 intro a s σ H xs us Q I r h;have⟨i,rfl,hz,q⟩:=h;have⟨u,rfl,t,rfl⟩:=vals1 r;show PySem.P.str_of_int hz ⟨.str _,H,I.tok _,⟨_,rfl⟩,q⟩
end
structure qK(h:Kq)(x dx C:gi)(mA:Str->Option dV):Prop where
 obj:h.get? x=a5 (PySem.W.instObj C dx)
 ns:h.Ns1 dx mA
 ne:dx≠x
def uF{h:Kq}(n:h.Ns1 c d):∃b,h.get? c=a5 b/\∀name,PySem.W.lookIn name b=a5 (d name):=by
 obtain⟨o,es,ep,ho,f,hk,_,g⟩:=n;show⟨o,ho,λname=>?_⟩;have e:=g name;unfold nsFind findBy at e;rw[<-Array.find?_toList]at e;unfold PySem.W.lookIn;rw[f]
 dsimp only
 split
 .rename_i y q;rw[q]at e;show ï a5 e
 .rename_i q;rw[q]at e;have a:es.toList.any (·.refKey)=cb:=by
   rw[Y5];intro y i;have⟨z,t,j⟩:=hk y (Array.mem_toList_iff.mp i);simp[DictEntry.refKey,j]
  have a':¬es.toList.any (·.refKey)=bD:=by rw[a];show ko
  rw[ë a'];show ï a5 e
def qK.look(I:qK h x b C c):∃a,PySem.W.InstAt h x (PySem.W.instObj C b) C (a5 a)/\∀name,PySem.W.lookIn name a=a5 (c name) :=
 let ⟨a,ho,hl⟩:=uF I.ns
 ⟨a,⟨I.obj,rfl,rfl,ho⟩,hl⟩
section
variable{prog:va}{w:w6}{A:Li}{E:dV->gm->Prop}{s:gm}{K:PySem.W.Frag}{x dx C f:gi}{mA:Str->Option dV}{name:Str}{v:dV}
def get_map(X:K.In s.heap)(I:qK s.heap x dx C mA)(b:PySem.W.plainGet K C name=bD)(c:PySem.W.hasDictIn K C=bD)
  (d:PySem.W.findIn K (.ref C) name=a5 b6) (e:mA name=a5 v) (g:PySem.W.handedIn v=bD) (h:Q v {s with toks:=s.toks+1}) :
  gs (i4 prog w) A (getAttr (.ref x) name a) Q E s:=by
 have⟨i,J,hl⟩:=I.look;show PySem.W.get_value X J (PySem.W.plainGet_of b).1 (PySem.W.findObj_own c d rfl (by rw[hl,e])) g h
def we(X:K.In s.heap)(I:qK s.heap x dx C mA)(a:PySem.W.plainGet K C name=bD)
  (b:PySem.W.findIn K (.ref C) name=a5 (a5 (.ref f))) (c:PySem.W.isFn K (.ref f)=bD) (d:mA name=b6) (h:Q (.ref f,[.ref x]) s) :
  gs (i4 prog w) A (TC (.ref x) name pl) Q E s:=by
 have⟨e,J,hl⟩:=I.look;show PySem.W.method_fn X J (PySem.W.plainGet_of a).1 (PySem.W.plainGet_of a).2 b (beq_iff_eq.mp c) (by change(PySem.W.lookIn name e).map (·.isSome)=a5 cb;rw[hl,d];rfl) h
def zV(X:K.In s.heap)(I:qK s.heap x dx C mA)
  (hs:PySem.W.findIn K (.ref C) "__setattr__"=a5 (a5 (.builtin "object.__setattr__"))) (e:PySem.W.plainOver K C=bD) (g:PySem.W.takerIn K C name=a5 b6) (i:PySem.W.hasDictIn K C=bD)
  (j:PySem.Within mA ns) (hsz:ns.length<=cK)
  (h:∀h',qK h' x dx C (λy=>if y=name then a5 v else mA y)->KX dx s.heap h'->Q () {s with heap:=h',toks:=s.toks+2}) :
  gs (i4 prog w) A (setAttr (.ref x) name v) Q E s:=by
 have⟨q,J,hl⟩:=I.look;show PySem.W.set_plain X J hs (PySem.W.osa_open (s:={s with toks:=s.toks+1}) (r:=b6) X J e g λb=>?_);have⟨t,k,l⟩:=PySem.W.any_some i;have m:s.heap.get? x=a5 ⟨.ref C,a5 dx,.plain,#[]⟩:=I.obj;show b8 (fx (b8 (b8 (wpAny_loadPart m (b8 (PySem.W.Looks.here (s:={s with toks:=s.toks+1}) (PySem.W.looks_clsIn X k) ?_))))));rw[l];show fx (a:=a5 dx) (b8 (fx (b8 ?_)));show wpAny_nsSet1 (s:={s with toks:=s.toks+1}) I.ns λh' c d=>?_;have⟨u,z,B,n,o,p⟩:=c.count (PySem.Within.cons name v j);show b8 (wpAny_lookBehind n (by rw[o];show pastItsLine_dict (uv p (by rw[k9];lia))) ?_);show fx (h _ ⟨(d.2 _ (ri I.ne)).trans I.obj,c,I.ne⟩ d)
def wg(X:K.In s.heap)(b:PySem.W.makesIn K C=bD)
  (hi:PySem.W.findIn K (.ref C) "__init__"=a5 (a5 (.ref f))) (c:PySem.W.typeIn K (.ref f)=a5 (.type "function"))
  (h:Oz (i4 prog w) (A.under (.builtin "type.__call__" ⟨.ref C::vs,a⟩)) (.call (.ref f) ⟨.ref (s.heap.objs.size+1)::vs,a⟩) (PySem.W.InitBack (s.heap.objs.size+1) R)
   {s with heap:=(s.heap.push PySem.W.emptyDict).push (PySem.W.instObj C s.heap.objs.size)}) :
  Oz (i4 prog w) A (.call (.ref C) ⟨vs,a⟩) R s:=by
 have⟨e,g,d,t,os⟩:=s;show PySem.W.make_core (PySem.W.makes_of X b) (PySem.W.looks_findIn X hi) (λself=>PySem.W.bind_fn X self c) (.inl rfl) h
end
abbrev d6(f:Str)(v:V):List (Str×V)->List (Str×V)
 |[]=>[(f,v)]
 |(g,x)::r=>if g=f then(g,v)::r else(g,x)::d6 f v r
theorem jw(f g:Str)(v:V):∀b:List (Str×V),(d6 f v b).lookup g=if g=f then a5 v else b.lookup g
 |[]=>by
  change LM g [(f,v)]=_;by_cases h:g=f
  .have a:(g==f)=bD:=beq_iff_eq.mpr h;simp only[LM,a,ê h]
  .have a:(g==f)=cb:=î.mpr h;simp only[LM,a,ë h]
 |(k,x)::r=>by
  have c:=jw f g v r;rw[show d6 f v ((k,x)::r)=(if k=f then(k,v)::r else(k,x)::d6 f v r) from rfl];by_cases hk:k=f
  .rw[ê hk];by_cases h:g=k
   .have a:(g==k)=bD:=beq_iff_eq.mpr h;simp only[LM,a,ê (h.trans hk)]
   .have a:(g==k)=cb:=î.mpr h;simp only[LM,a,ë (λe:g=f=>h (e.trans hk.symm))]
  .rw[ë hk];by_cases h:g=k
   .have a:(g==k)=bD:=beq_iff_eq.mpr h;simp only[LM,a,ë (λe:g=f=>hk (h.symm.trans e))]
   .have a:(g==k)=cb:=î.mpr h;simp only[LM,a];show c
theorem jb(f:Str)(v:V):∀a:List (Str×V),f∈(d6 f v a).map (·.1)/\∀g,g∈a.map (·.1)->g∈(d6 f v a).map (·.1)
 |[]=>⟨by simp[d6],λg h=>by simp at h⟩
 |(k,x)::r=>by
  have⟨b,c⟩:=jb f v r;rw[show d6 f v ((k,x)::r)=(if k=f then(k,v)::r else(k,x)::d6 f v r) from rfl];by_cases hk:k=f
  .rw[ê hk];subst hk;show⟨by simp,λg h=>by simpa using h⟩
  .rw[ë hk];show⟨?_,λg h=>?_⟩
   .rw[g8];show i8 _ b
   .rw[g8]at h ⊢;rcases gj.mp h with e|e
    .show gj.mpr (.inl e)
    .show i8 _ (c g e)
theorem jx(f:Str)(v:V):∀a:List (Str×V),(d6 f v a).length<=a.length+1
 |[]=>by simp[d6]
 |(k,x)::r=>by
  have b:=jx f v r;rw[show d6 f v ((k,x)::r)=(if k=f then(k,v)::r else(k,x)::d6 f v r) from rfl];by_cases hk:k=f
  .rw[ê hk,k9,k9];lia
  .rw[ë hk,k9,k9];lia
def ft.some_of(r:ft (a5 v) o):∃u,o=a5 u/\RelV v u:=by
 cases o with
 |none=>show(show False from r).elim
 |some u=>show⟨u,rfl,r⟩
def ft.none_of(r:ft b6 o):o=b6:=by
 cases o with
 |none=>rfl
 |some u=>show(show False from r).elim
def uG(r:RelV v u):PySem.W.handedIn u=bD:=by
 cases v with
 |HD=>cases(show u=r3 from r);rfl
 |bl b=>cases(show u=PY b from r);rfl
 |int i=>have⟨t,e⟩:=(show ∃t,u=Wt i t from r);cases e;rfl
 |str x=>have⟨t,e⟩:=(show ∃t,u=Iv x t from r);cases e;rfl
 |OA b=>have⟨t,e⟩:=(show ∃t,u=ZX b t from r);cases e;rfl
 |OB b=>have⟨t,e⟩:=(show ∃t,u=ZW b t from r);cases e;rfl
 |ref a=>cases(show u=ki a from r);rfl
 |ty n=>cases(show u=Jy n from r);rfl
section
def nJ(i:IS P w H h)(e:H a=a5 (.ins C g c)):∃b,qK h a g C b/\(∀f,ft (c.lookup f) (b f))/\PySem.Within b (c.map (·.1))/\c.length<=1000/\H g=a5 (.own a):=by
 have⟨d,z,j,k,b,n,r,q⟩:=(show bE P w H h a (.ins C g c) from i a _ e)
 show⟨b,⟨k,n,j⟩,r,q,z,d⟩
end
structure L8(K:PySem.W.Frag)(C:gi):Prop where
 pg:PySem.W.plainGet K C tv=bD
 hd:PySem.W.hasDictIn K C=bD
 po:PySem.W.plainOver K C=bD
 sa:PySem.W.findIn K (.ref C) "__setattr__"=a5 (a5 (.builtin "object.__setattr__"))
def L8.get{K:PySem.W.Frag}(c:L8 K C)(f:Str):PySem.W.plainGet K C f=bD:=c.pg
abbrev fA(K:PySem.W.Frag)(C:gi)(f:Str):Prop:=PySem.W.findIn K (.ref C) f=a5 b6
def fA.Fd{K:PySem.W.Frag}(n:fA K C f):PySem.W.takerIn K C f=a5 b6:=by
 unfold PySem.W.takerIn;rw[show PySem.W.findIn K (.ref C) f=a5 b6 from n];rfl
structure Meth(K:PySem.W.Frag)(C:gi)(m:Str)(f:gi):Prop where
 at_:PySem.W.findIn K (.ref C) m=a5 (a5 (.ref f))
 fn:PySem.W.isFn K (.ref f)=bD
 kp:PySem.W.keepIn K (.ref f)=bD
section
def qL(I:Inv X d σ H s)(e:H a=a5 (.ins C m i))(c:L8 X.K C)(n:fA X.K C f)(l:i.lookup f=a5 v)
  (h:∀u s',Inv X d σ H s'->RelV v u->Q u s'):gs (i4 X.prog X.w) A (getAttr (.ref a) f b) Q E s:=by
 obtain⟨j,O,r,_,_,_⟩:=nJ I.HA e;have⟨u,k,g⟩:=ft.some_of (v:=v) (o:=j f) (by rw[<-l];show r f);show get_map I.JE O (c.get f) c.hd n k (uG g) (h u _ (I.tok _) g)
def gN(I:Inv X b σ H s)(e:H a=a5 (.ins C j d))(c:L8 X.K C)(k:Meth X.K C m g)(l:d.lookup m=b6)
  (h:Q (.ref g,[.ref a]) s):gs (i4 X.prog X.w) A (TC (.ref a) m pl) Q E s:=by
 obtain⟨f,O,r,_,_,_⟩:=nJ I.HA e;have i:f m=b6:=ft.none_of (by rw[<-l];show r m);show we I.JE O (c.get m) k.at_ k.fn i h
def qM(I:Inv X i σ H s)(e:H a=a5 (.ins C j d))(c:L8 X.K C)(n:fA X.K C f)(hl:d.length<1000)(p:RelV y u)
  (h:∀s',Inv X i σ (upd H a (.ins C j (d6 f y d))) s'->Q () s'):gs (i4 X.prog X.w) A (setAttr (.ref a) f u) Q E s:=by
 obtain⟨l,O,r,m,_,ho⟩:=nJ I.HA e;have hz:(d.map (·.1)).length<=cK:=by rw[dr,Ze];lia
 show zV I.JE O c.sa c.po n.Fd c.hd m hz λh' k t=>h _ ?_;have v:∃o,h'.get? j=a5 o:=let ⟨o,_,_,B,_⟩:=k.ns;⟨o,B⟩;show I.write (x:=a) (e:=j) (by rw[e];show Ry) (.inr ho) (λb q D z=>(t.2 b D).trans z) v ?_;show⟨by rw[ak O.ne];show ho,?_,O.ne,k.obj,_,k.ns,λg=>?_,λg G=>?_⟩
 .have:=jx f y d;lia
 .change ft ((d6 f y d).lookup g) (if g=f then a5 u else l g);rw[jw];by_cases q:g=f
  .rw[ê q,ê q];show p
  .rw[ë q,ë q];show r g
 .by_cases q:g=f
  .rw[q];show(jb f y d).1
  .show(jb f y d).2 g (m g λz=>G ?_);change(if g=f then a5 u else l g)=b6;rw[ë q];show z
def Inv.made(I:Inv X c σ H s):Inv X c σ (upd (upd H s.heap.objs.size (.own (s.heap.objs.size+1))) (s.heap.objs.size+1) (.ins C s.heap.objs.size []))
  {s with heap:=(s.heap.push PySem.W.emptyDict).push (PySem.W.instObj C s.heap.objs.size)}:=by
 have e1:(s.heap.push PySem.W.emptyDict).get? s.heap.objs.size=a5 PySem.W.emptyDict:=hW s.heap rfl;have f:((s.heap.push PySem.W.emptyDict).push (PySem.W.instObj C s.heap.objs.size)).get? (s.heap.objs.size+1)=a5 (PySem.W.instObj C s.heap.objs.size):=by
  have:=hW (s.heap.push PySem.W.emptyDict) (o:=PySem.W.instObj C s.heap.objs.size) rfl
  rwa [MF]at this
 have g:(s.heap.push PySem.W.emptyDict).Ns s.heap.objs.size (λ_=>b6):=⟨PySem.W.emptyDict,#[],_,e1,rfl,(λe h=>absurd h (by simp)),λ_=>rfl⟩
 have i:=I.laid (a:=s.heap.objs.size) (o:=.own (s.heap.objs.size+1)) (h':=s.heap.push PySem.W.emptyDict) (t':=s.toks) (λb u q=>df _ q) (i5 _) ⟨_,e1⟩;show i.laid (a:=s.heap.objs.size+1) (o:=.ins C s.heap.objs.size []) (t':=s.toks) (λb u q=>df _ q) (Uq (MF _ _)) ?_;have d:s.heap.objs.size≠s.heap.objs.size+1:=ke (MG _);show⟨by rw[ak d,aq],mx _,d,f,λ_=>b6,(Heap.Ns1.of_empty g).at λo q=>df _ q,λ_=>Ry,λy j=>absurd rfl j⟩
def zW(a:NU e f env (uk e env)=uk e env)
  (h:gs (i4 prog w) A (uk e env) (λo b=>gs (i4 prog w) A (getAttr o f bD) Q E b) E s):gs (i4 prog w) A (uk (.Attribute e f pos) env) Q E s :=
 Attribute_any_ h (by rw[arm_eval_Attribute,a])
end
abbrev CZ(K:PySem.W.Frag)(d:TE)(f:Str):TE:=λσ H Q=>d σ H λx b=>∃a C e c v,x=.ref a/\b a=a5 (.ins C e c)/\L8 K C/\fA K C f/\c.lookup f=a5 v/\Q v b
abbrev G0(K:PySem.W.Frag)(e g:TE)(f:Str):TS:=λD σ H=>g σ H λy h=>e σ h λx c=>∃a C d b,x=.ref a/\c a=a5 (.ins C d b)/\L8 K C/\fA K C f/\b.length<1000 /\
 D.nx σ (upd c a (.ins C d (d6 f y b)))
section
def qN(d:PE X e g)(i:NU e f X.env (uk e X.env)=uk e X.env):PE X (.Attribute e f pos) (CZ X.K g f):=by
 intro b s σ H Q I h;show zW i (HE (d b s σ H _ I h) λu s1 j=>?_);have⟨x,k,m,o,a,C,w,y,v,ex,p,c,n,l,q⟩:=j;subst ex;obtain rfl:u=ki a:=o;show qL m p c n l λu' s2 r t=>⟨v,k,r,t,q⟩
def qO(e:PE X o g)(i:PE X b j)(hs:Ou b (a5 (.Attribute o f pos')) pos.line X.env=pure cb):PS X (.Assign [.Attribute o f pos'] b pos) (G0 X.K g j f):=by
 intro d s σ H D I h;show plainObj_wpAny_Assign_Attribute (HE (i d s σ H _ I h) λu s1 ⟨y,k,m,p,q⟩=>HE (e d s1 σ k _ m q) λr s2 ⟨x,B,t,v,a,C,G,J,ex,w,c,n,l,z⟩=>?_) hs;subst ex;obtain rfl:r=ki a:=v;show qM t w c n l p λs3 A=>⟨σ,_,A,z⟩
end
section
inductive kB(K:PySem.W.Frag)(H:Hp):V->dV->Prop where
 |HD:kB K H .HD (.type "NoneType")
 |bl (x:Bool):kB K H (.bl x) (.type "bool")
 |int (i:Int):kB K H (.int i) (.type "int")
 |str (x:Str):kB K H (.str x) (.type "str")
 |OB (x:UInt64):kB K H (.OB x) (.type "float")
 |lst {a:gi} {xs:List V} (e:H a=a5 (.lst xs)):kB K H (.ref a) (.type "list")
 |Ko {a:gi} {o:Obj} {xs:List V} (e:H a=a5 (.Ko o (.lst xs))):kB K H (.ref a) (.type "list")
 |tup {a:gi} {xs:List V} (e:H a=a5 (.tup xs)):kB K H (.ref a) (.type "tuple")
 |dK {a:gi} {kvs:List (Key×V)} (e:H a=a5 (.dK kvs)):kB K H (.ref a) (.type "dict")
 |dT {a:gi} {kvs:List (List Key×V)} (e:H a=a5 (.dT kvs)):kB K H (.ref a) (.type "dict")
 |ins {a C dx:gi} {fs:List (Str×V)} (e:H a=a5 (.ins C dx fs)) (cl:L8 K C) (ha:PySem.W.findIn K (.ref C) "__class__"=a5 (a5 (.builtin "object.__class__")))
   (hn:PySem.W.specialIn K (.builtin "object.__class__") "__get__"=a5 (a5 (.builtin "getset_descriptor.__get__"))) (OL:PySem.W.takesIn K (.builtin "object.__class__")=a5 bD)
   (hm:PySem.W.mroIn K C (.type "object")=a5 bD):kB K H (.ref a) (.ref C)
end
structure cP(k:Nat)(A:Li):Prop where
 hd:A.handled=b6
 dp:A.depth+3 * k+5<Ø
 un:A.units+16 * k+200<KA
 gd:A.guards=a5 []
def cP.mono(r:cP k A)(h:j<=k):cP j A:=⟨r.hd,by have:=r.dp;lia,by have:=r.un;lia,r.gd⟩
def cP.deeper(r:cP (k+1) A)(env:Env):cP k (A.deeper env) :=
 ⟨r.hd,by have:=r.dp;change A.depth+1+3 * k+5 < _;lia,by have:=r.un;change A.units+3+16 * k+200 < _;lia,r.gd⟩
def qP{A:Li}:(A.under (.builtin "type.__call__" ⟨.ref C::us,a⟩)).depth=A.depth+1:=by
 first|rfl|simp[SU,Code.weight,Code.isCreation,Z1,Code.isCaller,X5,TQ,guardIds]
def qQ{A:Li}:(A.under (.builtin "type.__call__" ⟨.ref C::us,a⟩)).units=A.units+1:=by
 first|rfl|simp[SU,Code.cUnits,X5,TQ]
def cP.make(r:cP (k+1) A)(C:gi)(us:List dV)(a:List (Str×dV)):cP k (A.under (.builtin "type.__call__" ⟨.ref C::us,a⟩)) :=
 ⟨r.hd,by have:=r.dp;rw[qP];lia,by have:=r.un;rw[qQ];lia,by first|show r.gd|(simp[SU,Z1,X5,TQ,guardIds];show r.gd)|(change _=_;show r.gd)⟩
def cP.depth(r:cP k A):A.depth<Ø:=by have:=r.dp;lia
abbrev Fe:TA:=λ_ H Q=>Q [] H
abbrev Ff(a:TE)(b:TA):TA:=λσ H Q=>a σ H λx c=>b σ c λxs d=>Q (x::xs) d
section
def d7:PA X [] Fe:=λ_ _ _ _ H Q I h=>O' ⟨[],H,I,.nil,h⟩
def dC(b:PE X e c)(d:PA X es t)(hs:i7 (e::es) X.env=(cb,uk e X.env)::i7 es X.env:=by rfl):PA X (e::es) (Ff c t):=by
 intro pos a s σ H Q I h;rw[hs];change gs _ _ (YQ ((cb,uk e X.env)::wh pos (i7 es X.env))) _ _ s;show MJ (HE (b a s σ H _ I h) λu s1 f=>?_);have⟨x,g,i,r1,j⟩:=f;show HE (d pos a s1 σ g _ i j) λus s2 ⟨xs,k,l,r2,m⟩=>⟨x::xs,k,l,.cons r1 r2,m⟩
abbrev G1(t:TA):TE:=λσ H Q=>t σ H λxs a=>xs.length<=cK/\∀p,a p=b6->Q (.ref p) (upd a p (.tup xs))
abbrev G2(t:TA):TE:=λσ H Q=>t σ H λxs a=>xs.length<=cK/\∀p,a p=b6->Q (.ref p) (upd a p (.lst xs))
def C0(h:PA X es t):PE X (.Tuple es i pos) (G1 t):=by
 intro a s σ H Q I f;show Zs (HE (h pos a s σ H _ I f) λus s1 ⟨xs,c,d,r,z,q⟩=>⟨by rw[<-r.length];show z,?_⟩);have g:c s1.heap.objs.size=b6:=d.HA.fresh (i5 _);show⟨.ref s1.heap.objs.size,upd c s1.heap.objs.size (.tup xs),d.laid (t':=s1.toks) (λb u e=>df _ e) (i5 _) ?_,rfl,q _ g⟩;show⟨z,us,r,⟨_,hW _ rfl,rfl,_,rfl⟩⟩
def wj(h:PA X es t):PE X (.List es pos) (G2 t):=by
 intro a s σ H Q I f;show ZA (HE (h pos a s σ H _ I f) λus s1 ⟨xs,c,d,r,z,q⟩=>⟨by rw[<-r.length];show z,?_⟩);have g:c s1.heap.objs.size=b6:=d.HA.fresh (i5 _);show⟨.ref s1.heap.objs.size,upd c s1.heap.objs.size (.lst xs),d.laid (t':=s1.toks) (λb u e=>df _ e) (i5 _) ?_,rfl,q _ g⟩;show⟨z,us,0,r,hW _ rfl⟩
end
@[reducible]def Sp:=List V->Hp->VK->XK->Prop
@[reducible]def M':=List Env->Hp->gm->XK->dV->gm->Prop
structure qR(P:va)(w:w6)(K:PySem.W.Frag)(mg:Str->Option dV)(base:Kq)(A:Li)(outer:List Env)(s:gm)(H:Hp):Prop where
 frames:A.frames=a5 outer
 mod:Mod K mg base
 bs:∀b o,base.get? b=a5 o->s.heap.get? b=a5 o/\H b=b6
 LK:base.objs.size<=s.heap.objs.size
 ja:s.heap.FunFrames base outer
 MD:∀b∈Io outer,H b=b6
 HA:IS P w H s.heap
 bare:RB s.gens
abbrev CE(outer:List Env)(P:va)(w:w6)(H:Hp)(s:gm)(Q:VK)(u:dV)(s':gm):Prop :=
 ∃v H',s'.os=s.os/\RB s'.gens/\Un (Io outer) [] H H' s.heap s'.heap/\IS P w H' s'.heap/\RelV v u/\Q v H'
abbrev CR(CX:M')(outer:List Env)(P:va)(w:w6)(H:Hp)(s:gm)(Q:VK)(E:XK)(r:Result)(s':gm):Prop :=
 match r with
 |.ok (.ret u)=>CE outer P w H s Q u s'
 |.ok _=>False
 |.error e=>CX outer H s E e s'
structure dN(P:va)(w:w6)(K:PySem.W.Frag)(mg:Str->Option dV)(base:Kq)(CX:M')(k:Nat)(f:gi)(fd:Q0)(ps:List Str)(sp:Sp):Prop where
 len:∀vs H Q E,sp vs H Q E->vs.length=ps.length
 run:∀(A:Li) (outer:List Env) (s:gm) (H:Hp) (args:Args) (us:List dV) (vs:List V) (Q:VK) (E:XK),cP k A->qR P w K mg base A outer s H->YX s fd args (ps.zip us)->Vals vs us->sp vs H Q E ->
  Oz (i4 P w) A (.call (.ref f) args) (CR CX outer P w H s Q E) s
def qR.make{K:PySem.W.Frag}(e:qR P w K mg base A outer s H)(C:gi)(us:List dV)(a:List (Str×dV)):
  qR P w K mg base (A.under (.builtin "type.__call__" ⟨.ref C::us,a⟩)) outer s H:=⟨by first|show e.frames|(simpa[SU,Code.envs,TQ,pushEnvs] using e.frames),e.mod,e.bs,e.LK,e.ja,e.MD,e.HA,e.bare⟩
section
def Inv.C2(I:Inv X a σ H s):qR X.prog X.w X.K X.mg X.base X.A X.stack s H :=
 ⟨I.ok.frames,I.ok.mod,I.bs,uv I.ok.LK I.sz,I.stack,I.fW,I.HA,I.bare⟩
def Inv.after(I:Inv X a σ H s)(h:CE X.stack X.prog X.w H s Q u s'):EP X a σ Q u s':=by
 have⟨v,H',os,c,e,f,r,q⟩:=h;have⟨i,g,d,t,j⟩:=s';obtain rfl:j=s.os:=os;show⟨v,H',I.call (h':=i) (g':=g) (d':=d) (t':=t) (ch:=[]) e f c (λb z=>absurd z (by simp)),r,q⟩
end
abbrev Fg(C:gi)(sp:Sp)(c:List V)(E:XK)(t:TA):TE:=λσ H Q=>t σ H λvs b=>∀x a,b x=b6->b a=b6->a≠x ->
 sp (.ref x::(vs++c)) (upd (upd b a (.own x)) x (.ins C a [])) (λv d=>v=.HD/\Q (.ref x) d) E
abbrev Binds(K:PySem.W.Frag)(a:Q0)(ps:List Str)(ds:List dV):Prop :=
 ∀(s:gm) (us:List dV),K.In s.heap->(us++ds).length=ps.length->YX s a ⟨us,[]⟩ (ps.zip (us++ds))
def Binds.all{K:PySem.W.Frag}(h:∀us:List dV,us.length=ps.length->Þ a ⟨us,[]⟩=pure (ps.zip us)):Binds K a ps []:=λs us _ hl=>by
 rw[sx]at hl ⊢;show .of_eq (h us hl)
abbrev Passes(CX:M')(X:Cx)(E:XK):Prop:=∀(a:List (gi×Obj)) (σ:St) (H:Hp) (s:gm) (e:dV) (s':gm),Inv X a σ H s->CX X.stack H s E e s'->X.xe e s'
section
def kC(F:dN X.prog X.w X.K X.mg X.base CX k f d ps sp)(g:cP k X.A)(i:Binds X.K d ps ds)(j:Vals b ds)(l:Passes CX X E)
  (I:Inv X a σ H s) (r:Vals vs us) (h:sp (vs++b) H Q E):gs (i4 X.prog X.w) X.A (OD (.ref f) us) (EP X a σ Q) X.xe s:=by
 have r2:Vals (vs++b) (us++ds):=r.append j;have hl:(us++ds).length=ps.length:=by rw[<-r2.length];show F.len _ _ _ _ h
 show XA (Qf (F.run X.A X.stack s H ⟨us,[]⟩ (us++ds) (vs++b) Q E g I.C2 (i s us I.JE hl) r2 h) λr s' c=>?_);cases r with
 |error e=>show l a σ H s e s' I c
 |ok m =>
  cases m with
  |ret u=>show I.after c
  |_=>show JQ c
structure Mk(K:PySem.W.Frag)(C f:gi):Prop where
 makes:PySem.W.makesIn K C=bD
 init:PySem.W.findIn K (.ref C) "__init__"=a5 (a5 (.ref f))
 fn:PySem.W.isFn K (.ref f)=bD
 kp:PySem.W.keepIn K (.ref C)=bD
def wm(M:Mk X.K C f)(F:dN X.prog X.w X.K X.mg X.base CX k f j ps sp)(l:cP (k+1) X.A)(m:Binds X.K j ps ds)(n:Vals g ds)
  (o:Passes CX X E) (I:Inv X a σ H s) (r:Vals vs us)
  (h:∀x b,H x=b6->H b=b6->b≠x->sp (.ref x::(vs++g)) (upd (upd H b (.own x)) x (.ins C b [])) (λv p=>v=.HD/\Q (.ref x) p) E) :
  gs (i4 X.prog X.w) X.A (OD (.ref C) us) (EP X a σ Q) X.xe s:=by
 have i:=h (s.heap.objs.size+1) s.heap.objs.size (I.HA.fresh (OX _)) (I.HA.fresh (i5 _)) (ke (MG _));have c:=Inv.made (C:=C) I;have r2:Vals (V.ref (s.heap.objs.size+1)::(vs++g)) (ki (s.heap.objs.size+1)::(us++ds)):=.cons rfl (r.append n);have hl:(ki (s.heap.objs.size+1)::us++ds).length=ps.length:=by
  have e:=r2.length;rw[F.len _ _ _ _ i]at e;show e.symm
 show XA (wg (f:=f) I.JE M.makes M.init (beq_iff_eq.mp M.fn) (Qf (F.run _ X.stack _ _ ⟨ki (s.heap.objs.size+1)::us,[]⟩ (ki (s.heap.objs.size+1)::(us++ds)) _ _ E (l.make C us [])
  (c.C2.make C us []) (m _ (ki (s.heap.objs.size+1)::us) c.JE hl) r2 i) λr s' d=>?_))
 cases r with
 |error e=>show o a σ _ _ e s' c d
 |ok q =>
  cases q with
  |ret u =>
   have⟨v,H',t,rv,ev,y⟩:=c.after d;subst ev;show⟨rv,⟨V.ref (s.heap.objs.size+1),H',t,rfl,y⟩⟩
  |_=>show JQ d
def wo(M:Mk X.K C f)(F:dN X.prog X.w X.K X.mg X.base CX k f b ps sp)(c:cP (k+1) X.A)(d:Gl X x)(e:X.mg x=a5 (.ref C))(g:Binds X.K b ps ds)(i:Vals j ds)(l:Passes CX X E)
  (m:(x==("__debug__":Str))=cb:=by decide):PE X (.Call (.Name x p) [] [] pos) (Fg C sp j E Fe):=by
 intro a s σ H Q I h;show wk (eU I d e ?_ m);show PySem.W.callWith_K0 I.JE M.kp (wm (us:=[]) M F c g i l I .nil h)
end
section
end
structure dc(N P:List Str)(sc:L9):Prop where
 kind:sc.kind=.function
 co:sc.isCoroutine=cb
 gen:sc.isGenerator=cb
 nd:N.Nodup
 pre:N.take P.length=P
 par:∀x∈P,sc.names.lookup x=a5 .local\/sc.names.lookup x=a5 .cell
 Na:∀y∈sc.names,y.2≠.free
theorem mw{kindOf:Str->Option K9}:∀{a:List (Str×dV)}{m:Str->Option dV},(∀v,(x,v)∉a)->YK kindOf a m x=m x
 |[],_,_=>rfl
 |(n,v)::r,m,h=>by
  unfold YK;rw[mw λw b=>h w (i8 _ b)];split
  .have:x≠n:=by rintro rfl;show h v kj
   simp[this]
  .rfl
theorem mz{kindOf:Str->Option K9}:∀{a:List (Str×dV)}{m:Str->Option dV},(∀v,(x,v)∉a)->YL kindOf a m x=m x
 |[],_,_=>rfl
 |(n,v)::r,m,h=>by
  unfold YL;rw[mz λw b=>h w (i8 _ b)];split
  .rfl
  .have:x≠n:=by rintro rfl;show h v kj
   simp[this]
theorem mB{kindOf:Str->Option K9}:∀{P:List Str}{vs:List dV}{i:Nat}{m:Str->Option dV},P.Nodup->P[i]?=a5 x->vs[i]?=a5 v->kindOf x=a5 .local ->
  YK kindOf (P.zip vs) m x=a5 v
 |[],_,_,_,_,h,_,_=>by simp at h
 |_::_,[],_,_,_,_,h,_=>by simp at h
 |p::P,w::vs,0,m,c,a,b,hk=>by
  simp at a b;subst a;subst b;change YK kindOf ((p,w)::P.zip vs) m p=_;unfold YK;rw[mw λv d=>(nC.mp c).1 (QG d).1,ê hk];simp
 |p::P,w::vs,i+1,m,c,a,b,hk=>by
  change YK kindOf ((p,w)::P.zip vs) m x=_;unfold YK;show mB (i:=i) (nC.mp c).2 (by simpa using a) (by simpa using b) hk
theorem mC{kindOf:Str->Option K9}:∀{P:List Str}{vs:List dV}{i:Nat}{m:Str->Option dV},P.Nodup->P[i]?=a5 x->vs[i]?=a5 v->kindOf x≠a5 .local ->
  YL kindOf (P.zip vs) m x=a5 v
 |[],_,_,_,_,h,_,_=>by simp at h
 |_::_,[],_,_,_,_,h,_=>by simp at h
 |p::P,w::vs,0,m,c,a,b,hk=>by
  simp at a b;subst a;subst b;change YL kindOf ((p,w)::P.zip vs) m p=_;unfold YL;rw[mz λv d=>(nC.mp c).1 (QG d).1,ë hk];simp
 |p::P,w::vs,i+1,m,c,a,b,hk=>by
  change YL kindOf ((p,w)::P.zip vs) m x=_;unfold YL;show mC (i:=i) (nC.mp c).2 (by simpa using a) (by simpa using b) hk
abbrev start(N:List Str)(vs:List V):St:=vs.map a5++lg (N.length - vs.length) b6
abbrev nK(CX:M')(P:va)(w:w6)(K:PySem.W.Frag)(mg:Str->Option dV)(base:Kq)(N:List Str)(a:Str)(scope:L9)(f:gi)(b:dV)(A:Li)(outer:List Env)(s:gm)(H:Hp)(E:XK):Cx where
 prog:=P
 w:=w
 K:=K
 mg:=mg
 base:=base
 A:=A.deeper (RM a scope s.heap.objs.size f b)
 N:=N
 s₀:=s
 H₀:=H
 env:=RM a scope s.heap.objs.size f b
 outer:=outer
 stack:=RM a scope s.heap.objs.size f b::outer
 ex:=[]
 calm:=bD
 fn:=λ_=>bD
 pn:=[]
 xe:=λe s'=>gs (i4 P w) (A.deeper (RM a scope s.heap.objs.size f b)) (leaving (RM a scope s.heap.objs.size f b) e) (λ_ c=>CX outer H s E e c) (λd c=>CX outer H s E d c) s'
def pD{a:L9}(h:a.names.lookup x=a5 .cell):∃c,(Md n a.names []).lookup x=a5 c:=by
 have q:=PySem.W.cellsFrom_some a.names n [] (.inl h);show N2.mp q
def uH{K:PySem.W.Frag}
  (S:dc N ps scope) (D:A.handled=b6) (j:qR P w K mg base A outer s H) (hl:vs.length=ps.length) (r:Vals vs us)
  (x:InCallC s s.heap.objs.size (YK (RM g scope s.heap.objs.size f o).kindOf (ps.zip us) λ_=>b6) (Md (s.heap.objs.size+1) scope.names []) (YL (RM g scope s.heap.objs.size f o).kindOf (ps.zip us) λ_=>b6) s1) :
  Inv (nK CX P w K mg base N g scope f o A outer s H E) [] (start N vs) H s1:=by
 have I:ps.length<=N.length:=by have:=ï Jt S.pre;rw[pb]at this;lia
 have⟨m,J,rfl,hk⟩:=x.done;have t:∀b:gi,b∉(nK CX P w K mg base N g scope f o A outer s H E).ex:=λb z=>absurd (show b∈([]:List gi) from z) (by simp);show⟨⟨j.mod,S.kind,rfl,rfl,i5 _,λy z c m d=>?_,λy hy=>?_,λy c _ h=>?_,λ_=>D,Around.frames_deeper j.frames,.inr ⟨rfl,rfl⟩,λb z=>absurd z (t b),j.bs,j.LK,λb _ _=>t b,λb z=>absurd z (t b),j.ja,j.MD⟩,
  rfl,j.bare,Un.kept hk,⟨_,x.toInCall.ns,λi y v m d L=>?_⟩,λy c h=>⟨_,x.cell y c h⟩,j.HA.fresh (i5 _),λy c h=>?_,λp l=>absurd (show p∈([]:List (gi×Obj)) from l) (by simp),j.HA.kept hk,?_⟩
 .show name_of_addr x.apart (PySem.mem_of_lookup m) (PySem.mem_of_lookup d)
 .have hy:scope.names.lookup y=a5 .cell\/scope.names.lookup y=a5 .free:=hy;rcases hy with hy|hy
  .show pD hy
  .show absurd rfl (S.Na _ (PySem.mem_of_lookup hy))
 .show PF (x.above y c (PySem.mem_of_lookup h))
 .have hi:i<vs.length:=by
   unfold start at d;by_cases hi:i<vs.length
   .show hi
   .rw[mu (by simpa using hi)]at d;rw[Hf]at d;split at d<;>cases d
  have G:vs[i]?=a5 v:=by
   unfold start at d;rw[nc (by simpa using hi),pa]at d;cases e:vs[i]? with
   |none=>rw[e]at d;cases d
   |some a=>rw[e]at d;cases d;rfl
  have⟨u,B,rv⟩:=r.get G;have l:ps[i]?=a5 y:=by
   rw[<-S.pre,Oq ⋯];show m
  have C:ps.Nodup:=by rw[<-S.pre];show S.nd.sublist (Y1 _ _)
  show⟨u,rv,?_⟩;rcases S.par y (pd l) with k|k
  .show .inl ⟨k,mB C l B k⟩
  .have⟨c,e⟩:=pD (n:=s.heap.objs.size+1) k;show .inr ⟨.inl k,c,e,?_⟩;have q:=x.cell y c e;rw[mC C l B (by change scope.names.lookup y≠_;rw[k];decide)]at q;show q
 .show j.HA.fresh (PF (x.above y c (PySem.mem_of_lookup h)))
 .unfold start;change _=N.length;rw[j0,dr,P0];lia
def sI{K:PySem.W.Frag}{z kV g B d ct G:dV}
 (lk:K.lookup f=a5 ⟨G,od,.func (PySem.W.fnOf name a c body scope z kV g B L d ct),MH⟩) (O:PySem.W.codeIn K d a=bD) (S:dc N ps scope)
    (h:∀vs H Q E,sp vs H Q E->vs.length=ps.length)
    (T:∀(A:Li) (outer:List Env) (s:gm) (H:Hp) (vs:List V) (Q:VK) (E:XK),cP k (A.deeper (RM a scope s.heap.objs.size f d))->sp vs H Q E ->
      ∃t,Je (nK CX P w K mg base N a scope f d A outer s H E) body t/\t {nx:=λ_ H'=>Q .HD H',rt:=Q} (start N vs) H) :
    dN P w K mg base CX (k+1) f (PySem.W.fnOf name a c body scope z kV g B L d ct) ps sp:=by
  show⟨h,λA outer s H args us vs Q E m i Y r C=>?_⟩;have hl:=h _ _ _ _ C;have D:K.In s.heap:=i.mod.M4.keeps λb o e=>(i.bs b o e).1;have p:s.heap.NoLimit:=i.mod.nolimit.keeps λb o e=>(i.bs b o e).1;have ON:∀y∈ps.zip us,scope.names.lookup y.1=a5 .local\/(scope.names.lookup y.1=a5 .cell/\((Md (s.heap.objs.size+1) scope.names []).lookup y.1).isSome=bD):=λ⟨n,v⟩ hy=>by
    rcases S.par n (QG hy).1 with q|q
    . show .inl q
    . show .inr ⟨q,PySem.W.cellsFrom_some _ _ _ (.inl q)⟩
  show codeAny_call_function m.depth (D _ _ lk) rfl S.co S.gen rfl (PySem.W.codeRec_of D O) (Y _ _ _ _ ?_);show wpAny_newFunctionEnv_cells S.kind ON λenv he s1 x=>?_;subst he;show⟨p.keeps x.toInCall.keep,codeAny_func ?_⟩;have⟨t,ht,hq⟩:=T A outer s H vs Q E (m.deeper _) C;have I:Inv (nK CX P w K mg base N a scope f d A outer s H E) [] (start N vs) H s1:=uH S m.hd i hl r x;show td (ht [] s1 (start N vs) H _ I hq) (λfl s' hs=>?_) λe s' hs=>hs;have j:∀{l:St} {H':Hp} {v:V} {u:dV},Inv (nK CX P w K mg base N a scope f d A outer s H E) [] l H' s'->RelV v u->Q v H'->CE outer P w H s Q u s' :=
    λ{l H' v u} J rv q=>⟨v,H',J.os,J.bare,J.base,J.HA,rv,q⟩
  cases fl with
  | ret u =>
    have⟨v,l,H',J,rv,q⟩:=hs;show j J rv q
  | next =>
    have⟨l,H',J,q⟩:=hs;show j (v:=V.HD) (u:=r3) J rfl q
  | brk =>
    obtain⟨_,_,_,q⟩:=hs;show JQ q
  | cont =>
    obtain⟨_,_,_,q⟩:=hs;show JQ q
section
variable{X:Cx}{x:Str}{p pos:Pos}{e:nH}{es:List nH}{t:TA}{id T:String}{r:List V->Hp->VK->Prop}
abbrev VC(r:List V->Hp->VK->Prop)(t:TA):TE:=λσ H Q=>t σ H λvs a=>r vs a Q
def wq(b:gG X (.builtin id) r)(c:Gl X x)(d:X.mg x=b6)(f:La x=a5 (.builtin id))(g:PA X (e::es) t)(i:x≠"__name__":=by decide)(j:(x==("__debug__":Str))=cb:=by decide)
  (k:i7 (e::es) X.env=(cb,uk e X.env)::i7 es X.env:=by rfl) (l:(wh pos (i7 es X.env)).any (·.1)=cb:=by rfl):PE X (.Call (.Name x p) (e::es) [] pos) (VC r t):=by
 intro a s σ H Q I h;show wk (eV I c d f ?_ i j);show R3 (HE (g pos a s σ H _ I h) λus s1 ⟨vs,m,n,r1,o⟩=>b a s1 σ m vs us Q n r1 o) k l
end
end L2
namespace HT
open PySem PyProof.Rows
section
open PySem.SeqAt
open PySem.AutoSeq1 (wpAny_loadPart')
open PySem.MeetsSeq PySem.MeetsSeq2 PySem.MeetsSeq3
end
section
def zX(o:U' s.heap t vs.toArray)(p:U' s.heap b ws.toArray)(f:vs≠[])
  (q:ws=[]->Q (.ref t) s) (r:ws≠[]->Q (.ref s.heap.objs.size) {s with heap:=s.heap.push {cls:=.type "tuple",data:=.seq (vs++ws).toArray}})
  (hsz:vs.length+ws.length<=cK):gs (i4 prog w) A (O2 .Add (.ref t) (.ref b)) Q E s:=by
 obtain⟨⟨cls,dd,data,g⟩,ho,h,n,i⟩:=id o;obtain⟨⟨u,j,data2,k⟩,c,l,m,a⟩:=id p;simp only at h i l a;subst h i l a;have e:vs.toArray++ws.toArray=(vs++ws).toArray:=by simp
 by_cases d:ws=[]
 .show Vu ⟨_,ho,rfl⟩ ⟨_,c,rfl⟩ Wm Yy PySem.F.slot_tuple_add PySem.F.entry_tuple_add (PySem.F.args_tuple_add_2 _ _)
   (tuple_addW1 t b vs.toArray ws.toArray n m dd j g k (by simpa using f) (by simp[d])) ⟨ho,c,q d⟩
 .show Vu ⟨_,ho,rfl⟩ ⟨_,c,rfl⟩ Wm Yy PySem.F.slot_tuple_add PySem.F.entry_tuple_add (PySem.F.args_tuple_add_2 _ _)
   (tuple_addW2 t b vs.toArray ws.toArray n m dd j g k (by simpa using f) (by simpa using d) (by rw[hH,hH];show hsz)) ⟨ho,c,?_⟩
  rw[e];show r d
abbrev HM(n d:Nat):Option Int->Nat
 |none=>d
 |some v=>if v<0 then(v+(n:Int)).toNat else min v.toNat n
def sJ(n d k:Nat):HM n d (a5 (k:Int))=min k n:=by
 change(if (k:Int)<0 then((k:Int)+(n:Int)).toNat else min (k:Int).toNat n)=min k n;rw[ë ⋯,L3]
def C3(n d:Nat)(b:d<=n)(o:Option Int):HM n d o<=n:=by
 cases o with
 |none=>show b
 |some v =>
  change(if v<0 then(v+(n:Int)).toNat else min v.toNat n)<=n;by_cases a:v<0
  .rw[ê a];lia
  .rw[ë a];show Nat.min_le_right _ _
def sM(v:Int)(n d:Nat):(if v<0 then max (v+(n:Int)) 0 else min v (n:Int))=((HM n d (a5 v):Nat):Int):=by
 change(if v<0 then max (v+(n:Int)) 0 else min v (n:Int))=(((if v<0 then(v+(n:Int)).toNat else min v.toNat n):Nat):Int)
 by_cases a:v<0
 .simp only[ê a];lia
 .simp only[ë a];lia
def qS(lo hi:Option Int)(n:Nat):Qi lo hi 1 (n:Int)=(((HM n 0 lo:Nat):Int),((HM n n hi:Nat):Int)):=by
 have a:¬((1:Int)<0):=by lia
 unfold Qi;simp only[a,if_false];show V4 ?_ ?_
 .cases lo with
  |none=>rfl
  |some v=>show sM v n 0
 .cases hi with
  |none=>rfl
  |some v=>show sM v n n
def qT(i j:Nat):Nb (i:Int) (j:Int) 1=j - i:=by
 unfold Nb;have a:(1:Int)>0:=by lia
 simp only[a,if_true,Int.ediv_one];split<;>lia
def kD(p:Tc v o)(h:Q o s):gs (i4 prog w) A (Á v) Q E s:=by
 cases p with
 |none=>show å h
 |int i t=>show slicePart_int h
def eB{lo hi:Option Int}{n:Nat}(hs:s.heap.IsSliceOf e c d .none)(pl:Tc c lo)(f:Tc d hi)
  (h:Q (((HM n 0 lo:Nat):Int),1,HM n n hi - HM n 0 lo) s):gs (i4 prog w) A (SE (.ref e) (pure (n:Int))) Q E s:=by
 have⟨os,a,g,b⟩:=id hs;unfold SE Â;show b8 (b8 (H0 a b (x:=c) rfl (b8 (H0 a b (x:=d) rfl (b8 (H0 a b (x:=.none) rfl (fx ?_)))))));show b8 (å ?_);change gs _ _ (if ((1:Int)==0)=bD then _ else _) _ _ s;rw[ë (by decide)];show b8 (kD pl (b8 (kD f (b8 (fx ?_)))));change gs _ _ (match Qi lo hi 1 (n:Int) with|(lo,hi)=>pure (lo,(1:Int),Nb lo hi 1)) _ _ s;rw[qS lo hi n];change gs _ _ (pure (((HM n 0 lo:Nat):Int),(1:Int),Nb ((HM n 0 lo:Nat):Int) ((HM n n hi:Nat):Int) 1)) _ _ s;rw[qT];show fx h
def wt(xs:Array dV)(i k:Nat):((il k).filterMap λ(m:Nat)=>xs[((i:Int)+(m:Int) * 1).toNat]?).toArray=((xs.toList.drop i).take k).toArray:=by
 have e:(λ(m:Nat)=>xs[((i:Int)+(m:Int) * 1).toNat]?)=λm=>xs[i+m]?:=by
  funext m
  have:((i:Int)+(m:Int) * 1).toNat=i+m:=by lia
  rw[this]
 rw[e];have:=pick_run xs i k;rw[List.filterMap_map]at this;have a:((λx=>xs[x]?) ∘ λx=>i+x)=λm=>xs[i+m]?:=rfl;rw[a]at this;rw[this]
def ic{lo hi:Option Int}(b:U' s.heap t a)(hs:s.heap.IsSliceOf d e f .none)(pl:Tc e lo)(g:Tc f hi)
  (i:¬(HM a.size 0 lo=0/\HM a.size a.size hi=a.size))
  (h:Q (.ref s.heap.objs.size) {s with heap:=s.heap.push {cls:=.type "tuple",data:=.seq ((a.toList.drop (HM a.size 0 lo)).take (HM a.size a.size hi - HM a.size 0 lo)).toArray}})
  (hsz:a.size<=cK):gs (i4 prog w) A (Q7 (.ref t) (.ref d)) Q E s:=by
 have c:sizeOk (.seq ((a.toList.drop (HM a.size 0 lo)).take (HM a.size a.size hi - HM a.size 0 lo)).toArray):=by
  change((a.toList.drop (HM a.size 0 lo)).take (HM a.size a.size hi - HM a.size 0 lo)).toArray.size<=cK;rw[hH,pb,Rt,tr];lia
 have o:HM a.size a.size hi<=a.size:=C3 _ _ (i5 _) hi;have⟨os,j,k,p⟩:=id hs;have l:s.TypeIs (.ref d) "slice":=⟨os,j,k⟩
 unfold Q7
 try with_reducible show D' ?_
 first|show b8 (fx ?_)|skip
 show b8 (ZP b.typeIs (by decide) ?_);show b8 (H8 (name:=M7 "__getitem__") b.typeIs sL
  (x8 sL b.typeIs Zu ?_ (ZJ _ _)))
 change gs _ _ (SD (.ref t) >>= _) _ _ s;show b8 (tupleItemsOf_ b ?_);show b8 (R_ l ?_);rw[ê (by decide)];show b8 (eB hs pl g ?_);have n:¬((((HM a.size 0 lo:Nat):Int)==0&&(1:Int)==1&&(HM a.size a.size hi - HM a.size 0 lo)==a.size)=bD):=by
  intro q;rw[b7,b7]at q;have r:((HM a.size 0 lo:Nat):Int)=0:=É q.1.1;have u:HM a.size a.size hi - HM a.size 0 lo=a.size:=É q.2;show i ⟨⋯,⋯⟩
 change gs _ _ (if (((HM a.size 0 lo:Nat):Int)==0&&(1:Int)==1&&(HM a.size a.size hi - HM a.size 0 lo)==a.size)=bD then _ else _) _ _ s;rw[ë n,wt]
 first
  |show b8 (m:=Nm _) (z8 (fx ⟨_,rfl,fx h⟩) c)
  |show b8 (m:=Nm _) (z8 (b8 (fx (fx ⟨_,rfl,fx h⟩))) c)
  |show b8 (b8 (m:=Nm _) (z8 (fx (fx ⟨_,rfl,fx h⟩)) c))
  |show b8 (b8 (m:=Nm _) (z8 (fx ⟨_,rfl,fx h⟩) c))
end
end HT
namespace L2
open PySem PySem.Spec PyProof.Rows
@[reducible]def TO:=St->Hp->(Option Int->Hp->Prop)->Prop
abbrev PO(X:Cx)(e:Option nH)(t:TO):Prop :=
 ∀(a:List (gi×Obj)) (s:gm) (σ:St) (H:Hp) (Q:Option Int->Hp->Prop),Inv X a σ H s->t σ H Q ->
  gs (i4 X.prog X.w) X.A (evalPart e X.env) (λu s'=>∃o H',Inv X a σ H' s'/\Tc u o/\Q o H') X.xe s
abbrev zY:TO:=λ_ H Q=>Q b6 H
abbrev Fh(t:TE):TO:=λσ H Q=>t σ H λx a=>∃i,x=.int i/\Q (a5 i) a
section
variable{X:Cx}{e:nH}{te:TE}{lo hi:Option nH}{tl th:TO}{pos p2:Pos}
def zZ:PO X b6 zY:=by
 intro a s σ H Q I h;rw[evalPart_none];show fx ⟨b6,H,I,.none,h⟩
def z9(h:PE X e te):PO X (a5 e) (Fh te):=by
 intro a s σ H Q I b;rw[evalPart_some];show HE (h a s σ H _ I b) λu s1 c=>?_;have⟨x,d,f,r1,g⟩:=c;have⟨i,rfl,q⟩:=g;have⟨t,rfl⟩:=r1;show⟨a5 i,d,f,.int i t,q⟩
abbrev LP(X:Cx)(r:V->Option Int->Option Int->Hp->VK->Prop):Prop :=
 ∀(a:List (gi×Obj)) (s:gm) (σ:St) (H:Hp) (x:V) (v b c:dV) (lo hi:Option Int) (d:gi) (Q:VK),Inv X a σ H s->RelV x v->s.heap.IsSliceOf d b c .none->Tc b lo->Tc c hi->r x lo hi H Q ->
  ∃T id,XB (.type T) "__getitem__"=pure (a5 (.builtin id))/\s.TypeIs v T/\gs (i4 X.prog X.w) X.A (Q7 v (.ref d)) (EP X a σ Q) X.xe s
def LP.or(h:LP X r)(h':LP X i):LP X (λx lo hi H Q=>r x lo hi H Q\/i x lo hi H Q):=by
 intro a s σ H x v b c lo hi d Q I f hs pl g q;rcases q with q|q
 .show h a s σ H x v b c lo hi d Q I f hs pl g q
 .show h' a s σ H x v b c lo hi d Q I f hs pl g q
abbrev VD(r:V->Option Int->Option Int->Hp->VK->Prop)(te:TE)(tl th:TO):TE:=λσ H Q=>te σ H λx a=>tl σ a λl b=>th σ b λu c=>r x l u c Q
def wu(g:LP X r)(i:PE X e te)(hl:PO X lo tl)(j:PO X hi th):PE X (.Subscript e (.Slice lo hi b6 p2) pos) (VD r te tl th):=by
 intro a s σ H Q I h;show ZK (HE (i a s σ H _ I h) λv s1 k=>?_);have⟨x,m,n,r1,o⟩:=k;show wpAny_Slice (HE (hl a s1 σ m _ n o) λc s2 ⟨l,p,t,pl,y⟩=>HE (j a s2 σ p _ t y) λd s3 z=>?_);have⟨u,f,B,C,D⟩:=z;rw[evalPart_none];show fx ?_;have G:Inv X a σ f {s3 with heap:=s3.heap.push {cls:=.type "slice",data:=.fields #[c,d,.none]}}:=B.kept (t':=s3.toks) λb O q=>df _ q;have⟨T,id,J,L,N⟩:=g a {s3 with heap:=s3.heap.push {cls:=.type "slice",data:=.fields #[c,d,.none]}} σ f x v c d l u s3.heap.objs.size Q G r1 (ZZ ..) pl C D;change gs (i4 X.prog X.w) X.A (UR e (.Slice lo hi b6 p2) v (.ref s3.heap.objs.size)) (EP X a σ Q) X.xe {s3 with heap:=s3.heap.push {cls:=.type "slice",data:=.fields #[c,d,.none]}};show tail_any (ops:=[.ref s3.heap.objs.size,v]) L J N (by with_unfolding_all rfl)
abbrev pE(xs:List V)(lo hi:Option Int):List V:=(xs.drop (HT.HM xs.length 0 lo)).take (HT.HM xs.length xs.length hi - HT.HM xs.length 0 lo)
def jy(xs:List V)(lo hi:Option Int):(pE xs lo hi).length<=xs.length:=by
 unfold pE;rw[pb,Rt];lia
abbrev Fi(K:PySem.W.Frag):V->Option Int->Option Int->Hp->VK->Prop:=λx lo hi H Q=>∃a xs,x=.ref a/\Iq K H a xs /\
 ¬(HT.HM xs.length 0 lo=0/\HT.HM xs.length xs.length hi=xs.length)/\∀p,H p=b6->Q (.ref p) (upd H p (.tup (pE xs lo hi)))
def C4:LP X (Fi X.K):=by
 intro d s σ H x v m n lo hi p Q I g hs pl i h;have⟨a,xs,rfl,j,k,q⟩:=h;cases g;have⟨l,r,f,hz⟩:=I.tuple j;have c:l.toArray.size=xs.length:=by rw[hH];show r.length.symm
 show⟨"tuple",_,sL.lookup,f.typeIs,?_⟩;show HT.ic f hs pl i (by rw[c];show k) ?_ (by rw[c];show hz);rw[c];show⟨.ref s.heap.objs.size,_,I.laid (t':=s.toks) (o:=.tup (pE xs lo hi)) (λb t q=>df _ q) (i5 _) ?_,rfl,q _ (I.HA.fresh (i5 _))⟩;show⟨uv (jy xs lo hi) hz,_,(r.drop (HT.HM xs.length 0 lo)).take (HT.HM xs.length xs.length hi - HT.HM xs.length 0 lo),Wx _ _⟩
abbrev Fj(K:PySem.W.Frag):R2:=λx y H Q=>∃a b xs ys,x=.ref a/\y=.ref b/\Iq K H a xs/\Iq K H b ys/\xs≠[]/\xs.length+ys.length<=cK /\
 (ys=[]->Q (.ref a) H)/\(ys≠[]->∀p,H p=b6->Q (.ref p) (upd H p (.tup (xs++ys))))
def Vals.nL(r:Vals xs us):us=[]↔xs=[]:=by
 cases r with
 |_=>simp
def z_:JF X (O2 .Add) (Fj X.K):=by
 intro c s σ H x y v u Q I d f h;have⟨a,b,xs,ys,rfl,rfl,g,i,j,hz,k,l⟩:=h;cases d;cases f;obtain⟨n,r1,m,_⟩:=I.tuple g;obtain⟨p,r2,p2,_⟩:=I.tuple i;show HT.zX m p2 (λz=>j (r1.nL.mp z)) (λz=>⟨.ref a,H,I,rfl,k (r2.nL.mp z)⟩) (λz=>?_) (by rw[<-r1.length,<-r2.length];show hz);show⟨.ref s.heap.objs.size,_,I.laid (t':=s.toks) (o:=.tup (xs++ys)) (λb r q=>df _ q) (i5 _) ?_,rfl,l (λw=>z (r2.nL.mpr w)) _ (I.HA.fresh (i5 _))⟩;show⟨by rw[j0];show hz,_,r1.append r2,Wx _ _⟩
end
abbrev K4(n:Nat)(i:Int):Option Nat:=if 0<=i then(if i<n then a5 i.toNat else b6) else if -(n:Int)<=i then a5 (i+n).toNat else b6
abbrev Ic{α:Type}(xs:List α)(i:Int):Option α:=(K4 xs.length i).bind λj=>xs[j]?
def sN{n:Nat}(h:K4 n i=a5 j):Tx i n=a5 j/\j<n/\-(n:Int)<=i/\i<n:=by
 unfold K4 at h;by_cases b:0<=i
 .rw[ê b]at h;by_cases a:i<n
  .rw[ê a]at h;have e:i.toNat=j:=tj h;show⟨by rw[Zf b a,e],⋯,⋯,a⟩
  .rw[ë a]at h;cases h
 .rw[ë b]at h;by_cases a:-(n:Int)<=i
  .rw[ê a]at h;have e:(i+n).toNat=j:=tj h;show⟨by rw[seqIndex_neg ⋯ a,e],⋯,a,⋯⟩
  .rw[ë a]at h;cases h
def nM(h:Ic xs i=a5 v):∃j,Tx i xs.length=a5 j/\xs[j]?=a5 v/\j<xs.length/\-(xs.length:Int)<=i/\i<xs.length:=by
 unfold Ic at h;cases e:K4 xs.length i with
 |none=>rw[e]at h;cases h
 |some j =>
  rw[e]at h;have⟨a,b,c,d⟩:=sN e;show⟨j,a,h,b,c,d⟩
def cQ{j:Nat}(h:xs[j]?=a5 v):Ic xs (j:Int)=a5 v:=by
 have a:j<xs.length:=(dt.mp h).1;have e:K4 xs.length (j:Int)=a5 j:=by
  unfold K4;rw[ê ⋯,ê ⋯];simp
 unfold Ic;rw[e];show h
abbrev nN(b:nH):Prop:=∀o i,Ws b cb o i=operate [o,i] (Q7 o i)
abbrev RA(X:Cx)(r:R2):Prop :=
 ∀(c a:nH) (b:List (gi×Obj)) (s:gm) (σ:St) (H:Hp) (x y:V) (v u:dV) (Q:VK),Inv X b σ H s->RelV x v->RelV y u->r x y H Q ->
  Ws a cb v u=operate [v,u] (Q7 v u)->gs (i4 X.prog X.w) X.A (UR c a v u) (EP X b σ Q) X.xe s
abbrev N5(X:Cx)(id:String)(r:V->List V->Hp->VK->Prop):Prop :=
 ∀(a:List (gi×Obj)) (s:gm) (σ:St) (H:Hp) (x:V) (xs:List V) (v:dV) (us:List dV) (Q:VK),Inv X a σ H s->RelV x v->Vals xs us->r x xs H Q ->
  gs (i4 X.prog X.w) X.A (OD (.builtin id) (v::us)) (EP X a σ Q) X.xe s
section
abbrev G3(K:PySem.W.Frag):R2:=λx y H Q=>∃p xs i v,x=.ref p/\y=.int i/\Ip K H p xs/\Ic xs i=a5 v/\Q v H
abbrev G4(K:PySem.W.Frag):R2:=λx y H Q=>∃p xs i v,x=.ref p/\y=.int i/\Iq K H p xs/\Ic xs i=a5 v/\Q v H
abbrev G5:R2:=λx y H Q=>∃z i c,x=.str z/\y=.int i/\z.length<=cK/\Ic z.cps.toList i=a5 c/\Q (.str ⟨#[c]⟩) H
def Aa:RA X (G3 X.K):=by
 intro d f a s σ H x y v u Q I m n h hs;have⟨p,xs,i,z,rfl,rfl,A,B,q⟩:=h;cases m;have⟨t,rfl⟩:=n;have⟨C,r,pl,hz⟩:=I.list A;have⟨j,c,D,N,G,J⟩:=nM B;have⟨w,k,L⟩:=r.get D;have hl:=r.length;have O:=fz;have b:EP X a σ Q w s:=⟨z,H,I,L,q⟩
 by_cases l:0<=i
 .have g:i.toNat=j:=by
   rw[Zf l J]at c;show tj c
  show item_listR pl.isList l ⋯ (by rw[g];simpa using k) b hs
 .have g:(i+(C.toArray.size:Int)).toNat=j:=by
   rw[seqIndex_neg ⋯ G]at c;rw[hH,<-hl];show tj c
  show YY (x:=w) pl.isList.typeIs ZR.lookup
   (wpAny_getItem_list_neg (Q:=λr s'=>r=w/\EP X a σ Q r s') pl.isList ⋯ (by rw[hH]<;>lia) ⋯ (by rw[g];simpa using k) ⟨rfl,b⟩) hs
def nO:RA X (G4 X.K):=by
 intro b c a s σ H x y v u Q I f g h hs;have⟨p,xs,i,z,rfl,rfl,k,l,q⟩:=h;cases f;have⟨t,rfl⟩:=g;have⟨C,r,pl,hz⟩:=I.tuple k;have⟨j,m,n,D,G,J⟩:=nM l;have⟨w,A,B⟩:=r.get n;have hl:=r.length;have L:=fz;have d:EP X a σ Q w s:=⟨z,H,I,B,q⟩
 show YY (x:=w) pl.typeIs sL.lookup
  (getItem_tuple (j:=j) (Q:=λr s'=>r=w/\EP X a σ Q r s') pl ⋯ ⋯ (by rw[hH,<-hl];show m) (by simpa using A) ⟨rfl,d⟩) hs
def kF:RA X G5:=by
 intro a b d s σ H x y v u Q I g k h hs;have⟨z,i,c,rfl,rfl,hz,l,q⟩:=h;have⟨t,rfl⟩:=g;have⟨t',rfl⟩:=k;have⟨j,f,m,A,n,p⟩:=nM l;have hl:z.cps.toList.length=z.length:=by simp[RG]
 rw[hl]at f n p;have B:=fz;show tail_any (Ri s z t) Ä.lookup (getItem_str (c:=c) (by
  have e1:cL (i < -(2 ^ 63:Int))=cb:=ì ⋯;have w:cL (i >= 2 ^ 63)=cb:=ì ⋯;rw[e1,w,ZN]) (by rw[f];simpa using m) ⟨.str ⟨#[c]⟩,H,I.tok _,⟨_,rfl⟩,q⟩) hs
def qU(a:List dV)(n j:Nat)(u:dV):rl (·.setIfInBounds j u) {cls:=.type "list",data:=.seq a.toArray n}={cls:=.type "list",data:=.seq (a.set j u).toArray n}:=by
 simp[rl]
def Inv.lst(I:Inv X b σ H s)(h:H p=a5 (.lst xs)):
  ∃(a:List dV) (n:Nat),Vals xs a/\s.heap.get? p=a5 {cls:=.type "list",data:=.seq a.toArray n}/\xs.length<=cK:=by
 have⟨z,a,n,r,e⟩:=I.HA p _ h;show⟨a,n,r,e,z⟩
def Inv.C5{c its':List dV}(I:Inv X a σ H s)(h:H p=a5 (.lst xs))
  (ho:s.heap.get? p=a5 {cls:=.type "list",data:=.seq c.toArray n}) (d:f {cls:=.type "list",data:=.seq c.toArray n}={cls:=.type "list",data:=.seq its'.toArray g }) (r:Vals ys its') (hz:ys.length<=cK) (t:Nat) :
  Inv X a σ (upd H p (.lst ys)) {s with heap:=s.heap.update p f,toks:=t}:=by
 have e:(s.heap.update p f).get? p=a5 {cls:=.type "list",data:=.seq its'.toArray g }:=by
  rw[vr f ho (by rw[d]<;>rfl),d]
 show I.write (x:=p) (e:=p) (by rw[h];trivial) (.inl rfl) (λb u i q=>(M3 _ _ (ri i)).trans q) ⟨_,e⟩ ?_;show⟨hz,its',g,r,e⟩
abbrev Fm:V->V->V->Hp->(Hp->Prop)->Prop:=λo i v H Q=>∃p xs k j,o=.ref p/\i=.int k/\H p=a5 (.lst xs)/\K4 xs.length k=a5 j/\Q (upd H p (.lst (xs.set j v)))
def set_list:nB X Fm:=by
 intro a s σ H o i v z A u Q I w x rv h;have⟨p,xs,k,j,rfl,rfl,c,y,q⟩:=h;cases w;have⟨t,rfl⟩:=x;have⟨d,n,r,ho,hz⟩:=I.lst c;have⟨b,B,f,g⟩:=sN y;have hl:=r.length;have C:=fz;have l:Inv X a σ (upd H p (.lst (xs.set j v))) {s with heap:=s.heap.update p (rl (·.setIfInBounds j u))} :=
  I.C5 c ho (qU d n j u) (r.set rv j) (by rw[Zp];show hz) s.toks
 by_cases m:0<=k
 .have hk:k.toNat=j:=by
   rw[Zf m g]at b;show tj b
  show PySem.W.ki_setAt ho m ⋯ (by rw[hH,<-hl];show g) (by rw[hk];show⟨_,l,q⟩)
 .have hk:(k+(d.toArray.size:Int)).toNat=j:=by
   rw[seqIndex_neg ⋯ f]at b;rw[hH,<-hl];show tj b
  show PySem.W.ki_setBack ho ⋯ (by rw[hH,<-hl];show f) ⋯ (by rw[hk];show⟨_,l,q⟩)
def nP(lo hi:Option Int)(n:Nat):(QZ lo hi b6 n).1=((HT.HM n 0 lo:Nat):Int)/\(QZ lo hi b6 n).2.1=((HT.HM n n hi:Nat):Int)/\(QZ lo hi b6 n).2.2=1:=by
 show⟨?_,?_,rfl⟩
 .cases lo with
  |none=>simp[QZ,HT.HM]
  |some i =>
   simp only[QZ,HT.HM,YN,show(1:Int)>0 by decide,if_true];by_cases h:i<0
   .simp only[h,if_true]<;>lia
   .simp only[h,if_false]<;>lia
 .cases hi with
  |none=>simp[QZ,HT.HM]
  |some i =>
   simp only[QZ,HT.HM,YN,show(1:Int)>0 by decide,if_true];by_cases h:i<0
   .simp only[h,if_true]<;>lia
   .simp only[h,if_false]<;>lia
def lU(a:List dV)(lo hi:Option Int):slicePick a.toArray lo hi b6=((a.drop (HT.HM a.length 0 lo)).take (HT.HM a.length a.length hi - HT.HM a.length 0 lo)).toArray:=by
 have⟨b,c,d⟩:=nP lo hi a.toArray.size;unfold slicePick;rw[b,c,d];simp only[sliceRange_one,pick_run,hH]<;>rfl
abbrev Fo(K:PySem.W.Frag):V->Option Int->Option Int->Hp->VK->Prop:=λx lo hi H Q=>∃a xs,x=.ref a/\Ip K H a xs/\∀p,H p=b6->Q (.ref p) (upd H p (.lst (pE xs lo hi)))
def Ab:LP X (Fo X.K):=by
 intro d s σ H x v k l lo hi m Q I g hs pl i h;have⟨a,xs,rfl,j,q⟩:=h;cases g;have⟨n,r,f,hz⟩:=I.list j;have c:=r.length;show⟨"list",_,ZR.lookup,f.isList.typeIs,?_⟩;show wpAny_getItem_list_slice f.isList hs pl i .none (by simp) ?_ (by rw[hH]<;>lia);rw[lU,<-c];show⟨.ref s.heap.objs.size,_,I.laid (t':=s.toks) (o:=.lst (pE xs lo hi)) (λb p q=>df _ q) (i5 _) ?_,rfl,q _ (I.HA.fresh (i5 _))⟩;show⟨uv (jy xs lo hi) hz,_,0,(r.drop (HT.HM xs.length 0 lo)).take (HT.HM xs.length xs.length hi - HT.HM xs.length 0 lo),hW _ rfl⟩
def nQ:JF X (NG .NotIn) (λx y H Q=>∃i j,x=.str i/\y=.str j/\Q (.bl (!(!(tA j i 0 j.length 1).isEmpty))) H):=by
 intro a s σ H x y v u Q I b c h;have⟨i,j,rfl,rfl,q⟩:=h;have⟨t,rfl⟩:=b;have⟨t',rfl⟩:=c;show notIn_str ⟨.bl _,H,I,rfl,q⟩
def eX:gG X (.builtin "len") (λxs H Q=>∃p ys,xs=[.ref p]/\(Ip X.K H p ys\/Iq X.K H p ys)/\Q (.int ys.length) H):=by
 intro c s σ H xs us Q I r h;have⟨p,ys,rfl,hq,q⟩:=h;have⟨u,rfl,d⟩:=vals1 r;cases d;have g:=fz;rcases hq with hq|hq
 .have⟨f,b,pl,hz⟩:=I.list hq;have a:=b.length;show Calls.call_len_list pl.isList (by simp only[hH]<;>lia) ⟨.int ys.length,H,I.tok _,⟨s.toks+1,by rw[hH,a]⟩,q⟩
 .have⟨f,b,pl,hz⟩:=I.tuple hq;have a:=b.length;show Å pl (by simp only[hH]<;>lia) ⟨.int ys.length,H,I.tok _,⟨s.toks+1,by rw[hH,a]⟩,q⟩
def nR:gG X (.builtin "len") (λxs H Q=>∃z,xs=[.str z]/\z.length<=cK/\Q (.int z.length) H):=by
 intro a s σ H xs us Q I r h;have⟨z,rfl,hz,q⟩:=h;have⟨u,rfl,t,rfl⟩:=vals1 r;have b:=fz;show len_str ⋯ ⟨.int z.length,H,I.tok _,⟨_,rfl⟩,q⟩
def ie:gG X (.type "list") (λxs H Q=>∃p ys,xs=[.ref p]/\(Ip X.K H p ys\/Iq X.K H p ys)/\∀l,H l=b6->Q (.ref l) (upd H l (.lst ys))):=by
 intro f s σ H xs us Q I r h;have⟨p,ys,rfl,hq,q⟩:=h;have⟨u,rfl,v⟩:=vals1 r;cases v;have g:∀(a:List dV),Vals ys a->ys.length<=cK->∀(h':Kq) (c:Nat),(∀b o',s.heap.get? b=a5 o'->h'.get? b=a5 o') ->
   h'.get? s.heap.objs.size=a5 {cls:=.type "list",dict:=b6,data:=.seq a.toArray c,slots:=#[]}->EP X f σ Q (.ref s.heap.objs.size) {s with heap:=h' }:=λa d hz h' c i e =>
  ⟨.ref s.heap.objs.size,_,I.laid (t':=s.toks) i (i5 _) (show bE X.prog X.w _ h' _ (.lst ys) from⟨hz,a,c,d,e⟩),rfl,q _ (I.HA.fresh (i5 _))⟩
 rcases hq with hq|hq
 .have⟨a,d,pl,hz⟩:=I.list hq;have j:=d.length;have⟨o,ho,k,n,m⟩:=pl.isList;show call_list_seq p (.inl rfl) ho k m (λh' c i e=>g a d hz h' c i e) (by simp only[hH]<;>lia)
 .have⟨a,d,pl,hz⟩:=I.tuple hq;have j:=d.length;have⟨o,ho,k,n,m⟩:=pl;show call_list_seq p (.inr rfl) ho k m (λh' c i e=>g a d hz h' c i e) (by simp only[hH]<;>lia)
def gH:gG X (.type "tuple") (λxs H Q=>∃p ys,xs=[.ref p]/\((Ip X.K H p ys/\∀l,H l=b6->Q (.ref l) (upd H l (.tup ys)))\/(Iq X.K H p ys/\Q (.ref p) H))):=by
 intro a s σ H xs us Q I r h;have⟨p,ys,rfl,h⟩:=h;have⟨u,rfl,j⟩:=vals1 r;cases j;rcases h with⟨c,q⟩|⟨c,q⟩
 .have⟨d,f,pl,hz⟩:=I.list c;have g:=f.length;show call_tuple_list pl.isList (λh' k=>?_) (by simp only[hH]<;>lia);have i:Inv X a σ H {s with heap:=h' }:=I.kept (t':=s.toks) k;have m:Inv X a σ (upd H h'.objs.size (.tup ys)) {s with heap:=h'.push {cls:=.type "tuple",data:=.seq d.toArray}} :=
   i.laid (t':=s.toks) (λb o e=>df _ e) (i5 _) (show bE X.prog X.w _ _ _ (.tup ys) from⟨hz,d,f,Wx _ _⟩)
  show⟨.ref h'.objs.size,_,m,rfl,q _ (i.HA.fresh (i5 _))⟩
 .have⟨d,f,pl,hz⟩:=I.tuple c;show call_tuple_same pl ⟨.ref p,H,I,rfl,q⟩
abbrev Qg(K:PySem.W.Frag)(T:String)(x:V)(H:Hp):Prop:=match x with
 |.str _=>T="str"
 |.int _=>T="int"
 |.ref p=>(T="list"/\∃xs,Ip K H p xs)\/(T="tuple"/\∃o,K.lookup p=a5 o/\o.cls=.type "tuple"/\o.dict=b6) \/
   (T="dict"/\((∃kvs,H p=a5 (.dK kvs))\/∃kvs,H p=a5 (.dT kvs)))\/(T="set"/\∃S n,H p=a5 (.set S n))
 |_=>False
def nS(I:Inv X g σ H s)(r:RelV x v)(b:Qg X.K T x H):
  s.TypeIs v T/\∀a,v=.ref a->∃h,s.heap.get? a=a5 h/\h.dict=b6:=by
 cases x with
 |str z =>
  have⟨t,rfl⟩:=r;cases(show T="str" from b);show⟨Ri s z t,λ_ e=>nomatch e⟩
 |int i =>
  have⟨t,rfl⟩:=r;cases(show T="int" from b);show⟨typeIs_int s i t,λ_ e=>nomatch e⟩
 |ref p =>
  cases r;rcases b with⟨rfl,xs,j⟩|⟨rfl,o,hk,k,d⟩|⟨rfl,hk⟩|⟨rfl,S,n,hk⟩
  .obtain⟨l,_,pl,_⟩:=I.list j;show⟨pl.isList.typeIs,λa e=>?_⟩;cases e;obtain⟨o,n,e,c,d,_⟩:=pl;show⟨o,e,d⟩
  .show⟨⟨o,I.JE p o hk,k⟩,λa e=>?_⟩;cases e;show⟨o,I.JE _ o hk,d⟩
  .have z:∃o,s.heap.get? p=a5 o/\o.ExactDict:=by
    rcases hk with⟨kvs,hk⟩|⟨kvs,hk⟩
    .obtain⟨_,_,_,_,o,_,_,e,ex,_⟩:=I.HA p _ hk;show⟨o,e,ex⟩
    .obtain⟨_,_,_,_,o,_,_,e,ex,_⟩:=I.HA p _ hk;show⟨o,e,ex⟩
   have⟨o,e,ex⟩:=z;show⟨⟨o,e,ex.1⟩,λa f=>?_⟩;cases f;show⟨o,e,ex.2.1⟩
  .obtain⟨o,_,_,_,e,ex,_⟩:=I.HA p _ hk;show⟨⟨o,e,ex.1⟩,λa f=>?_⟩;cases f;show⟨o,e,ex.2.1⟩
 |_=>show JQ b
abbrev G6(K:PySem.W.Frag)(T:String)(r:V->List V->Hp->VK->Prop)(to:TE):TE:=λσ H Q=>to σ H λx a=>Qg K T x a/\r x [] a Q
abbrev T8(K:PySem.W.Frag)(T:String)(r:V->List V->Hp->VK->Prop)(to:TE)(t:TA):TE:=λσ H Q=>to σ H λx a=>Qg K T x a/\t σ a λxs b=>r x xs b Q
variable{o e:nH}{es:List nH}{to:TE}{t:TA}{name:Str}{apos G':Pos}{T id:String}{r:V->List V->Hp->VK->Prop}
def wx(c:PlainAttrs T)(slot:Z' T name id)(d:YP (.builtin id)=pure (.type "method_descriptor"))(f:N5 X id r)(ho:PE X o to)
  (g:NU o name X.env (uk o X.env)=uk o X.env:=by rfl) (i:(apos.endLine==G'.line)=bD:=by rfl):PE X (.Call (.Attribute o name apos) [] [] G') (G6 X.K T r to):=by
 intro a s σ H Q I h;show YI g i (HE (ho a s σ H _ I h) λv s1 j=>?_);have⟨x,k,b,r1,l,m⟩:=j;have⟨n,p⟩:=nS b r1 l;show⟨T,id,c,slot,d,n,p,Ks rfl (PySem.evalArgs_none (f a s1 σ k x [] v [] Q b r1 .nil m))⟩
def pF(d:PlainAttrs T)(slot:Z' T name id)(f:YP (.builtin id)=pure (.type "method_descriptor"))(g:N5 X id r)(ho:PE X o to)(i:PA X (e::es) t)
  (j:NU o name X.env (uk o X.env)=uk o X.env:=by rfl)
  (k:((wh G' (i7 (e::es) X.env)).all (λx=>!x.1)&&(M6 G' (Ig [] X.env)).all (λx=>x.1.isSome)
   && cL ((e::es).length+([]:List ME).length+(if ([]:List ME).isEmpty then 0 else 1)<30))=bD:=by rfl)
  (l:(apos.endLine==G'.line)=bD:=by rfl) (hs:i7 (e::es) X.env=(cb,uk e X.env)::i7 es X.env:=by rfl) (m:(wh G' (i7 es X.env)).any (·.1)=cb:=by rfl) :
  PE X (.Call (.Attribute o name apos) (e::es) [] G') (T8 X.K T r to t):=by
 intro a s σ H Q I h;show YO j k l rfl (HE (ho a s σ H _ I h) λv s1 n=>?_);have⟨x,p,b,r1,q,u⟩:=n;have⟨w,y⟩:=nS b r1 q;show⟨T,id,d,slot,f,w,y,?_⟩;have c:=i G' a s1 σ p _ b u;rw[hs]at c ⊢;show Ks (by change(cb||(wh G' (i7 es X.env)).any (·.1))=cb;rw[m]<;>rfl) (Lf ?_);show HE c λus s2 ⟨vs,z,A,r2,B⟩=>g a s2 σ z x vs v us Q A r1 r2 B
end
abbrev Qh(X:Cx)(id:String)(r:V->List V->Hp->VK->Prop):Prop :=
 ∀(a:List (gi×Obj)) (s:gm) (σ:St) (H:Hp) (x:V) (xs:List V) (v:dV) (us:List dV) (Q:VK),Inv X a σ H s->RelV x v->Vals xs us->r x xs H Q ->
  gs (i4 X.prog X.w) X.A (OD (.builtin id) (v::us)) (EP X a σ Q) X.xe s
theorem Vals.one:∀{x:V}{us:List dV},Vals [x] us->∃u,us=[u]/\RelV x u
 |_,_,.cons r .nil=>⟨_,rfl,r⟩
theorem Vals.zero:∀{us:List dV},Vals [] us->us=[]
 |_,.nil=>rfl
def Vals.dropLast(h:Vals xs us):Vals xs.dropLast us.dropLast:=by
 induction h with
 |nil=>show .nil
 |cons r t a =>
  cases t with
  |nil=>show .nil
  |cons q t'=>show .cons r a
theorem Vals.eraseIdx:∀{xs:List V}{us:List dV} (i:Nat),Vals xs us->Vals (xs.eraseIdx i) (us.eraseIdx i)
 |_,_,_,.nil=>.nil
 |_,_,0,.cons _ t=>t
 |_,_,i+1,.cons r t=>.cons r (Vals.eraseIdx i t)
def Vals.reverse(h:Vals xs us):Vals xs.reverse us.reverse:=by
 induction h with
 |nil=>show .nil
 |cons r t a=>rw[Q9,Q9];show Vals.append a (.cons r .nil)
def qV(l:List α):l.eraseIdx (l.length - 1)=l.dropLast:=by
 induction l with
 |nil=>rfl
 |cons a r c =>
  cases r with
  |nil=>rfl
  |cons b r =>
   have e:(a::b::r).length - 1=((b::r).length - 1)+1:=by
    have d:(a::b::r).length=r.length+2:=rfl;have f:(b::r).length=r.length+1:=rfl;lia
   rw[e,List.eraseIdx_cons_succ,c]
   all_goals rfl
theorem mD:∀(l:List α) (i:Nat),(l.eraseIdx i).length<=l.length
 |[],_=>i5 _
 |_::_,0=>OX _
 |_::r,i+1=>Nat.succ_le_succ (mD r i)
section
def Inv.ig{b its':List dV}(I:Inv X a σ H s)(c:H l=a5 (.lst xs))
  (e:s.heap.get? l=a5 {cls:=.type "list",data:=.seq b.toArray n}) (d:f b.toArray=its'.toArray) (g:Vals ys its') (hz:ys.length<=cK) :
  Inv X a σ (upd H l (.lst ys)) {s with heap:=s.heap.update l (rl f),toks:=t' }:=by
 have q:=PySem.IsL.update e f;rw[d]at q;show I.write (x:=l) (e:=l) (by rw[c];show trivial) (.inl rfl) (λj u h i=>(M3 s.heap (rl f) (ri h)).trans i) ⟨_,q⟩ ?_;show⟨hz,its',_,g,q⟩
def Inv.G7(I:Inv X a σ H s)(c:Vals ys b)(hz:ys.length<=cK):
  Inv X a σ (upd H s.heap.objs.size (.lst ys)) {s with heap:=s.heap.push {cls:=.type "list",data:=.seq b.toArray},toks:=t' } :=
 I.laid (λ_ _ q=>df _ q) (i5 _) ⟨hz,b,0,c,hW _ rfl⟩
def Inv.fresh(I:Inv X a σ H s):H s.heap.objs.size=b6:=I.HA.fresh (i5 _)
def Inv.Ac(I:Inv X b σ H s)(c:H l=a5 (.lst xs)):xs.length<=cK/\∃(a:List dV) (n:Nat),Vals xs a/\xs.length=a.length/\s.heap.get? l=a5 {cls:=.type "list",data:=.seq a.toArray n}:=by
 have⟨z,a,n,r,e⟩:=I.HA l _ c;show⟨z,a,n,r,r.length,e⟩
def wy(h:n<=cK):Jr n=cb:=by
 unfold Jr;show ì ⋯
end
section
abbrev Ad:V->List V->Hp->VK->Prop:=λx vs H Q=>∃l xs y,x=.ref l/\vs=[y]/\H l=a5 (.lst xs)/\xs.length<cK/\Q .HD (upd H l (.lst (xs++[y])))
def jc:Qh X "list.append" Ad:=by
 intro a s σ H x vs v us Q I d rv h;have⟨l,xs,y,rfl,rfl,b,hz,q⟩:=h;cases d;have⟨u,rfl,f⟩:=rv.one;have⟨z,c,n,r,hl,e⟩:=I.Ac b;show Po F.slot_list_append ⟨_,e,rfl⟩ F.entry_list_append (F.args_list_append_2 _ _) (PySem.list_append l c.toArray n u (by rw[hH];lia)) ⟨e,?_⟩;show⟨.HD,_,I.ig (its':=c++[u]) b e (by simp) (r.append (.cons f .nil)) ?_,rfl,q⟩;rw[j0,Lc];lia
abbrev G8:V->List V->Hp->VK->Prop:=λx vs H Q=>∃l xs y,x=.ref l/\vs=[]/\H l=a5 (.lst xs)/\xs[xs.length - 1]?=a5 y/\Q y (upd H l (.lst xs.dropLast))
def wz:Qh X "list.pop" G8:=by
 intro b s σ H x vs v us Q I d rv h;have⟨l,xs,y,rfl,rfl,c,f,q⟩:=h;cases d;have g:=rv.zero;subst g;have⟨z,a,n,r,hl,e⟩:=I.Ac c;have⟨u,i,j⟩:=r.get f;have k:a.toArray[a.toArray.size - 1]?=a5 u:=by
  change a.toArray[a.length - 1]?=a5 u;rw[<-PR,<-hl];show i
 show Po Z0 ⟨_,e,rfl⟩ ZH (F.args_list_pop_1 _) (MeetsSeq.list_pop_last l a.toArray n u k (by rw[hH];lia)) ⟨e,?_⟩;show⟨y,_,I.ig (its':=a.dropLast) c e ?_ r.dropLast ?_,j,q⟩
 .change a.toArray.eraseIdxIfInBounds (a.toArray.size - 1)=a.dropLast.toArray;rw[hH,Ur,qV]
 .rw[List.length_dropLast];lia
abbrev C6:V->List V->Hp->VK->Prop:=λx vs H Q=>∃l xs i k y,x=.ref l/\vs=[.int i]/\H l=a5 (.lst xs)/\-(2 ^ 63)<=i/\i<2 ^ 63/\Tx i xs.length=a5 k/\xs[k]?=a5 y/\Q y (upd H l (.lst (xs.eraseIdx k)))
def wA:Qh X "list.pop" C6:=by
 intro b s σ H x vs v us Q I d rv h;have⟨l,xs,i,k,y,rfl,rfl,c,f,g,hk,j,q⟩:=h;cases d;have⟨u,rfl,m⟩:=rv.one;have⟨t,rfl⟩:=m;have⟨z,a,n,r,hl,e⟩:=I.Ac c;have⟨w,o,p⟩:=r.get j;show Po Z0 ⟨_,e,rfl⟩ ZH (F.args_list_pop_2 _ _)
  (MeetsSeq.list_pop_at l a.toArray n i t k w (fitsIndex_both f g) (by rw[hH,<-hl];show hk) (by rw[<-PR];show o) (by rw[hH];lia)) ⟨e,?_⟩
 show⟨y,_,I.ig (its':=a.eraseIdx k) c e ?_ (r.eraseIdx k) ?_,p,q⟩
 .change a.toArray.eraseIdxIfInBounds k=(a.eraseIdx k).toArray;rw[Ur]
 .have:=mD xs k;lia
end
section
set_option maxRecDepth 100000 in
end
section
end
end L2
namespace T9
open PySem PySem.W PySem.Calls PyProof.Rows
def jW:∀(ns:List Int) (vs:List dV),WellAll P h vs (ns.map Ì)->Y0 vs ns:=by
 intro ns;induction ns with
 |nil =>
  intro vs w;rw[LL]at w;cases w;show .nil
 |cons n ns c =>
  intro vs w;rw[g8]at w;cases w with
  |cons a b =>
   cases a;show .cons _ _ (c _ b)
def uI{l:OpenLaw}(j:l.most=a5 n)
  (g:l.row.toRowW.claim.pre args=bD) (k:WellAll P h b args) :
  ∃a vs ns,b=[ki a]/\args=[WData.list (ns.map Ì)]/\h.get? a=a5 {cls:=.type "list",data:=.seq vs.toArray}/\Y0 vs ns/\ns.length<=n:=by
 have m:WShape.hasAll [] args [.list .int]=bD:=(pre_splitW g).1;have i:l.pre.holds [] {args:=args}=bD:=(pre_splitW g).2;have⟨d,r,rfl,o,p⟩:=hasAllW_cons m;obtain rfl:=hasAllW_nil p;have⟨xs,rfl,s⟩:=hasW_list o;have⟨ns,rfl⟩:=items_int s;have c:ns.length<=n:=by
  unfold OpenLaw.pre at i;have e:(WTm.not (.lt (.lit (.int (n:Int))) (.len (.arg 0)))).holds [] {args:=[.list (ns.map .int)]}=bD:=by
   have e:=(holds_andW i).1;rw[j]at e;show e
  have f:=condW_of e (w_not (w_lt w_lit (w_len_list (w_arg rfl))));rw[dr]at f;show Nat.le_of_not_lt λq=>?_;have t:(n:Int)<((ns.length:Nat):Int):=by lia
  first
   |(rw[í t]at f;show absurd f (by decide))
   |(simp at f;lia)
 cases k with
 |cons u v =>
  cases v;cases u with
  |list ho w=>show⟨_,_,ns,rfl,rfl,ho,jW ns _ w,c⟩
def uJ(l:OpenLaw)(args:List WData):l.row.toRowW.claim.post args (.bool bD) args=bD :=
 postW_of (r:=l.row.toRowW) (X:=(bD==bD))
  (show ZU [] (.bool bD) .bool=bD by first|rfl|decide|simp[ZU,WShape.arms,WShape.armsAll])
  (show(WTm.eq .res (.lit (.bool bD))).value [] {args:=args,res:=a5 (.bool bD),after:=args}=a5 (.bool (bD==bD)) from w_eq_bool (w_res rfl) w_lit) rfl
def pG{l:OpenLaw}
  (s:l.most=a5 n) (t:d.params.defaults=[])
  (OD:∀(w:w6) (s₀ b:gm) (mg j:Str->Option dV) (fa:gi) (o:Obj) (k i c:dV) (a:gi) (vs:List dV) (ns:List Int),
   Ground q e [] u w s₀ mg j b.heap->v w b.heap ->
   b.heap.get? fa=a5 o->o.data=.func (docDef d.name d.params d.body d.scope k i c)->b.heap.CodeRec i d.name->mg d.name=a5 (.ref fa) ->
   b.heap.get? a=a5 {cls:=.type "list",data:=.seq vs.toArray}->Y0 vs ns->ns.length<=n->b.gens=#[] ->
   Oz (i4 l.prog w) Sh (.call (.ref fa) ⟨[.ref a],[]⟩) (λr s'=>r=.ok (.ret (.bool bD))/\OldK b.heap s'.heap/\s'.os=b.os/\RB s'.gens) b) :
  WalkO q e u v l.row.toRowW d [] (λf vs=>PySem.call f vs):=by
 intro w s₀ b mg j G Y fa o k i c x kV ho y z m A B args p as C Q T D X7;obtain rfl:x=.none:=Dflts.none m t;obtain rfl:kV=.none:=Dflts.noKw m;have⟨a,vs,ns,rfl,rfl,H,g,h⟩:=uI s C D;show enter_call (Qf (OD w s₀ b mg j fa o k i c a vs ns G Y ho (fd_plain y) z A H g h B) λr s' I=>?_);have⟨rfl,J,L,N⟩:=I;show⟨.inl ⟨.bool bD,.bool bD,[],rfl,λ_=>rfl,.bool bD,uJ l _,λ_=>⟨È,λ_ O=>(nomatch O)⟩⟩,J,L,N⟩
section
end
end T9
namespace L2
open PySem PySem.Spec PyProof.Rows
theorem mE:∀{vs:List dV}{ns:List Int},Y0 vs ns->Vals (ns.map V.int) vs
 |_,_,.nil=>.nil
 |_,_,.cons n t h=>.cons ⟨t,rfl⟩ (mE h)
abbrev C7(H:Hp):Prop:=∀b,H b=b6\/∃o xs,H b=a5 (.Ko o (.lst xs))
def wB{K:PySem.W.Frag}
  (y:K.In c.heap) (A:c.heap.Ns mN mg) (f:c.heap.Ns ZD B) (L:∀x:Str,x≠"__name__"->B x=La x) (N:c.heap.NoLimit) (O:c.gens=#[])
  (l:c.heap.get? a=a5 {cls:=.type "list",data:=.seq vs.toArray}) (hi:Y0 vs ns) (hl:ns.length<=cK) (Q:cP k Sh)
  (F:∀base:Kq,K.In base->base.Ns mN mg->dN P w K mg base CX k fa T [x] sp) (Y:∀(s:gm) (u:dV),YX s T ⟨[u],[]⟩ [(x,u)])
  (Jm:∀H:Hp,C7 H->Ip K H a (ns.map V.int)->sp [.ref a] H (λv _=>v=.bl bD) λ_ _ _=>False)
  (RH:∀H e s',CX [] H c (λ_ _ _=>False) e s'->False) :
  Oz (i4 P w) Sh (.call (.ref fa) ⟨[.ref a],[]⟩) (λr s'=>r=.ok (.ret (.bool bD))/\OldK c.heap s'.heap/\s'.os=c.os/\RB s'.gens) c:=by
 have rv:=mE hi;have RJ:=hi.length;have g:∀H:Hp,C7 H->Ip K H a (ns.map V.int)->IS P w H c.heap->(∀b,H b≠b6->b=a)->(H a≠b6->K.lookup a=b6) ->
   Oz (i4 P w) Sh (.call (.ref fa) ⟨[.ref a],[]⟩) (λr s'=>r=.ok (.ret (.bool bD))/\OldK c.heap s'.heap/\s'.os=c.os/\RB s'.gens) c:=by
  intro H C hS D G hK;have j9:∀{b:gi} {o:Obj},c.heap.get? b=a5 o->H b=b6->(ny c.heap H).get? b=a5 o:=λe n=>vW e n;have OM:∀{b:gi} {o:Obj} {es:Array DictEntry} {ep:Nat},c.heap.get? b=a5 o->o.data=.dict es ep->H b=b6:=λ{b o es ep} e d=>by
   cases q:H b with
   |none=>rfl
   |some u =>
    have t:b=a:=G b (by rw[q];simp);subst t;rw[l]at e;cases e;have d':Data.seq vs.toArray _=Data.dict es ep:=d;cases d'
  have p:∀{b:gi} {m:Str->Option dV},c.heap.Ns b m->(ny c.heap H).Ns b m:=λ{b m} ⟨o,es,ep,e,d,r⟩=>⟨o,es,ep,j9 e (OM e d),d,r⟩
  have I:K.In (ny c.heap H):=λb o e=>j9 (y b o e) (by
   cases q:H b with
   |none=>rfl
   |some u =>
    have t:b=a:=G b (by rw[q];simp);subst t;rw[hK (by rw[q];simp)]at e;cases e)
  have hM:Mod K mg (ny c.heap H):=⟨I,p A,⟨B,p f,L⟩,let ⟨mc,h1,h2⟩:=N;⟨mc,p h1,h2⟩⟩
  have e0:qR P w K mg (ny c.heap H) Sh [] c H:=⟨rfl,hM,λb o e=>zN e,Uq (uu _ _),trivial,λb f=>absurd (show b∈([]:List gi) from f) (by simp),D,.of_eq O⟩
  show Qf ((F _ I (p A)).run Sh [] c H ⟨[.ref a],[]⟩ [.ref a] [.ref a] _ _ Q e0 (Y c (.ref a)) (.cons rfl .nil) (Jm H C hS)) λr s' h=>?_;cases r with
  |error e=>show(RH H e s' h).elim
  |ok fl =>
   cases fl with
   |ret u =>
    have⟨v,H',os,i,J,RK,r',q⟩:=h;have q':v=.bl bD:=q;subst q';obtain rfl:u=PY bD:=r';show⟨rfl,OldK.of_keep λb o e=>?_,os,i⟩;cases q:H b with
    |none=>show J.keep b o e q (by intro z;show absurd (show b∈([]:List gi) from z) (by simp)) (by simp)
    |some u =>
     rcases C b with z|⟨ob,xs,z⟩
     .rw[q]at z;cases z
     .have z2:=J.I0 b ob _ z;obtain⟨e1,_⟩:=D b _ z;obtain⟨e2,_⟩:=RK b _ z2;rw[e]at e1;cases e1;show e2
   |_=>show JQ h
 cases hk:K.lookup a with
 |some o =>
  have e:=y a o hk;rw[l]at e;cases e;show g (λ_=>b6) (λ_=>.inl rfl) (.inr ⟨_,vs.toArray,_,hk,rfl,rfl,rfl,by rw[hH,RJ];show hl,by simpa using rv⟩) (λb u z=>by have j:(b6:Option HO)=a5 u:=z;cases j) (λb z=>absurd rfl z) λz=>absurd rfl z
 |none =>
  show g (λb=>if b=a then a5 (.Ko {cls:=.type "list",data:=.seq vs.toArray} (.lst (ns.map V.int))) else b6) (λb=>?_) (.inl (.inr ⟨{cls:=.type "list",data:=.seq vs.toArray},ê rfl⟩)) (λb u z=>?_) (λb z=>?_) λ_=>hk
  .by_cases f:b=a
   .show .inr ⟨_,_,ê f⟩
   .show .inl (ë f)
  .by_cases f:b=a
   .have j:=(ê f).symm.trans z;cases j;subst f;show⟨l,by rw[dr];show hl,vs,_,rv,l⟩
   .have j:=(ë f).symm.trans z;cases j
  .by_cases f:b=a
   .show f
   .show absurd (ë f) z
def Ae{l:PySem.W.OpenLaw}{K:Tb->PySem.W.Frag}{CX:w6->M'}{sp:w6->Sp}
  (r:l.most=a5 n) (t:n<=cK) (y:d.params.defaults=[]) (z:cP k Sh)
  (A:∀(w:w6) (h:Kq),B w h->(K w.params).In h)
  (F:∀(w:w6) (mg:Str->Option dV) (fa:gi) (h:Kq),(K w.params).In h->h.Ns mN mg->mg d.name=a5 (.ref fa) ->
   ∃j:Q0,(∀(s:gm) (u:dV),YX s j ⟨[u],[]⟩ [(x,u)]) /\
    ∀base:Kq,(K w.params).In base->base.Ns mN mg->dN l.prog w (K w.params) mg base (CX w) k fa j [x] (sp w))
  (C:∀(w:w6) (H:Hp) (a:gi) (ns:List Int),ns.length<=n->C7 H->Ip (K w.params) H a (ns.map V.int)->sp w [.ref a] H (λv _=>v=.bl bD) λ_ _ _=>False)
  (D:∀(w:w6) (H:Hp) (s:gm) (e:dV) (s':gm),CX w [] H s (λ_ _ _=>False) e s'->False) :
  PySem.W.WalkO q m XP B l.row.toRowW d [] (λf vs=>PySem.call f vs):=by
 show T9.pG r y λw s₀ I mg mb fa o pm cd J a vs ns G Y ho hd HN L N i c O=>?_;have p:=A w _ Y;have⟨j,Q,hF⟩:=F w mg fa _ p G.T.g L;show wB p G.T.g G.T.b G.T.builtins G.T.nolimit O N i (uv c t) z hF Q (λH hO hS=>C w H a ns c hO hS) λH e s'=>D w H I e s'
abbrev fY(s:Le):Arguments:=match s with
 |.FunctionDef _ a _ _ _ _ _ _ _ _=>a
 |_=>{posonlyargs:=[],args:=[],vararg:=b6,kwonlyargs:=[],kw_defaults:=[],kwarg:=b6,defaults:=[]}
abbrev bW(s:Le):List Le:=match s with
 |.FunctionDef _ _ b _ _ _ _ _ _ _=>b
 |_=>[]
abbrev ax(s:Le):L9:=match s with
 |.FunctionDef _ _ _ _ _ _ a _ _ _=>a
 |_=>{kind:=.function,names:=[],isGenerator:=cb,isCoroutine:=cb}
@[reducible]def N7:M':=λ_ _ _ _ _ _=>False
@[reducible]def E0:XK:=λ_ _ _=>False
def Fp:Passes N7 X E0:=λ_ _ _ _ _ _ _ h=>h.elim
structure LQ(K:PySem.W.Frag)(x qual:Str)(st:Le)(f:gi)(fd:Q0):Prop where
 ex:∃(oc:dV) (od:Option gi) (kV doc pm:dV) (an:Option gi) (IL ct:dV) (MH:Array (Option dV)),
  fd=PySem.W.fnOf x qual (fY st) (bW st) (ax st) .none kV doc pm an IL ct/\K.lookup f=a5 ⟨oc,od,.func fd,MH⟩/\PySem.W.codeIn K IL qual=bD
 kp:PySem.W.keepIn K (.ref f)=bD
section
variable{P:va}{w:w6}{K:PySem.W.Frag}{mg:Str->Option dV}{base:Kq}
def LQ.ok{st:Le}(F:LQ K x a st f d)(S:dc N ps (ax st))(c:∀vs H Q E,sp vs H Q E->vs.length=ps.length)
  (e:∀(b:dV) (A:Li) (outer:List Env) (s:gm) (H:Hp) (vs:List V) (Q:VK) (E:XK),cP k (A.deeper (RM a (ax st) s.heap.objs.size f b))->sp vs H Q E ->
   ∃t,Je (nK N7 P w K mg base N a (ax st) f b A outer s H E).OH (bW st) t/\t {nx:=λ_ H'=>Q .HD H',rt:=Q} (start N vs) H):dN P w K mg base N7 (k+1) f d ps sp:=by
 have⟨m,n,kV,g,o,p,b,ct,r,rfl,lk,i⟩:=F.ex;show sI lk i S c λA outer s H vs Q E j l=>?_;have⟨t,h,q⟩:=e b A outer s H vs Q E j l;show⟨t,h.OH,q⟩
def C8{st:Le}{kV b e d ct:dV}(l:K.lookup f=a5 ⟨h,i,.func (PySem.W.fnOf x a (fY st) (bW st) (ax st) .none kV b e g d ct),j⟩)
  (c:PySem.W.codeIn K d a=bD) (k:PySem.W.keepIn K (.ref f)=bD):LQ K x a st f (PySem.W.fnOf x a (fY st) (bW st) (ax st) .none kV b e g d ct):=⟨⟨h,i,kV,b,e,g,d,ct,j,rfl,l,c⟩,k⟩
end
section
end
abbrev qW(H H':Hp):Prop:=∀b o,H b=a5 o->H' b=a5 o
section
variable{κ:Type}[DecidableEq κ]
abbrev dE(kvs:List (κ×V))(k:κ):Option V:=(kvs.find? λkv=>cL (kv.1=k)).map (·.2)
abbrev putK(kvs:List (κ×V))(k:κ)(v:V):List (κ×V) :=
 if (kvs.any λkv=>cL (kv.1=k))=bD then kvs.map (λkv=>if kv.1=k then(kv.1,v) else kv) else kvs++[(k,v)]
def eC{p:κ×V}{k:κ}(e:p.1=k):dE (p::r) k=a5 p.2:=by simp[dE,Nd,e]
def eD{p:κ×V}{k:κ}(e:¬p.1=k):dE (p::r) k=dE r k:=by simp[dE,Nd,e]
theorem ij(k:κ):∀kvs:List (κ×V),(kvs.any λkv=>cL (kv.1=k))=(dE kvs k).isSome
 |[]=>rfl
 |p::r=>by
  rw[SI];by_cases e:p.1=k
  .simp only[eC e,í e,Bool.true_or,X8]
  .rw[eD e,ì e,Bool.false_or];show ij k r
def jz(kvs:List (κ×V))(k:κ)(v:V):(putK kvs k v).length<=kvs.length+1:=by
 unfold putK;split
 .rw[dr];lia
 .rw[j0,k9,Vo];lia
def wC{k:κ}(v:V)(h:dE kvs k=b6):putK kvs k v=kvs++[(k,v)]:=by
 unfold putK;rw[ij,h];show ë (by decide)
def ft.eE(r:ft o u):o.isSome=u.isSome:=by
 cases o with
 |none=>cases u with
  |none=>rfl
  |some _=>show(show False from r).elim
 |some _=>cases u with
  |none=>show(show False from r).elim
  |some _=>rfl
def ft.getD(r:ft o u)(a:RelV d d'):RelV (o.getD d) (u.getD d'):=by
 cases o with
 |none=>cases u with
  |none=>show a
  |some _=>show(show False from r).elim
 |some _=>cases u with
  |none=>show(show False from r).elim
  |some _=>show r
def KV.val(r:KV kvs vs)(k:κ):ft (dE kvs k) (Vs vs k):=by
 unfold KV at r;induction r with
 |nil=>show Ry
 |@cons p q ps a h t f =>
  have⟨d,g⟩:=h;by_cases e:p.1=k
  .have c:q.1=k:=d.symm.trans e;have b:Vs (q::a) k=a5 q.2:=by simp[Vs,Nd,c]
   rw[eC e,b];show g
  .have c:¬q.1=k:=λz=>e (d.trans z);have b:Vs (q::a) k=Vs a k:=by simp[Vs,Nd,c]
   rw[eD e,b];show f
def KV.any(r:KV kvs vs)(k:κ):(kvs.any λkv=>cL (kv.1=k))=vs.any λkv=>cL (kv.1=k):=by
 unfold KV at r;induction r with
 |nil=>rfl
 |cons h t a=>rw[SI,SI,a,h.1]
def KV.C9(r:KV kvs vs)(k:κ)(b:RelV y u):
  KV (kvs.map λkv=>if kv.1=k then(kv.1,y) else kv) (vs.map λkv=>if kv.1=k then(kv.1,u) else kv):=by
 unfold KV at r ⊢;induction r with
 |nil=>show .nil
 |@cons p q ps f h t c =>
  rw[g8,g8];show .cons ?_ c;have⟨a,d⟩:=h;by_cases e:p.1=k
  .rw[ê e,ê (a.symm.trans e)];show⟨a,b⟩
  .rw[ë e,ë (λz=>e (a.trans z))];show⟨a,d⟩
def KV.put(r:KV kvs vs)(k:κ)(a:RelV y u):KV (putK kvs k y) (stored vs k u):=by
 unfold putK stored;rw[r.any k];by_cases e:(vs.any λkv=>cL (kv.1=k))=bD
 .rw[ê e,ê e];show r.C9 k a
 .rw[ë e,ë e];show Paired.snoc r ⟨rfl,a⟩
def KV.length(r:KV kvs vs):kvs.length=vs.length:=Paired.length r
end
def mF(r:RelV (kV k) u):(aY P w).is k u=bD:=by
 cases k with
 |inl i=>have⟨t,e⟩:=(show ∃t,u=Wt i t from r);subst e;show pw P w i t
 |inr x=>have⟨t,e⟩:=(show ∃t,u=Iv x t from r);subst e;show pz P w x t
theorem mG:∀{ks:List Key}{us:List dV},Vals (ks.map kV) us->ItemsAre (aY P w) ks us
 |[],_,r=>by rw[LL]at r;cases r;show .nil
 |k::ks,_,r=>by
  rw[g8]at r;cases r with
  |cons h t=>show .cons (mF h) (mG t)
@[reducible]def KT(H:Hp):List (List Key×V)->List (List Key×gi×dV)->Prop:=Paired λp q=>p.1=q.1/\H q.2.1=a5 (.tup (p.1.map kV))/\RelV p.2 q.2.2
def KT.val(r:KT H kvs xs)(k:List Key):ft (dE kvs k) ((XF xs k).map (·.2)):=by
 induction r with
 |nil=>show Ry
 |@cons p q ps a h t f =>
  obtain⟨d,_,g⟩:=h;by_cases e:p.1=k
  .have c:q.1=k:=d.symm.trans e;have b:XF (q::a) k=a5 q.2:=by simp[XF,Nd,c]
   rw[eC e,b];show g
  .have c:¬q.1=k:=λz=>e (d.trans z);have b:XF (q::a) k=XF a k:=by simp[XF,Nd,c]
   rw[eD e,b];show f
def KT.C9(r:KT H kvs xs)(k:List Key)(c:RelV y u):
  KT H (kvs.map λkv=>if kv.1=k then(kv.1,y) else kv) (xs.map (putAt k u)):=by
 induction r with
 |nil=>show .nil
 |@cons p q ps g h t d =>
  rw[g8,g8];show .cons ?_ d;have⟨a,b,f⟩:=h;unfold putAt;by_cases e:p.1=k
  .rw[ê e,ê (a.symm.trans e)];show⟨a,b,c⟩
  .rw[ë e,ë (λz=>e (a.trans z))];show⟨a,b,f⟩
def KT.put(r:KT H kvs xs)(k:List Key)(c:H b=a5 (.tup (k.map kV)))(a:RelV y u):
  KT H (putK kvs k y) (storedH xs k b u):=by
 have e:(kvs.any λkv=>cL (kv.1=k))=(XF xs k).isSome:=by
  rw[ij,(r.val k).eE,SW]
 unfold putK storedH;rw[e];by_cases q:(XF xs k).isSome=bD
 .rw[ê q,ê q];show r.C9 k a
 .rw[ë q,ë q];show Paired.snoc r ⟨rfl,c,a⟩
def KT.keeps(r:KT H kvs xs)(a:∀b ys,H b=a5 (.tup ys)->H' b=a5 (.tup ys)):KT H' kvs xs :=
 Paired.CB r λ_ _ z=>⟨z.1,a _ _ z.2.1,z.2.2⟩
section
def B3(b:IS P w H h)(e:Rd H a u):bE P w H h a u:=e.ok b
def kG(b:IS P w H h)(e:Rd H a (.dK kvs)):kvs.length<=cK/\(a==Nl)=cb/\∃vs,KV kvs vs/\h.DictOf (aY P w) a vs :=
 show bE P w H h a (.dK kvs) from B3 b e
def wD(b:IS P w H h)(e:H a=a5 (.dK kvs)):kvs.length<=cK/\(a==Nl)=cb/\∃vs,KV kvs vs/\h.DictOf (aY P w) a vs:=kG b (.inl e)
def jd(b:IS P w H h)(e:H a=a5 (.tup (ks.map kV))):(Ts (aY P w)).is h ks a:=by
 obtain⟨_,c,r,o,d,f,n,g⟩:=(show bE P w H h a (.tup (ks.map kV)) from b a _ e)
 show⟨o,c.toArray,n,d,f,g,by simpa using mG r⟩
def kH(b:IS P w H h)(e:Rd H a (.dT kvs)):kvs.length<=cK/\(a==Nl)=cb /\
  ∃xs,KT H kvs xs/\h.DictOfH (Ts (aY P w)) a xs:=by
 have⟨z,y,xs,r,o,es,ep,d,f,g,i,j⟩:=(show bE P w H h a (.dT kvs) from B3 b e)
 show⟨z,y,xs,r,o,es,ep,d,f,g,i,λx hx=>?_,j⟩;have all:∀{l:List (List Key×V)} {m:List (List Key×gi×dV)},KT H l m->∀x∈m,(Ts (aY P w)).is h x.1 x.2.1:=by
  intro l m q;induction q with
  |nil=>intro x hx;show nomatch hx
  |@cons p q ps n c t k =>
   intro x hx;rcases gj.mp hx with e|hx
   .subst e;show jd b (by rw[<-c.1];show c.2.1)
   .show k x hx
 show all r x hx
def Fq(b:IS P w H h)(e:H a=a5 (.dT kvs)):kvs.length<=cK/\(a==Nl)=cb /\
  ∃xs,KT H kvs xs/\h.DictOfH (Ts (aY P w)) a xs:=kH b (.inl e)
end
abbrev d8(H:Hp)(a:gi)(y:V)(r:Option V):Prop :=
 (∃kvs k,Rd H a (.dK kvs)/\y=kV k/\r=dE kvs k)\/∃kvs k b,Rd H a (.dT kvs)/\y=.ref b/\H b=a5 (.tup (k.map kV))/\r=dE kvs k
abbrev uK(H:Hp)(a:gi)(y v:V)(H':Hp):Prop :=
 (∃kvs k,H a=a5 (.dK kvs)/\y=kV k/\kvs.length<cK/\H'=upd H a (.dK (putK kvs k v))) \/
 ∃kvs k b,H a=a5 (.dT kvs)/\y=.ref b/\H b=a5 (.tup (k.map kV))/\kvs.length<cK/\H'=upd H a (.dT (putK kvs k v))
def d8.k{H:Hp}{a:gi}{kvs:List (Key×V)}{k:Key}(e:H a=a5 (.dK kvs)):d8 H a (kV k) (dE kvs k):=.inl ⟨kvs,k,.inl e,rfl,rfl⟩
def uK.k{H:Hp}{a:gi}{kvs:List (Key×V)}{k:Key}{v:V}(e:H a=a5 (.dK kvs))(hl:kvs.length<cK):uK H a (kV k) v (upd H a (.dK (putK kvs k v))):=.inl ⟨kvs,k,e,rfl,hl,rfl⟩
section
def Inv.big(I:Inv X a σ H s):Nl<s.heap.objs.size:=by
 have h:mN<s.heap.objs.size:=(I.mod.glob.keeps I.bk).lt;show Ul (by decide) h
def uL(q:A.units+1<KA)(I:Inv X f σ H s)(g:d8 H a y (a5 v))(n:RelV y u)(h:∀d s',Inv X f σ H s'->RelV v d->Q d s'):
  gs (i4 X.prog X.w) A (Q7 (.ref a) u) Q E s:=by
 rcases g with⟨kvs,k,e,i,l⟩|⟨kvs,k,b,e,i,r,l⟩
 .subst i;have⟨z,t,vs,c,dd⟩:=kG I.HA e;have⟨d,j,m⟩:=ft.some_of (v:=v) (o:=Vs vs k) (by rw[l];show c.val k);show wpAny_getItem_of (mF n) dd.mapOf j (h d _ (I.tok _) m)
 .subst i;cases(show u=ki b from n);have⟨z,t,xs,c,dd⟩:=kH I.HA e;have⟨d,j,m⟩:=ft.some_of (v:=v) (o:=(XF xs k).map (·.2)) (by rw[l];show c.val k);have⟨p,x,B⟩:=hQ.mp j;show wpAny_getItem_heap (Pd q) (jd I.HA r) dd x ?_;rw[B];show h d _ (I.tok _) m
def Fs(m:A.units+1<KA)(I:Inv X d σ H s)(g:d8 H a y o)(j:RelV y u)(h:∀s',Inv X d σ H s'->Q (.bool o.isSome) s'):
  gs (i4 X.prog X.w) A (NG .In u (.ref a)) Q E s:=by
 rcases g with⟨kvs,k,e,f,l⟩|⟨kvs,k,b,e,f,n,l⟩
 .subst f;have⟨z,i,vs,c,dd⟩:=kG I.HA e;show wpAny_in_of (mF j) i dd.mapOf ?_;rw[<-(c.val k).eE,<-l];show h _ (I.tok _)
 .subst f;cases(show u=ki b from j);have⟨z,i,xs,c,dd⟩:=kH I.HA e;show wpAny_in_heap (Pd m) (jd I.HA n) i dd ?_;have q:=(c.val k).eE;rw[SW]at q;rw[<-q,<-l];show h _ (I.tok _)
def sO(m:A.units+1<KA)(I:Inv X d σ H s)(g:d8 H a y o)(j:RelV y u)(h:∀s',Inv X d σ H s'->Q (.bool (!o.isSome)) s'):
  gs (i4 X.prog X.w) A (NG .NotIn u (.ref a)) Q E s:=by
 rcases g with⟨kvs,k,e,f,l⟩|⟨kvs,k,b,e,f,n,l⟩
 .subst f;have⟨z,i,vs,c,dd⟩:=kG I.HA e;show wpAny_notIn_of (mF j) i dd.mapOf ?_;rw[<-(c.val k).eE,<-l];show h _ (I.tok _)
 .subst f;cases(show u=ki b from j);have⟨z,i,xs,c,dd⟩:=kH I.HA e;show wpAny_notIn_heap (Pd m) (jd I.HA n) i dd ?_;have q:=(c.val k).eE;rw[SW]at q;rw[<-q,<-l];show h _ (I.tok _)
def sQ(I:Inv X c σ H s)(f:OC (H a))(hs:KX a s.heap h')(g:∃q,h'.get? a=a5 q)(new:bE X.prog X.w (upd H a d) h' a d):
  Inv X c σ (upd H a d) {s with heap:=h',toks:=t' } :=
 I.write (x:=a) (e:=a) f (.inl rfl) (λb q h z=>(hs.2 b h).trans z) g new
def C_(z:kvs.length<=cK)(c:(a==Nl)=cb)(b:KV kvs vs)(dd:h'.DictOf (aY P w) a vs):
  bE P w H' h' a (.dK kvs):=⟨z,c,vs,b,dd⟩
def uM(B:A.units+1<KA)(I:Inv X f σ H s)(g:uK H a y v H')(p:RelV y u)(rv:RelV v r)(h:∀s',Inv X f σ H' s'->Q () s'):
  gs (i4 X.prog X.w) A (R' (.ref a) u r) Q E s:=by
 rcases g with⟨kvs,k,e,m,l,n⟩|⟨kvs,k,b,e,m,t,l,n⟩
 .subst m n;have⟨z,o,vs,d,dd⟩:=wD I.HA e;have hz:vs.length<=cK:=by rw[<-d.length];show z
  have hl:(putK kvs k v).length<=cK:=by have:=jz kvs k v;lia
  show wpAny_setItem_pairs (hsz:=hz) (mF p) dd λh' i hs=>h _ ?_;have C:∃q,h'.get? a=a5 q:=let ⟨q,_,_,j,_⟩:=i;⟨q,j⟩;show sQ I (by rw[e];show Ry) hs C (C_ hl o (d.put k rv) i)
 .subst m n;cases(show u=ki b from p);have⟨z,o,xs,d,dd⟩:=Fq I.HA e;have hz:xs.length<=cK:=by rw[<-Paired.length d];show z
  have hl:(putK kvs k v).length<=cK:=by have:=jz kvs k v;lia
  show wpAny_setItem_heap (hsz:=hz) (Pd B) (jd I.HA t) dd λh' i hs=>h _ ?_;obtain⟨q,es,ep,j,D,G,J,_,L⟩:=i;show sQ I (by rw[e];show Ry) hs ⟨q,j⟩ ⟨hl,o,_,(d.put k t rv).keeps λc ys x=>?_,q,es,ep,j,D,G,J,L⟩;rw[ak (ER x e (λz=>nomatch z))];show x
end
section
end
abbrev Dc(i:nH):Prop:=∀a b,Ws i cb a b=operate [a,b] (Q7 a b)
def Af{T id:String}
  (hl:XB (.type T) "__getitem__"=pure (a5 (.builtin id))) (hs:Dc a)
  (h:gs (i4 prog w) A (uk b env) (λo f=>gs (i4 prog w) A (uk a env) (λi d=>d.TypeIs o T/\gs (i4 prog w) A (Q7 o i) Q E d) E f) E s) :
  gs (i4 prog w) A (uk (.Subscript b a pos) env) Q E s:=by
 show ZK (td h (λo f k=>td k (λi d e=>?_) λ_ _ x=>x) λ_ _ x=>x);have⟨g,e⟩:=e;unfold UR;show b8 ?_;rw[getitemInPython_of_ne g.not_modules];show b8 (Pa g hl ?_);have c:gs (i4 prog w) A (Ws a cb o i) (λr j=>gs (i4 prog w) A (letTemporaryGo b o r >>= λ_=>pure r) Q E j) E d:=by
  rw[hs o i];show wpAny_operating (td e (λr j l=>b8 (wpAny_letTemporaryGo (fx l))) λ_ _ x=>x)
 first
  |show fx (b8 c)
  |show b8 (fx (b8 c))
  |show b8 c
def pH(I:Inv X c σ H s)(g:d8 H a y o):s.TypeIs (.ref a) "dict":=by
 rcases g with⟨kvs,k,e,_,_⟩|⟨kvs,k,b,e,_,_,_⟩
 .obtain⟨_,_,vs,_,dd⟩:=kG I.HA e;show dd.typeIs
 .obtain⟨_,_,xs,_,dd⟩:=kH I.HA e;show dd.typeIs
abbrev Ft(c d:TE):TE:=λσ H Q=>c σ H λx e=>d σ e λy b=>∃a v,x=.ref a/\d8 b a y (a5 v)/\Q v b
abbrev G9(c d:TE):TE:=λσ H Q=>c σ H λy e=>d σ e λx b=>∃a o,x=.ref a/\d8 b a y o/\Q (.bl o.isSome) b
abbrev Ag(c d:TE):TE:=λσ H Q=>c σ H λy e=>d σ e λx b=>∃a o,x=.ref a/\d8 b a y o/\Q (.bl (!o.isSome)) b
section
def Ah(d:X.A.units+1<KA)(ho:PE X o e)(hi:PE X i f)(hs:Dc i):PE X (.Subscript o i pos) (Ft e f):=by
 intro b s σ H Q I h;show Af PySem.F.slot_dict_getitem.lookup hs (HE (ho b s σ H _ I h) λu s1 ⟨x,j,k,l,m⟩=>HE (hi b s1 σ j _ k m) λz s2 n=>?_);have⟨y,p,c,q,a,v,ex,g,r⟩:=n;subst ex;obtain rfl:u=ki a:=l;show⟨pH c g,uL d c g q λB s3 t w=>⟨v,p,t,w,r⟩⟩
def wF(c:X.A.units+1<KA)(hi:PE X i d)(ho:PE X o e):PC X .In i o (G9 d e):=by
 intro b s σ H Q I h;show HE (hi b s σ H _ I h) λw s1 ⟨y,f,j,k,l⟩=>HE (ho b s1 σ f _ j l) λu s2 m=>?_;have⟨x,n,p,q,a,r,ex,g,t⟩:=m;subst ex;obtain rfl:u=ki a:=q;show Fs c p g k λs3 v=>⟨.bl r.isSome,n,v,rfl,t⟩
def mH(c:X.A.units+1<KA)(hi:PE X i d)(ho:PE X o e):PC X .NotIn i o (Ag d e):=by
 intro b s σ H Q I h;show HE (hi b s σ H _ I h) λw s1 ⟨y,f,j,k,l⟩=>HE (ho b s1 σ f _ j l) λu s2 m=>?_;have⟨x,n,p,q,a,r,ex,g,t⟩:=m;subst ex;obtain rfl:u=ki a:=q;show sO c p g k λs3 v=>⟨.bl (!r.isSome),n,v,rfl,t⟩
end
def wG(h:Kq)(a:Nl<h.objs.size):bE P w H (h.push {cls:=.type "dict",data:=.dict #[]}) h.objs.size (.dK []) :=
 ⟨mx _,î.mpr (ri (ke a)),[],.nil,á h⟩
abbrev Dd:TE:=λ_ H Q=>∀p,H p=b6->Q (.ref p) (upd H p (.dK []))
section
def pI:PE X (.Dict [] [] pos) Dd:=λb s σ H Q I h =>
 wpAny_Dict_empty ⟨.ref s.heap.objs.size,_,I.laid (a:=s.heap.objs.size) (o:=.dK []) (t':=s.toks) (λ_ _ q=>df _ q) (i5 _) (wG s.heap I.big),rfl,h _ (I.HA.fresh (i5 _))⟩
end
structure M2(X:Cx)(o:nH)(m:Str)(apos:Pos)(e f:nH)(G':Pos):Prop where
 base:NU o m X.env (uk o X.env)=uk o X.env
 JY:((wh G' (i7 [e,f] X.env)).all (λx=>!x.1)&&(M6 G' (Ig [] X.env)).all (λx=>x.1.isSome)
  && cL (([e,f]:List nH).length+([]:List ME).length+(if ([]:List ME).isEmpty then 0 else 1)<30))=bD
 line:(apos.endLine==G'.line)=bD
 trees:wh G' (i7 [e,f] X.env)=[(cb,uk e X.env),(cb,uk f X.env)]
abbrev Ua(H:Hp)(a:gi):Prop:=(∃kvs,Rd H a (.dK kvs))\/∃kvs,Rd H a (.dT kvs)
def De(I:Inv X i σ H s)(d:Ua H a):
  s.TypeIs (.ref a) "dict"/\(∀b,ki a=.ref b->∃c,s.heap.get? b=a5 c/\c.dict=b6)/\(a==Nl)=cb:=by
 rcases d with⟨kvs,e⟩|⟨kvs,e⟩
 .obtain⟨_,f,vs,_,dd⟩:=kG I.HA e;show⟨dd.typeIs,λb q=>?_,f⟩;cases q;obtain⟨c,_,_,g,h,_⟩:=dd;show⟨c,g,h.2.1⟩
 .obtain⟨_,f,xs,_,dd⟩:=kH I.HA e;show⟨dd.typeIs,λb q=>?_,f⟩;cases q;obtain⟨c,_,_,g,h,_⟩:=dd;show⟨c,g,h.2.1⟩
section
def Df(q:A.units+1<KA)(I:Inv X f σ H s)(g:d8 H a y o)(m:RelV y u)(n:RelV d r)(h:∀p s',Inv X f σ H s'->RelV (o.getD d) p->Q p s'):
  gs (i4 X.prog X.w) A (OD (.builtin "dict.get") [.ref a,u,r]) Q E s:=by
 rcases g with⟨kvs,k,e,i,l⟩|⟨kvs,k,b,e,i,t,l⟩
 .subst i;have⟨z,j,vs,c,dd⟩:=kG I.HA e;show YR PySem.F.slot_dict_get dd.typeIs PySem.F.entry_dict_get (PySem.F.args_dict_get_3 _ _ _) (meets_dict_get_default (aY X.prog X.w) a (mF m) j r) ⟨_,dd.mapOf,h _ _ (I.tok _) ?_⟩;rw[l];show(c.val k).getD n
 .subst i;cases(show u=ki b from m);have⟨z,j,xs,c,dd⟩:=kH I.HA e;show YR PySem.F.slot_dict_get dd.typeIs PySem.F.entry_dict_get (PySem.F.args_dict_get_3 _ _ _) (meetsH_dict_get_default (Ts (aY X.prog X.w)) a b j r) ⟨Pd q,k,xs,jd I.HA t,dd,h _ _ (I.tok _) ?_⟩;rw[l];show(c.val k).getD n
end
abbrev Dg(d e f:TE):TE:=λσ H Q=>d σ H λx b=>∃a,x=.ref a/\Ua b a/\e σ b λy g=>f σ g λz c=>∃o,d8 c a y o/\Q (o.getD z) c
section
def wH(i:X.A.units+1<KA)(ho:PE X o j)(k:PE X e l)(n:PE X f p)(m:M2 X o "get" apos e f q):PE X (.Call (.Attribute o "get" apos) [e,f] [] q) (Dg j l p):=by
 intro b s σ H Q I h;show wpAny_Call_method m.base m.JY m.line PySem.F.plainAttrs_dict PySem.F.slot_dict_get PySem.F.type_dict_get (HE (ho b s σ H _ I h) λu s1 r=>?_);have⟨x,t,c,v,a,ex,d,w⟩:=r;subst ex;obtain rfl:u=ki a:=v;obtain⟨B,C,_⟩:=De c d;show⟨B,C,?_⟩;rw[m.trees];show Ks rfl (Lf (MJ (HE (k b s1 σ t _ c w) λiv s2 ⟨y,D,G,J,L⟩ =>
  MJ (HE (n b s2 σ D _ G L) λfv s3 ⟨z,N,O,T,ov,g,Y⟩=>O' ?_))))
 show Df i O g J T λw' s4 I4 J9=>⟨_,N,I4,J9,Y⟩
end
section
end
section
end
end L2
namespace H_
open PySem PySem.Builtin.Str PySem.StrLaws
abbrev low(c:Nat):Bool:=cL (97<=c)&&cL (c<=122)
abbrev dX(l:List Nat):Bool:=cL (1<=l.length)&&cL (l.length<=8)&&l.all low
def cJ(l:List Nat):dX l=bD↔1<=l.length/\l.length<=8/\∀c∈l,97<=c/\c<=122:=by
 simp[dX,low,rr,and_assoc]
def ip(h:dX l=bD):47∉l:=λm=>by
 have:=((cJ l).mp h).2.2 47 m;lia
def iq{x y:Str}(h:x.cps.toList=y.cps.toList):x=y:=by
 cases x;cases y;congr
 show UA.mp h
def qX(x:Str)(b:x.cps.toList=(il 26).map (97+·))(c:Nat):(!(tA x ⟨#[c]⟩ 0 x.length 1).isEmpty)=low c:=by
 rw[found_one,b];simp only[low,lx,ve];by_cases h:97<=c/\c<=122
 .have:∃a,a<26/\97+a=c:=⟨c - 97,⋯,⋯⟩
  simp[this,h.1,h.2]
 .have:¬∃a,a<26/\97+a=c:=λ⟨a,d,e⟩=>h ⟨⋯,⋯⟩;simp[this];lia
def nU(x:Str)(c i:Nat):At x ⟨#[c]⟩ x.length i↔x.cps.toList[i]?=a5 c:=subAt_one x c i
def wI(h:x.cps.toList=a++c::b)(g:c∉a)(d:Nat)(hl:1<=d):∃r,tA x ⟨#[c]⟩ 0 x.length d=a.length::r:=by
 have f:x.cps.toList[a.length]?=a5 c:=by rw[h];simp
 rcases occ_head x ⟨#[c]⟩ d hl with⟨_,j⟩|⟨i,r,e,hi,k⟩
 .show absurd ((nU x c a.length).mpr f) (j _)
 .have e1:=(nU x c i).mp hi;have:i=a.length:=by
   rcases Nat.lt_trichotomy i a.length with z|z|z
   .exfalso
    rw[h,nc z]at e1;show g (pd e1)
   .show z
   .show absurd ((nU x c a.length).mpr f) (k _ z)
  subst this;show⟨r,e⟩
def Ai(h:x.cps.toList=a++c::b)(d:c∉a):o9 x ⟨#[c]⟩=(⟨a.toArray⟩,⟨#[c]⟩,⟨b.toArray⟩):=by
 have⟨r,e⟩:=wI h d 1 (i5 _);unfold o9;rw[e];have f:(⟨#[c]⟩:Str).length=1:=rfl;have g:x.length=a.length+1+b.length:=by
  have:=ï Jt h;simp[RG]at this ⊢;lia
 show V4 ?_ (V4 rfl ?_)
 .apply iq;rw[Yz,h];simp
 .apply iq;change(strSub x (a.length+(⟨#[c]⟩:Str).length) x.length).cps.toList=_;rw[Yz,h,f,g];simp
def qY(h:c∉x.cps.toList):OT x ⟨#[c]⟩=[x]:=by
 unfold OT;split
 .rfl
 .rw[ê];rcases occ_head x ⟨#[c]⟩ (x.length+1) ⋯ with⟨e,_⟩|⟨i,r,e,hi,_⟩
  .rw[e];rfl
  .show absurd (pd ((nU x c i).mp hi)) h
def pJ(c:Nat)(h:c<256)(x:Str):¬(PySem.Builtin.Str.strKind x<PySem.Builtin.Str.strKind ⟨#[c]⟩):=by
 have e:PySem.Builtin.Str.strKind ⟨#[c]⟩=1:=by simp[PySem.Builtin.Str.strKind,h]
 rw[e];unfold PySem.Builtin.Str.strKind;split
 .lia
 .split<;>lia
def wJ(h:x.cps.toList=a++c::b)(d:c∉a)(f:c<256):∃r,OT x ⟨#[c]⟩=⟨a.toArray⟩::r:=by
 have⟨r,e⟩:=wI h d (x.length+1) ⋯;have g:(⟨#[c]⟩:Str).length=1:=rfl;have k:x.length=a.length+1+b.length:=by
  have:=ï Jt h;simp[RG]at this ⊢;lia
 unfold OT;rw[ë (by
  have i:¬(x.length<(⟨#[c]⟩:Str).length):=by rw[g];lia
  have j:=pJ c f x;simp[i,j]),ë (by rw[e];simp),partsBetween_eq,e]
 show⟨_,ï (·::_) ?_⟩;apply iq;rw[Yz,h];simp
abbrev fu(i:Int):Str:=M7 (Ò i)
abbrev B4:Str:=⟨#[47]⟩
end H_
namespace L2
open PySem PySem.Spec PyProof.Rows
abbrev bz(env:Env):List (Str×K9)->List (Str×gi)->List (Str×gi)
 |[],b=>b
 |(n,k)::r,b=>bz env r (if k==.free then(match env.cells.lookup n with|some a=>(n,a)::b|none=>b) else b)
def eF(h:∀y∈scope.names,y.2=.free->∃a,env.cells.lookup y.1=a5 a):closureFor scope env=pure (bz env scope.names []):=by
 unfold closureFor;generalize scope.names=names at h
 suffices H:∀b,(forIn names b (λ(x:Str×K9) (r:List (Str×gi))=>if (x.2==J')=bD then do let a <-cellOf env x.1;pure (NY ((x.1,a)::r)) else pure (NY r)):Sem (List (Str×gi)))=pure (bz env names b) by
  have:=H [];show ï (λ(m:Sem (List (Str×gi)))=>m >>= pure) this
 induction names with
 |nil=>intro b;rfl
 |cons y r d =>
  intro b;have⟨n,k⟩:=y;rw[List.forIn_cons];have c:=d λy e=>h y (i8 _ e);by_cases hk:(k==J')=bD
  .have⟨a,f⟩:=h (n,k) kj (by simpa using hk);have g:env.cells.lookup n=a5 a:=f;simp only[hk,if_true,cellOf,g,bz];show c _
  .simp only[hk,if_false,bz];show c _
theorem eY:∀(names:List (Str×K9)) (b:List (Str×gi)),(∀n c,b.lookup n=a5 c->env.cells.lookup n=a5 c)->∀n c,(bz env names b).lookup n=a5 c->env.cells.lookup n=a5 c
 |[],_,h=>h
 |(m,k)::r,b,h=>by
  unfold bz;show eY r _ λn c e=>?_;by_cases hk:(k==J')=bD
  .rw[ê hk]at e;cases q:env.cells.lookup m with
   |none=>rw[q]at e;show h n c e
   |some a =>
    rw[q]at e;simp only[nT]at e;cases d:n==m with
    |true =>
     rw[d]at e;have f:n=m:=by simpa using d
     subst f;simp only at e;rw[q];show e
    |false=>rw[d]at e;show h n c e
  .rw[ë hk]at e;show h n c e
theorem jA(d:env.cells.lookup n=a5 a):∀(names:List (Str×K9)) (c:List (Str×gi)),c.lookup n=a5 a->(bz env names c).lookup n=a5 a
 |[],_,h=>h
 |(m,k)::r,c,h=>by
  unfold bz;show jA d r _ ?_;by_cases hk:(k==J')=bD
  .rw[ê hk];cases q:env.cells.lookup m with
   |none=>show h
   |some b =>
    simp only[nT];cases e:n==m with
    |true =>
     have f:n=m:=by simpa using e
     subst f;rw[d]at q;cases q;rfl
    |false=>show h
  .rw[ë hk];show h
theorem gO(b:env.cells.lookup n=a5 a):∀(names:List (Str×K9)) (c:List (Str×gi)),(n,J')∈names->(bz env names c).lookup n=a5 a
 |[],_,h=>by cases h
 |(m,k)::r,c,h=>by
  unfold bz;rcases gj.mp h with e|e
  .cases e;show jA b r _ ?_;rw[ê (by decide),b];simp[nT]
  .show gO b r _ e
theorem bN{env:Env}:∀{names:List (Str×K9)}{x:Str}{k:K9},
  (names.map λ(n,k)=>if (k==J'&&env.scope.kind==.function&&env.kindOf n==a5 .cell) then(n,Km) else(n,k)).lookup x=a5 k ->
  names.lookup x=a5 k\/(k=.cell/\names.lookup x=a5 .free)
 |[],_,_,h=>by simp at h
 |(n,k0)::r,x,k,h=>by
  have e:=@bN env r x k;rw[g8]at h;by_cases b:(k0==J'&&env.scope.kind==.function&&env.kindOf n==a5 .cell)=bD
  .simp only[ê b,nT]at h;cases a:x==n with
   |true =>
    rw[a]at h;have f:k0=.free:=by
     have:=(vu.mp (vu.mp b).1).1;simpa using this
    show .inr ⟨by simpa using h.symm,by simp[nT,a,f]⟩
   |false =>
    rw[a]at h;rcases e h with z|⟨c,d⟩
    .show .inl (by simp[nT,a,z])
    .show .inr ⟨c,by simp[nT,a,d]⟩
  .simp only[ë b,nT]at h;cases a:x==n with
   |true=>rw[a]at h;show .inl (by simpa[nT,a] using h)
   |false =>
    rw[a]at h;rcases e h with z|⟨c,d⟩
    .show .inl (by simp[nT,a,z])
    .show .inr ⟨c,by simp[nT,a,d]⟩
theorem jB:∀(names:List (Str×K9)) (b:List (Str×gi)),(bz env names b).lookup x=a5 c->(x,J')∈names\/b.lookup x=a5 c
 |[],_,h=>.inr h
 |(m,k)::r,b,h=>by
  unfold bz at h;rcases jB r _ h with z|z
  .show .inl (i8 _ z)
  .by_cases hk:(k==J')=bD
   .rw[ê hk]at z;cases q:env.cells.lookup m with
    |none=>rw[q]at z;show .inr z
    |some a =>
     rw[q]at z;simp only[nT]at z;cases d:x==m with
     |true =>
      have e1:x=m:=by simpa using d
      have e:k=.free:=by simpa using hk
      subst e1 e;show .inl kj
     |false=>rw[d]at z;show .inr z
   .rw[ë hk]at z;show .inr z
theorem ir:∀(names:List (Str×K9)) (n:Nat) (a:List (Str×gi)),(Md n names a).lookup x=a5 c->((x,Km)∈names/\@Zr Nat _ n c)\/a.lookup x=a5 c
 |[],_,_,h=>.inr h
 |(y,k)::r,n,a,h=>by
  unfold Md at h;by_cases hk:(k==Km)=bD
  .rw[ê hk]at h;have f:k=.cell:=by simpa using hk
   subst f;rcases ir r (n+1) _ h with⟨b,d⟩|z
   .show .inl ⟨i8 _ b,Nat.le_of_succ_le d⟩
   .simp only[nT]at z;cases e:x==y with
    |true =>
     rw[e]at z;have e1:x=y:=by simpa using e
     subst e1;cases z;show .inl ⟨kj,i5 _⟩
    |false=>rw[e]at z;show .inr z
  .rw[ë hk]at h;rcases ir r n a h with⟨b,d⟩|z
   .show .inl ⟨i8 _ b,d⟩
   .show .inr z
theorem nV:∀(names:List (Str×K9)) (n:Nat) (a:List (Str×gi)),(x,Km)∉names->(Md n names a).lookup x=a.lookup x
 |[],_,_,_=>rfl
 |(y,k)::r,n,a,h=>by
  unfold Md;have b:(x,Km)∉r:=λz=>h (i8 _ z);by_cases hk:(k==Km)=bD
  .rw[ê hk,nV r _ _ b];have c:k=.cell:=by simpa using hk
   subst c;simp only[nT];cases d:x==y with
   |true =>
    have e1:x=y:=by simpa using d
    subst e1;show absurd kj h
   |false=>rfl
  .rw[ë hk,nV r _ _ b]
theorem qZ:∀(names:List (Str×K9)) (n:Nat) (a:List (Str×gi)),(∀(z:Str) (d:gi),a.lookup z=a5 d->@PQ Nat _ d n)->(∀(u v:Str) (d:gi),a.lookup u=a5 d->a.lookup v=a5 d->u=v) ->
  (Md n names a).lookup x=a5 c->(Md n names a).lookup y=a5 c->x=y
 |[],_,_,_,hi,b,f=>hi x y c b f
 |(g,k)::r,n,a,hl,hi,b,f=>by
  unfold Md at b f;by_cases hk:(k==Km)=bD
  .rw[ê hk]at b f;have lk:∀(z:Str) (d:gi),LM z ((g,(n:gi))::a)=a5 d->(z=g/\d=n)\/a.lookup z=a5 d:=λz d e=>by
    simp only[nT]at e;cases h:z==g with
    |true=>rw[h]at e;cases e;show .inl ⟨by simpa using h,rfl⟩
    |false=>rw[h]at e;show .inr e
   show qZ r (n+1) _ (λz d e=>?_) (λu v d e1 i=>?_) b f
   .rcases lk z d e with⟨_,q⟩|q
    .rw[q];show MG _
    .show Pw (hl z d q)
   .rcases lk u d e1 with⟨j,l⟩|q<;>rcases lk v d i with⟨m,p2⟩|p
    .rw[j,m]
    .rw[l]at p;show absurd (hl v n p) (vl _)
    .rw[p2]at q;show absurd (hl u n q) (vl _)
    .show hi u v d q p
  .rw[ë hk]at b f;show qZ r n a hl hi b f
theorem nW:∀(names:List (Str×K9)) (h:Kq) (a:List (Str×gi)),(Md h.objs.size names a).lookup x=a5 c->(Q_ h names).IsCell c b6\/a.lookup x=a5 c
 |[],_,_,e=>.inr e
 |(y,k)::r,h,a,e=>by
  unfold Md at e;unfold Q_;by_cases hk:(k==Km)=bD
  .rw[ê hk]at e ⊢;have hs:h.objs.size+1=(h.push {cls:=.type "cell",data:=.cell b6}).objs.size:=by rw[MF]
   rw[hs]at e;rcases nW r _ _ e with z|z
   .show .inl z
   .simp only[nT]at z;cases b:x==y with
    |true =>
     rw[b]at z;cases z;show .inl ⟨_,WI r _ _ _ (hW _ rfl),rfl⟩
    |false=>rw[b]at z;show .inr z
  .rw[ë hk]at e ⊢;show nW r h a e
abbrev K5(X:Cx)(scope:L9)(C:gi):List (Str×gi):=Md (C+1) scope.names (bz X.env scope.names [])
abbrev I_(X:Cx)(N:List Str)(scope:L9)(C:gi)(s:gm)(H:Hp)(ex:List gi):Cx where
 prog:=X.prog
 w:=X.w
 K:=X.K
 mg:=X.mg
 base:=X.base
 A:=X.A
 N:=N
 s₀:=s
 H₀:=H
 env:=Vy scope (K5 X scope C) C X.env
 outer:=X.stack
 stack:=X.stack
 ex:=ex
 fn:=λx=>cL (scope.names.lookup x=a5 .cell)
 calm:=X.calm
 pn:=[]
 xe:=λ_ _=>False
abbrev d9(D N:List Str):Prop:=D.length=N.length/\∀(i:Nat) (y:Str),D[i]?=a5 y->N[i]?=a5 y\/y="."\/y=".."
def d9.refl(N:List Str):d9 N N:=⟨rfl,λ_ _ h=>.inl h⟩
def d9.set{D N:List Str}(h:d9 D N)(j:Nat){m:Str}(b:m="."\/m=".."):d9 (D.set j m) N:=by
 show⟨by rw[Zp];show h.1,λi y e=>?_⟩;by_cases a:j=i
 .subst a;rw[List.getElem?_set,ê rfl]at e;split at e
  .cases e;show .inr b
  .cases e
 .rw[hY a]at e;show h.2 i y e
structure cR(X:Cx)(N own:List Str)(scope:L9):Prop where
 kind:scope.kind=.function
 uq:∀y∈scope.names,scope.names.lookup y.1=a5 y.2
 cl:∀y∈scope.names,y.2=.cell->y.1∈own
 nd:N.Nodup
 pre:N.take own.length=own
 loc:∀y∈scope.names,y.2=.local->y.1∈own\/y.1=".0"
 VJ:(".0":Str)∉N
 tail:d9 (N.drop own.length) X.N
 free:∀y∈scope.names,y.2=.free->X.env.scope.names.lookup y.1=a5 .cell\/X.env.scope.names.lookup y.1=a5 .free
 dot:∀y∈scope.names,y.1≠"."/\y.1≠".."
def mem_lookup{names:List (Str×K9)}(h:names.lookup x=a5 k):(x,k)∈names:=PySem.mem_of_lookup h
def cR.names(S:cR X N a scope):∀y∈scope.names,y.2=.local->scope.names.lookup y.1=a5 .local:=λy b e=>e▸S.uq y b
def cR.no(S:cR X N a scope)(h:scope.names.lookup x=a5 .free):(x,Km)∉scope.names:=λz=>by
 have:=S.uq _ z;rw[h]at this;cases this
def cR.cells(S:cR X N c scope)(b:X.Ok):∀y∈scope.names,y.2=.free->∃a,X.env.cells.lookup y.1=a5 a:=λy d e=>by
 rcases S.free y d e with z|z
 .show b.has y.1 (.inl z)
 .show b.has y.1 (.inr z)
def wK(S:cR X N f scope)(I:Inv X D σ H s)
  (B:s.heap.objs.size<=C) (LR:∀x c,(K5 X scope C).lookup x=a5 c->s4.heap.IsCell c b6\/(bz X.env scope.names []).lookup x=a5 c) (Ll:s4.os=s.os) (hg:s4.gens=s.gens) (keep:∀b o,s.heap.get? b=a5 o->s4.heap.get? b=a5 o) (ns:∃m,s4.heap.Ns C m)
  (g:∀b∈ex,gM X D H b/\b<s.heap.objs.size):Inv (I_ X N scope C s H ex) [] (lg f.length b6++σ) H s4:=by
 have⟨m0,OS⟩:=ns;have sub:=eY (env:=X.env) scope.names [] (λn c e=>by simp at e);have VL:∀(x:Str) (c:gi),(bz X.env scope.names []).lookup x=a5 c->c<s.heap.objs.size:=λx c e=>by
  obtain⟨v,o,ho,_⟩:=I.cell x c (sub x c e);show i6 ho
 have J:∀(x:Str) (c:gi),(K5 X scope C).lookup x=a5 c->C<c\/(bz X.env scope.names []).lookup x=a5 c:=λx c e=>(ir _ _ _ e).imp (λz=>z.2) id;have Q:∀b∈ex,b<C:=λb t=>ku (g b t).2 B;have tl:f.length<=N.length:=by have:=ï Jt S.pre;rw[pb]at this;lia
 show⟨⟨I.ok.mod,?_,I.ok.glob,I.ok.blt,B,λx y c w A=>qZ _ _ _ (λz d e=>Pw (ku (VL z d e) B)) (λu v d e1 e2=>I.ok.inj u v d (sub u d e1) (sub v d e2)) w A,λx hx=>?_,λx c h e=>?_,I.ok.hd,I.ok.frames,.inl rfl,λb t=>⟨ke (Q b t),λx c e=>?_⟩,λb o e=>I.bs b o e,?_,λb o e t=>?_,λb t=>?_,I.stack,I.fW⟩,
  Ll,(by rw[hg];show I.bare),Un.kept keep,⟨m0,OS,λi y v w A h3=>?_⟩,λx c e=>?_,I.HA.fresh B,λx c e=>?_,λp hp=>absurd (show p∈([]:List (gi×Obj)) from hp) (by simp),I.HA.kept keep,?_⟩
 .change(Sb scope X.env).kind=.function;show S.kind
 .
  have RT:(Sb scope X.env).names.lookup x=a5 .cell\/(Sb scope X.env).names.lookup x=a5 .free:=hx;have HW:scope.names.lookup x=a5 .cell\/scope.names.lookup x=a5 .free:=by
   rcases RT with z|z
   .rcases bN z with q|⟨_,q⟩
    .show .inl q
    .show .inr q
   .rcases bN z with q|⟨q,_⟩
    .show .inr q
    .cases q
  rcases HW with HW|HW
  .show N2.mp (PySem.W.cellsFrom_some scope.names (C+1) _ (.inl HW))
  .have⟨a,ha⟩:=S.cells I.ok (x,.free) (mem_lookup HW) rfl;show⟨a,(nV _ _ _ (S.no HW)).trans (gO ha scope.names [] (mem_lookup HW))⟩
 .have h':scope.names.lookup x=a5 .cell:=ð h;rcases J x c e with z|z
  .show uv B (PF z)
  .rcases jB _ _ z with z|z
   .have:=S.uq _ z;rw[h']at this;cases this
   .simp at z
 .rcases J x c e with z|z
  .show λq=>absurd (Ul (Q b t) z) (by rw[q];show vl _)
  .show(g b t).1.2.2.2.2.1 x c (sub x c z)
 .show uv I.ok.LK I.sz
 .have⟨f0,T,Y,f3,f4,f5⟩:=(g b t).1;rcases f3 with z|z
  .show I.ok.KC b o e z
  .show absurd (ku (i6 e) (uv I.ok.LK z)) (vl _)
 .intro JZ;have⟨f0,T,Y,f3,f4,f5⟩:=(g b t).1;rcases gj.mp (I.kl b JZ) with z|z
  .show T z
  .show Y z
 .
  have hi:f.length<=i:=by
   by_cases hi:i<f.length
   .rw[nc (by simpa using hi),Hf]at A;split at A<;>cases A
   .lia
  rw[mu (by simpa using hi),P0]at A;have VM:(N.drop f.length)[i - f.length]?=a5 y:=by
   rw[DD];have e:f.length+(i - f.length)=i:=by lia
   rw[e];show w
  have N8:(Sb scope X.env).names.lookup y=a5 .local\/(Sb scope X.env).names.lookup y=a5 .cell\/(Sb scope X.env).names.lookup y=a5 .free:=h3;have MK:∀y:Str,y∈f->N[i]?=a5 y->False:=λy L w=>by
   have⟨j,hj,ej⟩:=QW L;have KD:N[j]?=a5 y:=by
    have e1:(N.take f.length)[j]?=a5 y:=by rw[S.pre,JU hj,ej]
    rw[Oq hj]at e1;show e1
   have:=h_ S.nd KD w;lia
  have HW:scope.names.lookup y=a5 .free:=by
   rcases N8 with z|z|z
   .rcases bN z with q|⟨q,_⟩
    .exfalso
     have L:y∈f:=by
      rcases S.loc (y,.local) (mem_lookup q) rfl with z|z
      .show z
      .have z':y=".0":=z;show absurd (pd w) (by rw[z'];show S.VJ)
     show MK y L w
    .cases q
   .rcases bN z with q|⟨_,q⟩
    .show(MK y (S.cl _ (mem_lookup q) rfl) w).elim
    .show q
   .rcases bN z with q|⟨q,_⟩
    .show q
    .cases q
  have hX:X.N[i - f.length]?=a5 y:=by
   rcases S.tail.2 _ _ VM with e|e|e
   .show e
   .show absurd e (S.dot _ (mem_lookup HW)).1
   .show absurd e (S.dot _ (mem_lookup HW)).2
  have⟨m,hn,hl⟩:=I.loc;have hv:X.env.scope.names.lookup y=a5 .cell\/X.env.scope.names.lookup y=a5 .free:=S.free (y,.free) (mem_lookup HW) rfl;have⟨u,r,l⟩:=hl _ y v hX A (.inr hv);show⟨u,r,?_⟩;rcases l with⟨k,_⟩|⟨k,c,e,z⟩
  .have k':X.env.scope.names.lookup y=a5 .local:=k;rcases hv with q|q<;>(rw[k']at q;cases q)
  .have hk:(Sb scope X.env).names.lookup y=a5 .cell\/(Sb scope X.env).names.lookup y=a5 .free:=by
    rcases N8 with q|q|q
    .rcases bN q with G|⟨G,_⟩
     .rw[HW]at G;cases G
     .cases G
    .show .inl q
    .show .inr q
   have⟨o,ho,O⟩:=z;show .inr ⟨hk,c,(nV _ _ _ (S.no HW)).trans (gO e scope.names [] (mem_lookup HW)),o,keep c o ho,O⟩
 .rcases LR x c e with z|z
  .show⟨_,z⟩
  .have⟨v,o,ho,O⟩:=I.cell x c (sub x c z);show⟨v,o,keep c o ho,O⟩
 .rcases J x c e with z|z
  .show I.HA.fresh (uv B (PF z))
  .show I.Im x c (sub x c z)
 .rw[j0,P0,I.len];have e:N.length=f.length+(N.drop f.length).length:=by rw[Rt];lia
  change _=N.length;rw[e,S.tail.1]
def pK(I:Inv X f σ H s)
  (d:Inv (I_ X N scope C s H ex) Q T l s4) (w:s.heap.objs.size<=D) (x:s.heap.objs.size<=C) (y:D≠C) (h:l D=b6) (rv:Vals ys p) (pl:s4.heap.PlainList D p.toArray) (hl:ys.length<=cK)
  (i:KX C s4.heap h') (m:∀b∈ex,gM X f H b):Inv X f σ (upd l D (.lst ys)) {s4 with heap:=h' }:=by
 have r:l C=b6:=d.free;have lt:∀{b:gi} {o:Obj},s.heap.get? b=a5 o->b≠C/\b≠D:=λe=>⟨ke (ku (i6 e) x),ke (ku (i6 e) w)⟩
 show I.BZ (s':={s4 with heap:=h' }) (ch:=ex) d.os ⟨λb o e n j g=>?_,λb o e n j g=>?_,λb o e n g=>?_,λb o e g=>?_,λb xs e=>?_,λb o u e=>?_,λb ps e=>?_⟩ (λa o e=>?_) d.bare λb j=>?_
 .show(i.2 b (lt e).1).trans (d.base.keep b o e n j g)
 .have⟨A,q⟩:=d.base.slot b o e n j g;show⟨A,(i.2 b (lt e).1).trans q⟩
 .rw[ak (lt e).2];show d.base.free b o e n g
 .have⟨o',q⟩:=d.base.there b o e g;show⟨o',(i.2 b (lt e).1).trans q⟩
 .have q:=d.base.gy b xs e;rw[ak (bB q h)];show q
 .have q:=d.base.I0 b o u e;rw[ak (bB q h)];show q
 .have⟨k,q⟩:=d.base.Jf b ps e;show⟨k,by rw[ak (bB q h)];show q⟩
 .by_cases t:a=D
  .subst t;rw[aq]at e;cases e;have⟨n,q⟩:=pl;show⟨hl,p,n,rv,(i.2 _ y).trans q⟩
  .rw[ak t]at e;show(d.HA a o e).kh (λc v B q=>(i.2 c ?_).trans q) (λc q=>?_) λc xs q=>?_
   .rintro rfl;rcases B with z|z
    .rw[<-z,r]at e;cases e
    .rw[r]at z;cases z
   .rw[ak (bB q h)];show q
   .rw[ak (bB q h)];show q
 .have⟨Y,G,f2,J,L,O⟩:=m b j;show⟨J,G,L,O⟩
section
def nX(I:Nat->gm->Prop)
  (b:∀n s,I n s->gs (i4 prog w) A (RE it) (λr d=>match r with
   |none=>R (.ok .next) d
   |some v=>gs (i4 prog w) A (Sr a it v) (λ_ d=>gs (i4 prog w) A (Rr a env v) (λ_ k =>
     gs (i4 prog w) A (forIn f bD λc r=>if r=bD then do let ok <-isTrue c env (uk c env);pure (NY ok) else pure (NY r)) (λok j =>
      if ok=bD then gs (i4 prog w) A (uk elt env) (λx l =>
       gs (i4 prog w) A (OD (.builtin "list.append") [g,x]) (λ_ o=>∃m,m<n/\I m o) (Se (i4 prog w) A env λe s'=>R (.error e) s') l) (Se (i4 prog w) A env λe s'=>R (.error e) s') j
      else ∃m,m<n/\I m j) (Se (i4 prog w) A env λe s'=>R (.error e) s') k) (Se (i4 prog w) A env λe s'=>R (.error e) s') d) (Se (i4 prog w) A env λe s'=>R (.error e) s') d) (Se (i4 prog w) A env λe s'=>R (.error e) s') s)
  (n:Nat) (h:I n s) :
  Oz (i4 prog w) A (.compLoop (.ListComp elt [⟨a,i,f,0⟩] scope pos) 0 it g env) R s:=by
 show codeAny_loop rfl I (λn s t=>?_) n h;change gs _ A ((compTurn (.ListComp elt [⟨a,i,f,0⟩] scope pos) 0 it g env).onRaise (λx=>do noteFrame x env;theTreesLotGoes x)) _ _ s;show wpAny_noted ?_;rw[compTurn_list];show b8 (Yu (b8 (td (b n s t) (λr d p=>?_) λ_ _ h'=>h')));cases r with
 |none=>show fx p
 |some v =>
  show b8 (td p (λ_ C u=>?_) λ_ _ h'=>h');show b8 (td u (λ_ k y=>b8 (td y (λok j q=>?_) λ_ _ h'=>h')) λ_ _ h'=>h');cases ok with
  |false=>show fx ⟨rfl,q⟩
  |true =>
   show b8 (b8 (td q (λx l z=>b8 (td z (λ_ o B=>fx (fx ⟨rfl,B⟩)) λ_ _ h'=>h')) λ_ _ h'=>h'))
end
abbrev L_(X:Cx)(b:List nH)(t:TT):Prop :=
 ∀(a:List (gi×Obj)) (s:gm) (σ:St) (H:Hp) (Q:Bool->Hp->Prop),Inv X a σ H s->t σ H Q ->
  gs (i4 X.prog X.w) X.A (forIn b bD λc r=>if r=bD then do let d <-isTrue c X.env (uk c X.env);pure (NY d) else pure (NY r)) (TP X a σ Q) X.xe s
abbrev G_:TT:=λ_ H Q=>Q bD H
def sR:L_ X [] G_:=λ_ _ _ H _ I h=>wpAny_tests_nil ⟨H,I,h⟩
def sT(h:PT X c t):L_ X [c] t:=λa s σ H Q I q=>wpAny_tests_one (h a s σ H Q I q)
abbrev sU(k:Nat)(J:It)(g:TG)(j:TT)(l:TE)(Q:VK)(σ:St)(n:Hp):Prop :=
  ∃W:Nat->Nat->List V->Hp->Prop,(∃m,W 0 m [] n)/\∀i m ys H,W i m ys H->ys.length<=cK /\
    ((J.stop i H/\∀p,H p=b6->Q (.ref p) (upd H p (.lst ys))) \/
     (J.go i H/\∃c:List V->Hp->Prop,(∀e H',c e H'->∃f,f<m/\W (i+1) f e H')/\∀x H',J.Qb i H x H'->g x (lg k b6++σ) H' λd o=>∃a:St,a.length=k/\d=a++σ /\
        j d o λb h=>if b=bD then l d h λy q=>c (ys++[y]) q else c ys h))
abbrev wL(k:Nat)(a:TI)(g:TG)(b:TT)(c:TE):TE:=λσ H Q=>a σ H λJ d=>sU k J g b c Q σ d
section
def wM
  (S:cR X N B scope) (hc:X.calm=bD) (hg:∀C s H ex,PG (I_ X N scope C s H ex) tg g) (hf:∀C s H ex,L_ (I_ X N scope C s H ex) ac tt) (he:∀C s H ex,PE (I_ X N scope C s H ex) elt te)
  (I:Inv X ag σ H s) (T:Turn X.prog X.w X.K tg J G it tn) (st:tn 0 s.heap) (f2:∀b∈G,gM X ag H b) (W:sU B.length J g tt te Q σ H)
  (hD:@Eq Nat D s.heap.objs.size) (hC:@Eq Nat C (s.heap.objs.size+1)) (LR:∀x c,(K5 X scope C).lookup x=a5 c->s4.heap.IsCell c b6\/(bz X.env scope.names []).lookup x=a5 c) (Ll:s4.os=s.os) (VP:s4.gens=s.gens) (keep:∀b o,s.heap.get? b=a5 o->s4.heap.get? b=a5 o) (ns:∃m,s4.heap.Ns C m) (pl:s4.heap.PlainList D #[])
  (al:∀s5 O ys k,Inv (I_ X N scope C s H G) [] (lg B.length b6++σ) O s5->O D=b6->Vals ys k->s5.heap.PlainList D k.toArray->ys.length<=cK->(∀p,O p=b6->Q (.ref p) (upd O p (.lst ys)))->R (.ok .next) s5) :
  Oz (i4 X.prog X.w) X.A (.compStart (.ListComp elt [⟨tg,am,ac,0⟩] scope pos) 0 (.ref it) (.ref D) (Vy scope (K5 X scope C) C X.env)) R s4:=by
 have Lm:∀b∈G,@PQ Nat _ b s.heap.objs.size:=λb h=>by
  obtain⟨o,e,_⟩:=T.obj 0 s.heap st b h;show i6 e
 have I4:Inv (I_ X N scope C s H G) [] (lg B.length b6++σ) H s4:=wK S I ⋯ LR Ll VP keep ns λb h=>⟨f2 b h,Lm b h⟩
 have N9:tn 0 s4.heap:=T.keep 0 s.heap s4.heap st λb _ o e=>keep b o e;have nD:H D=b6:=I.HA.fresh ⋯;obtain⟨W,⟨m0,w0⟩,Zd⟩:=W;generalize l:I_ X N scope C s H G=f at I4 al;have eP:f.prog=X.prog:=by rw[<-l];rfl
 have ew:f.w=X.w:=by rw[<-l];rfl
 have eK:f.K=X.K:=by rw[<-l];rfl
 have ec:f.calm=bD:=by rw[<-l];show hc
 have eA:f.A=X.A:=by rw[<-l];rfl
 have ee:f.env=Vy scope (K5 X scope C) C X.env:=by rw[<-l];rfl
 have RU:f.xe=λ_ _=>False:=by rw[<-l];rfl
 have el:f.env.locals=C:=by rw[ee];rfl
 have Qk:PG f tg g:=by rw[<-l];show hg _ _ _ _
 have VQ:L_ f ac tt:=by rw[<-l];show hf _ _ _ _
 have OU:PE f elt te:=by rw[<-l];show he _ _ _ _
 have s0:f.s₀=s:=by rw[<-l];rfl
 have OV:f.pn=[]:=by rw[<-l];rfl
 have RV:∀{H':Hp} {o:Obj},(∀b∈G,H' b=b6)->∀b∈G,gM f [(D,o)] H' b:=λ{H' o} hn b h=>by
  have ex:f.ex=G:=by rw[<-l];rfl
  show⟨hn b h,?_,?_,.inl (by rw[ex];show h),λx c e=>?_,λp L=>?_⟩
  .rw[el];have:=Lm b h;show ke (by change @PQ Nat _ b C;lia)
  .have e1:f.fs=Io X.stack:=by rw[<-l];rfl
   rw[e1];intro z;have⟨f0,f1,VR,f3,f4,f5⟩:=f2 b h;rcases gj.mp (I.kl b z) with q|q
   .show f1 q
   .show VR q
  .have e1:f.env.cells=K5 X scope C:=by rw[ee];rfl
   rw[e1]at e;rcases ir _ _ _ e with z|z
   .have:=Lm b h;have:=z.2;show LO (by change @PQ Nat _ b c;lia)
   .show(f2 b h).2.2.2.2.1 x c (eY scope.names [] (λn c e=>by simp at e) x c z)
  .rw[OV,my]at L;have:p=(D,o):=by simpa using L
   subst this;have:=Lm b h;show LO (by change @PQ Nat _ b D;lia)
 have RW:∀{σ':St} {H':Hp} {s':gm} {o:Obj},Inv f [] σ' H' s'->H' D=b6->s'.heap.get? D=a5 o->(∀v,o.data≠.cell v)->Inv f [(D,o)] σ' H' s':=λ{σ' H' s' o} I' n e d =>
  I'.fX λp L=>by
   have:p=(D,o):=by simpa using L
   subst this;show⟨e,n,?_,?_,d⟩
   .rw[el];show ke (by change @PQ Nat _ D C;lia)
   .have e1:f.fs=Io X.stack:=by rw[<-l];rfl
    rw[e1];intro z;have zz:(D:gi)∈Io X.stack:=z;rcases gj.mp (I.kl D zz) with q|q
    .have:=I.lt;rw[<-q]at this;show absurd this (by change ¬@PQ Nat _ D s.heap.objs.size;lia)
    .show I.ES (a:=D) ⋯ q
 have start:∀s':gm,s'=s4->Oz (i4 X.prog X.w) X.A (.compLoop (.ListComp elt [⟨tg,am,ac,0⟩] scope pos) 0 (.ref it) (.ref D) (Vy scope (K5 X scope C) C X.env)) R s':=by
  rintro s' rfl;show nX (λn s'=>∃i ys k H',Inv f [] (lg B.length b6++σ) H' s'/\tn i s'.heap/\(∀b∈G,H' b=b6)/\H' D=b6/\Vals ys k/\s'.heap.PlainList D k.toArray/\W i n ys H') ?_ m0
   ⟨0,[],[],H,I4,N9,λb h=>(f2 b h).1,nD,.nil,pl,w0⟩
  rintro n s3 ⟨i,ys,k,H3,I3,Ii,OK,Uc,Ql,⟨nn,VS⟩,w3⟩;have⟨Y,OW⟩:=Zd i n ys H3 w3;have IP:=RW I3 Uc VS (λv z=>by have z':Data.seq _ _=Y8 v:=z;cases z');rcases OW with⟨an,qn⟩|⟨go,NN,Ud,ap⟩
  .have d:=T.done f eP ew eK ec i _ s3 _ H3 (Se (i4 X.prog X.w) X.A (Vy scope (K5 X scope C) C X.env) λe s'=>R (.error e) s') IP (RV OK) Ii an;rw[eA]at d;show HE d λr s4 RX=>?_;have⟨hr,I5⟩:=RX;subst hr;have e5:=(I5.pin (D,({cls:=.type "list",data:=.seq k.toArray nn}:Obj)) (by rw[OV];simp)).1;show al s4 H3 ys k (I5.fX λp L=>by cases L) Uc Ql ⟨nn,e5⟩ Y qn
  .have d:=T.item f eP ew eK ec i _ s3 _ H3 (Se (i4 X.prog X.w) X.A (Vy scope (K5 X scope C) C X.env) λe s'=>R (.error e) s') IP (RV OK) Ii go;rw[eA]at d;show HE d λr s4 RY=>?_;have⟨u,hr,h4⟩:=RY;subst hr;show HE h4 λ_ s5 RZ=>?_;have⟨x,O,I5,r5,y5,K3,Rn⟩:=RZ;have X9:O D=b6:=(I5.pin (D,({cls:=.type "list",data:=.seq k.toArray nn}:Obj)) (by rw[OV];simp)).2.1;have Ro:=I5.pinned (RV Rn) (T.obj _ _ K3);have a6:=Qk _ s5 _ O x u _ Ro r5 (ap x O y5);rw[eP,ew,eA,ee,RU]at a6;show td a6 (λ_ s6 ⟨σ6,H6,I6,q6⟩=>?_) λ_ _ z=>JQ z;have⟨ow,as,rfl,q6⟩:=q6;have a7:=VQ _ s6 _ H6 _ I6 q6;rw[eP,ew,eA,ee,RU]at a7;show td a7 (λb s7 ⟨H7,I7,q7⟩=>?_) λ_ _ z=>JQ z;have back:∀{s8:gm} {t:Hp} {JH:List V} {its':List dV} {nn':Nat},Inv f [] (ow++σ) t s8->tn (i+1) s8.heap->(∀b∈G,t b=b6)->t D=b6->Vals JH its'->s8.heap.PlainList D its'.toArray->(∃m',m'<n/\W (i+1) m' JH t) ->
     ∃m,m<n/\∃i ys k H',Inv f [] (lg B.length b6++σ) H' s8/\tn i s8.heap/\(∀b∈G,H' b=b6)/\H' D=b6/\Vals ys k/\s8.heap.PlainList D k.toArray/\W i m ys H':=λ{s8 t JH its' nn'} I8 VT VU n8 VV VW w8=>by
    have⟨m',hm,w8⟩:=w8;show⟨m',hm,i+1,JH,its',t,I8.weak (by simp[as]) (λj v e=>?_),VT,VU,n8,VV,VW,w8⟩;by_cases hj:j<B.length
    .rw[nc (by simpa using hj),Hf]at e;split at e<;>cases e
    .rw[mu (by simpa using(Nat.not_lt.mp hj)),P0]at e;rw[mu ⋯,as];show e
   have ab:∀{σ':St} {t:Hp} {s8:gm},Inv f ([(D,({cls:=.type "list",data:=.seq k.toArray nn}:Obj))]++kn G s5.heap) σ' t s8->s8.heap.get? D=a5 {cls:=.type "list",data:=.seq k.toArray nn}/\t D=b6/\tn (i+1) s8.heap/\∀b∈G,t b=b6:=λ{σ' t s8} I8=>by
    have p1:=I8.pin (D,({cls:=.type "list",data:=.seq k.toArray nn}:Obj)) (by rw[OV];simp);show⟨p1.1,p1.2.1,T.keep _ _ _ K3 λb h o e=>(I8.pin (b,o) (ti _ (ti _ (eW h e)))).1,λb h=>?_⟩;have⟨o,e,d⟩:=T.obj _ _ K3 b h;show(I8.pin (b,o) (ti _ (ti _ (eW h e)))).2.1
   cases b with
   |false =>
    rw[ë ko]at q7 ⊢;have⟨p1,p2,p3,p4⟩:=ab I7;show back (nn':=0) (I7.fX λp L=>by cases L) p3 p4 p2 Ql ⟨nn,p1⟩ (Ud _ _ q7)
   |true =>
    rw[ê rfl]at q7 ⊢;have a8:=OU _ s7 _ H7 _ I7 q7;rw[eP,ew,eA,ee,RU]at a8;show td a8 (λy s8 ⟨yv,t,I8,r8,q8⟩=>?_) λ_ _ z=>JQ z;have⟨p1,p2,p3,p4⟩:=ab I8;have hsz:k.toArray.size<=cK:=by rw[hH,<-Ql.length];show Y
    show wpAny_list_append_plain (hsz:=hsz) ⟨nn,p1⟩ λh9 VX Ue=>?_;have VY:Inv f [] (ow++σ) t s8:=I8.fX λp L=>by cases L
    have Qm:∀x c,f.env.cells.lookup x=a5 c->c≠D:=λx c e=>by
     have e1:f.env.cells=K5 X scope C:=by rw[ee];rfl
     rw[e1]at e;rcases ir _ _ _ e with z|z
     .have:=z.2;show LO (by change @PQ Nat _ D c;lia)
     .have⟨v,z⟩:=I.cell x c (eY scope.names [] (λn c e=>by simp at e) x c z);have:@PQ Nat _ c s.heap.objs.size:=z.lt;show ke (by change @PQ Nat _ c D;lia)
    have I9:Inv f [] (ow++σ) t {s8 with heap:=h9,toks:=s8.toks}:=VY.turned (it:=D) (λb o h e=>(Ue.2 b h).trans e) p2 (by rw[el];show ke (by change @PQ Nat _ D C;lia)) (.inr (by rw[s0];change @Zr Nat _ s.heap.objs.size D;lia)) Qm (λp L=>by rw[OV]at L;cases L);have VZ:(k++[y]).toArray=k.toArray.push y:=by simp
    show back (nn':=0) (s8:={s8 with heap:=h9,toks:=s8.toks}) I9 (T.keep _ _ _ p3 λb h o e=>(Ue.2 b ?_).trans e) p4 p2 (Ql.append (.cons r8 .nil)) (by rw[VZ];show VX) (Ud _ _ q8);have:=Lm b h;show ke (by change @PQ Nat _ b D;lia)
 show codeAny_compStart_list (start _ rfl) (T.self _ _ _ _ _ N9 (start _ rfl))
def q9
  (f:Q (newEnv scope s.heap.objs.size b (Md (s.heap.objs.size+1) scope.names cl) d b6 .none (a5 c) a) {s with heap:=Q_ (s.heap.push {cls:=.type "dict",data:=.dict #[]}) scope.names}) :
  gs M A (XE scope b cl [] d b6 .none (a5 c) a) Q E s:=by
 simp only[XE,X8,if_true];show b8 (wpAny_alloc ?_);show b8 (wpAny_layCells _ (λname kind e=>by cases g:kind==Km<;>simp[g]) _ _ _ _ ?_);rw[show({s with heap:=s.heap.push {cls:=.type "dict",data:=.dict #[]}}:gm).heap.objs.size=s.heap.objs.size+1 from MF ..];show b8 ?_;rw[List.forIn_nil];show fx (fx f)
def kI{RR:dV->gi->Result->gm->Prop}
    (S:cR X N f scope) (B:X.calm=bD) (G:∀C s H ex,PG (I_ X N scope C s H ex) r g) (L:∀C s H ex,L_ (I_ X N scope C s H ex) l O) (Y:∀C s H ex,PE (I_ X N scope C s H ex) elt te)
 (I:Inv X h σ H s) (T:Turn X.prog X.w X.K r J t it tn) (st:tn 0 s.heap) (f2:∀b∈t,gM X h H b) (W:sU f.length J g O te Q σ H)
    (m:∀D C i d ys k,@Eq Nat D s.heap.objs.size->@Eq Nat C (s.heap.objs.size+1)->Inv (I_ X N scope C s H t) [] (lg f.length b6++σ) d i->d D=b6->Vals ys k->i.heap.PlainList D k.toArray->ys.length<=cK->(∀p,d p=b6->Q (.ref p) (upd d p (.lst ys)))->RR (.ref D) C (.ok .next) i) :
    gs (i4 X.prog X.w) X.A (newList []) (λj s₃=>gs (i4 X.prog X.w) X.A (XE scope X.env.globals (bz X.env scope.names []) [] X.env.qual b6 .none (a5 X.env)) (λu s₄ =>
      Oz (i4 X.prog X.w) X.A (.compStart (.ListComp elt [⟨r,v,l,0⟩] scope pos) 0 (.ref it) j {u with scope:=Sb scope X.env}) (RR j u.locals) s₄) E s₃) E s:=by
  show z8 (q9 ?_)
  dsimp only
  generalize n:s.heap.push {cls:=.type "list",dict:=b6,data:=.seq ([]:List dV).toArray}=a;have y:a.objs.size=s.heap.objs.size+1:=by rw[<-n,MF]
  have z:∀b o,a.get? b=a5 o->(Q_ (a.push {cls:=.type "dict",data:=.dict #[]}) scope.names).get? b=a5 o:=λb o e=>WI _ _ b o (df _ e);have q:∀b o,s.heap.get? b=a5 o->(Q_ (a.push {cls:=.type "dict",data:=.dict #[]}) scope.names).get? b=a5 o:=λb o e=>z b o (n▸df _ e);have IV:(Q_ (a.push {cls:=.type "dict",data:=.dict #[]}) scope.names).PlainList s.heap.objs.size #[]:=⟨_,z _ _ (n▸hW _ rfl)⟩
  have LR:∀x c,(K5 X scope a.objs.size).lookup x=a5 c->(Q_ (a.push {cls:=.type "dict",data:=.dict #[]}) scope.names).IsCell c b6\/(bz X.env scope.names []).lookup x=a5 c:=λx c e=>by
    show nW scope.names (a.push {cls:=.type "dict",data:=.dict #[]}) _ ?_;rw[MF];show e
  show wM (s:=s) (s4:={s with heap:=Q_ (a.push {cls:=.type "dict",data:=.dict #[]}) scope.names}) (C:=a.objs.size) (D:=s.heap.objs.size) S B G L Y I T st f2 W rfl y LR rfl rfl q ⟨_,(Heap.Ns.new a (.type "dict")).keeps (WI _ _)⟩ IV
    λi d ys k I5 n5 OY OZ O0 q5=>m _ _ i d ys k rfl y I5 n5 OY OZ O0 q5
def Aj(S:cR X N c scope)(n:X.calm=bD)(hi:PI X i a o)(p:∀C s H ex,PG (I_ X N scope C s H ex) i g)(q:∀C s H ex,L_ (I_ X N scope C s H ex) d r)(t:∀C s H ex,PE (I_ X N scope C s H ex) elt u)
  (hs:∀x,MB a X.env x=pure x:=by intro _;rfl):PE X (.ListComp elt [⟨i,a,d,0⟩] scope pos) (wL c.length o g r u):=by
 intro b s σ H Q I h;rw[eval_ListComp];show Yw (use:=b6) (cl:=bz X.env scope.names []) rfl hs (eF (S.cells I.ok)) S.kind S.names ?_;show HE (hi b s σ H _ I h) λv s1 y=>HE y λQc s2 z=>?_;have⟨it,fp,tn,J,H2,e,j,T,st2,k,W⟩:=z;subst e;show kI (RR:=λf C=>compPost (i4 X.prog X.w) X.A X.xe b6 (EP X b σ Q) f C) S n p q t j T st2 k W ?_;intro D C s5 H5 ys B' B hC l m G L O Y;obtain⟨m5,R4,_⟩:=l.loc;show⟨m5,R4,λh' sb=>⟨.ref D,_,pK j l (Uq B.symm) (by change @Zr Nat _ s2.heap.objs.size C;lia) (ke (by change @PQ Nat _ D C;lia)) m G L O sb k,rfl,Y D m⟩⟩
def Ak(S:cR X N r scope)(hc:X.calm=bD)(hN:X.N.Nodup)(Qn:X.N[i]?=a5 y)(L:X.env.scope.names.lookup y=a5 .local)
  (hi:PI X n d wi) (hg:∀C s H ex,PG (I_ X N scope C s H ex) n g) (hf:∀C s H ex,L_ (I_ X N scope C s H ex) k tt) (he:∀C s H ex,PE (I_ X N scope C s H ex) elt te)
  (ML:Ou (.ListComp elt [⟨n,d,k,0⟩] scope pos) (a5 (.Name y m)) KG.line X.env=pure bD:=by rfl)
  (hs:∀x,MB d X.env x=pure x:=by intro _;rfl):PS X (.Assign [.Name y m] (.ListComp elt [⟨n,d,k,0⟩] scope pos) KG) (CM (wL r.length wi g tt te) (sF i)):=by
 intro f s σ H D I h;rw[exec_Assign_Name_used _ _ _ _ ML];show b8 (Yu (b8 ?_));change gs _ X.A (do let _ <-comprehension (.ListComp elt [⟨n,d,k,0⟩] scope pos) scope X.env _ (newList []) cb (uk d X.env) (a5 (Rr (.Name y m) X.env))) _ _ s;show b8 (td (Yw (use:=a5 (Rr (.Name y m) X.env)) (cl:=bz X.env scope.names []) (Q:=λ_ s'=>SP X f D .next s') rfl hs (eF (S.cells I.ok)) S.kind S.names ?_) (λ_ s' hq=>fx (fx hq)) λ_ _ e=>e);show HE (hi f s σ H _ I h) λv s1 h1=>HE h1 λQc s2 h2=>?_;have⟨it,fp,tn,J,H2,e,l,T,st2,O,W⟩:=h2;subst e;show kI (RR:=λt C=>compPost (i4 X.prog X.w) X.A X.xe (a5 (Rr (.Name y m) X.env)) (λ_ s'=>SP X f D .next s') t C) S hc hg hf he l T st2 O W ?_;intro j C q u ys B' hD hC G Y OY OZ O0 q5;obtain⟨m5,R4,_⟩:=G.loc;have V1:u C=b6:=G.free;have B:Inv X f σ (upd u j (.lst ys)) {q with heap:=q.heap}:=pK l G (Uq hD.symm) (by change @Zr Nat _ s2.heap.objs.size C;lia) (ke (by change @PQ Nat _ j C;lia)) Y OY OZ O0 (Wq ..) O;change gs _ X.A (Rr (.Name y m) X.env (.ref j)) _ _ q;show ZQ (mq (s:=q) B hN Qn (.inl L) (show RelV (.ref j) (.ref j) from rfl) (λs6 I6 ⟨a,sb,ha⟩=>?_) (.inr L));have Qm:@PQ Nat _ X.env.locals C:=by have:@PQ Nat _ X.env.locals s2.heap.objs.size:=l.lt;lia
 have Ln:∀x c,X.env.cells.lookup x=a5 c->c≠C:=λx c e=>by
  have⟨v,z⟩:=l.cell x c e;have:@PQ Nat _ c s2.heap.objs.size:=z.lt;show ke (by change @PQ Nat _ c C;lia)
 have V2:C≠a:=by
  rcases ha with z|z
  .rw[z];show LO Qm
  .show(Ln _ _ z).symm
 show⟨m5,R4.sameBut sb V2,λh' V3=>?_⟩;show⟨σ.set i (a5 (.ref j)),upd u j (.lst ys),I6.turned (it:=C) (t':=s6.toks) (λb o hb e=>(V3.2 b hb).trans e) ?_ (LO Qm) (.inr (by have:@Zr Nat _ X.s₀.heap.objs.size s2.heap.objs.size:=l.sz;change @Zr Nat _ X.s₀.heap.objs.size C;lia)) Ln (λp hp=>?_),q5 j Y⟩
 .rw[ak (LO (by change @PQ Nat _ j C;lia))];show V1
 .have:@PQ Nat _ p.1 s2.heap.objs.size:=i6 (l.pin p hp).1;show ke (by change @PQ Nat _ p.1 C;lia)
end
section
abbrev R5(x:Str):It:=⟨λi _=>i<x.cps.toList.length,λi H v H'=>H'=H/\∃c,x.cps.toList[i]?=a5 c/\v=.str ⟨#[c]⟩,λi _=>x.cps.toList.length<=i⟩
def pL{K:PySem.W.Frag}(it:gi)(J:["enumerate","zip","dict_itemiterator","dict_reverseitemiterator","odict_iterator","itertools.zip_longest","itertools.pairwise"].contains g=cb)
  (L:∀(A:Li) (s:gm) (i c:Nat) (Q:Option dV->gm->Prop) (E:dV->gm->Prop),s.heap.IsStrIter it g x t i->x.cps[i]?=a5 c->(∀h',h'.IsStrIter it g x t (i+1)->KX it s.heap h'->Q (a5 (.str ⟨#[c]⟩ s.toks)) {s with heap:=h',toks:=s.toks+1})->gs (i4 P w) A (RE (.ref it)) Q E s)
  (N:∀(A:Li) (s:gm) (i:Nat) (Q:Option dV->gm->Prop) (E:dV->gm->Prop),A.handled=b6->s.heap.IsStrIter it g x t i->x.cps[i]?=b6->(∀h',Ve it s.heap h'->Q b6 {s with heap:=h' })->gs (i4 P w) A (RE (.ref it)) Q E s)
  (O:∀(A:Li) (i:Nat) (s:gm) (Q:dV->gm->Prop) (E:dV->gm->Prop),s.heap.IsStrIter it g x t i->Q (.ref it) s->gs (i4 P w) A (XD (.ref it)) Q E s) :
  Turn P w K tg (R5 x) [it] it (λi h=>h.IsStrIter it g x t i) where
 mem:=by simp
 obj:=λi h st b f=>by
  have e:b=it:=by simpa using f
  subst e;have⟨o,e,c,d⟩:=st;show⟨o,e,λv z=>by rw[d]at z;cases z⟩
 keep:=λi h h' st k=>let ⟨o,ho,r⟩:=st;⟨o,k it (by simp) o ho,r⟩
 item:=by
  intro X l m n D i a s σ H E I j st p;subst l m n;have⟨q,u,T,y,B,C⟩:=j it (by simp);have G:i<x.cps.toList.length:=p;show L X.A s i x.cps.toList[i] _ _ st (by simp) λh' st' Y=>?_;have I1:Inv X a σ H {s with heap:=h',toks:=s.toks+1}:=I.turned (λb o f e=>(Y.2 b f).trans e) q u y B C;have⟨o,e,cc,d⟩:=id st';show⟨_,rfl,sH (s:={s with heap:=h',toks:=s.toks+1}) e cc d J ⟨.str ⟨#[x.cps.toList[i]]⟩,H,I1,⟨_,rfl⟩,⟨rfl,_,by simp,rfl⟩,st',λb f=>(j b f).1⟩⟩
 done:=by
  intro X l m n D i a s σ H E I j st p;subst l m n;have⟨q,u,T,y,B,C⟩:=j it (by simp);have G:x.cps.toList.length<=i:=p;show N X.A s i _ _ (I.ok.hd D) st (by simpa using G) λh' eb=>⟨rfl,I.turned (t':=s.toks) (λb o f e=>eb b o f e) q u y B C⟩
 self:=λA i s Q E st h=>O A i s Q E st h
abbrev Ha(a:TE):TI:=λσ H R=>a σ H λv b=>∃x,v=.str x/\R (R5 x) b
def Dh(hl:PE X l p):PI X y l (Ha p):=by
 intro d s σ H R I h;show HE (hl d s σ H _ I h) λv s1 r=>?_;have⟨x,j,g,r1,u⟩:=r;have⟨z,rfl,q⟩:=u;have⟨t,rfl⟩:=r1;have m:∀b∈[s1.heap.objs.size],gM X d j b:=λb w=>by
  have e:b=s1.heap.objs.size:=by simpa using w
  subst e;show g.wb (i5 _) (g.HA.fresh (i5 _))
 cases n:z.cps.all (·<128) with
 |true =>
  show wpAny_pyIter_ascii n ?_;show⟨s1.heap.objs.size,[s1.heap.objs.size],_,_,j,rfl,g.kept (t':=s1.toks) λb o e=>df _ e,
   pL (x:=z) (t:=t) _ (by decide) (λA s i c Q E st f a=>wpAny_pyNext_ascii_item st f a) (λA s i Q E k st f a=>wpAny_pyNext_ascii_end k st f a) (λA i s Q E st a=>wpAny_pyIter_striter_ascii st a),
   ⟨_,hW _ rfl,rfl,rfl⟩,m,q⟩
 |false =>
  show wpAny_pyIter_wide n ?_;show⟨s1.heap.objs.size,[s1.heap.objs.size],_,_,j,rfl,g.kept (t':=s1.toks) λb o e=>df _ e,
   pL (x:=z) (t:=t) _ (by decide) (λA s i c Q E st f a=>wpAny_pyNext_wide_item st f a) (λA s i Q E k st f a=>wpAny_pyNext_wide_end k st f a) (λA i s Q E st a=>wpAny_pyIter_striter_wide st a),
   ⟨_,hW _ rfl,rfl,rfl⟩,m,q⟩
end
section
abbrev Fu:V->Option Int->Option Int->Hp->VK->Prop:=λx lo hi H Q=>∃z,x=.str z/\z.length<=cK/\Q (.str (PySem.StrLaws.sliceText z lo hi)) H
def lV(x:Str)(lo hi:Option Int)(hz:x.length<=cK):(PySem.StrLaws.sliceText x lo hi).length<=cK:=uv (Txt.slice_le x lo hi) hz
def Di:LP X Fu:=by
 intro b s σ H x v g m lo hi n Q I f hs pl d h;have⟨z,rfl,hz,q⟩:=h;have⟨t,rfl⟩:=f;show⟨"str",_,Ä.lookup,Ri _ _ _,?_⟩;have a:(PySem.StrLaws.sliceText z lo hi).length<=cK/\∀t' k,EP X b σ Q (.str (PySem.StrLaws.sliceText z lo hi) t') {s with toks:=k}:=⟨lV z lo hi hz,λt' k=>⟨.str _,H,I.tok k,⟨_,rfl⟩,q⟩⟩
 cases pl with
 |none =>
  cases d with
  |none=>show PN (l:=b6) (u:=b6) (st:=b6) hs rfl (Sq a)
  |int j c=>show PN (l:=b6) (u:=a5 (j,c)) (st:=b6) hs rfl (Sq a)
 |int i e =>
  cases d with
  |none=>show PN (l:=a5 (i,e)) (u:=b6) (st:=b6) hs rfl (Sq a)
  |int j c=>show PN (l:=a5 (i,e)) (u:=a5 (j,c)) (st:=b6) hs rfl (Sq a)
def pM:N5 X "str.endswith" (λx xs H Q=>∃a b,x=.str a/\xs=[.str b]/\Q (.bl (Z_ a b)) H):=by
 intro c s σ H x xs v us Q I d rs h;have⟨a,b,rfl,rfl,q⟩:=h;have⟨t,rfl⟩:=d;have⟨u,rfl,t',rfl⟩:=vals1 rs;show SC.endswith ⟨.bl _,H,I,rfl,q⟩
def nY:N5 X "str.partition" (λx xs H Q=>∃a b,x=.str a/\xs=[.str b]/\(b.length==0)=cb/\a.length<=cK /\
  ∀p,H p=b6->Q (.ref p) (upd H p (.tup [.str (o9 a b).1,.str (o9 a b).2.1,.str (o9 a b).2.2]))):=by
 intro d s σ H x xs v us Q I j rs h;have⟨a,b,rfl,rfl,l,hz,q⟩:=h;have⟨t,rfl⟩:=j;have⟨u,rfl,t',rfl⟩:=vals1 rs;show Po F.slot_str_partition (Ri _ _ _) F.entry_str_partition (F.args_str_partition_2 _ _) (meets_str_partition a b t t' l hz) ?_;have m:H s.heap.objs.size=b6:=I.HA.fresh (i5 _);have n:=q _ m;have c:∀(f g i:Tok) (k:Nat),EP X d σ Q (.ref s.heap.objs.size) {s with toks:=k,heap:=s.heap.push {cls:=.type "tuple",data:=.seq [.str (o9 a b).1 f,.str (o9 a b).2.1 g,.str (o9 a b).2.2 i].toArray}}:=λf g i k =>
  ⟨.ref s.heap.objs.size,_,I.laid (t':=k) (o:=.tup [.str (o9 a b).1,.str (o9 a b).2.1,.str (o9 a b).2.2]) (λb u e=>df _ e) (i5 _)
   ⟨by change 3<=cK;decide,_,.cons ⟨f,rfl⟩ (.cons ⟨g,rfl⟩ (.cons ⟨i,rfl⟩ .nil)),⟨_,hW _ rfl,rfl,_,rfl⟩⟩,rfl,n⟩
 revert c;unfold o9;cases tA a b 0 a.length 1 with
 |_=>intro c;show c _ _ _ _
theorem mI:∀(l:List (Str×Tok)),Vals (l.map λp=>V.str p.1) (YJ l)
 |[]=>.nil
 |(x,t)::r=>.cons ⟨t,rfl⟩ (mI r)
theorem iu:∀{ys:List Str}{a:List dV},Vals (ys.map V.str) a->∃l:List (Str×Tok),a=YJ l/\l.map (·.1)=ys
 |[],_,.nil=>⟨[],rfl,rfl⟩
 |y::ys,_,.cons r t=>by
  have⟨b,rfl⟩:=r;have⟨l,rfl,e⟩:=iu t;show⟨(y,b)::l,rfl,by rw[g8,e]⟩
def wN:N5 X "str.split" (λx xs H Q=>∃a b,x=.str a/\xs=[.str b]/\(b.length==0)=cb/\a.length+2<=cK /\
  ∀p,H p=b6->Q (.ref p) (upd H p (.lst ((OT a b).map V.str)))):=by
 intro g s σ H x xs v us Q I j rs h;have⟨x,y,rfl,rfl,i,hz,q⟩:=h;have⟨t,rfl⟩:=j;have⟨u0,rfl,u,rfl⟩:=vals1 rs;have d:H s.heap.objs.size=b6:=I.HA.fresh (i5 _);have m:=q _ d;have c:∀(l:List (Str×Tok)) (k:Nat),l.length<=cK->l.map (·.1)=OT x y->EP X g σ Q (.ref s.heap.objs.size) {s with toks:=k,heap:=s.heap.push {cls:=.type "list",data:=.seq (YJ l).toArray}}:=λl k hl e =>
  ⟨.ref s.heap.objs.size,_,I.laid (t':=k) (o:=.lst ((OT x y).map V.str)) (λb u e=>df _ e) (i5 _)
   ⟨by rw[<-e,dr,dr];show hl,YJ l,_,by rw[<-e,mh];show mI l,hW _ rfl⟩,rfl,m⟩
 have one:1<=cK:=by decide
 cases f:(cL (x.length<y.length)||decide (VO x<VO y))
 .cases d:(tA x y 0 x.length (x.length+1)).isEmpty
  .have n:(NC x (tA x y 0 x.length (x.length+1)) y.length).length<=cK:=by
    have:=PySem.StrLaws.occ_length_le x y 0 x.length (x.length+1);simp only[NC,dr,Vm,k9,j0];lia
   show Po VB (Ri _ _ _) Vi (Ug _ _) (meets_str_split_sep x y t u f i d ⋯ n) ?_;change wants _ _ _ {s with toks:=_,heap:=s.heap.push {cls:=.type "list",data:=.seq (strsFrom s.toks (NC x (tA x y 0 x.length (x.length+1)) y.length)).toArray}};rw[strsFrom_eq];show c (numbered s.toks _) _ ?_ ((Ù _ _).trans ((ë (ne_true_of_eq_false f)).trans (ë (ne_true_of_eq_false d))).symm);have e:=ï Jt (Ù s.toks (NC x (tA x y 0 x.length (x.length+1)) y.length));rw[dr]at e;lia
  .show Po VB (Ri _ _ _) Vi (Ug _ _) (meets_str_split_not_found x y t u f i d)
    (c [(x,t)] _ one ((ë (ne_true_of_eq_false f)).trans (ê d)).symm)
 .show Po VB (Ri _ _ _) Vi (Ug _ _) (meets_str_split_cannot_occur x y t u f)
   (c [(x,t)] _ one (ê f).symm)
def Al:N5 X "str.join" (λx xs H Q=>∃a p ys,x=.str a/\xs=[.ref p]/\Ip X.K H p (ys.map V.str)/\ZG a ys=bD/\Q (.str (Ub a ys)) H):=by
 intro b s σ H x xs v us Q I c rs h;have⟨a,p,ys,rfl,rfl,d,f,q⟩:=h;have⟨t,rfl⟩:=c;have⟨u,rfl,r⟩:=vals1 rs;cases r;have⟨g,rv,pl,hz⟩:=I.list d;have⟨l,rfl,e⟩:=iu rv;show SC.join pl.isList e f λt' k=>⟨.str _,H,I.tok k,⟨_,rfl⟩,q⟩
theorem jC:∀{bs:List Bool}{a:List dV},Vals (bs.map V.bl) a->a=bs.map PY
 |[],_,.nil=>rfl
 |b::bs,_,.cons r t=>by
  cases r;rw[jC t];rfl
def wO:X.calm=bD->gG X (.builtin "all") (λxs H Q=>∃(p:gi) (bs:List Bool),xs=[.ref p]/\Ip X.K H p (bs.map V.bl)/\Q (.bl (bs.all id)) H):=by
 intro f c s σ H xs us Q I rs h;have⟨p,bs,rfl,g,q⟩:=h;have⟨u,rfl,r⟩:=vals1 rs;cases r;have⟨m,rv,pl,hz⟩:=I.list g;have e:=jC rv;subst e;have j:p<s.heap.objs.size:=by obtain⟨_,_,e,_⟩:=pl;show i6 e
 show call_all_walk (Vq pl.isList ?_);show⟨s.heap.objs.size,[s.heap.objs.size,p],[s.heap.objs.size],(bs.map PY).toArray.size,_,_,λi=>(bs[i]?).getD bD,rfl,Z9 (A:=X.A.in1) (I.ok.hd f) _ p (ke j) (bs.map PY).toArray,
  ⟨⟨_,hW _ rfl,rfl,rfl⟩,pl.isList.push _⟩,λi v s' Q' n k d=>?_,λh' l hk=>?_⟩
 .have a:(bs.map PY)[i]?=a5 v:=by simpa using k
  rw[pa]at a;cases e:bs[i]? with
  |none=>rw[e]at a;cases a
  |some b =>
   rw[e]at a;cases a;simp only[e,Option.getD_some]at d;show Jx d
 .have e:((il (bs.map PY).toArray.size).all λi=>(bs[i]?).getD bD)=bs.all id:=by
   rw[hH,dr];show Zv bs
  rw[e];show⟨.bl _,H,I.kept (t':=l) (Zw hk),rfl,q⟩
end
section
end
abbrev Dj(N a:List Str)(scope:L9)(out:List (Str×K9)):Bool :=
 cL (scope.kind=.function)&&scope.names.all (λy=>cL (scope.names.lookup y.1=a5 y.2))&&scope.names.all (λy=>cL (y.2≠.cell)||decide (y.1∈a))&&decide N.Nodup&&cL (N.take a.length=a) &&
 scope.names.all (λy=>cL (y.2≠.local)||decide (y.1∈a)||decide (y.1=".0"))&&cL ((".0":Str)∉N)&&scope.names.all (λy=>cL (y.2≠.free)||decide (out.lookup y.1=a5 .cell)||decide (out.lookup y.1=a5 .free))&&scope.names.all (λy=>cL (y.1≠".")&&cL (y.1≠".."))
def wQ(c:X.env.scope.names=out)(d:d9 (N.drop a.length) X.N)(h:Dj N a scope out=bD):cR X N a scope:=by
 unfold Dj at h;simp only[b7,rr,OF,é]at h;obtain⟨⟨⟨⟨⟨⟨⟨⟨f,g⟩,i⟩,j⟩,k⟩,l⟩,m⟩,n⟩,o⟩:=h;show⟨f,g,λy b e=>?_,j,k,λy b e=>?_,m,d,λy b e=>?_,o⟩
 .rcases i y b with z|z
  .show absurd e z
  .show z
 .rcases l y b with(z|z)|z
  .show absurd e z
  .show .inl z
  .show .inr z
 .rw[c];rcases n y b with(z|z)|z
  .show absurd e z
  .show .inl z
  .show .inr z
section
end
section
end
abbrev J0(a b:Str):Bool:=!cL (b.cps.toList<a.cps.toList)
def j7(a b:Str):J0 a b=bD↔a.cps.toList<=b.cps.toList:=by
 simp only[J0,rz,decide_eq_false_iff_not];show List.not_lt
def mJ(a b c:Str)(d:J0 a b=bD)(e:J0 b c=bD):J0 a c=bD:=by
 rw[j7]at d e ⊢;show List.le_trans d e
def uN(a b:Str):(J0 a b||J0 b a)=bD:=by
 rw[OF,j7,j7];show List.le_total _ _
def wR{x y:Str}(h:x.cps.toList=y.cps.toList):x=y:=by
 cases x;cases y;congr
 show UA.mp h
def nZ(c:J0 a b=bD)(d:J0 b a=bD):a=b:=by
 rw[j7]at c d;show wR (List.le_antisymm c d)
abbrev bF(l:List Str):List Str:=l.mergeSort J0
def cG(l:List Str):(bF l).Perm l:=List.mergeSort_perm l J0
def kJ(l:List Str):(bF l).Pairwise (λa b=>J0 a b=bD):=List.pairwise_mergeSort mJ uN l
theorem iw:∀(l:List Str) (p:Str),risingS p l=bD->(p::l).Pairwise (λa b=>J0 a b=bD)
 |[],p,_=>by simp
 |x::r,p,h=>by
  have h':(!ltCps x.cps.toList p.cps.toList&&risingS x r)=bD:=h;have⟨c,g⟩:=vu.mp h';have d:=iw r x g;have f:J0 p x=bD:=by rw[ltCps_eq]at c;show c
  show Q4.mpr ⟨λy i=>?_,d⟩;rcases gj.mp i with e|e
  .rw[e];show f
  .show mJ _ _ _ f ((Q4.mp d).1 y e)
def n9(h:sortedS l=bD):l.Pairwise (λa b=>J0 a b=bD):=by
 cases l with
 |nil=>show .nil
 |cons x r=>show iw r x h
theorem je:∀{l m:List Str},l.Perm m->l.Pairwise (λa b=>J0 a b=bD)->m.Pairwise (λa b=>J0 a b=bD)->l=m
 |[],m,c,_,_=>(List.Perm.nil_eq c)
 |x::l,m,c,d,f=>by
  cases m with
  |nil=>show absurd c.length_eq (by simp)
  |cons y m =>
   have⟨g,h⟩:=Q4.mp d;have⟨b1,i⟩:=Q4.mp f;have j:x=y:=by
    have m1:x∈y::m:=c.mem_iff.mp kj;have m2:y∈x::l:=c.mem_iff.mpr kj;rcases gj.mp m1 with e|e
    .show e
    .rcases gj.mp m2 with e'|e'
     .show e'.symm
     .show nZ (g y e') (b1 x e)
   subst j;rw[je (List.Perm.cons_inv c) h i]
def wU(a:l.Perm m)(hs:sortedS l=bD):l=bF m:=je (a.trans (cG m).symm) (n9 hs) (kJ m)
def jD(a:l.Perm m):bF l=bF m:=je ((cG l).trans (a.trans (cG m).symm)) (kJ l) (kJ m)
def iy(l:List Str):(bF l).length=l.length:=(cG l).length_eq
section
theorem dO:∀{ys:List Str}{a:List dV},Vals (ys.map V.str) a->Q8 a ys
 |[],_,.nil=>.nil
 |y::ys,_,.cons r t=>by
  have⟨b,rfl⟩:=r;show .cons y b (dO t)
theorem eZ:∀{a:List dV}{ys:List Str},Q8 a ys->Vals (ys.map V.str) a
 |_,_,.nil=>.nil
 |_,_,.cons x t h=>.cons ⟨t,rfl⟩ (eZ h)
theorem gP(hc:gs (i4 prog w) A.in1 (collect x) (λvs s1=>∃ss,Q8 vs ss/\vs.length<64 /\
      ∀(h':Kq) (vs':List dV) (e:Nat),(∀b o,s1.heap.get? b=a5 o->h'.get? b=a5 o)->h'.get? s1.heap.objs.size=a5 (E' "list" vs'.toArray e)->Q8 vs' (bF ss)->Q (.ref s1.heap.objs.size) {s1 with heap:=h' }) E s) :
    gs (i4 prog w) A (OD (.builtin "sorted") [x]) Q E s:=by
  refine VN kind_sorted plain_sorted entry_sorted (args_sorted1 _) ?_;unfold NV.«sorted»;refine b8 (m:=checkCount "sorted" 1 1 _) (fx ?_);refine b8 (td hc (λvs s1 h1=>?_) λ_ _ e=>e);obtain⟨ss,hS,Ma,h⟩:=h1
  refine wpAny_bind (wpAny_newList ?_ (by have : (64 : Nat) ≤ sizeLine := by decide
                                          lia))
  have L7:(s1.heap.push (E' "list" vs.toArray 0)).get? s1.heap.objs.size=a5 (E' "list" vs.toArray 0):=hW _ rfl;show gs _ _ _ _ _ {s1 with heap:=s1.heap.push (E' "list" vs.toArray 0)};refine b8 (D' (x8 ä ⟨_,L7,rfl⟩ Ð (list_sort_treeK strKind_oneLt L7 hS.keysOf (λv₁ v₂ rest e=>keyKind_strs (by rw[<-e];exact hS)) Ma λst' a1 a2=>⟨_,rfl,?_⟩) (ç _)));obtain⟨Ka,b1,b2,b3⟩:=sorted_out_str hS a1 a2;obtain⟨e,he⟩:=sortedHeap_at (out:=(arrOf st').map (·.2)) L7;rw[wU b2 b3]at b1;refine fx ⟨_,rfl,h _ ((arrOf st').map (·.2)).toList e (λb o q=>?_) (by rw[X1];exact he) b1⟩;have Ir:b<s1.heap.objs.size:=i6 q;show(ZI (s1.heap.push (E' "list" vs.toArray 0)) s1.heap.objs.size vs ((arrOf st').map (·.2))).get? b=a5 o;rw[ã (ke Ir) (by rw[Sj];exact Pw Ir)];exact df _ q
def lW(hl:U' s.heap l vs.toArray)
  (h:Q vs {s with heap:=(s.heap.push (E' "list" #[] 0)).update s.heap.objs.size (rl (·++vs.toArray))}) (hsz:vs.length<=cK) :
  gs (i4 prog w) A (collect (.ref l)) Q E s:=by
 have⟨o,ho,b,n,c⟩:=id hl;unfold collect;show b8 (Ó (Nz entry_proto_collect' ?_));change gs _ _ (do à (.builtin "list.__iadd__" ⟨[<-newList [],.ref l],[]⟩)) _ _ s;show b8 (Yv (fx ⟨YM _ (by decide +kernel),Nz entry_list_iadd' ?_⟩));change gs _ _ (y0 (.ref s.heap.objs.size) (.ref l) (.ref s.heap.objs.size)) _ _ {s with heap:=s.heap.push (E' "list" #[] 0)};unfold y0;have a:(s.heap.push (E' "list" #[] 0)).get? l=a5 o:=df _ ho;show b8 (R_ (T:="tuple") ⟨o,a,b⟩ ?_);have d:(Jy "tuple"==Jy "tuple")=bD:=by rfl
 rw[ê (by rw[d];simp)];show b8 (YZ a c ?_);show b8 (YZ (xs:=#[]) (n:=0) (hW _ rfl) rfl ?_);rw[ë (by simp)];show b8 (UT (xs:=#[]) (n:=0) (hW _ rfl) rfl ?_ (mx _) (by change(#[]++vs.toArray).size<=cK+1;simp only[Tg,hH,Vo];lia));show fx ?_;change gs (i4 prog w) A (do
   let o <-load s.heap.objs.size
   match o.data with
   |.seq xs _=>pure xs.toList
   |_=>unsupported "internal:collect") Q E {s with heap:=(s.heap.push (E' "list" #[] 0)).update s.heap.objs.size (rl (·++vs.toArray))}
 show b8 (wpAny_load (Ï (hW _ rfl) _) ?_);change gs _ _ (pure ((#[]:Array dV)++vs.toArray).toList) Q E _;rw[show((#[]:Array dV)++vs.toArray).toList=vs by simp];show fx h
end
section
def lX{h:Kq}{vs:List dV}(e:h.get? b=a5 o):((h.push (E' "list" #[] 0)).update h.objs.size (rl (·++vs.toArray))).get? b=a5 o:=by
 rw[YD _ _ _ _ (ke (i6 e))];show df _ e
def pN(I:Inv X a σ H s)(k1:∀b o,s.heap.get? b=a5 o->s1.heap.get? b=a5 o)(g:∃d c,s1={s with heap:=d,toks:=c})
  (hk:∀b o,s1.heap.get? b=a5 o->h'.get? b=a5 o) (h:h'.get? s1.heap.objs.size=a5 (E' "list" vs'.toArray e)) (i:Q8 vs' (bF ss)) (hsz:s.heap.objs.size<=s1.heap.objs.size) (hl:ss.length<=cK)
  (q:∀p,H p=b6->Q (.ref p) (upd H p (.lst ((bF ss).map V.str)))):EP X a σ Q (.ref s1.heap.objs.size) {s1 with heap:=h' }:=by
 have⟨d,c,rfl⟩:=g;have f:Inv X a σ H {s with heap:=d,toks:=c}:=I.kept (t':=c) k1;show⟨.ref d.objs.size,_,f.laid (t':=c) (o:=.lst ((bF ss).map V.str)) hk (i5 _) ⟨by rw[dr,iy];show hl,vs',e,eZ i,h⟩,rfl,q _ (f.HA.fresh (i5 _))⟩
def jE:gG X (.builtin "sorted") (λxs H Q=>∃(p:gi) (ys:List Str),xs=[.ref p]/\(Ip X.K H p (ys.map V.str)\/Iq X.K H p (ys.map V.str))/\ys.length<64/\∀q,H q=b6->Q (.ref q) (upd H q (.lst ((bF ys).map V.str)))):=by
 intro c s σ H xs us Q I rs h;have⟨p,ys,rfl,hq,i,q⟩:=h;have⟨u,rfl,r⟩:=vals1 rs;cases r;have hl:ys.length<=cK:=PF (ku i (by decide));have d:∀(a:List dV),Vals (ys.map V.str) a->∀(h':Kq) (vs':List dV) (e:Nat),(∀b o,((s.heap.push (E' "list" #[] 0)).update s.heap.objs.size (rl (·++a.toArray))).get? b=a5 o->h'.get? b=a5 o) ->
   h'.get? ((s.heap.push (E' "list" #[] 0)).update s.heap.objs.size (rl (·++a.toArray))).objs.size=a5 (E' "list" vs'.toArray e)->Q8 vs' (bF ys) ->
   EP X c σ Q (.ref ((s.heap.push (E' "list" #[] 0)).update s.heap.objs.size (rl (·++a.toArray))).objs.size) {s with heap:=h' }:=λa rv h' vs' e hk f g =>
  pN (s1:={s with heap:=(s.heap.push (E' "list" #[] 0)).update s.heap.objs.size (rl (·++a.toArray))}) I (λb o z=>lX z) ⟨_,s.toks,rfl⟩ hk f g (by change s.heap.objs.size<=((s.heap.push (E' "list" #[] 0)).update s.heap.objs.size (rl (·++a.toArray))).objs.size;rw[Heap.size_update,Sj];show OX _) hl q
 rcases hq with hq|hq
 .have⟨a,rv,pl,hz⟩:=I.list hq;have j:a.length=ys.length:=by rw[<-rv.length,dr]
  show gP (collect_list pl.isList ⟨ys,dO rv,⋯,λh' vs' e hk f g=>d a rv h' vs' e hk f g⟩ ⋯)
 .have⟨a,rv,pl,hz⟩:=I.tuple hq;have j:a.length=ys.length:=by rw[<-rv.length,dr]
  show gP (lW pl ⟨ys,dO rv,⋯,λh' vs' e hk f g=>d a rv h' vs' e hk f g⟩ ⋯)
end
@[reducible]def sK(P:va)(w:w6):=PySem.strKind P w
abbrev gw(P:va)(w:w6)(h:Kq)(a:gi)(b:Bool)(D:List Str):Prop :=
 ∃(L:List (Str×Tok)) (es:Array (Int×dV)) (ep:Nat) (t:XN),h.get? a=a5 {cls:=.type "set",dict:=b6,data:=.set es ep t}/\es.toList=L.map (λp=>((sK P w).hash p.1,Iv p.1 p.2)) /\
  (L.map (·.1)).Perm D/\D.Nodup/\t.fits es.size=bD/\es.size<L'/\t.led=b/\(es.size=0\/t.plain=cb)
section
def wV{L:List (Str×Tok)}:ElemsOf (sK prog w) (L.map λp=>((sK prog w).hash p.1,Iv p.1 p.2)):=by
 intro e a;obtain⟨p,_,rfl⟩:=lx.mp a;show⟨⟨p.1,by simp[PySem.strKind,Su],rfl⟩,rfl⟩
def sV(x y:Str)(t:Tok):(sK prog w).is x (.str y t)=cL (x=y):=by
 rw[J7];simp[PySem.strKind,Su];show⟨λh=>h.symm,λh=>h.symm⟩
def q_(t:XN)(es:Array (Int×dV))(h:Int)(x:dV):(layNew t es h x).2.1.led=t.led:=by
 unfold layNew;split
 .change(W2 (t.put _).1 _).led=t.led;unfold W2;split<;>rfl
 .rfl
def n_(t:XN)(es:Array (Int×dV))(n:Nat):(XC t es n).2.1.led=t.led:=by
 unfold XC;split
 .rename_i t' b a;have:t'.led=t.led:=by
   unfold YA YT at a;cases c:XG (W0 n - 1) (es.map (·.1)) with
   |none=>rw[c]at a;cases a
   |some o=>rw[c]at a;cases a;rfl
  dsimp only
  split
  .show this
  .rfl
 .rfl
def kK(t:XN)(es:Array (Int×dV))(n:Nat)(h:t.plain=cb):(XC t es n).2.1.plain=cb:=by
 unfold XC;split
 .rename_i t' b a;have:t'.plain=t.plain:=by
   unfold YA YT at a;cases c:XG (W0 n - 1) (es.map (·.1)) with
   |none=>rw[c]at a;cases a
   |some o=>rw[c]at a;cases a;rfl
  dsimp only
  split
  .rw[this];show h
  .rfl
 .rfl
def kL(h:l.Perm (L.map λp=>((sK prog w).hash p.1,Iv p.1 p.2))):∃a:List (Str×Tok),l=a.map (λp=>((sK prog w).hash p.1,Iv p.1 p.2))/\a.Perm L:=by
 have all:∀e∈l,∃p:Str×Tok,e=((sK prog w).hash p.1,Iv p.1 p.2):=λe b=>by
  obtain⟨p,_,rfl⟩:=lx.mp (h.mem_iff.mp b);show⟨p,rfl⟩
 have ex:∀l:List (Int×dV),(∀e∈l,∃p:Str×Tok,e=((sK prog w).hash p.1,Iv p.1 p.2))->∃a:List (Str×Tok),l=a.map (λp=>((sK prog w).hash p.1,Iv p.1 p.2)):=by
  intro l;induction l with
  |nil=>intro _;show⟨[],rfl⟩
  |cons e l d =>
   intro c;have⟨p,rfl⟩:=c e kj;have⟨a,rfl⟩:=d λe b=>c e (i8 _ b);show⟨p::a,rfl⟩
 have⟨a,rfl⟩:=ex l all;show⟨a,rfl,?_⟩;have g:(a.map λp=>((sK prog w).hash p.1,Iv p.1 p.2)).map (λe=>match e.2 with|.str x t=>(x,t)|_=>(tv,0))=a:=by
  rw[mh];show Ç _
 have f:(L.map λp=>((sK prog w).hash p.1,Iv p.1 p.2)).map (λe=>match e.2 with|.str x t=>(x,t)|_=>(tv,0))=L:=by
  rw[mh];show Ç _
 have:=h.map (λe=>match e.2 with|.str x t=>(x,t)|_=>(tv,0));rw[g,f]at this;show this
theorem ra(hS:gw prog w s.heap a led D)(MM:D.length+1<L')
    (h:∀h',KX a s.heap h'->gw prog w h' a led (if x∈D then D else D++[x])->Q (cL (x∉D)) {s with heap:=h' }) :
    gs (i4 prog w) A (setAddHashed a (.str x tk) ((sK prog w).hash x)) Q E s:=by
  obtain⟨L,es,ep,t,ho,MN,JB,HX,hf,hb,Mb,IY⟩:=hS;have M_:(sK prog w).is x (.str x tk)=bD:=by rw[sV];simp
  have Uh:ElemsOf (sK prog w) es.toList:=by rw[MN];exact wV
  have hlen:es.size=D.length:=by rw[<-tr,MN,dr,<-dr (f:=Zx) (as:=L),JB.length_eq]
  unfold setAddHashed setAddHashedIn;refine D' (b8 (wpAny_setState_of ho rfl hf ?_))
  dsimp only
  rw[byScan_of (knd:=sK prog w) rfl hb Uh];simp only[↓reduceIte];unfold setAddByScan;refine b8 ?_;refine b8 (Oe ?_);refine b8 (wpAny_setScan_of (knd:=sK prog w) M_ ho rfl hf Uh ?_);have mem_iff:(∃e∈es.toList,(sK prog w).is x e.2=bD)↔x∈D:=by
    rw[MN,<-JB.mem_iff,lx];constructor
    · rintro⟨e,he,hi⟩
      obtain⟨p,hp,rfl⟩:=lx.mp he;rw[sV,é]at hi;exact⟨p,hp,hi.symm⟩
    · rintro⟨p,hp,e⟩
      exact⟨_,lx.mpr ⟨p,hp,rfl⟩,by rw[sV];simp[e]⟩
  cases hr:ZM (λe=>(sK prog w).is x e.2) es.toList with
  | some j =>
    dsimp only
    obtain⟨hj,V5,_⟩:=List.findIdx?_eq_some_iff_getElem.mp hr;have hx:x∈D:=mem_iff.mp ⟨es.toList[j],K7 hj,V5⟩;refine fx (fx ?_);have e:s={s with heap:=s.heap}:=by cases s;rfl
    have:=h s.heap (Wq a s.heap) (by rw[ê hx];exact⟨L,es,ep,t,ho,MN,JB,HX,hf,hb,Mb,IY⟩);rw[ì (λz=>z hx)]at this;rw[e];exact this
  | none =>
    dsimp only
    have hx:x∉D:=λhx=>by
      obtain⟨e,he,hp⟩:=mem_iff.mpr hx;have:=List.findIdx?_eq_none_iff.mp hr e he;rw[hp]at this;exact Bool.noConfusion this
    have V6:∀(b:Bool) {s₁:gm} {Q':Unit->gm->Prop},Q' () s₁->gs (i4 prog w) A (match b with|true=>ZC "set.scan.the-table-gave-way"|false=>pure ()) Q' E s₁ :=
      λb s₁ Q' hq=>by cases b<;>first|exact fx hq|exact Oe hq
    have O3:=layNew_perm t es ((sK prog w).hash x) (.str x tk);have Kr:=layNew_fits t es ((sK prog w).hash x) (.str x tk);have K6:=q_ t es ((sK prog w).hash x) (.str x tk);generalize hL:layNew t es ((sK prog w).hash x) (.str x tk)=NL at O3 Kr K6 ⊢;obtain⟨II,t1,Lo,V7⟩:=NL
    dsimp only at O3 Kr K6 ⊢
    rw[Array.toList_push,MN,show [((sK prog w).hash x,Iv x tk)]=[(x,tk)].map (λp=>((sK prog w).hash p.1,Iv p.1 p.2)) from rfl,<-oD]at O3;obtain⟨L1,e1,V8⟩:=kL O3;have Ng:II.size=D.length+1:=by rw[<-tr,O3.length_eq,dr,j0,<-hlen,<-tr,MN,dr];rfl
    have Ui:II.size<L':=by lia
    have MO:(L1.map (·.1)).Perm (D++[x]):=(V8.map _).trans (by rw[oD];exact JB.append_right _);have Uj:(D++[x]).Nodup:=by
      rw[ro]
      exact ⟨HX, by simp, fun y hy z hz => by have : z = x := by simpa using hz
                                              subst this;rintro rfl;exact hx hy⟩
    refine b8 (V6 _ ?_);have Mc:∀h',KX a s.heap h'->gw prog w h' a led (D++[x])->Q bD {s with heap:=h' }:=λh' sb hs=>by
      have:=h h' sb (by rw[ë hx];exact hs);rw[í hx]at this;exact this
    have tail:∀(g:Bool->Sem Unit),(∀(b:Bool) (s₁:gm) (Q':Unit->gm->Prop),Q' () s₁->gs (i4 prog w) A (g b) Q' E s₁)->∀(R:Option Bool->gm->Prop),(∀h',KX a s.heap h'->gw prog w h' a led (D++[x])->R (a5 bD) {s with heap:=h' })->∀t2:XN,t2.fits II.size=bD->t2.led=led->t2.plain=cb->gs (i4 prog w) A (do
        storeSet a II t2
        if (!Lo&&t2.tooFull)=true then do
            g (relayAll t2 II (SetTable.grown II.size)).2.2
            storeSet a (relayAll t2 II (SetTable.grown II.size)).1 (relayAll t2 II (SetTable.grown II.size)).2.1
            pure (some true)
          else pure (a5 bD)) R E s:=by
      intro g hg R hR t2 V9 Lp O4;refine b8 (ZO ho rfl ?_ (ZS Ui));have O5:(s.heap.update a (RL II t2)).get? a=a5 {cls:=.type "set",dict:=b6,data:=.set II (ep+1) t2}:=by
        have:=vr (RL II t2) ho rfl;exact this
      have O6:=JT s.heap a (RL II t2);split
      · have hp:=relayAll_perm t2 II (Qq II.size)
        have Nh:=relayAll_fits t2 II (Qq II.size);have Ni:=n_ t2 II (Qq II.size);have R7:=kK t2 II (Qq II.size) O4;generalize R8:XC t2 II (Qq II.size)=Rl at hp Nh Ni R7 ⊢;obtain⟨es2,t3,Uk⟩:=Rl
        dsimp only at hp Nh Ni R7 ⊢
        rw[e1]at hp;obtain⟨L2,e2,V_⟩:=kL hp;have hsz:es2.size=II.size:=by rw[<-tr,hp.length_eq,<-e1,tr]
        refine b8 (hg _ _ _ ?_);refine b8 (ZO O5 rfl ?_ (ZS ⋯));have O7:((s.heap.update a (RL II t2)).update a (RL es2 t3)).get? a=a5 {cls:=.type "set",dict:=b6,data:=.set es2 (ep+1+1) t3}:=vr (RL es2 t3) O5 rfl;refine fx (hR _ (O6.trans (JT _ a _)) ⟨L2,es2,_,t3,O7,e2,(V_.map _).trans MO,Uj,Nh,⋯,Ni.trans Lp,.inr R7⟩)
      · exact fx (hR _ O6 ⟨L1,II,_,t2,O5,e1,MO,Uj,V9,Ui,Lp,.inr O4⟩)
    split
    · rename_i hp
      refine b8 ?_;rw[hashByValue_scannable 8 rfl];refine fx ?_;have ep:(if plainKind (Iv x tk)=bD then t1 else {t1 with plain:=cb})={t1 with plain:=cb}:=rfl;rw[ep];refine tail _ ?_ _ ?_ {t1 with plain:=cb} (SetTable.fits_plain_off Kr) (K6.trans Mb) rfl
      · intro b s₁ Q' hq;cases b<;>first|exact fx hq|exact Oe hq
      · intro h' N_ JJ;dsimp only;exact fx (Mc h' N_ JJ)
    · rename_i hp
      refine b8 (fx ?_);simp only[↓reduceIte];refine tail _ ?_ _ ?_ t1 Kr (K6.trans Mb) (Bool.eq_false_iff.mpr hp)
      · intro b s₁ Q' hq;cases b<;>first|exact fx hq|exact Oe hq
      · intro h' N_ JJ;dsimp only;exact fx (Mc h' N_ JJ)
end
abbrev jX(D:List Str)(x:Str):List Str:=if x∈D then D else D++[x]
abbrev bq(l:List Str):List Str:=l.foldl jX []
theorem rb(h:D.Nodup):(jX D x).Nodup:=by
  unfold jX;split
  · exact h
  · rename_i hx
    rw[ro]
    exact ⟨h, by simp, fun y hy z hz => by have : z = x := by simpa using hz
                                           subst this;rintro rfl;exact hx hy⟩
theorem gQ:∀(l D:List Str),D.Nodup->(l.foldl jX D).Nodup/\(∀x,x∈l.foldl jX D↔x∈D\/x∈l)/\(l.foldl jX D).length<=D.length+l.length
 |[],D,h=>⟨h,by simp,by simp⟩
 |y::l,D,h=>by
  have⟨a,b,f⟩:=gQ l (jX D y) (rb h);have c:∀x,x∈jX D y↔x∈D\/x=y:=λx=>by
   unfold jX;split
   .rename_i d;show⟨.inl,λz=>z.elim id (λe=>e▸d)⟩
   .simp
  have hl:(jX D y).length<=D.length+1:=by
   unfold jX;split
   .lia
   .simp
  show⟨a,λx=>?_,by rw[Vp,k9];lia⟩;rw[Vp,b,c,gj,or_assoc]
def rf(l:List Str)(x:Str):x∈bq l↔x∈l:=by rw[bq,(gQ l [] V').2.1];simp
def kM(l:List Str):(bq l).length<=l.length:=by have:=(gQ l [] V').2.2;simpa[bq] using this
def pO(l:List Str)(x:Str):bq (l++[x])=jX (bq l) x:=by unfold bq;rw[List.foldl_append];rfl
section
variable{prog:va}{w:w6}{A:Li}{R:Result->gm->Prop}{I:gi}{fp wr:List gi}{G:Array VA->Array VA->Prop}{n:Nat}{P:Nat->dV->Prop}{St:Nat->gm->Prop}
def jf(W:ZE prog w A.in1 I fp wr G n P St)(S:gi)(m:S∉fp)(a:Bool)
  (ys:List Str) (hn:ys.length=n) (y:∀i v,P i v->∃x t,ys[i]?=a5 x/\v=.str x t) (d:n+1<L') :
  ∀(k i:Nat) (s:gm),n - i=k->i<=n->St i s->gw prog w s.heap S a (bq (ys.take i)) ->
   (∀s',Moved (S::wr) G s s'->gw prog w s'.heap S a (bq ys)->R (.ok (.ret .none)) s') ->
   Oz (i4 prog w) A (.builtin "set.update.loop" ⟨[.ref S,.ref I],[]⟩) R s:=by
 have p:S∉wr:=λh=>m (W.sub _ h);have q:∀b∈wr,b∈S::wr:=λb d=>i8 _ d;intro k;induction k with
 |zero =>
  intro i s hk hi j g l;have z:i=n:=by lia
  subst z;show Nz Rc ?_;rw[P' Nc _];change gs _ A.in1 (RE (.ref I) >>= _) _ _ s;show b8 (W.done s _ _ j λs' f=>?_);change gs _ A.in1 (ret r3) _ _ s';rw[K1 ⋯]at g;show fx (l s' (f.mono q) (by
   have⟨L,es,ep,t,ho,c⟩:=g;show⟨L,es,ep,t,f.heap S _ p ho,c⟩))
 |succ k B =>
  intro i s hk hi j g l;have r:i<n:=by lia
  show Nz Rc ?_;rw[P' Nc _];change gs _ A.in1 (RE (.ref I) >>= _) _ _ s;show b8 (W.item i s _ _ r j λv s' C D f=>?_);have⟨x,t,H,rfl⟩:=y i v C;have J:gw prog w s'.heap S a (bq (ys.take i)):=by
   have⟨L,es,ep,tb,ho,c⟩:=g;show⟨L,es,ep,tb,f.heap S _ p ho,c⟩
  change gs _ A.in1 (Kw [Iv x t] (setAdd S (.str x t)) >>= _) _ _ s';show b8 (D' ?_);unfold setAdd;show D' ?_;show b8 ((sK prog w).pyHash (k:=x) (by rw[sV];simp) ?_);have N:(bq (ys.take i)).length+1<L':=by have:=kM (ys.take i);rw[pb]at this;lia
  show ra (s:={s' with toks:=s'.toks+1}) J N λh' u O=>?_;have Q:gw prog w h' S a (bq (ys.take (i+1))):=by
   rw[List.take_add_one,H];change gw prog w h' S a (bq (ys.take i++[x]));rw[pO];show O
  show fx ⟨RF Nc _,B (i+1) _ ⋯ r (W.frame _ s' _ _ D (OX _) λb d o e=>?_) Q λT Y Sa=>?_⟩
  .rw[u.2 b (λh:b=S=>m (by rw[<-h];show d))];show e
  .show l T (UD W.gtrans ((f.mono q).then_heap (OX _) λb o d e=>?_) Y) Sa;rw[u.2 b (λh:b=S=>d (by rw[h];show kj))];show e
end
section
def lY(a:dV)
  (h:Q₁ (.ref s.heap.objs.size) {s with heap:=s.heap.push {cls:=.type "set",dict:=b6,data:=.set #[] 0 (.fresh 0 0 (!w.params.followText "set-order"))}}) :
  Oz (i4 prog w) A (.call (.builtin "set.__new__") ⟨[.type "set",a],[]⟩) (wants Q₁ E) s:=by
 show WJ ?_;change gs _ A.in1 (do Z8 "set.__new__" ⟨[.type "set",a],[]⟩;à (.builtin "set.__new__" ⟨[.type "set",a],[]⟩)) _ _ s;show b8 (Mz (PySem.F.newCall_set_1 a) (fx ⟨RF PySem.F.plain_set_new _,Nz PySem.F.entry_set_new ?_⟩));rw[P' PySem.F.plain_set_new _];unfold NV.«set.__new__» Zl;have b:=sub_set_self;have⟨c,g,d,e,os⟩:=s
 dsimp only
 wp_walk
 show wpAny_askSetting (fx ?_)
 dsimp only
 simp only[newObj];show b8 (wpAny_alloc (fx ?_));show fx h
def rg(c:h.get? a=a5 {cls:=.type "set",dict:=b6,data:=.set #[] 0 (.fresh 0 0 b)}):gw prog w h a b [] :=
 ⟨[],#[],0,_,c,rfl,.nil,V',rfl,by unfold L';decide,rfl,.inl rfl⟩
end
def sub_tuple_set:Wn (.type "tuple") (.type "set")=pure cb:=by rw[Og];kernel_rfl
def sub_tuple_frozenset:Wn (.type "tuple") (.type "frozenset")=pure cb:=by rw[Og];kernel_rfl
section
@[reducible]def dY(w:w6):Bool:=!w.params.followText "set-order"
@[reducible]def rh(a:Bool):Obj:={cls:=.type "set",dict:=b6,data:=.set #[] 0 (.fresh 0 0 a)}
def iz
  (J:s.TypeIs (.ref l) T) (Wc:Wn (.type T) (.type "set")=pure cb) (Wd:Wn (.type T) (.type "frozenset")=pure cb) (IW:(Jy T==Jy "dict")=cb)
  (L:ys.length+1<L')
  (j:∀(s1:gm) (B:Li) (Q':dV->gm->Prop),B.handled=A.handled->(∀b o,s.heap.get? b=a5 o->s1.heap.get? b=a5 o)->s.heap.objs.size<s1.heap.objs.size ->
   (∀I k m G P St a,ZE prog w B.in1 I k m G ys.length P St->(∀g g',G g g'->g'=g)->s.heap.objs.size∉k->(∀b∈m,s.heap.objs.size<b)->(∀i v,P i v->∃x t,ys[i]?=a5 x/\v=.str x t)->St 0 {s1 with heap:=a}->(∀b o,s1.heap.get? b=a5 o->a.get? b=a5 o)->Q' (.ref I) {s1 with heap:=a})->gs (i4 prog w) B (XD (.ref l)) Q' E s1)
  (h:∀(h':Kq) (d:Nat),gw prog w h' s.heap.objs.size (dY w) (bq ys)->(∀b o,b<s.heap.objs.size->s.heap.get? b=a5 o->h'.get? b=a5 o)->Q (.ref s.heap.objs.size) {s with heap:=h',toks:=d}) :
  gs (i4 prog w) A (OD (.type "set") [.ref l]) Q E s:=by
 have⟨c,tl,We⟩:=PySem.F.called_set.mro;have Um:=PySem.F.called_set.made;have Lr:=PySem.F.called_set.sub;show XA (WJ ?_);change gs _ _ (callAny (.type "set") _) _ _ _;show fx ⟨YM _ (by decide +kernel),Nz PySem.F.entry_type_call ?_⟩;rw[Around.under_plain (weight_type_call_type "set" [.ref l] []) rfl];have a:=PySem.F.called_set.notType;have h2:=PySem.F.called_set.canCreate;have X_:=PySem.F.typeCall_set_1 (.ref l)
 repeat (any_goals (first|assumption|wp_step))
 show Qf (lY (.ref l) (E:=E) (Q₁:=λobj y=>obj=.ref s.heap.objs.size/\y={s with heap:=s.heap.push (rh (dY w))}) ⟨rfl,rfl⟩) λr y n=>?_;cases r with
 |error e=>show n
 |ok N =>
  cases N with
  |ret obj =>
   have⟨rfl,rfl⟩:=n;have C:(s.heap.push (rh (dY w))).get? s.heap.objs.size=a5 (rh (dY w)):=hW _ rfl;have O:Zh {s with heap:=s.heap.push (rh (dY w))} (.ref s.heap.objs.size) "set":=⟨_,C,rfl⟩
   have Ya:=PySem.F.called_set.init.lookup;have Yb:=PySem.F.called_set.init.bind (.ref s.heap.objs.size)
   repeat (any_goals (first|assumption|wp_step))
   show Qf (codeAny_call_builtin (R:=wants (λr D=>r=.none/\∃h' d,D={s with heap:=h',toks:=d} /\
     gw prog w h' s.heap.objs.size (dY w) (bq ys) /\
     (∀b o,b<s.heap.objs.size->s.heap.get? b=a5 o->h'.get? b=a5 o)) E) PySem.F.called_set.init.plain PySem.F.entry_set_init (check_set_init_1 O ?_)) λY D p=>?_
   .have⟨ol,O8,H⟩:=J;have⟨Wf,O9,O_,Nk⟩:=ol;simp only at H;subst H;have Sd:(s.heap.push (rh (dY w))).get? l=a5 {cls:=.type T,dict:=O9,data:=O_,slots:=Nk}:=df _ O8;have Yc:Zh {s with heap:=s.heap.push (rh (dY w))} (.ref l) T:=⟨_,Sd,rfl⟩
    unfold NV.«set.__init__» noKeywords Zk;generalize Wg:XD=PI
    wp_walk
    subst Wg;show j {s with heap:=s.heap.push (rh (dY w))} _ _ rfl (λb o e=>df _ e) (by rw[Sj];show MG _) λI k m G P St a W hG hf Wh Nj HB hk=>?_;show b8 (Ó ?_);show jf W s.heap.objs.size hf (dY w) ys rfl Nj L (ys.length - 0) 0 _ ⋯ (mx _) HB (rg (hk _ _ C)) ?_;intro s' f q;have⟨h',g',d',Wi,Ru⟩:=s';have eg:g'=s.gens:=hG _ _ f.gens;have ed:d'=s.drawn:=f.drawn;have eo:Ru=s.os:=f.os;subst eg;subst ed;subst eo;change gs _ _ _ _ _ _;show fx ?_;change gs _ _ (ret r3) _ _ _;show fx ⟨rfl,h',Wi,rfl,q,λb o u e=>?_⟩;show f.heap b o (λz=>by
     rcases gj.mp z with z|z
     .rw[z]at u;show vl _ u
     .show absurd (Wh b z) (Zn u)) (hk _ _ (df _ e))
   .cases Y with
    |error e=>show p
    |ok Wj =>
     cases Wj with
     |ret r =>
      have⟨rfl,h',d,rfl,q,IC⟩:=p
      repeat (any_goals (first|assumption|wp_step))
      show h _ _ q IC
     |_=>show p.elim
  |_=>show n.elim
end
section
theorem oa:∀{vs:List dV}{ss:List Str},Q8 vs ss->∀(i:Nat) (v:dV),vs[i]?=a5 v->∃x t,ss[i]?=a5 x/\v=.str x t
 |_,_,.nil,i,v,h=>by simp at h
 |_,_,.cons x t h,0,v,e=>by simp at e;show⟨x,t,rfl,e.symm⟩
 |_,_,.cons x t h,i+1,v,e=>by rw[OP]at e;rw[OP];show oa h i v e
theorem kN:∀{vs:List dV}{ss:List Str},Q8 vs ss->vs.length=ss.length
 |_,_,.nil=>rfl
 |_,_,.cons x t h=>by simp[kN h]
def sW(a:n≠S)(b:n≠l):n∉[S,l]:=by simp[a,b]
def kO(g:A.handled=b6)(hl:s.heap.IsList l vs.toArray)(d:Q8 vs ys)(a:ys.length+1<L')
  (h:∀(h':Kq) (j:Nat),gw prog w h' s.heap.objs.size (dY w) (bq ys)->(∀b o,b<s.heap.objs.size->s.heap.get? b=a5 o->h'.get? b=a5 o)->Q (.ref s.heap.objs.size) {s with heap:=h',toks:=j}) :
  gs (i4 prog w) A (OD (.type "set") [.ref l]) Q E s:=by
 have f:l<s.heap.objs.size:=let ⟨o,ho,_⟩:=hl;i6 ho;show iz hl.typeIs PySem.F.sub_list_set PySem.F.sub_list_frozenset (by decide) a (λs1 B Q' k hk c m=>?_) h;have K6:s1.heap.IsList l vs.toArray:=let ⟨o,ho,r⟩:=hl;⟨o,hk _ _ ho,r⟩;show Vq K6 ?_;have n:l≠s1.heap.objs.size:=ke (Ul f c);have W:=(Z9 (prog:=prog) (w:=w) (A:=B.in1) (by simp[k,g]) s1.heap.objs.size l n vs.toArray).toS;have p:vs.toArray.size=ys.length:=by simp[kN d]
 rw[p]at W;show m _ _ _ _ _ _ _ W (λ_ _ e=>e) (sW (ke c) (LO f)) (λb a=>by rw[js.mp a];show c) (λi v q=>oa d i v (by simpa using q)) ⟨⟨_,hW _ rfl,rfl,rfl⟩,K6.push _⟩ λb o e=>df _ e
def lZ(g:A.handled=b6)(hl:s.heap.IsTuple l vs.toArray)(d:Q8 vs ys)(a:ys.length+1<L')
  (h:∀(h':Kq) (j:Nat),gw prog w h' s.heap.objs.size (dY w) (bq ys)->(∀b o,b<s.heap.objs.size->s.heap.get? b=a5 o->h'.get? b=a5 o)->Q (.ref s.heap.objs.size) {s with heap:=h',toks:=j}) :
  gs (i4 prog w) A (OD (.type "set") [.ref l]) Q E s:=by
 have f:l<s.heap.objs.size:=let ⟨o,ho,_⟩:=hl;i6 ho;show iz hl.typeIs sub_tuple_set sub_tuple_frozenset (by decide) a (λs1 B Q' k hk c m=>?_) h;have K6:s1.heap.IsTuple l vs.toArray:=let ⟨o,ho,r⟩:=hl;⟨o,hk _ _ ho,r⟩;show Pc K6 ?_;have n:l≠s1.heap.objs.size:=ke (Ul f c);have W:=(Walks.tuple (prog:=prog) (w:=w) (A:=B.in1) (by simp[k,g]) s1.heap.objs.size l n vs.toArray).toS;have p:vs.toArray.size=ys.length:=by simp[kN d]
 rw[p]at W;show m _ _ _ _ _ _ _ W (λ_ _ e=>e) (sW (ke c) (LO f)) (λb a=>by rw[js.mp a];show c) (λi v q=>oa d i v (by simpa using q)) ⟨⟨_,hW _ rfl,rfl,rfl⟩,let ⟨o,ho,r⟩:=K6;⟨o,df _ ho,r⟩⟩ λb o e=>df _ e
end
namespace SI
end SI
section
end
section
end
section
end
section
end
section
end
section
def og(i:X.calm=bD)(I:Inv X c σ H s)(hq:Ip X.K H p (ys.map V.str)\/Iq X.K H p (ys.map V.str))(f:ys.length+1<L')
  (h:∀(S:gi) (h':Kq) (a:Nat),gw X.prog X.w h' S (dY X.w) (bq ys)->Inv X c σ H {s with heap:=h',toks:=a}->Q (.ref S) {s with heap:=h',toks:=a}) :
  gs (i4 X.prog X.w) X.A (OD (.type "set") [.ref p]) Q X.xe s:=by
 have g:X.A.handled=b6:=I.ok.hd i;rcases hq with hq|hq
 .have⟨j,rv,pl,hz⟩:=I.list hq;show kO g pl.isList (dO rv) f λh' a d k=>h _ h' a d (I.kept λb o e=>k b o (i6 e) e)
 .have⟨j,rv,pl,hz⟩:=I.tuple hq;show lZ g pl (dO rv) f λh' a d k=>h _ h' a d (I.kept λb o e=>k b o (i6 e) e)
def rj(I:Inv X a σ H s)(c:gw X.prog X.w s.heap S (dY X.w) D)
  (q:Q (.int D.length) H):gs (i4 X.prog X.w) X.A (OD (.builtin "len") [.ref S]) (EP X a σ Q) X.xe s:=by
 have⟨L,es,ep,t,ho,d,g,j,h,i,k,l⟩:=c;have b:es.size=D.length:=by rw[<-tr,d,dr,<-dr (f:=Zx) (as:=L),g.length_eq]
 have m:es.size<4096:=i;show call_len_set ho ⟨rfl,rfl,rfl⟩ rfl h ⋯ ?_;show⟨.int es.size,_,I.kept (t':=s.toks+1+1) (λ_ _ e=>e),⟨_,rfl⟩,by rw[b];show q⟩
end
section
open AutoSeq1 (wpAny_loadPart') in
end
end L2
namespace L2
open PySem PySem.Spec PyProof.Rows
section
def iA(a:s.heap.IsTupleIter it l i)
  (hl:s.heap.IsTuple l b) (d:b[i]?=a5 x)
  (e:∀h',h'.IsTupleIter it l (i+1)->KX it s.heap h'->Q x {s with heap:=h' }) :
  gs (i4 prog w) A (J2 (.ref it)) Q E s:=by
 have⟨o,ho,f,c⟩:=id a;obtain⟨j,g,_,k,h⟩:=hl;unfold J2;show b8 (H8 (name:=M7 "__next__") a.typeIs PySem.F.slot_tuple_iterator_next
  (x8 PySem.F.slot_tuple_iterator_next a.typeIs PySem.F.entry_tuple_iterator_next ?_ (PySem.F.args_tuple_iterator_next_1 _)))
 change gs _ _ (Û (.ref it) 0 >>= _) _ _ s;show b8 (H0 ho c (x:=.ref l) rfl ?_);change gs _ _ (if (ki l==r3)=bD then _ else _) _ _ s;rw[ë (show ¬((ki l==r3)=bD) from ko)];change gs _ _ (Û (.ref it) 1 >>= _) _ _ s;show b8 (H0 ho c (x:=.int i 0) rfl ?_);change gs _ _ (seqItems? (.ref l) >>= _) _ _ s;show b8 (Xh g h ?_);simp only[L3,d];show b8 (Rh ho c (by simp) (fx ⟨x,rfl,fx (e _ ?_ (JT ..))⟩));show⟨_,vr _ ho (R0 (M8 c _)),(Y6 ..).trans f,by
  rw[M8 c];simp[QU]⟩
def eG(f:A.handled=b6)
  (b:s.heap.IsTupleIter it l i) (hl:s.heap.IsTuple l c) (g:c[i]?=b6)
  (h:∀h' e,Ve it s.heap h'->(∃o,h'.get? e=a5 o/\o.cls=.type "StopIteration")->E (.ref e) {s with heap:=h' }) :
  gs (i4 prog w) A (J2 (.ref it)) Q E s:=by
 have⟨o,ho,n,d⟩:=id b;obtain⟨p,j,_,q,k⟩:=hl;unfold J2;show b8 (H8 (name:=M7 "__next__") b.typeIs PySem.F.slot_tuple_iterator_next
  (x8 PySem.F.slot_tuple_iterator_next b.typeIs PySem.F.entry_tuple_iterator_next ?_ (PySem.F.args_tuple_iterator_next_1 _)))
 change gs _ _ (Û (.ref it) 0 >>= _) _ _ s;show b8 (H0 ho d (x:=.ref l) rfl ?_);change gs _ _ (if (ki l==r3)=bD then _ else _) _ _ s;rw[ë (show ¬((ki l==r3)=bD) from ko)];change gs _ _ (Û (.ref it) 1 >>= _) _ _ s;show b8 (H0 ho d (x:=.int i 0) rfl ?_);change gs _ _ (seqItems? (.ref l) >>= _) _ _ s;show b8 (Xh j k ?_);simp only[L3,g];show b8 (Oe (b8 (Rh ho d (by simp) ?_)));change gs _ _ (newExc (.type "StopIteration") [] >>= _) _ _ _;show b8 ?_;simp only[newExc,newTuple];show b8 (z8 ?_ (by size_fits));show b8 (m:=S4 _ _) (Mz (a:=r3) (by first|rfl|(simp only[S4];rfl)) ?_);show z8 ?_ (by size_fits);simp only[raiseNew];show b8 (wpAny_handled ?_)
 first|rw[show A.in1.handled=b6 from f]|rw[f]
 show b8 (fx (wpAny_throw ?_));show h _ _ (((JT ..).extBut.push _).push _) ⟨_,hW _ rfl,rfl⟩
end
def pP(c:A.handled=b6)(it l:gi)(d:l≠it)(a:Array dV):
  Draws prog w A it [it,l] a.size (λi v=>a[i]?=a5 v) (λi h=>h.IsTupleIter it l i/\h.IsTuple l a) where
 live:=λ_ _ st=>let ⟨o,ho,_⟩:=st.1;⟨o,ho⟩
 frame:=λ_ _ _ st hk=>⟨st.1.at λo e=>hk it (by simp) o e,let ⟨o,ho,r⟩:=st.2;⟨o,hk l (by simp) o ho,r⟩⟩
 item:=λi s Q E hi st f=>by
  show iA st.1 st.2 (x:=a[i]) (by simp[hi]) λh' g b=>?_;show f _ h' s.toks (by simp[hi]) ⟨g,let ⟨o,ho,r⟩:=st.2;⟨o,(b.2 l d).trans ho,r⟩⟩ b
 done:=λs Q E st j=>eG c st.1 st.2 (by simp) j
open AutoSeq1 (wpAny_loadPart') in
def kP(l:gi)(a:Array dV)(n:Nat)(e:Option gi)(f:Array (Option dV)):
  Meets (NV.«enumerate.__new__» ⟨[.type "enumerate",.ref l],[]⟩) (λ_ R s=>s.heap.get? l=a5 {cls:=.type "tuple",dict:=e,data:=.seq a n,slots:=f} /\
   R (.ok (.ret (.ref (s.heap.push {cls:=.type "tuple_iterator",data:=.fields #[.ref l,.int 0 0]}).objs.size)))
    {s with heap:=(s.heap.push {cls:=.type "tuple_iterator",data:=.fields #[.ref l,.int 0 0]}).push {cls:=.type "enumerate",data:=.fields #[.none,.bool cb,.ref s.heap.objs.size,QU 0,.none,.none]}}) :=
 .of_wp λprog w A R s h=>by
  have⟨i,g,d,j,os⟩:=s;have⟨hl,h⟩:=h;have k:=sub_enumerate;have b:Heap.IsTuple (Shared.heap ⟨i,g,d,j,os⟩) l a:=⟨_,hl,rfl,n,rfl⟩
  wp_walk using So hl
  show wpAny_stack_any λst=>fx ?_;split
  .rename_i c _ _ _ _ _;cases(c==Jy "enumerate")
   .wp_walk using So hl,Pc b
    show⟨_,rfl,h⟩
   .wp_walk using So hl,Pc b
    show⟨_,rfl,h⟩
  .wp_walk using So hl,Pc b
   show⟨_,rfl,h⟩
section
def fC(g:s.heap.IsTuple l a)
  (h:∀h',YU h' (s.heap.objs.size+1) s.heap.objs.size 0 .none->h'.IsTupleIter s.heap.objs.size l 0->h'.objs.size=s.heap.objs.size+2 ->
   (∀b o,s.heap.get? b=a5 o->h'.get? b=a5 o)->Q (.ref (s.heap.objs.size+1)) {s with heap:=h' }) :
  gs (i4 prog w) A (OD (.type "enumerate") [.ref l]) Q E s:=by
 obtain⟨⟨c,i,j,k⟩,hl,d,n,e⟩:=g
 replace d:c=.type "tuple":=d
 replace e:j=.seq a n:=e
 subst d e;show callType_new PySem.F.called_enumerate (by decide) (PySem.F.typeCall_enumerate_1 _) (PySem.F.newCall_enumerate_1 _) (λobj=>PySem.F.args_object_init_2 obj _) PySem.F.entry_enumerate_new
  (kP l a n i k) ⟨hl,?_⟩
 have hz:(s.heap.push {cls:=.type "tuple_iterator",data:=.fields #[.ref l,.int 0 0]}).objs.size=s.heap.objs.size+1:=MF ..;change _/\_;rw[hz];have f:YU ((s.heap.push {cls:=.type "tuple_iterator",data:=.fields #[.ref l,.int 0 0]}).push
   {cls:=.type "enumerate",data:=.fields #[.none,.bool cb,.ref s.heap.objs.size,QU 0,.none,.none]}) (s.heap.objs.size+1) s.heap.objs.size 0 .none:=by
  have:=hW (s.heap.push {cls:=.type "tuple_iterator",data:=.fields #[.ref l,.int 0 0]})
   (o:={cls:=.type "enumerate",data:=.fields #[.none,.bool cb,.ref s.heap.objs.size,QU 0,.none,.none]}) rfl
  rw[hz]at this;show this
 show⟨⟨_,f,rfl⟩,h _ f ⟨_,df _ (hW _ rfl),rfl,rfl⟩ (by rw[MF,hz]) λb o x=>df _ (df _ x)⟩
end
end L2
namespace L2
open PySem PySem.Spec PyProof.Rows
section
def Inv.sX{ch:List gi}(I:Inv X a σ H s)(f:∀b∈ch,gM X a H b)(k:∀b o,b∉ch->s.heap.get? b=a5 o->h'.get? b=a5 o):Inv X a σ H {s with heap:=h',toks:=t' }:=by
 have g:∀b u,H b=a5 u->b∉ch:=λb u e z=>by rw[(f b z).1]at e;cases e
 show I.step (g':=s.gens) (d':=s.drawn) (ch:=ch) (λb h=>?_) (λb o _ _ d e _=>k b o d e) (λb o _ _ d e _=>⟨o.slots,k b o d e⟩) (λ_ _ _ _ n=>n)
  (λb o d e=>⟨o,k b o d e⟩) (λ_ _ e=>e) (λ_ _ _ e=>e) (λb ps e=>⟨#[],by rw[e];simp⟩) (λm i=>?_) (λb u e=>?_) I.bare
 .have⟨w,j,x,l,p,t⟩:=f b h;show⟨l,j,p,t⟩
 .have⟨o,es,ep,ho,r⟩:=i;show⟨o,es,ep,k _ o (λz=>(f _ z).2.1 rfl) ho,r⟩
 .show(I.HA b u e).kh (λc v d q=>k c v ?_ q) (λ_ q=>q) λ_ _ q=>q;rcases d with z|z
  .rw[z];show g b u e
  .show g c _ z
def Inv.rm{ch:List gi}(I:Inv X a σ H s)(h:∀b∈ch,gM X a H b)(k:∀b o,b∉ch->s.heap.get? b=a5 o->h'.get? b=a5 o)(i:s.heap.objs.size<=T)(new:bE X.prog X.w (upd H T o) h' T o):
  Inv X a σ (upd H T o) {s with heap:=h',toks:=t' }:=by
 have j:Inv X a σ H {s with heap:=h',toks:=t' }:=I.sX h k;have l:H T=b6:=I.HA.fresh i;have p:∀b o,s.heap.get? b=a5 o->b≠T:=λb o e z=>by rw[z]at e;show absurd (ku (i6 e) i) (vl _)
 have d:∀b u,H b=a5 u->b≠T:=λb u e z=>by rw[z,l]at e;cases e
 show I.step (g':=s.gens) (d':=s.drawn) (ch:=ch) (λb g=>?_) (λb o _ _ f e _=>k b o f e) (λb o _ _ f e _=>⟨o.slots,k b o f e⟩) (λb o _ e n=>by rw[ak (p b o e)];show n)
  (λb o f e=>⟨o,k b o f e⟩) (λb _ e=>by rw[ak (d b _ e)];show e) (λb _ _ e=>by rw[ak (d b _ e)];show e) (λb ps e=>⟨#[],by rw[ak (d b _ e),e];simp⟩) (λm t=>?_) (λb u e=>?_) I.bare
 .have⟨C,x,D,y,A,B⟩:=h b g;show⟨y,x,A,B⟩
 .have⟨o,es,ep,ho,r⟩:=t;show⟨o,es,ep,k _ o (λz=>(h _ z).2.1 rfl) ho,r⟩
 .by_cases g:b=T
  .subst g;rw[aq]at e;cases e;show new
  .rw[ak g]at e;show(j.HA b u e).kh (λc v _ q=>q) (λc q=>by rw[ak (d c _ q)];show q) λc xs q=>by rw[ak (d c _ q)];show q
end
abbrev N'(a:Hp->List V->Prop):It :=
 ⟨λi H=>∃xs x,a H xs/\xs[i]?=a5 x,λi H x H'=>∃p,H p=b6/\x=.ref p/\∀xs v,a H xs->xs[i]?=a5 v->H'=upd H p (.tup [.int i,v]),λi H=>∃xs,a H xs/\xs.length<=i⟩
def mK{K:PySem.W.Frag}(r:Hp->List V->Prop)(a e it:gi)(N:e≠it)(At:Nat->Kq->Prop)(t:Kq->Array dV->Prop)
  (Jq:∀i h h',At i h->(∀o,h.get? it=a5 o->h'.get? it=a5 o)->At i h') (Uo:∀i h,At i h->∃o,h.get? it=a5 o/\∀v,o.data≠.cell v)
  (Qo:∀(X:Cx) (d:List (gi×Obj)) (s:gm) (σ:St) (H:Hp) (xs:List V),X.K=K->Inv X d σ H s->r H xs->∃l:List dV,Vals xs l/\t s.heap l.toArray)
  (Sf:∀(X:Cx) (d:List (gi×Obj)) (s:gm) (σ:St) (H:Hp) (xs ys:List V),X.K=K->Inv X d σ H s->r H xs->r H ys->xs=ys)
  (Qp:∀h c i f,t h c->YU h e it i f->e≠a)
  (hD:∀(A:Li) (c:Array dV),A.handled=b6->Draws P w A it [it,a] c.size (λi v=>c[i]?=a5 v) (λi h=>At i h/\t h c))
  (Mc:∀(A:Li) (s:gm) (i:Nat) (c:Array dV) (Q:dV->gm->Prop) (E:dV->gm->Prop),A.handled=b6->At i s.heap->t s.heap c->c[i]?=b6 ->
   (∀h' x,Ve it s.heap h'->(∃o,h'.get? x=a5 o/\o.cls=.type "StopIteration")->E (.ref x) {s with heap:=h' })->gs (i4 P w) A (J2 (.ref it)) Q E s) :
  Turn P w K (.Tuple es kx ps) (N' r) [e,it] e (λi h=>(∃f,YU h e it i f)/\At i h) where
 mem:=by simp
 obj:=λi h st b g=>by
  obtain⟨⟨f,j⟩,hl⟩:=st;rcases gj.mp g with z|z
  .rw[z];show⟨_,j,λv z=>by
    have z':À _=Y8 v:=z;cases z'⟩
  .rw[js.mp z];show Uo i h hl
 keep:=λi h h' ⟨⟨f,j⟩,hl⟩ k=>⟨⟨f,k e (by simp) _ j⟩,Jq i h h' hl λo q=>k it (by simp) o q⟩
 item:=by
  intro X O Y B hc i d s σ H E I C ⟨⟨f,j⟩,hl⟩ hg;subst O Y;have⟨xs,x,G,hx⟩:=hg;have⟨l,rv,p⟩:=Qo X d s σ H xs B I G;have⟨u,hu,ru⟩:=rv.get hx;have Ir:i<l.toArray.size:=by simpa using(dt.mp hu).1
  have D:=hD X.A.in1 l.toArray (by simpa using I.ok.hd hc);have Sg:=Qp _ _ _ _ p j;show wpAny_pyNext_enum_itemD D j ⟨hl,p⟩ Ir N (by simp[N,Sg]) λy h1 m J ho st1 L hsz hk=>?_;have ey:y=u:=by
   have:l.toArray[i]?=a5 u:=by simpa using hu
   rw[this]at J;cases J;rfl
  subst ey;show⟨_,rfl,wpAny_letOwnedTupleGo_enum (s:={s with heap:=h1,toks:=m+1}) ho λn Wk JR=>?_⟩;have Up:e<s.heap.objs.size:=i6 j;have Wl:n.get? s.heap.objs.size=a5 {cls:=.type "tuple",data:=.seq #[.int i m,y]}:=(JR.2 _ (LO Up)).trans L;have k2:∀b o,b∉[e,it]->s.heap.get? b=a5 o->n.get? b=a5 o:=λb o g q=>by
   simp only[gj,Y9,or_false,not_or]at g;show(JR.2 b g.1).trans (hk b o g.1 g.2 q)
  have I2:Inv X d σ (upd H s.heap.objs.size (.tup [.int i,x])) {s with heap:=n,toks:=m+1}:=I.rm C k2 (i5 _)
   (show bE X.prog X.w _ n _ (.tup [.int i,x]) from⟨by change 2<=cK;decide,[.int i m,y],.cons ⟨m,rfl⟩ (.cons ru .nil),⟨_,Wl,rfl,_,rfl⟩⟩)
  show⟨.ref s.heap.objs.size,_,I2,rfl,⟨_,I.HA.fresh (i5 _),rfl,λys v J hv=>?_⟩,⟨⟨_,Wk⟩,Jq (i+1) h1 n st1.1 λo q=>(JR.2 it (ri N)).trans q⟩,λb g=>?_⟩
  .have:=Sf X d s σ H ys xs B I J G;subst this;rw[hx]at hv;cases hv;rfl
  .have JZ:b≠s.heap.objs.size:=by
    rcases gj.mp g with z|z
    .rw[z];show ke Up
    .rw[js.mp z];obtain⟨o,q,_⟩:=Uo i _ hl;show ke (i6 q)
   rw[ak JZ];show(C b g).1
 done:=by
  intro X O Y B hc i d s σ H E I C ⟨⟨f,j⟩,hl⟩ hg;subst O Y;have⟨xs,G,hx⟩:=hg;have⟨l,rv,p⟩:=Qo X d s σ H xs B I G;have ab:=rv.length;have L:s.TypeIs (.ref e) "enumerate":=⟨_,j,rfl⟩
  unfold RE;show b8 (RC (H8 (name:=M7 "__next__") L PySem.F.slot_enumerate_next
   (x8 PySem.F.slot_enumerate_next L PySem.F.entry_enumerate_next ?_ (PySem.F.args_enumerate_next_1 _))))
  change gs _ _ (Û (.ref e) 2 >>= _) _ _ _;show b8 (H0 j rfl (x:=.ref it) rfl ?_);show b8 (Mc _ _ i l.toArray _ _ (by simpa using I.ok.hd hc) hl p (by simp;lia) λh' x OU RT=>?_);have⟨o,ho,LR⟩:=RT;show b8 (RS (T:="StopIteration") (b:=bD) ⟨o,ho,LR⟩ Ú ?_);show fx ⟨rfl,I.sX (t':=s.toks) (ch:=[it]) (λb g=>C b (i8 _ g)) λb o g q=>OU b o (λz=>g (by simp[z])) q⟩
 self:=λA i s Q E ⟨⟨f,j⟩,hl⟩ h=>Vr j h
section
variable{X:Cx}{es:List nH}{kx:Nat}{ps p pos:Pos}
def uO:La "enumerate"=a5 (.type "enumerate"):=by decide +kernel
abbrev Hb(K:PySem.W.Frag)(c:TA):TI:=λσ H R=>c σ H λvs b=>∃a,vs=[.ref a]/\((∃xs,Ip K b a xs)/\R (N' λH xs=>Ip K H a xs) b\/(∃xs,Iq K b a xs)/\R (N' λH xs=>Iq K H a xs) b)
def Dk(a e it:gi)(q:e≠it)(r:a≠it):Turn X.prog X.w X.K (.Tuple es kx ps) (N' λH xs=>Ip X.K H a xs) [e,it] e (λi h=>(∃c,YU h e it i c)/\h.IsListIter it a i):=by
 show mK _ a e it q (λi h=>h.IsListIter it a i) (λh b=>h.IsList a b) (λi h h' x k=>x.at k) (λi h ⟨o,ho,l,t⟩=>⟨o,ho,λv z=>by rw[t]at z;cases z⟩)
  (λY d s σ H xs g I m=>?_) (λY d s σ H xs ys g I f n=>?_) (λh b i c ⟨o,ho,l,_⟩ u z=>?_) (λA b j=>Draws.list j it a r b) (λA s i b Q E j hl y f B=>wpAny_nextOf_list_end j hl y f B)
 .rw[<-g]at m;have⟨C,rv,p,hz⟩:=I.list m;show⟨C,rv,p.isList⟩
 .rw[<-g]at f n;show I.pB f n
 .rw[<-z,u]at ho;cases ho;have D:Jy "enumerate"=Jy "list":=l;show absurd D (by decide)
def Dl(a e it:gi)(q:e≠it)(r:a≠it):Turn X.prog X.w X.K (.Tuple es kx ps) (N' λH xs=>Iq X.K H a xs) [e,it] e (λi h=>(∃c,YU h e it i c)/\h.IsTupleIter it a i):=by
 show mK _ a e it q (λi h=>h.IsTupleIter it a i) (λh b=>h.IsTuple a b) (λi h h' x k=>x.at k) (λi h ⟨o,ho,l,t⟩=>⟨o,ho,λv z=>by rw[t]at z;cases z⟩)
  (λY d s σ H xs g I m=>?_) (λY d s σ H xs ys g I f n=>?_) (λh b i c ⟨o,ho,l,_⟩ u z=>?_) (λA b j=>pP j it a r b) (λA s i b Q E j hl y f B=>eG j hl y f B)
 .rw[<-g]at m;have⟨C,rv,p,hz⟩:=I.tuple m;show⟨C,rv,p⟩
 .rw[<-g]at f n;show I.mr f n
 .rw[<-z,u]at ho;cases ho;have D:Jy "enumerate"=Jy "tuple":=l;show absurd D (by decide)
def Am(n:Gl X "enumerate")(t:X.mg "enumerate"=b6)(v:PA X [a] w)(hs:i7 [a] X.env=[(cb,uk a X.env)]):PI X (.Tuple es kx ps) (.Call (.Name "enumerate" p) [a] [] pos) (Hb X.K w):=by
 intro c s σ H R I h;show Call_ (eV I n t uO (JX (HE (v pos c s σ H _ I h) λus s1 ⟨vs,j,d,r1,x⟩=>?_) hs rfl));have⟨a',e,q⟩:=x;subst e;have⟨u,rfl,r⟩:=vals1 r1;cases r;have f:s1.heap.objs.size+1≠s1.heap.objs.size:=Nat.succ_ne_self _;have g:∀(h':Kq),(∀b∈[s1.heap.objs.size+1,s1.heap.objs.size],gM X c j b):=λh' b y=>by
  have m:s1.heap.objs.size<=b:=by
   rcases gj.mp y with z|z
   .rw[z];show OX _
   .rw[js.mp z];show i5 _
  show d.wb m (d.HA.fresh m)
 rcases q with⟨⟨xs,k⟩,q⟩|⟨⟨xs,k⟩,q⟩
 .have⟨A,rv,p,hz⟩:=d.list k;have l:a'<s1.heap.objs.size:=let ⟨o,ho,_⟩:=p.isList;i6 ho;show call_enumerate_list p.isList λh' i hl hsz hk=>?_;show Vr i ⟨_,[s1.heap.objs.size+1,s1.heap.objs.size],_,_,j,rfl,d.kept (t':=s1.toks) hk,Dk a' _ _ f (ke l),⟨⟨_,i⟩,hl⟩,g h',q⟩
 .have⟨A,rv,p,hz⟩:=d.tuple k;have l:a'<s1.heap.objs.size:=let ⟨o,ho,_⟩:=p;i6 ho;show fC p λh' i hl hsz hk=>?_;show Vr i ⟨_,[s1.heap.objs.size+1,s1.heap.objs.size],_,_,j,rfl,d.kept (t':=s1.toks) hk,Dl a' _ _ f (ke l),⟨⟨_,i⟩,hl⟩,g h',q⟩
end
def An{b:List dV}(h:ZY (λi v=>b.toArray[b.toArray.size - 1 - i]?=a5 v) a b.toArray.size):a.toList=b.reverse:=by
 apply Y3;intro i;have hs:a.size=b.length:=by have:=h.1;simpa using this
 by_cases hi:i<b.length
 .have c:i<a.size:=by lia
  have:=h.2 i (a[i]'c) (by simp[c]);rw[PR,Wb c,List.getElem?_reverse hi];simpa using this.symm
 .rw[XQ (by rw[tr];lia),XQ (by rw[Sy];lia)]
section
end
def uP(l:gi)(a:Array dV)(n:Nat)(b:gi)(c:Array dV)(e:Nat)(dd:Option gi)(f:Array (Option dV))(o:¬(!a.isEmpty&&Jr (a.size+c.size))=bD)(i:a.size<=cK)(j:a.size+c.size<=cK+1):
  Meets (NV.«list.extend» ⟨[.ref l,.ref b],[]⟩) (λ_ R s=>s.heap.get? l=a5 {cls:=.type "list",dict:=b6,data:=.seq a n,slots:=#[]}/\s.heap.get? b=a5 {cls:=.type "list",dict:=dd,data:=.seq c e,slots:=f}/\R (.ok (.ret r3)) {s with heap:=s.heap.update l (rl λx=>x++c),toks:=s.toks}) :=
 .of_wp λprog w A R s h=>by
  have⟨p,g,d,q,os⟩:=s;have⟨hl,k,h⟩:=h;have r:=X6;have t:=Vl;have u:=V0;have v:=VF;have y:=VG;
  have m:(a++c).size<=cK+1:=by rw[Tg];show j
  wp_walk using(Q5 hl rfl (hz:=i) (_hz':=m)),NW hl,NW k;show⟨_,rfl,h⟩
def uQ(l:gi)(a:Array dV)(n:Nat)(b:gi)(c:Array dV)(e:Nat)(dd:Option gi)(f:Array (Option dV))(o:¬(!a.isEmpty&&Jr (a.size+c.size))=bD)(i:a.size<=cK)(j:a.size+c.size<=cK+1):
  Meets (NV.«list.extend» ⟨[.ref l,.ref b],[]⟩) (λ_ R s=>s.heap.get? l=a5 {cls:=.type "list",dict:=b6,data:=.seq a n,slots:=#[]}/\s.heap.get? b=a5 {cls:=.type "tuple",dict:=dd,data:=.seq c e,slots:=f}/\R (.ok (.ret r3)) {s with heap:=s.heap.update l (rl λx=>x++c),toks:=s.toks}) :=
 .of_wp λprog w A R s h=>by
  have⟨p,g,d,q,os⟩:=s;have⟨hl,k,h⟩:=h;have r:=X6;have t:=Vl;have u:=V0;have v:=VF;have y:=VG;
  have m:(a++c).size<=cK+1:=by rw[Tg];show j
  wp_walk using(Q5 hl rfl (hz:=i) (_hz':=m)),NW hl,NW k;show⟨_,rfl,h⟩
section
def rn:Qh X "list.extend" (λx vs H Q=>∃l b xs c,x=.ref l/\vs=[.ref b]/\H l=a5 (.lst xs)/\(Ip X.K H b c\/Iq X.K H b c)/\xs.length+c.length<=cK/\Q .HD (upd H l (.lst (xs++c)))):=by
 intro f s σ H x vs v us Q I w rv h;have⟨l,b,xs,c,rfl,rfl,p,hB,hz,q⟩:=h;cases w;have⟨u,rfl,y⟩:=rv.one;cases y;have⟨z,d,n,r,hl,e⟩:=I.Ac p;have g:∀a:List dV,Vals c a->EP X f σ Q r3 {s with heap:=s.heap.update l (rl λx=>x++a.toArray),toks:=s.toks}:=λa r2=>by
  show⟨.HD,_,I.ig (its':=d++a) p e (by simp) (r.append r2) ?_,rfl,q⟩;rw[j0];lia
 have k:∀a:List dV,c.length=a.length->d.toArray.size+a.toArray.size<=cK:=λa h=>by rw[hH,hH];lia
 have t:∀a:List dV,c.length=a.length->¬(!d.toArray.isEmpty&&Jr (d.toArray.size+a.toArray.size))=bD:=λa h=>by
  rw[wy (k a h),Wa];show ko
 rcases hB with hB|hB
 .obtain⟨a,r2,pl,_⟩:=I.list hB;obtain⟨⟨cls,dd,data,m⟩,ho,i,o,j⟩:=pl.isList;simp only at i j;subst i j;have Lp:=r2.length;have A:=k a Lp;show Po Zj ⟨_,e,rfl⟩ Y7 (YW _ _) (uP l d.toArray n b a.toArray o dd m (t a Lp) ⋯ ⋯) ⟨e,ho,g a r2⟩
 .obtain⟨a,r2,pl,_⟩:=I.tuple hB;obtain⟨⟨cls,dd,data,m⟩,ho,i,o,j⟩:=pl;simp only at i j;subst i j;have Lp:=r2.length;have A:=k a Lp;show Po Zj ⟨_,e,rfl⟩ Y7 (YW _ _) (uQ l d.toArray n b a.toArray o dd m (t a Lp) ⋯ ⋯) ⟨e,ho,g a r2⟩
end
def jg:Manifest.owners.lookup (String.ofList ['d','e','s','r','e','v','e','r'].reverse)=a5 Manifest.sig_reversed:=by kernel_rfl
def cy:Z' "reversed" "__next__" "reversed.__next__" :=
 .of (owner:="reversed") (n:="__next__") (by rw[Pb,LC];kernel_rfl) (by decide +kernel) (by decide +kernel) (by decide +kernel) (by first|show .inl (by decide +kernel)|show .inr (by decide +kernel)) (by rw[Og];kernel_rfl)
def fD:Ü table "reversed.__next__"=a5 NV.«reversed.__next__»:=Z7 (by kernel_rfl)
def gI(a:dV):YS "reversed.__next__" ⟨[a],[]⟩:=by
 unfold YS;rw[Yx (id:="reversed.__next__") (n:=['_','_','t','x','e','n','_','_']) (o:=['d','e','s','r','e','v','e','r']) (by kernel_rfl) jg];kernel_rfl
def gJ:Z' "reversed" "__iter__" "reversed.__iter__" :=
 .of (owner:="reversed") (n:="__iter__") (by rw[Pb,LC];kernel_rfl) (by decide +kernel) (by decide +kernel) (by decide +kernel) (by first|show .inl (by decide +kernel)|show .inr (by decide +kernel)) (by rw[Og];kernel_rfl)
def kQ:Ü table "reversed.__iter__"=a5 NV.«dict_keyiterator.__iter__» :=
 entryFor_alias (id':="dict_keyiterator.__iter__") (by kernel_rfl) (by first|rfl|decide +kernel|(unfold String.splitOn;simp +decide [String.splitOnAux])) (by decide +kernel) (by kernel_rfl)
def l0(a:dV):YS "reversed.__iter__" ⟨[a],[]⟩:=by
 unfold YS;rw[Yx (id:="reversed.__iter__") (n:=['_','_','r','e','t','i','_','_']) (o:=['d','e','s','r','e','v','e','r']) (by kernel_rfl) jg];kernel_rfl
def d_:Z' "reversed" "__length_hint__" "reversed.__length_hint__" :=
 .of (owner:="reversed") (n:="__length_hint__") (by rw[Pb,LC];kernel_rfl) (by decide +kernel) (by decide +kernel) (by decide +kernel) (by first|show .inl (by decide +kernel)|show .inr (by decide +kernel)) (by rw[Og];kernel_rfl)
def kR:Ü table "reversed.__length_hint__"=a5 NV.«reversed.__length_hint__»:=Z7 (by kernel_rfl)
def l7(a:dV):YS "reversed.__length_hint__" ⟨[a],[]⟩:=by
 unfold YS;rw[Yx (id:="reversed.__length_hint__") (n:=['_','_','t','n','i','h','_','h','t','g','n','e','l','_','_']) (o:=['d','e','s','r','e','v','e','r']) (by kernel_rfl) jg];kernel_rfl
def rp:XB (.type "reversed") "__len__"=pure b6:=by rw[Pb,LC];kernel_rfl
def oh:XB (.type "tuple") "__reversed__"=pure b6:=by rw[Pb,LC];kernel_rfl
def l8:Wn (.type "tuple") (.type "dict")=pure cb:=by rw[Og];kernel_rfl
def l9:Z' "reversed" "__init__" "object.__init__" :=
 .of (owner:="object") (n:="__init__") (by rw[Pb,LC];kernel_rfl) (by decide +kernel) (by decide +kernel) (by decide +kernel) (by first|show .inl (by decide +kernel)|show .inr (by decide +kernel)) (by rw[Og];kernel_rfl)
def gR:TypeCalled "reversed" "reversed.__new__" "object.__init__" :=
 ⟨by decide +kernel,PySem.F.create_reversed,⟨_,_,PySem.F.mro_reversed⟩,PySem.F.made_reversed,PySem.F.plain_reversed_new,PySem.F.sub_reversed_self,l9⟩
abbrev jF(l:gi)(i:Int):Obj:={cls:=.type "reversed",data:=.fields #[.ref l,QU i]}
abbrev fk(h:Kq)(a l:gi)(i:Int):Prop:=∃o,h.get? a=a5 o/\o.cls=.type "reversed"/\o.data=.fields #[.ref l,QU i]
def fk.typeIs{s:gm}(x:fk s.heap a l i):s.TypeIs (.ref a) "reversed":=let ⟨o,ho,b,_⟩:=x;⟨o,ho,b⟩
def fk.at(x:fk h a l i)(e:∀o,h.get? a=a5 o->h'.get? a=a5 o):fk h' a l i:=let ⟨o,ho,r⟩:=x;⟨o,e _ ho,r⟩
section
def Ao(hl:U' s.heap l b)(hz:b.size<=cK)
  (h:Q (.ref s.heap.objs.size) {s with heap:=s.heap.push (jF l ((b.size:Int) - 1)),toks:=s.toks+2}) :
  Oz (i4 prog w) A (.call (.builtin "reversed.__new__") ⟨[.type "reversed",.ref l],[]⟩) (wants Q E) s:=by
 have c:cK<2 ^ 60:=by decide
 show WJ ?_;change gs _ A.in1 (do Z8 "reversed.__new__" ⟨[.type "reversed",.ref l],[]⟩;à (.builtin "reversed.__new__" ⟨[.type "reversed",.ref l],[]⟩)) _ _ s;show b8 (Mz (PySem.F.newCall_reversed_1 _) (fx ⟨RF PySem.F.plain_reversed_new _,Nz PySem.F.entry_reversed_new ?_⟩));rw[P' PySem.F.plain_reversed_new _];unfold NV.«reversed.__new__»;show b8 (Mz (newClass_reversed _) ?_)
 try dsimp only
 show b8 (Mz (a:=()) (by first|rfl|kernel_rfl) ?_);show b8 (Mz (a:=()) (by first|rfl|kernel_rfl) ?_)
 try dsimp only
 show b8 (Pa hl.typeIs oh ?_)
 try dsimp only
 show b8 ?_
 wp_delta
 show b8 (RS hl.typeIs l8 ?_);rw[ë (by decide)];show b8 (Pa hl.typeIs sL.lookup ?_)
 try dsimp only
 rw[ê (by decide)];show fx ?_;rw[ë (by decide)];show b8 (Å hl ⋯ ?_);show b8 (fx ?_);change gs _ _ (newObj (.type "reversed") (.fields #[.ref l,QU ((b.size:Int) - 1)]) >>= _) _ _ _;show b8 (z8 (fx h) (by size_fits))
def wW(hl:U' s.heap l a)(hz:a.size<=cK)
  (h:Q (.ref s.heap.objs.size) {s with heap:=s.heap.push (jF l ((a.size:Int) - 1)),toks:=s.toks+2}):gs (i4 prog w) A (OD (.type "reversed") [.ref l]) Q E s:=by
 show Ý (Q₁:=λobj b=>obj=.ref s.heap.objs.size/\b={s with heap:=s.heap.push (jF l ((a.size:Int) - 1)),toks:=s.toks+2}) gR (PySem.F.typeCall_reversed_1 _) PySem.F.entry_object_init (Ao hl hz ⟨rfl,rfl⟩) ?_;rintro obj b ⟨rfl,rfl⟩;have c:({s with heap:=s.heap.push (jF l ((a.size:Int) - 1)),toks:=s.toks+2}:gm).TypeIs (.ref s.heap.objs.size) "reversed":=⟨_,hW _ rfl,rfl⟩
 show⟨c,PySem.F.args_object_init_2 _ _,object_init_meets gR.init.lookup gR.made (by decide) prog w A.in1 _ _ ⟨c,rfl,h⟩⟩
def wX{i:Nat}(hz:b.size<=cK)(c:fk s.heap it l (i:Int))(hl:U' s.heap l b)(e:b[i]?=a5 x)
  (f:∀h' g,fk h' it l ((i:Int) - 1)->KX it s.heap h'->Q (a5 x) {s with heap:=h',toks:=g}):gs (i4 prog w) A (RE (.ref it)) Q E s:=by
 have⟨o,ho,h,d⟩:=id c;have k:cK<2 ^ 60:=by decide
 have hi:i<b.size:=(Array.getElem?_eq_some_iff.mp e).1;unfold RE;show b8 (RC (H8 (name:=M7 "__next__") c.typeIs cy
  (x8 cy c.typeIs fD ?_ (gI _))))
 unfold NV.«reversed.__next__»;show b8 (Mz (a:=(ki it,[])) rfl ?_)
 try dsimp only
 show b8 (H0 ho d (x:=.ref l) rfl ?_);show b8 (H0 ho d (x:=QU (i:Int)) rfl ?_);change gs _ _ (if (i:Int)<0 then _ else _) _ _ s;rw[ë ⋯];show b8 (Pa hl.typeIs sL.lookup ?_);rw[ë (by decide)];show b8 (wpAny_mkInt (b8 (RC (getItem_tuple (s:={s with toks:=s.toks+1}) (j:=i) hl ⋯ ⋯ (by simp[Tx];lia) e ?_))))
 dsimp only
 show b8 (H0 ho d (x:=QU (i:Int)) rfl ?_);show b8 (Rh ho d (by simp) ?_);show fx ⟨x,rfl,fx (f _ _ ?_ (JT ..))⟩;show⟨_,vr _ ho (R0 (M8 d _)),(Y6 ..).trans h,by
  rw[M8 d];simp⟩
def Ap(f:A.handled=b6)(c:fk s.heap it l (-1))
  (g:∀h',Ve it s.heap h'->Q b6 {s with heap:=h' }):gs (i4 prog w) A (RE (.ref it)) Q E s:=by
 have⟨o,ho,i,d⟩:=id c;unfold RE;show b8 (RC (H8 (name:=M7 "__next__") c.typeIs cy
  (x8 cy c.typeIs fD ?_ (gI _))))
 unfold NV.«reversed.__next__»;show b8 (Mz (a:=(ki it,[])) rfl ?_)
 try dsimp only
 show b8 (H0 ho d (x:=.ref l) rfl ?_);show b8 (H0 ho d (x:=QU (-1)) rfl ?_);change gs _ _ (if (-1:Int)<0 then _ else _) _ _ s;rw[ê (by decide)];show b8 (Oe ?_);show b8 ?_
 wp_delta
 show b8 (Rh ho d (by simp) ?_);have h:=vr (Obj.mapFields λxs=>xs.set! 1 (QU (-1))) ho (R0 (M8 d _));have e:=M8 d (λxs=>xs.set! 1 (QU (-1)));show Rh h e (by simp) ?_;show b8 ?_
 wp_delta
 simp only[newExc,newTuple];show b8 (b8 (z8 ?_ (by size_fits)));show b8 (m:=S4 _ _) (Mz (a:=r3) (by first|rfl|(simp only[S4];rfl)) ?_);show z8 ?_ (by size_fits);simp only[raiseNew];show b8 (wpAny_handled ?_)
 first|rw[show A.in1.handled=b6 from f]|rw[f]
 show b8 (fx (wpAny_throw ?_));show b8 (RS (T:="StopIteration") (b:=bD) ⟨_,hW _ rfl,rfl⟩ Ú ?_);show fx (g _ (((((JT ..).extBut).trans (JT ..).extBut).push _).push _))
def wY(a:fk s.heap it l i)(h:Q (.ref it) s):gs (i4 prog w) A (XD (.ref it)) Q E s:=by
 show wpAny_pyIter_slot a.typeIs gJ (x8 gJ a.typeIs kQ ?_ (l0 _));change gs _ _ (ret (.ref it)) _ _ s;show fx ⟨_,rfl,"reversed",_,a.typeIs,cy.lookup,h⟩
def uR(p:A.handled=b6)(I l:gi)(q:l≠I)(a:Array dV)(hz:a.size<=cK):
  Walks prog w A I [I,l] [I] a.size (λi v=>a[a.size - 1 - i]?=a5 v) (λi h=>i<=a.size/\fk h I l ((a.size:Int) - 1 - (i:Int))/\U' h l a) where
 sub:=λb d=>by simp at d;simp[d]
 frame:=λ_ _ _ x hk=>⟨x.1,x.2.1.at λo e=>hk I (by simp) o e,let ⟨o,ho,r⟩:=x.2.2;⟨o,hk l (by simp) o ho,r⟩⟩
 item:=λi s Q E hi x f=>by
  have e:(a.size:Int) - 1 - (i:Int)=((a.size - 1 - i:Nat):Int):=by lia
  have c:=x.2.1;rw[e]at c;have j:a[a.size - 1 - i]?=a5 (a[a.size - 1 - i]'⋯):=Wb ⋯;show wX hz c x.2.2 j λh' t k m=>?_;have u:((a.size - 1 - i:Nat):Int) - 1=(a.size:Int) - 1 - ((i+1:Nat):Int):=by lia
  rw[u]at k;show f _ h' t j ⟨hi,k,let ⟨o,ho,r⟩:=x.2.2;⟨o,(m.2 l q).trans ho,r⟩⟩ λb o d g=>m.extBut b o (λh=>d (by simp[h])) g
 done:=λs Q E x f=>by
  have e:(a.size:Int) - 1 - (a.size:Int)=-1:=by lia
  have c:=x.2.1;rw[e]at c;show Ap p c λh' y=>f h' s.toks λb o d g=>y b o (λh=>d (by simp[h])) g
 self:=λ_ _ _ _ x f=>wY x.2.1 f
def wZ(d:fk s.heap I l ((c.size:Int) - 1))(hl:U' s.heap l c)(hz:c.size<=cK)(h:∀b e,s.toks<=e->Q b {s with toks:=e}):
  gs (i4 prog w) A (JW (.ref I)) Q E s:=by
 have g:cK<2 ^ 60:=by decide
 have⟨o,ho,j,f⟩:=id d;unfold JW;show b8 (Pa d.typeIs rp ?_);change gs _ A (specialOf (ki I) (M7 "__length_hint__") >>= _) _ _ _;show b8 (Pa d.typeIs d_.lookup ?_);have i:splitId "reversed.__length_hint__"=a5 ("reversed","__length_hint__"):=by decide +kernel
 dsimp only
 rw[i]
 dsimp only
 show b8 (RS d.typeIs PySem.F.sub_reversed_self ?_);rw[ë (by decide)];rw[ë (by decide +kernel)];show b8 (Oe ?_);show b8 (Mz (d_.bind _) ?_)
 dsimp only
 show b8 (RC (x8 d_ d.typeIs kR ?_ (l7 _)));unfold NV.«reversed.__length_hint__»;show b8 (Mz (a:=ki I) rfl ?_);show b8 (H0 ho f (x:=.ref l) rfl ?_);rw[ë (show ¬((ki l==r3)=bD) from ko)];show b8 (Å hl ⋯ ?_);show b8 (fx ?_);show b8 (H0 (s:={s with toks:=s.toks+1+1}) ho f (x:=QU ((c.size:Int) - 1)) rfl ?_);change gs _ _ (if (c.size:Int)<(c.size:Int) - 1+1 then _ else _) _ _ _;rw[ë ⋯];show b8 (wpAny_mkInt (fx ⟨_,rfl,?_⟩))
 dsimp only
 show b8 (fx ?_)
 dsimp only
 rw[ë (by simp only[Î,rz,Bool.and_eq_false_iff,decide_eq_false_iff_not];lia),ë ⋯,ë (by simp only[Jr,é];lia)];show fx (h _ _ ⋯)
variable{I:gi}{fp wr:List gi}{G:Array VA->Array VA->Prop}{n:Nat}{P:Nat->dV->Prop}{St:Nat->gm->Prop}
def rq(W:ZE prog w A.in1 I fp wr G n P St)(z:∀i s,St i s->s.TypeIs (.ref I) "reversed")(B:∀(A:Li) (E:dV->gm->Prop) (s:gm) (Q:Bool->gm->Prop),St 0 s->(∀b c,s.toks<=c->Q b {s with toks:=c})->gs (i4 prog w) A (JW (.ref I)) Q E s)(S:gi)(res:dV)(C:Nat)(j:St 0 s)(k:S∉fp)(D:I∈fp)
  (m:s.heap.get? S=a5 {cls:=.type "list",data:=.seq #[] C})
  (u:∀s' d a,Moved (S::wr) G s s'->s'.heap.get? S=a5 {cls:=.type "list",dict:=b6,data:=.seq d a,slots:=#[]}->ZY P d n->R (.ok (.ret res)) s') (v:n<=cK) :
  gs (i4 prog w) A.in1 (y0 (.ref S) (.ref I) res)
   (λp s'=>match p with|.done f=>R (.ok f) s'|.again a=>a.quiet=bD/\Oz (i4 prog w) A a R s') (λe s'=>R (.error e) s') s:=by
 have H:S≠I:=λe=>k (e▸D);unfold y0;show b8 (R_ (z 0 _ j) ?_);have J:TY (.ref S) (.ref I)=cb:=by simp[TY,H]
 have L:(Jy "reversed"==Jy "list")=cb:=by decide
 have N:(Jy "reversed"==Jy "tuple")=cb:=by decide
 simp only[J,L,N,ZN,S3,if_false];show b8 (W.self 0 _ _ _ j ?_);show b8 (D' ?_);show B _ _ _ _ j λb c l=>?_;have O:=W.frame 0 s s.heap c j l λb _ o e=>e;show Ë (λ_=>?_) (λ_=>fx ⟨RF PySem.F.plain_extend_loop _,Zg W v _ k _ n 0 _ _ _ rfl (mx _) O m (Zt P) λs' d a q r t=>u s' d a (UD W.gtrans ((YC W.grefl).then_heap l λb o _ e=>e) q) r t⟩);show b8 (Oe ?_);show b8 ?_;change gs _ _ (Z6 S (·.push .none) >>= λ_=>Z6 S (·.pop)) _ _ _;show b8 (Q5 (s:={s with toks:=c}) m rfl ?_);have x:=vr (rl (·.push r3)) m rfl;show Q5 (hz:=by seq_fits) x rfl ?_;have T:=vr (rl (·.pop)) x rfl;have y:∀b o,b≠S->s.heap.get? b=a5 o->((s.heap.update S (rl (·.push r3))).update S (rl (·.pop))).get? b=a5 o:=λb o g e=>(M3 _ _ (ri g)).trans ((M3 _ _ (ri g)).trans e);show fx ⟨RF PySem.F.plain_extend_loop _,Zg W v _ k _ n 0 _ _ _ rfl (mx _) (W.frame 0 s _ c j l λb g o e=>y b o (λh=>k (h▸g)) e) T (Zt P) λs' d a q r t=>?_⟩;show u s' d a (UD W.gtrans ((YC W.grefl).then_heap l λb o g e=>y b o (λh=>g (h▸kj)) e) q) r t
open AutoSeq1 (wpAny_loadPart') in
end
section
end
end L2
namespace L2
open PySem PySem.W PyProof.Rows
section
variable{I:gi}{fp wr:List gi}{G:Array VA->Array VA->Prop}{n:Nat}{P:Nat->dV->Prop}{St:Nat->gm->Prop}
def l_(W:ZE prog w A.in1 I fp wr G n P St)(q:∀i s,St i s->s.TypeIs (.ref I) "reversed")(r:∀(A:Li) (E:dV->gm->Prop) (s:gm) (Q:Bool->gm->Prop),St 0 s->(∀b l,s.toks<=l->Q b {s with toks:=l})->gs (i4 prog w) A (JW (.ref I)) Q E s)(S:gi)(t:St 0 s)(m:S∉fp)(u:I∈fp)
  (g:s.heap.get? S=a5 {cls:=.type "list",data:=.seq #[]})
  (v:∀s' d a,Moved (S::wr) G s s'->s'.heap.get? S=a5 {cls:=.type "list",dict:=b6,data:=.seq d a,slots:=#[]}->ZY P d n->R (.ok (.ret .none)) s') (x:n<=cK) :
  gs (i4 prog w) A.in1 (NV.«list.__init__» ⟨[.ref S,.ref I],[]⟩)
   (λj s'=>match j with|.done f=>R (.ok f) s'|.again a=>a.quiet=bD/\Oz (i4 prog w) A a R s') (λe s'=>R (.error e) s') s:=by
 change gs _ A.in1 (do let k <-UP (.ref S);Í (.ref S) (λ_=>#[]);letGo k.toList.reverse;y0 (.ref S) (.ref I) .none) _ _ s;show b8 ?_;unfold UP;show b8 (Xh g rfl (fx ?_));change gs _ A.in1 (Z6 S (λ_=>#[]) >>= λ_=>letGo (#[]:Array dV).toList.reverse >>= λ_=>y0 (.ref S) (.ref I) .none) _ _ s;show b8 (Q5 g rfl ?_);have y:=vr (rl (λ_=>(#[]:Array dV))) g rfl;have p:∀b o,b≠S->s.heap.get? b=a5 o->(s.heap.update S (rl (λ_=>(#[]:Array dV)))).get? b=a5 o :=
  λb o c e=>(M3 _ _ (ri c)).trans e
 show b8 (wpAny_letGo ?_);show rq W q r S .none _ (W.frame 0 s _ s.toks t (i5 _) λb c o e=>p b o (λh=>m (h▸c)) e) m u y (λs' d a z B C=>?_) x;show v s' d a (UD W.gtrans ((YC W.grefl).then_heap (i5 _) λb o c e=>p b o (λh=>c (h▸kj)) e) z) B C
def pQ(W:ZE prog w A.in1.in1 I fp wr G n P St)(j:∀i s,St i s->s.TypeIs (.ref I) "reversed")(k:∀(A:Li) (E:dV->gm->Prop) (s:gm) (Q:Bool->gm->Prop),St 0 s->(∀b f,s.toks<=f->Q b {s with toks:=f})->gs (i4 prog w) A (JW (.ref I)) Q E s)(l:St 0 s)(m:∀b∈fp,b<s.heap.objs.size)(p:I∈fp)
  (q:∀s' a c,Moved (s.heap.objs.size::wr) G {s with heap:=s.heap.push {cls:=.type "list",data:=.seq #[]}} s' ->
   s'.heap.get? s.heap.objs.size=a5 {cls:=.type "list",dict:=b6,data:=.seq a c,slots:=#[]}->ZY P a n->Q (.ref s.heap.objs.size) s') (r:n<=cK) :
  gs (i4 prog w) A (OD (.type "list") [.ref I]) Q E s:=by
 have t:s.heap.objs.size∉fp:=λd=>vl _ (m _ d);show Ý (Q₁:=λobj g=>obj=.ref s.heap.objs.size/\g={s with heap:=s.heap.push {cls:=.type "list",data:=.seq #[]}}) PySem.F.called_list (PySem.F.typeCall_list_1 _) PySem.F.entry_list_init
  (code_list_new _ ⟨rfl,rfl⟩) λobj g u=>?_
 have⟨rfl,rfl⟩:=u;have h:(s.heap.push {cls:=.type "list",data:=.seq #[]}).get? s.heap.objs.size=a5 {cls:=.type "list",data:=.seq #[]}:=hW _ rfl;show⟨⟨_,h,rfl⟩,PySem.F.args_list_init_2 _ _,l_ W j k _ (W.frame 0 s _ s.toks l (i5 _) λb _ o e=>df _ e) t p h (λs' a c d v x=>?_) r⟩;show⟨rfl,q s' a c d v x⟩
end
section
def w9(y:X.calm=bD)(I:Inv X d σ H s)(B:Iq X.K H a xs)(q:∀l,H l=b6->Q (.ref l) (upd H l (.lst xs.reverse))):
  gs (i4 X.prog X.w) X.A (OD (.type "reversed") [.ref a]) (λv s1=>gs (i4 X.prog X.w) X.A (OD (.type "list") [v]) (EP X d σ Q) X.xe s1) X.xe s:=by
 have⟨c,rv,p,hz⟩:=I.tuple B;have el:c.length=xs.length:=rv.length.symm;have n:a<s.heap.objs.size:=p.lt;have g:c.toArray.size<=cK:=by simp;lia
 have hsz:(s.heap.push (jF a ((c.toArray.size:Int) - 1))).objs.size=s.heap.objs.size+1:=Sj ..;show wW p g ?_;have C:fk (s.heap.push (jF a ((c.toArray.size:Int) - 1))) s.heap.objs.size a ((c.toArray.size:Int) - 1):=⟨_,hW _ rfl,rfl,rfl⟩
 show pQ (uR (A:=X.A.in1.in1) (I.ok.hd y) s.heap.objs.size a (ke n) c.toArray g).toS (λi s st=>st.2.1.typeIs) (λA E s Q st h=>wZ (by simpa using st.2.1) st.2.2 g h) ⟨mx _,by simpa using C,p.push _⟩ (λb j=>?_) (by simp) (λs' k r f t D=>?_) g
 .change b<(s.heap.push (jF a ((c.toArray.size:Int) - 1))).objs.size;rw[hsz];rcases gj.mp j with z|z
  .rw[z];show MG _
  .rw[js.mp z];show Pw n
 .have⟨u,G,J,L,o2⟩:=s';have N:G=s.gens:=f.gens;have O:J=s.drawn:=f.drawn;have T:o2=s.os:=f.os;subst N O T;generalize Y:s.heap.push (jF a ((c.toArray.size:Int) - 1))=m at f t hsz;have k2:∀b o,s.heap.get? b=a5 o->u.get? b=a5 o:=λb o e=>f.heap b o (λz=>by
   have j:=i6 e;rcases gj.mp z with z|z
   .rw[z]at j;have x:m.objs.size<s.heap.objs.size:=j;rw[hsz]at x;show absurd x (Zn (MG _))
   .rw[js.mp z]at e;show absurd (i6 e) (vl _)) (df _ (by rw[<-Y];show df _ e))
  have ea:=An D;show⟨.ref m.objs.size,_,I.laid (t':=L) (o:=.lst xs.reverse) k2 (by rw[hsz];show OX _) ⟨by rw[Sy];show hz,c.reverse,r,rv.reverse,?_⟩,rfl,q _ (I.HA.fresh (by rw[hsz];show OX _))⟩;have JJ:u.get? m.objs.size=a5 {cls:=.type "list",dict:=b6,data:=.seq k r,slots:=#[]}:=t;rw[JJ,<-ea,X1]
end
abbrev gS{α:Type}(lt:Nat->Nat->Bool):KasT α->α
 |.ret x=>x
 |.ask i j k=>gS lt (k (lt i j))
def Jg{α:Type}(n:Nat)(P:α->Prop):KasT α->Prop
 |.ret x=>P x
 |.ask i j k=>i<n/\j<n/\∀b,Jg n P (k b)
theorem Jg.Oa{P:α->Prop}{Q:β->Prop}{f:α->KasT β}(a:∀x,P x->Jg n Q (f x)):∀{t:KasT α},Jg n P t->Jg n Q (t.bind f)
 |.ret x,h=>a x h
 |.ask i j k,h=>⟨h.1,h.2.1,λb=>Jg.Oa a (h.2.2 b)⟩
theorem Jg.got:∀{t:KasT α},Jg n P t->P (gS lt t)
 |.ret _,h=>h
 |.ask i j k,h=>Jg.got (t:=k (lt i j)) (h.2.2 _)
theorem Jg.wp(b:∀i j,i<n->j<n->∀C:Bool->gm->Prop,C (lt i j) s->a i j C s):
  ∀{t:KasT α},Jg n P t->Q (gS lt t) s->t.kasWp a Q s
 |.ret _,_,q=>q
 |.ask i j k,h,q=>b i j h.1 h.2.1 _ (Jg.wp b (t:=k (lt i j)) (h.2.2 _) q)
abbrev Pm(n:Nat)(p:Array Nat):Prop:=p.toList.Perm (il n)
section
variable{n:Nat}(hn:0<n)
include hn
def Pm.at(h:Pm n p)(i:Nat):p.getD i 0<n:=by
 by_cases hi:i<p.size
 .have:p.getD i 0=p[i]:=by simp[Ê,hi]
  rw[this];have a:p[i]∈p.toList:=by simp
  show ve.mp (h.mem_iff.mp a)
 .have:p.getD i 0=0:=by simp[Ê,hi]
  rw[this];show hn
omit hn in
def Pm.rev(h:Pm n p)(i j:Nat):Pm n (kas_rev p i j):=(mirror_perm p i j _).toList.trans h
omit hn in
def Pm.Wr(h:Pm n p)(i j:Nat):Pm n (bubble p i j):=(bubble_perm p i j).toList.trans h
theorem rA(h:Pm n p):∀(f m:Nat),Jg n (λ_=>True) (kas_asc p f m)
 |0,m=>trivial
 |f+1,m=>⟨h.at hn _,h.at hn _,λb=>by
  cases b
  .show rA h f (m+1)
  .show trivial⟩
theorem j8:∀(f:Nat) (p:Array Nat) (m q:Nat),Pm n p->Jg n (λr=>Pm n r.1) (kas_desc f p m q)
 |0,p,m,q,h=>h
 |f+1,p,m,q,h=>⟨h.at hn _,h.at hn _,λb=>by
  cases b
  .show⟨h.at hn _,h.at hn _,λb=>by
    cases b
    .show j8 f p (m+1) (q+1) h
    .show h⟩
  .change Jg n _ (if q>0 then _ else _);split
   .show j8 f _ _ _ (h.rev _ _)
   .show j8 f _ _ _ h⟩
def sY(h:Pm n p)(m r:Nat):Jg n (λx=>Pm n x.2) (kas_tail3 m r p):=by
 unfold kas_tail3;show Jg.Oa (λx _=>?_) (rA hn (h.rev _ _) _ _);show h.rev _ _
def sZ(h:Pm n p)(m r:Nat):Jg n (λx=>Pm n x.2) (kas_descPart m r p):=by
 unfold kas_descPart;show Jg.Oa (λx a=>?_) (j8 hn _ _ _ _ h);split
 .show sY hn (a.rev _ _) _ _
 .show sY hn a _ _
def w_(h:Pm n p)(r:Nat):Jg n (λx=>Pm n x.2) (kas_count r p):=by
 unfold kas_count;show Jg.Oa (λm _=>?_) (rA hn h _ _);split
 .show h
 .split
  .show⟨h.at hn _,h.at hn _,λb=>by
    cases b
    .show sZ hn (h.rev _ _) _ _
    .show h⟩
  .show sZ hn h _ _
theorem kS(h:Pm n p)(k:Nat):∀(f l r:Nat),Jg n (λ_=>True) (kas_place p k f l r)
 |0,l,r=>trivial
 |f+1,l,r=>by
  unfold kas_place;split
  .show trivial
  .show⟨h.at hn _,h.at hn _,λb=>by
    cases b
    .show kS h k f _ _
    .show kS h k f _ _⟩
theorem xb:∀(f:Nat) (p:Array Nat) (k:Nat),Pm n p->Jg n (Pm n) (kas_bin f p k)
 |0,p,k,h=>h
 |f+1,p,k,h=>Jg.Oa (λl _=>xb f _ _ (h.Wr _ _)) (kS hn h _ _ _ _)
def s9:Jg n (Pm n) (NA n):=by
 unfold NA;show Jg.Oa (λx a=>?_) (w_ hn (p:=List.toArray (il n)) (by unfold Pm;simp) n);split
 .show xb hn _ _ _ a
 .show a
end
def kU(lt:Nat->Nat->Bool)(n:Nat):(gS lt (NA n)).toList.Perm (il n):=by
 cases n with
 |zero=>show List.Perm.refl _
 |succ n=>show(s9 (Nat.succ_pos n)).got
section
def uS(ho:s.heap.get? a=a5 (E' "list" vs.toArray n))(k:vs.length<64)
  (l:2<=vs.length->∀s1:gm,(∀b o,b≠a->s.heap.get? b=a5 o->s1.heap.get? b=a5 o)->gs (i4 prog w) A (keyKind' vs.toArray) (λκ s'=>s'=s1/\∀i j,i<vs.length->j<vs.length->∀C:Bool->gm->Prop,C (lt i j) s1->ZT prog w A κ vs i j C s1) (λ_ _=>False) s1)
  (h:P (.done (.ret .none)) {s with heap:=ZI s.heap a vs (((gS lt (NA vs.length)).toList.map λi=>vs.getD i r3).toArray)}) :
  gs (i4 prog w) A (NV.«list.sort» ⟨[.ref a],[]⟩) P E s:=by
 have L:a<s.heap.objs.size:=i6 ho;have t:(64:Nat)<=cK:=by decide
 rw[list_sort_plain];show b8 (YZ ho rfl (b8 (UT ho rfl ?_ (by rw[hH];lia) (mx _))));obtain⟨e1,m⟩:∃e1,(s.heap.update a (rl λ_=>(#[]:Array dV))).get? a=a5 (E' "list" #[] e1):=⟨_,Ï ho λ_=>#[]⟩
 show b8 (Zm m rfl (b8 (wpAny_newTuple (b8 (Yv (D' ?_) (mx _))) (by change vs.length<=_;lia))));have d:(((s.heap.update a (rl λ_=>(#[]:Array dV))).push (E' "tuple" vs.toArray 0)).push (E' "list" #[] 0)).get? a=a5 (E' "list" #[] e1):=df _ (df _ m);have f:∀b o,b≠a->s.heap.get? b=a5 o->(((s.heap.update a (rl λ_=>(#[]:Array dV))).push (E' "tuple" vs.toArray 0)).push (E' "list" #[] 0)).get? b=a5 o:=λb o u e =>
  df _ (df _ (by rw[YD _ _ _ _ u];show e))
 change gs (i4 prog w) A _ P E {s with heap:=((s.heap.update a (rl λ_=>(#[]:Array dV))).push (E' "tuple" vs.toArray 0)).push (E' "list" #[] 0)}
 dsimp only
 have q:((gS lt (NA vs.length)).toList.map λi=>vs.getD i r3).length=vs.length:=by rw[dr,(kU lt _).length_eq,T7]
 by_cases c:vs.toArray.size<2
 .rw[ê c,ê c];show b8 (fx ?_);rw[StateT.run_pure];show b8 (fx ?_);have y:((gS lt (NA vs.length)).toList.map λi=>vs.getD i r3).toArray=(vs.toArray.zip vs.toArray).map (·.2):=by
   have g:=kU lt vs.length;clear h l q f d ho k
   match vs,c,g with
   |[],_,g=>rw[show(gS lt (NA ([]:List dV).length)).toList=[] from ZL.mp g];simp
   |[v],_,g=>rw[show(gS lt (NA [v].length)).toList=[0] from List.perm_singleton.mp g];simp
   |_::_::_,c,_=>simp at c;lia
  rw[y]at h
  dsimp only
  show b8 (Zm d rfl (b8 (UT d rfl ?_ (mx _) (by rw[Array.size_map];change(pairsOf vs).size<=_;rw[pairsOf_size];lia))));simp only[bne_self_eq_false,S3,if_false];show fx h
 .rw[ë c,ë c];have r:2<=vs.length:=by rw[hH]at c;lia
  show b8 (td (l r _ f) (λκ N hk=>?_) λ_ _ x=>x.elim);have⟨rfl,hk⟩:=hk;show b8 (td (kat_run (κ:=κ) (ks:=vs) (vs:=vs) (G:=λp s'=>p=gS lt (NA vs.length)/\s'={s with heap:=((s.heap.update a (rl λ_=>(#[]:Array dV))).push (E' "tuple" vs.toArray 0)).push (E' "list" #[] 0)})
   (Q:=λst' s'=>∃p:Array Nat,arrOf st'=p.map (kas_item (vs.toArray.zip vs.toArray))/\failedOf st'=b6/\p=gS lt (NA vs.length)/\s'={s with heap:=((s.heap.update a (rl λ_=>(#[]:Array dV))).push (E' "tuple" vs.toArray 0)).push (E' "list" #[] 0)})
   rfl r k (λp st' s' O z B D=>⟨p,z,B,D⟩) (Jg.wp hk (s9 ⋯) ⟨rfl,rfl⟩)) ?_ λ_ _ e=>e)
  rintro⟨⟨⟩,st'⟩ s' ⟨p,H,I,rfl,rfl⟩
  dsimp only
  have J:=kat_snds rfl H;rw[J,I];show b8 (Zm d rfl (b8 (UT d rfl ?_ (mx _) (by rw[hH,q];lia))));simp only[bne_self_eq_false,S3,if_false];show fx h
end
@[reducible]def Aq:=Str×Int
abbrev MP(ks:List Str)(i j:Nat):Bool:=cL ((ks.getD i tv).cps.toList<(ks.getD j tv).cps.toList)
abbrev jY(ks:List Str):List Nat:=(gS (MP ks) (NA ks.length)).toList
def fZ(ks:List Str):(jY ks).Perm (il ks.length):=kU _ _
abbrev Fv(x:Str)(n:Int)(t u:Tok):Obj:={cls:=.type "tuple",data:=.seq #[.str x t,.int n u]}
abbrev fm(h:Kq)(as:List gi)(ps:List Aq):Prop:=as.length=ps.length/\∀(j:Nat) (a:gi),as[j]?=a5 a->∃p t u,ps[j]?=a5 p/\h.get? a=a5 (Fv p.1 p.2 t u)
def fm.keeps(x:fm h as ps)(k:∀b o,b∈as->h.get? b=a5 o->h'.get? b=a5 o):fm h' as ps :=
 ⟨x.1,λj a e=>let ⟨p,t,u,e1,c⟩:=x.2 j a e;⟨p,t,u,e1,k a _ (pd e) c⟩⟩
def fm.tail(x:fm h (a::as) (p::ps)):fm h as ps :=
 ⟨by have:=x.1;simpa using this,λj b e=>by
  have⟨q,t,u,e1,c⟩:=x.2 (j+1) b (by simpa using e);show⟨q,t,u,by simpa using e1,c⟩⟩
theorem fm.gy:∀{as:List gi}{ps:List Aq},fm h as ps->∃b:List dV,KatTups h (as.map ki) b/\b.length=as.length/\∀v∈b,∃x t,v=Iv x t
 |[],_,_=>⟨[],KatTups.nil,rfl,by simp⟩
 |a::as,[],x=>by have:=x.1;simp at this
 |a::as,p::ps,x=>by
  have⟨b,c,d,e⟩:=fm.gy x.tail;have⟨q,t,u,e1,f⟩:=x.2 0 a rfl;show⟨.str q.1 t::b,KatTups.cons f rfl rfl rfl c,by simp[d],λv hv=>?_⟩;rcases gj.mp hv with rfl|hv
  .show⟨_,_,rfl⟩
  .show e v hv
theorem mL:∀{l:List α}{m:List β}{i:Nat}{x:α},Paired F l m->l[i]?=a5 x->∃y,m[i]?=a5 y/\F x y
 |_,_,_,_,.nil,e=>by simp at e
 |_,_,0,_,.cons r _,e=>by simp at e;subst e;show⟨_,rfl,r⟩
 |_,_,i+1,x,.cons _ t,e=>by
  have⟨u,a,b⟩:=mL (i:=i) (x:=x) t (by simpa using e);show⟨u,by simpa using a,b⟩
section
def Dm(x:fm s.heap as ps)(e:(ps.map (·.1)).Nodup)(hi:i<as.length)(d:j<as.length)(q:C (MP (ps.map (·.1)) i j) s):
  ZT prog w A (tuples' bD) (as.map ki) i j C s:=by
 have⟨p,t,u,e1,f⟩:=x.2 i as[i] (by simp[hi]);have⟨a,t',u',c,g⟩:=x.2 j as[j] (by simp[d]);have hl:=x.1;have k:i<ps.length:=by lia
 have l:j<ps.length:=by lia
 have m:(as.map ki).getD i r3=.ref as[i]:=by simp[Lz,hi]
 have n:(as.map ki).getD j r3=.ref as[j]:=by simp[Lz,d]
 have o:(ps.map (·.1)).getD i tv=p.1:=by simp[Lz,e1]
 have r:(ps.map (·.1)).getD j tv=a.1:=by simp[Lz,c]
 unfold ZT;rw[m,n];show kat_lt (b:=bD) f rfl g rfl ?_;unfold MP at q;rw[o,r]at q;change KatLex prog w A bD (cL (2<2)) C [(.str p.1 t,.str a.1 t'),(.int p.2 u,.int a.2 u')] 0 s;show kat_cons (Z4 ?_);by_cases h:p.1=a.1
 .have v:i=j:=by
   have y:(ps.map (·.1))[i]'(by simpa using k)=(ps.map (·.1))[j]'(by simpa using l):=by
    obtain⟨_,z⟩:=dt.mp e1;obtain⟨_,B⟩:=dt.mp c;simp[z,B,h]
   show(Za e).mp y
  subst v;rw[e1]at c;cases c;rw[í rfl];show kat_yes (kat_cons (Z5 ?_));rw[show(p.2==p.2)=bD by simp];show kat_yes (kat_nil ?_);have:cL (p.1.cps.toList<p.1.cps.toList)=cb:=ì (List.lt_irrefl _);rw[this]at q;show q
 .rw[ì h];show kat_no (oneLt_str q)
def Dn(x:fm s.heap as ps)(b:(ps.map (·.1)).Nodup)(f:2<=as.length):
  gs (i4 prog w) A (keyKind' (as.map ki).toArray) (λκ s'=>s'=s/\∀i j,i<(as.map ki).length->j<(as.map ki).length->∀C:Bool->gm->Prop,C (MP (ps.map (·.1)) i j) s->ZT prog w A κ (as.map ki) i j C s) (λ_ _=>False) s:=by
 have⟨g,c,h,d⟩:=x.gy;show kat_kind (T:=.type "str") c ⋯ (λv e=>?_) rfl ⟨rfl,λi j hi a C q=>?_⟩
 .have⟨y,t,rfl⟩:=d v e;show Looks.of_pure rfl
 .rw[dr]at hi a;show Dm x b hi a q
end
abbrev jZ(H:Hp):List (gi×List V)->Hp
 |[]=>H
 |(a,vs)::r=>upd (jZ H r) a (.tup vs)
theorem kW:∀{l:List (gi×List V)}{b:gi}{o:HO},jZ H l b=a5 o->(∃vs,(b,vs)∈l/\o=.tup vs)\/H b=a5 o
 |[],b,o,h=>.inr h
 |(a,vs)::r,b,o,h=>by
  by_cases c:b=a
  .subst c;rw[jZ,aq]at h;cases h;show .inl ⟨vs,by simp,rfl⟩
  .rw[jZ,ak c]at h;rcases kW h with⟨ws,d,e⟩|q
   .show .inl ⟨ws,by simp[d],e⟩
   .show .inr q
theorem kX:∀{l:List (gi×List V)}{b:gi},(∀p∈l,p.1≠b)->jZ H l b=H b
 |[],b,_=>rfl
 |(a,vs)::r,b,h=>by
  rw[jZ,ak (ri (h _ kj))];show kX λp c=>h p (by simp[c])
theorem s_:∀{l:List (gi×List V)}{b:gi}{vs:List V},(l.map (·.1)).Nodup->(b,vs)∈l->jZ H l b=a5 (.tup vs)
 |(a,ws)::r,b,vs,d,h=>by
  have c:a∉r.map (·.1)/\(r.map (·.1)).Nodup:=by simpa using d
  rcases gj.mp h with h|h
  .cases h;show aq
  .have:b≠a:=λz=>c.1 (by rw[<-z];show lx.mpr ⟨_,h,rfl⟩);rw[jZ,ak this];show s_ c.2 h
section
def Inv.many(I:Inv X a σ H s)(k:∀b u,s.heap.get? b=a5 u->h'.get? b=a5 u)(d:∀b o,H b=a5 o->H' b=a5 o)
  (f:∀b o,H' b=a5 o->H b=a5 o\/(s.heap.objs.size<=b/\bE X.prog X.w H' h' b o)):Inv X a σ H' {s with heap:=h',toks:=t' }:=by
 show I.un ⟨λb u q _ _ _=>k b u q,λb u q _ _ _=>⟨u.slots,k b u q⟩,λb u q n _=>?_,λb u q _=>⟨u,k b u q⟩,λb xs q=>d b _ q,λb u xs q=>d b _ q,λb ps q=>⟨#[],by rw[d b _ q];simp⟩⟩ λb o e=>?_
 .cases e:H' b with
  |none=>rfl
  |some o =>
   rcases f b o e with z|⟨z,_⟩
   .rw[n]at z;cases z
   .show absurd (ku (i6 q) z) (vl _)
 .rcases f b o e with z|⟨_,z⟩
  .show(I.HA b o z).kh (λc v _ q=>k c v q) (λc q=>d c _ q) λc xs q=>d c _ q
  .show z
abbrev LV(p:Aq):List V:=[.str p.1,.int p.2]
def oi{ps:List Aq}(hc:X.calm=bD)(I:Inv X g σ H s)(e:H d=a5 (.dK (ps.map λp=>((ox p.1:Key),V.int p.2))))(HX:(ps.map (·.1)).Nodup)(Ma:ps.length<64)
  (q:∀(as:List gi) (L:gi),as.length=ps.length->as.Nodup->(∀a∈L::as,H a=b6)->L∉as->Q (.ref L) (upd (jZ H (as.zip (ps.map LV))) L (.lst ((jY (ps.map (·.1))).map λi=>V.ref (as.getD i 0))))) :
  gs (i4 X.prog X.w) X.A (OD (.builtin "dict.items") [.ref d]) (λv s1=>gs (i4 X.prog X.w) X.A (OD (.builtin "sorted") [v]) (EP X g σ Q) X.xe s1) X.xe s:=by
 have ab:(64:Nat)<=cK:=by decide
 have⟨hz,lo,vs,kv,dd⟩:=wD I.HA e;have C:vs.length=ps.length:=by
  have:=Paired.length kv;simpa using this.symm
 have⟨o,es,ep,r⟩:=id dd;show YR PySem.F.slot_dict_items (show s.TypeIs (.ref d) "dict" from⟨o,r.1,r.2.1.1⟩) PySem.F.entry_dict_items (PySem.F.args_dict_items_1 _) (meets_dict_items (aY X.prog X.w) d lo) ⟨⟨vs,dd⟩,?_⟩;change gs (i4 X.prog X.w) X.A (OD (.builtin "sorted") [.ref s.heap.objs.size]) (EP X g σ Q) X.xe {s with heap:=s.heap.push {cls:=.type "dict_items",data:=.fields #[.ref d]}};have k1:∀b u,s.heap.get? b=a5 u->(s.heap.push {cls:=.type "dict_items",data:=.fields #[.ref d]}).get? b=a5 u:=λb u z=>df _ z;have Yd:(s.heap.push {cls:=.type "dict_items",data:=.fields #[.ref d]}).DictOf (aY X.prog X.w) d vs:=⟨o,es,ep,k1 _ _ r.1,r.2⟩
 have Jq:(s.heap.push {cls:=.type "dict_items",data:=.fields #[.ref d]}).DictAt (aY X.prog X.w) d vs ep:=⟨o,es,k1 _ _ r.1,r.2⟩
 show VN kind_sorted plain_sorted entry_sorted (args_sorted1 _) ?_;unfold NV.«sorted»;show b8 (m:=checkCount "sorted" 1 1 _) (fx ?_);show b8 (kdx_collect (A:=X.A.in1) (knd:=aY X.prog X.w) (kvs:=vs) (ep:=ep) (I.ok.hd hc) ⟨_,hW _ rfl,rfl,rfl⟩ Jq ⋯ λc tk as hk hl D=>?_);have G:as.length=ps.length:=hl.trans C;have f:∀a∈as,s.heap.objs.size<=a:=λa ha=>by
  have:=D.above a ha;have z:(s.heap.push {cls:=.type "dict_items",data:=.fields #[.ref d]}).objs.size=s.heap.objs.size+1:=Sj ..;have Us:(s.heap.push {cls:=.type "dict_items",data:=.fields #[.ref d]}).objs.size<a:=this;lia
 have Y:fm c as ps:=⟨G,λj a ea=>by
  have⟨key,k,x,e1,N,e3⟩:=D.pairs j a ea;have B:j<ps.length:=by rw[<-G];show(dt.mp ea).1
  have⟨y,ey,r1,r2⟩:=mL kv (i:=j) (x:=((ox ps[j].1:Key),V.int ps[j].2)) (by simp[B]);rw[e1]at ey;cases ey;obtain⟨tx,rfl⟩:∃t,x=.int ps[j].2 t:=r2;have Wu:k=ox ps[j].1:=r1.symm;subst Wu;have⟨t,rfl⟩:=X2 (x:=ps[j].1) (v:=key) N;show⟨ps[j],t,tx,by simp[B],e3⟩⟩
 have nd:as.Nodup:=D.rise.imp λh=>ke h;show b8 (Yv ?_ (by rw[dr];lia));have O:(c.push (E' "list" (as.map ki).toArray 0)).get? c.objs.size=a5 (E' "list" (as.map ki).toArray 0):=hW _ rfl;change gs _ _ _ _ _ {s with heap:=c.push (E' "list" (as.map ki).toArray 0),toks:=tk};have Ut:∀a∈as,a<c.objs.size:=λa ha=>D.there ha;show b8 (D' (x8 ä ⟨_,O,rfl⟩ Ð (uS (lt:=MP (ps.map (·.1))) O (by rw[dr];lia) (λh2 s1 ks=>?_) ⟨_,rfl,?_⟩) (ç _)))
 .show Dn (Y.keeps λb o J z=>ks b o (ke (Ut b J)) (df _ z)) HX (by rw[dr]at h2;show h2)
 .have⟨ee,he⟩:=sortedHeap_at (out:=((gS (MP (ps.map (·.1))) (NA (as.map ki).length)).toList.map λi=>(as.map ki).getD i r3).toArray) O;have n:∀b o,c.get? b=a5 o->(ZI (c.push (E' "list" (as.map ki).toArray 0)) c.objs.size (as.map ki) ((gS (MP (ps.map (·.1))) (NA (as.map ki).length)).toList.map λi=>(as.map ki).getD i r3).toArray).get? b=a5 o:=λb o z=>by
   have Ir:b<c.objs.size:=i6 z;rw[ã (ke Ir) (by rw[Sj];show Pw Ir)];show df _ z
  have Ng:s.heap.objs.size<=c.objs.size:=PF (i6 (hk _ _ (hW _ rfl)));have eP:((gS (MP (ps.map (·.1))) (NA (as.map ki).length)).toList)=jY (ps.map (·.1)):=by
   unfold jY;rw[dr,dr,G]
  have Of:H c.objs.size=b6:=I.HA.fresh Ng;have Wv:c.objs.size∉as:=λz=>vl _ (Ut _ z);have Uu:∀a∈as,H a=b6:=λa ha=>I.HA.fresh (f a ha);have Sl:∀{b:gi} {ws:List V},(b,ws)∈as.zip (ps.map LV)->b∈as:=λz=>(QG z).1;show fx ⟨_,rfl,.ref c.objs.size,upd (jZ H (as.zip (ps.map LV))) c.objs.size (.lst ((jY (ps.map (·.1))).map λi=>V.ref (as.getD i 0))),?_,rfl,q as _ G nd (λa ha=>?_) Wv⟩
  .show I.many (λb u z=>n b u (hk b u (k1 b u z))) (λb o z=>?_) λb o z=>?_
   .have n1:b≠c.objs.size:=λy=>by rw[y,Of]at z;cases z
    rw[ak n1,kX λp hp y=>?_]
    .show z
    .have:=Uu p.1 (Sl (b:=p.1) (ws:=p.2) hp);rw[y,z]at this;cases this
   .by_cases J:b=c.objs.size
    .subst J;rw[aq]at z;cases z;show .inr ⟨Ng,by rw[dr,(fZ _).length_eq,T7,dr];lia,(jY (ps.map (·.1))).map λi=>(as.map ki).getD i r3,ee,?_,?_⟩
     .have T:∀i∈jY (ps.map (·.1)),i<as.length:=λi hi=>by
       have:=ve.mp ((fZ _).mem_iff.mp hi);rw[dr]at this;lia
      generalize jY (ps.map (·.1))=l at T;induction l with
      |nil=>show .nil
      |cons i l ih =>
       show .cons ?_ (ih λj B=>T j (by simp[B]));have hi:=T i (by simp);change RelV (.ref (as.getD i 0)) ((as.map ki).getD i r3);have:(as.map ki).getD i r3=.ref (as.getD i 0):=by simp[Lz,hi]
       rw[this];rfl
     .rw[<-eP];show he
    .rw[ak J]at z;rcases kW z with⟨ws,z1,rfl⟩|z1
     .have⟨j,B,ej⟩:=R6.mp z1;have Sm:j<as.length:=by simp at B;lia
      have Sk:j<ps.length:=by lia
      have Ww:as[j]=b/\LV ps[j]=ws:=by simpa using ej
      have⟨rfl,rfl⟩:=Ww;have⟨p,t,u,e1,N⟩:=Y.2 j as[j] (by simp[Sm]);have:p=ps[j]:=by simpa[Sk] using e1.symm
      subst this;show .inr ⟨f _ (by simp),by change 2<=cK;lia,[.str ps[j].1 t,.int ps[j].2 u],.cons ⟨t,rfl⟩ (.cons ⟨u,rfl⟩ .nil),_,n _ _ N,rfl,0,rfl⟩
     .show .inl z1
  .rcases gj.mp ha with rfl|ha
   .show Of
   .show Uu a ha
end
section
def uT{vs:List (Key×dV)}(hk:vs.map (·.1)=ks.map ox)(hl:a.length=vs.length)(h:∀(j:Nat) (v:dV),a[j]?=a5 v->∃k x,vs[j]?=a5 (k,x)/\(aY P w).is k v=bD):Q8 a ks:=by
 induction a generalizing ks vs with
 |nil =>
  cases vs with
  |nil=>cases ks with
   |nil=>show .nil
   |cons _ _=>cases hk
  |cons _ _=>cases hl
 |cons v a b =>
  cases vs with
  |nil=>cases hl
  |cons p vs =>
   cases ks with
   |nil=>cases hk
   |cons k ks =>
    simp only[g8,P8]at hk;have⟨k',x,e1,c⟩:=h 0 v rfl;simp only[List.getElem?_cons_zero,Qz]at e1;subst e1;have d:k'=ox k:=hk.1;subst d;rcases br (show kg (ox k) v=bD from c) with⟨i,t,e,rfl⟩|⟨y,t,e,rfl⟩
    .cases e
    .cases e;show .cons _ _ (b hk.2 (by simpa using hl) λj u f=>h (j+1) u (by simpa using f))
def jh:X.calm=bD->gG X (.builtin "sorted") (λxs H Q=>∃(d:gi) (kvs:List (Key×V)) (ks:List Str),xs=[.ref d]/\H d=a5 (.dK kvs)/\kvs.map (·.1)=ks.map ox/\ks.length<64/\∀q,H q=b6->Q (.ref q) (upd H q (.lst ((bF ks).map V.str)))):=by
 intro l a s σ H xs us Q I rs h;have⟨d,kvs,ks,rfl,e,hk,D,q⟩:=h;have⟨u,rfl,r⟩:=vals1 rs;cases r;have⟨hz,lo,vs,kv,dd⟩:=wD I.HA e;have b:vs.length=kvs.length:=(Paired.length kv).symm;have m:kvs.length=ks.length:=by rw[<-dr (f:=(·.1)),hk,dr]
 have n:vs.map (·.1)=ks.map ox:=by
  rw[<-hk];clear dd b hk m e q hz;induction kv with
  |nil=>rfl
  |cons r _ p=>rw[g8,g8,p,r.1]
 have⟨o,es,ep,t⟩:=id dd;have x:(64:Nat)<=cK:=by decide
 show gP (kdu_collect (A:=X.A.in1) (kdl_dict (knd:=aY X.prog X.w) (kvs:=vs) (ep:=ep) lo) (I.ok.hd l) ⟨o,es,t⟩ ⋯ λh' c y z g=>⟨ks,uT n (by rw[tr];show g.1) (λj v B=>g.2 j v (by rw[<-PR];show B)),by rw[tr,g.1];lia,λG vs' C k2 i s2=>?_⟩);have k:Inv X a σ H {s with heap:=h',toks:=c}:=I.kept (t':=c) z;show⟨.ref h'.objs.size,_,k.laid (t':=c) (o:=.lst ((bF ks).map V.str)) k2 (i5 _) ⟨by rw[dr,iy];lia,vs',C,eZ s2,i⟩,rfl,q _ (k.HA.fresh (i5 _))⟩
end
end L2
namespace L2
open PySem PyProof.Rows PySem.W
abbrev Hc(h:Kq)(e C:gi)(a0:dV)(T:Option gi)(b:dV):Prop:=∃oe vs,h.get? e=a5 oe/\oe.cls=.ref C/\oe.data=.fields vs/\vs[0]?=a5 a0/\match T with
 |none=>vs[1]?=a5 .none
 |some T=>T≠e/\vs[1]?=a5 (.ref T)/\∃a ts,h.get? T=a5 a/\a.data=.fields ts/\ts[3]?=a5 b
structure bX(P:va)(w:w6)(stack:List Env)(H:Hp)(s:gm)(e C:gi)(T:Option gi)(fl:dV)(H':Hp)(s':gm):Prop where
 os:s'.os=s.os
 bare:RB s'.gens
 un:Un (Io stack) [] H H' s.heap s'.heap
 HA:IS P w H' s'.heap
 new:s.heap.get? e=b6
 he:H' e=b6
 exc:∃a0,Hc s'.heap e C a0 T fl
 hT:∀a,T=a5 a->s.heap.get? a=b6/\H' a=b6
abbrev J3(P:va)(w:w6):M':=λouter H s E v s'=>∃e C T H',v=.ref e/\bX P w outer H s e C (a5 T) .none H' s'/\E (.ref C) b6 H'
def bE.there(x:bE P w H h a o):∃u,h.get? a=a5 u:=by
 cases o with
 |lst xs=>obtain⟨_,_,_,_,e⟩:=x;show⟨_,e⟩
 |tup xs=>obtain⟨_,_,_,_,e,_⟩:=x;show⟨_,e⟩
 |set S n=>obtain⟨o,_,_,_,e,_⟩:=x;show⟨_,e⟩
 |ins C c b=>obtain⟨_,_,_,e,_⟩:=x;show⟨_,e⟩
 |own y=>show x
 |xd b=>obtain⟨_,⟨_,_,_,e,_⟩,_⟩:=x;show⟨_,e⟩
 |P9 lo hi=>obtain⟨_,_,_,e⟩:=x;show⟨_,e⟩
 |Ko d u=>show⟨_,x.1⟩
 |MC ps=>show⟨_,x⟩
 |met f y=>show⟨_,x⟩
 |ext φ=>show x.2.1
 |_=>obtain⟨_,_,_,_,o,_,_,e,_⟩:=x;show⟨_,e⟩
section
variable{P:va}{w:w6}{stack outer:List Env}{H H':Hp}{s s':gm}{e C L:gi}{T:Option gi}{fl:dV}{base:Kq}{env:Env}{M:Model}{A:Li}{E:dV->gm->Prop}{Q:Unit->gm->Prop}
theorem tf(u:Un (Io stack) [] H H' s.heap s'.heap)(a:∀b∈Io stack,H b=b6):∀l:List Env,(∀b∈Io l,b∈Io stack)->s.heap.FunFrames base l->s'.heap.FunFrames base l
 |[],_,_=>trivial
 |env::l,hs,⟨hk,⟨L,o,c,d,ho,f⟩,g⟩=>by
  have h:Io (env::l)=L::Io l:=by unfold Io;rw[Jd,c]
  rw[h]at hs;have⟨j,q⟩:=u.any ho (a L (hs L kj)) λz=>nomatch z
  show⟨hk,⟨L,_,c,d,q,f⟩,tf u a l (λb i=>hs b (i8 _ i)) g⟩
def bX.next(F:bX P w stack H s e C T fl H' s')(k:s.heap.FunFrames base stack)(l:∀b∈Io stack,H b=b6)(G:B=hideAll s'.heap (e::(T.toList++Io stack))):
  B.StaysIn s'.heap/\s'.heap.FunFrames B stack/\B.get? e=b6/\(∀a,T=a5 a->B.get? a=b6) /\
   ∀h' i,B.StaysIn h'->h'.FunFrames B stack->h'.TracedAtW B e (.ref C) a0 i->s'.heap.UpToSlots h'->∃c,bX P w stack H s e C (a5 c) i H' {s' with heap:=h' }:=by
 have m:=tf F.un l _ (λ_ z=>z) k;subst G;show⟨λb o q=>of_hideAll _ q,funFrames_hide m λI J a N=>i8 _ (ti _ (OG.mpr ⟨I,J,N⟩)),hideAll_none _ kj,λa z=>hideAll_none _ (i8 _ (LG _ (by simp[z]))),λh' i k1 k2 ⟨O,vs',c,Y,WA,b1,⟨b2,b0⟩,b3,b4,b5,p,r,t,b9⟩ k4=>?_⟩;have WB:∀a,a∈e::(T.toList++Io stack)->H' a=b6:=λa ha=>by
  rcases gj.mp ha with rfl|ha
  .show F.he
  rcases i9.mp ha with ha|ha
  .show(F.hT a (by simpa using ha)).2
  .obtain⟨_,o,ho,_⟩:=k.mem ha;show F.un.free a o ho (l a ha) λz=>nomatch z
 have keep:∀b o,b∉e::(T.toList++Io stack)->s'.heap.get? b=a5 o->h'.get? b=a5 o:=λb o hb q=>k1 b o (hideAll_get _ q hb);have slot:∀b o,b∈Io stack->s'.heap.get? b=a5 o->∃v,h'.get? b=a5 {o with slots:=v}:=λb o hb q=>by
  obtain⟨_,o',d,j⟩:=m.mem hb;rw[q]at d;cases d;show k4 b o q j
 have x:∀b o,s.heap.get? b=a5 o->b∉Io stack->b∉e::(T.toList++Io stack):=λb o q hb z=>by
  rcases gj.mp z with z|z
  .rw[z,F.new]at q;cases q
  rcases i9.mp z with z|z
  .rw[(F.hT b (by simpa using z)).1]at q;cases q
  .show hb z
 have tn:s.heap.get? c=b6/\H' c=b6:=by
  by_cases z:c∈e::(T.toList++Io stack)
  .rcases gj.mp z with z|z
   .show absurd z p
   rcases i9.mp z with z|z
   .show F.hT c (by simpa using z)
   .obtain⟨_,o',d,j⟩:=k2.mem z;rw[r]at d;cases d;show absurd t (j _)
  .have q:s'.heap.get? c=b6:=by
    cases q:s'.heap.get? c with
    |none=>rfl
    |some o=>have:=hideAll_get _ q z;rw[b5]at this;cases this
   show⟨?_,?_⟩
   .cases f:s.heap.get? c with
    |none=>rfl
    |some o=>have⟨o',y⟩:=F.un.there _ o f λz=>nomatch z;rw[q]at y;cases y
   .cases f:H' c with
    |none=>rfl
    |some u =>
     have⟨o,z⟩:=(F.HA c u f).there;rw[q]at z;cases z
 show⟨c,F.os,F.bare,⟨λb o q n hb g=>keep b o (x b o q hb) (F.un.keep b o q n hb g),λb o q n hb g=>?_,F.un.free,λb o q g=>?_,F.un.gy,F.un.I0,F.un.Jf⟩,λa u q=>(F.HA a u q).kh (λb o hb d=>?_) (λ_ z=>z) λ_ _ z=>z,F.new,F.he,⟨_,O,vs',b1,b2,b3,b0,p,b4,Y,WA,r,t,b9⟩,λa z=>by cases z;show tn⟩
 .have⟨v,h⟩:=F.un.slot b o q n hb g;have⟨D,f⟩:=slot b _ hb h;show⟨D,f⟩
 .have⟨o',h⟩:=F.un.there b o q g;by_cases hb:b∈Io stack
  .have⟨D,f⟩:=slot b _ hb h;show⟨_,f⟩
  .show⟨_,keep b _ (x b o q hb) h⟩
 .show keep b o (λz=>?_) d;have:=WB b z;rcases hb with rfl|hb
  .rw[q]at this;cases this
  .rw[hb]at this;cases this
def bX.leave(F:bX P w (env::outer) H s e C T .none H' s')(c:A.frames=a5 (env::outer))(d:env.frame=a5 L)(q:s.heap.FunFrames base (env::outer))(r:∀b∈Io (env::outer),H b=b6)
  (h:∀f g,bX P w (env::outer) H s e C (a5 f) .none H' g->Q () g):gs M A (leaving env (.ref e)) Q E s':=by
 have⟨a0,oe,vs,i,j,k,l,m⟩:=F.exc;obtain⟨B,t⟩:∃B,B=hideAll s'.heap (e::(T.toList++Io (env::outer))):=⟨_,rfl⟩
 have⟨n,o,p,u,v⟩:=F.next (a0:=a0) q r t;have a:∀h',Heap.LeftW B (env::outer) e (.ref C) a0 s'.heap h'->Q () {s' with heap:=h' }:=λh' x=>by
  have⟨k1,k2,k3,y⟩:=x;have⟨f,z⟩:=v h' .none k1 k2 k3 y;show h _ _ z
 cases T with
 |none=>show wpAny_leaving_firstW c o d i n p k m l λh' z=>a h' (j▸z)
 |some T =>
  have⟨D,G,I,ts,J,N,O⟩:=m;show wpAny_leaving_nextW c o d ⟨oe,vs,T,I,ts,i,⟨j,l⟩,k,G,u T rfl,D,J,N,O⟩ n p a
def bX.note{T:gi}(F:bX P w (env::outer) H s e C (a5 T) .none H' s')(d:A.frames=a5 (env::outer))(f:env.frame=a5 L)(g:s.heap.FunFrames base (env::outer))(i:∀b∈Io (env::outer),H b=b6)
  (h:∀a c,bX P w (env::outer) H s e C (a5 a) (QU L) H' c->Q () c):gs M A (noteFrame (.ref e) env) Q E s':=by
 have⟨a0,oe,vs,j,k,l,m,n,o,p,ts,q,r,t⟩:=F.exc;have⟨u,v,x,y,B⟩:=F.next (a0:=a0) g i rfl;show wpAny_noteFrame_onW d v f ⟨oe,vs,T,p,ts,j,⟨k,m⟩,l,o,y T rfl,n,q,r,t⟩ u x λh' D=>?_;have⟨k1,k2,k3,G⟩:=D;have⟨a,z⟩:=B h' _ k1 k2 k3 G;show h _ _ z
def bX.land{T:gi}(F:bX P w stack H s e C (a5 T) fl H' s')(d:s.heap.FunFrames base stack)(f:∀b∈Io stack,H b=b6)
  (h:∀a c,bX P w stack H s e C (a5 a) .none H' c->Q () c):gs M A (setFlight (.ref e) b6) Q E s':=by
 have⟨a0,oe,vs,g,i,j,k,l,m,p,ts,r,t,u⟩:=F.exc;have⟨v,x,G,y,B⟩:=F.next (a0:=a0) d f rfl;show wpAny_setFlight_noneW v x ⟨oe,vs,T,p,ts,g,⟨i,k⟩,j,m,y T rfl,l,r,t,u⟩ λh' k1 k2 k3 D=>?_;have⟨a,z⟩:=B h' _ k1 k2 k3 λb o q n=>⟨o.slots,D b o q n⟩
 show h _ _ z
end
section
def bX.down(I:Inv X i σ H s)(k:X.ex=[])(hs:X.stack=X.env::X.outer)(l:X.env.frame=a5 X.env.locals)(F:bX X.prog X.w X.stack H s e C T m H' s'):bX X.prog X.w X.outer X.H₀ X.s₀ e C T m H' s':=by
 have nx:∀b:gi,b∉X.ex:=λb z=>by rw[k]at z;cases z
 have j:Io X.stack=X.env.locals::Io X.outer:=by rw[hs];unfold Io;rw[Jd,l]
 have c:∀b,s.heap.get? b=b6->X.s₀.heap.get? b=b6:=λb q=>by
  cases z:X.s₀.heap.get? b with
  |none=>rfl
  |some o=>have⟨o',z⟩:=I.base.there b o z (nx b);rw[q]at z;cases z
 have hl:∀b o,X.s₀.heap.get? b=a5 o->b≠X.env.locals:=λb o q=>ke (ku (i6 q) I.ok.above);have g:∀b:gi,b∉([]:List gi):=λb z=>nomatch z
 show⟨F.os.trans I.os,F.bare,⟨λb o q n f _=>?_,λb o q n f _=>?_,λb o q n _=>?_,λb o q _=>?_,λb xs q=>F.un.gy b xs (I.base.gy b xs q),λb o u q=>F.un.I0 b o u (I.base.I0 b o u q),λb ps q=>?_⟩,F.HA,c _ F.new,F.he,F.exc,λa z=>⟨c _ (F.hT a z).1,(F.hT a z).2⟩⟩
 .show F.un.keep b o (I.base.keep b o q n f (nx b)) (I.base.free b o q n (nx b)) (λz=>by rw[j]at z;show(gj.mp z).elim (hl b o q) f) (g b)
 .have⟨r,d⟩:=I.base.slot b o q n f (nx b);have⟨p,h⟩:=F.un.slot b _ d (I.base.free b o q n (nx b)) (by rw[j];show i8 _ f) (g b);show⟨p,h⟩
 .have⟨o',d⟩:=I.base.there b o q (nx b);show F.un.free b o' d (I.base.free b o q n (nx b)) (g b)
 .have⟨o',d⟩:=I.base.there b o q (nx b);show F.un.there b o' d (g b)
 .have⟨m1,d⟩:=I.base.Jf b ps q;have⟨m2,h⟩:=F.un.Jf b _ d;show⟨m1++m2,by rw[h,YH]⟩
def bX.made(I:Inv X c σ H s)(b:Heap.MadeExcOf s.heap h' e (.ref C) vs):bX X.prog X.w X.stack H s e C b6 .none H {s with heap:=h' }:=by
 obtain⟨t,d,_⟩:=b.there;show⟨rfl,I.bare,Un.kept b.keeps,I.HA.kept b.keeps,b.new,?_,⟨_,_,_,d,rfl,rfl,rfl,rfl⟩,λa z=>nomatch z⟩;cases z:H e with
 |none=>rfl
 |some u=>have⟨o,q⟩:=(I.HA e u z).there;rw[b.new]at q;cases q
abbrev Oh:List dV:=[.type "ValueError",.type "Exception",.type "BaseException",.type "object"]
abbrev WC(p:gi->List dV->Option dV->Option dV->Option dV->Option dV->String->Option dV->Bool)(M:List dV)(S:List (Option dV)):Prop:=∃C a k0 k1 k2 k3 n k5,M=.ref C::a/\S=[k0,k1,k2,k3,a5 (.builtin n),k5]/\p C a k0 k1 k2 k3 n k5=bD
def nf{P:Prop}(h:cb=bD):P:=nomatch h
def Dp(q:excIn.match_1 (λ_ _=>Bool) M S p (λ_ _=>cb)=bD):WC p M S:=by
 cases M with
 |nil=>show nf q
 |cons v a =>
  cases v with
  |ref C =>
   cases S with
   |nil=>show nf q
   |cons k0 S =>
   cases S with
   |nil=>show nf q
   |cons k1 S =>
   cases S with
   |nil=>show nf q
   |cons k2 S =>
   cases S with
   |nil=>show nf q
   |cons k3 S =>
   cases S with
   |nil=>show nf q
   |cons b S =>
   cases b with
   |none=>show nf q
   |some v =>
   cases v with
   |builtin n =>
    cases S with
    |nil=>show nf q
    |cons k5 S =>
    cases S with
    |nil=>show⟨C,a,k0,k1,k2,k3,n,k5,rfl,rfl,q⟩
    |cons _ _=>show nf q
   |_=>show nf q
  |_=>show nf q
abbrev WD(p:Option gi->ClassData->Array (Option dV)->Bool)(o:Option Obj):Prop:=∃d a b,o=a5 ⟨.type "type",d,.cls a,b⟩/\p d a b=bD
def Dq(q:excIn.match_6 (λ_=>Bool) o p (λ_=>cb)=bD):WD p o:=by
 split at q
 .show⟨_,_,_,rfl,q⟩
 .show nf q
def Dr{K:Frag}{P:Prop}(b:K.In h)(q:excIn K C Oh a=bD)(k:∀c N nm d bs hdct sn sub ab col dd k0 k1 k2 k3 k5 f,h.get? C=a5 (excClassObj nm d C N bs c hdct sn sub ab col dd k0 k1 k2 k3 k5 a)->h.Ns N f->f "__init__"=b6->OwnTail h Oh c->P):P:=by
 have⟨dd,p,r,ho,g⟩:=Dq q;have⟨v,c,k0,k1,k2,k3,n,k5,i,hs,j⟩:=Dp g;clear q g;have⟨nm,bs,mro,ns,d,s,sn,sub,ab,col,t⟩:=p;have⟨l⟩:=r;simp only[b7,beq_iff_eq,rz]at j;obtain⟨⟨⟨⟨⟨rfl,rfl⟩,m⟩,u⟩,e⟩,o⟩:=j
 dsimp only at i m e o
 subst i m;obtain rfl:l=_:=hs;show k c ns nm d bs s sn sub ab col dd k0 k1 k2 k3 k5 _ (b _ _ ho) (.of_isNs (isNs_of_in b e)) (nsMap_none_of_in b e o) (tail_of_in b u)
def xf(i:X.calm=bD)(j:Gl X x)(f:X.mg x=a5 (.ref C))(k:(x==("__debug__":Str))=cb)(l:excIn X.K C Oh "ValueError.__new__"=bD)(m:PE X a n)
  (g:i7 [a] X.env=[(cb,uk a X.env)]) :
  PS X (.Raise (a5 (.Call (.Name x p) [a] [] A)) b6 pos) (λD σ H=>n σ H λv d=>∀b s e s',Inv X b σ d s->bX X.prog X.w X.stack d s e C b6 .none d s'->X.xe (.ref e) s'):=by
 intro b s σ H D I h;show Dr I.mod.M4 l λB N nm o bs hdct sn sub ab col dd k0 k1 k2 k3 k5 G r t y T=>?_;show wpAny_Raise_call_subT (nm:=nm) (q:=o) (N:=N) (bs:=bs) (hdct:=hdct) (sn:=sn) (sub:=sub) (ab:=ab) (col:=col) (dd:=dd) (k0:=k0) (k1:=k1) (k2:=k2) (k3:=k3) (k5:=k5) YV (T.hasType YV.hasBase) (I.ok.hd i) (by rw[g];rfl) y (eU I j f ⟨rfl,?_⟩ k);rw[g];show Lf (MJ (HE (m b s σ H _ I h) λu s1 ⟨v,d,c,r1,z⟩=>O' ⟨rfl,?_,c.bk _ _ r,t.keeps c.bk,T.keeps c.bk,λh' e f=>z b s1 e _ c (.made c f)⟩));show(by decide:1<=cK)
def pR:Passes (J3 X.prog X.w) X E0:=λ_ _ _ _ _ _ _ ⟨_,_,_,_,_,_,h⟩=>h.elim
def tm(F:dN X.prog X.w X.K X.mg X.base CX k f d ps sp)(g:cP k X.A)(i:Binds X.K d ps [])(I:Inv X a σ H s)(r:Vals vs us)(h:sp vs H Q E)
  (j:∀e s',CX X.stack H s E e s'->EE e s'):gs (i4 X.prog X.w) X.A (OD (.ref f) us) (EP X a σ Q) EE s:=by
 have hl:us.length=ps.length:=by rw[<-r.length];show F.len _ _ _ _ h
 have c:=i s us I.JE (by rw[sx];show hl);rw[sx]at c;show XA (Qf (F.run X.A X.stack s H ⟨us,[]⟩ us vs Q E g I.C2 c r h) λr s' b=>?_);cases r with
 |error e=>show j e s' b
 |ok l =>
  cases l with
  |ret u=>show I.after b
  |_=>show JQ b
end
@[reducible]def Cx.Mg(X:Cx)(e:gi)(oe:Obj)(E:dV->gm->Prop):Cx:={X with A:=X.A.mark (a5 (.ref e)),calm:=cb,pn:=(e,oe)::X.pn,xe:=E}
section
def Inv.Mg(I:Inv X a σ H s)(b:s.heap.get? e=a5 oe)(c:H e=b6)(d:e≠X.env.locals)(f:e∉X.fs)(g:∀v,oe.data≠.cell v):Inv (X.Mg e oe E) a σ H s :=
 ⟨⟨I.ok.mod,I.ok.kind,I.ok.glob,I.ok.blt,I.ok.above,I.ok.inj,I.ok.has,I.ok.N1,λz=>(nomatch z),I.ok.frames,I.ok.OE,I.ok.QY,I.ok.bs,I.ok.LK,I.ok.KC,I.ok.Lg,I.ok.ja,I.ok.MD⟩,I.os,I.bare,I.base,I.loc,I.cell,I.free,I.Im,
  λp h=>(gj.mp (show p∈(e,oe)::(X.pn++a) from h)).elim (λz=>by subst z;show⟨b,c,d,f,g⟩) λz=>I.pin p z,I.HA,I.len⟩
def Inv.Hd(b:X.Ok)(I:Inv (X.Mg e oe E) a σ H s):Inv X a σ H s :=
 ⟨b,I.os,I.bare,I.base,I.loc,I.cell,I.free,I.Im,λp c=>I.pin p (i8 _ c),I.HA,I.len⟩
def Inv.gone(I:Inv X f σ H s)(D:X.N.Nodup)(x:X.N[j]?=a5 n)(hl:X.env.scope.names.lookup n=a5 .local)
  (h:∀s',Inv X f (σ.set j b6) H s'->Q () s'):gs M A (do bindName X.env n .none;unbindBehindTheSuite X.env n pos) Q E s:=by
 have⟨m,G,J⟩:=id I.loc;have L:(X.env.scope.kind==.class||(X.env.scope.kind==.module&&X.env.locals != X.env.globals))=cb:=by rw[I.ok.kind];rfl
 show wpAny_nameGoes_keeps hl G L λh' v O hs=>h _ ?_;have B:=I.Lh;have T:j < σ.length:=by rw[I.len];show(dt.mp x).1
 have t:∀b o,X.s₀.heap.get? b=a5 o->b≠X.env.locals:=λb o q=>ke (ku (i6 q) I.ok.above);show⟨I.ok,I.os,I.bare,⟨λb o e n w g=>(hs.2 b (t b o e)).trans (I.base.keep b o e n w g),λb o e n w g=>?_,I.base.free,λb o e g=>?_,I.base.gy,I.base.I0,I.base.Jf⟩,⟨_,O,λi y u e1 k Y=>?_⟩,λy c e=>?_,I.free,I.Im,λp hp=>?_,λb ob e=>(I.HA b ob e).kh (λc w' hc q=>(hs.2 c ?_).trans q) (λ_ q=>q) λ_ _ q=>q,by simpa using I.len⟩
 .have⟨sl,q⟩:=I.base.slot b o e n w g;show⟨sl,(hs.2 b (t b o e)).trans q⟩
 .have⟨o',q⟩:=I.base.there b o e g;show⟨o',(hs.2 b (t b o e)).trans q⟩
 .have C:i≠j:=λz=>by subst z;rw[ez T]at k;cases k
  rw[hY (ri C)]at k;have⟨u',r,l⟩:=J i y u e1 k Y;show⟨u',r,l.imp (λ⟨a,b⟩=>⟨a,?_⟩) λ⟨a,c,b,d⟩=>⟨a,c,b,d.sameBut hs (B y c b)⟩⟩;change(if y=n then v else m y)=a5 u';rw[ë λ(z:y=n)=>C (h_ D e1 (by rw[z];show x))];show b
 .have⟨u,z⟩:=I.cell y c e;show⟨u,z.sameBut hs (B y c e)⟩
 .have⟨a,b,c,d⟩:=I.pin p hp;show⟨(hs.2 p.1 c).trans a,b,c,d⟩
 .rintro rfl;rcases hc with hc|hc
  .rw[<-hc,I.free]at e;cases e
  .rw[I.free]at hc;cases hc
end
end L2
namespace TM
open PySem L2
inductive U where
 |HD|bl (b:Bool)|int (i:Int)|str (x:Str)
 |tup (xs:List U)|lst (xs:List U)
 |Hz (ks:List Str) (vs:List U)
 |ob (u:U) (us:List U)
mutual
noncomputable def HQ:U->Bool
 |.tup xs=>cZ xs
 |.lst _=>cb
 |.Hz _ _=>cb
 |.ob _ _=>cb
 |.HD=>bD|.bl _=>bD|.int _=>bD|.str _=>bD
noncomputable def cZ:List U->Bool
 |[]=>bD
 |u::us=>HQ u&&cZ us
end
inductive Kd where|own|io|loc|any|bor (j:Nat)|A'
deriving DecidableEq
abbrev Kd.root:Kd->Bool
 |.own=>bD
 |.io=>bD
 |_=>cb
@[reducible]def au:=List (Option (Kd×U))
structure Ct where
 P:va
 w:w6
 K:PySem.W.Frag
 H₀:Hp
 Jo:gi->Prop
 IO:gi->Prop
 xw:U->Hp->Prop
abbrev KL(K:PySem.W.Frag)(a:gi)(xs:List V):Prop :=
 ∃(o:Obj) (b:Array dV) (n:Nat),K.lookup a=a5 o/\o.cls=.type "list"/\o.dict=b6/\o.data=.seq b n/\b.size<=cK/\Vals xs b.toList
abbrev Pe(K:PySem.W.Frag)(S:gi->Prop)(H:Hp)(a:gi)(vs:List V):Prop:=(S a/\Rd H a (.lst vs))\/KL K a vs
def Pe.sq(h:Pe K S H a vs):Ip K H a vs:=h.elim (λz=>.inl z.2) .inr
abbrev MR(H:Hp)(R:List V->Prop)(a:gi)(ks:List Str):Prop:=∃kvs:List (Key×V),H a=a5 (.dK kvs)/\kvs.map (·.1)=ks.map ox/\R (kvs.map (·.2))
section
variable(C:Ct)(S:gi->Prop)(H:Hp)
mutual
def Rep:U->V->Prop
 |.HD,v=>v=.HD
 |.bl b,v=>v=.bl b
 |.int i,v=>v=.int i
 |.str x,v=>v=.str x
 |.tup us,v=>∃a vs,v=.ref a/\Iq C.K H a vs/\ar us vs
 |.lst us,v=>∃a vs,v=.ref a/\Pe C.K S H a vs/\ar us vs
 |.Hz ks us,v=>∃a,v=.ref a/\S a/\MR H (ar us) a ks
 |.ob _ _,_=>False
def ar:List U->List V->Prop
 |[],vs=>vs=[]
 |u::us,vs=>∃v r,vs=v::r/\Rep u v/\ar us r
end
end
def Tp:HO->Prop
 |.tup _=>True
 |.Ko _ (.tup _)=>True
 |_=>False
structure Mv(S:gi->Prop)(H:Hp)(S':gi->Prop)(H':Hp):Prop where
 sub:∀a,S a->S' a
 Oi:∀a o,H a=a5 o->Tp o->H' a=a5 o
 Qr:∀a o,S a->H a=a5 o->H' a=a5 o
def Mv.WE(m:Mv S H S' H')(h:Iq K H a vs):Iq K H' a vs:=by
 rcases h with(h|⟨o,h⟩)|h
 .show .inl (.inl (m.Oi a _ h trivial))
 .show .inl (.inr ⟨o,m.Oi a _ h trivial⟩)
 .show .inr h
def Mv.WG(m:Mv S H S' H')(h:Pe K S H a vs):Pe K S' H' a vs:=by
 rcases h with⟨s,h|⟨o,h⟩⟩|h
 .show .inl ⟨m.sub a s,.inl (m.Qr a _ s h)⟩
 .show .inl ⟨m.sub a s,.inr ⟨o,m.Qr a _ s h⟩⟩
 .show .inr h
def MR.mv(b:∀o,H a=a5 o->H' a=a5 o)(c:∀vs,R vs->d vs)(h:MR H R a ks):MR H' d a ks :=
 let ⟨kvs,e,f,g⟩:=h;⟨kvs,b _ e,f,c _ g⟩
section
mutual
theorem Rep.MS(m:Mv S H S' H'):∀(u:U) (v:V),Rep C S H u v->Rep C S' H' u v
 |.HD,_,h=>h
 |.bl _,_,h=>h
 |.int _,_,h=>h
 |.str _,_,h=>h
 |.tup us,v,h=>by
  have⟨a,vs,e,b,c⟩:=h;show⟨a,vs,e,m.WE b,ar.MS m us vs c⟩
 |.lst us,v,h=>by
  have⟨a,vs,e,b,c⟩:=h;show⟨a,vs,e,m.WG b,ar.MS m us vs c⟩
 |.Hz ks us,v,h=>by
  have⟨a,e,b,c⟩:=h;show⟨a,e,m.sub a b,c.mv (λo q=>m.Qr a o b q) λvs q=>ar.MS m us vs q⟩
 |.ob _ _,_,h=>JQ h
theorem ar.MS(m:Mv S H S' H'):∀(us:List U) (vs:List V),ar C S H us vs->ar C S' H' us vs
 |[],_,h=>h
 |u::us,vs,h=>by
  have⟨v,r,e,a,b⟩:=h;show⟨v,r,e,Rep.MS m u v a,ar.MS m us r b⟩
end
mutual
theorem Rep.uU:∀(u:U) (v:V),HQ u=bD->Rep C S H u v->Rep C S' H u v
 |.HD,_,_,h=>h
 |.bl _,_,_,h=>h
 |.int _,_,_,h=>h
 |.str _,_,_,h=>h
 |.tup us,v,i,h=>by
  have⟨a,vs,e,b,c⟩:=h;show⟨a,vs,e,b,ar.uU us vs (by simpa[TM.HQ] using i) c⟩
 |.lst us,v,i,h=>by simp[TM.HQ]at i
 |.Hz ks us,v,i,h=>by simp[TM.HQ]at i
 |.ob _ _,_,_,h=>JQ h
theorem ar.uU:∀(us:List U) (vs:List V),cZ us=bD->ar C S H us vs->ar C S' H us vs
 |[],_,_,h=>h
 |u::us,vs,i,h=>by
  have⟨v,r,e,b,c⟩:=h;have a:TM.HQ u=bD/\cZ us=bD:=by simpa[cZ] using i
  show⟨v,r,e,Rep.uU u v a.1 b,ar.uU us r a.2 c⟩
end
def Rep.mv(m:Mv S H S' H')(h:Rep C S H u v):Rep C S' H' u v:=Rep.MS m u v h
def ar.mv(m:Mv S H S' H')(h:ar C S H us vs):ar C S' H' us vs:=ar.MS m us vs h
def Rep.HQ(i:TM.HQ u=bD)(h:Rep C S H u v):Rep C S' H u v:=Rep.uU u v i h
def ar.HQ(i:cZ us=bD)(h:ar C S H us vs):ar C S' H us vs:=ar.uU us vs i h
def Mv.up(sub:∀a,S a->S' a):Mv S H S' H:=⟨sub,λ_ _ h _=>h,λ_ _ _ h=>h⟩
theorem ar.len:∀{us:List U}{vs:List V},ar C S H us vs->us.length=vs.length
 |[],_,h=>by cases h;rfl
 |u::us,vs,h=>by
  obtain⟨v,r,rfl,_,a⟩:=h;rw[k9,k9,ar.len a]
theorem ar.get:∀{us:List U}{vs:List V}{i:Nat}{u:U},ar C S H us vs->us[i]?=a5 u->∃v,vs[i]?=a5 v/\Rep C S H u v
 |[],_,_,_,_,e=>by simp at e
 |u::us,vs,0,w,h,e=>by
  obtain⟨v,r,rfl,a,_⟩:=h;simp at e;subst e;show⟨v,rfl,a⟩
 |u::us,vs,i+1,w,h,e=>by
  obtain⟨v,r,rfl,_,b⟩:=h;have⟨v',c,h'⟩:=ar.get (i:=i) (u:=w) b (by simpa using e);show⟨v',by simpa using c,h'⟩
theorem ar.append:∀{us ws:List U}{vs ys:List V},ar C S H us vs->ar C S H ws ys->ar C S H (us++ws) (vs++ys)
 |[],_,_,_,h,h'=>by cases h;show h'
 |u::us,ws,vs,ys,h,h'=>by
  have⟨v,r,rfl,a,b⟩:=h;show⟨v,r++ys,rfl,a,b.append h'⟩
theorem ar.take:∀{us:List U}{vs:List V} (n:Nat),ar C S H us vs->ar C S H (us.take n) (vs.take n)
 |_,_,0,_=>by simp[ar]
 |[],_,n+1,h=>by cases h;simp[ar]
 |u::us,vs,n+1,h=>by
  have⟨v,r,rfl,a,b⟩:=h;show⟨v,r.take n,rfl,a,b.take n⟩
theorem ar.drop:∀{us:List U}{vs:List V} (n:Nat),ar C S H us vs->ar C S H (us.drop n) (vs.drop n)
 |_,_,0,h=>h
 |[],_,n+1,h=>by cases h;simp[ar]
 |u::us,vs,n+1,h=>by
  have⟨v,r,rfl,b,a⟩:=h;show a.drop n
theorem ar.set:∀{us:List U}{vs:List V} (n:Nat) {u:U}{v:V},ar C S H us vs->Rep C S H u v->ar C S H (us.set n u) (vs.set n v)
 |[],_,n,_,_,h,_=>by cases h;simp[ar]
 |u::us,vs,0,_,_,h,h'=>by
  have⟨v,r,rfl,b,a⟩:=h;show⟨_,r,rfl,h',a⟩
 |u::us,vs,n+1,_,_,h,h'=>by
  have⟨v,r,rfl,b,a⟩:=h;show⟨v,_,rfl,b,a.set n h'⟩
def ar.snoc(h:ar C S H us vs)(h':Rep C S H u v):ar C S H (us++[u]) (vs++[v]):=h.append ⟨v,[],rfl,h',rfl⟩
theorem ar.strs:∀{xs:List Str}{vs:List V},ar C S H (xs.map .str) vs↔vs=xs.map V.str
 |[],vs=>by simp[ar]
 |x::xs,vs=>by
  constructor
  .rintro⟨v,r,rfl,a,b⟩;rw[ar.strs.mp b];have:v=.str x:=a;rw[this];rfl
  .rintro rfl;show⟨_,_,rfl,rfl,ar.strs.mpr rfl⟩
end
structure Ct.Eqv(C C':Ct):Prop where
 P:C.P=C'.P
 w:C.w=C'.w
 K:C.K=C'.K
section
mutual
theorem Rep.MT(q:C.Eqv d):∀(u:U) (v:V),Rep C S H u v->Rep d S H u v
 |.HD,_,h=>h
 |.bl _,_,h=>h
 |.int _,_,h=>h
 |.str _,_,h=>h
 |.tup us,v,h=>by
  have⟨a,vs,e,b,c⟩:=h;show⟨a,vs,e,q.K▸b,ar.MT q us vs c⟩
 |.lst us,v,h=>by
  have⟨a,vs,e,b,c⟩:=h;show⟨a,vs,e,q.K▸b,ar.MT q us vs c⟩
 |.Hz ks us,v,h=>by
  have⟨a,e,b,c⟩:=h;show⟨a,e,b,c.mv (λ_ q=>q) λvs z=>ar.MT q us vs z⟩
 |.ob _ _,_,h=>JQ h
theorem ar.MT(q:C.Eqv a):∀(us:List U) (vs:List V),ar C S H us vs->ar a S H us vs
 |[],_,h=>h
 |u::us,vs,h=>by
  have⟨v,r,e,b,c⟩:=h;show⟨v,r,e,Rep.MT q u v b,ar.MT q us r c⟩
end
def Rep.cg(q:C.Eqv a)(h:Rep C S H u v):Rep a S H u v:=Rep.MT q u v h
def ar.cg(q:C.Eqv a)(h:ar C S H us vs):ar a S H us vs:=ar.MT q us vs h
end
def cH(C:Ct)(S:gi->Prop)(H:Hp)(r:gi):U->Prop
 |.lst us=>∃vs,H r=a5 (.lst vs)/\ar C S H us vs
 |.Hz ks us=>MR H (ar C S H us) r ks
 |_=>False
def cH.mv(m:Mv S H S' H')(a:∀o,H r=a5 o->H' r=a5 o)(h:cH C S H r u):cH C S' H' r u:=by
 cases u with
 |lst us=>have⟨vs,b,c⟩:=h;show⟨vs,a _ b,c.mv m⟩
 |Hz ks us=>show MR.mv a (λvs q=>q.mv m) h
 |_=>show h
def cH.rep(hs:∀a,S a->S' a)(b:S' r)(h:cH C S H r u):Rep C S' H u (.ref r):=by
 cases u with
 |lst us=>have⟨vs,c,d⟩:=h;show⟨r,vs,rfl,.inl ⟨b,.inl c⟩,d.mv (.up hs)⟩
 |Hz ks us=>show⟨r,rfl,b,MR.mv (λ_ q=>q) (λvs q=>q.mv (.up hs)) h⟩
 |_=>show h.elim
def cH.cg(q:C.Eqv a)(h:cH C S H r u):cH a S H r u:=by
 cases u with
 |lst us=>have⟨vs,b,c⟩:=h;show⟨vs,b,c.cg q⟩
 |Hz ks us=>show MR.mv (λ_ q=>q) (λvs z=>z.cg q) h
 |_=>show h
def cH.some(h:cH C S H r u):∃o,H r=a5 o/\¬Tp o:=by
 cases u with
 |lst us=>obtain⟨vs,a,_⟩:=h;show⟨_,a,λz=>z⟩
 |Hz ks us=>obtain⟨kvs,a,_⟩:=h;show⟨_,a,λz=>z⟩
 |_=>show h.elim
structure Cf where
 S:gi->Prop
 H:Hp
 σ:St
 st:au
 kid:Nat->List gi
abbrev Cf.R1(c:Cf)(a:gi):Prop:=∃(j:Nat) (k:Kd) (u:U),k.root=bD/\c.st[j]?=a5 (a5 (k,u))/\c.σ[j]?=a5 (a5 (.ref a))
abbrev Cf.RD(c:Cf)(j:Nat)(a:gi):Prop:=∃(u:U) (r:gi),c.st[j]?=a5 (a5 (.A',u))/\c.σ[j]?=a5 (a5 (.ref r))/\(a=r\/a∈c.kid j)
abbrev Cf.R(c:Cf)(a:gi):Prop:=c.R1 a\/∃j,c.RD j a
abbrev PS(C:Ct)(S:gi->Prop):gi->Prop:=λa=>C.Jo a\/S a
def fE(C:Ct)(S:gi->Prop)(H:Hp):Kd->U->V->Prop
 |.own,u,v=>∃r,v=.ref r/\¬S r/\¬C.Jo r/\C.H₀ r=b6/\cH C S H r u
 |.io,u,v=>∃r,v=.ref r/\¬S r/\¬C.Jo r/\C.IO r/\cH C S H r u
 |.loc,u,v=>Rep C S H u v
 |.any,u,v=>Rep C (PS C S) H u v
 |.bor _,_,_=>False
 |.A',_,v=>∃r,v=.ref r
def du(C:Ct)(S:gi->Prop)(H:Hp):List U->List gi->Prop
 |[],as=>as=[]
 |u::us,as=>∃a as' ys vs,as=a::as'/\u=.lst ys/\H a=a5 (.lst vs)/\ar C S H ys vs/\du C S H us as'
abbrev Kt(K:PySem.W.Frag)(cl:gi):Prop:=PySem.W.nsIn K mN "Shelf"=a5 (a5 (.ref cl))
abbrev Mh(v:V)(a:gi):List (Str×V):=[("rows",v),("earlier",.ref a)]
structure LW(C:Ct)(S:gi->Prop)(H:Hp)(r a:gi)(u:U)(us:List U)(cl dx:gi)(v:V)(vs:List V):Prop where
 hc:Kt C.K cl
 ins:H r=a5 (.ins cl dx (Mh v a))
 ne:r≠a
 fr:∀x∈[r,a],¬S x/\¬C.Jo x/\(C.H₀ x=b6\/C.IO x)
 im:HQ u=bD
 rep:Rep C S H u v
 lst:H a=a5 (.lst vs)
 LX:cZ us=bD
 Jb:ar C S H us vs
def aO(C:Ct)(S:gi->Prop)(H:Hp)(r:gi)(as:List gi):U->Prop
 |.Hz ks us=>∃kvs:List (Key×V),H r=a5 (.dK kvs)/\kvs.map (·.1)=ks.map ox/\kvs.map (·.2)=as.map V.ref/\(r::as).Nodup/\(∀a∈r::as,¬S a/\¬C.Jo a/\C.H₀ a=b6)/\du C S H us as
 |.ob u us=>∃cl b v a vs,as=[a]/\LW C S H r a u us cl b v vs
 |_=>False
structure K8(C:Ct)(c:Cf):Prop where
 kd:∀(j:Nat) (u:U) (r:gi),c.st[j]?=a5 (a5 (.A',u))->c.σ[j]?=a5 (a5 (.ref r))->aO C c.S c.H r (c.kid j) u
 dj:∀(i j:Nat) (a:gi),c.RD i a->c.RD j a->i=j
 d1:∀(j:Nat) (a:gi),c.RD j a->¬c.R1 a
structure Ok(C:Ct)(c:Cf):Prop where
 same:∀a o,C.H₀ a=a5 o->¬C.IO a->c.H a=a5 o
 JC:∀a,c.S a->C.H₀ a=b6/\∃o,c.H a=a5 o
 par:∀a,C.Jo a->(∃o,C.H₀ a=a5 o)/\¬C.IO a
 io:∀a,C.IO a->(∃o,C.H₀ a=a5 o)/\∃o,c.H a=a5 o
 len:c.st.length=c.σ.length
 sl:∀(i:Nat) (k:Kd) (u:U),c.st[i]?=a5 (a5 (k,u))->∃v,c.σ[i]?=a5 (a5 v)/\fE C c.S c.H k u v
 inj:∀(i j:Nat) (k k':Kd) (u u':U) (r:gi),k.root=bD->k'.root=bD->c.st[i]?=a5 (a5 (k,u))->c.st[j]?=a5 (a5 (k',u'))->c.σ[i]?=a5 (a5 (.ref r))->c.σ[j]?=a5 (a5 (.ref r))->i=j
 dd:K8 C c
structure Ns(c c':Cf):Prop where
 keep:∀a o,c.H a=a5 o->¬c.R a->c'.H a=a5 o
 there:∀a o,c.H a=a5 o->∃o',c'.H a=a5 o'
 roots:∀a,c'.R a->c.R a\/c.H a=b6
 sub:∀a,c.S a->c'.S a
 new:∀a,c'.S a->c.S a\/c.R a\/c.H a=b6
section
def Ns.refl(c:Cf):Ns c c:=⟨λ_ _ h _=>h,λ_ o h=>⟨o,h⟩,λ_ h=>.inl h,λ_ h=>h,λ_ h=>.inl h⟩
def Ns.none(n:Ns c b)(h:b.H a=.none):c.H a=.none:=by
 cases e:c.H a with
 |none=>rfl
 |some o=>have⟨o',q⟩:=n.there a o e;rw[h]at q;cases q
def Ns.trans(m:Ns c d)(n:Ns d e):Ns c e where
 keep:=λa o h b=>by
  show n.keep a o (m.keep a o h b) λz=>?_;rcases m.roots a z with z|z
  .show b z
  .rw[h]at z;cases z
 there:=λa o h=>let ⟨o',h'⟩:=m.there a o h;n.there a o' h'
 roots:=λa h=>by
  rcases n.roots a h with z|z
  .show m.roots a z
  .show .inr (m.none z)
 sub:=λa h=>n.sub a (m.sub a h)
 new:=λa h=>by
  rcases n.new a h with z|z|z
  .show m.new a z
  .rcases m.roots a z with z|z
   .show .inr (.inl z)
   .show .inr (.inr z)
  .show .inr (.inr (m.none z))
def fE.rt(hk:k.root=bD)(h:fE C S H k u v):∃r,v=.ref r/\¬S r/\¬C.Jo r/\(C.H₀ r=b6\/C.IO r)/\cH C S H r u:=by
 cases k with
 |own=>have⟨r,a,b,c,d,e⟩:=h;show⟨r,a,b,c,.inl d,e⟩
 |io=>have⟨r,a,b,c,d,e⟩:=h;show⟨r,a,b,c,.inr d,e⟩
 |_=>cases hk
theorem du.mem:∀{us:List U}{as:List gi}{a:gi},du C S H us as->a∈as->∃vs,H a=a5 (.lst vs)
 |[],as,a,h,ha=>by cases h;cases ha
 |u::us,as,a,h,ha=>by
  obtain⟨a',as',ys,vs,rfl,_,b,_,c⟩:=h;rcases gj.mp ha with rfl|ha
  .show⟨vs,b⟩
  .show du.mem c ha
theorem du.mv(m:Mv S H S' H'):∀{us:List U}{as:List gi},(∀a∈as,∀o,H a=a5 o->H' a=a5 o)->du C S H us as->du C S' H' us as
 |[],as,_,h=>h
 |u::us,as,b,h=>by
  have⟨a,as',ys,vs,rfl,e,c,d,f⟩:=h;show⟨a,as',ys,vs,rfl,e,b a (by simp) _ c,d.mv m,du.mv m (λa g=>b a (by simp[g])) f⟩
def aO.fr(h:aO C S H r as u):∀a∈r::as,¬S a/\¬C.Jo a/\(C.H₀ a=b6\/C.IO a):=by
 cases u<;>first|show h.elim|(obtain⟨kvs,_,_,_,_,b,_⟩:=h;show λa c=>let ⟨p,q,r⟩:=b a c;⟨p,q,.inl r⟩)|(obtain⟨_,_,_,_,_,rfl,h⟩:=h;show h.fr)
def aO.Ss(h:aO C S H r as (.Hz ks us)):∀a∈r::as,¬S a/\¬C.Jo a/\C.H₀ a=b6:=by
 obtain⟨kvs,_,_,_,_,b,_⟩:=h;show b
def aO.there(h:aO C S H r as u):∀a∈r::as,∃o,H a=a5 o/\¬Tp o:=by
 cases u<;>first|show h.elim|(obtain⟨_,_,_,a,_,rfl,h⟩:=h;intro x hx;rcases gj.mp hx with rfl|hx;show⟨_,h.ins,λz=>z⟩;rw[js.mp hx];show⟨_,h.lst,λz=>z⟩)|skip
 obtain⟨kvs,b,_,_,_,_,c⟩:=h;intro a ha;rcases gj.mp ha with rfl|ha
 .show⟨_,b,λz=>z⟩
 .have⟨vs,e⟩:=c.mem ha;show⟨_,e,λz=>z⟩
def aO.mv(m:Mv S H S' H')(b:∀a∈r::as,¬S' a/\∀o,H a=a5 o->H' a=a5 o)(h:aO C S H r as u):aO C S' H' r as u:=by
 cases u<;>first|show h.elim|(have⟨cl,e,v,a,vs,rfl,h⟩:=h;show⟨cl,e,v,a,vs,rfl,h.hc,(b r (by simp)).2 _ h.ins,h.ne,λx d=>⟨(b x d).1,(h.fr x d).2⟩,h.im,h.rep.mv m,(b a (by simp)).2 _ h.lst,h.LX,h.Jb.mv m⟩)|skip
 have⟨kvs,f,g,i,j,k,l⟩:=h;show⟨kvs,(b r (by simp)).2 _ f,g,i,j,λa c=>⟨(b a c).1,(k a c).2⟩,l.mv m λa c=>(b a (by simp[c])).2⟩
def K8.of(d:K8 C c)(hk:b.kid=c.kid)(l:∀(j:Nat) (u:U),b.st[j]?=a5 (a5 (.A',u))->c.st[j]?=a5 (a5 (.A',u))/\b.σ[j]?=c.σ[j]?)(p:∀a,b.R1 a->c.R1 a\/∀j,¬c.RD j a)
  (m:Mv c.S c.H b.S b.H) (q:∀j a,c.RD j a->¬b.S a/\∀o,c.H a=a5 o->b.H a=a5 o):K8 C b:=by
 have back:∀j a,b.RD j a->c.RD j a:=λj a s=>by
  have⟨u,r,e1,e,n⟩:=s;have⟨f,h⟩:=l j u e1;rw[h]at e;rw[hk]at n;show⟨u,r,f,e,n⟩
 show⟨λj u r e1 e=>?_,λi j a g k=>d.dj i j a (back i a g) (back j a k),λj a g k=>?_⟩
 .have⟨f,h⟩:=l j u e1;rw[h]at e;rw[hk];show aO.mv m (λa t=>q j a ⟨u,r,f,e,gj.mp t⟩) (d.kd j u r f e)
 .rcases p a k with z|z
  .show d.d1 j a (back j a g) z
  .show z j (back j a g)
def K8.hs(d:K8 C c)(m:Mv c.S c.H S' H')(b:∀j a,c.RD j a->¬S' a/\∀o,c.H a=a5 o->H' a=a5 o):K8 C {c with H:=H',S:=S' } :=
 d.of rfl (λ_ _ e=>⟨e,rfl⟩) (λ_ z=>.inl z) m b
def Ok.root(f:Ok C c)(h:c.R r):¬c.S r/\¬C.Jo r/\(C.H₀ r=b6\/C.IO r)/\∃o,c.H r=a5 o/\¬Tp o:=by
 rcases h with⟨j,k,u,hk,b,d⟩|⟨j,u,g,b,d,a⟩
 .have⟨v,e,hs⟩:=f.sl j _ _ b;have⟨g,ev,a,l,m,n⟩:=hs.rt hk;rw[d]at e;cases e;cases ev;show⟨a,l,m,n.some⟩
 .have i:=f.dd.kd j u g b d;have⟨p,q,s⟩:=aO.fr i r (gj.mpr a);show⟨p,q,s,aO.there i r (gj.mpr a)⟩
def Ok.mv(b:Ok C c)(n:Ns c d):Mv c.S c.H d.S d.H:=⟨n.sub,λa o h t=>n.keep a o h λz=>by
  obtain⟨_,_,_,o',h',e⟩:=b.root z;rw[h]at h';cases h';show e t,λa o s h=>n.keep a o h λz=>(b.root z).1 s⟩
def Ok.Mi(b:Ok C c)(n:Ns c d):Mv (PS C c.S) c.H (PS C d.S) d.H:=⟨λa h=>h.imp id (n.sub a),(b.mv n).Oi,λa o s h=>n.keep a o h λz=>by
  rcases s with s|s
  .show(b.root z).2.1 s
  .show(b.root z).1 s⟩
def Ok.fw(a:Ok C c)(h:c.H p=b6):C.H₀ p=b6/\¬c.S p/\¬C.Jo p/\¬C.IO p/\¬c.R p:=by
 have b:¬C.IO p:=λz=>by obtain⟨_,o,q⟩:=a.io p z;rw[h]at q;cases q
 have d:C.H₀ p=b6:=by
  cases e:C.H₀ p with
  |none=>rfl
  |some o=>have:=a.same p o e b;rw[h]at this;cases this
 show⟨d,λz=>?_,λz=>?_,b,λz=>?_⟩
 .obtain⟨_,o,q⟩:=a.JC p z;rw[h]at q;cases q
 .obtain⟨⟨o,q⟩,_⟩:=a.par p z;rw[d]at q;cases q
 .obtain⟨_,_,_,o,q,_⟩:=a.root z;rw[h]at q;cases q
def fE.mv(m:Mv S H S' H')(i:Mv (PS C S) H (PS C S') H')(g:k.root=bD->∀r,v=.ref r->¬S' r/\∀o,H r=a5 o->H' r=a5 o)(h:fE C S H k u v):fE C S' H' k u v:=by
 cases k with
 |own =>
  have⟨r,e,l,a,b,c⟩:=h;have⟨d,f⟩:=g rfl r e;show⟨r,e,d,a,b,c.mv m f⟩
 |io =>
  have⟨r,e,l,a,b,c⟩:=h;have⟨d,f⟩:=g rfl r e;show⟨r,e,d,a,b,c.mv m f⟩
 |loc=>show Rep.mv m h
 |any=>show Rep.mv i h
 |bor j=>show h.elim
 |A'=>show h
structure Nx(c c':Cf):Prop extends Ns c c' where
instance {c a:Cf}:Coe (Nx c a) (Ns c a):=⟨Nx.toNs⟩
def Nx.refl(c:Cf):Nx c c:=⟨.refl c⟩
def Nx.trans(m:Nx c a)(n:Nx a b):Nx c b:=⟨m.toNs.trans n.toNs⟩
def Nx.none(n:Nx c b)(h:b.H a=.none):c.H a=.none:=n.toNs.none h
def Ok.lay(b:Ok C c)(h:c.H p=b6):Ok C {c with H:=upd c.H p o}/\Nx c {c with H:=upd c.H p o}:=by
 have l:∀{a:gi} {o':HO},c.H a=a5 o'->a≠p:=λe z=>by subst z;rw[h]at e;cases e
 have d:∀a o',c.H a=a5 o'->(upd c.H p o) a=a5 o':=λa o' e=>by rw[ak (l e)];show e
 have nx:Nx c {c with H:=upd c.H p o}:=⟨⟨λa o' e _=>d a o' e,λa o' e=>⟨o',d a o' e⟩,λa z=>.inl z,λ_ z=>z,λ_ z=>.inl z⟩⟩
 show⟨⟨λa o' e z=>d a o' (b.same a o' e z),λa z=>⟨(b.JC a z).1,let ⟨o',q⟩:=(b.JC a z).2;⟨o',d a o' q⟩⟩,b.par,λa z=>⟨(b.io a z).1,let ⟨o',q⟩:=(b.io a z).2;⟨o',d a o' q⟩⟩,b.len,λi k u e=>?_,b.inj,b.dd.hs (b.mv nx.toNs) λj a z=>⟨(b.root (.inr ⟨j,z⟩)).1,λo' e=>d a o' e⟩⟩,nx⟩;have⟨v,e1,f⟩:=b.sl i k u e;show⟨v,e1,f.mv (b.mv nx.toNs) (b.Mi nx.toNs) λhk r m=>?_⟩;obtain⟨s,g,n,_⟩:=f.rt hk;rw[m]at g;cases g;show⟨n,λo' e=>d r o' e⟩
def Ok.grow(b:Ok C c)(hs:qW c.H H')(g:∀a,S' a->c.S a\/(c.H a=b6/\∃o,H' a=a5 o))(p:∀a,c.S a->S' a):Ok C {c with H:=H',S:=S' }/\Nx c {c with H:=H',S:=S' }:=by
 have nx:Nx c {c with H:=H',S:=S' }:=⟨⟨λa o' e _=>hs a o' e,λa o' e=>⟨o',hs a o' e⟩,λa z=>.inl z,p,λa z=>(g a z).imp id λq=>.inr q.1⟩⟩
 show⟨⟨λa o' e z=>hs a o' (b.same a o' e z),λa z=>?_,b.par,λa z=>⟨(b.io a z).1,let ⟨o',q⟩:=(b.io a z).2;⟨o',hs a o' q⟩⟩,b.len,λi k u e=>?_,b.inj,b.dd.hs (b.mv nx.toNs) λj a z=>⟨λd=>?_,λo' e=>hs a o' e⟩⟩,nx⟩
 rotate_left 2
 .obtain⟨f,_,_,o,h,_⟩:=b.root (.inr ⟨j,z⟩);rcases g a d with d|⟨d,_⟩
  .show f d
  .rw[h]at d;cases d
 .rcases g a z with q|⟨f,l⟩
  .show⟨(b.JC a q).1,let ⟨o',q⟩:=(b.JC a q).2;⟨o',hs a o' q⟩⟩
  .show⟨(b.fw f).1,l⟩
 .have⟨v,e1,m⟩:=b.sl i k u e;show⟨v,e1,m.mv (b.mv nx.toNs) (b.Mi nx.toNs) λhk r s=>?_⟩;have⟨t,n,f,l,w,h⟩:=m.rt hk;rw[s]at n;cases n;obtain⟨o,ho,_⟩:=h.some;show⟨λz=>?_,λo' e=>hs r o' e⟩;rcases g r z with z|⟨z,_⟩
  .show f z
  .rw[z]at ho;cases ho
def aF(C:Ct)(c0 c:Cf):Kd->U->V->Prop
 |.own,u,v=>∃r,v=.ref r/\c0.H r=b6/\¬c.S r/\¬c.R r/\cH C c.S c.H r u
 |.loc,u,v=>Rep C c.S c.H u v
 |.any,u,v=>Rep C (PS C c.S) c.H u v
 |.bor j,u,v=>(∃k:Kd,k.root=bD/\c.st[j]?=a5 (a5 (k,u)))/\c.σ[j]?=a5 (a5 v)
 |.io,_,_=>False
 |.A',_,_=>False
def fF(C:Ct)(c0 c:Cf):Kd->U->V->Prop
 |.own,u,v=>∃r,v=.ref r/\c0.H r=b6/\¬c.S r/\¬c.R r/\cH C c.S c.H r u
 |.loc,u,v=>Rep C c.S c.H u v
 |.any,u,v=>Rep C (PS C c.S) c.H u v
 |.bor j,u,v=>c.σ[j]?=a5 (a5 v)
 |.io,_,_=>False
 |.A',_,_=>False
def aF.w(h:aF C c0 c k u v):fF C c0 c k u v:=by
 cases k with
 |bor j=>show h.2
 |_=>show h
def fF.Ux(a:Ok C c)(n:Ns c b)(g:∀j,k=.bor j->b.σ[j]?=c.σ[j]?)(h:fF C c0 c k u v):fF C c0 b k u v:=by
 cases k with
 |own =>
  have⟨r,e,i,l,d,f⟩:=h;obtain⟨o,ho,_⟩:=f.some;show⟨r,e,i,λz=>?_,λz=>?_,f.mv (a.mv n) λo q=>n.keep r o q d⟩
  .rcases n.new r z with z|z|z
   .show l z
   .show d z
   .rw[z]at ho;cases ho
  .rcases n.roots r z with z|z
   .show d z
   .rw[z]at ho;cases ho
 |loc=>show Rep.mv (a.mv n) h
 |any=>show Rep.mv (a.Mi n) h
 |bor j=>change b.σ[j]?=_;rw[g j rfl];show h
 |_=>show h
def fF.on(b:Ok C c)(n:Ns c a)(d:a.σ=c.σ)(h:fF C c0 c k u v):fF C c0 a k u v:=h.Ux b n λj _=>by rw[d]
def fF.from(n:Ns c0 a)(h:fF C a c k u v):fF C c0 c k u v:=by
 cases k with
 |own=>have⟨r,e,b,d⟩:=h;show⟨r,e,n.none b,d⟩
 |_=>show h
def aF.from(n:Ns c0 a)(h:aF C a c k u v):aF C c0 c k u v:=by
 cases k with
 |own=>have⟨r,e,b,d⟩:=h;show⟨r,e,n.none b,d⟩
 |_=>show h
def SK(C:Ct)(c:Cf):Kd->gi->Prop
 |.any=>PS C c.S
 |_=>c.S
abbrev kE:Kd->Kd
 |.any=>.any
 |_=>.loc
def Ok.rootOf(a:Ok C c){j:Nat}(h:∃k:Kd,k.root=bD/\c.st[j]?=a5 (a5 (k,u)))(e:c.σ[j]?=a5 (a5 v)):∃r,v=.ref r/\¬c.S r/\¬C.Jo r/\(C.H₀ r=b6\/C.IO r)/\cH C c.S c.H r u:=by
 have⟨k,hk,h⟩:=h;have⟨v',e1,b⟩:=a.sl j _ _ h;rw[e]at e1;cases e1;show b.rt hk
def aF.list(f:Ok C c)(h:aF C c0 c k (.lst us) v):∃a vs,v=.ref a/\Ip C.K c.H a vs/\ar C (SK C c k) c.H us vs:=by
 cases k with
 |own=>obtain⟨r,e,_,_,_,vs,b,d⟩:=h;show⟨r,vs,e,Ip.of b,d⟩
 |bor j=>obtain⟨r,e,_,_,_,vs,b,d⟩:=f.rootOf h.1 h.2;show⟨r,vs,e,Ip.of b,d⟩
 |io=>show h.elim
 |A'=>show h.elim
 |_=>have⟨a,vs,e,b,d⟩:=h;show⟨a,vs,e,b.sq,d⟩
def aF.tuple(b:Ok C c)(h:aF C c0 c k (.tup us) v):∃a vs,v=.ref a/\Iq C.K c.H a vs/\ar C (SK C c k) c.H us vs:=by
 cases k with
 |own=>obtain⟨r,e,_,_,_,h⟩:=h;show h.elim
 |bor j=>obtain⟨r,e,_,_,_,h⟩:=b.rootOf h.1 h.2;show h.elim
 |io=>show h.elim
 |A'=>show h.elim
 |_=>have⟨a,vs,e,d,f⟩:=h;show⟨a,vs,e,d,f⟩
def aF.flat(b:Ok C c)(a:HQ u=bD)(h:aF C c0 c k u v):Rep C c.S c.H u v:=by
 cases k with
 |own=>obtain⟨r,e,_,_,_,h⟩:=h;cases u<;>simp[HQ]at a<;>show h.elim
 |loc=>show h
 |any=>show Rep.HQ a h
 |bor j=>obtain⟨r,e,_,_,_,h⟩:=b.rootOf h.1 h.2;cases u<;>simp[HQ]at a<;>show h.elim
 |_=>show h.elim
def aF.int(a:Ok C c)(h:aF C c0 c k (.int i) v):v=.int i:=h.flat a rfl
def aF.str(a:Ok C c)(h:aF C c0 c k (.str x) v):v=.str x:=h.flat a rfl
def aF.bl(a:Ok C c)(h:aF C c0 c k (.bl b) v):v=.bl b:=h.flat a rfl
def aF.item(h:Rep C (SK C c k) c.H u v):aF C c0 c (kE k) u v:=by
 cases k<;>show h
abbrev Jh(H:Hp):gi->Prop:=λa=>∃o,H a=a5 o
def Ok.uV(b:Ok C c):∀a,c.S a->Jh c.H a:=λa h=>(b.JC a h).2
def Ok.Ds(b:Ok C c):∀a,PS C c.S a->Jh c.H a:=λa h=>by
 rcases h with h|h
 .obtain⟨⟨o,e⟩,n⟩:=b.par a h;show⟨o,b.same a o e n⟩
 .show b.uV a h
def aF.read(a:Ok C c)(h:aF C c0 c k u v):Rep C (Jh c.H) c.H u v:=by
 cases k with
 |own =>
  obtain⟨r,e,_,_,_,b⟩:=h;rw[e];obtain⟨o,ho,_⟩:=b.some;show b.rep a.uV ⟨o,ho⟩
 |loc=>show Rep.mv (.up a.uV) h
 |any=>show Rep.mv (.up a.Ds) h
 |bor j =>
  obtain⟨r,e,_,_,_,b⟩:=a.rootOf h.1 h.2;rw[e];obtain⟨o,ho,_⟩:=b.some;show b.rep a.uV ⟨o,ho⟩
 |_=>show h.elim
def Ok.newList(a:Ok C c)(n:Nx c0 c)(h:c.H p=b6)(d:ar C c.S c.H us vs):
  Ok C {c with H:=upd c.H p (.lst vs)}/\Nx c0 {c with H:=upd c.H p (.lst vs)}/\aF C c0 {c with H:=upd c.H p (.lst vs)} .own (.lst us) (.ref p):=by
 have⟨e,b⟩:=a.lay (o:=.lst vs) h;have⟨i,f,j,k,g⟩:=a.fw h;show⟨e,n.trans b,p,rfl,n.none h,f,g,vs,aq,d.mv (a.mv b.toNs)⟩
def Ok.Dt(a:Ok C c)(n:Nx c0 c)(h:c.H p=b6)(d:ar C c.S c.H us vs):
  Ok C {c with H:=upd c.H p (.tup vs)}/\Nx c0 {c with H:=upd c.H p (.tup vs)}/\aF C c0 {c with H:=upd c.H p (.tup vs)} .loc (.tup us) (.ref p):=by
 have⟨e,b⟩:=a.lay (o:=.tup vs) h;show⟨e,n.trans b,p,vs,rfl,Iq.of aq,d.mv (a.mv b.toNs)⟩
end
inductive Ex(α:Type) where|ok (a:α)|exc (c:Str)
abbrev M(α:Type):=au->Option (Ex α×au)
namespace M
abbrev pure(a:α):M α:=λst=>a5 (.ok a,st)
abbrev fail:M α:=λ_=>b6
abbrev bind(m:M α)(f:α->M β):M β:=λst=>match m st with
 |none=>b6
 |some (.ok a,st')=>f a st'
 |some (.exc c,st')=>a5 (.exc c,st')
abbrev H9(o:Option α):M α:=λst=>match o with
 |none=>b6
 |some a=>a5 (.ok a,st)
end M
noncomputable instance:Monad M:={pure:=M.pure,bind:=M.bind}
abbrev W{α:Type}(m:M α)(st:au)(Q:α->au->Prop):Prop:=∃a st',m st=a5 (.ok a,st')/\Q a st'
section
def ao:W (pure a) st Q↔Q a st:=by
 constructor
 .rintro⟨b,st',e,h⟩;cases e;show h
 .intro h;show⟨a,st,rfl,h⟩
def af:W (m >>= f) st Q↔W m st λa st'=>W (f a) st' Q:=by
 constructor
 .rintro⟨b,st',e,h⟩;have d:M.bind m f st=a5 (.ok b,st'):=e;unfold M.bind at d;cases q:m st with
  |none=>rw[q]at d;cases d
  |some r =>
   have⟨r,s1⟩:=r;rw[q]at d;cases r with
   |ok a=>show⟨a,s1,q,b,st',d,h⟩
   |exc c=>cases d
 .rintro⟨a,s1,q,b,st',e,h⟩;show⟨b,st',?_,h⟩;change M.bind m f st=_;unfold M.bind;rw[q];show e
def cS:W (M.H9 o) st Q↔∃a,o=a5 a/\Q a st:=by
 cases o with
 |none=>show⟨λ⟨_,_,e,_⟩=>(by cases e),λ⟨_,e,_⟩=>(by cases e)⟩
 |some a=>show⟨λ⟨_,_,e,h⟩=>(by cases e;show⟨a,rfl,h⟩),λ⟨_,e,h⟩=>(by cases e;show⟨a,st,rfl,h⟩)⟩
def a9:W (M.fail:M α) st Q↔False:=⟨λ⟨_,_,e,_⟩=>(by cases e),JQ⟩
def W.mono(h:W m st Q)(i:∀a s,Q a s->Q' a s):W m st Q':=let ⟨a,s,e,q⟩:=h;⟨a,s,e,i a s q⟩
end
inductive Qs where|add|sub|mul|Kc|mod|pow
deriving DecidableEq
inductive Pf where|eq|ne|lt|le|gt|ge|isin|HC|is|Sv
deriving DecidableEq
inductive Bf where|len|sorted|list|tuple|str|int|repr|max|min|all|any
deriving DecidableEq
inductive B2 where|Ls|JK|sset|ig
deriving DecidableEq
inductive Mf where|split|join|partition|endswith
deriving DecidableEq
inductive WH where|str|list|tuple|int|bool
deriving DecidableEq
inductive Ik where|seq|Iw|Mj|MU|zip|rev
deriving DecidableEq
inductive E where
 |var (i:Nat)
 |cst (u:U)
 |Ke (x:Str) (u:U)
 |bin (op:Qs) (a b:E)
 |cmp (op:Pf) (a b:E)
 |Lu (o1 o2:Pf) (a b c:E)
 |and (es:List E)|or (es:List E)|not (a:E)
 |ite (c a b:E)
 |tup (es:List E)|lst (es:List E)|J4 (r:Bool)
 |idx (a b:E)
 |K_ (a:E) (lo hi:List E)
 |bi (f:Bf) (es:List E)
 |Lv (f:B2) (es:List E)
 |Ku (m:Mf) (a:E) (es:List E)
 |call (f:Str) (es:List E)
 |comp (k:Nat) (t:Bool) (ik:Ik) (src:List E) (cond:List E) (e:E)
 |neg (a:E)|bad|Qt (a:E) (T:WH)|fst (es:List E)|inD (neg:Bool) (a:E) (i:Nat)|Oj (i:Nat)|Kf (i:Nat) (k d:E)|Ol (i:Nat)|Qu (ln:Bool) (a b:E)
 |IE (f:Str) (i:Nat) (es:List E) (is:List Nat)
 |pop (i:Nat)|Ml (i:Nat) (e:E)
 |IF (i:Nat)|KI (i:Nat)|JL (i:Nat)|j4 (i:Nat)|JM (f:Str) (i:Nat) (es es2:List E)|IG (f m:Str) (i:Nat) (es:List E)
inductive S where
 |set (i:Nat) (e:E)
 |Mm (is:List Nat) (e:E)
 |put (i:Nat) (k v:E)
 |app (i:Nat) (e:E)|ext (i:Nat) (e:E)|bad|newD (i:Nat)|putD (i:Nat) (k v:E)|J5 (i:Nat) (k v:E)|aug (sub:Bool) (i:Nat) (k v:E)|Qv (i:Nat)
 |exp (e:E)
 |ret (e:E)|Mn
 |ite (c:E) (a b:List S)
 |Ij (t:Bool) (is:List Nat) (ik:Ik) (src:List E) (body:List S)
 |MV (c:E) (body:List S)
 |brk|cnt|Qw
 |Nq (is:List Nat)
 |Mo (c:Str) (e:E)
 |Kv (p:Nat)|JN (i:Nat)|KJ (i:Nat) (e:E)|KN (i:Nat)
 |Mp (y:Nat) (f m:Str) (i:Nat) (c:Str)
abbrev isAny:Kd->Bool
 |.any=>bD
 |_=>cb
abbrev iB(k:Kd)(xs:List U):Bool:=!isAny k||cZ xs
abbrev kT(k k':Kd):Kd:=if isAny k||isAny k' then .any else .loc
abbrev cut{α:Type}(xs:List α)(lo hi:Option Int):List α:=(xs.drop (HT.HM xs.length 0 lo)).take (HT.HM xs.length xs.length hi - HT.HM xs.length 0 lo)
abbrev uW:Kd×U->Kd×U->Option (Kd×U)
 |(_,.int i),(_,.int j)=>a5 (.loc,.int (i+j))
 |(_,.str x),(_,.str y)=>if x.length+y.length<=cK then a5 (.loc,.str (x++y)) else b6
 |(k,.lst xs),(k',.lst ys)=>if xs.length+ys.length<=cK/\iB k xs=bD/\iB k' ys=bD then a5 (.own,.lst (xs++ys)) else b6
 |(k,.tup xs),(k',.tup ys)=>if xs.length+ys.length<=cK then a5 (kT k k',.tup (xs++ys)) else b6
 |_,_=>b6
abbrev rB(f:Int->Int->Option Int):U->U->Option (Kd×U)
 |.int i,.int j=>(f i j).map λn=>(.loc,.int n)
 |_,_=>b6
abbrev Ar(i j:Int):Option Int:=if ((-(2 ^ 64)<i/\i<2 ^ 64)\/(-(2 ^ 64)<j/\j<2 ^ 64)) then a5 (i * j) else b6
abbrev As(i j:Int):Option Int:=if 0<j/\j<1073741824 then a5 (i / j) else b6
abbrev Au(i j:Int):Option Int:=if 0<j then a5 (i % j) else b6
abbrev Av(i j:Int):Option Int:=if 0<=j/\j<=1000000/\i.natAbs<2 ^ 64 then a5 (i ^ j.toNat) else b6
abbrev JS(op:Qs)(x y:Kd×U):Option (Kd×U):=match op with
 |.add=>uW x y
 |.sub=>rB (λi j=>a5 (i - j)) x.2 y.2
 |.mul=>rB Ar x.2 y.2
 |.Kc=>rB As x.2 y.2
 |.mod=>rB Au x.2 y.2
 |.pow=>rB Av x.2 y.2
mutual
noncomputable def Ia:Nat->U->Bool
 |_,.Hz _ _=>cb
 |_,.ob _ _=>cb
 |0,.tup _=>cb
 |0,.lst _=>cb
 |n+1,.tup xs=>b_ n xs
 |n+1,.lst xs=>b_ n xs
 |_,.HD=>bD|_,.bl _=>bD|_,.int _=>bD|_,.str _=>bD
noncomputable def b_:Nat->List U->Bool
 |_,[]=>bD
 |n,u::us=>Ia n u&&b_ n us
end
mutual
noncomputable def bI:U->U->Bool
 |.HD,.HD=>bD
 |.bl a,.bl b=>a==b
 |.bl a,.int b=>(if a then 1 else 0)==b
 |.int a,.bl b=>a==(if b then 1 else 0)
 |.int a,.int b=>a==b
 |.str a,.str b=>a==b
 |.tup xs,.tup ys=>cz xs ys
 |.lst xs,.lst ys=>cz xs ys
 |_,_=>cb
noncomputable def cz:List U->List U->Bool
 |[],[]=>bD
 |u::us,w::ws=>bI u w&&cz us ws
 |_,_=>cb
end
abbrev Nr(x:U)(ys:List U):Option Bool:=if Ia 50 x=bD/\b_ 50 ys=bD then a5 (ys.any λy=>bI y x) else b6
abbrev Om(x y:Str):Bool:=!(tA y x 0 y.length 1).isEmpty
abbrev strsOf:List U->Option (List Str)
 |[]=>a5 []
 |.str x::us=>(strsOf us).map (x::·)
 |_::_=>b6
abbrev Aw:U->U->Option Bool
 |x,.lst ys=>Nr x ys
 |x,.tup ys=>Nr x ys
 |.str x,.str y=>a5 (Om x y)
 |.str x,.Hz ks _=>a5 (cL (x∈ks))
 |_,_=>b6
abbrev dP:List Str->List U->Str->Option U
 |y::ks,u::us,x=>if y=x then a5 u else dP ks us x
 |_,_,_=>b6
abbrev dput(ks:List Str)(us:List U)(x:Str)(u:U):List Str×List U :=
 if x∈ks then(ks,(ks.zip us).map λp=>if p.1=x then u else p.2) else(ks++[x],us++[u])
abbrev bu:Pf->U->U->Option Bool
 |.eq,a,b=>if Ia 50 a=bD/\Ia 50 b=bD then a5 (bI a b) else b6
 |.ne,a,b=>if Ia 50 a=bD/\Ia 50 b=bD then a5 (!bI a b) else b6
 |.lt,.int i,.int j=>a5 (cL (i<j))
 |.gt,.int i,.int j=>a5 (cL (j<i))
 |.ge,.int i,.int j=>a5 (cL (j<=i))
 |.isin,x,y=>Aw x y
 |.HC,x,y=>(Aw x y).map (!·)
 |_,_,_=>b6
abbrev kY:List U->Option (List Bool)
 |[]=>a5 []
 |.bl x::us=>(kY us).map (x::·)
 |_::_=>b6
abbrev iC:Kd×U->U->Option (Kd×U)
 |(k,.lst xs),.int i=>(Ic xs i).map λu=>(kE k,u)
 |(k,.tup xs),.int i=>(Ic xs i).map λu=>(kE k,u)
 |(_,.str x),.int i=>if x.length<=cK then(Ic x.cps.toList i).map λc=>(.loc,.str ⟨#[c]⟩) else b6
 |_,_=>b6
abbrev oj:Kd×U->Option Int->Option Int->Option (Kd×U)
 |(k,.lst xs),lo,hi=>if iB k xs=bD then a5 (.own,.lst (cut xs lo hi)) else b6
 |(k,.tup xs),lo,hi=>a5 (kE k,.tup (cut xs lo hi))
 |(_,.str x),lo,hi=>if x.length<=cK then a5 (.loc,.str (PySem.StrLaws.sliceText x lo hi)) else b6
 |_,_,_=>b6
abbrev Ax:U->Option Nat
 |.lst xs=>a5 xs.length
 |.tup xs=>a5 xs.length
 |.str x=>if x.length<=cK then a5 x.length else b6
 |_=>b6
abbrev gT{β:Type}(f:Kd×U->Option β):List (Kd×U)->Option β
 |[x]=>f x
 |_=>b6
abbrev intsOf:List U->Option (List Int)
 |[]=>a5 []
 |.int x::us=>(intsOf us).map (x::·)
 |_::_=>b6
abbrev Du:Kd×U->Option (Kd×U)
 |(_,.lst xs)=>(strsOf xs).bind λss=>if ss.length<64 then a5 (.own,.lst ((bF ss).map .str)) else b6
 |(_,.Hz ks _)=>if ks.length<64 then a5 (.own,.lst ((bF ks).map .str)) else b6
 |(_,.tup xs)=>(strsOf xs).bind λss=>if ss.length<64 then a5 (.own,.lst ((bF ss).map .str)) else b6
 |_=>b6
abbrev Dv:Kd×U->Option (Kd×U)
 |(k,.lst xs)=>if iB k xs=bD then a5 (.own,.lst xs) else b6
 |(k,.tup xs)=>if iB k xs=bD then a5 (.own,.lst xs) else b6
 |_=>b6
abbrev Dw:Kd×U->Option (Kd×U)
 |(k,.lst xs)=>a5 (kE k,.tup xs)
 |(k,.tup xs)=>a5 (kE k,.tup xs)
 |_=>b6
abbrev xg:Kd×U->Option (Kd×U)
 |(_,.int i)=>if i.natAbs.log2<1920 then a5 (.loc,.str (Ò i)) else b6
 |_=>b6
abbrev Dx:Kd×U->Option (Kd×U)
 |(_,.lst xs)=>(kY xs).map λbs=>(.loc,.bl (bs.all id))
 |_=>b6
abbrev Js(f:Bf)(rs:List (Kd×U)):Option (Kd×U):=match f with
 |.len=>gT (λx=>(Ax x.2).map λ(n:Nat)=>(Kd.loc,U.int (n:Int))) rs
 |.sorted=>gT Du rs
 |.list=>gT Dv rs
 |.tuple=>gT Dw rs
 |.str=>gT xg rs
 |.all=>gT Dx rs
 |_=>b6
abbrev uX:U->Option (List Str)
 |.lst xs=>(strsOf xs).bind λss=>if ss.length+1<L' then a5 (bq ss) else b6
 |.tup xs=>(strsOf xs).bind λss=>if ss.length+1<L' then a5 (bq ss) else b6
 |_=>b6
abbrev Dy:Kd×U->Option (Kd×U)
 |(k,.tup xs)=>if iB k xs=bD then a5 (.own,.lst xs.reverse) else b6
 |_=>b6
abbrev uY(f:B2)(rs:List (Kd×U)):Option (Kd×U):=match f with
 |.Ls=>b6
 |.JK=>gT Dy rs
 |.sset=>b6
 |.ig=>gT (λx=>(uX x.2).map λss=>(.loc,.int ss.length)) rs
abbrev j3:Mf->U->List (Kd×U)->Option (Kd×U)
 |.split,.str a,[(_,.str b)]=>if (b.length==0)=cb/\a.length+2<=cK then a5 (.own,.lst ((OT a b).map .str)) else b6
 |.join,.str a,[(_,.lst xs)]=>(strsOf xs).bind λss=>if ZG a ss=bD then a5 (.loc,.str (Ub a ss)) else b6
 |.endswith,.str a,[(_,.str b)]=>a5 (.loc,.bl (Z_ a b))
 |.partition,.str a,[(_,.str b)]=>if (b.length==0)=cb/\a.length<=cK then a5 (.loc,.tup [.str (o9 a b).1,.str (o9 a b).2.1,.str (o9 a b).2.2]) else b6
 |_,_,_=>b6
abbrev He:Kd×U->Option (List (Kd×U))
 |(k,.lst xs)=>a5 (xs.map λu=>(kE k,u))
 |(k,.tup xs)=>a5 (xs.map λu=>(kE k,u))
 |(_,.str x)=>a5 (x.cps.toList.map λc=>(.loc,.str ⟨#[c]⟩))
 |_=>b6
abbrev uZ:Kd×U->Option (List (Kd×U))
 |(_,.int n)=>if n<2 ^ 62/\-(2 ^ 62)<n then a5 ((il n.toNat).map λi:Nat=>(Kd.loc,U.int (0+(i:Int)))) else b6
 |_=>b6
abbrev Dz:List (Kd×U)->Option (List (Kd×U))
 |[(_,.int lo),(_,.int hi)]=>if hi<2 ^ 62/\-(2 ^ 62)<lo/\lo<2 ^ 62/\-(2 ^ 62)<hi then a5 ((il (hi - lo).toNat).map λi:Nat=>(Kd.loc,U.int (lo+(i:Int)))) else b6
 |_=>b6
abbrev DA:Kd×U->Option (List (Kd×U))
 |(k,.lst xs)=>a5 (xs.zipIdx.map λp=>(kE k,.tup [.int p.2,p.1]))
 |(k,.tup xs)=>a5 (xs.zipIdx.map λp=>(kE k,.tup [.int p.2,p.1]))
 |_=>b6
abbrev Kg(a:Ik)(rs:List (Kd×U)):Option (List (Kd×U)):=match a with
 |.seq=>gT He rs
 |.Iw=>gT uZ rs
 |.Mj=>Dz rs
 |.MU=>gT DA rs
 |_=>b6
abbrev Ay(ps:List (Str×Int)):List (Str×Int):=(jY (ps.map (·.1))).map λi=>ps.getD i (tv,0)
abbrev u3(p:Str×Int):U:=.tup [.str p.1,.int p.2]
abbrev xh:U->Option (Kd×U)
 |.Hz ks us=>(intsOf us).bind λns=>if ks.length<64/\ks.Nodup/\ks.length=ns.length then a5 (.own,.lst ((Ay (ks.zip ns)).map u3)) else b6
 |_=>b6
abbrev pS:U->Option Bool
 |.bl b=>a5 b
 |.lst xs=>a5 !xs.isEmpty
 |.tup xs=>a5 !xs.isEmpty
 |.str x=>if x.length<=cK then a5 ((x.length:Int) != 0) else b6
 |_=>b6
abbrev lift:Kd×U->M U
 |(.own,u)=>pure u
 |(.loc,u)=>pure u
 |(.any,u)=>if HQ u=bD then pure u else M.fail
 |(.bor j,_)=>λst=>match st[j]? with
  |some (a5 (.own,u))=>a5 (.ok u,st.set j (a5 (.loc,u)))
  |_=>b6
 |(.io,_)=>M.fail
 |(.A',_)=>M.fail
abbrev dg:List (Kd×U)->M (List U)
 |[]=>pure []
 |r::rs=>do let u <-lift r;let us <-dg rs;pure (u::us)
abbrev eI(i:Nat):Kd×U->M Unit
 |(.bor j,_)=>λst=>match st[j]? with
  |some (a5 (.own,u))=>a5 (.ok (),(st.set j (a5 (.loc,u))).set i (a5 (.loc,u)))
  |_=>b6
 |(.io,_)=>M.fail
 |(.A',_)=>M.fail
 |(k,u)=>λst=>a5 (.ok (),st.set i (a5 (k,u)))
def bo:List (Kd×U)->au->Prop
 |[],_=>True
 |(.bor j,u)::rs,st=>(∃k:Kd,k.root=bD/\st[j]?=a5 (a5 (k,u)))/\bo rs st
 |_::rs,st=>bo rs st
open Classical in
abbrev av(rs:List (Kd×U)):M Unit:=λst=>if bo rs st then a5 (.ok (),st) else b6
@[reducible]def Tab:=Str->List U->Option (Ex (Kd×U))
abbrev kZ(Γ:Tab)(f:Str)(us:List U):M (Kd×U):=λst=>match Γ f us with
 |some (.ok (.any,_))=>b6
 |none=>b6
 |some r=>a5 (r,st)
abbrev gU(rs:List (Kd×U))(p:Nat):Option Nat:=match rs[p]? with
 |some (.bor j,.lst _)=>a5 j
 |_=>b6
abbrev B5(a:List (Option Nat)):Kd×U->Bool
 |(.bor j,_)=>cL (a5 j∉a)
 |_=>bD
abbrev mM(rs:List (Kd×U))(is:List Nat):Bool:=is.all (λp=>(gU rs p).isSome)&&cL ((is.map (gU rs)).Nodup)&&(il rs.length).all λq=>cL (q∈is)||B5 (is.map (gU rs)) (rs.getD q (.loc,.HD))
abbrev jG(rs:List (Kd×U)):List Nat->List U->au->Option au
 |[],[],st=>a5 st
 |p::is,w::ws,st=>match gU rs p with
  |some j=>match w,st[j]? with
   |.lst us,a5 (a5 (k,_))=>jG rs is ws (st.set j (a5 (k,.lst us)))
   |_,_=>b6
  |none=>b6
 |_,_,_=>b6
abbrev iD(st:au):Kd×U->Kd×U
 |(.bor j,u)=>(.bor j,match st[j]? with|some (a5 (k,u'))=>if k.root=bD then u' else u|_=>u)
 |r=>r
abbrev xi(rs:List (Kd×U)):M (List (Kd×U)):=λst=>a5 (.ok (rs.map (iD st)),st)
abbrev xj(i:Nat):M (Kd×U):=λst=>match st[i]? with
 |some (a5 (k,.lst us))=>if k.root=bD then(match us[us.length - 1]? with|some u=>a5 (.ok (.loc,u),st.set i (a5 (k,.lst us.dropLast)))|none=>b6) else b6
 |_=>b6
abbrev Az(i:Nat):U->M (Kd×U)
 |.int j=>λst=>match st[i]? with
  |some (a5 (k,.lst us))=>if k.root=bD/\0<=j/\j<1000000 then(match us[j.toNat]? with|some u=>a5 (.ok (.loc,u),st.set i (a5 (k,.lst (us.eraseIdx j.toNat))))|none=>b6) else b6
  |_=>b6
 |_=>M.fail
abbrev dh(i:Nat):M (Kd×U):=λst=>match st[i]? with
 |some (a5 (.A',_))=>b6
 |some (a5 (k,u))=>a5 (.ok (if k.root=bD then .bor i else k,u),st)
 |_=>b6
abbrev Jw(i:Nat):M (U×List U):=λst=>match st[i]? with
 |some (a5 (.A',.ob u us))=>a5 (.ok (u,us),st)
 |_=>b6
abbrev Mq(i:Nat)(f:U->List U->Option (U×List U)):M Unit:=λst=>match st[i]? with
 |some (a5 (.A',.ob u us))=>match f u us with
  |some (w,ws)=>if HQ w=bD/\cZ ws=bD then a5 (.ok (),st.set i (a5 (.A',.ob w ws))) else b6
  |none=>b6
 |_=>b6
abbrev AA(u:U)(us:List U):Option (U×List U):=if us.length<cK then a5 (u,us++[u]) else b6
abbrev j4(i:Nat):M (Kd×U):=λst=>match st[i]? with
 |some (a5 (.A',.ob u us))=>match us[us.length - 1]? with
  |some w=>a5 (.ok (.loc,w),st.set i (a5 (.A',.ob u us.dropLast)))
  |none=>b6
 |_=>b6
abbrev gz{α:Type}(p:Nat)(o:α)(us:List α):List α:=us.take p++o::us.drop p
abbrev fG(Γ:Tab)(f:Str)(p i:Nat)(rs:List (Kd×U)):M (Kd×U):=λst=>match st[i]? with
 |some (a5 (.A',.ob u us))=>match Γ f (gz p (.ob u us) (rs.map (·.2))) with
  |some (.ok (k,.tup [w,.ob u' a]))=>if (k=.own\/k=.loc)/\p<=rs.length then a5 (.ok (k,w),st.set i (a5 (.A',.ob u' a))) else b6
  |_=>b6
 |_=>b6
abbrev mO(Γ:Tab)(f:Str)(i:Nat)(c:Str)(rs:List (Kd×U)):M Bool:=λst=>match st[i]? with
 |some (a5 (.A',.ob u us))=>match Γ f (.ob u us::rs.map (·.2)) with
  |some (.ok (k,.tup [w,.ob u' a]))=>match k,w with
   |.own,_=>a5 (.ok cb,st.set i (a5 (.A',.ob u' a)))
   |.loc,_=>a5 (.ok cb,st.set i (a5 (.A',.ob u' a)))
   |.io,.str b=>if b=c then a5 (.ok bD,st.set i (a5 (.A',.ob u' a))) else b6
   |_,_=>b6
  |_=>b6
 |_=>b6
abbrev jH(Γ:Tab)(f:Str)(i:Nat)(rs:List (Kd×U))(is:List Nat):M (Kd×U):=λst=>match st[i]? with
 |some (a5 (.A',.ob u us))=>match Γ f (.ob u us::rs.map (·.2)) with
  |some (.ok (k,.tup (w::.ob u' a::ws)))=>if (k=.own\/k=.loc)/\mM ((.loc,.HD)::rs) is=bD then(match jG ((.loc,.HD)::rs) is ws (st.set i (a5 (.A',.ob u' a))) with|some st'=>a5 (.ok (k,w),st')|none=>b6) else b6
  |_=>b6
 |_=>b6
abbrev gA(i:Nat):M (List Str×List U):=λst=>match st[i]? with
 |some (a5 (.A',.Hz ks us))=>a5 (.ok (ks,us),st)
 |_=>b6
abbrev iE(x:Kd×U):M Str:=match x.2 with
 |.str y=>pure y
 |_=>M.fail
abbrev Ph(neg:Bool)(y:Str)(ks:List Str):Bool:=if neg=bD then !cL (y∈ks) else cL (y∈ks)
abbrev xm(i:Nat):M (Kd×U):=λst=>match st[i]? with
 |some (a5 (.A',.Hz ks us))=>a5 (.ok (.bor i,.Hz ks us),st.set i (a5 (.own,.Hz ks us)))
 |_=>dh i st
abbrev B6(i:Nat):M Unit:=λst=>a5 (.ok (),st.set i (a5 (.A',.Hz [] [])))
abbrev k7(i:Nat)(y:Str):Kd×U->M Unit
 |(.own,.lst us)=>λst=>match st[i]? with
  |some (a5 (.A',.Hz ks vs))=>if y∉ks/\ks.length<cK then a5 (.ok (),st.set i (a5 (.A',.Hz (ks++[y]) (vs++[.lst us])))) else b6
  |_=>b6
 |_=>M.fail
abbrev j5:List Str->List U->Str->U->List U
 |k::ks,v::vs,y,u=>if k=y then u::vs else v::j5 ks vs y u
 |_,vs,_,_=>vs
abbrev k8(i:Nat)(y:Str)(u:U):M Unit:=λst=>match st[i]? with
 |some (a5 (.A',.Hz ks vs))=>match dP ks vs y with
  |some (.lst xs)=>if xs.length<cK then a5 (.ok (),st.set i (a5 (.A',.Hz ks (j5 ks vs y (.lst (xs++[u])))))) else b6
  |_=>b6
 |_=>b6
abbrev Sw:U->M Unit
 |.Hz _ _=>pure ()
 |_=>M.fail
abbrev AB(x:Kd×U)(y:Str)(u:U):Option (Kd×U):=match x with
 |(k,.Hz ks us)=>a5 (match dP ks us y with|some v=>(kE k,v)|none=>(.loc,u))
 |_=>b6
abbrev pT(i:Nat):M (List U):=λst=>match st[i]? with
 |some (a5 (k,.lst us))=>if k.root=bD then a5 (.ok us,st) else b6
 |_=>b6
abbrev u4(x:Kd×U):M Int:=match x.2 with
 |.int j=>pure j
 |_=>M.fail
abbrev pU(us:List U)(j:Int):Option Int:=if 0<=j then(match us[j.toNat]? with|some (.int o)=>a5 o|_=>b6) else b6
abbrev u5(sub:Bool)(o w:Int):Int:=if sub=bD then o - w else o+w
abbrev Hg:U->Option U
 |.lst us=>a5 (.lst us.reverse)
 |_=>b6
abbrev sets:List Nat->List (Kd×U)->M Unit
 |[],[]=>pure ()
 |i::is,r::rs=>do eI i r;sets is rs
 |_,_=>M.fail
abbrev dF(t:Bool)(is:List Nat)(r:Kd×U):M Unit:=match t,is,r with
 |false,[i],r=>eI i r
 |true,is,(k,.tup xs)=>sets is (xs.map λu=>(kE k,u))
 |_,_,_=>M.fail
abbrev inScope{α:Type}(k:Nat)(m:M α):M α:=λst=>match m (lg k b6++st) with
 |none=>b6
 |some (r,st')=>a5 (r,st'.drop k)
abbrev bG(k:Nat)(t:Bool)(cond:M Bool)(elt:M (Kd×U))(src:List (Kd×U)):List (Kd×U)->List U->M (List U)
 |[],a=>do av src;pure a
 |x::xs,a=>do
  av src
  let r <-inScope k (dF t (il k) x >>= λ_=>cond >>= λb=>if b=bD then(elt >>= λr=>lift r >>= λu=>pure (a5 u)) else pure b6)
  match r with
  |some u=>if a.length<cK then bG k t cond elt src xs (a++[u]) else M.fail
  |none=>bG k t cond elt src xs a
abbrev AD:Kd×U->Option (Kd×U)
 |(_,.int i)=>a5 (.loc,.int (-i))
 |_=>b6
abbrev DB(x:Kd×U):M (Option Int):=match x.2 with
 |.int i=>pure (a5 i)
 |_=>M.fail
abbrev Mr:U->M Unit
 |.lst _=>pure ()
 |_=>M.fail
section
variable(Γ:Tab)
mutual
noncomputable def ev:E->M (Kd×U)
 |.var i=>dh i
 |.cst u=>pure (.loc,u)
 |.Ke _ u=>pure (.loc,u)
 |.bin op a b=>do
  let x <-ev a
  let y <-ev b
  av [x,y]
  M.H9 (JS op x y)
 |.cmp op a b=>do
  let x <-ev a
  let y <-ev b
  av [x,y]
  let c <-M.H9 (bu op x.2 y.2)
  pure (.loc,.bl c)
 |.Lu o1 o2 a b c=>do
  let x <-ev a
  let y <-ev b
  av [x,y]
  let p <-M.H9 (bu o1 x.2 y.2)
  if p=bD then do
   let z <-ev c
   av [y,z]
   let q <-M.H9 (bu o2 y.2 z.2)
   pure (.loc,.bl q)
  else pure (.loc,.bl cb)
 |.and es=>iF es
 |.or es=>DC es
 |.not a=>do
  let x <-ev a
  match x.2 with
  |.bl c=>pure (.loc,.bl !c)
  |_=>M.fail
 |.ite c a b=>do
  let p <-HP c
  if p=bD then ev a else ev b
 |.tup es=>do
  let rs <-aR es
  av rs
  let us <-dg rs
  if us.length<=cK then pure (.loc,.tup us) else M.fail
 |.lst es=>do
  let rs <-aR es
  av rs
  let us <-dg rs
  if us.length<=cK then pure (.own,.lst us) else M.fail
 |.J4 r=>pure (.own,.Hz [] [])
 |.idx a b=>do
  let x <-ev a
  let y <-ev b
  av [x,y]
  M.H9 (iC x y.2)
 |.K_ a lo hi=>do
  let x <-ev a
  let l <-Nt lo
  let h <-Nt hi
  av [x]
  M.H9 (oj x l h)
 |.bi f es=>do
  let rs <-aR es
  av rs
  M.H9 (Js f rs)
 |.Lv f es=>do
  let rs <-aR es
  av rs
  M.H9 (uY f rs)
 |.Ku m a es=>do
  let x <-ev a
  let rs <-aR es
  av (x::rs)
  M.H9 (j3 m x.2 rs)
 |.call f es=>do
  let rs <-aR es
  av rs
  kZ Γ f (rs.map (·.2))
 |.comp k t g src cond e=>do
  let rs <-aR src
  av rs
  let xs <-M.H9 (Kg g rs)
  let us <-bG k t (aN cond) (ev e) rs xs []
  pure (.own,.lst us)
 |.neg a=>do
  let x <-ev a
  M.H9 (AD x)
 |.bad=>M.fail
 |.inD neg a i=>do
  let x <-ev a
  let y <-iE x
  let d <-gA i
  pure (.loc,.bl (Ph neg y d.1))
 |.Oj i=>xm i
 |.Kf i k d=>do
  let x <-dh i
  Sw x.2
  let y <-ev k
  let y <-iE y
  let z <-ev d
  let u <-lift z
  let x <-dh i
  M.H9 (AB x y u)
 |.Ol i=>do
  let x <-dh i
  M.H9 (xh x.2)
 |.IE f i es is=>Jw i >>= λ_=>(aR es >>= xi) >>= λrs=>av rs >>= λ_=>jH Γ f i rs is
 |.IF i=>Jw i >>= λp=>pure (.loc,p.1)
 |.KI i=>Jw i >>= λp=>pure (.loc,.int (p.2.length:Nat))
 |.JL _=>M.fail
 |.j4 i=>TM.j4 i
 |.JM f i es es2=>Jw i >>= λ_=>(aR es >>= λr1=>aR es2 >>= λr2=>pure (r1++r2)) >>= λrs=>av rs >>= λ_=>fG Γ f es.length i rs
 |.IG f _ i es=>Jw i >>= λ_=>aR es >>= λrs=>av rs >>= λ_=>fG Γ f 0 i rs
 |.pop i=>xj i
 |.Ml i e=>do
  let x <-dh i
  Mr x.2
  let y <-ev e
  Az i y.2
 |.Qu _ _ _=>M.fail
 |.fst es=>M.fail
 |.Qt a T=>M.fail
noncomputable def aR:List E->M (List (Kd×U))
 |[]=>pure []
 |e::es=>do let r <-ev e;let rs <-aR es;pure (r::rs)
noncomputable def Nt:List E->M (Option Int)
 |[]=>pure b6
 |[e]=>do let x <-ev e;DB x
 |_=>M.fail
noncomputable def iF:List E->M (Kd×U)
 |[]=>M.fail
 |[e]=>ev e
 |e::es=>do
  let x <-ev e
  match x.2 with
  |.bl bD=>iF es
  |.bl cb=>pure (.loc,.bl cb)
  |_=>M.fail
noncomputable def DC:List E->M (Kd×U)
 |[]=>M.fail
 |[e]=>ev e
 |e::es=>do
  let x <-ev e
  match x.2 with
  |.bl bD=>pure (.loc,.bl bD)
  |.bl cb=>DC es
  |_=>M.fail
noncomputable def HP:E->M Bool
 |.and es=>aN es
 |.or es=>jI es
 |.not a=>do let b <-HP a;pure !b
 |.cmp op a b=>do
  let x <-ev a
  let y <-ev b
  av [x,y]
  M.H9 (bu op x.2 y.2)
 |.var i=>do let x <-dh i;M.H9 (pS x.2)
 |.bi f es=>do
  let rs <-aR es
  av rs
  let r <-M.H9 (Js f rs)
  M.H9 (pS r.2)
 |.call f es=>do
  let rs <-aR es
  av rs
  let r <-kZ Γ f (rs.map (·.2))
  M.H9 (pS r.2)
 |.Lu o1 o2 a b c=>do
  let x <-ev a
  let y <-ev b
  av [x,y]
  let p <-M.H9 (bu o1 x.2 y.2)
  if p=bD then do
   let z <-ev c
   av [y,z]
   M.H9 (bu o2 y.2 z.2)
  else pure cb
 |.inD neg a i=>do
  let x <-ev a
  let y <-iE x
  let d <-gA i
  pure (Ph neg y d.1)
 |.JL i=>Jw i >>= λp=>if Ia 50 (.lst p.2)=bD then pure p.2.isEmpty else M.fail
 |.JM f i es es2=>(Jw i >>= λ_=>(aR es >>= λr1=>aR es2 >>= λr2=>pure (r1++r2)) >>= λrs=>av rs >>= λ_=>fG Γ f es.length i rs) >>= λr=>M.H9 (pS r.2)
 |.IE f i es is=>(Jw i >>= λ_=>(aR es >>= xi) >>= λrs=>av rs >>= λ_=>jH Γ f i rs is) >>= λr=>M.H9 (pS r.2)
 |_=>M.fail
noncomputable def aN:List E->M Bool
 |[]=>pure bD
 |[e]=>HP e
 |e::es=>do let b <-HP e;if b=bD then aN es else pure cb
noncomputable def jI:List E->M Bool
 |[]=>pure cb
 |[e]=>HP e
 |e::es=>do let b <-HP e;if b=bD then pure bD else jI es
end
inductive Fl where|nx|rt (k:Kd) (u:U)|bk|ct
abbrev retS:Kd×U->M Fl
 |(.own,u)=>pure (.rt .own u)
 |(.loc,u)=>pure (.rt .loc u)
 |(.any,u)=>if HQ u=bD then pure (.rt .loc u) else pure (.rt .any u)
 |(.bor j,_)=>λst=>match st[j]? with
  |some (a5 (.own,u))=>a5 (.ok (.rt .own u),st.set j b6)
  |_=>b6
 |(.io,_)=>M.fail
 |(.A',_)=>M.fail
abbrev forM(t:Bool)(is:List Nat)(body:M Fl)(src:List (Kd×U)):List (Kd×U)->M Fl
 |[]=>do av src;pure .nx
 |x::xs=>do
  av src
  dF t is x
  let f <-body
  match f with
  |.nx=>forM t is body src xs
  |.ct=>forM t is body src xs
  |.bk=>pure .nx
  |.rt k u=>pure (.rt k u)
abbrev gB(c:M Bool)(body:M Fl):Nat->M Fl
 |0=>M.fail
 |n+1=>do
  let b <-c
  if b=bD then do
   let f <-body
   match f with
   |.nx=>gB c body n
   |.ct=>gB c body n
   |.bk=>pure .nx
   |.rt k u=>pure (.rt k u)
  else pure .nx
abbrev pV(y:Nat)(b:Bool):M Fl:=if b=bD then(eI y (.loc,.bl bD) >>= λ_=>pure .nx) else pure .nx
abbrev modS(i:Nat)(f:U->Option U):M Unit:=λst=>match st[i]? with
 |some (a5 (k,u))=>if k.root=bD then match f u with
   |some u'=>a5 (.ok (),st.set i (a5 (k,u')))
   |none=>b6
  else b6
 |_=>b6
abbrev xn(u:U):U->Option U
 |.lst xs=>if xs.length<cK then a5 (.lst (xs++[u])) else b6
 |_=>b6
abbrev mf:Kd×U->U->Option U
 |(k,.lst ys),.lst xs=>if xs.length+ys.length<=cK/\iB k ys=bD then a5 (.lst (xs++ys)) else b6
 |(k,.tup ys),.lst xs=>if xs.length+ys.length<=cK/\iB k ys=bD then a5 (.lst (xs++ys)) else b6
 |_,_=>b6
abbrev fy(x u:U):U->Option U
 |.Hz ks vs=>match x with
  |.str y=>if ks.length<cK then a5 (.Hz (dput ks vs y u).1 (dput ks vs y u).2) else b6
  |_=>b6
 |.lst xs=>match x with
  |.int i=>(K4 xs.length i).map λj=>.lst (xs.set j u)
  |_=>b6
 |_=>b6
abbrev tq:List U->U->Option U
 |[u,x]=>fy x u
 |_=>λ_=>b6
abbrev fuel:Nat:=1000000000000
mutual
noncomputable def Oo:S->Nat->Bool
 |.set i _,j=>cL (j≠i)
 |.Mm is _,j=>cL (j∉is)
 |.ite _ a b,j=>Ji a j&&Ji b j
 |.Ij _ is _ _ body,j=>cL (j∉is)&&Ji body j
 |.MV _ body,j=>Ji body j
 |.put _ _ _,_=>bD
 |.app _ _,_=>bD
 |.ext _ _,_=>bD
 |.bad,_=>bD
 |.newD i,j=>cL (j≠i)
 |.putD _ _ _,_=>bD
 |.J5 _ _ _,_=>bD
 |.aug _ _ _ _,_=>bD
 |.Qv _,_=>bD
 |.exp _,_=>bD
 |.ret _,_=>bD
 |.Mn,_=>bD
 |.brk,_=>bD
 |.cnt,_=>bD
 |.Qw,_=>bD
 |.Nq _,_=>bD
 |.Mo _ _,_=>bD
 |.Kv _,_=>bD
 |.JN i,j=>cL (j≠i)
 |.KJ _ _,_=>bD
 |.KN _,_=>bD
 |.Mp y _ _ _ _,j=>cL (j≠y)
noncomputable def Ji:List S->Nat->Bool
 |[],_=>bD
 |s::ss,j=>Oo s j&&Ji ss j
end
abbrev tu(rs:List (Kd×U))(is:List Nat)(body:List S):Bool:=rs.all λr=>match r.1 with
 |.bor j=>cL (j∉is)&&Ji body j
 |_=>bD
mutual
noncomputable def exec:S->M Fl
 |.set i e=>do let r <-ev Γ e;eI i r;pure .nx
 |.Mm is e=>do let r <-ev Γ e;dF bD is r;pure .nx
 |.put i k v=>do
  let r <-ev Γ v
  let _ <-dh i
  let x <-ev Γ k
  let us <-dg [r,x]
  modS i (tq us)
  pure .nx
 |.app i e=>do
  let x <-dh i
  Mr x.2
  let r <-ev Γ e
  let u <-lift r
  modS i (xn u)
  pure .nx
 |.ext i e=>do
  let x <-dh i
  Mr x.2
  let r <-ev Γ e
  modS i (mf r)
  pure .nx
 |.bad=>M.fail
 |.newD i=>do B6 i;pure .nx
 |.putD i k v=>do
  let r <-ev Γ v
  let d <-gA i
  let x <-ev Γ k
  let y <-iE x
  k7 i y r
  pure .nx
 |.J5 i k v=>do
  let _ <-gA i
  let x <-ev Γ k
  let y <-iE x
  let d <-gA i
  if y∈d.1 then do
   let r <-ev Γ v
   let u <-lift r
   k8 i y u
   pure .nx
  else M.fail
 |.aug sub i k v=>do
  let _ <-pT i
  let y <-ev Γ k
  let j <-u4 y
  let us <-pT i
  let o <-M.H9 (pU us j)
  let z <-ev Γ v
  let w <-u4 z
  modS i (fy (.int j) (.int (u5 sub o w)))
  pure .nx
 |.Qv i=>do
  modS i Hg
  pure .nx
 |.exp e=>do let _ <-ev Γ e;pure .nx
 |.ret e=>do let r <-ev Γ e;retS r
 |.Mn=>pure (.rt .loc .HD)
 |.ite c a b=>do let p <-HP Γ c;if p=bD then execs a else execs b
 |.Ij t is g src body=>do
  let rs <-aR Γ src
  av rs
  let xs <-M.H9 (Kg g rs)
  if tu rs is body=bD then forM t is (execs body) rs xs else M.fail
 |.MV c body=>gB (HP Γ c) (execs body) fuel
 |.brk=>pure .bk
 |.cnt=>pure .ct
 |.Qw=>pure .nx
 |.Nq _=>M.fail
 |.Mo c e=>do let _ <-ev Γ e;pure (.rt .io (.str c))
 |.Kv _=>M.fail
 |.JN i=>λst=>a5 (.ok .nx,st.set i (a5 (.A',.ob (.tup []) [])))
 |.KJ i e=>ev Γ e >>= λr=>lift r >>= λu=>Mq i (λ_ us=>a5 (u,us)) >>= λ_=>pure .nx
 |.KN i=>Mq i AA >>= λ_=>pure .nx
 |.Mp y f _ i c=>Jw i >>= λ_=>mO Γ f i c [] >>= λq=>pV y q
noncomputable def execs:List S->M Fl
 |[]=>pure .nx
 |s::ss=>do
  let f <-exec s
  match f with
  |.nx=>execs ss
  |f=>pure f
end
end
structure Fn where
 name:Str
 np:Nat
 ns:Nat
 body:List S
abbrev start(us:List U)(n:Nat):au:=us.map (λu=>a5 (if HQ u=bD then Kd.loc else Kd.any,u))++lg (n - us.length) b6
abbrev bS(Γ:Tab)(fn:Fn)(us:List U):Option (Ex (Kd×U)):=if us.length=fn.np then match execs Γ fn.body (start us fn.ns) with
  |some (.ok (.rt .own u),_)=>a5 (.ok (.own,u))
  |some (.ok (.rt .loc u),_)=>a5 (.ok (.loc,u))
  |some (.ok (.rt .any u),_)=>a5 (.ok (.any,u))
  |some (.ok .nx,_)=>a5 (.ok (.loc,.HD))
  |some (.ok (.rt .io (.str c)),_)=>a5 (.exc c)
  |_=>b6
 else b6
abbrev Nu:List Nat->au->Option (List U)
 |[],_=>a5 []
 |i::is,st=>match st[i]? with
  |some (a5 (.io,u))=>(Nu is st).map (u::·)
  |_=>b6
abbrev Qx:Fl->Option (Kd×U)
 |.rt .own u=>a5 (.own,u)
 |.rt .loc u=>a5 (.loc,u)
 |.nx=>a5 (.loc,.HD)
 |_=>b6
abbrev Fn.io(fn:Fn):Option (List Nat×List S):=match fn.body with
 |.Nq is::body=>a5 (is,body)
 |_=>b6
abbrev a_(p:Nat)(us:List U)(n:Nat):au:=(us.zipIdx.map λq=>a5 (if q.2=p then Kd.A' else if HQ q.1=bD then Kd.loc else Kd.any,q.1))++lg (n - us.length) b6
abbrev Pj:Fl->Option (Kd×U)
 |.rt .own u=>a5 (.own,u)
 |.rt .loc u=>a5 (.loc,u)
 |.rt .io (.str c)=>a5 (.io,.str c)
 |.nx=>a5 (.loc,.HD)
 |_=>b6
abbrev Lw(p:Nat)(st:au):Option U:=match st[p]? with
 |some (a5 (.A',.ob u us))=>a5 (.ob u us)
 |_=>b6
abbrev eJ(Γ:Tab)(fn:Fn)(p:Nat)(body:List S)(us:List U):Option (Ex (Kd×U)):=if us.length=fn.np/\p<fn.np then match execs Γ body (a_ p us fn.ns) with
  |some (.ok f,st)=>(Pj f).bind λr=>(Lw p st).map λo=>.ok (r.1,.tup [r.2,o])
  |_=>b6
 else b6
abbrev Fn.ob(fn:Fn):Option (Nat×List S):=match fn.body with
 |.Kv p::body=>a5 (p,body)
 |_=>b6
abbrev bT(is:List Nat)(us:List U)(n:Nat):au:=(us.zipIdx.map λq=>a5 (if q.2=0 then Kd.A' else if q.2∈is then Kd.io else if HQ q.1=bD then Kd.loc else Kd.any,q.1))++lg (n - us.length) b6
abbrev mj(Γ:Tab)(fn:Fn)(is:List Nat)(body:List S)(us:List U):Option (Ex (Kd×U)):=if us.length=fn.np/\0<fn.np then match execs Γ body (bT is us fn.ns) with
  |some (.ok f,st)=>(Qx f).bind λr=>(Lw 0 st).bind λo=>(Nu is st).map λws=>.ok (r.1,.tup (r.2::o::ws))
  |_=>b6
 else b6
abbrev iG(Γ:Tab)(fn:Fn)(us:List U):Option (Ex (Kd×U)):=match fn.io with
 |some (is,body)=>mj Γ fn is body us
 |none=>match fn.ob with
  |some (p,body)=>eJ Γ fn p body us
  |none=>bS Γ fn us
abbrev HY(P:List Fn):Nat->Tab
 |0=>λ_ _=>b6
 |d+1=>λf us=>match P.find? λfn=>cL (fn.name=f) with
  |some fn=>iG (HY P d) fn us
  |none=>b6
end TM
namespace TM
open PySem L2
section
variable{X:Cx}{pins:List (gi×Obj)}{σ:St}{H:Hp}{s:gm}{C:Ct}{S:gi->Prop}
def tw(I:Inv X pins σ H s)(h:Ip X.K H a vs):∃b:List dV,Vals vs b/\s.heap.IsList a b.toArray/\vs.length<=cK:=by
 have⟨b,r,p,z⟩:=I.list h;show⟨b,r,p.isList,z⟩
inductive Iy(s:gm):Nat->U->dV->Prop where
 |HD {n:Nat}:Iy s n .HD .none
 |bl {n:Nat} {b:Bool}:Iy s n (.bl b) (.bool b)
 |int {n:Nat} {i:Int} {t:Tok}:Iy s n (.int i) (.int i t)
 |str {n:Nat} {y:Str} {t:Tok}:Iy s n (.str y) (.str y t)
 |tup {n:Nat} {us:List U} {B':List dV} {a:gi}:us.length=B'.length->(∀j (hj:j<B'.length),Iy s n (us.getD j .HD) B'[j])->cz us us=bD->s.heap.IsTuple a B'.toArray->Iy s (n+1) (.tup us) (.ref a)
 |lst {n:Nat} {us:List U} {B':List dV} {a:gi}:us.length=B'.length->(∀j (hj:j<B'.length),Iy s n (us.getD j .HD) B'[j])->cz us us=bD->s.heap.IsList a B'.toArray->Iy s (n+1) (.lst us) (.ref a)
def Iy.self(h:Iy s n u x):bI u u=bD:=by
 cases h<;>first|assumption|simp[bI]
theorem Iy.u6(f:∀u v x,Ia n u=bD->Rep C S H u v->RelV v x->Iy s n u x):∀{us:List U}{vs:List V}{a:List dV},b_ n us=bD->ar C S H us vs->Vals vs a->us.length=a.length/\(∀j (b:j<a.length),Iy s n (us.getD j .HD) a[j])/\cz us us=bD
 |[],_,_,_,h,r=>by cases h;cases r;show⟨rfl,λj b=>(nomatch b),rfl⟩
 |u::us,_,_,e,h,r=>by
  have⟨v,vs,rfl,c,d⟩:=h;simp only[b_,b7]at e;cases r with
  |cons r1 r2 =>
   have⟨l,k,y⟩:=Iy.u6 f e.2 d r2;show⟨by simp[l],λj b=>?_,by rw[cz,(f _ _ _ e.1 c r1).self,y];rfl⟩;cases j with
   |zero=>show f _ _ _ e.1 c r1
   |succ j=>show k j (by simpa using b)
def Iy.of(I:Inv X pins σ H s)(d:C.K=X.K):∀(n:Nat) (u:U) (v:V) (x:dV),Ia n u=bD->Rep C S H u v->RelV v x->Iy s n u x:=by
 intro n;induction n with
 |zero=>intro u v x e h r;cases u<;>first|(simp[Ia]at e;done)|(simp only[Rep]at h;subst h;first|(cases r;constructor)|(have⟨t,rfl⟩:=r;constructor))
 |succ n f =>
  intro u v x e h r;cases u with
  |tup us =>
   have⟨a,vs,rfl,b,c⟩:=h;cases r;obtain⟨g,rv,p,_⟩:=I.tuple (d▸b);have⟨l,k,y⟩:=Iy.u6 f (by simpa[Ia] using e) c rv;show .tup l k y p
  |lst us =>
   have⟨a,vs,rfl,b,c⟩:=h;cases r;obtain⟨g,rv,p,_⟩:=tw I (d▸b.sq);have⟨l,k,y⟩:=Iy.u6 f (by simpa[Ia] using e) c rv;show .lst l k y p
  |_=>first|(simp[Ia]at e;done)|(simp only[Rep]at h;subst h;first|(cases r;constructor)|(have⟨t,rfl⟩:=r;constructor))
def Iy.inj:∀{n:Nat}{u w:U}{x:dV},Iy s n u x->Iy s n w x->u=w:=by
 intro n;induction n with
 |zero=>intro u w x h h';cases h<;>cases h'<;>rfl
 |succ n q =>
  have go:∀{us ws:List U} {c its':List dV} {a:gi} {o o':Obj} {m g:Nat},us.length=c.length->(∀j (r:j<c.length),Iy s n (us.getD j .HD) c[j])->ws.length=its'.length->(∀j (r:j<its'.length),Iy s n (ws.getD j .HD) its'[j])->s.heap.get? a=a5 o->o.data=.seq c.toArray m->s.heap.get? a=a5 o'->o'.data=.seq its'.toArray g->us=ws:=by
   intro us ws c its' a o o' m g l k l' k' e d f d';rw[e]at f;cases f;rw[d]at d';injection d' with t _
   have:c=its':=by simpa using ï WL t
   subst this;show NX ⋯ λj v z=>?_;have:=q (k j ⋯) (k' j ⋯);simpa[v,z] using this
  intro u w x h h';cases h with
  |tup l k y p =>
   cases h' with
   |tup l' k' i b=>obtain⟨o,e,_,m,d⟩:=p;obtain⟨o',f,_,g,d'⟩:=b;rw[go l k l' k' e d f d']
   |lst l' k' i b=>show absurd rfl (WK b p)
  |lst l k y p =>
   cases h' with
   |lst l' k' i b=>obtain⟨o,e,_,m,d⟩:=p;obtain⟨o',f,_,g,d'⟩:=b;rw[go l k l' k' e d f d']
   |tup l' k' i b=>show absurd rfl (WK p b)
  |_=>cases h';rfl
theorem ji:∀{us ws:List U},us.length≠ws.length->cz us ws=cb
 |[],[],h=>absurd rfl h
 |[],_::_,_=>rfl
 |_::_,[],_=>rfl
 |u::us,w::ws,h=>by
  rw[cz,ji (us:=us) (ws:=ws) (λe=>h (by simp[e])),Wa]
theorem fH:∀{us ws:List U},us.length=ws.length->cz us ws=(il us.length).all λj=>bI (us.getD j .HD) (ws.getD j .HD)
 |[],[],_=>rfl
 |[],_::_,h=>by simp at h
 |_::_,[],h=>by simp at h
 |u::us,w::ws,h=>by
  have h':us.length=ws.length:=by simpa using h
  rw[cz,fH h',k9,List.range_succ_eq_map,List.all_cons,Z2];rfl
def Fw{a its':List dV}(c:us.length=a.length)(d:ws.length=its'.length):cz us ws=((il (min a.toArray.size its'.toArray.size)).all (λj=>bI (us.getD j .HD) (ws.getD j .HD))&&a.toArray.size==its'.toArray.size):=by
 simp only[hH];by_cases b:us.length=ws.length
 .rw[fH b,show min a.length its'.length=us.length by lia,show(a.length==its'.length)=bD by simp;lia,Wz]
 .rw[ji b,show(a.length==its'.length)=cb by simp;lia,Wa]
def tD(b:Iy s n u y)(h:YB A s y x k)(hs:y=x->k=bD):Rv A s y x k:=λprog w E Q a=>by
 unfold eqBool;show D' ?_;show Ë (λc=>?_) (λ_=>?_)
 .rw[hs (É c)]at a;show b8 (Oe (fx a))
 .cases b<;>show b8 (h prog w E _ (Jx a))
def Sx(q:∀m,m+1=n->∀{u w:U}{x d:dV}{A:Li},Iy s m u x->Iy s m w d->A.units+m<KA->Rv A s x d (bI u w))(h:Iy s n u x)(h':Iy s n w d)(t:A.units+n<KA):YB A s x d (bI u w)/\ZF A s x d (!bI u w):=by
 have a:A.units<KA:=by lia
 have go:∀{m:Nat} {us ws:List U} {f its':List dV},m+1=n->(∀j (r:j<f.length),Iy s m (us.getD j .HD) f[j])->(∀j (r:j<its'.length),Iy s m (ws.getD j .HD) its'[j])->∀j (g:j<f.toArray.size) (i:j<its'.toArray.size),Rv A.in1 s f.toArray[j] its'.toArray[j] (bI (us.getD j .HD) (ws.getD j .HD)):=λ{m us ws f its'} e k k' j g i=>q m e (k j g) (k' j i) (by change A.units+1+m < _;lia);cases h with
 |HD =>
  cases h' with
  |HD=>show⟨.none_none,.none_none⟩
  |bl=>show⟨.none_bool _,.none_bool _⟩
  |int=>show⟨.none_int _ _,.none_int _ _⟩
  |str=>show⟨.none_str _ _,.none_str _ _⟩
  |tup l' k' c b=>show⟨.none_tuple b a,.none_tuple b a⟩
  |lst l' k' c b=>show⟨.none_list b a,.none_list b a⟩
 |bl =>
  cases h' with
  |HD=>show⟨.bool_none _,.bool_none _⟩
  |bl=>show⟨.bool_bool _ _,.bool_bool _ _⟩
  |int=>show⟨.bool_int _ _ _,.bool_int _ _ _⟩
  |str=>show⟨.bool_str _ _ _,.bool_str _ _ _⟩
  |tup l' k' c b=>show⟨.bool_tuple _ b a,.bool_tuple _ b a⟩
  |lst l' k' c b=>show⟨.bool_list _ b a,.bool_list _ b a⟩
 |int =>
  cases h' with
  |HD=>show⟨.int_none _ _,.int_none _ _⟩
  |bl=>show⟨.int_bool _ _ _,.int_bool _ _ _⟩
  |int=>show⟨.int_int _ _ _ _,.int_int _ _ _ _⟩
  |str=>show⟨.int_str _ _ _ _,.int_str _ _ _ _⟩
  |tup l' k' c b=>show⟨.int_tuple _ _ b a,.int_tuple _ _ b a⟩
  |lst l' k' c b=>show⟨.int_list _ _ b a,.int_list _ _ b a⟩
 |str =>
  cases h' with
  |HD=>show⟨.str_none _ _,.str_none _ _⟩
  |bl=>show⟨.str_bool _ _ _,.str_bool _ _ _⟩
  |int=>show⟨.str_int _ _ _ _,.str_int _ _ _ _⟩
  |str=>show⟨.str_str _ _ _ _,.str_str _ _ _ _⟩
  |tup l' k' c b=>show⟨.str_tuple _ _ b a,.str_tuple _ _ b a⟩
  |lst l' k' c b=>show⟨.str_list _ _ b a,.str_list _ _ b a⟩
 |tup l k y p =>
  cases h' with
  |HD=>show⟨.tuple_none p a,.tuple_none p a⟩
  |bl=>show⟨.tuple_bool _ p a,.tuple_bool _ p a⟩
  |int=>show⟨.tuple_int _ _ p a,.tuple_int _ _ p a⟩
  |str=>show⟨.tuple_str _ _ p a,.tuple_str _ _ p a⟩
  |tup l' k' c b=>rw[show bI (.tup _) (.tup _)=_ from Fw l l'];show⟨.tuples p b a (go rfl k k'),.tuples p b a (go rfl k k')⟩
  |lst l' k' c b=>show⟨.tuple_list p b a,.tuple_list p b a⟩
 |lst l k y p =>
  cases h' with
  |HD=>show⟨.list_none p a,.list_none p a⟩
  |bl=>show⟨.list_bool _ p a,.list_bool _ p a⟩
  |int=>show⟨.list_int _ _ p a,.list_int _ _ p a⟩
  |str=>show⟨.list_str _ _ p a,.list_str _ _ p a⟩
  |tup l' k' c b=>show⟨.list_tuple p b a,.list_tuple p b a⟩
  |lst l' k' c b =>
   rename_i us _ _ ws _ _;by_cases o:us.length=ws.length
   .rw[show bI (.lst us) (.lst ws)=_ from fH o,l,<-hH];show⟨.lists p b (by simp;lia) a (go rfl k k'),.lists p b (by simp;lia) a (go rfl k k')⟩
   .rw[show bI (.lst us) (.lst ws)=cb from ji o];show⟨.lists_lengths p b (by simp;lia) a,.lists_lengths p b (by simp;lia) a⟩
def Fx:∀{n:Nat}{u w:U}{x a:dV}{A:Li},Iy s n u x->Iy s n w a->A.units+n<KA->Rv A s x a (bI u w):=by
 intro n;induction n with
 |zero=>intro u w x a A h h' b;show tD h (Sx (λm e=>by cases e) h h' b).1 λe=>by subst e;rw[h.inj h'];show h'.self
 |succ n c=>intro u w x a A h h' b;show tD h (Sx (λm e=>by cases e;show c) h h' b).1 λe=>by subst e;rw[h.inj h'];show h'.self
def DE(h:Iy s n u x)(h':Iy s n w a)(b:A.units+n<KA):YB A s x a (bI u w)/\ZF A s x a (!bI u w):=Sx (λm e=>by cases e;show Fx) h h' b
end
end TM
namespace TM
open PySem L2 PyProof.Rows
abbrev HH(C:Ct)(m:M (Kd×U)):TE:=λσ H Q=>∃c0:Cf,c0.σ=σ/\c0.H=H/\Ok C c0/\W m c0.st λr st'=>∀c v,c.σ=σ->c.st=st'->Ok C c->Nx c0 c->aF C c0 c r.1 r.2 v->Q v c.H
abbrev Jn(C:Ct)(m:M Bool):TT:=λσ H Q=>∃c0:Cf,c0.σ=σ/\c0.H=H/\Ok C c0/\W m c0.st λb st'=>∀c,c.σ=σ->c.st=st'->Ok C c->Nx c0 c->Q b c.H
def cA(C:Ct)(c0 c:Cf):List (Kd×U)->List V->Prop
 |[],vs=>vs=[]
 |r::rs,vs=>∃v t,vs=v::t/\fF C c0 c r.1 r.2 v/\cA C c0 c rs t/\(r.1=.own->∀(i:Nat) a v',rs[i]?=a5 a->t[i]?=a5 v'->a.1=.own->v'≠v)
abbrev Jj(C:Ct)(m:M (List (Kd×U))):TA:=λσ H Q=>∃c0:Cf,c0.σ=σ/\c0.H=H/\Ok C c0/\W m c0.st λrs st'=>∀c vs,c.σ=σ->c.st=st'->Ok C c->Nx c0 c->cA C c0 c rs vs->Q vs c.H
section
def PE.weak(h:PE X e t)(i:∀σ H Q,t' σ H Q->t σ H Q):PE X e t':=λa s σ H Q I q=>h a s σ H Q I (i σ H Q q)
def PT.weak(h:PT X e t)(i:∀σ H Q,t' σ H Q->t σ H Q):PT X e t':=λa s σ H Q I q=>h a s σ H Q I (i σ H Q q)
def bY{st:au}:W (av rs) st Q↔bo rs st/\Q () st:=by
 constructor
 .rintro⟨a,st',e,h⟩;unfold av at e;split at e
  .cases e;show⟨by assumption,h⟩
  .cases e
 .rintro⟨b,c⟩;show⟨(),st,by unfold av;rw[ê b],c⟩
def eL{st:au}:bo (r::rs) st↔bo [r] st/\bo rs st:=by
 have⟨k,u⟩:=r;cases k<;>simp[bo]
def fF.t(h:fF C c0 c k u v)(s:bo [(k,u)] c.st):aF C c0 c k u v:=by
 cases k with
 |bor j=>show⟨s.1,h⟩
 |_=>show h
structure Pk(C:Ct)(c0 c:Cf)(x y:Kd×U)(vx vy:V):Prop where
 hσ:c.σ=c0.σ
 ok:Ok C c
 nx:Nx c0 c
 rx:aF C c0 c x.1 x.2 vx
 ry:aF C c0 c y.1 y.2 vy
 ne:x.1=.own->y.1=.own->vy≠vx
def k_(h:fF C c0 b k u v)(h':fF C b c k' u' v'):k=.own->k'=.own->v'≠v:=by
 rintro rfl rfl e;obtain⟨r,e1,_,_,_,d⟩:=h;obtain⟨g,f,a,_⟩:=h';obtain⟨o,ho,_⟩:=d.some;subst e1;rw[f]at e;cases e;rw[ho]at a;cases a
def two{k:Kd×U->Kd×U->M β}{Post:β->au->Prop}{f:dV->dV->Sem α}{Q':dV->dV->α->gm->Prop}(G:PE X a (HH C J))(L:PE X b (HH C q))(I:Inv X d c0.σ c0.H s)(N:Ok C c0)
  (h:W (J >>= λx=>q >>= λy=>av [x,y] >>= λ_=>k x y) c0.st Post)
  (O:∀x y c g j v u s2,Pk C c0 c x y g j->Inv X d c.σ c.H s2->RelV g v->RelV j u->W (k x y) c.st Post->gs (i4 X.prog X.w) X.A (f v u) (Q' v u) X.xe s2) :
  gs (i4 X.prog X.w) X.A (uk a X.env) (λv Q=>gs (i4 X.prog X.w) X.A (uk b X.env) (λu T=>gs (i4 X.prog X.w) X.A (f v u) (Q' v u) X.xe T) X.xe Q) X.xe s:=by
 rw[af]at h;show HE (G d s c0.σ c0.H (λg r=>∃x e,e.H=r/\e.σ=c0.σ/\Ok C e/\Nx c0 e/\aF C c0 e x.1 x.2 g/\W (q >>= λy=>av [x,y] >>= λ_=>k x y) e.st Post) I ⟨c0,rfl,rfl,N,h.mono λx st1 n e g e1 Y o p r1=>⟨x,e,rfl,e1,o,p,r1,by rw[Y];show n⟩⟩) ?_;rintro v s1 ⟨g,r,I1,rv,x,e,rfl,e1,o,p,r1,n⟩;rw[af]at n;show HE (L d s1 c0.σ e.H (λj z=>∃y i,i.H=z/\Pk C c0 i x y g j/\W (k x y) i.st Post) I1 ⟨e,e1,rfl,o,n.mono λy st2 l i j B e4 Ib D r2=>?_⟩) ?_
 .rw[af,bY]at l;subst e4;rw[eL]at l;show⟨y,i,rfl,⟨B,Ib,p.trans D,(r1.w.on o D (B.trans e1.symm)).t l.1.1,(r2.from p),k_ r1.w r2.w⟩,l.2⟩
 .rintro u s2 ⟨j,z,I2,ru,y,i,rfl,m,l⟩;have hs:i.σ=c0.σ:=m.hσ;show O x y i g j v u s2 m (by rw[hs];show I2) rv ru l
structure Pl(C:Ct)(c0 c:Cf)(x:Kd×U)(vx:V):Prop where
 hσ:c.σ=c0.σ
 ok:Ok C c
 nx:Nx c0 c
 rx:aF C c0 c x.1 x.2 vx
abbrev cu(C:Ct)(c0:Cf)(Q:VK)(r:Kd×U)(st':au):Prop:=∀c v,c.σ=c0.σ->c.st=st'->Ok C c->Nx c0 c->aF C c0 c r.1 r.2 v->Q v c.H
section
def cu.flat(h:cu C c0 Q (.loc,u) c.st)(a:c.σ=c0.σ)(b:Ok C c)(n:Nx c0 c)(r:Rep C c.S c.H u v):Q v c.H:=h c v a rfl b n r
def cu.list(h:cu C c0 Q (.own,.lst us) c.st)(a:c.σ=c0.σ)(b:Ok C c)(n:Nx c0 c)(r:ar C c.S c.H us vs)(p:gi)(d:c.H p=b6):Q (.ref p) (upd c.H p (.lst vs)):=by
 have⟨e,f,g⟩:=b.newList n d r;show h {c with H:=upd c.H p (.lst vs)} _ a rfl e f g
def cu.tup(h:cu C c0 Q (.loc,.tup us) c.st)(a:c.σ=c0.σ)(b:Ok C c)(n:Nx c0 c)(r:ar C c.S c.H us vs)(p:gi)(d:c.H p=b6):Q (.ref p) (upd c.H p (.tup vs)):=by
 have⟨e,f,g⟩:=b.Dt n d r;show h {c with H:=upd c.H p (.tup vs)} _ a rfl e f g
def cu.tupK(h:cu C c0 Q (kE k,.tup us) c.st)(d:c.σ=c0.σ)(a:Ok C c)(n:Nx c0 c)(r:ar C (SK C c k) c.H us vs)(p:gi)(e:c.H p=b6):Q (.ref p) (upd c.H p (.tup vs)):=by
 have⟨f,b⟩:=a.lay (o:=.tup vs) e;show h {c with H:=upd c.H p (.tup vs)} _ d rfl f (n.trans b) (aF.item ?_);cases k<;>show⟨p,vs,rfl,Iq.of aq,by first|show r.mv (a.Mi b)|show r.mv (a.mv b)⟩
def di(h:iB k us=bD)(r:ar C (SK C c k) c.H us vs):ar C c.S c.H us vs:=by
 cases k with
 |any=>show r.HQ (by simpa[iB,isAny] using h)
 |_=>show r
end
def DF(k k':Kd):∀a,SK C c k a->SK C c (kT k k') a:=by
 intro a h;cases k<;>cases k'<;>first|show h|show .inr h
def AE(k k':Kd):∀a,SK C c k' a->SK C c (kT k k') a:=by
 intro a h;cases k<;>cases k'<;>first|show h|show .inr h
def Fy(k k':Kd):kE (kT k k')=kT k k':=by cases k<;>cases k'<;>rfl
def AF:JF X (O2 .Add) (λx y H Q=>∃l b xs c,x=.ref l/\y=.ref b/\Ip X.K H l xs/\Ip X.K H b c/\xs.length+c.length<=cK/\∀p,H p=b6->Q (.ref p) (upd H p (.lst (xs++c)))):=by
 intro f s σ H x y v u Q I m o h;have⟨l,b,xs,c,rfl,rfl,t,w,hz,q⟩:=h;cases m;cases o;have⟨d,r,pl,z⟩:=I.list t;have⟨e,r2,A,L⟩:=I.list w;have hl:=r.length;have Lp:=r2.length;obtain⟨⟨cls,dd,data,B⟩,ho,g,n,i⟩:=pl.isList;obtain⟨⟨N,C,data2,D⟩,j,k,G,a⟩:=A.isList;simp only at g i k a;subst g i k a;show Vu ⟨_,ho,rfl⟩ ⟨_,j,rfl⟩ noFill_list_add seq_list_add PySem.F.slot_list_add PySem.F.entry_list_add (PySem.F.args_list_add_2 _ _)
   (list_addW l b d.toArray e.toArray n G dd C B D (by rw[hH,hH];lia)) ⟨ho,j,?_⟩
 have J:d.toArray++e.toArray=(d++e).toArray:=by simp
 rw[J];show⟨.ref _,_,I.G7 (t':=s.toks) (r.append r2) (by rw[j0];lia),rfl,q _ I.fresh⟩
end
section
variable{X:Cx}{C:Ct}{pins:List (gi×Obj)}{s:gm}{c0 c:Cf}{Q:VK}
def xp:JF X (O2 .Add) (λx y H Q=>∃a b ys,x=.ref a/\y=.ref b/\Iq X.K H a []/\Iq X.K H b ys/\Q (.ref b) H):=by
 intro pins s σ H x y v u Q I j k h;have⟨a,b,ys,rfl,rfl,l,m,q⟩:=h;cases j;cases k;obtain⟨A,r1,o,_⟩:=I.tuple l;obtain⟨p,r2,p2,_⟩:=I.tuple m;cases r1;obtain⟨⟨cls,dd,data,r⟩,ho,e,n,f⟩:=id o;obtain⟨⟨B,t,data2,w⟩,g,i,z,d⟩:=id p2;simp only at e f i d;subst e f i d;show Vu ⟨_,ho,rfl⟩ ⟨_,g,rfl⟩ Wm Yy PySem.F.slot_tuple_add PySem.F.entry_tuple_add (PySem.F.args_tuple_add_2 _ _)
   (tuple_addW0 a b _ p.toArray n z dd t r w (by rfl)) ⟨ho,g,.ref b,H,I,rfl,q⟩
abbrev Qs.op:Qs->Zi
 |.add=>.Add|.sub=>.Sub|.mul=>.Mult|.Kc=>.FloorDiv|.mod=>.Mod|.pow=>.Pow
def eM(h:rB f a b=a5 r):∃i j o,a=.int i/\b=.int j/\f i j=a5 o/\r=(.loc,.int o):=by
 unfold rB at h;split at h
 .rw[hQ]at h;have⟨o,e,rfl⟩:=h;show⟨_,_,o,rfl,rfl,e,rfl⟩
 .cases h
def DG(Y:C.K=X.K)(t:Pk C c0 c x y g l)(I:Inv X pins c.σ c.H s)(z:RelV g v)(B:RelV l u)(h:JS op x y=a5 r)(q:cu C c0 Q r c.st):
  gs (i4 X.prog X.w) X.A (O2 op.op v u) (EP X pins c.σ Q) X.xe s:=by
 obtain⟨m,d,n,D,G,_⟩:=t;cases op with
 |add =>
  have h:uW x y=a5 r:=h;unfold uW at h;split at h
  .have ex:=D.int d;have e:=G.int d;cases h;show d5 pins s c.σ c.H g l v u Q I z B ⟨_,_,ex,e,q.flat m d n rfl⟩
  .have ex:=D.str d;have e:=G.str d;split at h
   .cases h;show qJ pins s c.σ c.H g l v u Q I z B ⟨_,_,ex,e,by assumption,q.flat m d n rfl⟩
   .cases h
  .have⟨a,vs,ex,O,J⟩:=D.list d;have⟨b,ws,e,T,L⟩:=G.list d;split at h
   .rename_i N;cases h;show AF pins s c.σ c.H g l v u Q I z B ⟨a,b,vs,ws,ex,e,Y▸O,Y▸T,by rw[<-J.len,<-L.len];show N.1,λp hp=>q.list m d n ((di N.2.1 J).append (di N.2.2 L)) p hp⟩
   .cases h
  .rename_i k xs k' ys _ _;have⟨a,vs,ex,O,J⟩:=D.tuple d;have⟨b,ws,e,T,L⟩:=G.tuple d;have KO:=O;have N8:=T;rw[Y]at KO N8;split at h
   .rename_i N;cases h;have m1:ar C (SK C c (kT k k')) c.H xs vs:=J.mv (.up (DF k k'));have m2:ar C (SK C c (kT k k')) c.H ys ws:=L.mv (.up (AE k k'));have q':cu C c0 Q (kE (kT k k'),.tup (xs++ys)) c.st:=by rw[Fy];show q
    by_cases e1:vs=[]
    .subst e1;show xp pins s c.σ c.H g l v u Q I z B ⟨a,b,ws,ex,e,KO,N8,?_⟩;show q' c (.ref b) m rfl d n (aF.item ⟨b,ws,rfl,T,?_⟩);have:xs=[]:=by have:=m1.len;simpa using this
     rw[this];show m2
    .show z_ pins s c.σ c.H g l v u Q I z B ⟨a,b,vs,ws,ex,e,KO,N8,e1,by rw[<-J.len,<-L.len];show N,λe2=>?_,λ_ p hp=>q'.tupK m d n (m1.append m2) p hp⟩;subst e2;show q' c (.ref a) m rfl d n (aF.item ⟨a,vs,rfl,O,?_⟩);have:ys=[]:=by have:=m2.len;simpa using this
     rw[this,sx];show m1
   .cases h
  .cases h
 |sub =>
  have⟨i,j,o,ex,e,f,rfl⟩:=eM h;have ex:=(ex▸D).int d;have e:=(e▸G).int d;cases f;show kr pins s c.σ c.H g l v u Q I z B ⟨_,_,ex,e,q.flat m d n rfl⟩
 |mul =>
  have⟨i,j,o,ex,e,f,rfl⟩:=eM h;have ex:=(ex▸D).int d;have e:=(e▸G).int d;unfold Ar at f;split at f
  .cases f;show nF pins s c.σ c.H g l v u Q I z B ⟨_,_,ex,e,by assumption,q.flat m d n rfl⟩
  .cases f
 |Kc =>
  have⟨i,j,o,ex,e,f,rfl⟩:=eM h;have ex:=(ex▸D).int d;have e:=(e▸G).int d;unfold As at f;split at f
  .cases f;show zU pins s c.σ c.H g l v u Q I z B ⟨_,_,ex,e,by assumption,q.flat m d n rfl⟩
  .cases f
 |mod =>
  have⟨i,j,o,ex,e,f,rfl⟩:=eM h;have ex:=(ex▸D).int d;have e:=(e▸G).int d;unfold Au at f;split at f
  .cases f;show bM pins s c.σ c.H g l v u Q I z B ⟨_,_,ex,e,by assumption,q.flat m d n rfl⟩
  .cases f
 |pow =>
  have⟨i,j,o,ex,e,f,rfl⟩:=eM h;have ex:=(ex▸D).int d;have e:=(e▸G).int d;unfold Av at f;split at f
  .cases f;show nG pins s c.σ c.H g l v u Q I z B ⟨_,_,ex,e,by assumption,q.flat m d n rfl⟩
  .cases f
def AG(d:C.K=X.K)(f:PE X a (HH C g))(i:PE X b (HH C j)):PE X (.BinOp a op.op b pos) (HH C (g >>= λx=>j >>= λy=>av [x,y] >>= λ_=>M.H9 (JS op x y))):=by
 rintro pins s σ H Q I ⟨c0,rfl,rfl,k,h⟩;show wpAny_BinOp (two f i I k h λx y c o p v u s2 t l m n w=>?_);have⟨r,e,q⟩:=cS.mp w;show HE (DG d t l m n e q) λ_ _ z=>by rw[t.hσ]at z;show z
abbrev Pf.op:Pf->CmpOp
 |.eq=>.Eq|.ne=>.NotEq|.lt=>.Lt|.le=>.LtE|.gt=>.Gt|.ge=>.GtE|.isin=>.In|.HC=>.NotIn|.is=>.Is|.Sv=>.IsNot
def Fz{neg:Bool}(I:Inv X pins c.σ c.H s)(i:C.K=X.K)(J:X.A.units+60<KA){S:gi->Prop}(n:Rep C S c.H x m)(o:RelV m v)(r:ar C S c.H ys vs)
  (ha:Ip C.K c.H a vs\/Iq C.K c.H a vs) (e1:Ia 50 x=bD) (t:b_ 50 ys=bD) {Q:dV->gm->Prop} (q:Q (.bool (if neg then !(ys.any λy=>bI y x) else ys.any λy=>bI y x)) s) :
  gs (i4 X.prog X.w) X.A (NG (if neg then .NotIn else .In) v (.ref a)) Q X.xe s:=by
 have u:=Iy.of I i 50 x m v e1 n o;have go:∀d:List dV,Vals vs d->∃e:dV->Bool,(∀y,y∈d.toArray->Rv X.A.in1 s y v (e y))/\d.toArray.any e=ys.any λy=>bI y x:=by
  intro d rv;obtain⟨l,k,_⟩:=Iy.u6 (Iy.of I i 50) t r rv
  classical
  have q:∀j (b:j<d.length),cL (∃w,Iy s 50 w d[j]/\bI w x=bD)=bI (ys.getD j .HD) x:=λj b=>by
   rw[J7,decide_eq_true_iff];show⟨λ⟨w,f,g⟩=>by rw[<-f.inj (k j b)];show g,λh=>⟨_,k j b,h⟩⟩
  show⟨λy=>cL (∃w,Iy s 50 w y/\bI w x=bD),λy z=>?_,?_⟩
  .have⟨j,b,e⟩:=QW (show y∈d by simpa using z);subst e;change Rv _ _ _ _ (decide _);rw[q j b];show Fx (k j b) u (by change X.A.units+1+50 < _;lia)
  .rw[J7];simp only[List.any_toArray,Qe];constructor
   .rintro⟨y,B,h⟩;have⟨j,b,rfl⟩:=QW B;rw[q j b]at h;show⟨_,K7 (l▸b),by simpa[l▸b] using h⟩
   .rintro⟨w,D,G⟩;have⟨j,b,rfl⟩:=QW D;show⟨_,K7 (l▸b),by rw[q j (l▸b)];simpa[b] using G⟩
 rcases ha with ha|ha
 .obtain⟨d,rv,p,_⟩:=tw I (i▸ha);have⟨e,f,g⟩:=go d rv;cases neg with
  |false=>show SeqAt.in_listAt e p f (by rw[g];show q)
  |true=>show SeqAt.notIn_listAt e p f (by rw[g];show q)
 .rw[i]at ha;obtain⟨d,rv,p,_⟩:=I.tuple ha;have⟨e,f,g⟩:=go d rv;cases neg with
  |false=>show SeqAt.in_tupleAt e p f (by rw[g];show q)
  |true=>show SeqAt.notIn_tupleAt e p f (by rw[g];show q)
end
section
theorem cM:∀{us:List U}{ss:List Str},strsOf us=a5 ss->us=ss.map .str
 |[],ss,h=>by cases h;rfl
 |.str x::us,ss,h=>by
  simp only[strsOf,hQ]at h;have⟨t,a,rfl⟩:=h;rw[cM a];rfl
 |.HD::_,_,h=>by cases h
 |.bl _::_,_,h=>by cases h
 |.int _::_,_,h=>by cases h
 |.tup _::_,_,h=>by cases h
 |.lst _::_,_,h=>by cases h
 |.Hz _ _::_,_,h=>by cases h
theorem jJ:∀{us:List U}{ns:List Int},intsOf us=a5 ns->us=ns.map .int
 |[],ns,h=>by cases h;rfl
 |u::us,ns,h=>by
  cases u<;>first|(cases h;done)|skip
  rename_i x;have h':(intsOf us).map (x::·)=a5 ns:=h;rw[hQ]at h';have⟨ms,e,rfl⟩:=h';rw[jJ e];rfl
theorem ar.ints{S:gi->Prop}:∀{ns:List Int}{vs:List V},ar C S H (ns.map .int) vs->vs=ns.map V.int
 |[],vs,h=>h
 |n::ns,vs,h=>by
  have⟨v,r,rfl,a,b⟩:=h;rw[ar.ints b];have:v=.int n:=a;rw[this];rfl
theorem la:∀{us:List U}{ss:List Bool},kY us=a5 ss->us=ss.map .bl
 |[],ss,h=>by cases h;rfl
 |.bl x::us,ss,h=>by
  simp only[kY,hQ]at h;have⟨t,a,rfl⟩:=h;rw[la a];rfl
 |.HD::_,_,h=>by cases h
 |.str _::_,_,h=>by cases h
 |.int _::_,_,h=>by cases h
 |.tup _::_,_,h=>by cases h
 |.lst _::_,_,h=>by cases h
 |.Hz _ _::_,_,h=>by cases h
theorem ar.Uy{S:gi->Prop}:∀{xs:List Bool}{vs:List V},ar C S H (xs.map .bl) vs->vs=xs.map V.bl
 |[],vs,h=>h
 |x::xs,vs,h=>by
  have⟨v,r,rfl,a,b⟩:=h;rw[ar.Uy b];have:v=.bl x:=a;rw[this];rfl
abbrev DH(X:Cx)(a:List (gi×Obj))(c:Cf)(b:Bool)(v:dV)(s':gm):Prop:=v=.bool b/\Inv X a c.σ c.H s'
def iH(o:JF X f r)(I:Inv X a c.σ c.H s)(g:RelV d v)(i:RelV e u)(h:r d e c.H λx H'=>x=.bl b/\H'=c.H):
  gs (i4 X.prog X.w) X.A (f v u) (DH X a c b) X.xe s :=
 HE (o a s c.σ c.H d e v u _ I g i h) λw s' j=>by
  have⟨z,H',k,r,e1,l⟩:=j;subst e1 l;show⟨r,k⟩
def aF.dict(g:Ok C c)(h:aF C c0 c k (.Hz ks us) v):∃a kvs,v=.ref a/\c.H a=a5 (.dK kvs)/\kvs.map (·.1)=ks.map ox/\ar C (SK C c k) c.H us (kvs.map (·.2)):=by
 cases k with
 |own=>obtain⟨r,e,_,_,_,kvs,b,d,f⟩:=h;show⟨r,kvs,e,b,d,f⟩
 |bor j=>obtain⟨r,e,_,_,_,kvs,b,d,f⟩:=g.rootOf h.1 h.2;show⟨r,kvs,e,b,d,f⟩
 |io=>show h.elim
 |A'=>show h.elim
 |_=>obtain⟨a,e,_,kvs,b,d,f⟩:=h;show⟨a,kvs,e,b,d,f⟩
theorem dM{S:gi->Prop}:∀{ks:List Str}{us:List U}{kvs:List (Key×V)},kvs.map (·.1)=ks.map ox->ar C S H us (kvs.map (·.2)) ->
  (∀u,dP ks us x=a5 u->∃v,dE kvs (ox x)=a5 v/\Rep C S H u v)/\(dE kvs (ox x)).isSome=cL (x∈ks)
 |[],us,kvs,a,b=>by
  have:kvs=[]:=by simpa using a
  subst this;show⟨λu h=>by cases us<;>simp[dP]at h,by simp[dE]⟩
 |k::ks,us,[],a,b=>by simp at a
 |k::ks,[],p::kvs,a,b=>by simp[ar]at b
 |k::ks,u0::us,p::kvs,a,b=>by
  have⟨v,r,e,d,f⟩:=b;rw[g8]at e;cases e;rw[g8,g8,P8]at a;have⟨g,i⟩:=dM (x:=x) a.2 f;by_cases hk:k=x
  .subst hk;show⟨λu h=>?_,?_⟩
   .simp[dP]at h;subst h;show⟨p.2,eC a.1,d⟩
   .rw[eC a.1];simp
  .have c:¬p.1=ox x:=by rw[a.1];intro z;show hk (To z)
   show⟨λu h=>?_,?_⟩
   .simp[dP,hk]at h;have⟨v,e,q⟩:=g u h;show⟨v,by rw[eD c];show e,q⟩
   .rw[eD c,i];simp[ri hk]
def xq(hP:C.P=X.prog)(hw:C.w=X.w)(o:C.K=X.K)(L:X.A.units+60<KA)(t:Pk C c0 c x y D N)(I:Inv X i c.σ c.H s)(e:RelV D v)(g:RelV N u)(h:bu op x.2 y.2=a5 b):
  gs (i4 X.prog X.w) X.A (NG op.op v u) (DH X i c b) X.xe s:=by
 obtain⟨hσ,d,n,m,j,_⟩:=t;have⟨kx,Q⟩:=x;have⟨ky,T⟩:=y
 dsimp only at h m j
 have q:∀neg:Bool,∀p,Aw Q T=a5 p->gs (i4 X.prog X.w) X.A (NG (if neg then .NotIn else .In) v u) (DH X i c (if neg then !p else p)) X.xe s:=by
  intro neg p h;have B:=m.read d;have G:=j.read d;unfold Aw at h;split at h
  .have⟨a,vs,rfl,l,r⟩:=G;cases g;unfold Nr at h;split at h
   .rename_i f;cases h;show Fz I o L B e r (.inl l.sq) f.1 f.2 ⟨by cases neg<;>rfl,I⟩
   .cases h
  .have⟨a,vs,rfl,l,r⟩:=G;cases g;unfold Nr at h;split at h
   .rename_i f;cases h;show Fz I o L B e r (.inr l) f.1 f.2 ⟨by cases neg<;>rfl,I⟩
   .cases h
  .cases h;have ex:D=_:=B;have O:N=_:=G;cases neg with
   |false=>show iH uE I e g ⟨_,_,ex,O,rfl,rfl⟩
   |true=>show iH nQ I e g ⟨_,_,ex,O,rfl,rfl⟩
  .cases h;have ex:D=_:=B;have⟨a,kvs,rfl,l,r,Y⟩:=j.dict d;cases g;subst ex;have hs:=λz:Str=>(dM (x:=z) r Y).2;cases neg with
   |false=>show Fs ⋯ I (d8.k (k:=ox _) l) e λs' J=>⟨by rw[hs];rfl,J⟩
   |true=>show sO ⋯ I (d8.k (k:=ox _) l) e λs' J=>⟨by rw[hs];rfl,J⟩
  .cases h
 unfold bu at h;split at h
 .split at h
  .rename_i f;cases h;show(DE (n:=50) (.of I o _ _ _ _ f.1 (m.read d) e) (.of I o _ _ _ _ f.2 (j.read d) g) ⋯).1 _ _ _ _ ⟨rfl,I⟩
  .cases h
 .split at h
  .rename_i f;cases h;show(DE (n:=50) (.of I o _ _ _ _ f.1 (m.read d) e) (.of I o _ _ _ _ f.2 (j.read d) g) ⋯).2 _ _ _ _ ⟨rfl,I⟩
  .cases h
 .cases h;show iH E9 I e g ⟨_,_,m.int d,j.int d,rfl,rfl⟩
 .cases h;show iH E_ I e g ⟨_,_,m.int d,j.int d,rfl,rfl⟩
 .cases h;show iH Fb I e g ⟨_,_,m.int d,j.int d,rfl,rfl⟩
 .show q cb b h
 .rw[hQ]at h;have⟨p,l,rfl⟩:=h;show q bD p l
 .cases h
def AH(f:C.P=X.prog)(g:C.w=X.w)(i:C.K=X.K)(j:X.A.units+60<KA)(k:PE X a (HH C l))(m:PE X b (HH C n))(o:NP op.op b=cb):
  PE X (.Compare a [op.op] [b] pos) (HH C (l >>= λx=>n >>= λy=>av [x,y] >>= λ_=>M.H9 (bu op x.2 y.2) >>= λc=>pure (.loc,.bl c))):=by
 rintro d s σ H Q I ⟨c0,rfl,rfl,p,h⟩;show Õ (two k m I p h λx y c N O v u s2 t B D G w=>?_) o;rw[af]at w;have⟨r,e,q⟩:=cS.mp w;rw[ao]at q;show HE (xq f g i j t B D G e) λz s' J=>?_;have⟨e,L⟩:=J;subst e;show⟨.bl r,c.H,by rw[<-t.hσ];show L,rfl,q c (.bl r) t.hσ rfl t.ok t.nx rfl⟩
def AI(g:C.P=X.prog)(i:C.w=X.w)(j:C.K=X.K)(k:X.A.units+60<KA)(l:PE X a (HH C m))(n:PE X b (HH C o))(p:NP op.op b=cb):
  PT X (.Compare a [op.op] [b] pos) (Jn C (m >>= λx=>o >>= λy=>av [x,y] >>= λ_=>M.H9 (bu op x.2 y.2))):=by
 rintro d s σ H Q I ⟨c0,rfl,rfl,B,h⟩;show SA (two (f:=λv u=>NG op.op v u) (Q':=λ_ _ c s=>gs (i4 X.prog X.w) X.A (Ö c) (TP X d c0.σ Q) X.xe s) l n I B h λx y c O T v u s2 t D G J w=>?_) p;have⟨r,e,q⟩:=cS.mp w;show HE (xq g i j k t D G J e) λz s' L=>?_;have⟨e,N⟩:=L;subst e;show Jx ⟨c.H,by rw[<-t.hσ];show N,q c t.hσ rfl t.ok t.nx⟩
end
section
abbrev FA(C:Ct)(c0:Cf)(Q:Bool->Hp->Prop)(b:Bool)(st':au):Prop:=∀c,c.σ=c0.σ->c.st=st'->Ok C c->Nx c0 c->Q b c.H
def xr(b:a.σ=c0.σ)(c:Ok C a)(n:Nx c0 a)(h:W m a.st (cu C c0 Q)):HH C m c0.σ a.H Q :=
 ⟨a,b,rfl,c,h.mono λr st d e v f g i j r2=>d e v f g i (n.trans j) (r2.from n)⟩
def xu(b:a.σ=c0.σ)(c:Ok C a)(n:Nx c0 a)(h:W m a.st (FA C c0 Q)):Jn C m c0.σ a.H Q :=
 ⟨a,b,rfl,c,h.mono λr st d e f g i j=>d e f g i (n.trans j)⟩
def aB(a:Ok C c0)(h:W (b >>= k) c0.st Post)
  (hz:∀x c v,Pl C c0 c x v->W (k x) c.st Post->Z v c.H):HH C b c0.σ c0.H Z:=by
 rw[af]at h;show⟨c0,rfl,rfl,a,h.mono λx st1 d e f e1 g i j r1=>hz x e f ⟨e1,i,j,r1⟩ (by rw[g];show d)⟩
def fI(a:Ok C c0)(h:W (d >>= k) c0.st Post)
  (hz:∀b c,c.σ=c0.σ->Ok C c->Nx c0 c->W (k b) c.st Post->Z b c.H):Jn C d c0.σ c0.H Z:=by
 rw[af]at h;show⟨c0,rfl,rfl,a,h.mono λx st1 e f e1 g i j=>hz x f e1 i j (by rw[g];show e)⟩
abbrev FC(m:M (Kd×U))(x:Kd×U):M (Kd×U):=match x.2 with
 |.bl bD=>m
 |.bl cb=>pure (.loc,.bl cb)
 |_=>M.fail
abbrev Uz(m:M (Kd×U))(x:Kd×U):M (Kd×U):=match x.2 with
 |.bl bD=>pure (.loc,.bl bD)
 |.bl cb=>m
 |_=>M.fail
abbrev FD(x:Kd×U):M (Kd×U):=match x.2 with
 |.bl c=>pure (.loc,.bl !c)
 |_=>M.fail
def snd_and(i:PE X a (HH C j))(l:PE X (.BoolOp .And (b::d) pos) (HH C m)):PE X (.BoolOp .And (a::b::d) pos) (HH C (j >>= FC m)):=by
 show PE.weak (CH i l) ?_;rintro σ H Q ⟨c0,rfl,rfl,o,h⟩;show aB o h λx c v t w=>?_;have⟨k,u⟩:=x;have⟨g,f,n,r⟩:=t;unfold FC at w;split at w
 .rename_i e
  dsimp only at e r
  subst e;show⟨bD,r.bl f,by rw[ê rfl];show xr g f n w⟩
 .rename_i e
  dsimp only at e r
  subst e;rw[ao]at w;show⟨cb,r.bl f,by rw[ë ko];show w c (.bl cb) g rfl f n rfl⟩
 .show(a9.mp w).elim
def DI(i:PE X a (HH C j))(l:PE X (.BoolOp .Or (b::d) pos) (HH C m)):PE X (.BoolOp .Or (a::b::d) pos) (HH C (j >>= Uz m)):=by
 show PE.weak (EW i l) ?_;rintro σ H Q ⟨c0,rfl,rfl,o,h⟩;show aB o h λx c v t w=>?_;have⟨k,u⟩:=x;have⟨g,f,n,r⟩:=t;unfold Uz at w;split at w
 .rename_i e
  dsimp only at e r
  subst e;rw[ao]at w;show⟨bD,r.bl f,by rw[ê rfl];show w c (.bl bD) g rfl f n rfl⟩
 .rename_i e
  dsimp only at e r
  subst e;show⟨cb,r.bl f,by rw[ë ko];show xr g f n w⟩
 .show(a9.mp w).elim
def AJ(d:PE X a (HH C f)):PE X (.UnaryOp .Not a pos) (HH C (f >>= FD)):=by
 show PE.weak (CI d) ?_;rintro σ H Q ⟨c0,rfl,rfl,g,h⟩;show aB g h λx c v t w=>?_;have⟨k,u⟩:=x;have⟨i,b,n,r⟩:=t;unfold FD at w;split at w
 .rename_i e
  dsimp only at e r
  subst e;rw[ao]at w;show⟨_,r.bl b,w c (.bl _) i rfl b n rfl⟩
 .show(a9.mp w).elim
def AK(d:PE X a (HH C f)):PE X (.UnaryOp .USub a pos) (HH C (f >>= λx=>M.H9 (AD x))):=by
 show PE.weak (E7 CV d) ?_;rintro σ H Q ⟨c0,rfl,rfl,g,h⟩;show aB g h λx c v t w=>?_;have⟨k,u⟩:=x;have⟨i,b,n,r⟩:=t;have⟨j,e,w⟩:=cS.mp w;unfold AD at e;split at e
 .rename_i q;cases q;cases e;show⟨_,r.int b,w c (.int _) i rfl b n rfl⟩
 .cases e
def AL(d:PT X a (Jn C e)):PT X (.UnaryOp .Not a pos) (Jn C (e >>= λb=>pure !b)):=by
 show PT.weak (CG d) ?_;rintro σ H Q ⟨c0,rfl,rfl,f,h⟩;show fI f h λp c g i n w=>?_;rw[ao]at w;show w c g rfl i n
def AM(i:PT X a (Jn C j))(k:PW X (.BoolOp .And (b::d) pos) (Jn C tb)):PW X (.BoolOp .And (a::b::d) pos) (Jn C (j >>= λp=>if p=bD then tb else pure cb)):=by
 have l:=CF i k;rintro m e s σ H Q I ⟨c0,rfl,rfl,o,h⟩;show l m e s c0.σ c0.H Q I (fI o h λp c f g n w=>?_);cases p with
 |true=>rw[ê rfl]at w ⊢;show xu f g n w
 |false=>rw[ë ko]at w ⊢;rw[ao]at w;show w c f rfl g n
def DJ(i:PT X a (Jn C j))(k:PW X (.BoolOp .Or (b::d) pos) (Jn C tb)):PW X (.BoolOp .Or (a::b::d) pos) (Jn C (j >>= λp=>if p=bD then pure bD else tb)):=by
 have l:=ET i k;rintro m e s σ H Q I ⟨c0,rfl,rfl,o,h⟩;show l m e s c0.σ c0.H Q I (fI o h λp c f g n w=>?_);cases p with
 |true=>rw[ê rfl]at w ⊢;rw[ao]at w;show w c f rfl g n
 |false=>rw[ë ko]at w ⊢;show xu f g n w
def tE{us:List α}{vs:List β}(h:us.length=vs.length):(!us.isEmpty)=!vs.isEmpty:=by
 cases us<;>cases vs<;>simp_all
def iI(j:PE X a (HH C l))(i:C.K=X.K)(m:∀b,isTrue a X.env b=(do let v <-b;Rz a.pos;Kw [v] (Ö v))):PT X a (Jn C (l >>= λx=>M.H9 (pS x.2))):=by
 show PT.weak (wc j m) ?_;rintro σ H Q ⟨c0,rfl,rfl,o,h⟩;show aB o h λx c v t w=>?_;have⟨k,u⟩:=x;have⟨s,d,n,r⟩:=t;have⟨p,e,q⟩:=cS.mp w
 dsimp only at e r
 show⟨p,?_,q c s rfl d n⟩;unfold pS at e;split at e
 .cases e;rw[r.bl d];rfl
 .cases e;have⟨a,vs,rfl,f,g⟩:=r.list d;show .inl ⟨vs,i▸f,tE g.len⟩
 .cases e;have⟨a,vs,rfl,f,g⟩:=r.tuple d;rw[i]at f;show .inr (.inl ⟨vs,f,tE g.len⟩)
 .split at e
  .cases e;rw[r.str d];show⟨by assumption,rfl⟩
  .cases e
 .cases e
end
section
def cA.from(n:Nx c0 a):cA C a c rs vs->cA C c0 c rs vs:=by
 intro h;induction rs generalizing vs with
 |nil=>show h
 |cons r rs b=>have⟨v,t,e,d,f,g⟩:=h;show⟨v,t,e,d.from n,b f,g⟩
def cA.get{i:Nat}(h:cA C c0 c rs vs)(e:rs[i]?=a5 r)(a:vs[i]?=a5 v):fF C c0 c r.1 r.2 v:=by
 induction rs generalizing vs i with
 |nil=>simp at e
 |cons g rs b =>
  have⟨v',t,rfl,d,f,j⟩:=h;cases i with
  |zero=>simp at e a;subst e a;show d
  |succ i=>show b f (by simpa using e) (by simpa using a)
def AN:PA X [] (Jj C (pure [])):=by
 rintro pos a s σ H Q I ⟨c0,rfl,rfl,b,h⟩;rw[ao]at h;show d7 pos a s c0.σ c0.H Q I (h c0 [] rfl rfl b (Nx.refl c0) rfl)
def xv(f:PE X e (HH C m))(g:PA X es (Jj C ms))(hs:i7 (e::es) X.env=(cb,uk e X.env)::i7 es X.env):PA X (e::es) (Jj C (m >>= λr=>ms >>= λrs=>pure (r::rs))):=by
 rintro pos a s σ H Q I ⟨c0,rfl,rfl,j,h⟩;show dC f g hs pos a s c0.σ c0.H Q I (aB j h λr k v t w=>?_);rw[af]at w;show⟨k,t.hσ,rfl,t.ok,w.mono λrs st2 b l vs c n o d r2=>?_⟩;rw[ao]at b;show b l (v::vs) c n o (t.nx.trans d) ⟨v,vs,rfl,t.rx.w.on t.ok d (c.trans t.hσ.symm),r2.from t.nx,λhk i x v' p q u=>?_⟩;show k_ t.rx.w (r2.get p q) hk u
structure Jc(C:Ct)(c0 c:Cf)(rs:List (Kd×U))(vs:List V):Prop where
 hσ:c.σ=c0.σ
 ok:Ok C c
 nx:Nx c0 c
 rep:cA C c0 c rs vs
 Ms:bo rs c.st
def args{k:List (Kd×U)->M β}{Post:β->au->Prop}(f:PA X es (Jj C ms))(I:Inv X a c0.σ c0.H s)(g:Ok C c0)(h:W (ms >>= λrs=>av rs >>= λ_=>k rs) c0.st Post)(pos:Pos):
  gs (i4 X.prog X.w) X.A (YQ (wh pos (i7 es X.env))) (λus s1=>∃rs c vs,Jc C c0 c rs vs/\Inv X a c.σ c.H s1/\Vals vs us/\W (k rs) c.st Post) X.xe s:=by
 rw[af]at h;show HE (f pos a s c0.σ c0.H (λvs e=>∃rs c,c.H=e/\Jc C c0 c rs vs/\W (k rs) c.st Post) I ⟨c0,rfl,rfl,g,h.mono λrs st1 b d vs e1 i j l r1=>?_⟩) ?_
 .rw[af,bY]at b;subst i;show⟨rs,d,rfl,⟨e1,j,l,r1,b.1⟩,b.2⟩
 .rintro us s1 ⟨vs,e,m,rv,rs,d,rfl,t,w⟩;show⟨rs,d,vs,t,by rw[t.hσ];show m,rv,w⟩
def Jc.one(t:Jc C c0 c [r] vs):∃v,vs=[v]/\aF C c0 c r.1 r.2 v:=by
 obtain⟨v,t',rfl,a,b,_⟩:=t.rep;cases b;show⟨v,rfl,a.t t.Ms⟩
def Jc.two(t:Jc C c0 c [r,a] vs):∃v v',vs=[v,v']/\aF C c0 c r.1 r.2 v/\aF C c0 c a.1 a.2 v':=by
 obtain⟨v,t',rfl,b,⟨v',f,rfl,d,e,_⟩,_⟩:=t.rep;cases e;have hs:=eL.mp t.Ms;show⟨v,v',rfl,b.t hs.1,d.t hs.2⟩
def Ok.share(b:Ok C c)(g:C.H₀ r=b6)(h:∃o,c.H r=a5 o)(hl:st'.length=c.st.length)
  (d:∀(i:Nat) k u,st'[i]?=a5 (a5 (k,u))->(∃v,c.σ[i]?=a5 (a5 v)/\fE C (λa=>c.S a\/a=r) c.H k u v)/\(k.root=bD->c.st[i]?=a5 (a5 (k,u)))) (l:K8 C {c with S:=λa=>c.S a\/a=r,st:=st' }) :
  Ok C {c with S:=λa=>c.S a\/a=r,st:=st' }:=by
 show⟨b.same,λa z=>?_,b.par,b.io,by rw[show({c with S:=λa=>c.S a\/a=r,st:=st' }:Cf).st.length=st'.length from rfl,hl];show b.len,λi k u e=>(d i k u e).1,λi j k k' u u' m hk f e1 n p q=>?_,l⟩
 .rcases z with z|rfl
  .show b.JC a z
  .show⟨g,h⟩
 .show b.inj i j k k' u u' m hk f ((d i k u e1).2 hk) ((d j k' u' n).2 f) p q
def Ok.DK(m:Ok C c0)(b:Ok C c)(n:Nx c0 c)(d:c0.H r=b6)(f:¬c.R r)(p:cH C c.S c.H r u):
  Ok C {c with S:=λa=>c.S a\/a=r}/\Nx c0 {c with S:=λa=>c.S a\/a=r}:=by
 obtain⟨o,ho,_⟩:=p.some;show⟨b.share (st':=c.st) (m.fw d).1 ⟨o,ho⟩ rfl (λi k u e=>⟨?_,λ_=>e⟩) (b.dd.hs (.up λa=>.inl) λj a z=>⟨λq=>q.elim (b.root (.inr ⟨j,z⟩)).1 λe=>f (.inr ⟨j,e▸z⟩),λo q=>q⟩),⟨⟨n.keep,n.there,n.roots,λa z=>.inl (n.sub a z),λa z=>?_⟩⟩⟩
 .have⟨v,e1,g⟩:=b.sl i k u e;have s:Mv c.S c.H (λa=>c.S a\/a=r) c.H:=.up λa=>.inl;show⟨v,e1,g.mv s (.up λa z=>z.imp id .inl) λhk w h=>⟨?_,λo q=>q⟩⟩;obtain⟨x,l,t,_⟩:=g.rt hk;rw[h]at l;cases l;rintro(z|rfl)
  .show t z
  .show f (.inl ⟨i,k,u,hk,e,by rw[e1,h]⟩)
 .rcases z with z|rfl
  .show n.new a z
  .show .inr (.inr d)
def Ok.xx(d:Ok C c)(n:Nx c0 c)(f:c.st[j]?=a5 (a5 (.own,u)))(g:c.σ[j]?=a5 (a5 (.ref r))):
  Ok C {c with S:=λa=>c.S a\/a=r,st:=c.st.set j (a5 (.loc,u))}/\Nx c0 {c with S:=λa=>c.S a\/a=r,st:=c.st.set j (a5 (.loc,u))}/\Rep C (λa=>c.S a\/a=r) c.H u (.ref r):=by
 have⟨v',e1,h,l,Q,T,B,w⟩:=d.sl j _ _ f;rw[g]at e1;cases e1;cases l;have x:Rep C (λa=>c.S a\/a=r) c.H u (.ref r):=w.rep (λa=>.inl) (.inr rfl);obtain⟨o,ho,_⟩:=w.some;have p:j<c.st.length:=(dt.mp f).1;have s:∀(i:Nat) k u',(c.st.set j (a5 (.loc,u)))[i]?=a5 (a5 (k,u'))->i≠j->c.st[i]?=a5 (a5 (k,u')):=λi k u' e D=>by rw[hY (ri D)]at e;show e
 have G:c.R1 r:=⟨j,.own,u,rfl,f,g⟩
 have y:∀(i:Nat) (u':U),(c.st.set j (a5 (.loc,u)))[i]?=a5 (a5 (.A',u'))->c.st[i]?=a5 (a5 (.A',u')):=λi u' e=>by
  by_cases b:i=j
  .subst b;rw[ez p]at e;cases e
  .show s i .A' u' e b
 have b1:∀a,({c with S:=λa=>c.S a\/a=r,st:=c.st.set j (a5 (.loc,u))}:Cf).R1 a->c.R1 a:=λa I=>by
  have⟨i,k,u',hk,e,J⟩:=I;by_cases b:i=j
  .subst b;rw[ez p]at e;cases e;cases hk
  .show⟨i,k,u',hk,s i k u' e b,J⟩
 have L:K8 C {c with S:=λa=>c.S a\/a=r,st:=c.st.set j (a5 (.loc,u))}:=d.dd.of rfl (λi u' e=>⟨y i u' e,rfl⟩) (λa z=>.inl (b1 a z)) (.up λa=>.inl) λi a z=>⟨λq=>q.elim (d.root (.inr ⟨i,z⟩)).1 λe=>d.dd.d1 i a z (e▸G),λo q=>q⟩
 show⟨d.share (st':=c.st.set j (a5 (.loc,u))) B ⟨o,ho⟩ (by simp) (λi k u' e=>?_) L,⟨⟨n.keep,n.there,λa z=>?_,λa z=>.inl (n.sub a z),λa z=>?_⟩⟩,x⟩
 .by_cases b:i=j
  .subst b;rw[ez p]at e;cases e;show⟨⟨.ref r,g,x⟩,λz=>nomatch z⟩
  .have t:=s i k u' e b;have⟨v,e1,m⟩:=d.sl i k u' t;show⟨⟨v,e1,m.mv (.up λa=>.inl) (.up λa z=>z.imp id .inl) λhk h l=>⟨?_,λo q=>q⟩⟩,λ_=>t⟩;obtain⟨Y,A,N,_⟩:=m.rt hk;rw[l]at A;cases A;rintro(z|rfl)
   .show N z
   .show b (d.inj i j k .own u' u h hk rfl t f (by rw[e1,l]) g)
 .rcases z with z|⟨i,u',h,e1,m,O⟩
  .show n.roots a (.inl (b1 a z))
  .show n.roots a (.inr ⟨i,u',h,y i u' e1,m,O⟩)
 .rcases z with z|rfl
  .show n.new a z
  .rcases n.roots a (.inl ⟨j,.own,u,rfl,f,g⟩) with z|z
   .show .inr (.inl z)
   .show .inr (.inr z)
def f9(y:Ok C c0)(b:Ok C c)(n:Nx c0 c)(d:fF C c0 c r.1 r.2 v)(h:W (lift r) c.st Post):
  ∃(S':gi->Prop) (st':au) (u:U),(∀a,c.S a->S' a)/\Ok C {c with S:=S',st:=st' }/\Nx c0 {c with S:=S',st:=st' }/\Rep C S' c.H u v/\Post u st' /\
   (∀a,S' a->c.S a\/v=.ref a/\(r.1=.own\/c.R a))/\∀a,({c with S:=S',st:=st' }:Cf).R a->c.R a:=by
 have⟨k,u⟩:=r;cases k with
 |own =>
  rw[show lift (.own,u)=pure u from rfl,ao]at h;have⟨r,e,A,L,B,t⟩:=d;have⟨l,m⟩:=Ok.DK y b n A B t;show⟨_,c.st,u,λa=>.inl,l,m,by rw[e];show t.rep (λa=>.inl) (.inr rfl),h,λa z=>?_,λa z=>z⟩;rcases z with z|rfl
  .show .inl z
  .show .inr ⟨e,.inl rfl⟩
 |loc =>
  rw[show lift (.loc,u)=pure u from rfl,ao]at h;show⟨c.S,c.st,u,λa=>id,b,n,d,h,λa z=>.inl z,λa z=>z⟩
 |any =>
  rw[show lift (.any,u)=if HQ u=bD then pure u else M.fail from rfl]at h;split at h
  .rw[ao]at h;show⟨c.S,c.st,u,λa=>id,b,n,Rep.HQ (by assumption) d,h,λa z=>.inl z,λa z=>z⟩
  .show(a9.mp h).elim
 |bor j =>
  have⟨x,st',e,D⟩:=h;rw[show lift (.bor j,u) c.st=match c.st[j]? with|some (a5 (.own,u))=>a5 (Ex.ok u,c.st.set j (a5 (.loc,u)))|_=>b6 from rfl]at e;split at e
  .rename_i w f;cases e;obtain⟨v',e1,r,G,_⟩:=b.sl j _ _ f;have o:c.σ[j]?=a5 (a5 v):=d;rw[o]at e1;cases e1;subst G;have⟨l,m,p⟩:=b.xx n f o;show⟨_,_,_,λa=>.inl,l,m,p,D,λa z=>?_,λa z=>?_⟩
   .rcases z with z|rfl
    .show .inl z
    .show .inr ⟨rfl,.inr (.inl ⟨j,.own,_,rfl,f,o⟩)⟩
   .rcases z with⟨i,k,u',hk,e,q⟩|⟨i,u',I,e,q,J⟩
    rotate_left 1
    .by_cases g:i=j
     .subst g;have s:i<c.st.length:=(dt.mp f).1;rw[ez s]at e;cases e
     .rw[hY (ri g)]at e;show .inr ⟨i,u',I,e,q,J⟩
    by_cases g:i=j
    .subst g;have s:i<c.st.length:=(dt.mp f).1;rw[ez s]at e;cases e;cases hk
    .rw[hY (ri g)]at e;show .inl ⟨i,k,u',hk,e,q⟩
  .cases e
 |_=>show d.elim
theorem iJ:∀{rs:List (Kd×U)}{vs:List V}{c:Cf}{Post:List U->au->Prop},Ok C c0->Ok C c->Nx c0 c->cA C c0 c rs vs->W (dg rs) c.st Post ->
  ∃(S':gi->Prop) (st':au) (us:List U),(∀a,c.S a->S' a)/\Ok C {c with S:=S',st:=st' }/\Nx c0 {c with S:=S',st:=st' }/\ar C S' c.H us vs/\Post us st'
 |[],vs,c,Post,j,k,n,m,h=>by
  rw[show dg []=pure [] from rfl,ao]at h;show⟨c.S,c.st,[],λa=>id,k,n,m,h⟩
 |r::rs,vs,c,Post,j,k,n,m,h=>by
  have⟨v,t,rfl,G,I,J⟩:=m;rw[show dg (r::rs)=lift r >>= λu=>dg rs >>= λus=>pure (u::us) from rfl,af]at h;have⟨S1,st1,u,s1,L,N,b,p,O,Q⟩:=f9 j k n G h;rw[af]at p;have T:cA C c0 {c with S:=S1,st:=st1} rs t:=by
   clear h p;have s:∀(l:List (Kd×U)) (w:List V),cA C c0 c l w->(r.1=.own->∀(i:Nat) f v',l[i]?=a5 f->w[i]?=a5 v'->f.1=.own->v'≠v)->cA C c0 {c with S:=S1,st:=st1} l w:=by
    intro l;induction l with
    |nil=>intro w q _;show q
    |cons r2 l Y =>
     intro w q x;have⟨y,A,rfl,g,q2,q3⟩:=q;show⟨y,A,rfl,?_,Y A q2 (λhk i f v' e1 e2 IC=>x hk (i+1) f v' (by simpa using e1) (by simpa using e2) IC),q3⟩;have⟨k2,u2⟩:=r2;cases k2 with
     |own =>
      have⟨a,e,p1,p2,B,p4⟩:=g;show⟨a,e,p1,λz=>?_,λz=>B (Q a z),p4.mv (.up s1) λo q=>q⟩;rcases O a z with z|⟨z,z'|z'⟩
      .show p2 z
      .show x z' 0 _ y rfl rfl rfl (e.trans z.symm)
      .show B z'
     |loc=>show Rep.mv (.up s1) g
     |any=>show Rep.mv (.up λa z=>z.imp id (s1 a)) g
     |_=>show g
   show s rs t I J
  have⟨S2,st2,us,s2,Ib,n2,d,D⟩:=iJ (c:={c with S:=S1,st:=st1}) j L N T p;rw[ao]at D;show⟨S2,st2,u::us,λa z=>s2 a (s1 a z),Ib,n2,⟨v,t,rfl,b.mv (.up s2),d⟩,D⟩
def AO(j:PA X es (Jj C ms)):PE X (.Tuple es p pos) (HH C (ms >>= λrs=>av rs >>= λ_=>dg rs >>= λus=>if us.length<=cK then pure (.loc,.tup us) else M.fail)):=by
 rintro a s σ H Q I ⟨c0,rfl,rfl,g,h⟩;show Zs (HE (args j I g h pos) λus s1 k=>?_);have⟨rs,c,vs,t,i,rv,w⟩:=k;rw[af]at w;have⟨S',st',ws,q,l,m,d,f⟩:=iJ g t.ok t.nx t.rep w;split at f
 .rename_i hz;rw[ao]at f;have hl:vs.length<=cK:=by rw[<-d.len];show hz
  show⟨by rw[<-rv.length];show hl,?_⟩;have n:c.H s1.heap.objs.size=b6:=i.HA.fresh (i5 _);have o:Inv X a c0.σ c.H s1:=by rw[<-t.hσ];show i
  show⟨.ref s1.heap.objs.size,upd c.H s1.heap.objs.size (.tup vs),o.laid (t':=s1.toks) (λb u e=>df _ e) (i5 _) ⟨hl,us,rv,Wx _ _⟩,rfl,?_⟩;show cu.tup (c:={c with S:=S',st:=st' }) f t.hσ l m d _ n
 .show(a9.mp f).elim
def AQ(j:PA X es (Jj C ms)):PE X (.List es pos) (HH C (ms >>= λrs=>av rs >>= λ_=>dg rs >>= λus=>if us.length<=cK then pure (.own,.lst us) else M.fail)):=by
 rintro a s σ H Q I ⟨c0,rfl,rfl,g,h⟩;show ZA (HE (args j I g h pos) λus s1 k=>?_);have⟨rs,c,vs,t,i,rv,w⟩:=k;rw[af]at w;have⟨S',st',ws,p,l,m,d,f⟩:=iJ g t.ok t.nx t.rep w;split at f
 .rename_i hz;rw[ao]at f;have hl:vs.length<=cK:=by rw[<-d.len];show hz
  show⟨by rw[<-rv.length];show hl,?_⟩;have n:c.H s1.heap.objs.size=b6:=i.HA.fresh (i5 _);have o:Inv X a c0.σ c.H s1:=by rw[<-t.hσ];show i
  show⟨.ref s1.heap.objs.size,upd c.H s1.heap.objs.size (.lst vs),o.laid (t':=s1.toks) (λb u e=>df _ e) (i5 _) ⟨hl,us,0,rv,hW _ rfl⟩,rfl,?_⟩;show cu.list (c:={c with S:=S',st:=st' }) f t.hσ l m d _ n
 .show(a9.mp f).elim
end
section
def om(c:X.N[i]?=a5 x)(d:IT X.env.scope x)(f:(x==("__debug__":Str))=cb)(g:(x==("__classdict__":Str))=cb):PE X (.Name x pos) (HH C (dh i)):=by
 show PE.weak (aZ c d f g) ?_;rintro σ H Q ⟨c0,rfl,rfl,b,r,st',e,h⟩;unfold dh at e;split at e
 .cases e
 .rename_i k u l hs;cases e;have⟨v,e1,a⟩:=b.sl i k u hs;show⟨v,e1,h c0 v rfl rfl b (Nx.refl c0) ?_⟩;by_cases hk:k.root=bD
  .rw[ê hk];show⟨⟨k,hk,hs⟩,e1⟩
  .rw[ë hk];cases k with
   |loc=>show a
   |any=>show a
   |bor j=>show a.elim
   |A'=>show(l rfl).elim
   |_=>show absurd rfl hk
 .cases e
def iK(h:PE X e (tC v))(r:∀S H,Rep C S H u v):PE X e (HH C (pure (.loc,u))):=by
 show PE.weak h ?_;rintro σ H Q ⟨c0,rfl,rfl,a,h⟩;rw[ao]at h;show h c0 v rfl rfl a (Nx.refl c0) (r _ _)
def cu.root(h:cu C c0 Q (.own,u) c.st)(d:c.σ=c0.σ)(b:Ok C c)(n:Nx c0 c)(p:gi)(a:c.H p=b6)(r:cH C c.S (upd c.H p o) p u):Q (.ref p) (upd c.H p o):=by
 have⟨e,f⟩:=b.lay (o:=o) a;have⟨j,g,k,l,i⟩:=b.fw a;show h {c with H:=upd c.H p o} _ d rfl e (n.trans f) ⟨p,rfl,n.none a,g,i,r⟩
def xy(c:C.P=X.prog)(d:C.w=X.w)(r:Bool):PE X (.Dict [] [] pos) (HH C (pure (.own,.Hz [] []))):=by
 show PE.weak pI ?_;rintro σ H Q ⟨c0,rfl,rfl,a,h⟩ p b;rw[ao]at h;show cu.root h rfl a (Nx.refl c0) p b ⟨[],aq,rfl,rfl⟩
def ar.Ic{S:gi->Prop}(h:ar C S H us vs)(e:Ic us i=a5 u):∃v,L2.Ic vs i=a5 v/\Rep C S H u v:=by
 unfold L2.Ic at e ⊢;rw[h.len]at e;cases q:K4 vs.length i with
 |none=>rw[q]at e;cases e
 |some j =>
  rw[q]at e;show h.get e
def DL(J:C.K=X.K)(L:X.A.units+60<KA)(hs:nN b)(t:Pk C c0 c x y g j)(I:Inv X d c.σ c.H s)(o:RelV g v)(p:RelV j u)(h:iC x y.2=a5 r)(q:cu C c0 Q r c.st):
  gs (i4 X.prog X.w) X.A (UR a b v u) (EP X d c.σ Q) X.xe s:=by
 obtain⟨z,f,n,B,l,-⟩:=t;have⟨N,O⟩:=y
 dsimp only at h l
 unfold iC at h;split at h
 .rename_i k xs i;rw[hQ]at h;have⟨w,e,rfl⟩:=h;have⟨a',vs,ex,m,D⟩:=B.list f;have⟨vw,e1,G⟩:=D.Ic e;show Aa a b d s c.σ c.H g j v u Q I o p ⟨a',vs,i,vw,ex,l.int f,J▸m,e1,q c vw z rfl f n (aF.item G)⟩ (hs _ _)
 .rename_i k xs i;rw[hQ]at h;have⟨w,e,rfl⟩:=h;have⟨a',vs,ex,m,D⟩:=B.tuple f;have⟨vw,e1,G⟩:=D.Ic e;rw[J]at m;show nO a b d s c.σ c.H g j v u Q I o p ⟨a',vs,i,vw,ex,l.int f,m,e1,q c vw z rfl f n (aF.item G)⟩ (hs _ _)
 .split at h
  .rw[hQ]at h;have⟨w,e,rfl⟩:=h;show kF a b d s c.σ c.H g j v u Q I o p ⟨_,_,w,B.str f,l.int f,by assumption,e,q c _ z rfl f n rfl⟩ (hs _ _)
  .cases h
 .cases h
def AR(f:C.K=X.K)(g:X.A.units+60<KA)(hs:nN b)(i:PE X a (HH C j))(k:PE X b (HH C l)):PE X (.Subscript a b pos) (HH C (j >>= λx=>l >>= λy=>av [x,y] >>= λ_=>M.H9 (iC x y.2))):=by
 rintro d s σ H Q I ⟨c0,rfl,rfl,m,h⟩;show ZK (two i k I m h λx y c B D v u s2 t n o p w=>?_);have⟨r,e,q⟩:=cS.mp w;show HE (DL f g hs t n o p e q) λ_ _ z=>by rw[t.hσ]at z;show z
def ar.cut{S:gi->Prop}(h:ar C S H us vs)(lo hi:Option Int):ar C S H (TM.cut us lo hi) (pE vs lo hi):=by
 unfold TM.cut pE;rw[h.len];show(h.drop _).take _
def u7{lo hi:Option Int}(h:HT.HM xs.length 0 lo=0/\HT.HM xs.length xs.length hi=xs.length):cut xs lo hi=xs:=by
 unfold cut;rw[h.1,h.2];simp
end
section
variable{prog:va}{w:w6}{A:Li}{E:dV->gm->Prop}{s:gm}
def gC{lo hi:Option Int}(b:U' s.heap t a)(hs:s.heap.IsSliceOf c e f .none)(pl:Tc e lo)(g:Tc f hi)
  (d:HT.HM a.size 0 lo=0/\HT.HM a.size a.size hi=a.size) (h:Q (.ref t) s):gs (i4 prog w) A (Q7 (.ref t) (.ref c)) Q E s:=by
 have⟨os,i,j,m⟩:=id hs;have k:s.TypeIs (.ref c) "slice":=⟨os,i,j⟩
 unfold Q7
 try with_reducible show D' ?_
 first|show b8 (fx ?_)|skip
 show b8 (ZP b.typeIs (by decide) ?_);show b8 (H8 (name:=M7 "__getitem__") b.typeIs sL
  (x8 sL b.typeIs Zu ?_ (ZJ _ _)))
 change gs _ _ (SD (.ref t) >>= _) _ _ s;show b8 (tupleItemsOf_ b ?_);show b8 (R_ k ?_);rw[ê (by decide)];show b8 (HT.eB hs pl g ?_);have l:(((HT.HM a.size 0 lo:Nat):Int)==0&&(1:Int)==1&&(HT.HM a.size a.size hi - HT.HM a.size 0 lo)==a.size)=bD:=by
  rw[d.1,d.2];simp
 change gs _ _ (if (((HT.HM a.size 0 lo:Nat):Int)==0&&(1:Int)==1&&(HT.HM a.size a.size hi - HT.HM a.size 0 lo)==a.size)=bD then _ else _) _ _ s;rw[ê l];change gs (i4 prog w) A.in1 ((YP (ki t) >>= λx=>pure (x==.type "tuple")) >>= _) _ _ s;show b8 (b8 (R_ b.typeIs (fx ?_)));rw[ê (by decide)];show b8 (Oe (fx ⟨_,rfl,fx h⟩))
end
section
variable{X:Cx}{C:Ct}{pins:List (gi×Obj)}{s:gm}{c0 c c1:Cf}
variable{a b d e:nH}{es:List nH}{m ma mb md:M (Kd×U)}{ms:M (List (Kd×U))}{ta tb:M Bool}{pos p p2:Pos}
def AS:LP X (λx lo hi H Q=>∃a xs,x=.ref a/\Iq X.K H a xs/\(HT.HM xs.length 0 lo=0/\HT.HM xs.length xs.length hi=xs.length)/\Q (.ref a) H):=by
 intro pins s σ H x v o t lo hi u Q I i hs pl j h;have⟨a,xs,rfl,k,l,q⟩:=h;cases i;have⟨n,r,g,hz⟩:=I.tuple k;have f:n.toArray.size=xs.length:=by rw[hH];show r.length.symm
 show⟨"tuple",_,sL.lookup,g.typeIs,gC g hs pl j (by rw[f];show l) ⟨.ref a,H,I,rfl,q⟩⟩
abbrev tO(C:Ct)(m:M (Option Int)):TO:=λσ H Q=>∃c0:Cf,c0.σ=σ/\c0.H=H/\Ok C c0/\W m c0.st λi st'=>∀c,c.σ=σ->c.st=st'->Ok C c->Nx c0 c->Q i c.H
def u9:PO X b6 (tO C (pure b6)):=by
 rintro pins s σ H Q I ⟨c0,rfl,rfl,f,h⟩;rw[ao]at h;show zZ pins s c0.σ c0.H Q I (h c0 rfl rfl f (Nx.refl c0))
def u_(f:PE X a (HH C ma)):PO X (a5 a) (tO C (ma >>= DB)):=by
 rintro pins s σ H Q I ⟨c0,rfl,rfl,g,h⟩;show z9 f pins s c0.σ c0.H Q I (aB g h λx c v t w=>?_);have⟨k,u⟩:=x;unfold DB at w;split at w
 .rename_i i e
  dsimp only at e
  subst e;rw[ao]at w;show⟨i,t.rx.int t.ok,w c t.hσ rfl t.ok t.nx⟩
 .show(a9.mp w).elim
def DM{lo hi:Option Int}(v:C.K=X.K)(i:c.σ=c0.σ)(f:Ok C c)(n:Nx c0 c)(l:aF C c0 c x.1 x.2 j)(h:oj x lo hi=a5 r)(q:cu C c0 Q r c.st):
  ((Fo X.K j lo hi c.H Q\/Fi X.K j lo hi c.H Q)\/(∃a xs,j=.ref a/\Iq X.K c.H a xs/\(HT.HM xs.length 0 lo=0/\HT.HM xs.length xs.length hi=xs.length)/\Q (.ref a) c.H))\/Fu j lo hi c.H Q:=by
 unfold oj at h;split at h
 .split at h
  .rename_i w;cases h;have⟨a',vs,ex,k,g⟩:=l.list f;show .inl (.inl (.inl ⟨a',vs,ex,v▸k,λp o=>q.list i f n ((di w g).cut lo hi) p o⟩))
  .cases h
 .cases h;have⟨a',vs,ex,k,g⟩:=l.tuple f;have t:=k;rw[v]at t;by_cases u:HT.HM vs.length 0 lo=0/\HT.HM vs.length vs.length hi=vs.length
  .show .inl (.inr ⟨a',vs,ex,t,u,?_⟩);show q c (.ref a') i rfl f n (aF.item ⟨a',vs,rfl,k,?_⟩);rw[u7 (by rw[g.len];show u)];show g
  .show .inl (.inl (.inr ⟨a',vs,ex,t,u,λp o=>q.tupK i f n (g.cut lo hi) p o⟩))
 .split at h
  .cases h;show .inr ⟨_,l.str f,by assumption,q.flat i f n rfl⟩
  .cases h
 .cases h
def AU{lo hi:Option nH}(k:C.K=X.K)(n:PE X a (HH C ma))(hl:PO X lo (tO C ml))(o:PO X hi (tO C u)):
  PE X (.Subscript a (.Slice lo hi b6 p2) pos) (HH C (ma >>= λx=>ml >>= λl=>u >>= λh=>av [x] >>= λ_=>M.H9 (oj x l h))):=by
 show PE.weak (wu (((LP.or Ab C4).or AS).or Di) n hl o) ?_;rintro σ H Q ⟨c0,rfl,rfl,y,h⟩;show aB y h λx c v t w=>?_;rw[af]at w;show⟨c,t.hσ,rfl,t.ok,w.mono λl st2 g z e1 A B D=>?_⟩;subst A;rw[af]at g;show⟨z,e1,rfl,B,g.mono λl' N f G i I J L=>?_⟩;subst I;rw[af,bY]at f;have⟨r,e,q⟩:=cS.mp f.2;have j:Nx c G:=D.trans L;show DM k i J (t.nx.trans j) ((t.rx.w.on t.ok j (i.trans t.hσ.symm)).t f.1) e q
end
section
variable{X:Cx}{C:Ct}{pins:List (gi×Obj)}{s:gm}{c0 c c1:Cf}
variable{a b d e:nH}{es:List nH}{m ma mb md:M (Kd×U)}{ms:M (List (Kd×U))}{ta tb:M Bool}{pos p p2:Pos}
abbrev Bf.val:Bf->dV
 |.len=>.builtin "len"|.sorted=>.builtin "sorted"|.repr=>.builtin "repr"|.max=>.builtin "max"|.min=>.builtin "min"|.all=>.builtin "all"|.any=>.builtin "any"
 |.list=>.type "list"|.tuple=>.type "tuple"|.str=>.type "str"|.int=>.type "int"
abbrev Bf.name:Bf->Str
 |.len=>"len"|.sorted=>"sorted"|.repr=>"repr"|.max=>"max"|.min=>"min"|.all=>"all"|.any=>"any"
 |.list=>"list"|.tuple=>"tuple"|.str=>"str"|.int=>"int"
def call_of(g:gG X f r)(I:Inv X pins c.σ c.H s)(rv:Vals vs us)(h:r vs c.H Q):gs (i4 X.prog X.w) X.A (OD f us) (EP X pins c.σ Q) X.xe s:=g pins s c.σ c.H vs us Q I rv h
def bR(h:gT f rs=a5 r):∃x,rs=[x]/\f x=a5 r:=by
 unfold gT at h;split at h
 .show⟨_,rfl,h⟩
 .cases h
def B7(G:X.calm=bD)(z:C.K=X.K)(L:X.A.guards=a5 [])(N:X.A.units+60<KA)(t:Jc C c0 c rs vs)(I:Inv X pins c.σ c.H s)(rv:Vals vs us)(h:Js f rs=a5 r)(q:cu C c0 Q r c.st):
  gs (i4 X.prog X.w) X.A (OD f.val us) (EP X pins c.σ Q) X.xe s:=by
 have o:=t.hσ;have g:=t.ok;have n:=t.nx;cases f with
 |len =>
  have⟨x,rfl,hz⟩:=bR (f:=λx=>(Ax x.2).map λ(n:Nat)=>(Kd.loc,U.int (n:Int))) h;clear h;have h:=hz;clear hz;rw[hQ]at h;have⟨k,e,rfl⟩:=h;have⟨v,rfl,l⟩:=t.one;have⟨O,D⟩:=x;unfold Ax at e;split at e
  .rename_i xs u;have u:D=.lst xs:=u;subst u;cases e;have⟨a',ws,ex,i,j⟩:=l.list g;rw[j.len]at q;show call_of eX I rv ⟨a',ws,by rw[ex],.inl (z▸i),q.flat o g n rfl⟩
  .rename_i xs u;have u:D=.tup xs:=u;subst u;cases e;have⟨a',ws,ex,i,j⟩:=l.tuple g;rw[z]at i;rw[j.len]at q;show call_of eX I rv ⟨a',ws,by rw[ex],.inr i,q.flat o g n rfl⟩
  .rename_i xs u;have u:D=.str xs:=u;subst u;split at e
   .cases e;show call_of nR I rv ⟨_,by rw[l.str g],by assumption,q.flat o g n rfl⟩
   .cases e
  .cases e
 |sorted =>
  have⟨x,rfl,hz⟩:=bR (f:=Du) h;clear h;have h:=hz;clear hz;have⟨v,rfl,l⟩:=t.one;unfold Du at h;split at h
  .rw[qs]at h;have⟨ss,e,h⟩:=h;have B:=cM e;subst B;have⟨a',ws,ex,i,j⟩:=l.list g;rw[ar.strs]at j;subst j;split at h
   .cases h;show call_of jE I rv ⟨a',ss,by rw[ex],.inl (z▸i),by assumption,λp y=>q.list o g n (ar.strs.mpr rfl) p y⟩
   .cases h
  .obtain⟨a',kvs,ex,i,j,_⟩:=l.dict g;split at h
   .cases h;show call_of (jh G) I rv ⟨a',kvs,_,by rw[ex],i,j,by assumption,λp y=>q.list o g n (ar.strs.mpr rfl) p y⟩
   .cases h
  .rw[qs]at h;have⟨ss,e,h⟩:=h;have B:=cM e;subst B;have⟨a',ws,ex,i,j⟩:=l.tuple g;rw[z]at i;rw[ar.strs]at j;subst j;split at h
   .cases h;show call_of jE I rv ⟨a',ss,by rw[ex],.inr i,by assumption,λp y=>q.list o g n (ar.strs.mpr rfl) p y⟩
   .cases h
  .cases h
 |list =>
  have⟨x,rfl,hz⟩:=bR (f:=Dv) h;clear h;have h:=hz;clear hz;have⟨v,rfl,l⟩:=t.one;unfold Dv at h;split at h
  .have⟨a',ws,ex,i,j⟩:=l.list g;split at h
   .cases h;show call_of ie I rv ⟨a',ws,by rw[ex],.inl (z▸i),λp y=>q.list o g n (di (by assumption) j) p y⟩
   .cases h
  .have⟨a',ws,ex,i,j⟩:=l.tuple g;rw[z]at i;split at h
   .cases h;show call_of ie I rv ⟨a',ws,by rw[ex],.inr i,λp y=>q.list o g n (di (by assumption) j) p y⟩
   .cases h
  .cases h
 |tuple =>
  have⟨x,rfl,hz⟩:=bR (f:=Dw) h;clear h;have h:=hz;clear hz;have⟨v,rfl,l⟩:=t.one;unfold Dw at h;split at h
  .have⟨a',ws,ex,i,j⟩:=l.list g;cases h;show call_of gH I rv ⟨a',ws,by rw[ex],.inl ⟨z▸i,λp y=>q.tupK o g n j p y⟩⟩
  .have⟨a',ws,ex,i,j⟩:=l.tuple g;have J:=i;rw[z]at J;cases h;show call_of gH I rv ⟨a',ws,by rw[ex],.inr ⟨J,q c (.ref a') o rfl g n (aF.item ⟨a',ws,rfl,i,j⟩)⟩⟩
  .cases h
 |str =>
  have⟨x,rfl,hz⟩:=bR (f:=xg) h;clear h;have h:=hz;clear hz;have⟨v,rfl,l⟩:=t.one;unfold xg at h;split at h
  .split at h
   .cases h;show call_of nI I rv ⟨_,by rw[l.int g],by assumption,q.flat o g n rfl⟩
   .cases h
  .cases h
 |all =>
  have⟨x,rfl,hz⟩:=bR (f:=Dx) h;clear h;have h:=hz;clear hz;have⟨v,rfl,l⟩:=t.one;unfold Dx at h;split at h
  .rw[hQ]at h;have⟨bs,e,rfl⟩:=h;have B:=la e;subst B;have⟨a',ws,ex,i,j⟩:=l.list g;have:=j.Uy;subst this;show call_of (wO G) I rv ⟨a',bs,by rw[ex],z▸i,q.flat o g n rfl⟩
  .cases h
 |_=>cases h
def AV{id:String}(g:X.calm=bD)(i:C.K=X.K)(j:X.A.guards=a5 [])(k:X.A.units+60<KA)(l:f.val=.builtin id)(n:Gl X x)(o:X.mg x=b6)(u:La x=a5 (.builtin id))(v:x≠"__name__")(y:(x==("__debug__":Str))=cb)
  (B:PA X (e::es) (Jj C ms)) (D:i7 (e::es) X.env=(cb,uk e X.env)::i7 es X.env) (G:(wh pos (i7 es X.env)).any (·.1)=cb) :
  PE X (.Call (.Name x p) (e::es) [] pos) (HH C (ms >>= λrs=>av rs >>= λ_=>M.H9 (Js f rs))):=by
 rintro pins s σ H Q I ⟨c0,rfl,rfl,J,h⟩;show wk (eV I n o u ?_ v y);show R3 (HE (args B I J h pos) λus s1 ⟨rs,c,vs,t,L,rv,w⟩=>?_) D G;have⟨r,e,q⟩:=cS.mp w;have z:=B7 g i j k t L rv e q;rw[l,t.hσ]at z;show z
def AW(g:X.calm=bD)(i:C.K=X.K)(j:X.A.guards=a5 [])(k:X.A.units+60<KA)(l:f.val=.type T)(n:Gl X x)(o:X.mg x=b6)(u:La x=a5 (.type T))(v:x≠"__name__")(y:(x==("__debug__":Str))=cb)
  (B:PA X (e::es) (Jj C ms)) (D:i7 (e::es) X.env=(cb,uk e X.env)::i7 es X.env) (G:(wh pos (i7 es X.env)).any (·.1)=cb) :
  PE X (.Call (.Name x p) (e::es) [] pos) (HH C (ms >>= λrs=>av rs >>= λ_=>M.H9 (Js f rs))):=by
 rintro pins s σ H Q I ⟨c0,rfl,rfl,J,h⟩;show wk (eV I n o u ?_ v y);show JX (HE (args B I J h pos) λus s1 ⟨rs,c,vs,t,L,rv,w⟩=>?_) D G;have⟨r,e,q⟩:=cS.mp w;have z:=B7 g i j k t L rv e q;rw[l,t.hσ]at z;show z
@[reducible]def Nw(P:va)(w:w6)(K:PySem.W.Frag)(H:Hp)(f:gi->Prop):Ct:=⟨P,w,K,H,f,λ_=>False,λ_ _=>False⟩
structure Back(C:Ct)(H H':Hp)(S':gi->Prop)(k:Kd)(u:U)(v:V):Prop where
 same:qW H H'
 new:∀a,S' a->H a=b6/\∃o,H' a=a5 o
 own:k=.own->∃r,v=.ref r/\H r=b6/\¬S' r/\cH C S' H' r u
 loc:k=.loc->Rep C S' H' u v
 any:k=.any->Rep C (PS C S') H' u v
abbrev spT(P:va)(w:w6)(K:PySem.W.Frag)(F:List U->Option (Ex (Kd×U)))(g:Nat):Sp:=λvs H Q E=>vs.length=g/\∃us r f,F us=a5 r/\(∀a,f a->Jh H a)/\ar (Nw P w K H f) f H us vs/\match r with
 |.ok (k,u)=>(k=.own\/k=.loc\/k=.any)/\∀v H' S',Back (Nw P w K H f) H H' S' k u v->Q v H'
 |.exc c=>∀C H',PySem.W.nsIn K mN c=a5 (a5 (.ref C))->qW H H'->E (.ref C) b6 H'
def Jc.read(t:Jc C c0 c rs vs):ar C (Jh c.H) c.H (rs.map (·.2)) vs:=by
 have f:∀(l:List (Kd×U)) (w:List V),cA C c0 c l w->bo l c.st->ar C (Jh c.H) c.H (l.map (·.2)) w:=by
  intro l;induction l with
  |nil=>intro w h _;show h
  |cons r l g =>
   intro w h hs;obtain⟨v,t',rfl,i,j,_⟩:=h;rw[eL]at hs;show⟨v,t',rfl,(i.t hs.1).read t.ok,g t' j hs.2⟩
 show f rs vs t.rep t.Ms
def Back.here(hk:k=.own\/k=.loc)(i:c.σ=c0.σ)(f:Ok C c)(n:Nx c0 c)(q:j.Eqv C)(h:Back j c.H H' S' k u v)(w:cu C c0 Q (k,u) c.st):Q v H':=by
 have⟨l,t⟩:=f.grow (S':=λa=>c.S a\/S' a) h.same (λa z=>z.imp id λz=>h.new a z) λa=>.inl;have x:=n.trans t;show w {c with H:=H',S:=λa=>c.S a\/S' a} v i rfl l x ?_;rcases hk with rfl|rfl
 .have⟨r,e,g,y,A⟩:=h.own rfl;have⟨G,B,I,J,D⟩:=f.fw g;show⟨r,e,n.none g,λz=>z.elim B y,D,(A.cg q).mv (.up λa=>.inr) λo q=>q⟩
 .show((h.loc rfl).cg q).mv (.up λa=>.inr)
def xA(l:C.P=X.prog)(n:C.w=X.w)(o:C.K=X.K)(D:Γ f=F)(hk:∀us k u,F us=a5 (.ok (k,u))->(k=.own\/k=.loc\/k=.any)/\us.length=x)
  (G:dN X.prog X.w X.K X.mg X.base (J3 X.prog X.w) k fa J ps (spT X.prog X.w X.K F x)) (L:cP k X.A) (N:Gl X f) (O:X.mg f=a5 (.ref fa)) (T:PySem.W.keepIn X.K (.ref fa)=bD) (i:Binds X.K J ps [])
  (Y:(f==("__debug__":Str))=cb) (ha:PA X (e::es) (Jj C ms)) (he:i7 (e::es) X.env=(cb,uk e X.env)::i7 es X.env) (IY:(wh pos (i7 es X.env)).any (·.1)=cb) :
  PE X (.Call (.Name f p) (e::es) [] pos) (HH C (ms >>= λrs=>av rs >>= λ_=>kZ Γ f (rs.map (·.2)))):=by
 rintro pins s σ H Q I ⟨c0,rfl,rfl,ok,h⟩;show wk (eU I N O ?_ Y);show PySem.W.callWith_K (h₀:=X.base) I.ok.mod.M4 T (HE (args ha I ok h pos) λus s1 ⟨rs,c,vs,t,y,rv,w⟩=>⟨y.JE,?_⟩) he IY;have⟨r,st',e1,q⟩:=w;unfold kZ at e1;rw[D]at e1;cases g:F (rs.map (·.2)) with
 |none=>rw[g]at e1;cases e1
 |some r' =>
  rw[g]at e1;split at e1
  .cases e1
  .rename_i z;cases z
  rename_i SF e3;cases e3;cases e1;have⟨kd,u⟩:=r;have⟨k0,k2⟩:=hk _ _ _ g;have k1:kd=.own\/kd=.loc:=by
   rcases k0 with z|z|z
   .show .inl z
   .show .inr z
   .subst z;show(SF u rfl).elim
  have j:C.Eqv (Nw X.prog X.w X.K c.H (Jh c.H)):=⟨l,n,o⟩
  have SG:(Nw X.prog X.w X.K c.H (Jh c.H)).Eqv C:=⟨l.symm,n.symm,o.symm⟩
  have B:=t.read;have Jm:spT X.prog X.w X.K F x vs c.H (λv H'=>Q v H') E0:=⟨by rw[<-B.len];show k2,rs.map (·.2),.ok (kd,u),Jh c.H,g,λ_ z=>z,B.cg j,k0,λv H' S' i=>i.here k1 t.hσ t.ok t.nx SG q⟩
  have z:=kC (Q:=Q) G L i .nil pR y rv (by rw[sx];show Jm);rw[t.hσ]at z;show z
end
section
abbrev Mf.id:Mf->String
 |.split=>"str.split"|.join=>"str.join"|.partition=>"str.partition"|.endswith=>"str.endswith"
abbrev Mf.name:Mf->Str
 |.split=>"split"|.join=>"join"|.partition=>"partition"|.endswith=>"endswith"
def xB(h:j3 f u rs=a5 r):∃x,u=.str x:=by
 unfold j3 at h;split at h
 .show⟨_,rfl⟩
 .show⟨_,rfl⟩
 .show⟨_,rfl⟩
 .show⟨_,rfl⟩
 .cases h
def DN(z:C.K=X.K)(t:Jc C c0 c (x::rs) (g::vs))(I:Inv X a c.σ c.H s)(k:RelV g v)(rv:Vals vs us)(h:j3 f x.2 rs=a5 r)(q:cu C c0 Q r c.st):
  gs (i4 X.prog X.w) X.A (OD (.builtin f.id) (v::us)) (EP X a c.σ Q) X.xe s:=by
 have l:=t.hσ;have b:=t.ok;have n:=t.nx;have⟨B,D⟩:=x;have hs:=eL.mp t.Ms;obtain⟨N,O,G,o,i,-⟩:=t.rep;cases G;have m:aF C c0 c B D g:=o.t hs.1;have one:∀{r:Kd×U},cA C c0 c [r] vs->bo [r] c.st->∃v,vs=[v]/\aF C c0 c r.1 r.2 v:=λ{r} h s=>by
  obtain⟨v,t',rfl,o,i,_⟩:=h;cases i;show⟨v,rfl,o.t s⟩
 dsimp only at h
 unfold j3 at h;split at h
 .have⟨w,rfl,d⟩:=one i hs.2;split at h
  .rename_i j;cases h;show wN a s c.σ c.H g [w] v us Q I k rv ⟨_,_,m.str b,by rw[d.str b],j.1,j.2,λp u=>q.list l b n (ar.strs.mpr rfl) p u⟩
  .cases h
 .rw[qs]at h;have⟨ss,e,h⟩:=h;have J:=cM e;subst J;have⟨w,rfl,d⟩:=one i hs.2;have⟨a',ws,ex,L,y⟩:=d.list b;rw[ar.strs]at y;subst y;split at h
  .cases h;show Al a s c.σ c.H g [w] v us Q I k rv ⟨_,a',ss,m.str b,by rw[ex],z▸L,by assumption,q.flat l b n rfl⟩
  .cases h
 .have⟨w,rfl,d⟩:=one i hs.2;cases h;show pM a s c.σ c.H g [w] v us Q I k rv ⟨_,_,m.str b,by rw[d.str b],q.flat l b n rfl⟩
 .have⟨w,rfl,d⟩:=one i hs.2;split at h
  .rename_i j;cases h;show nY a s c.σ c.H g [w] v us Q I k rv ⟨_,_,m.str b,by rw[d.str b],j.1,j.2,λp u=>?_⟩;show q.tup l b n ⟨_,_,rfl,rfl,_,_,rfl,rfl,_,_,rfl,rfl,rfl⟩ p u
  .cases h
 .cases h
def AX(J:C.K=X.K)(slot:Z' "str" name f.id)(L:YP (.builtin f.id)=pure (.type "method_descriptor"))(ho:PE X o (HH C m))(N:PA X (e::es) (Jj C ms))
  (O:NU o name X.env (uk o X.env)=uk o X.env)
  (T:((wh d (i7 (e::es) X.env)).all (λx=>!x.1)&&(M6 d (Ig [] X.env)).all (λx=>x.1.isSome)
   && cL ((e::es).length+([]:List ME).length+(if ([]:List ME).isEmpty then 0 else 1)<30))=bD)
  (Y:(apos.endLine==d.line)=bD) (hs:i7 (e::es) X.env=(cb,uk e X.env)::i7 es X.env) (J_:(wh d (i7 es X.env)).any (·.1)=cb) :
  PE X (.Call (.Attribute o name apos) (e::es) [] d) (HH C (m >>= λx=>ms >>= λrs=>av (x::rs) >>= λ_=>M.H9 (j3 f x.2 rs))):=by
 rintro a s σ H Q I ⟨c0,rfl,rfl,ok,h⟩;show YO O T Y rfl (HE (ho a s c0.σ c0.H (λj n=>∃x b,b.H=n/\Pl C c0 b x j/\W (ms >>= λrs=>av (x::rs) >>= λ_=>M.H9 (j3 f x.2 rs)) b.st (cu C c0 Q)) I (aB ok h λx c v t w=>⟨x,c,rfl,t,w⟩)) ?_);rintro v s1 ⟨j,n,p,u,x,b,rfl,t,w⟩;have Ny:∃z,x.2=.str z:=by
  rw[af]at w;obtain⟨rs,st2,_,w⟩:=w;rw[af]at w;obtain⟨_,Ii,_,w⟩:=w;obtain⟨r,e,_⟩:=cS.mp w;show xB e
 have⟨z,hz⟩:=Ny;have y:=t.rx;rw[hz]at y;have ev:=y.str t.ok;have ty:Qg X.K "str" j b.H:=by rw[ev];rfl
 have⟨h1,h2⟩:=nS p u ty;show⟨"str",f.id,PySem.F.plainAttrs_str,slot,L,h1,h2,?_⟩;rw[af]at w;have A:=N d a s1 c0.σ b.H (λvs B=>∃rs g,g.H=B/\Jc C c0 g (x::rs) (j::vs)/\W (M.H9 (j3 f x.2 rs)) g.st (cu C c0 Q)) p ⟨b,t.hσ,rfl,t.ok,w.mono λrs st2 k g vs D e4 Ib G r2=>by
  rw[af,bY]at k;subst e4;show⟨rs,g,rfl,⟨D,Ib,t.nx.trans G,⟨j,vs,rfl,t.rx.w.on t.ok G (D.trans t.hσ.symm),r2.from t.nx,λhk i r' v' e5 e6 IC=>k_ t.rx.w (r2.get e5 e6) hk IC⟩,k.1⟩,k.2⟩⟩
 rw[hs]at A ⊢;show Ks (by change(cb||(wh d (i7 es X.env)).any (·.1))=cb;rw[J_]<;>rfl) (Lf ?_);show HE A ?_;rintro us s2 ⟨vs,B,I2,r2,rs,g,rfl,l,w2⟩;have⟨r,e,q⟩:=cS.mp w2;have z:=DN J l (by rw[l.hσ];show I2) u r2 e q;rw[l.hσ]at z;show z
end
section
variable{X:Cx}{C:Ct}{pins:List (gi×Obj)}{s:gm}{c0 c c1:Cf}
variable{e:nH}{es:List nH}{ms:M (List (Kd×U))}{pos p p2 pos2:Pos}
abbrev B2.out:B2->dV
 |.Ls=>.type "tuple"|.JK=>.type "list"|.sset=>.builtin "sorted"|.ig=>.builtin "len"
abbrev B2.QA:B2->dV
 |.Ls=>.type "reversed"|.JK=>.type "reversed"|.sset=>.type "set"|.ig=>.type "set"
abbrev B2.oo:B2->Str
 |.Ls=>"tuple"|.JK=>"list"|.sset=>"sorted"|.ig=>"len"
abbrev B2.iL:B2->Str
 |.Ls=>"reversed"|.JK=>"reversed"|.sset=>"set"|.ig=>"set"
theorem ar.rev{S:gi->Prop}:∀{us:List U}{vs:List V},ar C S H us vs->ar C S H us.reverse vs.reverse
 |[],vs,h=>by cases h;show rfl
 |u::us,vs,h=>by
  have⟨v,r,rfl,a,b⟩:=h;rw[Q9,Q9];show(ar.rev b).append ⟨v,[],rfl,a,rfl⟩
def vb(g:C.K=X.K)(i:Ok C c)(j:aF C c0 c k u v)(h:uX u=a5 ss):∃a ys,v=.ref a/\(Ip X.K c.H a (ys.map V.str)\/Iq X.K c.H a (ys.map V.str))/\ys.length+1<L'/\ss=bq ys:=by
 unfold uX at h;split at h
 .rw[qs]at h;have⟨ys,e,h⟩:=h;have f:=cM e;subst f;have⟨a',ws,ex,d,b⟩:=j.list i;rw[ar.strs]at b;subst b;split at h
  .cases h;show⟨a',ys,ex,.inl (g▸d),by assumption,rfl⟩
  .cases h
 .rw[qs]at h;have⟨ys,e,h⟩:=h;have f:=cM e;subst f;have⟨a',ws,ex,d,b⟩:=j.tuple i;rw[ar.strs]at b;subst b;rw[g]at d;split at h
  .cases h;show⟨a',ys,ex,.inr d,by assumption,rfl⟩
  .cases h
 .cases h
def DO(j:X.calm=bD)(k:C.K=X.K)(t:Jc C c0 c rs vs)(I:Inv X pins c.σ c.H s)(rv:Vals vs us)(h:uY f rs=a5 r)(q:cu C c0 Q r c.st):
  gs (i4 X.prog X.w) X.A (OD f.QA us) (λv s1=>gs (i4 X.prog X.w) X.A (OD f.out [v]) (EP X pins c.σ Q) X.xe s1) X.xe s:=by
 have m:=t.hσ;have a:=t.ok;have n:=t.nx;cases f with
 |JK =>
  have⟨x,rfl,hz⟩:=bR (f:=Dy) h;clear h;have h:=hz;clear hz;have⟨v,rfl,d⟩:=t.one;unfold Dy at h;split at h
  .have⟨a',ws,ex,b,g⟩:=d.tuple a;rw[k]at b;subst ex;have⟨u,rfl,i⟩:=vals1 rv;cases i;split at h
   .cases h;show w9 j I b λl hl=>q.list m a n (di (by assumption) g).rev l hl
   .cases h
  .cases h
 |ig =>
  have⟨x,rfl,hz⟩:=bR (f:=λx:Kd×U=>(uX x.2).map λss:List Str=>(Kd.loc,U.int (ss.length:Int))) h;clear h;have h:=hz;clear hz;have⟨ss,e,rfl⟩:=hQ.mp h;have⟨v,rfl,d⟩:=t.one;have⟨a',ys,rfl,b,g,rfl⟩:=vb k a d e;have⟨u,rfl,i⟩:=vals1 rv;cases i;show og j I b g λS h' z o y=>rj y o (q.flat m a n rfl)
 |_=>cases h
def tF:∀f:B2,La f.oo=a5 f.out/\La f.iL=a5 f.QA/\f.oo≠"__name__"/\f.iL≠"__name__"/\(f.oo==("__debug__":Str))=cb/\(f.iL==("__debug__":Str))=cb:=by
 intro f;cases f<;>show⟨by decide +kernel,by decide +kernel,by decide +kernel,by decide +kernel,by decide +kernel,by decide +kernel⟩
def DP(f:B2):∃T,f.QA=.type T:=by cases f<;>show⟨_,rfl⟩
def DQ(f:B2):(∃T,f.out=.type T)\/∃T,f.out=.builtin T:=by cases f<;>first|show .inl ⟨_,rfl⟩|show .inr ⟨_,rfl⟩
def AY{M:Model}{E:dV->gm->Prop}(h:gs M A t (λv a=>gs M A (OD (.type T) [v]) Q E a) E s):gs M A (Vz pos (.type T) [] [(cb,t)] []) Q E s :=
 PySem.callWith_type rfl (Lf (MJ (td h (λ_ _ b=>O' b) λ_ _ e=>e)))
def xC{M:Model}{E:dV->gm->Prop}(h:gs M A t (λv a=>gs M A (OD (.builtin T) [v]) Q E a) E s):gs M A (Vz pos (.builtin T) [] [(cb,t)] []) Q E s :=
 Ks rfl (Lf (MJ (td h (λ_ _ b=>O' b) λ_ _ e=>e)))
def xD(b:X.calm=bD)(d:C.K=X.K)(g:Gl X f.iL)(i:X.mg f.iL=b6)
  (j:PA X (e::es) (Jj C ms)) (k:i7 (e::es) X.env=(cb,uk e X.env)::i7 es X.env) (l:(wh pos2 (i7 es X.env)).any (·.1)=cb)
  (I:Inv X pins c0.σ c0.H s) (m:Ok C c0) (h:W (ms >>= λrs=>av rs >>= λ_=>M.H9 (uY f rs)) c0.st (cu C c0 Q)) :
  gs (i4 X.prog X.w) X.A (uk (.Call (.Name f.iL p2) (e::es) [] pos2) X.env) (λv s1=>gs (i4 X.prog X.w) X.A (OD f.out [v]) (EP X pins c0.σ Q) X.xe s1) X.xe s:=by
 have⟨b1,n,b3,b4,B,o⟩:=tF f;show wk (eV I g i n ?_ b4 o);have a:gs (i4 X.prog X.w) X.A (YQ (wh pos2 (i7 (e::es) X.env))) (λus s1=>gs (i4 X.prog X.w) X.A (OD f.QA us) (λv s1=>gs (i4 X.prog X.w) X.A (OD f.out [v]) (EP X pins c0.σ Q) X.xe s1) X.xe s1) X.xe s :=
  HE (args j I m h pos2) λus s1 u=>by
   have⟨rs,c,vs,t,x,rv,w⟩:=u;have⟨r,e,q⟩:=cS.mp w;have z:=DO b d t x rv e q;rw[t.hσ]at z;show z
 have⟨T,y⟩:=DP f;rw[y]at a ⊢;show JX a k l
def AZ(d:X.calm=bD)(g:C.K=X.K)(i:Gl X f.oo)(j:X.mg f.oo=b6)(k:Gl X f.iL)(l:X.mg f.iL=b6)
  (m:PA X (e::es) (Jj C ms)) (n:i7 (e::es) X.env=(cb,uk e X.env)::i7 es X.env) (o:(wh pos2 (i7 es X.env)).any (·.1)=cb) :
  PE X (.Call (.Name f.oo p) [.Call (.Name f.iL p2) (e::es) [] pos2] [] pos) (HH C (ms >>= λrs=>av rs >>= λ_=>M.H9 (uY f rs))):=by
 rintro pins s σ H Q I ⟨c0,rfl,rfl,q,h⟩;have⟨b1,v,b3,b4,r,w⟩:=tF f;show wk (eV I i j b1 ?_ b3 r);have a:=xD (p2:=p2) (pos2:=pos2) d g k l m n o I q h;have t:wh pos (i7 [.Call (.Name f.iL p2) (e::es) [] pos2] X.env)=[(cb,uk (.Call (.Name f.iL p2) (e::es) [] pos2) X.env)]:=rfl;have u:M6 pos (Ig [] X.env)=[]:=rfl;rw[t,u];rcases DQ f with⟨T,b⟩|⟨T,b⟩
 .rw[b]at a ⊢;show AY a
 .rw[b]at a ⊢;show xC a
end
section
variable{X:Cx}{C:Ct}{pins:List (gi×Obj)}{s:gm}{c0 c c1:Cf}
variable{a b d e o tg:nH}{es:List nH}{m ma mb md:M (Kd×U)}{ms:M (List (Kd×U))}{ta tb:M Bool}{pos p p2 apos G':Pos}
abbrev lj(rs:List (Kd×U))(c f:Cf):Prop:=∀j u,(Kd.bor j,u)∈rs->f.σ[j]?=c.σ[j]?
abbrev Walk(C:Ct)(c:Cf)(rs:List (Kd×U))(xs:List (Kd×U))(J:It):Prop:=∀f,Ok C f->Ns c f->lj rs c f->bo rs f.st ->
 (∀(i:Nat) r,xs[i]?=a5 r->(r.1=.loc\/r.1=.any)/\J.go i f.H/\∀x H',J.Qb i f.H x H'->∃g:Cf,g.H=H'/\g.σ=f.σ/\g.st=f.st/\Ok C g/\Nx f g/\aF C f g r.1 r.2 x) /\
 ∀i:Nat,xs.length<=i->J.stop i f.H
abbrev Lx(C:Ct)(f:Ik)(ms:M (List (Kd×U))):TI:=λσ H R=>∃c0:Cf,c0.σ=σ/\c0.H=H/\Ok C c0/\W (ms >>= λrs=>av rs >>= λ_=>M.H9 (Kg f rs) >>= λxs=>pure (rs,xs)) c0.st λq st' =>
 ∀c J,c.σ=σ->c.st=st'->Ok C c->Nx c0 c->bo q.1 c.st->Walk C c q.1 q.2 J->R J c.H
def aF.walk(g:Ok C c)(n:Ns c f)(i:lj [r] c f)(hs:bo [r] f.st)(h:aF C c0 c r.1 r.2 v):aF C c0 f r.1 r.2 v :=
 (h.w.Ux g n λj e=>i j r.2 (by rw[<-e];simp)).t hs
def xE(k:Kd):kE k=.loc\/kE k=.any:=by cases k<;>simp[kE]
def vc(z:C.K=X.K)(A:Ok C c)(h:aF C c0 c k (.lst us) (.ref a')):Walk C c [(k,.lst us)] (us.map λu=>(kE k,u)) (Rf X.K a'):=by
 intro l q n B hs;have h':=aF.walk (r:=(k,.lst us)) A n B hs h;have⟨G,vs,e,f,t⟩:=h'.list q;cases e;rw[z]at f;show⟨λi r w=>?_,λi hi=>⟨vs,f,by rw[<-t.len];simpa using hi⟩⟩;rw[pa,hQ]at w;have⟨u,D,rfl⟩:=w;have⟨v,y,g⟩:=t.get D;show⟨xE k,⟨vs,v,f,y⟩,λx H' j=>?_⟩;have⟨e,j⟩:=j;subst e;have:=j vs f;rw[y]at this;cases this;show⟨l,rfl,rfl,rfl,q,Nx.refl l,aF.item g⟩
def rC(z:C.K=X.K)(A:Ok C c)(h:aF C c0 c k (.tup us) (.ref a')):Walk C c [(k,.tup us)] (us.map λu=>(kE k,u)) (Rg X.K a'):=by
 intro l q n B hs;have h':=aF.walk (r:=(k,.tup us)) A n B hs h;have⟨G,vs,e,f,t⟩:=h'.tuple q;cases e;rw[z]at f;show⟨λi r w=>?_,λi hi=>⟨vs,f,by rw[<-t.len];simpa using hi⟩⟩;rw[pa,hQ]at w;have⟨u,D,rfl⟩:=w;have⟨v,y,g⟩:=t.get D;show⟨xE k,⟨vs,v,f,y⟩,λx H' j=>?_⟩;have⟨e,j⟩:=j;subst e;have:=j vs f;rw[y]at this;cases this;show⟨l,rfl,rfl,rfl,q,Nx.refl l,aF.item g⟩
def xF:Walk C c [(k,.str x)] (x.cps.toList.map λch=>(.loc,.str ⟨#[ch]⟩)) (R5 x):=by
 intro f l n t hs;show⟨λi r g=>?_,λi hi=>by change x.cps.toList.length<=i;simpa using hi⟩;rw[pa,hQ]at g;have⟨ch,h,rfl⟩:=g;show⟨.inl rfl,(dt.mp h).1,λy H' q=>?_⟩;have⟨e,u,j,rfl⟩:=q;subst e;rw[h]at j;cases j;show⟨f,rfl,rfl,rfl,l,Nx.refl f,rfl⟩
def ll{lo:Int}:Walk C c rs ((il n).map λi:Nat=>(Kd.loc,U.int (lo+(i:Int)))) (OJ lo n):=by
 intro g k nx q hs;show⟨λi r h=>?_,λi hi=>by change n<=i;simpa using hi⟩;rw[pa,hQ]at h;have⟨j,f,rfl⟩:=h;have hi:i<n:=by simpa using(dt.mp f).1
 rw[Sz hi]at f;cases f;show⟨.inl rfl,hi,λy H' l=>?_⟩;have⟨e,rfl⟩:=l;subst e;show⟨g,rfl,rfl,rfl,k,Nx.refl g,rfl⟩
def DR(j:C.K=X.K)(q:PE X a (HH C ma)):PI X tg a (Lx C .seq (ma >>= λr=>pure [] >>= λrs=>pure (r::rs))):=by
 rintro pins s σ H R I ⟨c0,rfl,rfl,t,h⟩;rw[af,af]at h;have⟨r,st1,e1,h⟩:=h;rw[af,ao,ao,af,bY,af]at h;have⟨w,h⟩:=h;have⟨xs,l,h⟩:=cS.mp h;rw[ao]at h;have⟨k,u⟩:=r;cases u with
 |lst us =>
  cases l;show zT q pins s c0.σ c0.H R I ⟨c0,rfl,rfl,t,_,st1,e1,λc v i hs g n f=>?_⟩;have⟨a',vs,rfl,y,A⟩:=f.list g;subst hs;show⟨a',rfl,⟨vs,j▸y⟩,h c _ i rfl g n w (vc j g f)⟩
 |tup us =>
  cases l;show CQ q pins s c0.σ c0.H R I ⟨c0,rfl,rfl,t,_,st1,e1,λc v i hs g n f=>?_⟩;have⟨a',vs,rfl,y,A⟩:=f.tuple g;subst hs;have z:=y;rw[j]at z;show⟨a',rfl,⟨vs,z⟩,h c _ i rfl g n w (rC j g f)⟩
 |str x =>
  cases l;show Dh q pins s c0.σ c0.H R I ⟨c0,rfl,rfl,t,_,st1,e1,λc v i hs g n f=>?_⟩;subst hs;show⟨_,f.str g,h c _ i rfl g n w xF⟩
 |_=>cases l
def rE{k:List (Kd×U)->M β}{Post:β->au->Prop}(g:Ok C c0)(h:W (ms >>= λrs=>av rs >>= λ_=>k rs) c0.st Post)
  (hz:∀rs c vs,Jc C c0 c rs vs->W (k rs) c.st Post->Z vs c.H):Jj C ms c0.σ c0.H Z:=by
 rw[af]at h;show⟨c0,rfl,rfl,g,h.mono λrs st1 f c1 vs e1 i j l r1=>?_⟩;rw[af,bY]at f;subst i;show hz rs c1 vs ⟨e1,j,l,r1,f.1⟩ f.2
def A0(i:Gl X "range")(j:X.mg "range"=b6)(hs:i7 [a] X.env=[(cb,uk a X.env)])(k:PA X [a] (Jj C ms)):PI X tg (.Call (.Name "range" p) [a] [] pos) (Lx C .Iw ms):=by
 rintro pins s σ H R I ⟨c0,rfl,rfl,l,h⟩;show uB i j k hs pins s c0.σ c0.H R I (rE l h λrs c vs t w=>?_);rw[af]at w;have⟨xs,g,w⟩:=cS.mp w;rw[ao]at w;have⟨x,rfl,hz⟩:=bR (f:=uZ) g;clear g;have g:=hz;clear hz;have⟨v,rfl,n⟩:=t.one;unfold uZ at g;split at g
 .split at g
  .rename_i q;cases g;show⟨_,by rw[n.int t.ok],⋯,⋯,w c _ t.hσ rfl t.ok t.nx t.Ms ll⟩
  .cases g
 .cases g
def A4(g:Gl X "range")(i:X.mg "range"=b6)(hs:i7 [a,b] X.env=[(cb,uk a X.env),(cb,uk b X.env)])(j:i7 [b] X.env=[(cb,uk b X.env)])(k:PA X [a,b] (Jj C ms)):PI X tg (.Call (.Name "range" p) [a,b] [] pos) (Lx C .Mj ms):=by
 rintro pins s σ H R I ⟨c0,rfl,rfl,l,h⟩;show uC g i k hs j pins s c0.σ c0.H R I (rE l h λrs c vs t w=>?_);rw[af]at w;have⟨xs,f,w⟩:=cS.mp w;rw[ao]at w;have f:Dz rs=a5 xs:=f;unfold Dz at f;split at f
 .split at f
  .rename_i r;cases f;have⟨v,v',rfl,n,q⟩:=t.two;show⟨_,_,by rw[n.int t.ok,q.int t.ok],⋯,w c _ t.hσ rfl t.ok t.nx t.Ms ll⟩
  .cases f
 .cases f
def pW{k:Kd}{us:List U}{u0:U}{a':gi}{t:Hp->List V->Prop}(B:∀f,Ok C f->Ns c f->lj [(k,u0)] c f->bo [(k,u0)] f.st->∃vs,t f.H vs/\ar C (SK C f k) f.H us vs):Walk C c [(k,u0)] (us.zipIdx.map λp=>(kE k,.tup [.int p.2,p.1])) (N' t):=by
 intro f g n D hs;have⟨vs,h,w⟩:=B f g n D hs;show⟨λi r y=>?_,λi hi=>⟨vs,h,by rw[<-w.len];simpa using hi⟩⟩;rw[pa,hQ]at y;have⟨p,z,rfl⟩:=y;rw[Qj,hQ]at z;have⟨u,G,rfl⟩:=z;have⟨v,A,j⟩:=w.get G;show⟨xE k,⟨vs,v,h,A⟩,λx H' l=>?_⟩;have⟨p,I,rfl,l⟩:=l;have J:=l vs v h A;subst J;have⟨L,q⟩:=g.lay (o:=.tup [.int i,v]) I;show⟨{f with H:=upd f.H p (.tup [.int i,v])},rfl,rfl,rfl,L,q,aF.item ?_⟩;have r2:ar C (SK C f k) f.H [.int ((0+i:Nat):Int),u] [.int (i:Int),v]:=by
  rw[RN];show⟨_,_,rfl,rfl,_,_,rfl,j,rfl⟩
 cases k<;>show⟨p,_,rfl,Iq.of aq,by first|show r2.mv (g.Mi q)|show r2.mv (g.mv q)⟩
def DS{es:List nH}{y:Nat}{ps:Pos}(k:C.K=X.K)(z:Gl X "enumerate")(A:X.mg "enumerate"=b6)(hs:i7 [a] X.env=[(cb,uk a X.env)])(B:PA X [a] (Jj C ms)):PI X (.Tuple es y ps) (.Call (.Name "enumerate" p) [a] [] pos) (Lx C .MU ms):=by
 rintro pins s σ H R I ⟨c0,rfl,rfl,D,h⟩;show Am z A B hs pins s c0.σ c0.H R I (rE D h λrs c vs t w=>?_);rw[af]at w;have⟨xs,i,w⟩:=cS.mp w;rw[ao]at w;have⟨x,rfl,hz⟩:=bR (f:=DA) i;clear i;have i:=hz;clear hz;have⟨v,rfl,l⟩:=t.one;unfold DA at i;split at i
 .cases i;have⟨a',ws,e1,g,j⟩:=l.list t.ok;subst e1;show⟨a',rfl,.inl ⟨⟨ws,k▸g⟩,w c _ t.hσ rfl t.ok t.nx t.Ms ?_⟩⟩;show pW (a':=a') λG q n r u=>?_;have⟨J,vs,e,g,j⟩:=(aF.walk t.ok n r u l).list q;cases e;show⟨vs,k▸g,j⟩
 .cases i;have⟨a',ws,e1,g,j⟩:=l.tuple t.ok;subst e1;rw[k]at g;show⟨a',rfl,.inr ⟨⟨ws,g⟩,w c _ t.hσ rfl t.ok t.nx t.Ms ?_⟩⟩;show pW (a':=a') λG q n r u=>?_;have⟨J,vs,e,g,j⟩:=(aF.walk t.ok n r u l).tuple q;cases e;rw[k]at g;show⟨vs,g,j⟩
 .cases i
def Ok.put(l:Ok C c)(n:Nx c0 c)(hi:i<c.σ.length)(hk:k=.own\/k=.loc\/k=.any)(Jk:Ok C c0)(h:aF C c0 c k u v):
  Ok C {c with σ:=c.σ.set i (a5 v),st:=c.st.set i (a5 (k,u))}/\Nx c0 {c with σ:=c.σ.set i (a5 v),st:=c.st.set i (a5 (k,u))}:=by
 have N:i<c.st.length:=by rw[l.len];show hi
 have O:∀(j:Nat) k' u',(c.st.set i (a5 (k,u)))[j]?=a5 (a5 (k',u'))->j≠i->c.st[j]?=a5 (a5 (k',u')):=λj k' u' e Q=>by rw[hY (ri Q)]at e;show e
 have IX:∀(j:Nat) v',(c.σ.set i (a5 v))[j]?=a5 (a5 v')->j≠i->c.σ[j]?=a5 (a5 v'):=λj v' e Q=>by rw[hY (ri Q)]at e;show e
 have sl:fE C c.S c.H k u v:=by
  rcases hk with rfl|rfl|rfl
  .have⟨r,e,A,G,x,I⟩:=h;have⟨z0,z1,J,z3,z4⟩:=Jk.fw A;show⟨r,e,G,J,z0,I⟩
  .show h
  .show h
 have T:∀(j:Nat) k' u' r,k'.root=bD->(c.st.set i (a5 (k,u)))[j]?=a5 (a5 (k',u'))->(c.σ.set i (a5 v))[j]?=a5 (a5 (.ref r))->j=i/\k=.own/\v=.ref r\/j≠i/\c.st[j]?=a5 (a5 (k',u'))/\c.σ[j]?=a5 (a5 (.ref r)):=λj k' u' r B e1 g=>by
  by_cases f:j=i
  .subst f;rw[ez N]at e1;rw[ez hi]at g;cases e1;cases g;rcases hk with rfl|rfl|rfl
   .show .inl ⟨rfl,rfl,rfl⟩
   .cases B
   .cases B
  .show .inr ⟨f,O j k' u' e1 f,IX j _ g f⟩
 have dD:∀(j:Nat) (u':U),(c.st.set i (a5 (k,u)))[j]?=a5 (a5 (.A',u'))->c.st[j]?=a5 (a5 (.A',u'))/\(c.σ.set i (a5 v))[j]?=c.σ[j]?:=λj u' e=>by
  by_cases f:j=i
  .subst f;rw[ez N]at e;cases e;rcases hk with hk|hk|hk<;>cases hk
  .show⟨O j .A' u' e f,hY (ri f)⟩
 have b1:∀a,({c with σ:=c.σ.set i (a5 v),st:=c.st.set i (a5 (k,u))}:Cf).R1 a->c.R1 a\/k=.own/\v=.ref a:=λa HS=>by
  have⟨j,k',u',B,e1,g⟩:=HS;rcases T j k' u' a B e1 g with⟨L,t,w⟩|⟨L,t,w⟩
  .show .inr ⟨t,w⟩
  .show .inl ⟨j,k',u',B,t,w⟩
 have Mt:K8 C {c with σ:=c.σ.set i (a5 v),st:=c.st.set i (a5 (k,u))}:=l.dd.of rfl dD (λa z=>(b1 a z).imp id λ⟨Y,q2⟩ j z'=>by
  subst Y;obtain⟨D,e,_,_,x,_⟩:=h;rw[q2]at e;cases e;show x (.inr ⟨j,z'⟩)) (.up λ_ z=>z) λj a z=>⟨(l.root (.inr ⟨j,z⟩)).1,λo q=>q⟩
 show⟨⟨l.same,l.JC,l.par,l.io,by simp[l.len],λj k' u' e=>?_,λj1 j2 k1 k2 u1 u2 r SM Pn e1 g e3 e4=>?_,Mt⟩,⟨⟨n.keep,n.there,λa z=>?_,n.sub,n.new⟩⟩⟩
 .by_cases f:j=i
  .subst f;rw[ez N]at e;cases e;show⟨v,by rw[ez hi],sl⟩
  .have⟨v',e1,g⟩:=l.sl j k' u' (O j k' u' e f);show⟨v',by rw[hY (ri f)];show e1,g⟩
 .have z1:=T j1 k1 u1 r SM e1 e3;have J:=T j2 k2 u2 r Pn g e4;rcases z1 with⟨L,t,w⟩|⟨L,t,w⟩
  .rcases J with⟨b1,y,b3⟩|⟨b1,y,b3⟩
   .show L.trans b1.symm
   .subst t;have⟨D,e,A,G,x,I⟩:=h;rw[w]at e;cases e;show(x (.inl ⟨j2,k2,u2,Pn,y,b3⟩)).elim
  .rcases J with⟨b1,y,b3⟩|⟨b1,y,b3⟩
   .subst y;have⟨D,e,A,G,x,I⟩:=h;rw[b3]at e;cases e;show(x (.inl ⟨j1,k1,u1,SM,t,w⟩)).elim
   .show l.inj j1 j2 k1 k2 u1 u2 r SM Pn t y w b3
 .rcases z with z|⟨j,u',D,e1,g,e3⟩
  .rcases b1 a z with z|⟨t,w⟩
   .show n.roots a (.inl z)
   .subst t;have⟨D,e,A,G,x,I⟩:=h;rw[w]at e;cases e;show .inr A
  .have⟨Y,q2⟩:=dD j u' e1;show n.roots a (.inr ⟨j,u',D,Y,q2▸g,e3⟩)
def oq(z:Ok C c0)(q:Ok C c)(n:Nx c0 c)(hi:i<c.σ.length)(t:aF C c0 c r.1 r.2 v)(h:W (eI i r) c.st Post):
  ∃y,y.σ=c.σ.set i (a5 v)/\y.H=c.H/\Ok C y/\Nx c0 y/\Post () y.st:=by
 have⟨k,u⟩:=r;cases k with
 |own =>
  have⟨x,st',e,f⟩:=h;cases e;have⟨g,l⟩:=q.put n hi (.inl rfl) z t;show⟨{c with σ:=c.σ.set i (a5 v),st:=c.st.set i (a5 (.own,u))},rfl,rfl,g,l,f⟩
 |loc =>
  have⟨x,st',e,f⟩:=h;cases e;have⟨g,l⟩:=q.put n hi (.inr (.inl rfl)) z t;show⟨{c with σ:=c.σ.set i (a5 v),st:=c.st.set i (a5 (.loc,u))},rfl,rfl,g,l,f⟩
 |any =>
  have⟨x,st',e,f⟩:=h;cases e;have⟨g,l⟩:=q.put n hi (.inr (.inr rfl)) z t;show⟨{c with σ:=c.σ.set i (a5 v),st:=c.st.set i (a5 (.any,u))},rfl,rfl,g,l,f⟩
 |bor j =>
  have⟨x,st',e,f⟩:=h;rw[show eI i (.bor j,u) c.st=match c.st[j]? with|some (a5 (.own,u))=>a5 (Ex.ok (),(c.st.set j (a5 (.loc,u))).set i (a5 (.loc,u)))|_=>b6 from rfl]at e;split at e
  .rename_i w B;cases e;obtain⟨v',e1,r,G,_⟩:=q.sl j _ _ B;have D:c.σ[j]?=a5 (a5 v):=t.2;rw[D]at e1;cases e1;subst G;have⟨I,J,A⟩:=q.xx n B D;have⟨g,l⟩:=Ok.put (c:={c with S:=λa=>c.S a\/a=r,st:=c.st.set j (a5 (.loc,w))}) I J (k:=.loc) (u:=w) (v:=.ref r) hi (.inr (.inl rfl)) z A;show⟨{S:=λa=>c.S a\/a=r,H:=c.H,σ:=c.σ.set i (a5 (.ref r)),st:=(c.st.set j (a5 (.loc,w))).set i (a5 (.loc,w)),kid:=c.kid},rfl,rfl,g,l,f⟩
  .cases e
 |_=>show t.elim
end
section
abbrev tG(C:Ct)(t:Bool)(is:List Nat):TG:=λv σ H Q=>∃c0 c r,c.σ=σ/\c.H=H/\Ok C c0/\Ok C c/\Nx c0 c/\aF C c0 c r.1 r.2 v/\W (dF t is r) c.st λ_ st' =>
 ∀a,a.st=st'->Ok C a->Nx c0 a->(∀j,j∉is->a.σ[j]?=c.σ[j]?)->a.σ.length=c.σ.length->Q a.σ a.H
structure rF(X:Cx)(e:nH)(i:Nat):Prop where
 is:∃x pos,e=.Name x pos/\X.N[i]?=a5 x/\Loc X.env.scope x/\(X.fn x=bD\/X.env.scope.names.lookup x=a5 .local)
def DT(f:X.N.Nodup)(h:rF X e i):PG X e (tG C cb [i]):=by
 have⟨x,pos,rfl,d,g,k⟩:=h.is;rintro a s σ H v u Q I rv ⟨c0,c,r,rfl,rfl,l,m,n,b,w⟩;have hi:i<c.σ.length:=by rw[I.len];show(dt.mp d).1
 have⟨o,e1,p,t,y,q⟩:=oq (r:=r) l m n hi b w;show sG f d g k a s c.σ c.H v u Q I rv ?_;have z:=q o rfl t y (λj A=>by rw[e1,hY (by intro z;show A (by simp[z]))]) (by rw[e1];simp);rw[e1,p]at z;show z
abbrev SN:List Nat->N3
 |[]=>E1
 |i::is=>B1 (sF i) (SN is)
inductive e_(X:Cx):List nH->List Nat->Prop where
 |nil:e_ X [] []
 |cons {e:nH} {es:List nH} {i:Nat} {is:List Nat} (h:rF X e i) (t:e_ X es is):e_ X (e::es) (i::is)
def vd(a:X.N.Nodup)(h:e_ X es is):OI X es (SN is):=by
 induction h with
 |nil=>show zR
 |cons h t b =>
  have⟨x,pos,rfl,c,d,e⟩:=h.is;show v9 (sG a c d e) b rfl
def rG(h:e_ X es is):(Pp es X.env).length=is.length/\(Pp es X.env).findIdx? (·.1)=b6:=by
 induction h with
 |nil=>show⟨rfl,rfl⟩
 |cons h t a =>
  have⟨x,pos,rfl,b,c,d⟩:=h.is;show⟨?_,?_⟩
  .change(_::_).length=_;simp[a.1]
  .change ZM _ (_::_)=b6;rw[List.findIdx?_cons,ë (by simp),a.2];rfl
theorem tH(hk:kE k=k)(f:Ok C c0):∀{is:List Nat}{us:List U}{vs:List V}{c:Cf}{Post:Unit->au->Prop}{Q:L2.St->Hp->Prop},Ok C c->Nx c0 c->(∀i∈is,i<c.σ.length)->ar C (SK C c k) c.H us vs->W (sets is (us.map λu=>(k,u))) c.st Post ->
  (∀b,Post () b.st->Ok C b->Nx c0 b->(∀j,j∉is->b.σ[j]?=c.σ[j]?)->b.σ.length=c.σ.length->Q b.σ b.H)->SN is vs c.σ c.H Q
 |[],[],vs,c,Post,Q,ok,n,hi,a,w,q=>by
  rw[show sets [] (R9 (λu=>(k,u)) [])=pure () from rfl,ao]at w;show⟨a,q c w ok n (λ_ _=>rfl) rfl⟩
 |[],u::us,vs,c,Post,Q,ok,n,hi,a,w,q=>(a9.mp w).elim
 |i::is,[],vs,c,Post,Q,ok,n,hi,a,w,q=>(a9.mp w).elim
 |i::is,u::us,vs,c,Post,Q,ok,n,hi,a,w,q=>by
  rw[show sets (i::is) (R9 (λu=>(k,u)) (u::us))=eI i (k,u) >>= λ_=>sets is (us.map λu=>(k,u)) from rfl,af]at w;have⟨v,r,rfl,g,h⟩:=a;have l:k=.own\/k=.loc\/k=.any:=by cases k<;>simp[kE]at hk<;>simp
  have A:k≠.own:=by cases k<;>simp[kE]at hk<;>simp
  have rt:aF C c0 c k u v:=by rw[<-hk];show aF.item g
  have⟨m,o⟩:=ok.put n (hi i (by simp)) l f rt;have es:eI i (k,u)=λst=>a5 (.ok (),st.set i (a5 (k,u))):=by cases k<;>simp[kE]at hk<;>rfl
  obtain⟨_,st',e,s⟩:=w;rw[es]at e;cases e;show⟨v,r,rfl,tH (c:={c with σ:=c.σ.set i (a5 v),st:=c.st.set i (a5 (k,u))}) hk f m o (λj d=>by simpa using hi j (by simp[d])) (by cases k<;>show h) s λb p t x y hl=>?_⟩;show q b p t x (λj d=>?_) (by rw[hl];simp);rw[y j (λz=>d (by simp[z])),hY (λz=>d (by simp[z]))]
def FE(m:X.calm=bD)(o:C.K=X.K)(q:X.N.Nodup)(h:e_ X es is)(hl:∀i∈is,i<X.N.length):PG X (.Tuple es O pos) (tG C bD is):=by
 rintro a s σ H v u Q I rv ⟨c0,c,r,rfl,rfl,t,f,n,d,w⟩;have⟨e1,y⟩:=rG h;show CL m (vd q h) e1 y a s c.σ c.H v u Q I rv ?_;have⟨k,z⟩:=r;cases z with
 |tup us =>
  rw[show dF bD is (k,.tup us)=sets is (us.map λu=>(kE k,u)) from by cases is<;>rfl]at w;have⟨a',vs,rfl,g,j⟩:=d.tuple f;rw[o]at g;have b:us.length=is.length:=by
   have e:∀(is:List Nat) (l:List (Kd×U)) (st:au) (P:Unit->au->Prop),W (sets is l) st P->l.length=is.length:=by
    intro is;induction is with
    |nil=>intro l st P w;cases l with
     |nil=>rfl
     |cons _ _=>show(a9.mp w).elim
    |cons i is A=>intro l st P w;cases l with
     |nil=>show(a9.mp w).elim
     |cons x l =>
      rw[show sets (i::is) (x::l)=eI i x >>= λ_=>sets is l from rfl,af]at w;obtain⟨_,_,_,w⟩:=w;rw[k9,k9,A l _ _ w]
   simpa using e _ _ _ _ w
  show⟨a',vs,rfl,g,by rw[<-j.len,b],?_⟩;show tH (k:=kE k) (by cases k<;>rfl) t f n (λi hi=>by rw[I.len];show hl i hi) (by cases k<;>show j) w λB p D G J L=>p B rfl D G J L
 |_=>cases is<;>show(a9.mp w).elim
end
section
variable{X:Cx}{C:Ct}{pins:List (gi×Obj)}{s:gm}{c0 c c1:Cf}
variable{a b d e o tg iter elt:nH}{es ifs:List nH}{m ma mb md me:M (Kd×U)}{ms:M (List (Kd×U))}{ta tb tc:M Bool}{pos p p2 apos G':Pos}
def vf{m:M α}{st:au}{Q:α->au->Prop}:W (inScope k m) st Q↔W m (lg k b6++st) λa st'=>Q a (st'.drop k):=by
 constructor
 .rintro⟨a,st',e,h⟩;unfold inScope at e;cases q:m (lg k b6++st) with
  |none=>rw[q]at e;cases e
  |some r=>have⟨r1,r2⟩:=r;rw[q]at e;cases e;show⟨a,r2,q,h⟩
 .rintro⟨a,st',e,h⟩;show⟨a,st'.drop k,by unfold inScope;rw[e],h⟩
abbrev Cf.ext(k:Nat)(c:Cf):Cf:={c with σ:=lg k b6++c.σ,st:=lg k b6++c.st,kid:=λj=>c.kid (j - k)}
abbrev Cf.cut(k:Nat)(c:Cf):Cf:={c with σ:=c.σ.drop k,st:=c.st.drop k,kid:=λj=>c.kid (k+j)}
def f_(h:(lg k b6++l)[j]?=a5 (a5 x)):∃i,j=k+i/\l[i]?=a5 (a5 x):=by
 by_cases f:j<k
 .rw[nc (by simpa using f)]at h;rw[Hf]at h;rw[ê f]at h;cases h
 .show⟨j - k,⋯,?_⟩;rw[mu (by simp;lia)]at h;simpa using h
def fb:(lg k b6++l)[k+i]?=l[i]?:=by
 rw[mu (by simp)];simp
def xG:(c.ext k).R1 r↔c.R1 r:=by
 constructor
 .rintro⟨j,kd,u,g,h,f⟩;have⟨i,rfl,e⟩:=f_ h;rw[Cf.ext,fb]at f;show⟨i,kd,u,g,e,f⟩
 .rintro⟨i,kd,u,g,h,f⟩;show⟨k+i,kd,u,g,by rw[Cf.ext,fb];show h,by rw[Cf.ext,fb];show f⟩
def ot{a:gi}(h:(c.ext k).RD j a):∃i,j=k+i/\c.RD i a:=by
 have⟨u,r,e1,f,g⟩:=h;have⟨i,rfl,e⟩:=f_ e1;rw[Cf.ext,fb]at f;show⟨i,rfl,u,r,e,f,?_⟩;have:(c.ext k).kid (k+i)=c.kid i:=by change c.kid (k+i - k)=_;rw[O1]
 rw[this]at g;show g
def FF(h:(c.ext k).R r):c.R r:=by
 rcases h with h|⟨j,h⟩
 .show .inl (xG.mp h)
 .obtain⟨i,_,h⟩:=ot h;show .inr ⟨i,h⟩
def Ok.ext(k:Nat)(f:Ok C c):Ok C (c.ext k)/\Nx c (c.ext k):=by
 show⟨⟨f.same,f.JC,f.par,f.io,by simp[Cf.ext,f.len],λj kd u e=>?_,λi j k1 k2 u u' r z A e1 g x y=>?_,⟨λj u r e1 g=>?_,λi j a l n=>?_,λj a l n=>?_⟩⟩,⟨⟨λ_ _ h _=>h,λ_ o h=>⟨o,h⟩,λa h=>.inl (FF h),λ_ h=>h,λ_ h=>.inl h⟩⟩⟩
 .have⟨i,rfl,B⟩:=f_ e;have⟨v,e1,g⟩:=f.sl i kd u B;show⟨v,by rw[Cf.ext,fb];show e1,g⟩
 .have⟨q,rfl,D⟩:=f_ e1;have⟨t,rfl,G⟩:=f_ g;rw[Cf.ext,fb]at x y;rw[f.inj q t k1 k2 u u' r z A D G x y]
 .have⟨i,rfl,e⟩:=f_ e1;rw[Cf.ext,fb]at g;have:(c.ext k).kid (k+i)=c.kid i:=by change c.kid (k+i - k)=_;rw[O1]
  rw[this];show f.dd.kd i u r e g
 .have⟨q,rfl,w⟩:=ot l;have⟨t,rfl,H⟩:=ot n;rw[f.dd.dj q t a w H]
 .have⟨i,rfl,w⟩:=ot l;show f.dd.d1 i a w (xG.mp n)
def xH{a:gi}(h:(c.cut k).R1 a):c.R1 a:=by
 have⟨j,kd,u,i,f,g⟩:=h;rw[Cf.cut,DD]at f g;show⟨k+j,kd,u,i,f,g⟩
def ou{a:gi}(h:(c.cut k).RD j a):c.RD (k+j) a:=by
 have⟨u,r,f,g,i⟩:=h;rw[Cf.cut,DD]at f g;show⟨u,r,f,g,i⟩
def Ok.cut(k:Nat)(f:Ok C c):Ok C (c.cut k)/\Nx c (c.cut k):=by
 show⟨⟨f.same,f.JC,f.par,f.io,by simp[Cf.cut,f.len],λj kd u e=>?_,λi j k1 k2 u u' r w x e1 g q t=>?_,⟨λj u r e1 g=>?_,λi j a l n=>?_,λj a l n=>f.dd.d1 _ a (ou l) (xH n)⟩⟩,⟨⟨λ_ _ h _=>h,λ_ o h=>⟨o,h⟩,λa h=>.inl (h.elim (λz=>.inl (xH z)) λ⟨j,z⟩=>.inr ⟨k+j,ou z⟩),λ_ h=>h,λ_ h=>.inl h⟩⟩⟩
 .rw[Cf.cut,DD]at e;have⟨v,e1,g⟩:=f.sl _ kd u e;show⟨v,by rw[Cf.cut,DD];show e1,g⟩
 .rw[Cf.cut,DD]at e1 g q t;have:=f.inj _ _ k1 k2 u u' r w x e1 g q t;lia
 .rw[Cf.cut,DD]at e1 g;show f.dd.kd _ u r e1 g
 .have:=f.dd.dj _ _ a (ou l) (ou n);lia
def A5(h:∀j,j∉il k->g[j]?=(lg k b6++σ)[j]?)(hl:g.length=(lg k (b6:Option V)++σ).length):∃f:L2.St,f.length=k/\g=f++σ:=by
 show⟨g.take k,by rw[pb,hl];simp,?_⟩;apply Y3;intro j;by_cases i:j<k
 .rw[nc (by rw[pb,hl];simp;lia),List.getElem?_take,ê i]
 .rw[h j (by simpa using i),mu (by simp;lia),mu (by rw[pb,hl];simp;lia)];congr 1
  rw[pb,hl];simp
def vg(e1:c1.σ=c0.σ)(HF:Ok C c1)(n1:Nx c0 c1)(hw:Walk C c1 rs xs J)(h3:W (bG k t tc me rs xs []) c1.st λus st'=>W (pure (Kd.own,U.lst us)) st' (cu C c0 Q)):
  sU k J (tG C t (il k)) (Jn C tc) (HH C me) Q c0.σ c1.H:=by
 show⟨λi m ys H=>∃c f,c.H=H/\c.σ=c0.σ/\Ok C c/\Nx c1 c/\m=xs.length - i/\i<=xs.length/\ar C c.S c.H f ys/\f.length<=cK/\W (bG k t tc me rs (xs.drop i) f) c.st λus st'=>W (pure (Kd.own,U.lst us)) st' (cu C c0 Q),⟨xs.length,c1,[],rfl,e1,HF,Nx.refl c1,by simp,mx _,rfl,mx _,by simpa using h3⟩,?_⟩;rintro i m ys H ⟨c,f,rfl,G,y,A,rfl,hi,h,l,w⟩;show⟨by rw[<-h.len];show l,?_⟩;have g:lj rs c1 c:=λj u _=>by rw[G,e1]
 by_cases I:i<xs.length
 .right
  rw[N0 I]at w;rw[show bG k t tc me rs (xs[i]::xs.drop (i+1)) f=av rs >>= λ_=>inScope k (dF t (il k) xs[i] >>= λ_=>tc >>= λb=>if b=bD then(me >>= λr=>lift r >>= λu=>pure (a5 u)) else pure b6) >>= λr=>match r with|some u=>if f.length<cK then bG k t tc me rs (xs.drop (i+1)) (f++[u]) else M.fail|none=>bG k t tc me rs (xs.drop (i+1)) f from rfl,af,bY]at w;have⟨Ly,w⟩:=w;obtain⟨L,_⟩:=hw c y A g Ly;have⟨Pq,SO,QB⟩:=L i xs[i] (by simp[I]);show⟨SO,λJH H'=>∃c f,c.H=H'/\c.σ=c0.σ/\Ok C c/\Nx c1 c/\ar C c.S c.H f JH/\f.length<=cK/\W (bG k t tc me rs (xs.drop (i+1)) f) c.st λus st'=>W (pure (Kd.own,U.lst us)) st' (cu C c0 Q),λJH H' ⟨c',ID,z1,z2,z3,z4,z5,z6,z7⟩=>⟨xs.length - (i+1),⋯,c',ID,z1,z2,z3,z4,rfl,I,z5,z6,z7⟩,λx H' hy=>?_⟩;have⟨n,rfl,e4,e5,Ib,n2,rt⟩:=QB x H' hy;rw[af,vf,af]at w;have⟨QC,nx⟩:=Ib.ext k;have WM:aF C (n.ext k) (n.ext k) xs[i].1 xs[i].2 x:=by
   rcases Pq with z|z
   .rw[z]at rt ⊢;show rt
   .rw[z]at rt ⊢;show rt
  have eσ:(n.ext k).σ=lg k b6++c0.σ:=by rw[Cf.ext];change lg k b6++n.σ=_;rw[e4,G]
  show⟨n.ext k,n.ext k,xs[i],eσ,rfl,QC,QC,Nx.refl _,WM,?_⟩;have WN:(n.ext k).st=lg k b6++c.st:=by rw[Cf.ext];change lg k b6++n.st=_;rw[e5]
  rw[WN];show w.mono λ_ Ii w3 c3 e6 Ki n3 Pt Ot=>?_;subst e6;rw[eσ]at Pt Ot;have⟨N,O,T⟩:=A5 Pt Ot;show⟨N,O,T,?_⟩;have UB:Nx c c3:=(n2.trans nx).trans n3;rw[af]at w3;show⟨c3,rfl,rfl,Ki,w3.mono λb N9 q D e7 e8 Y n4=>?_⟩;subst e8;cases b with
  |false =>
   rw[ë ko]at q ⊢;rw[ao]at q;have⟨SQ,nk⟩:=Y.cut k;have nn:Nx c (D.cut k):=(UB.trans n4).trans nk;show⟨D.cut k,f,rfl,?_,SQ,A.trans nn,h.mv (y.mv nn),l,q⟩;change D.σ.drop k=_;rw[e7,T,RP O]
  |true =>
   rw[ê rfl]at q ⊢;rw[af]at q;show⟨D,e7,rfl,Y,q.mono λr K3 w5 c5 v e9 WO WQ n5 WR=>?_⟩;subst WO;rw[af]at w5;obtain⟨S',st',u,sS,WS,n6,SR,B,_,_⟩:=f9 Y WQ n5 WR.w w5;rw[ao]at B
   dsimp only at B
   split at B
   .rename_i hz;have⟨SQ,nk⟩:=WS.cut k;have nn:Nx c (Cf.cut k {c5 with S:=S',st:=st' }):=((UB.trans n4).trans n6).trans nk;show⟨Cf.cut k {c5 with S:=S',st:=st' },f++[u],rfl,?_,SQ,A.trans nn,(h.mv (y.mv nn)).snoc SR,by rw[j0];show hz,B⟩;change c5.σ.drop k=_;rw[e9,T,RP O]
   .show(a9.mp B).elim
 .left
  have J1:i=xs.length:=by lia
  subst J1;rw[Zb,show bG k t tc me rs [] f=av rs >>= λ_=>pure f from rfl,af,bY,ao,ao]at w;obtain⟨_,L⟩:=hw c y A g w.1;show⟨L _ (i5 _),λp hp=>cu.list w.2 G y (n1.trans A) h p hp⟩
def mP(l:Ok C c0)
  (h:W (ms >>= λrs=>av rs >>= λ_=>M.H9 (Kg n rs) >>= λxs=>bG k t tc me rs xs [] >>= λus=>pure (Kd.own,U.lst us)) c0.st (cu C c0 Q)) :
  wL k (Lx C n ms) (tG C t (il k)) (Jn C tc) (HH C me) c0.σ c0.H Q:=by
 rw[af]at h;show⟨c0,rfl,rfl,l,?_⟩;rw[af];show h.mono λrs st1 f=>?_;rw[af,bY]at f ⊢;show⟨f.1,?_⟩;have g:=f.2;rw[af]at g ⊢;show g.mono λxs st2 i=>?_;rw[ao];intro c1 J e1 q r u v j;rw[af]at i;subst q
 dsimp only at v j
 show vg e1 r u j i
def xI(S:cR X N own scope)(f:X.calm=bD)(hi:PI X tg iter (Lx C g ms))
  (i:∀D s H ex,PG (I_ X N scope D s H ex) tg (tG C t (il own.length))) (j:∀D s H ex,L_ (I_ X N scope D s H ex) ifs (Jn C tc)) (k:∀D s H ex,PE (I_ X N scope D s H ex) elt (HH C me))
  (hs:∀x,MB iter X.env x=pure x) :
  PE X (.ListComp elt [⟨tg,iter,ifs,0⟩] scope pos) (HH C (ms >>= λrs=>av rs >>= λ_=>M.H9 (Kg g rs) >>= λxs=>bG own.length t tc me rs xs [] >>= λus=>pure (.own,.lst us))):=by
 show PE.weak (Aj S f hi i j k hs) ?_;rintro σ H Q ⟨c0,rfl,rfl,l,h⟩;show mP l h
end
section
variable{a b d e o tg iter elt:nH}{es ifs:List nH}{m ma mb md me:M (Kd×U)}{ms:M (List (Kd×U))}{ta tb tc:M Bool}{pos p p2 apos G':Pos}{st:Le}{rest body:List Le}{f g mm:M Fl}{ns QD:Nat->Bool}
def xJ(C:Ct)(c:Cf):Kd->U->V->Prop
 |.own,u,v=>∃r,v=.ref r/\C.H₀ r=b6/\¬c.S r/\¬c.R r/\cH C c.S c.H r u
 |.loc,u,v=>Rep C c.S c.H u v
 |.any,u,v=>Rep C (PS C c.S) c.H u v
 |_,_,_=>False
def Hh(C:Ct)(Q:VK)(c:Cf):Kd->U->Prop
 |.io,u=>C.xw u c.H
 |k,u=>∀v,xJ C c k u v->Q v c.H
abbrev Fin(C:Ct)(D:Ends)(f:Fl)(c:Cf):Prop:=match f with
 |.nx=>D.nx c.σ c.H
 |.bk=>D.bk c.σ c.H
 |.ct=>D.ct c.σ c.H
 |.rt k u=>Hh C D.rt c k u
abbrev Kept(ns:Nat->Bool)(c h:Cf):Prop:=(∀j,ns j=bD->h.σ[j]?=c.σ[j]?)/\h.σ.length=c.σ.length
def Kept.refl:Kept ns c c:=⟨λ_ _=>rfl,rfl⟩
def Kept.trans(h:Kept ns c i)(h':Kept ns i k):Kept ns c k:=⟨λj z=>(h'.1 j z).trans (h.1 j z),h'.2.trans h.2⟩
def Kept.le(i:∀j,QD j=bD->ns j=bD)(h:Kept ns c k):Kept QD c k:=⟨λj z=>h.1 j (i j z),h.2⟩
def Kept.of(h:i.σ=c.σ):Kept ns c i:=⟨λj z=>by rw[h],by rw[h]⟩
abbrev eN(C:Ct)(c0:Cf)(ns:Nat->Bool)(D:Ends)(f:Fl)(st':au):Prop:=∀c,c.st=st'->Ok C c->Ns c0 c->Kept ns c0 c->Fin C D f c
abbrev IB(C:Ct)(ns:Nat->Bool)(m:M Fl):TS:=λD σ H=>∃c0:Cf,c0.σ=σ/\c0.H=H/\Ok C c0/\W m c0.st (eN C c0 ns D)
def rH(i:Ok C c)(n:Ns c0 c)(k:Kept ns c0 c)(h:W mm c.st (eN C c0 ns D)):IB C ns mm D c.σ c.H :=
 ⟨c,rfl,rfl,i,h.mono λf st j l e q r k2=>j l e q (n.trans r) (k.trans k2)⟩
def PS.weak(h:L2.PS X st t)(i:∀D σ H,t' D σ H->t D σ H):L2.PS X st t':=λc s σ H D I q=>h c s σ H D I (i D σ H q)
def Je.weak(h:Je X rest t)(i:∀D σ H,t' D σ H->t D σ H):Je X rest t':=λc s σ H D I q=>h c s σ H D I (i D σ H q)
def oy(i:∀j,QD j=bD->ns j=bD)(h:IB C QD mm D σ H):IB C ns mm D σ H :=
 let ⟨c0,e1,c,k,w⟩:=h;⟨c0,e1,c,k,w.mono λf st l n e q r k2=>l n e q r (k2.le i)⟩
def FG:Je X [] (IB C ns (pure .nx)):=by
 show Je.weak nA ?_;rintro D σ H ⟨c0,rfl,rfl,c,h⟩;rw[ao]at h;show h c0 rfl c (Ns.refl c0) Kept.refl
abbrev A6(m:M Fl)(f:Fl):M Fl:=match f with
 |.nx=>m
 |f=>pure f
def DU(l:L2.PS X st (IB C ns f))(n:Je X rest (IB C ns g)):Je X (st::rest) (IB C ns (f >>= A6 g)):=by
 show Je.weak (ia l n) ?_;rintro D σ H ⟨c0,rfl,rfl,q,h⟩;rw[af]at h;show⟨c0,rfl,rfl,q,h.mono λr st1 w j e c i k1=>?_⟩;subst e;cases r with
 |nx=>show rH c i k1 w
 |bk=>rw[show A6 g .bk=pure .bk from rfl,ao]at w;show w j rfl c i k1
 |ct=>rw[show A6 g .ct=pure .ct from rfl,ao]at w;show w j rfl c i k1
 |rt k u=>rw[show A6 g (.rt k u)=pure (.rt k u) from rfl,ao]at w;show w j rfl c i k1
def FH(i:PE X a (HH C ma))(hs:Ou a b6 pos.line X.env=pure cb):L2.PS X (.Expr a pos) (IB C ns (ma >>= λ_=>pure .nx)):=by
 show PS.weak (ib i hs) ?_;rintro D σ H ⟨c0,rfl,rfl,j,h⟩;show aB j h λx c v t w=>?_;rw[ao]at w;have:=w c rfl t.ok t.nx (Kept.of t.hσ);rw[<-t.hσ];show this
def DV:L2.PS X (.Return b6 pos) (IB C ns (pure (.rt .loc .HD))):=by
 show PS.weak zQ ?_;rintro D σ H ⟨c0,rfl,rfl,c,h⟩;rw[ao]at h;show h c0 rfl c (Ns.refl c0) Kept.refl .HD rfl
def xK(T:Ok C c0)(t:Pl C c0 c x v)(w:W (retS x) c.st (eN C c0 ns D)):D.rt v c.H:=by
 have⟨k,u⟩:=x;have⟨B,l,n,r⟩:=t;cases k with
 |own =>
  rw[show retS (.own,u)=pure (.rt .own u) from rfl,ao]at w;have⟨A,e,Y,h2,h3,h4⟩:=r;show w c rfl l n (Kept.of B) v ⟨A,e,(T.fw Y).1,h2,h3,h4⟩
 |loc =>
  rw[show retS (.loc,u)=pure (.rt .loc u) from rfl,ao]at w;show w c rfl l n (Kept.of B) v r
 |any =>
  rw[show retS (.any,u)=if HQ u=bD then pure (.rt .loc u) else pure (.rt .any u) from rfl]at w;split at w
  .rw[ao]at w;show w c rfl l n (Kept.of B) v (Rep.HQ (by assumption) r)
  .rw[ao]at w;show w c rfl l n (Kept.of B) v r
 |bor j =>
  have⟨fl,st',e,w⟩:=w;rw[show retS (.bor j,u) c.st=match c.st[j]? with|some (a5 (.own,u))=>a5 (Ex.ok (Fl.rt .own u),c.st.set j b6)|_=>b6 from rfl]at e;split at e
  .rename_i u' I;cases e;have Kh:j<c.st.length:=(dt.mp I).1;have y:∀(i:Nat) k u',(c.st.set j b6)[i]?=a5 (a5 (k,u'))->i≠j/\c.st[i]?=a5 (a5 (k,u')):=λi k u' e=>by
    by_cases J:i=j
    .subst J;rw[ez Kh]at e;cases e
    .rw[hY (ri J)]at e;show⟨J,e⟩
   have⟨v',e1,A,er,q1,q2,q3,q4⟩:=l.sl j _ _ I;have L:c.σ[j]?=a5 (a5 v):=r.2;rw[L]at e1;cases e1;subst er;have N:∀a,({c with st:=c.st.set j b6}:Cf).R1 a->c.R1 a:=λa ⟨i,k,h,hk,e1,s⟩=>⟨i,k,h,hk,(y i k h e1).2,s⟩
   have hR:∀a,({c with st:=c.st.set j b6}:Cf).R a->c.R a:=λa z=>z.elim (λz=>.inl (N a z)) λ⟨i,h,r2,e1,s,G⟩=>.inr ⟨i,h,r2,(y i .A' h e1).2,s,G⟩;have Mt:K8 C {c with st:=c.st.set j b6}:=l.dd.of rfl (λi h e=>⟨(y i .A' h e).2,rfl⟩) (λa z=>.inl (N a z)) (.up λ_ z=>z) λi a z=>⟨(l.root (.inr ⟨i,z⟩)).1,λo q=>q⟩
   have WT:Ok C {c with st:=c.st.set j b6}:=⟨l.same,l.JC,l.par,l.io,by simp[l.len],λi k h e=>l.sl i k h (y i k h e).2,λi O k k' Q h r hk IC e1 s G e4=>l.inj i O k k' Q h r hk IC (y i k Q e1).2 (y O k' h s).2 G e4,Mt⟩
   have nn:Ns c0 {c with st:=c.st.set j b6}:=⟨n.keep,n.there,λa z=>n.roots a (hR a z),n.sub,n.new⟩
   show w {c with st:=c.st.set j b6} rfl WT nn (Kept.of B) (.ref A) ⟨A,rfl,q3,q1,λz=>?_,q4⟩
   .rcases z with⟨i,k,h,hk,e1,s⟩|⟨i,h,r2,e1,s,G⟩
    .have⟨ne,IK⟩:=y i k h e1;show ne (l.inj i j k .own h _ A hk rfl IK I s L)
    .show l.dd.d1 i A ⟨h,r2,(y i .A' h e1).2,s,G⟩ ⟨j,.own,_,rfl,I,L⟩
  .cases e
 |_=>show r.elim
def FI(j:PE X a (HH C ma)):L2.PS X (.Return (a5 a) pos) (IB C ns (ma >>= retS)):=by
 show PS.weak (CJ j) ?_;rintro D σ H ⟨c0,rfl,rfl,i,h⟩;show aB i h λx c v t w=>xK i t w
end
section
def pX(d:∀j,ns j=bD->j≠i)(e:Ok C c0)(t:Pl C c0 c r v)(hi:i<c.σ.length)(w:W (eI i r >>= λ_=>(pure .nx:M Fl)) c.st (eN C c0 ns D)):D.nx (c0.σ.set i (a5 v)) c.H:=by
 rw[af]at w;have⟨a,e1,f,g,h,q⟩:=oq (r:=r) e t.ok t.nx hi t.rx w;rw[ao]at q;have z:=q a rfl g h ⟨λj k=>by rw[e1,t.hσ,hY (ri (d j k))],by rw[e1,t.hσ];simp⟩;have b:D.nx a.σ a.H:=z;rw[e1,f,t.hσ]at b;show b
def B8(e:∀j,ns j=bD->j≠i)(f:X.N.Nodup)(hi:X.N[i]?=a5 x)(g:Loc X.env.scope x)(k:X.fn x=bD\/X.env.scope.names.lookup x=a5 .local)(l:PE X a (HH C m))
  (hs:Ou a (a5 (.Name x pos')) pos.line X.env=pure cb):L2.PS X (.Assign [.Name x pos'] a pos) (IB C ns (m >>= λr=>eI i r >>= λ_=>pure .nx)):=by
 rintro b s σ H D I ⟨c0,rfl,rfl,d,h⟩;have n:i<c0.σ.length:=by rw[I.len];show(dt.mp hi).1
 show nE f hi g l hs k b s c0.σ c0.H D I (aB d h λr c v t w=>pX e d t (by rw[t.hσ];show n) w)
def DW(k:∀j,ns j=bD->j≠i)(S:cR X N own scope)(l:X.calm=bD)(m:X.N.Nodup)(f:X.N[i]?=a5 y)(o:X.env.scope.names.lookup y=a5 .local)
  (hi:PI X e a (Lx C p ms)) (q:∀D s H ex,PG (I_ X N scope D s H ex) e (tG C t (il own.length))) (u:∀D s H ex,L_ (I_ X N scope D s H ex) b (Jn C z)) (A:∀D s H ex,PE (I_ X N scope D s H ex) elt (HH C B))
  (G:Ou (.ListComp elt [⟨e,a,b,0⟩] scope pos) (a5 (.Name y J)) L.line X.env=pure bD) (hs:∀x,MB a X.env x=pure x) :
  L2.PS X (.Assign [.Name y J] (.ListComp elt [⟨e,a,b,0⟩] scope pos) L)
   (IB C ns ((ms >>= λrs=>av rs >>= λ_=>M.H9 (Kg p rs) >>= λxs=>bG own.length t z B rs xs [] >>= λus=>pure (.own,.lst us)) >>= λr=>eI i r >>= λ_=>pure .nx)):=by
 rintro d s σ H D I ⟨c0,rfl,rfl,g,h⟩;have O:i<c0.σ.length:=by rw[I.len];show(dt.mp f).1
 show Ak S l m f o hi q u A G hs d s c0.σ c0.H D I ?_;rw[af]at h;show mP g (h.mono λr st1 w c v e1 Q T n rt=>?_);subst Q;show pX k g ⟨e1,T,n,rt⟩ (by rw[e1];show O) w
def DX(g:∀j,ns j=bD->j∉is)(i:PE X a (HH C k))(l:PG X b (tG C bD is))(hs:QX [b] a pos.line X.env=pure cb)(m:UC [b] a X.env=pure b6)(n:(Pp [b] X.env).map (·.2)=[Rr b X.env]):
  L2.PS X (.Assign [b] a pos) (IB C ns (k >>= λr=>dF bD is r >>= λ_=>pure .nx)):=by
 show PS.weak (qF i l hs m n) ?_;rintro D σ H ⟨c0,rfl,rfl,d,h⟩;show aB d h λr c v t w=>?_;rw[af]at w;show⟨c0,c,r,t.hσ,rfl,d,t.ok,t.nx,t.rx,w.mono λ_ st1 f o e p q s hl=>?_⟩;subst e;rw[ao]at f;show f o rfl p q ⟨λj u=>by rw[s j (g j u),t.hσ],by rw[hl,t.hσ]⟩
def FJ(i:PT X a (Jn C j))(k:Je X l (IB C ns f))(m:Je X o (IB C ns g)):L2.PS X (.If a l o pos) (IB C ns (j >>= λp=>if p=bD then f else g)):=by
 show PS.weak (EZ i k m) ?_;rintro D σ H ⟨c0,rfl,rfl,q,h⟩;show fI q h λp c b d n w=>?_;have e:c0.σ=c.σ:=b.symm;rw[e];cases p with
 |true=>rw[ê rfl]at w ⊢;show rH d n (Kept.of b) w
 |false=>rw[ë ko]at w ⊢;show rH d n (Kept.of b) w
def FK(J:Wo (i4 X.prog X.w) X.A X.env X.xe)(L:PT X a (Jn C d))(N:Je X body (IB C ns f)):L2.PS X (.While a body [] pos) (IB C ns (gB d f n)):=by
 show PS.weak (wa J L N) ?_;rintro D σ H ⟨c0,rfl,rfl,O,h⟩;show⟨λm s H'=>∃c,c.H=H'/\c.σ=s/\Ok C c/\Ns c0 c/\Kept ns c0 c/\W (gB d f m) c.st (eN C c0 ns D),⟨n,c0,rfl,rfl,O,Ns.refl c0,Kept.refl,h⟩,?_⟩;rintro m s H' ⟨c,rfl,rfl,Q,t,v,w⟩;cases m with
 |zero=>show(a9.mp w).elim
 |succ m =>
  rw[show gB d f (m+1)=d >>= λb=>if b=bD then(f >>= λT=>match T with|.nx=>gB d f m|.ct=>gB d f m|.bk=>pure .nx|.rt k u=>pure (.rt k u)) else pure .nx from rfl]at w;show fI Q w λp j x y B g=>?_;have k2:Kept ns c j:=Kept.of x;rw[<-x];cases p with
  |false =>
   rw[ë ko]at g ⊢;rw[ao]at g;show g j rfl y (t.trans B) (v.trans k2)
  |true =>
   rw[ê rfl]at g ⊢;show⟨λG I=>∃c,c.H=I/\c.σ=G/\Ok C c/\Ns c0 c/\Kept ns c0 c/\W (gB d f m) c.st (eN C c0 ns D),λG I z=>⟨m,MG m,z⟩,?_⟩;rw[af]at g;show⟨j,rfl,rfl,y,g.mono λY Ii i l e o n3 k3=>?_⟩;subst e;have q:=(t.trans B).trans n3;have r:=(v.trans k2).trans k3;cases Y with
   |nx=>show⟨l,rfl,rfl,o,q,r,i⟩
   |ct=>show⟨l,rfl,rfl,o,q,r,i⟩
   |_=>rw[ao]at i;show i l rfl o q r
def FL(hp:Wo (i4 X.prog X.w) X.A X.env X.xe)(hc:X.calm=bD)(hi:PI X tg a (Lx C ik ms))(hg:PG X tg (tG C t is))(hb:Je X body (IB C (Ji r) f))(hs:∀x,MB a X.env x=pure x)
  (IU:∀j,ns j=bD->j∉is/\Ji r j=bD) :
  L2.PS X (.For tg a body [] pos) (IB C ns (ms >>= λrs=>av rs >>= λ_=>M.H9 (Kg ik rs) >>= λxs=>if tu rs is r=bD then forM t is f rs xs else M.fail)):=by
 show PS.weak (CS hp hc hi hg hb hs) ?_;rintro D σ H ⟨c0,rfl,rfl,ok,h⟩;rw[af]at h;show⟨c0,rfl,rfl,ok,?_⟩;rw[af];show h.mono λrs st1 s=>?_;rw[af,bY]at s ⊢;show⟨s.1,?_⟩;have h2:=s.2;rw[af]at h2 ⊢;show h2.mono λxs st2 v=>?_;rw[ao];intro b J e1 e2 HF n1 HB y;subst e2
 dsimp only at HB y
 split at v
 .rename_i NB;have SV:∀j u,(Kd.bor j,u)∈rs->j∉is/\Ji r j=bD:=λj u n=>by
   have:=rr.mp NB _ n;simpa using this
  show⟨λi m g H'=>∃c,c.H=H'/\c.σ=g/\Ok C c/\Ns b c/\Kept ns c0 c/\lj rs b c/\m=xs.length - i/\i<=xs.length/\W (forM t is f rs (xs.drop i)) c.st (eN C c0 ns D),
   ⟨xs.length,b,rfl,e1,HF,Ns.refl b,Kept.of e1,λ_ _ _=>rfl,by simp,mx _,by simpa using v⟩,?_⟩
  rintro i m g H' ⟨c,rfl,rfl,B,o,kc,G,rfl,J1,w⟩;by_cases I:i<xs.length
  .right
   rw[N0 I,show forM t is f rs (xs[i]::xs.drop (i+1))=av rs >>= λ_=>dF t is xs[i] >>= λ_=>f >>= λf'=>match f' with|.nx=>forM t is f rs (xs.drop (i+1))|.ct=>forM t is f rs (xs.drop (i+1))|.bk=>pure .nx|.rt k u=>pure (.rt k u) from rfl,af,bY]at w;have⟨Ly,w⟩:=w;obtain⟨L,_⟩:=y c B o G Ly;have⟨Pq,SO,QB⟩:=L i xs[i] (by simp[I]);show⟨SO,λg H'=>∃c,c.H=H'/\c.σ=g/\Ok C c/\Ns b c/\Kept ns c0 c/\lj rs b c/\W (forM t is f rs (xs.drop (i+1))) c.st (eN C c0 ns D),λg H' ⟨c',z1,z2,z3,z4,z5,z6,z7⟩=>⟨xs.length - (i+1),⋯,c',z1,z2,z3,z4,z5,z6,rfl,I,z7⟩,λx H' hy=>?_⟩;have⟨l,rfl,p,e5,Ib,n2,rt⟩:=QB x H' hy;rw[af]at w;have WU:aF C l l xs[i].1 xs[i].2 x:=by
    rcases Pq with z|z
    .rw[z]at rt ⊢;show rt
    .rw[z]at rt ⊢;show rt
   show⟨l,l,xs[i],p,rfl,Ib,Ib,Nx.refl l,WU,?_⟩;rw[e5];show w.mono λ_ Ii w3 c3 e6 Ki n3 UE Ot=>?_;subst e6;rw[af]at w3;show⟨c3,rfl,rfl,Ki,w3.mono λfl N9 q d e N n4 O=>?_⟩;subst e;have Q:Ns b d:=((o.trans n2.toNs).trans n3.toNs).trans n4;have T:Kept ns c0 d:=by
    show kc.trans ⟨λj hj=>?_,by rw[O.2,Ot,p]⟩;have⟨Y,j2⟩:=IU j hj;rw[O.1 j j2,UE j Y,p]
   have UG:lj rs b d:=λj u n=>by
    have⟨Y,j2⟩:=SV j u n;rw[O.1 j j2,UE j Y,p];show G j u n
   cases fl with
   |nx=>show⟨d,rfl,rfl,N,Q,T,UG,q⟩
   |ct=>show⟨d,rfl,rfl,N,Q,T,UG,q⟩
   |_=>rw[ao]at q;show q d rfl N (n1.toNs.trans Q) T
  .left
   have WV:i=xs.length:=by lia
   subst WV;rw[Zb,show forM t is f rs []=av rs >>= λ_=>pure .nx from rfl,af,bY,ao]at w;obtain⟨_,L⟩:=y c B o G w.1;show⟨L _ (i5 _),w.2 c rfl B (n1.toNs.trans o) kc⟩
 .show(a9.mp v).elim
end
section
def Ok.mod(b:Ok C c)(n:Ns c0 c)(hk:k.root=bD)(hi:c.st[i]?=a5 (a5 (k,u)))(y:c.σ[i]?=a5 (a5 (.ref r)))(IW:∀a,a≠r->H' a=c.H a)(T:∃o,H' r=a5 o)
  (new:Mv c.S c.H c.S H'->cH C c.S H' r u'):Ok C {c with H:=H',st:=c.st.set i (a5 (k,u'))}/\Ns c0 {c with H:=H',st:=c.st.set i (a5 (k,u'))}:=by
 have Y:c.R1 r:=⟨i,k,u,hk,hi,y⟩
 have hR:c.R r:=.inl Y;have⟨B,q2,q3,o,ho,LY⟩:=b.root hR;have D:i<c.st.length:=(dt.mp hi).1;have h:∀{a:gi} {o':HO},a≠r->c.H a=a5 o'->H' a=a5 o':=λG e=>by rw[IW _ G];show e
 have A:Mv c.S c.H c.S H':=⟨λ_ z=>z,λa o' e t=>h (λz=>by subst z;rw[ho]at e;cases e;show LY t) e,λa o' z e=>h (λd=>B (d▸z)) e⟩
 have Mi:Mv (PS C c.S) c.H (PS C c.S) H':=⟨λ_ z=>z,A.Oi,λa o' z e=>h (λd=>by subst d;show z.elim q2 B) e⟩
 have I:∀(j:Nat) k' w,(c.st.set i (a5 (k,u')))[j]?=a5 (a5 (k',w))->j≠i->c.st[j]?=a5 (a5 (k',w)):=λj k' w e G=>by rw[hY (ri G)]at e;show e
 have back:∀(j:Nat) k' w,k'.root=bD->(c.st.set i (a5 (k,u')))[j]?=a5 (a5 (k',w))->∃J,c.st[j]?=a5 (a5 (k',J)):=λj k' w _ e=>by
  by_cases l:j=i
  .subst l;rw[ez D]at e;cases e;show⟨u,hi⟩
  .show⟨w,I j k' w e l⟩
 have b1:∀a,({c with H:=H',st:=c.st.set i (a5 (k,u'))}:Cf).R1 a->c.R1 a:=λa HS=>by
  have⟨j,k',w,f,e1,g⟩:=HS;have⟨J,L⟩:=back j k' w f e1;show⟨j,k',J,f,L,g⟩
 have dD:∀(j:Nat) (w:U),(c.st.set i (a5 (k,u')))[j]?=a5 (a5 (.A',w))->c.st[j]?=a5 (a5 (.A',w)):=λj w e=>by
  by_cases l:j=i
  .subst l;rw[ez D]at e;cases e;cases hk
  .show I j .A' w e l
 have Mt:K8 C {c with H:=H',st:=c.st.set i (a5 (k,u'))}:=b.dd.of rfl (λj w e=>⟨dD j w e,rfl⟩) (λa z=>.inl (b1 a z)) A λj a z=>⟨(b.root (.inr ⟨j,z⟩)).1,λo' e=>h (λd=>b.dd.d1 j a z (d▸Y)) e⟩
 show⟨⟨λa o' e z=>?_,λa z=>?_,b.par,λa z=>?_,by simp[b.len],λj k' w e=>?_,λj1 j2 k1 k2 w1 w2 m f p e1 g N e4=>?_,Mt⟩,n.trans ⟨λa o' e z=>h (λd=>z (d▸hR)) e,λa o' e=>?_,λa z=>?_,λ_ z=>z,λ_ z=>.inl z⟩⟩
 .have f:=b.same a o' e z;show h (λd=>?_) f;subst d;rcases q3 with q3|q3
  .rw[e]at q3;cases q3
  .show z q3
 .have⟨f,o',p⟩:=b.JC a z;show⟨f,o',h (λd=>B (d▸z)) p⟩
 .have⟨f,o',p⟩:=b.io a z;show⟨f,?_⟩;by_cases s:a=r
  .subst s;show T
  .show⟨o',h s p⟩
 .by_cases l:j=i
  .subst l;rw[ez D]at e;cases e;have⟨v,e1,g⟩:=b.sl j _ _ hi;rw[y]at e1;cases e1;show⟨.ref r,y,?_⟩;have nr:=new A;cases k with
   |own=>obtain⟨m,q,x,O,Q,_⟩:=g;cases q;show⟨r,rfl,x,O,Q,nr⟩
   |io=>obtain⟨m,q,x,O,Q,_⟩:=g;cases q;show⟨r,rfl,x,O,Q,nr⟩
   |_=>cases hk
  .have e0:=I j k' w e l;have⟨v,e1,g⟩:=b.sl j k' w e0;show⟨v,e1,g.mv A Mi λIC m q=>?_⟩;obtain⟨Qy,JD,x,_⟩:=g.rt IC;rw[q]at JD;cases JD;show⟨x,λo' e=>h (λz=>?_) e⟩;subst z;show l (b.inj j i k' k w u m IC hk e0 hi (by rw[e1,q]) y)
 .have⟨QE,L⟩:=back j1 k1 w1 f e1;have⟨UH,a2⟩:=back j2 k2 w2 p g;show b.inj j1 j2 k1 k2 QE UH m f p L a2 N e4
 .by_cases s:a=r
  .subst s;show T
  .show⟨o',h s e⟩
 .rcases z with z|⟨j,w,m,e1,g,N⟩
  .show .inl (.inl (b1 a z))
  .show .inl (.inr ⟨j,w,m,dD j w e1,g,N⟩)
def gb{f:U->Option U}{st:au}(h:W (modS i f) st Q):∃k u u',k.root=bD/\st[i]?=a5 (a5 (k,u))/\f u=a5 u'/\Q () (st.set i (a5 (k,u'))):=by
 obtain⟨_,st',e,q⟩:=h;unfold modS at e;split at e
 .rename_i k u hs;split at e
  .rename_i hk;cases a:f u with
   |none=>rw[a]at e;cases e
   |some u'=>rw[a]at e;cases e;show⟨k,u,u',hk,hs,a,q⟩
  .cases e
 .cases e
def c6{st:au}(h:W (dh i) st Q):∃k u,k≠.A'/\st[i]?=a5 (a5 (k,u))/\Q (if k.root=bD then .bor i else k,u) st:=by
 have⟨r,st',e,q⟩:=h;unfold dh at e;split at e
 .cases e
 .rename_i k u a hs;cases e;show⟨k,u,λz=>a z,hs,q⟩
 .cases e
def FN(L:C.K=X.K)(O:X.N[i]?=a5 x)(Q:IT X.env.scope x)(T:(x==("__debug__":Str))=cb)(Y:(x==("__classdict__":Str))=cb)(ha:PE X a (HH C ma))
  (IH:((wh f (i7 [a] X.env)).all (λx=>!x.1)&&(M6 f (Ig [] X.env)).all (λx=>x.1.isSome)
   && cL ([a].length+([]:List ME).length+(if ([]:List ME).isEmpty then 0 else 1)<30))=bD)
  (HL:(apos.endLine==f.line)=bD) (n:i7 [a] X.env=[(cb,uk a X.env)]) :
  L2.PS X (.Expr (.Call (.Attribute (.Name x px) "append" apos) [a] [] f) pos) (IB C ns (dh i >>= λx=>Mr x.2 >>= λ_=>ma >>= λr=>lift r >>= λu=>modS i (xn u) >>= λ_=>pure .nx)):=by
 show PS.weak (ib (pF PySem.F.plainAttrs_list PySem.F.slot_list_append PySem.F.type_list_append jc (aZ O Q T Y) (dC ha d7 n) rfl IH HL n rfl)) ?_;rintro D σ H ⟨c0,rfl,rfl,e,h⟩;rw[af]at h;have⟨k0,u0,KR,o,h⟩:=c6 h;have⟨p,g,l⟩:=e.sl i k0 u0 o;show⟨p,g,?_⟩;cases u0 with
 |lst s =>
  rw[af,show Mr (U.lst s)=pure () from rfl,ao]at h;have Pu:aF C c0 c0 (if k0.root=bD then .bor i else k0) (.lst s) p:=by
   by_cases hk:k0.root=bD
   .rw[ê hk];show⟨⟨k0,hk,o⟩,g⟩
   .rw[ë hk];cases k0 with
    |loc=>show l
    |any=>show l
    |bor j=>show l.elim
    |A'=>show(KR rfl).elim
    |_=>show absurd rfl hk
  obtain⟨a0,JO,m,N6,_⟩:=Pu.list e;show⟨by rw[m];show .inl ⟨rfl,JO,L▸N6⟩,?_⟩;show aB e h λr c v t w=>?_;rw[af]at w;obtain⟨S',st',u,sS,y,n1,b,A,_,_⟩:=f9 e t.ok t.nx t.rx.w w;rw[af]at A;have⟨k,u1,u2,hk,hs,d,q⟩:=gb A;have B:c.σ[i]?=a5 (a5 (.ref a0)):=by rw[t.hσ,g,m]
  cases u1 with
  |lst ys =>
   simp only[xn]at d;split at d
   .rename_i hz;cases d;have⟨v',e1,e2⟩:=y.sl i k (.lst ys) hs;have G:c.σ[i]?=a5 (a5 v'):=e1;rw[B]at G;cases G;obtain⟨r',er,_,_,_,ws,hw,I⟩:=e2.rt hk;cases er;have MW:c.H a0=a5 (.lst ws):=hw;show⟨a0,ws,v,m,rfl,MW,by rw[<-I.len];show hz,?_⟩;rw[ao]at q;have⟨Ib,n2⟩:=Ok.mod (c:={c with S:=S',st:=st' }) (H':=upd c.H a0 (.lst (ws++[v]))) (u':=.lst (ys++[u])) y n1.toNs hk hs B (λa ne=>ak ne) ⟨_,aq⟩ λJ=>⟨ws++[v],aq,(I.mv J).snoc (b.mv J)⟩
    have z:=q _ rfl Ib n2 (Kept.of t.hσ);rw[<-t.hσ];show z
   .cases d
  |_=>cases d
 |_=>rw[af]at h;show(a9.mp h).elim
def FO(u:C.K=X.K)(O:X.N[i]?=a5 x)(Q:IT X.env.scope x)(T:(x==("__debug__":Str))=cb)(Y:(x==("__classdict__":Str))=cb)(ha:PE X a (HH C ma))
  (IH:((wh f (i7 [a] X.env)).all (λx=>!x.1)&&(M6 f (Ig [] X.env)).all (λx=>x.1.isSome)
   && cL ([a].length+([]:List ME).length+(if ([]:List ME).isEmpty then 0 else 1)<30))=bD)
  (HL:(apos.endLine==f.line)=bD) (y:i7 [a] X.env=[(cb,uk a X.env)]) :
  L2.PS X (.Expr (.Call (.Attribute (.Name x px) "extend" apos) [a] [] f) pos) (IB C ns (dh i >>= λx=>Mr x.2 >>= λ_=>ma >>= λr=>modS i (mf r) >>= λ_=>pure .nx)):=by
 show PS.weak (ib (pF PySem.F.plainAttrs_list PySem.F.slot_list_extend PySem.F.type_list_extend rn (aZ O Q T Y) (dC ha d7 y) rfl IH HL y rfl)) ?_;rintro D σ H ⟨c0,rfl,rfl,g,h⟩;rw[af]at h;have⟨k0,u0,KR,A,h⟩:=c6 h;have⟨B,l,m⟩:=g.sl i k0 u0 A;show⟨B,l,?_⟩;cases u0 with
 |lst G =>
  rw[af,show Mr (U.lst G)=pure () from rfl,ao]at h;have Pu:aF C c0 c0 (if k0.root=bD then .bor i else k0) (.lst G) B:=by
   by_cases hk:k0.root=bD
   .rw[ê hk];show⟨⟨k0,hk,A⟩,l⟩
   .rw[ë hk];cases k0 with
    |loc=>show m
    |any=>show m
    |bor j=>show m.elim
    |A'=>show(KR rfl).elim
    |_=>show absurd rfl hk
  obtain⟨a0,JO,n,N6,_⟩:=Pu.list g;show⟨by rw[n];show .inl ⟨rfl,JO,u▸N6⟩,?_⟩;show aB g h λr c v t w=>?_;rw[af]at w;have⟨k,o,u2,hk,hs,d,q⟩:=gb w;have I:c.σ[i]?=a5 (a5 (.ref a0)):=by rw[t.hσ,l,n]
  have⟨rk,ru⟩:=r;have key:∃ys e b vs,o=.lst ys/\v=.ref b/\(Ip C.K c.H b vs\/Iq C.K c.H b vs)/\ar C c.S c.H e vs/\ys.length+e.length<=cK/\u2=.lst (ys++e):=by
   cases ru with
   |lst e =>
    cases o with
    |lst ys =>
     simp only[mf]at d;split at d
     .rename_i hz;cases d;have⟨b,vs,ev,p,s⟩:=t.rx.list t.ok;show⟨_,_,b,vs,rfl,ev,.inl p,di hz.2 s,hz.1,rfl⟩
     .cases d
    |_=>simp[mf]at d
   |tup e =>
    cases o with
    |lst ys =>
     simp only[mf]at d;split at d
     .rename_i hz;cases d;have⟨b,vs,ev,p,s⟩:=t.rx.tuple t.ok;show⟨_,_,b,vs,rfl,ev,.inr p,di hz.2 s,hz.1,rfl⟩
     .cases d
    |_=>simp[mf]at d
   |_=>simp[mf]at d
  have⟨ys,e,b,vs,rfl,rfl,hB,hz,hl,rfl⟩:=key;have⟨v',e1,e2⟩:=t.ok.sl i k (.lst ys) hs;rw[I]at e1;cases e1;obtain⟨r',er,_,_,_,ws,hw,J⟩:=e2.rt hk;cases er;show⟨a0,b,ws,vs,n,rfl,hw,u▸hB,by rw[<-J.len,<-hz.len];show hl,?_⟩;rw[ao]at q;have⟨Ib,n2⟩:=Ok.mod (c:=c) (H':=upd c.H a0 (.lst (ws++vs))) (u':=.lst (ys++e)) t.ok t.nx.toNs hk hs I (λa ne=>ak ne) ⟨_,aq⟩ λL=>⟨ws++vs,aq,(J.mv L).append (hz.mv L)⟩
  have z:=q _ rfl Ib n2 (Kept.of t.hσ);rw[<-t.hσ];show z
 |_=>rw[af]at h;show(a9.mp h).elim
def nB.or(h:nB X t)(h':nB X t'):nB X (λo i v H Q=>t o i v H Q\/t' o i v H Q):=λa s σ H o i v b c u Q I r1 r2 d q =>
 q.elim (h a s σ H o i v b c u Q I r1 r2 d) (h' a s σ H o i v b c u Q I r1 r2 d)
def set_dict(c:X.A.units+1<KA):nB X (λo i v H Q=>∃a H',o=.ref a/\uK H a i v H'/\Q H'):=by
 rintro b s σ H o i v h j u Q I d e rv ⟨a,H',rfl,g,q⟩;cases d;show uM c I g e rv λs' f=>⟨H',f,q⟩
def xM{S:gi->Prop}{kvs:List (Key×V)}(a:kvs.map (·.1)=ks.map ox)(c:ar C S H us (kvs.map (·.2)))(d:Rep C S H u v):
  (putK kvs (ox y) v).map (·.1)=(dput ks us y u).1.map ox/\ar C S H (dput ks us y u).2 ((putK kvs (ox y) v).map (·.2)):=by
 have e:(kvs.any λkv=>cL (kv.1=(ox y:Key)))=cL (y∈ks):=by
  rw[ij];show(dM (x:=y) a c).2
 unfold putK dput;rw[e];by_cases b:y∈ks
 .rw[ê (by simpa using b),ê b];constructor
  .rw[mh];rw[<-a];apply x4;intro p _;change(if p.1=ox y then(p.1,v) else p).1=p.1;split<;>rfl
  .clear e b;induction kvs generalizing ks us with
   |nil =>
    have:ks=[]:=by simpa using a.symm
    subst this;simp[ar]
   |cons p kvs g =>
    cases ks with
    |nil=>simp at a
    |cons k ks =>
     cases us with
     |nil=>simp[ar]at c
     |cons u0 us =>
      rw[g8,g8,P8]at a;have⟨j,l,f,h,i⟩:=c;rw[g8]at f;cases f;rw[g8,SX,g8,g8];show⟨_,_,rfl,?_,g a.2 i⟩;by_cases hk:k=y
      .rw[ê (by show hk),ê (by rw[a.1,hk])];show d
      .rw[ë (by show hk),ë (by rw[a.1];intro z;show hk (To z))];show h
 .rw[ë (by simpa using b),ë b];show⟨by rw[oD,a,oD];rfl,by rw[oD];show c.snoc d⟩
def FP(hP:C.P=X.prog)(hw:C.w=X.w)(hK:C.K=X.K)(hu:X.A.units+60<KA)(hN:X.N[i]?=a5 x)(hv:IT X.env.scope x)(hd:(x==("__debug__":Str))=cb)(HN:(x==("__classdict__":Str))=cb)
  (ha:PE X a (HH C ma)) (hb:PE X b (HH C mb)) (hs:QX [.Subscript (.Name x px) b p] a pos.line X.env=pure cb) (ND:UC [.Subscript (.Name x px) b p] a X.env=pure b6)
  (L:∀v,Rr (.Subscript (.Name x px) b p) X.env v=(do
   let B <-Kw [v] (uk (.Name x px) X.env)
   let O <-Kw [v,B] (uk b X.env)
   Rz p
   Kw [v,B,O] (R' B O v)
   Vt [v,B,O] [])) :
  L2.PS X (.Assign [.Subscript (.Name x px) b p] a pos) (IB C ns (ma >>= λr=>dh i >>= λ_=>mb >>= λx=>dg [r,x] >>= λus=>modS i (tq us) >>= λ_=>pure .nx)):=by
 show PS.weak (qF ha (v_ (aZ hN hv hd HN) hb (nB.or set_list (set_dict (X:=X) ⋯)) L) hs ND rfl) ?_;rintro D σ H ⟨c0,rfl,rfl,ok,h⟩;show aB ok h λr c v t w=>?_;rw[af]at w;have⟨k0,u0,KR,Ja,w⟩:=c6 w;have⟨v0,e0,Kx⟩:=t.ok.sl i k0 u0 Ja;show⟨v0,by rw[<-t.hσ];show e0,?_⟩;rw[af]at w;show⟨c,t.hσ,rfl,t.ok,w.mono λy st2 w2 f m G e4 Ib n2 r2=>?_⟩;subst e4;rw[af]at w2;have SY:=t.nx.trans n2;have rws:cA C c0 f [r,y] [v,m]:=⟨v,[m],rfl,t.rx.w.on t.ok n2 (G.trans t.hσ.symm),⟨m,[],rfl,(r2.w).from t.nx,rfl,λ_ i r' v' e _=>by simp at e⟩,λhk i r' v' Q e6 IC=>by
  cases i with
  |zero=>simp at Q e6;subst Q e6;show k_ t.rx.w r2.w hk IC
  |succ i=>simp at Q⟩
 have⟨S',st',us,sS,HF,n1,g,w1⟩:=iJ ok Ib SY rws w2;rw[af]at w1;have⟨k,I,u2,hk,JI,d,q⟩:=gb w1;rw[ao]at q;have hσ:f.σ[i]?=a5 (a5 v0):=by rw[G,<-t.hσ];show e0
 have⟨v',e1,e2⟩:=HF.sl i k I JI;have IK:f.σ[i]?=a5 (a5 v'):=e1;rw[hσ]at IK;cases IK;have⟨a0,er,z1,z2,z3,l⟩:=e2.rt hk;subst er;have WW:({f with S:=S',st:=st' }:Cf).σ[i]?=a5 (a5 (.ref a0)):=hσ;obtain⟨QE,ws,ew,UI,UH,Yf,Yg,UJ,WX⟩:∃u ws,us=[u,ws]/\Rep C S' f.H u v/\∃(_:Unit) (_:Unit),True/\Rep C S' f.H ws m/\True:=by
  cases us with
  |nil=>simp[ar]at g
  |cons u us =>
   obtain⟨_,_,e,q1,q2⟩:=g;cases e;cases us with
   |nil=>simp[ar]at q2
   |cons u' us =>
    obtain⟨_,_,e,q3,q4⟩:=q2;cases e;cases us with
    |nil=>show⟨u,u',rfl,q1,(),(),trivial,q3,trivial⟩
    |cons _ _=>obtain⟨_,_,e,_⟩:=q4;cases e
 subst ew;rw[show tq [QE,ws] I=fy ws QE I from rfl]at d;have n:∀{H':Hp} ,(∀a,a≠a0->H' a=f.H a)->(∃o,H' a0=a5 o)->(Mv S' f.H S' H'->cH C S' H' a0 u2)->D.nx c0.σ H':=λ{H'} IW hr new=>by
  have⟨Ki,n3⟩:=Ok.mod (c:={f with S:=S',st:=st' }) (H':=H') (u':=u2) HF n1.toNs hk JI WW IW hr new;have z:=q _ rfl Ki n3 (Kept.of G);rw[<-G];show z
 cases I with
 |lst xs =>
  cases ws with
  |int j =>
   simp only[fy,hQ]at d;have⟨T,hj,rfl⟩:=d;have⟨vs,Y,s⟩:=l;have ey:m=.int j:=UJ;show .inl ⟨a0,vs,j,T,rfl,ey,Y,by rw[<-s.len];show hj,?_⟩;show n (λa ne=>ak ne) ⟨_,aq⟩ λJ=>⟨vs.set T v,aq,(s.mv J).set T (UI.mv J)⟩
  |_=>simp[fy]at d
 |Hz ks vs =>
  cases ws with
  |str y' =>
   simp only[fy]at d;split at d
   .rename_i hz;cases d;have⟨kvs,Y,s,h3⟩:=l;have ey:m=.str y':=UJ;subst ey;have hl:kvs.length=ks.length:=by have:=ï Jt s;simpa using this
    show .inr ⟨a0,_,rfl,uK.k (k:=ox y') Y (by rw[hl];show hz),?_⟩;show n (λa ne=>ak ne) ⟨_,aq⟩ λJ=>?_;have⟨g1,g2⟩:=xM (y:=y') s h3 UI;show⟨_,aq,g1,g2.mv J⟩
   .cases d
  |_=>simp[fy]at d
 |_=>simp[fy]at d
def Ok.slot(d:Ok C c)(e:k≠.A')(hs:c.st[i]?=a5 (a5 (k,u))):∃v,c.σ[i]?=a5 (a5 v)/\aF C c c (if k.root=bD then .bor i else k) u v:=by
 have⟨f,b,a⟩:=d.sl i k u hs;show⟨f,b,?_⟩;by_cases hk:k.root=bD
 .rw[ê hk];show⟨⟨k,hk,hs⟩,b⟩
 .rw[ë hk];cases k with
  |loc=>show a
  |any=>show a
  |bor j=>show a.elim
  |A'=>show(e rfl).elim
  |_=>show absurd rfl hk
end
end TM
namespace TM
open PySem L2 PyProof.Rows PySem.W
section
def FQ(d:X.calm=bD)(f:Gl X x)(g:X.mg x=a5 (.ref c))(i:(x==("__debug__":Str))=cb)(j:excIn X.K c Oh "ValueError.__new__"=bD)(k:PE X a (HH C l))(m:i7 [a] X.env=[(cb,uk a X.env)])
  (n:∀H',C.xw (.str x) H'->∀b σ s e s',Inv X b σ H' s->bX X.prog X.w X.stack H' s e c b6 .none H' s'->X.xe (.ref e) s'):L2.PS X (.Raise (a5 (.Call (.Name x p) [a] [] r)) b6 pos) (IB C ns (l >>= λ_=>pure (.rt .io (.str x)))):=by
 show PS.weak (xf d f g i j k m) ?_;rintro D σ H ⟨c0,rfl,rfl,o,h⟩;show aB o h λx q v t w=>?_;rw[ao]at w;show λb s e s' I F=>n _ (w q rfl t.ok t.nx (Kept.of t.hσ)) b _ s e s' I F
end
end TM
namespace TM
open PySem L2 PyProof.Rows
section
def Ok.xN(d:Ok C c)(n:Ns c0 c)(hi:c.st[i]?=a5 (a5 (.A',u)))(A:c.σ[i]?=a5 (a5 (.ref r)))(IW:∀a,¬c.RD i a->H' a=c.H a)(N:∀a o,c.H a=a5 o->∃o',H' a=a5 o')
  (new:Mv c.S c.H c.S H'->aO C c.S H' r as' u') (O:∀a∈as',a∈c.kid i\/(¬c.R a/\c0.H a=b6)) :
  Ok C {c with H:=H',st:=c.st.set i (a5 (.A',u')),kid:=λj=>if j=i then as' else c.kid j}/\Ns c0 {c with H:=H',st:=c.st.set i (a5 (.A',u')),kid:=λj=>if j=i then as' else c.kid j}:=by
 have Q:i<c.st.length:=(dt.mp hi).1;have rt:∀{a},c.RD i a->¬c.S a/\¬C.Jo a/\(C.H₀ a=b6\/C.IO a)/\∃o,c.H a=a5 o/\¬Tp o:=λz=>d.root (.inr ⟨i,z⟩);have h0:∀{a},c.RD i a->C.H₀ a=b6\/C.IO a:=λ⟨u1,r1,e1,b,e3⟩=>(aO.fr (d.dd.kd i u1 r1 e1 b) _ (gj.mpr e3)).2.2;have p:∀{a:gi} {o:HO},¬c.RD i a->c.H a=a5 o->H' a=a5 o:=λz e=>by rw[IW _ z];show e
 have L:Mv c.S c.H c.S H':=⟨λ_ z=>z,λa o e t=>p (λz=>by
  obtain⟨_,_,_,o',h,nt⟩:=rt z;rw[e]at h;cases h;show nt t) e,λa o z e=>p (λl=>(rt l).1 z) e⟩
 have Mi:Mv (PS C c.S) c.H (PS C c.S) H':=⟨λ_ z=>z,L.Oi,λa o z e=>p (λl=>z.elim (rt l).2.1 (rt l).1) e⟩
 have B:∀(j:Nat) k w,(c.st.set i (a5 (.A',u')))[j]?=a5 (a5 (k,w))->j≠i->c.st[j]?=a5 (a5 (k,w)):=λj k w e ne=>by rw[hY (ri ne)]at e;show e
 have T:∀(j:Nat) k w,k.root=bD->(c.st.set i (a5 (.A',u')))[j]?=a5 (a5 (k,w))->c.st[j]?=a5 (a5 (k,w)):=λj k w hk e=>by
  by_cases f:j=i
  .subst f;rw[ez Q]at e;cases e;cases hk
  .show B j k w e f
 have b1:∀a,({c with H:=H',st:=c.st.set i (a5 (.A',u')),kid:=λj=>if j=i then as' else c.kid j}:Cf).R1 a->c.R1 a:=λa ⟨j,k,w,hk,e1,b⟩=>⟨j,k,w,hk,T j k w hk e1,b⟩
 have D:∀j a,({c with H:=H',st:=c.st.set i (a5 (.A',u')),kid:=λj=>if j=i then as' else c.kid j}:Cf).RD j a->c.RD j a\/(j=i/\¬c.R a/\c0.H a=b6):=λj a HS=>by
  have⟨w,g,e1,b,e3⟩:=HS;by_cases f:j=i
  .subst f;have G:c.σ[j]?=a5 (a5 (.ref g)):=b;rw[A]at G;cases G;rcases e3 with rfl|e3
   .show .inl ⟨u,_,hi,A,.inl rfl⟩
   .have Y:a∈as':=by simpa using e3
    rcases O a Y with z|z
    .show .inl ⟨u,_,hi,A,.inr z⟩
    .show .inr ⟨rfl,z⟩
  .have Y:a=g\/a∈c.kid j:=by simpa[f] using e3
   show .inl ⟨w,g,B j _ w e1 f,b,Y⟩
 show⟨⟨λa o e z=>p (λl=>(h0 l).elim (λy=>by rw[y]at e;cases e) z) (d.same a o e z),λa z=>?_,d.par,λa z=>?_,by simp[d.len],λj k w e=>?_,λs q k1 k2 w1 w2 g h1 h2 e1 b e3 e4=>d.inj s q k1 k2 w1 w2 g h1 h2 (T s k1 w1 h1 e1) (T q k2 w2 h2 b) e3 e4,⟨λj w g e1 b=>?_,λs q a I J=>?_,λj a I J=>?_⟩⟩,⟨λa o e z=>?_,λa o e=>?_,λa z=>?_,n.sub,n.new⟩⟩
 .have⟨q1,o,q2⟩:=d.JC a z;show⟨q1,N a o q2⟩
 .have⟨q1,o,q2⟩:=d.io a z;show⟨q1,N a o q2⟩
 .by_cases f:j=i
  .subst f;rw[ez Q]at e;cases e;show⟨.ref r,A,r,rfl⟩
  .have⟨v,e1,b⟩:=d.sl j k w (B j k w e f);show⟨v,e1,b.mv L Mi λhk g er=>?_⟩;obtain⟨Qy,JD,I,_⟩:=b.rt hk;rw[er]at JD;cases JD;show⟨I,λo h=>p (λz=>d.dd.d1 i g z ⟨j,k,w,hk,B j k w e f,by rw[e1,er]⟩) h⟩
 .by_cases f:j=i
  .subst f;rw[ez Q]at e1;cases e1;have G:c.σ[j]?=a5 (a5 (.ref g)):=b;rw[A]at G;cases G;have z:=new L;simpa using z
  .have IK:=B j _ w e1 f;have IC:(if j=i then as' else c.kid j)=c.kid j:=ë f;change aO C c.S H' g (if j=i then as' else c.kid j) w;rw[IC];show aO.mv L (λa ha=>⟨(d.root (.inr ⟨j,w,g,IK,b,gj.mp ha⟩)).1,λo h=>p (λz=>f (d.dd.dj j i a ⟨w,g,IK,b,gj.mp ha⟩ z)) h⟩) (d.dd.kd j w g IK b)
 .rcases D s a I with m|⟨rfl,m,_⟩
  .rcases D q a J with x|⟨rfl,x,_⟩
   .show d.dd.dj s q a m x
   .show(x (.inr ⟨s,m⟩)).elim
  .rcases D q a J with x|⟨rfl,x,_⟩
   .show(m (.inr ⟨q,x⟩)).elim
   .rfl
 .rcases D j a I with m|⟨rfl,m,_⟩
  .show d.dd.d1 j a m (b1 a J)
  .show m (.inl (b1 a J))
 .show p (λl=>by
   rcases n.roots a (.inr ⟨i,l⟩) with y|y
   .show z y
   .rw[e]at y;cases y) (n.keep a o e z)
 .have⟨o',h⟩:=n.there a o e;show N a o' h
 .rcases z with z|⟨j,z⟩
  .show n.roots a (.inl (b1 a z))
  .rcases D j a z with y|⟨_,_,y⟩
   .show n.roots a (.inr ⟨j,y⟩)
   .show .inr y
def Ok.newD(h:Ok C c)(x:c.H p=b6)(hi:i<c.σ.length):
  Ok C {c with H:=upd c.H p (.dK []),σ:=c.σ.set i (a5 (.ref p)),st:=c.st.set i (a5 (.A',.Hz [] [])),kid:=λj=>if j=i then [] else c.kid j}/\Ns c {c with H:=upd c.H p (.dK []),σ:=c.σ.set i (a5 (.ref p)),st:=c.st.set i (a5 (.A',.Hz [] [])),kid:=λj=>if j=i then [] else c.kid j}:=by
 have⟨m,O⟩:=h.lay (o:=.dK []) x;have⟨q1,q2,q3,q4,A⟩:=h.fw x;have B:i<c.st.length:=by rw[h.len];show hi
 have t:∀(j:Nat) k w,(c.st.set i (a5 (.A',.Hz [] [])))[j]?=a5 (a5 (k,w))->j≠i->c.st[j]?=a5 (a5 (k,w)):=λj k w e D=>by rw[hY (ri D)]at e;show e
 have n:∀(j:Nat),j≠i->(c.σ.set i (a5 (.ref p)))[j]?=c.σ[j]?:=λj D=>hY (ri D);have G:∀(j:Nat) k w,k.root=bD->(c.st.set i (a5 (.A',.Hz [] [])))[j]?=a5 (a5 (k,w))->j≠i/\c.st[j]?=a5 (a5 (k,w)):=λj k w hk e=>by
  by_cases b:j=i
  .subst b;rw[ez B]at e;cases e;cases hk
  .show⟨b,t j k w e b⟩
 have b1:∀a,({c with H:=upd c.H p (.dK []),σ:=c.σ.set i (a5 (.ref p)),st:=c.st.set i (a5 (.A',.Hz [] [])),kid:=λj=>if j=i then [] else c.kid j}:Cf).R1 a->c.R1 a:=λa I=>by
  have⟨j,k,w,hk,e1,d⟩:=I;have⟨b,J⟩:=G j k w hk e1;show⟨j,k,w,hk,J,by rw[<-n j b];show d⟩
 have q:∀j a,({c with H:=upd c.H p (.dK []),σ:=c.σ.set i (a5 (.ref p)),st:=c.st.set i (a5 (.A',.Hz [] [])),kid:=λj=>if j=i then [] else c.kid j}:Cf).RD j a->(j≠i/\c.RD j a)\/(j=i/\a=p):=λj a I=>by
  have⟨w,f,e1,d,e3⟩:=I;by_cases b:j=i
  .subst b;have r:(c.σ.set j (a5 (.ref p)))[j]?=a5 (a5 (.ref f)):=d;rw[ez hi]at r;cases r;rcases e3 with rfl|e3
   .show .inr ⟨rfl,rfl⟩
   .simp at e3
  .have LZ:a=f\/a∈c.kid j:=by simpa[b] using e3
   show .inl ⟨b,w,f,t j _ w e1 b,by rw[<-n j b];show d,LZ⟩
 show⟨⟨m.same,m.JC,m.par,m.io,by simp[h.len],λj k w e=>?_,λl g k1 k2 Q T f Y h2 e1 d e3 e4=>?_,⟨λj w f e1 d=>?_,λl g a L s=>?_,λj a L s=>?_⟩⟩,⟨O.keep,O.there,λa z=>?_,λ_ z=>z,λ_ z=>.inl z⟩⟩
 .by_cases b:j=i
  .subst b;rw[ez B]at e;cases e;show⟨.ref p,ez hi,p,rfl⟩
  .have⟨v,e1,d⟩:=m.sl j k w (t j k w e b);show⟨v,(n j b).trans e1,d⟩
 .have⟨MX,a1⟩:=G l k1 Q Y e1;have⟨Mu,a2⟩:=G g k2 T h2 d;show h.inj l g k1 k2 Q T f Y h2 a1 a2 ((n l MX).symm.trans e3) ((n g Mu).symm.trans e4)
 .by_cases b:j=i
  .subst b;rw[ez B]at e1;cases e1;have r:(c.σ.set j (a5 (.ref p)))[j]?=a5 (a5 (.ref f)):=d;rw[ez hi]at r;cases r;change aO C c.S (upd c.H p (.dK [])) p (if j=j then [] else c.kid j) (.Hz [] []);rw[ê rfl];show⟨[],aq,rfl,rfl,by simp,λa ha=>by rw[js.mp ha];show⟨q2,q3,q1⟩,rfl⟩
  .have J:=t j _ w e1 b;have z:=m.dd.kd j w f J ((n j b).symm.trans d);change aO C c.S (upd c.H p (.dK [])) f (if j=i then [] else c.kid j) w;rw[ë b];show z
 .rcases q l a L with⟨_,u⟩|⟨rfl,rfl⟩
  .rcases q g a s with⟨_,N⟩|⟨rfl,rfl⟩
   .show h.dd.dj l g a u N
   .show(A (.inr ⟨l,u⟩)).elim
  .rcases q g a s with⟨_,N⟩|⟨rfl,_⟩
   .show(A (.inr ⟨g,N⟩)).elim
   .rfl
 .rcases q j a L with⟨_,u⟩|⟨rfl,rfl⟩
  .show h.dd.d1 j a u (b1 a s)
  .show A (.inl (b1 a s))
 .rcases z with z|⟨j,z⟩
  .show .inl (.inl (b1 a z))
  .rcases q j a z with⟨_,y⟩|⟨_,rfl⟩
   .show .inl (.inr ⟨j,y⟩)
   .show .inr x
end
section
theorem du.rep{S S':gi->Prop}(hs:∀a,S a->S' a):∀{us:List U}{as:List gi},(∀a∈as,S' a)->du C S H us as->ar C S' H us (as.map V.ref)
 |[],as,_,h=>by cases h;show rfl
 |u::us,as,c,h=>by
  have⟨a,as',ys,vs,rfl,rfl,d,e,f⟩:=h;show⟨.ref a,as'.map V.ref,rfl,⟨a,vs,rfl,.inl ⟨c a (by simp),.inl d⟩,e.mv (.up hs)⟩,du.rep hs (λb g=>c b (by simp[g])) f⟩
def Ok.Hi(b:Ok C c)(n:Nx c0 c)(A:∃ks us,u=.Hz ks us)(hi:c.st[i]?=a5 (a5 (.A',u)))(p:c.σ[i]?=a5 (a5 (.ref r))):
  Ok C {c with S:=λa=>c.S a\/a∈c.kid i,st:=c.st.set i (a5 (.own,u))}/\Nx c0 {c with S:=λa=>c.S a\/a∈c.kid i,st:=c.st.set i (a5 (.own,u))}:=by
 have O:i<c.st.length:=(dt.mp hi).1;have⟨ks,us,A⟩:=A;have Q:=b.dd.kd i u r hi p;have fr:=aO.Ss (A▸Q);have mem:∀a,(a=r\/a∈c.kid i)->c.RD i a:=λa z=>⟨u,r,hi,p,z⟩
 have up:Mv c.S c.H (λa=>c.S a\/a∈c.kid i) c.H:=.up λa=>.inl;have WY:Mv (PS C c.S) c.H (PS C λa=>c.S a\/a∈c.kid i) c.H:=.up λa z=>z.imp id .inl;have QF:r∉c.kid i/\cH C (λa=>c.S a\/a∈c.kid i) c.H r u:=by
  subst A;have⟨kvs,B,D,h3,h4,h5,h6⟩:=Q;show⟨(nC.mp h4).1,kvs,B,D,?_⟩;rw[h3];show h6.rep (λa=>.inl) λa G=>.inr G
 have m:∀(j:Nat) k w,(c.st.set i (a5 (.own,u)))[j]?=a5 (a5 (k,w))->j≠i->c.st[j]?=a5 (a5 (k,w)):=λj k w e ne=>by rw[hY (ri ne)]at e;show e
 have b1:∀a,({c with S:=λa=>c.S a\/a∈c.kid i,st:=c.st.set i (a5 (.own,u))}:Cf).R1 a->c.R1 a\/a=r:=λa T=>by
  have⟨j,k,w,hk,e1,f⟩:=T;by_cases d:j=i
  .subst d;have IA:c.σ[j]?=a5 (a5 (.ref a)):=f;rw[p]at IA;cases IA;show .inr rfl
  .show .inl ⟨j,k,w,hk,m j k w e1 d,f⟩
 have I:∀j a,({c with S:=λa=>c.S a\/a∈c.kid i,st:=c.st.set i (a5 (.own,u))}:Cf).RD j a->j≠i/\c.RD j a:=λj a T=>by
  have⟨w,g,e1,f,s⟩:=T;by_cases d:j=i
  .subst d;rw[ez O]at e1;cases e1
  .show⟨d,w,g,m j _ w e1 d,f,s⟩
 show⟨⟨b.same,λa z=>?_,b.par,b.io,by simp[b.len],λj k w e=>?_,λl h k1 k2 J L g B D e1 f s Y=>?_,⟨λj w g e1 f=>?_,λl h a t z2=>b.dd.dj l h a (I l a t).2 (I h a z2).2,λj a t z2=>?_⟩⟩,⟨⟨n.keep,n.there,λa z=>?_,λa z=>.inl (n.sub a z),λa z=>?_⟩⟩⟩
 .rcases z with z|z
  .show b.JC a z
  .obtain⟨o,ho,_⟩:=aO.there Q a (i8 _ z);show⟨(fr a (i8 _ z)).2.2,o,ho⟩
 .by_cases d:j=i
  .subst d;rw[ez O]at e;cases e;have⟨q1,q2,q3⟩:=fr r (kj ..);show⟨.ref r,p,r,rfl,λz=>z.elim q1 QF.1,q2,q3,QF.2⟩
  .have⟨v,e1,f⟩:=b.sl j k w (m j k w e d);show⟨v,e1,f.mv up WY λhk g er=>?_⟩;obtain⟨Qy,JD,t,_⟩:=f.rt hk;rw[er]at JD;cases JD;show⟨λz=>z.elim t λz=>b.dd.d1 i g (mem g (.inr z)) ⟨j,k,w,hk,m j k w e d,by rw[e1,er]⟩,λo q=>q⟩
 .by_cases N:l=i
  .by_cases x:h=i
   .rw[N,x]
   .subst N;have LZ:c.σ[l]?=a5 (a5 (.ref g)):=s;rw[p]at LZ;cases LZ;show(b.dd.d1 l r (mem r (.inl rfl)) ⟨h,k2,L,D,m h k2 L f x,Y⟩).elim
  .by_cases x:h=i
   .subst x;have UK:c.σ[h]?=a5 (a5 (.ref g)):=Y;rw[p]at UK;cases UK;show(b.dd.d1 h r (mem r (.inl rfl)) ⟨l,k1,J,B,m l k1 J e1 N,s⟩).elim
   .show b.inj l h k1 k2 J L g B D (m l k1 J e1 N) (m h k2 L f x) s Y
 .by_cases d:j=i
  .subst d;rw[ez O]at e1;cases e1
  .have IK:=m j _ w e1 d;show aO.mv up (λa G=>⟨λz=>z.elim (b.root (.inr ⟨j,w,g,IK,f,gj.mp G⟩)).1 λz=>d (b.dd.dj j i a ⟨w,g,IK,f,gj.mp G⟩ (mem a (.inr z))),λo q=>q⟩) (b.dd.kd j w g IK f)
 .have⟨d,y⟩:=I j a t;rcases b1 a z2 with z|z
  .show b.dd.d1 j a y z
  .subst z;show d (b.dd.dj j i a y (mem a (.inl rfl)))
 .rcases z with z|⟨j,z⟩
  .rcases b1 a z with z|rfl
   .show n.roots a (.inl z)
   .show n.roots a (.inr ⟨i,mem a (.inl rfl)⟩)
  .show n.roots a (.inr ⟨j,(I j a z).2⟩)
 .rcases z with z|z
  .show n.new a z
  .rcases n.roots a (.inr ⟨i,mem a (.inr z)⟩) with y|y
   .show .inr (.inl y)
   .show .inr (.inr y)
def A7(d:X.N[i]?=a5 x)(f:IT X.env.scope x)(g:(x==("__debug__":Str))=cb)(j:(x==("__classdict__":Str))=cb):PE X (.Name x pos) (HH C (xm i)):=by
 have l:=om (C:=C) (pos:=pos) d f g j;rintro b s σ H Q I ⟨c0,rfl,rfl,c,r,st',e,h⟩;unfold xm at e;split at e
 .rename_i ks us hs;cases e;have⟨v,e1,k,rfl⟩:=c.sl i _ _ hs;have⟨m,n⟩:=c.Hi (Nx.refl c0) ⟨_,_,rfl⟩ hs e1;have o:i<c0.st.length:=(dt.mp hs).1;show aZ d f g j b s c0.σ c0.H Q I ⟨.ref k,e1,h {c0 with S:=λa=>c0.S a\/a∈c0.kid i,st:=c0.st.set i (a5 (.own,.Hz ks us))} (.ref k) rfl rfl m n ⟨⟨.own,rfl,ez o⟩,e1⟩⟩
 .show l b s c0.σ c0.H Q I ⟨c0,rfl,rfl,c,r,st',e,h⟩
end
section
def gc{st:au}(h:W (gA i) st Q):∃ks us,st[i]?=a5 (a5 (.A',.Hz ks us))/\Q (ks,us) st:=by
 have⟨r,st',e,q⟩:=h;unfold gA at e;split at e
 .rename_i ks us hs;cases e;show⟨ks,us,hs,q⟩
 .cases e
def gf{st:au}(h:W (iE x) st Q):∃y,x.2=.str y/\Q y st:=by
 unfold iE at h;split at h
 .rename_i y e;rw[ao]at h;show⟨y,e,h⟩
 .show(a9.mp h).elim
def Ok.Hz(d:Ok C c)(hi:c.st[i]?=a5 (a5 (.A',.Hz ks us))):∃(r:gi) (kvs:List (Key×V)),c.σ[i]?=a5 (a5 (.ref r))/\c.H r=a5 (.dK kvs)/\kvs.map (·.1)=ks.map ox/\kvs.map (·.2)=(c.kid i).map V.ref /\
  (r::c.kid i).Nodup/\du C c.S c.H us (c.kid i)/\(∀y:Str,(dE kvs (ox y)).isSome=cL (y∈ks))/\∀(y:Str) (u:U),dP ks us y=a5 u->∃v,dE kvs (ox y)=a5 v/\Rep C (λa=>c.S a\/a∈c.kid i) c.H u v:=by
 have⟨v,e,r,rfl⟩:=d.sl i _ _ hi;have⟨kvs,j,b,f,k,m,g⟩:=d.dd.kd i _ r hi e;have h:ar C (λa=>c.S a\/a∈c.kid i) c.H us (kvs.map (·.2)):=by rw[f];show g.rep (λa=>.inl) λa l=>.inr l
 show⟨r,kvs,e,j,b,f,k,g,λy=>(dM (x:=y) b h).2,λy=>(dM (x:=y) b h).1⟩
def iM{k:Str->List Str×List U->M β}{Post:β->au->Prop}{Z:V->V->Hp->Prop}(j:Ok C c0)(h:W (l >>= λx=>iE x >>= λy=>gA i >>= λd=>k y d) c0.st Post)
  (hz:∀(c:Cf) (y:Str) (ks:List Str) (us:List U) (r:gi) (kvs:List (Key×V)),c.σ=c0.σ->Ok C c->Nx c0 c->c.H r=a5 (.dK kvs)->(dE kvs (ox y)).isSome=cL (y∈ks)->W (k y (ks,us)) c.st Post->Z (.str y) (.ref r) c.H) :
  HH C l c0.σ c0.H λv m=>∃v',c0.σ[i]?=a5 (a5 v')/\Z v v' m:=by
 show⟨c0,rfl,rfl,j,?_⟩;rw[af]at h;show W.mono h λx st' w c v b hs a n r=>?_;subst hs;have⟨q,s⟩:=x;rw[af]at w;have⟨y,e,f⟩:=gf w;clear w
 dsimp only at e r
 subst e;have ev:v=.str y:=r.str a;subst ev;rw[af]at f;have⟨ks,us,hs,w⟩:=gc f;obtain⟨g,kvs,e1,o,_,_,_,_,p,_⟩:=a.Hz hs;show⟨.ref g,by rw[<-b];show e1,hz c y ks us g kvs b a n o (p y) w⟩
abbrev xO(neg:Bool):CmpOp:=if neg=bD then .NotIn else .In
def A8(z:X.A.units+60<KA)(l:X.N[i]?=a5 x)(m:IT X.env.scope x)(o:(x==("__debug__":Str))=cb)(p:(x==("__classdict__":Str))=cb)(q:PE X a (HH C v))(t:NP (xO neg) (.Name x p2)=cb):
  PE X (.Compare a [xO neg] [.Name x p2] pos) (HH C (v >>= λx=>iE x >>= λy=>gA i >>= λd=>pure (.loc,.bl (Ph neg y d.1)))):=by
 rintro b s σ H Q I ⟨c0,rfl,rfl,u,h⟩;cases neg with
 |false =>
  show v5 (wF ⋯ q (aZ l m o p)) t b s c0.σ c0.H Q I (iM u h λc y ks us r kvs e f n g j w=>?_);rw[ao]at w;show⟨r,_,rfl,d8.k (k:=ox y) g,?_⟩;rw[j];show w c (.bl _) e rfl f n rfl
 |true =>
  show v5 (mH ⋯ q (aZ l m o p)) t b s c0.σ c0.H Q I (iM u h λc y ks us r kvs e f n g j w=>?_);rw[ao]at w;show⟨r,_,rfl,d8.k (k:=ox y) g,?_⟩;rw[j];show w c (.bl _) e rfl f n rfl
def DY(b:∀j,ns j=bD->j≠i)(c:X.N.Nodup)(hi:X.N[i]?=a5 x)(d:Loc X.env.scope x)(f:X.fn x=bD\/X.env.scope.names.lookup x=a5 .local)
  (hs:Ou (.Dict [] [] p) (a5 (.Name x pos')) pos.line X.env=pure cb):L2.PS X (.Assign [.Name x pos'] (.Dict [] [] p) pos) (IB C ns (B6 i >>= λ_=>pure .nx)):=by
 rintro a s σ H D I ⟨c0,rfl,rfl,g,h⟩;have k:i<c0.σ.length:=by rw[I.len];show(dt.mp hi).1
 show nE c hi d pI hs f a s c0.σ c0.H D I λq l=>?_;have⟨m,n⟩:=g.newD l k;rw[af]at h;obtain⟨_,st',e,w⟩:=h;cases e;rw[ao]at w;show w _ rfl m n ⟨λj o=>hY (ri (b j o)),by simp⟩
end
section
def A9(G:X.A.units+60<KA)(p:X.N[i]?=a5 x)(q:IT X.env.scope x)(t:(x==("__debug__":Str))=cb)(u:(x==("__classdict__":Str))=cb)(v:PE X a (HH C D))(z:NP (xO neg) (.Name x p2)=cb):
  PT X (.Compare a [xO neg] [.Name x p2] pos) (Jn C (D >>= λx=>iE x >>= λy=>gA i >>= λd=>pure (Ph neg y d.1))):=by
 rintro e s σ H Q I ⟨c0,rfl,rfl,B,h⟩;cases neg with
 |false =>
  show v7 (wF ⋯ v (aZ p q t u)) z e s c0.σ c0.H Q I (iM (Z:=λy x f=>∃a o,x=V.ref a/\d8 f a y o/\∃b,V.bl o.isSome=.bl b/\Q b f) B h λc y ks us r kvs g j n l m w=>?_);rw[ao]at w;show⟨r,_,rfl,d8.k (k:=ox y) l,?_⟩;rw[m];show⟨_,rfl,w c g rfl j n⟩
 |true =>
  show v7 (mH ⋯ v (aZ p q t u)) z e s c0.σ c0.H Q I (iM (Z:=λy x f=>∃a o,x=V.ref a/\d8 f a y o/\∃b,V.bl (!o.isSome)=.bl b/\Q b f) B h λc y ks us r kvs g j n l m w=>?_);rw[ao]at w;show⟨r,_,rfl,d8.k (k:=ox y) l,?_⟩;rw[m];show⟨_,rfl,w c g rfl j n⟩
theorem du.snoc{S:gi->Prop}{a:gi}(b:H a=a5 (.lst vs))(c:ar C S H ys vs):∀{us:List U}{as:List gi},du C S H us as->du C S H (us++[.lst ys]) (as++[a])
 |[],as,h=>by cases h;show⟨a,[],ys,vs,rfl,rfl,b,c,rfl⟩
 |u::us,as,h=>by
  have⟨a',as',d,vs',rfl,e,f,g,i⟩:=h;show⟨a',as'++[a],d,vs',rfl,e,f,g,du.snoc b c i⟩
def rJ{st:au}(h:W (k7 i y r) st Q):∃us ks vs,r=(.own,.lst us)/\st[i]?=a5 (a5 (.A',.Hz ks vs))/\y∉ks/\ks.length<cK/\Q () (st.set i (a5 (.A',.Hz (ks++[y]) (vs++[.lst us])))):=by
 have⟨k,u⟩:=r;cases k<;>cases u<;>first|show(a9.mp h).elim|skip
 rename_i us;obtain⟨_,st',e,q⟩:=h;unfold k7 at e
 dsimp only at e
 split at e
 .rename_i ks vs hs;split at e
  .rename_i hz;cases e;show⟨us,ks,vs,rfl,hs,hz.1,hz.2,q⟩
  .cases e
 .cases e
def DZ{i:Nat}{x:Str}{px:Pos}(hu:X.A.units+60<KA)(hN:X.N[i]?=a5 x)(hv:IT X.env.scope x)(hd:(x==("__debug__":Str))=cb)(HN:(x==("__classdict__":Str))=cb)
  (ha:PE X a (HH C ma)) (s:PE X b (HH C mb)) (hs:QX [.Subscript (.Name x px) b p] a pos.line X.env=pure cb) (ND:UC [.Subscript (.Name x px) b p] a X.env=pure b6)
  (u:∀v,Rr (.Subscript (.Name x px) b p) X.env v=(do
   let l <-Kw [v] (uk (.Name x px) X.env)
   let B <-Kw [v,l] (uk b X.env)
   Rz p
   Kw [v,l,B] (R' l B v)
   Vt [v,l,B] [])) :
  L2.PS X (.Assign [.Subscript (.Name x px) b p] a pos) (IB C ns (ma >>= λr=>gA i >>= λ_=>mb >>= λx=>iE x >>= λy=>k7 i y r >>= λ_=>pure .nx)):=by
 show PS.weak (qF ha (v_ (aZ hN hv hd HN) s (set_dict (X:=X) ⋯) u) hs ND rfl) ?_;rintro D σ H ⟨c0,rfl,rfl,J,h⟩;show aB J h λr c v t w=>?_;rw[af]at w;have⟨UL,us0,Ja,w⟩:=gc w;obtain⟨L,NF,O,g0,_⟩:=t.ok.Hz Ja;show⟨.ref L,by rw[<-t.hσ];show O,?_⟩;rw[af]at w;show⟨c,t.hσ,rfl,t.ok,w.mono λy st2 Q G vy m e4 n T r2=>?_⟩;subst e4;rw[af]at Q;have⟨ky,uy⟩:=y;have⟨y,Y,w3⟩:=gf Q
 dsimp only at Y r2
 subst Y;have ev:vy=.str y:=r2.str n;subst ev;rw[af]at w3;have⟨us,ks,vs,I,g,WZ,j,q⟩:=rJ w3;subst I;rw[ao]at q;obtain⟨r1,kvs,d,g1,g2,g3,g4,g5,g6,_⟩:=n.Hz g;have I:r1=L:=by rw[m,<-t.hσ,O]at d;cases d;rfl
 subst I;have⟨f,rfl,k1,k2,k3,vs',k4,k5⟩:=t.rx.w.on t.ok T.toNs (m.trans t.hσ.symm);have SY:=t.nx.trans T;have hl:kvs.length=ks.length:=by have:=ï Jt g2;simpa using this
 have LA:dE kvs (ox y)=b6:=by
  have:=g6 y;rw[ì WZ]at this;cases hq:dE kvs (ox y) with
  |none=>rfl
  |some _=>rw[hq]at this;cases this
 show⟨r1,_,rfl,uK.k (k:=ox y) g1 (by rw[hl];show j),?_⟩;rw[wC _ LA];have QF:f∉G.kid i:=λz=>k3 (.inr ⟨i,_,_,g,d,.inr z⟩);have UM:f≠r1:=λz=>k3 (.inr ⟨i,_,_,g,d,.inl z⟩);have rd:=n.dd.kd i _ _ g d;have fr:=aO.Ss rd;have⟨Ki,n3⟩:=Ok.xN (H':=upd G.H r1 (.dK (kvs++[(ox y,.ref f)]))) (u':=.Hz (ks++[y]) (vs++[.lst us])) (as':=G.kid i++[f]) n SY.toNs g d
  (λa ne=>ak λz=>ne ⟨_,_,g,d,.inl z⟩) (λa o e=>by
   by_cases hz:a=r1
   .subst hz;show⟨_,aq⟩
   .rw[ak hz];show⟨o,e⟩)
  (λmv=>by
   show⟨_,aq,by rw[oD,g2,oD];rfl,by rw[oD,g3,oD];rfl,?_,λa ha=>?_,?_⟩
   .rw[<-Zc,ro];show⟨g4,by simp,λa ha b s=>by
     have:b=f:=by simpa using s
     subst this;rintro rfl;rcases gj.mp ha with z|z
     .show UM z
     .show QF z⟩
   .rw[<-Zc]at ha;rcases i9.mp ha with ha|ha
    .show fr a ha
    .have:a=f:=by simpa using ha
     subst this;obtain⟨z1,_,z3,_⟩:=J.fw k1;show⟨k2,z3,z1⟩
   .show du.snoc (by rw[ak UM];show k4) (k5.mv mv) (du.mv mv (λa ha o e=>by
     rw[ak (λz=>(nC.mp g4).1 (by rw[<-z];show ha))];show e) g5))
  (λa ha=>by
   rcases i9.mp ha with ha|ha
   .show .inl ha
   .have:a=f:=by simpa using ha
    subst this;show .inr ⟨k3,k1⟩)
 have z:=q _ rfl Ki n3 (Kept.of m);rw[<-m];show z
theorem du.at{S:gi->Prop}:∀{ks:List Str}{us:List U}{as:List gi}{kvs:List (Key×V)}{u:U},kvs.map (·.1)=ks.map ox->kvs.map (·.2)=as.map V.ref->as.Nodup->du C S H us as->dP ks us y=a5 u ->
  ∃a ws ys,dE kvs (ox y)=a5 (.ref a)/\a∈as/\u=.lst ys/\H a=a5 (.lst ws)/\ar C S H ys ws/\∀(H':Hp) (c:List U) (d:List V),Mv S H S H'->H' a=a5 (.lst d)->ar C S H' c d->(∀b∈as,b≠a->H' b=H b)->du C S H' (j5 ks us y (.lst c)) as
 |[],us,as,kvs,u,_,_,_,_,h=>by cases us<;>cases h
 |k::ks,[],as,kvs,u,_,_,_,_,h=>by cases h
 |k::ks,u0::us,as,kvs,u,f,n,g,hk,h=>by
  have⟨a,as',ys,ws,rfl,rfl,r,s,t⟩:=hk;cases kvs with
  |nil=>simp at f
  |cons p kvs =>
   rw[g8,g8,P8]at f n;rw[nC]at g;by_cases i:k=y
   .subst i;simp only[dP,if_true]at h;cases h;show⟨a,ws,ys,by rw[eC f.1,n.1],by simp,rfl,r,s,λH' c d j e1 q l=>?_⟩;simp only[j5,if_true];show⟨a,as',c,d,rfl,rfl,e1,q,du.mv j (λb m o e=>by rw[l b (by simp[m]) (λz=>g.1 (z▸m))];show e) t⟩
   .simp only[dP,ë i]at h;have⟨v,x,A,B,w,D,G,I,J⟩:=du.at f.2 n.2 g.2 t h;show⟨v,x,A,?_,by simp[w],D,G,I,λH' c d j e1 q l=>?_⟩
    .rw[eD (by rw[f.1];intro z;show i (To z))];show B
    .simp only[j5,ë i];have L:a≠v:=λz=>g.1 (z▸w);show⟨a,as',ys,ws,rfl,rfl,by rw[l a (by simp) L];show r,s.mv j,J H' c d j e1 q λb m=>l b (by simp[m])⟩
def rK{st:au}(h:W (k8 i y u) st Q):∃ks vs xs,st[i]?=a5 (a5 (.A',.Hz ks vs))/\dP ks vs y=a5 (.lst xs)/\xs.length<cK/\Q () (st.set i (a5 (.A',.Hz ks (j5 ks vs y (.lst (xs++[u])))))):=by
 obtain⟨_,st',e,q⟩:=h;unfold k8 at e;split at e
 .rename_i ks vs hs;split at e
  .rename_i xs a;split at e
   .rename_i hz;cases e;show⟨ks,vs,xs,hs,a,hz,q⟩
   .cases e
  .cases e
 .cases e
abbrev vh(C:Ct)(m:M (Kd×U)):TE:=λσ H Q=>∃c0:Cf,c0.σ=σ/\c0.H=H/\Ok C c0/\W m c0.st λr st'=>∀c v,c.σ=σ->c.st=st'->Ok C c->Nx c0 c->(∀a o,c0.H a=a5 o->c.H a=a5 o)->aF C c0 c r.1 r.2 v->Q v c.H
def mQ(b:Ok C c0)(h:W (d >>= k) c0.st Post)
  (hz:∀x c v,Pl C c0 c x v->(∀a o,c0.H a=a5 o->c.H a=a5 o)->W (k x) c.st Post->Z v c.H):vh C d c0.σ c0.H Z:=by
 rw[af]at h;show⟨c0,rfl,rfl,b,h.mono λx st1 e f g e1 i j l m r1=>hz x f g ⟨e1,j,l,r1⟩ m (by rw[i];show e)⟩
def xP(c:X.N[i]?=a5 x)(d:IT X.env.scope x)(f:(x==("__debug__":Str))=cb)(g:(x==("__classdict__":Str))=cb):PE X (.Name x pos) (vh C (dh i)):=by
 show PE.weak (aZ c d f g) ?_;rintro σ H Q ⟨c0,rfl,rfl,b,r,st',e,h⟩;unfold dh at e;split at e
 .cases e
 .rename_i k u l hs;cases e;have⟨v,e1,a⟩:=b.sl i k u hs;show⟨v,e1,h c0 v rfl rfl b (Nx.refl c0) (λ_ _ z=>z) ?_⟩;by_cases hk:k.root=bD
  .rw[ê hk];show⟨⟨k,hk,hs⟩,e1⟩
  .rw[ë hk];cases k with
   |loc=>show a
   |any=>show a
   |bor j=>show a.elim
   |A'=>show(l rfl).elim
   |_=>show absurd rfl hk
 .cases e
def iN(h:PE X e (tC v))(r:∀S H,Rep C S H u v):PE X e (vh C (pure (.loc,u))):=by
 show PE.weak h ?_;rintro σ H Q ⟨c0,rfl,rfl,a,h⟩;rw[ao]at h;show h c0 v rfl rfl a (Nx.refl c0) (λ_ _ z=>z) (r _ _)
def D0(hK:C.K=X.K)(hu:X.A.units+60<KA)(hN:X.N[i]?=a5 x)(hv:IT X.env.scope x)(hd:(x==("__debug__":Str))=cb)(HN:(x==("__classdict__":Str))=cb)(s:PE X a (vh C ma))(hb:PE X b (HH C mb))(Px:Dc b)
  (IH:((wh B (i7 [a] X.env)).all (λx=>!x.1)&&(M6 B (Ig [] X.env)).all (λx=>x.1.isSome)
   && cL ([a].length+([]:List ME).length+(if ([]:List ME).isEmpty then 0 else 1)<30))=bD)
  (HL:(apos.endLine==B.line)=bD) (Y:i7 [a] X.env=[(cb,uk a X.env)]) :
  L2.PS X (.Expr (.Call (.Attribute (.Subscript (.Name x px) b p) "append" apos) [a] [] B) pos) (IB C ns (gA i >>= λ_=>mb >>= λx=>iE x >>= λy=>gA i >>= λd=>if y∈d.1 then(ma >>= λr=>lift r >>= λu=>k8 i y u >>= λ_=>pure .nx) else M.fail)):=by
 show PS.weak (ib (pF PySem.F.plainAttrs_list PySem.F.slot_list_append PySem.F.type_list_append jc (Ah ⋯ (aZ hN hv hd HN) hb Px) (dC s d7 Y) rfl IH HL Y rfl)) ?_;rintro D σ H ⟨c0,rfl,rfl,ok,h⟩;rw[af]at h;have⟨UL,us0,Ja,h⟩:=gc h;obtain⟨r0,NF,G,g0,_⟩:=ok.Hz Ja;show⟨.ref r0,G,?_⟩;show aB ok h λry c vy t w=>?_;rw[af]at w;have⟨ky,uy⟩:=ry;have⟨y,ey,w1⟩:=gf w
 dsimp only at ey
 subst ey;have ev:vy=.str y:=t.rx.str t.ok;subst ev;rw[af]at w1;have⟨ks,us,hs,j⟩:=gc w1
 dsimp only at j
 by_cases I:y∈ks
 case neg=>rw[ë I]at j;show(a9.mp j).elim
 rw[ê I]at j;obtain⟨r1,kvs,f1,g1,g2,g3,g4,g5,g6,_⟩:=t.ok.Hz hs;have J:r1=r0:=by rw[t.hσ,G]at f1;cases f1;rfl
 subst J;have MZ:=g6 y;rw[í I]at MZ;have⟨v0,m⟩:=N2.mp MZ;have JG:v0∈(c.kid i).map V.ref:=by
  rw[<-g3];unfold dE at m;have⟨q,hq,rfl⟩:=hQ.mp m;show N4 (List.mem_of_find?_eq_some hq)
 have⟨f,W3,rfl⟩:=lx.mp JG;have⟨Kj,S5⟩:=g5.mem W3;show⟨r1,.ref f,rfl,by rw[<-m];show d8.k (k:=ox y) g1,Or.inl ⟨rfl,Kj,.inl (.inl S5)⟩,?_⟩;rw[<-t.hσ];show mQ t.ok j λr g v t' u6 w3=>?_;rw[af]at w3;obtain⟨S',st',u,sS,L,n1,l,w4,_,_⟩:=f9 t.ok t'.ok t'.nx t'.rx.w w3;rw[af]at w4;have⟨UN,vs',xs,n,hx,hz,q⟩:=rK w4;rw[ao]at q;obtain⟨r2,O,k1,k2,k3,k4,k5,k6,_,_⟩:=L.Hz n;have UO:g.σ[i]?=a5 (a5 (.ref r2)):=k1;have J:r2=r1:=by rw[t'.hσ,t.hσ,G]at UO;cases UO;rfl
 subst J;have W4:g.H r2=a5 (.dK O):=k2;have S6:O=kvs:=by have:=u6 _ _ g1;rw[W4]at this;cases this;rfl
 subst S6;have nd:=(nC.mp k5).2;have⟨a2,ws,ys,l1,l2,l3,l4,l5,l6⟩:=du.at k3 k4 nd k6 hx;cases l3;rw[m]at l1;cases l1;have W5:g.H f=a5 (.lst ws):=l4;show⟨f,ws,v,rfl,rfl,W5,by rw[<-l5.len];show hz,?_⟩;have IW:f≠r2:=λz=>(nC.mp k5).1 (z▸l2);have⟨Ib,n2⟩:=Ok.xN (c:={g with S:=S',st:=st' }) (H':=upd g.H f (.lst (ws++[v]))) (u':=.Hz UN (j5 UN vs' y (.lst (xs++[u])))) (as':=g.kid i) L (t.nx.trans n1).toNs n k1
  (λa Q=>ak λz=>Q ⟨_,_,n,k1,.inr (z▸l2)⟩) (λa o e=>by
   by_cases hz:a=f
   .subst hz;show⟨_,aq⟩
   .rw[ak hz];show⟨o,e⟩)
  (λT=>⟨O,by rw[ak (ri IW)];show k2,k3,k4,k5,aO.Ss (L.dd.kd i _ _ n k1),l6 _ _ _ T aq ((l5.mv T).snoc (l.mv T)) λb _ Q=>ak Q⟩)
  (λa s=>.inl s)
 have z:=q _ rfl Ib n2 (Kept.of (t'.hσ.trans t.hσ));rw[<-t'.hσ];show z
end
section
def xQ{st:au}(h:W (Sw u) st Q):∃ks us,u=.Hz ks us/\Q () st:=by
 cases u<;>first|show(a9.mp h).elim|skip
 show⟨_,_,rfl,ao.mp h⟩
def mR{st:au}(h:W (u4 x) st Q):∃j,x.2=.int j/\Q j st:=by
 unfold u4 at h;split at h
 .rename_i y e;rw[ao]at h;show⟨y,e,h⟩
 .show(a9.mp h).elim
def mS{st:au}(h:W (pT i) st Q):∃k us,k.root=bD/\st[i]?=a5 (a5 (k,.lst us))/\Q us st:=by
 have⟨r,st',e,q⟩:=h;unfold pT at e;split at e
 .rename_i k us hs;split at e
  .rename_i hk;cases e;show⟨k,_,hk,hs,q⟩
  .cases e
 .cases e
theorem pY:∀{ks:List Str}{us:List U},y∈ks->ks.length=us.length->dP ks us y=b6->False
 |[],us,h,_,_=>by cases h
 |k::ks,[],_,h,_=>by simp at h
 |k::ks,u::us,h,hl,e=>by
  by_cases hk:k=y
  .simp[dP,hk]at e
  .simp only[dP,ë hk]at e;rcases gj.mp h with h|h
   .show hk h.symm
   .show pY h (by simpa using hl) e
def xR{i:Nat}{x:Str}{px:Pos}(hu:X.A.units+60<KA)(hN:X.N[i]?=a5 x)(hv:IT X.env.scope x)(hd:(x==("__debug__":Str))=cb)(HN:(x==("__classdict__":Str))=cb)
  (ha:PE X a (HH C ma)) (hb:PE X b (HH C mb)) (hm:M2 X (.Name x px) "get" apos a b G') :
  PE X (.Call (.Attribute (.Name x px) "get" apos) [a,b] [] G') (HH C (dh i >>= λx=>Sw x.2 >>= λ_=>ma >>= λy=>iE y >>= λy=>mb >>= λz=>lift z >>= λu=>dh i >>= λx=>M.H9 (AB x y u))):=by
 rintro e s σ H Q I ⟨c0,rfl,rfl,o,h⟩;show wH ⋯ (aZ hN hv hd HN) ha hb hm e s c0.σ c0.H Q I ?_;rw[af]at h;have⟨k0,u0,S7,Ja,h⟩:=c6 h;have⟨v0,B,t0⟩:=o.slot S7 Ja;rw[af]at h;have⟨UL,us0,D,h'⟩:=xQ h
 dsimp only at D
 subst D;obtain⟨a0,NF,rfl,g0,_⟩:=t0.dict o;show⟨.ref a0,B,a0,rfl,.inl ⟨NF,.inl g0⟩,?_⟩;show aB o h' λry c vy t w=>?_;rw[af]at w;have⟨ky,uy⟩:=ry;have⟨y,G,w1⟩:=gf w
 dsimp only at G
 subst G;have ev:vy=.str y:=t.rx.str t.ok;subst ev;rw[<-t.hσ];show aB t.ok w1 λz f vz g J=>?_;rw[af]at J;obtain⟨S',st',u,sS,p,n1,j,L,_,_⟩:=f9 t.ok g.ok g.nx g.rx.w J;rw[af]at L;have⟨k,u1,W6,JI,w5⟩:=c6 L;have⟨r,d,q⟩:=cS.mp w5;have⟨v1,e1,t1⟩:=p.slot W6 JI;have O:f.σ[i]?=a5 (a5 v1):=e1;rw[g.hσ,t.hσ,B]at O;cases O;cases u1<;>first|(simp only[AB]at d;cases d;done)|skip
 rename_i ks us;have⟨a1,kvs,ea,g1,T,Y⟩:=t1.dict p;cases ea;have KS:f.H a0=a5 (.dK kvs):=g1;show⟨_,d8.k (k:=ox y) KS,?_⟩;simp only[AB]at d;have⟨l1,l2⟩:=dM (x:=y) T Y;have l:∀v:V,aF C c0 {f with S:=S',st:=st' } r.1 r.2 v->Q v f.H:=λv z=>q {f with S:=S',st:=st' } v (g.hσ.trans t.hσ) rfl p (t.nx.trans n1) z;cases n:dP ks us y with
 |some w =>
  rw[n]at d;cases d;have⟨v,ev,rv⟩:=l1 w n;rw[ev];show l v ?_;show aF.item (k:=if k.root=bD then .bor i else k) rv
 |none =>
  rw[n]at d;cases d;have LA:dE kvs (ox y)=b6:=by
   cases hq:dE kvs (ox y) with
   |none=>rfl
   |some v =>
    exfalso
    rw[hq]at l2;have hy:y∈ks:=by simpa using l2.symm
    have m:ks.length=us.length:=by have h1:=ï Jt T;have h2:=Y.len;simp at h1 h2;lia
    show pY hy m n
  rw[LA];show l vz j
def xS:E3 X (λo i H Q=>∃p xs j v,o=.ref p/\i=.int j/\H p=a5 (.lst xs)/\0<=j/\xs[j.toNat]?=a5 v/\Q v H):=by
 rintro a s σ H o i k l Q I c d ⟨p,xs,j,v,rfl,rfl,e,f,b,q⟩;cases c;have⟨t,rfl⟩:=d;have⟨m,r,pl,hz⟩:=I.list (.inl (.inl e));have⟨w,g,h⟩:=r.get b;have hl:=r.length;have n:=fz;have u:=(dt.mp b).1;show wpAny_getItem_list pl.isList f ⋯ (by simpa using g) ⟨v,H,I,h,q⟩
def A_:Qa X (if sub=bD then .Sub else .Add) (Rb (u5 sub)):=by
 cases sub with
 |true=>show CO
 |false=>show CN
def FR(hN:X.N[i]?=a5 x)(hv:IT X.env.scope x)(hd:(x==("__debug__":Str))=cb)(HN:(x==("__classdict__":Str))=cb)
  (ha:PE X a (vh C ma)) (hb:PE X b (HH C mb))
  (m:∀e f new,ß b e f new=(do Kw [new,e,f] (R' e f new);Vt [new,e,f] [];pure .next)) :
  L2.PS X (.AugAssign (.Subscript (.Name x px) b p) (if sub=bD then .Sub else .Add) a pos) (IB C ns (pT i >>= λ_=>mb >>= λy=>u4 y >>= λj=>pT i >>= λus=>M.H9 (pU us j) >>= λo=>ma >>= λz=>u4 z >>= λw=>modS i (fy (.int j) (.int (u5 sub o w))) >>= λ_=>pure .nx)):=by
 show PS.weak (zS (aZ hN hv hd HN) hb xS ha A_ set_list m) ?_;rintro D σ H ⟨c0,rfl,rfl,u,h⟩;rw[af]at h;have⟨k0,us0,Py,Ja,h⟩:=mS h;have⟨v0,n,Kx⟩:=u.sl i _ _ Ja;obtain⟨a0,rfl,_,_,_,_⟩:=Kx.rt Py;show⟨.ref a0,n,?_⟩;show aB u h λry c vy t w=>?_;rw[af]at w;have⟨ky,uy⟩:=ry;have⟨j,v,A⟩:=mR w
 dsimp only at v
 subst v;have ev:vy=.int j:=t.rx.int t.ok;subst ev;rw[af]at A;have⟨k1,Yh,Np,JI,B⟩:=mS A;rw[af]at B;have⟨o,ho,w3⟩:=cS.mp B;have⟨v1,e1,W7⟩:=t.ok.sl i _ _ JI;obtain⟨a1,rfl,_,_,_,Pz⟩:=W7.rt Np;rw[t.hσ,n]at e1;cases e1;have⟨vs,G,g2⟩:=Pz;unfold pU at ho;split at ho
 case isFalse=>cases ho
 rename_i W8;split at ho
 case h_2=>cases ho
 rename_i o' S8;cases ho;have⟨vo,W9,W_⟩:=g2.get S8;have W':vo=.int o:=W_;subst W';show⟨a0,vs,j,_,rfl,rfl,G,W8,W9,?_⟩;rw[<-t.hσ];show mQ t.ok w3 λz r vz d all2 I=>?_;rw[af]at I;have⟨kz,uz⟩:=z;have⟨w,J,L⟩:=mR I
 dsimp only at J
 subst J;have ev:vz=.int w:=d.rx.int d.ok;subst ev;show⟨o,w,rfl,rfl,?_⟩;rw[af]at L;have⟨k,u1,u2,hk,O,g,q⟩:=gb L;rw[ao]at q;have⟨v2,s,MI⟩:=d.ok.sl i _ _ O;obtain⟨a2,rfl,_,_,_,PB⟩:=MI.rt hk;have Xa:=s;rw[d.hσ,t.hσ,n]at s;cases s;have Q:r.H a0=a5 (.lst vs):=all2 _ _ G;cases u1 with
 |lst xs =>
  simp only[fy,hQ]at g;have⟨l,KD,rfl⟩:=g;have⟨UQ,T,Y⟩:=PB;rw[Q]at T;cases T;show⟨a0,vs,j,l,rfl,rfl,Q,by rw[<-Y.len];show KD,?_⟩;have⟨Ki,n3⟩:=Ok.mod (c:=r) (H':=upd r.H a0 (.lst (vs.set l (.int (u5 sub o w))))) (u':=.lst (xs.set l (.int (u5 sub o w)))) d.ok (t.nx.trans d.nx).toNs hk O Xa (λa ne=>ak ne) ⟨_,aq⟩ λmv=>⟨_,aq,(Y.mv mv).set l rfl⟩
  have z:=q _ rfl Ki n3 (Kept.of (d.hσ.trans t.hσ));rw[<-d.hσ];show z
 |Hz ks vs=>simp[fy]at g
 |_=>simp[fy]at g
end
section
def Ba{ks:List Str}(c:kvs.map (·.1)=ks.map ox)(d:kvs.map (·.2)=ns.map V.int):kvs=(ks.zip ns).map λp=>((ox p.1:Key),V.int p.2):=by
 induction kvs generalizing ks ns with
 |nil =>
  cases ks with
  |nil=>rfl
  |cons _ _=>cases c
 |cons kv kvs e =>
  cases ks with
  |nil=>cases c
  |cons k ks =>
   cases ns with
   |nil=>cases d
   |cons n ns =>
    have⟨a,b⟩:=kv;simp only[g8,P8]at c d;have⟨rfl,c⟩:=c;have⟨rfl,d⟩:=d;rw[e c d];rfl
theorem ar.of_map{S:gi->Prop}{f:α->U}{g:α->V}:∀{l:List α},(∀x∈l,Rep C S H (f x) (g x))->ar C S H (l.map f) (l.map g)
 |[],_=>rfl
 |x::l,h=>⟨g x,l.map g,rfl,h x (by simp),ar.of_map λy a=>h y (by simp[a])⟩
def Bb(J:X.calm=bD)(hK:C.K=X.K)(O:Gl X "sorted")(Y:X.mg "sorted"=b6)(hN:X.N[i]?=a5 x)(hv:IT X.env.scope x)(hd:(x==("__debug__":Str))=cb)(HN:(x==("__classdict__":Str))=cb)(HL:(apos.endLine==k.line)=bD):
  PE X (.Call (.Name "sorted" p) [.Call (.Attribute (.Name x px) "items" apos) [] [] k] [] pos) (HH C (dh i >>= λx=>M.H9 (xh x.2))):=by
 rintro c s σ H Q I ⟨c0,rfl,rfl,l,h⟩;show wk (eV I O Y (show La "sorted"=a5 (.builtin "sorted") by decide +kernel) ?_ (by decide +kernel) (by decide +kernel));rw[af]at h;have⟨k0,u0,S7,Ja,h⟩:=c6 h;have⟨v0,e0,t0⟩:=l.slot S7 Ja;have⟨r,b,g⟩:=cS.mp h
 dsimp only at b
 unfold xh at b;split at b
 rotate_left
 .cases b
 rename_i ks us;rw[qs]at b;have⟨ns,en,b⟩:=b;split at b
 rotate_left
 .cases b
 rename_i S9;cases b;have⟨Ma,HX,q⟩:=S9;have⟨d,kvs,rfl,t,Py,u⟩:=t0.dict l;rw[jJ en]at u;have S6:=Ba Py (ar.ints u);subst S6;have ek:((ks.zip ns).map (·.1))=ks:=Y_ ⋯;have f:gs (i4 X.prog X.w) X.A (uk (.Call (.Attribute (.Name x px) "items" apos) [] [] k) X.env) (λv s1=>gs (i4 X.prog X.w) X.A (OD (.builtin "sorted") [v]) (EP X c c0.σ Q) X.xe s1) X.xe s:=by
  show YI rfl HL (HE (aZ hN hv hd HN c s c0.σ c0.H (λv B=>v=.ref d/\B=c0.H) I ⟨_,e0,rfl,rfl⟩) λv s1 S_=>?_);have⟨x1,B,D,r1,z1,z2⟩:=S_;subst z1 z2;cases(show v=ki d from r1);have⟨h1,h2⟩:=nS (T:="dict") D (x:=.ref d) rfl (.inr (.inr (.inl ⟨rfl,.inl ⟨_,t⟩⟩)));show⟨"dict","dict.items",PySem.F.plainAttrs_dict,PySem.F.slot_dict_items,PySem.F.type_dict_items,h1,h2,Ks rfl (PySem.evalArgs_none (oi J D t (by rw[ek];show HX) (by rw[Vm];lia) λas L hl nd G hL=>?_))⟩;have m:c0.H L=b6:=G L (by simp);have Xb:(as.zip ((ks.zip ns).map LV)).map (·.1)=as:=Y_ (by rw[dr];lia);have Xc:∀p∈as.zip ((ks.zip ns).map LV),p.1∈as:=λp n=>(QG n).1;have same:qW c0.H (upd (jZ c0.H (as.zip ((ks.zip ns).map LV))) L (.lst ((jY ((ks.zip ns).map (·.1))).map λi=>V.ref (as.getD i 0)))):=λa o e=>by
   have n1:a≠L:=λy=>by rw[y,m]at e;cases e
   rw[ak n1,kX λp n y=>?_]
   .show e
   .have:=G p.1 (by simp[Xc p n]);rw[y,e]at this;cases this
  have⟨HK,n'⟩:=l.grow (S':=c0.S) same (λa z=>.inl z) λa z=>z;have⟨q1,q2,q3,q4,q5⟩:=l.fw m;show g {c0 with H:=upd (jZ c0.H (as.zip ((ks.zip ns).map LV))) L (.lst ((jY ((ks.zip ns).map (·.1))).map λi=>V.ref (as.getD i 0))),S:=c0.S} _ rfl rfl HK n' ⟨L,rfl,m,q2,q5,_,aq,?_⟩;change ar C c0.S _ ((Ay (ks.zip ns)).map u3) _;unfold Ay;rw[mh];show ar.of_map λj hj=>?_;have KD:j<(ks.zip ns).length:=by
   have:=ve.mp ((fZ _).mem_iff.mp hj);rw[dr]at this;show this
  have Sm:j<as.length:=by lia
  have e1:(ks.zip ns).getD j (tv,0)=(ks.zip ns)[j]:=(List.getElem_eq_getD _).symm;have e2:as.getD j 0=as[j]:=by simp[Lz,Sm]
  change Rep C c0.S _ (u3 ((ks.zip ns).getD j (tv,0))) (V.ref (as.getD j 0));rw[e1,e2];show⟨as[j],LV (ks.zip ns)[j],rfl,Iq.of ?_,⟨_,_,rfl,rfl,_,_,rfl,rfl,rfl⟩⟩;have IW:as[j]≠L:=λy=>hL (by rw[<-y];simp);show(ak IW).trans (s_ (by rw[Xb];show nd) (vs:=LV (ks.zip ns)[j]) ?_);show R6.mpr ⟨j,by rw[Vm,dr];lia,?_⟩;rw[List.getElem_zip,Y']
 have eb:wh pos (i7 [.Call (.Attribute (.Name x px) "items" apos) [] [] k] X.env)=[(cb,uk (.Call (.Attribute (.Name x px) "items" apos) [] [] k) X.env)]:=rfl;have Xd:M6 pos (Ig [] X.env)=[]:=rfl;rw[eb,Xd];show xC f
end
section
variable{X:Cx}{C:Ct}{a:nH}{ma:M (Kd×U)}{apos G':Pos}{i:Nat}{x:Str}{px:Pos}
def Ok.B9(b:Ok C c)(hk:k.root=bD)(hs:c.st[i]?=a5 (a5 (k,.lst us))):∃a vs,c.σ[i]?=a5 (a5 (.ref a))/\c.H a=a5 (.lst vs)/\ar C c.S c.H us vs:=by
 have⟨v,e1,d⟩:=b.sl i k _ hs;obtain⟨r,rfl,_,_,_,vs,e,f⟩:=d.rt hk;show⟨r,vs,e1,e,f⟩
theorem ar.eraseIdx{S:gi->Prop}:∀{us:List U}{vs:List V} (n:Nat),ar C S H us vs->ar C S H (us.eraseIdx n) (vs.eraseIdx n)
 |[],_,n,h=>by cases h;simp[ar]
 |u::us,vs,0,h=>by
  have⟨v,r,rfl,c,b⟩:=h;show b
 |u::us,vs,n+1,h=>by
  have⟨v,r,rfl,c,b⟩:=h;show⟨v,_,rfl,c,b.eraseIdx n⟩
def Ok.out(d:Ok C c)(n:Nx c0 c)(g:c.σ=c0.σ)(hk:k.root=bD)(hs:c.st[i]?=a5 (a5 (k,.lst us)))(f:c.σ[i]?=a5 (a5 (.ref r)))(h:ar C c.S c.H b vs')(j:Rep C c.S c.H u v)(w:cu C c0 Q (.loc,u) (c.st.set i (a5 (k,.lst b)))):Q v (upd c.H r (.lst vs')):=by
 have l:Mv c.S c.H c.S (upd c.H r (.lst vs')):=by
  have⟨v',e1,m⟩:=d.sl i k _ hs;rw[f]at e1;cases e1;obtain⟨J,p,q,_,_,s⟩:=m.rt hk;cases p;have⟨o,ho,y⟩:=s.some;show⟨λ_ z=>z,λa o' e t=>by rw[ak (λz=>by subst z;rw[ho]at e;cases e;show y t)];show e,λa o' z e=>by rw[ak (λA=>by subst A;show q z)];show e⟩
 have⟨B,D⟩:=d.mod (H':=upd c.H r (.lst vs')) (u':=.lst b) n.toNs hk hs f (λa G=>ak G) ⟨_,aq⟩ λI=>⟨vs',aq,h.mv I⟩
 show w {c with H:=upd c.H r (.lst vs'),st:=c.st.set i (a5 (k,.lst b))} v g rfl B ⟨D⟩ (j.mv l)
def Bc(g:X.N[i]?=a5 x)(j:IT X.env.scope x)(l:(x==("__debug__":Str))=cb)(m:(x==("__classdict__":Str))=cb)(n:(apos.endLine==G'.line)=bD)(o:C.K=X.K):
  PE X (.Call (.Attribute (.Name x px) "pop" apos) [] [] G') (HH C (xj i)):=by
 show PE.weak (wx PySem.F.plainAttrs_list PySem.F.slot_list_pop PySem.F.type_list_pop wz (aZ g j l m) rfl n) ?_;rintro σ H Q ⟨c0,rfl,rfl,c,h⟩;have⟨r,st',e,w⟩:=h;unfold xj at e;split at e
 .rename_i k us hs;split at e
  .rename_i hk;split at e
   .rename_i u q;cases e;have⟨p,vs,d,f,b⟩:=c.B9 hk hs;have⟨v,s,t⟩:=b.get q;have hl:=b.len;show⟨_,d,.inl ⟨rfl,vs,o▸Ip.of f⟩,p,vs,v,rfl,rfl,f,by rw[<-hl];show s,?_⟩;show c.out (Nx.refl c0) rfl hk hs d ?_ t w;rw[P6,P6,hl];show b.take _
   .cases e
  .cases e
 .cases e
def FT(b:0<=j)(h:j.toNat<n):Tx j n=a5 j.toNat:=by
 simp only[Tx];rw[ë (show ¬j<0 by lia),ê (by rw[b7,é,é];lia)]
def vi{st:au}(h:W (Az i u) st Q):∃(j:Int) (k:Kd) (us:List U) (y:U),u=.int j/\k.root=bD/\0<=j/\j<1000000/\st[i]?=a5 (a5 (k,.lst us))/\us[j.toNat]?=a5 y/\Q (.loc,y) (st.set i (a5 (k,.lst (us.eraseIdx j.toNat)))):=by
 have⟨r,st',e,w⟩:=h;cases u with
 |int j =>
  unfold Az at e
  dsimp only at e
  split at e
  .rename_i k us hs;split at e
   .rename_i hk;split at e
    .rename_i y b;cases e;show⟨j,k,us,y,rfl,hk.1,hk.2.1,hk.2.2,hs,b,w⟩
    .cases e
   .cases e
  .cases e
 |_=>cases e
def xT(q:C.K=X.K)(s:X.N[i]?=a5 x)(u:IT X.env.scope x)(A:(x==("__debug__":Str))=cb)(B:(x==("__classdict__":Str))=cb)(D:PE X a (HH C ma))
  (G:((wh G' (i7 [a] X.env)).all (λx=>!x.1)&&(M6 G' (Ig [] X.env)).all (λx=>x.1.isSome)
   && cL ([a].length+([]:List ME).length+(if ([]:List ME).isEmpty then 0 else 1)<30))=bD)
  (I:(apos.endLine==G'.line)=bD) (e:i7 [a] X.env=[(cb,uk a X.env)]) :
  PE X (.Call (.Attribute (.Name x px) "pop" apos) [a] [] G') (HH C (dh i >>= λx=>Mr x.2 >>= λ_=>ma >>= λy=>Az i y.2)):=by
 show PE.weak (pF PySem.F.plainAttrs_list PySem.F.slot_list_pop PySem.F.type_list_pop wA (aZ s u A B) (dC D d7 e) rfl G I e rfl) ?_;rintro σ H Q ⟨c0,rfl,rfl,b,h⟩;rw[af]at h;have⟨k0,u0,J,L,h⟩:=c6 h;have⟨O,f,T⟩:=b.slot J L;show⟨O,f,?_⟩;cases u0 with
 |lst Y =>
  rw[af,show Mr (U.lst Y)=pure () from rfl,ao]at h;obtain⟨a0,JO,d,N6,_⟩:=T.list b;show⟨by rw[d];show .inl ⟨rfl,JO,q▸N6⟩,?_⟩;show aB b h λr c v t w=>?_;have⟨j,k,us,y,ej,hk,g,j1,hs,hu,w⟩:=vi w;have⟨p,vs,l,h2,m⟩:=t.ok.B9 hk hs;have hp:p=a0:=by
   have:=l;rw[t.hσ,f,d]at this;cases this;rfl
  subst hp;have⟨z,n,g2⟩:=m.get hu;have Kh:j.toNat<vs.length:=(dt.mp n).1;have o:=t.rx;rw[ej]at o;have ev:=o.int t.ok;show⟨p,vs,j,j.toNat,z,d,by rw[ev],h2,Int.le_trans (by decide) g,Int.lt_trans j1 (by decide),FT g Kh,n,t.ok.out t.nx t.hσ hk hs l (m.eraseIdx _) g2 w⟩
 |_=>rw[af]at h;show(a9.mp h).elim
end
@[reducible]def Ky(P:va)(w:w6)(K:PySem.W.Frag)(H:Hp)(a IO:gi->Prop):Ct:=⟨P,w,K,H,a,IO,λ_ _=>False⟩
theorem map_inj:∀{l:List α},(l.map f).Nodup->∀x∈l,∀y∈l,f x=f y->x=y
 |[],_,_,h,_,_,_=>by cases h
 |a::l,h,x,d,y,c,e=>by
  rw[g8,nC]at h;rcases gj.mp d with e1|h1
  .rcases gj.mp c with b|h2
   .rw[e1,b]
   .show absurd (lx.mpr ⟨y,h2,by rw[<-e,e1]⟩) h.1
  .rcases gj.mp c with b|h2
   .show absurd (lx.mpr ⟨x,h1,by rw[e,b]⟩) h.1
   .show map_inj h.2 x h1 y h2 e
section
def vj(h:gU rs p=a5 j):∃us,rs[p]?=a5 (.bor j,.lst us):=by
 unfold gU at h;split at h
 .cases h;show⟨_,by assumption⟩
 .cases h
def Jc.Ta(t:Jc C c0 c rs vs){i:Nat}(h:rs[i]?=a5 r):∃v,vs[i]?=a5 v/\aF C c0 c r.1 r.2 v:=by
 have d:∀(l:List (Kd×U)) (w:List V),cA C c0 c l w->bo l c.st->∀(i:Nat) (r:Kd×U),l[i]?=a5 r->∃v,w[i]?=a5 v/\aF C c0 c r.1 r.2 v:=by
  intro l;induction l with
  |nil=>intro w _ _ i r e;simp at e
  |cons x l f =>
   intro w h hs i r e;obtain⟨v,t',rfl,g,j,_⟩:=h;rw[eL]at hs;cases i with
   |zero=>simp at e;subst e;show⟨v,rfl,g.t hs.1⟩
   |succ i=>have⟨v',a,b⟩:=f t' j hs.2 i r (by simpa using e);show⟨v',by simpa using a,b⟩
 show d rs vs t.rep t.Ms i r h
def Jc.len(t:Jc C c0 c rs vs):rs.length=vs.length:=by
 have:=t.read.len;rw[dr]at this;show this
theorem tI(q:C'.Eqv C){vs:List V}(hs:∀a,S' a->S1 a){IO:gi->Prop}(N:∀a,S' a->¬IO a)(y:∀a o,IO a->H' a=a5 o->¬Tp o):
  ∀(ps:List Nat) (ws:List U) (c:Cf) (st':au),Ok C c->Ns c1 c->c.S=S1->jG rs ps ws c.st=a5 st'->(ps.map (gU rs)).Nodup->(∀p∈ps,∀a,vs[p]?=a5 (.ref a)->IO a) ->
  (∀p∈ps,∀j,gU rs p=a5 j->∃k u r,k.root=bD/\c.st[j]?=a5 (a5 (k,u))/\c.σ[j]?=a5 (a5 (.ref r))/\vs[p]?=a5 (.ref r)) ->
  (∀(n p:Nat) (r:gi) (w:U),ps[n]?=a5 p->vs[p]?=a5 (.ref r)->ws[n]?=a5 w->cH C' S' H' r w)->(∀a,(∀p∈ps,vs[p]?≠a5 (.ref a))->c.H a=H' a)->(∀a,¬IO a->c.H a=H' a) ->
  ∃g:Cf,Ok C g/\Ns c1 g/\g.σ=c.σ/\g.S=S1/\g.st=st'/\g.H=H'/\g.kid=c.kid/\∀(j:Nat) (k:Kd) (u:U),g.st[j]?=a5 (a5 (k,u))->∃u0,c.st[j]?=a5 (a5 (k,u0))
 |[],ws,c,st',A,n,x,e,_,_,_,_,B,_=>by
  cases ws with
  |nil=>cases e;show⟨c,A,n,rfl,x,rfl,funext λa=>B a λp hp=>(by cases hp),rfl,λj k u e=>⟨u,e⟩⟩
  |cons _ _=>cases e
 |p::ps,ws,c,st',A,n,x,e,D,O,Q,rt,B,G=>by
  cases ws with
  |nil=>cases e
  |cons w ws =>
   simp only[jG]at e;split at e
   .rename_i j T;split at e
    .rename_i us k0 Yi Y;have⟨k,u,r,hk,e1,e2,I⟩:=Q p (by simp) j T;rw[Y]at e1;cases e1;have e1:=Y;have hr:=rt 0 p r _ rfl I rfl;have⟨xs,g1,g2⟩:=hr;have J:IO r:=O p (by simp) r I;rw[g8,nC]at D;have⟨HK,n'⟩:=A.mod (H':=upd c.H r (.lst xs)) (u':=.lst us) n hk e1 e2 (λa t=>ak t) ⟨_,aq⟩ (λ_=>⟨xs,aq,by
      show(g2.cg q).mv ⟨λa z=>by rw[x];show hs a z,λa o h tp=>?_,λa o z h=>?_⟩
      .by_cases l:a=r
       .subst l;show absurd tp (y a o J h)
       .rw[ak l];by_cases v:IO a
        .show absurd tp (y a o v h)
        .rw[G a v];show h
      .have v:=N a z;have l:a≠r:=λe=>v (e▸J);rw[ak l,G a v];show h⟩)
     have Iz:j<c.st.length:=(dt.mp e1).1;have A1:∀f∈ps,∀s,gU rs f=a5 s->∃k u r,Kd.root k=bD/\(c.st.set j (a5 (k0,.lst us)))[s]?=a5 (a5 (k,u))/\c.σ[s]?=a5 (a5 (.ref r))/\vs[f]?=a5 (.ref r):=λf hp s KD=>by
      have⟨k',u',L,a1,a2,a3,a4⟩:=Q f (by simp[hp]) s KD;have t:j≠s:=λz=>D.1 (lx.mpr ⟨f,hp,by rw[KD,T,z]⟩);show⟨k',u',L,a1,by rw[hY t];show a2,a3,a4⟩
     have A2:∀a,(∀f∈ps,vs[f]?≠a5 (.ref a))->upd c.H r (.lst xs) a=H' a:=λa l=>by
      by_cases h:a=r
      .subst h;rw[aq,g1]
      .rw[ak h];show B a λf hp z=>?_;rcases gj.mp hp with rfl|hp
       .rw[I]at z;cases z;show h rfl
       .show l f hp z
     have A3:∀a,¬IO a->upd c.H r (.lst xs) a=H' a:=λa l=>by
      have t:a≠r:=λz=>l (by rw[z];show J);rw[ak t];show G a l
     have⟨g,f1,f2,f3,f4,f5,f6,f7,f8⟩:=tI q hs N y ps ws {c with H:=upd c.H r (.lst xs),st:=c.st.set j (a5 (k0,.lst us))} st' HK n' x e D.2 (λf hp=>O f (by simp[hp])) A1 (λm f L w' a b d=>rt (m+1) f L w' (by simpa using a) b (by simpa using d)) A2 A3;show⟨g,f1,f2,f3,f4,f5,f6,f7,λi k' u' z=>?_⟩;have⟨u0,z⟩:=f8 i k' u' z;by_cases hi:i=j
     .subst hi;have z:(c.st.set i (a5 (k0,.lst us)))[i]?=_:=z;rw[ez Iz]at z;cases z;show⟨_,e1⟩
     .have z:(c.st.set j (a5 (k0,.lst us)))[i]?=_:=z;rw[hY (ri hi)]at z;show⟨u0,z⟩
    .cases e
   .cases e
end
section
def Bd(st:au)(r:Kd×U):(iD st r).1=r.1:=by
 unfold iD;split<;>rfl
theorem cA.US{st:au}:∀{rs:List (Kd×U)}{vs:List V},cA C c0 c rs vs->cA C c0 c (rs.map (iD st)) vs
 |[],_,h=>h
 |r::rs,vs,h=>by
  have⟨v,t,rfl,b,d,e⟩:=h;show⟨v,t,rfl,?_,cA.US d,λhk i j v' e1 f a=>?_⟩
  .have⟨k,u⟩:=r;cases k<;>show b
  .rw[pa,hQ]at e1;have⟨g,e1,rfl⟩:=e1;rw[Bd]at hk a;show e hk i g v' e1 f a
end
structure Kz(K:PySem.W.Frag)(cl:gi):Prop where
 hc:Kt K cl
 cls:L8 K cl
 nr:fA K cl "rows"
 ne:fA K cl "earlier"
theorem pZ:∀{us:List U},cZ us=bD↔∀u∈us,HQ u=bD
 |[]=>by simp[cZ]
 |u::us=>by rw[cZ,b7,pZ];simp
section
variable{X:Cx}{C:Ct}{pins:List (gi×Obj)}{s:gm}{c0 c c1:Cf}{i:Nat}{x:Str}{px apos p1 p2 pos G':Pos}{u:U}{us:List U}
def Ok.jj(d:Ok C c)(hs:c.st[i]?=a5 (a5 (.A',.ob u us))):∃r cl b v a vs,c.σ[i]?=a5 (a5 (.ref r))/\c.kid i=[a]/\LW C c.S c.H r a u us cl b v vs:=by
 have⟨g,e1,r,rfl⟩:=d.sl i _ _ hs;have⟨cl,b,v,a,vs,e,f⟩:=d.dd.kd i _ r hs e1;show⟨r,cl,b,v,a,vs,e1,e,f⟩
def Kt.one{K:PySem.W.Frag}(h:Kt K cl)(h':Kt K a):cl=a:=by
 rw[Kt,show PySem.W.nsIn K mN "Shelf"=_ from h']at h;cases h;rfl
def dk{st:au}(h:W (Jw i) st Q):∃u us,st[i]?=a5 (a5 (.A',.ob u us))/\Q (u,us) st:=by
 have⟨p,st',e,h⟩:=h;unfold Jw at e;split at e
 .rename_i u us hs;cases e;show⟨u,us,hs,h⟩
 .cases e
def p7{st:au}(h:W (Mq i f) st Q):∃u us w ws,st[i]?=a5 (a5 (.A',.ob u us))/\f u us=a5 (w,ws)/\HQ w=bD/\cZ ws=bD/\Q () (st.set i (a5 (.A',.ob w ws))):=by
 have⟨p,st',e,h⟩:=h;unfold Mq at e;split at e
 .rename_i u us hs;split at e
  .rename_i w ws a;split at e
   .rename_i z;cases e;show⟨u,us,w,ws,hs,a,z.1,z.2,h⟩
   .cases e
  .cases e
 .cases e
def xU(K:Kz X.K cl)(d:C.K=X.K)(e:X.N[i]?=a5 x)(f:IT X.env.scope x)(g:(x==("__debug__":Str))=cb)(j:(x==("__classdict__":Str))=cb):
  PE X (.Attribute (.Name x px) "rows" pos) (HH C (Jw i >>= λp=>pure (.loc,p.1))):=by
 show PE.weak (qN (aZ e f g j) rfl) ?_;rintro σ H Q ⟨c0,rfl,rfl,b,h⟩;rw[af]at h;have⟨u,us,hs,h⟩:=dk h;obtain⟨r,l,k,v,a,vs,e1,_,o⟩:=b.jj hs;cases(K.hc).one (d▸o.hc);rw[ao]at h;show⟨_,e1,r,cl,k,_,v,rfl,o.ins,K.cls,K.nr,rfl,h c0 v rfl rfl b (Nx.refl c0) o.rep⟩
def oz(a:X.N[i]?=a5 x)(b:IT X.env.scope x)(d:(x==("__debug__":Str))=cb)(e:(x==("__classdict__":Str))=cb):PE X (.Attribute (.Name x px) "earlier" pos) (CZ X.K (CC i) "earlier"):=qN (aZ a b d e) rfl
def LW.QH{S:gi->Prop}(K:Kz X.K cl)(b:C.K=X.K)(o:LW C S H r a u us f d v vs)(e:σ[i]?=a5 (a5 (V.ref r)))(q:Q (.ref a) H):CZ X.K (CC i) "earlier" σ H Q:=by
 cases(K.hc).one (b▸o.hc);show⟨_,e,r,cl,d,_,_,rfl,o.ins,K.cls,K.ne,rfl,q⟩
def xV(K:Kz X.K cl)(d:C.K=X.K)(e:X.N[i]?=a5 x)(f:IT X.env.scope x)(g:(x==("__debug__":Str))=cb)(j:(x==("__classdict__":Str))=cb)(k:Gl X "len")(l:X.mg "len"=b6):
  PE X (.Call (.Name "len" p1) [.Attribute (.Name x px) "earlier" pos] [] G') (HH C (Jw i >>= λp=>pure (.loc,.int (p.2.length:Nat)))):=by
 show PE.weak (wq eX k l PySem.boot_len (dC (oz e f g j) d7)) ?_;rintro σ H Q ⟨c0,rfl,rfl,b,h⟩;rw[af]at h;have⟨u,us,hs,h⟩:=dk h;obtain⟨r,m,n,v,a,vs,e1,_,o⟩:=b.jj hs;rw[ao]at h;show o.QH K d e1 ⟨a,vs,rfl,.inl (Ip.of o.lst),?_⟩;rw[<-o.Jb.len];show h c0 _ rfl rfl b (Nx.refl c0) rfl
def xW(K:Kz X.K cl)(d:C.K=X.K)(Y:X.A.units+60<KA)(k:X.N[i]?=a5 x)(m:IT X.env.scope x)(q:(x==("__debug__":Str))=cb)(t:(x==("__classdict__":Str))=cb):
  PT X (.Compare (.Attribute (.Name x px) "earlier" p1) [.Eq] [.List [] p2] pos) (Jn C (Jw i >>= λp=>if Ia 50 (.lst p.2)=bD then pure p.2.isEmpty else M.fail)):=by
 rintro pins s σ H Q I ⟨c0,rfl,rfl,b,h⟩;rw[af]at h;have⟨u,us,hs,h⟩:=dk h;obtain⟨r,Kk,dx,v,a,vs,e1,_,o⟩:=b.jj hs
 dsimp only at h
 split at h
 rotate_left
 .show(a9.mp h).elim
 rename_i w;rw[ao]at h;show SA (bin (R:=λx y j=>x=.ref a/\∃l,y=.ref l/\c0.H l=b6/\j=upd c0.H l (.lst [])) (oz k m q t) (wj d7) I (o.QH K d e1 ⟨mx _,λl hl=>⟨rfl,l,rfl,hl,rfl⟩⟩) λv' u' s2 x y j f B D ⟨G,l,J,hl,L⟩=>?_) rfl;subst G J L;have⟨O,g⟩:=b.lay (o:=.lst []) hl;have T:a≠l:=λz=>by have:=o.lst;rw[z,hl]at this;cases this
 have r1:Rep C (λy=>c0.S y\/y=a\/y=l) (upd c0.H l (.lst [])) (.lst us) (.ref a):=⟨a,vs,rfl,.inl ⟨.inr (.inl rfl),.inl (by rw[ak T];show o.lst)⟩,o.Jb.mv ⟨λy z=>.inl z,(b.mv g.toNs).Oi,(b.mv g.toNs).Qr⟩⟩
 have r2:Rep C (λy=>c0.S y\/y=a\/y=l) (upd c0.H l (.lst [])) (.lst []) (.ref l):=⟨l,[],rfl,.inl ⟨.inr (.inr rfl),.inl aq⟩,rfl⟩
 have z:=(DE (A:=X.A) (n:=50) (.of f d _ _ _ _ w r1 B) (.of f d _ _ _ _ (by simp[Ia,b_]) r2 D) ⋯).1;show z _ _ _ _ (Jx ⟨_,f,?_⟩);have e:bI (.lst us) (.lst [])=us.isEmpty:=by cases us<;>rfl
 rw[e];show h {c0 with H:=upd c0.H l (.lst [])} rfl rfl O g
def Ok.xX(t:Ok C c)(n:Ns c0 c)(hs:c.st[i]?=a5 (a5 (.A',.ob u us)))(e1:c.σ[i]?=a5 (a5 (.ref r)))(hk:c.kid i=[a])(o:LW C c.S c.H r a u us cl f v vs)
 (g:∀b,b≠r->b≠a->H' b=c.H b) (h:H' r=a5 (.ins cl f (Mh v' a))) (k:H' a=a5 (.lst vs')) (y:HQ w=bD) (A:cZ ws=bD) (B:Rep C c.S c.H w v') (rws:ar C c.S c.H ws vs') :
    ∃d:Cf,d.H=H'/\d.σ=c.σ/\d.S=c.S/\d.st=c.st.set i (a5 (.A',.ob w ws))/\Ok C d/\Ns c0 d:=by
  have⟨D,G⟩:=t.xN (H':=H') (u':=.ob w ws) (as':=[a]) n hs e1 (λb z=>g b (λq=>z ⟨_,_,hs,e1,.inl q⟩) λq=>z ⟨_,_,hs,e1,.inr (by rw[hk,q];simp)⟩) (λb o' e=>by
      by_cases l:b=r
      . subst l;show⟨_,h⟩
      . by_cases m:b=a
        . subst m;show⟨_,k⟩
        . show⟨o',by rw[g b l m];show e⟩)
    (λp=>⟨cl,f,v',a,vs',rfl,o.hc,h,o.ne,o.fr,y,B.mv p,k,A,rws.mv p⟩) (λb I=>.inl (by rw[hk];show I))
  show⟨{c with H:=H',st:=c.st.set i (a5 (.A',.ob w ws)),kid:=λj=>if j=i then [a] else c.kid j},rfl,rfl,rfl,rfl,D,G⟩
def xY(K:Kz X.K cl)(g:C.K=X.K)(j:X.N[i]?=a5 x)(k:IT X.env.scope x)(l:(x==("__debug__":Str))=cb)(m:(x==("__classdict__":Str))=cb)(n:(apos.endLine==G'.line)=bD):
  PE X (.Call (.Attribute (.Attribute (.Name x px) "earlier" p1) "pop" apos) [] [] G') (HH C (j4 i)):=by
 show PE.weak (wx PySem.F.plainAttrs_list PySem.F.slot_list_pop PySem.F.type_list_pop wz (oz j k l m) rfl n) ?_;rintro σ H Q ⟨c0,rfl,rfl,d,Y,st',e,h⟩;unfold j4 at e;split at e
 .rename_i u us hs;split at e
  .rename_i w p;cases e;have⟨r,Kk,dx,v,a,vs,e1,hk,o⟩:=d.jj hs;have⟨y,q,t⟩:=o.Jb.get p;have hl:=o.Jb.len;show o.QH K g e1 ⟨.inl ⟨rfl,vs,Ip.of o.lst⟩,a,vs,y,rfl,rfl,o.lst,by rw[<-hl];show q,?_⟩;have z:ar C c0.S c0.H us.dropLast vs.dropLast:=by
    rw[P6,P6,hl];show o.Jb.take _
   have A:cZ us.dropLast=bD:=by
    have:=o.LX;rw[pZ]at this ⊢;show λx B=>this x (List.dropLast_subset _ B)
   have⟨D,G,I,h3,J,L,f⟩:=d.xX (Ns.refl c0) hs e1 hk o (H':=upd c0.H a (.lst vs.dropLast)) (λb z1 O=>ak O) (by rw[ak o.ne];show o.ins) aq o.im A o.rep z;have T:=d.mv f;rw[<-G];show h D y I J L ⟨f⟩ (t.mv T)
  .cases e
 .cases e
end
section
def Ok.Hj(f:Ok C c)(n:Ns c0 c)(hi:i<c.σ.length)(Y:aO C c.S c.H r as u)(A:∀b∈r::as,¬c.R b/\c0.H b=b6):
  Ok C {c with σ:=c.σ.set i (a5 (.ref r)),st:=c.st.set i (a5 (.A',u)),kid:=λj=>if j=i then as else c.kid j}/\Ns c0 {c with σ:=c.σ.set i (a5 (.ref r)),st:=c.st.set i (a5 (.A',u)),kid:=λj=>if j=i then as else c.kid j}:=by
 have D:i<c.st.length:=by rw[f.len];show hi
 have B:∀(j:Nat) k w,(c.st.set i (a5 (.A',u)))[j]?=a5 (a5 (k,w))->j≠i->c.st[j]?=a5 (a5 (k,w)):=λj k w e G=>by rw[hY (ri G)]at e;show e
 have p:∀(j:Nat),j≠i->(c.σ.set i (a5 (.ref r)))[j]?=c.σ[j]?:=λj G=>hY (ri G);have I:∀(j:Nat) k w,k.root=bD->(c.st.set i (a5 (.A',u)))[j]?=a5 (a5 (k,w))->j≠i/\c.st[j]?=a5 (a5 (k,w)):=λj k w hk e=>by
  by_cases d:j=i
  .subst d;rw[ez D]at e;cases e;cases hk
  .show⟨d,B j k w e d⟩
 have b1:∀a,({c with σ:=c.σ.set i (a5 (.ref r)),st:=c.st.set i (a5 (.A',u)),kid:=λj=>if j=i then as else c.kid j}:Cf).R1 a->c.R1 a:=λa J=>by
  have⟨j,k,w,hk,e1,g⟩:=J;have⟨d,IK⟩:=I j k w hk e1;show⟨j,k,w,hk,IK,by rw[<-p j d];show g⟩
 have q:∀j a,({c with σ:=c.σ.set i (a5 (.ref r)),st:=c.st.set i (a5 (.A',u)),kid:=λj=>if j=i then as else c.kid j}:Cf).RD j a->(j≠i/\c.RD j a)\/(j=i/\a∈r::as):=λj a J=>by
  have⟨w,h,e1,g,e3⟩:=J;by_cases d:j=i
  .subst d;have s:(c.σ.set j (a5 (.ref r)))[j]?=a5 (a5 (.ref h)):=g;rw[ez hi]at s;cases s;rcases e3 with rfl|e3
   .show .inr ⟨rfl,by simp⟩
   .show .inr ⟨rfl,i8 _ (by simpa using e3)⟩
  .have LZ:a=h\/a∈c.kid j:=by simpa[d] using e3
   show .inl ⟨d,w,h,B j _ w e1 d,by rw[<-p j d];show g,LZ⟩
 show⟨⟨f.same,f.JC,f.par,f.io,by simp[f.len],λj k w e=>?_,λo l k1 k2 N O h Q T e1 g e3 e4=>?_,⟨λj w h e1 g=>?_,λo l a L t=>?_,λj a L t=>?_⟩⟩,⟨n.keep,n.there,λa z=>?_,n.sub,n.new⟩⟩
 .by_cases d:j=i
  .subst d;rw[ez D]at e;cases e;show⟨.ref r,ez hi,r,rfl⟩
  .have⟨v,e1,g⟩:=f.sl j k w (B j k w e d);show⟨v,(p j d).trans e1,g⟩
 .have⟨MX,a1⟩:=I o k1 N Q e1;have⟨Mu,a2⟩:=I l k2 O T g;show f.inj o l k1 k2 N O h Q T a1 a2 ((p o MX).symm.trans e3) ((p l Mu).symm.trans e4)
 .by_cases d:j=i
  .subst d;rw[ez D]at e1;cases e1;have s:(c.σ.set j (a5 (.ref r)))[j]?=a5 (a5 (.ref h)):=g;rw[ez hi]at s;cases s;change aO C c.S c.H r (if j=j then as else c.kid j) u;rw[ê rfl];show Y
  .have z:=f.dd.kd j w h (B j _ w e1 d) ((p j d).symm.trans g);change aO C c.S c.H h (if j=i then as else c.kid j) w;rw[ë d];show z
 .rcases q o a L with⟨_,m⟩|⟨rfl,m⟩
  .rcases q l a t with⟨_,x⟩|⟨rfl,x⟩
   .show f.dd.dj o l a m x
   .show((A a x).1 (.inr ⟨o,m⟩)).elim
  .rcases q l a t with⟨_,x⟩|⟨rfl,_⟩
   .show((A a m).1 (.inr ⟨l,x⟩)).elim
   .rfl
 .rcases q j a L with⟨_,m⟩|⟨rfl,m⟩
  .show f.dd.d1 j a m (b1 a t)
  .show(A a m).1 (.inl (b1 a t))
 .rcases z with z|⟨j,z⟩
  .show n.roots a (.inl (b1 a z))
  .rcases q j a z with⟨_,y⟩|⟨_,y⟩
   .show n.roots a (.inr ⟨j,y⟩)
   .show .inr (A a y).2
def D1(K:Kz X.K cl)(s:C.K=X.K)(y:X.N[i]?=a5 x)(A:IT X.env.scope x)(B:(x==("__debug__":Str))=cb)(G:(x==("__classdict__":Str))=cb)(I:PE X e (HH C m))(hs:Ou e (a5 (.Attribute (.Name x px) "rows" J)) pos.line X.env=pure cb):
  L2.PS X (.Assign [.Attribute (.Name x px) "rows" J] e pos) (IB C ns (m >>= λr=>lift r >>= λu=>Mq i (λ_ us=>a5 (u,us)) >>= λ_=>pure .nx)):=by
 show PS.weak (qO (aZ y A B G) I hs) ?_;rintro D σ H ⟨c0,rfl,rfl,j,h⟩;show aB j h λr c v t w=>?_;rw[af]at w;obtain⟨S',st',u,sS,k,L,d,l,_,_⟩:=f9 j t.ok t.nx t.rx.w w;rw[af]at l;have⟨u0,us,w',ws,hs,O,Q,i2,q⟩:=p7 l;cases O;rw[ao]at q;have⟨g,Kk,n,T,a,vs,e1,hk,o⟩:=k.jj hs;cases(K.hc).one (s▸o.hc);have Y:c0.σ[i]?=a5 (a5 (.ref g)):=by rw[<-t.hσ];show e1
 show⟨_,Y,g,cl,n,_,rfl,o.ins,K.cls,K.nr,by change 2<1000;lia,?_⟩;have⟨f,h1,p,h3,h4,HK,n'⟩:=k.xX (c0:=c0) L.toNs hs e1 hk o (H':=upd c.H g (.ins cl n (d6 "rows" v (Mh T a)))) (v':=v) (vs':=vs) (λb z1 z2=>ak z1) (by rw[aq];rfl) (by rw[ak (ri o.ne)];show o.lst) Q o.LX d o.Jb;have z:=q f h4 HK n' (Kept.of (p.trans t.hσ));rw[show Fin C D .nx f=D.nx f.σ f.H from rfl,h1,p]at z;rw[<-t.hσ];show z
def D2(K:Kz X.K cl)(e:C.K=X.K)(g:X.N[i]?=a5 x)(j:IT X.env.scope x)(k:(x==("__debug__":Str))=cb)(l:(x==("__classdict__":Str))=cb)(s:(apos.endLine==t.line)=bD):
  L2.PS X (.Expr (.Call (.Attribute (.Attribute (.Name x px) "earlier" O) "append" apos) [.Attribute (.Name x p2) "rows" Q] [] t) pos) (IB C ns (Mq i AA >>= λ_=>pure .nx)):=by
 show PS.weak (ib (pF PySem.F.plainAttrs_list PySem.F.slot_list_append PySem.F.type_list_append jc (oz g j k l) (dC (qN (f:="rows") (aZ g j k l) rfl) d7) rfl rfl s rfl rfl)) ?_;rintro D σ H ⟨c0,rfl,rfl,m,h⟩;rw[af]at h;have⟨u,us,w,ws,hs,c,T,y,q⟩:=p7 h;unfold AA at c;split at c
 rotate_left
 .cases c
 rename_i n;cases c;rw[ao]at q;have⟨r,Y,A,v,a,vs,e1,hk,o⟩:=m.jj hs;have hl:=o.Jb.len;unfold B0 T8;show o.QH K e e1 ⟨.inl ⟨rfl,vs,Ip.of o.lst⟩,?_⟩;cases(K.hc).one (e▸o.hc);show⟨_,e1,r,cl,A,_,v,rfl,o.ins,K.cls,K.nr,rfl,a,vs,v,rfl,rfl,o.lst,⋯,?_⟩;have⟨d,B,p,h3,G,I,J⟩:=m.xX (c0:=c0) (Ns.refl c0) hs e1 hk o (H':=upd c0.H a (.lst (vs++[v]))) (λb z1 L=>ak L) (by rw[ak o.ne];show o.ins) aq o.im y o.rep (o.Jb.snoc o.rep);have z:=q d G I J (Kept.of p);rw[show Fin C D .nx d=D.nx d.σ d.H from rfl,B,p]at z;show z
abbrev Te(cl:gi):Sp:=λvs H Q _=>∃x a,vs=[.ref x]/\H x=a5 (.ins cl a [])/\∀t l,H t=b6->H l=b6->t≠l->Q .HD (upd (upd (upd H t (.tup [])) l (.lst [])) x (.ins cl a (Mh (.ref t) l)))
end
abbrev Tf:List Le->Bool
 |[.Assign [.Attribute (.Name a _) b _] (.Tuple [] _ _) _,.Assign [.Attribute (.Name c _) d _] (.List [] _) _]=>cL (a="self")&&cL (b="rows")&&cL (c="self")&&cL (d="earlier")
 |_=>cb
def Be{K:PySem.W.Frag}{st:Le}(F:LQ K "__init__" u st f C)(S:dc ["self"] ["self"] (ax st))(j:Tf (bW st)=bD)(v:IT (ax st) "self")(E:Kz K cl):
  dN P w K mg base N7 (k+1) f C ["self"] (Te cl):=by
 show F.ok S (λvs H Q E h=>by obtain⟨x,g,rfl,_⟩:=h;rfl) λI A outer s H vs Q J L h=>?_;unfold Tf at j;split at j
 rotate_left
 .cases j
 rename_i a N b O _ _ _ c T d Y _ _ D;simp only[b7,é]at j;obtain⟨⟨⟨rfl,rfl⟩,rfl⟩,rfl⟩:=j;rw[D];have⟨x,g,rfl,m,q⟩:=h;show⟨_,ia (qO (aZ (i:=0) rfl v) (C0 d7) rfl) (ia (qO (aZ (i:=0) rfl v) (wj d7) rfl) nA),?_⟩;show⟨mx _,λt o=>⟨_,rfl,x,cl,g,[],rfl,?_,E.cls,E.nr,by decide,?_⟩⟩
 .rw[ak (λz=>by rw[z,o]at m;cases m)];show m
 .have G:x≠t:=λz=>by rw[z,o]at m;cases m
  show⟨mx _,λl hl=>⟨_,rfl,x,cl,g,d6 "rows" (.ref t) [],rfl,?_,E.cls,E.ne,by change 1<1000;decide,?_⟩⟩
  .have p:x≠l:=λz=>by rw[<-z,aq]at hl;cases hl
   rw[ak p,aq]
  .have p:x≠l:=λz=>by rw[<-z,aq]at hl;cases hl
   have B:t≠l:=λz=>by rw[<-z,ak (ri G),aq]at hl;cases hl
   have z:=q t l o (by rw[ak (ri p),ak (ri B)]at hl;show hl) B;have e:upd (upd (upd (upd H t (.tup [])) x (.ins cl g (d6 "rows" (.ref t) []))) l (.lst [])) x (.ins cl g (d6 "earlier" (.ref l) (d6 "rows" (.ref t) [])))=upd (upd (upd H t (.tup [])) l (.lst [])) x (.ins cl g (Mh (.ref t) l)):=by
    funext y
    by_cases n:y=x
    .subst n;rw[aq,aq];rfl
    .rw[ak n,ak n];by_cases r:y=l
     .subst r;rw[aq,aq]
     .rw[ak r,ak r,ak n]
   change Q .HD _;rw[e];show z
def tJ(h:p<=l.length):(gz p o l)[p]?=a5 o:=by
 unfold gz;rw[mu (by rw[pb];lia),pb,QV h,Nat.sub_self];rfl
def Bg(h:p<=l.length)(hl:l.length=l'.length)(hi:i≠p):∃j:Nat,(gz p o l)[i]?=l[j]?/\(gz p o' l')[i]?=l'[j]?:=by
 unfold gz;by_cases z:i<p
 .show⟨i,?_,?_⟩
  .rw[nc (by rw[pb];lia),Oq z]
  .rw[nc (by rw[pb];lia),Oq z]
 .obtain⟨m,rfl⟩:∃m,i=p+(m+1):=⟨i - p - 1,⋯⟩
  show⟨p+m,?_,?_⟩
  .rw[mu (by rw[pb];lia),pb,QV h,O1,OP,DD]
  .rw[mu (by rw[pb];lia),pb,QV ⋯,O1,OP,DD]
def iO(h:p<=l.length):(gz p o l).length=l.length+1:=by
 unfold gz;simp;lia
structure D3(C:Ct)(H:Hp)(p:Nat)(r a:gi)(us:List U)(vs:List V):Prop where
 len:us.length=vs.length
 par:∀x,C.Jo x->Jh H x/\¬C.IO x
 NI:∀x,C.IO x↔x=r\/x=a
 at_:vs[p]?=a5 (.ref r)
 ob:∃u ws,us[p]?=a5 (.ob u ws)/\aO C (λ_=>False) H r [a] (.ob u ws)
 any:∀(i:Nat) (u:U),i≠p->us[i]?=a5 u->∃v,vs[i]?=a5 v/\Rep C C.Jo H u v
structure p9(C:Ct)(H H':Hp)(S':gi->Prop)(r:gi)(o:U)(k:Kd)(u:U)(v:V):Prop where
 same:∀x y,H x=a5 y->¬C.IO x->H' x=a5 y
 there:∀x y,H x=a5 y->∃y',H' x=a5 y'
 new:∀x,S' x->H x=b6/\∃y,H' x=a5 y
 ob:∃a',(C.IO a'\/H a'=b6)/\aO C S' H' r [a'] o/\(k=.own->v≠.ref a')
 own:k=.own->∃q,v=.ref q/\H q=b6/\¬S' q/\cH C S' H' q u
 loc:k=.loc->Rep C S' H' u v
abbrev Mx(P:va)(w:w6)(K:PySem.W.Frag)(F:List U->Option (Ex (Kd×U)))(e p:Nat):Sp:=λvs H Q E=>vs.length=e/\∃us k u o b IO r a,F us=a5 (.ok (k,.tup [u,o]))/\D3 (Ky P w K H b IO) H p r a us vs /\
 ((k=.own\/k=.loc)/\(∀v H' S',p9 (Ky P w K H b IO) H H' S' r o k u v->Q v H') \/
  k=.io/\∃c,u=.str c/\∀d H' S',PySem.W.nsIn K mN c=a5 (a5 (.ref d))->p9 (Ky P w K H b IO) H H' S' r o .io .HD .HD->E (.ref d) b6 H')
section
variable{X:Cx}{C:Ct}{pins:List (gi×Obj)}{s:gm}{c0 c c1:Cf}{i p:Nat}{x:Str}{px apos p1 p2 p3 p4 pos G':Pos}{u:U}{us:List U}{ns:Nat->Bool}{Q:VK}
def Ok.xZ(B:Ok C c)(n:Ns c0 c)(q:d.Eqv C)(hs:c.st[i]?=a5 (a5 (.A',.ob u us)))(e1:c.σ[i]?=a5 (a5 (.ref r)))(hk:c.kid i=[a])(o:LW C c.S c.H r a u us cl dx v0 vs)(Y:∀x,d.IO x↔x=r\/x=a)
 (b:p9 d c.H H' S' r (.ob u' h) k w v) :
    ∃g:Cf,g.H=H'/\g.σ=c.σ/\(∀x,g.S x↔c.S x\/S' x)/\g.st=c.st.set i (a5 (.A',.ob u' h))/\Ok C g/\Ns c0 g/\∀x,g.R x->c.R x\/(c.H x=b6/\(k=.own->v≠.ref x)):=by
  classical
  let m:Hp:=λx=>if d.IO x then c.H x else H' x
  have D:∀x,¬d.IO x->m x=H' x:=λx z=>ë z;have QI:∀x,d.IO x->m x=c.H x:=λx z=>ê z;have rD:∀x,d.IO x->c.RD i x:=λx z=>⟨_,r,hs,e1,((Y x).mp z).imp id λz=>by rw[hk,z];simp⟩
  have Ov:∀x,d.IO x->∃y,c.H x=a5 y:=λx z=>let ⟨_,_,_,y,e,_⟩:=B.root (.inr ⟨i,rD x z⟩);⟨y,e⟩;have NH:∀x,S' x->¬d.IO x:=λx z J=>by
    have⟨y,e⟩:=Ov x J;rw[(b.new x z).1]at e;cases e
  have LB:qW c.H m:=λx y e=>by
    by_cases z:d.IO x
    . rw[QI x z];show e
    . rw[D x z];show b.same x y e z
  have⟨HF,n1⟩:=B.grow (H':=m) (S':=λx=>c.S x\/S' x) LB (λx z=>z.imp id λz=>⟨(b.new x z).1,by rw[D x (NH x z)];show(b.new x z).2⟩) λx=>.inl;have⟨a',RQ,rd,Th⟩:=b.ob;have⟨Kk,Ti,v',a2,vs',ea,o'⟩:=rd;cases ea;have Xi:d.IO a'->a'=a:=λz=>((Y a').mp z).resolve_left (ri o'.ne);have L:a'=a\/c.H a'=b6:=RQ.imp Xi id;have Io:∀y∈[r,a'],¬(c.S y\/S' y)/\¬C.Jo y/\(C.H₀ y=b6\/C.IO y):=λy hy=>by
    have t:=o'.fr y hy;rcases gj.mp hy with rfl|hy
    . have A:=o.fr y (by simp)
      show⟨λz=>z.elim A.1 t.1,A.2⟩
    . rw[js.mp hy]at t ⊢
      rcases L with z|z
      . have A:=o.fr a (by simp)
        rw[z]at t ⊢;show⟨λz=>z.elim A.1 t.1,A.2⟩
      . obtain⟨z1,z2,z3,_,_⟩:=B.fw z
        show⟨λz=>z.elim z2 t.1,z3,.inl z1⟩
  have⟨Ib,n2⟩:=Ok.xN (c:={c with H:=m,S:=λx=>c.S x\/S' x}) (H':=H') (u':=.ob u' h) (as':=[a']) HF (n.trans n1.toNs) hs e1
    (λx z=>(D x λJ=>z (rD x J)).symm) (λx y e=>by
      by_cases z:d.IO x
      . have⟨y',e'⟩:=Ov x z
        show b.there x y' e'
      . show⟨y,by rw[<-D x z];show e⟩)
    (λmv=>⟨Kk,Ti,v',a',vs',rfl,by rw[Kt,<-q.K];show o'.hc,o'.ins,o'.ne,Io,o'.im,(o'.rep.cg q).mv (.up λx=>.inr),o'.lst,o'.LX,(o'.Jb.cg q).mv (.up λx=>.inr)⟩)
    (λy hy=>by
      rw[js.mp hy];rcases L with z|z
      . show .inl (by change a'∈c.kid i;rw[hk,z];simp)
      . obtain⟨_,_,_,_,z4⟩:=B.fw z
        show .inr ⟨z4,n.none z⟩)
  show⟨{c with H:=H',S:=λx=>c.S x\/S' x,st:=c.st.set i (a5 (.A',.ob u' h)),kid:=λj=>if j=i then [a'] else c.kid j},rfl,rfl,λx=>Uw,rfl,Ib,n2,λy hy=>?_⟩;have Iz:i<c.st.length:=(dt.mp hs).1;rcases hy with⟨j,k',N,IC,G,I⟩|⟨j,N,O,G,I,g3⟩
  . show .inl (.inl ⟨j,k',N,IC,?_,I⟩)
    by_cases l:j=i
    . subst l
      have f:(c.st.set j (a5 (.A',.ob u' h)))[j]?=_:=G;rw[ez Iz]at f;cases f;cases IC
    . have f:(c.st.set i (a5 (.A',.ob u' h)))[j]?=_:=G
      rw[hY (ri l)]at f;show f
  . by_cases l:j=i
    . subst l
      have PD:c.σ[j]?=a5 (a5 (.ref O)):=I;rw[e1]at PD;cases PD;rcases g3 with rfl|g3
      . show .inl (.inr ⟨j,_,_,hs,e1,.inl rfl⟩)
      . have T:y=a':=by simpa using g3
        subst T;rcases L with z|z
        . show .inl (.inr ⟨j,_,_,hs,e1,.inr (by rw[hk,z];simp)⟩)
        . show .inr ⟨z,Th⟩
    . have f:(c.st.set i (a5 (.A',.ob u' h)))[j]?=_:=G
      rw[hY (ri l)]at f;have T:y=O\/y∈c.kid j:=by simpa[l] using g3
      show .inl (.inr ⟨j,N,O,f,I,T⟩)
def Jc.FU(t:Jc C c0 c rs vs)(I:C.P=X.prog)(J:C.w=X.w)(B:C.K=X.K)(hs:c.st[i]?=a5 (a5 (.A',.ob u us)))(e1:c.σ[i]?=a5 (a5 (.ref r)))(hk:c.kid i=[a])(o:LW C c.S c.H r a u us cl L N O)(n:p<=rs.length):
  D3 (Ky X.prog X.w X.K c.H (λx=>Jh c.H x/\¬(x=r\/x=a)) λx=>x=r\/x=a) c.H p r a (gz p (.ob u us) (rs.map (·.2))) (gz p (.ref r) vs):=by
 have d:C.Eqv (Ky X.prog X.w X.K c.H (λx=>Jh c.H x/\¬(x=r\/x=a)) λx=>x=r\/x=a):=⟨I,J,B⟩
 have hl:=t.len;have D:(rs.map (·.2)).length=vs.length:=by rw[dr];show hl
 have h:∀x,(x=r\/x=a)->c.RD i x:=λx z=>⟨_,r,hs,e1,z.imp id λz=>by rw[hk,z];simp⟩
 have k:∀x,c.S x->Jh c.H x/\¬(x=r\/x=a):=λx z=>⟨t.ok.uV x z,λA=>(t.ok.root (.inr ⟨i,h x A⟩)).1 z⟩
 show⟨by rw[iO (by rw[dr];show n),iO ⋯,D],λx z=>z,λx=>Uw,tJ ⋯,⟨u,us,tJ (by rw[dr];show n),cl,L,N,a,O,rfl,by rw[Kt,show(Ky X.prog X.w X.K c.H (λx=>Jh c.H x/\¬(x=r\/x=a)) λx=>x=r\/x=a).K=C.K from B.symm];show o.hc,o.ins,o.ne,λy f=>⟨λz=>z,λz=>z.2 (by simpa using f),.inr (by simpa using f)⟩,o.im,(o.rep.HQ o.im).cg d,o.lst,o.LX,(o.Jb.HQ o.LX).cg d⟩,λm w T e=>?_⟩;have⟨j,Y,g2⟩:=Bg (p:=p) (i:=m) (o:=U.ob u us) (o':=V.ref r) (l:=rs.map (·.2)) (l':=vs) (by rw[dr];show n) D T;rw[Y,pa,hQ]at e;obtain⟨⟨k',w'⟩,e,rfl⟩:=e;have⟨v,b1,b⟩:=t.Ta e;show⟨v,g2.trans b1,Rep.cg d (u:=w') ?_⟩;cases k' with
 |own =>
  obtain⟨q,rfl,_,d1,G,g⟩:=b;obtain⟨y,f,_⟩:=g.some;show g.rep k ⟨⟨y,f⟩,λz=>G (.inr ⟨i,h q z⟩)⟩
 |loc=>show Rep.mv (.up k) b
 |any=>show Rep.mv (.up λy z=>z.elim (λz=>⟨t.ok.Ds y (.inl z),λA=>(t.ok.root (.inr ⟨i,h y A⟩)).2.1 z⟩) (k y)) b
 |bor j' =>
  obtain⟨q,rfl,d1,G,_,g⟩:=t.ok.rootOf b.1 b.2;obtain⟨y,f,_⟩:=g.some;have⟨k3,z1,z2⟩:=b.1;show g.rep k ⟨⟨y,f⟩,λz=>t.ok.dd.d1 i q (h q z) ⟨j',k3,_,z1,z2,b.2⟩⟩
 |_=>show b.elim
def Jc.x6(t:Jc C c0 c rs vs)(A:C.P=X.prog)(B:C.w=X.w)(D:C.K=X.K){E:XK}(J:Γ f=F)(L:∀us r,F us=a5 (.ok r)->us.length=N)(w:W (fG Γ f p i rs) c.st (cu C c0 Q)):
  ∃r u us cl g a h j,c.st[i]?=a5 (a5 (.A',.ob u us))/\c.σ[i]?=a5 (a5 (.ref r))/\LW C c.S c.H r a u us cl g h j/\Mx X.prog X.w X.K F N p (gz p (.ref r) vs) c.H Q E:=by
 have⟨r',st',e,q⟩:=w;unfold fG at e;split at e
 .rename_i u us hs;rw[J]at e;split at e
  .rename_i k w u' O G;split at e
   .rename_i hz;cases e;have⟨r,cl,g,h,a,j,e1,hk,o⟩:=t.ok.jj hs;have hl:=t.len;show⟨r,u,us,cl,g,a,h,j,hs,e1,o,?_,_,k,w,.ob u' O,_,_,r,a,G,t.FU A B D hs e1 hk o hz.2,.inl ⟨hz.1,λv H' S' b=>?_⟩⟩
    .have z:=L _ _ G;rw[iO (by rw[dr];show hz.2),dr]at z;rw[iO (by rw[<-hl];show hz.2),<-hl];show z
    .have l:(Ky X.prog X.w X.K c.H (λx=>Jh c.H x/\¬(x=r\/x=a)) λx=>x=r\/x=a).Eqv C:=⟨A.symm,B.symm,D.symm⟩
     have⟨d,m,T,n,Y,HK,n',hR⟩:=t.ok.xZ (c0:=c0) t.nx.toNs l hs e1 hk o (λx=>Uw) b;rw[<-m];show q d v (T.trans t.hσ) Y HK ⟨n'⟩ ?_;rcases hz.1 with rfl|rfl
     .have⟨y,rfl,I,d2,d3⟩:=b.own rfl;obtain⟨_,z1,_,_,z4⟩:=t.ok.fw I;show⟨y,rfl,t.nx.none I,λz=>((n y).mp z).elim z1 d2,λz=>?_,?_⟩
      .rcases hR y z with z|⟨_,z⟩
       .show z4 z
       .show z rfl rfl
      .rw[m];show(d3.cg l).mv (.up λx z=>(n x).mpr (.inr z)) λ_ q=>q
     .rw[show aF C c0 d .loc w v=Rep C d.S d.H w v from rfl,m];show((b.loc rfl).cg l).mv (.up λx z=>(n x).mpr (.inr z))
   .cases e
  .cases e
 .cases e
end
section
abbrev iP(C:Ct)(p i:Nat)(m:M (List (Kd×U))):TA:=λσ H Q=>∃v,∃c0:Cf,σ[i]?=a5 (a5 v)/\c0.σ=σ/\c0.H=H/\Ok C c0/\W m c0.st λrs st'=>∀c vs,c.σ=σ->c.st=st'->Ok C c->Nx c0 c->cA C c0 c rs vs->Q (gz p v vs) c.H
def tK(b:X.N[i]?=a5 x)(c:IT X.env.scope x)(d:(x==("__debug__":Str))=cb)(e:(x==("__classdict__":Str))=cb)(f:PA X es (Jj C ms)):PA X (.Name x px::es) (iP C 0 i ms):=by
 rintro pos a s σ H Q I ⟨v,c0,ev,rfl,rfl,g,h⟩;show dC (aZ b c d e) f rfl pos a s c0.σ c0.H Q I ⟨v,ev,c0,rfl,rfl,g,h⟩
def Bh(f:PE X e (HH C m))(g:PA X es (iP C p i ms))(hs:i7 (e::es) X.env=(cb,uk e X.env)::i7 es X.env):PA X (e::es) (iP C (p+1) i (m >>= λr=>ms >>= λrs=>pure (r::rs))):=by
 rintro pos a s σ H Q I ⟨j,c0,ev,rfl,rfl,k,h⟩;show dC f g hs pos a s c0.σ c0.H Q I (aB k h λr l v t w=>?_);rw[af]at w;show⟨j,l,ev,t.hσ,rfl,t.ok,w.mono λrs st2 b n vs c o q d r2=>?_⟩;rw[ao]at b;show b n (v::vs) c o q (t.nx.trans d) ⟨v,vs,rfl,t.rx.w.on t.ok d (c.trans t.hσ.symm),r2.from t.nx,λhk i z v' u x y=>?_⟩;show k_ t.rx.w (r2.get u x) hk y
def B_{k:List (Kd×U)->M β}{Post:β->au->Prop}(f:PA X es (iP C p i ms))(ev:c0.σ[i]?=a5 (a5 v))(I:Inv X a c0.σ c0.H s)(g:Ok C c0)(h:W (ms >>= λrs=>av rs >>= λ_=>k rs) c0.st Post)(pos:Pos):
  gs (i4 X.prog X.w) X.A (YQ (wh pos (i7 es X.env))) (λus s1=>∃rs c vs,Jc C c0 c rs vs/\Inv X a c.σ c.H s1/\Vals (gz p v vs) us/\W (k rs) c.st Post) X.xe s:=by
 rw[af]at h;show HE (f pos a s c0.σ c0.H (λws e=>∃rs c vs,ws=gz p v vs/\c.H=e/\Jc C c0 c rs vs/\W (k rs) c.st Post) I ⟨v,c0,ev,rfl,rfl,g,h.mono λrs st1 b d vs e1 j l m r1=>?_⟩) ?_
 .rw[af,bY]at b;subst j;show⟨rs,d,vs,rfl,rfl,⟨e1,l,m,r1,b.1⟩,b.2⟩
 .rintro us s1 ⟨ws,e,n,rv,rs,d,vs,rfl,rfl,t,w⟩;show⟨rs,d,vs,t,by rw[t.hσ];show n,rv,w⟩
def x9(g:C.P=X.prog)(j:C.w=X.w)(l:C.K=X.K)(m:Γ f=F)(n:∀us r,F us=a5 (.ok r)->us.length=o)
  (G:dN X.prog X.w X.K X.mg X.base (J3 X.prog X.w) k fa q ps (Mx X.prog X.w X.K F o p)) (v:cP k X.A) (x:Gl X f) (y:X.mg f=a5 (.ref fa)) (B:PySem.W.keepIn X.K (.ref fa)=bD) (D:Binds X.K q ps [])
  (J:(f==("__debug__":Str))=cb) (L:PA X (e::es) (iP C p i ms)) (N:i7 (e::es) X.env=(cb,uk e X.env)::i7 es X.env) (O:(wh pos (i7 es X.env)).any (·.1)=cb) :
  PE X (.Call (.Name f Y) (e::es) [] pos) (HH C (Jw i >>= λ_=>ms >>= λrs=>av rs >>= λ_=>fG Γ f p i rs)):=by
 rintro a s σ H Q I ⟨c0,rfl,rfl,ok,h⟩;rw[af]at h;have⟨u,us,hs,h⟩:=dk h;obtain⟨r,_,_,_,_,_,ev,_,_⟩:=ok.jj hs;show wk (eU I x y ?_ J);show PySem.W.callWith_K (h₀:=X.base) I.ok.mod.M4 B (HE (B_ L ev I ok h pos) λus s1 ⟨rs,c,vs,t,b,rv,w⟩=>⟨b.JE,?_⟩) N O;obtain⟨r',_,_,_,_,_,_,_,_,d,_,T⟩:=t.x6 (E:=E0) g j l m n w;rw[t.hσ,ev]at d;cases d;have z:=kC (Q:=Q) G v D .nil pR b rv (by rw[sx];show T);rw[t.hσ]at z;show z
def tL(b:((wh pos (i7 as env)).all (λx=>!x.1)&&(M6 pos (Ig [] env)).all (λx=>x.1.isSome)&&cL (as.length+([]:List ME).length+(if ([]:List ME).isEmpty then 0 else 1)<30))=bD)(c:(apos.endLine==pos.line)=bD):
  uk (.Call (.Attribute (.Name x px) y apos) as [] pos) env=(do
   let a <-uk (.Name x px) env
   Rz apos.atName
   let (f,first) <-Kw [a] (TC a y (do return (<-importBound (.Name x px) env).getD bD))
   Vz pos f first (wh pos (i7 as env)) (M6 pos (Ig [] env))):=by
 have d:methodCallForm (as.length+([]:List ME).length) (wh pos (i7 as env)) (M6 pos (Ig [] env))=bD:=b;have e:methodCallPos bD (.Name x px) env apos pos=pure pos:=by unfold methodCallPos;simp[c]
 rw[arm_eval_Call,show NU (.Name x px) y env (uk (.Name x px) env)=uk (.Name x px) env from rfl];unfold methodCall calleeOf;rw[d,e];rfl
def Bi(K:Kz X.K cl)(B:C.P=X.prog)(D:C.w=X.w)(d:C.K=X.K)(J:X.N[i]?=a5 x)(L:IT X.env.scope x)(O:(x==("__debug__":Str))=cb)(T:(x==("__classdict__":Str))=cb)(Y:Γ f=F)(Kl:∀us r,F us=a5 (.ok r)->us.length=np)
  (G:dN X.prog X.w X.K X.mg X.base (J3 X.prog X.w) k fa fd ps (Mx X.prog X.w X.K F np 0)) (hr:cP k X.A) (g:Meth X.K cl y fa) (hb:Binds X.K fd ps []) (j:y≠"rows"/\y≠"earlier")
  (ha:PA X (e::es) (Jj C ms)) (he:i7 (e::es) X.env=(cb,uk e X.env)::i7 es X.env) (IY:(wh pos (i7 es X.env)).any (·.1)=cb)
  (ht:uk (.Call (.Attribute (.Name x px) y apos) (e::es) [] pos) X.env=(do
   let l <-uk (.Name x px) X.env
   Rz apos.atName
   let (f,first) <-Kw [l] (TC l y pl)
   Vz pos f first (wh pos (i7 (e::es) X.env)) (M6 pos (Ig [] X.env)))) :
  PE X (.Call (.Attribute (.Name x px) y apos) (e::es) [] pos) (HH C (Jw i >>= λ_=>ms >>= λrs=>av rs >>= λ_=>fG Γ f 0 i rs)):=by
 rintro b s σ H Q I ⟨c0,rfl,rfl,ok,h⟩;rw[af]at h;have⟨u,us,hs,h⟩:=dk h;obtain⟨r,Kk,dx,v0,a,JO,ev,_,o⟩:=ok.jj hs;cases(K.hc).one (d▸o.hc);show PySem.W.methodCall_KW (pl:=pl) (HE (aZ J L O T b s c0.σ c0.H (λv m=>v=.ref r/\m=c0.H) I ⟨_,ev,rfl,rfl⟩) λu' s1 ⟨x',m,n,rx,ex,eH⟩=>?_) ht;subst ex eH;obtain rfl:u'=ki r:=rx;show gN n o.ins K.cls g (by unfold Mh;simp[LM,î.mpr j.1,î.mpr j.2]) ?_;show PySem.W.callWith_K (first:=[.ref r]) (h₀:=X.base) I.ok.mod.M4 g.kp (HE (args ha n ok h pos) λus s2 ⟨rs,c,vs,t,p,rv,w⟩=>⟨p.JE,?_⟩) he IY;obtain⟨r',_,_,_,_,_,_,_,_,q,_,Jm⟩:=t.x6 (E:=E0) B D d Y Kl w;rw[t.hσ,ev]at q;cases q;have z:=kC (us:=.ref r::us) (vs:=.ref r::vs) (Q:=Q) G hr hb .nil pR p (.cons rfl rv) (by rw[sx];show Jm);rw[t.hσ]at z;show z
def x_(K:Kz X.K cl)(n:C.P=X.prog)(p:C.w=X.w)(d:C.K=X.K)(q:X.N[i]?=a5 x)(z:IT X.env.scope x)(B:(x==("__debug__":Str))=cb)(D:(x==("__classdict__":Str))=cb)(J:Γ f=F)(L:∀us r,F us=a5 (.ok r)->us.length=O)
  (G:dN X.prog X.w X.K X.mg X.base (J3 X.prog X.w) k fa T ps (Mx X.prog X.w X.K F O 0)) (Y:cP k X.A) (e:Meth X.K cl y fa) (hb:Binds X.K T ps []) (g:y≠"rows"/\y≠"earlier")
  (ht:uk (.Call (.Attribute (.Name x px) y apos) [] [] pos) X.env=(do
   let j <-uk (.Name x px) X.env
   Rz apos.atName
   let (f,first) <-Kw [j] (TC j y pl)
   Vz pos f first (wh pos (i7 [] X.env)) (M6 pos (Ig [] X.env)))) :
  PE X (.Call (.Attribute (.Name x px) y apos) [] [] pos) (HH C (Jw i >>= λ_=>(pure []:M (List (Kd×U))) >>= λrs=>av rs >>= λ_=>fG Γ f 0 i rs)):=by
 rintro b s σ H Q I ⟨c0,rfl,rfl,ok,h⟩;rw[af]at h;have⟨u,us,hs,h⟩:=dk h;obtain⟨r,Kk,dx,v0,a,JO,ev,_,o⟩:=ok.jj hs;cases(K.hc).one (d▸o.hc);rw[af,ao,af,bY]at h;have t:Jc C c0 c0 [] []:=⟨rfl,ok,Nx.refl c0,rfl,trivial⟩
 show PySem.W.methodCall_KW (pl:=pl) (HE (aZ q z B D b s c0.σ c0.H (λv l=>v=.ref r/\l=c0.H) I ⟨_,ev,rfl,rfl⟩) λu' s1 ⟨x',l,c,rx,ex,eH⟩=>?_) ht;subst ex eH;obtain rfl:u'=ki r:=rx;show gN c o.ins K.cls e (by unfold Mh;simp[LM,î.mpr g.1,î.mpr g.2]) ?_;obtain⟨r',_,_,_,_,_,_,_,_,m,_,Jm⟩:=t.x6 (E:=E0) n p d J L h.2;rw[ev]at m;cases m;show PySem.W.callWith_K0 (first:=[.ref r]) c.JE e.kp (kC (us:=[.ref r]) (vs:=[.ref r]) (Q:=Q) G Y hb .nil pR c (.cons rfl .nil) (by rw[sx];show Jm))
def D4(K:Kz X.K cl)(B:C.K=X.K)(J:∀j,ns j=bD->j≠i)(L:X.N.Nodup)(q:X.N[i]?=a5 x)(O:Loc X.env.scope x)(Q:X.fn x=bD\/X.env.scope.names.lookup x=a5 .local)(M:Mk X.K cl fa)(G:dN X.prog X.w X.K X.mg X.base N7 k fa T ["self"] (Te cl))(Y:cP (k+1) X.A)
  (hg:Gl X "Shelf") (hm:X.mg "Shelf"=a5 (.ref cl)) (hb:Binds X.K T ["self"] []) :
  L2.PS X (.Assign [.Name x px] (.Call (.Name "Shelf" p0) [] [] G') pos) (IB C ns (λst=>a5 (.ok .nx,st.set i (a5 (.A',.ob (.tup []) []))))):=by
 rintro f s σ H D I ⟨c0,rfl,rfl,ok,fl,st',e,h⟩;cases e;have Iz:i<c0.σ.length:=by rw[I.len];show(dt.mp q).1
 show nE L q O (wo M G Y hg hm hb .nil Fp) rfl Q f s c0.σ c0.H D I ?_;intro r b o Tj IW;show⟨r,b,rfl,aq,λt l d hl Mw=>⟨rfl,?_⟩⟩;have u:t≠r:=λz=>by rw[z,aq]at d;cases d
 have p:l≠r:=λz=>by rw[z,aq]at hl;cases hl
 rw[ak u]at d;rw[ak p]at hl;have Tn:t≠b:=λz=>by rw[z,aq]at d;cases d
 have Xj:l≠b:=λz=>by rw[z,aq]at hl;cases hl
 rw[ak Tn]at d;rw[ak Xj]at hl;let g:Hp:=upd (upd (upd (upd (upd c0.H b (.own r)) r (.ins cl b [])) t (.tup [])) l (.lst [])) r (.ins cl b (Mh (.ref t) l));have PH:qW c0.H g:=λy o' a=>by
  have v:y≠r:=λz=>by rw[z,o]at a;cases a
  have y2:y≠l:=λz=>by rw[z,hl]at a;cases a
  have y3:y≠t:=λz=>by rw[z,d]at a;cases a
  have y4:y≠b:=λz=>by rw[z,Tj]at a;cases a
  change upd _ r _ y=_;rw[ak v,ak y2,ak y3,ak v,ak y4];show a
 have⟨HF,n1⟩:=ok.grow (H':=g) (S':=c0.S) PH (λy z=>.inl z) λy z=>z;have m:=ok.fw o;have n:=ok.fw hl;have rd:aO C c0.S g r [l] (.ob (.tup []) []):=⟨cl,b,.ref t,l,[],rfl,B▸K.hc,aq,ri p,λy hy=>by
  rcases gj.mp hy with rfl|hy
  .show⟨m.2.1,m.2.2.1,.inl m.1⟩
  .rw[js.mp hy];show⟨n.2.1,n.2.2.1,.inl n.1⟩,rfl,⟨t,[],rfl,.inl (.inl (by change upd _ r _ t=_;rw[ak u,ak Mw,aq])),rfl⟩,by change upd _ r _ l=_;rw[ak p,aq],rfl,rfl⟩
 have⟨Ib,n2⟩:=Ok.Hj (c:={c0 with H:=g,S:=c0.S}) (i:=i) HF n1.toNs Iz rd (λy hy=>by
  rcases gj.mp hy with rfl|hy
  .show⟨m.2.2.2.2,o⟩
  .rw[js.mp hy];show⟨n.2.2.2.2,hl⟩)
 show h _ rfl Ib n2 ⟨λj hj=>hY (ri (J j hj)),by simp⟩
end
end TM
namespace TM
open PySem L2 PyProof.Rows PySem.W
section
end
section
def vk(d:∀m,ns m=bD->m≠i)(f:Ok C c0)(g:Ok C c)(n:Nx c0 c)(a:c.σ=c0.σ)(hi:i<c.σ.length)(w:W (pV i bD) c.st (eN C c0 ns D)):D.nx (c0.σ.set i (a5 (.bl bD))) c.H:=by
 have⟨r,st',e,q⟩:=w;unfold pV at e;rw[ê rfl]at e;have⟨b,e1,h,j,k,l⟩:=oq (r:=(.loc,.bl bD)) (v:=.bl bD) (i:=i) f g n hi
  (show Rep C c.S _ _ _ from rfl) (Post:=λ_ o=>eN C c0 ns D .nx o) (by
   have z:W (eI i (.loc,.bl bD) >>= λ_=>(pure .nx:M Fl)) c.st (eN C c0 ns D):=⟨r,st',e,q⟩
   rw[af]at z;show z.mono λ_ st z=>ao.mp z)
 have z:D.nx b.σ b.H:=l b rfl j k ⟨λm p=>by
  rw[e1,hY (ri (d m p)),a],by rw[e1];simp[a]⟩
 rw[e1,h,a]at z;show z
def FV
  (IU:∀m,ns m=bD->m≠i) (hN:X.N.Nodup) (hi:X.N[i]?=a5 y) (hy:Loc X.env.scope y) (Xk:X.fn y=bD)
  (K:Kz X.K sc) (hP:C.P=X.prog) (hw:C.w=X.w) (hK:C.K=X.K) (Xl:X.N[b]?=a5 o) (hv:IT X.env.scope o) (hd:(o==("__debug__":Str))=cb) (HN:(o==("__classdict__":Str))=cb) (hF:Γ f=F) (Kl:∀us r,F us=a5 (.ok r)->us.length=np)
  (G:dN X.prog X.w X.K X.mg X.base (J3 X.prog X.w) kd fa fd ps (Mx X.prog X.w X.K F np 0)) (hr:cP kd X.A) (hm:Meth X.K sc m fa) (hb:Binds X.K fd ps []) (UU:m≠"rows"/\m≠"earlier")
  (ht:uk (.Call (.Attribute (.Name o p1) m p2) [] [] p3) X.env=(do
   let ov <-uk (.Name o p1) X.env
   Rz p2.atName
   let (f,first) <-Kw [ov] (TC ov m pl)
   Vz p3 f first (wh p3 (i7 [] X.env)) (M6 p3 (Ig [] X.env))))
  (J:X.stack=X.env::X.outer/\X.env.frame=a5 X.env.locals) (Xm:Gl X x) (QK:X.mg x=a5 (.ref j)) (Tj:(x==("__debug__":Str))=cb) (Xn:nsIn X.K mN x=a5 (a5 (.ref j))) (ac:exmOne X.K (.ref j) (.ref j)=a5 bD) :
  L2.PS X (.Try [.Expr (.Call (.Attribute (.Name o p1) m p2) [] [] p3) p4] [.ExceptHandler (a5 (.Name x p5)) b6 [.Assign [.Name y p6] (.Constant (.bool bD) tk p8) UW] Xo] [] [] pos)
   (IB C ns (Jw b >>= λ_=>mO Γ f b x [] >>= λq=>pV i q)):=by
 rintro c s σ H L I ⟨c0,rfl,rfl,ok,h⟩;have Iz:i<c0.σ.length:=by rw[I.len];show(dt.mp hi).1
 rw[af]at h;have⟨u,us,hs,h⟩:=dk h;have⟨r,Kk,dx,v0,a,JO,ev,Np,ob⟩:=ok.jj hs;cases(K.hc).one (hK▸ob.hc);let EE:dV->gm->Prop:=λv s'=>∃(O:Cf) (s1:gm) (d T:gi) (H':Hp),v=.ref d/\O.σ=c0.σ/\Ok C O/\Nx c0 O/\Inv X c c0.σ c0.H s1/\bX X.prog X.w X.stack c0.H s1 d j (a5 T) .none H' s'/\O.H=H'/\W (pV i bD) O.st (eN C c0 ns L);show wpAny_Try_except (td (Q:=λf s1=>f=â/\SP X c L .next s1) (E:=EE) ?_ (λf s1 z=>?_) λv s1 z=>?_)
 .show Z3 (Ô ?_ I.quiet rfl);show PySem.W.methodCall_KW (pl:=pl) (td (aZ (X:=X.OH) Xl hv hd HN c s c0.σ c0.H (λv H1=>v=.ref r/\H1=c0.H) (I.km _) ⟨_,ev,rfl,rfl⟩) (λu' s1 z=>?_) λ_ _ z=>z.elim) ht;have⟨x',H1,g,rx,ex,eH⟩:=z;subst ex eH;obtain rfl:u'=ki r:=rx;have g:=g.gL;show gN g ob.ins K.cls hm (by unfold Mh;simp[LM,î.mpr UU.1,î.mpr UU.2]) ?_;show PySem.W.callWith_K0 (first:=[.ref r]) g.JE hm.kp ?_;have t:Jc C c0 c0 [] []:=⟨rfl,ok,Nx.refl c0,rfl,trivial⟩
  rw[af]at h;have⟨q',st',e1,q⟩:=h;unfold mO at e1;rw[hs]at e1
  dsimp only at e1
  rw[hF]at e1;have qv:(Ky X.prog X.w X.K c0.H (λx=>Jh c0.H x/\¬(x=r\/x=a)) λx=>x=r\/x=a).Eqv C:=⟨hP.symm,hw.symm,hK.symm⟩
  split at e1
  rotate_left
  .cases e1
  rename_i k w u' HU Jp;have ab:=t.FU (X:=X) (p:=0) hP hw hK hs ev Np ob (mx _);have l:([V.ref r]:List V).length=np:=by
   have z:=Kl _ _ Jp;rw[<-z];simp
  have n:(k=.own\/k=.loc)->W (pV i cb) (c0.st.set b (a5 (.A',.ob u' HU))) (eN C c0 ns L) ->
    gs (i4 X.prog X.w) X.A (OD (.ref fa) [.ref r]) (λv s2=>gs (i4 X.prog X.w) X.A (PySem.execs [] X.env) (λf s4=>f=â/\SP X c L .next s4) EE s2) EE s1:=λhk q=>by
   rw[show pV i cb=pure .nx from rfl,ao]at q;have Jm:Mx X.prog X.w X.K F np 0 [.ref r] c0.H (λv H'=>L.nx c0.σ H') E0:=⟨l,_,k,w,.ob u' HU,_,_,r,a,Jp,ab,.inl ⟨hk,λv H' S' bk=>by
    obtain⟨Y,g1,g2,g3,g4,HK,n',_⟩:=ok.xZ (c0:=c0) t.nx.toNs qv hs ev Np ob (λx=>Uw) bk;have z:L.nx Y.σ Y.H:=q Y g4 HK n' (Kept.of g2);rw[g1,g2]at z;show z⟩⟩
   show td (tm (us:=[.ref r]) (vs:=[.ref r]) (EE:=EE) G hr hb g (.cons rfl .nil) Jm λ_ _ ⟨_,_,_,_,_,_,z⟩=>z.elim) (λv s2 ⟨v',H2,I2,r2,q2⟩=>?_) λ_ _ z=>z;show Q6 ⟨rfl,_,H2,I2,q2⟩
  split at e1
  .cases e1;show n (.inl rfl) q
  .cases e1;show n (.inr rfl) q
  .rename_i Y;split at e1
   case isFalse=>cases e1
   rename_i Xp;subst Xp;cases e1;have Jm:Mx X.prog X.w X.K F np 0 [.ref r] c0.H (λ_ _=>False) (λv _ H'=>v=.ref j/\∃S',p9 (Ky X.prog X.w X.K c0.H (λx=>Jh c0.H x/\¬(x=r\/x=a)) λx=>x=r\/x=a) c0.H H' S' r (.ob u' HU) .io .HD .HD):=⟨l,_,.io,_,.ob u' HU,_,_,r,a,Jp,ab,.inr ⟨rfl,_,rfl,λC1 H1 S1 B h2=>by rw[Xn]at B;cases B;show⟨rfl,S1,h2⟩⟩⟩
   show td (tm (us:=[.ref r]) (vs:=[.ref r]) (EE:=EE) G hr hb g (.cons rfl .nil) Jm λv s' ⟨d,C1,T,H',e3,F',e4,S',bk⟩=>?_) (λv s2 ⟨_,_,_,_,z⟩=>z.elim) λ_ _ z=>z;cases e4;obtain⟨Y,g1,g2,g3,g4,HK,n',_⟩:=ok.xZ (c0:=c0) t.nx.toNs qv hs ev Np ob (λx=>Uw) bk;show⟨Y,s1,d,T,H',e3,g2,HK,⟨n'⟩,g,F',g1,by rw[g4];show q⟩
  .cases e1
 .have⟨rfl,z⟩:=z;show Q6 z
 .have⟨O,s0,d,T,H',rfl,hσ,HV,n0,g,F1,Xq,w⟩:=z;have KH:s0.heap.FunFrames X.base (X.env::X.outer):=by rw[<-J.1];show g.stack
  have Nh:∀b∈Io (X.env::X.outer),c0.H b=b6:=by rw[<-J.1];show g.fW
  have hA:X.A.frames=a5 (X.env::X.outer):=by rw[<-J.1];show g.ok.frames
  rw[J.1]at F1;show F1.note hA J.2 KH Nh λT2 s2 F2=>F2.land KH Nh λT3 s3 F3=>?_;have ag:∀{T:Option gi} {D:dV} {s':gm},bX X.prog X.w (X.env::X.outer) c0.H s0 d j T D H' s'->Inv X c c0.σ H' s':=λ{T D s'} F=>g.BZ (ch:=[]) F.os (by rw[J.1];show F.un) F.HA F.bare λb z=>nomatch z
  have Qp:d≠X.env.locals/\d∉X.fs:=by
   obtain⟨m,⟨o,_,_,ho,_⟩,_⟩:=g.loc;show⟨λz=>?_,λz=>?_⟩
   .rw[<-z,F1.new]at ho;cases ho
   .obtain⟨_,o,q,_⟩:=KH.mem (OG.mpr (by
     have⟨env,B,h2⟩:=OG.mp z;show⟨env,i8 _ B,h2⟩))
    rw[F1.new]at q;cases q
  have Mg:∀{T:Option gi} {D:dV} {s':gm} (E:dV->gm->Prop),bX X.prog X.w (X.env::X.outer) c0.H s0 d j T D H' s'->∃oe,s'.heap.get? d=a5 oe/\oe.cls=.ref j/\Inv (X.Mg d oe E) c c0.σ H' s':=λ{T D s'} E F=>by
   obtain⟨a0,oe,vs,B,h2,h3,_⟩:=F.exc;show⟨oe,B,h2,(ag F).Mg B F.he Qp.1 Qp.2 λv z=>by rw[h3]at z;cases z⟩
  show wpAny_handleBy_cons (codeAny_handlers_test ?_) λz=>nomatch z
  have⟨Yj,g1,g2,I3⟩:=Mg (Se (i4 X.prog X.w) (X.A.mark (a5 (.ref d))) X.env λx s'=>cameBackBy (i4 X.prog X.w) X.A X.env X.xe x s') F3;show eU I3 Xm QK ?_ Tj;have LT:Looks (i4 X.prog X.w) s3.heap (YP (.ref d)) (.ref j):=by
   show(Looks.ld g1).andThen ?_;rw[g2];show .now
  show(exm_one I3.JE LT ac).here (codeAny_handlers_suite ?_);show F3.land KH Nh λT4 s4 F4=>?_;have⟨Xr,g3,g4,I4⟩:=Mg (λ_ _=>False) F4;have pt:=nE (X:=X.Mg d Xr λ_ _=>False) (e:=.Constant (.bool bD) tk p8) (pos:=UW) (pos':=p6) hN hi hy (vY (b:=bD)) rfl (.inl Xk);show td ((ia pt nA) c s4 _ H' {nx:=λσ H=>σ=c0.σ.set i (a5 (.bl bD))/\H=H',rt:=λ_ _=>False} I4 ⟨rfl,rfl⟩) (λD s6 z=>?_) λ_ _ z=>z.elim;cases D with
  |next =>
   obtain⟨_,_,I6,rfl,rfl⟩:=z;show⟨_,_,I6.Hd I.ok,by rw[<-Xq];show vk IU ok HV n0 hσ (by rw[hσ];show Iz) w⟩
  |ret v=>obtain⟨_,_,_,_,_,z⟩:=z;show z.elim
  |_=>obtain⟨_,_,_,z⟩:=z;show z.elim
end
end TM
namespace TM
open PySem L2 PyProof.Rows
open Classical in
abbrev j6(H:Hp)(a:gi->Prop):Hp:=λx=>if a x then b6 else H x
def vm(h:j6 H a x=a5 y):H x=a5 y/\¬a x:=by
 unfold j6 at h;split at h
 .cases h
 .show⟨h,by assumption⟩
def tM(h:H x=a5 y)(z:¬a x):j6 H a x=a5 y:=by
 unfold j6;rw[ë z];show h
def mT(h:j6 H a x=b6):H x=b6\/a x:=by
 unfold j6 at h;split at h
 .show .inr (by assumption)
 .show .inl h
noncomputable abbrev K'(P:va)(w:w6)(K:PySem.W.Frag)(H:Hp)(a IO b:gi->Prop):Ct:=Ky P w K (j6 H b) a IO
structure D5(C:Ct)(H:Hp)(Oc:gi->Prop)(p:Nat)(r a:gi)(is:List Nat)(us:List U)(vs:List V):Prop where
 len:us.length=vs.length
 par:∀x,C.Jo x->Jh H x/\¬C.IO x/\¬Oc x
 oc:∀x,Oc x->Jh H x/\¬C.IO x
 NI:∀x,C.IO x↔x=r\/x=a\/∃i∈is,vs[i]?=a5 (.ref x)
 at_:vs[p]?=a5 (.ref r)
 np:p∉is
 ob:∃u ws,us[p]?=a5 (.ob u ws)/\aO C Oc H r [a] (.ob u ws)
 io:∀(i:Nat) (u:U),i∈is->us[i]?=a5 u->∃q,vs[i]?=a5 (.ref q)/\q≠r/\q≠a/\cH C Oc H q u
 any:∀(i:Nat) (u:U),i≠p->i∉is->us[i]?=a5 u->∃v,vs[i]?=a5 v/\Rep C (PS C Oc) H u v
 inj:∀(i j:Nat) (q:gi),i∈is->j∈is->vs[i]?=a5 (.ref q)->vs[j]?=a5 (.ref q)->i=j
structure tN(C:Ct)(H H':Hp)(Oc S':gi->Prop)(r a:gi)(is:List Nat)(vs:List V)(o:U)(ws:List U)(k:Kd)(u:U)(v:V):Prop where
 same:∀x y,H x=a5 y->¬C.IO x->H' x=a5 y
 there:∀x y,H x=a5 y->∃y',H' x=a5 y'
 new:∀x,S' x->(H x=b6\/Oc x)/\∃y,H' x=a5 y
 ob:∃a',(a'=a\/H a'=b6)/\aO C S' H' r [a'] o/\(k=.own->v≠.ref a')
 own:k=.own->∃q,v=.ref q/\H q=b6/\¬S' q/\cH C S' H' q u
 loc:k=.loc->Rep C S' H' u v
 len:ws.length=is.length
 IZ:∀(n i:Nat) (q:gi) (w:U),is[n]?=a5 i->vs[i]?=a5 (.ref q)->ws[n]?=a5 w->cH C S' H' q w
abbrev QL(P:va)(w:w6)(K:PySem.W.Frag)(F:List U->Option (Ex (Kd×U)))(f p:Nat)(is:List Nat):Sp:=λvs H Q E=>vs.length=f/\∃us k u o ws d IO b r a,F us=a5 (.ok (k,.tup (u::o::ws)))/\D5 (K' P w K H d IO b) H b p r a is us vs /\
 ((k=.own\/k=.loc)/\(∀v H' S',tN (K' P w K H d IO b) H H' b S' r a is vs o ws k u v->Q v H') \/
  k=.io/\∃c,u=.str c/\∀e H' S',PySem.W.nsIn K mN c=a5 (a5 (.ref e))->tN (K' P w K H d IO b) H H' b S' r a is vs o ws .io .HD .HD->E (.ref e) b6 H')
section
variable{X:Cx}{C:Ct}{pins:List (gi×Obj)}{s:gm}{c0 c c1:Cf}{i p:Nat}{u:U}{us:List U}{Q:VK}
def Ok.FW(G:Ok C c)(n:Ns c0 c)(q:l.Eqv C)(hs:c.st[i]?=a5 (a5 (.A',.ob u us)))(e1:c.σ[i]?=a5 (a5 (.ref r)))(hk:c.kid i=[a])(o:LW C c.S c.H r a u us cl dx v0 JO)
 (Y:∀x,l.IO x↔x=r\/x=a\/∃m∈is,vs[m]?=a5 (.ref x))
    (slot:∀m∈is,∃j k w q,gU rs m=a5 j/\Kd.root k=bD/\c.st[j]?=a5 (a5 (k,w))/\c.σ[j]?=a5 (a5 (.ref q))/\vs[m]?=a5 (.ref q)) (HX:(is.map (gU rs)).Nodup)
 (b:tN l c.H H' c.S S' r a is vs (.ob u' HU) ws k w v) (NM:jG rs is ws (c.st.set i (a5 (.A',.ob u' HU)))=a5 st') :
    ∃I:Cf,I.H=H'/\I.σ=c.σ/\(∀x,I.S x↔c.S x\/S' x)/\I.st=st'/\Ok C I/\Ns c0 I/\∀x,I.R x->c.R x\/(c.H x=b6/\(k=.own->v≠.ref x)):=by
  classical
  let h:gi->Prop:=λx=>∃m∈is,vs[m]?=a5 (.ref x);have NO:∀x,h x->c.R1 x:=λx HS=>by
    have⟨m,A,e⟩:=HS;obtain⟨j,k,w,q,_,d,f,g3,g4⟩:=slot m A;rw[e]at g4;cases g4;show⟨j,k,w,d,f,g3⟩
  have J:∀x,(x=r\/x=a)->c.RD i x:=λx z=>⟨_,r,hs,e1,z.imp id λz=>by rw[hk,z];simp⟩
  have Ow:∀x,l.IO x->c.R x:=λx z=>by
    rcases(Y x).mp z with z|z|z
    . show .inr ⟨i,J x (.inl z)⟩
    . show .inr ⟨i,J x (.inr z)⟩
    . show .inl (NO x z)
  let H1:Hp:=λx=>if l.IO x then c.H x else H' x
  have My:∀x,¬l.IO x->H1 x=H' x:=λx z=>ë z;have QI:∀x,l.IO x->H1 x=c.H x:=λx z=>ê z;have Ov:∀x,l.IO x->∃y,c.H x=a5 y:=λx z=>let ⟨_,_,_,y,e,_⟩:=G.root (Ow x z);⟨y,e⟩;have NH:∀x,S' x->¬l.IO x:=λx z B=>by
    rcases(b.new x z).1 with y|y
    . have⟨y',e⟩:=Ov x B
      rw[y]at e;cases e
    . show(G.root (Ow x B)).1 y
  have LB:qW c.H H1:=λx y e=>by
    by_cases z:l.IO x
    . rw[QI x z];show e
    . rw[My x z];show b.same x y e z
  have⟨HF,n1⟩:=G.grow (H':=H1) (S':=λx=>c.S x\/S' x) LB (λx z=>by
    rcases z with z|z
    . show .inl z
    . rcases(b.new x z).1 with y|y
      . show .inr ⟨y,by rw[My x (NH x z)];show(b.new x z).2⟩
      . show .inl y) λx=>.inl
  have⟨a',M0,rd,Th⟩:=b.ob;have⟨Kk,Ti,v',a2,vs',ea,o'⟩:=rd;cases ea;have UX:∀x,(x=r\/x=a)->¬h x:=λx z B=>G.dd.d1 i x (J x z) (NO x B);have Xs:¬h a':=λz=>by
    rcases M0 with y|y
    . show UX a' (.inr y) z
    . obtain⟨_,_,_,y',e,_⟩:=G.root (.inl (NO a' z))
      rw[y]at e;cases e
  let H2:Hp:=λx=>if h x then c.H x else H' x
  have L:∀x,¬h x->H2 x=H' x:=λx z=>ë z;have UY:∀x,h x->H2 x=c.H x:=λx z=>ê z;have PJ:∀x,h x->∃w,cH l S' H' x w:=λx HS=>by
    have⟨m,A,e⟩:=HS;have⟨t,ht⟩:=Yn A;have hl:t<ws.length:=by rw[b.len];show(dt.mp ht).1
    show⟨_,b.IZ t m x _ ht e (JU hl)⟩
  have LY:∀x y,h x->H' x=a5 y->¬Tp y:=λx y z e=>by
    have⟨w,g⟩:=PJ x z;have⟨y',d,f⟩:=g.some;rw[e]at d;cases d;show f
  have UZ:Mv (λ_=>False) H' (λx=>c.S x\/S' x) H2:=⟨λ_ z=>z.elim,λx y e t=>by
    by_cases z:h x
    . show absurd t (LY x y z e)
    . rw[L x z];show e,λ_ _ z _=>z.elim⟩
  have Io:∀y∈[r,a'],¬(c.S y\/S' y)/\¬C.Jo y/\(C.H₀ y=b6\/C.IO y):=λy hy=>by
    have N:=o'.fr y hy;rcases gj.mp hy with rfl|hy
    . have O:=o.fr y (by simp)
      show⟨λz=>z.elim O.1 N.1,O.2⟩
    . rw[js.mp hy]at N ⊢
      rcases M0 with z|z
      . have O:=o.fr a (by simp)
        rw[z]at N ⊢;show⟨λz=>z.elim O.1 N.1,O.2⟩
      . obtain⟨z1,z2,z3,_,_⟩:=G.fw z
        show⟨λz=>z.elim z2 N.1,z3,.inl z1⟩
  have⟨Ib,n2⟩:=Ok.xN (c:={c with H:=H1,S:=λx=>c.S x\/S' x}) (H':=H2) (u':=.ob u' HU) (as':=[a']) HF (n.trans n1.toNs) hs e1
    (λx z=>by
      by_cases y:h x
      . rw[UY x y];show(QI x ((Y x).mpr (.inr (.inr y)))).symm
      . rw[L x y]
        show(My x λy'=>?_).symm;rcases(Y x).mp y' with y'|y'|y'
        . show z (J x (.inl y'))
        . show z (J x (.inr y'))
        . show y y') (λx y e=>by
      by_cases z:h x
      . have⟨y',e'⟩:=Ov x ((Y x).mpr (.inr (.inr z)))
        show⟨y',by rw[UY x z];show e'⟩
      . rw[L x z]
        by_cases B:l.IO x
        . have⟨y',e'⟩:=Ov x B
          show b.there x y' e'
        . show⟨y,by rw[<-My x B];show e⟩)
    (λmv=>⟨Kk,Ti,v',a',vs',rfl,by rw[Kt,<-q.K];show o'.hc,by rw[L r (UX r (.inl rfl))];show o'.ins,o'.ne,Io,o'.im,((o'.rep.HQ o'.im).cg q).mv UZ,by rw[L a' Xs];show o'.lst,o'.LX,((o'.Jb.HQ o'.LX).cg q).mv UZ⟩)
    (λy hy=>by
      rw[js.mp hy];rcases M0 with z|z
      . show .inl (by change a'∈c.kid i;rw[hk,z];simp)
      . obtain⟨_,_,_,_,z4⟩:=G.fw z
        show .inr ⟨z4,n.none z⟩)
  have Iz:i<c.st.length:=(dt.mp hs).1;have⟨cf,N,O,f3,f4,f5,f6,f7,f8⟩:=tI (C:=C) q (rs:=rs) (vs:=vs) (H':=H') (S':=S') (S1:=λx=>c.S x\/S' x) (λx=>.inr) (IO:=h) (λx z B=>NH x z ((Y x).mpr (.inr (.inr B)))) LY is ws _ st' Ib n2 rfl NM HX (λm A x z=>⟨m,A,z⟩) (λm A j T=>by
      have⟨j',k,w,q,g0,d,f,g3,g4⟩:=slot m A;rw[T]at g0;cases g0;show⟨k,w,q,d,?_,g3,g4⟩;have:i≠j:=λz=>by
        rw[<-z,hs]at f;cases f;cases d
      change(c.st.set i _)[j]?=_;rw[hY this];show f) (λt m q w e3 e4 e5=>b.IZ t m q w e3 e4 e5) (λx z=>L x λ⟨m,A,y⟩=>z m A y) L
  show⟨cf,f6,f3,λx=>by rw[f4],f5,N,O,λy hy=>?_⟩;have U0:∀(j:Nat) (k:Kd) (w:U),cf.st[j]?=a5 (a5 (k,w))->∃D,c.st[j]?=a5 (a5 (k,D)):=λj k w g=>by
    have⟨D,g⟩:=f8 j k w g;have g:(c.st.set i (a5 (.A',.ob u' HU)))[j]?=a5 (a5 (k,D)):=g;by_cases T:i=j
    . subst T
      rw[ez Iz]at g;cases g;show⟨_,hs⟩
    . rw[hY T]at g
      show⟨D,g⟩
  rcases hy with⟨j,k',w',IC,d,f⟩|⟨j,w',r',d,f,g3⟩
  . have⟨D,d⟩:=U0 j k' w' d
    rw[f3]at f;show .inl (.inl ⟨j,k',D,IC,d,f⟩)
  . have⟨D,d⟩:=U0 j _ w' d
    rw[f3]at f;rw[f7]at g3;by_cases T:j=i
    . subst T
      have PD:c.σ[j]?=a5 (a5 (.ref r')):=f;rw[e1]at PD;cases PD;rcases g3 with rfl|g3
      . show .inl (.inr ⟨j,J _ (.inl rfl)⟩)
      . have NJ:y=a':=by simpa using g3
        subst NJ;rcases M0 with z|z
        . show .inl (.inr ⟨j,J _ (.inr z)⟩)
        . show .inr ⟨z,Th⟩
    . have NJ:y=r'\/y∈c.kid j:=by simpa[T] using g3
      show .inl (.inr ⟨j,D,r',d,f,NJ⟩)
def Jc.Hk(t:Jc C c0 c rs vs)(hP:C.P=X.prog)(hw:C.w=X.w)(hK:C.K=X.K)(hs:c.st[i]?=a5 (a5 (.A',.ob u us)))(e1:c.σ[i]?=a5 (a5 (.ref r)))(hk:c.kid i=[a])(o:LW C c.S c.H r a u us cl dx v0 JO)
  (IM:mM ((.loc,.HD)::rs) is=bD) :
  D5 (K' X.prog X.w X.K c.H (λx=>Jh c.H x/\¬(x=r\/x=a\/∃m∈is,(V.ref r::vs)[m]?=a5 (.ref x))/\¬c.S x) (λx=>x=r\/x=a\/∃m∈is,(V.ref r::vs)[m]?=a5 (.ref x)) c.S) c.H c.S 0 r a is (.ob u us::rs.map (·.2)) (.ref r::vs) /\
   (is.map (gU ((.loc,.HD)::rs))).Nodup/\∀m∈is,∃j k w q,gU ((.loc,.HD)::rs) m=a5 j/\Kd.root k=bD/\c.st[j]?=a5 (a5 (k,w))/\c.σ[j]?=a5 (a5 (.ref q))/\(V.ref r::vs)[m]?=a5 (.ref q):=by
 let IO:gi->Prop:=λx=>x=r\/x=a\/∃m∈is,(V.ref r::vs)[m]?=a5 (.ref x);have h:C.Eqv (K' X.prog X.w X.K c.H (λx=>Jh c.H x/\¬IO x/\¬c.S x) IO c.S):=⟨hP,hw,hK⟩
 unfold mM at IM;simp only[b7,rr,é,OF,ve]at IM;obtain⟨⟨h1,h2⟩,h3⟩:=IM;have B:∀m∈is,∃f j xs k q,m=f+1/\gU ((.loc,.HD)::rs) m=a5 j/\rs[f]?=a5 (.bor j,.lst xs)/\Kd.root k=bD/\c.st[j]?=a5 (a5 (k,.lst xs))/\c.σ[j]?=a5 (a5 (.ref q))/\vs[f]?=a5 (.ref q)/\¬c.S q/\¬C.Jo q/\cH C c.S c.H q (.lst xs):=λm d=>by
  have⟨j,hj⟩:=N2.mp (h1 m d);have⟨xs,D⟩:=vj hj;cases m with
  |zero=>cases D
  |succ f =>
   have D:rs[f]?=a5 (.bor j,.lst xs):=D;have⟨v,b1,b⟩:=t.Ta D;obtain⟨q,rfl,N,O,_,G⟩:=t.ok.rootOf b.1 b.2;have⟨k,l,n⟩:=b.1;show⟨f,j,xs,k,q,rfl,hj,D,l,n,b.2,b1,N,O,G⟩
 have L:∀x,(x=r\/x=a)->c.RD i x:=λx z=>⟨_,r,hs,e1,z.imp id λz=>by rw[hk,z];simp⟩
 have Ow:∀x,IO x->c.R x:=λx z=>by
  rcases z with z|z|⟨m,d,e⟩
  .show .inr ⟨i,L x (.inl z)⟩
  .show .inr ⟨i,L x (.inr z)⟩
  .obtain⟨f,j,xs,k,q,rfl,_,_,l,n,I,A,_⟩:=B m d;have e:vs[f]?=a5 (.ref x):=e;rw[A]at e;cases e;show .inl ⟨j,k,_,l,n,I⟩
 have nz:0∉is:=λz=>by
  obtain⟨_,_,_,_,_,e,_⟩:=B 0 z;cases e
 have sP:∀x,c.S x->PS (K' X.prog X.w X.K c.H (λx=>Jh c.H x/\¬IO x/\¬c.S x) IO c.S) c.S x:=λx z=>.inr z;show⟨⟨by simp[t.len],λx z=>⟨z.1,z.2.1,z.2.2⟩,λx z=>⟨t.ok.uV x z,λz'=>(t.ok.root (Ow x z')).1 z⟩,λx=>Uw,rfl,nz,⟨u,us,rfl,cl,dx,v0,a,JO,rfl,by rw[Kt,show(K' X.prog X.w X.K c.H (λx=>Jh c.H x/\¬IO x/\¬c.S x) IO c.S).K=C.K from hK.symm];show o.hc,o.ins,o.ne,λy J=>⟨(o.fr y J).1,λz=>z.2.1 (by rcases gj.mp J with z|z;show .inl z;show .inr (.inl (js.mp z))),.inr (by rcases gj.mp J with z|z;show .inl z;show .inr (.inl (js.mp z)))⟩,o.im,o.rep.cg h,o.lst,o.LX,o.Jb.cg h⟩,λm w d e=>?_,λm w d T e=>?_,λm m2 q d T e3 e4=>?_⟩,h2,λm d=>?_⟩
 .obtain⟨f,j,xs,k,q,rfl,_,g0,l,n,I,A,g5,g6,g7⟩:=B m d;have e:(rs.map (·.2))[f]?=a5 w:=e;rw[pa,g0]at e;cases e;have KP:c.R1 q:=⟨j,k,_,l,n,I⟩
  show⟨q,A,λz=>t.ok.dd.d1 i q (L q (.inl z)) KP,λz=>t.ok.dd.d1 i q (L q (.inr z)) KP,g7.cg h⟩
 .cases m with
  |zero=>show absurd rfl d
  |succ m =>
   have e0:(rs.map (·.2))[m]?=a5 w:=e;rw[pa,hQ]at e0;clear e;obtain⟨⟨k',w'⟩,e,rfl⟩:=e0;have⟨v,b1,b⟩:=t.Ta e;have Iz:m+1<((Kd.loc,U.HD)::rs).length:=by have:=(dt.mp e).1;simp;lia
   have U1:=(h3 (m+1) Iz).resolve_left T;rw[List.getD_eq_getElem?_getD,show((Kd.loc,U.HD)::rs)[m+1]?=a5 (k',w') from e]at U1;show⟨v,b1,Rep.cg h (u:=w') ?_⟩;cases k' with
   |own =>
    obtain⟨q,rfl,_,N,O,G⟩:=b;obtain⟨y,J,_⟩:=G.some;show G.rep sP (.inl ⟨⟨y,J⟩,λz=>O (Ow q z),N⟩)
   |loc=>show Rep.mv (.up sP) b
   |any=>show Rep.mv (.up λy z=>by
     by_cases hS:c.S y
     .show .inr hS
     .show .inl (z.elim (λz=>⟨t.ok.Ds y (.inl z),λz'=>(t.ok.root (Ow y z')).2.1 z,hS⟩) λz=>absurd z hS)) b
   |bor Y =>
    obtain⟨q,rfl,N,O,_,G⟩:=t.ok.rootOf b.1 b.2;obtain⟨y,J,_⟩:=G.some;have⟨k3,z1,z2⟩:=b.1;show G.rep sP (.inl ⟨⟨y,J⟩,λz=>?_,N⟩);rcases z with z|z|⟨m2,U2,e'⟩
    .show t.ok.dd.d1 i q (L q (.inl z)) ⟨Y,k3,_,z1,z2,b.2⟩
    .show t.ok.dd.d1 i q (L q (.inr z)) ⟨Y,k3,_,z1,z2,b.2⟩
    .obtain⟨m4,j2,xs,k2,q2,rfl,g,_,l,n,I,A,_⟩:=B m2 U2;have e':vs[m4]?=a5 (.ref q):=e';rw[e']at A;cases A;have:=t.ok.inj Y j2 k3 k2 _ _ q z1 l z2 n b.2 I;subst this;have:a5 Y∉is.map (gU ((.loc,.HD)::rs)):=by simpa[B5] using U1
     show this (lx.mpr ⟨_,U2,g⟩)
   |_=>show b.elim
 .obtain⟨Xt,j1,_,k1,q1,rfl,a0,_,D,a2,a3,a4,_⟩:=B m d;obtain⟨Xu,j2,_,k2,q2,rfl,b0,_,b1,b,b3,b4,_⟩:=B m2 T;have e3:vs[Xt]?=a5 (.ref q):=e3;have e4:vs[Xu]?=a5 (.ref q):=e4;rw[e3]at a4;cases a4;rw[e4]at b4;cases b4;have:=t.ok.inj j1 j2 k1 k2 _ _ q D b1 a2 b a3 b3;subst this;show map_inj h2 _ d _ T (by rw[a0,b0])
 .obtain⟨f,j,xs,k,q,rfl,g,_,l,n,I,A,_⟩:=B m d;show⟨j,k,_,q,g,l,n,I,A⟩
def Jc.FX(t:Jc C c0 c rs vs)(n:C.P=X.prog)(A:C.w=X.w)(B:C.K=X.K){E:XK}(I:Γ f=F)(J:∀us r,F us=a5 (.ok r)->us.length=L)(w:W (jH Γ f i rs is) c.st (cu C c0 Q)):
  ∃r,c.σ[i]?=a5 (a5 (.ref r))/\QL X.prog X.w X.K F L 0 is (.ref r::vs) c.H Q E:=by
 have⟨r',st',e,q⟩:=w;unfold jH at e;split at e
 rotate_left
 .cases e
 rename_i u us hs;rw[I]at e;split at e
 rotate_left
 .cases e
 rename_i k w u' N ws D;split at e
 rotate_left
 .cases e
 rename_i hz;split at e
 rotate_left
 .cases e
 rename_i st2 O;cases e;have⟨r,cl,dx,v0,a,JO,e1,hk,o⟩:=t.ok.jj hs;have⟨g,T,slot⟩:=t.Hk (X:=X) n A B hs e1 hk o hz.2;show⟨r,e1,?_,_,k,w,.ob u' N,ws,_,_,c.S,r,a,D,g,.inl ⟨hz.1,λv H' S' b=>?_⟩⟩
 .have z:=J _ _ D;rw[<-z];simp[t.len]
 .have h:(K' X.prog X.w X.K c.H (λx=>Jh c.H x/\¬(x=r\/x=a\/∃m∈is,(V.ref r::vs)[m]?=a5 (.ref x))/\¬c.S x) (λx=>x=r\/x=a\/∃m∈is,(V.ref r::vs)[m]?=a5 (.ref x)) c.S).Eqv C:=⟨n.symm,A.symm,B.symm⟩
  have⟨d,j,Y,l,f4,HK,n',hR⟩:=t.ok.FW (c0:=c0) t.nx.toNs h hs e1 hk o (λx=>Uw) slot T b O;rw[<-j];show q d v (Y.trans t.hσ) f4 HK ⟨n'⟩ ?_;rcases hz.1 with rfl|rfl
  .have⟨y,rfl,G,d2,d3⟩:=b.own rfl;obtain⟨_,z1,_,_,z4⟩:=t.ok.fw G;show⟨y,rfl,t.nx.none G,λz=>((l y).mp z).elim z1 d2,λz=>?_,?_⟩
   .rcases hR y z with z|⟨_,z⟩
    .show z4 z
    .show z rfl rfl
   .rw[j];show(d3.cg h).mv (.up λx z=>(l x).mpr (.inr z)) λ_ q=>q
  .rw[show aF C c0 d .loc w v=Rep C d.S d.H w v from rfl,j];show((b.loc rfl).cg h).mv (.up λx z=>(l x).mpr (.inr z))
def ya(h:PA X es (iP C p i ms)):PA X es (iP C p i (ms >>= xi)):=by
 rintro pos pins s σ H Q I ⟨v,c0,ev,rfl,rfl,a,w⟩;show h pos pins s c0.σ c0.H Q I ⟨v,c0,ev,rfl,rfl,a,?_⟩;rw[af]at w;show w.mono λrs st b c vs e1 d f n r=>?_;have⟨g,st',e,q⟩:=b;cases e;show q c vs e1 d f n r.US
def yb(d:C.P=X.prog)(g:C.w=X.w)(j:C.K=X.K)(l:Γ f=F)(m:∀us r,F us=a5 (.ok r)->us.length=n)
  (G:dN X.prog X.w X.K X.mg X.base (J3 X.prog X.w) k fa o ps (QL X.prog X.w X.K F n 0 is)) (q:cP k X.A) (v:Gl X f) (x:X.mg f=a5 (.ref fa)) (y:PySem.W.keepIn X.K (.ref fa)=bD) (B:Binds X.K o ps [])
  (D:(f==("__debug__":Str))=cb) (J:PA X (e::es) (iP C 0 i ms)) (L:i7 (e::es) X.env=(cb,uk e X.env)::i7 es X.env) (N:(wh pos (i7 es X.env)).any (·.1)=cb) :
  PE X (.Call (.Name f T) (e::es) [] pos) (HH C (Jw i >>= λ_=>ms >>= λrs=>av rs >>= λ_=>jH Γ f i rs is)):=by
 rintro pins s σ H Q I ⟨c0,rfl,rfl,ok,h⟩;rw[af]at h;have⟨u,us,hs,h⟩:=dk h;obtain⟨r,_,_,_,_,_,ev,_,_⟩:=ok.jj hs;show wk (eU I v x ?_ D);show PySem.W.callWith_K (h₀:=X.base) I.ok.mod.M4 y (HE (B_ J ev I ok h pos) λus s1 ⟨rs,c,vs,t,a,rv,w⟩=>⟨a.JE,?_⟩) L N;have⟨Y,b,O⟩:=t.FX (E:=E0) d g j l m w;rw[t.hσ,ev]at b;cases b;have z:=kC (Q:=Q) G q B .nil pR a rv (by rw[sx];show O);rw[t.hσ]at z;show z
end
end TM
namespace TM
open PySem L2 PyProof.Rows
structure Ck where
 fns:List Str
 gl:List (Str×U)
 IZ:List (Str×List Nat)
 xc:List Str
 xd:List (Str×Str)
 obs:List (Str×Nat×Str)
abbrev oA:U->U->Bool
 |.int i,.int j=>cL (i=j)
 |.str x,.str y=>cL (x=y)
 |.bl a,.bl b=>a==b
 |.HD,.HD=>bD
 |_,_=>cb
def cn(h:oA u v=bD):u=v:=by
 cases u<;>cases v<;>simp[oA]at h<;>subst_vars<;>rfl
abbrev noStar:nH->Bool
 |.Starred _ _=>cb
 |_=>bD
abbrev dZ:nH->Bool
 |.Slice _ _ _ _=>cb
 |_=>bD
abbrev rL:nH->Bool
 |.Set _ _ _=>cb
 |_=>bD
abbrev oB:nH->Bool
 |.Call (.Name _ _) [] [] _=>cb
 |_=>bD
abbrev dG:nH->Bool
 |.ListComp _ _ _ _=>cb
 |.SetComp _ _ _ _=>cb
 |.DictComp _ _ _ _ _=>cb
 |_=>bD
abbrev D6:nH->Bool
 |.Tuple _ _ _=>cb
 |_=>bD
abbrev Ju(a:L9)(x:Str):Bool:=cL (a.names.lookup x=a5 .globalImplicit)
abbrev fJ(a:L9)(x:Str):Bool:=cL (a.names.lookup x=a5 .local)||decide (a.names.lookup x=a5 .cell)||decide (a.names.lookup x=a5 .free)
abbrev lp(a:L9)(x:Str):Bool:=cL (a.names.lookup x=a5 .local)||decide (a.names.lookup x=a5 .cell)
abbrev FY(a:L9)(x:Str):Bool:=cL (a.names.lookup x=a5 .local)
abbrev bp(x:Str):Bool:=!(x==("__debug__":Str))&&!(x==("__classdict__":Str))
abbrev tP(N:List Str)(a:L9)(fa:Str->Bool)(i:Nat):nH->Bool
 |.Name x _=>cL (N[i]?=a5 x)&&lp a x&&(fa x||FY a x)
 |_=>cb
abbrev oC(N:List Str)(a:L9)(fa:Str->Bool):List Nat->List nH->Bool
 |[],[]=>bD
 |i::is,e::es=>tP N a fa i e&&oC N a fa is es
 |_,_=>cb
abbrev gK:nH->List Str
 |.Name x _=>[x]
 |.Tuple es _ _=>es.filterMap fun|.Name x _=>a5 x|_=>b6
 |_=>[]
abbrev hide(a N:List Str):List Str:=match a.filter λx=>cL (x∈N) with
 |[]=>N
 |[x]=>N.set (N.idxOf x) "."
 |x::y::_=>(N.set (N.idxOf x) ".").set (N.idxOf y) ".."
abbrev Ox(t:Bool)(N:List Str)(a:L9)(fa:Str->Bool)(is:List Nat):nH->Bool
 |.Name x p=>!t&&(match is with|[i]=>tP N a fa i (.Name x p)|_=>cb)
 |.Tuple es _ _=>t&&oC N a fa is es&&is.all λi=>cL (i<N.length)
 |_=>cb
abbrev isTup:nH->Bool
 |.Tuple _ _ _=>bD
 |_=>cb
abbrev lq(e:nH):Option (Str×List nH):=match e with
 |.Call f as a _=>match f with
  |.Name x _=>if a.isEmpty=bD then a5 (x,as) else b6
  |_=>b6
 |_=>b6
def fK(h:lq e=a5 (x,as)):∃p q,e=.Call (.Name x p) as [] q:=by
 unfold lq at h;split at h
 .split at h
  .split at h
   .rename_i hk;rw[ux]at hk;cases h;subst hk;show⟨_,_,rfl⟩
   .cases h
  .cases h
 .cases h
abbrev fL(a:L9)(b:nH)(c:Ik)(e:nH):Option (List nH):=match c with
 |.seq=>a5 [e]
 |.Iw=>(lq e).bind λp=>if p.1="range"/\Ju a p.1=bD/\p.2.length=1 then a5 p.2 else b6
 |.Mj=>(lq e).bind λp=>if p.1="range"/\Ju a p.1=bD/\p.2.length=2 then a5 p.2 else b6
 |.MU=>(lq e).bind λp=>if p.1="enumerate"/\Ju a p.1=bD/\p.2.length=1/\isTup b=bD then a5 p.2 else b6
 |_=>b6
abbrev simple:Bf->Bool:=λ_=>bD
abbrev D7(scope a:L9):L9:={scope with names:=scope.names.map λ(n,k)=>if (k==J'&&a.kind==.function&&a.names.lookup n==a5 .cell)=bD then(n,.cell) else(n,k)}
abbrev aG(e:nH)(k:Str->Bool):Bool:=match e with|.Name x _=>k x|_=>cb
def ai(h:aG e k=bD):∃x p,e=.Name x p/\k x=bD:=by
 unfold aG at h;split at h
 .show⟨_,_,rfl,h⟩
 .cases h
abbrev cX{α:Type}(l:List α)(k:α->Bool):Bool:=match l with|[a]=>k a|_=>cb
def aK(h:cX l k=bD):∃a,l=[a]/\k a=bD:=by
 unfold cX at h;split at h
 .show⟨_,rfl,h⟩
 .cases h
abbrev dv(e:nH)(k:nH->List nH->Pos->Bool):Bool:=match e with|.Call f as a p=>a.isEmpty&&k f as p|_=>cb
def aM(h:dv e k=bD):∃f as p,e=.Call f as [] p/\k f as p=bD:=by
 unfold dv at h;split at h
 .rename_i f as a p;rw[b7,ux]at h;have⟨rfl,h⟩:=h;show⟨_,_,_,rfl,h⟩
 .cases h
abbrev eh(e:nH)(k:nH->Str->Pos->Bool):Bool:=match e with|.Attribute o m p=>k o m p|_=>cb
def bK(h:eh e k=bD):∃o m p,e=.Attribute o m p/\k o m p=bD:=by
 unfold eh at h;split at h
 .show⟨_,_,_,rfl,h⟩
 .cases h
abbrev yc(e:nH)(k:nH->Zi->nH->Bool):Bool:=match e with|.BinOp a op b _=>k a op b|_=>cb
def rM(h:yc e k=bD):∃a op b p,e=.BinOp a op b p/\k a op b=bD:=by
 unfold yc at h;split at h
 .show⟨_,_,_,_,rfl,h⟩
 .cases h
abbrev p_(e:nH)(k:nH->CmpOp->nH->Bool):Bool:=match e with|.Compare a ops bs _=>cX ops λop=>cX bs λb=>k a op b|_=>cb
def dQ(h:p_ e k=bD):∃a op b p,e=.Compare a [op] [b] p/\k a op b=bD:=by
 unfold p_ at h;split at h
 .have⟨op,rfl,c⟩:=aK h;have⟨b,rfl,d⟩:=aK c;show⟨_,_,_,_,rfl,d⟩
 .cases h
abbrev c7(e:nH)(k:nH->Str->Pos->List nH->Pos->Bool):Bool:=dv e λf as a=>eh f λo m apos=>k o m apos as a
def aW(h:c7 e k=bD):∃o m apos as a,e=.Call (.Attribute o m apos) as [] a/\k o m apos as a=bD:=by
 have⟨f,as,p,rfl,h⟩:=aM h;have⟨o,m,q,rfl,h⟩:=bK h;show⟨_,_,_,_,_,rfl,h⟩
abbrev jK(e:nH)(k:nH->nH->Bool):Bool:=match e with|.Subscript a b _=>k a b|_=>cb
def c8(h:jK e k=bD):∃a b p,e=.Subscript a b p/\k a b=bD:=by
 unfold jK at h;split at h
 .show⟨_,_,_,rfl,h⟩
 .cases h
abbrev Tq:E->Bool
 |.var _=>bD
 |.cst _=>bD
 |_=>cb
abbrev yd{α:Type}(l:List α)(k:α->α->Bool):Bool:=match l with|[a,b]=>k a b|_=>cb
def rN(h:yd l k=bD):∃a b,l=[a,b]/\k a b=bD:=by
 unfold yd at h;split at h
 .show⟨_,_,rfl,h⟩
 .cases h
abbrev ye(e:nH)(k:Const->Bool):Bool:=match e with|.Constant c _ _=>k c|_=>cb
def lr(h:ye e k=bD):∃c q p,e=.Constant c q p/\k c=bD:=by
 unfold ye at h;split at h
 .show⟨_,_,_,rfl,h⟩
 .cases h
abbrev Hl:Const->Option U
 |.int j=>a5 (.int j)
 |.str y=>a5 (.str y)
 |.bool y=>a5 (.bl y)
 |.none=>a5 .HD
 |_=>b6
abbrev Hm(u:U)(c:Const):Bool:=match Hl c with|some v=>oA u v|none=>cb
abbrev Bj(e:nH)(op:BoolOp)(k:List nH->Bool):Bool:=match e with|.BoolOp o es _=>cL (o=op)&&k es|_=>cb
def gh(h:Bj e op k=bD):∃es p,e=.BoolOp op es p/\k es=bD:=by
 unfold Bj at h;split at h
 .rw[b7,é]at h;have⟨rfl,h⟩:=h;show⟨_,_,rfl,h⟩
 .cases h
abbrev Bl(e:nH)(op:UnaryOp)(k:nH->Bool):Bool:=match e with|.UnaryOp o a _=>cL (o=op)&&k a|_=>cb
def jk(h:Bl e op k=bD):∃a p,e=.UnaryOp op a p/\k a=bD:=by
 unfold Bl at h;split at h
 .rw[b7,é]at h;have⟨rfl,h⟩:=h;show⟨_,_,rfl,h⟩
 .cases h
abbrev tQ(e:nH)(k:List nH->Bool):Bool:=match e with|.Tuple l _ _=>k l|_=>cb
def lu(h:tQ e k=bD):∃l q p,e=.Tuple l q p/\k l=bD:=by
 unfold tQ at h;split at h
 .show⟨_,_,_,rfl,h⟩
 .cases h
abbrev yf(e:nH)(k:List nH->Bool):Bool:=match e with|.List l _=>k l|_=>cb
def rO(h:yf e k=bD):∃l p,e=.List l p/\k l=bD:=by
 unfold yf at h;split at h
 .show⟨_,_,rfl,h⟩
 .cases h
abbrev Bm(e:nH):Bool:=match e with|.Dict a b _=>a.isEmpty&&b.isEmpty|_=>cb
def mU(h:Bm e=bD):∃p,e=.Dict [] [] p:=by
 unfold Bm at h;split at h
 .rw[b7,ux,ux]at h;have⟨rfl,rfl⟩:=h;show⟨_,rfl⟩
 .cases h
abbrev yg(e:nH)(k:Option nH->Option nH->Bool):Bool:=match e with|.Slice a b c _=>c.isNone&&k a b|_=>cb
def rP(h:yg e k=bD):∃a b p,e=.Slice a b b6 p/\k a b=bD:=by
 unfold yg at h;split at h
 .rw[b7,Q2]at h;have⟨rfl,h⟩:=h;show⟨_,_,_,rfl,h⟩
 .cases h
abbrev D8(e:nH)(k:nH->nH->nH->List nH->L9->Bool):Bool:=match e with|.ListComp elt a b _=>cX a λg=>cL (g.is_async=0)&&k elt g.target g.iter g.ifs b|_=>cb
def jl(h:D8 e k=bD):∃elt d a b f p,e=.ListComp elt [⟨d,a,b,0⟩] f p/\k elt d a b f=bD:=by
 unfold D8 at h;split at h
 .obtain⟨⟨d,a,b,z⟩,rfl,c⟩:=aK h;rw[b7,é]at c;have⟨rfl,c⟩:=c;show⟨_,_,_,_,_,_,rfl,c⟩
 .cases h
abbrev isNm(e:nH)(n:Str):Bool:=aG e λx=>cL (x=n)
def mV(h:isNm e n=bD):∃p,e=.Name n p:=by
 have⟨x,p,e,z⟩:=ai h;show⟨p,ð z▸e⟩
abbrev D9(v:nH)(f:Str)(k:List nH->Bool):Bool:=dv v λg as _=>isNm g f&&k as
def mW(h:D9 v f k=bD):∃as p q,v=.Call (.Name f p) as [] q/\k as=bD:=by
 have⟨g,as,q,rfl,z⟩:=aM h;rw[b7]at z;have⟨p,rfl⟩:=mV z.1;show⟨as,p,q,rfl,z.2⟩
abbrev KU(N:List Str)(a:L9)(i:Nat)(x:Str):Bool:=cL (N[i]?=a5 x)&&fJ a x&&bp x
abbrev D_:nH->Bool
 |.List [] _=>bD
 |_=>cb
def vn(h:D_ e=bD):∃p,e=.List [] p:=by
 unfold D_ at h;split at h
 .show⟨_,rfl⟩
 .cases h
abbrev NQ(N:List Str)(a:L9)(i:Nat):Option nH->Bool
 |some (.Name y _)=>KU N a i y
 |_=>cb
def ly(h:NQ N a i o=bD):∃y p,o=a5 (.Name y p)/\KU N a i y=bD:=by
 unfold NQ at h;split at h
 .show⟨_,_,rfl,h⟩
 .cases h
mutual
noncomputable def bA(k:Ck):E->List Str->L9->nH->Bool
 |.var i,N,d,g=>aG g λx=>cL (N[i]?=a5 x)&&fJ d x&&bp x
 |.cst u,N,d,g=>ye g λc=>Hm u c
 |.Ke x u,N,d,g=>aG g λy=>cL (x=y)&&Ju d x&&bp x&&k.gl.any λp=>cL (p.1=x)&&oA p.2 u
 |.bin op a b,N,d,g=>yc g λa' v j=>cL (op.op=v)&&bA k a N d a'&&bA k b N d j
 |.cmp op a b,N,d,g=>p_ g λa' v j=>cL (op.op=v)&&!NP v j&&bA k a N d a'&&bA k b N d j
 |.Lu _ _ _ _ _,_,_,_=>cb
 |.and es,N,d,g=>Bj g .And λh=>az k es N d h
 |.or es,N,d,g=>Bj g .Or λh=>az k es N d h
 |.not a,N,d,g=>Bl g .Not λa'=>bA k a N d a'
 |.ite _ _ _,_,_,_=>cb
 |.neg a,N,d,g=>Bl g .USub λa'=>bA k a N d a'
 |.bad,_,_,_=>bD
 |.IF i,N,d,g=>eh g λo m _=>aG o λx=>cL (m="rows")&&KU N d i x
 |.KI i,N,d,g=>dv g λl as _=>aG l λf=>cX as λa'=>eh a' λo m _=>aG o λx=>cL (f="len")&&cL (m="earlier")&&Ju d f&&KU N d i x
 |.JL i,N,d,g=>p_ g λa' op j=>eh a' λo m _=>aG o λx=>D_ j&&cL (op=.Eq)&&cL (m="earlier")&&KU N d i x
 |.j4 i,N,d,g=>c7 g λo m apos as q=>eh o λo2 m2 _=>aG o2 λx=>as.isEmpty&&cL (m="pop")&&cL (m2="earlier")&&(apos.endLine==q.line)&&KU N d i x
 |.JM f i es es2,N,d,g=>dv g λl as _=>aG l λx=>cL (x=f)&&cL ((f,es.length,("":Str))∈k.obs)&&Ju d x&&bp x&&NQ N d i as[es.length]?&&az k es N d (as.take es.length)&&az k es2 N d (as.drop (es.length+1))
 |.IG f m i es,N,d,g=>c7 g λo y apos as q=>aG o λx=>cL (y=m)&&cL ((f,0,m)∈k.obs)&&(cL (m≠"")&&cL (m≠"rows")&&cL (m≠"earlier"))&&KU N d i x&&(apos.endLine==q.line)&&cL (as.length<20)&&az k es N d as
 |.pop i,N,d,g=>c7 g λo m apos as q=>aG o λx=>as.isEmpty&&cL (m="pop")&&cL (N[i]?=a5 x)&&fJ d x&&bp x&&(apos.endLine==q.line)
 |.Ml i a,N,d,g=>c7 g λo m apos as q=>aG o λx=>cX as λa'=>cL (m="pop")&&cL (N[i]?=a5 x)&&fJ d x&&bp x&&(apos.endLine==q.line)&&noStar a'&&bA k a N d a'
 |.IE f i es is,N,d,g=>dv g λl as _=>aG l λx=>cL (x=f)&&cL ((f,is)∈k.IZ)&&Ju d x&&bp x&&NQ N d i as[0]?&&az k es N d (as.drop 1)
 |.inD neg a i,N,d,g=>p_ g λa' v j=>aG j λx=>cL (xO neg=v)&&!NP v j&&cL (N[i]?=a5 x)&&fJ d x&&bp x&&bA k a N d a'
 |.Oj i,N,d,g=>aG g λx=>cL (N[i]?=a5 x)&&fJ d x&&bp x
 |.Kf i a b,N,d,g=>c7 g λo m apos as q=>aG o λx=>yd as λa' j=>cL (m="get")&&cL (N[i]?=a5 x)&&fJ d x&&bp x&&(apos.endLine==q.line)&&noStar a'&&noStar j&&bA k a N d a'&&bA k b N d j
 |.Ol i,N,d,g=>dv g λl as _=>aG l λf=>cX as λc=>c7 c λo m apos bs q=>aG o λx=>bs.isEmpty&&cL (f="sorted")&&Ju d f&&cL (m="items")&&cL (N[i]?=a5 x)&&fJ d x&&bp x&&(apos.endLine==q.line)
 |.Qu _ _ _,_,_,_=>cb
 |.fst es,N,d,g=>cb
 |.Qt a T,N,d,g=>cb
 |.tup es,N,d,g=>tQ g λh=>az k es N d h
 |.lst es,N,d,g=>yf g λh=>az k es N d h
 |.J4 _,N,d,g=>Bm g
 |.idx a b,N,d,g=>jK g λa' j=>dZ j&&bA k a N d a'&&bA k b N d j
 |.K_ a lo hi,N,d,g=>jK g λa' j=>yg j λz A=>bA k a N d a'&&rQ k lo N d z&&rQ k hi N d A
 |.bi f es,N,d,g=>dv g λl h _=>aG l λx=>cL (x=f.name)&&simple f&&Ju d x&&!h.isEmpty&&az k es N d h
 |.Lv f es,N,d,g=>dv g λl as _=>aG l λx=>cX as λc=>dv c λg' h _=>aG g' λy=>cL (x=f.oo)&&cL (y=f.iL)&&Ju d x&&Ju d y&&!h.isEmpty&&az k es N d h
 |.Ku m a es,N,d,g=>c7 g λo name apos h q=>cL (name=m.name)&&oB o&&(apos.endLine==q.line)&&!h.isEmpty&&cL (h.length<20)&&bA k a N d o&&az k es N d h
 |.call f es,N,d,g=>dv g λl h _=>aG l λx=>cL (x=f)&&cL (f∈k.fns)&&Ju d x&&bp x&&!h.isEmpty&&az k es N d h
 |.comp n t B src cond e,N,d,g=>D8 g λelt r s w scope =>
   cL ((gK r).length=n)&&Dj (gK r++hide (gK r) N) (gK r) scope d.names&&Ox t (gK r++hide (gK r) N) (D7 scope d) (λx=>cL (scope.names.lookup x=a5 .cell)) (il n) r&&rL s &&
   (match fL d r B s with
    |some as=>az k src N d as
    |none=>cb) &&
   cL (w.length<=1)&&az k cond (gK r++hide (gK r) N) (D7 scope d) w&&bA k e (gK r++hide (gK r) N) (D7 scope d) elt
noncomputable def az(k:Ck):List E->List Str->L9->List nH->Bool
 |[],_,_,a=>a.isEmpty
 |e::es,N,b,a=>match a with
  |e'::a=>noStar e'&&bA k e N b e'&&az k es N b a
  |[]=>cb
noncomputable def rQ(k:Ck):List E->List Str->L9->Option nH->Bool
 |[],_,_,o=>o.isNone
 |[e],N,a,o=>match o with
  |some b=>bA k e N a b
  |none=>cb
 |_::_::_,_,_,_=>cb
end
abbrev bO:List Str:=["len","sorted","repr","max","min","all","any","list","tuple","str","int","range","enumerate","zip","reversed","set","dict","sum","isinstance","bool"]
structure NR(ck:Ck)(K:PySem.W.Frag)(mg:Str->Option dV):Prop where
 xc:∀x∈ck.xc,∃C,mg x=a5 (.ref C)/\PySem.W.nsIn K mN x=a5 (a5 (.ref C))/\PySem.W.excIn K C Oh "ValueError.__new__"=bD
 xd:∀p∈ck.xd,∃C D,mg p.1=a5 (.ref C)/\PySem.W.nsIn K mN p.1=a5 (a5 (.ref C))/\mg p.2=a5 (.ref D)/\PySem.W.exmOne K (.ref C) (.ref D)=a5 bD
structure yh(P:va)(w:w6)(K:PySem.W.Frag)(mg:Str->Option dV)(base:Kq)(d:Nat)(F:List U->Option (Ex (Kd×U)))(f:Str):Prop where
 ex:∃(np:Nat) (fa:gi) (fd:Q0) (ps:List Str),dN P w K mg base (J3 P w) d fa fd ps (spT P w K F np)/\mg f=a5 (.ref fa)/\PySem.W.keepIn K (.ref fa)=bD/\Binds K fd ps []/\(∀us k u,F us=a5 (.ok (k,u))->(k=.own\/k=.loc\/k=.any)/\us.length=np)/\∀us c,F us=a5 (.exc c)->us.length=np
structure Hn(P:va)(w:w6)(K:PySem.W.Frag)(mg:Str->Option dV)(base:Kq)(d:Nat)(F:List U->Option (Ex (Kd×U)))(f:Str)(p:Nat)(m:Str):Prop where
 ex:∃(np:Nat) (fa:gi) (fd:Q0) (ps:List Str),dN P w K mg base (J3 P w) d fa fd ps (Mx P w K F np p)/\(m=""->mg f=a5 (.ref fa))/\PySem.W.keepIn K (.ref fa)=bD/\(m≠""->∀cl,Kt K cl->Meth K cl m fa)/\Binds K fd ps []/\∀us r,F us=a5 (.ok r)->us.length=np
structure QM(P:va)(w:w6)(K:PySem.W.Frag)(mg:Str->Option dV)(base:Kq):Prop where
 ex:∃cl fi fd,Kz K cl/\Mk K cl fi/\dN P w K mg base N7 1 fi fd ["self"] (Te cl)/\Binds K fd ["self"] []/\mg "Shelf"=a5 (.ref cl)
structure Ho(P:va)(w:w6)(K:PySem.W.Frag)(mg:Str->Option dV)(base:Kq)(d:Nat)(F:List U->Option (Ex (Kd×U)))(f:Str)(is:List Nat):Prop where
 ex:∃(np:Nat) (fa:gi) (fd:Q0) (ps:List Str),dN P w K mg base (J3 P w) d fa fd ps (QL P w K F np 0 is)/\mg f=a5 (.ref fa)/\PySem.W.keepIn K (.ref fa)=bD/\Binds K fd ps []/\∀us r,F us=a5 (.ok r)->us.length=np
structure PK(ck:Ck)(Γ:Tab)(P:va)(w:w6)(K:PySem.W.Frag)(mg:Str->Option dV)(base:Kq)(d:Nat):Prop where
 f:∀p∈ck.IZ,Ho P w K mg base d (Γ p.1) p.1 p.2
 o:∀q∈ck.obs,Hn P w K mg base d (Γ q.1) q.1 q.2.1 q.2.2
 sh:QM P w K mg base
 lv:2<=d
structure Gd(ck:Ck)(Γ:Tab)(C:Ct)(d:Nat)(X:Cx):Prop where
 P:C.P=X.prog
 w:C.w=X.w
 K:C.K=X.K
 u:X.A.units+60<KA
 calm:X.calm=bD
 room:cP d X.A
 blt:∀x∈bO,X.mg x=b6
 fns:∀f∈ck.fns,yh X.prog X.w X.K X.mg X.base d (Γ f) f
 J8:∀p∈ck.gl,∃val v,X.mg p.1=a5 val/\RelV v val/\∀S H,Rep C S H p.2 v
 IZ:PK ck Γ X.prog X.w X.K X.mg X.base d
def Gd.cx(g:Gd ck Γ C d X)(N:List Str)(a:L9)(D:gi)(s:gm)(H:Hp)(ex:List gi):Gd ck Γ C d (I_ X N a D s H ex) :=
 ⟨g.P,g.w,g.K,g.u,g.calm,g.room,g.blt,g.fns,g.J8,g.IZ⟩
def bU(h:fJ a x=bD):IT a x:=by
 unfold fJ at h;simp only[OF,é]at h;rcases h with(h|h)|h
 .show .inl h
 .show .inr (.inl h)
 .show .inr (.inr h)
def aA(h:bp x=bD):(x==("__debug__":Str))=cb/\(x==("__classdict__":Str))=cb:=by
 unfold bp at h;simpa using h
def bc(h:noStar e=bD):i7 (e::es) env=(cb,uk e env)::i7 es env:=by
 cases e<;>first|rfl|cases h
def qa(h:dZ e=bD):nN e:=by
 intro o i;cases e<;>first|rfl|cases h
def rR(h:rL e=bD):∀x,MB e env x=pure x:=by
 intro x;cases e<;>first|rfl|cases h
def j9(h:oB o=bD):NU o name env a=a:=by
 cases o with
 |Call f as ks p =>
  cases f with
  |Name x q=>cases as with
   |nil=>cases ks with
    |nil=>cases h
    |cons _ _=>rfl
   |cons _ _=>rfl
  |_=>rfl
 |_=>rfl
def aS(h:∀e∈es,noStar e=bD):(wh pos (i7 es env)).any (·.1)=cb/\(wh pos (i7 es env)).all (λx=>!x.1)=bD:=by
 induction es with
 |nil=>show⟨rfl,rfl⟩
 |cons e es a =>
  rw[bc (h e (by simp))];have:=a λb c=>h b (by simp[c]);constructor
  .change(cb||(wh pos (i7 es env)).any (·.1))=cb;rw[this.1];rfl
  .change(!cb&&(wh pos (i7 es env)).all (λx=>!x.1))=bD;rw[this.2];rfl
def cp(h:az k es N c a=bD):∀e∈a,noStar e=bD:=by
 induction es generalizing a with
 |nil =>
  cases a with
  |nil=>intro e he;cases he
  |cons _ _=>simp[az]at h
 |cons x es b =>
  cases a with
  |nil=>intro e he;cases he
  |cons d a =>
   simp only[az,b7]at h;intro e he;rcases gj.mp he with rfl|he
   .show h.1.1
   .show b h.2 e he
def mX(a:∀x,fa x=bD->X.fn x=bD)(h:tP X.N X.env.scope fa i e=bD):rF X e i:=by
 cases e with
 |Name x p =>
  simp only[tP,b7,é,lp,OF,FY]at h;show⟨x,p,rfl,h.1.1,?_,?_⟩
  .rcases h.1.2 with z|z
   .show .inl z
   .show .inr z
  .rcases h.2 with z|z
   .show .inl (a x z)
   .show .inr z
 |_=>cases h
theorem lz(a:∀x,fa x=bD->X.fn x=bD):∀{is:List Nat}{es:List nH},oC X.N X.env.scope fa is es=bD->e_ X es is
 |[],[],_=>.nil
 |[],_::_,h=>by cases h
 |_::_,[],h=>by cases h
 |i::is,e::es,h=>by
  simp only[oC,b7]at h;show .cons (mX a h.1) (lz a h.2)
def tR(d:X.calm=bD)(e:C.K=X.K)(a:X.N.Nodup)(b:∀x,fa x=bD->X.fn x=bD)(h:Ox t X.N X.env.scope fa is c=bD):PG X c (tG C t is):=by
 cases c with
 |Name x p =>
  simp only[Ox,b7,rz]at h;have⟨rfl,h⟩:=h;cases is with
  |nil=>cases h
  |cons i is=>cases is with
   |nil=>show DT a (mX b h)
   |cons _ _=>cases h
 |Tuple es k p =>
  simp only[Ox,b7,rr,é]at h;obtain⟨⟨rfl,f⟩,g⟩:=h;show FE d e a (lz b f) g
 |_=>cases h
def mY(a N:List Str):d9 ((a++hide a N).drop a.length) N:=by
 rw[RP rfl];unfold hide;split
 .show .refl N
 .show(d9.refl N).set _ (.inl rfl)
 .show((d9.refl N).set _ (.inl rfl)).set _ (.inr rfl)
abbrev Bf.Yk:Bf->Bool
 |.len=>bD|.sorted=>bD|.repr=>bD|.max=>bD|.min=>bD|.all=>bD|.any=>bD|_=>cb
abbrev Bf.id:Bf->String
 |.len=>"len"|.sorted=>"sorted"|.repr=>"repr"|.max=>"max"|.min=>"min"|.all=>"all"|.any=>"any"
 |.list=>"list"|.tuple=>"tuple"|.str=>"str"|.int=>"int"
def Bn:∀f:Bf,simple f=bD->La f.name=a5 f.val/\f.name∈bO/\f.name≠"__name__"/\(f.name==("__debug__":Str))=cb:=by
 intro f h;cases f<;>first|show⟨by decide +kernel,by decide +kernel,by decide +kernel,by decide +kernel⟩|(cases h;done)
def Ea:∀f:Bf,simple f=bD->(f.val=.builtin f.id\/f.val=.type f.id):=by
 intro f h;cases f<;>first|show .inl rfl|show .inr rfl|(cases h;done)
def Eb:∀f:B2,f.oo∈bO/\f.iL∈bO:=by
 intro f;cases f<;>show⟨by decide +kernel,by decide +kernel⟩
def Bo:∀f:Mf,Z' "str" f.name f.id/\YP (.builtin f.id)=pure (.type "method_descriptor"):=by
 intro f;cases f with
 |split=>show⟨PySem.F.slot_str_split,PySem.F.type_str_split⟩
 |join=>show⟨PySem.F.slot_str_join,PySem.F.type_str_join⟩
 |partition=>show⟨PySem.F.slot_str_partition,PySem.F.type_str_partition⟩
 |endswith=>show⟨PySem.F.slot_str_endswith,PySem.F.type_str_endswith⟩
section
def dy(h:Ju X.env.scope x=bD):Gl X x:=by
 unfold Ju at h;change X.env.kindOf x=a5 .globalImplicit;show ð h
def Bp:("enumerate":Str)∈bO:=by decide +kernel
def tS:("range":Str)∈bO:=by decide +kernel
def Ca(g:Gd ck Γ C d X)(h:fL X.env.scope n o f=a5 as)(m:PA X as (Jj C (aR Γ src)))(r:∀a,as=[a]->∃e,src=[e]/\PE X a (HH C (ev Γ e)))(k:∀e∈as,noStar e=bD):PI X n f (Lx C o (aR Γ src)):=by
 unfold fL at h;split at h
 .cases h;have⟨e,rfl,s⟩:=r _ rfl;show DR g.K s
 .rw[qs]at h;obtain⟨⟨x,bs⟩,i,h⟩:=h;split at h
  .rename_i j;cases h;have⟨e1,c,hl⟩:=j
   dsimp only at e1 c hl
   subst e1;have⟨p,q,rfl⟩:=fK i;have⟨b,rfl⟩:=Xf.mp hl;show A0 (dy c) (g.blt _ tS) (bc (k _ (by simp))) m
  .cases h
 .rw[qs]at h;obtain⟨⟨x,bs⟩,i,h⟩:=h;split at h
  .rename_i j;cases h;have⟨e1,c,hl⟩:=j
   dsimp only at e1 c hl
   subst e1;have⟨p,q,rfl⟩:=fK i;obtain⟨b,l,rfl⟩:∃b l,bs=[b,l]:=by match bs,hl with|[b,l],_=>show⟨b,l,rfl⟩
   have s1:=bc (env:=X.env) (es:=[]) (k _ (show _∈[_,_] from i8 _ kj));show A4 (dy c) (g.blt _ tS) (by rw[bc (k _ kj),s1];rfl) s1 m
  .cases h
 .rw[qs]at h;obtain⟨⟨x,bs⟩,i,h⟩:=h;split at h
  .rename_i j;cases h;have⟨e1,c,hl,t⟩:=j
   dsimp only at e1 c hl
   subst e1;have⟨p,q,rfl⟩:=fK i;have⟨b,rfl⟩:=Xf.mp hl;cases n with
   |Tuple es u ps=>show DS g.K (dy c) (g.blt _ Bp) (bc (k _ (by simp))) m
   |_=>cases t
  .cases h
 .cases h
def Cb{a:M α}{b:α->M β}{c:α->M γ}{g:γ->M δ}{st:au}{Q:δ->au->Prop}(w:W (a >>= λx=>b x >>= λ_=>c x >>= g) st Q):W ((a >>= λx=>b x >>= λ_=>c x) >>= g) st Q:=by
 simp only[af]at w ⊢;show w
def bf:PT X e (Jn C M.fail):=λa s σ H Q I ⟨_,_,_,_,w⟩=>(a9.mp w).elim
def gV:PE X e (HH C M.fail):=λa s σ H Q I ⟨_,_,_,_,w⟩=>(a9.mp w).elim
def PT.eqv(h:PT X e (Jn C m))(i:∀st Q,W a st Q->W m st Q):PT X e (Jn C a):=PT.weak h λσ H Q ⟨c0,e1,b,c,w⟩=>⟨c0,e1,b,c,i _ _ w⟩
def FZ(g:Gd ck Γ C d X)(b:PA X a (Jj C (aR Γ es)))
  (h:(cL (x=f.name)&&simple f&&Ju X.env.scope x&&!a.isEmpty&&az ck es X.N X.env.scope a)=bD):PE X (.Call (.Name x p) a [] pos) (HH C (ev Γ (.bi f es))):=by
 simp only[b7,é,rz]at h;obtain⟨⟨⟨⟨rfl,c⟩,i⟩,m⟩,n⟩:=h;have⟨b1,j,b3,b4⟩:=Bn f c;have k:=cp n;cases a with
 |nil=>cases m
 |cons o l =>
  have st:=bc (env:=X.env) (es:=l) (k o (by simp));have sn:=(aS (pos:=pos) (env:=X.env) (es:=l) λe q=>k e (by simp[q])).1;rcases Ea f c with hv|hv
  .show AV g.calm g.K g.room.gd g.u hv (dy i) (g.blt _ j) (by rw[b1,hv]) b3 b4 b st sn
  .show AW g.calm g.K g.room.gd g.u hv (dy i) (g.blt _ j) (by rw[b1,hv]) b3 b4 b st sn
def F0(g:Gd ck Γ C d X)(i:PA X a (Jj C (aR Γ es)))
  (h:(cL (x=f.oo)&&cL (y=f.iL)&&Ju X.env.scope x&&Ju X.env.scope y&&!a.isEmpty&&az ck es X.N X.env.scope a)=bD):PE X (.Call (.Name x p) [.Call (.Name y p2) a [] pos2] [] pos) (HH C (ev Γ (.Lv f es))):=by
 simp only[b7,é,rz]at h;obtain⟨⟨⟨⟨⟨rfl,rfl⟩,j⟩,k⟩,l⟩,m⟩:=h;have⟨b1,n⟩:=Eb f;have b:=cp m;cases a with
 |nil=>cases l
 |cons o c =>
  have st:=bc (env:=X.env) (es:=c) (b o (by simp));have sn:=(aS (pos:=pos2) (env:=X.env) (es:=c) λe q=>b e (by simp[q])).1;show AZ g.calm g.K (dy j) (g.blt _ b1) (dy k) (g.blt _ n) i st sn
def F5(g:Gd ck Γ C d X)(k:PE X o (HH C (ev Γ a)))(l:PA X b (Jj C (aR Γ es)))
  (h:(cL (name=m.name)&&oB o&&(apos.endLine==f.line)&&!b.isEmpty&&cL (b.length<20)&&bA ck a X.N X.env.scope o&&az ck es X.N X.env.scope b)=bD):PE X (.Call (.Attribute o name apos) b [] f) (HH C (ev Γ (.Ku m a es))):=by
 simp only[b7,é,rz]at h;obtain⟨⟨⟨⟨⟨⟨rfl,n⟩,p⟩,q⟩,r⟩,v⟩,s⟩:=h;have i:=cp s;have⟨s1,s2⟩:=Bo m;cases b with
 |nil=>cases q
 |cons j c =>
  have st:=bc (env:=X.env) (es:=c) (i j (by simp));have sn:=(aS (pos:=f) (env:=X.env) (es:=c) λe t=>i e (by simp[t])).1;have u:=(aS (pos:=f) (env:=X.env) (es:=j::c) i).2;show AX g.K s1 s2 k l (j9 n) ?_ p st sn;rw[u];have:(j::c).length+([]:List ME).length+(if ([]:List ME).isEmpty=bD then 0 else 1)<30:=by simp at r ⊢;lia
  simp only[í this];rfl
def yi(g:Gd ck Γ C d X)(i:PA X a (Jj C (aR Γ es)))
  (h:(cL (x=f)&&cL (f∈ck.fns)&&Ju X.env.scope x&&bp x&&!a.isEmpty&&az ck es X.N X.env.scope a)=bD):PE X (.Call (.Name x p) a [] pos) (HH C (ev Γ (.call f es))):=by
 simp only[b7,é,rz]at h;obtain⟨⟨⟨⟨⟨rfl,j⟩,k⟩,l⟩,m⟩,n⟩:=h;have b:=cp n;obtain⟨y,fa,z,ps,o,q,r,s,t,_⟩:=(g.fns _ j).ex;cases a with
 |nil=>cases m
 |cons u c =>
  have st:=bc (env:=X.env) (es:=c) (b u (by simp));have sn:=(aS (pos:=pos) (env:=X.env) (es:=c) λe v=>b e (by simp[v])).1;show xA g.P g.w g.K rfl t o g.room (dy k) q r s (aA l).1 i st sn
def ei{X:Cx}(h:KU X.N X.env.scope i x=bD):X.N[i]?=a5 x/\IT X.env.scope x/\(x==("__debug__":Str))=cb/\(x==("__classdict__":Str))=cb:=by
 simp only[KU,b7,é]at h;have⟨a,b⟩:=aA h.2;show⟨h.1.1,bU h.1.2,a,b⟩
def yj(g:Gd ck Γ C d X)(c:PA X as (iP C es.length i (aR Γ es >>= λr1=>aR Γ es2 >>= λr2=>pure (r1++r2))))(a:∀e∈as,noStar e=bD)(h:as≠[])
  (j:x=f) (k:(f,es.length,("":Str))∈ck.obs) (l:Ju X.env.scope x=bD) (m:bp x=bD):PE X (.Call (.Name x p) as [] pos) (HH C (ev Γ (.JM f i es es2))):=by
 subst j;obtain⟨y,fa,z,ps,n,q,r,_,s,t⟩:=(g.IZ.o _ k).ex;cases as with
 |nil=>show absurd rfl h
 |cons u b =>
  have st:=bc (env:=X.env) (es:=b) (a u (by simp));have sn:=(aS (pos:=pos) (env:=X.env) (es:=b) λe v=>a e (by simp[v])).1;show x9 g.P g.w g.K rfl t n g.room (dy l) (q rfl) r s (aA m).1 c st sn
def F6(b:NQ X.N X.env.scope i as[0]?=bD)(c:PA X (as.drop 1) (Jj C ms)):PA X as (iP C 0 i ms):=by
 have⟨y,p,e,z⟩:=ly b;have⟨d,f,g,h⟩:=ei z;cases as with
 |nil=>cases e
 |cons a as =>
  cases e;show tK d f g h c
def yk(g:Gd ck Γ C d X)(c:PA X as (iP C 0 i (aR Γ es)))(a:∀e∈as,noStar e=bD)(h:as≠[])
  (j:x=f) (k:(f,is)∈ck.IZ) (l:Ju X.env.scope x=bD) (m:bp x=bD):PE X (.Call (.Name x p) as [] pos) (HH C (ev Γ (.IE f i es is))):=by
 subst j;have⟨v,fa,y,ps,n,o,q,r,s⟩:=(g.IZ.f _ k).ex;cases as with
 |nil=>show absurd rfl h
 |cons t b =>
  have st:=bc (env:=X.env) (es:=b) (a t (by simp));have sn:=(aS (pos:=pos) (env:=X.env) (es:=b) λe u=>a e (by simp[u])).1;show yb g.P g.w g.K rfl s n g.room (dy l) o q r (aA m).1 (ya c) st sn
def F7(g:Gd ck Γ C d X)(u:PA X as (Jj C (aR Γ es)))(b:∀e∈as,noStar e=bD)(c:as=[]->es=[])(v:(apos.endLine==pos.line)=bD)(D:as.length<20)
  (z:(f,0,m)∈ck.obs) (a:m≠""/\m≠"rows"/\m≠"earlier") (A:KU X.N X.env.scope i x=bD):PE X (.Call (.Attribute (.Name x px) m apos) as [] pos) (HH C (ev Γ (.IG f m i es))):=by
 obtain⟨G,fa,H,ps,h,_,I,j,k,l⟩:=(g.IZ.o _ z).ex;obtain⟨cl,_,_,K,_⟩:=g.IZ.sh.ex;have⟨n,p,q,r⟩:=ei A;have s:=tL (x:=x) (y:=m) (px:=px) (apos:=apos) (pos:=pos) (env:=X.env) (as:=as) (by rw[(aS b).2];change(bD&&bD&&cL (as.length+0+0<30))=bD;rw[í ⋯];rfl) v;cases as with
 |nil =>
  cases c rfl;show x_ K g.P g.w g.K n p q r rfl l h g.room (j a.1 cl K.hc) k a.2 s
 |cons B t =>
  have st:=bc (env:=X.env) (es:=t) (b B (by simp));have sn:=(aS (pos:=pos) (env:=X.env) (es:=t) λe c=>b e (by simp[c])).1;show Bi K g.P g.w g.K n p q r rfl l h g.room (j a.1 cl K.hc) k a.2 u st sn s
def QN(d:NQ N c i as[n]?=bD)(f:az k es N c (as.take n)=bD)(g:az k es2 N c (as.drop (n+1))=bD):(∀e∈as,noStar e=bD)/\as≠[]/\True:=by
 have⟨y,p,e,z⟩:=ly d;have b:n<as.length:=(dt.mp e).1;show⟨λa ha=>?_,(λz=>by rw[z]at b;cases b),trivial⟩;rw[<-List.take_append_drop n as,N0 b]at ha;rcases i9.mp ha with ha|ha
 .show cp f a ha
 .rcases gj.mp ha with ha|ha
  .rw[ha,(dt.mp e).2];rfl
  .show cp g a ha
def PA.F8(h:PA X as (iP C p i m))(j:∀st Q,W b st Q->W m st Q):PA X as (iP C p i b):=λpos a s σ H Q I ⟨v,c0,c,e1,d,e,w⟩=>h pos a s σ H Q I ⟨v,c0,c,e1,d,e,j _ _ w⟩
def eO(h:(b&&az k es N a c)=bD):az k es N a c=bD:=(vu.mp h).2
mutual
theorem bC:∀(e:E) (X:Cx) (A:nH),Gd ck Γ C d X->bA ck e X.N X.env.scope A=bD->PE X A (HH C (ev Γ e))
 |.var i,X,A,g,h=>by
  have⟨x,p0,rfl,J⟩:=ai h;clear h;have h:=J;simp only[b7,é]at h;have⟨h3,h4⟩:=aA h.2;show om h.1.1 (bU h.1.2) h3 h4
 |.cst u,X,A,g,h=>by
  have⟨c,q0,p0,rfl,J⟩:=lr h;cases c with
  |int j=>have:=cn J;subst this;show iK vX λ_ _=>rfl
  |str y=>have:=cn J;subst this;show iK v3 λ_ _=>rfl
  |bool y=>have:=cn J;subst this;show iK vY λ_ _=>rfl
  |none=>have:=cn J;subst this;show iK vZ λ_ _=>rfl
  |_=>cases J
 |.Ke x u,X,A,g,h=>by
  have⟨y,p0,rfl,J⟩:=ai h;clear h;have h:=J;simp only[b7,é,Qe]at h;obtain⟨⟨⟨rfl,L⟩,O⟩,p,hp,e1,e2⟩:=h;have:=cn e2;subst this e1;have⟨val,v,q1,q2,q3⟩:=g.J8 p hp;show iK (zO (dy L) q1 q2 (aA O).1) q3
 |.bin op a b,X,A,g,h=>by
  have⟨a',KW,b',p0,rfl,J⟩:=rM h;clear h;have h:=J;simp only[b7,é]at h;obtain⟨⟨rfl,L⟩,O⟩:=h;show AG g.K (bC a X _ g L) (bC b X _ g O)
 |.cmp op a b,X,A,g,h=>by
  have⟨a',KW,b',p0,rfl,B⟩:=dQ h;have h:=B;simp only[b7,é,rz]at h;obtain⟨⟨⟨rfl,h0⟩,L⟩,O⟩:=h;show AH g.P g.w g.K g.u (bC a X _ g L) (bC b X _ g O) h0
 |.Lu o1 o2 a b c,X,A,g,h=>absurd (show cb=bD from h) ko
 |.and es,X,A,g,h=>by
  have⟨Hy,p0,rfl,J⟩:=gh h;clear h;have h:=J;show yl es X _ g h
 |.or es,X,A,g,h=>by
  have⟨Hy,p0,rfl,J⟩:=gh h;clear h;have h:=J;show Ce es X _ g h
 |.not a,X,A,g,h=>by
  have⟨a',p0,rfl,J⟩:=jk h;clear h;have h:=J;show AJ (bC a X _ g h)
 |.neg a,X,A,g,h=>by
  have⟨a',p0,rfl,J⟩:=jk h;clear h;have h:=J;show AK (bC a X _ g h)
 |.bad,X,A,g,h=>gV
 |.IF i,X,A,g,h=>by
  have⟨o,m,q,rfl,B⟩:=bK h;have⟨x,px,rfl,G⟩:=ai B;simp only[b7,é]at G;have⟨rfl,L⟩:=G;have⟨w1,w2,w3,w4⟩:=ei L;obtain⟨cl,_,_,K,_⟩:=g.IZ.sh.ex;show xU K g.K w1 w2 w3 w4
 |.KI i,X,A,g,h=>by
  have⟨f',as,p0,rfl,B⟩:=aM h;have⟨f,p1,rfl,G⟩:=ai B;have⟨a',rfl,z3⟩:=aK G;have⟨o,m,q,rfl,z4⟩:=bK z3;have⟨x,px,rfl,z5⟩:=ai z4;simp only[b7,é]at z5;obtain⟨⟨⟨rfl,rfl⟩,L⟩,O⟩:=z5;have⟨w1,w2,w3,w4⟩:=ei O;obtain⟨cl,_,_,K,_⟩:=g.IZ.sh.ex;show xV K g.K w1 w2 w3 w4 (dy L) (g.blt _ (by decide))
 |.JL i,X,A,g,h=>gV
 |.j4 i,X,A,g,h=>by
  have⟨o,m,apos,as,G',rfl,B⟩:=aW h;have⟨o2,m2,q,rfl,G⟩:=bK B;have⟨x,px,rfl,z3⟩:=ai G;simp only[b7,é,ux]at z3;obtain⟨⟨⟨⟨rfl,rfl⟩,rfl⟩,L⟩,O⟩:=z3;have⟨w1,w2,w3,w4⟩:=ei O;obtain⟨cl,_,_,K,_⟩:=g.IZ.sh.ex;show xY K g.K w1 w2 w3 w4 L
 |.JM f i es es2,X,A,g,h=>by
  have⟨f',as,p0,rfl,B⟩:=aM h;have⟨x,p1,rfl,G⟩:=ai B;simp only[b7,é]at G;obtain⟨⟨⟨⟨⟨⟨L,O⟩,h3⟩,h4⟩,Y⟩,h6⟩,h7⟩:=G;have⟨e1,e2,e3⟩:=QN Y h6 h7;show yj g (Ec es es2 X as g Y h6 (gD es2 X _ g h7)) e1 e2 L O h3 h4
 |.IE f i es is,X,A,g,h=>by
  have⟨f',as,p0,rfl,B⟩:=aM h;have⟨x,p1,rfl,G⟩:=ai B;simp only[b7,é]at G;obtain⟨⟨⟨⟨⟨L,O⟩,h3⟩,h4⟩,Y⟩,h7⟩:=G;have⟨e1,e2,e3⟩:=QN (k:=ck) (es:=[]) (es2:=es) Y rfl h7;show yk g (F6 Y (gD es X _ g h7)) e1 e2 L O h3 h4
 |.IG f m i es,X,A,g,h=>by
  have⟨o,y,apos,as,G',rfl,B⟩:=aW h;have⟨x,px,rfl,G⟩:=ai B;simp only[b7,é]at G;obtain⟨⟨⟨⟨⟨⟨rfl,O⟩,⟨h3,h4⟩,Y⟩,h6⟩,h8⟩,h9⟩,h7⟩:=G;show F7 g (gD es X as g h7) (cp h7) (λz=>by subst z;cases es with|nil=>rfl|cons _ _=>simp[az]at h7) h8 h9 O ⟨h3,h4,Y⟩ h6
 |.pop i,X,A,g,h=>by
  have⟨o,m,apos,as,G',rfl,B⟩:=aW h;have⟨x,px,rfl,G⟩:=ai B;simp only[b7,é,ux]at G;obtain⟨⟨⟨⟨⟨rfl,rfl⟩,L⟩,O⟩,h3⟩,h4⟩:=G;have⟨q1,q2⟩:=aA h3;show Bc L (bU O) q1 q2 h4 g.K
 |.Ml i a,X,A,g,h=>by
  have⟨o,m,apos,as,G',rfl,B⟩:=aW h;have⟨x,px,rfl,G⟩:=ai B;have⟨a',rfl,z3⟩:=aK G;simp only[b7,é]at z3;obtain⟨⟨⟨⟨⟨⟨rfl,L⟩,O⟩,h3⟩,h4⟩,Y⟩,h6⟩:=z3;have⟨q1,q2⟩:=aA h3;have sa:=aS (pos:=G') (env:=X.env) (es:=[a']) λe he=>by rw[js.mp he];show Y
  show xT g.K L (bU O) q1 q2 (bC a X _ g h6) (by rw[sa.2];rfl) h4 (bc Y)
 |.inD neg a i,X,A,g,h=>by
  have⟨a',KW,b',p0,rfl,B⟩:=dQ h;have⟨x,p1,rfl,G⟩:=ai B;have h:=G;simp only[b7,é,rz]at h;obtain⟨⟨⟨⟨⟨rfl,h0⟩,L⟩,O⟩,h3⟩,h4⟩:=h;have⟨q1,q2⟩:=aA h3;show A8 g.u L (bU O) q1 q2 (bC a X _ g h4) h0
 |.Oj i,X,A,g,h=>by
  have⟨x,p0,rfl,J⟩:=ai h;clear h;have h:=J;simp only[b7,é]at h;have⟨h3,h4⟩:=aA h.2;show A7 h.1.1 (bU h.1.2) h3 h4
 |.Kf i a b,X,A,g,h=>by
  have⟨o,m,apos,as,G',rfl,B⟩:=aW h;have⟨x,px,rfl,G⟩:=ai B;have⟨a',b',rfl,z3⟩:=rN G;clear h B;have G:=z3;simp only[b7,é]at G;obtain⟨⟨⟨⟨⟨⟨⟨⟨rfl,L⟩,O⟩,h3⟩,h4⟩,Y⟩,h6⟩,h7⟩,h8⟩:=G;have⟨q1,q2⟩:=aA h3;have sa:=aS (pos:=G') (env:=X.env) (es:=[a',b']) λe he=>by
   rcases gj.mp he with rfl|he
   .show Y
   .simp at he;subst he;show h6
  show xR g.u L (bU O) q1 q2 (bC a X _ g h7) (bC b X _ g h8) ⟨rfl,by rw[sa.2];rfl,h4,by rw[bc Y,bc h6];rfl⟩
 |.Ol i,X,A,g,h=>by
  obtain⟨f',as,_,rfl,B⟩:=aM h;obtain⟨f,_,rfl,G⟩:=ai B;have⟨c,rfl,z3⟩:=aK G;have⟨o,m,apos,bs,G',rfl,z4⟩:=aW z3;have⟨x,px,rfl,z5⟩:=ai z4;simp only[b7,é,ux]at z5;obtain⟨⟨⟨⟨⟨⟨⟨rfl,rfl⟩,L⟩,rfl⟩,h3⟩,h4⟩,Y⟩,h6⟩:=z5;have⟨q1,q2⟩:=aA Y;show Bb g.calm g.K (dy L) (g.blt _ (by decide +kernel)) h3 (bU h4) q1 q2 h6
 |.Qu ln a b,X,A,g,h=>gV
 |.fst es,X,A,g,h=>gV
 |.Qt a T,X,A,g,h=>gV
 |.ite c a b,X,A,g,h=>absurd (show cb=bD from h) ko
 |.tup es,X,A,g,h=>by
  have⟨l,q0,p0,rfl,J⟩:=lu h;clear h;have h:=J;show AO (gD es X _ g h)
 |.lst es,X,A,g,h=>by
  have⟨l,p0,rfl,J⟩:=rO h;clear h;have h:=J;show AQ (gD es X _ g h)
 |.J4 r,X,A,g,h=>by
  have⟨p0,rfl⟩:=mU h;show xy g.P g.w r
 |.idx a b,X,A,g,h=>by
  have⟨a',b',p0,rfl,J⟩:=c8 h;clear h;have h:=J;simp only[b7]at h;show AR g.K g.u (qa h.1.1) (bC a X _ g h.1.2) (bC b X _ g h.2)
 |.K_ a lo hi,X,A,g,h=>by
  have⟨a',b',p0,rfl,B⟩:=c8 h;have⟨U3,J1,p1,rfl,J⟩:=rP B;clear h B;simp only[b7]at J;show AU g.K (bC a X _ g J.1.1) (F9 lo X _ g J.1.2) (F9 hi X _ g J.2)
 |.bi f es,X,A,g,h=>by
  have⟨f',as,p0,rfl,B⟩:=aM h;have⟨x,p1,rfl,G⟩:=ai B;have h:=G;show FZ g (gD es X _ g (eO h)) h
 |.Lv f es,X,A,g,h=>by
  have⟨f',as,p0,rfl,B⟩:=aM h;have⟨x,p1,rfl,G⟩:=ai B;have⟨c,rfl,z3⟩:=aK G;have⟨g',as',p2,rfl,z4⟩:=aM z3;have⟨y,p3,rfl,z5⟩:=ai z4;have h:=z5;show F0 g (gD es X _ g (eO h)) h
 |.Ku m a es,X,A,g,h=>by
  have⟨o,name,apos,as,G',rfl,B⟩:=aW h;have h:=B;have h':=h;simp only[b7]at h';show F5 g (bC a X _ g h'.1.2) (gD es X _ g (eO h)) h
 |.call f es,X,A,g,h=>by
  have⟨f',as,p0,rfl,B⟩:=aM h;have⟨x,p1,rfl,G⟩:=ai B;have h:=G;show yi g (gD es X _ g (eO h)) h
 |.comp n t ik src cond e,X,A,g,h=>by
  have⟨elt,tg,ab,ag,scope,p0,rfl,J⟩:=jl h;clear h;have h:=J;simp only[b7,é]at h;obtain⟨⟨⟨⟨⟨⟨⟨L,O⟩,h3⟩,h4⟩,Y⟩,h6⟩,h7⟩,h8⟩:=h;subst L;have S:=wQ (X:=X) rfl (mY _ _) O;split at Y
  .rename_i as al;have HB:=cp Y;have hI:PI X tg ab (Lx C ik (aR Γ src)):=Ca g al (gD src X _ g Y) (λa e=>by
    subst e;cases src with
    |nil=>simp[az]at Y
    |cons e1 II =>
     cases II with
     |nil =>
      simp only[az,b7]at Y;show⟨e1,rfl,bC e1 X _ g Y.1.2⟩
     |cons _ _=>simp[az]at Y) HB
   show xI S g.calm hI (λD s H ex=>tR (fa:=λx=>cL (scope.names.lookup x=a5 .cell)) g.calm g.K S.nd (λ_ z=>z) h3)
    (λD s H ex=>by
     cases ag with
     |nil =>
      cases cond with
      |nil=>show λac s σ H Q I ⟨c0,e1,e2,ok,w⟩=>sR ac s σ H Q I (by subst e1 e2;rw[show aN Γ []=pure bD from rfl,ao]at w;show w c0 rfl rfl ok (Nx.refl c0))
      |cons _ _=>simp[az]at h7
     |cons c1 cs =>
      cases cs with
      |nil =>
       cases cond with
       |nil=>simp[az]at h7
       |cons e1 II =>
        cases II with
        |nil =>
         simp only[az,b7]at h7;show sT (oE e1 (I_ X _ scope D s H ex) c1 (g.cx _ _ _ _ _ _) h7.1.2)
        |cons _ _=>simp[az]at h7
      |cons _ _=>simp at h6)
    (λD s H ex=>bC e (I_ X _ scope D s H ex) elt (g.cx _ _ _ _ _ _) h8) (rR h4)
  .cases Y
theorem gD:∀(es:List E) (X:Cx) (a:List nH),Gd ck Γ C d X->az ck es X.N X.env.scope a=bD->PA X a (Jj C (aR Γ es))
 |[],X,a,g,h=>by
  cases a with
  |nil=>show AN
  |cons _ _=>simp[az]at h
 |e::es,X,a,g,h=>by
  cases a with
  |nil=>simp[az]at h
  |cons b a =>
   simp only[az,b7]at h;show xv (bC e X b g h.1.2) (gD es X a g h.2) (bc h.1.1)
theorem Ec:∀(es es2:List E) {i:Nat} (X:Cx) (as:List nH),Gd ck Γ C d X->NQ X.N X.env.scope i as[es.length]?=bD->az ck es X.N X.env.scope (as.take es.length)=bD->PA X (as.drop (es.length+1)) (Jj C (aR Γ es2))->PA X as (iP C es.length i (aR Γ es >>= λr1=>aR Γ es2 >>= λr2=>pure (r1++r2)))
 |[],es2,i,X,as,g,c,b,f=>by
  have⟨y,p,e,z⟩:=ly c;have⟨h,j,k,l⟩:=ei z;cases as with
  |nil=>cases e
  |cons a as =>
   cases e;show PA.F8 (tK h j k l f) λst Q w=>by
    rw[af,show aR Γ []=pure [] from rfl,ao,af]at w;show w.mono λa st' z=>by rw[ao]at z;show z
 |e::es,es2,i,X,as,g,c,b,f=>by
  cases as with
  |nil=>cases c
  |cons a as =>
   simp only[k9,List.take_succ_cons,az,b7]at b;show PA.F8 (Bh (bC e X a g b.1.2) (Ec es es2 (i:=i) X as g c b.2 f) (bc b.1.1)) λst Q w=>?_;rw[af,show aR Γ (e::es)=(ev Γ e >>= λr=>aR Γ es >>= λrs=>pure (r::rs)) from rfl,af]at w;rw[af];show w.mono λr st1 w=>?_;rw[af]at w;rw[af,af];show w.mono λr1 st2 w=>?_;rw[ao,af]at w;rw[af];show w.mono λr2 m w=>?_;rw[ao]at w;rw[ao,ao];show w
theorem F9:∀(es:List E) (X:Cx) (o:Option nH),Gd ck Γ C d X->rQ ck es X.N X.env.scope o=bD->PO X o (tO C (Nt Γ es))
 |[],X,o,g,h=>by
  cases o with
  |none=>show u9
  |some _=>simp[rQ]at h
 |[e],X,o,g,h=>by
  cases o with
  |none=>simp[rQ]at h
  |some a=>simp only[rQ]at h;show u_ (bC e X a g h)
 |_::_::_,X,o,g,h=>by simp[rQ]at h
theorem yl:∀(es:List E) (X:Cx) (a:List nH),Gd ck Γ C d X->az ck es X.N X.env.scope a=bD->∀{pos},PE X (.BoolOp .And a pos) (HH C (iF Γ es))
 |[],X,a,g,h,pos=>gV
 |[e],X,a,g,h,pos=>by
  cases a with
  |nil=>simp[az]at h
  |cons b a =>
   cases a with
   |nil=>simp only[az,b7]at h;show v8 (bC e X b g h.1.2)
   |cons _ _=>simp[az]at h
 |e::e1::es,X,a,g,h,pos=>by
  cases a with
  |nil=>simp[az]at h
  |cons b a =>
   have h':noStar b=bD/\bA ck e X.N X.env.scope b=bD/\az ck (e1::es) X.N X.env.scope a=bD:=by
    rw[az]at h;simp only[b7]at h;show⟨h.1.1,h.1.2,h.2⟩
   cases a with
   |nil=>have:=h'.2.2;simp[az]at this
   |cons c es2=>show snd_and (bC e X b g h'.2.1) (yl (e1::es) X _ g h'.2.2)
theorem Ce:∀(es:List E) (X:Cx) (a:List nH),Gd ck Γ C d X->az ck es X.N X.env.scope a=bD->∀{pos},PE X (.BoolOp .Or a pos) (HH C (DC Γ es))
 |[],X,a,g,h,pos=>gV
 |[e],X,a,g,h,pos=>by
  cases a with
  |nil=>simp[az]at h
  |cons b a =>
   cases a with
   |nil=>simp only[az,b7]at h;show v8 (bC e X b g h.1.2)
   |cons _ _=>simp[az]at h
 |e::e1::es,X,a,g,h,pos=>by
  cases a with
  |nil=>simp[az]at h
  |cons b a =>
   have h':noStar b=bD/\bA ck e X.N X.env.scope b=bD/\az ck (e1::es) X.N X.env.scope a=bD:=by
    rw[az]at h;simp only[b7]at h;show⟨h.1.1,h.1.2,h.2⟩
   cases a with
   |nil=>have:=h'.2.2;simp[az]at this
   |cons c es2=>show DI (bC e X b g h'.2.1) (Ce (e1::es) X _ g h'.2.2)
theorem oE:∀(e:E) (X:Cx) (j:nH),Gd ck Γ C d X->bA ck e X.N X.env.scope j=bD->PT X j (Jn C (HP Γ e))
 |.and es,X,j,g,h=>by
  have⟨Hy,s,rfl,v⟩:=gh h;clear h;have h:=v;show(tT es X _ g h).pt
 |.or es,X,j,g,h=>by
  have⟨Hy,s,rfl,v⟩:=gh h;clear h;have h:=v;show(ym es X _ g h).pt
 |.not a,X,j,g,h=>by
  have⟨a',s,rfl,v⟩:=jk h;clear h;have h:=v;show AL (oE a X _ g h)
 |.cmp op a b,X,j,g,h=>by
  have⟨a',O,Y,s,rfl,l⟩:=dQ h;have h:=l;simp only[b7,é,rz]at h;obtain⟨⟨⟨rfl,I⟩,y⟩,z⟩:=h;show AI g.P g.w g.K g.u (bC a X _ g y) (bC b X _ g z) I
 |.Lu o1 o2 a b c,X,j,g,h=>absurd (show cb=bD from h) ko
 |.var i,X,j,g,h=>by
  have⟨x,s,rfl,v⟩:=ai h;simp only[b7,é]at v;have⟨A,B⟩:=aA v.2;show iI (om v.1.1 (bU v.1.2) A B) g.K λ_=>rfl
 |.idx a b,X,j,g,h=>bf
 |.bi f es,X,j,g,h=>by
  have⟨J,as,s,rfl,l⟩:=aM h;have⟨x,H,rfl,p⟩:=ai l;have h:=p;show PT.eqv (iI (FZ g (gD es X _ g (eO h)) h) g.K λ_=>rfl) λst Q w=>Cb w
 |.Lv f es,X,j,g,h=>bf
 |.Ku m a es,X,j,g,h=>bf
 |.call f es,X,j,g,h=>by
  have⟨J,as,s,rfl,l⟩:=aM h;have⟨x,H,rfl,p⟩:=ai l;have h:=p;show PT.eqv (iI (yi g (gD es X _ g (eO h)) h) g.K λ_=>rfl) λst Q w=>Cb w
 |.cst u,X,j,g,h=>bf
 |.fst es,X,j,g,h=>bf
 |.Ke x u,X,j,g,h=>bf
 |.neg a,X,j,g,h=>bf
 |.Qt a T,X,j,g,h=>bf
 |.bad,X,j,g,h=>bf
 |.IF i,X,j,g,h=>bf
 |.KI i,X,j,g,h=>bf
 |.JL i,X,j,g,h=>by
  have⟨a',O,Y,s,rfl,l⟩:=dQ h;have⟨o,m,q,rfl,p⟩:=bK l;have⟨x,px,rfl,z3⟩:=ai p;simp only[b7,é]at z3;obtain⟨⟨⟨y,rfl⟩,rfl⟩,z⟩:=z3;have⟨p2,rfl⟩:=vn y;have⟨w1,w2,w3,w4⟩:=ei z;obtain⟨cl,_,_,K,_⟩:=g.IZ.sh.ex;show xW K g.K g.u w1 w2 w3 w4
 |.j4 i,X,j,g,h=>bf
 |.JM f i es es2,X,j,g,h=>by
  have⟨J,as,s,rfl,l⟩:=aM h;have⟨x,H,rfl,p⟩:=ai l;simp only[b7,é]at p;obtain⟨⟨⟨⟨⟨⟨y,z⟩,A⟩,B⟩,D⟩,h6⟩,G⟩:=p;have⟨e1,L,e3⟩:=QN D h6 G;show iI (yj g (Ec es es2 X as g D h6 (gD es2 X _ g G)) e1 L y z A B) g.K λ_=>rfl
 |.IE f i es is,X,j,g,h=>by
  have⟨J,as,s,rfl,l⟩:=aM h;have⟨x,H,rfl,p⟩:=ai l;simp only[b7,é]at p;obtain⟨⟨⟨⟨⟨y,z⟩,A⟩,B⟩,D⟩,G⟩:=p;have⟨e1,L,e3⟩:=QN (k:=ck) (es:=[]) (es2:=es) D rfl G;show iI (yk g (F6 D (gD es X _ g G)) e1 L y z A B) g.K λ_=>rfl
 |.IG f m i es,X,j,g,h=>bf
 |.pop i,X,j,g,h=>bf
 |.Ml i a,X,j,g,h=>bf
 |.inD neg a i,X,j,g,h=>by
  have⟨a',O,Y,s,rfl,l⟩:=dQ h;have⟨x,H,rfl,p⟩:=ai l;have h:=p;simp only[b7,é,rz]at h;obtain⟨⟨⟨⟨⟨rfl,I⟩,y⟩,z⟩,A⟩,B⟩:=h;have⟨q1,q2⟩:=aA A;show A9 g.u y (bU z) q1 q2 (bC a X _ g B) I
 |.Oj i,X,j,g,h=>bf
 |.Qu ln a b,X,j,g,h=>bf
 |.Ol i,X,j,g,h=>bf
 |.Kf i a b,X,j,g,h=>bf
 |.bin op a b,X,j,g,h=>bf
 |.ite c a b,X,j,g,h=>bf
 |.tup es,X,j,g,h=>bf
 |.lst es,X,j,g,h=>bf
 |.J4 r,X,j,g,h=>bf
 |.K_ a lo hi,X,j,g,h=>bf
 |.comp n t ik src cond e,X,j,g,h=>bf
theorem tT:∀(es:List E) (X:Cx) (a:List nH),Gd ck Γ C d X->az ck es X.N X.env.scope a=bD->∀{pos},PW X (.BoolOp .And a pos) (Jn C (aN Γ es))
 |[],X,a,g,h,pos=>by
  cases a with
  |nil =>
   rintro i c s σ H Q I ⟨c0,rfl,rfl,f,w⟩;rw[show aN Γ []=pure bD from rfl,ao]at w;show æ ⟨c0.H,I,w c0 rfl rfl f (Nx.refl c0)⟩
  |cons _ _=>simp[az]at h
 |[e],X,a,g,h,pos=>by
  cases a with
  |nil=>simp[az]at h
  |cons b a =>
   cases a with
   |nil=>simp only[az,b7]at h;show zP (oE e X b g h.1.2)
   |cons _ _=>simp[az]at h
 |e::e1::es,X,a,g,h,pos=>by
  cases a with
  |nil=>simp[az]at h
  |cons b a =>
   have h':noStar b=bD/\bA ck e X.N X.env.scope b=bD/\az ck (e1::es) X.N X.env.scope a=bD:=by
    rw[az]at h;simp only[b7]at h;show⟨h.1.1,h.1.2,h.2⟩
   cases a with
   |nil=>have:=h'.2.2;simp[az]at this
   |cons j es2=>show AM (oE e X b g h'.2.1) (tT (e1::es) X _ g h'.2.2)
theorem ym:∀(es:List E) (X:Cx) (a:List nH),Gd ck Γ C d X->az ck es X.N X.env.scope a=bD->∀{pos},PW X (.BoolOp .Or a pos) (Jn C (jI Γ es))
 |[],X,a,g,h,pos=>by
  cases a with
  |nil =>
   rintro i c s σ H Q I ⟨c0,rfl,rfl,f,w⟩;rw[show jI Γ []=pure cb from rfl,ao]at w;show isTrue_or_nil ⟨c0.H,I,w c0 rfl rfl f (Nx.refl c0)⟩
  |cons _ _=>simp[az]at h
 |[e],X,a,g,h,pos=>by
  cases a with
  |nil=>simp[az]at h
  |cons b a =>
   cases a with
   |nil=>simp only[az,b7]at h;show CD (oE e X b g h.1.2)
   |cons _ _=>simp[az]at h
 |e::e1::es,X,a,g,h,pos=>by
  cases a with
  |nil=>simp[az]at h
  |cons b a =>
   have h':noStar b=bD/\bA ck e X.N X.env.scope b=bD/\az ck (e1::es) X.N X.env.scope a=bD:=by
    rw[az]at h;simp only[b7]at h;show⟨h.1.1,h.1.2,h.2⟩
   cases a with
   |nil=>have:=h'.2.2;simp[az]at this
   |cons j es2=>show DJ (oE e X b g h'.2.1) (ym (e1::es) X _ g h'.2.2)
end
def F_(g:Gd ck Γ C d X)(b:Tq e=bD)(h:bA ck e X.N X.env.scope f=bD):PE X f (vh C (ev Γ e)):=by
 cases e with
 |var i =>
  have⟨x,k,rfl,a⟩:=ai h;simp only[b7,é]at a;have⟨l,m⟩:=aA a.2;show xP a.1.1 (bU a.1.2) l m
 |cst u =>
  have⟨c,n,k,rfl,a⟩:=lr h;cases c with
  |int j=>have:=cn a;subst this;show iN vX λ_ _=>rfl
  |str y=>have:=cn a;subst this;show iN v3 λ_ _=>rfl
  |bool y=>have:=cn a;subst this;show iN vY λ_ _=>rfl
  |none=>have:=cn a;subst this;show iN vZ λ_ _=>rfl
  |_=>cases a
 |_=>cases b
end
abbrev PL(b:L9)(x:Str)(a:Nat):nH->Bool
 |.ListComp elt gens s pos=>cL (b.names.lookup x=a5 .local)&&(a==pos.line)&&!(s.names.any λ(n,k)=>n==x&&(k==.local||k==.cell))
 |_=>cb
abbrev jL(s:Le)(k:nH->Bool):Bool:=match s with|.Expr e _=>k e|_=>cb
def c9(h:jL s k=bD):∃e p,s=.Expr e p/\k e=bD:=by
 unfold jL at h;split at h
 .show⟨_,_,rfl,h⟩
 .cases h
abbrev iQ(s:Le)(k:nH->nH->Bool):Bool:=match s with|.Assign ts v _=>cX ts λt=>k t v|_=>cb
def cI(h:iQ s k=bD):∃t v p,s=.Assign [t] v p/\k t v=bD:=by
 unfold iQ at h;split at h
 .have⟨t,rfl,a⟩:=aK h;show⟨_,_,_,rfl,h⟩
 .cases h
abbrev yn(s:Le)(k:nH->Bool):Bool:=match s with|.Raise (a5 e) b6 _=>k e|_=>cb
def rS(h:yn s k=bD):∃e p,s=.Raise (a5 e) b6 p/\k e=bD:=by
 unfold yn at h;split at h
 .show⟨_,_,rfl,h⟩
 .cases h
abbrev yo(s:Le)(k:Le->ExceptHandler->Bool):Bool:=match s with|.Try b hs [] [] _=>cX b λb=>cX hs λh=>k b h|_=>cb
def rT(h:yo s k=bD):∃b a p,s=.Try [b] [a] [] [] p/\k b a=bD:=by
 unfold yo at h;split at h
 .have⟨b,rfl,c⟩:=aK h;have⟨a,rfl,d⟩:=aK c;show⟨_,_,_,rfl,d⟩
 .cases h
abbrev Ed(s:Le)(k:Str->nH->Bool):Bool:=iQ s λt v=>aG t λy=>k y v
def mZ(h:Ed s k=bD):∃y p v a,s=.Assign [.Name y p] v a/\k y v=bD:=by
 have⟨t,v,a,rfl,z⟩:=cI h;have⟨y,p,rfl,z⟩:=ai z;show⟨y,p,v,a,rfl,z⟩
abbrev Ee(e:nH)(k:Str->Pos->Bool):Bool:=match e with|.Name x p=>k x p|_=>cb
def vp(h:Ee e k=bD):∃x p,e=.Name x p/\k x p=bD:=by
 unfold Ee at h;split at h
 .show⟨_,_,rfl,h⟩
 .cases h
abbrev yp(s:Le)(k:nH->Zi->nH->Bool):Bool:=match s with|.AugAssign t op b _=>k t op b|_=>cb
def rV(h:yp s k=bD):∃t op b p,s=.AugAssign t op b p/\k t op b=bD:=by
 unfold yp at h;split at h
 .show⟨_,_,_,_,rfl,h⟩
 .cases h
abbrev tU(s:Le)(k:Option nH->Bool):Bool:=match s with|.Return v _=>k v|_=>cb
def lA(h:tU s k=bD):∃v p,s=.Return v p/\k v=bD:=by
 unfold tU at h;split at h
 .show⟨_,_,rfl,h⟩
 .cases h
abbrev Ga(v:Option nH)(k:nH->Bool):Bool:=match v with|some e=>k e|none=>cb
def vq(h:Ga v k=bD):∃e,v=a5 e/\k e=bD:=by
 cases v with
 |none=>cases h
 |some e=>show⟨e,rfl,h⟩
abbrev yq(s:Le)(k:nH->List Le->List Le->Bool):Bool:=match s with|.If c a b _=>k c a b|_=>cb
def rW(h:yq s k=bD):∃c a b p,s=.If c a b p/\k c a b=bD:=by
 unfold yq at h;split at h
 .show⟨_,_,_,_,rfl,h⟩
 .cases h
abbrev yr(s:Le)(k:nH->nH->List Le->Bool):Bool:=match s with|.For t i b o _=>o.isEmpty&&k t i b|_=>cb
def rX(h:yr s k=bD):∃t i b p,s=.For t i b [] p/\k t i b=bD:=by
 unfold yr at h;split at h
 .rw[b7,ux]at h;have⟨rfl,h⟩:=h;show⟨_,_,_,_,rfl,h⟩
 .cases h
abbrev Ef(s:Le)(k:nH->List Le->Bool):Bool:=match s with|.While c b o _=>o.isEmpty&&k c b|_=>cb
def vt(h:Ef s k=bD):∃c b p,s=.While c b [] p/\k c b=bD:=by
 unfold Ef at h;split at h
 .rw[b7,ux]at h;have⟨rfl,h⟩:=h;show⟨_,_,_,rfl,h⟩
 .cases h
abbrev yt(s:ExceptHandler)(k:nH->Le->Bool):Bool:=match s with|.ExceptHandler (a5 t) b6 b _=>cX b λb=>k t b|_=>cb
def rY(h:yt s k=bD):∃t b p,s=.ExceptHandler (a5 t) b6 [b] p/\k t b=bD:=by
 unfold yt at h;split at h
 .have⟨b,rfl,a⟩:=aK h;show⟨_,_,_,rfl,a⟩
 .cases h
abbrev Eg(v:nH):Bool:=match v with|.Constant (.bool bD) _ _=>bD|_=>cb
def vv(h:Eg v=bD):∃t p,v=.Constant (.bool bD) t p:=by
 unfold Eg at h;split at h
 .show⟨_,_,rfl⟩
 .cases h
abbrev Hq(k:Ck)(f m:Str)(i:Nat)(N:List Str)(a:L9)(v:nH):Bool:=c7 v λo b apos as c=>aG o λd=>as.isEmpty&&cL (b=m)&&cL ((f,0,m)∈k.obs)&&(cL (m≠"")&&cL (m≠"rows")&&cL (m≠"earlier"))&&KU N a i d&&(apos.endLine==c.line)
mutual
noncomputable def yu(k:Ck):S->List Str->L9->Le->Bool
 |.set i e,N,d,s=>iQ s λt v=>Ee t λx p=>cL (N[i]?=a5 x)&&lp d x&&cL (d.kind=.function)&&bA k e N d v&&(dG v||PL d x p.line v||(match v with|.ListComp _ _ _ _=>bD|_=>cb))&&(match e with|.comp _ _ _ _ _ _=>bD|_=>dG v)
 |.Mm is e,N,d,s=>iQ s λt v=>tQ t λ_=>Ox bD N d (λ_=>bD) is t&&dG v&&D6 v&&bA k e N d v
 |.put i a b,N,d,s=>iQ s λt h=>jK t λo a'=>aG o λx=>cL (N[i]?=a5 x)&&fJ d x&&bp x&&dG h&&dZ a'&&bA k a N d a'&&bA k b N d h
 |.app i e,N,d,s=>jL s λc=>c7 c λo m apos as j=>aG o λx=>cX as λa=>cL (m="append")&&cL (N[i]?=a5 x)&&fJ d x&&bp x&&(apos.endLine==j.line)&&noStar a&&bA k e N d a
 |.Kv _,_,_,_=>cb
 |.JN i,N,d,s=>Ed s λy v=>D9 v "Shelf" λas=>as.isEmpty&&cL (N[i]?=a5 y)&&lp d y&&Ju d "Shelf"
 |.KJ i e,N,d,s=>iQ s λt v=>eh t λo m _=>aG o λx=>aG v λ_=>cL (m="rows")&&KU N d i x&&bA k e N d v
 |.KN i,N,d,s=>jL s λc=>c7 c λo m apos as j=>eh o λo1 m1 _=>aG o1 λx=>cX as λa=>eh a λo2 m2 _=>aG o2 λz=>cL (m="append")&&cL (m1="earlier")&&cL (m2="rows")&&cL (z=x)&&(apos.endLine==j.line)&&KU N d i x
 |.Mp y f m i c,N,d,s=>yo s λb A=>yt A λt B=>jL b λv=>Ed B λu C=>isNm t c&&Eg C&&cL ((c,c)∈k.xd)&&Ju d c&&bp c&&Hq k f m i N d v&&cL (N[y]?=a5 u)&&lp d u
 |.ext i e,N,d,s=>jL s λc=>c7 c λo m apos as j=>aG o λx=>cX as λa=>cL (m="extend")&&cL (N[i]?=a5 x)&&fJ d x&&bp x&&(apos.endLine==j.line)&&noStar a&&bA k e N d a
 |.bad,_,_,_=>bD
 |.newD i,N,d,s=>iQ s λt v=>aG t λx=>Bm v&&cL (N[i]?=a5 x)&&lp d x
 |.putD i a b,N,d,s=>iQ s λt h=>jK t λo a'=>aG o λx=>cL (N[i]?=a5 x)&&fJ d x&&bp x&&dG h&&dZ a'&&bA k a N d a'&&bA k b N d h
 |.J5 i a e,N,d,s=>jL s λc=>c7 c λo m apos as j=>jK o λo' a'=>aG o' λx=>cX as λb=>cL (m="append")&&cL (N[i]?=a5 x)&&fJ d x&&bp x&&dZ a'&&(apos.endLine==j.line)&&noStar b&&bA k a N d a'&&bA k e N d b&&Tq e
 |.aug sub i a e,N,d,s=>yp s λt op b=>jK t λo a'=>aG o λx=>cL (op=if sub=bD then .Sub else .Add)&&cL (N[i]?=a5 x)&&fJ d x&&bp x&&dZ a'&&bA k a N d a'&&bA k e N d b&&Tq e
 |.Qv _,_,_,_=>cb
 |.exp e,N,d,s=>jL s λl=>dG l&&bA k e N d l
 |.ret e,N,d,s=>tU s λv=>Ga v λl=>bA k e N d l
 |.Mn,N,d,s=>tU s λv=>v.isNone
 |.ite c a b,N,d,s=>yq s λn a' h=>bA k c N d n&&dz k a N d a'&&dz k b N d h
 |.Ij t is D src body,N,d,s=>yr s λw g q=>Ox t N d (λ_=>bD) is w&&rL g&&(match fL d w D g with
    |some as=>az k src N d as
    |none=>cb)&&dz k body N d q
 |.MV c body,N,d,s=>Ef s λn q=>bA k c N d n&&dz k body N d q
 |.brk,_,_,_=>cb
 |.cnt,_,_,_=>cb
 |.Nq _,_,_,_=>cb
 |.Mo c e,N,d,s=>yn s λr=>D9 r c λas=>cX as λa=>cL (c∈k.xc)&&Ju d c&&bp c&&noStar a&&bA k e N d a
 |.Qw,_,_,_=>cb
noncomputable def dz(k:Ck):List S->List Str->L9->List Le->Bool
 |[],_,_,a=>a.isEmpty
 |s::ss,N,b,a=>match a with
  |s'::a=>yu k s N b s'&&dz k ss N b a
  |[]=>cb
end
section
variable{ck:Ck}{Γ:Tab}{C:Ct}{d:Nat}{X:Cx}
def lB(h:lp a x=bD):Loc a x:=by
 unfold lp at h;simp only[OF,é]at h;show h
def iR(h:dG v=bD):Ou v t a env=pure cb:=by
 cases v<;>first|rfl|cases h
def oF(h:dG v=bD):QX [t] v a env=pure cb:=by
 rw[QX];show iR h
def Bq(h:dZ i=bD):∀a b new,ß i a b new=(do Kw [new,a,b] (R' a b new);Vt [new,a,b] [];pure .next):=by
 intro a b new;cases i<;>first|rfl|cases h
def tV(h:dZ i=bD):∀v,Rr (.Subscript o i p) env v=(do
   let a <-Kw [v] (uk o env)
   let b <-Kw [v,a] (uk i env)
   Rz p
   Kw [v,a,b] (R' a b v)
   Vt [v,a,b] []):=by
 intro v;cases i<;>first|rfl|cases h
structure Gs(ck:Ck)(Γ:Tab)(C:Ct)(d:Nat)(X:Cx):Prop where
 gd:Gd ck Γ C d X
 nd:X.N.Nodup
 fn:∀x,X.fn x=bD
 po:Wo (i4 X.prog X.w) X.A X.env X.xe
 kd:X.env.scope.kind=.function
 xs:NR ck X.K X.mg
 xl:∀c H',C.xw (.str c) H'->∀C' T H pins σ s e s',PySem.W.nsIn X.K mN c=a5 (a5 (.ref C'))->Inv X pins σ H s->bX X.prog X.w X.stack H s e C' T .none H' s'->X.xe (.ref e) s'
 sk:X.stack=X.env::X.outer/\X.env.frame=a5 X.env.locals
def tW(g:Gd ck Γ C d X)(h:(match fL X.env.scope f i b with|some as=>az ck src X.N X.env.scope as|none=>cb)=bD):PI X f b (Lx C i (aR Γ src)):=by
 split at h
 .rename_i as c;show Ca g c (gD src X _ g h) (λa e=>by
   subst e;cases src with
   |nil=>simp[az]at h
   |cons e1 j =>
    cases j with
    |nil =>
     simp only[az,b7]at h;show⟨e1,rfl,bC e1 X _ g h.1.2⟩
    |cons _ _=>simp[az]at h) (cp h)
 .cases h
def lC{pos p a:Pos}(hk:X.env.scope.kind=.function):Ou (.ListComp elt gens s pos) (a5 (.Name x p)) a.line X.env=pure (PL X.env.scope x p.line (.ListComp elt gens s pos)):=by
 have b:X.env.blockKind=.function:=by
  unfold Env.blockKind;rw[hk];rfl
 change(pure (X.env.blockKind==.function&&X.env.kindOf x==a5 .local&&p.line==pos.line&&!(s.names.any λ(n,k)=>n==x&&(k==.local||k==.cell))):Sem Bool)=_;rw[b];unfold PL;congr 1
 have:(X.env.kindOf x==a5 NameKind.local)=cL (X.env.scope.names.lookup x=a5 .local):=by
  unfold Env.kindOf;rw[J7];simp
 rw[this];rfl
def Eh{src cond:List E}(G:Gs ck Γ C d X)(hi:X.N[i]?=a5 x)(v:lp X.env.scope x=bD)
  (h:bA ck (.comp n t l src cond e) X.N X.env.scope (.ListComp elt [⟨m,a,b,0⟩] scope pos)=bD) (ns:Nat->Bool) (o:∀j,ns j=bD->j≠i) :
  L2.PS X (.Assign [.Name x p] (.ListComp elt [⟨m,a,b,0⟩] scope pos) KG) (IB C ns (ev Γ (.comp n t l src cond e) >>= λr=>eI i r >>= λ_=>pure .nx)):=by
 have g:=G.gd;have q:=bC (.comp n t l src cond e) X _ g h;cases k:PL X.env.scope x p.line (.ListComp elt [⟨m,a,b,0⟩] scope pos) with
 |false=>show B8 o G.nd hi (lB v) (.inl (G.fn x)) q (by rw[lC G.kd,k])
 |true =>
  have hl:X.env.scope.names.lookup x=a5 .local:=by
   simp only[PL,b7,é]at k;show k.1.1
  have⟨Xv,Yl,U4,Xw,Tr,p',y,u⟩:=jl h;cases y;clear h q;simp only[b7,é]at u;obtain⟨⟨⟨⟨⟨⟨⟨A,B⟩,J⟩,L⟩,O⟩,T⟩,c⟩,Y⟩:=u;subst A;have S:=wQ (X:=X) rfl (mY _ _) B;show DW o S g.calm G.nd hi hl (tW g O) (λD s H ex=>tR (fa:=λx=>cL (scope.names.lookup x=a5 .cell)) g.calm g.K S.nd (λ_ z=>z) J)
   (λD s H ex=>by
    cases b with
    |nil =>
     cases cond with
     |nil=>show λf s σ H Q I ⟨c0,e1,e2,ok,w⟩=>sR f s σ H Q I (by subst e1 e2;rw[show aN Γ []=pure bD from rfl,ao]at w;show w c0 rfl rfl ok (Nx.refl c0))
     |cons _ _=>simp[az]at c
    |cons c1 cs =>
     cases cs with
     |nil =>
      cases cond with
      |nil=>simp[az]at c
      |cons e1 II =>
       cases II with
       |nil =>
        simp only[az,b7]at c;show sT (oE e1 (I_ X _ scope D s H ex) c1 (g.cx _ _ _ _ _ _) c.1.2)
       |cons _ _=>simp[az]at c
     |cons _ _=>simp at T)
   (λD s H ex=>bC e (I_ X _ scope D s H ex) elt (g.cx _ _ _ _ _ _) Y) (by rw[lC G.kd,k]) (rR L)
def Br(G:Gs ck Γ C d X)(h:yu ck (.Mo c e) X.N X.env.scope s'=bD):L2.PS X s' (IB C (Oo (.Mo c e)) (exec Γ (.Mo c e))):=by
 have⟨r,u,rfl,g⟩:=rS h;have⟨as,v,p2,rfl,i⟩:=mW g;have⟨a,rfl,f⟩:=aK i;simp only[b7,é]at f;obtain⟨⟨⟨⟨j,k⟩,l⟩,m⟩,n⟩:=f;have⟨o,p,q,t⟩:=G.xs.xc _ j;show FQ G.gd.calm (dy k) p (aA l).1 t (bC e X a G.gd n) (bc (es:=[]) m) λH' w b σ s e s' I F=>G.xl _ H' w o b6 H' b σ s e s' q I F
def yw(G:Gs ck Γ C d X)(h:yu ck (.JN i) X.N X.env.scope s'=bD):L2.PS X s' (IB C (Oo (.JN i)) (exec Γ (.JN i))):=by
 have⟨y,p,v,m,rfl,c⟩:=mZ h;have⟨as,p2,n,rfl,b⟩:=mW c;simp only[b7,é,ux]at b;obtain⟨⟨⟨rfl,e⟩,f⟩,g⟩:=b;have⟨cl,o,q,K,M,F,k,l⟩:=G.gd.IZ.sh.ex;show D4 K G.gd.K (λj a=>by have a:cL (j≠i)=bD:=a;simpa using a) G.nd e (lB f) (.inl (G.fn _)) M F (G.gd.room.mono G.gd.IZ.lv) (dy g) l k
def Bs(G:Gs ck Γ C d X)(h:yu ck (.Mp y f m i c) X.N X.env.scope s'=bD):L2.PS X s' (IB C (Oo (.Mp y f m i c)) (exec Γ (.Mp y f m i c))):=by
 have⟨b,hd,p,rfl,e⟩:=rT h;have⟨t0,g,Xo,rfl,j⟩:=rY e;have⟨v,p4,rfl,k⟩:=c9 j;have⟨y',p6,v2,UW,rfl,l⟩:=mZ k;clear h e j k;simp only[b7,é]at l;obtain⟨⟨⟨⟨⟨⟨⟨q,r⟩,b1⟩,g⟩,b3⟩,s⟩,A⟩,B⟩:=l;have⟨p5,rfl⟩:=mV q;have⟨tk,p8,rfl⟩:=vv r;have⟨o,D,apos,as,H,rfl,t⟩:=aW s;have⟨I,px,rfl,u⟩:=ai t;simp only[b7,é,ux]at u;obtain⟨⟨⟨⟨⟨rfl,rfl⟩,J⟩,⟨L,O⟩,Q⟩,T⟩,Y⟩:=u;clear q r s t;obtain⟨np,fa,fd,ps,q1,_,q3,q2,q4,q5⟩:=(G.gd.IZ.o _ J).ex;obtain⟨cl,_,_,K,_⟩:=G.gd.IZ.sh.ex;have⟨Cc,Cd,r1,r2,z,r4⟩:=G.xs.xd _ b1;rw[r1]at z;cases z;have⟨w1,w2,w3,w4⟩:=ei T;have ht:=tL (x:=I) (y:=D) (px:=px) (apos:=apos) (pos:=H) (env:=X.env) (as:=[]) rfl Y;show FV (λn a=>by have a:cL (n≠y)=bD:=a;simpa using a) G.nd A (lB B) (G.fn _) K G.gd.P G.gd.w G.gd.K w1 w2 w3 w4 rfl q5 q1 G.gd.room (q2 L cl K.hc) q4 ⟨O,Q⟩ ht G.sk (dy g) r1 (aA b3).1 r2 r4
mutual
theorem Hr:∀(s:S) (X:Cx) (s':Le),Gs ck Γ C d X->yu ck s X.N X.env.scope s'=bD->L2.PS X s' (IB C (Oo s) (exec Γ s))
 |.set i e,X,s',G,h=>by
  have⟨t,v,p1,rfl,g⟩:=cI h;have⟨x,p,rfl,k⟩:=vp g;clear h g;have h:=k;simp only[b7,é]at h;obtain⟨⟨⟨⟨⟨l,r⟩,J⟩,A⟩,L⟩,O⟩:=h;have IU:∀j,Oo (.set i e) j=bD->j≠i:=λj T=>ð (show cL (j≠i)=bD from T);by_cases hc:dG v=bD
  .show B8 IU G.nd l (lB r) (.inl (G.fn x)) (bC e X v G.gd A) (iR hc)
  .cases e with
   |comp n t ik src cond e =>
    obtain⟨elt,tg,ab,ag,scope,p3,rfl,_⟩:=jl A;show Eh G l r A _ IU
   |_=>show absurd O hc
 |.Mm is e,X,s',G,h=>by
  have⟨t,v,p1,rfl,g⟩:=cI h;have⟨es,kk,p,rfl,k⟩:=lu g;clear h g;have h:=k;simp only[b7]at h;obtain⟨⟨⟨l,r⟩,J⟩,A⟩:=h;show DX (λj T=>ð (show cL (j∉is)=bD from T)) (bC e X v G.gd A) (tR (fa:=λ_=>bD) G.gd.calm G.gd.K G.nd (λx _=>G.fn x) l) (oF r) ?_ rfl;cases v<;>first|rfl|cases J
 |.put i a b,X,s',G,h=>by
  have⟨t,v,p,rfl,g⟩:=cI h;have⟨o,a',p1,rfl,k⟩:=c8 g;have⟨x,px,rfl,B⟩:=ai k;simp only[b7,é]at B;obtain⟨⟨⟨⟨⟨⟨l,r⟩,J⟩,A⟩,L⟩,O⟩,h7⟩:=B;have⟨Y,q2⟩:=aA J;show FP G.gd.P G.gd.w G.gd.K G.gd.u l (bU r) Y q2 (bC b X _ G.gd h7) (bC a X _ G.gd O) (oF A) rfl (tV L)
 |.Kv _,X,s',G,h=>by cases h
 |.JN i,X,s',G,h=>yw G h
 |.KJ i e,X,s',G,h=>by
  have⟨t,v,p1,rfl,g⟩:=cI h;have⟨o,m,q,rfl,k⟩:=bK g;have⟨x,px,rfl,B⟩:=ai k;have⟨y,py,rfl,z4⟩:=ai B;simp only[b7,é]at z4;obtain⟨⟨rfl,l⟩,r⟩:=z4;have⟨w1,w2,w3,w4⟩:=ei l;obtain⟨cl,_,_,K,_⟩:=G.gd.IZ.sh.ex;show D1 K G.gd.K w1 w2 w3 w4 (bC e X _ G.gd r) rfl
 |.KN i,X,s',G,h=>by
  have⟨c,p0,rfl,g⟩:=c9 h;have⟨o,m,apos,as,G',rfl,k⟩:=aW g;have⟨o1,m1,Y,rfl,B⟩:=bK k;have⟨x,px,rfl,z4⟩:=ai B;have⟨a,rfl,z5⟩:=aK z4;have⟨o2,m2,q2,rfl,z6⟩:=bK z5;have⟨x2,Ym,rfl,z7⟩:=ai z6;simp only[b7,é]at z7;obtain⟨⟨⟨⟨⟨rfl,rfl⟩,rfl⟩,rfl⟩,l⟩,r⟩:=z7;have⟨w1,w2,w3,w4⟩:=ei r;obtain⟨cl,_,_,K,_⟩:=G.gd.IZ.sh.ex;show D2 K G.gd.K w1 w2 w3 w4 l
 |.Mp y f m i c,X,s',G,h=>Bs G h
 |.app i e,X,s',G,h=>by
  have⟨c,p0,rfl,g⟩:=c9 h;have⟨o,m,apos,as,G',rfl,k⟩:=aW g;have⟨x,px,rfl,B⟩:=ai k;have⟨a,rfl,z4⟩:=aK B;simp only[b7,é]at z4;obtain⟨⟨⟨⟨⟨⟨rfl,l⟩,r⟩,J⟩,A⟩,L⟩,O⟩:=z4;have⟨Y,q2⟩:=aA J;have st:=bc (env:=X.env) (es:=[]) L;have sa:=(aS (pos:=G') (env:=X.env) (es:=[a]) λe he=>by simp at he;subst he;show L).2;show FN G.gd.K l (bU r) Y q2 (bC e X _ G.gd O) ?_ A st;rw[sa];rfl
 |.ext i e,X,s',G,h=>by
  have⟨c,p0,rfl,g⟩:=c9 h;have⟨o,m,apos,as,G',rfl,k⟩:=aW g;have⟨x,px,rfl,B⟩:=ai k;have⟨a,rfl,z4⟩:=aK B;simp only[b7,é]at z4;obtain⟨⟨⟨⟨⟨⟨rfl,l⟩,r⟩,J⟩,A⟩,L⟩,O⟩:=z4;have⟨Y,q2⟩:=aA J;have st:=bc (env:=X.env) (es:=[]) L;have sa:=(aS (pos:=G') (env:=X.env) (es:=[a]) λe he=>by simp at he;subst he;show L).2;show FO G.gd.K l (bU r) Y q2 (bC e X _ G.gd O) ?_ A st;rw[sa];rfl
 |.bad,X,s',G,h=>λac sh σ H D I ⟨_,_,_,_,w⟩=>(a9.mp w).elim
 |.newD i,X,s',G,h=>by
  have⟨t,v,p1,rfl,g⟩:=cI h;have⟨x,p,rfl,k⟩:=ai g;clear h g;have h:=k;simp only[b7,é]at h;have⟨p2,rfl⟩:=mU h.1.1;show DY (λj T=>ð (show cL (j≠i)=bD from T)) G.nd h.1.2 (lB h.2) (.inl (G.fn _)) (iR rfl)
 |.putD i a b,X,s',G,h=>by
  have⟨t,v,p,rfl,g⟩:=cI h;have⟨o,a',p1,rfl,k⟩:=c8 g;have⟨x,px,rfl,B⟩:=ai k;simp only[b7,é]at B;obtain⟨⟨⟨⟨⟨⟨l,r⟩,J⟩,A⟩,L⟩,O⟩,h7⟩:=B;have⟨Y,q2⟩:=aA J;show DZ G.gd.u l (bU r) Y q2 (bC b X _ G.gd h7) (bC a X _ G.gd O) (oF A) rfl (tV L)
 |.J5 i a e,X,s',G,h=>by
  have⟨c,p0,rfl,g⟩:=c9 h;have⟨o,m,apos,as,G',rfl,k⟩:=aW g;have⟨o',a',p1,rfl,B⟩:=c8 k;have⟨x,px,rfl,z4⟩:=ai B;have⟨b,rfl,z5⟩:=aK z4;simp only[b7,é]at z5;obtain⟨⟨⟨⟨⟨⟨⟨⟨⟨rfl,l⟩,r⟩,J⟩,A⟩,L⟩,O⟩,h7⟩,h8⟩,h9⟩:=z5;have ha:=F_ (C:=C) (Γ:=Γ) (d:=d) (ck:=ck) G.gd h9 h8;have⟨Y,q2⟩:=aA J;have st:=bc (env:=X.env) (es:=[]) O;have sa:=(aS (pos:=G') (env:=X.env) (es:=[b]) λe he=>by simp at he;subst he;show O).2;show D0 G.gd.K G.gd.u l (bU r) Y q2 ha (bC a X _ G.gd h7) (qa A) ?_ L st;rw[sa];rfl
 |.aug sub i a e,X,s',G,h=>by
  have⟨t,op,b,p,rfl,Q⟩:=rV h;clear h;have h:=Q;have⟨o,a',p1,rfl,g⟩:=c8 h;have⟨x,px,rfl,k⟩:=ai g;simp only[b7,é]at k;obtain⟨⟨⟨⟨⟨⟨⟨rfl,l⟩,r⟩,J⟩,A⟩,L⟩,O⟩,h7⟩:=k;have ha:=F_ (C:=C) (Γ:=Γ) (d:=d) (ck:=ck) G.gd h7 O;have⟨Y,q2⟩:=aA J;show FR l (bU r) Y q2 ha (bC a X _ G.gd L) (Bq A)
 |.Qv i,X,s',G,h=>absurd (show cb=bD from h) ko
 |.exp e,X,s',G,h=>by
  have⟨e',p,rfl,Q⟩:=c9 h;clear h;have h:=Q;simp only[b7]at h;show FH (bC e X _ G.gd h.2) (iR h.1)
 |.ret e,X,s',G,h=>by
  have⟨v,p,rfl,Q⟩:=lA h;have⟨e',rfl,g⟩:=vq Q;clear h Q;have h:=g;show FI (bC e X _ G.gd h)
 |.Mn,X,s',G,h=>by
  have⟨v,p,rfl,Q⟩:=lA h;cases v with
  |none=>show DV
  |some _=>cases Q
 |.ite c a b,X,s',G,h=>by
  have⟨c',a',b',p,rfl,Q⟩:=rW h;clear h;have h:=Q;simp only[b7]at h;have ha:=jM a X _ G h.1.2;have hb:=jM b X _ G h.2;show FJ (oE c X _ G.gd h.1.1) (Je.weak ha λD σ H z=>oy (λj T=>(vu.mp (show(Ji a j&&Ji b j)=bD from T)).1) z) (Je.weak hb λD σ H z=>oy (λj T=>(vu.mp (show(Ji a j&&Ji b j)=bD from T)).2) z)
 |.Ij t is ik src body,X,s',G,h=>by
  have⟨tg,ab,J6,p,rfl,Q⟩:=rX h;clear h;have h:=Q;rw[b7,b7,b7]at h;show FL G.po G.gd.calm (tW G.gd h.1.2) (tR (fa:=λ_=>bD) G.gd.calm G.gd.K G.nd (λx _=>G.fn x) h.1.1.1) (jM body X _ G h.2) (rR h.1.1.2) λj T=>by have T:(cL (j∉is)&&Ji body j)=bD:=T;simpa using T
 |.MV c body,X,s',G,h=>by
  have⟨c',J6,p,rfl,Q⟩:=vt h;clear h;have h:=Q;simp only[b7]at h;show FK G.po (oE c X _ G.gd h.1) (jM body X _ G h.2)
 |.brk,X,s',G,h=>absurd (show cb=bD from h) ko
 |.cnt,X,s',G,h=>absurd (show cb=bD from h) ko
 |.Nq is,X,s',G,h=>absurd (show cb=bD from h) ko
 |.Mo c e,X,s',G,h=>Br G h
 |.Qw,X,s',G,h=>absurd (show cb=bD from h) ko
theorem jM:∀(ss:List S) (X:Cx) (a:List Le),Gs ck Γ C d X->dz ck ss X.N X.env.scope a=bD->Je X a (IB C (Ji ss) (execs Γ ss))
 |[],X,a,G,h=>by
  cases a with
  |nil=>show FG
  |cons _ _=>simp[dz]at h
 |s::ss,X,a,G,h=>by
  cases a with
  |nil=>simp[dz]at h
  |cons s' a =>
   simp only[dz,b7]at h;have c:=Hr s X s' G h.1;have e:=jM ss X a G h.2;show DU (PS.weak c λD σ H z=>oy (λj b=>by simp only[Ji,b7]at b;show b.1) z) (Je.weak e λD σ H z=>oy (λj b=>by simp only[Ji,b7]at b;show b.2) z)
end
end
section
variable{ck:Ck}{Γ:Tab}{d:Nat}{P:va}{w:w6}{K:PySem.W.Frag}{mg:Str->Option dV}{base:Kq}
def jm{n i:Nat}(h:(start us n)[i]?=a5 (a5 (k,u))):us[i]?=a5 u/\k=if HQ u=bD then .loc else .any:=by
 unfold start at h;by_cases hi:i<us.length
 .rw[nc (by simpa using hi),pa]at h;rw[JU hi]at h ⊢;simp only[Rw,Qz,VH]at h;have⟨a,b⟩:=h;subst b;show⟨rfl,a.symm⟩
 .rw[mu (by simp;lia),Hf]at h;split at h<;>cases h
def aI{i:Nat}(h:vs[i]?=a5 v):(L2.start N vs)[i]?=a5 (a5 v):=by
 unfold L2.start;have hi:i<vs.length:=(dt.mp h).1;rw[nc (by simpa using hi),pa,h];rfl
def yx(m:∀a,c a->Jh H a)(h:ar ⟨P,w,K,H,c,λ_=>False,p⟩ c H us vs)(q:N.length=n):Ok ⟨P,w,K,H,c,λ_=>False,p⟩ ⟨λ_=>False,H,L2.start N vs,start us n,λ_=>[]⟩:=by
 have f:∀(j:Nat) (u:U),(start us n)[j]?≠a5 (a5 (.A',u)):=λj u e=>by
  have:=(jm e).2;split at this<;>cases this
 show⟨λa o e _=>e,λa z=>z.elim,λa z=>⟨m a z,λz=>z⟩,λa z=>z.elim,?_,λi k u e=>?_,λi j k k' u u' r hk t e1 l x y=>?_,⟨λj u r e _=>(f j u e).elim,λi j a ⟨u,_,e,_⟩=>(f i u e).elim,λj a ⟨u,_,e,_⟩=>(f j u e).elim⟩⟩
 .have:=h.len;simp[start,L2.start,q];lia
 .have⟨e1,l⟩:=jm e;have⟨v,ev,b⟩:=h.get e1;show⟨v,aI ev,?_⟩;subst l;by_cases g:HQ u=bD
  .rw[ê g];show Rep.HQ g b
  .rw[ë g];show Rep.mv (.up λa z=>.inl z) b
 .obtain⟨_,s⟩:=jm e1;subst s;split at hk<;>cases hk
def oG(h:bS Γ fn us=a5 (.ok (k,u))):us.length=fn.np/\((k=.own\/k=.loc\/k=.any)/\(∃st',execs Γ fn.body (start us fn.ns)=a5 (.ok (.rt k u),st'))\/(k=.loc/\u=.HD/\∃st',execs Γ fn.body (start us fn.ns)=a5 (.ok .nx,st'))):=by
 unfold bS at h;split at h
 .rename_i hl;show⟨hl,?_⟩;split at h
  .rename_i e;cases h;show .inl ⟨.inl rfl,_,e⟩
  .rename_i e;cases h;show .inl ⟨.inr (.inl rfl),_,e⟩
  .rename_i e;cases h;show .inl ⟨.inr (.inr rfl),_,e⟩
  .rename_i e;cases h;show .inr ⟨rfl,rfl,_,e⟩
  .cases h
  .cases h
 .cases h
def qb(h:bS Γ fn us=a5 (.exc c)):us.length=fn.np/\∃st',execs Γ fn.body (start us fn.ns)=a5 (.ok (.rt .io (.str c)),st'):=by
 unfold bS at h;split at h
 .rename_i hl;show⟨hl,?_⟩;split at h
  .cases h
  .cases h
  .cases h
  .cases h
  .rename_i e;cases h;show⟨_,e⟩
  .cases h
 .cases h
def Cg{st:Le}(F:LQ K fn.name i st f fd)(S:dc N ps (ax st))(hN:N.length=fn.ns)(JP:ps.length=fn.np)
  (LD:dz ck fn.body N (ax st) (bW st)=bD) (t:∀x∈bO,mg x=b6) (y:∀g∈ck.fns,yh P w K mg base d (Γ g) g)
  (J8:∀p∈ck.gl,∃val v,mg p.1=a5 val/\RelV v val/\∀(C:Ct) S H,Rep C S H p.2 v) (IZ:PK ck Γ P w K mg base d) (xs:NR ck K mg):dN P w K mg base (J3 P w) (d+1) f fd ps (spT P w K (bS Γ fn) fn.np):=by
 have⟨oc,od,kV,ab,pm,an,J,ct,MH,rfl,lk,HN⟩:=F.ex;show sI lk HN S (λvs H Q E h=>h.1.trans JP.symm) λA outer s H vs Q E L h=>?_;have⟨hl,us,r,q,O,Xx,B,b⟩:=h;have Nv:=L.un;let l:Ct:=⟨P,w,K,H,q,λ_=>False,λu H'=>∃c,u=.str c/\∀j,PySem.W.nsIn K mN c=a5 (a5 (.ref j))->E (.ref j) b6 H'⟩
 have D:(Nw P w K H q).Eqv l:=⟨rfl,rfl,rfl⟩
 have m:l.Eqv (Nw P w K H q):=⟨rfl,rfl,rfl⟩
 have G:Gs ck Γ l d (nK (J3 P w) P w K mg base N i (ax st) f J A outer s H E) :=
  ⟨⟨rfl,rfl,rfl,by change(A.deeper (RM i (ax st) s.heap.objs.size f J)).units+60<KA;lia,rfl,L,t,y,λp hp=>let ⟨val,v,D,m,q3⟩:=J8 p hp;⟨val,v,D,m,q3 _⟩,IZ⟩,S.nd,λ_=>rfl,Si,S.kind,xs,
   λc H' ⟨c',e1,hE⟩ j T H2 Y σ s2 e s' hm I F=>by
    cases e1;show F.leave I.ok.frames rfl I.stack I.fW λT' JV F'=>⟨e,j,T',H',rfl,F'.down I rfl rfl rfl,hE j hm⟩,rfl,rfl⟩
 show⟨_,jM fn.body _ _ G LD,⟨λ_=>False,H,L2.start N vs,start us fn.ns,λ_=>[]⟩,rfl,rfl,yx Xx (B.cg D) hN,?_⟩;cases r with
 |exc c =>
  obtain⟨_,st',e⟩:=qb O;show⟨_,st',e,λcf ec ok n kp=>⟨c,rfl,λj hC=>b j cf.H hC λa o z=>ok.same a o z λz=>z⟩⟩
 |ok x =>
 have⟨k,u⟩:=x;have⟨hk,b⟩:=b;obtain⟨_,Tt⟩:=oG O;have mk:∀(c:Cf),Ok l c->∀v,xJ l c k u v->Back (Nw P w K H q) H c.H c.S k u v:=λc ok v r=>by
  show⟨λa o e=>ok.same a o e λz=>z,λa z=>ok.JC a z,λe=>?_,λe=>?_,λe=>?_⟩
  .subst e;have⟨r0,e,h1,h2,h3,h4⟩:=r;show⟨r0,e,h1,h2,h4.cg m⟩
  .subst e;show Rep.cg m r
  .subst e;show Rep.cg m r
 rcases Tt with⟨_,st',e⟩|⟨rfl,rfl,st',e⟩
 .rcases hk with rfl|rfl|rfl<;>show⟨_,st',e,λc ec ok n kp v r=>b v c.H c.S (mk c ok v r)⟩
 .show⟨_,st',e,λc ec ok n kp=>b .HD c.H c.S (mk c ok .HD rfl)⟩
def fc(h:(a_ p us n)[i]?=a5 (a5 (k,u))):us[i]?=a5 u/\k=if i=p then .A' else if HQ u=bD then .loc else .any:=by
 unfold a_ at h;by_cases hi:i<us.length
 .rw[nc (by simpa using hi),pa,Qj]at h;rw[JU hi]at h ⊢;simp only[Rw,Qz,VH,RN]at h;have⟨a,b⟩:=h;subst b;show⟨rfl,a.symm⟩
 .rw[mu (by simp;lia),Hf]at h;split at h<;>cases h
def aO.QO{S:gi->Prop}(q:C.Eqv b)(f:∀x,b.Jo x->C.Jo x)(g:C.H₀=b.H₀)(i:∀x,C.IO x->b.IO x)(h:aO C S H r as (.ob u us)):aO b S H r as (.ob u us):=by
 have⟨cl,j,v,a,vs,e,o⟩:=h;show⟨cl,j,v,a,vs,e,by rw[Kt,<-q.K];show o.hc,o.ins,o.ne,λx c=>⟨(o.fr x c).1,λz=>(o.fr x c).2.1 (f x z),(o.fr x c).2.2.imp (λz=>by rw[<-g];show z) (i x)⟩,o.im,o.rep.cg q,o.lst,o.LX,o.Jb.cg q⟩
def vA(q:f.Eqv C)(h:f.Jo=C.Jo)(A:f.H₀=C.H₀)(l:f.IO=C.IO)(a:D3 f C.H₀ p r b us vs)(B:N.length=n):Ok C ⟨λ_=>False,C.H₀,L2.start N vs,a_ p us n,λ_=>[b]⟩:=by
 have rt:∀(j:Nat) (k:Kd) (u:U),k.root=bD->(a_ p us n)[j]?≠a5 (a5 (k,u)):=λj k u hk e=>by
  have:=(fc e).2;subst this;split at hk
  .cases hk
  .split at hk<;>cases hk
 have m:∀(j:Nat) (u:U),(a_ p us n)[j]?=a5 (a5 (.A',u))->j=p:=λj u e=>by
  have:=(fc e).2;by_cases z:j=p
  .show z
  .rw[ë z]at this;split at this<;>cases this
 show⟨λa o e _=>e,λa z=>z.elim,λx z=>by have:=a.par x (h▸z);show⟨this.1,l▸this.2⟩,λx z=>?_,?_,λi k u e=>?_,λi j k k' u u' r hk L e1 c O Q=>(rt i k u hk e1).elim,⟨λj u D e c=>?_,λi j x ⟨u,_,e,_⟩ ⟨u',_,G,_⟩=>(m i u e).trans (m j u' G).symm,λj x _ ⟨i,k,u,hk,e,_⟩=>rt i k u hk e⟩⟩
 .have H:=(a.NI x).mp (l▸z);obtain⟨u,ws,_,s⟩:=a.ob;obtain⟨o,ho,_⟩:=aO.there s x (by simpa using H);show⟨⟨o,ho⟩,o,ho⟩
 .have:=a.len;simp[a_,L2.start,B];lia
 .have⟨e1,c⟩:=fc e;by_cases z:i=p
  .rw[ê z]at c;subst c z;show⟨_,aI a.at_,r,rfl⟩
  .rw[ë z]at c;have⟨v,b1,g⟩:=a.any i u z e1;have g:=g.cg q;show⟨v,aI b1,?_⟩;subst c;by_cases t:HQ u=bD
   .rw[ê t];show Rep.HQ t g
   .rw[ë t];show Rep.mv (.up λa z=>.inl (h▸z)) g
 .have I:=m j u e;subst I;have y:(L2.start N vs)[j]?=a5 (a5 (.ref D)):=c;rw[aI a.at_]at y;cases y;have⟨w,ws,J,s⟩:=a.ob;have:=(fc e).1;rw[J]at this;cases this;show s.QO q (λx z=>h▸z) A λx z=>l▸z
def tX(h:eJ Γ fn p body us=a5 (.ok r)):us.length=fn.np/\∃f st k u o,execs Γ body (a_ p us fn.ns)=a5 (.ok f,st)/\Pj f=a5 (k,u)/\Lw p st=a5 o/\r=(k,.tup [u,o]):=by
 unfold eJ at h;split at h
 .rename_i hl;show⟨hl.1,?_⟩;split at h
  .rename_i f st e;cases a:Pj f with
   |none=>rw[a]at h;cases h
   |some c =>
    cases b:Lw p st with
    |none=>rw[a,b]at h;cases h
    |some o =>
     rw[a,b]at h;cases h;show⟨f,st,c.1,c.2,o,e,a,b,rfl⟩
  .cases h
 .cases h
def Ei{st:Le}(F:LQ K x i st f fd)(S:dc N ps (ax st))(hN:N.length=fn.ns)(JP:ps.length=fn.np)(IU:Ji body p=bD)
  (LD:dz ck body N (ax st) (bW st)=bD) (ab:∀x∈bO,mg x=b6) (ac:∀g∈ck.fns,yh P w K mg base d (Γ g) g)
  (J8:∀p∈ck.gl,∃val v,mg p.1=a5 val/\RelV v val/\∀(C:Ct) S H,Rep C S H p.2 v) (IZ:PK ck Γ P w K mg base d) (xs:NR ck K mg):dN P w K mg base (J3 P w) (d+1) f fd ps (Mx P w K (eJ Γ fn p body) fn.np p):=by
 have⟨oc,od,kV,al,pm,an,IL,ct,MH,rfl,lk,HN⟩:=F.ex;show sI lk HN S (λvs H Q E h=>h.1.trans JP.symm) λA outer s H vs Q E hr h=>?_;have⟨hl,us,k,u,o,B,IO,r,a,HZ,D,b⟩:=h;have Nv:=hr.un;let l:Ct:=⟨P,w,K,H,B,IO,λu H'=>∃c,u=.str c/\∀m,PySem.W.nsIn K mN c=a5 (a5 (.ref m))->E (.ref m) b6 H'⟩
 have q1:(Ky P w K H B IO).Eqv l:=⟨rfl,rfl,rfl⟩
 have J:l.Eqv (Ky P w K H B IO):=⟨rfl,rfl,rfl⟩
 have G:Gs ck Γ l d (nK (J3 P w) P w K mg base N i (ax st) f IL A outer s H E) :=
  ⟨⟨rfl,rfl,rfl,by change(A.deeper (RM i (ax st) s.heap.objs.size f IL)).units+60<KA;lia,rfl,hr,ab,ac,λp hp=>let ⟨val,v,q1,J,q3⟩:=J8 p hp;⟨val,v,q1,J,q3 _⟩,IZ⟩,S.nd,λ_=>rfl,Si,S.kind,xs,
   λc H' ⟨c',e1,hE⟩ m T H2 ag σ s2 e s' hm I F=>by
    cases e1;show F.leave I.ok.frames rfl I.stack I.fW λT' JV F'=>⟨e,m,T',H',rfl,F'.down I rfl rfl rfl,hE m hm⟩,rfl,rfl⟩
 show⟨_,jM body _ _ G LD,⟨λ_=>False,H,L2.start N vs,a_ p us fn.ns,λ_=>[a]⟩,rfl,rfl,vA (C:=l) q1 rfl rfl rfl D hN,?_⟩;obtain⟨_,L,st',k',u',o',e,e1,O,e3⟩:=tX HZ;cases e3;have t:∀(c:Cf),c.st=st'->Ok l c->Kept (Ji body) ⟨λ_=>False,H,L2.start N vs,a_ p us fn.ns,λ_=>[a]⟩ c->∀(k:Kd) (u:U) v,(k=.own->xJ l c .own u v)->(k=.loc->xJ l c .loc u v)->p9 (Ky P w K H B IO) H c.H c.S r o k u v:=λc ec j kp k u v r1 r2=>by
  unfold Lw at O;split at O
  rotate_left
  .cases O
  rename_i uw ws Y;cases O;rw[<-ec]at Y;have⟨v0,y1,r',y2⟩:=j.sl p _ _ Y;subst y2;have M1:=y1;rw[kp.1 p IU,show(L2.start N vs)[p]?=a5 (a5 (.ref r)) from aI D.at_]at M1;cases M1;have rd:=j.dd.kd p _ _ Y y1;have⟨cl,dx,v1,a',Kj,ea,ob⟩:=rd;have Tu:aO (Ky P w K H B IO) c.S c.H r [a'] (.ob uw ws):=aO.QO J (λx z=>z) rfl (λx z=>z) ⟨cl,dx,v1,a',Kj,rfl,ob⟩;show⟨λx y z1 z2=>j.same x y z1 z2,λx y z1=>?_,λx z=>j.JC x z,⟨a',((ob.fr a' (by simp)).2.2).symm,Tu,λhk=>?_⟩,λhk=>?_,λhk=>?_⟩
  .by_cases z:IO x
   .show(j.io x z).2
   .show⟨y,j.same x y z1 z⟩
  .obtain⟨q,rfl,_,_,h3,_⟩:=r1 hk;intro z;cases z;show h3 (.inr ⟨p,_,r,Y,y1,.inr (by rw[ea];simp)⟩)
  .obtain⟨q,rfl,h1,h2,_,h4⟩:=r1 hk;show⟨q,rfl,h1,h2,h4.cg J⟩
  .show Rep.cg J (r2 hk)
 show⟨L,st',e,λc ec j n kp=>?_⟩;have t:=t c ec j kp;rcases b with⟨hk,b⟩|⟨rfl,c',rfl,b⟩
 .cases L with
  |nx=>cases e1;show b .HD c.H c.S (t .loc .HD .HD (λz=>by cases z) λ_=>rfl)
  |rt k0 u0 =>
   cases k0 with
   |own=>cases e1;show λv r=>b v c.H c.S (t .own _ v (λ_=>r) λz=>by cases z)
   |loc=>cases e1;show λv r=>b v c.H c.S (t .loc _ v (λz=>by cases z) λ_=>r)
   |io =>
    cases u0 with
    |str x=>cases e1;rcases hk with z|z<;>cases z
    |_=>cases e1
   |any=>cases e1
   |bor _=>cases e1
   |A'=>cases e1
  |_=>cases e1
 .have z:Fl.rt .io (.str c')=L:=by
   cases L with
   |rt k0 u0 =>
    cases k0 with
    |io =>
     cases u0 with
     |str x=>cases e1;rfl
     |_=>cases e1
    |own=>cases e1
    |loc=>cases e1
    |any=>cases e1
    |bor _=>cases e1
    |A'=>cases e1
   |_=>cases e1
  subst z;show⟨c',rfl,λm hC=>b m c.H c.S hC (t .io .HD .HD (λz=>by cases z) λz=>by cases z)⟩
def fe(h:(bT is us n)[i]?=a5 (a5 (k,u))):us[i]?=a5 u/\k=if i=0 then .A' else if i∈is then .io else if HQ u=bD then .loc else .any:=by
 unfold bT at h;by_cases hi:i<us.length
 .rw[nc (by simpa using hi),pa,Qj]at h;rw[JU hi]at h ⊢;simp only[Rw,Qz,VH,RN]at h;have⟨a,b⟩:=h;subst b;show⟨rfl,a.symm⟩
 .rw[mu (by simp;lia),Hf]at h;split at h<;>cases h
def Bt(z:a x):j6 H a x=b6:=by
 unfold j6;rw[ê z]
def vB(q:h.Eqv C)(O:h.Jo=C.Jo)(h2:h.H₀=C.H₀)(B:h.IO=C.IO)(Q:C.H₀=j6 H T)(a:D5 h H T 0 r b is us vs)(hn:N.length=n):
  Ok C ⟨T,H,L2.start N vs,bT is us n,λ_=>[b]⟩/\∀x,(⟨T,H,L2.start N vs,bT is us n,λ_=>[b]⟩:Cf).R x->h.IO x:=by
 have rt:∀(j:Nat) (k:Kd) (u:U),k.root=bD->(bT is us n)[j]?=a5 (a5 (k,u))->j∈is/\us[j]?=a5 u/\k=.io:=λj k u hk e=>by
  have⟨e1,c⟩:=fe e;by_cases z:j=0
  .rw[ê z]at c;subst c;cases hk
  .rw[ë z]at c;by_cases y:j∈is
   .rw[ê y]at c;show⟨y,e1,c⟩
   .rw[ë y]at c;subst c;split at hk<;>cases hk
 have D:∀(j:Nat) (u:U),(bT is us n)[j]?=a5 (a5 (.A',u))->j=0:=λj u e=>by
  have:=(fe e).2;by_cases z:j=0
  .show z
  .rw[ë z]at this;split at this
   .cases this
   .split at this<;>cases this
 have⟨w,ws,g1,rd⟩:=a.ob;have dm:∀x,h.IO x->∃o,H x=a5 o:=λx z=>by
  rcases(a.NI x).mp z with z|z|⟨m,hm,e⟩
  .obtain⟨o,ho,_⟩:=aO.there rd x (by rw[z];simp);show⟨o,ho⟩
  .obtain⟨o,ho,_⟩:=aO.there rd x (by rw[z];simp);show⟨o,ho⟩
  .have hl:m<us.length:=by rw[a.len];show(dt.mp e).1
   obtain⟨y,t,_,_,Y⟩:=a.io m _ hm (JU hl);rw[e]at t;cases t;obtain⟨o,ho,_⟩:=Y.some;show⟨o,ho⟩
 have U5:∀x,h.IO x->¬T x:=λx z z'=>(a.oc x z').2 z;show⟨⟨λx o e _=>(vm (Q▸e)).1,λx z=>⟨by rw[Q];show Bt z,(a.oc x z).1⟩,λx z=>?_,λx z=>?_,?_,λi k u e=>?_,λi j k k' u u' q hk IC e1 c l p=>?_,⟨λj u G e c=>?_,λi j x ⟨u,_,e,_⟩ ⟨u',_,e',_⟩=>(D i u e).trans (D j u' e').symm,λj x ⟨u,G,e,c,l⟩ ⟨m,k,u',hk,p,f⟩=>?_⟩⟩,λx z=>?_⟩
 .obtain⟨⟨o,ho⟩,t,Y⟩:=a.par x (O▸z);show⟨⟨o,by rw[Q];show tM ho Y⟩,B▸t⟩
 .have⟨o,ho⟩:=dm x (B▸z);show⟨⟨o,by rw[Q];show tM ho (U5 x (B▸z))⟩,o,ho⟩
 .have:=a.len;simp[bT,L2.start,hn];lia
 .have⟨e1,c⟩:=fe e;by_cases z:i=0
  .rw[ê z]at c;subst c z;show⟨_,aI a.at_,r,rfl⟩
  .rw[ë z]at c;by_cases y:i∈is
   .rw[ê y]at c;subst c;have⟨I,t,Y,y3,y4⟩:=a.io i u y e1;have hq:h.IO I:=(a.NI I).mpr (.inr (.inr ⟨i,y,t⟩));show⟨_,aI t,I,rfl,U5 I hq,λz=>(a.par I (O▸z)).2.1 hq,B▸hq,y4.cg q⟩
   .rw[ë y]at c;have⟨v,b1,g⟩:=a.any i u z y e1;have g:=g.cg q;show⟨v,aI b1,?_⟩;subst c;by_cases hu:HQ u=bD
    .rw[ê hu];show Rep.HQ hu g
    .rw[ë hu];show Rep.mv (.up λa z=>z.imp (λz=>O▸z) id) g
 .obtain⟨A,J,_⟩:=rt i k u hk e1;obtain⟨j1,j2,_⟩:=rt j k' u' IC c;obtain⟨q1,b1,_⟩:=a.io i u A J;obtain⟨q2,g,_⟩:=a.io j u' j1 j2;have l:(L2.start N vs)[i]?=a5 (a5 (.ref q)):=l;have p:(L2.start N vs)[j]?=a5 (a5 (.ref q)):=p;rw[aI b1]at l;rw[aI g]at p;cases l;cases p;show a.inj i j _ A j1 b1 g
 .have L:=D j u e;subst L;have s:(L2.start N vs)[0]?=a5 (a5 (.ref G)):=c;rw[aI a.at_]at s;cases s;have:=(fe e).1;rw[g1]at this;cases this;show rd.QO q (λx z=>O▸z) h2 λx z=>B▸z
 .have L:=D j u e;subst L;have s:(L2.start N vs)[0]?=a5 (a5 (.ref G)):=c;rw[aI a.at_]at s;cases s;obtain⟨A,J,_⟩:=rt m k u' hk p;obtain⟨q1,b1,g,b3,_⟩:=a.io m u' A J;have f:(L2.start N vs)[m]?=a5 (a5 (.ref x)):=f;rw[aI b1]at f;cases f;rcases l with z|z
  .show g z
  .show b3 (by simpa using z)
 .rcases z with⟨m,k,u',hk,p,f⟩|⟨j,u,G,e,c,l⟩
  .obtain⟨A,J,_⟩:=rt m k u' hk p;obtain⟨q1,b1,_⟩:=a.io m u' A J;have f:(L2.start N vs)[m]?=a5 (a5 (.ref x)):=f;rw[aI b1]at f;cases f;show(a.NI x).mpr (.inr (.inr ⟨m,A,b1⟩))
  .have L:=D j u e;subst L;have s:(L2.start N vs)[0]?=a5 (a5 (.ref G)):=c;rw[aI a.at_]at s;cases s;show(a.NI x).mpr (l.imp id λz=>.inl (by simpa using z))
theorem tY:∀{is:List Nat}{st:au}{ws:List U},Nu is st=a5 ws->ws.length=is.length/\∀(n i:Nat),is[n]?=a5 i->∃w,ws[n]?=a5 w/\st[i]?=a5 (a5 (.io,w))
 |[],_,_,h=>by cases h;show⟨rfl,λn i e=>by simp at e⟩
 |i::is,st,ws,h=>by
  unfold Nu at h;split at h
  .rename_i u c;rw[hQ]at h;have⟨k,h,rfl⟩:=h;have⟨a,b⟩:=tY h;show⟨by simp[a],λn j e=>?_⟩;cases n with
   |zero=>simp at e;subst e;show⟨u,rfl,c⟩
   |succ n=>have⟨w,f,g⟩:=b n j (by simpa using e);show⟨w,by simpa using f,g⟩
  .cases h
def tZ(h:mj Γ fn is body us=a5 (.ok r)):us.length=fn.np/\∃f st k u o ws,execs Γ body (bT is us fn.ns)=a5 (.ok f,st)/\Qx f=a5 (k,u)/\Lw 0 st=a5 o/\Nu is st=a5 ws/\r=(k,.tup (u::o::ws)):=by
 unfold mj at h;split at h
 .rename_i hl;show⟨hl.1,?_⟩;split at h
  .rename_i f st e;obtain⟨⟨k,u⟩,a,h⟩:=qs.mp h;have⟨o,b,h⟩:=qs.mp h;rw[hQ]at h;have⟨ws,c,g⟩:=h;cases g;show⟨f,st,k,u,o,ws,e,a,b,c,rfl⟩
  .cases h
 .cases h
def Ej{st:Le}(F:LQ K x B st f fd)(S:dc N ps (ax st))(hN:N.length=fn.ns)(JP:ps.length=fn.np)(Tv:Ji body 0=bD)(IU:∀i∈is,Ji body i=bD)
  (LD:dz ck body N (ax st) (bW st)=bD) (ab:∀x∈bO,mg x=b6) (ac:∀g∈ck.fns,yh P w K mg base d (Γ g) g)
  (J8:∀p∈ck.gl,∃val v,mg p.1=a5 val/\RelV v val/\∀(C:Ct) S H,Rep C S H p.2 v) (IZ:PK ck Γ P w K mg base d) (xs:NR ck K mg):dN P w K mg base (J3 P w) (d+1) f fd ps (QL P w K (mj Γ fn is body) fn.np 0 is):=by
 have⟨oc,od,kV,al,pm,an,IL,ct,MH,rfl,lk,HN⟩:=F.ex;show sI lk HN S (λvs H Q E h=>h.1.trans JP.symm) λA outer s H vs Q E hr h=>?_;have⟨hl,us,k,u,o,ws,Pr,IO,j,r,a,HZ,J,b⟩:=h;have Nv:=hr.un;let L:Ct:=⟨P,w,K,j6 H j,Pr,IO,λu H'=>∃c,u=.str c/\∀C',PySem.W.nsIn K mN c=a5 (a5 (.ref C'))->E (.ref C') b6 H'⟩
 have q1:(K' P w K H Pr IO j).Eqv L:=⟨rfl,rfl,rfl⟩
 have Y:L.Eqv (K' P w K H Pr IO j):=⟨rfl,rfl,rfl⟩
 have G:Gs ck Γ L d (nK (J3 P w) P w K mg base N B (ax st) f IL A outer s H E) :=
  ⟨⟨rfl,rfl,rfl,by change(A.deeper (RM B (ax st) s.heap.objs.size f IL)).units+60<KA;lia,rfl,hr,ab,ac,λp hp=>let ⟨val,v,q1,Y,q3⟩:=J8 p hp;⟨val,v,q1,Y,q3 _⟩,IZ⟩,S.nd,λ_=>rfl,Si,S.kind,xs,
   λc H' ⟨c',e1,hE⟩ C' T H2 ag σ s2 e s' hm I F=>by
    cases e1;show F.leave I.ok.frames rfl I.stack I.fW λT' JV F'=>⟨e,C',T',H',rfl,F'.down I rfl rfl rfl,hE C' hm⟩,rfl,rfl⟩
 have⟨Jk,QP⟩:=vB (C:=L) (N:=N) q1 rfl rfl rfl rfl J hN;show⟨_,jM body _ _ G LD,⟨j,H,L2.start N vs,bT is us fn.ns,λ_=>[a]⟩,rfl,rfl,Jk,?_⟩;obtain⟨_,fl,st',k',u',o',MY,e,e1,e2,IA,e3⟩:=tZ HZ;cases e3;have⟨l1,l2⟩:=tY IA;have mk:∀(c:Cf),c.st=st'->Ok L c->Ns ⟨j,H,L2.start N vs,bT is us fn.ns,λ_=>[a]⟩ c->Kept (Ji body) ⟨j,H,L2.start N vs,bT is us fn.ns,λ_=>[a]⟩ c->∀v,xJ L c k u v->(k=.own\/k=.loc)->tN (K' P w K H Pr IO j) H c.H j c.S r a is vs o ws k u v:=λc ec l n kp v rt hk=>by
  have U6:∀(m t:Nat) (y:gi),is[t]?=a5 m->vs[m]?=a5 (.ref y)->∃w,ws[t]?=a5 w/\c.st[m]?=a5 (a5 (.io,w))/\c.σ[m]?=a5 (a5 (.ref y))/\cH L c.S c.H y w:=λm t y g1 g2=>by
   have⟨w',D,O⟩:=l2 t m g1;rw[<-ec]at O;obtain⟨v',y1,r',y2,_,_,_,y3⟩:=l.sl m _ _ O;have M1:=y1;rw[kp.1 m (IU m (pd g1)),show(L2.start N vs)[m]?=a5 (a5 (.ref y)) from aI g2]at M1;cases M1;cases y2;show⟨w',D,O,y1,y3⟩
  unfold Lw at e2;split at e2
  rotate_left
  .cases e2
  rename_i uw Xy HB;cases e2;rw[<-ec]at HB;have⟨v0,y1,r',y2⟩:=l.sl 0 _ _ HB;subst y2;have M1:=y1;rw[kp.1 0 Tv,show(L2.start N vs)[0]?=a5 (a5 (.ref r)) from aI J.at_]at M1;cases M1;have rd:=l.dd.kd 0 _ _ HB y1;have⟨cl,dx,v1,a',Kj,ea,ob⟩:=rd;have Tu:aO (K' P w K H Pr IO j) c.S c.H r [a'] (.ob uw Xy):=aO.QO Y (λx z=>z) rfl (λx z=>z) ⟨cl,dx,v1,a',Kj,rfl,ob⟩;have U7:c.RD 0 a':=⟨_,r,HB,y1,.inr (by rw[ea];simp)⟩
  have nw:∀x,j6 H j x=b6->¬c.S x->H x=b6:=λx z z'=>(mT z).resolve_right λy=>z' (n.sub x y);show⟨λx y D O=>n.keep x y D λz=>O (QP x z),λx y D=>n.there x y D,λx z=>⟨mT (l.JC x z).1,(l.JC x z).2⟩,⟨a',?_,Tu,λhk=>?_⟩,λhk=>?_,λhk=>?_,l1,λt m y w g1 g2 g3=>?_⟩
  .have f:=ob.fr a' (by simp);rcases f.2.2 with z|z
   .show .inr (nw a' z f.1)
   .rcases(J.NI a').mp z with z|z|⟨m,hm,z⟩
    .show absurd z.symm ob.ne
    .show .inl z
    .have⟨t,ht⟩:=Yn hm;obtain⟨w',_,O,z3,_⟩:=U6 m t a' ht z;show absurd ⟨m,.io,w',rfl,O,z3⟩ (l.dd.d1 0 a' U7)
  .subst hk;obtain⟨q,rfl,_,_,h3,_⟩:=rt;intro z;cases z;show h3 (.inr ⟨0,U7⟩)
  .subst hk;obtain⟨q,rfl,h1,h2,_,h4⟩:=rt;show⟨q,rfl,nw q h1 h2,h2,h4.cg Y⟩
  .subst hk;show Rep.cg Y rt
  .obtain⟨w',D,_,_,z4⟩:=U6 m t y g1 g2;rw[g3]at D;cases D;show z4.cg Y
 have Ob:k=.own\/k=.loc:=by
  cases fl with
  |nx=>cases e1;show .inr rfl
  |rt k0 u0=>cases k0<;>first|(cases e1;done)|(cases e1;show .inl rfl)|(cases e1;show .inr rfl)
  |_=>cases e1
 rcases b with⟨_,b⟩|⟨z,_⟩
 rotate_left
 .subst z;rcases Ob with z|z<;>cases z
 show⟨fl,st',e,λc ec l n kp=>?_⟩;cases fl with
 |nx=>cases e1;show b .HD c.H c.S (mk c ec l n kp .HD rfl Ob)
 |rt k0 u0=>cases k0<;>first|(cases e1;done)|(cases e1;show λv r=>b v c.H c.S (mk c ec l n kp v r Ob))
 |_=>cases e1
abbrev Fn.bd(fn:Fn):List S:=match fn.ob,fn.io with|some (_,b),_=>b|none,a5 (_,b)=>b|none,b6=>fn.body
abbrev PM(fn:Fn):Bool:=match fn.ob,fn.io with|some (p,b),_=>Ji b p|none,a5 (is,b)=>Ji b 0&&is.all λi=>Ji b i|none,b6=>bD
structure Ld(ck:Ck)(K:PySem.W.Frag)(mg:Str->Option dV)(fn:Fn)(m:Str):Prop where
 ex:∃(x qual:Str) (st:Le) (f:gi) (fd:Q0) (N ps:List Str),LQ K x qual st f fd/\(m=""->x=fn.name/\mg fn.name=a5 (.ref f))/\(m≠""->∀cl,Kt K cl->Meth K cl m f)/\Binds K fd ps []/\dc N ps (ax st)/\N.length=fn.ns/\ps.length=fn.np/\dz ck fn.bd N (ax st) (bW st)=bD/\PM fn=bD
def Bu{Pg:List Fn}(a:(Pg.map (·.name)).Nodup)(h:fn∈Pg):Pg.find? (λg=>cL (g.name=fn.name))=a5 fn:=by
 induction Pg with
 |nil=>cases h
 |cons g Pg b =>
  rw[g8,nC]at a;rcases gj.mp h with rfl|h
  .simp
  .rw[Nd];have:cL (g.name=fn.name)=cb:=by
    apply ì;intro z;show a.1 (z▸N4 h)
   rw[this];show b a.2 h
def oH(a:(Pg.map (·.name)).Nodup)(h:fn∈Pg):HY Pg (d+1) fn.name=iG (HY Pg d) fn:=by
 funext us
 change(match Pg.find? λg=>cL (g.name=fn.name) with|some fn=>iG (HY Pg d) fn us|none=>b6)=_;rw[Bu a h]
def m6(h:fn.ob=b6)(a:fn.io=b6):iG Γ fn=bS Γ fn:=by funext us;unfold iG;rw[a,h]
def Bv(h:fn.ob=a5 (p,b)):iG Γ fn=eJ Γ fn p b:=by
 have a:fn.io=b6:=by
  unfold Fn.ob at h;unfold Fn.io;split at h
  .rename_i e;rw[e]
  .cases h
 funext us
 unfold iG;rw[a,h]
def Bw(h:fn.io=a5 (is,b)):iG Γ fn=mj Γ fn is b:=by funext us;unfold iG;rw[h]
abbrev Lq(ck:Ck)(Pg:List Fn)(K:PySem.W.Frag)(mg:Str->Option dV):Prop:=∀q∈ck.IZ,∃fn∈Pg,fn.name=q.1/\fn.ob=b6/\(∃b,fn.io=a5 (q.2,b))/\Ld ck K mg fn ""
def t5(HX:(Pg.map (·.name)).Nodup)(IM:Lq ck Pg K mg)(J:∀x∈bO,mg x=b6)(J8:∀p∈ck.gl,∃val v,mg p.1=a5 val/\RelV v val/\∀(C:Ct) S H,Rep C S H p.2 v)
  (ld:∀g∈ck.fns,∃fn∈Pg,fn.name=g/\fn.ob=b6/\fn.io=b6/\Ld ck K mg fn "") (lo:∀q∈ck.obs,∃fn∈Pg,fn.name=q.1/\(∃b,fn.ob=a5 (q.2.1,b))/\Ld ck K mg fn q.2.2) (sh:QM P w K mg base) (xs:NR ck K mg):∀d,(∀g∈ck.fns,yh P w K mg base (d+2) (HY Pg d g) g)/\PK ck (HY Pg d) P w K mg base (d+2):=by
 intro d;induction d with
 |zero =>
  show⟨λg hg=>?_,λq L=>by
   obtain⟨fn,D,e,_,_,l⟩:=IM q L;obtain⟨x,a,st,f,j,N,ps,F,n,_,o,S,G,t,_⟩:=l.ex;show⟨fn.np,f,j,ps,⟨λvs H Q E h=>h.1.trans t.symm,λA outer s H args us vs Q E _ _ _ _ h=>by obtain⟨_,us,k,u,_,_,_,_,_,_,_,e,_⟩:=h;cases e⟩,e▸(n rfl).2,F.kp,o,λus k e=>by cases e⟩,λq L=>?_,sh,i5 _⟩
  .have⟨fn,D,rfl,T,Y,l⟩:=ld g hg;obtain⟨x,a,st,f,j,N,ps,F,n,_,o,S,G,t,_⟩:=l.ex;show⟨fn.np,f,j,ps,⟨λvs H Q E h=>h.1.trans t.symm,λA outer s H args us vs Q E _ _ _ _ h=>by obtain⟨_,us,r,_,e,_⟩:=h;cases e⟩,(n rfl).2,F.kp,o,λus k u e=>(by cases e),λus c e=>by cases e⟩
  .obtain⟨fn,D,e,_,l⟩:=lo q L;obtain⟨x,a,st,f,j,N,ps,F,n,KQ,o,S,G,t,_⟩:=l.ex;show⟨fn.np,f,j,ps,⟨λvs H Q E h=>h.1.trans t.symm,λA outer s H args us vs Q E _ _ _ _ h=>by obtain⟨_,us,k,u,_,_,_,_,_,e,_⟩:=h;cases e⟩,λz=>e▸(n z).2,F.kp,KQ,o,λus k e=>by cases e⟩
 |succ d O =>
  show⟨λg hg=>?_,λq L=>by
   obtain⟨fn,D,e,ho,⟨b,hi⟩,l⟩:=IM q L;have⟨y,is⟩:=q
   dsimp only at e hi
   subst e;obtain⟨x,a,st,f,j,N,ps,F,n,_,o,S,G,t,I,B⟩:=l.ex
   dsimp only
   rw[oH HX D,Bw hi];rw[show fn.bd=b by unfold Fn.bd;rw[ho,hi]]at I;unfold PM at B;rw[ho,hi]at B;have B:(Ji b 0&&is.all λi=>Ji b i)=bD:=B;rw[b7,rr]at B;show⟨fn.np,f,j,ps,Ej F S G t B.1 B.2 I J O.1 J8 O.2 xs,(n rfl).2,F.kp,o,λus r e=>(tZ e).1⟩,λq L=>?_,sh,⋯⟩
  .have⟨fn,D,rfl,T,Y,l⟩:=ld g hg;obtain⟨x,a,st,f,j,N,ps,F,n,_,o,S,G,t,I,_⟩:=l.ex;have⟨rfl,Xz⟩:=n rfl;rw[oH HX D,m6 T Y];rw[show fn.bd=fn.body by unfold Fn.bd;rw[T,Y]]at I;show⟨fn.np,f,j,ps,Cg F S G t I J O.1 J8 O.2 xs,Xz,F.kp,o,λus k u e=>?_,λus c e=>(qb e).1⟩;have⟨T,Y⟩:=oG e;show⟨?_,T⟩;rcases Y with⟨z,_⟩|⟨z,_⟩
   .show z
   .show .inr (.inl z)
  .obtain⟨fn,D,e,⟨b,KY⟩,l⟩:=lo q L;have⟨y,p,m⟩:=q
   dsimp only at e KY l
   subst e;have⟨x,a,st,f,j,N,ps,F,n,KQ,o,S,G,t,I,B⟩:=l.ex;rw[oH HX D,Bv KY];rw[show fn.bd=b by unfold Fn.bd;rw[KY]]at I;unfold PM at B;rw[KY]at B;show⟨fn.np,f,j,ps,Ei F S G t B I J O.1 J8 O.2 xs,λz=>(n z).2,F.kp,KQ,o,λus r e=>(tX e).1⟩
end
abbrev yy(ns:List Int):U:=.lst (ns.map .int)
theorem m7{S:gi->Prop}:∀(ns:List Int),ar C S H (ns.map .int) (ns.map V.int)
 |[]=>rfl
 |n::ns=>⟨_,_,rfl,rfl,m7 ns⟩
def rZ(h:Ip C.K H a (ns.map V.int)):Rep C (Jh H) H (yy ns) (.ref a):=by
 show⟨a,_,rfl,?_,m7 ns⟩;rcases h with(h|⟨o,h⟩)|h
 .show .inl ⟨⟨_,h⟩,.inl h⟩
 .show .inl ⟨⟨_,h⟩,.inr ⟨o,h⟩⟩
 .show .inr h
theorem qc:∀{l:List α},(∀a∈l,f a=g a)->l.filterMap f=l.filterMap g
 |[],_=>rfl
 |a::l,h=>by rw[Jd,Jd,h a (by simp),qc λb c=>h b (by simp[c])]
theorem t6:∀(l:List Str) (us:List dV),l.Nodup->us.length=l.length->l.filterMap (λn=>((l.zip us).lookup n).map (n,·))=l.zip us
 |[],_,_,_=>rfl
 |a::l,[],_,h=>nomatch h
 |a::l,u::us,b,h=>by
  rw[nC]at b;have c:=t6 l us b.2 (by simpa using h);simp only[SX,Jd,nT,beq_self_eq_true,Rw];congr 1
  conv=>rhs;rw[<-c]
  show qc λn d=>?_;have:(n==a)=cb:=by
   rw[î];rintro rfl;show b.1 d
  rw[this]
def yz(l:List Str)(us:List dV)(h:us.length=l.length):l.filter (λn=>((l.zip us).lookup n).isNone)=[]:=by
 rw[K2];intro n hn;induction l generalizing us with
 |nil=>cases hn
 |cons a l b =>
  cases us with
  |nil=>cases h
  |cons u us =>
   simp only[SX,nT];cases e:n==a with
   |true=>simp
   |false =>
    rcases gj.mp hn with rfl|hn
    .simp at e
    .show b us (by simpa using h) hn
def yA{kV a b c ct:dV}(d:(as.map (·.arg)).Nodup)(hl:us.length=(as.map (·.arg)).length):
  Þ (PySem.W.fnOf x q ⟨[],as,b6,[],[],b6,[]⟩ body scope .none kV a b m c ct) ⟨us,[]⟩=pure ((as.map (·.arg)).zip us):=by
 have e:=t6 _ us d hl;have f:=yz _ us hl;change(if _ then _ else _)=_;rw[ë (by simp[hl])];have g:∀k:Nat,¬(!(((as.map (·.arg)).take k).filter λn=>(((as.map (·.arg)).zip us).lookup n).isNone).isEmpty)=bD:=λk=>by
  rw[K2.mpr λn h=>K2.mp f n (X' h)];show ko
 show(ë (g _)).trans ?_;have hz:∀(l:List Str) (i j:Nat),(l.drop i).zip ((b6.getD #[]:Array dV).toList.drop j)=[]:=λl i j=>by rw[show(b6.getD #[]:Array dV).toList=[] from rfl,List.drop_nil,List.zip_nil_right]
 show Eq.trans (ï (λz=>Bind.bind (forIn z _ _) _) (hz _ _ _)) ?_;show ï (pure:List (Str×dV)->Sem (List (Str×dV))) ((ï (List.filterMap _) (sx _)).trans e)
structure Me where
 fn:Fn
 x:Str
 i:Nat
 N:List Str
 a:gi
 c:gi
 m:dV
 cr:Obj
abbrev Me.fd(top:Nat->Le)(m:Me):Q0:=PySem.W.fnOf m.x m.fn.name (fY (top m.i)) (bW (top m.i)) (ax (top m.i)) .none .none .none m.m b6 (.ref m.c) .none
abbrev Me.fo(top:Nat->Le)(m:Me):Obj:=⟨.type "function",b6,.func (m.fd top),#[]⟩
@[reducible]def Gx:=Obj×List (gi×Obj)
abbrev adr(ms:List Me)(xa:List gi):List gi:=3::(ms.flatMap (λm=>[m.c,m.a])++xa)
abbrev IQ(top:Nat->Le)(g:Gx)(ms:List Me):PySem.W.Frag:=(3,g.1)::(ms.flatMap (λm=>[(m.c,m.cr),(m.a,m.fo top)])++g.2)
def t7(top:Nat->Le)(g:Gx)(ms:List Me)(xa:List gi)(h:g.2.map (·.1)=xa):adr ms xa=(IQ top g ms).map (·.1):=by
 unfold adr IQ;rw[g8,oD,List.map_flatMap,h];rfl
abbrev yB(v:Option (Option dV))(a:gi):Bool:=match v with|some (a5 (.ref b))=>cL (b=a)|_=>cb
def j_(h:yB v a=bD):v=a5 (a5 (.ref a)):=by
 unfold yB at h;split at h
 .rw[ð h]
 .cases h
abbrev nn(o:Option (Option dV)):Bool:=match o with|some b6=>bD|_=>cb
def yC(h:nn o=bD):o=a5 b6:=by
 unfold nn at h;split at h
 .rfl
 .cases h
abbrev Gb(p:Arguments)(ps:List Str):Bool:=p.posonlyargs.isEmpty&&p.vararg.isNone&&p.kwonlyargs.isEmpty&&p.kw_defaults.isEmpty&&p.kwarg.isNone&&p.defaults.isEmpty&&cL (p.args.map (·.arg)=ps)
abbrev U8(N:List Str)(b:Nat)(a:L9):Bool:=cL (a.kind=.function)&&cL (a.isCoroutine=cb)&&cL (a.isGenerator=cb)&&decide N.Nodup&&(N.take b).all (lp a)&&a.names.all (λy=>cL (y.2≠.free))
abbrev QQ(K:PySem.W.Frag):Option gi:=match PySem.W.nsIn K mN "Shelf" with|some (a5 (.ref C))=>a5 C|_=>b6
abbrev Ih(K:PySem.W.Frag)(C:gi)(x:Str)(a:gi):Bool:=yB (PySem.W.findIn K (.ref C) x) a&&PySem.W.isFn K (.ref a)
abbrev QR(K:PySem.W.Frag)(x:Str)(a:gi):Bool:=match QQ K with|some C=>Ih K C x a|none=>cb
abbrev U9(ck:Ck)(top:Nat->Le)(K:PySem.W.Frag)(m:Me):Bool:=PySem.W.codeIn K (.ref m.c) m.fn.name&&PySem.W.keepIn K (.ref m.a)&&(if m.x=m.fn.name then yB (PySem.W.nsIn K mN m.fn.name) m.a else QR K m.x m.a)&&Gb (fY (top m.i)) (m.N.take m.fn.np) &&
 U8 m.N m.fn.np (ax (top m.i))&&cL (m.N.length=m.fn.ns)&&cL (m.fn.np<=m.fn.ns)&&(dz ck m.fn.bd m.N (ax (top m.i)) (bW (top m.i))&&PM m.fn)
abbrev U_(K:PySem.W.Frag)(p:Str×U):Bool:=match p.2,PySem.W.nsIn K mN p.1 with
 |.int i,a5 (a5 (.int j _))=>cL (i=j)
 |.str i,a5 (a5 (.str j _))=>cL (i=j)
 |_,_=>cb
abbrev L0(ck:Ck)(top:Nat->Le)(K:PySem.W.Frag)(ms:List Me):Bool:=ms.all (U9 ck top K)&&bO.all (λy=>nn (PySem.W.nsIn K mN y))&&ck.gl.all (U_ K)&&cL (K.map (·.1)).Nodup
def Ge{K:PySem.W.Frag}(b:(K.map (·.1)).Nodup)(h:(a,o)∈K):K.lookup a=a5 o:=by
 induction K with
 |nil=>cases h
 |cons p K c =>
  rw[g8,nC]at b;rw[nT];rcases gj.mp h with rfl|h
  .simp
  .have:(a==p.1)=cb:=by
    rw[î];rintro rfl;show b.1 (lx.mpr ⟨_,h,rfl⟩)
   rw[this];show c b.2 h
section
def yD(c:L0 ck top (IQ top g ms) ms=bD)(h:m∈ms):LQ (IQ top g ms) m.x m.fn.name (top m.i) m.a (m.fd top)/\(if m.x=m.fn.name then yB (PySem.W.nsIn (IQ top g ms) mN m.fn.name) m.a else QR (IQ top g ms) m.x m.a)=bD /\
  (∀us:List dV,us.length=(m.N.take m.fn.np).length->Þ (m.fd top) ⟨us,[]⟩=pure ((m.N.take m.fn.np).zip us))/\dc m.N (m.N.take m.fn.np) (ax (top m.i))/\m.N.length=m.fn.ns/\(m.N.take m.fn.np).length=m.fn.np/\(dz ck m.fn.bd m.N (ax (top m.i)) (bW (top m.i))=bD/\PM m.fn=bD):=by
 simp only[L0,b7,é]at c;have z:=rr.mp c.1.1.1 m h;simp only[U9,b7,é]at z;obtain⟨⟨⟨⟨⟨⟨⟨j,k⟩,l⟩,b⟩,d⟩,n⟩,u⟩,o⟩:=z;simp only[U8,b7,é]at d;obtain⟨⟨⟨⟨⟨s1,s2⟩,s3⟩,s4⟩,p⟩,q⟩:=d;have r:(IQ top g ms).lookup m.a=a5 (m.fo top):=Ge c.2 (gj.mpr (.inr (LG _ (List.mem_flatMap.mpr ⟨m,h,by simp⟩))));have hl:(m.N.take m.fn.np).length=m.fn.np:=by rw[pb];lia
 show⟨C8 r j k,l,λus f=>?_,⟨s1,s2,s3,s4,by rw[hl],λx s=>?_,λy t=>?_⟩,n,hl,o⟩
 .unfold Me.fd;revert b;cases fY (top m.i) with
  |mk v as w A kd B C =>
   intro b;simp only[Gb,b7,ux,Q2,é]at b;obtain⟨⟨⟨⟨⟨⟨rfl,rfl⟩,rfl⟩,rfl⟩,rfl⟩,rfl⟩,e⟩:=b;rw[<-e]at f ⊢;show yA (by rw[e];show(Y1 _ _).nodup s4) f
 .have:=rr.mp p x s;simpa[lp] using this
 .have:=rr.mp q y t;simpa using this
abbrev Tw(ck:Ck)(ms:List Me):Bool:=ck.fns.all (λg=>ms.any λm=>cL (m.fn.name=g)&&cL (m.x=g)&&m.fn.ob.isNone&&m.fn.io.isNone) &&
 ck.obs.all (λq=>ms.any λm=>cL (m.fn.name=q.1)&&cL (m.fn.ob.map (·.1)=a5 q.2.1)&&(if q.2.2="" then cL (m.x=m.fn.name) else cL (m.x=q.2.2)&&cL (m.x≠m.fn.name)))
 && ck.IZ.all (λq=>ms.any λm=>cL (m.fn.name=q.1)&&cL (m.x=q.1)&&m.fn.ob.isNone&&cL (m.fn.io.map (·.1)=a5 q.2))
def yE{h:Kq}{mg:Str->Option dV}(j:L0 ck top (IQ top g ms) ms=bD)(X:(IQ top g ms).In h)(G:h.Ns mN mg){m:Me}(hi:m∈ms){n:Str}(i:if n="" then m.x=m.fn.name else m.x=n/\m.x≠m.fn.name):Ld ck (IQ top g ms) mg m.fn n:=by
 have⟨a,b,c,d,e,f,k⟩:=yD j hi;show⟨_,_,_,_,_,_,_,a,λz=>?_,λz cl l=>?_,.all c,d,e,f,k⟩
 .rw[ê z]at i;rw[ê i]at b;show⟨i,PySem.W.mg_of X G (j_ b)⟩
 .rw[ë z]at i;rw[ë i.2]at b;unfold QR QQ at b;rw[show PySem.W.nsIn (IQ top g ms) mN "Shelf"=_ from l]at b;simp only[Ih,b7]at b;rw[<-i.1];show⟨j_ b.1,b.2,a.kp⟩
def Ek(i:L0 ck top (IQ top g ms) ms=bD)(l:Tw ck ms=bD)(X:(IQ top g ms).In h)(G:h.Ns mN mg):(∀g'∈ck.fns,∃fn∈ms.map (·.fn),fn.name=g'/\fn.ob=b6/\fn.io=b6/\Ld ck (IQ top g ms) mg fn "")/\(∀q∈ck.obs,∃fn∈ms.map (·.fn),fn.name=q.1/\(∃b,fn.ob=a5 (q.2.1,b))/\Ld ck (IQ top g ms) mg fn q.2.2)/\Lq ck (ms.map (·.fn)) (IQ top g ms) mg:=by
 simp only[Tw,b7,rr,Qe,é,ux,Q2]at l;obtain⟨⟨n,o⟩,p⟩:=l;show⟨λg' r=>?_,λq j=>?_,λq j=>by
  obtain⟨m,a,⟨⟨e1,c⟩,d⟩,f⟩:=p q j;show⟨m.fn,N4 a,e1,d,?_,yE i X G a (by rw[ê rfl,e1,c])⟩;cases e:m.fn.io with
  |none=>rw[e]at f;cases f
  |some k=>rw[e]at f;show⟨k.2,by rw[<-tj f]⟩⟩
 .obtain⟨m,a,⟨⟨e1,c⟩,d⟩,f⟩:=n g' r;show⟨m.fn,N4 a,e1,d,f,yE i X G a (by rw[ê rfl,e1,c])⟩
 .obtain⟨m,a,⟨e1,c⟩,d⟩:=o q j;show⟨m.fn,N4 a,e1,?_,yE i X G a ?_⟩
  .cases e:m.fn.ob with
   |none=>rw[e]at c;cases c
   |some k=>rw[e]at c;show⟨k.2,by rw[<-tj c]⟩
  .split at d
   .rename_i z;rw[ê z];simpa using d
   .rename_i z;rw[ë z];simpa using d
abbrev QS(top:Nat->Le)(K:PySem.W.Frag)(ms:List Me):Bool:=match QQ K with
 |none=>cb
 |some C=>PySem.W.plainGet K C tv&&PySem.W.hasDictIn K C&&PySem.W.plainOver K C&&(PySem.W.findIn K (.ref C) "__setattr__"==a5 (a5 (.builtin "object.__setattr__")))&&nn (PySem.W.findIn K (.ref C) "rows")&&nn (PySem.W.findIn K (.ref C) "earlier")&&PySem.W.makesIn K C&&PySem.W.keepIn K (.ref C) &&
  ms.any λm=>cL (m.x="__init__")&&cL (m.x≠m.fn.name)&&cL (m.fn.np=1)&&cL (m.N=(["self"]:List Str))&&Tf (bW (top m.i))&&fJ (ax (top m.i)) "self"
def El(i:L0 ck top (IQ top g ms) ms=bD)(hs:QS top (IQ top g ms) ms=bD)(X:(IQ top g ms).In h)(G:h.Ns mN mg):QM P w (IQ top g ms) mg base:=by
 unfold QS at hs;split at hs
 .cases hs
 .rename_i C c;have d:Kt (IQ top g ms) C:=by
   unfold QQ at c;split at c
   .rename_i e;cases c;show e
   .cases c
  simp only[b7,Qe,é]at hs;obtain⟨⟨⟨⟨⟨⟨⟨⟨j,l⟩,n⟩,o⟩,p⟩,q⟩,r⟩,s⟩,m,t,⟨⟨⟨⟨⟨b1,u⟩,b3⟩,b4⟩,v⟩,x⟩⟩:=hs;obtain⟨F,b,f,S,_,_,_⟩:=yD i t;rw[ë u]at b;unfold QR at b;rw[c]at b;simp only[Ih,b7]at b;rw[b3,b4]at f S;rw[b1]at F b;have K:Kz (IQ top g ms) C:=⟨d,⟨j,l,n,beq_iff_eq.mp o⟩,yC p,yC q⟩
  show⟨C,m.a,m.fd top,K,⟨r,j_ b.1,b.2,s⟩,Be (k:=0) F S v (bU x) K,.all f,PySem.W.mg_of X G d⟩
def Em(b:L0 ck top (IQ top g ms) ms=bD)(X:(IQ top g ms).In h)(G:h.Ns mN mg):∀p∈ck.gl,∃val v,mg p.1=a5 val/\RelV v val/\∀(C:Ct) S H,Rep C S H p.2 v:=by
 intro p c;simp only[L0,b7,é]at b;have z:=rr.mp b.1.2 p c;unfold U_ at z;split at z
 .rename_i i j k e1 a;obtain rfl:=ð z;show⟨_,.int i,PySem.W.mg_of X G a,⟨_,rfl⟩,λ_ _ _=>by rw[e1];rfl⟩
 .rename_i i j k e1 a;obtain rfl:=ð z;show⟨_,.str i,PySem.W.mg_of X G a,⟨_,rfl⟩,λ_ _ _=>by rw[e1];rfl⟩
 .cases z
end
abbrev gX(ck:Ck)(K:PySem.W.Frag):Bool:=ck.xc.all (λx=>match PySem.W.nsIn K mN x with|some (a5 (.ref C))=>PySem.W.excIn K C Oh "ValueError.__new__"|_=>cb)&&ck.xd.all λp=>match PySem.W.nsIn K mN p.1,PySem.W.nsIn K mN p.2 with
 |some (a5 (.ref C)),a5 (a5 (.ref D))=>PySem.W.exmOne K (.ref C) (.ref D)==a5 bD
 |_,_=>cb
def En{K:PySem.W.Frag}(z:gX ck K=bD)(X:K.In h)(G:h.Ns mN mg):NR ck K mg:=by
 rw[gX,b7,rr,rr]at z;show⟨λx a=>?_,λp b=>?_⟩
 .have:=z.1 x a;split at this
  .rename_i e;show⟨_,PySem.W.mg_of X G e,e,this⟩
  .cases this
 .have:=z.2 p b;split at this
  .rename_i e1 c;show⟨_,_,PySem.W.mg_of X G e1,e1,PySem.W.mg_of X G c,beq_iff_eq.mp this⟩
  .cases this
def walk{l:PySem.W.OpenLaw}{K:Tb->PySem.W.Frag}
  (r:l.most=a5 63) (A:d.params.defaults=[]) (B:cP (dp+3) Sh) (D:∀(w:w6) (h:Kq),I w h->(K w.params).In h)
  (j:(Pg.map (·.name)).Nodup) (J:fn.ob=b6) (L:fn.io=b6) (O:fn∈Pg) (LF:fn.name=d.name)
  (F:∀(w:w6) (mg:Str->Option dV) (fa:gi) (h:Kq),(K w.params).In h->h.Ns mN mg->mg d.name=a5 (.ref fa) ->
   (∀y∈bO,mg y=b6)/\(∀p∈ck.gl,∃val v,mg p.1=a5 val/\RelV v val/\∀(C:Ct) S H,Rep C S H p.2 v)/\((∀g∈ck.fns,∃fn∈Pg,fn.name=g/\fn.ob=b6/\fn.io=b6/\Ld ck (K w.params) mg fn "")/\(∀q∈ck.obs,∃fn∈Pg,fn.name=q.1/\(∃b,fn.ob=a5 (q.2.1,b))/\Ld ck (K w.params) mg fn q.2.2)/\Lq ck Pg (K w.params) mg)/\(∀base,QM l.prog w (K w.params) mg base)/\NR ck (K w.params) mg /\
   ∃(c:Str) (st:Le) (i:Q0) (N:List Str),LQ (K w.params) fn.name c st fa i/\dc N [x] (ax st)/\N.length=fn.ns/\1=fn.np/\dz ck fn.body N (ax st) (bW st)=bD/\∀(s:gm) (u:dV),YX s i ⟨[u],[]⟩ [(x,u)])
  (T:∀ns:List Int,ns.length<=63->HY Pg (dp+1) fn.name [yy ns]=a5 (.ok (.loc,.bl bD))) :
  PySem.W.WalkO q m XP I l.row.toRowW d [] (λf vs=>PySem.call f vs) :=
 L2.Ae (n:=63) (k:=dp+3) (x:=x) (CX:=λw=>J3 l.prog w) (sp:=λw=>spT l.prog w (K w.params) (bS (HY Pg dp) fn) fn.np) r (by decide) A B D
  (λw mg fa h Q G Y=>by
   obtain⟨e,o,⟨ld,lo,hi⟩,sh,xs,c,st,i,N,F1,S,hN,JP,hc,hb⟩:=F w mg fa h Q G Y;show⟨i,hb,λbase _ _=>Cg F1 S hN JP hc e (t5 j hi e o ld lo (sh base) xs dp).1 o (t5 j hi e o ld lo (sh base) xs dp).2 xs⟩)
  (λw H a ns hl _ hS=>by
   have t:=T ns hl;rw[oH j O,m6 J L]at t;have Kl:fn.np=1:=(oG t).1.symm;show⟨Kl.symm,[yy ns],.ok (.loc,.bl bD),Jh H,t,λ_ z=>z,⟨_,_,rfl,rZ hS,rfl⟩,.inr (.inl rfl),λv H' S' b=>b.loc rfl⟩)
  λ_ _ _ _ _ ⟨_,_,_,_,_,_,z⟩=>z
def walk2{l:PySem.W.OpenLaw}{g:Tb->Gx}
  (A:l.most=a5 63) (B:d.params.defaults=[]) (C:cP (dp+3) Sh) (j:ms.map (·.fn)=Pg) (D:(Pg.map (·.name)).Nodup) (H:Tw ck ms=bD) (o:m.fn.ob=b6) (p:m.fn.io=b6) (r:m∈ms) (t:m.fn.name=d.name) (v:m.x=m.fn.name) (I:m.N.take m.fn.np=[x])
  (ok:∀P,L0 ck top (IQ top (g P) ms) ms=bD) (J:∀P,(gX ck (IQ top (g P) ms)&&QS top (IQ top (g P) ms) ms)=bD) (L:∀P,(g P).2.map (·.1)=xa) (T:∀ns:List Int,ns.length<=63->HY Pg (dp+1) m.fn.name [yy ns]=a5 (.ok (.loc,.bl bD))) :
  PySem.W.WalkO q i Q (PySem.W.kHook (λP=>IQ top (g P) ms) (adr ms xa) λP=>t7 top (g P) ms xa (L P)).says l.row.toRowW d [] (λf vs=>PySem.call f vs) :=
 walk A B C (λw h Y=>PySem.W.kIn_of Y) D o p (j▸lx.mpr ⟨m,r,rfl⟩) t (λw mg fa h X G z=>by
  have hk:=ok w.params;have hz:=vu.mp (J w.params);have⟨a,b,c,e,f,k,n⟩:=yD hk r;rw[ê v]at b;rw[<-t,PySem.W.mg_of X G (j_ b)]at z;cases z;rw[I]at c e k;rw[v]at a;show⟨λy O=>PySem.W.mg_none_of X G (yC ?_),Em hk X G,j▸Ek hk H X G,λbase=>El hk hz.2 X G,En hz.1 X G,_,_,_,_,a,e,f,k,by have:=n.1;rw[show m.fn.bd=m.fn.body by unfold Fn.bd;rw[o,p]]at this;show this,λs u=>.of_eq (c [u] rfl)⟩;simp only[L0,b7]at hk;show rr.mp hk.1.1.2 y O) T
abbrev L4(n q:Str)(k l c:Nat)(r s:gi)(x y z:dV)(a b t:Nat):Obj:=⟨.type "code",b6,.fields #[.str n k,.str q (k+1),.str "/claim/cut.py" (k+2),.int l 0,.int c 0,.int 0 0,.int 0 0,.int 3 0,.ref r,.bool bD,.int t 0,.ref s,.none,x,y,z,.int a 0,.int l 0,.str "/claim/cut.py" b],#[]⟩
abbrev co(n:Str)(k l c:Nat)(r s:gi)(x y z:dV)(a b t:Nat):Obj:=L4 n n k l c r s x y z a b t
abbrev ge(P:Tb)(x:Str)(k:Nat)(v:dV):DictEntry:=⟨oT P x,.str x k,v⟩
end TM
namespace TM
open PySem L2
section
abbrev Run(m:M α)(st:au)(a:α)(st':au):Prop:=m st=a5 (.ok a,st')
def aa(c:Run m st a st1)(d:Run (f a) st1 b st2):Run (m >>= f) st b st2:=by
 change M.bind m f st=_;unfold M.bind;rw[show m st=_ from c];show d
def aL:Run (pure a:M α) st a st:=rfl
def cY(h:o=a5 a):Run (M.H9 o) st a st:=by subst h;rfl
def aT(h:bo rs st):Run (av rs) st () st:=by change av rs st=_;unfold av;rw[ê h]
abbrev kv(i:Nat)(k:Kd):Kd:=if k.root=bD then .bor i else k
def d0(h:st[i]?=a5 (a5 (k,u)))(hk:k≠.A':=by intro z;cases z):Run (dh i) st (kv i k,u) st:=by
 change dh i st=_;unfold dh;rw[h];cases k<;>first|rfl|show absurd rfl hk
def ah(h:st[i]?=a5 (a5 (.loc,u))):Run (ev Γ (.var i)) st (.loc,u) st:=d0 h
def ba(h:st[i]?=a5 (a5 (.any,u))):Run (ev Γ (.var i)) st (.any,u) st:=d0 h
def aC(h:st[i]?=a5 (a5 (.own,u))):Run (ev Γ (.var i)) st (.bor i,u) st:=d0 h
def aw:Run (ev Γ (.cst u)) st (.loc,u) st:=rfl
def m8:Run (ev Γ (.Ke x u)) st (.loc,u) st:=rfl
def bL(c:Run (ev Γ a) st x st1)(d:Run (ev Γ b) st1 y st2)(e:bo [x,y] st2)(f:JS op x y=a5 r):Run (ev Γ (.bin op a b)) st r st2 :=
 aa c (aa d (aa (aT e) (cY f)))
def fM(d:Run (ev Γ a) st x st1)(e:Run (ev Γ b) st1 y st2)(f:bo [x,y] st2)(g:bu op x.2 y.2=a5 c):Run (ev Γ (.cmp op a b)) st (.loc,.bl c) st2 :=
 aa d (aa e (aa (aT f) (aa (cY g) aL)))
def bh(c:Run (ev Γ a) st x st1)(d:Run (ev Γ b) st1 y st2)(e:bo [x,y] st2)(f:iC x y.2=a5 r):Run (ev Γ (.idx a b)) st r st2 :=
 aa c (aa d (aa (aT e) (cY f)))
def yF:Run (Nt Γ []) st b6 st:=rfl
def yG(h:Run (ev Γ e) st (k,.int i) st1):Run (Nt Γ [e]) st (a5 i) st1:=aa h rfl
def yH(c:Run (ev Γ a) st x st1)(d:Run (Nt Γ lo) st1 l st2)(e:Run (Nt Γ hi) st2 h b)(f:bo [x] b)(g:oj x l h=a5 r):Run (ev Γ (.K_ a lo hi)) st r b :=
 aa c (aa d (aa e (aa (aT f) (cY g))))
def aj:Run (aR Γ []) st [] st:=rfl
def ae(a:Run (ev Γ e) st r st1)(b:Run (aR Γ es) st1 rs st2):Run (aR Γ (e::es)) st (r::rs) st2:=aa a (aa b aL)
def dn(a:Run (aR Γ es) st rs st1)(b:bo rs st1)(c:Js f rs=a5 r):Run (ev Γ (.bi f es)) st r st1:=aa a (aa (aT b) (cY c))
def Ci(a:Run (aR Γ es) st rs st1)(b:bo rs st1)(c:uY f rs=a5 r):Run (ev Γ (.Lv f es)) st r st1:=aa a (aa (aT b) (cY c))
def t8(b:Run (ev Γ a) st x st1)(c:Run (aR Γ es) st1 rs st2)(d:bo (x::rs) st2)(e:j3 m x.2 rs=a5 r):Run (ev Γ (.Ku m a es)) st r st2:=aa b (aa c (aa (aT d) (cY e)))
def t9(h:Γ f us=a5 (.ok r))(a:isAny r.1=cb):Run (kZ Γ f us) st r st:=by
 have⟨k,u⟩:=r;change kZ Γ f us st=_;unfold kZ;rw[h];cases k<;>first|rfl|cases a
def aU(a:Run (aR Γ es) st rs st1)(b:bo rs st1)(c:Γ f (rs.map (·.2))=a5 (.ok r))(d:isAny r.1=cb:=by show rfl):Run (ev Γ (.call f es)) st r st1:=aa a (aa (aT b) (t9 c d))
def fN(a:Run (aR Γ es) st rs st1)(b:bo rs st1)(c:Run (dg rs) st1 us st2)(d:us.length<=cK):Run (ev Γ (.tup es)) st (.loc,.tup us) st2:=by
 show aa a (aa (aT b) (aa c ?_));rw[ê d];show aL
def dA(a:Run (aR Γ es) st rs st1)(b:bo rs st1)(c:Run (dg rs) st1 us st2)(d:us.length<=cK):Run (ev Γ (.lst es)) st (.own,.lst us) st2:=by
 show aa a (aa (aT b) (aa c ?_));rw[ê d];show aL
def r9:Run (ev Γ (.J4 r)) st (.own,.Hz [] []) st:=rfl
def jN:Run (lift (.own,u)) st u st:=rfl
def bg:Run (lift (.loc,u)) st u st:=rfl
def m9(h:HQ u=bD):Run (lift (.any,u)) st u st:=by
 change(if HQ u=bD then(pure u:M U) else M.fail) st=_;rw[ê h];rfl
def aX:Run (dg []) st [] st:=rfl
def aJ(a:Run (lift r) st u st1)(b:Run (dg rs) st1 us st2):Run (dg (r::rs)) st (u::us) st2:=aa a (aa b aL)
def oI(h:Run (ev Γ e) st r st1):Run (iF Γ [e]) st r st1:=h
def r_(h:Run (ev Γ e) st (k,.bl p) st1)(a:if p=bD then Run (iF Γ (b::es)) st1 r st2 else st2=st1/\r=(.loc,.bl cb)):Run (iF Γ (e::b::es)) st r st2:=by
 show aa h ?_;cases p with
 |true=>show a
 |false=>have⟨rfl,rfl⟩:=a;show aL
def t_(h:Run (iF Γ es) st r st1):Run (ev Γ (.and es)) st r st1:=h
def bt(d:Run (ev Γ a) st x st1)(e:Run (ev Γ b) st1 y st2)(f:bo [x,y] st2)(g:bu op x.2 y.2=a5 c):Run (HP Γ (.cmp op a b)) st c st2:=aa d (aa e (aa (aT f) (cY g)))
def Cj(h:Run (HP Γ a) st c st1):Run (HP Γ (.not a)) st (!c) st1:=aa h aL
def iS(h:Run (aN Γ es) st c st1):Run (HP Γ (.and es)) st c st1:=h
def yI(h:Run (jI Γ es) st c st1):Run (HP Γ (.or es)) st c st1:=h
def iT:Run (aN Γ []) st bD st:=rfl
def cT(h:Run (HP Γ e) st c st1):Run (aN Γ [e]) st c st1:=h
def oJ(h:Run (HP Γ e) st bD st1)(a:Run (aN Γ (b::es)) st1 c st2):Run (aN Γ (e::b::es)) st c st2:=aa h a
def sd(h:Run (HP Γ e) st cb st1):Run (aN Γ (e::a::es)) st cb st1:=aa h aL
def qd(h:Run (HP Γ e) st c st1):Run (jI Γ [e]) st c st1:=h
def qe(h:Run (HP Γ e) st cb st1)(a:Run (jI Γ (b::es)) st1 c st2):Run (jI Γ (e::b::es)) st c st2:=aa h a
def bw:Run (eI i (.own,u)) st () (st.set i (a5 (.own,u))):=rfl
def aV:Run (eI i (.loc,u)) st () (st.set i (a5 (.loc,u))):=rfl
def lD:Run (eI i (.any,u)) st () (st.set i (a5 (.any,u))):=rfl
def Gf(a:Run (ev Γ e) st r st1)(b:Run (eI i r) st1 () st2):Run (exec Γ (.set i e)) st .nx st2:=aa a (aa b aL)
def Gg(b:∃k' c,st[i]?=a5 (a5 (k',.lst c))/\k'≠.A')(d:Run (ev Γ e) st r st1)(f:Run (lift r) st1 u st2)(g:st2[i]?=a5 (a5 (k,.lst us)))(hk:k.root=bD)(hl:us.length<cK):
  Run (exec Γ (.app i e)) st .nx (st2.set i (a5 (k,.lst (us++[u])))):=by
 have⟨k',c,b,h⟩:=b;show aa (d0 b h) (aa (a:=()) (st1:=st) rfl (aa d (aa f (aa (a:=()) ?_ aL))));change modS i (xn u) st2=_;unfold modS;rw[g];simp only[hk,if_true];have e:xn u (.lst us)=a5 (.lst (us++[u])):=by change(if us.length<cK then _ else _)=_;rw[ê hl]
 rw[e]
def Gh(a:Run (ev Γ e) st r st1)(b:Run (retS r) st1 f st2):Run (exec Γ (.ret e)) st f st2:=aa a b
def jO:Run (retS (.own,u)) st (.rt .own u) st:=rfl
def cB:Run (retS (.loc,u)) st (.rt .loc u) st:=rfl
def Gi(h:HQ u=bD):Run (retS (.any,u)) st (.rt .loc u) st:=by
 change(if HQ u=bD then(pure (Fl.rt .loc u):M Fl) else pure (.rt .any u)) st=_;rw[ê h];rfl
def qf(h:st[j]?=a5 (a5 (.own,u))):Run (retS (.bor j,u0)) st (.rt .own u) (st.set j b6):=by
 change(match st[j]? with|some (a5 (.own,u))=>a5 (Ex.ok (Fl.rt .own u),st.set j b6)|_=>b6)=_;rw[h]
def oK(d:Run (HP Γ c) st bD st1)(e:Run (execs Γ a) st1 f st2):Run (exec Γ (.ite c a b)) st f st2:=aa d e
def se(d:Run (HP Γ c) st cb st1)(e:Run (execs Γ b) st1 f st2):Run (exec Γ (.ite c a b)) st f st2:=aa d e
def aQ:Run (execs Γ []) st .nx st:=rfl
def et(a:Run (exec Γ s) st .nx st1)(b:Run (execs Γ ss) st1 f st2):Run (execs Γ (s::ss)) st f st2:=aa a b
def Bx(a:Run (exec Γ s) st (.rt k u) st1):Run (execs Γ (s::ss)) st (.rt k u) st1:=aa a aL
def ay(a:Run (ev Γ e) st r st1)(b:Run (eI i r) st1 () st2)(c:Run (execs Γ ss) st2 f d):Run (execs Γ (.set i e::ss)) st f d:=et (Gf a b) c
def jP(a:st[i]?=a5 (a5 (k',.lst l)))(b:Run (ev Γ e) st r st1)(c:Run (lift r) st1 u st2)(d:st2[i]?=a5 (a5 (k,.lst us)))(hk:k.root=bD)(hl:us.length<cK)
  (g:Run (execs Γ ss) (st2.set i (a5 (k,.lst (us++[u])))) f h) (j:k'≠.A':=by intro z;cases z):Run (execs Γ (.app i e::ss)) st f h:=et (Gg ⟨_,_,a,j⟩ b c d hk hl) g
def bx(a:Run (ev Γ e) st r st1)(b:Run (retS r) st1 (.rt k u) st2):Run (execs Γ (.ret e::ss)) st (.rt k u) st2:=Bx (Gh a b)
def gW(d:Run (HP Γ c) st bD st1)(e:Run (execs Γ a) st1 .nx st2)(g:Run (execs Γ ss) st2 f h):Run (execs Γ (.ite c a b::ss)) st f h:=et (oK d e) g
def dw(d:Run (HP Γ c) st cb st1)(e:Run (execs Γ b) st1 .nx st2)(g:Run (execs Γ ss) st2 f h):Run (execs Γ (.ite c a b::ss)) st f h:=et (se d e) g
def yJ(d:Run (HP Γ c) st bD st1)(e:Run (execs Γ a) st1 (.rt k u) st2):Run (execs Γ (.ite c a b::ss)) st (.rt k u) st2:=Bx (oK d e)
def Gj(a:Run (aR Γ src) st rs st1)(b:bo rs st1)(c:Kg d rs=a5 xs)(e:tu rs is body=bD)(g:Run (forM t is (execs Γ body) rs xs) st1 f st2):
  Run (exec Γ (.Ij t is d src body)) st f st2:=by
 show aa a (aa (aT b) (aa (cY c) ?_));rw[ê e];show g
def fO(a:Run (aR Γ src) st rs st1)(b:bo rs st1)(c:Kg d rs=a5 xs)(e:tu rs is body=bD)(g:Run (forM t is (execs Γ body) rs xs) st1 .nx st2)(h:Run (execs Γ ss) st2 f i):
  Run (execs Γ (.Ij t is d src body::ss)) st f i:=et (Gj a b c e g) h
def Cm(h:bo rs st):Run (forM t is body rs []) st .nx st:=aa (aT h) aL
def Gk(h:bo rs st)(a:Run (dF t is x) st () st1)(b:Run body st1 .nx st2)(c:Run (forM t is body rs xs) st2 f d):Run (forM t is body rs (x::xs)) st f d:=aa (aT h) (aa a (aa b c))
theorem ua(I:List (Kd×U)->au->Prop)(hs:∀xs st,I xs st->bo rs st)(Zd:∀x xs st,I (x::xs) st->∃st1 st2,Run (dF t is x) st () st1/\Run body st1 .nx st2/\I xs st2):
  ∀(xs:List (Kd×U)) (st:au),I xs st->∃st',Run (forM t is body rs xs) st .nx st'/\I [] st'
 |[],st,h=>⟨st,Cm (hs _ _ h),h⟩
 |x::xs,st,h=>by
  have⟨s1,s2,a,b,c⟩:=Zd x xs st h;have⟨s3,d,e⟩:=ua I hs Zd xs s2 c;show⟨s3,Gk (hs _ _ h) a b d,e⟩
def fP(h:Run (eI i r) st () st1):Run (dF cb [i] r) st () st1:=h
def aH(a:us.length=fn.np)(hk:k=.own\/k=.loc)(hs:start us fn.ns=st0)(h:Run (execs Γ fn.body) st0 (.rt k u) st):bS Γ fn us=a5 (.ok (k,u)):=by
 subst hs;unfold bS;rw[ê a,show execs Γ fn.body (start us fn.ns)=_ from h];rcases hk with rfl|rfl<;>rfl
def qg{cond:M Bool}(h:bo src st):Run (bG k t cond elt src [] a) st a st:=aa (aT h) aL
def lE{cond:M Bool}(h:bo src st)(d:Run (dF t (il k) x) (lg k b6++st) () s1)(e:Run cond s1 bD s2)(g:Run elt s2 r s3)(i:Run (lift r) s3 u s4)
  (hl:c.length<cK) (j:Run (bG k t cond elt src xs (c++[u])) (s4.drop k) us st2):Run (bG k t cond elt src (x::xs) c) st us st2:=by
 show aa (aT h) (aa (a:=a5 u) (st1:=s4.drop k) ?_ ?_)
 .change inScope k _ st=_;unfold inScope;have l:Run (dF t (il k) x >>= λ_=>cond >>= λb=>if b=bD then(elt >>= λr=>lift r >>= λu=>pure (a5 u)) else pure b6) (lg k b6++st) (a5 u) s4 :=
   aa d (aa e (show Run (elt >>= λr=>lift r >>= λu=>pure (a5 u)) s2 (a5 u) s4 from aa g (aa (f:=λu=>pure (a5 u)) i rfl)))
  rw[show _=_ from l]
 .change Run (if c.length<cK then bG k t cond elt src xs (c++[u]) else M.fail) _ _ _;rw[ê hl];show j
def sf{cond:M Bool}(h:bo src st)(d:Run (dF t (il k) x) (lg k b6++st) () s1)(e:Run cond s1 cb s2)
  (f:Run (bG k t cond elt src xs c) (s2.drop k) us st2):Run (bG k t cond elt src (x::xs) c) st us st2:=by
 show aa (aT h) (aa (a:=b6) (st1:=s2.drop k) ?_ f);change inScope k _ st=_;unfold inScope;have g:Run (dF t (il k) x >>= λ_=>cond >>= λb=>if b=bD then(elt >>= λr=>lift r >>= λu=>pure (a5 u)) else pure b6) (lg k b6++st) b6 s2 :=
  aa d (aa e (show Run (pure b6:M (Option U)) s2 b6 s2 from rfl))
 rw[show _=_ from g]
def cv{src cond:List E}(a:Run (aR Γ src) st rs st1)(b:bo rs st1)(c:Kg d rs=a5 xs)(f:Run (bG k t (aN Γ cond) (ev Γ e) rs xs []) st1 us st2):Run (ev Γ (.comp k t d src cond e)) st (.own,.lst us) st2 :=
 aa a (aa (aT b) (aa (cY c) (aa f aL)))
theorem yK{cond:M Bool}(h:bo src st)(g:Kd×U->U)(kd:Kd×U->Kd):∀(xs:List (Kd×U)) (a:List U),a.length+xs.length<=cK ->
  (∀x∈xs,x.1=.loc\/x.1=.any)->(∀x∈xs,Run cond (a5 x::st) bD (a5 x::st)/\Run elt (a5 x::st) (kd x,g x) (a5 x::st)/\Run (lift (kd x,g x)) (a5 x::st) (g x) (a5 x::st))->Run (bG 1 cb cond elt src xs a) st (a++xs.map g) st
 |[],a,_,_,_=>by rw[LL,sx];show qg h
 |x::xs,a,hl,hk,c=>by
  have⟨d,e,f⟩:=c x (by simp);rw[k9]at hl;show lE (s1:=a5 x::st) (s2:=a5 x::st) (s3:=a5 x::st) (s4:=a5 x::st) h ?_ d e f ⋯ ?_
  .have⟨k,u⟩:=x;rcases hk _ (kj ..) with z|z<;>(cases z;rfl)
  .have:=yK h g kd xs (a++[g x]) (by simp;lia) (λy b=>hk y (by simp[b])) λy b=>c y (by simp[b]);rw[g8];simpa using this
theorem lF{cond:M Bool}(h:bo src st)(p:Kd×U->Bool)(g:Kd×U->U)(kd:Kd×U->Kd):∀(xs:List (Kd×U)) (a:List U),a.length+xs.length<=cK ->
  (∀x∈xs,x.1=.loc\/x.1=.any)->(∀x∈xs,Run cond (a5 x::st) (p x) (a5 x::st)/\Run elt (a5 x::st) (kd x,g x) (a5 x::st)/\Run (lift (kd x,g x)) (a5 x::st) (g x) (a5 x::st))->Run (bG 1 cb cond elt src xs a) st (a++(xs.filter p).map g) st
 |[],a,_,_,_=>by rw[RO,LL,sx];show qg h
 |x::xs,a,hl,hk,e=>by
  have⟨c,i,j⟩:=e x (by simp);rw[k9]at hl;have f:Run (dF cb (il 1) x) (lg 1 b6++st) () (a5 x::st):=by
   have⟨k,u⟩:=x;rcases hk _ (kj ..) with z|z<;>(cases z;rfl)
  cases d:p x with
  |true =>
   rw[d]at c;show lE (s1:=a5 x::st) (s2:=a5 x::st) (s3:=a5 x::st) (s4:=a5 x::st) h f c i j ⋯ ?_;have:=lF h p g kd xs (a++[g x]) (by simp;lia) (λy b=>hk y (by simp[b])) λy b=>e y (by simp[b]);rw[HR,ê d,g8];simpa using this
  |false =>
   rw[d]at c;show sf (s1:=a5 x::st) (s2:=a5 x::st) h f c ?_;have:=lF h p g kd xs a ⋯ (λy b=>hk y (by simp[b])) λy b=>e y (by simp[b]);rw[HR,ë (by simp[d])];show this
end
section
def Gm(h:st[i]?=a5 (a5 (k,.lst us)))(hk:k.root=bD)(a:us[us.length - 1]?=a5 u):Run (ev Γ (.pop i)) st (.loc,u) (st.set i (a5 (k,.lst us.dropLast))):=by
 change xj i st=_;unfold xj;rw[h];change(if _ then _ else _)=_;rw[ê hk,a]
end
abbrev Ie(Pg:List Fn)(f:Str)(fn:Fn):Prop:=(Pg.find? λg=>cL (g.name=f))=a5 fn
section
def oM(h:Ie Pg f fn)(us:List U):HY Pg (d+1) f us=iG (HY Pg d) fn us:=by
 change(match Pg.find? λg=>cL (g.name=f) with|some fn=>iG (HY Pg d) fn us|none=>b6)=_;rw[show _=a5 fn from h]
def aD(h:Ie Pg f fn)(us:List U)(a:fn.io=b6:=by rfl)(b:fn.ob=b6:=by rfl):HY Pg (d+1) f us=bS (HY Pg d) fn us:=by
 rw[oM h];unfold iG;rw[a,b]
def bH(h:Ie Pg f fn)(us:List U)(a:fn.ob=a5 (p,b))(c:fn.io=b6:=by rfl):HY Pg (d+1) f us=eJ (HY Pg d) fn p b us:=by
 rw[oM h];unfold iG;rw[c,a]
def m_(h:Ie Pg f fn)(us:List U)(a:fn.io=a5 (is,b)):HY Pg (d+1) f us=mj (HY Pg d) fn is b us:=by
 rw[oM h];unfold iG;rw[a]
end
def bM(h:0<j):JS .mod (k,.int i) (k',.int j)=a5 (.loc,.int (i % j)):=by change(Au i j).map _=_;rw[Au,ê h];rfl
def yL(h:0<j/\j<1073741824):JS .Kc (k,.int i) (k',.int j)=a5 (.loc,.int (i / j)):=by change(As i j).map _=_;rw[As,ê h];rfl
def nF(h:(-(2 ^ 64)<i/\i<2 ^ 64)\/(-(2 ^ 64)<j/\j<2 ^ 64)):JS .mul (k,.int i) (k',.int j)=a5 (.loc,.int (i * j)):=by change(Ar i j).map _=_;rw[Ar,ê h];rfl
def nG(h:0<=j/\j<=1000000/\i.natAbs<2 ^ 64):JS .pow (k,.int i) (k',.int j)=a5 (.loc,.int (i ^ j.toNat)):=by change(Av i j).map _=_;rw[Av,ê h];rfl
def d5:JS .add (k,.int i) (k',.int j)=a5 (.loc,.int (i+j)):=rfl
def kr:JS .sub (k,.int i) (k',.int j)=a5 (.loc,.int (i - j)):=rfl
def aP(h:Ic xs i=a5 u):iC (k,.lst xs) (.int i)=a5 (kE k,u):=by change(Ic xs i).map _=_;rw[h];rfl
def nO(h:Ic xs i=a5 u):iC (k,.tup xs) (.int i)=a5 (kE k,u):=by change(Ic xs i).map _=_;rw[h];rfl
def ub:Kd.own≠Kd.A':=by decide
local macro_rules
 |`(tactic| sizeOf_list_dec)=>`(tactic| first|exact aQ|apply ay|apply jP|apply bx|exact aw|exact ah rfl|exact ba rfl|exact aC rfl|apply bL|apply fM|apply bh|apply dn|apply aU|apply t8|apply bt|exact aj|apply ae|apply fN|apply dA|exact aX|apply aJ|exact bg|exact jN|(first|exact trivial|exact⟨⟨_,rfl,rfl⟩,trivial⟩|exact⟨⟨_,rfl,rfl⟩,⟨_,rfl,rfl⟩,trivial⟩)|exact d5|exact kr|exact bM (by first|lia|decide)|exact yL (by first|lia|decide)|exact nF (by first|lia|decide)|exact nG (by decide)|exact aV|exact bw|exact lD|exact cB|exact jO|exact qf rfl|exact mx _|exact rfl|exact ub)
abbrev sg(c k:Int):Int:=((c % 10 ^ 15+1) * 48271+k * k * 16807+k * 7919) % 2147483647 * 69621 % 2147483629
abbrev vC:Fn:=⟨"_law_mix",2,3,[.set 2 (.bin .add (.bin .add (.bin .mul (.bin .add (.bin .mod (.var 0) (.bin .pow (.cst (.int 10)) (.cst (.int 15)))) (.cst (.int 1))) (.cst (.int 48271))) (.bin .mul (.bin .mul (.var 1) (.var 1)) (.cst (.int 16807)))) (.bin .mul (.var 1) (.cst (.int 7919)))),.ret (.bin .mod (.bin .mul (.bin .mod (.var 2) (.cst (.int 2147483647))) (.cst (.int 69621))) (.cst (.int 2147483629)))]⟩
def By(a:0<=k)(b:k<2 ^ 63):bS Γ vC [.int c,.int k]=a5 (.ok (.loc,.int (sg c k))):=by
 apply aH (st0:=[a5 (.loc,.int c),a5 (.loc,.int k),b6]) rfl (.inr rfl) rfl
 repeat' sizeOf_list_dec
abbrev uc:Fn:=⟨"_law_cell",2,3,[.ite (.cmp .lt (.var 1) (.bi .len [.var 0])) [.ret (.idx (.var 0) (.var 1))] [],.set 2 (.cst (.int 0)),.ite (.cmp .gt (.bi .len [.var 0]) (.cst (.int 0))) [.set 2 (.idx (.var 0) (.bin .mod (.var 1) (.bi .len [.var 0])))] [],.ret (.bin .add (.bin .mul (.cst (.int 2)) (.call "_law_mix" [.var 2,.var 1])) (.cst (.int 1)))]⟩
abbrev yM(Γ:Tab):Prop:=∀c k:Int,0<=k->k<2 ^ 63->Γ "_law_mix" [.int c,.int k]=a5 (.ok (.loc,.int (sg c k)))
def yN(h:cL (i<j)=c):bu .lt (.int i) (.int j)=a5 c:=by subst h;rfl
def jQ(h:cL (j<i)=c):bu .gt (.int i) (.int j)=a5 c:=by subst h;rfl
def eu(h:(i==j)=c):bu .eq (.int i) (.int j)=a5 c:=by subst h;rfl
def gk:Js .len [(k,.lst xs)]=a5 (.loc,.int (xs.length:Nat)):=rfl
def oN:Js .len [(k,.tup xs)]=a5 (.loc,.int (xs.length:Nat)):=rfl
abbrev Cn(ns:List Int)(k:Nat):Int:=if k<ns.length then(ns[k]?).getD 0 else 2 * sg ((ns[k % ns.length]?).getD 0) k+1
def yO(f:yM Γ){k:Nat}(hk:k<2 ^ 62):bS Γ uc [.lst (ns.map .int),.int k]=a5 (.ok (.loc,.int (Cn ns k))):=by
 have b:∀c,Γ "_law_mix" [.int c,.int k]=a5 (.ok (.loc,.int (sg c k))):=λc=>f c k ⋯ ⋯;unfold Cn;by_cases h:k<ns.length
 .rw[ê h];have a:Ic (ns.map U.int) (k:Int)=a5 (.int ((ns[k]?).getD 0)):=cQ (by simp[h]);apply aH (st0:=[a5 (.any,.lst (ns.map .int)),a5 (.loc,.int k),b6]) rfl (.inr rfl) rfl;apply yJ
  all_goals repeat' (first|show yN (by simp[h])|show aP a|show Gi rfl|sizeOf_list_dec)
 .rw[ë h];have d:bu .lt (.int k) (.int ((ns.map U.int).length:Nat))=a5 cb:=yN (by simp;lia);by_cases hz:0<ns.length
  .have hi:k % ns.length<ns.length:=è _ hz;have a:Ic (ns.map U.int) ((k:Int) % ((ns.map U.int).length:Nat))=a5 (.int ((ns[k % ns.length]?).getD 0)):=by
    rw[dr,show(k:Int) % (ns.length:Nat)=((k % ns.length:Nat):Int) by lia];show cQ (by simp[hi])
   have g:(0:Int)<((ns.map U.int).length:Nat):=by simp;lia
   apply aH (st0:=[a5 (.any,.lst (ns.map .int)),a5 (.loc,.int k),b6]) rfl (.inr rfl) rfl;apply dw
   all_goals repeat' (first|show d|sizeOf_list_dec)
   apply gW
   all_goals repeat' (first|show jQ (by simp;lia)|show bM g|show aP a|show b _|sizeOf_list_dec)
  .have e:ns=[]:=List.eq_nil_of_length_eq_zero ⋯;subst e;apply aH (st0:=[a5 (.any,.lst ([].map .int)),a5 (.loc,.int k),b6]) rfl (.inr rfl) rfl;apply dw
   all_goals repeat' (first|show d|sizeOf_list_dec)
   apply dw
   all_goals repeat' (first|show b _|sizeOf_list_dec)
abbrev oO:Fn:=⟨"_law_drawn",2,5,[.set 2 (.lst []),.set 3 (.bin .Kc (.var 0) (.cst (.int 2))),.Ij cb [4] .Iw [.var 1] [.ite (.cmp .eq (.bin .mod (.var 0) (.cst (.int 2))) (.cst (.int 0))) [.app 2 (.bin .mod (.var 3) (.cst (.int 64))),.set 3 (.bin .Kc (.var 3) (.cst (.int 64)))] [.app 2 (.bin .mod (.bin .Kc (.call "_law_mix" [.var 0,.var 4]) (.cst (.int 7))) (.cst (.int 4096)))]],.ret (.var 2)]⟩
def qh(x:Kd×U):Kg .Iw [x]=uZ x:=rfl
def si(h:n<2 ^ 62):Kg .Iw [(k,.int (n:Nat))]=a5 ((il n).map λi:Nat=>(Kd.loc,U.int (0+(i:Int)))):=by
 rw[qh,uZ,ê ⋯,L3]
abbrev fQ(n:Nat)(xs:List (Kd×U)):Prop:=∃i,i<=n/\xs=((il n).drop i).map λi:Nat=>(Kd.loc,U.int (0+(i:Int)))
def fQ.cons(h:fQ n (x::xs)):∃i:Nat,i<n/\x=(.loc,.int (i:Nat))/\fQ n xs/\i+xs.length+1=n:=by
 have⟨i,hi,e⟩:=h;by_cases a:i<n
 .rw[N0 (by simpa using a),g8]at e;cases e;show⟨i,a,by simp,⟨i+1,a,rfl⟩,by simp;lia⟩
 .rw[List.drop_eq_nil_of_le (by simp;lia)]at e;cases e
def fQ.all(n:Nat):fQ n ((il n).map λi:Nat=>(Kd.loc,U.int (0+(i:Int)))):=⟨0,mx _,rfl⟩
def vD(q:yM Γ)(w:n<1000):∃ds:List Int,ds.length=n/\(∀d∈ds,0<=d)/\bS Γ oO [.int c,.int n]=a5 (.ok (.own,.lst (ds.map .int))):=by
 have hsz:(1000:Nat)<=cK:=by decide
 let I:List (Kd×U)->au->Prop:=λxs st=>∃(ds:List Int) (us:List U) (left:Int) (o:Option (Kd×U)),st=[a5 (.loc,.int c),a5 (.loc,.int n),a5 (.own,.lst us),a5 (.loc,.int left),o]/\us=ds.map .int/\(∀d∈ds,0<=d)/\ds.length+xs.length=n/\fQ n xs;have a:=ua (t:=cb) (is:=[4]) (body:=execs Γ [.ite (.cmp .eq (.bin .mod (.var 0) (.cst (.int 2))) (.cst (.int 0)))
    [.app 2 (.bin .mod (.var 3) (.cst (.int 64))),
    .set 3 (.bin .Kc (.var 3) (.cst (.int 64)))]
    [.app 2 (.bin .mod (.bin .Kc (.call "_law_mix" [(.var 0),(.var 4)]) (.cst (.int 7))) (.cst (.int 4096)))]]) (rs:=[(.loc,.int n)]) I (λ_ _ _=>trivial) (λx xs st r=>by
  have⟨ds,us,left,o,e,b,f,hl,s⟩:=r;subst e;have j:us.length=ds.length:=by rw[b];simp
  have⟨i,hi,rfl,l,m⟩:=s.cons;have u:Γ "_law_mix" [.int c,.int i]=a5 (.ok (.loc,.int (sg c i))):=q c i ⋯ ⋯;rw[k9]at hl;by_cases p:c % 2=0
  .show⟨[a5 (.loc,.int c),a5 (.loc,.int n),a5 (.own,.lst us),a5 (.loc,.int left),a5 (.loc,.int i)],[a5 (.loc,.int c),a5 (.loc,.int n),a5 (.own,.lst (us++[.int (left % 64)])),a5 (.loc,.int (left / 64)),a5 (.loc,.int i)],aV,?_,⟨ds++[left % 64],_,left / 64,_,rfl,by simp[b],?_,by simp;lia,l⟩⟩
   .apply gW
    all_goals repeat' (first|show eu (by simp[p])|show(by rw[j];lia)|sizeOf_list_dec)
   .intro d g;rcases i9.mp g with z|z
    .show f d z
    .rw[js.mp z];lia
  .show⟨[a5 (.loc,.int c),a5 (.loc,.int n),a5 (.own,.lst us),a5 (.loc,.int left),a5 (.loc,.int i)],[a5 (.loc,.int c),a5 (.loc,.int n),a5 (.own,.lst (us++[.int (sg c i / 7 % 4096)])),a5 (.loc,.int left),a5 (.loc,.int i)],aV,?_,⟨ds++[sg c i / 7 % 4096],_,left,_,rfl,by simp[b],?_,by simp;lia,l⟩⟩
   .apply dw
    all_goals repeat' (first|show eu (by simp[p])|show u|show(by rw[j];lia)|sizeOf_list_dec)
   .intro d g;rcases i9.mp g with z|z
    .show f d z
    .rw[js.mp z];lia)
 obtain⟨st',v,ds,us,left,o,e,b,f,hl,_⟩:=a ((il n).map λi:Nat=>(Kd.loc,U.int (0+(i:Int)))) [a5 (.loc,.int c),a5 (.loc,.int n),a5 (.own,.lst []),a5 (.loc,.int (c / 2)),b6] ⟨[],[],c / 2,b6,rfl,rfl,by simp,by simp,fQ.all n⟩;subst e b;show⟨ds,by simpa using hl,f,?_⟩;apply aH (st0:=[a5 (.loc,.int c),a5 (.loc,.int n),b6,b6,b6]) rfl (.inl rfl) rfl
 repeat' sizeOf_list_dec
 have h:=si (k:=.loc) (n:=n) ⋯;refine' fO (rs:=[(.loc,.int n)]) (st1:=[a5 (.loc,.int c),a5 (.loc,.int n),a5 (.own,.lst []),a5 (.loc,.int (c / 2)),b6]) _ trivial h rfl v _
 all_goals repeat' sizeOf_list_dec
end TM
local macro_rules
 |`(tactic| sizeOf_list_dec)=>`(tactic| first|exact TM.aQ|apply TM.ay|apply TM.jP|apply TM.bx|exact TM.aw|exact TM.ah rfl|exact TM.ba rfl|exact TM.aC rfl|apply TM.bL|apply TM.fM|apply TM.bh|apply TM.dn|apply TM.aU|apply TM.t8|apply TM.bt|exact TM.aj|apply TM.ae|apply TM.fN|apply TM.dA|exact TM.aX|apply TM.aJ|exact TM.bg|exact TM.jN|(first|exact trivial|exact⟨⟨_,rfl,rfl⟩,trivial⟩|exact⟨⟨_,rfl,rfl⟩,⟨_,rfl,rfl⟩,trivial⟩)|exact TM.d5|exact TM.kr|exact TM.bM (by first|lia|decide)|exact TM.yL (by first|lia|decide)|exact TM.nF (by first|lia|decide)|exact TM.nG (by decide)|exact TM.aV|exact TM.bw|exact TM.lD|exact TM.cB|exact TM.jO|exact TM.qf rfl|exact mx _|exact rfl|exact TM.ub)
namespace H_
open PySem L2
abbrev bP(l:List Nat):Prop:=dX l=bD\/∃a b k,l=a++47::b/\dX a=bD/\2<=k/\k<=99/\(fu k).cps.toList=b
def len_list(x:Str):x.length=x.cps.toList.length:=by simp[RG]
def ng(a:0<=k)(b:k<=99):(fu k).length<=2:=by
 have⟨m,rfl⟩:=Rx a;have c:m<100:=by lia
 clear a b;revert m;decide +kernel
def bP.len(h:bP l):1<=l.length/\l.length<=11:=by
 rcases h with h|⟨a,b,k,rfl,h,e,c,d⟩
 .have:=(cJ l).mp h;lia
 .have:=(cJ a).mp h;have hl:=ng (k:=k) ⋯ c;rw[len_list,d]at hl;simp;lia
def bP.Hs(h:bP x.cps.toList):∃y r,OT x B4=y::r/\dX y.cps.toList=bD:=by
 rcases h with h|⟨a,b,k,e,h,_⟩
 .show⟨x,[],qY (ip h),h⟩
 .have⟨r,c⟩:=wJ e (ip h) (by decide);show⟨_,r,c,by simpa using h⟩
theorem fq:∀(ps:List Str) (a:Array Nat),(ps.foldl (λa p=>a++tv.cps++p.cps) a).toList=a.toList++(ps.map λp=>p.cps.toList).flatten
 |[],a=>by simp
 |p::ps,a=>by
  rw[Vp,fq ps];have:tv.cps=#[]:=rfl;simp[this]
def join_list(ts:List Str):(Ub tv ts).cps.toList=(ts.map λp=>p.cps.toList).flatten:=by
 cases ts with
 |nil=>rfl
 |cons t ts =>
  change(ts.foldl (λa p=>a++tv.cps++p.cps) t.cps).toList=_;rw[fq];simp
abbrev one(c:Nat):Str:=⟨#[c]⟩
def join_ones(a:List Nat):(Ub tv (a.map one)).cps.toList=a:=by
 rw[join_list,mh];induction a with
 |nil=>rfl
 |cons c a b=>rw[g8,Y2,b];rfl
def qi(a:List Nat)(h:a.length<=100):ZG tv (a.map one)=bD:=by
 unfold ZG;have e:=PySem.StrLaws.joinTotal tv (a.map one);have b:tv.length=0:=rfl;have es:((a.map one).map (·.length)).sum=a.length:=by
  rw[mh];clear h e;induction a with
  |nil=>rfl
  |cons c a d=>rw[g8,List.sum_cons,d];change 1+a.length=a.length+1;lia
 rw[e,b,es];have f:a.length+(a.map one).length * 0<=100:=by lia
 revert f;generalize a.length+(a.map one).length * 0=m;revert m;decide
def Eo(x:Str)(j:Nat):(PySem.StrLaws.sliceText x b6 (a5 (j:Int))).cps.toList=x.cps.toList.take j:=by
 by_cases h:j<=x.cps.toList.length
 .rw[PySem.StrLaws.sliceText_to (x:=x) ⟨⋯,⋯⟩];simp
 .have e:PySem.StrLaws.sliceText x b6 (a5 (j:Int))=PySem.StrLaws.sliceText x b6 (a5 (x.length:Int)):=by
   unfold PySem.StrLaws.sliceText;have hl:=len_list x;have:PySem.Builtin.Str.strSliceIndices b6 (a5 (j:Int)) 1 x.length=PySem.Builtin.Str.strSliceIndices b6 (a5 (x.length:Int)) 1 x.length:=by
    have a:¬((j:Int)<0):=by lia
    have b:¬((x.length:Int)<0):=by lia
    have e1:min (j:Int) (x.length:Int)=x.length:=by lia
    simp[PySem.Builtin.Str.strSliceIndices,a,b,e1]
   rw[this]
  have hl:=len_list x;rw[e,PySem.StrLaws.sliceText_to (x:=x) ⟨⋯,⋯⟩,Zy,K1 (l:=x.cps.toList) (i:=j) ⋯];change(x.cps.toList.take ((x.length:Int) - 0).toNat).toArray.toList=_;rw[K1 ⋯]
def vE(d:dX a=bD)(e:∀c∈b,low c=bD):dX ((a++b).take 8)=bD:=by
 have h:=(cJ a).mp d;show(cJ _).mpr ⟨by simp;lia,by simp;lia,λc f=>?_⟩;have g:=X' f;rcases i9.mp g with m|m
 .show h.2.2 c m
 .have:=e c m;simp[low]at this;lia
def jR(a:∀c∈b,low c=bD)(d:1<=b.length)(e:b.length<=8):dX b=bD :=
 (cJ b).mpr ⟨d,e,λc f=>by have:=a c f;simp[low]at this;lia⟩
abbrev small:Str:="abcdefghijklmnopqrstuvwxyz"
def sj:small.cps.toList=(il 26).map (97+·):=by decide +kernel
def lG(a:0<=k)(b:k<26):Ic small.cps.toList k=a5 (97+k.toNat):=by
 have⟨j,rfl⟩:=Rx a;show cQ ?_;rw[sj,pa,Sz ⋯];rfl
def sm(h:j<26):low (97+j)=bD:=by simp[low];lia
abbrev nh(k:Nat):Str:=⟨#[97+k / 26,97+k % 26]⟩
def so(h:k<40):dX (nh k).cps.toList=bD:=by
 show jR (λc a=>?_) (by change 1<=2;decide) (by change 2<=8;decide);have b:c=97+k / 26\/c=97+k % 26:=by simpa[nh] using a
 rcases b with rfl|rfl
 .show sm ⋯
 .show sm ⋯
theorem lH [DecidableEq α]:∀{l m:List α},l.Nodup->(∀x∈l,x∈m)->l.length<=m.length
 |[],_,_,_=>mx _
 |x::l,m,c,h=>by
  have⟨d,e⟩:=nC.mp c;have a:=h x kj;have f:=lH (l:=l) (m:=m.erase x) e λy b=>(Ye (by rintro rfl;show d b)).mpr (h y (i8 _ b));rw[Wy a]at f;have:0<m.length:=Xe a;rw[k9];lia
abbrev bV:List Str:=(il 40).map nh
def oP:bV.Nodup:=by
 decide +kernel
def sr(names:List Str)(h:names.length<40):∃x∈bV,x∉names:=by
 apply Vb;intro a;have:∀x∈bV,x∈names:=λx b=>Vb λc=>a ⟨x,b,c⟩;have:=lH oP this;simp[bV]at this;lia
end H_
namespace TM
open PySem L2 H_
def oQ(a:0<=z)(h:z<2 ^ 62):Kg .Iw [(k,.int z)]=a5 ((il z.toNat).map λi:Nat=>(Kd.loc,U.int (0+(i:Int)))):=by
 rw[qh,uZ,ê ⋯]
def kF(a:x.length<=cK)(h:Ic x.cps.toList i=a5 c):iC (k,.str x) (.int i)=a5 (.loc,.str (H_.one c)):=by
 simp only[iC];rw[ê a,h];rfl
def lI:small.length<=cK:=by decide
def cF{ds:List Int}{i:Nat}(h:i<ds.length):Ic (ds.map U.int) (i:Int)=a5 (.int ((ds[i]?).getD 0)):=cQ (by simp[h])
theorem eQ:∀(ss:List Str),strsOf (ss.map U.str)=a5 ss
 |[]=>rfl
 |s::ss=>by change(strsOf (ss.map U.str)).map (s::·)=_;rw[eQ ss];rfl
abbrev oR(a:E):Fn:=⟨"_law_name",2,6,[.set 2 (.cst (.str "abcdefghijklmnopqrstuvwxyz")),.set 3 (.Ku .join (.cst (.str "")) [.comp 1 cb .Iw [.bin .add (.cst (.int 1)) (.bin .mod (.idx (.var 0) (.cst (.int 0))) (.cst (.int 8)))] [] (.idx (.var 3) (.bin .mod (.idx (.var 1) (.bin .add (.cst (.int 4)) (.var 0))) (.cst (.int 26))))]),.ite (.cmp .gt (.bi .len [.var 1]) (.cst (.int 0))) [.set 4 (.idx (.Ku .split (.idx (.var 1) (.bin .mod (.idx (.var 0) (.cst (.int 1))) (.bi .len [.var 1]))) [.cst (.str "/")]) (.cst (.int 0))),.ite (.cmp .eq (.bin .mod (.idx (.var 0) (.cst (.int 2))) (.cst (.int 4))) (.cst (.int 1))) [.set 3 (.K_ (.bin .add (.var 4) (.var 3)) [] [.cst (.int 8)])] [],.ite (.cmp .eq (.bin .mod (.idx (.var 0) (.cst (.int 2))) (.cst (.int 4))) (.cst (.int 2))) [.set 3 (.bin .add (.bin .add (.var 4) (.cst (.str "/"))) (.bi .str [.bin .add (.cst (.int 2)) (.bin .mod (.idx (.var 0) (.cst (.int 3))) a)]))] []] [],.set 5 (.bin .add (.lst [.var 3]) (.comp 1 cb .Iw [.cst (.int 40)] [] (.bin .add (.idx (.var 3) (.bin .Kc (.var 0) (.cst (.int 26)))) (.idx (.var 3) (.bin .mod (.var 0) (.cst (.int 26))))))),.ret (.idx (.comp 1 cb .seq [.var 5] [.cmp .HC (.var 0) (.var 2)] (.var 0)) (.cst (.int 0)))]⟩
abbrev Bz(a:E):Prop:=∀(Γ:Tab) (ds:List Int),12<=ds.length->(∀d∈ds,0<=d)->∃m:Int,0<m/\m<=98/\∀o1 o2 o3 o4 o5,Run (ev Γ a) [a5 (.any,.lst (ds.map .int)),o1,o2,o3,o4,o5] (.loc,.int m) [a5 (.any,.lst (ds.map .int)),o1,o2,o3,o4,o5]
@[reducible]def Gn:E:=.cst (.int 98)
def BA:Bz Gn:=λ_ _ _ _=>⟨98,by decide,by decide,λ_ _ _ _ _=>aw⟩
section
variable{Γ:Tab}{ds:List Int}
abbrev dd(ds:List Int)(i:Nat):Int:=(ds[i]?).getD 0
def dB(a:∀d∈ds,0<=d)(i:Nat):0<=dd ds i:=by
 unfold dd;cases e:ds[i]? with
 |none=>simp
 |some d=>show a d (pd e)
def oS(p:12<=ds.length)(g:∀d∈ds,0<=d):∃b:List Nat,(∀c∈b,low c=bD)/\1<=b.length/\b.length<=8 /\
  Run (ev Γ (.comp 1 cb .Iw [.bin .add (.cst (.int 1)) (.bin .mod (.idx (.var 0) (.cst (.int 0))) (.cst (.int 8)))] [] (.idx (.var 3) (.bin .mod (.idx (.var 1) (.bin .add (.cst (.int 4)) (.var 0))) (.cst (.int 26))))))
   [a5 (.any,.lst (ds.map .int)),o1,a5 (.loc,.str small),o3,o4,o5] (.own,.lst ((b.map H_.one).map .str)) [a5 (.any,.lst (ds.map .int)),o1,a5 (.loc,.str small),o3,o4,o5]:=by
 have hz:=dB g 0;let n:=(1+dd ds 0 % 8).toNat;have h:n<=8/\1<=n:=by change(1+dd ds 0 % 8).toNat<=8/\1<=(1+dd ds 0 % 8).toNat;lia
 let f:Nat->Nat:=λi=>97+(dd ds (4+i) % 26).toNat;show⟨(il n).map f,?_,by simp;show h.2,by simp;show h.1,?_⟩
 .intro c m;obtain⟨i,_,rfl⟩:=lx.mp m;have:=dB g (4+i);show sm ⋯
 .have a:Run (bG 1 cb (aN Γ []) (ev Γ (.idx (.var 3) (.bin .mod (.idx (.var 1) (.bin .add (.cst (.int 4)) (.var 0))) (.cst (.int 26))))) [(.loc,.int (1+dd ds 0 % 8))] ((il n).map λi:Nat=>(Kd.loc,U.int (0+(i:Int)))) [])
    [a5 (.any,.lst (ds.map .int)),o1,a5 (.loc,.str small),o3,o4,o5] ([]++((il n).map λi:Nat=>(Kd.loc,U.int (0+(i:Int)))).map λx=>match x.2 with|.int j=>.str (H_.one (97+(dd ds (4+j.toNat) % 26).toNat))|u=>u) [a5 (.any,.lst (ds.map .int)),o1,a5 (.loc,.str small),o3,o4,o5]:=by
   have q:(8:Nat)<=cK:=by decide
   show yK (by show trivial) _ (λ_=>.loc) _ _ (by simp;lia) (λx a=>?_) (λx a=>?_)
   .obtain⟨i,_,rfl⟩:=lx.mp a;show .inl rfl
   .have⟨i,hi,rfl⟩:=lx.mp a;have r:i<n:=by simpa using hi
    have l:Ic (ds.map U.int) (4+(0+(i:Int)))=a5 (.int (dd ds (4+i))):=by
     rw[show(4+(0+(i:Int)))=((4+i:Nat):Int) by lia];show cF ⋯
    have s:=dB g (4+i);have hs:=lG (k:=dd ds (4+i) % 26) ⋯ ⋯;show⟨iT,?_,bg⟩;simp only[Uv,L3];rw[Uv]at l
    repeat' (first|show aP l|show kF lI hs|sizeOf_list_dec)
  have e:((il n).map f).map H_.one=(il n).map λi=>H_.one (97+(dd ds (4+i) % 26).toNat):=by rw[mh];rfl
  rw[e];have o:([]++((il n).map λi:Nat=>(Kd.loc,U.int (0+(i:Int)))).map λx=>match x.2 with|.int j=>U.str (H_.one (97+(dd ds (4+j.toNat) % 26).toNat))|u=>u)=((il n).map λi=>H_.one (97+(dd ds (4+i) % 26).toNat)).map U.str:=by
   rw[my,mh,mh];apply x4;intro i _;simp
  rw[o]at a;show cv (rs:=[(.loc,.int (1+dd ds 0 % 8))]) ?_ trivial (oQ ⋯ ⋯) a
  repeat' (first|show aP (cF (i:=0) ⋯)|sizeOf_list_dec)
def ka(h:x.length+y.length<=cK):JS .add (k,.str x) (k',.str y)=a5 (.loc,.str (x++y)):=by
 simp only[JS,uW];rw[ê h]
theorem gn:∀(ss:List Str) (n:Nat),b_ n (ss.map U.str)=bD
 |[],n=>by simp[b_]
 |s::ss,n=>by simp only[g8,b_,gn ss n,Wz];cases n<;>rfl
theorem qj(x:Str):∀(ss:List Str),((ss.map U.str).any λy=>bI y (.str x))=cL (x∈ss)
 |[]=>by simp
 |s::ss=>by
  rw[g8,SI,qj x ss];have:bI (.str s) (.str x)=cL (x=s):=by
   simp only[bI];by_cases h:x=s
   .subst h;simp
   .have h':s≠x:=λz=>h z.symm;simp[h,h']
  rw[this,J7];simp
def BB(x:Str)(ss:List Str):Nr (.str x) (ss.map U.str)=a5 (cL (x∈ss)):=by
 unfold Nr;rw[ê ⟨by rfl,gn ss 50⟩,qj]
def fR{x:Str}{ss:List Str}:bu .HC (.str x) (.lst (ss.map U.str))=a5 (cL (x∉ss)):=by
 change(Nr (.str x) (ss.map U.str)).map (!·)=_;rw[BB];simp
def qk:Run (ev Γ (.comp 1 cb .Iw [.cst (.int 40)] [] (.bin .add (.idx (.var 3) (.bin .Kc (.var 0) (.cst (.int 26)))) (.idx (.var 3) (.bin .mod (.var 0) (.cst (.int 26)))))))
   [o0,o1,a5 (.loc,.str small),o3,o4,o5] (.own,.lst (bV.map .str)) [o0,o1,a5 (.loc,.str small),o3,o4,o5]:=by
 have e:(100:Nat)<=cK:=by decide
 have a:Run (bG 1 cb (aN Γ []) (ev Γ (.bin .add (.idx (.var 3) (.bin .Kc (.var 0) (.cst (.int 26)))) (.idx (.var 3) (.bin .mod (.var 0) (.cst (.int 26)))))) [(.loc,.int 40)] ((il 40).map λi:Nat=>(Kd.loc,U.int (0+(i:Int)))) [])
   [o0,o1,a5 (.loc,.str small),o3,o4,o5] ([]++((il 40).map λi:Nat=>(Kd.loc,U.int (0+(i:Int)))).map λx=>match x.2 with|.int j=>.str (nh j.toNat)|u=>u) [o0,o1,a5 (.loc,.str small),o3,o4,o5]:=by
  show yK (by show trivial) _ (λ_=>.loc) _ _ (by simp;lia) (λx a=>?_) (λx a=>?_)
  .obtain⟨i,_,rfl⟩:=lx.mp a;show .inl rfl
  .have⟨i,hi,rfl⟩:=lx.mp a;have f:i<40:=by simpa using hi
   show⟨iT,?_,bg⟩;simp only[Uv,L3];have c:=lG (k:=(i:Int) / 26) ⋯ ⋯;have d:=lG (k:=(i:Int) % 26) ⋯ ⋯;have e1:((i:Int) / 26).toNat=i / 26:=by lia
   have b:((i:Int) % 26).toNat=i % 26:=by lia
   rw[e1]at c;rw[b]at d;have ad:JS .add (.loc,.str (H_.one (97+i / 26))) (.loc,.str (H_.one (97+i % 26)))=a5 (.loc,.str (nh i)):=by
    have:=ka (k:=.loc) (k':=.loc) (x:=H_.one (97+i / 26)) (y:=H_.one (97+i % 26)) (by change 1+1<=cK;lia);rw[this];rfl
   repeat' (first|show kF lI c|show kF lI d|show ad|sizeOf_list_dec)
 have b:([]++((il 40).map λi:Nat=>(Kd.loc,U.int (0+(i:Int)))).map λx=>match x.2 with|.int j=>U.str (nh j.toNat)|u=>u)=bV.map U.str:=by
  rw[my,mh,bV,mh];apply x4;intro i _;simp
 rw[b]at a;show cv (rs:=[(.loc,.int 40)]) (by repeat' sizeOf_list_dec) trivial (oQ ⋯ ⋯) a
def vF{names ts:List Str}(hl:ts.length<=1000):Run (ev Γ (.comp 1 cb .seq [.var 5] [.cmp .HC (.var 0) (.var 2)] (.var 0)))
   [o0,a5 (.any,.lst (names.map .str)),o2,o3,o4,a5 (.own,.lst (ts.map .str))] (.own,.lst ((ts.filter λx=>cL (x∉names)).map .str)) [o0,a5 (.any,.lst (names.map .str)),o2,o3,o4,a5 (.own,.lst (ts.map .str))]:=by
 have c:(1000:Nat)<=cK:=by decide
 have a:=lF (cond:=aN Γ [.cmp .HC (.var 0) (.var 2)]) (elt:=ev Γ (.var 0)) (src:=[(.bor 5,.lst (ts.map .str))]) (st:=[o0,a5 (.any,.lst (names.map .str)),o2,o3,o4,a5 (.own,.lst (ts.map .str))]) ⟨⟨.own,rfl,rfl⟩,trivial⟩
  (λx=>match x.2 with|.str y=>cL (y∉names)|_=>cb) (λx=>x.2) (λ_=>.loc) ((ts.map U.str).map λu=>(kE (.bor 5),u)) [] (by simp;lia) (λx a=>by obtain⟨u,_,rfl⟩:=lx.mp a;show .inl rfl) (λx a=>by
   have⟨u,b,rfl⟩:=lx.mp a;obtain⟨y,_,rfl⟩:=lx.mp b;show⟨cT ?_,ah rfl,bg⟩
   repeat' (first|show fR|sizeOf_list_dec))
 have e:([]++(((ts.map U.str).map λu=>(kE (.bor 5),u)).filter λx=>match x.2 with|.str y=>cL (y∉names)|_=>cb).map λx=>x.2)=(ts.filter λx=>cL (x∉names)).map U.str:=by
  rw[my,Zq,Zq,mh,mh];rfl
 rw[e]at a;show cv (rs:=[(.bor 5,.lst (ts.map .str))]) (by repeat' sizeOf_list_dec) ⟨⟨.own,rfl,rfl⟩,trivial⟩ rfl a
end
section
variable{Γ:Tab}{ds:List Int}
def vG{names:List Str}(d:names.length<40)(f:bP a.cps.toList):∃x st',bP x.cps.toList/\x∉names /\
  Run (execs Γ [.set 5 (.bin .add (.lst [.var 3]) (.comp 1 cb .Iw [.cst (.int 40)] [] (.bin .add (.idx (.var 3) (.bin .Kc (.var 0) (.cst (.int 26)))) (.idx (.var 3) (.bin .mod (.var 0) (.cst (.int 26))))))),
  .ret (.idx (.comp 1 cb .seq [(.var 5)] [(.cmp .HC (.var 0) (.var 2))] (.var 0)) (.cst (.int 0)))]) [o0,a5 (.any,.lst (names.map .str)),a5 (.loc,.str small),a5 (.loc,.str a),o4,b6] (.rt .loc (.str x)) st':=by
 have o:(1000:Nat)<=cK:=by decide
 have⟨y,g,i⟩:=sr names d;have j:(a::bV).filter (λx=>cL (x∉names))≠[]:=λz=>by
  have:y∈(a::bV).filter (λx=>cL (x∉names)):=Lj.mpr ⟨i8 _ g,by simpa using i⟩;rw[z]at this;cases this
 cases e:(a::bV).filter (λx=>cL (x∉names)) with
 |nil=>show absurd e j
 |cons x b =>
  have l:x∈(a::bV).filter (λx=>cL (x∉names)):=by rw[e];simp
  have⟨m,n⟩:=Lj.mp l;have c:=vF (Γ:=Γ) (names:=names) (ts:=a::bV) (by simp[bV]) (o0:=o0) (o2:=a5 (.loc,.str small)) (o3:=a5 (.loc,.str a)) (o4:=o4);rw[e]at c;have ad:JS .add (.own,.lst [.str a]) (.own,.lst (bV.map U.str))=a5 (.own,.lst ((a::bV).map U.str)):=by
   simp only[JS,uW];rw[ê ⟨by simp[bV];lia,rfl,rfl⟩];rfl
  show⟨x,[o0,a5 (.any,.lst (names.map .str)),a5 (.loc,.str small),a5 (.loc,.str a),o4,a5 (.own,.lst ((a::bV).map .str))],?_,by simpa using n,?_⟩
  .rcases gj.mp m with rfl|h
   .show f
   .have⟨k,hk,rfl⟩:=lx.mp h;show .inl (so (by simpa using hk))
  .show ay (st2:=[o0,a5 (.any,.lst (names.map .str)),a5 (.loc,.str small),a5 (.loc,.str a),o4,a5 (.own,.lst ((a::bV).map .str))]) (bL (x:=(.own,.lst [.str a])) (dA (ae (ah rfl) aj) (by(first|show trivial|show⟨⟨_,rfl,rfl⟩,trivial⟩|show⟨⟨_,rfl,rfl⟩,⟨_,rfl,rfl⟩,trivial⟩)) (aJ bg aX) (by change 1<=cK;lia)) qk trivial ad) bw ?_;show bx (bh c aw trivial (aP (by change Ic _ ((0:Nat):Int)=_;show cQ rfl))) cB
def yP(N:Bz l)(B:12<=ds.length)(j:∀d∈ds,0<=d){names:List Str}(O:names.length<40)(Q:∀x∈names,bP x.cps.toList):
  ∃x,bP x.cps.toList/\x∉names/\bS Γ (oR l) [.lst (ds.map .int),.lst (names.map .str)]=a5 (.ok (.loc,.str x)):=by
 have⟨m,C,Yo,T⟩:=N Γ ds B j;have h8:(1000:Nat)<=cK:=by decide
 have⟨b,D,Y,G,PU⟩:=oS (Γ:=Γ) B j (o1:=a5 (.any,.lst (names.map .str))) (o3:=b6) (o4:=b6) (o5:=b6);have PV:j3 .join (.str "") [(.own,.lst ((b.map H_.one).map U.str))]=a5 (.loc,.str (Ub tv (b.map H_.one))):=by
  change(strsOf ((b.map H_.one).map U.str)).bind _=_;rw[eQ];change(if ZG tv (b.map H_.one)=bD then _ else _)=_;rw[ê (qi b ⋯)];rfl
 let a:Str:=Ub tv (b.map H_.one);have n:a.cps.toList=b:=join_ones b;have H:dX a.cps.toList=bD:=by rw[n];show jR D Y G
 have Vc:a.length<=8:=by rw[len_list,n];show G
 have e:∀{f:Fl} {st':au} (ss:List S),Run (execs Γ ss) [a5 (.any,.lst (ds.map .int)),a5 (.any,.lst (names.map .str)),a5 (.loc,.str small),a5 (.loc,.str a),b6,b6] f st' ->
   Run (execs Γ (.set 2 (.cst (.str "abcdefghijklmnopqrstuvwxyz"))::.set 3 (.Ku .join (.cst (.str "")) [.comp 1 cb .Iw [.bin .add (.cst (.int 1)) (.bin .mod (.idx (.var 0) (.cst (.int 0))) (.cst (.int 8)))] [] (.idx (.var 3) (.bin .mod (.idx (.var 1) (.bin .add (.cst (.int 4)) (.var 0))) (.cst (.int 26))))])::ss))
    [a5 (.any,.lst (ds.map .int)),a5 (.any,.lst (names.map .str)),b6,b6,b6,b6] f st':=λss h=>ay (r:=(.loc,.str small)) aw aV (ay (t8 aw (ae PU aj) (by(first|show trivial|show⟨⟨_,rfl,rfl⟩,trivial⟩|show⟨⟨_,rfl,rfl⟩,⟨_,rfl,rfl⟩,trivial⟩)) PV) aV h)
 have k:∀(g:Str) (o4:Option (Kd×U)),bP g.cps.toList->∃x st',bP x.cps.toList/\x∉names/\Run (execs Γ [.set 5 (.bin .add (.lst [.var 3]) (.comp 1 cb .Iw [.cst (.int 40)] [] (.bin .add (.idx (.var 3) (.bin .Kc (.var 0) (.cst (.int 26)))) (.idx (.var 3) (.bin .mod (.var 0) (.cst (.int 26))))))),
  .ret (.idx (.comp 1 cb .seq [(.var 5)] [(.cmp .HC (.var 0) (.var 2))] (.var 0)) (.cst (.int 0)))]) [a5 (.any,.lst (ds.map .int)),a5 (.any,.lst (names.map .str)),a5 (.loc,.str small),a5 (.loc,.str g),o4,b6] (.rt .loc (.str x)) st':=λg o4 o=>vG O o
 by_cases hz:0<names.length
 .
  have hi:(dd ds 1).toNat % names.length<names.length:=è _ hz;let nm:=names[(dd ds 1).toNat % names.length]'hi;have I:bP nm.cps.toList:=Q _ (K7 hi);have⟨y,r,Jm,p⟩:=I.Hs;have QB:y.length<=8:=by rw[len_list];show((cJ _).mp p).2.1
  have Vd:nm.length<=11:=by rw[len_list];show I.len.2
  have XH:=dB j 1;have Jq:Ic (names.map U.str) (dd ds 1 % ((names.map U.str).length:Nat))=a5 (.str nm):=by
   rw[dr,show dd ds 1 % (names.length:Nat)=(((dd ds 1).toNat % names.length:Nat):Int) by rw[Int.natCast_emod,SS XH]];show cQ (by simp[hi];rfl)
  have NT:j3 .split (.str nm) [(.loc,.str "/")]=a5 (.own,.lst ((y::r).map U.str)):=by
   change(if (RG "/"==0)=cb/\nm.length+2<=cK then a5 (Kd.own,U.lst ((OT nm "/").map .str)) else b6)=_;rw[ê ⟨by decide,⋯⟩,show("/":Str)=B4 from rfl,Jm]
  have hp:(0:Int)<((names.map U.str).length:Nat):=by simp;lia
  have XI:iC (.own,.lst ((y::r).map U.str)) (.int 0)=a5 (.loc,.str y):=aP (by change Ic _ ((0:Nat):Int)=_;show cQ rfl);have ab:=dB j 2;have Yp:=dB j 3;have i1:Ic (ds.map U.int) 1=a5 (.int (dd ds 1)):=cF (i:=1) ⋯;have J:Ic (ds.map U.int) 2=a5 (.int (dd ds 2)):=cF (i:=2) ⋯;have i3:Ic (ds.map U.int) 3=a5 (.int (dd ds 3)):=cF (i:=3) ⋯;have go:∀g:Str,bP g.cps.toList->Run (execs Γ [.ite (.cmp .eq (.bin .mod (.idx (.var 0) (.cst (.int 2))) (.cst (.int 4))) (.cst (.int 1)))
    [.set 3 (.K_ (.bin .add (.var 4) (.var 3)) [] [.cst (.int 8)])]
    [],
   .ite (.cmp .eq (.bin .mod (.idx (.var 0) (.cst (.int 2))) (.cst (.int 4))) (.cst (.int 2)))
    [.set 3 (.bin .add (.bin .add (.var 4) (.cst (.str "/"))) (.bi .str [.bin .add (.cst (.int 2)) (.bin .mod (.idx (.var 0) (.cst (.int 3))) l)]))]
    []]) [a5 (.any,.lst (ds.map .int)),a5 (.any,.lst (names.map .str)),a5 (.loc,.str small),a5 (.loc,.str a),a5 (.loc,.str y),b6] .nx [a5 (.any,.lst (ds.map .int)),a5 (.any,.lst (names.map .str)),a5 (.loc,.str small),a5 (.loc,.str g),a5 (.loc,.str y),b6] ->
    ∃x,bP x.cps.toList/\x∉names/\bS Γ (oR l) [.lst (ds.map .int),.lst (names.map .str)]=a5 (.ok (.loc,.str x)):=λg o hr=>by
   have⟨x,st',q,s,t⟩:=k g (a5 (.loc,.str y)) o;show⟨x,q,s,aH (st0:=[a5 (.any,.lst (ds.map .int)),a5 (.any,.lst (names.map .str)),b6,b6,b6,b6]) rfl (.inr rfl) rfl (e _ (gW (st1:=[a5 (.any,.lst (ds.map .int)),a5 (.any,.lst (names.map .str)),a5 (.loc,.str small),a5 (.loc,.str a),b6,b6]) ?_ (ay (r:=(.loc,.str y)) (st1:=[a5 (.any,.lst (ds.map .int)),a5 (.any,.lst (names.map .str)),a5 (.loc,.str small),a5 (.loc,.str a),b6,b6]) ?_ aV hr) t))⟩
   .repeat' (first|show jQ (by simp;lia)|sizeOf_list_dec)
   .repeat' (first|show bM hp|show aP Jq|show aP i1|show NT|show XI|sizeOf_list_dec)
  have u:∀{c:Bool} {o3 o4:Option (Kd×U)},(dd ds 2 % 4==1)=c->Run (HP Γ (.cmp .eq (.bin .mod (.idx (.var 0) (.cst (.int 2))) (.cst (.int 4))) (.cst (.int 1)))) [a5 (.any,.lst (ds.map .int)),a5 (.any,.lst (names.map .str)),a5 (.loc,.str small),o3,o4,b6] c [a5 (.any,.lst (ds.map .int)),a5 (.any,.lst (names.map .str)),a5 (.loc,.str small),o3,o4,b6]:=λv=>by
   repeat' (first|show aP J|show eu v|sizeOf_list_dec)
  have w:∀{c:Bool} {o3 o4:Option (Kd×U)},(dd ds 2 % 4==2)=c->Run (HP Γ (.cmp .eq (.bin .mod (.idx (.var 0) (.cst (.int 2))) (.cst (.int 4))) (.cst (.int 2)))) [a5 (.any,.lst (ds.map .int)),a5 (.any,.lst (names.map .str)),a5 (.loc,.str small),o3,o4,b6] c [a5 (.any,.lst (ds.map .int)),a5 (.any,.lst (names.map .str)),a5 (.loc,.str small),o3,o4,b6]:=λv=>by
   repeat' (first|show aP J|show eu v|sizeOf_list_dec)
  by_cases z:dd ds 2 % 4=1
  .have XJ:y.length+a.length<=cK:=by lia
   have Px:oj (.loc,.str (y++a)) b6 (a5 8)=a5 (.loc,.str (PySem.StrLaws.sliceText (y++a) b6 (a5 8))):=by
    simp only[oj];rw[ê (by rw[len_list];change(y.cps++a.cps).toList.length<=_;rw[Sn,j0,<-len_list,<-len_list];lia)]
   show go (PySem.StrLaws.sliceText (y++a) b6 (a5 8)) (.inl ?_) ?_
   .have:=Eo (y++a) 8;rw[show((8:Nat):Int)=8 from rfl]at this;rw[this];change dX ((y.cps++a.cps).toList.take 8)=bD;rw[Sn];show vE p (by rw[n];show D)
   .show gW (u (by simp[z])) (ay (yH (bL (ah rfl) (ah rfl) trivial (ka XJ)) yF (yG aw) trivial Px) aV aQ) (dw (w (by simp[z])) aQ aQ)
  .by_cases A:dd ds 2 % 4=2
   .have SJ:=VI (dd ds 3) (show m≠0 by lia);have KQ:=Td (dd ds 3) C;have Py:0<=2+dd ds 3 % m:=by lia
    have L:2+dd ds 3 % m<=99:=by lia
    have XM:=ng Py L;have Ny:Js .str [(.loc,.int (2+dd ds 3 % m))]=a5 (.loc,.str (fu (2+dd ds 3 % m))):=by
     simp only[Js,gT,xg];rw[ê (by
      have:(2+dd ds 3 % m).natAbs<2 ^ 7:=by lia
      have h2:(2+dd ds 3 % m).natAbs≠0:=by lia
      have:=(Ñ h2).mpr this;lia)]
     rfl
    have Tz:(y++("/":Str)).length=y.length+1:=by rw[len_list,len_list];change(y.cps++_).toList.length=_;rw[Sn,j0];rfl
    have TB:Run (ev Γ (.bin .add (.cst (.int 2)) (.bin .mod (.idx (.var 0) (.cst (.int 3))) l))) [a5 (.any,.lst (ds.map .int)),a5 (.any,.lst (names.map .str)),a5 (.loc,.str small),a5 (.loc,.str a),a5 (.loc,.str y),b6] (.loc,.int (2+dd ds 3 % m)) [a5 (.any,.lst (ds.map .int)),a5 (.any,.lst (names.map .str)),a5 (.loc,.str small),a5 (.loc,.str a),a5 (.loc,.str y),b6]:=bL aw (bL (bh (ba rfl) aw trivial (aP i3)) (T _ _ _ _ _) trivial (bM C)) trivial d5;show go (y++"/"++fu (2+dd ds 3 % m)) (.inr ⟨y.cps.toList,(fu (2+dd ds 3 % m)).cps.toList,2+dd ds 3 % m,?_,p,⋯,L,rfl⟩) ?_
    .change((y.cps++#[47])++(fu _).cps).toList=_;simp
    .show dw (u (by simp[A])) aQ (gW (w (by simp[A])) (ay (bL (bL (ah rfl) aw trivial (ka (by change y.length+1<=cK;lia))) (dn (ae TB aj) trivial Ny) trivial (ka (by rw[Tz];lia))) aV aQ) aQ)
   .show go a (.inl H) ?_;show dw (u (by simp[z])) aQ (dw (w (by simp[A])) aQ aQ)
 .have⟨x,st',q,s,t⟩:=k a b6 (.inl H);show⟨x,q,s,aH (st0:=[a5 (.any,.lst (ds.map .int)),a5 (.any,.lst (names.map .str)),b6,b6,b6,b6]) rfl (.inr rfl) rfl (e _ (dw (st1:=[a5 (.any,.lst (ds.map .int)),a5 (.any,.lst (names.map .str)),a5 (.loc,.str small),a5 (.loc,.str a),b6,b6]) ?_ aQ t))⟩
  repeat' (first|show jQ (ì (by simp only[dr];lia))|sizeOf_list_dec)
end
abbrev lJ(Γ:Tab):Prop:=∀(ns:List Int) (k:Nat),k<2 ^ 62->∃z,Γ "_law_cell" [.lst (ns.map .int),.int (k:Nat)]=a5 (.ok (.loc,.int z))
abbrev iU(Γ:Tab):Prop:=∀(c:Int) (n:Nat),n<1000->∃ds:List Int,ds.length=n/\(∀d∈ds,0<=d)/\Γ "_law_drawn" [.int c,.int (n:Nat)]=a5 (.ok (.own,.lst (ds.map .int)))
abbrev yQ(Γ:Tab):Prop:=∀(ds:List Int) (names:List Str),12<=ds.length->(∀d∈ds,0<=d)->names.length<40->(∀x∈names,bP x.cps.toList)->∃x,bP x.cps.toList/\x∉names/\Γ "_law_name" [.lst (ds.map .int),.lst (names.map .str)]=a5 (.ok (.loc,.str x))
abbrev fNames:Fn:=⟨"_law_names",3,5,[.set 3 (.lst []),.Ij cb [4] .Iw [.var 2] [.app 3 (.call "_law_name" [.call "_law_drawn" [.call "_law_cell" [.var 0,.bin .add (.var 1) (.var 4)],.cst (.int 12)],.var 3])],.ret (.var 3)]⟩
theorem vH(hc:lJ Γ)(hd:iU Γ)(hn:yQ Γ){ns:List Int}(hb:b<1000)(hm:m<40):
    ∃names:List Str,names.length=m/\names.Nodup/\(∀x∈names,bP x.cps.toList)/\bS Γ fNames [.lst (ns.map .int),.int (b:Nat),.int (m:Nat)]=a5 (.ok (.own,.lst (names.map .str))):=by
  have hsz:(1000:Nat)<=cK:=by decide
  let I:List (Kd×U)->au->Prop:=λxs st=>∃(names:List Str) (us:List U) (o:Option (Kd×U)),st=[a5 (.any,.lst (ns.map .int)),a5 (.loc,.int (b:Nat)),a5 (.loc,.int (m:Nat)),a5 (.own,.lst us),o]/\us=names.map .str/\names.Nodup/\(∀x∈names,bP x.cps.toList)/\names.length+xs.length=m/\fQ m xs;have loop:=ua (t:=cb) (is:=[4]) (body:=execs Γ [.app 3 (.call "_law_name" [.call "_law_drawn" [.call "_law_cell" [.var 0,.bin .add (.var 1) (.var 4)],.cst (.int 12)],.var 3])]) (rs:=[(.loc,.int (m:Nat))]) I (λ_ _ _=>trivial) (λx xs st HS=>by
    obtain⟨names,us,o,e,e2,HX,hw,hl,hr⟩:=HS;subst e;obtain⟨i,hi,rfl,Jp,hlen⟩:=hr.cons;rw[k9]at hl;obtain⟨z,hz⟩:=hc ns (b+i) ⋯;rw[Int.natCast_add]at hz;obtain⟨ds,d1,d2,d3⟩:=hd z 12 ⋯;obtain⟨x,x1,x2,x3⟩:=hn ds names ⋯ d2 ⋯ hw;rw[<-e2]at x3;refine⟨[a5 (.any,.lst (ns.map .int)),a5 (.loc,.int (b:Nat)),a5 (.loc,.int (m:Nat)),a5 (.own,.lst us),a5 (.loc,.int (i:Nat))],[a5 (.any,.lst (ns.map .int)),a5 (.loc,.int (b:Nat)),a5 (.loc,.int (m:Nat)),a5 (.own,.lst (us++[.str x])),a5 (.loc,.int (i:Nat))],aV,?_,⟨names++[x],_,_,rfl,by simp[e2],?_,?_,by simp;lia,Jp⟩⟩
    · repeat' (first|exact hz|exact d3|exact x3|exact(by rw[e2,dr];lia)|sizeOf_list_dec)
    · rw[ro]
      exact ⟨HX, by simp, fun y hy w MW => by have : w = x := by simpa using MW
                                              subst this;rintro rfl;exact x2 hy⟩
    · intro y hy
      rcases i9.mp hy with h|h
      · exact hw y h
      · rw[js.mp h];exact x1)
  obtain⟨st',HZ,names,us,o,e,e2,HX,hw,hl,_⟩:=loop ((il m).map λi:Nat=>(Kd.loc,U.int (0+(i:Int)))) [a5 (.any,.lst (ns.map .int)),a5 (.loc,.int (b:Nat)),a5 (.loc,.int (m:Nat)),a5 (.own,.lst []),b6] ⟨[],[],b6,rfl,rfl,by simp,by simp,by simp,fQ.all m⟩;subst e e2;refine⟨names,by simpa using hl,HX,hw,?_⟩;apply aH (st0:=[a5 (.any,.lst (ns.map .int)),a5 (.loc,.int (b:Nat)),a5 (.loc,.int (m:Nat)),b6,b6]) rfl (.inl rfl) rfl
  repeat' sizeOf_list_dec
  have hit:=si (k:=.loc) (n:=m) ⋯;refine' fO (rs:=[(.loc,.int (m:Nat))]) (st1:=[a5 (.any,.lst (ns.map .int)),a5 (.loc,.int (b:Nat)),a5 (.loc,.int (m:Nat)),a5 (.own,.lst []),b6]) _ trivial hit rfl HZ _
  all_goals repeat' sizeOf_list_dec
abbrev jS:Fn:=⟨"_law_told",2,6,[.set 2 (.bi .len [.var 1]),.ite (.and [.cmp .gt (.bin .mod (.idx (.var 0) (.cst (.int 2))) (.cst (.int 3))) (.cst (.int 0)),.cmp .gt (.bin .mod (.idx (.var 0) (.cst (.int 0))) (.bi .len [.var 1])) (.cst (.int 0))]) [.set 2 (.bin .mod (.idx (.var 0) (.cst (.int 0))) (.bi .len [.var 1]))] [],.set 3 (.lst []),.Ij cb [4] .Iw [.idx (.lst [.cst (.int 0),.cst (.int 0),.cst (.int 1),.cst (.int 1),.cst (.int 1),.cst (.int 2),.cst (.int 2),.cst (.int 2),.cst (.int 3),.cst (.int 8)]) (.bin .mod (.idx (.var 0) (.cst (.int 1))) (.cst (.int 10)))] [.set 5 (.idx (.var 1) (.bin .mod (.idx (.var 0) (.bin .add (.cst (.int 3)) (.var 4))) (.var 2))),.ite (.cmp .HC (.var 5) (.var 3)) [.app 3 (.var 5)] []],.ret (.bi .tuple [.var 3])]⟩
theorem Ht:∀j:Nat,j<10->∃q:Nat,q<=8/\Ic [U.int 0,.int 0,.int 1,.int 1,.int 1,.int 2,.int 2,.int 2,.int 3,.int 8] (j:Int)=a5 (.int (q:Nat))
 |0,_=>⟨0,⋯,rfl⟩|1,_=>⟨0,⋯,rfl⟩|2,_=>⟨1,⋯,rfl⟩|3,_=>⟨1,⋯,rfl⟩|4,_=>⟨1,⋯,rfl⟩
 |5,_=>⟨2,⋯,rfl⟩|6,_=>⟨2,⋯,rfl⟩|7,_=>⟨2,⋯,rfl⟩|8,_=>⟨3,⋯,rfl⟩|9,_=>⟨8,⋯,rfl⟩
 |n+10,h=>absurd h ⋯
def yR(hz:0<=z)(b:0<t)(hl:t<=xs.length):∃x∈xs,Ic xs (z % t)=a5 x:=by
 have c:=VI z (by lia:t≠0);have e:=Td z b;have⟨j,d⟩:=Rx c;have a:j<xs.length:=by lia
 show⟨xs[j]'a,K7 a,?_⟩;rw[d];show cQ (by simp[a])
def oU{xs:List Str}{z t:Int}(hz:0<=z)(a:0<t)(hl:t<=xs.length):∃x∈xs,Ic (xs.map U.str) (z % t)=a5 (.str x):=by
 have⟨u,b,e⟩:=yR (xs:=xs.map U.str) hz a (by simpa using hl);have⟨x,c,rfl⟩:=lx.mp b;show⟨x,c,e⟩
theorem yS{Γ:Tab}{ds:List Int}{names:List Str}(hd:11<=ds.length)(h0:∀d∈ds,0<=d)(hn:0<names.length):
    ∃told:List Str,told.length<=8/\told.Nodup/\(∀x∈told,x∈names)/\bS Γ jS [.lst (ds.map .int),.lst (names.map .str)]=a5 (.ok (.loc,.tup (told.map .str))):=by
  have hsz:(1000:Nat)<=cK:=by decide
  have i0:Ic (ds.map U.int) 0=a5 (.int (dd ds 0)):=cF (i:=0) ⋯;have i1:Ic (ds.map U.int) 1=a5 (.int (dd ds 1)):=cF (i:=1) ⋯;have i2:Ic (ds.map U.int) 2=a5 (.int (dd ds 2)):=cF (i:=2) ⋯;have n0:=dB h0 0;have n1:=dB h0 1;have n2:=dB h0 2;have hp:(0:Int)<((names.map U.str).length:Nat):=by simp;lia
  have hL:((names.map U.str).length:Int)=names.length:=by simp
  have OS:=Td (dd ds 0) hp;have SJ:=VI (dd ds 0) (by lia:((names.map U.str).length:Int)≠0);let B:=λ(t:Int) (us:List U) (o4 o5:Option (Kd×U))=>([a5 (.any,.lst (ds.map .int)),a5 (.any,.lst (names.map .str)),a5 (.loc,.int t),a5 (.own,.lst us),o4,o5]:au)
  have hj:(dd ds 1 % 10).toNat<10:=by lia
  obtain⟨q,hq,Jq⟩:=Ht _ hj;rw[SS ⋯]at Jq;have main:∀t:Int,0<t->t<=names.length->∃told:List Str,told.length<=8/\told.Nodup/\(∀x∈told,x∈names)/\∃st',Run (execs Γ (jS.body.drop 2)) [a5 (.any,.lst (ds.map .int)),a5 (.any,.lst (names.map .str)),a5 (.loc,.int t),b6,b6,b6] (.rt .loc (.tup (told.map .str))) st':=λt ht Mw=>by
    let I:List (Kd×U)->au->Prop:=λxs st=>∃(told:List Str) (us:List U) (o4 o5:Option (Kd×U)),st=B t us o4 o5/\us=told.map .str/\told.Nodup/\(∀x∈told,x∈names)/\told.length+xs.length<=q/\fQ q xs;have loop:=ua (t:=cb) (is:=[4]) (body:=execs Γ [.set 5 (.idx (.var 1) (.bin .mod (.idx (.var 0) (.bin .add (.cst (.int 3)) (.var 4))) (.var 2))),
      .ite (.cmp .HC (.var 5) (.var 3))
        [.app 3 (.var 5)]
        []]) (rs:=[(.loc,.int (q:Nat))]) I (λ_ _ _=>trivial) (λx xs st HS=>by
      obtain⟨told,us,o4,o5,e,e2,HX,hw,hl,hr⟩:=HS;subst e;obtain⟨i,hi,rfl,Jp,hlen⟩:=hr.cons;rw[k9]at hl;have ik:Ic (ds.map U.int) (3+(i:Int))=a5 (.int (dd ds (3+i))):=by
        rw[show(3+(i:Int))=((3+i:Nat):Int) by lia];exact cF ⋯
      obtain⟨x,hx,QT⟩:=oU (xs:=names) (dB h0 (3+i)) ht Mw;have MQ:bu .HC (.str x) (.lst us)=a5 (cL (x∉told)):=by rw[e2];exact fR
      by_cases Kb:x∈told
      · refine⟨B t us (a5 (.loc,.int (i:Nat))) o5,B t us (a5 (.loc,.int (i:Nat))) (a5 (.any,.str x)),aV,?_,⟨told,us,_,_,rfl,e2,HX,hw,⋯,Jp⟩⟩
        refine ay (r:=(.any,.str x)) (st1:=B t us (a5 (.loc,.int (i:Nat))) o5) ?_ lD (dw (st1:=B t us (a5 (.loc,.int (i:Nat))) (a5 (.any,.str x))) ?_ aQ aQ)
        · repeat' (first|exact aP ik|exact bM ht|exact aP QT|sizeOf_list_dec)
        · have:bu .HC (.str x) (.lst us)=a5 cb:=by rw[MQ];simp[Kb]
          repeat' (first|exact this|sizeOf_list_dec)
      · refine⟨B t us (a5 (.loc,.int (i:Nat))) o5,B t (us++[.str x]) (a5 (.loc,.int (i:Nat))) (a5 (.any,.str x)),aV,?_,⟨told++[x],_,_,_,rfl,by simp[e2],?_,?_,by simp;lia,Jp⟩⟩
        · refine ay (r:=(.any,.str x)) (st1:=B t us (a5 (.loc,.int (i:Nat))) o5) ?_ lD (gW (st1:=B t us (a5 (.loc,.int (i:Nat))) (a5 (.any,.str x))) (st2:=B t (us++[.str x]) (a5 (.loc,.int (i:Nat))) (a5 (.any,.str x))) ?_ ?_ aQ)
          · repeat' (first|exact aP ik|exact bM ht|exact aP QT|sizeOf_list_dec)
          · have:bu .HC (.str x) (.lst us)=some true:=by rw[MQ];simp[Kb]
            repeat' (first|exact this|sizeOf_list_dec)
          · repeat' (first|exact m9 rfl|exact(by rw[e2,dr];lia)|sizeOf_list_dec)
        · rw[ro]
          exact ⟨HX, by simp, fun y hy w MW => by have : w = x := by simpa using MW
                                                  subst this;rintro rfl;exact Kb hy⟩
        · intro y hy
          rcases i9.mp hy with h|h
          · exact hw y h
          · rw[js.mp h];exact hx)
    obtain⟨st',HZ,told,us,o4,o5,e,e2,HX,hw,hl,_⟩:=loop ((il q).map λi:Nat=>(Kd.loc,U.int (0+(i:Int)))) (B t [] b6 b6) ⟨[],[],b6,b6,rfl,rfl,by simp,by simp,by simp,fQ.all q⟩;subst e e2;refine⟨told,by simp at hl;lia,HX,hw,?_⟩;have hit:=si (k:=.loc) (n:=q) ⋯;refine⟨B t (told.map .str) o4 o5,ay (r:=(.own,.lst [])) (dA aj trivial aX (mx _)) bw (fO (rs:=[(.loc,.int (q:Nat))]) (st1:=B t [] b6 b6) ?_ trivial hit rfl HZ ?_)⟩
    · refine ae (bh (x:=(.own,.lst [U.int 0,.int 0,.int 1,.int 1,.int 1,.int 2,.int 2,.int 2,.int 3,.int 8])) (y:=(.loc,.int (dd ds 1 % 10))) (st1:=B t [] b6 b6) ?_ ?_ trivial (aP Jq)) aj
      · repeat' (first|exact(by decide:(10:Nat)<=cK)|sizeOf_list_dec)
      · repeat' (first|exact aP i1|sizeOf_list_dec)
    · repeat' sizeOf_list_dec
  have fin:∀t:Int,0<t->t<=names.length->(∀{f:Fl} {st':au},Run (execs Γ (jS.body.drop 2)) [a5 (.any,.lst (ds.map .int)),a5 (.any,.lst (names.map .str)),a5 (.loc,.int t),b6,b6,b6] f st'->Run (execs Γ jS.body) [a5 (.any,.lst (ds.map .int)),a5 (.any,.lst (names.map .str)),b6,b6,b6,b6] f st') ->
      ∃told:List Str,told.length<=8/\told.Nodup/\(∀x∈told,x∈names)/\bS Γ jS [.lst (ds.map .int),.lst (names.map .str)]=a5 (.ok (.loc,.tup (told.map .str))):=λt ht Mw hh=>by
    obtain⟨told,a1,a2,a3,st',a4⟩:=main t ht Mw;exact⟨told,a1,a2,a3,aH (st0:=[a5 (.any,.lst (ds.map .int)),a5 (.any,.lst (names.map .str)),b6,b6,b6,b6]) rfl (.inr rfl) rfl (hh a4)⟩
  let S0:au:=[a5 (.any,.lst (ds.map .int)),a5 (.any,.lst (names.map .str)),a5 (.loc,.int ((names.map U.str).length:Nat)),b6,b6,b6]
  have q1:∀{c:Bool},cL (0<dd ds 2 % 3)=c->Run (HP Γ (.cmp .gt (.bin .mod (.idx (.var 0) (.cst (.int 2))) (.cst (.int 3))) (.cst (.int 0)))) S0 c S0:=λh=>by repeat' (first|exact aP i2|exact jQ h|sizeOf_list_dec)
  have q2:∀{c:Bool},cL (0<dd ds 0 % ((names.map U.str).length:Nat))=c->Run (HP Γ (.cmp .gt (.bin .mod (.idx (.var 0) (.cst (.int 0))) (.bi .len [.var 1])) (.cst (.int 0)))) S0 c S0:=λh=>by repeat' (first|exact aP i0|exact bM hp|exact jQ h|sizeOf_list_dec)
  have s2:Run (ev Γ (.bi .len [.var 1])) [a5 (.any,.lst (ds.map .int)),a5 (.any,.lst (names.map .str)),b6,b6,b6,b6] (.loc,.int ((names.map U.str).length:Nat)) [a5 (.any,.lst (ds.map .int)),a5 (.any,.lst (names.map .str)),b6,b6,b6,b6]:=by repeat' sizeOf_list_dec
  have s3:Run (ev Γ (.bin .mod (.idx (.var 0) (.cst (.int 0))) (.bi .len [.var 1]))) S0 (.loc,.int (dd ds 0 % ((names.map U.str).length:Nat))) S0:=by repeat' (first|exact aP i0|exact bM hp|sizeOf_list_dec)
  by_cases c1:0<dd ds 2 % 3
  · by_cases c2:0<dd ds 0 % ((names.map U.str).length:Nat)
    · exact fin (dd ds 0 % ((names.map U.str).length:Nat)) c2 ⋯ λh=>ay s2 aV (gW (iS (oJ (q1 (í c1)) (cT (q2 (í c2))))) (ay s3 aV aQ) h)
    · exact fin ((names.map U.str).length:Nat) hp ⋯ λh=>ay s2 aV (dw (iS (oJ (q1 (í c1)) (cT (q2 (ì c2))))) aQ h)
  · exact fin ((names.map U.str).length:Nat) hp ⋯ λh=>ay s2 aV (dw (iS (sd (q1 (ì c1)))) aQ h)
def yT(g:Run (ev Γ h) st rv st1)(j:st1[i]?=a5 (a5 (k',u')))(l:Run (ev Γ m) st1 rk st2)(n:Run (dg [rv,rk]) st2 [c,d] b)(o:b[i]?=a5 (a5 (k,u0)))(hk:k.root=bD)(p:fy d c u0=a5 e)
  (q:Run (execs Γ ss) (b.set i (a5 (k,e))) f r) (s:k'≠.A':=by intro z;cases z):Run (execs Γ (.put i m h::ss)) st f r:=by
 show et (aa g (aa (d0 j s) (aa l (aa n (aa (a:=()) (st1:=b.set i (a5 (k,e))) ?_ aL))))) q;change modS i (tq [c,d]) b=_;unfold modS;rw[o];simp only[hk,if_true];change(match fy d c u0 with|some u'=>_|none=>b6)=_;rw[p]
@[reducible]def Row:=Str×List Str
abbrev Hx(r:Row):U:=.tup [.str r.1,.tup (r.2.map .str)]
abbrev keyOf(r:Row):Row:=(r.1,bF r.2)
def sorted_strs(h:ss.length<64):Js .sorted [(k,.tup (ss.map .str))]=a5 (.own,.lst ((bF ss).map .str)):=by
 change(strsOf (ss.map U.str)).bind _=_;rw[eQ];change(if ss.length<64 then _ else _)=_;rw[ê h]
abbrev yU(Γ:Tab):Prop:=∀(ds:List Int) (names:List Str),11<=ds.length->(∀d∈ds,0<=d)->0<names.length ->
 ∃told:List Str,told.length<=8/\told.Nodup/\(∀x∈told,x∈names)/\Γ "_law_told" [.lst (ds.map .int),.lst (names.map .str)]=a5 (.ok (.loc,.tup (told.map .str)))
structure dR(names:List Str)(r:Row):Prop where
 word:r.1∈names
 JY:r.2.length<=8
 once:r.2.Nodup
 told:∀x∈r.2,x∈names
abbrev oV(Γ:Tab):Prop:=∀(ns:List Int) (b m:Nat),b<1000->m<40->∃names:List Str,names.length=m/\names.Nodup/\(∀x∈names,bP x.cps.toList)/\Γ "_law_names" [.lst (ns.map .int),.int (b:Nat),.int (m:Nat)]=a5 (.ok (.own,.lst (names.map .str)))
section
def Co(h:Ie Pg "_law_mix" vC):yM (HY Pg (d+1)):=λc k a b=>by rw[aD h];show By a b
def lK(h:Ie Pg "_law_mix" vC)(a:Ie Pg "_law_cell" uc):lJ (HY Pg (d+2)):=λns k hk=>⟨_,by rw[aD a];show yO (Co h) hk⟩
def drawnOk(h:Ie Pg "_law_mix" vC)(f:Ie Pg "_law_drawn" oO):iU (HY Pg (d+2)):=λc n g=>by
 have⟨ds,a,b,e⟩:=vD (Co (d:=d) h) (c:=c) g;show⟨ds,a,b,by rw[aD f];show e⟩
def Ep(f:Bz g)(h:Ie Pg "_law_name" (oR g)):yQ (HY Pg (d+1)):=λds names a b c e=>by
 have⟨x,p,q,r⟩:=yP (Γ:=HY Pg d) f a b c e;show⟨x,p,q,by rw[aD h];show r⟩
def Er(h:Ie Pg "_law_told" jS):yU (HY Pg (d+1)):=λds names a b c=>by
 have⟨x,p,q,r,s⟩:=yS (Γ:=HY Pg d) a b c;show⟨x,p,q,r,by rw[aD h];show s⟩
structure dH(md:E)(Pg:List Fn):Prop where
 mix:Ie Pg "_law_mix" vC
 cell:Ie Pg "_law_cell" uc
 drawn:Ie Pg "_law_drawn" oO
 name:Ie Pg "_law_name" (oR md)
 names:Ie Pg "_law_names" fNames
 told:Ie Pg "_law_told" jS
def dH.lK(M:dH a Pg):lJ (HY Pg (d+2)):=TM.lK M.mix M.cell
def dH.drawnOk(M:dH a Pg):iU (HY Pg (d+2)):=TM.drawnOk M.mix M.drawn
def dH.yV(a:Bz c)(M:dH c Pg):oV (HY Pg (d+3)):=λns b m e f=>by
 have⟨names,p,q,r,s⟩:=vH (Γ:=HY Pg (d+2)) M.lK M.drawnOk (TM.Ep a M.name) (ns:=ns) e f;show⟨names,p,q,r,by rw[aD M.names];show s⟩
@[reducible]def yW(Pg:List Fn):Prop:=dH Gn Pg
def dH.namesOk(M:yW Pg):oV (HY Pg (d+3)):=dH.yV BA M
end
section
def ni(h:Run (execs Γ (a++ss)) st f st2):(∃s1,Run (execs Γ a) st .nx s1/\Run (execs Γ ss) s1 f st2)\/(Run (execs Γ a) st f st2/\f≠.nx):=by
 induction a generalizing st with
 |nil=>show .inl ⟨st,aQ,h⟩
 |cons s a i =>
  have h':M.bind (exec Γ s) (λf=>match f with|.nx=>execs Γ (a++ss)|f=>pure f) st=a5 (.ok f,st2):=h;unfold M.bind at h';cases e:exec Γ s st with
  |none=>rw[e]at h';cases h'
  |some p =>
   have⟨x,s1⟩:=p;rw[e]at h';cases x with
   |exc c=>cases h'
   |ok g =>
    cases g with
    |nx =>
     rcases i h' with⟨s2,b,d⟩|⟨b,d⟩
     .show .inl ⟨s2,et e b,d⟩
     .show .inr ⟨et e b,d⟩
    |rt k u=>cases h';show .inr ⟨Bx e,λz=>nomatch z⟩
    |bk=>cases h';show .inr ⟨aa (show Run (exec Γ s) st Fl.bk _ from e) aL,λz=>nomatch z⟩
    |ct=>cases h';show .inr ⟨aa (show Run (exec Γ s) st Fl.ct _ from e) aL,λz=>nomatch z⟩
def Gp(a:Run (exec Γ s) st f st1)(b:f≠.nx):Run (execs Γ (s::ss)) st f st1:=by
 cases f with
 |nx=>show absurd rfl b
 |rt k u=>show Bx a
 |_=>show aa a aL
def cj(g:Run (HP Γ c) st p st1)(h:p=bD->Run (execs Γ (a++ss)) st1 f st2)(i:p=cb->Run (execs Γ (b++ss)) st1 f st2):Run (execs Γ (.ite c a b::ss)) st f st2:=by
 cases p with
 |true =>
  rcases ni (h rfl) with⟨s1,d,e⟩|⟨d,e⟩
  .show et (oK g d) e
  .show Gp (oK g d) e
 |false =>
  rcases ni (i rfl) with⟨s1,d,e⟩|⟨d,e⟩
  .show et (se g d) e
  .show Gp (se g d) e
def oW(h:Run (ev Γ e) st (k,.bl p) st)(a:p=bD->Run (iF Γ (b::es)) st (.loc,.bl q) st):Run (iF Γ (e::b::es)) st (.loc,.bl (p&&q)) st:=by
 show r_ h ?_;cases p with
 |true=>rw[ê rfl];show a rfl
 |false=>rw[ë ko];show⟨rfl,rfl⟩
def oX(h:Run (HP Γ e) st p st)(a:p=bD->Run (aN Γ (b::es)) st q st):Run (aN Γ (e::b::es)) st (p&&q) st:=by
 cases p with
 |true=>show oJ h (a rfl)
 |false=>show sd h
theorem gY{cond:M Bool}(h:bo src st)(k:Kd)(hk:k=.loc\/k=.any)(a g:α->U)(kd:Kd)(c:∀y,Run cond (a5 (k,a y)::st) bD (a5 (k,a y)::st)):∀(ys:List α) (b:List U),b.length+ys.length<=cK ->
  (∀y∈ys,Run elt (a5 (k,a y)::st) (kd,g y) (a5 (k,a y)::st)/\Run (lift (kd,g y)) (a5 (k,a y)::st) (g y) (a5 (k,a y)::st))->Run (bG 1 cb cond elt src (ys.map λy=>(k,a y)) b) st (b++ys.map g) st
 |[],b,_,_=>by rw[LL,LL,sx];show qg h
 |y::ys,b,hl,d=>by
  have⟨e,f⟩:=d y (by simp);rw[k9]at hl;show lE (s1:=a5 (k,a y)::st) (s2:=a5 (k,a y)::st) (s3:=a5 (k,a y)::st) (s4:=a5 (k,a y)::st) h ?_ (c y) e f ⋯ ?_
  .rcases hk with rfl|rfl
   .show fP aV
   .show fP lD
  .have:=gY h k hk a g kd c ys (b++[g y]) (by simp;lia) λz hz=>d z (by simp[hz]);rw[g8];simpa using this
theorem jn{cond:M Bool}(h:bo src st)(k:Kd)(hk:k=.loc\/k=.any)(a g:α->U)(p:α->Bool)(kd:Kd):∀(ys:List α) (b:List U),b.length+ys.length<=cK ->
  (∀y∈ys,Run cond (a5 (k,a y)::st) (p y) (a5 (k,a y)::st)/\(p y=bD->Run elt (a5 (k,a y)::st) (kd,g y) (a5 (k,a y)::st)/\Run (lift (kd,g y)) (a5 (k,a y)::st) (g y) (a5 (k,a y)::st)))->Run (bG 1 cb cond elt src (ys.map λy=>(k,a y)) b) st (b++(ys.filter p).map g) st
 |[],b,_,_=>by rw[LL,RO,LL,sx];show qg h
 |y::ys,b,hl,e=>by
  have⟨d,i⟩:=e y (by simp);rw[k9]at hl;have f:Run (dF cb (il 1) (k,a y)) (lg 1 b6++st) () (a5 (k,a y)::st):=by
   rcases hk with rfl|rfl
   .show fP aV
   .show fP lD
  cases c:p y with
  |true =>
   rw[c]at d;have⟨j,l⟩:=i c;show lE (s1:=a5 (k,a y)::st) (s2:=a5 (k,a y)::st) (s3:=a5 (k,a y)::st) (s4:=a5 (k,a y)::st) h f d j l ⋯ ?_;have:=jn h k hk a g p kd ys (b++[g y]) (by simp;lia) λz hz=>e z (by simp[hz]);rw[HR,ê c,g8];simpa using this
  |false =>
   rw[c]at d;show sf (s1:=a5 (k,a y)::st) (s2:=a5 (k,a y)::st) h f d ?_;have:=jn h k hk a g p kd ys b ⋯ λz hz=>e z (by simp[hz]);rw[HR,ë (by simp[c])];show this
theorem ff(it:α->Kd×U)(I:List α->List α->au->Prop)(hs:∀d r st,I d r st->bo rs st)
  (Zd:∀d y r st,I d (y::r) st->∃st1 st2,Run (dF t is (it y)) st () st1/\Run body st1 .nx st2/\I (d++[y]) r st2):∀(r d:List α) (st:au),I d r st->∃st',Run (forM t is body rs (r.map it)) st .nx st'/\I (d++r) [] st'
 |[],d,st,h=>⟨st,Cm (hs _ _ _ h),by rw[sx];show h⟩
 |y::r,d,st,h=>by
  have⟨s1,s2,a,b,c⟩:=Zd d y r st h;have⟨s3,e,f⟩:=ff it I hs Zd r (d++[y]) s2 c;show⟨s3,Gk (hs _ _ _ h) a b e,by simpa using f⟩
def oY(a:Run (aR Γ es) st rs st1)(c:bo rs st1)(d:Γ f (rs.map (·.2))=a5 (.ok r))(e:pS r.2=a5 b)(g:isAny r.1=cb:=by show rfl):Run (HP Γ (.call f es)) st b st1:=aa a (aa (aT c) (aa (t9 d g) (cY e)))
def Es(h:Run (ev Γ (.bi f es)) st (k,.bl b) st1):Run (HP Γ (.bi f es)) st b st1:=by
 have h':(aR Γ es >>= λrs=>av rs >>= λ_=>M.H9 (Js f rs)) st=a5 (.ok (k,.bl b),st1):=h;obtain⟨rs,s1,e1,c,s2,d,r,s3,e,g⟩:∃rs s1,aR Γ es st=a5 (.ok rs,s1)/\∃(a:Unit) (s2:au),av rs s1=a5 (.ok a,s2)/\∃r s3,M.H9 (Js f rs) s2=a5 (.ok r,s3)/\(r,s3)=((k,U.bl b),st1):=by
  have w:W (aR Γ es >>= λrs=>av rs >>= λ_=>M.H9 (Js f rs)) st λr s=>(r,s)=((k,U.bl b),st1):=⟨_,_,h',rfl⟩
  rw[af]at w;have⟨rs,s1,e1,w⟩:=w;rw[af]at w;have⟨a,s2,c,w⟩:=w;have⟨r,s3,d,w⟩:=w;show⟨rs,s1,e1,a,s2,c,r,s3,d,w⟩
 cases g;show aa e1 (aa (a:=c) d (aa e (cY rfl)))
def Cp(b:Run (ev Γ a) st x st1)(c:AD x=a5 r):Run (ev Γ (.neg a)) st r st1:=aa b (cY c)
def Cq(c:st[i]?=a5 (a5 (k',.lst n)))(d:Run (ev Γ e) st r st1)(g:st1[i]?=a5 (a5 (k,.lst us)))(hk:k.root=bD)(h:mf r (.lst us)=a5 (.lst b))
  (j:Run (execs Γ ss) (st1.set i (a5 (k,.lst b))) f l) (m:k'≠.A':=by intro z;cases z):Run (execs Γ (.ext i e::ss)) st f l:=by
 show et (aa (d0 c m) (aa (a:=()) (st1:=st) rfl (aa d (aa (a:=()) (st1:=st1.set i (a5 (k,.lst b))) ?_ aL)))) j;change modS i (mf r) st1=_;unfold modS;rw[g];simp only[hk,if_true];rw[h]
end
def ud(h:xs.length+ys.length<=cK)(hs:iB k ys=bD):mf (k,.lst ys) (.lst xs)=a5 (.lst (xs++ys)):=by
 change(if xs.length+ys.length<=cK/\iB k ys=bD then _ else _)=_;rw[ê ⟨h,hs⟩]
theorem gq:∀ss:List Str,cZ (ss.map U.str)=bD
 |[]=>by simp[cZ]
 |s::ss=>by simp[cZ,HQ,gq ss]
def d4(r:Row):HQ (Hx r)=bD:=by simp[Hx,HQ,cZ,gq]
theorem c_:∀rs:List Row,cZ (rs.map Hx)=bD
 |[]=>by simp[cZ]
 |r::rs=>by simp[cZ,d4,c_ rs]
theorem gZ:∀(a b:List Str),cz (a.map U.str) (b.map U.str)=cL (a=b)
 |[],[]=>by simp[cz]
 |[],_::_=>by simp[cz]
 |_::_,[]=>by simp[cz]
 |x::a,y::b=>by
  rw[g8,g8,cz,gZ a b];simp only[bI];by_cases h:x=y
  .subst h;simp
  .simp[h]
def nj(a b:Row):bI (Hx a) (Hx b)=cL (a=b):=by
 have⟨c,d⟩:=a;have⟨b1,e⟩:=b;simp only[Hx,bI,cz,Wz,gZ];by_cases h:c=b1
 .subst h;simp
 .simp[h]
def kb(r:Row):Ia 50 (Hx r)=bD:=by
 simp[Hx,Ia,b_,gn]
def BC{op:Bool}{a b:Row}:bu .eq (Hx a) (Hx b)=a5 (cL (a=b)):=by
 simp only[bu];rw[ê ⟨kb a,kb b⟩,nj]
def g_(ss:List Str)(n:Nat):Ia (n+1) (.lst (ss.map U.str))=bD:=by simp[Ia,gn]
def ql{a b:List Str}:bu .eq (.lst (a.map U.str)) (.lst (b.map U.str))=a5 (cL (a=b)):=by
 simp only[bu];rw[ê ⟨g_ a 49,g_ b 49⟩];simp only[bI,gZ]
def ue:bu .eq (.str a) (.str b)=a5 (cL (a=b)):=by
 simp only[bu];rw[ê ⟨rfl,rfl⟩];simp only[bI];by_cases h:a=b
 .subst h;simp
 .simp[h]
def BD(f:α->β)(xs:List α)(lo hi:Option Int):cut (xs.map f) lo hi=(cut xs lo hi).map f:=by simp[cut,List.map_take,List.map_drop]
section
end
section
end
def yX(h:xs.length+ys.length<=cK)(a:iB k xs=bD)(b:iB k' ys=bD):JS .add (k,.lst xs) (k',.lst ys)=a5 (.own,.lst (xs++ys)):=by
 simp only[JS,uW];rw[ê ⟨h,a,b⟩]
def iq{x y:Str}(h:x.cps.toList=y.cps.toList):x=y:=by
 have⟨a⟩:=x;have⟨b⟩:=y;have:a=b:=UA.mp h;rw[this]
def BE(h:ks.length<1000):fy (.str x) u (.Hz ks us)=a5 (.Hz (dput ks us x u).1 (dput ks us x u).2):=by
 have hsz:(1000:Nat)<=cK:=by decide
 change(if ks.length<cK then _ else _)=_;rw[ê ⋯]
end TM
namespace Od
section
variable{W:Type}[DecidableEq W]{rows:List (W×List W)}
abbrev fS(rows:List (W×List W))(C:W->Prop):Prop:=∀r∈rows,(∀x∈r.2,C x)->C r.1
abbrev MA(rows:List (W×List W))(K:List W):Prop:=∀C:W->Prop,fS rows C->∀x∈K,C x
def same(a:K.Nodup)(b:L.Nodup)(sK:MA rows K)(c:MA rows L)(d:fS rows (·∈K))(e:fS rows (·∈L)):K.Perm L :=
 (List.perm_ext_iff_of_nodup a b).mpr λx=>⟨λh=>sK _ e x h,λh=>c _ d x h⟩
abbrev told(rows:List (W×List W))(p:Nat):List W:=match rows[p]? with
 |some r=>r.2
 |none=>[]
def kf(h:rows[p]?=a5 r):told rows p=r.2:=by unfold told;rw[h]
abbrev su(K l:List W):Nat:=(l.filter λx=>cL (x∉K)).length
abbrev cnt(rows:List (W×List W))(K:List W)(p:Nat):Nat:=su K (told rows p)
def vI{K l:List W}:su K l=0↔∀x∈l,x∈K:=by
 unfold su;rw[List.length_eq_zero_iff,K2];constructor
 .intro h x a;have:=h x a;simpa using this
 .intro h x a;simpa using h x a
theorem qm(f:w∉K):∀{l:List W},l.Nodup->su (K++[w]) l+(if w∈l then 1 else 0)=su K l
 |[],_=>rfl
 |x::l,h=>by
  have⟨g,i⟩:=nC.mp h;have d:=qm f i;unfold su at d ⊢;by_cases e:x=w
  .subst e;have a:cL (x∉K++[x])≠bD:=by simp
   have b:cL (x∉K)=bD:=í f;rw[OR (p:=λy=>cL (y∉K++[x])) a,OQ (p:=λy=>cL (y∉K)) b,k9,ê (kj ..)];rw[ë g]at d;lia
  .have j:w≠x:=λz=>e z.symm;have e1:(if w∈x::l then 1 else 0)=if w∈l then 1 else 0:=by simp[j]
   rw[e1];by_cases c:x∈K
   .have a:cL (x∉K++[w])≠bD:=by simp[c]
    have b:cL (x∉K)≠bD:=by simp[c]
    rw[OR (p:=λy=>cL (y∉K++[w])) a,OR (p:=λy=>cL (y∉K)) b];show d
   .have a:cL (x∉K++[w])=bD:=by simp[c,e]
    have b:cL (x∉K)=bD:=by simp[c]
    rw[OQ (p:=λy=>cL (y∉K++[w])) a,OQ (p:=λy=>cL (y∉K)) b,k9,k9];lia
abbrev Once(rows:List (W×List W)):Prop:=∀r∈rows,r.2.Nodup
def Once.told(h:Once rows)(p:Nat):(told rows p).Nodup:=by
 unfold Od.told;split
 .rename_i r e;show h r (pd e)
 .show .nil
def qo:cnt rows K p=0↔∀x∈told rows p,x∈K:=vI
def oZ(h:Once rows)(a:w∉K)(p:Nat):cnt rows (K++[w]) p+(if w∈told rows p then 1 else 0)=cnt rows K p:=qm a (h.told p)
abbrev Iu(rows:List (W×List W))(n:Nat)(w:W):List Nat:=(il n).filter λp=>cL (w∈told rows p)
def vJ(n:Nat)(w:W):(Iu rows n w).Nodup:=List.Nodup.sublist List.filter_sublist List.nodup_range
def iV:p∈Iu rows n w↔p<n/\w∈told rows p:=by simp[Iu]
abbrev aE(ps:List (W×Nat))(w:W):List Nat:=(ps.filter λp=>cL (p.1=w)).map (·.2)
theorem qp:∀{l:List W},l.Nodup->aE (l.map λx=>(x,n)) w=if w∈l then [n] else []
 |[],_=>rfl
 |x::l,h=>by
  have⟨b,c⟩:=nC.mp h;have a:=qp (n:=n) (w:=w) c;unfold aE at a ⊢;rw[g8,HR];by_cases e:x=w
  .subst e;rw[ë b]at a;rw[ê (by simp),g8,a,ê (by simp)]
  .rw[ë (by simpa using e),a];have d:w≠x:=λz=>e z.symm;simp[d]
def qq(a b:List (W×Nat))(w:W):aE (a++b) w=aE a w++aE b w:=by simp[aE]
def vK(h:Once rows)(a:rows[n]?=a5 r)(b:∀w,aE ps w=Iu rows n w)(w:W):aE (ps++r.2.map λx=>(x,n)) w=Iu rows (n+1) w:=by
 rw[qq,b w,qp (h r (pd a))];unfold Iu;rw[List.range_succ,OO];congr 1
 rw[HR,RO,kf a];by_cases e:w∈r.2<;>simp[e]
structure RI(rows:List (W×List W))(K0 K:List W)(R:List Nat):Prop where
 PX:∀t∈R,t<rows.length/\cnt rows K t=0
 all:∀t,t<rows.length->cnt rows K t=0->cnt rows K0 t=0\/t∈R
def RI.start(K:List W):RI rows K K []:=⟨by simp,λt _ h=>.inl h⟩
def RI.step(h:Once rows)(x:RI rows K0 K R)(d:w∉K):RI rows K0 (K++[w]) (R++(Iu rows rows.length w).filter λt=>cL (cnt rows K t=1)):=by
 show⟨λt ht=>?_,λt ht i=>?_⟩
 .have a:=oZ h d t;rcases i9.mp ht with ht|ht
  .have⟨b,e⟩:=x.PX t ht;show⟨b,⋯⟩
  .have⟨b,e⟩:=Lj.mp ht;have⟨f,g⟩:=iV.mp b;rw[ê g]at a;have:cnt rows K t=1:=by simpa using e
   show⟨f,⋯⟩
 .have a:=oZ h d t;by_cases c:w∈told rows t
  .rw[ê c]at a;show .inr (i9.mpr (.inr (Lj.mpr ⟨iV.mpr ⟨ht,c⟩,by simp;lia⟩)))
  .rw[ë c]at a;rcases x.all t ht ⋯ with z|z
   .show .inl z
   .show .inr (i9.mpr (.inl z))
structure NS(rows:List (W×List W))(K:List W)(d:List Nat)(ps:List (W×Nat)):Prop where
 ok:∀s∈ps,s.2∈d/\s.1∉K/\∃r,rows[s.2]?=a5 r/\r.1=s.1
 once:(ps.map (·.1)).Nodup
 all:∀p∈d,∀r,rows[p]?=a5 r->r.1∈K\/r.1∈ps.map (·.1)
def NS.start(K:List W):NS rows K [] []:=⟨by simp,by simp,by simp⟩
def NS.skip(x:NS rows K d ps)(f:rows[p]?=a5 r)(h:r.1∈K\/r.1∈ps.map (·.1)):NS rows K (d++[p]) ps :=
 ⟨λs hs=>let ⟨a,b,c⟩:=x.ok s hs;⟨by simp[a],b,c⟩,x.once,λq hq g e=>by
  rcases i9.mp hq with hq|hq
  .show x.all q hq g e
  .have:q=p:=by simpa using hq
   subst this;rw[f]at e;cases e;show h⟩
def NS.take(x:NS rows K d ps)(g:rows[p]?=a5 r)(h:r.1∉K)(i:r.1∉ps.map (·.1)):NS rows K (d++[p]) (ps++[(r.1,p)]):=by
 show⟨λs hs=>?_,?_,λq hq j f=>?_⟩
 .rcases i9.mp hs with hs|hs
  .have⟨a,b,c⟩:=x.ok s hs;show⟨by simp[a],b,c⟩
  .have:s=(r.1,p):=by simpa using hs
   subst this;show⟨by simp,h,r,g,rfl⟩
 .rw[oD,ro];show⟨x.once,by simp,λa k b l e=>?_⟩;have:b=r.1:=by simpa using l
  subst this;show i (e▸k)
 .rcases i9.mp hq with hq|hq
  .rcases x.all q hq j f with z|z
   .show .inl z
   .show .inr (by simp only[oD,i9];show .inl z)
  .have:q=p:=by simpa using hq
   subst this;rw[g]at f;cases f;show .inr (by simp)
def NS.perm(x:NS rows K d ps)(h:a.Perm ps):NS rows K d a :=
 ⟨λs hs=>x.ok s (h.mem_iff.mp hs),(h.map _).nodup_iff.mpr x.once,λp b r c=>(x.all p b r c).imp id λz=>(h.map _).mem_iff.mpr z⟩
def vS(rows:List (W×List W)):List W->List (W×Nat)->Prop
 |_,[]=>True
 |K,s::ss=>(s.1∉K/\∃r,rows[s.2]?=a5 r/\r.1=s.1/\∀x∈r.2,x∈K)/\vS rows (K++[s.1]) ss
theorem yY:∀{a b:List (W×Nat)}{K:List W},vS rows K a->vS rows (K++a.map (·.1)) b->vS rows K (a++b)
 |[],b,K,_,h=>by simpa using h
 |s::a,b,K,c,d=>⟨c.1,yY c.2 (by simpa using d)⟩
theorem yZ:∀{ss:List (W×Nat)}{K:List W},(∀s∈ss,s.1∉K/\∃r,rows[s.2]?=a5 r/\r.1=s.1/\∀x∈r.2,x∈K)->(ss.map (·.1)).Nodup->vS rows K ss
 |[],K,_,_=>trivial
 |s::ss,K,h,a=>by
  have b:s.1∉ss.map (·.1)/\(ss.map (·.1)).Nodup:=by
   rw[g8]at a;show nC.mp a
  show⟨h s (by simp),yZ (λt c=>?_) b.2⟩;have⟨d,r,e,f,g⟩:=h t (by simp[c]);show⟨λz=>?_,r,e,f,λx i=>by simp[g x i]⟩;rcases i9.mp z with z|z
  .show d z
  .have:t.1=s.1:=by simpa using z
   show b.1 (this▸lx.mpr ⟨t,c,rfl⟩)
theorem qr:∀{ss:List (W×Nat)}{K:List W},vS rows K ss->K.Nodup->(K++ss.map (·.1)).Nodup
 |[],K,_,h=>by simpa using h
 |s::ss,K,h,c=>by
  have:(K++[s.1]).Nodup:=by
   rw[ro];show⟨c,by simp,λa d b f e=>?_⟩;have:b=s.1:=by simpa using f
   subst this;show h.1.1 (e▸d)
  have:=qr h.2 this;simpa using this
theorem y6:∀{ss:List (W×Nat)}{K:List W},vS rows K ss->MA rows K->MA rows (K++ss.map (·.1))
 |[],K,_,h=>by simpa using h
 |s::ss,K,h,b=>by
  have c:MA rows (K++[s.1]):=λC a x hx=>by
   rcases i9.mp hx with hx|hx
   .show b C a x hx
   .have:x=s.1:=by simpa using hx
    subst this;obtain⟨_,r,d,e,f⟩:=h.1;rw[<-e];show a r (pd d) λy g=>b C a y (f y g)
  have:=y6 h.2 c;simpa using this
theorem qt:∀{ss:List (W×Nat)}{K:List W},vS rows K ss->∀x∈ss.map (·.1),x∈rows.map (·.1)
 |[],K,_,x,hx=>by simp at hx
 |s::ss,K,h,x,hx=>by
  rw[g8]at hx;rcases gj.mp hx with rfl|hx
  .obtain⟨_,r,a,b,c⟩:=h.1;show lx.mpr ⟨r,pd a,b⟩
  .show qt h.2 x hx
structure LI(rows:List (W×List W))(HJ:List (W×Nat))(R:List Nat):Prop where
 ok:vS rows [] HJ
 PX:∀t∈R,t<rows.length/\cnt rows (HJ.map (·.1)) t=0
 all:∀t r,rows[t]?=a5 r->cnt rows (HJ.map (·.1)) t=0->t∈R\/r.1∈HJ.map (·.1)
def LI.step(x:LI rows a R)(n:NS rows (a.map (·.1)) R st)(y:RI rows (a.map (·.1)) (a.map (·.1)++st.map (·.1)) e):LI rows (a++st) e:=by
 have em:(a++st).map (·.1)=a.map (·.1)++st.map (·.1):=oD;show⟨yY x.ok (yZ (λs hs=>?_) n.once),λt f=>by rw[em];show y.PX t f,λt r b c=>?_⟩
 .have⟨g,h,r,d,i⟩:=n.ok s hs;have hz:=(x.PX _ g).2;rw[qo,kf d]at hz;show⟨by simpa using h,r,d,i,by simpa using hz⟩
 .rw[em]at c ⊢;rcases y.all t (dt.mp b).1 c with z|z
  .rcases x.all t r b z with z|z
   .rcases n.all t z r b with z|z
    .show .inr (i9.mpr (.inl z))
    .show .inr (i9.mpr (.inr z))
   .show .inr (i9.mpr (.inl z))
  .show .inl z
def LI.nd(x:LI rows a R):(a.map (·.1)).Nodup:=by simpa using qr x.ok .nil
def LI.sn(x:LI rows a R):MA rows (a.map (·.1)):=by simpa using y6 x.ok λ_ _ _ h=>absurd h Y9
def LI.wd(x:LI rows a R):∀y∈a.map (·.1),y∈rows.map (·.1):=qt x.ok
def LI.closed(x:LI rows b []):fS rows (·∈b.map (·.1)):=λr c h=>by
 have⟨t,a⟩:=XO.mp c;rcases x.all t r a (by rw[qo,kf a];show h) with z|z
 .cases z
 .show z
def lL{K L:List W}(h:K.Nodup)(s:∀x∈K,x∈L):K.length<=L.length:=by
 induction K generalizing L with
 |nil=>simp
 |cons a K d =>
  have⟨f,g⟩:=nC.mp h;have b:a∈L:=s a (by simp);have:=d (L:=L.erase a) g λx c=>by
   have i:x≠a:=λe=>f (e▸c);show(Ye i).mpr (s x (by simp[c]))
  rw[Wy b]at this;have:0<L.length:=Xe b;rw[k9];lia
end
end Od
namespace TM
open PySem L2 H_
section
def qu(h:st[j]?=a5 (a5 (.own,u))):Run (lift (.bor j,u0)) st u (st.set j (a5 (.loc,u))):=by
 change(match st[j]? with|some (a5 (.own,u))=>a5 (Ex.ok u,st.set j (a5 (.loc,u)))|_=>b6)=_;rw[h]
def y7(h:Run c st cb st1):Run (gB c body (n+1)) st .nx st1:=aa h aL
def y8(h:Run c st bD st1)(a:Run body st1 .nx st2)(b:Run (gB c body n) st2 f d):Run (gB c body (n+1)) st f d:=aa h (aa a b)
def y9(h:Run (gB (HP Γ c) (execs Γ body) fuel) st .nx st1)(a:Run (execs Γ ss) st1 f st2):Run (execs Γ (.MV c body::ss)) st f st2:=et h a
def qw(hk:k=.loc\/k=.any):Run (dF bD [i,j] (k,.tup [a,b])) st () ((st.set i (a5 (k,a))).set j (a5 (k,b))):=by
 rcases hk with rfl|rfl<;>rfl
def Et(h:Run (execs Γ ss) (st.set i (a5 (.A',.Hz [] []))) f st1):Run (execs Γ (.newD i::ss)) st f st1:=et (aa (a:=()) (st1:=st.set i (a5 (.A',.Hz [] []))) rfl aL) h
def o_(h:st[i]?=a5 (a5 (.A',.Hz ks us))):Run (gA i) st (ks,us) st:=by
 change gA i st=_;unfold gA;rw[h]
def sv:Run (iE (k,.str y)) st y st:=rfl
def BF(a:st[i]?=a5 (a5 (.A',.Hz ks us)))(b:y∉ks)(c:ks.length<cK):Run (k7 i y (.own,.lst xs)) st () (st.set i (a5 (.A',.Hz (ks++[y]) (us++[.lst xs])))):=by
 change k7 i y (.own,.lst xs) st=_;unfold k7
 dsimp only
 rw[a]
 dsimp only
 rw[ê ⟨b,c⟩]
def BG(a:st[i]?=a5 (a5 (.A',.Hz ks us)))(b:dP ks us y=a5 (.lst xs))(c:xs.length<cK):Run (k8 i y u) st () (st.set i (a5 (.A',.Hz ks (j5 ks us y (.lst (xs++[u])))))):=by
 change k8 i y u st=_;unfold k8;rw[a]
 dsimp only
 rw[b]
 dsimp only
 rw[ê c]
def Gq(b:Run (ev Γ a) st (k,.str y) st1)(c:st1[i]?=a5 (a5 (.A',.Hz ks us))):Run (HP Γ (.inD neg a i)) st (Ph neg y ks) st1 :=
 aa b (aa sv (aa (o_ c) aL))
def Eu(b:Run (ev Γ c) st (.own,.lst xs) st1)(a:st1[i]?=a5 (a5 (.A',.Hz ks us)))(d:Run (ev Γ e) st1 (k,.str y) st1)(g:y∉ks)(h:ks.length<cK)
  (j:Run (execs Γ ss) (st1.set i (a5 (.A',.Hz (ks++[y]) (us++[.lst xs])))) f l):Run (execs Γ (.putD i e c::ss)) st f l:=by
 show et ?_ j;show aa b (aa (o_ a) (aa d (aa sv (aa (BF a g h) aL))))
def Ew(a:st[i]?=a5 (a5 (.A',.Hz ks us)))(b:Run (ev Γ c) st (k,.str y) st)(d:y∈ks)(e:Run (ev Γ g) st r st)(h:Run (lift r) st u st)(j:dP ks us y=a5 (.lst xs))(l:xs.length<cK)
  (m:Run (execs Γ ss) (st.set i (a5 (.A',.Hz ks (j5 ks us y (.lst (xs++[u])))))) f n):Run (execs Γ (.J5 i c g::ss)) st f n:=by
 show et ?_ m;show aa (o_ a) (aa b (aa sv (aa (o_ a) ?_)));rw[ê d];show aa e (aa h (aa (BG a j l) aL))
def Gr(h:st[i]?=a5 (a5 (.A',.Hz ks us))):Run (ev Γ (.Oj i)) st (.bor i,.Hz ks us) (st.set i (a5 (.own,.Hz ks us))):=by
 change xm i st=_;unfold xm;rw[h]
def Ey(c:st[i]?=a5 (a5 (.own,.Hz ks us)))(d:Run (ev Γ a) st (k,.str y) st)(e:Run (ev Γ b) st z st)(f:Run (lift z) st u st)(g:(match dP ks us y with|some v=>(Kd.loc,v)|none=>(.loc,u))=r):
  Run (ev Γ (.Kf i a b)) st r st:=by
 show aa (d0 c) (aa (a:=()) (st1:=st) rfl (aa d (aa (a:=y) (st1:=st) rfl (aa e (aa f (aa (d0 c) (cY ?_)))))));subst g;rfl
def Gu(b:st[i]?=a5 (a5 (.own,.lst us)))(d:Run (ev Γ e) st (k1,.int (j:Nat)) st)(c:us[j]?=a5 (.int o))(g:Run (ev Γ h) st (k2,.int w) st)
  (k:Run (execs Γ ss) (st.set i (a5 (.own,.lst (us.set j (.int (o - w)))))) f l):Run (execs Γ (.aug bD i e h::ss)) st f l:=by
 have hl:pT i st=a5 (.ok us,st):=by unfold pT;rw[b];rfl
 have m:j<us.length:=(dt.mp c).1;have hi:pU us (j:Nat)=a5 o:=by
  unfold pU;rw[ê ⋯,L3,c]
 have n:K4 us.length (j:Nat)=a5 j:=by
  unfold K4;rw[ê ⋯]
  first|(rw[ê ⋯];simp)|simp[m]
 show et (aa (a:=us) (st1:=st) hl (aa d (aa (a:=(j:Int)) (st1:=st) rfl (aa (a:=us) (st1:=st) hl (aa (cY hi) (aa g (aa (a:=w) (st1:=st) rfl (aa (a:=()) (st1:=st.set i (a5 (.own,.lst (us.set j (.int (o - w)))))) ?_ aL)))))))) k;change modS i (fy (.int (j:Nat)) (.int (u5 bD o w))) st=_;unfold modS;rw[b];simp only[Kd.root,if_true,fy];rw[n];rfl
def Gv(a:st[i]?=a5 (a5 (.own,u)))(b:xh u=a5 r):Run (ev Γ (.Ol i)) st r st:=aa (d0 a) (cY b)
end
theorem lM(f:Str->U)(y:Str):∀ks:List Str,dP ks (ks.map f) y=if y∈ks then a5 (f y) else b6
 |[]=>rfl
 |k::ks=>by
  rw[g8];change(if k=y then a5 (f k) else dP ks (ks.map f) y)=_;by_cases e:k=y
  .subst e;rw[ê rfl,ê (by simp)]
  .rw[ë e,lM f y ks];have:(y∈k::ks)↔y∈ks:=by simp[ri e]
   by_cases h:y∈ks
   .rw[ê h,ê (this.mpr h)]
   .rw[ë h,ë λz=>h (this.mp z)]
theorem qx(f:Str->U)(y:Str)(u:U):∀ks:List Str,ks.Nodup->j5 ks (ks.map f) y u=ks.map λk=>if k=y then u else f k
 |[],_=>rfl
 |k::ks,h=>by
  have⟨a,b⟩:=nC.mp h;rw[g8,g8];change(if k=y then u::ks.map f else f k::j5 ks (ks.map f) y u)=_;by_cases e:k=y
  .subst e;rw[ê rfl,ê rfl];congr 1
   show x4 λz hz=>?_;have c:z≠k:=λq=>a (by rw[<-q];show hz);rw[ë c]
  .rw[ë e,ë e,qx f y u ks b]
abbrev stN(s:Str×Nat):U:=.tup [.str s.1,.int (s.2:Nat)]
theorem nq(f:α->Int):∀(ns:List α),intsOf (ns.map λa=>U.int (f a))=a5 (ns.map f)
 |[]=>rfl
 |n::ns=>by change(intsOf (ns.map λa=>U.int (f a))).map _=_;rw[nq f ns];rfl
def BH(h:ps.length<64)(c:(ps.map (·.1)).Nodup):∃a:List (Str×Nat),a.Perm ps/\xh (.Hz (ps.map (·.1)) (ps.map λp=>.int (p.2:Nat)))=a5 (.own,.lst (a.map stN)):=by
 have hi:=nq (λp:Str×Nat=>((p.2:Nat):Int)) ps;have hz:(ps.map (·.1)).zip (ps.map λp:Str×Nat=>((p.2:Nat):Int))=ps.map λp=>(p.1,((p.2:Nat):Int)):=by
  rw[List.zip_map']
 let P:=jY ((ps.map λp=>(p.1,((p.2:Nat):Int))).map (·.1));have b:P.Perm (il ps.length):=by
  have:=fZ ((ps.map λp=>(p.1,((p.2:Nat):Int))).map (·.1));simpa[P] using this
 show⟨P.map λi=>ps.getD i (tv,0),?_,?_⟩
 .show(b.map _).trans ?_;have:(il ps.length).map (λi=>ps.getD i (tv,0))=ps:=by
   apply NX
   .simp
   .intro i g d;simp[Lz,d]
  rw[this]
 .change(intsOf (ps.map λp=>U.int (p.2:Nat))).bind _=_;rw[hi];change(if (ps.map (·.1)).length<64/\(ps.map (·.1)).Nodup/\(ps.map (·.1)).length=(ps.map λp:Str×Nat=>((p.2:Nat):Int)).length then _ else _)=_;rw[ê ⟨by simpa using h,c,by simp⟩,hz];congr 3
  change(Ay _).map u3=_;change(P.map λi=>(ps.map λp=>(p.1,((p.2:Nat):Int))).getD i (tv,0)).map u3=_;rw[mh,mh];show x4 λi e=>?_;have f:i<ps.length:=ve.mp (b.mem_iff.mp e);simp[Lz,f,u3,stN]
def Gw(h:cL (j<=i)=c):bu .ge (.int i) (.int j)=a5 c:=by subst h;rfl
def Ez:bu .isin (.str x) (.Hz ks vs)=a5 (cL (x∈ks)):=rfl
def jo:bu .HC (.str x) (.Hz ks vs)=a5 (!cL (x∈ks)):=rfl
def Gy{ss:List Str}:bu .isin (.str x) (.lst (ss.map U.str))=a5 (cL (x∈ss)):=by
 have h:=@fR x ss;have e:bu .HC (.str x) (.lst (ss.map U.str))=(bu .isin (.str x) (.lst (ss.map U.str))).map (!·):=rfl;rw[e,hQ]at h;have⟨b,a,c⟩:=h;rw[a];congr 1
 cases b<;>simp_all
def uf(bs:List Bool):Js .all [(k,.lst (bs.map .bl))]=a5 (.loc,.bl (bs.all id)):=by
 change(kY (bs.map U.bl)).map _=_;have:∀bs:List Bool,kY (bs.map U.bl)=a5 bs:=λbs=>by
  induction bs with
  |nil=>rfl
  |cons b bs a=>change(kY (bs.map U.bl)).map _=_;rw[a];rfl
 rw[this];rfl
mutual
theorem jq:∀(n:Nat) (u:U),Ia n u=bD->bI u u=bD
 |_,.HD,_=>rfl
 |_,.bl b,_=>by simp[bI]
 |_,.int i,_=>by simp[bI]
 |_,.str x,_=>by simp[bI]
 |0,.tup xs,h=>by simp[Ia]at h
 |0,.lst xs,h=>by simp[Ia]at h
 |n+1,.tup xs,h=>by rw[bI];show hJ n xs (by simpa[Ia] using h)
 |n+1,.lst xs,h=>by rw[bI];show hJ n xs (by simpa[Ia] using h)
 |_,.Hz _ _,h=>by simp[Ia]at h
theorem hJ:∀(n:Nat) (us:List U),b_ n us=bD->cz us us=bD
 |_,[],_=>rfl
 |n,u::us,h=>by
  have h':Ia n u=bD/\b_ n us=bD:=by simpa[b_] using h
  rw[cz,jq n u h'.1,hJ n us h'.2];rfl
end
section
end
def pe(h:ks.length<1000)(a:x∉ks):fy (.str x) u (.Hz ks us)=a5 (.Hz (ks++[x]) (us++[u])):=by
 rw[BE h];unfold dput;rw[ë a]
def fT(h:Ia 50 (.lst us)=bD):bu .ne (.lst us) (.lst [])=a5 (!us.isEmpty):=by
 simp only[bu];rw[ê ⟨h,by simp[Ia,b_]⟩];cases us with
 |_=>simp[bI,cz]
theorem gr(f:α->Int):∀(l:List α) (n:Nat),b_ n (l.map λa=>U.int (f a))=bD
 |[],n=>by simp[b_]
 |a::l,n=>by rw[g8,b_,gr f l n];simp[Ia]
theorem qy:∀(ss:List (Str×Nat)) (n:Nat),b_ (n+1) (ss.map stN)=bD
 |[],n=>by simp[b_]
 |s::ss,n=>by rw[g8,b_,qy ss n];simp[stN,Ia,b_]
theorem lN{cond:M Bool}(h:bo src st)(a b g:α->U)(p:α->Bool):∀(ys:List α) (c:List U),c.length+ys.length<=cK ->
  (∀y∈ys,Run cond (a5 (.loc,a y)::a5 (.loc,b y)::st) (p y) (a5 (.loc,a y)::a5 (.loc,b y)::st)/\Run elt (a5 (.loc,a y)::a5 (.loc,b y)::st) (.loc,g y) (a5 (.loc,a y)::a5 (.loc,b y)::st)) ->
  Run (bG 2 bD cond elt src (ys.map λy=>(Kd.loc,U.tup [a y,b y])) c) st (c++(ys.filter p).map g) st
 |[],c,_,_=>by rw[LL,RO,LL,sx];show qg h
 |y::ys,c,hl,f=>by
  have⟨d,j⟩:=f y (by simp);rw[k9]at hl;have i:Run (dF bD (il 2) (.loc,.tup [a y,b y])) (lg 2 b6++st) () (a5 (.loc,a y)::a5 (.loc,b y)::st):=qw (.inl rfl);cases e:p y with
  |true =>
   rw[e]at d;show lE (s1:=a5 (.loc,a y)::a5 (.loc,b y)::st) (s2:=a5 (.loc,a y)::a5 (.loc,b y)::st) (s3:=a5 (.loc,a y)::a5 (.loc,b y)::st) (s4:=a5 (.loc,a y)::a5 (.loc,b y)::st) h i d j bg ⋯ ?_;have:=lN h a b g p ys (c++[g y]) (by simp;lia) λz hz=>f z (by simp[hz]);rw[HR,ê e,g8];simpa using this
  |false =>
   rw[e]at d;show sf (s1:=a5 (.loc,a y)::a5 (.loc,b y)::st) (s2:=a5 (.loc,a y)::a5 (.loc,b y)::st) h i d ?_;have:=lN h a b g p ys c ⋯ λz hz=>f z (by simp[hz]);rw[HR,ë (by simp[e])];show this
def set_range(n:Nat)(f:Nat->α)(t:Nat)(v:α):((il n).map f).set t v=(il n).map λp=>if p=t then v else f p:=by
 apply NX
 .simp
 .intro i a b;simp only[List.getElem_set,Y',List.getElem_range];by_cases e:t=i
  .subst e;simp
  .rw[ë e,ë (ri e)]
def BI{rows:List Row}{t:Nat}(h:rows[t]?=a5 r):Ic (rows.map Hx) (t:Int)=a5 (Hx r):=cQ (by simp[h])
section
end
end TM
namespace KL
open PySem L2 TM
abbrev da:Fn:=⟨"gathered",1,4,[.newD 1,.Ij bD [2,3] .seq [.var 0] [.ite (.inD bD (.var 2) 1) [.putD 1 (.var 2) (.lst [])] [],.J5 1 (.var 2) (.var 3)],.ret (.Oj 1)]⟩
abbrev bb:Fn:=⟨"places_that_tell",1,4,[.set 1 (.lst []),.Ij bD [2,3] .MU [.var 0] [.ext 1 (.comp 1 cb .seq [.idx (.var 3) (.cst (.int 1))] [] (.tup [.var 0,.var 3]))],.ret (.call "gathered" [.var 1])]⟩
abbrev cN:Fn:=⟨"new_steps",3,6,[.set 3 (.J4 cb),.Ij cb [4] .seq [.var 1] [.set 5 (.idx (.idx (.var 0) (.var 4)) (.cst (.int 0))),.ite (.and [.cmp .HC (.var 5) (.var 2),.cmp .HC (.var 5) (.var 3)]) [.put 3 (.var 5) (.var 4)] []],.ret (.Ol 3)]⟩
abbrev bj:Fn:=⟨"steps_in_rounds",1,10,[.set 1 (.call "places_that_tell" [.var 0]),.set 2 (.comp 1 cb .seq [.var 0] [] (.bi .len [.idx (.var 0) (.cst (.int 1))])),.set 3 (.J4 cb),.set 4 (.lst []),.set 5 (.comp 2 bD .MU [.var 2] [.cmp .eq (.var 1) (.cst (.int 0))] (.var 0)),.MV (.cmp .ne (.var 5) (.lst [])) [.set 6 (.call "new_steps" [.var 0,.var 5,.var 3]),.set 5 (.lst []),.Ij bD [7,8] .seq [.var 6] [.put 3 (.var 7) (.cst (.bl bD)),.Ij cb [9] .seq [.Kf 1 (.var 7) (.lst [])] [.aug bD 2 (.var 9) (.cst (.int 1)),.ite (.cmp .eq (.idx (.var 2) (.var 9)) (.cst (.int 0))) [.app 5 (.var 9)] []]],.ite (.cmp .ne (.var 6) (.lst [])) [.app 4 (.var 6)] []],.ret (.var 4)]⟩
abbrev fg:Fn:=⟨"order",1,3,[.set 1 (.lst []),.Ij cb [2] .seq [.call "steps_in_rounds" [.var 0]] [.ext 1 (.var 2)],.ret (.var 1)]⟩
abbrev eR:Fn:=⟨"learnt",1,1,[.ret (.bi .sorted [.comp 2 bD .seq [.call "order" [.var 0]] [] (.var 0)])]⟩
end KL
namespace KL
open PySem L2 TM H_ Od
abbrev cw(f:Str->List Nat)(k:Str):U:=.lst ((f k).map λt:Nat=>U.int (t:Nat))
def jr(d:List (Str×Nat))(y:Str×Nat)(k:Str):aE (d++[y]) k=if y.1=k then aE d k++[y.2] else aE d k:=by
 rw[qq];by_cases e:y.1=k
 .rw[ê e];simp[aE,e]
 .rw[ë e];simp[aE,e]
def y_(d:List (Str×Nat))(k:Str):(aE d k).length<=d.length:=by
 unfold aE;rw[dr];show Nf _ _
section
def pf(hl:ps.length<=1000):∃ks:List Str,(∀w,w∉ks->aE ps w=[])/\bS Γ da [.lst (ps.map stN)]=a5 (.ok (.own,.Hz ks (ks.map (cw (aE ps))))):=by
 have hsz:(2000:Nat)<=cK:=by decide
 have x:TM.start [.lst (ps.map stN)] 4=[a5 (.any,.lst (ps.map stN)),b6,b6,b6]:=rfl;let S:=λ(ks:List Str) (us:List U) (o2 o3:Option (Kd×U))=>([a5 (.any,.lst (ps.map stN)),a5 (.A',.Hz ks us),o2,o3]:au)
 let body:List TM.S:=[.ite (.inD bD (.var 2) 1)
    [.putD 1 (.var 2) (.lst [])]
    [],
   .J5 1 (.var 2) (.var 3)]
 have⟨st',A,l,ks,o2,o3,e,f,hk,B⟩:=ff (t:=bD) (is:=[2,3]) (body:=execs Γ body) (rs:=[(.any,.lst (ps.map stN))]) (λp:Str×Nat=>(Kd.any,stN p))
  (λd r st=>d++r=ps/\∃(ks:List Str) (o2 o3:Option (Kd×U)),st=S ks (ks.map (cw (aE d))) o2 o3/\ks.Nodup/\(∀w,w∉ks->aE d w=[])/\ks.length<=d.length) (λ_ _ _ _=>trivial) (λd y r st C=>by
   have⟨l,ks,o2,o3,e,f,hk,B⟩:=C;subst e;have J:d.length<1000:=by have:=ï Jt l;simp at this;lia
   let g:Option (Kd×U):=a5 (.any,.str y.1);let i:Option (Kd×U):=a5 (.any,.int (y.2:Nat));have L:=y_ d y.1;have j:∀(ks:List Str),ks.Nodup->y.1∈ks->Run (execs Γ [.J5 1 (.var 2) (.var 3)]) (S ks (ks.map (cw (aE d))) g i) .nx (S ks (ks.map (cw (aE (d++[y])))) g i):=λks f c=>by
    have D:dP ks (ks.map (cw (aE d))) y.1=a5 (.lst ((aE d y.1).map λt:Nat=>U.int (t:Nat))):=by rw[lM,ê c];rfl
    have hs:j5 ks (ks.map (cw (aE d))) y.1 (.lst ((aE d y.1).map (λt:Nat=>U.int (t:Nat))++[.int (y.2:Nat)]))=ks.map (cw (aE (d++[y]))):=by
     rw[qx _ _ _ _ f];show x4 λk hk=>?_;unfold cw;rw[jr];by_cases e:y.1=k
     .subst e;rw[ê rfl,ê rfl];simp
     .rw[ë e,ë (ri e)]
    rw[<-hs];show Ew (k:=.any) (r:=(.any,.int (y.2:Nat))) rfl (ba rfl) c (ba rfl) (m9 rfl) D (by rw[dr];lia) aQ
   have m:Run (HP Γ (.inD bD (.var 2) 1)) (S ks (ks.map (cw (aE d))) g i) (!cL (y.1∈ks)) (S ks (ks.map (cw (aE d))) g i):=Gq (neg:=bD) (k:=.any) (ba rfl) rfl;have o:Run (dF bD [2,3] (.any,stN y)) (S ks (ks.map (cw (aE d))) o2 o3) () (S ks (ks.map (cw (aE d))) g i):=qw (.inr rfl);by_cases c:y.1∈ks
   .rw[í c]at m;show⟨_,_,o,cj m (λh=>by cases h) λ_=>j ks f c,by rw[<-l];simp,ks,_,_,rfl,f,λw n=>?_,by simp;lia⟩;have G:y.1≠w:=λz=>n (by rw[<-z];show c);rw[jr,ë G];show hk w n
   .rw[ì c]at m;have q:(ks++[y.1]).Nodup:=by
     rw[ro];show⟨f,by simp,λa H b I e=>?_⟩;have:b=y.1:=by simpa using I
     subst this;show c (e▸H)
    have em:ks.map (cw (aE d))++[.lst []]=(ks++[y.1]).map (cw (aE d)):=by
     rw[oD];congr 1
     change _=[cw (aE d) y.1]
     unfold cw;rw[hk y.1 c];rfl
    have s:=j (ks++[y.1]) q (by simp);rw[<-em]at s;show⟨_,_,o,cj m (λ_=>Eu (k:=.any) (xs:=[]) (dA aj trivial aX (mx _)) rfl (ba rfl) c ⋯ s) λh=>(by cases h),by rw[<-l];simp,ks++[y.1],_,_,rfl,q,λw n=>?_,by simp;lia⟩;have v:w∉ks/\w≠y.1:=by simpa using n
    rw[jr,ë (ri v.2)];show hk w v.1) ps [] (S [] [] b6 b6) ⟨rfl,[],b6,b6,rfl,.nil,λ_ _=>rfl,i5 _⟩
 subst e;rw[my]at *;show⟨ks,hk,?_⟩;have e:(ps.map stN).map (λu=>(kE .any,u))=ps.map λp=>(Kd.any,stN p):=by rw[mh];rfl
 show aH rfl (.inl rfl) x (Et (fO (rs:=[(.any,.lst (ps.map stN))]) (st1:=S [] [] b6 b6) (ae (ba rfl) aj) trivial rfl rfl (by rw[e];show A) (bx (Gr rfl) (qf rfl))))
abbrev Cr(Γ:Tab):Prop:=∀ps:List (Str×Nat),ps.length<=1000->∃ks:List Str,(∀w,w∉ks->aE ps w=[])/\Γ "gathered" [.lst (ps.map stN)]=a5 (.ok (.own,.Hz ks (ks.map (cw (aE ps)))))
def hU(s:Cr Γ)(v:Once rows)(z:∀r∈rows,r.2.length<=8)(H:rows.length<=120):
  ∃ks:List Str,(∀w,w∉ks->Iu rows rows.length w=[])/\bS Γ bb [.tup (rows.map Hx)]=a5 (.ok (.own,.Hz ks (ks.map (cw (Iu rows rows.length))))):=by
 have hsz:(2000:Nat)<=cK:=by decide
 have A:TM.start [.tup (rows.map Hx)] 4=[a5 (.loc,.tup (rows.map Hx)),b6,b6,b6]:=by simp[TM.start,HQ,c_]
 let S:=λ(ps:List (Str×Nat)) (o2 o3:Option (Kd×U))=>([a5 (.loc,.tup (rows.map Hx)),a5 (.own,.lst (ps.map stN)),o2,o3]:au)
 let body:List TM.S:=[.ext 1 (.comp 1 cb .seq [.idx (.var 3) (.cst (.int 1))] [] (.tup [.var 0,.var 3]))]
 have⟨st',B,g,ps,o2,o3,e,h,l⟩:=ff (t:=bD) (is:=[2,3]) (body:=execs Γ body) (rs:=[(.loc,.tup (rows.map Hx))]) (λp:Row×Nat=>(Kd.loc,U.tup [.int (p.2:Nat),Hx p.1]))
  (λd r st=>d++r=rows.zipIdx/\∃(ps:List (Str×Nat)) (o2 o3:Option (Kd×U)),st=S ps o2 o3/\(∀w,aE ps w=Iu rows d.length w)/\ps.length<=8 * d.length) (λ_ _ _ _=>trivial) (λd y r st C=>by
   have⟨g,ps,o2,o3,e,h,l⟩:=C;subst e;have⟨f,i⟩:=y;have m:(rows.zipIdx)[d.length]?=a5 (f,i):=by rw[<-g];simp
   rw[Qj,hQ]at m;have⟨a,n,e⟩:=m;have e1:a=f:=ï Zx e;have o:0+d.length=i:=ï Prod.snd e;rw[RN]at o;subst e1 o;have I:d.length<120:=by have:=ï Jt g;simp at this;lia
   have J:=z a (pd n);let b:Option (Kd×U):=a5 (.loc,.int (d.length:Nat));let c:Option (Kd×U):=a5 (.loc,Hx a);have q:=gY (cond:=aN Γ []) (elt:=ev Γ (.tup [.var 0,.var 3])) (src:=[(.loc,.tup (a.2.map .str))]) (st:=S ps b c) trivial .loc (.inl rfl) U.str (λx=>stN (x,d.length)) .loc (λ_=>iT) a.2 [] (by simp;lia)
    (λy _=>⟨fN (ae (ah rfl) (ae (ah rfl) aj)) trivial (aJ bg (aJ bg aX)) (by change 2<=cK;lia),bg⟩)
   rw[my]at q;have e:(a.2.map U.str).map (λu=>(kE .loc,u))=a.2.map λr=>(Kd.loc,U.str r):=by rw[mh];rfl
   have D:Run (ev Γ (.comp 1 cb .seq [.idx (.var 3) (.cst (.int 1))] [] (.tup [.var 0,.var 3]))) (S ps b c) (.own,.lst (a.2.map λx=>stN (x,d.length))) (S ps b c) :=
    cv (rs:=[(.loc,.tup (a.2.map .str))]) (ae (bh (x:=(.loc,Hx a)) (ah rfl) aw trivial rfl) aj) trivial (by change a5 _=_;rw[e]) q
   have em:ps.map stN++(a.2.map λx=>stN (x,d.length))=(ps++a.2.map λx=>(x,d.length)).map stN:=by simp
   show⟨S ps b c,S (ps++a.2.map λx=>(x,d.length)) b c,qw (.inl rfl),?_,by rw[<-g];simp,_,_,_,rfl,λw=>?_,by simp;lia⟩
   .change Run _ _ _ [a5 (.loc,.tup (rows.map Hx)),a5 (.own,.lst ((ps++a.2.map λx=>(x,d.length)).map stN)),b,c];rw[<-em];show Cq (k:=.own) (k':=.own) rfl D rfl rfl (ud (by rw[dr,dr];lia) rfl) aQ
   .rw[j0];show vK v n h w) rows.zipIdx [] (S [] b6 b6) ⟨rfl,[],b6,b6,rfl,λw=>by simp[aE,Iu],by simp⟩
 subst e;rw[my,List.length_zipIdx]at h l;have j:Kg .MU [(.loc,.tup (rows.map Hx))]=a5 (rows.zipIdx.map λp:Row×Nat=>(Kd.loc,U.tup [.int (p.2:Nat),Hx p.1])):=by
  change a5 ((rows.map Hx).zipIdx.map λp=>(kE .loc,U.tup [.int p.2,p.1]))=_;rw[List.zipIdx_map,mh];rfl
 have⟨ks,k1,k2⟩:=s ps ⋯;have G:aE ps=Iu rows rows.length:=funext h;rw[G]at k1 k2;show⟨ks,k1,?_⟩;show aH rfl (.inl rfl) A (ay (r:=(.own,.lst [])) (dA aj trivial aX (mx _)) bw (fO (rs:=[(.loc,.tup (rows.map Hx))]) (st1:=S [] b6 b6) (ae (ah rfl) aj) trivial j rfl B
  (bx (aU (ae (aC rfl) aj) ⟨⟨.own,rfl,rfl⟩,trivial⟩ k2) jO)))
def mn{names:List Str}(v:∀r∈rows,r.1∈names)(O:names.length<64)(y:∀t∈R,t<rows.length):
  ∃st:List (Str×Nat),NS rows K0 R st/\bS Γ cN [.tup (rows.map Hx),.lst (R.map λt:Nat=>.int (t:Nat)),.Hz K0 vs]=a5 (.ok (.own,.lst (st.map stN))):=by
 have hsz:(2000:Nat)<=cK:=by decide
 have z:TM.start [.tup (rows.map Hx),.lst (R.map λt:Nat=>.int (t:Nat)),.Hz K0 vs] 6=[a5 (.loc,.tup (rows.map Hx)),a5 (.any,.lst (R.map λt:Nat=>.int (t:Nat))),a5 (.any,.Hz K0 vs),b6,b6,b6]:=by simp[TM.start,HQ,c_]
 let S:=λ(ps:List (Str×Nat)) (o4 o5:Option (Kd×U))=>([a5 (.loc,.tup (rows.map Hx)),a5 (.any,.lst (R.map λt:Nat=>.int (t:Nat))),a5 (.any,.Hz K0 vs),a5 (.own,.Hz (ps.map (·.1)) (ps.map λp=>.int (p.2:Nat))),o4,o5]:au)
 let body:List TM.S:=[.set 5 (.idx (.idx (.var 0) (.var 4)) (.cst (.int 0))),
   .ite (.and [.cmp .HC (.var 5) (.var 2),.cmp .HC (.var 5) (.var 3)])
    [.put 3 (.var 5) (.var 4)]
    []]
 have o:∀{d:List Nat} {ps:List (Str×Nat)},NS rows K0 d ps->ps.length<=names.length:=λ{d ps} x=>by
  have:=lL x.once (L:=names) λw A=>by
   have⟨s,hs,rfl⟩:=lx.mp A;obtain⟨_,_,r,b,c⟩:=x.ok s hs;rw[<-c];show v r (pd b)
  simpa using this
 have⟨st',B,j,ps,o4,o5,e,x⟩:=ff (t:=cb) (is:=[4]) (body:=execs Γ body) (rs:=[(.any,.lst (R.map λt:Nat=>.int (t:Nat)))]) (λt:Nat=>(Kd.any,U.int (t:Nat)))
  (λd r st=>d++r=R/\∃(ps:List (Str×Nat)) (o4 o5:Option (Kd×U)),st=S ps o4 o5/\NS rows K0 d ps) (λ_ _ _ _=>trivial) (λd t r st C=>by
   have⟨j,ps,o4,o5,e,x⟩:=C;subst e;have D:t<rows.length:=y t (by rw[<-j];simp);have l:rows[t]?=a5 rows[t]:=by simp[D]
   generalize rows[t]=a at l;let f:Option (Kd×U):=a5 (.any,.int (t:Nat));let m:Option (Kd×U):=a5 (.loc,.str a.1);have G:=o x;have i:Run (HP Γ (.and [.cmp .HC (.var 5) (.var 2),.cmp .HC (.var 5) (.var 3)])) (S ps f m) (!cL (a.1∈K0)&&!cL (a.1∈ps.map (·.1))) (S ps f m) :=
    iS (oX (bt (ah rfl) (ba rfl) trivial jo) λ_=>cT (bt (ah rfl) (aC rfl) ⟨⟨.own,rfl,rfl⟩,trivial⟩ jo))
   have g:∀{q:au},Run (execs Γ [.ite (.and [.cmp .HC (.var 5) (.var 2),.cmp .HC (.var 5) (.var 3)])
    [.put 3 (.var 5) (.var 4)]
    []]) (S ps f m) .nx q->Run (execs Γ body) (S ps f o5) .nx q:=λh =>
    ay (r:=(.loc,.str a.1)) (bh (x:=(.loc,Hx a)) (bh (ah rfl) (ba rfl) trivial (nO (BI l))) aw trivial rfl) aV h
   have n:Run (dF cb [4] (.any,.int (t:Nat))) (S ps o4 o5) () (S ps f o5):=fP lD;by_cases b:a.1∈K0
   .rw[í b]at i;show⟨_,_,n,g (cj i (λh=>by cases h) λ_=>aQ),by rw[<-j];simp,ps,_,_,rfl,x.skip l (.inl b)⟩
   .by_cases c:a.1∈ps.map (·.1)
    .rw[ì b,í c]at i;show⟨_,_,n,g (cj i (λh=>by cases h) λ_=>aQ),by rw[<-j];simp,ps,_,_,rfl,x.skip l (.inr c)⟩
    .rw[ì b,ì c]at i;show⟨_,S (ps++[(a.1,t)]) f m,n,g (cj i (λ_=>?_) λh=>by cases h),by rw[<-j];simp,_,_,_,rfl,x.take l b c⟩;have e1:(ps++[(a.1,t)]).map (·.1)=ps.map (·.1)++[a.1]:=by simp
     have H:((ps++[(a.1,t)]).map λp=>U.int (p.2:Nat))=(ps.map λp=>U.int (p.2:Nat))++[.int (t:Nat)]:=by simp
     change Run _ _ _ [a5 (.loc,.tup (rows.map Hx)),a5 (.any,.lst (R.map λt:Nat=>.int (t:Nat))),a5 (.any,.Hz K0 vs),a5 (.own,.Hz ((ps++[(a.1,t)]).map (·.1)) ((ps++[(a.1,t)]).map λp=>.int (p.2:Nat))),f,m];rw[e1,H];show yT (k:=.own) (rv:=(.any,.int (t:Nat))) (rk:=(.loc,.str a.1)) (ba rfl) rfl (ah rfl) (aJ (m9 rfl) (aJ bg aX)) rfl rfl (pe (by rw[dr];lia) c) aQ) R [] (S [] b6 b6) ⟨rfl,[],b6,b6,rfl,NS.start K0⟩
 subst e;rw[my]at x;have G:=o x;have⟨I,J,N⟩:=BH (ps:=ps) ⋯ x.once;show⟨I,x.perm J,?_⟩;have e:(R.map λt:Nat=>U.int (t:Nat)).map (λu=>(kE .any,u))=R.map λt=>(Kd.any,U.int (t:Nat)):=by rw[mh];rfl
 show aH rfl (.inl rfl) z (ay (r:=(.own,.Hz [] [])) r9 bw (fO (rs:=[(.any,.lst (R.map λt:Nat=>.int (t:Nat)))]) (st1:=S [] b6 b6) (ae (ba rfl) aj) trivial rfl rfl (by rw[e];show B) (bx (Gv rfl N) jO)))
end
abbrev mi(rows:List Row)(K0:List Str)(d:List Nat)(p:Nat):Int:=(cnt rows K0 p:Int) - (if p∈d then 1 else 0)
abbrev bJ(rows:List Row)(f:Nat->Int):List U:=(il rows.length).map λp=>U.int (f p)
abbrev fh(R:List Nat):List U:=R.map λt:Nat=>U.int (t:Nat)
def BJ(rows:List Row)(K0:List Str):bJ rows (mi rows K0 [])=bJ rows λp=>(cnt rows K0 p:Int):=by
 unfold bJ mi;show x4 λp _=>?_;simp
def BK(b:Once rows)(c:w∉K0):bJ rows (mi rows K0 (Iu rows rows.length w))=bJ rows λp=>(cnt rows (K0++[w]) p:Int):=by
 unfold bJ mi;show x4 λp d=>?_;have e:=ve.mp d;have a:=oZ b c p;by_cases h:w∈told rows p
 .rw[ê (iV.mpr ⟨e,h⟩)];rw[ê h]at a;change U.int ((cnt rows K0 p:Int) - 1)=U.int (cnt rows (K0++[w]) p:Int);congr 1
  lia
 .rw[ë λz=>h (iV.mp z).2];rw[ë h]at a;change U.int ((cnt rows K0 p:Int) - 0)=U.int (cnt rows (K0++[w]) p:Int);congr 1
  lia
def za(a:t∉d):(bJ rows (mi rows K0 d)).set t (.int (mi rows K0 d t - 1))=bJ rows (mi rows K0 (d++[t])):=by
 unfold bJ;rw[set_range];show x4 λp _=>?_;unfold mi;by_cases e:p=t
 .subst e;rw[ê rfl,ë a,ê (by simp)];rw[show((cnt rows K0 p:Int) - 0 - 1)=(cnt rows K0 p:Int) - 1 by lia]
 .rw[ë e];have:(p∈d++[t])↔p∈d:=by simp[e]
  simp only[this]
def zb(h:t<rows.length):(bJ rows f)[t]?=a5 (.int (f t)):=by simp[bJ,h]
section
variable{Γ:Tab}{rows:List Row}
abbrev ug:List TM.S:=[.aug bD 2 (.var 9) (.cst (.int 1)),.ite (.cmp .eq (.idx (.var 2) (.var 9)) (.cst (.int 0))) [.app 5 (.var 9)] []]
def qz(v:Once rows)(L:rows.length<=120)(y:w∉K0)(N:R.length<=14400)(b:Option (Kd×U))(A:∀st,bo src st):∃m:Option (Kd×U),
  Run (forM cb [9] (execs Γ ug) src ((Iu rows rows.length w).map λt:Nat=>(Kd.loc,U.int (t:Nat))))
   [b0,b1,a5 (.own,.lst (bJ rows λp=>(cnt rows K0 p:Int))),b3,b4,a5 (.own,.lst (fh R)),o6,o7,o8,b] .nx
   [b0,b1,a5 (.own,.lst (bJ rows λp=>(cnt rows (K0++[w]) p:Int))),b3,b4,a5 (.own,.lst (fh (R++(Iu rows rows.length w).filter λt=>cL (cnt rows K0 t=1)))),o6,o7,o8,m]:=by
 have hsz:(20000:Nat)<=cK:=by decide
 let S:=λ(ms:List U) (R:List Nat) (b:Option (Kd×U))=>([b0,b1,a5 (.own,.lst ms),b3,b4,a5 (.own,.lst (fh R)),o6,o7,o8,b]:au)
 have⟨st',n,f,m,e⟩:=ff (t:=cb) (is:=[9]) (body:=execs Γ ug) (rs:=src) (λt:Nat=>(Kd.loc,U.int (t:Nat)))
  (λd r st=>d++r=Iu rows rows.length w/\∃b:Option (Kd×U),st=S (bJ rows (mi rows K0 d)) (R++d.filter λt=>cL (cnt rows K0 t=1)) b) (λ_ _ st _=>A st) (λd t r st B=>by
   have⟨f,b,e⟩:=B;subst e;have C:t∈Iu rows rows.length w:=by rw[<-f];simp
   have o:t<rows.length:=(iV.mp C).1;have q:=vJ (rows:=rows) rows.length w;have D:t∉d:=λz=>by
    rw[<-f,ro]at q;show q.2.2 t z t (by simp) rfl
   have O:d.length<=120:=by
    have G:=ï Jt f;have H:(Iu rows rows.length w).length<=(il rows.length).length:=Nf _ _;simp at G H;lia
   let c:Option (Kd×U):=a5 (.loc,.int (t:Nat));let a:=R++d.filter λt=>cL (cnt rows K0 t=1);have Q:a.length<=14520:=by
    have:(d.filter λt=>cL (cnt rows K0 t=1)).length<=d.length:=Nf _ _;change(R++_).length<=_;rw[j0];lia
   have I:Ic (bJ rows (mi rows K0 (d++[t]))) (t:Int)=a5 (.int (mi rows K0 (d++[t]) t)):=cQ (zb o);have J:mi rows K0 (d++[t]) t=(cnt rows K0 t:Int) - 1:=by unfold mi;rw[ê (by simp)]
   have i:Run (HP Γ (.cmp .eq (.idx (.var 2) (.var 9)) (.cst (.int 0)))) (S (bJ rows (mi rows K0 (d++[t]))) a c) (cL (cnt rows K0 t=1)) (S (bJ rows (mi rows K0 (d++[t]))) a c) :=
    bt (bh (x:=(.bor 2,.lst (bJ rows (mi rows K0 (d++[t]))))) (aC rfl) (ah rfl) ⟨⟨.own,rfl,rfl⟩,trivial⟩ (aP I)) aw trivial (eu (by
     rw[J,J7];simp;lia))
   have g:∀{s:au},Run (execs Γ [.ite (.cmp .eq (.idx (.var 2) (.var 9)) (.cst (.int 0)))
      [.app 5 (.var 9)]
      []]) (S (bJ rows (mi rows K0 (d++[t]))) a c) .nx s->Run (execs Γ ug) (S (bJ rows (mi rows K0 d)) a c) .nx s:=λh=>by
    show Gu (us:=bJ rows (mi rows K0 d)) (k1:=.loc) (k2:=.loc) (j:=t) (w:=1) rfl (ah rfl) (zb o) aw ?_;rw[za D];show h
   have u:Run (dF cb [9] (.loc,.int (t:Nat))) (S (bJ rows (mi rows K0 d)) a b) () (S (bJ rows (mi rows K0 d)) a c):=fP aV;cases l:cL (cnt rows K0 t=1) with
   |false =>
    rw[l]at i;show⟨_,_,u,g (cj i (λh=>by cases h) λ_=>aQ),by rw[<-f];simp,c,?_⟩;rw[OO,HR,l];simp[S,a]
   |true =>
    rw[l]at i;show⟨_,S (bJ rows (mi rows K0 (d++[t]))) (a++[t]) c,u,g (cj i (λ_=>?_) λh=>by cases h),by rw[<-f];simp,c,?_⟩
    .have em:fh (a++[t])=fh a++[.int (t:Nat)]:=by simp[fh]
     change Run _ _ _ [b0,b1,a5 (.own,.lst (bJ rows (mi rows K0 (d++[t])))),b3,b4,a5 (.own,.lst (fh (a++[t]))),o6,o7,o8,c];rw[em];show jP (k:=.own) (k':=.own) (r:=(.loc,.int (t:Nat))) rfl (ah rfl) bg rfl rfl (by unfold fh;rw[dr];lia) aQ
    .rw[OO,HR,l];simp[S,a]) (Iu rows rows.length w) [] (S (bJ rows (mi rows K0 [])) R b) ⟨rfl,b,by simp⟩
 subst e;rw[my]at n;rw[BJ,BK v y]at n;show⟨m,n⟩
abbrev zc:List TM.S:=[.put 3 (.var 7) (.cst (.bl bD)),.Ij cb [9] .seq [.Kf 1 (.var 7) (.lst [])] ug]
def vL(n:Once rows)(y:rows.length<=120)(A:∀w,w∉ks->Iu rows rows.length w=[])(o:(K0++st.map (·.1)).Nodup)(hl:K0.length+st.length<=120)(vs:List U)(o7 o8 a:Option (Kd×U)):∃(vs':List U) (R:List Nat) (i j b:Option (Kd×U)),
  RI rows K0 (K0++st.map (·.1)) R/\(st=[]->R=[])/\Run (forM bD [7,8] (execs Γ zc) [(.bor 6,.lst (st.map stN))] (st.map λs=>(Kd.loc,stN s)))
   [b0,a5 (.own,.Hz ks (ks.map (cw (Iu rows rows.length)))),a5 (.own,.lst (bJ rows λp=>(cnt rows K0 p:Int))),a5 (.own,.Hz K0 vs),b4,a5 (.own,.lst []),a5 (.own,.lst (st.map stN)),o7,o8,a] .nx
   [b0,a5 (.own,.Hz ks (ks.map (cw (Iu rows rows.length)))),a5 (.own,.lst (bJ rows λp=>(cnt rows (K0++st.map (·.1)) p:Int))),a5 (.own,.Hz (K0++st.map (·.1)) vs'),b4,a5 (.own,.lst (fh R)),a5 (.own,.lst (st.map stN)),i,j,b]:=by
 let S:=λ(K:List Str) (vs:List U) (R:List Nat) (o7 o8 a:Option (Kd×U))=>([b0,a5 (.own,.Hz ks (ks.map (cw (Iu rows rows.length)))),a5 (.own,.lst (bJ rows λp=>(cnt rows K p:Int))),a5 (.own,.Hz K vs),b4,a5 (.own,.lst (fh R)),a5 (.own,.lst (st.map stN)),o7,o8,a]:au)
 have⟨st',B,c,vs',R,i,j,b,e,x,C,q⟩:=ff (t:=bD) (is:=[7,8]) (body:=execs Γ zc) (rs:=[(.bor 6,.lst (st.map stN))]) (λs:Str×Nat=>(Kd.loc,stN s))
  (λd r l=>d++r=st/\∃(vs:List U) (R:List Nat) (o7 o8 a:Option (Kd×U)),l=S (K0++d.map (·.1)) vs R o7 o8 a/\RI rows K0 (K0++d.map (·.1)) R/\R.length<=120 * d.length/\(d=[]->R=[])) (λ_ _ l ⟨_,vs,R,o7,o8,a,e,_⟩=>by subst e;show⟨⟨.own,rfl,rfl⟩,trivial⟩) (λd s r l D=>by
   have⟨c,vs,R,o7,o8,a,e,x,C,q⟩:=D;subst e;have⟨w,p⟩:=s;have N:d.length<st.length:=by have:=ï Jt c;simp at this;lia
   have m:w∉K0++d.map (·.1):=λz=>by
    rw[<-c,oD,<-Y4,ro]at o;show o.2.2 w z w (by simp) rfl
   let f:Option (Kd×U):=a5 (.loc,.str w);let g:Option (Kd×U):=a5 (.loc,.int (p:Nat));have⟨b,G⟩:=qz (Γ:=Γ) n y m (R:=R) ⋯ (b0:=b0) (b1:=a5 (.own,.Hz ks (ks.map (cw (Iu rows rows.length))))) (b3:=a5 (.own,.Hz (K0++d.map (·.1)++[w]) (vs++[.bl bD]))) (b4:=b4) (o6:=a5 (.own,.lst (st.map stN))) (o7:=f) (o8:=g) a (src:=[(.loc,cw (Iu rows rows.length) w)]) (λ_=>trivial);have em:K0++(d++[(w,p)]).map (·.1)=K0++d.map (·.1)++[w]:=by simp
   have H:(K0++d.map (·.1)).length<1000:=by rw[j0,dr];lia
   have I:(match dP ks (ks.map (cw (Iu rows rows.length))) w with|some v=>(Kd.loc,v)|none=>(.loc,U.lst []))=(.loc,cw (Iu rows rows.length) w):=by
    rw[lM];by_cases h:w∈ks
    .rw[ê h]
    .rw[ë h];unfold cw;rw[A w h];rfl
   have J:((Iu rows rows.length w).map λt:Nat=>U.int (t:Nat)).map (λu=>(kE .loc,u))=(Iu rows rows.length w).map λt=>(Kd.loc,U.int (t:Nat)):=by rw[mh];rfl
   show⟨S (K0++d.map (·.1)) vs R f g a,S (K0++d.map (·.1)++[w]) (vs++[.bl bD]) (R++(Iu rows rows.length w).filter λt=>cL (cnt rows (K0++d.map (·.1)) t=1)) f g b,qw (.inl rfl),?_,by rw[<-c];simp,vs++[.bl bD],_,f,g,b,by rw[em],?_,?_,λz=>by simp at z⟩
   .show yT (k:=.own) (rv:=(.loc,.bl bD)) (rk:=(.loc,.str w)) aw rfl (ah rfl) (aJ bg (aJ bg aX)) rfl rfl (pe H m) ?_;show fO (rs:=[(.loc,cw (Iu rows rows.length) w)]) (ae (Ey (k:=.loc) (z:=(.own,.lst [])) (u:=.lst []) rfl (ah rfl) (dA aj trivial aX (mx _)) jN I) aj) trivial (by change a5 (R9 (λu=>(kE .loc,u)) _)=_;rw[J]) rfl G aQ
   .rw[em];show x.step n m
   .have:((Iu rows rows.length w).filter λt=>cL (cnt rows (K0++d.map (·.1)) t=1)).length<=120:=by
     show uv (Nf _ _) ?_;have L:(Iu rows rows.length w).length<=(il rows.length).length:=Nf _ _;simp at L;lia
    rw[j0,j0,Lc];lia) st [] (S K0 vs [] o7 o8 a) ⟨rfl,vs,[],o7,o8,a,by simp[S],by simpa using RI.start K0,by simp,λ_=>rfl⟩
 subst e;show⟨vs',R,i,j,b,by simpa using x,λz=>q (by simpa using z),by simpa[S,fh] using B⟩
abbrev gE(Ih:List (List (Str×Nat))):List U:=Ih.map λl=>U.lst (l.map stN)
abbrev zd:List TM.S:=[.set 6 (.call "new_steps" [.var 0,.var 5,.var 3]),.set 5 (.lst []),.Ij bD [7,8] .seq [.var 6] zc,.ite (.cmp .ne (.var 6) (.lst [])) [.app 4 (.var 6)] []]
abbrev ze(Γ:Tab)(rows:List Row):Prop:=∀(R:List Nat) (K0:List Str) (vs:List U),(∀t∈R,t<rows.length)->∃st:List (Str×Nat),NS rows K0 R st/\Γ "new_steps" [.tup (rows.map Hx),.lst (fh R),.Hz K0 vs]=a5 (.ok (.own,.lst (st.map stN)))
theorem jt(D:Once rows)(G:rows.length<=120)(H:ze Γ rows)(I:∀w,w∉ks->Iu rows rows.length w=[]):∀(f:Nat) (c:List (Str×Nat)) (Ih:List (List (Str×Nat))) (R:List Nat) (vs:List U) (o6 o7 o8 g:Option (Kd×U)),
  LI rows c R->Ih.flatten=c->Ih.length<=c.length->(rows.length - c.length)+(if R=[] then 1 else 2)<=f ->
  ∃(PZ:List (Str×Nat)) (J:List (List (Str×Nat))) (st':au),LI rows PZ []/\J.flatten=PZ/\J.length<=120/\st'[4]?=a5 (a5 (.own,.lst (gE J))) /\
   Run (gB (HP Γ (.cmp .ne (.var 5) (.lst []))) (execs Γ zd) f) [a5 (.loc,.tup (rows.map Hx)),a5 (.own,.Hz ks (ks.map (cw (Iu rows rows.length)))),a5 (.own,.lst (bJ rows λp=>(cnt rows (c.map (·.1)) p:Int))),a5 (.own,.Hz (c.map (·.1)) vs),a5 (.own,.lst (gE Ih)),a5 (.own,.lst (fh R)),o6,o7,o8,g] .nx st'
 |0,c,Ih,R,vs,o6,o7,o8,g,_,_,_,h=>by split at h<;>lia
 |f+1,c,Ih,R,vs,o6,o7,o8,g,x,N,XS,h=>by
  have hsz:(20000:Nat)<=cK:=by decide
  have JY:∀{s:List (Str×Nat)} {d:List Nat},LI rows s d->s.length<=rows.length:=λ{s d} x=>by
   have:=lL x.nd x.wd;simpa using this
  have IH:=JY x;let S:=λ(K:List Str) (vs:List U) (Ih:List (List (Str×Nat))) (R:List Nat) (o6 o7 o8 g:Option (Kd×U))=>([a5 (.loc,.tup (rows.map Hx)),a5 (.own,.Hz ks (ks.map (cw (Iu rows rows.length)))),a5 (.own,.lst (bJ rows λp=>(cnt rows K p:Int))),a5 (.own,.Hz K vs),a5 (.own,.lst (gE Ih)),a5 (.own,.lst (fh R)),o6,o7,o8,g]:au)
  have XT:∀R:List Nat,Ia 50 (.lst (fh R))=bD:=λR=>by change b_ 49 _=bD;show gr (λt:Nat=>((t:Nat):Int)) R 49
  have z:Run (HP Γ (.cmp .ne (.var 5) (.lst []))) (S (c.map (·.1)) vs Ih R o6 o7 o8 g) (!(fh R).isEmpty) (S (c.map (·.1)) vs Ih R o6 o7 o8 g) :=
   bt (aC rfl) (dA aj trivial aX (mx _)) ⟨⟨.own,rfl,rfl⟩,trivial⟩ (fT (XT R))
  by_cases O:R=[]
  .subst O;show⟨c,Ih,_,x,N,⋯,rfl,y7 z⟩
  .rw[ë O]at h;have QJ:(!(fh R).isEmpty)=bD:=by
    cases R with
    |nil=>show absurd rfl O
    |cons a l=>rfl
   rw[QJ]at z;have⟨st,n,HB⟩:=H R (c.map (·.1)) vs λt ht=>(x.PX t ht).1;have HX:(c.map (·.1)++st.map (·.1)).Nodup:=by
    rw[ro];show⟨x.nd,n.once,λa ha b o e=>?_⟩;have⟨s,hs,rfl⟩:=lx.mp o;show(n.ok s hs).2.1 (e▸ha)
   have ab:c.length+st.length<=rows.length:=by
    have:=lL HX (L:=rows.map (·.1)) λy hy=>by
     rcases i9.mp hy with hy|hy
     .show x.wd y hy
     .have⟨s,hs,rfl⟩:=lx.mp hy;obtain⟨_,_,r,q1,q2⟩:=n.ok s hs;show lx.mpr ⟨r,pd q1,q2⟩
    simpa using this
   let q:Option (Kd×U):=a5 (.own,.lst (st.map stN));have⟨vs',d,i,j,m,y,XU,TF⟩:=vL (Γ:=Γ) D G I HX (by rw[dr];lia) (b0:=a5 (.loc,.tup (rows.map Hx))) (b4:=a5 (.own,.lst (gE Ih))) vs o7 o8 g;have Q:=x.step n y;have em:(c++st).map (·.1)=c.map (·.1)++st.map (·.1):=oD;have XW:Ia 50 (.lst (st.map stN))=bD:=by change b_ 49 _=bD;show qy st 48
   have A:Run (HP Γ (.cmp .ne (.var 6) (.lst []))) (S (c.map (·.1)++st.map (·.1)) vs' Ih d q i j m) (!(st.map stN).isEmpty) (S (c.map (·.1)++st.map (·.1)) vs' Ih d q i j m) :=
    bt (aC rfl) (dA aj trivial aX (mx _)) ⟨⟨.own,rfl,rfl⟩,trivial⟩ (fT XW)
   have e1:(st.map stN).map (λu=>(kE (.bor 6),u))=st.map λs=>(Kd.loc,stN s):=by rw[mh];rfl
   have v:∀{Jz:au},Run (execs Γ [.ite (.cmp .ne (.var 6) (.lst []))
    [.app 4 (.var 6)]
    []]) (S (c.map (·.1)++st.map (·.1)) vs' Ih d q i j m) .nx Jz->Run (execs Γ zd) (S (c.map (·.1)) vs Ih R o6 o7 o8 g) .nx Jz:=λh=>by
    show ay (r:=(.own,.lst (st.map stN))) (aU (ae (ah rfl) (ae (aC rfl) (ae (aC rfl) aj))) ⟨⟨.own,rfl,rfl⟩,⟨.own,rfl,rfl⟩,trivial⟩ HB) bw ?_;show ay (r:=(.own,.lst [])) (dA aj trivial aX (mx _)) bw ?_;show fO (rs:=[(.bor 6,.lst (st.map stN))]) (ae (aC rfl) aj) ⟨⟨.own,rfl,rfl⟩,trivial⟩ (by change a5 (R9 (λu=>(kE (.bor 6),u)) _)=_;rw[e1]) rfl TF h
   by_cases B:st=[]
   .have XX:=XU B;subst B;rw[show(!(([]:List (Str×Nat)).map stN).isEmpty)=cb from rfl]at A;have ee:c++[]=c:=sx _;rw[ee]at Q;have o:=v (cj A (λh=>by cases h) λ_=>aQ);have⟨T,Y,st2,z1,z2,z3,z4,C⟩:=jt D G H I f c Ih d vs' q i j m Q N XS (by rw[ê XX];lia);show⟨T,Y,st2,z1,z2,z3,z4,y8 z o ?_⟩;have e3:c.map (·.1)++([]:List (Str×Nat)).map (·.1)=c.map (·.1):=by simp
    change Run _ (S (c.map (·.1)++([]:List (Str×Nat)).map (·.1)) vs' Ih d q i j m) _ _;rw[e3];show C
   .have TH:(!(st.map stN).isEmpty)=bD:=by
     cases st with
     |nil=>show absurd rfl B
     |cons a l=>rfl
    rw[TH]at A;have NK:0<st.length:=YE.mpr B;have ef:gE (Ih++[st])=gE Ih++[.lst (st.map stN)]:=by simp[gE]
    have o:Run (execs Γ zd) (S (c.map (·.1)) vs Ih R o6 o7 o8 g) .nx (S (c.map (·.1)++st.map (·.1)) vs' (Ih++[st]) d (a5 (.loc,.lst (st.map stN))) i j m):=by
     show v (cj A (λ_=>?_) λh=>by cases h);change Run _ _ _ [a5 (.loc,.tup (rows.map Hx)),a5 (.own,.Hz ks (ks.map (cw (Iu rows rows.length)))),a5 (.own,.lst (bJ rows λp=>(cnt rows (c.map (·.1)++st.map (·.1)) p:Int))),a5 (.own,.Hz (c.map (·.1)++st.map (·.1)) vs'),a5 (.own,.lst (gE (Ih++[st]))),a5 (.own,.lst (fh d)),a5 (.loc,.lst (st.map stN)),i,j,m];rw[ef];show jP (k:=.own) (k':=.own) (r:=(.bor 6,.lst (st.map stN))) (u:=.lst (st.map stN)) rfl (aC rfl) (qu rfl) rfl rfl (by unfold gE;rw[dr];lia) aQ
    have⟨T,Y,st2,z1,z2,z3,z4,C⟩:=jt D G H I f (c++st) (Ih++[st]) d vs' (a5 (.loc,.lst (st.map stN))) i j m Q (by rw[YF,N];simp) (by rw[j0,j0,Lc];lia) (by rw[j0];split<;>lia);show⟨T,Y,st2,z1,z2,z3,z4,y8 z o ?_⟩;rw[em]at C;show C
abbrev Cs(Γ:Tab)(rows:List Row):Prop:=∃ks:List Str,(∀w,w∉ks->Iu rows rows.length w=[])/\Γ "places_that_tell" [.tup (rows.map Hx)]=a5 (.ok (.own,.Hz ks (ks.map (cw (Iu rows rows.length)))))
def gF(o:Once rows)(q:rows.length<=120)(s:Cs Γ rows)(v:ze Γ rows):∃(d:List (Str×Nat)) (Ih:List (List (Str×Nat))),LI rows d []/\Ih.flatten=d/\Ih.length<=120/\bS Γ bj [.tup (rows.map Hx)]=a5 (.ok (.own,.lst (gE Ih))):=by
 have hsz:(20000:Nat)<=cK:=by decide
 have⟨ks,w,z⟩:=s;have A:TM.start [.tup (rows.map Hx)] 10=[a5 (.loc,.tup (rows.map Hx)),b6,b6,b6,b6,b6,b6,b6,b6,b6]:=by simp[TM.start,HQ,c_]
 let f:Option (Kd×U):=a5 (.loc,.tup (rows.map Hx));let g:Option (Kd×U):=a5 (.own,.Hz ks (ks.map (cw (Iu rows rows.length))));let B:Option (Kd×U):=a5 (.own,.lst (bJ rows λp=>(cnt rows [] p:Int)));have C:Run (ev Γ (.comp 1 cb .seq [.var 0] [] (.bi .len [.idx (.var 0) (.cst (.int 1))]))) [f,g,b6,b6,b6,b6,b6,b6,b6,b6] (.own,.lst (bJ rows λp=>(cnt rows [] p:Int))) [f,g,b6,b6,b6,b6,b6,b6,b6,b6]:=by
  have c:=gY (cond:=aN Γ []) (elt:=ev Γ (.bi .len [.idx (.var 0) (.cst (.int 1))])) (src:=[(.loc,.tup (rows.map Hx))]) (st:=[f,g,b6,b6,b6,b6,b6,b6,b6,b6]) trivial .loc (.inl rfl) Hx (λr=>.int (r.2.length:Nat)) .loc (λ_=>iT) rows [] (by simp;lia)
   (λy _=>⟨dn (ae (bh (x:=(.loc,Hx y)) (ah rfl) aw trivial rfl) aj) trivial (by rw[oN,dr]),bg⟩)
  rw[my]at c;have e:(rows.map Hx).map (λu=>(kE .loc,u))=rows.map λr=>(Kd.loc,Hx r):=by rw[mh];rfl
  have D:(rows.map λr=>U.int (r.2.length:Nat))=bJ rows λp=>(cnt rows [] p:Int):=by
   unfold bJ;apply NX
   .simp
   .intro i h j;have hi:i<rows.length:=by simpa using h
    have k:told rows i=rows[i].2:=kf (by simp[hi]);have G:cnt rows [] i=rows[i].2.length:=by unfold cnt su;rw[k];simp
    simp[G]
  rw[D]at c;show cv (rs:=[(.loc,.tup (rows.map Hx))]) (ae (ah rfl) aj) trivial (by change a5 _=_;rw[e]) c
 let l:=(il rows.length).filter λp=>cL (cnt rows [] p=0);let m:au:=[f,g,B,a5 (.own,.Hz [] []),a5 (.own,.lst []),b6,b6,b6,b6,b6]
 have H:Run (ev Γ (.comp 2 bD .MU [.var 2] [.cmp .eq (.var 1) (.cst (.int 0))] (.var 0))) m (.own,.lst (fh l)) m:=by
  have c:=lN (st:=m) (cond:=aN Γ [.cmp .eq (.var 1) (.cst (.int 0))]) (elt:=ev Γ (.var 0)) (src:=[(.bor 2,.lst (bJ rows λp=>(cnt rows [] p:Int)))]) ⟨⟨.own,rfl,rfl⟩,trivial⟩ (λp:Nat=>U.int (p:Nat)) (λp:Nat=>U.int (cnt rows [] p:Int)) (λp:Nat=>U.int (p:Nat)) (λp=>cL (cnt rows [] p=0)) (il rows.length) [] (by simp;lia)
   (λy _=>⟨cT (bt (ah rfl) aw trivial (eu (by rw[J7];simp))),ah rfl⟩)
  rw[my]at c;have e:((bJ rows λp=>(cnt rows [] p:Int)).zipIdx.map λp=>(kE (.bor 2),U.tup [.int p.2,p.1]))=(il rows.length).map λp:Nat=>(Kd.loc,U.tup [.int (p:Nat),.int (cnt rows [] p:Int)]):=by
   unfold bJ;apply NX
   .simp
   .intro i h j;simp[kE]
  show cv (rs:=[(.bor 2,.lst (bJ rows λp=>(cnt rows [] p:Int)))]) (ae (aC rfl) aj) ⟨⟨.own,rfl,rfl⟩,trivial⟩ (by change a5 _=_;rw[e]) c
 have I:LI rows [] l:=⟨trivial,λt k=>by
  have⟨a,b⟩:=Lj.mp k;show⟨ve.mp a,by simpa using b⟩,λt r h j=>.inl (Lj.mpr ⟨ve.mpr (dt.mp h).1,by simpa using j⟩)⟩
 have⟨d,Ih,st',J,L,N,n,O⟩:=jt o q v w fuel [] [] l [] b6 b6 b6 b6 I rfl (i5 _) (by unfold fuel;split<;>simp<;>lia);show⟨d,Ih,J,L,N,?_⟩;show aH rfl (.inl rfl) A (ay (r:=(.own,.Hz ks (ks.map (cw (Iu rows rows.length))))) (aU (ae (ah rfl) aj) trivial z) bw (ay C bw (ay (r:=(.own,.Hz [] [])) r9 bw (ay (r:=(.own,.lst [])) (dA aj trivial aX (mx _)) bw (ay H bw (y9 O (bx (aC n) (qf n))))))))
def vM{Ih:List (List (Str×Nat))}(hs:Γ "steps_in_rounds" [.tup (rows.map Hx)]=a5 (.ok (.own,.lst (gE Ih))))(b:Ih.flatten=c)(hl:c.length<=120):bS Γ fg [.tup (rows.map Hx)]=a5 (.ok (.own,.lst (c.map stN))):=by
 have hsz:(20000:Nat)<=cK:=by decide
 have g:TM.start [.tup (rows.map Hx)] 3=[a5 (.loc,.tup (rows.map Hx)),b6,b6]:=by simp[TM.start,HQ,c_]
 let S:=λ(l:List (Str×Nat)) (o2:Option (Kd×U))=>([a5 (.loc,.tup (rows.map Hx)),a5 (.own,.lst (l.map stN)),o2]:au)
 have⟨st',h,a,o2,e⟩:=ff (t:=cb) (is:=[2]) (body:=execs Γ [.ext 1 (.var 2)]) (rs:=[(.own,.lst (gE Ih))]) (λl:List (Str×Nat)=>(Kd.loc,U.lst (l.map stN)))
  (λd r st=>d++r=Ih/\∃o2:Option (Kd×U),st=S d.flatten o2) (λ_ _ _ _=>trivial) (λd y r st i=>by
   have⟨a,o2,e⟩:=i;subst e;have j:d.flatten.length+y.length<=120:=by
    have:=ï (λl:List (List (Str×Nat))=>l.flatten.length) a;simp only[YF,Y2,j0,b]at this;lia
   show⟨S d.flatten (a5 (.loc,.lst (y.map stN))),S (d++[y]).flatten (a5 (.loc,.lst (y.map stN))),fP aV,?_,by rw[<-a];simp,_,rfl⟩;have em:(d++[y]).flatten.map stN=d.flatten.map stN++y.map stN:=by simp
   change Run _ _ _ [a5 (.loc,.tup (rows.map Hx)),a5 (.own,.lst ((d++[y]).flatten.map stN)),a5 (.loc,.lst (y.map stN))];rw[em];show Cq (k:=.own) (k':=.own) rfl (ah rfl) rfl rfl (ud (by rw[dr,dr];lia) rfl) aQ) Ih [] (S [] b6) ⟨rfl,b6,rfl⟩
 subst e;have e:(gE Ih).map (λu=>(kE .own,u))=Ih.map λl=>(Kd.loc,U.lst (l.map stN)):=by unfold gE;rw[mh];rfl
 have f:=aH (Γ:=Γ) (fn:=fg) rfl (.inl rfl) g (ay (r:=(.own,.lst [])) (dA aj trivial aX (mx _)) bw (fO (rs:=[(.own,.lst (gE Ih))]) (st1:=S [] b6) (ae (aU (ae (ah rfl) aj) trivial hs) aj) trivial rfl rfl (by rw[e];show h) (bx (aC rfl) (qf rfl))));rw[my,b]at f;show f
end
section
variable{Γ:Tab}{rows:List Row}{names:List Str}
def sy(h:ss.length<64):Js .sorted [(k,.lst (ss.map .str))]=a5 (.own,.lst ((bF ss).map .str)):=by
 change(strsOf (ss.map U.str)).bind _=_;rw[eQ];change(if ss.length<64 then _ else _)=_;rw[ê h]
def hV{a:List (Str×Nat)}(hl:a.length<64)(ho:Γ "order" [.tup (rows.map Hx)]=a5 (.ok (.own,.lst (a.map stN)))):bS Γ eR [.tup (rows.map Hx)]=a5 (.ok (.own,.lst ((bF (a.map (·.1))).map .str))):=by
 have hsz:(20000:Nat)<=cK:=by decide
 have c:TM.start [.tup (rows.map Hx)] 1=[a5 (.loc,.tup (rows.map Hx))]:=by simp[TM.start,HQ,c_]
 have b:=lN (st:=[a5 (.loc,.tup (rows.map Hx))]) (cond:=aN Γ []) (elt:=ev Γ (.var 0)) (src:=[(.own,.lst (a.map stN))]) trivial (λs:Str×Nat=>U.str s.1) (λs=>U.int (s.2:Nat)) (λs=>U.str s.1) (λ_=>bD) a [] (by simp;lia) (λy _=>⟨iT,ah rfl⟩);rw[my,YG.mpr (λ_ _=>rfl)]at b;have e:(a.map stN).map (λu=>(kE .own,u))=a.map λs=>(Kd.loc,U.tup [.str s.1,.int (s.2:Nat)]):=by rw[mh];rfl
 have d:(a.map λs=>U.str s.1)=(a.map (·.1)).map U.str:=by rw[mh];rfl
 rw[d]at b;show aH rfl (.inl rfl) c (bx (dn (ae (cv (rs:=[(.own,.lst (a.map stN))]) (ae (aU (ae (ah rfl) aj) trivial ho) aj) trivial (by change a5 (R9 (λu=>(kE .own,u)) _)=_;rw[e]) b) aj) trivial (sy (by rw[dr];show hl))) jO)
structure Vf(prog:List Fn):Prop where
 g:Ie prog "gathered" da
 p:Ie prog "places_that_tell" bb
 n:Ie prog "new_steps" cN
 s:Ie prog "steps_in_rounds" bj
 o:Ie prog "order" fg
structure Kn(rows:List Row)(K:List Str):Prop where
 nd:K.Nodup
 sn:MA rows K
 cl:fS rows (·∈K)
def Kn.perm(a:Kn rows K)(b:Kn rows L):K.Perm L:=same a.nd b.nd a.sn b.sn a.cl b.cl
def Kn.of(s:LI rows a []):Kn rows (a.map (·.1)):=⟨s.nd,s.sn,s.closed⟩
def BL(L:Vf prog)(n:Nat)(d:∀r∈rows,dR names r)(w:names.length<=24)(e:rows.length<=120):∃c:List (Str×Nat),LI rows c []/\c.length<=24/\HY prog (n+4) "order" [.tup (rows.map Hx)]=a5 (.ok (.own,.lst (c.map stN))):=by
 have j:∀r∈rows,r.2.length<=8:=λr h=>(d r h).JY;have f:Once rows:=λr h=>(d r h).once;have i:∀r∈rows,r.1∈names:=λr h=>(d r h).word;have k:Cr (HY prog (n+1)):=λps hl=>by
  have⟨ks,a,b⟩:=pf (Γ:=HY prog n) hl;show⟨ks,a,(aD L.g _).trans b⟩
 have l:Cs (HY prog (n+2)) rows:=by
  have⟨ks,a,b⟩:=hU k f j e;show⟨ks,a,(aD L.p _).trans b⟩
 have m:ze (HY prog (n+2)) rows:=λR K0 vs q=>by
  have⟨st,a,b⟩:=mn (Γ:=HY prog (n+1)) i ⋯ q (K0:=K0) (vs:=vs);show⟨st,a,(aD L.n _).trans b⟩
 have⟨c,Ih,s1,s2,s3,s4⟩:=gF f e l m;have t:HY prog (n+3) "steps_in_rounds" [.tup (rows.map Hx)]=a5 (.ok (.own,.lst (gE Ih))):=(aD L.s _).trans s4;have u:c.length<=24:=by
  have:=lL (Kn.of s1).nd (L:=names) λx v=>by
   have⟨r,a,b⟩:=lx.mp (s1.wd x v);show b▸i r a
  rw[dr]at this;lia
 show⟨c,s1,u,(aD L.o _).trans (vM t s2 ⋯)⟩
end
end KL
namespace TM
open PySem L2 H_
section
def jT(h:st[i]?=a5 (a5 (.A',.ob u us))):Run (Jw i) st (u,us) st:=by
 change Jw i st=_;unfold Jw;rw[h]
def Cu(h:st[i]?=a5 (a5 (.A',.ob u us)))(b:f u us=a5 (u',a))(c:HQ u'=bD)(d:cZ a=bD):Run (Mq i f) st () (st.set i (a5 (.A',.ob u' a))):=by
 change Mq i f st=_;unfold Mq;rw[h]
 dsimp only
 rw[b];show ê ⟨c,d⟩
def fj(h:st[i]?=a5 (a5 (.A',.ob u us))):Run (ev Γ (.IF i)) st (.loc,u) st:=aa (jT h) aL
def EA(h:st[i]?=a5 (a5 (.A',.ob u us))):Run (ev Γ (.KI i)) st (.loc,.int (us.length:Nat)) st:=aa (jT h) aL
def zf(h:st[i]?=a5 (a5 (.A',.ob u us)))(a:Ia 50 (.lst us)=bD):Run (HP Γ (.JL i)) st us.isEmpty st:=aa (jT h) (by change(if Ia 50 (.lst us)=bD then pure us.isEmpty else M.fail:M Bool) st=_;rw[ê a];rfl)
def EB(h:st[i]?=a5 (a5 (.A',.ob u us)))(a:us[us.length - 1]?=a5 w):Run (ev Γ (.j4 i)) st (.loc,w) (st.set i (a5 (.A',.ob u us.dropLast))):=by
 change TM.j4 i st=_;unfold TM.j4;rw[h]
 dsimp only
 rw[a]
def uh(h:st[i]?=a5 (a5 (.A',.ob u us)))(a:Γ f (gz p (.ob u us) (rs.map (·.2)))=a5 (.ok (k,.tup [w,.ob u' b])))(hk:k=.own\/k=.loc)(c:p<=rs.length):Run (fG Γ f p i rs) st (k,w) (st.set i (a5 (.A',.ob u' b))):=by
 change fG Γ f p i rs st=_;unfold fG;rw[h]
 dsimp only
 rw[a];show ê ⟨hk,c⟩
def EC(a:st[i]?=a5 (a5 (.A',.ob u0 us0)))(b:Run (aR Γ es) st r1 st1)(c:Run (aR Γ es2) st1 r2 st2)(d:bo (r1++r2) st2)(h:st2[i]?=a5 (a5 (.A',.ob u us)))
  (e:Γ f (gz es.length (.ob u us) ((r1++r2).map (·.2)))=a5 (.ok (k,.tup [w,.ob u' g]))) (hk:k=.own\/k=.loc) (j:es.length<=(r1++r2).length):Run (ev Γ (.JM f i es es2)) st (k,w) (st2.set i (a5 (.A',.ob u' g))) :=
 aa (jT a) (aa (aa b (aa c aL)) (aa (aT d) (uh h e hk j)))
def dq(a:st[i]?=a5 (a5 (.A',.ob u0 us0)))(b:Run (aR Γ es) st rs st1)(c:bo rs st1)(h:st1[i]?=a5 (a5 (.A',.ob u us)))(d:Γ f (.ob u us::rs.map (·.2))=a5 (.ok (k,.tup [w,.ob u' e])))(hk:k=.own\/k=.loc):
  Run (ev Γ (.IG f m i es)) st (k,w) (st1.set i (a5 (.A',.ob u' e))) :=
 aa (jT a) (aa b (aa (aT c) (uh h d hk (mx _))))
def ED(h:Run (execs Γ ss) (st.set i (a5 (.A',.ob (.tup []) []))) f st1):Run (execs Γ (.JN i::ss)) st f st1:=et rfl h
def EF(a:Run (ev Γ e) st r st1)(b:Run (lift r) st1 u' st2)(h:st2[i]?=a5 (a5 (.A',.ob u us)))(c:HQ u'=bD)(d:cZ us=bD)(g:Run (execs Γ ss) (st2.set i (a5 (.A',.ob u' us))) f j):Run (execs Γ (.KJ i e::ss)) st f j :=
 et (aa a (aa b (aa (Cu h rfl c d) aL))) g
def EG(h:st[i]?=a5 (a5 (.A',.ob u us)))(hl:us.length<cK)(a:HQ u=bD)(b:cZ (us++[u])=bD)(c:Run (execs Γ ss) (st.set i (a5 (.A',.ob u (us++[u])))) f d):Run (execs Γ (.KN i::ss)) st f d :=
 et (aa (Cu h (by unfold AA;rw[ê hl]) a b) aL) c
def cC(a:vs.length=fn.np/\p<fn.np)(hs:a_ p vs fn.ns=st0)(h:Run (execs Γ body) st0 f st)(b:Pj f=a5 (k,w))(ho:st[p]?=a5 (a5 (.A',.ob u us))):eJ Γ fn p body vs=a5 (.ok (k,.tup [w,.ob u us])):=by
 subst hs;unfold eJ;rw[ê a,show execs Γ body (a_ p vs fn.ns)=_ from h];change(Pj f).bind _=_;rw[b];change(Lw p st).map _=_;unfold Lw;rw[ho];rfl
end
section
def ui(h:st[i]?=a5 (a5 (.A',.ob u us)))(a:Γ f (.ob u us::rs.map (·.2))=a5 (.ok (k,.tup (w::.ob u' b::ws))))(hk:k=.own\/k=.loc)(c:mM ((.loc,.HD)::rs) is=bD)(d:jG ((.loc,.HD)::rs) is ws (st.set i (a5 (.A',.ob u' b)))=a5 st1):Run (jH Γ f i rs is) st (k,w) st1:=by
 change jH Γ f i rs is st=_;unfold jH;rw[h]
 dsimp only
 rw[a];change(if _ then _ else _)=_;rw[ê ⟨hk,c⟩,d]
def EH(a:st[i]?=a5 (a5 (.A',.ob u0 us0)))(b:Run (aR Γ es) st rs st1)(c:bo (rs.map (iD st1)) st1)(h:st1[i]?=a5 (a5 (.A',.ob u us)))(d:Γ f (.ob u us::(rs.map (iD st1)).map (·.2))=a5 (.ok (k,.tup (w::.ob u' e::ws))))(hk:k=.own\/k=.loc)
  (g:mM ((.loc,.HD)::rs.map (iD st1)) is=bD) (j:jG ((.loc,.HD)::rs.map (iD st1)) is ws (st1.set i (a5 (.A',.ob u' e)))=a5 st2):Run (ev Γ (.IE f i es is)) st (k,w) st2 :=
 aa (jT a) (aa (aa b (show Run (xi rs) st1 (rs.map (iD st1)) st1 from rfl)) (aa (aT c) (ui h d hk g j)))
def EI(a:st[i]?=a5 (a5 (.A',.ob u0 us0)))(c:Run (aR Γ es) st rs st1)(d:bo (rs.map (iD st1)) st1)(h:st1[i]?=a5 (a5 (.A',.ob u us)))(e:Γ f (.ob u us::(rs.map (iD st1)).map (·.2))=a5 (.ok (k,.tup (.bl b::.ob u' g::ws))))(hk:k=.own\/k=.loc)
  (j:mM ((.loc,.HD)::rs.map (iD st1)) is=bD) (l:jG ((.loc,.HD)::rs.map (iD st1)) is ws (st1.set i (a5 (.A',.ob u' g)))=a5 st2):Run (HP Γ (.IE f i es is)) st b st2 :=
 aa (aa (jT a) (aa (aa c (show Run (xi rs) st1 (rs.map (iD st1)) st1 from rfl)) (aa (aT d) (ui h e hk j l)))) (cY rfl)
def EJ(h:st[i]?=a5 (a5 (.A',.ob u us)))(d:Γ f [.ob u us]=a5 (.ok (.io,.tup [.str c,.ob u' b])))(e:Run (execs Γ ss) ((st.set i (a5 (.A',.ob u' b))).set y (a5 (.loc,.bl bD))) g st2):Run (execs Γ (.Mp y f m i c::ss)) st g st2:=by
 have a:Run (mO Γ f i c []) st bD (st.set i (a5 (.A',.ob u' b))):=by
  change mO Γ f i c [] st=_;unfold mO;rw[h]
  dsimp only
  rw[show Γ f (.ob u us::R9 (λx:Kd×U=>x.2) [])=_ from d];show ê rfl
 show et (aa (jT h) (aa a (show Run (pV y bD) _ .nx _ from rfl))) e
def iW(a:vs.length=fn.np/\0<fn.np)(hs:bT is vs fn.ns=st0)(h:Run (execs Γ body) st0 f st)(b:Qx f=a5 (k,w))(ho:st[0]?=a5 (a5 (.A',.ob u us)))(c:Nu is st=a5 ws):mj Γ fn is body vs=a5 (.ok (k,.tup (w::.ob u us::ws))):=by
 subst hs;unfold mj;rw[ê a,show execs Γ body (bT is vs fn.ns)=_ from h];change(Qx f).bind _=_;rw[b];change(Lw 0 st).bind _=_;unfold Lw;rw[ho];change(Nu is st).map _=_;rw[c];rfl
end
end TM
namespace K
open PySem L2 TM
abbrev top(i:Nat):Le:=if i<1000 then PySem.Challenge.pw_primer_k54_taken_back.main.body.getD i (.Pass ⟨0,0,0,0⟩) else match PySem.Challenge.pw_primer_k54_taken_back.main.body.getD (i / 1000 - 1) (.Pass ⟨0,0,0,0⟩) with|.ClassDef _ _ _ b _ _ _ _ _ _ _=>b.getD (i % 1000) (.Pass ⟨0,0,0,0⟩)|_=>.Pass ⟨0,0,0,0⟩
abbrev gu:Fn:=⟨"is_stem",1,1,[.ite (.or [.cmp .eq (.var 0) (.cst (.str "")),.cmp .gt (.bi .len [.var 0]) (.Ke "LONGEST_STEM" (.int 8))]) [.ret (.cst (.bl cb))] [],.ret (.bi .all [.comp 1 cb .seq [.var 0] [] (.cmp .isin (.var 0) (.Ke "LETTERS" (.str "abcdefghijklmnopqrstuvwxyz")))])]⟩
abbrev cq:Fn:=⟨"is_later_sense",1,1,[.ret (.cmp .isin (.var 0) (.comp 1 cb .Mj [.bin .add (.Ke "FIRST_SENSE" (.int 1)) (.cst (.int 1)),.bin .add (.Ke "LAST_SENSE" (.int 99)) (.cst (.int 1))] [] (.bi .str [.var 0])))]⟩
abbrev gv:Fn:=⟨"is_word",1,1,[.ite (.cmp .HC (.cst (.str "/")) (.var 0)) [.ret (.call "is_stem" [.var 0])] [],.ret (.and [.call "is_stem" [.call "stem_of" [.var 0]],.call "is_later_sense" [.call "number_of" [.var 0]]])]⟩
abbrev ju:Fn:=⟨"stem_of",1,1,[.ret (.idx (.Ku .partition (.var 0) [.cst (.str "/")]) (.cst (.int 0)))]⟩
abbrev fU:Fn:=⟨"number_of",1,1,[.ret (.idx (.Ku .partition (.var 0) [.cst (.str "/")]) (.cst (.int 2)))]⟩
abbrev iX:Fn:=⟨"is_row",1,2,[.set 1 (.idx (.var 0) (.cst (.int 1))),.ite (.or [.cmp .gt (.bi .len [.var 1]) (.Ke "MOST_TOLD" (.int 8)),.cmp .lt (.Lv .ig [.var 1]) (.bi .len [.var 1])]) [.ret (.cst (.bl cb))] [],.ret (.and [.call "is_word" [.idx (.var 0) (.cst (.int 0))],.bi .all [.comp 1 cb .seq [.var 1] [] (.call "is_word" [.var 0])]])]⟩
abbrev cm:Fn:=⟨"in_one_order",1,1,[.ret (.tup [.idx (.var 0) (.cst (.int 0)),.bi .tuple [.bi .sorted [.idx (.var 0) (.cst (.int 1))]]])]⟩
abbrev iY:Fn:=⟨"alike",2,2,[.ret (.cmp .eq (.call "in_one_order" [.var 0]) (.call "in_one_order" [.var 1]))]⟩
noncomputable abbrev da:Fn:=KL.da
noncomputable abbrev bb:Fn:=KL.bb
noncomputable abbrev cN:Fn:=KL.cN
noncomputable abbrev bj:Fn:=KL.bj
noncomputable abbrev fg:Fn:=KL.fg
noncomputable abbrev eR:Fn:=KL.eR
abbrev cU:Fn:=⟨"places_alike",2,2,[.ret (.comp 2 bD .MU [.var 0] [.call "alike" [.var 1,.var 3]] (.var 0))]⟩
abbrev bZ:Fn:=⟨"gained_and_lost",2,6,[.set 2 (.call "learnt" [.var 0]),.set 3 (.call "learnt" [.var 1]),.set 4 (.comp 1 cb .seq [.var 3] [.cmp .HC (.var 0) (.var 3)] (.var 0)),.set 5 (.comp 1 cb .seq [.var 2] [.cmp .HC (.var 0) (.var 4)] (.var 0)),.ret (.tup [.var 4,.var 5])]⟩
abbrev zg:Fn:=⟨"Shelf.__init__",1,1,[.bad,.bad]⟩
abbrev eS:Fn:=⟨"Shelf.book",1,1,[.Kv 0,.ret (.IF 0)]⟩
abbrev bQ:Fn:=⟨"Shelf.learnt_now",1,1,[.Kv 0,.ret (.call "learnt" [.IF 0])]⟩
abbrev dS:Fn:=⟨"Shelf.deeds",1,1,[.Kv 0,.ret (.KI 0)]⟩
abbrev cD:Fn:=⟨"Shelf.put",3,4,[.Kv 0,.set 3 (.tup [.var 1,.bi .tuple [.var 2]]),.ite (.or [.not (.call "is_row" [.var 3]),.cmp .ne (.call "places_alike" [.IF 0,.var 3]) (.lst [])]) [.bad] [],.ite (.cmp .ge (.bi .len [.IF 0]) (.Ke "MOST_ROWS" (.int 60))) [.bad] [],.ret (.IG "Shelf.do_deed" "do_deed" 0 [.bin .add (.IF 0) (.tup [.var 3])])]⟩
abbrev eT:Fn:=⟨"Shelf.take",3,4,[.Kv 0,.set 3 (.call "places_alike" [.IF 0,.tup [.var 1,.bi .tuple [.var 2]]]),.ite (.cmp .eq (.var 3) (.lst [])) [.bad] [],.ret (.IG "Shelf.do_deed" "do_deed" 0 [.bin .add (.K_ (.IF 0) [] [.idx (.var 3) (.cst (.int 0))]) (.K_ (.IF 0) [.bin .add (.idx (.var 3) (.cst (.int 0))) (.cst (.int 1))] [])])]⟩
abbrev cO:Fn:=⟨"Shelf.back",1,1,[.Kv 0,.ite (.JL 0) [.Mo "NoDeed" (.cst (.str "no deed is left"))] [],.ret (.IG "Shelf.turn_to" "turn_to" 0 [.j4 0])]⟩
abbrev cV:Fn:=⟨"Shelf.do_deed",2,2,[.Kv 0,.KN 0,.ret (.IG "Shelf.turn_to" "turn_to" 0 [.var 1])]⟩
abbrev cW:Fn:=⟨"Shelf.turn_to",2,3,[.Kv 0,.set 2 (.call "gained_and_lost" [.IF 0,.var 1]),.KJ 0 (.var 1),.ret (.var 2)]⟩
noncomputable abbrev nu:Fn:=TM.vC
noncomputable abbrev lO:Fn:=TM.uc
noncomputable abbrev jU:Fn:=TM.oO
abbrev lP:Fn:=⟨"_law_name",2,6,[.set 2 (.cst (.str "abcdefghijklmnopqrstuvwxyz")),.set 3 (.Ku .join (.cst (.str "")) [.comp 1 cb .Iw [.bin .add (.cst (.int 1)) (.bin .mod (.idx (.var 0) (.cst (.int 0))) (.cst (.int 8)))] [] (.idx (.var 3) (.bin .mod (.idx (.var 1) (.bin .add (.cst (.int 4)) (.var 0))) (.cst (.int 26))))]),.ite (.cmp .gt (.bi .len [.var 1]) (.cst (.int 0))) [.set 4 (.idx (.Ku .split (.idx (.var 1) (.bin .mod (.idx (.var 0) (.cst (.int 1))) (.bi .len [.var 1]))) [.cst (.str "/")]) (.cst (.int 0))),.ite (.cmp .eq (.bin .mod (.idx (.var 0) (.cst (.int 2))) (.cst (.int 4))) (.cst (.int 1))) [.set 3 (.K_ (.bin .add (.var 4) (.var 3)) [] [.cst (.int 8)])] [],.ite (.cmp .eq (.bin .mod (.idx (.var 0) (.cst (.int 2))) (.cst (.int 4))) (.cst (.int 2))) [.set 3 (.bin .add (.bin .add (.var 4) (.cst (.str "/"))) (.bi .str [.bin .add (.cst (.int 2)) (.bin .mod (.idx (.var 0) (.cst (.int 3))) (.cst (.int 98)))]))] []] [],.set 5 (.bin .add (.lst [.var 3]) (.comp 1 cb .Iw [.cst (.int 40)] [] (.bin .add (.idx (.var 3) (.bin .Kc (.var 0) (.cst (.int 26)))) (.idx (.var 3) (.bin .mod (.var 0) (.cst (.int 26))))))),.ret (.idx (.comp 1 cb .seq [.var 5] [.cmp .HC (.var 0) (.var 2)] (.var 0)) (.cst (.int 0)))]⟩
noncomputable abbrev jV:Fn:=TM.fNames
noncomputable abbrev lQ:Fn:=TM.jS
abbrev dI:Fn:=⟨"_law_learnt",1,5,[.set 1 (.J4 cb),.set 2 (.cst (.bl bD)),.MV (.var 2) [.set 2 (.cst (.bl cb)),.Ij bD [3,4] .seq [.var 0] [.ite (.and [.cmp .HC (.var 3) (.var 1),.bi .all [.comp 1 cb .seq [.var 4] [] (.cmp .isin (.var 0) (.var 2))]]) [.put 1 (.var 3) (.cst (.bl bD)),.set 2 (.cst (.bl bD))] []]],.ret (.bi .sorted [.var 1])]⟩
abbrev dJ:Fn:=⟨"_law_stands",2,2,[.ret (.cmp .ne (.comp 1 cb .seq [.var 0] [.and [.cmp .eq (.idx (.var 0) (.cst (.int 0))) (.idx (.var 2) (.cst (.int 0))),.cmp .eq (.bi .sorted [.idx (.var 0) (.cst (.int 1))]) (.bi .sorted [.idx (.var 2) (.cst (.int 1))])]] (.var 0)) (.lst []))]⟩
abbrev dU:Fn:=⟨"_law_deed",5,7,[.Nq [4],.set 5 (.idx (.var 4) (.neg (.cst (.int 1)))),.ite (.and [.cmp .eq (.bin .mod (.var 2) (.cst (.int 3))) (.cst (.int 0)),.cmp .ne (.var 5) (.lst [])]) [.set 1 (.idx (.var 5) (.bin .mod (.var 3) (.bi .len [.var 5]))),.exp (.IG "Shelf.take" "take" 0 [.idx (.var 1) (.cst (.int 0)),.Lv .JK [.idx (.var 1) (.cst (.int 1))]]),.app 4 (.comp 1 cb .seq [.var 5] [.cmp .ne (.var 0) (.var 2)] (.var 0))] [.ite (.call "_law_stands" [.var 5,.var 1]) [.set 6 (.idx (.comp 1 cb .seq [.var 5] [.call "_law_stands" [.lst [.var 0],.var 2]] (.var 0)) (.cst (.int 0))),.exp (.IG "Shelf.take" "take" 0 [.idx (.var 1) (.cst (.int 0)),.bi .list [.idx (.var 1) (.cst (.int 1))]]),.app 4 (.comp 1 cb .seq [.var 5] [.cmp .ne (.var 0) (.var 7)] (.var 0)),.exp (.IG "Shelf.put" "put" 0 [.idx (.var 6) (.cst (.int 0)),.idx (.var 6) (.cst (.int 1))]),.app 4 (.bin .add (.idx (.var 4) (.neg (.cst (.int 1)))) (.lst [.var 6]))] [.exp (.IG "Shelf.put" "put" 0 [.idx (.var 1) (.cst (.int 0)),.bi .list [.idx (.var 1) (.cst (.int 1))]]),.app 4 (.bin .add (.var 5) (.lst [.var 1]))]]]⟩
abbrev dW:Fn:=⟨"_law_back",2,6,[.Nq [1],.set 2 (.call "_law_learnt" [.pop 1]),.set 3 (.call "_law_learnt" [.idx (.var 1) (.neg (.cst (.int 1)))]),.set 4 (.comp 1 cb .seq [.var 3] [.cmp .HC (.var 0) (.var 3)] (.var 0)),.set 5 (.comp 1 cb .seq [.var 2] [.cmp .HC (.var 0) (.var 4)] (.var 0)),.ite (.or [.cmp .ne (.IG "Shelf.back" "back" 0 []) (.tup [.var 4,.var 5]),.cmp .ne (.IG "Shelf.book" "book" 0 []) (.bi .tuple [.idx (.var 1) (.neg (.cst (.int 1)))])]) [.ret (.cst (.bl cb))] [],.ret (.and [.cmp .eq (.IG "Shelf.learnt_now" "learnt_now" 0 []) (.var 3),.cmp .eq (.IG "Shelf.deeds" "deeds" 0 []) (.bin .sub (.bi .len [.var 1]) (.cst (.int 1)))])]⟩
abbrev cE:Fn:=⟨"_law_no_deed",1,2,[.Kv 0,.set 1 (.cst (.bl cb)),.Mp 1 "Shelf.back" "back" 0 "NoDeed",.ret (.and [.var 1,.cmp .eq (.IG "Shelf.book" "book" 0 []) (.tup []),.cmp .eq (.IG "Shelf.learnt_now" "learnt_now" 0 []) (.lst []),.cmp .eq (.IG "Shelf.deeds" "deeds" 0 []) (.cst (.int 0))])]⟩
abbrev qA:Fn:=⟨"law",1,9,[.set 1 (.call "_law_drawn" [.call "_law_cell" [.var 0,.cst (.int 0)],.cst (.int 4)]),.set 2 (.call "_law_names" [.var 0,.cst (.int 1),.bin .add (.cst (.int 1)) (.bin .mod (.idx (.var 1) (.cst (.int 0))) (.cst (.int 14)))]),.JN 3,.set 4 (.lst [.lst []]),.Ij cb [5] .Iw [.bin .mod (.idx (.var 1) (.cst (.int 1))) (.cst (.int 25))] [.set 6 (.call "_law_drawn" [.call "_law_cell" [.var 0,.bin .add (.cst (.int 20)) (.var 5)],.cst (.int 18)]),.set 7 (.tup [.idx (.var 2) (.bin .mod (.idx (.var 6) (.cst (.int 0))) (.bi .len [.var 2])),.call "_law_told" [.var 6,.var 2]]),.exp (.IE "_law_deed" 3 [.var 7,.idx (.var 6) (.cst (.int 11)),.idx (.var 6) (.cst (.int 12)),.var 4] [4]),.ite (.cmp .eq (.bin .mod (.idx (.var 6) (.cst (.int 13))) (.cst (.int 2))) (.cst (.int 1))) [.ite (.not (.IE "_law_back" 3 [.var 4] [1])) [.ret (.cst (.bl cb))] [],.set 8 (.tup [.idx (.var 2) (.bin .mod (.idx (.var 6) (.cst (.int 14))) (.bi .len [.var 2])),.idx (.var 7) (.cst (.int 1))]),.exp (.IE "_law_deed" 3 [.var 8,.idx (.var 6) (.cst (.int 15)),.idx (.var 6) (.cst (.int 16)),.var 4] [4]),.ite (.and [.cmp .eq (.bin .mod (.idx (.var 6) (.cst (.int 17))) (.cst (.int 3))) (.cst (.int 1)),.not (.IE "_law_back" 3 [.var 4] [1])]) [.ret (.cst (.bl cb))] []] [],.ite (.or [.cmp .ne (.IG "Shelf.book" "book" 3 []) (.bi .tuple [.idx (.var 4) (.neg (.cst (.int 1)))]),.cmp .ne (.IG "Shelf.deeds" "deeds" 3 []) (.bin .sub (.bi .len [.var 4]) (.cst (.int 1)))]) [.ret (.cst (.bl cb))] []],.MV (.cmp .gt (.bi .len [.var 4]) (.cst (.int 1))) [.ite (.not (.IE "_law_back" 3 [.var 4] [1])) [.ret (.cst (.bl cb))] []],.ret (.JM "_law_no_deed" 3 [] [])]⟩
abbrev prog:List Fn:=[gu,cq,gv,ju,fU,iX,cm,iY,da,bb,cN,bj,fg,eR,cU,bZ,zg,eS,bQ,dS,cD,eT,cO,cV,cW,nu,lO,jU,lP,jV,lQ,dI,dJ,dU,dW,cE,qA]
abbrev ck:Ck:=⟨(prog.filter λf=>f.io.isNone&&f.ob.isNone&&cL (f.name≠("Shelf.__init__":Str))).map (·.name),[("FIRST_SENSE",(.int 1)),("LAST_SENSE",(.int 99)),("LETTERS",(.str "abcdefghijklmnopqrstuvwxyz")),("LONGEST_STEM",(.int 8)),("MOST_ROWS",(.int 60)),("MOST_TOLD",(.int 8))],prog.filterMap λf=>f.io.map λp=>(f.name,p.1),["NoDeed"],[("NoDeed","NoDeed")],[("Shelf.book",0,"book"),("Shelf.learnt_now",0,"learnt_now"),("Shelf.deeds",0,"deeds"),("Shelf.put",0,"put"),("Shelf.take",0,"take"),("Shelf.back",0,"back"),("Shelf.do_deed",0,"do_deed"),("Shelf.turn_to",0,"turn_to"),("_law_no_deed",0,"")]⟩
end K
namespace TM
open PySem L2 H_
def BM(x:Str)(c:Nat):Om ⟨#[c]⟩ x=cL (c∈x.cps.toList):=PySem.StrLaws.found_one x c
def BN(a:0<=i)(b:i<=99):Js .str [(k,.int i)]=a5 (.loc,.str (fu i)):=by
 simp only[Js,gT,xg];rw[ê (by
  by_cases hz:i.natAbs=0
  .rw[hz];decide
  .have:i.natAbs<2 ^ 7:=by lia
   have:=(Ñ hz).mpr this;lia)]
 rfl
def vN{ss:List Str}(h:ss.Nodup)(hl:ss.length<=100):uY .ig [(k,.tup (ss.map .str))]=a5 (.loc,.int (ss.length:Nat)):=by
 have e:uX (.tup (ss.map U.str))=a5 (bq ss):=by
  change(strsOf (ss.map U.str)).bind _=_;rw[eQ];change(if ss.length+1<L' then _ else _)=_;rw[ê (by change ss.length+1<4096;lia)]
 change(uX (.tup (ss.map U.str))).map _=_;rw[e];have b:=kM ss;have c:=lH h λx a=>(rf ss x).mpr a;change a5 (Kd.loc,U.int ((bq ss).length:Nat))=_;rw[show(bq ss).length=ss.length by lia]
end TM
namespace K
open PySem L2 TM H_
section
def Gz{bs:List Bool}(h:∀b∈bs,b=bD):Js .all [(k,.lst (bs.map .bl))]=a5 (.loc,.bl bD):=by
 rw[uf];congr 3
 rw[rr];show h
def zh(h:dX x.cps.toList=bD):bS Γ gu [.str x]=a5 (.ok (.loc,.bl bD)):=by
 have hsz:(1000:Nat)<=cK:=by decide
 have⟨a,d,e⟩:=(cJ _).mp h;have hl:x.length<=8:=by rw[len_list];show d
 have f:x≠"":=λz=>by rw[z]at a;show absurd a (by decide)
 let S:au:=[a5 (.loc,.str x)]
 have g:Run (HP Γ (.or [.cmp .eq (.var 0) (.cst (.str "")),.cmp .gt (.bi .len [.var 0]) (.Ke "LONGEST_STEM" (.int 8))])) S cb S:=by
  show yI (qe (bt (ah rfl) aw trivial ?_) (qd (bt (dn (rs:=[(.loc,.str x)]) (r:=(.loc,.int (x.length:Nat))) (ae (ah rfl) aj) trivial ?_) m8 trivial (jQ (ì ⋯)))))
  .rw[ue,ì f]
  .change(Ax (.str x)).map _=_;change(if x.length<=cK then a5 x.length else b6).map _=_;rw[ê ⋯];rfl
 have b:=gY (cond:=aN Γ []) (elt:=ev Γ (.cmp .isin (.var 0) (.Ke "LETTERS" (.str "abcdefghijklmnopqrstuvwxyz")))) (src:=[(.loc,.str x)]) (st:=S) trivial .loc (.inl rfl) (λc:Nat=>U.str ⟨#[c]⟩) (λ_=>U.bl bD) .loc (λ_=>iT) x.cps.toList [] (by rw[Vo,RN];lia)
  (λc i=>⟨fM (c:=bD) (ah rfl) m8 trivial (by
   change a5 (Om ⟨#[c]⟩ "abcdefghijklmnopqrstuvwxyz")=_;have:=qX "abcdefghijklmnopqrstuvwxyz" (by decide +kernel) c;rw[show Om ⟨#[c]⟩ "abcdefghijklmnopqrstuvwxyz"=low c from this];have:=e c i;simp[low,this.1,this.2]),bg⟩)
 rw[my]at b;have j:Js .all [(.own,.lst (x.cps.toList.map λ_=>U.bl bD))]=a5 (.loc,.bl bD):=by
  have:=Gz (k:=.own) (bs:=x.cps.toList.map λ_=>bD) (by simp);rw[mh]at this;show this
 show aH rfl (.inr rfl) (show TM.start [.str x] 1=S from rfl) (cj g (λz=>by cases z) λ_=>bx (dn (ae (cv (rs:=[(.loc,.str x)]) (ae (ah rfl) aj) trivial rfl b) aj) trivial j) cB)
def vO(b:2<=k)(d:k<=99):bS Γ cq [.str (fu k)]=a5 (.ok (.loc,.bl bD)):=by
 have hsz:(1000:Nat)<=cK:=by decide
 let S:au:=[a5 (.loc,.str (fu k))]
 have a:=gY (cond:=aN Γ []) (elt:=ev Γ (.bi .str [.var 0])) (src:=[(.loc,.int (1+1)),(.loc,.int (99+1))]) (st:=S) trivial .loc (.inl rfl) (λi:Nat=>U.int (2+(i:Int))) (λi=>U.str (fu (2+(i:Int)))) .loc (λ_=>iT) (il 98) [] (by simp;lia)
  (λi hi=>⟨dn (ae (ah rfl) aj) trivial (BN ⋯ (by have:=ve.mp hi;lia)),bg⟩)
 rw[my]at a;have e:((il 98).map λi:Nat=>U.str (fu (2+(i:Int))))=((il 98).map λi:Nat=>fu (2+(i:Int))).map U.str:=by rw[mh];rfl
 rw[e]at a;show aH rfl (.inr rfl) (show TM.start [.str (fu k)] 1=S from rfl) (bx (fM (c:=bD) (ah rfl) (cv (rs:=[(.loc,.int (1+1)),(.loc,.int (99+1))]) (ae (bL m8 aw trivial d5) (ae (bL m8 aw trivial d5) aj)) trivial rfl a) trivial ?_) cB);change bu .isin (.str (fu k)) (.lst (((il 98).map λi:Nat=>fu (2+(i:Int))).map U.str))=_;rw[Gy,í];show lx.mpr ⟨(k - 2).toNat,ve.mpr ⋯,by rw[show(2:Int)+((k - 2).toNat:Nat)=k by lia]⟩
def zi(a:fn=⟨fn.name,1,1,[.ret (.idx (.Ku .partition (.var 0) [.cst (.str "/")]) (.cst (.int n)))]⟩)(hl:x.length<=1000)(h:Ic [U.str (o9 x "/").1,.str (o9 x "/").2.1,.str (o9 x "/").2.2] n=a5 (.str y)):bS Γ fn [.str x]=a5 (.ok (.loc,.str y)):=by
 have hsz:(1000:Nat)<=cK:=by decide
 have b:j3 .partition (.str x) [(.loc,.str "/")]=a5 (.loc,.tup [.str (o9 x "/").1,.str (o9 x "/").2.1,.str (o9 x "/").2.2]):=by
  change(if (RG "/"==0)=cb/\x.length<=cK then _ else _)=_;rw[ê ⟨by decide,⋯⟩]
 rw[a];show aH (st0:=[a5 (.loc,.str x)]) rfl (.inr rfl) rfl (bx (bh (t8 (ah rfl) (ae aw aj) trivial b) aw trivial (nO h)) cB)
abbrev ph(Γ:Tab):Prop:=∀x:Str,bP x.cps.toList->Γ "is_word" [.str x]=a5 (.ok (.loc,.bl bD))
def zj(f:∀x:Str,dX x.cps.toList=bD->Γ "is_stem" [.str x]=a5 (.ok (.loc,.bl bD)))(i:∀k:Int,2<=k->k<=99->Γ "is_later_sense" [.str (fu k)]=a5 (.ok (.loc,.bl bD)))
    (hs:∀x y:Str,x.length<=1000->(o9 x "/").1=y->Γ "stem_of" [.str x]=a5 (.ok (.loc,.str y))) (d:∀x y:Str,x.length<=1000->(o9 x "/").2.2=y->Γ "number_of" [.str x]=a5 (.ok (.loc,.str y)))
 (h:bP x.cps.toList):bS Γ gv [.str x]=a5 (.ok (.loc,.bl bD)):=by
  have hl:x.length<=11:=by rw[len_list];show h.len.2
  let S:au:=[a5 (.loc,.str x)]
  have c:Run (HP Γ (.cmp .HC (.cst (.str "/")) (.var 0))) S (!cL (47∈x.cps.toList)) S:=bt aw (ah rfl) trivial (by
    change(a5 (Om "/" x)).map _=_;rw[show Om "/" x=cL (47∈x.cps.toList) from BM x 47];rfl)
  rcases h with h|⟨a,b,k,e,h,k2,j,l⟩
  . have d:47∉x.cps.toList:=ip h
    rw[ì d]at c;show aH rfl (.inr rfl) (show TM.start [.str x] 1=S from rfl) (yJ c (bx (aU (ae (ah rfl) aj) trivial (f x h)) cB))
  . rw[í (by rw[e];simp)]at c
    have g:=H_.Ai e (ip h);have m:(⟨b.toArray⟩:Str)=fu k:=TM.iq (by simpa using l.symm);have n:=f ⟨a.toArray⟩ (by simpa using h);have o:=hs x ⟨a.toArray⟩ ⋯ (by rw[show("/":Str)=⟨#[47]⟩ from rfl,g]);have q:=d x (fu k) ⋯ (by rw[show("/":Str)=⟨#[47]⟩ from rfl,g];show m);show aH rfl (.inr rfl) (show TM.start [.str x] 1=S from rfl) (cj c (λz=>by cases z) λ_=>bx (t_ (r_ (p:=bD) (aU (ae (aU (ae (ah rfl) aj) trivial o) aj) trivial n) (by rw[ê rfl];show oI (aU (ae (aU (ae (ah rfl) aj) trivial q) aj) trivial (i k k2 j))))) cB)
def vP(c:ph Γ){ss:List Str}(hs:∀x∈ss,bP x.cps.toList)(hl:ss.length<=1000)(h:Run (ev Γ e) st (k,u) st)(d:bo [(k,u)] st)(hk:k'=.loc\/k'=.any)(b:Kg .seq [(k,u)]=a5 (ss.map λx=>(k',U.str x))):Run (ev Γ (.bi .all [.comp 1 cb .seq [e] [] (.call "is_word" [.var 0])])) st (.loc,.bl bD) st:=by
 have hsz:(1000:Nat)<=cK:=by decide
 have a:=gY (cond:=aN Γ []) (elt:=ev Γ (.call "is_word" [.var 0])) (src:=[(k,u)]) (st:=st) d k' hk U.str (λ_=>U.bl bD) .loc (λ_=>iT) ss [] (by simp;lia)
  (λx a=>by
   rcases hk with rfl|rfl
   .show⟨aU (ae (ah rfl) aj) trivial (c x (hs x a)),bg⟩
   .show⟨aU (ae (ba rfl) aj) trivial (c x (hs x a)),bg⟩)
 rw[my]at a;have f:Js .all [(.own,.lst (ss.map λ_=>U.bl bD))]=a5 (.loc,.bl bD):=by
  have:=Gz (k:=.own) (bs:=ss.map λ_=>bD) (by simp);rw[mh]at this;show this
 show dn (ae (cv (rs:=[(k,u)]) (ae h aj) d b a) aj) trivial f
def BO(a:ph Γ)(i:r.2.length<=8)(b:r.2.Nodup)(c:bP r.1.cps.toList)(d:∀x∈r.2,bP x.cps.toList):bS Γ iX [Hx r]=a5 (.ok (.loc,.bl bD)):=by
 have hsz:(1000:Nat)<=cK:=by decide
 have e:TM.start [Hx r] 2=[a5 (.loc,Hx r),b6]:=by simp[TM.start,d4]
 let S:au:=[a5 (.loc,Hx r),a5 (.loc,.tup (r.2.map .str))]
 have g:Run (HP Γ (.or [.cmp .gt (.bi .len [.var 1]) (.Ke "MOST_TOLD" (.int 8)),.cmp .lt (.Lv .ig [.var 1]) (.bi .len [.var 1])])) S cb S:=by
  have gl:Run (ev Γ (.bi .len [.var 1])) S (.loc,.int (r.2.length:Nat)) S:=by
   have h:=dn (Γ:=Γ) (st:=S) (f:=.len) (es:=[.var 1]) (ae (ah rfl) aj) trivial (oN (xs:=r.2.map U.str));rw[dr]at h;show h
  show yI (qe (bt gl m8 trivial (jQ (ì ⋯))) (qd (bt (Ci (ae (ah rfl) aj) trivial (vN b ⋯)) gl trivial (yN (ì ⋯)))))
 show aH rfl (.inr rfl) e (ay (bh (x:=(.loc,Hx r)) (ah rfl) aw trivial rfl) aV (cj g (λz=>by cases z) λ_ =>
  bx (t_ (r_ (p:=bD) (aU (ae (bh (x:=(.loc,Hx r)) (ah rfl) aw trivial rfl) aj) trivial (a r.1 c)) (by rw[ê rfl];show oI (vP a d ⋯ (ah rfl) trivial (.inl rfl) (by change a5 _=_;rw[mh];rfl))))) cB))
def BP(h:r.2.length<64):bS Γ cm [Hx r]=a5 (.ok (.loc,Hx (keyOf r))):=by
 have a:=sorted_strs (k:=.loc) (ss:=r.2) h;have b:iC (.loc,Hx r) (.int 0)=a5 (.loc,.str r.1):=rfl;have c:iC (.loc,Hx r) (.int 1)=a5 (.loc,.tup (r.2.map .str)):=rfl;apply aH (st0:=[a5 (.loc,Hx r)]) rfl (.inr rfl) (by simp[TM.start,d4,cm])
 repeat' (first|show b|show c|show a|show(by decide:(2:Nat)<=cK)|sizeOf_list_dec)
end
end K
namespace K
open PySem L2 TM H_ Od KL
section
variable{Γ:Tab}{rows:List Row}{names:List Str}{st:au}
def zk(h:st[i]?=a5 (a5 (.loc,.bl b))):Run (HP Γ (.var i)) st b st:=aa (d0 h) (cY rfl)
def sA{told a:List Str}(hl:told.length<=1000)(hi:st[i]?=a5 (a5 (.any,.tup (told.map .str))))(c:st[j]?=a5 (a5 (.own,w)))(d:∀x:Str,bu .isin (.str x) w=a5 (cL (x∈a))):
  Run (ev Γ (.bi .all [.comp 1 cb .seq [.var i] [] (.cmp .isin (.var 0) (.var (j+1)))])) st (.loc,.bl (told.all λx=>cL (x∈a))) st:=by
 have hsz:(1000:Nat)<=cK:=by decide
 have b:=gY (cond:=aN Γ []) (elt:=ev Γ (.cmp .isin (.var 0) (.var (j+1)))) (src:=[(.any,.tup (told.map .str))]) (st:=st) trivial .any (.inr rfl) U.str (λx=>.bl (cL (x∈a))) .loc (λ_=>iT) told [] (by simp;lia)
  (λy _=>⟨fM (ba rfl) (aC (by simpa using c)) ⟨⟨.own,rfl,by simpa using c⟩,trivial⟩ (d y),bg⟩)
 rw[my]at b;have e:(told.map λx=>U.bl (cL (x∈a)))=(told.map λx=>cL (x∈a)).map U.bl:=by rw[mh];rfl
 rw[e]at b;have f:(told.all λx=>cL (x∈a))=((told.map λx=>cL (x∈a)).all id):=by rw[Z2];rfl
 rw[f];show dn (ae (cv (rs:=[(.any,.tup (told.map .str))]) (ae (ba hi) aj) trivial (by change a5 _=_;rw[mh];rfl) b) aj) trivial (uf _)
abbrev BQ:List TM.S:=[.ite (.and [.cmp .HC (.var 3) (.var 1),.bi .all [.comp 1 cb .seq [.var 4] [] (.cmp .isin (.var 0) (.var 2))]]) [.put 1 (.var 3) (.cst (.bl bD)),.set 2 (.cst (.bl bD))] []]
structure Lk(rows:List Row)(K:List Str):Prop where
 nd:K.Nodup
 snd:MA rows K
 TJ:∀x∈K,x∈rows.map (·.1)
abbrev lS(rows:List Row)(K:List Str)(vs:List U)(b:Bool)(o3 o4:Option (Kd×U)):au:=[a5 (.any,.lst (rows.map Hx)),a5 (.own,.Hz K vs),a5 (.loc,.bl b),o3,o4]
def Lk.len(x:Lk rows K):K.length<=rows.length:=by
 have:=lL x.nd x.TJ
 rwa [dr]at this
def Lk.add(x:Lk rows K)(d:r∈rows)(f:r.1∉K)(g:∀y∈r.2,y∈K):Lk rows (K++[r.1]):=by
 show⟨?_,λC c y hy=>?_,λy hy=>?_⟩
 .rw[ro];show⟨x.nd,by simp,λa h b i e=>?_⟩;have:b=r.1:=by simpa using i
  subst this;show f (e▸h)
 .rcases i9.mp hy with hy|hy
  .show x.snd C c y hy
  .have:y=r.1:=by simpa using hy
   subst this;show c r d λz hz=>x.snd C c z (g z hz)
 .rcases i9.mp hy with hy|hy
  .show x.TJ y hy
  .have:y=r.1:=by simpa using hy
   subst this;show lx.mpr ⟨r,d,rfl⟩
def zl(I:∀r∈rows,r.2.length<=8)(C:rows.length<=100)(x:Lk rows K0)(vs:List U)(o3 o4:Option (Kd×U)):∃(f:List Str) (u:List U) (b:Bool) (v z:Option (Kd×U)),Lk rows f/\(b=bD->K0.length<f.length)/\(b=cb->f=K0/\fS rows (·∈K0)) /\
  Run (forM bD [3,4] (execs Γ BQ) [(.any,.lst (rows.map Hx))] (rows.map λr=>(Kd.any,Hx r))) (lS rows K0 vs cb o3 o4) .nx (lS rows f u b v z):=by
 have hsz:(20000:Nat)<=cK:=by decide
 obtain⟨st1,J,_,f,u,b,v,z,e,g,n,c⟩:=ff (t:=bD) (is:=[3,4]) (body:=execs Γ BQ) (rs:=[(.any,.lst (rows.map Hx))]) (λr:Row=>(Kd.any,Hx r))
  (λd r st=>d++r=rows/\∃(K:List Str) (vs:List U) (b:Bool) (o3 o4:Option (Kd×U)),st=lS rows K vs b o3 o4/\Lk rows K/\(b=bD->K0.length<K.length)/\(b=cb->K=K0/\∀r∈d,(∀y∈r.2,y∈K0)->r.1∈K0)) (λ_ _ _ _=>trivial) (λd a r st L=>by
   have⟨A,K,vs,b,o3,o4,e,g,n,c⟩:=L;subst e;have D:a∈rows:=by rw[<-A];simp
   have N:=I a D;have O:=g.len;let o:Option (Kd×U):=a5 (.any,.str a.1);let p:Option (Kd×U):=a5 (.any,.tup (a.2.map .str));have q:Run (HP Γ (.and [.cmp .HC (.var 3) (.var 1),.bi .all [.comp 1 cb .seq [.var 4] [] (.cmp .isin (.var 0) (.var 2))]])) (lS rows K vs b o p) (!cL (a.1∈K)&&a.2.all λy=>cL (y∈K)) (lS rows K vs b o p) :=
    iS (oX (bt (ba rfl) (aC rfl) ⟨⟨.own,rfl,rfl⟩,trivial⟩ jo) λ_=>cT (Es (sA (i:=4) (j:=1) (w:=.Hz K vs) ⋯ rfl rfl λ_=>Ez)))
   have G:Run (dF bD [3,4] (.any,Hx a)) (lS rows K vs b o3 o4) () (lS rows K vs b o p):=qw (.inr rfl);cases l:(!cL (a.1∈K)&&a.2.all λy=>cL (y∈K)) with
   |false =>
    rw[l]at q;show⟨_,_,G,cj q (λh=>by cases h) λ_=>aQ,by rw[<-A];simp,K,vs,b,_,_,rfl,g,n,λB=>⟨(c B).1,λm Jp hz=>?_⟩⟩;rcases i9.mp Jp with Jp|Jp
    .show(c B).2 m Jp hz
    .have:m=a:=by simpa using Jp
     subst this;rw[<-(c B).1]at hz ⊢;by_cases H:m.1∈K
     .show H
     .have:(!cL (m.1∈K)&&m.2.all λy=>cL (y∈K))=bD:=by
       rw[ì H];simpa using hz
      rw[this]at l;cases l
   |true =>
    rw[l]at q;have s:=l;simp only[b7,rz,decide_eq_false_iff_not,rr,é]at s;show⟨_,lS rows (K++[a.1]) (vs++[.bl bD]) bD o p,G,cj q (λ_=>?_) (λh=>by cases h),by rw[<-A];simp,K++[a.1],_,bD,_,_,rfl,g.add D s.1 s.2,λ_=>?_,λh=>by cases h⟩
    .show yT (k:=.own) (rv:=(.loc,.bl bD)) (rk:=(.any,.str a.1)) aw rfl (ba rfl) (aJ bg (aJ (m9 rfl) aX)) rfl rfl (pe ⋯ s.1) (ay aw aV aQ)
    .rw[j0,Lc];cases b with
     |true=>have:=n rfl;lia
     |false=>rw[(c rfl).1];lia) rows [] (lS rows K0 vs cb o3 o4) ⟨rfl,K0,vs,cb,o3,o4,rfl,x,(λh=>by cases h),λ_=>⟨rfl,λr C=>by cases C⟩⟩
 subst e;rw[my]at c;show⟨f,u,b,v,z,g,n,c,J⟩
theorem zm(j:∀r∈rows,r.2.length<=8)(k:rows.length<=100):∀(f:Nat) (K0:List Str) (vs:List U) (o3 o4:Option (Kd×U)),Lk rows K0->rows.length - K0.length+2<=f ->
  ∃(a:List Str) (c:List U) (d g:Option (Kd×U)),Lk rows a/\fS rows (·∈a)/\Run (gB (HP Γ (.var 2)) (execs Γ [.set 2 (.cst (.bl cb)),.Ij bD [3,4] .seq [.var 0] BQ]) f) (lS rows K0 vs bD o3 o4) .nx (lS rows a c cb d g)
 |0,_,_,_,_,_,h=>by lia
 |f+1,K0,vs,o3,o4,x,h=>by
  have⟨a,c,b,d,g,i,m,n,o⟩:=zl (Γ:=Γ) j k x vs o3 o4;have p:(rows.map Hx).map (λu=>(kE .any,u))=rows.map λr=>(Kd.any,Hx r):=by rw[mh];rfl
  have l:Run (execs Γ [.set 2 (.cst (.bl cb)),.Ij bD [3,4] .seq [.var 0] BQ]) (lS rows K0 vs bD o3 o4) .nx (lS rows a c b d g) :=
   ay aw aV (fO (rs:=[(.any,.lst (rows.map Hx))]) (st1:=lS rows K0 vs cb o3 o4) (ae (ba rfl) aj) trivial (by change a5 (R9 (λu=>(kE .any,u)) _)=_;rw[p]) rfl o aQ)
  cases b with
  |false =>
   have⟨e,q⟩:=n rfl;subst e;cases f with
   |zero=>lia
   |succ f=>show⟨a,c,d,g,i,q,y8 (zk rfl) l (y7 (zk rfl))⟩
  |true =>
   have:=m rfl;have:=i.len;have⟨s,t,v,w,y,z,A⟩:=zm j k f a c d g i ⋯;show⟨s,t,v,w,y,z,y8 (zk rfl) l A⟩
def hV(e:∀r∈rows,r.2.length<=8)(f:rows.length<=100)(g:∀r∈rows,r.1∈names)(k:names.length<64):∃L:List Str,L.Nodup/\MA rows L/\fS rows (·∈L)/\bS Γ dI [.lst (rows.map Hx)]=a5 (.ok (.own,.lst ((bF L).map .str))):=by
 have h:TM.start [.lst (rows.map Hx)] 5=[a5 (.any,.lst (rows.map Hx)),b6,b6,b6,b6]:=by simp[TM.start,HQ]
 have⟨L,vs,l,m,d,i,j⟩:=zm (Γ:=Γ) e f fuel [] [] b6 b6 ⟨.nil,(λC _ x c=>by cases c),(λx c=>by cases c)⟩ (by unfold fuel;simp;lia);have hl:L.length<64:=by
  have:=lL d.nd (L:=names) λx c=>by
   have⟨r,a,b⟩:=lx.mp (d.TJ x c);show b▸g r a
  lia
 have hs:Js .sorted [(.bor 1,.Hz L vs)]=a5 (.own,.lst ((bF L).map .str)):=by
  change(if L.length<64 then _ else _)=_;rw[ê hl]
 show⟨L,d.nd,d.snd,i,aH rfl (.inl rfl) h (ay (r:=(.own,.Hz [] [])) r9 bw (ay aw aV (y9 j (bx (dn (ae (aC rfl) aj) ⟨⟨.own,rfl,rfl⟩,trivial⟩ hs) jO))))⟩
end
abbrev tb(rs:List Row):U:=.tup (rs.map Hx)
abbrev Il(p:List (List Row)):List U:=p.map tb
abbrev HG(rs:List Row)(p:List (List Row)):U:=.ob (tb rs) (Il p)
abbrev lw(rows:List Row):List Str:=open Classical in if h:∃L,Kn rows L then bF h.choose else []
def zo(h:Kn rows L):lw rows=bF L:=by
 unfold lw;rw[dif_pos ⟨L,h⟩];show jD ((Classical.choose_spec (⟨L,h⟩:∃L,Kn rows L)).perm h)
abbrev gl(K L:List Str):List Str:=L.filter λx=>cL (x∉K)
abbrev Jv(a b:List Row):U:=.tup [.lst ((gl (lw a) (lw b)).map .str),.lst ((gl (lw b) (lw a)).map .str)]
structure Bk(names:List Str)(rs:List Row):Prop where
 ok:∀r∈rs,dR names r
 ln:rs.length<=50
def hZ(rs:List Row):HQ (tb rs)=bD:=by simp[tb,HQ,c_]
theorem pj:∀p:List (List Row),cZ (Il p)=bD
 |[]=>rfl
 |r::p=>by rw[Il,g8,cZ,hZ];show pj p
theorem pk(n:Nat):∀rs:List Row,b_ (n+2) (rs.map Hx)=bD
 |[]=>by simp[b_]
 |r::rs=>by rw[g8,b_,pk n rs];simp[Hx,Ia,b_];show g_ _ _
def pq(n:Nat)(rs:List Row):Ia (n+3) (tb rs)=bD:=by
 unfold tb;rw[Ia];show pk n rs
theorem lR(n:Nat):∀p:List (List Row),b_ (n+3) (Il p)=bD
 |[]=>by simp[Il,b_]
 |r::p=>by rw[Il,g8,b_,pq,Bool.true_and];show lR n p
section
abbrev TK(Γ:Tab)(f:Str)(names:List Str):Prop:=∀rs:List Row,Bk names rs->(lw rs).length<64/\Γ f [tb rs]=a5 (.ok (.own,.lst ((lw rs).map .str)))
def BR(hi:st[i]?=a5 (a5 (.own,.lst (L.map .str))))(c:st[j]?=a5 (a5 (k,.lst (K.map .str))))(hk:k=.own\/k=.any)(hl:L.length<=1000):Run (ev Γ (.comp 1 cb .seq [.var i] [.cmp .HC (.var 0) (.var (j+1))] (.var 0))) st (.own,.lst ((gl K L).map .str)) st:=by
 have hsz:(1000:Nat)<=cK:=by decide
 have a:=jn (cond:=aN Γ [.cmp .HC (.var 0) (.var (j+1))]) (elt:=ev Γ (.var 0)) (src:=[(.bor i,.lst (L.map .str))]) (st:=st) ⟨⟨.own,rfl,hi⟩,trivial⟩ .loc (.inl rfl) U.str U.str (λx=>cL (x∉K)) .loc L [] (by simp;lia)
  (λx a=>by
   have b:(a5 (Kd.loc,U.str x)::st)[j+1]?=a5 (a5 (k,.lst (K.map .str))):=c;show⟨cT ?_,λ_=>⟨ah rfl,bg⟩⟩;rcases hk with rfl|rfl
   .show bt (ah rfl) (aC b) ⟨⟨.own,rfl,b⟩,trivial⟩ fR
   .show bt (ah rfl) (ba b) trivial fR)
 rw[my]at a;show cv (rs:=[(.bor i,.lst (L.map .str))]) (ae (aC hi) aj) ⟨⟨.own,rfl,hi⟩,trivial⟩ (by change a5 _=_;rw[mh];rfl) a
def EK(f:TK Γ "learnt" names)(h:Bk names rows)(h':Bk names a):bS Γ bZ [tb rows,tb a]=a5 (.ok (.loc,Jv rows a)):=by
 have hsz:(1000:Nat)<=cK:=by decide
 have⟨n,e1⟩:=f rows h;have⟨o,k⟩:=f a h';let b:Option (Kd×U):=a5 (.loc,tb rows);let c:Option (Kd×U):=a5 (.loc,tb a);let d:Option (Kd×U):=a5 (.own,.lst ((lw rows).map .str));let e:Option (Kd×U):=a5 (.own,.lst ((lw a).map .str));let g:Option (Kd×U):=a5 (.own,.lst ((gl (lw rows) (lw a)).map .str));let l:Option (Kd×U):=a5 (.own,.lst ((gl (lw a) (lw rows)).map .str));have m:TM.start [tb rows,tb a] 6=[b,c,b6,b6,b6,b6]:=by simp[TM.start,hZ,b,c]
 show aH rfl (.inr rfl) m (ay (aU (ae (ah rfl) aj) trivial e1) bw (ay (aU (ae (ah rfl) aj) trivial k) bw
  (ay (BR (i:=3) (j:=2) (st:=[b,c,d,e,b6,b6]) rfl rfl (.inl rfl) ⋯) bw (ay (BR (i:=2) (j:=3) (st:=[b,c,d,e,g,b6]) rfl rfl (.inl rfl) ⋯) bw
   (bx (fN (us:=[.lst ((gl (lw rows) (lw a)).map .str),.lst ((gl (lw a) (lw rows)).map .str)]) (ae (aC (i:=4) (st:=[b,c,d,e,g,l]) rfl) (ae (aC rfl) aj)) ⟨⟨.own,rfl,rfl⟩,⟨.own,rfl,rfl⟩,trivial⟩ (aJ (qu rfl) (aJ (qu rfl) aX)) (by change 2<=cK;lia)) cB)))))
abbrev TL(Γ:Tab)(names:List Str):Prop:=∀rs a p,Bk names rs->Bk names a->Γ "Shelf.turn_to" [HG rs p,tb a]=a5 (.ok (.loc,.tup [Jv rs a,HG a p]))
def zp(f:∀a b,Bk names a->Bk names b->Γ "gained_and_lost" [tb a,tb b]=a5 (.ok (.loc,Jv a b)))(h:Bk names rows)(h':Bk names d):eJ Γ cW 0 (cW.body.drop 1) [HG rows c,tb d]=a5 (.ok (.loc,.tup [Jv rows d,HG d c])):=by
 let e:Option (Kd×U):=a5 (.loc,tb d);let g:Option (Kd×U):=a5 (.loc,Jv rows d);have i:a_ 0 [HG rows c,tb d] 3=[a5 (.A',HG rows c),e,b6]:=by simp[a_,hZ,e]
 show cC (p:=0) (st:=[a5 (.A',HG d c),e,g]) ⟨rfl,by decide⟩ i (ay (aU (ae (fj rfl) (ae (ah rfl) aj)) trivial (f rows d h h')) aV
  (EF (r:=(.loc,tb d)) (ah rfl) bg rfl (hZ _) (pj _) (bx (ah rfl) cB))) rfl rfl
def zq(f:TL Γ names)(h:Bk names rows)(h':Bk names b)(i:a.length<=100):eJ Γ cV 0 (cV.body.drop 1) [HG rows a,tb b]=a5 (.ok (.loc,.tup [Jv rows b,HG b (a++[rows])])):=by
 have hsz:(1000:Nat)<=cK:=by decide
 let c:Option (Kd×U):=a5 (.loc,tb b);have g:a_ 0 [HG rows a,tb b] 2=[a5 (.A',HG rows a),c]:=by simp[a_,hZ,c]
 have e:Il (a++[rows])=Il a++[tb rows]:=by simp[Il]
 have d:=f rows b (a++[rows]) h h';unfold HG at d ⊢;rw[e]at d ⊢;show cC (p:=0) (st:=[a5 (.A',.ob (tb b) (Il a++[tb rows])),c]) ⟨rfl,by decide⟩ g (EG (u:=tb rows) (us:=Il a) rfl (by unfold Il;rw[dr];lia) (hZ _) (by rw[<-e];show pj _)
  (bx (dq (us:=Il a++[tb rows]) rfl (ae (ah rfl) aj) trivial rfl d (.inr rfl)) cB)) rfl rfl
def zr:eJ Γ eS 0 (eS.body.drop 1) [HG rows a]=a5 (.ok (.loc,.tup [tb rows,HG rows a])) :=
 cC (p:=0) (st:=[a5 (.A',HG rows a)]) ⟨rfl,by decide⟩ (by simp[a_];rfl) (bx (fj rfl) cB) rfl rfl
def zt(b:TK Γ "learnt" names)(h:Bk names rows):eJ Γ bQ 0 (bQ.body.drop 1) [HG rows a]=a5 (.ok (.own,.tup [.lst ((lw rows).map .str),HG rows a])) :=
 cC (p:=0) (st:=[a5 (.A',HG rows a)]) ⟨rfl,by decide⟩ (by simp[a_];rfl) (bx (aU (ae (fj rfl) aj) trivial (b rows h).2) jO) rfl rfl
def vQ:eJ Γ dS 0 (dS.body.drop 1) [HG rows a]=a5 (.ok (.loc,.tup [.int (a.length:Nat),HG rows a])):=by
 have e:(Il a).length=a.length:=by simp[Il]
 have h:=EA (Γ:=Γ) (st:=[a5 (.A',HG rows a)]) (i:=0) (u:=tb rows) (us:=Il a) rfl;rw[e]at h;show cC (p:=0) (st:=[a5 (.A',HG rows a)]) ⟨rfl,by decide⟩ (by simp[a_];rfl) (bx h cB) rfl rfl
def zu(d:TL Γ names)(h:Bk names rows)(h':Bk names b):eJ Γ cO 0 (cO.body.drop 1) [HG rows (a++[b])]=a5 (.ok (.loc,.tup [Jv rows b,HG b a])):=by
 have e:Il (a++[b])=Il a++[tb b]:=by simp[Il]
 have t:Run (HP Γ (.JL 0)) [a5 (.A',HG rows (a++[b]))] cb [a5 (.A',HG rows (a++[b]))]:=by
  have:=zf (Γ:=Γ) (i:=0) (st:=[a5 (.A',HG rows (a++[b]))]) (u:=tb rows) (us:=Il (a++[b])) rfl (by rw[Ia];show lR 46 _);rw[e,show(Il a++[tb b]).isEmpty=cb by cases Il a<;>rfl]at this;show this
 have c:=EB (Γ:=Γ) (i:=0) (st:=[a5 (.A',HG rows (a++[b]))]) (u:=tb rows) (us:=Il (a++[b])) (w:=tb b) rfl (by rw[e];simp);rw[e,Yt]at c;show cC (p:=0) (st:=[a5 (.A',HG b a)]) ⟨rfl,by decide⟩ (by simp[a_];rfl) (cj t (λz=>by cases z) λ_=>bx (dq rfl (ae c aj) trivial rfl (d rows b a h h') (.inr rfl)) cB) rfl rfl
end
end K
namespace TM
open PySem L2 H_
def qB:oj (k,.tup (rs.map Hx)) lo hi=a5 (kE k,.tup ((cut rs lo hi).map Hx)):=by
 simp only[oj];rw[BD]
def qC{a b:List Row}(h:a.length+b.length<=cK):JS .add (k,.tup (a.map Hx)) (k',.tup (b.map Hx))=a5 (kT k k',.tup ((a++b).map Hx)):=by
 change(if _ then _ else _)=_;rw[ê (by rw[dr,dr];show h),oD]
def GA(h:Run (ev Γ e) st x st1):Run (execs Γ (.Mo c e::ss)) st (.rt .io (.str c)) st1:=aa (aa h aL) aL
def EL(xs:List α)(k:Nat):cut xs b6 (a5 (k:Int))=xs.take k:=by
 unfold cut;rw[HT.sJ];change(xs.drop 0).take (min k xs.length - 0)=_;rw[Zy,Nat.sub_zero];rcases Æ k xs.length with h|h
 .rw[QV h]
 .rw[Zo h,K1 (i5 _),K1 h]
def zv(xs:List α)(k:Nat):cut xs (a5 (k:Int)) b6=xs.drop k:=by
 unfold cut;rw[HT.sJ];change(xs.drop (min k xs.length)).take (xs.length - min k xs.length)=_;rw[K1 (by rw[Rt];lia)];rcases Æ k xs.length with h|h
 .rw[QV h]
 .rw[Zo h,Xg (i5 _),Xg h]
end TM
namespace K
open PySem L2 TM H_ Od KL
section
abbrev JA(r s:Row):Bool:=cL (keyOf r=keyOf s)
def vR(a:∀r:Row,r.2.length<64->Γ "in_one_order" [Hx r]=a5 (.ok (.loc,Hx (keyOf r))))(h:r.2.length<64)(b:s.2.length<64):bS Γ iY [Hx r,Hx s]=a5 (.ok (.loc,.bl (JA r s))):=by
 apply aH (st0:=[a5 (.loc,Hx r),a5 (.loc,Hx s)]) rfl (.inr rfl) (by simp[TM.start,d4,iY])
 repeat' (first|show a r h|show a s b|show BC (op:=bD)|sizeOf_list_dec)
abbrev L5(rows:List Row)(r:Row):List Nat:=(il rows.length).filter λp=>JA (rows.getD p ("",[])) r
abbrev Oy(Γ:Tab)(names:List Str):Prop:=∀(rs:List Row) (r:Row),Bk names rs->r.2.length<64->Γ "places_alike" [tb rs,Hx r]=a5 (.ok (.own,.lst ((L5 rs r).map λn:Nat=>.int (n:Nat))))
def hU(c:∀r s:Row,r.2.length<64->s.2.length<64->Γ "alike" [Hx r,Hx s]=a5 (.ok (.loc,.bl (JA r s))))(a:Bk names rows)(d:r.2.length<64):bS Γ cU [tb rows,Hx r]=a5 (.ok (.own,.lst ((L5 rows r).map λn:Nat=>.int (n:Nat)))):=by
 have hsz:(2000:Nat)<=cK:=by decide
 have k:=a.ln;have f:TM.start [tb rows,Hx r] 2=[a5 (.loc,tb rows),a5 (.loc,Hx r)]:=by simp[TM.start,hZ,d4]
 have b:=lN (st:=[a5 (.loc,tb rows),a5 (.loc,Hx r)]) (cond:=aN Γ [.call "alike" [.var 1,.var 3]]) (elt:=ev Γ (.var 0)) (src:=[(.loc,tb rows)]) trivial (λp:Nat=>U.int (p:Nat)) (λp:Nat=>Hx (rows.getD p ("",[]))) (λp:Nat=>U.int (p:Nat)) (λp=>JA (rows.getD p ("",[])) r) (il rows.length) [] (by simp;lia)
  (λy g=>⟨cT (oY (ae (ah rfl) (ae (ah rfl) aj)) trivial (c _ r (by
   have h:y<rows.length:=by simpa using g
   have e:rows.getD y ("",[])=rows[y]:=by simp[Lz,h]
   rw[e];have:=(a.ok rows[y] (K7 _)).JY;lia) d) rfl),ah rfl⟩)
 rw[my]at b;have e:((rows.map Hx).zipIdx.map λp=>(kE .loc,U.tup [.int p.2,p.1]))=(il rows.length).map λp:Nat=>(Kd.loc,U.tup [.int (p:Nat),Hx (rows.getD p ("",[]))]):=by
  apply NX
  .simp
  .intro i j l;have hi:i<rows.length:=by simpa using j
   simp[kE,Lz,hi]
 show aH rfl (.inl rfl) f (bx (cv (rs:=[(.loc,tb rows)]) (ae (ah rfl) aj) trivial (by change a5 _=_;rw[e]) b) jO)
def BS:L5 rows r=[]↔∀s∈rows,keyOf s≠keyOf r:=by
 unfold L5;rw[K2];constructor
 .intro h s hs e;have⟨i,hi,rfl⟩:=R6.mp hs;show h i (ve.mpr hi) ?_;have a:rows.getD i ("",[])=rows[i]:=by simp[Lz,hi]
  rw[a,JA,é];show e
 .intro h i hi e;have hi:=ve.mp hi;have a:rows.getD i ("",[])=rows[i]:=by simp[Lz,hi]
  rw[a,JA,é]at e;show h _ (K7 _) e
def zw(f:∀x∈a,keyOf x≠keyOf r)(hs:keyOf s=keyOf r):∃l,L5 (a++s::b) r=a.length::l:=by
 have h:(L5 (a++s::b) r).head?=a5 a.length:=by
  unfold L5;rw[List.head?_filter,List.find?_range_eq_some];show⟨by simp[JA,Lz,hs],by simp,λj c=>?_⟩;have e:(a++s::b).getD j ("",[])=a[j]:=by simp[Lz,nc c,c]
  rw[e];simp only[JA,rz,decide_eq_false_iff_not];show f _ (K7 _)
 cases d:L5 (a++s::b) r with
 |nil=>rw[d]at h;cases h
 |cons x l=>rw[d]at h;show⟨l,by rw[tj h]⟩
abbrev lT(Γ:Tab)(names:List Str):Prop:=∀r:Row,dR names r->Γ "is_row" [Hx r]=a5 (.ok (.loc,.bl bD))
abbrev P1(Γ:Tab)(names:List Str):Prop:=∀rs a p,Bk names rs->Bk names a->p.length<=100->Γ "Shelf.do_deed" [HG rs p,tb a]=a5 (.ok (.loc,.tup [Jv rs a,HG a (p++[rs])]))
def jv:Run (ev Γ (.lst [])) st (.own,.lst []) st:=dA (rs:=[]) (us:=[]) aj trivial aX (mx _)
def zx(e:Oy Γ names)(f:lT Γ names)(g:Bk names rows)(a:dR names r)(h:st[0]?=a5 (a5 (.A',HG rows b)))(d:st[3]?=a5 (a5 (.loc,Hx r))):
  Run (HP Γ (.or [.not (.call "is_row" [.var 3]),.cmp .ne (.call "places_alike" [.IF 0,.var 3]) (.lst [])])) st (!(L5 rows r).isEmpty) st:=by
 show yI (qe (Cj (c:=bD) (oY (ae (ah d) aj) trivial (f r a) rfl)) (qd (bt (aU (ae (fj h) (ae (ah d) aj)) trivial (e rows r g (by have:=a.JY;lia))) jv trivial ?_)));have:=fT (us:=(L5 rows r).map λn:Nat=>U.int (n:Nat)) (by rw[Ia];show gr (λn:Nat=>(n:Int)) _ _);rw[this,Va]
def GB{ts:List Str}:a_ 0 [HG rows a,.str w,.lst (ts.map .str)] 4=[a5 (.A',HG rows a),a5 (.loc,.str w),a5 (.any,.lst (ts.map .str)),b6]:=by simp[a_,HQ]
def uj(a:st[1]?=a5 (a5 (.loc,.str w)))(b:st[2]?=a5 (a5 (.any,.lst (ts.map .str)))):Run (ev Γ (.tup [.var 1,.bi .tuple [.var 2]])) st (.loc,Hx (w,ts)) st :=
 fN (ae (ah a) (ae (dn (ae (ba b) aj) trivial rfl) aj)) trivial (aJ bg (aJ (m9 (by simp[HQ,gq])) aX)) (by change 2<=cK;decide)
def qD(f:Oy Γ names)(g:lT Γ names)(h:P1 Γ names)(b:Bk names rows)(i:Bk names (rows++[r]))(j:dR names r)(l:∀s∈rows,keyOf s≠keyOf r)(m:a.length<=100)
  (hs:a_ 0 [HG rows a,.str r.1,w] 4=[a5 (.A',HG rows a),a5 (.loc,.str r.1),a5 (k,w),b6])
  (n:Run (ev Γ (.tup [.var 1,.bi .tuple [.var 2]])) [a5 (.A',HG rows a),a5 (.loc,.str r.1),a5 (k,w),b6] (.loc,Hx r) [a5 (.A',HG rows a),a5 (.loc,.str r.1),a5 (k,w),b6]) :
  eJ Γ cD 0 (cD.body.drop 1) [HG rows a,.str r.1,w]=a5 (.ok (.loc,.tup [Jv rows (rows++[r]),HG (rows++[r]) (a++[rows])])):=by
 have hsz:(2000:Nat)<=cK:=by decide
 have q:=b.ln;let c:Option (Kd×U):=a5 (.loc,.str r.1);let d:Option (Kd×U):=a5 (k,w);let e:Option (Kd×U):=a5 (.loc,Hx r);let S:au:=[a5 (.A',HG rows a),c,d,e]
 have t:=zx (Γ:=Γ) (st:=S) f g b j rfl rfl;rw[BS.mpr l]at t;have o:Run (HP Γ (.cmp .ge (.bi .len [.IF 0]) (.Ke "MOST_ROWS" (.int 60)))) S cb S:=bt (dn (ae (fj rfl) aj) trivial (oN (xs:=rows.map Hx))) m8 trivial (Gw (by simp;lia));show cC (p:=0) (st:=[a5 (.A',HG (rows++[r]) (a++[rows])),c,d,e]) ⟨rfl,by decide⟩ hs (ay n aV
  (cj t (λz=>by cases z) λ_=>cj o (λz=>by cases z) λ_=>bx (dq (st:=S) rfl (ae (bL (fj (u:=tb rows) (us:=Il a) rfl) (fN (us:=[r].map Hx) (ae (ah rfl) aj) trivial (aJ bg aX) (by change 1<=cK;lia)) trivial (qC (by rw[Lc];lia))) aj) trivial rfl (h rows (rows++[r]) a b i m) (.inr rfl)) cB)) rfl rfl
def BU(b:Oy Γ names)(c:lT Γ names)(d:P1 Γ names)(e:Bk names rows)(f:Bk names (rows++[r]))(g:dR names r)(h:∀s∈rows,keyOf s≠keyOf r)(i:a.length<=100):
  eJ Γ cD 0 (cD.body.drop 1) [HG rows a,.str r.1,.lst (r.2.map .str)]=a5 (.ok (.loc,.tup [Jv rows (rows++[r]),HG (rows++[r]) (a++[rows])])):=qD b c d e f g h i GB (uj rfl rfl)
def zy(b:Oy Γ names)(c:lT Γ names)(d:P1 Γ names)(e:Bk names rows)(f:Bk names (rows++[r]))(g:dR names r)(h:∀s∈rows,keyOf s≠keyOf r)(i:a.length<=100):
  eJ Γ cD 0 (cD.body.drop 1) [HG rows a,.str r.1,.tup (r.2.map .str)]=a5 (.ok (.loc,.tup [Jv rows (rows++[r]),HG (rows++[r]) (a++[rows])])) :=
 qD b c d e f g h i (k:=.loc) (by simp[a_,HQ,gq]) (fN (ae (ah rfl) (ae (dn (ae (ah rfl) aj) trivial rfl) aj)) trivial (aJ bg (aJ bg aX)) (by change 2<=cK;decide))
def vT(rows:List Row):eJ Γ cO 0 (cO.body.drop 1) [HG rows []]=a5 (.ok (.io,.tup [.str "NoDeed",HG rows []])):=by
 have t:Run (HP Γ (.JL 0)) [a5 (.A',HG rows [])] bD [a5 (.A',HG rows [])] :=
  zf (Γ:=Γ) (i:=0) (st:=[a5 (.A',HG rows [])]) (u:=tb rows) (us:=Il []) rfl (by rw[Ia];show lR 46 _)
 show cC (p:=0) (st:=[a5 (.A',HG rows [])]) ⟨rfl,by decide⟩ (by simp[a_];rfl) (cj t (λ_=>GA aw) λz=>by cases z) rfl rfl
def zA(m:Oy Γ names)(o:P1 Γ names)(d:Bk names (a++r::b))(e:Bk names (a++b))(hk:keyOf (r.1,ts)=keyOf r)(hl:ts.length<64)(q:∀x∈a,keyOf x≠keyOf r)(u:c.length<=100):
  eJ Γ eT 0 (eT.body.drop 1) [HG (a++r::b) c,.str r.1,.lst (ts.map .str)]=a5 (.ok (.loc,.tup [Jv (a++r::b) (a++b),HG (a++b) (c++[a++r::b])])):=by
 have hsz:(2000:Nat)<=cK:=by decide
 have A:=d.ln;have v:=e.ln;have⟨l,w⟩:=zw (r:=(r.1,ts)) (a:=a) (b:=b) (s:=r) (by rw[hk];show q) hk.symm;let f:Option (Kd×U):=a5 (.loc,.str r.1);let g:Option (Kd×U):=a5 (.any,.lst (ts.map .str));let h:Option (Kd×U):=a5 (.own,.lst ((a.length::l).map λn:Nat=>.int (n:Nat)));let S:au:=[a5 (.A',HG (a++r::b) c),f,g,h]
 have e1:=m (a++r::b) (r.1,ts) d hl;rw[w]at e1;have t:Run (HP Γ (.cmp .eq (.var 3) (.lst []))) S cb S:=by
  show bt (aC rfl) jv ⟨⟨.own,rfl,rfl⟩,trivial⟩ ?_;have y:Ia 50 (.lst ((a.length::l).map λn:Nat=>U.int (n:Nat)))=bD:=by rw[Ia];show gr (λn:Nat=>(n:Int)) _ _
  change(if _ then _ else _)=_;rw[ê ⟨y,rfl⟩];rfl
 have i:Run (ev Γ (.idx (.var 3) (.cst (.int 0)))) S (.loc,.int (a.length:Nat)) S:=bh (aC rfl) aw ⟨⟨.own,rfl,rfl⟩,trivial⟩ (aP (cQ (j:=0) rfl));have s1:Run (ev Γ (.K_ (.IF 0) [] [.idx (.var 3) (.cst (.int 0))])) S (.loc,.tup (a.map Hx)) S:=by
  have:=qB (k:=.loc) (rs:=a++r::b) (lo:=b6) (hi:=a5 (a.length:Int));rw[EL,List.take_left'  rfl]at this;show yH (fj rfl) yF (yG i) trivial this
 have s2:Run (ev Γ (.K_ (.IF 0) [.bin .add (.idx (.var 3) (.cst (.int 0))) (.cst (.int 1))] [])) S (.loc,.tup (b.map Hx)) S:=by
  have:=qB (k:=.loc) (rs:=a++r::b) (lo:=a5 ((a.length+1:Nat):Int)) (hi:=b6);rw[zv,show a++r::b=(a++[r])++b by simp,RP (by simp),show(a++[r])++b=a++r::b by simp]at this;show yH (fj rfl) (yG (bL i aw trivial d5)) yF trivial this
 show cC (p:=0) (st:=[a5 (.A',HG (a++b) (c++[a++r::b])),f,g,h]) ⟨rfl,by decide⟩ GB (ay (aU (ae (fj rfl) (ae (uj rfl rfl) aj)) trivial e1) bw
  (cj t (λz=>by cases z) λ_=>bx (dq (st:=S) rfl (ae (bL s1 s2 trivial (qC (by simp at v;lia))) aj) trivial rfl (o (a++r::b) (a++b) c d e u) (.inr rfl)) cB)) rfl rfl
end
end K
namespace TM
open PySem L2 H_
def iZ(h:Run (ev Γ e) st x st1)(a:Run (execs Γ ss) st1 f st2):Run (execs Γ (.exp e::ss)) st f st2:=et (aa h aL) a
def um(xs:List α)(x:α):Ic (xs++[x]) (-1)=a5 x:=by
 unfold Ic K4;rw[ë ⋯,ê (by simp;lia)];change(xs++[x])[_]?=_;rw[show(-1+((xs++[x]).length:Nat):Int).toNat=xs.length by simp;lia];simp
def pv(h:Ia 50 u=bD):bu .ne u u=a5 cb:=by
 simp only[bu];rw[ê ⟨h,h⟩,jq 50 u h];rfl
def zB(h:Ia 50 u=bD):bu .eq u u=a5 bD:=by
 simp only[bu];rw[ê ⟨h,h⟩,jq 50 u h]
end TM
namespace K
open PySem L2 TM H_ Od KL
section
abbrev lb(rs:List Row):U:=.lst (rs.map Hx)
abbrev IJ(p:List (List Row)):List U:=p.map lb
def fV(p:List (List Row))(a:List Row):IJ (p++[a])=IJ p++[lb a]:=by simp[IJ]
def i_(p:List (List Row)):(IJ p).length=p.length:=by simp[IJ]
def sC(n:Nat)(rs:List Row):Ia (n+3) (lb rs)=bD:=by
 unfold lb;rw[Ia];show pk n rs
structure Gd(names:List Str)(n:Nat)(rs:List Row):Prop where
 ok:∀r∈rs,dR names r
 ln:rs.length<=n
 ky:(rs.map keyOf).Nodup
def Gd.bk(h:Gd names n rows)(a:n<=50):Bk names rows:=⟨h.ok,uv h.ln a⟩
def Gd.up(h:Gd names n rows):Gd names (n+1) rows:=⟨h.ok,Nat.le_succ_of_le h.ln,h.ky⟩
def Gd.snoc(a:Gd names n rows)(c:dR names r)(hk:∀s∈rows,keyOf s≠keyOf r):Gd names (n+1) (rows++[r]):=by
 have:=a.ln;show⟨λx b=>?_,by simp;lia,?_⟩
 .rcases i9.mp b with h|h
  .show a.ok x h
  .rw[js.mp h];show c
 .rw[oD,ro];show⟨a.ky,by simp,λx b y d e=>?_⟩;have⟨s,hs,rfl⟩:=lx.mp b;have:y=keyOf r:=by simpa using d
  show hk s hs (e.trans this)
def Gd.at(i:Gd names n rows)(m:u∈rows):∃a b,rows=a++u::b/\(∀x∈a,keyOf x≠keyOf u)/\(∀x∈b,keyOf x≠keyOf u)/\rows.filter (λx=>cL (x≠u))=a++b/\Gd names n (a++b):=by
 have⟨a,b,g⟩:=List.append_of_mem m;have d:=i.ky;rw[g,oD,g8,ro]at d;have j:∀x∈a,keyOf x≠keyOf u:=λx c e=>d.2.2 _ (lx.mpr ⟨x,c,rfl⟩) _ kj e;have k:∀x∈b,keyOf x≠keyOf u:=λx c e=>(nC.mp d.2.1).1 (e▸lx.mpr ⟨x,c,rfl⟩);show⟨a,b,g,j,k,?_,?_⟩
 .have f:∀l:List Row,(∀x∈l,keyOf x≠keyOf u)->l.filter (λx=>cL (x≠u))=l:=λl hl=>YG.mpr λx c=>í λe=>hl x c (e▸rfl);rw[g,OO,OR (by simp),f a j,f b k]
 .have hl:=ï Jt g;have:=i.ln;simp at hl;show⟨λx c=>i.ok x (by rw[g];rcases i9.mp c with h|h<;>simp[h]),by simp;lia,?_⟩;rw[oD,ro];show⟨d.1,(nC.mp d.2.1).2,λx c y o=>d.2.2 x c y (i8 _ o)⟩
def BV:keyOf (r.1,r.2.reverse)=keyOf r:=by
 unfold keyOf;rw[jD (List.reverse_perm r.2)]
def zC(hk:k=.own\/k=.io)(h:st[i]?=a5 (a5 (k,.lst (us++[u])))):Run (ev Γ (.idx (.var i) (.neg (.cst (.int 1))))) st (.loc,u) st:=by
 rcases hk with rfl|rfl
 .show bh (d0 h) (Cp aw rfl) ⟨⟨.own,rfl,h⟩,trivial⟩ (aP (um us u))
 .show bh (d0 h) (Cp aw rfl) ⟨⟨.io,rfl,h⟩,trivial⟩ (aP (um us u))
def qE(g:∀s∈rows,s.2.length<=8)(hl:rows.length<=100)(i:r.2.length<=8):bS Γ dJ [lb rows,Hx r]=a5 (.ok (.loc,.bl (rows.any λs=>JA s r))):=by
 have hsz:(1000:Nat)<=cK:=by decide
 let a:Option (Kd×U):=a5 (.any,lb rows);let b:Option (Kd×U):=a5 (.loc,Hx r);have h:TM.start [lb rows,Hx r] 2=[a,b]:=by simp[TM.start,d4,lb,HQ,a,b]
 have c:∀(k:Kd) (x:Row),iC (k,Hx x) (.int 0)=a5 (kE k,.str x.1):=λ_ _=>rfl;have d:∀(k:Kd) (x:Row),iC (k,Hx x) (.int 1)=a5 (kE k,.tup (x.2.map .str)):=λ_ _=>rfl;have f:=jn (cond:=aN Γ [.and [.cmp .eq (.idx (.var 0) (.cst (.int 0))) (.idx (.var 2) (.cst (.int 0))),.cmp .eq (.bi .sorted [.idx (.var 0) (.cst (.int 1))]) (.bi .sorted [.idx (.var 2) (.cst (.int 1))])]]) (elt:=ev Γ (.var 0)) (src:=[(.any,lb rows)]) (st:=[a,b]) trivial .any (.inr rfl) Hx Hx (λs=>JA s r) .any rows [] (by simp;lia)
  (λs hs=>by
   have:=g s hs;have e:JA s r=(cL (s.1=r.1)&&cL (bF s.2=bF r.2)):=by
    unfold JA keyOf;rw[J7];simp
   rw[e];show⟨cT (iS (oX (bt (bh (ba rfl) aw trivial (c _ s)) (bh (ah rfl) aw trivial (c _ r)) trivial ue) λ_=>cT (bt (dn (ae (bh (ba rfl) aw trivial (d _ s)) aj) trivial (sorted_strs ⋯)) (dn (ae (bh (ah rfl) aw trivial (d _ r)) aj) trivial (sorted_strs ⋯)) trivial ql))),λ_=>⟨ba rfl,m9 (d4 s)⟩⟩)
 rw[my]at f;show aH rfl (.inr rfl) h (bx (fM (cv (rs:=[(.any,lb rows)]) (ae (ba rfl) aj) trivial (by change a5 _=_;rw[mh];rfl) f) jv trivial ?_) cB);change bu .ne (lb (rows.filter λs=>JA s r)) (.lst [])=_;rw[lb,fT (sC 47 _),Va];congr 1
 rw[J7];simp
end
section
abbrev GC(Γ:Tab)(names:List Str):Prop:=∀rs (x:Row) p,Bk names rs->Bk names (rs++[x])->dR names x->(∀s∈rs,keyOf s≠keyOf x)->p.length<=100->Γ "Shelf.put" [HG rs p,.str x.1,.lst (x.2.map .str)]=a5 (.ok (.loc,.tup [Jv rs (rs++[x]),HG (rs++[x]) (p++[rs])]))/\Γ "Shelf.put" [HG rs p,.str x.1,.tup (x.2.map .str)]=a5 (.ok (.loc,.tup [Jv rs (rs++[x]),HG (rs++[x]) (p++[rs])]))
abbrev GD(Γ:Tab)(names:List Str):Prop:=∀(a b:List Row) (x:Row) (ts:List Str) p,Bk names (a++x::b)->Bk names (a++b)->keyOf (x.1,ts)=keyOf x->ts.length<64->(∀y∈a,keyOf y≠keyOf x)->p.length<=100->Γ "Shelf.take" [HG (a++x::b) p,.str x.1,.lst (ts.map .str)]=a5 (.ok (.loc,.tup [Jv (a++x::b) (a++b),HG (a++b) (p++[a++x::b])]))
abbrev GF(Γ:Tab):Prop:=∀(rs:List Row) (x:Row),(∀s∈rs,s.2.length<=8)->rs.length<=100->x.2.length<=8->Γ "_law_stands" [lb rs,Hx x]=a5 (.ok (.loc,.bl (rs.any λs=>JA s x)))
def Cv(hi:st[i]?=a5 (a5 (.loc,lb rows)))(d:st[j]?=a5 (a5 (.loc,Hx u)))(hl:rows.length<=100)(e:rows.filter (λx=>cL (x≠u))=a++b):
  Run (ev Γ (.comp 1 cb .seq [.var i] [.cmp .ne (.var 0) (.var (j+1))] (.var 0))) st (.own,lb (a++b)) st:=by
 have hsz:(1000:Nat)<=cK:=by decide
 have c:=jn (cond:=aN Γ [.cmp .ne (.var 0) (.var (j+1))]) (elt:=ev Γ (.var 0)) (src:=[(.loc,lb rows)]) (st:=st) trivial .loc (.inl rfl) Hx Hx (λx=>cL (x≠u)) .loc rows [] (by simp;lia)
  (λx c=>⟨cT (bt (ah rfl) (ah (by simpa using d)) trivial (by
   change bu .ne (Hx x) (Hx u)=_;simp only[bu];rw[ê ⟨kb x,kb u⟩,nj];simp)),λ_=>⟨ah rfl,bg⟩⟩)
 rw[my,e]at c;show cv (rs:=[(.loc,lb rows)]) (ae (ah hi) aj) trivial (by change a5 _=_;rw[mh];rfl) c
def zD(st:au)(h:st[i]?=a5 (a5 (.loc,Hx r))):Run (aR Γ [.idx (.var i) (.cst (.int 0)),.bi .list [.idx (.var i) (.cst (.int 1))]]) st [(.loc,.str r.1),(.own,.lst (r.2.map .str))] st :=
 ae (bh (x:=(.loc,Hx r)) (ah h) aw trivial rfl) (ae (dn (ae (bh (x:=(.loc,Hx r)) (r:=(.loc,.tup (r.2.map .str))) (ah h) aw trivial rfl) aj) trivial rfl) aj)
def zE(a:Run (ev Γ e) st (.loc,lb rows) st)(b:st[i]?=a5 (a5 (.loc,Hx r)))(hl:rows.length<=100):Run (ev Γ (.bin .add e (.lst [.var i]))) st (.own,lb (rows++[r])) st:=by
 have hsz:(1000:Nat)<=cK:=by decide
 show bL a (dA (us:=[Hx r]) (ae (ah b) aj) trivial (aJ bg aX) (by change 1<=cK;lia)) trivial ?_;have:=yX (k:=.loc) (k':=.own) (xs:=rows.map Hx) (ys:=[Hx r]) (by simp;lia) rfl rfl;rw[show rows.map Hx++[Hx r]=(rows++[r]).map Hx by simp]at this;show this
def BW(h:keyOf s=keyOf x):s.1=x.1:=(Prod.mk.inj h).1
def vU(hS:GF Γ)(P2:GC Γ names)(P4:GD Γ names)(XZ:0<=w)(hn:n<=48)(hp:c.length<=98)(hA:∀x∈c++[rows],Gd names n x)(Y:dR names r):
  ∃(D:List (List Row)) (O:List Row),(∀x∈D++[O],Gd names (n+1) x)/\D.length<=c.length+2/\c.length<D.length/\(∃l,D++[O]=c++[rows]++l) /\
   mj Γ dU [4] (dU.body.drop 1) [HG rows c,Hx r,.int kd,.int w,.lst (IJ (c++[rows]))]=a5 (.ok (.loc,.tup [.HD,HG O D,.lst (IJ (D++[O]))])):=by
 have hsz:(2000:Nat)<=cK:=by decide
 have q:=hA rows (by simp);have TN:=q.ln;have h8:=Y.JY;have up:∀x∈c++[rows],Gd names (n+1) x:=λx o=>(hA x o).up;let o0:Option (Kd×U):=a5 (.A',HG rows c);let p:Option (Kd×U):=a5 (.loc,Hx r);let d:Option (Kd×U):=a5 (.loc,.int kd);let g:Option (Kd×U):=a5 (.loc,.int w);let v:Option (Kd×U):=a5 (.io,.lst (IJ c++[lb rows]));let m:Option (Kd×U):=a5 (.loc,lb rows);have HB:bT [4] [HG rows c,Hx r,.int kd,.int w,.lst (IJ c++[lb rows])] 7=[o0,p,d,g,v,b6,b6]:=by
  simp[bT,d4,HQ,o0,p,d,g,v]
 let S:au:=[o0,p,d,g,v,m,b6]
 have g5:Run (ev Γ (.idx (.var 4) (.neg (.cst (.int 1))))) [o0,p,d,g,v,b6,b6] (.loc,lb rows) [o0,p,d,g,v,b6,b6]:=zC (.inr rfl) rfl;have tn:Run (HP Γ (.cmp .ne (.var 5) (.lst []))) S (!rows.isEmpty) S:=by
  have e:=fT (us:=rows.map Hx) (sC 47 rows);rw[Va]at e;show bt (ah rfl) jv trivial e
 have H:Run (HP Γ (.and [.cmp .eq (.bin .mod (.var 2) (.cst (.int 3))) (.cst (.int 0)),.cmp .ne (.var 5) (.lst [])])) S ((kd % 3==0)&&!rows.isEmpty) S :=
  iS (oX (bt (bL (ah rfl) aw trivial (bM (by decide))) aw trivial (eu rfl)) λ_=>cT tn)
 cases Q:((kd % 3==0)&&!rows.isEmpty) with
 |true =>
  rw[Q]at H;rw[b7,rz,List.isEmpty_eq_false_iff]at Q;have NK:0<rows.length:=YE.mpr Q.2;have⟨u,B,A⟩:=yR (xs:=rows) (z:=w) (t:=(rows.length:Nat)) XZ ⋯ (Int.le_refl _);have⟨a,b,G,I,hb,NZ,y⟩:=q.at B;have X0:=(q.ok u B).JY;have e:=P4 a b u u.2.reverse c (by rw[<-G];show q.bk ⋯) (y.bk ⋯) BV (by rw[Sy];lia) I ⋯;rw[<-G]at e;show⟨c++[rows],a++b,λx o=>?_,by simp,by simp,⟨_,rfl⟩,?_⟩
  .rcases i9.mp o with h|h
   .show up x h
   .rw[js.mp h];show y.up
  let J:Option (Kd×U):=a5 (.loc,Hx u);let o1:Option (Kd×U):=a5 (.A',HG (a++b) (c++[rows]));have Jq:Ic (rows.map Hx) (w % (rows.length:Nat))=a5 (Hx u):=by
   unfold Ic at A ⊢;rw[dr];have⟨j,q1,q2⟩:=qs.mp A;rw[q1];change(rows.map Hx)[j]?=_;rw[pa,q2];rfl
  have L:Js .len [(Kd.loc,lb rows)]=a5 (.loc,.int (rows.length:Nat)):=by
   have:=gk (k:=.loc) (xs:=rows.map Hx);rw[dr]at this;show this
  have g1:Run (ev Γ (.idx (.var 5) (.bin .mod (.var 3) (.bi .len [.var 5])))) S (.loc,Hx u) S:=bh (x:=(.loc,lb rows)) (ah rfl) (bL (ah rfl) (dn (ae (ah rfl) aj) trivial L) trivial (bM ⋯)) trivial (aP Jq);have g7:Run (aR Γ [.idx (.var 1) (.cst (.int 0)),.Lv .JK [.idx (.var 1) (.cst (.int 1))]]) [o0,J,d,g,v,m,b6] [(.loc,.str u.1),(.own,.lst (u.2.reverse.map .str))] [o0,J,d,g,v,m,b6] :=
   ae (bh (x:=(.loc,Hx u)) (ah rfl) aw trivial rfl) (ae (Ci (ae (bh (x:=(.loc,Hx u)) (r:=(.loc,.tup (u.2.map .str))) (ah rfl) aw trivial rfl) aj) trivial (by rw[List.map_reverse];rfl)) aj)
  have N:Run (ev Γ (.IG "Shelf.take" "take" 0 [.idx (.var 1) (.cst (.int 0)),.Lv .JK [.idx (.var 1) (.cst (.int 1))]])) [o0,J,d,g,v,m,b6] (.loc,Jv rows (a++b)) [o1,J,d,g,v,m,b6]:=dq (u:=tb rows) (us:=Il c) rfl g7 trivial rfl e (.inr rfl);simp only[fV];show iW (st:=[o1,J,d,g,a5 (.io,.lst (IJ c++[lb rows]++[lb (a++b)])),m,b6]) ⟨rfl,by decide⟩ HB (ay g5 aV (cj H (λ_=>ay g1 aV (iZ N
   (jP (k:=.io) (k':=.io) rfl (Cv (i:=5) (j:=1) rfl rfl ⋯ NZ) jN rfl rfl (by rw[j0,i_];simp;lia) aQ))) λz=>by cases z)) rfl rfl rfl
 |false =>
  rw[Q]at H;have ts:Run (HP Γ (.call "_law_stands" [.var 5,.var 1])) S (rows.any λs=>JA s r) S:=oY (ae (ah rfl) (ae (ah rfl) aj)) trivial (hS rows r (λs hs=>(q.ok s hs).JY) ⋯ h8) rfl;cases hs:rows.any λs=>JA s r with
  |true =>
   rw[hs]at ts;have⟨u,B,A⟩:=Qe.mp hs;have A:keyOf u=keyOf r:=ð A;have⟨a,b,G,I,hb,NZ,y⟩:=q.at B;have X0:=(q.ok u B).JY;have P5:u.1=r.1:=BW A;have e:=P4 a b u r.2 c (by rw[<-G];show q.bk ⋯) (y.bk ⋯) (by rw[P5];show A.symm) ⋯ I ⋯;rw[<-G,P5]at e;have Vg:∀s∈a++b,keyOf s≠keyOf u:=λs h=>(i9.mp h).elim (I s) (hb s);have Vh:Gd names (n+1) (a++b++[u]):=y.snoc (q.ok u B) Vg;have e2:=(P2 (a++b) u (c++[rows]) (y.bk ⋯) (Vh.bk ⋯) (q.ok u B) Vg (by simp;lia)).2;show⟨c++[rows]++[a++b],a++b++[u],λx o=>?_,by simp,by simp,⟨_,Y4 _ _ _⟩,?_⟩
   .rcases i9.mp o with h|h
    .rcases i9.mp h with h|h
     .show up x h
     .rw[js.mp h];show y.up
    .rw[js.mp h];show Vh
   have Lb:rows.filter (λs=>[s].any λs=>JA s r)=u::[]:=by
    have f:∀l:List Row,(∀x∈l,keyOf x≠keyOf u)->l.filter (λs=>[s].any λs=>JA s r)=[]:=λl hl=>K2.mpr λx o z=>by
     simp[JA]at z;show hl x o (z.trans A.symm)
    rw[G,OO,OQ (by simp[JA,A]),f a I,f b hb];rfl
   let C:Option (Kd×U):=a5 (.loc,Hx u);let o1:Option (Kd×U):=a5 (.A',HG (a++b) (c++[rows]));let o2:Option (Kd×U):=a5 (.A',HG (a++b++[u]) (c++[rows]++[a++b]));let T:Option (Kd×U):=a5 (.io,.lst (IJ c++[lb rows]++[lb (a++b)]));have o:=jn (cond:=aN Γ [.call "_law_stands" [.lst [.var 0],.var 2]]) (elt:=ev Γ (.var 0)) (src:=[(.loc,lb rows)]) (st:=S) trivial .loc (.inl rfl) Hx Hx (λs=>[s].any λs=>JA s r) .loc rows [] (by simp;lia)
    (λx o=>⟨cT (oY (ae (dA (us:=[x].map Hx) (ae (ah rfl) aj) trivial (aJ bg aX) (by change 1<=cK;lia)) (ae (ah rfl) aj)) trivial (hS [x] r (λs h=>by rw[js.mp h];show(q.ok x o).JY) (by simp) h8) rfl),λ_=>⟨ah rfl,bg⟩⟩)
   rw[my,Lb]at o;have g6:Run (ev Γ (.idx (.comp 1 cb .seq [.var 5] [.call "_law_stands" [.lst [.var 0],.var 2]] (.var 0)) (.cst (.int 0)))) S (.loc,Hx u) S :=
    bh (cv (rs:=[(.loc,lb rows)]) (ae (ah rfl) aj) trivial (by change a5 _=_;rw[mh];rfl) o) aw trivial rfl
   have N:Run (ev Γ (.IG "Shelf.take" "take" 0 [.idx (.var 1) (.cst (.int 0)),.bi .list [.idx (.var 1) (.cst (.int 1))]])) [o0,p,d,g,v,m,C] (.loc,Jv rows (a++b)) [o1,p,d,g,v,m,C]:=dq (u:=tb rows) (us:=Il c) rfl (zD _ rfl) trivial rfl e (.inr rfl);have g9:Run (ev Γ (.IG "Shelf.put" "put" 0 [.idx (.var 6) (.cst (.int 0)),.idx (.var 6) (.cst (.int 1))])) [o1,p,d,g,T,m,C] (.loc,Jv (a++b) (a++b++[u])) [o2,p,d,g,T,m,C] :=
    dq (u:=tb (a++b)) (us:=Il (c++[rows])) (rs:=[(.loc,.str u.1),(.loc,.tup (u.2.map .str))]) rfl (ae (bh (x:=(.loc,Hx u)) (ah rfl) aw trivial rfl) (ae (bh (x:=(.loc,Hx u)) (ah rfl) aw trivial rfl) aj)) trivial rfl e2 (.inr rfl)
   have gp:Run (ev Γ (.bin .add (.idx (.var 4) (.neg (.cst (.int 1)))) (.lst [.var 6]))) [o2,p,d,g,T,m,C] (.own,lb (a++b++[u])) [o2,p,d,g,T,m,C] :=
    zE (rows:=a++b) (zC (.inr rfl) rfl) rfl (by have:=y.ln;lia)
   simp only[fV];show iW (st:=[o2,p,d,g,a5 (.io,.lst (IJ c++[lb rows]++[lb (a++b)]++[lb (a++b++[u])])),m,C]) ⟨rfl,by decide⟩ HB (ay g5 aV (cj H (λz=>by cases z) λ_=>cj ts (λ_=>ay g6 aV (iZ N
    (jP (k:=.io) (k':=.io) rfl (Cv (i:=5) (j:=6) rfl rfl ⋯ NZ) jN rfl rfl (by rw[j0,i_];simp;lia) (iZ g9
     (jP (k:=.io) (k':=.io) rfl gp jN rfl rfl (by rw[j0,j0,i_];simp;lia) aQ))))) λz=>by cases z)) rfl rfl rfl
  |false =>
   rw[hs]at ts;have hk:∀s∈rows,keyOf s≠keyOf r:=λs h e=>by
    have:=Y5.mp hs s h;show this (í e)
   have y:=q.snoc Y hk;have e:=(P2 rows r c (q.bk ⋯) (y.bk ⋯) Y hk ⋯).1;show⟨c++[rows],rows++[r],λx o=>?_,by simp,by simp,⟨_,rfl⟩,?_⟩
   .rcases i9.mp o with h|h
    .show up x h
    .rw[js.mp h];show y
   let o1:Option (Kd×U):=a5 (.A',HG (rows++[r]) (c++[rows]));have N:Run (ev Γ (.IG "Shelf.put" "put" 0 [.idx (.var 1) (.cst (.int 0)),.bi .list [.idx (.var 1) (.cst (.int 1))]])) S (.loc,Jv rows (rows++[r])) [o1,p,d,g,v,m,b6]:=dq (u:=tb rows) (us:=Il c) rfl (zD S rfl) trivial rfl e (.inr rfl);simp only[fV];show iW (st:=[o1,p,d,g,a5 (.io,.lst (IJ c++[lb rows]++[lb (rows++[r])])),m,b6]) ⟨rfl,by decide⟩ HB (ay g5 aV (cj H (λz=>by cases z) λ_=>cj ts (λz=>by cases z) λ_=>iZ N
    (jP (k:=.io) (k':=.io) rfl (zE (rows:=rows) (ah rfl) rfl ⋯) jN rfl rfl (by rw[j0,i_];simp;lia) aQ))) rfl rfl rfl
end
section
abbrev GG(Γ:Tab)(names:List Str):Prop:=∀rs:List Row,Bk names rs->(lw rs).length<64/\Γ "_law_learnt" [lb rs]=a5 (.ok (.own,.lst ((lw rs).map .str)))
structure SH(Γ:Tab)(names:List Str):Prop where
 bk:∀rs p,Γ "Shelf.book" [HG rs p]=a5 (.ok (.loc,.tup [tb rs,HG rs p]))
 ln:∀rs p,Bk names rs->Γ "Shelf.learnt_now" [HG rs p]=a5 (.ok (.own,.tup [.lst ((lw rs).map .str),HG rs p]))
 de:∀rs (p:List (List Row)),Γ "Shelf.deeds" [HG rs p]=a5 (.ok (.loc,.tup [.int (p.length:Nat),HG rs p]))
theorem sD(n:Nat):∀ss:List Str,b_ (n+1) (ss.map U.str)=bD
 |[]=>by simp[b_]
 |s::ss=>by rw[g8,b_,sD n ss];simp[Ia]
def EM(a b:List Row):Ia 50 (Jv a b)=bD:=by
 unfold Jv;simp[Ia,b_];show⟨sD 47 _,sD 47 _⟩
def zF(hk:k=.loc):Js .tuple [(k,lb rs)]=a5 (.loc,tb rs):=by subst hk;rfl
def zG(h:z=y):bu .eq (.int z) (.int y)=a5 bD:=eu (by simp[h])
def BX(h:z=y):bu .ne (.int z) (.int y)=a5 cb:=by subst h;show pv rfl
def GH{st:au}{i:Nat}{k:Kd}{a:List Row}(hk:k=.own\/k=.io)(h:st[i]?=a5 (a5 (k,.lst (IJ p++[lb a])))):Run (ev Γ (.bin .sub (.bi .len [.var i]) (.cst (.int 1)))) st (.loc,.int (p.length:Nat)) st:=by
 have e:(((IJ p++[lb a]).length:Nat):Int) - 1=(p.length:Nat):=by rw[j0,i_];simp
 have:=kr (k:=.loc) (k':=.loc) (i:=((IJ p++[lb a]).length:Nat)) (j:=1);rw[e]at this;rcases hk with rfl|rfl
 .show bL (dn (ae (d0 h) aj) ⟨⟨.own,rfl,h⟩,trivial⟩ gk) aw trivial this
 .show bL (dn (ae (d0 h) aj) ⟨⟨.io,rfl,h⟩,trivial⟩ gk) aw trivial this
def vV(m:GG Γ names)(h:SH Γ names)(s:∀rs f p,Bk names rs->Bk names f->Γ "Shelf.back" [HG rs (p++[f])]=a5 (.ok (.loc,.tup [Jv rs f,HG f p])))(n:Bk names rows)(l:Bk names a):
  mj Γ dW [1] (dW.body.drop 1) [HG rows (b++[a]),.lst (IJ (b++[a]++[rows]))]=a5 (.ok (.loc,.tup [.bl bD,HG a b,.lst (IJ (b++[a]))])):=by
 have hsz:(2000:Nat)<=cK:=by decide
 have⟨H,e1⟩:=m rows n;have⟨I,t⟩:=m a l;have v:=s rows a b n l;let o0:Option (Kd×U):=a5 (.A',HG rows (b++[a]));let o1:Option (Kd×U):=a5 (.A',HG a b);let g:Option (Kd×U):=a5 (.io,.lst (IJ b++[lb a]++[lb rows]));let k1:Option (Kd×U):=a5 (.io,.lst (IJ b++[lb a]));let c:Option (Kd×U):=a5 (.own,.lst ((lw rows).map .str));let d:Option (Kd×U):=a5 (.own,.lst ((lw a).map .str));let o:Option (Kd×U):=a5 (.own,.lst ((gl (lw rows) (lw a)).map .str));let w:Option (Kd×U):=a5 (.own,.lst ((gl (lw a) (lw rows)).map .str));let e:Option (Kd×U):=a5 (.loc,.lst ((gl (lw rows) (lw a)).map .str));let k5:Option (Kd×U):=a5 (.loc,.lst ((gl (lw a) (lw rows)).map .str));simp only[fV];have x:bT [1] [HG rows (b++[a]),.lst (IJ b++[lb a]++[lb rows])] 6=[o0,g,b6,b6,b6,b6]:=by simp[bT,o0,g]
 have r:=Gm (Γ:=Γ) (st:=[o0,g,b6,b6,b6,b6]) (i:=1) (k:=.io) (us:=IJ b++[lb a]++[lb rows]) (u:=lb rows) rfl rfl (by simp);rw[Yt]at r;have y:Run (ev Γ (.call "_law_learnt" [.pop 1])) [o0,g,b6,b6,b6,b6] (.own,.lst ((lw rows).map .str)) [o0,k1,b6,b6,b6,b6]:=aU (ae r aj) trivial e1;have A:Run (ev Γ (.call "_law_learnt" [.idx (.var 1) (.neg (.cst (.int 1)))])) [o0,k1,c,b6,b6,b6] (.own,.lst ((lw a).map .str)) [o0,k1,c,b6,b6,b6]:=aU (ae (zC (.inr rfl) rfl) aj) trivial t;have B:=BR (Γ:=Γ) (st:=[o0,k1,c,d,b6,b6]) (i:=3) (j:=2) (K:=lw rows) (L:=lw a) (k:=.own) rfl rfl (.inl rfl) ⋯;have C:=BR (Γ:=Γ) (st:=[o0,k1,c,d,o,b6]) (i:=2) (j:=3) (K:=lw a) (L:=lw rows) (k:=.own) rfl rfl (.inl rfl) ⋯;have D:Run (HP Γ (.cmp .ne (.IG "Shelf.back" "back" 0 []) (.tup [.var 4,.var 5]))) [o0,k1,c,d,o,w] cb [o1,k1,c,d,e,k5] :=
  bt (dq (rs:=[]) (u:=tb rows) (us:=Il (b++[a])) rfl aj trivial rfl v (.inr rfl)) (fN (us:=[.lst ((gl (lw rows) (lw a)).map .str),.lst ((gl (lw a) (lw rows)).map .str)]) (ae (aC rfl) (ae (aC rfl) aj)) ⟨⟨.own,rfl,rfl⟩,⟨.own,rfl,rfl⟩,trivial⟩ (aJ (qu rfl) (aJ (qu rfl) aX)) (by change 2<=cK;lia)) trivial (pv (EM rows a))
 have G:Run (HP Γ (.cmp .ne (.IG "Shelf.book" "book" 0 []) (.bi .tuple [.idx (.var 1) (.neg (.cst (.int 1)))]))) [o1,k1,c,d,e,k5] cb [o1,k1,c,d,e,k5] :=
  bt (dq (rs:=[]) (u:=tb a) (us:=Il b) rfl aj trivial rfl (h.bk a b) (.inr rfl)) (dn (ae (zC (.inr rfl) rfl) aj) trivial (zF rfl)) trivial (pv (pq 47 a))
 have r1:Run (ev Γ (.cmp .eq (.IG "Shelf.learnt_now" "learnt_now" 0 []) (.var 3))) [o1,k1,c,d,e,k5] (.loc,.bl bD) [o1,k1,c,d,e,k5] :=
  fM (dq (rs:=[]) (u:=tb a) (us:=Il b) rfl aj trivial rfl (h.ln a b l) (.inl rfl)) (aC rfl) ⟨⟨.own,rfl,rfl⟩,trivial⟩ (by change bu .eq (.lst _) (.lst _)=_;rw[ql];simp)
 have r2:Run (ev Γ (.cmp .eq (.IG "Shelf.deeds" "deeds" 0 []) (.bin .sub (.bi .len [.var 1]) (.cst (.int 1))))) [o1,k1,c,d,e,k5] (.loc,.bl bD) [o1,k1,c,d,e,k5] :=
  fM (dq (rs:=[]) (u:=tb a) (us:=Il b) rfl aj trivial rfl (h.de a b) (.inr rfl)) (GH (.inr rfl) rfl) trivial (zG rfl)
 show iW (st:=[o1,k1,c,d,e,k5]) ⟨rfl,by decide⟩ x (ay y bw (ay A bw (ay B bw (ay C bw (cj (yI (qe D (qd G))) (λz=>by cases z) λ_=>bx (t_ (oW (p:=bD) (q:=bD) r1 λ_=>oI r2)) cB))))) rfl rfl rfl
def EN:lw []=[]:=by
 have h:Kn [] ([]:List Str):=⟨.nil,(λ_ _ x a=>by cases a),(λr b=>by cases b)⟩
 rw[zo h];show ZL.mp (cG [])
def sE(b:SH Γ names)(c:Γ "Shelf.back" [HG [] []]=a5 (.ok (.io,.tup [.str "NoDeed",HG [] []]))):eJ Γ cE 0 (cE.body.drop 1) [HG [] []]=a5 (.ok (.loc,.tup [.bl bD,HG [] []])):=by
 let o:Option (Kd×U):=a5 (.A',HG [] []);let a:Option (Kd×U):=a5 (.loc,.bl bD);have d:a_ 0 [HG [] []] 2=[o,b6]:=by simp[a_,o]
 have hl:=b.ln [] [] ⟨by simp,by simp⟩;rw[EN]at hl;have b1:Run (ev Γ (.cmp .eq (.IG "Shelf.book" "book" 0 []) (.tup []))) [o,a] (.loc,.bl bD) [o,a]:=fM (dq (rs:=[]) (u:=tb []) (us:=Il []) rfl aj trivial rfl (b.bk [] []) (.inr rfl)) (fN (rs:=[]) (us:=[]) aj trivial aX (mx _)) trivial (zB (pq 47 []));have e:Run (ev Γ (.cmp .eq (.IG "Shelf.learnt_now" "learnt_now" 0 []) (.lst []))) [o,a] (.loc,.bl bD) [o,a]:=fM (dq (rs:=[]) (u:=tb []) (us:=Il []) rfl aj trivial rfl hl (.inl rfl)) jv trivial (zB (sC 47 []));have b3:Run (ev Γ (.cmp .eq (.IG "Shelf.deeds" "deeds" 0 []) (.cst (.int 0)))) [o,a] (.loc,.bl bD) [o,a]:=fM (dq (rs:=[]) (u:=tb []) (us:=Il []) rfl aj trivial rfl (b.de [] []) (.inr rfl)) aw trivial (zG rfl);show cC (p:=0) (st:=[o,a]) ⟨rfl,by decide⟩ d (ay aw aV (EJ (u:=tb []) (us:=Il []) rfl c (bx (t_ (oW (p:=bD) (q:=bD) (ah rfl) λ_=>oW (p:=bD) (q:=bD) b1 λ_=>oW (p:=bD) (q:=bD) e λ_=>oI b3)) cB))) rfl rfl
structure LH(Γ:Tab)(names:List Str):Prop where
 cell:lJ Γ
 drawn:iU Γ
 told:yU Γ
 sh:SH Γ names
 zJ:∀(n:Nat) (past:List (List Row)) (rows:List Row) (r:Row) (kd at_:Int),0<=at_->n<=48->past.length<=98->(∀x∈past++[rows],Gd names n x)->dR names r ->
  ∃(HI:List (List Row)) (Hw:List Row),(∀x∈HI++[Hw],Gd names (n+1) x)/\HI.length<=past.length+2/\past.length<HI.length/\(∃l,HI++[Hw]=past++[rows]++l) /\
   Γ "_law_deed" [HG rows past,Hx r,.int kd,.int at_,.lst (IJ (past++[rows]))]=a5 (.ok (.loc,.tup [.HD,HG Hw HI,.lst (IJ (HI++[Hw]))]))
 back:∀(past:List (List Row)) (a rows:List Row),Bk names rows->Bk names a->Γ "_law_back" [HG rows (past++[a]),.lst (IJ (past++[a]++[rows]))]=a5 (.ok (.loc,.tup [.bl bD,HG a past,.lst (IJ (past++[a]))]))
 LJ:Γ "_law_no_deed" [HG [] []]=a5 (.ok (.loc,.tup [.bl bD,HG [] []]))
abbrev LS(ns ds:List Int)(names:List Str)(rows:List Row)(a:List (List Row))(o5 o6 o7 o8:Option (Kd×U)):au :=
 [a5 (.any,.lst (ns.map .int)),a5 (.own,.lst (ds.map .int)),a5 (.own,.lst (names.map .str)),a5 (.A',HG rows a),a5 (.own,.lst (IJ (a++[rows]))),o5,o6,o7,o8]
variable{ns ds:List Int}{o5 o6 o7 o8:Option (Kd×U)}
def zH(H:LH Γ names)(d:Bk names rows)(e:Bk names a):Run (HP Γ (.not (.IE "_law_back" 3 [.var 4] [1]))) (LS ns ds names rows (b++[a]) o5 o6 o7 o8) cb (LS ns ds names a b o5 o6 o7 o8) :=
 Cj (c:=bD) (EI (rs:=[(.bor 4,.lst (IJ (b++[a]++[rows])))]) (u0:=tb rows) (us0:=Il (b++[a])) (u:=tb rows) (us:=Il (b++[a])) (ws:=[.lst (IJ (b++[a]))]) rfl (ae (aC rfl) aj) ⟨⟨.own,rfl,rfl⟩,trivial⟩ rfl (H.back b a rows d e) (.inr rfl) rfl rfl)
theorem nv(H:LH Γ names):∀(f:Nat) (b:List (List Row)) (rows:List Row),(∀x∈b++[rows],Bk names x)->b.length+1<=f->rows=(b++[rows]).headD []\/0<b.length ->
  Run (gB (HP Γ (.cmp .gt (.bi .len [.var 4]) (.cst (.int 1)))) (execs Γ [.ite (.not (.IE "_law_back" 3 [.var 4] [1])) [.ret (.cst (.bl cb))] []]) f) (LS ns ds names rows b o5 o6 o7 o8) .nx (LS ns ds names ((b++[rows]).headD []) [] o5 o6 o7 o8)
 |0,_,_,_,h,_=>by lia
 |f+1,b,rows,c,g,_=>by
  have d:Run (HP Γ (.cmp .gt (.bi .len [.var 4]) (.cst (.int 1)))) (LS ns ds names rows b o5 o6 o7 o8) (cL (0<b.length)) (LS ns ds names rows b o5 o6 o7 o8):=bt (dn (ae (aC rfl) aj) ⟨⟨.own,rfl,rfl⟩,trivial⟩ gk) aw trivial (jQ (by simp[IJ];lia));rcases XR b with rfl|⟨p,a,rfl⟩
  .show y7 d
  .rw[XY]at *;rw[í (by simp)]at d;have i:Run (execs Γ [.ite (.not (.IE "_law_back" 3 [.var 4] [1])) [.ret (.cst (.bl cb))] []]) (LS ns ds names rows (p++[a]) o5 o6 o7 o8) .nx (LS ns ds names a p o5 o6 o7 o8):=cj (zH H (c rows (by simp)) (c a (by simp))) (λz=>by cases z) λ_=>aQ;have j:=nv H f p a (λx k=>c x (LG _ k)) (by simp at g;lia) (by cases p<;>simp);have e:((p++[a]++[rows]).headD [])=(p++[a]).headD []:=by cases p<;>rfl
   rw[e];show y8 d i j
structure St(names:List Str)(n m:Nat)(past:List (List Row))(rows:List Row):Prop where
 gd:∀x∈past++[rows],Gd names n x
 ln:past.length<=m
 hd:(past++[rows]).headD []=[]
def zI(h:q++[b]=p++[a]++l):(q++[b]).headD []=(p++[a]).headD []:=by
 rw[h];cases p<;>rfl
def St.zJ(H:LH Γ names)(h:St names n m a rows)(e:n<=48)(w:m<=98)(f:0<=b)(g:dR names r)(i:Run (ev Γ e1) (LS ns ds names rows a o5 o6 o7 o8) (.loc,Hx r) (LS ns ds names rows a o5 o6 o7 o8))(j:Run (ev Γ k) (LS ns ds names rows a o5 o6 o7 o8) (.loc,.int kd) (LS ns ds names rows a o5 o6 o7 o8))(o:Run (ev Γ p) (LS ns ds names rows a o5 o6 o7 o8) (.loc,.int b) (LS ns ds names rows a o5 o6 o7 o8)):
  ∃c d,St names (n+1) (m+2) c d/\a.length<c.length/\Run (ev Γ (.IE "_law_deed" 3 [e1,k,p,.var 4] [4])) (LS ns ds names rows a o5 o6 o7 o8) (.loc,.HD) (LS ns ds names d c o5 o6 o7 o8):=by
 have:=h.ln;obtain⟨c,d,q,x,s,⟨l,t⟩,v⟩:=H.zJ n a rows r kd b f e ⋯ h.gd g;show⟨c,d,⟨q,⋯,(zI t).trans h.hd⟩,s,?_⟩;show EH (rs:=[(.loc,Hx r),(.loc,.int kd),(.loc,.int b),(.bor 4,.lst (IJ (a++[rows])))]) (u0:=tb rows) (us0:=Il a) (u:=tb rows) (us:=Il a) (ws:=[.lst (IJ (c++[d]))]) rfl (ae i (ae j (ae o (ae (aC rfl) aj)))) ⟨⟨.own,rfl,rfl⟩,trivial⟩ rfl v (.inr rfl) rfl rfl
def St.back(H:LH Γ names)(h:St names n m b rows)(c:n<=50)(f:0<b.length):∃d e,St names n m d e/\Run (HP Γ (.not (.IE "_law_back" 3 [.var 4] [1]))) (LS ns ds names rows b o5 o6 o7 o8) cb (LS ns ds names e d o5 o6 o7 o8):=by
 rcases XR b with rfl|⟨p,a,rfl⟩
 .simp at f
 .rw[XY]at *;have hl:=h.ln;simp at hl;show⟨p,a,⟨λx g=>h.gd x (LG _ g),⋯,?_⟩,zH H ((h.gd rows (by simp)).bk c) ((h.gd a (by simp)).bk c)⟩;have:=h.hd
  rwa [zI (p:=p) (a:=a) (l:=[rows]) rfl]at this
def zK(H:LH Γ names):Run (HP Γ (.or [.cmp .ne (.IG "Shelf.book" "book" 3 []) (.bi .tuple [.idx (.var 4) (.neg (.cst (.int 1)))]),.cmp .ne (.IG "Shelf.deeds" "deeds" 3 []) (.bin .sub (.bi .len [.var 4]) (.cst (.int 1)))])) (LS ns ds names rows a o5 o6 o7 o8) cb (LS ns ds names rows a o5 o6 o7 o8):=by
 have b:(LS ns ds names rows a o5 o6 o7 o8)[4]?=a5 (a5 (.own,.lst (IJ a++[lb rows]))):=by rw[<-fV];rfl
 show yI (qe (bt (dq (rs:=[]) (u:=tb rows) (us:=Il a) rfl aj trivial rfl (H.sh.bk rows a) (.inr rfl)) (dn (ae (zC (.inl rfl) b) aj) trivial (zF rfl)) trivial (pv (pq 47 rows)))
  (qd (bt (dq (rs:=[]) (u:=tb rows) (us:=Il a) rfl aj trivial rfl (H.sh.de rows a) (.inr rfl)) (GH (.inl rfl) b) trivial (BX rfl))))
abbrev fB:List TM.S:=match qA.body.getD 4 .bad with|.Ij _ _ _ _ b=>b|_=>[]
def St.up(h:St names n m a rows)(c:n<=d)(e:m<=f):St names d f a rows:=⟨λx b=>⟨(h.gd x b).ok,uv (h.gd x b).ln c,(h.gd x b).ky⟩,uv h.ln e,h.hd⟩
def zL(H:LH Γ names)(Q:0<names.length){k:Nat}(h:St names (2 * k) (4 * k) a rows)(hk:k<24):∃(A:List (List Row)) (B:List Row) (T Y q8:Option (Kd×U)),St names (2 * (k+1)) (4 * (k+1)) A B /\
  Run (execs Γ fB) (LS ns ds names rows a (a5 (.loc,.int (0+(k:Int)))) o6 o7 o8) .nx (LS ns ds names B A (a5 (.loc,.int (0+(k:Int)))) T Y q8):=by
 have hsz:(2000:Nat)<=cK:=by decide
 have⟨z,hz⟩:=H.cell ns (20+k) ⋯;have⟨es,d1,l,d3⟩:=H.drawn z 18 ⋯;have⟨told,C,D,G,t4⟩:=H.told es names ⋯ l Q;have m:(0:Int)<((names.map U.str).length:Nat):=by simp;lia
 have⟨nm,KZ,SF⟩:=oU (xs:=names) (t:=((names.map U.str).length:Nat)) (dB l 0) m (by simp);have⟨n,TR,TU⟩:=oU (xs:=names) (t:=((names.map U.str).length:Nat)) (dB l 14) m (by simp);have Jl:dR names (nm,told):=⟨KZ,C,D,G⟩
 have P7:dR names (n,told):=⟨TR,C,D,G⟩
 have ix:∀i:Nat,i<18->Ic (es.map U.int) (i:Int)=a5 (.int (dd es i)):=λi hi=>cF (i:=i) ⋯;let d:Option (Kd×U):=a5 (.loc,.int (0+(k:Int)));let b:Option (Kd×U):=a5 (.own,.lst (es.map .int));let c:Option (Kd×U):=a5 (.loc,Hx (nm,told));let f:Option (Kd×U):=a5 (.loc,Hx (n,told));have LU:Γ "_law_cell" [.lst (ns.map .int),.int (20+(0+(k:Int)))]=a5 (.ok (.loc,.int z)):=by
  rw[Uv,show(20+(k:Int))=((20+k:Nat):Int) by lia];show hz
 have q:Run (ev Γ (.call "_law_drawn" [.call "_law_cell" [.var 0,.bin .add (.cst (.int 20)) (.var 5)],.cst (.int 18)])) (LS ns ds names rows a d o6 o7 o8) (.own,.lst (es.map .int)) (LS ns ds names rows a d o6 o7 o8) :=
  aU (ae (aU (ae (ba rfl) (ae (bL aw (ah rfl) trivial d5) aj)) trivial LU) (ae aw aj)) trivial d3
 have g:∀(i:Nat) (rs:List Row) (p:List (List Row)) (r j:Option (Kd×U)),i<18->Run (ev Γ (.idx (.var 6) (.cst (.int i)))) (LS ns ds names rs p d b r j) (.loc,.int (dd es i)) (LS ns ds names rs p d b r j):=λi rs p r j hi=>bh (aC rfl) aw ⟨⟨.own,rfl,rfl⟩,trivial⟩ (aP (ix i hi));have s:Run (ev Γ (.tup [.idx (.var 2) (.bin .mod (.idx (.var 6) (.cst (.int 0))) (.bi .len [.var 2])),.call "_law_told" [.var 6,.var 2]])) (LS ns ds names rows a d b o7 o8) (.loc,Hx (nm,told)) (LS ns ds names rows a d b o7 o8) :=
  fN (ae (bh (aC rfl) (bL (g 0 _ _ _ _ ⋯) (dn (ae (aC rfl) aj) ⟨⟨.own,rfl,rfl⟩,trivial⟩ gk) trivial (bM m)) ⟨⟨.own,rfl,rfl⟩,trivial⟩ (aP SF)) (ae (aU (ae (aC rfl) (ae (aC rfl) aj)) ⟨⟨.own,rfl,rfl⟩,⟨.own,rfl,rfl⟩,trivial⟩ t4) aj)) trivial (aJ bg (aJ bg aX)) (by change 2<=cK;lia)
 have⟨u,r1,s1,Yq,v⟩:=h.zJ (Γ:=Γ) (ns:=ns) (ds:=ds) (o5:=d) (o6:=b) (o7:=c) (o8:=o8) (e1:=.var 7) H ⋯ ⋯ (dB l 12) Jl (ah rfl) (g 11 rows a c o8 ⋯) (g 12 rows a c o8 ⋯);have e:∀j,Run (HP Γ (.cmp .eq (.bin .mod (.idx (.var 6) (.cst (.int 13))) (.cst (.int 2))) (.cst (.int 1)))) (LS ns ds names r1 u d b c j) (dd es 13 % 2==1) (LS ns ds names r1 u d b c j):=λj=>bt (bL (g 13 _ _ _ _ ⋯) aw trivial (bM (by decide))) aw trivial (eu rfl);cases I:dd es 13 % 2==1 with
 |false =>
  have e:=e o8;rw[I]at e;show⟨u,r1,b,c,o8,s1.up ⋯ ⋯,ay q bw (ay s aV (iZ v (cj e (λz=>by cases z) λ_=>cj (zK H) (λz=>by cases z) λ_=>aQ)))⟩
 |true =>
  have e:=e o8;rw[I]at e;have⟨p2,r2,s2,J⟩:=s1.back (ns:=ns) (ds:=ds) (o5:=d) (o6:=b) (o7:=c) (o8:=o8) H ⋯ ⋯;have L:Run (ev Γ (.tup [.idx (.var 2) (.bin .mod (.idx (.var 6) (.cst (.int 14))) (.bi .len [.var 2])),.idx (.var 7) (.cst (.int 1))])) (LS ns ds names r2 p2 d b c o8) (.loc,Hx (n,told)) (LS ns ds names r2 p2 d b c o8) :=
   fN (us:=[.str n,.tup (told.map .str)]) (ae (bh (aC rfl) (bL (g 14 _ _ _ _ ⋯) (dn (ae (aC rfl) aj) ⟨⟨.own,rfl,rfl⟩,trivial⟩ gk) trivial (bM m)) ⟨⟨.own,rfl,rfl⟩,trivial⟩ (aP TU)) (ae (bh (x:=(.loc,Hx (nm,told))) (ah rfl) aw trivial rfl) aj)) trivial (aJ bg (aJ bg aX)) (by change 2<=cK;lia)
  have⟨w,y,s3,Yr,N⟩:=s2.zJ (Γ:=Γ) (ns:=ns) (ds:=ds) (o5:=d) (o6:=b) (o7:=c) (o8:=f) (e1:=.var 8) H ⋯ ⋯ (dB l 16) P7 (ah rfl) (g 15 r2 p2 c f ⋯) (g 16 r2 p2 c f ⋯);have o:Run (HP Γ (.cmp .eq (.bin .mod (.idx (.var 6) (.cst (.int 17))) (.cst (.int 3))) (.cst (.int 1)))) (LS ns ds names y w d b c f) (dd es 17 % 3==1) (LS ns ds names y w d b c f):=bt (bL (g 17 _ _ _ _ ⋯) aw trivial (bM (by decide))) aw trivial (eu rfl);cases O:dd es 17 % 3==1 with
  |false =>
   rw[O]at o;show⟨w,y,b,c,f,s3.up ⋯ ⋯,ay q bw (ay s aV (iZ v (cj e (λ_=>cj J (λz=>by cases z) λ_=>ay L aV (iZ N (cj (iS (sd o)) (λz=>by cases z) λ_=>cj (zK H) (λz=>by cases z) λ_=>aQ))) (λz=>by cases z))))⟩
  |true =>
   rw[O]at o;have⟨p4,r4,s4,c4⟩:=s3.back (ns:=ns) (ds:=ds) (o5:=d) (o6:=b) (o7:=c) (o8:=f) H ⋯ ⋯;show⟨p4,r4,b,c,f,s4.up ⋯ ⋯,ay q bw (ay s aV (iZ v (cj e (λ_=>cj J (λz=>by cases z) λ_=>ay L aV (iZ N (cj (iS (oJ o (cT c4))) (λz=>by cases z) λ_=>cj (zK H) (λz=>by cases z) λ_=>aQ))) (λz=>by cases z))))⟩
def BY(H:LH Γ names)(s:0<names.length)(Y:2<=ds.length)(v:∀d∈ds,0<=d)(w:Γ "_law_cell" [.lst (ns.map .int),.int 0]=a5 (.ok (.loc,.int z)))(l:Γ "_law_drawn" [.int z,.int 4]=a5 (.ok (.own,.lst (ds.map .int))))
  (y:Γ "_law_names" [.lst (ns.map .int),.int 1,.int (1+dd ds 0 % 14)]=a5 (.ok (.own,.lst (names.map .str)))):bS Γ qA [.lst (ns.map .int)]=a5 (.ok (.loc,.bl bD)):=by
 have hsz:(2000:Nat)<=cK:=by decide
 have A:Ic (ds.map U.int) 0=a5 (.int (dd ds 0)):=cF (i:=0) ⋯;have B:Ic (ds.map U.int) 1=a5 (.int (dd ds 1)):=cF (i:=1) ⋯;have n1:=dB v 1;have C:TM.start [.lst (ns.map .int)] 9=[a5 (.any,.lst (ns.map .int)),b6,b6,b6,b6,b6,b6,b6,b6]:=rfl;let m:Nat:=(dd ds 1 % 25).toNat;have hm:m<=24:=by change(dd ds 1 % 25).toNat<=24;lia
 obtain⟨st',D,_,b,rows,j,f,g,h,e,hs⟩:=ff (t:=cb) (is:=[5]) (body:=execs Γ fB) (rs:=[(.loc,.int (dd ds 1 % 25))]) (λi:Nat=>(Kd.loc,U.int (0+(i:Int))))
  (λd r st=>d++r=il m/\∃b rows j f g h,st=LS ns ds names rows b j f g h/\St names (2 * d.length) (4 * d.length) b rows) (λ_ _ _ _=>trivial) (λd k r st G=>by
   have⟨l,b,rows,j,f,g,h,e,hs⟩:=G;subst e;have I:k=d.length/\d.length<m:=by
    have hl:=ï Jt l;simp at hl;have:=ï (·[d.length]?) l;simp[Sz (show d.length<m by lia)]at this;show⟨this,⋯⟩
   have⟨rfl,Ys⟩:=I;have⟨J,L,r6,r7,r8,a,c⟩:=zL (ns:=ns) (ds:=ds) (o6:=f) (o7:=g) (o8:=h) H s (k:=d.length) hs ⋯;show⟨_,_,fP aV,c,by rw[<-l];simp,J,L,_,_,_,_,rfl,by rw[j0,Lc];show a⟩) (il m) [] (LS ns ds names [] [] b6 b6 b6 b6) ⟨rfl,[],[],_,_,_,_,rfl,⟨λx o=>by rw[js.mp o];show⟨by simp,by simp,by simp⟩,by simp,rfl⟩⟩
 subst e;rw[my,T7]at hs;have hp:=hs.ln;have p:=nv (ns:=ns) (ds:=ds) (o5:=j) (o6:=f) (o7:=g) (o8:=h) H fuel b rows (λx o=>(hs.gd x o).bk ⋯) (by unfold fuel;lia) (by cases b<;>simp);rw[hs.hd]at p;let n:Option (Kd×U):=a5 (.any,.lst (ns.map .int));let q:Option (Kd×U):=a5 (.own,.lst (ds.map .int));let n2:Option (Kd×U):=a5 (.own,.lst (names.map .str));let S:au:=LS ns ds names [] [] b6 b6 b6 b6;have N:Run (ev Γ (.call "_law_drawn" [.call "_law_cell" [.var 0,.cst (.int 0)],.cst (.int 4)])) [n,b6,b6,b6,b6,b6,b6,b6,b6] (.own,.lst (ds.map .int)) [n,b6,b6,b6,b6,b6,b6,b6,b6] :=
  aU (ae (aU (ae (ba rfl) (ae aw aj)) trivial w) (ae aw aj)) trivial l
 have O:Run (ev Γ (.call "_law_names" [.var 0,.cst (.int 1),.bin .add (.cst (.int 1)) (.bin .mod (.idx (.var 1) (.cst (.int 0))) (.cst (.int 14)))])) [n,q,b6,b6,b6,b6,b6,b6,b6] (.own,.lst (names.map .str)) [n,q,b6,b6,b6,b6,b6,b6,b6] :=
  aU (ae (ba rfl) (ae aw (ae (bL aw (bL (bh (aC rfl) aw ⟨⟨.own,rfl,rfl⟩,trivial⟩ (aP A)) aw trivial (bM (by decide))) trivial d5) aj))) trivial y
 have Q:∀st:au,Run (ev Γ (.lst [.lst []])) st (.own,.lst (IJ ([]++[[]]))) st:=λst=>dA (ae jv aj) trivial (aJ jN aX) (by change 1<=cK;lia);have T:Run (ev Γ (.bin .mod (.idx (.var 1) (.cst (.int 1))) (.cst (.int 25)))) S (.loc,.int (dd ds 1 % 25)) S:=bL (bh (aC rfl) aw ⟨⟨.own,rfl,rfl⟩,trivial⟩ (aP B)) aw trivial (bM (by decide));have ge:Run (ev Γ (.JM "_law_no_deed" 3 [] [])) (LS ns ds names [] [] j f g h) (.loc,.bl bD) (LS ns ds names [] [] j f g h) :=
  EC (es:=[]) (r1:=[]) (r2:=[]) (u0:=tb []) (us0:=Il []) (u:=tb []) (us:=Il []) rfl aj aj trivial rfl H.LJ (.inr rfl) (mx _)
 show aH rfl (.inr rfl) C (ay N bw (ay O bw (ED (ay (Q _) bw
  (fO (rs:=[(.loc,.int (dd ds 1 % 25))]) (ae T aj) trivial (oQ ⋯ ⋯) rfl D (y9 p (bx ge cB)))))))
end
def makers:yW prog:=⟨rfl,rfl,rfl,rfl,rfl,rfl⟩
def X3:Vf prog:=⟨rfl,rfl,rfl,rfl,rfl⟩
section
def Vj(n:Nat)(d:names.length<=24):TK (HY prog (n+5)) "learnt" names:=λrs h=>by
 have hl:=h.ln;have⟨f,a,b,c⟩:=BL X3 n h.ok d ⋯;have e:=zo (Kn.of a);rw[e];show⟨?_,(aD (show Ie prog "learnt" KL.eR from rfl) _).trans (KL.hV ⋯ c)⟩;rw[(cG _).length_eq,dr];lia
def Hu(n:Nat)(i:names.length<=24):GG (HY prog (n+1)) names:=λrs h=>by
 have hl:=h.ln;have⟨L,a,b,c,d⟩:=K.hV (Γ:=HY prog n) (λr f=>(h.ok r f).JY) ⋯ (λr f=>(h.ok r f).word) (show names.length<64 by lia);have e:=zo ⟨a,b,c⟩;rw[e];show⟨?_,(aD (show Ie prog "_law_learnt" dI from rfl) _).trans d⟩;rw[(cG _).length_eq];have:=lL a (L:=names) λx g=>b (·∈names) (λr f _=>(h.ok r f).word) x g;lia
def Hv(n:Nat)(c:names.length<=24):∀a b,Bk names a->Bk names b->HY prog (n+6) "gained_and_lost" [tb a,tb b]=a5 (.ok (.loc,Jv a b)):=λa b d e =>
 (aD (show Ie prog "gained_and_lost" bZ from rfl) _).trans (EK (Vj n c) d e)
def Vk(n:Nat)(a:names.length<=24):TL (HY prog (n+7)) names:=λrs b p h h'=>(bH (show Ie prog "Shelf.turn_to" cW from rfl) _ rfl).trans (zp (Hv n a) h h')
def TV(n:Nat)(a:names.length<=24):P1 (HY prog (n+8)) names:=λrs c p h h' b=>(bH (show Ie prog "Shelf.do_deed" cV from rfl) _ rfl).trans (zq (Vk n a) h h' b)
def TX(n:Nat):Oy (HY prog (n+3)) names:=λrs r h a=>(aD (show Ie prog "places_alike" cU from rfl) _).trans (K.hU (λr s b c=>(aD (show Ie prog "alike" iY from rfl) _).trans (vR (λr h=>(aD (show Ie prog "in_one_order" cm from rfl) _).trans (BP h)) b c)) h a)
def zM(d:Nat):ph (HY prog (d+2)):=λx h=>(aD (show Ie prog "is_word" gv from rfl) _).trans (zj (λx c=>(aD (show Ie prog "is_stem" gu from rfl) _).trans (zh c)) (λk a b=>(aD (show Ie prog "is_later_sense" cq from rfl) _).trans (vO a b))
 (λx y hl e=>(aD (show Ie prog "stem_of" ju from rfl) _).trans (zi rfl hl (by rw[<-e];rfl))) (λx y hl e=>(aD (show Ie prog "number_of" fU from rfl) _).trans (zi rfl hl (by rw[<-e];rfl))) h)
def rws(n:Nat)(a:∀x∈names,bP x.cps.toList):lT (HY prog (n+3)) names:=λr h=>(aD (show Ie prog "is_row" iX from rfl) _).trans (BO (zM n) h.JY h.once (a _ h.word) λx b=>a x (h.told x b))
end
def EO(n:Nat)(a:names.length<=24):SH (HY prog (n+6)) names where
 bk:=λrs p=>(bH (show Ie prog "Shelf.book" eS from rfl) _ rfl).trans zr
 ln:=λrs p h=>(bH (show Ie prog "Shelf.learnt_now" bQ from rfl) _ rfl).trans (zt (Vj n a) h)
 de:=λrs p=>(bH (show Ie prog "Shelf.deeds" dS from rfl) _ rfl).trans vQ
def lh(i:names.length<=24)(k:∀x∈names,bP x.cps.toList):LH (HY prog 10) names where
 cell:=makers.lK
 drawn:=makers.drawnOk
 told:=TM.Er makers.told
 sh:=EO 4 i
 zJ:=λn j rows r kd l m o q s t=>by
  have⟨u,v,w,z,A,B,C⟩:=vU (Γ:=HY prog 9) (kd:=kd) (λrs x a b c=>(aD (show Ie prog "_law_stands" dJ from rfl) _).trans (qE a b c))
   (λrs x p a b c d e=>⟨(bH (show Ie prog "Shelf.put" cD from rfl) _ rfl).trans (BU (TX 5) (rws 5 k) (TV 0 i) a b c d e),(bH (show Ie prog "Shelf.put" cD from rfl) _ rfl).trans (zy (TX 5) (rws 5 k) (TV 0 i) a b c d e)⟩)
   (λa b x ts p c d e f g h=>(bH (show Ie prog "Shelf.take" eT from rfl) _ rfl).trans (zA (TX 5) (TV 0 i) c d e f g h)) m o q s t
  show⟨u,v,w,z,A,B,(m_ (show Ie prog "_law_deed" dU from rfl) _ rfl).trans C⟩
 back:=λj a rows h h'=>(m_ (show Ie prog "_law_back" dW from rfl) _ rfl).trans (vV (Hu 8 i) (EO 3 i) (λrs D p x y=>(bH (show Ie prog "Shelf.back" cO from rfl) _ rfl).trans (zu (Vk 1 i) x y)) h h')
 LJ:=(bH (show Ie prog "_law_no_deed" cE from rfl) _ rfl).trans (sE (EO 3 i) ((bH (show Ie prog "Shelf.back" cO from rfl) _ rfl).trans (vT [])))
def pure(ns:List Int)(e:ns.length<=63):HY prog 11 "law" [yy ns]=a5 (.ok (.loc,.bl bD)):=by
 have⟨z,hz⟩:=(makers.lK:lJ (HY prog 10)) ns 0 ⋯;have⟨ds,f,a,c⟩:=(makers.drawnOk:iU (HY prog 10)) z 4 ⋯;have g:=dB a 0;have⟨names,h,i,d,b⟩:=(makers.namesOk:oV (HY prog 10)) ns 1 (1+dd ds 0 % 14).toNat ⋯ ⋯;rw[SS ⋯]at b;show(aD (show Ie prog "law" qA from rfl) _).trans (BY (lh ⋯ d) ⋯ ⋯ a hz c b)
end K
namespace K
open PySem L2 TM PySem.W PyProof.Rows
abbrev m0:dV:=.str "primer.words" 271
abbrev m1:dV:=.str "primer.books" 314
abbrev m2:dV:=.str "primer.learning" 351
abbrev m3:dV:=.str "primer.shelf" 392
abbrev m4:dV:=.str "law_primer_k54_taken_back" 500
abbrev ml:Me:=⟨qA,"law",45,["_law_script","_law_drawn_here","_law_names_here","_law_shelf","_law_states","_law_k","_law_some","_law_row","_law_other"],322,321,m4,co "law" 592 228 1 316 317 (.ref 318) (.ref 319) (.ref 320) 604 605 181⟩
abbrev ms:List Me:=[⟨gu,"is_stem",11,["text"],80,79,m0,co "is_stem" 281 17 1 76 77 .none .none (.ref 78) 284 285 181⟩,
 ⟨cq,"is_later_sense",12,["text"],85,84,m0,co "is_later_sense" 287 21 1 81 82 .none .none (.ref 83) 290 291 181⟩,
 ⟨gv,"is_word",13,["text"],92,91,m0,co "is_word" 293 23 1 86 87 (.ref 88) (.ref 89) (.ref 90) 297 298 181⟩,
 ⟨ju,"stem_of",14,["word"],99,98,m0,co "stem_of" 300 27 1 93 94 (.ref 95) (.ref 96) (.ref 97) 304 305 181⟩,
 ⟨fU,"number_of",15,["word"],106,105,m0,co "number_of" 307 29 1 100 101 (.ref 102) (.ref 103) (.ref 104) 311 312 181⟩,
 ⟨iX,"is_row",19,["row","told"],111,110,m1,co "is_row" 320 34 1 107 108 .none .none (.ref 109) 323 324 181⟩,
 ⟨cm,"in_one_order",20,["row"],118,117,m1,co "in_one_order" 326 39 1 112 113 (.ref 114) (.ref 115) (.ref 116) 330 331 181⟩,
 ⟨iY,"alike",21,["row","other"],125,124,m1,co "alike" 333 41 2 119 120 (.ref 121) (.ref 122) (.ref 123) 338 339 181⟩,
 ⟨da,"gathered",22,["pairs","found","key","value"],132,131,m1,co "gathered" 341 43 1 126 127 (.ref 128) (.ref 129) (.ref 130) 348 349 181⟩,
 ⟨bb,"places_that_tell",24,["book","pairs","place","row"],137,136,m2,co "places_that_tell" 353 51 1 133 134 .none .none (.ref 135) 356 357 181⟩,
 ⟨cN,"new_steps",25,["book","places","known","steps","place","word"],144,143,m2,co "new_steps" 359 56 3 138 139 (.ref 140) (.ref 141) (.ref 142) 368 369 181⟩,
 ⟨bj,"steps_in_rounds",26,["book","tellers","missing","known","found","ready","steps","word","place","teller"],149,148,m2,co "steps_in_rounds" 371 63 1 145 146 .none .none (.ref 147) 374 375 181⟩,
 ⟨fg,"order",27,["book","found","steps"],156,155,m2,co "order" 377 81 1 150 151 (.ref 152) (.ref 153) (.ref 154) 383 384 181⟩,
 ⟨eR,"learnt",28,["book"],161,160,m2,co "learnt" 386 86 1 157 158 .none .none (.ref 159) 389 390 181⟩,
 ⟨cU,"places_alike",30,["book","row"],166,165,m3,co "places_alike" 394 89 2 162 163 .none .none (.ref 164) 397 398 181⟩,
 ⟨bZ,"gained_and_lost",31,["ahead","behind","known","known_then","gained","lost"],171,170,m3,co "gained_and_lost" 400 91 2 167 168 .none .none (.ref 169) 403 404 181⟩,
 ⟨zg,"__init__",33000,["self"],185,184,m3,L4 "__init__" "Shelf.__init__" 418 99 1 179 180 (.ref 181) (.ref 182) (.ref 183) 422 423 181⟩,
 ⟨eS,"book",33001,["self"],192,191,m3,L4 "book" "Shelf.book" 425 103 1 186 187 (.ref 188) (.ref 189) (.ref 190) 429 430 181⟩,
 ⟨bQ,"learnt_now",33002,["self"],199,198,m3,L4 "learnt_now" "Shelf.learnt_now" 432 106 1 193 194 (.ref 195) (.ref 196) (.ref 197) 436 437 181⟩,
 ⟨dS,"deeds",33003,["self"],206,205,m3,L4 "deeds" "Shelf.deeds" 439 109 1 200 201 (.ref 202) (.ref 203) (.ref 204) 443 444 181⟩,
 ⟨cD,"put",33004,["self","word","told","row"],213,212,m3,L4 "put" "Shelf.put" 446 112 3 207 208 (.ref 209) (.ref 210) (.ref 211) 453 454 181⟩,
 ⟨eT,"take",33005,["self","word","told","places"],220,219,m3,L4 "take" "Shelf.take" 456 120 3 214 215 (.ref 216) (.ref 217) (.ref 218) 463 464 181⟩,
 ⟨cO,"back",33006,["self"],227,226,m3,L4 "back" "Shelf.back" 466 126 1 221 222 (.ref 223) (.ref 224) (.ref 225) 470 471 181⟩,
 ⟨cV,"do_deed",33007,["self","rows"],234,233,m3,L4 "do_deed" "Shelf.do_deed" 473 131 2 228 229 (.ref 230) (.ref 231) (.ref 232) 478 479 181⟩,
 ⟨cW,"turn_to",33008,["self","rows","changes"],241,240,m3,L4 "turn_to" "Shelf.turn_to" 481 135 2 235 236 (.ref 237) (.ref 238) (.ref 239) 487 488 181⟩,
 ⟨nu,"_law_mix",34,["_law_cell_here","_law_k","_law_by"],255,254,m4,co "_law_mix" 502 140 2 249 250 (.ref 251) (.ref 252) (.ref 253) 508 509 181⟩,
 ⟨lO,"_law_cell",35,["_law_script","_law_k","_law_seed"],262,261,m4,co "_law_cell" 511 143 2 256 257 (.ref 258) (.ref 259) (.ref 260) 517 518 181⟩,
 ⟨jU,"_law_drawn",36,["_law_cell_here","_law_many","_law_found","_law_left","_law_k"],269,268,m4,co "_law_drawn" 520 150 2 263 264 (.ref 265) (.ref 266) (.ref 267) 528 529 181⟩,
 ⟨lP,"_law_name",37,["_law_drawn_here","_law_names_here","_law_letters","_law_name_here","_law_stem","_law_spare"],274,273,m4,co "_law_name" 531 160 2 270 271 .none .none (.ref 272) 534 535 181⟩,
 ⟨jV,"_law_names",38,["_law_script","_law_base","_law_many","_law_names_here","_law_k"],281,280,m4,co "_law_names" 537 171 3 275 276 (.ref 277) (.ref 278) (.ref 279) 545 546 181⟩,
 ⟨lQ,"_law_told",39,["_law_drawn_here","_law_names_here","_law_top","_law_told_here","_law_k","_law_one"],288,287,m4,co "_law_told" 548 176 2 282 283 (.ref 284) (.ref 285) (.ref 286) 557 558 181⟩,
 ⟨dI,"_law_learnt",40,["_law_rows","_law_known","_law_grown","_law_word","_law_told_here"],293,292,m4,co "_law_learnt" 560 186 1 289 290 .none .none (.ref 291) 563 564 181⟩,
 ⟨dJ,"_law_stands",41,["_law_rows","_law_row"],298,297,m4,co "_law_stands" 566 196 2 294 295 .none .none (.ref 296) 569 570 181⟩,
 ⟨dU,"_law_deed",42,["_law_shelf","_law_row","_law_kind","_law_at","_law_states","_law_rows","_law_there"],303,302,m4,co "_law_deed" 572 198 5 299 300 .none .none (.ref 301) 575 576 181⟩,
 ⟨dW,"_law_back",43,["_law_shelf","_law_states","_law_ahead","_law_behind","_law_gained","_law_lost"],308,307,m4,co "_law_back" 578 213 2 304 305 .none .none (.ref 306) 581 582 181⟩,
 ⟨cE,"_law_no_deed",44,["_law_shelf","_law_refused"],315,314,m4,co "_law_no_deed" 584 221 1 309 310 (.ref 311) (.ref 312) (.ref 313) 589 590 181⟩,
 ml]
abbrev gg(P:Tb):Obj:=⟨.type "dict",b6,.dict #[ge P "__name__" 165 (.str "law_primer_k54_taken_back" 500),ge P "__doc__" 166 .none,ge P "__package__" 167 .none,ge P "__loader__" 168 (.builtin "__main__.__loader__#opaque"),ge P "__spec__" 169 .none,ge P "__annotations__" 170 (.ref 6),ge P "__builtins__" 171 (.ref 4),ge P "__file__" 173 (.str "/claim/cut.py" 172),ge P "__cached__" 174 .none,ge P "PrimerError" 206 (.ref 24),ge P "Unfit" 222 (.ref 37),ge P "TooMany" 238 (.ref 49),ge P "NoRow" 254 (.ref 61),ge P "NoDeed" 270 (.ref 73),ge P "LETTERS" 274 (.str "abcdefghijklmnopqrstuvwxyz" 273),ge P "LONGEST_STEM" 276 (.int 8 275),ge P "FIRST_SENSE" 278 (.int 1 277),ge P "LAST_SENSE" 280 (.int 99 279),ge P "is_stem" 286 (.ref 80),ge P "is_later_sense" 292 (.ref 85),ge P "is_word" 299 (.ref 92),ge P "stem_of" 306 (.ref 99),ge P "number_of" 313 (.ref 106),ge P "MOST_TOLD" 317 (.int 8 316),ge P "MOST_ROWS" 319 (.int 60 318),ge P "is_row" 325 (.ref 111),ge P "in_one_order" 332 (.ref 118),ge P "alike" 340 (.ref 125),ge P "gathered" 350 (.ref 132),ge P "places_that_tell" 358 (.ref 137),ge P "new_steps" 370 (.ref 144),ge P "steps_in_rounds" 376 (.ref 149),ge P "order" 385 (.ref 156),ge P "learnt" 391 (.ref 161),ge P "places_alike" 399 (.ref 166),ge P "gained_and_lost" 405 (.ref 171),ge P "Shelf" 499 (.ref 244),ge P "_law_mix" 510 (.ref 255),ge P "_law_cell" 519 (.ref 262),ge P "_law_drawn" 530 (.ref 269),ge P "_law_name" 536 (.ref 274),ge P "_law_names" 547 (.ref 281),ge P "_law_told" 559 (.ref 288),ge P "_law_learnt" 565 (.ref 293),ge P "_law_stands" 571 (.ref 298),ge P "_law_deed" 577 (.ref 303),ge P "_law_back" 583 (.ref 308),ge P "_law_no_deed" 591 (.ref 315),ge P "law" 606 (.ref 322)] 49,#[]⟩
abbrev xk(a:gi)(n:Str)(b r:gi)(t u:Tok):Obj:={cls:=.type "type",data:=.cls {name:=n,bases:=[.ref b],mro:=[.ref a,.ref b,.type "ValueError",.type "Exception",.type "BaseException",.type "object"],ns:=a - 1,qualname:=n},slots:=#[a5 (.ref r),b6,a5 (.str n t),a5 (.str n u),a5 (.builtin "ValueError.__new__"),a5 (.bool bD)]}
abbrev xd(P:Tb)(m f:Tok)(l:Int)(n s:Tok)(a:gi)(d:Tok):Obj:={cls:=.type "dict",data:=.dict #[ge P "__module__" m (.str "primer.errors" 187),ge P "__firstlineno__" f (.int l n),ge P "__static_attributes__" s (.ref a),ge P "__doc__" d .none] 2}
abbrev xo(P:Tb):List (gi×Obj):=[(73,xk 73 "NoDeed" 24 64 255 263),
 (244,({cls:=.type "type",data:=.cls {name:="Shelf",bases:=[.type "object"],mro:=[.ref 244,.type "object"],ns:=243,qualname:="Shelf" },slots:=#[b6,b6,a5 (.str "Shelf" 406),a5 (.str "Shelf" 414),a5 (.builtin "object.__new__"),a5 (.bool bD)]}:Obj)),
 (24,({cls:=.type "type",data:=.cls {name:="PrimerError",bases:=[.type "ValueError"],mro:=[.ref 24,.type "ValueError",.type "Exception",.type "BaseException",.type "object"],ns:=23,qualname:="PrimerError",subclasses:=[.ref 37,.ref 49,.ref 61,.ref 73]},slots:=#[a5 (.ref 15),b6,a5 (.str "PrimerError" 189),a5 (.str "PrimerError" 197),a5 (.builtin "ValueError.__new__"),a5 (.bool bD)]}:Obj)),
 (72,xd P 262 266 10 265 267 71 268),
 (243,({cls:=.type "dict",data:=.dict #[{hash:=oT P "__module__",key:=.str "__module__" 413,val:=.str "primer.shelf" 392},{hash:=oT P "__firstlineno__",key:=.str "__firstlineno__" 417,val:=.int 97 416},{hash:=oT P "__init__",key:=.str "__init__" 424,val:=.ref 185},{hash:=oT P "book",key:=.str "book" 431,val:=.ref 192},{hash:=oT P "learnt_now",key:=.str "learnt_now" 438,val:=.ref 199},{hash:=oT P "deeds",key:=.str "deeds" 445,val:=.ref 206},{hash:=oT P "put",key:=.str "put" 455,val:=.ref 213},{hash:=oT P "take",key:=.str "take" 465,val:=.ref 220},{hash:=oT P "back",key:=.str "back" 472,val:=.ref 227},{hash:=oT P "do_deed",key:=.str "do_deed" 480,val:=.ref 234},{hash:=oT P "turn_to",key:=.str "turn_to" 489,val:=.ref 241},{hash:=oT P "__static_attributes__",key:=.str "__static_attributes__" 492,val:=.ref 242},{hash:=oT P "__dict__",key:=.str "__dict__" 494,val:=.ref 245},{hash:=oT P "__weakref__",key:=.str "__weakref__" 496,val:=.ref 246},{hash:=oT P "__doc__",key:=.str "__doc__" 497,val:=.none}] 4}:Obj)),
 (23,({cls:=.type "dict",data:=.dict #[{hash:=oT P "__module__",key:=.str "__module__" 196,val:=.str "primer.errors" 187},{hash:=oT P "__firstlineno__",key:=.str "__firstlineno__" 200,val:=.int 2 199},{hash:=oT P "__static_attributes__",key:=.str "__static_attributes__" 201,val:=.ref 22},{hash:=oT P "__weakref__",key:=.str "__weakref__" 203,val:=.ref 25},{hash:=oT P "__doc__",key:=.str "__doc__" 204,val:=.none}] 3}:Obj))]
abbrev gx(P:Tb):Gx:=(gg P,xo P)
abbrev xa:List gi:=[73,244,24,72,243,23]
abbrev hk:Hook:=kHook (λP=>IQ top (gx P) ms) (adr ms xa) λP=>t7 top (gx P) ms xa rfl
def Ot(w:w6):(oe w).map hk.obs=a5 (hk.val w):=by kernel_rfl
def hl:LeftO PySem.Challenge.rw_primer_k54_taken_back.row.prog vw lo xt hk.obs hk.val 4000:=λw=>by
 have⟨s,e,a⟩:=hQ.mp (K6 w);have b:=Lp w;have c:=Ot w;rw[e]at b c;change(oe w).map _=_;rw[e];show ï a5 (V4 (V4 a (tj b)) (tj c))
def hs:PySem.Challenge.rw_primer_k54_taken_back.wellSaid=bD:=by kernel_rfl
def ho(P:Tb):L0 ck top (IQ top (gx P) ms) ms=bD:=by kernel_rfl
def X4(P:Tb):(gX ck (IQ top (gx P) ms)&&QS top (IQ top (gx P) ms) ms)=bD:=by kernel_rfl
end K
open PySem PySem.W PyProof.Rows K
theorem PySem.Challenge.cw_primer_k54_taken_back_holds : PySem.Challenge.rw_primer_k54_taken_back.Holds := by
 w_on
 refine holds_law hs λz => ?_;refine holds_open hl hk.of hk.keeps (λs e => xl_of s (vu.mp e).1) XL.keeps rfl rfl rfl (λs e => recFacts_of (vu.mp e).2) rfl z (by kernel_rfl) ⟨rfl, rfl, rfl, rfl, rfl, by decide +kernel⟩ ?hw ?a
 (case hw => w_witness2)
 exact TM.walk2 (l := PySem.Challenge.rw_primer_k54_taken_back) (Pg := prog) (ck := ck) (dp := 10) (x := "_law_script") (m := ml) rfl rfl ⟨rfl, by decide, by decide, rfl⟩ rfl (by decide +kernel) (by decide +kernel) rfl rfl (XO.mpr ⟨36, rfl⟩) rfl rfl rfl ho X4 (λ_ => rfl) K.pure
