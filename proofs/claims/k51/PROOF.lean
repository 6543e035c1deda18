import PyProof.Rows.All
import Wide.All
import OpenK.AllK
import Wide.FinOn
import Lean
import PyProof.EqAt
import PyProof.EqKinds
import PyProof.TupleCall
import PyProof.StrLawsChain
import PyProof.StrLawsFirst
import PyProof.Rows.StrNews2
import OpenK.AllK
import PyProof.DictItems
import OpenK.AllK
import PyProof.StationsW
import PyProof.ExcBaseAll.ValueError
import PyProof.RulesAs
import PyProof.NsDelKeeps
import OpenK.AllK
import PyProof.ReprBulk
import PySem.Challenge.RW_primer_k51_a_shelf_walked
set_option Elab.async false
set_option linter.all false
set_option bootstrap.genMatcherCode false
set_option maxRecDepth 100000
set_option maxHeartbeats 4000000
set_option genInjectivity false
set_option genSizeOf false
set_option autoImplicit true
set_option relaxedAutoImplicit true
open Option renaming some->a5,none->bD,map_eq_some_iff->dV,bind_eq_some_iff->ki,ite_none_right_eq_some->E',isSome_iff_exists->N8,map_some->Qf,isNone_iff_eq_none->Q0,isSome_map->Tz,isSome_some->X',getD_none->Y'
open Bool renaming true->a8,and_eq_true->b5,false->b6,false_ne_true->i6,and_eq_true_iff->qv,not_eq_true'->sx,eq_iff_iff->IV,or_eq_true->OG,false_eq_true->TL,and_false->Wv,and_true->WO,or_false->Þ
open Decidable renaming decide->cb
open PySem renaming sizeLine->cK,wpAny_bind->cL,Value->dr,Addr->dt,wpAny_pure->fx,wpAny->gm,Shared->hQ,starEach->il,model->i4,Expr->lx,mainGlobals->mx,eval->sL,wpAny_Call_Name_kw->tj,Program->ux,wpAny_mono->u5,backTo->v3,World->wh,Stmt->wk,wpAny_holding->zc,bootBuiltins->zr,Scope->z8,wpAny_truthy_bool->C1,keywordEach->Jf,holding->Ka,cLine->Kc,Heap->Km,NameKind->KD,scanBound->Ln,cellsFrom->Lr,wpAny_newObj_type->LZ,foldedSetIterable->L0,wpAny_call_entry->Mi,wpAny_callSpecial?_slot->Mr,swapsWith->Mu,Around->Mx,call->MN,sysModules->Nh,Keyword->Ni,wpAny_passesOwn->Nk,compareOp->NQ,behindInMarks->NR,attributeBase->NT,backToKw->Om,binaryOp->OV,codeAny_builtin->O2,codeAny->O',wpAny_pyIter_tuple->Pb,tupleKind_room_in1->Pd,assignEach->Pe,wpAny_getItem_str_slice->Pz,wpAny_field->PH,isSubtype_type->Qb,call_meets->Qw,swapsWithSole->QE,sliceBounds->QT,FuncData->QU,getItem->Rz,codeAny_mono->RL,pushCells->RS,wpAny_rule->RU,typeIs_str->RX,assign->RZ,standAt->R',compEnvC->Sx,wpAny_typeOf->SE,setItem->SF,relabel->SI,notedBy->SN,callerA->SO,Builtin->SQ,wpAny_loadPart'->SV,wpAny_execs_nil->S5,post_val_or_str->S7,letOwnedTupleGo->S_,wpAny_isTrue_Compare1->Tg,IsPart->TN,tupleKind->T7,isSubtype->T_,swappedStores->UX,Params->Vl,wpAny_pyIter_list->VN,wpAny_pyIter_enum->VP,valueAt->VS,release->V6,concat_meets->V7,pyNext->Ww,noFill_tuple_add->Wx,getMethod->Wz,PassesOwn->WA,subscripted->WD,wpAny_updateSeq->WQ,wpAny_specialOf->WR,pushCells_keeps->WS,wpAny_seqItems->Xl,typeLookup->Xm,relayAll->Xv,newFunctionEnv->Xw,callWith->Xx,atKey->XD,SetTable->XI,wpAny_standAt->Yo,wpAny_newList->Yp,wpAny_comprehension_free->YP,seq_tuple_add->YR,plainId_quiet->YS,wpAny_Call_method0_late->Y6,strValues->Y7,bindL->Y8,bindC->Y9,wpAny_Call_method_late->Zg,typeOf->Zh,spliced->Zi,pyIter->Zo,call_meetsIn->Zp,IsEnum->Zs,BindsTo->Zt,builtinLookup_eq_fast->Z2,step->Z9,sizeLine_eq->Z_,seqIndex_of->Z',Operator->Á,GenState->Â,wpAny_Tuple_spliced->Ë,wpAny_call->Ñ,wpAny_Name->Ò,wpAny_List_spliced->Ó,truthy->Ô,rawInt->Õ,builtinsNs->Ö,WalksS->Ø,JoinOk->Ú,wpAny_storeSet_of->ß,wpAny_sequenceKey->à,wpAny_assign_Name->á,slot_list_getitem->â,fits_of_scanBound->ã,ItemsOf->ê,wpAny_isInstance->î,wpAny_execs_cons->ï,wpAny_eqBool_str->ð,wpAny_eqBool_int->ñ,typeLookup_type->þ,codeAny_of_tree->ÿ,wpAny_setField->Ĉ,wpAny_runValue->ĉ,rule->Ċ,recursionLimit->ċ,numbered_texts->Č,firstArgMember->č,field->Ď,bindArgs->ď,augStore->Đ
open List renaming length_map->cN,getElem?_eq_some_iff->df,getElem?_set_self->dn,getElem?_set_ne->ez,map_cons->gi,mem_cons->gj,size_toArray->hE,range->hH,mem_singleton->i8,mem_append->i',replicate->js,length_append->j0,length_cons->j5,map_map->ke,mem_map->kj,mem_cons_of_mem->ko,getElem?_append_right->kr,mem_cons_self->k9,getElem?_append_left->lg,map_append->mu,nil_append->my,getElem?_map->nc,lookup_cons->nC,length_take->oD,isEmpty_iff->oT,nodup_cons->o9,all_eq_true->qa,mem_of_getElem?->qs,nodup_append->ri,append_nil->rl,mem_append_right->tA,mem_range->va,getElem?_eq_getElem->ve,getElem?_replicate->vu,map_congr_left->w6,getElem?_drop->zb,filter_cons->zl,getElem_mem->DD,length->H8,take_of_length_le->Kj,length_singleton->KP,length_filter_le->KQ,mem_filter->KX,getD->K1,map_nil->K',filterMap_cons->L4,lookup->L9,filter_eq_nil_iff->L',find?_cons->ML,getElem?_zipIdx->NX,ext_getElem->NZ,drop_eq_getElem_cons->N6,mem_map_of_mem->Ol,getElem?_take_of_lt->OC,getElem?_cons_succ->OI,length_replicate->PX,dropLast_eq_take->PY,mem_append_left->Qk,of_mem_zip->Qu,getElem_of_mem->Qy,pairwise_cons->Rc,reverse_cons->RP,length_drop->R3,filter_cons_of_pos->R4,filter_cons_of_neg->R5,any_eq_true->R6,length_eq_one_iff->Sf,length_set->So,filter_nil->Sq,drop_left'->Sr,take_append_drop->Sw,mem_of_mem_take->Sz,mem_iff_getElem->SA,getElem?_range->Te,any_cons->Tq,zip_cons_cons->TJ,filter_append->TK,map->Ui,ext_getElem?->Uj,isEmpty_map->Vc,length_zip->Vr,length_nil->VA,foldl_cons->VB,nodup_nil->Wo,isEmpty_eq_false_iff->WC,map_take->WJ,map_drop->WK,length_erase_of_mem->WL,length_pos_of_mem->Xd,drop_of_length_le->Xk,mem_iff_getElem?->XQ,getElem?_eq_none->XR,mem_erase_of_ne->Yl,getElem?_of_mem->Ym,dropLast_concat->Yn,length_reverse->YZ,length_pos_iff->Y0,flatten_append->Y1,mem_filterMap->Zf,take_sublist->ZF,length_range->ZN,flatten_cons->ZW,any_eq_false->Z1,map_fst_zip->Z4,getElem_map->Z5,getElem_inj->Z6,drop_length->Z7,cons_append->Z8,filter_map->É,drop_zero->Ð,findIdx?->Ý,all_map->í,map_id->ú
open PySem.Heap renaming get?_push_of_some->c4,get?_push_size->hW,lt_size->i5,SameBut->K2,size_push->L5,get?_update_self->MV,get?_update_other->Sa,ExtBut->XU,get?_update_ne->YY
open Nat renaming le_refl->hY,ne_of_lt->i9,lt_of_lt_of_le->ku,zero_le->mh,lt_irrefl->vl,le_trans->vr,ne_of_gt->Ll,lt_succ_self->L6,add_sub_cancel_left->OL,lt_succ_of_lt->Pp,le_of_lt->Pw,le_succ->Qq,min_eq_left->Qx,zero_add->QZ,lt_trans->UE,le_of_eq->UG,not_lt_of_lt->Ç,min_eq_right->È,le_total->ù,log2_lt->ą,mod_lt->ė
open PySem.Value renaming ref->kl,none->rz,type->y0,str->zu,bool->PV,isStrOf->Td,int->WE,isStrOf_shape->XT,isInt->æ,float->ç,bytes->è
open PySem.Txt renaming partition->nH,split->OJ,join->UD,endswith->ó
open Sum renaming inr->nT,inl->Us
open Ne renaming symm->pq
open Option.some renaming inj->ro,injEq->Ov
open Array renaming length_toList->rr,getElem?_toList->Su,toList_append->SS,size_append->TQ,toList_inj->UQ,toList->WX,toArray_toList->XS,getD->ý
open PySem.Obj renaming mapSeq->r3,putSet->Sn,data_mapFields->Zr
open PySem.PyData renaming keyHash->sr
open PySem.Str renaming empty->td,ofString->Pk,length->Sm
open PySem.Builtin.Str renaming occurrences->ti,partsBetween->NK,strKind->Wf
open PyProof.Rows renaming slot_tuple_getitem->uk,seqObj->zi,callWith_type1->Hf,call_isinstance_yes->N7,callWith_builtin1->OH,StrsAre->RM,envOfC->R0,AllBare->Se,size_push'->SR,subscriptTail->U9,listUpdate_at->Va,Subscript_->XO,subscriptTail_builtinR->Zy,listItems_at->ZC,IntsAre->ZD,seqEpoch_at->Å,IsTup->Æ,entry_tuple_getitem->Ì,sortedHeap->Û,args_tuple_getitem->Ü,slot_str_getitem->ø,get?_update_seq->ă,entry_list_sort->Ą,sortedHeap_old->Ē,slot_list_sort->ē,slicePart_none->Ĕ,isTrue_and_nil->ĕ,args_list_sort->Ė
open PySem.Builtin.List renaming listExtendWith->x4,listTooLong->KI,listSameRef->Uh,listItems->U4,listUpdate->ā,listLengthHint->Ă
open PySem.Builtin.SmallTypes renaming nextOf->IT
open PySem.NameKind renaming free->Jj,cell->Jr
open PySem.Calls renaming callWith_builtin->JU,evalArgs_plain->Nn,spliced_cons->OF,spliced_nil->Ry,Name_function_global->V8,call_function_entry->We
open False renaming elim->KG
open Int renaming toNat_natCast->Lm,eq_ofNat_of_zero_le->OT,emod_nonneg->QC,toNat_of_nonneg->QM,emod_lt_of_pos->Rn,zero_add->UH
open PySem.Builtin.Slice renaming slicePlaces->My,sliceAdjust->Qe,sliceApplied->Tj,slicePartIndex->ô,sliceFields->õ
open PyProof.Rows.F renaming plain_set_update_loop->MC,entry_set_update_loop->RT
open PySem.Builtin.Tuple renaming tupleExact->Nj,tupleItemsOf->Ti
open PySem.W renaming kas_sort->Nl,kas_ask->ä
open PySem.AutoSeq1 renaming wpAny_loadPart'->NY,sub_tuple_tuple->Vq,sub_tuple_list->V9,sub_list_tuple->Wd,sub_list_list->Wg,idx_int->X9
open ForInStep renaming yield->N0
open PySem.Heap.SameBut renaming update->Po,refl->WB
open LT renaming lt->PJ
open List.cons renaming injEq->PZ
open PySem.SetTable renaming grown->Qt,sizeAbove->WY,orStandIn->W',layClean->XE,relaid->YU,laid->Zq
open PySem.PassesOwn renaming leaving->QH
open PySem.SeqAt renaming EqAt->R7,ne_of_list_tuple->WT,RcAt->YX,RcNeAt->Ù
open True renaming intro->R8
open PySem.Around renaming under_plainId->Sv,under->Tr
open Prod.mk renaming injEq->Sy
open Sum.inr renaming inj->T5
open PySem.Code renaming isFrame->T',frames->X8,quiet_builtin->Y_,isGuard->ì
open Iff renaming rfl->UN
open Classical renaming byContradiction->Vh
open PySem.Data renaming fields->Vp,cell->Z3
open Prod renaming ext->Wj,fst->Ï
open PyProof.Rows.IsTup renaming new->WI
open PySem.StrLaws renaming strSub_toList->YT
open PySem.Shared renaming TypeIs->À
open PySem.Builtin.Frozenset renaming updateFrom->Ã,newClass->Ä
open LE renaming le->Ê
open PyProof.Rows.LSm renaming range_all->Í,kept_iter->Î
open PySem.W.WShape renaming has->å
open PySem.Moved renaming trans->é
open PySem.Heap.IsSliceOf renaming new->ë
open PySem.Walks renaming list->ò
open PySem.Builtin.Range renaming rangeSize->ö
open List.Pairwise renaming nil->û
open LawfulBEq renaming eq_of_beq->ü
open PySem.W.WData renaming int->Ā
open List.Sublist renaming refl->Ć
open ToString renaming toString->ć
open PySem.Heap.DictOf renaming new->đ
abbrev Ę:=@decide_eq_true_eq
abbrev ę:=@if_pos
abbrev Ě:=@if_neg
abbrev ě:=@decide_eq_false
abbrev Ĝ:=@decide_eq_true
abbrev ĝ:=@of_decide_eq_true
abbrev Ğ:=@beq_eq_false_iff_ne
abbrev ğ:=@congrArg
local macro_rules|`(def $a:declId $b* : $t :=$v)=>`(theorem $a:declId $b* : $t :=$v)
local macro_rules|`(abbrev $a:declId $b:optDeclSig $c:declVal)=>`(noncomputable def $a:declId $b:optDeclSig $c:declVal)
local macro_rules|`(tactic|show $t)=>`(tactic|refine $t)
local macro_rules|`(tactic|have⟨$a⟩:=$t)=>do let p<-`(Lean.Parser.Tactic.rcasesPatLo|$(⟨a⟩):ident);`(tactic|obtain⟨$p⟩:=$t)
local macro_rules|`(tactic|have($a,$b,*):=$t)=>do let g:=fun(x:Lean.Term)=>if x.raw.isIdent then`(Lean.Parser.Tactic.rcasesPatLo|$(⟨x⟩):ident)else`(Lean.Parser.Tactic.rcasesPatLo|_);let p<-(#[a]++b.getElems).mapM fun x=>match x with|`(($c,$d,*))=>do let q<-(#[c]++d.getElems).mapM g;`(Lean.Parser.Tactic.rcasesPatLo|⟨$q,*⟩)|_=>g ⟨x⟩;`(tactic|obtain⟨$p,*⟩:=$t)
local macro_rules|`(⋯)=>`(by lia)
local macro_rules|`(#[$a,*])=>`(⟨$a,*⟩)
local macro_rules|`(#v[$a,*])=>`(List.toArray [$a,*])
namespace K
open PySem PySem.W PyProof.Rows
abbrev vw:ux:=view PySem.Challenge.pw_primer_k51_a_shelf_walked [11,12,13,14,15,19,20,21,22,24,25,26,27,28,30,31,33000,33001,33002,33003,33004,33005,33006,33007,33008,34,35,36,37,38,39,40,41,42,43,44,45]
abbrev loo:List Str:=["PrimerError","Unfit","TooMany","NoRow","NoDeed","LETTERS","LONGEST_STEM","FIRST_SENSE","LAST_SENSE","MOST_TOLD","MOST_ROWS","Shelf"]
noncomputable abbrev xt(s:hQ):Bool:=xlAt vw [] s&&recOk (RowW.records PySem.Challenge.rw_primer_k51_a_shelf_walked.row.toRowW) s
noncomputable abbrev oe(w:wh):Option hQ:=openEnds treeTable PySem.Challenge.rw_primer_k51_a_shelf_walked.row.prog w 4000
noncomputable abbrev os(s:hQ):=openSeen vw loo (importedModules PySem.Challenge.rw_primer_k51_a_shelf_walked.row.prog.main.body) xt a8 s
def Lu(w:wh):(oe w).map (λs=>(os s).1)=a5 (openGood vw loo).1:=by kernel_rfl
def LJ(w:wh):(oe w).map (λs=>(os s).2)=a5 (openGood vw loo).2:=by kernel_rfl
end K
namespace L2
open PySem PySem.Spec PyProof.Rows
@[reducible]noncomputable def Key:=Sum Int Str
abbrev kB:Key->dr->Bool
 |.inl k,v=>æ k v
 |.inr x,v=>Td x v
abbrev Hq(w:wh):Key->Int
 |.inl k=>hashInt k
 |.inr x=>hashStr w x
theorem bj:∀{k:Key}{v:dr},kB k v=a8->(∃i t,k=Us i/\v=WE i t)\/(∃x t,k=nT x/\v=zu x t)
 |.inl i,v,h=>by
  have(t,e):=Value.isInt_shape (k:=i) (v:=v) h;show .inl #[i,t,rfl,e]
 |.inr x,v,h=>by
  have(t,e):=XT (x:=x) (v:=v) h;show .inr #[x,t,rfl,e]
def uV(i:Int)(t:Tok):kB (.inl i) (.int i t)=a8:=by simp[kB,æ]
def uW(x:Str)(t:Tok):kB (.inr x) (.str x t)=a8:=by simp[kB,Td]
def C3(a b:Int):cb ((Us a:Key)=Us b)=(a==b):=by
 by_cases e:a=b
 .subst e;simp
 .have h:¬(Us a:Key)=Us b:=λq=>e (Sum.inl.inj q);rw[ě h];show(Ğ.mpr e).symm
def C4(a b:Str):cb ((nT a:Key)=nT b)=cb (a=b):=by
 by_cases e:a=b
 .subst e;simp
 .have h:¬(nT a:Key)=nT b:=λq=>e (T5 q);rw[ě h,ě e]
def C5(a:Int)(b:Str):cb ((Us a:Key)=nT b)=b6:=ě (λq=>nomatch q)
def C6(a:Str)(b:Int):cb ((nT a:Key)=Us b)=b6:=ě (λq=>nomatch q)
abbrev aW(prog:ux)(w:wh):PySem.KeyKind prog w Key where
 is:=kB
 hash:=Hq w
 inj:=λv a b g f=>by
  rcases bj g with⟨i,t,rfl,rfl⟩|⟨x,t,rfl,rfl⟩
  .rcases bj f with⟨j,u,rfl,e⟩|⟨y,u,rfl,e⟩
   .injection e with c _;rw[c]
   .show nomatch e
  .rcases bj f with⟨j,u,rfl,e⟩|⟨y,u,rfl,e⟩
   .show nomatch e
   .injection e with c _;rw[c]
 byValue:=λk v h=>by
  rcases bj h with⟨i,t,rfl,rfl⟩|⟨x,t,rfl,rfl⟩<;>rfl
 pyHash:=λd h=>by
  rcases bj d with⟨i,t,rfl,rfl⟩|⟨x,t,rfl,rfl⟩
  .show wpAny_pyHash_int h
  .show wpAny_pyHash_str h
 eqBool:=λl d h=>by
  rcases bj l with⟨i,t,rfl,rfl⟩|⟨x,t,rfl,rfl⟩
  .rcases bj d with⟨j,u,rfl,rfl⟩|⟨y,u,rfl,rfl⟩
   .rw[C3]at h;show ñ h
   .rw[C5]at h;show SeqAt.EqAt.int_str i t y u _ _ _ _ h
  .rcases bj d with⟨j,u,rfl,rfl⟩|⟨y,u,rfl,rfl⟩
   .rw[C6]at h;show SeqAt.EqAt.str_int x t j u _ _ _ _ h
   .rw[C4]at h;show ð h
 «strs»:=λk x t v h=>by
  rcases bj h with⟨i,u,rfl,e⟩|⟨y,u,rfl,e⟩
  .show nomatch e
  .injection e with c _
   subst c;cases v<;>rfl
def pG(prog:ux)(w:wh)(i:Int)(t:Tok):(aW prog w).is (.inl i) (.int i t)=a8:=uV i t
def pH(prog:ux)(w:wh)(x:Str)(t:Tok):(aW prog w).is (.inr x) (.str x t)=a8:=uW x t
inductive V where
 |IC|bl (b:Bool)|int (i:Int)|str (x:Str)|O9 (b:Array UInt8)|O_ (b:UInt64)|ref (a:dt)|ty (n:String)
 deriving DecidableEq
def RelV:V->dr->Prop
 |.IC,u=>u=rz
 |.bl b,u=>u=PV b
 |.int i,u=>∃t,u=WE i t
 |.str x,u=>∃t,u=zu x t
 |.O9 b,u=>∃t,u=è b t
 |.O_ b,u=>∃t,u=ç b t
 |.ref a,u=>u=kl a
 |.ty n,u=>u=y0 n
@[reducible]noncomputable def Vals:List V->List dr->Prop:=Paired RelV
def Vals.length(r:Vals xs us):xs.length=us.length:=Paired.length r
theorem Vals.get:∀{xs:List V}{us:List dr}{i:Nat}{x:V},Vals xs us->xs[i]?=a5 x->∃u,us[i]?=a5 u/\RelV x u
 |_,_,_,_,.nil,e=>by simp at e
 |_,_,0,_,.cons r _,e=>by simp at e;subst e;show#[_,rfl,r]
 |_,_,i+1,x,.cons _ t,e=>by
  have(u,a,b):=Vals.get (i:=i) (x:=x) t (by simpa using e);show#[u,by simpa using a,b]
theorem Vals.set(r:RelV x u):∀{xs:List V}{us:List dr} (i:Nat),Vals xs us->Vals (xs.set i x) (us.set i u)
 |_,_,_,.nil=>.nil
 |_,_,0,.cons _ t=>.cons r t
 |_,_,i+1,.cons q t=>.cons q (Vals.set r i t)
theorem Vals.append:∀{xs ys:List V}{us ws:List dr},Vals xs us->Vals ys ws->Vals (xs++ys) (us++ws)
 |_,_,_,_,.nil,s=>s
 |_,_,_,_,.cons r t,s=>.cons r (Vals.append t s)
theorem Vals.take:∀{xs:List V}{us:List dr} (n:Nat),Vals xs us->Vals (xs.take n) (us.take n)
 |_,_,0,_=>.nil
 |_,_,_+1,.nil=>.nil
 |_,_,n+1,.cons r t=>.cons r (Vals.take n t)
theorem Vals.drop:∀{xs:List V}{us:List dr} (n:Nat),Vals xs us->Vals (xs.drop n) (us.drop n)
 |_,_,0,r=>r
 |_,_,_+1,.nil=>.nil
 |_,_,n+1,.cons _ t=>Vals.drop n t
def fF:Option V->Option dr->Prop
 |some v,a5 u=>RelV v u
 |none,bD=>True
 |_,_=>False
abbrev KV{κ:Type}:List (κ×V)->List (κ×dr)->Prop:=Paired λ(p:κ×V) (q:κ×dr)=>p.1=q.1/\RelV p.2 q.2
abbrev kV:Key->V
 |.inl i=>.int i
 |.inr x=>.str x
inductive HO where
 |lst (xs:List V)
 |tup (xs:List V)
 |dK (kvs:List (Key×V))|dT (kvs:List (List Key×V))
 |set (S:Int->Bool) (n:Nat)
 |ins (C dx:dt) (fs:List (Str×V))
 |own (x:dt)
 |xd (fs:List (Str×V))
 |met (f x:dt)
 |RQ (lo hi:Int)
 |LC (o:Obj) (u:HO)
 |NJ (ps:Array dr)
 |ext (φ:Km->Prop)
@[reducible]noncomputable def Hp:=dt->Option HO
abbrev upd(H:Hp)(a:dt)(o:HO):Hp:=λb=>if b=a then a5 o else H b
def aj:upd H a o a=a5 o:=by unfold upd;rw[ę rfl]
def ai(h:b≠a):upd H a o b=H b:=by unfold upd;rw[Ě h]
def Fh{H:Hp}(h:H a=a5 o)(h':H b=a5 u)(d:o≠u):a≠b:=by
 intro e;subst e;rw[h]at h';show d (ro h')
def bB{H:Hp}(h:H a=a5 o)(h':H b=bD):a≠b:=by
 intro e;subst e;rw[h]at h';cases h'
section
variable(P:ux)(w:wh)
def bR(H:Hp)(h:Km)(a:dt):HO->Prop
 |.lst xs=>xs.length<=cK/\∃(c:List dr) (n:Nat),Vals xs c/\h.get? a=a5 {cls:=.type "list",data:=.seq c.toArray n}
 |.tup xs=>xs.length<=cK/\∃c:List dr,Vals xs c/\Æ h a c.toArray
 |.dK kvs=>kvs.length<=cK/\(a==Nh)=b6/\∃vs,KV kvs vs/\h.DictOf (aW P w) a vs
 |.dT kvs=>kvs.length<=cK/\(a==Nh)=b6/\∃xs:List (List Key×dt×dr),
   Paired (λ(p:List Key×V) (q:List Key×dt×dr)=>p.1=q.1/\H q.2.1=a5 (.tup (p.1.map kV))/\RelV p.2 q.2.2) kvs xs /\
   ∃o es ep,h.get? a=a5 o/\o.ExactDict/\o.data=.dict es ep/\es.toList=xs.map (entryOfKey (T7 (aW P w)))/\(xs.map (·.1)).Nodup
 |.set S n=>h.SetOf (intKind P w) a S n
 |.ins C e d=>H e=a5 (.own a)/\d.length<=1000/\e≠a/\h.get? a=a5 (PySem.W.instObj C e) /\
   ∃b,h.Ns1 e b/\(∀f,fF (d.lookup f) (b f))/\PySem.Within b (d.map (·.1))
 |.own _=>∃o,h.get? a=a5 o
 |.xd d=>∃b,h.Ns1 a b/\∀f,fF (d.lookup f) (b f)
 |.RQ lo hi=>∃t u v,h.get? a=a5 {cls:=.type "range",data:=.fields #v[.int lo t,.int hi u,.int 1 v]}
 |.LC o u=>h.get? a=a5 o/\bR H h a u
 |.NJ ps=>h.get? a=a5 {cls:=.none,data:=.fields ps}
 |.met f x=>h.get? a=a5 (PySem.W.methodObj (.ref f) (.ref x))
 |.ext φ=>φ h/\(∃o,h.get? a=a5 o)/\∀g i:Km,φ g->(∀o,g.get? a=a5 o->i.get? a=a5 o)->φ i
abbrev JN(H:Hp)(h:Km):Prop:=∀a o,H a=a5 o->bR P w H h a o
end
section
def bR.lt(x:bR P w H h a o):a<h.objs.size:=by
 cases o with
 |lst xs=>have(_,_,_,_,e):=x;show i5 e
 |tup xs=>have(_,_,_,p):=x;show p.lt
 |set S n=>have(o,_,_,_,e,_):=x;show i5 e
 |ins C c b=>have(_,_,_,e,_):=x;show i5 e
 |own y=>have(_,e):=x;show i5 e
 |xd b=>have(_,(_,_,_,e,_),_):=x;show i5 e
 |RQ lo hi=>have(_,_,_,e):=x;show i5 e
 |LC d u=>have(e,_):=x;show i5 e
 |NJ ps=>show i5 (show h.get? a=a5 _ from x)
 |met f y=>show i5 (show h.get? a=a5 _ from x)
 |ext φ=>have(_,(_,e),_):=x;show i5 e
 |_=>have(_,_,_,_,o,_,_,e,_):=x;show i5 e
theorem Paired.C7:∀{c:List α}{d:List β},Paired F c d->(∀a b,F a b->G a b)->Paired G c d
 |_,_,.nil,_=>.nil
 |_,_,.cons r t,f=>.cons (f _ _ r) (Paired.C7 t f)
def bR.nS(x:bR P w H h a o)(k:∀b u,(b=a\/H b=a5 (.own a))->h.get? b=a5 u->h'.get? b=a5 u)
  (ho:∀b,H b=a5 (.own a)->H' b=a5 (.own a)) (m:∀b xs,H b=a5 (.tup xs)->H' b=a5 (.tup xs)):bR P w H' h' a o:=by
 induction o with
 |lst xs=>have(z,i,n,r,e):=x;show#[z,i,n,r,k _ _ (.inl rfl) e]
 |tup xs=>have(z,i,r,g,e,c):=x;show#[z,i,r,g,k _ _ (.inl rfl) e,c]
 |dK kvs=>have(z,y,vs,r,g,es,ep,e,c):=x;show#[z,y,vs,r,g,es,ep,k _ _ (.inl rfl) e,c]
 |dT kvs =>
  have(z,y,xs,r,g,es,ep,e,c):=x;show#[z,y,xs,Paired.C7 r λp q z=>#[z.1,m _ _ z.2.1,z.2.2],g,es,ep,k _ _ (.inl rfl) e,c]
 |set S n=>have(g,es,ep,t,e,c):=x;show#[g,es,ep,t,k _ _ (.inl rfl) e,c]
 |ins C G s =>
  have(d,z,A,e,j,(l,es,ep,B,c),r):=x;show#[ho _ d,z,A,k _ _ (.inl rfl) e,j,#[l,es,ep,k _ _ (.inr d) B,c],r]
 |own y=>have(g,e):=x;show#[g,k _ _ (.inl rfl) e]
 |xd s=>have(j,(l,es,ep,e,c),r):=x;show#[j,#[l,es,ep,k _ _ (.inl rfl) e,c],r]
 |RQ lo hi=>have(t,u,v,e):=x;show#[t,u,v,k _ _ (.inl rfl) e]
 |LC g u D=>have(e,q):=x;show#[k _ _ (.inl rfl) e,D q]
 |NJ ps =>
  have e:h.get? a=a5 {cls:=.none,data:=.fields ps}:=x;change h'.get? a=a5 {cls:=.none,data:=.fields ps};show k a _ (.inl rfl) e
 |met f y =>
  have e:h.get? a=a5 (PySem.W.methodObj (.ref f) (.ref y)):=x;change h'.get? a=a5 (PySem.W.methodObj (.ref f) (.ref y));show k a _ (.inl rfl) e
 |ext φ=>have(p,(o,e),st):=x;show#[st _ _ p λo q=>k _ _ (.inl rfl) q,#[o,k _ _ (.inl rfl) e],st]
def JN.lt(x:JN P w H h)(e:H a=a5 o):a<h.objs.size:=(x a o e).lt
def JN.fresh(x:JN P w H h)(e:h.objs.size<=a):H a=bD:=by
 cases q:H a with
 |none=>rfl
 |some u=>show absurd (ku (x.lt q) e) (vl _)
def JN.kept(x:JN P w H h)(k:∀b u,h.get? b=a5 u->h'.get? b=a5 u):JN P w H h':=λa o e =>
 (x a o e).nS (λb u _ q=>k b u q) (λ_ q=>q) λ_ _ q=>q
def JN.laid(x:JN P w H h)(k:∀b u,h.get? b=a5 u->h'.get? b=a5 u)(g:h.objs.size<=a)(new:bR P w (upd H a o) h' a o):JN P w (upd H a o) h':=λb u e=>by
 have d:=x.fresh g;by_cases f:b=a
 .subst f;rw[aj]at e;cases e;show new
 .rw[ai f]at e;show(x b u e).nS (λc v _ q=>k c v q) (λc q=>by rw[ai (bB q d)];show q) λc xs q=>by rw[ai (bB q d)];show q
end
abbrev Rd(H:Hp)(a:dt)(u:HO):Prop:=H a=a5 u\/∃o,H a=a5 (.LC o u)
def Rd.ok(r:Rd H a u)(x:JN P w H h):bR P w H h a u:=by
 rcases r with r|⟨o,r⟩
 .show x a u r
 .have(_,q):=x a _ r;show q
def Pa:Option HO->Prop
 |some (.lst _)=>True
 |some (.dK _)=>True
 |some (.dT _)=>True
 |some (.set _ _)=>True
 |some (.ins _ _ _)=>True
 |some (.ext _)=>True
 |_=>False
section
def JN.write(l:JN P w H h)(a:Pa (H x))(g:e=x\/H e=a5 (.own x))(k:∀b u,b≠e->h.get? b=a5 u->h'.get? b=a5 u)(m:∃u,h'.get? e=a5 u)
  (new:bR P w (upd H x o') h' x o'):JN P w (upd H x o') h':=λb u q=>by
 have i:∀c y,H c=a5 (.own y)->c≠x:=λc y r z=>by subst z;rw[r]at a;show a
 have n:∀c xs,H c=a5 (.tup xs)->c≠x:=λc xs r z=>by subst z;rw[r]at a;show a
 by_cases d:b=x
 .subst d;rw[aj]at q;cases q;show new
 .rw[ai d]at q;by_cases f:b=e
  .have j:H b=a5 (.own x):=by
    rcases g with z|z
    .show absurd (f.trans z) d
    .rw[f];show z
   rw[q]at j;cases j;have(v,o):=m;show#[v,by rw[f];show o]
  .show(l b u q).nS (λc v hc r=>k c v ?_ r) (λc r=>by rw[ai (i c b r)];show r) λc xs r=>by rw[ai (n c xs r)];show r
   rcases hc with rfl|hc
   .show f
   .rintro rfl;rcases g with z|z
    .show i c b hc z
    .rw[hc]at z;cases z;show d rfl
end
structure Un(fs ex:List dt)(H H':Hp)(h h':Km):Prop where
 keep:∀b o,h.get? b=a5 o->H b=bD->b∉fs->b∉ex->h'.get? b=a5 o
 slot:∀b o,h.get? b=a5 o->H b=bD->b∈fs->b∉ex->∃sl,h'.get? b=a5 {o with slots:=sl}
 free:∀b o,h.get? b=a5 o->H b=bD->b∉ex->H' b=bD
 there:∀b o,h.get? b=a5 o->b∉ex->∃o',h'.get? b=a5 o'
 jY:∀b xs,H b=a5 (.tup xs)->H' b=a5 (.tup xs)
 Kk:∀b o u,H b=a5 (.LC o u)->H' b=a5 (.LC o u)
 Ks:∀b ps,H b=a5 (.NJ ps)->∃more,H' b=a5 (.NJ (ps++more))
section
def Un.any(u:Un e ex H i h f)(q:h.get? b=a5 a)(n:H b=bD)(c:b∉ex):∃g,f.get? b=a5 {a with slots:=g}:=by
 by_cases d:b∈e
 .show u.slot b a q n d c
 .show#[a.slots,u.keep b a q n d c]
def Un.kept(k:∀b u,h.get? b=a5 u->h'.get? b=a5 u):Un c ex H H h h' :=
 #[λb a q _ _ _=>k b a q,λb a q _ _ _=>#[a.slots,k b a q],λ_ _ _ n _=>n,λb a q _=>#[a,k b a q],λ_ _ q=>q,λ_ _ _ q=>q,λ_ ps q=>#[#v[],by rw[q];simp]]
def Un.refl:Un a ex H H h h:=Un.kept λ_ _ q=>q
def Un.laid(k:∀b u,h.get? b=a5 u->h'.get? b=a5 u)(d:h.objs.size<=a)(c:H a=bD):Un e ex H (upd H a o) h h' where
 keep:=λb u q _ _ _=>k b u q
 slot:=λb u q _ _ _=>#[u.slots,k b u q]
 free:=λb u q n _=>by rw[ai (i9 (ku (i5 q) d))];show n
 there:=λb u q _=>#[u,k b u q]
 jY:=λb xs q=>by rw[ai (bB q c)];show q
 Kk:=λb u xs q=>by rw[ai (bB q c)];show q
 Ks:=λb ps q=>#[#v[],by rw[ai (bB q c),q];simp]
def Un.write(a:Pa (H x))(i:e=x\/H e=a5 (.own x))(k:∀b u,b≠e->h.get? b=a5 u->h'.get? b=a5 u)(j:∃u,h'.get? e=a5 u):Un m ex H (upd H x o) h h':=by
 have d:∀b,H b=bD->b≠x:=λb n z=>by subst z;rw[n]at a;show a
 have f:∀b,H b=bD->b≠e:=λb n z=>by
  subst z;rcases i with r|r
  .show d b n r
  .rw[n]at r;cases r
 have c:∀b u,H b=a5 u->¬Pa (a5 u)->b≠x:=λb u q l z=>by subst z;rw[q]at a;show l a
 show#[λb u q n _ _=>k b u (f b n) q,λb u q n _ _=>#[u.slots,k b u (f b n) q],λb u q n _=>by rw[ai (d b n)];show n,λb u q _=>?_,
  λb xs q=>by rw[ai (c b _ q λz=>z)];show q,λb u xs q=>by rw[ai (c b _ q λz=>z)];show q,λb ps q=>#[#v[],by rw[ai (c b _ q λz=>z),q];simp]]
 by_cases g:b=e
 .subst g;show j
 .show#[u,k b u g q]
end
abbrev QK(h:Km)(H:Hp):List dt:=(hH h.objs.size).filter λa=>(H a).isSome
abbrev nU(h:Km)(H:Hp):Km:=PySem.W.hideAll h (QK h H)
def uX(h:Km)(H:Hp):(nU h H).objs.size=h.objs.size:=PySem.W.hideAll_size _ _
def wZ(e:h.get? b=a5 o)(n:H b=bD):(nU h H).get? b=a5 o :=
 PySem.W.hideAll_get _ e λa=>by
  have q:(H b).isSome=a8:=(KX.mp a).2;rw[n]at q;simp at q
def Aj(e:(nU h H).get? b=a5 o):h.get? b=a5 o/\H b=bD:=by
 have a:h.get? b=a5 o:=PySem.W.of_hideAll (QK h H) e;show#[a,?_];cases q:H b with
 |none=>rfl
 |some x =>
  have c:b∈QK h H:=KX.mpr #[va.mpr (i5 a),by simp[q]];have z:(nU h H).get? b=bD:=PySem.W.hideAll_none (QK h H) c;rw[z]at e;cases e
structure Mod(K:PySem.W.Frag)(mg:Str->Option dr)(base:Km):Prop where
 NM:K.In base
 glob:base.Ns mx mg
 blt:∃mb,base.Ns Ö mb/\∀x:Str,x≠"__name__"->mb x=zr x
 nolimit:base.NoLimit
structure Cx where
 prog:ux
 w:wh
 K:PySem.W.Frag
 mg:Str->Option dr
 base:Km
 A:Mx
 N:List Str
 s₀:hQ
 H₀:Hp
 env:Env
 outer:List Env
 stack:List Env
 ex:List dt
 fn:Str->Bool
 calm:Bool
 pn:List (dt×Obj)
 xe:dr->hQ->Prop
abbrev Kt(l:List Env):List dt:=l.filterMap (·.frame)
noncomputable abbrev Cx.fs(X:Cx):List dt:=Kt X.outer
abbrev JL(a:z8)(x:Str):Prop:=a.names.lookup x=a5 .local\/a.names.lookup x=a5 .cell\/a.names.lookup x=a5 .free
abbrev Loc(a:z8)(x:Str):Prop:=a.names.lookup x=a5 .local\/a.names.lookup x=a5 .cell
abbrev Look(env:Env)(h:Km)(m:Str->Option dr)(x:Str)(u:dr):Prop :=
 (env.kindOf x=a5 .local/\m x=a5 u)\/((env.kindOf x=a5 .cell\/env.kindOf x=a5 .free)/\∃c,env.cells.lookup x=a5 c/\h.IsCell c (a5 u))
structure Cx.Ok(X:Cx):Prop where
 mod:Mod X.K X.mg X.base
 kind:X.env.scope.kind=.function
 glob:X.env.globals=mx
 blt:X.env.builtins=Ö
 above:X.s₀.heap.objs.size<=X.env.locals
 inj:∀x y c,X.env.cells.lookup x=a5 c->X.env.cells.lookup y=a5 c->x=y
 has:∀x,(X.env.kindOf x=a5 .cell\/X.env.kindOf x=a5 .free)->∃c,X.env.cells.lookup x=a5 c
 Pc:∀x c,X.fn x=a8->X.env.cells.lookup x=a5 c->X.s₀.heap.objs.size<=c
 hd:X.calm=a8->X.A.handled=bD
 frames:X.A.frames=a5 X.stack
 QL:X.stack=X.outer\/(X.stack=X.env::X.outer/\X.env.frame=a5 X.env.locals)
 U3:∀b∈X.ex,b≠X.env.locals/\∀x c,X.env.cells.lookup x=a5 c->c≠b
 bs:∀b o,X.base.get? b=a5 o->X.s₀.heap.get? b=a5 o/\X.H₀ b=bD
 MQ:X.base.objs.size<=X.s₀.heap.objs.size
 L7:∀b o,X.base.get? b=a5 o->b∉X.ex
 MR:∀b∈X.ex,b∉X.fs
 jU:X.s₀.heap.FunFrames X.base X.outer
 NO:∀b∈X.fs,X.H₀ b=bD
structure Inv(X:Cx)(pins:List (dt×Obj))(σ:List (Option V))(H:Hp)(s:hQ):Prop where
 ok:X.Ok
 os:s.os=X.s₀.os
 bare:Se s.gens
 base:Un X.fs X.ex X.H₀ H X.s₀.heap s.heap
 loc:∃m,s.heap.Ns X.env.locals m/\∀(i:Nat) (x:Str) (v:V),X.N[i]?=a5 x->σ[i]?=a5 (a5 v)->JL X.env.scope x->∃u,RelV v u/\Look X.env s.heap m x u
 cell:∀x c,X.env.cells.lookup x=a5 c->∃v,s.heap.IsCell c v
 free:H X.env.locals=bD
 JA:∀x c,X.env.cells.lookup x=a5 c->H c=bD
 pin:∀p∈X.pn++pins,s.heap.get? p.1=a5 p.2/\H p.1=bD/\p.1≠X.env.locals/\p.1∉X.fs/\∀v,p.2.data≠.cell v
 IE:JN X.prog X.w H s.heap
 len:σ.length=X.N.length
section
variable{X:Cx}{pins:List (dt×Obj)}{σ:List (Option V)}{H H':Hp}{s:hQ}{h':Km}
def Cx.Ok.Hr(a:X.Ok)(e:X.base.get? b=a5 o):b∉X.fs:=λc=>by
 have:=(a.jU.mem c).1;rw[e]at this;cases this
def Inv.bs(I:Inv X pins σ H s):∀b o,X.base.get? b=a5 o->s.heap.get? b=a5 o/\H b=bD:=λb o e =>
 #[I.base.keep b o (I.ok.bs b o e).1 (I.ok.bs b o e).2 (I.ok.Hr e) (I.ok.L7 b o e),I.base.free b o (I.ok.bs b o e).1 (I.ok.bs b o e).2 (I.ok.L7 b o e)]
def Inv.bk(I:Inv X pins σ H s):∀b o,X.base.get? b=a5 o->s.heap.get? b=a5 o:=λb o e=>(I.bs b o e).1
def Inv.mod(I:Inv X pins σ H s):Mod X.K X.mg X.base:=I.ok.mod
def Inv.KN(I:Inv X pins σ H s):X.K.In s.heap:=I.ok.mod.NM.keeps I.bk
def Inv.lt(I:Inv X pins σ H s):X.env.locals<s.heap.objs.size:=let ⟨_,a,_⟩:=I.loc;a.lt
def Inv.sz(I:Inv X pins σ H s):X.s₀.heap.objs.size<=s.heap.objs.size:=vr I.ok.above (Pw I.lt)
def Inv.Fi(I:Inv X pins σ H s)(h:s.heap.objs.size<=a):a∉X.fs:=λb=>by
 have(_,o,ho,_):=I.ok.jU.mem b;show absurd (ku (i5 ho) (vr I.sz h)) (vl _)
def Inv.NP(I:Inv X pins σ H s):∀x c,X.env.cells.lookup x=a5 c->c≠X.env.locals:=λx c e z=>by
 have(v,o,ho,a):=I.cell x c e;have(m,(o',es,ep,b,d,_),_):=I.loc;rw[z,b]at ho;cases ho;rw[d]at a;cases a
def Inv.jU(I:Inv X pins σ H s):s.heap.FunFrames X.base X.outer:=by
 have all:∀(l:List Env),(∀b∈Kt l,b∈X.fs)->X.s₀.heap.FunFrames X.base l->s.heap.FunFrames X.base l:=by
  intro l;induction l with
  |nil=>intro _ _;trivial
  |cons env r f =>
   intro hs hl;have(hk,(L,o,a,g,ho,h),i):=hl;have c:L∈X.fs:=hs L (by unfold Kt;rw[L4,a];show k9);have(j,e):=I.base.slot L o ho (I.ok.NO L c) c λz=>I.ok.MR L z c;show#[hk,#[L,_,a,g,e,h],f (λb d=>hs b (by unfold Kt;rw[L4,a];show ko _ d)) i]
 show all X.outer (λ_ d=>d) I.ok.jU
def Inv.stack(I:Inv X pins σ H s):s.heap.FunFrames X.base X.stack:=by
 rcases I.ok.QL with e|⟨e,a⟩
 .rw[e];show I.jU
 .rw[e];have(m,b,_):=I.loc;show .cons (by rw[I.ok.kind];decide) a b ?_ I.jU;show Heap.get?_none_of_le (vr I.ok.MQ I.ok.above)
def Inv.kC(I:Inv X pins σ H s):∀b∈Kt X.stack,b∈X.env.locals::X.fs:=λb a=>by
 rcases I.ok.QL with e|⟨e,c⟩
 .rw[e]at a;show ko _ a
 .rw[e]at a;unfold Kt at a;rw[L4,c]at a;show a
def Inv.s9(I:Inv X pins σ H s):∀b∈Kt X.stack,H b=bD:=λb hb=>by
 rcases gj.mp (I.kC b hb) with e|hb
 .rw[e];show I.free
 .have(_,o,ho,_):=I.ok.jU.mem hb;show I.base.free b o ho (I.ok.NO b hb) λz=>I.ok.MR b z hb
def Inv.step{ch:List dt}(I:Inv X pins σ H s)
  (j:∀b∈ch,(b∈X.ex\/X.s₀.heap.objs.size<=b)/\b≠X.env.locals/\(∀x c,X.env.cells.lookup x=a5 c->c≠b)/\∀p∈X.pn++pins,p.1≠b)
  (keep:∀b o,b≠X.env.locals->b∉X.fs->b∉ch->s.heap.get? b=a5 o->H b=bD->h'.get? b=a5 o)
  (slot:∀b o,b≠X.env.locals->b∈X.fs->b∉ch->s.heap.get? b=a5 o->H b=bD->∃C,h'.get? b=a5 {o with slots:=C}) (free:∀b o,b∉ch->s.heap.get? b=a5 o->H b=bD->H' b=bD)
  (there:∀b o,b∉ch->s.heap.get? b=a5 o->∃o',h'.get? b=a5 o')
  (jY:∀b xs,H b=a5 (.tup xs)->H' b=a5 (.tup xs)) (Kk:∀b o u,H b=a5 (.LC o u)->H' b=a5 (.LC o u)) (Ks:∀b ps,H b=a5 (.NJ ps)->∃t,H' b=a5 (.NJ (ps++t)))
  (ns:∀m,s.heap.Ns X.env.locals m->h'.Ns X.env.locals m) (Q:JN X.prog X.w H' h') (T:Se g') :
  Inv X pins σ H' {s with heap:=h',gens:=g',drawn:=d',toks:=t' }:=by
 have G:∀b o,X.s₀.heap.get? b=a5 o->b≠X.env.locals:=λb o e=>i9 (ku (i5 e) I.ok.above);have B:∀b o,X.s₀.heap.get? b=a5 o->b∉X.ex->b∉ch:=λb o e a h=>by
  rcases(j b h).1 with z|z
  .show a z
  .show absurd (ku (i5 e) z) (vl _)
 have f:∀x c,X.env.cells.lookup x=a5 c->∀v,s.heap.IsCell c v->h'.IsCell c v:=λx c e v Y=>by
  have(o,ho,D):=Y;have y:c∉ch:=λz=>(j c z).2.2.1 x c e rfl;by_cases J:c∈X.fs
  .have(C,q):=slot c o (I.NP x c e) J y ho (I.JA x c e);show#[_,q,D]
  .show#[o,keep c o (I.NP x c e) J y ho (I.JA x c e),D]
 show#[I.ok,I.os,T,#[λb o e n h a=>?_,λb o e n h a=>?_,λb o e n a=>?_,λb o e a=>?_,λb xs e=>jY b xs (I.base.jY b xs e),λb o xs e=>Kk b o xs (I.base.Kk b o xs e),λb ps e=>?_],?_,λx c e=>?_,?_,λx c e=>?_,λp L=>?_,Q,I.len]
 .show keep b o (G b o e) h (B b o e a) (I.base.keep b o e n h a) (I.base.free b o e n a)
 .have(C,g):=I.base.slot b o e n h a;have(Wu,A):=slot b _ (G b o e) h (B b o e a) g (I.base.free b o e n a);show#[Wu,A]
 .have(o',g):=I.base.there b o e a;show free b o' (B b o e a) g (I.base.free b o e n a)
 .have(o',g):=I.base.there b o e a;show there b o' (B b o e a) g
 .have(m1,g):=I.base.Ks b ps e;have(m2,A):=Ks b _ g;show#[m1++m2,by rw[A,Array.append_assoc]]
 .have(m,hn,hl):=I.loc;show#[m,ns m hn,λi x v g A e3=>?_];have(u,r,l):=hl i x v g A e3;show#[u,r,?_];rcases l with l|⟨k,c,e,z⟩
  .show .inl l
  .show .inr #[k,c,e,f x c e _ z]
 .have(v,z):=I.cell x c e;show#[v,f x c e v z]
 .have(m,(o,_,_,ho,_),_):=I.loc;show free _ o (λz=>(j _ z).2.1 rfl) ho I.free
 .have(v,o,ho,D):=I.cell x c e;show free c o (λz=>(j c z).2.2.1 x c e rfl) ho (I.JA x c e)
 .have(e,n,N,O,d):=I.pin p L;have y:p.1∉ch:=λz=>(j p.1 z).2.2.2 p L rfl;show#[keep p.1 p.2 N O y e n,free p.1 p.2 y e n,N,O,d]
def Inv.un(I:Inv X pins σ H s)(u:Un X.fs [] H H' s.heap h')(d:JN X.prog X.w H' h'):Inv X pins σ H' {s with heap:=h',toks:=t' }:=by
 have(m,(o,es,ep,ho,r),_):=id I.loc;have(k,f):=u.any ho I.free (by simp);show I.step (g':=s.gens) (d':=s.drawn) (ch:=[]) (λ_ z=>nomatch z) (λb o _ a _ e n=>u.keep b o e n a (by simp)) (λb o _ a _ e n=>u.slot b o e n a (by simp)) (λb o _ e n=>u.free b o e n (by simp)) (λb o _ e=>u.there b o e (by simp)) u.jY u.Kk u.Ks (λl g=>by
  have(o',h,i,c,j):=g;rw[ho]at c;cases c;show#[_,h,i,f,j]) d I.bare
def Inv.call(I:Inv X pins σ H s)(u:Un (Kt X.stack) ch H H' s.heap h')(h:JN X.prog X.w H' h')(i:Se g')
  (f:∀b∈ch,(b∈X.ex\/X.s₀.heap.objs.size<=b)/\b≠X.env.locals/\(∀x c,X.env.cells.lookup x=a5 c->c≠b)/\∀p∈X.pn++pins,p.1≠b) :
  Inv X pins σ H' {s with heap:=h',gens:=g',drawn:=d',toks:=t' }:=by
 have(m,(o,es,ep,ho,r),_):=id I.loc;have(v,d):=u.any ho I.free λz=>(f _ z).2.1 rfl;show I.step (ch:=ch) f (λb o d j a e n=>u.keep b o e n (λz=>(gj.mp (I.kC b z)).elim d j) a) (λb o _ _ a e n=>u.any e n a) (λb o a e n=>u.free b o e n a) (λb o a e=>u.there b o e a) u.jY u.Kk u.Ks (λy k=>by
  have(o',l,q,g,t):=k;rw[ho]at g;cases g;show#[_,l,q,d,t]) h i
def Inv.turned(I:Inv X pins σ H s)(k:∀b o,b≠it->s.heap.get? b=a5 o->h'.get? b=a5 o)(g:H it=bD)(d:it≠X.env.locals)
  (h:it∈X.ex\/X.s₀.heap.objs.size<=it) (i:∀x c,X.env.cells.lookup x=a5 c->c≠it) (j:∀p∈X.pn++pins,p.1≠it):Inv X pins σ H {s with heap:=h',toks:=t' }:=by
 have f:∀b u,H b=a5 u->b≠it:=λb u e z=>by rw[z,g]at e;cases e
 show I.step (g':=s.gens) (d':=s.drawn) (ch:=[it]) (λb l=>?_) (λb o _ _ a e _=>k b o (λz=>a (by simp[z])) e) (λb o _ _ a e _=>#[o.slots,k b o (λz=>a (by simp[z])) e]) (λ_ _ _ _ n=>n)
  (λb o a e=>#[o,k b o (λz=>a (by simp[z])) e]) (λ_ _ e=>e) (λ_ _ _ e=>e) (λb ps e=>#[#v[],by rw[e];simp]) (λm t=>?_) (λb u e=>?_) I.bare
 .have e:b=it:=by simpa using l
  subst e;show#[h,d,i,j]
 .have(o,es,ep,ho,r):=t;show#[o,es,ep,k _ o (pq d) ho,r]
 .show(I.IE b u e).nS (λc v a q=>k c v ?_ q) (λ_ q=>q) λ_ _ q=>q;rcases a with z|z
  .rw[z];show f b u e
  .show f c _ z
def Inv.tok(I:Inv X pins σ H s)(t:Nat):Inv X pins σ H {s with toks:=t}:=I.un (h':=s.heap) (t':=t) Un.refl I.IE
def Inv.kept(I:Inv X pins σ H s)(k:∀b u,s.heap.get? b=a5 u->h'.get? b=a5 u):Inv X pins σ H {s with heap:=h',toks:=t' }:=I.un (Un.kept k) (I.IE.kept k)
def Inv.laid(I:Inv X pins σ H s)(k:∀b u,s.heap.get? b=a5 u->h'.get? b=a5 u)(c:s.heap.objs.size<=a)(new:bR X.prog X.w (upd H a o) h' a o):
  Inv X pins σ (upd H a o) {s with heap:=h',toks:=t' }:=I.un (Un.laid k c (I.IE.fresh c)) (I.IE.laid k c new)
def Inv.write(I:Inv X pins σ H s)(a:Pa (H x))(c:e=x\/H e=a5 (.own x))(k:∀b u,b≠e->s.heap.get? b=a5 u->h'.get? b=a5 u)(d:∃u,h'.get? e=a5 u)
  (new:bR X.prog X.w (upd H x o) h' x o):Inv X pins σ (upd H x o) {s with heap:=h',toks:=t' }:=I.un (Un.write a c k d) (I.IE.write a c k d new)
def Inv.weak(I:Inv X pins σ H s)(hl:a.length=σ.length)(w:∀(i:Nat) v,a[i]?=a5 (a5 v)->σ[i]?=a5 (a5 v)):Inv X pins a H s :=
 #[I.ok,I.os,I.bare,I.base,let ⟨m,b,c⟩:=I.loc;⟨m,b,λi x v d e f=>c i x v d (w i v e) f⟩,I.cell,I.free,I.JA,I.pin,I.IE,hl.trans I.len]
def Inv.gb(I:Inv X pins σ H s)(h:∀p∈a,s.heap.get? p.1=a5 p.2/\H p.1=bD/\p.1≠X.env.locals/\p.1∉X.fs/\∀v,p.2.data≠.cell v):Inv X a σ H s :=
 #[I.ok,I.os,I.bare,I.base,I.loc,I.cell,I.free,I.JA,λp b=>(i'.mp b).elim (λz=>I.pin p (Qk _ z)) (h p),I.IE,I.len]
def kD{N:List Str}(c:N.Nodup){i j:Nat}(a:N[i]?=a5 x)(b:N[j]?=a5 x):i=j:=by
 have(f,d):=df.mp a;have(g,e):=df.mp b;show(Z6 c).mp (d.trans e.symm)
def mN(I:Inv X pins σ H s)(hN:X.N.Nodup)(hi:X.N[i]?=a5 x)(l:Loc X.env.scope x)(r:RelV v u)
  (h:∀s',Inv X pins (σ.set i (a5 v)) H s'->(∃a,K2 a s.heap s'.heap/\(a=X.env.locals\/X.env.cells.lookup x=a5 a))->Q () s') (hf:X.fn x=a8\/X.env.scope.names.lookup x=a5 .local:=by first|show .inl rfl|show .inr rfl|assumption):gm M A (storeName X.env x u) Q E s:=by
 have(m,J,hl):=id I.loc;have RV:(X.env.scope.kind==.class||(X.env.scope.kind==.module&&X.env.locals != X.env.globals))=b6:=by rw[I.ok.kind];rfl
 have U5:i < σ.length:=by rw[I.len];show(df.mp hi).1
 have L:=I.NP;have f:∀{a:dt} {h':Km},(∃o,s.heap.get? a=a5 o/\H a=bD)->K2 a s.heap h'->JN X.prog X.w H h':=λ{a h'} ha hs b ob e=>by
  have(_,_,Ja):=ha;show(I.IE b ob e).nS (λc w' hc q=>(hs.2 c ?_).trans q) (λ_ q=>q) λ_ _ q=>q;rintro rfl;rcases hc with rfl|hc
  .rw[Ja]at e;cases e
  .rw[Ja]at hc;cases hc
 rcases l with hk|hk
 .show wpAny_storeName_local hk J (λh' QN hs=>?_) RV;have(oL,_,_,MS,_):=id J;show h _ #[I.ok,I.os,I.bare,#[λb o e n B l=>?_,λb o e n B l=>?_,I.base.free,λb o e l=>?_,I.base.jY,I.base.Kk,I.base.Ks],#[_,QN,λj y v' g t O=>?_],λy c e=>?_,I.free,I.JA,λp T=>?_,f #[oL,MS,I.free] hs,by simpa using I.len] ⟨_,hs,.inl rfl⟩
  .show(hs.2 b (i9 (ku (i5 e) I.ok.above))).trans (I.base.keep b o e n B l)
  .have(Y,g):=I.base.slot b o e n B l;show#[Y,(hs.2 b (i9 (ku (i5 e) I.ok.above))).trans g]
  .have(o',g):=I.base.there b o e l;show#[o',(hs.2 b (i9 (ku (i5 e) I.ok.above))).trans g]
  .by_cases C:j=i
   .subst C;rw[hi]at g;cases g;rw[dn U5]at t;cases t;show#[u,r,.inl #[hk,by simp]]
   .rw[ez (pq C)]at t;have(u',r',q):=hl j y v' g t O;show#[u',r',?_];rcases q with⟨k,e⟩|⟨k,c,e,z⟩
    .show .inl #[k,?_];have:y≠x:=λe=>C (kD hN g (e▸hi));simp[this,e]
    .show .inr #[k,c,e,z.sameBut hs (L y c e)]
  .have(w',z):=I.cell y c e;show#[w',z.sameBut hs (L y c e)]
  .have(e,n,D,nf,d):=I.pin p T;show#[(hs.2 p.1 D).trans e,n,D,nf,d]
 .have Lj:X.fn x=a8:=by
   rcases hf with z|z
   .show z
   .rw[z]at hk;cases hk
  have(c,hc):=I.ok.has x (.inl hk);have(w',z):=I.cell x c hc;show wpAny_storeName_cell I.ok.kind hk hc z (λh' Mz hs=>?_);have(oc,U6,RW):=id z;show h {s with heap:=h' } ⟨I.ok,I.os,I.bare,⟨λb o e n B l=>?_,λb o e n B l=>?_,I.base.free,λb o e l=>?_,I.base.jY,I.base.Kk,I.base.Ks⟩,⟨m,J.sameBut hs (pq (L x c hc)),λj y v' g t O=>?_⟩,λy G e=>?_,I.free,I.JA,λp T=>?_,f ⟨oc,U6,I.JA x c hc⟩ hs,by simpa using I.len⟩ ⟨c,hs,.inr hc⟩
  .show(hs.2 b (i9 (ku (i5 e) (I.ok.Pc x c Lj hc)))).trans (I.base.keep b o e n B l)
  .have(Y,g):=I.base.slot b o e n B l;show#[Y,(hs.2 b (i9 (ku (i5 e) (I.ok.Pc x c Lj hc)))).trans g]
  .have(o',g):=I.base.there b o e l;show#[o',(hs.2 b (i9 (ku (i5 e) (I.ok.Pc x c Lj hc)))).trans g]
  .by_cases C:j=i
   .subst C;rw[hi]at g;cases g;rw[dn U5]at t;cases t;show#[u,r,.inr #[.inl hk,c,hc,Mz]]
   .rw[ez (pq C)]at t;have(u',r',q):=hl j y v' g t O;show#[u',r',?_];rcases q with q|⟨k,G,e,z'⟩
    .show .inl q
    .show .inr #[k,G,e,z'.sameBut hs ?_];rintro rfl;show C (kD hN g (I.ok.inj _ _ _ e hc▸hi))
  .by_cases U7:G=c
   .subst U7;show#[_,Mz]
   .have(w2,z2):=I.cell y G e;show#[w2,z2.sameBut hs U7]
  .have(e,n,D,nf,d):=I.pin p T;show#[(hs.2 p.1 ?_).trans e,n,D,nf,d];intro q;rw[q,U6]at e;have q':oc=p.2:=ro e;show d w' (by rw[<-q'];show RW)
def pI(I:Inv X pins σ H s)(a:X.N.Nodup)(hi:X.N[i]?=a5 x)(b:Loc X.env.scope x)(r:RelV v u)
  (h:∀s',Inv X pins (σ.set i (a5 v)) H s'->Q () s') (c:X.fn x=a8\/X.env.scope.names.lookup x=a5 .local:=by first|show .inl rfl|show .inr rfl|assumption):gm M A (storeName X.env x u) Q E s :=
 mN I a hi b r (λs' d _=>h s' d) c
def Inv.Fj(I:Inv X pins σ H s)(ho:s'.os=s.os)(u:Un (Kt X.stack) ch H H' s.heap s'.heap)(a:JN X.prog X.w H' s'.heap)(d:Se s'.gens)
  (f:∀b∈ch,(b∈X.ex\/X.s₀.heap.objs.size<=b)/\b≠X.env.locals/\(∀x c,X.env.cells.lookup x=a5 c->c≠b)/\∀p∈X.pn++pins,p.1≠b):Inv X pins σ H' s':=by
 have(h',g',d',t',o'):=s';have e:o'=s.os:=ho;subst e;show I.call (g':=g') (t':=t') (d':=d') u a d f
end
@[reducible]noncomputable def XK:=dr->Option dt->Hp->Prop
@[reducible]noncomputable def St:=List (Option V)
@[reducible]noncomputable def VK:=V->Hp->Prop
@[reducible]noncomputable def TE:=St->Hp->VK->Prop
@[reducible]noncomputable def TT:=St->Hp->(Bool->Hp->Prop)->Prop
@[reducible]noncomputable def TA:=St->Hp->(List V->Hp->Prop)->Prop
structure Ends where
 nx:St->Hp->Prop
 rt:VK
 bk:St->Hp->Prop:=λ_ _=>False
 ct:St->Hp->Prop:=λ_ _=>False
@[reducible]noncomputable def TS:=Ends->St->Hp->Prop
abbrev EP(X:Cx)(a:List (dt×Obj))(σ:St)(Q:VK)(u:dr)(s':hQ):Prop:=∃v H',Inv X a σ H' s'/\RelV v u/\Q v H'
abbrev TP(X:Cx)(a:List (dt×Obj))(σ:St)(Q:Bool->Hp->Prop)(b:Bool)(s':hQ):Prop:=∃H',Inv X a σ H' s'/\Q b H'
abbrev AP(X:Cx)(a:List (dt×Obj))(σ:St)(Q:List V->Hp->Prop)(us:List dr)(s':hQ):Prop:=∃vs H',Inv X a σ H' s'/\Vals vs us/\Q vs H'
abbrev SP(X:Cx)(a:List (dt×Obj))(D:Ends)(f:Flow)(s':hQ):Prop :=
 match f with
 |.next=>∃b H',Inv X a b H' s'/\D.nx b H'
 |.brk=>∃b H',Inv X a b H' s'/\D.bk b H'
 |.cont=>∃b H',Inv X a b H' s'/\D.ct b H'
 |.ret u=>∃v b H',Inv X a b H' s'/\RelV v u/\D.rt v H'
abbrev PE(X:Cx)(e:lx)(t:TE):Prop :=
 ∀(a:List (dt×Obj)) (s:hQ) (σ:St) (H:Hp) (Q:VK),Inv X a σ H s->t σ H Q->gm (i4 X.prog X.w) X.A (sL e X.env) (EP X a σ Q) X.xe s
abbrev PT(X:Cx)(e:lx)(t:TT):Prop :=
 ∀(a:List (dt×Obj)) (s:hQ) (σ:St) (H:Hp) (Q:Bool->Hp->Prop),Inv X a σ H s->t σ H Q->gm (i4 X.prog X.w) X.A (isTrue e X.env (sL e X.env)) (TP X a σ Q) X.xe s
abbrev PW(X:Cx)(e:lx)(t:TT):Prop :=
 ∀(b:Sem dr) (a:List (dt×Obj)) (s:hQ) (σ:St) (H:Hp) (Q:Bool->Hp->Prop),Inv X a σ H s->t σ H Q->gm (i4 X.prog X.w) X.A (isTrue e X.env b) (TP X a σ Q) X.xe s
def PW.pt(h:PW X e t):PT X e t:=h _
abbrev PA(X:Cx)(es:List lx)(t:TA):Prop :=
 ∀(pos:Pos) (a:List (dt×Obj)) (s:hQ) (σ:St) (H:Hp) (Q:List V->Hp->Prop),Inv X a σ H s->t σ H Q->gm (i4 X.prog X.w) X.A (Zi (v3 pos (il es X.env))) (AP X a σ Q) X.xe s
abbrev PS(X:Cx)(st:wk)(t:TS):Prop :=
 ∀(a:List (dt×Obj)) (s:hQ) (σ:St) (H:Hp) (D:Ends),Inv X a σ H s->t D σ H->gm (i4 X.prog X.w) X.A (exec st X.env) (SP X a D) X.xe s
abbrev Jo(X:Cx)(st:List wk)(t:TS):Prop :=
 ∀(a:List (dt×Obj)) (s:hQ) (σ:St) (H:Hp) (D:Ends),Inv X a σ H s->t D σ H->gm (i4 X.prog X.w) X.A (execs st X.env) (SP X a D) X.xe s
def ID(h:gm M A t Q E s)(b:∀a s,Q a s->Q' a s):gm M A t Q' E s:=u5 h b λ_ _ x=>x
section
def bin(g:PE X a i)(j:PE X b tb){R:V->V->Hp->Prop}(I:Inv X c σ H s)(h:i σ H λx e=>tb σ e λy d=>R x y d)
 {Q:α->hQ->Prop} {f:dr->dr->Sem α}
    (k:∀v u s2 x y d,Inv X c σ d s2->RelV x v->RelV y u->R x y d->gm (i4 X.prog X.w) X.A (f v u) Q X.xe s2) :
    gm (i4 X.prog X.w) X.A (sL a X.env) (λv l=>gm (i4 X.prog X.w) X.A (sL b X.env) (λu m=>gm (i4 X.prog X.w) X.A (f v u) Q X.xe m) X.xe l) X.xe s:=by
  show ID (g c s σ H _ I h) λv s1 n=>?_;have(x,e,o,r1,p):=n;show ID (j c s1 σ e _ o p) λu s2 q=>?_;have(y,d,r,r2,t):=q;show k v u s2 x y d r r1 r2 t
abbrev C8(i:Nat):TE:=λσ H Q=>∃v,σ[i]?=a5 (a5 v)/\Q v H
abbrev tC(v:V):TE:=λ_ H Q=>Q v H
def aT(j:X.N[i]?=a5 x)(k:JL X.env.scope x)(d:(x==("__debug__":Str))=b6:=by decide)(n:(x==("__classdict__":Str))=b6:=by decide):PE X (.Name x pos) (C8 i):=by
 intro b s σ H Q I h;have(v,e,h):=h;have(m,o,hl):=I.loc;have(u,r,l):=hl i x v j e k;have a:EP X b σ Q u s:=#[v,H,I,r,h]
 rcases l with⟨hk,p⟩|⟨hk,c,f,g⟩
 .show Ò (wpAny_loadName_local I.ok.kind hk o p a) d
 .rcases hk with hk|hk
  .show Ò (wpAny_loadName_cell I.ok.kind hk f g a) d
  .show Ò (wpAny_loadName_free I.ok.kind hk f g a n) d
def jb:PE X (.Constant (.int i) j pos) (tC (.int i)):=λ_ _ _ H _ I h=>wpAny_Constant_int #[.int i,H,I.tok _,#[_,rfl],h]
def w9:PE X (.Constant (.bool b) j pos) (tC (.bl b)):=λ_ _ _ H _ I h=>Constant_bool #[.bl b,H,I,rfl,h]
def w_:PE X (.Constant .none j pos) (tC .IC):=λ_ _ _ H _ I h=>Constant_none #[.IC,H,I,rfl,h]
def nV:PE X (.Constant (.str x) j pos) (tC (.str x)):=λ_ _ _ H _ I h=>Calls.Constant_str #[.str x,H,I.tok _,#[_,rfl],h]
abbrev Gl(X:Cx)(x:Str):Prop:=X.env.kindOf x=a5 .globalImplicit
def gc(I:Inv X a σ H s)(b:Gl X x)(c:X.mg x=a5 u)(h:Q u s)
  (d:(x==("__debug__":Str))=b6:=by decide):gm (i4 X.prog X.w) X.A (sL (.Name x pos) X.env) Q E s :=
 V8 I.ok.kind b (Calls.loadGlobal_global (by rw[I.ok.glob];show I.mod.glob.keeps I.bk) c h) d
def dQ(I:Inv X a σ H s)(b:Gl X x)(c:X.mg x=bD)(d:zr x=a5 u)(h:Q u s)
  (e:x≠"__name__":=by decide) (f:(x==("__debug__":Str))=b6:=by decide):gm (i4 X.prog X.w) X.A (sL (.Name x pos) X.env) Q E s:=by
 have(j,g,i):=I.mod.blt;show V8 I.ok.kind b (Calls.loadGlobal_builtin (by rw[I.ok.glob];show I.mod.glob.keeps I.bk) c (by rw[I.ok.blt];show g.keeps I.bk) ((i x e).trans d) h) f
def Ak(a:Gl X x)(b:X.mg x=a5 u)(r:RelV v u)(c:(x==("__debug__":Str))=b6:=by decide):PE X (.Name x pos) (tC v) :=
 λ_ _ _ H _ I h=>gc I a b #[v,H,I,r,h] c
def Al(a:Gl X x)(b:X.mg x=bD)(c:zr x=a5 u)(r:RelV v u)(d:x≠"__name__":=by decide)(e:(x==("__debug__":Str))=b6:=by decide):PE X (.Name x pos) (tC v) :=
 λ_ _ _ H _ I h=>dQ I a b c #[v,H,I,r,h] d e
abbrev PC(X:Cx)(op:CmpOp)(a b:lx)(t:TE):Prop :=
 ∀(c:List (dt×Obj)) (s:hQ) (σ:St) (H:Hp) (Q:VK),Inv X c σ H s->t σ H Q ->
  gm (i4 X.prog X.w) X.A (sL a X.env) (λv d=>gm (i4 X.prog X.w) X.A (sL b X.env) (λu e=>gm (i4 X.prog X.w) X.A (NQ op v u) (EP X c σ Q) X.xe e) X.xe d) X.xe s
def xb(b:lx)(h:op≠.In)(a:op≠.NotIn):NR op b=b6:=by
 have c:(op==CmpOp.In)=b6:=by cases op<;>first|rfl|show absurd rfl h
 have d:(op==CmpOp.NotIn)=b6:=by cases op<;>first|rfl|show absurd rfl a
 cases b<;>simp[NR,c,d]
abbrev Fm(a:TE):TE:=λσ H Q=>a σ H λx b=>Q (.bl (!cb (x=.IC))) b
def RelV.xf(r:RelV x v):(v==rz)=cb (x=.IC):=by
 cases x with
 |IC=>cases r;rfl
 |bl _=>cases r;rfl
 |ref _=>cases r;rfl
 |ty _=>cases r;rfl
 |_=>have(t,rfl):=r;rfl
def Am(c:PE X a d):PC X .IsNot a (.Constant .none j pos') (Fm d):=by
 intro b s σ H Q I h;show ID (c b s σ H _ I h) λv s1 e=>?_;have(x,f,g,r1,i):=e;show Constant_none (isnot_none_gen #[.bl _,f,g,by rw[r1.xf];rfl,i])
abbrev tB(t:TE):TT:=λσ H Q=>t σ H λx a=>∃c,x=.bl c/\Q c a
def qT(h:PC X op a b t)(f:NR op b=b6:=by first|show xb _ (by decide) (by decide)|rfl):PT X (.Compare a [op] [b] pos) (tB t):=by
 intro e s σ H Q I g;show Tg (ID (h e s σ H _ I g) λv s1 f=>ID f λu s2 i=>ID i λc s3 ⟨x,j,k,r1,l⟩=>?_) f;have(d,rfl,q):=l;cases r1;show C1 #[j,k,q]
def C9(h:PE X e t)(c:∀a,isTrue e X.env a=(do let v <-a;R' e.pos;Ka [v] (Ô v)):=by intro _;rfl):PT X e (tB t):=by
 intro b s σ H Q I f;show isTrue_plain (ID (h b s σ H _ I f) λv s1 ⟨x,g,i,r1,j⟩=>?_) (c _);have(d,rfl,q):=j;cases r1;show C1 #[g,i,q]
abbrev Hs(t u:TT):TT:=λσ H Q=>t σ H λc a=>if c=a8 then u σ a Q else Q b6 a
abbrev Wy(t u:TT):TT:=λσ H Q=>t σ H λc a=>if c=a8 then Q a8 a else u σ a Q
abbrev Ht(t:TT):TT:=λσ H Q=>t σ H λc a=>Q (!c) a
def An(d:PT X a f):PW X (.BoolOp .And [a] pos) f:=by
 intro g b s σ H Q I h;show isTrue_and (ID (d b s σ H Q I h) λc s1 e=>?_);cases c with
 |true=>show ĕ e
 |false=>show e
def C_(d:PT X a f):PW X (.BoolOp .Or [a] pos) f:=by
 intro g b s σ H Q I h;show isTrue_or (ID (d b s σ H Q I h) λc s1 e=>?_);cases c with
 |false=>show isTrue_or_nil e
 |true=>show e
def Dc(j:PT X a k)(l:PW X (.BoolOp .And (b::e) pos) m):PW X (.BoolOp .And (a::b::e) pos) (Hs k m):=by
 intro n d s σ H Q I h;show isTrue_and (ID (j d s σ H _ I h) λc s1 o=>?_);have(f,g,i):=o;cases c with
 |true=>show l n d s1 σ f Q g i
 |false=>show#[f,g,i]
def Fo(j:PT X a k)(l:PW X (.BoolOp .Or (b::e) pos) m):PW X (.BoolOp .Or (a::b::e) pos) (Wy k m):=by
 intro n d s σ H Q I h;show isTrue_or (ID (j d s σ H _ I h) λc s1 o=>?_);have(f,g,i):=o;cases c with
 |true=>show#[f,g,i]
 |false=>show l n d s1 σ f Q g i
def xg(d:PT X a e):PT X (.UnaryOp .Not a pos) (Ht e):=by
 intro b s σ H Q I h;show isTrue_not (d b s σ H (λc f=>Q (!c) f) I h)
abbrev Fp(b tb:TE):TE:=λσ H Q=>b σ H λx a=>∃c,x=.bl c/\if c=a8 then tb σ a Q else Q (.bl b6) a
abbrev Fq(a:TE):TE:=λσ H Q=>a σ H λx b=>∃c,x=.bl c/\Q (.bl (!c)) b
def Dd(h:PE X a t):PE X (.BoolOp op [a] pos) t:=λb s σ H Q I c=>BoolOp_one (h b s σ H Q I c)
def De(j:PE X a k)(l:PE X (.BoolOp .And (b::e) pos) tb):PE X (.BoolOp .And (a::b::e) pos) (Fp k tb):=by
 intro d s σ H Q I h;show BoolOp_and (ID (j d s σ H _ I h) λv s1 m=>?_);have(x,g,i,r1,f):=m;have(c,rfl,f):=f;cases r1;show C1 ?_;cases c with
 |true=>show l d s1 σ g Q i f
 |false=>show#[.bl b6,g,i,rfl,f]
def Df(e:PE X a f):PE X (.UnaryOp .Not a pos) (Fq f):=by
 intro b s σ H Q I h;show UnaryOp_ (ID (e b s σ H _ I h) λv s1 g=>?_);have(x,i,j,r1,d):=g;have(c,rfl,d):=d;cases r1;show not_of (C1 #[.bl (!c),i,j,rfl,d])
end
abbrev Jk(K:PySem.W.Frag)(H:Hp)(a:dt)(xs:List V):Prop :=
 Rd H a (.lst xs) \/
  ∃(o:Obj) (b:Array dr) (n:Nat),K.lookup a=a5 o/\o.cls=.type "list"/\o.dict=bD/\o.data=.seq b n/\b.size<=cK/\Vals xs b.toList
abbrev Ji(K:PySem.W.Frag)(H:Hp)(a:dt)(xs:List V):Prop :=
 Rd H a (.tup xs) \/
  ∃(o:Obj) (b:Array dr) (n:Nat),K.lookup a=a5 o/\o.cls=.type "tuple"/\o.data=.seq b n/\b.size<=cK/\Vals xs b.toList
abbrev Hu:dr->Option V
 |.none=>a5 .IC
 |.bool b=>a5 (.bl b)
 |.int i _=>a5 (.int i)
 |.str x _=>a5 (.str x)
 |.bytes b _=>a5 (.O9 b)
 |.float b _=>a5 (.O_ b)
 |.ref a=>a5 (.ref a)
 |.type n=>a5 (.ty n)
 |_=>bD
def RelV.abs(r:RelV x u):Hu u=a5 x:=by
 cases x with
 |IC=>cases r;rfl
 |bl _=>cases r;rfl
 |ref _=>cases r;rfl
 |ty _=>cases r;rfl
 |_=>have(t,rfl):=r;rfl
def RelV.inj(r:RelV x u)(q:RelV y u):x=y:=ro (r.abs.symm.trans q.abs)
theorem Vals.inj:∀{xs ys:List V}{us:List dr},Vals xs us->Vals ys us->xs=ys
 |_,_,_,.nil,.nil=>rfl
 |_,_,_,.cons r t,.cons a t'=>by rw[r.inj a,Vals.inj t t']
section
def Jk.of{K:PySem.W.Frag}(h:H a=a5 (.lst xs)):Jk K H a xs:=.inl (.inl h)
def Ji.of{K:PySem.W.Frag}(h:H a=a5 (.tup xs)):Ji K H a xs:=.inl (.inl h)
def Inv.list(I:Inv X c σ H s)(h:Jk X.K H a xs):∃b:List dr,Vals xs b/\PlainL s.heap a b.toArray/\xs.length<=cK:=by
 rcases h with h|⟨o,b,n,hk,d,f,hs,hz,r⟩
 .have(z,b,n,r,e):=h.ok I.IE;show#[b,r,#[_,n,e,rfl,rfl,rfl],z]
 .show#[b.toList,r,#[o,n,I.KN a o hk,d,f,by simpa using hs],?_];have e:=r.length;simp only[rr]at e;lia
def Inv.tuple(I:Inv X c σ H s)(h:Ji X.K H a xs):∃b:List dr,Vals xs b/\Æ s.heap a b.toArray/\xs.length<=cK:=by
 rcases h with h|⟨o,b,n,hk,d,hs,hz,r⟩
 .have(z,b,r,p):=h.ok I.IE;show#[b,r,p,z]
 .show#[b.toList,r,#[o,I.KN a o hk,d,n,by simpa using hs],?_];have e:=r.length;simp only[rr]at e;lia
def Inv.pJ(I:Inv X b σ H s)(h:Jk X.K H a xs)(h':Jk X.K H a ys):xs=ys:=by
 have(f,r,(o,n,e,_,_,d),_):=I.list h;have(its',g,(o',j,c,_,_,d'),_):=I.list h';rw[e]at c;cases c;rw[d]at d';injection d' with i _
 have:f=its':=by simpa using ğ WX i
 subst this;show r.inj g
def Inv.mO(I:Inv X b σ H s)(h:Ji X.K H a xs)(h':Ji X.K H a ys):xs=ys:=by
 have(f,r,(o,e,_,n,d),_):=I.tuple h;have(its',g,(o',c,_,j,d'),_):=I.tuple h';rw[e]at c;cases c;rw[d]at d';injection d' with i _
 have:f=its':=by simpa using ğ WX i
 subst this;show r.inj g
end
@[reducible]noncomputable def Cx.mz(X:Cx)(E:dr->hQ->Prop):Cx:={X with xe:=E}
@[reducible]noncomputable def Cx.QO(X:Cx):Cx:=X.mz λ_ _=>False
def Cx.Ok.mz{X:Cx}(a:X.Ok)(E:dr->hQ->Prop):(X.mz E).Ok :=
 #[a.mod,a.kind,a.glob,a.blt,a.above,a.inj,a.has,a.Pc,a.hd,a.frames,a.QL,a.U3,a.bs,a.MQ,a.L7,a.MR,a.jU,a.NO]
def Cx.Ok.jc{X:Cx}(a:(X.mz E).Ok):X.Ok :=
 #[a.mod,a.kind,a.glob,a.blt,a.above,a.inj,a.has,a.Pc,a.hd,a.frames,a.QL,a.U3,a.bs,a.MQ,a.L7,a.MR,a.jU,a.NO]
section
def Inv.mz(I:Inv X a σ H s)(E:dr->hQ->Prop):Inv (X.mz E) a σ H s:=#[I.ok.mz E,I.os,I.bare,I.base,I.loc,I.cell,I.free,I.JA,I.pin,I.IE,I.len]
def Inv.jc(I:Inv (X.mz E) a σ H s):Inv X a σ H s:=#[I.ok.jc,I.os,I.bare,I.base,I.loc,I.cell,I.free,I.JA,I.pin,I.IE,I.len]
def SP.jc(h:SP (X.mz E) a D f s'):SP X a D f s':=by
 cases f with
 |ret u=>have(v,b,H',I,r,q):=h;show#[v,b,H',I.jc,r,q]
 |_=>have(b,H',I,q):=h;show#[b,H',I.jc,q]
def Jo.QO{st:List wk}(h:Jo X.QO st t):Jo X st t:=λa s σ H D I b =>
 u5 (h a s σ H D (I.mz _) b) (λ_ _ q=>q.jc) λ_ _ z=>KG z
end
section
variable{X:Cx}{st:wk}{rest:List wk}{t u:TS}{e:lx}{te:TE}{pos:Pos}
abbrev Fs:TS:=λD σ H=>D.nx σ H
abbrev Ft(t u:TS):TS:=λD σ H=>t {D with nx:=u D} σ H
def j8:Jo X [] Fs:=λ_ _ σ H _ I h=>S5 #[σ,H,I,h]
def bZ(b:PS X st t)(c:Jo X rest u):Jo X (st::rest) (Ft t u):=by
 intro a s σ H D I h;show ï (ID (b a s σ H {D with nx:=u D} I h) λf s1 q=>?_);cases f with
 |next =>
  have(d,H',g,q):=q;show c a s1 d H' D g q
 |_=>show q
def j9(b:PS X st t):Jo X [st] t:=by
 intro a s σ H D I h;show ï (ID (b a s σ H D I h) λf s1 q=>?_);cases f with
 |next=>show S5 q
 |_=>show q
def Inv.quiet(I:Inv X a σ H s):interactive X.env=b6:=by simp[interactive,I.ok.kind]
abbrev Cu(te:TE):TS:=λD σ H=>te σ H λ_ a=>D.nx σ a
def eZ(b:PE X e te)(hs:Mu e bD pos.line X.env=pure b6:=by rfl):PS X (.Expr e pos) (Cu te):=by
 intro a s σ H D I h;show wpAny_Expr_any (ID (b a s σ H _ I h) λv s1 ⟨x,c,d,r1,f⟩=>#[σ,c,d,f]) I.quiet hs
abbrev Hv(te:TE):TS:=λD σ H=>te σ H D.rt
def kF(b:PE X e te):PS X (.Return (a5 e) pos) (Hv te):=by
 intro a s σ H D I h;show wpAny_Return_some (ID (b a s σ H _ I h) λv s1 ⟨x,c,d,r1,f⟩=>#[x,σ,c,d,r1,f])
abbrev Hw(c:TT)(t u:TS):TS:=λD σ H=>c σ H λb a=>if b=a8 then t D σ a else u D σ a
def xh(k:PT X c l)(m:Jo X a t)(n:Jo X b u):PS X (.If c a b pos) (Hw l t u):=by
 intro f s σ H D I h;show wpAny_If (ID (k f s σ H _ I h) λd s1 o=>?_);have(g,i,j):=o;cases d with
 |true=>show m f s1 σ g D i j
 |false=>show n f s1 σ g D i j
end
@[reducible]noncomputable def TG:=V->St->Hp->(St->Hp->Prop)->Prop
@[reducible]noncomputable def OK:=List V->St->Hp->(St->Hp->Prop)->Prop
abbrev PG(X:Cx)(a:lx)(t:TG):Prop :=
 ∀(b:List (dt×Obj)) (s:hQ) (σ:St) (H:Hp) (v:V) (u:dr) (Q:St->Hp->Prop),Inv X b σ H s->RelV v u->t v σ H Q ->
  gm (i4 X.prog X.w) X.A (RZ a X.env u) (λ_ s'=>∃c H',Inv X b c H' s'/\Q c H') X.xe s
abbrev Pf(X:Cx)(ts:List lx)(t:OK):Prop :=
 ∀(a:List (dt×Obj)) (s:hQ) (σ:St) (H:Hp) (vs:List V) (us:List dr) (Q:St->Hp->Prop),Inv X a σ H s->Vals vs us->t vs σ H Q ->
  gm (i4 X.prog X.w) X.A (assignInOrder ((Pe ts X.env).map (·.2)) us) (λ_ s'=>∃b H',Inv X a b H' s'/\Q b H') X.xe s
@[reducible]noncomputable def Dg:=V->V->V->Hp->(Hp->Prop)->Prop
abbrev nW(X:Cx)(t:Dg):Prop :=
 ∀(a:List (dt×Obj)) (s:hQ) (σ:St) (H:Hp) (o i v:V) (b c u:dr) (Q:Hp->Prop),Inv X a σ H s->RelV o b->RelV i c->RelV v u->t o i v H Q ->
  gm (i4 X.prog X.w) X.A (SF b c u) (λ_ s'=>∃H',Inv X a σ H' s'/\Q H') X.xe s
@[reducible]noncomputable def RY:=V->V->Hp->VK->Prop
abbrev QP(X:Cx)(op:Á)(t:RY):Prop :=
 ∀(a:List (dt×Obj)) (s:hQ) (σ:St) (H:Hp) (x y:V) (v u:dr) (Q:VK),Inv X a σ H s->RelV x v->RelV y u->t x y H Q ->
  gm (i4 X.prog X.w) X.A (inplaceOp op v u) (EP X a σ Q) X.xe s
section
abbrev pK(i:Nat):TG:=λv σ H Q=>Q (σ.set i (a5 v)) H
def s_(b:X.N.Nodup)(hi:X.N[i]?=a5 x)(c:Loc X.env.scope x)(d:X.fn x=a8\/X.env.scope.names.lookup x=a5 .local:=by first|show .inl rfl|show .inr rfl|assumption):PG X (.Name x pos) (pK i):=by
 intro a s σ H v u Q I r h;show á (pI I b hi c r (λs' e=>#[_,H,e,h]) d)
abbrev Fu:OK:=λvs σ H Q=>vs=[]/\Q σ H
abbrev Cv(t:TG)(u:OK):OK:=λvs σ H Q=>∃v r,vs=v::r/\t v σ H λa H'=>u r a H' Q
def Ao:Pf X [] Fu:=by
 intro a s σ H vs us Q I r h;have(e,h):=h;subst e;cases r;show assignInOrder_nil #[σ,H,I,h]
def xi(b:PG X e t)(c:Pf X es u)
  (hs:(Pe (e::es) X.env).map (·.2)=RZ e X.env::(Pe es X.env).map (·.2):=by rfl):Pf X (e::es) (Cv t u):=by
 intro a s σ H vs us Q I r h;have(v,m,d,h):=h;subst d;cases r with
 |cons r f =>
  rw[hs];show assignInOrder_cons (ID (b a s σ H _ _ _ I r h) λ_ s1 g=>?_);have(i,j,k,l):=g;show c a s1 i j _ _ Q k f l
abbrev Hx(K:PySem.W.Frag)(n:Nat)(t:OK):TG:=λv σ H Q=>∃a xs,v=.ref a/\Ji K H a xs/\xs.length=n/\t xs σ H Q
def Dh(f:X.calm=a8)(h:Pf X es t)
  (g:(Pe es X.env).length=n:=by rfl) (i:(Pe es X.env).findIdx? (·.1)=bD:=by rfl):PG X (.Tuple es k pos) (Hx X.K n t):=by
 intro c s σ H v u Q I r d;have(a,xs,j,l,hl,d):=d;subst j;cases r;have(w,rv,m,hz):=I.tuple l;show assign_Tuple_tuple (I.ok.hd f) m (by simp[g,<-hl,rv.length]) i λh' p=>?_;have q:Inv X c σ H {s with heap:=h' }:=I.kept (t':=s.toks) λb o e=>p b o (i9 (i5 e)) e;show h c _ σ H xs _ Q q (by simpa using rv) d
abbrev Hy(a b:TE)(t:Dg):TG:=λv σ H Q=>a σ H λo c=>b σ c λi d=>t o i v d λe=>Q σ e
def xj(ho:PE X o d)(hi:PE X i e)(hs:nW X t)
  (f:∀v,RZ (.Subscript o i pos) X.env v=(do
   let b <-Ka [v] (sL o X.env)
   let c <-Ka [v,b] (sL i X.env)
   R' pos
   Ka [v,b,c] (SF b c v)
   V6 [v,b,c] []):=by intro _;rfl):PG X (.Subscript o i pos) (Hy d e t):=by
 intro a s σ H v u Q I r h;rw[f];show cL (zc (ID (ho a s σ H _ I h) λb s1 g=>?_));have(x,j,k,r1,l):=g;show cL (zc (ID (hi a s1 σ j _ k l) λc s2 m=>?_));have(y,n,p,r2,q):=m;show cL (Yo (cL (zc (ID (hs a s2 σ n x y v b c u _ p r1 r2 r q) λ_ s3 w=>?_))));have(z,A,B):=w;show wpAny_release #[σ,z,A,B]
abbrev Di(a:TE)(g:TG):TS:=λD σ H=>a σ H λx b=>g x σ b D.nx
def qU(c:PE X e d)(f:PG X b g)(hs:QE [b] e pos.line X.env=pure b6:=by rfl)(i:UX [b] e X.env=pure bD:=by rfl)
  (j:(Pe [b] X.env).map (·.2)=[RZ b X.env]:=by rfl):PS X (.Assign [b] e pos) (Di d g):=by
 intro a s σ H D I h;show wpAny_Assign_stores (ID (c a s σ H _ I h) λv s1 ⟨x,k,l,r1,m⟩=>?_) hs i;rw[j];show ID (f a s1 σ k x v _ l r1 m) λ_ s2 q=>q
def jd(b:X.N.Nodup)(hi:X.N[i]?=a5 x)(c:Loc X.env.scope x)(d:PE X e f)(hs:Mu e (a5 (.Name x pos')) pos.line X.env=pure b6:=by rfl)(g:X.fn x=a8\/X.env.scope.names.lookup x=a5 .local:=by first|show .inl rfl|show .inr rfl|assumption):
  PS X (.Assign [.Name x pos'] e pos) (Di f (pK i)):=by
 intro a s σ H D I h;show wpAny_Assign_Name (ID (d a s σ H _ I h) λv s1 ⟨y,j,k,r1,l⟩=>?_) hs;show pI k b hi c r1 (λs2 m=>#[_,j,m,l]) g
abbrev Fv(a b c:TE)(d:V->V->Hp->VK->Prop)(e:RY)(f:Dg):TS:=λD σ H=>a σ H λo g=>b σ g λi h=>d o i h λx j=>c σ j λy k=>e x y k λz l=>f o i z l λm=>D.nx σ m
abbrev Fw(X:Cx)(t:V->V->Hp->VK->Prop):Prop :=
 ∀(a:List (dt×Obj)) (s:hQ) (σ:St) (H:Hp) (o i:V) (b c:dr) (Q:VK),Inv X a σ H s->RelV o b->RelV i c->t o i H Q ->
  gm (i4 X.prog X.w) X.A (Rz b c) (EP X a σ Q) X.xe s
def Ap(ho:PE X o j)(hi:PE X i k)(l:Fw X m)(n:PE X e p)(q:QP X op r)(hs:nW X t)
  (u:∀b c new,Đ i b c new=(do Ka [new,b,c] (SF b c new);V6 [new,b,c] [];pure .next):=by intros;rfl):PS X (.AugAssign (.Subscript o i WG) op e pos) (Fv j k p m r t):=by
 intro a s σ H D I h;show wpAny_AugAssign_SubscriptAny (ID (ho a s σ H _ I h) λb s1 ⟨f,w,x,r1,y⟩=>?_) u;show ID (hi a s1 σ w _ x y) λc s2 z=>?_;have(g,A,B,r2,C):=z;show ID (l a s2 σ A f g b c _ B r1 r2 C) λd s3 G=>?_;have(J,L,N,O,Q):=G;show ID (n a s3 σ L _ N Q) λv s4 T=>?_;have(Y,H4,I4,r4,q4):=T;show ID (q a s4 σ H4 J Y d v _ I4 O r4 q4) λnew s5 R9=>?_;have(x5,H5,I5,r5,q5):=R9;show ID (hs a s5 σ H5 f g x5 b c new _ I5 r1 r2 r5 q5) λ_ s6 ⟨H6,I6,q6⟩=>#[σ,H6,I6,q6]
abbrev R_(f:Int->Int->Int):RY:=λx y H Q=>∃i j,x=.int i/\y=.int j/\Q (.int (f i j)) H
def Dj:QP X .Add (R_ λi j=>i+j):=by
 intro a s σ H x y v u Q I r1 r2 h;have(i,j,b,c,q):=h;subst b;subst c;have(t,rfl):=r1;have(t',rfl):=r2;show iadd_int #[.int _,H,I.tok _,#[_,rfl],q]
def Dk:QP X .Sub (R_ λi j=>i - j):=by
 intro a s σ H x y v u Q I r1 r2 h;have(i,j,b,c,q):=h;subst b;subst c;have(t,rfl):=r1;have(t',rfl):=r2;show isub_int #[.int _,H,I.tok _,#[_,rfl],q]
end
section
abbrev Dl(c:TT)(tb:TS):TS:=λD σ H=>∃W:Nat->St->Hp->Prop,(∃m,W m σ H)/\∀m σ H,W m σ H ->
 c σ H λb a=>if b=a8 then ∃N:St->Hp->Prop,(∀d H',N d H'->∃e,e<m/\W e d H')/\tb {D with nx:=N,ct:=N,bk:=D.nx} σ a else D.nx σ a
def xk(r:WA (i4 X.prog X.w) X.A X.env X.xe)(z:PT X c B)(C:Jo X body tb):PS X (.While c body [] pos) (Dl B tb):=by
 intro a s σ H D I h;have(W,(m0,G),d):=h;show wpAny_While (codeAny_whileLoop (λn s'=>∃t H',Inv X a t H' s'/\W n t H') ?_ m0 ⟨σ,H,I,G⟩);rintro n s1 ⟨i,u,J,L⟩;show Nk r (ID (z a s1 i u _ J (d n i u L)) λb s2 O=>?_);have(v,x,j):=O;cases b with
 |true =>
  have(N,y,j):=j;rw[ę rfl];show Nk r (ID (C a s2 i v _ x j) λf s3 k=>?_);cases f with
  |next =>
   have(e,g,l,m):=k;have(o,p,q):=y e g m;show#[o,p,e,g,l,q]
  |cont =>
   have(e,g,l,m):=k;have(o,p,q):=y e g m;show#[o,p,e,g,l,q]
  |_=>show k
 |false =>
  rw[Ě i6];show S5 #[i,v,x,j]
end
structure It where
 go:Nat->Hp->Prop
 QQ:Nat->Hp->V->Hp->Prop
 stop:Nat->Hp->Prop
abbrev gN(X:Cx)(a:List (dt×Obj))(H:Hp)(b:dt):Prop :=
 H b=bD/\b≠X.env.locals/\b∉X.fs/\(b∈X.ex\/X.s₀.heap.objs.size<=b)/\(∀x c,X.env.cells.lookup x=a5 c->c≠b)/\∀p∈X.pn++a,p.1≠b
def Inv.xl(I:Inv X a σ H s)(d:s.heap.objs.size<=b)(f:H' b=bD):gN X a H' b:=by
 show#[f,Ll (ku I.lt d),I.Fi d,.inr (vr I.sz d),λx c e z=>?_,λp g z=>?_]
 .have(v,q):=I.cell x c e;show absurd (ku q.lt (by rw[z];show d)) (vl _)
 .show absurd (ku (i5 (I.pin p g).1) (by rw[z];show d)) (vl _)
structure Turn(P:ux)(w:wh)(K:PySem.W.Frag)(tg:lx)(J:It)(fp:List dt)(it:dt)(tn:Nat->Km->Prop):Prop where
 mem:it∈fp
 obj:∀i h,tn i h->∀b∈fp,∃o,h.get? b=a5 o/\∀v,o.data≠.cell v
 keep:∀i h h',tn i h->(∀b∈fp,∀o,h.get? b=a5 o->h'.get? b=a5 o)->tn i h'
 item:∀(X:Cx),X.prog=P->X.w=w->X.K=K->X.calm=a8->∀(i:Nat) (pins:List (dt×Obj)) (s:hQ) (σ:St) (H:Hp) (E:dr->hQ->Prop),Inv X pins σ H s->(∀b∈fp,gN X pins H b)->tn i s.heap->J.go i H ->
  gm (i4 P w) X.A (Ww (.ref it)) (λr s1=>∃u,r=a5 u /\
   gm (i4 P w) X.A (S_ tg (.ref it) u) (λ_ s2=>∃x H',Inv X pins σ H' s2/\RelV x u/\J.QQ i H x H'/\tn (i+1) s2.heap/\∀b∈fp,H' b=bD) E s1) E s
 done:∀(X:Cx),X.prog=P->X.w=w->X.K=K->X.calm=a8->∀(i:Nat) (pins:List (dt×Obj)) (s:hQ) (σ:St) (H:Hp) (E:dr->hQ->Prop),Inv X pins σ H s->(∀b∈fp,gN X pins H b)->tn i s.heap->J.stop i H ->
  gm (i4 P w) X.A (Ww (.ref it)) (λr s1=>r=bD/\Inv X pins σ H s1) E s
 self:∀(A:Mx) (i:Nat) (s:hQ) (Q:dr->hQ->Prop) (E:dr->hQ->Prop),tn i s.heap->Q (.ref it) s->gm (i4 P w) A (Zo (.ref it)) Q E s
@[reducible]noncomputable def TI:=St->Hp->(It->Hp->Prop)->Prop
abbrev U8(X:Cx)(a:List (dt×Obj))(σ:St)(e:lx)(R:It->Hp->Prop)(f:dr)(s2:hQ):Prop :=
 ∃(it:dt) (c:List dt) (d:Nat->Km->Prop) (J:It) (H':Hp),f=.ref it/\Inv X a σ H' s2/\Turn X.prog X.w X.K e J c it d/\d 0 s2.heap/\(∀b∈c,gN X a H' b)/\R J H'
abbrev PI(X:Cx)(c b:lx)(d:TI):Prop :=
 ∀(a:List (dt×Obj)) (s:hQ) (σ:St) (H:Hp) (R:It->Hp->Prop),Inv X a σ H s->d σ H R ->
  gm (i4 X.prog X.w) X.A (sL b X.env) (λv s1=>gm (i4 X.prog X.w) X.A (Zo v) (U8 X a σ c R) X.xe s1) X.xe s
def tf(ho:s.heap.get? it=a5 o)(b:o.cls=.type n)(c:o.data=.fields vs)
    (d:["enumerate","zip","dict_itemiterator","dict_reverseitemiterator","odict_iterator","itertools.zip_longest","itertools.pairwise"].contains n=b6) (a:Q () s):gm M A (S_ e (.ref it) u) Q E s:=by
  unfold S_;cases e<;>first
    | show fx a
    | (cases u<;>first
        | show fx a
        | (show cL (wpAny_load ho ?_)
           rw[b,c];change gm M A (if (["enumerate","zip","dict_itemiterator","dict_reverseitemiterator","odict_iterator","itertools.zip_longest","itertools.pairwise"].contains n&&vs[0]?==a5 (Õ _))=a8 then _ else _) Q E s;rw[Ě (by intro h;rw[d,Bool.false_and]at h;cases h)];show fx a))
abbrev Sb(K:PySem.W.Frag)(a:dt):It :=
 #[λi H=>∃xs x,Jk K H a xs/\xs[i]?=a5 x,λi H x H'=>H'=H/\∀xs,Jk K H a xs->xs[i]?=a5 x,λi H=>∃xs,Jk K H a xs/\xs.length<=i]
abbrev Sd(K:PySem.W.Frag)(a:dt):It :=
 #[λi H=>∃xs x,Ji K H a xs/\xs[i]?=a5 x,λi H x H'=>H'=H/\∀xs,Ji K H a xs->xs[i]?=a5 x,λi H=>∃xs,Ji K H a xs/\xs.length<=i]
abbrev Ph(lo:Int)(n:Nat):It:=#[λi _=>i<n,λi H x H'=>H'=H/\x=.int (lo+i),λi _=>n<=i]
def uY{K:PySem.W.Frag}(a it:dt):Turn P w K tg (Sb K a) [it] it (λi h=>h.IsListIter it a i) where
 mem:=by simp
 obj:=λi h st b g=>by
  have e:b=it:=by simpa using g
  subst e;have(o,e,c,d):=st;show#[o,e,λv z=>by rw[d]at z;cases z]
 keep:=λi h h' st k=>st.at λo e=>k it (by simp) o e
 item:=by
  intro X m n q G i f s σ H E I j st r;subst m n q;have(xs,x,l,t):=r;have(J,rv,p,hz):=I.list l;have(u,L,N):=rv.get t;have(y,A,O,B,C,D):=j it (by simp);show wpAny_pyNext_list_item st p.isList (x:=u) (by simpa using L) λh' st' Q=>?_;have T:Inv X f σ H {s with heap:=h' }:=I.turned (t':=s.toks) (λb o g e=>(Q.2 b g).trans e) y A B C D;have(o,e,c,d):=id st';show#[u,rfl,tf (s:={s with heap:=h' }) e c d (by decide) ⟨x,H,T,N,⟨rfl,λys Y=>by rw[I.pJ Y l];show t⟩,st',λb g=>(j b g).1⟩]
 done:=by
  intro X m n q G i f s σ H E I j st r;subst m n q;have(xs,l,t):=r;have(J,rv,p,hz):=I.list l;have(y,A,O,B,C,D):=j it (by simp);have hl:=rv.length;show wpAny_pyNext_list_end (I.ok.hd G) st p.isList (by simp;lia) λh' eb=>#[rfl,I.turned (t':=s.toks) (λb o g e=>eb b o g e) y A B C D]
 self:=λ_ _ _ _ _ st h=>wpAny_pyIter_listiter st h
def qV{K:PySem.W.Frag}(a it:dt):Turn P w K tg (Sd K a) [it] it (λi h=>h.IsTupleIter it a i) where
 mem:=by simp
 obj:=λi h st b g=>by
  have e:b=it:=by simpa using g
  subst e;have(o,e,c,d):=st;show#[o,e,λv z=>by rw[d]at z;cases z]
 keep:=λi h h' st k=>st.at λo e=>k it (by simp) o e
 item:=by
  intro X m n q J i f s σ H E I j st r;subst m n q;have(xs,x,l,t):=r;have(y,rv,p,hz):=I.tuple l;have(u,L,N):=rv.get t;have(A,B,O,C,D,G):=j it (by simp);show wpAny_pyNext_tuple_item st (show s.heap.IsTuple a y.toArray from p) (x:=u) (by simpa using L) λh' st' Q=>?_;have T:Inv X f σ H {s with heap:=h' }:=I.turned (t':=s.toks) (λb o g e=>(Q.2 b g).trans e) A B C D G;have(o,e,c,d):=id st';show#[u,rfl,tf (s:={s with heap:=h' }) e c d (by decide) ⟨x,H,T,N,⟨rfl,λys Y=>by rw[I.mO Y l];show t⟩,st',λb g=>(j b g).1⟩]
 done:=by
  intro X m n q J i f s σ H E I j st r;subst m n q;have(xs,l,t):=r;have(y,rv,p,hz):=I.tuple l;have(A,B,O,C,D,G):=j it (by simp);have hl:=rv.length;show wpAny_pyNext_tuple_end (I.ok.hd J) st (show s.heap.IsTuple a y.toArray from p) (by simp;lia) λh' eb=>#[rfl,I.turned (t':=s.toks) (λb o g e=>eb b o g e) A B C D G]
 self:=λ_ _ _ _ _ st h=>wpAny_pyIter_tupleiter st h
def qW{K:PySem.W.Frag}(it:dt)(lo:Int)(n:Nat):Turn P w K L (Ph lo n) [it] it (λi h=>IsRangeIter h it (lo+(i:Nat) * 1) ((n:Int) - (i:Nat)) 1) where
 mem:=by simp
 obj:=λi h st b c=>by
  have e:b=it:=by simpa using c
  subst e;show#[_,st,λv z=>by
   have A:Vp _=Z3 v:=z;cases A]
 keep:=λi h h' st k=>k it (by simp) _ st
 item:=by
  intro X f g j l i a s σ H E I d st m;subst f g j;have(p,q,B,r,u,x):=d it (by simp);have W:=Walks.range (prog:=X.prog) (w:=X.w) (I.ok.hd l) it lo 1 n;show W.item i s _ _ m st λv h' y C st' D=>?_;have(t,rfl):=C;have G:Inv X a σ H {s with heap:=h',toks:=y}:=I.turned (λb o c e=>D b o (by simpa using c) e) p q r u x;show#[_,rfl,tf (s:={s with heap:=h',toks:=y}) (n:="range_iterator") st' rfl rfl (by decide) ⟨.int (lo+i),H,G,⟨t,?_⟩,⟨rfl,rfl⟩,st',λb c=>(d b c).1⟩];rw[Int.mul_one]
 done:=by
  intro X f g j l i a s σ H E I d st m;subst f g j;have(p,q,B,r,u,x):=d it (by simp);show wpAny_pyNext_range_end (I.ok.hd l) st (by have:n<=i:=m;lia) λh' J=>#[rfl,I.turned (t':=s.toks) (λb o c e=>J b o c e) p q r u x]
 self:=λ_ _ _ _ _ st h=>wpAny_pyIter_rangeiter st h
section
abbrev Fx(K:PySem.W.Frag)(c:TE):TI:=λσ H R=>c σ H λx b=>∃a,x=.ref a/\(∃xs,Jk K b a xs)/\R (Sb K a) b
abbrev Hz(K:PySem.W.Frag)(c:TE):TI:=λσ H R=>c σ H λx b=>∃a,x=.ref a/\(∃xs,Ji K b a xs)/\R (Sd K a) b
def Aq(hl:PE X l f):PI X n l (Fx X.K f):=by
 intro c s σ H R I h;show ID (hl c s σ H _ I h) λv s1 g=>?_;have(x,i,d,r1,j):=g;have(a,e,(xs,k),q):=j;subst e;cases r1;have(r,rv,p,hz):=d.list k;show VN p.isList ?_;show#[s1.heap.objs.size,[s1.heap.objs.size],_,_,i,rfl,d.kept (t':=s1.toks) λb o e=>c4 _ e,uY a _,#[_,hW _ rfl,rfl,rfl],λb m=>?_,q];have e:b=s1.heap.objs.size:=by simpa using m
 subst e;show d.xl (hY _) (d.IE.fresh (hY _))
def Dm(hl:PE X l f):PI X r l (Hz X.K f):=by
 intro c s σ H R I h;show ID (hl c s σ H _ I h) λv s1 g=>?_;have(x,i,d,r1,j):=g;have(a,e,(xs,k),q):=j;subst e;cases r1;have(m,rv,p,hz):=d.tuple k;show Pb (show s1.heap.IsTuple a m.toArray from p) ?_;show#[s1.heap.objs.size,[s1.heap.objs.size],_,_,i,rfl,d.kept (t':=s1.toks) λb o e=>c4 _ e,qV a _,#[_,hW _ rfl,rfl,rfl],λb n=>?_,q];have e:b=s1.heap.objs.size:=by simpa using n
 subst e;show d.xl (hY _) (d.IE.fresh (hY _))
def pL{lo hi:Int}(I:Inv X a σ H s)(f:-(2 ^ 62)<=lo)(g:lo<2 ^ 62)(h:-(2 ^ 62)<=hi)(i:hi<2 ^ 62)
  (q:R (Ph lo (hi - lo).toNat) H):gm (i4 X.prog X.w) X.A (Zo (.ref s.heap.objs.size)) (U8 X a σ m R) E {s with heap:=s.heap.push {cls:=.type "range",data:=.fields #v[.int lo t,.int hi u,.int 1 v]},toks:=d}:=by
 show wpAny_pyIter_range (IsRange.new ..) (small_one f g h i) ?_;have c:Inv X a σ H {s with heap:=s.heap.push {cls:=.type "range",data:=.fields #v[.int lo t,.int hi u,.int 1 v]},toks:=d}:=I.kept λb o e=>c4 _ e;show#[(s.heap.push {cls:=.type "range",data:=.fields #v[.int lo t,.int hi u,.int 1 v]}).objs.size,[(s.heap.push {cls:=.type "range",data:=.fields #v[.int lo t,.int hi u,.int 1 v]}).objs.size],_,_,H,rfl,
  c.kept (t':=d) λb o e=>c4 _ e,qW _ lo (hi - lo).toNat,?_,λb j=>?_,q]
 .have k:lo+((0:Nat):Int) * 1=lo:=by simp
  have l:(((hi - lo).toNat:Nat):Int) - ((0:Nat):Int)=ö lo hi 1:=by rw[rangeSize_one];split<;>lia
  change IsRangeIter _ _ (lo+((0:Nat):Int) * 1) ((((hi - lo).toNat:Nat):Int) - ((0:Nat):Int)) 1;rw[k,l];show hW _ rfl
 .have e:b=(s.heap.push {cls:=.type "range",data:=.fields #v[.int lo t,.int hi u,.int 1 v]}).objs.size:=by simpa using j
  subst e;show c.xl (hY _) (c.IE.fresh (hY _))
abbrev Fy(a:TA):TI:=λσ H R=>a σ H λvs b=>∃j:Int,vs=[.int j]/\-(2 ^ 62)<=j/\j<2 ^ 62/\R (Ph 0 j.toNat) b
abbrev Fz(a:TA):TI:=λσ H R=>a σ H λvs b=>∃i j:Int,vs=[.int i,.int j]/\(-(2 ^ 62)<=i/\i<2 ^ 62/\-(2 ^ 62)<=j/\j<2 ^ 62)/\R (Ph i (j - i).toNat) b
def uZ(d:Gl X "range")(f:X.mg "range"=bD)(g:PA X [a] i)(hs:il [a] X.env=[(b6,sL a X.env)]:=by rfl):PI X n (.Call (.Name "range" p) [a] [] pos) (Fy i):=by
 intro b s σ H R I h;show Call_ (dQ I d f boot_range (Hf (ID (g pos b s σ H _ I h) λus s1 ⟨vs,o,k,r1,c⟩=>?_) hs rfl));have(j,e,c,l,q):=c;subst e;cases r1 with
 |cons r m =>
  cases m;have(t,rfl):=r;show call_range_1 (pL k ⋯ ⋯ c l (by simpa using q))
def u6(k:Gl X "range")(l:X.mg "range"=bD)(m:PA X [a,b] n)(hs:il [a,b] X.env=[(b6,sL a X.env),(b6,sL b X.env)]:=by rfl)(g:il [b] X.env=[(b6,sL b X.env)]:=by rfl):
  PI X y (.Call (.Name "range" p) [a,b] [] pos) (Fz n):=by
 intro c s σ H R I h;show Call_ (dQ I k l boot_range (Hf (ID (m pos c s σ H _ I h) λus s1 ⟨vs,z,o,r1,d⟩=>?_) (by rw[hs,g]) (by rw[g];rfl)));have(i,j,e,(d,u,v,w),q):=d;subst e;cases r1 with
 |cons r f =>
  cases f with
  |cons x f =>
   cases f;have(t,rfl):=r;have(t',rfl):=x;show call_range_2 (pL o d u v w q)
abbrev HA(c:TI)(g:TG)(tb:TS):TS:=λD σ H=>c σ H λJ d=>∃W:Nat->Nat->St->Hp->Prop,(∃m,W 0 m σ d)/\∀i m σ H,W i m σ H ->
 (J.stop i H/\D.nx σ H)\/(J.go i H/\∃N:St->Hp->Prop,(∀a H',N a H'->∃b,b<m/\W (i+1) b a H')/\∀x H',J.QQ i H x H'->g x σ H' λe f=>tb {D with nx:=N,ct:=N,bk:=D.nx} e f)
abbrev kG(a:List dt)(h:Km):List (dt×Obj):=a.filterMap λb=>(h.get? b).map λo=>(b,o)
def e_(a:b∈c)(e:h.get? b=a5 o):(b,o)∈kG c h:=Zf.mpr #[b,a,by rw[e];rfl]
def u7(a:p∈kG c h):p.1∈c/\h.get? p.1=a5 p.2:=by
 have(b,d,e):=Zf.mp a;cases q:h.get? b with
 |none=>rw[q]at e;cases e
 |some o =>
  rw[q]at e;have f:(b,o)=p:=ro e;subst f;show#[d,q]
def Inv.pinned(I:Inv X a σ H s)(h:∀b∈c,gN X a H b)(ho:∀b∈c,∃o,s.heap.get? b=a5 o/\∀v,o.data≠.cell v):Inv X (a++kG c s.heap) σ H s :=
 I.gb λp i=>(i'.mp i).elim (λz=>I.pin p (tA _ z)) λz=>by
  have(f,e):=u7 z;have(j,k,l,_):=h p.1 f;have(o,g,d):=ho p.1 f;rw[e]at g;cases g;show#[e,j,k,l,d]
def Inv.kH(I:Inv X (a++pl) σ H s):Inv X a σ H s:=I.gb λp b=>I.pin p (tA _ (Qk _ b))
def Dn(t:WA (i4 X.prog X.w) X.A X.env X.xe)(hc:X.calm=a8)(hi:PI X tg p wi)(hg:PG X tg g)(c:Jo X body tb)
  (hs:∀x,L0 p X.env x=pure x:=by intro _;rfl):PS X (.For tg p body [] pos) (HA wi g tb):=by
 intro a s σ H D I h;show wpAny_For (ID (hi a s σ H _ I h) λv s1 h1=>ID h1 λQR s2 h2=>?_) hs;have(it,y,tn,J,H2,e,I2,T,st2,f2,W,(m0,w0),z):=h2;subst e;have O:∀{H':Hp},(∀b∈y,H' b=bD)->∀b∈y,gN X a H' b:=λhn b c=>#[hn b c,(f2 b c).2]
 show codeAny_forLoop_any (λn s'=>∃i B H',Inv X a B H' s'/\tn i s'.heap/\(∀b∈y,H' b=bD)/\W i n B H') ?_ m0 ⟨0,σ,H2,I2,st2,λb c=>(f2 b c).1,w0⟩;rintro n s3 ⟨i,C,L,I3,st3,Pj,w3⟩;rcases z i n C L w3 with⟨G,qn⟩|⟨go,N,hN,Z9⟩
 .show Nk t (ID (T.done X rfl rfl rfl hc i a s3 C L X.xe I3 (O Pj) st3 G) λr s4 Sg=>?_);have(Q,I4):=Sg;subst Q;show S5 #[C,L,I4,qn]
 .show Nk t (ID (T.item X rfl rfl rfl hc i a s3 C L X.xe I3 (O Pj) st3 go) λr s4 Sh=>?_);have(u,Q,h4):=Sh;subst Q;show Nk t (ID h4 λ_ s5 Si=>?_);have(x,H5,I5,r5,y5,st5,Sj):=Si;have Sk:=I5.pinned (O Sj) (T.obj _ _ st5);show Nk t (ID (hg _ s5 C H5 x u _ Sk r5 (Z9 x H5 y5)) λ_ s6 Sl=>?_);have(σ6,H6,I6,q6):=Sl;show Nk t (ID (c _ s6 σ6 H6 _ I6 q6) λf Y q=>?_);have again:∀{j:St} {k:Hp},Inv X (a++kG y s5.heap) j k Y->N j k->∃m,m<n/\∃i B H',Inv X a B H' Y/\tn i Y.heap/\(∀b∈y,H' b=bD)/\W i m B H':=λ{j k} l n7=>by
   have(m',hm,w7):=hN j k n7;show#[m',hm,i+1,j,k,l.kH,T.keep _ _ _ st5 λb c o e=>(l.pin (b,o) (tA _ (tA _ (e_ c e)))).1,λb c=>?_,w7];have(o,e,d):=T.obj _ _ st5 b c;show(l.pin (b,o) (tA _ (tA _ (e_ c e)))).2.1
  cases f with
  |brk=>have(j,k,l,q):=q;show#[j,k,l.kH,q]
  |ret v=>have(x7,j,k,l,r7,q):=q;show#[x7,j,k,l.kH,r7,q]
  |_=>have(j,k,l,n7):=q;show again l n7
end
@[reducible]noncomputable def R2:=V->V->Hp->VK->Prop
abbrev Ku(X:Cx)(f:dr->dr->Sem dr)(r:R2):Prop :=
 ∀(a:List (dt×Obj)) (s:hQ) (σ:St) (H:Hp) (x y:V) (v u:dr) (Q:VK),Inv X a σ H s->RelV x v->RelV y u->r x y H Q ->
  gm (i4 X.prog X.w) X.A (f v u) (EP X a σ Q) X.xe s
abbrev gH(X:Cx)(f:dr)(r:List V->Hp->VK->Prop):Prop :=
 ∀(a:List (dt×Obj)) (s:hQ) (σ:St) (H:Hp) (xs:List V) (us:List dr) (Q:VK),Inv X a σ H s->Vals xs us->r xs H Q ->
  gm (i4 X.prog X.w) X.A (MN f us) (EP X a σ Q) X.xe s
abbrev HB(X:Cx)(r:V->Hp->(Bool->Hp->Prop)->Prop):Prop :=
 ∀(a:List (dt×Obj)) (s:hQ) (σ:St) (H:Hp) (x:V) (v:dr) (Q:Bool->Hp->Prop),Inv X a σ H s->RelV x v->r x H Q ->
  gm (i4 X.prog X.w) X.A (Ô v) (TP X a σ Q) X.xe s
abbrev WH(r:R2)(a tb:TE):TE:=λσ H Q=>a σ H λx b=>tb σ b λy c=>r x y c Q
abbrev rI(C:Int->Int->Prop)(g:Int->Int->V):R2:=λx y H Q=>∃i j,x=.int i/\y=.int j/\C i j/\Q (g i j) H
abbrev NU(g:Int->Int->V):R2:=λx y H Q=>∃i j,x=.int i/\y=.int j/\Q (g i j) H
section
def HC(g:PE X a i)(j:PE X b tb){R:V->V->Hp->Prop}(I:Inv X c σ H s)
  (h:i σ H λx e=>tb σ e λy d=>R x y d) {f:dr->dr->Sem dr}
  (k:∀v u s2 x y d,Inv X c σ d s2->RelV x v->RelV y u->R x y d->gm (i4 X.prog X.w) X.A (f v u) Q X.xe s2) :
  gm (i4 X.prog X.w) X.A (sL a X.env) (λv l=>gm (i4 X.prog X.w) X.A (sL b X.env) (λu m=>gm (i4 X.prog X.w) X.A (f v u) Q X.xe m) X.xe l) X.xe s:=by
 show ID (g c s σ H _ I h) λv s1 n=>?_;have(x,e,o,r1,p):=n;show ID (j c s1 σ e _ o p) λu s2 q=>?_;have(y,d,r,r2,t):=q;show k v u s2 x y d r r1 r2 t
def QS{g:Int->Int->Int}
  (Ċ:∀(i j:Int) (t u:Tok) (s:hQ) (Q:dr->hQ->Prop) (E:dr->hQ->Prop),C i j->Q (.int (g i j) s.toks) {s with toks:=s.toks+1}->gm (i4 X.prog X.w) X.A (f (.int i t) (.int j u)) Q E s) :
  Ku X f (rI C λi j=>.int (g i j)):=by
 intro a s σ H x y v u Q I b c h;have(i,j,rfl,rfl,d,q):=h;have(t,rfl):=b;have(t',rfl):=c;show Ċ i j t t' s _ _ d #[.int (g i j),H,I.tok _,#[_,rfl],q]
def FA{g:Int->Int->Int}
  (Ċ:∀(i j:Int) (t u:Tok) (s:hQ) (Q:dr->hQ->Prop) (E:dr->hQ->Prop),Q (.int (g i j) s.toks) {s with toks:=s.toks+1}->gm (i4 X.prog X.w) X.A (f (.int i t) (.int j u)) Q E s) :
  Ku X f (NU λi j=>.int (g i j)):=by
 intro a s σ H x y v u Q I b c h;have(i,j,rfl,rfl,q):=h;have(t,rfl):=b;have(t',rfl):=c;show Ċ i j t t' s _ _ #[.int (g i j),H,I.tok _,#[_,rfl],q]
def Dp{g:Int->Int->Bool}
  (Ċ:∀(i j:Int) (t u:Tok) (s:hQ) (Q:dr->hQ->Prop) (E:dr->hQ->Prop),Q (.bool (g i j)) s->gm (i4 X.prog X.w) X.A (f (.int i t) (.int j u)) Q E s) :
  Ku X f (NU λi j=>.bl (g i j)):=by
 intro a s σ H x y v u Q I b c h;have(i,j,rfl,rfl,q):=h;have(t,rfl):=b;have(t',rfl):=c;show Ċ i j t t' s _ _ #[.bl (g i j),H,I,rfl,q]
abbrev HD(i j:Int):Prop:=0<j/\j<1073741824
abbrev HE(i j:Int):Prop:=0<=j/\j<=1000000/\i.natAbs<2 ^ 64
abbrev Dq(i j:Int):Prop:=(-(2 ^ 64)<i/\i<2 ^ 64)\/(-(2 ^ 64)<j/\j<2 ^ 64)
def Dq.ok(h:Dq i j):IntMulOk i j:=by
 rcases h with⟨a,b⟩|⟨a,b⟩
 .show .of_left (intBits_le_64 a b)
 .show .of_right (intBits_le_64 a b)
def dv:Ku X (OV .Add) (NU λi j=>.int (i+j)):=FA λ_ _ _ _ _ _ _ q=>add_int q
def qX:Ku X (OV .Sub) (NU λi j=>.int (i - j)):=FA λ_ _ _ _ _ _ _ q=>sub_int q
def nX:Ku X (OV .Mult) (rI Dq λi j=>.int (i * j)):=QS λ_ _ _ _ _ _ _ a q=>mul_int q a.ok
def Ar:Ku X (OV .FloorDiv) (rI HD λi j=>.int (i / j)):=QS λi j _ _ _ _ _ a q=>by
 have b:(0:Int)<j:=a.1;have c:j<1073741824:=a.2;show floordiv_int ⋯ (by rw[Int.fdiv_eq_ediv_of_nonneg i ⋯];show q) (.inl (PyProof.noPylong_small ⋯))
def b7:Ku X (OV .Mod) (rI (λ_ j=>0<j) λi j=>.int (i % j)):=QS λi j _ _ _ _ _ a q=>by
 have b:(0:Int)<j:=a;show mod_int' ⋯ (by rw[Int.fmod_eq_emod_of_nonneg i ⋯];show q)
def nY:Ku X (OV .Pow) (rI HE λi j=>.int (i ^ j.toNat)):=QS λ_ _ _ _ _ _ _ a q=>pow_int_small a.1 a.2.1 a.2.2 q
end
section
def Dr(I:Inv X a σ H s)(q:Q (.bl k) H)(e:k=k'):EP X a σ Q (.bool k') s:=by
 subst e;show#[.bl k,H,I,rfl,q]
def FC:Ku X (NQ .Lt) (NU λi j=>.bl (cb (i<j))):=Dp λ_ _ _ _ _ _ _ q=>lt_int q
def FD:Ku X (NQ .Gt) (NU λi j=>.bl (cb (j<i))):=Dp λ_ _ _ _ _ _ _ q=>gt_int q
def FE:Ku X (NQ .GtE) (NU λi j=>.bl (cb (j<=i))):=Dp λ_ _ _ _ _ _ _ q=>ge_int q
def u9:Ku X (NQ .In) (λx y H Q=>∃i j,x=.str i/\y=.str j/\Q (.bl (!(ti j i 0 j.length 1).isEmpty)) H):=by
 intro a s σ H x y v u Q I b c h;have(i,j,rfl,rfl,q):=h;have(t,rfl):=b;have(t',rfl):=c;show in_str (Dr I q rfl)
abbrev FF(K:PySem.W.Frag)(x:V)(H:Hp)(k:Bool):Prop :=
 match x with
 |.IC=>k=b6
 |.bl b=>k=b
 |.int i=>k=(i != 0)
 |.str y=>y.length<=cK/\k=((y.length:Int) != 0)
 |.O9 y=>y.size<=cK/\k=((y.size:Int) != 0)
 |.ref p=>(∃xs,Jk K H p xs/\k=!xs.isEmpty)\/(∃xs,Ji K H p xs/\k=!xs.isEmpty)\/∃kvs,H p=a5 (.dK kvs)/\k=!kvs.isEmpty
 |_=>False
def qY(r:KV kvs vs):(!vs.isEmpty)=!kvs.isEmpty:=by
 cases r<;>rfl
def kI(r:Vals xs a):(!a.toArray.isEmpty)=!xs.isEmpty:=by
 cases r<;>simp
def fJ:(cK:Nat)<2 ^ 63:=by rw[Z_];decide
def Ds:HB X (λx H Q=>∃k,FF X.K x H k/\Q k H):=by
 intro g s σ H x v Q I d h;have(k,e,q):=h;have hl:=fJ;have hs:cK=16777216:=Z_;cases x with
 |IC =>
  cases d;have a:k=b6:=e;subst a;show truthy_none #[H,I,q]
 |bl b =>
  cases d;have a:k=b:=e;subst a;show C1 #[H,I,q]
 |int i =>
  have(t,rfl):=d;have a:k=(i != 0):=e;subst a;show PySem.P.truthy_int #[H,I,q]
 |str y =>
  have(t,rfl):=d;obtain⟨j,a⟩:y.length<=cK/\k=((y.length:Int) != 0):=e;subst a;show PySem.P.truthy_str ⋯ #[H,I.tok _,q]
 |O9 y =>
  have(t,rfl):=d;obtain⟨j,a⟩:y.size<=cK/\k=((y.size:Int) != 0):=e;subst a;show PySem.W.truthy_bytes ⋯ #[H,I.tok _,q]
 |ref p =>
  cases d;have a:(∃xs,Jk X.K H p xs/\k=!xs.isEmpty)\/(∃xs,Ji X.K H p xs/\k=!xs.isEmpty)\/∃kvs,H p=a5 (.dK kvs)/\k=!kvs.isEmpty:=e;rcases a with⟨xs,f,a⟩|⟨xs,f,a⟩|⟨kvs,f,a⟩
  .subst a;have(l,r,pl,hz):=I.list f;have c:=r.length;show wpAny_truthy_list pl.isList (by simp only[hE];lia) #[H,I.tok _,by rw[kI r];show q]
  .subst a;have(l,r,pl,hz):=I.tuple f;have c:=r.length;show truthy_tuple pl (by simp only[hE];lia) #[H,I.tok _,by rw[kI r];show q]
  .subst a;obtain⟨hz,n,vs,r,m⟩:kvs.length<=cK/\(p==Nh)=b6/\∃vs,KV kvs vs/\s.heap.DictOf (aW X.prog X.w) p vs:=I.IE p _ f;have c:kvs.length=vs.length:=Paired.length r;show wpAny_truthy_dict n m ⋯ #[H,I.tok _,by rw[qY r];show q]
 |_=>show(show False from e).elim
def xm(d:PE X a e)(f:∀b,isTrue a X.env b=(do let v <-b;R' a.pos;Ka [v] (Ô v))):
  PT X a (λσ H Q=>e σ H λx H'=>∃k,FF X.K x H' k/\Q k H'):=by
 intro c s σ H Q I h;show isTrue_plain (ID (d c s σ H _ I h) λv s1 ⟨x,g,i,r1,j⟩=>Ds c s1 σ g x v Q i r1 j) (f _)
def qZ:Ku X (OV .Add) (λx y H Q=>∃i j,x=.str i/\y=.str j/\i.length+j.length<=cK/\Q (.str (i++j)) H):=by
 intro a s σ H x y v u Q I b c h;have(i,j,rfl,rfl,hz,q):=h;have(t,rfl):=b;have(t',rfl):=c;show add_str (λt' d=>#[.str (i++j),H,I.tok _,#[_,rfl],q]) hz
def vals1(r:Vals [x] us):∃u,us=[u]/\RelV x u:=by
 cases r with
 |cons r1 r2=>cases r2;show#[_,rfl,r1]
def vals2(r:Vals [x,y] us):∃u w',us=[u,w']/\RelV x u/\RelV y w':=by
 cases r with
 |cons r1 r2 =>
  cases r2 with
  |cons a b=>cases b;show#[_,_,rfl,r1,a]
def nZ:gH X (.type "str") (λxs H Q=>∃i,xs=[.int i]/\i.natAbs.log2<1920/\Q (.str (ć i)) H):=by
 intro a s σ H xs us Q I r h;have(i,rfl,hz,q):=h;have(u,rfl,t,rfl):=vals1 r;show PySem.P.str_of_int hz #[.str _,H,I.tok _,#[_,rfl],q]
end
structure q9(h:Km)(x dx C:dt)(mA:Str->Option dr):Prop where
 obj:h.get? x=a5 (PySem.W.instObj C dx)
 ns:h.Ns1 dx mA
 ne:dx≠x
def u_{h:Km}(n:h.Ns1 c d):∃b,h.get? c=a5 b/\∀name,PySem.W.lookIn name b=a5 (d name):=by
 have(o,es,ep,ho,f,hk,_,g):=n;show#[o,ho,λname=>?_];have e:=g name;unfold nsFind findBy at e;rw[<-Array.find?_toList]at e;unfold PySem.W.lookIn;rw[f]
 dsimp only
 split
 .rename_i y q;rw[q]at e;show ğ a5 e
 .rename_i q;rw[q]at e;have a:es.toList.any (·.refKey)=b6:=by
   rw[Z1];intro y i;have(z,t,j):=hk y (Array.mem_toList_iff.mp i);simp[DictEntry.refKey,j]
  have a':¬es.toList.any (·.refKey)=a8:=by rw[a];show i6
  rw[Ě a'];show ğ a5 e
def q9.look(I:q9 h x b C c):∃a,PySem.W.InstAt h x (PySem.W.instObj C b) C (a5 a)/\∀name,PySem.W.lookIn name a=a5 (c name) :=
 let ⟨a,ho,hl⟩:=u_ I.ns
 ⟨a,⟨I.obj,rfl,rfl,ho⟩,hl⟩
section
variable{prog:ux}{w:wh}{A:Mx}{E:dr->hQ->Prop}{s:hQ}{K:PySem.W.Frag}{x dx C f:dt}{mA:Str->Option dr}{name:Str}{v:dr}
def get_map(X:K.In s.heap)(I:q9 s.heap x dx C mA)(b:PySem.W.plainGet K C name=a8)(c:PySem.W.hasDictIn K C=a8)
  (d:PySem.W.findIn K (.ref C) name=a5 bD) (e:mA name=a5 v) (g:PySem.W.handedIn v=a8) (h:Q v {s with toks:=s.toks+1}) :
  gm (i4 prog w) A (getAttr (.ref x) name a) Q E s:=by
 have(i,J,hl):=I.look;show PySem.W.get_value X J (PySem.W.plainGet_of b).1 (PySem.W.findObj_own c d rfl (by rw[hl,e])) g h
def xn(X:K.In s.heap)(I:q9 s.heap x dx C mA)(a:PySem.W.plainGet K C name=a8)
  (b:PySem.W.findIn K (.ref C) name=a5 (a5 (.ref f))) (c:PySem.W.isFn K (.ref f)=a8) (d:mA name=bD) (h:Q (.ref f,[.ref x]) s) :
  gm (i4 prog w) A (Wz (.ref x) name pl) Q E s:=by
 have(e,J,hl):=I.look;show PySem.W.method_fn X J (PySem.W.plainGet_of a).1 (PySem.W.plainGet_of a).2 b (beq_iff_eq.mp c) (by change(PySem.W.lookIn name e).map (·.isSome)=a5 b6;rw[hl,d];rfl) h
def As(X:K.In s.heap)(I:q9 s.heap x dx C mA)
  (hs:PySem.W.findIn K (.ref C) "__setattr__"=a5 (a5 (.builtin "object.__setattr__"))) (e:PySem.W.plainOver K C=a8) (g:PySem.W.takerIn K C name=a5 bD) (i:PySem.W.hasDictIn K C=a8)
  (j:PySem.Within mA ns) (hsz:ns.length<=cK)
  (h:∀h',q9 h' x dx C (λy=>if y=name then a5 v else mA y)->K2 dx s.heap h'->Q () {s with heap:=h',toks:=s.toks+2}) :
  gm (i4 prog w) A (setAttr (.ref x) name v) Q E s:=by
 have(q,J,hl):=I.look;show PySem.W.set_plain X J hs (PySem.W.osa_open (s:={s with toks:=s.toks+1}) (r:=bD) X J e g λb=>?_);have(t,k,l):=PySem.W.any_some i;have m:s.heap.get? x=a5 ⟨.ref C,a5 dx,.plain,#v[]⟩:=I.obj;show cL (fx (cL (cL (wpAny_loadPart m (cL (PySem.W.Looks.here (s:={s with toks:=s.toks+1}) (PySem.W.looks_clsIn X k) ?_))))));rw[l];show fx (a:=a5 dx) (cL (fx (cL ?_)));show wpAny_nsSet1 (s:={s with toks:=s.toks+1}) I.ns λh' c d=>?_;have(u,z,B,n,o,p):=c.count (PySem.Within.cons name v j);show cL (wpAny_lookBehind n (by rw[o];show pastItsLine_dict (vr p (by rw[j5];lia))) ?_);show fx (h _ #[(d.2 _ (pq I.ne)).trans I.obj,c,I.ne] d)
def xp(X:K.In s.heap)(b:PySem.W.makesIn K C=a8)
  (hi:PySem.W.findIn K (.ref C) "__init__"=a5 (a5 (.ref f))) (c:PySem.W.typeIn K (.ref f)=a5 (.type "function"))
  (h:O' (i4 prog w) (A.under (.builtin "type.__call__" ⟨.ref C::vs,a⟩)) (.call (.ref f) #[.ref (s.heap.objs.size+1)::vs,a]) (PySem.W.InitBack (s.heap.objs.size+1) R)
   {s with heap:=(s.heap.push PySem.W.emptyDict).push (PySem.W.instObj C s.heap.objs.size)}) :
  O' (i4 prog w) A (.call (.ref C) #[vs,a]) R s:=by
 have(e,g,d,t,os):=s;show PySem.W.make_core (PySem.W.makes_of X b) (PySem.W.looks_findIn X hi) (λself=>PySem.W.bind_fn X self c) (.inl rfl) h
end
abbrev d9(f:Str)(v:V):List (Str×V)->List (Str×V)
 |[]=>[(f,v)]
 |(g,x)::r=>if g=f then(g,v)::r else(g,x)::d9 f v r
theorem jA(f g:Str)(v:V):∀b:List (Str×V),(d9 f v b).lookup g=if g=f then a5 v else b.lookup g
 |[]=>by
  change L9 g [(f,v)]=_;by_cases h:g=f
  .have a:(g==f)=a8:=beq_iff_eq.mpr h;simp only[L9,a,ę h]
  .have a:(g==f)=b6:=Ğ.mpr h;simp only[L9,a,Ě h]
 |(k,x)::r=>by
  have c:=jA f g v r;rw[show d9 f v ((k,x)::r)=(if k=f then(k,v)::r else(k,x)::d9 f v r) from rfl];by_cases hk:k=f
  .rw[ę hk];by_cases h:g=k
   .have a:(g==k)=a8:=beq_iff_eq.mpr h;simp only[L9,a,ę (h.trans hk)]
   .have a:(g==k)=b6:=Ğ.mpr h;simp only[L9,a,Ě (λe:g=f=>h (e.trans hk.symm))]
  .rw[Ě hk];by_cases h:g=k
   .have a:(g==k)=a8:=beq_iff_eq.mpr h;simp only[L9,a,Ě (λe:g=f=>hk (h.symm.trans e))]
   .have a:(g==k)=b6:=Ğ.mpr h;simp only[L9,a];show c
theorem je(f:Str)(v:V):∀a:List (Str×V),f∈(d9 f v a).map (·.1)/\∀g,g∈a.map (·.1)->g∈(d9 f v a).map (·.1)
 |[]=>#[by simp[d9],λg h=>by simp at h]
 |(k,x)::r=>by
  have(b,c):=je f v r;rw[show d9 f v ((k,x)::r)=(if k=f then(k,v)::r else(k,x)::d9 f v r) from rfl];by_cases hk:k=f
  .rw[ę hk];subst hk;show#[by simp,λg h=>by simpa using h]
  .rw[Ě hk];show#[?_,λg h=>?_]
   .rw[gi];show ko _ b
   .rw[gi]at h ⊢;rcases gj.mp h with e|e
    .show gj.mpr (.inl e)
    .show ko _ (c g e)
theorem jB(f:Str)(v:V):∀a:List (Str×V),(d9 f v a).length<=a.length+1
 |[]=>by simp[d9]
 |(k,x)::r=>by
  have b:=jB f v r;rw[show d9 f v ((k,x)::r)=(if k=f then(k,v)::r else(k,x)::d9 f v r) from rfl];by_cases hk:k=f
  .rw[ę hk,j5,j5];lia
  .rw[Ě hk,j5,j5];lia
def fF.some_of(r:fF (a5 v) o):∃u,o=a5 u/\RelV v u:=by
 cases o with
 |none=>show(show False from r).elim
 |some u=>show#[u,rfl,r]
def fF.none_of(r:fF bD o):o=bD:=by
 cases o with
 |none=>rfl
 |some u=>show(show False from r).elim
def vb(r:RelV v u):PySem.W.handedIn u=a8:=by
 cases v with
 |IC=>cases(show u=rz from r);rfl
 |bl b=>cases(show u=PV b from r);rfl
 |int i=>have(t,e):=(show ∃t,u=WE i t from r);cases e;rfl
 |str x=>have(t,e):=(show ∃t,u=zu x t from r);cases e;rfl
 |O9 b=>have(t,e):=(show ∃t,u=è b t from r);cases e;rfl
 |O_ b=>have(t,e):=(show ∃t,u=ç b t from r);cases e;rfl
 |ref a=>cases(show u=kl a from r);rfl
 |ty n=>cases(show u=y0 n from r);rfl
section
def n9(i:JN P w H h)(e:H a=a5 (.ins C g c)):∃b,q9 h a g C b/\(∀f,fF (c.lookup f) (b f))/\PySem.Within b (c.map (·.1))/\c.length<=1000/\H g=a5 (.own a):=by
 have(d,z,j,k,b,n,r,q):=(show bR P w H h a (.ins C g c) from i a _ e)
 show#[b,#[k,n,j],r,q,z,d]
end
structure MT(K:PySem.W.Frag)(C:dt):Prop where
 pg:PySem.W.plainGet K C td=a8
 hd:PySem.W.hasDictIn K C=a8
 po:PySem.W.plainOver K C=a8
 sa:PySem.W.findIn K (.ref C) "__setattr__"=a5 (a5 (.builtin "object.__setattr__"))
def MT.get{K:PySem.W.Frag}(c:MT K C)(f:Str):PySem.W.plainGet K C f=a8:=c.pg
abbrev fK(K:PySem.W.Frag)(C:dt)(f:Str):Prop:=PySem.W.findIn K (.ref C) f=a5 bD
def fK.FG{K:PySem.W.Frag}(n:fK K C f):PySem.W.takerIn K C f=a5 bD:=by
 unfold PySem.W.takerIn;rw[show PySem.W.findIn K (.ref C) f=a5 bD from n];rfl
structure Meth(K:PySem.W.Frag)(C:dt)(m:Str)(f:dt):Prop where
 at_:PySem.W.findIn K (.ref C) m=a5 (a5 (.ref f))
 fn:PySem.W.isFn K (.ref f)=a8
 kp:PySem.W.keepIn K (.ref f)=a8
section
def q_(I:Inv X d σ H s)(e:H a=a5 (.ins C m i))(c:MT X.K C)(n:fK X.K C f)(l:i.lookup f=a5 v)
  (h:∀u s',Inv X d σ H s'->RelV v u->Q u s'):gm (i4 X.prog X.w) A (getAttr (.ref a) f b) Q E s:=by
 have(j,O,r,_,_,_):=n9 I.IE e;have(u,k,g):=fF.some_of (v:=v) (o:=j f) (by rw[<-l];show r f);show get_map I.KN O (c.get f) c.hd n k (vb g) (h u _ (I.tok _) g)
def kJ(I:Inv X b σ H s)(e:H a=a5 (.ins C j d))(c:MT X.K C)(k:Meth X.K C m g)(l:d.lookup m=bD)
  (h:Q (.ref g,[.ref a]) s):gm (i4 X.prog X.w) A (Wz (.ref a) m pl) Q E s:=by
 have(f,O,r,_,_,_):=n9 I.IE e;have i:f m=bD:=fF.none_of (by rw[<-l];show r m);show xn I.KN O (c.get m) k.at_ k.fn i h
def ra(I:Inv X i σ H s)(e:H a=a5 (.ins C j d))(c:MT X.K C)(n:fK X.K C f)(hl:d.length<1000)(p:RelV y u)
  (h:∀s',Inv X i σ (upd H a (.ins C j (d9 f y d))) s'->Q () s'):gm (i4 X.prog X.w) A (setAttr (.ref a) f u) Q E s:=by
 have(l,O,r,m,_,ho):=n9 I.IE e;have hz:(d.map (·.1)).length<=cK:=by rw[cN,Z_];lia
 show As I.KN O c.sa c.po n.FG c.hd m hz λh' k t=>h _ ?_;have v:∃o,h'.get? j=a5 o:=let ⟨o,_,_,B,_⟩:=k.ns;⟨o,B⟩;show I.write (x:=a) (e:=j) (by rw[e];show R8) (.inr ho) (λb q D z=>(t.2 b D).trans z) v ?_;show#[by rw[ai O.ne];show ho,?_,O.ne,k.obj,_,k.ns,λg=>?_,λg G=>?_]
 .have:=jB f y d;lia
 .change fF ((d9 f y d).lookup g) (if g=f then a5 u else l g);rw[jA];by_cases q:g=f
  .rw[ę q,ę q];show p
  .rw[Ě q,Ě q];show r g
 .by_cases q:g=f
  .rw[q];show(je f y d).1
  .show(je f y d).2 g (m g λz=>G ?_);change(if g=f then a5 u else l g)=bD;rw[Ě q];show z
def Inv.made(I:Inv X c σ H s):Inv X c σ (upd (upd H s.heap.objs.size (.own (s.heap.objs.size+1))) (s.heap.objs.size+1) (.ins C s.heap.objs.size []))
  {s with heap:=(s.heap.push PySem.W.emptyDict).push (PySem.W.instObj C s.heap.objs.size)}:=by
 have d:(s.heap.push PySem.W.emptyDict).get? s.heap.objs.size=a5 PySem.W.emptyDict:=hW s.heap rfl;have g:((s.heap.push PySem.W.emptyDict).push (PySem.W.instObj C s.heap.objs.size)).get? (s.heap.objs.size+1)=a5 (PySem.W.instObj C s.heap.objs.size):=by
  have:=hW (s.heap.push PySem.W.emptyDict) (o:=PySem.W.instObj C s.heap.objs.size) rfl
  rwa [L5]at this
 have h:(s.heap.push PySem.W.emptyDict).Ns s.heap.objs.size (λ_=>bD):=#[PySem.W.emptyDict,#v[],_,d,rfl,(λe i=>absurd i (by simp)),λ_=>rfl]
 have j:=I.laid (a:=s.heap.objs.size) (o:=.own (s.heap.objs.size+1)) (h':=s.heap.push PySem.W.emptyDict) (t':=s.toks) (λb u q=>c4 _ q) (hY _) ⟨_,d⟩;show j.laid (a:=s.heap.objs.size+1) (o:=.ins C s.heap.objs.size []) (t':=s.toks) (λb u q=>c4 _ q) (UG (L5 _ _)) ?_;have f:s.heap.objs.size≠s.heap.objs.size+1:=i9 (L6 _);show#[by rw[ai f,aj],mh _,f,g,λ_=>bD,(Heap.Ns1.of_empty h).at λo q=>c4 _ q,λ_=>R8,λy k=>absurd rfl k]
def Au(a:NT e f env (sL e env)=sL e env)
  (h:gm (i4 prog w) A (sL e env) (λo b=>gm (i4 prog w) A (getAttr o f a8) Q E b) E s):gm (i4 prog w) A (sL (.Attribute e f pos) env) Q E s :=
 Attribute_any_ h (by rw[arm_eval_Attribute,a])
end
abbrev Dt(K:PySem.W.Frag)(d:TE)(f:Str):TE:=λσ H Q=>d σ H λx b=>∃a C e c v,x=.ref a/\b a=a5 (.ins C e c)/\MT K C/\fK K C f/\c.lookup f=a5 v/\Q v b
abbrev HF(K:PySem.W.Frag)(e g:TE)(f:Str):TS:=λD σ H=>g σ H λy h=>e σ h λx c=>∃a C d b,x=.ref a/\c a=a5 (.ins C d b)/\MT K C/\fK K C f/\b.length<1000 /\
 D.nx σ (upd c a (.ins C d (d9 f y b)))
section
def rb(d:PE X e g)(i:NT e f X.env (sL e X.env)=sL e X.env):PE X (.Attribute e f pos) (Dt X.K g f):=by
 intro b s σ H Q I h;show Au i (ID (d b s σ H _ I h) λu s1 j=>?_);have(x,k,m,o,a,C,w,y,v,ex,p,c,n,l,q):=j;subst ex;obtain rfl:u=kl a:=o;show q_ m p c n l λu' s2 r t=>#[v,k,r,t,q]
def rf(e:PE X o g)(i:PE X b j)(hs:Mu b (a5 (.Attribute o f pos')) pos.line X.env=pure b6):PS X (.Assign [.Attribute o f pos'] b pos) (HF X.K g j f):=by
 intro d s σ H D I h;show plainObj_wpAny_Assign_Attribute (ID (i d s σ H _ I h) λu s1 ⟨y,k,m,p,q⟩=>ID (e d s1 σ k _ m q) λr s2 ⟨x,B,t,v,a,C,G,J,ex,w,c,n,l,z⟩=>?_) hs;subst ex;obtain rfl:r=kl a:=v;show ra t w c n l p λs3 A=>#[σ,_,A,z]
end
section
inductive kK(K:PySem.W.Frag)(H:Hp):V->dr->Prop where
 |IC:kK K H .IC (.type "NoneType")
 |bl (x:Bool):kK K H (.bl x) (.type "bool")
 |int (i:Int):kK K H (.int i) (.type "int")
 |str (x:Str):kK K H (.str x) (.type "str")
 |O_ (x:UInt64):kK K H (.O_ x) (.type "float")
 |lst {a:dt} {xs:List V} (e:H a=a5 (.lst xs)):kK K H (.ref a) (.type "list")
 |LC {a:dt} {o:Obj} {xs:List V} (e:H a=a5 (.LC o (.lst xs))):kK K H (.ref a) (.type "list")
 |tup {a:dt} {xs:List V} (e:H a=a5 (.tup xs)):kK K H (.ref a) (.type "tuple")
 |dK {a:dt} {kvs:List (Key×V)} (e:H a=a5 (.dK kvs)):kK K H (.ref a) (.type "dict")
 |dT {a:dt} {kvs:List (List Key×V)} (e:H a=a5 (.dT kvs)):kK K H (.ref a) (.type "dict")
 |ins {a C dx:dt} {fs:List (Str×V)} (e:H a=a5 (.ins C dx fs)) (cl:MT K C) (ha:PySem.W.findIn K (.ref C) "__class__"=a5 (a5 (.builtin "object.__class__")))
   (hn:PySem.W.specialIn K (.builtin "object.__class__") "__get__"=a5 (a5 (.builtin "getset_descriptor.__get__"))) (ZE:PySem.W.takesIn K (.builtin "object.__class__")=a5 a8)
   (hm:PySem.W.mroIn K C (.type "object")=a5 a8):kK K H (.ref a) (.ref C)
end
structure cO(k:Nat)(A:Mx):Prop where
 hd:A.handled=bD
 dp:A.depth+3 * k+5<ċ
 un:A.units+16 * k+200<Kc
 gd:A.guards=a5 []
def cO.mono(r:cO k A)(h:j<=k):cO j A:=#[r.hd,by have:=r.dp;lia,by have:=r.un;lia,r.gd]
def cO.deeper(r:cO (k+1) A)(env:Env):cO k (A.deeper env) :=
 #[r.hd,by have:=r.dp;change A.depth+1+3 * k+5 < _;lia,by have:=r.un;change A.units+3+16 * k+200 < _;lia,r.gd]
def rg{A:Mx}:(A.under (.builtin "type.__call__" ⟨.ref C::us,a⟩)).depth=A.depth+1:=by
 first|rfl|simp[Tr,Code.weight,Code.isCreation,ì,Code.isCaller,X8,T',guardIds]
def rh{A:Mx}:(A.under (.builtin "type.__call__" ⟨.ref C::us,a⟩)).units=A.units+1:=by
 first|rfl|simp[Tr,Code.cUnits,X8,T']
def cO.make(r:cO (k+1) A)(C:dt)(us:List dr)(a:List (Str×dr)):cO k (A.under (.builtin "type.__call__" ⟨.ref C::us,a⟩)) :=
 #[r.hd,by have:=r.dp;rw[rg];lia,by have:=r.un;rw[rh];lia,by first|show r.gd|(simp[Tr,ì,X8,T',guardIds];show r.gd)|(change _=_;show r.gd)]
def cO.depth(r:cO k A):A.depth<ċ:=by have:=r.dp;lia
abbrev FH:TA:=λ_ H Q=>Q [] H
abbrev FI(a:TE)(tr:TA):TA:=λσ H Q=>a σ H λx b=>tr σ b λxs c=>Q (x::xs) c
section
def cP:PA X [] FH:=λ_ _ _ _ H Q I h=>Ry #[[],H,I,.nil,h]
def bz(b:PE X e c)(d:PA X es t)(hs:il (e::es) X.env=(b6,sL e X.env)::il es X.env:=by rfl):PA X (e::es) (FI c t):=by
 intro pos a s σ H Q I h;rw[hs];change gm _ _ (Zi ((b6,sL e X.env)::v3 pos (il es X.env))) _ _ s;show OF (ID (b a s σ H _ I h) λu s1 f=>?_);have(x,g,i,r1,j):=f;show ID (d pos a s1 σ g _ i j) λus s2 ⟨xs,k,l,r2,m⟩=>#[x::xs,k,l,.cons r1 r2,m]
abbrev HG(t:TA):TE:=λσ H Q=>t σ H λxs a=>xs.length<=cK/\∀p,a p=bD->Q (.ref p) (upd a p (.tup xs))
abbrev HH(t:TA):TE:=λσ H Q=>t σ H λxs a=>xs.length<=cK/\∀p,a p=bD->Q (.ref p) (upd a p (.lst xs))
def rj(h:PA X es t):PE X (.Tuple es i pos) (HG t):=by
 intro a s σ H Q I f;show Ë (ID (h pos a s σ H _ I f) λus s1 ⟨xs,c,d,r,z,q⟩=>#[by rw[<-r.length];show z,?_]);have g:c s1.heap.objs.size=bD:=d.IE.fresh (hY _);show#[.ref s1.heap.objs.size,upd c s1.heap.objs.size (.tup xs),d.laid (t':=s1.toks) (λb u e=>c4 _ e) (hY _) ?_,rfl,q _ g];show#[z,us,r,#[_,hW _ rfl,rfl,_,rfl]]
def xq(h:PA X es t):PE X (.List es pos) (HH t):=by
 intro a s σ H Q I f;show Ó (ID (h pos a s σ H _ I f) λus s1 ⟨xs,c,d,r,z,q⟩=>#[by rw[<-r.length];show z,?_]);have g:c s1.heap.objs.size=bD:=d.IE.fresh (hY _);show#[.ref s1.heap.objs.size,upd c s1.heap.objs.size (.lst xs),d.laid (t':=s1.toks) (λb u e=>c4 _ e) (hY _) ?_,rfl,q _ g];show#[z,us,0,r,hW _ rfl]
end
@[reducible]noncomputable def Sp:=List V->Hp->VK->XK->Prop
@[reducible]noncomputable def NV:=List Env->Hp->hQ->XK->dr->hQ->Prop
structure rm(P:ux)(w:wh)(K:PySem.W.Frag)(mg:Str->Option dr)(base:Km)(A:Mx)(outer:List Env)(s:hQ)(H:Hp):Prop where
 frames:A.frames=a5 outer
 mod:Mod K mg base
 bs:∀b o,base.get? b=a5 o->s.heap.get? b=a5 o/\H b=bD
 MQ:base.objs.size<=s.heap.objs.size
 jU:s.heap.FunFrames base outer
 NO:∀b∈Kt outer,H b=bD
 IE:JN P w H s.heap
 bare:Se s.gens
abbrev CE(outer:List Env)(P:ux)(w:wh)(H:Hp)(s:hQ)(Q:VK)(u:dr)(s':hQ):Prop :=
 ∃v H',s'.os=s.os/\Se s'.gens/\Un (Kt outer) [] H H' s.heap s'.heap/\JN P w H' s'.heap/\RelV v u/\Q v H'
abbrev CR(CX:NV)(outer:List Env)(P:ux)(w:wh)(H:Hp)(s:hQ)(Q:VK)(E:XK)(r:Result)(s':hQ):Prop :=
 match r with
 |.ok (.ret u)=>CE outer P w H s Q u s'
 |.ok _=>False
 |.error e=>CX outer H s E e s'
structure dC(P:ux)(w:wh)(K:PySem.W.Frag)(mg:Str->Option dr)(base:Km)(CX:NV)(k:Nat)(f:dt)(fd:QU)(ps:List Str)(sp:Sp):Prop where
 len:∀vs H Q E,sp vs H Q E->vs.length=ps.length
 run:∀(A:Mx) (outer:List Env) (s:hQ) (H:Hp) (args:Args) (us:List dr) (vs:List V) (Q:VK) (E:XK),cO k A->rm P w K mg base A outer s H->Zt s fd args (ps.zip us)->Vals vs us->sp vs H Q E ->
  O' (i4 P w) A (.call (.ref f) args) (CR CX outer P w H s Q E) s
def rm.make{K:PySem.W.Frag}(e:rm P w K mg base A outer s H)(C:dt)(us:List dr)(a:List (Str×dr)):
  rm P w K mg base (A.under (.builtin "type.__call__" ⟨.ref C::us,a⟩)) outer s H:=#[by first|show e.frames|(simpa[Tr,Code.envs,T',pushEnvs] using e.frames),e.mod,e.bs,e.MQ,e.jU,e.NO,e.IE,e.bare]
section
def Inv.FJ(I:Inv X a σ H s):rm X.prog X.w X.K X.mg X.base X.A X.stack s H :=
 #[I.ok.frames,I.ok.mod,I.bs,vr I.ok.MQ I.sz,I.stack,I.s9,I.IE,I.bare]
def Inv.after(I:Inv X a σ H s)(h:CE X.stack X.prog X.w H s Q u s'):EP X a σ Q u s':=by
 have(v,H',os,c,e,f,r,q):=h;have(i,g,d,t,j):=s';obtain rfl:j=s.os:=os;show#[v,H',I.call (h':=i) (g':=g) (d':=d) (t':=t) (ch:=[]) e f c (λb z=>absurd z (by simp)),r,q]
end
abbrev FK(sp:Sp)(a:List V)(E:XK)(t:TA):TE:=λσ H Q=>t σ H λvs b=>sp (vs++a) b Q E
abbrev FL(C:dt)(sp:Sp)(c:List V)(E:XK)(t:TA):TE:=λσ H Q=>t σ H λvs b=>∀x a,b x=bD->b a=bD->a≠x ->
 sp (.ref x::(vs++c)) (upd (upd b a (.own x)) x (.ins C a [])) (λv d=>v=.IC/\Q (.ref x) d) E
abbrev Binds(K:PySem.W.Frag)(a:QU)(ps:List Str)(ds:List dr):Prop :=
 ∀(s:hQ) (us:List dr),K.In s.heap->(us++ds).length=ps.length->Zt s a #[us,[]] (ps.zip (us++ds))
def Binds.all{K:PySem.W.Frag}(h:∀us:List dr,us.length=ps.length->ď a #[us,[]]=pure (ps.zip us)):Binds K a ps []:=λs us _ hl=>by
 rw[rl]at hl ⊢;show .of_eq (h us hl)
abbrev Passes(CX:NV)(X:Cx)(E:XK):Prop:=∀(a:List (dt×Obj)) (σ:St) (H:Hp) (s:hQ) (e:dr) (s':hQ),Inv X a σ H s->CX X.stack H s E e s'->X.xe e s'
section
def jf(F:dC X.prog X.w X.K X.mg X.base CX k f d ps sp)(g:cO k X.A)(i:Binds X.K d ps ds)(j:Vals b ds)(l:Passes CX X E)
  (I:Inv X a σ H s) (r:Vals vs us) (h:sp (vs++b) H Q E):gm (i4 X.prog X.w) X.A (MN (.ref f) us) (EP X a σ Q) X.xe s:=by
 have r2:Vals (vs++b) (us++ds):=r.append j;have hl:(us++ds).length=ps.length:=by rw[<-r2.length];show F.len _ _ _ _ h
 show Ñ (RL (F.run X.A X.stack s H #[us,[]] (us++ds) (vs++b) Q E g I.FJ (i s us I.KN hl) r2 h) λr s' c=>?_);cases r with
 |error e=>show l a σ H s e s' I c
 |ok m =>
  cases m with
  |ret u=>show I.after c
  |_=>show KG c
def Av(F:dC X.prog X.w X.K X.mg X.base CX k f c ps sp)(d:cO k X.A)(g:Gl X x)(i:X.mg x=a5 (.ref f))(hk:PySem.W.keepIn X.K (.ref f)=a8)(j:Binds X.K c ps ds)(l:Vals m ds)(n:Passes CX X E)
  (o:PA X (e::es) t) (u:(x==("__debug__":Str))=b6:=by decide) (v:il (e::es) X.env=(b6,sL e X.env)::il es X.env:=by rfl) (y:(v3 pos (il es X.env)).any (·.1)=b6:=by rfl) :
  PE X (.Call (.Name x p) (e::es) [] pos) (FK sp m E t):=by
 intro a s σ H Q I h;show tj (gc I g i ?_ u);show PySem.W.callWith_K (h₀:=X.base) I.ok.mod.NM hk (ID (o pos a s σ H _ I h) λus s1 ⟨vs,z,b,r,q⟩=>#[b.KN,?_]) v y;show jf F d j l n b r q
structure Mk(K:PySem.W.Frag)(C f:dt):Prop where
 makes:PySem.W.makesIn K C=a8
 init:PySem.W.findIn K (.ref C) "__init__"=a5 (a5 (.ref f))
 fn:PySem.W.isFn K (.ref f)=a8
 kp:PySem.W.keepIn K (.ref C)=a8
def xr(M:Mk X.K C f)(F:dC X.prog X.w X.K X.mg X.base CX k f j ps sp)(l:cO (k+1) X.A)(m:Binds X.K j ps ds)(n:Vals g ds)
  (o:Passes CX X E) (I:Inv X a σ H s) (r:Vals vs us)
  (h:∀x b,H x=bD->H b=bD->b≠x->sp (.ref x::(vs++g)) (upd (upd H b (.own x)) x (.ins C b [])) (λv p=>v=.IC/\Q (.ref x) p) E) :
  gm (i4 X.prog X.w) X.A (MN (.ref C) us) (EP X a σ Q) X.xe s:=by
 have i:=h (s.heap.objs.size+1) s.heap.objs.size (I.IE.fresh (Qq _)) (I.IE.fresh (hY _)) (i9 (L6 _));have c:=Inv.made (C:=C) I;have r2:Vals (V.ref (s.heap.objs.size+1)::(vs++g)) (kl (s.heap.objs.size+1)::(us++ds)):=.cons rfl (r.append n);have hl:(kl (s.heap.objs.size+1)::us++ds).length=ps.length:=by
  have e:=r2.length;rw[F.len _ _ _ _ i]at e;show e.symm
 show Ñ (xp (f:=f) I.KN M.makes M.init (beq_iff_eq.mp M.fn) (RL (F.run _ X.stack _ _ #[kl (s.heap.objs.size+1)::us,[]] (kl (s.heap.objs.size+1)::(us++ds)) _ _ E (l.make C us [])
  (c.FJ.make C us []) (m _ (kl (s.heap.objs.size+1)::us) c.KN hl) r2 i) λr s' d=>?_))
 cases r with
 |error e=>show o a σ _ _ e s' c d
 |ok q =>
  cases q with
  |ret u =>
   have(v,H',t,rv,ev,y):=c.after d;subst ev;show#[rv,#[V.ref (s.heap.objs.size+1),H',t,rfl,y]]
  |_=>show KG d
def xu(M:Mk X.K C f)(F:dC X.prog X.w X.K X.mg X.base CX k f b ps sp)(c:cO (k+1) X.A)(d:Gl X x)(e:X.mg x=a5 (.ref C))(g:Binds X.K b ps ds)(i:Vals j ds)(l:Passes CX X E)
  (m:(x==("__debug__":Str))=b6:=by decide):PE X (.Call (.Name x p) [] [] pos) (FL C sp j E FH):=by
 intro a s σ H Q I h;show tj (gc I d e ?_ m);show PySem.W.callWith_K0 I.KN M.kp (xr (us:=[]) M F c g i l I .nil h)
end
section
end
structure cQ(N P:List Str)(sc:z8):Prop where
 kind:sc.kind=.function
 co:sc.isCoroutine=b6
 gen:sc.isGenerator=b6
 nd:N.Nodup
 pre:N.take P.length=P
 par:∀x∈P,sc.names.lookup x=a5 .local\/sc.names.lookup x=a5 .cell
 NW:∀y∈sc.names,y.2≠.free
theorem mP{kindOf:Str->Option KD}:∀{a:List (Str×dr)}{m:Str->Option dr},(∀v,(x,v)∉a)->Y8 kindOf a m x=m x
 |[],_,_=>rfl
 |(n,v)::r,m,h=>by
  unfold Y8;rw[mP λw b=>h w (ko _ b)];split
  .have:x≠n:=by rintro rfl;show h v k9
   simp[this]
  .rfl
theorem mQ{kindOf:Str->Option KD}:∀{a:List (Str×dr)}{m:Str->Option dr},(∀v,(x,v)∉a)->Y9 kindOf a m x=m x
 |[],_,_=>rfl
 |(n,v)::r,m,h=>by
  unfold Y9;rw[mQ λw b=>h w (ko _ b)];split
  .rfl
  .have:x≠n:=by rintro rfl;show h v k9
   simp[this]
theorem mR{kindOf:Str->Option KD}:∀{P:List Str}{vs:List dr}{i:Nat}{m:Str->Option dr},P.Nodup->P[i]?=a5 x->vs[i]?=a5 v->kindOf x=a5 .local ->
  Y8 kindOf (P.zip vs) m x=a5 v
 |[],_,_,_,_,h,_,_=>by simp at h
 |_::_,[],_,_,_,_,h,_=>by simp at h
 |p::P,w::vs,0,m,c,a,b,hk=>by
  simp at a b;subst a;subst b;change Y8 kindOf ((p,w)::P.zip vs) m p=_;unfold Y8;rw[mP λv d=>(o9.mp c).1 (Qu d).1,ę hk];simp
 |p::P,w::vs,i+1,m,c,a,b,hk=>by
  change Y8 kindOf ((p,w)::P.zip vs) m x=_;unfold Y8;show mR (i:=i) (o9.mp c).2 (by simpa using a) (by simpa using b) hk
theorem mS{kindOf:Str->Option KD}:∀{P:List Str}{vs:List dr}{i:Nat}{m:Str->Option dr},P.Nodup->P[i]?=a5 x->vs[i]?=a5 v->kindOf x≠a5 .local ->
  Y9 kindOf (P.zip vs) m x=a5 v
 |[],_,_,_,_,h,_,_=>by simp at h
 |_::_,[],_,_,_,_,h,_=>by simp at h
 |p::P,w::vs,0,m,c,a,b,hk=>by
  simp at a b;subst a;subst b;change Y9 kindOf ((p,w)::P.zip vs) m p=_;unfold Y9;rw[mQ λv d=>(o9.mp c).1 (Qu d).1,Ě hk];simp
 |p::P,w::vs,i+1,m,c,a,b,hk=>by
  change Y9 kindOf ((p,w)::P.zip vs) m x=_;unfold Y9;show mS (i:=i) (o9.mp c).2 (by simpa using a) (by simpa using b) hk
abbrev start(N:List Str)(vs:List V):St:=vs.map a5++js (N.length - vs.length) bD
abbrev mB(CX:NV)(P:ux)(w:wh)(K:PySem.W.Frag)(mg:Str->Option dr)(base:Km)(N:List Str)(a:Str)(scope:z8)(f:dt)(b:dr)(A:Mx)(outer:List Env)(s:hQ)(H:Hp)(E:XK):Cx where
 prog:=P
 w:=w
 K:=K
 mg:=mg
 base:=base
 A:=A.deeper (R0 a scope s.heap.objs.size f b)
 N:=N
 s₀:=s
 H₀:=H
 env:=R0 a scope s.heap.objs.size f b
 outer:=outer
 stack:=R0 a scope s.heap.objs.size f b::outer
 ex:=[]
 calm:=a8
 fn:=λ_=>a8
 pn:=[]
 xe:=λe s'=>gm (i4 P w) (A.deeper (R0 a scope s.heap.objs.size f b)) (leaving (R0 a scope s.heap.objs.size f b) e) (λ_ c=>CX outer H s E e c) (λd c=>CX outer H s E d c) s'
def pM{a:z8}(h:a.names.lookup x=a5 .cell):∃c,(Lr n a.names []).lookup x=a5 c:=by
 have q:=PySem.W.cellsFrom_some a.names n [] (.inl h);show N8.mp q
def vc{K:PySem.W.Frag}
  (S:cQ N ps scope) (D:A.handled=bD) (j:rm P w K mg base A outer s H) (hl:vs.length=ps.length) (r:Vals vs us)
  (x:InCallC s s.heap.objs.size (Y8 (R0 g scope s.heap.objs.size f o).kindOf (ps.zip us) λ_=>bD) (Lr (s.heap.objs.size+1) scope.names []) (Y9 (R0 g scope s.heap.objs.size f o).kindOf (ps.zip us) λ_=>bD) s1) :
  Inv (mB CX P w K mg base N g scope f o A outer s H E) [] (start N vs) H s1:=by
 have I:ps.length<=N.length:=by have:=ğ H8 S.pre;rw[oD]at this;lia
 have(m,J,rfl,hk):=x.done;have t:∀b:dt,b∉(mB CX P w K mg base N g scope f o A outer s H E).ex:=λb z=>absurd (show b∈([]:List dt) from z) (by simp);show#[#[j.mod,S.kind,rfl,rfl,hY _,λy z c m d=>?_,λy hy=>?_,λy c _ h=>?_,λ_=>D,Around.frames_deeper j.frames,.inr #[rfl,rfl],λb z=>absurd z (t b),j.bs,j.MQ,λb _ _=>t b,λb z=>absurd z (t b),j.jU,j.NO],
  rfl,j.bare,Un.kept hk,#[_,x.toInCall.ns,λi y v m d L=>?_],λy c h=>#[_,x.cell y c h],j.IE.fresh (hY _),λy c h=>?_,λp l=>absurd (show p∈([]:List (dt×Obj)) from l) (by simp),j.IE.kept hk,?_]
 .show name_of_addr x.apart (PySem.mem_of_lookup m) (PySem.mem_of_lookup d)
 .have hy:scope.names.lookup y=a5 .cell\/scope.names.lookup y=a5 .free:=hy;rcases hy with hy|hy
  .show pM hy
  .show absurd rfl (S.NW _ (PySem.mem_of_lookup hy))
 .show Pw (x.above y c (PySem.mem_of_lookup h))
 .have hi:i<vs.length:=by
   unfold start at d;by_cases hi:i<vs.length
   .show hi
   .rw[kr (by simpa using hi)]at d;rw[vu]at d;split at d<;>cases d
  have G:vs[i]?=a5 v:=by
   unfold start at d;rw[lg (by simpa using hi),nc]at d;cases e:vs[i]? with
   |none=>rw[e]at d;cases d
   |some a=>rw[e]at d;cases d;rfl
  have(u,B,rv):=r.get G;have l:ps[i]?=a5 y:=by
   rw[<-S.pre,OC ⋯];show m
  have C:ps.Nodup:=by rw[<-S.pre];show S.nd.sublist (ZF _ _)
  show#[u,rv,?_];rcases S.par y (qs l) with k|k
  .show .inl #[k,mR C l B k]
  .have(c,e):=pM (n:=s.heap.objs.size+1) k;show .inr #[.inl k,c,e,?_];have q:=x.cell y c e;rw[mS C l B (by change scope.names.lookup y≠_;rw[k];decide)]at q;show q
 .show j.IE.fresh (Pw (x.above y c (PySem.mem_of_lookup h)))
 .unfold start;change _=N.length;rw[j0,cN,PX];lia
def pN{K:PySem.W.Frag}{z kV g B d ct G:dr}
 (lk:K.lookup f=a5 #[G,od,.func (PySem.W.fnOf name a c body scope z kV g B L d ct),MU]) (O:PySem.W.codeIn K d a=a8) (S:cQ N ps scope)
    (h:∀vs H Q E,sp vs H Q E->vs.length=ps.length)
    (T:∀(A:Mx) (outer:List Env) (s:hQ) (H:Hp) (vs:List V) (Q:VK) (E:XK),cO k (A.deeper (R0 a scope s.heap.objs.size f d))->sp vs H Q E ->
      ∃t,Jo (mB CX P w K mg base N a scope f d A outer s H E) body t/\t {nx:=λ_ H'=>Q .IC H',rt:=Q} (start N vs) H) :
    dC P w K mg base CX (k+1) f (PySem.W.fnOf name a c body scope z kV g B L d ct) ps sp:=by
  show#[h,λA outer s H args us vs Q E m i Y r C=>?_];have hl:=h _ _ _ _ C;have D:K.In s.heap:=i.mod.NM.keeps λb o e=>(i.bs b o e).1;have p:s.heap.NoLimit:=i.mod.nolimit.keeps λb o e=>(i.bs b o e).1;have Pn:∀y∈ps.zip us,scope.names.lookup y.1=a5 .local\/(scope.names.lookup y.1=a5 .cell/\((Lr (s.heap.objs.size+1) scope.names []).lookup y.1).isSome=a8):=λ⟨n,v⟩ hy=>by
    rcases S.par n (Qu hy).1 with q|q
    . show .inl q
    . show .inr #[q,PySem.W.cellsFrom_some _ _ _ (.inl q)]
  show codeAny_call_function m.depth (D _ _ lk) rfl S.co S.gen rfl (PySem.W.codeRec_of D O) (Y _ _ _ _ ?_);show wpAny_newFunctionEnv_cells S.kind Pn λenv he s1 x=>?_;subst he;show#[p.keeps x.toInCall.keep,codeAny_func ?_];have(t,ht,hq):=T A outer s H vs Q E (m.deeper _) C;have I:Inv (mB CX P w K mg base N a scope f d A outer s H E) [] (start N vs) H s1:=vc S m.hd i hl r x;show u5 (ht [] s1 (start N vs) H _ I hq) (λfl s' hs=>?_) λe s' hs=>hs;have j:∀{l:St} {H':Hp} {v:V} {u:dr},Inv (mB CX P w K mg base N a scope f d A outer s H E) [] l H' s'->RelV v u->Q v H'->CE outer P w H s Q u s' :=
    λ{l H' v u} J rv q=>#[v,H',J.os,J.bare,J.base,J.IE,rv,q]
  cases fl with
  | ret u =>
    have(v,l,H',J,rv,q):=hs;show j J rv q
  | next =>
    have(l,H',J,q):=hs;show j (v:=V.IC) (u:=rz) J rfl q
  | brk =>
    have(_,_,_,q):=hs;show KG q
  | cont =>
    have(_,_,_,q):=hs;show KG q
section
variable{X:Cx}{x:Str}{p pos:Pos}{e:lx}{es:List lx}{t:TA}{id T:String}{r:List V->Hp->VK->Prop}
abbrev WM(r:List V->Hp->VK->Prop)(t:TA):TE:=λσ H Q=>t σ H λvs a=>r vs a Q
def xv(b:gH X (.builtin id) r)(c:Gl X x)(d:X.mg x=bD)(f:zr x=a5 (.builtin id))(g:PA X (e::es) t)(i:x≠"__name__":=by decide)(j:(x==("__debug__":Str))=b6:=by decide)
  (k:il (e::es) X.env=(b6,sL e X.env)::il es X.env:=by rfl) (l:(v3 pos (il es X.env)).any (·.1)=b6:=by rfl):PE X (.Call (.Name x p) (e::es) [] pos) (WM r t):=by
 intro a s σ H Q I h;show tj (dQ I c d f ?_ i j);show OH (ID (g pos a s σ H _ I h) λus s1 ⟨vs,m,n,r1,o⟩=>b a s1 σ m vs us Q n r1 o) k l
end
end L2
namespace HT
open PySem PyProof.Rows
section
open PySem.SeqAt
open PySem.AutoSeq1 (wpAny_loadPart')
open PySem.MeetsSeq PySem.MeetsSeq2 PySem.MeetsSeq3
end
section
def Aw(o:Æ s.heap t vs.toArray)(p:Æ s.heap b ws.toArray)(f:vs≠[])
  (q:ws=[]->Q (.ref t) s) (r:ws≠[]->Q (.ref s.heap.objs.size) {s with heap:=s.heap.push {cls:=.type "tuple",data:=.seq (vs++ws).toArray}})
  (hsz:vs.length+ws.length<=cK):gm (i4 prog w) A (OV .Add (.ref t) (.ref b)) Q E s:=by
 have((cls,dd,data,g),ho,h,n,i):=id o;have((u,j,data2,k),c,l,m,a):=id p;simp only at h i l a;subst h i l a;have e:vs.toArray++ws.toArray=(vs++ws).toArray:=by simp
 by_cases d:ws=[]
 .show V7 #[_,ho,rfl] #[_,c,rfl] Wx YR PySem.F.slot_tuple_add PySem.F.entry_tuple_add (PySem.F.args_tuple_add_2 _ _)
   (tuple_addW1 t b vs.toArray ws.toArray n m dd j g k (by simpa using f) (by simp[d])) #[ho,c,q d]
 .show V7 #[_,ho,rfl] #[_,c,rfl] Wx YR PySem.F.slot_tuple_add PySem.F.entry_tuple_add (PySem.F.args_tuple_add_2 _ _)
   (tuple_addW2 t b vs.toArray ws.toArray n m dd j g k (by simpa using f) (by simpa using d) (by rw[hE,hE];show hsz)) #[ho,c,?_]
  rw[e];show r d
abbrev IS(n d:Nat):Option Int->Nat
 |none=>d
 |some v=>if v<0 then(v+(n:Int)).toNat else min v.toNat n
def tm(n d k:Nat):IS n d (a5 (k:Int))=min k n:=by
 change(if (k:Int)<0 then((k:Int)+(n:Int)).toNat else min (k:Int).toNat n)=min k n;rw[Ě ⋯,Lm]
def Du(n d:Nat)(b:d<=n)(o:Option Int):IS n d o<=n:=by
 cases o with
 |none=>show b
 |some v =>
  change(if v<0 then(v+(n:Int)).toNat else min v.toNat n)<=n;by_cases a:v<0
  .rw[ę a];lia
  .rw[Ě a];show Nat.min_le_right _ _
def tq(v:Int)(n d:Nat):(if v<0 then max (v+(n:Int)) 0 else min v (n:Int))=((IS n d (a5 v):Nat):Int):=by
 change(if v<0 then max (v+(n:Int)) 0 else min v (n:Int))=(((if v<0 then(v+(n:Int)).toNat else min v.toNat n):Nat):Int)
 by_cases a:v<0
 .simp only[ę a];lia
 .simp only[Ě a];lia
def rn(lo hi:Option Int)(n:Nat):Qe lo hi 1 (n:Int)=(((IS n 0 lo:Nat):Int),((IS n n hi:Nat):Int)):=by
 have a:¬((1:Int)<0):=by lia
 unfold Qe;simp only[a,if_false];show Wj ?_ ?_
 .cases lo with
  |none=>rfl
  |some v=>show tq v n 0
 .cases hi with
  |none=>rfl
  |some v=>show tq v n n
def rp(i j:Nat):My (i:Int) (j:Int) 1=j - i:=by
 unfold My;have a:(1:Int)>0:=by lia
 simp only[a,if_true,Int.ediv_one];split<;>lia
def kL(p:TN v o)(h:Q o s):gm (i4 prog w) A (ô v) Q E s:=by
 cases p with
 |none=>show Ĕ h
 |int i t=>show slicePart_int h
def eB{lo hi:Option Int}{n:Nat}(hs:s.heap.IsSliceOf e c d .none)(pl:TN c lo)(f:TN d hi)
  (h:Q (((IS n 0 lo:Nat):Int),1,IS n n hi - IS n 0 lo) s):gm (i4 prog w) A (Tj (.ref e) (pure (n:Int))) Q E s:=by
 have(os,a,g,b):=id hs;unfold Tj õ;show cL (cL (PH a b (x:=c) rfl (cL (PH a b (x:=d) rfl (cL (PH a b (x:=.none) rfl (fx ?_)))))));show cL (Ĕ ?_);change gm _ _ (if ((1:Int)==0)=a8 then _ else _) _ _ s;rw[Ě (by decide)];show cL (kL pl (cL (kL f (cL (fx ?_)))));change gm _ _ (match Qe lo hi 1 (n:Int) with|(lo,hi)=>pure (lo,(1:Int),My lo hi 1)) _ _ s;rw[rn lo hi n];change gm _ _ (pure (((IS n 0 lo:Nat):Int),(1:Int),My ((IS n 0 lo:Nat):Int) ((IS n n hi:Nat):Int) 1)) _ _ s;rw[rp];show fx h
def xx(xs:Array dr)(i k:Nat):((hH k).filterMap λ(m:Nat)=>xs[((i:Int)+(m:Int) * 1).toNat]?).toArray=((xs.toList.drop i).take k).toArray:=by
 have e:(λ(m:Nat)=>xs[((i:Int)+(m:Int) * 1).toNat]?)=λm=>xs[i+m]?:=by
  funext m
  have:((i:Int)+(m:Int) * 1).toNat=i+m:=by lia
  rw[this]
 rw[e];have:=pick_run xs i k;rw[List.filterMap_map]at this;have a:((λx=>xs[x]?) ∘ λx=>i+x)=λm=>xs[i+m]?:=rfl;rw[a]at this;rw[this]
def ij{lo hi:Option Int}(b:Æ s.heap t a)(hs:s.heap.IsSliceOf d e f .none)(pl:TN e lo)(g:TN f hi)
  (i:¬(IS a.size 0 lo=0/\IS a.size a.size hi=a.size))
  (h:Q (.ref s.heap.objs.size) {s with heap:=s.heap.push {cls:=.type "tuple",data:=.seq ((a.toList.drop (IS a.size 0 lo)).take (IS a.size a.size hi - IS a.size 0 lo)).toArray}})
  (hsz:a.size<=cK):gm (i4 prog w) A (Rz (.ref t) (.ref d)) Q E s:=by
 have c:sizeOk (.seq ((a.toList.drop (IS a.size 0 lo)).take (IS a.size a.size hi - IS a.size 0 lo)).toArray):=by
  change((a.toList.drop (IS a.size 0 lo)).take (IS a.size a.size hi - IS a.size 0 lo)).toArray.size<=cK;rw[hE,oD,R3,rr];lia
 have o:IS a.size a.size hi<=a.size:=Du _ _ (hY _) hi;have(os,j,k,p):=id hs;have l:s.TypeIs (.ref d) "slice":=#[os,j,k]
 unfold Rz
 try with_reducible show zc ?_
 first|show cL (fx ?_)|skip
 show cL (à b.typeIs (by decide) ?_);show cL (Mr (name:=Pk "__getitem__") b.typeIs uk
  (Mi uk b.typeIs Ì ?_ (Ü _ _)))
 change gm _ _ (Ti (.ref t) >>= _) _ _ s;show cL (tupleItemsOf_ b ?_);show cL (SE l ?_);rw[ę (by decide)];show cL (eB hs pl g ?_);have n:¬((((IS a.size 0 lo:Nat):Int)==0&&(1:Int)==1&&(IS a.size a.size hi - IS a.size 0 lo)==a.size)=a8):=by
  intro q;rw[b5,b5]at q;have r:((IS a.size 0 lo:Nat):Int)=0:=ü q.1.1;have u:IS a.size a.size hi - IS a.size 0 lo=a.size:=ü q.2;show i #[⋯,⋯]
 change gm _ _ (if (((IS a.size 0 lo:Nat):Int)==0&&(1:Int)==1&&(IS a.size a.size hi - IS a.size 0 lo)==a.size)=a8 then _ else _) _ _ s;rw[Ě n,xx]
 first
  |show cL (m:=Nj _) (LZ (fx #[_,rfl,fx h]) c)
  |show cL (m:=Nj _) (LZ (cL (fx (fx #[_,rfl,fx h]))) c)
  |show cL (cL (m:=Nj _) (LZ (fx (fx #[_,rfl,fx h])) c))
  |show cL (cL (m:=Nj _) (LZ (fx #[_,rfl,fx h]) c))
end
end HT
namespace L2
open PySem PySem.Spec PyProof.Rows
@[reducible]noncomputable def TO:=St->Hp->(Option Int->Hp->Prop)->Prop
abbrev PO(X:Cx)(e:Option lx)(t:TO):Prop :=
 ∀(a:List (dt×Obj)) (s:hQ) (σ:St) (H:Hp) (Q:Option Int->Hp->Prop),Inv X a σ H s->t σ H Q ->
  gm (i4 X.prog X.w) X.A (evalPart e X.env) (λu s'=>∃o H',Inv X a σ H' s'/\TN u o/\Q o H') X.xe s
abbrev Ax:TO:=λ_ H Q=>Q bD H
abbrev FN(t:TE):TO:=λσ H Q=>t σ H λx a=>∃i,x=.int i/\Q (a5 i) a
section
variable{X:Cx}{e:lx}{te:TE}{lo hi:Option lx}{tl th:TO}{pos p2:Pos}
def Ay:PO X bD Ax:=by
 intro a s σ H Q I h;rw[evalPart_none];show fx #[bD,H,I,.none,h]
def Az(h:PE X e te):PO X (a5 e) (FN te):=by
 intro a s σ H Q I b;rw[evalPart_some];show ID (h a s σ H _ I b) λu s1 c=>?_;have(x,d,f,r1,g):=c;have(i,rfl,q):=g;have(t,rfl):=r1;show#[a5 i,d,f,.int i t,q]
abbrev MA(X:Cx)(r:V->Option Int->Option Int->Hp->VK->Prop):Prop :=
 ∀(a:List (dt×Obj)) (s:hQ) (σ:St) (H:Hp) (x:V) (v b c:dr) (lo hi:Option Int) (d:dt) (Q:VK),Inv X a σ H s->RelV x v->s.heap.IsSliceOf d b c .none->TN b lo->TN c hi->r x lo hi H Q ->
  ∃T id,Xm (.type T) "__getitem__"=pure (a5 (.builtin id))/\s.TypeIs v T/\gm (i4 X.prog X.w) X.A (Rz v (.ref d)) (EP X a σ Q) X.xe s
def MA.or(h:MA X r)(h':MA X i):MA X (λx lo hi H Q=>r x lo hi H Q\/i x lo hi H Q):=by
 intro a s σ H x v b c lo hi d Q I f hs pl g q;rcases q with q|q
 .show h a s σ H x v b c lo hi d Q I f hs pl g q
 .show h' a s σ H x v b c lo hi d Q I f hs pl g q
abbrev WN(r:V->Option Int->Option Int->Hp->VK->Prop)(te:TE)(tl th:TO):TE:=λσ H Q=>te σ H λx a=>tl σ a λl b=>th σ b λu c=>r x l u c Q
def xy(g:MA X r)(i:PE X e te)(hl:PO X lo tl)(j:PO X hi th):PE X (.Subscript e (.Slice lo hi bD p2) pos) (WN r te tl th):=by
 intro a s σ H Q I h;show XO (ID (i a s σ H _ I h) λv s1 k=>?_);have(x,m,n,r1,o):=k;show wpAny_Slice (ID (hl a s1 σ m _ n o) λc s2 ⟨l,p,t,pl,y⟩=>ID (j a s2 σ p _ t y) λd s3 z=>?_);have(u,f,B,C,D):=z;rw[evalPart_none];show fx ?_;have G:Inv X a σ f {s3 with heap:=s3.heap.push {cls:=.type "slice",data:=.fields #v[c,d,.none]}}:=B.kept (t':=s3.toks) λb O q=>c4 _ q;have(T,id,J,L,N):=g a {s3 with heap:=s3.heap.push {cls:=.type "slice",data:=.fields #v[c,d,.none]}} σ f x v c d l u s3.heap.objs.size Q G r1 (ë ..) pl C D;change gm (i4 X.prog X.w) X.A (U9 e (.Slice lo hi bD p2) v (.ref s3.heap.objs.size)) (EP X a σ Q) X.xe {s3 with heap:=s3.heap.push {cls:=.type "slice",data:=.fields #v[c,d,.none]}};show tail_any (ops:=[.ref s3.heap.objs.size,v]) L J N (by with_unfolding_all rfl)
abbrev pO(xs:List V)(lo hi:Option Int):List V:=(xs.drop (HT.IS xs.length 0 lo)).take (HT.IS xs.length xs.length hi - HT.IS xs.length 0 lo)
def jC(xs:List V)(lo hi:Option Int):(pO xs lo hi).length<=xs.length:=by
 unfold pO;rw[oD,R3];lia
abbrev FO(K:PySem.W.Frag):V->Option Int->Option Int->Hp->VK->Prop:=λx lo hi H Q=>∃a xs,x=.ref a/\Ji K H a xs /\
 ¬(HT.IS xs.length 0 lo=0/\HT.IS xs.length xs.length hi=xs.length)/\∀p,H p=bD->Q (.ref p) (upd H p (.tup (pO xs lo hi)))
def Dv:MA X (FO X.K):=by
 intro d s σ H x v m n lo hi p Q I g hs pl i h;have(a,xs,rfl,j,k,q):=h;cases g;have(l,r,f,hz):=I.tuple j;have c:l.toArray.size=xs.length:=by rw[hE];show r.length.symm
 show#["tuple",_,uk.lookup,f.typeIs,?_];show HT.ij f hs pl i (by rw[c];show k) ?_ (by rw[c];show hz);rw[c];show#[.ref s.heap.objs.size,_,I.laid (t':=s.toks) (o:=.tup (pO xs lo hi)) (λb t q=>c4 _ q) (hY _) ?_,rfl,q _ (I.IE.fresh (hY _))];show#[vr (jC xs lo hi) hz,_,(r.drop (HT.IS xs.length 0 lo)).take (HT.IS xs.length xs.length hi - HT.IS xs.length 0 lo),WI _ _]
abbrev FP(K:PySem.W.Frag):R2:=λx y H Q=>∃a b xs ys,x=.ref a/\y=.ref b/\Ji K H a xs/\Ji K H b ys/\xs≠[]/\xs.length+ys.length<=cK /\
 (ys=[]->Q (.ref a) H)/\(ys≠[]->∀p,H p=bD->Q (.ref p) (upd H p (.tup (xs++ys))))
def Vals.n_(r:Vals xs us):us=[]↔xs=[]:=by
 cases r with
 |_=>simp
def AA:Ku X (OV .Add) (FP X.K):=by
 intro c s σ H x y v u Q I d f h;have(a,b,xs,ys,rfl,rfl,g,i,j,hz,k,l):=h;cases d;cases f;have(n,r1,m,_):=I.tuple g;have(p,r2,p2,_):=I.tuple i;show HT.Aw m p2 (λz=>j (r1.n_.mp z)) (λz=>#[.ref a,H,I,rfl,k (r2.n_.mp z)]) (λz=>?_) (by rw[<-r1.length,<-r2.length];show hz);show#[.ref s.heap.objs.size,_,I.laid (t':=s.toks) (o:=.tup (xs++ys)) (λb r q=>c4 _ q) (hY _) ?_,rfl,l (λw=>z (r2.n_.mpr w)) _ (I.IE.fresh (hY _))];show#[by rw[j0];show hz,_,r1.append r2,WI _ _]
end
abbrev Ma(n:Nat)(i:Int):Option Nat:=if 0<=i then(if i<n then a5 i.toNat else bD) else if -(n:Int)<=i then a5 (i+n).toNat else bD
abbrev Je{α:Type}(xs:List α)(i:Int):Option α:=(Ma xs.length i).bind λj=>xs[j]?
def tD{n:Nat}(h:Ma n i=a5 j):seqIndex? i n=a5 j/\j<n/\-(n:Int)<=i/\i<n:=by
 unfold Ma at h;by_cases b:0<=i
 .rw[ę b]at h;by_cases a:i<n
  .rw[ę a]at h;have e:i.toNat=j:=ro h;show#[by rw[Z' b a,e],⋯,⋯,a]
  .rw[Ě a]at h;cases h
 .rw[Ě b]at h;by_cases a:-(n:Int)<=i
  .rw[ę a]at h;have e:(i+n).toNat=j:=ro h;show#[by rw[seqIndex_neg ⋯ a,e],⋯,a,⋯]
  .rw[Ě a]at h;cases h
def oa(h:Je xs i=a5 v):∃j,seqIndex? i xs.length=a5 j/\xs[j]?=a5 v/\j<xs.length/\-(xs.length:Int)<=i/\i<xs.length:=by
 unfold Je at h;cases e:Ma xs.length i with
 |none=>rw[e]at h;cases h
 |some j =>
  rw[e]at h;have(a,b,c,d):=tD e;show#[j,a,h,b,c,d]
def bE{j:Nat}(h:xs[j]?=a5 v):Je xs (j:Int)=a5 v:=by
 have a:j<xs.length:=(df.mp h).1;have e:Ma xs.length (j:Int)=a5 j:=by
  unfold Ma;rw[ę ⋯,ę ⋯];simp
 unfold Je;rw[e];show h
abbrev j_(b:lx):Prop:=∀o i,WD b b6 o i=operate [o,i] (Rz o i)
abbrev QV(X:Cx)(r:R2):Prop :=
 ∀(c a:lx) (b:List (dt×Obj)) (s:hQ) (σ:St) (H:Hp) (x y:V) (v u:dr) (Q:VK),Inv X b σ H s->RelV x v->RelV y u->r x y H Q ->
  WD a b6 v u=operate [v,u] (Rz v u)->gm (i4 X.prog X.w) X.A (U9 c a v u) (EP X b σ Q) X.xe s
abbrev OM(X:Cx)(id:String)(r:V->List V->Hp->VK->Prop):Prop :=
 ∀(a:List (dt×Obj)) (s:hQ) (σ:St) (H:Hp) (x:V) (xs:List V) (v:dr) (us:List dr) (Q:VK),Inv X a σ H s->RelV x v->Vals xs us->r x xs H Q ->
  gm (i4 X.prog X.w) X.A (MN (.builtin id) (v::us)) (EP X a σ Q) X.xe s
section
def tE(d:QV X r)(f:PE X a g)(i:PE X b tb)(hs:j_ b):PE X (.Subscript a b pos) (WH r g tb):=by
 intro c s σ H Q I h;show XO (HC f i I h λv u s2 x y j k l m q=>d a b c s2 σ j x y v u Q k l m q (hs _ _))
abbrev HI(K:PySem.W.Frag):R2:=λx y H Q=>∃p xs i v,x=.ref p/\y=.int i/\Jk K H p xs/\Je xs i=a5 v/\Q v H
abbrev HJ(K:PySem.W.Frag):R2:=λx y H Q=>∃p xs i v,x=.ref p/\y=.int i/\Ji K H p xs/\Je xs i=a5 v/\Q v H
abbrev HK:R2:=λx y H Q=>∃z i c,x=.str z/\y=.int i/\z.length<=cK/\Je z.cps.toList i=a5 c/\Q (.str #[#v[c]]) H
def tF:QV X (HI X.K):=by
 intro d f a s σ H x y v u Q I m n h hs;have(p,xs,i,z,rfl,rfl,A,B,q):=h;cases m;have(t,rfl):=n;have(C,r,pl,hz):=I.list A;have(j,c,D,N,G,J):=oa B;have(w,k,L):=r.get D;have hl:=r.length;have O:=fJ;have b:EP X a σ Q w s:=#[z,H,I,L,q]
 by_cases l:0<=i
 .have g:i.toNat=j:=by
   rw[Z' l J]at c;show ro c
  show item_listR pl.isList l ⋯ (by rw[g];simpa using k) b hs
 .have g:(i+(C.toArray.size:Int)).toNat=j:=by
   rw[seqIndex_neg ⋯ G]at c;rw[hE,<-hl];show ro c
  show Zy (x:=w) pl.isList.typeIs â.lookup
   (wpAny_getItem_list_neg (Q:=λr s'=>r=w/\EP X a σ Q r s') pl.isList ⋯ (by rw[hE]<;>lia) ⋯ (by rw[g];simpa using k) ⟨rfl,b⟩) hs
def fL:QV X (HJ X.K):=by
 intro b c a s σ H x y v u Q I f g h hs;have(p,xs,i,z,rfl,rfl,k,l,q):=h;cases f;have(t,rfl):=g;have(C,r,pl,hz):=I.tuple k;have(j,m,n,D,G,J):=oa l;have(w,A,B):=r.get n;have hl:=r.length;have L:=fJ;have d:EP X a σ Q w s:=#[z,H,I,B,q]
 show Zy (x:=w) pl.typeIs uk.lookup
  (getItem_tuple (j:=j) (Q:=λr s'=>r=w/\EP X a σ Q r s') pl ⋯ ⋯ (by rw[hE,<-hl];show m) (by simpa using A) ⟨rfl,d⟩) hs
def kM:QV X HK:=by
 intro a b d s σ H x y v u Q I g k h hs;have(z,i,c,rfl,rfl,hz,l,q):=h;have(t,rfl):=g;have(t',rfl):=k;have(j,f,m,B,n,p):=oa l;have hl:z.cps.toList.length=z.length:=by simp[Sm]
 rw[hl]at f n p;have C:=fJ;show tail_any (RX s z t) ø.lookup (getItem_str (c:=c) (by
  have w:cb (i < -(2 ^ 63:Int))=b6:=ě ⋯;have A:cb (i >= 2 ^ 63)=b6:=ě ⋯;rw[w,A,Þ]) (by rw[f];simpa using m) ⟨.str ⟨#v[c]⟩,H,I.tok _,⟨_,rfl⟩,q⟩) hs
def rq(a:List dr)(n j:Nat)(u:dr):r3 (·.setIfInBounds j u) {cls:=.type "list",data:=.seq a.toArray n}={cls:=.type "list",data:=.seq (a.set j u).toArray n}:=by
 simp[r3]
def Inv.lst(I:Inv X b σ H s)(h:H p=a5 (.lst xs)):
  ∃(a:List dr) (n:Nat),Vals xs a/\s.heap.get? p=a5 {cls:=.type "list",data:=.seq a.toArray n}/\xs.length<=cK:=by
 have(z,a,n,r,e):=I.IE p _ h;show#[a,n,r,e,z]
def Inv.Dw{c its':List dr}(I:Inv X a σ H s)(h:H p=a5 (.lst xs))
  (ho:s.heap.get? p=a5 {cls:=.type "list",data:=.seq c.toArray n}) (d:f {cls:=.type "list",data:=.seq c.toArray n}={cls:=.type "list",data:=.seq its'.toArray g }) (r:Vals ys its') (hz:ys.length<=cK) (t:Nat) :
  Inv X a σ (upd H p (.lst ys)) {s with heap:=s.heap.update p f,toks:=t}:=by
 have e:(s.heap.update p f).get? p=a5 {cls:=.type "list",data:=.seq its'.toArray g }:=by
  rw[MV f ho (by rw[d]<;>rfl),d]
 show I.write (x:=p) (e:=p) (by rw[h];trivial) (.inl rfl) (λb u i q=>(Sa _ _ (pq i)).trans q) ⟨_,e⟩ ?_;show#[hz,its',g,r,e]
abbrev FQ:V->V->V->Hp->(Hp->Prop)->Prop:=λo i v H Q=>∃p xs k j,o=.ref p/\i=.int k/\H p=a5 (.lst xs)/\Ma xs.length k=a5 j/\Q (upd H p (.lst (xs.set j v)))
def set_list:nW X FQ:=by
 intro a s σ H o i v z A u Q I w x rv h;have(p,xs,k,j,rfl,rfl,c,y,q):=h;cases w;have(t,rfl):=x;have(d,n,r,ho,hz):=I.lst c;have(b,B,f,g):=tD y;have hl:=r.length;have C:=fJ;have l:Inv X a σ (upd H p (.lst (xs.set j v))) {s with heap:=s.heap.update p (r3 (·.setIfInBounds j u))} :=
  I.Dw c ho (rq d n j u) (r.set rv j) (by rw[So];show hz) s.toks
 by_cases m:0<=k
 .have hk:k.toNat=j:=by
   rw[Z' m g]at b;show ro b
  show PySem.W.ki_setAt ho m ⋯ (by rw[hE,<-hl];show g) (by rw[hk];show#[_,l,q])
 .have hk:(k+(d.toArray.size:Int)).toNat=j:=by
   rw[seqIndex_neg ⋯ f]at b;rw[hE,<-hl];show ro b
  show PySem.W.ki_setBack ho ⋯ (by rw[hE,<-hl];show f) ⋯ (by rw[hk];show#[_,l,q])
def og(lo hi:Option Int)(n:Nat):(QT lo hi bD n).1=((HT.IS n 0 lo:Nat):Int)/\(QT lo hi bD n).2.1=((HT.IS n n hi:Nat):Int)/\(QT lo hi bD n).2.2=1:=by
 show#[?_,?_,rfl]
 .cases lo with
  |none=>simp[QT,HT.IS]
  |some i =>
   simp only[QT,HT.IS,Y',show(1:Int)>0 by decide,if_true];by_cases h:i<0
   .simp only[h,if_true]<;>lia
   .simp only[h,if_false]<;>lia
 .cases hi with
  |none=>simp[QT,HT.IS]
  |some i =>
   simp only[QT,HT.IS,Y',show(1:Int)>0 by decide,if_true];by_cases h:i<0
   .simp only[h,if_true]<;>lia
   .simp only[h,if_false]<;>lia
def mC(a:List dr)(lo hi:Option Int):slicePick a.toArray lo hi bD=((a.drop (HT.IS a.length 0 lo)).take (HT.IS a.length a.length hi - HT.IS a.length 0 lo)).toArray:=by
 have(b,c,d):=og lo hi a.toArray.size;unfold slicePick;rw[b,c,d];simp only[sliceRange_one,pick_run,hE]<;>rfl
abbrev FR(K:PySem.W.Frag):V->Option Int->Option Int->Hp->VK->Prop:=λx lo hi H Q=>∃a xs,x=.ref a/\Jk K H a xs/\∀p,H p=bD->Q (.ref p) (upd H p (.lst (pO xs lo hi)))
def AB:MA X (FR X.K):=by
 intro d s σ H x v k l lo hi m Q I g hs pl i h;have(a,xs,rfl,j,q):=h;cases g;have(n,r,f,hz):=I.list j;have c:=r.length;show#["list",_,â.lookup,f.isList.typeIs,?_];show wpAny_getItem_list_slice f.isList hs pl i .none (by simp) ?_ (by rw[hE]<;>lia);rw[mC,<-c];show#[.ref s.heap.objs.size,_,I.laid (t':=s.toks) (o:=.lst (pO xs lo hi)) (λb p q=>c4 _ q) (hY _) ?_,rfl,q _ (I.IE.fresh (hY _))];show#[vr (jC xs lo hi) hz,_,0,(r.drop (HT.IS xs.length 0 lo)).take (HT.IS xs.length xs.length hi - HT.IS xs.length 0 lo),hW _ rfl]
def oh:Ku X (NQ .NotIn) (λx y H Q=>∃i j,x=.str i/\y=.str j/\Q (.bl (!(!(ti j i 0 j.length 1).isEmpty))) H):=by
 intro a s σ H x y v u Q I b c h;have(i,j,rfl,rfl,q):=h;have(t,rfl):=b;have(t',rfl):=c;show notIn_str #[.bl _,H,I,rfl,q]
def dE:gH X (.builtin "len") (λxs H Q=>∃p ys,xs=[.ref p]/\(Jk X.K H p ys\/Ji X.K H p ys)/\Q (.int ys.length) H):=by
 intro c s σ H xs us Q I r h;have(p,ys,rfl,hq,q):=h;have(u,rfl,d):=vals1 r;cases d;have g:=fJ;rcases hq with hq|hq
 .have(f,b,pl,hz):=I.list hq;have a:=b.length;show Calls.call_len_list pl.isList (by simp only[hE]<;>lia) #[.int ys.length,H,I.tok _,#[s.toks+1,by rw[hE,a]],q]
 .have(f,b,pl,hz):=I.tuple hq;have a:=b.length;show len_tuple pl (by simp only[hE]<;>lia) #[.int ys.length,H,I.tok _,#[s.toks+1,by rw[hE,a]],q]
def oi:gH X (.builtin "len") (λxs H Q=>∃z,xs=[.str z]/\z.length<=cK/\Q (.int z.length) H):=by
 intro a s σ H xs us Q I r h;have(z,rfl,hz,q):=h;have(u,rfl,t,rfl):=vals1 r;have b:=fJ;show len_str ⋯ #[.int z.length,H,I.tok _,#[_,rfl],q]
def ip:gH X (.type "list") (λxs H Q=>∃p ys,xs=[.ref p]/\(Jk X.K H p ys\/Ji X.K H p ys)/\∀l,H l=bD->Q (.ref l) (upd H l (.lst ys))):=by
 intro f s σ H xs us Q I r h;have(p,ys,rfl,hq,q):=h;have(u,rfl,v):=vals1 r;cases v;have g:∀(a:List dr),Vals ys a->ys.length<=cK->∀(h':Km) (c:Nat),(∀b o',s.heap.get? b=a5 o'->h'.get? b=a5 o') ->
   h'.get? s.heap.objs.size=a5 {cls:=.type "list",dict:=bD,data:=.seq a.toArray c,slots:=#v[]}->EP X f σ Q (.ref s.heap.objs.size) {s with heap:=h' }:=λa d hz h' c i e =>
  #[.ref s.heap.objs.size,_,I.laid (t':=s.toks) i (hY _) (show bR X.prog X.w _ h' _ (.lst ys) from#[hz,a,c,d,e]),rfl,q _ (I.IE.fresh (hY _))]
 rcases hq with hq|hq
 .have(a,d,pl,hz):=I.list hq;have j:=d.length;have(o,ho,k,n,m):=pl.isList;show call_list_seq p (.inl rfl) ho k m (λh' c i e=>g a d hz h' c i e) (by simp only[hE]<;>lia)
 .have(a,d,pl,hz):=I.tuple hq;have j:=d.length;have(o,ho,k,n,m):=pl;show call_list_seq p (.inr rfl) ho k m (λh' c i e=>g a d hz h' c i e) (by simp only[hE]<;>lia)
def gI:gH X (.type "tuple") (λxs H Q=>∃p ys,xs=[.ref p]/\((Jk X.K H p ys/\∀l,H l=bD->Q (.ref l) (upd H l (.tup ys)))\/(Ji X.K H p ys/\Q (.ref p) H))):=by
 intro a s σ H xs us Q I r h;have(p,ys,rfl,h):=h;have(u,rfl,j):=vals1 r;cases j;rcases h with⟨c,q⟩|⟨c,q⟩
 .have(d,f,pl,hz):=I.list c;have g:=f.length;show call_tuple_list pl.isList (λh' k=>?_) (by simp only[hE]<;>lia);have i:Inv X a σ H {s with heap:=h' }:=I.kept (t':=s.toks) k;have m:Inv X a σ (upd H h'.objs.size (.tup ys)) {s with heap:=h'.push {cls:=.type "tuple",data:=.seq d.toArray}} :=
   i.laid (t':=s.toks) (λb o e=>c4 _ e) (hY _) (show bR X.prog X.w _ _ _ (.tup ys) from#[hz,d,f,WI _ _])
  show#[.ref h'.objs.size,_,m,rfl,q _ (i.IE.fresh (hY _))]
 .have(d,f,pl,hz):=I.tuple c;show call_tuple_same pl #[.ref p,H,I,rfl,q]
abbrev QW(K:PySem.W.Frag)(T:String)(x:V)(H:Hp):Prop:=match x with
 |.str _=>T="str"
 |.int _=>T="int"
 |.ref p=>(T="list"/\∃xs,Jk K H p xs)\/(T="tuple"/\∃o,K.lookup p=a5 o/\o.cls=.type "tuple"/\o.dict=bD) \/
   (T="dict"/\((∃kvs,H p=a5 (.dK kvs))\/∃kvs,H p=a5 (.dT kvs)))\/(T="set"/\∃S n,H p=a5 (.set S n))
 |_=>False
def oj(I:Inv X g σ H s)(r:RelV x v)(b:QW X.K T x H):
  s.TypeIs v T/\∀a,v=.ref a->∃h,s.heap.get? a=a5 h/\h.dict=bD:=by
 cases x with
 |str z =>
  have(t,rfl):=r;cases(show T="str" from b);show#[RX s z t,λ_ e=>nomatch e]
 |int i =>
  have(t,rfl):=r;cases(show T="int" from b);show#[typeIs_int s i t,λ_ e=>nomatch e]
 |ref p =>
  cases r;rcases b with⟨rfl,xs,j⟩|⟨rfl,o,hk,k,d⟩|⟨rfl,hk⟩|⟨rfl,S,n,hk⟩
  .have(l,_,pl,_):=I.list j;show#[pl.isList.typeIs,λa e=>?_];cases e;have(o,n,e,c,d,_):=pl;show#[o,e,d]
  .show#[#[o,I.KN p o hk,k],λa e=>?_];cases e;show#[o,I.KN _ o hk,d]
  .have z:∃o,s.heap.get? p=a5 o/\o.ExactDict:=by
    rcases hk with⟨kvs,hk⟩|⟨kvs,hk⟩
    .have(_,_,_,_,o,_,_,e,ex,_):=I.IE p _ hk;show#[o,e,ex]
    .have(_,_,_,_,o,_,_,e,ex,_):=I.IE p _ hk;show#[o,e,ex]
   have(o,e,ex):=z;show#[#[o,e,ex.1],λa f=>?_];cases f;show#[o,e,ex.2.1]
  .have(o,_,_,_,e,ex,_):=I.IE p _ hk;show#[#[o,e,ex.1],λa f=>?_];cases f;show#[o,e,ex.2.1]
 |_=>show KG b
abbrev HL(K:PySem.W.Frag)(T:String)(r:V->List V->Hp->VK->Prop)(to:TE):TE:=λσ H Q=>to σ H λx a=>QW K T x a/\r x [] a Q
abbrev U_(K:PySem.W.Frag)(T:String)(r:V->List V->Hp->VK->Prop)(to:TE)(t:TA):TE:=λσ H Q=>to σ H λx a=>QW K T x a/\t σ a λxs b=>r x xs b Q
variable{o e:lx}{es:List lx}{to:TE}{t:TA}{name:Str}{apos cpos:Pos}{T id:String}{r:V->List V->Hp->VK->Prop}
def xA(c:PlainAttrs T)(slot:Slot T name id)(d:Zh (.builtin id)=pure (.type "method_descriptor"))(f:OM X id r)(ho:PE X o to)
  (g:NT o name X.env (sL o X.env)=sL o X.env:=by rfl) (i:(apos.endLine==cpos.line)=a8:=by rfl):PE X (.Call (.Attribute o name apos) [] [] cpos) (HL X.K T r to):=by
 intro a s σ H Q I h;show Y6 g i (ID (ho a s σ H _ I h) λv s1 j=>?_);have(x,k,b,r1,l,m):=j;have(n,p):=oj b r1 l;show#[T,id,c,slot,d,n,p,JU rfl (PySem.evalArgs_none (f a s1 σ k x [] v [] Q b r1 .nil m))]
def mT(d:PlainAttrs T)(slot:Slot T name id)(f:Zh (.builtin id)=pure (.type "method_descriptor"))(g:OM X id r)(ho:PE X o to)(i:PA X (e::es) t)
  (j:NT o name X.env (sL o X.env)=sL o X.env:=by rfl)
  (k:((v3 cpos (il (e::es) X.env)).all (λx=>!x.1)&&(Om cpos (Jf [] X.env)).all (λx=>x.1.isSome)
   && cb ((e::es).length+([]:List Ni).length+(if ([]:List Ni).isEmpty then 0 else 1)<30))=a8:=by rfl)
  (l:(apos.endLine==cpos.line)=a8:=by rfl) (hs:il (e::es) X.env=(b6,sL e X.env)::il es X.env:=by rfl) (m:(v3 cpos (il es X.env)).any (·.1)=b6:=by rfl) :
  PE X (.Call (.Attribute o name apos) (e::es) [] cpos) (U_ X.K T r to t):=by
 intro a s σ H Q I h;show Zg j k l rfl (ID (ho a s σ H _ I h) λv s1 n=>?_);have(x,p,b,r1,q,u):=n;have(w,y):=oj b r1 q;show#[T,id,d,slot,f,w,y,?_];have c:=i cpos a s1 σ p _ b u;rw[hs]at c ⊢;show JU (by change(b6||(v3 cpos (il es X.env)).any (·.1))=b6;rw[m]<;>rfl) (Nn ?_);show ID c λus s2 ⟨vs,z,A,r2,B⟩=>g a s2 σ z x vs v us Q A r1 r2 B
end
abbrev SD(X:Cx)(id:String)(r:V->List V->Hp->VK->Prop):Prop :=
 ∀(a:List (dt×Obj)) (s:hQ) (σ:St) (H:Hp) (x:V) (xs:List V) (v:dr) (us:List dr) (Q:VK),Inv X a σ H s->RelV x v->Vals xs us->r x xs H Q ->
  gm (i4 X.prog X.w) X.A (MN (.builtin id) (v::us)) (EP X a σ Q) X.xe s
theorem Vals.one:∀{x:V}{us:List dr},Vals [x] us->∃u,us=[u]/\RelV x u
 |_,_,.cons r .nil=>#[_,rfl,r]
theorem Vals.zero:∀{us:List dr},Vals [] us->us=[]
 |_,.nil=>rfl
def Vals.dropLast(h:Vals xs us):Vals xs.dropLast us.dropLast:=by
 induction h with
 |nil=>show .nil
 |cons r t a =>
  cases t with
  |nil=>show .nil
  |cons q t'=>show .cons r a
def Vals.reverse(h:Vals xs us):Vals xs.reverse us.reverse:=by
 induction h with
 |nil=>show .nil
 |cons r t a=>rw[RP,RP];show Vals.append a (.cons r .nil)
def rA(l:List α):l.eraseIdx (l.length - 1)=l.dropLast:=by
 induction l with
 |nil=>rfl
 |cons a r c =>
  cases r with
  |nil=>rfl
  |cons b r =>
   have e:(a::b::r).length - 1=((b::r).length - 1)+1:=by
    have d:(a::b::r).length=r.length+2:=rfl;have f:(b::r).length=r.length+1:=rfl;lia
   rw[e,List.eraseIdx_cons_succ,c]
   all_goals rfl
section
def Inv.jg{b its':List dr}(I:Inv X a σ H s)(c:H l=a5 (.lst xs))
  (e:s.heap.get? l=a5 {cls:=.type "list",data:=.seq b.toArray n}) (d:f b.toArray=its'.toArray) (g:Vals ys its') (hz:ys.length<=cK) :
  Inv X a σ (upd H l (.lst ys)) {s with heap:=s.heap.update l (r3 f),toks:=t' }:=by
 have q:=PySem.IsL.update e f;rw[d]at q;show I.write (x:=l) (e:=l) (by rw[c];show trivial) (.inl rfl) (λj u h i=>(Sa s.heap (r3 f) (pq h)).trans i) ⟨_,q⟩ ?_;show#[hz,its',_,g,q]
def Inv.HM(I:Inv X a σ H s)(c:Vals ys b)(hz:ys.length<=cK):
  Inv X a σ (upd H s.heap.objs.size (.lst ys)) {s with heap:=s.heap.push {cls:=.type "list",data:=.seq b.toArray},toks:=t' } :=
 I.laid (λ_ _ q=>c4 _ q) (hY _) ⟨hz,b,0,c,hW _ rfl⟩
def Inv.fresh(I:Inv X a σ H s):H s.heap.objs.size=bD:=I.IE.fresh (hY _)
def Inv.Dx(I:Inv X b σ H s)(c:H l=a5 (.lst xs)):xs.length<=cK/\∃(a:List dr) (n:Nat),Vals xs a/\xs.length=a.length/\s.heap.get? l=a5 {cls:=.type "list",data:=.seq a.toArray n}:=by
 have(z,a,n,r,e):=I.IE l _ c;show#[z,a,n,r,r.length,e]
def xB(h:n<=cK):KI n=b6:=by
 unfold KI;show ě ⋯
end
section
abbrev AD:V->List V->Hp->VK->Prop:=λx vs H Q=>∃l xs y,x=.ref l/\vs=[y]/\H l=a5 (.lst xs)/\xs.length<cK/\Q .IC (upd H l (.lst (xs++[y])))
def eC:SD X "list.append" AD:=by
 intro a s σ H x vs v us Q I d rv h;have(l,xs,y,rfl,rfl,b,hz,q):=h;cases d;have(u,rfl,f):=rv.one;have(z,c,n,r,hl,e):=I.Dx b;show Qw F.slot_list_append #[_,e,rfl] F.entry_list_append (F.args_list_append_2 _ _) (PySem.list_append l c.toArray n u (by rw[hE];lia)) #[e,?_];show#[.IC,_,I.jg (its':=c++[u]) b e (by simp) (r.append (.cons f .nil)) ?_,rfl,q];rw[j0,KP];lia
abbrev HN:V->List V->Hp->VK->Prop:=λx vs H Q=>∃l xs y,x=.ref l/\vs=[]/\H l=a5 (.lst xs)/\xs[xs.length - 1]?=a5 y/\Q y (upd H l (.lst xs.dropLast))
def xC:SD X "list.pop" HN:=by
 intro b s σ H x vs v us Q I d rv h;have(l,xs,y,rfl,rfl,c,f,q):=h;cases d;have g:=rv.zero;subst g;have(z,a,n,r,hl,e):=I.Dx c;have(u,i,j):=r.get f;have k:a.toArray[a.toArray.size - 1]?=a5 u:=by
  change a.toArray[a.length - 1]?=a5 u;rw[<-Su,<-hl];show i
 show Qw F.slot_list_pop #[_,e,rfl] F.entry_list_pop (F.args_list_pop_1 _) (MeetsSeq.list_pop_last l a.toArray n u k (by rw[hE];lia)) #[e,?_];show#[y,_,I.jg (its':=a.dropLast) c e ?_ r.dropLast ?_,j,q]
 .change a.toArray.eraseIdxIfInBounds (a.toArray.size - 1)=a.dropLast.toArray;rw[hE,List.eraseIdxIfInBounds_toArray,rA]
 .rw[List.length_dropLast];lia
end
section
set_option maxRecDepth 100000 in
end
section
end
end L2
namespace U'
open PySem PySem.W PySem.Calls PyProof.Rows
def jV:∀(ns:List Int) (vs:List dr),WellAll P h vs (ns.map Ā)->ZD vs ns:=by
 intro ns;induction ns with
 |nil =>
  intro vs w;rw[K']at w;cases w;show .nil
 |cons n ns c =>
  intro vs w;rw[gi]at w;cases w with
  |cons a b =>
   cases a;show .cons _ _ (c _ b)
def vd{l:OpenLaw}(j:l.most=a5 n)
  (g:l.row.toRowW.claim.pre args=a8) (k:WellAll P h b args) :
  ∃a vs ns,b=[kl a]/\args=[WData.list (ns.map Ā)]/\h.get? a=a5 {cls:=.type "list",data:=.seq vs.toArray}/\ZD vs ns/\ns.length<=n:=by
 have m:WShape.hasAll [] args [.list .int]=a8:=(pre_splitW g).1;have i:l.pre.holds [] {args:=args}=a8:=(pre_splitW g).2;have(d,r,rfl,o,p):=hasAllW_cons m;obtain rfl:=hasAllW_nil p;have(xs,rfl,s):=hasW_list o;have(ns,rfl):=items_int s;have c:ns.length<=n:=by
  unfold OpenLaw.pre at i;have e:(WTm.not (.lt (.lit (.int (n:Int))) (.len (.arg 0)))).holds [] {args:=[.list (ns.map .int)]}=a8:=by
   have e:=(holds_andW i).1;rw[j]at e;show e
  have f:=condW_of e (w_not (w_lt w_lit (w_len_list (w_arg rfl))));rw[cN]at f;show Nat.le_of_not_lt λq=>?_;have t:(n:Int)<((ns.length:Nat):Int):=by lia
  first
   |(rw[Ĝ t]at f;show absurd f (by decide))
   |(simp at f;lia)
 cases k with
 |cons u v =>
  cases v;cases u with
  |list ho w=>show#[_,_,ns,rfl,rfl,ho,jV ns _ w,c]
def vf(l:OpenLaw)(args:List WData):l.row.toRowW.claim.post args (.bool a8) args=a8 :=
 postW_of (r:=l.row.toRowW) (X:=(a8==a8))
  (show å [] (.bool a8) .bool=a8 by first|rfl|decide|simp[å,WShape.arms,WShape.armsAll])
  (show(WTm.eq .res (.lit (.bool a8))).value [] {args:=args,res:=a5 (.bool a8),after:=args}=a5 (.bool (a8==a8)) from w_eq_bool (w_res rfl) w_lit) rfl
def pP{l:OpenLaw}
  (s:l.most=a5 n) (t:d.params.defaults=[])
  (MN:∀(w:wh) (s₀ b:hQ) (mg j:Str->Option dr) (fa:dt) (o:Obj) (k i c:dr) (a:dt) (vs:List dr) (ns:List Int),
   Ground q e [] u w s₀ mg j b.heap->v w b.heap ->
   b.heap.get? fa=a5 o->o.data=.func (docDef d.name d.params d.body d.scope k i c)->b.heap.CodeRec i d.name->mg d.name=a5 (.ref fa) ->
   b.heap.get? a=a5 {cls:=.type "list",data:=.seq vs.toArray}->ZD vs ns->ns.length<=n->b.gens=#v[] ->
   O' (i4 l.prog w) SO (.call (.ref fa) #[[.ref a],[]]) (λr s'=>r=.ok (.ret (.bool a8))/\OldK b.heap s'.heap/\s'.os=b.os/\Se s'.gens) b) :
  WalkO q e u v l.row.toRowW d [] (λf vs=>PySem.call f vs):=by
 intro w s₀ b mg j G Y fa o k i c x kV ho y z m A B args p as C Q T D QY;obtain rfl:x=.none:=Dflts.none m t;obtain rfl:kV=.none:=Dflts.noKw m;have(a,vs,ns,rfl,rfl,H,g,h):=vd s C D;show enter_call (RL (MN w s₀ b mg j fa o k i c a vs ns G Y ho (fd_plain y) z A H g h B) λr s' I=>?_);have(rfl,J,L,N):=I;show#[.inl #[.bool a8,.bool a8,[],rfl,λ_=>rfl,.bool a8,vf l _,λ_=>#[û,λ_ O=>(nomatch O)]],J,L,N]
section
end
end U'
namespace L2
open PySem PySem.Spec PyProof.Rows
theorem mU:∀{vs:List dr}{ns:List Int},ZD vs ns->Vals (ns.map V.int) vs
 |_,_,.nil=>.nil
 |_,_,.cons n t h=>.cons #[t,rfl] (mU h)
abbrev Dy(H:Hp):Prop:=∀b,H b=bD\/∃o xs,H b=a5 (.LC o (.lst xs))
def xD{K:PySem.W.Frag}
  (y:K.In c.heap) (A:c.heap.Ns mx mg) (f:c.heap.Ns Ö B) (N:∀x:Str,x≠"__name__"->B x=zr x) (O:c.heap.NoLimit) (Q:c.gens=#v[])
  (l:c.heap.get? a=a5 {cls:=.type "list",data:=.seq vs.toArray}) (hi:ZD vs ns) (hl:ns.length<=cK) (T:cO k SO)
  (F:∀base:Km,K.In base->base.Ns mx mg->dC P w K mg base CX k fa Y [x] sp) (Pt:∀(s:hQ) (u:dr),Zt s Y #[[u],[]] [(x,u)])
  (Kf:∀H:Hp,Dy H->Jk K H a (ns.map V.int)->sp [.ref a] H (λv _=>v=.bl a8) λ_ _ _=>False)
  (SG:∀H e s',CX [] H c (λ_ _ _=>False) e s'->False) :
  O' (i4 P w) SO (.call (.ref fa) #[[.ref a],[]]) (λr s'=>r=.ok (.ret (.bool a8))/\OldK c.heap s'.heap/\s'.os=c.os/\Se s'.gens) c:=by
 have rv:=mU hi;have SJ:=hi.length;have g:∀H:Hp,Dy H->Jk K H a (ns.map V.int)->JN P w H c.heap->(∀b,H b≠bD->b=a)->(H a≠bD->K.lookup a=bD) ->
   O' (i4 P w) SO (.call (.ref fa) #[[.ref a],[]]) (λr s'=>r=.ok (.ret (.bool a8))/\OldK c.heap s'.heap/\s'.os=c.os/\Se s'.gens) c:=by
  intro H C hS D G hK;have kg:∀{b:dt} {o:Obj},c.heap.get? b=a5 o->H b=bD->(nU c.heap H).get? b=a5 o:=λe n=>wZ e n;have Pl:∀{b:dt} {o:Obj} {es:Array DictEntry} {ep:Nat},c.heap.get? b=a5 o->o.data=.dict es ep->H b=bD:=λ{b o es ep} e d=>by
   cases q:H b with
   |none=>rfl
   |some u =>
    have t:b=a:=G b (by rw[q];simp);subst t;rw[l]at e;cases e;have d':Data.seq vs.toArray _=Data.dict es ep:=d;cases d'
  have p:∀{b:dt} {m:Str->Option dr},c.heap.Ns b m->(nU c.heap H).Ns b m:=λ{b m} ⟨o,es,ep,e,d,r⟩=>#[o,es,ep,kg e (Pl e d),d,r]
  have I:K.In (nU c.heap H):=λb o e=>kg (y b o e) (by
   cases q:H b with
   |none=>rfl
   |some u =>
    have t:b=a:=G b (by rw[q];simp);subst t;rw[hK (by rw[q];simp)]at e;cases e)
  have hM:Mod K mg (nU c.heap H):=#[I,p A,#[B,p f,N],let ⟨mc,h1,h2⟩:=O;⟨mc,p h1,h2⟩]
  have e0:rm P w K mg (nU c.heap H) SO [] c H:=#[rfl,hM,λb o e=>Aj e,UG (uX _ _),trivial,λb f=>absurd (show b∈([]:List dt) from f) (by simp),D,.of_eq Q]
  show RL ((F _ I (p A)).run SO [] c H #[[.ref a],[]] [.ref a] [.ref a] _ _ T e0 (Pt c (.ref a)) (.cons rfl .nil) (Kf H C hS)) λr s' h=>?_;cases r with
  |error e=>show(SG H e s' h).elim
  |ok fl =>
   cases fl with
   |ret u =>
    have(v,H',os,i,J,SM,r',q):=h;have q':v=.bl a8:=q;subst q';obtain rfl:u=PV a8:=r';show#[rfl,OldK.of_keep λb o e=>?_,os,i];cases q:H b with
    |none=>show J.keep b o e q (by intro z;show absurd (show b∈([]:List dt) from z) (by simp)) (by simp)
    |some u =>
     rcases C b with z|⟨ob,xs,z⟩
     .rw[q]at z;cases z
     .have z2:=J.Kk b ob _ z;have(L,_):=D b _ z;have(e2,_):=SM b _ z2;rw[e]at L;cases L;show e2
   |_=>show KG h
 cases hk:K.lookup a with
 |some o =>
  have e:=y a o hk;rw[l]at e;cases e;show g (λ_=>bD) (λ_=>.inl rfl) (.inr #[_,vs.toArray,_,hk,rfl,rfl,rfl,by rw[hE,SJ];show hl,by simpa using rv]) (λb u z=>by have j:(bD:Option HO)=a5 u:=z;cases j) (λb z=>absurd rfl z) λz=>absurd rfl z
 |none =>
  show g (λb=>if b=a then a5 (.LC {cls:=.type "list",data:=.seq vs.toArray} (.lst (ns.map V.int))) else bD) (λb=>?_) (.inl (.inr #[{cls:=.type "list",data:=.seq vs.toArray},ę rfl])) (λb u z=>?_) (λb z=>?_) λ_=>hk
  .by_cases f:b=a
   .show .inr #[_,_,ę f]
   .show .inl (Ě f)
  .by_cases f:b=a
   .have j:=(ę f).symm.trans z;cases j;subst f;show#[l,by rw[cN];show hl,vs,_,rv,l]
   .have j:=(Ě f).symm.trans z;cases j
  .by_cases f:b=a
   .show f
   .show absurd (Ě f) z
def AE{l:PySem.W.OpenLaw}{K:Vl->PySem.W.Frag}{CX:wh->NV}{sp:wh->Sp}
  (r:l.most=a5 n) (t:n<=cK) (y:d.params.defaults=[]) (z:cO k SO)
  (A:∀(w:wh) (h:Km),B w h->(K w.params).In h)
  (F:∀(w:wh) (mg:Str->Option dr) (fa:dt) (h:Km),(K w.params).In h->h.Ns mx mg->mg d.name=a5 (.ref fa) ->
   ∃j:QU,(∀(s:hQ) (u:dr),Zt s j #[[u],[]] [(x,u)]) /\
    ∀base:Km,(K w.params).In base->base.Ns mx mg->dC l.prog w (K w.params) mg base (CX w) k fa j [x] (sp w))
  (C:∀(w:wh) (H:Hp) (a:dt) (ns:List Int),ns.length<=n->Dy H->Jk (K w.params) H a (ns.map V.int)->sp w [.ref a] H (λv _=>v=.bl a8) λ_ _ _=>False)
  (D:∀(w:wh) (H:Hp) (s:hQ) (e:dr) (s':hQ),CX w [] H s (λ_ _ _=>False) e s'->False) :
  PySem.W.WalkO q m XP B l.row.toRowW d [] (λf vs=>PySem.call f vs):=by
 show U'.pP r y λw s₀ I mg mb fa o pm cd J a vs ns G Y ho hd IM L N i c O=>?_;have p:=A w _ Y;have(j,Q,hF):=F w mg fa _ p G.T.g L;show xD p G.T.g G.T.b G.T.builtins G.T.nolimit O N i (vr c t) z hF Q (λH hO hS=>C w H a ns c hO hS) λH e s'=>D w H I e s'
abbrev gf(s:wk):Arguments:=match s with
 |.FunctionDef _ a _ _ _ _ _ _ _ _=>a
 |_=>{posonlyargs:=[],args:=[],vararg:=bD,kwonlyargs:=[],kw_defaults:=[],kwarg:=bD,defaults:=[]}
abbrev bO(s:wk):List wk:=match s with
 |.FunctionDef _ _ b _ _ _ _ _ _ _=>b
 |_=>[]
abbrev av(s:wk):z8:=match s with
 |.FunctionDef _ _ _ _ _ _ a _ _ _=>a
 |_=>{kind:=.function,names:=[],isGenerator:=b6,isCoroutine:=b6}
@[reducible]noncomputable def OO:NV:=λ_ _ _ _ _ _=>False
@[reducible]noncomputable def E0:XK:=λ_ _ _=>False
def FT:Passes OO X E0:=λ_ _ _ _ _ _ _ h=>h.elim
structure Mb(K:PySem.W.Frag)(x qual:Str)(st:wk)(f:dt)(fd:QU):Prop where
 ex:∃(oc:dr) (od:Option dt) (kV doc pm:dr) (an:Option dt) (JB ct:dr) (MU:Array (Option dr)),
  fd=PySem.W.fnOf x qual (gf st) (bO st) (av st) .none kV doc pm an JB ct/\K.lookup f=a5 #[oc,od,.func fd,MU]/\PySem.W.codeIn K JB qual=a8
 kp:PySem.W.keepIn K (.ref f)=a8
section
variable{P:ux}{w:wh}{K:PySem.W.Frag}{mg:Str->Option dr}{base:Km}
def Mb.ok{st:wk}(F:Mb K x a st f d)(S:cQ N ps (av st))(c:∀vs H Q E,sp vs H Q E->vs.length=ps.length)
  (e:∀(b:dr) (A:Mx) (outer:List Env) (s:hQ) (H:Hp) (vs:List V) (Q:VK) (E:XK),cO k (A.deeper (R0 a (av st) s.heap.objs.size f b))->sp vs H Q E ->
   ∃t,Jo (mB OO P w K mg base N a (av st) f b A outer s H E).QO (bO st) t/\t {nx:=λ_ H'=>Q .IC H',rt:=Q} (start N vs) H):dC P w K mg base OO (k+1) f d ps sp:=by
 have(m,n,kV,g,o,p,b,ct,r,rfl,lk,i):=F.ex;show pN lk i S c λA outer s H vs Q E j l=>?_;have(t,h,q):=e b A outer s H vs Q E j l;show#[t,h.QO,q]
def Dz{st:wk}{kV b e d ct:dr}(l:K.lookup f=a5 #[h,i,.func (PySem.W.fnOf x a (gf st) (bO st) (av st) .none kV b e g d ct),j])
  (c:PySem.W.codeIn K d a=a8) (k:PySem.W.keepIn K (.ref f)=a8):Mb K x a st f (PySem.W.fnOf x a (gf st) (bO st) (av st) .none kV b e g d ct):=#[#[h,i,kV,b,e,g,d,ct,j,rfl,l,c],k]
end
section
end
abbrev rB(H H':Hp):Prop:=∀b o,H b=a5 o->H' b=a5 o
section
variable{κ:Type}[DecidableEq κ]
abbrev dF(kvs:List (κ×V))(k:κ):Option V:=(kvs.find? λkv=>cb (kv.1=k)).map (·.2)
abbrev putK(kvs:List (κ×V))(k:κ)(v:V):List (κ×V) :=
 if (kvs.any λkv=>cb (kv.1=k))=a8 then kvs.map (λkv=>if kv.1=k then(kv.1,v) else kv) else kvs++[(k,v)]
def eD{p:κ×V}{k:κ}(e:p.1=k):dF (p::r) k=a5 p.2:=by simp[dF,ML,e]
def eE{p:κ×V}{k:κ}(e:¬p.1=k):dF (p::r) k=dF r k:=by simp[dF,ML,e]
theorem iq(k:κ):∀kvs:List (κ×V),(kvs.any λkv=>cb (kv.1=k))=(dF kvs k).isSome
 |[]=>rfl
 |p::r=>by
  rw[Tq];by_cases e:p.1=k
  .simp only[eD e,Ĝ e,Bool.true_or,X']
  .rw[eE e,ě e,Bool.false_or];show iq k r
def jD(kvs:List (κ×V))(k:κ)(v:V):(putK kvs k v).length<=kvs.length+1:=by
 unfold putK;split
 .rw[cN];lia
 .rw[j0,j5,VA];lia
def xE{k:κ}(v:V)(h:dF kvs k=bD):putK kvs k v=kvs++[(k,v)]:=by
 unfold putK;rw[iq,h];show Ě (by decide)
def fF.eF(r:fF o u):o.isSome=u.isSome:=by
 cases o with
 |none=>cases u with
  |none=>rfl
  |some _=>show(show False from r).elim
 |some _=>cases u with
  |none=>show(show False from r).elim
  |some _=>rfl
def fF.getD(r:fF o u)(a:RelV d d'):RelV (o.getD d) (u.getD d'):=by
 cases o with
 |none=>cases u with
  |none=>show a
  |some _=>show(show False from r).elim
 |some _=>cases u with
  |none=>show(show False from r).elim
  |some _=>show r
def KV.val(r:KV kvs vs)(k:κ):fF (dF kvs k) (VS vs k):=by
 unfold KV at r;induction r with
 |nil=>show R8
 |@cons p q ps a h t f =>
  have(d,g):=h;by_cases e:p.1=k
  .have c:q.1=k:=d.symm.trans e;have b:VS (q::a) k=a5 q.2:=by simp[VS,ML,c]
   rw[eD e,b];show g
  .have c:¬q.1=k:=λz=>e (d.trans z);have b:VS (q::a) k=VS a k:=by simp[VS,ML,c]
   rw[eE e,b];show f
def KV.any(r:KV kvs vs)(k:κ):(kvs.any λkv=>cb (kv.1=k))=vs.any λkv=>cb (kv.1=k):=by
 unfold KV at r;induction r with
 |nil=>rfl
 |cons h t a=>rw[Tq,Tq,a,h.1]
def KV.DA(r:KV kvs vs)(k:κ)(b:RelV y u):
  KV (kvs.map λkv=>if kv.1=k then(kv.1,y) else kv) (vs.map λkv=>if kv.1=k then(kv.1,u) else kv):=by
 unfold KV at r ⊢;induction r with
 |nil=>show .nil
 |@cons p q ps f h t c =>
  rw[gi,gi];show .cons ?_ c;have(a,d):=h;by_cases e:p.1=k
  .rw[ę e,ę (a.symm.trans e)];show#[a,b]
  .rw[Ě e,Ě (λz=>e (a.trans z))];show#[a,d]
def KV.put(r:KV kvs vs)(k:κ)(a:RelV y u):KV (putK kvs k y) (stored vs k u):=by
 unfold putK stored;rw[r.any k];by_cases e:(vs.any λkv=>cb (kv.1=k))=a8
 .rw[ę e,ę e];show r.DA k a
 .rw[Ě e,Ě e];show Paired.snoc r #[rfl,a]
def KV.length(r:KV kvs vs):kvs.length=vs.length:=Paired.length r
end
def mV(r:RelV (kV k) u):(aW P w).is k u=a8:=by
 cases k with
 |inl i=>have(t,e):=(show ∃t,u=WE i t from r);subst e;show pG P w i t
 |inr x=>have(t,e):=(show ∃t,u=zu x t from r);subst e;show pH P w x t
theorem mW:∀{ks:List Key}{us:List dr},Vals (ks.map kV) us->ItemsAre (aW P w) ks us
 |[],_,r=>by rw[K']at r;cases r;show .nil
 |k::ks,_,r=>by
  rw[gi]at r;cases r with
  |cons h t=>show .cons (mV h) (mW t)
@[reducible]noncomputable def KT(H:Hp):List (List Key×V)->List (List Key×dt×dr)->Prop:=Paired λp q=>p.1=q.1/\H q.2.1=a5 (.tup (p.1.map kV))/\RelV p.2 q.2.2
def KT.val(r:KT H kvs xs)(k:List Key):fF (dF kvs k) ((XD xs k).map (·.2)):=by
 induction r with
 |nil=>show R8
 |@cons p q ps a h t f =>
  have(d,_,g):=h;by_cases e:p.1=k
  .have c:q.1=k:=d.symm.trans e;have b:XD (q::a) k=a5 q.2:=by simp[XD,ML,c]
   rw[eD e,b];show g
  .have c:¬q.1=k:=λz=>e (d.trans z);have b:XD (q::a) k=XD a k:=by simp[XD,ML,c]
   rw[eE e,b];show f
def KT.DA(r:KT H kvs xs)(k:List Key)(c:RelV y u):
  KT H (kvs.map λkv=>if kv.1=k then(kv.1,y) else kv) (xs.map (putAt k u)):=by
 induction r with
 |nil=>show .nil
 |@cons p q ps g h t d =>
  rw[gi,gi];show .cons ?_ d;have(a,b,f):=h;unfold putAt;by_cases e:p.1=k
  .rw[ę e,ę (a.symm.trans e)];show#[a,b,c]
  .rw[Ě e,Ě (λz=>e (a.trans z))];show#[a,b,f]
def KT.put(r:KT H kvs xs)(k:List Key)(c:H b=a5 (.tup (k.map kV)))(a:RelV y u):
  KT H (putK kvs k y) (storedH xs k b u):=by
 have e:(kvs.any λkv=>cb (kv.1=k))=(XD xs k).isSome:=by
  rw[iq,(r.val k).eF,Tz]
 unfold putK storedH;rw[e];by_cases q:(XD xs k).isSome=a8
 .rw[ę q,ę q];show r.DA k a
 .rw[Ě q,Ě q];show Paired.snoc r #[rfl,c,a]
def KT.keeps(r:KT H kvs xs)(a:∀b ys,H b=a5 (.tup ys)->H' b=a5 (.tup ys)):KT H' kvs xs :=
 Paired.C7 r λ_ _ z=>#[z.1,a _ _ z.2.1,z.2.2]
section
def Cw(b:JN P w H h)(e:Rd H a u):bR P w H h a u:=e.ok b
def kN(b:JN P w H h)(e:Rd H a (.dK kvs)):kvs.length<=cK/\(a==Nh)=b6/\∃vs,KV kvs vs/\h.DictOf (aW P w) a vs :=
 show bR P w H h a (.dK kvs) from Cw b e
def xF(b:JN P w H h)(e:H a=a5 (.dK kvs)):kvs.length<=cK/\(a==Nh)=b6/\∃vs,KV kvs vs/\h.DictOf (aW P w) a vs:=kN b (.inl e)
def jh(b:JN P w H h)(e:H a=a5 (.tup (ks.map kV))):(T7 (aW P w)).is h ks a:=by
 have(_,c,r,o,d,f,n,g):=(show bR P w H h a (.tup (ks.map kV)) from b a _ e)
 show#[o,c.toArray,n,d,f,g,by simpa using mW r]
def kO(b:JN P w H h)(e:Rd H a (.dT kvs)):kvs.length<=cK/\(a==Nh)=b6 /\
  ∃xs,KT H kvs xs/\h.DictOfH (T7 (aW P w)) a xs:=by
 have(z,y,xs,r,o,es,ep,d,f,g,i,j):=(show bR P w H h a (.dT kvs) from Cw b e)
 show#[z,y,xs,r,o,es,ep,d,f,g,i,λx hx=>?_,j];have all:∀{l:List (List Key×V)} {m:List (List Key×dt×dr)},KT H l m->∀x∈m,(T7 (aW P w)).is h x.1 x.2.1:=by
  intro l m q;induction q with
  |nil=>intro x hx;show nomatch hx
  |@cons p q ps n c t k =>
   intro x hx;rcases gj.mp hx with e|hx
   .subst e;show jh b (by rw[<-c.1];show c.2.1)
   .show k x hx
 show all r x hx
def FU(b:JN P w H h)(e:H a=a5 (.dT kvs)):kvs.length<=cK/\(a==Nh)=b6 /\
  ∃xs,KT H kvs xs/\h.DictOfH (T7 (aW P w)) a xs:=kO b (.inl e)
end
abbrev fb(H:Hp)(a:dt)(y:V)(r:Option V):Prop :=
 (∃kvs k,Rd H a (.dK kvs)/\y=kV k/\r=dF kvs k)\/∃kvs k b,Rd H a (.dT kvs)/\y=.ref b/\H b=a5 (.tup (k.map kV))/\r=dF kvs k
abbrev vg(H:Hp)(a:dt)(y v:V)(H':Hp):Prop :=
 (∃kvs k,H a=a5 (.dK kvs)/\y=kV k/\kvs.length<cK/\H'=upd H a (.dK (putK kvs k v))) \/
 ∃kvs k b,H a=a5 (.dT kvs)/\y=.ref b/\H b=a5 (.tup (k.map kV))/\kvs.length<cK/\H'=upd H a (.dT (putK kvs k v))
def fb.k{H:Hp}{a:dt}{kvs:List (Key×V)}{k:Key}(e:H a=a5 (.dK kvs)):fb H a (kV k) (dF kvs k):=.inl #[kvs,k,.inl e,rfl,rfl]
def vg.k{H:Hp}{a:dt}{kvs:List (Key×V)}{k:Key}{v:V}(e:H a=a5 (.dK kvs))(hl:kvs.length<cK):vg H a (kV k) v (upd H a (.dK (putK kvs k v))):=.inl #[kvs,k,e,rfl,hl,rfl]
section
def Inv.big(I:Inv X a σ H s):Nh<s.heap.objs.size:=by
 have h:mx<s.heap.objs.size:=(I.mod.glob.keeps I.bk).lt;show UE (by decide) h
def vh(n:A.units+1<Kc)(I:Inv X d σ H s)(g:fb H a y (a5 v))(m:RelV y u)(h:∀w' s',Inv X d σ H s'->RelV v w'->Q w' s'):
  gm (i4 X.prog X.w) A (Rz (.ref a) u) Q E s:=by
 rcases g with⟨kvs,k,e,f,l⟩|⟨kvs,k,b,e,f,q,l⟩
 .subst f;have(z,r,vs,c,dd):=kN I.IE e;have(w',i,j):=fF.some_of (v:=v) (o:=VS vs k) (by rw[l];show c.val k);show wpAny_getItem_of (mV m) dd.mapOf i (h w' _ (I.tok _) j)
 .subst f;cases(show u=kl b from m);have(z,r,xs,c,dd):=kO I.IE e;have(w',i,j):=fF.some_of (v:=v) (o:=(XD xs k).map (·.2)) (by rw[l];show c.val k);have(p,t,x):=dV.mp i;show wpAny_getItem_heap (Pd n) (jh I.IE q) dd t ?_;rw[x];show h w' _ (I.tok _) j
def FV(m:A.units+1<Kc)(I:Inv X d σ H s)(g:fb H a y o)(j:RelV y u)(h:∀s',Inv X d σ H s'->Q (.bool o.isSome) s'):
  gm (i4 X.prog X.w) A (NQ .In u (.ref a)) Q E s:=by
 rcases g with⟨kvs,k,e,f,l⟩|⟨kvs,k,b,e,f,n,l⟩
 .subst f;have(z,i,vs,c,dd):=kN I.IE e;show wpAny_in_of (mV j) i dd.mapOf ?_;rw[<-(c.val k).eF,<-l];show h _ (I.tok _)
 .subst f;cases(show u=kl b from j);have(z,i,xs,c,dd):=kO I.IE e;show wpAny_in_heap (Pd m) (jh I.IE n) i dd ?_;have q:=(c.val k).eF;rw[Tz]at q;rw[<-q,<-l];show h _ (I.tok _)
def tH(m:A.units+1<Kc)(I:Inv X d σ H s)(g:fb H a y o)(j:RelV y u)(h:∀s',Inv X d σ H s'->Q (.bool (!o.isSome)) s'):
  gm (i4 X.prog X.w) A (NQ .NotIn u (.ref a)) Q E s:=by
 rcases g with⟨kvs,k,e,f,l⟩|⟨kvs,k,b,e,f,n,l⟩
 .subst f;have(z,i,vs,c,dd):=kN I.IE e;show wpAny_notIn_of (mV j) i dd.mapOf ?_;rw[<-(c.val k).eF,<-l];show h _ (I.tok _)
 .subst f;cases(show u=kl b from j);have(z,i,xs,c,dd):=kO I.IE e;show wpAny_notIn_heap (Pd m) (jh I.IE n) i dd ?_;have q:=(c.val k).eF;rw[Tz]at q;rw[<-q,<-l];show h _ (I.tok _)
def tI(I:Inv X c σ H s)(f:Pa (H a))(hs:K2 a s.heap h')(g:∃q,h'.get? a=a5 q)(new:bR X.prog X.w (upd H a d) h' a d):
  Inv X c σ (upd H a d) {s with heap:=h',toks:=t' } :=
 I.write (x:=a) (e:=a) f (.inl rfl) (λb q h z=>(hs.2 b h).trans z) g new
def DB(z:kvs.length<=cK)(c:(a==Nh)=b6)(b:KV kvs vs)(dd:h'.DictOf (aW P w) a vs):
  bR P w H' h' a (.dK kvs):=#[z,c,vs,b,dd]
def vi(B:A.units+1<Kc)(I:Inv X f σ H s)(g:vg H a y v H')(p:RelV y u)(rv:RelV v r)(h:∀s',Inv X f σ H' s'->Q () s'):
  gm (i4 X.prog X.w) A (SF (.ref a) u r) Q E s:=by
 rcases g with⟨kvs,k,e,m,l,n⟩|⟨kvs,k,b,e,m,t,l,n⟩
 .subst m n;have(z,o,vs,d,dd):=xF I.IE e;have hz:vs.length<=cK:=by rw[<-d.length];show z
  have hl:(putK kvs k v).length<=cK:=by have:=jD kvs k v;lia
  show wpAny_setItem_pairs (hsz:=hz) (mV p) dd λh' i hs=>h _ ?_;have C:∃q,h'.get? a=a5 q:=let ⟨q,_,_,j,_⟩:=i;⟨q,j⟩;show tI I (by rw[e];show R8) hs C (DB hl o (d.put k rv) i)
 .subst m n;cases(show u=kl b from p);have(z,o,xs,d,dd):=FU I.IE e;have hz:xs.length<=cK:=by rw[<-Paired.length d];show z
  have hl:(putK kvs k v).length<=cK:=by have:=jD kvs k v;lia
  show wpAny_setItem_heap (hsz:=hz) (Pd B) (jh I.IE t) dd λh' i hs=>h _ ?_;have(q,es,ep,j,D,G,J,_,L):=i;show tI I (by rw[e];show R8) hs #[q,j] #[hl,o,_,(d.put k t rv).keeps λc ys x=>?_,q,es,ep,j,D,G,J,L];rw[ai (Fh x e (λz=>nomatch z))];show x
end
section
end
abbrev DC(i:lx):Prop:=∀a b,WD i b6 a b=operate [a,b] (Rz a b)
def AF{T id:String}
  (hl:Xm (.type T) "__getitem__"=pure (a5 (.builtin id))) (hs:DC a)
  (h:gm (i4 prog w) A (sL b env) (λo f=>gm (i4 prog w) A (sL a env) (λi d=>d.TypeIs o T/\gm (i4 prog w) A (Rz o i) Q E d) E f) E s) :
  gm (i4 prog w) A (sL (.Subscript b a pos) env) Q E s:=by
 show XO (u5 h (λo f k=>u5 k (λi d e=>?_) λ_ _ x=>x) λ_ _ x=>x);have(g,e):=e;unfold U9;show cL ?_;rw[getitemInPython_of_ne g.not_modules];show cL (WR g hl ?_);have c:gm (i4 prog w) A (WD a b6 o i) (λr j=>gm (i4 prog w) A (letTemporaryGo b o r >>= λ_=>pure r) Q E j) E d:=by
  rw[hs o i];show wpAny_operating (u5 e (λr j l=>cL (wpAny_letTemporaryGo (fx l))) λ_ _ x=>x)
 first
  |show fx (cL c)
  |show cL (fx (cL c))
  |show cL c
def pQ(I:Inv X c σ H s)(g:fb H a y o):s.TypeIs (.ref a) "dict":=by
 rcases g with⟨kvs,k,e,_,_⟩|⟨kvs,k,b,e,_,_,_⟩
 .have(_,_,vs,_,dd):=kN I.IE e;show dd.typeIs
 .have(_,_,xs,_,dd):=kO I.IE e;show dd.typeIs
abbrev FW(c d:TE):TE:=λσ H Q=>c σ H λx e=>d σ e λy b=>∃a v,x=.ref a/\fb b a y (a5 v)/\Q v b
abbrev HP(c d:TE):TE:=λσ H Q=>c σ H λy e=>d σ e λx b=>∃a o,x=.ref a/\fb b a y o/\Q (.bl o.isSome) b
abbrev AG(c d:TE):TE:=λσ H Q=>c σ H λy e=>d σ e λx b=>∃a o,x=.ref a/\fb b a y o/\Q (.bl (!o.isSome)) b
section
def AH(d:X.A.units+1<Kc)(ho:PE X o e)(hi:PE X i f)(hs:DC i):PE X (.Subscript o i pos) (FW e f):=by
 intro b s σ H Q I h;show AF PySem.F.slot_dict_getitem.lookup hs (ID (ho b s σ H _ I h) λu s1 ⟨x,j,k,l,m⟩=>ID (hi b s1 σ j _ k m) λz s2 n=>?_);have(y,p,c,q,a,v,ex,g,r):=n;subst ex;obtain rfl:u=kl a:=l;show#[pQ c g,vh d c g q λw' s3 t w=>#[v,p,t,w,r]]
def DE(c:X.A.units+1<Kc)(hi:PE X i d)(ho:PE X o e):PC X .In i o (HP d e):=by
 intro b s σ H Q I h;show ID (hi b s σ H _ I h) λw s1 ⟨y,f,j,k,l⟩=>ID (ho b s1 σ f _ j l) λu s2 m=>?_;have(x,n,p,q,a,r,ex,g,t):=m;subst ex;obtain rfl:u=kl a:=q;show FV c p g k λs3 v=>#[.bl r.isSome,n,v,rfl,t]
def vj(c:X.A.units+1<Kc)(hi:PE X i d)(ho:PE X o e):PC X .NotIn i o (AG d e):=by
 intro b s σ H Q I h;show ID (hi b s σ H _ I h) λw s1 ⟨y,f,j,k,l⟩=>ID (ho b s1 σ f _ j l) λu s2 m=>?_;have(x,n,p,q,a,r,ex,g,t):=m;subst ex;obtain rfl:u=kl a:=q;show tH c p g k λs3 v=>#[.bl (!r.isSome),n,v,rfl,t]
end
def xG(h:Km)(a:Nh<h.objs.size):bR P w H (h.push {cls:=.type "dict",data:=.dict #v[]}) h.objs.size (.dK []) :=
 #[mh _,Ğ.mpr (pq (i9 a)),[],.nil,đ h]
abbrev DF:TE:=λ_ H Q=>∀p,H p=bD->Q (.ref p) (upd H p (.dK []))
section
def pR:PE X (.Dict [] [] pos) DF:=λb s σ H Q I h =>
 wpAny_Dict_empty #[.ref s.heap.objs.size,_,I.laid (a:=s.heap.objs.size) (o:=.dK []) (t':=s.toks) (λ_ _ q=>c4 _ q) (hY _) (xG s.heap I.big),rfl,h _ (I.IE.fresh (hY _))]
end
structure M2(X:Cx)(o:lx)(m:Str)(apos:Pos)(e f:lx)(cpos:Pos):Prop where
 base:NT o m X.env (sL o X.env)=sL o X.env
 La:((v3 cpos (il [e,f] X.env)).all (λx=>!x.1)&&(Om cpos (Jf [] X.env)).all (λx=>x.1.isSome)
  && cb (([e,f]:List lx).length+([]:List Ni).length+(if ([]:List Ni).isEmpty then 0 else 1)<30))=a8
 line:(apos.endLine==cpos.line)=a8
 trees:v3 cpos (il [e,f] X.env)=[(b6,sL e X.env),(b6,sL f X.env)]
abbrev Vb(H:Hp)(a:dt):Prop:=(∃kvs,Rd H a (.dK kvs))\/∃kvs,Rd H a (.dT kvs)
def DG(I:Inv X i σ H s)(d:Vb H a):
  s.TypeIs (.ref a) "dict"/\(∀b,kl a=.ref b->∃c,s.heap.get? b=a5 c/\c.dict=bD)/\(a==Nh)=b6:=by
 rcases d with⟨kvs,e⟩|⟨kvs,e⟩
 .have(_,f,vs,_,dd):=kN I.IE e;show#[dd.typeIs,λb q=>?_,f];cases q;have(c,_,_,g,h,_):=dd;show#[c,g,h.2.1]
 .have(_,f,xs,_,dd):=kO I.IE e;show#[dd.typeIs,λb q=>?_,f];cases q;have(c,_,_,g,h,_):=dd;show#[c,g,h.2.1]
section
def DH(p:A.units+1<Kc)(I:Inv X f σ H s)(g:fb H a y o)(m:RelV y u)(n:RelV d r)(h:∀w' s',Inv X f σ H s'->RelV (o.getD d) w'->Q w' s'):
  gm (i4 X.prog X.w) A (MN (.builtin "dict.get") [.ref a,u,r]) Q E s:=by
 rcases g with⟨kvs,k,e,i,l⟩|⟨kvs,k,b,e,i,q,l⟩
 .subst i;have(z,j,vs,c,dd):=kN I.IE e;show Zp PySem.F.slot_dict_get dd.typeIs PySem.F.entry_dict_get (PySem.F.args_dict_get_3 _ _ _) (meets_dict_get_default (aW X.prog X.w) a (mV m) j r) #[_,dd.mapOf,h _ _ (I.tok _) ?_];rw[l];show(c.val k).getD n
 .subst i;cases(show u=kl b from m);have(z,j,xs,c,dd):=kO I.IE e;show Zp PySem.F.slot_dict_get dd.typeIs PySem.F.entry_dict_get (PySem.F.args_dict_get_3 _ _ _) (meetsH_dict_get_default (T7 (aW X.prog X.w)) a b j r) #[Pd p,k,xs,jh I.IE q,dd,h _ _ (I.tok _) ?_];rw[l];show(c.val k).getD n
end
abbrev DI(d e f:TE):TE:=λσ H Q=>d σ H λx b=>∃a,x=.ref a/\Vb b a/\e σ b λy g=>f σ g λz c=>∃o,fb c a y o/\Q (o.getD z) c
section
def xH(i:X.A.units+1<Kc)(ho:PE X o j)(k:PE X e l)(n:PE X f p)(m:M2 X o "get" apos e f cpos):PE X (.Call (.Attribute o "get" apos) [e,f] [] cpos) (DI j l p):=by
 intro b s σ H Q I h;show wpAny_Call_method m.base m.La m.line PySem.F.plainAttrs_dict PySem.F.slot_dict_get PySem.F.type_dict_get (ID (ho b s σ H _ I h) λu s1 q=>?_);have(x,r,c,t,a,ex,d,v):=q;subst ex;obtain rfl:u=kl a:=t;have(w,B,_):=DG c d;show#[w,B,?_];rw[m.trees];show JU rfl (Nn (OF (ID (k b s1 σ r _ c v) λiv s2 ⟨y,C,D,G,J⟩ =>
  OF (ID (n b s2 σ C _ D J) λfv s3 ⟨z,L,N,O,ov,g,T⟩=>Ry ?_))))
 show DH i N g G O λw' s4 Y K_=>#[_,L,Y,K_,T]
end
section
end
section
end
end L2
namespace Jc
open PySem PySem.Builtin.Str PySem.StrLaws
abbrev low(c:Nat):Bool:=cb (97<=c)&&cb (c<=122)
abbrev d5(l:List Nat):Bool:=cb (1<=l.length)&&cb (l.length<=8)&&l.all low
def cI(l:List Nat):d5 l=a8↔1<=l.length/\l.length<=8/\∀c∈l,97<=c/\c<=122:=by
 simp[d5,low,qa,and_assoc]
def ir(h:d5 l=a8):47∉l:=λm=>by
 have:=((cI l).mp h).2.2 47 m;lia
def iu{x y:Str}(h:x.cps.toList=y.cps.toList):x=y:=by
 cases x;cases y;congr
 show UQ.mp h
def rC(x:Str)(b:x.cps.toList=(hH 26).map (97+·))(c:Nat):(!(ti x #[#v[c]] 0 x.length 1).isEmpty)=low c:=by
 rw[found_one,b];simp only[low,kj,va];by_cases h:97<=c/\c<=122
 .have:∃a,a<26/\97+a=c:=#[c - 97,⋯,⋯]
  simp[this,h.1,h.2]
 .have:¬∃a,a<26/\97+a=c:=λ⟨a,d,e⟩=>h #[⋯,⋯];simp[this];lia
def om(x:Str)(c i:Nat):At x #[#v[c]] x.length i↔x.cps.toList[i]?=a5 c:=subAt_one x c i
def xI(h:x.cps.toList=a++c::b)(j:c∉a)(d:Nat)(hl:1<=d):∃r,ti x #[#v[c]] 0 x.length d=a.length::r:=by
 have f:x.cps.toList[a.length]?=a5 c:=by rw[h];simp
 rcases occ_head x ⟨#v[c]⟩ d hl with⟨_,k⟩|⟨i,r,e,hi,l⟩
 .show absurd ((om x c a.length).mpr f) (k _)
 .have g:=(om x c i).mp hi;have:i=a.length:=by
   rcases Nat.lt_trichotomy i a.length with z|z|z
   .exfalso
    rw[h,lg z]at g;show j (qs g)
   .show z
   .show absurd ((om x c a.length).mpr f) (l _ z)
  subst this;show#[r,e]
def AI(h:x.cps.toList=a++c::b)(d:c∉a):nH x #[#v[c]]=(⟨a.toArray⟩,⟨#v[c]⟩,⟨b.toArray⟩):=by
 have(r,e):=xI h d 1 (hY _);unfold nH;rw[e];have f:(⟨#v[c]⟩:Str).length=1:=rfl;have g:x.length=a.length+1+b.length:=by
  have:=ğ H8 h;simp[Sm]at this ⊢;lia
 show Wj ?_ (Wj rfl ?_)
 .apply iu;rw[YT,h];simp
 .apply iu;change(strSub x (a.length+(⟨#v[c]⟩:Str).length) x.length).cps.toList=_;rw[YT,h,f,g];simp
def rE(h:c∉x.cps.toList):OJ x #[#v[c]]=[x]:=by
 unfold OJ;split
 .rfl
 .rw[ę];rcases occ_head x ⟨#v[c]⟩ (x.length+1) ⋯ with⟨e,_⟩|⟨i,r,e,hi,_⟩
  .rw[e];rfl
  .show absurd (qs ((om x c i).mp hi)) h
def pS(c:Nat)(h:c<256)(x:Str):¬(PySem.Builtin.Str.strKind x<PySem.Builtin.Str.strKind #[#v[c]]):=by
 have e:PySem.Builtin.Str.strKind ⟨#v[c]⟩=1:=by simp[PySem.Builtin.Str.strKind,h]
 rw[e];unfold PySem.Builtin.Str.strKind;split
 .lia
 .split<;>lia
def xJ(h:x.cps.toList=a++c::b)(d:c∉a)(f:c<256):∃r,OJ x #[#v[c]]=⟨a.toArray⟩::r:=by
 have(r,e):=xI h d (x.length+1) ⋯;have g:(⟨#v[c]⟩:Str).length=1:=rfl;have k:x.length=a.length+1+b.length:=by
  have:=ğ H8 h;simp[Sm]at this ⊢;lia
 unfold OJ;rw[Ě (by
  have i:¬(x.length<(⟨#v[c]⟩:Str).length):=by rw[g];lia
  have j:=pS c f x;simp[i,j]),Ě (by rw[e];simp),partsBetween_eq,e]
 show#[_,ğ (·::_) ?_];apply iu;rw[YT,h];simp
abbrev fG(i:Int):Str:=Pk (ć i)
abbrev Cy:Str:=#[#v[47]]
end Jc
namespace L2
open PySem PySem.Spec PyProof.Rows
abbrev bw(env:Env):List (Str×KD)->List (Str×dt)->List (Str×dt)
 |[],b=>b
 |(n,k)::r,b=>bw env r (if k==.free then(match env.cells.lookup n with|some a=>(n,a)::b|none=>b) else b)
def eG(h:∀y∈scope.names,y.2=.free->∃a,env.cells.lookup y.1=a5 a):closureFor scope env=pure (bw env scope.names []):=by
 unfold closureFor;generalize scope.names=names at h
 suffices H:∀b,(forIn names b (λ(x:Str×KD) (r:List (Str×dt))=>if (x.2==Jj)=a8 then do let a <-cellOf env x.1;pure (N0 ((x.1,a)::r)) else pure (N0 r)):Sem (List (Str×dt)))=pure (bw env names b) by
  have:=H [];show ğ (λ(m:Sem (List (Str×dt)))=>m >>= pure) this
 induction names with
 |nil=>intro b;rfl
 |cons y r d =>
  intro b;have(n,k):=y;rw[List.forIn_cons];have c:=d λy e=>h y (ko _ e);by_cases hk:(k==Jj)=a8
  .have(a,f):=h (n,k) k9 (by simpa using hk);have g:env.cells.lookup n=a5 a:=f;simp only[hk,if_true,cellOf,g,bw];show c _
  .simp only[hk,if_false,bw];show c _
theorem fc:∀(names:List (Str×KD)) (b:List (Str×dt)),(∀n c,b.lookup n=a5 c->env.cells.lookup n=a5 c)->∀n c,(bw env names b).lookup n=a5 c->env.cells.lookup n=a5 c
 |[],_,h=>h
 |(m,k)::r,b,h=>by
  unfold bw;show fc r _ λn c e=>?_;by_cases hk:(k==Jj)=a8
  .rw[ę hk]at e;cases q:env.cells.lookup m with
   |none=>rw[q]at e;show h n c e
   |some a =>
    rw[q]at e;simp only[nC]at e;cases d:n==m with
    |true =>
     rw[d]at e;have f:n=m:=by simpa using d
     subst f;simp only at e;rw[q];show e
    |false=>rw[d]at e;show h n c e
  .rw[Ě hk]at e;show h n c e
theorem jE(d:env.cells.lookup n=a5 a):∀(names:List (Str×KD)) (c:List (Str×dt)),c.lookup n=a5 a->(bw env names c).lookup n=a5 a
 |[],_,h=>h
 |(m,k)::r,c,h=>by
  unfold bw;show jE d r _ ?_;by_cases hk:(k==Jj)=a8
  .rw[ę hk];cases q:env.cells.lookup m with
   |none=>show h
   |some b =>
    simp only[nC];cases e:n==m with
    |true =>
     have f:n=m:=by simpa using e
     subst f;rw[d]at q;cases q;rfl
    |false=>show h
  .rw[Ě hk];show h
theorem gO(b:env.cells.lookup n=a5 a):∀(names:List (Str×KD)) (c:List (Str×dt)),(n,Jj)∈names->(bw env names c).lookup n=a5 a
 |[],_,h=>by cases h
 |(m,k)::r,c,h=>by
  unfold bw;rcases gj.mp h with e|e
  .cases e;show jE b r _ ?_;rw[ę (by decide),b];simp[nC]
  .show gO b r _ e
theorem bP{env:Env}:∀{names:List (Str×KD)}{x:Str}{k:KD},
  (names.map λ(n,k)=>if (k==Jj&&env.scope.kind==.function&&env.kindOf n==a5 .cell) then(n,Jr) else(n,k)).lookup x=a5 k ->
  names.lookup x=a5 k\/(k=.cell/\names.lookup x=a5 .free)
 |[],_,_,h=>by simp at h
 |(n,k0)::r,x,k,h=>by
  have e:=@bP env r x k;rw[gi]at h;by_cases b:(k0==Jj&&env.scope.kind==.function&&env.kindOf n==a5 .cell)=a8
  .simp only[ę b,nC]at h;cases a:x==n with
   |true =>
    rw[a]at h;have f:k0=.free:=by
     have:=(qv.mp (qv.mp b).1).1;simpa using this
    show .inr #[by simpa using h.symm,by simp[nC,a,f]]
   |false =>
    rw[a]at h;rcases e h with z|⟨c,d⟩
    .show .inl (by simp[nC,a,z])
    .show .inr #[c,by simp[nC,a,d]]
  .simp only[Ě b,nC]at h;cases a:x==n with
   |true=>rw[a]at h;show .inl (by simpa[nC,a] using h)
   |false =>
    rw[a]at h;rcases e h with z|⟨c,d⟩
    .show .inl (by simp[nC,a,z])
    .show .inr #[c,by simp[nC,a,d]]
theorem jF:∀(names:List (Str×KD)) (b:List (Str×dt)),(bw env names b).lookup x=a5 c->(x,Jj)∈names\/b.lookup x=a5 c
 |[],_,h=>.inr h
 |(m,k)::r,b,h=>by
  unfold bw at h;rcases jF r _ h with z|z
  .show .inl (ko _ z)
  .by_cases hk:(k==Jj)=a8
   .rw[ę hk]at z;cases q:env.cells.lookup m with
    |none=>rw[q]at z;show .inr z
    |some a =>
     rw[q]at z;simp only[nC]at z;cases d:x==m with
     |true =>
      have e:x=m:=by simpa using d
      have f:k=.free:=by simpa using hk
      subst e f;show .inl k9
     |false=>rw[d]at z;show .inr z
   .rw[Ě hk]at z;show .inr z
theorem iw:∀(names:List (Str×KD)) (n:Nat) (a:List (Str×dt)),(Lr n names a).lookup x=a5 c->((x,Jr)∈names/\@Ê Nat _ n c)\/a.lookup x=a5 c
 |[],_,_,h=>.inr h
 |(y,k)::r,n,a,h=>by
  unfold Lr at h;by_cases hk:(k==Jr)=a8
  .rw[ę hk]at h;have f:k=.cell:=by simpa using hk
   subst f;rcases iw r (n+1) _ h with⟨b,d⟩|z
   .show .inl #[ko _ b,Nat.le_of_succ_le d]
   .simp only[nC]at z;cases e:x==y with
    |true =>
     rw[e]at z;have g:x=y:=by simpa using e
     subst g;cases z;show .inl #[k9,hY _]
    |false=>rw[e]at z;show .inr z
  .rw[Ě hk]at h;rcases iw r n a h with⟨b,d⟩|z
   .show .inl #[ko _ b,d]
   .show .inr z
theorem oo:∀(names:List (Str×KD)) (n:Nat) (a:List (Str×dt)),(x,Jr)∉names->(Lr n names a).lookup x=a.lookup x
 |[],_,_,_=>rfl
 |(y,k)::r,n,a,h=>by
  unfold Lr;have b:(x,Jr)∉r:=λz=>h (ko _ z);by_cases hk:(k==Jr)=a8
  .rw[ę hk,oo r _ _ b];have c:k=.cell:=by simpa using hk
   subst c;simp only[nC];cases d:x==y with
   |true =>
    have e:x=y:=by simpa using d
    subst e;show absurd k9 h
   |false=>rfl
  .rw[Ě hk,oo r _ _ b]
theorem rF:∀(names:List (Str×KD)) (n:Nat) (a:List (Str×dt)),(∀(z:Str) (d:dt),a.lookup z=a5 d->@PJ Nat _ d n)->(∀(u v:Str) (d:dt),a.lookup u=a5 d->a.lookup v=a5 d->u=v) ->
  (Lr n names a).lookup x=a5 c->(Lr n names a).lookup y=a5 c->x=y
 |[],_,_,_,hi,b,f=>hi x y c b f
 |(g,k)::r,n,a,hl,hi,b,f=>by
  unfold Lr at b f;by_cases hk:(k==Jr)=a8
  .rw[ę hk]at b f;have lk:∀(z:Str) (d:dt),L9 z ((g,(n:dt))::a)=a5 d->(z=g/\d=n)\/a.lookup z=a5 d:=λz d e=>by
    simp only[nC]at e;cases h:z==g with
    |true=>rw[h]at e;cases e;show .inl #[by simpa using h,rfl]
    |false=>rw[h]at e;show .inr e
   show rF r (n+1) _ (λz d e=>?_) (λu v d i j=>?_) b f
   .rcases lk z d e with⟨_,q⟩|q
    .rw[q];show L6 _
    .show Pp (hl z d q)
   .rcases lk u d i with⟨l,m⟩|q<;>rcases lk v d j with⟨o,p2⟩|p
    .rw[l,o]
    .rw[m]at p;show absurd (hl v n p) (vl _)
    .rw[p2]at q;show absurd (hl u n q) (vl _)
    .show hi u v d q p
  .rw[Ě hk]at b f;show rF r n a hl hi b f
theorem oq:∀(names:List (Str×KD)) (h:Km) (a:List (Str×dt)),(Lr h.objs.size names a).lookup x=a5 c->(RS h names).IsCell c bD\/a.lookup x=a5 c
 |[],_,_,e=>.inr e
 |(y,k)::r,h,a,e=>by
  unfold Lr at e;unfold RS;by_cases hk:(k==Jr)=a8
  .rw[ę hk]at e ⊢;have hs:h.objs.size+1=(h.push {cls:=.type "cell",data:=.cell bD}).objs.size:=by rw[L5]
   rw[hs]at e;rcases oq r _ _ e with z|z
   .show .inl z
   .simp only[nC]at z;cases b:x==y with
    |true =>
     rw[b]at z;cases z;show .inl #[_,WS r _ _ _ (hW _ rfl),rfl]
    |false=>rw[b]at z;show .inr z
  .rw[Ě hk]at e ⊢;show oq r h a e
abbrev Lo(X:Cx)(scope:z8)(C:dt):List (Str×dt):=Lr (C+1) scope.names (bw X.env scope.names [])
abbrev JQ(X:Cx)(N:List Str)(scope:z8)(C:dt)(s:hQ)(H:Hp)(ex:List dt):Cx where
 prog:=X.prog
 w:=X.w
 K:=X.K
 mg:=X.mg
 base:=X.base
 A:=X.A
 N:=N
 s₀:=s
 H₀:=H
 env:=Sx scope (Lo X scope C) C X.env
 outer:=X.stack
 stack:=X.stack
 ex:=ex
 fn:=λx=>cb (scope.names.lookup x=a5 .cell)
 calm:=X.calm
 pn:=[]
 xe:=λ_ _=>False
abbrev d_(D N:List Str):Prop:=D.length=N.length/\∀(i:Nat) (y:Str),D[i]?=a5 y->N[i]?=a5 y\/y="."\/y=".."
def d_.refl(N:List Str):d_ N N:=#[rfl,λ_ _ h=>.inl h]
def d_.set{D N:List Str}(h:d_ D N)(j:Nat){m:Str}(b:m="."\/m=".."):d_ (D.set j m) N:=by
 show#[by rw[So];show h.1,λi y e=>?_];by_cases a:j=i
 .subst a;rw[List.getElem?_set,ę rfl]at e;split at e
  .cases e;show .inr b
  .cases e
 .rw[ez a]at e;show h.2 i y e
structure cR(X:Cx)(N own:List Str)(scope:z8):Prop where
 kind:scope.kind=.function
 uq:∀y∈scope.names,scope.names.lookup y.1=a5 y.2
 cl:∀y∈scope.names,y.2=.cell->y.1∈own
 nd:N.Nodup
 pre:N.take own.length=own
 loc:∀y∈scope.names,y.2=.local->y.1∈own\/y.1=".0"
 WU:(".0":Str)∉N
 tail:d_ (N.drop own.length) X.N
 free:∀y∈scope.names,y.2=.free->X.env.scope.names.lookup y.1=a5 .cell\/X.env.scope.names.lookup y.1=a5 .free
 dot:∀y∈scope.names,y.1≠"."/\y.1≠".."
def mem_lookup{names:List (Str×KD)}(h:names.lookup x=a5 k):(x,k)∈names:=PySem.mem_of_lookup h
def cR.names(S:cR X N a scope):∀y∈scope.names,y.2=.local->scope.names.lookup y.1=a5 .local:=λy b e=>e▸S.uq y b
def cR.no(S:cR X N a scope)(h:scope.names.lookup x=a5 .free):(x,Jr)∉scope.names:=λz=>by
 have:=S.uq _ z;rw[h]at this;cases this
def cR.cells(S:cR X N c scope)(b:X.Ok):∀y∈scope.names,y.2=.free->∃a,X.env.cells.lookup y.1=a5 a:=λy d e=>by
 rcases S.free y d e with z|z
 .show b.has y.1 (.inl z)
 .show b.has y.1 (.inr z)
def xK(S:cR X N f scope)(I:Inv X D σ H s)
  (B:s.heap.objs.size<=C) (MB:∀x c,(Lo X scope C).lookup x=a5 c->s4.heap.IsCell c bD\/(bw X.env scope.names []).lookup x=a5 c) (L_:s4.os=s.os) (hg:s4.gens=s.gens) (keep:∀b o,s.heap.get? b=a5 o->s4.heap.get? b=a5 o) (ns:∃m,s4.heap.Ns C m)
  (g:∀b∈ex,gN X D H b/\b<s.heap.objs.size):Inv (JQ X N scope C s H ex) [] (js f.length bD++σ) H s4:=by
 have(m0,Pu):=ns;have sub:=fc (env:=X.env) scope.names [] (λn c e=>by simp at e);have WV:∀(x:Str) (c:dt),(bw X.env scope.names []).lookup x=a5 c->c<s.heap.objs.size:=λx c e=>by
  have(v,o,ho,_):=I.cell x c (sub x c e);show i5 ho
 have L:∀(x:Str) (c:dt),(Lo X scope C).lookup x=a5 c->C<c\/(bw X.env scope.names []).lookup x=a5 c:=λx c e=>(iw _ _ _ e).imp (λz=>z.2) id;have T:∀b∈ex,b<C:=λb t=>ku (g b t).2 B;have tl:f.length<=N.length:=by have:=ğ H8 S.pre;rw[oD]at this;lia
 show#[#[I.ok.mod,?_,I.ok.glob,I.ok.blt,B,λx y c w A=>rF _ _ _ (λz d e=>Pp (ku (WV z d e) B)) (λu v d G e2=>I.ok.inj u v d (sub u d G) (sub v d e2)) w A,λx hx=>?_,λx c h e=>?_,I.ok.hd,I.ok.frames,.inl rfl,λb t=>#[i9 (T b t),λx c e=>?_],λb o e=>I.bs b o e,?_,λb o e t=>?_,λb t=>?_,I.stack,I.s9],
  L_,(by rw[hg];show I.bare),Un.kept keep,#[m0,Pu,λi y v w A h3=>?_],λx c e=>?_,I.IE.fresh B,λx c e=>?_,λp hp=>absurd (show p∈([]:List (dt×Obj)) from hp) (by simp),I.IE.kept keep,?_]
 .change(SI scope X.env).kind=.function;show S.kind
 .
  have SW:(SI scope X.env).names.lookup x=a5 .cell\/(SI scope X.env).names.lookup x=a5 .free:=hx;have Ja:scope.names.lookup x=a5 .cell\/scope.names.lookup x=a5 .free:=by
   rcases SW with z|z
   .rcases bP z with q|⟨_,q⟩
    .show .inl q
    .show .inr q
   .rcases bP z with q|⟨q,_⟩
    .show .inr q
    .cases q
  rcases Ja with Ja|Ja
  .show N8.mp (PySem.W.cellsFrom_some scope.names (C+1) _ (.inl Ja))
  .have(a,ha):=S.cells I.ok (x,.free) (mem_lookup Ja) rfl;show#[a,(oo _ _ _ (S.no Ja)).trans (gO ha scope.names [] (mem_lookup Ja))]
 .have h':scope.names.lookup x=a5 .cell:=ĝ h;rcases L x c e with z|z
  .show vr B (Pw z)
  .rcases jF _ _ z with z|z
   .have:=S.uq _ z;rw[h']at this;cases this
   .simp at z
 .rcases L x c e with z|z
  .show λq=>absurd (UE (T b t) z) (by rw[q];show vl _)
  .show(g b t).1.2.2.2.2.1 x c (sub x c z)
 .show vr I.ok.MQ I.sz
 .have(f0,Y,f2,f3,f4,f5):=(g b t).1;rcases f3 with z|z
  .show I.ok.L7 b o e z
  .show absurd (ku (i5 e) (vr I.ok.MQ z)) (vl _)
 .intro Lp;have(f0,Y,f2,f3,f4,f5):=(g b t).1;rcases gj.mp (I.kC b Lp) with z|z
  .show Y z
  .show f2 z
 .
  have hi:f.length<=i:=by
   by_cases hi:i<f.length
   .rw[lg (by simpa using hi),vu]at A;split at A<;>cases A
   .lia
  rw[kr (by simpa using hi),PX]at A;have WW:(N.drop f.length)[i - f.length]?=a5 y:=by
   rw[zb];have e:f.length+(i - f.length)=i:=by lia
   rw[e];show w
  have OP:(SI scope X.env).names.lookup y=a5 .local\/(SI scope X.env).names.lookup y=a5 .cell\/(SI scope X.env).names.lookup y=a5 .free:=h3;have Np:∀y:Str,y∈f->N[i]?=a5 y->False:=λy O w=>by
   have(j,hj,ej):=Qy O;have LD:N[j]?=a5 y:=by
    have G:(N.take f.length)[j]?=a5 y:=by rw[S.pre,ve hj,ej]
    rw[OC hj]at G;show G
   have:=kD S.nd LD w;lia
  have Ja:scope.names.lookup y=a5 .free:=by
   rcases OP with z|z|z
   .rcases bP z with q|⟨q,_⟩
    .exfalso
     have O:y∈f:=by
      rcases S.loc (y,.local) (mem_lookup q) rfl with z|z
      .show z
      .have z':y=".0":=z;show absurd (qs w) (by rw[z'];show S.WU)
     show Np y O w
    .cases q
   .rcases bP z with q|⟨_,q⟩
    .show(Np y (S.cl _ (mem_lookup q) rfl) w).elim
    .show q
   .rcases bP z with q|⟨q,_⟩
    .show q
    .cases q
  have hX:X.N[i - f.length]?=a5 y:=by
   rcases S.tail.2 _ _ WW with e|e|e
   .show e
   .show absurd e (S.dot _ (mem_lookup Ja)).1
   .show absurd e (S.dot _ (mem_lookup Ja)).2
  have(m,hn,hl):=I.loc;have hv:X.env.scope.names.lookup y=a5 .cell\/X.env.scope.names.lookup y=a5 .free:=S.free (y,.free) (mem_lookup Ja) rfl;have(u,r,l):=hl _ y v hX A (.inr hv);show#[u,r,?_];rcases l with⟨k,_⟩|⟨k,c,e,z⟩
  .have k':X.env.scope.names.lookup y=a5 .local:=k;rcases hv with q|q<;>(rw[k']at q;cases q)
  .have hk:(SI scope X.env).names.lookup y=a5 .cell\/(SI scope X.env).names.lookup y=a5 .free:=by
    rcases OP with q|q|q
    .rcases bP q with J|⟨J,_⟩
     .rw[Ja]at J;cases J
     .cases J
    .show .inl q
    .show .inr q
   have(o,ho,Q):=z;show .inr #[hk,c,(oo _ _ _ (S.no Ja)).trans (gO e scope.names [] (mem_lookup Ja)),o,keep c o ho,Q]
 .rcases MB x c e with z|z
  .show#[_,z]
  .have(v,o,ho,Q):=I.cell x c (sub x c z);show#[v,o,keep c o ho,Q]
 .rcases L x c e with z|z
  .show I.IE.fresh (vr B (Pw z))
  .show I.JA x c (sub x c z)
 .rw[j0,PX,I.len];have e:N.length=f.length+(N.drop f.length).length:=by rw[R3];lia
  change _=N.length;rw[e,S.tail.1]
def pT(I:Inv X f σ H s)
  (d:Inv (JQ X N scope C s H ex) Q T l s4) (w:s.heap.objs.size<=D) (x:s.heap.objs.size<=C) (y:D≠C) (h:l D=bD) (rv:Vals ys p) (pl:s4.heap.PlainList D p.toArray) (hl:ys.length<=cK)
  (i:K2 C s4.heap h') (m:∀b∈ex,gN X f H b):Inv X f σ (upd l D (.lst ys)) {s4 with heap:=h' }:=by
 have r:l C=bD:=d.free;have lt:∀{b:dt} {o:Obj},s.heap.get? b=a5 o->b≠C/\b≠D:=λe=>#[i9 (ku (i5 e) x),i9 (ku (i5 e) w)]
 show I.Fj (s':={s4 with heap:=h' }) (ch:=ex) d.os ⟨λb o e n j g=>?_,λb o e n j g=>?_,λb o e n g=>?_,λb o e g=>?_,λb xs e=>?_,λb o u e=>?_,λb ps e=>?_⟩ (λa o e=>?_) d.bare λb j=>?_
 .show(i.2 b (lt e).1).trans (d.base.keep b o e n j g)
 .have(A,q):=d.base.slot b o e n j g;show#[A,(i.2 b (lt e).1).trans q]
 .rw[ai (lt e).2];show d.base.free b o e n g
 .have(o',q):=d.base.there b o e g;show#[o',(i.2 b (lt e).1).trans q]
 .have q:=d.base.jY b xs e;rw[ai (bB q h)];show q
 .have q:=d.base.Kk b o u e;rw[ai (bB q h)];show q
 .have(k,q):=d.base.Ks b ps e;show#[k,by rw[ai (bB q h)];show q]
 .by_cases t:a=D
  .subst t;rw[aj]at e;cases e;have(n,q):=pl;show#[hl,p,n,rv,(i.2 _ y).trans q]
  .rw[ai t]at e;show(d.IE a o e).nS (λc v B q=>(i.2 c ?_).trans q) (λc q=>?_) λc xs q=>?_
   .rintro rfl;rcases B with z|z
    .rw[<-z,r]at e;cases e
    .rw[r]at z;cases z
   .rw[ai (bB q h)];show q
   .rw[ai (bB q h)];show q
 .have(Y,G,f2,J,L,O):=m b j;show#[J,G,L,O]
section
def ot(I:Nat->hQ->Prop)
  (b:∀n s,I n s->gm (i4 prog w) A (Ww it) (λr d=>match r with
   |none=>R (.ok .next) d
   |some v=>gm (i4 prog w) A (S_ a it v) (λ_ d=>gm (i4 prog w) A (RZ a env v) (λ_ k =>
     gm (i4 prog w) A (forIn f a8 λc r=>if r=a8 then do let ok <-isTrue c env (sL c env);pure (N0 ok) else pure (N0 r)) (λok j =>
      if ok=a8 then gm (i4 prog w) A (sL elt env) (λx l =>
       gm (i4 prog w) A (MN (.builtin "list.append") [g,x]) (λ_ o=>∃m,m<n/\I m o) (SN (i4 prog w) A env λe s'=>R (.error e) s') l) (SN (i4 prog w) A env λe s'=>R (.error e) s') j
      else ∃m,m<n/\I m j) (SN (i4 prog w) A env λe s'=>R (.error e) s') k) (SN (i4 prog w) A env λe s'=>R (.error e) s') d) (SN (i4 prog w) A env λe s'=>R (.error e) s') d) (SN (i4 prog w) A env λe s'=>R (.error e) s') s)
  (n:Nat) (h:I n s) :
  O' (i4 prog w) A (.compLoop (.ListComp elt [⟨a,i,f,0⟩] scope pos) 0 it g env) R s:=by
 show codeAny_loop rfl I (λn s t=>?_) n h;change gm _ A ((compTurn (.ListComp elt [⟨a,i,f,0⟩] scope pos) 0 it g env).onRaise (λx=>do noteFrame x env;theTreesLotGoes x)) _ _ s;show wpAny_noted ?_;rw[compTurn_list];show cL (Yo (cL (u5 (b n s t) (λr d p=>?_) λ_ _ h'=>h')));cases r with
 |none=>show fx p
 |some v =>
  show cL (u5 p (λ_ C u=>?_) λ_ _ h'=>h');show cL (u5 u (λ_ k y=>cL (u5 y (λok j q=>?_) λ_ _ h'=>h')) λ_ _ h'=>h');cases ok with
  |false=>show fx #[rfl,q]
  |true =>
   show cL (cL (u5 q (λx l z=>cL (u5 z (λ_ o B=>fx (fx #[rfl,B])) λ_ _ h'=>h')) λ_ _ h'=>h'))
end
abbrev MW(X:Cx)(b:List lx)(t:TT):Prop :=
 ∀(a:List (dt×Obj)) (s:hQ) (σ:St) (H:Hp) (Q:Bool->Hp->Prop),Inv X a σ H s->t σ H Q ->
  gm (i4 X.prog X.w) X.A (forIn b a8 λc r=>if r=a8 then do let d <-isTrue c X.env (sL c X.env);pure (N0 d) else pure (N0 r)) (TP X a σ Q) X.xe s
abbrev HQ:TT:=λ_ H Q=>Q a8 H
def tJ:MW X [] HQ:=λ_ _ _ H _ I h=>wpAny_tests_nil #[H,I,h]
def tK(h:PT X c t):MW X [c] t:=λa s σ H Q I q=>wpAny_tests_one (h a s σ H Q I q)
abbrev tL(k:Nat)(J:It)(g:TG)(j:TT)(l:TE)(Q:VK)(σ:St)(n:Hp):Prop :=
  ∃W:Nat->Nat->List V->Hp->Prop,(∃m,W 0 m [] n)/\∀i m ys H,W i m ys H->ys.length<=cK /\
    ((J.stop i H/\∀p,H p=bD->Q (.ref p) (upd H p (.lst ys))) \/
     (J.go i H/\∃c:List V->Hp->Prop,(∀e H',c e H'->∃f,f<m/\W (i+1) f e H')/\∀x H',J.QQ i H x H'->g x (js k bD++σ) H' λd o=>∃a:St,a.length=k/\d=a++σ /\
        j d o λb h=>if b=a8 then l d h λy q=>c (ys++[y]) q else c ys h))
abbrev xM(k:Nat)(a:TI)(g:TG)(b:TT)(c:TE):TE:=λσ H Q=>a σ H λJ d=>tL k J g b c Q σ d
section
def xN
  (S:cR X N L scope) (hc:X.calm=a8) (hg:∀C s H ex,PG (JQ X N scope C s H ex) tg g) (hf:∀C s H ex,MW (JQ X N scope C s H ex) am tt)
  (he:∀t s7 σ7 H7 Q7,Inv (JQ X N scope C s H l) t σ7 H7 s7->te σ7 H7 Q7->gm (i4 X.prog X.w) X.A (sL elt (Sx scope (Lo X scope C) C X.env)) (EP (JQ X N scope C s H l) t σ7 Q7) (SN (i4 X.prog X.w) X.A (Sx scope (Lo X scope C) C X.env) λe s'=>R (.error e) s') s7)
  (I:Inv X t σ H s) (T:Turn X.prog X.w X.K tg J l it tn) (st:tn 0 s.heap) (f2:∀b∈l,gN X t H b) (W:tL L.length J g tt te Q σ H)
  (hD:@Eq Nat D s.heap.objs.size) (hC:@Eq Nat C (s.heap.objs.size+1)) (MB:∀x c,(Lo X scope C).lookup x=a5 c->s4.heap.IsCell c bD\/(bw X.env scope.names []).lookup x=a5 c) (L_:s4.os=s.os) (WZ:s4.gens=s.gens) (keep:∀b o,s.heap.get? b=a5 o->s4.heap.get? b=a5 o) (ns:∃m,s4.heap.Ns C m) (pl:s4.heap.PlainList D #v[])
  (an:∀s5 Y ys k,Inv (JQ X N scope C s H l) [] (js L.length bD++σ) Y s5->Y D=bD->Vals ys k->s5.heap.PlainList D k.toArray->ys.length<=cK->(∀p,Y p=bD->Q (.ref p) (upd Y p (.lst ys)))->R (.ok .next) s5) :
  O' (i4 X.prog X.w) X.A (.compStart (.ListComp elt [⟨tg,ap,am,0⟩] scope pos) 0 (.ref it) (.ref D) (Sx scope (Lo X scope C) C X.env)) R s4:=by
 have Mc:∀b∈l,@PJ Nat _ b s.heap.objs.size:=λb h=>by
  have(o,e,_):=T.obj 0 s.heap st b h;show i5 e
 have I4:Inv (JQ X N scope C s H l) [] (js L.length bD++σ) H s4:=xK S I ⋯ MB L_ WZ keep ns λb h=>#[f2 b h,Mc b h]
 have LF:tn 0 s4.heap:=T.keep 0 s.heap s4.heap st λb _ o e=>keep b o e;have nD:H D=bD:=I.IE.fresh ⋯;have(W,(m0,w0),Z9):=W;generalize B:JQ X N scope C s H l=f at I4 an he;have eP:f.prog=X.prog:=by rw[<-B];rfl
 have ew:f.w=X.w:=by rw[<-B];rfl
 have eK:f.K=X.K:=by rw[<-B];rfl
 have ec:f.calm=a8:=by rw[<-B];show hc
 have eA:f.A=X.A:=by rw[<-B];rfl
 have ee:f.env=Sx scope (Lo X scope C) C X.env:=by rw[<-B];rfl
 have Vd:f.xe=λ_ _=>False:=by rw[<-B];rfl
 have el:f.env.locals=C:=by rw[ee];rfl
 have Q1:PG f tg g:=by rw[<-B];show hg _ _ _ _
 have W0:MW f am tt:=by rw[<-B];show hf _ _ _ _
 have s0:f.s₀=s:=by rw[<-B];rfl
 have Px:f.pn=[]:=by rw[<-B];rfl
 have SX:∀{H':Hp} {o:Obj},(∀b∈l,H' b=bD)->∀b∈l,gN f [(D,o)] H' b:=λ{H' o} hn b h=>by
  have ex:f.ex=l:=by rw[<-B];rfl
  show#[hn b h,?_,?_,.inl (by rw[ex];show h),λx c e=>?_,λp O=>?_]
  .rw[el];have:=Mc b h;show i9 (by change @PJ Nat _ b C;lia)
  .have e1:f.fs=Kt X.stack:=by rw[<-B];rfl
   rw[e1];intro z;have(f0,f1,W2,f3,f4,f5):=f2 b h;rcases gj.mp (I.kC b z) with q|q
   .show f1 q
   .show W2 q
  .have e1:f.env.cells=Lo X scope C:=by rw[ee];rfl
   rw[e1]at e;rcases iw _ _ _ e with z|z
   .have:=Mc b h;have:=z.2;show Ll (by change @PJ Nat _ b c;lia)
   .show(f2 b h).2.2.2.2.1 x c (fc scope.names [] (λn c e=>by simp at e) x c z)
  .rw[Px,my]at O;have:p=(D,o):=by simpa using O
   subst this;have:=Mc b h;show Ll (by change @PJ Nat _ b D;lia)
 have SY:∀{σ':St} {H':Hp} {s':hQ} {o:Obj},Inv f [] σ' H' s'->H' D=bD->s'.heap.get? D=a5 o->(∀v,o.data≠.cell v)->Inv f [(D,o)] σ' H' s':=λ{σ' H' s' o} I' n e d =>
  I'.gb λp O=>by
   have:p=(D,o):=by simpa using O
   subst this;show#[e,n,?_,?_,d]
   .rw[el];show i9 (by change @PJ Nat _ D C;lia)
   .have e1:f.fs=Kt X.stack:=by rw[<-B];rfl
    rw[e1];intro z;have zz:(D:dt)∈Kt X.stack:=z;rcases gj.mp (I.kC D zz) with q|q
    .have:=I.lt;rw[<-q]at this;show absurd this (by change ¬@PJ Nat _ D s.heap.objs.size;lia)
    .show I.Fi (a:=D) ⋯ q
 have start:∀s':hQ,s'=s4->O' (i4 X.prog X.w) X.A (.compLoop (.ListComp elt [⟨tg,ap,am,0⟩] scope pos) 0 (.ref it) (.ref D) (Sx scope (Lo X scope C) C X.env)) R s':=by
  rintro s' rfl;show ot (λn s'=>∃i ys k H',Inv f [] (js L.length bD++σ) H' s'/\tn i s'.heap/\(∀b∈l,H' b=bD)/\H' D=bD/\Vals ys k/\s'.heap.PlainList D k.toArray/\W i n ys H') ?_ m0
   ⟨0,[],[],H,I4,LF,λb h=>(f2 b h).1,nD,.nil,pl,w0⟩
  rintro n s3 ⟨i,ys,k,H3,I3,st3,Pj,Ve,Q2,⟨nn,W3⟩,w3⟩;have(ac,Py):=Z9 i n ys H3 w3;have IP:=SY I3 Ve W3 (λv z=>by have z':Data.seq _ _=Z3 v:=z;cases z');rcases Py with⟨as,qn⟩|⟨go,NN,Vf,a0⟩
  .have d:=T.done f eP ew eK ec i _ s3 _ H3 (SN (i4 X.prog X.w) X.A (Sx scope (Lo X scope C) C X.env) λe s'=>R (.error e) s') IP (SX Pj) st3 as;rw[eA]at d;show ID d λr s4 S3=>?_;have(hr,I5):=S3;subst hr;have e5:=(I5.pin (D,({cls:=.type "list",data:=.seq k.toArray nn}:Obj)) (by rw[Px];simp)).1;show an s4 H3 ys k (I5.gb λp O=>by cases O) Ve Q2 ⟨nn,e5⟩ ac qn
  .have d:=T.item f eP ew eK ec i _ s3 _ H3 (SN (i4 X.prog X.w) X.A (Sx scope (Lo X scope C) C X.env) λe s'=>R (.error e) s') IP (SX Pj) st3 go;rw[eA]at d;show ID d λr s4 S4=>?_;have(u,hr,h4):=S4;subst hr;show ID h4 λ_ s5 S6=>?_;have(x,Y,I5,r5,y5,st5,Sj):=S6;have ZG:Y D=bD:=(I5.pin (D,({cls:=.type "list",data:=.seq k.toArray nn}:Obj)) (by rw[Px];simp)).2.1;have Sk:=I5.pinned (SX Sj) (T.obj _ _ st5);have a6:=Q1 _ s5 _ Y x u _ Sk r5 (a0 x Y y5);rw[eP,ew,eA,ee,Vd]at a6;show u5 a6 (λ_ s6 ⟨σ6,H6,I6,q6⟩=>?_) λ_ _ z=>KG z;have(ow,a1,rfl,q6):=q6;have a7:=W0 _ s6 _ H6 _ I6 q6;rw[eP,ew,eA,ee,Vd]at a7;show u5 a7 (λb s7 ⟨H7,I7,q7⟩=>?_) λ_ _ z=>KG z;have ag:∀{s8:hQ} {G:Hp} {Kw:List V} {its':List dr} {nn':Nat},Inv f [] (ow++σ) G s8->tn (i+1) s8.heap->(∀b∈l,G b=bD)->G D=bD->Vals Kw its'->s8.heap.PlainList D its'.toArray->(∃m',m'<n/\W (i+1) m' Kw G) ->
     ∃m,m<n/\∃i ys k H',Inv f [] (js L.length bD++σ) H' s8/\tn i s8.heap/\(∀b∈l,H' b=bD)/\H' D=bD/\Vals ys k/\s8.heap.PlainList D k.toArray/\W i m ys H':=λ{s8 G Kw its' nn'} I8 W4 W5 n8 W6 W7 w8=>by
    have(m',hm,w8):=w8;show#[m',hm,i+1,Kw,its',G,I8.weak (by simp[a1]) (λj v e=>?_),W4,W5,n8,W6,W7,w8];by_cases hj:j<L.length
    .rw[lg (by simpa using hj),vu]at e;split at e<;>cases e
    .rw[kr (by simpa using(Nat.not_lt.mp hj)),PX]at e;rw[kr ⋯,a1];show e
   have al:∀{σ':St} {G:Hp} {s8:hQ},Inv f ([(D,({cls:=.type "list",data:=.seq k.toArray nn}:Obj))]++kG l s5.heap) σ' G s8->s8.heap.get? D=a5 {cls:=.type "list",data:=.seq k.toArray nn}/\G D=bD/\tn (i+1) s8.heap/\∀b∈l,G b=bD:=λ{σ' G s8} I8=>by
    have p1:=I8.pin (D,({cls:=.type "list",data:=.seq k.toArray nn}:Obj)) (by rw[Px];simp);show#[p1.1,p1.2.1,T.keep _ _ _ st5 λb h o e=>(I8.pin (b,o) (tA _ (tA _ (e_ h e)))).1,λb h=>?_];have(o,e,d):=T.obj _ _ st5 b h;show(I8.pin (b,o) (tA _ (tA _ (e_ h e)))).2.1
   cases b with
   |false =>
    rw[Ě i6]at q7 ⊢;have(p1,p2,p3,p4):=al I7;show ag (nn':=0) (I7.gb λp O=>by cases O) p3 p4 p2 Q2 ⟨nn,p1⟩ (Vf _ _ q7)
   |true =>
    rw[ę rfl]at q7 ⊢;show u5 (he _ s7 _ H7 _ I7 q7) (λy s8 ⟨yv,G,I8,r8,q8⟩=>?_) λ_ _ z=>z;have(p1,p2,p3,p4):=al I8;have hsz:k.toArray.size<=cK:=by rw[hE,<-Q2.length];show ac
    show wpAny_list_append_plain (hsz:=hsz) #[nn,p1] λh9 W8 Vg=>?_;have W9:Inv f [] (ow++σ) G s8:=I8.gb λp O=>by cases O
    have Q3:∀x c,f.env.cells.lookup x=a5 c->c≠D:=λx c e=>by
     have e1:f.env.cells=Lo X scope C:=by rw[ee];rfl
     rw[e1]at e;rcases iw _ _ _ e with z|z
     .have:=z.2;show Ll (by change @PJ Nat _ D c;lia)
     .have(v,z):=I.cell x c (fc scope.names [] (λn c e=>by simp at e) x c z);have:@PJ Nat _ c s.heap.objs.size:=z.lt;show i9 (by change @PJ Nat _ c D;lia)
    have I9:Inv f [] (ow++σ) G {s8 with heap:=h9,toks:=s8.toks}:=W9.turned (it:=D) (λb o h e=>(Vg.2 b h).trans e) p2 (by rw[el];show i9 (by change @PJ Nat _ D C;lia)) (.inr (by rw[s0];change @Ê Nat _ s.heap.objs.size D;lia)) Q3 (λp O=>by rw[Px]at O;cases O);have W_:(k++[y]).toArray=k.toArray.push y:=by simp
    show ag (nn':=0) (s8:={s8 with heap:=h9,toks:=s8.toks}) I9 (T.keep _ _ _ p3 λb h o e=>(Vg.2 b ?_).trans e) p4 p2 (Q2.append (.cons r8 .nil)) (by rw[W_];show W8) (Vf _ _ q8);have:=Mc b h;show i9 (by change @PJ Nat _ b D;lia)
 show codeAny_compStart_list (start _ rfl) (T.self _ _ _ _ _ LF (start _ rfl))
def rG
  (f:Q (newEnv scope s.heap.objs.size b (Lr (s.heap.objs.size+1) scope.names cl) d bD .none (a5 c) a) {s with heap:=RS (s.heap.push {cls:=.type "dict",data:=.dict #v[]}) scope.names}) :
  gm M A (Xw scope b cl [] d bD .none (a5 c) a) Q E s:=by
 simp only[Xw,X',if_true];show cL (wpAny_alloc ?_);show cL (wpAny_layCells _ (λname kind e=>by cases g:kind==Jr<;>simp[g]) _ _ _ _ ?_);rw[show({s with heap:=s.heap.push {cls:=.type "dict",data:=.dict #v[]}}:hQ).heap.objs.size=s.heap.objs.size+1 from L5 ..];show cL ?_;rw[List.forIn_nil];show fx (fx f)
def kP{RR:dr->dt->Result->hQ->Prop}
    (S:cR X N h scope) (L:X.calm=a8) (O:∀C s H ex,PG (JQ X N scope C s H ex) t g) (Y:∀C s H ex,MW (JQ X N scope C s H ex) l tt) (he:∀C s H ex,PE (JQ X N scope C s H ex) elt te)
 (I:Inv X a σ H s) (T:Turn X.prog X.w X.K t J u it tn) (st:tn 0 s.heap) (f2:∀b∈u,gN X a H b) (W:tL h.length J g tt te Q σ H)
    (m:∀D C i f ys k,@Eq Nat D s.heap.objs.size->@Eq Nat C (s.heap.objs.size+1)->Inv (JQ X N scope C s H u) [] (js h.length bD++σ) f i->f D=bD->Vals ys k->i.heap.PlainList D k.toArray->ys.length<=cK->(∀p,f p=bD->Q (.ref p) (upd f p (.lst ys)))->RR (.ref D) C (.ok .next) i) :
    gm (i4 X.prog X.w) X.A (newList []) (λj s₃=>gm (i4 X.prog X.w) X.A (Xw scope X.env.globals (bw X.env scope.names []) [] X.env.qual bD .none (a5 X.env)) (λv s₄ =>
      O' (i4 X.prog X.w) X.A (.compStart (.ListComp elt [⟨t,y,l,0⟩] scope pos) 0 (.ref it) j {v with scope:=SI scope X.env}) (RR j v.locals) s₄) E s₃) E s:=by
  show LZ (rG ?_)
  dsimp only
  generalize n:s.heap.push {cls:=.type "list",dict:=bD,data:=.seq ([]:List dr).toArray}=d;have B:d.objs.size=s.heap.objs.size+1:=by rw[<-n,L5]
  have G:∀b o,d.get? b=a5 o->(RS (d.push {cls:=.type "dict",data:=.dict #v[]}) scope.names).get? b=a5 o:=λb o e=>WS _ _ b o (c4 _ e);have r:∀b o,s.heap.get? b=a5 o->(RS (d.push {cls:=.type "dict",data:=.dict #v[]}) scope.names).get? b=a5 o:=λb o e=>G b o (n▸c4 _ e);have JW:(RS (d.push {cls:=.type "dict",data:=.dict #v[]}) scope.names).PlainList s.heap.objs.size #v[]:=#[_,G _ _ (n▸hW _ rfl)]
  have MB:∀x c,(Lo X scope d.objs.size).lookup x=a5 c->(RS (d.push {cls:=.type "dict",data:=.dict #v[]}) scope.names).IsCell c bD\/(bw X.env scope.names []).lookup x=a5 c:=λx c e=>by
    show oq scope.names (d.push {cls:=.type "dict",data:=.dict #v[]}) _ ?_;rw[L5];show e
  show xN (s:=s) (s4:={s with heap:=RS (d.push {cls:=.type "dict",data:=.dict #v[]}) scope.names}) (C:=d.objs.size) (D:=s.heap.objs.size) S L O Y (λa s7 σ7 H7 Q7 I7 q=>u5 (he _ _ _ _ a s7 σ7 H7 Q7 I7 q) (λ_ _ z=>z) λ_ _ z=>z.elim) I T st f2 W rfl B MB rfl rfl r ⟨_,(Heap.Ns.new d (.type "dict")).keeps (WS _ _)⟩ JW
    λi f ys k I5 n5 PB PD PF q5=>m _ _ i f ys k rfl B I5 n5 PB PD PF q5
def AJ(S:cR X N c scope)(n:X.calm=a8)(hi:PI X i a o)(p:∀C s H ex,PG (JQ X N scope C s H ex) i g)(q:∀C s H ex,MW (JQ X N scope C s H ex) d r)(t:∀C s H ex,PE (JQ X N scope C s H ex) elt u)
  (hs:∀x,L0 a X.env x=pure x:=by intro _;rfl):PE X (.ListComp elt [⟨i,a,d,0⟩] scope pos) (xM c.length o g r u):=by
 intro b s σ H Q I h;rw[eval_ListComp];show YP (use:=bD) (cl:=bw X.env scope.names []) rfl hs (eG (S.cells I.ok)) S.kind S.names ?_;show ID (hi b s σ H _ I h) λv s1 y=>ID y λQR s2 z=>?_;have(it,fp,tn,J,H2,e,j,T,st2,k,W):=z;subst e;show kP (RR:=λf C=>compPost (i4 X.prog X.w) X.A X.xe bD (EP X b σ Q) f C) S n p q t j T st2 k W ?_;intro D C s5 H5 ys B' B hC l m G L O Y;have(m5,S8,_):=l.loc;show#[m5,S8,λh' sb=>#[.ref D,_,pT j l (UG B.symm) (by change @Ê Nat _ s2.heap.objs.size C;lia) (i9 (by change @PJ Nat _ D C;lia)) m G L O sb k,rfl,Y D m]]
def AK(S:cR X N r scope)(hc:X.calm=a8)(hN:X.N.Nodup)(Q4:X.N[i]?=a5 y)(L:X.env.scope.names.lookup y=a5 .local)
  (hi:PI X n d wi) (hg:∀C s H ex,PG (JQ X N scope C s H ex) n g) (hf:∀C s H ex,MW (JQ X N scope C s H ex) k tt) (he:∀C s H ex,PE (JQ X N scope C s H ex) elt te)
  (LY:Mu (.ListComp elt [⟨n,d,k,0⟩] scope pos) (a5 (.Name y m)) LG.line X.env=pure a8:=by rfl)
  (hs:∀x,L0 d X.env x=pure x:=by intro _;rfl):PS X (.Assign [.Name y m] (.ListComp elt [⟨n,d,k,0⟩] scope pos) LG) (Di (xM r.length wi g tt te) (pK i)):=by
 intro f s σ H D I h;rw[exec_Assign_Name_used _ _ _ _ LY];show cL (Yo (cL ?_));change gm _ X.A (do let _ <-comprehension (.ListComp elt [⟨n,d,k,0⟩] scope pos) scope X.env _ (newList []) b6 (sL d X.env) (a5 (RZ (.Name y m) X.env))) _ _ s;show cL (u5 (YP (use:=a5 (RZ (.Name y m) X.env)) (cl:=bw X.env scope.names []) (Q:=λ_ s'=>SP X f D .next s') rfl hs (eG (S.cells I.ok)) S.kind S.names ?_) (λ_ s' hq=>fx (fx hq)) λ_ _ e=>e);show ID (hi f s σ H _ I h) λv s1 h1=>ID h1 λQR s2 h2=>?_;have(it,fp,tn,J,H2,e,l,T,st2,O,W):=h2;subst e;show kP (RR:=λt C=>compPost (i4 X.prog X.w) X.A X.xe (a5 (RZ (.Name y m) X.env)) (λ_ s'=>SP X f D .next s') t C) S hc hg hf he l T st2 O W ?_;intro j C q u ys B' hD hC G Y PB PD PF q5;have(m5,S8,_):=G.loc;have Xa:u C=bD:=G.free;have B:Inv X f σ (upd u j (.lst ys)) {q with heap:=q.heap}:=pT l G (UG hD.symm) (by change @Ê Nat _ s2.heap.objs.size C;lia) (i9 (by change @PJ Nat _ j C;lia)) Y PB PD PF (WB ..) O;change gm _ X.A (RZ (.Name y m) X.env (.ref j)) _ _ q;show á (mN (s:=q) B hN Q4 (.inl L) (show RelV (.ref j) (.ref j) from rfl) (λs6 I6 ⟨a,sb,ha⟩=>?_) (.inr L));have Q3:@PJ Nat _ X.env.locals C:=by have:@PJ Nat _ X.env.locals s2.heap.objs.size:=l.lt;lia
 have Md:∀x c,X.env.cells.lookup x=a5 c->c≠C:=λx c e=>by
  have(v,z):=l.cell x c e;have:@PJ Nat _ c s2.heap.objs.size:=z.lt;show i9 (by change @PJ Nat _ c C;lia)
 have Xb:C≠a:=by
  rcases ha with z|z
  .rw[z];show Ll Q3
  .show(Md _ _ z).symm
 show#[m5,S8.sameBut sb Xb,λh' Xc=>?_];show#[σ.set i (a5 (.ref j)),upd u j (.lst ys),I6.turned (it:=C) (t':=s6.toks) (λb o hb e=>(Xc.2 b hb).trans e) ?_ (Ll Q3) (.inr (by have:@Ê Nat _ X.s₀.heap.objs.size s2.heap.objs.size:=l.sz;change @Ê Nat _ X.s₀.heap.objs.size C;lia)) Md (λp hp=>?_),q5 j Y]
 .rw[ai (Ll (by change @PJ Nat _ j C;lia))];show Xa
 .have:@PJ Nat _ p.1 s2.heap.objs.size:=i5 (l.pin p hp).1;show i9 (by change @PJ Nat _ p.1 C;lia)
end
section
abbrev S9(x:Str):It:=#[λi _=>i<x.cps.toList.length,λi H v H'=>H'=H/\∃c,x.cps.toList[i]?=a5 c/\v=.str #[#v[c]],λi _=>x.cps.toList.length<=i]
def pU{K:PySem.W.Frag}(it:dt)(J:["enumerate","zip","dict_itemiterator","dict_reverseitemiterator","odict_iterator","itertools.zip_longest","itertools.pairwise"].contains g=b6)
  (L:∀(A:Mx) (s:hQ) (i c:Nat) (Q:Option dr->hQ->Prop) (E:dr->hQ->Prop),s.heap.IsStrIter it g x t i->x.cps[i]?=a5 c->(∀h',h'.IsStrIter it g x t (i+1)->K2 it s.heap h'->Q (a5 (.str #[#v[c]] s.toks)) {s with heap:=h',toks:=s.toks+1})->gm (i4 P w) A (Ww (.ref it)) Q E s)
  (N:∀(A:Mx) (s:hQ) (i:Nat) (Q:Option dr->hQ->Prop) (E:dr->hQ->Prop),A.handled=bD->s.heap.IsStrIter it g x t i->x.cps[i]?=bD->(∀h',XU it s.heap h'->Q bD {s with heap:=h' })->gm (i4 P w) A (Ww (.ref it)) Q E s)
  (O:∀(A:Mx) (i:Nat) (s:hQ) (Q:dr->hQ->Prop) (E:dr->hQ->Prop),s.heap.IsStrIter it g x t i->Q (.ref it) s->gm (i4 P w) A (Zo (.ref it)) Q E s) :
  Turn P w K tg (S9 x) [it] it (λi h=>h.IsStrIter it g x t i) where
 mem:=by simp
 obj:=λi h st b f=>by
  have e:b=it:=by simpa using f
  subst e;have(o,e,c,d):=st;show#[o,e,λv z=>by rw[d]at z;cases z]
 keep:=λi h h' st k=>let ⟨o,ho,r⟩:=st;⟨o,k it (by simp) o ho,r⟩
 item:=by
  intro X l m n D i a s σ H E I j st p;subst l m n;have(q,u,T,y,B,C):=j it (by simp);have G:i<x.cps.toList.length:=p;show L X.A s i x.cps.toList[i] _ _ st (by simp) λh' st' Y=>?_;have I1:Inv X a σ H {s with heap:=h',toks:=s.toks+1}:=I.turned (λb o f e=>(Y.2 b f).trans e) q u y B C;have(o,e,cc,d):=id st';show#[_,rfl,tf (s:={s with heap:=h',toks:=s.toks+1}) e cc d J ⟨.str ⟨#v[x.cps.toList[i]]⟩,H,I1,⟨_,rfl⟩,⟨rfl,_,by simp,rfl⟩,st',λb f=>(j b f).1⟩]
 done:=by
  intro X l m n D i a s σ H E I j st p;subst l m n;have(q,u,T,y,B,C):=j it (by simp);have G:x.cps.toList.length<=i:=p;show N X.A s i _ _ (I.ok.hd D) st (by simpa using G) λh' eb=>#[rfl,I.turned (t':=s.toks) (λb o f e=>eb b o f e) q u y B C]
 self:=λA i s Q E st h=>O A i s Q E st h
abbrev HR(a:TE):TI:=λσ H R=>a σ H λv b=>∃x,v=.str x/\R (S9 x) b
def DJ(hl:PE X l p):PI X y l (HR p):=by
 intro d s σ H R I h;show ID (hl d s σ H _ I h) λv s1 r=>?_;have(x,j,g,r1,u):=r;have(z,rfl,q):=u;have(t,rfl):=r1;have m:∀b∈[s1.heap.objs.size],gN X d j b:=λb w=>by
  have e:b=s1.heap.objs.size:=by simpa using w
  subst e;show g.xl (hY _) (g.IE.fresh (hY _))
 cases n:z.cps.all (·<128) with
 |true =>
  show wpAny_pyIter_ascii n ?_;show#[s1.heap.objs.size,[s1.heap.objs.size],_,_,j,rfl,g.kept (t':=s1.toks) λb o e=>c4 _ e,
   pU (x:=z) (t:=t) _ (by decide) (λA s i c Q E st f a=>wpAny_pyNext_ascii_item st f a) (λA s i Q E k st f a=>wpAny_pyNext_ascii_end k st f a) (λA i s Q E st a=>wpAny_pyIter_striter_ascii st a),
   #[_,hW _ rfl,rfl,rfl],m,q]
 |false =>
  show wpAny_pyIter_wide n ?_;show#[s1.heap.objs.size,[s1.heap.objs.size],_,_,j,rfl,g.kept (t':=s1.toks) λb o e=>c4 _ e,
   pU (x:=z) (t:=t) _ (by decide) (λA s i c Q E st f a=>wpAny_pyNext_wide_item st f a) (λA s i Q E k st f a=>wpAny_pyNext_wide_end k st f a) (λA i s Q E st a=>wpAny_pyIter_striter_wide st a),
   #[_,hW _ rfl,rfl,rfl],m,q]
end
section
abbrev FX:V->Option Int->Option Int->Hp->VK->Prop:=λx lo hi H Q=>∃z,x=.str z/\z.length<=cK/\Q (.str (PySem.StrLaws.sliceText z lo hi)) H
def mD(x:Str)(lo hi:Option Int)(hz:x.length<=cK):(PySem.StrLaws.sliceText x lo hi).length<=cK:=vr (Txt.slice_le x lo hi) hz
def DK:MA X FX:=by
 intro b s σ H x v g m lo hi n Q I f hs pl d h;have(z,rfl,hz,q):=h;have(t,rfl):=f;show#["str",_,ø.lookup,RX _ _ _,?_];have a:(PySem.StrLaws.sliceText z lo hi).length<=cK/\∀t' k,EP X b σ Q (.str (PySem.StrLaws.sliceText z lo hi) t') {s with toks:=k}:=#[mD z lo hi hz,λt' k=>#[.str _,H,I.tok k,#[_,rfl],q]]
 cases pl with
 |none =>
  cases d with
  |none=>show Pz (l:=bD) (u:=bD) (st:=bD) hs rfl (S7 a)
  |int j c=>show Pz (l:=bD) (u:=a5 (j,c)) (st:=bD) hs rfl (S7 a)
 |int i e =>
  cases d with
  |none=>show Pz (l:=a5 (i,e)) (u:=bD) (st:=bD) hs rfl (S7 a)
  |int j c=>show Pz (l:=a5 (i,e)) (u:=a5 (j,c)) (st:=bD) hs rfl (S7 a)
def pV:OM X "str.endswith" (λx xs H Q=>∃a b,x=.str a/\xs=[.str b]/\Q (.bl (ó a b)) H):=by
 intro c s σ H x xs v us Q I d rs h;have(a,b,rfl,rfl,q):=h;have(t,rfl):=d;have(u,rfl,t',rfl):=vals1 rs;show SC.endswith #[.bl _,H,I,rfl,q]
def ou:OM X "str.partition" (λx xs H Q=>∃a b,x=.str a/\xs=[.str b]/\(b.length==0)=b6/\a.length<=cK /\
  ∀p,H p=bD->Q (.ref p) (upd H p (.tup [.str (nH a b).1,.str (nH a b).2.1,.str (nH a b).2.2]))):=by
 intro d s σ H x xs v us Q I j rs h;have(a,b,rfl,rfl,l,hz,q):=h;have(t,rfl):=j;have(u,rfl,t',rfl):=vals1 rs;show Qw F.slot_str_partition (RX _ _ _) F.entry_str_partition (F.args_str_partition_2 _ _) (meets_str_partition a b t t' l hz) ?_;have m:H s.heap.objs.size=bD:=I.IE.fresh (hY _);have n:=q _ m;have c:∀(f g i:Tok) (k:Nat),EP X d σ Q (.ref s.heap.objs.size) {s with toks:=k,heap:=s.heap.push {cls:=.type "tuple",data:=.seq [.str (nH a b).1 f,.str (nH a b).2.1 g,.str (nH a b).2.2 i].toArray}}:=λf g i k =>
  #[.ref s.heap.objs.size,_,I.laid (t':=k) (o:=.tup [.str (nH a b).1,.str (nH a b).2.1,.str (nH a b).2.2]) (λb u e=>c4 _ e) (hY _)
   ⟨by change 3<=cK;decide,_,.cons ⟨f,rfl⟩ (.cons #[g,rfl] (.cons #[i,rfl] .nil)),⟨_,hW _ rfl,rfl,_,rfl⟩⟩,rfl,n]
 revert c;unfold nH;cases ti a b 0 a.length 1 with
 |_=>intro c;show c _ _ _ _
theorem mX:∀(l:List (Str×Tok)),Vals (l.map λp=>V.str p.1) (Y7 l)
 |[]=>.nil
 |(x,t)::r=>.cons #[t,rfl] (mX r)
theorem iy:∀{ys:List Str}{a:List dr},Vals (ys.map V.str) a->∃l:List (Str×Tok),a=Y7 l/\l.map (·.1)=ys
 |[],_,.nil=>#[[],rfl,rfl]
 |y::ys,_,.cons r t=>by
  have(b,rfl):=r;have(l,rfl,e):=iy t;show#[(y,b)::l,rfl,by rw[gi,e]]
def xO:OM X "str.split" (λx xs H Q=>∃a b,x=.str a/\xs=[.str b]/\(b.length==0)=b6/\a.length+2<=cK /\
  ∀p,H p=bD->Q (.ref p) (upd H p (.lst ((OJ a b).map V.str)))):=by
 intro g s σ H x xs v us Q I j rs h;have(x,y,rfl,rfl,i,hz,q):=h;have(t,rfl):=j;have(u0,rfl,u,rfl):=vals1 rs;have d:H s.heap.objs.size=bD:=I.IE.fresh (hY _);have m:=q _ d;have c:∀(l:List (Str×Tok)) (k:Nat),l.length<=cK->l.map (·.1)=OJ x y->EP X g σ Q (.ref s.heap.objs.size) {s with toks:=k,heap:=s.heap.push {cls:=.type "list",data:=.seq (Y7 l).toArray}}:=λl k hl e =>
  #[.ref s.heap.objs.size,_,I.laid (t':=k) (o:=.lst ((OJ x y).map V.str)) (λb u e=>c4 _ e) (hY _)
   ⟨by rw[<-e,cN,cN];show hl,Y7 l,_,by rw[<-e,ke];show mX l,hW _ rfl⟩,rfl,m]
 have one:1<=cK:=by decide
 cases f:(cb (x.length<y.length)||decide (Wf x<Wf y))
 .cases d:(ti x y 0 x.length (x.length+1)).isEmpty
  .have n:(NK x (ti x y 0 x.length (x.length+1)) y.length).length<=cK:=by
    have:=PySem.StrLaws.occ_length_le x y 0 x.length (x.length+1);simp only[NK,cN,Vr,j5,j0];lia
   show Qw F.slot_str_split (RX _ _ _) F.entry_str_split (F.args_str_split_2 _ _) (meets_str_split_sep x y t u f i d ⋯ n) ?_;change wants _ _ _ {s with toks:=_,heap:=s.heap.push {cls:=.type "list",data:=.seq (strsFrom s.toks (NK x (ti x y 0 x.length (x.length+1)) y.length)).toArray}};rw[strsFrom_eq];show c (numbered s.toks _) _ ?_ ((Č _ _).trans ((Ě (ne_true_of_eq_false f)).trans (Ě (ne_true_of_eq_false d))).symm);have e:=ğ H8 (Č s.toks (NK x (ti x y 0 x.length (x.length+1)) y.length));rw[cN]at e;lia
  .show Qw F.slot_str_split (RX _ _ _) F.entry_str_split (F.args_str_split_2 _ _) (meets_str_split_not_found x y t u f i d)
    (c [(x,t)] _ one ((Ě (ne_true_of_eq_false f)).trans (ę d)).symm)
 .show Qw F.slot_str_split (RX _ _ _) F.entry_str_split (F.args_str_split_2 _ _) (meets_str_split_cannot_occur x y t u f)
   (c [(x,t)] _ one (ę f).symm)
def AL:OM X "str.join" (λx xs H Q=>∃a p ys,x=.str a/\xs=[.ref p]/\Jk X.K H p (ys.map V.str)/\Ú a ys=a8/\Q (.str (UD a ys)) H):=by
 intro b s σ H x xs v us Q I c rs h;have(a,p,ys,rfl,rfl,d,f,q):=h;have(t,rfl):=c;have(u,rfl,r):=vals1 rs;cases r;have(g,rv,pl,hz):=I.list d;have(l,rfl,e):=iy rv;show SC.join pl.isList e f λt' k=>#[.str _,H,I.tok k,#[_,rfl],q]
theorem jG:∀{bs:List Bool}{a:List dr},Vals (bs.map V.bl) a->a=bs.map PV
 |[],_,.nil=>rfl
 |b::bs,_,.cons r t=>by
  cases r;rw[jG t];rfl
def xP:X.calm=a8->gH X (.builtin "all") (λxs H Q=>∃(p:dt) (bs:List Bool),xs=[.ref p]/\Jk X.K H p (bs.map V.bl)/\Q (.bl (bs.all id)) H):=by
 intro f c s σ H xs us Q I rs h;have(p,bs,rfl,g,q):=h;have(u,rfl,r):=vals1 rs;cases r;have(m,rv,pl,hz):=I.list g;have e:=jG rv;subst e;have j:p<s.heap.objs.size:=by have(_,_,e,_):=pl;show i5 e
 show call_all_walk (VN pl.isList ?_);show#[s.heap.objs.size,[s.heap.objs.size,p],[s.heap.objs.size],(bs.map PV).toArray.size,_,_,λi=>(bs[i]?).getD a8,rfl,ò (A:=X.A.in1) (I.ok.hd f) _ p (i9 j) (bs.map PV).toArray,
  #[#[_,hW _ rfl,rfl,rfl],pl.isList.push _],λi v s' Q' n k d=>?_,λh' l hk=>?_]
 .have a:(bs.map PV)[i]?=a5 v:=by simpa using k
  rw[nc]at a;cases e:bs[i]? with
  |none=>rw[e]at a;cases a
  |some b =>
   rw[e]at a;cases a;simp only[e,Option.getD_some]at d;show C1 d
 .have e:((hH (bs.map PV).toArray.size).all λi=>(bs[i]?).getD a8)=bs.all id:=by
   rw[hE,cN];show Í bs
  rw[e];show#[.bl _,H,I.kept (t':=l) (Î hk),rfl,q]
end
section
end
abbrev DL(N a:List Str)(scope:z8)(out:List (Str×KD)):Bool :=
 cb (scope.kind=.function)&&scope.names.all (λy=>cb (scope.names.lookup y.1=a5 y.2))&&scope.names.all (λy=>cb (y.2≠.cell)||decide (y.1∈a))&&decide N.Nodup&&cb (N.take a.length=a) &&
 scope.names.all (λy=>cb (y.2≠.local)||decide (y.1∈a)||decide (y.1=".0"))&&cb ((".0":Str)∉N)&&scope.names.all (λy=>cb (y.2≠.free)||decide (out.lookup y.1=a5 .cell)||decide (out.lookup y.1=a5 .free))&&scope.names.all (λy=>cb (y.1≠".")&&cb (y.1≠".."))
def xQ(c:X.env.scope.names=out)(d:d_ (N.drop a.length) X.N)(h:DL N a scope out=a8):cR X N a scope:=by
 unfold DL at h;simp only[b5,qa,OG,Ę]at h;obtain⟨⟨⟨⟨⟨⟨⟨⟨f,g⟩,i⟩,j⟩,k⟩,l⟩,m⟩,n⟩,o⟩:=h;show#[f,g,λy b e=>?_,j,k,λy b e=>?_,m,d,λy b e=>?_,o]
 .rcases i y b with z|z
  .show absurd e z
  .show z
 .rcases l y b with(z|z)|z
  .show absurd e z
  .show .inl z
  .show .inr z
 .rw[c];rcases n y b with(z|z)|z
  .show absurd e z
  .show .inl z
  .show .inr z
section
end
section
end
abbrev KR(a b:Str):Bool:=!cb (b.cps.toList<a.cps.toList)
def ka(a b:Str):KR a b=a8↔a.cps.toList<=b.cps.toList:=by
 simp only[KR,sx,decide_eq_false_iff_not];show List.not_lt
def mY(a b c:Str)(d:KR a b=a8)(e:KR b c=a8):KR a c=a8:=by
 rw[ka]at d e ⊢;show List.le_trans d e
def vk(a b:Str):(KR a b||KR b a)=a8:=by
 rw[OG,ka,ka];show List.le_total _ _
def xR{x y:Str}(h:x.cps.toList=y.cps.toList):x=y:=by
 cases x;cases y;congr
 show UQ.mp h
def ox(c:KR a b=a8)(d:KR b a=a8):a=b:=by
 rw[ka]at c d;show xR (List.le_antisymm c d)
abbrev bF(l:List Str):List Str:=l.mergeSort KR
def c6(l:List Str):(bF l).Perm l:=List.mergeSort_perm l KR
def kQ(l:List Str):(bF l).Pairwise (λa b=>KR a b=a8):=List.pairwise_mergeSort mY vk l
theorem iz:∀(l:List Str) (p:Str),risingS p l=a8->(p::l).Pairwise (λa b=>KR a b=a8)
 |[],p,_=>by simp
 |x::r,p,h=>by
  have h':(!ltCps x.cps.toList p.cps.toList&&risingS x r)=a8:=h;have(c,g):=qv.mp h';have d:=iz r x g;have f:KR p x=a8:=by rw[ltCps_eq]at c;show c
  show Rc.mpr #[λy i=>?_,d];rcases gj.mp i with e|e
  .rw[e];show f
  .show mY _ _ _ f ((Rc.mp d).1 y e)
def oy(h:sortedS l=a8):l.Pairwise (λa b=>KR a b=a8):=by
 cases l with
 |nil=>show .nil
 |cons x r=>show iz r x h
theorem ji:∀{l m:List Str},l.Perm m->l.Pairwise (λa b=>KR a b=a8)->m.Pairwise (λa b=>KR a b=a8)->l=m
 |[],m,c,_,_=>(List.Perm.nil_eq c)
 |x::l,m,c,d,f=>by
  cases m with
  |nil=>show absurd c.length_eq (by simp)
  |cons y m =>
   have(g,h):=Rc.mp d;have(b1,i):=Rc.mp f;have j:x=y:=by
    have m1:x∈y::m:=c.mem_iff.mp k9;have m2:y∈x::l:=c.mem_iff.mpr k9;rcases gj.mp m1 with e|e
    .show e
    .rcases gj.mp m2 with e'|e'
     .show e'.symm
     .show ox (g y e') (b1 x e)
   subst j;rw[ji (List.Perm.cons_inv c) h i]
def xS(a:l.Perm m)(hs:sortedS l=a8):l=bF m:=ji (a.trans (c6 m).symm) (oy hs) (kQ m)
def jH(a:l.Perm m):bF l=bF m:=ji ((c6 l).trans (a.trans (c6 m).symm)) (kQ l) (kQ m)
def iA(l:List Str):(bF l).length=l.length:=(c6 l).length_eq
section
theorem dR:∀{ys:List Str}{a:List dr},Vals (ys.map V.str) a->RM a ys
 |[],_,.nil=>.nil
 |y::ys,_,.cons r t=>by
  have(b,rfl):=r;show .cons y b (dR t)
theorem fe:∀{a:List dr}{ys:List Str},RM a ys->Vals (ys.map V.str) a
 |_,_,.nil=>.nil
 |_,_,.cons x t h=>.cons #[t,rfl] (fe h)
theorem gP(hc:gm (i4 prog w) A.in1 (collect x) (λvs s1=>∃ss,RM vs ss/\vs.length<64 /\
      ∀(h':Km) (vs':List dr) (e:Nat),(∀b o,s1.heap.get? b=a5 o->h'.get? b=a5 o)->h'.get? s1.heap.objs.size=a5 (zi "list" vs'.toArray e)->RM vs' (bF ss)->Q (.ref s1.heap.objs.size) {s1 with heap:=h' }) E s) :
    gm (i4 prog w) A (MN (.builtin "sorted") [x]) Q E s:=by
  refine We kind_sorted plain_sorted entry_sorted (args_sorted1 _) ?_;unfold SQ.«sorted»;refine cL (m:=checkCount "sorted" 1 1 _) (fx ?_);refine cL (u5 hc (λvs s1 h1=>?_) λ_ _ e=>e);obtain⟨ss,hS,MX,h⟩:=h1
  refine wpAny_bind (wpAny_newList ?_ (by have : (64 : Nat) ≤ sizeLine := by decide
                                          lia))
  have MS:(s1.heap.push (zi "list" vs.toArray 0)).get? s1.heap.objs.size=a5 (zi "list" vs.toArray 0):=hW _ rfl;show gm _ _ _ _ _ {s1 with heap:=s1.heap.push (zi "list" vs.toArray 0)};refine cL (zc (Mi ē ⟨_,MS,rfl⟩ Ą (list_sort_treeK strKind_oneLt MS hS.keysOf (λv₁ v₂ rest e=>keyKind_strs (by rw[<-e];exact hS)) MX λst' a1 a2=>⟨_,rfl,?_⟩) (Ė _)));obtain⟨JZ,b1,b2,b3⟩:=sorted_out_str hS a1 a2;obtain⟨e,he⟩:=sortedHeap_at (out:=(arrOf st').map (·.2)) MS;rw[xS b2 b3]at b1;refine fx ⟨_,rfl,h _ ((arrOf st').map (·.2)).toList e (λb o q=>?_) (by rw[XS];exact he) b1⟩;have Jm:b<s1.heap.objs.size:=i5 q;show(Û (s1.heap.push (zi "list" vs.toArray 0)) s1.heap.objs.size vs ((arrOf st').map (·.2))).get? b=a5 o;rw[Ē (i9 Jm) (by rw[SR];exact Pp Jm)];exact c4 _ q
def mE(hl:Æ s.heap l vs.toArray)
  (h:Q vs {s with heap:=(s.heap.push (zi "list" #v[] 0)).update s.heap.objs.size (r3 (·++vs.toArray))}) (hsz:vs.length<=cK) :
  gm (i4 prog w) A (collect (.ref l)) Q E s:=by
 have(o,ho,b,n,c):=id hl;unfold collect;show cL (ĉ (O2 entry_proto_collect' ?_));change gm _ _ (do again (.builtin "list.__iadd__" ⟨[<-newList [],.ref l],[]⟩)) _ _ s;show cL (Yp (fx #[Y_ _ (by decide +kernel),O2 entry_list_iadd' ?_]));change gm _ _ (x4 (.ref s.heap.objs.size) (.ref l) (.ref s.heap.objs.size)) _ _ {s with heap:=s.heap.push (zi "list" #v[] 0)};unfold x4;have a:(s.heap.push (zi "list" #v[] 0)).get? l=a5 o:=c4 _ ho;show cL (SE (T:="tuple") #[o,a,b] ?_);have d:(y0 "tuple"==y0 "tuple")=a8:=by rfl
 rw[ę (by rw[d];simp)];show cL (ZC a c ?_);show cL (ZC (xs:=#v[]) (n:=0) (hW _ rfl) rfl ?_);rw[Ě (by simp)];show cL (Va (xs:=#v[]) (n:=0) (hW _ rfl) rfl ?_ (mh _) (by change(#v[]++vs.toArray).size<=cK+1;simp only[TQ,hE,VA];lia));show fx ?_;change gm (i4 prog w) A (do
   let o <-load s.heap.objs.size
   match o.data with
   |.seq xs _=>pure xs.toList
   |_=>unsupported "internal:collect") Q E {s with heap:=(s.heap.push (zi "list" #v[] 0)).update s.heap.objs.size (r3 (·++vs.toArray))}
 show cL (wpAny_load (ă (hW _ rfl) _) ?_);change gm _ _ (pure ((#v[]:Array dr)++vs.toArray).toList) Q E _;rw[show((#v[]:Array dr)++vs.toArray).toList=vs by simp];show fx h
end
section
def mF{h:Km}{vs:List dr}(e:h.get? b=a5 o):((h.push (zi "list" #v[] 0)).update h.objs.size (r3 (·++vs.toArray))).get? b=a5 o:=by
 rw[YY _ _ _ _ (i9 (i5 e))];show c4 _ e
def pW(I:Inv X a σ H s)(k1:∀b o,s.heap.get? b=a5 o->s1.heap.get? b=a5 o)(g:∃d c,s1={s with heap:=d,toks:=c})
  (hk:∀b o,s1.heap.get? b=a5 o->h'.get? b=a5 o) (h:h'.get? s1.heap.objs.size=a5 (zi "list" vs'.toArray e)) (i:RM vs' (bF ss)) (hsz:s.heap.objs.size<=s1.heap.objs.size) (hl:ss.length<=cK)
  (q:∀p,H p=bD->Q (.ref p) (upd H p (.lst ((bF ss).map V.str)))):EP X a σ Q (.ref s1.heap.objs.size) {s1 with heap:=h' }:=by
 have(d,c,rfl):=g;have f:Inv X a σ H {s with heap:=d,toks:=c}:=I.kept (t':=c) k1;show#[.ref d.objs.size,_,f.laid (t':=c) (o:=.lst ((bF ss).map V.str)) hk (hY _) #[by rw[cN,iA];show hl,vs',e,fe i,h],rfl,q _ (f.IE.fresh (hY _))]
def jI:gH X (.builtin "sorted") (λxs H Q=>∃(p:dt) (ys:List Str),xs=[.ref p]/\(Jk X.K H p (ys.map V.str)\/Ji X.K H p (ys.map V.str))/\ys.length<64/\∀q,H q=bD->Q (.ref q) (upd H q (.lst ((bF ys).map V.str)))):=by
 intro c s σ H xs us Q I rs h;have(p,ys,rfl,hq,i,q):=h;have(u,rfl,r):=vals1 rs;cases r;have hl:ys.length<=cK:=Pw (ku i (by decide));have d:∀(a:List dr),Vals (ys.map V.str) a->∀(h':Km) (vs':List dr) (e:Nat),(∀b o,((s.heap.push (zi "list" #v[] 0)).update s.heap.objs.size (r3 (·++a.toArray))).get? b=a5 o->h'.get? b=a5 o) ->
   h'.get? ((s.heap.push (zi "list" #v[] 0)).update s.heap.objs.size (r3 (·++a.toArray))).objs.size=a5 (zi "list" vs'.toArray e)->RM vs' (bF ys) ->
   EP X c σ Q (.ref ((s.heap.push (zi "list" #v[] 0)).update s.heap.objs.size (r3 (·++a.toArray))).objs.size) {s with heap:=h' }:=λa rv h' vs' e hk f g =>
  pW (s1:={s with heap:=(s.heap.push (zi "list" #v[] 0)).update s.heap.objs.size (r3 (·++a.toArray))}) I (λb o z=>mF z) ⟨_,s.toks,rfl⟩ hk f g (by change s.heap.objs.size<=((s.heap.push (zi "list" #v[] 0)).update s.heap.objs.size (r3 (·++a.toArray))).objs.size;rw[Heap.size_update,SR];show Qq _) hl q
 rcases hq with hq|hq
 .have(a,rv,pl,hz):=I.list hq;have j:a.length=ys.length:=by rw[<-rv.length,cN]
  show gP (collect_list pl.isList #[ys,dR rv,⋯,λh' vs' e hk f g=>d a rv h' vs' e hk f g] ⋯)
 .have(a,rv,pl,hz):=I.tuple hq;have j:a.length=ys.length:=by rw[<-rv.length,cN]
  show gP (mE pl #[ys,dR rv,⋯,λh' vs' e hk f g=>d a rv h' vs' e hk f g] ⋯)
end
@[reducible]noncomputable def sK(P:ux)(w:wh):=PySem.strKind P w
abbrev gB(P:ux)(w:wh)(h:Km)(a:dt)(b:Bool)(D:List Str):Prop :=
 ∃(L:List (Str×Tok)) (es:Array (Int×dr)) (ep:Nat) (t:XI),h.get? a=a5 {cls:=.type "set",dict:=bD,data:=.set es ep t}/\es.toList=L.map (λp=>((sK P w).hash p.1,zu p.1 p.2)) /\
  (L.map (·.1)).Perm D/\D.Nodup/\t.fits es.size=a8/\es.size<Ln/\t.led=b/\(es.size=0\/t.plain=b6)
section
def xT{L:List (Str×Tok)}:ElemsOf (sK prog w) (L.map λp=>((sK prog w).hash p.1,zu p.1 p.2)):=by
 intro e a;have(p,_,rfl):=kj.mp a;show#[#[p.1,by simp[PySem.strKind,Td],rfl],rfl]
def tM(x y:Str)(t:Tok):(sK prog w).is x (.str y t)=cb (x=y):=by
 rw[IV];simp[PySem.strKind,Td];show#[λh=>h.symm,λh=>h.symm]
def rH(t:XI)(es:Array (Int×dr))(h:Int)(x:dr):(layNew t es h x).2.1.led=t.led:=by
 unfold layNew;split
 .change(W' (t.put _).1 _).led=t.led;unfold W';split<;>rfl
 .rfl
def oz(t:XI)(es:Array (Int×dr))(n:Nat):(Xv t es n).2.1.led=t.led:=by
 unfold Xv;split
 .rename_i t' b a;have:t'.led=t.led:=by
   unfold YU Zq at a;cases c:XE (WY n - 1) (es.map (·.1)) with
   |none=>rw[c]at a;cases a
   |some o=>rw[c]at a;cases a;rfl
  dsimp only
  split
  .show this
  .rfl
 .rfl
def kR(t:XI)(es:Array (Int×dr))(n:Nat)(h:t.plain=b6):(Xv t es n).2.1.plain=b6:=by
 unfold Xv;split
 .rename_i t' b a;have:t'.plain=t.plain:=by
   unfold YU Zq at a;cases c:XE (WY n - 1) (es.map (·.1)) with
   |none=>rw[c]at a;cases a
   |some o=>rw[c]at a;cases a;rfl
  dsimp only
  split
  .rw[this];show h
  .rfl
 .rfl
def kS(h:l.Perm (L.map λp=>((sK prog w).hash p.1,zu p.1 p.2))):∃a:List (Str×Tok),l=a.map (λp=>((sK prog w).hash p.1,zu p.1 p.2))/\a.Perm L:=by
 have all:∀e∈l,∃p:Str×Tok,e=((sK prog w).hash p.1,zu p.1 p.2):=λe b=>by
  have(p,_,rfl):=kj.mp (h.mem_iff.mp b);show#[p,rfl]
 have ex:∀l:List (Int×dr),(∀e∈l,∃p:Str×Tok,e=((sK prog w).hash p.1,zu p.1 p.2))->∃a:List (Str×Tok),l=a.map (λp=>((sK prog w).hash p.1,zu p.1 p.2)):=by
  intro l;induction l with
  |nil=>intro _;show#[[],rfl]
  |cons e l d =>
   intro c;have(p,rfl):=c e k9;have(a,rfl):=d λe b=>c e (ko _ b);show#[p::a,rfl]
 have(a,rfl):=ex l all;show#[a,rfl,?_];have g:(a.map λp=>((sK prog w).hash p.1,zu p.1 p.2)).map (λe=>match e.2 with|.str x t=>(x,t)|_=>(td,0))=a:=by
  rw[ke];show ú _
 have f:(L.map λp=>((sK prog w).hash p.1,zu p.1 p.2)).map (λe=>match e.2 with|.str x t=>(x,t)|_=>(td,0))=L:=by
  rw[ke];show ú _
 have:=h.map (λe=>match e.2 with|.str x t=>(x,t)|_=>(td,0));rw[g,f]at this;show this
theorem rJ(hS:gB prog w s.heap a led D)(Nq:D.length+1<Ln)
    (h:∀h',K2 a s.heap h'->gB prog w h' a led (if x∈D then D else D++[x])->Q (cb (x∉D)) {s with heap:=h' }) :
    gm (i4 prog w) A (setAddHashed a (.str x tk) ((sK prog w).hash x)) Q E s:=by
  obtain⟨L,es,ep,t,ho,MY,Kp,I0,hf,hb,MZ,JE⟩:=hS;have L8:(sK prog w).is x (.str x tk)=a8:=by rw[tM];simp
  have Vi:ElemsOf (sK prog w) es.toList:=by rw[MY];exact xT
  have hlen:es.size=D.length:=by rw[<-rr,MY,cN,<-cN (f:=Ï) (as:=L),Kp.length_eq]
  unfold setAddHashed setAddHashedIn;refine zc (cL (wpAny_setState_of ho rfl hf ?_))
  dsimp only
  rw[byScan_of (knd:=sK prog w) rfl hb Vi];simp only[↓reduceIte];unfold setAddByScan;refine cL ?_;refine cL (RU ?_);refine cL (wpAny_setScan_of (knd:=sK prog w) L8 ho rfl hf Vi ?_);have mem_iff:(∃e∈es.toList,(sK prog w).is x e.2=a8)↔x∈D:=by
    rw[MY,<-Kp.mem_iff,kj];constructor
    · rintro⟨e,he,hi⟩
      obtain⟨p,hp,rfl⟩:=kj.mp he;rw[tM,Ę]at hi;exact⟨p,hp,hi.symm⟩
    · rintro⟨p,hp,e⟩
      exact⟨_,kj.mpr ⟨p,hp,rfl⟩,by rw[tM];simp[e]⟩
  cases hr:Ý (λe=>(sK prog w).is x e.2) es.toList with
  | some j =>
    dsimp only
    obtain⟨hj,Xe,_⟩:=List.findIdx?_eq_some_iff_getElem.mp hr;have hx:x∈D:=mem_iff.mp ⟨es.toList[j],DD hj,Xe⟩;refine fx (fx ?_);have e:s={s with heap:=s.heap}:=by cases s;rfl
    have:=h s.heap (WB a s.heap) (by rw[ę hx];exact⟨L,es,ep,t,ho,MY,Kp,I0,hf,hb,MZ,JE⟩);rw[ě (λz=>z hx)]at this;rw[e];exact this
  | none =>
    dsimp only
    have hx:x∉D:=λhx=>by
      obtain⟨e,he,hp⟩:=mem_iff.mpr hx;have:=List.findIdx?_eq_none_iff.mp hr e he;rw[hp]at this;exact Bool.noConfusion this
    have Xf:∀(b:Bool) {s₁:hQ} {Q':Unit->hQ->Prop},Q' () s₁->gm (i4 prog w) A (match b with|true=>Ċ "set.scan.the-table-gave-way"|false=>pure ()) Q' E s₁ :=
      λb s₁ Q' hq=>by cases b<;>first|exact fx hq|exact RU hq
    have PK:=layNew_perm t es ((sK prog w).hash x) (.str x tk);have Ls:=layNew_fits t es ((sK prog w).hash x) (.str x tk);have Lu:=rH t es ((sK prog w).hash x) (.str x tk);generalize hL:layNew t es ((sK prog w).hash x) (.str x tk)=NL at PK Ls Lu ⊢;obtain⟨JC,t1,Mg,Xg⟩:=NL
    dsimp only at PK Ls Lu ⊢
    rw[Array.toList_push,MY,show [((sK prog w).hash x,zu x tk)]=[(x,tk)].map (λp=>((sK prog w).hash p.1,zu p.1 p.2)) from rfl,<-mu]at PK;obtain⟨L1,e1,Xh⟩:=kS PK;have N1:JC.size=D.length+1:=by rw[<-rr,PK.length_eq,cN,j0,<-hlen,<-rr,MY,cN];rfl
    have Q5:JC.size<Ln:=by lia
    have Nr:(L1.map (·.1)).Perm (D++[x]):=(Xh.map _).trans (by rw[mu];exact Kp.append_right _);have Vj:(D++[x]).Nodup:=by
      rw[ri]
      exact ⟨I0, by simp, fun y hy z hz => by have : z = x := by simpa using hz
                                              subst this;rintro rfl;exact hx hy⟩
    refine cL (Xf _ ?_);have M0:∀h',K2 a s.heap h'->gB prog w h' a led (D++[x])->Q a8 {s with heap:=h' }:=λh' sb hs=>by
      have:=h h' sb (by rw[Ě hx];exact hs);rw[Ĝ hx]at this;exact this
    have tail:∀(g:Bool->Sem Unit),(∀(b:Bool) (s₁:hQ) (Q':Unit->hQ->Prop),Q' () s₁->gm (i4 prog w) A (g b) Q' E s₁)->∀(R:Option Bool->hQ->Prop),(∀h',K2 a s.heap h'->gB prog w h' a led (D++[x])->R (a5 a8) {s with heap:=h' })->∀t2:XI,t2.fits JC.size=a8->t2.led=led->t2.plain=b6->gm (i4 prog w) A (do
        storeSet a JC t2
        if (!Mg&&t2.tooFull)=true then do
            g (relayAll t2 JC (SetTable.grown JC.size)).2.2
            storeSet a (relayAll t2 JC (SetTable.grown JC.size)).1 (relayAll t2 JC (SetTable.grown JC.size)).2.1
            pure (some true)
          else pure (a5 a8)) R E s:=by
      intro g hg R hR t2 Xi LJ PL;refine cL (ß ho rfl ?_ (ã Q5));have PM:(s.heap.update a (Sn JC t2)).get? a=a5 {cls:=.type "set",dict:=bD,data:=.set JC (ep+1) t2}:=by
        have:=MV (Sn JC t2) ho rfl;exact this
      have PN:=Po s.heap a (Sn JC t2);split
      · have hp:=relayAll_perm t2 JC (Qt JC.size)
        have Ta:=relayAll_fits t2 JC (Qt JC.size);have N2:=oz t2 JC (Qt JC.size);have Tb:=kR t2 JC (Qt JC.size) PL;generalize Tc:Xv t2 JC (Qt JC.size)=Rl at hp Ta N2 Tb ⊢;obtain⟨es2,t3,Vk⟩:=Rl
        dsimp only at hp Ta N2 Tb ⊢
        rw[e1]at hp;obtain⟨L2,e2,Xj⟩:=kS hp;have hsz:es2.size=JC.size:=by rw[<-rr,hp.length_eq,<-e1,rr]
        refine cL (hg _ _ _ ?_);refine cL (ß PM rfl ?_ (ã ⋯));have N3:((s.heap.update a (Sn JC t2)).update a (Sn es2 t3)).get? a=a5 {cls:=.type "set",dict:=bD,data:=.set es2 (ep+1+1) t3}:=MV (Sn es2 t3) PM rfl;refine fx (hR _ (PN.trans (Po _ a _)) ⟨L2,es2,_,t3,N3,e2,(Xj.map _).trans Nr,Vj,Ta,⋯,N2.trans LJ,.inr Tb⟩)
      · exact fx (hR _ PN ⟨L1,JC,_,t2,PM,e1,Nr,Vj,Xi,Q5,LJ,.inr PL⟩)
    split
    · rename_i hp
      refine cL ?_;rw[hashByValue_scannable 8 rfl];refine fx ?_;have ep:(if plainKind (zu x tk)=a8 then t1 else {t1 with plain:=b6})={t1 with plain:=b6}:=rfl;rw[ep];refine tail _ ?_ _ ?_ {t1 with plain:=b6} (SetTable.fits_plain_off Ls) (Lu.trans MZ) rfl
      · intro b s₁ Q' hq;cases b<;>first|exact fx hq|exact RU hq
      · intro h' OQ KS;dsimp only;exact fx (M0 h' OQ KS)
    · rename_i hp
      refine cL (fx ?_);simp only[↓reduceIte];refine tail _ ?_ _ ?_ t1 Ls (Lu.trans MZ) (Bool.eq_false_iff.mpr hp)
      · intro b s₁ Q' hq;cases b<;>first|exact fx hq|exact RU hq
      · intro h' OQ KS;dsimp only;exact fx (M0 h' OQ KS)
end
abbrev jW(D:List Str)(x:Str):List Str:=if x∈D then D else D++[x]
abbrev bg(l:List Str):List Str:=l.foldl jW []
theorem rK(h:D.Nodup):(jW D x).Nodup:=by
  unfold jW;split
  · exact h
  · rename_i hx
    rw[ri]
    exact ⟨h, by simp, fun y hy z hz => by have : z = x := by simpa using hz
                                           subst this;rintro rfl;exact hx hy⟩
theorem gQ:∀(l D:List Str),D.Nodup->(l.foldl jW D).Nodup/\(∀x,x∈l.foldl jW D↔x∈D\/x∈l)/\(l.foldl jW D).length<=D.length+l.length
 |[],D,h=>#[h,by simp,by simp]
 |y::l,D,h=>by
  have(a,b,f):=gQ l (jW D y) (rK h);have c:∀x,x∈jW D y↔x∈D\/x=y:=λx=>by
   unfold jW;split
   .rename_i d;show#[.inl,λz=>z.elim id (λe=>e▸d)]
   .simp
  have hl:(jW D y).length<=D.length+1:=by
   unfold jW;split
   .lia
   .simp
  show#[a,λx=>?_,by rw[VB,j5];lia];rw[VB,b,c,gj,or_assoc]
def rL(l:List Str)(x:Str):x∈bg l↔x∈l:=by rw[bg,(gQ l [] Wo).2.1];simp
def kU(l:List Str):(bg l).length<=l.length:=by have:=(gQ l [] Wo).2.2;simpa[bg] using this
def pX(l:List Str)(x:Str):bg (l++[x])=jW (bg l) x:=by unfold bg;rw[List.foldl_append];rfl
section
variable{prog:ux}{w:wh}{A:Mx}{R:Result->hQ->Prop}{I:dt}{fp wr:List dt}{G:Array Â->Array Â->Prop}{n:Nat}{P:Nat->dr->Prop}{St:Nat->hQ->Prop}
def jj(W:Ø prog w A.in1 I fp wr G n P St)(S:dt)(m:S∉fp)(a:Bool)
  (ys:List Str) (hn:ys.length=n) (y:∀i v,P i v->∃x t,ys[i]?=a5 x/\v=.str x t) (d:n+1<Ln) :
  ∀(k i:Nat) (s:hQ),n - i=k->i<=n->St i s->gB prog w s.heap S a (bg (ys.take i)) ->
   (∀s',Moved (S::wr) G s s'->gB prog w s'.heap S a (bg ys)->R (.ok (.ret .none)) s') ->
   O' (i4 prog w) A (.builtin "set.update.loop" ⟨[.ref S,.ref I],[]⟩) R s:=by
 have p:S∉wr:=λh=>m (W.sub _ h);have q:∀b∈wr,b∈S::wr:=λb d=>ko _ d;intro k;induction k with
 |zero =>
  intro i s hk hi j g l;have z:i=n:=by lia
  subst z;show O2 RT ?_;rw[Sv MC _];change gm _ A.in1 (Ww (.ref I) >>= _) _ _ s;show cL (W.done s _ _ j λs' f=>?_);change gm _ A.in1 (ret rz) _ _ s';rw[Kj ⋯]at g;show fx (l s' (f.mono q) (by
   have(L,es,ep,t,ho,c):=g;show#[L,es,ep,t,f.heap S _ p ho,c]))
 |succ k B =>
  intro i s hk hi j g l;have r:i<n:=by lia
  show O2 RT ?_;rw[Sv MC _];change gm _ A.in1 (Ww (.ref I) >>= _) _ _ s;show cL (W.item i s _ _ r j λv s' C D f=>?_);have(x,t,H,rfl):=y i v C;have J:gB prog w s'.heap S a (bg (ys.take i)):=by
   have(L,es,ep,tb,ho,c):=g;show#[L,es,ep,tb,f.heap S _ p ho,c]
  change gm _ A.in1 (Ka [zu x t] (setAdd S (.str x t)) >>= _) _ _ s';show cL (zc ?_);unfold setAdd;show zc ?_;show cL ((sK prog w).pyHash (k:=x) (by rw[tM];simp) ?_);have N:(bg (ys.take i)).length+1<Ln:=by have:=kU (ys.take i);rw[oD]at this;lia
  show rJ (s:={s' with toks:=s'.toks+1}) J N λh' u O=>?_;have Q:gB prog w h' S a (bg (ys.take (i+1))):=by
   rw[List.take_add_one,H];change gB prog w h' S a (bg (ys.take i++[x]));rw[pX];show O
  show fx #[YS MC _,B (i+1) _ ⋯ r (W.frame _ s' _ _ D (Qq _) λb d o e=>?_) Q λT Y Tf=>?_]
  .rw[u.2 b (λh:b=S=>m (by rw[<-h];show d))];show e
  .show l T (é W.gtrans ((f.mono q).then_heap (Qq _) λb o d e=>?_) Y) Tf;rw[u.2 b (λh:b=S=>d (by rw[h];show k9))];show e
end
section
def mG(a:dr)
  (h:Q₁ (.ref s.heap.objs.size) {s with heap:=s.heap.push {cls:=.type "set",dict:=bD,data:=.set #v[] 0 (.fresh 0 0 (!w.params.followText "set-order"))}}) :
  O' (i4 prog w) A (.call (.builtin "set.__new__") #[[.type "set",a],[]]) (wants Q₁ E) s:=by
 show ÿ ?_;change gm _ A.in1 (do checkBuiltinCall "set.__new__" ⟨[.type "set",a],[]⟩;again (.builtin "set.__new__" ⟨[.type "set",a],[]⟩)) _ _ s;show cL (wpAny_of_eq (PySem.F.newCall_set_1 a) (fx #[YS PySem.F.plain_set_new _,O2 PySem.F.entry_set_new ?_]));rw[Sv PySem.F.plain_set_new _];unfold SQ.«set.__new__» Ä;have b:=sub_set_self;have(c,g,d,e,os):=s
 dsimp only
 wp_walk
 show wpAny_askSetting (fx ?_)
 dsimp only
 simp only[newObj];show cL (wpAny_alloc (fx ?_));show fx h
def rM(c:h.get? a=a5 {cls:=.type "set",dict:=bD,data:=.set #v[] 0 (.fresh 0 0 b)}):gB prog w h a b [] :=
 #[[],#v[],0,_,c,rfl,.nil,Wo,rfl,by unfold Ln;decide,rfl,.inl rfl]
end
def sub_tuple_set:T_ (.type "tuple") (.type "set")=pure b6:=by rw[Qb];kernel_rfl
def sub_tuple_frozenset:T_ (.type "tuple") (.type "frozenset")=pure b6:=by rw[Qb];kernel_rfl
section
@[reducible]noncomputable def d6(w:wh):Bool:=!w.params.followText "set-order"
@[reducible]noncomputable def rN(a:Bool):Obj:={cls:=.type "set",dict:=bD,data:=.set #v[] 0 (.fresh 0 0 a)}
def iB
  (J:s.TypeIs (.ref l) T) (Xn:T_ (.type T) (.type "set")=pure b6) (Xo:T_ (.type T) (.type "frozenset")=pure b6) (JS:(y0 T==y0 "dict")=b6)
  (L:ys.length+1<Ln)
  (j:∀(s1:hQ) (B:Mx) (Q':dr->hQ->Prop),B.handled=A.handled->(∀b o,s.heap.get? b=a5 o->s1.heap.get? b=a5 o)->s.heap.objs.size<s1.heap.objs.size ->
   (∀I k m G P St a,Ø prog w B.in1 I k m G ys.length P St->(∀g g',G g g'->g'=g)->s.heap.objs.size∉k->(∀b∈m,s.heap.objs.size<b)->(∀i v,P i v->∃x t,ys[i]?=a5 x/\v=.str x t)->St 0 {s1 with heap:=a}->(∀b o,s1.heap.get? b=a5 o->a.get? b=a5 o)->Q' (.ref I) {s1 with heap:=a})->gm (i4 prog w) B (Zo (.ref l)) Q' E s1)
  (h:∀(h':Km) (d:Nat),gB prog w h' s.heap.objs.size (d6 w) (bg ys)->(∀b o,b<s.heap.objs.size->s.heap.get? b=a5 o->h'.get? b=a5 o)->Q (.ref s.heap.objs.size) {s with heap:=h',toks:=d}) :
  gm (i4 prog w) A (MN (.type "set") [.ref l]) Q E s:=by
 have(c,tl,Xp):=PySem.F.called_set.mro;have Vm:=PySem.F.called_set.made;have Mh:=PySem.F.called_set.sub;show Ñ (ÿ ?_);change gm _ _ (callAny (.type "set") _) _ _ _;show fx #[Y_ _ (by decide +kernel),O2 PySem.F.entry_type_call ?_];rw[Around.under_plain (weight_type_call_type "set" [.ref l] []) rfl];have a:=PySem.F.called_set.notType;have h2:=PySem.F.called_set.canCreate;have ZH:=PySem.F.typeCall_set_1 (.ref l)
 repeat (any_goals (first|assumption|wp_step))
 show RL (mG (.ref l) (E:=E) (Q₁:=λobj y=>obj=.ref s.heap.objs.size/\y={s with heap:=s.heap.push (rN (d6 w))}) ⟨rfl,rfl⟩) λr y n=>?_;cases r with
 |error e=>show n
 |ok N =>
  cases N with
  |ret obj =>
   have(rfl,rfl):=n;have C:(s.heap.push (rN (d6 w))).get? s.heap.objs.size=a5 (rN (d6 w)):=hW _ rfl;have O:À {s with heap:=s.heap.push (rN (d6 w))} (.ref s.heap.objs.size) "set":=#[_,C,rfl]
   have ZI:=PySem.F.called_set.init.lookup;have ZJ:=PySem.F.called_set.init.bind (.ref s.heap.objs.size)
   repeat (any_goals (first|assumption|wp_step))
   show RL (codeAny_call_builtin (R:=wants (λr D=>r=.none/\∃h' d,D={s with heap:=h',toks:=d} /\
     gB prog w h' s.heap.objs.size (d6 w) (bg ys) /\
     (∀b o,b<s.heap.objs.size->s.heap.get? b=a5 o->h'.get? b=a5 o)) E) PySem.F.called_set.init.plain PySem.F.entry_set_init (check_set_init_1 O ?_)) λY D p=>?_
   .have(ol,PQ,H):=J;have(Xq,PR,PU,N5):=ol;simp only at H;subst H;have Th:(s.heap.push (rN (d6 w))).get? l=a5 {cls:=.type T,dict:=PR,data:=PU,slots:=N5}:=c4 _ PQ;have ZK:À {s with heap:=s.heap.push (rN (d6 w))} (.ref l) T:=#[_,Th,rfl]
    unfold SQ.«set.__init__» noKeywords Ã;generalize Xr:Zo=PI
    wp_walk
    subst Xr;show j {s with heap:=s.heap.push (rN (d6 w))} _ _ rfl (λb o e=>c4 _ e) (by rw[SR];show L6 _) λI k m G P St a W hG hf Xs N4 IB hk=>?_;show cL (ĉ ?_);show jj W s.heap.objs.size hf (d6 w) ys rfl N4 L (ys.length - 0) 0 _ ⋯ (mh _) IB (rM (hk _ _ C)) ?_;intro s' f q;have(h',g',d',Xt,Ss):=s';have eg:g'=s.gens:=hG _ _ f.gens;have ed:d'=s.drawn:=f.drawn;have eo:Ss=s.os:=f.os;subst eg;subst ed;subst eo;change gm _ _ _ _ _ _;show fx ?_;change gm _ _ (ret rz) _ _ _;show fx #[rfl,h',Xt,rfl,q,λb o u e=>?_];show f.heap b o (λz=>by
     rcases gj.mp z with z|z
     .rw[z]at u;show vl _ u
     .show absurd (Xs b z) (Ç u)) (hk _ _ (c4 _ e))
   .cases Y with
    |error e=>show p
    |ok Xu =>
     cases Xu with
     |ret r =>
      have(rfl,h',d,rfl,q,Ju):=p
      repeat (any_goals (first|assumption|wp_step))
      show h _ _ q Ju
     |_=>show p.elim
  |_=>show n.elim
end
section
theorem oA:∀{vs:List dr}{ss:List Str},RM vs ss->∀(i:Nat) (v:dr),vs[i]?=a5 v->∃x t,ss[i]?=a5 x/\v=.str x t
 |_,_,.nil,i,v,h=>by simp at h
 |_,_,.cons x t h,0,v,e=>by simp at e;show#[x,t,rfl,e.symm]
 |_,_,.cons x t h,i+1,v,e=>by rw[OI]at e;rw[OI];show oA h i v e
theorem kW:∀{vs:List dr}{ss:List Str},RM vs ss->vs.length=ss.length
 |_,_,.nil=>rfl
 |_,_,.cons x t h=>by simp[kW h]
def tN(a:n≠S)(b:n≠l):n∉[S,l]:=by simp[a,b]
def kX(g:A.handled=bD)(hl:s.heap.IsList l vs.toArray)(d:RM vs ys)(a:ys.length+1<Ln)
  (h:∀(h':Km) (j:Nat),gB prog w h' s.heap.objs.size (d6 w) (bg ys)->(∀b o,b<s.heap.objs.size->s.heap.get? b=a5 o->h'.get? b=a5 o)->Q (.ref s.heap.objs.size) {s with heap:=h',toks:=j}) :
  gm (i4 prog w) A (MN (.type "set") [.ref l]) Q E s:=by
 have f:l<s.heap.objs.size:=let ⟨o,ho,_⟩:=hl;i5 ho;show iB hl.typeIs PySem.F.sub_list_set PySem.F.sub_list_frozenset (by decide) a (λs1 B Q' k hk c m=>?_) h;have Lu:s1.heap.IsList l vs.toArray:=let ⟨o,ho,r⟩:=hl;⟨o,hk _ _ ho,r⟩;show VN Lu ?_;have n:l≠s1.heap.objs.size:=i9 (UE f c);have W:=(ò (prog:=prog) (w:=w) (A:=B.in1) (by simp[k,g]) s1.heap.objs.size l n vs.toArray).toS;have p:vs.toArray.size=ys.length:=by simp[kW d]
 rw[p]at W;show m _ _ _ _ _ _ _ W (λ_ _ e=>e) (tN (i9 c) (Ll f)) (λb a=>by rw[i8.mp a];show c) (λi v q=>oA d i v (by simpa using q)) ⟨⟨_,hW _ rfl,rfl,rfl⟩,Lu.push _⟩ λb o e=>c4 _ e
def mH(g:A.handled=bD)(hl:s.heap.IsTuple l vs.toArray)(d:RM vs ys)(a:ys.length+1<Ln)
  (h:∀(h':Km) (j:Nat),gB prog w h' s.heap.objs.size (d6 w) (bg ys)->(∀b o,b<s.heap.objs.size->s.heap.get? b=a5 o->h'.get? b=a5 o)->Q (.ref s.heap.objs.size) {s with heap:=h',toks:=j}) :
  gm (i4 prog w) A (MN (.type "set") [.ref l]) Q E s:=by
 have f:l<s.heap.objs.size:=let ⟨o,ho,_⟩:=hl;i5 ho;show iB hl.typeIs sub_tuple_set sub_tuple_frozenset (by decide) a (λs1 B Q' k hk c m=>?_) h;have Lu:s1.heap.IsTuple l vs.toArray:=let ⟨o,ho,r⟩:=hl;⟨o,hk _ _ ho,r⟩;show Pb Lu ?_;have n:l≠s1.heap.objs.size:=i9 (UE f c);have W:=(Walks.tuple (prog:=prog) (w:=w) (A:=B.in1) (by simp[k,g]) s1.heap.objs.size l n vs.toArray).toS;have p:vs.toArray.size=ys.length:=by simp[kW d]
 rw[p]at W;show m _ _ _ _ _ _ _ W (λ_ _ e=>e) (tN (i9 c) (Ll f)) (λb a=>by rw[i8.mp a];show c) (λi v q=>oA d i v (by simpa using q)) ⟨⟨_,hW _ rfl,rfl,rfl⟩,let ⟨o,ho,r⟩:=Lu;⟨o,c4 _ ho,r⟩⟩ λb o e=>c4 _ e
end
namespace SI
end SI
section
end
section
end
section
end
section
end
section
end
section
def oB(i:X.calm=a8)(I:Inv X c σ H s)(hq:Jk X.K H p (ys.map V.str)\/Ji X.K H p (ys.map V.str))(f:ys.length+1<Ln)
  (h:∀(S:dt) (h':Km) (a:Nat),gB X.prog X.w h' S (d6 X.w) (bg ys)->Inv X c σ H {s with heap:=h',toks:=a}->Q (.ref S) {s with heap:=h',toks:=a}) :
  gm (i4 X.prog X.w) X.A (MN (.type "set") [.ref p]) Q X.xe s:=by
 have g:X.A.handled=bD:=I.ok.hd i;rcases hq with hq|hq
 .have(j,rv,pl,hz):=I.list hq;show kX g pl.isList (dR rv) f λh' a d k=>h _ h' a d (I.kept λb o e=>k b o (i5 e) e)
 .have(j,rv,pl,hz):=I.tuple hq;show mH g pl (dR rv) f λh' a d k=>h _ h' a d (I.kept λb o e=>k b o (i5 e) e)
def rO(I:Inv X a σ H s)(c:gB X.prog X.w s.heap S (d6 X.w) D)
  (q:Q (.int D.length) H):gm (i4 X.prog X.w) X.A (MN (.builtin "len") [.ref S]) (EP X a σ Q) X.xe s:=by
 have(L,es,ep,t,ho,d,g,j,h,i,k,l):=c;have b:es.size=D.length:=by rw[<-rr,d,cN,<-cN (f:=Ï) (as:=L),g.length_eq]
 have m:es.size<4096:=i;show call_len_set ho #[rfl,rfl,rfl] rfl h ⋯ ?_;show#[.int es.size,_,I.kept (t':=s.toks+1+1) (λ_ _ e=>e),#[_,rfl],by rw[b];show q]
end
def rP:Xm (.type "list_reverseiterator") "__len__"=pure bD:=by rw[þ,Z2];kernel_rfl
def xU:Xm (.type "list_reverseiterator") "__length_hint__"=pure (a5 (.builtin "list_reverseiterator.__length_hint__")):=by rw[þ,Z2];kernel_rfl
def oC:T_ (.type "list_reverseiterator") (.type "list_reverseiterator")=pure a8:=by rw[Qb];kernel_rfl
section
variable{I:dt}{fp wr:List dt}{G:Array Â->Array Â->Prop}{n:Nat}{P:Nat->dr->Prop}{St:Nat->hQ->Prop}
def rQ(W:Ø prog w A.in1 I fp wr G n P St)(c:∀i s,St i s->s.TypeIs (.ref I) "list_reverseiterator")(S:dt)(res:dr)(j:Nat)(a:St 0 s)(h:S∉fp)(k:I∈fp)
  (l:s.heap.get? S=a5 {cls:=.type "list",data:=.seq #v[] j})
  (m:∀s' d b,Moved (S::wr) G s s'->s'.heap.get? S=a5 {cls:=.type "list",dict:=bD,data:=.seq d b,slots:=#v[]}->ê P d n->R (.ok (.ret res)) s') (o:n<=cK) :
  gm (i4 prog w) A.in1 (x4 (.ref S) (.ref I) res)
   (λg s'=>match g with|.done f=>R (.ok f) s'|.again b=>b.quiet=a8/\O' (i4 prog w) A b R s') (λe s'=>R (.error e) s') s:=by
 have p:S≠I:=λe=>h (e▸k);unfold x4;show cL (SE (c 0 _ a) ?_);have q:Uh (.ref S) (.ref I)=b6:=by simp[Uh,p]
 have r:(y0 "list_reverseiterator"==y0 "list")=b6:=by decide
 have t:(y0 "list_reverseiterator"==y0 "tuple")=b6:=by decide
 simp only[q,r,t,Þ,TL,if_false];show cL (W.self 0 _ _ _ a ?_);show cL (zc ?_);unfold Ă;show cL (WR (c 0 _ a) rP ?_);change gm _ A.in1 (specialOf (kl I) (Pk "__length_hint__") >>= _) _ _ _;show cL (WR (c 0 _ a) xU ?_);have u:splitId "list_reverseiterator.__length_hint__"=a5 ("list_reverseiterator","__length_hint__"):=by decide +kernel
 dsimp only
 rw[u]
 dsimp only
 show cL (î (c 0 _ a) oC ?_);rw[Ě (by decide)];rw[ę (by decide +kernel)];rw[Ě (by decide +kernel)];show fx ?_;rw[Ě (by decide +kernel)];show fx #[YS PySem.F.plain_extend_loop _,codeAny_extend_loopS W o _ h _ n 0 _ _ _ rfl (mh _) a l (ItemsOf.nil P) λs' d b v x y=>?_];show m s' d b v x y
def mI(W:Ø prog w A.in1 I fp wr G n P St)(p:∀i s,St i s->s.TypeIs (.ref I) "list_reverseiterator")(S:dt)(q:St 0 s)(l:S∉fp)(r:I∈fp)
  (g:s.heap.get? S=a5 {cls:=.type "list",data:=.seq #v[]})
  (t:∀s' d a,Moved (S::wr) G s s'->s'.heap.get? S=a5 {cls:=.type "list",dict:=bD,data:=.seq d a,slots:=#v[]}->ê P d n->R (.ok (.ret .none)) s') (u:n<=cK) :
  gm (i4 prog w) A.in1 (SQ.«list.__init__» ⟨[.ref S,.ref I],[]⟩)
   (λj s'=>match j with|.done f=>R (.ok f) s'|.again a=>a.quiet=a8/\O' (i4 prog w) A a R s') (λe s'=>R (.error e) s') s:=by
 change gm _ A.in1 (do let k <-U4 (.ref S);ā (.ref S) (λ_=>#v[]);letGo k.toList.reverse;x4 (.ref S) (.ref I) .none) _ _ s;show cL ?_;unfold U4;show cL (Xl g rfl (fx ?_));change gm _ A.in1 (updateSeq S (λ_=>#v[]) >>= λ_=>letGo (#v[]:Array dr).toList.reverse >>= λ_=>x4 (.ref S) (.ref I) .none) _ _ s;show cL (WQ g rfl ?_);have v:=MV (r3 (λ_=>(#v[]:Array dr))) g rfl;have m:∀b o,b≠S->s.heap.get? b=a5 o->(s.heap.update S (r3 (λ_=>(#v[]:Array dr)))).get? b=a5 o :=
  λb o c e=>(Sa _ _ (pq c)).trans e
 show cL (wpAny_letGo ?_);show rQ W p S .none _ (W.frame 0 s _ s.toks q (hY _) λb c o e=>m b o (λh=>l (h▸c)) e) l r v (λs' d a x y z=>?_) u;show t s' d a (é W.gtrans ((Moved.refl W.grefl).then_heap (hY _) λb o c e=>m b o (λh=>c (h▸k9)) e) x) y z
def pY(W:Ø prog w A.in1.in1 I fp wr G n P St)(h:∀i s,St i s->s.TypeIs (.ref I) "list_reverseiterator")(j:St 0 s)(k:∀b∈fp,b<s.heap.objs.size)(l:I∈fp)
  (m:∀s' a c,Moved (s.heap.objs.size::wr) G {s with heap:=s.heap.push {cls:=.type "list",data:=.seq #v[]}} s' ->
   s'.heap.get? s.heap.objs.size=a5 {cls:=.type "list",dict:=bD,data:=.seq a c,slots:=#v[]}->ê P a n->Q (.ref s.heap.objs.size) s') (p:n<=cK) :
  gm (i4 prog w) A (MN (.type "list") [.ref I]) Q E s:=by
 have q:s.heap.objs.size∉fp:=λd=>vl _ (k _ d);show callType_codes (Q₁:=λobj f=>obj=.ref s.heap.objs.size/\f={s with heap:=s.heap.push {cls:=.type "list",data:=.seq #v[]}}) PySem.F.called_list (PySem.F.typeCall_list_1 _) PySem.F.entry_list_init
  (code_list_new _ #[rfl,rfl]) λobj f r=>?_
 have(rfl,rfl):=r;have g:(s.heap.push {cls:=.type "list",data:=.seq #v[]}).get? s.heap.objs.size=a5 {cls:=.type "list",data:=.seq #v[]}:=hW _ rfl;show#[#[_,g,rfl],PySem.F.args_list_init_2 _ _,mI W h _ (W.frame 0 s _ s.toks j (hY _) λb _ o e=>c4 _ e) q l g (λs' a c d t u=>?_) p];show#[rfl,m s' a c d t u]
open AutoSeq1 (wpAny_loadPart') in
end
end L2
namespace L2
open PySem PySem.Spec PyProof.Rows
section
def iC(a:s.heap.IsTupleIter it l i)
  (hl:s.heap.IsTuple l b) (d:b[i]?=a5 x)
  (e:∀h',h'.IsTupleIter it l (i+1)->K2 it s.heap h'->Q x {s with heap:=h' }) :
  gm (i4 prog w) A (IT (.ref it)) Q E s:=by
 have(o,ho,f,c):=id a;have(j,g,_,k,h):=hl;unfold IT;show cL (Mr (name:=Pk "__next__") a.typeIs PySem.F.slot_tuple_iterator_next
  (Mi PySem.F.slot_tuple_iterator_next a.typeIs PySem.F.entry_tuple_iterator_next ?_ (PySem.F.args_tuple_iterator_next_1 _)))
 change gm _ _ (Ď (.ref it) 0 >>= _) _ _ s;show cL (PH ho c (x:=.ref l) rfl ?_);change gm _ _ (if (kl l==rz)=a8 then _ else _) _ _ s;rw[Ě (show ¬((kl l==rz)=a8) from i6)];change gm _ _ (Ď (.ref it) 1 >>= _) _ _ s;show cL (PH ho c (x:=.int i 0) rfl ?_);change gm _ _ (seqItems? (.ref l) >>= _) _ _ s;show cL (Xl g h ?_);simp only[Lm,d];show cL (Ĉ ho c (by simp) (fx #[x,rfl,fx (e _ ?_ (Po ..))]));show#[_,MV _ ho (Obj.isFreed_of_fields (Zr c _)),(Obj.cls_mapFields ..).trans f,by
  rw[Zr c];simp[Õ]]
def eI(f:A.handled=bD)
  (b:s.heap.IsTupleIter it l i) (hl:s.heap.IsTuple l c) (g:c[i]?=bD)
  (h:∀h' e,XU it s.heap h'->(∃o,h'.get? e=a5 o/\o.cls=.type "StopIteration")->E (.ref e) {s with heap:=h' }) :
  gm (i4 prog w) A (IT (.ref it)) Q E s:=by
 have(o,ho,n,d):=id b;have(p,j,_,q,k):=hl;unfold IT;show cL (Mr (name:=Pk "__next__") b.typeIs PySem.F.slot_tuple_iterator_next
  (Mi PySem.F.slot_tuple_iterator_next b.typeIs PySem.F.entry_tuple_iterator_next ?_ (PySem.F.args_tuple_iterator_next_1 _)))
 change gm _ _ (Ď (.ref it) 0 >>= _) _ _ s;show cL (PH ho d (x:=.ref l) rfl ?_);change gm _ _ (if (kl l==rz)=a8 then _ else _) _ _ s;rw[Ě (show ¬((kl l==rz)=a8) from i6)];change gm _ _ (Ď (.ref it) 1 >>= _) _ _ s;show cL (PH ho d (x:=.int i 0) rfl ?_);change gm _ _ (seqItems? (.ref l) >>= _) _ _ s;show cL (Xl j k ?_);simp only[Lm,g];show cL (RU (cL (Ĉ ho d (by simp) ?_)));change gm _ _ (newExc (.type "StopIteration") [] >>= _) _ _ _;show cL ?_;simp only[newExc,newTuple];show cL (LZ ?_ (by size_fits));show cL (m:=č _ _) (wpAny_of_eq (a:=rz) (by first|rfl|(simp only[č];rfl)) ?_);show LZ ?_ (by size_fits);simp only[raiseNew];show cL (wpAny_handled ?_)
 first|rw[show A.in1.handled=bD from f]|rw[f]
 show cL (fx (wpAny_throw ?_));show h _ _ (((Po ..).extBut.push _).push _) #[_,hW _ rfl,rfl]
end
def pZ(c:A.handled=bD)(it l:dt)(d:l≠it)(a:Array dr):
  Draws prog w A it [it,l] a.size (λi v=>a[i]?=a5 v) (λi h=>h.IsTupleIter it l i/\h.IsTuple l a) where
 live:=λ_ _ st=>let ⟨o,ho,_⟩:=st.1;⟨o,ho⟩
 frame:=λ_ _ _ st hk=>#[st.1.at λo e=>hk it (by simp) o e,let ⟨o,ho,r⟩:=st.2;⟨o,hk l (by simp) o ho,r⟩]
 item:=λi s Q E hi st f=>by
  show iC st.1 st.2 (x:=a[i]) (by simp[hi]) λh' g b=>?_;show f _ h' s.toks (by simp[hi]) #[g,let ⟨o,ho,r⟩:=st.2;⟨o,(b.2 l d).trans ho,r⟩] b
 done:=λs Q E st j=>eI c st.1 st.2 (by simp) j
open AutoSeq1 (wpAny_loadPart') in
def kY(l:dt)(a:Array dr)(n:Nat)(e:Option dt)(f:Array (Option dr)):
  Meets (SQ.«enumerate.__new__» ⟨[.type "enumerate",.ref l],[]⟩) (λ_ R s=>s.heap.get? l=a5 {cls:=.type "tuple",dict:=e,data:=.seq a n,slots:=f} /\
   R (.ok (.ret (.ref (s.heap.push {cls:=.type "tuple_iterator",data:=.fields #v[.ref l,.int 0 0]}).objs.size)))
    {s with heap:=(s.heap.push {cls:=.type "tuple_iterator",data:=.fields #v[.ref l,.int 0 0]}).push {cls:=.type "enumerate",data:=.fields #v[.none,.bool b6,.ref s.heap.objs.size,Õ 0,.none,.none]}}) :=
 .of_wp λprog w A R s h=>by
  have(i,g,d,j,os):=s;have(hl,h):=h;have k:=sub_enumerate;have b:Heap.IsTuple (Shared.heap #[i,g,d,j,os]) l a:=#[_,hl,rfl,n,rfl]
  wp_walk using SV hl
  show wpAny_stack_any λst=>fx ?_;split
  .rename_i c _ _ _ _ _;cases(c==y0 "enumerate")
   .wp_walk using SV hl,Pb b
    show#[_,rfl,h]
   .wp_walk using SV hl,Pb b
    show#[_,rfl,h]
  .wp_walk using SV hl,Pb b
   show#[_,rfl,h]
section
def fM(g:s.heap.IsTuple l a)
  (h:∀h',Zs h' (s.heap.objs.size+1) s.heap.objs.size 0 .none->h'.IsTupleIter s.heap.objs.size l 0->h'.objs.size=s.heap.objs.size+2 ->
   (∀b o,s.heap.get? b=a5 o->h'.get? b=a5 o)->Q (.ref (s.heap.objs.size+1)) {s with heap:=h' }) :
  gm (i4 prog w) A (MN (.type "enumerate") [.ref l]) Q E s:=by
 have((c,i,j,k),hl,d,n,e):=g
 replace d:c=.type "tuple":=d
 replace e:j=.seq a n:=e
 subst d e;show callType_new PySem.F.called_enumerate (by decide) (PySem.F.typeCall_enumerate_1 _) (PySem.F.newCall_enumerate_1 _) (λobj=>PySem.F.args_object_init_2 obj _) PySem.F.entry_enumerate_new
  (kY l a n i k) #[hl,?_]
 have hz:(s.heap.push {cls:=.type "tuple_iterator",data:=.fields #v[.ref l,.int 0 0]}).objs.size=s.heap.objs.size+1:=L5 ..;change _/\_;rw[hz];have f:Zs ((s.heap.push {cls:=.type "tuple_iterator",data:=.fields #v[.ref l,.int 0 0]}).push
   {cls:=.type "enumerate",data:=.fields #v[.none,.bool b6,.ref s.heap.objs.size,Õ 0,.none,.none]}) (s.heap.objs.size+1) s.heap.objs.size 0 .none:=by
  have:=hW (s.heap.push {cls:=.type "tuple_iterator",data:=.fields #v[.ref l,.int 0 0]})
   (o:={cls:=.type "enumerate",data:=.fields #v[.none,.bool b6,.ref s.heap.objs.size,Õ 0,.none,.none]}) rfl
  rw[hz]at this;show this
 show#[#[_,f,rfl],h _ f #[_,c4 _ (hW _ rfl),rfl,rfl] (by rw[L5,hz]) λb o x=>c4 _ (c4 _ x)]
end
end L2
namespace L2
open PySem PySem.Spec PyProof.Rows
section
def Inv.tP{ch:List dt}(I:Inv X a σ H s)(f:∀b∈ch,gN X a H b)(k:∀b o,b∉ch->s.heap.get? b=a5 o->h'.get? b=a5 o):Inv X a σ H {s with heap:=h',toks:=t' }:=by
 have g:∀b u,H b=a5 u->b∉ch:=λb u e z=>by rw[(f b z).1]at e;cases e
 show I.step (g':=s.gens) (d':=s.drawn) (ch:=ch) (λb h=>?_) (λb o _ _ d e _=>k b o d e) (λb o _ _ d e _=>#[o.slots,k b o d e]) (λ_ _ _ _ n=>n)
  (λb o d e=>#[o,k b o d e]) (λ_ _ e=>e) (λ_ _ _ e=>e) (λb ps e=>#[#v[],by rw[e];simp]) (λm i=>?_) (λb u e=>?_) I.bare
 .have(w,j,x,l,p,t):=f b h;show#[l,j,p,t]
 .have(o,es,ep,ho,r):=i;show#[o,es,ep,k _ o (λz=>(f _ z).2.1 rfl) ho,r]
 .show(I.IE b u e).nS (λc v d q=>k c v ?_ q) (λ_ q=>q) λ_ _ q=>q;rcases d with z|z
  .rw[z];show g b u e
  .show g c _ z
def Inv.rR{ch:List dt}(I:Inv X a σ H s)(h:∀b∈ch,gN X a H b)(k:∀b o,b∉ch->s.heap.get? b=a5 o->h'.get? b=a5 o)(i:s.heap.objs.size<=T)(new:bR X.prog X.w (upd H T o) h' T o):
  Inv X a σ (upd H T o) {s with heap:=h',toks:=t' }:=by
 have j:Inv X a σ H {s with heap:=h',toks:=t' }:=I.tP h k;have l:H T=bD:=I.IE.fresh i;have p:∀b o,s.heap.get? b=a5 o->b≠T:=λb o e z=>by rw[z]at e;show absurd (ku (i5 e) i) (vl _)
 have d:∀b u,H b=a5 u->b≠T:=λb u e z=>by rw[z,l]at e;cases e
 show I.step (g':=s.gens) (d':=s.drawn) (ch:=ch) (λb g=>?_) (λb o _ _ f e _=>k b o f e) (λb o _ _ f e _=>#[o.slots,k b o f e]) (λb o _ e n=>by rw[ai (p b o e)];show n)
  (λb o f e=>#[o,k b o f e]) (λb _ e=>by rw[ai (d b _ e)];show e) (λb _ _ e=>by rw[ai (d b _ e)];show e) (λb ps e=>#[#v[],by rw[ai (d b _ e),e];simp]) (λm t=>?_) (λb u e=>?_) I.bare
 .have(C,x,D,y,A,B):=h b g;show#[y,x,A,B]
 .have(o,es,ep,ho,r):=t;show#[o,es,ep,k _ o (λz=>(h _ z).2.1 rfl) ho,r]
 .by_cases g:b=T
  .subst g;rw[aj]at e;cases e;show new
  .rw[ai g]at e;show(j.IE b u e).nS (λc v _ q=>q) (λc q=>by rw[ai (d c _ q)];show q) λc xs q=>by rw[ai (d c _ q)];show q
end
abbrev OR(a:Hp->List V->Prop):It :=
 #[λi H=>∃xs x,a H xs/\xs[i]?=a5 x,λi H x H'=>∃p,H p=bD/\x=.ref p/\∀xs v,a H xs->xs[i]?=a5 v->H'=upd H p (.tup [.int i,v]),λi H=>∃xs,a H xs/\xs.length<=i]
def mZ{K:PySem.W.Frag}(r:Hp->List V->Prop)(a e it:dt)(N:e≠it)(At:Nat->Km->Prop)(t:Km->Array dr->Prop)
  (J7:∀i h h',At i h->(∀o,h.get? it=a5 o->h'.get? it=a5 o)->At i h') (Vn:∀i h,At i h->∃o,h.get? it=a5 o/\∀v,o.data≠.cell v)
  (N9:∀(X:Cx) (d:List (dt×Obj)) (s:hQ) (σ:St) (H:Hp) (xs:List V),X.K=K->Inv X d σ H s->r H xs->∃l:List dr,Vals xs l/\t s.heap l.toArray)
  (Tn:∀(X:Cx) (d:List (dt×Obj)) (s:hQ) (σ:St) (H:Hp) (xs ys:List V),X.K=K->Inv X d σ H s->r H xs->r H ys->xs=ys)
  (Xy:∀h c i f,t h c->Zs h e it i f->e≠a)
  (hD:∀(A:Mx) (c:Array dr),A.handled=bD->Draws P w A it [it,a] c.size (λi v=>c[i]?=a5 v) (λi h=>At i h/\t h c))
  (M0:∀(A:Mx) (s:hQ) (i:Nat) (c:Array dr) (Q:dr->hQ->Prop) (E:dr->hQ->Prop),A.handled=bD->At i s.heap->t s.heap c->c[i]?=bD ->
   (∀h' x,XU it s.heap h'->(∃o,h'.get? x=a5 o/\o.cls=.type "StopIteration")->E (.ref x) {s with heap:=h' })->gm (i4 P w) A (IT (.ref it)) Q E s) :
  Turn P w K (.Tuple es kx ps) (OR r) [e,it] e (λi h=>(∃f,Zs h e it i f)/\At i h) where
 mem:=by simp
 obj:=λi h st b g=>by
  have((f,j),hl):=st;rcases gj.mp g with z|z
  .rw[z];show#[_,j,λv z=>by
    have z':Vp _=Z3 v:=z;cases z']
  .rw[i8.mp z];show Vn i h hl
 keep:=λi h h' ⟨⟨f,j⟩,hl⟩ k=>#[#[f,k e (by simp) _ j],J7 i h h' hl λo q=>k it (by simp) o q]
 item:=by
  intro X O Y B hc i d s σ H E I C ⟨⟨f,j⟩,hl⟩ hg;subst O Y;have(xs,x,G,hx):=hg;have(l,rv,p):=N9 X d s σ H xs B I G;have(u,hu,ru):=rv.get hx;have Jm:i<l.toArray.size:=by simpa using(df.mp hu).1
  have D:=hD X.A.in1 l.toArray (by simpa using I.ok.hd hc);have To:=Xy _ _ _ _ p j;show wpAny_pyNext_enum_itemD D j #[hl,p] Jm N (by simp[N,To]) λy h1 m J ho st1 L hsz hk=>?_;have ey:y=u:=by
   have:l.toArray[i]?=a5 u:=by simpa using hu
   rw[this]at J;cases J;rfl
  subst ey;show#[_,rfl,wpAny_letOwnedTupleGo_enum (s:={s with heap:=h1,toks:=m+1}) ho λn Xz Ke=>?_];have Vo:e<s.heap.objs.size:=i5 j;have XA:n.get? s.heap.objs.size=a5 {cls:=.type "tuple",data:=.seq #v[.int i m,y]}:=(Ke.2 _ (Ll Vo)).trans L;have k2:∀b o,b∉[e,it]->s.heap.get? b=a5 o->n.get? b=a5 o:=λb o g q=>by
   simp only[gj,List.not_mem_nil,or_false,not_or]at g;show(Ke.2 b g.1).trans (hk b o g.1 g.2 q)
  have I2:Inv X d σ (upd H s.heap.objs.size (.tup [.int i,x])) {s with heap:=n,toks:=m+1}:=I.rR C k2 (hY _)
   (show bR X.prog X.w _ n _ (.tup [.int i,x]) from#[by change 2<=cK;decide,[.int i m,y],.cons #[m,rfl] (.cons ru .nil),#[_,XA,rfl,_,rfl]])
  show#[.ref s.heap.objs.size,_,I2,rfl,#[_,I.IE.fresh (hY _),rfl,λys v J hv=>?_],#[#[_,Xz],J7 (i+1) h1 n st1.1 λo q=>(Ke.2 it (pq N)).trans q],λb g=>?_]
  .have:=Tn X d s σ H ys xs B I J G;subst this;rw[hx]at hv;cases hv;rfl
  .have Lp:b≠s.heap.objs.size:=by
    rcases gj.mp g with z|z
    .rw[z];show i9 Vo
    .rw[i8.mp z];have(o,q,_):=Vn i _ hl;show i9 (i5 q)
   rw[ai Lp];show(C b g).1
 done:=by
  intro X O Y B hc i d s σ H E I C ⟨⟨f,j⟩,hl⟩ hg;subst O Y;have(xs,G,hx):=hg;have(l,rv,p):=N9 X d s σ H xs B I G;have ac:=rv.length;have L:s.TypeIs (.ref e) "enumerate":=#[_,j,rfl]
  unfold Ww;show cL (wpAny_attempt (Mr (name:=Pk "__next__") L PySem.F.slot_enumerate_next
   (Mi PySem.F.slot_enumerate_next L PySem.F.entry_enumerate_next ?_ (PySem.F.args_enumerate_next_1 _))))
  change gm _ _ (Ď (.ref e) 2 >>= _) _ _ _;show cL (PH j rfl (x:=.ref it) rfl ?_);show cL (M0 _ _ i l.toArray _ _ (by simpa using I.ok.hd hc) hl p (by simp;lia) λh' x XB SW=>?_);have(o,ho,MB):=SW;show cL (î (T:="StopIteration") (b:=a8) #[o,ho,MB] isSubtype_stop ?_);show fx #[rfl,I.tP (t':=s.toks) (ch:=[it]) (λb g=>C b (ko _ g)) λb o g q=>XB b o (λz=>g (by simp[z])) q]
 self:=λA i s Q E ⟨⟨f,j⟩,hl⟩ h=>VP j h
section
variable{X:Cx}{es:List lx}{kx:Nat}{ps p pos:Pos}
def vm:zr "enumerate"=a5 (.type "enumerate"):=by decide +kernel
abbrev HS(K:PySem.W.Frag)(c:TA):TI:=λσ H R=>c σ H λvs b=>∃a,vs=[.ref a]/\((∃xs,Jk K b a xs)/\R (OR λH xs=>Jk K H a xs) b\/(∃xs,Ji K b a xs)/\R (OR λH xs=>Ji K H a xs) b)
def DM(a e it:dt)(q:e≠it)(r:a≠it):Turn X.prog X.w X.K (.Tuple es kx ps) (OR λH xs=>Jk X.K H a xs) [e,it] e (λi h=>(∃c,Zs h e it i c)/\h.IsListIter it a i):=by
 show mZ _ a e it q (λi h=>h.IsListIter it a i) (λh b=>h.IsList a b) (λi h h' x k=>x.at k) (λi h ⟨o,ho,l,t⟩=>#[o,ho,λv z=>by rw[t]at z;cases z])
  (λY d s σ H xs g I m=>?_) (λY d s σ H xs ys g I f n=>?_) (λh b i c ⟨o,ho,l,_⟩ u z=>?_) (λA b j=>Draws.list j it a r b) (λA s i b Q E j hl y f B=>wpAny_nextOf_list_end j hl y f B)
 .rw[<-g]at m;have(C,rv,p,hz):=I.list m;show#[C,rv,p.isList]
 .rw[<-g]at f n;show I.pJ f n
 .rw[<-z,u]at ho;cases ho;have D:y0 "enumerate"=y0 "list":=l;show absurd D (by decide)
def DN(a e it:dt)(q:e≠it)(r:a≠it):Turn X.prog X.w X.K (.Tuple es kx ps) (OR λH xs=>Ji X.K H a xs) [e,it] e (λi h=>(∃c,Zs h e it i c)/\h.IsTupleIter it a i):=by
 show mZ _ a e it q (λi h=>h.IsTupleIter it a i) (λh b=>h.IsTuple a b) (λi h h' x k=>x.at k) (λi h ⟨o,ho,l,t⟩=>#[o,ho,λv z=>by rw[t]at z;cases z])
  (λY d s σ H xs g I m=>?_) (λY d s σ H xs ys g I f n=>?_) (λh b i c ⟨o,ho,l,_⟩ u z=>?_) (λA b j=>pZ j it a r b) (λA s i b Q E j hl y f B=>eI j hl y f B)
 .rw[<-g]at m;have(C,rv,p,hz):=I.tuple m;show#[C,rv,p]
 .rw[<-g]at f n;show I.mO f n
 .rw[<-z,u]at ho;cases ho;have D:y0 "enumerate"=y0 "tuple":=l;show absurd D (by decide)
def AM(n:Gl X "enumerate")(t:X.mg "enumerate"=bD)(v:PA X [a] w)(hs:il [a] X.env=[(b6,sL a X.env)]):PI X (.Tuple es kx ps) (.Call (.Name "enumerate" p) [a] [] pos) (HS X.K w):=by
 intro c s σ H R I h;show Call_ (dQ I n t vm (Hf (ID (v pos c s σ H _ I h) λus s1 ⟨vs,j,d,r1,x⟩=>?_) hs rfl));have(a',e,q):=x;subst e;have(u,rfl,r):=vals1 r1;cases r;have f:s1.heap.objs.size+1≠s1.heap.objs.size:=Nat.succ_ne_self _;have g:∀(h':Km),(∀b∈[s1.heap.objs.size+1,s1.heap.objs.size],gN X c j b):=λh' b y=>by
  have m:s1.heap.objs.size<=b:=by
   rcases gj.mp y with z|z
   .rw[z];show Qq _
   .rw[i8.mp z];show hY _
  show d.xl m (d.IE.fresh m)
 rcases q with⟨⟨xs,k⟩,q⟩|⟨⟨xs,k⟩,q⟩
 .have(A,rv,p,hz):=d.list k;have l:a'<s1.heap.objs.size:=let ⟨o,ho,_⟩:=p.isList;i5 ho;show call_enumerate_list p.isList λh' i hl hsz hk=>?_;show VP i #[_,[s1.heap.objs.size+1,s1.heap.objs.size],_,_,j,rfl,d.kept (t':=s1.toks) hk,DM a' _ _ f (i9 l),#[#[_,i],hl],g h',q]
 .have(A,rv,p,hz):=d.tuple k;have l:a'<s1.heap.objs.size:=let ⟨o,ho,_⟩:=p;i5 ho;show fM p λh' i hl hsz hk=>?_;show VP i #[_,[s1.heap.objs.size+1,s1.heap.objs.size],_,_,j,rfl,d.kept (t':=s1.toks) hk,DN a' _ _ f (i9 l),#[#[_,i],hl],g h',q]
end
def AN{b:List dr}(h:ê (λi v=>b.toArray[b.toArray.size - 1 - i]?=a5 v) a b.toArray.size):a.toList=b.reverse:=by
 apply Uj;intro i;have hs:a.size=b.length:=by have:=h.1;simpa using this
 by_cases hi:i<b.length
 .have c:i<a.size:=by lia
  have:=h.2 i (a[i]'c) (by simp[c]);rw[Su,Array.getElem?_eq_getElem c,List.getElem?_reverse hi];simpa using this.symm
 .rw[XR (by rw[rr];lia),XR (by rw[YZ];lia)]
section
def xV(j:X.calm=a8)(I:Inv X f σ H s)(k:Jk X.K H a xs)
  (h:∀c,Vals xs c->xs.length<=cK->∀(R:dt) (d:Km),R=s.heap.objs.size->d.objs.size=s.heap.objs.size+1->(∀b o,s.heap.get? b=a5 o->d.get? b=a5 o)->(∀B:Mx,B.handled=X.A.handled ->
   Walks X.prog X.w B R [R,a] [R] c.toArray.size (λi v=>c.toArray[c.toArray.size - 1 - i]?=a5 v) (λi h=>i<=c.toArray.size/\h.IsRevIter R a ((c.toArray.size:Int) - 1 - (i:Int))/\h.IsList a c.toArray)) ->
   d.IsRevIter R a ((c.toArray.size:Int) - 1 - ((0:Nat):Int))->d.IsList a c.toArray->a<s.heap.objs.size->Q (.ref R) {s with heap:=d}):gm (i4 X.prog X.w) X.A (MN (.type "reversed") [.ref a]) Q X.xe s:=by
 have(c,rv,p,hz):=I.list k;have g:a<s.heap.objs.size:=let ⟨o,ho,_⟩:=p.isList;i5 ho;show call_reversed_list p.isList (h c rv hz _ _ rfl (by rw[SR]) (λb o e=>c4 _ e) (λB l=>Walks.listRev (by rw[l];show I.ok.hd j) _ a (i9 g) c.toArray) ?_ (p.isList.push _) g);show#[_,hW _ rfl,rfl,?_];change Vp _=Vp _;congr 3
 simp
def xW(r:X.calm=a8)(I:Inv X c σ H s)(t:Jk X.K H a xs)(q:∀l,H l=bD->Q (.ref l) (upd H l (.lst xs.reverse))):
  gm (i4 X.prog X.w) X.A (MN (.type "reversed") [.ref a]) (λv s1=>gm (i4 X.prog X.w) X.A (MN (.type "list") [v]) (EP X c σ Q) X.xe s1) X.xe s:=by
 show xV r I t λj rv hz R d k hsz hk u x hl y=>?_;have el:j.length=xs.length:=rv.length.symm;show pY (s:={s with heap:=d}) (u X.A.in1.in1 rfl).toS (λi s st=>st.2.1.typeIs) ⟨mh _,x,hl⟩ (λb f=>?_) (by simp) (λs' h m g B C=>?_) (by simp;lia)
 .change b<d.objs.size;rw[hsz];rcases gj.mp f with z|z
  .rw[z,k];show L6 _
  .rw[i8.mp z];show Pp y
 .have(n,D,G,J,o2):=s';have L:D=s.gens:=g.gens;have N:G=s.drawn:=g.drawn;have O:o2=s.os:=g.os;subst L N O;have k2:∀b o,s.heap.get? b=a5 o->n.get? b=a5 o:=λb o e=>g.heap b o (λz=>by
   have f:=i5 e;rcases gj.mp z with z|z
   .rw[z]at f;have p:d.objs.size<s.heap.objs.size:=f;rw[hsz]at p;show absurd p (Ç (L6 _))
   .rw[i8.mp z,k]at e;show absurd (i5 e) (vl _)) (c4 _ (hk b o e))
  have T:=AN C;show#[.ref d.objs.size,_,I.laid (t':=J) (o:=.lst xs.reverse) k2 (by rw[hsz];show Qq _) #[by rw[YZ];show hz,j.reverse,m,rv.reverse,?_],rfl,q _ (I.IE.fresh (by rw[hsz];show Qq _))];have Y:n.get? d.objs.size=a5 {cls:=.type "list",dict:=bD,data:=.seq h m,slots:=#v[]}:=B;rw[Y,<-T,XS]
end
def vn(l:dt)(a:Array dr)(n:Nat)(b:dt)(c:Array dr)(e:Nat)(dd:Option dt)(f:Array (Option dr))(o:¬(!a.isEmpty&&KI (a.size+c.size))=a8)(i:a.size<=cK)(j:a.size+c.size<=cK+1):
  Meets (SQ.«list.extend» ⟨[.ref l,.ref b],[]⟩) (λ_ R s=>s.heap.get? l=a5 {cls:=.type "list",dict:=bD,data:=.seq a n,slots:=#v[]}/\s.heap.get? b=a5 {cls:=.type "list",dict:=dd,data:=.seq c e,slots:=f}/\R (.ok (.ret rz)) {s with heap:=s.heap.update l (r3 λx=>x++c),toks:=s.toks}) :=
 .of_wp λprog w A R s h=>by
  have(p,g,d,q,os):=s;have(hl,k,h):=h;have r:=X9;have t:=Vq;have u:=Wg;have v:=V9;have y:=Wd;
  have m:(a++c).size<=cK+1:=by rw[TQ];show j
  wp_walk using(WQ hl rfl (hz:=i) (_hz':=m)),NY hl,NY k;show#[_,rfl,h]
def vp(l:dt)(a:Array dr)(n:Nat)(b:dt)(c:Array dr)(e:Nat)(dd:Option dt)(f:Array (Option dr))(o:¬(!a.isEmpty&&KI (a.size+c.size))=a8)(i:a.size<=cK)(j:a.size+c.size<=cK+1):
  Meets (SQ.«list.extend» ⟨[.ref l,.ref b],[]⟩) (λ_ R s=>s.heap.get? l=a5 {cls:=.type "list",dict:=bD,data:=.seq a n,slots:=#v[]}/\s.heap.get? b=a5 {cls:=.type "tuple",dict:=dd,data:=.seq c e,slots:=f}/\R (.ok (.ret rz)) {s with heap:=s.heap.update l (r3 λx=>x++c),toks:=s.toks}) :=
 .of_wp λprog w A R s h=>by
  have(p,g,d,q,os):=s;have(hl,k,h):=h;have r:=X9;have t:=Vq;have u:=Wg;have v:=V9;have y:=Wd;
  have m:(a++c).size<=cK+1:=by rw[TQ];show j
  wp_walk using(WQ hl rfl (hz:=i) (_hz':=m)),NY hl,NY k;show#[_,rfl,h]
section
def rS:SD X "list.extend" (λx vs H Q=>∃l b xs c,x=.ref l/\vs=[.ref b]/\H l=a5 (.lst xs)/\(Jk X.K H b c\/Ji X.K H b c)/\xs.length+c.length<=cK/\Q .IC (upd H l (.lst (xs++c)))):=by
 intro f s σ H x vs v us Q I w rv h;have(l,b,xs,c,rfl,rfl,p,hB,hz,q):=h;cases w;have(u,rfl,y):=rv.one;cases y;have(z,d,n,r,hl,e):=I.Dx p;have g:∀a:List dr,Vals c a->EP X f σ Q rz {s with heap:=s.heap.update l (r3 λx=>x++a.toArray),toks:=s.toks}:=λa r2=>by
  show#[.IC,_,I.jg (its':=d++a) p e (by simp) (r.append r2) ?_,rfl,q];rw[j0];lia
 have k:∀a:List dr,c.length=a.length->d.toArray.size+a.toArray.size<=cK:=λa h=>by rw[hE,hE];lia
 have t:∀a:List dr,c.length=a.length->¬(!d.toArray.isEmpty&&KI (d.toArray.size+a.toArray.size))=a8:=λa h=>by
  rw[xB (k a h),Wv];show i6
 rcases hB with hB|hB
 .have(a,r2,pl,_):=I.list hB;have((cls,dd,data,m),ho,i,o,j):=pl.isList;simp only at i j;subst i j;have LJ:=r2.length;have A:=k a LJ;show Qw F.slot_list_extend #[_,e,rfl] F.entry_list_extend (F.args_list_extend_2 _ _) (vn l d.toArray n b a.toArray o dd m (t a LJ) ⋯ ⋯) #[e,ho,g a r2]
 .have(a,r2,pl,_):=I.tuple hB;have((cls,dd,data,m),ho,i,o,j):=pl;simp only at i j;subst i j;have LJ:=r2.length;have A:=k a LJ;show Qw F.slot_list_extend #[_,e,rfl] F.entry_list_extend (F.args_list_extend_2 _ _) (vp l d.toArray n b a.toArray o dd m (t a LJ) ⋯ ⋯) #[e,ho,g a r2]
end
end L2
namespace L2
open PySem PySem.W PyProof.Rows
abbrev gR{α:Type}(lt:Nat->Nat->Bool):KasT α->α
 |.ret x=>x
 |.ask i j k=>gR lt (k (lt i j))
def JY{α:Type}(n:Nat)(P:α->Prop):KasT α->Prop
 |.ret x=>P x
 |.ask i j k=>i<n/\j<n/\∀b,JY n P (k b)
theorem JY.OS{P:α->Prop}{Q:β->Prop}{f:α->KasT β}(a:∀x,P x->JY n Q (f x)):∀{t:KasT α},JY n P t->JY n Q (t.bind f)
 |.ret x,h=>a x h
 |.ask i j k,h=>#[h.1,h.2.1,λb=>JY.OS a (h.2.2 b)]
theorem JY.got:∀{t:KasT α},JY n P t->P (gR lt t)
 |.ret _,h=>h
 |.ask i j k,h=>JY.got (t:=k (lt i j)) (h.2.2 _)
theorem JY.wp(b:∀i j,i<n->j<n->∀C:Bool->hQ->Prop,C (lt i j) s->a i j C s):
  ∀{t:KasT α},JY n P t->Q (gR lt t) s->t.kasWp a Q s
 |.ret _,_,q=>q
 |.ask i j k,h,q=>b i j h.1 h.2.1 _ (JY.wp b (t:=k (lt i j)) (h.2.2 _) q)
abbrev Pm(n:Nat)(p:Array Nat):Prop:=p.toList.Perm (hH n)
section
variable{n:Nat}(hn:0<n)
include hn
def Pm.at(h:Pm n p)(i:Nat):p.getD i 0<n:=by
 by_cases hi:i<p.size
 .have:p.getD i 0=p[i]:=by simp[ý,hi]
  rw[this];have a:p[i]∈p.toList:=by simp
  show va.mp (h.mem_iff.mp a)
 .have:p.getD i 0=0:=by simp[ý,hi]
  rw[this];show hn
omit hn in
def Pm.rev(h:Pm n p)(i j:Nat):Pm n (kas_rev p i j):=(mirror_perm p i j _).toList.trans h
omit hn in
def Pm.XC(h:Pm n p)(i j:Nat):Pm n (bubble p i j):=(bubble_perm p i j).toList.trans h
theorem rT(h:Pm n p):∀(f m:Nat),JY n (λ_=>True) (kas_asc p f m)
 |0,m=>trivial
 |f+1,m=>#[h.at hn _,h.at hn _,λb=>by
  cases b
  .show rT h f (m+1)
  .show trivial]
theorem kb:∀(f:Nat) (p:Array Nat) (m q:Nat),Pm n p->JY n (λr=>Pm n r.1) (kas_desc f p m q)
 |0,p,m,q,h=>h
 |f+1,p,m,q,h=>#[h.at hn _,h.at hn _,λb=>by
  cases b
  .show#[h.at hn _,h.at hn _,λb=>by
    cases b
    .show kb f p (m+1) (q+1) h
    .show h]
  .change JY n _ (if q>0 then _ else _);split
   .show kb f _ _ _ (h.rev _ _)
   .show kb f _ _ _ h]
def tQ(h:Pm n p)(m r:Nat):JY n (λx=>Pm n x.2) (kas_tail3 m r p):=by
 unfold kas_tail3;show JY.OS (λx _=>?_) (rT hn (h.rev _ _) _ _);show h.rev _ _
def tR(h:Pm n p)(m r:Nat):JY n (λx=>Pm n x.2) (kas_descPart m r p):=by
 unfold kas_descPart;show JY.OS (λx a=>?_) (kb hn _ _ _ _ h);split
 .show tQ hn (a.rev _ _) _ _
 .show tQ hn a _ _
def xX(h:Pm n p)(r:Nat):JY n (λx=>Pm n x.2) (kas_count r p):=by
 unfold kas_count;show JY.OS (λm _=>?_) (rT hn h _ _);split
 .show h
 .split
  .show#[h.at hn _,h.at hn _,λb=>by
    cases b
    .show tR hn (h.rev _ _) _ _
    .show h]
  .show tR hn h _ _
theorem kZ(h:Pm n p)(k:Nat):∀(f l r:Nat),JY n (λ_=>True) (kas_place p k f l r)
 |0,l,r=>trivial
 |f+1,l,r=>by
  unfold kas_place;split
  .show trivial
  .show#[h.at hn _,h.at hn _,λb=>by
    cases b
    .show kZ h k f _ _
    .show kZ h k f _ _]
theorem xY:∀(f:Nat) (p:Array Nat) (k:Nat),Pm n p->JY n (Pm n) (kas_bin f p k)
 |0,p,k,h=>h
 |f+1,p,k,h=>JY.OS (λl _=>xY f _ _ (h.XC _ _)) (kZ hn h _ _ _ _)
def tS:JY n (Pm n) (Nl n):=by
 unfold Nl;show JY.OS (λx a=>?_) (xX hn (p:=List.toArray (hH n)) (by unfold Pm;simp) n);split
 .show xY hn _ _ _ a
 .show a
end
def k7(lt:Nat->Nat->Bool)(n:Nat):(gR lt (Nl n)).toList.Perm (hH n):=by
 cases n with
 |zero=>show List.Perm.refl _
 |succ n=>show(tS (Nat.succ_pos n)).got
section
def vq(ho:s.heap.get? a=a5 (zi "list" vs.toArray n))(l:vs.length<64)
  (m:2<=vs.length->∀s1:hQ,(∀b o,b≠a->s.heap.get? b=a5 o->s1.heap.get? b=a5 o)->gm (i4 prog w) A (keyKind' vs.toArray) (λκ s'=>s'=s1/\∀i j,i<vs.length->j<vs.length->∀C:Bool->hQ->Prop,C (lt i j) s1->ä prog w A κ vs i j C s1) (λ_ _=>False) s1)
  (h:P (.done (.ret .none)) {s with heap:=Û s.heap a vs (((gR lt (Nl vs.length)).toList.map λi=>vs.getD i rz).toArray)}) :
  gm (i4 prog w) A (SQ.«list.sort» ⟨[.ref a],[]⟩) P E s:=by
 have N:a<s.heap.objs.size:=i5 ho;have u:(64:Nat)<=cK:=by decide
 rw[list_sort_plain];show cL (ZC ho rfl (cL (Va ho rfl ?_ (by rw[hE];lia) (mh _))));obtain⟨k,q⟩:∃k,(s.heap.update a (r3 λ_=>(#v[]:Array dr))).get? a=a5 (zi "list" #v[] k):=#[_,ă ho λ_=>#v[]]
 show cL (Å q rfl (cL (wpAny_newTuple (cL (Yp (zc ?_) (mh _))) (by change vs.length<=_;lia))));have d:(((s.heap.update a (r3 λ_=>(#v[]:Array dr))).push (zi "tuple" vs.toArray 0)).push (zi "list" #v[] 0)).get? a=a5 (zi "list" #v[] k):=c4 _ (c4 _ q);have f:∀b o,b≠a->s.heap.get? b=a5 o->(((s.heap.update a (r3 λ_=>(#v[]:Array dr))).push (zi "tuple" vs.toArray 0)).push (zi "list" #v[] 0)).get? b=a5 o:=λb o y e =>
  c4 _ (c4 _ (by rw[YY _ _ _ _ y];show e))
 change gm (i4 prog w) A _ P E {s with heap:=((s.heap.update a (r3 λ_=>(#v[]:Array dr))).push (zi "tuple" vs.toArray 0)).push (zi "list" #v[] 0)}
 dsimp only
 have r:((gR lt (Nl vs.length)).toList.map λi=>vs.getD i rz).length=vs.length:=by rw[cN,(k7 lt _).length_eq,ZN]
 by_cases c:vs.toArray.size<2
 .rw[ę c,ę c];show cL (fx ?_);rw[StateT.run_pure];show cL (fx ?_);have z:((gR lt (Nl vs.length)).toList.map λi=>vs.getD i rz).toArray=(vs.toArray.zip vs.toArray).map (·.2):=by
   have g:=k7 lt vs.length;clear h m r f d ho l
   match vs,c,g with
   |[],_,g=>rw[show(gR lt (Nl ([]:List dr).length)).toList=[] from List.perm_nil.mp g];simp
   |[v],_,g=>rw[show(gR lt (Nl [v].length)).toList=[0] from List.perm_singleton.mp g];simp
   |_::_::_,c,_=>simp at c;lia
  rw[z]at h
  dsimp only
  show cL (Å d rfl (cL (Va d rfl ?_ (mh _) (by rw[Array.size_map];change(pairsOf vs).size<=_;rw[pairsOf_size];lia))));simp only[bne_self_eq_false,TL,if_false];show fx h
 .rw[Ě c,Ě c];have t:2<=vs.length:=by rw[hE]at c;lia
  show cL (u5 (m t _ f) (λκ O hk=>?_) λ_ _ x=>x.elim);have(rfl,hk):=hk;show cL (u5 (kat_run (κ:=κ) (ks:=vs) (vs:=vs) (G:=λp s'=>p=gR lt (Nl vs.length)/\s'={s with heap:=((s.heap.update a (r3 λ_=>(#v[]:Array dr))).push (zi "tuple" vs.toArray 0)).push (zi "list" #v[] 0)})
   (Q:=λst' s'=>∃p:Array Nat,arrOf st'=p.map (kas_item (vs.toArray.zip vs.toArray))/\failedOf st'=bD/\p=gR lt (Nl vs.length)/\s'={s with heap:=((s.heap.update a (r3 λ_=>(#v[]:Array dr))).push (zi "tuple" vs.toArray 0)).push (zi "list" #v[] 0)})
   rfl t l (λp st' s' T B D H=>#[p,B,D,H]) (JY.wp hk (tS ⋯) #[rfl,rfl])) ?_ λ_ _ e=>e)
  rintro⟨⟨⟩,st'⟩ s' ⟨p,I,J,rfl,rfl⟩
  dsimp only
  have L:=kat_snds rfl I;rw[L,J];show cL (Å d rfl (cL (Va d rfl ?_ (mh _) (by rw[hE,r];lia))));simp only[bne_self_eq_false,TL,if_false];show fx h
end
@[reducible]noncomputable def AO:=Str×Int
abbrev Nt(ks:List Str)(i j:Nat):Bool:=cb ((ks.getD i td).cps.toList<(ks.getD j td).cps.toList)
abbrev jX(ks:List Str):List Nat:=(gR (Nt ks) (Nl ks.length)).toList
def gh(ks:List Str):(jX ks).Perm (hH ks.length):=k7 _ _
abbrev FY(x:Str)(n:Int)(t u:Tok):Obj:={cls:=.type "tuple",data:=.seq #v[.str x t,.int n u]}
abbrev fC(h:Km)(as:List dt)(ps:List AO):Prop:=as.length=ps.length/\∀(j:Nat) (a:dt),as[j]?=a5 a->∃p t u,ps[j]?=a5 p/\h.get? a=a5 (FY p.1 p.2 t u)
def fC.keeps(x:fC h as ps)(k:∀b o,b∈as->h.get? b=a5 o->h'.get? b=a5 o):fC h' as ps :=
 #[x.1,λj a e=>let ⟨p,t,u,c,d⟩:=x.2 j a e;⟨p,t,u,c,k a _ (qs e) d⟩]
def fC.tail(x:fC h (a::as) (p::ps)):fC h as ps :=
 #[by have:=x.1;simpa using this,λj b e=>by
  have(q,t,u,c,d):=x.2 (j+1) b (by simpa using e);show#[q,t,u,by simpa using c,d]]
theorem fC.jY:∀{as:List dt}{ps:List AO},fC h as ps->∃b:List dr,KatTups h (as.map kl) b/\b.length=as.length/\∀v∈b,∃x t,v=zu x t
 |[],_,_=>#[[],KatTups.nil,rfl,by simp]
 |a::as,[],x=>by have:=x.1;simp at this
 |a::as,p::ps,x=>by
  have(b,c,d,e):=fC.jY x.tail;have(q,t,u,g,f):=x.2 0 a rfl;show#[.str q.1 t::b,KatTups.cons f rfl rfl rfl c,by simp[d],λv hv=>?_];rcases gj.mp hv with rfl|hv
  .show#[_,_,rfl]
  .show e v hv
theorem m6:∀{l:List α}{m:List β}{i:Nat}{x:α},Paired F l m->l[i]?=a5 x->∃y,m[i]?=a5 y/\F x y
 |_,_,_,_,.nil,e=>by simp at e
 |_,_,0,_,.cons r _,e=>by simp at e;subst e;show#[_,rfl,r]
 |_,_,i+1,x,.cons _ t,e=>by
  have(u,a,b):=m6 (i:=i) (x:=x) t (by simpa using e);show#[u,by simpa using a,b]
section
def DO(x:fC s.heap as ps)(f:(ps.map (·.1)).Nodup)(hi:i<as.length)(e:j<as.length)(q:C (Nt (ps.map (·.1)) i j) s):
  ä prog w A (tuples' a8) (as.map kl) i j C s:=by
 have(p,t,u,d,g):=x.2 i as[i] (by simp[hi]);have(a,t',u',c,k):=x.2 j as[j] (by simp[e]);have hl:=x.1;have l:i<ps.length:=by lia
 have m:j<ps.length:=by lia
 have n:(as.map kl).getD i rz=.ref as[i]:=by simp[K1,hi]
 have o:(as.map kl).getD j rz=.ref as[j]:=by simp[K1,e]
 have r:(ps.map (·.1)).getD i td=p.1:=by simp[K1,d]
 have v:(ps.map (·.1)).getD j td=a.1:=by simp[K1,c]
 unfold ä;rw[n,o];show kat_lt (b:=a8) g rfl k rfl ?_;unfold Nt at q;rw[r,v]at q;change KatLex prog w A a8 (cb (2<2)) C [(.str p.1 t,.str a.1 t'),(.int p.2 u,.int a.2 u')] 0 s;show kat_cons (ð ?_);by_cases h:p.1=a.1
 .have y:i=j:=by
   have z:(ps.map (·.1))[i]'(by simpa using l)=(ps.map (·.1))[j]'(by simpa using m):=by
    have(_,B):=df.mp d;have(_,D):=df.mp c;simp[B,D,h]
   show(Z6 f).mp z
  subst y;rw[d]at c;cases c;rw[Ĝ rfl];show kat_yes (kat_cons (ñ ?_));rw[show(p.2==p.2)=a8 by simp];show kat_yes (kat_nil ?_);have:cb (p.1.cps.toList<p.1.cps.toList)=b6:=ě (List.lt_irrefl _);rw[this]at q;show q
 .rw[ě h];show kat_no (oneLt_str q)
def DP(x:fC s.heap as ps)(b:(ps.map (·.1)).Nodup)(f:2<=as.length):
  gm (i4 prog w) A (keyKind' (as.map kl).toArray) (λκ s'=>s'=s/\∀i j,i<(as.map kl).length->j<(as.map kl).length->∀C:Bool->hQ->Prop,C (Nt (ps.map (·.1)) i j) s->ä prog w A κ (as.map kl) i j C s) (λ_ _=>False) s:=by
 have(g,c,h,d):=x.jY;show kat_kind (T:=.type "str") c ⋯ (λv e=>?_) rfl ⟨rfl,λi j hi a C q=>?_⟩
 .have(y,t,rfl):=d v e;show Looks.of_pure rfl
 .rw[cN]at hi a;show DO x b hi a q
end
abbrev jZ(H:Hp):List (dt×List V)->Hp
 |[]=>H
 |(a,vs)::r=>upd (jZ H r) a (.tup vs)
theorem k8:∀{l:List (dt×List V)}{b:dt}{o:HO},jZ H l b=a5 o->(∃vs,(b,vs)∈l/\o=.tup vs)\/H b=a5 o
 |[],b,o,h=>.inr h
 |(a,vs)::r,b,o,h=>by
  by_cases c:b=a
  .subst c;rw[jZ,aj]at h;cases h;show .inl #[vs,by simp,rfl]
  .rw[jZ,ai c]at h;rcases k8 h with⟨ws,d,e⟩|q
   .show .inl #[ws,by simp[d],e]
   .show .inr q
theorem k_:∀{l:List (dt×List V)}{b:dt},(∀p∈l,p.1≠b)->jZ H l b=H b
 |[],b,_=>rfl
 |(a,vs)::r,b,h=>by
  rw[jZ,ai (pq (h _ k9))];show k_ λp c=>h p (by simp[c])
theorem tT:∀{l:List (dt×List V)}{b:dt}{vs:List V},(l.map (·.1)).Nodup->(b,vs)∈l->jZ H l b=a5 (.tup vs)
 |(a,ws)::r,b,vs,d,h=>by
  have c:a∉r.map (·.1)/\(r.map (·.1)).Nodup:=by simpa using d
  rcases gj.mp h with h|h
  .cases h;show aj
  .have:b≠a:=λz=>c.1 (by rw[<-z];show kj.mpr #[_,h,rfl]);rw[jZ,ai this];show tT c.2 h
section
def Inv.many(I:Inv X a σ H s)(k:∀b u,s.heap.get? b=a5 u->h'.get? b=a5 u)(d:∀b o,H b=a5 o->H' b=a5 o)
  (f:∀b o,H' b=a5 o->H b=a5 o\/(s.heap.objs.size<=b/\bR X.prog X.w H' h' b o)):Inv X a σ H' {s with heap:=h',toks:=t' }:=by
 show I.un #[λb u q _ _ _=>k b u q,λb u q _ _ _=>#[u.slots,k b u q],λb u q n _=>?_,λb u q _=>#[u,k b u q],λb xs q=>d b _ q,λb u xs q=>d b _ q,λb ps q=>#[#v[],by rw[d b _ q];simp]] λb o e=>?_
 .cases e:H' b with
  |none=>rfl
  |some o =>
   rcases f b o e with z|⟨z,_⟩
   .rw[n]at z;cases z
   .show absurd (ku (i5 q) z) (vl _)
 .rcases f b o e with z|⟨_,z⟩
  .show(I.IE b o z).nS (λc v _ q=>k c v q) (λc q=>d c _ q) λc xs q=>d c _ q
  .show z
abbrev MD(p:AO):List V:=[.str p.1,.int p.2]
def oE{ps:List AO}(hc:X.calm=a8)(I:Inv X g σ H s)(e:H d=a5 (.dK (ps.map λp=>((nT p.1:Key),V.int p.2))))(I0:(ps.map (·.1)).Nodup)(MX:ps.length<64)
  (q:∀(as:List dt) (L:dt),as.length=ps.length->as.Nodup->(∀a∈L::as,H a=bD)->L∉as->Q (.ref L) (upd (jZ H (as.zip (ps.map MD))) L (.lst ((jX (ps.map (·.1))).map λi=>V.ref (as.getD i 0))))) :
  gm (i4 X.prog X.w) X.A (MN (.builtin "dict.items") [.ref d]) (λv s1=>gm (i4 X.prog X.w) X.A (MN (.builtin "sorted") [v]) (EP X g σ Q) X.xe s1) X.xe s:=by
 have ac:(64:Nat)<=cK:=by decide
 have(hz,lo,vs,kv,dd):=xF I.IE e;have C:vs.length=ps.length:=by
  have:=Paired.length kv;simpa using this.symm
 have(o,es,ep,r):=id dd;show Zp PySem.F.slot_dict_items (show s.TypeIs (.ref d) "dict" from#[o,r.1,r.2.1.1]) PySem.F.entry_dict_items (PySem.F.args_dict_items_1 _) (meets_dict_items (aW X.prog X.w) d lo) #[#[vs,dd],?_];change gm (i4 X.prog X.w) X.A (MN (.builtin "sorted") [.ref s.heap.objs.size]) (EP X g σ Q) X.xe {s with heap:=s.heap.push {cls:=.type "dict_items",data:=.fields #v[.ref d]}};have k1:∀b u,s.heap.get? b=a5 u->(s.heap.push {cls:=.type "dict_items",data:=.fields #v[.ref d]}).get? b=a5 u:=λb u z=>c4 _ z;have ZL:(s.heap.push {cls:=.type "dict_items",data:=.fields #v[.ref d]}).DictOf (aW X.prog X.w) d vs:=#[o,es,ep,k1 _ _ r.1,r.2]
 have J7:(s.heap.push {cls:=.type "dict_items",data:=.fields #v[.ref d]}).DictAt (aW X.prog X.w) d vs ep:=#[o,es,k1 _ _ r.1,r.2]
 show We kind_sorted plain_sorted entry_sorted (args_sorted1 _) ?_;unfold SQ.«sorted»;show cL (m:=checkCount "sorted" 1 1 _) (fx ?_);show cL (kdx_collect (A:=X.A.in1) (knd:=aW X.prog X.w) (kvs:=vs) (ep:=ep) (I.ok.hd hc) #[_,hW _ rfl,rfl,rfl] J7 ⋯ λc tk as hk hl D=>?_);have G:as.length=ps.length:=hl.trans C;have f:∀a∈as,s.heap.objs.size<=a:=λa ha=>by
  have:=D.above a ha;have z:(s.heap.push {cls:=.type "dict_items",data:=.fields #v[.ref d]}).objs.size=s.heap.objs.size+1:=SR ..;have Vs:(s.heap.push {cls:=.type "dict_items",data:=.fields #v[.ref d]}).objs.size<a:=this;lia
 have pa:fC c as ps:=#[G,λj a ea=>by
  have(key,k,x,N,O,e3):=D.pairs j a ea;have B:j<ps.length:=by rw[<-G];show(df.mp ea).1
  have(y,ey,r1,r2):=m6 kv (i:=j) (x:=((nT ps[j].1:Key),V.int ps[j].2)) (by simp[B]);rw[N]at ey;cases ey;obtain⟨tx,rfl⟩:∃t,x=.int ps[j].2 t:=r2;have XF:k=nT ps[j].1:=r1.symm;subst XF;have(t,rfl):=XT (x:=ps[j].1) (v:=key) O;show#[ps[j],t,tx,by simp[B],e3]]
 have nd:as.Nodup:=D.rise.imp λh=>i9 h;show cL (Yp ?_ (by rw[cN];lia));have T:(c.push (zi "list" (as.map kl).toArray 0)).get? c.objs.size=a5 (zi "list" (as.map kl).toArray 0):=hW _ rfl;change gm _ _ _ _ _ {s with heap:=c.push (zi "list" (as.map kl).toArray 0),toks:=tk};have Vt:∀a∈as,a<c.objs.size:=λa ha=>D.there ha;show cL (zc (Mi ē #[_,T,rfl] Ą (vq (lt:=Nt (ps.map (·.1))) T (by rw[cN];lia) (λh2 s1 ks=>?_) ⟨_,rfl,?_⟩) (Ė _)))
 .show DP (pa.keeps λb o J z=>ks b o (i9 (Vt b J)) (c4 _ z)) I0 (by rw[cN]at h2;show h2)
 .have(ee,he):=sortedHeap_at (out:=((gR (Nt (ps.map (·.1))) (Nl (as.map kl).length)).toList.map λi=>(as.map kl).getD i rz).toArray) T;have n:∀b o,c.get? b=a5 o->(Û (c.push (zi "list" (as.map kl).toArray 0)) c.objs.size (as.map kl) ((gR (Nt (ps.map (·.1))) (Nl (as.map kl).length)).toList.map λi=>(as.map kl).getD i rz).toArray).get? b=a5 o:=λb o z=>by
   have Jm:b<c.objs.size:=i5 z;rw[Ē (i9 Jm) (by rw[SR];show Pp Jm)];show c4 _ z
  have N1:s.heap.objs.size<=c.objs.size:=Pw (i5 (hk _ _ (hW _ rfl)));have eP:((gR (Nt (ps.map (·.1))) (Nl (as.map kl).length)).toList)=jX (ps.map (·.1)):=by
   unfold jX;rw[cN,cN,G]
  have OU:H c.objs.size=bD:=I.IE.fresh N1;have XG:c.objs.size∉as:=λz=>vl _ (Vt _ z);have Vu:∀a∈as,H a=bD:=λa ha=>I.IE.fresh (f a ha);have Tt:∀{b:dt} {ws:List V},(b,ws)∈as.zip (ps.map MD)->b∈as:=λz=>(Qu z).1;show fx #[_,rfl,.ref c.objs.size,upd (jZ H (as.zip (ps.map MD))) c.objs.size (.lst ((jX (ps.map (·.1))).map λi=>V.ref (as.getD i 0))),?_,rfl,q as _ G nd (λa ha=>?_) XG]
  .show I.many (λb u z=>n b u (hk b u (k1 b u z))) (λb o z=>?_) λb o z=>?_
   .have n1:b≠c.objs.size:=λy=>by rw[y,OU]at z;cases z
    rw[ai n1,k_ λp hp y=>?_]
    .show z
    .have:=Vu p.1 (Tt (b:=p.1) (ws:=p.2) hp);rw[y,z]at this;cases this
   .by_cases J:b=c.objs.size
    .subst J;rw[aj]at z;cases z;show .inr #[N1,by rw[cN,(gh _).length_eq,ZN,cN];lia,(jX (ps.map (·.1))).map λi=>(as.map kl).getD i rz,ee,?_,?_]
     .have Y:∀i∈jX (ps.map (·.1)),i<as.length:=λi hi=>by
       have:=va.mp ((gh _).mem_iff.mp hi);rw[cN]at this;lia
      generalize jX (ps.map (·.1))=l at Y;induction l with
      |nil=>show .nil
      |cons i l ih =>
       show .cons ?_ (ih λj B=>Y j (by simp[B]));have hi:=Y i (by simp);change RelV (.ref (as.getD i 0)) ((as.map kl).getD i rz);have:(as.map kl).getD i rz=.ref (as.getD i 0):=by simp[K1,hi]
       rw[this];rfl
     .rw[<-eP];show he
    .rw[ai J]at z;rcases k8 z with⟨ws,z1,rfl⟩|z1
     .have(j,B,ej):=SA.mp z1;have Tu:j<as.length:=by simp at B;lia
      have Ts:j<ps.length:=by lia
      have XH:as[j]=b/\MD ps[j]=ws:=by simpa using ej
      have(rfl,rfl):=XH;have(p,t,u,N,O):=pa.2 j as[j] (by simp[Tu]);have:p=ps[j]:=by simpa[Ts] using N.symm
      subst this;show .inr #[f _ (by simp),by change 2<=cK;lia,[.str ps[j].1 t,.int ps[j].2 u],.cons #[t,rfl] (.cons #[u,rfl] .nil),_,n _ _ O,rfl,0,rfl]
     .show .inl z1
  .rcases gj.mp ha with rfl|ha
   .show OU
   .show Vu a ha
end
section
def vt{vs:List (Key×dr)}(hk:vs.map (·.1)=ks.map nT)(hl:a.length=vs.length)(h:∀(j:Nat) (v:dr),a[j]?=a5 v->∃k x,vs[j]?=a5 (k,x)/\(aW P w).is k v=a8):RM a ks:=by
 induction a generalizing ks vs with
 |nil =>
  cases vs with
  |nil=>cases ks with
   |nil=>show .nil
   |cons _ _=>cases hk
  |cons _ _=>cases hl
 |cons v a c =>
  cases vs with
  |nil=>cases hl
  |cons p vs =>
   cases ks with
   |nil=>cases hk
   |cons k ks =>
    simp only[gi,PZ]at hk;have(k',x,b,d):=h 0 v rfl;simp only[List.getElem?_cons_zero,Ov]at b;subst b;have f:k'=nT k:=hk.1;subst f;rcases bj (show kB (nT k) v=a8 from d) with⟨i,t,e,rfl⟩|⟨y,t,e,rfl⟩
    .cases e
    .cases e;show .cons _ _ (c hk.2 (by simpa using hl) λj u g=>h (j+1) u (by simpa using g))
def jk:X.calm=a8->gH X (.builtin "sorted") (λxs H Q=>∃(d:dt) (kvs:List (Key×V)) (ks:List Str),xs=[.ref d]/\H d=a5 (.dK kvs)/\kvs.map (·.1)=ks.map nT/\ks.length<64/\∀q,H q=bD->Q (.ref q) (upd H q (.lst ((bF ks).map V.str)))):=by
 intro l a s σ H xs us Q I rs h;have(d,kvs,ks,rfl,e,hk,D,q):=h;have(u,rfl,r):=vals1 rs;cases r;have(hz,lo,vs,kv,dd):=xF I.IE e;have b:vs.length=kvs.length:=(Paired.length kv).symm;have m:kvs.length=ks.length:=by rw[<-cN (f:=(·.1)),hk,cN]
 have n:vs.map (·.1)=ks.map nT:=by
  rw[<-hk];clear dd b hk m e q hz;induction kv with
  |nil=>rfl
  |cons r _ p=>rw[gi,gi,p,r.1]
 have(o,es,ep,t):=id dd;have x:(64:Nat)<=cK:=by decide
 show gP (kdu_collect (A:=X.A.in1) (kdl_dict (knd:=aW X.prog X.w) (kvs:=vs) (ep:=ep) lo) (I.ok.hd l) #[o,es,t] ⋯ λh' c y z g=>#[ks,vt n (by rw[rr];show g.1) (λj v B=>g.2 j v (by rw[<-Su];show B)),by rw[rr,g.1];lia,λG vs' C k2 i s2=>?_]);have k:Inv X a σ H {s with heap:=h',toks:=c}:=I.kept (t':=c) z;show#[.ref h'.objs.size,_,k.laid (t':=c) (o:=.lst ((bF ks).map V.str)) k2 (hY _) #[by rw[cN,iA];lia,vs',C,fe s2,i],rfl,q _ (k.IE.fresh (hY _))]
end
end L2
namespace L2
open PySem PyProof.Rows PySem.W
abbrev HU(h:Km)(e C:dt)(b:dr)(T:Option dt)(c:dr):Prop:=∃oe vs,h.get? e=a5 oe/\oe.cls=.ref C/\oe.data=.fields vs/\vs[0]?=a5 b/\match T with
 |none=>vs[1]?=a5 .none
 |some T=>T≠e/\vs[1]?=a5 (.ref T)/\∃a ts,h.get? T=a5 a/\a.data=.fields ts/\ts[3]?=a5 c
structure FZ(P:ux)(w:wh)(stack:List Env)(H:Hp)(s:hQ)(e C:dt)(T:Option dt)(fl:dr)(H':Hp)(s':hQ):Prop where
 os:s'.os=s.os
 bare:Se s'.gens
 un:Un (Kt stack) [] H H' s.heap s'.heap
 IE:JN P w H' s'.heap
 new:s.heap.get? e=bD
 he:H' e=bD
 exc:∃a0,HU s'.heap e C a0 T fl
 hT:∀a,T=a5 a->s.heap.get? a=bD/\H' a=bD
abbrev Ky(P:ux)(w:wh):NV:=λouter H s E v s'=>∃e C T H',v=.ref e/\FZ P w outer H s e C (a5 T) .none H' s'/\E (.ref C) bD H'
section
end
section
abbrev Vv:List dr:=[.type "ValueError",.type "Exception",.type "BaseException",.type "object"]
def m7:Passes (Ky X.prog X.w) X E0:=λ_ _ _ _ _ _ _ ⟨_,_,_,_,_,_,h⟩=>h.elim
end
@[reducible]noncomputable def Cx.ZM(X:Cx)(e:dt)(oe:Obj)(E:dr->hQ->Prop):Cx:={X with A:=X.A.mark (a5 (.ref e)),calm:=b6,pn:=(e,oe)::X.pn,xe:=E}
section
end
end L2
namespace TM
open PySem L2
inductive U where
 |IC|bl (b:Bool)|int (i:Int)|str (x:Str)
 |tup (xs:List U)|lst (xs:List U)
 |G' (ks:List Str) (vs:List U)
 |JF (xs:List U)
 |ob (u:U) (us:List U)
mutual
noncomputable def IQ:U->Bool
 |.tup xs=>cZ xs
 |.lst _=>b6
 |.G' _ _=>b6
 |.JF _=>b6
 |.ob _ _=>b6
 |.IC=>a8|.bl _=>a8|.int _=>a8|.str _=>a8
noncomputable def cZ:List U->Bool
 |[]=>a8
 |u::us=>IQ u&&cZ us
end
inductive Kd where|own|io|loc|any|bor (j:Nat)|A'
deriving DecidableEq
abbrev Kd.root:Kd->Bool
 |.own=>a8
 |.io=>a8
 |_=>b6
@[reducible]noncomputable def aq:=List (Option (Kd×U))
structure Ct where
 P:ux
 w:wh
 K:PySem.W.Frag
 H₀:Hp
 J0:dt->Prop
 IO:dt->Prop
 xw:U->Hp->Prop
abbrev KL(K:PySem.W.Frag)(a:dt)(xs:List V):Prop :=
 ∃(o:Obj) (b:Array dr) (n:Nat),K.lookup a=a5 o/\o.cls=.type "list"/\o.dict=bD/\o.data=.seq b n/\b.size<=cK/\Vals xs b.toList
abbrev xZ(K:PySem.W.Frag)(S:dt->Prop)(H:Hp)(a:dt)(vs:List V):Prop:=(S a/\Rd H a (.lst vs))\/KL K a vs
def xZ.sq(h:xZ K S H a vs):Jk K H a vs:=h.elim (λz=>.inl z.2) .inr
abbrev P0(K:PySem.W.Frag)(S:dt->Prop)(H:Hp)(a:dt)(vs:List V):Prop:=S a/\H a=a5 (.lst vs)
def P0.sq(h:P0 K S H a vs):Jk K H a vs:=.inl (.inl h.2)
abbrev Nu(H:Hp)(R:List V->Prop)(a:dt)(ks:List Str):Prop:=∃kvs:List (Key×V),H a=a5 (.dK kvs)/\kvs.map (·.1)=ks.map nT/\R (kvs.map (·.2))
section
variable(C:Ct)(S:dt->Prop)(H:Hp)
mutual
def Rep:U->V->Prop
 |.IC,v=>v=.IC
 |.bl b,v=>v=.bl b
 |.int i,v=>v=.int i
 |.str x,v=>v=.str x
 |.tup us,v=>∃a vs,v=.ref a/\Ji C.K H a vs/\ar us vs
 |.lst us,v=>∃a vs,v=.ref a/\P0 C.K S H a vs/\ar us vs
 |.G' ks us,v=>∃a,v=.ref a/\S a/\Nu H (ar us) a ks
 |.JF us,v=>∃a vs,v=.ref a/\xZ C.K S H a vs/\ar us vs
 |.ob _ _,_=>False
def ar:List U->List V->Prop
 |[],vs=>vs=[]
 |u::us,vs=>∃v r,vs=v::r/\Rep u v/\ar us r
end
end
def Tp:HO->Prop
 |.tup _=>True
 |.LC _ (.tup _)=>True
 |_=>False
structure Mv(S:dt->Prop)(H:Hp)(S':dt->Prop)(H':Hp):Prop where
 sub:∀a,S a->S' a
 Nv:∀a o,H a=a5 o->Tp o->H' a=a5 o
 P4:∀a o,S a->H a=a5 o->H' a=a5 o
def Mv.Tw(m:Mv S H S' H')(h:Ji K H a vs):Ji K H' a vs:=by
 rcases h with(h|⟨o,h⟩)|h
 .show .inl (.inl (m.Nv a _ h trivial))
 .show .inl (.inr #[o,m.Nv a _ h trivial])
 .show .inr h
def Mv.HV(m:Mv S H S' H')(h:xZ K S H a vs):xZ K S' H' a vs:=by
 rcases h with⟨s,h|⟨o,h⟩⟩|h
 .show .inl #[m.sub a s,.inl (m.P4 a _ s h)]
 .show .inl #[m.sub a s,.inr #[o,m.P4 a _ s h]]
 .show .inr h
def Mv.XJ(m:Mv S H S' H')(h:P0 K S H a vs):P0 K S' H' a vs:=#[m.sub a h.1,m.P4 a _ h.1 h.2]
def Nu.mv(b:∀o,H a=a5 o->H' a=a5 o)(c:∀vs,R vs->d vs)(h:Nu H R a ks):Nu H' d a ks :=
 let ⟨kvs,e,f,g⟩:=h;⟨kvs,b _ e,f,c _ g⟩
section
mutual
theorem Rep.M1(m:Mv S H S' H'):∀(u:U) (v:V),Rep C S H u v->Rep C S' H' u v
 |.IC,_,h=>h
 |.bl _,_,h=>h
 |.int _,_,h=>h
 |.str _,_,h=>h
 |.tup us,v,h=>by
  have(a,vs,e,b,c):=h;show#[a,vs,e,m.Tw b,ar.M1 m us vs c]
 |.lst us,v,h=>by
  have(a,vs,e,b,c):=h;show#[a,vs,e,m.XJ b,ar.M1 m us vs c]
 |.G' ks us,v,h=>by
  have(a,e,b,c):=h;show#[a,e,m.sub a b,c.mv (λo q=>m.P4 a o b q) λvs q=>ar.M1 m us vs q]
 |.JF us,v,h=>by
  have(a,vs,e,b,c):=h;show#[a,vs,e,m.HV b,ar.M1 m us vs c]
 |.ob _ _,_,h=>KG h
theorem ar.M1(m:Mv S H S' H'):∀(us:List U) (vs:List V),ar C S H us vs->ar C S' H' us vs
 |[],_,h=>h
 |u::us,vs,h=>by
  have(v,r,e,a,b):=h;show#[v,r,e,Rep.M1 m u v a,ar.M1 m us r b]
end
mutual
theorem Rep.vv:∀(u:U) (v:V),IQ u=a8->Rep C S H u v->Rep C S' H u v
 |.IC,_,_,h=>h
 |.bl _,_,_,h=>h
 |.int _,_,_,h=>h
 |.str _,_,_,h=>h
 |.tup us,v,i,h=>by
  have(a,vs,e,b,c):=h;show#[a,vs,e,b,ar.vv us vs (by simpa[TM.IQ] using i) c]
 |.lst us,v,i,h=>by simp[TM.IQ]at i
 |.G' ks us,v,i,h=>by simp[TM.IQ]at i
 |.JF us,v,i,h=>by simp[TM.IQ]at i
 |.ob _ _,_,_,h=>KG h
theorem ar.vv:∀(us:List U) (vs:List V),cZ us=a8->ar C S H us vs->ar C S' H us vs
 |[],_,_,h=>h
 |u::us,vs,i,h=>by
  have(v,r,e,b,c):=h;have a:TM.IQ u=a8/\cZ us=a8:=by simpa[cZ] using i
  show#[v,r,e,Rep.vv u v a.1 b,ar.vv us r a.2 c]
end
def Rep.mv(m:Mv S H S' H')(h:Rep C S H u v):Rep C S' H' u v:=Rep.M1 m u v h
def ar.mv(m:Mv S H S' H')(h:ar C S H us vs):ar C S' H' us vs:=ar.M1 m us vs h
def Rep.IQ(i:TM.IQ u=a8)(h:Rep C S H u v):Rep C S' H u v:=Rep.vv u v i h
def ar.IQ(i:cZ us=a8)(h:ar C S H us vs):ar C S' H us vs:=ar.vv us vs i h
def Mv.up(sub:∀a,S a->S' a):Mv S H S' H:=#[sub,λ_ _ h _=>h,λ_ _ _ h=>h]
theorem ar.len:∀{us:List U}{vs:List V},ar C S H us vs->us.length=vs.length
 |[],_,h=>by cases h;rfl
 |u::us,vs,h=>by
  have(v,r,rfl,_,a):=h;rw[j5,j5,ar.len a]
theorem ar.get:∀{us:List U}{vs:List V}{i:Nat}{u:U},ar C S H us vs->us[i]?=a5 u->∃v,vs[i]?=a5 v/\Rep C S H u v
 |[],_,_,_,_,e=>by simp at e
 |u::us,vs,0,w,h,e=>by
  have(v,r,rfl,a,_):=h;simp at e;subst e;show#[v,rfl,a]
 |u::us,vs,i+1,w,h,e=>by
  have(v,r,rfl,_,b):=h;have(v',c,h'):=ar.get (i:=i) (u:=w) b (by simpa using e);show#[v',by simpa using c,h']
theorem ar.append:∀{us ws:List U}{vs ys:List V},ar C S H us vs->ar C S H ws ys->ar C S H (us++ws) (vs++ys)
 |[],_,_,_,h,h'=>by cases h;show h'
 |u::us,ws,vs,ys,h,h'=>by
  have(v,r,rfl,a,b):=h;show#[v,r++ys,rfl,a,b.append h']
theorem ar.take:∀{us:List U}{vs:List V} (n:Nat),ar C S H us vs->ar C S H (us.take n) (vs.take n)
 |_,_,0,_=>by simp[ar]
 |[],_,n+1,h=>by cases h;simp[ar]
 |u::us,vs,n+1,h=>by
  have(v,r,rfl,a,b):=h;show#[v,r.take n,rfl,a,b.take n]
theorem ar.drop:∀{us:List U}{vs:List V} (n:Nat),ar C S H us vs->ar C S H (us.drop n) (vs.drop n)
 |_,_,0,h=>h
 |[],_,n+1,h=>by cases h;simp[ar]
 |u::us,vs,n+1,h=>by
  have(v,r,rfl,b,a):=h;show a.drop n
theorem ar.set:∀{us:List U}{vs:List V} (n:Nat) {u:U}{v:V},ar C S H us vs->Rep C S H u v->ar C S H (us.set n u) (vs.set n v)
 |[],_,n,_,_,h,_=>by cases h;simp[ar]
 |u::us,vs,0,_,_,h,h'=>by
  have(v,r,rfl,b,a):=h;show#[_,r,rfl,h',a]
 |u::us,vs,n+1,_,_,h,h'=>by
  have(v,r,rfl,b,a):=h;show#[v,_,rfl,b,a.set n h']
def ar.snoc(h:ar C S H us vs)(h':Rep C S H u v):ar C S H (us++[u]) (vs++[v]):=h.append #[v,[],rfl,h',rfl]
theorem ar.strs:∀{xs:List Str}{vs:List V},ar C S H (xs.map .str) vs↔vs=xs.map V.str
 |[],vs=>by simp[ar]
 |x::xs,vs=>by
  constructor
  .rintro⟨v,r,rfl,a,b⟩;rw[ar.strs.mp b];have:v=.str x:=a;rw[this];rfl
  .rintro rfl;show#[_,_,rfl,rfl,ar.strs.mpr rfl]
end
structure Ct.Eqv(C C':Ct):Prop where
 P:C.P=C'.P
 w:C.w=C'.w
 K:C.K=C'.K
section
mutual
theorem Rep.M3(q:C.Eqv d):∀(u:U) (v:V),Rep C S H u v->Rep d S H u v
 |.IC,_,h=>h
 |.bl _,_,h=>h
 |.int _,_,h=>h
 |.str _,_,h=>h
 |.tup us,v,h=>by
  have(a,vs,e,b,c):=h;show#[a,vs,e,q.K▸b,ar.M3 q us vs c]
 |.lst us,v,h=>by
  have(a,vs,e,b,c):=h;show#[a,vs,e,q.K▸b,ar.M3 q us vs c]
 |.G' ks us,v,h=>by
  have(a,e,b,c):=h;show#[a,e,b,c.mv (λ_ q=>q) λvs z=>ar.M3 q us vs z]
 |.JF us,v,h=>by
  have(a,vs,e,b,c):=h;show#[a,vs,e,q.K▸b,ar.M3 q us vs c]
 |.ob _ _,_,h=>KG h
theorem ar.M3(q:C.Eqv a):∀(us:List U) (vs:List V),ar C S H us vs->ar a S H us vs
 |[],_,h=>h
 |u::us,vs,h=>by
  have(v,r,e,b,c):=h;show#[v,r,e,Rep.M3 q u v b,ar.M3 q us r c]
end
def Rep.cg(q:C.Eqv a)(h:Rep C S H u v):Rep a S H u v:=Rep.M3 q u v h
def ar.cg(q:C.Eqv a)(h:ar C S H us vs):ar a S H us vs:=ar.M3 q us vs h
end
def cC(C:Ct)(S:dt->Prop)(H:Hp)(r:dt):U->Prop
 |.lst us=>∃vs,H r=a5 (.lst vs)/\ar C S H us vs
 |.G' ks us=>Nu H (ar C S H us) r ks
 |_=>False
def cC.mv(m:Mv S H S' H')(a:∀o,H r=a5 o->H' r=a5 o)(h:cC C S H r u):cC C S' H' r u:=by
 cases u with
 |lst us=>have(vs,b,c):=h;show#[vs,a _ b,c.mv m]
 |G' ks us=>show Nu.mv a (λvs q=>q.mv m) h
 |_=>show h
def cC.rep(hs:∀a,S a->S' a)(b:S' r)(h:cC C S H r u):Rep C S' H u (.ref r):=by
 cases u with
 |lst us=>have(vs,c,d):=h;show#[r,vs,rfl,#[b,c],d.mv (.up hs)]
 |G' ks us=>show#[r,rfl,b,Nu.mv (λ_ q=>q) (λvs q=>q.mv (.up hs)) h]
 |_=>show h.elim
def cC.cg(q:C.Eqv a)(h:cC C S H r u):cC a S H r u:=by
 cases u with
 |lst us=>have(vs,b,c):=h;show#[vs,b,c.cg q]
 |G' ks us=>show Nu.mv (λ_ q=>q) (λvs z=>z.cg q) h
 |_=>show h
def cC.some(h:cC C S H r u):∃o,H r=a5 o/\¬Tp o:=by
 cases u with
 |lst us=>have(vs,a,_):=h;show#[_,a,λz=>z]
 |G' ks us=>have(kvs,a,_):=h;show#[_,a,λz=>z]
 |_=>show h.elim
structure Cf where
 S:dt->Prop
 H:Hp
 σ:St
 st:aq
 kid:Nat->List dt
abbrev Cf.R1(c:Cf)(a:dt):Prop:=∃(j:Nat) (k:Kd) (u:U),k.root=a8/\c.st[j]?=a5 (a5 (k,u))/\c.σ[j]?=a5 (a5 (.ref a))
abbrev Cf.RD(c:Cf)(j:Nat)(a:dt):Prop:=∃(u:U) (r:dt),c.st[j]?=a5 (a5 (.A',u))/\c.σ[j]?=a5 (a5 (.ref r))/\(a=r\/a∈c.kid j)
abbrev Cf.R(c:Cf)(a:dt):Prop:=c.R1 a\/∃j,c.RD j a
abbrev PS(C:Ct)(S:dt->Prop):dt->Prop:=λa=>C.J0 a\/S a
def fN(C:Ct)(S:dt->Prop)(H:Hp):Kd->U->V->Prop
 |.own,u,v=>∃r,v=.ref r/\¬S r/\¬C.J0 r/\C.H₀ r=bD/\cC C S H r u
 |.io,u,v=>∃r,v=.ref r/\¬S r/\¬C.J0 r/\C.IO r/\cC C S H r u
 |.loc,u,v=>Rep C S H u v
 |.any,u,v=>Rep C (PS C S) H u v
 |.bor _,_,_=>False
 |.A',_,v=>∃r,v=.ref r
def dw(C:Ct)(S:dt->Prop)(H:Hp):List U->List dt->Prop
 |[],as=>as=[]
 |u::us,as=>∃a as' ys vs,as=a::as'/\u=.lst ys/\H a=a5 (.lst vs)/\ar C S H ys vs/\dw C S H us as'
abbrev Lv(K:PySem.W.Frag)(cl:dt):Prop:=PySem.W.nsIn K mx "Shelf"=a5 (a5 (.ref cl))
abbrev Nw(v:V)(a:dt):List (Str×V):=[("rows",v),("earlier",.ref a)]
structure Lw(C:Ct)(S:dt->Prop)(H:Hp)(r a:dt)(u:U)(us:List U)(cl dx:dt)(v:V)(vs:List V):Prop where
 hc:Lv C.K cl
 ins:H r=a5 (.ins cl dx (Nw v a))
 ne:r≠a
 fr:∀x∈[r,a],¬S x/\¬C.J0 x/\(C.H₀ x=bD\/C.IO x)
 im:IQ u=a8
 rep:Rep C S H u v
 lst:H a=a5 (.lst vs)
 Mj:cZ us=a8
 JT:ar C S H us vs
def aL(C:Ct)(S:dt->Prop)(H:Hp)(r:dt)(as:List dt):U->Prop
 |.G' ks us=>∃kvs:List (Key×V),H r=a5 (.dK kvs)/\kvs.map (·.1)=ks.map nT/\kvs.map (·.2)=as.map V.ref/\(r::as).Nodup/\(∀a∈r::as,¬S a/\¬C.J0 a/\C.H₀ a=bD)/\dw C S H us as
 |.ob u us=>∃cl b v a vs,as=[a]/\Lw C S H r a u us cl b v vs
 |_=>False
structure LK(C:Ct)(c:Cf):Prop where
 kd:∀(j:Nat) (u:U) (r:dt),c.st[j]?=a5 (a5 (.A',u))->c.σ[j]?=a5 (a5 (.ref r))->aL C c.S c.H r (c.kid j) u
 dj:∀(i j:Nat) (a:dt),c.RD i a->c.RD j a->i=j
 d1:∀(j:Nat) (a:dt),c.RD j a->¬c.R1 a
structure Ok(C:Ct)(c:Cf):Prop where
 same:∀a o,C.H₀ a=a5 o->¬C.IO a->c.H a=a5 o
 J8:∀a,c.S a->C.H₀ a=bD/\∃o,c.H a=a5 o
 par:∀a,C.J0 a->(∃o,C.H₀ a=a5 o)/\¬C.IO a
 io:∀a,C.IO a->(∃o,C.H₀ a=a5 o)/\∃o,c.H a=a5 o
 len:c.st.length=c.σ.length
 sl:∀(i:Nat) (k:Kd) (u:U),c.st[i]?=a5 (a5 (k,u))->∃v,c.σ[i]?=a5 (a5 v)/\fN C c.S c.H k u v
 inj:∀(i j:Nat) (k k':Kd) (u u':U) (r:dt),k.root=a8->k'.root=a8->c.st[i]?=a5 (a5 (k,u))->c.st[j]?=a5 (a5 (k',u'))->c.σ[i]?=a5 (a5 (.ref r))->c.σ[j]?=a5 (a5 (.ref r))->i=j
 dd:LK C c
structure Ns(c c':Cf):Prop where
 keep:∀a o,c.H a=a5 o->¬c.R a->c'.H a=a5 o
 there:∀a o,c.H a=a5 o->∃o',c'.H a=a5 o'
 roots:∀a,c'.R a->c.R a\/c.H a=bD
 sub:∀a,c.S a->c'.S a
 new:∀a,c'.S a->c.S a\/c.R a\/c.H a=bD
section
def Ns.refl(c:Cf):Ns c c:=#[λ_ _ h _=>h,λ_ o h=>#[o,h],λ_ h=>.inl h,λ_ h=>h,λ_ h=>.inl h]
def Ns.none(n:Ns c b)(h:b.H a=.none):c.H a=.none:=by
 cases e:c.H a with
 |none=>rfl
 |some o=>have(o',q):=n.there a o e;rw[h]at q;cases q
def Ns.trans(m:Ns c d)(n:Ns d e):Ns c e where
 keep:=λa o h b=>by
  show n.keep a o (m.keep a o h b) λz=>?_;rcases m.roots a z with z|z
  .show b z
  .rw[h]at z;cases z
 there:=λa o h=>let ⟨o',h'⟩:=m.there a o h;n.there a o' h'
 roots:=λa h=>by
  rcases n.roots a h with z|z
  .show m.roots a z
  .show .inr (m.none z)
 sub:=λa h=>n.sub a (m.sub a h)
 new:=λa h=>by
  rcases n.new a h with z|z|z
  .show m.new a z
  .rcases m.roots a z with z|z
   .show .inr (.inl z)
   .show .inr (.inr z)
  .show .inr (.inr (m.none z))
def fN.rt(hk:k.root=a8)(h:fN C S H k u v):∃r,v=.ref r/\¬S r/\¬C.J0 r/\(C.H₀ r=bD\/C.IO r)/\cC C S H r u:=by
 cases k with
 |own=>have(r,a,b,c,d,e):=h;show#[r,a,b,c,.inl d,e]
 |io=>have(r,a,b,c,d,e):=h;show#[r,a,b,c,.inr d,e]
 |_=>cases hk
theorem dw.mem:∀{us:List U}{as:List dt}{a:dt},dw C S H us as->a∈as->∃vs,H a=a5 (.lst vs)
 |[],as,a,h,ha=>by cases h;cases ha
 |u::us,as,a,h,ha=>by
  have(a',as',ys,vs,rfl,_,b,_,c):=h;rcases gj.mp ha with rfl|ha
  .show#[vs,b]
  .show dw.mem c ha
theorem dw.mv(m:Mv S H S' H'):∀{us:List U}{as:List dt},(∀a∈as,∀o,H a=a5 o->H' a=a5 o)->dw C S H us as->dw C S' H' us as
 |[],as,_,h=>h
 |u::us,as,b,h=>by
  have(a,as',ys,vs,rfl,e,c,d,f):=h;show#[a,as',ys,vs,rfl,e,b a (by simp) _ c,d.mv m,dw.mv m (λa g=>b a (by simp[g])) f]
def aL.fr(h:aL C S H r as u):∀a∈r::as,¬S a/\¬C.J0 a/\(C.H₀ a=bD\/C.IO a):=by
 cases u<;>first|show h.elim|(have(kvs,_,_,_,_,b,_):=h;show λa c=>let ⟨p,q,r⟩:=b a c;⟨p,q,.inl r⟩)|(have(_,_,_,_,_,rfl,h):=h;show h.fr)
def aL.Tx(h:aL C S H r as (.G' ks us)):∀a∈r::as,¬S a/\¬C.J0 a/\C.H₀ a=bD:=by
 have(kvs,_,_,_,_,b,_):=h;show b
def aL.there(h:aL C S H r as u):∀a∈r::as,∃o,H a=a5 o/\¬Tp o:=by
 cases u<;>first|show h.elim|(have(_,_,_,a,_,rfl,h):=h;intro x hx;rcases gj.mp hx with rfl|hx;show#[_,h.ins,λz=>z];rw[i8.mp hx];show#[_,h.lst,λz=>z])|skip
 have(kvs,b,_,_,_,_,c):=h;intro a ha;rcases gj.mp ha with rfl|ha
 .show#[_,b,λz=>z]
 .have(vs,e):=c.mem ha;show#[_,e,λz=>z]
def aL.mv(m:Mv S H S' H')(b:∀a∈r::as,¬S' a/\∀o,H a=a5 o->H' a=a5 o)(h:aL C S H r as u):aL C S' H' r as u:=by
 cases u<;>first|show h.elim|(have(cl,e,v,a,vs,rfl,h):=h;show#[cl,e,v,a,vs,rfl,h.hc,(b r (by simp)).2 _ h.ins,h.ne,λx d=>#[(b x d).1,(h.fr x d).2],h.im,h.rep.mv m,(b a (by simp)).2 _ h.lst,h.Mj,h.JT.mv m])|skip
 have(kvs,f,g,i,j,k,l):=h;show#[kvs,(b r (by simp)).2 _ f,g,i,j,λa c=>#[(b a c).1,(k a c).2],l.mv m λa c=>(b a (by simp[c])).2]
def LK.of(d:LK C c)(hk:e.kid=c.kid)(p:∀(j:Nat) (u:U),e.st[j]?=a5 (a5 (.A',u))->c.st[j]?=a5 (a5 (.A',u))/\e.σ[j]?=c.σ[j]?)(s:∀a,e.R1 a->c.R1 a\/∀j,¬c.RD j a)
  (m:Mv c.S c.H e.S e.H) (t:∀j a,c.RD j a->¬e.S a/\∀o,c.H a=a5 o->e.H a=a5 o):LK C e:=by
 have b:∀j a,e.RD j a->c.RD j a:=λj a v=>by
  have(u,r,k,f,q):=v;have(g,l):=p j u k;rw[l]at f;rw[hk]at q;show#[u,r,g,f,q]
 show#[λj u r k f=>?_,λi j a h n=>d.dj i j a (b i a h) (b j a n),λj a h n=>?_]
 .have(g,l):=p j u k;rw[l]at f;rw[hk];show aL.mv m (λa w=>t j a #[u,r,g,f,gj.mp w]) (d.kd j u r g f)
 .rcases s a n with z|z
  .show d.d1 j a (b j a h) z
  .show z j (b j a h)
def LK.hs(d:LK C c)(m:Mv c.S c.H S' H')(b:∀j a,c.RD j a->¬S' a/\∀o,c.H a=a5 o->H' a=a5 o):LK C {c with H:=H',S:=S' } :=
 d.of rfl (λ_ _ e=>#[e,rfl]) (λ_ z=>.inl z) m b
def Ok.root(f:Ok C c)(h:c.R r):¬c.S r/\¬C.J0 r/\(C.H₀ r=bD\/C.IO r)/\∃o,c.H r=a5 o/\¬Tp o:=by
 rcases h with⟨j,k,u,hk,b,d⟩|⟨j,u,g,b,d,a⟩
 .have(v,e,hs):=f.sl j _ _ b;have(g,ev,a,l,m,n):=hs.rt hk;rw[d]at e;cases e;cases ev;show#[a,l,m,n.some]
 .have i:=f.dd.kd j u g b d;have(p,q,s):=aL.fr i r (gj.mpr a);show#[p,q,s,aL.there i r (gj.mpr a)]
def Ok.mv(b:Ok C c)(n:Ns c d):Mv c.S c.H d.S d.H:=#[n.sub,λa o h t=>n.keep a o h λz=>by
  have(_,_,_,o',h',e):=b.root z;rw[h]at h';cases h';show e t,λa o s h=>n.keep a o h λz=>(b.root z).1 s]
def Ok.M4(b:Ok C c)(n:Ns c d):Mv (PS C c.S) c.H (PS C d.S) d.H:=#[λa h=>h.imp id (n.sub a),(b.mv n).Nv,λa o s h=>n.keep a o h λz=>by
  rcases s with s|s
  .show(b.root z).2.1 s
  .show(b.root z).1 s]
def Ok.eh(a:Ok C c)(h:c.H p=bD):C.H₀ p=bD/\¬c.S p/\¬C.J0 p/\¬C.IO p/\¬c.R p:=by
 have b:¬C.IO p:=λz=>by have(_,o,q):=a.io p z;rw[h]at q;cases q
 have d:C.H₀ p=bD:=by
  cases e:C.H₀ p with
  |none=>rfl
  |some o=>have:=a.same p o e b;rw[h]at this;cases this
 show#[d,λz=>?_,λz=>?_,b,λz=>?_]
 .have(_,o,q):=a.J8 p z;rw[h]at q;cases q
 .have((o,q),_):=a.par p z;rw[d]at q;cases q
 .have(_,_,_,o,q,_):=a.root z;rw[h]at q;cases q
def fN.mv(m:Mv S H S' H')(i:Mv (PS C S) H (PS C S') H')(g:k.root=a8->∀r,v=.ref r->¬S' r/\∀o,H r=a5 o->H' r=a5 o)(h:fN C S H k u v):fN C S' H' k u v:=by
 cases k with
 |own =>
  have(r,e,l,a,b,c):=h;have(d,f):=g rfl r e;show#[r,e,d,a,b,c.mv m f]
 |io =>
  have(r,e,l,a,b,c):=h;have(d,f):=g rfl r e;show#[r,e,d,a,b,c.mv m f]
 |loc=>show Rep.mv m h
 |any=>show Rep.mv i h
 |bor j=>show h.elim
 |A'=>show h
structure Nx(c c':Cf):Prop extends Ns c c' where
instance {c a:Cf}:Coe (Nx c a) (Ns c a):=#[Nx.toNs]
def Nx.refl(c:Cf):Nx c c:=#[.refl c]
def Nx.trans(m:Nx c a)(n:Nx a b):Nx c b:=#[m.toNs.trans n.toNs]
def Nx.none(n:Nx c b)(h:b.H a=.none):c.H a=.none:=n.toNs.none h
def Ok.lay(b:Ok C c)(h:c.H p=bD):Ok C {c with H:=upd c.H p o}/\Nx c {c with H:=upd c.H p o}:=by
 have l:∀{a:dt} {o':HO},c.H a=a5 o'->a≠p:=λe z=>by subst z;rw[h]at e;cases e
 have d:∀a o',c.H a=a5 o'->(upd c.H p o) a=a5 o':=λa o' e=>by rw[ai (l e)];show e
 have nx:Nx c {c with H:=upd c.H p o}:=#[#[λa o' e _=>d a o' e,λa o' e=>#[o',d a o' e],λa z=>.inl z,λ_ z=>z,λ_ z=>.inl z]]
 show#[#[λa o' e z=>d a o' (b.same a o' e z),λa z=>#[(b.J8 a z).1,let ⟨o',q⟩:=(b.J8 a z).2;⟨o',d a o' q⟩],b.par,λa z=>#[(b.io a z).1,let ⟨o',q⟩:=(b.io a z).2;⟨o',d a o' q⟩],b.len,λi k u e=>?_,b.inj,b.dd.hs (b.mv nx.toNs) λj a z=>#[(b.root (.inr #[j,z])).1,λo' e=>d a o' e]],nx];have(v,m,f):=b.sl i k u e;show#[v,m,f.mv (b.mv nx.toNs) (b.M4 nx.toNs) λhk r n=>?_];have(t,g,s,_):=f.rt hk;rw[n]at g;cases g;show#[s,λo' e=>d r o' e]
def Ok.grow(b:Ok C c)(hs:rB c.H H')(g:∀a,S' a->c.S a\/(c.H a=bD/\∃o,H' a=a5 o))(p:∀a,c.S a->S' a):Ok C {c with H:=H',S:=S' }/\Nx c {c with H:=H',S:=S' }:=by
 have nx:Nx c {c with H:=H',S:=S' }:=#[#[λa o' e _=>hs a o' e,λa o' e=>#[o',hs a o' e],λa z=>.inl z,p,λa z=>(g a z).imp id λq=>.inr q.1]]
 show#[#[λa o' e z=>hs a o' (b.same a o' e z),λa z=>?_,b.par,λa z=>#[(b.io a z).1,let ⟨o',q⟩:=(b.io a z).2;⟨o',hs a o' q⟩],b.len,λi k u e=>?_,b.inj,b.dd.hs (b.mv nx.toNs) λj a z=>#[λd=>?_,λo' e=>hs a o' e]],nx]
 rotate_left 2
 .have(f,_,_,o,h,_):=b.root (.inr #[j,z]);rcases g a d with d|⟨d,_⟩
  .show f d
  .rw[h]at d;cases d
 .rcases g a z with q|⟨f,l⟩
  .show#[(b.J8 a q).1,let ⟨o',q⟩:=(b.J8 a q).2;⟨o',hs a o' q⟩]
  .show#[(b.eh f).1,l]
 .have(v,s,m):=b.sl i k u e;show#[v,s,m.mv (b.mv nx.toNs) (b.M4 nx.toNs) λhk r t=>?_];have(w,n,f,l,x,h):=m.rt hk;rw[t]at n;cases n;have(o,ho,_):=h.some;show#[λz=>?_,λo' e=>hs r o' e];rcases g r z with z|⟨z,_⟩
  .show f z
  .rw[z]at ho;cases ho
def aB(C:Ct)(c0 c:Cf):Kd->U->V->Prop
 |.own,u,v=>∃r,v=.ref r/\c0.H r=bD/\¬c.S r/\¬c.R r/\cC C c.S c.H r u
 |.loc,u,v=>Rep C c.S c.H u v
 |.any,u,v=>Rep C (PS C c.S) c.H u v
 |.bor j,u,v=>(∃k:Kd,k.root=a8/\c.st[j]?=a5 (a5 (k,u)))/\c.σ[j]?=a5 (a5 v)
 |.io,_,_=>False
 |.A',_,_=>False
def fO(C:Ct)(c0 c:Cf):Kd->U->V->Prop
 |.own,u,v=>∃r,v=.ref r/\c0.H r=bD/\¬c.S r/\¬c.R r/\cC C c.S c.H r u
 |.loc,u,v=>Rep C c.S c.H u v
 |.any,u,v=>Rep C (PS C c.S) c.H u v
 |.bor j,u,v=>c.σ[j]?=a5 (a5 v)
 |.io,_,_=>False
 |.A',_,_=>False
def aB.w(h:aB C c0 c k u v):fO C c0 c k u v:=by
 cases k with
 |bor j=>show h.2
 |_=>show h
def fO.Vw(a:Ok C c)(n:Ns c b)(g:∀j,k=.bor j->b.σ[j]?=c.σ[j]?)(h:fO C c0 c k u v):fO C c0 b k u v:=by
 cases k with
 |own =>
  have(r,e,i,l,d,f):=h;have(o,ho,_):=f.some;show#[r,e,i,λz=>?_,λz=>?_,f.mv (a.mv n) λo q=>n.keep r o q d]
  .rcases n.new r z with z|z|z
   .show l z
   .show d z
   .rw[z]at ho;cases ho
  .rcases n.roots r z with z|z
   .show d z
   .rw[z]at ho;cases ho
 |loc=>show Rep.mv (a.mv n) h
 |any=>show Rep.mv (a.M4 n) h
 |bor j=>change b.σ[j]?=_;rw[g j rfl];show h
 |_=>show h
def fO.on(b:Ok C c)(n:Ns c a)(d:a.σ=c.σ)(h:fO C c0 c k u v):fO C c0 a k u v:=h.Vw b n λj _=>by rw[d]
def fO.from(n:Ns c0 c1)(h:fO C c1 c k u v):fO C c0 c k u v:=by
 cases k with
 |own=>have(r,e,a,b):=h;show#[r,e,n.none a,b]
 |_=>show h
def aB.from(n:Ns c0 c1)(h:aB C c1 c k u v):aB C c0 c k u v:=by
 cases k with
 |own=>have(r,e,a,b):=h;show#[r,e,n.none a,b]
 |_=>show h
def SK(C:Ct)(c:Cf):Kd->dt->Prop
 |.any=>PS C c.S
 |_=>c.S
abbrev kE:Kd->Kd
 |.any=>.any
 |_=>.loc
def Ok.rootOf(b:Ok C c){j:Nat}(h:∃k:Kd,k.root=a8/\c.st[j]?=a5 (a5 (k,u)))(e:c.σ[j]?=a5 (a5 v)):∃r,v=.ref r/\¬c.S r/\¬C.J0 r/\(C.H₀ r=bD\/C.IO r)/\cC C c.S c.H r u:=by
 have(k,hk,h):=h;have(v',a,d):=b.sl j _ _ h;rw[e]at a;cases a;show d.rt hk
def aB.list(f:Ok C c)(h:aB C c0 c k (.lst us) v):∃a vs,v=.ref a/\Jk C.K c.H a vs/\ar C (SK C c k) c.H us vs:=by
 cases k with
 |own=>have(r,e,_,_,_,vs,b,d):=h;show#[r,vs,e,Jk.of b,d]
 |bor j=>have(r,e,_,_,_,vs,b,d):=f.rootOf h.1 h.2;show#[r,vs,e,Jk.of b,d]
 |io=>show h.elim
 |A'=>show h.elim
 |_=>have(a,vs,e,b,d):=h;show#[a,vs,e,b.sq,d]
def aB.tuple(b:Ok C c)(h:aB C c0 c k (.tup us) v):∃a vs,v=.ref a/\Ji C.K c.H a vs/\ar C (SK C c k) c.H us vs:=by
 cases k with
 |own=>have(r,e,_,_,_,h):=h;show h.elim
 |bor j=>have(r,e,_,_,_,h):=b.rootOf h.1 h.2;show h.elim
 |io=>show h.elim
 |A'=>show h.elim
 |_=>have(a,vs,e,d,f):=h;show#[a,vs,e,d,f]
def aB.flat(b:Ok C c)(a:IQ u=a8)(h:aB C c0 c k u v):Rep C c.S c.H u v:=by
 cases k with
 |own=>have(r,e,_,_,_,h):=h;cases u<;>simp[IQ]at a<;>show h.elim
 |loc=>show h
 |any=>show Rep.IQ a h
 |bor j=>have(r,e,_,_,_,h):=b.rootOf h.1 h.2;cases u<;>simp[IQ]at a<;>show h.elim
 |_=>show h.elim
def aB.int(a:Ok C c)(h:aB C c0 c k (.int i) v):v=.int i:=h.flat a rfl
def aB.str(a:Ok C c)(h:aB C c0 c k (.str x) v):v=.str x:=h.flat a rfl
def aB.bl(a:Ok C c)(h:aB C c0 c k (.bl b) v):v=.bl b:=h.flat a rfl
def aB.item(h:Rep C (SK C c k) c.H u v):aB C c0 c (kE k) u v:=by
 cases k<;>show h
abbrev JO(H:Hp):dt->Prop:=λa=>∃o,H a=a5 o
def Ok.vA(b:Ok C c):∀a,c.S a->JO c.H a:=λa h=>(b.J8 a h).2
def Ok.AQ(b:Ok C c):∀a,PS C c.S a->JO c.H a:=λa h=>by
 rcases h with h|h
 .have((o,e),n):=b.par a h;show#[o,b.same a o e n]
 .show b.vA a h
def aB.read(a:Ok C c)(h:aB C c0 c k u v):Rep C (JO c.H) c.H u v:=by
 cases k with
 |own =>
  have(r,e,_,_,_,b):=h;rw[e];have(o,ho,_):=b.some;show b.rep a.vA #[o,ho]
 |loc=>show Rep.mv (.up a.vA) h
 |any=>show Rep.mv (.up a.AQ) h
 |bor j =>
  have(r,e,_,_,_,b):=a.rootOf h.1 h.2;rw[e];have(o,ho,_):=b.some;show b.rep a.vA #[o,ho]
 |_=>show h.elim
def Ok.newList(a:Ok C c)(n:Nx c0 c)(h:c.H p=bD)(d:ar C c.S c.H us vs):
  Ok C {c with H:=upd c.H p (.lst vs)}/\Nx c0 {c with H:=upd c.H p (.lst vs)}/\aB C c0 {c with H:=upd c.H p (.lst vs)} .own (.lst us) (.ref p):=by
 have(e,b):=a.lay (o:=.lst vs) h;have(i,f,j,k,g):=a.eh h;show#[e,n.trans b,p,rfl,n.none h,f,g,vs,aj,d.mv (a.mv b.toNs)]
def Ok.DQ(a:Ok C c)(n:Nx c0 c)(h:c.H p=bD)(d:ar C c.S c.H us vs):
  Ok C {c with H:=upd c.H p (.tup vs)}/\Nx c0 {c with H:=upd c.H p (.tup vs)}/\aB C c0 {c with H:=upd c.H p (.tup vs)} .loc (.tup us) (.ref p):=by
 have(e,b):=a.lay (o:=.tup vs) h;show#[e,n.trans b,p,vs,rfl,Ji.of aj,d.mv (a.mv b.toNs)]
end
inductive Ex(α:Type) where|ok (a:α)|exc (c:Str)
abbrev M(α:Type):=aq->Option (Ex α×aq)
namespace M
abbrev pure(a:α):M α:=λst=>a5 (.ok a,st)
abbrev fail:M α:=λ_=>bD
abbrev bind(m:M α)(f:α->M β):M β:=λst=>match m st with
 |none=>bD
 |some (.ok a,st')=>f a st'
 |some (.exc c,st')=>a5 (.exc c,st')
abbrev Jd(o:Option α):M α:=λst=>match o with
 |none=>bD
 |some a=>a5 (.ok a,st)
end M
noncomputable instance:Monad M:={pure:=M.pure,bind:=M.bind}
abbrev W{α:Type}(m:M α)(st:aq)(Q:α->aq->Prop):Prop:=∃a st',m st=a5 (.ok a,st')/\Q a st'
section
def ak:W (pure a) st Q↔Q a st:=by
 constructor
 .rintro⟨b,st',e,h⟩;cases e;show h
 .intro h;show#[a,st,rfl,h]
def ab:W (m >>= f) st Q↔W m st λa st'=>W (f a) st' Q:=by
 constructor
 .rintro⟨b,st',e,h⟩;have d:M.bind m f st=a5 (.ok b,st'):=e;unfold M.bind at d;cases q:m st with
  |none=>rw[q]at d;cases d
  |some r =>
   have(r,s1):=r;rw[q]at d;cases r with
   |ok a=>show#[a,s1,q,b,st',d,h]
   |exc c=>cases d
 .rintro⟨a,s1,q,b,st',e,h⟩;show#[b,st',?_,h];change M.bind m f st=_;unfold M.bind;rw[q];show e
def cq:W (M.Jd o) st Q↔∃a,o=a5 a/\Q a st:=by
 cases o with
 |none=>show#[λ⟨_,_,e,_⟩=>(by cases e),λ⟨_,e,_⟩=>(by cases e)]
 |some a=>show#[λ⟨_,_,e,h⟩=>(by cases e;show#[a,rfl,h]),λ⟨_,e,h⟩=>(by cases e;show#[a,st,rfl,h])]
def aX:W (M.fail:M α) st Q↔False:=#[λ⟨_,_,e,_⟩=>(by cases e),KG]
def W.mono(h:W m st Q)(i:∀a s,Q a s->Q' a s):W m st Q':=let ⟨a,s,e,q⟩:=h;⟨a,s,e,i a s q⟩
end
inductive Q6 where|add|sub|mul|Lc|mod|pow
deriving DecidableEq
inductive P5 where|eq|ne|lt|le|gt|ge|isin|Iz|is|TB
deriving DecidableEq
inductive Bf where|len|sorted|list|tuple|str|int|repr|max|min|all|any
deriving DecidableEq
inductive B2 where|Ml|KW|sset|jg
deriving DecidableEq
inductive Mf where|split|join|partition|endswith
deriving DecidableEq
inductive Mm where|str|list|tuple|int|bool
deriving DecidableEq
inductive Ik where|seq|Jv|M5|Ny|zip|rev
deriving DecidableEq
inductive E where
 |var (i:Nat)
 |cst (u:U)
 |Le (x:Str) (u:U)
 |bin (op:Q6) (a b:E)
 |cmp (op:P5) (a b:E)
 |Mn (o1 o2:P5) (a b c:E)
 |and (es:List E)|or (es:List E)|not (a:E)
 |ite (c a b:E)
 |tup (es:List E)|lst (es:List E)|KY (r:Bool)
 |idx (a b:E)
 |Kg (a:E) (lo hi:List E)
 |bi (f:Bf) (es:List E)
 |ME (f:B2) (es:List E)
 |Lx (m:Mf) (a:E) (es:List E)
 |call (f:Str) (es:List E)
 |comp (k:Nat) (t:Bool) (ik:Ik) (src:List E) (cond:List E) (e:E)
 |neg (a:E)|bad|J4 (a:E) (T:Mm)|fst (es:List E)|inD (neg:Bool) (a:E) (i:Nat)|OW (i:Nat)|Lf (i:Nat) (k d:E)|OX (i:Nat)|Q8 (ln:Bool) (a b:E)
 |pop (i:Nat)|M6 (i:Nat) (e:E)
 |Jy (i:Nat)|LL (i:Nat)|KZ (i:Nat)|j4 (i:Nat)|J_ (f:Str) (i:Nat) (es es2:List E)|Kq (f m:Str) (i:Nat) (es:List E)
inductive S where
 |set (i:Nat) (e:E)
 |M7 (is:List Nat) (e:E)
 |put (i:Nat) (k v:E)
 |app (i:Nat) (e:E)|ext (i:Nat) (e:E)|bad|newD (i:Nat)|putD (i:Nat) (k v:E)|K3 (i:Nat) (k v:E)|aug (sub:Bool) (i:Nat) (k v:E)|Q9 (i:Nat)
 |exp (e:E)
 |ret (e:E)|M8
 |ite (c:E) (a b:List S)
 |Jl (t:Bool) (is:List Nat) (ik:Ik) (src:List E) (body:List S)
 |N_ (c:E) (body:List S)
 |brk|cnt|Q_
 |N' (is:List Nat)
 |Ly (p:Nat)|Kz (i:Nat)|LM (i:Nat) (e:E)|LN (i:Nat)
 |Kl (f m:Str) (o:Nat) (es:List E) (e:E)|J' (i:Nat) (f m:Str) (o:Nat) (es:List E) (j:Nat) (x:Str) (e:E)|IU (i:Nat) (f:Str) (o:Nat) (es:List E) (is:List Nat) (j:Nat) (g:Str) (q:Nat) (h:Str)|Mo (t y:Nat) (x:Str)
abbrev isAny:Kd->Bool
 |.any=>a8
 |_=>b6
abbrev gC(k:Kd)(xs:List U):Bool:=!isAny k||cZ xs
abbrev kT(k k':Kd):Kd:=if isAny k||isAny k' then .any else .loc
abbrev cut{α:Type}(xs:List α)(lo hi:Option Int):List α:=(xs.drop (HT.IS xs.length 0 lo)).take (HT.IS xs.length xs.length hi - HT.IS xs.length 0 lo)
abbrev vB:Kd×U->Kd×U->Option (Kd×U)
 |(_,.int i),(_,.int j)=>a5 (.loc,.int (i+j))
 |(_,.str x),(_,.str y)=>if x.length+y.length<=cK then a5 (.loc,.str (x++y)) else bD
 |(k,.lst xs),(k',.lst ys)=>if xs.length+ys.length<=cK/\gC k xs=a8/\gC k' ys=a8 then a5 (.own,.lst (xs++ys)) else bD
 |(k,.tup xs),(k',.tup ys)=>if xs.length+ys.length<=cK then a5 (kT k k',.tup (xs++ys)) else bD
 |_,_=>bD
abbrev rU(f:Int->Int->Option Int):U->U->Option (Kd×U)
 |.int i,.int j=>(f i j).map λn=>(.loc,.int n)
 |_,_=>bD
abbrev AR(i j:Int):Option Int:=if ((-(2 ^ 64)<i/\i<2 ^ 64)\/(-(2 ^ 64)<j/\j<2 ^ 64)) then a5 (i * j) else bD
abbrev AS(i j:Int):Option Int:=if 0<j/\j<1073741824 then a5 (i / j) else bD
abbrev AU(i j:Int):Option Int:=if 0<j then a5 (i % j) else bD
abbrev AV(i j:Int):Option Int:=if 0<=j/\j<=1000000/\i.natAbs<2 ^ 64 then a5 (i ^ j.toNat) else bD
abbrev K4(op:Q6)(x y:Kd×U):Option (Kd×U):=match op with
 |.add=>vB x y
 |.sub=>rU (λi j=>a5 (i - j)) x.2 y.2
 |.mul=>rU AR x.2 y.2
 |.Lc=>rU AS x.2 y.2
 |.mod=>rU AU x.2 y.2
 |.pow=>rU AV x.2 y.2
mutual
noncomputable def Jg:Nat->U->Bool
 |_,.G' _ _=>b6
 |_,.ob _ _=>b6
 |_,.JF _=>b6
 |0,.tup _=>b6
 |0,.lst _=>b6
 |n+1,.tup xs=>bS n xs
 |n+1,.lst xs=>bS n xs
 |_,.IC=>a8|_,.bl _=>a8|_,.int _=>a8|_,.str _=>a8
noncomputable def bS:Nat->List U->Bool
 |_,[]=>a8
 |n,u::us=>Jg n u&&bS n us
end
mutual
noncomputable def bK:U->U->Bool
 |.IC,.IC=>a8
 |.bl a,.bl b=>a==b
 |.bl a,.int b=>(if a then 1 else 0)==b
 |.int a,.bl b=>a==(if b then 1 else 0)
 |.int a,.int b=>a==b
 |.str a,.str b=>a==b
 |.tup xs,.tup ys=>cy xs ys
 |.lst xs,.lst ys=>cy xs ys
 |_,_=>b6
noncomputable def cy:List U->List U->Bool
 |[],[]=>a8
 |u::us,w::ws=>bK u w&&cy us ws
 |_,_=>b6
end
abbrev Oa(x:U)(ys:List U):Option Bool:=if Jg 50 x=a8/\bS 50 ys=a8 then a5 (ys.any λy=>bK y x) else bD
abbrev OY(x y:Str):Bool:=!(ti y x 0 y.length 1).isEmpty
abbrev strsOf:List U->Option (List Str)
 |[]=>a5 []
 |.str x::us=>(strsOf us).map (x::·)
 |_::_=>bD
abbrev AW:U->U->Option Bool
 |x,.lst ys=>Oa x ys
 |x,.tup ys=>Oa x ys
 |.str x,.str y=>a5 (OY x y)
 |.str x,.G' ks _=>a5 (cb (x∈ks))
 |_,_=>bD
abbrev dS:List Str->List U->Str->Option U
 |y::ks,u::us,x=>if y=x then a5 u else dS ks us x
 |_,_,_=>bD
abbrev dput(ks:List Str)(us:List U)(x:Str)(u:U):List Str×List U :=
 if x∈ks then(ks,(ks.zip us).map λp=>if p.1=x then u else p.2) else(ks++[x],us++[u])
abbrev bT:P5->U->U->Option Bool
 |.eq,a,b=>if Jg 50 a=a8/\Jg 50 b=a8 then a5 (bK a b) else bD
 |.ne,a,b=>if Jg 50 a=a8/\Jg 50 b=a8 then a5 (!bK a b) else bD
 |.lt,.int i,.int j=>a5 (cb (i<j))
 |.gt,.int i,.int j=>a5 (cb (j<i))
 |.ge,.int i,.int j=>a5 (cb (j<=i))
 |.isin,x,y=>AW x y
 |.Iz,x,y=>(AW x y).map (!·)
 |_,_,_=>bD
abbrev la:List U->Option (List Bool)
 |[]=>a5 []
 |.bl x::us=>(la us).map (x::·)
 |_::_=>bD
abbrev gS:Kd×U->U->Option (Kd×U)
 |(k,.lst xs),.int i=>(Je xs i).map λu=>(kE k,u)
 |(k,.tup xs),.int i=>(Je xs i).map λu=>(kE k,u)
 |(_,.str x),.int i=>if x.length<=cK then(Je x.cps.toList i).map λc=>(.loc,.str #[#v[c]]) else bD
 |(.any,.JF xs),.int i=>(Je xs i).map λu=>(.any,u)
 |_,_=>bD
abbrev j3:Kd×U->Option Int->Option Int->Option (Kd×U)
 |(k,.lst xs),lo,hi=>if gC k xs=a8 then a5 (.own,.lst (cut xs lo hi)) else bD
 |(.any,.JF xs),lo,hi=>if cZ xs=a8 then a5 (.own,.lst (cut xs lo hi)) else bD
 |(k,.tup xs),lo,hi=>a5 (kE k,.tup (cut xs lo hi))
 |(_,.str x),lo,hi=>if x.length<=cK then a5 (.loc,.str (PySem.StrLaws.sliceText x lo hi)) else bD
 |_,_,_=>bD
abbrev AX:U->Option Nat
 |.lst xs=>a5 xs.length
 |.tup xs=>a5 xs.length
 |.str x=>if x.length<=cK then a5 x.length else bD
 |.JF xs=>a5 xs.length
 |_=>bD
abbrev gD{β:Type}(f:Kd×U->Option β):List (Kd×U)->Option β
 |[x]=>f x
 |_=>bD
abbrev intsOf:List U->Option (List Int)
 |[]=>a5 []
 |.int x::us=>(intsOf us).map (x::·)
 |_::_=>bD
abbrev DR:Kd×U->Option (Kd×U)
 |(_,.lst xs)=>(strsOf xs).bind λss=>if ss.length<64 then a5 (.own,.lst ((bF ss).map .str)) else bD
 |(_,.G' ks _)=>if ks.length<64 then a5 (.own,.lst ((bF ks).map .str)) else bD
 |(_,.tup xs)=>(strsOf xs).bind λss=>if ss.length<64 then a5 (.own,.lst ((bF ss).map .str)) else bD
 |_=>bD
abbrev DS:Kd×U->Option (Kd×U)
 |(k,.lst xs)=>if gC k xs=a8 then a5 (.own,.lst xs) else bD
 |(k,.tup xs)=>if gC k xs=a8 then a5 (.own,.lst xs) else bD
 |_=>bD
abbrev DT:Kd×U->Option (Kd×U)
 |(k,.lst xs)=>a5 (kE k,.tup xs)
 |(k,.tup xs)=>a5 (kE k,.tup xs)
 |_=>bD
abbrev x6:Kd×U->Option (Kd×U)
 |(_,.int i)=>if i.natAbs.log2<1920 then a5 (.loc,.str (ć i)) else bD
 |_=>bD
abbrev DU:Kd×U->Option (Kd×U)
 |(_,.lst xs)=>(la xs).map λbs=>(.loc,.bl (bs.all id))
 |_=>bD
abbrev J5(f:Bf)(rs:List (Kd×U)):Option (Kd×U):=match f with
 |.len=>gD (λx=>(AX x.2).map λ(n:Nat)=>(Kd.loc,U.int (n:Int))) rs
 |.sorted=>gD DR rs
 |.list=>gD DS rs
 |.tuple=>gD DT rs
 |.str=>gD x6 rs
 |.all=>gD DU rs
 |_=>bD
abbrev vC:U->Option (List Str)
 |.lst xs=>(strsOf xs).bind λss=>if ss.length+1<Ln then a5 (bg ss) else bD
 |.tup xs=>(strsOf xs).bind λss=>if ss.length+1<Ln then a5 (bg ss) else bD
 |_=>bD
abbrev DV:Kd×U->Option (Kd×U)
 |(k,.lst xs)=>if gC k xs=a8 then a5 (.own,.lst xs.reverse) else bD
 |_=>bD
abbrev vD(f:B2)(rs:List (Kd×U)):Option (Kd×U):=match f with
 |.Ml=>bD
 |.KW=>gD DV rs
 |.sset=>bD
 |.jg=>gD (λx=>(vC x.2).map λss=>(.loc,.int ss.length)) rs
abbrev P6(f:Str->Option (Kd×U)):U->Option (Kd×U)
 |.str b=>f b
 |_=>bD
def fP(h:P6 f u=a5 r):∃b,u=.str b/\f b=a5 r:=by
 cases u with
 |str b=>show#[b,rfl,h]
 |_=>cases h
abbrev HW(a:Str)(xs:List U):Option (Kd×U):=(strsOf xs).bind λss=>if Ú a ss=a8 then a5 (.loc,.str (UD a ss)) else bD
abbrev HX(a:Str):U->Option (Kd×U)
 |.lst xs=>HW a xs
 |_=>bD
abbrev HY:Mf->Str->U->Option (Kd×U)
 |.split,a=>P6 λb=>if (b.length==0)=b6/\a.length+2<=cK then a5 (.own,.lst ((OJ a b).map .str)) else bD
 |.join,a=>HX a
 |.endswith,a=>P6 λb=>a5 (.loc,.bl (ó a b))
 |.partition,a=>P6 λb=>if (b.length==0)=b6/\a.length<=cK then a5 (.loc,.tup [.str (nH a b).1,.str (nH a b).2.1,.str (nH a b).2.2]) else bD
abbrev mJ(m:Mf)(u:U)(rs:List (Kd×U)):Option (Kd×U):=P6 (λa=>gD (λx=>HY m a x.2) rs) u
abbrev HZ:Kd×U->Option (List (Kd×U))
 |(k,.lst xs)=>a5 (xs.map λu=>(kE k,u))
 |(k,.tup xs)=>a5 (xs.map λu=>(kE k,u))
 |(_,.str x)=>a5 (x.cps.toList.map λc=>(.loc,.str #[#v[c]]))
 |_=>bD
abbrev vE:Kd×U->Option (List (Kd×U))
 |(_,.int n)=>if n<2 ^ 62/\-(2 ^ 62)<n then a5 ((hH n.toNat).map λi:Nat=>(Kd.loc,U.int (0+(i:Int)))) else bD
 |_=>bD
abbrev DW:List (Kd×U)->Option (List (Kd×U))
 |[(_,.int lo),(_,.int hi)]=>if hi<2 ^ 62/\-(2 ^ 62)<lo/\lo<2 ^ 62/\-(2 ^ 62)<hi then a5 ((hH (hi - lo).toNat).map λi:Nat=>(Kd.loc,U.int (lo+(i:Int)))) else bD
 |_=>bD
abbrev DX:Kd×U->Option (List (Kd×U))
 |(k,.lst xs)=>a5 (xs.zipIdx.map λp=>(kE k,.tup [.int p.2,p.1]))
 |(k,.tup xs)=>a5 (xs.zipIdx.map λp=>(kE k,.tup [.int p.2,p.1]))
 |_=>bD
abbrev Lg(a:Ik)(rs:List (Kd×U)):Option (List (Kd×U)):=match a with
 |.seq=>gD HZ rs
 |.Jv=>gD vE rs
 |.M5=>DW rs
 |.Ny=>gD DX rs
 |_=>bD
abbrev AY(ps:List (Str×Int)):List (Str×Int):=(jX (ps.map (·.1))).map λi=>ps.getD i (td,0)
abbrev vF(p:Str×Int):U:=.tup [.str p.1,.int p.2]
abbrev x8:U->Option (Kd×U)
 |.G' ks us=>(intsOf us).bind λns=>if ks.length<64/\ks.Nodup/\ks.length=ns.length then a5 (.own,.lst ((AY (ks.zip ns)).map vF)) else bD
 |_=>bD
abbrev rV:U->Option Bool
 |.bl b=>a5 b
 |.lst xs=>a5 !xs.isEmpty
 |.tup xs=>a5 !xs.isEmpty
 |.str x=>if x.length<=cK then a5 ((x.length:Int) != 0) else bD
 |_=>bD
abbrev lift:Kd×U->M U
 |(.own,u)=>pure u
 |(.loc,u)=>pure u
 |(.any,u)=>if IQ u=a8 then pure u else M.fail
 |(.bor j,_)=>λst=>match st[j]? with
  |some (a5 (.own,u))=>a5 (.ok u,st.set j (a5 (.loc,u)))
  |_=>bD
 |(.io,_)=>M.fail
 |(.A',_)=>M.fail
abbrev dh:List (Kd×U)->M (List U)
 |[]=>pure []
 |r::rs=>do let u <-lift r;let us <-dh rs;pure (u::us)
abbrev dy(i:Nat):Kd×U->M Unit
 |(.bor j,_)=>λst=>match st[j]? with
  |some (a5 (.own,u))=>a5 (.ok (),(st.set j (a5 (.loc,u))).set i (a5 (.loc,u)))
  |_=>bD
 |(.io,_)=>M.fail
 |(.A',_)=>M.fail
 |(k,u)=>λst=>a5 (.ok (),st.set i (a5 (k,u)))
def aY:List (Kd×U)->aq->Prop
 |[],_=>True
 |(.bor j,u)::rs,st=>(∃k:Kd,k.root=a8/\st[j]?=a5 (a5 (k,u)))/\aY rs st
 |_::rs,st=>aY rs st
open Classical in
abbrev au(rs:List (Kd×U)):M Unit:=λst=>if aY rs st then a5 (.ok (),st) else bD
@[reducible]noncomputable def Tab:=Str->List U->Option (Ex (Kd×U))
abbrev lj(Γ:Tab)(f:Str)(us:List U):M (Kd×U):=λst=>match Γ f us with
 |some (.ok (.any,_))=>bD
 |none=>bD
 |some r=>a5 (r,st)
abbrev gT(rs:List (Kd×U))(p:Nat):Option Nat:=match rs[p]? with
 |some (.bor j,.lst _)=>a5 j
 |_=>bD
abbrev Cz(a:List (Option Nat)):Kd×U->Bool
 |(.bor j,_)=>cb (a5 j∉a)
 |_=>a8
abbrev m8(rs:List (Kd×U))(is:List Nat):Bool:=is.all (λp=>(gT rs p).isSome)&&cb ((is.map (gT rs)).Nodup)&&(hH rs.length).all λq=>cb (q∈is)||Cz (is.map (gT rs)) (rs.getD q (.loc,.IC))
abbrev jJ(rs:List (Kd×U)):List Nat->List U->aq->Option aq
 |[],[],st=>a5 st
 |p::is,w::ws,st=>match gT rs p with
  |some j=>match w,st[j]? with
   |.lst us,a5 (a5 (k,_))=>jJ rs is ws (st.set j (a5 (k,.lst us)))
   |_,_=>bD
  |none=>bD
 |_,_,_=>bD
abbrev gU(st:aq):Kd×U->Kd×U
 |(.bor j,u)=>(.bor j,match st[j]? with|some (a5 (k,u'))=>if k.root=a8 then u' else u|_=>u)
 |r=>r
abbrev x9(rs:List (Kd×U)):M (List (Kd×U)):=λst=>a5 (.ok (rs.map (gU st)),st)
abbrev x_(i:Nat):M (Kd×U):=λst=>match st[i]? with
 |some (a5 (k,.lst us))=>if k.root=a8 then(match us[us.length - 1]? with|some u=>a5 (.ok (.loc,u),st.set i (a5 (k,.lst us.dropLast)))|none=>bD) else bD
 |_=>bD
abbrev H0(i:Nat):U->M (Kd×U)
 |.int j=>λst=>match st[i]? with
  |some (a5 (k,.lst us))=>if k.root=a8/\0<=j/\j<1000000 then(match us[j.toNat]? with|some u=>a5 (.ok (.loc,u),st.set i (a5 (k,.lst (us.eraseIdx j.toNat))))|none=>bD) else bD
  |_=>bD
 |_=>M.fail
abbrev di(i:Nat):M (Kd×U):=λst=>match st[i]? with
 |some (a5 (.A',_))=>bD
 |some (a5 (k,u))=>a5 (.ok (if k.root=a8 then .bor i else k,u),st)
 |_=>bD
abbrev Kh(i:Nat):M (U×List U):=λst=>match st[i]? with
 |some (a5 (.A',.ob u us))=>a5 (.ok (u,us),st)
 |_=>bD
abbrev M9(i:Nat)(f:U->List U->Option (U×List U)):M Unit:=λst=>match st[i]? with
 |some (a5 (.A',.ob u us))=>match f u us with
  |some (w,ws)=>if IQ w=a8/\cZ ws=a8 then a5 (.ok (),st.set i (a5 (.A',.ob w ws))) else bD
  |none=>bD
 |_=>bD
abbrev AZ(u:U)(us:List U):Option (U×List U):=if us.length<cK then a5 (u,us++[u]) else bD
abbrev j4(i:Nat):M (Kd×U):=λst=>match st[i]? with
 |some (a5 (.A',.ob u us))=>match us[us.length - 1]? with
  |some w=>a5 (.ok (.loc,w),st.set i (a5 (.A',.ob u us.dropLast)))
  |none=>bD
 |_=>bD
abbrev eJ{α:Type}(p:Nat)(o:α)(us:List α):List α:=us.take p++o::us.drop p
abbrev dk(Γ:Tab)(f:Str)(p i:Nat)(rs:List (Kd×U)):M (Kd×U):=λst=>match st[i]? with
 |some (a5 (.A',.ob u us))=>match Γ f (eJ p (.ob u us) (rs.map (·.2))) with
  |some (.ok (k,.tup [w,.ob u' us']))=>if (k=.own\/k=.loc)/\p<=rs.length then a5 (.ok (k,w),st.set i (a5 (.A',.ob u' us'))) else bD
  |_=>bD
 |_=>bD
abbrev vG(rs:List (Kd×U)):Bool:=match rs[(2:Nat)]? with
 |some (.loc,_)=>a8
 |_=>b6
abbrev iD(Γ:Tab)(f:Str)(i:Nat)(rs:List (Kd×U))(is:List Nat):M (Option (U×U)):=λst=>match st[i]? with
 |some (a5 (.A',.ob u us))=>match Γ f (.ob u us::rs.map (·.2)) with
  |some (.ok (k,.tup (w::.ob u' us'::ws)))=>if m8 ((.loc,.IC)::rs) is=a8/\vG rs=a8 then(match jJ ((.loc,.IC)::rs) is ws (st.set i (a5 (.A',.ob u' us'))) with|some st'=>(match k,w with|.A',.tup [t,w']=>a5 (.ok (a5 (t,w')),st')|.loc,.IC=>a5 (.ok bD,st')|_,_=>bD)|none=>bD) else bD
  |_=>bD
 |_=>bD
abbrev vH(i:Nat):M Unit:=λst=>match st[i]? with
 |some (a5 (.own,u))=>a5 (.ok (),st.set i (a5 (.loc,u)))
 |some (a5 (.loc,_))=>a5 (.ok (),st)
 |_=>bD
abbrev tU:Kd×U->M U
 |(.loc,u)=>pure u
 |_=>M.fail
abbrev M_(i:Nat):M Unit:=λst=>match st[i]? with
 |some bD=>a5 (.ok (),st)
 |_=>bD
abbrev iE(i:Nat):M (List Str×List U):=λst=>match st[i]? with
 |some (a5 (.A',.G' ks us))=>a5 (.ok (ks,us),st)
 |_=>bD
abbrev j6(x:Kd×U):M Str:=match x.2 with
 |.str y=>pure y
 |_=>M.fail
abbrev TC(neg:Bool)(y:Str)(ks:List Str):Bool:=if neg=a8 then !cb (y∈ks) else cb (y∈ks)
abbrev ya(i:Nat):M (Kd×U):=λst=>match st[i]? with
 |some (a5 (.A',.G' ks us))=>a5 (.ok (.bor i,.G' ks us),st.set i (a5 (.own,.G' ks us)))
 |_=>di i st
abbrev CA(i:Nat):M Unit:=λst=>a5 (.ok (),st.set i (a5 (.A',.G' [] [])))
abbrev lp(i:Nat)(y:Str):Kd×U->M Unit
 |(.own,.lst us)=>λst=>match st[i]? with
  |some (a5 (.A',.G' ks vs))=>if y∉ks/\ks.length<cK then a5 (.ok (),st.set i (a5 (.A',.G' (ks++[y]) (vs++[.lst us])))) else bD
  |_=>bD
 |_=>M.fail
abbrev j7:List Str->List U->Str->U->List U
 |k::ks,v::vs,y,u=>if k=y then u::vs else v::j7 ks vs y u
 |_,vs,_,_=>vs
abbrev lq(i:Nat)(y:Str)(u:U):M Unit:=λst=>match st[i]? with
 |some (a5 (.A',.G' ks vs))=>match dS ks vs y with
  |some (.lst xs)=>if xs.length<cK then a5 (.ok (),st.set i (a5 (.A',.G' ks (j7 ks vs y (.lst (xs++[u])))))) else bD
  |_=>bD
 |_=>bD
abbrev TF:U->M Unit
 |.G' _ _=>pure ()
 |_=>M.fail
abbrev A0(x:Kd×U)(y:Str)(u:U):Option (Kd×U):=match x with
 |(k,.G' ks us)=>a5 (match dS ks us y with|some v=>(kE k,v)|none=>(.loc,u))
 |_=>bD
abbrev p_(i:Nat):M (List U):=λst=>match st[i]? with
 |some (a5 (k,.lst us))=>if k.root=a8 then a5 (.ok us,st) else bD
 |_=>bD
abbrev vI(x:Kd×U):M Int:=match x.2 with
 |.int j=>pure j
 |_=>M.fail
abbrev qb(us:List U)(j:Int):Option Int:=if 0<=j then(match us[j.toNat]? with|some (.int o)=>a5 o|_=>bD) else bD
abbrev vJ(sub:Bool)(o w:Int):Int:=if sub=a8 then o - w else o+w
abbrev H9:U->Option U
 |.lst us=>a5 (.lst us.reverse)
 |_=>bD
abbrev sets:List Nat->List (Kd×U)->M Unit
 |[],[]=>pure ()
 |i::is,r::rs=>do dy i r;sets is rs
 |_,_=>M.fail
abbrev dG(t:Bool)(is:List Nat)(r:Kd×U):M Unit:=match t,is,r with
 |false,[i],r=>dy i r
 |true,is,(k,.tup xs)=>sets is (xs.map λu=>(kE k,u))
 |_,_,_=>M.fail
abbrev inScope{α:Type}(k:Nat)(m:M α):M α:=λst=>match m (js k bD++st) with
 |none=>bD
 |some (r,st')=>a5 (r,st'.drop k)
abbrev bG(k:Nat)(t:Bool)(cond:M Bool)(elt:M (Kd×U))(src:List (Kd×U)):List (Kd×U)->List U->M (List U)
 |[],a=>do au src;pure a
 |x::xs,a=>do
  au src
  let r <-inScope k (dG t (hH k) x >>= λ_=>cond >>= λb=>if b=a8 then(elt >>= λr=>lift r >>= λu=>pure (a5 u)) else pure bD)
  match r with
  |some u=>if a.length<cK then bG k t cond elt src xs (a++[u]) else M.fail
  |none=>bG k t cond elt src xs a
abbrev oF:U->Mm->Option Bool
 |.int _,T=>a5 (cb (T=.int))
 |.lst _,T=>if T=.list then a5 a8 else bD
 |.tup _,T=>if T=.tuple then a5 a8 else bD
 |_,_=>bD
abbrev H_:Kd×U->Option (Kd×U)
 |(_,.int i)=>a5 (.loc,.int (-i))
 |_=>bD
abbrev DY(x:Kd×U):M (Option Int):=match x.2 with
 |.int i=>pure (a5 i)
 |_=>M.fail
abbrev Nz:U->M Unit
 |.lst _=>pure ()
 |_=>M.fail
section
variable(Γ:Tab)
mutual
noncomputable def ev:E->M (Kd×U)
 |.var i=>di i
 |.cst u=>pure (.loc,u)
 |.Le _ u=>pure (.loc,u)
 |.bin op a b=>do
  let x <-ev a
  let y <-ev b
  au [x,y]
  M.Jd (K4 op x y)
 |.cmp op a b=>do
  let x <-ev a
  let y <-ev b
  au [x,y]
  let c <-M.Jd (bT op x.2 y.2)
  pure (.loc,.bl c)
 |.Mn _ _ _ _ _=>M.fail
 |.and es=>iF es
 |.or _=>M.fail
 |.not a=>do
  let x <-ev a
  match x.2 with
  |.bl c=>pure (.loc,.bl !c)
  |_=>M.fail
 |.ite c a b=>do
  let p <-IW c
  if p=a8 then ev a else ev b
 |.tup es=>do
  let rs <-aK es
  au rs
  let us <-dh rs
  if us.length<=cK then pure (.loc,.tup us) else M.fail
 |.lst es=>do
  let rs <-aK es
  au rs
  let us <-dh rs
  if us.length<=cK then pure (.own,.lst us) else M.fail
 |.KY r=>pure (.own,.G' [] [])
 |.idx a b=>do
  let x <-ev a
  let y <-ev b
  au [x,y]
  M.Jd (gS x y.2)
 |.Kg a lo hi=>do
  let x <-ev a
  let l <-Ob lo
  let h <-Ob hi
  au [x]
  M.Jd (j3 x l h)
 |.bi f es=>do
  let rs <-aK es
  au rs
  M.Jd (J5 f rs)
 |.ME f es=>do
  let rs <-aK es
  au rs
  M.Jd (vD f rs)
 |.Lx m a es=>do
  let x <-ev a
  let rs <-aK es
  au (x::rs)
  M.Jd (mJ m x.2 rs)
 |.call f es=>do
  let rs <-aK es
  au rs
  lj Γ f (rs.map (·.2))
 |.comp k t g src cond e=>do
  let rs <-aK src
  au rs
  let xs <-M.Jd (Lg g rs)
  let us <-bG k t (aP cond) (ev e) rs xs []
  pure (.own,.lst us)
 |.neg a=>do
  let x <-ev a
  M.Jd (H_ x)
 |.bad=>M.fail
 |.inD _ _ _=>M.fail
 |.OW i=>ya i
 |.Lf i k d=>do
  let x <-di i
  TF x.2
  let y <-ev k
  let y <-j6 y
  let z <-ev d
  let u <-lift z
  let x <-di i
  M.Jd (A0 x y u)
 |.OX i=>do
  let x <-di i
  M.Jd (x8 x.2)
 |.Jy i=>Kh i >>= λp=>pure (.loc,p.1)
 |.LL i=>Kh i >>= λp=>pure (.loc,.int (p.2.length:Nat))
 |.KZ _=>M.fail
 |.j4 i=>TM.j4 i
 |.J_ f i es es2=>Kh i >>= λ_=>(aK es >>= λr1=>aK es2 >>= λr2=>pure (r1++r2)) >>= λrs=>au rs >>= λ_=>dk Γ f es.length i rs
 |.Kq f _ i es=>Kh i >>= λ_=>aK es >>= λrs=>au rs >>= λ_=>dk Γ f 0 i rs
 |.pop i=>x_ i
 |.M6 i e=>do
  let x <-di i
  Nz x.2
  let y <-ev e
  H0 i y.2
 |.Q8 _ _ _=>M.fail
 |.fst es=>M.fail
 |.J4 a T=>do
  let x <-ev a
  let b <-M.Jd (oF x.2 T)
  pure (.loc,.bl b)
noncomputable def aK:List E->M (List (Kd×U))
 |[]=>pure []
 |e::es=>do let r <-ev e;let rs <-aK es;pure (r::rs)
noncomputable def Ob:List E->M (Option Int)
 |[]=>pure bD
 |[e]=>do let x <-ev e;DY x
 |_=>M.fail
noncomputable def iF:List E->M (Kd×U)
 |[]=>M.fail
 |[e]=>ev e
 |e::es=>do
  let x <-ev e
  match x.2 with
  |.bl a8=>iF es
  |.bl b6=>pure (.loc,.bl b6)
  |_=>M.fail
noncomputable def IW:E->M Bool
 |.and es=>aP es
 |.or es=>jK es
 |.not a=>do let b <-IW a;pure !b
 |.cmp op a b=>do
  let x <-ev a
  let y <-ev b
  au [x,y]
  M.Jd (bT op x.2 y.2)
 |.var i=>do let x <-di i;M.Jd (rV x.2)
 |.bi f es=>do
  let rs <-aK es
  au rs
  let r <-M.Jd (J5 f rs)
  M.Jd (rV r.2)
 |.call f es=>do
  let rs <-aK es
  au rs
  let r <-lj Γ f (rs.map (·.2))
  M.Jd (rV r.2)
 |.Mn o1 o2 a b c=>do
  let x <-ev a
  let y <-ev b
  au [x,y]
  let p <-M.Jd (bT o1 x.2 y.2)
  if p=a8 then do
   let z <-ev c
   au [y,z]
   M.Jd (bT o2 y.2 z.2)
  else pure b6
 |.inD neg a i=>do
  let x <-ev a
  let y <-j6 x
  let d <-iE i
  pure (TC neg y d.1)
 |.J4 a T=>do
  let x <-ev a
  M.Jd (oF x.2 T)
 |.KZ i=>Kh i >>= λp=>if Jg 50 (.lst p.2)=a8 then pure p.2.isEmpty else M.fail
 |.J_ f i es es2=>(Kh i >>= λ_=>(aK es >>= λr1=>aK es2 >>= λr2=>pure (r1++r2)) >>= λrs=>au rs >>= λ_=>dk Γ f es.length i rs) >>= λr=>M.Jd (rV r.2)
 |_=>M.fail
noncomputable def aP:List E->M Bool
 |[]=>pure a8
 |[e]=>IW e
 |e::es=>do let b <-IW e;if b=a8 then aP es else pure b6
noncomputable def jK:List E->M Bool
 |[]=>pure b6
 |[e]=>IW e
 |e::es=>do let b <-IW e;if b=a8 then pure a8 else jK es
end
inductive Fl where|nx|rt (k:Kd) (u:U)|bk|ct
abbrev retS:Kd×U->M Fl
 |(.own,u)=>pure (.rt .own u)
 |(.loc,u)=>pure (.rt .loc u)
 |(.any,u)=>if IQ u=a8 then pure (.rt .loc u) else pure (.rt .any u)
 |(.bor j,_)=>λst=>match st[j]? with
  |some (a5 (.own,u))=>a5 (.ok (.rt .own u),st.set j bD)
  |_=>bD
 |(.io,_)=>M.fail
 |(.A',_)=>M.fail
abbrev forM(t:Bool)(is:List Nat)(body:M Fl)(src:List (Kd×U)):List (Kd×U)->M Fl
 |[]=>do au src;pure .nx
 |x::xs=>do
  au src
  dG t is x
  let f <-body
  match f with
  |.nx=>forM t is body src xs
  |.ct=>forM t is body src xs
  |.bk=>pure .nx
  |.rt k u=>pure (.rt k u)
abbrev gV(c:M Bool)(body:M Fl):Nat->M Fl
 |0=>M.fail
 |n+1=>do
  let b <-c
  if b=a8 then do
   let f <-body
   match f with
   |.nx=>gV c body n
   |.ct=>gV c body n
   |.bk=>pure .nx
   |.rt k u=>pure (.rt k u)
  else pure .nx
abbrev modS(i:Nat)(f:U->Option U):M Unit:=λst=>match st[i]? with
 |some (a5 (k,u))=>if k.root=a8 then match f u with
   |some u'=>a5 (.ok (),st.set i (a5 (k,u')))
   |none=>bD
  else bD
 |_=>bD
abbrev vK(u:U):U->Option U
 |.lst xs=>if xs.length<cK then a5 (.lst (xs++[u])) else bD
 |_=>bD
abbrev mK:Kd×U->U->Option U
 |(k,.lst ys),.lst xs=>if xs.length+ys.length<=cK/\gC k ys=a8 then a5 (.lst (xs++ys)) else bD
 |(k,.tup ys),.lst xs=>if xs.length+ys.length<=cK/\gC k ys=a8 then a5 (.lst (xs++ys)) else bD
 |_,_=>bD
abbrev fH(x u:U):U->Option U
 |.G' ks vs=>match x with
  |.str y=>if ks.length<cK then a5 (.G' (dput ks vs y u).1 (dput ks vs y u).2) else bD
  |_=>bD
 |.lst xs=>match x with
  |.int i=>(Ma xs.length i).map λj=>.lst (xs.set j u)
  |_=>bD
 |_=>bD
abbrev tV:List U->U->Option U
 |[u,x]=>fH x u
 |_=>λ_=>bD
abbrev P7(Γ:Tab)(f:Str)(o:Nat)(ms:M (List (Kd×U))):M U:=(Kh o >>= λ_=>ms >>= λrs=>au rs >>= λ_=>dk Γ f 0 o rs) >>= tU
abbrev P8(t:U)(m:M (Kd×U)):M Fl:=m >>= λx=>lift x >>= λw=>pure (.rt .A' (.tup [t,w]))
abbrev A4(j:Nat)(x:Str):M Fl:=di j >>= λr=>Nz r.2 >>= λ_=>(pure (Kd.loc,U.str x):M (Kd×U)) >>= λr=>lift r >>= λu=>modS j (vK u) >>= λ_=>pure .nx
abbrev F0(m:M Fl):Fl->M Fl
 |.nx=>m
 |_=>M.fail
abbrev m9(Γ:Tab)(h:Str)(t:U)(rs:List (Kd×U)):M Fl:=λst=>match Γ h (t::rs.map (·.2)) with
 |some (.ok (.loc,.bl b))=>a5 (.ok (if b=a8 then .nx else .rt .loc (.bl b6)),st)
 |_=>bD
abbrev A5(Γ:Tab)(j:Nat)(m1:M (Kd×U))(q:Nat)(h:Str)(ms:M (List (Kd×U))):Option (U×U)->M Fl
 |none=>pure .nx
 |some (t,w)=>(m1 >>= λr=>dy j r) >>= λ_=>dy q (.loc,w) >>= λ_=>ms >>= λrs=>au rs >>= λ_=>m9 Γ h t rs
abbrev A6(o:Option (Option (Kd×U))):Option U:=match o with
 |some (a5 (k,u))=>if k=.loc then a5 u else bD
 |_=>bD
abbrev XM:U->Option (List U)
 |.tup xs=>a5 xs
 |_=>bD
abbrev Vx:U->Option (List U)
 |.lst xs=>a5 xs
 |_=>bD
abbrev XN:U->Option Bool
 |.bl b=>a5 b
 |_=>bD
abbrev F2:List U->Option (U×U)
 |[x,y]=>a5 (x,y)
 |_=>bD
abbrev rW(t y:Nat):M Fl:=λst=>(A6 st[t]?).bind λu=>(XM u).bind λxs=>(F2 xs).bind λp=>(Vx p.1).bind λg=>(Vx p.2).bind λl=>(A6 st[y]?).bind λv=>(XN v).bind λb=>if g.length<1000/\l.length<1000 then a5 (.ok (.rt .A' (.bl b)),st) else bD
abbrev fuel:Nat:=1000000000000
mutual
noncomputable def Oe:S->Nat->Bool
 |.set i _,j=>cb (j≠i)
 |.M7 is _,j=>cb (j∉is)
 |.ite _ a b,j=>JD a j&&JD b j
 |.Jl _ is _ _ body,j=>cb (j∉is)&&JD body j
 |.N_ _ body,j=>JD body j
 |.put _ _ _,_=>a8
 |.app _ _,_=>a8
 |.ext _ _,_=>a8
 |.bad,_=>a8
 |.newD i,j=>cb (j≠i)
 |.putD _ _ _,_=>a8
 |.K3 _ _ _,_=>a8
 |.aug _ _ _ _,_=>a8
 |.Q9 _,_=>a8
 |.exp _,_=>a8
 |.ret _,_=>a8
 |.M8,_=>a8
 |.brk,_=>a8
 |.cnt,_=>a8
 |.Q_,_=>a8
 |.N' _,_=>a8
 |.Ly _,_=>a8
 |.Kz i,j=>cb (j≠i)
 |.LM _ _,_=>a8
 |.LN _,_=>a8
 |.Kl _ _ _ _ _,_=>a8
 |.J' i _ _ _ _ _ _ _,n=>cb (n≠i)
 |.IU i _ _ _ _ j _ q _,n=>cb (n≠i)&&cb (n≠j)&&cb (n≠q)
 |.Mo _ _ _,_=>a8
noncomputable def JD:List S->Nat->Bool
 |[],_=>a8
 |s::ss,j=>Oe s j&&JD ss j
end
abbrev tW(rs:List (Kd×U))(is:List Nat)(body:List S):Bool:=rs.all λr=>match r.1 with
 |.bor j=>cb (j∉is)&&JD body j
 |_=>a8
mutual
noncomputable def exec:S->M Fl
 |.set i e=>do let r <-ev Γ e;dy i r;pure .nx
 |.M7 is e=>do let r <-ev Γ e;dG a8 is r;pure .nx
 |.put i k v=>do
  let r <-ev Γ v
  let _ <-di i
  let x <-ev Γ k
  let us <-dh [r,x]
  modS i (tV us)
  pure .nx
 |.app i e=>do
  let x <-di i
  Nz x.2
  let r <-ev Γ e
  let u <-lift r
  modS i (vK u)
  pure .nx
 |.ext i e=>do
  let x <-di i
  Nz x.2
  let r <-ev Γ e
  modS i (mK r)
  pure .nx
 |.bad=>M.fail
 |.newD i=>do CA i;pure .nx
 |.putD i k v=>do
  let r <-ev Γ v
  let d <-iE i
  let x <-ev Γ k
  let y <-j6 x
  lp i y r
  pure .nx
 |.K3 i k v=>do
  let _ <-iE i
  let x <-ev Γ k
  let y <-j6 x
  let d <-iE i
  if y∈d.1 then do
   let r <-ev Γ v
   let u <-lift r
   lq i y u
   pure .nx
  else M.fail
 |.aug sub i k v=>do
  let _ <-p_ i
  let y <-ev Γ k
  let j <-vI y
  let us <-p_ i
  let o <-M.Jd (qb us j)
  let z <-ev Γ v
  let w <-vI z
  modS i (fH (.int j) (.int (vJ sub o w)))
  pure .nx
 |.Q9 i=>do
  modS i H9
  pure .nx
 |.exp e=>do let _ <-ev Γ e;pure .nx
 |.ret e=>do let r <-ev Γ e;retS r
 |.M8=>pure (.rt .loc .IC)
 |.ite c a b=>do let p <-IW Γ c;if p=a8 then execs a else execs b
 |.Jl t is l src body=>do
  let rs <-aK Γ src
  au rs
  let xs <-M.Jd (Lg l rs)
  if tW rs is body=a8 then forM t is (execs body) rs xs else M.fail
 |.N_ c body=>gV (IW Γ c) (execs body) fuel
 |.brk=>pure .bk
 |.cnt=>pure .ct
 |.Q_=>pure .nx
 |.N' _=>M.fail
 |.Ly _=>M.fail
 |.Kz i=>λst=>a5 (.ok .nx,st.set i (a5 (.A',.ob (.tup []) [])))
 |.LM i e=>ev Γ e >>= λr=>lift r >>= λu=>M9 i (λ_ us=>a5 (u,us)) >>= λ_=>pure .nx
 |.LN i=>M9 i AZ >>= λ_=>pure .nx
 |.Kl f _ o es e=>P7 Γ f o (aK Γ es) >>= λt=>P8 t (ev Γ e)
 |.J' i f _ o es j x e=>P7 Γ f o (aK Γ es) >>= λt=>M_ i >>= λ_=>A4 j x >>= F0 (P8 t (ev Γ e))
 |.IU i f o es is j g q h=>vH q >>= λ_=>(Kh o >>= λ_=>(aK Γ es >>= x9) >>= λrs=>au rs >>= λ_=>iD Γ f o rs is) >>= λr=>M_ i >>= λ_=>A5 Γ j (ev Γ (.call g [.var q])) q h (aK Γ [.var j,.call g [.var q]]) r
 |.Mo t y _=>rW t y
noncomputable def execs:List S->M Fl
 |[]=>pure .nx
 |s::ss=>do
  let f <-exec s
  match f with
  |.nx=>execs ss
  |f=>pure f
end
end
structure Fn where
 name:Str
 np:Nat
 ns:Nat
 body:List S
abbrev start(us:List U)(n:Nat):aq:=us.map (λu=>a5 (if IQ u=a8 then Kd.loc else Kd.any,u))++js (n - us.length) bD
abbrev bW(Γ:Tab)(fn:Fn)(us:List U):Option (Ex (Kd×U)):=if us.length=fn.np then match execs Γ fn.body (start us fn.ns) with
  |some (.ok (.rt .own u),_)=>a5 (.ok (.own,u))
  |some (.ok (.rt .loc u),_)=>a5 (.ok (.loc,u))
  |some (.ok (.rt .any u),_)=>a5 (.ok (.any,u))
  |some (.ok .nx,_)=>a5 (.ok (.loc,.IC))
  |some (.ok (.rt .io (.str c)),_)=>a5 (.exc c)
  |_=>bD
 else bD
abbrev Of:List Nat->aq->Option (List U)
 |[],_=>a5 []
 |i::is,st=>match st[i]? with
  |some (a5 (.io,u))=>(Of is st).map (u::·)
  |_=>bD
abbrev Ra:Fl->Option (Kd×U)
 |.rt .A' u=>a5 (.A',u)
 |.rt .own u=>a5 (.own,u)
 |.rt .loc u=>a5 (.loc,u)
 |.nx=>a5 (.loc,.IC)
 |_=>bD
abbrev Fn.io(fn:Fn):Option (List Nat×List S):=match fn.body with
 |.N' is::body=>a5 (is,body)
 |_=>bD
abbrev ba(p:Nat)(us:List U)(n:Nat):aq:=(us.zipIdx.map λq=>a5 (if q.2=p then Kd.A' else if IQ q.1=a8 then Kd.loc else Kd.any,q.1))++js (n - us.length) bD
abbrev P9:Fl->Option (Kd×U)
 |.rt .own u=>a5 (.own,u)
 |.rt .loc u=>a5 (.loc,u)
 |.rt .io (.str c)=>a5 (.io,.str c)
 |.nx=>a5 (.loc,.IC)
 |_=>bD
abbrev Mp(p:Nat)(st:aq):Option U:=match st[p]? with
 |some (a5 (.A',.ob u us))=>a5 (.ob u us)
 |_=>bD
abbrev fI(Γ:Tab)(fn:Fn)(p:Nat)(body:List S)(us:List U):Option (Ex (Kd×U)):=if us.length=fn.np/\p<fn.np then match execs Γ body (ba p us fn.ns) with
  |some (.ok f,st)=>(P9 f).bind λr=>(Mp p st).map λo=>.ok (r.1,.tup [r.2,o])
  |_=>bD
 else bD
abbrev Fn.ob(fn:Fn):Option (Nat×List S):=match fn.body with
 |.Ly p::body=>a5 (p,body)
 |_=>bD
abbrev cv(is:List Nat)(us:List U)(n:Nat):aq:=(us.zipIdx.map λq=>a5 (if q.2=0 then Kd.A' else if q.2∈is then Kd.io else if q.2=3\/IQ q.1=a8 then Kd.loc else Kd.any,q.1))++js (n - us.length) bD
abbrev mL(Γ:Tab)(fn:Fn)(is:List Nat)(body:List S)(us:List U):Option (Ex (Kd×U)):=if us.length=fn.np/\0<fn.np then match execs Γ body (cv is us fn.ns) with
  |some (.ok f,st)=>(Ra f).bind λr=>(Mp 0 st).bind λo=>(Of is st).map λws=>.ok (r.1,.tup (r.2::o::ws))
  |_=>bD
 else bD
abbrev c7(us:List U)(n:Nat):aq:=(us.zipIdx.map λq=>a5 (if q.2=0 then Kd.loc else if IQ q.1=a8 then Kd.loc else Kd.any,q.1))++js (n - us.length) bD
abbrev P_:Fl->Option Bool
 |.rt .A' (.bl b)=>a5 b
 |.rt .loc (.bl b)=>a5 b
 |_=>bD
abbrev oG(Γ:Tab)(fn:Fn)(body:List S)(us:List U):Option (Ex (Kd×U)):=if us.length=fn.np/\0<fn.np then match execs Γ body (c7 us fn.ns) with
  |some (.ok f,_)=>(P_ f).map λb=>.ok (.loc,.bl b)
  |_=>bD
 else bD
abbrev gW(Γ:Tab)(fn:Fn)(us:List U):Option (Ex (Kd×U)):=match fn.io with
 |some (is,body)=>if is=[100] then oG Γ fn body us else mL Γ fn is body us
 |none=>match fn.ob with
  |some (p,body)=>fI Γ fn p body us
  |none=>bW Γ fn us
abbrev IZ(P:List Fn):Nat->Tab
 |0=>λ_ _=>bD
 |d+1=>λf us=>match P.find? λfn=>cb (fn.name=f) with
  |some fn=>gW (IZ P d) fn us
  |none=>bD
end TM
namespace TM
open PySem L2 PyProof.Rows
structure Me where
 fn:Fn
 x:Str
 i:Nat
 N:List Str
 a:dt
 c:dt
 m:dr
 cr:Obj
abbrev Me.fd(top:Nat->wk)(m:Me):QU:=PySem.W.fnOf m.x m.fn.name (gf (top m.i)) (bO (top m.i)) (av (top m.i)) .none .none .none m.m bD (.ref m.c) .none
abbrev Me.fo(top:Nat->wk)(m:Me):Obj:=#[.type "function",bD,.func (m.fd top),#v[]]
@[reducible]noncomputable def Gx:=Obj×List (dt×Obj)
abbrev adr(ms:List Me)(xa:List dt):List dt:=3::(ms.flatMap (λm=>[m.c,m.a])++xa)
abbrev JM(top:Nat->wk)(g:Gx)(ms:List Me):PySem.W.Frag:=(3,g.1)::(ms.flatMap (λm=>[(m.c,m.cr),(m.a,m.fo top)])++g.2)
def uE(top:Nat->wk)(g:Gx)(ms:List Me)(xa:List dt)(h:g.2.map (·.1)=xa):adr ms xa=(JM top g ms).map (·.1):=by
 unfold adr JM;rw[gi,mu,List.map_flatMap,h];rfl
abbrev y8(v:Option (Option dr))(a:dt):Bool:=match v with|some (a5 (.ref b))=>cb (b=a)|_=>b6
abbrev IU(K:PySem.W.Frag)(C:dt)(x:Str)(a:dt):Bool:=y8 (PySem.W.findIn K (.ref C) x) a&&PySem.W.isFn K (.ref a)
abbrev MO(n q:Str)(k l c:Nat)(r s:dt)(x y z:dr)(a b t:Nat):Obj:=#[.type "code",bD,.fields #v[.str n k,.str q (k+1),.str "/claim/cut.py" (k+2),.int l 0,.int c 0,.int 0 0,.int 0 0,.int 3 0,.ref r,.bool a8,.int t 0,.ref s,.none,x,y,z,.int a 0,.int l 0,.str "/claim/cut.py" b],#v[]]
abbrev co(n:Str)(k l c:Nat)(r s:dt)(x y z:dr)(a b t:Nat):Obj:=MO n n k l c r s x y z a b t
abbrev ge(P:Vl)(x:Str)(k:Nat)(v:dr):DictEntry:=#[sr P x,.str x k,v]
end TM
namespace TM
open PySem L2
abbrev wB:Fn:=#["_law_mix",2,3,[.set 2 (.bin .add (.bin .add (.bin .mul (.bin .add (.bin .mod (.var 0) (.bin .pow (.cst (.int 10)) (.cst (.int 15)))) (.cst (.int 1))) (.cst (.int 48271))) (.bin .mul (.bin .mul (.var 1) (.var 1)) (.cst (.int 16807)))) (.bin .mul (.var 1) (.cst (.int 7919)))),.ret (.bin .mod (.bin .mul (.bin .mod (.var 2) (.cst (.int 2147483647))) (.cst (.int 69621))) (.cst (.int 2147483629)))]]
abbrev uK:Fn:=#["_law_cell",2,3,[.ite (.cmp .lt (.var 1) (.bi .len [.var 0])) [.ret (.idx (.var 0) (.var 1))] [],.set 2 (.cst (.int 0)),.ite (.cmp .gt (.bi .len [.var 0]) (.cst (.int 0))) [.set 2 (.idx (.var 0) (.bin .mod (.var 1) (.bi .len [.var 0])))] [],.ret (.bin .add (.bin .mul (.cst (.int 2)) (.call "_law_mix" [.var 2,.var 1])) (.cst (.int 1)))]]
abbrev oZ:Fn:=#["_law_drawn",2,5,[.set 2 (.lst []),.set 3 (.bin .Lc (.var 0) (.cst (.int 2))),.Jl b6 [4] .Jv [.var 1] [.ite (.cmp .eq (.bin .mod (.var 0) (.cst (.int 2))) (.cst (.int 0))) [.app 2 (.bin .mod (.var 3) (.cst (.int 64))),.set 3 (.bin .Lc (.var 3) (.cst (.int 64)))] [.app 2 (.bin .mod (.bin .Lc (.call "_law_mix" [.var 0,.var 4]) (.cst (.int 7))) (.cst (.int 4096)))]],.ret (.var 2)]]
end TM
namespace TM
open PySem L2 Jc
abbrev fNames:Fn:=#["_law_names",3,5,[.set 3 (.lst []),.Jl b6 [4] .Jv [.var 2] [.app 3 (.call "_law_name" [.call "_law_drawn" [.call "_law_cell" [.var 0,.bin .add (.var 1) (.var 4)],.cst (.int 12)],.var 3])],.ret (.var 3)]]
abbrev jR:Fn:=#["_law_told",2,6,[.set 2 (.bi .len [.var 1]),.ite (.and [.cmp .gt (.bin .mod (.idx (.var 0) (.cst (.int 2))) (.cst (.int 3))) (.cst (.int 0)),.cmp .gt (.bin .mod (.idx (.var 0) (.cst (.int 0))) (.bi .len [.var 1])) (.cst (.int 0))]) [.set 2 (.bin .mod (.idx (.var 0) (.cst (.int 0))) (.bi .len [.var 1]))] [],.set 3 (.lst []),.Jl b6 [4] .Jv [.idx (.lst [.cst (.int 0),.cst (.int 0),.cst (.int 1),.cst (.int 1),.cst (.int 1),.cst (.int 2),.cst (.int 2),.cst (.int 2),.cst (.int 3),.cst (.int 8)]) (.bin .mod (.idx (.var 0) (.cst (.int 1))) (.cst (.int 10)))] [.set 5 (.idx (.var 1) (.bin .mod (.idx (.var 0) (.bin .add (.cst (.int 3)) (.var 4))) (.var 2))),.ite (.cmp .Iz (.var 5) (.var 3)) [.app 3 (.var 5)] []],.ret (.bi .tuple [.var 3])]]
end TM
namespace KL
open PySem L2 TM
abbrev dg:Fn:=#["gathered",1,4,[.newD 1,.Jl a8 [2,3] .seq [.var 0] [.ite (.inD a8 (.var 2) 1) [.putD 1 (.var 2) (.lst [])] [],.K3 1 (.var 2) (.var 3)],.ret (.OW 1)]]
abbrev aZ:Fn:=#["places_that_tell",1,4,[.set 1 (.lst []),.Jl a8 [2,3] .Ny [.var 0] [.ext 1 (.comp 1 b6 .seq [.idx (.var 3) (.cst (.int 1))] [] (.tup [.var 0,.var 3]))],.ret (.call "gathered" [.var 1])]]
abbrev cM:Fn:=#["new_steps",3,6,[.set 3 (.KY b6),.Jl b6 [4] .seq [.var 1] [.set 5 (.idx (.idx (.var 0) (.var 4)) (.cst (.int 0))),.ite (.and [.cmp .Iz (.var 5) (.var 2),.cmp .Iz (.var 5) (.var 3)]) [.put 3 (.var 5) (.var 4)] []],.ret (.OX 3)]]
abbrev a_:Fn:=#["steps_in_rounds",1,10,[.set 1 (.call "places_that_tell" [.var 0]),.set 2 (.comp 1 b6 .seq [.var 0] [] (.bi .len [.idx (.var 0) (.cst (.int 1))])),.set 3 (.KY b6),.set 4 (.lst []),.set 5 (.comp 2 a8 .Ny [.var 2] [.cmp .eq (.var 1) (.cst (.int 0))] (.var 0)),.N_ (.cmp .ne (.var 5) (.lst [])) [.set 6 (.call "new_steps" [.var 0,.var 5,.var 3]),.set 5 (.lst []),.Jl a8 [7,8] .seq [.var 6] [.put 3 (.var 7) (.cst (.bl a8)),.Jl b6 [9] .seq [.Lf 1 (.var 7) (.lst [])] [.aug a8 2 (.var 9) (.cst (.int 1)),.ite (.cmp .eq (.idx (.var 2) (.var 9)) (.cst (.int 0))) [.app 5 (.var 9)] []]],.ite (.cmp .ne (.var 6) (.lst [])) [.app 4 (.var 6)] []],.ret (.var 4)]]
abbrev fy:Fn:=#["order",1,3,[.set 1 (.lst []),.Jl b6 [2] .seq [.call "steps_in_rounds" [.var 0]] [.ext 1 (.var 2)],.ret (.var 1)]]
abbrev eV:Fn:=#["learnt",1,1,[.ret (.bi .sorted [.comp 2 a8 .seq [.call "order" [.var 0]] [] (.var 0)])]]
end KL
namespace K
open PySem L2 TM
abbrev top(i:Nat):wk:=if i<1000 then PySem.Challenge.pw_primer_k51_a_shelf_walked.main.body.getD i (.Pass #[0,0,0,0]) else match PySem.Challenge.pw_primer_k51_a_shelf_walked.main.body.getD (i / 1000 - 1) (.Pass #[0,0,0,0]) with|.ClassDef _ _ _ b _ _ _ _ _ _ _=>b.getD (i % 1000) (.Pass #[0,0,0,0])|_=>.Pass #[0,0,0,0]
abbrev gz:Fn:=#["is_stem",1,1,[.ite (.or [.cmp .eq (.var 0) (.cst (.str "")),.cmp .gt (.bi .len [.var 0]) (.Le "LONGEST_STEM" (.int 8))]) [.ret (.cst (.bl b6))] [],.ret (.bi .all [.comp 1 b6 .seq [.var 0] [] (.cmp .isin (.var 0) (.Le "LETTERS" (.str "abcdefghijklmnopqrstuvwxyz")))])]]
abbrev cp:Fn:=#["is_later_sense",1,1,[.ret (.cmp .isin (.var 0) (.comp 1 b6 .M5 [.bin .add (.Le "FIRST_SENSE" (.int 1)) (.cst (.int 1)),.bin .add (.Le "LAST_SENSE" (.int 99)) (.cst (.int 1))] [] (.bi .str [.var 0])))]]
abbrev gA:Fn:=#["is_word",1,1,[.ite (.cmp .Iz (.cst (.str "/")) (.var 0)) [.ret (.call "is_stem" [.var 0])] [],.ret (.and [.call "is_stem" [.call "stem_of" [.var 0]],.call "is_later_sense" [.call "number_of" [.var 0]]])]]
abbrev jz:Fn:=#["stem_of",1,1,[.ret (.idx (.Lx .partition (.var 0) [.cst (.str "/")]) (.cst (.int 0)))]]
abbrev f_:Fn:=#["number_of",1,1,[.ret (.idx (.Lx .partition (.var 0) [.cst (.str "/")]) (.cst (.int 2)))]]
abbrev iZ:Fn:=#["is_row",1,2,[.set 1 (.idx (.var 0) (.cst (.int 1))),.ite (.or [.cmp .gt (.bi .len [.var 1]) (.Le "MOST_TOLD" (.int 8)),.cmp .lt (.ME .jg [.var 1]) (.bi .len [.var 1])]) [.ret (.cst (.bl b6))] [],.ret (.and [.call "is_word" [.idx (.var 0) (.cst (.int 0))],.bi .all [.comp 1 b6 .seq [.var 1] [] (.call "is_word" [.var 0])]])]]
abbrev b9:Fn:=#["in_one_order",1,1,[.ret (.tup [.idx (.var 0) (.cst (.int 0)),.bi .tuple [.bi .sorted [.idx (.var 0) (.cst (.int 1))]]])]]
abbrev i_:Fn:=#["alike",2,2,[.ret (.cmp .eq (.call "in_one_order" [.var 0]) (.call "in_one_order" [.var 1]))]]
noncomputable abbrev dg:Fn:=KL.dg
noncomputable abbrev aZ:Fn:=KL.aZ
noncomputable abbrev cM:Fn:=KL.cM
noncomputable abbrev a_:Fn:=KL.a_
noncomputable abbrev fy:Fn:=KL.fy
noncomputable abbrev eV:Fn:=KL.eV
abbrev cW:Fn:=#["places_alike",2,2,[.ret (.comp 2 a8 .Ny [.var 0] [.call "alike" [.var 1,.var 3]] (.var 0))]]
abbrev bY:Fn:=#["gained_and_lost",2,6,[.set 2 (.call "learnt" [.var 0]),.set 3 (.call "learnt" [.var 1]),.set 4 (.comp 1 b6 .seq [.var 3] [.cmp .Iz (.var 0) (.var 3)] (.var 0)),.set 5 (.comp 1 b6 .seq [.var 2] [.cmp .Iz (.var 0) (.var 4)] (.var 0)),.ret (.tup [.var 4,.var 5])]]
abbrev zP:Fn:=#["Shelf.__init__",1,1,[.bad,.bad]]
abbrev eW:Fn:=#["Shelf.book",1,1,[.Ly 0,.ret (.Jy 0)]]
abbrev bV:Fn:=#["Shelf.learnt_now",1,1,[.Ly 0,.ret (.call "learnt" [.Jy 0])]]
abbrev d0:Fn:=#["Shelf.deeds",1,1,[.Ly 0,.ret (.LL 0)]]
abbrev d4:Fn:=#["Shelf.put",3,4,[.Ly 0,.set 3 (.tup [.var 1,.bi .tuple [.var 2]]),.ite (.or [.not (.call "is_row" [.var 3]),.cmp .ne (.call "places_alike" [.Jy 0,.var 3]) (.lst [])]) [.bad] [],.ite (.cmp .ge (.bi .len [.Jy 0]) (.Le "MOST_ROWS" (.int 60))) [.bad] [],.ret (.Kq "Shelf.do_deed" "do_deed" 0 [.bin .add (.Jy 0) (.tup [.var 3])])]]
abbrev eX:Fn:=#["Shelf.take",3,4,[.Ly 0,.set 3 (.call "places_alike" [.Jy 0,.tup [.var 1,.bi .tuple [.var 2]]]),.ite (.cmp .eq (.var 3) (.lst [])) [.bad] [],.ret (.Kq "Shelf.do_deed" "do_deed" 0 [.bin .add (.Kg (.Jy 0) [] [.idx (.var 3) (.cst (.int 0))]) (.Kg (.Jy 0) [.bin .add (.idx (.var 3) (.cst (.int 0))) (.cst (.int 1))] [])])]]
abbrev eY:Fn:=#["Shelf.back",1,1,[.Ly 0,.ite (.KZ 0) [.bad] [],.ret (.Kq "Shelf.turn_to" "turn_to" 0 [.j4 0])]]
abbrev cX:Fn:=#["Shelf.do_deed",2,2,[.Ly 0,.LN 0,.ret (.Kq "Shelf.turn_to" "turn_to" 0 [.var 1])]]
abbrev cY:Fn:=#["Shelf.turn_to",2,3,[.Ly 0,.set 2 (.call "gained_and_lost" [.Jy 0,.var 1]),.LM 0 (.var 1),.ret (.var 2)]]
noncomputable abbrev nR:Fn:=TM.wB
noncomputable abbrev mj:Fn:=TM.uK
noncomputable abbrev jS:Fn:=TM.oZ
abbrev mn:Fn:=#["_law_name",2,6,[.set 2 (.cst (.str "abcdefghijklmnopqrstuvwxyz")),.set 3 (.Lx .join (.cst (.str "")) [.comp 1 b6 .Jv [.bin .add (.cst (.int 1)) (.bin .mod (.idx (.var 0) (.cst (.int 0))) (.cst (.int 8)))] [] (.idx (.var 3) (.bin .mod (.idx (.var 1) (.bin .add (.cst (.int 4)) (.var 0))) (.cst (.int 26))))]),.ite (.cmp .gt (.bi .len [.var 1]) (.cst (.int 0))) [.set 4 (.idx (.Lx .split (.idx (.var 1) (.bin .mod (.idx (.var 0) (.cst (.int 1))) (.bi .len [.var 1]))) [.cst (.str "/")]) (.cst (.int 0))),.ite (.cmp .eq (.bin .mod (.idx (.var 0) (.cst (.int 2))) (.cst (.int 4))) (.cst (.int 1))) [.set 3 (.Kg (.bin .add (.var 4) (.var 3)) [] [.cst (.int 8)])] [],.ite (.cmp .eq (.bin .mod (.idx (.var 0) (.cst (.int 2))) (.cst (.int 4))) (.cst (.int 2))) [.set 3 (.bin .add (.bin .add (.var 4) (.cst (.str "/"))) (.bi .str [.bin .add (.cst (.int 2)) (.bin .mod (.idx (.var 0) (.cst (.int 3))) (.cst (.int 98)))]))] []] [],.set 5 (.bin .add (.lst [.var 3]) (.comp 1 b6 .Jv [.cst (.int 40)] [] (.bin .add (.idx (.var 3) (.bin .Lc (.var 0) (.cst (.int 26)))) (.idx (.var 3) (.bin .mod (.var 0) (.cst (.int 26))))))),.ret (.idx (.comp 1 b6 .seq [.var 5] [.cmp .Iz (.var 0) (.var 2)] (.var 0)) (.cst (.int 0)))]]
noncomputable abbrev jT:Fn:=TM.fNames
noncomputable abbrev mr:Fn:=TM.jR
abbrev dJ:Fn:=#["_law_learnt",1,5,[.set 1 (.KY b6),.set 2 (.cst (.bl a8)),.N_ (.var 2) [.set 2 (.cst (.bl b6)),.Jl a8 [3,4] .seq [.var 0] [.ite (.and [.cmp .Iz (.var 3) (.var 1),.bi .all [.comp 1 b6 .seq [.var 4] [] (.cmp .isin (.var 0) (.var 2))]]) [.put 1 (.var 3) (.cst (.bl a8)),.set 2 (.cst (.bl a8))] []]],.ret (.bi .sorted [.var 1])]]
abbrev dM:Fn:=#["_law_stands",2,2,[.ret (.cmp .ne (.comp 1 b6 .seq [.var 0] [.and [.cmp .eq (.idx (.var 0) (.cst (.int 0))) (.idx (.var 2) (.cst (.int 0))),.cmp .eq (.bi .sorted [.idx (.var 0) (.cst (.int 1))]) (.bi .sorted [.idx (.var 2) (.cst (.int 1))])]] (.var 0)) (.lst []))]]
abbrev bJ:Fn:=#["_law_turn_right",3,6,[.N' [100],.ite (.or [.not (.J4 (.var 0) .tuple),.cmp .ne (.bi .len [.var 0]) (.cst (.int 2)),.not (.J4 (.idx (.var 0) (.cst (.int 0))) .list)]) [.ret (.cst (.bl b6))] [],.set 3 (.comp 1 b6 .seq [.var 2] [.cmp .Iz (.var 0) (.var 2)] (.var 0)),.set 4 (.comp 1 b6 .seq [.var 1] [.cmp .Iz (.var 0) (.var 3)] (.var 0)),.set 5 (.and [.J4 (.idx (.var 0) (.cst (.int 1))) .list,.cmp .eq (.idx (.var 0) (.cst (.int 0))) (.var 3),.cmp .eq (.idx (.var 0) (.cst (.int 1))) (.var 4)]),.Mo 0 5 "x"]]
abbrev du:Fn:=#["_law_right",3,7,[.Ly 0,.set 3 (.Kq "Shelf.book" "book" 0 []),.ite (.or [.not (.J4 (.var 3) .tuple),.cmp .ne (.var 3) (.bi .tuple [.var 1])]) [.ret (.cst (.bl b6))] [],.Jl b6 [4] .seq [.var 3] [.ite (.or [.not (.J4 (.var 4) .tuple),.not (.J4 (.idx (.var 4) (.cst (.int 1))) .tuple)]) [.ret (.cst (.bl b6))] []],.set 5 (.Kq "Shelf.learnt_now" "learnt_now" 0 []),.ite (.or [.not (.J4 (.var 5) .list),.cmp .ne (.var 5) (.call "_law_learnt" [.var 1])]) [.ret (.cst (.bl b6))] [],.app 5 (.cst (.str "x")),.set 6 (.Kq "Shelf.deeds" "deeds" 0 []),.ret (.and [.J4 (.var 6) .int,.not (.J4 (.var 6) .bool),.cmp .eq (.var 6) (.bi .len [.var 2])])]]
abbrev cH:Fn:=#["_law_deed",5,13,[.N' [4],.set 5 (.tup [.idx (.var 2) (.bin .mod (.idx (.var 1) (.cst (.int 0))) (.bi .len [.var 2])),.call "_law_told" [.var 1,.var 2]]),.set 6 (.bin .mod (.idx (.var 1) (.cst (.int 11))) (.cst (.int 8))),.ite (.and [.cmp .eq (.var 6) (.cst (.int 7)),.cmp .ne (.var 4) (.lst [])]) [.set 7 (.pop 4),.Kl "Shelf.back" "back" 0 [] (.var 7)] [],.ite (.and [.cmp .gt (.var 6) (.cst (.int 4)),.cmp .ne (.var 3) (.lst [])]) [.set 8 (.bin .mod (.idx (.var 1) (.cst (.int 12))) (.bi .len [.var 3])),.set 9 (.bi .list [.idx (.idx (.var 3) (.var 8)) (.cst (.int 1))]),.set 10 (.bin .mod (.idx (.var 1) (.cst (.int 13))) (.bin .add (.bi .len [.var 9]) (.cst (.int 1)))),.app 4 (.var 3),.Kl "Shelf.take" "take" 0 [.idx (.idx (.var 3) (.var 8)) (.cst (.int 0)),.ME .KW [.bin .add (.Kg (.var 9) [.var 10] []) (.Kg (.var 9) [] [.var 10])]] (.bin .add (.Kg (.var 3) [] [.var 8]) (.Kg (.var 3) [.bin .add (.var 8) (.cst (.int 1))] []))] [],.ite (.call "_law_stands" [.var 3,.var 5]) [.ret (.cst .IC)] [],.app 4 (.var 3),.set 11 (.bi .list [.idx (.var 5) (.cst (.int 1))]),.J' 12 "Shelf.put" "put" 0 [.idx (.var 5) (.cst (.int 0)),.var 11] 11 "x" (.bin .add (.var 3) (.lst [.var 5]))]]
abbrev uT:Fn:=#["law",1,9,[.set 1 (.call "_law_drawn" [.call "_law_cell" [.var 0,.cst (.int 0)],.cst (.int 4)]),.set 2 (.call "_law_names" [.var 0,.cst (.int 1),.bin .add (.cst (.int 1)) (.bin .mod (.idx (.var 1) (.cst (.int 0))) (.cst (.int 14)))]),.Kz 3,.set 4 (.lst []),.set 5 (.lst []),.ite (.not (.J_ "_law_right" 3 [] [.var 4,.var 5])) [.ret (.cst (.bl b6))] [],.Jl b6 [6] .Jv [.bin .mod (.idx (.var 1) (.cst (.int 1))) (.cst (.int 31))] [.IU 7 "_law_deed" 3 [.call "_law_drawn" [.call "_law_cell" [.var 0,.bin .add (.cst (.int 20)) (.var 6)],.cst (.int 14)],.var 2,.var 4,.var 5] [4] 8 "_law_learnt" 4 "_law_turn_right",.ite (.not (.J_ "_law_right" 3 [] [.var 4,.var 5])) [.ret (.cst (.bl b6))] []],.ret (.cst (.bl a8))]]
abbrev prog:List Fn:=[gz,cp,gA,jz,f_,iZ,b9,i_,dg,aZ,cM,a_,fy,eV,cW,bY,zP,eW,bV,d0,d4,eX,eY,cX,cY,nR,mj,jS,mn,jT,mr,dJ,dM,bJ,du,cH,uT]
end K
namespace K
open PySem L2 TM PySem.W PyProof.Rows
abbrev m0:dr:=.str "primer.words" 271
abbrev m1:dr:=.str "primer.books" 314
abbrev m2:dr:=.str "primer.learning" 351
abbrev m3:dr:=.str "primer.shelf" 392
abbrev m4:dr:=.str "law_primer_k51_a_shelf_walked" 500
abbrev ml:Me:=#[uT,"law",45,["_law_script","_law_drawn_here","_law_names_here","_law_shelf","_law_rows","_law_past","_law_k","_law_found","_law_ahead"],324,323,m4,co "law" 610 239 1 318 319 (.ref 320) (.ref 321) (.ref 322) 622 623 181]
abbrev ms:List Me:=[⟨gz,"is_stem",11,["text"],80,79,m0,co "is_stem" 281 17 1 76 77 .none .none (.ref 78) 284 285 181⟩,
 ⟨cp,"is_later_sense",12,["text"],85,84,m0,co "is_later_sense" 287 21 1 81 82 .none .none (.ref 83) 290 291 181⟩,
 ⟨gA,"is_word",13,["text"],92,91,m0,co "is_word" 293 23 1 86 87 (.ref 88) (.ref 89) (.ref 90) 297 298 181⟩,
 ⟨jz,"stem_of",14,["word"],99,98,m0,co "stem_of" 300 27 1 93 94 (.ref 95) (.ref 96) (.ref 97) 304 305 181⟩,
 ⟨f_,"number_of",15,["word"],106,105,m0,co "number_of" 307 29 1 100 101 (.ref 102) (.ref 103) (.ref 104) 311 312 181⟩,
 ⟨iZ,"is_row",19,["row","told"],111,110,m1,co "is_row" 320 34 1 107 108 .none .none (.ref 109) 323 324 181⟩,
 ⟨b9,"in_one_order",20,["row"],118,117,m1,co "in_one_order" 326 39 1 112 113 (.ref 114) (.ref 115) (.ref 116) 330 331 181⟩,
 ⟨i_,"alike",21,["row","other"],125,124,m1,co "alike" 333 41 2 119 120 (.ref 121) (.ref 122) (.ref 123) 338 339 181⟩,
 ⟨dg,"gathered",22,["pairs","found","key","value"],132,131,m1,co "gathered" 341 43 1 126 127 (.ref 128) (.ref 129) (.ref 130) 348 349 181⟩,
 ⟨aZ,"places_that_tell",24,["book","pairs","place","row"],137,136,m2,co "places_that_tell" 353 51 1 133 134 .none .none (.ref 135) 356 357 181⟩,
 ⟨cM,"new_steps",25,["book","places","known","steps","place","word"],144,143,m2,co "new_steps" 359 56 3 138 139 (.ref 140) (.ref 141) (.ref 142) 368 369 181⟩,
 ⟨a_,"steps_in_rounds",26,["book","tellers","missing","known","found","ready","steps","word","place","teller"],149,148,m2,co "steps_in_rounds" 371 63 1 145 146 .none .none (.ref 147) 374 375 181⟩,
 ⟨fy,"order",27,["book","found","steps"],156,155,m2,co "order" 377 81 1 150 151 (.ref 152) (.ref 153) (.ref 154) 383 384 181⟩,
 ⟨eV,"learnt",28,["book"],161,160,m2,co "learnt" 386 86 1 157 158 .none .none (.ref 159) 389 390 181⟩,
 ⟨cW,"places_alike",30,["book","row"],166,165,m3,co "places_alike" 394 89 2 162 163 .none .none (.ref 164) 397 398 181⟩,
 ⟨bY,"gained_and_lost",31,["ahead","behind","known","known_then","gained","lost"],171,170,m3,co "gained_and_lost" 400 91 2 167 168 .none .none (.ref 169) 403 404 181⟩,
 ⟨zP,"__init__",33000,["self"],185,184,m3,MO "__init__" "Shelf.__init__" 418 99 1 179 180 (.ref 181) (.ref 182) (.ref 183) 422 423 181⟩,
 ⟨eW,"book",33001,["self"],192,191,m3,MO "book" "Shelf.book" 425 103 1 186 187 (.ref 188) (.ref 189) (.ref 190) 429 430 181⟩,
 ⟨bV,"learnt_now",33002,["self"],199,198,m3,MO "learnt_now" "Shelf.learnt_now" 432 106 1 193 194 (.ref 195) (.ref 196) (.ref 197) 436 437 181⟩,
 ⟨d0,"deeds",33003,["self"],206,205,m3,MO "deeds" "Shelf.deeds" 439 109 1 200 201 (.ref 202) (.ref 203) (.ref 204) 443 444 181⟩,
 ⟨d4,"put",33004,["self","word","told","row"],213,212,m3,MO "put" "Shelf.put" 446 112 3 207 208 (.ref 209) (.ref 210) (.ref 211) 453 454 181⟩,
 ⟨eX,"take",33005,["self","word","told","places"],220,219,m3,MO "take" "Shelf.take" 456 120 3 214 215 (.ref 216) (.ref 217) (.ref 218) 463 464 181⟩,
 ⟨eY,"back",33006,["self"],227,226,m3,MO "back" "Shelf.back" 466 126 1 221 222 (.ref 223) (.ref 224) (.ref 225) 470 471 181⟩,
 ⟨cX,"do_deed",33007,["self","rows"],234,233,m3,MO "do_deed" "Shelf.do_deed" 473 131 2 228 229 (.ref 230) (.ref 231) (.ref 232) 478 479 181⟩,
 ⟨cY,"turn_to",33008,["self","rows","changes"],241,240,m3,MO "turn_to" "Shelf.turn_to" 481 135 2 235 236 (.ref 237) (.ref 238) (.ref 239) 487 488 181⟩,
 ⟨nR,"_law_mix",34,["_law_cell_here","_law_k","_law_by"],255,254,m4,co "_law_mix" 502 140 2 249 250 (.ref 251) (.ref 252) (.ref 253) 508 509 181⟩,
 ⟨mj,"_law_cell",35,["_law_script","_law_k","_law_seed"],262,261,m4,co "_law_cell" 511 143 2 256 257 (.ref 258) (.ref 259) (.ref 260) 517 518 181⟩,
 ⟨jS,"_law_drawn",36,["_law_cell_here","_law_many","_law_found","_law_left","_law_k"],269,268,m4,co "_law_drawn" 520 150 2 263 264 (.ref 265) (.ref 266) (.ref 267) 528 529 181⟩,
 ⟨mn,"_law_name",37,["_law_drawn_here","_law_names_here","_law_letters","_law_name_here","_law_stem","_law_spare"],274,273,m4,co "_law_name" 531 160 2 270 271 .none .none (.ref 272) 534 535 181⟩,
 ⟨jT,"_law_names",38,["_law_script","_law_base","_law_many","_law_names_here","_law_k"],281,280,m4,co "_law_names" 537 171 3 275 276 (.ref 277) (.ref 278) (.ref 279) 545 546 181⟩,
 ⟨mr,"_law_told",39,["_law_drawn_here","_law_names_here","_law_top","_law_told_here","_law_k","_law_one"],288,287,m4,co "_law_told" 548 176 2 282 283 (.ref 284) (.ref 285) (.ref 286) 557 558 181⟩,
 ⟨dJ,"_law_learnt",40,["_law_rows","_law_known","_law_grown","_law_word","_law_told_here"],293,292,m4,co "_law_learnt" 560 186 1 289 290 .none .none (.ref 291) 563 564 181⟩,
 ⟨dM,"_law_stands",41,["_law_rows","_law_row"],298,297,m4,co "_law_stands" 566 196 2 294 295 .none .none (.ref 296) 569 570 181⟩,
 ⟨bJ,"_law_turn_right",42,["_law_turn","_law_ahead","_law_behind","_law_gained","_law_lost","_law_right_here"],303,302,m4,co "_law_turn_right" 572 198 3 299 300 .none .none (.ref 301) 575 576 181⟩,
 ⟨du,"_law_right",43,["_law_shelf","_law_rows","_law_past","_law_book","_law_row","_law_known","_law_deeds"],310,309,m4,co "_law_right" 578 207 3 304 305 (.ref 306) (.ref 307) (.ref 308) 588 589 181⟩,
 ⟨cH,"_law_deed",44,["_law_shelf","_law_drawn_here","_law_names_here","_law_rows","_law_past","_law_row","_law_kind","_law_behind","_law_at","_law_told_here","_law_cut","_law_handed","_law_turn"],317,316,m4,co "_law_deed" 591 220 5 311 312 (.ref 313) (.ref 314) (.ref 315) 607 608 181⟩,
 ml]
abbrev gg(P:Vl):Obj:=#[.type "dict",bD,.dict #v[ge P "__name__" 165 (.str "law_primer_k51_a_shelf_walked" 500),ge P "__doc__" 166 .none,ge P "__package__" 167 .none,ge P "__loader__" 168 (.builtin "__main__.__loader__#opaque"),ge P "__spec__" 169 .none,ge P "__annotations__" 170 (.ref 6),ge P "__builtins__" 171 (.ref 4),ge P "__file__" 173 (.str "/claim/cut.py" 172),ge P "__cached__" 174 .none,ge P "PrimerError" 206 (.ref 24),ge P "Unfit" 222 (.ref 37),ge P "TooMany" 238 (.ref 49),ge P "NoRow" 254 (.ref 61),ge P "NoDeed" 270 (.ref 73),ge P "LETTERS" 274 (.str "abcdefghijklmnopqrstuvwxyz" 273),ge P "LONGEST_STEM" 276 (.int 8 275),ge P "FIRST_SENSE" 278 (.int 1 277),ge P "LAST_SENSE" 280 (.int 99 279),ge P "is_stem" 286 (.ref 80),ge P "is_later_sense" 292 (.ref 85),ge P "is_word" 299 (.ref 92),ge P "stem_of" 306 (.ref 99),ge P "number_of" 313 (.ref 106),ge P "MOST_TOLD" 317 (.int 8 316),ge P "MOST_ROWS" 319 (.int 60 318),ge P "is_row" 325 (.ref 111),ge P "in_one_order" 332 (.ref 118),ge P "alike" 340 (.ref 125),ge P "gathered" 350 (.ref 132),ge P "places_that_tell" 358 (.ref 137),ge P "new_steps" 370 (.ref 144),ge P "steps_in_rounds" 376 (.ref 149),ge P "order" 385 (.ref 156),ge P "learnt" 391 (.ref 161),ge P "places_alike" 399 (.ref 166),ge P "gained_and_lost" 405 (.ref 171),ge P "Shelf" 499 (.ref 244),ge P "_law_mix" 510 (.ref 255),ge P "_law_cell" 519 (.ref 262),ge P "_law_drawn" 530 (.ref 269),ge P "_law_name" 536 (.ref 274),ge P "_law_names" 547 (.ref 281),ge P "_law_told" 559 (.ref 288),ge P "_law_learnt" 565 (.ref 293),ge P "_law_stands" 571 (.ref 298),ge P "_law_turn_right" 577 (.ref 303),ge P "_law_right" 590 (.ref 310),ge P "_law_deed" 609 (.ref 317),ge P "law" 624 (.ref 324)] 49,#v[]]
abbrev xo(P:Vl):List (dt×Obj):=[(244,({cls:=.type "type",data:=.cls {name:="Shelf",bases:=[.type "object"],mro:=[.ref 244,.type "object"],ns:=243,qualname:="Shelf" },slots:=#v[bD,bD,a5 (.str "Shelf" 406),a5 (.str "Shelf" 414),a5 (.builtin "object.__new__"),a5 (.bool a8)]}:Obj)),
 (243,({cls:=.type "dict",data:=.dict #v[{hash:=sr P "__module__",key:=.str "__module__" 413,val:=.str "primer.shelf" 392},{hash:=sr P "__firstlineno__",key:=.str "__firstlineno__" 417,val:=.int 97 416},{hash:=sr P "__init__",key:=.str "__init__" 424,val:=.ref 185},{hash:=sr P "book",key:=.str "book" 431,val:=.ref 192},{hash:=sr P "learnt_now",key:=.str "learnt_now" 438,val:=.ref 199},{hash:=sr P "deeds",key:=.str "deeds" 445,val:=.ref 206},{hash:=sr P "put",key:=.str "put" 455,val:=.ref 213},{hash:=sr P "take",key:=.str "take" 465,val:=.ref 220},{hash:=sr P "back",key:=.str "back" 472,val:=.ref 227},{hash:=sr P "do_deed",key:=.str "do_deed" 480,val:=.ref 234},{hash:=sr P "turn_to",key:=.str "turn_to" 489,val:=.ref 241},{hash:=sr P "__static_attributes__",key:=.str "__static_attributes__" 492,val:=.ref 242},{hash:=sr P "__dict__",key:=.str "__dict__" 494,val:=.ref 245},{hash:=sr P "__weakref__",key:=.str "__weakref__" 496,val:=.ref 246},{hash:=sr P "__doc__",key:=.str "__doc__" 497,val:=.none}] 4}:Obj))]
abbrev gx(P:Vl):Gx:=(gg P,xo P)
abbrev xa:List dt:=[244,243]
abbrev hk:Hook:=kHook (λP=>JM top (gx P) ms) (adr ms xa) λP=>uE top (gx P) ms xa rfl
def O1(w:wh):(oe w).map hk.obs=a5 (hk.val w):=by kernel_rfl
end K
namespace TM
open PySem L2
section
variable{X:Cx}{pins:List (dt×Obj)}{σ:St}{H:Hp}{s:hQ}{C:Ct}{S:dt->Prop}
def tX(I:Inv X pins σ H s)(h:Jk X.K H a vs):∃b:List dr,Vals vs b/\s.heap.IsList a b.toArray/\vs.length<=cK:=by
 have(b,r,p,z):=I.list h;show#[b,r,p.isList,z]
inductive Jw(s:hQ):Nat->U->dr->Prop where
 |IC {n:Nat}:Jw s n .IC .none
 |bl {n:Nat} {b:Bool}:Jw s n (.bl b) (.bool b)
 |int {n:Nat} {i:Int} {t:Tok}:Jw s n (.int i) (.int i t)
 |str {n:Nat} {y:Str} {t:Tok}:Jw s n (.str y) (.str y t)
 |tup {n:Nat} {us:List U} {B':List dr} {a:dt}:us.length=B'.length->(∀j (hj:j<B'.length),Jw s n (us.getD j .IC) B'[j])->cy us us=a8->s.heap.IsTuple a B'.toArray->Jw s (n+1) (.tup us) (.ref a)
 |lst {n:Nat} {us:List U} {B':List dr} {a:dt}:us.length=B'.length->(∀j (hj:j<B'.length),Jw s n (us.getD j .IC) B'[j])->cy us us=a8->s.heap.IsList a B'.toArray->Jw s (n+1) (.lst us) (.ref a)
def Jw.self(h:Jw s n u x):bK u u=a8:=by
 cases h<;>first|assumption|simp[bK]
theorem Jw.vL(f:∀u v x,Jg n u=a8->Rep C S H u v->RelV v x->Jw s n u x):∀{us:List U}{vs:List V}{a:List dr},bS n us=a8->ar C S H us vs->Vals vs a->us.length=a.length/\(∀j (b:j<a.length),Jw s n (us.getD j .IC) a[j])/\cy us us=a8
 |[],_,_,_,h,r=>by cases h;cases r;show#[rfl,λj b=>(nomatch b),rfl]
 |u::us,_,_,e,h,r=>by
  have(v,vs,rfl,c,d):=h;simp only[bS,b5]at e;cases r with
  |cons r1 r2 =>
   have(l,k,y):=Jw.vL f e.2 d r2;show#[by simp[l],λj b=>?_,by rw[cy,(f _ _ _ e.1 c r1).self,y];rfl];cases j with
   |zero=>show f _ _ _ e.1 c r1
   |succ j=>show k j (by simpa using b)
def Jw.of(I:Inv X pins σ H s)(d:C.K=X.K):∀(n:Nat) (u:U) (v:V) (x:dr),Jg n u=a8->Rep C S H u v->RelV v x->Jw s n u x:=by
 intro n;induction n with
 |zero=>intro u v x e h r;cases u<;>first|(simp[Jg]at e;done)|(simp only[Rep]at h;subst h;first|(cases r;constructor)|(have(t,rfl):=r;constructor))
 |succ n f =>
  intro u v x e h r;cases u with
  |tup us =>
   have(a,vs,rfl,b,c):=h;cases r;have(g,rv,p,_):=I.tuple (d▸b);have(l,k,y):=Jw.vL f (by simpa[Jg] using e) c rv;show .tup l k y p
  |lst us =>
   have(a,vs,rfl,b,c):=h;cases r;have(g,rv,p,_):=tX I (d▸b.sq);have(l,k,y):=Jw.vL f (by simpa[Jg] using e) c rv;show .lst l k y p
  |_=>first|(simp[Jg]at e;done)|(simp only[Rep]at h;subst h;first|(cases r;constructor)|(have(t,rfl):=r;constructor))
def Jw.inj:∀{n:Nat}{u w:U}{x:dr},Jw s n u x->Jw s n w x->u=w:=by
 intro n;induction n with
 |zero=>intro u w x h h';cases h<;>cases h'<;>rfl
 |succ n q =>
  have go:∀{us ws:List U} {c its':List dr} {a:dt} {o o':Obj} {m g:Nat},us.length=c.length->(∀j (r:j<c.length),Jw s n (us.getD j .IC) c[j])->ws.length=its'.length->(∀j (r:j<its'.length),Jw s n (ws.getD j .IC) its'[j])->s.heap.get? a=a5 o->o.data=.seq c.toArray m->s.heap.get? a=a5 o'->o'.data=.seq its'.toArray g->us=ws:=by
   intro us ws c its' a o o' m g l k l' k' e d f d';rw[e]at f;cases f;rw[d]at d';injection d' with t _
   have:c=its':=by simpa using ğ WX t
   subst this;show NZ ⋯ λj v z=>?_;have:=q (k j ⋯) (k' j ⋯);simpa[v,z] using this
  intro u w x h h';cases h with
  |tup l k y p =>
   cases h' with
   |tup l' k' i b=>have(o,e,_,m,d):=p;have(o',f,_,g,d'):=b;rw[go l k l' k' e d f d']
   |lst l' k' i b=>show absurd rfl (WT b p)
  |lst l k y p =>
   cases h' with
   |lst l' k' i b=>have(o,e,_,m,d):=p;have(o',f,_,g,d'):=b;rw[go l k l' k' e d f d']
   |tup l' k' i b=>show absurd rfl (WT p b)
  |_=>cases h';rfl
theorem jl:∀{us ws:List U},us.length≠ws.length->cy us ws=b6
 |[],[],h=>absurd rfl h
 |[],_::_,_=>rfl
 |_::_,[],_=>rfl
 |u::us,w::ws,h=>by
  rw[cy,jl (us:=us) (ws:=ws) (λe=>h (by simp[e])),Wv]
theorem fQ:∀{us ws:List U},us.length=ws.length->cy us ws=(hH us.length).all λj=>bK (us.getD j .IC) (ws.getD j .IC)
 |[],[],_=>rfl
 |[],_::_,h=>by simp at h
 |_::_,[],h=>by simp at h
 |u::us,w::ws,h=>by
  have h':us.length=ws.length:=by simpa using h
  rw[cy,fQ h',j5,List.range_succ_eq_map,List.all_cons,í];rfl
def F3{a its':List dr}(c:us.length=a.length)(d:ws.length=its'.length):cy us ws=((hH (min a.toArray.size its'.toArray.size)).all (λj=>bK (us.getD j .IC) (ws.getD j .IC))&&a.toArray.size==its'.toArray.size):=by
 simp only[hE];by_cases b:us.length=ws.length
 .rw[fQ b,show min a.length its'.length=us.length by lia,show(a.length==its'.length)=a8 by simp;lia,WO]
 .rw[jl b,show(a.length==its'.length)=b6 by simp;lia,Wv]
def tY(b:Jw s n u y)(h:YX A s y x k)(hs:y=x->k=a8):R7 A s y x k:=λprog w E Q a=>by
 unfold eqBool;show zc ?_;show wpAny_ite_split (λc=>?_) (λ_=>?_)
 .rw[hs (ü c)]at a;show cL (RU (fx a))
 .cases b<;>show cL (h prog w E _ (C1 a))
def TH(q:∀m,m+1=n->∀{u w:U}{x d:dr}{A:Mx},Jw s m u x->Jw s m w d->A.units+m<Kc->R7 A s x d (bK u w))(h:Jw s n u x)(h':Jw s n w d)(t:A.units+n<Kc):YX A s x d (bK u w)/\Ù A s x d (!bK u w):=by
 have a:A.units<Kc:=by lia
 have go:∀{m:Nat} {us ws:List U} {f its':List dr},m+1=n->(∀j (r:j<f.length),Jw s m (us.getD j .IC) f[j])->(∀j (r:j<its'.length),Jw s m (ws.getD j .IC) its'[j])->∀j (g:j<f.toArray.size) (i:j<its'.toArray.size),R7 A.in1 s f.toArray[j] its'.toArray[j] (bK (us.getD j .IC) (ws.getD j .IC)):=λ{m us ws f its'} e k k' j g i=>q m e (k j g) (k' j i) (by change A.units+1+m < _;lia);cases h with
 |IC =>
  cases h' with
  |IC=>show#[.none_none,.none_none]
  |bl=>show#[.none_bool _,.none_bool _]
  |int=>show#[.none_int _ _,.none_int _ _]
  |str=>show#[.none_str _ _,.none_str _ _]
  |tup l' k' c b=>show#[.none_tuple b a,.none_tuple b a]
  |lst l' k' c b=>show#[.none_list b a,.none_list b a]
 |bl =>
  cases h' with
  |IC=>show#[.bool_none _,.bool_none _]
  |bl=>show#[.bool_bool _ _,.bool_bool _ _]
  |int=>show#[.bool_int _ _ _,.bool_int _ _ _]
  |str=>show#[.bool_str _ _ _,.bool_str _ _ _]
  |tup l' k' c b=>show#[.bool_tuple _ b a,.bool_tuple _ b a]
  |lst l' k' c b=>show#[.bool_list _ b a,.bool_list _ b a]
 |int =>
  cases h' with
  |IC=>show#[.int_none _ _,.int_none _ _]
  |bl=>show#[.int_bool _ _ _,.int_bool _ _ _]
  |int=>show#[.int_int _ _ _ _,.int_int _ _ _ _]
  |str=>show#[.int_str _ _ _ _,.int_str _ _ _ _]
  |tup l' k' c b=>show#[.int_tuple _ _ b a,.int_tuple _ _ b a]
  |lst l' k' c b=>show#[.int_list _ _ b a,.int_list _ _ b a]
 |str =>
  cases h' with
  |IC=>show#[.str_none _ _,.str_none _ _]
  |bl=>show#[.str_bool _ _ _,.str_bool _ _ _]
  |int=>show#[.str_int _ _ _ _,.str_int _ _ _ _]
  |str=>show#[.str_str _ _ _ _,.str_str _ _ _ _]
  |tup l' k' c b=>show#[.str_tuple _ _ b a,.str_tuple _ _ b a]
  |lst l' k' c b=>show#[.str_list _ _ b a,.str_list _ _ b a]
 |tup l k y p =>
  cases h' with
  |IC=>show#[.tuple_none p a,.tuple_none p a]
  |bl=>show#[.tuple_bool _ p a,.tuple_bool _ p a]
  |int=>show#[.tuple_int _ _ p a,.tuple_int _ _ p a]
  |str=>show#[.tuple_str _ _ p a,.tuple_str _ _ p a]
  |tup l' k' c b=>rw[show bK (.tup _) (.tup _)=_ from F3 l l'];show#[.tuples p b a (go rfl k k'),.tuples p b a (go rfl k k')]
  |lst l' k' c b=>show#[.tuple_list p b a,.tuple_list p b a]
 |lst l k y p =>
  cases h' with
  |IC=>show#[.list_none p a,.list_none p a]
  |bl=>show#[.list_bool _ p a,.list_bool _ p a]
  |int=>show#[.list_int _ _ p a,.list_int _ _ p a]
  |str=>show#[.list_str _ _ p a,.list_str _ _ p a]
  |tup l' k' c b=>show#[.list_tuple p b a,.list_tuple p b a]
  |lst l' k' c b =>
   rename_i us _ _ ws _ _;by_cases o:us.length=ws.length
   .rw[show bK (.lst us) (.lst ws)=_ from fQ o,l,<-hE];show#[.lists p b (by simp;lia) a (go rfl k k'),.lists p b (by simp;lia) a (go rfl k k')]
   .rw[show bK (.lst us) (.lst ws)=b6 from jl o];show#[.lists_lengths p b (by simp;lia) a,.lists_lengths p b (by simp;lia) a]
def F4:∀{n:Nat}{u w:U}{x a:dr}{A:Mx},Jw s n u x->Jw s n w a->A.units+n<Kc->R7 A s x a (bK u w):=by
 intro n;induction n with
 |zero=>intro u w x a A h h' b;show tY h (TH (λm e=>by cases e) h h' b).1 λe=>by subst e;rw[h.inj h'];show h'.self
 |succ n c=>intro u w x a A h h' b;show tY h (TH (λm e=>by cases e;show c) h h' b).1 λe=>by subst e;rw[h.inj h'];show h'.self
def DZ(h:Jw s n u x)(h':Jw s n w a)(b:A.units+n<Kc):YX A s x a (bK u w)/\Ù A s x a (!bK u w):=TH (λm e=>by cases e;show F4) h h' b
end
end TM
namespace TM
open PySem L2 PyProof.Rows
abbrev IH(C:Ct)(m:M (Kd×U)):TE:=λσ H Q=>∃c0:Cf,c0.σ=σ/\c0.H=H/\Ok C c0/\W m c0.st λr st'=>∀c v,c.σ=σ->c.st=st'->Ok C c->Nx c0 c->aB C c0 c r.1 r.2 v->Q v c.H
abbrev J1(C:Ct)(m:M Bool):TT:=λσ H Q=>∃c0:Cf,c0.σ=σ/\c0.H=H/\Ok C c0/\W m c0.st λb st'=>∀c,c.σ=σ->c.st=st'->Ok C c->Nx c0 c->Q b c.H
def cu(C:Ct)(c0 c:Cf):List (Kd×U)->List V->Prop
 |[],vs=>vs=[]
 |r::rs,vs=>∃v t,vs=v::t/\fO C c0 c r.1 r.2 v/\cu C c0 c rs t/\(r.1=.own->∀(i:Nat) a v',rs[i]?=a5 a->t[i]?=a5 v'->a.1=.own->v'≠v)
abbrev JR(C:Ct)(m:M (List (Kd×U))):TA:=λσ H Q=>∃c0:Cf,c0.σ=σ/\c0.H=H/\Ok C c0/\W m c0.st λrs st'=>∀c vs,c.σ=σ->c.st=st'->Ok C c->Nx c0 c->cu C c0 c rs vs->Q vs c.H
section
def PE.weak(h:PE X e t)(i:∀σ H Q,t' σ H Q->t σ H Q):PE X e t':=λa s σ H Q I q=>h a s σ H Q I (i σ H Q q)
def PT.weak(h:PT X e t)(i:∀σ H Q,t' σ H Q->t σ H Q):PT X e t':=λa s σ H Q I q=>h a s σ H Q I (i σ H Q q)
def bQ{st:aq}:W (au rs) st Q↔aY rs st/\Q () st:=by
 constructor
 .rintro⟨a,st',e,h⟩;unfold au at e;split at e
  .cases e;show#[by assumption,h]
  .cases e
 .rintro⟨b,c⟩;show#[(),st,by unfold au;rw[ę b],c]
def dN{st:aq}:aY (r::rs) st↔aY [r] st/\aY rs st:=by
 have(k,u):=r;cases k<;>simp[aY]
def fO.t(h:fO C c0 c k u v)(s:aY [(k,u)] c.st):aB C c0 c k u v:=by
 cases k with
 |bor j=>show#[s.1,h]
 |_=>show h
structure P'(C:Ct)(c0 c:Cf)(x y:Kd×U)(vx vy:V):Prop where
 hσ:c.σ=c0.σ
 ok:Ok C c
 nx:Nx c0 c
 rx:aB C c0 c x.1 x.2 vx
 ry:aB C c0 c y.1 y.2 vy
 ne:x.1=.own->y.1=.own->vy≠vx
def lr(h:fO C c0 c1 k u v)(h':fO C c1 c k' u' v'):k=.own->k'=.own->v'≠v:=by
 rintro rfl rfl e;have(r,b,_,_,_,d):=h;have(g,f,a,_):=h';have(o,ho,_):=d.some;subst b;rw[f]at e;cases e;rw[ho]at a;cases a
def two{k:Kd×U->Kd×U->M β}{Post:β->aq->Prop}{f:dr->dr->Sem α}{Q':dr->dr->α->hQ->Prop}(G:PE X a (IH C J))(L:PE X b (IH C q))(I:Inv X d c0.σ c0.H s)(N:Ok C c0)
  (h:W (J >>= λx=>q >>= λy=>au [x,y] >>= λ_=>k x y) c0.st Post)
  (O:∀x y c e i v u s2,P' C c0 c x y e i->Inv X d c.σ c.H s2->RelV e v->RelV i u->W (k x y) c.st Post->gm (i4 X.prog X.w) X.A (f v u) (Q' v u) X.xe s2) :
  gm (i4 X.prog X.w) X.A (sL a X.env) (λv Q=>gm (i4 X.prog X.w) X.A (sL b X.env) (λu T=>gm (i4 X.prog X.w) X.A (f v u) (Q' v u) X.xe T) X.xe Q) X.xe s:=by
 rw[ab]at h;show ID (G d s c0.σ c0.H (λe r=>∃x c1,c1.H=r/\c1.σ=c0.σ/\Ok C c1/\Nx c0 c1/\aB C c0 c1 x.1 x.2 e/\W (q >>= λy=>au [x,y] >>= λ_=>k x y) c1.st Post) I ⟨c0,rfl,rfl,N,h.mono λx st1 m c1 e n Y o p r1=>#[x,c1,rfl,n,o,p,r1,by rw[Y];show m]⟩) ?_;rintro v s1 ⟨e,r,I1,rv,x,c1,rfl,n,o,p,r1,m⟩;rw[ab]at m;show ID (L d s1 c0.σ c1.H (λi z=>∃y g,g.H=z/\P' C c0 g x y e i/\W (k x y) g.st Post) I1 ⟨c1,n,rfl,o,m.mono λy st2 j g i B e4 Jb D r2=>?_⟩) ?_
 .rw[ab,bQ]at j;subst e4;rw[dN]at j;show#[y,g,rfl,#[B,Jb,p.trans D,(r1.w.on o D (B.trans n.symm)).t j.1.1,(r2.from p),lr r1.w r2.w],j.2]
 .rintro u s2 ⟨i,z,I2,ru,y,g,rfl,l,j⟩;have hs:g.σ=c0.σ:=l.hσ;show O x y g e i v u s2 l (by rw[hs];show I2) rv ru j
structure Og(C:Ct)(c0 c:Cf)(x:Kd×U)(vx:V):Prop where
 hσ:c.σ=c0.σ
 ok:Ok C c
 nx:Nx c0 c
 rx:aB C c0 c x.1 x.2 vx
abbrev b_(C:Ct)(c0:Cf)(Q:VK)(r:Kd×U)(st':aq):Prop:=∀c v,c.σ=c0.σ->c.st=st'->Ok C c->Nx c0 c->aB C c0 c r.1 r.2 v->Q v c.H
section
def b_.flat(h:b_ C c0 Q (.loc,u) c.st)(a:c.σ=c0.σ)(b:Ok C c)(n:Nx c0 c)(r:Rep C c.S c.H u v):Q v c.H:=h c v a rfl b n r
def b_.list(h:b_ C c0 Q (.own,.lst us) c.st)(a:c.σ=c0.σ)(b:Ok C c)(n:Nx c0 c)(r:ar C c.S c.H us vs)(p:dt)(d:c.H p=bD):Q (.ref p) (upd c.H p (.lst vs)):=by
 have(e,f,g):=b.newList n d r;show h {c with H:=upd c.H p (.lst vs)} _ a rfl e f g
def b_.tup(h:b_ C c0 Q (.loc,.tup us) c.st)(a:c.σ=c0.σ)(b:Ok C c)(n:Nx c0 c)(r:ar C c.S c.H us vs)(p:dt)(d:c.H p=bD):Q (.ref p) (upd c.H p (.tup vs)):=by
 have(e,f,g):=b.DQ n d r;show h {c with H:=upd c.H p (.tup vs)} _ a rfl e f g
def b_.tupK(h:b_ C c0 Q (kE k,.tup us) c.st)(d:c.σ=c0.σ)(a:Ok C c)(n:Nx c0 c)(r:ar C (SK C c k) c.H us vs)(p:dt)(e:c.H p=bD):Q (.ref p) (upd c.H p (.tup vs)):=by
 have(f,b):=a.lay (o:=.tup vs) e;show h {c with H:=upd c.H p (.tup vs)} _ d rfl f (n.trans b) (aB.item ?_);cases k<;>show#[p,vs,rfl,Ji.of aj,by first|show r.mv (a.M4 b)|show r.mv (a.mv b)]
def dq(h:gC k us=a8)(r:ar C (SK C c k) c.H us vs):ar C c.S c.H us vs:=by
 cases k with
 |any=>show r.IQ (by simpa[gC,isAny] using h)
 |_=>show r
end
def D0(k k':Kd):∀a,SK C c k a->SK C c (kT k k') a:=by
 intro a h;cases k<;>cases k'<;>first|show h|show .inr h
def A7(k k':Kd):∀a,SK C c k' a->SK C c (kT k k') a:=by
 intro a h;cases k<;>cases k'<;>first|show h|show .inr h
def F5(k k':Kd):kE (kT k k')=kT k k':=by cases k<;>cases k'<;>rfl
def A8:Ku X (OV .Add) (λx y H Q=>∃l b xs c,x=.ref l/\y=.ref b/\Jk X.K H l xs/\Jk X.K H b c/\xs.length+c.length<=cK/\∀p,H p=bD->Q (.ref p) (upd H p (.lst (xs++c)))):=by
 intro f s σ H x y v u Q I m o h;have(l,b,xs,c,rfl,rfl,t,w,hz,q):=h;cases m;cases o;have(d,r,pl,z):=I.list t;have(e,r2,A,L):=I.list w;have hl:=r.length;have LJ:=r2.length;have((cls,dd,data,B),ho,g,n,i):=pl.isList;have((N,C,data2,D),j,k,G,a):=A.isList;simp only at g i k a;subst g i k a;show V7 #[_,ho,rfl] #[_,j,rfl] noFill_list_add seq_list_add PySem.F.slot_list_add PySem.F.entry_list_add (PySem.F.args_list_add_2 _ _)
   (list_addW l b d.toArray e.toArray n G dd C B D (by rw[hE,hE];lia)) #[ho,j,?_]
 have J:d.toArray++e.toArray=(d++e).toArray:=by simp
 rw[J];show#[.ref _,_,I.HM (t':=s.toks) (r.append r2) (by rw[j0];lia),rfl,q _ I.fresh]
end
section
variable{X:Cx}{C:Ct}{pins:List (dt×Obj)}{s:hQ}{c0 c:Cf}{Q:VK}
def yb:Ku X (OV .Add) (λx y H Q=>∃a b ys,x=.ref a/\y=.ref b/\Ji X.K H a []/\Ji X.K H b ys/\Q (.ref b) H):=by
 intro pins s σ H x y v u Q I j k h;have(a,b,ys,rfl,rfl,l,m,q):=h;cases j;cases k;have(A,r1,o,_):=I.tuple l;have(p,r2,p2,_):=I.tuple m;cases r1;have((cls,dd,data,r),ho,e,n,f):=id o;have((B,t,data2,w),g,i,z,d):=id p2;simp only at e f i d;subst e f i d;show V7 #[_,ho,rfl] #[_,g,rfl] Wx YR PySem.F.slot_tuple_add PySem.F.entry_tuple_add (PySem.F.args_tuple_add_2 _ _)
   (tuple_addW0 a b _ p.toArray n z dd t r w (by rfl)) #[ho,g,.ref b,H,I,rfl,q]
abbrev Q6.op:Q6->Á
 |.add=>.Add|.sub=>.Sub|.mul=>.Mult|.Lc=>.FloorDiv|.mod=>.Mod|.pow=>.Pow
def eL(h:rU f a b=a5 r):∃i j o,a=.int i/\b=.int j/\f i j=a5 o/\r=(.loc,.int o):=by
 unfold rU at h;split at h
 .rw[dV]at h;have(o,e,rfl):=h;show#[_,_,o,rfl,rfl,e,rfl]
 .cases h
def D1(Y:C.K=X.K)(t:P' C c0 c x y g l)(I:Inv X pins c.σ c.H s)(z:RelV g v)(B:RelV l u)(h:K4 op x y=a5 r)(q:b_ C c0 Q r c.st):
  gm (i4 X.prog X.w) X.A (OV op.op v u) (EP X pins c.σ Q) X.xe s:=by
 have(m,d,n,D,G,_):=t;cases op with
 |add =>
  have h:vB x y=a5 r:=h;unfold vB at h;split at h
  .have ex:=D.int d;have e:=G.int d;cases h;show dv pins s c.σ c.H g l v u Q I z B #[_,_,ex,e,q.flat m d n rfl]
  .have ex:=D.str d;have e:=G.str d;split at h
   .cases h;show qZ pins s c.σ c.H g l v u Q I z B #[_,_,ex,e,by assumption,q.flat m d n rfl]
   .cases h
  .have(a,vs,ex,O,J):=D.list d;have(b,ws,e,T,L):=G.list d;split at h
   .rename_i N;cases h;show A8 pins s c.σ c.H g l v u Q I z B #[a,b,vs,ws,ex,e,Y▸O,Y▸T,by rw[<-J.len,<-L.len];show N.1,λp hp=>q.list m d n ((dq N.2.1 J).append (dq N.2.2 L)) p hp]
   .cases h
  .rename_i k xs k' ys _ _;have(a,vs,ex,O,J):=D.tuple d;have(b,ws,e,T,L):=G.tuple d;have LO:=O;have OP:=T;rw[Y]at LO OP;split at h
   .rename_i N;cases h;have m1:ar C (SK C c (kT k k')) c.H xs vs:=J.mv (.up (D0 k k'));have m2:ar C (SK C c (kT k k')) c.H ys ws:=L.mv (.up (A7 k k'));have q':b_ C c0 Q (kE (kT k k'),.tup (xs++ys)) c.st:=by rw[F5];show q
    by_cases e1:vs=[]
    .subst e1;show yb pins s c.σ c.H g l v u Q I z B #[a,b,ws,ex,e,LO,OP,?_];show q' c (.ref b) m rfl d n (aB.item #[b,ws,rfl,T,?_]);have:xs=[]:=by have:=m1.len;simpa using this
     rw[this];show m2
    .show AA pins s c.σ c.H g l v u Q I z B #[a,b,vs,ws,ex,e,LO,OP,e1,by rw[<-J.len,<-L.len];show N,λe2=>?_,λ_ p hp=>q'.tupK m d n (m1.append m2) p hp];subst e2;show q' c (.ref a) m rfl d n (aB.item #[a,vs,rfl,O,?_]);have:ys=[]:=by have:=m2.len;simpa using this
     rw[this,rl];show m1
   .cases h
  .cases h
 |sub =>
  have(i,j,o,ex,e,f,rfl):=eL h;have ex:=(ex▸D).int d;have e:=(e▸G).int d;cases f;show qX pins s c.σ c.H g l v u Q I z B #[_,_,ex,e,q.flat m d n rfl]
 |mul =>
  have(i,j,o,ex,e,f,rfl):=eL h;have ex:=(ex▸D).int d;have e:=(e▸G).int d;unfold AR at f;split at f
  .cases f;show nX pins s c.σ c.H g l v u Q I z B #[_,_,ex,e,by assumption,q.flat m d n rfl]
  .cases f
 |Lc =>
  have(i,j,o,ex,e,f,rfl):=eL h;have ex:=(ex▸D).int d;have e:=(e▸G).int d;unfold AS at f;split at f
  .cases f;show Ar pins s c.σ c.H g l v u Q I z B #[_,_,ex,e,by assumption,q.flat m d n rfl]
  .cases f
 |mod =>
  have(i,j,o,ex,e,f,rfl):=eL h;have ex:=(ex▸D).int d;have e:=(e▸G).int d;unfold AU at f;split at f
  .cases f;show b7 pins s c.σ c.H g l v u Q I z B #[_,_,ex,e,by assumption,q.flat m d n rfl]
  .cases f
 |pow =>
  have(i,j,o,ex,e,f,rfl):=eL h;have ex:=(ex▸D).int d;have e:=(e▸G).int d;unfold AV at f;split at f
  .cases f;show nY pins s c.σ c.H g l v u Q I z B #[_,_,ex,e,by assumption,q.flat m d n rfl]
  .cases f
def A9(d:C.K=X.K)(f:PE X a (IH C g))(i:PE X b (IH C j)):PE X (.BinOp a op.op b pos) (IH C (g >>= λx=>j >>= λy=>au [x,y] >>= λ_=>M.Jd (K4 op x y))):=by
 rintro pins s σ H Q I ⟨c0,rfl,rfl,k,h⟩;show wpAny_BinOp (two f i I k h λx y c o p v u s2 t l m n w=>?_);have(r,e,q):=cq.mp w;show ID (D1 d t l m n e q) λ_ _ z=>by rw[t.hσ]at z;show z
abbrev P5.op:P5->CmpOp
 |.eq=>.Eq|.ne=>.NotEq|.lt=>.Lt|.le=>.LtE|.gt=>.Gt|.ge=>.GtE|.isin=>.In|.Iz=>.NotIn|.is=>.Is|.TB=>.IsNot
def F6{neg:Bool}(I:Inv X pins c.σ c.H s)(i:C.K=X.K)(L:X.A.units+60<Kc){S:dt->Prop}(n:Rep C S c.H x m)(o:RelV m v)(r:ar C S c.H ys vs)
  (ha:Jk C.K c.H a vs\/Ji C.K c.H a vs) (t:Jg 50 x=a8) (u:bS 50 ys=a8) {Q:dr->hQ->Prop} (q:Q (.bool (if neg then !(ys.any λy=>bK y x) else ys.any λy=>bK y x)) s) :
  gm (i4 X.prog X.w) X.A (NQ (if neg then .NotIn else .In) v (.ref a)) Q X.xe s:=by
 have z:=Jw.of I i 50 x m v t n o;have go:∀d:List dr,Vals vs d->∃e:dr->Bool,(∀y,y∈d.toArray->R7 X.A.in1 s y v (e y))/\d.toArray.any e=ys.any λy=>bK y x:=by
  intro d rv;have(l,k,_):=Jw.vL (Jw.of I i 50) u r rv
  classical
  have q:∀j (b:j<d.length),cb (∃w,Jw s 50 w d[j]/\bK w x=a8)=bK (ys.getD j .IC) x:=λj b=>by
   rw[IV,decide_eq_true_iff];show#[λ⟨w,f,g⟩=>by rw[<-f.inj (k j b)];show g,λh=>#[_,k j b,h]]
  show#[λy=>cb (∃w,Jw s 50 w y/\bK w x=a8),λy B=>?_,?_]
  .have(j,b,e):=Qy (show y∈d by simpa using B);subst e;change R7 _ _ _ _ (decide _);rw[q j b];show F4 (k j b) z (by change X.A.units+1+50 < _;lia)
  .rw[IV];simp only[List.any_toArray,R6];constructor
   .rintro⟨y,D,h⟩;have(j,b,rfl):=Qy D;rw[q j b]at h;show#[_,DD (l▸b),by simpa[l▸b] using h]
   .rintro⟨w,G,J⟩;have(j,b,rfl):=Qy G;show#[_,DD (l▸b),by rw[q j (l▸b)];simpa[b] using J]
 rcases ha with ha|ha
 .have(d,rv,p,_):=tX I (i▸ha);have(e,f,g):=go d rv;cases neg with
  |false=>show SeqAt.in_listAt e p f (by rw[g];show q)
  |true=>show SeqAt.notIn_listAt e p f (by rw[g];show q)
 .rw[i]at ha;have(d,rv,p,_):=I.tuple ha;have(e,f,g):=go d rv;cases neg with
  |false=>show SeqAt.in_tupleAt e p f (by rw[g];show q)
  |true=>show SeqAt.notIn_tupleAt e p f (by rw[g];show q)
end
section
theorem cJ:∀{us:List U}{ss:List Str},strsOf us=a5 ss->us=ss.map .str
 |[],ss,h=>by cases h;rfl
 |.str x::us,ss,h=>by
  simp only[strsOf,dV]at h;have(t,a,rfl):=h;rw[cJ a];rfl
 |.IC::_,_,h=>by cases h
 |.bl _::_,_,h=>by cases h
 |.int _::_,_,h=>by cases h
 |.tup _::_,_,h=>by cases h
 |.lst _::_,_,h=>by cases h
 |.G' _ _::_,_,h=>by cases h
theorem jL:∀{us:List U}{ns:List Int},intsOf us=a5 ns->us=ns.map .int
 |[],ns,h=>by cases h;rfl
 |u::us,ns,h=>by
  cases u<;>first|(cases h;done)|skip
  rename_i x;have h':(intsOf us).map (x::·)=a5 ns:=h;rw[dV]at h';have(ms,e,rfl):=h';rw[jL e];rfl
theorem ar.ints{S:dt->Prop}:∀{ns:List Int}{vs:List V},ar C S H (ns.map .int) vs->vs=ns.map V.int
 |[],vs,h=>h
 |n::ns,vs,h=>by
  have(v,r,rfl,a,b):=h;rw[ar.ints b];have:v=.int n:=a;rw[this];rfl
theorem lu:∀{us:List U}{ss:List Bool},la us=a5 ss->us=ss.map .bl
 |[],ss,h=>by cases h;rfl
 |.bl x::us,ss,h=>by
  simp only[la,dV]at h;have(t,a,rfl):=h;rw[lu a];rfl
 |.IC::_,_,h=>by cases h
 |.str _::_,_,h=>by cases h
 |.int _::_,_,h=>by cases h
 |.tup _::_,_,h=>by cases h
 |.lst _::_,_,h=>by cases h
 |.G' _ _::_,_,h=>by cases h
theorem ar.Vy{S:dt->Prop}:∀{xs:List Bool}{vs:List V},ar C S H (xs.map .bl) vs->vs=xs.map V.bl
 |[],vs,h=>h
 |x::xs,vs,h=>by
  have(v,r,rfl,a,b):=h;rw[ar.Vy b];have:v=.bl x:=a;rw[this];rfl
abbrev D2(X:Cx)(a:List (dt×Obj))(c:Cf)(b:Bool)(v:dr)(s':hQ):Prop:=v=.bool b/\Inv X a c.σ c.H s'
def iG(o:Ku X f r)(I:Inv X a c.σ c.H s)(g:RelV d v)(i:RelV e u)(h:r d e c.H λx H'=>x=.bl b/\H'=c.H):
  gm (i4 X.prog X.w) X.A (f v u) (D2 X a c b) X.xe s :=
 ID (o a s c.σ c.H d e v u _ I g i h) λw s' j=>by
  have(z,H',k,r,l,m):=j;subst l m;show#[r,k]
def aB.dict(g:Ok C c)(h:aB C c0 c k (.G' ks us) v):∃a kvs,v=.ref a/\c.H a=a5 (.dK kvs)/\kvs.map (·.1)=ks.map nT/\ar C (SK C c k) c.H us (kvs.map (·.2)):=by
 cases k with
 |own=>have(r,e,_,_,_,kvs,b,d,f):=h;show#[r,kvs,e,b,d,f]
 |bor j=>have(r,e,_,_,_,kvs,b,d,f):=g.rootOf h.1 h.2;show#[r,kvs,e,b,d,f]
 |io=>show h.elim
 |A'=>show h.elim
 |_=>have(a,e,_,kvs,b,d,f):=h;show#[a,kvs,e,b,d,f]
theorem dO{S:dt->Prop}:∀{ks:List Str}{us:List U}{kvs:List (Key×V)},kvs.map (·.1)=ks.map nT->ar C S H us (kvs.map (·.2)) ->
  (∀u,dS ks us x=a5 u->∃v,dF kvs (nT x)=a5 v/\Rep C S H u v)/\(dF kvs (nT x)).isSome=cb (x∈ks)
 |[],us,kvs,a,b=>by
  have:kvs=[]:=by simpa using a
  subst this;show#[λu h=>by cases us<;>simp[dS]at h,by simp[dF]]
 |k::ks,us,[],a,b=>by simp at a
 |k::ks,[],p::kvs,a,b=>by simp[ar]at b
 |k::ks,u0::us,p::kvs,a,b=>by
  have(v,r,e,d,f):=b;rw[gi]at e;cases e;rw[gi,gi,PZ]at a;have(g,i):=dO (x:=x) a.2 f;by_cases hk:k=x
  .subst hk;show#[λu h=>?_,?_]
   .simp[dS]at h;subst h;show#[p.2,eD a.1,d]
   .rw[eD a.1];simp
  .have c:¬p.1=nT x:=by rw[a.1];intro z;show hk (T5 z)
   show#[λu h=>?_,?_]
   .simp[dS,hk]at h;have(v,e,q):=g u h;show#[v,by rw[eE c];show e,q]
   .rw[eE c,i];simp[pq hk]
def yc(hP:C.P=X.prog)(hw:C.w=X.w)(o:C.K=X.K)(L:X.A.units+60<Kc)(t:P' C c0 c x y D N)(I:Inv X i c.σ c.H s)(e:RelV D v)(g:RelV N u)(h:bT op x.2 y.2=a5 b):
  gm (i4 X.prog X.w) X.A (NQ op.op v u) (D2 X i c b) X.xe s:=by
 have(hσ,d,n,m,j,_):=t;have(kx,Q):=x;have(ky,T):=y
 dsimp only at h m j
 have q:∀neg:Bool,∀p,AW Q T=a5 p->gm (i4 X.prog X.w) X.A (NQ (if neg then .NotIn else .In) v u) (D2 X i c (if neg then !p else p)) X.xe s:=by
  intro neg p h;have B:=m.read d;have G:=j.read d;unfold AW at h;split at h
  .have(a,vs,rfl,l,r):=G;cases g;unfold Oa at h;split at h
   .rename_i f;cases h;show F6 I o L B e r (.inl l.sq) f.1 f.2 #[by cases neg<;>rfl,I]
   .cases h
  .have(a,vs,rfl,l,r):=G;cases g;unfold Oa at h;split at h
   .rename_i f;cases h;show F6 I o L B e r (.inr l) f.1 f.2 #[by cases neg<;>rfl,I]
   .cases h
  .cases h;have ex:D=_:=B;have O:N=_:=G;cases neg with
   |false=>show iG u9 I e g #[_,_,ex,O,rfl,rfl]
   |true=>show iG oh I e g #[_,_,ex,O,rfl,rfl]
  .cases h;have ex:D=_:=B;have(a,kvs,rfl,l,r,Y):=j.dict d;cases g;subst ex;have hs:=λz:Str=>(dO (x:=z) r Y).2;cases neg with
   |false=>show FV ⋯ I (fb.k (k:=nT _) l) e λs' J=>#[by rw[hs];rfl,J]
   |true=>show tH ⋯ I (fb.k (k:=nT _) l) e λs' J=>#[by rw[hs];rfl,J]
  .cases h
 unfold bT at h;split at h
 .split at h
  .rename_i f;cases h;show(DZ (n:=50) (.of I o _ _ _ _ f.1 (m.read d) e) (.of I o _ _ _ _ f.2 (j.read d) g) ⋯).1 _ _ _ _ #[rfl,I]
  .cases h
 .split at h
  .rename_i f;cases h;show(DZ (n:=50) (.of I o _ _ _ _ f.1 (m.read d) e) (.of I o _ _ _ _ f.2 (j.read d) g) ⋯).2 _ _ _ _ #[rfl,I]
  .cases h
 .cases h;show iG FC I e g #[_,_,m.int d,j.int d,rfl,rfl]
 .cases h;show iG FD I e g #[_,_,m.int d,j.int d,rfl,rfl]
 .cases h;show iG FE I e g #[_,_,m.int d,j.int d,rfl,rfl]
 .show q b6 b h
 .rw[dV]at h;have(p,l,rfl):=h;show q a8 p l
 .cases h
def A_(f:C.P=X.prog)(g:C.w=X.w)(i:C.K=X.K)(j:X.A.units+60<Kc)(k:PE X a (IH C l))(m:PE X b (IH C n))(o:NR op.op b=b6):
  PE X (.Compare a [op.op] [b] pos) (IH C (l >>= λx=>n >>= λy=>au [x,y] >>= λ_=>M.Jd (bT op x.2 y.2) >>= λc=>pure (.loc,.bl c))):=by
 rintro d s σ H Q I ⟨c0,rfl,rfl,p,h⟩;show wpAny_Compare1 (two k m I p h λx y c N O v u s2 t B D G w=>?_) o;rw[ab]at w;have(r,e,q):=cq.mp w;rw[ak]at q;show ID (yc f g i j t B D G e) λz s' J=>?_;have(e,L):=J;subst e;show#[.bl r,c.H,by rw[<-t.hσ];show L,rfl,q c (.bl r) t.hσ rfl t.ok t.nx rfl]
def Ba(g:C.P=X.prog)(i:C.w=X.w)(j:C.K=X.K)(k:X.A.units+60<Kc)(l:PE X a (IH C m))(n:PE X b (IH C o))(p:NR op.op b=b6):
  PT X (.Compare a [op.op] [b] pos) (J1 C (m >>= λx=>o >>= λy=>au [x,y] >>= λ_=>M.Jd (bT op x.2 y.2))):=by
 rintro d s σ H Q I ⟨c0,rfl,rfl,B,h⟩;show Tg (two (f:=λv u=>NQ op.op v u) (Q':=λ_ _ c s=>gm (i4 X.prog X.w) X.A (Ô c) (TP X d c0.σ Q) X.xe s) l n I B h λx y c O T v u s2 t D G J w=>?_) p;have(r,e,q):=cq.mp w;show ID (yc g i j k t D G J e) λz s' L=>?_;have(e,N):=L;subst e;show C1 #[c.H,by rw[<-t.hσ];show N,q c t.hσ rfl t.ok t.nx]
end
section
abbrev F7(C:Ct)(c0:Cf)(Q:Bool->Hp->Prop)(b:Bool)(st':aq):Prop:=∀c,c.σ=c0.σ->c.st=st'->Ok C c->Nx c0 c->Q b c.H
def D3(a:c1.σ=c0.σ)(b:Ok C c1)(n:Nx c0 c1)(h:W m c1.st (b_ C c0 Q)):IH C m c0.σ c1.H Q :=
 #[c1,a,rfl,b,h.mono λr st c d v e f g i r2=>c d v e f g (n.trans i) (r2.from n)]
def yd(a:c1.σ=c0.σ)(b:Ok C c1)(n:Nx c0 c1)(h:W m c1.st (F7 C c0 Q)):J1 C m c0.σ c1.H Q :=
 #[c1,a,rfl,b,h.mono λr st c d e f g i=>c d e f g (n.trans i)]
def aJ(a:Ok C c0)(h:W (b >>= k) c0.st Post)
  (hz:∀x c v,Og C c0 c x v->W (k x) c.st Post->Z v c.H):IH C b c0.σ c0.H Z:=by
 rw[ab]at h;show#[c0,rfl,rfl,a,h.mono λx st1 d c1 e f g i j r1=>hz x c1 e #[f,i,j,r1] (by rw[g];show d)]
def fR(a:Ok C c0)(h:W (d >>= k) c0.st Post)
  (hz:∀b c,c.σ=c0.σ->Ok C c->Nx c0 c->W (k b) c.st Post->Z b c.H):J1 C d c0.σ c0.H Z:=by
 rw[ab]at h;show#[c0,rfl,rfl,a,h.mono λx st1 e c1 f g i j=>hz x c1 f i j (by rw[g];show e)]
abbrev F8(m:M (Kd×U))(x:Kd×U):M (Kd×U):=match x.2 with
 |.bl a8=>m
 |.bl b6=>pure (.loc,.bl b6)
 |_=>M.fail
abbrev F9(x:Kd×U):M (Kd×U):=match x.2 with
 |.bl c=>pure (.loc,.bl !c)
 |_=>M.fail
def snd_and(i:PE X a (IH C j))(l:PE X (.BoolOp .And (b::d) pos) (IH C m)):PE X (.BoolOp .And (a::b::d) pos) (IH C (j >>= F8 m)):=by
 show PE.weak (De i l) ?_;rintro σ H Q ⟨c0,rfl,rfl,o,h⟩;show aJ o h λx c v t w=>?_;have(k,u):=x;have(g,f,n,r):=t;unfold F8 at w;split at w
 .rename_i e
  dsimp only at e r
  subst e;show#[a8,r.bl f,by rw[ę rfl];show D3 g f n w]
 .rename_i e
  dsimp only at e r
  subst e;rw[ak]at w;show#[b6,r.bl f,by rw[Ě i6];show w c (.bl b6) g rfl f n rfl]
 .show(aX.mp w).elim
def Bb(d:PE X a (IH C f)):PE X (.UnaryOp .Not a pos) (IH C (f >>= F9)):=by
 show PE.weak (Df d) ?_;rintro σ H Q ⟨c0,rfl,rfl,g,h⟩;show aJ g h λx c v t w=>?_;have(k,u):=x;have(i,b,n,r):=t;unfold F9 at w;split at w
 .rename_i e
  dsimp only at e r
  subst e;rw[ak]at w;show#[_,r.bl b,w c (.bl _) i rfl b n rfl]
 .show(aX.mp w).elim
def Bc(d:PT X a (J1 C e)):PT X (.UnaryOp .Not a pos) (J1 C (e >>= λb=>pure !b)):=by
 show PT.weak (xg d) ?_;rintro σ H Q ⟨c0,rfl,rfl,f,h⟩;show fR f h λp c g i n w=>?_;rw[ak]at w;show w c g rfl i n
def Bd(i:PT X a (J1 C j))(k:PW X (.BoolOp .And (b::d) pos) (J1 C tb)):PW X (.BoolOp .And (a::b::d) pos) (J1 C (j >>= λp=>if p=a8 then tb else pure b6)):=by
 have l:=Dc i k;rintro m e s σ H Q I ⟨c0,rfl,rfl,o,h⟩;show l m e s c0.σ c0.H Q I (fR o h λp c f g n w=>?_);cases p with
 |true=>rw[ę rfl]at w ⊢;show yd f g n w
 |false=>rw[Ě i6]at w ⊢;rw[ak]at w;show w c f rfl g n
def D4(i:PT X a (J1 C j))(k:PW X (.BoolOp .Or (b::d) pos) (J1 C tb)):PW X (.BoolOp .Or (a::b::d) pos) (J1 C (j >>= λp=>if p=a8 then pure a8 else tb)):=by
 have l:=Fo i k;rintro m e s σ H Q I ⟨c0,rfl,rfl,o,h⟩;show l m e s c0.σ c0.H Q I (fR o h λp c f g n w=>?_);cases p with
 |true=>rw[ę rfl]at w ⊢;rw[ak]at w;show w c f rfl g n
 |false=>rw[Ě i6]at w ⊢;show yd f g n w
def tZ{us:List α}{vs:List β}(h:us.length=vs.length):(!us.isEmpty)=!vs.isEmpty:=by
 cases us<;>cases vs<;>simp_all
def iH(j:PE X a (IH C l))(i:C.K=X.K)(m:∀b,isTrue a X.env b=(do let v <-b;R' a.pos;Ka [v] (Ô v))):PT X a (J1 C (l >>= λx=>M.Jd (rV x.2))):=by
 show PT.weak (xm j m) ?_;rintro σ H Q ⟨c0,rfl,rfl,o,h⟩;show aJ o h λx c v t w=>?_;have(k,u):=x;have(s,d,n,r):=t;have(p,e,q):=cq.mp w
 dsimp only at e r
 show#[p,?_,q c s rfl d n];unfold rV at e;split at e
 .cases e;rw[r.bl d];rfl
 .cases e;have(a,vs,rfl,f,g):=r.list d;show .inl #[vs,i▸f,tZ g.len]
 .cases e;have(a,vs,rfl,f,g):=r.tuple d;rw[i]at f;show .inr (.inl #[vs,f,tZ g.len])
 .split at e
  .cases e;rw[r.str d];show#[by assumption,rfl]
  .cases e
 .cases e
end
section
def cu.from(n:Nx c0 c1):cu C c1 c rs vs->cu C c0 c rs vs:=by
 intro h;induction rs generalizing vs with
 |nil=>show h
 |cons r rs a=>have(v,t,e,b,d,f):=h;show#[v,t,e,b.from n,a d,f]
def cu.get{i:Nat}(h:cu C c0 c rs vs)(e:rs[i]?=a5 r)(a:vs[i]?=a5 v):fO C c0 c r.1 r.2 v:=by
 induction rs generalizing vs i with
 |nil=>simp at e
 |cons g rs b =>
  have(v',t,rfl,d,f,j):=h;cases i with
  |zero=>simp at e a;subst e a;show d
  |succ i=>show b f (by simpa using e) (by simpa using a)
def Be:PA X [] (JR C (pure [])):=by
 rintro pos a s σ H Q I ⟨c0,rfl,rfl,b,h⟩;rw[ak]at h;show cP pos a s c0.σ c0.H Q I (h c0 [] rfl rfl b (Nx.refl c0) rfl)
def ye(f:PE X e (IH C m))(g:PA X es (JR C ms))(hs:il (e::es) X.env=(b6,sL e X.env)::il es X.env):PA X (e::es) (JR C (m >>= λr=>ms >>= λrs=>pure (r::rs))):=by
 rintro pos a s σ H Q I ⟨c0,rfl,rfl,j,h⟩;show bz f g hs pos a s c0.σ c0.H Q I (aJ j h λr c1 v t w=>?_);rw[ab]at w;show#[c1,t.hσ,rfl,t.ok,w.mono λrs st2 b k vs c l n d r2=>?_];rw[ak]at b;show b k (v::vs) c l n (t.nx.trans d) #[v,vs,rfl,t.rx.w.on t.ok d (c.trans t.hσ.symm),r2.from t.nx,λhk i u v' o p q=>?_];show lr t.rx.w (r2.get o p) hk q
structure Jz(C:Ct)(c0 c:Cf)(rs:List (Kd×U))(vs:List V):Prop where
 hσ:c.σ=c0.σ
 ok:Ok C c
 nx:Nx c0 c
 rep:cu C c0 c rs vs
 MF:aY rs c.st
def args{k:List (Kd×U)->M β}{Post:β->aq->Prop}(e:PA X es (JR C ms))(I:Inv X a c0.σ c0.H s)(f:Ok C c0)(h:W (ms >>= λrs=>au rs >>= λ_=>k rs) c0.st Post)(pos:Pos):
  gm (i4 X.prog X.w) X.A (Zi (v3 pos (il es X.env))) (λus s1=>∃rs c vs,Jz C c0 c rs vs/\Inv X a c.σ c.H s1/\Vals vs us/\W (k rs) c.st Post) X.xe s:=by
 rw[ab]at h;show ID (e pos a s c0.σ c0.H (λvs d=>∃rs c,c.H=d/\Jz C c0 c rs vs/\W (k rs) c.st Post) I ⟨c0,rfl,rfl,f,h.mono λrs st1 b c1 vs g i j l r1=>?_⟩) ?_
 .rw[ab,bQ]at b;subst i;show#[rs,c1,rfl,#[g,j,l,r1,b.1],b.2]
 .rintro us s1 ⟨vs,d,m,rv,rs,c1,rfl,t,w⟩;show#[rs,c1,vs,t,by rw[t.hσ];show m,rv,w]
def Jz.one(t:Jz C c0 c [r] vs):∃v,vs=[v]/\aB C c0 c r.1 r.2 v:=by
 have(v,t',rfl,a,b,_):=t.rep;cases b;show#[v,rfl,a.t t.MF]
def Jz.two(t:Jz C c0 c [r,a] vs):∃v v',vs=[v,v']/\aB C c0 c r.1 r.2 v/\aB C c0 c a.1 a.2 v':=by
 have(v,t',rfl,b,(v',f,rfl,d,e,_),_):=t.rep;cases e;have hs:=dN.mp t.MF;show#[v,v',rfl,b.t hs.1,d.t hs.2]
def Ok.share(b:Ok C c)(g:C.H₀ r=bD)(h:∃o,c.H r=a5 o)(hl:st'.length=c.st.length)
  (d:∀(i:Nat) k u,st'[i]?=a5 (a5 (k,u))->(∃v,c.σ[i]?=a5 (a5 v)/\fN C (λa=>c.S a\/a=r) c.H k u v)/\(k.root=a8->c.st[i]?=a5 (a5 (k,u)))) (l:LK C {c with S:=λa=>c.S a\/a=r,st:=st' }) :
  Ok C {c with S:=λa=>c.S a\/a=r,st:=st' }:=by
 show#[b.same,λa z=>?_,b.par,b.io,by rw[show({c with S:=λa=>c.S a\/a=r,st:=st' }:Cf).st.length=st'.length from rfl,hl];show b.len,λi k u e=>(d i k u e).1,λi j k k' u u' m hk f n p q s=>?_,l]
 .rcases z with z|rfl
  .show b.J8 a z
  .show#[g,h]
 .show b.inj i j k k' u u' m hk f ((d i k u n).2 hk) ((d j k' u' p).2 f) q s
def Ok.D5(p:Ok C c0)(b:Ok C c)(n:Nx c0 c)(d:c0.H r=bD)(f:¬c.R r)(s:cC C c.S c.H r u):
  Ok C {c with S:=λa=>c.S a\/a=r}/\Nx c0 {c with S:=λa=>c.S a\/a=r}:=by
 have(o,ho,_):=s.some;show#[b.share (st':=c.st) (p.eh d).1 #[o,ho] rfl (λi k u e=>#[?_,λ_=>e]) (b.dd.hs (.up λa=>.inl) λj a z=>#[λq=>q.elim (b.root (.inr #[j,z])).1 λe=>f (.inr #[j,e▸z]),λo q=>q]),#[#[n.keep,n.there,n.roots,λa z=>.inl (n.sub a z),λa z=>?_]]]
 .have(v,g,h):=b.sl i k u e;have t:Mv c.S c.H (λa=>c.S a\/a=r) c.H:=.up λa=>.inl;show#[v,g,h.mv t (.up λa z=>z.imp id .inl) λhk x l=>#[?_,λo q=>q]];have(y,m,w,_):=h.rt hk;rw[l]at m;cases m;rintro(z|rfl)
  .show w z
  .show f (.inl #[i,k,u,hk,e,by rw[g,l]])
 .rcases z with z|rfl
  .show n.new a z
  .show .inr (.inr d)
def Ok.rX(d:Ok C c)(n:Nx c0 c)(g:c.st[j]?=a5 (a5 (.own,u)))(h:c.σ[j]?=a5 (a5 (.ref r))):
  Ok C {c with S:=λa=>c.S a\/a=r,st:=c.st.set j (a5 (.loc,u))}/\Nx c0 {c with S:=λa=>c.S a\/a=r,st:=c.st.set j (a5 (.loc,u))}/\Rep C (λa=>c.S a\/a=r) c.H u (.ref r):=by
 have(v',f,l,m,T,Y,D,x):=d.sl j _ _ g;rw[h]at f;cases f;cases m;have y:Rep C (λa=>c.S a\/a=r) c.H u (.ref r):=x.rep (λa=>.inl) (.inr rfl);have(o,ho,_):=x.some;have s:j<c.st.length:=(df.mp g).1;have t:∀(i:Nat) k u',(c.st.set j (a5 (.loc,u)))[i]?=a5 (a5 (k,u'))->i≠j->c.st[i]?=a5 (a5 (k,u')):=λi k u' e G=>by rw[ez (pq G)]at e;show e
 have I:c.R1 r:=#[j,.own,u,rfl,g,h]
 have A:∀(i:Nat) (u':U),(c.st.set j (a5 (.loc,u)))[i]?=a5 (a5 (.A',u'))->c.st[i]?=a5 (a5 (.A',u')):=λi u' e=>by
  by_cases b:i=j
  .subst b;rw[dn s]at e;cases e
  .show t i .A' u' e b
 have b1:∀a,({c with S:=λa=>c.S a\/a=r,st:=c.st.set j (a5 (.loc,u))}:Cf).R1 a->c.R1 a:=λa J=>by
  have(i,k,u',hk,e,L):=J;by_cases b:i=j
  .subst b;rw[dn s]at e;cases e;cases hk
  .show#[i,k,u',hk,t i k u' e b,L]
 have N:LK C {c with S:=λa=>c.S a\/a=r,st:=c.st.set j (a5 (.loc,u))}:=d.dd.of rfl (λi u' e=>#[A i u' e,rfl]) (λa z=>.inl (b1 a z)) (.up λa=>.inl) λi a z=>#[λq=>q.elim (d.root (.inr #[i,z])).1 λe=>d.dd.d1 i a z (e▸I),λo q=>q]
 show#[d.share (st':=c.st.set j (a5 (.loc,u))) D #[o,ho] (by simp) (λi k u' e=>?_) N,#[#[n.keep,n.there,λa z=>?_,λa z=>.inl (n.sub a z),λa z=>?_]],y]
 .by_cases b:i=j
  .subst b;rw[dn s]at e;cases e;show#[#[.ref r,h,y],λz=>nomatch z]
  .have w:=t i k u' e b;have(v,f,p):=d.sl i k u' w;show#[#[v,f,p.mv (.up λa=>.inl) (.up λa z=>z.imp id .inl) λhk l m=>#[?_,λo q=>q]],λ_=>w];have(Rb,B,O,_):=p.rt hk;rw[m]at B;cases B;rintro(z|rfl)
   .show O z
   .show b (d.inj i j k .own u' u l hk rfl w g (by rw[f,m]) h)
 .rcases z with z|⟨i,u',l,f,p,Q⟩
  .show n.roots a (.inl (b1 a z))
  .show n.roots a (.inr #[i,u',l,A i u' f,p,Q])
 .rcases z with z|rfl
  .show n.new a z
  .rcases n.roots a (.inl #[j,.own,u,rfl,g,h]) with z|z
   .show .inr (.inl z)
   .show .inr (.inr z)
def ff(A:Ok C c0)(b:Ok C c)(n:Nx c0 c)(d:fO C c0 c r.1 r.2 v)(h:W (lift r) c.st Post):
  ∃(S':dt->Prop) (st':aq) (u:U),(∀a,c.S a->S' a)/\Ok C {c with S:=S',st:=st' }/\Nx c0 {c with S:=S',st:=st' }/\Rep C S' c.H u v/\Post u st' /\
   (∀a,S' a->c.S a\/v=.ref a/\(r.1=.own\/c.R a))/\∀a,({c with S:=S',st:=st' }:Cf).R a->c.R a:=by
 have(k,u):=r;cases k with
 |own =>
  rw[show lift (.own,u)=pure u from rfl,ak]at h;have(r,e,B,N,D,t):=d;have(l,m):=Ok.D5 A b n B D t;show#[_,c.st,u,λa=>.inl,l,m,by rw[e];show t.rep (λa=>.inl) (.inr rfl),h,λa z=>?_,λa z=>z];rcases z with z|rfl
  .show .inl z
  .show .inr #[e,.inl rfl]
 |loc =>
  rw[show lift (.loc,u)=pure u from rfl,ak]at h;show#[c.S,c.st,u,λa=>id,b,n,d,h,λa z=>.inl z,λa z=>z]
 |any =>
  rw[show lift (.any,u)=if IQ u=a8 then pure u else M.fail from rfl]at h;split at h
  .rw[ak]at h;show#[c.S,c.st,u,λa=>id,b,n,Rep.IQ (by assumption) d,h,λa z=>.inl z,λa z=>z]
  .show(aX.mp h).elim
 |bor j =>
  have(x,st',e,G):=h;rw[show lift (.bor j,u) c.st=match c.st[j]? with|some (a5 (.own,u))=>a5 (Ex.ok u,c.st.set j (a5 (.loc,u)))|_=>bD from rfl]at e;split at e
  .rename_i w f;cases e;have(v',y,r,I,_):=b.sl j _ _ f;have o:c.σ[j]?=a5 (a5 v):=d;rw[o]at y;cases y;subst I;have(l,m,p):=b.rX n f o;show#[_,_,_,λa=>.inl,l,m,p,G,λa z=>?_,λa z=>?_]
   .rcases z with z|rfl
    .show .inl z
    .show .inr #[rfl,.inr (.inl #[j,.own,_,rfl,f,o])]
   .rcases z with⟨i,k,u',hk,e,q⟩|⟨i,u',J,e,q,L⟩
    rotate_left 1
    .by_cases g:i=j
     .subst g;have s:i<c.st.length:=(df.mp f).1;rw[dn s]at e;cases e
     .rw[ez (pq g)]at e;show .inr #[i,u',J,e,q,L]
    by_cases g:i=j
    .subst g;have s:i<c.st.length:=(df.mp f).1;rw[dn s]at e;cases e;cases hk
    .rw[ez (pq g)]at e;show .inl #[i,k,u',hk,e,q]
  .cases e
 |_=>show d.elim
theorem iI:∀{rs:List (Kd×U)}{vs:List V}{c:Cf}{Post:List U->aq->Prop},Ok C c0->Ok C c->Nx c0 c->cu C c0 c rs vs->W (dh rs) c.st Post ->
  ∃(S':dt->Prop) (st':aq) (us:List U),(∀a,c.S a->S' a)/\Ok C {c with S:=S',st:=st' }/\Nx c0 {c with S:=S',st:=st' }/\ar C S' c.H us vs/\Post us st'
 |[],vs,c,Post,j,k,n,m,h=>by
  rw[show dh []=pure [] from rfl,ak]at h;show#[c.S,c.st,[],λa=>id,k,n,m,h]
 |r::rs,vs,c,Post,j,k,n,m,h=>by
  have(v,t,rfl,G,I,J):=m;rw[show dh (r::rs)=lift r >>= λu=>dh rs >>= λus=>pure (u::us) from rfl,ab]at h;have(S1,st1,u,s1,L,N,b,p,O,Q):=ff j k n G h;rw[ab]at p;have T:cu C c0 {c with S:=S1,st:=st1} rs t:=by
   clear h p;have s:∀(l:List (Kd×U)) (w:List V),cu C c0 c l w->(r.1=.own->∀(i:Nat) f v',l[i]?=a5 f->w[i]?=a5 v'->f.1=.own->v'≠v)->cu C c0 {c with S:=S1,st:=st1} l w:=by
    intro l;induction l with
    |nil=>intro w q _;show q
    |cons r2 l Y =>
     intro w q x;have(y,A,rfl,g,q2,q3):=q;show#[y,A,rfl,?_,Y A q2 (λhk i f v' e1 e2 Ju=>x hk (i+1) f v' (by simpa using e1) (by simpa using e2) Ju),q3];have(k2,u2):=r2;cases k2 with
     |own =>
      have(a,e,p1,p2,B,p4):=g;show#[a,e,p1,λz=>?_,λz=>B (Q a z),p4.mv (.up s1) λo q=>q];rcases O a z with z|⟨z,z'|z'⟩
      .show p2 z
      .show x z' 0 _ y rfl rfl rfl (e.trans z.symm)
      .show B z'
     |loc=>show Rep.mv (.up s1) g
     |any=>show Rep.mv (.up λa z=>z.imp id (s1 a)) g
     |_=>show g
   show s rs t I J
  have(S2,st2,us,s2,Jb,n2,d,D):=iI (c:={c with S:=S1,st:=st1}) j L N T p;rw[ak]at D;show#[S2,st2,u::us,λa z=>s2 a (s1 a z),Jb,n2,#[v,t,rfl,b.mv (.up s2),d],D]
def Bg(j:PA X es (JR C ms)):PE X (.Tuple es p pos) (IH C (ms >>= λrs=>au rs >>= λ_=>dh rs >>= λus=>if us.length<=cK then pure (.loc,.tup us) else M.fail)):=by
 rintro a s σ H Q I ⟨c0,rfl,rfl,g,h⟩;show Ë (ID (args j I g h pos) λus s1 k=>?_);have(rs,c,vs,t,i,rv,w):=k;rw[ab]at w;have(S',st',ws,q,l,m,d,f):=iI g t.ok t.nx t.rep w;split at f
 .rename_i hz;rw[ak]at f;have hl:vs.length<=cK:=by rw[<-d.len];show hz
  show#[by rw[<-rv.length];show hl,?_];have n:c.H s1.heap.objs.size=bD:=i.IE.fresh (hY _);have o:Inv X a c0.σ c.H s1:=by rw[<-t.hσ];show i
  show#[.ref s1.heap.objs.size,upd c.H s1.heap.objs.size (.tup vs),o.laid (t':=s1.toks) (λb u e=>c4 _ e) (hY _) ⟨hl,us,rv,WI _ _⟩,rfl,?_];show b_.tup (c:={c with S:=S',st:=st' }) f t.hσ l m d _ n
 .show(aX.mp f).elim
def Bh(j:PA X es (JR C ms)):PE X (.List es pos) (IH C (ms >>= λrs=>au rs >>= λ_=>dh rs >>= λus=>if us.length<=cK then pure (.own,.lst us) else M.fail)):=by
 rintro a s σ H Q I ⟨c0,rfl,rfl,g,h⟩;show Ó (ID (args j I g h pos) λus s1 k=>?_);have(rs,c,vs,t,i,rv,w):=k;rw[ab]at w;have(S',st',ws,p,l,m,d,f):=iI g t.ok t.nx t.rep w;split at f
 .rename_i hz;rw[ak]at f;have hl:vs.length<=cK:=by rw[<-d.len];show hz
  show#[by rw[<-rv.length];show hl,?_];have n:c.H s1.heap.objs.size=bD:=i.IE.fresh (hY _);have o:Inv X a c0.σ c.H s1:=by rw[<-t.hσ];show i
  show#[.ref s1.heap.objs.size,upd c.H s1.heap.objs.size (.lst vs),o.laid (t':=s1.toks) (λb u e=>c4 _ e) (hY _) ⟨hl,us,0,rv,hW _ rfl⟩,rfl,?_];show b_.list (c:={c with S:=S',st:=st' }) f t.hσ l m d _ n
 .show(aX.mp f).elim
end
section
def oH(d:X.N[i]?=a5 x)(f:JL X.env.scope x)(g:(x==("__debug__":Str))=b6)(l:(x==("__classdict__":Str))=b6):PE X (.Name x pos) (IH C (di i)):=by
 show PE.weak (aT d f g l) ?_;rintro σ H Q ⟨c0,rfl,rfl,b,r,st',e,h⟩;unfold di at e;split at e
 .cases e
 .rename_i k u m hs;cases e;have(v,c,a):=b.sl i k u hs;show#[v,c,h c0 v rfl rfl b (Nx.refl c0) ?_];by_cases hk:k.root=a8
  .rw[ę hk];show#[#[k,hk,hs],c]
  .rw[Ě hk];cases k with
   |loc=>show a
   |any=>show a
   |bor j=>show a.elim
   |A'=>show(m rfl).elim
   |_=>show absurd rfl hk
 .cases e
def iJ(h:PE X e (tC v))(r:∀S H,Rep C S H u v):PE X e (IH C (pure (.loc,u))):=by
 show PE.weak h ?_;rintro σ H Q ⟨c0,rfl,rfl,a,h⟩;rw[ak]at h;show h c0 v rfl rfl a (Nx.refl c0) (r _ _)
def b_.root(h:b_ C c0 Q (.own,u) c.st)(d:c.σ=c0.σ)(b:Ok C c)(n:Nx c0 c)(p:dt)(a:c.H p=bD)(r:cC C c.S (upd c.H p o) p u):Q (.ref p) (upd c.H p o):=by
 have(e,f):=b.lay (o:=o) a;have(j,g,k,l,i):=b.eh a;show h {c with H:=upd c.H p o} _ d rfl e (n.trans f) ⟨p,rfl,n.none a,g,i,r⟩
def yf(c:C.P=X.prog)(d:C.w=X.w)(r:Bool):PE X (.Dict [] [] pos) (IH C (pure (.own,.G' [] []))):=by
 show PE.weak pR ?_;rintro σ H Q ⟨c0,rfl,rfl,a,h⟩ p b;rw[ak]at h;show b_.root h rfl a (Nx.refl c0) p b #[[],aj,rfl,rfl]
def ar.Je{S:dt->Prop}(h:ar C S H us vs)(e:Je us i=a5 u):∃v,L2.Je vs i=a5 v/\Rep C S H u v:=by
 unfold L2.Je at e ⊢;rw[h.len]at e;cases q:Ma vs.length i with
 |none=>rw[q]at e;cases e
 |some j =>
  rw[q]at e;show h.get e
def D6(L:C.K=X.K)(N:X.A.units+60<Kc)(hs:j_ b)(t:P' C c0 c x y j l)(I:Inv X d c.σ c.H s)(B:RelV j v)(D:RelV l u)(h:gS x y.2=a5 r)(q:b_ C c0 Q r c.st):
  gm (i4 X.prog X.w) X.A (U9 a b v u) (EP X d c.σ Q) X.xe s:=by
 obtain⟨G,f,n,J,m,-⟩:=t;have(O,T):=y
 dsimp only at h m
 unfold gS at h;split at h
 .rename_i k xs i;rw[dV]at h;have(w,e,rfl):=h;have(a',vs,ex,g,o):=J.list f;have(vw,p,z):=o.Je e;show tF a b d s c.σ c.H j l v u Q I B D #[a',vs,i,vw,ex,m.int f,L▸g,p,q c vw G rfl f n (aB.item z)] (hs _ _)
 .rename_i k xs i;rw[dV]at h;have(w,e,rfl):=h;have(a',vs,ex,g,o):=J.tuple f;have(vw,p,z):=o.Je e;rw[L]at g;show fL a b d s c.σ c.H j l v u Q I B D #[a',vs,i,vw,ex,m.int f,g,p,q c vw G rfl f n (aB.item z)] (hs _ _)
 .split at h
  .rw[dV]at h;have(w,e,rfl):=h;show kM a b d s c.σ c.H j l v u Q I B D #[_,_,w,J.str f,m.int f,by assumption,e,q c _ G rfl f n rfl] (hs _ _)
  .cases h
 .rename_i xs i;rw[dV]at h;have(w,e,rfl):=h;have(a',vs,ex,g,o):=J;have(vw,p,z):=o.Je e;show tF a b d s c.σ c.H j l v u Q I B D #[a',vs,i,vw,ex,m.int f,L▸g.sq,p,q c vw G rfl f n (aB.item (k:=.any) z)] (hs _ _)
 .cases h
def Bi(f:C.K=X.K)(g:X.A.units+60<Kc)(hs:j_ b)(i:PE X a (IH C j))(k:PE X b (IH C l)):PE X (.Subscript a b pos) (IH C (j >>= λx=>l >>= λy=>au [x,y] >>= λ_=>M.Jd (gS x y.2))):=by
 rintro d s σ H Q I ⟨c0,rfl,rfl,m,h⟩;show XO (two i k I m h λx y c B D v u s2 t n o p w=>?_);have(r,e,q):=cq.mp w;show ID (D6 f g hs t n o p e q) λ_ _ z=>by rw[t.hσ]at z;show z
def ar.cut{S:dt->Prop}(h:ar C S H us vs)(lo hi:Option Int):ar C S H (TM.cut us lo hi) (pO vs lo hi):=by
 unfold TM.cut pO;rw[h.len];show(h.drop _).take _
def vM{lo hi:Option Int}(h:HT.IS xs.length 0 lo=0/\HT.IS xs.length xs.length hi=xs.length):cut xs lo hi=xs:=by
 unfold cut;rw[h.1,h.2];simp
end
section
variable{prog:ux}{w:wh}{A:Mx}{E:dr->hQ->Prop}{s:hQ}
def gE{lo hi:Option Int}(b:Æ s.heap t a)(hs:s.heap.IsSliceOf c e f .none)(pl:TN e lo)(g:TN f hi)
  (d:HT.IS a.size 0 lo=0/\HT.IS a.size a.size hi=a.size) (h:Q (.ref t) s):gm (i4 prog w) A (Rz (.ref t) (.ref c)) Q E s:=by
 have(os,i,j,m):=id hs;have k:s.TypeIs (.ref c) "slice":=#[os,i,j]
 unfold Rz
 try with_reducible show zc ?_
 first|show cL (fx ?_)|skip
 show cL (à b.typeIs (by decide) ?_);show cL (Mr (name:=Pk "__getitem__") b.typeIs uk
  (Mi uk b.typeIs Ì ?_ (Ü _ _)))
 change gm _ _ (Ti (.ref t) >>= _) _ _ s;show cL (tupleItemsOf_ b ?_);show cL (SE k ?_);rw[ę (by decide)];show cL (HT.eB hs pl g ?_);have l:(((HT.IS a.size 0 lo:Nat):Int)==0&&(1:Int)==1&&(HT.IS a.size a.size hi - HT.IS a.size 0 lo)==a.size)=a8:=by
  rw[d.1,d.2];simp
 change gm _ _ (if (((HT.IS a.size 0 lo:Nat):Int)==0&&(1:Int)==1&&(HT.IS a.size a.size hi - HT.IS a.size 0 lo)==a.size)=a8 then _ else _) _ _ s;rw[ę l];change gm (i4 prog w) A.in1 ((Zh (kl t) >>= λx=>pure (x==.type "tuple")) >>= _) _ _ s;show cL (cL (SE b.typeIs (fx ?_)));rw[ę (by decide)];show cL (RU (fx #[_,rfl,fx h]))
end
section
variable{X:Cx}{C:Ct}{pins:List (dt×Obj)}{s:hQ}{c0 c c1:Cf}
variable{a b d e:lx}{es:List lx}{m ma mb md:M (Kd×U)}{ms:M (List (Kd×U))}{ta tb:M Bool}{pos p p2:Pos}
def Bj:MA X (λx lo hi H Q=>∃a xs,x=.ref a/\Ji X.K H a xs/\(HT.IS xs.length 0 lo=0/\HT.IS xs.length xs.length hi=xs.length)/\Q (.ref a) H):=by
 intro pins s σ H x v o t lo hi u Q I i hs pl j h;have(a,xs,rfl,k,l,q):=h;cases i;have(n,r,g,hz):=I.tuple k;have f:n.toArray.size=xs.length:=by rw[hE];show r.length.symm
 show#["tuple",_,uk.lookup,g.typeIs,gE g hs pl j (by rw[f];show l) #[.ref a,H,I,rfl,q]]
abbrev tO(C:Ct)(m:M (Option Int)):TO:=λσ H Q=>∃c0:Cf,c0.σ=σ/\c0.H=H/\Ok C c0/\W m c0.st λi st'=>∀c,c.σ=σ->c.st=st'->Ok C c->Nx c0 c->Q i c.H
def vN:PO X bD (tO C (pure bD)):=by
 rintro pins s σ H Q I ⟨c0,rfl,rfl,f,h⟩;rw[ak]at h;show Ay pins s c0.σ c0.H Q I (h c0 rfl rfl f (Nx.refl c0))
def vO(f:PE X a (IH C ma)):PO X (a5 a) (tO C (ma >>= DY)):=by
 rintro pins s σ H Q I ⟨c0,rfl,rfl,g,h⟩;show Az f pins s c0.σ c0.H Q I (aJ g h λx c v t w=>?_);have(k,u):=x;unfold DY at w;split at w
 .rename_i i e
  dsimp only at e
  subst e;rw[ak]at w;show#[i,t.rx.int t.ok,w c t.hσ rfl t.ok t.nx]
 .show(aX.mp w).elim
def D7{lo hi:Option Int}(t:C.K=X.K)(j:c.σ=c0.σ)(f:Ok C c)(n:Nx c0 c)(l:aB C c0 c x.1 x.2 o)(h:j3 x lo hi=a5 r)(q:b_ C c0 Q r c.st):
  ((FR X.K o lo hi c.H Q\/FO X.K o lo hi c.H Q)\/(∃a xs,o=.ref a/\Ji X.K c.H a xs/\(HT.IS xs.length 0 lo=0/\HT.IS xs.length xs.length hi=xs.length)/\Q (.ref a) c.H))\/FX o lo hi c.H Q:=by
 unfold j3 at h;split at h
 .split at h
  .rename_i u;cases h;have(a',vs,ex,i,g):=l.list f;show .inl (.inl (.inl #[a',vs,ex,t▸i,λp k=>q.list j f n ((dq u g).cut lo hi) p k]))
  .cases h
 .split at h
  .rename_i u;cases h;have(a',vs,ex,i,g):=l;show .inl (.inl (.inl #[a',vs,ex,t▸i.sq,λp k=>q.list j f n ((g.IQ u).cut lo hi) p k]))
  .cases h
 .cases h;have(a',vs,ex,i,g):=l.tuple f;have v:=i;rw[t]at v;by_cases w:HT.IS vs.length 0 lo=0/\HT.IS vs.length vs.length hi=vs.length
  .show .inl (.inr #[a',vs,ex,v,w,?_]);show q c (.ref a') j rfl f n (aB.item #[a',vs,rfl,i,?_]);rw[vM (by rw[g.len];show w)];show g
  .show .inl (.inl (.inr #[a',vs,ex,v,w,λp k=>q.tupK j f n (g.cut lo hi) p k]))
 .split at h
  .cases h;show .inr #[_,l.str f,by assumption,q.flat j f n rfl]
  .cases h
 .cases h
def Bl{lo hi:Option lx}(k:C.K=X.K)(n:PE X a (IH C ma))(hl:PO X lo (tO C ml))(o:PO X hi (tO C u)):
  PE X (.Subscript a (.Slice lo hi bD p2) pos) (IH C (ma >>= λx=>ml >>= λl=>u >>= λh=>au [x] >>= λ_=>M.Jd (j3 x l h))):=by
 show PE.weak (xy (((MA.or AB Dv).or Bj).or DK) n hl o) ?_;rintro σ H Q ⟨c0,rfl,rfl,y,h⟩;show aJ y h λx c v t w=>?_;rw[ab]at w;show#[c,t.hσ,rfl,t.ok,w.mono λl st2 g z A B D G=>?_];subst B;rw[ab]at g;show#[z,A,rfl,D,g.mono λl' st3 f I i J L N=>?_];subst J;rw[ab,bQ]at f;have(r,e,q):=cq.mp f.2;have j:Nx c I:=G.trans N;show D7 k i L (t.nx.trans j) ((t.rx.w.on t.ok j (i.trans t.hσ.symm)).t f.1) e q
end
section
variable{X:Cx}{C:Ct}{pins:List (dt×Obj)}{s:hQ}{c0 c c1:Cf}
variable{a b d e:lx}{es:List lx}{m ma mb md:M (Kd×U)}{ms:M (List (Kd×U))}{ta tb:M Bool}{pos p p2:Pos}
abbrev Bf.val:Bf->dr
 |.len=>.builtin "len"|.sorted=>.builtin "sorted"|.repr=>.builtin "repr"|.max=>.builtin "max"|.min=>.builtin "min"|.all=>.builtin "all"|.any=>.builtin "any"
 |.list=>.type "list"|.tuple=>.type "tuple"|.str=>.type "str"|.int=>.type "int"
abbrev Bf.name:Bf->Str
 |.len=>"len"|.sorted=>"sorted"|.repr=>"repr"|.max=>"max"|.min=>"min"|.all=>"all"|.any=>"any"
 |.list=>"list"|.tuple=>"tuple"|.str=>"str"|.int=>"int"
def call_of(g:gH X f r)(I:Inv X pins c.σ c.H s)(rv:Vals vs us)(h:r vs c.H Q):gm (i4 X.prog X.w) X.A (MN f us) (EP X pins c.σ Q) X.xe s:=g pins s c.σ c.H vs us Q I rv h
def bH(h:gD f rs=a5 r):∃x,rs=[x]/\f x=a5 r:=by
 unfold gD at h;split at h
 .show#[_,rfl,h]
 .cases h
def CB(G:X.calm=a8)(z:C.K=X.K)(L:X.A.guards=a5 [])(N:X.A.units+60<Kc)(t:Jz C c0 c rs vs)(I:Inv X pins c.σ c.H s)(rv:Vals vs us)(h:J5 f rs=a5 r)(q:b_ C c0 Q r c.st):
  gm (i4 X.prog X.w) X.A (MN f.val us) (EP X pins c.σ Q) X.xe s:=by
 have u:=t.hσ;have g:=t.ok;have n:=t.nx;cases f with
 |len =>
  have(x,rfl,hz):=bH (f:=λx=>(AX x.2).map λ(n:Nat)=>(Kd.loc,U.int (n:Int))) h;clear h;have h:=hz;clear hz;rw[dV]at h;have(k,e,rfl):=h;have(v,rfl,l):=t.one;have(O,D):=x;unfold AX at e;split at e
  .rename_i xs o;have o:D=.lst xs:=o;subst o;cases e;have(a',ws,ex,i,j):=l.list g;rw[j.len]at q;show call_of dE I rv #[a',ws,by rw[ex],.inl (z▸i),q.flat u g n rfl]
  .rename_i xs o;have o:D=.tup xs:=o;subst o;cases e;have(a',ws,ex,i,j):=l.tuple g;rw[z]at i;rw[j.len]at q;show call_of dE I rv #[a',ws,by rw[ex],.inr i,q.flat u g n rfl]
  .rename_i xs o;have o:D=.str xs:=o;subst o;split at e
   .cases e;show call_of oi I rv #[_,by rw[l.str g],by assumption,q.flat u g n rfl]
   .cases e
  .rename_i xs o;have o:D=.JF xs:=o;subst o;cases e;have(a',ws,ex,i,j):=l.read g;rw[j.len]at q;show call_of dE I rv #[a',ws,by rw[ex],.inl (z▸i.sq),q.flat u g n rfl]
  .cases e
 |sorted =>
  have(x,rfl,hz):=bH (f:=DR) h;clear h;have h:=hz;clear hz;have(v,rfl,l):=t.one;unfold DR at h;split at h
  .rw[ki]at h;have(ss,e,h):=h;have B:=cJ e;subst B;have(a',ws,ex,i,j):=l.list g;rw[ar.strs]at j;subst j;split at h
   .cases h;show call_of jI I rv #[a',ss,by rw[ex],.inl (z▸i),by assumption,λp y=>q.list u g n (ar.strs.mpr rfl) p y]
   .cases h
  .have(a',kvs,ex,i,j,_):=l.dict g;split at h
   .cases h;show call_of (jk G) I rv #[a',kvs,_,by rw[ex],i,j,by assumption,λp y=>q.list u g n (ar.strs.mpr rfl) p y]
   .cases h
  .rw[ki]at h;have(ss,e,h):=h;have B:=cJ e;subst B;have(a',ws,ex,i,j):=l.tuple g;rw[z]at i;rw[ar.strs]at j;subst j;split at h
   .cases h;show call_of jI I rv #[a',ss,by rw[ex],.inr i,by assumption,λp y=>q.list u g n (ar.strs.mpr rfl) p y]
   .cases h
  .cases h
 |list =>
  have(x,rfl,hz):=bH (f:=DS) h;clear h;have h:=hz;clear hz;have(v,rfl,l):=t.one;unfold DS at h;split at h
  .have(a',ws,ex,i,j):=l.list g;split at h
   .cases h;show call_of ip I rv #[a',ws,by rw[ex],.inl (z▸i),λp y=>q.list u g n (dq (by assumption) j) p y]
   .cases h
  .have(a',ws,ex,i,j):=l.tuple g;rw[z]at i;split at h
   .cases h;show call_of ip I rv #[a',ws,by rw[ex],.inr i,λp y=>q.list u g n (dq (by assumption) j) p y]
   .cases h
  .cases h
 |tuple =>
  have(x,rfl,hz):=bH (f:=DT) h;clear h;have h:=hz;clear hz;have(v,rfl,l):=t.one;unfold DT at h;split at h
  .have(a',ws,ex,i,j):=l.list g;cases h;show call_of gI I rv #[a',ws,by rw[ex],.inl #[z▸i,λp y=>q.tupK u g n j p y]]
  .have(a',ws,ex,i,j):=l.tuple g;have J:=i;rw[z]at J;cases h;show call_of gI I rv #[a',ws,by rw[ex],.inr #[J,q c (.ref a') u rfl g n (aB.item #[a',ws,rfl,i,j])]]
  .cases h
 |str =>
  have(x,rfl,hz):=bH (f:=x6) h;clear h;have h:=hz;clear hz;have(v,rfl,l):=t.one;unfold x6 at h;split at h
  .split at h
   .cases h;show call_of nZ I rv #[_,by rw[l.int g],by assumption,q.flat u g n rfl]
   .cases h
  .cases h
 |all =>
  have(x,rfl,hz):=bH (f:=DU) h;clear h;have h:=hz;clear hz;have(v,rfl,l):=t.one;unfold DU at h;split at h
  .rw[dV]at h;have(bs,e,rfl):=h;have B:=lu e;subst B;have(a',ws,ex,i,j):=l.list g;have:=j.Vy;subst this;show call_of (xP G) I rv #[a',bs,by rw[ex],z▸i,q.flat u g n rfl]
  .cases h
 |_=>cases h
def Bm{id:String}(g:X.calm=a8)(i:C.K=X.K)(j:X.A.guards=a5 [])(k:X.A.units+60<Kc)(l:f.val=.builtin id)(n:Gl X x)(o:X.mg x=bD)(u:zr x=a5 (.builtin id))(v:x≠"__name__")(y:(x==("__debug__":Str))=b6)
  (B:PA X (e::es) (JR C ms)) (D:il (e::es) X.env=(b6,sL e X.env)::il es X.env) (G:(v3 pos (il es X.env)).any (·.1)=b6) :
  PE X (.Call (.Name x p) (e::es) [] pos) (IH C (ms >>= λrs=>au rs >>= λ_=>M.Jd (J5 f rs))):=by
 rintro pins s σ H Q I ⟨c0,rfl,rfl,J,h⟩;show tj (dQ I n o u ?_ v y);show OH (ID (args B I J h pos) λus s1 ⟨rs,c,vs,t,L,rv,w⟩=>?_) D G;have(r,e,q):=cq.mp w;have z:=CB g i j k t L rv e q;rw[l,t.hσ]at z;show z
def Bn(g:X.calm=a8)(i:C.K=X.K)(j:X.A.guards=a5 [])(k:X.A.units+60<Kc)(l:f.val=.type T)(n:Gl X x)(o:X.mg x=bD)(u:zr x=a5 (.type T))(v:x≠"__name__")(y:(x==("__debug__":Str))=b6)
  (B:PA X (e::es) (JR C ms)) (D:il (e::es) X.env=(b6,sL e X.env)::il es X.env) (G:(v3 pos (il es X.env)).any (·.1)=b6) :
  PE X (.Call (.Name x p) (e::es) [] pos) (IH C (ms >>= λrs=>au rs >>= λ_=>M.Jd (J5 f rs))):=by
 rintro pins s σ H Q I ⟨c0,rfl,rfl,J,h⟩;show tj (dQ I n o u ?_ v y);show Hf (ID (args B I J h pos) λus s1 ⟨rs,c,vs,t,L,rv,w⟩=>?_) D G;have(r,e,q):=cq.mp w;have z:=CB g i j k t L rv e q;rw[l,t.hσ]at z;show z
abbrev Mm.name:Mm->Str
 |.str=>"str"|.list=>"list"|.tuple=>"tuple"|.int=>"int"|.bool=>"bool"
abbrev Mm.nm:Mm->String
 |.str=>"str"|.list=>"list"|.tuple=>"tuple"|.int=>"int"|.bool=>"bool"
def Bo(T:Mm):zr T.name=a5 (.type T.nm)/\T.name≠"__name__"/\(T.name==("__debug__":Str))=b6:=by
 cases T<;>show#[by decide +kernel,by decide +kernel,by decide +kernel]
def kf(T:Mm):Zh (.type T.nm)=pure (.type "type"):=by cases T<;>kernel_rfl
def sub_int(T:Mm):T_ (.type "int") (.type T.nm)=pure (cb (T=.int)):=by cases T<;>(rw[Qb];kernel_rfl)
def ne_int{T:Mm}(h:¬T=.int):(y0 "int"==y0 T.nm)=b6:=by cases T<;>first|show absurd rfl h|decide
def D8{b:Bool}(z:C.K=X.K)(t:Og C c0 c x v)(I:Inv X pins c.σ c.H s)(rv:RelV v val)(h:oF x.2 T=a5 b)(q:∀i,Q (.bool b) {s with toks:=i}):
  gm (i4 X.prog X.w) X.A (MN (.builtin "isinstance") [val,.type T.nm]) Q X.xe s:=by
 have(k,u):=x;have(G,j,n,r):=t;have l:Q (.bool b) s:=q s.toks
 dsimp only at h r
 unfold oF at h;split at h
 .cases h;have e:v=_:=r.int j;subst e;have(i,rfl):=rv;by_cases f:T=.int
  .subst f;show N7 (typeIs_int s _ i) (kf .int) (sub_int .int) l
  .rw[ě f]at q;show call_isinstance (isinstance_false_int (ne_int f) (kf T) (by rw[sub_int,ě f])) (q _)
 .have(f,e):=E'.mp h;cases e;subst f;have(a',ws,rfl,g,B):=r.list j;cases rv;rw[z]at g;have(D,_,pl,_):=I.list g;have(o,ho,y,_):=pl.isList;show N7 #[o,ho,y] (kf .list) (by rw[Qb];kernel_rfl) l
 .have(f,e):=E'.mp h;cases e;subst f;have(a',ws,rfl,g,B):=r.tuple j;cases rv;rw[z]at g;have(D,_,(o,ho,y,_),_):=I.tuple g;show N7 #[o,ho,y] (kf .tuple) (by rw[Qb];kernel_rfl) l
 .cases h
def t5(g:C.K=X.K)(i:Gl X "isinstance")(j:X.mg "isinstance"=bD)(k:Gl X T.name)(l:X.mg T.name=bD)(n:PE X a (IH C ma))(hs:il [a,.Name T.name p2] X.env=(b6,sL a X.env)::il [.Name T.name p2] X.env):
  PE X (.Call (.Name "isinstance" p) [a,.Name T.name p2] [] pos) (IH C (ma >>= λx=>M.Jd (oF x.2 T) >>= λb=>pure (.loc,.bl b))):=by
 rintro pins s σ H Q I ⟨c0,rfl,rfl,o,h⟩;have(q,r,u):=Bo T;show tj (dQ I i j (show zr "isinstance"=a5 (.builtin "isinstance") by decide +kernel) ?_ (by decide +kernel) (by decide +kernel));show OH (ID (bz n (bz (Al (v:=.ty T.nm) k l q rfl r u) cP) hs pos pins s c0.σ c0.H (λvs H'=>∃x c v b,Og C c0 c x v/\c.H=H'/\vs=[v,.ty T.nm]/\oF x.2 T=a5 b/\b_ C c0 Q (.loc,.bl b) c.st) I ?_) λus s1 ⟨vs,L,f,r1,x,c,v,b,t,e,y,A,w⟩=>?_) hs (by rfl)
 .show aJ o h λx c v t w=>?_;rw[ab]at w;have(b,e,w):=cq.mp w;rw[ak]at w;show#[x,c,v,b,t,rfl,rfl,e,w]
 .subst e y;have(N,O,rfl,B,D):=vals2 r1;cases D;have G:Inv X pins c.σ c.H s1:=by rw[t.hσ];show f
  have z:=D8 (Q:=EP X pins c0.σ Q) g t G B A λJ=>#[.bl b,c.H,f.tok J,rfl,w c (.bl b) t.hσ rfl t.ok t.nx rfl]
  show z
@[reducible]noncomputable def Oh(P:ux)(w:wh)(K:PySem.W.Frag)(H:Hp)(Pr:dt->Prop):Ct:=#[P,w,K,H,Pr,λ_=>False,λ_ _=>False]
structure Back(C:Ct)(H H':Hp)(S':dt->Prop)(k:Kd)(u:U)(v:V):Prop where
 same:rB H H'
 new:∀a,S' a->H a=bD/\∃o,H' a=a5 o
 own:k=.own->∃r,v=.ref r/\H r=bD/\¬S' r/\cC C S' H' r u
 loc:k=.loc->Rep C S' H' u v
 any:k=.any->Rep C (PS C S') H' u v
abbrev spT(P:ux)(w:wh)(K:PySem.W.Frag)(F:List U->Option (Ex (Kd×U)))(f:Nat):Sp:=λvs H Q E=>vs.length=f/\∃us r Pr,F us=a5 r/\(∀a,Pr a->JO H a)/\ar (Oh P w K H Pr) Pr H us vs/\match r with
 |.ok (k,u)=>(k=.own\/k=.loc\/k=.any)/\∀v H' S',Back (Oh P w K H Pr) H H' S' k u v->Q v H'
 |.exc c=>∀C H',PySem.W.nsIn K mx c=a5 (a5 (.ref C))->rB H H'->E (.ref C) bD H'
def Jz.read(t:Jz C c0 c rs vs):ar C (JO c.H) c.H (rs.map (·.2)) vs:=by
 have f:∀(l:List (Kd×U)) (w:List V),cu C c0 c l w->aY l c.st->ar C (JO c.H) c.H (l.map (·.2)) w:=by
  intro l;induction l with
  |nil=>intro w h _;show h
  |cons r l g =>
   intro w h hs;have(v,t',rfl,i,j,_):=h;rw[dN]at hs;show#[v,t',rfl,(i.t hs.1).read t.ok,g t' j hs.2]
 show f rs vs t.rep t.MF
def Back.here(hk:k=.own\/k=.loc)(i:c.σ=c0.σ)(f:Ok C c)(n:Nx c0 c)(q:j.Eqv C)(h:Back j c.H H' S' k u v)(w:b_ C c0 Q (k,u) c.st):Q v H':=by
 have(l,t):=f.grow (S':=λa=>c.S a\/S' a) h.same (λa z=>z.imp id λz=>h.new a z) λa=>.inl;have x:=n.trans t;show w {c with H:=H',S:=λa=>c.S a\/S' a} v i rfl l x ?_;rcases hk with rfl|rfl
 .have(r,e,g,y,A):=h.own rfl;have(G,B,I,J,D):=f.eh g;show#[r,e,n.none g,λz=>z.elim B y,D,(A.cg q).mv (.up λa=>.inr) λo q=>q]
 .show((h.loc rfl).cg q).mv (.up λa=>.inr)
def yg(o:C.P=X.prog)(x:C.w=X.w)(y:C.K=X.K)(L:Γ f=F)(hk:∀us k u,F us=a5 (.ok (k,u))->(k=.own\/k=.loc\/k=.any)/\us.length=B)
  (G:dC X.prog X.w X.K X.mg X.base (Ky X.prog X.w) k fa N ps (spT X.prog X.w X.K F B)) (O:cO k X.A) (T:Gl X f) (Y:X.mg f=a5 (.ref fa)) (Oi:PySem.W.keepIn X.K (.ref fa)=a8) (j:Binds X.K N ps [])
  (KO:(f==("__debug__":Str))=b6) (ha:PA X (e::es) (JR C ms)) (he:il (e::es) X.env=(b6,sL e X.env)::il es X.env) (JE:(v3 pos (il es X.env)).any (·.1)=b6) :
  PE X (.Call (.Name f p) (e::es) [] pos) (IH C (ms >>= λrs=>au rs >>= λ_=>lj Γ f (rs.map (·.2)))):=by
 rintro pins s σ H Q I ⟨c0,rfl,rfl,ok,h⟩;show tj (gc I T Y ?_ KO);show PySem.W.callWith_K (h₀:=X.base) I.ok.mod.NM Oi (ID (args ha I ok h pos) λus s1 ⟨rs,c,vs,t,D,rv,w⟩=>#[D.KN,?_]) he JE;have(r,st',g,q):=w;unfold lj at g;rw[L]at g;cases i:F (rs.map (·.2)) with
 |none=>rw[i]at g;cases g
 |some r' =>
  rw[i]at g;split at g
  .cases g
  .rename_i z;cases z
  rename_i TR e3;cases e3;cases g;have(l,u):=r;have(k0,k2):=hk _ _ _ i;have k1:l=.own\/l=.loc:=by
   rcases k0 with z|z|z
   .show .inl z
   .show .inr z
   .subst z;show(TR u rfl).elim
  have n:C.Eqv (Oh X.prog X.w X.K c.H (JO c.H)):=#[o,x,y]
  have TU:(Oh X.prog X.w X.K c.H (JO c.H)).Eqv C:=#[o.symm,x.symm,y.symm]
  have J:=t.read;have Kf:spT X.prog X.w X.K F B vs c.H (λv H'=>Q v H') E0:=#[by rw[<-J.len];show k2,rs.map (·.2),.ok (l,u),JO c.H,i,λ_ z=>z,J.cg n,k0,λv H' S' j=>j.here k1 t.hσ t.ok t.nx TU q]
  have z:=jf (Q:=Q) G O j .nil m7 D rv (by rw[rl];show Kf);rw[t.hσ]at z;show z
end
section
abbrev Mf.id:Mf->String
 |.split=>"str.split"|.join=>"str.join"|.partition=>"str.partition"|.endswith=>"str.endswith"
abbrev Mf.name:Mf->Str
 |.split=>"split"|.join=>"join"|.partition=>"partition"|.endswith=>"endswith"
def yh(h:mJ f u rs=a5 r):∃x,u=.str x:=by
 obtain⟨b,e,-⟩:=fP h;show#[b,e]
def D9(L:C.K=X.K)(t:Jz C c0 c (x::rs) (l::vs))(I:Inv X d c.σ c.H s)(u:RelV l v)(rv:Vals vs us)(h:mJ f x.2 rs=a5 r)(q:b_ C c0 Q r c.st):
  gm (i4 X.prog X.w) X.A (MN (.builtin f.id) (v::us)) (EP X d c.σ Q) X.xe s:=by
 have y:=t.hσ;have i:=t.ok;have n:=t.nx;have(N,O):=x;have hs:=dN.mp t.MF;obtain⟨v0,J2,T,z,B,-⟩:=t.rep;cases T;have Y:aB C c0 c N O l:=z.t hs.1;have one:∀{r:Kd×U},cu C c0 c [r] vs->aY [r] c.st->∃v,vs=[v]/\aB C c0 c r.1 r.2 v:=λ{r} h s=>by
  have(v,t',rfl,z,B,_):=h;cases B;show#[v,rfl,z.t s]
 have(a,G,g):=fP h
 dsimp only at G
 subst G;have((ky,uy),er,m):=bH g;subst er;have(w,rfl,o):=one B hs.2;have ex:=Y.str i
 dsimp only at m o
 cases f with
 |split =>
  have(b,rfl,j):=fP m;have(k,e):=E'.mp j;cases e;show xO d s c.σ c.H l [w] v us Q I u rv #[_,_,ex,by rw[o.str i],k.1,k.2,λp D=>q.list y i n (ar.strs.mpr rfl) p D]
 |join =>
  cases uy with
  |lst xs =>
   have(ss,e,j):=ki.mp m;have e':=cJ e;subst e';have(k,e):=E'.mp j;cases e;have(a',ws,ew,h3,J):=o.list i;rw[ar.strs]at J;subst J;show AL d s c.σ c.H l [w] v us Q I u rv #[_,a',ss,ex,by rw[ew],L▸h3,k,q.flat y i n rfl]
  |_=>cases m
 |endswith =>
  have(b,rfl,j):=fP m;cases j;show pV d s c.σ c.H l [w] v us Q I u rv #[_,_,ex,by rw[o.str i],q.flat y i n rfl]
 |partition =>
  have(b,rfl,j):=fP m;have(k,e):=E'.mp j;cases e;show ou d s c.σ c.H l [w] v us Q I u rv #[_,_,ex,by rw[o.str i],k.1,k.2,λp D=>?_];show q.tup y i n #[_,_,rfl,rfl,_,_,rfl,rfl,_,_,rfl,rfl,rfl] p D
def Bp(D:C.K=X.K)(slot:Slot "str" name f.id)(G:Zh (.builtin f.id)=pure (.type "method_descriptor"))(ho:PE X o (IH C m))(J:PA X (e::es) (JR C ms))
  (L:NT o name X.env (sL o X.env)=sL o X.env)
  (N:((v3 cpos (il (e::es) X.env)).all (λx=>!x.1)&&(Om cpos (Jf [] X.env)).all (λx=>x.1.isSome)
   && cb ((e::es).length+([]:List Ni).length+(if ([]:List Ni).isEmpty then 0 else 1)<30))=a8)
  (O:(apos.endLine==cpos.line)=a8) (hs:il (e::es) X.env=(b6,sL e X.env)::il es X.env) (T:(v3 cpos (il es X.env)).any (·.1)=b6) :
  PE X (.Call (.Attribute o name apos) (e::es) [] cpos) (IH C (m >>= λx=>ms >>= λrs=>au (x::rs) >>= λ_=>M.Jd (mJ f x.2 rs))):=by
 rintro a s σ H Q I ⟨c0,rfl,rfl,Y,h⟩;show Zg L N O rfl (ID (ho a s c0.σ c0.H (λd k=>∃x c1,c1.H=k/\Og C c0 c1 x d/\W (ms >>= λrs=>au (x::rs) >>= λ_=>M.Jd (mJ f x.2 rs)) c1.st (b_ C c0 Q)) I (aJ Y h λx c v t w=>#[x,c,rfl,t,w])) ?_);rintro v s1 ⟨d,k,l,n,x,c1,rfl,t,w⟩;have Oj:∃z,x.2=.str z:=by
  rw[ab]at w;have(rs,st2,_,w):=w;rw[ab]at w;have(_,st3,_,w):=w;have(r,e,_):=cq.mp w;show yh e
 have(z,hz):=Oj;have p:=t.rx;rw[hz]at p;have ev:=p.str t.ok;have ty:QW X.K "str" d c1.H:=by rw[ev];rfl
 have(h1,h2):=oj l n ty;show#["str",f.id,PySem.F.plainAttrs_str,slot,G,h1,h2,?_];rw[ab]at w;have u:=J cpos a s1 c0.σ c1.H (λvs y=>∃rs b,b.H=y/\Jz C c0 b (x::rs) (d::vs)/\W (M.Jd (mJ f x.2 rs)) b.st (b_ C c0 Q)) l ⟨c1,t.hσ,rfl,t.ok,w.mono λrs st2 g b vs A e4 Jb B r2=>by
  rw[ab,bQ]at g;subst e4;show#[rs,b,rfl,#[A,Jb,t.nx.trans B,#[d,vs,rfl,t.rx.w.on t.ok B (A.trans t.hσ.symm),r2.from t.nx,λhk i r' v' e5 e6 Ju=>lr t.rx.w (r2.get e5 e6) hk Ju],g.1],g.2]⟩
 rw[hs]at u ⊢;show JU (by change(b6||(v3 cpos (il es X.env)).any (·.1))=b6;rw[T]<;>rfl) (Nn ?_);show ID u ?_;rintro us s2 ⟨vs,y,I2,r2,rs,b,rfl,j,w2⟩;have(r,e,q):=cq.mp w2;have z:=D9 D j (by rw[j.hσ];show I2) n r2 e q;rw[j.hσ]at z;show z
end
section
variable{X:Cx}{C:Ct}{pins:List (dt×Obj)}{s:hQ}{c0 c c1:Cf}
variable{e:lx}{es:List lx}{ms:M (List (Kd×U))}{pos p p2 pos2:Pos}
abbrev B2.out:B2->dr
 |.Ml=>.type "tuple"|.KW=>.type "list"|.sset=>.builtin "sorted"|.jg=>.builtin "len"
abbrev B2.Rf:B2->dr
 |.Ml=>.type "reversed"|.KW=>.type "reversed"|.sset=>.type "set"|.jg=>.type "set"
abbrev B2.oI:B2->Str
 |.Ml=>"tuple"|.KW=>"list"|.sset=>"sorted"|.jg=>"len"
abbrev B2.iK:B2->Str
 |.Ml=>"reversed"|.KW=>"reversed"|.sset=>"set"|.jg=>"set"
theorem ar.rev{S:dt->Prop}:∀{us:List U}{vs:List V},ar C S H us vs->ar C S H us.reverse vs.reverse
 |[],vs,h=>by cases h;show rfl
 |u::us,vs,h=>by
  have(v,r,rfl,a,b):=h;rw[RP,RP];show(ar.rev b).append #[v,[],rfl,a,rfl]
def vP(g:C.K=X.K)(i:Ok C c)(j:aB C c0 c k u v)(h:vC u=a5 ss):∃a ys,v=.ref a/\(Jk X.K c.H a (ys.map V.str)\/Ji X.K c.H a (ys.map V.str))/\ys.length+1<Ln/\ss=bg ys:=by
 unfold vC at h;split at h
 .rw[ki]at h;have(ys,e,h):=h;have f:=cJ e;subst f;have(a',ws,ex,d,b):=j.list i;rw[ar.strs]at b;subst b;split at h
  .cases h;show#[a',ys,ex,.inl (g▸d),by assumption,rfl]
  .cases h
 .rw[ki]at h;have(ys,e,h):=h;have f:=cJ e;subst f;have(a',ws,ex,d,b):=j.tuple i;rw[ar.strs]at b;subst b;rw[g]at d;split at h
  .cases h;show#[a',ys,ex,.inr d,by assumption,rfl]
  .cases h
 .cases h
def D_(j:X.calm=a8)(k:C.K=X.K)(t:Jz C c0 c rs vs)(I:Inv X pins c.σ c.H s)(rv:Vals vs us)(h:vD f rs=a5 r)(q:b_ C c0 Q r c.st):
  gm (i4 X.prog X.w) X.A (MN f.Rf us) (λv s1=>gm (i4 X.prog X.w) X.A (MN f.out [v]) (EP X pins c.σ Q) X.xe s1) X.xe s:=by
 have m:=t.hσ;have a:=t.ok;have n:=t.nx;cases f with
 |KW =>
  have(x,rfl,hz):=bH (f:=DV) h;clear h;have h:=hz;clear hz;have(v,rfl,d):=t.one;unfold DV at h;split at h
  .have(a',ws,ex,b,g):=d.list a;rw[k]at b;subst ex;have(u,rfl,i):=vals1 rv;cases i;split at h
   .cases h;show xW j I b λl hl=>q.list m a n (dq (by assumption) g).rev l hl
   .cases h
  .cases h
 |jg =>
  have(x,rfl,hz):=bH (f:=λx:Kd×U=>(vC x.2).map λss:List Str=>(Kd.loc,U.int (ss.length:Int))) h;clear h;have h:=hz;clear hz;have(ss,e,rfl):=dV.mp h;have(v,rfl,d):=t.one;have(a',ys,rfl,b,g,rfl):=vP k a d e;have(u,rfl,i):=vals1 rv;cases i;show oB j I b g λS h' z o y=>rO y o (q.flat m a n rfl)
 |_=>cases h
def t6:∀f:B2,zr f.oI=a5 f.out/\zr f.iK=a5 f.Rf/\f.oI≠"__name__"/\f.iK≠"__name__"/\(f.oI==("__debug__":Str))=b6/\(f.iK==("__debug__":Str))=b6:=by
 intro f;cases f<;>show#[by decide +kernel,by decide +kernel,by decide +kernel,by decide +kernel,by decide +kernel,by decide +kernel]
def Ea(f:B2):∃T,f.Rf=.type T:=by cases f<;>show#[_,rfl]
def Eb(f:B2):(∃T,f.out=.type T)\/∃T,f.out=.builtin T:=by cases f<;>first|show .inl ⟨_,rfl⟩|show .inr ⟨_,rfl⟩
def Bq{M:Model}{E:dr->hQ->Prop}(h:gm M A t (λv a=>gm M A (MN (.type T) [v]) Q E a) E s):gm M A (Xx pos (.type T) [] [(b6,t)] []) Q E s :=
 PySem.callWith_type rfl (Nn (OF (u5 h (λ_ _ b=>Ry b) λ_ _ e=>e)))
def yi{M:Model}{E:dr->hQ->Prop}(h:gm M A t (λv a=>gm M A (MN (.builtin T) [v]) Q E a) E s):gm M A (Xx pos (.builtin T) [] [(b6,t)] []) Q E s :=
 JU rfl (Nn (OF (u5 h (λ_ _ b=>Ry b) λ_ _ e=>e)))
def yj(b:X.calm=a8)(d:C.K=X.K)(g:Gl X f.iK)(i:X.mg f.iK=bD)
  (j:PA X (e::es) (JR C ms)) (k:il (e::es) X.env=(b6,sL e X.env)::il es X.env) (l:(v3 pos2 (il es X.env)).any (·.1)=b6)
  (I:Inv X pins c0.σ c0.H s) (m:Ok C c0) (h:W (ms >>= λrs=>au rs >>= λ_=>M.Jd (vD f rs)) c0.st (b_ C c0 Q)) :
  gm (i4 X.prog X.w) X.A (sL (.Call (.Name f.iK p2) (e::es) [] pos2) X.env) (λv s1=>gm (i4 X.prog X.w) X.A (MN f.out [v]) (EP X pins c0.σ Q) X.xe s1) X.xe s:=by
 have(b1,n,b3,b4,B,o):=t6 f;show tj (dQ I g i n ?_ b4 o);have a:gm (i4 X.prog X.w) X.A (Zi (v3 pos2 (il (e::es) X.env))) (λus s1=>gm (i4 X.prog X.w) X.A (MN f.Rf us) (λv s1=>gm (i4 X.prog X.w) X.A (MN f.out [v]) (EP X pins c0.σ Q) X.xe s1) X.xe s1) X.xe s :=
  ID (args j I m h pos2) λus s1 u=>by
   have(rs,c,vs,t,x,rv,w):=u;have(r,e,q):=cq.mp w;have z:=D_ b d t x rv e q;rw[t.hσ]at z;show z
 have(T,y):=Ea f;rw[y]at a ⊢;show Hf a k l
def Br(d:X.calm=a8)(g:C.K=X.K)(i:Gl X f.oI)(j:X.mg f.oI=bD)(k:Gl X f.iK)(l:X.mg f.iK=bD)
  (m:PA X (e::es) (JR C ms)) (n:il (e::es) X.env=(b6,sL e X.env)::il es X.env) (o:(v3 pos2 (il es X.env)).any (·.1)=b6) :
  PE X (.Call (.Name f.oI p) [.Call (.Name f.iK p2) (e::es) [] pos2] [] pos) (IH C (ms >>= λrs=>au rs >>= λ_=>M.Jd (vD f rs))):=by
 rintro pins s σ H Q I ⟨c0,rfl,rfl,q,h⟩;have(b1,v,b3,b4,r,w):=t6 f;show tj (dQ I i j b1 ?_ b3 r);have a:=yj (p2:=p2) (pos2:=pos2) d g k l m n o I q h;have t:v3 pos (il [.Call (.Name f.iK p2) (e::es) [] pos2] X.env)=[(b6,sL (.Call (.Name f.iK p2) (e::es) [] pos2) X.env)]:=rfl;have u:Om pos (Jf [] X.env)=[]:=rfl;rw[t,u];rcases Eb f with⟨T,b⟩|⟨T,b⟩
 .rw[b]at a ⊢;show Bq a
 .rw[b]at a ⊢;show yi a
end
section
variable{X:Cx}{C:Ct}{pins:List (dt×Obj)}{s:hQ}{c0 c c1:Cf}
variable{a b d e o tg:lx}{es:List lx}{m ma mb md:M (Kd×U)}{ms:M (List (Kd×U))}{ta tb:M Bool}{pos p p2 apos cpos:Pos}
abbrev ly(rs:List (Kd×U))(c f:Cf):Prop:=∀j u,(Kd.bor j,u)∈rs->f.σ[j]?=c.σ[j]?
abbrev Walk(C:Ct)(c:Cf)(rs:List (Kd×U))(xs:List (Kd×U))(J:It):Prop:=∀f,Ok C f->Ns c f->ly rs c f->aY rs f.st ->
 (∀(i:Nat) r,xs[i]?=a5 r->(r.1=.loc\/r.1=.any)/\J.go i f.H/\∀x H',J.QQ i f.H x H'->∃g:Cf,g.H=H'/\g.σ=f.σ/\g.st=f.st/\Ok C g/\Nx f g/\aB C f g r.1 r.2 x) /\
 ∀i:Nat,xs.length<=i->J.stop i f.H
abbrev Mq(C:Ct)(f:Ik)(ms:M (List (Kd×U))):TI:=λσ H R=>∃c0:Cf,c0.σ=σ/\c0.H=H/\Ok C c0/\W (ms >>= λrs=>au rs >>= λ_=>M.Jd (Lg f rs) >>= λxs=>pure (rs,xs)) c0.st λq st' =>
 ∀c J,c.σ=σ->c.st=st'->Ok C c->Nx c0 c->aY q.1 c.st->Walk C c q.1 q.2 J->R J c.H
def aB.walk(g:Ok C c)(n:Ns c f)(i:ly [r] c f)(hs:aY [r] f.st)(h:aB C c0 c r.1 r.2 v):aB C c0 f r.1 r.2 v :=
 (h.w.Vw g n λj e=>i j r.2 (by rw[<-e];simp)).t hs
def yk(k:Kd):kE k=.loc\/kE k=.any:=by cases k<;>simp[kE]
def vQ(z:C.K=X.K)(A:Ok C c)(h:aB C c0 c k (.lst us) (.ref a')):Walk C c [(k,.lst us)] (us.map λu=>(kE k,u)) (Sb X.K a'):=by
 intro l q n B hs;have h':=aB.walk (r:=(k,.lst us)) A n B hs h;have(G,vs,e,f,t):=h'.list q;cases e;rw[z]at f;show#[λi r w=>?_,λi hi=>#[vs,f,by rw[<-t.len];simpa using hi]];rw[nc,dV]at w;have(u,D,rfl):=w;have(v,y,g):=t.get D;show#[yk k,#[vs,v,f,y],λx H' j=>?_];have(e,j):=j;subst e;have:=j vs f;rw[y]at this;cases this;show#[l,rfl,rfl,rfl,q,Nx.refl l,aB.item g]
def rY(z:C.K=X.K)(A:Ok C c)(h:aB C c0 c k (.tup us) (.ref a')):Walk C c [(k,.tup us)] (us.map λu=>(kE k,u)) (Sd X.K a'):=by
 intro l q n B hs;have h':=aB.walk (r:=(k,.tup us)) A n B hs h;have(G,vs,e,f,t):=h'.tuple q;cases e;rw[z]at f;show#[λi r w=>?_,λi hi=>#[vs,f,by rw[<-t.len];simpa using hi]];rw[nc,dV]at w;have(u,D,rfl):=w;have(v,y,g):=t.get D;show#[yk k,#[vs,v,f,y],λx H' j=>?_];have(e,j):=j;subst e;have:=j vs f;rw[y]at this;cases this;show#[l,rfl,rfl,rfl,q,Nx.refl l,aB.item g]
def yl:Walk C c [(k,.str x)] (x.cps.toList.map λch=>(.loc,.str #[#v[ch]])) (S9 x):=by
 intro f l n t hs;show#[λi r g=>?_,λi hi=>by change x.cps.toList.length<=i;simpa using hi];rw[nc,dV]at g;have(ch,h,rfl):=g;show#[.inl rfl,(df.mp h).1,λy H' q=>?_];have(e,u,j,rfl):=q;subst e;rw[h]at j;cases j;show#[f,rfl,rfl,rfl,l,Nx.refl f,rfl]
def lz{lo:Int}:Walk C c rs ((hH n).map λi:Nat=>(Kd.loc,U.int (lo+(i:Int)))) (Ph lo n):=by
 intro g k nx q hs;show#[λi r h=>?_,λi hi=>by change n<=i;simpa using hi];rw[nc,dV]at h;have(j,f,rfl):=h;have hi:i<n:=by simpa using(df.mp f).1
 rw[Te hi]at f;cases f;show#[.inl rfl,hi,λy H' l=>?_];have(e,rfl):=l;subst e;show#[g,rfl,rfl,rfl,k,Nx.refl g,rfl]
def Ec(j:C.K=X.K)(q:PE X a (IH C ma)):PI X tg a (Mq C .seq (ma >>= λr=>pure [] >>= λrs=>pure (r::rs))):=by
 rintro pins s σ H R I ⟨c0,rfl,rfl,t,h⟩;rw[ab,ab]at h;have(r,st1,w,h):=h;rw[ab,ak,ak,ab,bQ,ab]at h;have(y,h):=h;have(xs,l,h):=cq.mp h;rw[ak]at h;have(k,u):=r;cases u with
 |lst us =>
  cases l;show Aq q pins s c0.σ c0.H R I #[c0,rfl,rfl,t,_,st1,w,λc v i hs g n f=>?_];have(a',vs,rfl,z,B):=f.list g;subst hs;show#[a',rfl,#[vs,j▸z],h c _ i rfl g n y (vQ j g f)]
 |tup us =>
  cases l;show Dm q pins s c0.σ c0.H R I #[c0,rfl,rfl,t,_,st1,w,λc v i hs g n f=>?_];have(a',vs,rfl,z,B):=f.tuple g;subst hs;have A:=z;rw[j]at A;show#[a',rfl,#[vs,A],h c _ i rfl g n y (rY j g f)]
 |str x =>
  cases l;show DJ q pins s c0.σ c0.H R I #[c0,rfl,rfl,t,_,st1,w,λc v i hs g n f=>?_];subst hs;show#[_,f.str g,h c _ i rfl g n y yl]
 |_=>cases l
def rZ{k:List (Kd×U)->M β}{Post:β->aq->Prop}(g:Ok C c0)(h:W (ms >>= λrs=>au rs >>= λ_=>k rs) c0.st Post)
  (hz:∀rs c vs,Jz C c0 c rs vs->W (k rs) c.st Post->Z vs c.H):JR C ms c0.σ c0.H Z:=by
 rw[ab]at h;show#[c0,rfl,rfl,g,h.mono λrs st1 f c1 vs i j l n r1=>?_];rw[ab,bQ]at f;subst j;show hz rs c1 vs #[i,l,n,r1,f.1] f.2
def Bs(i:Gl X "range")(j:X.mg "range"=bD)(hs:il [a] X.env=[(b6,sL a X.env)])(k:PA X [a] (JR C ms)):PI X tg (.Call (.Name "range" p) [a] [] pos) (Mq C .Jv ms):=by
 rintro pins s σ H R I ⟨c0,rfl,rfl,l,h⟩;show uZ i j k hs pins s c0.σ c0.H R I (rZ l h λrs c vs t w=>?_);rw[ab]at w;have(xs,g,w):=cq.mp w;rw[ak]at w;have(x,rfl,hz):=bH (f:=vE) g;clear g;have g:=hz;clear hz;have(v,rfl,n):=t.one;unfold vE at g;split at g
 .split at g
  .rename_i q;cases g;show#[_,by rw[n.int t.ok],⋯,⋯,w c _ t.hσ rfl t.ok t.nx t.MF lz]
  .cases g
 .cases g
def Bt(g:Gl X "range")(i:X.mg "range"=bD)(hs:il [a,b] X.env=[(b6,sL a X.env),(b6,sL b X.env)])(j:il [b] X.env=[(b6,sL b X.env)])(k:PA X [a,b] (JR C ms)):PI X tg (.Call (.Name "range" p) [a,b] [] pos) (Mq C .M5 ms):=by
 rintro pins s σ H R I ⟨c0,rfl,rfl,l,h⟩;show u6 g i k hs j pins s c0.σ c0.H R I (rZ l h λrs c vs t w=>?_);rw[ab]at w;have(xs,f,w):=cq.mp w;rw[ak]at w;have f:DW rs=a5 xs:=f;unfold DW at f;split at f
 .split at f
  .rename_i r;cases f;have(v,v',rfl,n,q):=t.two;show#[_,_,by rw[n.int t.ok,q.int t.ok],⋯,w c _ t.hσ rfl t.ok t.nx t.MF lz]
  .cases f
 .cases f
def qc{k:Kd}{us:List U}{u0:U}{a':dt}{t:Hp->List V->Prop}(B:∀f,Ok C f->Ns c f->ly [(k,u0)] c f->aY [(k,u0)] f.st->∃vs,t f.H vs/\ar C (SK C f k) f.H us vs):Walk C c [(k,u0)] (us.zipIdx.map λp=>(kE k,.tup [.int p.2,p.1])) (OR t):=by
 intro f g n D hs;have(vs,h,w):=B f g n D hs;show#[λi r y=>?_,λi hi=>#[vs,h,by rw[<-w.len];simpa using hi]];rw[nc,dV]at y;have(p,z,rfl):=y;rw[NX,dV]at z;have(u,G,rfl):=z;have(v,A,j):=w.get G;show#[yk k,#[vs,v,h,A],λx H' l=>?_];have(p,I,rfl,l):=l;have J:=l vs v h A;subst J;have(L,q):=g.lay (o:=.tup [.int i,v]) I;show#[{f with H:=upd f.H p (.tup [.int i,v])},rfl,rfl,rfl,L,q,aB.item ?_];have r2:ar C (SK C f k) f.H [.int ((0+i:Nat):Int),u] [.int (i:Int),v]:=by
  rw[QZ];show#[_,_,rfl,rfl,_,_,rfl,j,rfl]
 cases k<;>show#[p,_,rfl,Ji.of aj,by first|show r2.mv (g.M4 q)|show r2.mv (g.mv q)]
def Ed{es:List lx}{z:Nat}{ps:Pos}(k:C.K=X.K)(A:Gl X "enumerate")(B:X.mg "enumerate"=bD)(hs:il [a] X.env=[(b6,sL a X.env)])(D:PA X [a] (JR C ms)):PI X (.Tuple es z ps) (.Call (.Name "enumerate" p) [a] [] pos) (Mq C .Ny ms):=by
 rintro pins s σ H R I ⟨c0,rfl,rfl,G,h⟩;show AM A B D hs pins s c0.σ c0.H R I (rZ G h λrs c vs t w=>?_);rw[ab]at w;have(xs,i,w):=cq.mp w;rw[ak]at w;have(x,rfl,hz):=bH (f:=DX) i;clear i;have i:=hz;clear hz;have(v,rfl,l):=t.one;unfold DX at i;split at i
 .cases i;have(a',ws,q,g,j):=l.list t.ok;subst q;show#[a',rfl,.inl #[#[ws,k▸g],w c _ t.hσ rfl t.ok t.nx t.MF ?_]];show qc (a':=a') λJ r n u y=>?_;have(L,vs,e,g,j):=(aB.walk t.ok n u y l).list r;cases e;show#[vs,k▸g,j]
 .cases i;have(a',ws,q,g,j):=l.tuple t.ok;subst q;rw[k]at g;show#[a',rfl,.inr #[#[ws,g],w c _ t.hσ rfl t.ok t.nx t.MF ?_]];show qc (a':=a') λJ r n u y=>?_;have(L,vs,e,g,j):=(aB.walk t.ok n u y l).tuple r;cases e;rw[k]at g;show#[vs,g,j]
 .cases i
def Ok.put(t:Ok C c)(n:Nx c0 c)(hi:i<c.σ.length)(hk:k=.own\/k=.loc\/k=.any)(JV:Ok C c0)(h:aB C c0 c k u v):
  Ok C {c with σ:=c.σ.set i (a5 v),st:=c.st.set i (a5 (k,u))}/\Nx c0 {c with σ:=c.σ.set i (a5 v),st:=c.st.set i (a5 (k,u))}:=by
 have O:i<c.st.length:=by rw[t.len];show hi
 have Q:∀(j:Nat) k' u',(c.st.set i (a5 (k,u)))[j]?=a5 (a5 (k',u'))->j≠i->c.st[j]?=a5 (a5 (k',u')):=λj k' u' e T=>by rw[ez (pq T)]at e;show e
 have JP:∀(j:Nat) v',(c.σ.set i (a5 v))[j]?=a5 (a5 v')->j≠i->c.σ[j]?=a5 (a5 v'):=λj v' e T=>by rw[ez (pq T)]at e;show e
 have sl:fN C c.S c.H k u v:=by
  rcases hk with rfl|rfl|rfl
  .have(r,e,B,I,y,J):=h;have(z0,z1,L,z3,z4):=JV.eh B;show#[r,e,I,L,z0,J]
  .show h
  .show h
 have Y:∀(j:Nat) k' u' r,k'.root=a8->(c.st.set i (a5 (k,u)))[j]?=a5 (a5 (k',u'))->(c.σ.set i (a5 v))[j]?=a5 (a5 (.ref r))->j=i/\k=.own/\v=.ref r\/j≠i/\c.st[j]?=a5 (a5 (k',u'))/\c.σ[j]?=a5 (a5 (.ref r)):=λj k' u' r D g l=>by
  by_cases f:j=i
  .subst f;rw[dn O]at g;rw[dn hi]at l;cases g;cases l;rcases hk with rfl|rfl|rfl
   .show .inl #[rfl,rfl,rfl]
   .cases D
   .cases D
  .show .inr #[f,Q j k' u' g f,JP j _ l f]
 have dD:∀(j:Nat) (u':U),(c.st.set i (a5 (k,u)))[j]?=a5 (a5 (.A',u'))->c.st[j]?=a5 (a5 (.A',u'))/\(c.σ.set i (a5 v))[j]?=c.σ[j]?:=λj u' e=>by
  by_cases f:j=i
  .subst f;rw[dn O]at e;cases e;rcases hk with hk|hk|hk<;>cases hk
  .show#[Q j .A' u' e f,ez (pq f)]
 have b1:∀a,({c with σ:=c.σ.set i (a5 v),st:=c.st.set i (a5 (k,u))}:Cf).R1 a->c.R1 a\/k=.own/\v=.ref a:=λa IX=>by
  have(j,k',u',D,g,l):=IX;rcases Y j k' u' a D g l with⟨N,w,x⟩|⟨N,w,x⟩
  .show .inr #[w,x]
  .show .inl #[j,k',u',D,w,x]
 have M':LK C {c with σ:=c.σ.set i (a5 v),st:=c.st.set i (a5 (k,u))}:=t.dd.of rfl dD (λa z=>(b1 a z).imp id λ⟨q1,q2⟩ j z'=>by
  subst q1;have(G,e,_,_,y,_):=h;rw[q2]at e;cases e;show y (.inr #[j,z'])) (.up λ_ z=>z) λj a z=>#[(t.root (.inr #[j,z])).1,λo q=>q]
 show#[#[t.same,t.J8,t.par,t.io,by simp[t.len],λj k' u' e=>?_,λj1 j2 k1 k2 u1 u2 r TX Qa g l e3 e4=>?_,M'],#[#[n.keep,n.there,λa z=>?_,n.sub,n.new]]]
 .by_cases f:j=i
  .subst f;rw[dn O]at e;cases e;show#[v,by rw[dn hi],sl]
  .have(v',g,l):=t.sl j k' u' (Q j k' u' e f);show#[v',by rw[ez (pq f)];show g,l]
 .have z1:=Y j1 k1 u1 r TX g e3;have L:=Y j2 k2 u2 r Qa l e4;rcases z1 with⟨N,w,x⟩|⟨N,w,x⟩
  .rcases L with⟨b1,A,b3⟩|⟨b1,A,b3⟩
   .show N.trans b1.symm
   .subst w;have(G,e,B,I,y,J):=h;rw[x]at e;cases e;show(y (.inl #[j2,k2,u2,Qa,A,b3])).elim
  .rcases L with⟨b1,A,b3⟩|⟨b1,A,b3⟩
   .subst A;have(G,e,B,I,y,J):=h;rw[b3]at e;cases e;show(y (.inl #[j1,k1,u1,TX,w,x])).elim
   .show t.inj j1 j2 k1 k2 u1 u2 r TX Qa w A x b3
 .rcases z with z|⟨j,u',G,g,l,e3⟩
  .rcases b1 a z with z|⟨w,x⟩
   .show n.roots a (.inl z)
   .subst w;have(G,e,B,I,y,J):=h;rw[x]at e;cases e;show .inr B
  .have(q1,q2):=dD j u' g;show n.roots a (.inr #[j,u',G,q1,q2▸l,e3])
def oJ(z:Ok C c0)(q:Ok C c)(n:Nx c0 c)(hi:i<c.σ.length)(t:aB C c0 c r.1 r.2 v)(h:W (dy i r) c.st Post):
  ∃y,y.σ=c.σ.set i (a5 v)/\y.H=c.H/\Ok C y/\Nx c0 y/\Post () y.st:=by
 have(k,u):=r;cases k with
 |own =>
  have(x,st',e,f):=h;cases e;have(g,l):=q.put n hi (.inl rfl) z t;show#[{c with σ:=c.σ.set i (a5 v),st:=c.st.set i (a5 (.own,u))},rfl,rfl,g,l,f]
 |loc =>
  have(x,st',e,f):=h;cases e;have(g,l):=q.put n hi (.inr (.inl rfl)) z t;show#[{c with σ:=c.σ.set i (a5 v),st:=c.st.set i (a5 (.loc,u))},rfl,rfl,g,l,f]
 |any =>
  have(x,st',e,f):=h;cases e;have(g,l):=q.put n hi (.inr (.inr rfl)) z t;show#[{c with σ:=c.σ.set i (a5 v),st:=c.st.set i (a5 (.any,u))},rfl,rfl,g,l,f]
 |bor j =>
  have(x,st',e,f):=h;rw[show dy i (.bor j,u) c.st=match c.st[j]? with|some (a5 (.own,u))=>a5 (Ex.ok (),(c.st.set j (a5 (.loc,u))).set i (a5 (.loc,u)))|_=>bD from rfl]at e;split at e
  .rename_i w B;cases e;have(v',D,r,I,_):=q.sl j _ _ B;have G:c.σ[j]?=a5 (a5 v):=t.2;rw[G]at D;cases D;subst I;have(J,L,A):=q.rX n B G;have(g,l):=Ok.put (c:={c with S:=λa=>c.S a\/a=r,st:=c.st.set j (a5 (.loc,w))}) J L (k:=.loc) (u:=w) (v:=.ref r) hi (.inr (.inl rfl)) z A;show#[{S:=λa=>c.S a\/a=r,H:=c.H,σ:=c.σ.set i (a5 (.ref r)),st:=(c.st.set j (a5 (.loc,w))).set i (a5 (.loc,w)),kid:=c.kid},rfl,rfl,g,l,f]
  .cases e
 |_=>show t.elim
end
section
abbrev tG(C:Ct)(t:Bool)(is:List Nat):TG:=λv σ H Q=>∃c0 c r,c.σ=σ/\c.H=H/\Ok C c0/\Ok C c/\Nx c0 c/\aB C c0 c r.1 r.2 v/\W (dG t is r) c.st λ_ st' =>
 ∀a,a.st=st'->Ok C a->Nx c0 a->(∀j,j∉is->a.σ[j]?=c.σ[j]?)->a.σ.length=c.σ.length->Q a.σ a.H
structure r6(X:Cx)(e:lx)(i:Nat):Prop where
 is:∃x pos,e=.Name x pos/\X.N[i]?=a5 x/\Loc X.env.scope x/\(X.fn x=a8\/X.env.scope.names.lookup x=a5 .local)
def Ee(g:X.N.Nodup)(h:r6 X e i):PG X e (tG C b6 [i]):=by
 have(x,pos,rfl,f,k,l):=h.is;rintro a s σ H v u Q I rv ⟨c0,c,r,rfl,rfl,m,o,n,b,w⟩;have hi:i<c.σ.length:=by rw[I.len];show(df.mp f).1
 have(p,d,t,y,A,q):=oJ (r:=r) m o n hi b w;show s_ g f k l a s c.σ c.H v u Q I rv ?_;have z:=q p rfl y A (λj B=>by rw[d,ez (by intro z;show B (by simp[z]))]) (by rw[d];simp);rw[d,t]at z;show z
abbrev TY:List Nat->OK
 |[]=>Fu
 |i::is=>Cv (pK i) (TY is)
inductive fg(X:Cx):List lx->List Nat->Prop where
 |nil:fg X [] []
 |cons {e:lx} {es:List lx} {i:Nat} {is:List Nat} (h:r6 X e i) (t:fg X es is):fg X (e::es) (i::is)
def vR(a:X.N.Nodup)(h:fg X es is):Pf X es (TY is):=by
 induction h with
 |nil=>show Ao
 |cons h t b =>
  have(x,pos,rfl,c,d,e):=h.is;show xi (s_ a c d e) b rfl
def r9(h:fg X es is):(Pe es X.env).length=is.length/\(Pe es X.env).findIdx? (·.1)=bD:=by
 induction h with
 |nil=>show#[rfl,rfl]
 |cons h t a =>
  have(x,pos,rfl,b,c,d):=h.is;show#[?_,?_]
  .change(_::_).length=_;simp[a.1]
  .change Ý _ (_::_)=bD;rw[List.findIdx?_cons,Ě (by simp),a.2];rfl
theorem t7(hk:kE k=k)(f:Ok C c0):∀{is:List Nat}{us:List U}{vs:List V}{c:Cf}{Post:Unit->aq->Prop}{Q:L2.St->Hp->Prop},Ok C c->Nx c0 c->(∀i∈is,i<c.σ.length)->ar C (SK C c k) c.H us vs->W (sets is (us.map λu=>(k,u))) c.st Post ->
  (∀b,Post () b.st->Ok C b->Nx c0 b->(∀j,j∉is->b.σ[j]?=c.σ[j]?)->b.σ.length=c.σ.length->Q b.σ b.H)->TY is vs c.σ c.H Q
 |[],[],vs,c,Post,Q,ok,n,hi,a,w,q=>by
  rw[show sets [] (Ui (λu=>(k,u)) [])=pure () from rfl,ak]at w;show#[a,q c w ok n (λ_ _=>rfl) rfl]
 |[],u::us,vs,c,Post,Q,ok,n,hi,a,w,q=>(aX.mp w).elim
 |i::is,[],vs,c,Post,Q,ok,n,hi,a,w,q=>(aX.mp w).elim
 |i::is,u::us,vs,c,Post,Q,ok,n,hi,a,w,q=>by
  rw[show sets (i::is) (Ui (λu=>(k,u)) (u::us))=dy i (k,u) >>= λ_=>sets is (us.map λu=>(k,u)) from rfl,ab]at w;have(v,r,rfl,g,h):=a;have l:k=.own\/k=.loc\/k=.any:=by cases k<;>simp[kE]at hk<;>simp
  have y:k≠.own:=by cases k<;>simp[kE]at hk<;>simp
  have rt:aB C c0 c k u v:=by rw[<-hk];show aB.item g
  have(m,o):=ok.put n (hi i (by simp)) l f rt;have es:dy i (k,u)=λst=>a5 (.ok (),st.set i (a5 (k,u))):=by cases k<;>simp[kE]at hk<;>rfl
  have(_,st',e,w'):=w;rw[es]at e;cases e;show#[v,r,rfl,t7 (c:={c with σ:=c.σ.set i (a5 v),st:=c.st.set i (a5 (k,u))}) hk f m o (λj d=>by simpa using hi j (by simp[d])) (by cases k<;>show h) w' λb p s t x hl=>?_];show q b p s t (λj d=>?_) (by rw[hl];simp);rw[x j (λz=>d (by simp[z])),ez (λz=>d (by simp[z]))]
def F_(m:X.calm=a8)(o:C.K=X.K)(q:X.N.Nodup)(h:fg X es is)(hl:∀i∈is,i<X.N.length):PG X (.Tuple es T pos) (tG C a8 is):=by
 rintro a s σ H v u Q I rv ⟨c0,c,r,rfl,rfl,t,f,n,d,w⟩;have(y,z):=r9 h;show Dh m (vR q h) y z a s c.σ c.H v u Q I rv ?_;have(k,A):=r;cases A with
 |tup us =>
  rw[show dG a8 is (k,.tup us)=sets is (us.map λu=>(kE k,u)) from by cases is<;>rfl]at w;have(a',vs,rfl,g,j):=d.tuple f;rw[o]at g;have b:us.length=is.length:=by
   have e:∀(is:List Nat) (l:List (Kd×U)) (st:aq) (P:Unit->aq->Prop),W (sets is l) st P->l.length=is.length:=by
    intro is;induction is with
    |nil=>intro l st P w;cases l with
     |nil=>rfl
     |cons _ _=>show(aX.mp w).elim
    |cons i is B=>intro l st P w;cases l with
     |nil=>show(aX.mp w).elim
     |cons x l =>
      rw[show sets (i::is) (x::l)=dy i x >>= λ_=>sets is l from rfl,ab]at w;have(_,_,_,w):=w;rw[j5,j5,B l _ _ w]
   simpa using e _ _ _ _ w
  show#[a',vs,rfl,g,by rw[<-j.len,b],?_];show t7 (k:=kE k) (by cases k<;>rfl) t f n (λi hi=>by rw[I.len];show hl i hi) (by cases k<;>show j) w λD p G J L O=>p D rfl G J L O
 |_=>cases is<;>show(aX.mp w).elim
end
section
variable{X:Cx}{C:Ct}{pins:List (dt×Obj)}{s:hQ}{c0 c c1:Cf}
variable{a b d e o tg iter elt:lx}{es ifs:List lx}{m ma mb md me:M (Kd×U)}{ms:M (List (Kd×U))}{ta tb tc:M Bool}{pos p p2 apos cpos:Pos}
def vS{m:M α}{st:aq}{Q:α->aq->Prop}:W (inScope k m) st Q↔W m (js k bD++st) λa st'=>Q a (st'.drop k):=by
 constructor
 .rintro⟨a,st',e,h⟩;unfold inScope at e;cases q:m (js k bD++st) with
  |none=>rw[q]at e;cases e
  |some r=>have(r1,r2):=r;rw[q]at e;cases e;show#[a,r2,q,h]
 .rintro⟨a,st',e,h⟩;show#[a,st'.drop k,by unfold inScope;rw[e],h]
abbrev Cf.ext(k:Nat)(c:Cf):Cf:={c with σ:=js k bD++c.σ,st:=js k bD++c.st,kid:=λj=>c.kid (j - k)}
abbrev Cf.cut(k:Nat)(c:Cf):Cf:={c with σ:=c.σ.drop k,st:=c.st.drop k,kid:=λj=>c.kid (k+j)}
def gk(h:(js k bD++l)[j]?=a5 (a5 x)):∃i,j=k+i/\l[i]?=a5 (a5 x):=by
 by_cases f:j<k
 .rw[lg (by simpa using f)]at h;rw[vu]at h;rw[ę f]at h;cases h
 .show#[j - k,⋯,?_];rw[kr (by simp;lia)]at h;simpa using h
def fh:(js k bD++l)[k+i]?=l[i]?:=by
 rw[kr (by simp)];simp
def ym:(c.ext k).R1 r↔c.R1 r:=by
 constructor
 .rintro⟨j,g,u,h,l,f⟩;have(i,rfl,e):=gk l;rw[Cf.ext,fh]at f;show#[i,g,u,h,e,f]
 .rintro⟨i,g,u,h,l,f⟩;show#[k+i,g,u,h,by rw[Cf.ext,fh];show l,by rw[Cf.ext,fh];show f]
def oK{a:dt}(h:(c.ext k).RD j a):∃i,j=k+i/\c.RD i a:=by
 have(u,r,l,f,g):=h;have(i,rfl,e):=gk l;rw[Cf.ext,fh]at f;show#[i,rfl,u,r,e,f,?_];have:(c.ext k).kid (k+i)=c.kid i:=by change c.kid (k+i - k)=_;rw[OL]
 rw[this]at g;show g
def Ga(h:(c.ext k).R r):c.R r:=by
 rcases h with h|⟨j,h⟩
 .show .inl (ym.mp h)
 .have(i,_,h):=oK h;show .inr #[i,h]
def Ok.ext(k:Nat)(f:Ok C c):Ok C (c.ext k)/\Nx c (c.ext k):=by
 show#[#[f.same,f.J8,f.par,f.io,by simp[Cf.ext,f.len],λj A u e=>?_,λi j k1 k2 u u' r B D l g y z=>?_,#[λj u r l g=>?_,λi j a n q=>?_,λj a n q=>?_]],#[#[λ_ _ h _=>h,λ_ o h=>#[o,h],λa h=>.inl (Ga h),λ_ h=>h,λ_ h=>.inl h]]]
 .have(i,rfl,G):=gk e;have(v,l,g):=f.sl i A u G;show#[v,by rw[Cf.ext,fh];show l,g]
 .have(t,rfl,H):=gk l;have(w,rfl,I):=gk g;rw[Cf.ext,fh]at y z;rw[f.inj t w k1 k2 u u' r B D H I y z]
 .have(i,rfl,e):=gk l;rw[Cf.ext,fh]at g;have:(c.ext k).kid (k+i)=c.kid i:=by change c.kid (k+i - k)=_;rw[OL]
  rw[this];show f.dd.kd i u r e g
 .have(t,rfl,x):=oK n;have(w,rfl,J):=oK q;rw[f.dd.dj t w a x J]
 .have(i,rfl,x):=oK n;show f.dd.d1 i a x (ym.mp q)
def yn{a:dt}(h:(c.cut k).R1 a):c.R1 a:=by
 have(j,i,u,l,f,g):=h;rw[Cf.cut,zb]at f g;show#[k+j,i,u,l,f,g]
def oM{a:dt}(h:(c.cut k).RD j a):c.RD (k+j) a:=by
 have(u,r,f,g,i):=h;rw[Cf.cut,zb]at f g;show#[u,r,f,g,i]
def Ok.cut(k:Nat)(f:Ok C c):Ok C (c.cut k)/\Nx c (c.cut k):=by
 show#[#[f.same,f.J8,f.par,f.io,by simp[Cf.cut,f.len],λj x u e=>?_,λi j k1 k2 u u' r y A g l t w=>?_,#[λj u r g l=>?_,λi j a n q=>?_,λj a n q=>f.dd.d1 _ a (oM n) (yn q)]],#[#[λ_ _ h _=>h,λ_ o h=>#[o,h],λa h=>.inl (h.elim (λz=>.inl (yn z)) λ⟨j,z⟩=>.inr #[k+j,oM z]),λ_ h=>h,λ_ h=>.inl h]]]
 .rw[Cf.cut,zb]at e;have(v,g,l):=f.sl _ x u e;show#[v,by rw[Cf.cut,zb];show g,l]
 .rw[Cf.cut,zb]at g l t w;have:=f.inj _ _ k1 k2 u u' r y A g l t w;lia
 .rw[Cf.cut,zb]at g l;show f.dd.kd _ u r g l
 .have:=f.dd.dj _ _ a (oM n) (oM q);lia
def Bu(h:∀j,j∉hH k->g[j]?=(js k bD++σ)[j]?)(hl:g.length=(js k (bD:Option V)++σ).length):∃f:L2.St,f.length=k/\g=f++σ:=by
 show#[g.take k,by rw[oD,hl];simp,?_];apply Uj;intro j;by_cases i:j<k
 .rw[lg (by rw[oD,hl];simp;lia),List.getElem?_take,ę i]
 .rw[h j (by simpa using i),kr (by simp;lia),kr (by rw[oD,hl];simp;lia)];congr 1
  rw[oD,hl];simp
def vT(e1:c1.σ=c0.σ)(IF:Ok C c1)(n1:Nx c0 c1)(hw:Walk C c1 rs xs J)(h3:W (bG k t tc me rs xs []) c1.st λus st'=>W (pure (Kd.own,U.lst us)) st' (b_ C c0 Q)):
  tL k J (tG C t (hH k)) (J1 C tc) (IH C me) Q c0.σ c1.H:=by
 show#[λi m ys H=>∃c f,c.H=H/\c.σ=c0.σ/\Ok C c/\Nx c1 c/\m=xs.length - i/\i<=xs.length/\ar C c.S c.H f ys/\f.length<=cK/\W (bG k t tc me rs (xs.drop i) f) c.st λus st'=>W (pure (Kd.own,U.lst us)) st' (b_ C c0 Q),#[xs.length,c1,[],rfl,e1,IF,Nx.refl c1,by simp,mh _,rfl,mh _,by simpa using h3],?_];rintro i m ys H ⟨c,f,rfl,G,y,A,rfl,hi,h,l,w⟩;show#[by rw[<-h.len];show l,?_];have g:ly rs c1 c:=λj u _=>by rw[G,e1]
 by_cases I:i<xs.length
 .right
  rw[N6 I]at w;rw[show bG k t tc me rs (xs[i]::xs.drop (i+1)) f=au rs >>= λ_=>inScope k (dG t (hH k) xs[i] >>= λ_=>tc >>= λb=>if b=a8 then(me >>= λr=>lift r >>= λu=>pure (a5 u)) else pure bD) >>= λr=>match r with|some u=>if f.length<cK then bG k t tc me rs (xs.drop (i+1)) (f++[u]) else M.fail|none=>bG k t tc me rs (xs.drop (i+1)) f from rfl,ab,bQ]at w;have(K5,w):=w;have(L,_):=hw c y A g K5;have(Qc,T1,Rh):=L i xs[i] (by simp[I]);show#[T1,λKw H'=>∃c f,c.H=H'/\c.σ=c0.σ/\Ok C c/\Nx c1 c/\ar C c.S c.H f Kw/\f.length<=cK/\W (bG k t tc me rs (xs.drop (i+1)) f) c.st λus st'=>W (pure (Kd.own,U.lst us)) st' (b_ C c0 Q),λKw H' ⟨c',JI,z1,z2,z3,z4,z5,z6,z7⟩=>#[xs.length - (i+1),⋯,c',JI,z1,z2,z3,z4,rfl,I,z5,z6,z7],λx H' hy=>?_];have(n,rfl,e4,e5,Jb,n2,rt):=Rh x H' hy;rw[ab,vS,ab]at w;have(Ri,nx):=Jb.ext k;have XW:aB C (n.ext k) (n.ext k) xs[i].1 xs[i].2 x:=by
   rcases Qc with z|z
   .rw[z]at rt ⊢;show rt
   .rw[z]at rt ⊢;show rt
  have eσ:(n.ext k).σ=js k bD++c0.σ:=by rw[Cf.ext];change js k bD++n.σ=_;rw[e4,G]
  show#[n.ext k,n.ext k,xs[i],eσ,rfl,Ri,Ri,Nx.refl _,XW,?_];have XX:(n.ext k).st=js k bD++c.st:=by rw[Cf.ext];change js k bD++n.st=_;rw[e5]
  rw[XX];show w.mono λ_ st3 w3 c3 e6 Ki n3 Qd O1=>?_;subst e6;rw[eσ]at Qd O1;have(N,O,T):=Bu Qd O1;show#[N,O,T,?_];have Vz:Nx c c3:=(n2.trans nx).trans n3;rw[ab]at w3;show#[c3,rfl,rfl,Ki,w3.mono λb LF q D e7 e8 Y n4=>?_];subst e8;cases b with
  |false =>
   rw[Ě i6]at q ⊢;rw[ak]at q;have(T3,nk):=Y.cut k;have nn:Nx c (D.cut k):=(Vz.trans n4).trans nk;show#[D.cut k,f,rfl,?_,T3,A.trans nn,h.mv (y.mv nn),l,q];change D.σ.drop k=_;rw[e7,T,Sr O]
  |true =>
   rw[ę rfl]at q ⊢;rw[ab]at q;show#[D,e7,rfl,Y,q.mono λr st5 w5 c5 v e9 XY Rj n5 XZ=>?_];subst XY;rw[ab]at w5;have(S',st',u,sS,X0,n6,T4,B,_,_):=ff Y Rj n5 XZ.w w5;rw[ak]at B
   dsimp only at B
   split at B
   .rename_i hz;have(T3,nk):=X0.cut k;have nn:Nx c (Cf.cut k {c5 with S:=S',st:=st' }):=((Vz.trans n4).trans n6).trans nk;show#[Cf.cut k {c5 with S:=S',st:=st' },f++[u],rfl,?_,T3,A.trans nn,(h.mv (y.mv nn)).snoc T4,by rw[j0];show hz,B];change c5.σ.drop k=_;rw[e9,T,Sr O]
   .show(aX.mp B).elim
 .left
  have KU:i=xs.length:=by lia
  subst KU;rw[Z7,show bG k t tc me rs [] f=au rs >>= λ_=>pure f from rfl,ab,bQ,ak,ak]at w;have(_,L):=hw c y A g w.1;show#[L _ (hY _),λp hp=>b_.list w.2 G y (n1.trans A) h p hp]
def m_(l:Ok C c0)
  (h:W (ms >>= λrs=>au rs >>= λ_=>M.Jd (Lg n rs) >>= λxs=>bG k t tc me rs xs [] >>= λus=>pure (Kd.own,U.lst us)) c0.st (b_ C c0 Q)) :
  xM k (Mq C n ms) (tG C t (hH k)) (J1 C tc) (IH C me) c0.σ c0.H Q:=by
 rw[ab]at h;show#[c0,rfl,rfl,l,?_];rw[ab];show h.mono λrs st1 f=>?_;rw[ab,bQ]at f ⊢;show#[f.1,?_];have g:=f.2;rw[ab]at g ⊢;show g.mono λxs st2 i=>?_;rw[ak];intro c1 J q r u v w j;rw[ab]at i;subst r
 dsimp only at w j
 show vT q u v j i
def yo(S:cR X N own scope)(f:X.calm=a8)(hi:PI X tg iter (Mq C g ms))
  (i:∀D s H ex,PG (JQ X N scope D s H ex) tg (tG C t (hH own.length))) (j:∀D s H ex,MW (JQ X N scope D s H ex) ifs (J1 C tc)) (k:∀D s H ex,PE (JQ X N scope D s H ex) elt (IH C me))
  (hs:∀x,L0 iter X.env x=pure x) :
  PE X (.ListComp elt [⟨tg,iter,ifs,0⟩] scope pos) (IH C (ms >>= λrs=>au rs >>= λ_=>M.Jd (Lg g rs) >>= λxs=>bG own.length t tc me rs xs [] >>= λus=>pure (.own,.lst us))):=by
 show PE.weak (AJ S f hi i j k hs) ?_;rintro σ H Q ⟨c0,rfl,rfl,l,h⟩;show m_ l h
end
section
variable{a b d e o tg iter elt:lx}{es ifs:List lx}{m ma mb md me:M (Kd×U)}{ms:M (List (Kd×U))}{ta tb tc:M Bool}{pos p p2 apos cpos:Pos}{st:wk}{rest body:List wk}{f g mm:M Fl}{ns ns':Nat->Bool}
def vU(C:Ct)(c:Cf):Kd->U->V->Prop
 |.own,u,v=>∃r,v=.ref r/\C.H₀ r=bD/\¬c.S r/\¬c.R r/\cC C c.S c.H r u
 |.loc,u,v=>Rep C c.S c.H u v
 |.any,u,v=>Rep C (PS C c.S) c.H u v
 |_,_,_=>False
def Ia(C:Ct)(c:Cf):U->V->Hp->Prop
 |.tup [t,w],v,H'=>H'=c.H/\∃(G:dt->Prop) (q:dt) (h i:V),v=.ref q/\Ji C.K c.H q [h,i]/\Rep C G c.H t h/\Rep C c.S c.H w i/\∀x,G x->C.H₀ x=bD/\¬c.S x/\¬c.R x/\∃o,c.H x=a5 o
 |.bl b,v,H'=>v=.bl b/\(∀x o,c.H x=a5 o->¬c.S x\/Tp o->H' x=a5 o)/\∀x o,c.H x=a5 o->∃o',H' x=a5 o'
 |_,_,_=>False
def Ib(C:Ct)(Q:VK)(c:Cf):Kd->U->Prop
 |.A',u=>∀v H',Ia C c u v H'->Q v H'
 |.io,u=>C.xw u c.H
 |k,u=>∀v,vU C c k u v->Q v c.H
abbrev Fin(C:Ct)(D:Ends)(f:Fl)(c:Cf):Prop:=match f with
 |.nx=>D.nx c.σ c.H
 |.bk=>D.bk c.σ c.H
 |.ct=>D.ct c.σ c.H
 |.rt k u=>Ib C D.rt c k u
abbrev Kept(ns:Nat->Bool)(c h:Cf):Prop:=(∀j,ns j=a8->h.σ[j]?=c.σ[j]?)/\h.σ.length=c.σ.length
def Kept.refl:Kept ns c c:=#[λ_ _=>rfl,rfl]
def Kept.trans(h:Kept ns c i)(h':Kept ns i k):Kept ns c k:=#[λj z=>(h'.1 j z).trans (h.1 j z),h'.2.trans h.2]
def Kept.le(i:∀j,ns' j=a8->ns j=a8)(h:Kept ns c k):Kept ns' c k:=#[λj z=>h.1 j (i j z),h.2]
def Kept.of(h:i.σ=c.σ):Kept ns c i:=#[λj z=>by rw[h],by rw[h]]
abbrev gJ(C:Ct)(c0:Cf)(ns:Nat->Bool)(D:Ends)(f:Fl)(st':aq):Prop:=∀c,c.st=st'->Ok C c->Ns c0 c->Kept ns c0 c->Fin C D f c
abbrev I_(C:Ct)(ns:Nat->Bool)(m:M Fl):TS:=λD σ H=>∃c0:Cf,c0.σ=σ/\c0.H=H/\Ok C c0/\W m c0.st (gJ C c0 ns D)
def lA(c:Ok C c1)(n:Ns c0 c1)(k:Kept ns c0 c1)(h:W mm c1.st (gJ C c0 ns D)):I_ C ns mm D c1.σ c1.H :=
 #[c1,rfl,rfl,c,h.mono λf st i j e l q k2=>i j e l (n.trans q) (k.trans k2)]
def PS.weak(h:L2.PS X st t)(i:∀D σ H,t' D σ H->t D σ H):L2.PS X st t':=λc s σ H D I q=>h c s σ H D I (i D σ H q)
def Jo.weak(h:Jo X rest t)(i:∀D σ H,t' D σ H->t D σ H):Jo X rest t':=λc s σ H D I q=>h c s σ H D I (i D σ H q)
def jm(i:∀j,ns' j=a8->ns j=a8)(h:I_ C ns' mm D σ H):I_ C ns mm D σ H :=
 let ⟨c0,c,k,l,w⟩:=h;⟨c0,c,k,l,w.mono λf st n q e r s k2=>n q e r s (k2.le i)⟩
def Gb:Jo X [] (I_ C ns (pure .nx)):=by
 show Jo.weak j8 ?_;rintro D σ H ⟨c0,rfl,rfl,c,h⟩;rw[ak]at h;show h c0 rfl c (Ns.refl c0) Kept.refl
abbrev qd(m:M Fl)(f:Fl):M Fl:=match f with
 |.nx=>m
 |f=>pure f
def Ef(j:L2.PS X st (I_ C ns f))(l:Jo X rest (I_ C ns g)):Jo X (st::rest) (I_ C ns (f >>= qd g)):=by
 show Jo.weak (bZ j l) ?_;rintro D σ H ⟨c0,rfl,rfl,n,h⟩;rw[ab]at h;show#[c0,rfl,rfl,n,h.mono λq st1 w c1 e c i k1=>?_];subst e;cases q with
 |nx=>show lA c i k1 w
 |bk=>rw[show qd g .bk=pure .bk from rfl,ak]at w;show w c1 rfl c i k1
 |ct=>rw[show qd g .ct=pure .ct from rfl,ak]at w;show w c1 rfl c i k1
 |rt k u=>rw[show qd g (.rt k u)=pure (.rt k u) from rfl,ak]at w;show w c1 rfl c i k1
def Ge(i:PE X a (IH C ma))(hs:Mu a bD pos.line X.env=pure b6):L2.PS X (.Expr a pos) (I_ C ns (ma >>= λ_=>pure .nx)):=by
 show PS.weak (eZ i hs) ?_;rintro D σ H ⟨c0,rfl,rfl,j,h⟩;show aJ j h λx c v t w=>?_;rw[ak]at w;have:=w c rfl t.ok t.nx (Kept.of t.hσ);rw[<-t.hσ];show this
def yp(Y:Ok C c0)(t:Og C c0 c x v)(w:W (retS x) c.st (gJ C c0 ns D)):D.rt v c.H:=by
 have(k,u):=x;have(G,l,n,r):=t;cases k with
 |own =>
  rw[show retS (.own,u)=pure (.rt .own u) from rfl,ak]at w;have(B,e,h1,h2,h3,h4):=r;show w c rfl l n (Kept.of G) v #[B,e,(Y.eh h1).1,h2,h3,h4]
 |loc =>
  rw[show retS (.loc,u)=pure (.rt .loc u) from rfl,ak]at w;show w c rfl l n (Kept.of G) v r
 |any =>
  rw[show retS (.any,u)=if IQ u=a8 then pure (.rt .loc u) else pure (.rt .any u) from rfl]at w;split at w
  .rw[ak]at w;show w c rfl l n (Kept.of G) v (Rep.IQ (by assumption) r)
  .rw[ak]at w;show w c rfl l n (Kept.of G) v r
 |bor j =>
  have(fl,st',e,w):=w;rw[show retS (.bor j,u) c.st=match c.st[j]? with|some (a5 (.own,u))=>a5 (Ex.ok (Fl.rt .own u),c.st.set j bD)|_=>bD from rfl]at e;split at e
  .rename_i u' J;cases e;have LP:j<c.st.length:=(df.mp J).1;have A:∀(i:Nat) k u',(c.st.set j bD)[i]?=a5 (a5 (k,u'))->i≠j/\c.st[i]?=a5 (a5 (k,u')):=λi k u' e=>by
    by_cases L:i=j
    .subst L;rw[dn LP]at e;cases e
    .rw[ez (pq L)]at e;show#[L,e]
   have(v',s,B,er,q1,q2,q3,q4):=l.sl j _ _ J;have N:c.σ[j]?=a5 (a5 v):=r.2;rw[N]at s;cases s;subst er;have O:∀a,({c with st:=c.st.set j bD}:Cf).R1 a->c.R1 a:=λa ⟨i,k,h,hk,s,y⟩=>#[i,k,h,hk,(A i k h s).2,y]
   have hR:∀a,({c with st:=c.st.set j bD}:Cf).R a->c.R a:=λa z=>z.elim (λz=>.inl (O a z)) λ⟨i,h,r2,s,y,I⟩=>.inr #[i,h,r2,(A i .A' h s).2,y,I];have M':LK C {c with st:=c.st.set j bD}:=l.dd.of rfl (λi h e=>#[(A i .A' h e).2,rfl]) (λa z=>.inl (O a z)) (.up λ_ z=>z) λi a z=>#[(l.root (.inr #[i,z])).1,λo q=>q]
   have X1:Ok C {c with st:=c.st.set j bD}:=#[l.same,l.J8,l.par,l.io,by simp[l.len],λi k h e=>l.sl i k h (A i k h e).2,λi Q k k' T h r hk Ju s y I e4=>l.inj i Q k k' T h r hk Ju (A i k T s).2 (A Q k' h y).2 I e4,M']
   have nn:Ns c0 {c with st:=c.st.set j bD}:=#[n.keep,n.there,λa z=>n.roots a (hR a z),n.sub,n.new]
   show w {c with st:=c.st.set j bD} rfl X1 nn (Kept.of G) (.ref B) ⟨B,rfl,q3,q1,λz=>?_,q4⟩
   .rcases z with⟨i,k,h,hk,s,y⟩|⟨i,h,r2,s,y,I⟩
    .have(ne,JJ):=A i k h s;show ne (l.inj i j k .own h _ B hk rfl JJ J y N)
    .show l.dd.d1 i B #[h,r2,(A i .A' h s).2,y,I] #[j,.own,_,rfl,J,N]
  .cases e
 |_=>show r.elim
def Gf(j:PE X a (IH C ma)):L2.PS X (.Return (a5 a) pos) (I_ C ns (ma >>= retS)):=by
 show PS.weak (kF j) ?_;rintro D σ H ⟨c0,rfl,rfl,i,h⟩;show aJ i h λx c v t w=>yp i t w
end
section
def qe(e:∀j,ns j=a8->j≠i)(f:Ok C c0)(t:Og C c0 c r v)(hi:i<c.σ.length)(w:W (dy i r >>= λ_=>(pure .nx:M Fl)) c.st (gJ C c0 ns D)):D.nx (c0.σ.set i (a5 v)) c.H:=by
 rw[ab]at w;have(a,b,g,h,k,q):=oJ (r:=r) f t.ok t.nx hi t.rx w;rw[ak]at q;have z:=q a rfl h k #[λj l=>by rw[b,t.hσ,ez (pq (e j l))],by rw[b,t.hσ];simp];have d:D.nx a.σ a.H:=z;rw[b,g,t.hσ]at d;show d
def yr(e:∀j,ns j=a8->j≠i)(f:X.N.Nodup)(hi:X.N[i]?=a5 x)(g:Loc X.env.scope x)(k:X.fn x=a8\/X.env.scope.names.lookup x=a5 .local)(l:PE X a (IH C m))
  (hs:Mu a (a5 (.Name x pos')) pos.line X.env=pure b6):L2.PS X (.Assign [.Name x pos'] a pos) (I_ C ns (m >>= λr=>dy i r >>= λ_=>pure .nx)):=by
 rintro b s σ H D I ⟨c0,rfl,rfl,d,h⟩;have n:i<c0.σ.length:=by rw[I.len];show(df.mp hi).1
 show jd f hi g l hs k b s c0.σ c0.H D I (aJ d h λr c v t w=>qe e d t (by rw[t.hσ];show n) w)
def Eg(l:∀j,ns j=a8->j≠i)(S:cR X N own scope)(m:X.calm=a8)(o:X.N.Nodup)(f:X.N[i]?=a5 y)(p:X.env.scope.names.lookup y=a5 .local)
  (hi:PI X e a (Mq C q ms)) (u:∀D s H ex,PG (JQ X N scope D s H ex) e (tG C t (hH own.length))) (z:∀D s H ex,MW (JQ X N scope D s H ex) b (J1 C A)) (B:∀D s H ex,PE (JQ X N scope D s H ex) elt (IH C G))
  (J:Mu (.ListComp elt [⟨e,a,b,0⟩] scope pos) (a5 (.Name y L)) O.line X.env=pure a8) (hs:∀x,L0 a X.env x=pure x) :
  L2.PS X (.Assign [.Name y L] (.ListComp elt [⟨e,a,b,0⟩] scope pos) O)
   (I_ C ns ((ms >>= λrs=>au rs >>= λ_=>M.Jd (Lg q rs) >>= λxs=>bG own.length t A G rs xs [] >>= λus=>pure (.own,.lst us)) >>= λr=>dy i r >>= λ_=>pure .nx)):=by
 rintro d s σ H D I ⟨c0,rfl,rfl,g,h⟩;have Q:i<c0.σ.length:=by rw[I.len];show(df.mp f).1
 show AK S m o f p hi u z B J hs d s c0.σ c0.H D I ?_;rw[ab]at h;show m_ g (h.mono λr st1 w c v k T Y n rt=>?_);subst T;show qe l g #[k,Y,n,rt] (by rw[k];show Q) w
def Eh(g:∀j,ns j=a8->j∉is)(i:PE X a (IH C k))(l:PG X b (tG C a8 is))(hs:QE [b] a pos.line X.env=pure b6)(m:UX [b] a X.env=pure bD)(n:(Pe [b] X.env).map (·.2)=[RZ b X.env]):
  L2.PS X (.Assign [b] a pos) (I_ C ns (k >>= λr=>dG a8 is r >>= λ_=>pure .nx)):=by
 show PS.weak (qU i l hs m n) ?_;rintro D σ H ⟨c0,rfl,rfl,d,h⟩;show aJ d h λr c v t w=>?_;rw[ab]at w;show#[c0,c,r,t.hσ,rfl,d,t.ok,t.nx,t.rx,w.mono λ_ st1 f o e p q s hl=>?_];subst e;rw[ak]at f;show f o rfl p q #[λj u=>by rw[s j (g j u),t.hσ],by rw[hl,t.hσ]]
def Gg(i:PT X a (J1 C j))(k:Jo X l (I_ C ns f))(m:Jo X o (I_ C ns g)):L2.PS X (.If a l o pos) (I_ C ns (j >>= λp=>if p=a8 then f else g)):=by
 show PS.weak (xh i k m) ?_;rintro D σ H ⟨c0,rfl,rfl,q,h⟩;show fR q h λp c b d n w=>?_;have e:c0.σ=c.σ:=b.symm;rw[e];cases p with
 |true=>rw[ę rfl]at w ⊢;show lA d n (Kept.of b) w
 |false=>rw[Ě i6]at w ⊢;show lA d n (Kept.of b) w
def Gh(J:WA (i4 X.prog X.w) X.A X.env X.xe)(L:PT X a (J1 C d))(N:Jo X body (I_ C ns f)):L2.PS X (.While a body [] pos) (I_ C ns (gV d f n)):=by
 show PS.weak (xk J L N) ?_;rintro D σ H ⟨c0,rfl,rfl,O,h⟩;show#[λm s H'=>∃c,c.H=H'/\c.σ=s/\Ok C c/\Ns c0 c/\Kept ns c0 c/\W (gV d f m) c.st (gJ C c0 ns D),#[n,c0,rfl,rfl,O,Ns.refl c0,Kept.refl,h],?_];rintro m s H' ⟨c,rfl,rfl,Q,t,v,w⟩;cases m with
 |zero=>show(aX.mp w).elim
 |succ m =>
  rw[show gV d f (m+1)=d >>= λb=>if b=a8 then(f >>= λT=>match T with|.nx=>gV d f m|.ct=>gV d f m|.bk=>pure .nx|.rt k u=>pure (.rt k u)) else pure .nx from rfl]at w;show fR Q w λp j x y B g=>?_;have k2:Kept ns c j:=Kept.of x;rw[<-x];cases p with
  |false =>
   rw[Ě i6]at g ⊢;rw[ak]at g;show g j rfl y (t.trans B) (v.trans k2)
  |true =>
   rw[ę rfl]at g ⊢;show#[λG I=>∃c,c.H=I/\c.σ=G/\Ok C c/\Ns c0 c/\Kept ns c0 c/\W (gV d f m) c.st (gJ C c0 ns D),λG I z=>#[m,L6 m,z],?_];rw[ab]at g;show#[j,rfl,rfl,y,g.mono λY st3 i l e o n3 k3=>?_];subst e;have q:=(t.trans B).trans n3;have r:=(v.trans k2).trans k3;cases Y with
   |nx=>show#[l,rfl,rfl,o,q,r,i]
   |ct=>show#[l,rfl,rfl,o,q,r,i]
   |_=>rw[ak]at i;show i l rfl o q r
def Gi(hp:WA (i4 X.prog X.w) X.A X.env X.xe)(hc:X.calm=a8)(hi:PI X tg a (Mq C ik ms))(hg:PG X tg (tG C t is))(hb:Jo X body (I_ C (JD q) f))(hs:∀x,L0 a X.env x=pure x)
  (JH:∀j,ns j=a8->j∉is/\JD q j=a8) :
  L2.PS X (.For tg a body [] pos) (I_ C ns (ms >>= λrs=>au rs >>= λ_=>M.Jd (Lg ik rs) >>= λxs=>if tW rs is q=a8 then forM t is f rs xs else M.fail)):=by
 show PS.weak (Dn hp hc hi hg hb hs) ?_;rintro D σ H ⟨c0,rfl,rfl,ok,h⟩;rw[ab]at h;show#[c0,rfl,rfl,ok,?_];rw[ab];show h.mono λrs st1 r=>?_;rw[ab,bQ]at r ⊢;show#[r.1,?_];have h2:=r.2;rw[ab]at h2 ⊢;show h2.mono λxs st2 s=>?_;rw[ak];intro c1 J e1 e2 IF n1 IB v;subst e2
 dsimp only at IB v
 split at s
 .rename_i Oo;have T6:∀j u,(Kd.bor j,u)∈rs->j∉is/\JD q j=a8:=λj u l=>by
   have:=qa.mp Oo _ l;simpa using this
  show#[λi m d H'=>∃c,c.H=H'/\c.σ=d/\Ok C c/\Ns c1 c/\Kept ns c0 c/\ly rs c1 c/\m=xs.length - i/\i<=xs.length/\W (forM t is f rs (xs.drop i)) c.st (gJ C c0 ns D),
   #[xs.length,c1,rfl,e1,IF,Ns.refl c1,Kept.of e1,λ_ _ _=>rfl,by simp,mh _,by simpa using s],?_]
  rintro i m d H' ⟨c,rfl,rfl,y,n,kc,B,rfl,KU,w⟩;by_cases G:i<xs.length
  .right
   rw[N6 G,show forM t is f rs (xs[i]::xs.drop (i+1))=au rs >>= λ_=>dG t is xs[i] >>= λ_=>f >>= λf'=>match f' with|.nx=>forM t is f rs (xs.drop (i+1))|.ct=>forM t is f rs (xs.drop (i+1))|.bk=>pure .nx|.rt k u=>pure (.rt k u) from rfl,ab,bQ]at w;have(K5,w):=w;have(I,_):=v c y n B K5;have(Qc,T1,Rh):=I i xs[i] (by simp[G]);show#[T1,λd H'=>∃c,c.H=H'/\c.σ=d/\Ok C c/\Ns c1 c/\Kept ns c0 c/\ly rs c1 c/\W (forM t is f rs (xs.drop (i+1))) c.st (gJ C c0 ns D),λd H' ⟨c',z1,z2,z3,z4,z5,z6,z7⟩=>#[xs.length - (i+1),⋯,c',z1,z2,z3,z4,z5,z6,rfl,G,z7],λx H' hy=>?_];have(g,rfl,o,e5,Jb,n2,rt):=Rh x H' hy;rw[ab]at w;have X2:aB C g g xs[i].1 xs[i].2 x:=by
    rcases Qc with z|z
    .rw[z]at rt ⊢;show rt
    .rw[z]at rt ⊢;show rt
   show#[g,g,xs[i],o,rfl,Jb,Jb,Nx.refl g,X2,?_];rw[e5];show w.mono λ_ st3 w3 c3 e6 Ki n3 VC O1=>?_;subst e6;rw[ab]at w3;show#[c3,rfl,rfl,Ki,w3.mono λfl LF p b e L n4 N=>?_];subst e;have O:Ns c1 b:=((n.trans n2.toNs).trans n3.toNs).trans n4;have Q:Kept ns c0 b:=by
    show kc.trans #[λj hj=>?_,by rw[N.2,O1,o]];have(T,Y):=JH j hj;rw[N.1 j Y,VC j T,o]
   have VD:ly rs c1 b:=λj u l=>by
    have(T,Y):=T6 j u l;rw[N.1 j Y,VC j T,o];show B j u l
   cases fl with
   |nx=>show#[b,rfl,rfl,L,O,Q,VD,p]
   |ct=>show#[b,rfl,rfl,L,O,Q,VD,p]
   |_=>rw[ak]at p;show p b rfl L (n1.toNs.trans O) Q
  .left
   have X3:i=xs.length:=by lia
   subst X3;rw[Z7,show forM t is f rs []=au rs >>= λ_=>pure .nx from rfl,ab,bQ,ak]at w;have(_,I):=v c y n B w.1;show#[I _ (hY _),w.2 c rfl y (n1.toNs.trans n) kc]
 .show(aX.mp s).elim
end
section
def Ok.mod(b:Ok C c)(n:Ns c0 c)(hk:k.root=a8)(hi:c.st[i]?=a5 (a5 (k,u)))(B:c.σ[i]?=a5 (a5 (.ref r)))(JS:∀a,a≠r->H' a=c.H a)(Y:∃o,H' r=a5 o)
  (new:Mv c.S c.H c.S H'->cC C c.S H' r u'):Ok C {c with H:=H',st:=c.st.set i (a5 (k,u'))}/\Ns c0 {c with H:=H',st:=c.st.set i (a5 (k,u'))}:=by
 have K8:c.R1 r:=#[i,k,u,hk,hi,B]
 have hR:c.R r:=.inl K8;have(G,q2,q3,o,ho,MG):=b.root hR;have I:i<c.st.length:=(df.mp hi).1;have m:∀{a:dt} {o':HO},a≠r->c.H a=a5 o'->H' a=a5 o':=λJ e=>by rw[JS _ J];show e
 have D:Mv c.S c.H c.S H':=#[λ_ z=>z,λa o' e t=>m (λz=>by subst z;rw[ho]at e;cases e;show MG t) e,λa o' z e=>m (λd=>G (d▸z)) e]
 have M4:Mv (PS C c.S) c.H (PS C c.S) H':=#[λ_ z=>z,D.Nv,λa o' z e=>m (λd=>by subst d;show z.elim q2 G) e]
 have L:∀(j:Nat) k' w,(c.st.set i (a5 (k,u')))[j]?=a5 (a5 (k',w))->j≠i->c.st[j]?=a5 (a5 (k',w)):=λj k' w e J=>by rw[ez (pq J)]at e;show e
 have f:∀(j:Nat) k' w,k'.root=a8->(c.st.set i (a5 (k,u')))[j]?=a5 (a5 (k',w))->∃w',c.st[j]?=a5 (a5 (k',w')):=λj k' w _ e=>by
  by_cases p:j=i
  .subst p;rw[dn I]at e;cases e;show#[u,hi]
  .show#[w,L j k' w e p]
 have b1:∀a,({c with H:=H',st:=c.st.set i (a5 (k,u'))}:Cf).R1 a->c.R1 a:=λa IX=>by
  have(j,k',w,g,h,l):=IX;have(w',N):=f j k' w g h;show#[j,k',w',g,N,l]
 have dD:∀(j:Nat) (w:U),(c.st.set i (a5 (k,u')))[j]?=a5 (a5 (.A',w))->c.st[j]?=a5 (a5 (.A',w)):=λj w e=>by
  by_cases p:j=i
  .subst p;rw[dn I]at e;cases e;cases hk
  .show L j .A' w e p
 have M':LK C {c with H:=H',st:=c.st.set i (a5 (k,u'))}:=b.dd.of rfl (λj w e=>#[dD j w e,rfl]) (λa z=>.inl (b1 a z)) D λj a z=>#[(b.root (.inr #[j,z])).1,λo' e=>m (λd=>b.dd.d1 j a z (d▸K8)) e]
 show#[#[λa o' e z=>?_,λa z=>?_,b.par,λa z=>?_,by simp[b.len],λj k' w e=>?_,λj1 j2 k1 k2 w1 w2 q g s h l O e4=>?_,M'],n.trans #[λa o' e z=>m (λd=>z (d▸hR)) e,λa o' e=>?_,λa z=>?_,λ_ z=>z,λ_ z=>.inl z]]
 .have g:=b.same a o' e z;show m (λd=>?_) g;subst d;rcases q3 with q3|q3
  .rw[e]at q3;cases q3
  .show z q3
 .have(g,o',s):=b.J8 a z;show#[g,o',m (λd=>G (d▸z)) s]
 .have(g,o',s):=b.io a z;show#[g,?_];by_cases y:a=r
  .subst y;show Y
  .show#[o',m y s]
 .by_cases p:j=i
  .subst p;rw[dn I]at e;cases e;have(v,h,l):=b.sl j _ _ hi;rw[B]at h;cases h;show#[.ref r,B,?_];have nr:=new D;cases k with
   |own=>have(q,x,A,Q,T,_):=l;cases x;show#[r,rfl,A,Q,T,nr]
   |io=>have(q,x,A,Q,T,_):=l;cases x;show#[r,rfl,A,Q,T,nr]
   |_=>cases hk
  .have e0:=L j k' w e p;have(v,h,l):=b.sl j k' w e0;show#[v,h,l.mv D M4 λJu q x=>?_];have(Rb,J9,A,_):=l.rt Ju;rw[x]at J9;cases J9;show#[A,λo' e=>m (λz=>?_) e];subst z;show p (b.inj j i k' k w u q Ju hk e0 hi (by rw[h,x]) B)
 .have(Rk,N):=f j1 k1 w1 g h;have(VE,a2):=f j2 k2 w2 s l;show b.inj j1 j2 k1 k2 Rk VE q g s N a2 O e4
 .by_cases y:a=r
  .subst y;show Y
  .show#[o',m y e]
 .rcases z with z|⟨j,w,q,h,l,O⟩
  .show .inl (.inl (b1 a z))
  .show .inl (.inr #[j,w,q,dD j w h,l,O])
def gn{f:U->Option U}{st:aq}(h:W (modS i f) st Q):∃k u u',k.root=a8/\st[i]?=a5 (a5 (k,u))/\f u=a5 u'/\Q () (st.set i (a5 (k,u'))):=by
 have(_,st',e,q):=h;unfold modS at e;split at e
 .rename_i k u hs;split at e
  .rename_i hk;cases a:f u with
   |none=>rw[a]at e;cases e
   |some u'=>rw[a]at e;cases e;show#[k,u,u',hk,hs,a,q]
  .cases e
 .cases e
def dP{st:aq}(h:W (di i) st Q):∃k u,k≠.A'/\st[i]?=a5 (a5 (k,u))/\Q (if k.root=a8 then .bor i else k,u) st:=by
 have(r,st',e,q):=h;unfold di at e;split at e
 .cases e
 .rename_i k u a hs;cases e;show#[k,u,λz=>a z,hs,q]
 .cases e
def CC(L:C.K=X.K)(O:X.N[i]?=a5 x)(Q:JL X.env.scope x)(T:(x==("__debug__":Str))=b6)(Y:(x==("__classdict__":Str))=b6)(ha:PE X a (IH C ma))
  (Jt:((v3 cpos (il [a] X.env)).all (λx=>!x.1)&&(Om cpos (Jf [] X.env)).all (λx=>x.1.isSome)
   && cb ([a].length+([]:List Ni).length+(if ([]:List Ni).isEmpty then 0 else 1)<30))=a8)
  (II:(apos.endLine==cpos.line)=a8) (n:il [a] X.env=[(b6,sL a X.env)]) :
  L2.PS X (.Expr (.Call (.Attribute (.Name x px) "append" apos) [a] [] cpos) pos) (I_ C ns (di i >>= λx=>Nz x.2 >>= λ_=>ma >>= λr=>lift r >>= λu=>modS i (vK u) >>= λ_=>pure .nx)):=by
 show PS.weak (eZ (mT PySem.F.plainAttrs_list PySem.F.slot_list_append PySem.F.type_list_append eC (aT O Q T Y) (bz ha cP n) rfl Jt II n rfl)) ?_;rintro D σ H ⟨c0,rfl,rfl,e,h⟩;rw[ab]at h;have(k0,u0,Na,o,h):=dP h;have(p,g,l):=e.sl i k0 u0 o;show#[p,g,?_];cases u0 with
 |lst s =>
  rw[ab,show Nz (U.lst s)=pure () from rfl,ak]at h;have T8:aB C c0 c0 (if k0.root=a8 then .bor i else k0) (.lst s) p:=by
   by_cases hk:k0.root=a8
   .rw[ę hk];show#[#[k0,hk,o],g]
   .rw[Ě hk];cases k0 with
    |loc=>show l
    |any=>show l
    |bor j=>show l.elim
    |A'=>show(Na rfl).elim
    |_=>show absurd rfl hk
  have(f,J2,m,QX,_):=T8.list e;show#[by rw[m];show .inl #[rfl,J2,L▸QX],?_];show aJ e h λr c v t w=>?_;rw[ab]at w;have(S',st',u,sS,y,n1,b,A,_,_):=ff e t.ok t.nx t.rx.w w;rw[ab]at A;have(k,u1,u2,hk,hs,d,q):=gn A;have B:c.σ[i]?=a5 (a5 (.ref f)):=by rw[t.hσ,g,m]
  cases u1 with
  |lst ys =>
   simp only[vK]at d;split at d
   .rename_i hz;cases d;have(v',e1,e2):=y.sl i k (.lst ys) hs;have G:c.σ[i]?=a5 (a5 v'):=e1;rw[B]at G;cases G;have(r',er,_,_,_,ws,hw,I):=e2.rt hk;cases er;have NB:c.H f=a5 (.lst ws):=hw;show#[f,ws,v,m,rfl,NB,by rw[<-I.len];show hz,?_];rw[ak]at q;have(Jb,n2):=Ok.mod (c:={c with S:=S',st:=st' }) (H':=upd c.H f (.lst (ws++[v]))) (u':=.lst (ys++[u])) y n1.toNs hk hs B (λa ne=>ai ne) ⟨_,aj⟩ λJ=>#[ws++[v],aj,(I.mv J).snoc (b.mv J)]
    have z:=q _ rfl Jb n2 (Kept.of t.hσ);rw[<-t.hσ];show z
   .cases d
  |_=>cases d
 |_=>rw[ab]at h;show(aX.mp h).elim
def Gj(u:C.K=X.K)(Q:X.N[i]?=a5 x)(T:JL X.env.scope x)(Y:(x==("__debug__":Str))=b6)(IM:(x==("__classdict__":Str))=b6)(ha:PE X a (IH C ma))
  (Jt:((v3 cpos (il [a] X.env)).all (λx=>!x.1)&&(Om cpos (Jf [] X.env)).all (λx=>x.1.isSome)
   && cb ([a].length+([]:List Ni).length+(if ([]:List Ni).isEmpty then 0 else 1)<30))=a8)
  (II:(apos.endLine==cpos.line)=a8) (y:il [a] X.env=[(b6,sL a X.env)]) :
  L2.PS X (.Expr (.Call (.Attribute (.Name x px) "extend" apos) [a] [] cpos) pos) (I_ C ns (di i >>= λx=>Nz x.2 >>= λ_=>ma >>= λr=>modS i (mK r) >>= λ_=>pure .nx)):=by
 show PS.weak (eZ (mT PySem.F.plainAttrs_list PySem.F.slot_list_extend PySem.F.type_list_extend rS (aT Q T Y IM) (bz ha cP y) rfl Jt II y rfl)) ?_;rintro D σ H ⟨c0,rfl,rfl,f,h⟩;rw[ab]at h;have(k0,u0,Na,A,h):=dP h;have(B,g,l):=f.sl i k0 u0 A;show#[B,g,?_];cases u0 with
 |lst G =>
  rw[ab,show Nz (U.lst G)=pure () from rfl,ak]at h;have T8:aB C c0 c0 (if k0.root=a8 then .bor i else k0) (.lst G) B:=by
   by_cases hk:k0.root=a8
   .rw[ę hk];show#[#[k0,hk,A],g]
   .rw[Ě hk];cases k0 with
    |loc=>show l
    |any=>show l
    |bor j=>show l.elim
    |A'=>show(Na rfl).elim
    |_=>show absurd rfl hk
  have(m,J2,n,QX,_):=T8.list f;show#[by rw[n];show .inl #[rfl,J2,u▸QX],?_];show aJ f h λr c v t w=>?_;rw[ab]at w;have(k,o,u2,hk,hs,d,q):=gn w;have I:c.σ[i]?=a5 (a5 (.ref m)):=by rw[t.hσ,g,n]
  have(rk,ru):=r;have key:∃ys e b vs,o=.lst ys/\v=.ref b/\(Jk C.K c.H b vs\/Ji C.K c.H b vs)/\ar C c.S c.H e vs/\ys.length+e.length<=cK/\u2=.lst (ys++e):=by
   cases ru with
   |lst e =>
    cases o with
    |lst ys =>
     simp only[mK]at d;split at d
     .rename_i hz;cases d;have(b,vs,ev,p,s):=t.rx.list t.ok;show#[_,_,b,vs,rfl,ev,.inl p,dq hz.2 s,hz.1,rfl]
     .cases d
    |_=>simp[mK]at d
   |tup e =>
    cases o with
    |lst ys =>
     simp only[mK]at d;split at d
     .rename_i hz;cases d;have(b,vs,ev,p,s):=t.rx.tuple t.ok;show#[_,_,b,vs,rfl,ev,.inr p,dq hz.2 s,hz.1,rfl]
     .cases d
    |_=>simp[mK]at d
   |_=>simp[mK]at d
  have(ys,e,b,vs,rfl,rfl,hB,hz,hl,rfl):=key;have(v',J,e2):=t.ok.sl i k (.lst ys) hs;rw[I]at J;cases J;have(r',er,_,_,_,ws,hw,L):=e2.rt hk;cases er;show#[m,b,ws,vs,n,rfl,hw,u▸hB,by rw[<-L.len,<-hz.len];show hl,?_];rw[ak]at q;have(Jb,n2):=Ok.mod (c:=c) (H':=upd c.H m (.lst (ws++vs))) (u':=.lst (ys++e)) t.ok t.nx.toNs hk hs I (λa ne=>ai ne) ⟨_,aj⟩ λO=>#[ws++vs,aj,(L.mv O).append (hz.mv O)]
  have z:=q _ rfl Jb n2 (Kept.of t.hσ);rw[<-t.hσ];show z
 |_=>rw[ab]at h;show(aX.mp h).elim
def nW.or(h:nW X t)(h':nW X t'):nW X (λo i v H Q=>t o i v H Q\/t' o i v H Q):=λa s σ H o i v b c u Q I r1 r2 d q =>
 q.elim (h a s σ H o i v b c u Q I r1 r2 d) (h' a s σ H o i v b c u Q I r1 r2 d)
def set_dict(c:X.A.units+1<Kc):nW X (λo i v H Q=>∃a H',o=.ref a/\vg H a i v H'/\Q H'):=by
 rintro b s σ H o i v h j u Q I d e rv ⟨a,H',rfl,g,q⟩;cases d;show vi c I g e rv λs' f=>#[H',f,q]
def yt{S:dt->Prop}{kvs:List (Key×V)}(a:kvs.map (·.1)=ks.map nT)(c:ar C S H us (kvs.map (·.2)))(d:Rep C S H u v):
  (putK kvs (nT y) v).map (·.1)=(dput ks us y u).1.map nT/\ar C S H (dput ks us y u).2 ((putK kvs (nT y) v).map (·.2)):=by
 have e:(kvs.any λkv=>cb (kv.1=(nT y:Key)))=cb (y∈ks):=by
  rw[iq];show(dO (x:=y) a c).2
 unfold putK dput;rw[e];by_cases b:y∈ks
 .rw[ę (by simpa using b),ę b];constructor
  .rw[ke];rw[<-a];apply w6;intro p _;change(if p.1=nT y then(p.1,v) else p).1=p.1;split<;>rfl
  .clear e b;induction kvs generalizing ks us with
   |nil =>
    have:ks=[]:=by simpa using a.symm
    subst this;simp[ar]
   |cons p kvs g =>
    cases ks with
    |nil=>simp at a
    |cons k ks =>
     cases us with
     |nil=>simp[ar]at c
     |cons u0 us =>
      rw[gi,gi,PZ]at a;have(j,l,f,h,i):=c;rw[gi]at f;cases f;rw[gi,TJ,gi,gi];show#[_,_,rfl,?_,g a.2 i];by_cases hk:k=y
      .rw[ę (by show hk),ę (by rw[a.1,hk])];show d
      .rw[Ě (by show hk),Ě (by rw[a.1];intro z;show hk (T5 z))];show h
 .rw[Ě (by simpa using b),Ě b];show#[by rw[mu,a,mu];rfl,by rw[mu];show c.snoc d]
def Gk(hP:C.P=X.prog)(hw:C.w=X.w)(hK:C.K=X.K)(hu:X.A.units+60<Kc)(hN:X.N[i]?=a5 x)(hv:JL X.env.scope x)(hd:(x==("__debug__":Str))=b6)(IM:(x==("__classdict__":Str))=b6)
  (ha:PE X a (IH C ma)) (hb:PE X b (IH C mb)) (hs:QE [.Subscript (.Name x px) b p] a pos.line X.env=pure b6) (Ot:UX [.Subscript (.Name x px) b p] a X.env=pure bD)
  (O:∀v,RZ (.Subscript (.Name x px) b p) X.env v=(do
   let G <-Ka [v] (sL (.Name x px) X.env)
   let Q <-Ka [v,G] (sL b X.env)
   R' p
   Ka [v,G,Q] (SF G Q v)
   V6 [v,G,Q] [])) :
  L2.PS X (.Assign [.Subscript (.Name x px) b p] a pos) (I_ C ns (ma >>= λr=>di i >>= λ_=>mb >>= λx=>dh [r,x] >>= λus=>modS i (tV us) >>= λ_=>pure .nx)):=by
 show PS.weak (qU ha (xj (aT hN hv hd IM) hb (nW.or set_list (set_dict (X:=X) ⋯)) O) hs Ot rfl) ?_;rintro D σ H ⟨c0,rfl,rfl,ok,h⟩;show aJ ok h λr c v t w=>?_;rw[ab]at w;have(k0,u0,Na,JX,w):=dP w;have(v0,e0,LA):=t.ok.sl i k0 u0 JX;show#[v0,by rw[<-t.hσ];show e0,?_];rw[ab]at w;show#[c,t.hσ,rfl,t.ok,w.mono λy st2 w2 f m I e4 Jb n2 r2=>?_];subst e4;rw[ab]at w2;have T9:=t.nx.trans n2;have rws:cu C c0 f [r,y] [v,m]:=#[v,[m],rfl,t.rx.w.on t.ok n2 (I.trans t.hσ.symm),#[m,[],rfl,(r2.w).from t.nx,rfl,λ_ i r' v' e _=>by simp at e],λhk i r' v' T e6 Ju=>by
  cases i with
  |zero=>simp at T e6;subst T e6;show lr t.rx.w r2.w hk Ju
  |succ i=>simp at T]
 have(S',st',us,sS,IF,n1,g,w1):=iI ok Jb T9 rws w2;rw[ab]at w1;have(k,J,u2,hk,Kx,d,q):=gn w1;rw[ak]at q;have hσ:f.σ[i]?=a5 (a5 v0):=by rw[I,<-t.hσ];show e0
 have(v',e1,e2):=IF.sl i k J Kx;have JJ:f.σ[i]?=a5 (a5 v'):=e1;rw[hσ]at JJ;cases JJ;have(n,er,z1,z2,z3,l):=e2.rt hk;subst er;have X4:({f with S:=S',st:=st' }:Cf).σ[i]?=a5 (a5 (.ref n)):=hσ;obtain⟨Rk,ws,ew,VF,VE,ZO,ZP,VG,X5⟩:∃u ws,us=[u,ws]/\Rep C S' f.H u v/\∃(_:Unit) (_:Unit),True/\Rep C S' f.H ws m/\True:=by
  cases us with
  |nil=>simp[ar]at g
  |cons u us =>
   have(_,_,e,q1,q2):=g;cases e;cases us with
   |nil=>simp[ar]at q2
   |cons u' us =>
    have(_,_,e,q3,q4):=q2;cases e;cases us with
    |nil=>show#[u,u',rfl,q1,(),(),trivial,q3,trivial]
    |cons _ _=>have(_,_,e,_):=q4;cases e
 subst ew;rw[show tV [Rk,ws] J=fH ws Rk J from rfl]at d;have s:∀{H':Hp} ,(∀a,a≠n->H' a=f.H a)->(∃o,H' n=a5 o)->(Mv S' f.H S' H'->cC C S' H' n u2)->D.nx c0.σ H':=λ{H'} JS hr new=>by
  have(Ki,n3):=Ok.mod (c:={f with S:=S',st:=st' }) (H':=H') (u':=u2) IF n1.toNs hk Kx X4 JS hr new;have z:=q _ rfl Ki n3 (Kept.of I);rw[<-I];show z
 cases J with
 |lst xs =>
  cases ws with
  |int j =>
   simp only[fH,dV]at d;have(Y,hj,rfl):=d;have(vs,h1,B):=l;have ey:m=.int j:=VG;show .inl #[n,vs,j,Y,rfl,ey,h1,by rw[<-B.len];show hj,?_];show s (λa ne=>ai ne) ⟨_,aj⟩ λL=>#[vs.set Y v,aj,(B.mv L).set Y (VF.mv L)]
  |_=>simp[fH]at d
 |G' ks vs =>
  cases ws with
  |str y' =>
   simp only[fH]at d;split at d
   .rename_i hz;cases d;have(kvs,h1,B,h3):=l;have ey:m=.str y':=VG;subst ey;have hl:kvs.length=ks.length:=by have:=ğ H8 B;simpa using this
    show .inr #[n,_,rfl,vg.k (k:=nT y') h1 (by rw[hl];show hz),?_];show s (λa ne=>ai ne) ⟨_,aj⟩ λL=>?_;have(g1,g2):=yt (y:=y') B h3 VF;show#[_,aj,g1,g2.mv L]
   .cases d
  |_=>simp[fH]at d
 |_=>simp[fH]at d
def Ok.slot(d:Ok C c)(e:k≠.A')(hs:c.st[i]?=a5 (a5 (k,u))):∃v,c.σ[i]?=a5 (a5 v)/\aB C c c (if k.root=a8 then .bor i else k) u v:=by
 have(f,b,a):=d.sl i k u hs;show#[f,b,?_];by_cases hk:k.root=a8
 .rw[ę hk];show#[#[k,hk,hs],b]
 .rw[Ě hk];cases k with
  |loc=>show a
  |any=>show a
  |bor j=>show a.elim
  |A'=>show(e rfl).elim
  |_=>show absurd rfl hk
end
end TM
namespace TM
open PySem L2 PyProof.Rows PySem.W
section
end
end TM
namespace TM
open PySem L2 PyProof.Rows
section
def Ok.yu(d:Ok C c)(n:Ns c0 c)(hi:c.st[i]?=a5 (a5 (.A',u)))(B:c.σ[i]?=a5 (a5 (.ref r)))(JS:∀a,¬c.RD i a->H' a=c.H a)(O:∀a o,c.H a=a5 o->∃o',H' a=a5 o')
  (new:Mv c.S c.H c.S H'->aL C c.S H' r as' u') (Q:∀a∈as',a∈c.kid i\/(¬c.R a/\c0.H a=bD)) :
  Ok C {c with H:=H',st:=c.st.set i (a5 (.A',u')),kid:=λj=>if j=i then as' else c.kid j}/\Ns c0 {c with H:=H',st:=c.st.set i (a5 (.A',u')),kid:=λj=>if j=i then as' else c.kid j}:=by
 have T:i<c.st.length:=(df.mp hi).1;have rt:∀{a},c.RD i a->¬c.S a/\¬C.J0 a/\(C.H₀ a=bD\/C.IO a)/\∃o,c.H a=a5 o/\¬Tp o:=λz=>d.root (.inr #[i,z]);have h0:∀{a},c.RD i a->C.H₀ a=bD\/C.IO a:=λ⟨u1,r1,g,b,e3⟩=>(aL.fr (d.dd.kd i u1 r1 g b) _ (gj.mpr e3)).2.2;have q:∀{a:dt} {o:HO},¬c.RD i a->c.H a=a5 o->H' a=a5 o:=λz e=>by rw[JS _ z];show e
 have N:Mv c.S c.H c.S H':=#[λ_ z=>z,λa o e t=>q (λz=>by
  have(_,_,_,o',l,nt):=rt z;rw[e]at l;cases l;show nt t) e,λa o z e=>q (λm=>(rt m).1 z) e]
 have M4:Mv (PS C c.S) c.H (PS C c.S) H':=#[λ_ z=>z,N.Nv,λa o z e=>q (λm=>z.elim (rt m).2.1 (rt m).1) e]
 have D:∀(j:Nat) k w,(c.st.set i (a5 (.A',u')))[j]?=a5 (a5 (k,w))->j≠i->c.st[j]?=a5 (a5 (k,w)):=λj k w e ne=>by rw[ez (pq ne)]at e;show e
 have Y:∀(j:Nat) k w,k.root=a8->(c.st.set i (a5 (.A',u')))[j]?=a5 (a5 (k,w))->c.st[j]?=a5 (a5 (k,w)):=λj k w hk e=>by
  by_cases f:j=i
  .subst f;rw[dn T]at e;cases e;cases hk
  .show D j k w e f
 have b1:∀a,({c with H:=H',st:=c.st.set i (a5 (.A',u')),kid:=λj=>if j=i then as' else c.kid j}:Cf).R1 a->c.R1 a:=λa ⟨j,k,w,hk,g,b⟩=>#[j,k,w,hk,Y j k w hk g,b]
 have G:∀j a,({c with H:=H',st:=c.st.set i (a5 (.A',u')),kid:=λj=>if j=i then as' else c.kid j}:Cf).RD j a->c.RD j a\/(j=i/\¬c.R a/\c0.H a=bD):=λj a IX=>by
  have(w,h,g,b,e3):=IX;by_cases f:j=i
  .subst f;have I:c.σ[j]?=a5 (a5 (.ref h)):=b;rw[B]at I;cases I;rcases e3 with rfl|e3
   .show .inl #[u,_,hi,B,.inl rfl]
   .have MH:a∈as':=by simpa using e3
    rcases Q a MH with z|z
    .show .inl #[u,_,hi,B,.inr z]
    .show .inr #[rfl,z]
  .have MH:a=h\/a∈c.kid j:=by simpa[f] using e3
   show .inl #[w,h,D j _ w g f,b,MH]
 show#[#[λa o e z=>q (λm=>(h0 m).elim (λy=>by rw[y]at e;cases e) z) (d.same a o e z),λa z=>?_,d.par,λa z=>?_,by simp[d.len],λj k w e=>?_,λx s k1 k2 w1 w2 h h1 h2 g b e3 e4=>d.inj x s k1 k2 w1 w2 h h1 h2 (Y x k1 w1 h1 g) (Y s k2 w2 h2 b) e3 e4,#[λj w h g b=>?_,λx s a J L=>?_,λj a J L=>?_]],#[λa o e z=>?_,λa o e=>?_,λa z=>?_,n.sub,n.new]]
 .have(q1,o,q2):=d.J8 a z;show#[q1,O a o q2]
 .have(q1,o,q2):=d.io a z;show#[q1,O a o q2]
 .by_cases f:j=i
  .subst f;rw[dn T]at e;cases e;show#[.ref r,B,r,rfl]
  .have(v,g,b):=d.sl j k w (D j k w e f);show#[v,g,b.mv N M4 λhk h er=>?_];have(Rb,J9,J,_):=b.rt hk;rw[er]at J9;cases J9;show#[J,λo l=>q (λz=>d.dd.d1 i h z #[j,k,w,hk,D j k w e f,by rw[g,er]]) l]
 .by_cases f:j=i
  .subst f;rw[dn T]at g;cases g;have I:c.σ[j]?=a5 (a5 (.ref h)):=b;rw[B]at I;cases I;have z:=new N;simpa using z
  .have JJ:=D j _ w g f;have Ju:(if j=i then as' else c.kid j)=c.kid j:=Ě f;change aL C c.S H' h (if j=i then as' else c.kid j) w;rw[Ju];show aL.mv N (λa ha=>#[(d.root (.inr #[j,w,h,JJ,b,gj.mp ha])).1,λo l=>q (λz=>f (d.dd.dj j i a #[w,h,JJ,b,gj.mp ha] z)) l]) (d.dd.kd j w h JJ b)
 .rcases G x a J with p|⟨rfl,p,_⟩
  .rcases G s a L with A|⟨rfl,A,_⟩
   .show d.dd.dj x s a p A
   .show(A (.inr #[x,p])).elim
  .rcases G s a L with A|⟨rfl,A,_⟩
   .show(p (.inr #[s,A])).elim
   .rfl
 .rcases G j a J with p|⟨rfl,p,_⟩
  .show d.dd.d1 j a p (b1 a L)
  .show p (.inl (b1 a L))
 .show q (λm=>by
   rcases n.roots a (.inr #[i,m]) with y|y
   .show z y
   .rw[e]at y;cases y) (n.keep a o e z)
 .have(o',l):=n.there a o e;show O a o' l
 .rcases z with z|⟨j,z⟩
  .show n.roots a (.inl (b1 a z))
  .rcases G j a z with y|⟨_,_,y⟩
   .show n.roots a (.inr #[j,y])
   .show .inr y
def Ok.newD(l:Ok C c)(A:c.H p=bD)(hi:i<c.σ.length):
  Ok C {c with H:=upd c.H p (.dK []),σ:=c.σ.set i (a5 (.ref p)),st:=c.st.set i (a5 (.A',.G' [] [])),kid:=λj=>if j=i then [] else c.kid j}/\Ns c {c with H:=upd c.H p (.dK []),σ:=c.σ.set i (a5 (.ref p)),st:=c.st.set i (a5 (.A',.G' [] [])),kid:=λj=>if j=i then [] else c.kid j}:=by
 have(n,Q):=l.lay (o:=.dK []) A;have(q1,q2,q3,q4,B):=l.eh A;have D:i<c.st.length:=by rw[l.len];show hi
 have u:∀(j:Nat) k w,(c.st.set i (a5 (.A',.G' [] [])))[j]?=a5 (a5 (k,w))->j≠i->c.st[j]?=a5 (a5 (k,w)):=λj k w e G=>by rw[ez (pq G)]at e;show e
 have q:∀(j:Nat),j≠i->(c.σ.set i (a5 (.ref p)))[j]?=c.σ[j]?:=λj G=>ez (pq G);have I:∀(j:Nat) k w,k.root=a8->(c.st.set i (a5 (.A',.G' [] [])))[j]?=a5 (a5 (k,w))->j≠i/\c.st[j]?=a5 (a5 (k,w)):=λj k w hk e=>by
  by_cases b:j=i
  .subst b;rw[dn D]at e;cases e;cases hk
  .show#[b,u j k w e b]
 have b1:∀a,({c with H:=upd c.H p (.dK []),σ:=c.σ.set i (a5 (.ref p)),st:=c.st.set i (a5 (.A',.G' [] [])),kid:=λj=>if j=i then [] else c.kid j}:Cf).R1 a->c.R1 a:=λa J=>by
  have(j,k,w,hk,d,f):=J;have(b,L):=I j k w hk d;show#[j,k,w,hk,L,by rw[<-q j b];show f]
 have r:∀j a,({c with H:=upd c.H p (.dK []),σ:=c.σ.set i (a5 (.ref p)),st:=c.st.set i (a5 (.A',.G' [] [])),kid:=λj=>if j=i then [] else c.kid j}:Cf).RD j a->(j≠i/\c.RD j a)\/(j=i/\a=p):=λj a J=>by
  have(w,g,d,f,e3):=J;by_cases b:j=i
  .subst b;have s:(c.σ.set j (a5 (.ref p)))[j]?=a5 (a5 (.ref g)):=f;rw[dn hi]at s;cases s;rcases e3 with rfl|e3
   .show .inr #[rfl,rfl]
   .simp at e3
  .have MH:a=g\/a∈c.kid j:=by simpa[b] using e3
   show .inl #[b,w,g,u j _ w d b,by rw[<-q j b];show f,MH]
 show#[#[n.same,n.J8,n.par,n.io,by simp[l.len],λj k w e=>?_,λm h k1 k2 T Y g h1 h2 d f e3 e4=>?_,#[λj w g d f=>?_,λm h a N t=>?_,λj a N t=>?_]],#[Q.keep,Q.there,λa z=>?_,λ_ z=>z,λ_ z=>.inl z]]
 .by_cases b:j=i
  .subst b;rw[dn D]at e;cases e;show#[.ref p,dn hi,p,rfl]
  .have(v,d,f):=n.sl j k w (u j k w e b);show#[v,(q j b).trans d,f]
 .have(NC,a1):=I m k1 T h1 d;have(Nb,a2):=I h k2 Y h2 f;show l.inj m h k1 k2 T Y g h1 h2 a1 a2 ((q m NC).symm.trans e3) ((q h Nb).symm.trans e4)
 .by_cases b:j=i
  .subst b;rw[dn D]at d;cases d;have s:(c.σ.set j (a5 (.ref p)))[j]?=a5 (a5 (.ref g)):=f;rw[dn hi]at s;cases s;change aL C c.S (upd c.H p (.dK [])) p (if j=j then [] else c.kid j) (.G' [] []);rw[ę rfl];show#[[],aj,rfl,rfl,by simp,λa ha=>by rw[i8.mp ha];show#[q2,q3,q1],rfl]
  .have L:=u j _ w d b;have z:=n.dd.kd j w g L ((q j b).symm.trans f);change aL C c.S (upd c.H p (.dK [])) g (if j=i then [] else c.kid j) w;rw[Ě b];show z
 .rcases r m a N with⟨_,x⟩|⟨rfl,rfl⟩
  .rcases r h a t with⟨_,O⟩|⟨rfl,rfl⟩
   .show l.dd.dj m h a x O
   .show(B (.inr #[m,x])).elim
  .rcases r h a t with⟨_,O⟩|⟨rfl,_⟩
   .show(B (.inr #[h,O])).elim
   .rfl
 .rcases r j a N with⟨_,x⟩|⟨rfl,rfl⟩
  .show l.dd.d1 j a x (b1 a t)
  .show B (.inl (b1 a t))
 .rcases z with z|⟨j,z⟩
  .show .inl (.inl (b1 a z))
  .rcases r j a z with⟨_,y⟩|⟨_,rfl⟩
   .show .inl (.inr #[j,y])
   .show .inr A
end
section
theorem dw.rep{S S':dt->Prop}(hs:∀a,S a->S' a):∀{us:List U}{as:List dt},(∀a∈as,S' a)->dw C S H us as->ar C S' H us (as.map V.ref)
 |[],as,_,h=>by cases h;show rfl
 |u::us,as,c,h=>by
  have(a,as',ys,vs,rfl,rfl,d,e,f):=h;show#[.ref a,as'.map V.ref,rfl,#[a,vs,rfl,#[c a (by simp),d],e.mv (.up hs)],dw.rep hs (λb g=>c b (by simp[g])) f]
def Ok.Ic(b:Ok C c)(n:Nx c0 c)(B:∃ks us,u=.G' ks us)(hi:c.st[i]?=a5 (a5 (.A',u)))(s:c.σ[i]?=a5 (a5 (.ref r))):
  Ok C {c with S:=λa=>c.S a\/a∈c.kid i,st:=c.st.set i (a5 (.own,u))}/\Nx c0 {c with S:=λa=>c.S a\/a∈c.kid i,st:=c.st.set i (a5 (.own,u))}:=by
 have Q:i<c.st.length:=(df.mp hi).1;have(ks,us,B):=B;have T:=b.dd.kd i u r hi s;have fr:=aL.Tx (B▸T);have mem:∀a,(a=r\/a∈c.kid i)->c.RD i a:=λa z=>#[u,r,hi,s,z]
 have up:Mv c.S c.H (λa=>c.S a\/a∈c.kid i) c.H:=.up λa=>.inl;have X6:Mv (PS C c.S) c.H (PS C λa=>c.S a\/a∈c.kid i) c.H:=.up λa z=>z.imp id .inl;have Rm:r∉c.kid i/\cC C (λa=>c.S a\/a∈c.kid i) c.H r u:=by
  subst B;have(kvs,D,G,h3,h4,h5,h6):=T;show#[(o9.mp h4).1,kvs,D,G,?_];rw[h3];show h6.rep (λa=>.inl) λa I=>.inr I
 have p:∀(j:Nat) k w,(c.st.set i (a5 (.own,u)))[j]?=a5 (a5 (k,w))->j≠i->c.st[j]?=a5 (a5 (k,w)):=λj k w e ne=>by rw[ez (pq ne)]at e;show e
 have b1:∀a,({c with S:=λa=>c.S a\/a∈c.kid i,st:=c.st.set i (a5 (.own,u))}:Cf).R1 a->c.R1 a\/a=r:=λa Y=>by
  have(j,k,w,hk,f,g):=Y;by_cases d:j=i
  .subst d;have Jx:c.σ[j]?=a5 (a5 (.ref a)):=g;rw[s]at Jx;cases Jx;show .inr rfl
  .show .inl #[j,k,w,hk,p j k w f d,g]
 have J:∀j a,({c with S:=λa=>c.S a\/a∈c.kid i,st:=c.st.set i (a5 (.own,u))}:Cf).RD j a->j≠i/\c.RD j a:=λj a Y=>by
  have(w,h,f,g,t):=Y;by_cases d:j=i
  .subst d;rw[dn Q]at f;cases f
  .show#[d,w,h,p j _ w f d,g,t]
 show#[#[b.same,λa z=>?_,b.par,b.io,by simp[b.len],λj k w e=>?_,λm l k1 k2 L N h D G f g t e4=>?_,#[λj w h f g=>?_,λm l a x z2=>b.dd.dj m l a (J m a x).2 (J l a z2).2,λj a x z2=>?_]],#[#[n.keep,n.there,λa z=>?_,λa z=>.inl (n.sub a z),λa z=>?_]]]
 .rcases z with z|z
  .show b.J8 a z
  .have(o,ho,_):=aL.there T a (ko _ z);show#[(fr a (ko _ z)).2.2,o,ho]
 .by_cases d:j=i
  .subst d;rw[dn Q]at e;cases e;have(q1,q2,q3):=fr r (k9 ..);show#[.ref r,s,r,rfl,λz=>z.elim q1 Rm.1,q2,q3,Rm.2]
  .have(v,f,g):=b.sl j k w (p j k w e d);show#[v,f,g.mv up X6 λhk h er=>?_];have(Rb,J9,x,_):=g.rt hk;rw[er]at J9;cases J9;show#[λz=>z.elim x λz=>b.dd.d1 i h (mem h (.inr z)) #[j,k,w,hk,p j k w e d,by rw[f,er]],λo q=>q]
 .by_cases O:m=i
  .by_cases A:l=i
   .rw[O,A]
   .subst O;have MH:c.σ[m]?=a5 (a5 (.ref h)):=t;rw[s]at MH;cases MH;show(b.dd.d1 m r (mem r (.inl rfl)) #[l,k2,N,G,p l k2 N g A,e4]).elim
  .by_cases A:l=i
   .subst A;have VH:c.σ[l]?=a5 (a5 (.ref h)):=e4;rw[s]at VH;cases VH;show(b.dd.d1 l r (mem r (.inl rfl)) #[m,k1,L,D,p m k1 L f O,t]).elim
   .show b.inj m l k1 k2 L N h D G (p m k1 L f O) (p l k2 N g A) t e4
 .by_cases d:j=i
  .subst d;rw[dn Q]at f;cases f
  .have JJ:=p j _ w f d;show aL.mv up (λa I=>#[λz=>z.elim (b.root (.inr #[j,w,h,JJ,g,gj.mp I])).1 λz=>d (b.dd.dj j i a #[w,h,JJ,g,gj.mp I] (mem a (.inr z))),λo q=>q]) (b.dd.kd j w h JJ g)
 .have(d,y):=J j a x;rcases b1 a z2 with z|z
  .show b.dd.d1 j a y z
  .subst z;show d (b.dd.dj j i a y (mem a (.inl rfl)))
 .rcases z with z|⟨j,z⟩
  .rcases b1 a z with z|rfl
   .show n.roots a (.inl z)
   .show n.roots a (.inr #[i,mem a (.inl rfl)])
  .show n.roots a (.inr #[j,(J j a z).2])
 .rcases z with z|z
  .show n.new a z
  .rcases n.roots a (.inr #[i,mem a (.inr z)]) with y|y
   .show .inr (.inl y)
   .show .inr (.inr y)
def Bv(f:X.N[i]?=a5 x)(g:JL X.env.scope x)(j:(x==("__debug__":Str))=b6)(k:(x==("__classdict__":Str))=b6):PE X (.Name x pos) (IH C (ya i)):=by
 have m:=oH (C:=C) (pos:=pos) f g j k;rintro b s σ H Q I ⟨c0,rfl,rfl,c,r,st',e,h⟩;unfold ya at e;split at e
 .rename_i ks us hs;cases e;have(v,d,l,rfl):=c.sl i _ _ hs;have(n,o):=c.Ic (Nx.refl c0) #[_,_,rfl] hs d;have p:i<c0.st.length:=(df.mp hs).1;show aT f g j k b s c0.σ c0.H Q I #[.ref l,d,h {c0 with S:=λa=>c0.S a\/a∈c0.kid i,st:=c0.st.set i (a5 (.own,.G' ks us))} (.ref l) rfl rfl n o ⟨⟨.own,rfl,dn p⟩,d⟩]
 .show m b s c0.σ c0.H Q I #[c0,rfl,rfl,c,r,st',e,h]
end
section
def gq{st:aq}(h:W (iE i) st Q):∃ks us,st[i]?=a5 (a5 (.A',.G' ks us))/\Q (ks,us) st:=by
 have(r,st',e,q):=h;unfold iE at e;split at e
 .rename_i ks us hs;cases e;show#[ks,us,hs,q]
 .cases e
def gr{st:aq}(h:W (j6 x) st Q):∃y,x.2=.str y/\Q y st:=by
 unfold j6 at h;split at h
 .rename_i y e;rw[ak]at h;show#[y,e,h]
 .show(aX.mp h).elim
def Ok.G'(d:Ok C c)(hi:c.st[i]?=a5 (a5 (.A',.G' ks us))):∃(r:dt) (kvs:List (Key×V)),c.σ[i]?=a5 (a5 (.ref r))/\c.H r=a5 (.dK kvs)/\kvs.map (·.1)=ks.map nT/\kvs.map (·.2)=(c.kid i).map V.ref /\
  (r::c.kid i).Nodup/\dw C c.S c.H us (c.kid i)/\(∀y:Str,(dF kvs (nT y)).isSome=cb (y∈ks))/\∀(y:Str) (u:U),dS ks us y=a5 u->∃v,dF kvs (nT y)=a5 v/\Rep C (λa=>c.S a\/a∈c.kid i) c.H u v:=by
 have(v,e,r,rfl):=d.sl i _ _ hi;have(kvs,j,b,f,k,m,g):=d.dd.kd i _ r hi e;have h:ar C (λa=>c.S a\/a∈c.kid i) c.H us (kvs.map (·.2)):=by rw[f];show g.rep (λa=>.inl) λa l=>.inr l
 show#[r,kvs,e,j,b,f,k,g,λy=>(dO (x:=y) b h).2,λy=>(dO (x:=y) b h).1]
def qf{k:Str->List Str×List U->M β}{Post:β->aq->Prop}{Z:V->V->Hp->Prop}(j:Ok C c0)(h:W (l >>= λx=>j6 x >>= λy=>iE i >>= λd=>k y d) c0.st Post)
  (hz:∀(c:Cf) (y:Str) (ks:List Str) (us:List U) (r:dt) (kvs:List (Key×V)),c.σ=c0.σ->Ok C c->Nx c0 c->c.H r=a5 (.dK kvs)->(dF kvs (nT y)).isSome=cb (y∈ks)->W (k y (ks,us)) c.st Post->Z (.str y) (.ref r) c.H) :
  IH C l c0.σ c0.H λv m=>∃v',c0.σ[i]?=a5 (a5 v')/\Z v v' m:=by
 show#[c0,rfl,rfl,j,?_];rw[ab]at h;show W.mono h λx st' w c v b hs a n r=>?_;subst hs;have(s,t):=x;rw[ab]at w;have(y,e,f):=gr w;clear w
 dsimp only at e r
 subst e;have ev:v=.str y:=r.str a;subst ev;rw[ab]at f;have(ks,us,hs,w):=gq f;have(g,kvs,o,p,_,_,_,_,q,_):=a.G' hs;show#[.ref g,by rw[<-b];show o,hz c y ks us g kvs b a n p (q y) w]
abbrev Ei(neg:Bool):CmpOp:=if neg=a8 then .NotIn else .In
def Ej(b:∀j,ns j=a8->j≠i)(c:X.N.Nodup)(hi:X.N[i]?=a5 x)(d:Loc X.env.scope x)(f:X.fn x=a8\/X.env.scope.names.lookup x=a5 .local)
  (hs:Mu (.Dict [] [] p) (a5 (.Name x pos')) pos.line X.env=pure b6):L2.PS X (.Assign [.Name x pos'] (.Dict [] [] p) pos) (I_ C ns (CA i >>= λ_=>pure .nx)):=by
 rintro a s σ H D I ⟨c0,rfl,rfl,g,h⟩;have k:i<c0.σ.length:=by rw[I.len];show(df.mp hi).1
 show jd c hi d pR hs f a s c0.σ c0.H D I λq l=>?_;have(m,n):=g.newD l k;rw[ab]at h;have(_,st',e,w):=h;cases e;rw[ak]at w;show w _ rfl m n #[λj o=>ez (pq (b j o)),by simp]
end
section
def Bw(G:X.A.units+60<Kc)(p:X.N[i]?=a5 x)(q:JL X.env.scope x)(t:(x==("__debug__":Str))=b6)(u:(x==("__classdict__":Str))=b6)(v:PE X a (IH C D))(z:NR (Ei neg) (.Name x p2)=b6):
  PT X (.Compare a [Ei neg] [.Name x p2] pos) (J1 C (D >>= λx=>j6 x >>= λy=>iE i >>= λd=>pure (TC neg y d.1))):=by
 rintro e s σ H Q I ⟨c0,rfl,rfl,B,h⟩;cases neg with
 |false =>
  show qT (DE ⋯ v (aT p q t u)) z e s c0.σ c0.H Q I (qf (Z:=λy x f=>∃a o,x=V.ref a/\fb f a y o/\∃b,V.bl o.isSome=.bl b/\Q b f) B h λc y ks us r kvs g j n l m w=>?_);rw[ak]at w;show#[r,_,rfl,fb.k (k:=nT y) l,?_];rw[m];show#[_,rfl,w c g rfl j n]
 |true =>
  show qT (vj ⋯ v (aT p q t u)) z e s c0.σ c0.H Q I (qf (Z:=λy x f=>∃a o,x=V.ref a/\fb f a y o/\∃b,V.bl (!o.isSome)=.bl b/\Q b f) B h λc y ks us r kvs g j n l m w=>?_);rw[ak]at w;show#[r,_,rfl,fb.k (k:=nT y) l,?_];rw[m];show#[_,rfl,w c g rfl j n]
theorem dw.snoc{S:dt->Prop}{a:dt}(b:H a=a5 (.lst vs))(c:ar C S H ys vs):∀{us:List U}{as:List dt},dw C S H us as->dw C S H (us++[.lst ys]) (as++[a])
 |[],as,h=>by cases h;show#[a,[],ys,vs,rfl,rfl,b,c,rfl]
 |u::us,as,h=>by
  have(a',as',d,vs',rfl,e,f,g,i):=h;show#[a',as'++[a],d,vs',rfl,e,f,g,dw.snoc b c i]
def r_{st:aq}(h:W (lp i y r) st Q):∃us ks vs,r=(.own,.lst us)/\st[i]?=a5 (a5 (.A',.G' ks vs))/\y∉ks/\ks.length<cK/\Q () (st.set i (a5 (.A',.G' (ks++[y]) (vs++[.lst us])))):=by
 have(k,u):=r;cases k<;>cases u<;>first|show(aX.mp h).elim|skip
 rename_i us;have(_,st',e,q):=h;unfold lp at e
 dsimp only at e
 split at e
 .rename_i ks vs hs;split at e
  .rename_i hz;cases e;show#[us,ks,vs,rfl,hs,hz.1,hz.2,q]
  .cases e
 .cases e
def Ek{i:Nat}{x:Str}{px:Pos}(hu:X.A.units+60<Kc)(hN:X.N[i]?=a5 x)(hv:JL X.env.scope x)(hd:(x==("__debug__":Str))=b6)(IM:(x==("__classdict__":Str))=b6)
  (ha:PE X a (IH C ma)) (s:PE X b (IH C mb)) (hs:QE [.Subscript (.Name x px) b p] a pos.line X.env=pure b6) (Ot:UX [.Subscript (.Name x px) b p] a X.env=pure bD)
  (u:∀v,RZ (.Subscript (.Name x px) b p) X.env v=(do
   let l <-Ka [v] (sL (.Name x px) X.env)
   let B <-Ka [v,l] (sL b X.env)
   R' p
   Ka [v,l,B] (SF l B v)
   V6 [v,l,B] [])) :
  L2.PS X (.Assign [.Subscript (.Name x px) b p] a pos) (I_ C ns (ma >>= λr=>iE i >>= λ_=>mb >>= λx=>j6 x >>= λy=>lp i y r >>= λ_=>pure .nx)):=by
 show PS.weak (qU ha (xj (aT hN hv hd IM) s (set_dict (X:=X) ⋯) u) hs Ot rfl) ?_;rintro D σ H ⟨c0,rfl,rfl,L,h⟩;show aJ L h λr c v t w=>?_;rw[ab]at w;have(VI,us0,JX,w):=gq w;have(O,Ou,Q,g0,_):=t.ok.G' JX;show#[.ref O,by rw[<-t.hσ];show Q,?_];rw[ab]at w;show#[c,t.hσ,rfl,t.ok,w.mono λy st2 T G vy m e4 n Y r2=>?_];subst e4;rw[ab]at T;have(ky,uy):=y;have(y,ey,w3):=gr T
 dsimp only at ey r2
 subst ey;have ev:vy=.str y:=r2.str n;subst ev;rw[ab]at w3;have(us,ks,vs,I,g,X7,j,q):=r_ w3;subst I;rw[ak]at q;have(r1,kvs,d,g1,g2,g3,g4,g5,g6,_):=n.G' g;have I:r1=O:=by rw[m,<-t.hσ,Q]at d;cases d;rfl
 subst I;have(f,rfl,k1,k2,J,vs',k4,k5):=t.rx.w.on t.ok Y.toNs (m.trans t.hσ.symm);have T9:=t.nx.trans Y;have hl:kvs.length=ks.length:=by have:=ğ H8 g2;simpa using this
 have Ms:dF kvs (nT y)=bD:=by
  have:=g6 y;rw[ě X7]at this;cases hq:dF kvs (nT y) with
  |none=>rfl
  |some _=>rw[hq]at this;cases this
 show#[r1,_,rfl,vg.k (k:=nT y) g1 (by rw[hl];show j),?_];rw[xE _ Ms];have Rm:f∉G.kid i:=λz=>J (.inr #[i,_,_,g,d,.inr z]);have VJ:f≠r1:=λz=>J (.inr #[i,_,_,g,d,.inl z]);have rd:=n.dd.kd i _ _ g d;have fr:=aL.Tx rd;have(Ki,n3):=Ok.yu (H':=upd G.H r1 (.dK (kvs++[(nT y,.ref f)]))) (u':=.G' (ks++[y]) (vs++[.lst us])) (as':=G.kid i++[f]) n T9.toNs g d
  (λa ne=>ai λz=>ne #[_,_,g,d,.inl z]) (λa o e=>by
   by_cases hz:a=r1
   .subst hz;show#[_,aj]
   .rw[ai hz];show#[o,e])
  (λmv=>by
   show#[_,aj,by rw[mu,g2,mu];rfl,by rw[mu,g3,mu];rfl,?_,λa ha=>?_,?_]
   .rw[<-Z8,ri];show#[g4,by simp,λa ha b s=>by
     have:b=f:=by simpa using s
     subst this;rintro rfl;rcases gj.mp ha with z|z
     .show VJ z
     .show Rm z]
   .rw[<-Z8]at ha;rcases i'.mp ha with ha|ha
    .show fr a ha
    .have:a=f:=by simpa using ha
     subst this;have(z1,_,z3,_):=L.eh k1;show#[k2,z3,z1]
   .show dw.snoc (by rw[ai VJ];show k4) (k5.mv mv) (dw.mv mv (λa ha o e=>by
     rw[ai (λz=>(o9.mp g4).1 (by rw[<-z];show ha))];show e) g5))
  (λa ha=>by
   rcases i'.mp ha with ha|ha
   .show .inl ha
   .have:a=f:=by simpa using ha
    subst this;show .inr #[J,k1])
 have z:=q _ rfl Ki n3 (Kept.of m);rw[<-m];show z
theorem dw.at{S:dt->Prop}:∀{ks:List Str}{us:List U}{as:List dt}{kvs:List (Key×V)}{u:U},kvs.map (·.1)=ks.map nT->kvs.map (·.2)=as.map V.ref->as.Nodup->dw C S H us as->dS ks us y=a5 u ->
  ∃a ws ys,dF kvs (nT y)=a5 (.ref a)/\a∈as/\u=.lst ys/\H a=a5 (.lst ws)/\ar C S H ys ws/\∀(H':Hp) (c:List U) (d:List V),Mv S H S H'->H' a=a5 (.lst d)->ar C S H' c d->(∀b∈as,b≠a->H' b=H b)->dw C S H' (j7 ks us y (.lst c)) as
 |[],us,as,kvs,u,_,_,_,_,h=>by cases us<;>cases h
 |k::ks,[],as,kvs,u,_,_,_,_,h=>by cases h
 |k::ks,u0::us,as,kvs,u,f,n,g,hk,h=>by
  have(a,as',ys,ws,rfl,rfl,s,t,v):=hk;cases kvs with
  |nil=>simp at f
  |cons p kvs =>
   rw[gi,gi,PZ]at f n;rw[o9]at g;by_cases i:k=y
   .subst i;simp only[dS,if_true]at h;cases h;show#[a,ws,ys,by rw[eD f.1,n.1],by simp,rfl,s,t,λH' c d j q r l=>?_];simp only[j7,if_true];show#[a,as',c,d,rfl,rfl,q,r,dw.mv j (λb m o e=>by rw[l b (by simp[m]) (λz=>g.1 (z▸m))];show e) v]
   .simp only[dS,Ě i]at h;have(w,A,B,D,x,G,I,J,L):=dw.at f.2 n.2 g.2 v h;show#[w,A,B,?_,by simp[x],G,I,J,λH' c d j q r l=>?_]
    .rw[eE (by rw[f.1];intro z;show i (T5 z))];show D
    .simp only[j7,Ě i];have N:a≠w:=λz=>g.1 (z▸x);show#[a,as',ys,ws,rfl,rfl,by rw[l a (by simp) N];show s,t.mv j,L H' c d j q r λb m=>l b (by simp[m])]
def sd{st:aq}(h:W (lq i y u) st Q):∃ks vs xs,st[i]?=a5 (a5 (.A',.G' ks vs))/\dS ks vs y=a5 (.lst xs)/\xs.length<cK/\Q () (st.set i (a5 (.A',.G' ks (j7 ks vs y (.lst (xs++[u])))))):=by
 have(_,st',e,q):=h;unfold lq at e;split at e
 .rename_i ks vs hs;split at e
  .rename_i xs a;split at e
   .rename_i hz;cases e;show#[ks,vs,xs,hs,a,hz,q]
   .cases e
  .cases e
 .cases e
abbrev vV(C:Ct)(m:M (Kd×U)):TE:=λσ H Q=>∃c0:Cf,c0.σ=σ/\c0.H=H/\Ok C c0/\W m c0.st λr st'=>∀c v,c.σ=σ->c.st=st'->Ok C c->Nx c0 c->(∀a o,c0.H a=a5 o->c.H a=a5 o)->aB C c0 c r.1 r.2 v->Q v c.H
def ng(b:Ok C c0)(h:W (d >>= k) c0.st Post)
  (hz:∀x c v,Og C c0 c x v->(∀a o,c0.H a=a5 o->c.H a=a5 o)->W (k x) c.st Post->Z v c.H):vV C d c0.σ c0.H Z:=by
 rw[ab]at h;show#[c0,rfl,rfl,b,h.mono λx st1 e c1 f g i j l m r1=>hz x c1 f #[g,j,l,r1] m (by rw[i];show e)]
def yw(d:X.N[i]?=a5 x)(f:JL X.env.scope x)(g:(x==("__debug__":Str))=b6)(l:(x==("__classdict__":Str))=b6):PE X (.Name x pos) (vV C (di i)):=by
 show PE.weak (aT d f g l) ?_;rintro σ H Q ⟨c0,rfl,rfl,b,r,st',e,h⟩;unfold di at e;split at e
 .cases e
 .rename_i k u m hs;cases e;have(v,c,a):=b.sl i k u hs;show#[v,c,h c0 v rfl rfl b (Nx.refl c0) (λ_ _ z=>z) ?_];by_cases hk:k.root=a8
  .rw[ę hk];show#[#[k,hk,hs],c]
  .rw[Ě hk];cases k with
   |loc=>show a
   |any=>show a
   |bor j=>show a.elim
   |A'=>show(m rfl).elim
   |_=>show absurd rfl hk
 .cases e
def iL(h:PE X e (tC v))(r:∀S H,Rep C S H u v):PE X e (vV C (pure (.loc,u))):=by
 show PE.weak h ?_;rintro σ H Q ⟨c0,rfl,rfl,a,h⟩;rw[ak]at h;show h c0 v rfl rfl a (Nx.refl c0) (λ_ _ z=>z) (r _ _)
def El(hK:C.K=X.K)(hu:X.A.units+60<Kc)(hN:X.N[i]?=a5 x)(hv:JL X.env.scope x)(hd:(x==("__debug__":Str))=b6)(IM:(x==("__classdict__":Str))=b6)(s:PE X a (vV C ma))(hb:PE X b (IH C mb))(Qg:DC b)
  (Jt:((v3 cpos (il [a] X.env)).all (λx=>!x.1)&&(Om cpos (Jf [] X.env)).all (λx=>x.1.isSome)
   && cb ([a].length+([]:List Ni).length+(if ([]:List Ni).isEmpty then 0 else 1)<30))=a8)
  (II:(apos.endLine==cpos.line)=a8) (Y:il [a] X.env=[(b6,sL a X.env)]) :
  L2.PS X (.Expr (.Call (.Attribute (.Subscript (.Name x px) b p) "append" apos) [a] [] cpos) pos) (I_ C ns (iE i >>= λ_=>mb >>= λx=>j6 x >>= λy=>iE i >>= λd=>if y∈d.1 then(ma >>= λr=>lift r >>= λu=>lq i y u >>= λ_=>pure .nx) else M.fail)):=by
 show PS.weak (eZ (mT PySem.F.plainAttrs_list PySem.F.slot_list_append PySem.F.type_list_append eC (AH ⋯ (aT hN hv hd IM) hb Qg) (bz s cP Y) rfl Jt II Y rfl)) ?_;rintro D σ H ⟨c0,rfl,rfl,ok,h⟩;rw[ab]at h;have(VI,us0,JX,h):=gq h;have(r0,Ou,B,g0,_):=ok.G' JX;show#[.ref r0,B,?_];show aJ ok h λry c vy t w=>?_;rw[ab]at w;have(ky,uy):=ry;have(y,ey,w1):=gr w
 dsimp only at ey
 subst ey;have ev:vy=.str y:=t.rx.str t.ok;subst ev;rw[ab]at w1;have(ks,us,hs,j):=gq w1
 dsimp only at j
 by_cases G:y∈ks
 case neg=>rw[Ě G]at j;show(aX.mp j).elim
 rw[ę G]at j;have(r1,kvs,f1,g1,g2,g3,g4,g5,g6,_):=t.ok.G' hs;have I:r1=r0:=by rw[t.hσ,B]at f1;cases f1;rfl
 subst I;have NF:=g6 y;rw[Ĝ G]at NF;have(v0,m):=N8.mp NF;have Kv:v0∈(c.kid i).map V.ref:=by
  rw[<-g3];unfold dF at m;have(q,hq,rfl):=dV.mp m;show Ol (List.mem_of_find?_eq_some hq)
 have(f,X_,rfl):=kj.mp Kv;have(Lh,Ua):=g5.mem X_;show#[r1,.ref f,rfl,by rw[<-m];show fb.k (k:=nT y) g1,Or.inl #[rfl,Lh,.inl (.inl Ua)],?_];rw[<-t.hσ];show ng t.ok j λr g v t' vL w3=>?_;rw[ab]at w3;have(S',st',u,sS,J,n1,l,w4,_,_):=ff t.ok t'.ok t'.nx t'.rx.w w3;rw[ab]at w4;have(VL,vs',xs,n,hx,hz,q):=sd w4;rw[ak]at q;have(r2,L,k1,k2,k3,k4,O,k6,_,_):=J.G' n;have VM:g.σ[i]?=a5 (a5 (.ref r2)):=k1;have I:r2=r1:=by rw[t'.hσ,t.hσ,B]at VM;cases VM;rfl
 subst I;have Ya:g.H r2=a5 (.dK L):=k2;have Ub:L=kvs:=by have:=vL _ _ g1;rw[Ya]at this;cases this;rfl
 subst Ub;have nd:=(o9.mp O).2;have(a2,ws,ys,l1,l2,l3,l4,l5,l6):=dw.at k3 k4 nd k6 hx;cases l3;rw[m]at l1;cases l1;have Yb:g.H f=a5 (.lst ws):=l4;show#[f,ws,v,rfl,rfl,Yb,by rw[<-l5.len];show hz,?_];have JS:f≠r2:=λz=>(o9.mp O).1 (z▸l2);have(Jb,n2):=Ok.yu (c:={g with S:=S',st:=st' }) (H':=upd g.H f (.lst (ws++[v]))) (u':=.G' VL (j7 VL vs' y (.lst (xs++[u])))) (as':=g.kid i) J (t.nx.trans n1).toNs n k1
  (λa Q=>ai λz=>Q #[_,_,n,k1,.inr (z▸l2)]) (λa o e=>by
   by_cases hz:a=f
   .subst hz;show#[_,aj]
   .rw[ai hz];show#[o,e])
  (λT=>#[L,by rw[ai (pq JS)];show k2,k3,k4,O,aL.Tx (J.dd.kd i _ _ n k1),l6 _ _ _ T aj ((l5.mv T).snoc (l.mv T)) λb _ Q=>ai Q])
  (λa s=>.inl s)
 have z:=q _ rfl Jb n2 (Kept.of (t'.hσ.trans t.hσ));rw[<-t'.hσ];show z
end
section
def yx{st:aq}(h:W (TF u) st Q):∃ks us,u=.G' ks us/\Q () st:=by
 cases u<;>first|show(aX.mp h).elim|skip
 show#[_,_,rfl,ak.mp h]
def nh{st:aq}(h:W (vI x) st Q):∃j,x.2=.int j/\Q j st:=by
 unfold vI at h;split at h
 .rename_i y e;rw[ak]at h;show#[y,e,h]
 .show(aX.mp h).elim
def ni{st:aq}(h:W (p_ i) st Q):∃k us,k.root=a8/\st[i]?=a5 (a5 (k,.lst us))/\Q us st:=by
 have(r,st',e,q):=h;unfold p_ at e;split at e
 .rename_i k us hs;split at e
  .rename_i hk;cases e;show#[k,_,hk,hs,q]
  .cases e
 .cases e
theorem qg:∀{ks:List Str}{us:List U},y∈ks->ks.length=us.length->dS ks us y=bD->False
 |[],us,h,_,_=>by cases h
 |k::ks,[],_,h,_=>by simp at h
 |k::ks,u::us,h,hl,e=>by
  by_cases hk:k=y
  .simp[dS,hk]at e
  .simp only[dS,Ě hk]at e;rcases gj.mp h with h|h
   .show hk h.symm
   .show qg h (by simpa using hl) e
def yy{i:Nat}{x:Str}{px:Pos}(hu:X.A.units+60<Kc)(hN:X.N[i]?=a5 x)(hv:JL X.env.scope x)(hd:(x==("__debug__":Str))=b6)(IM:(x==("__classdict__":Str))=b6)
  (ha:PE X a (IH C ma)) (hb:PE X b (IH C mb)) (hm:M2 X (.Name x px) "get" apos a b cpos) :
  PE X (.Call (.Attribute (.Name x px) "get" apos) [a,b] [] cpos) (IH C (di i >>= λx=>TF x.2 >>= λ_=>ma >>= λy=>j6 y >>= λy=>mb >>= λz=>lift z >>= λu=>di i >>= λx=>M.Jd (A0 x y u))):=by
 rintro e s σ H Q I ⟨c0,rfl,rfl,o,h⟩;show xH ⋯ (aT hN hv hd IM) ha hb hm e s c0.σ c0.H Q I ?_;rw[ab]at h;have(k0,u0,Uc,JX,h):=dP h;have(v0,D,t0):=o.slot Uc JX;rw[ab]at h;have(VI,us0,G,h'):=yx h
 dsimp only at G
 subst G;have(p,Ou,rfl,g0,_):=t0.dict o;show#[.ref p,D,p,rfl,.inl #[Ou,.inl g0],?_];show aJ o h' λry c vy t w=>?_;rw[ab]at w;have(ky,uy):=ry;have(y,J,w1):=gr w
 dsimp only at J
 subst J;have ev:vy=.str y:=t.rx.str t.ok;subst ev;rw[<-t.hσ];show aJ t.ok w1 λz f vz g L=>?_;rw[ab]at L;have(S',st',u,sS,B,n1,j,O,_,_):=ff t.ok g.ok g.nx g.rx.w L;rw[ab]at O;have(k,u1,Yc,Kx,w5):=dP O;have(r,d,q):=cq.mp w5;have(v1,e1,t1):=B.slot Yc Kx;have T:f.σ[i]?=a5 (a5 v1):=e1;rw[g.hσ,t.hσ,D]at T;cases T;cases u1<;>first|(simp only[A0]at d;cases d;done)|skip
 rename_i ks us;have(a1,kvs,ea,g1,Y,g3):=t1.dict B;cases ea;have LQ:f.H p=a5 (.dK kvs):=g1;show#[_,fb.k (k:=nT y) LQ,?_];simp only[A0]at d;have(l1,l2):=dO (x:=y) Y g3;have l:∀v:V,aB C c0 {f with S:=S',st:=st' } r.1 r.2 v->Q v f.H:=λv z=>q {f with S:=S',st:=st' } v (g.hσ.trans t.hσ) rfl B (t.nx.trans n1) z;cases n:dS ks us y with
 |some w =>
  rw[n]at d;cases d;have(v,ev,rv):=l1 w n;rw[ev];show l v ?_;show aB.item (k:=if k.root=a8 then .bor i else k) rv
 |none =>
  rw[n]at d;cases d;have Ms:dF kvs (nT y)=bD:=by
   cases hq:dF kvs (nT y) with
   |none=>rfl
   |some v =>
    exfalso
    rw[hq]at l2;have hy:y∈ks:=by simpa using l2.symm
    have m:ks.length=us.length:=by have h1:=ğ H8 Y;have h2:=g3.len;simp at h1 h2;lia
    show qg hy m n
  rw[Ms];show l vz j
def yz:Fw X (λo i H Q=>∃p xs j v,o=.ref p/\i=.int j/\H p=a5 (.lst xs)/\0<=j/\xs[j.toNat]?=a5 v/\Q v H):=by
 rintro a s σ H o i k l Q I c d ⟨p,xs,j,v,rfl,rfl,e,f,b,q⟩;cases c;have(t,rfl):=d;have(m,r,pl,hz):=I.list (.inl (.inl e));have(w,g,h):=r.get b;have hl:=r.length;have n:=fJ;have u:=(df.mp b).1;show wpAny_getItem_list pl.isList f ⋯ (by simpa using g) #[v,H,I,h,q]
def Bx:QP X (if sub=a8 then .Sub else .Add) (R_ (vJ sub)):=by
 cases sub with
 |true=>show Dk
 |false=>show Dj
def Gm(hN:X.N[i]?=a5 x)(hv:JL X.env.scope x)(hd:(x==("__debug__":Str))=b6)(IM:(x==("__classdict__":Str))=b6)
  (ha:PE X a (vV C ma)) (hb:PE X b (IH C mb))
  (n:∀f g new,Đ b f g new=(do Ka [new,f,g] (SF f g new);V6 [new,f,g] [];pure .next)) :
  L2.PS X (.AugAssign (.Subscript (.Name x px) b p) (if sub=a8 then .Sub else .Add) a pos) (I_ C ns (p_ i >>= λ_=>mb >>= λy=>vI y >>= λj=>p_ i >>= λus=>M.Jd (qb us j) >>= λo=>ma >>= λz=>vI z >>= λw=>modS i (fH (.int j) (.int (vJ sub o w))) >>= λ_=>pure .nx)):=by
 show PS.weak (Ap (aT hN hv hd IM) hb yz ha Bx set_list n) ?_;rintro D σ H ⟨c0,rfl,rfl,v,h⟩;rw[ab]at h;have(k0,us0,Nc,JX,h):=ni h;have(v0,r,LA):=v.sl i _ _ JX;have(e,rfl,_,_,_,_):=LA.rt Nc;show#[.ref e,r,?_];show aJ v h λry c vy t w=>?_;rw[ab]at w;have(ky,uy):=ry;have(j,A,B):=nh w
 dsimp only at A
 subst A;have ev:vy=.int j:=t.rx.int t.ok;subst ev;rw[ab]at B;have(k1,ZQ,Tv,Kx,G):=ni B;rw[ab]at G;have(o,ho,w3):=cq.mp G;have(v1,I,Yd):=t.ok.sl i _ _ Kx;have(a1,rfl,_,_,_,Qh):=Yd.rt Tv;rw[t.hσ,r]at I;cases I;have(vs,J,g2):=Qh;unfold qb at ho;split at ho
 case isFalse=>cases ho
 rename_i Ro;split at ho
 case h_2=>cases ho
 rename_i o' Ud;cases ho;have(vo,Ye,Yf):=g2.get Ud;have Yg:vo=.int o:=Yf;subst Yg;show#[e,vs,j,_,rfl,rfl,J,Ro,Ye,?_];rw[<-t.hσ];show ng t.ok w3 λz s vz d all2 L=>?_;rw[ab]at L;have(kz,uz):=z;have(w,O,Q):=nh L
 dsimp only at O
 subst O;have ev:vz=.int w:=d.rx.int d.ok;subst ev;show#[o,w,rfl,rfl,?_];rw[ab]at Q;have(k,u1,u2,hk,T,l,q):=gn Q;rw[ak]at q;have(v2,u,Nm):=d.ok.sl i _ _ T;have(a2,rfl,_,_,_,Qi):=Nm.rt hk;have Yh:=u;rw[d.hσ,t.hσ,r]at u;cases u;have Y:s.H e=a5 (.lst vs):=all2 _ _ J;cases u1 with
 |lst xs =>
  simp only[fH,dV]at l;have(m,LD,rfl):=l;have(VO,l1,l2):=Qi;rw[Y]at l1;cases l1;show#[e,vs,j,m,rfl,rfl,Y,by rw[<-l2.len];show LD,?_];have(Ki,n3):=Ok.mod (c:=s) (H':=upd s.H e (.lst (vs.set m (.int (vJ sub o w))))) (u':=.lst (xs.set m (.int (vJ sub o w)))) d.ok (t.nx.trans d.nx).toNs hk T Yh (λa ne=>ai ne) ⟨_,aj⟩ λmv=>#[_,aj,(l2.mv mv).set m rfl]
  have z:=q _ rfl Ki n3 (Kept.of (d.hσ.trans t.hσ));rw[<-d.hσ];show z
 |G' ks vs=>simp[fH]at l
 |_=>simp[fH]at l
end
section
def By{ks:List Str}(c:kvs.map (·.1)=ks.map nT)(d:kvs.map (·.2)=ns.map V.int):kvs=(ks.zip ns).map λp=>((nT p.1:Key),V.int p.2):=by
 induction kvs generalizing ks ns with
 |nil =>
  cases ks with
  |nil=>rfl
  |cons _ _=>cases c
 |cons kv kvs e =>
  cases ks with
  |nil=>cases c
  |cons k ks =>
   cases ns with
   |nil=>cases d
   |cons n ns =>
    have(a,b):=kv;simp only[gi,PZ]at c d;have(rfl,c):=c;have(rfl,d):=d;rw[e c d];rfl
theorem ar.of_map{S:dt->Prop}{f:α->U}{g:α->V}:∀{l:List α},(∀x∈l,Rep C S H (f x) (g x))->ar C S H (l.map f) (l.map g)
 |[],_=>rfl
 |x::l,h=>#[g x,l.map g,rfl,h x (by simp),ar.of_map λy a=>h y (by simp[a])]
def Bz(G:X.calm=a8)(hK:C.K=X.K)(J:Gl X "sorted")(O:X.mg "sorted"=bD)(Y:X.N[i]?=a5 x)(hv:JL X.env.scope x)(hd:(x==("__debug__":Str))=b6)(IM:(x==("__classdict__":Str))=b6)(II:(apos.endLine==cpos.line)=a8):
  PE X (.Call (.Name "sorted" p) [.Call (.Attribute (.Name x px) "items" apos) [] [] cpos] [] pos) (IH C (di i >>= λx=>M.Jd (x8 x.2))):=by
 rintro c s σ H Q I ⟨c0,rfl,rfl,k,h⟩;show tj (dQ I J O (show zr "sorted"=a5 (.builtin "sorted") by decide +kernel) ?_ (by decide +kernel) (by decide +kernel));rw[ab]at h;have(k0,u0,Uc,JX,h):=dP h;have(v0,e0,t0):=k.slot Uc JX;have(r,b,g):=cq.mp h
 dsimp only at b
 unfold x8 at b;split at b
 rotate_left
 .cases b
 rename_i ks us;rw[ki]at b;have(ns,en,b):=b;split at b
 rotate_left
 .cases b
 rename_i Ue;cases b;have(MX,I0,n):=Ue;have(d,kvs,rfl,q,Nc,t):=t0.dict k;rw[jL en]at t;have Ub:=By Nc (ar.ints t);subst Ub;have ek:((ks.zip ns).map (·.1))=ks:=Z4 ⋯;have f:gm (i4 X.prog X.w) X.A (sL (.Call (.Attribute (.Name x px) "items" apos) [] [] cpos) X.env) (λv s1=>gm (i4 X.prog X.w) X.A (MN (.builtin "sorted") [v]) (EP X c c0.σ Q) X.xe s1) X.xe s:=by
  show Y6 rfl II (ID (aT Y hv hd IM c s c0.σ c0.H (λv u=>v=.ref d/\u=c0.H) I ⟨_,e0,rfl,rfl⟩) λv s1 Ug=>?_);have(x1,u,B,r1,z1,z2):=Ug;subst z1 z2;cases(show v=kl d from r1);have(h1,h2):=oj (T:="dict") B (x:=.ref d) rfl (.inr (.inr (.inl #[rfl,.inl #[_,q]])));show#["dict","dict.items",PySem.F.plainAttrs_dict,PySem.F.slot_dict_items,PySem.F.type_dict_items,h1,h2,JU rfl (PySem.evalArgs_none (oE G B q (by rw[ek];show I0) (by rw[Vr];lia) λas L hl nd D hL=>?_))];have l:c0.H L=bD:=D L (by simp);have Yi:(as.zip ((ks.zip ns).map MD)).map (·.1)=as:=Z4 (by rw[cN];lia);have Yj:∀p∈as.zip ((ks.zip ns).map MD),p.1∈as:=λp m=>(Qu m).1;have same:rB c0.H (upd (jZ c0.H (as.zip ((ks.zip ns).map MD))) L (.lst ((jX ((ks.zip ns).map (·.1))).map λi=>V.ref (as.getD i 0)))):=λa o e=>by
   have n1:a≠L:=λy=>by rw[y,l]at e;cases e
   rw[ai n1,k_ λp m y=>?_]
   .show e
   .have:=D p.1 (by simp[Yj p m]);rw[y,e]at this;cases this
  have(IL,n'):=k.grow (S':=c0.S) same (λa z=>.inl z) λa z=>z;have(q1,q2,q3,q4,q5):=k.eh l;show g {c0 with H:=upd (jZ c0.H (as.zip ((ks.zip ns).map MD))) L (.lst ((jX ((ks.zip ns).map (·.1))).map λi=>V.ref (as.getD i 0))),S:=c0.S} _ rfl rfl IL n' ⟨L,rfl,l,q2,q5,_,aj,?_⟩;change ar C c0.S _ ((AY (ks.zip ns)).map vF) _;unfold AY;rw[ke];show ar.of_map λj hj=>?_;have LD:j<(ks.zip ns).length:=by
   have:=va.mp ((gh _).mem_iff.mp hj);rw[cN]at this;show this
  have Tu:j<as.length:=by lia
  have e1:(ks.zip ns).getD j (td,0)=(ks.zip ns)[j]:=(List.getElem_eq_getD _).symm;have e2:as.getD j 0=as[j]:=by simp[K1,Tu]
  change Rep C c0.S _ (vF ((ks.zip ns).getD j (td,0))) (V.ref (as.getD j 0));rw[e1,e2];show#[as[j],MD (ks.zip ns)[j],rfl,Ji.of ?_,#[_,_,rfl,rfl,_,_,rfl,rfl,rfl]];have JS:as[j]≠L:=λy=>hL (by rw[<-y];simp);show(ai JS).trans (tT (by rw[Yi];show nd) (vs:=MD (ks.zip ns)[j]) ?_);show SA.mpr #[j,by rw[Vr,cN];lia,?_];rw[List.getElem_zip,Z5]
 have eb:v3 pos (il [.Call (.Attribute (.Name x px) "items" apos) [] [] cpos] X.env)=[(b6,sL (.Call (.Attribute (.Name x px) "items" apos) [] [] cpos) X.env)]:=rfl;have Yk:Om pos (Jf [] X.env)=[]:=rfl;rw[eb,Yk];show yi f
end
section
variable{X:Cx}{C:Ct}{a:lx}{ma:M (Kd×U)}{apos cpos:Pos}{i:Nat}{x:Str}{px:Pos}
def Ok.Gn(b:Ok C c)(hk:k.root=a8)(hs:c.st[i]?=a5 (a5 (k,.lst us))):∃a vs,c.σ[i]?=a5 (a5 (.ref a))/\c.H a=a5 (.lst vs)/\ar C c.S c.H us vs:=by
 have(v,d,e):=b.sl i k _ hs;have(r,rfl,_,_,_,vs,f,g):=e.rt hk;show#[r,vs,d,f,g]
def Ok.out(b:Ok C c)(n:Nx c0 c)(g:c.σ=c0.σ)(hk:k.root=a8)(hs:c.st[i]?=a5 (a5 (k,.lst us)))(d:c.σ[i]?=a5 (a5 (.ref r)))(h:ar C c.S c.H us' vs')(j:Rep C c.S c.H u v)(w:b_ C c0 Q (.loc,u) (c.st.set i (a5 (k,.lst us')))):Q v (upd c.H r (.lst vs')):=by
 have l:Mv c.S c.H c.S (upd c.H r (.lst vs')):=by
  have(v',f,m):=b.sl i k _ hs;rw[d]at f;cases f;have(J,p,q,_,_,s):=m.rt hk;cases p;have(o,ho,y):=s.some;show#[λ_ z=>z,λa o' e t=>by rw[ai (λz=>by subst z;rw[ho]at e;cases e;show y t)];show e,λa o' z e=>by rw[ai (λA=>by subst A;show q z)];show e]
 have(B,D):=b.mod (H':=upd c.H r (.lst vs')) (u':=.lst us') n.toNs hk hs d (λa G=>ai G) ⟨_,aj⟩ λI=>#[vs',aj,h.mv I]
 show w {c with H:=upd c.H r (.lst vs'),st:=c.st.set i (a5 (k,.lst us'))} v g rfl B ⟨D⟩ (j.mv l)
def BA(g:X.N[i]?=a5 x)(j:JL X.env.scope x)(l:(x==("__debug__":Str))=b6)(m:(x==("__classdict__":Str))=b6)(n:(apos.endLine==cpos.line)=a8)(o:C.K=X.K):
  PE X (.Call (.Attribute (.Name x px) "pop" apos) [] [] cpos) (IH C (x_ i)):=by
 show PE.weak (xA PySem.F.plainAttrs_list PySem.F.slot_list_pop PySem.F.type_list_pop xC (aT g j l m) rfl n) ?_;rintro σ H Q ⟨c0,rfl,rfl,c,h⟩;have(r,st',e,w):=h;unfold x_ at e;split at e
 .rename_i k us hs;split at e
  .rename_i hk;split at e
   .rename_i u q;cases e;have(p,vs,d,f,b):=c.Gn hk hs;have(v,s,t):=b.get q;have hl:=b.len;show#[_,d,.inl #[rfl,vs,o▸Jk.of f],p,vs,v,rfl,rfl,f,by rw[<-hl];show s,?_];show c.out (Nx.refl c0) rfl hk hs d ?_ t w;rw[PY,PY,hl];show b.take _
   .cases e
  .cases e
 .cases e
end
@[reducible]noncomputable def LR(P:ux)(w:wh)(K:PySem.W.Frag)(H:Hp)(Pr IO:dt->Prop):Ct:=#[P,w,K,H,Pr,IO,λ_ _=>False]
theorem map_inj:∀{l:List α},(l.map f).Nodup->∀x∈l,∀y∈l,f x=f y->x=y
 |[],_,_,h,_,_,_=>by cases h
 |a::l,h,x,g,y,c,e=>by
  rw[gi,o9]at h;rcases gj.mp g with d|h1
  .rcases gj.mp c with b|h2
   .rw[d,b]
   .show absurd (kj.mpr #[y,h2,by rw[<-e,d]]) h.1
  .rcases gj.mp c with b|h2
   .show absurd (kj.mpr #[x,h1,by rw[e,b]]) h.1
   .show map_inj h.2 x h1 y h2 e
section
def vW(h:gT rs p=a5 j):∃us,rs[p]?=a5 (.bor j,.lst us):=by
 unfold gT at h;split at h
 .cases h;show#[_,by assumption]
 .cases h
def Jz.Rp(t:Jz C c0 c rs vs){i:Nat}(h:rs[i]?=a5 r):∃v,vs[i]?=a5 v/\aB C c0 c r.1 r.2 v:=by
 have d:∀(l:List (Kd×U)) (w:List V),cu C c0 c l w->aY l c.st->∀(i:Nat) (r:Kd×U),l[i]?=a5 r->∃v,w[i]?=a5 v/\aB C c0 c r.1 r.2 v:=by
  intro l;induction l with
  |nil=>intro w _ _ i r e;simp at e
  |cons x l f =>
   intro w h hs i r e;have(v,t',rfl,g,j,_):=h;rw[dN]at hs;cases i with
   |zero=>simp at e;subst e;show#[v,rfl,g.t hs.1]
   |succ i=>have(v',a,b):=f t' j hs.2 i r (by simpa using e);show#[v',by simpa using a,b]
 show d rs vs t.rep t.MF i r h
def Jz.len(t:Jz C c0 c rs vs):rs.length=vs.length:=by
 have:=t.read.len;rw[cN]at this;show this
theorem t8(q:C'.Eqv C){vs:List V}(hs:∀a,S' a->S1 a){IO:dt->Prop}(O:∀a,S' a->¬IO a)(A:∀a o,IO a->H' a=a5 o->¬Tp o):
  ∀(ps:List Nat) (ws:List U) (c:Cf) (st':aq),Ok C c->Ns c1 c->c.S=S1->jJ rs ps ws c.st=a5 st'->(ps.map (gT rs)).Nodup->(∀p∈ps,∀a,vs[p]?=a5 (.ref a)->IO a) ->
  (∀p∈ps,∀j,gT rs p=a5 j->∃k u r,k.root=a8/\c.st[j]?=a5 (a5 (k,u))/\c.σ[j]?=a5 (a5 (.ref r))/\vs[p]?=a5 (.ref r)) ->
  (∀(n p:Nat) (r:dt) (w:U),ps[n]?=a5 p->vs[p]?=a5 (.ref r)->ws[n]?=a5 w->cC C' S' H' r w)->(∀a,(∀p∈ps,vs[p]?≠a5 (.ref a))->c.H a=H' a)->(∀a,¬IO a->c.H a=H' a) ->
  ∃g:Cf,Ok C g/\Ns c1 g/\g.σ=c.σ/\g.S=S1/\g.st=st'/\g.H=H'/\g.kid=c.kid/\∀(j:Nat) (k:Kd) (u:U),g.st[j]?=a5 (a5 (k,u))->∃u0,c.st[j]?=a5 (a5 (k,u0))
 |[],ws,c,st',B,n,y,e,_,_,_,_,D,_=>by
  cases ws with
  |nil=>cases e;show#[c,B,n,rfl,y,rfl,funext λa=>D a λp hp=>(by cases hp),rfl,λj k u e=>#[u,e]]
  |cons _ _=>cases e
 |p::ps,ws,c,st',B,n,y,e,G,Q,T,rt,D,I=>by
  cases ws with
  |nil=>cases e
  |cons w ws =>
   simp only[jJ]at e;split at e
   .rename_i j Y;split at e
    .rename_i us k0 ZR IB;have(k,u,r,hk,s,e2,J):=T p (by simp) j Y;rw[IB]at s;cases s;have s:=IB;have hr:=rt 0 p r _ rfl J rfl;have(xs,g1,g2):=hr;have L:IO r:=Q p (by simp) r J;rw[gi,o9]at G;have(IL,n'):=B.mod (H':=upd c.H r (.lst xs)) (u':=.lst us) n hk s e2 (λa v=>ai v) ⟨_,aj⟩ (λ_=>#[xs,aj,by
      show(g2.cg q).mv #[λa z=>by rw[y];show hs a z,λa o h tp=>?_,λa o z h=>?_]
      .by_cases l:a=r
       .subst l;show absurd tp (A a o L h)
       .rw[ai l];by_cases x:IO a
        .show absurd tp (A a o x h)
        .rw[I a x];show h
      .have x:=O a z;have l:a≠r:=λe=>x (e▸L);rw[ai l,I a x];show h])
     have Jp:j<c.st.length:=(df.mp s).1;have A1:∀f∈ps,∀t,gT rs f=a5 t->∃k u r,Kd.root k=a8/\(c.st.set j (a5 (k0,.lst us)))[t]?=a5 (a5 (k,u))/\c.σ[t]?=a5 (a5 (.ref r))/\vs[f]?=a5 (.ref r):=λf hp t LD=>by
      have(k',u',N,a1,a2,a3,a4):=T f (by simp[hp]) t LD;have v:j≠t:=λz=>G.1 (kj.mpr #[f,hp,by rw[LD,Y,z]]);show#[k',u',N,a1,by rw[ez v];show a2,a3,a4]
     have A2:∀a,(∀f∈ps,vs[f]?≠a5 (.ref a))->upd c.H r (.lst xs) a=H' a:=λa l=>by
      by_cases h:a=r
      .subst h;rw[aj,g1]
      .rw[ai h];show D a λf hp z=>?_;rcases gj.mp hp with rfl|hp
       .rw[J]at z;cases z;show h rfl
       .show l f hp z
     have A3:∀a,¬IO a->upd c.H r (.lst xs) a=H' a:=λa l=>by
      have v:a≠r:=λz=>l (by rw[z];show L);rw[ai v];show I a l
     have(g,f1,f2,f3,f4,f5,f6,f7,f8):=t8 q hs O A ps ws {c with H:=upd c.H r (.lst xs),st:=c.st.set j (a5 (k0,.lst us))} st' IL n' y e G.2 (λf hp=>Q f (by simp[hp])) A1 (λm f N w' a b d=>rt (m+1) f N w' (by simpa using a) b (by simpa using d)) A2 A3;show#[g,f1,f2,f3,f4,f5,f6,f7,λi k' u' z=>?_];have(u0,z):=f8 i k' u' z;by_cases hi:i=j
     .subst hi;have z:(c.st.set i (a5 (k0,.lst us)))[i]?=_:=z;rw[dn Jp]at z;cases z;show#[_,s]
     .have z:(c.st.set j (a5 (k0,.lst us)))[i]?=_:=z;rw[ez (pq hi)]at z;show#[u0,z]
    .cases e
   .cases e
end
section
def BB(st:aq)(r:Kd×U):(gU st r).1=r.1:=by
 unfold gU;split<;>rfl
theorem cu.VQ{st:aq}:∀{rs:List (Kd×U)}{vs:List V},cu C c0 c rs vs->cu C c0 c (rs.map (gU st)) vs
 |[],_,h=>h
 |r::rs,vs,h=>by
  have(v,t,rfl,d,e,f):=h;show#[v,t,rfl,?_,cu.VQ e,λhk i l v' a g b=>?_]
  .have(k,u):=r;cases k<;>show d
  .rw[nc,dV]at a;have(j,a,rfl):=a;rw[BB]at hk b;show f hk i j v' a g b
end
structure LU(K:PySem.W.Frag)(cl:dt):Prop where
 hc:Lv K cl
 cls:MT K cl
 nr:fK K cl "rows"
 ne:fK K cl "earlier"
theorem qh:∀{us:List U},cZ us=a8↔∀u∈us,IQ u=a8
 |[]=>by simp[cZ]
 |u::us=>by rw[cZ,b5,qh];simp
section
variable{X:Cx}{C:Ct}{pins:List (dt×Obj)}{s:hQ}{c0 c c1:Cf}{i:Nat}{x:Str}{px apos p1 p2 pos cpos:Pos}{u:U}{us:List U}
def Ok.jn(d:Ok C c)(hs:c.st[i]?=a5 (a5 (.A',.ob u us))):∃r cl b v a vs,c.σ[i]?=a5 (a5 (.ref r))/\c.kid i=[a]/\Lw C c.S c.H r a u us cl b v vs:=by
 have(h,e,r,rfl):=d.sl i _ _ hs;have(cl,b,v,a,vs,f,g):=d.dd.kd i _ r hs e;show#[r,cl,b,v,a,vs,e,f,g]
def Lv.one{K:PySem.W.Frag}(h:Lv K cl)(h':Lv K a):cl=a:=by
 rw[Lv,show PySem.W.nsIn K mx "Shelf"=_ from h']at h;cases h;rfl
def dU{st:aq}(h:W (Kh i) st Q):∃u us,st[i]?=a5 (a5 (.A',.ob u us))/\Q (u,us) st:=by
 have(p,st',e,h):=h;unfold Kh at e;split at e
 .rename_i u us hs;cases e;show#[u,us,hs,h]
 .cases e
def qi{st:aq}(h:W (M9 i f) st Q):∃u us w ws,st[i]?=a5 (a5 (.A',.ob u us))/\f u us=a5 (w,ws)/\IQ w=a8/\cZ ws=a8/\Q () (st.set i (a5 (.A',.ob w ws))):=by
 have(p,st',e,h):=h;unfold M9 at e;split at e
 .rename_i u us hs;split at e
  .rename_i w ws a;split at e
   .rename_i z;cases e;show#[u,us,w,ws,hs,a,z.1,z.2,h]
   .cases e
  .cases e
 .cases e
def yA(K:LU X.K cl)(d:C.K=X.K)(e:X.N[i]?=a5 x)(f:JL X.env.scope x)(g:(x==("__debug__":Str))=b6)(j:(x==("__classdict__":Str))=b6):
  PE X (.Attribute (.Name x px) "rows" pos) (IH C (Kh i >>= λp=>pure (.loc,p.1))):=by
 show PE.weak (rb (aT e f g j) rfl) ?_;rintro σ H Q ⟨c0,rfl,rfl,b,h⟩;rw[ab]at h;have(u,us,hs,h):=dU h;have(r,m,k,v,a,vs,l,_,o):=b.jn hs;cases(K.hc).one (d▸o.hc);rw[ak]at h;show#[_,l,r,cl,k,_,v,rfl,o.ins,K.cls,K.nr,rfl,h c0 v rfl rfl b (Nx.refl c0) o.rep]
def oN(a:X.N[i]?=a5 x)(b:JL X.env.scope x)(d:(x==("__debug__":Str))=b6)(e:(x==("__classdict__":Str))=b6):PE X (.Attribute (.Name x px) "earlier" pos) (Dt X.K (C8 i) "earlier"):=rb (aT a b d e) rfl
def Lw.Rq{S:dt->Prop}(K:LU X.K cl)(b:C.K=X.K)(o:Lw C S H r a u us f d v vs)(e:σ[i]?=a5 (a5 (V.ref r)))(q:Q (.ref a) H):Dt X.K (C8 i) "earlier" σ H Q:=by
 cases(K.hc).one (b▸o.hc);show#[_,e,r,cl,d,_,_,rfl,o.ins,K.cls,K.ne,rfl,q]
def yB(K:LU X.K cl)(d:C.K=X.K)(e:X.N[i]?=a5 x)(f:JL X.env.scope x)(g:(x==("__debug__":Str))=b6)(j:(x==("__classdict__":Str))=b6)(k:Gl X "len")(l:X.mg "len"=bD):
  PE X (.Call (.Name "len" p1) [.Attribute (.Name x px) "earlier" pos] [] cpos) (IH C (Kh i >>= λp=>pure (.loc,.int (p.2.length:Nat)))):=by
 show PE.weak (xv dE k l PySem.boot_len (bz (oN e f g j) cP)) ?_;rintro σ H Q ⟨c0,rfl,rfl,b,h⟩;rw[ab]at h;have(u,us,hs,h):=dU h;have(r,n,q,v,a,vs,m,_,o):=b.jn hs;rw[ak]at h;show o.Rq K d m #[a,vs,rfl,.inl (Jk.of o.lst),?_];rw[<-o.JT.len];show h c0 _ rfl rfl b (Nx.refl c0) rfl
def yC(K:LU X.K cl)(d:C.K=X.K)(hu:X.A.units+60<Kc)(k:X.N[i]?=a5 x)(m:JL X.env.scope x)(q:(x==("__debug__":Str))=b6)(t:(x==("__classdict__":Str))=b6):
  PT X (.Compare (.Attribute (.Name x px) "earlier" p1) [.Eq] [.List [] p2] pos) (J1 C (Kh i >>= λp=>if Jg 50 (.lst p.2)=a8 then pure p.2.isEmpty else M.fail)):=by
 rintro pins s σ H Q I ⟨c0,rfl,rfl,b,h⟩;rw[ab]at h;have(u,us,hs,h):=dU h;have(r,LB,dx,v,a,vs,w,_,o):=b.jn hs
 dsimp only at h
 split at h
 rotate_left
 .show(aX.mp h).elim
 rename_i B;rw[ak]at h;show Tg (bin (R:=λx y j=>x=.ref a/\∃l,y=.ref l/\c0.H l=bD/\j=upd c0.H l (.lst [])) (oN k m q t) (xq cP) I (o.Rq K d w #[mh _,λl hl=>#[rfl,l,rfl,hl,rfl]]) λv' u' s2 x y j f D G ⟨J,l,L,hl,O⟩=>?_) rfl;subst J L O;have(T,g):=b.lay (o:=.lst []) hl;have Y:a≠l:=λz=>by have:=o.lst;rw[z,hl]at this;cases this
 have r1:Rep C (λy=>c0.S y\/y=a\/y=l) (upd c0.H l (.lst [])) (.lst us) (.ref a):=#[a,vs,rfl,#[.inr (.inl rfl),by rw[ai Y];show o.lst],o.JT.mv #[λy z=>.inl z,(b.mv g.toNs).Nv,(b.mv g.toNs).P4]]
 have r2:Rep C (λy=>c0.S y\/y=a\/y=l) (upd c0.H l (.lst [])) (.lst []) (.ref l):=#[l,[],rfl,#[.inr (.inr rfl),aj],rfl]
 have z:=(DZ (A:=X.A) (n:=50) (.of f d _ _ _ _ B r1 D) (.of f d _ _ _ _ (by simp[Jg,bS]) r2 G) ⋯).1;show z _ _ _ _ (C1 #[_,f,?_]);have e:bK (.lst us) (.lst [])=us.isEmpty:=by cases us<;>rfl
 rw[e];show h {c0 with H:=upd c0.H l (.lst [])} rfl rfl T g
def Ok.yD(y:Ok C c)(n:Ns c0 c)(hs:c.st[i]?=a5 (a5 (.A',.ob u us)))(f:c.σ[i]?=a5 (a5 (.ref r)))(hk:c.kid i=[a])(o:Lw C c.S c.H r a u us cl g v vs)
 (h:∀b,b≠r->b≠a->H' b=c.H b) (k:H' r=a5 (.ins cl g (Nw v' a))) (l:H' a=a5 (.lst vs')) (A:IQ w=a8) (B:cZ ws=a8) (D:Rep C c.S c.H w v') (rws:ar C c.S c.H ws vs') :
    ∃d:Cf,d.H=H'/\d.σ=c.σ/\d.S=c.S/\d.st=c.st.set i (a5 (.A',.ob w ws))/\Ok C d/\Ns c0 d:=by
  have(G,I):=y.yu (H':=H') (u':=.ob w ws) (as':=[a]) n hs f (λb z=>h b (λq=>z #[_,_,hs,f,.inl q]) λq=>z #[_,_,hs,f,.inr (by rw[hk,q];simp)]) (λb o' e=>by
      by_cases m:b=r
      . subst m;show#[_,k]
      . by_cases p:b=a
        . subst p;show#[_,l]
        . show#[o',by rw[h b m p];show e])
    (λt=>#[cl,g,v',a,vs',rfl,o.hc,k,o.ne,o.fr,A,D.mv t,l,B,rws.mv t]) (λb J=>.inl (by rw[hk];show J))
  show#[{c with H:=H',st:=c.st.set i (a5 (.A',.ob w ws)),kid:=λj=>if j=i then [a] else c.kid j},rfl,rfl,rfl,rfl,G,I]
def yE(K:LU X.K cl)(j:C.K=X.K)(k:X.N[i]?=a5 x)(l:JL X.env.scope x)(m:(x==("__debug__":Str))=b6)(n:(x==("__classdict__":Str))=b6)(p:(apos.endLine==cpos.line)=a8):
  PE X (.Call (.Attribute (.Attribute (.Name x px) "earlier" p1) "pop" apos) [] [] cpos) (IH C (j4 i)):=by
 show PE.weak (xA PySem.F.plainAttrs_list PySem.F.slot_list_pop PySem.F.type_list_pop xC (oN k l m n) rfl p) ?_;rintro σ H Q ⟨c0,rfl,rfl,d,r',st',e,h⟩;unfold j4 at e;split at e
 .rename_i u us hs;split at e
  .rename_i w q;cases e;have(r,LB,dx,v,a,vs,f,hk,o):=d.jn hs;have(y,t,z):=o.JT.get q;have hl:=o.JT.len;show o.Rq K j f #[.inl #[rfl,vs,Jk.of o.lst],a,vs,y,rfl,rfl,o.lst,by rw[<-hl];show t,?_];have A:ar C c0.S c0.H us.dropLast vs.dropLast:=by
    rw[PY,PY,hl];show o.JT.take _
   have B:cZ us.dropLast=a8:=by
    have:=o.Mj;rw[qh]at this ⊢;show λx D=>this x (List.dropLast_subset _ D)
   have(G,I,J,h3,L,O,g):=d.yD (Ns.refl c0) hs f hk o (H':=upd c0.H a (.lst vs.dropLast)) (λb z1 T=>ai T) (by rw[ai o.ne];show o.ins) aj o.im B o.rep A;have Y:=d.mv g;rw[<-I];show h G y J L O #[g] (z.mv Y)
  .cases e
 .cases e
end
section
def Ok.Ie(f:Ok C c)(n:Ns c0 c)(hi:i<c.σ.length)(rd:aL C c.S c.H r as u)(B:∀b∈r::as,¬c.R b/\c0.H b=bD):
  Ok C {c with σ:=c.σ.set i (a5 (.ref r)),st:=c.st.set i (a5 (.A',u)),kid:=λj=>if j=i then as else c.kid j}/\Ns c0 {c with σ:=c.σ.set i (a5 (.ref r)),st:=c.st.set i (a5 (.A',u)),kid:=λj=>if j=i then as else c.kid j}:=by
 have G:i<c.st.length:=by rw[f.len];show hi
 have D:∀(j:Nat) k w,(c.st.set i (a5 (.A',u)))[j]?=a5 (a5 (k,w))->j≠i->c.st[j]?=a5 (a5 (k,w)):=λj k w e I=>by rw[ez (pq I)]at e;show e
 have q:∀(j:Nat),j≠i->(c.σ.set i (a5 (.ref r)))[j]?=c.σ[j]?:=λj I=>ez (pq I);have J:∀(j:Nat) k w,k.root=a8->(c.st.set i (a5 (.A',u)))[j]?=a5 (a5 (k,w))->j≠i/\c.st[j]?=a5 (a5 (k,w)):=λj k w hk e=>by
  by_cases d:j=i
  .subst d;rw[dn G]at e;cases e;cases hk
  .show#[d,D j k w e d]
 have b1:∀a,({c with σ:=c.σ.set i (a5 (.ref r)),st:=c.st.set i (a5 (.A',u)),kid:=λj=>if j=i then as else c.kid j}:Cf).R1 a->c.R1 a:=λa L=>by
  have(j,k,w,hk,g,h):=L;have(d,JJ):=J j k w hk g;show#[j,k,w,hk,JJ,by rw[<-q j d];show h]
 have s:∀j a,({c with σ:=c.σ.set i (a5 (.ref r)),st:=c.st.set i (a5 (.A',u)),kid:=λj=>if j=i then as else c.kid j}:Cf).RD j a->(j≠i/\c.RD j a)\/(j=i/\a∈r::as):=λj a L=>by
  have(w,l,g,h,e3):=L;by_cases d:j=i
  .subst d;have t:(c.σ.set j (a5 (.ref r)))[j]?=a5 (a5 (.ref l)):=h;rw[dn hi]at t;cases t;rcases e3 with rfl|e3
   .show .inr #[rfl,by simp]
   .show .inr #[rfl,ko _ (by simpa using e3)]
  .have MH:a=l\/a∈c.kid j:=by simpa[d] using e3
   show .inl #[d,w,l,D j _ w g d,by rw[<-q j d];show h,MH]
 show#[#[f.same,f.J8,f.par,f.io,by simp[f.len],λj k w e=>?_,λp m k1 k2 O Q l T Y g h e3 e4=>?_,#[λj w l g h=>?_,λp m a N x=>?_,λj a N x=>?_]],#[n.keep,n.there,λa z=>?_,n.sub,n.new]]
 .by_cases d:j=i
  .subst d;rw[dn G]at e;cases e;show#[.ref r,dn hi,r,rfl]
  .have(v,g,h):=f.sl j k w (D j k w e d);show#[v,(q j d).trans g,h]
 .have(NC,a1):=J p k1 O T g;have(Nb,a2):=J m k2 Q Y h;show f.inj p m k1 k2 O Q l T Y a1 a2 ((q p NC).symm.trans e3) ((q m Nb).symm.trans e4)
 .by_cases d:j=i
  .subst d;rw[dn G]at g;cases g;have t:(c.σ.set j (a5 (.ref r)))[j]?=a5 (a5 (.ref l)):=h;rw[dn hi]at t;cases t;change aL C c.S c.H r (if j=j then as else c.kid j) u;rw[ę rfl];show rd
  .have z:=f.dd.kd j w l (D j _ w g d) ((q j d).symm.trans h);change aL C c.S c.H l (if j=i then as else c.kid j) w;rw[Ě d];show z
 .rcases s p a N with⟨_,o⟩|⟨rfl,o⟩
  .rcases s m a x with⟨_,A⟩|⟨rfl,A⟩
   .show f.dd.dj p m a o A
   .show((B a A).1 (.inr #[p,o])).elim
  .rcases s m a x with⟨_,A⟩|⟨rfl,_⟩
   .show((B a o).1 (.inr #[m,A])).elim
   .rfl
 .rcases s j a N with⟨_,o⟩|⟨rfl,o⟩
  .show f.dd.d1 j a o (b1 a x)
  .show(B a o).1 (.inl (b1 a x))
 .rcases z with z|⟨j,z⟩
  .show n.roots a (.inl (b1 a z))
  .rcases s j a z with⟨_,y⟩|⟨_,y⟩
   .show n.roots a (.inr #[j,y])
   .show .inr (B a y).2
def Em(K:LU X.K cl)(y:C.K=X.K)(A:X.N[i]?=a5 x)(B:JL X.env.scope x)(G:(x==("__debug__":Str))=b6)(I:(x==("__classdict__":Str))=b6)(J:PE X e (IH C m))(hs:Mu e (a5 (.Attribute (.Name x px) "rows" L)) pos.line X.env=pure b6):
  L2.PS X (.Assign [.Attribute (.Name x px) "rows" L] e pos) (I_ C ns (m >>= λr=>lift r >>= λu=>M9 i (λ_ us=>a5 (u,us)) >>= λ_=>pure .nx)):=by
 show PS.weak (rf (aT A B G I) J hs) ?_;rintro D σ H ⟨c0,rfl,rfl,j,h⟩;show aJ j h λr c v t w=>?_;rw[ab]at w;have(S',st',u,sS,k,O,d,l,_,_):=ff j t.ok t.nx t.rx.w w;rw[ab]at l;have(u0,us,w',ws,hs,Q,T,i2,q):=qi l;cases Q;rw[ak]at q;have(g,LB,n,Y,a,vs,p,hk,o):=k.jn hs;cases(K.hc).one (y▸o.hc);have JJ:c0.σ[i]?=a5 (a5 (.ref g)):=by rw[<-t.hσ];show p
 show#[_,JJ,g,cl,n,_,rfl,o.ins,K.cls,K.nr,by change 2<1000;lia,?_];have(f,h1,s,h3,h4,IL,n'):=k.yD (c0:=c0) O.toNs hs p hk o (H':=upd c.H g (.ins cl n (d9 "rows" v (Nw Y a)))) (v':=v) (vs':=vs) (λb z1 z2=>ai z1) (by rw[aj];rfl) (by rw[ai (pq o.ne)];show o.lst) T o.Mj d o.JT;have z:=q f h4 IL n' (Kept.of (s.trans t.hσ));rw[show Fin C D .nx f=D.nx f.σ f.H from rfl,h1,s]at z;rw[<-t.hσ];show z
def En(K:LU X.K cl)(g:C.K=X.K)(j:X.N[i]?=a5 x)(k:JL X.env.scope x)(l:(x==("__debug__":Str))=b6)(m:(x==("__classdict__":Str))=b6)(t:(apos.endLine==cpos.line)=a8):
  L2.PS X (.Expr (.Call (.Attribute (.Attribute (.Name x px) "earlier" O) "append" apos) [.Attribute (.Name x p2) "rows" Q] [] cpos) pos) (I_ C ns (M9 i AZ >>= λ_=>pure .nx)):=by
 show PS.weak (eZ (mT PySem.F.plainAttrs_list PySem.F.slot_list_append PySem.F.type_list_append eC (oN j k l m) (bz (rb (f:="rows") (aT j k l m) rfl) cP) rfl rfl t rfl rfl)) ?_;rintro D σ H ⟨c0,rfl,rfl,n,h⟩;rw[ab]at h;have(u,us,w,ws,hs,c,T,y,q):=qi h;unfold AZ at c;split at c
 rotate_left
 .cases c
 rename_i p;cases c;rw[ak]at q;have(r,Y,A,v,a,vs,e,hk,o):=n.jn hs;have hl:=o.JT.len;unfold Cu U_;show o.Rq K g e #[.inl #[rfl,vs,Jk.of o.lst],?_];cases(K.hc).one (g▸o.hc);show#[_,e,r,cl,A,_,v,rfl,o.ins,K.cls,K.nr,rfl,a,vs,v,rfl,rfl,o.lst,⋯,?_];have(d,B,s,h3,G,I,J):=n.yD (c0:=c0) (Ns.refl c0) hs e hk o (H':=upd c0.H a (.lst (vs++[v]))) (λb z1 L=>ai L) (by rw[ai o.ne];show o.ins) aj o.im y o.rep (o.JT.snoc o.rep);have z:=q d G I J (Kept.of s);rw[show Fin C D .nx d=D.nx d.σ d.H from rfl,B,s]at z;show z
abbrev Uk(cl:dt):Sp:=λvs H Q _=>∃x a,vs=[.ref x]/\H x=a5 (.ins cl a [])/\∀t l,H t=bD->H l=bD->t≠l->Q .IC (upd (upd (upd H t (.tup [])) l (.lst [])) x (.ins cl a (Nw (.ref t) l)))
end
abbrev VR:lx->Bool
 |.Name a _=>cb (a="self")
 |_=>b6
abbrev Ul(n:Str):lx->Bool
 |.Attribute o b _=>VR o&&cb (b=n)
 |_=>b6
abbrev Ox(n:Str)(k:lx->Bool):wk->Bool
 |.Assign ts e _=>(cb (ts.length=1)&&ts.all (Ul n))&&k e
 |_=>b6
abbrev BC:lx->Bool
 |.Tuple es _ _=>es.isEmpty
 |_=>b6
abbrev BD:lx->Bool
 |.List es _=>es.isEmpty
 |_=>b6
abbrev Um:List wk->Bool
 |[a,b]=>Ox "rows" BC a&&Ox "earlier" BD b
 |_=>b6
def yF(h:Um b=a8):∃s1 s2,b=[s1,s2]/\Ox "rows" BC s1=a8/\Ox "earlier" BD s2=a8:=by
 cases b with
 |nil=>cases h
 |cons s1 b =>
  cases b with
  |nil=>cases h
  |cons s2 b =>
   cases b with
   |nil=>show#[s1,s2,rfl,qv.mp (show(Ox "rows" BC s1&&Ox "earlier" BD s2)=a8 from h)]
   |cons _ _=>cases h
def yG(h:Ul n t=a8):∃c p2,t=.Attribute (.Name "self" c) n p2:=by
 cases t with
 |Attribute o b p2 =>
  have(d,e):=qv.mp (show(VR o&&cb (b=n))=a8 from h);cases ĝ e;cases o with
  |Name a c=>cases ĝ (show cb (a="self")=a8 from d);show#[c,p2,rfl]
  |_=>cases d
 |_=>cases h
def qj(h:Ox n k s=a8):∃a p2 b e,s=.Assign [.Attribute (.Name "self" a) n p2] e b/\k e=a8:=by
 cases s with
 |Assign ts e b =>
  have h:((cb (ts.length=1)&&ts.all (Ul n))&&k e)=a8:=h;simp only[b5,Ę]at h;have((c,d),f):=h;have(t,rfl):=Sf.mp c;have(a,p2,rfl):=yG (qa.mp d t (by simp));show#[a,p2,b,e,rfl,f]
 |_=>cases h
def vX(h:BC e=a8):∃p q,e=.Tuple [] p q:=by
 cases e with
 |Tuple es p q=>cases oT.mp (show es.isEmpty=a8 from h);show#[p,q,rfl]
 |_=>cases h
def vY(h:BD e=a8):∃p,e=.List [] p:=by
 cases e with
 |List es p=>cases oT.mp (show es.isEmpty=a8 from h);show#[p,rfl]
 |_=>cases h
def BE{K:PySem.W.Frag}{st:wk}(F:Mb K "__init__" m st f p)(S:cQ ["self"] ["self"] (av st))(r:Um (bO st)=a8)(n:JL (av st) "self")(E:LU K cl):
  dC P w K mg base OO (k+1) f p ["self"] (Uk cl):=by
 show F.ok S (λvs H Q E h=>by have(x,a,rfl,_):=h;rfl) λD A outer s H vs Q G I h=>?_;have(s1,s2,u,v,B):=yF r;have(_,_,_,J,rfl,k1):=qj v;have(_,_,_,L,rfl,k2):=qj B;have(_,_,rfl):=vX k1;have(_,rfl):=vY k2;rw[u];have(x,a,rfl,b,q):=h;show#[_,bZ (rf (aT (i:=0) rfl n) (rj cP) rfl) (bZ (rf (aT (i:=0) rfl n) (xq cP) rfl) j8),?_];show#[mh _,λt d=>#[_,rfl,x,cl,a,[],rfl,?_,E.cls,E.nr,by decide,?_]]
 .rw[ai (λz=>by rw[z,d]at b;cases b)];show b
 .have C:x≠t:=λz=>by rw[z,d]at b;cases b
  show#[mh _,λl hl=>#[_,rfl,x,cl,a,d9 "rows" (.ref t) [],rfl,?_,E.cls,E.ne,by change 1<1000;decide,?_]]
  .have g:x≠l:=λz=>by rw[<-z,aj]at hl;cases hl
   rw[ai g,aj]
  .have g:x≠l:=λz=>by rw[<-z,aj]at hl;cases hl
   have o:t≠l:=λz=>by rw[<-z,ai (pq C),aj]at hl;cases hl
   have z:=q t l d (by rw[ai (pq g),ai (pq o)]at hl;show hl) o;have e:upd (upd (upd (upd H t (.tup [])) x (.ins cl a (d9 "rows" (.ref t) []))) l (.lst [])) x (.ins cl a (d9 "earlier" (.ref l) (d9 "rows" (.ref t) [])))=upd (upd (upd H t (.tup [])) l (.lst [])) x (.ins cl a (Nw (.ref t) l)):=by
    funext y
    by_cases c:y=x
    .subst c;rw[aj,aj];rfl
    .rw[ai c,ai c];by_cases j:y=l
     .subst j;rw[aj,aj]
     .rw[ai j,ai j,ai c]
   change Q .IC _;rw[e];show z
def t9(h:p<=l.length):(eJ p o l)[p]?=a5 o:=by
 unfold eJ;rw[kr (by rw[oD];lia),oD,Qx h,Nat.sub_self];rfl
def BF(h:p<=l.length)(hl:l.length=l'.length)(hi:i≠p):∃j:Nat,(eJ p o l)[i]?=l[j]?/\(eJ p o' l')[i]?=l'[j]?:=by
 unfold eJ;by_cases z:i<p
 .show#[i,?_,?_]
  .rw[lg (by rw[oD];lia),OC z]
  .rw[lg (by rw[oD];lia),OC z]
 .obtain⟨m,rfl⟩:∃m,i=p+(m+1):=#[i - p - 1,⋯]
  show#[p+m,?_,?_]
  .rw[kr (by rw[oD];lia),oD,Qx h,OL,OI,zb]
  .rw[kr (by rw[oD];lia),oD,Qx ⋯,OL,OI,zb]
def eM(h:p<=l.length):(eJ p o l).length=l.length+1:=by
 unfold eJ;simp;lia
structure Eo(C:Ct)(H:Hp)(p:Nat)(r a:dt)(us:List U)(vs:List V):Prop where
 len:us.length=vs.length
 par:∀x,C.J0 x->JO H x/\¬C.IO x
 Oy:∀x,C.IO x↔x=r\/x=a
 at_:vs[p]?=a5 (.ref r)
 ob:∃u ws,us[p]?=a5 (.ob u ws)/\aL C (λ_=>False) H r [a] (.ob u ws)
 any:∀(i:Nat) (u:U),i≠p->us[i]?=a5 u->∃v,vs[i]?=a5 v/\Rep C C.J0 H u v
structure t_(C:Ct)(H H':Hp)(S':dt->Prop)(r:dt)(o:U)(k:Kd)(u:U)(v:V):Prop where
 same:∀x y,H x=a5 y->¬C.IO x->H' x=a5 y
 there:∀x y,H x=a5 y->∃y',H' x=a5 y'
 new:∀x,S' x->H x=bD/\∃y,H' x=a5 y
 ob:∃a',(C.IO a'\/H a'=bD)/\aL C S' H' r [a'] o/\(k=.own->v≠.ref a')
 own:k=.own->∃q,v=.ref q/\H q=bD/\¬S' q/\cC C S' H' q u
 loc:k=.loc->Rep C S' H' u v
abbrev MJ(P:ux)(w:wh)(K:PySem.W.Frag)(F:List U->Option (Ex (Kd×U)))(d p:Nat):Sp:=λvs H Q E=>vs.length=d/\∃us k u o Pr IO r a,F us=a5 (.ok (k,.tup [u,o]))/\Eo (LR P w K H Pr IO) H p r a us vs /\
 ((k=.own\/k=.loc)/\(∀v H' S',t_ (LR P w K H Pr IO) H H' S' r o k u v->Q v H') \/
  k=.io/\∃c,u=.str c/\∀b H' S',PySem.W.nsIn K mx c=a5 (a5 (.ref b))->t_ (LR P w K H Pr IO) H H' S' r o .io .IC .IC->E (.ref b) bD H')
section
variable{X:Cx}{C:Ct}{pins:List (dt×Obj)}{s:hQ}{c0 c c1:Cf}{i p:Nat}{x:Str}{px apos p1 p2 p3 p4 pos cpos:Pos}{u:U}{us:List U}{ns:Nat->Bool}{Q:VK}
def Ok.CD(D:Ok C c)(n:Ns c0 c)(q:d.Eqv C)(hs:c.st[i]?=a5 (a5 (.A',.ob u us)))(m:c.σ[i]?=a5 (a5 (.ref r)))(hk:c.kid i=[a])(o:Lw C c.S c.H r a u us cl dx v0 vs)(Y:∀x,d.IO x↔x=r\/x=a)
 (b:t_ d c.H H' S' r (.ob u' us') k w v) {S2:dt->Prop} (h:∀x,S2 x->S' x) :
    ∃g:Cf,g.H=H'/\g.σ=c.σ/\(∀x,g.S x↔c.S x\/S2 x)/\g.st=c.st.set i (a5 (.A',.ob u' us'))/\Ok C g/\Ns c0 g/\∀x,g.R x->c.R x\/(c.H x=bD/\(k=.own->v≠.ref x)/\¬S' x):=by
  classical
  let t:Hp:=λx=>if d.IO x then c.H x else H' x
  have G:∀x,¬d.IO x->t x=H' x:=λx z=>Ě z;have Rr:∀x,d.IO x->t x=c.H x:=λx z=>ę z;have rD:∀x,d.IO x->c.RD i x:=λx z=>#[_,r,hs,m,((Y x).mp z).imp id λz=>by rw[hk,z];simp]
  have O4:∀x,d.IO x->∃y,c.H x=a5 y:=λx z=>let ⟨_,_,_,y,e,_⟩:=D.root (.inr #[i,rD x z]);⟨y,e⟩;have Ow:∀x,S' x->¬d.IO x:=λx z L=>by
    have(y,e):=O4 x L;rw[(b.new x z).1]at e;cases e
  have Mt:rB c.H t:=λx y e=>by
    by_cases z:d.IO x
    . rw[Rr x z];show e
    . rw[G x z];show b.same x y e z
  have(IF,n1):=D.grow (H':=t) (S':=λx=>c.S x\/S2 x) Mt (λx z=>z.imp id λz=>#[(b.new x (h x z)).1,by rw[G x (Ow x (h x z))];show(b.new x (h x z)).2]) λx=>.inl;have(a',SU,rd,Uo):=b.ob;have(LB,Up,v',a2,vs',ea,o'):=rd;cases ea;have Yq:d.IO a'->a'=a:=λz=>((Y a').mp z).resolve_left (pq o'.ne);have N:a'=a\/c.H a'=bD:=SU.imp Yq id;have Kt:∀y∈[r,a'],¬(c.S y\/S2 y)/\¬C.J0 y/\(C.H₀ y=bD\/C.IO y):=λy hy=>by
    have A:=o'.fr y hy;rcases gj.mp hy with rfl|hy
    . have B:=o.fr y (by simp)
      show#[λz=>z.elim B.1 λz=>A.1 (h _ z),B.2]
    . rw[i8.mp hy]at A ⊢
      rcases N with z|z
      . have B:=o.fr a (by simp)
        rw[z]at A ⊢;show#[λz=>z.elim B.1 λz=>A.1 (h _ z),B.2]
      . have(z1,z2,z3,_,_):=D.eh z
        show#[λz=>z.elim z2 λz=>A.1 (h _ z),z3,.inl z1]
  have(Jb,n2):=Ok.yu (c:={c with H:=t,S:=λx=>c.S x\/S2 x}) (H':=H') (u':=.ob u' us') (as':=[a']) IF (n.trans n1.toNs) hs m
    (λx z=>(G x λL=>z (rD x L)).symm) (λx y e=>by
      by_cases z:d.IO x
      . have(y',e'):=O4 x z
        show b.there x y' e'
      . show#[y,by rw[<-G x z];show e])
    (λmv=>#[LB,Up,v',a',vs',rfl,by rw[Lv,<-q.K];show o'.hc,o'.ins,o'.ne,Kt,o'.im,((o'.rep.IQ (S':=S2) o'.im).cg q).mv (.up λx=>.inr),o'.lst,o'.Mj,((o'.JT.IQ (S':=S2) o'.Mj).cg q).mv (.up λx=>.inr)])
    (λy hy=>by
      rw[i8.mp hy];rcases N with z|z
      . show .inl (by change a'∈c.kid i;rw[hk,z];simp)
      . have(_,_,_,_,z4):=D.eh z
        show .inr #[z4,n.none z])
  show#[{c with H:=H',S:=λx=>c.S x\/S2 x,st:=c.st.set i (a5 (.A',.ob u' us')),kid:=λj=>if j=i then [a'] else c.kid j},rfl,rfl,λx=>UN,rfl,Jb,n2,λy hy=>?_];have Jp:i<c.st.length:=(df.mp hs).1;rcases hy with⟨j,k',w',Ju,I,J⟩|⟨j,w',O,I,J,g3⟩
  . show .inl (.inl #[j,k',w',Ju,?_,J])
    by_cases l:j=i
    . subst l
      have f:(c.st.set j (a5 (.A',.ob u' us')))[j]?=_:=I;rw[dn Jp]at f;cases f;cases Ju
    . have f:(c.st.set i (a5 (.A',.ob u' us')))[j]?=_:=I
      rw[ez (pq l)]at f;show f
  . by_cases l:j=i
    . subst l
      have Qj:c.σ[j]?=a5 (a5 (.ref O)):=J;rw[m]at Qj;cases Qj;rcases g3 with rfl|g3
      . show .inl (.inr #[j,_,_,hs,m,.inl rfl])
      . have T:y=a':=by simpa using g3
        subst T;rcases N with z|z
        . show .inl (.inr #[j,_,_,hs,m,.inr (by rw[hk,z];simp)])
        . show .inr #[z,Uo,(o'.fr _ (by simp)).1]
    . have f:(c.st.set i (a5 (.A',.ob u' us')))[j]?=_:=I
      rw[ez (pq l)]at f;have T:y=O\/y∈c.kid j:=by simpa[l] using g3
      show .inl (.inr #[j,w',O,f,J,T])
def Jz.Gp(t:Jz C c0 c rs vs)(I:C.P=X.prog)(J:C.w=X.w)(B:C.K=X.K)(hs:c.st[i]?=a5 (a5 (.A',.ob u us)))(L:c.σ[i]?=a5 (a5 (.ref r)))(hk:c.kid i=[a])(o:Lw C c.S c.H r a u us cl N O T)(n:p<=rs.length):
  Eo (LR X.prog X.w X.K c.H (λx=>JO c.H x/\¬(x=r\/x=a)) λx=>x=r\/x=a) c.H p r a (eJ p (.ob u us) (rs.map (·.2))) (eJ p (.ref r) vs):=by
 have d:C.Eqv (LR X.prog X.w X.K c.H (λx=>JO c.H x/\¬(x=r\/x=a)) λx=>x=r\/x=a):=#[I,J,B]
 have hl:=t.len;have D:(rs.map (·.2)).length=vs.length:=by rw[cN];show hl
 have h:∀x,(x=r\/x=a)->c.RD i x:=λx z=>#[_,r,hs,L,z.imp id λz=>by rw[hk,z];simp]
 have k:∀x,c.S x->JO c.H x/\¬(x=r\/x=a):=λx z=>#[t.ok.vA x z,λA=>(t.ok.root (.inr #[i,h x A])).1 z]
 show#[by rw[eM (by rw[cN];show n),eM ⋯,D],λx z=>z,λx=>UN,t9 ⋯,#[u,us,t9 (by rw[cN];show n),cl,N,O,a,T,rfl,by rw[Lv,show(LR X.prog X.w X.K c.H (λx=>JO c.H x/\¬(x=r\/x=a)) λx=>x=r\/x=a).K=C.K from B.symm];show o.hc,o.ins,o.ne,λy f=>#[λz=>z,λz=>z.2 (by simpa using f),.inr (by simpa using f)],o.im,(o.rep.IQ o.im).cg d,o.lst,o.Mj,(o.JT.IQ o.Mj).cg d],λm w Y e=>?_];have(j,g1,g2):=BF (p:=p) (i:=m) (o:=U.ob u us) (o':=V.ref r) (l:=rs.map (·.2)) (l':=vs) (by rw[cN];show n) D Y;rw[g1,nc,dV]at e;have((k',w'),e,rfl):=e;have(v,b1,b):=t.Rp e;show#[v,g2.trans b1,Rep.cg d (u:=w') ?_];cases k' with
 |own =>
  have(q,rfl,_,d1,G,g):=b;have(y,f,_):=g.some;show g.rep k #[#[y,f],λz=>G (.inr #[i,h q z])]
 |loc=>show Rep.mv (.up k) b
 |any=>show Rep.mv (.up λy z=>z.elim (λz=>#[t.ok.AQ y (.inl z),λA=>(t.ok.root (.inr #[i,h y A])).2.1 z]) (k y)) b
 |bor j' =>
  have(q,rfl,d1,G,_,g):=t.ok.rootOf b.1 b.2;have(y,f,_):=g.some;have(k3,z1,z2):=b.1;show g.rep k #[#[y,f],λz=>t.ok.dd.d1 i q (h q z) #[j',k3,_,z1,z2,b.2]]
 |_=>show b.elim
def Jz.CF(t:Jz C c0 c rs vs)(B:C.P=X.prog)(D:C.w=X.w)(G:C.K=X.K){E:XK}(L:Γ f=F)(N:∀us r,F us=a5 (.ok r)->us.length=O)(w:W (dk Γ f p i rs) c.st (b_ C c0 Q)):
  ∃r u us cl g a h j,c.st[i]?=a5 (a5 (.A',.ob u us))/\c.σ[i]?=a5 (a5 (.ref r))/\Lw C c.S c.H r a u us cl g h j/\MJ X.prog X.w X.K F O p (eJ p (.ref r) vs) c.H Q E:=by
 have(r',st',e,q):=w;unfold dk at e;split at e
 .rename_i u us hs;rw[L]at e;split at e
  .rename_i k w u' us' I;split at e
   .rename_i hz;cases e;have(r,cl,g,h,a,j,l,hk,o):=t.ok.jn hs;have hl:=t.len;show#[r,u,us,cl,g,a,h,j,hs,l,o,?_,_,k,w,.ob u' us',_,_,r,a,I,t.Gp B D G hs l hk o hz.2,.inl #[hz.1,λv H' S' b=>?_]]
    .have z:=N _ _ I;rw[eM (by rw[cN];show hz.2),cN]at z;rw[eM (by rw[<-hl];show hz.2),<-hl];show z
    .have m:(LR X.prog X.w X.K c.H (λx=>JO c.H x/\¬(x=r\/x=a)) λx=>x=r\/x=a).Eqv C:=#[B.symm,D.symm,G.symm]
     have(d,n,T,A,Y,IL,n',hR):=t.ok.CD (c0:=c0) t.nx.toNs m hs l hk o (λx=>UN) b λ_ z=>z;rw[<-n];show q d v (T.trans t.hσ) Y IL #[n'] ?_;rcases hz.1 with rfl|rfl
     .have(y,rfl,J,d2,d3):=b.own rfl;have(_,z1,_,_,z4):=t.ok.eh J;show#[y,rfl,t.nx.none J,λz=>((A y).mp z).elim z1 d2,λz=>?_,?_]
      .rcases hR y z with z|⟨_,z,_⟩
       .show z4 z
       .show z rfl rfl
      .rw[n];show(d3.cg m).mv (.up λx z=>(A x).mpr (.inr z)) λ_ q=>q
     .rw[show aB C c0 d .loc w v=Rep C d.S d.H w v from rfl,n];show((b.loc rfl).cg m).mv (.up λx z=>(A x).mpr (.inr z))
   .cases e
  .cases e
 .cases e
structure Nf(C:Ct)(c0 c:Cf)(G:dt->Prop):Prop where
 h0:∀x,G x->c0.H x=bD
 new:∀x,G x->C.H₀ x=bD/\¬C.J0 x/\¬C.IO x
 MK:∀x,G x->¬c.S x/\¬c.R x/\∃o,c.H x=a5 o
def Nf.on(g:Nf C c0 c G)(n:Ns c d):Nf C c0 d G:=#[g.h0,g.new,λx z=>by
 have(e,b,o,a):=g.MK x z;show#[λy=>?_,λy=>?_,n.there x o a]
 .rcases n.new x y with y|y|y
  .show e y
  .show b y
  .rw[y]at a;cases a
 .rcases n.roots x y with y|y
  .show b y
  .rw[y]at a;cases a]
def Nf.mv(b:Ok C c)(g:Nf C c0 c G)(n:Ns c d):Mv G c.H G d.H:=#[λ_ z=>z,(b.mv n).Nv,λa o z h=>n.keep a o h (g.MK a z).2.1]
abbrev nj(C:Ct)(c0:Cf)(Q:VK)(t:U)(st':aq):Prop:=∀c v G,c.σ=c0.σ->c.st=st'->Ok C c->Nx c0 c->Nf C c0 c G->Rep C G c.H t v->Q v c.H
def Jz.Gq(t:Jz C c0 c rs vs)(m:C.P=X.prog)(n:C.w=X.w)(A:C.K=X.K){E:XK}(O:Γ f=F)(T:∀us r,F us=a5 (.ok r)->us.length=Y)(w:W (dk Γ f p i rs) c.st λa st'=>W (tU a) st' (nj C c0 Q)):
  ∃r u us cl d a g h,c.st[i]?=a5 (a5 (.A',.ob u us))/\c.σ[i]?=a5 (a5 (.ref r))/\Lw C c.S c.H r a u us cl d g h/\MJ X.prog X.w X.K F Y p (eJ p (.ref r) vs) c.H Q E:=by
 have(r',st',e,q):=w;unfold dk at e;split at e
 rotate_left
 .cases e
 rename_i u us hs;rw[O]at e;split at e
 rotate_left
 .cases e
 rename_i k w u' us' B;split at e
 rotate_left
 .cases e
 rename_i hz;cases e;rcases hz.1 with rfl|rfl
 .show(aX.mp q).elim
 rw[show tU (.loc,w)=pure w from rfl,ak]at q;have(r,cl,d,g,a,h,j,hk,o):=t.ok.jn hs;have hl:=t.len;show#[r,u,us,cl,d,a,g,h,hs,j,o,?_,_,.loc,w,.ob u' us',_,_,r,a,B,t.Gp m n A hs j hk o hz.2,.inl #[.inr rfl,λv H' S' b=>?_]]
 .have z:=T _ _ B;rw[eM (by rw[cN];show hz.2),cN]at z;rw[eM (by rw[<-hl];show hz.2),<-hl];show z
 .have D:(LR X.prog X.w X.K c.H (λx=>JO c.H x/\¬(x=r\/x=a)) λx=>x=r\/x=a).Eqv C:=#[m.symm,n.symm,A.symm]
  have(c',l,h2,h3,h4,IL,n',hR):=t.ok.CD (c0:=c0) (S2:=λ_=>False) t.nx.toNs D hs j hk o (λx=>UN) b λ_ z=>z.elim;rw[<-l];show q c' v S' (h2.trans t.hσ) h4 IL #[n'] #[λx z=>t.nx.none (b.new x z).1,λx z=>?_,λx z=>?_] (by rw[l];show(b.loc rfl).cg D)
  .have(G,I,J,L,N):=t.ok.eh (b.new x z).1;show#[G,J,L]
  .have(G,I,J,L,N):=t.ok.eh (b.new x z).1;show#[λy=>((h3 x).mp y).elim I id,λy=>?_,by rw[l];show(b.new x z).2];rcases hR x y with y|⟨_,_,y⟩
   .show N y
   .show y z
end
section
abbrev iM(C:Ct)(p i:Nat)(m:M (List (Kd×U))):TA:=λσ H Q=>∃v,∃c0:Cf,σ[i]?=a5 (a5 v)/\c0.σ=σ/\c0.H=H/\Ok C c0/\W m c0.st λrs st'=>∀c vs,c.σ=σ->c.st=st'->Ok C c->Nx c0 c->cu C c0 c rs vs->Q (eJ p v vs) c.H
def ua(b:X.N[i]?=a5 x)(c:JL X.env.scope x)(d:(x==("__debug__":Str))=b6)(e:(x==("__classdict__":Str))=b6)(f:PA X es (JR C ms)):PA X (.Name x px::es) (iM C 0 i ms):=by
 rintro pos a s σ H Q I ⟨v,c0,ev,rfl,rfl,g,h⟩;show bz (aT b c d e) f rfl pos a s c0.σ c0.H Q I #[v,ev,c0,rfl,rfl,g,h]
def BG(f:PE X e (IH C m))(g:PA X es (iM C p i ms))(hs:il (e::es) X.env=(b6,sL e X.env)::il es X.env):PA X (e::es) (iM C (p+1) i (m >>= λr=>ms >>= λrs=>pure (r::rs))):=by
 rintro pos a s σ H Q I ⟨j,c0,ev,rfl,rfl,k,h⟩;show bz f g hs pos a s c0.σ c0.H Q I (aJ k h λr c1 v t w=>?_);rw[ab]at w;show#[j,c1,ev,t.hσ,rfl,t.ok,w.mono λrs st2 b l vs c n o d r2=>?_];rw[ak]at b;show b l (v::vs) c n o (t.nx.trans d) #[v,vs,rfl,t.rx.w.on t.ok d (c.trans t.hσ.symm),r2.from t.nx,λhk i y v' q u x=>?_];show lr t.rx.w (r2.get q u) hk x
def CG{k:List (Kd×U)->M β}{Post:β->aq->Prop}(e:PA X es (iM C p i ms))(ev:c0.σ[i]?=a5 (a5 v))(I:Inv X a c0.σ c0.H s)(f:Ok C c0)(h:W (ms >>= λrs=>au rs >>= λ_=>k rs) c0.st Post)(pos:Pos):
  gm (i4 X.prog X.w) X.A (Zi (v3 pos (il es X.env))) (λus s1=>∃rs c vs,Jz C c0 c rs vs/\Inv X a c.σ c.H s1/\Vals (eJ p v vs) us/\W (k rs) c.st Post) X.xe s:=by
 rw[ab]at h;show ID (e pos a s c0.σ c0.H (λws d=>∃rs c vs,ws=eJ p v vs/\c.H=d/\Jz C c0 c rs vs/\W (k rs) c.st Post) I ⟨v,c0,ev,rfl,rfl,f,h.mono λrs st1 b c1 vs g j l m r1=>?_⟩) ?_
 .rw[ab,bQ]at b;subst j;show#[rs,c1,vs,rfl,rfl,#[g,l,m,r1,b.1],b.2]
 .rintro us s1 ⟨ws,d,n,rv,rs,c1,vs,rfl,rfl,t,w⟩;show#[rs,c1,vs,t,by rw[t.hσ];show n,rv,w]
def yH(g:C.P=X.prog)(j:C.w=X.w)(l:C.K=X.K)(m:Γ f=F)(n:∀us r,F us=a5 (.ok r)->us.length=o)
  (G:dC X.prog X.w X.K X.mg X.base (Ky X.prog X.w) k fa q ps (MJ X.prog X.w X.K F o p)) (v:cO k X.A) (x:Gl X f) (y:X.mg f=a5 (.ref fa)) (B:PySem.W.keepIn X.K (.ref fa)=a8) (D:Binds X.K q ps [])
  (J:(f==("__debug__":Str))=b6) (L:PA X (e::es) (iM C p i ms)) (N:il (e::es) X.env=(b6,sL e X.env)::il es X.env) (O:(v3 pos (il es X.env)).any (·.1)=b6) :
  PE X (.Call (.Name f Y) (e::es) [] pos) (IH C (Kh i >>= λ_=>ms >>= λrs=>au rs >>= λ_=>dk Γ f p i rs)):=by
 rintro a s σ H Q I ⟨c0,rfl,rfl,ok,h⟩;rw[ab]at h;have(u,us,hs,h):=dU h;have(r,_,_,_,_,_,ev,_,_):=ok.jn hs;show tj (gc I x y ?_ J);show PySem.W.callWith_K (h₀:=X.base) I.ok.mod.NM B (ID (CG L ev I ok h pos) λus s1 ⟨rs,c,vs,t,b,rv,w⟩=>#[b.KN,?_]) N O;have(r',_,_,_,_,_,_,_,_,d,_,T):=t.CF (E:=E0) g j l m n w;rw[t.hσ,ev]at d;cases d;have z:=jf (Q:=Q) G v D .nil m7 b rv (by rw[rl];show T);rw[t.hσ]at z;show z
def BH(b:((v3 pos (il as env)).all (λx=>!x.1)&&(Om pos (Jf [] env)).all (λx=>x.1.isSome)&&cb (as.length+([]:List Ni).length+(if ([]:List Ni).isEmpty then 0 else 1)<30))=a8)(c:(apos.endLine==pos.line)=a8):
  sL (.Call (.Attribute (.Name x px) y apos) as [] pos) env=(do
   let a <-sL (.Name x px) env
   R' apos.atName
   let (f,first) <-Ka [a] (Wz a y (do return (<-importBound (.Name x px) env).getD a8))
   Xx pos f first (v3 pos (il as env)) (Om pos (Jf [] env))):=by
 have d:methodCallForm (as.length+([]:List Ni).length) (v3 pos (il as env)) (Om pos (Jf [] env))=a8:=b;have e:methodCallPos a8 (.Name x px) env apos pos=pure pos:=by unfold methodCallPos;simp[c]
 rw[arm_eval_Call,show NT (.Name x px) y env (sL (.Name x px) env)=sL (.Name x px) env from rfl];unfold methodCall calleeOf;rw[d,e];rfl
def yI{Post:Cf->VK->Kd×U->aq->Prop}(K:LU X.K cl)(hP:C.P=X.prog)(hw:C.w=X.w)(L:C.K=X.K)(O:X.N[i]?=a5 x)(T:JL X.env.scope x)(Y:(x==("__debug__":Str))=b6)(IM:(x==("__classdict__":Str))=b6)
  (G:dC X.prog X.w X.K X.mg X.base (Ky X.prog X.w) k fa fd ps (MJ X.prog X.w X.K F np 0)) (hr:cO k X.A) (d:Meth X.K cl y fa) (hb:Binds X.K fd ps []) (g:y≠"rows"/\y≠"earlier")
  (ha:PA X (e::es) (JR C ms)) (he:il (e::es) X.env=(b6,sL e X.env)::il es X.env) (JE:(v3 pos (il es X.env)).any (·.1)=b6)
  (MN:∀{rs vs c0 c Q},Jz C c0 c rs vs->W (dk Γ f 0 i rs) c.st (Post c0 Q)->∃r u us cl j a l m,c.st[i]?=a5 (a5 (.A',.ob u us))/\c.σ[i]?=a5 (a5 (.ref r))/\Lw C c.S c.H r a u us cl j l m/\MJ X.prog X.w X.K F np 0 (eJ 0 (.ref r) vs) c.H Q E0)
  (ht:sL (.Call (.Attribute (.Name x px) y apos) (e::es) [] pos) X.env=(do
   let n <-sL (.Name x px) X.env
   R' apos.atName
   let (f,first) <-Ka [n] (Wz n y pl)
   Xx pos f first (v3 pos (il (e::es) X.env)) (Om pos (Jf [] X.env)))) :
  PE X (.Call (.Attribute (.Name x px) y apos) (e::es) [] pos) (λσ H Q=>∃c0:Cf,c0.σ=σ/\c0.H=H/\Ok C c0/\W (Kh i >>= λ_=>ms >>= λrs=>au rs >>= λ_=>dk Γ f 0 i rs) c0.st (Post c0 Q)):=by
 rintro b s σ H Q I ⟨c0,rfl,rfl,p,h⟩;rw[ab]at h;have(u,us,hs,h):=dU h;have(r,LB,j,l,a,m,ev,_,o):=p.jn hs;cases(K.hc).one (L▸o.hc);show PySem.W.methodCall_KW (pl:=pl) (ID (aT O T Y IM b s c0.σ c0.H (λv q=>v=.ref r/\q=c0.H) I ⟨_,ev,rfl,rfl⟩) λu' s1 ⟨x',q,B,rx,ex,eH⟩=>?_) ht;subst ex eH;obtain rfl:u'=kl r:=rx;show kJ B o.ins K.cls d (by unfold Nw;simp[L9,Ğ.mpr g.1,Ğ.mpr g.2]) ?_;show PySem.W.callWith_K (first:=[.ref r]) (h₀:=X.base) I.ok.mod.NM d.kp (ID (args ha B p h pos) λus s2 ⟨rs,c,vs,t,D,rv,w⟩=>#[D.KN,?_]) he JE;have(r',_,_,_,_,_,_,_,_,J,_,Kf):=MN t w;rw[t.hσ,ev]at J;cases J;have z:=jf (us:=.ref r::us) (vs:=.ref r::vs) (Q:=Q) G hr hb .nil m7 D (.cons rfl rv) (by rw[rl];show Kf);rw[t.hσ]at z;show z
def vZ{Post:Cf->VK->Kd×U->aq->Prop}(K:LU X.K cl)(hP:C.P=X.prog)(hw:C.w=X.w)(B:C.K=X.K)(D:X.N[i]?=a5 x)(J:JL X.env.scope x)(L:(x==("__debug__":Str))=b6)(O:(x==("__classdict__":Str))=b6)
  (G:dC X.prog X.w X.K X.mg X.base (Ky X.prog X.w) k fa T ps (MJ X.prog X.w X.K F Y 0)) (hr:cO k X.A) (e:Meth X.K cl y fa) (hb:Binds X.K T ps []) (g:y≠"rows"/\y≠"earlier")
  (MN:∀{rs vs c0 c Q},Jz C c0 c rs vs->W (dk Γ f 0 i rs) c.st (Post c0 Q)->∃r u us cl j a l m,c.st[i]?=a5 (a5 (.A',.ob u us))/\c.σ[i]?=a5 (a5 (.ref r))/\Lw C c.S c.H r a u us cl j l m/\MJ X.prog X.w X.K F Y 0 (eJ 0 (.ref r) vs) c.H Q E0)
  (ht:sL (.Call (.Attribute (.Name x px) y apos) [] [] pos) X.env=(do
   let n <-sL (.Name x px) X.env
   R' apos.atName
   let (f,first) <-Ka [n] (Wz n y pl)
   Xx pos f first (v3 pos (il [] X.env)) (Om pos (Jf [] X.env)))) :
  PE X (.Call (.Attribute (.Name x px) y apos) [] [] pos) (λσ H Q=>∃c0:Cf,c0.σ=σ/\c0.H=H/\Ok C c0/\W (Kh i >>= λ_=>(pure []:M (List (Kd×U))) >>= λrs=>au rs >>= λ_=>dk Γ f 0 i rs) c0.st (Post c0 Q)):=by
 rintro b s σ H Q I ⟨c0,rfl,rfl,p,h⟩;rw[ab]at h;have(u,us,hs,h):=dU h;have(r,LB,j,l,a,m,ev,_,o):=p.jn hs;cases(K.hc).one (B▸o.hc);rw[ab,ak,ab,bQ]at h;have t:Jz C c0 c0 [] []:=#[rfl,p,Nx.refl c0,rfl,trivial]
 show PySem.W.methodCall_KW (pl:=pl) (ID (aT D J L O b s c0.σ c0.H (λv q=>v=.ref r/\q=c0.H) I ⟨_,ev,rfl,rfl⟩) λu' s1 ⟨x',q,d,rx,ex,eH⟩=>?_) ht;subst ex eH;obtain rfl:u'=kl r:=rx;show kJ d o.ins K.cls e (by unfold Nw;simp[L9,Ğ.mpr g.1,Ğ.mpr g.2]) ?_;have(r',_,_,_,_,_,_,_,_,z,_,Kf):=MN t h.2;rw[ev]at z;cases z;show PySem.W.callWith_K0 (first:=[.ref r]) d.KN e.kp (jf (us:=[.ref r]) (vs:=[.ref r]) (Q:=Q) G hr hb .nil m7 d (.cons rfl .nil) (by rw[rl];show Kf))
def Ep(K:LU X.K cl)(B:C.K=X.K)(J:∀j,ns j=a8->j≠i)(L:X.N.Nodup)(q:X.N[i]?=a5 x)(O:Loc X.env.scope x)(Q:X.fn x=a8\/X.env.scope.names.lookup x=a5 .local)(M:Mk X.K cl fa)(G:dC X.prog X.w X.K X.mg X.base OO k fa T ["self"] (Uk cl))(Y:cO (k+1) X.A)
  (hg:Gl X "Shelf") (hm:X.mg "Shelf"=a5 (.ref cl)) (hb:Binds X.K T ["self"] []) :
  L2.PS X (.Assign [.Name x px] (.Call (.Name "Shelf" p0) [] [] cpos) pos) (I_ C ns (λst=>a5 (.ok .nx,st.set i (a5 (.A',.ob (.tup []) []))))):=by
 rintro f s σ H D I ⟨c0,rfl,rfl,ok,fl,st',e,h⟩;cases e;have Jp:i<c0.σ.length:=by rw[I.len];show(df.mp q).1
 show jd L q O (xu M G Y hg hm hb .nil FT) rfl Q f s c0.σ c0.H D I ?_;intro r b o Yr JS;show#[r,b,rfl,aj,λt l d hl MI=>#[rfl,?_]];have u:t≠r:=λz=>by rw[z,aj]at d;cases d
 have p:l≠r:=λz=>by rw[z,aj]at hl;cases hl
 rw[ai u]at d;rw[ai p]at hl;have Uq:t≠b:=λz=>by rw[z,aj]at d;cases d
 have Ys:l≠b:=λz=>by rw[z,aj]at hl;cases hl
 rw[ai Uq]at d;rw[ai Ys]at hl;let g:Hp:=upd (upd (upd (upd (upd c0.H b (.own r)) r (.ins cl b [])) t (.tup [])) l (.lst [])) r (.ins cl b (Nw (.ref t) l));have Ql:rB c0.H g:=λy o' a=>by
  have v:y≠r:=λz=>by rw[z,o]at a;cases a
  have y2:y≠l:=λz=>by rw[z,hl]at a;cases a
  have y3:y≠t:=λz=>by rw[z,d]at a;cases a
  have y4:y≠b:=λz=>by rw[z,Yr]at a;cases a
  change upd _ r _ y=_;rw[ai v,ai y2,ai y3,ai v,ai y4];show a
 have(IF,n1):=ok.grow (H':=g) (S':=c0.S) Ql (λy z=>.inl z) λy z=>z;have m:=ok.eh o;have n:=ok.eh hl;have rd:aL C c0.S g r [l] (.ob (.tup []) []):=#[cl,b,.ref t,l,[],rfl,B▸K.hc,aj,pq p,λy hy=>by
  rcases gj.mp hy with rfl|hy
  .show#[m.2.1,m.2.2.1,.inl m.1]
  .rw[i8.mp hy];show#[n.2.1,n.2.2.1,.inl n.1],rfl,#[t,[],rfl,.inl (.inl (by change upd _ r _ t=_;rw[ai u,ai MI,aj])),rfl],by change upd _ r _ l=_;rw[ai p,aj],rfl,rfl]
 have(Jb,n2):=Ok.Ie (c:={c0 with H:=g,S:=c0.S}) (i:=i) IF n1.toNs Jp rd (λy hy=>by
  rcases gj.mp hy with rfl|hy
  .show#[m.2.2.2.2,o]
  .rw[i8.mp hy];show#[n.2.2.2.2,hl])
 show h _ rfl Jb n2 #[λj hj=>ez (pq (J j hj)),by simp]
end
end TM
namespace TM
open PySem L2 PyProof.Rows PySem.W
section
end
end TM
namespace TM
open PySem L2 PyProof.Rows
open Classical in
abbrev iN(H:Hp)(a:dt->Prop):Hp:=λx=>if a x then bD else H x
def nq(h:iN H a x=a5 y):H x=a5 y/\¬a x:=by
 unfold iN at h;split at h
 .cases h
 .show#[h,by assumption]
def iO(h:H x=a5 y)(z:¬a x):iN H a x=a5 y:=by
 unfold iN;rw[Ě z];show h
def nu(h:iN H a x=bD):H x=bD\/a x:=by
 unfold iN at h;split at h
 .show .inr (by assumption)
 .show .inl h
noncomputable abbrev KH(P:ux)(w:wh)(K:PySem.W.Frag)(H:Hp)(Pr IO a:dt->Prop):Ct:=LR P w K (iN H a) Pr IO
structure Er(C:Ct)(H:Hp)(Oc:dt->Prop)(p:Nat)(r a:dt)(is:List Nat)(us:List U)(vs:List V):Prop where
 len:us.length=vs.length
 par:∀x,C.J0 x->JO H x/\¬C.IO x/\¬Oc x
 oc:∀x,Oc x->JO H x/\¬C.IO x
 Oy:∀x,C.IO x↔x=r\/x=a\/∃i∈is,vs[i]?=a5 (.ref x)
 at_:vs[p]?=a5 (.ref r)
 np:p∉is
 ob:∃u ws,us[p]?=a5 (.ob u ws)/\aL C Oc H r [a] (.ob u ws)
 io:∀(i:Nat) (u:U),i∈is->us[i]?=a5 u->∃q,vs[i]?=a5 (.ref q)/\q≠r/\q≠a/\cC C Oc H q u
 any:∀(i:Nat) (u:U),i≠p->i∉is->us[i]?=a5 u->∃v,vs[i]?=a5 v/\Rep C (PS C Oc) H u v
 inj:∀(i j:Nat) (q:dt),i∈is->j∈is->vs[i]?=a5 (.ref q)->vs[j]?=a5 (.ref q)->i=j
 loc:∀u,us[3]?=a5 u->∃v,vs[3]?=a5 v/\Rep C Oc H u v
structure ub(C:Ct)(H H':Hp)(Oc S':dt->Prop)(r a:dt)(is:List Nat)(vs:List V)(o:U)(ws:List U)(k:Kd)(u:U)(v:V):Prop where
 same:∀x y,H x=a5 y->¬C.IO x->H' x=a5 y
 there:∀x y,H x=a5 y->∃y',H' x=a5 y'
 new:∀x,S' x->(H x=bD\/Oc x)/\∃y,H' x=a5 y
 ob:∃a',(a'=a\/H a'=bD)/\aL C S' H' r [a'] o/\(k=.own->v≠.ref a')
 own:k=.own->∃q,v=.ref q/\H q=bD/\¬S' q/\cC C S' H' q u
 loc:k=.loc->Rep C S' H' u v
 len:ws.length=is.length
 JK:∀(n i:Nat) (q:dt) (w:U),is[n]?=a5 i->vs[i]?=a5 (.ref q)->ws[n]?=a5 w->cC C S' H' q w
structure Gr(C:Ct)(H H':Hp)(S' G:dt->Prop)(r:dt)(o t w:U)(v:V):Prop where
 ex:∃(q:dt) (tv wv:V),v=.ref q/\Ji C.K H' q [tv,wv]/\Rep C G H' t tv/\Rep C S' H' w wv
 ap:∀x,G x->H x=bD/\¬S' x/\∃y,H' x=a5 y
 ob:∀a',aL C S' H' r [a'] o->¬G a'
abbrev Qm(P:ux)(w:wh)(K:PySem.W.Frag)(F:List U->Option (Ex (Kd×U)))(c p:Nat)(is:List Nat):Sp:=λvs H Q E=>vs.length=c/\∃us k u o ws Pr IO b r a,F us=a5 (.ok (k,.tup (u::o::ws)))/\Er (KH P w K H Pr IO b) H b p r a is us vs /\
 ((k=.own\/k=.loc)/\(∀v H' S',ub (KH P w K H Pr IO b) H H' b S' r a is vs o ws k u v->Q v H') \/
  k=.A'/\∃t w',u=.tup [t,w']/\∀v H' S' G,ub (KH P w K H Pr IO b) H H' b S' r a is vs o ws .io .IC .IC->Gr (KH P w K H Pr IO b) H H' S' G r o t w' v->Q v H')
section
variable{X:Cx}{C:Ct}{pins:List (dt×Obj)}{s:hQ}{c0 c c1:Cf}{i p:Nat}{u:U}{us:List U}{Q:VK}
def Ok.CH(I:Ok C c)(n:Ns c0 c)(q:h.Eqv C)(hs:c.st[i]?=a5 (a5 (.A',.ob u us)))(e1:c.σ[i]?=a5 (a5 (.ref r)))(hk:c.kid i=[a])(o:Lw C c.S c.H r a u us cl dx v0 J2)
 (JG:∀x,h.IO x↔x=r\/x=a\/∃m∈is,vs[m]?=a5 (.ref x))
    (slot:∀m∈is,∃j k w q,gT rs m=a5 j/\Kd.root k=a8/\c.st[j]?=a5 (a5 (k,w))/\c.σ[j]?=a5 (a5 (.ref q))/\vs[m]?=a5 (.ref q)) (I0:(is.map (gT rs)).Nodup)
 (b:ub h c.H H' c.S S' r a is vs (.ob u' us') ws k w v) (Ng:jJ rs is ws (c.st.set i (a5 (.A',.ob u' us')))=a5 st') {G:dt->Prop} (hG:∀a',aL h S' H' r [a'] (.ob u' us')->¬G a') :
    ∃J:Cf,J.H=H'/\J.σ=c.σ/\(∀x,J.S x↔c.S x\/S' x)/\J.st=st'/\Ok C J/\Ns c0 J/\∀x,J.R x->c.R x\/(c.H x=bD/\(k=.own->v≠.ref x)/\¬G x):=by
  classical
  let l:dt->Prop:=λx=>∃m∈is,vs[m]?=a5 (.ref x);have OB:∀x,l x->c.R1 x:=λx IX=>by
    have(m,A,e):=IX;have(j,k,w,q,_,d,f,g3,g4):=slot m A;rw[e]at g4;cases g4;show#[j,k,w,d,f,g3]
  have L:∀x,(x=r\/x=a)->c.RD i x:=λx z=>#[_,r,hs,e1,z.imp id λz=>by rw[hk,z];simp]
  have O5:∀x,h.IO x->c.R x:=λx z=>by
    rcases(JG x).mp z with z|z|z
    . show .inr #[i,L x (.inl z)]
    . show .inr #[i,L x (.inr z)]
    . show .inl (OB x z)
  let H1:Hp:=λx=>if h.IO x then c.H x else H' x
  have Nd:∀x,¬h.IO x->H1 x=H' x:=λx z=>Ě z;have Rr:∀x,h.IO x->H1 x=c.H x:=λx z=>ę z;have O4:∀x,h.IO x->∃y,c.H x=a5 y:=λx z=>let ⟨_,_,_,y,e,_⟩:=I.root (O5 x z);⟨y,e⟩;have Ow:∀x,S' x->¬h.IO x:=λx z B=>by
    rcases(b.new x z).1 with y|y
    . have(y',e):=O4 x B
      rw[y]at e;cases e
    . show(I.root (O5 x B)).1 y
  have Mt:rB c.H H1:=λx y e=>by
    by_cases z:h.IO x
    . rw[Rr x z];show e
    . rw[Nd x z];show b.same x y e z
  have(IF,n1):=I.grow (H':=H1) (S':=λx=>c.S x\/S' x) Mt (λx z=>by
    rcases z with z|z
    . show .inl z
    . rcases(b.new x z).1 with y|y
      . show .inr #[y,by rw[Nd x (Ow x z)];show(b.new x z).2]
      . show .inl y) λx=>.inl
  have(a',NG,rd,Uo):=b.ob;have Ur:=hG a' rd;have(LB,Up,v',a2,vs',ea,o'):=rd;cases ea;have VT:∀x,(x=r\/x=a)->¬l x:=λx z B=>I.dd.d1 i x (L x z) (OB x B);have Yt:¬l a':=λz=>by
    rcases NG with y|y
    . show VT a' (.inr y) z
    . have(_,_,_,y',e,_):=I.root (.inl (OB a' z))
      rw[y]at e;cases e
  let H2:Hp:=λx=>if l x then c.H x else H' x
  have N:∀x,¬l x->H2 x=H' x:=λx z=>Ě z;have VU:∀x,l x->H2 x=c.H x:=λx z=>ę z;have Qn:∀x,l x->∃w,cC h S' H' x w:=λx IX=>by
    have(m,A,e):=IX;have(t,ht):=Ym A;have hl:t<ws.length:=by rw[b.len];show(df.mp ht).1
    show#[_,b.JK t m x _ ht e (ve hl)]
  have MG:∀x y,l x->H' x=a5 y->¬Tp y:=λx y z e=>by
    have(w,g):=Qn x z;have(y',d,f):=g.some;rw[e]at d;cases d;show f
  have VV:Mv (λ_=>False) H' (λx=>c.S x\/S' x) H2:=#[λ_ z=>z.elim,λx y e t=>by
    by_cases z:l x
    . show absurd t (MG x y z e)
    . rw[N x z];show e,λ_ _ z _=>z.elim]
  have Kt:∀y∈[r,a'],¬(c.S y\/S' y)/\¬C.J0 y/\(C.H₀ y=bD\/C.IO y):=λy hy=>by
    have O:=o'.fr y hy;rcases gj.mp hy with rfl|hy
    . have T:=o.fr y (by simp)
      show#[λz=>z.elim T.1 O.1,T.2]
    . rw[i8.mp hy]at O ⊢
      rcases NG with z|z
      . have T:=o.fr a (by simp)
        rw[z]at O ⊢;show#[λz=>z.elim T.1 O.1,T.2]
      . have(z1,z2,z3,_,_):=I.eh z
        show#[λz=>z.elim z2 O.1,z3,.inl z1]
  have(Jb,n2):=Ok.yu (c:={c with H:=H1,S:=λx=>c.S x\/S' x}) (H':=H2) (u':=.ob u' us') (as':=[a']) IF (n.trans n1.toNs) hs e1
    (λx z=>by
      by_cases y:l x
      . rw[VU x y];show(Rr x ((JG x).mpr (.inr (.inr y)))).symm
      . rw[N x y]
        show(Nd x λy'=>?_).symm;rcases(JG x).mp y' with y'|y'|y'
        . show z (L x (.inl y'))
        . show z (L x (.inr y'))
        . show y y') (λx y e=>by
      by_cases z:l x
      . have(y',e'):=O4 x ((JG x).mpr (.inr (.inr z)))
        show#[y',by rw[VU x z];show e']
      . rw[N x z]
        by_cases B:h.IO x
        . have(y',e'):=O4 x B
          show b.there x y' e'
        . show#[y,by rw[<-Nd x B];show e])
    (λmv=>#[LB,Up,v',a',vs',rfl,by rw[Lv,<-q.K];show o'.hc,by rw[N r (VT r (.inl rfl))];show o'.ins,o'.ne,Kt,o'.im,((o'.rep.IQ o'.im).cg q).mv VV,by rw[N a' Yt];show o'.lst,o'.Mj,((o'.JT.IQ o'.Mj).cg q).mv VV])
    (λy hy=>by
      rw[i8.mp hy];rcases NG with z|z
      . show .inl (by change a'∈c.kid i;rw[hk,z];simp)
      . have(_,_,_,_,z4):=I.eh z
        show .inr #[z4,n.none z])
  have Jp:i<c.st.length:=(df.mp hs).1;have(cf,O,T,f3,f4,f5,f6,f7,f8):=t8 (C:=C) q (rs:=rs) (vs:=vs) (H':=H') (S':=S') (S1:=λx=>c.S x\/S' x) (λx=>.inr) (IO:=l) (λx z B=>Ow x z ((JG x).mpr (.inr (.inr B)))) MG is ws _ st' Jb n2 rfl Ng I0 (λm A x z=>#[m,A,z]) (λm A j Y=>by
      have(j',k,w,q,g0,d,f,g3,g4):=slot m A;rw[Y]at g0;cases g0;show#[k,w,q,d,?_,g3,g4];have:i≠j:=λz=>by
        rw[<-z,hs]at f;cases f;cases d
      change(c.st.set i _)[j]?=_;rw[ez this];show f) (λt m q w e3 e4 e5=>b.JK t m q w e3 e4 e5) (λx z=>N x λ⟨m,A,y⟩=>z m A y) N
  show#[cf,f6,f3,λx=>by rw[f4],f5,O,T,λy hy=>?_];have VW:∀(j:Nat) (k:Kd) (w:U),cf.st[j]?=a5 (a5 (k,w))->∃D,c.st[j]?=a5 (a5 (k,D)):=λj k w g=>by
    have(D,g):=f8 j k w g;have g:(c.st.set i (a5 (.A',.ob u' us')))[j]?=a5 (a5 (k,D)):=g;by_cases Y:i=j
    . subst Y
      rw[dn Jp]at g;cases g;show#[_,hs]
    . rw[ez Y]at g
      show#[D,g]
  rcases hy with⟨j,k',w',Ju,d,f⟩|⟨j,w',r',d,f,g3⟩
  . have(D,d):=VW j k' w' d
    rw[f3]at f;show .inl (.inl #[j,k',D,Ju,d,f])
  . have(D,d):=VW j _ w' d
    rw[f3]at f;rw[f7]at g3;by_cases Y:j=i
    . subst Y
      have Qj:c.σ[j]?=a5 (a5 (.ref r')):=f;rw[e1]at Qj;cases Qj;rcases g3 with rfl|g3
      . show .inl (.inr #[j,L _ (.inl rfl)])
      . have Oz:y=a':=by simpa using g3
        subst Oz;rcases NG with z|z
        . show .inl (.inr #[j,L _ (.inr z)])
        . show .inr #[z,Uo,Ur]
    . have Oz:y=r'\/y∈c.kid j:=by simpa[Y] using g3
      show .inl (.inr #[j,D,r',d,f,Oz])
def Jz.Ig(t:Jz C c0 c rs vs)(hP:C.P=X.prog)(hw:C.w=X.w)(hK:C.K=X.K)(hs:c.st[i]?=a5 (a5 (.A',.ob u us)))(e1:c.σ[i]?=a5 (a5 (.ref r)))(hk:c.kid i=[a])(o:Lw C c.S c.H r a u us cl dx v0 J2)
  (JG:m8 ((.loc,.IC)::rs) is=a8) (QY:vG rs=a8) :
  Er (KH X.prog X.w X.K c.H (λx=>JO c.H x/\¬(x=r\/x=a\/∃m∈is,(V.ref r::vs)[m]?=a5 (.ref x))/\¬c.S x) (λx=>x=r\/x=a\/∃m∈is,(V.ref r::vs)[m]?=a5 (.ref x)) c.S) c.H c.S 0 r a is (.ob u us::rs.map (·.2)) (.ref r::vs) /\
   (is.map (gT ((.loc,.IC)::rs))).Nodup/\∀m∈is,∃j k w q,gT ((.loc,.IC)::rs) m=a5 j/\Kd.root k=a8/\c.st[j]?=a5 (a5 (k,w))/\c.σ[j]?=a5 (a5 (.ref q))/\(V.ref r::vs)[m]?=a5 (.ref q):=by
 let IO:dt->Prop:=λx=>x=r\/x=a\/∃m∈is,(V.ref r::vs)[m]?=a5 (.ref x);have f:C.Eqv (KH X.prog X.w X.K c.H (λx=>JO c.H x/\¬IO x/\¬c.S x) IO c.S):=#[hP,hw,hK]
 unfold m8 at JG;simp only[b5,qa,Ę,OG,va]at JG;have((h1,h2),h3):=JG;have B:∀m∈is,∃h j xs k q,m=h+1/\gT ((.loc,.IC)::rs) m=a5 j/\rs[h]?=a5 (.bor j,.lst xs)/\Kd.root k=a8/\c.st[j]?=a5 (a5 (k,.lst xs))/\c.σ[j]?=a5 (a5 (.ref q))/\vs[h]?=a5 (.ref q)/\¬c.S q/\¬C.J0 q/\cC C c.S c.H q (.lst xs):=λm d=>by
  have(j,hj):=N8.mp (h1 m d);have(xs,D):=vW hj;cases m with
  |zero=>cases D
  |succ h =>
   have D:rs[h]?=a5 (.bor j,.lst xs):=D;have(v,b1,b):=t.Rp D;have(q,rfl,O,d2,_,G):=t.ok.rootOf b.1 b.2;have(k,l,n):=b.1;show#[h,j,xs,k,q,rfl,hj,D,l,n,b.2,b1,O,d2,G]
 have L:∀x,(x=r\/x=a)->c.RD i x:=λx z=>#[_,r,hs,e1,z.imp id λz=>by rw[hk,z];simp]
 have O5:∀x,IO x->c.R x:=λx z=>by
  rcases z with z|z|⟨m,d,e⟩
  .show .inr #[i,L x (.inl z)]
  .show .inr #[i,L x (.inr z)]
  .have(h,j,xs,k,q,rfl,_,_,l,n,I,A,_):=B m d;have e:vs[h]?=a5 (.ref x):=e;rw[A]at e;cases e;show .inl #[j,k,_,l,n,I]
 have nz:0∉is:=λz=>by
  have(_,_,_,_,_,e,_):=B 0 z;cases e
 have sP:∀x,c.S x->PS (KH X.prog X.w X.K c.H (λx=>JO c.H x/\¬IO x/\¬c.S x) IO c.S) c.S x:=λx z=>.inr z;show#[#[by simp[t.len],λx z=>#[z.1,z.2.1,z.2.2],λx z=>#[t.ok.vA x z,λz'=>(t.ok.root (O5 x z')).1 z],λx=>UN,rfl,nz,#[u,us,rfl,cl,dx,v0,a,J2,rfl,by rw[Lv,show(KH X.prog X.w X.K c.H (λx=>JO c.H x/\¬IO x/\¬c.S x) IO c.S).K=C.K from hK.symm];show o.hc,o.ins,o.ne,λy J=>#[(o.fr y J).1,λz=>z.2.1 (by rcases gj.mp J with z|z;show .inl z;show .inr (.inl (i8.mp z))),.inr (by rcases gj.mp J with z|z;show .inl z;show .inr (.inl (i8.mp z)))],o.im,o.rep.cg f,o.lst,o.Mj,o.JT.cg f],λm w d e=>?_,λm w d Kr e=>?_,λm m2 q d Kr N T=>?_,λu e=>?_],h2,λm d=>?_]
 .have(h,j,xs,k,q,rfl,_,g0,l,n,I,A,g5,g6,g7):=B m d;have e:(rs.map (·.2))[h]?=a5 w:=e;rw[nc,g0]at e;cases e;have K8:c.R1 q:=#[j,k,_,l,n,I]
  show#[q,A,λz=>t.ok.dd.d1 i q (L q (.inl z)) K8,λz=>t.ok.dd.d1 i q (L q (.inr z)) K8,g7.cg f]
 .cases m with
  |zero=>show absurd rfl d
  |succ m =>
   have Y:(rs.map (·.2))[m]?=a5 w:=e;rw[nc,dV]at Y;clear e;have((k',w'),e,rfl):=Y;have(v,b1,b):=t.Rp e;have Jp:m+1<((Kd.loc,U.IC)::rs).length:=by have:=(df.mp e).1;simp;lia
   have VX:=(h3 (m+1) Jp).resolve_left Kr;rw[List.getD_eq_getElem?_getD,show((Kd.loc,U.IC)::rs)[m+1]?=a5 (k',w') from e]at VX;show#[v,b1,Rep.cg f (u:=w') ?_];cases k' with
   |own =>
    have(q,rfl,_,O,d2,G):=b;have(y,J,_):=G.some;show G.rep sP (.inl #[#[y,J],λz=>d2 (O5 q z),O])
   |loc=>show Rep.mv (.up sP) b
   |any=>show Rep.mv (.up λy z=>by
     by_cases hS:c.S y
     .show .inr hS
     .show .inl (z.elim (λz=>#[t.ok.AQ y (.inl z),λz'=>(t.ok.root (O5 y z')).2.1 z,hS]) λz=>absurd z hS)) b
   |bor j' =>
    have(q,rfl,O,d2,_,G):=t.ok.rootOf b.1 b.2;have(y,J,_):=G.some;have(k3,z1,z2):=b.1;show G.rep sP (.inl #[#[y,J],λz=>?_,O]);rcases z with z|z|⟨m2,VY,e'⟩
    .show t.ok.dd.d1 i q (L q (.inl z)) #[j',k3,_,z1,z2,b.2]
    .show t.ok.dd.d1 i q (L q (.inr z)) #[j',k3,_,z1,z2,b.2]
    .have(m4,j2,xs,k2,q2,rfl,g,_,l,n,I,A,_):=B m2 VY;have e':vs[m4]?=a5 (.ref q):=e';rw[e']at A;cases A;have:=t.ok.inj j' j2 k3 k2 _ _ q z1 l z2 n b.2 I;subst this;have:a5 j'∉is.map (gT ((.loc,.IC)::rs)):=by simpa[Cz] using VX
     show this (kj.mpr #[_,VY,g])
   |_=>show b.elim
 .have(Yu,j1,_,k1,q1,rfl,a0,_,D,a2,a3,a4,_):=B m d;have(Yv,j2,_,k2,q2,rfl,b0,_,b1,b,b3,b4,_):=B m2 Kr;have N:vs[Yu]?=a5 (.ref q):=N;have T:vs[Yv]?=a5 (.ref q):=T;rw[N]at a4;cases a4;rw[T]at b4;cases b4;have:=t.ok.inj j1 j2 k1 k2 _ _ q D b1 a2 b a3 b3;subst this;show map_inj h2 _ d _ Kr (by rw[a0,b0])
 .have Y:(rs.map (·.2))[2]?=a5 u:=e;rw[nc,dV]at Y;have((k',w'),N,T):=Y;cases T;unfold vG at QY;rw[N]at QY;have(v,b1,b):=t.Rp N;cases k' with
  |loc=>show#[v,b1,Rep.cg f b]
  |_=>cases QY
 .have(h,j,xs,k,q,rfl,g,_,l,n,I,A,_):=B m d;show#[j,k,_,q,g,l,n,I,A]
def Ih(C:Ct)(c0 c:Cf):Option (U×U)->V->Prop
 |none,v=>v=.IC
 |some (t,w),v=>∃(G:dt->Prop) (q:dt) (a b:V),v=.ref q/\Ji C.K c.H q [a,b]/\Nf C c0 c G/\Rep C G c.H t a/\Rep C c.S c.H w b
abbrev ql(C:Ct)(c0:Cf)(Q:VK)(r:Option (U×U))(st':aq):Prop:=∀c v,c.σ=c0.σ->c.st=st'->Ok C c->Nx c0 c->Ih C c0 c r v->Q v c.H
def Jz.Es(t:Jz C c0 c rs vs)(O:C.P=X.prog)(T:C.w=X.w)(Y:C.K=X.K){E:XK}(hF:Γ f=F)(LV:∀us r,F us=a5 (.ok r)->us.length=np)(w:W (iD Γ f i rs is) c.st (ql C c0 Q)):
  ∃r,c.σ[i]?=a5 (a5 (.ref r))/\Qm X.prog X.w X.K F np 0 is (.ref r::vs) c.H Q E:=by
 have(r',st',e,q):=w;unfold iD at e;split at e
 rotate_left
 .cases e
 rename_i u us hs;rw[hF]at e;split at e
 rotate_left
 .cases e
 rename_i k w u' us' ws A;split at e
 rotate_left
 .cases e
 rename_i hz;split at e
 rotate_left
 .cases e
 rename_i st2 Ng;have(r,cl,dx,v0,a,J2,j,hk,o):=t.ok.jn hs;have(l,I0,slot):=t.Ig (X:=X) O T Y hs j hk o hz.1 hz.2;have d:(V.ref r::vs).length=np:=by
  have z:=LV _ _ A;rw[<-z];simp[t.len]
 have n:(KH X.prog X.w X.K c.H (λx=>JO c.H x/\¬(x=r\/x=a\/∃m∈is,(V.ref r::vs)[m]?=a5 (.ref x))/\¬c.S x) (λx=>x=r\/x=a\/∃m∈is,(V.ref r::vs)[m]?=a5 (.ref x)) c.S).Eqv C:=#[O.symm,T.symm,Y.symm]
 split at e
 .rename_i t' w';cases e;show#[r,j,d,_,.A',.tup [t',w'],.ob u' us',ws,_,_,c.S,r,a,A,l,.inr #[rfl,t',w',rfl,λv H' S' G b g=>?_]];have(B,h,D,I,J,L,N,hR):=t.ok.CH (c0:=c0) t.nx.toNs n hs j hk o (λx=>UN) slot I0 b Ng g.ob;have(y,tv,wv,ev,p1,p2,p3):=g.ex;rw[<-h];show q B v (D.trans t.hσ) J L #[N] #[G,y,tv,wv,ev,by rw[h,<-n.K];show p1,#[λx z=>t.nx.none (g.ap x z).1,λx z=>?_,λx z=>?_],by rw[h];show p2.cg n,by rw[h];show(p3.cg n).mv (.up λx z=>(I x).mpr (.inr z))]
  .have(z1,z2,z3,z4,z5):=t.ok.eh (g.ap x z).1;show#[z1,z3,z4]
  .have(z1,z2,z3,z4,z5):=t.ok.eh (g.ap x z).1;show#[λy=>((I x).mp y).elim z2 (g.ap x z).2.1,λy=>?_,by rw[h];show(g.ap x z).2.2];rcases hR x y with y|⟨_,_,y⟩
   .show z5 y
   .show y z
 .cases e;show#[r,j,d,_,.loc,.IC,.ob u' us',ws,_,_,c.S,r,a,A,l,.inl #[.inr rfl,λv H' S' b=>?_]];have(B,h,D,I,J,L,N,hR):=t.ok.CH (c0:=c0) (G:=λ_=>False) t.nx.toNs n hs j hk o (λx=>UN) slot I0 b Ng λ_ _ z=>z;rw[<-h];show q B v (D.trans t.hσ) J L #[N] (b.loc rfl)
 .cases e
def yJ(h:PA X es (iM C p i ms)):PA X es (iM C p i (ms >>= x9)):=by
 rintro pos pins s σ H Q I ⟨v,c0,ev,rfl,rfl,a,w⟩;show h pos pins s c0.σ c0.H Q I #[v,c0,ev,rfl,rfl,a,?_];rw[ab]at w;show w.mono λrs st b c vs d f g n r=>?_;have(j,st',e,q):=b;cases e;show q c vs d f g n r.VQ
def v5(d:C.P=X.prog)(g:C.w=X.w)(j:C.K=X.K)(l:Γ f=F)(m:∀us r,F us=a5 (.ok r)->us.length=n)
  (G:dC X.prog X.w X.K X.mg X.base (Ky X.prog X.w) k fa o ps (Qm X.prog X.w X.K F n 0 is)) (q:cO k X.A) (v:Gl X f) (x:X.mg f=a5 (.ref fa)) (y:PySem.W.keepIn X.K (.ref fa)=a8) (B:Binds X.K o ps [])
  (D:(f==("__debug__":Str))=b6) (J:PA X (e::es) (iM C 0 i ms)) (L:il (e::es) X.env=(b6,sL e X.env)::il es X.env) (N:(v3 pos (il es X.env)).any (·.1)=b6) :
  PE X (.Call (.Name f T) (e::es) [] pos) (λσ H Q=>∃c0:Cf,c0.σ=σ/\c0.H=H/\Ok C c0/\W (Kh i >>= λ_=>ms >>= λrs=>au rs >>= λ_=>iD Γ f i rs is) c0.st (ql C c0 Q)):=by
 rintro pins s σ H Q I ⟨c0,rfl,rfl,ok,h⟩;rw[ab]at h;have(u,us,hs,h):=dU h;have(r,_,_,_,_,_,ev,_,_):=ok.jn hs;show tj (gc I v x ?_ D);show PySem.W.callWith_K (h₀:=X.base) I.ok.mod.NM y (ID (CG J ev I ok h pos) λus s1 ⟨rs,c,vs,t,a,rv,w⟩=>#[a.KN,?_]) L N;have(Y,b,O):=t.Es (E:=E0) d g j l m w;rw[t.hσ,ev]at b;cases b;have z:=jf (Q:=Q) G q B .nil m7 a rv (by rw[rl];show O);rw[t.hσ]at z;show z
end
end TM
namespace TM
open PySem L2 PyProof.Rows
abbrev Ru(P:ux)(w:wh)(K:PySem.W.Frag)(F:List U->Option (Ex (Kd×U)))(a:Nat):Sp:=λvs H Q _=>vs.length=a/\∃u us v vs' b Pr G,vs=v::vs'/\F (u::us)=a5 (.ok (.loc,.bl b))/\(∀x,Pr x->JO H x/\¬G x)/\(∀x,G x->JO H x) /\
 Rep (KH P w K H Pr (λ_=>False) G) G H u v/\ar (KH P w K H Pr (λ_=>False) G) Pr H us vs'/\∀H',(∀x o,H x=a5 o->¬G x\/Tp o->H' x=a5 o)->(∀x o,H x=a5 o->∃o',H' x=a5 o')->Q (.bl b) H'
abbrev Qo(P:ux)(w:wh)(K:PySem.W.Frag)(F:List U->Option (Ex (Kd×U)))(a:Nat)(is:List Nat):Sp:=if is=[100] then Ru P w K F a else Qm P w K F a 0 is
section
variable{a e ce:lx}{es:List lx}{ma me:M (Kd×U)}{mt:M U}{ms:M (List (Kd×U))}{ns ns':Nat->Bool}{t:U}{v:V}{D:Ends}
def Ok.Gu(b:Ok C c)(p:c.st[j]?=a5 bD)(o:Option V):Ok C {c with σ:=c.σ.set j o}/\Ns c {c with σ:=c.σ.set j o}:=by
 have f:∀(i:Nat) (r:Kd×U),c.st[i]?=a5 (a5 r)->(c.σ.set j o)[i]?=c.σ[i]?:=λi r e=>ez λz=>by subst z;rw[p]at e;cases e
 have m:∀a,({c with σ:=c.σ.set j o}:Cf).R1 a->c.R1 a:=λa ⟨i,k,u,hk,d,g⟩=>#[i,k,u,hk,d,(f i _ d)▸g]
 have s:LK C {c with σ:=c.σ.set j o}:=b.dd.of rfl (λi u e=>#[e,f i _ e]) (λa z=>.inl (m a z)) (.up λ_ z=>z) λi a z=>#[(b.root (.inr #[i,z])).1,λo q=>q]
 show#[#[b.same,b.J8,b.par,b.io,by simp[b.len],λi k u e=>?_,λi n k k' u u' r hk w d g l x=>?_,s],#[λ_ _ h _=>h,λ_ o h=>#[o,h],λa z=>.inl ?_,λ_ h=>h,λ_ h=>.inl h]]
 .have(v,q,z):=b.sl i k u e;show#[v,(f i _ e).trans q,z]
 .show b.inj i n k k' u u' r hk w d g ((f i _ d)▸l) ((f n _ g)▸x)
 .show z.imp (m a) λ⟨i,u,r,d,g,l⟩=>#[i,u,r,d,(f i _ d)▸g,l]
def Ok.Gv(b:Ok C c)(n:Ns c0 c)(g:Nf C c0 c G)(d:∀x o,c.H x=a5 o->¬G x\/Tp o->H' x=a5 o)(f:∀x o,c.H x=a5 o->∃o',H' x=a5 o'):Ok C {c with H:=H' }/\Ns c0 {c with H:=H' }:=by
 have m:Mv c.S c.H c.S H':=#[λ_ z=>z,λx o e z=>d x o e (.inr z),λx o z e=>d x o e (.inl λy=>(g.MK x y).1 z)]
 have A:Mv (PS C c.S) c.H (PS C c.S) H':=#[λ_ z=>z,m.Nv,λx o z e=>d x o e (.inl λy=>z.elim (g.new x y).2.1 (g.MK x y).1)]
 have h:∀x,c.R x->∀o,c.H x=a5 o->H' x=a5 o:=λx z o e=>d x o e (.inl λy=>(g.MK x y).2.1 z);show#[#[λx o e z=>d x o (b.same x o e z) (.inl λy=>by rw[(g.new x y).1]at e;cases e),λx z=>#[(b.J8 x z).1,let ⟨o,q⟩:=(b.J8 x z).2;f x o q],b.par,λx z=>#[(b.io x z).1,let ⟨o,q⟩:=(b.io x z).2;f x o q],b.len,λi k u e=>?_,b.inj,b.dd.hs m λj x z=>#[(b.root (.inr #[j,z])).1,h x (.inr #[j,z])]],#[λx o e z=>d x o (n.keep x o e z) (.inl λy=>by rw[g.h0 x y]at e;cases e),λx o e=>let ⟨o',q⟩:=n.there x o e;f x o' q,n.roots,n.sub,n.new]];have(v,l,p):=b.sl i k u e;show#[v,l,p.mv m A λhk r s=>?_];have(I,w,B,_):=p.rt hk;rw[s]at w;cases w;show#[B,h r (.inl #[i,k,u,hk,e,by rw[l,s]])]
def BI(h:I_ C ns ((vH q >>= λ_=>m) >>= f) D σ H):I_ C ns (m >>= f) D σ H:=by
 have(c0,rfl,rfl,b,h):=h;rw[ab,ab]at h;have(_,st',e,h):=h;rw[<-ab]at h;unfold vH at e;split at e
 .rename_i u c;cases e;have(v,d,g):=b.sl q .own u c;have(r,rfl,_):=g;have(i,j,_):=b.rX (Nx.refl c0) c d;show lA (c0:=c0) (c1:={c0 with S:=λa=>c0.S a\/a=r,st:=c0.st.set q (a5 (.loc,u))}) i j.toNs (Kept.of rfl) h
 .cases e;show#[c0,rfl,rfl,b,h]
 .cases e
def uc(L:Ok C c0)(f:Ok C c)(n:Ns c0 c)(k:Kept ns c0 c)(g:Nf C c0 c G)(r:Rep C G c.H t v)(w:W (P8 t me) c.st (gJ C c0 ns D)):IH C me c.σ c.H λy i=>2<=cK/\∀p,i p=bD->D.rt (.ref p) (upd i p (.tup [v,y])):=by
 show aJ f w λx b y d j=>#[by decide,λp s=>?_]
 rw[ab]at j;have(S',st',u,N,l,A,B,q,_,_):=ff f d.ok d.nx d.rx.w j;rw[ak]at q;have(I,m):=l.lay (o:=.tup [v,y]) (p:=p) s;have h:Ns c {b with S:=S',st:=st',H:=upd b.H p (.tup [v,y])}:=A.toNs.trans m.toNs;have J:=g.on h;show q {b with S:=S',st:=st',H:=upd b.H p (.tup [v,y])} rfl I (n.trans h) (k.trans (Kept.of d.hσ)) (.ref p) _ ⟨rfl,G,p,v,y,rfl,Ji.of aj,r.mv (g.mv f h),B.mv (l.mv m.toNs),λx z=>#[(g.new x z).1,J.MK x z]⟩
def Et(i:PE X ce (λσ H Q=>∃c0:Cf,c0.σ=σ/\c0.H=H/\Ok C c0/\W mt c0.st (nj C c0 Q)))(j:PE X e (IH C me))(hs:il [ce,e] X.env=(b6,sL ce X.env)::il [e] X.env)(k:il [e] X.env=[(b6,sL e X.env)]):
  L2.PS X (.Return (a5 (.Tuple [ce,e] o p)) pos) (I_ C ns (mt >>= λt=>P8 t me)):=by
 show PS.weak (kF (rj (bz i (bz j cP k) hs))) ?_;rintro D σ H ⟨c0,rfl,rfl,d,h⟩;rw[ab]at h;show#[c0,rfl,rfl,d,h.mono λt st1 w c v G f l m n g b=>?_];subst l;change IH C me c0.σ c.H _;rw[<-f];show uc d m n (Kept.of f) g b w
def Eu(z:∀m,ns m=a8->m≠i)(A:X.N.Nodup)(hi:X.N[i]?=a5 y)(B:Loc X.env.scope y)(I:X.fn y=a8)(J:JL X.env.scope y)(L:(y==("__debug__":Str))=b6)(O:(y==("__classdict__":Str))=b6)
  (T:PE X ce (λσ H Q=>∃c0:Cf,c0.σ=σ/\c0.H=H/\Ok C c0/\W mt c0.st (nj C c0 Q))) (Y:Mu ce (a5 (.Name y p1)) p2.line X.env=pure b6) (ha:L2.PS X s2 (I_ C (λ_=>a8) (A4 j q))) (he:PE X e (IH C me)) (Ke:il [e] X.env=[(b6,sL e X.env)]) :
  Jo X [.Assign [.Name y p1] ce p2,s2,.Return (a5 (.Tuple [.Name y p3,e] x1 p)) pos] (I_ C ns (mt >>= λt=>M_ i >>= λ_=>A4 j q >>= F0 (P8 t me))):=by
 show Jo.weak (bZ (jd A hi B T Y (.inl I)) (bZ ha (j9 (kF (rj (bz (aT (pos:=p3) hi J L O) (bz he cP Ke))))))) ?_;rintro D σ H ⟨c0,rfl,rfl,r,h⟩;rw[ab]at h;show#[c0,rfl,rfl,r,h.mono λt st1 w c v G d IB f n g k=>?_];subst IB;rw[ab]at w;have(_,st2,b,w):=w;unfold M_ at b;split at b
 rotate_left
 .cases b
 rename_i s;cases b;have(IF,n1):=f.Gu s (a5 v);rw[ab]at w;change I_ C (λ_=>a8) (A4 j q) _ (c0.σ.set i (a5 v)) c.H;have Jp:i<c.σ.length:=by rw[<-f.len];show(df.mp s).1
 show#[{c with σ:=c.σ.set i (a5 v)},by change c.σ.set i _=_;rw[d],rfl,IF,w.mono λfl st3 u x e3 Ki n3 l=>?_];subst e3;cases fl with
 |nx =>
  have o:Ns c x:=n1.trans n3;have Uu:x.σ[i]?=a5 (a5 v):=by rw[l.1 i rfl];show dn Jp
  show#[v,Uu,uc r Ki (n.toNs.trans o) #[λm hm=>by rw[l.1 m rfl];change(c.σ.set i _)[m]?=_;rw[ez (pq (z m hm)),d],by rw[l.2];change(c.σ.set i _).length=_;simp[d]] (g.on o) (k.mv (g.mv f o)) u]
 |_=>show(aX.mp u).elim
def Gw(hK:C.K=X.K)(hi:X.N[i]?=a5 y)(B:JL X.env.scope y)(G:(y==("__debug__":Str))=b6)(I:(y==("__classdict__":Str))=b6)(hj:X.N[j]?=a5 z)(Yw:JL X.env.scope z)(Yx:(z==("__debug__":Str))=b6)(Uv:(z==("__classdict__":Str))=b6)(Lu:(a1.endLine==k1.line)=a8)(LJ:(a2.endLine==k2.line)=a8):
  Jo X [.Expr (.Call (.Attribute (.Subscript (.Name y p1) (.Constant (.int 0) q1 p2) p3) "append" a1) [.Constant (.str c) q2 p4] [] k1) p5,.Expr (.Call (.Attribute (.Subscript (.Name y p6) (.Constant (.int 1) q3 p7) p8) "append" a2) [.Constant (.str c) q4 p9] [] k2) Rv,.Return (a5 (.Name z Rw)) Rx] (I_ C ns (rW i j)):=by
 have hz:(100000:Nat)<=cK:=by decide
 have P1:=eZ (X:=X) (pos:=p5) (mT (cpos:=k1) PySem.F.plainAttrs_list PySem.F.slot_list_append PySem.F.type_list_append eC (tE (pos:=p3) fL (aT (pos:=p1) hi B G I) (jb (i:=0) (j:=q1) (pos:=p2)) (λ_ _=>rfl)) (bz (nV (x:=c) (j:=q2) (pos:=p4)) cP rfl) rfl rfl Lu rfl rfl);have P2:=eZ (X:=X) (pos:=Rv) (mT (cpos:=k2) PySem.F.plainAttrs_list PySem.F.slot_list_append PySem.F.type_list_append eC (tE (pos:=p8) fL (aT (pos:=p6) hi B G I) (jb (i:=1) (j:=q3) (pos:=p7)) (λ_ _=>rfl)) (bz (nV (x:=c) (j:=q4) (pos:=p9)) cP rfl) rfl rfl LJ rfl rfl);show Jo.weak (bZ P1 (bZ P2 (j9 (kF (pos:=Rx) (aT (pos:=Rw) hj Yw Yx Uv))))) ?_;rintro D σ H ⟨c0,rfl,rfl,ok,fl,st',e,h⟩;have lk:∀{o:Option (Option (Kd×U))} {u:U},A6 o=a5 u->o=a5 (a5 (.loc,u)):=λ{o u} h=>by
  unfold A6 at h;split at h
  .split at h
   .rename_i z;cases h;rw[z]
   .cases h
  .cases h
 have w:rW i j c0.st=a5 (.ok fl,st'):=e;clear e;unfold rW at w;have(u,f,J):=ki.mp w;have(xs,L,O):=ki.mp J;have((pa,pb),g,Q):=ki.mp O;have(gs,T,Y):=ki.mp Q;have(ls,e6,f5):=ki.mp Y;have(uv,l,f6):=ki.mp f5;have(b,e7,A):=ki.mp f6;clear w J O Q Y f5 f6;have f:=lk f;have l:=lk l;have tu:u=.tup [.lst gs,.lst ls]:=by
  cases u<;>first|(cases L;done)|skip
  cases L;unfold F2 at g;split at g
  .cases g;cases pa<;>first|(cases T;done)|skip
   cases pb<;>first|(cases e6;done)|skip
   cases T;cases e6;rfl
  .cases g
 have tv:uv=.bl b:=by
  cases uv<;>first|(cases e7;done)|(cases e7;rfl)
 rw[tu]at f;rw[tv]at l;split at A
 rotate_left
 .cases A
 rename_i ac;cases A;have(v,s1,r1):=ok.sl i _ _ f;have(v2,s2,r2):=ok.sl j _ _ l;obtain rfl:v2=.bl b:=r2;obtain⟨q,vs,rfl,hq,_,_,rfl,⟨k,ws,rfl,⟨Yy,hk⟩,ON⟩,_,_,rfl,⟨m,xs,rfl,⟨Yz,hm⟩,O3⟩,rfl⟩:=r1;have ON:=ON.len;have O3:=O3.len;rw[hK]at hq;show#[.ref q,s1,q,_,0,.ref k,rfl,rfl,hq,bE (j:=0) rfl,.inl #[rfl,ws,.inl (.inl hk)],k,ws,.str c,rfl,rfl,hk,⋯,?_];have qk:q≠k->upd c0.H k (.lst (ws++[.str c])) q=c0.H q:=λz=>ai z;have YA:Ji X.K (upd c0.H k (.lst (ws++[.str c]))) q [.ref k,.ref m]:=by
  rcases hq with(hq|⟨o,hq⟩)|hq
  .show .inl (.inl (by rw[ai λz=>by rw[z,hk]at hq;cases hq];show hq))
  .show .inl (.inr #[o,by rw[ai λz=>by rw[z,hk]at hq;cases hq];show hq])
  .show .inr hq
 have n:∃d,upd c0.H k (.lst (ws++[.str c])) m=a5 (.lst d)/\d.length<cK:=by
  by_cases z:m=k
  .show#[_,by rw[z];show aj,by rw[j0];simp;lia]
  .show#[xs,by rw[ai z];show hm,⋯]
 have(d,n,hl):=n;show#[.ref q,s1,q,_,1,.ref m,rfl,rfl,YA,bE (j:=1) rfl,.inl #[rfl,d,.inl (.inl n)],m,d,.str c,rfl,rfl,n,hl,?_];show#[.bl b,s2,h c0 rfl ok (Ns.refl c0) Kept.refl (.bl b) _ #[rfl,λx o ex p=>?_,λx o ex=>?_]]
 .have r:x≠m:=λz=>by
   rw[z]at ex p;rw[hm]at ex;cases ex;show p.elim (λy=>y Yz) id
  have s:x≠k:=λz=>by
   rw[z]at ex p;rw[hk]at ex;cases ex;show p.elim (λy=>y Yy) id
  rw[ai r,ai s];show ex
 .by_cases r:x=m
  .show#[_,by rw[r];show aj]
  .rw[ai r];by_cases s:x=k
   .show#[_,by rw[s];show aj]
   .show#[o,by rw[ai s];show ex]
def aB.yK(f:Ok C c)(b:∀x,PS C c.S x->Pr x)(g:∀x,c.R x->Pr x)(i:∀x,c0.H x=bD->(∃o,c.H x=a5 o)->Pr x)(h:aB C c0 c k u v):Rep C Pr c.H u v:=by
 cases k with
 |own =>
  have(r,rfl,l,_,_,d):=h;have(o,ho,_):=d.some;show d.rep (λx z=>b x (.inr z)) (i r l #[o,ho])
 |loc=>show Rep.mv (.up λx z=>b x (.inr z)) h
 |any=>show Rep.mv (.up b) h
 |bor j =>
  have(r,rfl,_,_,_,d):=f.rootOf h.1 h.2;have(k,hk,z):=h.1;show d.rep (λx z=>b x (.inr z)) (g r (.inl #[j,k,u,hk,z,h.2]))
 |_=>show h.elim
def Jz.yK(t:Jz C c0 c rs vs)(d:∀x,PS C c.S x->Pr x)(f:∀x,c.R x->Pr x)(g:∀x,c0.H x=bD->(∃o,c.H x=a5 o)->Pr x):ar C Pr c.H (rs.map (·.2)) vs:=by
 have b:∀(l:List (Kd×U)) (w:List V),cu C c0 c l w->aY l c.st->ar C Pr c.H (l.map (·.2)) w:=by
  intro l;induction l with
  |nil=>intro w h _;show h
  |cons r l i =>
   intro w h hs;have(v,t',rfl,j,k,_):=h;rw[dN]at hs;show#[v,t',rfl,(j.t hs.1).yK t.ok d f g,i t' k hs.2]
 show b rs vs t.rep t.MF
def Gy(JH:∀m,ns' m=a8->ns m=a8/\m≠i/\m≠j/\m≠q)(J3:i≠j)(Uw:i≠q)(hP:C.P=X.prog)(hw:C.w=X.w)(hK:C.K=X.K)(hN:X.N.Nodup)
  (hi:X.N[i]?=a5 y) (hy:Loc X.env.scope y) (Ut:X.fn y=a8) (hv:JL X.env.scope y) (hd:(y==("__debug__":Str))=b6) (IM:(y==("__classdict__":Str))=b6) (hq:X.N[q]?=a5 yq) (YB:Loc X.env.scope yq) (YC:X.fn yq=a8)
  (Qp:PE X ce (λσ H Q=>∃c0:Cf,c0.σ=σ/\c0.H=H/\Ok C c0/\W mq c0.st (ql C c0 Q))) (LY:Mu ce (a5 (.Name y p1)) p2.line X.env=pure b6) (YD:L2.PS X B1 (I_ C (λm=>cb (m≠j)) (m1 >>= λr=>dy j r >>= λ_=>pure .nx)))
  (hF:Γ h=F) (LV:∀us r,F us=a5 (.ok r)->us.length=np) (hZ:dC X.prog X.w X.K X.mg X.base (Ky X.prog X.w) kd fa fd ps (Ru X.prog X.w X.K F np)) (hr:cO kd X.A) (hg:Gl X h) (k:X.mg h=a5 (.ref fa)) (Oi:PySem.W.keepIn X.K (.ref fa)=a8) (hb:Binds X.K fd ps []) (KO:(h==("__debug__":Str))=b6)
  (ha:PA X es (JR C ms)) (JE:(v3 Ux (il es X.env)).any (·.1)=b6) (Qr:Jo X L (I_ C ns m2)) :
  Jo X (.Assign [.Name y p1] ce p2::.If (.Compare (.Name y p3) [.IsNot] [.Constant .none k1 p4] p5) [B1,.Assign [.Name yq p6] (.Subscript (.Name y p7) (.Constant (.int 1) k2 p8) p9) Rv,.If (.UnaryOp .Not (.Call (.Name h Rw) (.Subscript (.Name y Rx) (.Constant (.int 0) k3 VZ) V0::es) [] Ux) V1) [.Return (a5 (.Constant (.bool b6) k4 YE)) YF] [] YG] [] ZS::L)
   (I_ C ns' ((mq >>= λr=>M_ i >>= λ_=>A5 Γ j m1 q h ms r) >>= qd m2)):=by
 have YH:=jd (X:=X) (pos:=Rv) (pos':=p6) hN hq YB (tE (pos:=p9) fL (aT (pos:=p7) hi hv hd IM) (jb (i:=1) (j:=k2) (pos:=p8)) (λ_ _=>rfl)) rfl (.inl YC);have YI:=Av (X:=X) (p:=Rw) (pos:=Ux) (E:=E0) hZ hr hg k Oi hb .nil m7 (bz (tE (pos:=V0) fL (aT (pos:=Rx) hi hv hd IM) (jb (i:=0) (j:=k3) (pos:=VZ)) (λ_ _=>rfl)) ha rfl) KO rfl JE;have YJ:=xh (X:=X) (pos:=YG) (xg (pos:=V1) (C9 YI)) (j9 (kF (pos:=YF) (w9 (b:=b6) (j:=k4) (pos:=YE)))) j8;rintro O s σ H D I ⟨c0,rfl,rfl,ok,h0⟩;have YK:q<c0.σ.length:=by rw[I.len];show(df.mp hq).1
 show(bZ (jd hN hi hy Qp LY (.inl Ut)) (bZ (xh (qT (Am (aT hi hv hd IM))) (bZ YD (bZ YH (j9 YJ))) j8) Qr)) O s c0.σ c0.H D I ?_;rw[ab,ab]at h0;show#[c0,rfl,rfl,ok,h0.mono λr st1 w c v hσ IB B n T=>?_];subst IB;rw[ab]at w;have(_,st2,J,w):=w;unfold M_ at J;split at J
 rotate_left
 .cases J
 rename_i Ro;cases J;have(IF,n1):=B.Gu Ro (a5 v);have Jp:i<c.σ.length:=by rw[<-B.len];show(df.mp Ro).1
 have V2:(c.σ.set i (a5 v))[i]?=a5 (a5 v):=dn Jp;have Y:∀l:Cf,Ok C l->Ns c0 l->Kept ns' c0 l->W m2 l.st (gJ C c0 ns' D)->I_ C ns m2 D l.σ l.H:=λl o5 n5 k5 w5=>jm (λm k=>(JH m k).1) (lA o5 n5 k5 w5);have k1:Kept ns' c0 {c with σ:=c.σ.set i (a5 v)}:=#[λm k=>by change(c.σ.set i _)[m]?=_;rw[ez (pq (JH m k).2.1),hσ],by change(c.σ.set i _).length=_;simp[hσ]]
 change Ft _ _ _ (c0.σ.set i (a5 v)) c.H;rw[show c0.σ.set i (a5 v)=c.σ.set i (a5 v) by rw[hσ]];show#[v,V2,!cb (v=.IC),rfl,?_];cases r with
 |none =>
  obtain rfl:v=.IC:=T;rw[Ě (by simp)];rw[show A5 Γ j m1 q h ms bD=pure .nx from rfl,ak]at w;show Y _ IF (n.toNs.trans n1) k1 w
 |some tw =>
  have(t,w'):=tw;have(G,d,tv,wv,rfl,N9,g,YL,YM):=T;rw[ę (by simp)];rw[show A5 Γ j m1 q h ms (a5 (t,w'))=(m1 >>= λr=>dy j r) >>= λ_=>dy q (.loc,w') >>= λ_=>ms >>= λrs=>au rs >>= λ_=>m9 Γ h t rs from rfl,ab,ab]at w;show#[{c with σ:=c.σ.set i (a5 (.ref d))},rfl,rfl,IF,?_];rw[ab];show w.mono λr st w=>?_;rw[ab];show w.mono λ_ st' w=>?_;rw[ak];intro c2 J Jb n2 k2;subst J;have Uy:Ns c c2:=n1.trans n2;have V3:c2.σ[i]?=a5 (a5 (.ref d)):=by rw[k2.1 i (by simpa using J3)];show V2
  have YN:q<c2.σ.length:=by rw[k2.2];change q<(c.σ.set i _).length;rw[So,hσ];show YK
  rw[ab]at w;have(u,f1,f2,Ki,n3,w):=oJ (r:=(.loc,w')) (v:=wv) (i:=q) Jb Jb (Nx.refl c2) YN (YM.mv (B.mv Uy)) w;have O0:Ns c u:=Uy.trans n3.toNs;have Uu:u.σ[i]?=a5 (a5 (.ref d)):=by rw[f1,ez (pq Uw)];show V3
  have k3:Kept ns' c0 u:=#[λm k=>by
   have(_,m1,m2,m3):=JH m k;rw[f1,ez (pq m3),k2.1 m (by simpa using m2)];show k1.1 m k,by rw[f1,So,k2.2];show k1.2]
  have YO:Ji X.K c2.H d [tv,wv]:=by rw[<-hK];show(B.mv Uy).Tw N9
  have YQ:Ji X.K u.H d [tv,wv]:=by rw[<-hK];show(B.mv O0).Tw N9
  show#[.ref d,V3,d,_,1,wv,rfl,rfl,YO,bE (j:=1) rfl,?_]
  dsimp only [pK]
  rw[<-f1,<-f2];show#[.ref d,Uu,d,_,0,tv,rfl,rfl,YQ,bE (j:=0) rfl,?_];rw[ab]at w;show#[u,rfl,rfl,Ki,w.mono λrs LF w4 f vs e4 e5 Lz n4 r4=>?_];subst e5;rw[ab,bQ]at w4;have(K5,fl,st5,e6,w5):=w4;unfold m9 at e6;split at e6
  rotate_left
  .cases e6
  rename_i b Uz;cases e6;have ts:Jz C u f rs vs:=#[e4,Lz,n4,r4,K5]
  have Oq:Ns c f:=O0.trans n4.toNs;have g4:=g.on Oq;have g3:=g.on O0;rw[hF]at Uz;have ac:C.Eqv (KH X.prog X.w X.K f.H (λx=>JO f.H x/\¬G x) (λ_=>False) G):=#[hP,hw,hK]
  show#[?_,t,rs.map (·.2),tv,vs,b,λx=>JO f.H x/\¬G x,G,by rw[rl],Uz,λx z=>z,λx z=>(g4.MK x z).2.2,(YL.mv (g.mv B Oq)).cg ac,(ts.yK (Pr:=λx=>JO f.H x/\¬G x) (λx z=>#[Lz.AQ x z,λy=>z.elim (g4.new x y).2.1 (g4.MK x y).1]) (λx z=>#[let #[_,_,_,o,q,_]:=Lz.root z;⟨o,q⟩,λy=>(g4.MK x y).2.1 z]) (λx z z'=>#[z',λy=>by have(_,_,o,q):=g3.MK x y;rw[z]at q;cases q])).cg ac,λH' z1 z2=>?_]
  .have z:=LV _ _ Uz;rw[<-z];simp[ts.len]
  have(Rj,n5):=Lz.Gv ((n.toNs.trans Oq)) g4 z1 z2;have k5:Kept ns' c0 {f with H:=H' }:=k3.trans (Kept.of e4);show#[b,rfl,?_];cases b with
  |true =>
   rw[Ě (by simp)];change I_ C ns m2 D u.σ H';rw[<-e4];show Y {f with H:=H' } Rj n5 k5 w5
  |false =>
   rw[ę (by simp)];rw[show qd m2 (if (b6=a8) then Fl.nx else Fl.rt .loc (.bl b6))=pure (.rt .loc (.bl b6)) from rfl,ak]at w5;show w5 {f with H:=H' } rfl Rj n5 k5 (.bl b6) rfl
end
structure Ck where
 fns:List Str
 gl:List (Str×U)
 JK:List (Str×List Nat)
 xc:List Str
 xd:List (Str×Str)
 obs:List (Str×Nat×Str)
abbrev oO:U->U->Bool
 |.int i,.int j=>cb (i=j)
 |.str x,.str y=>cb (x=y)
 |.bl a,.bl b=>a==b
 |.IC,.IC=>a8
 |_,_=>b6
def cj(h:oO u v=a8):u=v:=by
 cases u<;>cases v<;>simp[oO]at h<;>subst_vars<;>rfl
abbrev noStar:lx->Bool
 |.Starred _ _=>b6
 |_=>a8
abbrev d7:lx->Bool
 |.Slice _ _ _ _=>b6
 |_=>a8
abbrev se:lx->Bool
 |.Set _ _ _=>b6
 |_=>a8
abbrev oP:lx->Bool
 |.Call (.Name _ _) [] [] _=>b6
 |_=>a8
abbrev cA:lx->Bool
 |.ListComp _ _ _ _=>b6
 |.SetComp _ _ _ _=>b6
 |.DictComp _ _ _ _ _=>b6
 |_=>a8
abbrev Ew:lx->Bool
 |.Tuple _ _ _=>b6
 |_=>a8
abbrev J6(a:z8)(x:Str):Bool:=cb (a.names.lookup x=a5 .globalImplicit)
abbrev fS(a:z8)(x:Str):Bool:=cb (a.names.lookup x=a5 .local)||decide (a.names.lookup x=a5 .cell)||decide (a.names.lookup x=a5 .free)
abbrev gY(a:z8)(x:Str):Bool:=cb (a.names.lookup x=a5 .local)||decide (a.names.lookup x=a5 .cell)
abbrev Gz(a:z8)(x:Str):Bool:=cb (a.names.lookup x=a5 .local)
abbrev bb(x:Str):Bool:=!(x==("__debug__":Str))&&!(x==("__classdict__":Str))
abbrev ud(N:List Str)(a:z8)(fa:Str->Bool)(i:Nat):lx->Bool
 |.Name x _=>cb (N[i]?=a5 x)&&gY a x&&(fa x||Gz a x)
 |_=>b6
abbrev oQ(N:List Str)(a:z8)(fa:Str->Bool):List Nat->List lx->Bool
 |[],[]=>a8
 |i::is,e::es=>ud N a fa i e&&oQ N a fa is es
 |_,_=>b6
abbrev gK:lx->List Str
 |.Name x _=>[x]
 |.Tuple es _ _=>es.filterMap fun|.Name x _=>a5 x|_=>bD
 |_=>[]
abbrev hide(a N:List Str):List Str:=match a.filter λx=>cb (x∈N) with
 |[]=>N
 |[x]=>N.set (N.idxOf x) "."
 |x::y::_=>(N.set (N.idxOf x) ".").set (N.idxOf y) ".."
abbrev O6(t:Bool)(N:List Str)(a:z8)(fa:Str->Bool)(is:List Nat):lx->Bool
 |.Name x p=>!t&&(match is with|[i]=>ud N a fa i (.Name x p)|_=>b6)
 |.Tuple es _ _=>t&&oQ N a fa is es&&is.all λi=>cb (i<N.length)
 |_=>b6
abbrev isTup:lx->Bool
 |.Tuple _ _ _=>a8
 |_=>b6
abbrev lB(e:lx):Option (Str×List lx):=match e with
 |.Call f as a _=>match f with
  |.Name x _=>if a.isEmpty=a8 then a5 (x,as) else bD
  |_=>bD
 |_=>bD
def fT(h:lB e=a5 (x,as)):∃p q,e=.Call (.Name x p) as [] q:=by
 unfold lB at h;split at h
 .split at h
  .split at h
   .rename_i hk;rw[oT]at hk;cases h;subst hk;show#[_,_,rfl]
   .cases h
  .cases h
 .cases h
abbrev fU(a:z8)(b:lx)(c:Ik)(e:lx):Option (List lx):=match c with
 |.seq=>a5 [e]
 |.Jv=>(lB e).bind λp=>if p.1="range"/\J6 a p.1=a8/\p.2.length=1 then a5 p.2 else bD
 |.M5=>(lB e).bind λp=>if p.1="range"/\J6 a p.1=a8/\p.2.length=2 then a5 p.2 else bD
 |.Ny=>(lB e).bind λp=>if p.1="enumerate"/\J6 a p.1=a8/\p.2.length=1/\isTup b=a8 then a5 p.2 else bD
 |_=>bD
abbrev simple:Bf->Bool:=λ_=>a8
abbrev Ey(scope a:z8):z8:={scope with names:=scope.names.map λ(n,k)=>if (k==Jj&&a.kind==.function&&a.names.lookup n==a5 .cell)=a8 then(n,.cell) else(n,k)}
abbrev aD(e:lx)(k:Str->Bool):Bool:=match e with|.Name x _=>k x|_=>b6
def ah(h:aD e k=a8):∃x p,e=.Name x p/\k x=a8:=by
 unfold aD at h;split at h
 .show#[_,_,rfl,h]
 .cases h
abbrev dB{α:Type}(l:List α)(k:α->Bool):Bool:=match l with|[a]=>k a|_=>b6
def aV(h:dB l k=a8):∃a,l=[a]/\k a=a8:=by
 unfold dB at h;split at h
 .show#[_,rfl,h]
 .cases h
abbrev dz(e:lx)(k:lx->List lx->Pos->Bool):Bool:=match e with|.Call f as a p=>a.isEmpty&&k f as p|_=>b6
def aM(h:dz e k=a8):∃f as p,e=.Call f as [] p/\k f as p=a8:=by
 unfold dz at h;split at h
 .rename_i f as a p;rw[b5,oT]at h;have(rfl,h):=h;show#[_,_,_,rfl,h]
 .cases h
abbrev ei(e:lx)(k:lx->Str->Pos->Bool):Bool:=match e with|.Attribute o m p=>k o m p|_=>b6
def bM(h:ei e k=a8):∃o m p,e=.Attribute o m p/\k o m p=a8:=by
 unfold ei at h;split at h
 .show#[_,_,_,rfl,h]
 .cases h
abbrev yL(e:lx)(k:lx->Á->lx->Bool):Bool:=match e with|.BinOp a op b _=>k a op b|_=>b6
def sf(h:yL e k=a8):∃a op b p,e=.BinOp a op b p/\k a op b=a8:=by
 unfold yL at h;split at h
 .show#[_,_,_,_,rfl,h]
 .cases h
abbrev nv(e:lx)(k:lx->CmpOp->lx->Bool):Bool:=match e with|.Compare a ops bs _=>dB ops λop=>dB bs λb=>k a op b|_=>b6
def dW(h:nv e k=a8):∃a op b p,e=.Compare a [op] [b] p/\k a op b=a8:=by
 unfold nv at h;split at h
 .have(op,rfl,c):=aV h;have(b,rfl,d):=aV c;show#[_,_,_,_,rfl,d]
 .cases h
abbrev c8(e:lx)(k:lx->Str->Pos->List lx->Pos->Bool):Bool:=dz e λf as cpos=>ei f λo m apos=>k o m apos as cpos
def aR(h:c8 e k=a8):∃o m apos as cpos,e=.Call (.Attribute o m apos) as [] cpos/\k o m apos as cpos=a8:=by
 have(f,as,p,rfl,h):=aM h;have(o,m,q,rfl,h):=bM h;show#[_,_,_,_,_,rfl,h]
abbrev iP(e:lx)(k:lx->lx->Bool):Bool:=match e with|.Subscript a b _=>k a b|_=>b6
def cD(h:iP e k=a8):∃a b p,e=.Subscript a b p/\k a b=a8:=by
 unfold iP at h;split at h
 .show#[_,_,_,rfl,h]
 .cases h
abbrev UA:E->Bool
 |.var _=>a8
 |.cst _=>a8
 |_=>b6
abbrev ny{α:Type}(l:List α)(k:α->α->Bool):Bool:=match l with|[a,b]=>k a b|_=>b6
def dX(h:ny l k=a8):∃a b,l=[a,b]/\k a b=a8:=by
 unfold ny at h;split at h
 .show#[_,_,rfl,h]
 .cases h
abbrev lC(e:lx)(k:Const->Bool):Bool:=match e with|.Constant c _ _=>k c|_=>b6
def c9(h:lC e k=a8):∃c q p,e=.Constant c q p/\k c=a8:=by
 unfold lC at h;split at h
 .show#[_,_,_,rfl,h]
 .cases h
abbrev Ii:Const->Option U
 |.int j=>a5 (.int j)
 |.str y=>a5 (.str y)
 |.bool y=>a5 (.bl y)
 |.none=>a5 .IC
 |_=>bD
abbrev Ij(u:U)(c:Const):Bool:=match Ii c with|some v=>oO u v|none=>b6
abbrev BJ(e:lx)(op:BoolOp)(k:List lx->Bool):Bool:=match e with|.BoolOp o es _=>cb (o=op)&&k es|_=>b6
def jo(h:BJ e op k=a8):∃es p,e=.BoolOp op es p/\k es=a8:=by
 unfold BJ at h;split at h
 .rw[b5,Ę]at h;have(rfl,h):=h;show#[_,_,rfl,h]
 .cases h
abbrev BK(e:lx)(op:UnaryOp)(k:lx->Bool):Bool:=match e with|.UnaryOp o a _=>cb (o=op)&&k a|_=>b6
def jq(h:BK e op k=a8):∃a p,e=.UnaryOp op a p/\k a=a8:=by
 unfold BK at h;split at h
 .rw[b5,Ę]at h;have(rfl,h):=h;show#[_,_,rfl,h]
 .cases h
abbrev nA(e:lx)(k:List lx->Bool):Bool:=match e with|.Tuple l _ _=>k l|_=>b6
def fj(h:nA e k=a8):∃l q p,e=.Tuple l q p/\k l=a8:=by
 unfold nA at h;split at h
 .show#[_,_,_,rfl,h]
 .cases h
abbrev yM(e:lx)(k:List lx->Bool):Bool:=match e with|.List l _=>k l|_=>b6
def sg(h:yM e k=a8):∃l p,e=.List l p/\k l=a8:=by
 unfold yM at h;split at h
 .show#[_,_,rfl,h]
 .cases h
abbrev BL(e:lx):Bool:=match e with|.Dict a b _=>a.isEmpty&&b.isEmpty|_=>b6
def nB(h:BL e=a8):∃p,e=.Dict [] [] p:=by
 unfold BL at h;split at h
 .rw[b5,oT,oT]at h;have(rfl,rfl):=h;show#[_,rfl]
 .cases h
abbrev yN(e:lx)(k:Option lx->Option lx->Bool):Bool:=match e with|.Slice a b c _=>c.isNone&&k a b|_=>b6
def si(h:yN e k=a8):∃a b p,e=.Slice a b bD p/\k a b=a8:=by
 unfold yN at h;split at h
 .rw[b5,Q0]at h;have(rfl,h):=h;show#[_,_,_,rfl,h]
 .cases h
abbrev Ez(e:lx)(k:lx->lx->lx->List lx->z8->Bool):Bool:=match e with|.ListComp elt a b _=>dB a λg=>cb (g.is_async=0)&&k elt g.target g.iter g.ifs b|_=>b6
def jr(h:Ez e k=a8):∃elt d a b f p,e=.ListComp elt [⟨d,a,b,0⟩] f p/\k elt d a b f=a8:=by
 unfold Ez at h;split at h
 .have((d,a,b,z),rfl,c):=aV h;rw[b5,Ę]at c;have(rfl,c):=c;show#[_,_,_,_,_,_,rfl,c]
 .cases h
abbrev isNm(e:lx)(n:Str):Bool:=aD e λx=>cb (x=n)
def gv(h:isNm e n=a8):∃p,e=.Name n p:=by
 have(x,p,e,z):=ah h;show#[p,ĝ z▸e]
abbrev BM(v:lx)(f:Str)(k:List lx->Bool):Bool:=dz v λg as _=>isNm g f&&k as
def jt(h:BM v f k=a8):∃as p q,v=.Call (.Name f p) as [] q/\k as=a8:=by
 have(g,as,q,rfl,z):=aM h;rw[b5]at z;have(p,rfl):=gv z.1;show#[as,p,q,rfl,z.2]
abbrev KA(N:List Str)(a:z8)(i:Nat)(x:Str):Bool:=cb (N[i]?=a5 x)&&fS a x&&bb x
abbrev EA:lx->Bool
 |.List [] _=>a8
 |_=>b6
def v7(h:EA e=a8):∃p,e=.List [] p:=by
 unfold EA at h;split at h
 .show#[_,rfl]
 .cases h
abbrev OD(N:List Str)(a:z8)(i:Nat):Option lx->Bool
 |some (.Name y _)=>KA N a i y
 |_=>b6
def lD(h:OD N a i o=a8):∃y p,o=a5 (.Name y p)/\KA N a i y=a8:=by
 unfold OD at h;split at h
 .show#[_,_,rfl,h]
 .cases h
mutual
noncomputable def bp(k:Ck):E->List Str->z8->lx->Bool
 |.var i,N,d,g=>aD g λx=>cb (N[i]?=a5 x)&&fS d x&&bb x
 |.cst u,N,d,g=>lC g λc=>Ij u c
 |.Le x u,N,d,g=>aD g λy=>cb (x=y)&&J6 d x&&bb x&&k.gl.any λp=>cb (p.1=x)&&oO p.2 u
 |.bin op a b,N,d,g=>yL g λa' s j=>cb (op.op=s)&&bp k a N d a'&&bp k b N d j
 |.cmp op a b,N,d,g=>nv g λa' s j=>cb (op.op=s)&&!NR s j&&bp k a N d a'&&bp k b N d j
 |.Mn _ _ _ _ _,_,_,_=>b6
 |.and es,N,d,g=>BJ g .And λh=>aC k es N d h
 |.or es,N,d,g=>BJ g .Or λh=>aC k es N d h
 |.not a,N,d,g=>BK g .Not λa'=>bp k a N d a'
 |.ite _ _ _,_,_,_=>b6
 |.neg _,_,_,_=>b6
 |.bad,_,_,_=>a8
 |.Jy i,N,d,g=>ei g λo m _=>aD o λx=>cb (m="rows")&&KA N d i x
 |.LL i,N,d,g=>dz g λl as _=>aD l λf=>dB as λa'=>ei a' λo m _=>aD o λx=>cb (f="len")&&cb (m="earlier")&&J6 d f&&KA N d i x
 |.KZ i,N,d,g=>nv g λa' op j=>ei a' λo m _=>aD o λx=>EA j&&cb (op=.Eq)&&cb (m="earlier")&&KA N d i x
 |.j4 i,N,d,g=>c8 g λo m apos as cpos=>ei o λo2 m2 _=>aD o2 λx=>as.isEmpty&&cb (m="pop")&&cb (m2="earlier")&&(apos.endLine==cpos.line)&&KA N d i x
 |.J_ f i es es2,N,d,g=>dz g λl as _=>aD l λx=>cb (x=f)&&cb ((f,es.length,("":Str))∈k.obs)&&J6 d x&&bb x&&OD N d i as[es.length]?&&aC k es N d (as.take es.length)&&aC k es2 N d (as.drop (es.length+1))
 |.Kq f m i es,N,d,g=>c8 g λo y apos as cpos=>aD o λx=>cb (y=m)&&cb ((f,0,m)∈k.obs)&&(cb (m≠"")&&cb (m≠"rows")&&cb (m≠"earlier"))&&KA N d i x&&(apos.endLine==cpos.line)&&cb (as.length<20)&&aC k es N d as
 |.pop i,N,d,g=>c8 g λo m apos as cpos=>aD o λx=>as.isEmpty&&cb (m="pop")&&cb (N[i]?=a5 x)&&fS d x&&bb x&&(apos.endLine==cpos.line)
 |.M6 _ _,_,_,_=>b6
 |.inD neg a i,N,d,g=>nv g λa' s j=>aD j λx=>cb (Ei neg=s)&&!NR s j&&cb (N[i]?=a5 x)&&fS d x&&bb x&&bp k a N d a'
 |.OW i,N,d,g=>aD g λx=>cb (N[i]?=a5 x)&&fS d x&&bb x
 |.Lf i a b,N,d,g=>c8 g λo m apos as cpos=>aD o λx=>ny as λa' j=>cb (m="get")&&cb (N[i]?=a5 x)&&fS d x&&bb x&&(apos.endLine==cpos.line)&&noStar a'&&noStar j&&bp k a N d a'&&bp k b N d j
 |.OX i,N,d,g=>dz g λl as _=>aD l λf=>dB as λc=>c8 c λo m apos bs cpos=>aD o λx=>bs.isEmpty&&cb (f="sorted")&&J6 d f&&cb (m="items")&&cb (N[i]?=a5 x)&&fS d x&&bb x&&(apos.endLine==cpos.line)
 |.Q8 _ _ _,_,_,_=>b6
 |.fst es,N,d,g=>b6
 |.J4 a T,N,d,g=>dz g λl as _=>aD l λx=>ny as λa' j=>aD j λy=>cb (x="isinstance")&&cb (y=T.name)&&J6 d x&&J6 d y&&noStar a'&&bp k a N d a'
 |.tup es,N,d,g=>nA g λh=>aC k es N d h
 |.lst es,N,d,g=>yM g λh=>aC k es N d h
 |.KY _,N,d,g=>BL g
 |.idx a b,N,d,g=>iP g λa' j=>d7 j&&bp k a N d a'&&bp k b N d j
 |.Kg a lo hi,N,d,g=>iP g λa' j=>yN j λw z=>bp k a N d a'&&sj k lo N d w&&sj k hi N d z
 |.bi f es,N,d,g=>dz g λl h _=>aD l λx=>cb (x=f.name)&&simple f&&J6 d x&&!h.isEmpty&&aC k es N d h
 |.ME f es,N,d,g=>dz g λl as _=>aD l λx=>dB as λc=>dz c λg' h _=>aD g' λy=>cb (x=f.oI)&&cb (y=f.iK)&&J6 d x&&J6 d y&&!h.isEmpty&&aC k es N d h
 |.Lx m a es,N,d,g=>c8 g λo name apos h cpos=>cb (name=m.name)&&oP o&&(apos.endLine==cpos.line)&&!h.isEmpty&&cb (h.length<20)&&bp k a N d o&&aC k es N d h
 |.call f es,N,d,g=>dz g λl h _=>aD l λx=>cb (x=f)&&cb (f∈k.fns)&&J6 d x&&bb x&&!h.isEmpty&&aC k es N d h
 |.comp n t A src cond e,N,d,g=>Ez g λelt q r v scope =>
   cb ((gK q).length=n)&&DL (gK q++hide (gK q) N) (gK q) scope d.names&&O6 t (gK q++hide (gK q) N) (Ey scope d) (λx=>cb (scope.names.lookup x=a5 .cell)) (hH n) q&&se r &&
   (match fU d q A r with
    |some as=>aC k src N d as
    |none=>b6) &&
   cb (v.length<=1)&&aC k cond (gK q++hide (gK q) N) (Ey scope d) v&&bp k e (gK q++hide (gK q) N) (Ey scope d) elt
noncomputable def aC(k:Ck):List E->List Str->z8->List lx->Bool
 |[],_,_,a=>a.isEmpty
 |e::es,N,b,a=>match a with
  |e'::a=>noStar e'&&bp k e N b e'&&aC k es N b a
  |[]=>b6
noncomputable def sj(k:Ck):List E->List Str->z8->Option lx->Bool
 |[],_,_,o=>o.isNone
 |[e],N,a,o=>match o with
  |some b=>bp k e N a b
  |none=>b6
 |_::_::_,_,_,_=>b6
end
abbrev bq:List Str:=["len","sorted","repr","max","min","all","any","list","tuple","str","int","range","enumerate","zip","reversed","set","dict","sum","isinstance","bool"]
structure NH(ck:Ck)(K:PySem.W.Frag)(mg:Str->Option dr):Prop where
 xc:∀x∈ck.xc,∃C,mg x=a5 (.ref C)/\PySem.W.nsIn K mx x=a5 (a5 (.ref C))/\PySem.W.excIn K C Vv "ValueError.__new__"=a8
 xd:∀p∈ck.xd,∃C D,mg p.1=a5 (.ref C)/\PySem.W.nsIn K mx p.1=a5 (a5 (.ref C))/\mg p.2=a5 (.ref D)/\PySem.W.exmOne K (.ref C) (.ref D)=a5 a8
structure v8(P:ux)(w:wh)(K:PySem.W.Frag)(mg:Str->Option dr)(base:Km)(d:Nat)(F:List U->Option (Ex (Kd×U)))(f:Str):Prop where
 ex:∃(np:Nat) (fa:dt) (fd:QU) (ps:List Str),dC P w K mg base (Ky P w) d fa fd ps (spT P w K F np)/\mg f=a5 (.ref fa)/\PySem.W.keepIn K (.ref fa)=a8/\Binds K fd ps []/\(∀us k u,F us=a5 (.ok (k,u))->(k=.own\/k=.loc\/k=.any)/\us.length=np)/\∀us c,F us=a5 (.exc c)->us.length=np
structure Il(P:ux)(w:wh)(K:PySem.W.Frag)(mg:Str->Option dr)(base:Km)(d:Nat)(F:List U->Option (Ex (Kd×U)))(f:Str)(p:Nat)(m:Str):Prop where
 ex:∃(np:Nat) (fa:dt) (fd:QU) (ps:List Str),dC P w K mg base (Ky P w) d fa fd ps (MJ P w K F np p)/\(m=""->mg f=a5 (.ref fa))/\PySem.W.keepIn K (.ref fa)=a8/\(m≠""->∀cl,Lv K cl->Meth K cl m fa)/\Binds K fd ps []/\∀us r,F us=a5 (.ok r)->us.length=np
structure RA(P:ux)(w:wh)(K:PySem.W.Frag)(mg:Str->Option dr)(base:Km):Prop where
 ex:∃cl fi fd,LU K cl/\Mk K cl fi/\dC P w K mg base OO 1 fi fd ["self"] (Uk cl)/\Binds K fd ["self"] []/\mg "Shelf"=a5 (.ref cl)
structure Im(P:ux)(w:wh)(K:PySem.W.Frag)(mg:Str->Option dr)(base:Km)(d:Nat)(F:List U->Option (Ex (Kd×U)))(f:Str)(is:List Nat):Prop where
 ex:∃(np:Nat) (fa:dt) (fd:QU) (ps:List Str),dC P w K mg base (Ky P w) d fa fd ps (Qo P w K F np is)/\mg f=a5 (.ref fa)/\PySem.W.keepIn K (.ref fa)=a8/\Binds K fd ps []/\∀us r,F us=a5 (.ok r)->us.length=np
structure O7(ck:Ck)(Γ:Tab)(P:ux)(w:wh)(K:PySem.W.Frag)(mg:Str->Option dr)(base:Km)(d:Nat):Prop where
 f:∀p∈ck.JK,Im P w K mg base d (Γ p.1) p.1 p.2
 o:∀q∈ck.obs,Il P w K mg base d (Γ q.1) q.1 q.2.1 q.2.2
 sh:RA P w K mg base
 lv:2<=d
structure Gd(ck:Ck)(Γ:Tab)(C:Ct)(d:Nat)(X:Cx):Prop where
 P:C.P=X.prog
 w:C.w=X.w
 K:C.K=X.K
 u:X.A.units+60<Kc
 calm:X.calm=a8
 room:cO d X.A
 blt:∀x∈bq,X.mg x=bD
 fns:∀f∈ck.fns,v8 X.prog X.w X.K X.mg X.base d (Γ f) f
 KC:∀p∈ck.gl,∃val v,X.mg p.1=a5 val/\RelV v val/\∀S H,Rep C S H p.2 v
 JK:O7 ck Γ X.prog X.w X.K X.mg X.base d
def Gd.cx(g:Gd ck Γ C d X)(N:List Str)(a:z8)(D:dt)(s:hQ)(H:Hp)(ex:List dt):Gd ck Γ C d (JQ X N a D s H ex) :=
 #[g.P,g.w,g.K,g.u,g.calm,g.room,g.blt,g.fns,g.KC,g.JK]
def b8(h:fS a x=a8):JL a x:=by
 unfold fS at h;simp only[OG,Ę]at h;rcases h with(h|h)|h
 .show .inl h
 .show .inr (.inl h)
 .show .inr (.inr h)
def aG(h:bb x=a8):(x==("__debug__":Str))=b6/\(x==("__classdict__":Str))=b6:=by
 unfold bb at h;simpa using h
def aO(h:noStar e=a8):il (e::es) env=(b6,sL e env)::il es env:=by
 cases e<;>first|rfl|cases h
def qm(h:d7 e=a8):j_ e:=by
 intro o i;cases e<;>first|rfl|cases h
def sm(h:se e=a8):∀x,L0 e env x=pure x:=by
 intro x;cases e<;>first|rfl|cases h
def kg(h:oP o=a8):NT o name env a=a:=by
 cases o with
 |Call f as ks p =>
  cases f with
  |Name x q=>cases as with
   |nil=>cases ks with
    |nil=>cases h
    |cons _ _=>rfl
   |cons _ _=>rfl
  |_=>rfl
 |_=>rfl
def aQ(h:∀e∈es,noStar e=a8):(v3 pos (il es env)).any (·.1)=b6/\(v3 pos (il es env)).all (λx=>!x.1)=a8:=by
 induction es with
 |nil=>show#[rfl,rfl]
 |cons e es a =>
  rw[aO (h e (by simp))];have:=a λb c=>h b (by simp[c]);constructor
  .change(b6||(v3 pos (il es env)).any (·.1))=b6;rw[this.1];rfl
  .change(!b6&&(v3 pos (il es env)).all (λx=>!x.1))=a8;rw[this.2];rfl
def bI(h:aC k es N c a=a8):∀e∈a,noStar e=a8:=by
 induction es generalizing a with
 |nil =>
  cases a with
  |nil=>intro e he;cases he
  |cons _ _=>simp[aC]at h
 |cons x es b =>
  cases a with
  |nil=>intro e he;cases he
  |cons d a =>
   simp only[aC,b5]at h;intro e he;rcases gj.mp he with rfl|he
   .show h.1.1
   .show b h.2 e he
def nE(a:∀x,fa x=a8->X.fn x=a8)(h:ud X.N X.env.scope fa i e=a8):r6 X e i:=by
 cases e with
 |Name x p =>
  simp only[ud,b5,Ę,gY,OG,Gz]at h;show#[x,p,rfl,h.1.1,?_,?_]
  .rcases h.1.2 with z|z
   .show .inl z
   .show .inr z
  .rcases h.2 with z|z
   .show .inl (a x z)
   .show .inr z
 |_=>cases h
theorem lE(a:∀x,fa x=a8->X.fn x=a8):∀{is:List Nat}{es:List lx},oQ X.N X.env.scope fa is es=a8->fg X es is
 |[],[],_=>.nil
 |[],_::_,h=>by cases h
 |_::_,[],h=>by cases h
 |i::is,e::es,h=>by
  simp only[oQ,b5]at h;show .cons (nE a h.1) (lE a h.2)
def ue(d:X.calm=a8)(e:C.K=X.K)(a:X.N.Nodup)(b:∀x,fa x=a8->X.fn x=a8)(h:O6 t X.N X.env.scope fa is c=a8):PG X c (tG C t is):=by
 cases c with
 |Name x p =>
  simp only[O6,b5,sx]at h;have(rfl,h):=h;cases is with
  |nil=>cases h
  |cons i is=>cases is with
   |nil=>show Ee a (nE b h)
   |cons _ _=>cases h
 |Tuple es k p =>
  simp only[O6,b5,qa,Ę]at h;have((rfl,f),g):=h;show F_ d e a (lE b f) g
 |_=>cases h
def nF(a N:List Str):d_ ((a++hide a N).drop a.length) N:=by
 rw[Sr rfl];unfold hide;split
 .show .refl N
 .show(d_.refl N).set _ (.inl rfl)
 .show((d_.refl N).set _ (.inl rfl)).set _ (.inr rfl)
abbrev Bf.ZT:Bf->Bool
 |.len=>a8|.sorted=>a8|.repr=>a8|.max=>a8|.min=>a8|.all=>a8|.any=>a8|_=>b6
abbrev Bf.id:Bf->String
 |.len=>"len"|.sorted=>"sorted"|.repr=>"repr"|.max=>"max"|.min=>"min"|.all=>"all"|.any=>"any"
 |.list=>"list"|.tuple=>"tuple"|.str=>"str"|.int=>"int"
def BN:∀f:Bf,simple f=a8->zr f.name=a5 f.val/\f.name∈bq/\f.name≠"__name__"/\(f.name==("__debug__":Str))=b6:=by
 intro f h;cases f<;>first|show⟨by decide +kernel,by decide +kernel,by decide +kernel,by decide +kernel⟩|(cases h;done)
def EB:∀f:Bf,simple f=a8->(f.val=.builtin f.id\/f.val=.type f.id):=by
 intro f h;cases f<;>first|show .inl rfl|show .inr rfl|(cases h;done)
def EC:∀f:B2,f.oI∈bq/\f.iK∈bq:=by
 intro f;cases f<;>show#[by decide +kernel,by decide +kernel]
def BO:∀f:Mf,Slot "str" f.name f.id/\Zh (.builtin f.id)=pure (.type "method_descriptor"):=by
 intro f;cases f with
 |split=>show#[PySem.F.slot_str_split,PySem.F.type_str_split]
 |join=>show#[PySem.F.slot_str_join,PySem.F.type_str_join]
 |partition=>show#[PySem.F.slot_str_partition,PySem.F.type_str_partition]
 |endswith=>show#[PySem.F.slot_str_endswith,PySem.F.type_str_endswith]
section
def cS(h:J6 X.env.scope x=a8):Gl X x:=by
 unfold J6 at h;change X.env.kindOf x=a5 .globalImplicit;show ĝ h
def BP:("enumerate":Str)∈bq:=by decide +kernel
def qo:("isinstance":Str)∈bq:=by decide +kernel
def yO(T:Mm):T.name∈bq:=by cases T<;>decide +kernel
def uf:("range":Str)∈bq:=by decide +kernel
def CI(g:Gd ck Γ C d X)(h:fU X.env.scope o r i=a5 as)(n:PA X as (JR C (aK Γ src)))(s:∀a,as=[a]->∃e,src=[e]/\PE X a (IH C (ev Γ e)))(l:∀e∈as,noStar e=a8):PI X o i (Mq C r (aK Γ src)):=by
 unfold fU at h;split at h
 .cases h;have(e,rfl,t):=s _ rfl;show Ec g.K t
 .rw[ki]at h;have((x,bs),j,h):=h;split at h
  .rename_i k;cases h;have(c,f,hl):=k
   dsimp only at c f hl
   subst c;have(p,q,rfl):=fT j;have(b,rfl):=Sf.mp hl;show Bs (cS f) (g.blt _ uf) (aO (l _ (by simp))) n
  .cases h
 .rw[ki]at h;have((x,bs),j,h):=h;split at h
  .rename_i k;cases h;have(c,f,hl):=k
   dsimp only at c f hl
   subst c;have(p,q,rfl):=fT j;obtain⟨b,m,rfl⟩:∃b m,bs=[b,m]:=by match bs,hl with|[b,m],_=>show#[b,m,rfl]
   have s1:=aO (env:=X.env) (es:=[]) (l _ (show _∈[_,_] from ko _ k9));show Bt (cS f) (g.blt _ uf) (by rw[aO (l _ k9),s1];rfl) s1 n
  .cases h
 .rw[ki]at h;have((x,bs),j,h):=h;split at h
  .rename_i k;cases h;have(c,f,hl,u):=k
   dsimp only at c f hl
   subst c;have(p,q,rfl):=fT j;have(b,rfl):=Sf.mp hl;cases o with
   |Tuple es v ps=>show Ed g.K (cS f) (g.blt _ BP) (aO (l _ (by simp))) n
   |_=>cases u
  .cases h
 .cases h
def CJ{a:M α}{b:α->M β}{c:α->M γ}{g:γ->M δ}{st:aq}{Q:δ->aq->Prop}(w:W (a >>= λx=>b x >>= λ_=>c x >>= g) st Q):W ((a >>= λx=>b x >>= λ_=>c x) >>= g) st Q:=by
 simp only[ab]at w ⊢;show w
def bc:PT X e (J1 C M.fail):=λa s σ H Q I ⟨_,_,_,_,w⟩=>(aX.mp w).elim
def gZ:PE X e (IH C M.fail):=λa s σ H Q I ⟨_,_,_,_,w⟩=>(aX.mp w).elim
def PT.eqv(h:PT X e (J1 C m))(i:∀st Q,W a st Q->W m st Q):PT X e (J1 C a):=PT.weak h λσ H Q ⟨c0,b,c,d,w⟩=>#[c0,b,c,d,i _ _ w]
def GA(g:Gd ck Γ C d X)(b:PA X a (JR C (aK Γ es)))
  (h:(cb (x=f.name)&&simple f&&J6 X.env.scope x&&!a.isEmpty&&aC ck es X.N X.env.scope a)=a8):PE X (.Call (.Name x p) a [] pos) (IH C (ev Γ (.bi f es))):=by
 simp only[b5,Ę,sx]at h;obtain⟨⟨⟨⟨rfl,c⟩,i⟩,n⟩,o⟩:=h;have(b1,j,b3,b4):=BN f c;have k:=bI o;cases a with
 |nil=>cases n
 |cons q l =>
  have st:=aO (env:=X.env) (es:=l) (k q (by simp));have m:=(aQ (pos:=pos) (env:=X.env) (es:=l) λe r=>k e (by simp[r])).1;rcases EB f c with hv|hv
  .show Bm g.calm g.K g.room.gd g.u hv (cS i) (g.blt _ j) (by rw[b1,hv]) b3 b4 b st m
  .show Bn g.calm g.K g.room.gd g.u hv (cS i) (g.blt _ j) (by rw[b1,hv]) b3 b4 b st m
def GB(g:Gd ck Γ C d X)(i:PA X a (JR C (aK Γ es)))
  (h:(cb (x=f.oI)&&cb (y=f.iK)&&J6 X.env.scope x&&J6 X.env.scope y&&!a.isEmpty&&aC ck es X.N X.env.scope a)=a8):PE X (.Call (.Name x p) [.Call (.Name y p2) a [] pos2] [] pos) (IH C (ev Γ (.ME f es))):=by
 simp only[b5,Ę,sx]at h;obtain⟨⟨⟨⟨⟨rfl,rfl⟩,j⟩,k⟩,l⟩,m⟩:=h;have(b1,n):=EC f;have b:=bI m;cases a with
 |nil=>cases l
 |cons o c =>
  have st:=aO (env:=X.env) (es:=c) (b o (by simp));have q:=(aQ (pos:=pos2) (env:=X.env) (es:=c) λe r=>b e (by simp[r])).1;show Br g.calm g.K (cS j) (g.blt _ b1) (cS k) (g.blt _ n) i st q
def GC(g:Gd ck Γ C d X)(j:PE X o (IH C (ev Γ a)))(k:PA X b (JR C (aK Γ es)))
  (h:(cb (name=m.name)&&oP o&&(apos.endLine==cpos.line)&&!b.isEmpty&&cb (b.length<20)&&bp ck a X.N X.env.scope o&&aC ck es X.N X.env.scope b)=a8):PE X (.Call (.Attribute o name apos) b [] cpos) (IH C (ev Γ (.Lx m a es))):=by
 simp only[b5,Ę,sx]at h;obtain⟨⟨⟨⟨⟨⟨rfl,l⟩,n⟩,p⟩,q⟩,v⟩,r⟩:=h;have f:=bI r;have(s1,s2):=BO m;cases b with
 |nil=>cases p
 |cons i c =>
  have st:=aO (env:=X.env) (es:=c) (f i (by simp));have s:=(aQ (pos:=cpos) (env:=X.env) (es:=c) λe t=>f e (by simp[t])).1;have u:=(aQ (pos:=cpos) (env:=X.env) (es:=i::c) f).2;show Bp g.K s1 s2 j k (kg l) ?_ n st s;rw[u];have:(i::c).length+([]:List Ni).length+(if ([]:List Ni).isEmpty=a8 then 0 else 1)<30:=by simp at q ⊢;lia
  simp only[Ĝ this];rfl
def yP(g:Gd ck Γ C d X)(i:PA X a (JR C (aK Γ es)))
  (h:(cb (x=f)&&cb (f∈ck.fns)&&J6 X.env.scope x&&bb x&&!a.isEmpty&&aC ck es X.N X.env.scope a)=a8):PE X (.Call (.Name x p) a [] pos) (IH C (ev Γ (.call f es))):=by
 simp only[b5,Ę,sx]at h;obtain⟨⟨⟨⟨⟨rfl,j⟩,k⟩,l⟩,m⟩,n⟩:=h;have b:=bI n;have(z,fa,A,ps,o,q,r,s,t,_):=(g.fns _ j).ex;cases a with
 |nil=>cases m
 |cons u c =>
  have st:=aO (env:=X.env) (es:=c) (b u (by simp));have v:=(aQ (pos:=pos) (env:=X.env) (es:=c) λe y=>b e (by simp[y])).1;show yg g.P g.w g.K rfl t o g.room (cS k) q r s (aG l).1 i st v
def c_{X:Cx}(h:KA X.N X.env.scope i x=a8):X.N[i]?=a5 x/\JL X.env.scope x/\(x==("__debug__":Str))=b6/\(x==("__classdict__":Str))=b6:=by
 simp only[KA,b5,Ę]at h;have(a,b):=aG h.2;show#[h.1.1,b8 h.1.2,a,b]
def yQ(g:Gd ck Γ C d X)(c:PA X as (iM C es.length i (aK Γ es >>= λr1=>aK Γ es2 >>= λr2=>pure (r1++r2))))(a:∀e∈as,noStar e=a8)(h:as≠[])
  (j:x=f) (k:(f,es.length,("":Str))∈ck.obs) (l:J6 X.env.scope x=a8) (m:bb x=a8):PE X (.Call (.Name x p) as [] pos) (IH C (ev Γ (.J_ f i es es2))):=by
 subst j;have(z,fa,A,ps,n,q,r,_,s,t):=(g.JK.o _ k).ex;cases as with
 |nil=>show absurd rfl h
 |cons u b =>
  have st:=aO (env:=X.env) (es:=b) (a u (by simp));have v:=(aQ (pos:=pos) (env:=X.env) (es:=b) λe y=>a e (by simp[y])).1;show yH g.P g.w g.K rfl t n g.room (cS l) (q rfl) r s (aG m).1 c st v
def Io(b:OD X.N X.env.scope i as[0]?=a8)(c:PA X (as.drop 1) (JR C ms)):PA X as (iM C 0 i ms):=by
 have(y,p,e,z):=lD b;have(d,f,g,h):=c_ z;cases as with
 |nil=>cases e
 |cons a as =>
  cases e;show ua d f g h c
def BQ(g:Gd ck Γ C d X)(j:PA X as (iM C 0 i (aK Γ es)))(a:∀e∈as,noStar e=a8)(k:as≠[])
  (l:x=f) (m:(f,is)∈ck.JK) (hz:is≠[100]) (n:J6 X.env.scope x=a8) (o:bb x=a8):PE X (.Call (.Name x p) as [] pos) (λσ H Q=>∃c0:Cf,c0.σ=σ/\c0.H=H/\Ok C c0/\W (Kh i >>= λ_=>(aK Γ es >>= x9) >>= λrs=>au rs >>= λ_=>iD Γ f i rs is) c0.st (ql C c0 Q)):=by
 subst l;have(b,fa,z,ps,c,q,r,s,t):=(g.JK.f _ m).ex;rw[show Qo X.prog X.w X.K (Γ x) b is=Qm X.prog X.w X.K (Γ x) b 0 is from Ě hz]at c;cases as with
 |nil=>show absurd rfl k
 |cons u h =>
  have st:=aO (env:=X.env) (es:=h) (a u (by simp));have v:=(aQ (pos:=pos) (env:=X.env) (es:=h) λe y=>a e (by simp[y])).1;show v5 g.P g.w g.K rfl t c g.room (cS n) q r s (aG o).1 (yJ j) st v
def CK{Post:Cf->VK->Kd×U->aq->Prop}(g:Gd ck Γ C d X)(D:PA X as (JR C (aK Γ es)))(h:∀e∈as,noStar e=a8)(j:as=[]->es=[])(G:(apos.endLine==pos.line)=a8)(Jt:as.length<20)
  (I:(f,0,m)∈ck.obs) (b:m≠""/\m≠"rows"/\m≠"earlier") (J:KA X.N X.env.scope i x=a8)
  (MN:∀{k:Nat} {rs vs c0 c Q},(∀us r,Γ f us=a5 (.ok r)->us.length=k)->Jz C c0 c rs vs->W (dk Γ f 0 i rs) c.st (Post c0 Q)->∃r u us cl L a O T,c.st[i]?=a5 (a5 (.A',.ob u us))/\c.σ[i]?=a5 (a5 (.ref r))/\Lw C c.S c.H r a u us cl L O T/\MJ X.prog X.w X.K (Γ f) k 0 (eJ 0 (.ref r) vs) c.H Q E0) :
  PE X (.Call (.Attribute (.Name x px) m apos) as [] pos) (λσ H Q=>∃c0:Cf,c0.σ=σ/\c0.H=H/\Ok C c0/\W (ev Γ (.Kq f m i es)) c0.st (Post c0 Q)):=by
 have(k,fa,fd,ps,l,_,q3,n,p,q):=(g.JK.o _ I).ex;have(cl,_,_,K,_):=g.JK.sh.ex;have(s,t,v,z):=c_ J;have A:=BH (x:=x) (y:=m) (px:=px) (apos:=apos) (pos:=pos) (env:=X.env) (as:=as) (by rw[(aQ h).2];change(a8&&a8&&cb (as.length+0+0<30))=a8;rw[Ĝ ⋯];rfl) G;cases as with
 |nil =>
  cases j rfl;show vZ K g.P g.w g.K s t v z l g.room (n b.1 cl K.hc) p b.2 (MN q) A
 |cons Y B =>
  have st:=aO (env:=X.env) (es:=B) (h Y (by simp));have sn:=(aQ (pos:=pos) (env:=X.env) (es:=B) λe j=>h e (by simp[j])).1;show yI K g.P g.w g.K s t v z l g.room (n b.1 cl K.hc) p b.2 D st sn (MN q) A
def GD(g:Gd ck Γ C d X)(b:PA X as (JR C (aK Γ es)))(c:∀e∈as,noStar e=a8)(j:as=[]->es=[])(k:(apos.endLine==pos.line)=a8)(l:as.length<20)
  (n:(f,0,m)∈ck.obs) (o:m≠""/\m≠"rows"/\m≠"earlier") (p:KA X.N X.env.scope i x=a8):PE X (.Call (.Attribute (.Name x px) m apos) as [] pos) (IH C (ev Γ (.Kq f m i es))):=λa s σ H Q I q=>by
 have(c0,r,u,v,h):=q;subst r;show CK (Post:=b_ C) g b c j k l n o p (λy t w=>t.CF g.P g.w g.K rfl y w) a s _ H Q I ⟨c0,rfl,u,v,h⟩
def GF(g:Gd ck Γ C d X)(c:PA X as (JR C (aK Γ es)))(j:∀e∈as,noStar e=a8)(k:as=[]->es=[])(l:(apos.endLine==pos.line)=a8)(n:as.length<20)
  (o:(f,0,m)∈ck.obs) (p:m≠""/\m≠"rows"/\m≠"earlier") (q:KA X.N X.env.scope i x=a8):PE X (.Call (.Attribute (.Name x px) m apos) as [] pos) (λσ H Q=>∃c0:Cf,c0.σ=σ/\c0.H=H/\Ok C c0/\W (P7 Γ f i (aK Γ es)) c0.st (nj C c0 Q)):=λb s σ H Q I r=>by
 have(c0,u,v,y,h):=r;rw[P7,ab]at h;show CK (Post:=λc0 Q a st'=>W (tU a) st' (nj C c0 Q)) g c j k l n o p q (λz t w=>t.Gq g.P g.w g.K rfl z w) b s σ H Q I ⟨c0,u,v,y,h⟩
def UB(d:OD N c i as[n]?=a8)(f:aC k es N c (as.take n)=a8)(g:aC k es2 N c (as.drop (n+1))=a8):(∀e∈as,noStar e=a8)/\as≠[]/\True:=by
 have(y,p,e,z):=lD d;have b:n<as.length:=(df.mp e).1;show#[λa ha=>?_,(λz=>by rw[z]at b;cases b),trivial];rw[<-Sw n as,N6 b]at ha;rcases i'.mp ha with ha|ha
 .show bI f a ha
 .rcases gj.mp ha with ha|ha
  .rw[ha,(df.mp e).2];rfl
  .show bI g a ha
def PA.GH(h:PA X as (iM C p i m))(j:∀st Q,W b st Q->W m st Q):PA X as (iM C p i b):=λpos a s σ H Q I ⟨v,c0,c,d,e,f,w⟩=>h pos a s σ H Q I #[v,c0,c,d,e,f,j _ _ w]
def eN(h:(b&&aC k es N a c)=a8):aC k es N a c=a8:=(qv.mp h).2
mutual
theorem bC:∀(e:E) (X:Cx) (k:lx),Gd ck Γ C d X->bp ck e X.N X.env.scope k=a8->PE X k (IH C (ev Γ e))
 |.var i,X,k,g,h=>by
  have(x,O,rfl,B):=ah h;clear h;have h:=B;simp only[b5,Ę]at h;have(h3,h4):=aG h.2;show oH h.1.1 (b8 h.1.2) h3 h4
 |.cst u,X,k,g,h=>by
  have(c,q0,O,rfl,B):=c9 h;cases c with
  |int j=>have:=cj B;subst this;show iJ jb λ_ _=>rfl
  |str y=>have:=cj B;subst this;show iJ nV λ_ _=>rfl
  |bool y=>have:=cj B;subst this;show iJ w9 λ_ _=>rfl
  |none=>have:=cj B;subst this;show iJ w_ λ_ _=>rfl
  |_=>cases B
 |.Le x u,X,k,g,h=>by
  have(y,O,rfl,B):=ah h;clear h;have h:=B;simp only[b5,Ę,R6]at h;obtain⟨⟨⟨rfl,J⟩,L⟩,p,hp,e1,e2⟩:=h;have:=cj e2;subst this e1;have(val,v,q1,q2,q3):=g.KC p hp;show iJ (Ak (cS J) q1 q2 (aG L).1) q3
 |.bin op a b,X,k,g,h=>by
  have(a',L3,b',O,rfl,B):=sf h;clear h;have h:=B;simp only[b5,Ę]at h;have((rfl,J),L):=h;show A9 g.K (bC a X _ g J) (bC b X _ g L)
 |.cmp op a b,X,k,g,h=>by
  have(a',L3,b',O,rfl,A):=dW h;have h:=A;simp only[b5,Ę,sx]at h;obtain⟨⟨⟨rfl,h0⟩,J⟩,L⟩:=h;show A_ g.P g.w g.K g.u (bC a X _ g J) (bC b X _ g L) h0
 |.Mn o1 o2 a b c,X,k,g,h=>absurd (show b6=a8 from h) i6
 |.and es,X,k,g,h=>by
  have(IA,O,rfl,B):=jo h;clear h;have h:=B;show yR es X _ g h
 |.or es,X,k,g,h=>gZ
 |.not a,X,k,g,h=>by
  have(a',O,rfl,B):=jq h;clear h;have h:=B;show Bb (bC a X _ g h)
 |.neg a,X,k,g,h=>absurd (show b6=a8 from h) i6
 |.bad,X,k,g,h=>gZ
 |.Jy i,X,k,g,h=>by
  have(o,m,q,rfl,A):=bM h;have(x,px,rfl,G):=ah A;simp only[b5,Ę]at G;have(rfl,J):=G;have(w1,w2,w3,w4):=c_ J;have(cl,_,_,K,_):=g.JK.sh.ex;show yA K g.K w1 w2 w3 w4
 |.LL i,X,k,g,h=>by
  have(f',as,O,rfl,A):=aM h;have(f,p1,rfl,G):=ah A;have(a',rfl,z3):=aV G;have(o,m,q,rfl,z4):=bM z3;have(x,px,rfl,z5):=ah z4;simp only[b5,Ę]at z5;obtain⟨⟨⟨rfl,rfl⟩,J⟩,L⟩:=z5;have(w1,w2,w3,w4):=c_ L;have(cl,_,_,K,_):=g.JK.sh.ex;show yB K g.K w1 w2 w3 w4 (cS J) (g.blt _ (by decide))
 |.KZ i,X,k,g,h=>gZ
 |.j4 i,X,k,g,h=>by
  have(o,m,apos,as,cpos,rfl,A):=aR h;have(o2,m2,q,rfl,G):=bM A;have(x,px,rfl,z3):=ah G;simp only[b5,Ę,oT]at z3;obtain⟨⟨⟨⟨rfl,rfl⟩,rfl⟩,J⟩,L⟩:=z3;have(w1,w2,w3,w4):=c_ L;have(cl,_,_,K,_):=g.JK.sh.ex;show yE K g.K w1 w2 w3 w4 J
 |.J_ f i es es2,X,k,g,h=>by
  have(f',as,O,rfl,A):=aM h;have(x,p1,rfl,G):=ah A;simp only[b5,Ę]at G;obtain⟨⟨⟨⟨⟨⟨J,L⟩,h3⟩,h4⟩,Y⟩,h6⟩,h7⟩:=G;have(e1,e2,e3):=UB Y h6 h7;show yQ g (ED es es2 X as g Y h6 (fV es2 X _ g h7)) e1 e2 J L h3 h4
 |.Kq f m i es,X,k,g,h=>by
  have(o,y,apos,as,cpos,rfl,A):=aR h;have(x,px,rfl,G):=ah A;simp only[b5,Ę]at G;obtain⟨⟨⟨⟨⟨⟨rfl,L⟩,⟨h3,h4⟩,Y⟩,h6⟩,h8⟩,h9⟩,h7⟩:=G;show GD g (fV es X as g h7) (bI h7) (λz=>by subst z;cases es with|nil=>rfl|cons _ _=>simp[aC]at h7) h8 h9 L ⟨h3,h4,Y⟩ h6
 |.pop i,X,k,g,h=>by
  have(o,m,apos,as,cpos,rfl,A):=aR h;have(x,px,rfl,G):=ah A;simp only[b5,Ę,oT]at G;obtain⟨⟨⟨⟨⟨rfl,rfl⟩,J⟩,L⟩,h3⟩,h4⟩:=G;have(q1,q2):=aG h3;show BA J (b8 L) q1 q2 h4 g.K
 |.M6 i a,X,k,g,h=>absurd (show b6=a8 from h) i6
 |.inD neg a i,X,k,g,h=>gZ
 |.OW i,X,k,g,h=>by
  have(x,O,rfl,B):=ah h;clear h;have h:=B;simp only[b5,Ę]at h;have(h3,h4):=aG h.2;show Bv h.1.1 (b8 h.1.2) h3 h4
 |.Lf i a b,X,k,g,h=>by
  have(o,m,apos,as,cpos,rfl,A):=aR h;have(x,px,rfl,G):=ah A;have(a',b',rfl,z3):=dX G;clear h A;have G:=z3;simp only[b5,Ę]at G;obtain⟨⟨⟨⟨⟨⟨⟨⟨rfl,J⟩,L⟩,h3⟩,h4⟩,Y⟩,h6⟩,h7⟩,h8⟩:=G;have(q1,q2):=aG h3;have sa:=aQ (pos:=cpos) (env:=X.env) (es:=[a',b']) λe he=>by
   rcases gj.mp he with rfl|he
   .show Y
   .simp at he;subst he;show h6
  show yy g.u J (b8 L) q1 q2 (bC a X _ g h7) (bC b X _ g h8) #[rfl,by rw[sa.2];rfl,h4,by rw[aO Y,aO h6];rfl]
 |.OX i,X,k,g,h=>by
  have(f',as,_,rfl,A):=aM h;have(f,_,rfl,G):=ah A;have(c,rfl,z3):=aV G;have(o,m,apos,bs,cpos,rfl,z4):=aR z3;have(x,px,rfl,z5):=ah z4;simp only[b5,Ę,oT]at z5;obtain⟨⟨⟨⟨⟨⟨⟨rfl,rfl⟩,J⟩,rfl⟩,h3⟩,h4⟩,Y⟩,h6⟩:=z5;have(q1,q2):=aG Y;show Bz g.calm g.K (cS J) (g.blt _ (by decide +kernel)) h3 (b8 h4) q1 q2 h6
 |.Q8 ln a b,X,k,g,h=>gZ
 |.fst es,X,k,g,h=>gZ
 |.J4 a T,X,k,g,h=>by
  have(f',as,O,rfl,A):=aM h;have(x,p1,rfl,G):=ah A;clear h A;have(a',b',rfl,z4):=dX G;have(y,p2,rfl,z3):=ah z4;have h:=z3;simp only[b5,Ę]at h;obtain⟨⟨⟨⟨⟨rfl,rfl⟩,J⟩,L⟩,h3⟩,h4⟩:=h;show t5 g.K (cS J) (g.blt _ qo) (cS L) (g.blt _ (yO T)) (bC a X _ g h4) (aO h3)
 |.ite c a b,X,k,g,h=>absurd (show b6=a8 from h) i6
 |.tup es,X,k,g,h=>by
  have(l,q0,O,rfl,B):=fj h;clear h;have h:=B;show Bg (fV es X _ g h)
 |.lst es,X,k,g,h=>by
  have(l,O,rfl,B):=sg h;clear h;have h:=B;show Bh (fV es X _ g h)
 |.KY r,X,k,g,h=>by
  have(O,rfl):=nB h;show yf g.P g.w r
 |.idx a b,X,k,g,h=>by
  have(a',b',O,rfl,B):=cD h;clear h;have h:=B;simp only[b5]at h;show Bi g.K g.u (qm h.1.1) (bC a X _ g h.1.2) (bC b X _ g h.2)
 |.Kg a lo hi,X,k,g,h=>by
  have(a',b',O,rfl,A):=cD h;have(V4,KU,p1,rfl,B):=si A;clear h A;simp only[b5]at B;show Bl g.K (bC a X _ g B.1.1) (GI lo X _ g B.1.2) (GI hi X _ g B.2)
 |.bi f es,X,k,g,h=>by
  have(f',as,O,rfl,A):=aM h;have(x,p1,rfl,G):=ah A;have h:=G;show GA g (fV es X _ g (eN h)) h
 |.ME f es,X,k,g,h=>by
  have(f',as,O,rfl,A):=aM h;have(x,p1,rfl,G):=ah A;have(c,rfl,z3):=aV G;have(g',as',p2,rfl,z4):=aM z3;have(y,p3,rfl,z5):=ah z4;have h:=z5;show GB g (fV es X _ g (eN h)) h
 |.Lx m a es,X,k,g,h=>by
  have(o,name,apos,as,cpos,rfl,A):=aR h;have h:=A;have h':=h;simp only[b5]at h';show GC g (bC a X _ g h'.1.2) (fV es X _ g (eN h)) h
 |.call f es,X,k,g,h=>by
  have(f',as,O,rfl,A):=aM h;have(x,p1,rfl,G):=ah A;have h:=G;show yP g (fV es X _ g (eN h)) h
 |.comp n t ik src cond e,X,k,g,h=>by
  have(elt,tg,ac,al,scope,O,rfl,B):=jr h;clear h;have h:=B;simp only[b5,Ę]at h;obtain⟨⟨⟨⟨⟨⟨⟨J,L⟩,h3⟩,h4⟩,Y⟩,h6⟩,h7⟩,h8⟩:=h;subst J;have S:=xQ (X:=X) rfl (nF _ _) L;split at Y
  .rename_i as am;have IB:=bI Y;have hI:PI X tg ac (Mq C ik (aK Γ src)):=CI g am (fV src X _ g Y) (λa e=>by
    subst e;cases src with
    |nil=>simp[aC]at Y
    |cons e1 JC =>
     cases JC with
     |nil =>
      simp only[aC,b5]at Y;show#[e1,rfl,bC e1 X _ g Y.1.2]
     |cons _ _=>simp[aC]at Y) IB
   show yo S g.calm hI (λD s H ex=>ue (fa:=λx=>cb (scope.names.lookup x=a5 .cell)) g.calm g.K S.nd (λ_ z=>z) h3)
    (λD s H ex=>by
     cases al with
     |nil =>
      cases cond with
      |nil=>show λag s σ H Q I ⟨c0,e1,e2,ok,w⟩=>tJ ag s σ H Q I (by subst e1 e2;rw[show aP Γ []=pure a8 from rfl,ak]at w;show w c0 rfl rfl ok (Nx.refl c0))
      |cons _ _=>simp[aC]at h7
     |cons c1 cs =>
      cases cs with
      |nil =>
       cases cond with
       |nil=>simp[aC]at h7
       |cons e1 JC =>
        cases JC with
        |nil =>
         simp only[aC,b5]at h7;show tK (oR e1 (JQ X _ scope D s H ex) c1 (g.cx _ _ _ _ _ _) h7.1.2)
        |cons _ _=>simp[aC]at h7
      |cons _ _=>simp at h6)
    (λD s H ex=>bC e (JQ X _ scope D s H ex) elt (g.cx _ _ _ _ _ _) h8) (sm h4)
  .cases Y
theorem fV:∀(es:List E) (X:Cx) (a:List lx),Gd ck Γ C d X->aC ck es X.N X.env.scope a=a8->PA X a (JR C (aK Γ es))
 |[],X,a,g,h=>by
  cases a with
  |nil=>show Be
  |cons _ _=>simp[aC]at h
 |e::es,X,a,g,h=>by
  cases a with
  |nil=>simp[aC]at h
  |cons b a =>
   simp only[aC,b5]at h;show ye (bC e X b g h.1.2) (fV es X a g h.2) (aO h.1.1)
theorem ED:∀(es es2:List E) {i:Nat} (X:Cx) (as:List lx),Gd ck Γ C d X->OD X.N X.env.scope i as[es.length]?=a8->aC ck es X.N X.env.scope (as.take es.length)=a8->PA X (as.drop (es.length+1)) (JR C (aK Γ es2))->PA X as (iM C es.length i (aK Γ es >>= λr1=>aK Γ es2 >>= λr2=>pure (r1++r2)))
 |[],es2,i,X,as,g,c,b,f=>by
  have(y,p,e,z):=lD c;have(h,j,k,l):=c_ z;cases as with
  |nil=>cases e
  |cons a as =>
   cases e;show PA.GH (ua h j k l f) λst Q w=>by
    rw[ab,show aK Γ []=pure [] from rfl,ak,ab]at w;show w.mono λa st' z=>by rw[ak]at z;show z
 |e::es,es2,i,X,as,g,c,b,f=>by
  cases as with
  |nil=>cases c
  |cons a as =>
   simp only[j5,List.take_succ_cons,aC,b5]at b;show PA.GH (BG (bC e X a g b.1.2) (ED es es2 (i:=i) X as g c b.2 f) (aO b.1.1)) λst Q w=>?_;rw[ab,show aK Γ (e::es)=(ev Γ e >>= λr=>aK Γ es >>= λrs=>pure (r::rs)) from rfl,ab]at w;rw[ab];show w.mono λr st1 w=>?_;rw[ab]at w;rw[ab,ab];show w.mono λr1 st2 w=>?_;rw[ak,ab]at w;rw[ab];show w.mono λr2 st3 w=>?_;rw[ak]at w;rw[ak,ak];show w
theorem GI:∀(es:List E) (X:Cx) (o:Option lx),Gd ck Γ C d X->sj ck es X.N X.env.scope o=a8->PO X o (tO C (Ob Γ es))
 |[],X,o,g,h=>by
  cases o with
  |none=>show vN
  |some _=>simp[sj]at h
 |[e],X,o,g,h=>by
  cases o with
  |none=>simp[sj]at h
  |some a=>simp only[sj]at h;show vO (bC e X a g h)
 |_::_::_,X,o,g,h=>by simp[sj]at h
theorem yR:∀(es:List E) (X:Cx) (a:List lx),Gd ck Γ C d X->aC ck es X.N X.env.scope a=a8->∀{pos},PE X (.BoolOp .And a pos) (IH C (iF Γ es))
 |[],X,a,g,h,pos=>gZ
 |[e],X,a,g,h,pos=>by
  cases a with
  |nil=>simp[aC]at h
  |cons b a =>
   cases a with
   |nil=>simp only[aC,b5]at h;show Dd (bC e X b g h.1.2)
   |cons _ _=>simp[aC]at h
 |e::c::es,X,a,g,h,pos=>by
  cases a with
  |nil=>simp[aC]at h
  |cons b a =>
   have h':noStar b=a8/\bp ck e X.N X.env.scope b=a8/\aC ck (c::es) X.N X.env.scope a=a8:=by
    rw[aC]at h;simp only[b5]at h;show#[h.1.1,h.1.2,h.2]
   cases a with
   |nil=>have:=h'.2.2;simp[aC]at this
   |cons f es2=>show snd_and (bC e X b g h'.2.1) (yR (c::es) X _ g h'.2.2)
theorem oR:∀(e:E) (X:Cx) (j:lx),Gd ck Γ C d X->bp ck e X.N X.env.scope j=a8->PT X j (J1 C (IW Γ e))
 |.and es,X,j,g,h=>by
  have(IA,p,rfl,s):=jo h;clear h;have h:=s;show(ug es X _ g h).pt
 |.or es,X,j,g,h=>by
  have(IA,p,rfl,s):=jo h;clear h;have h:=s;show(yS es X _ g h).pt
 |.not a,X,j,g,h=>by
  have(a',p,rfl,s):=jq h;clear h;have h:=s;show Bc (oR a X _ g h)
 |.cmp op a b,X,j,g,h=>by
  have(a',Y,H,p,rfl,k):=dW h;have h:=k;simp only[b5,Ę,sx]at h;obtain⟨⟨⟨rfl,I⟩,v⟩,z⟩:=h;show Ba g.P g.w g.K g.u (bC a X _ g v) (bC b X _ g z) I
 |.Mn o1 o2 a b c,X,j,g,h=>absurd (show b6=a8 from h) i6
 |.var i,X,j,g,h=>by
  have(x,p,rfl,s):=ah h;simp only[b5,Ę]at s;have(A,B):=aG s.2;show iH (oH s.1.1 (b8 s.1.2) A B) g.K λ_=>rfl
 |.idx a b,X,j,g,h=>bc
 |.bi f es,X,j,g,h=>by
  have(J,as,p,rfl,k):=aM h;have(x,D,rfl,l):=ah k;have h:=l;show PT.eqv (iH (GA g (fV es X _ g (eN h)) h) g.K λ_=>rfl) λst Q w=>CJ w
 |.ME f es,X,j,g,h=>bc
 |.Lx m a es,X,j,g,h=>bc
 |.call f es,X,j,g,h=>by
  have(J,as,p,rfl,k):=aM h;have(x,D,rfl,l):=ah k;have h:=l;show PT.eqv (iH (yP g (fV es X _ g (eN h)) h) g.K λ_=>rfl) λst Q w=>CJ w
 |.cst u,X,j,g,h=>bc
 |.fst es,X,j,g,h=>bc
 |.Le x u,X,j,g,h=>bc
 |.neg a,X,j,g,h=>bc
 |.J4 a T,X,j,g,h=>by
  have(J,as,p,rfl,k):=aM h;have(x,D,rfl,l):=ah k;clear h k;have(a',H,rfl,z4):=dX l;have(y,p2,rfl,G):=ah z4;have h:=G;simp only[b5,Ę]at h;obtain⟨⟨⟨⟨⟨rfl,rfl⟩,v⟩,z⟩,A⟩,B⟩:=h;show PT.eqv (iH (t5 g.K (cS v) (g.blt _ qo) (cS z) (g.blt _ (yO T)) (bC a X _ g B) (aO A)) g.K λ_=>rfl) λst Q w=>?_;have w:W (ev Γ a >>= λx=>M.Jd (oF x.2 T)) st Q:=w;simp only[ab]at w ⊢;show W.mono w λx s1 L=>?_;have(b,e,O):=cq.mp L;show cq.mpr #[b,e,ak.mpr (cq.mpr #[b,rfl,O])]
 |.bad,X,j,g,h=>bc
 |.Jy i,X,j,g,h=>bc
 |.LL i,X,j,g,h=>bc
 |.KZ i,X,j,g,h=>by
  have(a',Y,H,p,rfl,k):=dW h;have(o,m,q,rfl,l):=bM k;have(x,px,rfl,G):=ah l;simp only[b5,Ę]at G;obtain⟨⟨⟨v,rfl⟩,rfl⟩,z⟩:=G;have(p2,rfl):=v7 v;have(L,O,w3,w4):=c_ z;have(cl,_,_,K,_):=g.JK.sh.ex;show yC K g.K g.u L O w3 w4
 |.j4 i,X,j,g,h=>bc
 |.J_ f i es es2,X,j,g,h=>by
  have(J,as,p,rfl,k):=aM h;have(x,D,rfl,l):=ah k;simp only[b5,Ę]at l;obtain⟨⟨⟨⟨⟨⟨v,z⟩,A⟩,B⟩,h5⟩,h6⟩,h7⟩:=l;have(e1,e2,e3):=UB h5 h6 h7;show iH (yQ g (ED es es2 X as g h5 h6 (fV es2 X _ g h7)) e1 e2 v z A B) g.K λ_=>rfl
 |.Kq f m i es,X,j,g,h=>bc
 |.pop i,X,j,g,h=>bc
 |.M6 i a,X,j,g,h=>bc
 |.inD neg a i,X,j,g,h=>by
  have(a',Y,H,p,rfl,k):=dW h;have(x,D,rfl,l):=ah k;have h:=l;simp only[b5,Ę,sx]at h;obtain⟨⟨⟨⟨⟨rfl,I⟩,v⟩,z⟩,A⟩,B⟩:=h;have(q1,q2):=aG A;show Bw g.u v (b8 z) q1 q2 (bC a X _ g B) I
 |.OW i,X,j,g,h=>bc
 |.Q8 ln a b,X,j,g,h=>bc
 |.OX i,X,j,g,h=>bc
 |.Lf i a b,X,j,g,h=>bc
 |.bin op a b,X,j,g,h=>bc
 |.ite c a b,X,j,g,h=>bc
 |.tup es,X,j,g,h=>bc
 |.lst es,X,j,g,h=>bc
 |.KY r,X,j,g,h=>bc
 |.Kg a lo hi,X,j,g,h=>bc
 |.comp n t ik src cond e,X,j,g,h=>bc
theorem ug:∀(es:List E) (X:Cx) (a:List lx),Gd ck Γ C d X->aC ck es X.N X.env.scope a=a8->∀{pos},PW X (.BoolOp .And a pos) (J1 C (aP Γ es))
 |[],X,a,g,h,pos=>by
  cases a with
  |nil =>
   rintro j c s σ H Q I ⟨c0,rfl,rfl,i,w⟩;rw[show aP Γ []=pure a8 from rfl,ak]at w;show ĕ #[c0.H,I,w c0 rfl rfl i (Nx.refl c0)]
  |cons _ _=>simp[aC]at h
 |[e],X,a,g,h,pos=>by
  cases a with
  |nil=>simp[aC]at h
  |cons b a =>
   cases a with
   |nil=>simp only[aC,b5]at h;show An (oR e X b g h.1.2)
   |cons _ _=>simp[aC]at h
 |e::f::es,X,a,g,h,pos=>by
  cases a with
  |nil=>simp[aC]at h
  |cons b a =>
   have h':noStar b=a8/\bp ck e X.N X.env.scope b=a8/\aC ck (f::es) X.N X.env.scope a=a8:=by
    rw[aC]at h;simp only[b5]at h;show#[h.1.1,h.1.2,h.2]
   cases a with
   |nil=>have:=h'.2.2;simp[aC]at this
   |cons k es2=>show Bd (oR e X b g h'.2.1) (ug (f::es) X _ g h'.2.2)
theorem yS:∀(es:List E) (X:Cx) (a:List lx),Gd ck Γ C d X->aC ck es X.N X.env.scope a=a8->∀{pos},PW X (.BoolOp .Or a pos) (J1 C (jK Γ es))
 |[],X,a,g,h,pos=>by
  cases a with
  |nil =>
   rintro j c s σ H Q I ⟨c0,rfl,rfl,i,w⟩;rw[show jK Γ []=pure b6 from rfl,ak]at w;show isTrue_or_nil #[c0.H,I,w c0 rfl rfl i (Nx.refl c0)]
  |cons _ _=>simp[aC]at h
 |[e],X,a,g,h,pos=>by
  cases a with
  |nil=>simp[aC]at h
  |cons b a =>
   cases a with
   |nil=>simp only[aC,b5]at h;show C_ (oR e X b g h.1.2)
   |cons _ _=>simp[aC]at h
 |e::f::es,X,a,g,h,pos=>by
  cases a with
  |nil=>simp[aC]at h
  |cons b a =>
   have h':noStar b=a8/\bp ck e X.N X.env.scope b=a8/\aC ck (f::es) X.N X.env.scope a=a8:=by
    rw[aC]at h;simp only[b5]at h;show#[h.1.1,h.1.2,h.2]
   cases a with
   |nil=>have:=h'.2.2;simp[aC]at this
   |cons k es2=>show D4 (oR e X b g h'.2.1) (yS (f::es) X _ g h'.2.2)
end
def GJ(g:Gd ck Γ C d X)(b:UA e=a8)(h:bp ck e X.N X.env.scope f=a8):PE X f (vV C (ev Γ e)):=by
 cases e with
 |var i =>
  have(x,k,rfl,a):=ah h;simp only[b5,Ę]at a;have(l,m):=aG a.2;show yw a.1.1 (b8 a.1.2) l m
 |cst u =>
  have(c,n,k,rfl,a):=c9 h;cases c with
  |int j=>have:=cj a;subst this;show iL jb λ_ _=>rfl
  |str y=>have:=cj a;subst this;show iL nV λ_ _=>rfl
  |bool y=>have:=cj a;subst this;show iL w9 λ_ _=>rfl
  |none=>have:=cj a;subst this;show iL w_ λ_ _=>rfl
  |_=>cases a
 |_=>cases b
end
abbrev Qs(b:z8)(x:Str)(a:Nat):lx->Bool
 |.ListComp elt gens s pos=>cb (b.names.lookup x=a5 .local)&&(a==pos.line)&&!(s.names.any λ(n,k)=>n==x&&(k==.local||k==.cell))
 |_=>b6
abbrev iQ(s:wk)(k:lx->Bool):Bool:=match s with|.Expr e _=>k e|_=>b6
def cE(h:iQ s k=a8):∃e p,s=.Expr e p/\k e=a8:=by
 unfold iQ at h;split at h
 .show#[_,_,rfl,h]
 .cases h
abbrev iR(s:wk)(k:lx->lx->Bool):Bool:=match s with|.Assign ts v _=>dB ts λt=>k t v|_=>b6
def cF(h:iR s k=a8):∃t v p,s=.Assign [t] v p/\k t v=a8:=by
 unfold iR at h;split at h
 .have(t,rfl,a):=aV h;show#[_,_,_,rfl,h]
 .cases h
abbrev v9(s:wk)(k:Str->lx->Bool):Bool:=iR s λt v=>aD t λy=>k y v
def eO(h:v9 s k=a8):∃y p v a,s=.Assign [.Name y p] v a/\k y v=a8:=by
 have(t,v,a,rfl,z):=cF h;have(y,p,rfl,z):=ah z;show#[y,p,v,a,rfl,z]
abbrev EE(e:lx)(k:Str->Pos->Bool):Bool:=match e with|.Name x p=>k x p|_=>b6
def v_(h:EE e k=a8):∃x p,e=.Name x p/\k x p=a8:=by
 unfold EE at h;split at h
 .show#[_,_,rfl,h]
 .cases h
abbrev yT(s:wk)(k:lx->Á->lx->Bool):Bool:=match s with|.AugAssign t op b _=>k t op b|_=>b6
def so(h:yT s k=a8):∃t op b p,s=.AugAssign t op b p/\k t op b=a8:=by
 unfold yT at h;split at h
 .show#[_,_,_,_,rfl,h]
 .cases h
abbrev lF(s:wk)(k:Option lx->Bool):Bool:=match s with|.Return v _=>k v|_=>b6
def dY(h:lF s k=a8):∃v p,s=.Return v p/\k v=a8:=by
 unfold lF at h;split at h
 .show#[_,_,rfl,h]
 .cases h
abbrev wa(v:Option lx)(k:lx->Bool):Bool:=match v with|some e=>k e|none=>b6
def eQ(h:wa v k=a8):∃e,v=a5 e/\k e=a8:=by
 cases v with
 |none=>cases h
 |some e=>show#[e,rfl,h]
abbrev qp(s:wk)(k:lx->List wk->List wk->Bool):Bool:=match s with|.If c a b _=>k c a b|_=>b6
def g_(h:qp s k=a8):∃c a b p,s=.If c a b p/\k c a b=a8:=by
 unfold qp at h;split at h
 .show#[_,_,_,_,rfl,h]
 .cases h
abbrev yU(s:wk)(k:lx->lx->List wk->Bool):Bool:=match s with|.For t i b o _=>o.isEmpty&&k t i b|_=>b6
def su(h:yU s k=a8):∃t i b p,s=.For t i b [] p/\k t i b=a8:=by
 unfold yU at h;split at h
 .rw[b5,oT]at h;have(rfl,h):=h;show#[_,_,_,_,rfl,h]
 .cases h
abbrev EF(s:wk)(k:lx->List wk->Bool):Bool:=match s with|.While c b o _=>o.isEmpty&&k c b|_=>b6
def wb(h:EF s k=a8):∃c b p,s=.While c b [] p/\k c b=a8:=by
 unfold EF at h;split at h
 .rw[b5,oT]at h;have(rfl,h):=h;show#[_,_,_,rfl,h]
 .cases h
abbrev fk(l:List wk)(k:wk->wk->wk->Bool):Bool:=match l with|[a,b,c]=>k a b c|_=>b6
def fm(h:fk l k=a8):∃a b c,l=[a,b,c]/\k a b c=a8:=by
 unfold fk at h;split at h
 .show#[_,_,_,rfl,h]
 .cases h
abbrev uh(l:List wk)(k:wk->wk->List wk->Bool):Bool:=match l with|a::b::r=>k a b r|_=>b6
def sv(h:uh l k=a8):∃a b r,l=a::b::r/\k a b r=a8:=by
 unfold uh at h;split at h
 .show#[_,_,_,rfl,h]
 .cases h
abbrev CL(l:List wk)(k:wk->List wk->Bool):Bool:=match l with|a::r=>k a r|_=>b6
abbrev EG{l:List lx}(k:lx->List lx->Bool):Bool:=match l with|a::r=>k a r|_=>b6
def wc(h:EG (l:=l) k=a8):∃a r,l=a::r/\k a r=a8:=by
 unfold EG at h;split at h
 .show#[_,_,rfl,h]
 .cases h
abbrev isIn(n:Int)(e:lx):Bool:=lC e λc=>match c with|.int i=>cb (i=n)|_=>b6
def isIn_true(h:isIn n e=a8):∃q p,e=.Constant (.int n) q p:=by
 have(c,q,p,rfl,z):=c9 h;cases c<;>first|(cases z;done)|show#[q,p,by rw[ĝ z]]
abbrev GK(x:Str)(e:lx):Bool:=lC e λc=>match c with|.str y=>cb (y=x)|_=>b6
def we(h:GK x e=a8):∃q p,e=.Constant (.str x) q p:=by
 have(c,q,p,rfl,z):=c9 h;cases c<;>first|(cases z;done)|show#[q,p,by rw[ĝ z]]
abbrev GL(e:lx):Bool:=lC e λc=>match c with|.none=>a8|_=>b6
def wg(h:GL e=a8):∃q p,e=.Constant .none q p:=by
 have(c,q,p,rfl,z):=c9 h;cases c<;>first|(cases z;done)|show#[q,p,rfl]
abbrev GN(e:lx):Bool:=lC e λc=>match c with|.bool b6=>a8|_=>b6
def wj(h:GN e=a8):∃q p,e=.Constant (.bool b6) q p:=by
 have(c,q,p,rfl,z):=c9 h;cases c with
 |bool b=>cases b<;>first|(cases z;done)|show#[q,p,rfl]
 |_=>cases z
abbrev RB(N:List Str)(c:z8)(i:Nat)(n:Int)(e:lx)(x:Str):Bool:=iP e λa b=>isNm a x&&isIn n b&&KA N c i x
def lG(h:RB N d i n e x=a8):∃c q p2 p,e=.Subscript (.Name x c) (.Constant (.int n) q p2) p:=by
 have(a,b,p,rfl,z):=cD h;simp only[b5]at z;have(c,rfl):=gv z.1.1;have(q,p2,rfl):=isIn_true z.1.2;show#[c,q,p2,p,rfl]
abbrev GO(k:Ck)(i:Nat)(e:E)(N:List Str)(b:z8)(s:wk):Bool:=iQ s λc=>c8 c λo m apos as cpos=>aD o λx=>dB as λa=>cb (m="append")&&cb (N[i]?=a5 x)&&fS b x&&bb x&&(apos.endLine==cpos.line)&&noStar a&&bp k e N b a
abbrev EH(k:Ck)(i:Nat)(f m:Str)(o:Nat)(es:List E)(j:Nat)(x:Str)(e:E)(N:List Str)(g:z8)(a b c:wk):Bool:=GO k j (.cst (.str x)) N g b&&(v9 a λy v=>cb (N[i]?=a5 y)&&gY g y&&KA N g i y&&cA v&&bp k (.Kq f m o es) N g v &&
 lF c λr=>wa r λt=>nA t λl=>ny l λn d=>isNm n y&&noStar d&&bp k e N g d)
abbrev EI(N:List Str)(b:z8)(t:Nat)(n:Int)(x y:Str)(s:wk):Bool:=iQ s λc=>c8 c λo m apos as cpos=>dB as λa=>cb (m="append")&&RB N b t n o y&&GK x a&&(apos.endLine==cpos.line)
abbrev GP(N:List Str)(d:z8)(t z:Nat)(x:Str)(a b c:wk):Bool:=lF c λr=>wa r λe=>aD e λw=>KA N d z w&&(match N[t]? with|some y=>KA N d t y&&EI N d t 0 x y a&&EI N d t 1 x y b|none=>b6)
abbrev GQ(k:Ck)(i j:Nat)(g:Str)(q:Nat)(h y:Str)(N:List Str)(a:z8)(c:lx):Bool:=BK c .Not λd=>BM d h λas=>EG (l:=as) λb as=>RB N a i 0 b y&&cb ((h,[100])∈k.JK)&&J6 a h&&bb h&&aC k [.var j,.call g [.var q]] N a as
def wm(z:GQ k i j g q h y N a c=a8):∃d p2 e f l es m n,c=.UnaryOp .Not (.Call (.Name h d) (.Subscript (.Name y p2) (.Constant (.int 0) e f) l::es) [] m) n/\((h,[100])∈k.JK/\J6 a h=a8/\bb h=a8/\aC k [.var j,.call g [.var q]] N a es=a8):=by
 have(w,x,rfl,o):=jq z;have(bs,A,B,rfl,p):=jt o;have(C,bs,rfl,b):=wc p;simp only[b5,Ę]at b;obtain⟨⟨⟨⟨r,s⟩,t⟩,u⟩,v⟩:=b;have(_,_,_,_,rfl):=lG r;show#[_,_,_,_,_,_,_,_,rfl,s,t,u,v]
abbrev GR(s:wk)(d:lx->Bool):Bool:=qp s λc a b=>b.isEmpty&&(dB a λr=>lF r λv=>wa v GN)&&d c
def wo(z:GR s b=a8):∃c d e p2 f,s=.If c [.Return (a5 (.Constant (.bool b6) d e)) p2] [] f/\b c=a8:=by
 have(l,m,n,o,rfl,a):=g_ z;simp only[b5,oT]at a;have((rfl,g),h):=a;have(p,rfl,i):=aV g;have(q,r,rfl,j):=dY i;have(t,rfl,k):=eQ j;have(_,_,rfl):=wj k;show#[_,_,_,_,_,rfl,h]
abbrev GS(k:Ck)(j:Nat)(g:Str)(q:Nat)(N:List Str)(b:z8)(a:wk):Bool:=v9 a λz v=>cb (N[j]?=a5 z)&&gY b z&&cA v&&bp k (.call g [.var q]) N b v
abbrev GU(i q:Nat)(y:Str)(N:List Str)(a:z8)(b:wk):Bool:=v9 b λz v=>cb (N[q]?=a5 z)&&gY a z&&RB N a i 1 v y
def wq(z:GU i q y N c b=a8):∃x d p2 k e f g,b=.Assign [.Name x d] (.Subscript (.Name y p2) (.Constant (.int 1) k e) f) g/\N[q]?=a5 x/\gY c x=a8:=by
 have(j,l,m,n,rfl,a):=eO z;simp only[b5,Ę]at a;have((k1,k2),h):=a;have(_,_,_,_,rfl):=lG h;show#[_,_,_,_,_,_,_,rfl,k1,k2]
abbrev GV(y:Str)(b:wk)(a:wk->wk->wk->Bool):Bool:=qp b λc l r=>r.isEmpty&&(nv c λn op d=>isNm n y&&cb (op=.IsNot)&&GL d)&&fk l a
def wt(z:GV y b e=a8):∃f k p2 g s1 s2 s3 h,b=.If (.Compare (.Name y f) [.IsNot] [.Constant .none k p2] g) [s1,s2,s3] [] h/\e s1 s2 s3=a8:=by
 have(c,l,p,q,rfl,a):=g_ z;simp only[b5,oT]at a;have((rfl,i),j):=a;have(n,op,d',r,rfl,d):=dW i;simp only[b5,Ę]at d;have((c1,rfl),m):=d;have(s,rfl):=gv c1;have(_,_,rfl):=wg m;have(s1,s2,s3,rfl,o):=fm j;show#[_,_,_,_,_,_,_,_,rfl,o]
abbrev GW(k:Ck)(f:Str)(o:Nat)(es:List E)(is:List Nat)(N:List Str)(a:z8)(v:lx):Bool:=BM v f λas=>cb ((f,is)∈k.JK)&&cb (is≠[100])&&J6 a f&&bb f&&OD N a o as[0]?&&aC k es N a (as.drop 1)
abbrev EJ(k:Ck)(i:Nat)(f:Str)(o:Nat)(es:List E)(is:List Nat)(j:Nat)(g:Str)(q:Nat)(h:Str)(N:List Str)(c:z8)(a b:wk):Bool:=cb (i≠j)&&cb (i≠q)&&v9 a λy v=>cb (N[i]?=a5 y)&&gY c y&&KA N c i y&&cA v&&GW k f o es is N c v &&
 GV y b λs1 s2 s3=>GS k j g q N c s1&&GU i q y N c s2&&GR s3 (GQ k i j g q h y N c)
abbrev isMul:S->Bool
 |.J' _ _ _ _ _ _ _ _=>a8
 |.Mo _ _ _=>a8
 |.IU _ _ _ _ _ _ _ _ _=>a8
 |_=>b6
abbrev BR(k:Ck)(s:S)(d:Bool)(N:List Str)(l:z8)(n:List wk)(p:List wk->Bool):Bool:=match s with
 |.J' i f m o es j x e=>d&&fk n λa b c=>EH k i f m o es j x e N l a b c
 |.Mo t z x=>d&&fk n λa b c=>GP N l t z x a b c
 |.IU i f o es is j g q h=>uh n λa b r=>EJ k i f o es is j g q h N l a b&&p r
 |_=>b6
mutual
noncomputable def wu(k:Ck):S->List Str->z8->wk->Bool
 |.set i e,N,d,s=>iR s λt v=>EE t λx p=>cb (N[i]?=a5 x)&&gY d x&&cb (d.kind=.function)&&bp k e N d v&&(cA v||Qs d x p.line v||(match v with|.ListComp _ _ _ _=>a8|_=>b6))&&(match e with|.comp _ _ _ _ _ _=>a8|_=>cA v)
 |.M7 is e,N,d,s=>iR s λt v=>nA t λ_=>O6 a8 N d (λ_=>a8) is t&&cA v&&Ew v&&bp k e N d v
 |.put i a b,N,d,s=>iR s λt h=>iP t λo a'=>aD o λx=>cb (N[i]?=a5 x)&&fS d x&&bb x&&cA h&&d7 a'&&bp k a N d a'&&bp k b N d h
 |.app i e,N,d,s=>iQ s λc=>c8 c λo m apos as cpos=>aD o λx=>dB as λa=>cb (m="append")&&cb (N[i]?=a5 x)&&fS d x&&bb x&&(apos.endLine==cpos.line)&&noStar a&&bp k e N d a
 |.Kl f m o es e,N,d,s=>lF s λv=>wa v λt=>nA t λl=>ny l λa b=>noStar a&&noStar b&&bp k (.Kq f m o es) N d a&&bp k e N d b
 |.J' _ _ _ _ _ _ _ _,_,_,_=>b6
 |.Mo _ _ _,_,_,_=>b6
 |.IU _ _ _ _ _ _ _ _ _,_,_,_=>b6
 |.Ly _,_,_,_=>b6
 |.Kz i,N,d,s=>v9 s λy v=>BM v "Shelf" λas=>as.isEmpty&&cb (N[i]?=a5 y)&&gY d y&&J6 d "Shelf"
 |.LM i e,N,d,s=>iR s λt v=>ei t λo m _=>aD o λx=>aD v λ_=>cb (m="rows")&&KA N d i x&&bp k e N d v
 |.LN i,N,d,s=>iQ s λc=>c8 c λo m apos as cpos=>ei o λo1 m1 _=>aD o1 λx=>dB as λa=>ei a λo2 m2 _=>aD o2 λu=>cb (m="append")&&cb (m1="earlier")&&cb (m2="rows")&&cb (u=x)&&(apos.endLine==cpos.line)&&KA N d i x
 |.ext i e,N,d,s=>iQ s λc=>c8 c λo m apos as cpos=>aD o λx=>dB as λa=>cb (m="extend")&&cb (N[i]?=a5 x)&&fS d x&&bb x&&(apos.endLine==cpos.line)&&noStar a&&bp k e N d a
 |.bad,_,_,_=>a8
 |.newD i,N,d,s=>iR s λt v=>aD t λx=>BL v&&cb (N[i]?=a5 x)&&gY d x
 |.putD i a b,N,d,s=>iR s λt h=>iP t λo a'=>aD o λx=>cb (N[i]?=a5 x)&&fS d x&&bb x&&cA h&&d7 a'&&bp k a N d a'&&bp k b N d h
 |.K3 i a e,N,d,s=>iQ s λc=>c8 c λo m apos as cpos=>iP o λo' a'=>aD o' λx=>dB as λb=>cb (m="append")&&cb (N[i]?=a5 x)&&fS d x&&bb x&&d7 a'&&(apos.endLine==cpos.line)&&noStar b&&bp k a N d a'&&bp k e N d b&&UA e
 |.aug sub i a e,N,d,s=>yT s λt op b=>iP t λo a'=>aD o λx=>cb (op=if sub=a8 then .Sub else .Add)&&cb (N[i]?=a5 x)&&fS d x&&bb x&&d7 a'&&bp k a N d a'&&bp k e N d b&&UA e
 |.Q9 _,_,_,_=>b6
 |.exp e,N,d,s=>iQ s λj=>cA j&&bp k e N d j
 |.ret e,N,d,s=>lF s λv=>wa v λj=>bp k e N d j
 |.M8,_,_,_=>b6
 |.ite c a b,N,d,s=>qp s λn a' h=>bp k c N d n&&cT k a N d a'&&cT k b N d h
 |.Jl t is w src body,N,d,s=>yU s λr g q=>O6 t N d (λ_=>a8) is r&&se g&&(match fU d r w g with
    |some as=>aC k src N d as
    |none=>b6)&&cT k body N d q
 |.N_ c body,N,d,s=>EF s λn q=>bp k c N d n&&cT k body N d q
 |.brk,_,_,_=>b6
 |.cnt,_,_,_=>b6
 |.N' _,_,_,_=>b6
 |.Q_,_,_,_=>b6
noncomputable def cT(k:Ck):List S->List Str->z8->List wk->Bool
 |[],_,_,a=>a.isEmpty
 |s::ss,N,b,a=>if isMul s=a8 then BR k s ss.isEmpty N b a (cT k ss N b) else CL a λs' r=>wu k s N b s'&&cT k ss N b r
end
section
variable{ck:Ck}{Γ:Tab}{C:Ct}{d:Nat}{X:Cx}
def fW(h:gY a x=a8):Loc a x:=by
 unfold gY at h;simp only[OG,Ę]at h;show h
def dZ(h:cA v=a8):Mu v t a env=pure b6:=by
 cases v<;>first|rfl|cases h
def oS(h:cA v=a8):QE [t] v a env=pure b6:=by
 rw[QE];show dZ h
def BS(h:d7 i=a8):∀a b new,Đ i a b new=(do Ka [new,a,b] (SF a b new);V6 [new,a,b] [];pure .next):=by
 intro a b new;cases i<;>first|rfl|cases h
def ui(h:d7 i=a8):∀v,RZ (.Subscript o i p) env v=(do
   let a <-Ka [v] (sL o env)
   let b <-Ka [v,a] (sL i env)
   R' p
   Ka [v,a,b] (SF a b v)
   V6 [v,a,b] []):=by
 intro v;cases i<;>first|rfl|cases h
structure Gs(ck:Ck)(Γ:Tab)(C:Ct)(d:Nat)(X:Cx):Prop where
 gd:Gd ck Γ C d X
 nd:X.N.Nodup
 fn:∀x,X.fn x=a8
 po:WA (i4 X.prog X.w) X.A X.env X.xe
 kd:X.env.scope.kind=.function
 xs:NH ck X.K X.mg
 sk:X.stack=X.env::X.outer/\X.env.frame=a5 X.env.locals
def uj(g:Gd ck Γ C d X)(h:(match fU X.env.scope i j b with|some as=>aC ck src X.N X.env.scope as|none=>b6)=a8):PI X i b (Mq C j (aK Γ src)):=by
 split at h
 .rename_i as c;show CI g c (fV src X _ g h) (λa e=>by
   subst e;cases src with
   |nil=>simp[aC]at h
   |cons f k =>
    cases k with
    |nil =>
     simp only[aC,b5]at h;show#[f,rfl,bC f X _ g h.1.2]
    |cons _ _=>simp[aC]at h) (bI h)
 .cases h
def lH{pos p a:Pos}(hk:X.env.scope.kind=.function):Mu (.ListComp elt gens s pos) (a5 (.Name x p)) a.line X.env=pure (Qs X.env.scope x p.line (.ListComp elt gens s pos)):=by
 have b:X.env.blockKind=.function:=by
  unfold Env.blockKind;rw[hk];rfl
 change(pure (X.env.blockKind==.function&&X.env.kindOf x==a5 .local&&p.line==pos.line&&!(s.names.any λ(n,k)=>n==x&&(k==.local||k==.cell))):Sem Bool)=_;rw[b];unfold Qs;congr 1
 have:(X.env.kindOf x==a5 NameKind.local)=cb (X.env.scope.names.lookup x=a5 .local):=by
  unfold Env.kindOf;rw[IV];simp
 rw[this];rfl
def EK{src cond:List E}(G:Gs ck Γ C d X)(hi:X.N[i]?=a5 x)(y:gY X.env.scope x=a8)
  (h:bp ck (.comp n t m src cond e) X.N X.env.scope (.ListComp elt [⟨o,a,b,0⟩] scope pos)=a8) (ns:Nat->Bool) (q:∀j,ns j=a8->j≠i) :
  L2.PS X (.Assign [.Name x p] (.ListComp elt [⟨o,a,b,0⟩] scope pos) LG) (I_ C ns (ev Γ (.comp n t m src cond e) >>= λr=>dy i r >>= λ_=>pure .nx)):=by
 have g:=G.gd;have u:=bC (.comp n t m src cond e) X _ g h;cases k:Qs X.env.scope x p.line (.ListComp elt [⟨o,a,b,0⟩] scope pos) with
 |false=>show yr q G.nd hi (fW y) (.inl (G.fn x)) u (by rw[lH G.kd,k])
 |true =>
  have hl:X.env.scope.names.lookup x=a5 .local:=by
   simp only[Qs,b5,Ę]at k;show k.1.1
  have(YV,ZU,V5,YW,UC,p',A,v):=jr h;cases A;clear h u;simp only[b5,Ę]at v;obtain⟨⟨⟨⟨⟨⟨⟨B,J⟩,L⟩,O⟩,T⟩,Y⟩,c⟩,h8⟩:=v;subst B;have S:=xQ (X:=X) rfl (nF _ _) J;show Eg q S g.calm G.nd hi hl (uj g T) (λD s H ex=>ue (fa:=λx=>cb (scope.names.lookup x=a5 .cell)) g.calm g.K S.nd (λ_ z=>z) L)
   (λD s H ex=>by
    cases b with
    |nil =>
     cases cond with
     |nil=>show λf s σ H Q I ⟨c0,l,e2,ok,w⟩=>tJ f s σ H Q I (by subst l e2;rw[show aP Γ []=pure a8 from rfl,ak]at w;show w c0 rfl rfl ok (Nx.refl c0))
     |cons _ _=>simp[aC]at c
    |cons c1 cs =>
     cases cs with
     |nil =>
      cases cond with
      |nil=>simp[aC]at c
      |cons l JC =>
       cases JC with
       |nil =>
        simp only[aC,b5]at c;show tK (oR l (JQ X _ scope D s H ex) c1 (g.cx _ _ _ _ _ _) c.1.2)
       |cons _ _=>simp[aC]at c
     |cons _ _=>simp at Y)
   (λD s H ex=>bC e (JQ X _ scope D s H ex) elt (g.cx _ _ _ _ _ _) h8) (by rw[lH G.kd,k]) (sm O)
def yV(G:Gs ck Γ C d X)(h:wu ck (.Kz i) X.N X.env.scope s'=a8):L2.PS X s' (I_ C (Oe (.Kz i)) (exec Γ (.Kz i))):=by
 have(y,p,v,m,rfl,c):=eO h;have(as,p2,n,rfl,b):=jt c;simp only[b5,Ę,oT]at b;obtain⟨⟨⟨rfl,e⟩,f⟩,g⟩:=b;have(cl,o,q,K,M,F,k,l):=G.gd.JK.sh.ex;show Ep K G.gd.K (λj a=>by have a:cb (j≠i)=a8:=a;simpa using a) G.nd e (fW f) (.inl (G.fn _)) M F (G.gd.room.mono G.gd.JK.lv) (cS g) l k
def um(G:Gs ck Γ C d X)(h:bp ck (.Kq f m i es) X.N X.env.scope c=a8):PE X c (λσ H Q=>∃c0:Cf,c0.σ=σ/\c0.H=H/\Ok C c0/\W (P7 Γ f i (aK Γ es)) c0.st (nj C c0 Q)):=by
 have(o,y,apos,as,cpos,rfl,e):=aR h;have(x,px,rfl,b):=ah e;simp only[b5,Ę]at b;obtain⟨⟨⟨⟨⟨⟨rfl,g⟩,⟨j,k⟩,l⟩,n⟩,p⟩,q⟩,a⟩:=b;show GF G.gd (fV es X as G.gd a) (bI a) (λz=>by subst z;cases es with|nil=>rfl|cons _ _=>simp[aC]at a) p q g ⟨j,k,l⟩ n
def BU(G:Gs ck Γ C d X)(h:GO ck i e X.N X.env.scope s'=a8):L2.PS X s' (I_ C ns (exec Γ (.app i e))):=by
 have(c,w,rfl,j):=cE h;have(o,m,apos,as,cpos,rfl,k):=aR j;have(x,px,rfl,l):=ah k;have(a,rfl,b):=aV l;simp only[b5,Ę]at b;obtain⟨⟨⟨⟨⟨⟨rfl,n⟩,p⟩,q⟩,r⟩,f⟩,s⟩:=b;have(t,u):=aG q;have st:=aO (env:=X.env) (es:=[]) f;have v:=(aQ (pos:=cpos) (env:=X.env) (es:=[a]) λe g=>by simp at g;subst g;show f).2;show CC G.gd.K n (b8 p) t u (bC e X _ G.gd s) ?_ r st;rw[v];rfl
def yW(G:Gs ck Γ C d X)(h:wu ck (.Kl f m o es e) X.N X.env.scope s'=a8):L2.PS X s' (I_ C (Oe (.Kl f m o es e)) (exec Γ (.Kl f m o es e))):=by
 have(v,r,rfl,g):=dY h;have(t,rfl,i):=eQ g;have(l,s,u,rfl,j):=fj i;have(a,b,rfl,c):=dX j;simp only[b5]at c;obtain⟨⟨⟨k,n⟩,p⟩,q⟩:=c;show Et (um G p) (bC e X b G.gd q) (aO k) (aO (es:=[]) n)
def EL{st:aq}(h:W (m >>= qd (pure .nx)) st Q):W m st Q:=by
 rw[ab]at h;show h.mono λf s w=>?_;cases f<;>show ak.mp w
def qq(i:∀j,ns' j=a8->ns j=a8)(h:I_ C ns' (m >>= qd (pure .nx)) D σ H):I_ C ns m D σ H:=jm i (let ⟨c0,a,b,c,w⟩:=h;⟨c0,a,b,c,EL w⟩)
def yX(G:Gs ck Γ C d X)(h:(fk s λa b c=>EH ck i f m o es j x e X.N X.env.scope a b c)=a8):Jo X s (I_ C (JD [.J' i f m o es j x e]) (execs Γ [.J' i f m o es j x e])):=by
 have(a,b,c,rfl,g):=fm h;simp only[EH,b5]at g;have(u,z):=g;have(y,p1,v,p2,rfl,k):=eO z;simp only[b5,Ę]at k;obtain⟨⟨⟨⟨⟨w,A⟩,B⟩,I⟩,J⟩,z⟩:=k;have(r,p3,rfl,L):=dY z;have(t,rfl,O):=eQ L;have(l,x1,p4,rfl,Q):=fj O;have(n,d',rfl,p):=dX Q;simp only[b5]at p;have((T,Y),h8):=p;have(p5,rfl):=gv T;have(w1,w2,w3,w4):=c_ B;show Jo.weak (Eu (ns:=λn=>cb (n≠i)) (λm hm=>by simpa using hm) G.nd w (fW A) (G.fn _) w2 w3 w4 (um G J) (dZ I) (BU G u) (bC e X d' G.gd h8) (aO (es:=[]) Y)) λD σ H z=>qq (λj q=>?_) z;simp only[JD,Oe,b5]at q;show q.1
def nG(h:EI N w t n x y s=a8):∃f g p2 i b j k k1 l,s=.Expr (.Call (.Attribute (.Subscript (.Name y f) (.Constant (.int n) g p2) i) "append" b) [.Constant (.str x) j k] [] k1) l/\(b.endLine==k1.line)=a8:=by
 have(c,z,rfl,p):=cE h;have(o,m,apos,as,cpos,rfl,q):=aR p;have(a,rfl,e):=aV q;simp only[b5,Ę]at e;obtain⟨⟨⟨rfl,r⟩,u⟩,v⟩:=e;have(_,_,_,_,rfl):=lG r;have(_,_,rfl):=we u;show#[_,_,_,_,_,_,_,_,_,rfl,v]
def BV(G:Gs ck Γ C d X)(h:(fk g λa b c=>GP X.N X.env.scope t z x a b c)=a8):Jo X g (I_ C (JD [.Mo t z x]) (execs Γ [.Mo t z x])):=by
 have(a,b,c,rfl,i):=fm h;have(r,O,rfl,j):=dY i;have(e,rfl,k):=eQ j;have(w,Q,rfl,f):=ah k;simp only[b5]at f;have(l,y):=f;split at y
 rotate_left
 .cases y
 simp only[b5]at y;have((m,n),o):=y;have(_,_,_,_,_,_,_,_,_,rfl,p):=nG n;have(_,_,_,_,_,_,_,_,_,rfl,q):=nG o;have(s,u,v,A):=c_ l;have(B,I,J,L):=c_ m;show Jo.weak (Gw (ns:=λ_=>a8) G.gd.K B I J L s u v A p q) λD σ H z=>qq (λ_ _=>rfl) z
def GX(G:Gs ck Γ C d X)(z:GW ck f o es is X.N X.env.scope v=a8):PE X v (λσ H Q=>∃c0:Cf,c0.σ=σ/\c0.H=H/\Ok C c0/\W (Kh o >>= λ_=>(aK Γ es >>= x9) >>= λrs=>au rs >>= λ_=>iD Γ f o rs is) c0.st (ql C c0 Q)):=by
 have(as,m,n,rfl,a):=jt z;simp only[b5,Ę]at a;obtain⟨⟨⟨⟨⟨e,g⟩,h⟩,i⟩,b⟩,c⟩:=a;have(j,l,p):=UB (k:=ck) (es:=[]) (es2:=es) b rfl c;show BQ G.gd (Io b (fV es X _ G.gd c)) j l rfl e g h i
def GY(G:Gs ck Γ C d X)(z:GS ck j g q X.N X.env.scope a=a8):L2.PS X a (I_ C (λm=>cb (m≠j)) (ev Γ (.call g [.var q]) >>= λr=>dy j r >>= λ_=>pure .nx)):=by
 have(l,n,c,o,rfl,b):=eO z;simp only[b5,Ę]at b;obtain⟨⟨⟨e,f⟩,h⟩,i⟩:=b;show yr (λm k=>by simpa using k) G.nd e (fW f) (.inl (G.fn _)) (bC (.call g [.var q]) X c G.gd i) (dZ h)
def BW(G:Gs ck Γ C d X)(z:EJ ck i f o es is j g q h X.N X.env.scope a b=a8)(I:Jo X r (I_ C (JD ss) (execs Γ ss))):Jo X (a::b::r) (I_ C (JD (.IU i f o es is j g q h::ss)) (execs Γ (.IU i f o es is j g q h::ss))):=by
 simp only[EJ,b5,Ę]at z;have((J,L),k):=z;have(y,p1,v,p2,rfl,l):=eO k;simp only[b5,Ę]at l;obtain⟨⟨⟨⟨⟨O,Q⟩,T⟩,Y⟩,zf⟩,n⟩:=l;clear k;have(_,_,_,_,s1,s2,s3,_,rfl,p):=wt n;clear n;simp only[b5]at p;have((za,s),t):=p;have(y2,_,_,_,_,_,_,rfl,k1,k2):=wq s;have(c,_,_,_,_,rfl,u):=wo t;have(_,_,_,_,_,bs,_,_,rfl,u2,u3,u4,x):=wm u;clear s t u;have(w1,w2,w3,w4):=c_ T;have(A,fa,fd,ps,B,q2,q3,q4,q5):=(G.gd.JK.f _ u2).ex;rw[show Qo X.prog X.w X.K (Γ h) A [100]=Ru X.prog X.w X.K (Γ h) A from ę rfl]at B;show Jo.weak (Gy (Γ:=Γ) (F:=Γ h) (ns:=JD ss) (ns':=JD (.IU i f o es is j g q h::ss)) (λm e=>by
   simp only[JD,Oe,b5,Ę]at e;show#[e.2,e.1.1.1,e.1.1.2,e.1.2]) J L G.gd.P G.gd.w G.gd.K G.nd O (fW Q) (G.fn _) w2 w3 w4 k1 (fW k2) (G.fn _)
  (GX G zf) (dZ Y) (GY G za) rfl q5 B G.gd.room (cS u3) q2 q3 q4 (aG u4).1 (fV [.var j,.call g [.var q]] X bs G.gd x) (aQ (bI x)).1 I) λD σ H z=>BI z
mutual
theorem Ip:∀(s:S) (X:Cx) (s':wk),Gs ck Γ C d X->wu ck s X.N X.env.scope s'=a8->L2.PS X s' (I_ C (Oe s) (exec Γ s))
 |.set i e,X,s',G,h=>by
  have(t,v,p1,rfl,k):=cF h;have(x,p,rfl,l):=v_ k;clear h k;have h:=l;simp only[b5,Ę]at h;obtain⟨⟨⟨⟨⟨r,A⟩,L⟩,B⟩,O⟩,Q⟩:=h;have JH:∀j,Oe (.set i e) j=a8->j≠i:=λj T=>ĝ (show cb (j≠i)=a8 from T);by_cases hc:cA v=a8
  .show yr JH G.nd r (fW A) (.inl (G.fn x)) (bC e X v G.gd B) (dZ hc)
  .cases e with
   |comp n t ik src cond e =>
    have(elt,tg,ac,al,scope,p3,rfl,_):=jr B;show EK G r A B _ JH
   |_=>show absurd Q hc
 |.M7 is e,X,s',G,h=>by
  have(t,v,p1,rfl,k):=cF h;have(es,kk,p,rfl,l):=fj k;clear h k;have h:=l;simp only[b5]at h;obtain⟨⟨⟨r,A⟩,L⟩,B⟩:=h;show Eh (λj T=>ĝ (show cb (j∉is)=a8 from T)) (bC e X v G.gd B) (ue (fa:=λ_=>a8) G.gd.calm G.gd.K G.nd (λx _=>G.fn x) r) (oS A) ?_ rfl;cases v<;>first|rfl|cases L
 |.put i a b,X,s',G,h=>by
  have(t,v,p,rfl,k):=cF h;have(o,a',p1,rfl,l):=cD k;have(x,px,rfl,J):=ah l;simp only[b5,Ę]at J;obtain⟨⟨⟨⟨⟨⟨r,A⟩,L⟩,B⟩,O⟩,Q⟩,h7⟩:=J;have(Y,q2):=aG L;show Gk G.gd.P G.gd.w G.gd.K G.gd.u r (b8 A) Y q2 (bC b X _ G.gd h7) (bC a X _ G.gd Q) (oS B) rfl (ui O)
 |.Ly _,X,s',G,h=>by cases h
 |.Kz i,X,s',G,h=>yV G h
 |.LM i e,X,s',G,h=>by
  have(t,v,p1,rfl,k):=cF h;have(o,m,q,rfl,l):=bM k;have(x,px,rfl,J):=ah l;have(y,py,rfl,z4):=ah J;simp only[b5,Ę]at z4;have((rfl,r),A):=z4;have(w1,w2,w3,w4):=c_ r;have(cl,_,_,K,_):=G.gd.JK.sh.ex;show Em K G.gd.K w1 w2 w3 w4 (bC e X _ G.gd A) rfl
 |.LN i,X,s',G,h=>by
  have(c,p0,rfl,k):=cE h;have(o,m,apos,as,cpos,rfl,l):=aR k;have(o1,m1,Y,rfl,J):=bM l;have(x,px,rfl,z4):=ah J;have(a,rfl,z5):=aV z4;have(o2,m2,q2,rfl,z6):=bM z5;have(x2,ZV,rfl,z7):=ah z6;simp only[b5,Ę]at z7;obtain⟨⟨⟨⟨⟨rfl,rfl⟩,rfl⟩,rfl⟩,r⟩,A⟩:=z7;have(w1,w2,w3,w4):=c_ A;have(cl,_,_,K,_):=G.gd.JK.sh.ex;show En K G.gd.K w1 w2 w3 w4 r
 |.Kl f m o es e,X,s',G,h=>yW G h
 |.J' i f m o es j x e,X,s',G,h=>absurd (show b6=a8 from h) i6
 |.Mo t y x,X,s',G,h=>absurd (show b6=a8 from h) i6
 |.IU i f o es is j g q h',X,s',G,h=>absurd (show b6=a8 from h) i6
 |.app i e,X,s',G,h=>by
  have(c,p0,rfl,k):=cE h;have(o,m,apos,as,cpos,rfl,l):=aR k;have(x,px,rfl,J):=ah l;have(a,rfl,z4):=aV J;simp only[b5,Ę]at z4;obtain⟨⟨⟨⟨⟨⟨rfl,r⟩,A⟩,L⟩,B⟩,O⟩,Q⟩:=z4;have(Y,q2):=aG L;have st:=aO (env:=X.env) (es:=[]) O;have sa:=(aQ (pos:=cpos) (env:=X.env) (es:=[a]) λe he=>by simp at he;subst he;show O).2;show CC G.gd.K r (b8 A) Y q2 (bC e X _ G.gd Q) ?_ B st;rw[sa];rfl
 |.ext i e,X,s',G,h=>by
  have(c,p0,rfl,k):=cE h;have(o,m,apos,as,cpos,rfl,l):=aR k;have(x,px,rfl,J):=ah l;have(a,rfl,z4):=aV J;simp only[b5,Ę]at z4;obtain⟨⟨⟨⟨⟨⟨rfl,r⟩,A⟩,L⟩,B⟩,O⟩,Q⟩:=z4;have(Y,q2):=aG L;have st:=aO (env:=X.env) (es:=[]) O;have sa:=(aQ (pos:=cpos) (env:=X.env) (es:=[a]) λe he=>by simp at he;subst he;show O).2;show Gj G.gd.K r (b8 A) Y q2 (bC e X _ G.gd Q) ?_ B st;rw[sa];rfl
 |.bad,X,s',G,h=>λag sh σ H D I ⟨_,_,_,_,w⟩=>(aX.mp w).elim
 |.newD i,X,s',G,h=>by
  have(t,v,p1,rfl,k):=cF h;have(x,p,rfl,l):=ah k;clear h k;have h:=l;simp only[b5,Ę]at h;have(p2,rfl):=nB h.1.1;show Ej (λj T=>ĝ (show cb (j≠i)=a8 from T)) G.nd h.1.2 (fW h.2) (.inl (G.fn _)) (dZ rfl)
 |.putD i a b,X,s',G,h=>by
  have(t,v,p,rfl,k):=cF h;have(o,a',p1,rfl,l):=cD k;have(x,px,rfl,J):=ah l;simp only[b5,Ę]at J;obtain⟨⟨⟨⟨⟨⟨r,A⟩,L⟩,B⟩,O⟩,Q⟩,h7⟩:=J;have(Y,q2):=aG L;show Ek G.gd.u r (b8 A) Y q2 (bC b X _ G.gd h7) (bC a X _ G.gd Q) (oS B) rfl (ui O)
 |.K3 i a e,X,s',G,h=>by
  have(c,p0,rfl,k):=cE h;have(o,m,apos,as,cpos,rfl,l):=aR k;have(o',a',p1,rfl,J):=cD l;have(x,px,rfl,z4):=ah J;have(b,rfl,z5):=aV z4;simp only[b5,Ę]at z5;obtain⟨⟨⟨⟨⟨⟨⟨⟨⟨rfl,r⟩,A⟩,L⟩,B⟩,O⟩,Q⟩,h7⟩,h8⟩,h9⟩:=z5;have ha:=GJ (C:=C) (Γ:=Γ) (d:=d) (ck:=ck) G.gd h9 h8;have(Y,q2):=aG L;have st:=aO (env:=X.env) (es:=[]) Q;have sa:=(aQ (pos:=cpos) (env:=X.env) (es:=[b]) λe he=>by simp at he;subst he;show Q).2;show El G.gd.K G.gd.u r (b8 A) Y q2 ha (bC a X _ G.gd h7) (qm B) ?_ O st;rw[sa];rfl
 |.aug sub i a e,X,s',G,h=>by
  have(t,op,b,p,rfl,z0):=so h;clear h;have h:=z0;have(o,a',p1,rfl,k):=cD h;have(x,px,rfl,l):=ah k;simp only[b5,Ę]at l;obtain⟨⟨⟨⟨⟨⟨⟨rfl,r⟩,A⟩,L⟩,B⟩,O⟩,Q⟩,h7⟩:=l;have ha:=GJ (C:=C) (Γ:=Γ) (d:=d) (ck:=ck) G.gd h7 Q;have(Y,q2):=aG L;show Gm r (b8 A) Y q2 ha (bC a X _ G.gd O) (BS B)
 |.Q9 i,X,s',G,h=>absurd (show b6=a8 from h) i6
 |.exp e,X,s',G,h=>by
  have(e',p,rfl,z0):=cE h;clear h;have h:=z0;simp only[b5]at h;show Ge (bC e X _ G.gd h.2) (dZ h.1)
 |.ret e,X,s',G,h=>by
  have(v,p,rfl,z0):=dY h;have(e',rfl,k):=eQ z0;clear h z0;have h:=k;show Gf (bC e X _ G.gd h)
 |.M8,X,s',G,h=>absurd (show b6=a8 from h) i6
 |.ite c a b,X,s',G,h=>by
  have(c',a',b',p,rfl,z0):=g_ h;clear h;have h:=z0;simp only[b5]at h;have ha:=gL a X _ G h.1.2;have hb:=gL b X _ G h.2;show Gg (oR c X _ G.gd h.1.1) (Jo.weak ha λD σ H z=>jm (λj T=>(qv.mp (show(JD a j&&JD b j)=a8 from T)).1) z) (Jo.weak hb λD σ H z=>jm (λj T=>(qv.mp (show(JD a j&&JD b j)=a8 from T)).2) z)
 |.Jl t is ik src body,X,s',G,h=>by
  have(tg,ac,K6,p,rfl,z0):=su h;clear h;have h:=z0;rw[b5,b5,b5]at h;show Gi G.po G.gd.calm (uj G.gd h.1.2) (ue (fa:=λ_=>a8) G.gd.calm G.gd.K G.nd (λx _=>G.fn x) h.1.1.1) (gL body X _ G h.2) (sm h.1.1.2) λj T=>by have T:(cb (j∉is)&&JD body j)=a8:=T;simpa using T
 |.N_ c body,X,s',G,h=>by
  have(c',K6,p,rfl,z0):=wb h;clear h;have h:=z0;simp only[b5]at h;show Gh G.po (oR c X _ G.gd h.1) (gL body X _ G h.2)
 |.brk,X,s',G,h=>absurd (show b6=a8 from h) i6
 |.cnt,X,s',G,h=>absurd (show b6=a8 from h) i6
 |.N' is,X,s',G,h=>absurd (show b6=a8 from h) i6
 |.Q_,X,s',G,h=>absurd (show b6=a8 from h) i6
theorem gL:∀(ss:List S) (X:Cx) (c:List wk),Gs ck Γ C d X->cT ck ss X.N X.env.scope c=a8->Jo X c (I_ C (JD ss) (execs Γ ss))
 |[],X,c,G,h=>by
  cases c with
  |nil=>show Gb
  |cons _ _=>simp[cT]at h
 |s::ss,X,c,G,h=>by
  have h:(if isMul s=a8 then BR ck s ss.isEmpty X.N X.env.scope c (cT ck ss X.N X.env.scope) else CL c λs' r=>wu ck s X.N X.env.scope s'&&cT ck ss X.N X.env.scope r)=a8:=h;by_cases n:isMul s=a8
  .rw[ę n]at h;cases s with
   |J' i f m o es j x e =>
    simp only[BR,b5,oT]at h;have(rfl,h):=h;show yX G h
   |Mo t z x =>
    simp only[BR,b5,oT]at h;have(rfl,h):=h;show BV G h
   |IU i f o es is j g q h' =>
    have(a,b,r,rfl,k):=sv (show uh c _=a8 from h);rw[b5]at k;show BW G k.1 (gL ss X r G k.2)
   |_=>cases n
  rw[Ě n]at h;cases c with
  |nil=>cases h
  |cons s' c =>
   have h:=qv.mp (show(wu ck s X.N X.env.scope s'&&cT ck ss X.N X.env.scope c)=a8 from h);have p:=Ip s X s' G h.1;have k:=gL ss X c G h.2;show Ef (PS.weak p λD σ H z=>jm (λj l=>by simp only[JD,b5]at l;show l.1) z) (Jo.weak k λD σ H z=>jm (λj l=>by simp only[JD,b5]at l;show l.2) z)
end
end
section
variable{ck:Ck}{Γ:Tab}{d:Nat}{P:ux}{w:wh}{K:PySem.W.Frag}{mg:Str->Option dr}{base:Km}
def ju{n i:Nat}(h:(start us n)[i]?=a5 (a5 (k,u))):us[i]?=a5 u/\k=if IQ u=a8 then .loc else .any:=by
 unfold start at h;by_cases hi:i<us.length
 .rw[lg (by simpa using hi),nc]at h;rw[ve hi]at h ⊢;simp only[Qf,Ov,Sy]at h;have(a,b):=h;subst b;show#[rfl,a.symm]
 .rw[kr (by simp;lia),vu]at h;split at h<;>cases h
def ay{i:Nat}(h:vs[i]?=a5 v):(L2.start N vs)[i]?=a5 (a5 v):=by
 unfold L2.start;have hi:i<vs.length:=(df.mp h).1;rw[lg (by simpa using hi),nc,h];rfl
def yY(m:∀a,Pr a->JO H a)(h:ar #[P,w,K,H,Pr,λ_=>False,p] Pr H us vs)(q:N.length=n):Ok ⟨P,w,K,H,Pr,λ_=>False,p⟩ ⟨λ_=>False,H,L2.start N vs,start us n,λ_=>[]⟩:=by
 have c:∀(j:Nat) (u:U),(start us n)[j]?≠a5 (a5 (.A',u)):=λj u e=>by
  have:=(ju e).2;split at this<;>cases this
 show#[λa o e _=>e,λa z=>z.elim,λa z=>#[m a z,λz=>z],λa z=>z.elim,?_,λi k u e=>?_,λi j k k' u u' r hk t f l x y=>?_,#[λj u r e _=>(c j u e).elim,λi j a ⟨u,_,e,_⟩=>(c i u e).elim,λj a ⟨u,_,e,_⟩=>(c j u e).elim]]
 .have:=h.len;simp[start,L2.start,q];lia
 .have(f,l):=ju e;have(v,ev,b):=h.get f;show#[v,ay ev,?_];subst l;by_cases g:IQ u=a8
  .rw[ę g];show Rep.IQ g b
  .rw[Ě g];show Rep.mv (.up λa z=>.inl z) b
 .have(_,s):=ju f;subst s;split at hk<;>cases hk
def oU(h:bW Γ fn us=a5 (.ok (k,u))):us.length=fn.np/\((k=.own\/k=.loc\/k=.any)/\(∃st',execs Γ fn.body (start us fn.ns)=a5 (.ok (.rt k u),st'))\/(k=.loc/\u=.IC/\∃st',execs Γ fn.body (start us fn.ns)=a5 (.ok .nx,st'))):=by
 unfold bW at h;split at h
 .rename_i hl;show#[hl,?_];split at h
  .rename_i e;cases h;show .inl #[.inl rfl,_,e]
  .rename_i e;cases h;show .inl #[.inr (.inl rfl),_,e]
  .rename_i e;cases h;show .inl #[.inr (.inr rfl),_,e]
  .rename_i e;cases h;show .inr #[rfl,rfl,_,e]
  .cases h
  .cases h
 .cases h
def qr(h:bW Γ fn us=a5 (.exc c)):us.length=fn.np/\∃st',execs Γ fn.body (start us fn.ns)=a5 (.ok (.rt .io (.str c)),st'):=by
 unfold bW at h;split at h
 .rename_i hl;show#[hl,?_];split at h
  .cases h
  .cases h
  .cases h
  .cases h
  .rename_i e;cases h;show#[_,e]
  .cases h
 .cases h
def CM{st:wk}(F:Mb K fn.name i st f Y)(S:cQ N ps (av st))(hN:N.length=fn.ns)(Kb:ps.length=fn.np)
  (Li:cT ck fn.body N (av st) (bO st)=a8) (q:∀x∈bq,mg x=bD) (t:∀g∈ck.fns,v8 P w K mg base d (Γ g) g)
  (KC:∀p∈ck.gl,∃val v,mg p.1=a5 val/\RelV v val/\∀(C:Ct) S H,Rep C S H p.2 v) (JK:O7 ck Γ P w K mg base d) (xs:NH ck K mg):dC P w K mg base (Ky P w) (d+1) f Y ps (spT P w K (bW Γ fn) fn.np):=by
 have(oc,od,kV,ac,pm,an,D,ct,MU,rfl,lk,IM):=F.ex;show pN lk IM S (λvs H Q E h=>h.1.trans Kb.symm) λA outer s H vs Q E I h=>?_;have(hl,us,r,Pr,J,RC,y,b):=h;have NA:=I.un;let j:Ct:=#[P,w,K,H,Pr,λ_=>False,λu H'=>∃c,u=.str c/\∀m,PySem.W.nsIn K mx c=a5 (a5 (.ref m))->E (.ref m) bD H']
 have B:(Oh P w K H Pr).Eqv j:=#[rfl,rfl,rfl]
 have l:j.Eqv (Oh P w K H Pr):=#[rfl,rfl,rfl]
 have G:Gs ck Γ j d (mB (Ky P w) P w K mg base N i (av st) f D A outer s H E) :=
  #[#[rfl,rfl,rfl,by change(A.deeper (R0 i (av st) s.heap.objs.size f D)).units+60<Kc;lia,rfl,I,q,t,λp hp=>let ⟨val,v,B,l,q3⟩:=KC p hp;⟨val,v,B,l,q3 _⟩,JK],S.nd,λ_=>rfl,QH,S.kind,xs,
   #[rfl,rfl]
   ]
 show#[_,gL fn.body _ _ G Li,#[λ_=>False,H,L2.start N vs,start us fn.ns,λ_=>[]],rfl,rfl,yY RC (y.cg B) hN,?_];cases r with
 |exc c =>
  have(_,st',e):=qr J;show#[_,st',e,λcf L ok n O=>#[c,rfl,λm hC=>b m cf.H hC λa o z=>ok.same a o z λz=>z]]
 |ok x =>
 have(k,u):=x;have(hk,b):=b;have(_,UI):=oU J;have T:∀(c:Cf),Ok j c->∀v,vU j c k u v->Back (Oh P w K H Pr) H c.H c.S k u v:=λc ok v r=>by
  show#[λa o e=>ok.same a o e λz=>z,λa z=>ok.J8 a z,λe=>?_,λe=>?_,λe=>?_]
  .subst e;have(r0,e,h1,h2,h3,h4):=r;show#[r0,e,h1,h2,h4.cg l]
  .subst e;show Rep.cg l r
  .subst e;show Rep.cg l r
 rcases UI with⟨_,st',e⟩|⟨rfl,rfl,st',e⟩
 .rcases hk with rfl|rfl|rfl<;>show#[_,st',e,λc L ok n O v r=>b v c.H c.S (T c ok v r)]
 .show#[_,st',e,λc L ok n O=>b .IC c.H c.S (T c ok .IC rfl)]
def fq(h:(ba p us n)[i]?=a5 (a5 (k,u))):us[i]?=a5 u/\k=if i=p then .A' else if IQ u=a8 then .loc else .any:=by
 unfold ba at h;by_cases hi:i<us.length
 .rw[lg (by simpa using hi),nc,NX]at h;rw[ve hi]at h ⊢;simp only[Qf,Ov,Sy,QZ]at h;have(a,b):=h;subst b;show#[rfl,a.symm]
 .rw[kr (by simp;lia),vu]at h;split at h<;>cases h
def aL.RE{S:dt->Prop}(q:C.Eqv b)(f:∀x,b.J0 x->C.J0 x)(g:C.H₀=b.H₀)(i:∀x,C.IO x->b.IO x)(h:aL C S H r as (.ob u us)):aL b S H r as (.ob u us):=by
 have(cl,j,v,a,vs,e,o):=h;show#[cl,j,v,a,vs,e,by rw[Lv,<-q.K];show o.hc,o.ins,o.ne,λx c=>#[(o.fr x c).1,λz=>(o.fr x c).2.1 (f x z),(o.fr x c).2.2.imp (λz=>by rw[<-g];show z) (i x)],o.im,o.rep.cg q,o.lst,o.Mj,o.JT.cg q]
def wx(q:f.Eqv C)(h:f.J0=C.J0)(B:f.H₀=C.H₀)(l:f.IO=C.IO)(a:Eo f C.H₀ p r b us vs)(D:N.length=n):Ok C #[λ_=>False,C.H₀,L2.start N vs,ba p us n,λ_=>[b]]:=by
 have rt:∀(j:Nat) (k:Kd) (u:U),k.root=a8->(ba p us n)[j]?≠a5 (a5 (k,u)):=λj k u hk e=>by
  have:=(fq e).2;subst this;split at hk
  .cases hk
  .split at hk<;>cases hk
 have m:∀(j:Nat) (u:U),(ba p us n)[j]?=a5 (a5 (.A',u))->j=p:=λj u e=>by
  have:=(fq e).2;by_cases z:j=p
  .show z
  .rw[Ě z]at this;split at this<;>cases this
 show#[λa o e _=>e,λa z=>z.elim,λx z=>by have:=a.par x (h▸z);show#[this.1,l▸this.2],λx z=>?_,?_,λi k u e=>?_,λi j k k' u u' r hk O s c Q T=>(rt i k u hk s).elim,#[λj u G e c=>?_,λi j x ⟨u,_,e,_⟩ ⟨u',_,H,_⟩=>(m i u e).trans (m j u' H).symm,λj x _ ⟨i,k,u,hk,e,_⟩=>rt i k u hk e]]
 .have I:=(a.Oy x).mp (l▸z);have(u,ws,_,t):=a.ob;have(o,ho,_):=aL.there t x (by simpa using I);show#[#[o,ho],o,ho]
 .have:=a.len;simp[ba,L2.start,D];lia
 .have(s,c):=fq e;by_cases z:i=p
  .rw[ę z]at c;subst c z;show#[_,ay a.at_,r,rfl]
  .rw[Ě z]at c;have(v,b1,g):=a.any i u z s;have g:=g.cg q;show#[v,ay b1,?_];subst c;by_cases y:IQ u=a8
   .rw[ę y];show Rep.IQ y g
   .rw[Ě y];show Rep.mv (.up λa z=>.inl (h▸z)) g
 .have J:=m j u e;subst J;have A:(L2.start N vs)[j]?=a5 (a5 (.ref G)):=c;rw[ay a.at_]at A;cases A;have(w,ws,L,t):=a.ob;have:=(fq e).1;rw[L]at this;cases this;show t.RE q (λx z=>h▸z) B λx z=>l▸z
def uo(h:fI Γ fn p body us=a5 (.ok r)):us.length=fn.np/\∃f st k u o,execs Γ body (ba p us fn.ns)=a5 (.ok f,st)/\P9 f=a5 (k,u)/\Mp p st=a5 o/\r=(k,.tup [u,o]):=by
 unfold fI at h;split at h
 .rename_i hl;show#[hl.1,?_];split at h
  .rename_i f st e;cases a:P9 f with
   |none=>rw[a]at h;cases h
   |some c =>
    cases b:Mp p st with
    |none=>rw[a,b]at h;cases h
    |some o =>
     rw[a,b]at h;cases h;show#[f,st,c.1,c.2,o,e,a,b,rfl]
  .cases h
 .cases h
def EM{st:wk}(F:Mb K x j st f fd)(S:cQ N ps (av st))(hN:N.length=fn.ns)(Kb:ps.length=fn.np)(JH:JD body p=a8)
  (Li:cT ck body N (av st) (bO st)=a8) (T:∀x∈bq,mg x=bD) (Y:∀g∈ck.fns,v8 P w K mg base d (Γ g) g)
  (KC:∀p∈ck.gl,∃val v,mg p.1=a5 val/\RelV v val/\∀(C:Ct) S H,Rep C S H p.2 v) (JK:O7 ck Γ P w K mg base d) (xs:NH ck K mg):dC P w K mg base (Ky P w) (d+1) f fd ps (MJ P w K (fI Γ fn p body) fn.np p):=by
 have(oc,od,kV,ac,pm,an,JB,ct,MU,rfl,lk,IM):=F.ex;show pN lk IM S (λvs H Q E h=>h.1.trans Kb.symm) λA outer s H vs Q E hr h=>?_;have(hl,us,k,u,o,Pr,IO,r,a,IY,B,b):=h;have NA:=hr.un;let m:Ct:=#[P,w,K,H,Pr,IO,λu H'=>∃c,u=.str c/\∀I,PySem.W.nsIn K mx c=a5 (a5 (.ref I))->E (.ref I) bD H']
 have q1:(LR P w K H Pr IO).Eqv m:=#[rfl,rfl,rfl]
 have D:m.Eqv (LR P w K H Pr IO):=#[rfl,rfl,rfl]
 have G:Gs ck Γ m d (mB (Ky P w) P w K mg base N j (av st) f JB A outer s H E) :=
  #[#[rfl,rfl,rfl,by change(A.deeper (R0 j (av st) s.heap.objs.size f JB)).units+60<Kc;lia,rfl,hr,T,Y,λp hp=>let ⟨val,v,q1,D,q3⟩:=KC p hp;⟨val,v,q1,D,q3 _⟩,JK],S.nd,λ_=>rfl,QH,S.kind,xs,
   #[rfl,rfl]
   ]
 show#[_,gL body _ _ G Li,#[λ_=>False,H,L2.start N vs,ba p us fn.ns,λ_=>[a]],rfl,rfl,wx (C:=m) q1 rfl rfl rfl B hN,?_];have(_,J,st',k',u',o',e,i,L,e3):=uo IY;cases e3;have t:∀(c:Cf),c.st=st'->Ok m c->Kept (JD body) #[λ_=>False,H,L2.start N vs,ba p us fn.ns,λ_=>[a]] c->∀(k:Kd) (u:U) v,(k=.own->vU m c .own u v)->(k=.loc->vU m c .loc u v)->t_ (LR P w K H Pr IO) H c.H c.S r o k u v:=λc ec l kp k u v r1 r2=>by
  unfold Mp at L;split at L
  rotate_left
  .cases L
  rename_i uw ws O;cases L;rw[<-ec]at O;have(v0,y1,r',y2):=l.sl p _ _ O;subst y2;have NI:=y1;rw[kp.1 p JH,show(L2.start N vs)[p]?=a5 (a5 (.ref r)) from ay B.at_]at NI;cases NI;have rd:=l.dd.kd p _ _ O y1;have(cl,dx,v1,a',Lh,ea,ob):=rd;have UJ:aL (LR P w K H Pr IO) c.S c.H r [a'] (.ob uw ws):=aL.RE D (λx z=>z) rfl (λx z=>z) ⟨cl,dx,v1,a',Lh,rfl,ob⟩;show#[λx y z1 z2=>l.same x y z1 z2,λx y z1=>?_,λx z=>l.J8 x z,#[a',((ob.fr a' (by simp)).2.2).symm,UJ,λhk=>?_],λhk=>?_,λhk=>?_]
  .by_cases z:IO x
   .show(l.io x z).2
   .show#[y,l.same x y z1 z]
  .have(q,rfl,_,_,h3,_):=r1 hk;intro z;cases z;show h3 (.inr #[p,_,r,O,y1,.inr (by rw[ea];simp)])
  .have(q,rfl,h1,h2,_,h4):=r1 hk;show#[q,rfl,h1,h2,h4.cg D]
  .show Rep.cg D (r2 hk)
 show#[J,st',e,λc ec l n kp=>?_];have t:=t c ec l kp;rcases b with⟨hk,b⟩|⟨rfl,c',rfl,b⟩
 .cases J with
  |nx=>cases i;show b .IC c.H c.S (t .loc .IC .IC (λz=>by cases z) λ_=>rfl)
  |rt k0 u0 =>
   cases k0 with
   |own=>cases i;show λv r=>b v c.H c.S (t .own _ v (λ_=>r) λz=>by cases z)
   |loc=>cases i;show λv r=>b v c.H c.S (t .loc _ v (λz=>by cases z) λ_=>r)
   |io =>
    cases u0 with
    |str x=>cases i;rcases hk with z|z<;>cases z
    |_=>cases i
   |any=>cases i
   |bor _=>cases i
   |A'=>cases i
  |_=>cases i
 .have z:Fl.rt .io (.str c')=J:=by
   cases J with
   |rt k0 u0 =>
    cases k0 with
    |io =>
     cases u0 with
     |str x=>cases i;rfl
     |_=>cases i
    |own=>cases i
    |loc=>cases i
    |any=>cases i
    |bor _=>cases i
    |A'=>cases i
   |_=>cases i
  subst z;show#[c',rfl,λI hC=>b I c.H c.S hC (t .io .IC .IC (λz=>by cases z) λz=>by cases z)]
def ft(h:(cv is us n)[i]?=a5 (a5 (k,u))):us[i]?=a5 u/\k=if i=0 then .A' else if i∈is then .io else if i=3\/IQ u=a8 then .loc else .any:=by
 unfold cv at h;by_cases hi:i<us.length
 .rw[lg (by simpa using hi),nc,NX]at h;rw[ve hi]at h ⊢;simp only[Qf,Ov,Sy,QZ]at h;have(a,b):=h;subst b;show#[rfl,a.symm]
 .rw[kr (by simp;lia),vu]at h;split at h<;>cases h
def ur(z:a x):iN H a x=bD:=by
 unfold iN;rw[ę z]
def wy(q:h.Eqv C)(Q:h.J0=C.J0)(h2:h.H₀=C.H₀)(l:h.IO=C.IO)(T:C.H₀=iN H Y)(a:Er h H Y 0 r b is us vs)(hn:N.length=n):
  Ok C #[Y,H,L2.start N vs,cv is us n,λ_=>[b]]/\∀x,(⟨Y,H,L2.start N vs,cv is us n,λ_=>[b]⟩:Cf).R x->h.IO x:=by
 have rt:∀(j:Nat) (k:Kd) (u:U),k.root=a8->(cv is us n)[j]?=a5 (a5 (k,u))->j∈is/\us[j]?=a5 u/\k=.io:=λj k u hk e=>by
  have(A,c):=ft e;by_cases z:j=0
  .rw[ę z]at c;subst c;cases hk
  .rw[Ě z]at c;by_cases y:j∈is
   .rw[ę y]at c;show#[y,A,c]
   .rw[Ě y]at c;subst c;split at hk<;>cases hk
 have G:∀(j:Nat) (u:U),(cv is us n)[j]?=a5 (a5 (.A',u))->j=0:=λj u e=>by
  have:=(ft e).2;by_cases z:j=0
  .show z
  .rw[Ě z]at this;split at this
   .cases this
   .split at this<;>cases this
 have(w,ws,g1,rd):=a.ob;have dm:∀x,h.IO x->∃o,H x=a5 o:=λx z=>by
  rcases(a.Oy x).mp z with z|z|⟨m,hm,e⟩
  .have(o,ho,_):=aL.there rd x (by rw[z];simp);show#[o,ho]
  .have(o,ho,_):=aL.there rd x (by rw[z];simp);show#[o,ho]
  .have hl:m<us.length:=by rw[a.len];show(df.mp e).1
   have(y,B,_,_,y2):=a.io m _ hm (ve hl);rw[e]at B;cases B;have(o,ho,_):=y2.some;show#[o,ho]
 have V_:∀x,h.IO x->¬Y x:=λx z z'=>(a.oc x z').2 z;show#[#[λx o e _=>(nq (T▸e)).1,λx z=>#[by rw[T];show ur z,(a.oc x z).1],λx z=>?_,λx z=>?_,?_,λi k u e=>?_,λi j k k' u u' q hk Ju A c p s=>?_,#[λj u I e c=>?_,λi j x ⟨u,_,e,_⟩ ⟨u',_,e',_⟩=>(G i u e).trans (G j u' e').symm,λj x ⟨u,I,e,c,p⟩ ⟨m,k,u',hk,s,f⟩=>?_]],λx z=>?_]
 .have((o,ho),B,y2):=a.par x (Q▸z);show#[#[o,by rw[T];show iO ho y2],l▸B]
 .have(o,ho):=dm x (l▸z);show#[#[o,by rw[T];show iO ho (V_ x (l▸z))],o,ho]
 .have:=a.len;simp[cv,L2.start,hn];lia
 .have(A,c):=ft e;by_cases z:i=0
  .rw[ę z]at c;subst c z;show#[_,ay a.at_,r,rfl]
  .rw[Ě z]at c;by_cases y:i∈is
   .rw[ę y]at c;subst c;have(J,B,y2,y3,y4):=a.io i u y A;have hq:h.IO J:=(a.Oy J).mpr (.inr (.inr #[i,y,B]));show#[_,ay B,J,rfl,V_ J hq,λz=>(a.par J (Q▸z)).2.1 hq,l▸hq,y4.cg q]
   .rw[Ě y]at c;have(v,b1,g):=a.any i u z y A;have g:=g.cg q;show#[v,ay b1,?_];subst c;by_cases hu:IQ u=a8
    .rw[ę (.inr hu)];show Rep.IQ hu g
    .by_cases l:i=3
     .subst l;rw[ę (.inl rfl)];have(v',c1,c2):=a.loc u A;rw[b1]at c1;cases c1;show c2.cg q
     .rw[Ě λz=>z.elim l hu];show Rep.mv (.up λa z=>z.imp (λz=>Q▸z) id) g
 .have(D,L,_):=rt i k u hk A;have(j1,j2,_):=rt j k' u' Ju c;have(q1,b1,_):=a.io i u D L;have(q2,g,_):=a.io j u' j1 j2;have p:(L2.start N vs)[i]?=a5 (a5 (.ref q)):=p;have s:(L2.start N vs)[j]?=a5 (a5 (.ref q)):=s;rw[ay b1]at p;rw[ay g]at s;cases p;cases s;show a.inj i j _ D j1 b1 g
 .have O:=G j u e;subst O;have t:(L2.start N vs)[0]?=a5 (a5 (.ref I)):=c;rw[ay a.at_]at t;cases t;have:=(ft e).1;rw[g1]at this;cases this;show rd.RE q (λx z=>Q▸z) h2 λx z=>l▸z
 .have O:=G j u e;subst O;have t:(L2.start N vs)[0]?=a5 (a5 (.ref I)):=c;rw[ay a.at_]at t;cases t;have(D,L,_):=rt m k u' hk s;have(q1,b1,g,b3,_):=a.io m u' D L;have f:(L2.start N vs)[m]?=a5 (a5 (.ref x)):=f;rw[ay b1]at f;cases f;rcases p with z|z
  .show g z
  .show b3 (by simpa using z)
 .rcases z with⟨m,k,u',hk,s,f⟩|⟨j,u,I,e,c,p⟩
  .have(D,L,_):=rt m k u' hk s;have(q1,b1,_):=a.io m u' D L;have f:(L2.start N vs)[m]?=a5 (a5 (.ref x)):=f;rw[ay b1]at f;cases f;show(a.Oy x).mpr (.inr (.inr #[m,D,b1]))
  .have O:=G j u e;subst O;have t:(L2.start N vs)[0]?=a5 (a5 (.ref I)):=c;rw[ay a.at_]at t;cases t;show(a.Oy x).mpr (p.imp id λz=>.inl (by simpa using z))
theorem uu:∀{is:List Nat}{st:aq}{ws:List U},Of is st=a5 ws->ws.length=is.length/\∀(n i:Nat),is[n]?=a5 i->∃w,ws[n]?=a5 w/\st[i]?=a5 (a5 (.io,w))
 |[],_,_,h=>by cases h;show#[rfl,λn i e=>by simp at e]
 |i::is,st,ws,h=>by
  unfold Of at h;split at h
  .rename_i u c;rw[dV]at h;have(k,h,rfl):=h;have(a,b):=uu h;show#[by simp[a],λn j e=>?_];cases n with
   |zero=>simp at e;subst e;show#[u,rfl,c]
   |succ n=>have(w,f,g):=b n j (by simpa using e);show#[w,by simpa using f,g]
  .cases h
def uA(h:mL Γ fn is body us=a5 (.ok r)):us.length=fn.np/\∃f st k u o ws,execs Γ body (cv is us fn.ns)=a5 (.ok f,st)/\Ra f=a5 (k,u)/\Mp 0 st=a5 o/\Of is st=a5 ws/\r=(k,.tup (u::o::ws)):=by
 unfold mL at h;split at h
 .rename_i hl;show#[hl.1,?_];split at h
  .rename_i f st e;have((k,u),a,h):=ki.mp h;have(o,b,h):=ki.mp h;rw[dV]at h;have(ws,c,g):=h;cases g;show#[f,st,k,u,o,ws,e,a,b,c,rfl]
  .cases h
 .cases h
def EN{st:wk}(F:Mb K x D st f fd)(S:cQ N ps (av st))(hN:N.length=fn.ns)(Kb:ps.length=fn.np)(UK:JD body 0=a8)(JH:∀i∈is,JD body i=a8)
  (Li:cT ck body N (av st) (bO st)=a8) (ac:∀x∈bq,mg x=bD) (ag:∀g∈ck.fns,v8 P w K mg base d (Γ g) g)
  (KC:∀p∈ck.gl,∃val v,mg p.1=a5 val/\RelV v val/\∀(C:Ct) S H,Rep C S H p.2 v) (JK:O7 ck Γ P w K mg base d) (xs:NH ck K mg):dC P w K mg base (Ky P w) (d+1) f fd ps (Qm P w K (mL Γ fn is body) fn.np 0 is):=by
 have(oc,od,kV,al,pm,an,JB,ct,MU,rfl,lk,IM):=F.ex;show pN lk IM S (λvs H Q E h=>h.1.trans Kb.symm) λA outer s H vs Q E hr h=>?_;have(hl,us,k,u,o,ws,Pr,IO,l,r,a,IY,T,j):=h;have NA:=hr.un;let I:Ct:=#[P,w,K,iN H l,Pr,IO,λu H'=>∃c,u=.str c/\∀C',PySem.W.nsIn K mx c=a5 (a5 (.ref C'))->E (.ref C') bD H']
 have q1:(KH P w K H Pr IO l).Eqv I:=#[rfl,rfl,rfl]
 have J:I.Eqv (KH P w K H Pr IO l):=#[rfl,rfl,rfl]
 have G:Gs ck Γ I d (mB (Ky P w) P w K mg base N D (av st) f JB A outer s H E) :=
  #[#[rfl,rfl,rfl,by change(A.deeper (R0 D (av st) s.heap.objs.size f JB)).units+60<Kc;lia,rfl,hr,ac,ag,λp hp=>let ⟨val,v,q1,J,q3⟩:=KC p hp;⟨val,v,q1,J,q3 _⟩,JK],S.nd,λ_=>rfl,QH,S.kind,xs,
   #[rfl,rfl]
   ]
 have(JV,RF):=wy (C:=I) (N:=N) q1 rfl rfl rfl rfl T hN;show#[_,gL body _ _ G Li,#[l,H,L2.start N vs,cv is us fn.ns,λ_=>[a]],rfl,rfl,JV,?_];have(_,fl,st',k',u',o',ND,e,B,e2,Jx,e3):=uA IY;cases e3;have(l1,l2):=uu Jx;have mk:∀(c:Cf),c.st=st'->Ok I c->Ns #[l,H,L2.start N vs,cv is us fn.ns,λ_=>[a]] c->Kept (JD body) ⟨l,H,L2.start N vs,cv is us fn.ns,λ_=>[a]⟩ c->∀(k:Kd) (u:U) v,(k=.own->vU I c .own u v)->(k=.loc->vU I c .loc u v)->ub (KH P w K H Pr IO l) H c.H l c.S r a is vs o ws k u v/\(∀x,iN H l x=bD->¬c.S x->H x=bD)/\∀b,aL (KH P w K H Pr IO l) c.S c.H r [b] o->c.R b:=λc ec L n kp k u v r1 r2=>by
  have V':∀(m t:Nat) (y:dt),is[t]?=a5 m->vs[m]?=a5 (.ref y)->∃w,ws[t]?=a5 w/\c.st[m]?=a5 (a5 (.io,w))/\c.σ[m]?=a5 (a5 (.ref y))/\cC I c.S c.H y w:=λm t y g1 g2=>by
   have(w',O,Y):=l2 t m g1;rw[<-ec]at Y;have(v',y1,r',y2,_,_,_,y3):=L.sl m _ _ Y;have NI:=y1;rw[kp.1 m (JH m (qs g1)),show(L2.start N vs)[m]?=a5 (a5 (.ref y)) from ay g2]at NI;cases NI;cases y2;show#[w',O,Y,y1,y3]
  unfold Mp at e2;split at e2
  rotate_left
  .cases e2
  rename_i uw Y2 IB;cases e2;rw[<-ec]at IB;have(v0,y1,r',y2):=L.sl 0 _ _ IB;subst y2;have NI:=y1;rw[kp.1 0 UK,show(L2.start N vs)[0]?=a5 (a5 (.ref r)) from ay T.at_]at NI;cases NI;have rd:=L.dd.kd 0 _ _ IB y1;have(cl,dx,v1,a',Lh,ea,ob):=rd;have UJ:aL (KH P w K H Pr IO l) c.S c.H r [a'] (.ob uw Y2):=aL.RE J (λx z=>z) rfl (λx z=>z) ⟨cl,dx,v1,a',Lh,rfl,ob⟩;have UL:c.RD 0 a':=#[_,r,IB,y1,.inr (by rw[ea];simp)]
  have nw:∀x,iN H l x=bD->¬c.S x->H x=bD:=λx z z'=>(nu z).resolve_right λy=>z' (n.sub x y);show#[#[λx y O Y=>n.keep x y O λz=>Y (RF x z),λx y O=>n.there x y O,λx z=>#[nu (L.J8 x z).1,(L.J8 x z).2],#[a',?_,UJ,λhk=>?_],λhk=>?_,λhk=>?_,l1,λt m y w g1 g2 g3=>?_],nw,λb ⟨_,_,_,_,_,eb,Y3⟩=>?_]
  .have f:=ob.fr a' (by simp);rcases f.2.2 with z|z
   .show .inr (nw a' z f.1)
   .rcases(T.Oy a').mp z with z|z|⟨m,hm,z⟩
    .show absurd z.symm ob.ne
    .show .inl z
    .have(t,ht):=Ym hm;have(w',_,Y,z3,_):=V' m t a' ht z;show absurd #[m,.io,w',rfl,Y,z3] (L.dd.d1 0 a' UL)
  .have(q,rfl,_,_,h3,_):=r1 hk;intro z;cases z;show h3 (.inr #[0,UL])
  .have(q,rfl,h1,h2,_,h4):=r1 hk;show#[q,rfl,nw q h1 h2,h2,h4.cg J]
  .show Rep.cg J (r2 hk)
  .have(w',O,_,_,z4):=V' m t y g1 g2;rw[g3]at O;cases O;show z4.cg J
  .cases eb;have z:=Y3.ins;rw[ob.ins]at z;cases z;show .inr #[0,UL]
 show#[fl,st',e,λc ec L n kp=>?_];have mk:=mk c ec L n kp;rcases j with⟨hk,j⟩|⟨rfl,t,w',rfl,j⟩
 .cases fl with
  |nx=>cases B;show j .IC c.H c.S (mk .loc .IC .IC (λz=>by cases z) λ_=>rfl).1
  |rt k0 u0 =>
   cases k0 with
   |own=>cases B;show λv r=>j v c.H c.S (mk .own _ v (λ_=>r) λz=>by cases z).1
   |loc=>cases B;show λv r=>j v c.H c.S (mk .loc _ v (λz=>by cases z) λ_=>r).1
   |A'=>cases B;rcases hk with z|z<;>cases z
   |io=>cases B
   |any=>cases B
   |bor _=>cases B
  |_=>cases B
 .have z:fl=.rt .A' (.tup [t,w']):=by
   cases fl with
   |rt k0 u0=>cases k0<;>first|(cases B;rfl)|(cases B;done)
   |_=>cases B
  subst z;have(b0,nw,hb):=mk .io .IC .IC (λz=>by cases z) λz=>by cases z
  rintro v H' ⟨rfl,G,q,tv,wv,ev,sq,rt,K_,hG⟩;show j v c.H c.S G b0 #[#[q,tv,wv,ev,sq,rt.cg J,K_.cg J],λx z=>#[nw x (hG x z).1 (hG x z).2.1,(hG x z).2.1,(hG x z).2.2.2],λb rd z=>(hG b z).2.2.1 (hb b rd)]
def lI(h:(c7 us n)[i]?=a5 (a5 (k,u))):us[i]?=a5 u/\k=if i=0 then .loc else if IQ u=a8 then .loc else .any:=by
 unfold c7 at h;by_cases hi:i<us.length
 .rw[lg (by simpa using hi),nc,NX]at h;rw[ve hi]at h ⊢;simp only[Qf,Ov,Sy,QZ]at h;have(a,b):=h;subst b;show#[rfl,a.symm]
 .rw[kr (by simp;lia),vu]at h;split at h<;>cases h
def uB(h:oG Γ fn body us=a5 (.ok r)):us.length=fn.np/\∃f st b,execs Γ body (c7 us fn.ns)=a5 (.ok f,st)/\P_ f=a5 b/\r=(.loc,.bl b):=by
 unfold oG at h;split at h
 .rename_i hl;show#[hl.1,?_];split at h
  .rename_i f st e;have(b,a,c):=dV.mp h;cases c;show#[f,st,b,e,a,rfl]
  .cases h
 .cases h
def EO{st:wk}(F:Mb K x l st f fd)(S:cQ N ps (av st))(hN:N.length=fn.ns)(Kb:ps.length=fn.np)
  (Li:cT ck body N (av st) (bO st)=a8) (I:∀x∈bq,mg x=bD) (J:∀g∈ck.fns,v8 P w K mg base d (Γ g) g)
  (KC:∀p∈ck.gl,∃val v,mg p.1=a5 val/\RelV v val/\∀(C:Ct) S H,Rep C S H p.2 v) (JK:O7 ck Γ P w K mg base d) (xs:NH ck K mg):dC P w K mg base (Ky P w) (d+1) f fd ps (Ru P w K (oG Γ fn body) fn.np):=by
 have(oc,od,kV,ac,pm,an,O,ct,MU,rfl,lk,IM):=F.ex;show pN lk IM S (λvs H Q E h=>h.1.trans Kb.symm) λA outer s H vs Q E T h=>?_;have(hl,u,us,v,vs',b,Pr,G,rfl,IY,Y,hG,r1,r2,m):=h;have NA:=T.un;let B:Ct:=#[P,w,K,iN H G,Pr,λ_=>False,λu H'=>∃c,u=.str c/\∀C',PySem.W.nsIn K mx c=a5 (a5 (.ref C'))->E (.ref C') bD H']
 have t:(KH P w K H Pr (λ_=>False) G).Eqv B:=#[rfl,rfl,rfl]
 have GG:Gs ck Γ B d (mB (Ky P w) P w K mg base N l (av st) f O A outer s H E) :=
  #[#[rfl,rfl,rfl,by change(A.deeper (R0 l (av st) s.heap.objs.size f O)).units+60<Kc;lia,rfl,T,I,J,λp hp=>let ⟨val,v,t,q2,q3⟩:=KC p hp;⟨val,v,t,q2,q3 _⟩,JK],S.nd,λ_=>rfl,QH,S.kind,xs,
   #[rfl,rfl]
   ]
 have rt:∀(j:Nat) (k:Kd) (u':U),(c7 (u::us) fn.ns)[j]?=a5 (a5 (k,u'))->k.root=b6/\k≠.A':=λj k u' e=>by
  have:=(lI e).2;subst this;split
  .show#[rfl,λz=>by cases z]
  .split
   .show#[rfl,λz=>by cases z]
   .show#[rfl,λz=>by cases z]
 have Y4:∀x,¬(⟨G,H,L2.start N (v::vs'),c7 (u::us) fn.ns,λ_=>[]⟩:Cf).R x:=λx z=>by
  rcases z with⟨j,k,u',hk,e,_⟩|⟨j,u',_,e,_⟩
  .have:=(rt j k u' e).1;rw[hk]at this;cases this
  .show(rt j _ u' e).2 rfl
 have JV:Ok B ⟨G,H,L2.start N (v::vs'),c7 (u::us) fn.ns,λ_=>[]⟩:=by
  show#[λx o e _=>(nq e).1,λx z=>#[ur z,hG x z],λx z=>#[let #[o,q]:=(Y x z).1;⟨o,iO q (Y x z).2⟩,λz=>z],λx z=>z.elim,?_,λi k u' e=>?_,λi j k k' u1 u2 r hk _ a _ _ _=>?_,#[λj u' r e _=>((rt j _ u' e).2 rfl).elim,λi j x ⟨u',_,e,_⟩=>((rt i _ u' e).2 rfl).elim,λj x ⟨u',_,e,_⟩=>((rt j _ u' e).2 rfl).elim]]
  .have:=r2.len;simp[c7,L2.start,hN];lia
  .have(a,D):=lI e;cases i with
   |zero =>
    cases a;subst D;show#[v,ay rfl,r1.cg t]
   |succ i =>
    have(v',b1,b2):=r2.get (show us[i]?=a5 u' from a);show#[v',ay (show(v::vs')[i+1]?=a5 v' from b1),?_];subst D;rw[Ě (Nat.succ_ne_zero i)];by_cases L:IQ u'=a8
    .rw[ę L];show Rep.IQ L (b2.cg t)
    .rw[Ě L];show Rep.mv (.up λx z=>.inl z) (b2.cg t)
  .have:=(rt i k u1 a).1;rw[hk]at this;cases this
 show#[_,gL body _ _ GG Li,#[G,H,L2.start N (v::vs'),c7 (u::us) fn.ns,λ_=>[]],rfl,rfl,JV,?_];have(_,fl,st',b',e,a,D):=uB IY;cases D;show#[fl,st',e,λc ec ok n kp=>?_];have s1:∀x o,H x=a5 o->¬G x->c.H x=a5 o/\¬c.S x:=λx o e z=>#[ok.same x o (iO e z) λz=>z,λy=>by have:=(ok.J8 x y).1;rw[show B.H₀ x=a5 o from iO e z]at this;cases this]
 have s0:∀x o,H x=a5 o->Tp o->c.H x=a5 o:=λx o e z=>n.keep x o e (Y4 x);unfold P_ at a;split at a
 .cases a;rintro v' H' ⟨rfl,z1,z2⟩;show m H' (λx o e hx=>?_) λx o e=>let ⟨o',q⟩:=n.there x o e;z2 x o' q;rcases hx with hx|hx
  .show z1 x o (s1 x o e hx).1 (.inl (s1 x o e hx).2)
  .show z1 x o (s0 x o e hx) (.inr hx)
 .cases a;intro v' r;obtain rfl:v'=.bl b:=r;show m c.H (λx o e hx=>hx.elim (λz=>(s1 x o e z).1) λz=>s0 x o e z) λx o e=>n.there x o e
 .cases a
abbrev Fn.bd(fn:Fn):List S:=match fn.ob,fn.io with|some (_,b),_=>b|none,a5 (_,b)=>b|none,bD=>fn.body
abbrev Qv(fn:Fn):Bool:=match fn.ob,fn.io with|some (p,b),_=>JD b p|none,a5 (is,b)=>JD b 0&&is.all λi=>JD b i|none,bD=>a8
structure Ld(ck:Ck)(K:PySem.W.Frag)(mg:Str->Option dr)(fn:Fn)(m:Str):Prop where
 ex:∃(x qual:Str) (st:wk) (f:dt) (fd:QU) (N ps:List Str),Mb K x qual st f fd/\(m=""->x=fn.name/\mg fn.name=a5 (.ref f))/\(m≠""->∀cl,Lv K cl->Meth K cl m f)/\Binds K fd ps []/\cQ N ps (av st)/\N.length=fn.ns/\ps.length=fn.np/\cT ck fn.bd N (av st) (bO st)=a8/\Qv fn=a8
def BX{Pg:List Fn}(a:(Pg.map (·.name)).Nodup)(h:fn∈Pg):Pg.find? (λg=>cb (g.name=fn.name))=a5 fn:=by
 induction Pg with
 |nil=>cases h
 |cons g Pg b =>
  rw[gi,o9]at a;rcases gj.mp h with rfl|h
  .simp
  .rw[ML];have:cb (g.name=fn.name)=b6:=by
    apply ě;intro z;show a.1 (z▸Ol h)
   rw[this];show b a.2 h
def oV(a:(Pg.map (·.name)).Nodup)(h:fn∈Pg):IZ Pg (d+1) fn.name=gW (IZ Pg d) fn:=by
 funext us
 change(match Pg.find? λg=>cb (g.name=fn.name) with|some fn=>gW (IZ Pg d) fn us|none=>bD)=_;rw[BX a h]
def nI(h:fn.ob=bD)(a:fn.io=bD):gW Γ fn=bW Γ fn:=by funext us;unfold gW;rw[a,h]
def BY(h:fn.ob=a5 (p,b)):gW Γ fn=fI Γ fn p b:=by
 have a:fn.io=bD:=by
  unfold Fn.ob at h;unfold Fn.io;split at h
  .rename_i e;rw[e]
  .cases h
 funext us
 unfold gW;rw[a,h]
def BZ(h:fn.io=a5 (is,b)):gW Γ fn=if is=[100] then oG Γ fn b else mL Γ fn is b:=by funext us;unfold gW;rw[h];dsimp only;split<;>rfl
abbrev Lq(ck:Ck)(Pg:List Fn)(K:PySem.W.Frag)(mg:Str->Option dr):Prop:=∀q∈ck.JK,∃fn∈Pg,fn.name=q.1/\fn.ob=bD/\(∃b,fn.io=a5 (q.2,b))/\Ld ck K mg fn ""
def uC(I0:(Pg.map (·.name)).Nodup)(JG:Lq ck Pg K mg)(D:∀x∈bq,mg x=bD)(KC:∀p∈ck.gl,∃val v,mg p.1=a5 val/\RelV v val/\∀(C:Ct) S H,Rep C S H p.2 v)
  (ld:∀g∈ck.fns,∃fn∈Pg,fn.name=g/\fn.ob=bD/\fn.io=bD/\Ld ck K mg fn "") (lo:∀q∈ck.obs,∃fn∈Pg,fn.name=q.1/\(∃b,fn.ob=a5 (q.2.1,b))/\Ld ck K mg fn q.2.2) (sh:RA P w K mg base) (xs:NH ck K mg):∀d,(∀g∈ck.fns,v8 P w K mg base (d+2) (IZ Pg d g) g)/\O7 ck (IZ Pg d) P w K mg base (d+2):=by
 intro d;induction d with
 |zero =>
  show#[λg hg=>?_,λq O=>by
   have(fn,J,e,_,_,l):=JG q O;have(x,a,st,f,n,N,ps,F,o,_,t,S,G,j,_):=l.ex;show#[fn.np,f,n,ps,(by
    unfold Qo;split
    .show#[λvs H Q E h=>h.1.trans j.symm,λA outer s H args us vs Q E _ _ _ _ h=>by have(_,_,_,_,_,_,_,_,_,e,_):=h;cases e]
    .show#[λvs H Q E h=>h.1.trans j.symm,λA outer s H args us vs Q E _ _ _ _ h=>by have(_,us,k,u,_,_,_,_,_,_,_,e,_):=h;cases e]),e▸(o rfl).2,F.kp,t,λus k e=>by cases e],λq O=>?_,sh,hY _]
  .have(fn,J,rfl,T,Y,l):=ld g hg;have(x,a,st,f,n,N,ps,F,o,_,t,S,G,j,_):=l.ex;show#[fn.np,f,n,ps,#[λvs H Q E h=>h.1.trans j.symm,λA outer s H args us vs Q E _ _ _ _ h=>by have(_,us,r,_,e,_):=h;cases e],(o rfl).2,F.kp,t,λus k u e=>(by cases e),λus c e=>by cases e]
  .have(fn,J,e,_,l):=lo q O;have(x,a,st,f,n,N,ps,F,o,Kr,t,S,G,j,_):=l.ex;show#[fn.np,f,n,ps,#[λvs H Q E h=>h.1.trans j.symm,λA outer s H args us vs Q E _ _ _ _ h=>by have(_,us,k,u,_,_,_,_,_,e,_):=h;cases e],λz=>e▸(o z).2,F.kp,Kr,t,λus k e=>by cases e]
 |succ d L =>
  show#[λg hg=>?_,λq O=>by
   have(fn,J,e,ho,(b,hi),l):=JG q O;have(y,is):=q
   dsimp only at e hi
   subst e;have(x,a,st,f,n,N,ps,F,o,_,t,S,G,j,I,B):=l.ex
   dsimp only
   rw[oV I0 J,BZ hi];rw[show fn.bd=b by unfold Fn.bd;rw[ho,hi]]at I;unfold Qv at B;rw[ho,hi]at B;have B:(JD b 0&&is.all λi=>JD b i)=a8:=B;rw[b5,qa]at B;show#[fn.np,f,n,ps,(by
    unfold Qo;split
    .show EO F S G j I D L.1 KC L.2 xs
    .show EN F S G j B.1 B.2 I D L.1 KC L.2 xs),(o rfl).2,F.kp,t,λus r e=>by
     split at e
     .show(uB e).1
     .show(uA e).1],λq O=>?_,sh,⋯]
  .have(fn,J,rfl,T,Y,l):=ld g hg;have(x,a,st,f,n,N,ps,F,o,_,t,S,G,j,I,_):=l.ex;have(rfl,Y5):=o rfl;rw[oV I0 J,nI T Y];rw[show fn.bd=fn.body by unfold Fn.bd;rw[T,Y]]at I;show#[fn.np,f,n,ps,CM F S G j I D L.1 KC L.2 xs,Y5,F.kp,t,λus k u e=>?_,λus c e=>(qr e).1];have(T,Y):=oU e;show#[?_,T];rcases Y with⟨z,_⟩|⟨z,_⟩
   .show z
   .show .inr (.inl z)
  .have(fn,J,e,(b,LW),l):=lo q O;have(y,p,m):=q
   dsimp only at e LW l
   subst e;have(x,a,st,f,n,N,ps,F,o,Kr,t,S,G,j,I,B):=l.ex;rw[oV I0 J,BY LW];rw[show fn.bd=b by unfold Fn.bd;rw[LW]]at I;unfold Qv at B;rw[LW]at B;show#[fn.np,f,n,ps,EM F S G j B I D L.1 KC L.2 xs,λz=>(o z).2,F.kp,Kr,t,λus r e=>(uo e).1]
end
abbrev yZ(ns:List Int):U:=.JF (ns.map .int)
theorem nJ{S:dt->Prop}:∀(ns:List Int),ar C S H (ns.map .int) (ns.map V.int)
 |[]=>rfl
 |n::ns=>#[_,_,rfl,rfl,nJ ns]
def sy(h:Jk C.K H a (ns.map V.int)):Rep C (JO H) H (yZ ns) (.ref a):=by
 show#[a,_,rfl,?_,nJ ns];rcases h with(h|⟨o,h⟩)|h
 .show .inl #[#[_,h],.inl h]
 .show .inl #[#[_,h],.inr #[o,h]]
 .show .inr h
theorem qt:∀{l:List α},(∀a∈l,f a=g a)->l.filterMap f=l.filterMap g
 |[],_=>rfl
 |a::l,h=>by rw[L4,L4,h a (by simp),qt λb c=>h b (by simp[c])]
theorem uD:∀(l:List Str) (us:List dr),l.Nodup->us.length=l.length->l.filterMap (λn=>((l.zip us).lookup n).map (n,·))=l.zip us
 |[],_,_,_=>rfl
 |a::l,[],_,h=>nomatch h
 |a::l,u::us,b,h=>by
  rw[o9]at b;have c:=uD l us b.2 (by simpa using h);simp only[TJ,L4,nC,beq_self_eq_true,Qf];congr 1
  conv=>rhs;rw[<-c]
  show qt λn d=>?_;have:(n==a)=b6:=by
   rw[Ğ];rintro rfl;show b.1 d
  rw[this]
def y6(l:List Str)(us:List dr)(h:us.length=l.length):l.filter (λn=>((l.zip us).lookup n).isNone)=[]:=by
 rw[L'];intro n hn;induction l generalizing us with
 |nil=>cases hn
 |cons a l b =>
  cases us with
  |nil=>cases h
  |cons u us =>
   simp only[TJ,nC];cases e:n==a with
   |true=>simp
   |false =>
    rcases gj.mp hn with rfl|hn
    .simp at e
    .show b us (by simpa using h) hn
def y7{kV a b c ct:dr}(d:(as.map (·.arg)).Nodup)(hl:us.length=(as.map (·.arg)).length):
  ď (PySem.W.fnOf x q #[[],as,bD,[],[],bD,[]] body scope .none kV a b m c ct) #[us,[]]=pure ((as.map (·.arg)).zip us):=by
 have e:=uD _ us d hl;have f:=y6 _ us hl;change(if _ then _ else _)=_;rw[Ě (by simp[hl])];have g:∀k:Nat,¬(!(((as.map (·.arg)).take k).filter λn=>(((as.map (·.arg)).zip us).lookup n).isNone).isEmpty)=a8:=λk=>by
  rw[L'.mpr λn h=>L'.mp f n (Sz h)];show i6
 show(Ě (g _)).trans ?_;have hz:∀(l:List Str) (i j:Nat),(l.drop i).zip ((bD.getD #v[]:Array dr).toList.drop j)=[]:=λl i j=>by rw[show(bD.getD #v[]:Array dr).toList=[] from rfl,List.drop_nil,List.zip_nil_right]
 show Eq.trans (ğ (λz=>Bind.bind (forIn z _ _) _) (hz _ _ _)) ?_;show ğ (pure:List (Str×dr)->Sem (List (Str×dr))) ((ğ (List.filterMap _) (rl _)).trans e)
def kh(h:y8 v a=a8):v=a5 (a5 (.ref a)):=by
 unfold y8 at h;split at h
 .rw[ĝ h]
 .cases h
abbrev nn(o:Option (Option dr)):Bool:=match o with|some bD=>a8|_=>b6
def y9(h:nn o=a8):o=a5 bD:=by
 unfold nn at h;split at h
 .rfl
 .cases h
abbrev GZ(p:Arguments)(ps:List Str):Bool:=p.posonlyargs.isEmpty&&p.vararg.isNone&&p.kwonlyargs.isEmpty&&p.kw_defaults.isEmpty&&p.kwarg.isNone&&p.defaults.isEmpty&&cb (p.args.map (·.arg)=ps)
abbrev Wa(N:List Str)(b:Nat)(a:z8):Bool:=cb (a.kind=.function)&&cb (a.isCoroutine=b6)&&cb (a.isGenerator=b6)&&decide N.Nodup&&(N.take b).all (gY a)&&a.names.all (λy=>cb (y.2≠.free))
abbrev RG(K:PySem.W.Frag):Option dt:=match PySem.W.nsIn K mx "Shelf" with|some (a5 (.ref C))=>a5 C|_=>bD
abbrev RH(K:PySem.W.Frag)(x:Str)(a:dt):Bool:=match RG K with|some C=>IU K C x a|none=>b6
abbrev Wb(ck:Ck)(top:Nat->wk)(K:PySem.W.Frag)(m:Me):Bool:=PySem.W.codeIn K (.ref m.c) m.fn.name&&PySem.W.keepIn K (.ref m.a)&&(if m.x=m.fn.name then y8 (PySem.W.nsIn K mx m.fn.name) m.a else RH K m.x m.a)&&GZ (gf (top m.i)) (m.N.take m.fn.np) &&
 Wa m.N m.fn.np (av (top m.i))&&cb (m.N.length=m.fn.ns)&&cb (m.fn.np<=m.fn.ns)&&(cT ck m.fn.bd m.N (av (top m.i)) (bO (top m.i))&&Qv m.fn)
abbrev Wc(K:PySem.W.Frag)(p:Str×U):Bool:=match p.2,PySem.W.nsIn K mx p.1 with
 |.int i,a5 (a5 (.int j _))=>cb (i=j)
 |.str i,a5 (a5 (.str j _))=>cb (i=j)
 |_,_=>b6
abbrev MM(ck:Ck)(top:Nat->wk)(K:PySem.W.Frag)(ms:List Me):Bool:=ms.all (Wb ck top K)&&bq.all (λy=>nn (PySem.W.nsIn K mx y))&&ck.gl.all (Wc K)&&cb (K.map (·.1)).Nodup
def G0{K:PySem.W.Frag}(b:(K.map (·.1)).Nodup)(h:(a,o)∈K):K.lookup a=a5 o:=by
 induction K with
 |nil=>cases h
 |cons p K c =>
  rw[gi,o9]at b;rw[nC];rcases gj.mp h with rfl|h
  .simp
  .have:(a==p.1)=b6:=by
    rw[Ğ];rintro rfl;show b.1 (kj.mpr #[_,h,rfl])
   rw[this];show c b.2 h
section
def y_(c:MM ck top (JM top g ms) ms=a8)(h:m∈ms):Mb (JM top g ms) m.x m.fn.name (top m.i) m.a (m.fd top)/\(if m.x=m.fn.name then y8 (PySem.W.nsIn (JM top g ms) mx m.fn.name) m.a else RH (JM top g ms) m.x m.a)=a8 /\
  (∀us:List dr,us.length=(m.N.take m.fn.np).length->ď (m.fd top) #[us,[]]=pure ((m.N.take m.fn.np).zip us))/\cQ m.N (m.N.take m.fn.np) (av (top m.i))/\m.N.length=m.fn.ns/\(m.N.take m.fn.np).length=m.fn.np/\(cT ck m.fn.bd m.N (av (top m.i)) (bO (top m.i))=a8/\Qv m.fn=a8):=by
 simp only[MM,b5,Ę]at c;have z:=qa.mp c.1.1.1 m h;simp only[Wb,b5,Ę]at z;obtain⟨⟨⟨⟨⟨⟨⟨j,k⟩,l⟩,b⟩,d⟩,n⟩,u⟩,o⟩:=z;simp only[Wa,b5,Ę]at d;obtain⟨⟨⟨⟨⟨s1,s2⟩,s3⟩,s4⟩,p⟩,q⟩:=d;have r:(JM top g ms).lookup m.a=a5 (m.fo top):=G0 c.2 (gj.mpr (.inr (Qk _ (List.mem_flatMap.mpr #[m,h,by simp]))));have hl:(m.N.take m.fn.np).length=m.fn.np:=by rw[oD];lia
 show#[Dz r j k,l,λus f=>?_,#[s1,s2,s3,s4,by rw[hl],λx s=>?_,λy t=>?_],n,hl,o]
 .unfold Me.fd;revert b;cases gf (top m.i) with
  |mk v as w A B C D =>
   intro b;simp only[GZ,b5,oT,Q0,Ę]at b;obtain⟨⟨⟨⟨⟨⟨rfl,rfl⟩,rfl⟩,rfl⟩,rfl⟩,rfl⟩,e⟩:=b;rw[<-e]at f ⊢;show y7 (by rw[e];show(ZF _ _).nodup s4) f
 .have:=qa.mp p x s;simpa[gY] using this
 .have:=qa.mp q y t;simpa using this
abbrev UM(ck:Ck)(ms:List Me):Bool:=ck.fns.all (λg=>ms.any λm=>cb (m.fn.name=g)&&cb (m.x=g)&&m.fn.ob.isNone&&m.fn.io.isNone) &&
 ck.obs.all (λq=>ms.any λm=>cb (m.fn.name=q.1)&&cb (m.fn.ob.map (·.1)=a5 q.2.1)&&(if q.2.2="" then cb (m.x=m.fn.name) else cb (m.x=q.2.2)&&cb (m.x≠m.fn.name)))
 && ck.JK.all (λq=>ms.any λm=>cb (m.fn.name=q.1)&&cb (m.x=q.1)&&m.fn.ob.isNone&&cb (m.fn.io.map (·.1)=a5 q.2))
def zd{h:Km}{mg:Str->Option dr}(j:MM ck top (JM top g ms) ms=a8)(X:(JM top g ms).In h)(G:h.Ns mx mg){m:Me}(hi:m∈ms){n:Str}(i:if n="" then m.x=m.fn.name else m.x=n/\m.x≠m.fn.name):Ld ck (JM top g ms) mg m.fn n:=by
 have(a,b,c,d,e,f,k):=y_ j hi;show#[_,_,_,_,_,_,_,a,λz=>?_,λz cl l=>?_,.all c,d,e,f,k]
 .rw[ę z]at i;rw[ę i]at b;show#[i,PySem.W.mg_of X G (kh b)]
 .rw[Ě z]at i;rw[Ě i.2]at b;unfold RH RG at b;rw[show PySem.W.nsIn (JM top g ms) mx "Shelf"=_ from l]at b;simp only[IU,b5]at b;rw[<-i.1];show#[kh b.1,b.2,a.kp]
def ER(j:MM ck top (JM top g ms) ms=a8)(n:UM ck ms=a8)(X:(JM top g ms).In h)(G:h.Ns mx mg):(∀g'∈ck.fns,∃fn∈ms.map (·.fn),fn.name=g'/\fn.ob=bD/\fn.io=bD/\Ld ck (JM top g ms) mg fn "")/\(∀q∈ck.obs,∃fn∈ms.map (·.fn),fn.name=q.1/\(∃b,fn.ob=a5 (q.2.1,b))/\Ld ck (JM top g ms) mg fn q.2.2)/\Lq ck (ms.map (·.fn)) (JM top g ms) mg:=by
 simp only[UM,b5,qa,R6,Ę,oT,Q0]at n;have((o,p),r):=n;show#[λg' s=>?_,λq k=>?_,λq k=>by
  obtain⟨m,a,⟨⟨d,c⟩,f⟩,i⟩:=r q k;show#[m.fn,Ol a,d,f,?_,zd j X G a (by rw[ę rfl,d,c])];cases e:m.fn.io with
  |none=>rw[e]at i;cases i
  |some l=>rw[e]at i;show#[l.2,by rw[<-ro i]]]
 .obtain⟨m,a,⟨⟨d,c⟩,f⟩,i⟩:=o g' s;show#[m.fn,Ol a,d,f,i,zd j X G a (by rw[ę rfl,d,c])]
 .have(m,a,(d,c),f):=p q k;show#[m.fn,Ol a,d,?_,zd j X G a ?_]
  .cases e:m.fn.ob with
   |none=>rw[e]at c;cases c
   |some l=>rw[e]at c;show#[l.2,by rw[<-ro c]]
  .split at f
   .rename_i z;rw[ę z];simpa using f
   .rename_i z;rw[Ě z];simpa using f
abbrev RJ(top:Nat->wk)(K:PySem.W.Frag)(ms:List Me):Bool:=match RG K with
 |none=>b6
 |some C=>PySem.W.plainGet K C td&&PySem.W.hasDictIn K C&&PySem.W.plainOver K C&&(PySem.W.findIn K (.ref C) "__setattr__"==a5 (a5 (.builtin "object.__setattr__")))&&nn (PySem.W.findIn K (.ref C) "rows")&&nn (PySem.W.findIn K (.ref C) "earlier")&&PySem.W.makesIn K C&&PySem.W.keepIn K (.ref C) &&
  ms.any λm=>cb (m.x="__init__")&&cb (m.x≠m.fn.name)&&cb (m.fn.np=1)&&cb (m.N=(["self"]:List Str))&&Um (bO (top m.i))&&fS (av (top m.i)) "self"
def ES(f:MM ck top (JM top g ms) ms=a8)(hs:RJ top (JM top g ms) ms=a8)(X:(JM top g ms).In h)(G:h.Ns mx mg):RA P w (JM top g ms) mg base:=by
 unfold RJ at hs;split at hs
 .cases hs
 .rename_i C b;have c:Lv (JM top g ms) C:=by
   unfold RG at b;split at b
   .rename_i e;cases b;show e
   .cases b
  simp only[b5,R6,Ę]at hs;obtain⟨⟨⟨⟨⟨⟨⟨⟨i,j⟩,l⟩,n⟩,o⟩,p⟩,q⟩,r⟩,m,s,⟨⟨⟨⟨⟨b1,t⟩,b3⟩,b4⟩,u⟩,v⟩⟩:=hs;have(F,c1,d,S,_,_,_):=y_ f s;rw[Ě t]at c1;unfold RH at c1;rw[b]at c1;simp only[IU,b5]at c1;rw[b3,b4]at d S;rw[b1]at F c1;have K:LU (JM top g ms) C:=#[c,#[i,j,l,beq_iff_eq.mp n],y9 o,y9 p]
  show#[C,m.a,m.fd top,K,#[q,kh c1.1,c1.2,r],BE (k:=0) F S u (b8 v) K,.all d,PySem.W.mg_of X G c]
def ET(c:MM ck top (JM top g ms) ms=a8)(X:(JM top g ms).In h)(G:h.Ns mx mg):∀p∈ck.gl,∃val v,mg p.1=a5 val/\RelV v val/\∀(C:Ct) S H,Rep C S H p.2 v:=by
 intro p d;simp only[MM,b5,Ę]at c;have z:=qa.mp c.1.2 p d;unfold Wc at z;split at z
 .rename_i i j k a b;obtain rfl:=ĝ z;show#[_,.int i,PySem.W.mg_of X G b,#[_,rfl],λ_ _ _=>by rw[a];rfl]
 .rename_i i j k a b;obtain rfl:=ĝ z;show#[_,.str i,PySem.W.mg_of X G b,#[_,rfl],λ_ _ _=>by rw[a];rfl]
 .cases z
end
abbrev gX(ck:Ck)(K:PySem.W.Frag):Bool:=ck.xc.all (λx=>match PySem.W.nsIn K mx x with|some (a5 (.ref C))=>PySem.W.excIn K C Vv "ValueError.__new__"|_=>b6)&&ck.xd.all λp=>match PySem.W.nsIn K mx p.1,PySem.W.nsIn K mx p.2 with
 |some (a5 (.ref C)),a5 (a5 (.ref D))=>PySem.W.exmOne K (.ref C) (.ref D)==a5 a8
 |_,_=>b6
def EU{K:PySem.W.Frag}(z:gX ck K=a8)(X:K.In h)(G:h.Ns mx mg):NH ck K mg:=by
 rw[gX,b5,qa,qa]at z;show#[λx b=>?_,λp c=>?_]
 .have:=z.1 x b;split at this
  .rename_i e;show#[_,PySem.W.mg_of X G e,e,this]
  .cases this
 .have:=z.2 p c;split at this
  .rename_i a d;show#[_,_,PySem.W.mg_of X G a,a,PySem.W.mg_of X G d,beq_iff_eq.mp this]
  .cases this
def walk{l:PySem.W.OpenLaw}{K:Vl->PySem.W.Frag}
  (A:l.most=a5 63) (B:d.params.defaults=[]) (D:cO (dp+3) SO) (I:∀(w:wh) (h:Km),J w h->(K w.params).In h)
  (j:(Pg.map (·.name)).Nodup) (L:fn.ob=bD) (O:fn.io=bD) (Q:fn∈Pg) (Mw:fn.name=d.name)
  (F:∀(w:wh) (mg:Str->Option dr) (fa:dt) (h:Km),(K w.params).In h->h.Ns mx mg->mg d.name=a5 (.ref fa) ->
   (∀y∈bq,mg y=bD)/\(∀p∈ck.gl,∃val v,mg p.1=a5 val/\RelV v val/\∀(C:Ct) S H,Rep C S H p.2 v)/\((∀g∈ck.fns,∃fn∈Pg,fn.name=g/\fn.ob=bD/\fn.io=bD/\Ld ck (K w.params) mg fn "")/\(∀q∈ck.obs,∃fn∈Pg,fn.name=q.1/\(∃b,fn.ob=a5 (q.2.1,b))/\Ld ck (K w.params) mg fn q.2.2)/\Lq ck Pg (K w.params) mg)/\(∀base,RA l.prog w (K w.params) mg base)/\NH ck (K w.params) mg /\
   ∃(c:Str) (st:wk) (i:QU) (N:List Str),Mb (K w.params) fn.name c st fa i/\cQ N [x] (av st)/\N.length=fn.ns/\1=fn.np/\cT ck fn.body N (av st) (bO st)=a8/\∀(s:hQ) (u:dr),Zt s i #[[u],[]] [(x,u)])
  (T:∀ns:List Int,ns.length<=63->IZ Pg (dp+1) fn.name [yZ ns]=a5 (.ok (.loc,.bl a8))) :
  PySem.W.WalkO q m XP J l.row.toRowW d [] (λf vs=>PySem.call f vs) :=
 L2.AE (n:=63) (k:=dp+3) (x:=x) (CX:=λw=>Ky l.prog w) (sp:=λw=>spT l.prog w (K w.params) (bW (IZ Pg dp) fn) fn.np) A (by decide) B D I
  (λw mg fa h Y G Pq=>by
   have(e,o,(ld,lo,hi),r,xs,c,st,i,N,F1,S,hN,Kb,hc,hb):=F w mg fa h Y G Pq;show#[i,hb,λbase _ _=>CM F1 S hN Kb hc e (uC j hi e o ld lo (r base) xs dp).1 o (uC j hi e o ld lo (r base) xs dp).2 xs])
  (λw H a ns hl _ hS=>by
   have t:=T ns hl;rw[oV j Q,nI L O]at t;have LV:fn.np=1:=(oU t).1.symm;show#[LV.symm,[yZ ns],.ok (.loc,.bl a8),JO H,t,λ_ z=>z,#[_,_,rfl,sy hS,rfl],.inr (.inl rfl),λv H' S' b=>b.loc rfl])
  λ_ _ _ _ _ ⟨_,_,_,_,_,_,z⟩=>z
def walk2{l:PySem.W.OpenLaw}{g:Vl->Gx}
  (A:l.most=a5 63) (B:d.params.defaults=[]) (C:cO (dp+3) SO) (j:ms.map (·.fn)=Pg) (D:(Pg.map (·.name)).Nodup) (H:UM ck ms=a8) (o:m.fn.ob=bD) (p:m.fn.io=bD) (r:m∈ms) (t:m.fn.name=d.name) (v:m.x=m.fn.name) (I:m.N.take m.fn.np=[x])
  (ok:∀P,MM ck top (JM top (g P) ms) ms=a8) (J:∀P,(gX ck (JM top (g P) ms)&&RJ top (JM top (g P) ms) ms)=a8) (L:∀P,(g P).2.map (·.1)=xa) (T:∀ns:List Int,ns.length<=63->IZ Pg (dp+1) m.fn.name [yZ ns]=a5 (.ok (.loc,.bl a8))) :
  PySem.W.WalkO q i Q (PySem.W.kHook (λP=>JM top (g P) ms) (adr ms xa) λP=>uE top (g P) ms xa (L P)).says l.row.toRowW d [] (λf vs=>PySem.call f vs) :=
 walk A B C (λw h Y=>PySem.W.kIn_of Y) D o p (j▸kj.mpr #[m,r,rfl]) t (λw mg fa h X G z=>by
  have hk:=ok w.params;have hz:=qv.mp (J w.params);have(a,b,c,e,f,k,n):=y_ hk r;rw[ę v]at b;rw[<-t,PySem.W.mg_of X G (kh b)]at z;cases z;rw[I]at c e k;rw[v]at a;show#[λy O=>PySem.W.mg_none_of X G (y9 ?_),ET hk X G,j▸ER hk H X G,λbase=>ES hk hz.2 X G,EU hz.1 X G,_,_,_,_,a,e,f,k,by have:=n.1;rw[show m.fn.bd=m.fn.body by unfold Fn.bd;rw[o,p]]at this;show this,λs u=>.of_eq (c [u] rfl)];simp only[MM,b5]at hk;show qa.mp hk.1.1.2 y O) T
end TM
namespace TM
open PySem L2
section
abbrev Run(m:M α)(st:aq)(a:α)(st':aq):Prop:=m st=a5 (.ok a,st')
def aa(c:Run m st a st1)(d:Run (f a) st1 b st2):Run (m >>= f) st b st2:=by
 change M.bind m f st=_;unfold M.bind;rw[show m st=_ from c];show d
def aH:Run (pure a:M α) st a st:=rfl
def cU(h:o=a5 a):Run (M.Jd o) st a st:=by subst h;rfl
def aS(h:aY rs st):Run (au rs) st () st:=by change au rs st=_;unfold au;rw[ę h]
abbrev kv(i:Nat)(k:Kd):Kd:=if k.root=a8 then .bor i else k
def fX(h:st[i]?=a5 (a5 (k,u)))(hk:k≠.A':=by intro z;cases z):Run (di i) st (kv i k,u) st:=by
 change di i st=_;unfold di;rw[h];cases k<;>first|rfl|show absurd rfl hk
def af(h:st[i]?=a5 (a5 (.loc,u))):Run (ev Γ (.var i)) st (.loc,u) st:=fX h
def az(h:st[i]?=a5 (a5 (.any,u))):Run (ev Γ (.var i)) st (.any,u) st:=fX h
def aA(h:st[i]?=a5 (a5 (.own,u))):Run (ev Γ (.var i)) st (.bor i,u) st:=fX h
def aw:Run (ev Γ (.cst u)) st (.loc,u) st:=rfl
def nK:Run (ev Γ (.Le x u)) st (.loc,u) st:=rfl
def bN(c:Run (ev Γ a) st x st1)(d:Run (ev Γ b) st1 y st2)(e:aY [x,y] st2)(f:K4 op x y=a5 r):Run (ev Γ (.bin op a b)) st r st2 :=
 aa c (aa d (aa (aS e) (cU f)))
def iS(d:Run (ev Γ a) st x st1)(e:Run (ev Γ b) st1 y st2)(f:aY [x,y] st2)(g:bT op x.2 y.2=a5 c):Run (ev Γ (.cmp op a b)) st (.loc,.bl c) st2 :=
 aa d (aa e (aa (aS f) (aa (cU g) aH)))
def br(c:Run (ev Γ a) st x st1)(d:Run (ev Γ b) st1 y st2)(e:aY [x,y] st2)(f:gS x y.2=a5 r):Run (ev Γ (.idx a b)) st r st2 :=
 aa c (aa d (aa (aS e) (cU f)))
def lJ:Run (Ob Γ []) st bD st:=rfl
def lK(h:Run (ev Γ e) st (k,.int i) st1):Run (Ob Γ [e]) st (a5 i) st1:=aa h rfl
def lL(b:Run (ev Γ a) st x st1)(c:Run (Ob Γ lo) st1 l st2)(d:Run (Ob Γ hi) st2 h st3)(e:aY [x] st3)(f:j3 x l h=a5 r):Run (ev Γ (.Kg a lo hi)) st r st3 :=
 aa b (aa c (aa d (aa (aS e) (cU f))))
def ao:Run (aK Γ []) st [] st:=rfl
def ae(a:Run (ev Γ e) st r st1)(b:Run (aK Γ es) st1 rs st2):Run (aK Γ (e::es)) st (r::rs) st2:=aa a (aa b aH)
def dH(a:Run (aK Γ es) st rs st1)(b:aY rs st1)(c:J5 f rs=a5 r):Run (ev Γ (.bi f es)) st r st1:=aa a (aa (aS b) (cU c))
def CN(a:Run (aK Γ es) st rs st1)(b:aY rs st1)(c:vD f rs=a5 r):Run (ev Γ (.ME f es)) st r st1:=aa a (aa (aS b) (cU c))
def uF(b:Run (ev Γ a) st x st1)(c:Run (aK Γ es) st1 rs st2)(d:aY (x::rs) st2)(e:mJ m x.2 rs=a5 r):Run (ev Γ (.Lx m a es)) st r st2:=aa b (aa c (aa (aS d) (cU e)))
def uG(h:Γ f us=a5 (.ok r))(a:isAny r.1=b6):Run (lj Γ f us) st r st:=by
 have(k,u):=r;change lj Γ f us st=_;unfold lj;rw[h];cases k<;>first|rfl|cases a
def aU(a:Run (aK Γ es) st rs st1)(b:aY rs st1)(c:Γ f (rs.map (·.2))=a5 (.ok r))(d:isAny r.1=b6:=by show rfl):Run (ev Γ (.call f es)) st r st1:=aa a (aa (aS b) (uG c d))
def lM(a:Run (aK Γ es) st rs st1)(b:aY rs st1)(c:Run (dh rs) st1 us st2)(d:us.length<=cK):Run (ev Γ (.tup es)) st (.loc,.tup us) st2:=by
 show aa a (aa (aS b) (aa c ?_));rw[ę d];show aH
def d8(a:Run (aK Γ es) st rs st1)(b:aY rs st1)(c:Run (dh rs) st1 us st2)(d:us.length<=cK):Run (ev Γ (.lst es)) st (.own,.lst us) st2:=by
 show aa a (aa (aS b) (aa c ?_));rw[ę d];show aH
def sA:Run (ev Γ (.KY r)) st (.own,.G' [] []) st:=rfl
def qu:Run (lift (.own,u)) st u st:=rfl
def bo:Run (lift (.loc,u)) st u st:=rfl
def jM(h:IQ u=a8):Run (lift (.any,u)) st u st:=by
 change(if IQ u=a8 then(pure u:M U) else M.fail) st=_;rw[ę h];rfl
def bx:Run (dh []) st [] st:=rfl
def bh(a:Run (lift r) st u st1)(b:Run (dh rs) st1 us st2):Run (dh (r::rs)) st (u::us) st2:=aa a (aa b aH)
def oW(h:Run (ev Γ e) st r st1):Run (iF Γ [e]) st r st1:=h
def sC(h:Run (ev Γ e) st (k,.bl p) st1)(a:if p=a8 then Run (iF Γ (b::es)) st1 r st2 else st2=st1/\r=(.loc,.bl b6)):Run (iF Γ (e::b::es)) st r st2:=by
 show aa h ?_;cases p with
 |true=>show a
 |false=>have(rfl,rfl):=a;show aH
def uH(h:Run (iF Γ es) st r st1):Run (ev Γ (.and es)) st r st1:=h
def bA(d:Run (ev Γ a) st x st1)(e:Run (ev Γ b) st1 y st2)(f:aY [x,y] st2)(g:bT op x.2 y.2=a5 c):Run (IW Γ (.cmp op a b)) st c st2:=aa d (aa e (aa (aS f) (cU g)))
def iT(h:Run (IW Γ a) st c st1):Run (IW Γ (.not a)) st (!c) st1:=aa h aH
def jN(h:Run (aP Γ es) st c st1):Run (IW Γ (.and es)) st c st1:=h
def sD(h:Run (jK Γ es) st c st1):Run (IW Γ (.or es)) st c st1:=h
def iU:Run (aP Γ []) st a8 st:=rfl
def da(h:Run (IW Γ e) st c st1):Run (aP Γ [e]) st c st1:=h
def sE(h:Run (IW Γ e) st a8 st1)(a:Run (aP Γ (b::es)) st1 c st2):Run (aP Γ (e::b::es)) st c st2:=aa h a
def ze(h:Run (IW Γ e) st b6 st1):Run (aP Γ (e::a::es)) st b6 st1:=aa h aH
def lN(h:Run (IW Γ e) st c st1):Run (jK Γ [e]) st c st1:=h
def jO(h:Run (IW Γ e) st b6 st1)(a:Run (jK Γ (b::es)) st1 c st2):Run (jK Γ (e::b::es)) st c st2:=aa h a
def bt:Run (dy i (.own,u)) st () (st.set i (a5 (.own,u))):=rfl
def aN:Run (dy i (.loc,u)) st () (st.set i (a5 (.loc,u))):=rfl
def lO:Run (dy i (.any,u)) st () (st.set i (a5 (.any,u))):=rfl
def G1(a:Run (ev Γ e) st r st1)(b:Run (dy i r) st1 () st2):Run (exec Γ (.set i e)) st .nx st2:=aa a (aa b aH)
def CO(b:∃k' us',st[i]?=a5 (a5 (k',.lst us'))/\k'≠.A')(c:Run (ev Γ e) st r st1)(d:Run (lift r) st1 u st2)(f:st2[i]?=a5 (a5 (k,.lst us)))(hk:k.root=a8)(hl:us.length<cK):
  Run (exec Γ (.app i e)) st .nx (st2.set i (a5 (k,.lst (us++[u])))):=by
 have(k',us',b,g):=b;show aa (fX b g) (aa (a:=()) (st1:=st) rfl (aa c (aa d (aa (a:=()) ?_ aH))));change modS i (vK u) st2=_;unfold modS;rw[f];simp only[hk,if_true];have e:vK u (.lst us)=a5 (.lst (us++[u])):=by change(if us.length<cK then _ else _)=_;rw[ę hl]
 rw[e]
def G2(a:Run (ev Γ e) st r st1)(b:Run (retS r) st1 f st2):Run (exec Γ (.ret e)) st f st2:=aa a b
def jP:Run (retS (.own,u)) st (.rt .own u) st:=rfl
def cz:Run (retS (.loc,u)) st (.rt .loc u) st:=rfl
def G3(h:IQ u=a8):Run (retS (.any,u)) st (.rt .loc u) st:=by
 change(if IQ u=a8 then(pure (Fl.rt .loc u):M Fl) else pure (.rt .any u)) st=_;rw[ę h];rfl
def qw(h:st[j]?=a5 (a5 (.own,u))):Run (retS (.bor j,u0)) st (.rt .own u) (st.set j bD):=by
 change(match st[j]? with|some (a5 (.own,u))=>a5 (Ex.ok (Fl.rt .own u),st.set j bD)|_=>bD)=_;rw[h]
def oX(d:Run (IW Γ c) st a8 st1)(e:Run (execs Γ a) st1 f st2):Run (exec Γ (.ite c a b)) st f st2:=aa d e
def sF(d:Run (IW Γ c) st b6 st1)(e:Run (execs Γ b) st1 f st2):Run (exec Γ (.ite c a b)) st f st2:=aa d e
def a9:Run (execs Γ []) st .nx st:=rfl
def et(a:Run (exec Γ s) st .nx st1)(b:Run (execs Γ ss) st1 f st2):Run (execs Γ (s::ss)) st f st2:=aa a b
def sG(a:Run (exec Γ s) st (.rt k u) st1):Run (execs Γ (s::ss)) st (.rt k u) st1:=aa a aH
def ax(a:Run (ev Γ e) st r st1)(b:Run (dy i r) st1 () st2)(c:Run (execs Γ ss) st2 f st3):Run (execs Γ (.set i e::ss)) st f st3:=et (G1 a b) c
def lP(a:st[i]?=a5 (a5 (k',.lst us')))(b:Run (ev Γ e) st r st1)(c:Run (lift r) st1 u st2)(d:st2[i]?=a5 (a5 (k,.lst us)))(hk:k.root=a8)(hl:us.length<cK)
  (g:Run (execs Γ ss) (st2.set i (a5 (k,.lst (us++[u])))) f st3) (h:k'≠.A':=by intro z;cases z):Run (execs Γ (.app i e::ss)) st f st3:=et (CO #[_,_,a,h] b c d hk hl) g
def bu(a:Run (ev Γ e) st r st1)(b:Run (retS r) st1 (.rt k u) st2):Run (execs Γ (.ret e::ss)) st (.rt k u) st2:=sG (G2 a b)
def hJ(d:Run (IW Γ c) st a8 st1)(e:Run (execs Γ a) st1 .nx st2)(g:Run (execs Γ ss) st2 f st3):Run (execs Γ (.ite c a b::ss)) st f st3:=et (oX d e) g
def dA(d:Run (IW Γ c) st b6 st1)(e:Run (execs Γ b) st1 .nx st2)(g:Run (execs Γ ss) st2 f st3):Run (execs Γ (.ite c a b::ss)) st f st3:=et (sF d e) g
def zg(d:Run (IW Γ c) st a8 st1)(e:Run (execs Γ a) st1 (.rt k u) st2):Run (execs Γ (.ite c a b::ss)) st (.rt k u) st2:=sG (oX d e)
def G4(a:Run (aK Γ src) st rs st1)(b:aY rs st1)(c:Lg d rs=a5 xs)(e:tW rs is body=a8)(g:Run (forM t is (execs Γ body) rs xs) st1 f st2):
  Run (exec Γ (.Jl t is d src body)) st f st2:=by
 show aa a (aa (aS b) (aa (cU c) ?_));rw[ę e];show g
def fD(a:Run (aK Γ src) st rs st1)(b:aY rs st1)(c:Lg d rs=a5 xs)(e:tW rs is body=a8)(g:Run (forM t is (execs Γ body) rs xs) st1 .nx st2)(h:Run (execs Γ ss) st2 f st3):
  Run (execs Γ (.Jl t is d src body::ss)) st f st3:=et (G4 a b c e g) h
def CP(h:aY rs st):Run (forM t is body rs []) st .nx st:=aa (aS h) aH
def G5(h:aY rs st)(a:Run (dG t is x) st () st1)(b:Run body st1 .nx st2)(c:Run (forM t is body rs xs) st2 f st3):Run (forM t is body rs (x::xs)) st f st3:=aa (aS h) (aa a (aa b c))
theorem uI(I:List (Kd×U)->aq->Prop)(hs:∀xs st,I xs st->aY rs st)(Z9:∀x xs st,I (x::xs) st->∃st1 st2,Run (dG t is x) st () st1/\Run body st1 .nx st2/\I xs st2):
  ∀(xs:List (Kd×U)) (st:aq),I xs st->∃st',Run (forM t is body rs xs) st .nx st'/\I [] st'
 |[],st,h=>#[st,CP (hs _ _ h),h]
 |x::xs,st,h=>by
  have(s1,s2,a,b,c):=Z9 x xs st h;have(s3,d,e):=uI I hs Z9 xs s2 c;show#[s3,G5 (hs _ _ h) a b d,e]
def fu(h:Run (dy i r) st () st1):Run (dG b6 [i] r) st () st1:=h
def aI(a:us.length=fn.np)(hk:k=.own\/k=.loc)(hs:start us fn.ns=st0)(h:Run (execs Γ fn.body) st0 (.rt k u) st):bW Γ fn us=a5 (.ok (k,u)):=by
 subst hs;unfold bW;rw[ę a,show execs Γ fn.body (start us fn.ns)=_ from h];rcases hk with rfl|rfl<;>rfl
def qx{cond:M Bool}(h:aY src st):Run (bG k t cond elt src [] a) st a st:=aa (aS h) aH
def lQ{cond:M Bool}(h:aY src st)(d:Run (dG t (hH k) x) (js k bD++st) () s1)(e:Run cond s1 a8 s2)(g:Run elt s2 r s3)(i:Run (lift r) s3 u s4)
  (hl:c.length<cK) (j:Run (bG k t cond elt src xs (c++[u])) (s4.drop k) us st2):Run (bG k t cond elt src (x::xs) c) st us st2:=by
 show aa (aS h) (aa (a:=a5 u) (st1:=s4.drop k) ?_ ?_)
 .change inScope k _ st=_;unfold inScope;have l:Run (dG t (hH k) x >>= λ_=>cond >>= λb=>if b=a8 then(elt >>= λr=>lift r >>= λu=>pure (a5 u)) else pure bD) (js k bD++st) (a5 u) s4 :=
   aa d (aa e (show Run (elt >>= λr=>lift r >>= λu=>pure (a5 u)) s2 (a5 u) s4 from aa g (aa (f:=λu=>pure (a5 u)) i rfl)))
  rw[show _=_ from l]
 .change Run (if c.length<cK then bG k t cond elt src xs (c++[u]) else M.fail) _ _ _;rw[ę hl];show j
def sH{cond:M Bool}(h:aY src st)(d:Run (dG t (hH k) x) (js k bD++st) () s1)(e:Run cond s1 b6 s2)
  (f:Run (bG k t cond elt src xs c) (s2.drop k) us st2):Run (bG k t cond elt src (x::xs) c) st us st2:=by
 show aa (aS h) (aa (a:=bD) (st1:=s2.drop k) ?_ f);change inScope k _ st=_;unfold inScope;have g:Run (dG t (hH k) x >>= λ_=>cond >>= λb=>if b=a8 then(elt >>= λr=>lift r >>= λu=>pure (a5 u)) else pure bD) (js k bD++st) bD s2 :=
  aa d (aa e (show Run (pure bD:M (Option U)) s2 bD s2 from rfl))
 rw[show _=_ from g]
def cG{src cond:List E}(a:Run (aK Γ src) st rs st1)(b:aY rs st1)(c:Lg d rs=a5 xs)(f:Run (bG k t (aP Γ cond) (ev Γ e) rs xs []) st1 us st2):Run (ev Γ (.comp k t d src cond e)) st (.own,.lst us) st2 :=
 aa a (aa (aS b) (aa (cU c) (aa f aH)))
theorem zh{cond:M Bool}(h:aY src st)(g:Kd×U->U)(b:Kd×U->Kd):∀(xs:List (Kd×U)) (a:List U),a.length+xs.length<=cK ->
  (∀x∈xs,x.1=.loc\/x.1=.any)->(∀x∈xs,Run cond (a5 x::st) a8 (a5 x::st)/\Run elt (a5 x::st) (b x,g x) (a5 x::st)/\Run (lift (b x,g x)) (a5 x::st) (g x) (a5 x::st))->Run (bG 1 b6 cond elt src xs a) st (a++xs.map g) st
 |[],a,_,_,_=>by rw[K',rl];show qx h
 |x::xs,a,hl,hk,d=>by
  have(e,f,i):=d x (by simp);rw[j5]at hl;show lQ (s1:=a5 x::st) (s2:=a5 x::st) (s3:=a5 x::st) (s4:=a5 x::st) h ?_ e f i ⋯ ?_
  .have(k,u):=x;rcases hk _ (k9 ..) with z|z<;>(cases z;rfl)
  .have:=zh h g b xs (a++[g x]) (by simp;lia) (λy c=>hk y (by simp[c])) λy c=>d y (by simp[c]);rw[gi];simpa using this
theorem lR{cond:M Bool}(h:aY src st)(p:Kd×U->Bool)(g:Kd×U->U)(c:Kd×U->Kd):∀(xs:List (Kd×U)) (a:List U),a.length+xs.length<=cK ->
  (∀x∈xs,x.1=.loc\/x.1=.any)->(∀x∈xs,Run cond (a5 x::st) (p x) (a5 x::st)/\Run elt (a5 x::st) (c x,g x) (a5 x::st)/\Run (lift (c x,g x)) (a5 x::st) (g x) (a5 x::st))->Run (bG 1 b6 cond elt src xs a) st (a++(xs.filter p).map g) st
 |[],a,_,_,_=>by rw[Sq,K',rl];show qx h
 |x::xs,a,hl,hk,f=>by
  have(d,j,l):=f x (by simp);rw[j5]at hl;have i:Run (dG b6 (hH 1) x) (js 1 bD++st) () (a5 x::st):=by
   have(k,u):=x;rcases hk _ (k9 ..) with z|z<;>(cases z;rfl)
  cases e:p x with
  |true =>
   rw[e]at d;show lQ (s1:=a5 x::st) (s2:=a5 x::st) (s3:=a5 x::st) (s4:=a5 x::st) h i d j l ⋯ ?_;have:=lR h p g c xs (a++[g x]) (by simp;lia) (λy b=>hk y (by simp[b])) λy b=>f y (by simp[b]);rw[zl,ę e,gi];simpa using this
  |false =>
   rw[e]at d;show sH (s1:=a5 x::st) (s2:=a5 x::st) h i d ?_;have:=lR h p g c xs a ⋯ (λy b=>hk y (by simp[b])) λy b=>f y (by simp[b]);rw[zl,Ě (by simp[e])];show this
end
section
def G6(h:st[i]?=a5 (a5 (k,.lst us)))(hk:k.root=a8)(a:us[us.length - 1]?=a5 u):Run (ev Γ (.pop i)) st (.loc,u) (st.set i (a5 (k,.lst us.dropLast))):=by
 change x_ i st=_;unfold x_;rw[h];change(if _ then _ else _)=_;rw[ę hk,a]
end
abbrev Jh(Pg:List Fn)(f:Str)(fn:Fn):Prop:=(Pg.find? λg=>cb (g.name=f))=a5 fn
section
def km(h:Jh Pg f fn)(us:List U):IZ Pg (d+1) f us=gW (IZ Pg d) fn us:=by
 change(match Pg.find? λg=>cb (g.name=f) with|some fn=>gW (IZ Pg d) fn us|none=>bD)=_;rw[show _=a5 fn from h]
def aE(h:Jh Pg f fn)(us:List U)(a:fn.io=bD:=by rfl)(b:fn.ob=bD:=by rfl):IZ Pg (d+1) f us=bW (IZ Pg d) fn us:=by
 rw[km h];unfold gW;rw[a,b]
def cm(h:Jh Pg f fn)(us:List U)(a:fn.ob=a5 (p,b))(c:fn.io=bD:=by rfl):IZ Pg (d+1) f us=fI (IZ Pg d) fn p b us:=by
 rw[km h];unfold gW;rw[c,a]
def wz(h:Jh Pg f fn)(us:List U)(a:fn.io=a5 (is,b))(hz:is≠[100]:=by decide):IZ Pg (d+1) f us=mL (IZ Pg d) fn is b us:=by
 rw[km h];unfold gW;rw[a];show Ě hz
def wA(h:Jh Pg f fn)(us:List U)(a:fn.io=a5 ([100],b)):IZ Pg (d+1) f us=oG (IZ Pg d) fn b us:=by
 rw[km h];unfold gW;rw[a];show ę rfl
end
def b7(h:0<j):K4 .mod (k,.int i) (k',.int j)=a5 (.loc,.int (i % j)):=by change(AU i j).map _=_;rw[AU,ę h];rfl
def zj(h:0<j/\j<1073741824):K4 .Lc (k,.int i) (k',.int j)=a5 (.loc,.int (i / j)):=by change(AS i j).map _=_;rw[AS,ę h];rfl
def nX(h:(-(2 ^ 64)<i/\i<2 ^ 64)\/(-(2 ^ 64)<j/\j<2 ^ 64)):K4 .mul (k,.int i) (k',.int j)=a5 (.loc,.int (i * j)):=by change(AR i j).map _=_;rw[AR,ę h];rfl
def nY(h:0<=j/\j<=1000000/\i.natAbs<2 ^ 64):K4 .pow (k,.int i) (k',.int j)=a5 (.loc,.int (i ^ j.toNat)):=by change(AV i j).map _=_;rw[AV,ę h];rfl
def dv:K4 .add (k,.int i) (k',.int j)=a5 (.loc,.int (i+j)):=rfl
def bf(h:Je xs i=a5 u):gS (k,.lst xs) (.int i)=a5 (kE k,u):=by change(Je xs i).map _=_;rw[h];rfl
def fL(h:Je xs i=a5 u):gS (k,.tup xs) (.int i)=a5 (kE k,u):=by change(Je xs i).map _=_;rw[h];rfl
def uJ:Kd.own≠Kd.A':=by decide
local macro_rules
 |`(tactic| sizeOf_list_dec)=>`(tactic| first|exact a9|apply ax|apply lP|apply bu|exact aw|exact af rfl|exact az rfl|exact aA rfl|apply bN|apply iS|apply br|apply dH|apply aU|apply uF|apply bA|exact ao|apply ae|apply lM|apply d8|exact bx|apply bh|exact bo|exact qu|(first|exact trivial|exact⟨⟨_,rfl,rfl⟩,trivial⟩|exact#[#[_,rfl,rfl],#[_,rfl,rfl],trivial])|exact dv|exact qX|exact b7 (by first|lia|decide)|exact zj (by first|lia|decide)|exact nX (by first|lia|decide)|exact nY (by decide)|exact aN|exact bt|exact lO|exact cz|exact jP|exact qw rfl|exact mh _|exact rfl|exact uJ)
abbrev sI(c k:Int):Int:=((c % 10 ^ 15+1) * 48271+k * k * 16807+k * 7919) % 2147483647 * 69621 % 2147483629
def B0(a:0<=k)(b:k<2 ^ 63):bW Γ wB [.int c,.int k]=a5 (.ok (.loc,.int (sI c k))):=by
 apply aI (st0:=[a5 (.loc,.int c),a5 (.loc,.int k),bD]) rfl (.inr rfl) rfl
 repeat' sizeOf_list_dec
abbrev zk(Γ:Tab):Prop:=∀c k:Int,0<=k->k<2 ^ 63->Γ "_law_mix" [.int c,.int k]=a5 (.ok (.loc,.int (sI c k)))
def zm(h:cb (i<j)=c):bT .lt (.int i) (.int j)=a5 c:=by subst h;rfl
def lT(h:cb (j<i)=c):bT .gt (.int i) (.int j)=a5 c:=by subst h;rfl
def fY(h:(i==j)=c):bT .eq (.int i) (.int j)=a5 c:=by subst h;rfl
def kn:J5 .len [(k,.lst xs)]=a5 (.loc,.int (xs.length:Nat)):=rfl
def oY:J5 .len [(k,.tup xs)]=a5 (.loc,.int (xs.length:Nat)):=rfl
abbrev CQ(ns:List Int)(k:Nat):Int:=if k<ns.length then(ns[k]?).getD 0 else 2 * sI ((ns[k % ns.length]?).getD 0) k+1
def zo(h:Je xs i=a5 u):gS (.any,.JF xs) (.int i)=a5 (.any,u):=by
 change(Je xs i).map _=_;rw[h];rfl
def zp(f:zk Γ){k:Nat}(hk:k<2 ^ 62):bW Γ uK [.JF (ns.map .int),.int k]=a5 (.ok (.loc,.int (CQ ns k))):=by
 have b:∀c,Γ "_law_mix" [.int c,.int k]=a5 (.ok (.loc,.int (sI c k))):=λc=>f c k ⋯ ⋯;unfold CQ;by_cases h:k<ns.length
 .rw[ę h];have a:Je (ns.map U.int) (k:Int)=a5 (.int ((ns[k]?).getD 0)):=bE (by simp[h]);apply aI (st0:=[a5 (.any,.JF (ns.map .int)),a5 (.loc,.int k),bD]) rfl (.inr rfl) rfl;apply zg
  all_goals repeat' (first|show zm (by simp[h])|show zo a|show G3 rfl|sizeOf_list_dec)
 .rw[Ě h];have d:bT .lt (.int k) (.int ((ns.map U.int).length:Nat))=a5 b6:=zm (by simp;lia);by_cases hz:0<ns.length
  .have hi:k % ns.length<ns.length:=ė _ hz;have a:Je (ns.map U.int) ((k:Int) % ((ns.map U.int).length:Nat))=a5 (.int ((ns[k % ns.length]?).getD 0)):=by
    rw[cN,show(k:Int) % (ns.length:Nat)=((k % ns.length:Nat):Int) by lia];show bE (by simp[hi])
   have g:(0:Int)<((ns.map U.int).length:Nat):=by simp;lia
   apply aI (st0:=[a5 (.any,.JF (ns.map .int)),a5 (.loc,.int k),bD]) rfl (.inr rfl) rfl;apply dA
   all_goals repeat' (first|show d|sizeOf_list_dec)
   apply hJ
   all_goals repeat' (first|show lT (by simp;lia)|show b7 g|show zo a|show b _|sizeOf_list_dec)
  .have e:ns=[]:=List.eq_nil_of_length_eq_zero ⋯;subst e;apply aI (st0:=[a5 (.any,.JF ([].map .int)),a5 (.loc,.int k),bD]) rfl (.inr rfl) rfl;apply dA
   all_goals repeat' (first|show d|sizeOf_list_dec)
   apply dA
   all_goals repeat' (first|show b _|sizeOf_list_dec)
def qy(x:Kd×U):Lg .Jv [x]=vE x:=rfl
def sJ(h:n<2 ^ 62):Lg .Jv [(k,.int (n:Nat))]=a5 ((hH n).map λi:Nat=>(Kd.loc,U.int (0+(i:Int)))):=by
 rw[qy,vE,ę ⋯,Lm]
abbrev fZ(n:Nat)(xs:List (Kd×U)):Prop:=∃i,i<=n/\xs=((hH n).drop i).map λi:Nat=>(Kd.loc,U.int (0+(i:Int)))
def fZ.cons(h:fZ n (x::xs)):∃i:Nat,i<n/\x=(.loc,.int (i:Nat))/\fZ n xs/\i+xs.length+1=n:=by
 have(i,hi,e):=h;by_cases a:i<n
 .rw[N6 (by simpa using a),gi]at e;cases e;show#[i,a,by simp,#[i+1,a,rfl],by simp;lia]
 .rw[List.drop_eq_nil_of_le (by simp;lia)]at e;cases e
def fZ.all(n:Nat):fZ n ((hH n).map λi:Nat=>(Kd.loc,U.int (0+(i:Int)))):=#[0,mh _,rfl]
def wC(q:zk Γ)(w:n<1000):∃ds:List Int,ds.length=n/\(∀d∈ds,0<=d)/\bW Γ oZ [.int c,.int n]=a5 (.ok (.own,.lst (ds.map .int))):=by
 have hsz:(1000:Nat)<=cK:=by decide
 let I:List (Kd×U)->aq->Prop:=λxs st=>∃(ds:List Int) (us:List U) (left:Int) (o:Option (Kd×U)),st=[a5 (.loc,.int c),a5 (.loc,.int n),a5 (.own,.lst us),a5 (.loc,.int left),o]/\us=ds.map .int/\(∀d∈ds,0<=d)/\ds.length+xs.length=n/\fZ n xs;have a:=uI (t:=b6) (is:=[4]) (body:=execs Γ [.ite (.cmp .eq (.bin .mod (.var 0) (.cst (.int 2))) (.cst (.int 0)))
    [.app 2 (.bin .mod (.var 3) (.cst (.int 64))),
    .set 3 (.bin .Lc (.var 3) (.cst (.int 64)))]
    [.app 2 (.bin .mod (.bin .Lc (.call "_law_mix" [(.var 0),(.var 4)]) (.cst (.int 7))) (.cst (.int 4096)))]]) (rs:=[(.loc,.int n)]) I (λ_ _ _=>trivial) (λx xs st r=>by
  have(ds,us,left,o,e,b,f,hl,s):=r;subst e;have j:us.length=ds.length:=by rw[b];simp
  have(i,hi,rfl,l,m):=s.cons;have u:Γ "_law_mix" [.int c,.int i]=a5 (.ok (.loc,.int (sI c i))):=q c i ⋯ ⋯;rw[j5]at hl;by_cases p:c % 2=0
  .show#[[a5 (.loc,.int c),a5 (.loc,.int n),a5 (.own,.lst us),a5 (.loc,.int left),a5 (.loc,.int i)],[a5 (.loc,.int c),a5 (.loc,.int n),a5 (.own,.lst (us++[.int (left % 64)])),a5 (.loc,.int (left / 64)),a5 (.loc,.int i)],aN,?_,#[ds++[left % 64],_,left / 64,_,rfl,by simp[b],?_,by simp;lia,l]]
   .apply hJ
    all_goals repeat' (first|show fY (by simp[p])|show(by rw[j];lia)|sizeOf_list_dec)
   .intro d g;rcases i'.mp g with z|z
    .show f d z
    .rw[i8.mp z];lia
  .show#[[a5 (.loc,.int c),a5 (.loc,.int n),a5 (.own,.lst us),a5 (.loc,.int left),a5 (.loc,.int i)],[a5 (.loc,.int c),a5 (.loc,.int n),a5 (.own,.lst (us++[.int (sI c i / 7 % 4096)])),a5 (.loc,.int left),a5 (.loc,.int i)],aN,?_,#[ds++[sI c i / 7 % 4096],_,left,_,rfl,by simp[b],?_,by simp;lia,l]]
   .apply dA
    all_goals repeat' (first|show fY (by simp[p])|show u|show(by rw[j];lia)|sizeOf_list_dec)
   .intro d g;rcases i'.mp g with z|z
    .show f d z
    .rw[i8.mp z];lia)
 have(st',v,ds,us,left,o,e,b,f,hl,_):=a ((hH n).map λi:Nat=>(Kd.loc,U.int (0+(i:Int)))) [a5 (.loc,.int c),a5 (.loc,.int n),a5 (.own,.lst []),a5 (.loc,.int (c / 2)),bD] ⟨[],[],c / 2,bD,rfl,rfl,by simp,by simp,fZ.all n⟩;subst e b;show#[ds,by simpa using hl,f,?_];apply aI (st0:=[a5 (.loc,.int c),a5 (.loc,.int n),bD,bD,bD]) rfl (.inl rfl) rfl
 repeat' sizeOf_list_dec
 have h:=sJ (k:=.loc) (n:=n) ⋯;refine' fD (rs:=[(.loc,.int n)]) (st1:=[a5 (.loc,.int c),a5 (.loc,.int n),a5 (.own,.lst []),a5 (.loc,.int (c / 2)),bD]) _ trivial h rfl v _
 all_goals repeat' sizeOf_list_dec
end TM
local macro_rules
 |`(tactic| sizeOf_list_dec)=>`(tactic| first|exact TM.a9|apply TM.ax|apply TM.lP|apply TM.bu|exact TM.aw|exact TM.af rfl|exact TM.az rfl|exact TM.aA rfl|apply TM.bN|apply TM.iS|apply TM.br|apply TM.dH|apply TM.aU|apply TM.uF|apply TM.bA|exact TM.ao|apply TM.ae|apply TM.lM|apply TM.d8|exact TM.bx|apply TM.bh|exact TM.bo|exact TM.qu|(first|exact trivial|exact⟨⟨_,rfl,rfl⟩,trivial⟩|exact#[#[_,rfl,rfl],#[_,rfl,rfl],trivial])|exact TM.dv|exact TM.qX|exact TM.b7 (by first|lia|decide)|exact TM.zj (by first|lia|decide)|exact TM.nX (by first|lia|decide)|exact TM.nY (by decide)|exact TM.aN|exact TM.bt|exact TM.lO|exact TM.cz|exact TM.jP|exact TM.qw rfl|exact mh _|exact rfl|exact TM.uJ)
namespace Jc
open PySem L2
abbrev bU(l:List Nat):Prop:=d5 l=a8\/∃a b k,l=a++47::b/\d5 a=a8/\2<=k/\k<=99/\(fG k).cps.toList=b
def len_list(x:Str):x.length=x.cps.toList.length:=by simp[Sm]
def nL(a:0<=k)(b:k<=99):(fG k).length<=2:=by
 have(m,rfl):=OT a;have c:m<100:=by lia
 clear a b;revert m;decide +kernel
def bU.len(h:bU l):1<=l.length/\l.length<=11:=by
 rcases h with h|⟨a,b,k,rfl,h,e,c,d⟩
 .have:=(cI l).mp h;lia
 .have:=(cI a).mp h;have hl:=nL (k:=k) ⋯ c;rw[len_list,d]at hl;simp;lia
def bU.Iq(h:bU x.cps.toList):∃y r,OJ x Cy=y::r/\d5 y.cps.toList=a8:=by
 rcases h with h|⟨a,b,k,e,h,_⟩
 .show#[x,[],rE (ir h),h]
 .have(r,c):=xJ e (ir h) (by decide);show#[_,r,c,by simpa using h]
theorem fE:∀(ps:List Str) (a:Array Nat),(ps.foldl (λa p=>a++td.cps++p.cps) a).toList=a.toList++(ps.map λp=>p.cps.toList).flatten
 |[],a=>by simp
 |p::ps,a=>by
  rw[VB,fE ps];have:td.cps=#v[]:=rfl;simp[this]
def join_list(ts:List Str):(UD td ts).cps.toList=(ts.map λp=>p.cps.toList).flatten:=by
 cases ts with
 |nil=>rfl
 |cons t ts =>
  change(ts.foldl (λa p=>a++td.cps++p.cps) t.cps).toList=_;rw[fE];simp
abbrev one(c:Nat):Str:=#[#v[c]]
def join_ones(a:List Nat):(UD td (a.map one)).cps.toList=a:=by
 rw[join_list,ke];induction a with
 |nil=>rfl
 |cons c a b=>rw[gi,ZW,b];rfl
def qz(a:List Nat)(h:a.length<=100):Ú td (a.map one)=a8:=by
 unfold Ú;have e:=PySem.StrLaws.joinTotal td (a.map one);have b:td.length=0:=rfl;have es:((a.map one).map (·.length)).sum=a.length:=by
  rw[ke];clear h e;induction a with
  |nil=>rfl
  |cons c a d=>rw[gi,List.sum_cons,d];change 1+a.length=a.length+1;lia
 rw[e,b,es];have f:a.length+(a.map one).length * 0<=100:=by lia
 revert f;generalize a.length+(a.map one).length * 0=m;revert m;decide
def EV(x:Str)(j:Nat):(PySem.StrLaws.sliceText x bD (a5 (j:Int))).cps.toList=x.cps.toList.take j:=by
 by_cases h:j<=x.cps.toList.length
 .rw[PySem.StrLaws.sliceText_to (x:=x) #[⋯,⋯]];simp
 .have e:PySem.StrLaws.sliceText x bD (a5 (j:Int))=PySem.StrLaws.sliceText x bD (a5 (x.length:Int)):=by
   unfold PySem.StrLaws.sliceText;have hl:=len_list x;have:PySem.Builtin.Str.strSliceIndices bD (a5 (j:Int)) 1 x.length=PySem.Builtin.Str.strSliceIndices bD (a5 (x.length:Int)) 1 x.length:=by
    have a:¬((j:Int)<0):=by lia
    have b:¬((x.length:Int)<0):=by lia
    have c:min (j:Int) (x.length:Int)=x.length:=by lia
    simp[PySem.Builtin.Str.strSliceIndices,a,b,c]
   rw[this]
  have hl:=len_list x;rw[e,PySem.StrLaws.sliceText_to (x:=x) #[⋯,⋯],Ð,Kj (l:=x.cps.toList) (i:=j) ⋯];change(x.cps.toList.take ((x.length:Int) - 0).toNat).toArray.toList=_;rw[Kj ⋯]
def wD(d:d5 a=a8)(e:∀c∈b,low c=a8):d5 ((a++b).take 8)=a8:=by
 have h:=(cI a).mp d;show(cI _).mpr #[by simp;lia,by simp;lia,λc f=>?_];have g:=Sz f;rcases i'.mp g with m|m
 .show h.2.2 c m
 .have:=e c m;simp[low]at this;lia
def jQ(a:∀c∈b,low c=a8)(d:1<=b.length)(e:b.length<=8):d5 b=a8 :=
 (cI b).mpr #[d,e,λc f=>by have:=a c f;simp[low]at this;lia]
abbrev small:Str:="abcdefghijklmnopqrstuvwxyz"
def sM:small.cps.toList=(hH 26).map (97+·):=by decide +kernel
def lU(a:0<=k)(b:k<26):Je small.cps.toList k=a5 (97+k.toNat):=by
 have(j,rfl):=OT a;show bE ?_;rw[sM,nc,Te ⋯];rfl
def sN(h:j<26):low (97+j)=a8:=by simp[low];lia
abbrev nM(k:Nat):Str:=#[#v[97+k / 26,97+k % 26]]
def sO(h:k<40):d5 (nM k).cps.toList=a8:=by
 show jQ (λc a=>?_) (by change 1<=2;decide) (by change 2<=8;decide);have b:c=97+k / 26\/c=97+k % 26:=by simpa[nM] using a
 rcases b with rfl|rfl
 .show sN ⋯
 .show sN ⋯
theorem lV [DecidableEq α]:∀{l m:List α},l.Nodup->(∀x∈l,x∈m)->l.length<=m.length
 |[],_,_,_=>mh _
 |x::l,m,c,h=>by
  have(d,e):=o9.mp c;have a:=h x k9;have f:=lV (l:=l) (m:=m.erase x) e λy b=>(Yl (by rintro rfl;show d b)).mpr (h y (ko _ b));rw[WL a]at f;have:0<m.length:=Xd a;rw[j5];lia
abbrev bX:List Str:=(hH 40).map nM
def o_:bX.Nodup:=by
 decide +kernel
def sQ(names:List Str)(h:names.length<40):∃x∈bX,x∉names:=by
 apply Vh;intro a;have:∀x∈bX,x∈names:=λx b=>Vh λc=>a #[x,b,c];have:=lV o_ this;simp[bX]at this;lia
end Jc
namespace TM
open PySem L2 Jc
def pd(a:0<=z)(h:z<2 ^ 62):Lg .Jv [(k,.int z)]=a5 ((hH z.toNat).map λi:Nat=>(Kd.loc,U.int (0+(i:Int)))):=by
 rw[qy,vE,ę ⋯]
def kM(a:x.length<=cK)(h:Je x.cps.toList i=a5 c):gS (k,.str x) (.int i)=a5 (.loc,.str (Jc.one c)):=by
 simp only[gS];rw[ę a,h];rfl
def lW:small.length<=cK:=by decide
def cB{ds:List Int}{i:Nat}(h:i<ds.length):Je (ds.map U.int) (i:Int)=a5 (.int ((ds[i]?).getD 0)):=bE (by simp[h])
theorem eR:∀(ss:List Str),strsOf (ss.map U.str)=a5 ss
 |[]=>rfl
 |s::ss=>by change(strsOf (ss.map U.str)).map (s::·)=_;rw[eR ss];rfl
abbrev pe(a:E):Fn:=#["_law_name",2,6,[.set 2 (.cst (.str "abcdefghijklmnopqrstuvwxyz")),.set 3 (.Lx .join (.cst (.str "")) [.comp 1 b6 .Jv [.bin .add (.cst (.int 1)) (.bin .mod (.idx (.var 0) (.cst (.int 0))) (.cst (.int 8)))] [] (.idx (.var 3) (.bin .mod (.idx (.var 1) (.bin .add (.cst (.int 4)) (.var 0))) (.cst (.int 26))))]),.ite (.cmp .gt (.bi .len [.var 1]) (.cst (.int 0))) [.set 4 (.idx (.Lx .split (.idx (.var 1) (.bin .mod (.idx (.var 0) (.cst (.int 1))) (.bi .len [.var 1]))) [.cst (.str "/")]) (.cst (.int 0))),.ite (.cmp .eq (.bin .mod (.idx (.var 0) (.cst (.int 2))) (.cst (.int 4))) (.cst (.int 1))) [.set 3 (.Kg (.bin .add (.var 4) (.var 3)) [] [.cst (.int 8)])] [],.ite (.cmp .eq (.bin .mod (.idx (.var 0) (.cst (.int 2))) (.cst (.int 4))) (.cst (.int 2))) [.set 3 (.bin .add (.bin .add (.var 4) (.cst (.str "/"))) (.bi .str [.bin .add (.cst (.int 2)) (.bin .mod (.idx (.var 0) (.cst (.int 3))) a)]))] []] [],.set 5 (.bin .add (.lst [.var 3]) (.comp 1 b6 .Jv [.cst (.int 40)] [] (.bin .add (.idx (.var 3) (.bin .Lc (.var 0) (.cst (.int 26)))) (.idx (.var 3) (.bin .mod (.var 0) (.cst (.int 26))))))),.ret (.idx (.comp 1 b6 .seq [.var 5] [.cmp .Iz (.var 0) (.var 2)] (.var 0)) (.cst (.int 0)))]]
abbrev B3(a:E):Prop:=∀(Γ:Tab) (ds:List Int),12<=ds.length->(∀d∈ds,0<=d)->∃m:Int,0<m/\m<=98/\∀o1 o2 o3 o4 o5,Run (ev Γ a) [a5 (.any,.lst (ds.map .int)),o1,o2,o3,o4,o5] (.loc,.int m) [a5 (.any,.lst (ds.map .int)),o1,o2,o3,o4,o5]
@[reducible]noncomputable def G7:E:=.cst (.int 98)
def B4:B3 G7:=λ_ _ _ _=>#[98,by decide,by decide,λ_ _ _ _ _=>aw]
section
variable{Γ:Tab}{ds:List Int}
abbrev dd(ds:List Int)(i:Nat):Int:=(ds[i]?).getD 0
def eS(a:∀d∈ds,0<=d)(i:Nat):0<=dd ds i:=by
 unfold dd;cases e:ds[i]? with
 |none=>simp
 |some d=>show a d (qs e)
def pf(p:12<=ds.length)(g:∀d∈ds,0<=d):∃b:List Nat,(∀c∈b,low c=a8)/\1<=b.length/\b.length<=8 /\
  Run (ev Γ (.comp 1 b6 .Jv [.bin .add (.cst (.int 1)) (.bin .mod (.idx (.var 0) (.cst (.int 0))) (.cst (.int 8)))] [] (.idx (.var 3) (.bin .mod (.idx (.var 1) (.bin .add (.cst (.int 4)) (.var 0))) (.cst (.int 26))))))
   [a5 (.any,.lst (ds.map .int)),o1,a5 (.loc,.str small),o3,o4,o5] (.own,.lst ((b.map Jc.one).map .str)) [a5 (.any,.lst (ds.map .int)),o1,a5 (.loc,.str small),o3,o4,o5]:=by
 have hz:=eS g 0;let n:=(1+dd ds 0 % 8).toNat;have h:n<=8/\1<=n:=by change(1+dd ds 0 % 8).toNat<=8/\1<=(1+dd ds 0 % 8).toNat;lia
 let f:Nat->Nat:=λi=>97+(dd ds (4+i) % 26).toNat;show#[(hH n).map f,?_,by simp;show h.2,by simp;show h.1,?_]
 .intro c m;have(i,_,rfl):=kj.mp m;have:=eS g (4+i);show sN ⋯
 .have a:Run (bG 1 b6 (aP Γ []) (ev Γ (.idx (.var 3) (.bin .mod (.idx (.var 1) (.bin .add (.cst (.int 4)) (.var 0))) (.cst (.int 26))))) [(.loc,.int (1+dd ds 0 % 8))] ((hH n).map λi:Nat=>(Kd.loc,U.int (0+(i:Int)))) [])
    [a5 (.any,.lst (ds.map .int)),o1,a5 (.loc,.str small),o3,o4,o5] ([]++((hH n).map λi:Nat=>(Kd.loc,U.int (0+(i:Int)))).map λx=>match x.2 with|.int j=>.str (Jc.one (97+(dd ds (4+j.toNat) % 26).toNat))|u=>u) [a5 (.any,.lst (ds.map .int)),o1,a5 (.loc,.str small),o3,o4,o5]:=by
   have q:(8:Nat)<=cK:=by decide
   show zh (by show trivial) _ (λ_=>.loc) _ _ (by simp;lia) (λx a=>?_) (λx a=>?_)
   .have(i,_,rfl):=kj.mp a;show .inl rfl
   .have(i,hi,rfl):=kj.mp a;have r:i<n:=by simpa using hi
    have l:Je (ds.map U.int) (4+(0+(i:Int)))=a5 (.int (dd ds (4+i))):=by
     rw[show(4+(0+(i:Int)))=((4+i:Nat):Int) by lia];show cB ⋯
    have s:=eS g (4+i);have hs:=lU (k:=dd ds (4+i) % 26) ⋯ ⋯;show#[iU,?_,bo];simp only[UH,Lm];rw[UH]at l
    repeat' (first|show bf l|show kM lW hs|sizeOf_list_dec)
  have e:((hH n).map f).map Jc.one=(hH n).map λi=>Jc.one (97+(dd ds (4+i) % 26).toNat):=by rw[ke];rfl
  rw[e];have o:([]++((hH n).map λi:Nat=>(Kd.loc,U.int (0+(i:Int)))).map λx=>match x.2 with|.int j=>U.str (Jc.one (97+(dd ds (4+j.toNat) % 26).toNat))|u=>u)=((hH n).map λi=>Jc.one (97+(dd ds (4+i) % 26).toNat)).map U.str:=by
   rw[my,ke,ke];apply w6;intro i _;simp
  rw[o]at a;show cG (rs:=[(.loc,.int (1+dd ds 0 % 8))]) ?_ trivial (pd ⋯ ⋯) a
  repeat' (first|show bf (cB (i:=0) ⋯)|sizeOf_list_dec)
def kq(h:x.length+y.length<=cK):K4 .add (k,.str x) (k',.str y)=a5 (.loc,.str (x++y)):=by
 simp only[K4,vB];rw[ę h]
theorem gw:∀(ss:List Str) (n:Nat),bS n (ss.map U.str)=a8
 |[],n=>by simp[bS]
 |s::ss,n=>by simp only[gi,bS,gw ss n,WO];cases n<;>rfl
theorem qA(x:Str):∀(ss:List Str),((ss.map U.str).any λy=>bK y (.str x))=cb (x∈ss)
 |[]=>by simp
 |s::ss=>by
  rw[gi,Tq,qA x ss];have:bK (.str s) (.str x)=cb (x=s):=by
   simp only[bK];by_cases h:x=s
   .subst h;simp
   .have h':s≠x:=λz=>h z.symm;simp[h,h']
  rw[this,IV];simp
def B5(x:Str)(ss:List Str):Oa (.str x) (ss.map U.str)=a5 (cb (x∈ss)):=by
 unfold Oa;rw[ę #[by rfl,gw ss 50],qA]
def eT{x:Str}{ss:List Str}:bT .Iz (.str x) (.lst (ss.map U.str))=a5 (cb (x∉ss)):=by
 change(Oa (.str x) (ss.map U.str)).map (!·)=_;rw[B5];simp
def qB:Run (ev Γ (.comp 1 b6 .Jv [.cst (.int 40)] [] (.bin .add (.idx (.var 3) (.bin .Lc (.var 0) (.cst (.int 26)))) (.idx (.var 3) (.bin .mod (.var 0) (.cst (.int 26)))))))
   [o0,o1,a5 (.loc,.str small),o3,o4,o5] (.own,.lst (bX.map .str)) [o0,o1,a5 (.loc,.str small),o3,o4,o5]:=by
 have f:(100:Nat)<=cK:=by decide
 have a:Run (bG 1 b6 (aP Γ []) (ev Γ (.bin .add (.idx (.var 3) (.bin .Lc (.var 0) (.cst (.int 26)))) (.idx (.var 3) (.bin .mod (.var 0) (.cst (.int 26)))))) [(.loc,.int 40)] ((hH 40).map λi:Nat=>(Kd.loc,U.int (0+(i:Int)))) [])
   [o0,o1,a5 (.loc,.str small),o3,o4,o5] ([]++((hH 40).map λi:Nat=>(Kd.loc,U.int (0+(i:Int)))).map λx=>match x.2 with|.int j=>.str (nM j.toNat)|u=>u) [o0,o1,a5 (.loc,.str small),o3,o4,o5]:=by
  show zh (by show trivial) _ (λ_=>.loc) _ _ (by simp;lia) (λx a=>?_) (λx a=>?_)
  .have(i,_,rfl):=kj.mp a;show .inl rfl
  .have(i,hi,rfl):=kj.mp a;have g:i<40:=by simpa using hi
   show#[iU,?_,bo];simp only[UH,Lm];have c:=lU (k:=(i:Int) / 26) ⋯ ⋯;have d:=lU (k:=(i:Int) % 26) ⋯ ⋯;have e:((i:Int) / 26).toNat=i / 26:=by lia
   have b:((i:Int) % 26).toNat=i % 26:=by lia
   rw[e]at c;rw[b]at d;have ad:K4 .add (.loc,.str (Jc.one (97+i / 26))) (.loc,.str (Jc.one (97+i % 26)))=a5 (.loc,.str (nM i)):=by
    have:=kq (k:=.loc) (k':=.loc) (x:=Jc.one (97+i / 26)) (y:=Jc.one (97+i % 26)) (by change 1+1<=cK;lia);rw[this];rfl
   repeat' (first|show kM lW c|show kM lW d|show ad|sizeOf_list_dec)
 have b:([]++((hH 40).map λi:Nat=>(Kd.loc,U.int (0+(i:Int)))).map λx=>match x.2 with|.int j=>U.str (nM j.toNat)|u=>u)=bX.map U.str:=by
  rw[my,ke,bX,ke];apply w6;intro i _;simp
 rw[b]at a;show cG (rs:=[(.loc,.int 40)]) (by repeat' sizeOf_list_dec) trivial (pd ⋯ ⋯) a
def wF{names ts:List Str}(hl:ts.length<=1000):Run (ev Γ (.comp 1 b6 .seq [.var 5] [.cmp .Iz (.var 0) (.var 2)] (.var 0)))
   [o0,a5 (.any,.lst (names.map .str)),o2,o3,o4,a5 (.own,.lst (ts.map .str))] (.own,.lst ((ts.filter λx=>cb (x∉names)).map .str)) [o0,a5 (.any,.lst (names.map .str)),o2,o3,o4,a5 (.own,.lst (ts.map .str))]:=by
 have c:(1000:Nat)<=cK:=by decide
 have a:=lR (cond:=aP Γ [.cmp .Iz (.var 0) (.var 2)]) (elt:=ev Γ (.var 0)) (src:=[(.bor 5,.lst (ts.map .str))]) (st:=[o0,a5 (.any,.lst (names.map .str)),o2,o3,o4,a5 (.own,.lst (ts.map .str))]) #[#[.own,rfl,rfl],trivial]
  (λx=>match x.2 with|.str y=>cb (y∉names)|_=>b6) (λx=>x.2) (λ_=>.loc) ((ts.map U.str).map λu=>(kE (.bor 5),u)) [] (by simp;lia) (λx a=>by have(u,_,rfl):=kj.mp a;show .inl rfl) (λx a=>by
   have(u,b,rfl):=kj.mp a;have(y,_,rfl):=kj.mp b;show#[da ?_,af rfl,bo]
   repeat' (first|show eT|sizeOf_list_dec))
 have e:([]++(((ts.map U.str).map λu=>(kE (.bor 5),u)).filter λx=>match x.2 with|.str y=>cb (y∉names)|_=>b6).map λx=>x.2)=(ts.filter λx=>cb (x∉names)).map U.str:=by
  rw[my,É,É,ke,ke];rfl
 rw[e]at a;show cG (rs:=[(.bor 5,.lst (ts.map .str))]) (by repeat' sizeOf_list_dec) #[#[.own,rfl,rfl],trivial] rfl a
end
section
variable{Γ:Tab}{ds:List Int}
def wG{names:List Str}(d:names.length<40)(f:bU a.cps.toList):∃x st',bU x.cps.toList/\x∉names /\
  Run (execs Γ [.set 5 (.bin .add (.lst [.var 3]) (.comp 1 b6 .Jv [.cst (.int 40)] [] (.bin .add (.idx (.var 3) (.bin .Lc (.var 0) (.cst (.int 26)))) (.idx (.var 3) (.bin .mod (.var 0) (.cst (.int 26))))))),
  .ret (.idx (.comp 1 b6 .seq [(.var 5)] [(.cmp .Iz (.var 0) (.var 2))] (.var 0)) (.cst (.int 0)))]) [o0,a5 (.any,.lst (names.map .str)),a5 (.loc,.str small),a5 (.loc,.str a),o4,bD] (.rt .loc (.str x)) st':=by
 have o:(1000:Nat)<=cK:=by decide
 have(y,g,i):=sQ names d;have j:(a::bX).filter (λx=>cb (x∉names))≠[]:=λz=>by
  have:y∈(a::bX).filter (λx=>cb (x∉names)):=KX.mpr #[ko _ g,by simpa using i];rw[z]at this;cases this
 cases e:(a::bX).filter (λx=>cb (x∉names)) with
 |nil=>show absurd e j
 |cons x b =>
  have l:x∈(a::bX).filter (λx=>cb (x∉names)):=by rw[e];simp
  have(m,n):=KX.mp l;have c:=wF (Γ:=Γ) (names:=names) (ts:=a::bX) (by simp[bX]) (o0:=o0) (o2:=a5 (.loc,.str small)) (o3:=a5 (.loc,.str a)) (o4:=o4);rw[e]at c;have ad:K4 .add (.own,.lst [.str a]) (.own,.lst (bX.map U.str))=a5 (.own,.lst ((a::bX).map U.str)):=by
   simp only[K4,vB];rw[ę #[by simp[bX];lia,rfl,rfl]];rfl
  show#[x,[o0,a5 (.any,.lst (names.map .str)),a5 (.loc,.str small),a5 (.loc,.str a),o4,a5 (.own,.lst ((a::bX).map .str))],?_,by simpa using n,?_]
  .rcases gj.mp m with rfl|h
   .show f
   .have(k,hk,rfl):=kj.mp h;show .inl (sO (by simpa using hk))
  .show ax (st2:=[o0,a5 (.any,.lst (names.map .str)),a5 (.loc,.str small),a5 (.loc,.str a),o4,a5 (.own,.lst ((a::bX).map .str))]) (bN (x:=(.own,.lst [.str a])) (d8 (ae (af rfl) ao) (by(first|show trivial|show⟨⟨_,rfl,rfl⟩,trivial⟩|show#[#[_,rfl,rfl],#[_,rfl,rfl],trivial])) (bh bo bx) (by change 1<=cK;lia)) qB trivial ad) bt ?_;show bu (br c aw trivial (bf (by change Je _ ((0:Nat):Int)=_;show bE rfl))) cz
def zq(O:B3 n)(C:12<=ds.length)(k:∀d∈ds,0<=d){names:List Str}(Q:names.length<40)(T:∀x∈names,bU x.cps.toList):
  ∃x,bU x.cps.toList/\x∉names/\bW Γ (pe n) [.lst (ds.map .int),.lst (names.map .str)]=a5 (.ok (.loc,.str x)):=by
 have(m,D,ZX,Y):=O Γ ds C k;have h8:(1000:Nat)<=cK:=by decide
 have(b,G,Za,H,Qz):=pf (Γ:=Γ) C k (o1:=a5 (.any,.lst (names.map .str))) (o3:=bD) (o4:=bD) (o5:=bD);have QA:mJ .join (.str "") [(.own,.lst ((b.map Jc.one).map U.str))]=a5 (.loc,.str (UD td (b.map Jc.one))):=by
  change(strsOf ((b.map Jc.one).map U.str)).bind _=_;rw[eR];change(if Ú td (b.map Jc.one)=a8 then _ else _)=_;rw[ę (qz b ⋯)];rfl
 let a:Str:=UD td (b.map Jc.one);have o:a.cps.toList=b:=join_ones b;have I:d5 a.cps.toList=a8:=by rw[o];show jQ G Za H
 have Wh:a.length<=8:=by rw[len_list,o];show H
 have e:∀{f:Fl} {st':aq} (ss:List S),Run (execs Γ ss) [a5 (.any,.lst (ds.map .int)),a5 (.any,.lst (names.map .str)),a5 (.loc,.str small),a5 (.loc,.str a),bD,bD] f st' ->
   Run (execs Γ (.set 2 (.cst (.str "abcdefghijklmnopqrstuvwxyz"))::.set 3 (.Lx .join (.cst (.str "")) [.comp 1 b6 .Jv [.bin .add (.cst (.int 1)) (.bin .mod (.idx (.var 0) (.cst (.int 0))) (.cst (.int 8)))] [] (.idx (.var 3) (.bin .mod (.idx (.var 1) (.bin .add (.cst (.int 4)) (.var 0))) (.cst (.int 26))))])::ss))
    [a5 (.any,.lst (ds.map .int)),a5 (.any,.lst (names.map .str)),bD,bD,bD,bD] f st':=λss h=>ax (r:=(.loc,.str small)) aw aN (ax (uF aw (ae Qz ao) (by(first|show trivial|show⟨⟨_,rfl,rfl⟩,trivial⟩|show#[#[_,rfl,rfl],#[_,rfl,rfl],trivial])) QA) aN h)
 have l:∀(g:Str) (o4:Option (Kd×U)),bU g.cps.toList->∃x st',bU x.cps.toList/\x∉names/\Run (execs Γ [.set 5 (.bin .add (.lst [.var 3]) (.comp 1 b6 .Jv [.cst (.int 40)] [] (.bin .add (.idx (.var 3) (.bin .Lc (.var 0) (.cst (.int 26)))) (.idx (.var 3) (.bin .mod (.var 0) (.cst (.int 26))))))),
  .ret (.idx (.comp 1 b6 .seq [(.var 5)] [(.cmp .Iz (.var 0) (.var 2))] (.var 0)) (.cst (.int 0)))]) [a5 (.any,.lst (ds.map .int)),a5 (.any,.lst (names.map .str)),a5 (.loc,.str small),a5 (.loc,.str g),o4,bD] (.rt .loc (.str x)) st':=λg o4 p=>wG Q p
 by_cases hz:0<names.length
 .
  have hi:(dd ds 1).toNat % names.length<names.length:=ė _ hz;let j:=names[(dd ds 1).toNat % names.length]'hi;have J:bU j.cps.toList:=T _ (DD hi);have(y,r,Kf,q):=J.Iq;have Rh:y.length<=8:=by rw[len_list];show((cI _).mp q).2.1
  have Wi:j.length<=11:=by rw[len_list];show J.len.2
  have Zb:=eS k 1;have J7:Je (names.map U.str) (dd ds 1 % ((names.map U.str).length:Nat))=a5 (.str j):=by
   rw[cN,show dd ds 1 % (names.length:Nat)=(((dd ds 1).toNat % names.length:Nat):Int) by rw[Int.natCast_emod,QM Zb]];show bE (by simp[hi];rfl)
  have OE:mJ .split (.str j) [(.loc,.str "/")]=a5 (.own,.lst ((y::r).map U.str)):=by
   change(if (Sm "/"==0)=b6/\j.length+2<=cK then a5 (Kd.own,U.lst ((OJ j "/").map .str)) else bD)=_;rw[ę #[by decide,⋯],show("/":Str)=Cy from rfl,Kf]
  have hp:(0:Int)<((names.map U.str).length:Nat):=by simp;lia
  have Zc:gS (.own,.lst ((y::r).map U.str)) (.int 0)=a5 (.loc,.str y):=bf (by change Je _ ((0:Nat):Int)=_;show bE rfl);have ac:=eS k 2;have ZY:=eS k 3;have i1:Je (ds.map U.int) 1=a5 (.int (dd ds 1)):=cB (i:=1) ⋯;have L:Je (ds.map U.int) 2=a5 (.int (dd ds 2)):=cB (i:=2) ⋯;have i3:Je (ds.map U.int) 3=a5 (.int (dd ds 3)):=cB (i:=3) ⋯;have go:∀g:Str,bU g.cps.toList->Run (execs Γ [.ite (.cmp .eq (.bin .mod (.idx (.var 0) (.cst (.int 2))) (.cst (.int 4))) (.cst (.int 1)))
    [.set 3 (.Kg (.bin .add (.var 4) (.var 3)) [] [.cst (.int 8)])]
    [],
   .ite (.cmp .eq (.bin .mod (.idx (.var 0) (.cst (.int 2))) (.cst (.int 4))) (.cst (.int 2)))
    [.set 3 (.bin .add (.bin .add (.var 4) (.cst (.str "/"))) (.bi .str [.bin .add (.cst (.int 2)) (.bin .mod (.idx (.var 0) (.cst (.int 3))) n)]))]
    []]) [a5 (.any,.lst (ds.map .int)),a5 (.any,.lst (names.map .str)),a5 (.loc,.str small),a5 (.loc,.str a),a5 (.loc,.str y),bD] .nx [a5 (.any,.lst (ds.map .int)),a5 (.any,.lst (names.map .str)),a5 (.loc,.str small),a5 (.loc,.str g),a5 (.loc,.str y),bD] ->
    ∃x,bU x.cps.toList/\x∉names/\bW Γ (pe n) [.lst (ds.map .int),.lst (names.map .str)]=a5 (.ok (.loc,.str x)):=λg p hr=>by
   have(x,st',s,t,u):=l g (a5 (.loc,.str y)) p;show#[x,s,t,aI (st0:=[a5 (.any,.lst (ds.map .int)),a5 (.any,.lst (names.map .str)),bD,bD,bD,bD]) rfl (.inr rfl) rfl (e _ (hJ (st1:=[a5 (.any,.lst (ds.map .int)),a5 (.any,.lst (names.map .str)),a5 (.loc,.str small),a5 (.loc,.str a),bD,bD]) ?_ (ax (r:=(.loc,.str y)) (st1:=[a5 (.any,.lst (ds.map .int)),a5 (.any,.lst (names.map .str)),a5 (.loc,.str small),a5 (.loc,.str a),bD,bD]) ?_ aN hr) u))]
   .repeat' (first|show lT (by simp;lia)|sizeOf_list_dec)
   .repeat' (first|show b7 hp|show bf J7|show bf i1|show OE|show Zc|sizeOf_list_dec)
  have v:∀{c:Bool} {o3 o4:Option (Kd×U)},(dd ds 2 % 4==1)=c->Run (IW Γ (.cmp .eq (.bin .mod (.idx (.var 0) (.cst (.int 2))) (.cst (.int 4))) (.cst (.int 1)))) [a5 (.any,.lst (ds.map .int)),a5 (.any,.lst (names.map .str)),a5 (.loc,.str small),o3,o4,bD] c [a5 (.any,.lst (ds.map .int)),a5 (.any,.lst (names.map .str)),a5 (.loc,.str small),o3,o4,bD]:=λw=>by
   repeat' (first|show bf L|show fY w|sizeOf_list_dec)
  have z:∀{c:Bool} {o3 o4:Option (Kd×U)},(dd ds 2 % 4==2)=c->Run (IW Γ (.cmp .eq (.bin .mod (.idx (.var 0) (.cst (.int 2))) (.cst (.int 4))) (.cst (.int 2)))) [a5 (.any,.lst (ds.map .int)),a5 (.any,.lst (names.map .str)),a5 (.loc,.str small),o3,o4,bD] c [a5 (.any,.lst (ds.map .int)),a5 (.any,.lst (names.map .str)),a5 (.loc,.str small),o3,o4,bD]:=λw=>by
   repeat' (first|show bf L|show fY w|sizeOf_list_dec)
  by_cases A:dd ds 2 % 4=1
  .have Zd:y.length+a.length<=cK:=by lia
   have Qg:j3 (.loc,.str (y++a)) bD (a5 8)=a5 (.loc,.str (PySem.StrLaws.sliceText (y++a) bD (a5 8))):=by
    simp only[j3];rw[ę (by rw[len_list];change(y.cps++a.cps).toList.length<=_;rw[SS,j0,<-len_list,<-len_list];lia)]
   show go (PySem.StrLaws.sliceText (y++a) bD (a5 8)) (.inl ?_) ?_
   .have:=EV (y++a) 8;rw[show((8:Nat):Int)=8 from rfl]at this;rw[this];change d5 ((y.cps++a.cps).toList.take 8)=a8;rw[SS];show wD q (by rw[o];show G)
   .show hJ (v (by simp[A])) (ax (lL (bN (af rfl) (af rfl) trivial (kq Zd)) lJ (lK aw) trivial Qg) aN a9) (dA (z (by simp[A])) a9 a9)
  .by_cases B:dd ds 2 % 4=2
   .have TV:=QC (dd ds 3) (show m≠0 by lia);have Kr:=Rn (dd ds 3) D;have Nc:0<=2+dd ds 3 % m:=by lia
    have N:2+dd ds 3 % m<=99:=by lia
    have Ze:=nL Nc N;have Oj:J5 .str [(.loc,.int (2+dd ds 3 % m))]=a5 (.loc,.str (fG (2+dd ds 3 % m))):=by
     simp only[J5,gD,x6];rw[ę (by
      have:(2+dd ds 3 % m).natAbs<2 ^ 7:=by lia
      have h2:(2+dd ds 3 % m).natAbs≠0:=by lia
      have:=(ą h2).mpr this;lia)]
     rfl
    have UO:(y++("/":Str)).length=y.length+1:=by rw[len_list,len_list];change(y.cps++_).toList.length=_;rw[SS,j0];rfl
    have UP:Run (ev Γ (.bin .add (.cst (.int 2)) (.bin .mod (.idx (.var 0) (.cst (.int 3))) n))) [a5 (.any,.lst (ds.map .int)),a5 (.any,.lst (names.map .str)),a5 (.loc,.str small),a5 (.loc,.str a),a5 (.loc,.str y),bD] (.loc,.int (2+dd ds 3 % m)) [a5 (.any,.lst (ds.map .int)),a5 (.any,.lst (names.map .str)),a5 (.loc,.str small),a5 (.loc,.str a),a5 (.loc,.str y),bD]:=bN aw (bN (br (az rfl) aw trivial (bf i3)) (Y _ _ _ _ _) trivial (b7 D)) trivial dv;show go (y++"/"++fG (2+dd ds 3 % m)) (.inr #[y.cps.toList,(fG (2+dd ds 3 % m)).cps.toList,2+dd ds 3 % m,?_,q,⋯,N,rfl]) ?_
    .change((y.cps++#v[47])++(fG _).cps).toList=_;simp
    .show dA (v (by simp[B])) a9 (hJ (z (by simp[B])) (ax (bN (bN (af rfl) aw trivial (kq (by change y.length+1<=cK;lia))) (dH (ae UP ao) trivial Oj) trivial (kq (by rw[UO];lia))) aN a9) a9)
   .show go a (.inl I) ?_;show dA (v (by simp[A])) a9 (dA (z (by simp[B])) a9 a9)
 .have(x,st',s,t,u):=l a bD (.inl I);show#[x,s,t,aI (st0:=[a5 (.any,.lst (ds.map .int)),a5 (.any,.lst (names.map .str)),bD,bD,bD,bD]) rfl (.inr rfl) rfl (e _ (dA (st1:=[a5 (.any,.lst (ds.map .int)),a5 (.any,.lst (names.map .str)),a5 (.loc,.str small),a5 (.loc,.str a),bD,bD]) ?_ a9 u))]
  repeat' (first|show lT (ě (by simp only[cN];lia))|sizeOf_list_dec)
end
abbrev lX(Γ:Tab):Prop:=∀(ns:List Int) (k:Nat),k<2 ^ 62->∃z,Γ "_law_cell" [.JF (ns.map .int),.int (k:Nat)]=a5 (.ok (.loc,.int z))
abbrev iV(Γ:Tab):Prop:=∀(c:Int) (n:Nat),n<1000->∃ds:List Int,ds.length=n/\(∀d∈ds,0<=d)/\Γ "_law_drawn" [.int c,.int (n:Nat)]=a5 (.ok (.own,.lst (ds.map .int)))
abbrev zt(Γ:Tab):Prop:=∀(ds:List Int) (names:List Str),12<=ds.length->(∀d∈ds,0<=d)->names.length<40->(∀x∈names,bU x.cps.toList)->∃x,bU x.cps.toList/\x∉names/\Γ "_law_name" [.lst (ds.map .int),.lst (names.map .str)]=a5 (.ok (.loc,.str x))
theorem wH(hc:lX Γ)(hd:iV Γ)(hn:zt Γ){ns:List Int}(hb:b<1000)(hm:m<40):
    ∃names:List Str,names.length=m/\names.Nodup/\(∀x∈names,bU x.cps.toList)/\bW Γ fNames [.JF (ns.map .int),.int (b:Nat),.int (m:Nat)]=a5 (.ok (.own,.lst (names.map .str))):=by
  have hsz:(1000:Nat)<=cK:=by decide
  let I:List (Kd×U)->aq->Prop:=λxs st=>∃(names:List Str) (us:List U) (o:Option (Kd×U)),st=[a5 (.any,.JF (ns.map .int)),a5 (.loc,.int (b:Nat)),a5 (.loc,.int (m:Nat)),a5 (.own,.lst us),o]/\us=names.map .str/\names.Nodup/\(∀x∈names,bU x.cps.toList)/\names.length+xs.length=m/\fZ m xs;have loop:=uI (t:=b6) (is:=[4]) (body:=execs Γ [.app 3 (.call "_law_name" [.call "_law_drawn" [.call "_law_cell" [.var 0,.bin .add (.var 1) (.var 4)],.cst (.int 12)],.var 3])]) (rs:=[(.loc,.int (m:Nat))]) I (λ_ _ _=>trivial) (λx xs st IX=>by
    obtain⟨names,us,o,e,e2,I0,hw,hl,hr⟩:=IX;subst e;obtain⟨i,hi,rfl,Ko,hlen⟩:=hr.cons;rw[j5]at hl;obtain⟨z,hz⟩:=hc ns (b+i) ⋯;rw[Int.natCast_add]at hz;obtain⟨ds,d1,d2,d3⟩:=hd z 12 ⋯;obtain⟨x,x1,x2,x3⟩:=hn ds names ⋯ d2 ⋯ hw;rw[<-e2]at x3;refine⟨[a5 (.any,.JF (ns.map .int)),a5 (.loc,.int (b:Nat)),a5 (.loc,.int (m:Nat)),a5 (.own,.lst us),a5 (.loc,.int (i:Nat))],[a5 (.any,.JF (ns.map .int)),a5 (.loc,.int (b:Nat)),a5 (.loc,.int (m:Nat)),a5 (.own,.lst (us++[.str x])),a5 (.loc,.int (i:Nat))],aN,?_,⟨names++[x],_,_,rfl,by simp[e2],?_,?_,by simp;lia,Ko⟩⟩
    · repeat' (first|exact hz|exact d3|exact x3|exact(by rw[e2,cN];lia)|sizeOf_list_dec)
    · rw[ri]
      exact ⟨I0, by simp, fun y hy w NB => by have : w = x := by simpa using NB
                                              subst this;rintro rfl;exact x2 hy⟩
    · intro y hy
      rcases i'.mp hy with h|h
      · exact hw y h
      · rw[i8.mp h];exact x1)
  obtain⟨st',IY,names,us,o,e,e2,I0,hw,hl,_⟩:=loop ((hH m).map λi:Nat=>(Kd.loc,U.int (0+(i:Int)))) [a5 (.any,.JF (ns.map .int)),a5 (.loc,.int (b:Nat)),a5 (.loc,.int (m:Nat)),a5 (.own,.lst []),bD] ⟨[],[],bD,rfl,rfl,by simp,by simp,by simp,fZ.all m⟩;subst e e2;refine⟨names,by simpa using hl,I0,hw,?_⟩;apply aI (st0:=[a5 (.any,.JF (ns.map .int)),a5 (.loc,.int (b:Nat)),a5 (.loc,.int (m:Nat)),bD,bD]) rfl (.inl rfl) rfl
  repeat' sizeOf_list_dec
  have hit:=sJ (k:=.loc) (n:=m) ⋯;refine' fD (rs:=[(.loc,.int (m:Nat))]) (st1:=[a5 (.any,.JF (ns.map .int)),a5 (.loc,.int (b:Nat)),a5 (.loc,.int (m:Nat)),a5 (.own,.lst []),bD]) _ trivial hit rfl IY _
  all_goals repeat' sizeOf_list_dec
theorem Ir:∀j:Nat,j<10->∃q:Nat,q<=8/\Je [U.int 0,.int 0,.int 1,.int 1,.int 1,.int 2,.int 2,.int 2,.int 3,.int 8] (j:Int)=a5 (.int (q:Nat))
 |0,_=>⟨0,⋯,rfl⟩|1,_=>⟨0,⋯,rfl⟩|2,_=>⟨1,⋯,rfl⟩|3,_=>⟨1,⋯,rfl⟩|4,_=>#[1,⋯,rfl]
 |5,_=>⟨2,⋯,rfl⟩|6,_=>⟨2,⋯,rfl⟩|7,_=>⟨2,⋯,rfl⟩|8,_=>⟨3,⋯,rfl⟩|9,_=>#[8,⋯,rfl]
 |n+10,h=>absurd h ⋯
def EW(hz:0<=z)(b:0<t)(hl:t<=xs.length):∃x∈xs,Je xs (z % t)=a5 x:=by
 have c:=QC z (by lia:t≠0);have e:=Rn z b;have(j,d):=OT c;have a:j<xs.length:=by lia
 show#[xs[j]'a,DD a,?_];rw[d];show bE (by simp[a])
def uL{xs:List Str}{z t:Int}(hz:0<=z)(a:0<t)(hl:t<=xs.length):∃x∈xs,Je (xs.map U.str) (z % t)=a5 (.str x):=by
 have(u,b,e):=EW (xs:=xs.map U.str) hz a (by simpa using hl);have(x,c,rfl):=kj.mp b;show#[x,c,e]
theorem zv{Γ:Tab}{ds:List Int}{names:List Str}(hd:11<=ds.length)(h0:∀d∈ds,0<=d)(hn:0<names.length):
    ∃told:List Str,told.length<=8/\told.Nodup/\(∀x∈told,x∈names)/\bW Γ jR [.lst (ds.map .int),.lst (names.map .str)]=a5 (.ok (.loc,.tup (told.map .str))):=by
  have hsz:(1000:Nat)<=cK:=by decide
  have i0:Je (ds.map U.int) 0=a5 (.int (dd ds 0)):=cB (i:=0) ⋯;have i1:Je (ds.map U.int) 1=a5 (.int (dd ds 1)):=cB (i:=1) ⋯;have i2:Je (ds.map U.int) 2=a5 (.int (dd ds 2)):=cB (i:=2) ⋯;have n0:=eS h0 0;have n1:=eS h0 1;have n2:=eS h0 2;have hp:(0:Int)<((names.map U.str).length:Nat):=by simp;lia
  have hL:((names.map U.str).length:Int)=names.length:=by simp
  have Pu:=Rn (dd ds 0) hp;have TV:=QC (dd ds 0) (by lia:((names.map U.str).length:Int)≠0);let B:=λ(t:Int) (us:List U) (o4 o5:Option (Kd×U))=>([a5 (.any,.lst (ds.map .int)),a5 (.any,.lst (names.map .str)),a5 (.loc,.int t),a5 (.own,.lst us),o4,o5]:aq)
  have hj:(dd ds 1 % 10).toNat<10:=by lia
  obtain⟨q,hq,J7⟩:=Ir _ hj;rw[QM ⋯]at J7;have main:∀t:Int,0<t->t<=names.length->∃told:List Str,told.length<=8/\told.Nodup/\(∀x∈told,x∈names)/\∃st',Run (execs Γ (jR.body.drop 2)) [a5 (.any,.lst (ds.map .int)),a5 (.any,.lst (names.map .str)),a5 (.loc,.int t),bD,bD,bD] (.rt .loc (.tup (told.map .str))) st':=λt ht MI=>by
    let I:List (Kd×U)->aq->Prop:=λxs st=>∃(told:List Str) (us:List U) (o4 o5:Option (Kd×U)),st=B t us o4 o5/\us=told.map .str/\told.Nodup/\(∀x∈told,x∈names)/\told.length+xs.length<=q/\fZ q xs;have loop:=uI (t:=b6) (is:=[4]) (body:=execs Γ [.set 5 (.idx (.var 1) (.bin .mod (.idx (.var 0) (.bin .add (.cst (.int 3)) (.var 4))) (.var 2))),
      .ite (.cmp .Iz (.var 5) (.var 3))
        [.app 3 (.var 5)]
        []]) (rs:=[(.loc,.int (q:Nat))]) I (λ_ _ _=>trivial) (λx xs st IX=>by
      obtain⟨told,us,o4,o5,e,e2,I0,hw,hl,hr⟩:=IX;subst e;obtain⟨i,hi,rfl,Ko,hlen⟩:=hr.cons;rw[j5]at hl;have ik:Je (ds.map U.int) (3+(i:Int))=a5 (.int (dd ds (3+i))):=by
        rw[show(3+(i:Int))=((3+i:Nat):Int) by lia];exact cB ⋯
      obtain⟨x,hx,RK⟩:=uL (xs:=names) (eS h0 (3+i)) ht MI;have TZ:bT .Iz (.str x) (.lst us)=a5 (cb (x∉told)):=by rw[e2];exact eT
      by_cases Lb:x∈told
      · refine⟨B t us (a5 (.loc,.int (i:Nat))) o5,B t us (a5 (.loc,.int (i:Nat))) (a5 (.any,.str x)),aN,?_,⟨told,us,_,_,rfl,e2,I0,hw,⋯,Ko⟩⟩
        refine ax (r:=(.any,.str x)) (st1:=B t us (a5 (.loc,.int (i:Nat))) o5) ?_ lO (dA (st1:=B t us (a5 (.loc,.int (i:Nat))) (a5 (.any,.str x))) ?_ a9 a9)
        · repeat' (first|exact bf ik|exact b7 ht|exact bf RK|sizeOf_list_dec)
        · have:bT .Iz (.str x) (.lst us)=a5 b6:=by rw[TZ];simp[Lb]
          repeat' (first|exact this|sizeOf_list_dec)
      · refine⟨B t us (a5 (.loc,.int (i:Nat))) o5,B t (us++[.str x]) (a5 (.loc,.int (i:Nat))) (a5 (.any,.str x)),aN,?_,⟨told++[x],_,_,_,rfl,by simp[e2],?_,?_,by simp;lia,Ko⟩⟩
        · refine ax (r:=(.any,.str x)) (st1:=B t us (a5 (.loc,.int (i:Nat))) o5) ?_ lO (hJ (st1:=B t us (a5 (.loc,.int (i:Nat))) (a5 (.any,.str x))) (st2:=B t (us++[.str x]) (a5 (.loc,.int (i:Nat))) (a5 (.any,.str x))) ?_ ?_ a9)
          · repeat' (first|exact bf ik|exact b7 ht|exact bf RK|sizeOf_list_dec)
          · have:bT .Iz (.str x) (.lst us)=some true:=by rw[TZ];simp[Lb]
            repeat' (first|exact this|sizeOf_list_dec)
          · repeat' (first|exact jM rfl|exact(by rw[e2,cN];lia)|sizeOf_list_dec)
        · rw[ri]
          exact ⟨I0, by simp, fun y hy w NB => by have : w = x := by simpa using NB
                                                  subst this;rintro rfl;exact Lb hy⟩
        · intro y hy
          rcases i'.mp hy with h|h
          · exact hw y h
          · rw[i8.mp h];exact hx)
    obtain⟨st',IY,told,us,o4,o5,e,e2,I0,hw,hl,_⟩:=loop ((hH q).map λi:Nat=>(Kd.loc,U.int (0+(i:Int)))) (B t [] bD bD) ⟨[],[],bD,bD,rfl,rfl,by simp,by simp,by simp,fZ.all q⟩;subst e e2;refine⟨told,by simp at hl;lia,I0,hw,?_⟩;have hit:=sJ (k:=.loc) (n:=q) ⋯;refine⟨B t (told.map .str) o4 o5,ax (r:=(.own,.lst [])) (d8 ao trivial bx (mh _)) bt (fD (rs:=[(.loc,.int (q:Nat))]) (st1:=B t [] bD bD) ?_ trivial hit rfl IY ?_)⟩
    · refine ae (br (x:=(.own,.lst [U.int 0,.int 0,.int 1,.int 1,.int 1,.int 2,.int 2,.int 2,.int 3,.int 8])) (y:=(.loc,.int (dd ds 1 % 10))) (st1:=B t [] bD bD) ?_ ?_ trivial (bf J7)) ao
      · repeat' (first|exact(by decide:(10:Nat)<=cK)|sizeOf_list_dec)
      · repeat' (first|exact bf i1|sizeOf_list_dec)
    · repeat' sizeOf_list_dec
  have fin:∀t:Int,0<t->t<=names.length->(∀{f:Fl} {st':aq},Run (execs Γ (jR.body.drop 2)) [a5 (.any,.lst (ds.map .int)),a5 (.any,.lst (names.map .str)),a5 (.loc,.int t),bD,bD,bD] f st'->Run (execs Γ jR.body) [a5 (.any,.lst (ds.map .int)),a5 (.any,.lst (names.map .str)),bD,bD,bD,bD] f st') ->
      ∃told:List Str,told.length<=8/\told.Nodup/\(∀x∈told,x∈names)/\bW Γ jR [.lst (ds.map .int),.lst (names.map .str)]=a5 (.ok (.loc,.tup (told.map .str))):=λt ht MI hh=>by
    obtain⟨told,a1,a2,a3,st',a4⟩:=main t ht MI;exact⟨told,a1,a2,a3,aI (st0:=[a5 (.any,.lst (ds.map .int)),a5 (.any,.lst (names.map .str)),bD,bD,bD,bD]) rfl (.inr rfl) rfl (hh a4)⟩
  let S0:aq:=[a5 (.any,.lst (ds.map .int)),a5 (.any,.lst (names.map .str)),a5 (.loc,.int ((names.map U.str).length:Nat)),bD,bD,bD]
  have q1:∀{c:Bool},cb (0<dd ds 2 % 3)=c->Run (IW Γ (.cmp .gt (.bin .mod (.idx (.var 0) (.cst (.int 2))) (.cst (.int 3))) (.cst (.int 0)))) S0 c S0:=λh=>by repeat' (first|exact bf i2|exact lT h|sizeOf_list_dec)
  have q2:∀{c:Bool},cb (0<dd ds 0 % ((names.map U.str).length:Nat))=c->Run (IW Γ (.cmp .gt (.bin .mod (.idx (.var 0) (.cst (.int 0))) (.bi .len [.var 1])) (.cst (.int 0)))) S0 c S0:=λh=>by repeat' (first|exact bf i0|exact b7 hp|exact lT h|sizeOf_list_dec)
  have s2:Run (ev Γ (.bi .len [.var 1])) [a5 (.any,.lst (ds.map .int)),a5 (.any,.lst (names.map .str)),bD,bD,bD,bD] (.loc,.int ((names.map U.str).length:Nat)) [a5 (.any,.lst (ds.map .int)),a5 (.any,.lst (names.map .str)),bD,bD,bD,bD]:=by repeat' sizeOf_list_dec
  have s3:Run (ev Γ (.bin .mod (.idx (.var 0) (.cst (.int 0))) (.bi .len [.var 1]))) S0 (.loc,.int (dd ds 0 % ((names.map U.str).length:Nat))) S0:=by repeat' (first|exact bf i0|exact b7 hp|sizeOf_list_dec)
  by_cases c1:0<dd ds 2 % 3
  · by_cases c2:0<dd ds 0 % ((names.map U.str).length:Nat)
    · exact fin (dd ds 0 % ((names.map U.str).length:Nat)) c2 ⋯ λh=>ax s2 aN (hJ (jN (sE (q1 (Ĝ c1)) (da (q2 (Ĝ c2))))) (ax s3 aN a9) h)
    · exact fin ((names.map U.str).length:Nat) hp ⋯ λh=>ax s2 aN (dA (jN (sE (q1 (Ĝ c1)) (da (q2 (ě c2))))) a9 h)
  · exact fin ((names.map U.str).length:Nat) hp ⋯ λh=>ax s2 aN (dA (jN (ze (q1 (ě c1)))) a9 h)
def zw(e:Run (ev Γ g) st rv st1)(h:st1[i]?=a5 (a5 (k',u')))(j:Run (ev Γ l) st1 rk st2)(m:Run (dh [rv,rk]) st2 [b,c] st3)(n:st3[i]?=a5 (a5 (k,u0)))(hk:k.root=a8)(o:fH c b u0=a5 d)
  (p:Run (execs Γ ss) (st3.set i (a5 (k,d))) f q) (r:k'≠.A':=by intro z;cases z):Run (execs Γ (.put i l g::ss)) st f q:=by
 show et (aa e (aa (fX h r) (aa j (aa m (aa (a:=()) (st1:=st3.set i (a5 (k,d))) ?_ aH))))) p;change modS i (tV [b,c]) st3=_;unfold modS;rw[n];simp only[hk,if_true];change(match fH c b u0 with|some u'=>_|none=>bD)=_;rw[o]
@[reducible]noncomputable def Row:=Str×List Str
abbrev F'(r:Row):U:=.tup [.str r.1,.tup (r.2.map .str)]
abbrev keyOf(r:Row):Row:=(r.1,bF r.2)
def sorted_strs(h:ss.length<64):J5 .sorted [(k,.tup (ss.map .str))]=a5 (.own,.lst ((bF ss).map .str)):=by
 change(strsOf (ss.map U.str)).bind _=_;rw[eR];change(if ss.length<64 then _ else _)=_;rw[ę h]
abbrev zx(Γ:Tab):Prop:=∀(ds:List Int) (names:List Str),11<=ds.length->(∀d∈ds,0<=d)->0<names.length ->
 ∃told:List Str,told.length<=8/\told.Nodup/\(∀x∈told,x∈names)/\Γ "_law_told" [.lst (ds.map .int),.lst (names.map .str)]=a5 (.ok (.loc,.tup (told.map .str)))
structure gM(names:List Str)(r:Row):Prop where
 word:r.1∈names
 La:r.2.length<=8
 once:r.2.Nodup
 told:∀x∈r.2,x∈names
abbrev ph(Γ:Tab):Prop:=∀(ns:List Int) (b m:Nat),b<1000->m<40->∃names:List Str,names.length=m/\names.Nodup/\(∀x∈names,bU x.cps.toList)/\Γ "_law_names" [.JF (ns.map .int),.int (b:Nat),.int (m:Nat)]=a5 (.ok (.own,.lst (names.map .str)))
section
def CS(h:Jh Pg "_law_mix" wB):zk (IZ Pg (d+1)):=λc k a b=>by rw[aE h];show B0 a b
def lY(h:Jh Pg "_law_mix" wB)(a:Jh Pg "_law_cell" uK):lX (IZ Pg (d+2)):=λns k hk=>#[_,by rw[aE a];show zp (CS h) hk]
def drawnOk(h:Jh Pg "_law_mix" wB)(f:Jh Pg "_law_drawn" oZ):iV (IZ Pg (d+2)):=λc n g=>by
 have(ds,a,b,e):=wC (CS (d:=d) h) (c:=c) g;show#[ds,a,b,by rw[aE f];show e]
def EX(f:B3 g)(h:Jh Pg "_law_name" (pe g)):zt (IZ Pg (d+1)):=λds names a b c e=>by
 have(x,p,q,r):=zq (Γ:=IZ Pg d) f a b c e;show#[x,p,q,by rw[aE h];show r]
def EY(h:Jh Pg "_law_told" jR):zx (IZ Pg (d+1)):=λds names a b c=>by
 have(x,p,q,r,s):=zv (Γ:=IZ Pg d) a b c;show#[x,p,q,r,by rw[aE h];show s]
structure dI(md:E)(Pg:List Fn):Prop where
 mix:Jh Pg "_law_mix" wB
 cell:Jh Pg "_law_cell" uK
 drawn:Jh Pg "_law_drawn" oZ
 name:Jh Pg "_law_name" (pe md)
 names:Jh Pg "_law_names" fNames
 told:Jh Pg "_law_told" jR
def dI.lY(M:dI a Pg):lX (IZ Pg (d+2)):=TM.lY M.mix M.cell
def dI.drawnOk(M:dI a Pg):iV (IZ Pg (d+2)):=TM.drawnOk M.mix M.drawn
def dI.zy(a:B3 c)(M:dI c Pg):ph (IZ Pg (d+3)):=λns b m e f=>by
 have(names,p,q,r,s):=wH (Γ:=IZ Pg (d+2)) M.lY M.drawnOk (TM.EX a M.name) (ns:=ns) e f;show#[names,p,q,r,by rw[aE M.names];show s]
@[reducible]noncomputable def zA(Pg:List Fn):Prop:=dI G7 Pg
def dI.namesOk(M:zA Pg):ph (IZ Pg (d+3)):=dI.zy B4 M
end
section
def nN(h:Run (execs Γ (a++ss)) st f st2):(∃s1,Run (execs Γ a) st .nx s1/\Run (execs Γ ss) s1 f st2)\/(Run (execs Γ a) st f st2/\f≠.nx):=by
 induction a generalizing st with
 |nil=>show .inl #[st,a9,h]
 |cons s a i =>
  have h':M.bind (exec Γ s) (λf=>match f with|.nx=>execs Γ (a++ss)|f=>pure f) st=a5 (.ok f,st2):=h;unfold M.bind at h';cases e:exec Γ s st with
  |none=>rw[e]at h';cases h'
  |some p =>
   have(x,s1):=p;rw[e]at h';cases x with
   |exc c=>cases h'
   |ok g =>
    cases g with
    |nx =>
     rcases i h' with⟨s2,b,d⟩|⟨b,d⟩
     .show .inl #[s2,et e b,d]
     .show .inr #[et e b,d]
    |rt k u=>cases h';show .inr #[sG e,λz=>nomatch z]
    |bk=>cases h';show .inr #[aa (show Run (exec Γ s) st Fl.bk _ from e) aH,λz=>nomatch z]
    |ct=>cases h';show .inr #[aa (show Run (exec Γ s) st Fl.ct _ from e) aH,λz=>nomatch z]
def G8(a:Run (exec Γ s) st f st1)(b:f≠.nx):Run (execs Γ (s::ss)) st f st1:=by
 cases f with
 |nx=>show absurd rfl b
 |rt k u=>show sG a
 |_=>show aa a aH
def cn(g:Run (IW Γ c) st p st1)(h:p=a8->Run (execs Γ (a++ss)) st1 f st2)(i:p=b6->Run (execs Γ (b++ss)) st1 f st2):Run (execs Γ (.ite c a b::ss)) st f st2:=by
 cases p with
 |true =>
  rcases nN (h rfl) with⟨s1,d,e⟩|⟨d,e⟩
  .show et (oX g d) e
  .show G8 (oX g d) e
 |false =>
  rcases nN (i rfl) with⟨s1,d,e⟩|⟨d,e⟩
  .show et (sF g d) e
  .show G8 (sF g d) e
def pj(h:Run (ev Γ e) st (k,.bl p) st)(a:p=a8->Run (iF Γ (b::es)) st (.loc,.bl q) st):Run (iF Γ (e::b::es)) st (.loc,.bl (p&&q)) st:=by
 show sC h ?_;cases p with
 |true=>rw[ę rfl];show a rfl
 |false=>rw[Ě i6];show#[rfl,rfl]
def lZ(h:Run (IW Γ e) st p st)(a:p=a8->Run (aP Γ (b::es)) st q st):Run (aP Γ (e::b::es)) st (p&&q) st:=by
 cases p with
 |true=>show sE h (a rfl)
 |false=>show ze h
theorem hU{cond:M Bool}(h:aY src st)(k:Kd)(hk:k=.loc\/k=.any)(a g:α->U)(c:Kd)(d:∀y,Run cond (a5 (k,a y)::st) a8 (a5 (k,a y)::st)):∀(ys:List α) (b:List U),b.length+ys.length<=cK ->
  (∀y∈ys,Run elt (a5 (k,a y)::st) (c,g y) (a5 (k,a y)::st)/\Run (lift (c,g y)) (a5 (k,a y)::st) (g y) (a5 (k,a y)::st))->Run (bG 1 b6 cond elt src (ys.map λy=>(k,a y)) b) st (b++ys.map g) st
 |[],b,_,_=>by rw[K',K',rl];show qx h
 |y::ys,b,hl,e=>by
  have(f,i):=e y (by simp);rw[j5]at hl;show lQ (s1:=a5 (k,a y)::st) (s2:=a5 (k,a y)::st) (s3:=a5 (k,a y)::st) (s4:=a5 (k,a y)::st) h ?_ (d y) f i ⋯ ?_
  .rcases hk with rfl|rfl
   .show fu aN
   .show fu lO
  .have:=hU h k hk a g c d ys (b++[g y]) (by simp;lia) λz hz=>e z (by simp[hz]);rw[gi];simpa using this
theorem l0{cond:M Bool}(h:aY src st)(k:Kd)(hk:k=.loc\/k=.any)(a g:α->U)(p:α->Bool)(d:Kd):∀(ys:List α) (b:List U),b.length+ys.length<=cK ->
  (∀y∈ys,Run cond (a5 (k,a y)::st) (p y) (a5 (k,a y)::st)/\(p y=a8->Run elt (a5 (k,a y)::st) (d,g y) (a5 (k,a y)::st)/\Run (lift (d,g y)) (a5 (k,a y)::st) (g y) (a5 (k,a y)::st)))->Run (bG 1 b6 cond elt src (ys.map λy=>(k,a y)) b) st (b++(ys.filter p).map g) st
 |[],b,_,_=>by rw[K',Sq,K',rl];show qx h
 |y::ys,b,hl,f=>by
  have(e,j):=f y (by simp);rw[j5]at hl;have i:Run (dG b6 (hH 1) (k,a y)) (js 1 bD++st) () (a5 (k,a y)::st):=by
   rcases hk with rfl|rfl
   .show fu aN
   .show fu lO
  cases c:p y with
  |true =>
   rw[c]at e;have(l,m):=j c;show lQ (s1:=a5 (k,a y)::st) (s2:=a5 (k,a y)::st) (s3:=a5 (k,a y)::st) (s4:=a5 (k,a y)::st) h i e l m ⋯ ?_;have:=l0 h k hk a g p d ys (b++[g y]) (by simp;lia) λz hz=>f z (by simp[hz]);rw[zl,ę c,gi];simpa using this
  |false =>
   rw[c]at e;show sH (s1:=a5 (k,a y)::st) (s2:=a5 (k,a y)::st) h i e ?_;have:=l0 h k hk a g p d ys b ⋯ λz hz=>f z (by simp[hz]);rw[zl,Ě (by simp[c])];show this
theorem eu(it:α->Kd×U)(I:List α->List α->aq->Prop)(hs:∀d r st,I d r st->aY rs st)
  (Z9:∀d y r st,I d (y::r) st->∃st1 st2,Run (dG t is (it y)) st () st1/\Run body st1 .nx st2/\I (d++[y]) r st2):∀(r d:List α) (st:aq),I d r st->∃st',Run (forM t is body rs (r.map it)) st .nx st'/\I (d++r) [] st'
 |[],d,st,h=>#[st,CP (hs _ _ _ h),by rw[rl];show h]
 |y::r,d,st,h=>by
  have(s1,s2,a,b,c):=Z9 d y r st h;have(s3,e,f):=eu it I hs Z9 r (d++[y]) s2 c;show#[s3,G5 (hs _ _ _ h) a b e,by simpa using f]
def sR(a:Run (aK Γ es) st rs st1)(c:aY rs st1)(d:Γ f (rs.map (·.2))=a5 (.ok r))(e:rV r.2=a5 b)(g:isAny r.1=b6:=by show rfl):Run (IW Γ (.call f es)) st b st1:=aa a (aa (aS c) (aa (uG d g) (cU e)))
def EZ(h:Run (ev Γ (.bi f es)) st (k,.bl b) st1):Run (IW Γ (.bi f es)) st b st1:=by
 have h':(aK Γ es >>= λrs=>au rs >>= λ_=>M.Jd (J5 f rs)) st=a5 (.ok (k,.bl b),st1):=h;obtain⟨rs,s1,c,d,s2,e,r,s3,g,i⟩:∃rs s1,aK Γ es st=a5 (.ok rs,s1)/\∃(a:Unit) (s2:aq),au rs s1=a5 (.ok a,s2)/\∃r s3,M.Jd (J5 f rs) s2=a5 (.ok r,s3)/\(r,s3)=((k,U.bl b),st1):=by
  have w:W (aK Γ es >>= λrs=>au rs >>= λ_=>M.Jd (J5 f rs)) st λr s=>(r,s)=((k,U.bl b),st1):=#[_,_,h',rfl]
  rw[ab]at w;have(rs,s1,c,w):=w;rw[ab]at w;have(a,s2,d,w):=w;have(r,s3,e,w):=w;show#[rs,s1,c,a,s2,d,r,s3,e,w]
 cases i;show aa c (aa (a:=d) e (aa g (cU rfl)))
def CT(c:st[i]?=a5 (a5 (k',.lst us')))(d:Run (ev Γ e) st r st1)(g:st1[i]?=a5 (a5 (k,.lst us)))(hk:k.root=a8)(h:mK r (.lst us)=a5 (.lst b))
  (j:Run (execs Γ ss) (st1.set i (a5 (k,.lst b))) f st3) (l:k'≠.A':=by intro z;cases z):Run (execs Γ (.ext i e::ss)) st f st3:=by
 show et (aa (fX c l) (aa (a:=()) (st1:=st) rfl (aa d (aa (a:=()) (st1:=st1.set i (a5 (k,.lst b))) ?_ aH)))) j;change modS i (mK r) st1=_;unfold modS;rw[g];simp only[hk,if_true];rw[h]
end
def uM(h:xs.length+ys.length<=cK)(hs:gC k ys=a8):mK (k,.lst ys) (.lst xs)=a5 (.lst (xs++ys)):=by
 change(if xs.length+ys.length<=cK/\gC k ys=a8 then _ else _)=_;rw[ę #[h,hs]]
theorem jv:∀ss:List Str,cZ (ss.map U.str)=a8
 |[]=>by simp[cZ]
 |s::ss=>by simp[cZ,IQ,jv ss]
def fw(r:Row):IQ (F' r)=a8:=by simp[F',IQ,cZ,jv]
theorem dc:∀rs:List Row,cZ (rs.map F')=a8
 |[]=>by simp[cZ]
 |r::rs=>by simp[cZ,fw,dc rs]
theorem hV:∀(a b:List Str),cy (a.map U.str) (b.map U.str)=cb (a=b)
 |[],[]=>by simp[cy]
 |[],_::_=>by simp[cy]
 |_::_,[]=>by simp[cy]
 |x::a,y::b=>by
  rw[gi,gi,cy,hV a b];simp only[bK];by_cases h:x=y
  .subst h;simp
  .simp[h]
def wI(a b:Row):bK (F' a) (F' b)=cb (a=b):=by
 have(c,d):=a;have(b1,e):=b;simp only[F',bK,cy,WO,hV];by_cases h:c=b1
 .subst h;simp
 .simp[h]
def uN(r:Row):Jg 50 (F' r)=a8:=by
 simp[F',Jg,bS,gw]
def B6{op:Bool}{a b:Row}:bT .eq (F' a) (F' b)=a5 (cb (a=b)):=by
 simp only[bT];rw[ę #[uN a,uN b],wI]
def h_(ss:List Str)(n:Nat):Jg (n+1) (.lst (ss.map U.str))=a8:=by simp[Jg,gw]
def qC{a b:List Str}:bT .eq (.lst (a.map U.str)) (.lst (b.map U.str))=a5 (cb (a=b)):=by
 simp only[bT];rw[ę #[h_ a 49,h_ b 49]];simp only[bK,hV]
def uO:bT .eq (.str a) (.str b)=a5 (cb (a=b)):=by
 simp only[bT];rw[ę #[rfl,rfl]];simp only[bK];by_cases h:a=b
 .subst h;simp
 .simp[h]
def B7(f:α->β)(xs:List α)(lo hi:Option Int):cut (xs.map f) lo hi=(cut xs lo hi).map f:=by simp[cut,WJ,WK]
section
end
section
def zB(c:Run (ev Γ a) st x st1)(d:oF x.2 T=a5 b):Run (ev Γ (.J4 a T)) st (.loc,.bl b) st1:=aa c (aa (cU d) aH)
def nO(c:Run (ev Γ a) st x st1)(d:oF x.2 T=a5 b):Run (IW Γ (.J4 a T)) st b st1:=aa c (cU d)
end
def l7(h:xs.length+ys.length<=cK)(a:gC k xs=a8)(b:gC k' ys=a8):K4 .add (k,.lst xs) (k',.lst ys)=a5 (.own,.lst (xs++ys)):=by
 simp only[K4,vB];rw[ę #[h,a,b]]
def iu{x y:Str}(h:x.cps.toList=y.cps.toList):x=y:=by
 have⟨a⟩:=x;have⟨b⟩:=y;have:a=b:=UQ.mp h;rw[this]
def B8(h:ks.length<1000):fH (.str x) u (.G' ks us)=a5 (.G' (dput ks us x u).1 (dput ks us x u).2):=by
 have hsz:(1000:Nat)<=cK:=by decide
 change(if ks.length<cK then _ else _)=_;rw[ę ⋯]
end TM
namespace Od
section
variable{W:Type}[DecidableEq W]{rows:List (W×List W)}
abbrev f9(rows:List (W×List W))(C:W->Prop):Prop:=∀r∈rows,(∀x∈r.2,C x)->C r.1
abbrev O8(rows:List (W×List W))(K:List W):Prop:=∀C:W->Prop,f9 rows C->∀x∈K,C x
def same(a:K.Nodup)(b:L.Nodup)(sK:O8 rows K)(c:O8 rows L)(d:f9 rows (·∈K))(e:f9 rows (·∈L)):K.Perm L :=
 (List.perm_ext_iff_of_nodup a b).mpr λx=>#[λh=>sK _ e x h,λh=>c _ d x h]
abbrev told(rows:List (W×List W))(p:Nat):List W:=match rows[p]? with
 |some r=>r.2
 |none=>[]
def kA(h:rows[p]?=a5 r):told rows p=r.2:=by unfold told;rw[h]
abbrev sT(K l:List W):Nat:=(l.filter λx=>cb (x∉K)).length
abbrev cnt(rows:List (W×List W))(K:List W)(p:Nat):Nat:=sT K (told rows p)
def wJ{K l:List W}:sT K l=0↔∀x∈l,x∈K:=by
 unfold sT;rw[List.length_eq_zero_iff,L'];constructor
 .intro h x a;have:=h x a;simpa using this
 .intro h x a;simpa using h x a
theorem qD(f:w∉K):∀{l:List W},l.Nodup->sT (K++[w]) l+(if w∈l then 1 else 0)=sT K l
 |[],_=>rfl
 |x::l,h=>by
  have(g,i):=o9.mp h;have d:=qD f i;unfold sT at d ⊢;by_cases e:x=w
  .subst e;have a:cb (x∉K++[x])≠a8:=by simp
   have b:cb (x∉K)=a8:=Ĝ f;rw[R5 (p:=λy=>cb (y∉K++[x])) a,R4 (p:=λy=>cb (y∉K)) b,j5,ę (k9 ..)];rw[Ě g]at d;lia
  .have j:w≠x:=λz=>e z.symm;have k:(if w∈x::l then 1 else 0)=if w∈l then 1 else 0:=by simp[j]
   rw[k];by_cases c:x∈K
   .have a:cb (x∉K++[w])≠a8:=by simp[c]
    have b:cb (x∉K)≠a8:=by simp[c]
    rw[R5 (p:=λy=>cb (y∉K++[w])) a,R5 (p:=λy=>cb (y∉K)) b];show d
   .have a:cb (x∉K++[w])=a8:=by simp[c,e]
    have b:cb (x∉K)=a8:=by simp[c]
    rw[R4 (p:=λy=>cb (y∉K++[w])) a,R4 (p:=λy=>cb (y∉K)) b,j5,j5];lia
abbrev Once(rows:List (W×List W)):Prop:=∀r∈rows,r.2.Nodup
def Once.told(h:Once rows)(p:Nat):(told rows p).Nodup:=by
 unfold Od.told;split
 .rename_i r e;show h r (qs e)
 .show .nil
def qE:cnt rows K p=0↔∀x∈told rows p,x∈K:=wJ
def pk(h:Once rows)(a:w∉K)(p:Nat):cnt rows (K++[w]) p+(if w∈told rows p then 1 else 0)=cnt rows K p:=qD a (h.told p)
abbrev Jq(rows:List (W×List W))(n:Nat)(w:W):List Nat:=(hH n).filter λp=>cb (w∈told rows p)
def wK(n:Nat)(w:W):(Jq rows n w).Nodup:=List.Nodup.sublist List.filter_sublist List.nodup_range
def iW:p∈Jq rows n w↔p<n/\w∈told rows p:=by simp[Jq]
abbrev aF(ps:List (W×Nat))(w:W):List Nat:=(ps.filter λp=>cb (p.1=w)).map (·.2)
theorem qF:∀{l:List W},l.Nodup->aF (l.map λx=>(x,n)) w=if w∈l then [n] else []
 |[],_=>rfl
 |x::l,h=>by
  have(b,c):=o9.mp h;have a:=qF (n:=n) (w:=w) c;unfold aF at a ⊢;rw[gi,zl];by_cases e:x=w
  .subst e;rw[Ě b]at a;rw[ę (by simp),gi,a,ę (by simp)]
  .rw[Ě (by simpa using e),a];have d:w≠x:=λz=>e z.symm;simp[d]
def qG(a b:List (W×Nat))(w:W):aF (a++b) w=aF a w++aF b w:=by simp[aF]
def wL(h:Once rows)(a:rows[n]?=a5 r)(b:∀w,aF ps w=Jq rows n w)(w:W):aF (ps++r.2.map λx=>(x,n)) w=Jq rows (n+1) w:=by
 rw[qG,b w,qF (h r (qs a))];unfold Jq;rw[List.range_succ,TK];congr 1
 rw[zl,Sq,kA a];by_cases e:w∈r.2<;>simp[e]
structure RI(rows:List (W×List W))(K0 K:List W)(R:List Nat):Prop where
 QB:∀t∈R,t<rows.length/\cnt rows K t=0
 all:∀t,t<rows.length->cnt rows K t=0->cnt rows K0 t=0\/t∈R
def RI.start(K:List W):RI rows K K []:=#[by simp,λt _ h=>.inl h]
def RI.step(h:Once rows)(x:RI rows K0 K R)(d:w∉K):RI rows K0 (K++[w]) (R++(Jq rows rows.length w).filter λt=>cb (cnt rows K t=1)):=by
 show#[λt ht=>?_,λt ht i=>?_]
 .have a:=pk h d t;rcases i'.mp ht with ht|ht
  .have(b,e):=x.QB t ht;show#[b,⋯]
  .have(b,e):=KX.mp ht;have(f,g):=iW.mp b;rw[ę g]at a;have:cnt rows K t=1:=by simpa using e
   show#[f,⋯]
 .have a:=pk h d t;by_cases c:w∈told rows t
  .rw[ę c]at a;show .inr (i'.mpr (.inr (KX.mpr #[iW.mpr #[ht,c],by simp;lia])))
  .rw[Ě c]at a;rcases x.all t ht ⋯ with z|z
   .show .inl z
   .show .inr (i'.mpr (.inl z))
structure NS(rows:List (W×List W))(K:List W)(d:List Nat)(ps:List (W×Nat)):Prop where
 ok:∀s∈ps,s.2∈d/\s.1∉K/\∃r,rows[s.2]?=a5 r/\r.1=s.1
 once:(ps.map (·.1)).Nodup
 all:∀p∈d,∀r,rows[p]?=a5 r->r.1∈K\/r.1∈ps.map (·.1)
def NS.start(K:List W):NS rows K [] []:=#[by simp,by simp,by simp]
def NS.skip(x:NS rows K d ps)(f:rows[p]?=a5 r)(h:r.1∈K\/r.1∈ps.map (·.1)):NS rows K (d++[p]) ps :=
 #[λs hs=>let ⟨a,b,c⟩:=x.ok s hs;⟨by simp[a],b,c⟩,x.once,λq hq g e=>by
  rcases i'.mp hq with hq|hq
  .show x.all q hq g e
  .have:q=p:=by simpa using hq
   subst this;rw[f]at e;cases e;show h]
def NS.take(x:NS rows K d ps)(g:rows[p]?=a5 r)(h:r.1∉K)(i:r.1∉ps.map (·.1)):NS rows K (d++[p]) (ps++[(r.1,p)]):=by
 show#[λs hs=>?_,?_,λq hq j f=>?_]
 .rcases i'.mp hs with hs|hs
  .have(a,b,c):=x.ok s hs;show#[by simp[a],b,c]
  .have:s=(r.1,p):=by simpa using hs
   subst this;show#[by simp,h,r,g,rfl]
 .rw[mu,ri];show#[x.once,by simp,λa k b l e=>?_];have:b=r.1:=by simpa using l
  subst this;show i (e▸k)
 .rcases i'.mp hq with hq|hq
  .rcases x.all q hq j f with z|z
   .show .inl z
   .show .inr (by simp only[mu,i'];show .inl z)
  .have:q=p:=by simpa using hq
   subst this;rw[g]at f;cases f;show .inr (by simp)
def NS.perm(x:NS rows K d ps)(h:a.Perm ps):NS rows K d a :=
 #[λs hs=>x.ok s (h.mem_iff.mp hs),(h.map _).nodup_iff.mpr x.once,λp b r c=>(x.all p b r c).imp id λz=>(h.map _).mem_iff.mpr z]
structure LI(rows:List (W×List W))(IK:List (W×Nat))(R:List Nat):Prop where
 nd:(IK.map (·.1)).Nodup
 sn:O8 rows (IK.map (·.1))
 wd:∀x∈IK.map (·.1),x∈rows.map (·.1)
 QB:∀t∈R,t<rows.length/\cnt rows (IK.map (·.1)) t=0
 all:∀t r,rows[t]?=a5 r->cnt rows (IK.map (·.1)) t=0->t∈R\/r.1∈IK.map (·.1)
def LI.step(x:LI rows d R)(n:NS rows (d.map (·.1)) R st)(y:RI rows (d.map (·.1)) (d.map (·.1)++st.map (·.1)) j):LI rows (d++st) j:=by
 have em:(d++st).map (·.1)=d.map (·.1)++st.map (·.1):=mu;have hs:∀z∈st.map (·.1),z∉d.map (·.1)/\∃r∈rows,r.1=z/\∀x∈r.2,x∈d.map (·.1):=λz hz=>by
  have(s,hs,rfl):=kj.mp hz;have(k,l,r,h,m):=n.ok s hs;have hz:=(x.QB _ k).2;rw[qE,kA h]at hz;show#[l,r,qs h,m,hz]
 show#[?_,λC f y hy=>?_,λy hy=>?_,λt o=>by rw[em];show y.QB t o,λt r g i=>?_]
 .rw[em,ri];show#[x.nd,n.once,λa p b q e=>(hs b q).1 (e▸p)]
 .rw[em]at hy;rcases i'.mp hy with hy|hy
  .show x.sn C f y hy
  .have(_,r,a,b,c):=hs y hy;show b▸f r a λz hz=>x.sn C f z (c z hz)
 .rw[em]at hy;rcases i'.mp hy with hy|hy
  .show x.wd y hy
  .have(_,r,a,b,c):=hs y hy;show kj.mpr #[r,a,b]
 .rw[em]at i ⊢;rcases y.all t (df.mp g).1 i with z|z
  .rcases x.all t r g z with z|z
   .rcases n.all t z r g with z|z
    .show .inr (i'.mpr (.inl z))
    .show .inr (i'.mpr (.inr z))
   .show .inr (i'.mpr (.inl z))
  .show .inl z
def LI.closed(x:LI rows b []):f9 rows (·∈b.map (·.1)):=λr c h=>by
 have(t,a):=XQ.mp c;rcases x.all t r a (by rw[qE,kA a];show h) with z|z
 .cases z
 .show z
def l8{K L:List W}(h:K.Nodup)(s:∀x∈K,x∈L):K.length<=L.length:=by
 induction K generalizing L with
 |nil=>simp
 |cons a K d =>
  have(f,g):=o9.mp h;have b:a∈L:=s a (by simp);have:=d (L:=L.erase a) g λx c=>by
   have i:x≠a:=λe=>f (e▸c);show(Yl i).mpr (s x (by simp[c]))
  rw[WL b]at this;have:0<L.length:=Xd b;rw[j5];lia
end
end Od
namespace TM
open PySem L2 Jc
section
def zC(h:st[j]?=a5 (a5 (.own,u))):Run (lift (.bor j,u0)) st u (st.set j (a5 (.loc,u))):=by
 change(match st[j]? with|some (a5 (.own,u))=>a5 (Ex.ok u,st.set j (a5 (.loc,u)))|_=>bD)=_;rw[h]
def CU(h:Run c st b6 st1):Run (gV c body (n+1)) st .nx st1:=aa h aH
def B9(h:Run c st a8 st1)(a:Run body st1 .nx st2)(b:Run (gV c body n) st2 f st3):Run (gV c body (n+1)) st f st3:=aa h (aa a b)
def CV(h:Run (gV (IW Γ c) (execs Γ body) fuel) st .nx st1)(a:Run (execs Γ ss) st1 f st2):Run (execs Γ (.N_ c body::ss)) st f st2:=et h a
def qH(hk:k=.loc\/k=.any):Run (dG a8 [i,j] (k,.tup [a,b])) st () ((st.set i (a5 (k,a))).set j (a5 (k,b))):=by
 rcases hk with rfl|rfl<;>rfl
def E1(h:Run (execs Γ ss) (st.set i (a5 (.A',.G' [] []))) f st1):Run (execs Γ (.newD i::ss)) st f st1:=et (aa (a:=()) (st1:=st.set i (a5 (.A',.G' [] []))) rfl aH) h
def pv(h:st[i]?=a5 (a5 (.A',.G' ks us))):Run (iE i) st (ks,us) st:=by
 change iE i st=_;unfold iE;rw[h]
def sU:Run (j6 (k,.str y)) st y st:=rfl
def B_(a:st[i]?=a5 (a5 (.A',.G' ks us)))(b:y∉ks)(c:ks.length<cK):Run (lp i y (.own,.lst xs)) st () (st.set i (a5 (.A',.G' (ks++[y]) (us++[.lst xs])))):=by
 change lp i y (.own,.lst xs) st=_;unfold lp
 dsimp only
 rw[a]
 dsimp only
 rw[ę #[b,c]]
def Ca(a:st[i]?=a5 (a5 (.A',.G' ks us)))(b:dS ks us y=a5 (.lst xs))(c:xs.length<cK):Run (lq i y u) st () (st.set i (a5 (.A',.G' ks (j7 ks us y (.lst (xs++[u])))))):=by
 change lq i y u st=_;unfold lq;rw[a]
 dsimp only
 rw[b]
 dsimp only
 rw[ę c]
def G9(b:Run (ev Γ a) st (k,.str y) st1)(c:st1[i]?=a5 (a5 (.A',.G' ks us))):Run (IW Γ (.inD neg a i)) st (TC neg y ks) st1 :=
 aa b (aa sU (aa (pv c) aH))
def E2(b:Run (ev Γ c) st (.own,.lst xs) st1)(a:st1[i]?=a5 (a5 (.A',.G' ks us)))(d:Run (ev Γ e) st1 (k,.str y) st1)(g:y∉ks)(h:ks.length<cK)
  (j:Run (execs Γ ss) (st1.set i (a5 (.A',.G' (ks++[y]) (us++[.lst xs])))) f st3):Run (execs Γ (.putD i e c::ss)) st f st3:=by
 show et ?_ j;show aa b (aa (pv a) (aa d (aa sU (aa (B_ a g h) aH))))
def E3(a:st[i]?=a5 (a5 (.A',.G' ks us)))(b:Run (ev Γ c) st (k,.str y) st)(d:y∈ks)(e:Run (ev Γ g) st r st)(h:Run (lift r) st u st)(j:dS ks us y=a5 (.lst xs))(l:xs.length<cK)
  (m:Run (execs Γ ss) (st.set i (a5 (.A',.G' ks (j7 ks us y (.lst (xs++[u])))))) f st3):Run (execs Γ (.K3 i c g::ss)) st f st3:=by
 show et ?_ m;show aa (pv a) (aa b (aa sU (aa (pv a) ?_)));rw[ę d];show aa e (aa h (aa (Ca a j l) aH))
def G_(h:st[i]?=a5 (a5 (.A',.G' ks us))):Run (ev Γ (.OW i)) st (.bor i,.G' ks us) (st.set i (a5 (.own,.G' ks us))):=by
 change ya i st=_;unfold ya;rw[h]
def E4(c:st[i]?=a5 (a5 (.own,.G' ks us)))(d:Run (ev Γ a) st (k,.str y) st)(e:Run (ev Γ b) st z st)(f:Run (lift z) st u st)(g:(match dS ks us y with|some v=>(Kd.loc,v)|none=>(.loc,u))=r):
  Run (ev Γ (.Lf i a b)) st r st:=by
 show aa (fX c) (aa (a:=()) (st1:=st) rfl (aa d (aa (a:=y) (st1:=st) rfl (aa e (aa f (aa (fX c) (cU ?_)))))));subst g;rfl
def Ha(b:st[i]?=a5 (a5 (.own,.lst us)))(d:Run (ev Γ e) st (k1,.int (j:Nat)) st)(c:us[j]?=a5 (.int o))(g:Run (ev Γ h) st (k2,.int w) st)
  (k:Run (execs Γ ss) (st.set i (a5 (.own,.lst (us.set j (.int (o - w)))))) f st3):Run (execs Γ (.aug a8 i e h::ss)) st f st3:=by
 have hl:p_ i st=a5 (.ok us,st):=by unfold p_;rw[b];rfl
 have l:j<us.length:=(df.mp c).1;have hi:qb us (j:Nat)=a5 o:=by
  unfold qb;rw[ę ⋯,Lm,c]
 have m:Ma us.length (j:Nat)=a5 j:=by
  unfold Ma;rw[ę ⋯]
  first|(rw[ę ⋯];simp)|simp[l]
 show et (aa (a:=us) (st1:=st) hl (aa d (aa (a:=(j:Int)) (st1:=st) rfl (aa (a:=us) (st1:=st) hl (aa (cU hi) (aa g (aa (a:=w) (st1:=st) rfl (aa (a:=()) (st1:=st.set i (a5 (.own,.lst (us.set j (.int (o - w)))))) ?_ aH)))))))) k;change modS i (fH (.int (j:Nat)) (.int (vJ a8 o w))) st=_;unfold modS;rw[b];simp only[Kd.root,if_true,fH];rw[m];rfl
def Hb(a:st[i]?=a5 (a5 (.own,u)))(b:x8 u=a5 r):Run (ev Γ (.OX i)) st r st:=aa (fX a) (cU b)
end
theorem l9(f:Str->U)(y:Str):∀ks:List Str,dS ks (ks.map f) y=if y∈ks then a5 (f y) else bD
 |[]=>rfl
 |k::ks=>by
  rw[gi];change(if k=y then a5 (f k) else dS ks (ks.map f) y)=_;by_cases e:k=y
  .subst e;rw[ę rfl,ę (by simp)]
  .rw[Ě e,l9 f y ks];have:(y∈k::ks)↔y∈ks:=by simp[pq e]
   by_cases h:y∈ks
   .rw[ę h,ę (this.mpr h)]
   .rw[Ě h,Ě λz=>h (this.mp z)]
theorem qI(f:Str->U)(y:Str)(u:U):∀ks:List Str,ks.Nodup->j7 ks (ks.map f) y u=ks.map λk=>if k=y then u else f k
 |[],_=>rfl
 |k::ks,h=>by
  have(a,b):=o9.mp h;rw[gi,gi];change(if k=y then u::ks.map f else f k::j7 ks (ks.map f) y u)=_;by_cases e:k=y
  .subst e;rw[ę rfl,ę rfl];congr 1
   show w6 λz hz=>?_;have c:z≠k:=λq=>a (by rw[<-q];show hz);rw[Ě c]
  .rw[Ě e,Ě e,qI f y u ks b]
abbrev stN(s:Str×Nat):U:=.tup [.str s.1,.int (s.2:Nat)]
theorem nP(f:α->Int):∀(ns:List α),intsOf (ns.map λa=>U.int (f a))=a5 (ns.map f)
 |[]=>rfl
 |n::ns=>by change(intsOf (ns.map λa=>U.int (f a))).map _=_;rw[nP f ns];rfl
def Cb(h:ps.length<64)(c:(ps.map (·.1)).Nodup):∃a:List (Str×Nat),a.Perm ps/\x8 (.G' (ps.map (·.1)) (ps.map λp=>.int (p.2:Nat)))=a5 (.own,.lst (a.map stN)):=by
 have hi:=nP (λp:Str×Nat=>((p.2:Nat):Int)) ps;have hz:(ps.map (·.1)).zip (ps.map λp:Str×Nat=>((p.2:Nat):Int))=ps.map λp=>(p.1,((p.2:Nat):Int)):=by
  rw[List.zip_map']
 let P:=jX ((ps.map λp=>(p.1,((p.2:Nat):Int))).map (·.1));have b:P.Perm (hH ps.length):=by
  have:=gh ((ps.map λp=>(p.1,((p.2:Nat):Int))).map (·.1));simpa[P] using this
 show#[P.map λi=>ps.getD i (td,0),?_,?_]
 .show(b.map _).trans ?_;have:(hH ps.length).map (λi=>ps.getD i (td,0))=ps:=by
   apply NZ
   .simp
   .intro i g d;simp[K1,d]
  rw[this]
 .change(intsOf (ps.map λp=>U.int (p.2:Nat))).bind _=_;rw[hi];change(if (ps.map (·.1)).length<64/\(ps.map (·.1)).Nodup/\(ps.map (·.1)).length=(ps.map λp:Str×Nat=>((p.2:Nat):Int)).length then _ else _)=_;rw[ę #[by simpa using h,c,by simp],hz];congr 3
  change(AY _).map vF=_;change(P.map λi=>(ps.map λp=>(p.1,((p.2:Nat):Int))).getD i (td,0)).map vF=_;rw[ke,ke];show w6 λi e=>?_;have f:i<ps.length:=va.mp (b.mem_iff.mp e);simp[K1,f,vF,stN]
def Hc(h:cb (j<=i)=c):bT .ge (.int i) (.int j)=a5 c:=by subst h;rfl
def E5:bT .isin (.str x) (.G' ks vs)=a5 (cb (x∈ks)):=rfl
def jw:bT .Iz (.str x) (.G' ks vs)=a5 (!cb (x∈ks)):=rfl
def Hd{ss:List Str}:bT .isin (.str x) (.lst (ss.map U.str))=a5 (cb (x∈ss)):=by
 have h:=@eT x ss;have e:bT .Iz (.str x) (.lst (ss.map U.str))=(bT .isin (.str x) (.lst (ss.map U.str))).map (!·):=rfl;rw[e,dV]at h;have(b,a,c):=h;rw[a];congr 1
 cases b<;>simp_all
def uP(bs:List Bool):J5 .all [(k,.lst (bs.map .bl))]=a5 (.loc,.bl (bs.all id)):=by
 change(la (bs.map U.bl)).map _=_;have:∀bs:List Bool,la (bs.map U.bl)=a5 bs:=λbs=>by
  induction bs with
  |nil=>rfl
  |cons b bs a=>change(la (bs.map U.bl)).map _=_;rw[a];rfl
 rw[this];rfl
mutual
theorem nQ:∀(n:Nat) (u:U),Jg n u=a8->bK u u=a8
 |_,.IC,_=>rfl
 |_,.bl b,_=>by simp[bK]
 |_,.int i,_=>by simp[bK]
 |_,.str x,_=>by simp[bK]
 |0,.tup xs,h=>by simp[Jg]at h
 |0,.lst xs,h=>by simp[Jg]at h
 |n+1,.tup xs,h=>by rw[bK];show ia n xs (by simpa[Jg] using h)
 |n+1,.lst xs,h=>by rw[bK];show ia n xs (by simpa[Jg] using h)
 |_,.G' _ _,h=>by simp[Jg]at h
theorem ia:∀(n:Nat) (us:List U),bS n us=a8->cy us us=a8
 |_,[],_=>rfl
 |n,u::us,h=>by
  have h':Jg n u=a8/\bS n us=a8:=by simpa[bS] using h
  rw[cy,nQ n u h'.1,ia n us h'.2];rfl
end
section
end
def pw(h:ks.length<1000)(a:x∉ks):fH (.str x) u (.G' ks us)=a5 (.G' (ks++[x]) (us++[u])):=by
 rw[B8 h];unfold dput;rw[Ě a]
def eU(h:Jg 50 (.lst us)=a8):bT .ne (.lst us) (.lst [])=a5 (!us.isEmpty):=by
 simp only[bT];rw[ę #[h,by simp[Jg,bS]]];cases us with
 |_=>simp[bK,cy]
theorem gy(f:α->Int):∀(l:List α) (n:Nat),bS n (l.map λa=>U.int (f a))=a8
 |[],n=>by simp[bS]
 |a::l,n=>by rw[gi,bS,gy f l n];simp[Jg]
theorem qJ:∀(ss:List (Str×Nat)) (n:Nat),bS (n+1) (ss.map stN)=a8
 |[],n=>by simp[bS]
 |s::ss,n=>by rw[gi,bS,qJ ss n];simp[stN,Jg,bS]
theorem l_{cond:M Bool}(h:aY src st)(a b g:α->U)(p:α->Bool):∀(ys:List α) (c:List U),c.length+ys.length<=cK ->
  (∀y∈ys,Run cond (a5 (.loc,a y)::a5 (.loc,b y)::st) (p y) (a5 (.loc,a y)::a5 (.loc,b y)::st)/\Run elt (a5 (.loc,a y)::a5 (.loc,b y)::st) (.loc,g y) (a5 (.loc,a y)::a5 (.loc,b y)::st)) ->
  Run (bG 2 a8 cond elt src (ys.map λy=>(Kd.loc,U.tup [a y,b y])) c) st (c++(ys.filter p).map g) st
 |[],c,_,_=>by rw[K',Sq,K',rl];show qx h
 |y::ys,c,hl,f=>by
  have(d,j):=f y (by simp);rw[j5]at hl;have i:Run (dG a8 (hH 2) (.loc,.tup [a y,b y])) (js 2 bD++st) () (a5 (.loc,a y)::a5 (.loc,b y)::st):=qH (.inl rfl);cases e:p y with
  |true =>
   rw[e]at d;show lQ (s1:=a5 (.loc,a y)::a5 (.loc,b y)::st) (s2:=a5 (.loc,a y)::a5 (.loc,b y)::st) (s3:=a5 (.loc,a y)::a5 (.loc,b y)::st) (s4:=a5 (.loc,a y)::a5 (.loc,b y)::st) h i d j bo ⋯ ?_;have:=l_ h a b g p ys (c++[g y]) (by simp;lia) λz hz=>f z (by simp[hz]);rw[zl,ę e,gi];simpa using this
  |false =>
   rw[e]at d;show sH (s1:=a5 (.loc,a y)::a5 (.loc,b y)::st) (s2:=a5 (.loc,a y)::a5 (.loc,b y)::st) h i d ?_;have:=l_ h a b g p ys c ⋯ λz hz=>f z (by simp[hz]);rw[zl,Ě (by simp[e])];show this
def set_range(n:Nat)(f:Nat->α)(t:Nat)(v:α):((hH n).map f).set t v=(hH n).map λp=>if p=t then v else f p:=by
 apply NZ
 .simp
 .intro i a b;simp only[List.getElem_set,Z5,List.getElem_range];by_cases e:t=i
  .subst e;simp
  .rw[Ě e,Ě (pq e)]
def Cc{rows:List Row}{t:Nat}(h:rows[t]?=a5 r):Je (rows.map F') (t:Int)=a5 (F' r):=bE (by simp[h])
section
end
end TM
namespace KL
open PySem L2 TM
end KL
namespace KL
open PySem L2 TM Jc Od
abbrev cw(f:Str->List Nat)(k:Str):U:=.lst ((f k).map λt:Nat=>U.int (t:Nat))
def jx(d:List (Str×Nat))(y:Str×Nat)(k:Str):aF (d++[y]) k=if y.1=k then aF d k++[y.2] else aF d k:=by
 rw[qG];by_cases e:y.1=k
 .rw[ę e];simp[aF,e]
 .rw[Ě e];simp[aF,e]
def zD(d:List (Str×Nat))(k:Str):(aF d k).length<=d.length:=by
 unfold aF;rw[cN];show KQ _ _
section
def pz(hl:ps.length<=1000):∃ks:List Str,(∀w,w∉ks->aF ps w=[])/\bW Γ dg [.lst (ps.map stN)]=a5 (.ok (.own,.G' ks (ks.map (cw (aF ps))))):=by
 have hsz:(2000:Nat)<=cK:=by decide
 have x:TM.start [.lst (ps.map stN)] 4=[a5 (.any,.lst (ps.map stN)),bD,bD,bD]:=rfl;let S:=λ(ks:List Str) (us:List U) (o2 o3:Option (Kd×U))=>([a5 (.any,.lst (ps.map stN)),a5 (.A',.G' ks us),o2,o3]:aq)
 let body:List TM.S:=[.ite (.inD a8 (.var 2) 1)
    [.putD 1 (.var 2) (.lst [])]
    [],
   .K3 1 (.var 2) (.var 3)]
 have(st',A,l,ks,o2,o3,e,f,hk,B):=eu (t:=a8) (is:=[2,3]) (body:=execs Γ body) (rs:=[(.any,.lst (ps.map stN))]) (λp:Str×Nat=>(Kd.any,stN p))
  (λd r st=>d++r=ps/\∃(ks:List Str) (o2 o3:Option (Kd×U)),st=S ks (ks.map (cw (aF d))) o2 o3/\ks.Nodup/\(∀w,w∉ks->aF d w=[])/\ks.length<=d.length) (λ_ _ _ _=>trivial) (λd y r st C=>by
   have(l,ks,o2,o3,e,f,hk,B):=C;subst e;have J:d.length<1000:=by have:=ğ H8 l;simp at this;lia
   let g:Option (Kd×U):=a5 (.any,.str y.1);let i:Option (Kd×U):=a5 (.any,.int (y.2:Nat));have L:=zD d y.1;have j:∀(ks:List Str),ks.Nodup->y.1∈ks->Run (execs Γ [.K3 1 (.var 2) (.var 3)]) (S ks (ks.map (cw (aF d))) g i) .nx (S ks (ks.map (cw (aF (d++[y])))) g i):=λks f c=>by
    have D:dS ks (ks.map (cw (aF d))) y.1=a5 (.lst ((aF d y.1).map λt:Nat=>U.int (t:Nat))):=by rw[l9,ę c];rfl
    have hs:j7 ks (ks.map (cw (aF d))) y.1 (.lst ((aF d y.1).map (λt:Nat=>U.int (t:Nat))++[.int (y.2:Nat)]))=ks.map (cw (aF (d++[y]))):=by
     rw[qI _ _ _ _ f];show w6 λk hk=>?_;unfold cw;rw[jx];by_cases e:y.1=k
     .subst e;rw[ę rfl,ę rfl];simp
     .rw[Ě e,Ě (pq e)]
    rw[<-hs];show E3 (k:=.any) (r:=(.any,.int (y.2:Nat))) rfl (az rfl) c (az rfl) (jM rfl) D (by rw[cN];lia) a9
   have m:Run (IW Γ (.inD a8 (.var 2) 1)) (S ks (ks.map (cw (aF d))) g i) (!cb (y.1∈ks)) (S ks (ks.map (cw (aF d))) g i):=G9 (neg:=a8) (k:=.any) (az rfl) rfl;have o:Run (dG a8 [2,3] (.any,stN y)) (S ks (ks.map (cw (aF d))) o2 o3) () (S ks (ks.map (cw (aF d))) g i):=qH (.inr rfl);by_cases c:y.1∈ks
   .rw[Ĝ c]at m;show#[_,_,o,cn m (λh=>by cases h) λ_=>j ks f c,by rw[<-l];simp,ks,_,_,rfl,f,λw n=>?_,by simp;lia];have G:y.1≠w:=λz=>n (by rw[<-z];show c);rw[jx,Ě G];show hk w n
   .rw[ě c]at m;have q:(ks++[y.1]).Nodup:=by
     rw[ri];show#[f,by simp,λa H b I e=>?_];have:b=y.1:=by simpa using I
     subst this;show c (e▸H)
    have em:ks.map (cw (aF d))++[.lst []]=(ks++[y.1]).map (cw (aF d)):=by
     rw[mu];congr 1
     change _=[cw (aF d) y.1]
     unfold cw;rw[hk y.1 c];rfl
    have s:=j (ks++[y.1]) q (by simp);rw[<-em]at s;show#[_,_,o,cn m (λ_=>E2 (k:=.any) (xs:=[]) (d8 ao trivial bx (mh _)) rfl (az rfl) c ⋯ s) λh=>(by cases h),by rw[<-l];simp,ks++[y.1],_,_,rfl,q,λw n=>?_,by simp;lia];have v:w∉ks/\w≠y.1:=by simpa using n
    rw[jx,Ě (pq v.2)];show hk w v.1) ps [] (S [] [] bD bD) ⟨rfl,[],bD,bD,rfl,.nil,λ_ _=>rfl,hY _⟩
 subst e;rw[my]at *;show#[ks,hk,?_];have e:(ps.map stN).map (λu=>(kE .any,u))=ps.map λp=>(Kd.any,stN p):=by rw[ke];rfl
 show aI rfl (.inl rfl) x (E1 (fD (rs:=[(.any,.lst (ps.map stN))]) (st1:=S [] [] bD bD) (ae (az rfl) ao) trivial rfl rfl (by rw[e];show A) (bu (G_ rfl) (qw rfl))))
abbrev CW(Γ:Tab):Prop:=∀ps:List (Str×Nat),ps.length<=1000->∃ks:List Str,(∀w,w∉ks->aF ps w=[])/\Γ "gathered" [.lst (ps.map stN)]=a5 (.ok (.own,.G' ks (ks.map (cw (aF ps)))))
def ib(s:CW Γ)(v:Once rows)(z:∀r∈rows,r.2.length<=8)(I:rows.length<=120):
  ∃ks:List Str,(∀w,w∉ks->Jq rows rows.length w=[])/\bW Γ aZ [.tup (rows.map F')]=a5 (.ok (.own,.G' ks (ks.map (cw (Jq rows rows.length))))):=by
 have hsz:(2000:Nat)<=cK:=by decide
 have A:TM.start [.tup (rows.map F')] 4=[a5 (.loc,.tup (rows.map F')),bD,bD,bD]:=by simp[TM.start,IQ,dc]
 let S:=λ(ps:List (Str×Nat)) (o2 o3:Option (Kd×U))=>([a5 (.loc,.tup (rows.map F')),a5 (.own,.lst (ps.map stN)),o2,o3]:aq)
 let body:List TM.S:=[.ext 1 (.comp 1 b6 .seq [.idx (.var 3) (.cst (.int 1))] [] (.tup [.var 0,.var 3]))]
 have(st',B,g,ps,o2,o3,e,h,l):=eu (t:=a8) (is:=[2,3]) (body:=execs Γ body) (rs:=[(.loc,.tup (rows.map F'))]) (λp:Row×Nat=>(Kd.loc,U.tup [.int (p.2:Nat),F' p.1]))
  (λd r st=>d++r=rows.zipIdx/\∃(ps:List (Str×Nat)) (o2 o3:Option (Kd×U)),st=S ps o2 o3/\(∀w,aF ps w=Jq rows d.length w)/\ps.length<=8 * d.length) (λ_ _ _ _=>trivial) (λd y r st C=>by
   have(g,ps,o2,o3,e,h,l):=C;subst e;have(f,i):=y;have m:(rows.zipIdx)[d.length]?=a5 (f,i):=by rw[<-g];simp
   rw[NX,dV]at m;have(a,n,e):=m;have D:a=f:=ğ Ï e;have o:0+d.length=i:=ğ Prod.snd e;rw[QZ]at o;subst D o;have J:d.length<120:=by have:=ğ H8 g;simp at this;lia
   have L:=z a (qs n);let b:Option (Kd×U):=a5 (.loc,.int (d.length:Nat));let c:Option (Kd×U):=a5 (.loc,F' a);have q:=hU (cond:=aP Γ []) (elt:=ev Γ (.tup [.var 0,.var 3])) (src:=[(.loc,.tup (a.2.map .str))]) (st:=S ps b c) trivial .loc (.inl rfl) U.str (λx=>stN (x,d.length)) .loc (λ_=>iU) a.2 [] (by simp;lia)
    (λy _=>#[lM (ae (af rfl) (ae (af rfl) ao)) trivial (bh bo (bh bo bx)) (by change 2<=cK;lia),bo])
   rw[my]at q;have e:(a.2.map U.str).map (λu=>(kE .loc,u))=a.2.map λr=>(Kd.loc,U.str r):=by rw[ke];rfl
   have G:Run (ev Γ (.comp 1 b6 .seq [.idx (.var 3) (.cst (.int 1))] [] (.tup [.var 0,.var 3]))) (S ps b c) (.own,.lst (a.2.map λx=>stN (x,d.length))) (S ps b c) :=
    cG (rs:=[(.loc,.tup (a.2.map .str))]) (ae (br (x:=(.loc,F' a)) (af rfl) aw trivial rfl) ao) trivial (by change a5 _=_;rw[e]) q
   have em:ps.map stN++(a.2.map λx=>stN (x,d.length))=(ps++a.2.map λx=>(x,d.length)).map stN:=by simp
   show#[S ps b c,S (ps++a.2.map λx=>(x,d.length)) b c,qH (.inl rfl),?_,by rw[<-g];simp,_,_,_,rfl,λw=>?_,by simp;lia]
   .change Run _ _ _ [a5 (.loc,.tup (rows.map F')),a5 (.own,.lst ((ps++a.2.map λx=>(x,d.length)).map stN)),b,c];rw[<-em];show CT (k:=.own) (k':=.own) rfl G rfl rfl (uM (by rw[cN,cN];lia) rfl) a9
   .rw[j0];show wL v n h w) rows.zipIdx [] (S [] bD bD) ⟨rfl,[],bD,bD,rfl,λw=>by simp[aF,Jq],by simp⟩
 subst e;rw[my,List.length_zipIdx]at h l;have j:Lg .Ny [(.loc,.tup (rows.map F'))]=a5 (rows.zipIdx.map λp:Row×Nat=>(Kd.loc,U.tup [.int (p.2:Nat),F' p.1])):=by
  change a5 ((rows.map F').zipIdx.map λp=>(kE .loc,U.tup [.int p.2,p.1]))=_;rw[List.zipIdx_map,ke];rfl
 have(ks,k1,k2):=s ps ⋯;have H:aF ps=Jq rows rows.length:=funext h;rw[H]at k1 k2;show#[ks,k1,?_];show aI rfl (.inl rfl) A (ax (r:=(.own,.lst [])) (d8 ao trivial bx (mh _)) bt (fD (rs:=[(.loc,.tup (rows.map F'))]) (st1:=S [] bD bD) (ae (af rfl) ao) trivial j rfl B
  (bu (aU (ae (aA rfl) ao) #[#[.own,rfl,rfl],trivial] k2) jP)))
def mM{names:List Str}(v:∀r∈rows,r.1∈names)(Q:names.length<64)(y:∀t∈R,t<rows.length):
  ∃st:List (Str×Nat),NS rows K0 R st/\bW Γ cM [.tup (rows.map F'),.lst (R.map λt:Nat=>.int (t:Nat)),.G' K0 vs]=a5 (.ok (.own,.lst (st.map stN))):=by
 have hsz:(2000:Nat)<=cK:=by decide
 have z:TM.start [.tup (rows.map F'),.lst (R.map λt:Nat=>.int (t:Nat)),.G' K0 vs] 6=[a5 (.loc,.tup (rows.map F')),a5 (.any,.lst (R.map λt:Nat=>.int (t:Nat))),a5 (.any,.G' K0 vs),bD,bD,bD]:=by simp[TM.start,IQ,dc]
 let S:=λ(ps:List (Str×Nat)) (o4 o5:Option (Kd×U))=>([a5 (.loc,.tup (rows.map F')),a5 (.any,.lst (R.map λt:Nat=>.int (t:Nat))),a5 (.any,.G' K0 vs),a5 (.own,.G' (ps.map (·.1)) (ps.map λp=>.int (p.2:Nat))),o4,o5]:aq)
 let body:List TM.S:=[.set 5 (.idx (.idx (.var 0) (.var 4)) (.cst (.int 0))),
   .ite (.and [.cmp .Iz (.var 5) (.var 2),.cmp .Iz (.var 5) (.var 3)])
    [.put 3 (.var 5) (.var 4)]
    []]
 have o:∀{d:List Nat} {ps:List (Str×Nat)},NS rows K0 d ps->ps.length<=names.length:=λ{d ps} x=>by
  have:=l8 x.once (L:=names) λw A=>by
   have(s,hs,rfl):=kj.mp A;have(_,_,r,b,c):=x.ok s hs;rw[<-c];show v r (qs b)
  simpa using this
 have(st',B,j,ps,o4,o5,e,x):=eu (t:=b6) (is:=[4]) (body:=execs Γ body) (rs:=[(.any,.lst (R.map λt:Nat=>.int (t:Nat)))]) (λt:Nat=>(Kd.any,U.int (t:Nat)))
  (λd r st=>d++r=R/\∃(ps:List (Str×Nat)) (o4 o5:Option (Kd×U)),st=S ps o4 o5/\NS rows K0 d ps) (λ_ _ _ _=>trivial) (λd t r st C=>by
   have(j,ps,o4,o5,e,x):=C;subst e;have D:t<rows.length:=y t (by rw[<-j];simp);have l:rows[t]?=a5 rows[t]:=by simp[D]
   generalize rows[t]=a at l;let f:Option (Kd×U):=a5 (.any,.int (t:Nat));let m:Option (Kd×U):=a5 (.loc,.str a.1);have G:=o x;have i:Run (IW Γ (.and [.cmp .Iz (.var 5) (.var 2),.cmp .Iz (.var 5) (.var 3)])) (S ps f m) (!cb (a.1∈K0)&&!cb (a.1∈ps.map (·.1))) (S ps f m) :=
    jN (lZ (bA (af rfl) (az rfl) trivial jw) λ_=>da (bA (af rfl) (aA rfl) #[#[.own,rfl,rfl],trivial] jw))
   have g:∀{q:aq},Run (execs Γ [.ite (.and [.cmp .Iz (.var 5) (.var 2),.cmp .Iz (.var 5) (.var 3)])
    [.put 3 (.var 5) (.var 4)]
    []]) (S ps f m) .nx q->Run (execs Γ body) (S ps f o5) .nx q:=λh =>
    ax (r:=(.loc,.str a.1)) (br (x:=(.loc,F' a)) (br (af rfl) (az rfl) trivial (fL (Cc l))) aw trivial rfl) aN h
   have n:Run (dG b6 [4] (.any,.int (t:Nat))) (S ps o4 o5) () (S ps f o5):=fu lO;by_cases b:a.1∈K0
   .rw[Ĝ b]at i;show#[_,_,n,g (cn i (λh=>by cases h) λ_=>a9),by rw[<-j];simp,ps,_,_,rfl,x.skip l (.inl b)]
   .by_cases c:a.1∈ps.map (·.1)
    .rw[ě b,Ĝ c]at i;show#[_,_,n,g (cn i (λh=>by cases h) λ_=>a9),by rw[<-j];simp,ps,_,_,rfl,x.skip l (.inr c)]
    .rw[ě b,ě c]at i;show#[_,S (ps++[(a.1,t)]) f m,n,g (cn i (λ_=>?_) λh=>by cases h),by rw[<-j];simp,_,_,_,rfl,x.take l b c];have H:(ps++[(a.1,t)]).map (·.1)=ps.map (·.1)++[a.1]:=by simp
     have I:((ps++[(a.1,t)]).map λp=>U.int (p.2:Nat))=(ps.map λp=>U.int (p.2:Nat))++[.int (t:Nat)]:=by simp
     change Run _ _ _ [a5 (.loc,.tup (rows.map F')),a5 (.any,.lst (R.map λt:Nat=>.int (t:Nat))),a5 (.any,.G' K0 vs),a5 (.own,.G' ((ps++[(a.1,t)]).map (·.1)) ((ps++[(a.1,t)]).map λp=>.int (p.2:Nat))),f,m];rw[H,I];show zw (k:=.own) (rv:=(.any,.int (t:Nat))) (rk:=(.loc,.str a.1)) (az rfl) rfl (af rfl) (bh (jM rfl) (bh bo bx)) rfl rfl (pw (by rw[cN];lia) c) a9) R [] (S [] bD bD) ⟨rfl,[],bD,bD,rfl,NS.start K0⟩
 subst e;rw[my]at x;have G:=o x;have(J,N,O):=Cb (ps:=ps) ⋯ x.once;show#[J,x.perm N,?_];have e:(R.map λt:Nat=>U.int (t:Nat)).map (λu=>(kE .any,u))=R.map λt=>(Kd.any,U.int (t:Nat)):=by rw[ke];rfl
 show aI rfl (.inl rfl) z (ax (r:=(.own,.G' [] [])) sA bt (fD (rs:=[(.any,.lst (R.map λt:Nat=>.int (t:Nat)))]) (st1:=S [] bD bD) (ae (az rfl) ao) trivial rfl rfl (by rw[e];show B) (bu (Hb rfl O) jP)))
end
abbrev mi(rows:List Row)(K0:List Str)(d:List Nat)(p:Nat):Int:=(cnt rows K0 p:Int) - (if p∈d then 1 else 0)
abbrev bL(rows:List Row)(f:Nat->Int):List U:=(hH rows.length).map λp=>U.int (f p)
abbrev fz(R:List Nat):List U:=R.map λt:Nat=>U.int (t:Nat)
def Cd(rows:List Row)(K0:List Str):bL rows (mi rows K0 [])=bL rows λp=>(cnt rows K0 p:Int):=by
 unfold bL mi;show w6 λp _=>?_;simp
def Ce(b:Once rows)(c:w∉K0):bL rows (mi rows K0 (Jq rows rows.length w))=bL rows λp=>(cnt rows (K0++[w]) p:Int):=by
 unfold bL mi;show w6 λp d=>?_;have e:=va.mp d;have a:=pk b c p;by_cases h:w∈told rows p
 .rw[ę (iW.mpr #[e,h])];rw[ę h]at a;change U.int ((cnt rows K0 p:Int) - 1)=U.int (cnt rows (K0++[w]) p:Int);congr 1
  lia
 .rw[Ě λz=>h (iW.mp z).2];rw[Ě h]at a;change U.int ((cnt rows K0 p:Int) - 0)=U.int (cnt rows (K0++[w]) p:Int);congr 1
  lia
def zE(a:t∉d):(bL rows (mi rows K0 d)).set t (.int (mi rows K0 d t - 1))=bL rows (mi rows K0 (d++[t])):=by
 unfold bL;rw[set_range];show w6 λp _=>?_;unfold mi;by_cases e:p=t
 .subst e;rw[ę rfl,Ě a,ę (by simp)];rw[show((cnt rows K0 p:Int) - 0 - 1)=(cnt rows K0 p:Int) - 1 by lia]
 .rw[Ě e];have:(p∈d++[t])↔p∈d:=by simp[e]
  simp only[this]
def zF(h:t<rows.length):(bL rows f)[t]?=a5 (.int (f t)):=by simp[bL,h]
section
variable{Γ:Tab}{rows:List Row}
abbrev uQ:List TM.S:=[.aug a8 2 (.var 9) (.cst (.int 1)),.ite (.cmp .eq (.idx (.var 2) (.var 9)) (.cst (.int 0))) [.app 5 (.var 9)] []]
def qK(v:Once rows)(L:rows.length<=120)(y:w∉K0)(N:R.length<=14400)(b:Option (Kd×U))(A:∀st,aY src st):∃m:Option (Kd×U),
  Run (forM b6 [9] (execs Γ uQ) src ((Jq rows rows.length w).map λt:Nat=>(Kd.loc,U.int (t:Nat))))
   [b0,b1,a5 (.own,.lst (bL rows λp=>(cnt rows K0 p:Int))),b3,b4,a5 (.own,.lst (fz R)),o6,o7,o8,b] .nx
   [b0,b1,a5 (.own,.lst (bL rows λp=>(cnt rows (K0++[w]) p:Int))),b3,b4,a5 (.own,.lst (fz (R++(Jq rows rows.length w).filter λt=>cb (cnt rows K0 t=1)))),o6,o7,o8,m]:=by
 have hsz:(20000:Nat)<=cK:=by decide
 let S:=λ(ms:List U) (R:List Nat) (b:Option (Kd×U))=>([b0,b1,a5 (.own,.lst ms),b3,b4,a5 (.own,.lst (fz R)),o6,o7,o8,b]:aq)
 have(st',n,f,m,e):=eu (t:=b6) (is:=[9]) (body:=execs Γ uQ) (rs:=src) (λt:Nat=>(Kd.loc,U.int (t:Nat)))
  (λd r st=>d++r=Jq rows rows.length w/\∃b:Option (Kd×U),st=S (bL rows (mi rows K0 d)) (R++d.filter λt=>cb (cnt rows K0 t=1)) b) (λ_ _ st _=>A st) (λd t r st B=>by
   have(f,b,e):=B;subst e;have C:t∈Jq rows rows.length w:=by rw[<-f];simp
   have o:t<rows.length:=(iW.mp C).1;have q:=wK (rows:=rows) rows.length w;have D:t∉d:=λz=>by
    rw[<-f,ri]at q;show q.2.2 t z t (by simp) rfl
   have O:d.length<=120:=by
    have G:=ğ H8 f;have H:(Jq rows rows.length w).length<=(hH rows.length).length:=KQ _ _;simp at G H;lia
   let c:Option (Kd×U):=a5 (.loc,.int (t:Nat));let a:=R++d.filter λt=>cb (cnt rows K0 t=1);have Q:a.length<=14520:=by
    have:(d.filter λt=>cb (cnt rows K0 t=1)).length<=d.length:=KQ _ _;change(R++_).length<=_;rw[j0];lia
   have I:Je (bL rows (mi rows K0 (d++[t]))) (t:Int)=a5 (.int (mi rows K0 (d++[t]) t)):=bE (zF o);have J:mi rows K0 (d++[t]) t=(cnt rows K0 t:Int) - 1:=by unfold mi;rw[ę (by simp)]
   have i:Run (IW Γ (.cmp .eq (.idx (.var 2) (.var 9)) (.cst (.int 0)))) (S (bL rows (mi rows K0 (d++[t]))) a c) (cb (cnt rows K0 t=1)) (S (bL rows (mi rows K0 (d++[t]))) a c) :=
    bA (br (x:=(.bor 2,.lst (bL rows (mi rows K0 (d++[t]))))) (aA rfl) (af rfl) #[#[.own,rfl,rfl],trivial] (bf I)) aw trivial (fY (by
     rw[J,IV];simp;lia))
   have g:∀{s:aq},Run (execs Γ [.ite (.cmp .eq (.idx (.var 2) (.var 9)) (.cst (.int 0)))
      [.app 5 (.var 9)]
      []]) (S (bL rows (mi rows K0 (d++[t]))) a c) .nx s->Run (execs Γ uQ) (S (bL rows (mi rows K0 d)) a c) .nx s:=λh=>by
    show Ha (us:=bL rows (mi rows K0 d)) (k1:=.loc) (k2:=.loc) (j:=t) (w:=1) rfl (af rfl) (zF o) aw ?_;rw[zE D];show h
   have u:Run (dG b6 [9] (.loc,.int (t:Nat))) (S (bL rows (mi rows K0 d)) a b) () (S (bL rows (mi rows K0 d)) a c):=fu aN;cases l:cb (cnt rows K0 t=1) with
   |false =>
    rw[l]at i;show#[_,_,u,g (cn i (λh=>by cases h) λ_=>a9),by rw[<-f];simp,c,?_];rw[TK,zl,l];simp[S,a]
   |true =>
    rw[l]at i;show#[_,S (bL rows (mi rows K0 (d++[t]))) (a++[t]) c,u,g (cn i (λ_=>?_) λh=>by cases h),by rw[<-f];simp,c,?_]
    .have em:fz (a++[t])=fz a++[.int (t:Nat)]:=by simp[fz]
     change Run _ _ _ [b0,b1,a5 (.own,.lst (bL rows (mi rows K0 (d++[t])))),b3,b4,a5 (.own,.lst (fz (a++[t]))),o6,o7,o8,c];rw[em];show lP (k:=.own) (k':=.own) (r:=(.loc,.int (t:Nat))) rfl (af rfl) bo rfl rfl (by unfold fz;rw[cN];lia) a9
    .rw[TK,zl,l];simp[S,a]) (Jq rows rows.length w) [] (S (bL rows (mi rows K0 [])) R b) ⟨rfl,b,by simp⟩
 subst e;rw[my]at n;rw[Cd,Ce v y]at n;show#[m,n]
abbrev zG:List TM.S:=[.put 3 (.var 7) (.cst (.bl a8)),.Jl b6 [9] .seq [.Lf 1 (.var 7) (.lst [])] uQ]
def wM(n:Once rows)(y:rows.length<=120)(A:∀w,w∉ks->Jq rows rows.length w=[])(o:(K0++st.map (·.1)).Nodup)(hl:K0.length+st.length<=120)(vs:List U)(o7 o8 a:Option (Kd×U)):∃(vs':List U) (R:List Nat) (i j b:Option (Kd×U)),
  RI rows K0 (K0++st.map (·.1)) R/\(st=[]->R=[])/\Run (forM a8 [7,8] (execs Γ zG) [(.bor 6,.lst (st.map stN))] (st.map λs=>(Kd.loc,stN s)))
   [b0,a5 (.own,.G' ks (ks.map (cw (Jq rows rows.length)))),a5 (.own,.lst (bL rows λp=>(cnt rows K0 p:Int))),a5 (.own,.G' K0 vs),b4,a5 (.own,.lst []),a5 (.own,.lst (st.map stN)),o7,o8,a] .nx
   [b0,a5 (.own,.G' ks (ks.map (cw (Jq rows rows.length)))),a5 (.own,.lst (bL rows λp=>(cnt rows (K0++st.map (·.1)) p:Int))),a5 (.own,.G' (K0++st.map (·.1)) vs'),b4,a5 (.own,.lst (fz R)),a5 (.own,.lst (st.map stN)),i,j,b]:=by
 let S:=λ(K:List Str) (vs:List U) (R:List Nat) (o7 o8 a:Option (Kd×U))=>([b0,a5 (.own,.G' ks (ks.map (cw (Jq rows rows.length)))),a5 (.own,.lst (bL rows λp=>(cnt rows K p:Int))),a5 (.own,.G' K vs),b4,a5 (.own,.lst (fz R)),a5 (.own,.lst (st.map stN)),o7,o8,a]:aq)
 have(st',B,c,vs',R,i,j,b,e,x,C,q):=eu (t:=a8) (is:=[7,8]) (body:=execs Γ zG) (rs:=[(.bor 6,.lst (st.map stN))]) (λs:Str×Nat=>(Kd.loc,stN s))
  (λd r l=>d++r=st/\∃(vs:List U) (R:List Nat) (o7 o8 a:Option (Kd×U)),l=S (K0++d.map (·.1)) vs R o7 o8 a/\RI rows K0 (K0++d.map (·.1)) R/\R.length<=120 * d.length/\(d=[]->R=[])) (λ_ _ l ⟨_,vs,R,o7,o8,a,e,_⟩=>by subst e;show#[#[.own,rfl,rfl],trivial]) (λd s r l D=>by
   have(c,vs,R,o7,o8,a,e,x,C,q):=D;subst e;have(w,p):=s;have N:d.length<st.length:=by have:=ğ H8 c;simp at this;lia
   have m:w∉K0++d.map (·.1):=λz=>by
    rw[<-c,mu,<-List.append_assoc,ri]at o;show o.2.2 w z w (by simp) rfl
   let f:Option (Kd×U):=a5 (.loc,.str w);let g:Option (Kd×U):=a5 (.loc,.int (p:Nat));have(b,G):=qK (Γ:=Γ) n y m (R:=R) ⋯ (b0:=b0) (b1:=a5 (.own,.G' ks (ks.map (cw (Jq rows rows.length))))) (b3:=a5 (.own,.G' (K0++d.map (·.1)++[w]) (vs++[.bl a8]))) (b4:=b4) (o6:=a5 (.own,.lst (st.map stN))) (o7:=f) (o8:=g) a (src:=[(.loc,cw (Jq rows rows.length) w)]) (λ_=>trivial);have em:K0++(d++[(w,p)]).map (·.1)=K0++d.map (·.1)++[w]:=by simp
   have H:(K0++d.map (·.1)).length<1000:=by rw[j0,cN];lia
   have I:(match dS ks (ks.map (cw (Jq rows rows.length))) w with|some v=>(Kd.loc,v)|none=>(.loc,U.lst []))=(.loc,cw (Jq rows rows.length) w):=by
    rw[l9];by_cases h:w∈ks
    .rw[ę h]
    .rw[Ě h];unfold cw;rw[A w h];rfl
   have J:((Jq rows rows.length w).map λt:Nat=>U.int (t:Nat)).map (λu=>(kE .loc,u))=(Jq rows rows.length w).map λt=>(Kd.loc,U.int (t:Nat)):=by rw[ke];rfl
   show#[S (K0++d.map (·.1)) vs R f g a,S (K0++d.map (·.1)++[w]) (vs++[.bl a8]) (R++(Jq rows rows.length w).filter λt=>cb (cnt rows (K0++d.map (·.1)) t=1)) f g b,qH (.inl rfl),?_,by rw[<-c];simp,vs++[.bl a8],_,f,g,b,by rw[em],?_,?_,λz=>by simp at z]
   .show zw (k:=.own) (rv:=(.loc,.bl a8)) (rk:=(.loc,.str w)) aw rfl (af rfl) (bh bo (bh bo bx)) rfl rfl (pw H m) ?_;show fD (rs:=[(.loc,cw (Jq rows rows.length) w)]) (ae (E4 (k:=.loc) (z:=(.own,.lst [])) (u:=.lst []) rfl (af rfl) (d8 ao trivial bx (mh _)) qu I) ao) trivial (by change a5 (Ui (λu=>(kE .loc,u)) _)=_;rw[J]) rfl G a9
   .rw[em];show x.step n m
   .have:((Jq rows rows.length w).filter λt=>cb (cnt rows (K0++d.map (·.1)) t=1)).length<=120:=by
     show vr (KQ _ _) ?_;have L:(Jq rows rows.length w).length<=(hH rows.length).length:=KQ _ _;simp at L;lia
    rw[j0,j0,KP];lia) st [] (S K0 vs [] o7 o8 a) ⟨rfl,vs,[],o7,o8,a,by simp[S],by simpa using RI.start K0,by simp,λ_=>rfl⟩
 subst e;show#[vs',R,i,j,b,by simpa using x,λz=>q (by simpa using z),by simpa[S,fz] using B]
abbrev gF(IU:List (List (Str×Nat))):List U:=IU.map λl=>U.lst (l.map stN)
abbrev zH:List TM.S:=[.set 6 (.call "new_steps" [.var 0,.var 5,.var 3]),.set 5 (.lst []),.Jl a8 [7,8] .seq [.var 6] zG,.ite (.cmp .ne (.var 6) (.lst [])) [.app 4 (.var 6)] []]
abbrev zI(Γ:Tab)(rows:List Row):Prop:=∀(R:List Nat) (K0:List Str) (vs:List U),(∀t∈R,t<rows.length)->∃st:List (Str×Nat),NS rows K0 R st/\Γ "new_steps" [.tup (rows.map F'),.lst (fz R),.G' K0 vs]=a5 (.ok (.own,.lst (st.map stN)))
theorem jy(D:Once rows)(G:rows.length<=120)(H:zI Γ rows)(I:∀w,w∉ks->Jq rows rows.length w=[]):∀(f:Nat) (c:List (Str×Nat)) (IU:List (List (Str×Nat))) (R:List Nat) (vs:List U) (o6 o7 o8 g:Option (Kd×U)),
  LI rows c R->IU.flatten=c->IU.length<=c.length->(rows.length - c.length)+(if R=[] then 1 else 2)<=f ->
  ∃(QD:List (Str×Nat)) (J:List (List (Str×Nat))) (st':aq),LI rows QD []/\J.flatten=QD/\J.length<=120/\st'[4]?=a5 (a5 (.own,.lst (gF J))) /\
   Run (gV (IW Γ (.cmp .ne (.var 5) (.lst []))) (execs Γ zH) f) [a5 (.loc,.tup (rows.map F')),a5 (.own,.G' ks (ks.map (cw (Jq rows rows.length)))),a5 (.own,.lst (bL rows λp=>(cnt rows (c.map (·.1)) p:Int))),a5 (.own,.G' (c.map (·.1)) vs),a5 (.own,.lst (gF IU)),a5 (.own,.lst (fz R)),o6,o7,o8,g] .nx st'
 |0,c,IU,R,vs,o6,o7,o8,g,_,_,_,h=>by split at h<;>lia
 |f+1,c,IU,R,vs,o6,o7,o8,g,x,N,Zj,h=>by
  have hsz:(20000:Nat)<=cK:=by decide
  have La:∀{s:List (Str×Nat)} {d:List Nat},LI rows s d->s.length<=rows.length:=λ{s d} x=>by
   have:=l8 x.nd x.wd;simpa using this
  have Jt:=La x;let S:=λ(K:List Str) (vs:List U) (IU:List (List (Str×Nat))) (R:List Nat) (o6 o7 o8 g:Option (Kd×U))=>([a5 (.loc,.tup (rows.map F')),a5 (.own,.G' ks (ks.map (cw (Jq rows rows.length)))),a5 (.own,.lst (bL rows λp=>(cnt rows K p:Int))),a5 (.own,.G' K vs),a5 (.own,.lst (gF IU)),a5 (.own,.lst (fz R)),o6,o7,o8,g]:aq)
  have Zk:∀R:List Nat,Jg 50 (.lst (fz R))=a8:=λR=>by change bS 49 _=a8;show gy (λt:Nat=>((t:Nat):Int)) R 49
  have z:Run (IW Γ (.cmp .ne (.var 5) (.lst []))) (S (c.map (·.1)) vs IU R o6 o7 o8 g) (!(fz R).isEmpty) (S (c.map (·.1)) vs IU R o6 o7 o8 g) :=
   bA (aA rfl) (d8 ao trivial bx (mh _)) #[#[.own,rfl,rfl],trivial] (eU (Zk R))
  by_cases O:R=[]
  .subst O;show#[c,IU,_,x,N,⋯,rfl,CU z]
  .rw[Ě O]at h;have Rt:(!(fz R).isEmpty)=a8:=by
    cases R with
    |nil=>show absurd rfl O
    |cons a l=>rfl
   rw[Rt]at z;have(st,n,IB):=H R (c.map (·.1)) vs λt ht=>(x.QB t ht).1;have I0:(c.map (·.1)++st.map (·.1)).Nodup:=by
    rw[ri];show#[x.nd,n.once,λa ha b o e=>?_];have(s,hs,rfl):=kj.mp o;show(n.ok s hs).2.1 (e▸ha)
   have ac:c.length+st.length<=rows.length:=by
    have:=l8 I0 (L:=rows.map (·.1)) λy hy=>by
     rcases i'.mp hy with hy|hy
     .show x.wd y hy
     .have(s,hs,rfl):=kj.mp hy;have(_,_,r,q1,q2):=n.ok s hs;show kj.mpr #[r,qs q1,q2]
    simpa using this
   let q:Option (Kd×U):=a5 (.own,.lst (st.map stN));have(vs',d,i,j,m,y,Zl,UR):=wM (Γ:=Γ) D G I I0 (by rw[cN];lia) (b0:=a5 (.loc,.tup (rows.map F'))) (b4:=a5 (.own,.lst (gF IU))) vs o7 o8 g;have Q:=x.step n y;have em:(c++st).map (·.1)=c.map (·.1)++st.map (·.1):=mu;have Zm:Jg 50 (.lst (st.map stN))=a8:=by change bS 49 _=a8;show qJ st 48
   have A:Run (IW Γ (.cmp .ne (.var 6) (.lst []))) (S (c.map (·.1)++st.map (·.1)) vs' IU d q i j m) (!(st.map stN).isEmpty) (S (c.map (·.1)++st.map (·.1)) vs' IU d q i j m) :=
    bA (aA rfl) (d8 ao trivial bx (mh _)) #[#[.own,rfl,rfl],trivial] (eU Zm)
   have e1:(st.map stN).map (λu=>(kE (.bor 6),u))=st.map λs=>(Kd.loc,stN s):=by rw[ke];rfl
   have v:∀{K7:aq},Run (execs Γ [.ite (.cmp .ne (.var 6) (.lst []))
    [.app 4 (.var 6)]
    []]) (S (c.map (·.1)++st.map (·.1)) vs' IU d q i j m) .nx K7->Run (execs Γ zH) (S (c.map (·.1)) vs IU R o6 o7 o8 g) .nx K7:=λh=>by
    show ax (r:=(.own,.lst (st.map stN))) (aU (ae (af rfl) (ae (aA rfl) (ae (aA rfl) ao))) #[#[.own,rfl,rfl],#[.own,rfl,rfl],trivial] IB) bt ?_;show ax (r:=(.own,.lst [])) (d8 ao trivial bx (mh _)) bt ?_;show fD (rs:=[(.bor 6,.lst (st.map stN))]) (ae (aA rfl) ao) #[#[.own,rfl,rfl],trivial] (by change a5 (Ui (λu=>(kE (.bor 6),u)) _)=_;rw[e1]) rfl UR h
   by_cases B:st=[]
   .have Zn:=Zl B;subst B;rw[show(!(([]:List (Str×Nat)).map stN).isEmpty)=b6 from rfl]at A;have ee:c++[]=c:=rl _;rw[ee]at Q;have o:=v (cn A (λh=>by cases h) λ_=>a9);have(T,Y,st2,z1,z2,z3,z4,C):=jy D G H I f c IU d vs' q i j m Q N Zj (by rw[ę Zn];lia);show#[T,Y,st2,z1,z2,z3,z4,B9 z o ?_];have e3:c.map (·.1)++([]:List (Str×Nat)).map (·.1)=c.map (·.1):=by simp
    change Run _ (S (c.map (·.1)++([]:List (Str×Nat)).map (·.1)) vs' IU d q i j m) _ _;rw[e3];show C
   .have US:(!(st.map stN).isEmpty)=a8:=by
     cases st with
     |nil=>show absurd rfl B
     |cons a l=>rfl
    rw[US]at A;have OA:0<st.length:=Y0.mpr B;have ef:gF (IU++[st])=gF IU++[.lst (st.map stN)]:=by simp[gF]
    have o:Run (execs Γ zH) (S (c.map (·.1)) vs IU R o6 o7 o8 g) .nx (S (c.map (·.1)++st.map (·.1)) vs' (IU++[st]) d (a5 (.loc,.lst (st.map stN))) i j m):=by
     show v (cn A (λ_=>?_) λh=>by cases h);change Run _ _ _ [a5 (.loc,.tup (rows.map F')),a5 (.own,.G' ks (ks.map (cw (Jq rows rows.length)))),a5 (.own,.lst (bL rows λp=>(cnt rows (c.map (·.1)++st.map (·.1)) p:Int))),a5 (.own,.G' (c.map (·.1)++st.map (·.1)) vs'),a5 (.own,.lst (gF (IU++[st]))),a5 (.own,.lst (fz d)),a5 (.loc,.lst (st.map stN)),i,j,m];rw[ef];show lP (k:=.own) (k':=.own) (r:=(.bor 6,.lst (st.map stN))) (u:=.lst (st.map stN)) rfl (aA rfl) (zC rfl) rfl rfl (by unfold gF;rw[cN];lia) a9
    have(T,Y,st2,z1,z2,z3,z4,C):=jy D G H I f (c++st) (IU++[st]) d vs' (a5 (.loc,.lst (st.map stN))) i j m Q (by rw[Y1,N];simp) (by rw[j0,j0,KP];lia) (by rw[j0];split<;>lia);show#[T,Y,st2,z1,z2,z3,z4,B9 z o ?_];rw[em]at C;show C
abbrev CY(Γ:Tab)(rows:List Row):Prop:=∃ks:List Str,(∀w,w∉ks->Jq rows rows.length w=[])/\Γ "places_that_tell" [.tup (rows.map F')]=a5 (.ok (.own,.G' ks (ks.map (cw (Jq rows rows.length)))))
def gG(o:Once rows)(q:rows.length<=120)(s:CY Γ rows)(v:zI Γ rows):∃(d:List (Str×Nat)) (IU:List (List (Str×Nat))),LI rows d []/\IU.flatten=d/\IU.length<=120/\bW Γ a_ [.tup (rows.map F')]=a5 (.ok (.own,.lst (gF IU))):=by
 have hsz:(20000:Nat)<=cK:=by decide
 have(ks,w,z):=s;have A:TM.start [.tup (rows.map F')] 10=[a5 (.loc,.tup (rows.map F')),bD,bD,bD,bD,bD,bD,bD,bD,bD]:=by simp[TM.start,IQ,dc]
 let f:Option (Kd×U):=a5 (.loc,.tup (rows.map F'));let g:Option (Kd×U):=a5 (.own,.G' ks (ks.map (cw (Jq rows rows.length))));let B:Option (Kd×U):=a5 (.own,.lst (bL rows λp=>(cnt rows [] p:Int)));have C:Run (ev Γ (.comp 1 b6 .seq [.var 0] [] (.bi .len [.idx (.var 0) (.cst (.int 1))]))) [f,g,bD,bD,bD,bD,bD,bD,bD,bD] (.own,.lst (bL rows λp=>(cnt rows [] p:Int))) [f,g,bD,bD,bD,bD,bD,bD,bD,bD]:=by
  have c:=hU (cond:=aP Γ []) (elt:=ev Γ (.bi .len [.idx (.var 0) (.cst (.int 1))])) (src:=[(.loc,.tup (rows.map F'))]) (st:=[f,g,bD,bD,bD,bD,bD,bD,bD,bD]) trivial .loc (.inl rfl) F' (λr=>.int (r.2.length:Nat)) .loc (λ_=>iU) rows [] (by simp;lia)
   (λy _=>#[dH (ae (br (x:=(.loc,F' y)) (af rfl) aw trivial rfl) ao) trivial (by rw[oY,cN]),bo])
  rw[my]at c;have e:(rows.map F').map (λu=>(kE .loc,u))=rows.map λr=>(Kd.loc,F' r):=by rw[ke];rfl
  have D:(rows.map λr=>U.int (r.2.length:Nat))=bL rows λp=>(cnt rows [] p:Int):=by
   unfold bL;apply NZ
   .simp
   .intro i j k;have hi:i<rows.length:=by simpa using j
    have l:told rows i=rows[i].2:=kA (by simp[hi]);have G:cnt rows [] i=rows[i].2.length:=by unfold cnt sT;rw[l];simp
    simp[G]
  rw[D]at c;show cG (rs:=[(.loc,.tup (rows.map F'))]) (ae (af rfl) ao) trivial (by change a5 _=_;rw[e]) c
 let m:=(hH rows.length).filter λp=>cb (cnt rows [] p=0);let st5:aq:=[f,g,B,a5 (.own,.G' [] []),a5 (.own,.lst []),bD,bD,bD,bD,bD]
 have H:Run (ev Γ (.comp 2 a8 .Ny [.var 2] [.cmp .eq (.var 1) (.cst (.int 0))] (.var 0))) st5 (.own,.lst (fz m)) st5:=by
  have c:=l_ (st:=st5) (cond:=aP Γ [.cmp .eq (.var 1) (.cst (.int 0))]) (elt:=ev Γ (.var 0)) (src:=[(.bor 2,.lst (bL rows λp=>(cnt rows [] p:Int)))]) ⟨⟨.own,rfl,rfl⟩,trivial⟩ (λp:Nat=>U.int (p:Nat)) (λp:Nat=>U.int (cnt rows [] p:Int)) (λp:Nat=>U.int (p:Nat)) (λp=>cb (cnt rows [] p=0)) (hH rows.length) [] (by simp;lia)
   (λy _=>#[da (bA (af rfl) aw trivial (fY (by rw[IV];simp))),af rfl])
  rw[my]at c;have e:((bL rows λp=>(cnt rows [] p:Int)).zipIdx.map λp=>(kE (.bor 2),U.tup [.int p.2,p.1]))=(hH rows.length).map λp:Nat=>(Kd.loc,U.tup [.int (p:Nat),.int (cnt rows [] p:Int)]):=by
   unfold bL;apply NZ
   .simp
   .intro i j k;simp[kE]
  show cG (rs:=[(.bor 2,.lst (bL rows λp=>(cnt rows [] p:Int)))]) (ae (aA rfl) ao) ⟨⟨.own,rfl,rfl⟩,trivial⟩ (by change a5 _=_;rw[e]) c
 have I:LI rows [] m:=#[.nil,λ_ _ _ h=>(nomatch h),λ_ h=>(nomatch h),λt l=>by
  have(a,b):=KX.mp l;show#[va.mp a,by simpa using b],λt r j k=>.inl (KX.mpr #[va.mpr (df.mp j).1,by simpa using k])]
 have(d,IU,st',J,L,N,n,O):=jy o q v w fuel [] [] m [] bD bD bD bD I rfl (hY _) (by unfold fuel;split<;>simp<;>lia);show#[d,IU,J,L,N,?_];show aI rfl (.inl rfl) A (ax (r:=(.own,.G' ks (ks.map (cw (Jq rows rows.length))))) (aU (ae (af rfl) ao) trivial z) bt (ax C bt (ax (r:=(.own,.G' [] [])) sA bt (ax (r:=(.own,.lst [])) (d8 ao trivial bx (mh _)) bt (ax H bt (CV O (bu (aA n) (qw n))))))))
def wN{IU:List (List (Str×Nat))}(hs:Γ "steps_in_rounds" [.tup (rows.map F')]=a5 (.ok (.own,.lst (gF IU))))(b:IU.flatten=c)(hl:c.length<=120):bW Γ fy [.tup (rows.map F')]=a5 (.ok (.own,.lst (c.map stN))):=by
 have hsz:(20000:Nat)<=cK:=by decide
 have g:TM.start [.tup (rows.map F')] 3=[a5 (.loc,.tup (rows.map F')),bD,bD]:=by simp[TM.start,IQ,dc]
 let S:=λ(l:List (Str×Nat)) (o2:Option (Kd×U))=>([a5 (.loc,.tup (rows.map F')),a5 (.own,.lst (l.map stN)),o2]:aq)
 have(st',h,a,o2,e):=eu (t:=b6) (is:=[2]) (body:=execs Γ [.ext 1 (.var 2)]) (rs:=[(.own,.lst (gF IU))]) (λl:List (Str×Nat)=>(Kd.loc,U.lst (l.map stN)))
  (λd r st=>d++r=IU/\∃o2:Option (Kd×U),st=S d.flatten o2) (λ_ _ _ _=>trivial) (λd y r st i=>by
   have(a,o2,e):=i;subst e;have j:d.flatten.length+y.length<=120:=by
    have:=ğ (λl:List (List (Str×Nat))=>l.flatten.length) a;simp only[Y1,ZW,j0,b]at this;lia
   show#[S d.flatten (a5 (.loc,.lst (y.map stN))),S (d++[y]).flatten (a5 (.loc,.lst (y.map stN))),fu aN,?_,by rw[<-a];simp,_,rfl];have em:(d++[y]).flatten.map stN=d.flatten.map stN++y.map stN:=by simp
   change Run _ _ _ [a5 (.loc,.tup (rows.map F')),a5 (.own,.lst ((d++[y]).flatten.map stN)),a5 (.loc,.lst (y.map stN))];rw[em];show CT (k:=.own) (k':=.own) rfl (af rfl) rfl rfl (uM (by rw[cN,cN];lia) rfl) a9) IU [] (S [] bD) ⟨rfl,bD,rfl⟩
 subst e;have e:(gF IU).map (λu=>(kE .own,u))=IU.map λl=>(Kd.loc,U.lst (l.map stN)):=by unfold gF;rw[ke];rfl
 have f:=aI (Γ:=Γ) (fn:=fy) rfl (.inl rfl) g (ax (r:=(.own,.lst [])) (d8 ao trivial bx (mh _)) bt (fD (rs:=[(.own,.lst (gF IU))]) (st1:=S [] bD) (ae (aU (ae (af rfl) ao) trivial hs) ao) trivial rfl rfl (by rw[e];show h) (bu (aA rfl) (qw rfl))));rw[my,b]at f;show f
end
section
variable{Γ:Tab}{rows:List Row}{names:List Str}
def sV(h:ss.length<64):J5 .sorted [(k,.lst (ss.map .str))]=a5 (.own,.lst ((bF ss).map .str)):=by
 change(strsOf (ss.map U.str)).bind _=_;rw[eR];change(if ss.length<64 then _ else _)=_;rw[ę h]
def ic{a:List (Str×Nat)}(hl:a.length<64)(ho:Γ "order" [.tup (rows.map F')]=a5 (.ok (.own,.lst (a.map stN)))):bW Γ eV [.tup (rows.map F')]=a5 (.ok (.own,.lst ((bF (a.map (·.1))).map .str))):=by
 have hsz:(20000:Nat)<=cK:=by decide
 have c:TM.start [.tup (rows.map F')] 1=[a5 (.loc,.tup (rows.map F'))]:=by simp[TM.start,IQ,dc]
 have b:=l_ (st:=[a5 (.loc,.tup (rows.map F'))]) (cond:=aP Γ []) (elt:=ev Γ (.var 0)) (src:=[(.own,.lst (a.map stN))]) trivial (λs:Str×Nat=>U.str s.1) (λs=>U.int (s.2:Nat)) (λs=>U.str s.1) (λ_=>a8) a [] (by simp;lia) (λy _=>#[iU,af rfl]);rw[my,List.filter_eq_self.mpr (λ_ _=>rfl)]at b;have e:(a.map stN).map (λu=>(kE .own,u))=a.map λs=>(Kd.loc,U.tup [.str s.1,.int (s.2:Nat)]):=by rw[ke];rfl
 have d:(a.map λs=>U.str s.1)=(a.map (·.1)).map U.str:=by rw[ke];rfl
 rw[d]at b;show aI rfl (.inl rfl) c (bu (dH (ae (cG (rs:=[(.own,.lst (a.map stN))]) (ae (aU (ae (af rfl) ao) trivial ho) ao) trivial (by change a5 (Ui (λu=>(kE .own,u)) _)=_;rw[e]) b) ao) trivial (sV (by rw[cN];show hl))) jP)
structure Wk(prog:List Fn):Prop where
 g:Jh prog "gathered" dg
 p:Jh prog "places_that_tell" aZ
 n:Jh prog "new_steps" cM
 s:Jh prog "steps_in_rounds" a_
 o:Jh prog "order" fy
structure Kn(rows:List Row)(K:List Str):Prop where
 nd:K.Nodup
 sn:O8 rows K
 cl:f9 rows (·∈K)
def Kn.perm(a:Kn rows K)(b:Kn rows L):K.Perm L:=same a.nd b.nd a.sn b.sn a.cl b.cl
def Kn.of(s:LI rows a []):Kn rows (a.map (·.1)):=#[s.nd,s.sn,s.closed]
def Cg(L:Wk prog)(n:Nat)(d:∀r∈rows,gM names r)(v:names.length<=24)(w:rows.length<=120):∃c:List (Str×Nat),LI rows c []/\c.length<=24/\IZ prog (n+4) "order" [.tup (rows.map F')]=a5 (.ok (.own,.lst (c.map stN))):=by
 have i:∀r∈rows,r.2.length<=8:=λr h=>(d r h).La;have e:Once rows:=λr h=>(d r h).once;have f:∀r∈rows,r.1∈names:=λr h=>(d r h).word;have j:CW (IZ prog (n+1)):=λps hl=>by
  have(ks,a,b):=pz (Γ:=IZ prog n) hl;show#[ks,a,(aE L.g _).trans b]
 have k:CY (IZ prog (n+2)) rows:=by
  have(ks,a,b):=ib j e i ⋯;show#[ks,a,(aE L.p _).trans b]
 have l:zI (IZ prog (n+2)) rows:=λR K0 vs m=>by
  have(st,a,b):=mM (Γ:=IZ prog (n+1)) f ⋯ m (K0:=K0) (vs:=vs);show#[st,a,(aE L.n _).trans b]
 have(c,IU,s1,s2,s3,s4):=gG e ⋯ k l;have q:IZ prog (n+3) "steps_in_rounds" [.tup (rows.map F')]=a5 (.ok (.own,.lst (gF IU))):=(aE L.s _).trans s4;have t:c.length<=24:=by
  have:=l8 (Kn.of s1).nd (L:=names) λx u=>by
   have(r,a,b):=kj.mp (s1.wd x u);show b▸f r a
  rw[cN]at this;lia
 show#[c,s1,t,(aE L.o _).trans (wN q s2 ⋯)]
end
end KL
namespace TM
open PySem L2 Jc
section
def mf(h:st[i]?=a5 (a5 (.A',.ob u us))):Run (Kh i) st (u,us) st:=by
 change Kh i st=_;unfold Kh;rw[h]
def CZ(h:st[i]?=a5 (a5 (.A',.ob u us)))(a:f u us=a5 (u',us'))(b:IQ u'=a8)(c:cZ us'=a8):Run (M9 i f) st () (st.set i (a5 (.A',.ob u' us'))):=by
 change M9 i f st=_;unfold M9;rw[h]
 dsimp only
 rw[a];show ę #[b,c]
def fA(h:st[i]?=a5 (a5 (.A',.ob u us))):Run (ev Γ (.Jy i)) st (.loc,u) st:=aa (mf h) aH
def E6(h:st[i]?=a5 (a5 (.A',.ob u us))):Run (ev Γ (.LL i)) st (.loc,.int (us.length:Nat)) st:=aa (mf h) aH
def E7(h:st[i]?=a5 (a5 (.A',.ob u us)))(a:Jg 50 (.lst us)=a8):Run (IW Γ (.KZ i)) st us.isEmpty st:=aa (mf h) (by change(if Jg 50 (.lst us)=a8 then pure us.isEmpty else M.fail:M Bool) st=_;rw[ę a];rfl)
def E8(h:st[i]?=a5 (a5 (.A',.ob u us)))(a:us[us.length - 1]?=a5 w):Run (ev Γ (.j4 i)) st (.loc,w) (st.set i (a5 (.A',.ob u us.dropLast))):=by
 change TM.j4 i st=_;unfold TM.j4;rw[h]
 dsimp only
 rw[a]
def uR(h:st[i]?=a5 (a5 (.A',.ob u us)))(a:Γ f (eJ p (.ob u us) (rs.map (·.2)))=a5 (.ok (k,.tup [w,.ob u' us'])))(hk:k=.own\/k=.loc)(b:p<=rs.length):Run (dk Γ f p i rs) st (k,w) (st.set i (a5 (.A',.ob u' us'))):=by
 change dk Γ f p i rs st=_;unfold dk;rw[h]
 dsimp only
 rw[a];show ę #[hk,b]
def zJ(a:st[i]?=a5 (a5 (.A',.ob u0 us0)))(c:Run (aK Γ es) st r1 st1)(d:Run (aK Γ es2) st1 r2 st2)(e:aY (r1++r2) st2)(h:st2[i]?=a5 (a5 (.A',.ob u us)))
  (g:Γ f (eJ es.length (.ob u us) ((r1++r2).map (·.2)))=a5 (.ok (k,.tup [.bl b,.ob u' us']))) (hk:k=.own\/k=.loc) (j:es.length<=(r1++r2).length):Run (IW Γ (.J_ f i es es2)) st b (st2.set i (a5 (.A',.ob u' us'))) :=
 aa (aa (mf a) (aa (aa c (aa d aH)) (aa (aS e) (uR h g hk j)))) (cU rfl)
def iX(a:st[i]?=a5 (a5 (.A',.ob u0 us0)))(b:Run (aK Γ es) st rs st1)(c:aY rs st1)(h:st1[i]?=a5 (a5 (.A',.ob u us)))(d:Γ f (.ob u us::rs.map (·.2))=a5 (.ok (k,.tup [w,.ob u' us'])))(hk:k=.own\/k=.loc):
  Run (ev Γ (.Kq f m i es)) st (k,w) (st1.set i (a5 (.A',.ob u' us'))) :=
 aa (mf a) (aa b (aa (aS c) (uR h d hk (mh _))))
def E9(h:Run (execs Γ ss) (st.set i (a5 (.A',.ob (.tup []) []))) f st1):Run (execs Γ (.Kz i::ss)) st f st1:=et rfl h
def E_(a:Run (ev Γ e) st r st1)(b:Run (lift r) st1 u' st2)(h:st2[i]?=a5 (a5 (.A',.ob u us)))(c:IQ u'=a8)(d:cZ us=a8)(g:Run (execs Γ ss) (st2.set i (a5 (.A',.ob u' us))) f st3):Run (execs Γ (.LM i e::ss)) st f st3 :=
 et (aa a (aa b (aa (CZ h rfl c d) aH))) g
def Fb(h:st[i]?=a5 (a5 (.A',.ob u us)))(hl:us.length<cK)(a:IQ u=a8)(b:cZ (us++[u])=a8)(c:Run (execs Γ ss) (st.set i (a5 (.A',.ob u (us++[u])))) f st3):Run (execs Γ (.LN i::ss)) st f st3 :=
 et (aa (CZ h (by unfold AZ;rw[ę hl]) a b) aH) c
def cV(a:vs.length=fn.np/\p<fn.np)(hs:ba p vs fn.ns=st0)(h:Run (execs Γ body) st0 f st)(b:P9 f=a5 (k,w))(ho:st[p]?=a5 (a5 (.A',.ob u us))):fI Γ fn p body vs=a5 (.ok (k,.tup [w,.ob u us])):=by
 subst hs;unfold fI;rw[ę a,show execs Γ body (ba p vs fn.ns)=_ from h];change(P9 f).bind _=_;rw[b];change(Mp p st).map _=_;unfold Mp;rw[ho];rfl
end
section
def zK:Run (x9 rs) st (rs.map (gU st)) st:=rfl
def Ci(hz:Γ h (t::rs.map (·.2))=a5 (.ok (.loc,.bl a8))):Run (m9 Γ h t rs) st .nx st:=by
 change m9 Γ h t rs st=_;unfold m9;rw[hz];rfl
def He(a:st[t]?=a5 (a5 (.loc,.tup [.lst g,.lst l])))(c:st[y]?=a5 (a5 (.loc,.bl b)))(d:g.length<1000/\l.length<1000):Run (rW t y) st (.rt .A' (.bl b)) st:=by
 change rW t y st=_;unfold rW;rw[a,c];change(if g.length<1000/\l.length<1000 then _ else _)=_;show ę d
def uS(h:st[i]?=a5 (a5 (.A',.ob u us)))(a:Γ f (.ob u us::rs.map (·.2))=a5 (.ok (k,.tup (w::.ob u' us'::ws))))(hk:(k=.A'/\∃t w',w=.tup [t,w']/\r=a5 (t,w'))\/k=.loc/\w=.IC/\r=bD)(b:m8 ((.loc,.IC)::rs) is=a8)(c:vG rs=a8)(d:jJ ((.loc,.IC)::rs) is ws (st.set i (a5 (.A',.ob u' us')))=a5 st1):Run (iD Γ f i rs is) st r st1:=by
 change iD Γ f i rs is st=_;unfold iD;rw[h]
 dsimp only
 rw[a];change(if _ then _ else _)=_;rw[ę #[b,c],d];rcases hk with⟨rfl,t,w',rfl,rfl⟩|⟨rfl,rfl,rfl⟩<;>rfl
def zL(k:Kd)(hk:k=.own\/k=.loc)(h:st[i]?=a5 (a5 (k,u))):Run (vH i) st () (st.set i (a5 (.loc,u))):=by
 change vH i st=_;unfold vH;rcases hk with rfl|rfl
 .rw[h]
 .rw[h]
  dsimp only
  rw[show st.set i (a5 (.loc,u))=st from by
   apply Uj;intro n;by_cases z:i=n
   .subst z;rw[dn (df.mp h).1,h]
   .rw[ez z]]
def zM(h:st[i]?=a5 bD):Run (M_ i) st () st:=by
 change M_ i st=_;unfold M_;rw[h]
def Fc(b:st[q]?=a5 (a5 (k0,a)))(c:k0=.own\/k0=.loc)(d:(st.set q (a5 (.loc,a)))[o]?=a5 (a5 (.A',.ob u0 us0)))(e:Run (aK Γ es) (st.set q (a5 (.loc,a))) rs st1)(i:aY (rs.map (gU st1)) st1)(k:st1[o]?=a5 (a5 (.A',.ob u us)))
  (l:Γ f (.ob u us::(rs.map (gU st1)).map (·.2))=a5 (.ok (.loc,.tup (.IC::.ob u' us'::ws)))) (m:m8 ((.loc,.IC)::rs.map (gU st1)) is=a8) (n:vG (rs.map (gU st1))=a8) (p:jJ ((.loc,.IC)::rs.map (gU st1)) is ws (st1.set o (a5 (.A',.ob u' us')))=a5 st2) (r:st2[s]?=a5 bD) (t:Run (execs Γ ss) st2 v st3) :
  Run (execs Γ (.IU s f o es is j g q h::ss)) st v st3 :=
 et (aa (zL k0 c b) (aa (aa (mf d) (aa (aa e (zK)) (aa (aS i) (uS k l (.inr #[rfl,rfl,rfl]) m n p)))) (aa (zM r) aH))) t
def Fd(b:st[q]?=a5 (a5 (k0,a)))(c:k0=.own\/k0=.loc)(d:(st.set q (a5 (.loc,a)))[o]?=a5 (a5 (.A',.ob u0 us0)))(e:Run (aK Γ es) (st.set q (a5 (.loc,a))) rs st1)(i:aY (rs.map (gU st1)) st1)(k:st1[o]?=a5 (a5 (.A',.ob u us)))
  (l:Γ f (.ob u us::(rs.map (gU st1)).map (·.2))=a5 (.ok (.A',.tup (.tup [t,w']::.ob u' us'::ws)))) (m:m8 ((.loc,.IC)::rs.map (gU st1)) is=a8) (n:vG (rs.map (gU st1))=a8) (p:jJ ((.loc,.IC)::rs.map (gU st1)) is ws (st1.set o (a5 (.A',.ob u' us')))=a5 st2) (s:st2[v]?=a5 bD)
  (w:Run (ev Γ (.call g [.var q])) st2 r st3) (x:Run (dy j r) st3 () y) (z:Run (aK Γ [.var j,.call g [.var q]]) (y.set q (a5 (.loc,w'))) rs2 st5) (A:aY rs2 st5) (hz:Γ h (t::rs2.map (·.2))=a5 (.ok (.loc,.bl a8))) (B:Run (execs Γ ss) st5 C D) :
  Run (execs Γ (.IU v f o es is j g q h::ss)) st C D :=
 et (aa (zL k0 c b) (aa (aa (mf d) (aa (aa e (zK)) (aa (aS i) (uS k l (.inl #[rfl,t,w',rfl,rfl]) m n p)))) (aa (zM s) (aa (aa w x) (aa aN (aa z (aa (aS A) (Ci hz)))))))) B
def zN(a:st[i]?=a5 (a5 (.A',.ob u0 us0)))(b:Run (aK Γ es) st rs st1)(c:aY rs st1)(h:st1[i]?=a5 (a5 (.A',.ob u us)))(d:Γ f (.ob u us::rs.map (·.2))=a5 (.ok (.loc,.tup [t,.ob u' us'])))(g:Run (ev Γ e) (st1.set i (a5 (.A',.ob u' us'))) r st3)(j:Run (lift r) st3 w k):
  Run (execs Γ (.Kl f m i es e::ss)) st (.rt .A' (.tup [t,w])) k :=
 sG (aa (aa (iX (m:=m) a b c h d (.inr rfl)) aH) (aa g (aa j aH)))
def Fe(b:st[i]?=a5 (a5 (.A',.ob u0 us0)))(c:Run (aK Γ es) st rs st1)(d:aY rs st1)(h:st1[i]?=a5 (a5 (.A',.ob u us)))(g:Γ f (.ob u us::rs.map (·.2))=a5 (.ok (.loc,.tup [t,.ob u' us'])))(l:(st1.set i (a5 (.A',.ob u' us')))[y]?=a5 bD)(a:(st1.set i (a5 (.A',.ob u' us')))[j]?=a5 (a5 (k,.lst xs)))(hk:k.root=a8)(hl:xs.length<cK)
  (n:Run (ev Γ e) ((st1.set i (a5 (.A',.ob u' us'))).set j (a5 (k,.lst (xs++[.str x])))) r st3) (o:Run (lift r) st3 w p):Run (execs Γ (.J' y f m i es j x e::ss)) st (.rt .A' (.tup [t,w])) p :=
 sG (aa (aa (iX (m:=m) b c d h g (.inr rfl)) aH) (aa (zM l) (aa (CO (Γ:=Γ) (e:=.cst (.str x)) #[_,_,a,λz=>by subst z;cases hk] aw bo a hk hl) (aa n (aa o aH)))))
def Hg(a:st[t]?=a5 (a5 (.loc,.tup [.lst g,.lst l])))(c:st[y]?=a5 (a5 (.loc,.bl b)))(d:g.length<1000/\l.length<1000):Run (execs Γ (.Mo t y x::ss)) st (.rt .A' (.bl b)) st:=sG (He a c d)
def zO(a:vs.length=fn.np/\0<fn.np)(hs:c7 vs fn.ns=st0)(h:Run (execs Γ body) st0 f st)(c:P_ f=a5 b):oG Γ fn body vs=a5 (.ok (.loc,.bl b)):=by
 subst hs;unfold oG;rw[ę a,show execs Γ body (c7 vs fn.ns)=_ from h];change(P_ f).map _=_;rw[c];rfl
def iY(a:vs.length=fn.np/\0<fn.np)(hs:cv is vs fn.ns=st0)(h:Run (execs Γ body) st0 f st)(b:Ra f=a5 (k,w))(ho:st[0]?=a5 (a5 (.A',.ob u us)))(c:Of is st=a5 ws):mL Γ fn is body vs=a5 (.ok (k,.tup (w::.ob u us::ws))):=by
 subst hs;unfold mL;rw[ę a,show execs Γ body (cv is vs fn.ns)=_ from h];change(Ra f).bind _=_;rw[b];change(Mp 0 st).bind _=_;unfold Mp;rw[ho];change(Of is st).map _=_;rw[c];rfl
end
end TM
namespace K
open PySem L2 TM
abbrev ck:Ck:=#[(prog.filter λf=>f.io.isNone&&f.ob.isNone&&cb (f.name≠("Shelf.__init__":Str))).map (·.name),[("FIRST_SENSE",(.int 1)),("LAST_SENSE",(.int 99)),("LETTERS",(.str "abcdefghijklmnopqrstuvwxyz")),("LONGEST_STEM",(.int 8)),("MOST_ROWS",(.int 60)),("MOST_TOLD",(.int 8))],prog.filterMap λf=>f.io.map λp=>(f.name,p.1),[],[],[("Shelf.book",0,"book"),("Shelf.learnt_now",0,"learnt_now"),("Shelf.deeds",0,"deeds"),("Shelf.put",0,"put"),("Shelf.take",0,"take"),("Shelf.back",0,"back"),("Shelf.do_deed",0,"do_deed"),("Shelf.turn_to",0,"turn_to"),("_law_right",0,"")]]
end K
namespace TM
open PySem L2 Jc
def Cj(x:Str)(c:Nat):OY #[#v[c]] x=cb (c∈x.cps.toList):=PySem.StrLaws.found_one x c
def Cm(a:0<=i)(b:i<=99):J5 .str [(k,.int i)]=a5 (.loc,.str (fG i)):=by
 simp only[J5,gD,x6];rw[ę (by
  by_cases hz:i.natAbs=0
  .rw[hz];decide
  .have:i.natAbs<2 ^ 7:=by lia
   have:=(ą hz).mpr this;lia)]
 rfl
def wO{ss:List Str}(h:ss.Nodup)(hl:ss.length<=100):vD .jg [(k,.tup (ss.map .str))]=a5 (.loc,.int (ss.length:Nat)):=by
 have e:vC (.tup (ss.map U.str))=a5 (bg ss):=by
  change(strsOf (ss.map U.str)).bind _=_;rw[eR];change(if ss.length+1<Ln then _ else _)=_;rw[ę (by change ss.length+1<4096;lia)]
 change(vC (.tup (ss.map U.str))).map _=_;rw[e];have b:=kU ss;have c:=lV h λx a=>(rL ss x).mpr a;change a5 (Kd.loc,U.int ((bg ss).length:Nat))=_;rw[show(bg ss).length=ss.length by lia]
end TM
namespace K
open PySem L2 TM Jc
section
def Iu(h:Run (ev Γ a) st (k,.bl c) st1):Run (ev Γ (.not a)) st (.loc,.bl !c) st1:=aa h aH
def Hh{bs:List Bool}(h:∀b∈bs,b=a8):J5 .all [(k,.lst (bs.map .bl))]=a5 (.loc,.bl a8):=by
 rw[uP];congr 3
 rw[qa];show h
def zQ(h:d5 x.cps.toList=a8):bW Γ gz [.str x]=a5 (.ok (.loc,.bl a8)):=by
 have hsz:(1000:Nat)<=cK:=by decide
 have(a,d,e):=(cI _).mp h;have hl:x.length<=8:=by rw[len_list];show d
 have f:x≠"":=λz=>by rw[z]at a;show absurd a (by decide)
 let S:aq:=[a5 (.loc,.str x)]
 have g:Run (IW Γ (.or [.cmp .eq (.var 0) (.cst (.str "")),.cmp .gt (.bi .len [.var 0]) (.Le "LONGEST_STEM" (.int 8))])) S b6 S:=by
  show sD (jO (bA (af rfl) aw trivial ?_) (lN (bA (dH (rs:=[(.loc,.str x)]) (r:=(.loc,.int (x.length:Nat))) (ae (af rfl) ao) trivial ?_) nK trivial (lT (ě ⋯)))))
  .rw[uO,ě f]
  .change(AX (.str x)).map _=_;change(if x.length<=cK then a5 x.length else bD).map _=_;rw[ę ⋯];rfl
 have b:=hU (cond:=aP Γ []) (elt:=ev Γ (.cmp .isin (.var 0) (.Le "LETTERS" (.str "abcdefghijklmnopqrstuvwxyz")))) (src:=[(.loc,.str x)]) (st:=S) trivial .loc (.inl rfl) (λc:Nat=>U.str #[#v[c]]) (λ_=>U.bl a8) .loc (λ_=>iU) x.cps.toList [] (by rw[VA,QZ];lia)
  (λc i=>#[iS (c:=a8) (af rfl) nK trivial (by
   change a5 (OY #[#v[c]] "abcdefghijklmnopqrstuvwxyz")=_;have:=rC "abcdefghijklmnopqrstuvwxyz" (by decide +kernel) c;rw[show OY #[#v[c]] "abcdefghijklmnopqrstuvwxyz"=low c from this];have:=e c i;simp[low,this.1,this.2]),bo])
 rw[my]at b;have j:J5 .all [(.own,.lst (x.cps.toList.map λ_=>U.bl a8))]=a5 (.loc,.bl a8):=by
  have:=Hh (k:=.own) (bs:=x.cps.toList.map λ_=>a8) (by simp);rw[ke]at this;show this
 show aI rfl (.inr rfl) (show TM.start [.str x] 1=S from rfl) (cn g (λz=>by cases z) λ_=>bu (dH (ae (cG (rs:=[(.loc,.str x)]) (ae (af rfl) ao) trivial rfl b) ao) trivial j) cz)
def wQ(b:2<=k)(d:k<=99):bW Γ cp [.str (fG k)]=a5 (.ok (.loc,.bl a8)):=by
 have hsz:(1000:Nat)<=cK:=by decide
 let S:aq:=[a5 (.loc,.str (fG k))]
 have a:=hU (cond:=aP Γ []) (elt:=ev Γ (.bi .str [.var 0])) (src:=[(.loc,.int (1+1)),(.loc,.int (99+1))]) (st:=S) trivial .loc (.inl rfl) (λi:Nat=>U.int (2+(i:Int))) (λi=>U.str (fG (2+(i:Int)))) .loc (λ_=>iU) (hH 98) [] (by simp;lia)
  (λi hi=>#[dH (ae (af rfl) ao) trivial (Cm ⋯ (by have:=va.mp hi;lia)),bo])
 rw[my]at a;have e:((hH 98).map λi:Nat=>U.str (fG (2+(i:Int))))=((hH 98).map λi:Nat=>fG (2+(i:Int))).map U.str:=by rw[ke];rfl
 rw[e]at a;show aI rfl (.inr rfl) (show TM.start [.str (fG k)] 1=S from rfl) (bu (iS (c:=a8) (af rfl) (cG (rs:=[(.loc,.int (1+1)),(.loc,.int (99+1))]) (ae (bN nK aw trivial dv) (ae (bN nK aw trivial dv) ao)) trivial rfl a) trivial ?_) cz);change bT .isin (.str (fG k)) (.lst (((hH 98).map λi:Nat=>fG (2+(i:Int))).map U.str))=_;rw[Hd,Ĝ];show kj.mpr #[(k - 2).toNat,va.mpr ⋯,by rw[show(2:Int)+((k - 2).toNat:Nat)=k by lia]]
def zR(a:fn=⟨fn.name,1,1,[.ret (.idx (.Lx .partition (.var 0) [.cst (.str "/")]) (.cst (.int n)))]⟩)(hl:x.length<=1000)(h:Je [U.str (nH x "/").1,.str (nH x "/").2.1,.str (nH x "/").2.2] n=a5 (.str y)):bW Γ fn [.str x]=a5 (.ok (.loc,.str y)):=by
 have hsz:(1000:Nat)<=cK:=by decide
 have b:mJ .partition (.str x) [(.loc,.str "/")]=a5 (.loc,.tup [.str (nH x "/").1,.str (nH x "/").2.1,.str (nH x "/").2.2]):=by
  change(if (Sm "/"==0)=b6/\x.length<=cK then _ else _)=_;rw[ę #[by decide,⋯]]
 rw[a];show aI (st0:=[a5 (.loc,.str x)]) rfl (.inr rfl) rfl (bu (br (uF (af rfl) (ae aw ao) trivial b) aw trivial (fL h)) cz)
abbrev pA(Γ:Tab):Prop:=∀x:Str,bU x.cps.toList->Γ "is_word" [.str x]=a5 (.ok (.loc,.bl a8))
def zS(f:∀x:Str,d5 x.cps.toList=a8->Γ "is_stem" [.str x]=a5 (.ok (.loc,.bl a8)))(i:∀k:Int,2<=k->k<=99->Γ "is_later_sense" [.str (fG k)]=a5 (.ok (.loc,.bl a8)))
    (hs:∀x y:Str,x.length<=1000->(nH x "/").1=y->Γ "stem_of" [.str x]=a5 (.ok (.loc,.str y))) (d:∀x y:Str,x.length<=1000->(nH x "/").2.2=y->Γ "number_of" [.str x]=a5 (.ok (.loc,.str y)))
 (h:bU x.cps.toList):bW Γ gA [.str x]=a5 (.ok (.loc,.bl a8)):=by
  have hl:x.length<=11:=by rw[len_list];show h.len.2
  let S:aq:=[a5 (.loc,.str x)]
  have c:Run (IW Γ (.cmp .Iz (.cst (.str "/")) (.var 0))) S (!cb (47∈x.cps.toList)) S:=bA aw (af rfl) trivial (by
    change(a5 (OY "/" x)).map _=_;rw[show OY "/" x=cb (47∈x.cps.toList) from Cj x 47];rfl)
  rcases h with h|⟨a,b,k,e,h,k2,j,l⟩
  . have d:47∉x.cps.toList:=ir h
    rw[ě d]at c;show aI rfl (.inr rfl) (show TM.start [.str x] 1=S from rfl) (zg c (bu (aU (ae (af rfl) ao) trivial (f x h)) cz))
  . rw[Ĝ (by rw[e];simp)]at c
    have g:=Jc.AI e (ir h);have m:(⟨b.toArray⟩:Str)=fG k:=TM.iu (by simpa using l.symm);have n:=f #[a.toArray] (by simpa using h);have o:=hs x #[a.toArray] ⋯ (by rw[show("/":Str)=⟨#v[47]⟩ from rfl,g]);have q:=d x (fG k) ⋯ (by rw[show("/":Str)=⟨#v[47]⟩ from rfl,g];show m);show aI rfl (.inr rfl) (show TM.start [.str x] 1=S from rfl) (cn c (λz=>by cases z) λ_=>bu (uH (sC (p:=a8) (aU (ae (aU (ae (af rfl) ao) trivial o) ao) trivial n) (by rw[ę rfl];show oW (aU (ae (aU (ae (af rfl) ao) trivial q) ao) trivial (i k k2 j))))) cz)
def wR(c:pA Γ){ss:List Str}(hs:∀x∈ss,bU x.cps.toList)(hl:ss.length<=1000)(h:Run (ev Γ e) st (k,u) st)(d:aY [(k,u)] st)(hk:k'=.loc\/k'=.any)(b:Lg .seq [(k,u)]=a5 (ss.map λx=>(k',U.str x))):Run (ev Γ (.bi .all [.comp 1 b6 .seq [e] [] (.call "is_word" [.var 0])])) st (.loc,.bl a8) st:=by
 have hsz:(1000:Nat)<=cK:=by decide
 have a:=hU (cond:=aP Γ []) (elt:=ev Γ (.call "is_word" [.var 0])) (src:=[(k,u)]) (st:=st) d k' hk U.str (λ_=>U.bl a8) .loc (λ_=>iU) ss [] (by simp;lia)
  (λx a=>by
   rcases hk with rfl|rfl
   .show#[aU (ae (af rfl) ao) trivial (c x (hs x a)),bo]
   .show#[aU (ae (az rfl) ao) trivial (c x (hs x a)),bo])
 rw[my]at a;have f:J5 .all [(.own,.lst (ss.map λ_=>U.bl a8))]=a5 (.loc,.bl a8):=by
  have:=Hh (k:=.own) (bs:=ss.map λ_=>a8) (by simp);rw[ke]at this;show this
 show dH (ae (cG (rs:=[(k,u)]) (ae h ao) d b a) ao) trivial f
def Cn(a:pA Γ)(i:r.2.length<=8)(b:r.2.Nodup)(c:bU r.1.cps.toList)(d:∀x∈r.2,bU x.cps.toList):bW Γ iZ [F' r]=a5 (.ok (.loc,.bl a8)):=by
 have hsz:(1000:Nat)<=cK:=by decide
 have e:TM.start [F' r] 2=[a5 (.loc,F' r),bD]:=by simp[TM.start,fw]
 let S:aq:=[a5 (.loc,F' r),a5 (.loc,.tup (r.2.map .str))]
 have g:Run (IW Γ (.or [.cmp .gt (.bi .len [.var 1]) (.Le "MOST_TOLD" (.int 8)),.cmp .lt (.ME .jg [.var 1]) (.bi .len [.var 1])])) S b6 S:=by
  have gl:Run (ev Γ (.bi .len [.var 1])) S (.loc,.int (r.2.length:Nat)) S:=by
   have h:=dH (Γ:=Γ) (st:=S) (f:=.len) (es:=[.var 1]) (ae (af rfl) ao) trivial (oY (xs:=r.2.map U.str));rw[cN]at h;show h
  show sD (jO (bA gl nK trivial (lT (ě ⋯))) (lN (bA (CN (ae (af rfl) ao) trivial (wO b ⋯)) gl trivial (zm (ě ⋯)))))
 show aI rfl (.inr rfl) e (ax (br (x:=(.loc,F' r)) (af rfl) aw trivial rfl) aN (cn g (λz=>by cases z) λ_ =>
  bu (uH (sC (p:=a8) (aU (ae (br (x:=(.loc,F' r)) (af rfl) aw trivial rfl) ao) trivial (a r.1 c)) (by rw[ę rfl];show oW (wR a d ⋯ (af rfl) trivial (.inl rfl) (by change a5 _=_;rw[ke];rfl))))) cz))
def Co(h:r.2.length<64):bW Γ b9 [F' r]=a5 (.ok (.loc,F' (keyOf r))):=by
 have a:=sorted_strs (k:=.loc) (ss:=r.2) h;have b:gS (.loc,F' r) (.int 0)=a5 (.loc,.str r.1):=rfl;have c:gS (.loc,F' r) (.int 1)=a5 (.loc,.tup (r.2.map .str)):=rfl;apply aI (st0:=[a5 (.loc,F' r)]) rfl (.inr rfl) (by simp[TM.start,fw,b9])
 repeat' (first|show b|show c|show a|show(by decide:(2:Nat)<=cK)|sizeOf_list_dec)
end
end K
namespace K
open PySem L2 TM Jc Od KL
section
variable{Γ:Tab}{rows:List Row}{names:List Str}{st:aq}
def zT(h:st[i]?=a5 (a5 (.loc,.bl b))):Run (IW Γ (.var i)) st b st:=aa (fX h) (cU rfl)
def sW{told a:List Str}(hl:told.length<=1000)(hi:st[i]?=a5 (a5 (.any,.tup (told.map .str))))(c:st[j]?=a5 (a5 (.own,w)))(d:∀x:Str,bT .isin (.str x) w=a5 (cb (x∈a))):
  Run (ev Γ (.bi .all [.comp 1 b6 .seq [.var i] [] (.cmp .isin (.var 0) (.var (j+1)))])) st (.loc,.bl (told.all λx=>cb (x∈a))) st:=by
 have hsz:(1000:Nat)<=cK:=by decide
 have b:=hU (cond:=aP Γ []) (elt:=ev Γ (.cmp .isin (.var 0) (.var (j+1)))) (src:=[(.any,.tup (told.map .str))]) (st:=st) trivial .any (.inr rfl) U.str (λx=>.bl (cb (x∈a))) .loc (λ_=>iU) told [] (by simp;lia)
  (λy _=>#[iS (az rfl) (aA (by simpa using c)) #[#[.own,rfl,by simpa using c],trivial] (d y),bo])
 rw[my]at b;have e:(told.map λx=>U.bl (cb (x∈a)))=(told.map λx=>cb (x∈a)).map U.bl:=by rw[ke];rfl
 rw[e]at b;have f:(told.all λx=>cb (x∈a))=((told.map λx=>cb (x∈a)).all id):=by rw[í];rfl
 rw[f];show dH (ae (cG (rs:=[(.any,.tup (told.map .str))]) (ae (az hi) ao) trivial (by change a5 _=_;rw[ke];rfl) b) ao) trivial (uP _)
abbrev Cp:List TM.S:=[.ite (.and [.cmp .Iz (.var 3) (.var 1),.bi .all [.comp 1 b6 .seq [.var 4] [] (.cmp .isin (.var 0) (.var 2))]]) [.put 1 (.var 3) (.cst (.bl a8)),.set 2 (.cst (.bl a8))] []]
structure Lk(rows:List Row)(K:List Str):Prop where
 nd:K.Nodup
 snd:O8 rows K
 UT:∀x∈K,x∈rows.map (·.1)
abbrev lS(rows:List Row)(K:List Str)(vs:List U)(b:Bool)(o3 o4:Option (Kd×U)):aq:=[a5 (.any,.lst (rows.map F')),a5 (.own,.G' K vs),a5 (.loc,.bl b),o3,o4]
def Lk.len(x:Lk rows K):K.length<=rows.length:=by
 have:=l8 x.nd x.UT
 rwa [cN]at this
def Lk.add(x:Lk rows K)(d:r∈rows)(f:r.1∉K)(g:∀y∈r.2,y∈K):Lk rows (K++[r.1]):=by
 show#[?_,λC c y hy=>?_,λy hy=>?_]
 .rw[ri];show#[x.nd,by simp,λa h b i e=>?_];have:b=r.1:=by simpa using i
  subst this;show f (e▸h)
 .rcases i'.mp hy with hy|hy
  .show x.snd C c y hy
  .have:y=r.1:=by simpa using hy
   subst this;show c r d λz hz=>x.snd C c z (g z hz)
 .rcases i'.mp hy with hy|hy
  .show x.UT y hy
  .have:y=r.1:=by simpa using hy
   subst this;show kj.mpr #[r,d,rfl]
def zU(I:∀r∈rows,r.2.length<=8)(C:rows.length<=100)(x:Lk rows K0)(vs:List U)(o3 o4:Option (Kd×U)):∃(f:List Str) (u:List U) (b:Bool) (v z:Option (Kd×U)),Lk rows f/\(b=a8->K0.length<f.length)/\(b=b6->f=K0/\f9 rows (·∈K0)) /\
  Run (forM a8 [3,4] (execs Γ Cp) [(.any,.lst (rows.map F'))] (rows.map λr=>(Kd.any,F' r))) (lS rows K0 vs b6 o3 o4) .nx (lS rows f u b v z):=by
 have hsz:(20000:Nat)<=cK:=by decide
 have(st1,J,_,f,u,b,v,z,e,g,n,c):=eu (t:=a8) (is:=[3,4]) (body:=execs Γ Cp) (rs:=[(.any,.lst (rows.map F'))]) (λr:Row=>(Kd.any,F' r))
  (λd r st=>d++r=rows/\∃(K:List Str) (vs:List U) (b:Bool) (o3 o4:Option (Kd×U)),st=lS rows K vs b o3 o4/\Lk rows K/\(b=a8->K0.length<K.length)/\(b=b6->K=K0/\∀r∈d,(∀y∈r.2,y∈K0)->r.1∈K0)) (λ_ _ _ _=>trivial) (λd a r st L=>by
   have(A,K,vs,b,o3,o4,e,g,n,c):=L;subst e;have D:a∈rows:=by rw[<-A];simp
   have N:=I a D;have O:=g.len;let o:Option (Kd×U):=a5 (.any,.str a.1);let p:Option (Kd×U):=a5 (.any,.tup (a.2.map .str));have q:Run (IW Γ (.and [.cmp .Iz (.var 3) (.var 1),.bi .all [.comp 1 b6 .seq [.var 4] [] (.cmp .isin (.var 0) (.var 2))]])) (lS rows K vs b o p) (!cb (a.1∈K)&&a.2.all λy=>cb (y∈K)) (lS rows K vs b o p) :=
    jN (lZ (bA (az rfl) (aA rfl) #[#[.own,rfl,rfl],trivial] jw) λ_=>da (EZ (sW (i:=4) (j:=1) (w:=.G' K vs) ⋯ rfl rfl λ_=>E5)))
   have G:Run (dG a8 [3,4] (.any,F' a)) (lS rows K vs b o3 o4) () (lS rows K vs b o p):=qH (.inr rfl);cases l:(!cb (a.1∈K)&&a.2.all λy=>cb (y∈K)) with
   |false =>
    rw[l]at q;show#[_,_,G,cn q (λh=>by cases h) λ_=>a9,by rw[<-A];simp,K,vs,b,_,_,rfl,g,n,λB=>#[(c B).1,λm Ko hz=>?_]];rcases i'.mp Ko with Ko|Ko
    .show(c B).2 m Ko hz
    .have:m=a:=by simpa using Ko
     subst this;rw[<-(c B).1]at hz ⊢;by_cases H:m.1∈K
     .show H
     .have:(!cb (m.1∈K)&&m.2.all λy=>cb (y∈K))=a8:=by
       rw[ě H];simpa using hz
      rw[this]at l;cases l
   |true =>
    rw[l]at q;have s:=l;simp only[b5,sx,decide_eq_false_iff_not,qa,Ę]at s;show#[_,lS rows (K++[a.1]) (vs++[.bl a8]) a8 o p,G,cn q (λ_=>?_) (λh=>by cases h),by rw[<-A];simp,K++[a.1],_,a8,_,_,rfl,g.add D s.1 s.2,λ_=>?_,λh=>by cases h]
    .show zw (k:=.own) (rv:=(.loc,.bl a8)) (rk:=(.any,.str a.1)) aw rfl (az rfl) (bh bo (bh (jM rfl) bx)) rfl rfl (pw ⋯ s.1) (ax aw aN a9)
    .rw[j0,KP];cases b with
     |true=>have:=n rfl;lia
     |false=>rw[(c rfl).1];lia) rows [] (lS rows K0 vs b6 o3 o4) ⟨rfl,K0,vs,b6,o3,o4,rfl,x,(λh=>by cases h),λ_=>#[rfl,λr C=>by cases C]⟩
 subst e;rw[my]at c;show#[f,u,b,v,z,g,n,c,J]
theorem zV(j:∀r∈rows,r.2.length<=8)(k:rows.length<=100):∀(f:Nat) (K0:List Str) (vs:List U) (o3 o4:Option (Kd×U)),Lk rows K0->rows.length - K0.length+2<=f ->
  ∃(a:List Str) (c:List U) (d g:Option (Kd×U)),Lk rows a/\f9 rows (·∈a)/\Run (gV (IW Γ (.var 2)) (execs Γ [.set 2 (.cst (.bl b6)),.Jl a8 [3,4] .seq [.var 0] Cp]) f) (lS rows K0 vs a8 o3 o4) .nx (lS rows a c b6 d g)
 |0,_,_,_,_,_,h=>by lia
 |f+1,K0,vs,o3,o4,x,h=>by
  have(a,c,b,d,g,i,m,n,o):=zU (Γ:=Γ) j k x vs o3 o4;have p:(rows.map F').map (λu=>(kE .any,u))=rows.map λr=>(Kd.any,F' r):=by rw[ke];rfl
  have l:Run (execs Γ [.set 2 (.cst (.bl b6)),.Jl a8 [3,4] .seq [.var 0] Cp]) (lS rows K0 vs a8 o3 o4) .nx (lS rows a c b d g) :=
   ax aw aN (fD (rs:=[(.any,.lst (rows.map F'))]) (st1:=lS rows K0 vs b6 o3 o4) (ae (az rfl) ao) trivial (by change a5 (Ui (λu=>(kE .any,u)) _)=_;rw[p]) rfl o a9)
  cases b with
  |false =>
   have(e,q):=n rfl;subst e;cases f with
   |zero=>lia
   |succ f=>show#[a,c,d,g,i,q,B9 (zT rfl) l (CU (zT rfl))]
  |true =>
   have:=m rfl;have:=i.len;have(s,t,v,w,y,z,A):=zV j k f a c d g i ⋯;show#[s,t,v,w,y,z,B9 (zT rfl) l A]
def ic(e:∀r∈rows,r.2.length<=8)(f:rows.length<=100)(g:∀r∈rows,r.1∈names)(k:names.length<64):∃L:List Str,L.Nodup/\O8 rows L/\f9 rows (·∈L)/\bW Γ dJ [.lst (rows.map F')]=a5 (.ok (.own,.lst ((bF L).map .str))):=by
 have h:TM.start [.lst (rows.map F')] 5=[a5 (.any,.lst (rows.map F')),bD,bD,bD,bD]:=by simp[TM.start,IQ]
 have(L,vs,l,m,d,i,j):=zV (Γ:=Γ) e f fuel [] [] bD bD #[.nil,(λC _ x c=>by cases c),(λx c=>by cases c)] (by unfold fuel;simp;lia);have hl:L.length<64:=by
  have:=l8 d.nd (L:=names) λx c=>by
   have(r,a,b):=kj.mp (d.UT x c);show b▸g r a
  lia
 have hs:J5 .sorted [(.bor 1,.G' L vs)]=a5 (.own,.lst ((bF L).map .str)):=by
  change(if L.length<64 then _ else _)=_;rw[ę hl]
 show#[L,d.nd,d.snd,i,aI rfl (.inl rfl) h (ax (r:=(.own,.G' [] [])) sA bt (ax aw aN (CV j (bu (dH (ae (aA rfl) ao) #[#[.own,rfl,rfl],trivial] hs) jP))))]
end
abbrev tb(rs:List Row):U:=.tup (rs.map F')
abbrev Jn(p:List (List Row)):List U:=p.map tb
abbrev IJ(rs:List Row)(p:List (List Row)):U:=.ob (tb rs) (Jn p)
abbrev lw(rows:List Row):List Str:=open Classical in if h:∃L,Kn rows L then bF h.choose else []
def C0(h:Kn rows L):lw rows=bF L:=by
 unfold lw;rw[dif_pos #[L,h]];show jH ((Classical.choose_spec (⟨L,h⟩:∃L,Kn rows L)).perm h)
abbrev gl(K L:List Str):List Str:=L.filter λx=>cb (x∉K)
abbrev KJ(a b:List Row):U:=.tup [.lst ((gl (lw a) (lw b)).map .str),.lst ((gl (lw b) (lw a)).map .str)]
structure Bk(names:List Str)(rs:List Row):Prop where
 ok:∀r∈rs,gM names r
 ln:rs.length<=50
def ie(rs:List Row):IQ (tb rs)=a8:=by simp[tb,IQ,dc]
theorem pB:∀p:List (List Row),cZ (Jn p)=a8
 |[]=>rfl
 |r::p=>by rw[Jn,gi,cZ,ie];show pB p
theorem pC(n:Nat):∀rs:List Row,bS (n+2) (rs.map F')=a8
 |[]=>by simp[bS]
 |r::rs=>by rw[gi,bS,pC n rs];simp[F',Jg,bS];show h_ _ _
def zW(n:Nat)(rs:List Row):Jg (n+3) (tb rs)=a8:=by
 unfold tb;rw[Jg];show pC n rs
theorem qL(n:Nat):∀p:List (List Row),bS (n+3) (Jn p)=a8
 |[]=>by simp[Jn,bS]
 |r::p=>by rw[Jn,gi,bS,zW,Bool.true_and];show qL n p
def zX(K L:List Str):(gl K L).length<=L.length:=KQ _ _
section
abbrev UU(Γ:Tab)(f:Str)(names:List Str):Prop:=∀rs:List Row,Bk names rs->(lw rs).length<64/\Γ f [tb rs]=a5 (.ok (.own,.lst ((lw rs).map .str)))
def Hi(hi:st[i]?=a5 (a5 (.own,.lst (L.map .str))))(c:st[j]?=a5 (a5 (k,.lst (K.map .str))))(hk:k=.own\/k=.any)(hl:L.length<=1000):Run (ev Γ (.comp 1 b6 .seq [.var i] [.cmp .Iz (.var 0) (.var (j+1))] (.var 0))) st (.own,.lst ((gl K L).map .str)) st:=by
 have hsz:(1000:Nat)<=cK:=by decide
 have a:=l0 (cond:=aP Γ [.cmp .Iz (.var 0) (.var (j+1))]) (elt:=ev Γ (.var 0)) (src:=[(.bor i,.lst (L.map .str))]) (st:=st) #[#[.own,rfl,hi],trivial] .loc (.inl rfl) U.str U.str (λx=>cb (x∉K)) .loc L [] (by simp;lia)
  (λx a=>by
   have b:(a5 (Kd.loc,U.str x)::st)[j+1]?=a5 (a5 (k,.lst (K.map .str))):=c;show#[da ?_,λ_=>#[af rfl,bo]];rcases hk with rfl|rfl
   .show bA (af rfl) (aA b) #[#[.own,rfl,b],trivial] eT
   .show bA (af rfl) (az b) trivial eT)
 rw[my]at a;show cG (rs:=[(.bor i,.lst (L.map .str))]) (ae (aA hi) ao) #[#[.own,rfl,hi],trivial] (by change a5 _=_;rw[ke];rfl) a
def Ff(f:UU Γ "learnt" names)(h:Bk names rows)(h':Bk names a):bW Γ bY [tb rows,tb a]=a5 (.ok (.loc,KJ rows a)):=by
 have hsz:(1000:Nat)<=cK:=by decide
 have(o,k):=f rows h;have(p,l):=f a h';let b:Option (Kd×U):=a5 (.loc,tb rows);let c:Option (Kd×U):=a5 (.loc,tb a);let d:Option (Kd×U):=a5 (.own,.lst ((lw rows).map .str));let e:Option (Kd×U):=a5 (.own,.lst ((lw a).map .str));let g:Option (Kd×U):=a5 (.own,.lst ((gl (lw rows) (lw a)).map .str));let m:Option (Kd×U):=a5 (.own,.lst ((gl (lw a) (lw rows)).map .str));have n:TM.start [tb rows,tb a] 6=[b,c,bD,bD,bD,bD]:=by simp[TM.start,ie,b,c]
 show aI rfl (.inr rfl) n (ax (aU (ae (af rfl) ao) trivial k) bt (ax (aU (ae (af rfl) ao) trivial l) bt
  (ax (Hi (i:=3) (j:=2) (st:=[b,c,d,e,bD,bD]) rfl rfl (.inl rfl) ⋯) bt (ax (Hi (i:=2) (j:=3) (st:=[b,c,d,e,g,bD]) rfl rfl (.inl rfl) ⋯) bt
   (bu (lM (us:=[.lst ((gl (lw rows) (lw a)).map .str),.lst ((gl (lw a) (lw rows)).map .str)]) (ae (aA (i:=4) (st:=[b,c,d,e,g,m]) rfl) (ae (aA rfl) ao)) #[#[.own,rfl,rfl],#[.own,rfl,rfl],trivial] (bh (zC rfl) (bh (zC rfl) bx)) (by change 2<=cK;lia)) cz)))))
abbrev UW(Γ:Tab)(names:List Str):Prop:=∀rs a p,Bk names rs->Bk names a->Γ "Shelf.turn_to" [IJ rs p,tb a]=a5 (.ok (.loc,.tup [KJ rs a,IJ a p]))
def zY(e:∀a b,Bk names a->Bk names b->Γ "gained_and_lost" [tb a,tb b]=a5 (.ok (.loc,KJ a b)))(h:Bk names rows)(h':Bk names c):fI Γ cY 0 (cY.body.drop 1) [IJ rows past,tb c]=a5 (.ok (.loc,.tup [KJ rows c,IJ c past])):=by
 let d:Option (Kd×U):=a5 (.loc,tb c);let f:Option (Kd×U):=a5 (.loc,KJ rows c);have g:ba 0 [IJ rows past,tb c] 3=[a5 (.A',IJ rows past),d,bD]:=by simp[ba,ie,d]
 show cV (p:=0) (st:=[a5 (.A',IJ c past),d,f]) #[rfl,by decide] g (ax (aU (ae (fA rfl) (ae (af rfl) ao)) trivial (e rows c h h')) aN
  (E_ (r:=(.loc,tb c)) (af rfl) bo rfl (ie _) (pB _) (bu (af rfl) cz))) rfl rfl
def zZ(d:UW Γ names)(h:Bk names rows)(h':Bk names a)(g:past.length<=100):fI Γ cX 0 (cX.body.drop 1) [IJ rows past,tb a]=a5 (.ok (.loc,.tup [KJ rows a,IJ a (past++[rows])])):=by
 have hsz:(1000:Nat)<=cK:=by decide
 let b:Option (Kd×U):=a5 (.loc,tb a);have f:ba 0 [IJ rows past,tb a] 2=[a5 (.A',IJ rows past),b]:=by simp[ba,ie,b]
 have e:Jn (past++[rows])=Jn past++[tb rows]:=by simp[Jn]
 have c:=d rows a (past++[rows]) h h';unfold IJ at c ⊢;rw[e]at c ⊢;show cV (p:=0) (st:=[a5 (.A',.ob (tb a) (Jn past++[tb rows])),b]) #[rfl,by decide] f (Fb (u:=tb rows) (us:=Jn past) rfl (by unfold Jn;rw[cN];lia) (ie _) (by rw[<-e];show pB _)
  (bu (iX (us:=Jn past++[tb rows]) rfl (ae (af rfl) ao) trivial rfl c (.inr rfl)) cz)) rfl rfl
def z9:fI Γ eW 0 (eW.body.drop 1) [IJ rows past]=a5 (.ok (.loc,.tup [tb rows,IJ rows past])) :=
 cV (p:=0) (st:=[a5 (.A',IJ rows past)]) #[rfl,by decide] (by simp[ba];rfl) (bu (fA rfl) cz) rfl rfl
def z_(a:UU Γ "learnt" names)(h:Bk names rows):fI Γ bV 0 (bV.body.drop 1) [IJ rows past]=a5 (.ok (.own,.tup [.lst ((lw rows).map .str),IJ rows past])) :=
 cV (p:=0) (st:=[a5 (.A',IJ rows past)]) #[rfl,by decide] (by simp[ba];rfl) (bu (aU (ae (fA rfl) ao) trivial (a rows h).2) jP) rfl rfl
def wU:fI Γ d0 0 (d0.body.drop 1) [IJ rows past]=a5 (.ok (.loc,.tup [.int (past.length:Nat),IJ rows past])):=by
 have e:(Jn past).length=past.length:=by simp[Jn]
 have h:=E6 (Γ:=Γ) (st:=[a5 (.A',IJ rows past)]) (i:=0) (u:=tb rows) (us:=Jn past) rfl;rw[e]at h;show cV (p:=0) (st:=[a5 (.A',IJ rows past)]) #[rfl,by decide] (by simp[ba];rfl) (bu h cz) rfl rfl
def Aa(c:UW Γ names)(h:Bk names rows)(h':Bk names a):fI Γ eY 0 (eY.body.drop 1) [IJ rows (past++[a])]=a5 (.ok (.loc,.tup [KJ rows a,IJ a past])):=by
 have e:Jn (past++[a])=Jn past++[tb a]:=by simp[Jn]
 have t:Run (IW Γ (.KZ 0)) [a5 (.A',IJ rows (past++[a]))] b6 [a5 (.A',IJ rows (past++[a]))]:=by
  have:=E7 (Γ:=Γ) (i:=0) (st:=[a5 (.A',IJ rows (past++[a]))]) (u:=tb rows) (us:=Jn (past++[a])) rfl (by rw[Jg];show qL 46 _);rw[e,show(Jn past++[tb a]).isEmpty=b6 by cases Jn past<;>rfl]at this;show this
 have b:=E8 (Γ:=Γ) (i:=0) (st:=[a5 (.A',IJ rows (past++[a]))]) (u:=tb rows) (us:=Jn (past++[a])) (w:=tb a) rfl (by rw[e];simp);rw[e,Yn]at b;show cV (p:=0) (st:=[a5 (.A',IJ a past)]) #[rfl,by decide] (by simp[ba];rfl) (cn t (λz=>by cases z) λ_=>bu (iX rfl (ae b ao) trivial rfl (c rows a past h h') (.inr rfl)) cz) rfl rfl
end
end K
namespace TM
open PySem L2 Jc
def qM:j3 (k,.tup (rs.map F')) lo hi=a5 (kE k,.tup ((cut rs lo hi).map F')):=by
 simp only[j3];rw[B7]
def qN{a b:List Row}(h:a.length+b.length<=cK):K4 .add (k,.tup (a.map F')) (k',.tup (b.map F'))=a5 (kT k k',.tup ((a++b).map F')):=by
 change(if _ then _ else _)=_;rw[ę (by rw[cN,cN];show h),mu]
def sX(xs:List α)(k:Nat):cut xs bD (a5 (k:Int))=xs.take k:=by
 unfold cut;rw[HT.tm];change(xs.drop 0).take (min k xs.length - 0)=_;rw[Ð,Nat.sub_zero];rcases ù k xs.length with h|h
 .rw[Qx h]
 .rw[È h,Kj (hY _),Kj h]
def mw(xs:List α)(k:Nat):cut xs (a5 (k:Int)) bD=xs.drop k:=by
 unfold cut;rw[HT.tm];change(xs.drop (min k xs.length)).take (xs.length - min k xs.length)=_;rw[Kj (by rw[R3];lia)];rcases ù k xs.length with h|h
 .rw[Qx h]
 .rw[È h,Xk (hY _),Xk h]
end TM
namespace K
open PySem L2 TM Jc Od KL
section
abbrev K9(r s:Row):Bool:=cb (keyOf r=keyOf s)
def wV(a:∀r:Row,r.2.length<64->Γ "in_one_order" [F' r]=a5 (.ok (.loc,F' (keyOf r))))(h:r.2.length<64)(b:s.2.length<64):bW Γ i_ [F' r,F' s]=a5 (.ok (.loc,.bl (K9 r s))):=by
 apply aI (st0:=[a5 (.loc,F' r),a5 (.loc,F' s)]) rfl (.inr rfl) (by simp[TM.start,fw,i_])
 repeat' (first|show a r h|show a s b|show B6 (op:=a8)|sizeOf_list_dec)
abbrev MP(rows:List Row)(r:Row):List Nat:=(hH rows.length).filter λp=>K9 (rows.getD p ("",[])) r
abbrev QF(Γ:Tab)(names:List Str):Prop:=∀(rs:List Row) (r:Row),Bk names rs->r.2.length<64->Γ "places_alike" [tb rs,F' r]=a5 (.ok (.own,.lst ((MP rs r).map λn:Nat=>.int (n:Nat))))
def ib(c:∀r s:Row,r.2.length<64->s.2.length<64->Γ "alike" [F' r,F' s]=a5 (.ok (.loc,.bl (K9 r s))))(a:Bk names rows)(d:r.2.length<64):bW Γ cW [tb rows,F' r]=a5 (.ok (.own,.lst ((MP rows r).map λn:Nat=>.int (n:Nat)))):=by
 have hsz:(2000:Nat)<=cK:=by decide
 have k:=a.ln;have f:TM.start [tb rows,F' r] 2=[a5 (.loc,tb rows),a5 (.loc,F' r)]:=by simp[TM.start,ie,fw]
 have b:=l_ (st:=[a5 (.loc,tb rows),a5 (.loc,F' r)]) (cond:=aP Γ [.call "alike" [.var 1,.var 3]]) (elt:=ev Γ (.var 0)) (src:=[(.loc,tb rows)]) trivial (λp:Nat=>U.int (p:Nat)) (λp:Nat=>F' (rows.getD p ("",[]))) (λp:Nat=>U.int (p:Nat)) (λp=>K9 (rows.getD p ("",[])) r) (hH rows.length) [] (by simp;lia)
  (λy g=>#[da (sR (ae (af rfl) (ae (af rfl) ao)) trivial (c _ r (by
   have h:y<rows.length:=by simpa using g
   have e:rows.getD y ("",[])=rows[y]:=by simp[K1,h]
   rw[e];have:=(a.ok rows[y] (DD _)).La;lia) d) rfl),af rfl])
 rw[my]at b;have e:((rows.map F').zipIdx.map λp=>(kE .loc,U.tup [.int p.2,p.1]))=(hH rows.length).map λp:Nat=>(Kd.loc,U.tup [.int (p:Nat),F' (rows.getD p ("",[]))]):=by
  apply NZ
  .simp
  .intro i j l;have hi:i<rows.length:=by simpa using j
   simp[kE,K1,hi]
 show aI rfl (.inl rfl) f (bu (cG (rs:=[(.loc,tb rows)]) (ae (af rfl) ao) trivial (by change a5 _=_;rw[e]) b) jP)
def Cq:MP rows r=[]↔∀s∈rows,keyOf s≠keyOf r:=by
 unfold MP;rw[L'];constructor
 .intro h s hs e;have(i,hi,rfl):=SA.mp hs;show h i (va.mpr hi) ?_;have a:rows.getD i ("",[])=rows[i]:=by simp[K1,hi]
  rw[a,K9,Ę];show e
 .intro h i hi e;have hi:=va.mp hi;have a:rows.getD i ("",[])=rows[i]:=by simp[K1,hi]
  rw[a,K9,Ę]at e;show h _ (DD _) e
def Ab(f:∀x∈a,keyOf x≠keyOf r)(hs:keyOf s=keyOf r):∃l,MP (a++s::b) r=a.length::l:=by
 have h:(MP (a++s::b) r).head?=a5 a.length:=by
  unfold MP;rw[List.head?_filter,List.find?_range_eq_some];show#[by simp[K9,K1,hs],by simp,λj c=>?_];have e:(a++s::b).getD j ("",[])=a[j]:=by simp[K1,lg c,c]
  rw[e];simp only[K9,sx,decide_eq_false_iff_not];show f _ (DD _)
 cases d:MP (a++s::b) r with
 |nil=>rw[d]at h;cases h
 |cons x l=>rw[d]at h;show#[l,by rw[ro h]]
abbrev pD(Γ:Tab)(names:List Str):Prop:=∀r:Row,gM names r->Γ "is_row" [F' r]=a5 (.ok (.loc,.bl a8))
abbrev RO(Γ:Tab)(names:List Str):Prop:=∀rs a p,Bk names rs->Bk names a->p.length<=100->Γ "Shelf.do_deed" [IJ rs p,tb a]=a5 (.ok (.loc,.tup [KJ rs a,IJ a (p++[rs])]))
def ig:Run (ev Γ (.lst [])) st (.own,.lst []) st:=d8 (rs:=[]) (us:=[]) ao trivial bx (mh _)
def Ac(d:QF Γ names)(e:pD Γ names)(f:Bk names rows)(a:gM names r)(g:st[0]?=a5 (a5 (.A',IJ rows past)))(b:st[3]?=a5 (a5 (.loc,F' r))):
  Run (IW Γ (.or [.not (.call "is_row" [.var 3]),.cmp .ne (.call "places_alike" [.Jy 0,.var 3]) (.lst [])])) st (!(MP rows r).isEmpty) st:=by
 show sD (jO (iT (c:=a8) (sR (ae (af b) ao) trivial (e r a) rfl)) (lN (bA (aU (ae (fA g) (ae (af b) ao)) trivial (d rows r f (by have:=a.La;lia))) ig trivial ?_)));have:=eU (us:=(MP rows r).map λn:Nat=>U.int (n:Nat)) (by rw[Jg];show gy (λn:Nat=>(n:Int)) _ _);rw[this,Vc]
def Hj{ts:List Str}:ba 0 [IJ rows past,.str w,.lst (ts.map .str)] 4=[a5 (.A',IJ rows past),a5 (.loc,.str w),a5 (.any,.lst (ts.map .str)),bD]:=by simp[ba,IQ]
def uU(a:st[1]?=a5 (a5 (.loc,.str w)))(b:st[2]?=a5 (a5 (.any,.lst (ts.map .str)))):Run (ev Γ (.tup [.var 1,.bi .tuple [.var 2]])) st (.loc,F' (w,ts)) st :=
 lM (ae (af a) (ae (dH (ae (az b) ao) trivial rfl) ao)) trivial (bh bo (bh (jM (by simp[IQ,jv])) bx)) (by change 2<=cK;decide)
def Ad(e:QF Γ names)(f:pD Γ names)(g:RO Γ names)(a:Bk names rows)(h:Bk names (rows++[r]))(i:gM names r)(j:∀s∈rows,keyOf s≠keyOf r)(l:past.length<=100)
  (hs:ba 0 [IJ rows past,.str r.1,w] 4=[a5 (.A',IJ rows past),a5 (.loc,.str r.1),a5 (k,w),bD])
  (m:Run (ev Γ (.tup [.var 1,.bi .tuple [.var 2]])) [a5 (.A',IJ rows past),a5 (.loc,.str r.1),a5 (k,w),bD] (.loc,F' r) [a5 (.A',IJ rows past),a5 (.loc,.str r.1),a5 (k,w),bD]) :
  fI Γ d4 0 (d4.body.drop 1) [IJ rows past,.str r.1,w]=a5 (.ok (.loc,.tup [KJ rows (rows++[r]),IJ (rows++[r]) (past++[rows])])):=by
 have hsz:(2000:Nat)<=cK:=by decide
 have o:=a.ln;let b:Option (Kd×U):=a5 (.loc,.str r.1);let c:Option (Kd×U):=a5 (k,w);let d:Option (Kd×U):=a5 (.loc,F' r);let S:aq:=[a5 (.A',IJ rows past),b,c,d]
 have t:=Ac (Γ:=Γ) (st:=S) e f a i rfl rfl;rw[Cq.mpr j]at t;have n:Run (IW Γ (.cmp .ge (.bi .len [.Jy 0]) (.Le "MOST_ROWS" (.int 60)))) S b6 S:=bA (dH (ae (fA rfl) ao) trivial (oY (xs:=rows.map F'))) nK trivial (Hc (by simp;lia));show cV (p:=0) (st:=[a5 (.A',IJ (rows++[r]) (past++[rows])),b,c,d]) #[rfl,by decide] hs (ax m aN
  (cn t (λz=>by cases z) λ_=>cn n (λz=>by cases z) λ_=>bu (iX (st:=S) rfl (ae (bN (fA (u:=tb rows) (us:=Jn past) rfl) (lM (us:=[r].map F') (ae (af rfl) ao) trivial (bh bo bx) (by change 1<=cK;lia)) trivial (qN (by rw[KP];lia))) ao) trivial rfl (g rows (rows++[r]) past a h l) (.inr rfl)) cz)) rfl rfl
def Cr(a:QF Γ names)(b:pD Γ names)(c:RO Γ names)(d:Bk names rows)(e:Bk names (rows++[r]))(f:gM names r)(g:∀s∈rows,keyOf s≠keyOf r)(h:past.length<=100):
  fI Γ d4 0 (d4.body.drop 1) [IJ rows past,.str r.1,.lst (r.2.map .str)]=a5 (.ok (.loc,.tup [KJ rows (rows++[r]),IJ (rows++[r]) (past++[rows])])):=Ad a b c d e f g h Hj (uU rfl rfl)
def Ae(m:QF Γ names)(o:RO Γ names)(c:Bk names (a++r::b))(d:Bk names (a++b))(hk:keyOf (r.1,ts)=keyOf r)(hl:ts.length<64)(q:∀x∈a,keyOf x≠keyOf r)(u:past.length<=100):
  fI Γ eX 0 (eX.body.drop 1) [IJ (a++r::b) past,.str r.1,.lst (ts.map .str)]=a5 (.ok (.loc,.tup [KJ (a++r::b) (a++b),IJ (a++b) (past++[a++r::b])])):=by
 have hsz:(2000:Nat)<=cK:=by decide
 have A:=c.ln;have v:=d.ln;have(l,w):=Ab (r:=(r.1,ts)) (a:=a) (b:=b) (s:=r) (by rw[hk];show q) hk.symm;let e:Option (Kd×U):=a5 (.loc,.str r.1);let f:Option (Kd×U):=a5 (.any,.lst (ts.map .str));let g:Option (Kd×U):=a5 (.own,.lst ((a.length::l).map λn:Nat=>.int (n:Nat)));let S:aq:=[a5 (.A',IJ (a++r::b) past),e,f,g]
 have h:=m (a++r::b) (r.1,ts) c hl;rw[w]at h;have t:Run (IW Γ (.cmp .eq (.var 3) (.lst []))) S b6 S:=by
  show bA (aA rfl) ig #[#[.own,rfl,rfl],trivial] ?_;have y:Jg 50 (.lst ((a.length::l).map λn:Nat=>U.int (n:Nat)))=a8:=by rw[Jg];show gy (λn:Nat=>(n:Int)) _ _
  change(if _ then _ else _)=_;rw[ę #[y,rfl]];rfl
 have i:Run (ev Γ (.idx (.var 3) (.cst (.int 0)))) S (.loc,.int (a.length:Nat)) S:=br (aA rfl) aw #[#[.own,rfl,rfl],trivial] (bf (bE (j:=0) rfl));have s1:Run (ev Γ (.Kg (.Jy 0) [] [.idx (.var 3) (.cst (.int 0))])) S (.loc,.tup (a.map F')) S:=by
  have:=qM (k:=.loc) (rs:=a++r::b) (lo:=bD) (hi:=a5 (a.length:Int));rw[sX,List.take_left'  rfl]at this;show lL (fA rfl) lJ (lK i) trivial this
 have s2:Run (ev Γ (.Kg (.Jy 0) [.bin .add (.idx (.var 3) (.cst (.int 0))) (.cst (.int 1))] [])) S (.loc,.tup (b.map F')) S:=by
  have:=qM (k:=.loc) (rs:=a++r::b) (lo:=a5 ((a.length+1:Nat):Int)) (hi:=bD);rw[mw,show a++r::b=(a++[r])++b by simp,Sr (by simp),show(a++[r])++b=a++r::b by simp]at this;show lL (fA rfl) (lK (bN i aw trivial dv)) lJ trivial this
 show cV (p:=0) (st:=[a5 (.A',IJ (a++b) (past++[a++r::b])),e,f,g]) #[rfl,by decide] Hj (ax (aU (ae (fA rfl) (ae (uU rfl rfl) ao)) trivial h) bt
  (cn t (λz=>by cases z) λ_=>bu (iX (st:=S) rfl (ae (bN s1 s2 trivial (qN (by simp at v;lia))) ao) trivial rfl (o (a++r::b) (a++b) past c d u) (.inr rfl)) cz)) rfl rfl
end
end K
namespace TM
open PySem L2 Jc
def sY(h:Jg 50 u=a8):bT .ne u u=a5 b6:=by
 simp only[bT];rw[ę #[h,h],nQ 50 u h];rfl
end TM
namespace K
open PySem L2 TM Jc Od KL
section
abbrev lb(rs:List Row):U:=.lst (rs.map F')
abbrev Js(p:List (List Row)):List U:=p.map lb
def ja(p:List (List Row))(a:List Row):Js (p++[a])=Js p++[lb a]:=by simp[Js]
def pE(p:List (List Row)):(Js p).length=p.length:=by simp[Js]
def sZ(n:Nat)(rs:List Row):Jg (n+3) (lb rs)=a8:=by
 unfold lb;rw[Jg];show pC n rs
structure Gd(names:List Str)(n:Nat)(rs:List Row):Prop where
 ok:∀r∈rs,gM names r
 ln:rs.length<=n
 ky:(rs.map keyOf).Nodup
def Gd.bk(h:Gd names n rows)(a:n<=50):Bk names rows:=#[h.ok,vr h.ln a]
def Gd.up(h:Gd names n rows):Gd names (n+1) rows:=#[h.ok,Nat.le_succ_of_le h.ln,h.ky]
def Gd.snoc(a:Gd names n rows)(c:gM names r)(hk:∀s∈rows,keyOf s≠keyOf r):Gd names (n+1) (rows++[r]):=by
 have:=a.ln;show#[λx b=>?_,by simp;lia,?_]
 .rcases i'.mp b with h|h
  .show a.ok x h
  .rw[i8.mp h];show c
 .rw[mu,ri];show#[a.ky,by simp,λx b y d e=>?_];have(s,hs,rfl):=kj.mp b;have:y=keyOf r:=by simpa using d
  show hk s hs (e.trans this)
def qO(g:∀s∈rows,s.2.length<=8)(hl:rows.length<=100)(i:r.2.length<=8):bW Γ dM [lb rows,F' r]=a5 (.ok (.loc,.bl (rows.any λs=>K9 s r))):=by
 have hsz:(1000:Nat)<=cK:=by decide
 let a:Option (Kd×U):=a5 (.any,lb rows);let b:Option (Kd×U):=a5 (.loc,F' r);have h:TM.start [lb rows,F' r] 2=[a,b]:=by simp[TM.start,fw,lb,IQ,a,b]
 have c:∀(k:Kd) (x:Row),gS (k,F' x) (.int 0)=a5 (kE k,.str x.1):=λ_ _=>rfl;have d:∀(k:Kd) (x:Row),gS (k,F' x) (.int 1)=a5 (kE k,.tup (x.2.map .str)):=λ_ _=>rfl;have f:=l0 (cond:=aP Γ [.and [.cmp .eq (.idx (.var 0) (.cst (.int 0))) (.idx (.var 2) (.cst (.int 0))),.cmp .eq (.bi .sorted [.idx (.var 0) (.cst (.int 1))]) (.bi .sorted [.idx (.var 2) (.cst (.int 1))])]]) (elt:=ev Γ (.var 0)) (src:=[(.any,lb rows)]) (st:=[a,b]) trivial .any (.inr rfl) F' F' (λs=>K9 s r) .any rows [] (by simp;lia)
  (λs hs=>by
   have:=g s hs;have e:K9 s r=(cb (s.1=r.1)&&cb (bF s.2=bF r.2)):=by
    unfold K9 keyOf;rw[IV];simp
   rw[e];show#[da (jN (lZ (bA (br (az rfl) aw trivial (c _ s)) (br (af rfl) aw trivial (c _ r)) trivial uO) λ_=>da (bA (dH (ae (br (az rfl) aw trivial (d _ s)) ao) trivial (sorted_strs ⋯)) (dH (ae (br (af rfl) aw trivial (d _ r)) ao) trivial (sorted_strs ⋯)) trivial qC))),λ_=>#[az rfl,jM (fw s)]])
 rw[my]at f;show aI rfl (.inr rfl) h (bu (iS (cG (rs:=[(.any,lb rows)]) (ae (az rfl) ao) trivial (by change a5 _=_;rw[ke];rfl) f) ig trivial ?_) cz);change bT .ne (lb (rows.filter λs=>K9 s r)) (.lst [])=_;rw[lb,eU (sZ 47 _),Vc];congr 1
 rw[IV];simp
end
section
abbrev Hk(Γ:Tab)(names:List Str):Prop:=∀rs (x:Row) p,Bk names rs->Bk names (rs++[x])->gM names x->(∀s∈rs,keyOf s≠keyOf x)->p.length<=100->Γ "Shelf.put" [IJ rs p,.str x.1,.lst (x.2.map .str)]=a5 (.ok (.loc,.tup [KJ rs (rs++[x]),IJ (rs++[x]) (p++[rs])]))
abbrev Hl(Γ:Tab)(names:List Str):Prop:=∀(a b:List Row) (x:Row) (ts:List Str) p,Bk names (a++x::b)->Bk names (a++b)->keyOf (x.1,ts)=keyOf x->ts.length<64->(∀y∈a,keyOf y≠keyOf x)->p.length<=100->Γ "Shelf.take" [IJ (a++x::b) p,.str x.1,.lst (ts.map .str)]=a5 (.ok (.loc,.tup [KJ (a++x::b) (a++b),IJ (a++b) (p++[a++x::b])]))
abbrev Hm(Γ:Tab)(names:List Str):Prop:=∀rs a p,Bk names rs->Bk names a->Γ "Shelf.back" [IJ rs (p++[a])]=a5 (.ok (.loc,.tup [KJ rs a,IJ a p]))
abbrev Hn(Γ:Tab):Prop:=∀(rs:List Row) (x:Row),(∀s∈rs,s.2.length<=8)->rs.length<=100->x.2.length<=8->Γ "_law_stands" [lb rs,F' x]=a5 (.ok (.loc,.bl (rs.any λs=>K9 s x)))
abbrev Fg(Γ:Tab)(names:List Str):Prop:=∀rs:List Row,Bk names rs->(lw rs).length<64/\Γ "_law_learnt" [lb rs]=a5 (.ok (.own,.lst ((lw rs).map .str)))
structure SH(Γ:Tab)(names:List Str):Prop where
 bk:∀rs p,Γ "Shelf.book" [IJ rs p]=a5 (.ok (.loc,.tup [tb rs,IJ rs p]))
 ln:∀rs p,Bk names rs->Γ "Shelf.learnt_now" [IJ rs p]=a5 (.ok (.own,.tup [.lst ((lw rs).map .str),IJ rs p]))
 de:∀rs (p:List (List Row)),Γ "Shelf.deeds" [IJ rs p]=a5 (.ok (.loc,.tup [.int (p.length:Nat),IJ rs p]))
theorem Af(n:Nat):∀ss:List Str,bS (n+1) (ss.map U.str)=a8
 |[]=>by simp[bS]
 |s::ss=>by rw[gi,bS,Af n ss];simp[Jg]
theorem qP(n:Nat):∀p:List (List Row),bS (n+3) (Js p)=a8
 |[]=>by simp[Js,bS]
 |a::p=>by rw[Js,gi,bS,sZ n a];show qP n p
def C2(hi:st[i]?=a5 (a5 (.any,.lst (L.map .str))))(b:st[j]?=a5 (a5 (.any,.lst (K.map .str))))(hl:L.length<=1000):Run (ev Γ (.comp 1 b6 .seq [.var i] [.cmp .Iz (.var 0) (.var (j+1))] (.var 0))) st (.own,.lst ((gl K L).map .str)) st:=by
 have hsz:(1000:Nat)<=cK:=by decide
 have a:=l0 (cond:=aP Γ [.cmp .Iz (.var 0) (.var (j+1))]) (elt:=ev Γ (.var 0)) (src:=[(.any,.lst (L.map .str))]) (st:=st) trivial .any (.inr rfl) U.str U.str (λx=>cb (x∉K)) .any L [] (by simp;lia)
  (λx a=>by
   have c:(a5 (Kd.any,U.str x)::st)[j+1]?=a5 (a5 (.any,.lst (K.map .str))):=b;show#[da (bA (az rfl) (az c) trivial eT),λ_=>#[az rfl,jM rfl]])
 rw[my]at a;show cG (rs:=[(.any,.lst (L.map .str))]) (ae (az hi) ao) trivial (by change a5 _=_;rw[ke];rfl) a
def wW(s:A.length<64)(u:B.length<64):oG Γ bJ (bJ.body.drop 1) [.tup [.lst ((gl A B).map .str),.lst ((gl B A).map .str)],.lst (A.map .str),.lst (B.map .str)]=a5 (.ok (.loc,.bl a8)):=by
 have v:=zX A B;have w:=zX B A;let t:U:=.tup [.lst ((gl A B).map .str),.lst ((gl B A).map .str)];let a:Option (Kd×U):=a5 (.loc,t);let b:Option (Kd×U):=a5 (.any,.lst (A.map .str));let d:Option (Kd×U):=a5 (.any,.lst (B.map .str));let f:Option (Kd×U):=a5 (.own,.lst ((gl A B).map .str));let g:Option (Kd×U):=a5 (.own,.lst ((gl B A).map .str));let k:Option (Kd×U):=a5 (.loc,.bl a8);have n:c7 [t,.lst (A.map .str),.lst (B.map .str)] 6=[a,b,d,bD,bD,bD]:=by simp[c7,IQ,a,b,d]
 let S:aq:=[a,b,d,bD,bD,bD]
 let e:aq:=[a,b,d,f,g,bD]
 have l:∀st:aq,st[0]?=a5 (a5 (.loc,t))->Run (ev Γ (.idx (.var 0) (.cst (.int 0)))) st (.loc,.lst ((gl A B).map .str)) st:=λst h=>br (x:=(.loc,t)) (af h) aw trivial rfl;have m:∀st:aq,st[0]?=a5 (a5 (.loc,t))->Run (ev Γ (.idx (.var 0) (.cst (.int 1)))) st (.loc,.lst ((gl B A).map .str)) st:=λst h=>br (x:=(.loc,t)) (af h) aw trivial rfl;have o:Run (IW Γ (.or [.not (.J4 (.var 0) .tuple),.cmp .ne (.bi .len [.var 0]) (.cst (.int 2)),.not (.J4 (.idx (.var 0) (.cst (.int 0))) .list)])) S b6 S :=
  sD (jO (iT (c:=a8) (nO (x:=(.loc,t)) (af rfl) rfl)) (jO (bA (dH (rs:=[(.loc,t)]) (ae (af rfl) ao) trivial (r:=(.loc,.int 2)) rfl) aw trivial (sY rfl)) (lN (iT (c:=a8) (nO (l S rfl) rfl)))))
 have cl:∀L:List Str,bT .eq (.lst (L.map .str)) (.lst (L.map .str))=a5 a8:=λL=>by rw[qC];simp
 have gg:Run (ev Γ (.and [.J4 (.idx (.var 0) (.cst (.int 1))) .list,.cmp .eq (.idx (.var 0) (.cst (.int 0))) (.var 3),.cmp .eq (.idx (.var 0) (.cst (.int 1))) (.var 4)])) e (.loc,.bl a8) e :=
  uH (pj (p:=a8) (q:=a8) (zB (m e rfl) rfl) λ_=>pj (p:=a8) (q:=a8) (iS (l e rfl) (aA rfl) #[#[.own,rfl,rfl],trivial] (cl _)) λ_=>oW (iS (m e rfl) (aA rfl) #[#[.own,rfl,rfl],trivial] (cl _)))
 show zO (st:=[a,b,d,f,g,k]) #[rfl,by decide] n (cn o (λz=>by cases z) λ_=>ax (C2 (i:=2) (j:=1) (st:=S) rfl rfl ⋯) bt (ax (C2 (i:=1) (j:=2) (st:=[a,b,d,f,bD,bD]) rfl rfl ⋯) bt (ax gg aN (Hg (st:=[a,b,d,f,g,k]) rfl rfl #[by simp;lia,by simp;lia])))) rfl
abbrev Iv:List TM.S:=[.ite (.or [.not (.J4 (.var 4) .tuple),.not (.J4 (.idx (.var 4) (.cst (.int 1))) .tuple)]) [.ret (.cst (.bl b6))] []]
def wX(n:Fg Γ names)(i:SH Γ names)(l:Bk names rows):fI Γ du 0 (du.body.drop 1) [IJ rows past,lb rows,.lst (Js past)]=a5 (.ok (.loc,.tup [.bl a8,IJ rows past])):=by
 have hsz:(2000:Nat)<=cK:=by decide
 have(I,s):=n rows l;let o:Option (Kd×U):=a5 (.A',IJ rows past);let a:Option (Kd×U):=a5 (.any,lb rows);let b:Option (Kd×U):=a5 (.any,.lst (Js past));let f:Option (Kd×U):=a5 (.loc,tb rows);let m:Option (Kd×U):=a5 (.own,.lst ((lw rows).map .str));let h:Option (Kd×U):=a5 (.own,.lst ((lw rows).map .str++[.str "x"]));let j:Option (Kd×U):=a5 (.loc,.int (past.length:Nat));have v:ba 0 [IJ rows past,lb rows,.lst (Js past)] 7=[o,a,b,bD,bD,bD,bD]:=by simp[ba,lb,IQ,o,a,b]
 have w:Run (ev Γ (.Kq "Shelf.book" "book" 0 [])) [o,a,b,bD,bD,bD,bD] (.loc,tb rows) [o,a,b,bD,bD,bD,bD]:=iX (rs:=[]) (u:=tb rows) (us:=Jn past) rfl ao trivial rfl (i.bk rows past) (.inr rfl);have y:Run (IW Γ (.or [.not (.J4 (.var 3) .tuple),.cmp .ne (.var 3) (.bi .tuple [.var 1])])) [o,a,b,f,bD,bD,bD] b6 [o,a,b,f,bD,bD,bD] :=
  sD (jO (iT (c:=a8) (nO (x:=(.loc,tb rows)) (af rfl) rfl)) (lN (bA (af rfl) (dH (rs:=[(.any,lb rows)]) (r:=(.any,tb rows)) (ae (az rfl) ao) trivial rfl) trivial (sY (zW 47 rows)))))
 have(st',A,g,e):=eu (t:=b6) (is:=[4]) (body:=execs Γ Iv) (rs:=[(.loc,tb rows)]) (λx:Row=>(Kd.loc,F' x)) (λ_ _ st=>∃g,st=[o,a,b,f,g,bD,bD]) (λ_ _ _ _=>trivial) (λd k r st B=>by
   have(g,e):=B;subst e;show#[_,_,fu aN,cn (sD (jO (iT (c:=a8) (nO (x:=(.loc,F' k)) (af rfl) rfl)) (lN (iT (c:=a8) (nO (x:=(.loc,.tup (k.2.map .str))) (br (x:=(.loc,F' k)) (af rfl) aw trivial rfl) rfl))))) (λz=>by cases z) λ_=>a9,_,rfl]) rows [] [o,a,b,f,bD,bD,bD] ⟨_,rfl⟩
 subst e;have C:Run (ev Γ (.Kq "Shelf.learnt_now" "learnt_now" 0 [])) [o,a,b,f,g,bD,bD] (.own,.lst ((lw rows).map .str)) [o,a,b,f,g,bD,bD]:=iX (rs:=[]) (u:=tb rows) (us:=Jn past) rfl ao trivial rfl (i.ln rows past l) (.inl rfl);have D:Run (IW Γ (.or [.not (.J4 (.var 5) .list),.cmp .ne (.var 5) (.call "_law_learnt" [.var 1])])) [o,a,b,f,g,m,bD] b6 [o,a,b,f,g,m,bD] :=
  sD (jO (iT (c:=a8) (nO (aA rfl) rfl)) (lN (bA (aA rfl) (aU (rs:=[(.any,lb rows)]) (ae (az rfl) ao) trivial s) #[#[.own,rfl,rfl],trivial] (sY (by rw[Jg];show Af 48 _)))))
 have G:Run (ev Γ (.Kq "Shelf.deeds" "deeds" 0 [])) [o,a,b,f,g,h,bD] (.loc,.int (past.length:Nat)) [o,a,b,f,g,h,bD]:=iX (rs:=[]) (u:=tb rows) (us:=Jn past) rfl ao trivial rfl (i.de rows past) (.inr rfl);have gl:J5 .len [(Kd.any,U.lst (Js past))]=a5 (.loc,.int (past.length:Nat)):=by
  have:=kn (k:=.any) (xs:=Js past);rw[pE]at this;show this
 have H:Run (ev Γ (.and [.J4 (.var 6) .int,.not (.J4 (.var 6) .bool),.cmp .eq (.var 6) (.bi .len [.var 2])])) [o,a,b,f,g,h,j] (.loc,.bl a8) [o,a,b,f,g,h,j] :=
  uH (pj (p:=a8) (q:=a8) (zB (af rfl) rfl) λ_=>pj (p:=a8) (q:=a8) (Iu (c:=b6) (zB (af rfl) rfl)) λ_=>oW (iS (af rfl) (dH (ae (az rfl) ao) trivial gl) trivial (fY (by simp))))
 show cV (p:=0) (st:=[o,a,b,f,g,h,j]) #[rfl,by decide] v (ax w aN (cn y (λz=>by cases z) λ_=>fD (rs:=[(.loc,tb rows)]) (ae (af rfl) ao) trivial (by change a5 _=_;rw[ke];rfl) rfl A (ax C bt (cn D (λz=>by cases z) λ_=>lP (k:=.own) (k':=.own) rfl aw bo rfl rfl (by simp;lia) (ax G aN (bu H cz)))))) rfl rfl
end
section
def Ag(h:ts.Perm s.2):keyOf (s.1,ts)=keyOf s:=by
 unfold keyOf;rw[jH h]
def qQ(xs:List α)(k:Nat):(xs.drop k++xs.take k).reverse.Perm xs:=(List.reverse_perm _).trans (List.perm_append_comm.trans (by rw[Sw]))
def qR(hk:isAny k=b6):j3 (k,.lst (ss.map .str)) lo hi=a5 (.own,.lst ((cut ss lo hi).map .str)):=by
 change(if gC k (ss.map U.str)=a8 then _ else _)=_;rw[ę (by unfold gC;rw[hk];rfl)];unfold cut;rw[cN,WJ,WK]
def qS:j3 (.loc,lb rows) lo hi=a5 (.own,lb (cut rows lo hi)):=by
 unfold lb;show(show j3 (.loc,.lst (rows.map F')) lo hi=a5 (.own,.lst (cut (rows.map F') lo hi)) from rfl).trans ?_;unfold cut;rw[cN,WJ,WK]
def wY{es:List Int}(hS:Hn Γ)(hT:zx Γ)(UY:Hk Γ names)(UZ:Hl Γ names)(U0:Hm Γ names)(MY:es.length=14)(h0:∀d∈es,0<=d)(LX:0<names.length)(hn:n<=48)(hp:past.length<=98)(hA:∀x∈past++[rows],Gd names n x):
  ∃(D:List (List Row)) (G:List Row),(∀x∈D++[G],Gd names (n+1) x)/\D.length<=past.length+1 /\
   ((D=past/\G=rows/\mL Γ cH [4] (cH.body.drop 1) [IJ rows past,.lst (es.map .int),.lst (names.map .str),lb rows,.lst (Js past)]=a5 (.ok (.loc,.tup [.IC,IJ rows past,.lst (Js past)]))) \/
    mL Γ cH [4] (cH.body.drop 1) [IJ rows past,.lst (es.map .int),.lst (names.map .str),lb rows,.lst (Js past)]=a5 (.ok (.A',.tup [.tup [KJ rows G,lb G],IJ G D,.lst (Js D)]))):=by
 have hsz:(2000:Nat)<=cK:=by decide
 have y:=hA rows (by simp);have RN:=y.ln;have up:∀x∈past++[rows],Gd names (n+1) x:=λx w=>(hA x w).up;have(told,t1,t2,t3,t4):=hT es names ⋯ h0 LX;have Rg:(0:Int)<((names.map U.str).length:Nat):=by simp;lia
 have(b,U1,TR):=uL (xs:=names) (t:=((names.map U.str).length:Nat)) (eS h0 0) Rg (by simp);have hr:gM names (b,told):=#[U1,t1,t2,t3]
 have h8:=hr.La;have ix:∀i:Nat,i<14->Je (es.map U.int) (i:Int)=a5 (.int (dd es i)):=λi hi=>cB (i:=i) ⋯;let o0:Option (Kd×U):=a5 (.A',IJ rows past);let c:Option (Kd×U):=a5 (.any,.lst (es.map .int));let f:Option (Kd×U):=a5 (.any,.lst (names.map .str));let g:Option (Kd×U):=a5 (.loc,lb rows);let q:Option (Kd×U):=a5 (.io,.lst (Js past));let o:Option (Kd×U):=a5 (.loc,F' (b,told));let v:Option (Kd×U):=a5 (.loc,.int (dd es 11 % 8));have N:cv [4] [IJ rows past,.lst (es.map .int),.lst (names.map .str),lb rows,.lst (Js past)] 13=[o0,c,f,g,q,bD,bD,bD,bD,bD,bD,bD,bD]:=by
  simp[cv,IQ,lb,o0,c,f,g,q]
 have O:∀(i:Nat) (st:aq),i<14->st[1]?=a5 (a5 (.any,.lst (es.map .int)))->Run (ev Γ (.idx (.var 1) (.cst (.int i)))) st (.any,.int (dd es i)) st:=λi st hi h=>br (az h) aw trivial (bf (ix i hi));have Q:Run (ev Γ (.tup [.idx (.var 2) (.bin .mod (.idx (.var 1) (.cst (.int 0))) (.bi .len [.var 2])),.call "_law_told" [.var 1,.var 2]])) [o0,c,f,g,q,bD,bD,bD,bD,bD,bD,bD,bD] (.loc,F' (b,told)) [o0,c,f,g,q,bD,bD,bD,bD,bD,bD,bD,bD] :=
  lM (us:=[.str b,.tup (told.map .str)]) (ae (br (az rfl) (bN (O 0 _ ⋯ rfl) (dH (ae (az rfl) ao) trivial kn) trivial (b7 Rg)) trivial (bf TR)) (ae (aU (ae (az rfl) (ae (az rfl) ao)) trivial t4) ao)) trivial (bh (jM rfl) (bh bo bx)) (by change 2<=cK;lia)
 have Y:Run (ev Γ (.bin .mod (.idx (.var 1) (.cst (.int 11))) (.cst (.int 8)))) [o0,c,f,g,q,o,bD,bD,bD,bD,bD,bD,bD] (.loc,.int (dd es 11 % 8)) [o0,c,f,g,q,o,bD,bD,bD,bD,bD,bD,bD]:=bN (O 11 _ ⋯ rfl) aw trivial (b7 (by decide));let S:aq:=[o0,c,f,g,q,o,v,bD,bD,bD,bD,bD,bD]
 have C:Run (IW Γ (.and [.cmp .eq (.var 6) (.cst (.int 7)),.cmp .ne (.var 4) (.lst [])])) S ((dd es 11 % 8==7)&&!past.isEmpty) S:=by
  have e:=eU (us:=Js past) (by rw[Jg];show qP 46 past);rw[show(Js past).isEmpty=past.isEmpty by cases past<;>rfl]at e;show jN (lZ (bA (af rfl) aw trivial (fY rfl)) λ_=>da (bA (fX (k:=.io) rfl) ig #[#[.io,rfl,rfl],trivial] e))
 cases hc:((dd es 11 % 8==7)&&!past.isEmpty) with
 |true =>
  rw[hc]at C;rw[b5,sx,WC]at hc;rcases List.eq_nil_or_concat past with z|⟨p,a,z⟩
  .show absurd z hc.2
  rw[List.concat_eq_append]at z;subst z;have Ur:=hA a (by simp);have e:=U0 rows a p (y.bk ⋯) (Ur.bk ⋯);show#[p,a,λx w=>up x (Qk _ w),by simp;lia,.inr ?_];have QG:=G6 (Γ:=Γ) (st:=S) (i:=4) (k:=.io) (us:=Js (p++[a])) (u:=lb a) rfl rfl (by rw[ja];simp);rw[show(Js (p++[a])).dropLast=Js p by rw[ja,Yn]]at QG;let A:Option (Kd×U):=a5 (.io,.lst (Js p));let i7:Option (Kd×U):=a5 (.loc,lb a);show iY (st:=[a5 (.A',IJ a p),c,f,g,A,o,v,i7,bD,bD,bD,bD,bD]) #[rfl,by decide] N (ax Q aN (ax Y aN (cn C (λ_=>ax QG aN
   (zN (rs:=[]) (u0:=tb rows) (us0:=Jn (p++[a])) (u:=tb rows) (us:=Jn (p++[a])) rfl ao trivial rfl e (af rfl) bo)) λz=>by cases z))) rfl rfl rfl
 |false =>
  rw[hc]at C;have H:Run (IW Γ (.and [.cmp .gt (.var 6) (.cst (.int 4)),.cmp .ne (.var 3) (.lst [])])) S (cb (4<dd es 11 % 8)&&!rows.isEmpty) S:=by
   have e:=eU (us:=rows.map F') (sZ 47 rows);rw[Vc]at e;show jN (lZ (bA (af rfl) aw trivial rfl) λ_=>da (bA (af rfl) ig trivial e))
  cases hd:(cb (4<dd es 11 % 8)&&!rows.isEmpty) with
  |true =>
   rw[hd]at H;rw[b5,sx,WC]at hd;have OA:0<rows.length:=Y0.mpr hd.2;have Jm:dd es 12 % (rows.length:Nat)<(rows.length:Nat):=Rn _ ⋯;have Zu:0<=dd es 12 % (rows.length:Nat):=QC _ ⋯;have(m,hm):=OT Zu;have Wl:m<rows.length:=by lia
   let u:Row:=rows[m];have Zv:u∈rows:=DD Wl;have OZ:rows=rows.take m++u::rows.drop (m+1):=by rw[List.getElem_cons_drop,Sw]
   have Wm:=y.ky;rw[OZ,mu,gi,ri]at Wm;have ha:∀x∈rows.take m,keyOf x≠keyOf u:=λx w e=>Wm.2.2 _ (kj.mpr #[x,w,rfl]) _ k9 e;have I:Gd names n (rows.take m++rows.drop (m+1)):=by
    show#[λx w=>y.ok x ?_,by simp;lia,?_]
    .rcases i'.mp w with h|h
     .show Sz h
     .show List.mem_of_mem_drop h
    .have:=y.ky;rw[OZ,mu,gi]at this;rw[mu];show this.sublist ((Ć _).append (List.sublist_cons_self _ _))
   have ZZ:=(y.ok u Zv).La;let l:Nat:=(dd es 13 % ((u.2.length:Nat)+1)).toNat;have Zw:dd es 13 % ((u.2.length:Nat)+1)=(l:Nat):=(QM (QC _ ⋯)).symm;let ts:List Str:=(u.2.drop l++u.2.take l).reverse;have L8:keyOf (u.1,ts)=keyOf u:=Ag (qQ u.2 l);have MI:ts.length=u.2.length:=(qQ u.2 l).length_eq;have e:=UZ (rows.take m) (rows.drop (m+1)) u ts past (by rw[<-OZ];show y.bk ⋯) (I.bk ⋯) L8 ⋯ ha ⋯;rw[<-OZ]at e;show#[past++[rows],rows.take m++rows.drop (m+1),λx w=>?_,by simp,.inr ?_]
   .rcases i'.mp w with h|h
    .show up x h
    .rw[i8.mp h];show I.up
   let B:Option (Kd×U):=a5 (.loc,.int (m:Nat));let J:Option (Kd×U):=a5 (.own,.lst (u.2.map .str));let Wn:Option (Kd×U):=a5 (.loc,.int (l:Nat));let A:Option (Kd×U):=a5 (.io,.lst (Js past++[lb rows]));let o1:Option (Kd×U):=a5 (.A',IJ (rows.take m++rows.drop (m+1)) (past++[rows]));have J7:Je (rows.map F') (m:Int)=a5 (F' u):=bE (by rw[nc,ve Wl];rfl);have L:J5 .len [(Kd.loc,lb rows)]=a5 (.loc,.int (rows.length:Nat)):=by
    have:=kn (k:=.loc) (xs:=rows.map F');rw[cN]at this;show this
   have g8:Run (ev Γ (.bin .mod (.idx (.var 1) (.cst (.int 12))) (.bi .len [.var 3]))) S (.loc,.int (m:Nat)) S:=by
    have:=bN (Γ:=Γ) (O 12 S ⋯ rfl) (dH (rs:=[(.loc,lb rows)]) (es:=[.var 3]) (ae (af (i:=3) rfl) ao) trivial L) trivial (b7 (k:=.any) (k':=.loc) (i:=dd es 12) (j:=(rows.length:Nat)) ⋯);rw[hm]at this;show this
   have gu:∀st:aq,st[3]?=a5 (a5 (.loc,lb rows))->st[8]?=a5 (a5 (.loc,.int (m:Nat)))->Run (ev Γ (.idx (.var 3) (.var 8))) st (.loc,F' u) st:=λst h h'=>br (x:=(.loc,lb rows)) (af h) (af h') trivial (bf J7);have g9:Run (ev Γ (.bi .list [.idx (.idx (.var 3) (.var 8)) (.cst (.int 1))])) [o0,c,f,g,q,o,v,bD,B,bD,bD,bD,bD] (.own,.lst (u.2.map .str)) [o0,c,f,g,q,o,v,bD,B,bD,bD,bD,bD] :=
    dH (rs:=[(.loc,.tup (u.2.map .str))]) (ae (br (x:=(.loc,F' u)) (gu _ rfl rfl) aw trivial rfl) ao) trivial rfl
   have QI:J5 .len [(Kd.bor 9,U.lst (u.2.map .str))]=a5 (.loc,.int (u.2.length:Nat)):=by
    have:=kn (k:=.bor 9) (xs:=u.2.map U.str);rw[cN]at this;show this
   have Zx:Run (ev Γ (.bin .mod (.idx (.var 1) (.cst (.int 13))) (.bin .add (.bi .len [.var 9]) (.cst (.int 1))))) [o0,c,f,g,q,o,v,bD,B,J,bD,bD,bD] (.loc,.int (l:Nat)) [o0,c,f,g,q,o,v,bD,B,J,bD,bD,bD]:=by
    have:=bN (Γ:=Γ) (O 13 [o0,c,f,g,q,o,v,bD,B,J,bD,bD,bD] ⋯ rfl) (bN (dH (ae (aA rfl) ao) #[#[.own,rfl,rfl],trivial] QI) (aw (u:=.int 1)) trivial (dv (k:=.loc) (k':=.loc) (i:=(u.2.length:Nat)) (j:=1))) trivial (b7 (k:=.any) (k':=.loc) (i:=dd es 13) (j:=(u.2.length:Nat)+1) ⋯);rw[Zw]at this;show this
   let T:aq:=[o0,c,f,g,A,o,v,bD,B,J,Wn,bD,bD]
   have s1:Run (ev Γ (.Kg (.var 9) [.var 10] [])) T (.own,.lst ((u.2.drop l).map .str)) T:=by
    have:=lL (Γ:=Γ) (st:=T) (r:=(.own,.lst ((u.2.drop l).map .str))) (aA (i:=9) rfl) (lK (af (i:=10) rfl)) lJ #[#[.own,rfl,rfl],trivial] (by rw[qR rfl,mw]);show this
   have s2:Run (ev Γ (.Kg (.var 9) [] [.var 10])) T (.own,.lst ((u.2.take l).map .str)) T:=by
    have:=lL (Γ:=Γ) (st:=T) (r:=(.own,.lst ((u.2.take l).map .str))) (aA (i:=9) rfl) lJ (lK (af (i:=10) rfl)) #[#[.own,rfl,rfl],trivial] (by rw[qR rfl,sX]);show this
   have s3:Run (ev Γ (.ME .KW [.bin .add (.Kg (.var 9) [.var 10] []) (.Kg (.var 9) [] [.var 10])])) T (.own,.lst (ts.map .str)) T:=by
    have a:=l7 (k:=.own) (k':=.own) (xs:=(u.2.drop l).map U.str) (ys:=(u.2.take l).map U.str) (by simp;lia) rfl rfl;rw[<-mu]at a;show CN (rs:=[(.own,.lst ((u.2.drop l++u.2.take l).map .str))]) (ae (bN s1 s2 trivial a) ao) trivial ?_;change a5 (Kd.own,U.lst ((u.2.drop l++u.2.take l).map U.str).reverse)=_;rw[<-List.map_reverse]
   let T2:aq:=[o1,c,f,g,A,o,v,bD,B,J,Wn,bD,bD]
   have s4:Run (ev Γ (.bin .add (.Kg (.var 3) [] [.var 8]) (.Kg (.var 3) [.bin .add (.var 8) (.cst (.int 1))] []))) T2 (.own,lb (rows.take m++rows.drop (m+1))) T2:=by
    have a:=l7 (k:=.own) (k':=.own) (xs:=(rows.take m).map F') (ys:=(rows.drop (m+1)).map F') (by simp;lia) rfl rfl;rw[<-mu]at a;show bN (lL (r:=(.own,lb (rows.take m))) (af (i:=3) rfl) lJ (lK (af (i:=8) rfl)) trivial (by rw[qS,sX])) (lL (r:=(.own,lb (rows.drop (m+1)))) (af (i:=3) rfl) (lK (i:=((m+1:Nat):Int)) (bN (af (i:=8) rfl) aw trivial dv)) lJ trivial (by rw[qS,mw])) trivial a
   simp only[ja];show iY (st:=T2) #[rfl,by decide] N (ax Q aN (ax Y aN (cn C (λz=>by cases z) λ_=>cn H (λ_=>ax g8 aN (ax g9 bt (ax Zx aN
    (lP (k:=.io) (k':=.io) rfl (af rfl) bo rfl rfl (by rw[pE];lia)
     (zN (rs:=[(.loc,.str u.1),(.own,.lst (ts.map .str))]) (u0:=tb rows) (us0:=Jn past) (u:=tb rows) (us:=Jn past) rfl (ae (br (x:=(.loc,F' u)) (gu T rfl rfl) aw trivial rfl) (ae s3 ao)) trivial rfl e s4 qu))))) λz=>by cases z))) rfl rfl rfl
  |false =>
   rw[hd]at H;have ts:Run (IW Γ (.call "_law_stands" [.var 3,.var 5])) S (rows.any λs=>K9 s (b,told)) S:=sR (ae (af rfl) (ae (af rfl) ao)) trivial (hS rows (b,told) (λs hs=>(y.ok s hs).La) ⋯ h8) rfl;cases hs:rows.any λs=>K9 s (b,told) with
   |true =>
    rw[hs]at ts;show#[past,rows,up,⋯,.inl #[rfl,rfl,?_]];show iY (st:=S) #[rfl,by decide] N (ax Q aN (ax Y aN (cn C (λz=>by cases z) λ_=>cn H (λz=>by cases z) λ_=>cn ts (λ_=>bu aw cz) λz=>by cases z))) rfl rfl rfl
   |false =>
    rw[hs]at ts;have hk:∀s∈rows,keyOf s≠keyOf (b,told):=λs h e=>by
     have:=Z1.mp hs s h;show this (Ĝ e)
    have I:=y.snoc hr hk;have e:=UY rows (b,told) past (y.bk ⋯) (I.bk ⋯) hr hk ⋯;show#[past++[rows],rows++[(b,told)],λx w=>?_,by simp,.inr ?_]
    .rcases i'.mp w with h|h
     .show up x h
     .rw[i8.mp h];show I
    let A:Option (Kd×U):=a5 (.io,.lst (Js past++[lb rows]));let Z0:Option (Kd×U):=a5 (.own,.lst (told.map .str));let U2:Option (Kd×U):=a5 (.own,.lst (told.map .str++[.str "x"]));let o1:Option (Kd×U):=a5 (.A',IJ (rows++[(b,told)]) (past++[rows]));have gp:Run (ev Γ (.bin .add (.var 3) (.lst [.var 5]))) [o1,c,f,g,A,o,v,bD,bD,bD,bD,U2,bD] (.own,lb (rows++[(b,told)])) [o1,c,f,g,A,o,v,bD,bD,bD,bD,U2,bD]:=by
     show bN (af rfl) (d8 (us:=[F' (b,told)]) (ae (af rfl) ao) trivial (bh bo bx) (by change 1<=cK;lia)) trivial ?_;have:=l7 (k:=.loc) (k':=.own) (xs:=rows.map F') (ys:=[F' (b,told)]) (by simp;lia) rfl rfl;rw[show rows.map F'++[F' (b,told)]=(rows++[(b,told)]).map F' by simp]at this;show this
    simp only[ja];show iY (st:=[o1,c,f,g,A,o,v,bD,bD,bD,bD,U2,bD]) #[rfl,by decide] N (ax Q aN (ax Y aN (cn C (λz=>by cases z) λ_=>cn H (λz=>by cases z) λ_=>cn ts (λz=>by cases z) λ_ =>
     lP (k:=.io) (k':=.io) rfl (af rfl) bo rfl rfl (by rw[pE];lia)
      (ax (dH (rs:=[(.loc,.tup (told.map .str))]) (ae (br (x:=(.loc,F' (b,told))) (af rfl) aw trivial rfl) ao) trivial rfl) bt
       (Fe (rs:=[(.loc,.str b),(.bor 11,.lst (told.map .str))]) (u0:=tb rows) (us0:=Jn past) (u:=tb rows) (us:=Jn past) (k:=.own) rfl (ae (br (x:=(.loc,F' (b,told))) (af rfl) aw trivial rfl) (ae (aA rfl) ao)) #[#[.own,rfl,rfl],trivial] rfl e rfl rfl rfl (by simp;lia) gp qu))))) rfl rfl rfl
end
section
structure LH(Γ:Tab)(names:List Str):Prop where
 cell:lX Γ
 drawn:iV Γ
 ll:Fg Γ names
 right:∀rows past,Bk names rows->Γ "_law_right" [IJ rows past,lb rows,.lst (Js past)]=a5 (.ok (.loc,.tup [.bl a8,IJ rows past]))
 tr:∀A B:List Str,A.length<64->B.length<64->Γ "_law_turn_right" [.tup [.lst ((gl A B).map .str),.lst ((gl B A).map .str)],.lst (A.map .str),.lst (B.map .str)]=a5 (.ok (.loc,.bl a8))
 QJ:∀(n:Nat) (past:List (List Row)) (rows:List Row) (es:List Int),es.length=14->(∀d∈es,0<=d)->n<=48->past.length<=98->(∀x∈past++[rows],Gd names n x) ->
  ∃(IG:List (List Row)) (D':List Row),(∀x∈IG++[D'],Gd names (n+1) x)/\IG.length<=past.length+1 /\
   ((IG=past/\D'=rows/\Γ "_law_deed" [IJ rows past,.lst (es.map .int),.lst (names.map .str),lb rows,.lst (Js past)]=a5 (.ok (.loc,.tup [.IC,IJ rows past,.lst (Js past)]))) \/
    Γ "_law_deed" [IJ rows past,.lst (es.map .int),.lst (names.map .str),lb rows,.lst (Js past)]=a5 (.ok (.A',.tup [.tup [KJ rows D',lb D'],IJ D' IG,.lst (Js IG)])))
abbrev LS(ns ds:List Int)(names:List Str)(rows:List Row)(past:List (List Row))(k:Kd)(o6 o8:Option (Kd×U)):aq :=
 [a5 (.any,.JF (ns.map .int)),a5 (.own,.lst (ds.map .int)),a5 (.own,.lst (names.map .str)),a5 (.A',IJ rows past),a5 (k,lb rows),a5 (.own,.lst (Js past)),o6,bD,o8]
variable{ns ds:List Int}{o6 o8:Option (Kd×U)}{k4:Kd}
def pF(H:LH Γ names)(hk:k4=.own\/k4=.loc)(a:Bk names rows):Run (IW Γ (.not (.J_ "_law_right" 3 [] [.var 4,.var 5]))) (LS ns ds names rows past k4 o6 o8) b6 (LS ns ds names rows past k4 o6 o8):=by
 have e:=H.right rows past a;rcases hk with rfl|rfl
 .show iT (c:=a8) (zJ (es:=[]) (r1:=[]) (r2:=[(.bor 4,lb rows),(.bor 5,.lst (Js past))]) (u0:=tb rows) (us0:=Jn past) (u:=tb rows) (us:=Jn past) rfl ao (ae (aA rfl) (ae (aA rfl) ao)) #[#[.own,rfl,rfl],#[.own,rfl,rfl],trivial] rfl e (.inr rfl) (mh _))
 .show iT (c:=a8) (zJ (es:=[]) (r1:=[]) (r2:=[(.loc,lb rows),(.bor 5,.lst (Js past))]) (u0:=tb rows) (us0:=Jn past) (u:=tb rows) (us:=Jn past) rfl ao (ae (af rfl) (ae (aA rfl) ao)) #[#[.own,rfl,rfl],trivial] rfl e (.inr rfl) (mh _))
structure St(names:List Str)(n:Nat)(past:List (List Row))(rows:List Row):Prop where
 gd:∀x∈past++[rows],Gd names n x
 ln:past.length<=n
abbrev fB:List TM.S:=[.IU 7 "_law_deed" 3 [.call "_law_drawn" [.call "_law_cell" [.var 0,.bin .add (.cst (.int 20)) (.var 6)],.cst (.int 14)],.var 2,.var 4,.var 5] [4] 8 "_law_learnt" 4 "_law_turn_right",.ite (.not (.J_ "_law_right" 3 [] [.var 4,.var 5])) [.ret (.cst (.bl b6))] []]
def Ah(H:LH Γ names){k:Nat}(g:k4=.own\/k4=.loc)(h:St names k past rows)(hk:k<31):∃(b:List (List Row)) (a:List Row) (m:Option (Kd×U)),St names (k+1) b a /\
  Run (execs Γ fB) (LS ns ds names rows past k4 (a5 (.loc,.int (0+(k:Int)))) o8) .nx (LS ns ds names a b .loc (a5 (.loc,.int (0+(k:Int)))) m):=by
 have(z,hz):=H.cell ns (20+k) ⋯;have(es,n,o,p):=H.drawn z 14 ⋯;have y:=h.ln;let d:Option (Kd×U):=a5 (.loc,.int (0+(k:Int)));have q:Γ "_law_cell" [.JF (ns.map .int),.int (20+(0+(k:Int)))]=a5 (.ok (.loc,.int z)):=by
  rw[UH,show(20+(k:Int))=((20+k:Nat):Int) by lia];show hz
 let c:aq:=LS ns ds names rows past .loc d o8;have i:Run (aK Γ [.call "_law_drawn" [.call "_law_cell" [.var 0,.bin .add (.cst (.int 20)) (.var 6)],.cst (.int 14)],.var 2,.var 4,.var 5]) c [(.own,.lst (es.map .int)),(.bor 2,.lst (names.map .str)),(.loc,lb rows),(.bor 5,.lst (Js past))] c :=
  ae (aU (ae (aU (ae (az rfl) (ae (bN aw (af rfl) trivial dv) ao)) trivial q) (ae aw ao)) trivial p) (ae (aA rfl) (ae (af rfl) (ae (aA rfl) ao)))
 have j:=(h.gd rows (by simp)).bk ⋯;have(b,a,f,A,r):=H.QJ k past rows es n o ⋯ ⋯ h.gd;have l:=(f a (by simp)).bk ⋯;rcases r with⟨rfl,rfl,e⟩|e
 .show#[b,a,o8,#[f,⋯],?_];show Fc (st1:=c) (st2:=c) (u0:=tb a) (us0:=Jn b) (u:=tb a) (us:=Jn b) (u':=tb a) (us':=Jn b) (ws:=[.lst (Js b)]) (k0:=k4) rfl g rfl i #[#[.own,rfl,rfl],#[.own,rfl,rfl],trivial] rfl e rfl rfl rfl rfl
   (cn (pF H (.inr rfl) j) (λz=>by cases z) λ_=>a9)
 .show#[b,a,a5 (.own,.lst ((lw rows).map .str)),#[f,⋯],?_];have(s,v):=H.ll rows j;have(w,x):=H.ll a l;let S2:aq:=[a5 (.any,.JF (ns.map .int)),a5 (.own,.lst (ds.map .int)),a5 (.own,.lst (names.map .str)),a5 (.A',IJ a b),a5 (.loc,lb rows),a5 (.own,.lst (Js b)),d,bD,o8]
  show Fd (st1:=c) (st2:=S2) (st3:=S2) (st5:=LS ns ds names a b .loc d (a5 (.own,.lst ((lw rows).map .str)))) (u0:=tb rows) (us0:=Jn past) (u:=tb rows) (us:=Jn past) (u':=tb a) (us':=Jn b) (ws:=[.lst (Js b)]) (k0:=k4) (t:=KJ rows a) (w':=lb a) (rs2:=[(.bor 8,.lst ((lw rows).map .str)),(.own,.lst ((lw a).map .str))]) rfl g rfl i #[#[.own,rfl,rfl],#[.own,rfl,rfl],trivial] rfl e rfl rfl rfl rfl
   (aU (rs:=[(.loc,lb rows)]) (ae (af rfl) ao) trivial v) bt (ae (aA rfl) (ae (aU (rs:=[(.loc,lb a)]) (ae (af rfl) ao) trivial x) ao)) #[#[.own,rfl,rfl],trivial] (H.tr (lw rows) (lw a) s w)
   (cn (pF H (.inr rfl) l) (λz=>by cases z) λ_=>a9)
def Cs(H:LH Γ names)(J:2<=ds.length)(l:∀d∈ds,0<=d)(n:Γ "_law_cell" [.JF (ns.map .int),.int 0]=a5 (.ok (.loc,.int z)))(b:Γ "_law_drawn" [.int z,.int 4]=a5 (.ok (.own,.lst (ds.map .int))))
  (o:Γ "_law_names" [.JF (ns.map .int),.int 1,.int (1+dd ds 0 % 14)]=a5 (.ok (.own,.lst (names.map .str)))):bW Γ uT [.JF (ns.map .int)]=a5 (.ok (.loc,.bl a8)):=by
 have hsz:(2000:Nat)<=cK:=by decide
 have p:Je (ds.map U.int) 0=a5 (.int (dd ds 0)):=cB (i:=0) ⋯;have q:Je (ds.map U.int) 1=a5 (.int (dd ds 1)):=cB (i:=1) ⋯;have L:=eS l 1;have s:TM.start [.JF (ns.map .int)] 9=[a5 (.any,.JF (ns.map .int)),bD,bD,bD,bD,bD,bD,bD,bD]:=rfl;let m:Nat:=(dd ds 1 % 31).toNat;have N:m<=30:=by change(dd ds 1 % 31).toNat<=30;lia
 have(st',u,_,past,rows,k4,h,f,e,hs):=eu (t:=b6) (is:=[6]) (body:=execs Γ fB) (rs:=[(.loc,.int (dd ds 1 % 31))]) (λi:Nat=>(Kd.loc,U.int (0+(i:Int))))
  (λd r st=>d++r=hH m/\∃past rows k4 h f,st=LS ns ds names rows past k4 h f/\(k4=.own\/k4=.loc)/\St names d.length past rows) (λ_ _ _ _=>trivial) (λd k r st v=>by
   have(b,past,rows,k4,h,f,e,w,hs):=v;subst e;have y:k=d.length/\d.length<m:=by
    have hl:=ğ H8 b;simp at hl;have:=ğ (·[d.length]?) b;simp[Te (show d.length<m by lia)]at this;show#[this,⋯]
   have(rfl,O):=y;have(A,B,Q,a,c):=Ah (ns:=ns) (ds:=ds) (o8:=f) H (k:=d.length) w hs ⋯;show#[_,_,fu aN,c,by rw[<-b];simp,A,B,_,_,_,rfl,.inr rfl,by rw[j0,KP];show a]) (hH m) [] (LS ns ds names [] [] .own bD bD) ⟨rfl,[],[],_,_,_,rfl,.inl rfl,⟨λx C=>by rw[i8.mp C];show#[by simp,by simp,by simp],by simp⟩⟩
 subst e;let g:Option (Kd×U):=a5 (.any,.JF (ns.map .int));let j:Option (Kd×U):=a5 (.own,.lst (ds.map .int));have D:Run (ev Γ (.call "_law_drawn" [.call "_law_cell" [.var 0,.cst (.int 0)],.cst (.int 4)])) [g,bD,bD,bD,bD,bD,bD,bD,bD] (.own,.lst (ds.map .int)) [g,bD,bD,bD,bD,bD,bD,bD,bD] :=
  aU (ae (aU (ae (az rfl) (ae aw ao)) trivial n) (ae aw ao)) trivial b
 have G:Run (ev Γ (.call "_law_names" [.var 0,.cst (.int 1),.bin .add (.cst (.int 1)) (.bin .mod (.idx (.var 1) (.cst (.int 0))) (.cst (.int 14)))])) [g,j,bD,bD,bD,bD,bD,bD,bD] (.own,.lst (names.map .str)) [g,j,bD,bD,bD,bD,bD,bD,bD] :=
  aU (ae (az rfl) (ae aw (ae (bN aw (bN (br (aA rfl) aw #[#[.own,rfl,rfl],trivial] (bf p)) aw trivial (b7 (by decide))) trivial dv) ao))) trivial o
 have I:Run (ev Γ (.bin .mod (.idx (.var 1) (.cst (.int 1))) (.cst (.int 31)))) (LS ns ds names [] [] .own bD bD) (.loc,.int (dd ds 1 % 31)) (LS ns ds names [] [] .own bD bD):=bN (br (aA rfl) aw #[#[.own,rfl,rfl],trivial] (bf q)) aw trivial (b7 (by decide));show aI rfl (.inr rfl) s (ax D bt (ax G bt (E9 (ax ig bt (ax ig bt
  (cn (pF (rows:=[]) (past:=[]) H (.inl rfl) #[by simp,by simp]) (λz=>by cases z) λ_ =>
   fD (rs:=[(.loc,.int (dd ds 1 % 31))]) (ae I ao) trivial (pd ⋯ ⋯) rfl u (bu aw cz)))))))
end
def makers:zA prog:=#[rfl,rfl,rfl,rfl,rfl,rfl]
def Zz:Wk prog:=#[rfl,rfl,rfl,rfl,rfl]
section
def Wq(n:Nat)(d:names.length<=24):UU (IZ prog (n+5)) "learnt" names:=λrs h=>by
 have hl:=h.ln;have(f,a,b,c):=Cg Zz n h.ok d ⋯;have e:=C0 (Kn.of a);rw[e];show#[?_,(aE (show Jh prog "learnt" KL.eV from rfl) _).trans (KL.ic ⋯ c)];rw[(c6 _).length_eq,cN];lia
def Ho(n:Nat)(i:names.length<=24):Fg (IZ prog (n+1)) names:=λrs h=>by
 have hl:=h.ln;have(L,a,b,c,d):=K.ic (Γ:=IZ prog n) (λr f=>(h.ok r f).La) ⋯ (λr f=>(h.ok r f).word) (show names.length<64 by lia);have e:=C0 #[a,b,c];rw[e];show#[?_,(aE (show Jh prog "_law_learnt" dJ from rfl) _).trans d];rw[(c6 _).length_eq];have:=l8 a (L:=names) λx g=>b (·∈names) (λr f _=>(h.ok r f).word) x g;lia
def Iw(n:Nat)(c:names.length<=24):∀a b,Bk names a->Bk names b->IZ prog (n+6) "gained_and_lost" [tb a,tb b]=a5 (.ok (.loc,KJ a b)):=λa b d e =>
 (aE (show Jh prog "gained_and_lost" bY from rfl) _).trans (Ff (Wq n c) d e)
def Wr(n:Nat)(a:names.length<=24):UW (IZ prog (n+7)) names:=λrs b p h h'=>(cm (show Jh prog "Shelf.turn_to" cY from rfl) _ rfl).trans (zY (Iw n a) h h')
def Ws(n:Nat)(a:names.length<=24):RO (IZ prog (n+8)) names:=λrs c p h h' b=>(cm (show Jh prog "Shelf.do_deed" cX from rfl) _ rfl).trans (zZ (Wr n a) h h' b)
def Wt(n:Nat):QF (IZ prog (n+3)) names:=λrs r h a=>(aE (show Jh prog "places_alike" cW from rfl) _).trans (K.ib (λr s b c=>(aE (show Jh prog "alike" i_ from rfl) _).trans (wV (λr h=>(aE (show Jh prog "in_one_order" b9 from rfl) _).trans (Co h)) b c)) h a)
def Ai(d:Nat):pA (IZ prog (d+2)):=λx h=>(aE (show Jh prog "is_word" gA from rfl) _).trans (zS (λx c=>(aE (show Jh prog "is_stem" gz from rfl) _).trans (zQ c)) (λk a b=>(aE (show Jh prog "is_later_sense" cp from rfl) _).trans (wQ a b))
 (λx y hl e=>(aE (show Jh prog "stem_of" jz from rfl) _).trans (zR rfl hl (by rw[<-e];rfl))) (λx y hl e=>(aE (show Jh prog "number_of" f_ from rfl) _).trans (zR rfl hl (by rw[<-e];rfl))) h)
def rws(n:Nat)(a:∀x∈names,bU x.cps.toList):pD (IZ prog (n+3)) names:=λr h=>(aE (show Jh prog "is_row" iZ from rfl) _).trans (Cn (Ai n) h.La h.once (a _ h.word) λx b=>a x (h.told x b))
end
def Iy(n:Nat)(a:names.length<=24):SH (IZ prog (n+6)) names where
 bk:=λrs p=>(cm (show Jh prog "Shelf.book" eW from rfl) _ rfl).trans z9
 ln:=λrs p h=>(cm (show Jh prog "Shelf.learnt_now" bV from rfl) _ rfl).trans (z_ (Wq n a) h)
 de:=λrs p=>(cm (show Jh prog "Shelf.deeds" d0 from rfl) _ rfl).trans wU
def lh(i:names.length<=24)(j:0<names.length)(k:∀x∈names,bU x.cps.toList):LH (IZ prog 10) names where
 cell:=makers.lY
 drawn:=makers.drawnOk
 ll:=Ho 9 i
 right:=λrows past h=>(cm (show Jh prog "_law_right" du from rfl) _ rfl).trans (wX (Ho 8 i) (Iy 3 i) h)
 tr:=λA B h h'=>(wA (show Jh prog "_law_turn_right" bJ from rfl) _ rfl).trans (wW h h')
 QJ:=λn past rows es l m o q r=>by
  have(s,t,u,v,w):=wY (Γ:=IZ prog 9) (es:=es) (λrs x a b c=>(aE (show Jh prog "_law_stands" dM from rfl) _).trans (qO a b c)) (TM.EY makers.told)
   (λrs x p a b c d e=>(cm (show Jh prog "Shelf.put" d4 from rfl) _ rfl).trans (Cr (Wt 5) (rws 5 k) (Ws 0 i) a b c d e))
   (λa b x ts p c d e f g h=>(cm (show Jh prog "Shelf.take" eX from rfl) _ rfl).trans (Ae (Wt 5) (Ws 0 i) c d e f g h))
   (λrs C p x y=>(cm (show Jh prog "Shelf.back" eY from rfl) _ rfl).trans (Aa (Wr 1 i) x y)) l m j o q r
  have e:IZ prog 10 "_law_deed" [IJ rows past,.lst (es.map .int),.lst (names.map .str),lb rows,.lst (Js past)]=_:=wz (show Jh prog "_law_deed" cH from rfl) _ rfl;show#[s,t,u,v,w.imp (λz=>#[z.1,z.2.1,e.trans z.2.2]) λz=>e.trans z]
def pure(ns:List Int)(e:ns.length<=63):IZ prog 11 "law" [yZ ns]=a5 (.ok (.loc,.bl a8)):=by
 have(z,hz):=(makers.lY:lX (IZ prog 10)) ns 0 ⋯;have(ds,f,a,c):=(makers.drawnOk:iV (IZ prog 10)) z 4 ⋯;have g:=eS a 0;have(names,h,i,d,b):=(makers.namesOk:ph (IZ prog 10)) ns 1 (1+dd ds 0 % 14).toNat ⋯ ⋯;rw[QM ⋯]at b;show(aE (show Jh prog "law" uT from rfl) _).trans (Cs (lh ⋯ ⋯ d) ⋯ a hz c b)
end K
namespace K
open PySem L2 TM PySem.W PyProof.Rows
def hl:LeftO PySem.Challenge.rw_primer_k51_a_shelf_walked.row.prog vw loo xt hk.obs hk.val 4000:=λw=>by
 have(s,e,a):=dV.mp (Lu w);have b:=LJ w;have c:=O1 w;rw[e]at b c;change(oe w).map _=_;rw[e];show ğ a5 (Wj (Wj a (ro b)) (ro c))
def hs:PySem.Challenge.rw_primer_k51_a_shelf_walked.wellSaid=a8:=by kernel_rfl
def ho(P:Vl):MM ck top (JM top (gx P) ms) ms=a8:=by kernel_rfl
def ZA(P:Vl):(gX ck (JM top (gx P) ms)&&RJ top (JM top (gx P) ms) ms)=a8:=by kernel_rfl
end K
open PySem PySem.W PyProof.Rows K
theorem PySem.Challenge.cw_primer_k51_a_shelf_walked_holds : PySem.Challenge.rw_primer_k51_a_shelf_walked.Holds := by
 w_on
 refine holds_law hs λz => ?_;refine holds_open hl hk.of hk.keeps (λs e => xl_of s (qv.mp e).1) XL.keeps rfl rfl rfl (λs e => recFacts_of (qv.mp e).2) rfl z (by kernel_rfl) ⟨rfl, rfl, rfl, rfl, rfl, by decide +kernel⟩ ?hw ?a
 (case hw => w_witness2)
 exact TM.walk2 (l := PySem.Challenge.rw_primer_k51_a_shelf_walked) (Pg := prog) (ck := ck) (dp := 10) (x := "_law_script") (m := ml) rfl rfl ⟨rfl, by decide, by decide, rfl⟩ rfl (by decide +kernel) (by decide +kernel) rfl rfl (XQ.mpr ⟨36, rfl⟩) rfl rfl rfl ho ZA (λ_ => rfl) K.pure
