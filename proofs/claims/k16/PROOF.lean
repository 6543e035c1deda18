import PyProof.Rows.All
import Wide.All
import OpenK.AllK
import Wide.FinOn
import Lean
import PyProof.EqAt
import PyProof.EqKinds
import PyProof.TupleCall
import PyProof.StrLawsChain
import PyProof.StrLawsFirst
import PyProof.Rows.StrNews2
import OpenK.AllK
import PySem.SetOps
import OpenK.AllK
import PyProof.DictItems
import OpenK.AllK
import PyProof.DictValues
import PyProof.ZipIter
import OpenK.AllK
import PyProof.ReprBulk
import PySem.Challenge.RW_primer_k16_whole_learnt_or_held
set_option Elab.async false
set_option linter.all false
set_option maxRecDepth 100000
set_option maxHeartbeats 4000000
set_option genInjectivity false
set_option genSizeOf false
set_option autoImplicit true
set_option relaxedAutoImplicit true
open Option renaming some->UI,none->UK,map_eq_some_iff->U3,bind_eq_some_iff->VJ,isSome_map->Yx,map_eq_none_iff->YL,getD_some->ZN,getD_none->ZO,map_some->Z0,isSome_iff_exists->Ò
open PySem renaming wpAny_bind->UJ,wpAny_pure->UM,sizeLine->US,Value->UT,wpAny->UU,Shared->U1,model->U6,Addr->U8,starEach->Vf,wpAny_setState_of->Vn,wpAny_holding->VG,wpAny_call_entry->VI,wpAny_newObj_type->VL,Expr->VO,wpAny_mono->VS,Program->VZ,rawInt->V0,wpAny_callSpecial?_slot->V7,mainGlobals->V',cLine->Wa,wpAny_truthy_bool->Wc,wpAny_field->We,bootBuiltins->Wh,World->Wi,wpAny_Call_Name_kw->Wk,sysModules->Wl,wpAny_isInstance->Wm,scanBound->Wn,eval->Wo,wpAny_seqItems->Wq,Heap->Ws,backTo->Ww,wpAny_rule->WA,codeAny_builtin->WS,holding->WT,foldedSetIterable->WU,Around->WZ,wpAny_setField->W6,keywordEach->Xe,Scope->Xg,wpAny_setField_rec->Xh,wpAny_pyIter_tuple->Xi,Builtin->Xk,wpAny_passesOwn->Xm,compareOp->Xr,behindInMarks->Xs,binaryOp->XA,SetTable->XB,NameKind->XC,wpAny_specialOf->XR,Keyword->XT,tupleKind_room_in1->XW,assignEach->XX,IsPair->XY,wpAny_getItem_str_slice->XZ,call->X0,wpAny_pyIter_list->X6,tupleKeyHash->X7,Stmt->Ya,wpAny_askSetting->Yh,swapsWith->Yi,pyNext->Yj,swapsWithSole->Yl,sliceBounds->Yn,backToKw->Yo,wpAny_setEntries_of->YA,wpAny_typeOf->YE,getItem->YF,assign->YK,codeAny->YS,wpAny_forIn_list->Y1,FuncData->Y4,typeIs_str->Y',setItem->Za,relabel->Zb,codeAny_mono->Zc,callerA->Zd,call_meets->Ze,builtinsNs->Zf,wpAny_updateSeq->Zk,wpAny_loadPart'->Zl,post_val_or_str->Zm,letOwnedTupleGo->Zn,isSubtype_tuple_tuple->Zp,builtinLookup_eq_fast->Zq,wpAny_updateSeq_pair->Zw,isSubtype_type->Zx,isSubtype_stop->Zy,firstArgMember->Zz,atKey->ZA,IsZip->ZC,IsPart->ZD,tupleKind->ZI,notedBy->ZJ,wpAny_onRaise->ZT,wpAny_attempt->ZU,swappedStores->ZV,plainId_quiet->ZW,attributeBase->ZX,wpAny_tupleItemsOf->Z3,wpAny_storeSet_of->Z8,wpAny_setEpoch_of->Z9,wpAny_pyIter_enum->Z_,valueAt->Z',sub_set_self->À,standAt->Á,setNext->Â,setField->Ã,release->Ä,fits_of_scanBound->Æ,concat_meets->Ç,compEnvC->È,call_meetsIn->É,seqItems?->Ó,pickOrder->Ô,noFill_tuple_add->Õ,PassesOwn->Ø,wpAny_of_eq->Û,unsupported->Ü,subscripted->Ý,wpAny_execs_nil->ä,typeLookup_type->å,wpAny_runValue->ñ,relayAll->ò,raiseNew->ó,pyIter->ô,field->õ,entryFor_alias->ö,IsTupleKey->ø,wpAny_standAt->Ĉ,wpAny_newList->ĉ,wpAny_comprehension_free->Ċ,seq_tuple_add->ċ,wpAny_Call_method0_late->ĕ,strValues->Ė,isSubtype->ė,eqIsQuiet->Ę,bindL->ę,bindC->Ě,wpAny_Call_method_late->ġ,setNextDrawn->Ģ,newExc->ģ,collect->Ĥ,Params->Ĩ,IsEnum->ĩ,BindsTo->Ī,wpAny_nextOf_list_end->Ĳ,wpAny_isTrue_Compare1->ĳ,wpAny_letGo->ĺ,step->Ļ,seqIndex_of->ļ,entryFor->Ľ,bindArgs->ľ,wpAny_setItem_heap->ō,wpAny_load->Ŏ,wpAny_Name->ŏ,typeLookup->Ő,truthy->ő,setsByText->Œ,isInstance->œ,JoinOk->ŕ,wpAny_sequenceKey->Ŝ,wpAny_pyIter_slot->ŝ,wpAny_assign_Name->Ş,spliced->ş,slot_list_getitem->Š,newList->š,eqIsQuiet_byValue->Ţ,Draws->ũ,wpAny_setScan_of->ŭ,wpAny_pyIter_zip->Ů,wpAny_eqBool_str->ů,wpAny_eqBool_int->Ű,wpAny_Dict_empty->ű,setDiscardHashed->Ų,rule->ų,meets_dict_items->Ŵ,cellsFrom->ŵ,codeAny_of_tree->Ž,wpAny_newTuple->Η,wpAny_Compare1->Θ,typeOf->Ι,recursionLimit->Κ,numbered_texts->Λ,newTuple->Μ,augStore->Ν,argsOk->Ξ,again->Ο,Operator->Ρ
open PySem.Heap renaming get?_push_of_some->UL,lt_size->UY,get?_push_size->UZ,SameBut->Vz,get?_update_self->V4,get?_update_ne->Xz,get?_update_other->XU,size_push->Y5,ExtBut->ÿ,IsTuple->ŧ
open Bool renaming true->UN,false->UO,and_eq_true->UR,false_ne_true->Vw,false_eq_true->VD,eq_iff_iff->VR,not_eq_true'->V5,not_true->WH,and_eq_true_iff->WQ,or_eq_true->Yf,and_false->Y_,and_true->Zt,not_false->ŋ,false_and->Ō,or_false->Ś,and_self->ś
open Decidable renaming decide->UP
open List renaming length_map->UQ,getElem?_eq_some_iff->UW,range->UX,getElem?_set_self->U0,mem_cons->U2,map_map->U4,map_cons->U7,size_toArray->U9,length_append->U',nil_append->Vb,mem_map->Vc,mem_append->Ve,getElem?_set_ne->Vh,getElem?_map->Vi,length_cons->Vj,replicate->Vk,mem_singleton->Vl,map_append->Vm,nodup_cons->Vp,mem_filter->Vq,mem_cons_self->Vr,mem_of_getElem?->Vt,mem_append_right->Vu,length_filter_le->Vv,mem_cons_of_mem->Vx,all_eq_true->VA,nodup_append->VC,getElem?_append_right->VH,lookup_cons->VQ,map_congr_left->VT,length->VX,getElem?_append_left->VY,append_nil->V1,getElem?_eq_getElem->V2,mem_range->V6,length_take->V9,filter_cons->V_,not_mem_nil->Wu,ext_getElem->Wv,map_nil->Wx,filter_sublist->WD,perm_ext_iff_of_nodup->WK,getElem?_drop->WL,filter_append->WM,length_range->WO,filter_eq_self->WV,filterMap_cons->WW,getElem?_replicate->WX,take_of_length_le->W4,all_map->W5,find?_cons->Xb,getD->Xc,getElem_mem->Xv,of_mem_zip->XG,length_eq_zero_iff->XJ,filter_cons_of_pos->XM,filter_cons_of_neg->XN,length_replicate->X3,isEmpty_iff->X5,map->X9,eq_nil_of_length_eq_zero->X_,length_zip->Yc,forIn_cons->Yd,filter_nil->Ye,getElem_of_mem->Yk,zip_cons_cons->Yu,pairwise_cons->Yv,forIn_nil->Yw,drop_eq_getElem_cons->YD,flatten_cons->YH,getElem?_cons_succ->YM,any_eq_true->YN,length_nil->YU,foldl_cons->YV,length_singleton->YY,nodup_nil->Y7,mem_append_left->Y8,map_id->Y9,any_cons->Zs,findIdx?_eq_some_iff_getElem->ZF,mem_flatten->Z1,length_drop->Z2,filter_map->Z6,drop_left'->Z7,getElem?_zip_eq_some->Ù,findIdx?_eq_none_iff->Ú,length_erase_of_mem->à,getElem?_take_of_lt->á,findIdx?->â,eraseIdx_cons_succ->è,length_pos_of_mem->í,length_eq_one_iff->î,filter_eq_nil_iff->ï,any_map->ð,mem_iff_getElem?->û,getElem?_eq_none->ü,mem_of_mem_take->ă,mem_iff_getElem->Ą,mem_erase_of_ne->ą,length_eraseIdx->Ć,getElem?_zipIdx->ć,mem_map_of_mem->ď,length_pos_iff->Đ,getElem?_range->đ,flatten_append->Ē,mem_filterMap->ĝ,filterMap_map->Ğ,take_sublist->Į,filter_congr->į,append_assoc->İ,zipIdx_cons->Ĵ,map_fst_zip->ĵ,getElem_map->Ķ,getElem_inj->ķ,drop_length->ĸ,cons_append->Ĺ,zipIdx_nil->ń,range_succ->Ņ,length_set->ņ,zip_map'->ř,zip_map->Ū
open Nat renaming ne_of_lt->U5,le_refl->U_,lt_of_lt_of_le->Vg,zero_le->Vo,le_trans->VN,ne_of_gt->VV,lt_irrefl->V8,le_of_lt->Xy,lt_of_le_of_lt->XI,le_succ->XQ,zero_add->Yq,lt_succ_of_lt->YJ,lt_succ_self->YQ,mod_lt->YT,lt_trans->ZS,add_sub_cancel_left->ì,succ_pos->ù,le_of_eq->ú,add_zero->Ż
open Array renaming length_toList->Va,getElem?_toList->Wb,forIn_toList->W3,toList_append->Yg,size_map->Yr,getElem?_eq_getElem->Yz,getD->Zu,size_append->ZG,toList->é,toList_extract->ý,toList_push->Ġ,toList_inj->ı
open PySem.Value renaming ref->Vd,none->Vy,str->VF,type->WB,bool->W0,isStrOf->W_,isStrOf_shape->þ,int->ĥ,isInt->ť
open Sum renaming inr->Vs,inl->ZP
open PySem.Builtin.SmallTypes renaming nextOf->VB,ownedTupleIsFree->Wt,ownedTupleHandOut->Yt
open PySem.Obj renaming mapSeq->VE,data_mapFields->W8,putSet->XH,isFreed_of_fields->Y3,cls_mapFields->ZR,mapFields->Ŧ
open Option.some renaming inj->VM,injEq->ß
open Ne renaming symm->VP
open PyProof.Rows renaming slot_tuple_getitem->VU,seqObj->Wg,callWith_type1->Wz,size_push'->WN,StrsAre->Ym,AllBare->Zj,envOfC->ZE,subscriptTail->ZY,listUpdate_at->ZZ,subscriptTail_builtinR->ī,listItems_at->Ĭ,IntsAre->ĭ,seqEpoch_at->ł,IsTup->Ń,entry_tuple_getitem->Ň,sortedHeap->Ŗ,args_tuple_getitem->ŗ,Subscript_->Ř,wpAny_notIn_heap->Ź,slot_str_getitem->ź,get?_update_seq->Β,entry_list_sort->Δ,callWith_builtin1->Ε,sortedHeap_old->Υ,slot_list_sort->Φ,slicePart_none->Χ,isTrue_and_nil->Ψ,args_list_sort->Ω
open PySem.Str renaming empty->VW,ofString->W7,length->Ö
open PySem.SetTable.layClean renaming free->V3
open PySem.Heap.SameBut renaming update->Wf,refl->Wr
open PySem.Builtin.Tuple renaming tupleHashOf->Wj,tupleExact->Xj,tupleItemsOf->X1
open PySem.Builtin.Frozenset renaming isAnySet->Wy,difference->XF,sizeOf->X2,differenceUpdate->YG,unchanged->YX,copyOf->Zg,baseOf->Zh,addrOf->Zi,slot1->Zo,updateFrom->Ŀ,slot0->ŀ,newClass->Ł
open Int renaming toNat_natCast->WC,toNat_of_nonneg->XD,emod_lt_of_pos->Yy,eq_ofNat_of_zero_le->YR,zero_add->YW,emod_nonneg->YZ,natCast_add->Î
open PySem.Calls renaming callWith_builtin->WE,evalArgs_plain->Xo,spliced_cons->XE,spliced_nil->YC,Name_function_global->Ë,call_function_entry->Ï
open PySem.SetTable renaming sizeAbove->WG,below->WR,grown->Xf,bits->Xt,eraseAt->XS,turns->Yb,layClean->Yp,fits->Ys,laid->Y2,runEnd->ZK,relaid->ZL,fill->Z4,orStandIn->ë,fresh->ě,leap->Ħ,drop->ħ
open Classical renaming byContradiction->WI
open PySem.Builtin.List renaming listTooLong->WJ,listExtendWith->WY,listSameRef->ZM,listLengthHint->Α
open PySem.NameKind renaming free->W2
open PySem.Builtin.Str renaming occurrences->W9,partsBetween->Xp,strKind->Ð
open PySem.Builtin.Slice renaming slicePlaces->W',sliceAdjust->X8,sliceApplied->Zr,slicePartIndex->Ŷ,sliceFields->ŷ
open PyProof.Rows.F renaming plain_set_update_loop->Xa,entry_set_update_loop->YI
open List.Perm renaming refl->Xd,swap->ē,cons->Ĕ
open PySem.Around renaming under_plainId->Xl
open PySem.W renaming kas_sort->Xn,kas_ask->ţ
open False renaming elim->Xq
open PySem.AutoSeq1 renaming wpAny_loadPart'->Xu,sub_tuple_tuple->Z5,sub_tuple_list->Ì,sub_list_tuple->Í,sub_list_list->Ñ,idx_int->ā
open LT renaming lt->Xw
open ForInStep renaming yield->Xx
open PySem.Txt renaming split->XO,join->ZQ
open List.cons renaming injEq->X4
open PySem.Shared renaming TypeIs->YB,heap->ê
open PySem.SeqAt renaming EqAt->YO,ne_of_list_tuple->æ,RcAt->č,RcNeAt->Ŕ
open ToString renaming toString->Y0
open PyProof.Rows.LSm renaming kept_iter->Y6,range_any->ň,range_all->ŉ
open True renaming intro->Zv
open Sum.inr renaming inj->ZH
open PySem.pickOrder renaming go->Å
open PySem.SetTable.below renaming go->Ê
open PyProof.Rows.IsTup renaming new->Þ
open List.Nodup renaming sublist->ã
open PySem.Data renaming cell->ç,fields->Ā
open Prod renaming ext->Ă,fst->Ŋ
open PySem.Walks renaming list->Č
open PySem.Draws renaming list->Ď
open PySem.Code renaming quiet_builtin->Ĝ
open LawfulBEq renaming eq_of_beq->ğ
open PySem.W.WShape renaming has->Ť
open PySem.Heap.IsSliceOf renaming new->Ũ
open LE renaming le->ū
open ForIn renaming forIn->Ŭ
open PySem.Builtin.Range renaming rangeSize->Ÿ
open List.Pairwise renaming nil->ż
open PySem.W.WData renaming int->ž
open PySem.Heap.DictOfH renaming new->ſ
open List.Sublist renaming refl->Ζ
open PySem.Heap.DictOf renaming new->Τ
abbrev γ:=@decide_eq_true_eq
abbrev δ:=@if_pos
abbrev ε:=@if_neg
abbrev ζ:=@decide_eq_false
abbrev η:=@decide_eq_true
abbrev θ:=@congrArg
abbrev ι:=@if_false
abbrev μ:=@if_true
local macro_rules|`(⋯)=>`(by omega)
namespace L2
open PySem PySem.Spec PyProof.Rows
abbrev Key:=Sum Int Str
noncomputable def jB:Key->UT->Bool
 |.inl k,v=>ť k v
 |.inr x,v=>W_ x v
noncomputable def Dy(w:Wi):Key->Int
 |.inl k=>hashInt k
 |.inr x=>hashStr w x
theorem bh:∀{k:Key}{v:UT},jB k v=UN->(∃i t,k=ZP i/\v=ĥ i t)\/(∃x t,k=Vs x/\v=VF x t)
 |.inl i,v,h=>by
  obtain⟨t,e⟩:=Value.isInt_shape (k:=i) (v:=v) h;exact .inl ⟨i,t,rfl,e⟩
 |.inr x,v,h=>by
  obtain⟨t,e⟩:=þ (x:=x) (v:=v) h;exact .inr ⟨x,t,rfl,e⟩
theorem tq(i:Int)(t:Tok):jB (.inl i) (.int i t)=UN:=by simp[jB,ť]
theorem tu(x:Str)(t:Tok):jB (.inr x) (.str x t)=UN:=by simp[jB,W_]
theorem Ai(a b:Int):UP ((ZP a:Key)=ZP b)=(a==b):=by
 by_cases e:a=b
 ·subst e;simp
 ·have h:¬(ZP a:Key)=ZP b:=λq=>e (Sum.inl.inj q);rw[ζ h];exact(beq_eq_false_iff_ne.mpr e).symm
theorem Aj(a b:Str):UP ((Vs a:Key)=Vs b)=UP (a=b):=by
 by_cases e:a=b
 ·subst e;simp
 ·have h:¬(Vs a:Key)=Vs b:=λq=>e (ZH q);rw[ζ h,ζ e]
theorem Ak(a:Int)(b:Str):UP ((ZP a:Key)=Vs b)=UO:=ζ (λq=>nomatch q)
theorem Al(a:Str)(b:Int):UP ((Vs a:Key)=ZP b)=UO:=ζ (λq=>nomatch q)
noncomputable def aO(prog:VZ)(w:Wi):PySem.KeyKind prog w Key where
 is:=jB
 hash:=Dy w
 inj:=λv a b ha hb=>by
  rcases bh ha with⟨i,t,rfl,rfl⟩|⟨x,t,rfl,rfl⟩
  ·rcases bh hb with⟨j,u,rfl,e⟩|⟨y,u,rfl,e⟩
   ·injection e with e1 _;rw[e1]
   ·exact nomatch e
  ·rcases bh hb with⟨j,u,rfl,e⟩|⟨y,u,rfl,e⟩
   ·exact nomatch e
   ·injection e with e1 _;rw[e1]
 byValue:=λk v h=>by
  rcases bh h with⟨i,t,rfl,rfl⟩|⟨x,t,rfl,rfl⟩<;>rfl
 pyHash:=λhv h=>by
  rcases bh hv with⟨i,t,rfl,rfl⟩|⟨x,t,rfl,rfl⟩
  ·exact wpAny_pyHash_int h
  ·exact wpAny_pyHash_str h
 eqBool:=λhu hv h=>by
  rcases bh hu with⟨i,t,rfl,rfl⟩|⟨x,t,rfl,rfl⟩
  ·rcases bh hv with⟨j,u,rfl,rfl⟩|⟨y,u,rfl,rfl⟩
   ·rw[Ai]at h;exact Ű h
   ·rw[Ak]at h;exact SeqAt.EqAt.int_str i t y u _ _ _ _ h
  ·rcases bh hv with⟨j,u,rfl,rfl⟩|⟨y,u,rfl,rfl⟩
   ·rw[Al]at h;exact SeqAt.EqAt.str_int x t j u _ _ _ _ h
   ·rw[Aj]at h;exact ů h
 «strs»:=λk x t v h=>by
  rcases bh h with⟨i,u,rfl,e⟩|⟨y,u,rfl,e⟩
  ·exact nomatch e
  ·injection e with e1 _
   subst e1;cases v<;>rfl
theorem n_(prog:VZ)(w:Wi)(i:Int)(t:Tok):(aO prog w).is (.inl i) (.int i t)=UN:=tq i t
theorem og(prog:VZ)(w:Wi)(x:Str)(t:Tok):(aO prog w).is (.inr x) (.str x t)=UN:=tu x t
inductive V where
 |Es|bl (b:Bool)|int (i:Int)|str (x:Str)|LW (b:Array UInt8)|LX (b:UInt64)|ref (a:U8)|ty (n:String)
 deriving DecidableEq
def RelV:V->UT->Prop
 |.Es,u=>u=Vy
 |.bl b,u=>u=W0 b
 |.int i,u=>∃t,u=ĥ i t
 |.str x,u=>∃t,u=VF x t
 |.LW b,u=>∃t,u=Value.bytes b t
 |.LX b,u=>∃t,u=Value.float b t
 |.ref a,u=>u=Vd a
 |.ty n,u=>u=WB n
abbrev Vals:List V->List UT->Prop:=Paired RelV
theorem Vals.length(r:Vals xs us):xs.length=us.length:=Paired.length r
theorem Vals.get:∀{xs:List V}{us:List UT}{i:Nat}{x:V},Vals xs us->xs[i]?=UI x->∃u,us[i]?=UI u/\RelV x u
 |_,_,_,_,.nil,e=>by simp at e
 |_,_,0,_,.cons r _,e=>by simp at e;subst e;exact⟨_,rfl,r⟩
 |_,_,i+1,x,.cons _ t,e=>by
  obtain⟨u,h1,h2⟩:=Vals.get (i:=i) (x:=x) t (by simpa using e);exact⟨u,by simpa using h1,h2⟩
theorem Vals.set(r:RelV x u):∀{xs:List V}{us:List UT} (i:Nat),Vals xs us->Vals (xs.set i x) (us.set i u)
 |_,_,_,.nil=>.nil
 |_,_,0,.cons _ t=>.cons r t
 |_,_,i+1,.cons q t=>.cons q (Vals.set r i t)
theorem Vals.append:∀{xs ys:List V}{us ws:List UT},Vals xs us->Vals ys ws->Vals (xs++ys) (us++ws)
 |_,_,_,_,.nil,s=>s
 |_,_,_,_,.cons r t,s=>.cons r (Vals.append t s)
theorem Vals.take:∀{xs:List V}{us:List UT} (n:Nat),Vals xs us->Vals (xs.take n) (us.take n)
 |_,_,0,_=>.nil
 |_,_,_+1,.nil=>.nil
 |_,_,n+1,.cons r t=>.cons r (Vals.take n t)
theorem Vals.drop:∀{xs:List V}{us:List UT} (n:Nat),Vals xs us->Vals (xs.drop n) (us.drop n)
 |_,_,0,r=>r
 |_,_,_+1,.nil=>.nil
 |_,_,n+1,.cons _ t=>Vals.drop n t
def jg:Option V->Option UT->Prop
 |some v,UI u=>RelV v u
 |none,UK=>True
 |_,_=>False
def KV{κ:Type}:List (κ×V)->List (κ×UT)->Prop:=Paired λ(p:κ×V) (q:κ×UT)=>p.1=q.1/\RelV p.2 q.2
noncomputable def kV:Key->V
 |.inl i=>.int i
 |.inr x=>.str x
inductive HO where
 |lst (xs:List V)
 |tup (xs:List V)
 |dK (kvs:List (Key×V))|dT (kvs:List (List Key×V))
 |set (S:Int->Bool) (n:Nat)
 |ins (C dx:U8) (fs:List (Str×V))
 |own (x:U8)
 |xd (fs:List (Str×V))
 |met (f x:U8)
 |M1 (lo hi:Int)
 |Fs (o:Obj) (u:HO)
 |IV (ps:Array UT)
 |ext (φ:Ws->Prop)
abbrev Hp:=U8->Option HO
noncomputable def upd(H:Hp)(a:U8)(o:HO):Hp:=λb=>if b=a then UI o else H b
theorem au:upd H a o a=UI o:=by unfold upd;rw[δ rfl]
theorem ak(h:b≠a):upd H a o b=H b:=by unfold upd;rw[ε h]
theorem uR{H:Hp}(h:H a=UI o)(h':H b=UI u)(d:o≠u):a≠b:=by
 intro e;subst e;rw[h]at h';exact d (VM h')
theorem bw{H:Hp}(h:H a=UI o)(h':H b=UK):a≠b:=by
 intro e;subst e;rw[h]at h';cases h'
section
variable(P:VZ)(w:Wi)
def bq(H:Hp)(h:Ws)(a:U8):HO->Prop
 |.lst xs=>xs.length<=US/\∃(A':List UT) (n:Nat),Vals xs A'/\h.get? a=UI {cls:=.type "list",data:=.seq A'.toArray n}
 |.tup xs=>xs.length<=US/\∃A':List UT,Vals xs A'/\Ń h a A'.toArray
 |.dK kvs=>kvs.length<=US/\(a==Wl)=UO/\∃vs,KV kvs vs/\h.DictOf (aO P w) a vs
 |.dT kvs=>kvs.length<=US/\(a==Wl)=UO/\∃xs:List (List Key×U8×UT),
   Paired (λ(p:List Key×V) (q:List Key×U8×UT)=>p.1=q.1/\H q.2.1=UI (.tup (p.1.map kV))/\RelV p.2 q.2.2) kvs xs /\
   ∃o es ep,h.get? a=UI o/\o.ExactDict/\o.data=.dict es ep/\es.toList=xs.map (entryOfKey (ZI (aO P w)))/\(xs.map (·.1)).Nodup
 |.set S n=>h.SetOf (intKind P w) a S n
 |.ins C dx fs=>H dx=UI (.own a)/\fs.length<=1000/\dx≠a/\h.get? a=UI (PySem.W.instObj C dx) /\
   ∃mA,h.Ns1 dx mA/\(∀f,jg (fs.lookup f) (mA f))/\PySem.Within mA (fs.map (·.1))
 |.own _=>∃o,h.get? a=UI o
 |.xd fs=>∃mA,h.Ns1 a mA/\∀f,jg (fs.lookup f) (mA f)
 |.M1 lo hi=>∃t u v,h.get? a=UI {cls:=.type "range",data:=.fields #[.int lo t,.int hi u,.int 1 v]}
 |.Fs o u=>h.get? a=UI o/\bq H h a u
 |.IV ps=>h.get? a=UI {cls:=.none,data:=.fields ps}
 |.met f x=>h.get? a=UI (PySem.W.methodObj (.ref f) (.ref x))
 |.ext φ=>φ h/\(∃o,h.get? a=UI o)/\∀h1 h2:Ws,φ h1->(∀o,h1.get? a=UI o->h2.get? a=UI o)->φ h2
def Fd(H:Hp)(h:Ws):Prop:=∀a o,H a=UI o->bq P w H h a o
end
section
theorem bq.lt(x:bq P w H h a o):a<h.objs.size:=by
 cases o with
 |lst xs=>obtain⟨_,_,_,_,e⟩:=x;exact UY e
 |tup xs=>obtain⟨_,_,_,p⟩:=x;exact p.lt
 |set S n=>obtain⟨o,_,_,_,e,_⟩:=x;exact UY e
 |ins C dx fs=>obtain⟨_,_,_,e,_⟩:=x;exact UY e
 |own y=>obtain⟨_,e⟩:=x;exact UY e
 |xd fs=>obtain⟨_,⟨_,_,_,e,_⟩,_⟩:=x;exact UY e
 |M1 lo hi=>obtain⟨_,_,_,e⟩:=x;exact UY e
 |Fs ob u=>obtain⟨e,_⟩:=x;exact UY e
 |IV ps=>exact UY (show h.get? a=UI _ from x)
 |met f y=>exact UY (show h.get? a=UI _ from x)
 |ext φ=>obtain⟨_,⟨_,e⟩,_⟩:=x;exact UY e
 |_=>obtain⟨_,_,_,_,o,_,_,e,_⟩:=x;exact UY e
theorem Paired.Am:∀{l₁:List α}{l₂:List β},Paired F l₁ l₂->(∀a b,F a b->G a b)->Paired G l₁ l₂
 |_,_,.nil,_=>.nil
 |_,_,.cons r t,f=>.cons (f _ _ r) (Paired.Am t f)
theorem bq.fY(x:bq P w H h a o)(k:∀b u,(b=a\/H b=UI (.own a))->h.get? b=UI u->h'.get? b=UI u)
  (ho:∀b,H b=UI (.own a)->H' b=UI (.own a)) (ht:∀b xs,H b=UI (.tup xs)->H' b=UI (.tup xs)):bq P w H' h' a o:=by
 induction o with
 |lst xs=>obtain⟨z,A',n,r,e⟩:=x;exact⟨z,A',n,r,k _ _ (.inl rfl) e⟩
 |tup xs=>obtain⟨z,A',r,ob,e,c⟩:=x;exact⟨z,A',r,ob,k _ _ (.inl rfl) e,c⟩
 |dK kvs=>obtain⟨z,y,vs,r,ob,es,ep,e,c⟩:=x;exact⟨z,y,vs,r,ob,es,ep,k _ _ (.inl rfl) e,c⟩
 |dT kvs =>
  obtain⟨z,y,xs,r,ob,es,ep,e,c⟩:=x;exact⟨z,y,xs,Paired.Am r λp q z=>⟨z.1,ht _ _ z.2.1,z.2.2⟩,ob,es,ep,k _ _ (.inl rfl) e,c⟩
 |set S n=>obtain⟨ob,es,ep,t,e,c⟩:=x;exact⟨ob,es,ep,t,k _ _ (.inl rfl) e,c⟩
 |ins C dx fs =>
  obtain⟨d,z,ne,e,mA,⟨od,es,ep,e2,c⟩,r⟩:=x;exact⟨ho _ d,z,ne,k _ _ (.inl rfl) e,mA,⟨od,es,ep,k _ _ (.inr d) e2,c⟩,r⟩
 |own y=>obtain⟨ob,e⟩:=x;exact⟨ob,k _ _ (.inl rfl) e⟩
 |xd fs=>obtain⟨mA,⟨od,es,ep,e,c⟩,r⟩:=x;exact⟨mA,⟨od,es,ep,k _ _ (.inl rfl) e,c⟩,r⟩
 |M1 lo hi=>obtain⟨t,u,v,e⟩:=x;exact⟨t,u,v,k _ _ (.inl rfl) e⟩
 |Fs ob u ih=>obtain⟨e,q⟩:=x;exact⟨k _ _ (.inl rfl) e,ih q⟩
 |IV ps =>
  have e:h.get? a=UI {cls:=.none,data:=.fields ps}:=x;show h'.get? a=UI {cls:=.none,data:=.fields ps};exact k a _ (.inl rfl) e
 |met f y =>
  have e:h.get? a=UI (PySem.W.methodObj (.ref f) (.ref y)):=x;show h'.get? a=UI (PySem.W.methodObj (.ref f) (.ref y));exact k a _ (.inl rfl) e
 |ext φ=>obtain⟨p,⟨o,e⟩,st⟩:=x;exact⟨st _ _ p λo q=>k _ _ (.inl rfl) q,⟨o,k _ _ (.inl rfl) e⟩,st⟩
theorem Fd.lt(x:Fd P w H h)(e:H a=UI o):a<h.objs.size:=(x a o e).lt
theorem Fd.fresh(x:Fd P w H h)(e:h.objs.size<=a):H a=UK:=by
 cases q:H a with
 |none=>rfl
 |some u=>exact absurd (Vg (x.lt q) e) (V8 _)
theorem Fd.kept(x:Fd P w H h)(k:∀b u,h.get? b=UI u->h'.get? b=UI u):Fd P w H h':=λa o e =>
 (x a o e).fY (λb u _ q=>k b u q) (λ_ q=>q) λ_ _ q=>q
theorem Fd.laid(x:Fd P w H h)(k:∀b u,h.get? b=UI u->h'.get? b=UI u)(hp:h.objs.size<=a)(new:bq P w (upd H a o) h' a o):Fd P w (upd H a o) h':=λb u e=>by
 have hn:=x.fresh hp;by_cases hb:b=a
 ·subst hb;rw[au]at e;cases e;exact new
 ·rw[ak hb]at e;exact(x b u e).fY (λc v _ q=>k c v q) (λc q=>by rw[ak (bw q hn)];exact q) λc xs q=>by rw[ak (bw q hn)];exact q
end
def Rd(H:Hp)(a:U8)(u:HO):Prop:=H a=UI u\/∃o,H a=UI (.Fs o u)
theorem Rd.ok(r:Rd H a u)(x:Fd P w H h):bq P w H h a u:=by
 rcases r with r|⟨o,r⟩
 ·exact x a u r
 ·obtain⟨_,q⟩:=x a _ r;exact q
def Kh:Option HO->Prop
 |some (.lst _)=>True
 |some (.dK _)=>True
 |some (.dT _)=>True
 |some (.set _ _)=>True
 |some (.ins _ _ _)=>True
 |some (.ext _)=>True
 |_=>False
section
theorem Fd.write(ok:Fd P w H h)(mu:Kh (H x))(he:e=x\/H e=UI (.own x))(k:∀b u,b≠e->h.get? b=UI u->h'.get? b=UI u)(HA:∃u,h'.get? e=UI u)
  (new:bq P w (upd H x o') h' x o'):Fd P w (upd H x o') h':=λb u q=>by
 have Ki:∀c y,H c=UI (.own y)->c≠x:=λc y r z=>by subst z;rw[r]at mu;exact mu
 have M3:∀c xs,H c=UI (.tup xs)->c≠x:=λc xs r z=>by subst z;rw[r]at mu;exact mu
 by_cases hb:b=x
 ·subst hb;rw[au]at q;cases q;exact new
 ·rw[ak hb]at q;by_cases IW:b=e
  ·have q':H b=UI (.own x):=by
    rcases he with z|z
    ·exact absurd (IW.trans z) hb
    ·rw[IW];exact z
   rw[q]at q';cases q';obtain⟨v,hv⟩:=HA;exact⟨v,by rw[IW];exact hv⟩
  ·refine(ok b u q).fY (λc v hc r=>k c v ?_ r) (λc r=>by rw[ak (Ki c b r)];exact r) λc xs r=>by rw[ak (M3 c xs r)];exact r
   rcases hc with rfl|hc
   ·exact IW
   ·rintro rfl;rcases he with z|z
    ·exact Ki c b hc z
    ·rw[hc]at z;cases z;exact hb rfl
end
structure Un(fs ex:List U8)(H H':Hp)(h h':Ws):Prop where
 keep:∀b o,h.get? b=UI o->H b=UK->b∉fs->b∉ex->h'.get? b=UI o
 slot:∀b o,h.get? b=UI o->H b=UK->b∈fs->b∉ex->∃sl,h'.get? b=UI {o with slots:=sl}
 free:∀b o,h.get? b=UI o->H b=UK->b∉ex->H' b=UK
 there:∀b o,h.get? b=UI o->b∉ex->∃o',h'.get? b=UI o'
 jl:∀b xs,H b=UI (.tup xs)->H' b=UI (.tup xs)
 FG:∀b o u,H b=UI (.Fs o u)->H' b=UI (.Fs o u)
 FN:∀b ps,H b=UI (.IV ps)->∃more,H' b=UI (.IV (ps++more))
section
theorem Un.any(u:Un fs ex H H1 h h1)(q:h.get? b=UI ob)(n:H b=UK)(hx:b∉ex):∃sl,h1.get? b=UI {ob with slots:=sl}:=by
 by_cases hb:b∈fs
 ·exact u.slot b ob q n hb hx
 ·exact⟨ob.slots,u.keep b ob q n hb hx⟩
theorem Un.kept(k:∀b u,h.get? b=UI u->h'.get? b=UI u):Un fs ex H H h h' :=
 ⟨λb ob q _ _ _=>k b ob q,λb ob q _ _ _=>⟨ob.slots,k b ob q⟩,λ_ _ _ n _=>n,λb ob q _=>⟨ob,k b ob q⟩,λ_ _ q=>q,λ_ _ _ q=>q,λ_ ps q=>⟨#[],by rw[q];simp⟩⟩
theorem Un.refl:Un fs ex H H h h:=Un.kept λ_ _ q=>q
theorem Un.laid(k:∀b u,h.get? b=UI u->h'.get? b=UI u)(hp:h.objs.size<=a)(hn:H a=UK):Un fs ex H (upd H a o) h h' where
 keep:=λb u q _ _ _=>k b u q
 slot:=λb u q _ _ _=>⟨u.slots,k b u q⟩
 free:=λb u q n _=>by rw[ak (U5 (Vg (UY q) hp))];exact n
 there:=λb u q _=>⟨u,k b u q⟩
 jl:=λb xs q=>by rw[ak (bw q hn)];exact q
 FG:=λb u xs q=>by rw[ak (bw q hn)];exact q
 FN:=λb ps q=>⟨#[],by rw[ak (bw q hn),q];simp⟩
theorem Un.write(mu:Kh (H x))(he:e=x\/H e=UI (.own x))(k:∀b u,b≠e->h.get? b=UI u->h'.get? b=UI u)(HA:∃u,h'.get? e=UI u):Un fs ex H (upd H x o) h h':=by
 have hx:∀b,H b=UK->b≠x:=λb n z=>by subst z;rw[n]at mu;exact mu
 have hb:∀b,H b=UK->b≠e:=λb n z=>by
  subst z;rcases he with r|r
  ·exact hx b n r
  ·rw[n]at r;cases r
 have hm:∀b u,H b=UI u->¬Kh (UI u)->b≠x:=λb u q nm z=>by subst z;rw[q]at mu;exact nm mu
 refine⟨λb u q n _ _=>k b u (hb b n) q,λb u q n _ _=>⟨u.slots,k b u (hb b n) q⟩,λb u q n _=>by rw[ak (hx b n)];exact n,λb u q _=>?_,
  λb xs q=>by rw[ak (hm b _ q λz=>z)];exact q,λb u xs q=>by rw[ak (hm b _ q λz=>z)];exact q,λb ps q=>⟨#[],by rw[ak (hm b _ q λz=>z),q];simp⟩⟩
 by_cases IW:b=e
 ·subst IW;exact HA
 ·exact⟨u,k b u IW q⟩
end
noncomputable def LY(h:Ws)(H:Hp):List U8:=(UX h.objs.size).filter λa=>(H a).isSome
noncomputable def mC(h:Ws)(H:Hp):Ws:=PySem.W.hideAll h (LY h H)
theorem tv(h:Ws)(H:Hp):(mC h H).objs.size=h.objs.size:=PySem.W.hideAll_size _ _
theorem uS(e:h.get? b=UI o)(n:H b=UK):(mC h H).get? b=UI o :=
 PySem.W.hideAll_get _ e λhm=>by
  have q:(H b).isSome=UN:=(Vq.mp hm).2;rw[n]at q;simp at q
theorem xO(e:(mC h H).get? b=UI o):h.get? b=UI o/\H b=UK:=by
 have e':h.get? b=UI o:=PySem.W.of_hideAll (LY h H) e;refine⟨e',?_⟩;cases q:H b with
 |none=>rfl
 |some x =>
  have hm:b∈LY h H:=Vq.mpr ⟨V6.mpr (UY e'),by simp[q]⟩;have z:(mC h H).get? b=UK:=PySem.W.hideAll_none (LY h H) hm;rw[z]at e;cases e
structure Mod(K:PySem.W.Frag)(mg:Str->Option UT)(base:Ws):Prop where
 M4:K.In base
 glob:base.Ns V' mg
 blt:∃mb,base.Ns Zf mb/\∀x:Str,x≠"__name__"->mb x=Wh x
 nolimit:base.NoLimit
structure Cx where
 prog:VZ
 w:Wi
 K:PySem.W.Frag
 mg:Str->Option UT
 base:Ws
 A:WZ
 N:List Str
 s₀:U1
 H₀:Hp
 env:Env
 outer:List Env
 stack:List Env
 ex:List U8
 fn:Str->Bool
 calm:Bool
 pn:List (U8×Obj)
 xe:UT->U1->Prop
noncomputable def Gv(l:List Env):List U8:=l.filterMap (·.frame)
noncomputable abbrev Cx.fs(X:Cx):List U8:=Gv X.outer
def F3(sc:Xg)(x:Str):Prop:=sc.names.lookup x=UI .local\/sc.names.lookup x=UI .cell\/sc.names.lookup x=UI .free
def Loc(sc:Xg)(x:Str):Prop:=sc.names.lookup x=UI .local\/sc.names.lookup x=UI .cell
def Look(env:Env)(h:Ws)(m:Str->Option UT)(x:Str)(u:UT):Prop :=
 (env.kindOf x=UI .local/\m x=UI u)\/((env.kindOf x=UI .cell\/env.kindOf x=UI .free)/\∃c,env.cells.lookup x=UI c/\h.IsCell c (UI u))
structure Cx.Ok(X:Cx):Prop where
 mod:Mod X.K X.mg X.base
 kind:X.env.scope.kind=.function
 glob:X.env.globals=V'
 blt:X.env.builtins=Zf
 above:X.s₀.heap.objs.size<=X.env.locals
 inj:∀x y c,X.env.cells.lookup x=UI c->X.env.cells.lookup y=UI c->x=y
 has:∀x,(X.env.kindOf x=UI .cell\/X.env.kindOf x=UI .free)->∃c,X.env.cells.lookup x=UI c
 Kj:∀x c,X.fn x=UN->X.env.cells.lookup x=UI c->X.s₀.heap.objs.size<=c
 hd:X.calm=UN->X.A.handled=UK
 frames:X.A.frames=UI X.stack
 LZ:X.stack=X.outer\/(X.stack=X.env::X.outer/\X.env.frame=UI X.env.locals)
 Pd:∀b∈X.ex,b≠X.env.locals/\∀x c,X.env.cells.lookup x=UI c->c≠b
 bs:∀b o,X.base.get? b=UI o->X.s₀.heap.get? b=UI o/\X.H₀ b=UK
 Im:X.base.objs.size<=X.s₀.heap.objs.size
 Ha:∀b o,X.base.get? b=UI o->b∉X.ex
 HP:∀b∈X.ex,b∉X.fs
 jC:X.s₀.heap.FunFrames X.base X.outer
 JQ:∀b∈X.fs,X.H₀ b=UK
structure Inv(X:Cx)(pins:List (U8×Obj))(σ:List (Option V))(H:Hp)(s:U1):Prop where
 ok:X.Ok
 os:s.os=X.s₀.os
 bare:Zj s.gens
 base:Un X.fs X.ex X.H₀ H X.s₀.heap s.heap
 loc:∃m,s.heap.Ns X.env.locals m/\∀(i:Nat) (x:Str) (v:V),X.N[i]?=UI x->σ[i]?=UI (UI v)->F3 X.env.scope x->∃u,RelV v u/\Look X.env s.heap m x u
 cell:∀x c,X.env.cells.lookup x=UI c->∃v,s.heap.IsCell c v
 free:H X.env.locals=UK
 EW:∀x c,X.env.cells.lookup x=UI c->H c=UK
 pin:∀p∈X.pn++pins,s.heap.get? p.1=UI p.2/\H p.1=UK/\p.1≠X.env.locals/\p.1∉X.fs/\∀v,p.2.data≠.cell v
 Ef:Fd X.prog X.w H s.heap
 len:σ.length=X.N.length
section
variable{X:Cx}{pins:List (U8×Obj)}{σ:List (Option V)}{H H':Hp}{s:U1}{h':Ws}
theorem Cx.Ok.Dz(ok:X.Ok)(e:X.base.get? b=UI o):b∉X.fs:=λhb=>by
 have:=(ok.jC.mem hb).1;rw[e]at this;cases this
theorem Inv.bs(I:Inv X pins σ H s):∀b o,X.base.get? b=UI o->s.heap.get? b=UI o/\H b=UK:=λb o e =>
 ⟨I.base.keep b o (I.ok.bs b o e).1 (I.ok.bs b o e).2 (I.ok.Dz e) (I.ok.Ha b o e),I.base.free b o (I.ok.bs b o e).1 (I.ok.bs b o e).2 (I.ok.Ha b o e)⟩
theorem Inv.bk(I:Inv X pins σ H s):∀b o,X.base.get? b=UI o->s.heap.get? b=UI o:=λb o e=>(I.bs b o e).1
theorem Inv.mod(I:Inv X pins σ H s):Mod X.K X.mg X.base:=I.ok.mod
theorem Inv.JR(I:Inv X pins σ H s):X.K.In s.heap:=I.ok.mod.M4.keeps I.bk
theorem Inv.lt(I:Inv X pins σ H s):X.env.locals<s.heap.objs.size:=let ⟨_,hn,_⟩:=I.loc;hn.lt
theorem Inv.sz(I:Inv X pins σ H s):X.s₀.heap.objs.size<=s.heap.objs.size:=VN I.ok.above (Xy I.lt)
theorem Inv.An(I:Inv X pins σ H s)(h:s.heap.objs.size<=a):a∉X.fs:=λhb=>by
 obtain⟨_,o,ho,_⟩:=I.ok.jC.mem hb;exact absurd (Vg (UY ho) (VN I.sz h)) (V8 _)
theorem Inv.IX(I:Inv X pins σ H s):∀x c,X.env.cells.lookup x=UI c->c≠X.env.locals:=λx c e z=>by
 obtain⟨v,o,ho,hd⟩:=I.cell x c e;obtain⟨m,⟨o',es,ep,E4,FO,_⟩,_⟩:=I.loc;rw[z,E4]at ho;cases ho;rw[FO]at hd;cases hd
theorem Inv.jC(I:Inv X pins σ H s):s.heap.FunFrames X.base X.outer:=by
 have all:∀(l:List Env),(∀b∈Gv l,b∈X.fs)->X.s₀.heap.FunFrames X.base l->s.heap.FunFrames X.base l:=by
  intro l;induction l with
  |nil=>intro _ _;trivial
  |cons env r ih =>
   intro hs hl;obtain⟨hk,⟨L,o,hf,hn,ho,hd⟩,hr⟩:=hl;have hL:L∈X.fs:=hs L (by unfold Gv;rw[WW,hf];exact Vr);obtain⟨sl,e⟩:=I.base.slot L o ho (I.ok.JQ L hL) hL λz=>I.ok.HP L z hL;exact⟨hk,⟨L,_,hf,hn,e,hd⟩,ih (λb hb=>hs b (by unfold Gv;rw[WW,hf];exact Vx _ hb)) hr⟩
 exact all X.outer (λ_ hb=>hb) I.ok.jC
theorem Inv.stack(I:Inv X pins σ H s):s.heap.FunFrames X.base X.stack:=by
 rcases I.ok.LZ with e|⟨e,hf⟩
 ·rw[e];exact I.jC
 ·rw[e];obtain⟨m,hn,_⟩:=I.loc;refine .cons (by rw[I.ok.kind];decide) hf hn ?_ I.jC;exact Heap.get?_none_of_le (VN I.ok.Im I.ok.above)
theorem Inv.jD(I:Inv X pins σ H s):∀b∈Gv X.stack,b∈X.env.locals::X.fs:=λb hb=>by
 rcases I.ok.LZ with e|⟨e,hf⟩
 ·rw[e]at hb;exact Vx _ hb
 ·rw[e]at hb;unfold Gv at hb;rw[WW,hf]at hb;exact hb
theorem Inv.rp(I:Inv X pins σ H s):∀b∈Gv X.stack,H b=UK:=λb hb=>by
 rcases U2.mp (I.jD b hb) with e|hb
 ·rw[e];exact I.free
 ·obtain⟨_,o,ho,_⟩:=I.ok.jC.mem hb;exact I.base.free b o ho (I.ok.JQ b hb) λz=>I.ok.HP b z hb
theorem Inv.step{ch:List U8}(I:Inv X pins σ H s)
  (HB:∀b∈ch,(b∈X.ex\/X.s₀.heap.objs.size<=b)/\b≠X.env.locals/\(∀x c,X.env.cells.lookup x=UI c->c≠b)/\∀p∈X.pn++pins,p.1≠b)
  (keep:∀b o,b≠X.env.locals->b∉X.fs->b∉ch->s.heap.get? b=UI o->H b=UK->h'.get? b=UI o)
  (slot:∀b o,b≠X.env.locals->b∈X.fs->b∉ch->s.heap.get? b=UI o->H b=UK->∃sl,h'.get? b=UI {o with slots:=sl}) (free:∀b o,b∉ch->s.heap.get? b=UI o->H b=UK->H' b=UK)
  (there:∀b o,b∉ch->s.heap.get? b=UI o->∃o',h'.get? b=UI o')
  (jl:∀b xs,H b=UI (.tup xs)->H' b=UI (.tup xs)) (FG:∀b o u,H b=UI (.Fs o u)->H' b=UI (.Fs o u)) (FN:∀b ps,H b=UI (.IV ps)->∃more,H' b=UI (.IV (ps++more)))
  (ns:∀m,s.heap.Ns X.env.locals m->h'.Ns X.env.locals m) (Ef:Fd X.prog X.w H' h') (hg:Zj g') :
  Inv X pins σ H' {s with heap:=h',gens:=g',drawn:=d',toks:=t' }:=by
 have Pe:∀b o,X.s₀.heap.get? b=UI o->b≠X.env.locals:=λb o e=>U5 (Vg (UY e) I.ok.above);have L0:∀b o,X.s₀.heap.get? b=UI o->b∉X.ex->b∉ch:=λb o e hx hb=>by
  rcases(HB b hb).1 with z|z
  ·exact hx z
  ·exact absurd (Vg (UY e) z) (V8 _)
 have cellK:∀x c,X.env.cells.lookup x=UI c->∀v,s.heap.IsCell c v->h'.IsCell c v:=λx c e v Ey=>by
  obtain⟨o,ho,hd⟩:=Ey;have Kk:c∉ch:=λz=>(HB c z).2.2.1 x c e rfl;by_cases hc:c∈X.fs
  ·obtain⟨sl,q⟩:=slot c o (I.IX x c e) hc Kk ho (I.EW x c e);exact⟨_,q,hd⟩
  ·exact⟨o,keep c o (I.IX x c e) hc Kk ho (I.EW x c e),hd⟩
 refine⟨I.ok,I.os,hg,⟨λb o e n hb hx=>?_,λb o e n hb hx=>?_,λb o e n hx=>?_,λb o e hx=>?_,λb xs e=>jl b xs (I.base.jl b xs e),λb o xs e=>FG b o xs (I.base.FG b o xs e),λb ps e=>?_⟩,?_,λx c e=>?_,?_,λx c e=>?_,λp hp=>?_,Ef,I.len⟩
 ·exact keep b o (Pe b o e) hb (L0 b o e hx) (I.base.keep b o e n hb hx) (I.base.free b o e n hx)
 ·obtain⟨sl,e1⟩:=I.base.slot b o e n hb hx;obtain⟨QT,e2⟩:=slot b _ (Pe b o e) hb (L0 b o e hx) e1 (I.base.free b o e n hx);exact⟨QT,e2⟩
 ·obtain⟨o',e1⟩:=I.base.there b o e hx;exact free b o' (L0 b o e hx) e1 (I.base.free b o e n hx)
 ·obtain⟨o',e1⟩:=I.base.there b o e hx;exact there b o' (L0 b o e hx) e1
 ·obtain⟨m1,e1⟩:=I.base.FN b ps e;obtain⟨m2,e2⟩:=FN b _ e1;exact⟨m1++m2,by rw[e2,Array.append_assoc]⟩
 ·obtain⟨m,hn,hl⟩:=I.loc;refine⟨m,ns m hn,λi x v e1 e2 e3=>?_⟩;obtain⟨u,r,l⟩:=hl i x v e1 e2 e3;refine⟨u,r,?_⟩;rcases l with l|⟨k,c,e,z⟩
  ·exact .inl l
  ·exact .inr ⟨k,c,e,cellK x c e _ z⟩
 ·obtain⟨v,z⟩:=I.cell x c e;exact⟨v,cellK x c e v z⟩
 ·obtain⟨m,⟨o,_,_,ho,_⟩,_⟩:=I.loc;exact free _ o (λz=>(HB _ z).2.1 rfl) ho I.free
 ·obtain⟨v,o,ho,hd⟩:=I.cell x c e;exact free c o (λz=>(HB c z).2.2.1 x c e rfl) ho (I.EW x c e)
 ·obtain⟨e,n,ne,nf,d⟩:=I.pin p hp;have Kk:p.1∉ch:=λz=>(HB p.1 z).2.2.2 p hp rfl;exact⟨keep p.1 p.2 ne nf Kk e n,free p.1 p.2 Kk e n,ne,nf,d⟩
theorem Inv.un(I:Inv X pins σ H s)(u:Un X.fs [] H H' s.heap h')(Ef:Fd X.prog X.w H' h'):Inv X pins σ H' {s with heap:=h',toks:=t' }:=by
 obtain⟨m,⟨o,es,ep,ho,r⟩,_⟩:=id I.loc;obtain⟨sl,hL⟩:=u.any ho I.free (by simp);exact I.step (g':=s.gens) (d':=s.drawn) (ch:=[]) (λ_ z=>nomatch z) (λb o _ hb _ e n=>u.keep b o e n hb (by simp)) (λb o _ hb _ e n=>u.slot b o e n hb (by simp)) (λb o _ e n=>u.free b o e n (by simp)) (λb o _ e=>u.there b o e (by simp)) u.jl u.FG u.FN (λm' hm=>by
  obtain⟨o',Ed,Hb,E4,r'⟩:=hm;rw[ho]at E4;cases E4;exact⟨_,Ed,Hb,hL,r'⟩) Ef I.bare
theorem Inv.call(I:Inv X pins σ H s)(u:Un (Gv X.stack) ch H H' s.heap h')(Ef:Fd X.prog X.w H' h')(hg:Zj g')
  (HB:∀b∈ch,(b∈X.ex\/X.s₀.heap.objs.size<=b)/\b≠X.env.locals/\(∀x c,X.env.cells.lookup x=UI c->c≠b)/\∀p∈X.pn++pins,p.1≠b) :
  Inv X pins σ H' {s with heap:=h',gens:=g',drawn:=d',toks:=t' }:=by
 obtain⟨m,⟨o,es,ep,ho,r⟩,_⟩:=id I.loc;obtain⟨sl,hL⟩:=u.any ho I.free λz=>(HB _ z).2.1 rfl;exact I.step (ch:=ch) HB (λb o hL hb hc e n=>u.keep b o e n (λz=>(U2.mp (I.jD b z)).elim hL hb) hc) (λb o _ _ hc e n=>u.any e n hc) (λb o hc e n=>u.free b o e n hc) (λb o hc e=>u.there b o e hc) u.jl u.FG u.FN (λm' hm=>by
  obtain⟨o',Ed,Hb,E4,r'⟩:=hm;rw[ho]at E4;cases E4;exact⟨_,Ed,Hb,hL,r'⟩) Ef hg
theorem Inv.turned(I:Inv X pins σ H s)(k:∀b o,b≠it->s.heap.get? b=UI o->h'.get? b=UI o)(hn:H it=UK)(hL:it≠X.env.locals)
  (h1:it∈X.ex\/X.s₀.heap.objs.size<=it) (h2:∀x c,X.env.cells.lookup x=UI c->c≠it) (h3:∀p∈X.pn++pins,p.1≠it):Inv X pins σ H {s with heap:=h',toks:=t' }:=by
 have Kl:∀b u,H b=UI u->b≠it:=λb u e z=>by rw[z,hn]at e;cases e
 refine I.step (g':=s.gens) (d':=s.drawn) (ch:=[it]) (λb hb=>?_) (λb o _ _ hc e _=>k b o (λz=>hc (by simp[z])) e) (λb o _ _ hc e _=>⟨o.slots,k b o (λz=>hc (by simp[z])) e⟩) (λ_ _ _ _ n=>n)
  (λb o hc e=>⟨o,k b o (λz=>hc (by simp[z])) e⟩) (λ_ _ e=>e) (λ_ _ _ e=>e) (λb ps e=>⟨#[],by rw[e];simp⟩) (λm hm=>?_) (λb u e=>?_) I.bare
 ·have e:b=it:=by simpa using hb
  subst e;exact⟨h1,hL,h2,h3⟩
 ·obtain⟨o,es,ep,ho,r⟩:=hm;exact⟨o,es,ep,k _ o (VP hL) ho,r⟩
 ·refine(I.Ef b u e).fY (λc v hc q=>k c v ?_ q) (λ_ q=>q) λ_ _ q=>q;rcases hc with z|z
  ·rw[z];exact Kl b u e
  ·exact Kl c _ z
theorem Inv.tok(I:Inv X pins σ H s)(t:Nat):Inv X pins σ H {s with toks:=t}:=I.un (h':=s.heap) (t':=t) Un.refl I.Ef
theorem Inv.kept(I:Inv X pins σ H s)(k:∀b u,s.heap.get? b=UI u->h'.get? b=UI u):Inv X pins σ H {s with heap:=h',toks:=t' }:=I.un (Un.kept k) (I.Ef.kept k)
theorem Inv.laid(I:Inv X pins σ H s)(k:∀b u,s.heap.get? b=UI u->h'.get? b=UI u)(hp:s.heap.objs.size<=a)(new:bq X.prog X.w (upd H a o) h' a o):
  Inv X pins σ (upd H a o) {s with heap:=h',toks:=t' }:=I.un (Un.laid k hp (I.Ef.fresh hp)) (I.Ef.laid k hp new)
theorem Inv.write(I:Inv X pins σ H s)(mu:Kh (H x))(he:e=x\/H e=UI (.own x))(k:∀b u,b≠e->s.heap.get? b=UI u->h'.get? b=UI u)(HA:∃u,h'.get? e=UI u)
  (new:bq X.prog X.w (upd H x o) h' x o):Inv X pins σ (upd H x o) {s with heap:=h',toks:=t' }:=I.un (Un.write mu he k HA) (I.Ef.write mu he k HA new)
theorem Inv.weak(I:Inv X pins σ H s)(hl:σ'.length=σ.length)(w:∀(i:Nat) v,σ'[i]?=UI (UI v)->σ[i]?=UI (UI v)):Inv X pins σ' H s :=
 ⟨I.ok,I.os,I.bare,I.base,let ⟨m,hn,Io⟩:=I.loc;⟨m,hn,λi x v e1 e2 e3=>Io i x v e1 (w i v e2) e3⟩,I.cell,I.free,I.EW,I.pin,I.Ef,hl.trans I.len⟩
theorem Inv.dy(I:Inv X pins σ H s)(h:∀p∈Ip,s.heap.get? p.1=UI p.2/\H p.1=UK/\p.1≠X.env.locals/\p.1∉X.fs/\∀v,p.2.data≠.cell v):Inv X Ip σ H s :=
 ⟨I.ok,I.os,I.bare,I.base,I.loc,I.cell,I.free,I.EW,λp hp=>(Ve.mp hp).elim (λz=>I.pin p (Y8 _ z)) (h p),I.Ef,I.len⟩
theorem jE{N:List Str}(hN:N.Nodup){i j:Nat}(a:N[i]?=UI x)(b:N[j]?=UI x):i=j:=by
 obtain⟨h1,e1⟩:=UW.mp a;obtain⟨h2,e2⟩:=UW.mp b;exact(ķ hN).mp (e1.trans e2.symm)
theorem lz(I:Inv X pins σ H s)(hN:X.N.Nodup)(hi:X.N[i]?=UI x)(hx:Loc X.env.scope x)(r:RelV v u)
  (h:∀s',Inv X pins (σ.set i (UI v)) H s'->(∃a,Vz a s.heap s'.heap/\(a=X.env.locals\/X.env.cells.lookup x=UI a))->Q () s') (hf:X.fn x=UN\/X.env.scope.names.lookup x=UI .local:=by first|exact .inl rfl|exact .inr rfl|assumption):UU M A (storeName X.env x u) Q E s:=by
 obtain⟨m,hn,hl⟩:=id I.loc;have M5:(X.env.scope.kind==.class||(X.env.scope.kind==.module&&X.env.locals != X.env.globals))=UO:=by rw[I.ok.kind];rfl
 have Pf:i < σ.length:=by rw[I.len];exact(UW.mp hi).1
 have IX:=I.IX;have tracked:∀{a:U8} {h':Ws},(∃o,s.heap.get? a=UI o/\H a=UK)->Vz a s.heap h'->Fd X.prog X.w H h':=λ{a h'} ha hs b ob e=>by
  obtain⟨_,_,E1⟩:=ha;refine(I.Ef b ob e).fY (λc w' hc q=>(hs.2 c ?_).trans q) (λ_ q=>q) λ_ _ q=>q;rintro rfl;rcases hc with rfl|hc
  ·rw[E1]at e;cases e
  ·rw[E1]at hc;cases hc
 rcases hx with hk|hk
 ·refine wpAny_storeName_local hk hn (λh' IY hs=>?_) M5;obtain⟨oL,_,_,HQ,_⟩:=id hn;refine h _ ⟨I.ok,I.os,I.bare,⟨λb o e n hb hx=>?_,λb o e n hb hx=>?_,I.base.free,λb o e hx=>?_,I.base.jl,I.base.FG,I.base.FN⟩,⟨_,IY,λj y v' e1 e2 e3=>?_⟩,λy c e=>?_,I.free,I.EW,λp hp=>?_,tracked ⟨oL,HQ,I.free⟩ hs,by simpa using I.len⟩ ⟨_,hs,.inl rfl⟩
  ·exact(hs.2 b (U5 (Vg (UY e) I.ok.above))).trans (I.base.keep b o e n hb hx)
  ·obtain⟨sl,e1⟩:=I.base.slot b o e n hb hx;exact⟨sl,(hs.2 b (U5 (Vg (UY e) I.ok.above))).trans e1⟩
  ·obtain⟨o',e1⟩:=I.base.there b o e hx;exact⟨o',(hs.2 b (U5 (Vg (UY e) I.ok.above))).trans e1⟩
  ·by_cases hj:j=i
   ·subst hj;rw[hi]at e1;cases e1;rw[U0 Pf]at e2;cases e2;exact⟨u,r,.inl ⟨hk,by simp⟩⟩
   ·rw[Vh (VP hj)]at e2;obtain⟨u',r',q⟩:=hl j y v' e1 e2 e3;refine⟨u',r',?_⟩;rcases q with⟨k,e⟩|⟨k,c,e,z⟩
    ·refine .inl ⟨k,?_⟩;have:y≠x:=λe=>hj (jE hN e1 (e▸hi));simp[this,e]
    ·exact .inr ⟨k,c,e,z.sameBut hs (IX y c e)⟩
  ·obtain⟨w',z⟩:=I.cell y c e;exact⟨w',z.sameBut hs (IX y c e)⟩
  ·obtain⟨e,n,ne,nf,d⟩:=I.pin p hp;exact⟨(hs.2 p.1 ne).trans e,n,ne,nf,d⟩
 ·have HC:X.fn x=UN:=by
   rcases hf with z|z
   ·exact z
   ·rw[z]at hk;cases hk
  obtain⟨c,hc⟩:=I.ok.has x (.inl hk);obtain⟨w',z⟩:=I.cell x c hc;refine wpAny_storeName_cell I.ok.kind hk hc z (λh' HD hs=>?_);obtain⟨oc,Ph,M6⟩:=id z;refine h {s with heap:=h' } ⟨I.ok,I.os,I.bare,⟨λb o e n hb hx=>?_,λb o e n hb hx=>?_,I.base.free,λb o e hx=>?_,I.base.jl,I.base.FG,I.base.FN⟩,⟨m,hn.sameBut hs (VP (IX x c hc)),λj y v' e1 e2 e3=>?_⟩,λy c' e=>?_,I.free,I.EW,λp hp=>?_,tracked ⟨oc,Ph,I.EW x c hc⟩ hs,by simpa using I.len⟩ ⟨c,hs,.inr hc⟩
  ·exact(hs.2 b (U5 (Vg (UY e) (I.ok.Kj x c HC hc)))).trans (I.base.keep b o e n hb hx)
  ·obtain⟨sl,e1⟩:=I.base.slot b o e n hb hx;exact⟨sl,(hs.2 b (U5 (Vg (UY e) (I.ok.Kj x c HC hc)))).trans e1⟩
  ·obtain⟨o',e1⟩:=I.base.there b o e hx;exact⟨o',(hs.2 b (U5 (Vg (UY e) (I.ok.Kj x c HC hc)))).trans e1⟩
  ·by_cases hj:j=i
   ·subst hj;rw[hi]at e1;cases e1;rw[U0 Pf]at e2;cases e2;exact⟨u,r,.inr ⟨.inl hk,c,hc,HD⟩⟩
   ·rw[Vh (VP hj)]at e2;obtain⟨u',r',q⟩:=hl j y v' e1 e2 e3;refine⟨u',r',?_⟩;rcases q with q|⟨k,c',e,z'⟩
    ·exact .inl q
    ·refine .inr ⟨k,c',e,z'.sameBut hs ?_⟩;rintro rfl;exact hj (jE hN e1 (I.ok.inj _ _ _ e hc▸hi))
  ·by_cases Pj:c'=c
   ·subst Pj;exact⟨_,HD⟩
   ·obtain⟨w2,z2⟩:=I.cell y c' e;exact⟨w2,z2.sameBut hs Pj⟩
  ·obtain⟨e,n,ne,nf,d⟩:=I.pin p hp;refine⟨(hs.2 p.1 ?_).trans e,n,ne,nf,d⟩;intro q;rw[q,Ph]at e;have q':oc=p.2:=VM e;exact d w' (by rw[<-q'];exact M6)
theorem oh(I:Inv X pins σ H s)(hN:X.N.Nodup)(hi:X.N[i]?=UI x)(hx:Loc X.env.scope x)(r:RelV v u)
  (h:∀s',Inv X pins (σ.set i (UI v)) H s'->Q () s') (hf:X.fn x=UN\/X.env.scope.names.lookup x=UI .local:=by first|exact .inl rfl|exact .inr rfl|assumption):UU M A (storeName X.env x u) Q E s :=
 lz I hN hi hx r (λs' I' _=>h s' I') hf
theorem Inv.B6(I:Inv X pins σ H s)(ho:s'.os=s.os)(u:Un (Gv X.stack) ch H H' s.heap s'.heap)(Ef:Fd X.prog X.w H' s'.heap)(hg:Zj s'.gens)
  (HB:∀b∈ch,(b∈X.ex\/X.s₀.heap.objs.size<=b)/\b≠X.env.locals/\(∀x c,X.env.cells.lookup x=UI c->c≠b)/\∀p∈X.pn++pins,p.1≠b):Inv X pins σ H' s':=by
 obtain⟨h',g',d',t',o'⟩:=s';have e:o'=s.os:=ho;subst e;exact I.call (g':=g') (t':=t') (d':=d') u Ef hg HB
end
abbrev XK:=UT->Option U8->Hp->Prop
abbrev St:=List (Option V)
abbrev VK:=V->Hp->Prop
abbrev TE:=St->Hp->VK->Prop
abbrev TT:=St->Hp->(Bool->Hp->Prop)->Prop
abbrev TA:=St->Hp->(List V->Hp->Prop)->Prop
structure Ends where
 nx:St->Hp->Prop
 rt:VK
 bk:St->Hp->Prop:=λ_ _=>False
 ct:St->Hp->Prop:=λ_ _=>False
abbrev TS:=Ends->St->Hp->Prop
def EP(X:Cx)(pins:List (U8×Obj))(σ:St)(Q:VK)(u:UT)(s':U1):Prop:=∃v H',Inv X pins σ H' s'/\RelV v u/\Q v H'
def TP(X:Cx)(pins:List (U8×Obj))(σ:St)(Q:Bool->Hp->Prop)(b:Bool)(s':U1):Prop:=∃H',Inv X pins σ H' s'/\Q b H'
def AP(X:Cx)(pins:List (U8×Obj))(σ:St)(Q:List V->Hp->Prop)(us:List UT)(s':U1):Prop:=∃vs H',Inv X pins σ H' s'/\Vals vs us/\Q vs H'
def SP(X:Cx)(pins:List (U8×Obj))(D:Ends)(f:Flow)(s':U1):Prop :=
 match f with
 |.next=>∃σ' H',Inv X pins σ' H' s'/\D.nx σ' H'
 |.brk=>∃σ' H',Inv X pins σ' H' s'/\D.bk σ' H'
 |.cont=>∃σ' H',Inv X pins σ' H' s'/\D.ct σ' H'
 |.ret u=>∃v σ' H',Inv X pins σ' H' s'/\RelV v u/\D.rt v H'
def PE(X:Cx)(e:VO)(t:TE):Prop :=
 ∀(pins:List (U8×Obj)) (s:U1) (σ:St) (H:Hp) (Q:VK),Inv X pins σ H s->t σ H Q->UU (U6 X.prog X.w) X.A (Wo e X.env) (EP X pins σ Q) X.xe s
def PT(X:Cx)(e:VO)(t:TT):Prop :=
 ∀(pins:List (U8×Obj)) (s:U1) (σ:St) (H:Hp) (Q:Bool->Hp->Prop),Inv X pins σ H s->t σ H Q->UU (U6 X.prog X.w) X.A (isTrue e X.env (Wo e X.env)) (TP X pins σ Q) X.xe s
def PW(X:Cx)(e:VO)(t:TT):Prop :=
 ∀(whole:Sem UT) (pins:List (U8×Obj)) (s:U1) (σ:St) (H:Hp) (Q:Bool->Hp->Prop),Inv X pins σ H s->t σ H Q->UU (U6 X.prog X.w) X.A (isTrue e X.env whole) (TP X pins σ Q) X.xe s
theorem PW.pt(h:PW X e t):PT X e t:=h _
def PA(X:Cx)(es:List VO)(t:TA):Prop :=
 ∀(pos:Pos) (pins:List (U8×Obj)) (s:U1) (σ:St) (H:Hp) (Q:List V->Hp->Prop),Inv X pins σ H s->t σ H Q->UU (U6 X.prog X.w) X.A (ş (Ww pos (Vf es X.env))) (AP X pins σ Q) X.xe s
def PS(X:Cx)(st:Ya)(t:TS):Prop :=
 ∀(pins:List (U8×Obj)) (s:U1) (σ:St) (H:Hp) (D:Ends),Inv X pins σ H s->t D σ H->UU (U6 X.prog X.w) X.A (exec st X.env) (SP X pins D) X.xe s
def Ff(X:Cx)(st:List Ya)(t:TS):Prop :=
 ∀(pins:List (U8×Obj)) (s:U1) (σ:St) (H:Hp) (D:Ends),Inv X pins σ H s->t D σ H->UU (U6 X.prog X.w) X.A (execs st X.env) (SP X pins D) X.xe s
theorem Ej(h:UU M A t Q E s)(hQ:∀a s,Q a s->Q' a s):UU M A t Q' E s:=VS h hQ λ_ _ x=>x
section
def DA(i:Nat):TE:=λσ H Q=>∃v,σ[i]?=UI (UI v)/\Q v H
def tC(v:V):TE:=λ_ H Q=>Q v H
theorem cc(hN:X.N[i]?=UI x)(hv:F3 X.env.scope x)(hd:(x==("__debug__":Str))=UO:=by decide)(EV:(x==("__classdict__":Str))=UO:=by decide):PE X (.Name x pos) (DA i):=by
 intro pins s σ H Q I h;obtain⟨v,e,h⟩:=h;obtain⟨m,hn,hl⟩:=I.loc;obtain⟨u,r,l⟩:=hl i x v hN e hv;have fin:EP X pins σ Q u s:=⟨v,H,I,r,h⟩
 rcases l with⟨hk,hm⟩|⟨hk,c,hc,F4⟩
 ·exact ŏ (wpAny_loadName_local I.ok.kind hk hn hm fin) hd
 ·rcases hk with hk|hk
  ·exact ŏ (wpAny_loadName_cell I.ok.kind hk hc F4 fin) hd
  ·exact ŏ (wpAny_loadName_free I.ok.kind hk hc F4 fin EV) hd
theorem uT:PE X (.Constant (.int i) j pos) (tC (.int i)):=λ_ _ _ H _ I h=>wpAny_Constant_int ⟨.int i,H,I.tok _,⟨_,rfl⟩,h⟩
theorem zE:PE X (.Constant (.bool b) j pos) (tC (.bl b)):=λ_ _ _ H _ I h=>Constant_bool ⟨.bl b,H,I,rfl,h⟩
theorem uU:PE X (.Constant .none j pos) (tC .Es):=λ_ _ _ H _ I h=>Constant_none ⟨.Es,H,I,rfl,h⟩
theorem uV:PE X (.Constant (.str x) j pos) (tC (.str x)):=λ_ _ _ H _ I h=>Calls.Constant_str ⟨.str x,H,I.tok _,⟨_,rfl⟩,h⟩
def Gl(X:Cx)(x:Str):Prop:=X.env.kindOf x=UI .globalImplicit
theorem xP(I:Inv X pins σ H s)(hg:Gl X x)(hm:X.mg x=UI u)(h:Q u s)
  (hd:(x==("__debug__":Str))=UO:=by decide):UU (U6 X.prog X.w) X.A (Wo (.Name x pos) X.env) Q E s :=
 Ë I.ok.kind hg (Calls.loadGlobal_global (by rw[I.ok.glob];exact I.mod.glob.keeps I.bk) hm h) hd
theorem dc(I:Inv X pins σ H s)(hg:Gl X x)(hm:X.mg x=UK)(hv:Wh x=UI u)(h:Q u s)
  (hn:x≠"__name__":=by decide) (hd:(x==("__debug__":Str))=UO:=by decide):UU (U6 X.prog X.w) X.A (Wo (.Name x pos) X.env) Q E s:=by
 obtain⟨mb,h1,h2⟩:=I.mod.blt;exact Ë I.ok.kind hg (Calls.loadGlobal_builtin (by rw[I.ok.glob];exact I.mod.glob.keeps I.bk) hm (by rw[I.ok.blt];exact h1.keeps I.bk) ((h2 x hn).trans hv) h) hd
def PC(X:Cx)(op:CmpOp)(a b:VO)(t:TE):Prop :=
 ∀(pins:List (U8×Obj)) (s:U1) (σ:St) (H:Hp) (Q:VK),Inv X pins σ H s->t σ H Q ->
  UU (U6 X.prog X.w) X.A (Wo a X.env) (λv s₁=>UU (U6 X.prog X.w) X.A (Wo b X.env) (λu s₂=>UU (U6 X.prog X.w) X.A (Xr op v u) (EP X pins σ Q) X.xe s₂) X.xe s₁) X.xe s
def tB(t:TE):TT:=λσ H Q=>t σ H λx H1=>∃c,x=.bl c/\Q c H1
theorem uW(h:PC X op a b t)(h1:Xs op b=UO:=by first|exact Hc _ (by decide) (by decide)|rfl):PE X (.Compare a [op] [b] pos) t:=λpins s σ H Q I hw=>Θ (h pins s σ H Q I hw) h1
theorem uX(h:PC X op a b t)(h1:Xs op b=UO:=by first|exact Hc _ (by decide) (by decide)|rfl):PT X (.Compare a [op] [b] pos) (tB t):=by
 intro pins s σ H Q I hw;refine ĳ (Ej (h pins s σ H _ I hw) λv s1 h1=>Ej h1 λu s2 h2=>Ej h2 λc s3 ⟨x,H1,I1,r1,q1⟩=>?_) h1;obtain⟨d,rfl,q⟩:=q1;cases r1;exact Wc ⟨H1,I1,q⟩
def DB(t u:TT):TT:=λσ H Q=>t σ H λc H1=>if c=UN then u σ H1 Q else Q UO H1
def QU(t u:TT):TT:=λσ H Q=>t σ H λc H1=>if c=UN then Q UN H1 else u σ H1 Q
def DC(t:TT):TT:=λσ H Q=>t σ H λc H1=>Q (!c) H1
theorem xQ(ha:PT X a tA):PW X (.BoolOp .And [a] pos) tA:=by
 intro wh pins s σ H Q I h;refine isTrue_and (Ej (ha pins s σ H Q I h) λc s1 e=>?_);cases c with
 |true=>exact Ψ e
 |false=>exact e
theorem Ao(ha:PT X a tA):PW X (.BoolOp .Or [a] pos) tA:=by
 intro wh pins s σ H Q I h;refine isTrue_or (Ej (ha pins s σ H Q I h) λc s1 e=>?_);cases c with
 |false=>exact isTrue_or_nil e
 |true=>exact e
theorem Ap(ha:PT X a tA)(hb:PW X (.BoolOp .And (b::rest) pos) M7):PW X (.BoolOp .And (a::b::rest) pos) (DB tA M7):=by
 intro wh pins s σ H Q I h;refine isTrue_and (Ej (ha pins s σ H _ I h) λc s1 ⟨H1,I1,q1⟩=>?_);cases c with
 |true=>exact hb wh pins s1 σ H1 Q I1 q1
 |false=>exact⟨H1,I1,q1⟩
theorem B7(ha:PT X a tA)(hb:PW X (.BoolOp .Or (b::rest) pos) M7):PW X (.BoolOp .Or (a::b::rest) pos) (QU tA M7):=by
 intro wh pins s σ H Q I h;refine isTrue_or (Ej (ha pins s σ H _ I h) λc s1 ⟨H1,I1,q1⟩=>?_);cases c with
 |true=>exact⟨H1,I1,q1⟩
 |false=>exact hb wh pins s1 σ H1 Q I1 q1
theorem Aq(ha:PT X a tA):PT X (.UnaryOp .Not a pos) (DC tA):=by
 intro pins s σ H Q I h;exact isTrue_not (ha pins s σ H (λc H1=>Q (!c) H1) I h)
def B8(ta tb:TE):TE:=λσ H Q=>ta σ H λx H1=>∃c,x=.bl c/\if c=UN then tb σ H1 Q else Q (.bl UO) H1
def DE(ta tb:TE):TE:=λσ H Q=>ta σ H λx H1=>∃c,x=.bl c/\if c=UN then Q (.bl UN) H1 else tb σ H1 Q
def B9(ta:TE):TE:=λσ H Q=>ta σ H λx H1=>∃c,x=.bl c/\Q (.bl (!c)) H1
theorem uY(h:PE X a t):PE X (.BoolOp op [a] pos) t:=λpins s σ H Q I hw=>BoolOp_one (h pins s σ H Q I hw)
theorem Ar(ha:PE X a ta)(hb:PE X (.BoolOp .And (b::rest) pos) tb):PE X (.BoolOp .And (a::b::rest) pos) (B8 ta tb):=by
 intro pins s σ H Q I h;refine BoolOp_and (Ej (ha pins s σ H _ I h) λv s1 ⟨x,H1,I1,r1,q1⟩=>?_);obtain⟨c,rfl,q1⟩:=q1;cases r1;refine Wc ?_;cases c with
 |true=>exact hb pins s1 σ H1 Q I1 q1
 |false=>exact⟨.bl UO,H1,I1,rfl,q1⟩
theorem B_(ha:PE X a ta)(hb:PE X (.BoolOp .Or (b::rest) pos) tb):PE X (.BoolOp .Or (a::b::rest) pos) (DE ta tb):=by
 intro pins s σ H Q I h;refine BoolOp_or (Ej (ha pins s σ H _ I h) λv s1 ⟨x,H1,I1,r1,q1⟩=>?_);obtain⟨c,rfl,q1⟩:=q1;cases r1;refine Wc ?_;cases c with
 |false=>exact hb pins s1 σ H1 Q I1 q1
 |true=>exact⟨.bl UN,H1,I1,rfl,q1⟩
theorem As(ha:PE X a ta):PE X (.UnaryOp .Not a pos) (B9 ta):=by
 intro pins s σ H Q I h;refine UnaryOp_ (Ej (ha pins s σ H _ I h) λv s1 ⟨x,H1,I1,r1,q1⟩=>?_);obtain⟨c,rfl,q1⟩:=q1;cases r1;exact not_of (Wc ⟨.bl (!c),H1,I1,rfl,q1⟩)
end
def EN(K:PySem.W.Frag)(H:Hp)(a:U8)(xs:List V):Prop :=
 Rd H a (.lst xs) \/
  ∃(o:Obj) (A':Array UT) (n:Nat),K.lookup a=UI o/\o.cls=.type "list"/\o.dict=UK/\o.data=.seq A' n/\A'.size<=US/\Vals xs A'.toList
def EC(K:PySem.W.Frag)(H:Hp)(a:U8)(xs:List V):Prop :=
 Rd H a (.tup xs) \/
  ∃(o:Obj) (A':Array UT) (n:Nat),K.lookup a=UI o/\o.cls=.type "tuple"/\o.data=.seq A' n/\A'.size<=US/\Vals xs A'.toList
noncomputable def DF:UT->Option V
 |.none=>UI .Es
 |.bool b=>UI (.bl b)
 |.int i _=>UI (.int i)
 |.str x _=>UI (.str x)
 |.bytes b _=>UI (.LW b)
 |.float b _=>UI (.LX b)
 |.ref a=>UI (.ref a)
 |.type n=>UI (.ty n)
 |_=>UK
theorem RelV.abs(r:RelV x u):DF u=UI x:=by
 cases x with
 |Es=>cases r;rfl
 |bl _=>cases r;rfl
 |ref _=>cases r;rfl
 |ty _=>cases r;rfl
 |_=>obtain⟨t,rfl⟩:=r;rfl
theorem RelV.inj(r:RelV x u)(q:RelV y u):x=y:=VM (r.abs.symm.trans q.abs)
theorem Vals.inj:∀{xs ys:List V}{us:List UT},Vals xs us->Vals ys us->xs=ys
 |_,_,_,.nil,.nil=>rfl
 |_,_,_,.cons r t,.cons r' t'=>by rw[r.inj r',Vals.inj t t']
section
theorem EN.of{K:PySem.W.Frag}(h:H a=UI (.lst xs)):EN K H a xs:=.inl (.inl h)
theorem EC.of{K:PySem.W.Frag}(h:H a=UI (.tup xs)):EC K H a xs:=.inl (.inl h)
theorem Inv.list(I:Inv X pins σ H s)(h:EN X.K H a xs):∃A':List UT,Vals xs A'/\PlainL s.heap a A'.toArray/\xs.length<=US:=by
 rcases h with h|⟨o,A',n,hk,hc,hd,hs,hz,r⟩
 ·obtain⟨z,A',n,r,e⟩:=h.ok I.Ef;exact⟨A',r,⟨_,n,e,rfl,rfl,rfl⟩,z⟩
 ·refine⟨A'.toList,r,⟨o,n,I.JR a o hk,hc,hd,by simpa using hs⟩,?_⟩;have e:=r.length;simp only[Va]at e;omega
theorem Inv.tuple(I:Inv X pins σ H s)(h:EC X.K H a xs):∃A':List UT,Vals xs A'/\Ń s.heap a A'.toArray/\xs.length<=US:=by
 rcases h with h|⟨o,A',n,hk,hc,hs,hz,r⟩
 ·obtain⟨z,A',r,p⟩:=h.ok I.Ef;exact⟨A',r,p,z⟩
 ·refine⟨A'.toList,r,⟨o,I.JR a o hk,hc,n,by simpa using hs⟩,?_⟩;have e:=r.length;simp only[Va]at e;omega
theorem Inv.jF(I:Inv X pins σ H s)(h:EN X.K H a xs)(h':EN X.K H a ys):xs=ys:=by
 obtain⟨A',r,⟨o,n,e,_,_,d⟩,_⟩:=I.list h;obtain⟨its',r',⟨o',n',e',_,_,d'⟩,_⟩:=I.list h';rw[e]at e';cases e';rw[d]at d';injection d' with d1 _
 have:A'=its':=by simpa using θ é d1
 subst this;exact r.inj r'
theorem Inv.iw(I:Inv X pins σ H s)(h:EC X.K H a xs)(h':EC X.K H a ys):xs=ys:=by
 obtain⟨A',r,⟨o,e,_,n,d⟩,_⟩:=I.tuple h;obtain⟨its',r',⟨o',e',_,n',d'⟩,_⟩:=I.tuple h';rw[e]at e';cases e';rw[d]at d';injection d' with d1 _
 have:A'=its':=by simpa using θ é d1
 subst this;exact r.inj r'
end
abbrev Cx.k_(X:Cx)(E:UT->U1->Prop):Cx:={X with xe:=E}
abbrev Cx.Km(X:Cx):Cx:=X.k_ λ_ _=>False
theorem Cx.Ok.k_{X:Cx}(ok:X.Ok)(E:UT->U1->Prop):(X.k_ E).Ok :=
 ⟨ok.mod,ok.kind,ok.glob,ok.blt,ok.above,ok.inj,ok.has,ok.Kj,ok.hd,ok.frames,ok.LZ,ok.Pd,ok.bs,ok.Im,ok.Ha,ok.HP,ok.jC,ok.JQ⟩
theorem Cx.Ok.ix{X:Cx}(ok:(X.k_ E).Ok):X.Ok :=
 ⟨ok.mod,ok.kind,ok.glob,ok.blt,ok.above,ok.inj,ok.has,ok.Kj,ok.hd,ok.frames,ok.LZ,ok.Pd,ok.bs,ok.Im,ok.Ha,ok.HP,ok.jC,ok.JQ⟩
section
theorem Inv.k_(I:Inv X pins σ H s)(E:UT->U1->Prop):Inv (X.k_ E) pins σ H s:=⟨I.ok.k_ E,I.os,I.bare,I.base,I.loc,I.cell,I.free,I.EW,I.pin,I.Ef,I.len⟩
theorem Inv.ix(I:Inv (X.k_ E) pins σ H s):Inv X pins σ H s:=⟨I.ok.ix,I.os,I.bare,I.base,I.loc,I.cell,I.free,I.EW,I.pin,I.Ef,I.len⟩
theorem SP.ix(h:SP (X.k_ E) pins D f s'):SP X pins D f s':=by
 cases f with
 |ret u=>obtain⟨v,σ',H',I,r,q⟩:=h;exact⟨v,σ',H',I.ix,r,q⟩
 |_=>obtain⟨σ',H',I,q⟩:=h;exact⟨σ',H',I.ix,q⟩
theorem Ff.Km{st:List Ya}(h:Ff X.Km st t):Ff X st t:=λpins s σ H D I hw =>
 VS (h pins s σ H D (I.k_ _) hw) (λ_ _ q=>q.ix) λ_ _ z=>Xq z
end
section
variable{X:Cx}{st:Ya}{rest:List Ya}{t u:TS}{e:VO}{te:TE}{pos:Pos}
def zF:TS:=λD σ H=>D.nx σ H
def DG(t u:TS):TS:=λD σ H=>t {D with nx:=u D} σ H
theorem xR:Ff X [] zF:=λ_ _ σ H _ I h=>ä ⟨σ,H,I,h⟩
theorem uZ(h1:PS X st t)(h2:Ff X rest u):Ff X (st::rest) (DG t u):=by
 intro pins s σ H D I h;refine wpAny_execs_cons (Ej (h1 pins s σ H {D with nx:=u D} I h) λf s1 q=>?_);cases f with
 |next =>
  obtain⟨σ',H',I',q⟩:=q;exact h2 pins s1 σ' H' D I' q
 |_=>exact q
def Au:TS:=λD σ H=>D.bk σ H
def Ca:TS:=λD σ H=>D.ct σ H
theorem xS:PS X (.Pass pos) zF:=λ_ _ σ H _ I h=>wpAny_Pass ⟨σ,H,I,h⟩
theorem u3:PS X (.Break pos) Au:=λ_ _ σ H _ I h=>wpAny_Break ⟨σ,H,I,h⟩
theorem oi:PS X (.Continue pos) Ca:=λ_ _ σ H _ I h=>wpAny_Continue ⟨σ,H,I,h⟩
theorem Inv.quiet(I:Inv X pins σ H s):interactive X.env=UO:=by simp[interactive,I.ok.kind]
def Cb(te:TE):TS:=λD σ H=>te σ H λ_ H1=>D.nx σ H1
theorem jq(he:PE X e te)(hs:Yi e UK pos.line X.env=pure UO:=by rfl):PS X (.Expr e pos) (Cb te):=by
 intro pins s σ H D I h;exact wpAny_Expr_any (Ej (he pins s σ H _ I h) λv s1 ⟨x,H1,I1,r1,q1⟩=>⟨σ,H1,I1,q1⟩) I.quiet hs
def DH(te:TE):TS:=λD σ H=>te σ H D.rt
theorem u4(he:PE X e te):PS X (.Return (UI e) pos) (DH te):=by
 intro pins s σ H D I h;exact wpAny_Return_some (Ej (he pins s σ H _ I h) λv s1 ⟨x,H1,I1,r1,q1⟩=>⟨x,σ,H1,I1,r1,q1⟩)
def Cc:TS:=λD _ H=>D.rt .Es H
theorem xT:PS X (.Return UK pos) Cc:=λ_ _ σ H _ I h=>wpAny_Return_none ⟨.Es,σ,H,I,rfl,h⟩
def DI(c:TT)(t u:TS):TS:=λD σ H=>c σ H λb H1=>if b=UN then t D σ H1 else u D σ H1
theorem Cd(hc:PT X c tc)(ha:Ff X a t)(hb:Ff X b u):PS X (.If c a b pos) (DI tc t u):=by
 intro pins s σ H D I h;refine wpAny_If (Ej (hc pins s σ H _ I h) λd s1 ⟨H1,I1,q1⟩=>?_);cases d with
 |true=>exact ha pins s1 σ H1 D I1 q1
 |false=>exact hb pins s1 σ H1 D I1 q1
end
abbrev TG:=V->St->Hp->(St->Hp->Prop)->Prop
abbrev JS:=List V->St->Hp->(St->Hp->Prop)->Prop
def PG(X:Cx)(target:VO)(t:TG):Prop :=
 ∀(pins:List (U8×Obj)) (s:U1) (σ:St) (H:Hp) (v:V) (u:UT) (Q:St->Hp->Prop),Inv X pins σ H s->RelV v u->t v σ H Q ->
  UU (U6 X.prog X.w) X.A (YK target X.env u) (λ_ s'=>∃σ' H',Inv X pins σ' H' s'/\Q σ' H') X.xe s
def Ko(X:Cx)(ts:List VO)(t:JS):Prop :=
 ∀(pins:List (U8×Obj)) (s:U1) (σ:St) (H:Hp) (vs:List V) (us:List UT) (Q:St->Hp->Prop),Inv X pins σ H s->Vals vs us->t vs σ H Q ->
  UU (U6 X.prog X.w) X.A (assignInOrder ((XX ts X.env).map (·.2)) us) (λ_ s'=>∃σ' H',Inv X pins σ' H' s'/\Q σ' H') X.xe s
abbrev Av:=V->V->V->Hp->(Hp->Prop)->Prop
def jG(X:Cx)(t:Av):Prop :=
 ∀(pins:List (U8×Obj)) (s:U1) (σ:St) (H:Hp) (o i v:V) (ov iv u:UT) (Q:Hp->Prop),Inv X pins σ H s->RelV o ov->RelV i iv->RelV v u->t o i v H Q ->
  UU (U6 X.prog X.w) X.A (Za ov iv u) (λ_ s'=>∃H',Inv X pins σ H' s'/\Q H') X.xe s
abbrev M8:=V->V->Hp->VK->Prop
def L3(X:Cx)(op:Ρ)(t:M8):Prop :=
 ∀(pins:List (U8×Obj)) (s:U1) (σ:St) (H:Hp) (x y:V) (v u:UT) (Q:VK),Inv X pins σ H s->RelV x v->RelV y u->t x y H Q ->
  UU (U6 X.prog X.w) X.A (inplaceOp op v u) (EP X pins σ Q) X.xe s
section
def rq(i:Nat):TG:=λv σ H Q=>Q (σ.set i (UI v)) H
theorem rA(hN:X.N.Nodup)(hi:X.N[i]?=UI x)(hx:Loc X.env.scope x)(hf:X.fn x=UN\/X.env.scope.names.lookup x=UI .local:=by first|exact .inl rfl|exact .inr rfl|assumption):PG X (.Name x pos) (rq i):=by
 intro pins s σ H v u Q I r h;exact Ş (oh I hN hi hx r (λs' I'=>⟨_,H,I',h⟩) hf)
noncomputable def Ce:JS:=λvs σ H Q=>vs=[]/\Q σ H
noncomputable def zG(t:TG)(u:JS):JS:=λvs σ H Q=>∃v r,vs=v::r/\t v σ H λσ' H'=>u r σ' H' Q
theorem xU:Ko X [] Ce:=by
 intro pins s σ H vs us Q I r h;obtain⟨e,h⟩:=h;subst e;cases r;exact assignInOrder_nil ⟨σ,H,I,h⟩
theorem u5(h1:PG X e t)(h2:Ko X es u)
  (hs:(XX (e::es) X.env).map (·.2)=YK e X.env::(XX es X.env).map (·.2):=by rfl):Ko X (e::es) (zG t u):=by
 intro pins s σ H vs us Q I r h;obtain⟨v,vr,e1,h⟩:=h;subst e1;cases r with
 |cons r rr =>
  rw[hs];refine assignInOrder_cons (Ej (h1 pins s σ H _ _ _ I r h) λ_ s1 ⟨σ1,H1,I1,q1⟩=>?_);exact h2 pins s1 σ1 H1 _ _ Q I1 rr q1
def DJ(K:PySem.W.Frag)(n:Nat)(t:JS):TG:=λv σ H Q=>∃a xs,v=.ref a/\EC K H a xs/\xs.length=n/\t xs σ H Q
theorem Aw(hc:X.calm=UN)(h:Ko X es t)
  (hn:(XX es X.env).length=n:=by rfl) (Ei:(XX es X.env).findIdx? (·.1)=UK:=by rfl):PG X (.Tuple es k pos) (DJ X.K n t):=by
 intro pins s σ H v u Q I r hw;obtain⟨a,xs,e1,hq,hl,hw⟩:=hw;subst e1;cases r;obtain⟨A',rv,ht,hz⟩:=I.tuple hq;refine assign_Tuple_tuple (I.ok.hd hc) ht (by simp[hn,<-hl,rv.length]) Ei λh' hx=>?_;have I1:Inv X pins σ H {s with heap:=h' }:=I.kept (t':=s.toks) λb o e=>hx b o (U5 (UY e)) e;exact h pins _ σ H xs _ Q I1 (by simpa using rv) hw
def DK(to ti:TE)(t:Av):TG:=λv σ H Q=>to σ H λo H1=>ti σ H1 λi H2=>t o i v H2 λH3=>Q σ H3
theorem u6(ho:PE X o to)(hi:PE X i ti)(hs:jG X t)
  (ha:∀v,YK (.Subscript o i pos) X.env v=(do
   let ov <-WT [v] (Wo o X.env)
   let iv <-WT [v,ov] (Wo i X.env)
   Á pos
   WT [v,ov,iv] (Za ov iv v)
   Ä [v,ov,iv] []):=by intro _;rfl):PG X (.Subscript o i pos) (DK to ti t):=by
 intro pins s σ H v u Q I r h;rw[ha];refine UJ (VG (Ej (ho pins s σ H _ I h) λov s1 ⟨x,H1,I1,r1,q1⟩=>?_));refine UJ (VG (Ej (hi pins s1 σ H1 _ I1 q1) λiv s2 ⟨y,H2,I2,r2,q2⟩=>?_));refine UJ (Ĉ (UJ (VG (Ej (hs pins s2 σ H2 x y v ov iv u _ I2 r1 r2 r q2) λ_ s3 ⟨H3,I3,q3⟩=>?_))));exact wpAny_release ⟨σ,H3,I3,q3⟩
def Ax(te:TE)(g:TG):TS:=λD σ H=>te σ H λx H1=>g x σ H1 D.nx
theorem p7(he:PE X e te)(hg:PG X tg g)(hs:Yl [tg] e pos.line X.env=pure UO:=by rfl)(hw:ZV [tg] e X.env=pure UK:=by rfl)
  (h1:(XX [tg] X.env).map (·.2)=[YK tg X.env]:=by rfl):PS X (.Assign [tg] e pos) (Ax te g):=by
 intro pins s σ H D I h;refine wpAny_Assign_stores (Ej (he pins s σ H _ I h) λv s1 ⟨x,H1,I1,r1,q1⟩=>?_) hs hw;rw[h1];exact Ej (hg pins s1 σ H1 x v _ I1 r1 q1) λ_ s2 q=>q
theorem u7(hN:X.N.Nodup)(hi:X.N[i]?=UI x)(hx:Loc X.env.scope x)(he:PE X e te)(hs:Yi e (UI (.Name x pos')) pos.line X.env=pure UO:=by rfl)(hf:X.fn x=UN\/X.env.scope.names.lookup x=UI .local:=by first|exact .inl rfl|exact .inr rfl|assumption):
  PS X (.Assign [.Name x pos'] e pos) (Ax te (rq i)):=by
 intro pins s σ H D I h;refine wpAny_Assign_Name (Ej (he pins s σ H _ I h) λv s1 ⟨y,H1,I1,r1,q1⟩=>?_) hs;exact oh I1 hN hi hx r1 (λs2 I2=>⟨_,H1,I2,q1⟩) hf
def Cg(to ti te:TE)(IZ:V->V->Hp->VK->Prop)(M9:M8)(I0:Av):TS:=λD σ H=>to σ H λo H1=>ti σ H1 λi H2=>IZ o i H2 λx H3=>te σ H3 λy H4=>M9 x y H4 λz H5=>I0 o i z H5 λH6=>D.nx σ H6
def Ci(X:Cx)(t:V->V->Hp->VK->Prop):Prop :=
 ∀(pins:List (U8×Obj)) (s:U1) (σ:St) (H:Hp) (o i:V) (ov iv:UT) (Q:VK),Inv X pins σ H s->RelV o ov->RelV i iv->t o i H Q ->
  UU (U6 X.prog X.w) X.A (YF ov iv) (EP X pins σ Q) X.xe s
theorem xV(ho:PE X o to)(hi:PE X i ti)(hg:Ci X IZ)(he:PE X e te)(hp:L3 X op M9)(hs:jG X I0)
  (ha:∀ov iv new,Ν i ov iv new=(do WT [new,ov,iv] (Za ov iv new);Ä [new,ov,iv] [];pure .next):=by intros;rfl):PS X (.AugAssign (.Subscript o i QV) op e pos) (Cg to ti te IZ M9 I0):=by
 intro pins s σ H D I h;refine wpAny_AugAssign_SubscriptAny (Ej (ho pins s σ H _ I h) λov s1 ⟨x1,H1,I1,r1,q1⟩=>?_) ha;refine Ej (hi pins s1 σ H1 _ I1 q1) λiv s2 ⟨x2,H2,I2,r2,q2⟩=>?_;refine Ej (hg pins s2 σ H2 x1 x2 ov iv _ I2 r1 r2 q2) λold s3 ⟨x3,H3,I3,r3,q3⟩=>?_;refine Ej (he pins s3 σ H3 _ I3 q3) λv s4 ⟨x4,H4,I4,r4,q4⟩=>?_;refine Ej (hp pins s4 σ H4 x3 x4 old v _ I4 r3 r4 q4) λnew s5 ⟨x5,H5,I5,r5,q5⟩=>?_;exact Ej (hs pins s5 σ H5 x1 x2 x5 ov iv new _ I5 r1 r2 r5 q5) λ_ s6 ⟨H6,I6,q6⟩=>⟨σ,H6,I6,q6⟩
noncomputable def M_(f:Int->Int->Int):M8:=λx y H Q=>∃i j,x=.int i/\y=.int j/\Q (.int (f i j)) H
theorem Ay:L3 X .Add (M_ λi j=>i+j):=by
 intro pins s σ H x y v u Q I r1 r2 h;obtain⟨i,j,e1,e2,q⟩:=h;subst e1;subst e2;obtain⟨t,rfl⟩:=r1;obtain⟨t',rfl⟩:=r2;exact iadd_int ⟨.int _,H,I.tok _,⟨_,rfl⟩,q⟩
theorem Az:L3 X .Sub (M_ λi j=>i - j):=by
 intro pins s σ H x y v u Q I r1 r2 h;obtain⟨i,j,e1,e2,q⟩:=h;subst e1;subst e2;obtain⟨t,rfl⟩:=r1;obtain⟨t',rfl⟩:=r2;exact isub_int ⟨.int _,H,I.tok _,⟨_,rfl⟩,q⟩
end
section
def AA(c:TT)(tb:TS):TS:=λD σ H=>∃W:Nat->St->Hp->Prop,(∃m,W m σ H)/\∀m σ H,W m σ H ->
 c σ H λb H1=>if b=UN then ∃N:St->Hp->Prop,(∀σ' H',N σ' H'->∃m',m'<m/\W m' σ' H')/\tb {D with nx:=N,ct:=N,bk:=D.nx} σ H1 else D.nx σ H1
theorem u9(hp:Ø (U6 X.prog X.w) X.A X.env X.xe)(hc:PT X c tc)(hb:Ff X body tb):PS X (.While c body [] pos) (AA tc tb):=by
 intro pins s σ H D I h;obtain⟨W,⟨m0,w0⟩,turn⟩:=h;refine wpAny_While (codeAny_whileLoop (λn s'=>∃σ' H',Inv X pins σ' H' s'/\W n σ' H') ?_ m0 ⟨σ,H,I,w0⟩);rintro n s1 ⟨σ1,H1,I1,w1⟩;refine Xm hp (Ej (hc pins s1 σ1 H1 _ I1 (turn n σ1 H1 w1)) λb s2 ⟨H2,I2,q2⟩=>?_);cases b with
 |true =>
  obtain⟨N,hN,q2⟩:=q2;rw[δ rfl];refine Xm hp (Ej (hb pins s2 σ1 H2 _ I2 q2) λf s3 q3=>?_);cases f with
  |next =>
   obtain⟨σ3,H3,I3,n3⟩:=q3;obtain⟨m',hm,w3⟩:=hN σ3 H3 n3;exact⟨m',hm,σ3,H3,I3,w3⟩
  |cont =>
   obtain⟨σ3,H3,I3,n3⟩:=q3;obtain⟨m',hm,w3⟩:=hN σ3 H3 n3;exact⟨m',hm,σ3,H3,I3,w3⟩
  |_=>exact q3
 |false =>
  rw[ε Vw];exact ä ⟨σ1,H2,I2,q2⟩
end
structure It where
 go:Nat->Hp->Prop
 L4:Nat->Hp->V->Hp->Prop
 stop:Nat->Hp->Prop
def gD(X:Cx)(pins:List (U8×Obj))(H:Hp)(b:U8):Prop :=
 H b=UK/\b≠X.env.locals/\b∉X.fs/\(b∈X.ex\/X.s₀.heap.objs.size<=b)/\(∀x c,X.env.cells.lookup x=UI c->c≠b)/\∀p∈X.pn++pins,p.1≠b
theorem Inv.tw(I:Inv X pins σ H s)(hb:s.heap.objs.size<=b)(hn:H' b=UK):gD X pins H' b:=by
 refine⟨hn,VV (Vg I.lt hb),I.An hb,.inr (VN I.sz hb),λx c e z=>?_,λp hp z=>?_⟩
 ·obtain⟨v,q⟩:=I.cell x c e;exact absurd (Vg q.lt (by rw[z];exact hb)) (V8 _)
 ·exact absurd (Vg (UY (I.pin p hp).1) (by rw[z];exact hb)) (V8 _)
structure Turn(P:VZ)(w:Wi)(K:PySem.W.Frag)(tg:VO)(J:It)(fp:List U8)(it:U8)(tn:Nat->Ws->Prop):Prop where
 mem:it∈fp
 obj:∀i h,tn i h->∀b∈fp,∃o,h.get? b=UI o/\∀v,o.data≠.cell v
 keep:∀i h h',tn i h->(∀b∈fp,∀o,h.get? b=UI o->h'.get? b=UI o)->tn i h'
 item:∀(X:Cx),X.prog=P->X.w=w->X.K=K->X.calm=UN->∀(i:Nat) (pins:List (U8×Obj)) (s:U1) (σ:St) (H:Hp) (E:UT->U1->Prop),Inv X pins σ H s->(∀b∈fp,gD X pins H b)->tn i s.heap->J.go i H ->
  UU (U6 P w) X.A (Yj (.ref it)) (λr s1=>∃u,r=UI u /\
   UU (U6 P w) X.A (Zn tg (.ref it) u) (λ_ s2=>∃x H',Inv X pins σ H' s2/\RelV x u/\J.L4 i H x H'/\tn (i+1) s2.heap/\∀b∈fp,H' b=UK) E s1) E s
 done:∀(X:Cx),X.prog=P->X.w=w->X.K=K->X.calm=UN->∀(i:Nat) (pins:List (U8×Obj)) (s:U1) (σ:St) (H:Hp) (E:UT->U1->Prop),Inv X pins σ H s->(∀b∈fp,gD X pins H b)->tn i s.heap->J.stop i H ->
  UU (U6 P w) X.A (Yj (.ref it)) (λr s1=>r=UK/\Inv X pins σ H s1) E s
 self:∀(A:WZ) (i:Nat) (s:U1) (Q:UT->U1->Prop) (E:UT->U1->Prop),tn i s.heap->Q (.ref it) s->UU (U6 P w) A (ô (.ref it)) Q E s
abbrev TI:=St->Hp->(It->Hp->Prop)->Prop
def Pk(X:Cx)(pins:List (U8×Obj))(σ:St)(tg:VO)(R:It->Hp->Prop)(L5:UT)(s2:U1):Prop :=
 ∃(it:U8) (fp:List U8) (tn:Nat->Ws->Prop) (J:It) (H':Hp),L5=.ref it/\Inv X pins σ H' s2/\Turn X.prog X.w X.K tg J fp it tn/\tn 0 s2.heap/\(∀b∈fp,gD X pins H' b)/\R J H'
def PI(X:Cx)(tg iter:VO)(wi:TI):Prop :=
 ∀(pins:List (U8×Obj)) (s:U1) (σ:St) (H:Hp) (R:It->Hp->Prop),Inv X pins σ H s->wi σ H R ->
  UU (U6 X.prog X.w) X.A (Wo iter X.env) (λv s1=>UU (U6 X.prog X.w) X.A (ô v) (Pk X pins σ tg R) X.xe s1) X.xe s
theorem u_(ho:s.heap.get? it=UI o)(hc:o.cls=.type n)(hd:o.data=.fields vs)
    (hn:["enumerate","zip","dict_itemiterator","dict_reverseitemiterator","odict_iterator","itertools.zip_longest","itertools.pairwise"].contains n=UO) (hQ:Q () s):UU M A (Zn tg (.ref it) u) Q E s:=by
  unfold Zn;cases tg<;>first
    | exact UM hQ
    | (cases u<;>first
        | exact UM hQ
        | (refine UJ (Ŏ ho ?_)
           rw[hc,hd];show UU M A (if (["enumerate","zip","dict_itemiterator","dict_reverseitemiterator","odict_iterator","itertools.zip_longest","itertools.pairwise"].contains n&&vs[0]?==UI (V0 _))=UN then _ else _) Q E s;rw[ε (by intro h;rw[hn,Ō]at h;cases h)];exact UM hQ))
noncomputable def M'(K:PySem.W.Frag)(a:U8):It :=
 ⟨λi H=>∃xs x,EN K H a xs/\xs[i]?=UI x,λi H x H'=>H'=H/\∀xs,EN K H a xs->xs[i]?=UI x,λi H=>∃xs,EN K H a xs/\xs.length<=i⟩
noncomputable def Na(K:PySem.W.Frag)(a:U8):It :=
 ⟨λi H=>∃xs x,EC K H a xs/\xs[i]?=UI x,λi H x H'=>H'=H/\∀xs,EC K H a xs->xs[i]?=UI x,λi H=>∃xs,EC K H a xs/\xs.length<=i⟩
noncomputable def L6(lo:Int)(n:Nat):It:=⟨λi _=>i<n,λi H x H'=>H'=H/\x=.int (lo+i),λi _=>n<=i⟩
theorem tD{K:PySem.W.Frag}(a it:U8):Turn P w K tg (M' K a) [it] it (λi h=>h.IsListIter it a i) where
 mem:=by simp
 obj:=λi h st b hb=>by
  have e:b=it:=by simpa using hb
  subst e;obtain⟨o,e,c,d⟩:=st;exact⟨o,e,λv z=>by rw[d]at z;cases z⟩
 keep:=λi h h' st k=>st.at λo e=>k it (by simp) o e
 item:=by
  intro X hP hw hK hc i pins s σ H E I hf st hg;subst hP hw hK;obtain⟨xs,x,hq,hx⟩:=hg;obtain⟨A',rv,p,hz⟩:=I.list hq;obtain⟨u,hu,ru⟩:=rv.get hx;obtain⟨f0,f1,f2,f3,f4,f5⟩:=hf it (by simp);refine wpAny_pyNext_list_item st p.isList (x:=u) (by simpa using hu) λh' st' sb=>?_;have I1:Inv X pins σ H {s with heap:=h' }:=I.turned (t':=s.toks) (λb o hb e=>(sb.2 b hb).trans e) f0 f1 f3 f4 f5;obtain⟨o,e,c,d⟩:=id st';exact⟨u,rfl,u_ (s:={s with heap:=h' }) e c d (by decide) ⟨x,H,I1,ru,⟨rfl,λys hy=>by rw[I.jF hy hq];exact hx⟩,st',λb hb=>(hf b hb).1⟩⟩
 done:=by
  intro X hP hw hK hc i pins s σ H E I hf st hg;subst hP hw hK;obtain⟨xs,hq,hx⟩:=hg;obtain⟨A',rv,p,hz⟩:=I.list hq;obtain⟨f0,f1,f2,f3,f4,f5⟩:=hf it (by simp);have hl:=rv.length;exact wpAny_pyNext_list_end (I.ok.hd hc) st p.isList (by simp;omega) λh' eb=>⟨rfl,I.turned (t':=s.toks) (λb o hb e=>eb b o hb e) f0 f1 f3 f4 f5⟩
 self:=λ_ _ _ _ _ st h=>wpAny_pyIter_listiter st h
theorem p8{K:PySem.W.Frag}(a it:U8):Turn P w K tg (Na K a) [it] it (λi h=>h.IsTupleIter it a i) where
 mem:=by simp
 obj:=λi h st b hb=>by
  have e:b=it:=by simpa using hb
  subst e;obtain⟨o,e,c,d⟩:=st;exact⟨o,e,λv z=>by rw[d]at z;cases z⟩
 keep:=λi h h' st k=>st.at λo e=>k it (by simp) o e
 item:=by
  intro X hP hw hK hc i pins s σ H E I hf st hg;subst hP hw hK;obtain⟨xs,x,hq,hx⟩:=hg;obtain⟨A',rv,p,hz⟩:=I.tuple hq;obtain⟨u,hu,ru⟩:=rv.get hx;obtain⟨f0,f1,f2,f3,f4,f5⟩:=hf it (by simp);refine wpAny_pyNext_tuple_item st (show s.heap.IsTuple a A'.toArray from p) (x:=u) (by simpa using hu) λh' st' sb=>?_;have I1:Inv X pins σ H {s with heap:=h' }:=I.turned (t':=s.toks) (λb o hb e=>(sb.2 b hb).trans e) f0 f1 f3 f4 f5;obtain⟨o,e,c,d⟩:=id st';exact⟨u,rfl,u_ (s:={s with heap:=h' }) e c d (by decide) ⟨x,H,I1,ru,⟨rfl,λys hy=>by rw[I.iw hy hq];exact hx⟩,st',λb hb=>(hf b hb).1⟩⟩
 done:=by
  intro X hP hw hK hc i pins s σ H E I hf st hg;subst hP hw hK;obtain⟨xs,hq,hx⟩:=hg;obtain⟨A',rv,p,hz⟩:=I.tuple hq;obtain⟨f0,f1,f2,f3,f4,f5⟩:=hf it (by simp);have hl:=rv.length;exact wpAny_pyNext_tuple_end (I.ok.hd hc) st (show s.heap.IsTuple a A'.toArray from p) (by simp;omega) λh' eb=>⟨rfl,I.turned (t':=s.toks) (λb o hb e=>eb b o hb e) f0 f1 f3 f4 f5⟩
 self:=λ_ _ _ _ _ st h=>wpAny_pyIter_tupleiter st h
theorem p9{K:PySem.W.Frag}(it:U8)(lo:Int)(n:Nat):Turn P w K tg (L6 lo n) [it] it (λi h=>IsRangeIter h it (lo+(i:Nat) * 1) ((n:Int) - (i:Nat)) 1) where
 mem:=by simp
 obj:=λi h st b hb=>by
  have e:b=it:=by simpa using hb
  subst e;exact⟨_,st,λv z=>by
   have z':Ā _=ç v:=z;cases z'⟩
 keep:=λi h h' st k=>k it (by simp) _ st
 item:=by
  intro X hP hw hK hc i pins s σ H E I hf st hg;subst hP hw hK;obtain⟨f0,f1,f2,f3,f4,f5⟩:=hf it (by simp);have W:=Walks.range (prog:=X.prog) (w:=X.w) (I.ok.hd hc) it lo 1 n;refine W.item i s _ _ hg st λv h' tk hv st' kk=>?_;obtain⟨t,rfl⟩:=hv;have I1:Inv X pins σ H {s with heap:=h',toks:=tk}:=I.turned (λb o hb e=>kk b o (by simpa using hb) e) f0 f1 f3 f4 f5;refine⟨_,rfl,u_ (s:={s with heap:=h',toks:=tk}) (n:="range_iterator") st' rfl rfl (by decide) ⟨.int (lo+i),H,I1,⟨t,?_⟩,⟨rfl,rfl⟩,st',λb hb=>(hf b hb).1⟩⟩;rw[Int.mul_one]
 done:=by
  intro X hP hw hK hc i pins s σ H E I hf st hg;subst hP hw hK;obtain⟨f0,f1,f2,f3,f4,f5⟩:=hf it (by simp);exact wpAny_pyNext_range_end (I.ok.hd hc) st (by have:n<=i:=hg;omega) λh' eb=>⟨rfl,I.turned (t':=s.toks) (λb o hb e=>eb b o hb e) f0 f1 f3 f4 f5⟩
 self:=λ_ _ _ _ _ st h=>wpAny_pyIter_rangeiter st h
section
def Cj(K:PySem.W.Frag)(tl:TE):TI:=λσ H R=>tl σ H λx H1=>∃a,x=.ref a/\(∃xs,EN K H1 a xs)/\R (M' K a) H1
def DL(K:PySem.W.Frag)(tl:TE):TI:=λσ H R=>tl σ H λx H1=>∃a,x=.ref a/\(∃xs,EC K H1 a xs)/\R (Na K a) H1
theorem xW(hl:PE X l tl):PI X tg l (Cj X.K tl):=by
 intro pins s σ H R I h;refine Ej (hl pins s σ H _ I h) λv s1 ⟨x,H1,I1,r1,q1⟩=>?_;obtain⟨a,e,⟨xs,hq⟩,q⟩:=q1;subst e;cases r1;obtain⟨A',rv,p,hz⟩:=I1.list hq;refine X6 p.isList ?_;refine⟨s1.heap.objs.size,[s1.heap.objs.size],_,_,H1,rfl,I1.kept (t':=s1.toks) λb o e=>UL _ e,tD a _,⟨_,UZ _ rfl,rfl,rfl⟩,λb hb=>?_,q⟩;have e:b=s1.heap.objs.size:=by simpa using hb
 subst e;exact I1.tw (U_ _) (I1.Ef.fresh (U_ _))
theorem AB(hl:PE X l tl):PI X tg l (DL X.K tl):=by
 intro pins s σ H R I h;refine Ej (hl pins s σ H _ I h) λv s1 ⟨x,H1,I1,r1,q1⟩=>?_;obtain⟨a,e,⟨xs,hq⟩,q⟩:=q1;subst e;cases r1;obtain⟨A',rv,p,hz⟩:=I1.tuple hq;refine Xi (show s1.heap.IsTuple a A'.toArray from p) ?_;refine⟨s1.heap.objs.size,[s1.heap.objs.size],_,_,H1,rfl,I1.kept (t':=s1.toks) λb o e=>UL _ e,p8 a _,⟨_,UZ _ rfl,rfl,rfl⟩,λb hb=>?_,q⟩;have e:b=s1.heap.objs.size:=by simpa using hb
 subst e;exact I1.tw (U_ _) (I1.Ef.fresh (U_ _))
theorem vb{lo hi:Int}(I:Inv X pins σ H s)(h1:-(2 ^ 62)<=lo)(h2:lo<2 ^ 62)(h3:-(2 ^ 62)<=hi)(h4:hi<2 ^ 62)
  (q:R (L6 lo (hi - lo).toNat) H):UU (U6 X.prog X.w) X.A (ô (.ref s.heap.objs.size)) (Pk X pins σ tg R) E {s with heap:=s.heap.push {cls:=.type "range",data:=.fields #[.int lo t,.int hi u,.int 1 v]},toks:=tk}:=by
 refine wpAny_pyIter_range (IsRange.new ..) (small_one h1 h2 h3 h4) ?_;have I1:Inv X pins σ H {s with heap:=s.heap.push {cls:=.type "range",data:=.fields #[.int lo t,.int hi u,.int 1 v]},toks:=tk}:=I.kept λb o e=>UL _ e;refine⟨(s.heap.push {cls:=.type "range",data:=.fields #[.int lo t,.int hi u,.int 1 v]}).objs.size,[(s.heap.push {cls:=.type "range",data:=.fields #[.int lo t,.int hi u,.int 1 v]}).objs.size],_,_,H,rfl,
  I1.kept (t':=tk) λb o e=>UL _ e,p9 _ lo (hi - lo).toNat,?_,λb hb=>?_,q⟩
 ·have e1:lo+((0:Nat):Int) * 1=lo:=by simp
  have e2:(((hi - lo).toNat:Nat):Int) - ((0:Nat):Int)=Ÿ lo hi 1:=by rw[rangeSize_one];split<;>omega
  show IsRangeIter _ _ (lo+((0:Nat):Int) * 1) ((((hi - lo).toNat:Nat):Int) - ((0:Nat):Int)) 1;rw[e1,e2];exact UZ _ rfl
 ·have e:b=(s.heap.push {cls:=.type "range",data:=.fields #[.int lo t,.int hi u,.int 1 v]}).objs.size:=by simpa using hb
  subst e;exact I1.tw (U_ _) (I1.Ef.fresh (U_ _))
def Cm(ta:TA):TI:=λσ H R=>ta σ H λvs H1=>∃j:Int,vs=[.int j]/\-(2 ^ 62)<=j/\j<2 ^ 62/\R (L6 0 j.toNat) H1
theorem tE(hg:Gl X "range")(hm:X.mg "range"=UK)(ha:PA X [a] ta)(hs:Vf [a] X.env=[(UO,Wo a X.env)]:=by rfl):PI X tg (.Call (.Name "range" p) [a] [] pos) (Cm ta):=by
 intro pins s σ H R I h;refine Call_ (dc I hg hm boot_range (Wz (Ej (ha pos pins s σ H _ I h) λus s1 ⟨vs,H1,I1,r1,q1⟩=>?_) hs rfl));obtain⟨j,e,q1,q2,q⟩:=q1;subst e;cases r1 with
 |cons r rr =>
  cases rr;obtain⟨t,rfl⟩:=r;exact call_range_1 (vb I1 ⋯ ⋯ q1 q2 (by simpa using q))
def DM(wi:TI)(g:TG)(tb:TS):TS:=λD σ H=>wi σ H λJ H1=>∃W:Nat->Nat->St->Hp->Prop,(∃m,W 0 m σ H1)/\∀i m σ H,W i m σ H ->
 (J.stop i H/\D.nx σ H)\/(J.go i H/\∃N:St->Hp->Prop,(∀σ' H',N σ' H'->∃m',m'<m/\W (i+1) m' σ' H')/\∀x H',J.L4 i H x H'->g x σ H' λσ2 H2=>tb {D with nx:=N,ct:=N,bk:=D.nx} σ2 H2)
noncomputable def jH(fp:List U8)(h:Ws):List (U8×Obj):=fp.filterMap λb=>(h.get? b).map λo=>(b,o)
theorem dX(hb:b∈fp)(e:h.get? b=UI o):(b,o)∈jH fp h:=ĝ.mpr ⟨b,hb,by rw[e];rfl⟩
theorem tF(hp:p∈jH fp h):p.1∈fp/\h.get? p.1=UI p.2:=by
 obtain⟨b,hb,e⟩:=ĝ.mp hp;cases q:h.get? b with
 |none=>rw[q]at e;cases e
 |some o =>
  rw[q]at e;have e':(b,o)=p:=VM e;subst e';exact⟨hb,q⟩
theorem Inv.pinned(I:Inv X pins σ H s)(hf:∀b∈fp,gD X pins H b)(ho:∀b∈fp,∃o,s.heap.get? b=UI o/\∀v,o.data≠.cell v):Inv X (pins++jH fp s.heap) σ H s :=
 I.dy λp hp=>(Ve.mp hp).elim (λz=>I.pin p (Vu _ z)) λz=>by
  obtain⟨hb,e⟩:=tF z;obtain⟨f0,f1,f2,_⟩:=hf p.1 hb;obtain⟨o,e',d⟩:=ho p.1 hb;rw[e]at e';cases e';exact⟨e,f0,f1,f2,d⟩
theorem Inv.jI(I:Inv X (pins++pl) σ H s):Inv X pins σ H s:=I.dy λp hp=>I.pin p (Vu _ (Y8 _ hp))
theorem AD(hp:Ø (U6 X.prog X.w) X.A X.env X.xe)(hc:X.calm=UN)(hi:PI X tg iter wi)(hg:PG X tg g)(hb:Ff X body tb)
  (hs:∀x,WU iter X.env x=pure x:=by intro _;rfl):PS X (.For tg iter body [] pos) (DM wi g tb):=by
 intro pins s σ H D I h;refine wpAny_For (Ej (hi pins s σ H _ I h) λv s1 h1=>Ej h1 λL5 s2 h2=>?_) hs;obtain⟨it,fp,tn,J,H2,e,I2,T,st2,f2,W,⟨m0,w0⟩,turn⟩:=h2;subst e;have I_:∀{H':Hp},(∀b∈fp,H' b=UK)->∀b∈fp,gD X pins H' b:=λhn b hb=>⟨hn b hb,(f2 b hb).2⟩
 refine codeAny_forLoop_any (λn s'=>∃i σ' H',Inv X pins σ' H' s'/\tn i s'.heap/\(∀b∈fp,H' b=UK)/\W i n σ' H') ?_ m0 ⟨0,σ,H2,I2,st2,λb hb=>(f2 b hb).1,w0⟩;rintro n s3 ⟨i,σ3,H3,I3,st3,Kp,w3⟩;rcases turn i n σ3 H3 w3 with⟨stop,qn⟩|⟨go,N,hN,Ļ⟩
 ·refine Xm hp (Ej (T.done X rfl rfl rfl hc i pins s3 σ3 H3 X.xe I3 (I_ Kp) st3 stop) λr s4 ⟨hr,I4⟩=>?_);subst hr;exact ä ⟨σ3,H3,I4,qn⟩
 ·refine Xm hp (Ej (T.item X rfl rfl rfl hc i pins s3 σ3 H3 X.xe I3 (I_ Kp) st3 go) λr s4 ⟨u,hr,h4⟩=>?_);subst hr;refine Xm hp (Ej h4 λ_ s5 ⟨x,H5,I5,r5,y5,GX,Nb⟩=>?_);have Nc:=I5.pinned (I_ Nb) (T.obj _ _ GX);refine Xm hp (Ej (hg _ s5 σ3 H5 x u _ Nc r5 (Ļ x H5 y5)) λ_ s6 ⟨σ6,H6,I6,q6⟩=>?_);refine Xm hp (Ej (hb _ s6 σ6 H6 _ I6 q6) λf s7 q7=>?_);have Ο:∀{σ7:St} {H7:Hp},Inv X (pins++jH fp s5.heap) σ7 H7 s7->N σ7 H7->∃m,m<n/\∃i σ' H',Inv X pins σ' H' s7/\tn i s7.heap/\(∀b∈fp,H' b=UK)/\W i m σ' H':=λ{σ7 H7} I7 n7=>by
   obtain⟨m',hm,w7⟩:=hN σ7 H7 n7;refine⟨m',hm,i+1,σ7,H7,I7.jI,T.keep _ _ _ GX λb hb o e=>(I7.pin (b,o) (Vu _ (Vu _ (dX hb e)))).1,λb hb=>?_,w7⟩;obtain⟨o,e,d⟩:=T.obj _ _ GX b hb;exact(I7.pin (b,o) (Vu _ (Vu _ (dX hb e)))).2.1
  cases f with
  |brk=>obtain⟨σ7,H7,I7,q7⟩:=q7;exact⟨σ7,H7,I7.jI,q7⟩
  |ret v=>obtain⟨x7,σ7,H7,I7,r7,q7⟩:=q7;exact⟨x7,σ7,H7,I7.jI,r7,q7⟩
  |_=>obtain⟨σ7,H7,I7,n7⟩:=q7;exact Ο I7 n7
end
abbrev R2:=V->V->Hp->VK->Prop
def FP(X:Cx)(f:UT->UT->Sem UT)(r:R2):Prop :=
 ∀(pins:List (U8×Obj)) (s:U1) (σ:St) (H:Hp) (x y:V) (v u:UT) (Q:VK),Inv X pins σ H s->RelV x v->RelV y u->r x y H Q ->
  UU (U6 X.prog X.w) X.A (f v u) (EP X pins σ Q) X.xe s
def iS(X:Cx)(f:UT)(r:List V->Hp->VK->Prop):Prop :=
 ∀(pins:List (U8×Obj)) (s:U1) (σ:St) (H:Hp) (xs:List V) (us:List UT) (Q:VK),Inv X pins σ H s->Vals xs us->r xs H Q ->
  UU (U6 X.prog X.w) X.A (X0 f us) (EP X pins σ Q) X.xe s
def DN(X:Cx)(r:V->Hp->(Bool->Hp->Prop)->Prop):Prop :=
 ∀(pins:List (U8×Obj)) (s:U1) (σ:St) (H:Hp) (x:V) (v:UT) (Q:Bool->Hp->Prop),Inv X pins σ H s->RelV x v->r x H Q ->
  UU (U6 X.prog X.w) X.A (ő v) (TP X pins σ Q) X.xe s
noncomputable def rI(C:Int->Int->Prop)(g:Int->Int->V):R2:=λx y H Q=>∃i j,x=.int i/\y=.int j/\C i j/\Q (g i j) H
noncomputable def Ja(g:Int->Int->V):R2:=λx y H Q=>∃i j,x=.int i/\y=.int j/\Q (g i j) H
section
theorem L7{g:Int->Int->Int}
  (ų:∀(i j:Int) (t u:Tok) (s:U1) (Q:UT->U1->Prop) (E:UT->U1->Prop),C i j->Q (.int (g i j) s.toks) {s with toks:=s.toks+1}->UU (U6 X.prog X.w) X.A (f (.int i t) (.int j u)) Q E s) :
  FP X f (rI C λi j=>.int (g i j)):=by
 intro pins s σ H x y v u Q I rx ry h;obtain⟨i,j,rfl,rfl,hc,q⟩:=h;obtain⟨t,rfl⟩:=rx;obtain⟨t',rfl⟩:=ry;exact ų i j t t' s _ _ hc ⟨.int (g i j),H,I.tok _,⟨_,rfl⟩,q⟩
theorem Cn{g:Int->Int->Int}
  (ų:∀(i j:Int) (t u:Tok) (s:U1) (Q:UT->U1->Prop) (E:UT->U1->Prop),Q (.int (g i j) s.toks) {s with toks:=s.toks+1}->UU (U6 X.prog X.w) X.A (f (.int i t) (.int j u)) Q E s) :
  FP X f (Ja λi j=>.int (g i j)):=by
 intro pins s σ H x y v u Q I rx ry h;obtain⟨i,j,rfl,rfl,q⟩:=h;obtain⟨t,rfl⟩:=rx;obtain⟨t',rfl⟩:=ry;exact ų i j t t' s _ _ ⟨.int (g i j),H,I.tok _,⟨_,rfl⟩,q⟩
theorem AE{g:Int->Int->Bool}
  (ų:∀(i j:Int) (t u:Tok) (s:U1) (Q:UT->U1->Prop) (E:UT->U1->Prop),Q (.bool (g i j)) s->UU (U6 X.prog X.w) X.A (f (.int i t) (.int j u)) Q E s) :
  FP X f (Ja λi j=>.bl (g i j)):=by
 intro pins s σ H x y v u Q I rx ry h;obtain⟨i,j,rfl,rfl,q⟩:=h;obtain⟨t,rfl⟩:=rx;obtain⟨t',rfl⟩:=ry;exact ų i j t t' s _ _ ⟨.bl (g i j),H,I,rfl,q⟩
def DO(i j:Int):Prop:=0<j/\j<1073741824
def DP(i j:Int):Prop:=0<=j/\j<=1000000/\i.natAbs<2 ^ 64
def AF(i j:Int):Prop:=(-(2 ^ 64)<i/\i<2 ^ 64)\/(-(2 ^ 64)<j/\j<2 ^ 64)
theorem AF.ok(h:AF i j):IntMulOk i j:=by
 rcases h with⟨h1,h2⟩|⟨h1,h2⟩
 ·exact .of_left (intBits_le_64 h1 h2)
 ·exact .of_right (intBits_le_64 h1 h2)
theorem fZ:FP X (XA .Add) (Ja λi j=>.int (i+j)):=Cn λ_ _ _ _ _ _ _ q=>add_int q
theorem p_:FP X (XA .Sub) (Ja λi j=>.int (i - j)):=Cn λ_ _ _ _ _ _ _ q=>sub_int q
theorem mD:FP X (XA .Mult) (rI AF λi j=>.int (i * j)):=L7 λ_ _ _ _ _ _ _ hc q=>mul_int q hc.ok
theorem xX:FP X (XA .FloorDiv) (rI DO λi j=>.int (i / j)):=L7 λi j _ _ _ _ _ hc q=>by
 have h1:(0:Int)<j:=hc.1;have h2:j<1073741824:=hc.2;exact floordiv_int ⋯ (by rw[Int.fdiv_eq_ediv_of_nonneg i ⋯];exact q) (.inl (PyProof.noPylong_small ⋯))
theorem bS:FP X (XA .Mod) (rI (λ_ j=>0<j) λi j=>.int (i % j)):=L7 λi j _ _ _ _ _ hc q=>by
 have h1:(0:Int)<j:=hc;exact mod_int' ⋯ (by rw[Int.fmod_eq_emod_of_nonneg i ⋯];exact q)
theorem mE:FP X (XA .Pow) (rI DP λi j=>.int (i ^ j.toNat)):=L7 λ_ _ _ _ _ _ _ hc q=>pow_int_small hc.1 hc.2.1 hc.2.2 q
end
section
theorem Co:FP X (Xr .Lt) (Ja λi j=>.bl (UP (i<j))):=AE λ_ _ _ _ _ _ _ q=>lt_int q
theorem Cp:FP X (Xr .Gt) (Ja λi j=>.bl (UP (j<i))):=AE λ_ _ _ _ _ _ _ q=>gt_int q
theorem Cq:FP X (Xr .GtE) (Ja λi j=>.bl (UP (j<=i))):=AE λ_ _ _ _ _ _ _ q=>ge_int q
def Cr(K:PySem.W.Frag)(x:V)(H:Hp)(k:Bool):Prop :=
 match x with
 |.Es=>k=UO
 |.bl b=>k=b
 |.int i=>k=(i != 0)
 |.str y=>y.length<=US/\k=((y.length:Int) != 0)
 |.LW y=>y.size<=US/\k=((y.size:Int) != 0)
 |.ref p=>(∃xs,EN K H p xs/\k=!xs.isEmpty)\/(∃xs,EC K H p xs/\k=!xs.isEmpty)\/∃kvs,H p=UI (.dK kvs)/\k=!kvs.isEmpty
 |_=>False
theorem qa(r:KV kvs vs):(!vs.isEmpty)=!kvs.isEmpty:=by
 cases r<;>rfl
theorem jJ(r:Vals xs A'):(!A'.toArray.isEmpty)=!xs.isEmpty:=by
 cases r<;>simp
theorem eO:(US:Nat)<2 ^ 63:=by rw[sizeLine_eq];decide
theorem AG:DN X (λx H Q=>∃k,Cr X.K x H k/\Q k H):=by
 intro pins s σ H x v Q I rx h;obtain⟨k,e,q⟩:=h;have hl:=eO;have hs:US=16777216:=sizeLine_eq;cases x with
 |Es =>
  cases rx;have e':k=UO:=e;subst e';exact truthy_none ⟨H,I,q⟩
 |bl b =>
  cases rx;have e':k=b:=e;subst e';exact Wc ⟨H,I,q⟩
 |int i =>
  obtain⟨t,rfl⟩:=rx;have e':k=(i != 0):=e;subst e';exact PySem.P.truthy_int ⟨H,I,q⟩
 |str y =>
  obtain⟨t,rfl⟩:=rx;obtain⟨hy,e'⟩:y.length<=US/\k=((y.length:Int) != 0):=e;subst e';exact PySem.P.truthy_str ⋯ ⟨H,I.tok _,q⟩
 |LW y =>
  obtain⟨t,rfl⟩:=rx;obtain⟨hy,e'⟩:y.size<=US/\k=((y.size:Int) != 0):=e;subst e';exact PySem.W.truthy_bytes ⋯ ⟨H,I.tok _,q⟩
 |ref p =>
  cases rx;have e':(∃xs,EN X.K H p xs/\k=!xs.isEmpty)\/(∃xs,EC X.K H p xs/\k=!xs.isEmpty)\/∃kvs,H p=UI (.dK kvs)/\k=!kvs.isEmpty:=e;rcases e' with⟨xs,hx,e'⟩|⟨xs,hx,e'⟩|⟨kvs,hx,e'⟩
  ·subst e';obtain⟨A',r,pl,hz⟩:=I.list hx;have hlen:=r.length;exact wpAny_truthy_list pl.isList (by simp only[U9];omega) ⟨H,I.tok _,by rw[jJ r];exact q⟩
  ·subst e';obtain⟨A',r,pl,hz⟩:=I.tuple hx;have hlen:=r.length;exact truthy_tuple pl (by simp only[U9];omega) ⟨H,I.tok _,by rw[jJ r];exact q⟩
  ·subst e';obtain⟨hz,hS,vs,r,m⟩:kvs.length<=US/\(p==Wl)=UO/\∃vs,KV kvs vs/\s.heap.DictOf (aO X.prog X.w) p vs:=I.Ef p _ hx;have hlen:kvs.length=vs.length:=Paired.length r;exact wpAny_truthy_dict hS m ⋯ ⟨H,I.tok _,by rw[qa r];exact q⟩
 |_=>exact(show False from e).elim
theorem vc(ha:PE X a ta)(he:∀whole,isTrue a X.env whole=(do let v <-whole;Á a.pos;WT [v] (ő v))):
  PT X a (λσ H Q=>ta σ H λx H'=>∃k,Cr X.K x H' k/\Q k H'):=by
 intro pins s σ H Q I h;exact isTrue_plain (Ej (ha pins s σ H _ I h) λv s1 ⟨x,H1,I1,r1,q1⟩=>AG pins s1 σ H1 x v Q I1 r1 q1) (he _)
theorem qb:FP X (XA .Add) (λx y H Q=>∃i j,x=.str i/\y=.str j/\i.length+j.length<=US/\Q (.str (i++j)) H):=by
 intro pins s σ H x y v u Q I rx ry h;obtain⟨i,j,rfl,rfl,hz,q⟩:=h;obtain⟨t,rfl⟩:=rx;obtain⟨t',rfl⟩:=ry;exact add_str (λt' tk=>⟨.str (i++j),H,I.tok _,⟨_,rfl⟩,q⟩) hz
theorem vals1(r:Vals [x] us):∃u,us=[u]/\RelV x u:=by
 cases r with
 |cons r1 r2=>cases r2;exact⟨_,rfl,r1⟩
theorem vals2(r:Vals [x,y] us):∃u w',us=[u,w']/\RelV x u/\RelV y w':=by
 cases r with
 |cons r1 r2 =>
  cases r2 with
  |cons r3 r4=>cases r4;exact⟨_,_,rfl,r1,r3⟩
theorem mF:iS X (.type "str") (λxs H Q=>∃i,xs=[.int i]/\i.natAbs.log2<1920/\Q (.str (Y0 i)) H):=by
 intro pins s σ H xs us Q I r h;obtain⟨i,rfl,hz,q⟩:=h;obtain⟨u,rfl,t,rfl⟩:=vals1 r;exact PySem.P.str_of_int hz ⟨.str _,H,I.tok _,⟨_,rfl⟩,q⟩
end
section
end
theorem jg.some_of(r:jg (UI v) o):∃u,o=UI u/\RelV v u:=by
 cases o with
 |none=>exact(show False from r).elim
 |some u=>exact⟨u,rfl,r⟩
section
end
structure QW(K:PySem.W.Frag)(C:U8):Prop where
 pg:PySem.W.plainGet K C VW=UN
 hd:PySem.W.hasDictIn K C=UN
 po:PySem.W.plainOver K C=UN
 sa:PySem.W.findIn K (.ref C) "__setattr__"=UI (UI (.builtin "object.__setattr__"))
section
end
section
end
section
inductive jK(K:PySem.W.Frag)(H:Hp):V->UT->Prop where
 |Es:jK K H .Es (.type "NoneType")
 |bl (x:Bool):jK K H (.bl x) (.type "bool")
 |int (i:Int):jK K H (.int i) (.type "int")
 |str (x:Str):jK K H (.str x) (.type "str")
 |LX (x:UInt64):jK K H (.LX x) (.type "float")
 |lst {a:U8} {xs:List V} (e:H a=UI (.lst xs)):jK K H (.ref a) (.type "list")
 |Fs {a:U8} {o:Obj} {xs:List V} (e:H a=UI (.Fs o (.lst xs))):jK K H (.ref a) (.type "list")
 |tup {a:U8} {xs:List V} (e:H a=UI (.tup xs)):jK K H (.ref a) (.type "tuple")
 |dK {a:U8} {kvs:List (Key×V)} (e:H a=UI (.dK kvs)):jK K H (.ref a) (.type "dict")
 |dT {a:U8} {kvs:List (List Key×V)} (e:H a=UI (.dT kvs)):jK K H (.ref a) (.type "dict")
 |ins {a C dx:U8} {fs:List (Str×V)} (e:H a=UI (.ins C dx fs)) (cl:QW K C) (ha:PySem.W.findIn K (.ref C) "__class__"=UI (UI (.builtin "object.__class__")))
   (hn:PySem.W.specialIn K (.builtin "object.__class__") "__get__"=UI (UI (.builtin "getset_descriptor.__get__"))) (QX:PySem.W.takesIn K (.builtin "object.__class__")=UI UN)
   (hm:PySem.W.mroIn K C (.type "object")=UI UN):jK K H (.ref a) (.ref C)
end
structure f7(k:Nat)(A:WZ):Prop where
 hd:A.handled=UK
 dp:A.depth+3 * k+5<Κ
 un:A.units+16 * k+200<Wa
 gd:A.guards=UI []
theorem f7.deeper(r:f7 (k+1) A)(env:Env):f7 k (A.deeper env) :=
 ⟨r.hd,by have:=r.dp;show A.depth+1+3 * k+5 < _;omega,by have:=r.un;show A.units+3+16 * k+200 < _;omega,r.gd⟩
theorem f7.depth(r:f7 k A):A.depth<Κ:=by have:=r.dp;omega
def DQ:TA:=λ_ H Q=>Q [] H
def Cs(ta:TE)(tr:TA):TA:=λσ H Q=>ta σ H λx H1=>tr σ H1 λxs H2=>Q (x::xs) H2
section
theorem mG:PA X [] DQ:=λ_ _ _ _ H Q I h=>YC ⟨[],H,I,.nil,h⟩
theorem jr(ha:PE X e te)(hr:PA X es t)(hs:Vf (e::es) X.env=(UO,Wo e X.env)::Vf es X.env:=by rfl):PA X (e::es) (Cs te t):=by
 intro pos pins s σ H Q I h;rw[hs];show UU _ _ (ş ((UO,Wo e X.env)::Ww pos (Vf es X.env))) _ _ s;refine XE (Ej (ha pins s σ H _ I h) λu s1 ⟨x,H1,I1,r1,q1⟩=>?_);exact Ej (hr pos pins s1 σ H1 _ I1 q1) λus s2 ⟨xs,H2,I2,r2,q2⟩=>⟨x::xs,H2,I2,.cons r1 r2,q2⟩
end
abbrev Sp:=List V->Hp->VK->XK->Prop
abbrev JT:=List Env->Hp->U1->XK->UT->U1->Prop
structure xY(P:VZ)(w:Wi)(K:PySem.W.Frag)(mg:Str->Option UT)(base:Ws)(A:WZ)(outer:List Env)(s:U1)(H:Hp):Prop where
 frames:A.frames=UI outer
 mod:Mod K mg base
 bs:∀b o,base.get? b=UI o->s.heap.get? b=UI o/\H b=UK
 Im:base.objs.size<=s.heap.objs.size
 jC:s.heap.FunFrames base outer
 JQ:∀b∈Gv outer,H b=UK
 Ef:Fd P w H s.heap
 bare:Zj s.gens
def CE(outer:List Env)(P:VZ)(w:Wi)(H:Hp)(s:U1)(Q:VK)(u:UT)(s':U1):Prop :=
 ∃v H',s'.os=s.os/\Zj s'.gens/\Un (Gv outer) [] H H' s.heap s'.heap/\Fd P w H' s'.heap/\RelV v u/\Q v H'
def CR(CX:JT)(outer:List Env)(P:VZ)(w:Wi)(H:Hp)(s:U1)(Q:VK)(E:XK)(r:Result)(s':U1):Prop :=
 match r with
 |.ok (.ret u)=>CE outer P w H s Q u s'
 |.ok _=>False
 |.error e=>CX outer H s E e s'
structure oj(P:VZ)(w:Wi)(K:PySem.W.Frag)(mg:Str->Option UT)(base:Ws)(CX:JT)(k:Nat)(f:U8)(fd:Y4)(ps:List Str)(sp:Sp):Prop where
 len:∀vs H Q E,sp vs H Q E->vs.length=ps.length
 run:∀(A:WZ) (outer:List Env) (s:U1) (H:Hp) (args:Args) (us:List UT) (vs:List V) (Q:VK) (E:XK),f7 k A->xY P w K mg base A outer s H->Ī s fd args (ps.zip us)->Vals vs us->sp vs H Q E ->
  YS (U6 P w) A (.call (.ref f) args) (CR CX outer P w H s Q E) s
section
theorem Inv.DR(I:Inv X pins σ H s):xY X.prog X.w X.K X.mg X.base X.A X.stack s H :=
 ⟨I.ok.frames,I.ok.mod,I.bs,VN I.ok.Im I.sz,I.stack,I.rp,I.Ef,I.bare⟩
theorem Inv.after(I:Inv X pins σ H s)(h:CE X.stack X.prog X.w H s Q u s'):EP X pins σ Q u s':=by
 obtain⟨v,H',os,bare,un,Ef,r,q⟩:=h;obtain⟨hh,g,d,t,Nd⟩:=s';obtain rfl:Nd=s.os:=os;exact⟨v,H',I.call (h':=hh) (g':=g) (d':=d) (t':=t) (ch:=[]) un Ef bare (λb z=>absurd z (by simp)),r,q⟩
end
def Binds(K:PySem.W.Frag)(fd:Y4)(ps:List Str)(ds:List UT):Prop :=
 ∀(s:U1) (us:List UT),K.In s.heap->(us++ds).length=ps.length->Ī s fd ⟨us,[]⟩ (ps.zip (us++ds))
theorem Binds.all{K:PySem.W.Frag}(h:∀us:List UT,us.length=ps.length->ľ fd ⟨us,[]⟩=pure (ps.zip us)):Binds K fd ps []:=λs us _ hl=>by
 rw[V1]at hl ⊢;exact .of_eq (h us hl)
def Passes(CX:JT)(X:Cx)(E:XK):Prop:=∀(pins:List (U8×Obj)) (σ:St) (H:Hp) (s:U1) (e:UT) (s':U1),Inv X pins σ H s->CX X.stack H s E e s'->X.xe e s'
section
theorem AH(F:oj X.prog X.w X.K X.mg X.base CX k f fd ps sp)(hr:f7 k X.A)(hb:Binds X.K fd ps ds)(hd:Vals Nf ds)(hx:Passes CX X E)
  (I:Inv X pins σ H s) (r:Vals vs us) (h:sp (vs++Nf) H Q E):UU (U6 X.prog X.w) X.A (X0 (.ref f) us) (EP X pins σ Q) X.xe s:=by
 have r2:Vals (vs++Nf) (us++ds):=r.append hd;have hl:(us++ds).length=ps.length:=by rw[<-r2.length];exact F.len _ _ _ _ h
 refine wpAny_call (Zc (F.run X.A X.stack s H ⟨us,[]⟩ (us++ds) (vs++Nf) Q E hr I.DR (hb s us I.JR hl) r2 h) λr s' hq=>?_);cases r with
 |error e=>exact hx pins σ H s e s' I hq
 |ok fl =>
  cases fl with
  |ret u=>exact I.after hq
  |_=>exact Xq hq
end
section
end
structure dY(N P:List Str)(sc:Xg):Prop where
 kind:sc.kind=.function
 co:sc.isCoroutine=UO
 gen:sc.isGenerator=UO
 nd:N.Nodup
 pre:N.take P.length=P
 par:∀x∈P,sc.names.lookup x=UI .local\/sc.names.lookup x=UI .cell
 Jb:∀y∈sc.names,y.2≠.free
theorem lA{kindOf:Str->Option XC}:∀{binds:List (Str×UT)}{m:Str->Option UT},(∀v,(x,v)∉binds)->ę kindOf binds m x=m x
 |[],_,_=>rfl
 |(n,v)::r,m,h=>by
  unfold ę;rw[lA λw hw=>h w (Vx _ hw)];split
  ·have:x≠n:=by rintro rfl;exact h v Vr
   simp[this]
  ·rfl
theorem lB{kindOf:Str->Option XC}:∀{binds:List (Str×UT)}{m:Str->Option UT},(∀v,(x,v)∉binds)->Ě kindOf binds m x=m x
 |[],_,_=>rfl
 |(n,v)::r,m,h=>by
  unfold Ě;rw[lB λw hw=>h w (Vx _ hw)];split
  ·rfl
  ·have:x≠n:=by rintro rfl;exact h v Vr
   simp[this]
theorem lC{kindOf:Str->Option XC}:∀{P:List Str}{vs:List UT}{i:Nat}{m:Str->Option UT},P.Nodup->P[i]?=UI x->vs[i]?=UI v->kindOf x=UI .local ->
  ę kindOf (P.zip vs) m x=UI v
 |[],_,_,_,_,h,_,_=>by simp at h
 |_::_,[],_,_,_,_,h,_=>by simp at h
 |p::P,w::vs,0,m,nd,h1,h2,hk=>by
  simp at h1 h2;subst h1;subst h2;show ę kindOf ((p,w)::P.zip vs) m p=_;unfold ę;rw[lA λv hv=>(Vp.mp nd).1 (XG hv).1,δ hk];simp
 |p::P,w::vs,i+1,m,nd,h1,h2,hk=>by
  show ę kindOf ((p,w)::P.zip vs) m x=_;unfold ę;exact lC (i:=i) (Vp.mp nd).2 (by simpa using h1) (by simpa using h2) hk
theorem lD{kindOf:Str->Option XC}:∀{P:List Str}{vs:List UT}{i:Nat}{m:Str->Option UT},P.Nodup->P[i]?=UI x->vs[i]?=UI v->kindOf x≠UI .local ->
  Ě kindOf (P.zip vs) m x=UI v
 |[],_,_,_,_,h,_,_=>by simp at h
 |_::_,[],_,_,_,_,h,_=>by simp at h
 |p::P,w::vs,0,m,nd,h1,h2,hk=>by
  simp at h1 h2;subst h1;subst h2;show Ě kindOf ((p,w)::P.zip vs) m p=_;unfold Ě;rw[lB λv hv=>(Vp.mp nd).1 (XG hv).1,ε hk];simp
 |p::P,w::vs,i+1,m,nd,h1,h2,hk=>by
  show Ě kindOf ((p,w)::P.zip vs) m x=_;unfold Ě;exact lD (i:=i) (Vp.mp nd).2 (by simpa using h1) (by simpa using h2) hk
noncomputable def start(N:List Str)(vs:List V):St:=vs.map UI++Vk (N.length - vs.length) UK
noncomputable def qc(CX:JT)(P:VZ)(w:Wi)(K:PySem.W.Frag)(mg:Str->Option UT)(base:Ws)(N:List Str)(qual:Str)(scope:Xg)(f:U8)(cd:UT)(A:WZ)(outer:List Env)(s:U1)(H:Hp)(E:XK):Cx where
 prog:=P
 w:=w
 K:=K
 mg:=mg
 base:=base
 A:=A.deeper (ZE qual scope s.heap.objs.size f cd)
 N:=N
 s₀:=s
 H₀:=H
 env:=ZE qual scope s.heap.objs.size f cd
 outer:=outer
 stack:=ZE qual scope s.heap.objs.size f cd::outer
 ex:=[]
 calm:=UN
 fn:=λ_=>UN
 pn:=[]
 xe:=λe s'=>UU (U6 P w) (A.deeper (ZE qual scope s.heap.objs.size f cd)) (leaving (ZE qual scope s.heap.objs.size f cd) e) (λ_ Kq=>CX outer H s E e Kq) (λe' Kq=>CX outer H s E e' Kq) s'
theorem om{sc:Xg}(h:sc.names.lookup x=UI .cell):∃c,(ŵ n sc.names []).lookup x=UI c:=by
 have q:=PySem.W.cellsFrom_some sc.names n [] (.inl h);exact Ò.mp q
theorem tH{K:PySem.W.Frag}
  (S:dY N ps scope) (hd:A.handled=UK) (e0:xY P w K mg base A outer s H) (hl:vs.length=ps.length) (r:Vals vs us)
  (x:InCallC s s.heap.objs.size (ę (ZE qual scope s.heap.objs.size f cd).kindOf (ps.zip us) λ_=>UK) (ŵ (s.heap.objs.size+1) scope.names []) (Ě (ZE qual scope s.heap.objs.size f cd).kindOf (ps.zip us) λ_=>UK) s1) :
  Inv (qc CX P w K mg base N qual scope f cd A outer s H E) [] (start N vs) H s1:=by
 have EY:ps.length<=N.length:=by have:=θ VX S.pre;rw[V9]at this;omega
 obtain⟨h1,tk,rfl,hk⟩:=x.done;have Kr:∀b:U8,b∉(qc CX P w K mg base N qual scope f cd A outer s H E).ex:=λb z=>absurd (show b∈([]:List U8) from z) (by simp);refine⟨⟨e0.mod,S.kind,rfl,rfl,U_ _,λy z c h1 h2=>?_,λy hy=>?_,λy c _ h=>?_,λ_=>hd,Around.frames_deeper e0.frames,.inr ⟨rfl,rfl⟩,λb z=>absurd z (Kr b),e0.bs,e0.Im,λb _ _=>Kr b,λb z=>absurd z (Kr b),e0.jC,e0.JQ⟩,
  rfl,e0.bare,Un.kept hk,⟨_,x.toInCall.ns,λi y v h1 h2 h3=>?_⟩,λy c h=>⟨_,x.cell y c h⟩,e0.Ef.fresh (U_ _),λy c h=>?_,λp hp=>absurd (show p∈([]:List (U8×Obj)) from hp) (by simp),e0.Ef.kept hk,?_⟩
 ·exact name_of_addr x.apart (PySem.mem_of_lookup h1) (PySem.mem_of_lookup h2)
 ·have hy:scope.names.lookup y=UI .cell\/scope.names.lookup y=UI .free:=hy;rcases hy with hy|hy
  ·exact om hy
  ·exact absurd rfl (S.Jb _ (PySem.mem_of_lookup hy))
 ·exact Xy (x.above y c (PySem.mem_of_lookup h))
 ·have hi:i<vs.length:=by
   unfold start at h2;by_cases hi:i<vs.length
   ·exact hi
   ·rw[VH (by simpa using hi)]at h2;rw[WX]at h2;split at h2<;>cases h2
  have ha:vs[i]?=UI v:=by
   unfold start at h2;rw[VY (by simpa using hi),Vi]at h2;cases e:vs[i]? with
   |none=>rw[e]at h2;cases h2
   |some a=>rw[e]at h2;cases h2;rfl
  obtain⟨u,hu,rv⟩:=r.get ha;have hp:ps[i]?=UI y:=by
   rw[<-S.pre,á ⋯];exact h1
  have Pl:ps.Nodup:=by rw[<-S.pre];exact S.nd.sublist (Į _ _)
  refine⟨u,rv,?_⟩;rcases S.par y (Vt hp) with k|k
  ·exact .inl ⟨k,lC Pl hp hu k⟩
  ·obtain⟨c,e⟩:=om (n:=s.heap.objs.size+1) k;refine .inr ⟨.inl k,c,e,?_⟩;have q:=x.cell y c e;rw[lD Pl hp hu (by show scope.names.lookup y≠_;rw[k];decide)]at q;exact q
 ·exact e0.Ef.fresh (Xy (x.above y c (PySem.mem_of_lookup h)))
 ·unfold start;show _=N.length;rw[U',UQ,X3];omega
theorem Cu{K:PySem.W.Frag}{dV kV doc pm Ft ct oc:UT}
 (lk:K.lookup f=UI ⟨oc,od,.func (PySem.W.fnOf name qual params body scope dV kV doc pm an Ft ct),Ks⟩) (EV:PySem.W.codeIn K Ft qual=UN) (S:dY N ps scope)
    (len:∀vs H Q E,sp vs H Q E->vs.length=ps.length)
    (Hd:∀(A:WZ) (outer:List Env) (s:U1) (H:Hp) (vs:List V) (Q:VK) (E:XK),f7 k (A.deeper (ZE qual scope s.heap.objs.size f Ft))->sp vs H Q E ->
      ∃t,Ff (qc CX P w K mg base N qual scope f Ft A outer s H E) body t/\t {nx:=λ_ H'=>Q .Es H',rt:=Q} (start N vs) H) :
    oj P w K mg base CX (k+1) f (PySem.W.fnOf name qual params body scope dV kV doc pm an Ft ct) ps sp:=by
  refine⟨len,λA outer s H args us vs Q E hr e0 hb r Gw=>?_⟩;have hl:=len _ _ _ _ Gw;have KX:K.In s.heap:=e0.mod.M4.keeps λb o e=>(e0.bs b o e).1;have lim:s.heap.NoLimit:=e0.mod.nolimit.keeps λb o e=>(e0.bs b o e).1;have Kt:∀y∈ps.zip us,scope.names.lookup y.1=UI .local\/(scope.names.lookup y.1=UI .cell/\((ŵ (s.heap.objs.size+1) scope.names []).lookup y.1).isSome=UN):=λ⟨n,v⟩ hy=>by
    rcases S.par n (XG hy).1 with q|q
    · exact .inl q
    · exact .inr ⟨q,PySem.W.cellsFrom_some _ _ _ (.inl q)⟩
  refine codeAny_call_function hr.depth (KX _ _ lk) rfl S.co S.gen rfl (PySem.W.codeRec_of KX EV) (hb _ _ _ _ ?_);refine wpAny_newFunctionEnv_cells S.kind Kt λenv he s1 x=>?_;subst he;refine⟨lim.keeps x.toInCall.keep,codeAny_func ?_⟩;obtain⟨t,ht,hq⟩:=Hd A outer s H vs Q E (hr.deeper _) Gw;have I:Inv (qc CX P w K mg base N qual scope f Ft A outer s H E) [] (start N vs) H s1:=tH S hr.hd e0 hl r x;refine VS (ht [] s1 (start N vs) H _ I hq) (λfl s' hs=>?_) λe s' hs=>hs;have fin:∀{σ':St} {H':Hp} {v:V} {u:UT},Inv (qc CX P w K mg base N qual scope f Ft A outer s H E) [] σ' H' s'->RelV v u->Q v H'->CE outer P w H s Q u s' :=
    λ{σ' H' v u} J rv q=>⟨v,H',J.os,J.bare,J.base,J.Ef,rv,q⟩
  cases fl with
  | ret u =>
    obtain⟨v,σ',H',J,rv,q⟩:=hs;exact fin J rv q
  | next =>
    obtain⟨σ',H',J,q⟩:=hs;exact fin (v:=V.Es) (u:=Vy) J rfl q
  | brk =>
    obtain⟨_,_,_,q⟩:=hs;exact Xq q
  | cont =>
    obtain⟨_,_,_,q⟩:=hs;exact Xq q
section
end
end L2
namespace HT
open PySem PyProof.Rows
section
open PySem.SeqAt
open PySem.AutoSeq1 (wpAny_loadPart')
open PySem.MeetsSeq PySem.MeetsSeq2 PySem.MeetsSeq3
end
section
theorem xZ(ht:Ń s.heap t vs.toArray)(hb:Ń s.heap b ws.toArray)(hv:vs≠[])
  (h1:ws=[]->Q (.ref t) s) (h2:ws≠[]->Q (.ref s.heap.objs.size) {s with heap:=s.heap.push {cls:=.type "tuple",data:=.seq (vs++ws).toArray}})
  (hsz:vs.length+ws.length<=US):UU (U6 prog w) A (XA .Add (.ref t) (.ref b)) Q E s:=by
 obtain⟨⟨cls,dd,data,sl⟩,ho,hc,n,hd⟩:=id ht;obtain⟨⟨Ku,JU,data2,Iq⟩,Ga,Ir,n2,hd2⟩:=id hb;simp only at hc hd Ir hd2;subst hc hd Ir hd2;have e:vs.toArray++ws.toArray=(vs++ws).toArray:=by simp
 by_cases hw:ws=[]
 ·exact Ç ⟨_,ho,rfl⟩ ⟨_,Ga,rfl⟩ Õ ċ PySem.F.slot_tuple_add PySem.F.entry_tuple_add (PySem.F.args_tuple_add_2 _ _)
   (tuple_addW1 t b vs.toArray ws.toArray n n2 dd JU sl Iq (by simpa using hv) (by simp[hw])) ⟨ho,Ga,h1 hw⟩
 ·refine Ç ⟨_,ho,rfl⟩ ⟨_,Ga,rfl⟩ Õ ċ PySem.F.slot_tuple_add PySem.F.entry_tuple_add (PySem.F.args_tuple_add_2 _ _)
   (tuple_addW2 t b vs.toArray ws.toArray n n2 dd JU sl Iq (by simpa using hv) (by simpa using hw) (by rw[U9,U9];exact hsz)) ⟨ho,Ga,?_⟩
  rw[e];exact h2 hw
noncomputable def En(n d:Nat):Option Int->Nat
 |none=>d
 |some v=>if v<0 then(v+(n:Int)).toNat else min v.toNat n
theorem AI(n d:Nat)(hd:d<=n)(o:Option Int):En n d o<=n:=by
 cases o with
 |none=>exact hd
 |some v =>
  show(if v<0 then(v+(n:Int)).toNat else min v.toNat n)<=n;by_cases hv:v<0
  ·rw[δ hv];omega
  ·rw[ε hv];exact Nat.min_le_right _ _
theorem rB(v:Int)(n d:Nat):(if v<0 then max (v+(n:Int)) 0 else min v (n:Int))=((En n d (UI v):Nat):Int):=by
 show(if v<0 then max (v+(n:Int)) 0 else min v (n:Int))=(((if v<0 then(v+(n:Int)).toNat else min v.toNat n):Nat):Int)
 by_cases hv:v<0
 ·simp only[δ hv];omega
 ·simp only[ε hv];omega
theorem qd(lo hi:Option Int)(n:Nat):X8 lo hi 1 (n:Int)=(((En n 0 lo:Nat):Int),((En n n hi:Nat):Int)):=by
 have h1:¬((1:Int)<0):=by omega
 unfold X8;simp only[h1,ι];refine Ă ?_ ?_
 ·cases lo with
  |none=>rfl
  |some v=>exact rB v n 0
 ·cases hi with
  |none=>rfl
  |some v=>exact rB v n n
theorem qe(i j:Nat):W' (i:Int) (j:Int) 1=j - i:=by
 unfold W';have h1:(1:Int)>0:=by omega
 simp only[h1,μ,Int.ediv_one];split<;>omega
theorem jL(p:ZD v o)(h:Q o s):UU (U6 prog w) A (Ŷ v) Q E s:=by
 cases p with
 |none=>exact Χ h
 |int i t=>exact slicePart_int h
theorem dI{sl:U8}{vl vu:UT}{lo hi:Option Int}{n:Nat}(hs:s.heap.IsSliceOf sl vl vu .none)(pl:ZD vl lo)(pu:ZD vu hi)
  (h:Q (((En n 0 lo:Nat):Int),1,En n n hi - En n 0 lo) s):UU (U6 prog w) A (Zr (.ref sl) (pure (n:Int))) Q E s:=by
 obtain⟨os,He,L8,Iu⟩:=id hs;unfold Zr ŷ;refine UJ (UJ (We He Iu (x:=vl) rfl (UJ (We He Iu (x:=vu) rfl (UJ (We He Iu (x:=.none) rfl (UM ?_)))))));refine UJ (Χ ?_);show UU _ _ (if ((1:Int)==0)=UN then _ else _) _ _ s;rw[ε (by decide)];refine UJ (jL pl (UJ (jL pu (UJ (UM ?_)))));show UU _ _ (match X8 lo hi 1 (n:Int) with|(lo,hi)=>pure (lo,(1:Int),W' lo hi 1)) _ _ s;rw[qd lo hi n];show UU _ _ (pure (((En n 0 lo:Nat):Int),(1:Int),W' ((En n 0 lo:Nat):Int) ((En n n hi:Nat):Int) 1)) _ _ s;rw[qe];exact UM h
theorem vd(xs:Array UT)(i k:Nat):((UX k).filterMap λ(m:Nat)=>xs[((i:Int)+(m:Int) * 1).toNat]?).toArray=((xs.toList.drop i).take k).toArray:=by
 have e:(λ(m:Nat)=>xs[((i:Int)+(m:Int) * 1).toNat]?)=λm=>xs[i+m]?:=by
  funext m
  have:((i:Int)+(m:Int) * 1).toNat=i+m:=by omega
  rw[this]
 rw[e];have:=pick_run xs i k;rw[Ğ]at this;have e2:((λx=>xs[x]?) ∘ λx=>i+x)=λm=>xs[i+m]?:=rfl;rw[e2]at this;rw[this]
theorem gE{lo hi:Option Int}(ht:Ń s.heap t items)(hs:s.heap.IsSliceOf sl vl vu .none)(pl:ZD vl lo)(pu:ZD vu hi)
  (hw:¬(En items.size 0 lo=0/\En items.size items.size hi=items.size))
  (h:Q (.ref s.heap.objs.size) {s with heap:=s.heap.push {cls:=.type "tuple",data:=.seq ((items.toList.drop (En items.size 0 lo)).take (En items.size items.size hi - En items.size 0 lo)).toArray}})
  (hsz:items.size<=US):UU (U6 prog w) A (YF (.ref t) (.ref sl)) Q E s:=by
 have Gx:sizeOk (.seq ((items.toList.drop (En items.size 0 lo)).take (En items.size items.size hi - En items.size 0 lo)).toArray):=by
  show((items.toList.drop (En items.size 0 lo)).take (En items.size items.size hi - En items.size 0 lo)).toArray.size<=US;rw[U9,V9,Z2,Va];omega
 have hj:En items.size items.size hi<=items.size:=AI _ _ (U_ _) hi;obtain⟨os,He,L8,Iu⟩:=id hs;have Ng:s.TypeIs (.ref sl) "slice":=⟨os,He,L8⟩
 unfold YF
 try with_reducible refine VG ?_
 first|refine UJ (UM ?_)|skip
 refine UJ (Ŝ ht.typeIs (by decide) ?_);refine UJ (V7 (name:=W7 "__getitem__") ht.typeIs VU
  (VI VU ht.typeIs Ň ?_ (ŗ _ _)))
 show UU _ _ (X1 (.ref t) >>= _) _ _ s;refine UJ (tupleItemsOf_ ht ?_);refine UJ (YE Ng ?_);rw[δ (by decide)];refine UJ (dI hs pl pu ?_);have GY:¬((((En items.size 0 lo:Nat):Int)==0&&(1:Int)==1&&(En items.size items.size hi - En items.size 0 lo)==items.size)=UN):=by
  intro q;rw[UR,UR]at q;have q1:((En items.size 0 lo:Nat):Int)=0:=ğ q.1.1;have q2:En items.size items.size hi - En items.size 0 lo=items.size:=ğ q.2;exact hw ⟨⋯,⋯⟩
 show UU _ _ (if (((En items.size 0 lo:Nat):Int)==0&&(1:Int)==1&&(En items.size items.size hi - En items.size 0 lo)==items.size)=UN then _ else _) _ _ s;rw[ε GY,vd]
 first
  |exact UJ (m:=Xj _) (VL (UM ⟨_,rfl,UM h⟩) Gx)
  |exact UJ (m:=Xj _) (VL (UJ (UM (UM ⟨_,rfl,UM h⟩))) Gx)
  |exact UJ (UJ (m:=Xj _) (VL (UM (UM ⟨_,rfl,UM h⟩)) Gx))
  |exact UJ (UJ (m:=Xj _) (VL (UM ⟨_,rfl,UM h⟩) Gx))
end
end HT
namespace L2
open PySem PySem.Spec PyProof.Rows
abbrev TO:=St->Hp->(Option Int->Hp->Prop)->Prop
def PO(X:Cx)(e:Option VO)(t:TO):Prop :=
 ∀(pins:List (U8×Obj)) (s:U1) (σ:St) (H:Hp) (Q:Option Int->Hp->Prop),Inv X pins σ H s->t σ H Q ->
  UU (U6 X.prog X.w) X.A (evalPart e X.env) (λu s'=>∃o H',Inv X pins σ H' s'/\ZD u o/\Q o H') X.xe s
def x6:TO:=λ_ H Q=>Q UK H
def Cv(t:TE):TO:=λσ H Q=>t σ H λx H1=>∃i,x=.int i/\Q (UI i) H1
section
variable{X:Cx}{e:VO}{te:TE}{lo hi:Option VO}{tl th:TO}{pos p2:Pos}
theorem x8:PO X UK x6:=by
 intro pins s σ H Q I h;rw[evalPart_none];exact UM ⟨UK,H,I,.none,h⟩
theorem x9(h:PE X e te):PO X (UI e) (Cv te):=by
 intro pins s σ H Q I hw;rw[evalPart_some];refine Ej (h pins s σ H _ I hw) λu s1 ⟨x,H1,I1,r1,q1⟩=>?_;obtain⟨i,rfl,q⟩:=q1;obtain⟨t,rfl⟩:=r1;exact⟨UI i,H1,I1,.int i t,q⟩
def HE(X:Cx)(r:V->Option Int->Option Int->Hp->VK->Prop):Prop :=
 ∀(pins:List (U8×Obj)) (s:U1) (σ:St) (H:Hp) (x:V) (v vl vu:UT) (lo hi:Option Int) (sl:U8) (Q:VK),Inv X pins σ H s->RelV x v->s.heap.IsSliceOf sl vl vu .none->ZD vl lo->ZD vu hi->r x lo hi H Q ->
  ∃T id,Ő (.type T) "__getitem__"=pure (UI (.builtin id))/\s.TypeIs v T/\UU (U6 X.prog X.w) X.A (YF v (.ref sl)) (EP X pins σ Q) X.xe s
theorem HE.or(h:HE X r)(h':HE X r'):HE X (λx lo hi H Q=>r x lo hi H Q\/r' x lo hi H Q):=by
 intro pins s σ H x v vl vu lo hi sl Q I rx hs pl pu q;rcases q with q|q
 ·exact h pins s σ H x v vl vu lo hi sl Q I rx hs pl pu q
 ·exact h' pins s σ H x v vl vu lo hi sl Q I rx hs pl pu q
def QY(r:V->Option Int->Option Int->Hp->VK->Prop)(te:TE)(tl th:TO):TE:=λσ H Q=>te σ H λx H1=>tl σ H1 λl H2=>th σ H2 λu H3=>r x l u H3 Q
theorem vf(hr:HE X r)(he:PE X e te)(hl:PO X lo tl)(hu:PO X hi th):PE X (.Subscript e (.Slice lo hi UK p2) pos) (QY r te tl th):=by
 intro pins s σ H Q I h;refine Ř (Ej (he pins s σ H _ I h) λv s1 ⟨x,H1,I1,r1,q1⟩=>?_);refine wpAny_Slice (Ej (hl pins s1 σ H1 _ I1 q1) λvl s2 ⟨l,H2,I2,pl,q2⟩=>Ej (hu pins s2 σ H2 _ I2 q2) λvu s3 ⟨u,H3,I3,pu,q3⟩=>?_);rw[evalPart_none];refine UM ?_;have I4:Inv X pins σ H3 {s3 with heap:=s3.heap.push {cls:=.type "slice",data:=.fields #[vl,vu,.none]}}:=I3.kept (t':=s3.toks) λb ob q=>UL _ q;obtain⟨T,id,hT,ht,hg⟩:=hr pins {s3 with heap:=s3.heap.push {cls:=.type "slice",data:=.fields #[vl,vu,.none]}} σ H3 x v vl vu l u s3.heap.objs.size Q I4 r1 (Ũ ..) pl pu q3;show UU (U6 X.prog X.w) X.A (ZY e (.Slice lo hi UK p2) v (.ref s3.heap.objs.size)) (EP X pins σ Q) X.xe {s3 with heap:=s3.heap.push {cls:=.type "slice",data:=.fields #[vl,vu,.none]}};exact tail_any (ops:=[.ref s3.heap.objs.size,v]) ht hT hg (by with_unfolding_all rfl)
noncomputable def oo(xs:List V)(lo hi:Option Int):List V:=(xs.drop (HT.En xs.length 0 lo)).take (HT.En xs.length xs.length hi - HT.En xs.length 0 lo)
theorem iT(xs:List V)(lo hi:Option Int):(oo xs lo hi).length<=xs.length:=by
 unfold oo;rw[V9,Z2];omega
def Cw(K:PySem.W.Frag):V->Option Int->Option Int->Hp->VK->Prop:=λx lo hi H Q=>∃a xs,x=.ref a/\EC K H a xs /\
 ¬(HT.En xs.length 0 lo=0/\HT.En xs.length xs.length hi=xs.length)/\∀p,H p=UK->Q (.ref p) (upd H p (.tup (oo xs lo hi)))
theorem AJ:HE X (Cw X.K):=by
 intro pins s σ H x v vl vu lo hi sl Q I rx hs pl pu h;obtain⟨a,xs,rfl,hx,hw,q⟩:=h;cases rx;obtain⟨A',r,ht,hz⟩:=I.tuple hx;have hlen:A'.toArray.size=xs.length:=by rw[U9];exact r.length.symm
 refine⟨"tuple",_,VU.lookup,ht.typeIs,?_⟩;refine HT.gE ht hs pl pu (by rw[hlen];exact hw) ?_ (by rw[hlen];exact hz);rw[hlen];refine⟨.ref s.heap.objs.size,_,I.laid (t':=s.toks) (o:=.tup (oo xs lo hi)) (λb ob q=>UL _ q) (U_ _) ?_,rfl,q _ (I.Ef.fresh (U_ _))⟩;exact⟨VN (iT xs lo hi) hz,_,(r.drop (HT.En xs.length 0 lo)).take (HT.En xs.length xs.length hi - HT.En xs.length 0 lo),Þ _ _⟩
noncomputable def Cy(K:PySem.W.Frag):R2:=λx y H Q=>∃a b xs ys,x=.ref a/\y=.ref b/\EC K H a xs/\EC K H b ys/\xs≠[]/\xs.length+ys.length<=US /\
 (ys=[]->Q (.ref a) H)/\(ys≠[]->∀p,H p=UK->Q (.ref p) (upd H p (.tup (xs++ys))))
theorem Vals.mH(r:Vals xs us):us=[]↔xs=[]:=by
 cases r with
 |_=>simp
theorem x_:FP X (XA .Add) (Cy X.K):=by
 intro pins s σ H x y v u Q I rx ry h;obtain⟨a,b,xs,ys,rfl,rfl,ha,hb,hx,hz,q1,q2⟩:=h;cases rx;cases ry;obtain⟨A',r1,p1,_⟩:=I.tuple ha;obtain⟨Ew,r2,p2,_⟩:=I.tuple hb;refine HT.xZ p1 p2 (λz=>hx (r1.mH.mp z)) (λz=>⟨.ref a,H,I,rfl,q1 (r2.mH.mp z)⟩) (λz=>?_) (by rw[<-r1.length,<-r2.length];exact hz);refine⟨.ref s.heap.objs.size,_,I.laid (t':=s.toks) (o:=.tup (xs++ys)) (λb ob q=>UL _ q) (U_ _) ?_,rfl,q2 (λw=>z (r2.mH.mpr w)) _ (I.Ef.fresh (U_ _))⟩;exact⟨by rw[U'];exact hz,_,r1.append r2,Þ _ _⟩
end
noncomputable def Hf(n:Nat)(i:Int):Option Nat:=if 0<=i then(if i<n then UI i.toNat else UK) else if -(n:Int)<=i then UI (i+n).toNat else UK
noncomputable def ED{α:Type}(xs:List α)(i:Int):Option α:=(Hf xs.length i).bind λj=>xs[j]?
theorem rC(h:Hf n i=UI j):seqIndex? i n=UI j/\j<n/\-(n:Int)<=i/\i<n:=by
 unfold Hf at h;by_cases h0:0<=i
 ·rw[δ h0]at h;by_cases h1:i<n
  ·rw[δ h1]at h;have e:i.toNat=j:=VM h;exact⟨by rw[ļ h0 h1,e],⋯,⋯,h1⟩
  ·rw[ε h1]at h;cases h
 ·rw[ε h0]at h;by_cases h1:-(n:Int)<=i
  ·rw[δ h1]at h;have e:(i+n).toNat=j:=VM h;exact⟨by rw[seqIndex_neg ⋯ h1,e],⋯,h1,⋯⟩
  ·rw[ε h1]at h;cases h
theorem mI(h:ED xs i=UI v):∃j,seqIndex? i xs.length=UI j/\xs[j]?=UI v/\j<xs.length/\-(xs.length:Int)<=i/\i<xs.length:=by
 unfold ED at h;cases e:Hf xs.length i with
 |none=>rw[e]at h;cases h
 |some j =>
  rw[e]at h;obtain⟨h1,h2,h3,h4⟩:=rC e;exact⟨j,h1,h,h2,h3,h4⟩
theorem bG{xs:List α}{j:Nat}{v:α}(h:xs[j]?=UI v):ED xs (j:Int)=UI v:=by
 have hj:j<xs.length:=(UW.mp h).1;have e:Hf xs.length (j:Int)=UI j:=by
  unfold Hf;rw[δ ⋯,δ ⋯];simp
 unfold ED;rw[e];exact h
def mJ(b:VO):Prop:=∀o i,Ý b UO o i=operate [o,i] (YF o i)
def Nh(X:Cx)(r:R2):Prop :=
 ∀(value slice:VO) (pins:List (U8×Obj)) (s:U1) (σ:St) (H:Hp) (x y:V) (v u:UT) (Q:VK),Inv X pins σ H s->RelV x v->RelV y u->r x y H Q ->
  Ý slice UO v u=operate [v,u] (YF v u)->UU (U6 X.prog X.w) X.A (ZY value slice v u) (EP X pins σ Q) X.xe s
def Ni(X:Cx)(id:String)(r:V->List V->Hp->VK->Prop):Prop :=
 ∀(pins:List (U8×Obj)) (s:U1) (σ:St) (H:Hp) (x:V) (xs:List V) (v:UT) (us:List UT) (Q:VK),Inv X pins σ H s->RelV x v->Vals xs us->r x xs H Q ->
  UU (U6 X.prog X.w) X.A (X0 (.builtin id) (v::us)) (EP X pins σ Q) X.xe s
section
noncomputable def DS(K:PySem.W.Frag):R2:=λx y H Q=>∃p xs i v,x=.ref p/\y=.int i/\EN K H p xs/\ED xs i=UI v/\Q v H
noncomputable def DT(K:PySem.W.Frag):R2:=λx y H Q=>∃p xs i v,x=.ref p/\y=.int i/\EC K H p xs/\ED xs i=UI v/\Q v H
noncomputable def DU:R2:=λx y H Q=>∃z i c,x=.str z/\y=.int i/\z.length<=US/\ED z.cps.toList i=UI c/\Q (.str ⟨#[c]⟩) H
theorem ya:Nh X (DS X.K):=by
 intro value slice pins s σ H x y v u Q I rx ry h hs;obtain⟨p,xs,i,z,rfl,rfl,hq,he,q⟩:=h;cases rx;obtain⟨t,rfl⟩:=ry;obtain⟨A',r,pl,hz⟩:=I.list hq;obtain⟨j,h1,h2,h3,h4,h5⟩:=mI he;obtain⟨w,ew,GK⟩:=r.get h2;have hl:=r.length;have hn:=eO;have fin:EP X pins σ Q w s:=⟨z,H,I,GK,q⟩
 by_cases h0:0<=i
 ·have hj:i.toNat=j:=by
   rw[ļ h0 h5]at h1;exact VM h1
  exact item_listR pl.isList h0 ⋯ (by rw[hj];simpa using ew) fin hs
 ·have hj:(i+(A'.toArray.size:Int)).toNat=j:=by
   rw[seqIndex_neg ⋯ h4]at h1;rw[U9,<-hl];exact VM h1
  exact ī (x:=w) pl.isList.typeIs Š.lookup
   (wpAny_getItem_list_neg (Q:=λr s'=>r=w/\EP X pins σ Q r s') pl.isList ⋯ (by rw[U9]<;>omega) ⋯ (by rw[hj];simpa using ew) ⟨rfl,fin⟩) hs
theorem jM:Nh X (DT X.K):=by
 intro value slice pins s σ H x y v u Q I rx ry h hs;obtain⟨p,xs,i,z,rfl,rfl,hq,he,q⟩:=h;cases rx;obtain⟨t,rfl⟩:=ry;obtain⟨A',r,pl,hz⟩:=I.tuple hq;obtain⟨j,h1,h2,h3,h4,h5⟩:=mI he;obtain⟨w,ew,GK⟩:=r.get h2;have hl:=r.length;have hn:=eO;have fin:EP X pins σ Q w s:=⟨z,H,I,GK,q⟩
 exact ī (x:=w) pl.typeIs VU.lookup
  (getItem_tuple (j:=j) (Q:=λr s'=>r=w/\EP X pins σ Q r s') pl ⋯ ⋯ (by rw[U9,<-hl];exact h1) (by simpa using ew) ⟨rfl,fin⟩) hs
theorem jN:Nh X DU:=by
 intro value slice pins s σ H x y v u Q I rx ry h hs;obtain⟨z,i,c,rfl,rfl,hz,he,q⟩:=h;obtain⟨t,rfl⟩:=rx;obtain⟨t',rfl⟩:=ry;obtain⟨j,h1,h2,h3,h4,h5⟩:=mI he;have hl:z.cps.toList.length=z.length:=by simp[Ö]
 rw[hl]at h1 h4 h5;have hn:=eO;exact tail_any (Y' s z t) ź.lookup (getItem_str (c:=c) (by
  have e1:UP (i < -(2 ^ 63:Int))=UO:=ζ ⋯;have e2:UP (i >= 2 ^ 63)=UO:=ζ ⋯;rw[e1,e2,Ś]) (by rw[h1];simpa using h2) ⟨.str ⟨#[c]⟩,H,I.tok _,⟨_,rfl⟩,q⟩) hs
theorem qf(A':List UT)(n j:Nat)(u:UT):VE (·.setIfInBounds j u) {cls:=.type "list",data:=.seq A'.toArray n}={cls:=.type "list",data:=.seq (A'.set j u).toArray n}:=by
 simp[VE]
theorem Inv.lst(I:Inv X pins σ H s)(h:H p=UI (.lst xs)):
  ∃(A':List UT) (n:Nat),Vals xs A'/\s.heap.get? p=UI {cls:=.type "list",data:=.seq A'.toArray n}/\xs.length<=US:=by
 obtain⟨z,A',n,r,e⟩:=I.Ef p _ h;exact⟨A',n,r,e,z⟩
theorem Inv.AK{A' its':List UT}(I:Inv X pins σ H s)(h:H p=UI (.lst xs))
  (ho:s.heap.get? p=UI {cls:=.type "list",data:=.seq A'.toArray n}) (hf:f {cls:=.type "list",data:=.seq A'.toArray n}={cls:=.type "list",data:=.seq its'.toArray n' }) (r:Vals ys its') (hz:ys.length<=US) (t:Nat) :
  Inv X pins σ (upd H p (.lst ys)) {s with heap:=s.heap.update p f,toks:=t}:=by
 have e:(s.heap.update p f).get? p=UI {cls:=.type "list",data:=.seq its'.toArray n' }:=by
  rw[V4 f ho (by rw[hf]<;>rfl),hf]
 refine I.write (x:=p) (e:=p) (by rw[h];trivial) (.inl rfl) (λb u hb q=>(XU _ _ (VP hb)).trans q) ⟨_,e⟩ ?_;exact⟨hz,its',n',r,e⟩
def Cz:V->V->V->Hp->(Hp->Prop)->Prop:=λo i v H Q=>∃p xs k j,o=.ref p/\i=.int k/\H p=UI (.lst xs)/\Hf xs.length k=UI j/\Q (upd H p (.lst (xs.set j v)))
theorem set_list:jG X Cz:=by
 intro pins s σ H o i v ov iv u Q I ro ri rv h;obtain⟨p,xs,k,j,rfl,rfl,hp,hj,q⟩:=h;cases ro;obtain⟨t,rfl⟩:=ri;obtain⟨A',n,r,ho,hz⟩:=I.lst hp;obtain⟨h1,h2,h3,h4⟩:=rC hj;have hl:=r.length;have hn:=eO;have I':Inv X pins σ (upd H p (.lst (xs.set j v))) {s with heap:=s.heap.update p (VE (·.setIfInBounds j u))} :=
  I.AK hp ho (qf A' n j u) (r.set rv j) (by rw[ņ];exact hz) s.toks
 by_cases h0:0<=k
 ·have hk:k.toNat=j:=by
   rw[ļ h0 h4]at h1;exact VM h1
  exact PySem.W.ki_setAt ho h0 ⋯ (by rw[U9,<-hl];exact h4) (by rw[hk];exact⟨_,I',q⟩)
 ·have hk:(k+(A'.toArray.size:Int)).toNat=j:=by
   rw[seqIndex_neg ⋯ h3]at h1;rw[U9,<-hl];exact VM h1
  exact PySem.W.ki_setBack ho ⋯ (by rw[U9,<-hl];exact h3) ⋯ (by rw[hk];exact⟨_,I',q⟩)
theorem mK(lo hi:Option Int)(n:Nat):(Yn lo hi UK n).1=((HT.En n 0 lo:Nat):Int)/\(Yn lo hi UK n).2.1=((HT.En n n hi:Nat):Int)/\(Yn lo hi UK n).2.2=1:=by
 refine⟨?_,?_,rfl⟩
 ·cases lo with
  |none=>simp[Yn,HT.En]
  |some i =>
   simp only[Yn,HT.En,ZO,show(1:Int)>0 by decide,μ];by_cases h:i<0
   ·simp only[h,μ]<;>omega
   ·simp only[h,ι]<;>omega
 ·cases hi with
  |none=>simp[Yn,HT.En]
  |some i =>
   simp only[Yn,HT.En,ZO,show(1:Int)>0 by decide,μ];by_cases h:i<0
   ·simp only[h,μ]<;>omega
   ·simp only[h,ι]<;>omega
theorem la(A':List UT)(lo hi:Option Int):slicePick A'.toArray lo hi UK=((A'.drop (HT.En A'.length 0 lo)).take (HT.En A'.length A'.length hi - HT.En A'.length 0 lo)).toArray:=by
 obtain⟨h1,h2,h3⟩:=mK lo hi A'.toArray.size;unfold slicePick;rw[h1,h2,h3];simp only[sliceRange_one,pick_run,U9]<;>rfl
def CA(K:PySem.W.Frag):V->Option Int->Option Int->Hp->VK->Prop:=λx lo hi H Q=>∃a xs,x=.ref a/\EN K H a xs/\∀p,H p=UK->Q (.ref p) (upd H p (.lst (oo xs lo hi)))
theorem yb:HE X (CA X.K):=by
 intro pins s σ H x v vl vu lo hi sl Q I rx hs pl pu h;obtain⟨a,xs,rfl,hx,q⟩:=h;cases rx;obtain⟨A',r,ht,hz⟩:=I.list hx;have hlen:=r.length;refine⟨"list",_,Š.lookup,ht.isList.typeIs,?_⟩;refine wpAny_getItem_list_slice ht.isList hs pl pu .none (by simp) ?_ (by rw[U9]<;>omega);rw[la,<-hlen];refine⟨.ref s.heap.objs.size,_,I.laid (t':=s.toks) (o:=.lst (oo xs lo hi)) (λb ob q=>UL _ q) (U_ _) ?_,rfl,q _ (I.Ef.fresh (U_ _))⟩;exact⟨VN (iT xs lo hi) hz,_,0,(r.drop (HT.En xs.length 0 lo)).take (HT.En xs.length xs.length hi - HT.En xs.length 0 lo),UZ _ rfl⟩
theorem gF:iS X (.builtin "len") (λxs H Q=>∃p ys,xs=[.ref p]/\(EN X.K H p ys\/EC X.K H p ys)/\Q (.int ys.length) H):=by
 intro pins s σ H xs us Q I r h;obtain⟨p,ys,rfl,hq,q⟩:=h;obtain⟨u,rfl,rx⟩:=vals1 r;cases rx;have hn:=eO;rcases hq with hq|hq
 ·obtain⟨A',r',pl,hz⟩:=I.list hq;have hlen:=r'.length;exact Calls.call_len_list pl.isList (by simp only[U9]<;>omega) ⟨.int ys.length,H,I.tok _,⟨s.toks+1,by rw[U9,hlen]⟩,q⟩
 ·obtain⟨A',r',pl,hz⟩:=I.tuple hq;have hlen:=r'.length;exact len_tuple pl (by simp only[U9]<;>omega) ⟨.int ys.length,H,I.tok _,⟨s.toks+1,by rw[U9,hlen]⟩,q⟩
theorem mL:iS X (.builtin "len") (λxs H Q=>∃z,xs=[.str z]/\z.length<=US/\Q (.int z.length) H):=by
 intro pins s σ H xs us Q I r h;obtain⟨z,rfl,hz,q⟩:=h;obtain⟨u,rfl,t,rfl⟩:=vals1 r;have hn:=eO;exact len_str ⋯ ⟨.int z.length,H,I.tok _,⟨_,rfl⟩,q⟩
theorem fR:iS X (.type "tuple") (λxs H Q=>∃p ys,xs=[.ref p]/\((EN X.K H p ys/\∀l,H l=UK->Q (.ref l) (upd H l (.tup ys)))\/(EC X.K H p ys/\Q (.ref p) H))):=by
 intro pins s σ H xs us Q I r h;obtain⟨p,ys,rfl,h⟩:=h;obtain⟨u,rfl,rx⟩:=vals1 r;cases rx;rcases h with⟨hq,q⟩|⟨hq,q⟩
 ·obtain⟨A',r',pl,hz⟩:=I.list hq;have hlen:=r'.length;refine call_tuple_list pl.isList (λh' kp=>?_) (by simp only[U9]<;>omega);have I1:Inv X pins σ H {s with heap:=h' }:=I.kept (t':=s.toks) kp;have I2:Inv X pins σ (upd H h'.objs.size (.tup ys)) {s with heap:=h'.push {cls:=.type "tuple",data:=.seq A'.toArray}} :=
   I1.laid (t':=s.toks) (λb o e=>UL _ e) (U_ _) (show bq X.prog X.w _ _ _ (.tup ys) from⟨hz,A',r',Þ _ _⟩)
  exact⟨.ref h'.objs.size,_,I2,rfl,q _ (I1.Ef.fresh (U_ _))⟩
 ·obtain⟨A',r',pl,hz⟩:=I.tuple hq;exact call_tuple_same pl ⟨.ref p,H,I,rfl,q⟩
def Nj(K:PySem.W.Frag)(T:String)(x:V)(H:Hp):Prop:=match x with
 |.str _=>T="str"
 |.int _=>T="int"
 |.ref p=>(T="list"/\∃xs,EN K H p xs)\/(T="tuple"/\∃o,K.lookup p=UI o/\o.cls=.type "tuple"/\o.dict=UK) \/
   (T="dict"/\((∃kvs,H p=UI (.dK kvs))\/∃kvs,H p=UI (.dT kvs)))\/(T="set"/\∃S n,H p=UI (.set S n))
 |_=>False
theorem qg(I:Inv X pins σ H s)(r:RelV x v)(ty:Nj X.K T x H):
  s.TypeIs v T/\∀a,v=.ref a->∃ob,s.heap.get? a=UI ob/\ob.dict=UK:=by
 cases x with
 |str z =>
  obtain⟨t,rfl⟩:=r;cases(show T="str" from ty);exact⟨Y' s z t,λ_ e=>nomatch e⟩
 |int i =>
  obtain⟨t,rfl⟩:=r;cases(show T="int" from ty);exact⟨typeIs_int s i t,λ_ e=>nomatch e⟩
 |ref p =>
  cases r;rcases ty with⟨rfl,xs,hq⟩|⟨rfl,o,hk,hc,hd⟩|⟨rfl,hk⟩|⟨rfl,S,n,hk⟩
  ·obtain⟨A',_,pl,_⟩:=I.list hq;refine⟨pl.isList.typeIs,λa e=>?_⟩;cases e;obtain⟨o,n,e,c,hd,_⟩:=pl;exact⟨o,e,hd⟩
  ·refine⟨⟨o,I.JR p o hk,hc⟩,λa e=>?_⟩;cases e;exact⟨o,I.JR _ o hk,hd⟩
  ·have z:∃o,s.heap.get? p=UI o/\o.ExactDict:=by
    rcases hk with⟨kvs,hk⟩|⟨kvs,hk⟩
    ·obtain⟨_,_,_,_,o,_,_,e,ex,_⟩:=I.Ef p _ hk;exact⟨o,e,ex⟩
    ·obtain⟨_,_,_,_,o,_,_,e,ex,_⟩:=I.Ef p _ hk;exact⟨o,e,ex⟩
   obtain⟨o,e,ex⟩:=z;refine⟨⟨o,e,ex.1⟩,λa e2=>?_⟩;cases e2;exact⟨o,e,ex.2.1⟩
  ·obtain⟨o,_,_,_,e,ex,_⟩:=I.Ef p _ hk;refine⟨⟨o,e,ex.1⟩,λa e2=>?_⟩;cases e2;exact⟨o,e,ex.2.1⟩
 |_=>exact Xq ty
def QZ(K:PySem.W.Frag)(T:String)(r:V->List V->Hp->VK->Prop)(to:TE)(t:TA):TE:=λσ H Q=>to σ H λx H1=>Nj K T x H1/\t σ H1 λxs H2=>r x xs H2 Q
variable{o e:VO}{es:List VO}{to:TE}{t:TA}{name:Str}{apos Ec:Pos}{T id:String}{r:V->List V->Hp->VK->Prop}
theorem vg(pa:PlainAttrs T)(slot:Slot T name id)(Nk:Ι (.builtin id)=pure (.type "method_descriptor"))(hm:Ni X id r)(ho:PE X o to)(ha:PA X (e::es) t)
  (Hg:ZX o name X.env (Wo o X.env)=Wo o X.env:=by rfl)
  (Fu:((Ww Ec (Vf (e::es) X.env)).all (λx=>!x.1)&&(Yo Ec (Xe [] X.env)).all (λx=>x.1.isSome)
   && UP ((e::es).length+([]:List XT).length+(if ([]:List XT).isEmpty then 0 else 1)<30))=UN:=by rfl)
  (EJ:(apos.endLine==Ec.line)=UN:=by rfl) (hs:Vf (e::es) X.env=(UO,Wo e X.env)::Vf es X.env:=by rfl) (E_:(Ww Ec (Vf es X.env)).any (·.1)=UO:=by rfl) :
  PE X (.Call (.Attribute o name apos) (e::es) [] Ec) (QZ X.K T r to t):=by
 intro pins s σ H Q I h;refine ġ Hg Fu EJ rfl (Ej (ho pins s σ H _ I h) λv s1 ⟨x,H1,I1,r1,ty,q1⟩=>?_);obtain⟨h1,h2⟩:=qg I1 r1 ty;refine⟨T,id,pa,slot,Nk,h1,h2,?_⟩;have hA:=ha Ec pins s1 σ H1 _ I1 q1;rw[hs]at hA ⊢;refine WE (by show(UO||(Ww Ec (Vf es X.env)).any (·.1))=UO;rw[E_]<;>rfl) (Xo ?_);exact Ej hA λus s2 ⟨vs,H2,I2,r2,q2⟩=>hm pins s2 σ H2 x vs v us Q I2 r1 r2 q2
end
def Pn(X:Cx)(id:String)(r:V->List V->Hp->VK->Prop):Prop :=
 ∀(pins:List (U8×Obj)) (s:U1) (σ:St) (H:Hp) (x:V) (xs:List V) (v:UT) (us:List UT) (Q:VK),Inv X pins σ H s->RelV x v->Vals xs us->r x xs H Q ->
  UU (U6 X.prog X.w) X.A (X0 (.builtin id) (v::us)) (EP X pins σ Q) X.xe s
theorem Vals.one:∀{x:V}{us:List UT},Vals [x] us->∃u,us=[u]/\RelV x u
 |_,_,.cons r .nil=>⟨_,rfl,r⟩
section
theorem Inv.mM{A' its':List UT}(I:Inv X pins σ H s)(hH:H l=UI (.lst xs))
  (e:s.heap.get? l=UI {cls:=.type "list",data:=.seq A'.toArray n}) (hf:f A'.toArray=its'.toArray) (hv:Vals ys its') (hz:ys.length<=US) :
  Inv X pins σ (upd H l (.lst ys)) {s with heap:=s.heap.update l (VE f),toks:=t' }:=by
 have q:=PySem.IsL.update e f;rw[hf]at q;refine I.write (x:=l) (e:=l) (by rw[hH];exact trivial) (.inl rfl) (λb' u hb hu=>(XU s.heap (VE f) (VP hb)).trans hu) ⟨_,q⟩ ?_;exact⟨hz,its',_,hv,q⟩
theorem Inv.DV(I:Inv X pins σ H s)(hv:Vals ys A')(hz:ys.length<=US):
  Inv X pins σ (upd H s.heap.objs.size (.lst ys)) {s with heap:=s.heap.push {cls:=.type "list",data:=.seq A'.toArray},toks:=t' } :=
 I.laid (λ_ _ q=>UL _ q) (U_ _) ⟨hz,A',0,hv,UZ _ rfl⟩
theorem Inv.fresh(I:Inv X pins σ H s):H s.heap.objs.size=UK:=I.Ef.fresh (U_ _)
theorem Inv.CB(I:Inv X pins σ H s)(hH:H l=UI (.lst xs)):xs.length<=US/\∃(A':List UT) (n:Nat),Vals xs A'/\xs.length=A'.length/\s.heap.get? l=UI {cls:=.type "list",data:=.seq A'.toArray n}:=by
 obtain⟨z,A',n,r,e⟩:=I.Ef l _ hH;exact⟨z,A',n,r,r.length,e⟩
theorem vh(h:n<=US):WJ n=UO:=by
 unfold WJ;exact ζ ⋯
end
section
def yc:V->List V->Hp->VK->Prop:=λx vs H Q=>∃l xs y,x=.ref l/\vs=[y]/\H l=UI (.lst xs)/\xs.length<US/\Q .Es (upd H l (.lst (xs++[y])))
theorem lE:Pn X "list.append" yc:=by
 intro pins s σ H x vs v us Q I rx rv h;obtain⟨l,xs,y,rfl,rfl,hH,hz,q⟩:=h;cases rx;obtain⟨u,rfl,ru⟩:=rv.one;obtain⟨z,A',n,r,hl,e⟩:=I.CB hH;refine Ze F.slot_list_append ⟨_,e,rfl⟩ F.entry_list_append (F.args_list_append_2 _ _) (PySem.list_append l A'.toArray n u (by rw[U9];omega)) ⟨e,?_⟩;refine⟨.Es,_,I.mM (its':=A'++[u]) hH e (by simp) (r.append (.cons ru .nil)) ?_,rfl,q⟩;rw[U',YY];omega
end
section
set_option maxRecDepth 100000 in
end
section
end
end L2
namespace Po
open PySem PySem.W PySem.Calls PyProof.Rows
theorem jh:∀(ns:List Int) (vs:List UT),WellAll P h vs (ns.map ž)->ĭ vs ns:=by
 intro ns;induction ns with
 |nil =>
  intro vs w;rw[Wx]at w;cases w;exact .nil
 |cons n ns ih =>
  intro vs w;rw[U7]at w;cases w with
  |cons a b =>
   cases a;exact .cons _ _ (ih _ b)
theorem tI{l:OpenLaw}(hn:l.most=UI n)
  (HR:l.row.toRowW.claim.pre args=UN) (Hh:WellAll P h vals args) :
  ∃a vs ns,vals=[Vd a]/\args=[WData.list (ns.map ž)]/\h.get? a=UI {cls:=.type "list",data:=.seq vs.toArray}/\ĭ vs ns/\ns.length<=n:=by
 have Q0:WShape.hasAll [] args [.list .int]=UN:=(pre_splitW HR).1;have hc:l.pre.holds [] {args:=args}=UN:=(pre_splitW HR).2;obtain⟨d,r,rfl,h1,h2⟩:=hasAllW_cons Q0;obtain rfl:=hasAllW_nil h2;obtain⟨xs,rfl,h3⟩:=hasW_list h1;obtain⟨ns,rfl⟩:=items_int h3;have hlen:ns.length<=n:=by
  unfold OpenLaw.pre at hc;have h4:(WTm.not (.lt (.lit (.int (n:Int))) (.len (.arg 0)))).holds [] {args:=[.list (ns.map .int)]}=UN:=by
   have h4:=(holds_andW hc).1;rw[hn]at h4;exact h4
  have h5:=condW_of h4 (w_not (w_lt w_lit (w_len_list (w_arg rfl))));rw[UQ]at h5;refine Nat.le_of_not_lt λq=>?_;have q':(n:Int)<((ns.length:Nat):Int):=by omega
  first
   |(rw[η q']at h5;exact absurd h5 (by decide))
   |(simp at h5;omega)
 cases Hh with
 |cons w1 w2 =>
  cases w2;cases w1 with
  |list ho FQ=>exact⟨_,_,ns,rfl,rfl,ho,jh ns _ FQ,hlen⟩
theorem tJ(l:OpenLaw)(args:List WData):l.row.toRowW.claim.post args (.bool UN) args=UN :=
 postW_of (r:=l.row.toRowW) (X:=(UN==UN))
  (show Ť [] (.bool UN) .bool=UN by first|rfl|decide|simp[Ť,WShape.arms,WShape.armsAll])
  (show(WTm.eq .res (.lit (.bool UN))).value [] {args:=args,res:=UI (.bool UN),after:=args}=UI (.bool (UN==UN)) from w_eq_bool (w_res rfl) w_lit) rfl
theorem oq{l:OpenLaw}
  (hn:l.most=UI n) (Jc:d.params.defaults=[])
  (X0:∀(w:Wi) (s₀ s₁:U1) (mg mb:Str->Option UT) (fa:U8) (o:Obj) (pm cd doc:UT) (a:U8) (vs:List UT) (ns:List Int),
   Ground q loose [] XP w s₀ mg mb s₁.heap->YP w s₁.heap ->
   s₁.heap.get? fa=UI o->o.data=.func (docDef d.name d.params d.body d.scope pm cd doc)->s₁.heap.CodeRec cd d.name->mg d.name=UI (.ref fa) ->
   s₁.heap.get? a=UI {cls:=.type "list",data:=.seq vs.toArray}->ĭ vs ns->ns.length<=n->s₁.gens=#[] ->
   YS (U6 l.prog w) Zd (.call (.ref fa) ⟨[.ref a],[]⟩) (λr s'=>r=.ok (.ret (.bool UN))/\OldK s₁.heap s'.heap/\s'.os=s₁.os/\Zj s'.gens) s₁) :
  WalkO q loose XP YP l.row.toRowW d [] (λf vs=>PySem.call f vs):=by
 intro w s₀ s₁ mg mb G Y fa o pm cd doc dV kV ho hd EV hD Kv hg args vals as HR Q1 L9 Hh Uc;obtain rfl:dV=.none:=Dflts.none hD Jc;obtain rfl:kV=.none:=Dflts.noKw hD;obtain⟨a,vs,ns,rfl,rfl,Jd,hints,hlen⟩:=tI hn HR Hh;refine enter_call (Zc (X0 w s₀ s₁ mg mb fa o pm cd doc a vs ns G Y ho (fd_plain hd) EV Kv Jd hints hlen hg) λr s' hq=>?_);obtain⟨rfl,h2,h3,h4⟩:=hq;exact⟨.inl ⟨.bool UN,.bool UN,[],rfl,λ_=>rfl,.bool UN,tJ l _,λ_=>⟨ż,λ_ hm=>(nomatch hm)⟩⟩,h2,h3,h4⟩
section
end
end Po
namespace L2
open PySem PySem.Spec PyProof.Rows
theorem lF:∀{vs:List UT}{ns:List Int},ĭ vs ns->Vals (ns.map V.int) vs
 |_,_,.nil=>.nil
 |_,_,.cons n t h=>.cons ⟨t,rfl⟩ (lF h)
def AL(H:Hp):Prop:=∀b,H b=UK\/∃o xs,H b=UI (.Fs o (.lst xs))
theorem vi{K:PySem.W.Frag}
  (KX:K.In s₁.heap) (FH:s₁.heap.Ns V' mg) (hb:s₁.heap.Ns Zf mb) (Pp:∀x:Str,x≠"__name__"->mb x=Wh x) (Nl:s₁.heap.NoLimit) (hg:s₁.gens=#[])
  (ha:s₁.heap.get? a=UI {cls:=.type "list",data:=.seq vs.toArray}) (hi:ĭ vs ns) (hl:ns.length<=US) (hr:f7 k Zd)
  (F:∀base:Ws,K.In base->base.Ns V' mg->oj P w K mg base CX k fa fd [x] sp) (Kw:∀(s:U1) (u:UT),Ī s fd ⟨[u],[]⟩ [(x,u)])
  (Gw:∀H:Hp,AL H->EN K H a (ns.map V.int)->sp [.ref a] H (λv _=>v=.bl UN) λ_ _ _=>False)
  (Nm:∀H e s',CX [] H s₁ (λ_ _ _=>False) e s'->False) :
  YS (U6 P w) Zd (.call (.ref fa) ⟨[.ref a],[]⟩) (λr s'=>r=.ok (.ret (.bool UN))/\OldK s₁.heap s'.heap/\s'.os=s₁.os/\Zj s'.gens) s₁:=by
 have rv:=lF hi;have Nn:=hi.length;have core:∀H:Hp,AL H->EN K H a (ns.map V.int)->Fd P w H s₁.heap->(∀b,H b≠UK->b=a)->(H a≠UK->K.lookup a=UK) ->
   YS (U6 P w) Zd (.call (.ref fa) ⟨[.ref a],[]⟩) (λr s'=>r=.ok (.ret (.bool UN))/\OldK s₁.heap s'.heap/\s'.os=s₁.os/\Zj s'.gens) s₁:=by
  intro H hO hS Ef hA hK;have jx:∀{b:U8} {o:Obj},s₁.heap.get? b=UI o->H b=UK->(mC s₁.heap H).get? b=UI o:=λe n=>uS e n;have Kr:∀{b:U8} {o:Obj} {es:Array DictEntry} {ep:Nat},s₁.heap.get? b=UI o->o.data=.dict es ep->H b=UK:=λ{b o es ep} e d=>by
   cases q:H b with
   |none=>rfl
   |some u =>
    have e':b=a:=hA b (by rw[q];simp);subst e';rw[ha]at e;cases e;have d':Data.seq vs.toArray _=Data.dict es ep:=d;cases d'
  have L_:∀{b:U8} {m:Str->Option UT},s₁.heap.Ns b m->(mC s₁.heap H).Ns b m:=λ{b m} ⟨o,es,ep,e,d,r⟩=>⟨o,es,ep,jx e (Kr e d),d,r⟩
  have Pq:K.In (mC s₁.heap H):=λb o e=>jx (KX b o e) (by
   cases q:H b with
   |none=>rfl
   |some u =>
    have e':b=a:=hA b (by rw[q];simp);subst e';rw[hK (by rw[q];simp)]at e;cases e)
  have hM:Mod K mg (mC s₁.heap H):=⟨Pq,L_ FH,⟨mb,L_ hb,Pp⟩,let ⟨mc,h1,h2⟩:=Nl;⟨mc,L_ h1,h2⟩⟩
  have e0:xY P w K mg (mC s₁.heap H) Zd [] s₁ H:=⟨rfl,hM,λb o e=>xO e,ú (tv _ _),trivial,λb hb=>absurd (show b∈([]:List U8) from hb) (by simp),Ef,.of_eq hg⟩
  refine Zc ((F _ Pq (L_ FH)).run Zd [] s₁ H ⟨[.ref a],[]⟩ [.ref a] [.ref a] _ _ hr e0 (Kw s₁ (.ref a)) (.cons rfl .nil) (Gw H hO hS)) λr s' h=>?_;cases r with
  |error e=>exact(Nm H e s' h).elim
  |ok fl =>
   cases fl with
   |ret u =>
    obtain⟨v,H',os,bare,un,Np,r',q⟩:=h;have q':v=.bl UN:=q;subst q';obtain rfl:u=W0 UN:=r';refine⟨rfl,OldK.of_keep λb o e=>?_,os,bare⟩;cases q:H b with
    |none=>exact un.keep b o e q (by intro z;exact absurd (show b∈([]:List U8) from z) (by simp)) (by simp)
    |some u =>
     rcases hO b with z|⟨ob,xs,z⟩
     ·rw[q]at z;cases z
     ·have z2:=un.FG b ob _ z;obtain⟨e1,_⟩:=Ef b _ z;obtain⟨e2,_⟩:=Np b _ z2;rw[e]at e1;cases e1;exact e2
   |_=>exact Xq h
 cases hk:K.lookup a with
 |some o =>
  have e:=KX a o hk;rw[ha]at e;cases e;refine core (λ_=>UK) (λ_=>.inl rfl) (.inr ⟨_,vs.toArray,_,hk,rfl,rfl,rfl,by rw[U9,Nn];exact hl,by simpa using rv⟩) (λb u z=>by have z':(UK:Option HO)=UI u:=z;cases z') (λb z=>absurd rfl z) λz=>absurd rfl z
 |none =>
  refine core (λb=>if b=a then UI (.Fs {cls:=.type "list",data:=.seq vs.toArray} (.lst (ns.map V.int))) else UK) (λb=>?_) (.inl (.inr ⟨{cls:=.type "list",data:=.seq vs.toArray},δ rfl⟩)) (λb u z=>?_) (λb z=>?_) λ_=>hk
  ·by_cases hb:b=a
   ·exact .inr ⟨_,_,δ hb⟩
   ·exact .inl (ε hb)
  ·by_cases hb:b=a
   ·have z':=(δ hb).symm.trans z;cases z';subst hb;exact⟨ha,by rw[UQ];exact hl,vs,_,rv,ha⟩
   ·have z':=(ε hb).symm.trans z;cases z'
  ·by_cases hb:b=a
   ·exact hb
   ·exact absurd (ε hb) z
theorem yd{l:PySem.W.OpenLaw}{K:Ĩ->PySem.W.Frag}{CX:Wi->JT}{sp:Wi->Sp}
  (hn:l.most=UI n) (Q3:n<=US) (Jc:d.params.defaults=[]) (hr:f7 k Zd)
  (hY:∀(w:Wi) (h:Ws),YP w h->(K w.params).In h)
  (F:∀(w:Wi) (mg:Str->Option UT) (fa:U8) (h:Ws),(K w.params).In h->h.Ns V' mg->mg d.name=UI (.ref fa) ->
   ∃fd:Y4,(∀(s:U1) (u:UT),Ī s fd ⟨[u],[]⟩ [(x,u)]) /\
    ∀base:Ws,(K w.params).In base->base.Ns V' mg->oj l.prog w (K w.params) mg base (CX w) k fa fd [x] (sp w))
  (Gw:∀(w:Wi) (H:Hp) (a:U8) (ns:List Int),ns.length<=n->AL H->EN (K w.params) H a (ns.map V.int)->sp w [.ref a] H (λv _=>v=.bl UN) λ_ _ _=>False)
  (Nm:∀(w:Wi) (H:Hp) (s:U1) (e:UT) (s':U1),CX w [] H s (λ_ _ _=>False) e s'->False) :
  PySem.W.WalkO q loose XP YP l.row.toRowW d [] (λf vs=>PySem.call f vs):=by
 refine Po.oq hn Jc λw s₀ s₁ mg mb fa o pm cd doc a vs ns G Y ho hd EV Kv Jd hints hlen hg=>?_;have KX:=hY w _ Y;obtain⟨fd,hb,hF⟩:=F w mg fa _ KX G.T.g Kv;exact vi KX G.T.g G.T.b G.T.builtins G.T.nolimit hg Jd hints (VN hlen Q3) hr hF hb (λH hO hS=>Gw w H a ns hlen hO hS) λH e s'=>Nm w H s₁ e s'
noncomputable def fq(s:Ya):Arguments:=match s with
 |.FunctionDef _ a _ _ _ _ _ _ _ _=>a
 |_=>{posonlyargs:=[],args:=[],vararg:=UK,kwonlyargs:=[],kw_defaults:=[],kwarg:=UK,defaults:=[]}
noncomputable def cO(s:Ya):List Ya:=match s with
 |.FunctionDef _ _ b _ _ _ _ _ _ _=>b
 |_=>[]
noncomputable def aT(s:Ya):Xg:=match s with
 |.FunctionDef _ _ _ _ _ _ sc _ _ _=>sc
 |_=>{kind:=.function,names:=[],isGenerator:=UO,isCoroutine:=UO}
abbrev Iv:JT:=λ_ _ _ _ _ _=>False
abbrev E0:XK:=λ_ _ _=>False
theorem CC:Passes Iv X E0:=λ_ _ _ _ _ _ _ h=>h.elim
structure Je(K:PySem.W.Frag)(x qual:Str)(st:Ya)(f:U8)(fd:Y4):Prop where
 ex:∃(oc:UT) (od:Option U8) (kV doc pm:UT) (an:Option U8) (Ft ct:UT) (Ks:Array (Option UT)),
  fd=PySem.W.fnOf x qual (fq st) (cO st) (aT st) .none kV doc pm an Ft ct/\K.lookup f=UI ⟨oc,od,.func fd,Ks⟩/\PySem.W.codeIn K Ft qual=UN
 kp:PySem.W.keepIn K (.ref f)=UN
section
variable{P:VZ}{w:Wi}{K:PySem.W.Frag}{mg:Str->Option UT}{base:Ws}
theorem Je.ok{st:Ya}(F:Je K x qual st f fd)(S:dY N ps (aT st))(len:∀vs H Q E,sp vs H Q E->vs.length=ps.length)
  (Hd:∀(Ft:UT) (A:WZ) (outer:List Env) (s:U1) (H:Hp) (vs:List V) (Q:VK) (E:XK),f7 k (A.deeper (ZE qual (aT st) s.heap.objs.size f Ft))->sp vs H Q E ->
   ∃t,Ff (qc Iv P w K mg base N qual (aT st) f Ft A outer s H E).Km (cO st) t/\t {nx:=λ_ H'=>Q .Es H',rt:=Q} (start N vs) H):oj P w K mg base Iv (k+1) f fd ps sp:=by
 obtain⟨oc,od,kV,doc,pm,an,Ft,ct,Ks,rfl,lk,EV⟩:=F.ex;refine Cu lk EV S len λA outer s H vs Q E hr Gw=>?_;obtain⟨t,h,q⟩:=Hd Ft A outer s H vs Q E hr Gw;exact⟨t,h.Km,q⟩
theorem AM{st:Ya}{kV doc pm Ft ct:UT}(l:K.lookup f=UI ⟨oc,od,.func (PySem.W.fnOf x qual (fq st) (cO st) (aT st) .none kV doc pm an Ft ct),Ks⟩)
  (c:PySem.W.codeIn K Ft qual=UN) (k:PySem.W.keepIn K (.ref f)=UN):Je K x qual st f (PySem.W.fnOf x qual (fq st) (cO st) (aT st) .none kV doc pm an Ft ct):=⟨⟨oc,od,kV,doc,pm,an,Ft,ct,Ks,rfl,l,c⟩,k⟩
end
theorem tK(h:n<=1000):n<US:=XI h (by decide)
section
end
def AN(H H':Hp):Prop:=∀b o,H b=UI o->H' b=UI o
section
variable{κ:Type}[DecidableEq κ]
noncomputable def cW(kvs:List (κ×V))(k:κ):Option V:=(kvs.find? λkv=>UP (kv.1=k)).map (·.2)
noncomputable def putK(kvs:List (κ×V))(k:κ)(v:V):List (κ×V) :=
 if (kvs.any λkv=>UP (kv.1=k))=UN then kvs.map (λkv=>if kv.1=k then(kv.1,v) else kv) else kvs++[(k,v)]
theorem dJ{p:κ×V}{k:κ}(e:p.1=k):cW (p::r) k=UI p.2:=by simp[cW,Xb,e]
theorem dM{p:κ×V}{k:κ}(e:¬p.1=k):cW (p::r) k=cW r k:=by simp[cW,Xb,e]
theorem gG(k:κ):∀kvs:List (κ×V),(kvs.any λkv=>UP (kv.1=k))=(cW kvs k).isSome
 |[]=>rfl
 |p::r=>by
  rw[Zs];by_cases e:p.1=k
  ·simp only[dJ e,η e,Bool.true_or,Option.isSome_some]
  ·rw[dM e,ζ e,Bool.false_or];exact gG k r
theorem iU(kvs:List (κ×V))(k:κ)(v:V):(putK kvs k v).length<=kvs.length+1:=by
 unfold putK;split
 ·rw[UQ];omega
 ·rw[U',Vj,YU];omega
theorem vj{k:κ}(v:V)(h:cW kvs k=UK):putK kvs k v=kvs++[(k,v)]:=by
 unfold putK;rw[gG,h];exact ε (by decide)
theorem jg.dN(r:jg o u):o.isSome=u.isSome:=by
 cases o with
 |none=>cases u with
  |none=>rfl
  |some _=>exact(show False from r).elim
 |some _=>cases u with
  |none=>exact(show False from r).elim
  |some _=>rfl
theorem jg.getD(r:jg o u)(rd:RelV d d'):RelV (o.getD d) (u.getD d'):=by
 cases o with
 |none=>cases u with
  |none=>exact rd
  |some _=>exact(show False from r).elim
 |some _=>cases u with
  |none=>exact(show False from r).elim
  |some _=>exact r
theorem KV.val(r:KV kvs vs)(k:κ):jg (cW kvs k) (Z' vs k):=by
 unfold KV at r;induction r with
 |nil=>exact Zv
 |@cons p q ps qs h t ih =>
  obtain⟨h1,h2⟩:=h;by_cases e:p.1=k
  ·have e':q.1=k:=h1.symm.trans e;have b:Z' (q::qs) k=UI q.2:=by simp[Z',Xb,e']
   rw[dJ e,b];exact h2
  ·have e':¬q.1=k:=λz=>e (h1.trans z);have b:Z' (q::qs) k=Z' qs k:=by simp[Z',Xb,e']
   rw[dM e,b];exact ih
theorem KV.any(r:KV kvs vs)(k:κ):(kvs.any λkv=>UP (kv.1=k))=vs.any λkv=>UP (kv.1=k):=by
 unfold KV at r;induction r with
 |nil=>rfl
 |cons h t ih=>rw[Zs,Zs,ih,h.1]
theorem KV.AO(r:KV kvs vs)(k:κ)(ry:RelV y u):
  KV (kvs.map λkv=>if kv.1=k then(kv.1,y) else kv) (vs.map λkv=>if kv.1=k then(kv.1,u) else kv):=by
 unfold KV at r ⊢;induction r with
 |nil=>exact .nil
 |@cons p q ps qs h t ih =>
  rw[U7,U7];refine .cons ?_ ih;obtain⟨h1,h2⟩:=h;by_cases e:p.1=k
  ·rw[δ e,δ (h1.symm.trans e)];exact⟨h1,ry⟩
  ·rw[ε e,ε (λz=>e (h1.trans z))];exact⟨h1,h2⟩
theorem KV.put(r:KV kvs vs)(k:κ)(ry:RelV y u):KV (putK kvs k y) (stored vs k u):=by
 unfold putK stored;rw[r.any k];by_cases e:(vs.any λkv=>UP (kv.1=k))=UN
 ·rw[δ e,δ e];exact r.AO k ry
 ·rw[ε e,ε e];exact Paired.snoc r ⟨rfl,ry⟩
theorem KV.length(r:KV kvs vs):kvs.length=vs.length:=Paired.length r
end
theorem lG(r:RelV (kV k) u):(aO P w).is k u=UN:=by
 cases k with
 |inl i=>obtain⟨t,e⟩:=(show ∃t,u=ĥ i t from r);subst e;exact n_ P w i t
 |inr x=>obtain⟨t,e⟩:=(show ∃t,u=VF x t from r);subst e;exact og P w x t
theorem lH:∀{ks:List Key}{us:List UT},Vals (ks.map kV) us->ItemsAre (aO P w) ks us
 |[],_,r=>by rw[Wx]at r;cases r;exact .nil
 |k::ks,_,r=>by
  rw[U7]at r;cases r with
  |cons h t=>exact .cons (lG h) (lH t)
abbrev KT(H:Hp):List (List Key×V)->List (List Key×U8×UT)->Prop:=Paired λp q=>p.1=q.1/\H q.2.1=UI (.tup (p.1.map kV))/\RelV p.2 q.2.2
theorem KT.val(r:KT H kvs xs)(k:List Key):jg (cW kvs k) ((ZA xs k).map (·.2)):=by
 induction r with
 |nil=>exact Zv
 |@cons p q ps qs h t ih =>
  obtain⟨h1,_,h2⟩:=h;by_cases e:p.1=k
  ·have e':q.1=k:=h1.symm.trans e;have b:ZA (q::qs) k=UI q.2:=by simp[ZA,Xb,e']
   rw[dJ e,b];exact h2
  ·have e':¬q.1=k:=λz=>e (h1.trans z);have b:ZA (q::qs) k=ZA qs k:=by simp[ZA,Xb,e']
   rw[dM e,b];exact ih
theorem KT.AO(r:KT H kvs xs)(k:List Key)(ry:RelV y u):
  KT H (kvs.map λkv=>if kv.1=k then(kv.1,y) else kv) (xs.map (putAt k u)):=by
 induction r with
 |nil=>exact .nil
 |@cons p q ps qs h t ih =>
  rw[U7,U7];refine .cons ?_ ih;obtain⟨h1,h2,h3⟩:=h;unfold putAt;by_cases e:p.1=k
  ·rw[δ e,δ (h1.symm.trans e)];exact⟨h1,h2,ry⟩
  ·rw[ε e,ε (λz=>e (h1.trans z))];exact⟨h1,h2,h3⟩
theorem KT.put(r:KT H kvs xs)(k:List Key)(hb:H b=UI (.tup (k.map kV)))(ry:RelV y u):
  KT H (putK kvs k y) (storedH xs k b u):=by
 have e:(kvs.any λkv=>UP (kv.1=k))=(ZA xs k).isSome:=by
  rw[gG,(r.val k).dN,Yx]
 unfold putK storedH;rw[e];by_cases q:(ZA xs k).isSome=UN
 ·rw[δ q,δ q];exact r.AO k ry
 ·rw[ε q,ε q];exact Paired.snoc r ⟨rfl,hb,ry⟩
theorem KT.keeps(r:KT H kvs xs)(ht:∀b ys,H b=UI (.tup ys)->H' b=UI (.tup ys)):KT H' kvs xs :=
 Paired.Am r λ_ _ z=>⟨z.1,ht _ _ z.2.1,z.2.2⟩
section
theorem zH(ok:Fd P w H h)(e:Rd H a u):bq P w H h a u:=e.ok ok
theorem jO(ok:Fd P w H h)(e:Rd H a (.dK kvs)):kvs.length<=US/\(a==Wl)=UO/\∃vs,KV kvs vs/\h.DictOf (aO P w) a vs :=
 show bq P w H h a (.dK kvs) from zH ok e
theorem zI(ok:Fd P w H h)(e:H a=UI (.dK kvs)):kvs.length<=US/\(a==Wl)=UO/\∃vs,KV kvs vs/\h.DictOf (aO P w) a vs:=jO ok (.inl e)
theorem iy(ok:Fd P w H h)(e:H a=UI (.tup (ks.map kV))):(ZI (aO P w)).is h ks a:=by
 obtain⟨_,A',r,o,h1,h2,n,h3⟩:=(show bq P w H h a (.tup (ks.map kV)) from ok a _ e)
 exact⟨o,A'.toArray,n,h1,h2,h3,by simpa using lH r⟩
theorem jP(ok:Fd P w H h)(e:Rd H a (.dT kvs)):kvs.length<=US/\(a==Wl)=UO /\
  ∃xs,KT H kvs xs/\h.DictOfH (ZI (aO P w)) a xs:=by
 obtain⟨z,y,xs,r,o,es,ep,h1,h2,h3,h4,h5⟩:=(show bq P w H h a (.dT kvs) from zH ok e)
 refine⟨z,y,xs,r,o,es,ep,h1,h2,h3,h4,λx hx=>?_,h5⟩;have all:∀{l:List (List Key×V)} {m:List (List Key×U8×UT)},KT H l m->∀x∈m,(ZI (aO P w)).is h x.1 x.2.1:=by
  intro l m q;induction q with
  |nil=>intro x hx;exact nomatch hx
  |@cons p q ps qs hq t ih =>
   intro x hx;rcases U2.mp hx with e|hx
   ·subst e;exact iy ok (by rw[<-hq.1];exact hq.2.1)
   ·exact ih x hx
 exact all r x hx
theorem CD(ok:Fd P w H h)(e:H a=UI (.dT kvs)):kvs.length<=US/\(a==Wl)=UO /\
  ∃xs,KT H kvs xs/\h.DictOfH (ZI (aO P w)) a xs:=jP ok (.inl e)
end
def dF(H:Hp)(a:U8)(y:V)(r:Option V):Prop :=
 (∃kvs k,Rd H a (.dK kvs)/\y=kV k/\r=cW kvs k)\/∃kvs k b,Rd H a (.dT kvs)/\y=.ref b/\H b=UI (.tup (k.map kV))/\r=cW kvs k
def tL(H:Hp)(a:U8)(y v:V)(H':Hp):Prop :=
 (∃kvs k,H a=UI (.dK kvs)/\y=kV k/\kvs.length<US/\H'=upd H a (.dK (putK kvs k v))) \/
 ∃kvs k b,H a=UI (.dT kvs)/\y=.ref b/\H b=UI (.tup (k.map kV))/\kvs.length<US/\H'=upd H a (.dT (putK kvs k v))
theorem dF.k{H:Hp}{a:U8}{kvs:List (Key×V)}{k:Key}(e:H a=UI (.dK kvs)):dF H a (kV k) (cW kvs k):=.inl ⟨kvs,k,.inl e,rfl,rfl⟩
theorem tL.k{H:Hp}{a:U8}{kvs:List (Key×V)}{k:Key}{v:V}(e:H a=UI (.dK kvs))(hl:kvs.length<US):tL H a (kV k) v (upd H a (.dK (putK kvs k v))):=.inl ⟨kvs,k,e,rfl,hl,rfl⟩
section
theorem Inv.big(I:Inv X pins σ H s):Wl<s.heap.objs.size:=by
 have h:V'<s.heap.objs.size:=(I.mod.glob.keeps I.bk).lt;exact ZS (by decide) h
theorem tM(hu:A.units+1<Wa)(I:Inv X pins σ H s)(g:dF H a y (UI v))(ry:RelV y u)(h:∀w' s',Inv X pins σ H s'->RelV v w'->Q w' s'):
  UU (U6 X.prog X.w) A (YF (.ref a) u) Q E s:=by
 rcases g with⟨kvs,k,e,ey,l⟩|⟨kvs,k,b,e,ey,eb,l⟩
 ·subst ey;obtain⟨z,hd,vs,rel,dd⟩:=jO I.Ef e;obtain⟨w',hw,GK⟩:=jg.some_of (v:=v) (o:=Z' vs k) (by rw[l];exact rel.val k);exact wpAny_getItem_of (lG ry) dd.mapOf hw (h w' _ (I.tok _) GK)
 ·subst ey;cases(show u=Vd b from ry);obtain⟨z,hd,xs,rel,dd⟩:=jP I.Ef e;obtain⟨w',hw,GK⟩:=jg.some_of (v:=v) (o:=(ZA xs k).map (·.2)) (by rw[l];exact rel.val k);obtain⟨p,hp,Nq⟩:=U3.mp hw;refine wpAny_getItem_heap (XW hu) (iy I.Ef eb) dd hp ?_;rw[Nq];exact h w' _ (I.tok _) GK
theorem CF(hu:A.units+1<Wa)(I:Inv X pins σ H s)(g:dF H a y o)(ry:RelV y u)(h:∀s',Inv X pins σ H s'->Q (.bool o.isSome) s'):
  UU (U6 X.prog X.w) A (Xr .In u (.ref a)) Q E s:=by
 rcases g with⟨kvs,k,e,ey,l⟩|⟨kvs,k,b,e,ey,eb,l⟩
 ·subst ey;obtain⟨z,hd,vs,rel,dd⟩:=jO I.Ef e;refine wpAny_in_of (lG ry) hd dd.mapOf ?_;rw[<-(rel.val k).dN,<-l];exact h _ (I.tok _)
 ·subst ey;cases(show u=Vd b from ry);obtain⟨z,hd,xs,rel,dd⟩:=jP I.Ef e;refine wpAny_in_heap (XW hu) (iy I.Ef eb) hd dd ?_;have q:=(rel.val k).dN;rw[Yx]at q;rw[<-q,<-l];exact h _ (I.tok _)
theorem rD(hu:A.units+1<Wa)(I:Inv X pins σ H s)(g:dF H a y o)(ry:RelV y u)(h:∀s',Inv X pins σ H s'->Q (.bool (!o.isSome)) s'):
  UU (U6 X.prog X.w) A (Xr .NotIn u (.ref a)) Q E s:=by
 rcases g with⟨kvs,k,e,ey,l⟩|⟨kvs,k,b,e,ey,eb,l⟩
 ·subst ey;obtain⟨z,hd,vs,rel,dd⟩:=jO I.Ef e;refine wpAny_notIn_of (lG ry) hd dd.mapOf ?_;rw[<-(rel.val k).dN,<-l];exact h _ (I.tok _)
 ·subst ey;cases(show u=Vd b from ry);obtain⟨z,hd,xs,rel,dd⟩:=jP I.Ef e;refine Ź (XW hu) (iy I.Ef eb) hd dd ?_;have q:=(rel.val k).dN;rw[Yx]at q;rw[<-q,<-l];exact h _ (I.tok _)
theorem rE(I:Inv X pins σ H s)(mu:Kh (H a))(hs:Vz a s.heap h')(he:∃q,h'.get? a=UI q)(new:bq X.prog X.w (upd H a ob) h' a ob):
  Inv X pins σ (upd H a ob) {s with heap:=h',toks:=t' } :=
 I.write (x:=a) (e:=a) mu (.inl rfl) (λb q hb z=>(hs.2 b hb).trans z) he new
theorem AQ(z:kvs.length<=US)(hd:(a==Wl)=UO)(rel:KV kvs vs)(dd:h'.DictOf (aO P w) a vs):
  bq P w H' h' a (.dK kvs):=⟨z,hd,vs,rel,dd⟩
theorem tN(hu:A.units+1<Wa)(I:Inv X pins σ H s)(g:tL H a y v H')(ry:RelV y u)(rv:RelV v r)(h:∀s',Inv X pins σ H' s'->Q () s'):
  UU (U6 X.prog X.w) A (Za (.ref a) u r) Q E s:=by
 rcases g with⟨kvs,k,e,ey,l,eH⟩|⟨kvs,k,b,e,ey,eb,l,eH⟩
 ·subst ey eH;obtain⟨z,hd,vs,rel,dd⟩:=zI I.Ef e;have hz:vs.length<=US:=by rw[<-rel.length];exact z
  have hl:(putK kvs k v).length<=US:=by have:=iU kvs k v;omega
  refine wpAny_setItem_pairs (hsz:=hz) (lG ry) dd λh' Ma hs=>h _ ?_;have he:∃q,h'.get? a=UI q:=let ⟨q,_,_,hq,_⟩:=Ma;⟨q,hq⟩;exact rE I (by rw[e];exact Zv) hs he (AQ hl hd (rel.put k rv) Ma)
 ·subst ey eH;cases(show u=Vd b from ry);obtain⟨z,hd,xs,rel,dd⟩:=CD I.Ef e;have hz:xs.length<=US:=by rw[<-Paired.length rel];exact z
  have hl:(putK kvs k v).length<=US:=by have:=iU kvs k v;omega
  refine ō (hsz:=hz) (XW hu) (iy I.Ef eb) dd λh' Ma hs=>h _ ?_;obtain⟨q,es,ep,hq,h2,h3,h4,_,h5⟩:=Ma;refine rE I (by rw[e];exact Zv) hs ⟨q,hq⟩ ⟨hl,hd,_,(rel.put k eb rv).keeps λc ys ec=>?_,q,es,ep,hq,h2,h3,h4,h5⟩;rw[ak (uR ec e (λz=>nomatch z))];exact ec
end
section
end
def AR(i:VO):Prop:=∀ov iv,Ý i UO ov iv=operate [ov,iv] (YF ov iv)
theorem ye{T id:String}
  (hl:Ő (.type T) "__getitem__"=pure (UI (.builtin id))) (hs:AR slice)
  (h:UU (U6 prog w) A (Wo value env) (λo s₁=>UU (U6 prog w) A (Wo slice env) (λi s₂=>s₂.TypeIs o T/\UU (U6 prog w) A (YF o i) Q E s₂) E s₁) E s) :
  UU (U6 prog w) A (Wo (.Subscript value slice pos) env) Q E s:=by
 refine Ř (VS h (λo s₁ h₁=>VS h₁ (λi s₂ h₂=>?_) λ_ _ x=>x) λ_ _ x=>x);obtain⟨hT,h₂⟩:=h₂;unfold ZY;refine UJ ?_;rw[getitemInPython_of_ne hT.not_modules];refine UJ (XR hT hl ?_);have fin:UU (U6 prog w) A (Ý slice UO o i) (λr s₃=>UU (U6 prog w) A (letTemporaryGo value o r >>= λ_=>pure r) Q E s₃) E s₂:=by
  rw[hs o i];exact wpAny_operating (VS h₂ (λr s₃ h₃=>UJ (wpAny_letTemporaryGo (UM h₃))) λ_ _ x=>x)
 first
  |exact UM (UJ fin)
  |exact UJ (UM (UJ fin))
  |exact UJ fin
theorem ot(I:Inv X pins σ H s)(g:dF H a y o):s.TypeIs (.ref a) "dict":=by
 rcases g with⟨kvs,k,e,_,_⟩|⟨kvs,k,b,e,_,_,_⟩
 ·obtain⟨_,_,vs,_,dd⟩:=jO I.Ef e;exact dd.typeIs
 ·obtain⟨_,_,xs,_,dd⟩:=jP I.Ef e;exact dd.typeIs
def CG(td ty:TE):TE:=λσ H Q=>td σ H λx H1=>ty σ H1 λy H2=>∃a v,x=.ref a/\dF H2 a y (UI v)/\Q v H2
def DW(ty td:TE):TE:=λσ H Q=>ty σ H λy H1=>td σ H1 λx H2=>∃a o,x=.ref a/\dF H2 a y o/\Q (.bl o.isSome) H2
def yf(ty td:TE):TE:=λσ H Q=>ty σ H λy H1=>td σ H1 λx H2=>∃a o,x=.ref a/\dF H2 a y o/\Q (.bl (!o.isSome)) H2
section
theorem yg(hu:X.A.units+1<Wa)(ho:PE X o td)(hi:PE X i ty)(hs:AR i):PE X (.Subscript o i pos) (CG td ty):=by
 intro pins s σ H Q I h;refine ye PySem.F.slot_dict_getitem.lookup hs (Ej (ho pins s σ H _ I h) λu s1 ⟨x,H1,I1,rx,q1⟩=>Ej (hi pins s1 σ H1 _ I1 q1) λiv s2 ⟨y,H2,I2,ry,a,v,ex,g,q2⟩=>?_);subst ex;obtain rfl:u=Vd a:=rx;exact⟨ot I2 g,tM hu I2 g ry λw' s3 I3 GK=>⟨v,H2,I3,GK,q2⟩⟩
theorem vk(hu:X.A.units+1<Wa)(hi:PE X i ty)(ho:PE X o td):PC X .In i o (DW ty td):=by
 intro pins s σ H Q I h;refine Ej (hi pins s σ H _ I h) λiv s1 ⟨y,H1,I1,ry,q1⟩=>Ej (ho pins s1 σ H1 _ I1 q1) λu s2 ⟨x,H2,I2,rx,a,ov,ex,g,q2⟩=>?_;subst ex;obtain rfl:u=Vd a:=rx;exact CF hu I2 g ry λs3 I3=>⟨.bl ov.isSome,H2,I3,rfl,q2⟩
theorem lI(hu:X.A.units+1<Wa)(hi:PE X i ty)(ho:PE X o td):PC X .NotIn i o (yf ty td):=by
 intro pins s σ H Q I h;refine Ej (hi pins s σ H _ I h) λiv s1 ⟨y,H1,I1,ry,q1⟩=>Ej (ho pins s1 σ H1 _ I1 q1) λu s2 ⟨x,H2,I2,rx,a,ov,ex,g,q2⟩=>?_;subst ex;obtain rfl:u=Vd a:=rx;exact rD hu I2 g ry λs3 I3=>⟨.bl (!ov.isSome),H2,I3,rfl,q2⟩
end
theorem vm(h:Ws)(hb:Wl<h.objs.size):bq P w H (h.push {cls:=.type "dict",data:=.dict #[]}) h.objs.size (.dK []) :=
 ⟨Vo _,beq_eq_false_iff_ne.mpr (VP (U5 hb)),[],.nil,Τ h⟩
def AS:TE:=λ_ H Q=>∀p,H p=UK->Q (.ref p) (upd H p (.dK []))
section
theorem ou:PE X (.Dict [] [] pos) AS:=λpins s σ H Q I h =>
 ű ⟨.ref s.heap.objs.size,_,I.laid (a:=s.heap.objs.size) (o:=.dK []) (t':=s.toks) (λ_ _ q=>UL _ q) (U_ _) (vm s.heap I.big),rfl,h _ (I.Ef.fresh (U_ _))⟩
end
structure M2(X:Cx)(o:VO)(m:Str)(apos:Pos)(e f:VO)(Ec:Pos):Prop where
 base:ZX o m X.env (Wo o X.env)=Wo o X.env
 GZ:((Ww Ec (Vf [e,f] X.env)).all (λx=>!x.1)&&(Yo Ec (Xe [] X.env)).all (λx=>x.1.isSome)
  && UP (([e,f]:List VO).length+([]:List XT).length+(if ([]:List XT).isEmpty then 0 else 1)<30))=UN
 line:(apos.endLine==Ec.line)=UN
 trees:Ww Ec (Vf [e,f] X.env)=[(UO,Wo e X.env),(UO,Wo f X.env)]
def Pt(H:Hp)(a:U8):Prop:=(∃kvs,Rd H a (.dK kvs))\/∃kvs,Rd H a (.dT kvs)
theorem AU(I:Inv X pins σ H s)(d:Pt H a):
  s.TypeIs (.ref a) "dict"/\(∀b,Vd a=.ref b->∃ob,s.heap.get? b=UI ob/\ob.dict=UK)/\(a==Wl)=UO:=by
 rcases d with⟨kvs,e⟩|⟨kvs,e⟩
 ·obtain⟨_,hd,vs,_,dd⟩:=jO I.Ef e;refine⟨dd.typeIs,λb q=>?_,hd⟩;cases q;obtain⟨ob,_,_,h1,h2,_⟩:=dd;exact⟨ob,h1,h2.2.1⟩
 ·obtain⟨_,hd,xs,_,dd⟩:=jP I.Ef e;refine⟨dd.typeIs,λb q=>?_,hd⟩;cases q;obtain⟨ob,_,_,h1,h2,_⟩:=dd;exact⟨ob,h1,h2.2.1⟩
section
theorem AV(hu:A.units+1<Wa)(I:Inv X pins σ H s)(g:dF H a y o)(ry:RelV y u)(rd:RelV d r)(h:∀w' s',Inv X pins σ H s'->RelV (o.getD d) w'->Q w' s'):
  UU (U6 X.prog X.w) A (X0 (.builtin "dict.get") [.ref a,u,r]) Q E s:=by
 rcases g with⟨kvs,k,e,ey,l⟩|⟨kvs,k,b,e,ey,eb,l⟩
 ·subst ey;obtain⟨z,hd,vs,rel,dd⟩:=jO I.Ef e;refine É PySem.F.slot_dict_get dd.typeIs PySem.F.entry_dict_get (PySem.F.args_dict_get_3 _ _ _) (meets_dict_get_default (aO X.prog X.w) a (lG ry) hd r) ⟨_,dd.mapOf,h _ _ (I.tok _) ?_⟩;rw[l];exact(rel.val k).getD rd
 ·subst ey;cases(show u=Vd b from ry);obtain⟨z,hd,xs,rel,dd⟩:=jP I.Ef e;refine É PySem.F.slot_dict_get dd.typeIs PySem.F.entry_dict_get (PySem.F.args_dict_get_3 _ _ _) (meetsH_dict_get_default (ZI (aO X.prog X.w)) a b hd r) ⟨XW hu,k,xs,iy I.Ef eb,dd,h _ _ (I.tok _) ?_⟩;rw[l];exact(rel.val k).getD rd
end
def AW(td ty tx:TE):TE:=λσ H Q=>td σ H λx H1=>∃a,x=.ref a/\Pt H1 a/\ty σ H1 λy H2=>tx σ H2 λz H3=>∃o,dF H3 a y o/\Q (o.getD z) H3
section
theorem vn(hu:X.A.units+1<Wa)(ho:PE X o td)(he:PE X e ty)(hf:PE X f tx)(m:M2 X o "get" apos e f Ec):PE X (.Call (.Attribute o "get" apos) [e,f] [] Ec) (AW td ty tx):=by
 intro pins s σ H Q I h;refine wpAny_Call_method m.base m.GZ m.line PySem.F.plainAttrs_dict PySem.F.slot_dict_get PySem.F.type_dict_get (Ej (ho pins s σ H _ I h) λu s1 ⟨x,H1,I1,rx,a,ex,d,q1⟩=>?_);subst ex;obtain rfl:u=Vd a:=rx;obtain⟨t1,t2,_⟩:=AU I1 d;refine⟨t1,t2,?_⟩;rw[m.trees];refine WE rfl (Xo (XE (Ej (he pins s1 σ H1 _ I1 q1) λiv s2 ⟨y,H2,I2,ry,q2⟩ =>
  XE (Ej (hf pins s2 σ H2 _ I2 q2) λfv s3 ⟨z,H3,I3,rz,ov,g,q3⟩=>YC ?_))))
 exact AV hu I3 g ry rz λw' s4 I4 GK=>⟨_,H3,I4,GK,q3⟩
end
section
end
section
end
end L2
namespace EO
open PySem PySem.Builtin.Str PySem.StrLaws
noncomputable def low(c:Nat):Bool:=UP (97<=c)&&UP (c<=122)
noncomputable def eJ(l:List Nat):Bool:=UP (1<=l.length)&&UP (l.length<=8)&&l.all low
theorem cE(l:List Nat):eJ l=UN↔1<=l.length/\l.length<=8/\∀c∈l,97<=c/\c<=122:=by
 simp[eJ,low,VA,and_assoc]
theorem ox(h:eJ l=UN):47∉l:=λm=>by
 have:=((cE l).mp h).2.2 47 m;omega
theorem yh{x y:Str}(h:x.cps.toList=y.cps.toList):x=y:=by
 cases x;cases y;congr
 exact ı.mp h
theorem mN(x:Str)(c i:Nat):At x ⟨#[c]⟩ x.length i↔x.cps.toList[i]?=UI c:=subAt_one x c i
theorem AX(h:x.cps.toList=a++c::b)(hn:c∉a)(limit:Nat)(hl:1<=limit):∃r,W9 x ⟨#[c]⟩ 0 x.length limit=a.length::r:=by
 have Fm:x.cps.toList[a.length]?=UI c:=by rw[h];simp
 rcases occ_head x ⟨#[c]⟩ limit hl with⟨_,GY⟩|⟨i,r,e,hi,Nr⟩
 ·exact absurd ((mN x c a.length).mpr Fm) (GY _)
 ·have e1:=(mN x c i).mp hi;have:i=a.length:=by
   rcases Nat.lt_trichotomy i a.length with z|z|z
   ·exfalso
    rw[h,VY z]at e1;exact hn (Vt e1)
   ·exact z
   ·exact absurd ((mN x c a.length).mpr Fm) (Nr _ z)
  subst this;exact⟨r,e⟩
theorem qh(h:c∉x.cps.toList):XO x ⟨#[c]⟩=[x]:=by
 unfold XO;split
 ·rfl
 ·rw[δ];rcases occ_head x ⟨#[c]⟩ (x.length+1) ⋯ with⟨e,_⟩|⟨i,r,e,hi,_⟩
  ·rw[e];rfl
  ·exact absurd (Vt ((mN x c i).mp hi)) h
theorem oy(c:Nat)(h:c<256)(x:Str):¬(PySem.Builtin.Str.strKind x<PySem.Builtin.Str.strKind ⟨#[c]⟩):=by
 have e:PySem.Builtin.Str.strKind ⟨#[c]⟩=1:=by simp[PySem.Builtin.Str.strKind,h]
 rw[e];unfold PySem.Builtin.Str.strKind;split
 ·omega
 ·split<;>omega
theorem vp(h:x.cps.toList=a++c::b)(hn:c∉a)(hc:c<256):∃r,XO x ⟨#[c]⟩=⟨a.toArray⟩::r:=by
 obtain⟨r,e⟩:=AX h hn (x.length+1) ⋯;have l1:(⟨#[c]⟩:Str).length=1:=rfl;have lx:x.length=a.length+1+b.length:=by
  have:=θ VX h;simp[Ö]at this ⊢;omega
 unfold XO;rw[ε (by
  have h1:¬(x.length<(⟨#[c]⟩:Str).length):=by rw[l1];omega
  have h2:=oy c hc x;simp[h1,h2]),ε (by rw[e];simp),partsBetween_eq,e]
 refine⟨_,θ (·::_) ?_⟩;apply yh;rw[strSub_toList,h];simp
noncomputable def tP(i:Int):Str:=W7 (Y0 i)
noncomputable def zJ:Str:=⟨#[47]⟩
end EO
namespace L2
open PySem PySem.Spec PyProof.Rows
noncomputable def bt(env:Env):List (Str×XC)->List (Str×U8)->List (Str×U8)
 |[],cs=>cs
 |(n,k)::r,cs=>bt env r (if k==.free then(match env.cells.lookup n with|some a=>(n,a)::cs|none=>cs) else cs)
theorem dO(h:∀y∈scope.names,y.2=.free->∃a,env.cells.lookup y.1=UI a):closureFor scope env=pure (bt env scope.names []):=by
 unfold closureFor;generalize scope.names=names at h
 suffices H:∀cs,(Ŭ names cs (λ(x:Str×XC) (r:List (Str×U8))=>if (x.2==W2)=UN then do let a <-cellOf env x.1;pure (Xx ((x.1,a)::r)) else pure (Xx r)):Sem (List (Str×U8)))=pure (bt env names cs) by
  have:=H [];exact θ (λ(m:Sem (List (Str×U8)))=>m >>= pure) this
 induction names with
 |nil=>intro cs;rfl
 |cons y r ih =>
  intro cs;obtain⟨n,k⟩:=y;rw[Yd];have Pu:=ih λy hy=>h y (Vx _ hy);by_cases hk:(k==W2)=UN
  ·obtain⟨a,ha⟩:=h (n,k) Vr (by simpa using hk);have Q4:env.cells.lookup n=UI a:=ha;simp only[hk,μ,cellOf,Q4,bt];exact Pu _
  ·simp only[hk,ι,bt];exact Pu _
theorem dZ:∀(names:List (Str×XC)) (cs:List (Str×U8)),(∀n c,cs.lookup n=UI c->env.cells.lookup n=UI c)->∀n c,(bt env names cs).lookup n=UI c->env.cells.lookup n=UI c
 |[],_,h=>h
 |(m,k)::r,cs,h=>by
  unfold bt;refine dZ r _ λn c e=>?_;by_cases hk:(k==W2)=UN
  ·rw[δ hk]at e;cases q:env.cells.lookup m with
   |none=>rw[q]at e;exact h n c e
   |some a =>
    rw[q]at e;simp only[VQ]at e;cases hx:n==m with
    |true =>
     rw[hx]at e;have e':n=m:=by simpa using hx
     subst e';simp only at e;rw[q];exact e
    |false=>rw[hx]at e;exact h n c e
  ·rw[ε hk]at e;exact h n c e
theorem iV(ha:env.cells.lookup n=UI a):∀(names:List (Str×XC)) (cs:List (Str×U8)),cs.lookup n=UI a->(bt env names cs).lookup n=UI a
 |[],_,h=>h
 |(m,k)::r,cs,h=>by
  unfold bt;refine iV ha r _ ?_;by_cases hk:(k==W2)=UN
  ·rw[δ hk];cases q:env.cells.lookup m with
   |none=>exact h
   |some b =>
    simp only[VQ];cases hx:n==m with
    |true =>
     have e':n=m:=by simpa using hx
     subst e';rw[ha]at q;cases q;rfl
    |false=>exact h
  ·rw[ε hk];exact h
theorem f9(ha:env.cells.lookup n=UI a):∀(names:List (Str×XC)) (cs:List (Str×U8)),(n,W2)∈names->(bt env names cs).lookup n=UI a
 |[],_,h=>by cases h
 |(m,k)::r,cs,h=>by
  unfold bt;rcases U2.mp h with e|e
  ·cases e;refine iV ha r _ ?_;rw[δ (by decide),ha];simp[VQ]
  ·exact f9 ha r _ e
theorem bH{env:Env}:∀{names:List (Str×XC)}{x:Str}{k:XC},
  (names.map λ(n,k)=>if (k==W2&&env.scope.kind==.function&&env.kindOf n==UI .cell) then(n,NameKind.cell) else(n,k)).lookup x=UI k ->
  names.lookup x=UI k\/(k=.cell/\names.lookup x=UI .free)
 |[],_,_,h=>by simp at h
 |(n,k0)::r,x,k,h=>by
  have ih:=@bH env r x k;rw[U7]at h;by_cases hc:(k0==W2&&env.scope.kind==.function&&env.kindOf n==UI .cell)=UN
  ·simp only[δ hc,VQ]at h;cases hx:x==n with
   |true =>
    rw[hx]at h;have hf:k0=.free:=by
     have:=(WQ.mp (WQ.mp hc).1).1;simpa using this
    refine .inr ⟨by simpa using h.symm,by simp[VQ,hx,hf]⟩
   |false =>
    rw[hx]at h;rcases ih h with z|⟨z1,z2⟩
    ·exact .inl (by simp[VQ,hx,z])
    ·exact .inr ⟨z1,by simp[VQ,hx,z2]⟩
  ·simp only[ε hc,VQ]at h;cases hx:x==n with
   |true=>rw[hx]at h;exact .inl (by simpa[VQ,hx] using h)
   |false =>
    rw[hx]at h;rcases ih h with z|⟨z1,z2⟩
    ·exact .inl (by simp[VQ,hx,z])
    ·exact .inr ⟨z1,by simp[VQ,hx,z2]⟩
noncomputable def Fb(X:Cx)(N:List Str)(scope:Xg)(C:U8)(s:U1)(H:Hp)(ex:List U8):Cx where
 prog:=X.prog
 w:=X.w
 K:=X.K
 mg:=X.mg
 base:=X.base
 A:=X.A
 N:=N
 s₀:=s
 H₀:=H
 env:=È scope (bt X.env scope.names []) C X.env
 outer:=X.stack
 stack:=X.stack
 ex:=ex
 fn:=λ_=>UO
 calm:=X.calm
 pn:=[]
 xe:=λ_ _=>False
def dG(D N:List Str):Prop:=D.length=N.length/\∀(i:Nat) (y:Str),D[i]?=UI y->N[i]?=UI y\/y="."\/y=".."
theorem dG.refl(N:List Str):dG N N:=⟨rfl,λ_ _ h=>.inl h⟩
theorem dG.set{D N:List Str}(h:dG D N)(j:Nat){m:Str}(hm:m="."\/m=".."):dG (D.set j m) N:=by
 refine⟨by rw[ņ];exact h.1,λi y e=>?_⟩;by_cases hj:j=i
 ·subst hj;rw[List.getElem?_set,δ rfl]at e;split at e
  ·cases e;exact .inr hm
  ·cases e
 ·rw[Vh hj]at e;exact h.2 i y e
structure de(X:Cx)(N own:List Str)(scope:Xg):Prop where
 kind:scope.kind=.function
 Gf:∀y∈scope.names,y.2≠.cell
 names:∀y∈scope.names,y.2=.local->scope.names.lookup y.1=UI .local
 nd:N.Nodup
 pre:N.take own.length=own
 loc:∀y∈scope.names,y.2=.local->y.1∈own\/y.1=".0"
 Q5:(".0":Str)∉N
 tail:dG (N.drop own.length) X.N
 free:∀y∈scope.names,y.2=.free->X.env.scope.names.lookup y.1=UI .cell\/X.env.scope.names.lookup y.1=UI .free
 dot:∀y∈scope.names,y.1≠"."/\y.1≠".."
theorem mem_lookup{names:List (Str×XC)}(h:names.lookup x=UI k):(x,k)∈names:=PySem.mem_of_lookup h
theorem de.cells(S:de X N own scope)(ok:X.Ok):∀y∈scope.names,y.2=.free->∃a,X.env.cells.lookup y.1=UI a:=λy hy hf=>by
 rcases S.free y hy hf with z|z
 ·exact ok.has y.1 (.inl z)
 ·exact ok.has y.1 (.inr z)
theorem vq(S:de X N own scope)(I:Inv X pins σ H s)
  (hC:s.heap.objs.size<=C) (He:s4.os=s.os) (hg:s4.gens=s.gens) (keep:∀b o,s.heap.get? b=UI o->s4.heap.get? b=UI o) (ns:∃m,s4.heap.Ns C m)
  (hex:∀b∈ex,gD X pins H b/\b<s.heap.objs.size):Inv (Fb X N scope C s H ex) [] (Vk own.length UK++σ) H s4:=by
 obtain⟨m0,Kx⟩:=ns;have sub:=dZ (env:=X.env) scope.names [] (λn c e=>by simp at e);have Nt:∀b∈ex,b<C:=λb hb=>Vg (hex b hb).2 hC;have tl:own.length<=N.length:=by have:=θ VX S.pre;rw[V9]at this;omega
 refine⟨⟨I.ok.mod,?_,I.ok.glob,I.ok.blt,hC,λx y c h1 h2=>I.ok.inj x y c (sub x c h1) (sub y c h2),λx hx=>?_,λx c h _=>absurd (show UO=UN from h) (by decide),I.ok.hd,I.ok.frames,.inl rfl,λb hb=>⟨U5 (Nt b hb),λx c e=>?_⟩,λb o e=>I.bs b o e,?_,λb o e hb=>?_,λb hb=>?_,I.stack,I.rp⟩,
  He,(by rw[hg];exact I.bare),Un.kept keep,⟨m0,Kx,λi y v h1 h2 h3=>?_⟩,λx c e=>?_,I.Ef.fresh hC,λx c e=>I.EW x c (sub x c e),λp hp=>absurd (show p∈([]:List (U8×Obj)) from hp) (by simp),I.Ef.kept keep,?_⟩
 ·show(Zb scope X.env).kind=.function;exact S.kind
 ·
  have Ky:(Zb scope X.env).names.lookup x=UI .cell\/(Zb scope X.env).names.lookup x=UI .free:=hx;have E1:scope.names.lookup x=UI .free:=by
   rcases Ky with z|z
   ·rcases bH z with q|⟨_,q⟩
    ·exact absurd rfl (S.Gf _ (mem_lookup q))
    ·exact q
   ·rcases bH z with q|⟨q,_⟩
    ·exact q
    ·cases q
  obtain⟨a,ha⟩:=S.cells I.ok (x,.free) (mem_lookup E1) rfl;exact⟨a,f9 ha scope.names [] (mem_lookup E1)⟩
 ·exact(hex b hb).1.2.2.2.2.1 x c (sub x c e)
 ·exact VN I.ok.Im I.sz
 ·obtain⟨f0,f1,f2,f3,f4,f5⟩:=(hex b hb).1;rcases f3 with z|z
  ·exact I.ok.Ha b o e z
  ·exact absurd (Vg (UY e) (VN I.ok.Im z)) (V8 _)
 ·intro Fx;obtain⟨f0,f1,f2,f3,f4,f5⟩:=(hex b hb).1;rcases U2.mp (I.jD b Fx) with z|z
  ·exact f1 z
  ·exact f2 z
 ·
  have hi:own.length<=i:=by
   by_cases hi:i<own.length
   ·rw[VY (by simpa using hi),WX]at h2;split at h2<;>cases h2
   ·omega
  rw[VH (by simpa using hi),X3]at h2;have Q6:(N.drop own.length)[i - own.length]?=UI y:=by
   rw[WL];have e:own.length+(i - own.length)=i:=by omega
   rw[e];exact h1
  have JV:(Zb scope X.env).names.lookup y=UI .local\/(Zb scope X.env).names.lookup y=UI .cell\/(Zb scope X.env).names.lookup y=UI .free:=h3;have E1:scope.names.lookup y=UI .free:=by
   rcases JV with z|z|z
   ·rcases bH z with q|⟨q,_⟩
    ·exfalso
     have FR:y∈own:=by
      rcases S.loc (y,.local) (mem_lookup q) rfl with z|z
      ·exact z
      ·have z':y=".0":=z;exact absurd (Vt h1) (by rw[z'];exact S.Q5)
     obtain⟨j,hj,ej⟩:=Yk FR;have Mb:N[j]?=UI y:=by
      have e1:(N.take own.length)[j]?=UI y:=by rw[S.pre,V2 hj,ej]
      rw[á hj]at e1;exact e1
     have:=jE S.nd Mb h1;omega
    ·cases q
   ·rcases bH z with q|⟨_,q⟩
    ·exact absurd rfl (S.Gf _ (mem_lookup q))
    ·exact q
   ·rcases bH z with q|⟨q,_⟩
    ·exact q
    ·cases q
  have hX:X.N[i - own.length]?=UI y:=by
   rcases S.tail.2 _ _ Q6 with e|e|e
   ·exact e
   ·exact absurd e (S.dot _ (mem_lookup E1)).1
   ·exact absurd e (S.dot _ (mem_lookup E1)).2
  obtain⟨m,hn,hl⟩:=I.loc;have hv:X.env.scope.names.lookup y=UI .cell\/X.env.scope.names.lookup y=UI .free:=S.free (y,.free) (mem_lookup E1) rfl;obtain⟨u,r,l⟩:=hl _ y v hX h2 (.inr hv);refine⟨u,r,?_⟩;rcases l with⟨k,_⟩|⟨k,c,e,z⟩
  ·have k':X.env.scope.names.lookup y=UI .local:=k;rcases hv with q|q<;>(rw[k']at q;cases q)
  ·have hk:(Zb scope X.env).names.lookup y=UI .cell\/(Zb scope X.env).names.lookup y=UI .free:=by
    rcases JV with q|q|q
    ·rcases bH q with q'|⟨q',_⟩
     ·rw[E1]at q';cases q'
     ·cases q'
    ·exact .inl q
    ·exact .inr q
   obtain⟨o,ho,hd⟩:=z;exact .inr ⟨hk,c,f9 e scope.names [] (mem_lookup E1),o,keep c o ho,hd⟩
 ·obtain⟨v,o,ho,hd⟩:=I.cell x c (sub x c e);exact⟨v,o,keep c o ho,hd⟩
 ·rw[U',X3,I.len];have e:N.length=own.length+(N.drop own.length).length:=by rw[Z2];omega
  show _=N.length;rw[e,S.tail.1]
theorem oz(I:Inv X pins σ H s)
  (I4:Inv (Fb X N scope C s H ex) Ip σ' H4 s4) (hD:s.heap.objs.size<=D) (hC:s.heap.objs.size<=C) (Nu:D≠C) (nD:H4 D=UK) (rv:Vals ys A') (pl:s4.heap.PlainList D A'.toArray) (hl:ys.length<=US)
  (sb:Vz C s4.heap h') (hex:∀b∈ex,gD X pins H b):Inv X pins σ (upd H4 D (.lst ys)) {s4 with heap:=h' }:=by
 have nC:H4 C=UK:=I4.free;have lt:∀{b:U8} {o:Obj},s.heap.get? b=UI o->b≠C/\b≠D:=λe=>⟨U5 (Vg (UY e) hC),U5 (Vg (UY e) hD)⟩
 refine I.B6 (s':={s4 with heap:=h' }) (ch:=ex) I4.os ⟨λb o e n hb hx=>?_,λb o e n hb hx=>?_,λb o e n hx=>?_,λb o e hx=>?_,λb xs e=>?_,λb o u e=>?_,λb ps e=>?_⟩ (λa o e=>?_) I4.bare λb hb=>?_
 ·exact(sb.2 b (lt e).1).trans (I4.base.keep b o e n hb hx)
 ·obtain⟨sl,q⟩:=I4.base.slot b o e n hb hx;exact⟨sl,(sb.2 b (lt e).1).trans q⟩
 ·rw[ak (lt e).2];exact I4.base.free b o e n hx
 ·obtain⟨o',q⟩:=I4.base.there b o e hx;exact⟨o',(sb.2 b (lt e).1).trans q⟩
 ·have q:=I4.base.jl b xs e;rw[ak (bw q nD)];exact q
 ·have q:=I4.base.FG b o u e;rw[ak (bw q nD)];exact q
 ·obtain⟨more,q⟩:=I4.base.FN b ps e;exact⟨more,by rw[ak (bw q nD)];exact q⟩
 ·by_cases ha:a=D
  ·subst ha;rw[au]at e;cases e;obtain⟨n,q⟩:=pl;exact⟨hl,A',n,rv,(sb.2 _ Nu).trans q⟩
  ·rw[ak ha]at e;refine(I4.Ef a o e).fY (λc v hc q=>(sb.2 c ?_).trans q) (λc q=>?_) λc xs q=>?_
   ·rintro rfl;rcases hc with z|z
    ·rw[<-z,nC]at e;cases e
    ·rw[nC]at z;cases z
   ·rw[ak (bw q nD)];exact q
   ·rw[ak (bw q nD)];exact q
 ·obtain⟨f0,f1,f2,f3,f4,f5⟩:=hex b hb;exact⟨f3,f1,f4,f5⟩
section
theorem mO(I:Nat->U1->Prop)
  (turn:∀n s,I n s->UU (U6 prog w) A (Yj it) (λr s₁=>match r with
   |none=>R (.ok .next) s₁
   |some v=>UU (U6 prog w) A (Zn target it v) (λ_ s₁=>UU (U6 prog w) A (YK target env v) (λ_ s₂ =>
     UU (U6 prog w) A (Ŭ ifs UN λc r=>if r=UN then do let ok <-isTrue c env (Wo c env);pure (Xx ok) else pure (Xx r)) (λok s₃ =>
      if ok=UN then UU (U6 prog w) A (Wo elt env) (λx s₄ =>
       UU (U6 prog w) A (X0 (.builtin "list.append") [acc,x]) (λ_ s₅=>∃m,m<n/\I m s₅) (ZJ (U6 prog w) A env λe s'=>R (.error e) s') s₄) (ZJ (U6 prog w) A env λe s'=>R (.error e) s') s₃
      else ∃m,m<n/\I m s₃) (ZJ (U6 prog w) A env λe s'=>R (.error e) s') s₂) (ZJ (U6 prog w) A env λe s'=>R (.error e) s') s₁) (ZJ (U6 prog w) A env λe s'=>R (.error e) s') s₁) (ZJ (U6 prog w) A env λe s'=>R (.error e) s') s)
  (n:Nat) (h:I n s) :
  YS (U6 prog w) A (.compLoop (.ListComp elt [⟨target,iter,ifs,0⟩] scope pos) 0 it acc env) R s:=by
 refine codeAny_loop rfl I (λn s hI=>?_) n h;show UU _ A ((compTurn (.ListComp elt [⟨target,iter,ifs,0⟩] scope pos) 0 it acc env).onRaise (λx=>do noteFrame x env;theTreesLotGoes x)) _ _ s;refine wpAny_noted ?_;rw[compTurn_list];refine UJ (Ĉ (UJ (VS (turn n s hI) (λr s₁ h₁=>?_) λ_ _ h'=>h')));cases r with
 |none=>exact UM h₁
 |some v =>
  refine UJ (VS h₁ (λ_ Ud Q7=>?_) λ_ _ h'=>h');refine UJ (VS Q7 (λ_ s₂ h₂=>UJ (VS h₂ (λok s₃ h₃=>?_) λ_ _ h'=>h')) λ_ _ h'=>h');cases ok with
  |false=>exact UM ⟨rfl,h₃⟩
  |true =>
   exact UJ (UJ (VS h₃ (λx s₄ h₄=>UJ (VS h₄ (λ_ s₅ h₅=>UM (UM ⟨rfl,h₅⟩)) λ_ _ h'=>h')) λ_ _ h'=>h'))
end
def HF(X:Cx)(ifs:List VO)(t:TT):Prop :=
 ∀(pins:List (U8×Obj)) (s:U1) (σ:St) (H:Hp) (Q:Bool->Hp->Prop),Inv X pins σ H s->t σ H Q ->
  UU (U6 X.prog X.w) X.A (Ŭ ifs UN λc r=>if r=UN then do let ok <-isTrue c X.env (Wo c X.env);pure (Xx ok) else pure (Xx r)) (TP X pins σ Q) X.xe s
def DX:TT:=λ_ H Q=>Q UN H
theorem mP:HF X [] DX:=λ_ _ _ H _ I h=>wpAny_tests_nil ⟨H,I,h⟩
theorem rF(h:PT X c t):HF X [c] t:=λpins s σ H Q I q=>wpAny_tests_one (h pins s σ H Q I q)
def rG(k:Nat)(J:It)(g:TG)(tt:TT)(te:TE)(Q:VK)(σ:St)(H1:Hp):Prop :=
  ∃W:Nat->Nat->List V->Hp->Prop,(∃m,W 0 m [] H1)/\∀i m ys H,W i m ys H->ys.length<=US /\
    ((J.stop i H/\∀p,H p=UK->Q (.ref p) (upd H p (.lst ys))) \/
     (J.go i H/\∃NN:List V->Hp->Prop,(∀FL H',NN FL H'->∃m',m'<m/\W (i+1) m' FL H')/\∀x H',J.L4 i H x H'->g x (Vk k UK++σ) H' λσ2 H2=>∃own:St,own.length=k/\σ2=own++σ /\
        tt σ2 H2 λb H3=>if b=UN then te σ2 H3 λy H4=>NN (ys++[y]) H4 else NN ys H3))
def vt(k:Nat)(wi:TI)(g:TG)(tt:TT)(te:TE):TE:=λσ H Q=>wi σ H λJ H1=>rG k J g tt te Q σ H1
section
theorem vv
  (S:de X N own scope) (hc:X.calm=UN) (hg:∀C s H ex,PG (Fb X N scope C s H ex) tg g) (hf:∀C s H ex,HF (Fb X N scope C s H ex) ifs tt) (he:∀C s H ex,PE (Fb X N scope C s H ex) elt te)
  (I:Inv X pins σ H s) (T:Turn X.prog X.w X.K tg J fp it tn) (st:tn 0 s.heap) (f2:∀b∈fp,gD X pins H b) (W:rG own.length J g tt te Q σ H)
  (hD:@Eq Nat D s.heap.objs.size) (hC:@Eq Nat C (s.heap.objs.size+1)) (He:s4.os=s.os) (Q8:s4.gens=s.gens) (keep:∀b o,s.heap.get? b=UI o->s4.heap.get? b=UI o) (ns:∃m,s4.heap.Ns C m) (pl:s4.heap.PlainList D #[])
  (fin:∀s5 H5 ys A',Inv (Fb X N scope C s H fp) [] (Vk own.length UK++σ) H5 s5->H5 D=UK->Vals ys A'->s5.heap.PlainList D A'.toArray->ys.length<=US->(∀p,H5 p=UK->Q (.ref p) (upd H5 p (.lst ys)))->R (.ok .next) s5) :
  YS (U6 X.prog X.w) X.A (.compStart (.ListComp elt [⟨tg,iter,ifs,0⟩] scope pos) 0 (.ref it) (.ref D) (È scope (bt X.env scope.names []) C X.env)) R s4:=by
 have HS:∀b∈fp,@Xw Nat _ b s.heap.objs.size:=λb hb=>by
  obtain⟨o,e,_⟩:=T.obj 0 s.heap st b hb;exact UY e
 have I4:Inv (Fb X N scope C s H fp) [] (Vk own.length UK++σ) H s4:=vq S I ⋯ He Q8 keep ns λb hb=>⟨f2 b hb,HS b hb⟩
 have JW:tn 0 s4.heap:=T.keep 0 s.heap s4.heap st λb _ o e=>keep b o e;have nD:H D=UK:=I.Ef.fresh ⋯;obtain⟨W,⟨m0,w0⟩,Ļ⟩:=W;generalize Gg:Fb X N scope C s H fp=X' at I4 fin;have eP:X'.prog=X.prog:=by rw[<-Gg];rfl
 have ew:X'.w=X.w:=by rw[<-Gg];rfl
 have eK:X'.K=X.K:=by rw[<-Gg];rfl
 have ec:X'.calm=UN:=by rw[<-Gg];exact hc
 have eA:X'.A=X.A:=by rw[<-Gg];rfl
 have ee:X'.env=È scope (bt X.env scope.names []) C X.env:=by rw[<-Gg];rfl
 have Nv:X'.xe=λ_ _=>False:=by rw[<-Gg];rfl
 have el:X'.env.locals=C:=by rw[ee];rfl
 have Nw:PG X' tg g:=by rw[<-Gg];exact hg _ _ _ _
 have Ny:HF X' ifs tt:=by rw[<-Gg];exact hf _ _ _ _
 have Nz:PE X' elt te:=by rw[<-Gg];exact he _ _ _ _
 have s0:X'.s₀=s:=by rw[<-Gg];rfl
 have Kz:X'.pn=[]:=by rw[<-Gg];rfl
 have NA:∀{H':Hp} {o:Obj},(∀b∈fp,H' b=UK)->∀b∈fp,gD X' [(D,o)] H' b:=λ{H' o} hn b hb=>by
  have ex:X'.ex=fp:=by rw[<-Gg];rfl
  refine⟨hn b hb,?_,?_,.inl (by rw[ex];exact hb),λx c e=>?_,λp hp=>?_⟩
  ·rw[el];have:=HS b hb;exact U5 (by show @Xw Nat _ b C;omega)
  ·have e1:X'.fs=Gv X.stack:=by rw[<-Gg];rfl
   rw[e1];intro z;obtain⟨f0,f1,Q9,f3,f4,f5⟩:=f2 b hb;rcases U2.mp (I.jD b z) with q|q
   ·exact f1 q
   ·exact Q9 q
  ·have e1:X'.env.cells=bt X.env scope.names []:=by rw[ee];rfl
   rw[e1]at e;exact(f2 b hb).2.2.2.2.1 x c (dZ scope.names [] (λn c e=>by simp at e) x c e)
  ·rw[Kz,Vb]at hp;have:p=(D,o):=by simpa using hp
   subst this;have:=HS b hb;exact VV (by show @Xw Nat _ b D;omega)
 have NB:∀{σ':St} {H':Hp} {s':U1} {o:Obj},Inv X' [] σ' H' s'->H' D=UK->s'.heap.get? D=UI o->(∀v,o.data≠.cell v)->Inv X' [(D,o)] σ' H' s':=λ{σ' H' s' o} I' n e d =>
  I'.dy λp hp=>by
   have:p=(D,o):=by simpa using hp
   subst this;refine⟨e,n,?_,?_,d⟩
   ·rw[el];exact U5 (by show @Xw Nat _ D C;omega)
   ·have e1:X'.fs=Gv X.stack:=by rw[<-Gg];rfl
    rw[e1];intro z;have zz:(D:U8)∈Gv X.stack:=z;rcases U2.mp (I.jD D zz) with q|q
    ·have:=I.lt;rw[<-q]at this;exact absurd this (by show ¬@Xw Nat _ D s.heap.objs.size;omega)
    ·exact I.An (a:=D) ⋯ q
 have start:∀s':U1,s'=s4->YS (U6 X.prog X.w) X.A (.compLoop (.ListComp elt [⟨tg,iter,ifs,0⟩] scope pos) 0 (.ref it) (.ref D) (È scope (bt X.env scope.names []) C X.env)) R s':=by
  rintro s' rfl;refine mO (λn s'=>∃i ys A' H',Inv X' [] (Vk own.length UK++σ) H' s'/\tn i s'.heap/\(∀b∈fp,H' b=UK)/\H' D=UK/\Vals ys A'/\s'.heap.PlainList D A'.toArray/\W i n ys H') ?_ m0
   ⟨0,[],[],H,I4,JW,λb hb=>(f2 b hb).1,nD,.nil,pl,w0⟩
  rintro n s3 ⟨i,ys,A',H3,I3,st3,Kp,Pw,Mc,⟨nn,Q_⟩,w3⟩;obtain⟨hlen,Gy⟩:=Ļ i n ys H3 w3;have IP:=NB I3 Pw Q_ (λv z=>by have z':Data.seq _ _=ç v:=z;cases z');rcases Gy with⟨stop,qn⟩|⟨go,NN,Px,turn⟩
  ·have d:=T.done X' eP ew eK ec i _ s3 _ H3 (ZJ (U6 X.prog X.w) X.A (È scope (bt X.env scope.names []) C X.env) λe s'=>R (.error e) s') IP (NA Kp) st3 stop;rw[eA]at d;refine Ej d λr s4 ⟨hr,I5⟩=>?_;subst hr;have e5:=(I5.pin (D,({cls:=.type "list",data:=.seq A'.toArray nn}:Obj)) (by rw[Kz];simp)).1;exact fin s4 H3 ys A' (I5.dy λp hp=>by cases hp) Pw Mc ⟨nn,e5⟩ hlen qn
  ·have d:=T.item X' eP ew eK ec i _ s3 _ H3 (ZJ (U6 X.prog X.w) X.A (È scope (bt X.env scope.names []) C X.env) λe s'=>R (.error e) s') IP (NA Kp) st3 go;rw[eA]at d;refine Ej d λr s4 ⟨u,hr,h4⟩=>?_;subst hr;refine Ej h4 λ_ s5 ⟨x,H5,I5,r5,y5,GX,Nb⟩=>?_;have Ue:H5 D=UK:=(I5.pin (D,({cls:=.type "list",data:=.seq A'.toArray nn}:Obj)) (by rw[Kz];simp)).2.1;have Nc:=I5.pinned (NA Nb) (T.obj _ _ GX);have a6:=Nw _ s5 _ H5 x u _ Nc r5 (turn x H5 y5);rw[eP,ew,eA,ee,Nv]at a6;refine VS a6 (λ_ s6 ⟨σ6,H6,I6,q6⟩=>?_) λ_ _ z=>Xq z;obtain⟨ow,how,rfl,q6⟩:=q6;have a7:=Ny _ s6 _ H6 _ I6 q6;rw[eP,ew,eA,ee,Nv]at a7;refine VS a7 (λb s7 ⟨H7,I7,q7⟩=>?_) λ_ _ z=>Xq z;have back:∀{s8:U1} {H8:Hp} {FL:List V} {its':List UT} {nn':Nat},Inv X' [] (ow++σ) H8 s8->tn (i+1) s8.heap->(∀b∈fp,H8 b=UK)->H8 D=UK->Vals FL its'->s8.heap.PlainList D its'.toArray->(∃m',m'<n/\W (i+1) m' FL H8) ->
     ∃m,m<n/\∃i ys A' H',Inv X' [] (Vk own.length UK++σ) H' s8/\tn i s8.heap/\(∀b∈fp,H' b=UK)/\H' D=UK/\Vals ys A'/\s8.heap.PlainList D A'.toArray/\W i m ys H':=λ{s8 H8 FL its' nn'} I8 Ra Rb n8 Rc Rf w8=>by
    obtain⟨m',hm,w8⟩:=w8;refine⟨m',hm,i+1,FL,its',H8,I8.weak (by simp[how]) (λj v e=>?_),Ra,Rb,n8,Rc,Rf,w8⟩;by_cases hj:j<own.length
    ·rw[VY (by simpa using hj),WX]at e;split at e<;>cases e
    ·rw[VH (by simpa using(Nat.not_lt.mp hj)),X3]at e;rw[VH ⋯,how];exact e
   have tell:∀{σ':St} {H8:Hp} {s8:U1},Inv X' ([(D,({cls:=.type "list",data:=.seq A'.toArray nn}:Obj))]++jH fp s5.heap) σ' H8 s8->s8.heap.get? D=UI {cls:=.type "list",data:=.seq A'.toArray nn}/\H8 D=UK/\tn (i+1) s8.heap/\∀b∈fp,H8 b=UK:=λ{σ' H8 s8} I8=>by
    have p1:=I8.pin (D,({cls:=.type "list",data:=.seq A'.toArray nn}:Obj)) (by rw[Kz];simp);refine⟨p1.1,p1.2.1,T.keep _ _ _ GX λb hb o e=>(I8.pin (b,o) (Vu _ (Vu _ (dX hb e)))).1,λb hb=>?_⟩;obtain⟨o,e,d⟩:=T.obj _ _ GX b hb;exact(I8.pin (b,o) (Vu _ (Vu _ (dX hb e)))).2.1
   cases b with
   |false =>
    rw[ε Vw]at q7 ⊢;obtain⟨p1,p2,p3,p4⟩:=tell I7;exact back (nn':=0) (I7.dy λp hp=>by cases hp) p3 p4 p2 Mc ⟨nn,p1⟩ (Px _ _ q7)
   |true =>
    rw[δ rfl]at q7 ⊢;have a8:=Nz _ s7 _ H7 _ I7 q7;rw[eP,ew,eA,ee,Nv]at a8;refine VS a8 (λy s8 ⟨yv,H8,I8,r8,q8⟩=>?_) λ_ _ z=>Xq z;obtain⟨p1,p2,p3,p4⟩:=tell I8;have hsz:A'.toArray.size<=US:=by rw[U9,<-Mc.length];exact hlen
    refine wpAny_list_append_plain (hsz:=hsz) ⟨nn,p1⟩ λh9 Rg Py=>?_;have Rh:Inv X' [] (ow++σ) H8 s8:=I8.dy λp hp=>by cases hp
    have Md:∀x c,X'.env.cells.lookup x=UI c->c≠D:=λx c e=>by
     have e1:X'.env.cells=bt X.env scope.names []:=by rw[ee];rfl
     rw[e1]at e;have q:=dZ scope.names [] (λn c e=>by simp at e) x c e;obtain⟨v,z⟩:=I.cell x c q;have:@Xw Nat _ c s.heap.objs.size:=z.lt;exact U5 (by show @Xw Nat _ c D;omega)
    have I9:Inv X' [] (ow++σ) H8 {s8 with heap:=h9,toks:=s8.toks}:=Rh.turned (it:=D) (λb o hb e=>(Py.2 b hb).trans e) p2 (by rw[el];exact U5 (by show @Xw Nat _ D C;omega)) (.inr (by rw[s0];show @ū Nat _ s.heap.objs.size D;omega)) Md (λp hp=>by rw[Kz]at hp;cases hp);have Ri:(A'++[y]).toArray=A'.toArray.push y:=by simp
    refine back (nn':=0) (s8:={s8 with heap:=h9,toks:=s8.toks}) I9 (T.keep _ _ _ p3 λb hb o e=>(Py.2 b ?_).trans e) p4 p2 (Mc.append (.cons r8 .nil)) (by rw[Ri];exact Rg) (Px _ _ q8);have:=HS b hb;exact U5 (by show @Xw Nat _ b D;omega)
 exact codeAny_compStart_list (start _ rfl) (T.self _ _ _ _ _ JW (start _ rfl))
theorem jQ{RR:UT->U8->Result->U1->Prop}
    (S:de X N own scope) (hc:X.calm=UN) (hg:∀C s H ex,PG (Fb X N scope C s H ex) tg g) (hf:∀C s H ex,HF (Fb X N scope C s H ex) ifs tt) (he:∀C s H ex,PE (Fb X N scope C s H ex) elt te)
 (I:Inv X pins σ H s) (T:Turn X.prog X.w X.K tg J fp it tn) (st:tn 0 s.heap) (f2:∀b∈fp,gD X pins H b) (W:rG own.length J g tt te Q σ H)
    (fin:∀D C s5 H5 ys A',@Eq Nat D s.heap.objs.size->@Eq Nat C (s.heap.objs.size+1)->Inv (Fb X N scope C s H fp) [] (Vk own.length UK++σ) H5 s5->H5 D=UK->Vals ys A'->s5.heap.PlainList D A'.toArray->ys.length<=US->(∀p,H5 p=UK->Q (.ref p) (upd H5 p (.lst ys)))->RR (.ref D) C (.ok .next) s5) :
    UU (U6 X.prog X.w) X.A (š []) (λacc s₃=>UU (U6 X.prog X.w) X.A (newFunctionEnv scope X.env.globals (bt X.env scope.names []) [] X.env.qual UK .none (UI X.env)) (λKA s₄ =>
      YS (U6 X.prog X.w) X.A (.compStart (.ListComp elt [⟨tg,iter,ifs,0⟩] scope pos) 0 (.ref it) acc {KA with scope:=Zb scope X.env}) (RR acc KA.locals) s₄) E s₃) E s:=by
  refine VL (wpAny_newFunctionEnv S.Gf (by intro y hy;simp at hy) (λh₁ Jf HU=>?_) S.kind)
  dsimp only at Jf HU ⊢
  generalize NC:s.heap.push {cls:=.type "list",dict:=UK,data:=.seq ([]:List UT).toArray}=H2 at Jf HU ⊢;have hC:H2.objs.size=s.heap.objs.size+1:=by rw[<-NC,Y5]
  have Nu:s.heap.objs.size≠H2.objs.size:=by rw[hC];exact U5 (YQ _)
  have below:∀b:U8,b<s.heap.objs.size->b≠H2.objs.size:=λb hb=>U5 (by have Fx:@Xw Nat _ b s.heap.objs.size:=hb;show @Xw Nat _ b H2.objs.size;omega);have old:∀b o,s.heap.get? b=UI o->h₁.get? b=UI o:=λb o e=>HU.extBut b o (below b (UY e)) (UL _ (NC▸UL _ e));have HV:h₁.PlainList s.heap.objs.size #[]:=⟨_,HU.extBut _ _ Nu (UL _ (NC▸UZ _ rfl))⟩
  exact vv (s:=s) (s4:={s with heap:=h₁,toks:=s.toks+([]:List (Str×UT)).length}) (C:=H2.objs.size) (D:=s.heap.objs.size) S hc hg hf he I T st f2 W rfl hC rfl rfl old ⟨_,Jf⟩ HV
    λs5 H5 ys A' I5 n5 KC KD KG q5=>fin _ _ s5 H5 ys A' rfl hC I5 n5 KC KD KG q5
theorem rH(S:de X N own scope)(hc:X.calm=UN)(hi:PI X tg iter wi)(hg:∀C s H ex,PG (Fb X N scope C s H ex) tg g)(hf:∀C s H ex,HF (Fb X N scope C s H ex) ifs tt)(he:∀C s H ex,PE (Fb X N scope C s H ex) elt te)
  (hs:∀x,WU iter X.env x=pure x:=by intro _;rfl):PE X (.ListComp elt [⟨tg,iter,ifs,0⟩] scope pos) (vt own.length wi g tt te):=by
 intro pins s σ H Q I h;rw[eval_ListComp];refine Ċ (use:=UK) (cl:=bt X.env scope.names []) rfl hs (dO (S.cells I.ok)) S.kind S.names ?_;refine Ej (hi pins s σ H _ I h) λv s1 h1=>Ej h1 λL5 s2 h2=>?_;obtain⟨it,fp,tn,J,H2,e,I2,T,st2,f2,W⟩:=h2;subst e;refine jQ (RR:=λacc C=>compPost (U6 X.prog X.w) X.A X.xe UK (EP X pins σ Q) acc C) S hc hg hf he I2 T st2 f2 W ?_;intro D C s5 H5 ys A' hD hC I5 n5 KC KD KG q5;obtain⟨m5,ND,_⟩:=I5.loc;exact⟨m5,ND,λh' sb=>⟨.ref D,_,oz I2 I5 (ú hD.symm) (by show @ū Nat _ s2.heap.objs.size C;omega) (U5 (by show @Xw Nat _ D C;omega)) n5 KC KD KG sb f2,rfl,q5 D n5⟩⟩
theorem yi(S:de X N own scope)(hc:X.calm=UN)(hN:X.N.Nodup)(Mg:X.N[i]?=UI y)(hy:X.env.scope.names.lookup y=UI .local)
  (hi:PI X tg iter wi) (hg:∀C s H ex,PG (Fb X N scope C s H ex) tg g) (hf:∀C s H ex,HF (Fb X N scope C s H ex) ifs tt) (he:∀C s H ex,PE (Fb X N scope C s H ex) elt te)
  (Iw:Yi (.ListComp elt [⟨tg,iter,ifs,0⟩] scope pos) (UI (.Name y py)) GL.line X.env=pure UN:=by rfl)
  (hs:∀x,WU iter X.env x=pure x:=by intro _;rfl):PS X (.Assign [.Name y py] (.ListComp elt [⟨tg,iter,ifs,0⟩] scope pos) GL) (Ax (vt own.length wi g tt te) (rq i)):=by
 intro pins s σ H D I h;rw[exec_Assign_Name_used _ _ _ _ Iw];refine UJ (Ĉ (UJ ?_));show UU _ X.A (do let _ <-comprehension (.ListComp elt [⟨tg,iter,ifs,0⟩] scope pos) scope X.env _ (š []) UO (Wo iter X.env) (UI (YK (.Name y py) X.env))) _ _ s;refine UJ (VS (Ċ (use:=UI (YK (.Name y py) X.env)) (cl:=bt X.env scope.names []) (Q:=λ_ s'=>SP X pins D .next s') rfl hs (dO (S.cells I.ok)) S.kind S.names ?_) (λ_ s' hq=>UM (UM hq)) λ_ _ e=>e);refine Ej (hi pins s σ H _ I h) λv s1 h1=>Ej h1 λL5 s2 h2=>?_;obtain⟨it,fp,tn,J,H2,e,I2,T,st2,f2,W⟩:=h2;subst e;refine jQ (RR:=λacc C=>compPost (U6 X.prog X.w) X.A X.xe (UI (YK (.Name y py) X.env)) (λ_ s'=>SP X pins D .next s') acc C) S hc hg hf he I2 T st2 f2 W ?_;intro DD C s5 H5 ys A' hD hC I5 n5 KC KD KG q5;obtain⟨m5,ND,_⟩:=I5.loc;have Rj:H5 C=UK:=I5.free;have B:Inv X pins σ (upd H5 DD (.lst ys)) {s5 with heap:=s5.heap}:=oz I2 I5 (ú hD.symm) (by show @ū Nat _ s2.heap.objs.size C;omega) (U5 (by show @Xw Nat _ DD C;omega)) n5 KC KD KG (Wr ..) f2;show UU _ X.A (YK (.Name y py) X.env (.ref DD)) _ _ s5;refine Ş (lz (s:=s5) B hN Mg (.inl hy) (show RelV (.ref DD) (.ref DD) from rfl) (λs6 I6 ⟨a,sb,ha⟩=>?_) (.inr hy));have Md:@Xw Nat _ X.env.locals C:=by have:@Xw Nat _ X.env.locals s2.heap.objs.size:=I2.lt;omega
 have Hi:∀x c,X.env.cells.lookup x=UI c->c≠C:=λx c e=>by
  obtain⟨v,z⟩:=I2.cell x c e;have:@Xw Nat _ c s2.heap.objs.size:=z.lt;exact U5 (by show @Xw Nat _ c C;omega)
 have Rk:C≠a:=by
  rcases ha with z|z
  ·rw[z];exact VV Md
  ·exact(Hi _ _ z).symm
 refine⟨m5,ND.sameBut sb Rk,λh' KH=>?_⟩;refine⟨σ.set i (UI (.ref DD)),upd H5 DD (.lst ys),I6.turned (it:=C) (t':=s6.toks) (λb o hb e=>(KH.2 b hb).trans e) ?_ (VV Md) (.inr (by have:@ū Nat _ X.s₀.heap.objs.size s2.heap.objs.size:=I2.sz;show @ū Nat _ X.s₀.heap.objs.size C;omega)) Hi (λp hp=>?_),q5 DD n5⟩
 ·rw[ak (VV (by show @Xw Nat _ DD C;omega))];exact Rj
 ·have:@Xw Nat _ p.1 s2.heap.objs.size:=UY (I2.pin p hp).1;exact U5 (by show @Xw Nat _ p.1 C;omega)
end
section
end
section
def CH:V->Option Int->Option Int->Hp->VK->Prop:=λx lo hi H Q=>∃z,x=.str z/\z.length<=US/\Q (.str (PySem.StrLaws.sliceText z lo hi)) H
theorem lb(x:Str)(lo hi:Option Int)(hz:x.length<=US):(PySem.StrLaws.sliceText x lo hi).length<=US:=VN (Txt.slice_le x lo hi) hz
theorem AY:HE X CH:=by
 intro pins s σ H x v vl vu lo hi sl Q I rx hs pl pu h;obtain⟨z,rfl,hz,q⟩:=h;obtain⟨t,rfl⟩:=rx;refine⟨"str",_,ź.lookup,Y' _ _ _,?_⟩;have fin:(PySem.StrLaws.sliceText z lo hi).length<=US/\∀t' k,EP X pins σ Q (.str (PySem.StrLaws.sliceText z lo hi) t') {s with toks:=k}:=⟨lb z lo hi hz,λt' k=>⟨.str _,H,I.tok k,⟨_,rfl⟩,q⟩⟩
 cases pl with
 |none =>
  cases pu with
  |none=>exact XZ (l:=UK) (u:=UK) (st:=UK) hs rfl (Zm fin)
  |int j tj=>exact XZ (l:=UK) (u:=UI (j,tj)) (st:=UK) hs rfl (Zm fin)
 |int i ti =>
  cases pu with
  |none=>exact XZ (l:=UI (i,ti)) (u:=UK) (st:=UK) hs rfl (Zm fin)
  |int j tj=>exact XZ (l:=UI (i,ti)) (u:=UI (j,tj)) (st:=UK) hs rfl (Zm fin)
theorem lJ:∀(l:List (Str×Tok)),Vals (l.map λp=>V.str p.1) (Ė l)
 |[]=>.nil
 |(x,t)::r=>.cons ⟨t,rfl⟩ (lJ r)
theorem gH:∀{ys:List Str}{A':List UT},Vals (ys.map V.str) A'->∃l:List (Str×Tok),A'=Ė l/\l.map (·.1)=ys
 |[],_,.nil=>⟨[],rfl,rfl⟩
 |y::ys,_,.cons r t=>by
  obtain⟨tk,rfl⟩:=r;obtain⟨l,rfl,e⟩:=gH t;exact⟨(y,tk)::l,rfl,by rw[U7,e]⟩
theorem vA:Ni X "str.split" (λx xs H Q=>∃a b,x=.str a/\xs=[.str b]/\(b.length==0)=UO/\a.length+2<=US /\
  ∀p,H p=UK->Q (.ref p) (upd H p (.lst ((XO a b).map V.str)))):=by
 intro pins s σ H x xs v us Q I rx rs h;obtain⟨x,y,rfl,rfl,hy,hz,q⟩:=h;obtain⟨t,rfl⟩:=rx;obtain⟨u0,rfl,u,rfl⟩:=vals1 rs;have hf:H s.heap.objs.size=UK:=I.Ef.fresh (U_ _);have q':=q _ hf;have fin:∀(l:List (Str×Tok)) (k:Nat),l.length<=US->l.map (·.1)=XO x y->EP X pins σ Q (.ref s.heap.objs.size) {s with toks:=k,heap:=s.heap.push {cls:=.type "list",data:=.seq (Ė l).toArray}}:=λl k hl e =>
  ⟨.ref s.heap.objs.size,_,I.laid (t':=k) (o:=.lst ((XO x y).map V.str)) (λb u e=>UL _ e) (U_ _)
   ⟨by rw[<-e,UQ,UQ];exact hl,Ė l,_,by rw[<-e,U4];exact lJ l,UZ _ rfl⟩,rfl,q'⟩
 have one:1<=US:=by decide
 cases h1:(UP (x.length<y.length)||decide (Ð x<Ð y))
 ·cases hf:(W9 x y 0 x.length (x.length+1)).isEmpty
  ·have hn:(Xp x (W9 x y 0 x.length (x.length+1)) y.length).length<=US:=by
    have:=PySem.StrLaws.occ_length_le x y 0 x.length (x.length+1);simp only[Xp,UQ,Yc,Vj,U'];omega
   refine Ze F.slot_str_split (Y' _ _ _) F.entry_str_split (F.args_str_split_2 _ _) (meets_str_split_sep x y t u h1 hy hf ⋯ hn) ?_;show wants _ _ _ {s with toks:=_,heap:=s.heap.push {cls:=.type "list",data:=.seq (strsFrom s.toks (Xp x (W9 x y 0 x.length (x.length+1)) y.length)).toArray}};rw[strsFrom_eq];refine fin (numbered s.toks _) _ ?_ ((Λ _ _).trans ((ε (ne_true_of_eq_false h1)).trans (ε (ne_true_of_eq_false hf))).symm);have e:=θ VX (Λ s.toks (Xp x (W9 x y 0 x.length (x.length+1)) y.length));rw[UQ]at e;omega
  ·exact Ze F.slot_str_split (Y' _ _ _) F.entry_str_split (F.args_str_split_2 _ _) (meets_str_split_not_found x y t u h1 hy hf)
    (fin [(x,t)] _ one ((ε (ne_true_of_eq_false h1)).trans (δ hf)).symm)
 ·exact Ze F.slot_str_split (Y' _ _ _) F.entry_str_split (F.args_str_split_2 _ _) (meets_str_split_cannot_occur x y t u h1)
   (fin [(x,t)] _ one (δ h1).symm)
theorem yj:Ni X "str.join" (λx xs H Q=>∃a p ys,x=.str a/\xs=[.ref p]/\EN X.K H p (ys.map V.str)/\ŕ a ys=UN/\Q (.str (ZQ a ys)) H):=by
 intro pins s σ H x xs v us Q I rx rs h;obtain⟨a,p,ys,rfl,rfl,hq,Ef,q⟩:=h;obtain⟨t,rfl⟩:=rx;obtain⟨u,rfl,r⟩:=vals1 rs;cases r;obtain⟨A',rv,pl,hz⟩:=I.list hq;obtain⟨l,rfl,e⟩:=gH rv;exact SC.join pl.isList e Ef λt' k=>⟨.str _,H,I.tok k,⟨_,rfl⟩,q⟩
theorem eQ:∀{bs:List Bool}{A':List UT},Vals (bs.map V.bl) A'->A'=bs.map W0
 |[],_,.nil=>rfl
 |b::bs,_,.cons r t=>by
  cases r;rw[eQ t];rfl
theorem vB:X.calm=UN->iS X (.builtin "all") (λxs H Q=>∃(p:U8) (bs:List Bool),xs=[.ref p]/\EN X.K H p (bs.map V.bl)/\Q (.bl (bs.all id)) H):=by
 intro hc pins s σ H xs us Q I rs h;obtain⟨p,bs,rfl,hq,q⟩:=h;obtain⟨u,rfl,r⟩:=vals1 rs;cases r;obtain⟨A',rv,pl,hz⟩:=I.list hq;have e:=eQ rv;subst e;have Ez:p<s.heap.objs.size:=by obtain⟨_,_,e,_⟩:=pl;exact UY e
 refine call_all_walk (X6 pl.isList ?_);refine⟨s.heap.objs.size,[s.heap.objs.size,p],[s.heap.objs.size],(bs.map W0).toArray.size,_,_,λi=>(bs[i]?).getD UN,rfl,Č (A:=X.A.in1) (I.ok.hd hc) _ p (U5 Ez) (bs.map W0).toArray,
  ⟨⟨_,UZ _ rfl,rfl,rfl⟩,pl.isList.push _⟩,λi v s' Q' E' hP hQ=>?_,λh' tk hk=>?_⟩
 ·have Hj:(bs.map W0)[i]?=UI v:=by simpa using hP
  rw[Vi]at Hj;cases e:bs[i]? with
  |none=>rw[e]at Hj;cases Hj
  |some b =>
   rw[e]at Hj;cases Hj;simp only[e,ZN]at hQ;exact Wc hQ
 ·have e:((UX (bs.map W0).toArray.size).all λi=>(bs[i]?).getD UN)=bs.all id:=by
   rw[U9,UQ];exact ŉ bs
  rw[e];exact⟨.bl _,H,I.kept (t':=tk) (Y6 hk),rfl,q⟩
end
section
end
noncomputable def yk(N own:List Str)(scope:Xg)(out:List (Str×XC)):Bool :=
 UP (scope.kind=.function)&&scope.names.all (λy=>UP (y.2≠.cell))&&scope.names.all (λy=>UP (y.2≠.local)||decide (scope.names.lookup y.1=UI .local))&&decide N.Nodup&&UP (N.take own.length=own) &&
 scope.names.all (λy=>UP (y.2≠.local)||decide (y.1∈own)||decide (y.1=".0"))&&UP ((".0":Str)∉N)&&scope.names.all (λy=>UP (y.2≠.free)||decide (out.lookup y.1=UI .cell)||decide (out.lookup y.1=UI .free))&&scope.names.all (λy=>UP (y.1≠".")&&UP (y.1≠".."))
theorem qi(hn:X.env.scope.names=out)(ht:dG (N.drop own.length) X.N)(h:yk N own scope out=UN):de X N own scope:=by
 unfold yk at h;simp only[UR,VA,Yf,γ]at h;obtain⟨⟨⟨⟨⟨⟨⟨⟨h1,h2⟩,h3⟩,h4⟩,h5⟩,h6⟩,h7⟩,h8⟩,h9⟩:=h;refine⟨h1,h2,λy hy e=>?_,h4,h5,λy hy e=>?_,h7,ht,λy hy e=>?_,h9⟩
 ·rcases h3 y hy with z|z
  ·exact absurd e z
  ·exact z
 ·rcases h6 y hy with(z|z)|z
  ·exact absurd e z
  ·exact .inl z
  ·exact .inr z
 ·rw[hn];rcases h8 y hy with(z|z)|z
  ·exact absurd e z
  ·exact .inl z
  ·exact .inr z
section
def bc(prog:VZ)(w:Wi)(h:Ws)(k:Str×List Str)(a:U8):Prop :=
 ∃o n t b,h.get? a=UI o/\o.cls=.type "tuple"/\o.data=.seq #[.str k.1 t,.ref b] n/\ø (PySem.strKind prog w) h k.2 b
theorem bc.typeIs{s:U1}(x:bc prog w s.heap k a):s.TypeIs (.ref a) "tuple":=let ⟨o,_,_,_,ho,hc,_⟩:=x;⟨o,ho,hc⟩
theorem bc.inj(hx:bc prog w h x a)(hy:bc prog w h y a):x=y:=by
 obtain⟨o,n,t,b,ho,_,hd,hi⟩:=hx;obtain⟨o',n',t',b',E4,_,FO,FD⟩:=hy;obtain rfl:o=o':=VM (ho.symm.trans E4);rw[hd]at FO;injection FO with h1 _
 simp only[Array.mk.injEq,X4,Value.str.injEq,Value.ref.injEq,and_true]at h1;obtain⟨⟨e1,_⟩,e2⟩:=h1;subst e2;exact Ă e1 (hi.inj FD)
theorem bc.keeps(x:bc prog w h k a)(ho:h.get? d=UI o)(hd:o.data=.dict es ep)(hs:Vz d h h'):bc prog w h' k a:=by
 obtain⟨o',n,t,b,E4,hc,FO,hi⟩:=x;have EX:a≠d:=by
  rintro rfl;obtain rfl:o'=o:=VM (E4.symm.trans ho);rw[hd]at FO;exact nomatch FO
 exact⟨o',n,t,b,(hs.2 a EX).trans E4,hc,FO,hi.keeps ho hd hs⟩
noncomputable def mQ(prog:VZ)(w:Wi)(k:Str×List Str):Int:=reduceHash (Wj [(PySem.strKind prog w).hash k.1,X7 (PySem.strKind prog w) k.2])
def vC(prog:VZ)(w:Wi)(hh:Ws)(v:UT)(n:Int)(d:Nat):Prop :=
 ∀{A:WZ} {E:UT->U1->Prop} {s:U1} {Q:Int->U1->Prop},s.heap=hh->A.units<Wa->Q n {s with toks:=s.toks+d}->UU (U6 prog w) A (pyHash v) Q E s
theorem qj(x:Str)(t:Tok):vC prog w hh (.str x t) ((PySem.strKind prog w).hash x) 1:=λ_ _ h=>(PySem.strKind prog w).pyHash (by simp[PySem.strKind,W_]) h
theorem mR(hk:ø (PySem.strKind prog w) hh ks b):vC prog w hh (.ref b) (X7 (PySem.strKind prog w) ks) (ks.length+1):=λe hu h=>by
 subst e;exact wpAny_pyHash_tuple hu hk h
theorem iz(hu:A.units+1<Wa)(hk:bc prog w s.heap k a)(h:Q (mQ prog w k) {s with toks:=s.toks+(k.2.length+3)}):
  UU (U6 prog w) A (pyHash (.ref a)) Q E s:=by
 have hT:=hk.typeIs;obtain⟨o,n,t,b,ho,_,hd,hi⟩:=hk;unfold pyHash
 first|unfold pyHashByItsType|skip
 first|refine UJ (wpAny_cRoomFor_or (.inr ⋯) ?_)|skip
 refine UJ (XR hT PySem.F.slot_tuple_hash.lookup ?_);show UU _ _ (if (UI (Value.builtin "tuple.__hash__")==UI Vy)=UN then _ else _) Q E s;rw[ε (by rw[beq_builtin_none];exact Vw)];refine UJ (XR hT PySem.F.slot_tuple_hash.lookup ?_);show UU _ _ (callSpecialIfBoundUnlessNone? (.ref a) "__hash__" _ >>= _) Q E s;refine UJ (wpAny_callSpecialIfBoundUnlessNone?_slot hT PySem.F.slot_tuple_hash (VI PySem.F.slot_tuple_hash hT PySem.F.entry_tuple_hash ?_ (PySem.F.args_tuple_hash_1 _)));show UU _ _ (X1 (.ref a) >>= _) _ _ s;refine UJ (Z3 ho hd ?_);refine UJ ?_;rw[<-W3];refine Y1 _
  (λrest (b':Array Int) s'=>(rest=[VF k.1 t,Vd b]/\b'=#[]/\s'=s)\/(rest=[Vd b]/\b'.toList=[(PySem.strKind prog w).hash k.1]/\s'={s with toks:=s.toks+1}) \/
   (rest=[]/\b'.toList=[(PySem.strKind prog w).hash k.1,X7 (PySem.strKind prog w) k.2]/\s'={s with toks:=s.toks+1+(k.2.length+1)}))
  _ ?_ ?_ _ _ (.inl ⟨rfl,rfl,rfl⟩)
 ·rintro x rest b' s' (⟨e,rfl,rfl⟩|⟨e,hb,rfl⟩|⟨e,_,_⟩)
  ·cases e;refine UJ (qj k.1 t (hh:=s'.heap) rfl (by show A.units+1<Wa;exact hu) ?_)
   first
    |exact UM (.inr (.inl ⟨rfl,rfl,rfl⟩))
    |exact UJ (UM (UM (.inr (.inl ⟨rfl,rfl,rfl⟩))))
  ·cases e;refine UJ (mR hi rfl (by show A.units+1<Wa;exact hu) ?_)
   first
    |exact UM (.inr (.inr ⟨rfl,by simp[hb],rfl⟩))
    |exact UJ (UM (UM (.inr (.inr ⟨rfl,by simp[hb],rfl⟩))))
  ·cases e
 ·rintro b' s' (⟨e,_,_⟩|⟨e,_,_⟩|⟨_,hb,rfl⟩)
  ·cases e
  ·cases e
  ·show UU _ _ (retInt (Wj b'.toList)) _ _ _;rw[hb];refine wpAny_ret_mkInt ?_;have et:s.toks+1+(k.2.length+1)+1=s.toks+(k.2.length+3):=by omega
   show UU _ _ (if (UP (-(2:Int) ^ 63<=Wj [(PySem.strKind prog w).hash k.1,X7 (PySem.strKind prog w) k.2])&&UP (Wj [(PySem.strKind prog w).hash k.1,X7 (PySem.strKind prog w) k.2]<2 ^ 63))=UN then _ else _) Q E _;unfold mQ reduceHash at h;by_cases hr:(UP (-(2:Int) ^ 63<=Wj [(PySem.strKind prog w).hash k.1,X7 (PySem.strKind prog w) k.2])&&UP (Wj [(PySem.strKind prog w).hash k.1,X7 (PySem.strKind prog w) k.2]<2 ^ 63))=UN
   ·rw[δ hr];rw[δ hr]at h;exact UM (by rw[et];exact h)
   ·rw[ε hr];rw[ε hr]at h;exact UJ (WA (UM (by rw[et];exact h)))
theorem oA(hu:A.units<Wa)(hx:bc prog w s.heap x a)(hy:bc prog w s.heap y b)(h:P (.done (.ret (.bool (UP (x=y))))) s):
  UU (U6 prog w) A (Xk.«tuple.__eq__» ⟨[.ref a,.ref b],[]⟩) P E s:=by
 have Rm:=hy.typeIs;obtain⟨oa,na,ta,pa,Mh,_,Rn,KI⟩:=hx;obtain⟨ob,nb,tb,pb,Jg,_,Jh,Ro⟩:=hy;show UU _ _ (œ (.ref b) (.type "tuple") >>= _) _ _ s;refine UJ (Wm Rm Zp ?_);simp only[WH,VD,ι];refine UJ (Z3 Mh Rn ?_);refine UJ (Z3 Jg Jh ?_);refine UJ ?_;refine Y1 _
  (λrest r s'=>r.1=UK/\s'=s/\((rest=[(VF x.1 ta,VF y.1 tb),(Vd pa,Vd pb)])\/(rest=[(Vd pa,Vd pb)]/\x.1=y.1)\/(rest=[]/\x=y)))
  _ ?_ ?_ _ _ ⟨rfl,rfl,.inl rfl⟩
 ·rintro⟨u,v⟩ rest r s' ⟨hr,rfl,(e|⟨e,e1⟩|⟨e,_⟩)⟩
  ·cases e;refine UJ ((PySem.strKind prog w).eqBool (a:=x.1) (b:=y.1) (by simp[PySem.strKind,W_]) (by simp[PySem.strKind,W_]) ?_);by_cases hk:x.1=y.1
   ·rw[η hk];simp only[WH,VD,ι];exact UM ⟨rfl,rfl,.inr (.inl ⟨by first|rfl|trivial,hk⟩)⟩
   ·rw[ζ hk];simp only[ŋ,μ];rw[ζ (λz=>hk (by rw[z]))]at h;exact UJ (UM (UM (UM h)))
  ·cases e;refine UJ (wpAny_eqBool_tuple hu KI Ro ?_);by_cases hk:x.2=y.2
   ·rw[η hk];simp only[WH,VD,ι];exact UM ⟨rfl,rfl,.inr (.inr ⟨by first|rfl|trivial,Ă e1 hk⟩)⟩
   ·rw[ζ hk];simp only[ŋ,μ];rw[ζ (λz=>hk (by rw[z]))]at h;exact UJ (UM (UM (UM h)))
  ·cases e
 ·rintro⟨r1,r2⟩ s' ⟨hr,rfl,(e|⟨e,_⟩|⟨_,rfl⟩)⟩
  ·cases e
  ·cases e
  ·simp only at hr;subst hr;refine UM ?_;rw[η rfl]at h;exact h
theorem iA(hu:A.units+2<Wa)(hx:bc prog w s.heap x a)(hy:bc prog w s.heap y b)(h:Q (UP (x=y)) s):
  UU (U6 prog w) A (eqBool (.ref a) (.ref b)) Q E s:=by
 unfold eqBool
 try with_reducible refine VG ?_
 show UU _ _ (if (Vd a==Vd b)=UN then _ else _) Q E s;by_cases Gh:(Vd a==Vd b)=UN
 ·rw[δ Gh];have e:a=b:=by have:=ğ Gh;injection this
  subst e;obtain rfl:=hx.inj hy;exact UJ (WA (UM (by simpa using h)))
 ·rw[ε Gh];exact UJ (wpAny_richCompare_same_room (op:=.Eq) hx.typeIs hy.typeIs PySem.F.slot_tuple_eq
   (VI PySem.F.slot_tuple_eq hx.typeIs PySem.F.entry_tuple_eq (oA (by first|(show A.units+1<Wa;omega)|(show A.units<Wa;omega)|(show A.units+1+1<Wa;omega)) hx hy ⟨_,rfl,(λe=>nomatch e),Wc h⟩) (PySem.F.args_tuple_eq_2 _ _)) ⋯)
theorem gI(hk:ø (PySem.strKind prog w) s.heap ks a)(h:Q UN s):UU (U6 prog w) A (Ę (n+1) (.ref a)) Q E s:=by
 have hT:=hk.typeIs;obtain⟨o,items,n',ho,_,hd,hi⟩:=hk;unfold Ę;refine UJ (XR hT PySem.F.slot_tuple_eq.lookup ?_);show UU _ _ (œ (.ref a) (.type "tuple") >>= _) _ _ s;refine UJ (Wm hT Zp ?_);simp only[WH,VD,ι];refine UJ (Wq ho hd ?_);refine UJ ?_;show UU _ _ (Ŭ items _ _) _ _ s;rw[<-W3];refine Y1 _ (λrest r s'=>r.1=UK/\s'=s/\∀v∈rest,carriedByValue v=UN) _ ?_ ?_ _ _ ⟨rfl,rfl,hi.byValue⟩
 ·rintro v rest r s' ⟨hr,rfl,FQ⟩;rw[Ţ _ (FQ v Vr)];refine UJ (UM ?_);simp only[WH,VD,ι];exact UM ⟨rfl,rfl,λu Rp=>FQ u (Vx _ Rp)⟩
 ·rintro⟨r1,r2⟩ s' ⟨hr,rfl,_⟩;simp only at hr;subst hr;exact UM h
theorem ji(hk:bc prog w s.heap k a)(h:Q UN s):UU (U6 prog w) A (Ę 8 (.ref a)) Q E s:=by
 have hT:=hk.typeIs;obtain⟨o,n,t,b,ho,_,hd,hi⟩:=hk;unfold Ę;refine UJ (XR hT PySem.F.slot_tuple_eq.lookup ?_);show UU _ _ (œ (.ref a) (.type "tuple") >>= _) _ _ s;refine UJ (Wm hT Zp ?_);simp only[WH,VD,ι];refine UJ (Wq ho hd ?_);refine UJ ?_;rw[<-W3];refine Y1 _ (λrest r s'=>r.1=UK/\s'=s/\(rest=[VF k.1 t,Vd b]\/rest=[Vd b]\/rest=[])) _ ?_ ?_ _ _ ⟨rfl,rfl,.inl rfl⟩
 ·rintro v rest r s' ⟨hr,rfl,(e|e|e)⟩
  ·cases e;rw[Ţ _ rfl];refine UJ (UM ?_);simp only[WH,VD,ι];exact UM ⟨rfl,rfl,.inr (.inl (by first|rfl|trivial))⟩
  ·cases e;refine UJ (gI hi ?_);simp only[WH,VD,ι];exact UM ⟨rfl,rfl,.inr (.inr (by first|rfl|trivial))⟩
  ·cases e
 ·rintro⟨r1,r2⟩ s' ⟨hr,rfl,_⟩;simp only at hr;subst hr;exact UM h
end
noncomputable def gJ(prog:VZ)(w:Wi):HeapKind prog w (Str×List Str) where
 is:=bc prog w
 hash:=mQ prog w
 draws:=λk=>k.2.length+3
 room:=λA=>A.units+2<Wa
 inj:=λhx hy=>hx.inj hy
 keeps:=λx ho hd hs=>x.keeps ho hd hs
 pyHash:=λhu hk h=>iz ⋯ hk h
 eqBool:=λhu hx hy h=>iA hu hx hy h
 quiet:=λhk h=>ji hk h
abbrev lh:=Str×List Str
def eR(K:PySem.W.Frag)(H:Hp)(v:V)(k:lh):Prop:=∃a b,v=.ref a/\EC K H a [.str k.1,.ref b]/\EC K H b (k.2.map V.str)
noncomputable def iW(P:VZ)(w:Wi)(d:U8)(xs:List (lh×U8×UT)):HO:=.ext λh=>(d==Wl)=UO/\∃o es ep,h.get? d=UI o/\o.ExactDict/\o.data=.dict es ep/\es.toList=xs.map (entryOfKey (gJ P w))/\(xs.map (·.1)).Nodup
def eL(P:VZ)(w:Wi)(K:PySem.W.Frag)(H:Hp)(d:U8)(ks:List lh):Prop:=∃xs,H d=UI (iW P w d xs)/\xs.map (·.1)=ks/\∀x∈xs,eR K H (.ref x.2.1) x.1
theorem jR:∀{ks:List Str}{A':List UT},Vals (ks.map V.str) A'->ItemsAre (PySem.strKind P w) ks A'
 |[],_,.nil=>.nil
 |k::ks,_,.cons r t=>by
  obtain⟨tk,rfl⟩:=r;exact .cons (by simp[PySem.strKind,W_]) (jR t)
theorem yl(I:Inv X pins σ H s)(e:EC X.K H b (ks.map V.str)):ø (PySem.strKind X.prog X.w) s.heap ks b:=by
 obtain⟨A',r,⟨o,h1,h2,n,h3⟩,_⟩:=I.tuple e;exact⟨o,A'.toArray,n,h1,h2,h3,by simpa using jR r⟩
theorem js(I:Inv X pins σ H s)(e:eR X.K H (.ref a) k):bc X.prog X.w s.heap k a:=by
 obtain⟨a',b,q,e1,e2⟩:=e;cases q;obtain⟨A',r,⟨o,h1,h2,n,h3⟩,_⟩:=I.tuple e1;cases r with
 |cons r1 r2 =>
  cases r2 with
  |cons r2 r3 =>
   cases r3;obtain⟨t,rfl⟩:=r1;cases r2;exact⟨o,n,t,b,h1,h2,h3,yl I e2⟩
section
theorem Inv.DY(I:Inv X pins σ H s):Wl<s.heap.objs.size:=by
 obtain⟨o,es,ep,ho,_⟩:=I.mod.glob;have h1:@Xw Nat _ V' s.heap.objs.size:=UY (I.bk _ _ ho);obtain⟨mb,⟨o',Ed,Hb,E4,_⟩,_⟩:=I.mod.blt;have h2:@Xw Nat _ Zf s.heap.objs.size:=UY (I.bk _ _ E4);revert h1 h2;show @Xw Nat _ V' s.heap.objs.size->@Xw Nat _ Zf s.heap.objs.size->@Xw Nat _ Wl s.heap.objs.size;unfold V' Zf Wl;omega
theorem jS(I:Inv X pins σ H s)(h:H d=UI (iW X.prog X.w d xs))(hk:∀x∈xs,eR X.K H (.ref x.2.1) x.1):(d==Wl)=UO/\s.heap.DictOfH (gJ X.prog X.w) d xs:=by
 obtain⟨⟨h1,o,es,ep,h2,h3,h4,h5,h6⟩,_⟩:=I.Ef d _ h;exact⟨h1,o,es,ep,h2,h3,h4,h5,λx hx=>js I (hk x hx),h6⟩
theorem zK(hd:(d==Wl)=UO)(x:h.DictOfH (gJ P w) d xs):bq P w H' h d (iW P w d xs):=by
 obtain⟨o,es,ep,h2,h3,h4,h5,_,h6⟩:=x;exact⟨⟨hd,o,es,ep,h2,h3,h4,h5,h6⟩,⟨o,h2⟩,λh1 h2 ⟨q0,o,es,ep,q1,q2,q3,q4,q5⟩ k=>⟨q0,o,es,ep,k _ q1,q2,q3,q4,q5⟩⟩
theorem ym:PE X (.Dict [] [] pos) (λ_ H Q=>∀p,H p=UK->Q (.ref p) (upd H p (iW X.prog X.w p []))):=λpins s σ H Q I h =>
 ű ⟨.ref s.heap.objs.size,_,I.laid (a:=s.heap.objs.size) (o:=iW X.prog X.w s.heap.objs.size []) (t':=s.toks) (λ_ _ q=>UL _ q) (U_ _)
  (zK (beq_eq_false_iff_ne.mpr (VP (U5 I.DY))) (ſ s.heap)),rfl,h _ (I.Ef.fresh (U_ _))⟩
theorem f_(k:lh):(ZA xs k).isSome=UP (k∈xs.map (·.1)):=by
 unfold ZA;rw[Yx,VR,List.find?_isSome,γ,Vc];constructor
 ·rintro⟨x,hx,e⟩;exact⟨x,hx,of_decide_eq_true e⟩
 ·rintro⟨x,hx,e⟩;exact⟨x,hx,η e⟩
theorem tQ(hu:X.A.units+3<Wa):FP X (Xr .NotIn) (λx y H Q=>∃k d ks,eR X.K H x k/\y=.ref d/\eL X.prog X.w X.K H d ks/\Q (.bl (!UP (k∈ks))) H):=by
 intro pins s σ H x y v u Q I rx ry h;obtain⟨k,d,ks,hx,rfl,⟨xs,hd,GN,FQ⟩,q⟩:=h;cases ry;obtain⟨a,b,rfl,e1,e2⟩:=id hx;cases rx;obtain⟨h1,h2⟩:=jS I hd FQ;refine Ź (knd:=gJ X.prog X.w) (k:=k) (by show X.A.units+1+2<Wa;omega) (js I hx) h1 h2 ?_;rw[f_,GN];exact⟨.bl _,H,I.tok _,rfl,q⟩
theorem yn(hu:X.A.units+3<Wa):jG X (λo i v H Q=>∃d k ks,o=.ref d/\eR X.K H i k/\eL X.prog X.w X.K H d ks/\k∉ks/\ks.length<=1000/\∀H',eL X.prog X.w X.K H' d (ks++[k])->(∀b,b≠d->H' b=H b)->Q H'):=by
 intro pins s σ H o i v ov iv u Q I ro ri rv h;obtain⟨d,k,ks,rfl,hi,⟨xs,hd,GN,FQ⟩,hn,hl,q⟩:=h;cases ro;obtain⟨a,b,rfl,e1,e2⟩:=id hi;cases ri;obtain⟨h1,h2⟩:=jS I hd FQ;have Rq:xs.length<=US:=by
  have:=θ VX GN;rw[UQ]at this;rw[this];exact Xy (tK hl)
 refine ō (hsz:=Rq) (knd:=gJ X.prog X.w) (k:=k) (by show X.A.units+1+2<Wa;omega) (js I hi) h2 λh' Iy sb=>?_;have GY:ZA xs k=UK:=by
  have:=f_ (xs:=xs) k;rw[GN,ζ hn]at this;cases e:ZA xs k with
  |none=>rfl
  |some _=>rw[e]at this;cases this
 rw[storedH_new GY]at Iy;obtain⟨o',Ed,Hb,g1,_⟩:=id Iy;refine⟨upd H d (iW X.prog X.w d (xs++[(k,a,u)])),I.write (x:=d) (e:=d) (by rw[hd];exact Zv) (.inl rfl) (λb q hb z=>(sb.2 b hb).trans z) ⟨o',g1⟩ (zK h1 Iy),q _ ⟨_,au,by rw[Vm,GN];rfl,λx hx=>?_⟩ λb hb=>ak hb⟩;have kT:∀{a':U8} {ys:List V},EC X.K H a' ys->EC X.K (upd H d (iW X.prog X.w d (xs++[(k,a,u)]))) a' ys:=λ{a' ys} z=>by
  rcases z with(z|⟨o,z⟩)|z
  ·exact .inl (.inl (by rw[ak (uR z hd (λz=>nomatch z))];exact z))
  ·exact .inl (.inr ⟨o,by rw[ak (uR z hd (λz=>nomatch z))];exact z⟩)
  ·exact .inr z
 have keep:∀{y:V} {k':lh},eR X.K H y k'->eR X.K (upd H d (iW X.prog X.w d (xs++[(k,a,u)]))) y k':=λ{y k'} ⟨a',b',z1,z2,z3⟩=>⟨a',b',z1,kT z2,kT z3⟩
 rcases Ve.mp hx with m|m
 ·exact keep (FQ x m)
 ·have:x=(k,a,u):=by simpa using m
  subst this;exact keep hi
end
noncomputable def FX(a b:Str):Bool:=!UP (b.cps.toList<a.cps.toList)
theorem jt(a b:Str):FX a b=UN↔a.cps.toList<=b.cps.toList:=by
 simp only[FX,V5,decide_eq_false_iff_not];exact List.not_lt
theorem lK(a b c:Str)(h1:FX a b=UN)(h2:FX b c=UN):FX a c=UN:=by
 rw[jt]at h1 h2 ⊢;exact List.le_trans h1 h2
theorem tR(a b:Str):(FX a b||FX b a)=UN:=by
 rw[Yf,jt,jt];exact List.le_total _ _
theorem vD{x y:Str}(h:x.cps.toList=y.cps.toList):x=y:=by
 cases x;cases y;congr
 exact ı.mp h
theorem mS(h1:FX a b=UN)(h2:FX b a=UN):a=b:=by
 rw[jt]at h1 h2;exact vD (List.le_antisymm h1 h2)
noncomputable def av(l:List Str):List Str:=l.mergeSort FX
theorem aZ(l:List Str):(av l).Perm l:=List.mergeSort_perm l FX
theorem cP(l:List Str):(av l).Pairwise (λa b=>FX a b=UN):=List.pairwise_mergeSort lK tR l
theorem gK:∀(l:List Str) (p:Str),risingS p l=UN->(p::l).Pairwise (λa b=>FX a b=UN)
 |[],p,_=>by simp
 |x::r,p,h=>by
  have h':(!ltCps x.cps.toList p.cps.toList&&risingS x r)=UN:=h;obtain⟨h1,h2⟩:=WQ.mp h';have ih:=gK r x h2;have Pz:FX p x=UN:=by rw[ltCps_eq]at h1;exact h1
  refine Yv.mpr ⟨λy hy=>?_,ih⟩;rcases U2.mp hy with e|e
  ·rw[e];exact Pz
  ·exact lK _ _ _ Pz ((Yv.mp ih).1 y e)
theorem mT(h:sortedS l=UN):l.Pairwise (λa b=>FX a b=UN):=by
 cases l with
 |nil=>exact .nil
 |cons x r=>exact gK r x h
theorem ft:∀{l m:List Str},l.Perm m->l.Pairwise (λa b=>FX a b=UN)->m.Pairwise (λa b=>FX a b=UN)->l=m
 |[],m,hp,_,_=>(List.Perm.nil_eq hp)
 |x::l,m,hp,h1,h2=>by
  cases m with
  |nil=>exact absurd hp.length_eq (by simp)
  |cons y m =>
   obtain⟨a1,a2⟩:=Yv.mp h1;obtain⟨b1,b2⟩:=Yv.mp h2;have Rr:x=y:=by
    have m1:x∈y::m:=hp.mem_iff.mp Vr;have m2:y∈x::l:=hp.mem_iff.mpr Vr;rcases U2.mp m1 with e|e
    ·exact e
    ·rcases U2.mp m2 with e'|e'
     ·exact e'.symm
     ·exact mS (a1 y e') (b1 x e)
   subst Rr;rw[ft (List.Perm.cons_inv hp) a2 b2]
theorem vE(hp:l.Perm m)(hs:sortedS l=UN):l=av m:=ft (hp.trans (aZ m).symm) (mT hs) (cP m)
theorem iX(hp:l.Perm m):av l=av m:=ft ((aZ l).trans (hp.trans (aZ m).symm)) (cP l) (cP m)
theorem bf(l:List Str):(av l).length=l.length:=(aZ l).length_eq
section
theorem cf:∀{ys:List Str}{A':List UT},Vals (ys.map V.str) A'->Ym A' ys
 |[],_,.nil=>.nil
 |y::ys,_,.cons r t=>by
  obtain⟨tk,rfl⟩:=r;exact .cons y tk (cf t)
theorem d0:∀{A':List UT}{ys:List Str},Ym A' ys->Vals (ys.map V.str) A'
 |_,_,.nil=>.nil
 |_,_,.cons x t h=>.cons ⟨t,rfl⟩ (d0 h)
theorem gf(hc:UU (U6 prog w) A.in1 (Ĥ x) (λvs s1=>∃ss,Ym vs ss/\vs.length<64 /\
      ∀(h':Ws) (E2:List UT) (e:Nat),(∀b o,s1.heap.get? b=UI o->h'.get? b=UI o)->h'.get? s1.heap.objs.size=UI (Wg "list" E2.toArray e)->Ym E2 (av ss)->Q (.ref s1.heap.objs.size) {s1 with heap:=h' }) E s) :
    UU (U6 prog w) A (X0 (.builtin "sorted") [x]) Q E s:=by
  refine Ï kind_sorted plain_sorted entry_sorted (args_sorted1 _) ?_;unfold Xk.«sorted»;refine UJ (m:=checkCount "sorted" 1 1 _) (UM ?_);refine UJ (VS hc (λvs s1 h1=>?_) λ_ _ e=>e);obtain⟨ss,hS,Gi,h⟩:=h1
  refine wpAny_bind (wpAny_newList ?_ (by have : (64 : Nat) ≤ sizeLine := by decide
                                          omega))
  have HQ:(s1.heap.push (Wg "list" vs.toArray 0)).get? s1.heap.objs.size=UI (Wg "list" vs.toArray 0):=UZ _ rfl;show UU _ _ _ _ _ {s1 with heap:=s1.heap.push (Wg "list" vs.toArray 0)};refine UJ (VG (VI Φ ⟨_,HQ,rfl⟩ Δ (list_sort_treeK strKind_oneLt HQ hS.keysOf (λv₁ v₂ rest e=>keyKind_strs (by rw[<-e];exact hS)) Gi λst' a1 a2=>⟨_,rfl,?_⟩) (Ω _)));obtain⟨Gj,b1,b2,b3⟩:=sorted_out_str hS a1 a2;obtain⟨e,he⟩:=sortedHeap_at (out:=(arrOf st').map (·.2)) HQ;rw[vE b2 b3]at b1;refine UM ⟨_,rfl,h _ ((arrOf st').map (·.2)).toList e (λb o q=>?_) (by rw[Array.toArray_toList];exact he) b1⟩;have Ez:b<s1.heap.objs.size:=UY q;show(Ŗ (s1.heap.push (Wg "list" vs.toArray 0)) s1.heap.objs.size vs ((arrOf st').map (·.2))).get? b=UI o;rw[Υ (U5 Ez) (by rw[WN];exact YJ Ez)];exact UL _ q
theorem lj(hl:Ń s.heap l vs.toArray)
  (h:Q vs {s with heap:=(s.heap.push (Wg "list" #[] 0)).update s.heap.objs.size (VE (·++vs.toArray))}) (hsz:vs.length<=US) :
  UU (U6 prog w) A (Ĥ (.ref l)) Q E s:=by
 obtain⟨o,ho,hc,n,hd⟩:=id hl;unfold Ĥ;refine UJ (ñ (WS entry_proto_collect' ?_));show UU _ _ (do Ο (.builtin "list.__iadd__" ⟨[<-š [],.ref l],[]⟩)) _ _ s;refine UJ (ĉ (UM ⟨Ĝ _ (by decide +kernel),WS entry_list_iadd' ?_⟩));show UU _ _ (WY (.ref s.heap.objs.size) (.ref l) (.ref s.heap.objs.size)) _ _ {s with heap:=s.heap.push (Wg "list" #[] 0)};unfold WY;have E4:(s.heap.push (Wg "list" #[] 0)).get? l=UI o:=UL _ ho;refine UJ (YE (T:="tuple") ⟨o,E4,hc⟩ ?_);have ht:(WB "tuple"==WB "tuple")=UN:=by rfl
 rw[δ (by rw[ht];simp)];refine UJ (Ĭ E4 hd ?_);refine UJ (Ĭ (xs:=#[]) (n:=0) (UZ _ rfl) rfl ?_);rw[ε (by simp)];refine UJ (ZZ (xs:=#[]) (n:=0) (UZ _ rfl) rfl ?_ (Vo _) (by show(#[]++vs.toArray).size<=US+1;simp only[ZG,U9,YU];omega));refine UM ?_;show UU (U6 prog w) A (do
   let o <-load s.heap.objs.size
   match o.data with
   |.seq xs _=>pure xs.toList
   |_=>Ü "internal:collect") Q E {s with heap:=(s.heap.push (Wg "list" #[] 0)).update s.heap.objs.size (VE (·++vs.toArray))}
 refine UJ (Ŏ (Β (UZ _ rfl) _) ?_);show UU _ _ (pure ((#[]:Array UT)++vs.toArray).toList) Q E _;rw[show((#[]:Array UT)++vs.toArray).toList=vs by simp];exact UM h
end
section
theorem ll{h:Ws}{vs:List UT}(e:h.get? b=UI o):((h.push (Wg "list" #[] 0)).update h.objs.size (VE (·++vs.toArray))).get? b=UI o:=by
 rw[Xz _ _ _ _ (U5 (UY e))];exact UL _ e
theorem oB(I:Inv X pins σ H s)(k1:∀b o,s.heap.get? b=UI o->s1.heap.get? b=UI o)(FT:∃h1 t1,s1={s with heap:=h1,toks:=t1})
  (hk:∀b o,s1.heap.get? b=UI o->h'.get? b=UI o) (Fm:h'.get? s1.heap.objs.size=UI (Wg "list" E2.toArray e)) (hS:Ym E2 (av ss)) (hsz:s.heap.objs.size<=s1.heap.objs.size) (hl:ss.length<=US)
  (q:∀p,H p=UK->Q (.ref p) (upd H p (.lst ((av ss).map V.str)))):EP X pins σ Q (.ref s1.heap.objs.size) {s1 with heap:=h' }:=by
 obtain⟨h1,t1,rfl⟩:=FT;have I1:Inv X pins σ H {s with heap:=h1,toks:=t1}:=I.kept (t':=t1) k1;refine⟨.ref h1.objs.size,_,I1.laid (t':=t1) (o:=.lst ((av ss).map V.str)) hk (U_ _) ⟨by rw[UQ,bf];exact hl,E2,e,d0 hS,Fm⟩,rfl,q _ (I1.Ef.fresh (U_ _))⟩
theorem iY:iS X (.builtin "sorted") (λxs H Q=>∃(p:U8) (ys:List Str),xs=[.ref p]/\(EN X.K H p (ys.map V.str)\/EC X.K H p (ys.map V.str))/\ys.length<64/\∀q,H q=UK->Q (.ref q) (upd H q (.lst ((av ys).map V.str)))):=by
 intro pins s σ H xs us Q I rs h;obtain⟨p,ys,rfl,hq,Gi,q⟩:=h;obtain⟨u,rfl,r⟩:=vals1 rs;cases r;have hl:ys.length<=US:=Xy (Vg Gi (by decide));have fin:∀(A':List UT),Vals (ys.map V.str) A'->∀(h':Ws) (E2:List UT) (e:Nat),(∀b o,((s.heap.push (Wg "list" #[] 0)).update s.heap.objs.size (VE (·++A'.toArray))).get? b=UI o->h'.get? b=UI o) ->
   h'.get? ((s.heap.push (Wg "list" #[] 0)).update s.heap.objs.size (VE (·++A'.toArray))).objs.size=UI (Wg "list" E2.toArray e)->Ym E2 (av ys) ->
   EP X pins σ Q (.ref ((s.heap.push (Wg "list" #[] 0)).update s.heap.objs.size (VE (·++A'.toArray))).objs.size) {s with heap:=h' }:=λA' rv h' E2 e hk Fm hS =>
  oB (s1:={s with heap:=(s.heap.push (Wg "list" #[] 0)).update s.heap.objs.size (VE (·++A'.toArray))}) I (λb o z=>ll z) ⟨_,s.toks,rfl⟩ hk Fm hS (by show s.heap.objs.size<=((s.heap.push (Wg "list" #[] 0)).update s.heap.objs.size (VE (·++A'.toArray))).objs.size;rw[Heap.size_update,WN];exact XQ _) hl q
 rcases hq with hq|hq
 ·obtain⟨A',rv,pl,hz⟩:=I.list hq;have el:A'.length=ys.length:=by rw[<-rv.length,UQ]
  exact gf (collect_list pl.isList ⟨ys,cf rv,⋯,λh' E2 e hk Fm hS=>fin A' rv h' E2 e hk Fm hS⟩ ⋯)
 ·obtain⟨A',rv,pl,hz⟩:=I.tuple hq;have el:A'.length=ys.length:=by rw[<-rv.length,UQ]
  exact gf (lj pl ⟨ys,cf rv,⋯,λh' E2 e hk Fm hS=>fin A' rv h' E2 e hk Fm hS⟩ ⋯)
end
abbrev sK(P:VZ)(w:Wi):=PySem.strKind P w
def aL(P:VZ)(w:Wi)(h:Ws)(a:U8)(led:Bool)(D:List Str):Prop :=
 ∃(L:List (Str×Tok)) (es:Array (Int×UT)) (ep:Nat) (t:XB),h.get? a=UI {cls:=.type "set",dict:=UK,data:=.set es ep t}/\es.toList=L.map (λp=>((sK P w).hash p.1,VF p.1 p.2)) /\
  (L.map (·.1)).Perm D/\D.Nodup/\t.fits es.size=UN/\es.size<Wn/\t.led=led/\(es.size=0\/t.plain=UO)
section
theorem jT{L:List (Str×Tok)}:ElemsOf (sK prog w) (L.map λp=>((sK prog w).hash p.1,VF p.1 p.2)):=by
 intro e he;obtain⟨p,_,rfl⟩:=Vc.mp he;exact⟨⟨p.1,by simp[PySem.strKind,W_],rfl⟩,rfl⟩
theorem fS(x y:Str)(t:Tok):(sK prog w).is x (.str y t)=UP (x=y):=by
 rw[VR];simp[PySem.strKind,W_];exact⟨λh=>h.symm,λh=>h.symm⟩
theorem qk(t:XB)(es:Array (Int×UT))(h:Int)(x:UT):(layNew t es h x).2.1.led=t.led:=by
 unfold layNew;split
 ·show(ë (t.put _).1 _).led=t.led;unfold ë;split<;>rfl
 ·rfl
theorem mU(t:XB)(es:Array (Int×UT))(n:Nat):(ò t es n).2.1.led=t.led:=by
 unfold ò;split
 ·rename_i t' order he;have:t'.led=t.led:=by
   unfold ZL Y2 at he;cases hc:Yp (WG n - 1) (es.map (·.1)) with
   |none=>rw[hc]at he;cases he
   |some o=>rw[hc]at he;cases he;rfl
  dsimp only
  split
  ·exact this
  ·rfl
 ·rfl
theorem jU(t:XB)(es:Array (Int×UT))(n:Nat)(h:t.plain=UO):(ò t es n).2.1.plain=UO:=by
 unfold ò;split
 ·rename_i t' order he;have:t'.plain=t.plain:=by
   unfold ZL Y2 at he;cases hc:Yp (WG n - 1) (es.map (·.1)) with
   |none=>rw[hc]at he;cases he
   |some o=>rw[hc]at he;cases he;rfl
  dsimp only
  split
  ·rw[this];exact h
  ·rfl
 ·rfl
theorem cF(h:l.Perm (L.map λp=>((sK prog w).hash p.1,VF p.1 p.2))):∃L':List (Str×Tok),l=L'.map (λp=>((sK prog w).hash p.1,VF p.1 p.2))/\L'.Perm L:=by
 have all:∀e∈l,∃p:Str×Tok,e=((sK prog w).hash p.1,VF p.1 p.2):=λe he=>by
  obtain⟨p,_,rfl⟩:=Vc.mp (h.mem_iff.mp he);exact⟨p,rfl⟩
 have ex:∀l:List (Int×UT),(∀e∈l,∃p:Str×Tok,e=((sK prog w).hash p.1,VF p.1 p.2))->∃L':List (Str×Tok),l=L'.map (λp=>((sK prog w).hash p.1,VF p.1 p.2)):=by
  intro l;induction l with
  |nil=>intro _;exact⟨[],rfl⟩
  |cons e l ih =>
   intro ha;obtain⟨p,rfl⟩:=ha e Vr;obtain⟨L',rfl⟩:=ih λe he=>ha e (Vx _ he);exact⟨p::L',rfl⟩
 obtain⟨L',rfl⟩:=ex l all;refine⟨L',rfl,?_⟩;have g:(L'.map λp=>((sK prog w).hash p.1,VF p.1 p.2)).map (λe=>match e.2 with|.str x t=>(x,t)|_=>(VW,0))=L':=by
  rw[U4];exact Y9 _
 have g2:(L.map λp=>((sK prog w).hash p.1,VF p.1 p.2)).map (λe=>match e.2 with|.str x t=>(x,t)|_=>(VW,0))=L:=by
  rw[U4];exact Y9 _
 have:=h.map (λe=>match e.2 with|.str x t=>(x,t)|_=>(VW,0));rw[g,g2]at this;exact this
theorem jV(hS:aL prog w s.heap a led D)(IA:D.length+1<Wn)
    (h:∀h',Vz a s.heap h'->aL prog w h' a led (if x∈D then D else D++[x])->Q (UP (x∉D)) {s with heap:=h' }) :
    UU (U6 prog w) A (setAddHashed a (.str x tk) ((sK prog w).hash x)) Q E s:=by
  obtain⟨L,es,ep,t,ho,EZ,Eg,Eo,hf,hb,E3,EY⟩:=hS;have Ji:(sK prog w).is x (.str x tk)=UN:=by rw[fS];simp
  have KJ:ElemsOf (sK prog w) es.toList:=by rw[EZ];exact jT
  have hlen:es.size=D.length:=by rw[<-Va,EZ,UQ,<-UQ (f:=Ŋ) (as:=L),Eg.length_eq]
  unfold setAddHashed setAddHashedIn;refine VG (UJ (Vn ho rfl hf ?_))
  dsimp only
  rw[byScan_of (knd:=sK prog w) rfl hb KJ];simp only[↓reduceIte];unfold setAddByScan;refine UJ ?_;refine UJ (WA ?_);refine UJ (ŭ (knd:=sK prog w) Ji ho rfl hf KJ ?_);have mem_iff:(∃e∈es.toList,(sK prog w).is x e.2=UN)↔x∈D:=by
    rw[EZ,<-Eg.mem_iff,Vc];constructor
    · rintro⟨e,he,hi⟩
      obtain⟨p,hp,rfl⟩:=Vc.mp he;rw[fS,γ]at hi;exact⟨p,hp,hi.symm⟩
    · rintro⟨p,hp,e⟩
      exact⟨_,Vc.mpr ⟨p,hp,rfl⟩,by rw[fS];simp[e]⟩
  cases hr:â (λe=>(sK prog w).is x e.2) es.toList with
  | some j =>
    dsimp only
    obtain⟨hj,Mi,_⟩:=ZF.mp hr;have hx:x∈D:=mem_iff.mp ⟨es.toList[j],Xv hj,Mi⟩;refine UM (UM ?_);have e:s={s with heap:=s.heap}:=by cases s;rfl
    have:=h s.heap (Wr a s.heap) (by rw[δ hx];exact⟨L,es,ep,t,ho,EZ,Eg,Eo,hf,hb,E3,EY⟩);rw[ζ (λz=>z hx)]at this;rw[e];exact this
  | none =>
    dsimp only
    have hx:x∉D:=λhx=>by
      obtain⟨e,he,hp⟩:=mem_iff.mpr hx;have:=Ú.mp hr e he;rw[hp]at this;exact Bool.noConfusion this
    have Rt:∀(b:Bool) {s₁:U1} {Q':Unit->U1->Prop},Q' () s₁->UU (U6 prog w) A (match b with|true=>ų "set.scan.the-table-gave-way"|false=>pure ()) Q' E s₁ :=
      λb s₁ Q' hq=>by cases b<;>first|exact UM hq|exact WA hq
    have JX:=layNew_perm t es ((sK prog w).hash x) (.str x tk);have Gz:=layNew_fits t es ((sK prog w).hash x) (.str x tk);have G0:=qk t es ((sK prog w).hash x) (.str x tk);generalize hL:layNew t es ((sK prog w).hash x) (.str x tk)=NL at JX Gz G0 ⊢;obtain⟨EU,t1,Hk,Ru⟩:=NL
    dsimp only at JX Gz G0 ⊢
    rw[Ġ,EZ,show [((sK prog w).hash x,VF x tk)]=[(x,tk)].map (λp=>((sK prog w).hash p.1,VF p.1 p.2)) from rfl,<-Vm]at JX;obtain⟨L1,e1,Rv⟩:=cF JX;have Jj:EU.size=D.length+1:=by rw[<-Va,JX.length_eq,UQ,U',<-hlen,<-Va,EZ,UQ];rfl
    have PB:EU.size<Wn:=by omega
    have IB:(L1.map (·.1)).Perm (D++[x]):=(Rv.map _).trans (by rw[Vm];exact Eg.append_right _);have PD:(D++[x]).Nodup:=by
      rw[VC]
      exact ⟨Eo, by simp, fun y hy z hz => by have : z = x := by simpa using hz
                                              subst this;rintro rfl;exact hx hy⟩
    refine UJ (Rt _ ?_);have GO:∀h',Vz a s.heap h'->aL prog w h' a led (D++[x])->Q UN {s with heap:=h' }:=λh' sb hs=>by
      have:=h h' sb (by rw[ε hx];exact hs);rw[η hx]at this;exact this
    have tail:∀(g:Bool->Sem Unit),(∀(b:Bool) (s₁:U1) (Q':Unit->U1->Prop),Q' () s₁->UU (U6 prog w) A (g b) Q' E s₁)->∀(R:Option Bool->U1->Prop),(∀h',Vz a s.heap h'->aL prog w h' a led (D++[x])->R (UI UN) {s with heap:=h' })->∀t2:XB,t2.fits EU.size=UN->t2.led=led->t2.plain=UO->UU (U6 prog w) A (do
        storeSet a EU t2
        if (!Hk&&t2.tooFull)=true then do
            g (relayAll t2 EU (SetTable.grown EU.size)).2.2
            storeSet a (relayAll t2 EU (SetTable.grown EU.size)).1 (relayAll t2 EU (SetTable.grown EU.size)).2.1
            pure (some true)
          else pure (UI UN)) R E s:=by
      intro g hg R hR t2 Rw GA HW;refine UJ (Z8 ho rfl ?_ (Æ PB));have HG:(s.heap.update a (XH EU t2)).get? a=UI {cls:=.type "set",dict:=UK,data:=.set EU (ep+1) t2}:=by
        have:=V4 (XH EU t2) ho rfl;exact this
      have KN:=Wf s.heap a (XH EU t2);split
      · have hp:=relayAll_perm t2 EU (Xf EU.size)
        have HH:=relayAll_fits t2 EU (Xf EU.size);have KO:=mU t2 EU (Xf EU.size);have JY:=jU t2 EU (Xf EU.size) HW;generalize NF:ò t2 EU (Xf EU.size)=Rl at hp HH KO JY ⊢;obtain⟨HX,t3,PF⟩:=Rl
        dsimp only at hp HH KO JY ⊢
        rw[e1]at hp;obtain⟨L2,e2,Rx⟩:=cF hp;have hsz:HX.size=EU.size:=by rw[<-Va,hp.length_eq,<-e1,Va]
        refine UJ (hg _ _ _ ?_);refine UJ (Z8 HG rfl ?_ (Æ ⋯));have JZ:((s.heap.update a (XH EU t2)).update a (XH HX t3)).get? a=UI {cls:=.type "set",dict:=UK,data:=.set HX (ep+1+1) t3}:=V4 (XH HX t3) HG rfl;refine UM (hR _ (KN.trans (Wf _ a _)) ⟨L2,HX,_,t3,JZ,e2,(Rx.map _).trans IB,PD,HH,⋯,KO.trans GA,.inr JY⟩)
      · exact UM (hR _ KN ⟨L1,EU,_,t2,HG,e1,IB,PD,Rw,PB,GA,.inr HW⟩)
    split
    · rename_i hp
      refine UJ ?_;rw[hashByValue_scannable 8 rfl];refine UM ?_;have ep:(if plainKind (VF x tk)=UN then t1 else {t1 with plain:=UO})={t1 with plain:=UO}:=rfl;rw[ep];refine tail _ ?_ _ ?_ {t1 with plain:=UO} (SetTable.fits_plain_off Gz) (G0.trans E3) rfl
      · intro b s₁ Q' hq;cases b<;>first|exact UM hq|exact WA hq
      · intro h' HY G1;dsimp only;exact UM (GO h' HY G1)
    · rename_i hp
      refine UJ (UM ?_);simp only[↓reduceIte];refine tail _ ?_ _ ?_ t1 Gz (G0.trans E3) (Bool.eq_false_iff.mpr hp)
      · intro b s₁ Q' hq;cases b<;>first|exact UM hq|exact WA hq
      · intro h' HY G1;dsimp only;exact UM (GO h' HY G1)
end
noncomputable def jj(D:List Str)(x:Str):List Str:=if x∈D then D else D++[x]
noncomputable def ao(l:List Str):List Str:=l.foldl jj []
theorem ql(h:D.Nodup):(jj D x).Nodup:=by
  unfold jj;split
  · exact h
  · rename_i hx
    rw[VC]
    exact ⟨h, by simp, fun y hy z hz => by have : z = x := by simpa using hz
                                           subst this;rintro rfl;exact hx hy⟩
theorem d4:∀(l D:List Str),D.Nodup->(l.foldl jj D).Nodup/\(∀x,x∈l.foldl jj D↔x∈D\/x∈l)/\(l.foldl jj D).length<=D.length+l.length
 |[],D,h=>⟨h,by simp,by simp⟩
 |y::l,D,h=>by
  obtain⟨h1,h2,h3⟩:=d4 l (jj D y) (ql h);have hm:∀x,x∈jj D y↔x∈D\/x=y:=λx=>by
   unfold jj;split
   ·rename_i hy;exact⟨.inl,λz=>z.elim id (λe=>e▸hy)⟩
   ·simp
  have hl:(jj D y).length<=D.length+1:=by
   unfold jj;split
   ·omega
   ·simp
  refine⟨h1,λx=>?_,by rw[YV,Vj];omega⟩;rw[YV,h2,hm,U2,or_assoc]
theorem bW(l:List Str):(ao l).Nodup:=(d4 l [] Y7).1
theorem bT(l:List Str)(x:Str):x∈ao l↔x∈l:=by rw[ao,(d4 l [] Y7).2.1];simp
theorem cj(l:List Str):(ao l).length<=l.length:=by have:=(d4 l [] Y7).2.2;simpa[ao] using this
theorem oC(l:List Str)(x:Str):ao (l++[x])=jj (ao l) x:=by unfold ao;rw[List.foldl_append];rfl
section
variable{prog:VZ}{w:Wi}{A:WZ}{R:Result->U1->Prop}{I:U8}{fp wr:List U8}{G:Array GenState->Array GenState->Prop}{n:Nat}{P:Nat->UT->Prop}{St:Nat->U1->Prop}
theorem iB(W:WalksS prog w A.in1 I fp wr G n P St)(S:U8)(KP:S∉fp)(led:Bool)
  (ys:List Str) (hn:ys.length=n) (Jk:∀i v,P i v->∃x t,ys[i]?=UI x/\v=.str x t) (hb:n+1<Wn) :
  ∀(k i:Nat) (s:U1),n - i=k->i<=n->St i s->aL prog w s.heap S led (ao (ys.take i)) ->
   (∀s',Moved (S::wr) G s s'->aL prog w s'.heap S led (ao ys)->R (.ok (.ret .none)) s') ->
   YS (U6 prog w) A (.builtin "set.update.loop" ⟨[.ref S,.ref I],[]⟩) R s:=by
 have PH:S∉wr:=λh=>KP (W.sub _ h);have Fy:∀b∈wr,b∈S::wr:=λb hb=>Vx _ hb;intro k;induction k with
 |zero =>
  intro i s hk hi Ei hS hR;have Fo:i=n:=by omega
  subst Fo;refine WS YI ?_;rw[Xl Xa _];show UU _ A.in1 (Yj (.ref I) >>= _) _ _ s;refine UJ (W.done s _ _ Ei λs' hm=>?_);show UU _ A.in1 (ret Vy) _ _ s';rw[W4 ⋯]at hS;exact UM (hR s' (hm.mono Fy) (by
   obtain⟨L,es,ep,t,ho,rest⟩:=hS;exact⟨L,es,ep,t,hm.heap S _ PH ho,rest⟩))
 |succ k ih =>
  intro i s hk hi Ei hS hR;have Ez:i<n:=by omega
  refine WS YI ?_;rw[Xl Xa _];show UU _ A.in1 (Yj (.ref I) >>= _) _ _ s;refine UJ (W.item i s _ _ Ez Ei λv s' hP Jl hm=>?_);obtain⟨x,t,hx,rfl⟩:=Jk i v hP;have G1:aL prog w s'.heap S led (ao (ys.take i)):=by
   obtain⟨L,es,ep,tb,ho,rest⟩:=hS;exact⟨L,es,ep,tb,hm.heap S _ PH ho,rest⟩
  show UU _ A.in1 (WT [VF x t] (setAdd S (.str x t)) >>= _) _ _ s';refine UJ (VG ?_);unfold setAdd;refine VG ?_;refine UJ ((sK prog w).pyHash (k:=x) (by rw[fS];simp) ?_);have IA:(ao (ys.take i)).length+1<Wn:=by have:=cj (ys.take i);rw[V9]at this;omega
  refine jV (s:={s' with toks:=s'.toks+1}) G1 IA λh' HY J0=>?_;have Ry:aL prog w h' S led (ao (ys.take (i+1))):=by
   rw[List.take_add_one,hx];show aL prog w h' S led (ao (ys.take i++[x]));rw[oC];exact J0
  refine UM ⟨ZW Xa _,ih (i+1) _ ⋯ Ez (W.frame _ s' _ _ Jl (XQ _) λb hb o e=>?_) Ry λKq NG NH=>?_⟩
  ·rw[HY.2 b (λh:b=S=>KP (by rw[<-h];exact hb))];exact e
  ·refine hR Kq (Moved.trans W.gtrans ((hm.mono Fy).then_heap (XQ _) λb o hb e=>?_) NG) NH;rw[HY.2 b (λh:b=S=>hb (by rw[h];exact Vr))];exact e
end
section
theorem lp(a:UT)
  (h:Q₁ (.ref s.heap.objs.size) {s with heap:=s.heap.push {cls:=.type "set",dict:=UK,data:=.set #[] 0 (.fresh 0 0 (!w.params.followText "set-order"))}}) :
  YS (U6 prog w) A (.call (.builtin "set.__new__") ⟨[.type "set",a],[]⟩) (wants Q₁ E) s:=by
 refine Ž ?_;show UU _ A.in1 (do checkBuiltinCall "set.__new__" ⟨[.type "set",a],[]⟩;Ο (.builtin "set.__new__" ⟨[.type "set",a],[]⟩)) _ _ s;refine UJ (Û (PySem.F.newCall_set_1 a) (UM ⟨ZW PySem.F.plain_set_new _,WS PySem.F.entry_set_new ?_⟩));rw[Xl PySem.F.plain_set_new _];unfold Xk.«set.__new__» Ł;have Fy:=À;obtain⟨hp,g,d,tk,os⟩:=s
 dsimp only
 wp_walk
 refine Yh (UM ?_)
 dsimp only
 simp only[newObj];refine UJ (wpAny_alloc (UM ?_));exact UM h
theorem gh(hg:h.get? a=UI {cls:=.type "set",dict:=UK,data:=.set #[] 0 (.fresh 0 0 led)}):aL prog w h a led [] :=
 ⟨[],#[],0,_,hg,rfl,.nil,Y7,rfl,by unfold Wn;decide,rfl,.inl rfl⟩
end
theorem sub_tuple_set:ė (.type "tuple") (.type "set")=pure UO:=by rw[Zx];kernel_rfl
theorem sub_tuple_frozenset:ė (.type "tuple") (.type "frozenset")=pure UO:=by rw[Zx];kernel_rfl
section
abbrev aB(w:Wi):Bool:=!w.params.followText "set-order"
abbrev qm(led:Bool):Obj:={cls:=.type "set",dict:=UK,data:=.set #[] 0 (.fresh 0 0 led)}
theorem gL
  (Rz:s.TypeIs (.ref l) T) (RA:ė (.type T) (.type "set")=pure UO) (RB:ė (.type T) (.type "frozenset")=pure UO) (EX:(WB T==WB "dict")=UO)
  (hb:ys.length+1<Wn)
  (hit:∀(s1:U1) (B:WZ) (Q':UT->U1->Prop),B.handled=A.handled->(∀b o,s.heap.get? b=UI o->s1.heap.get? b=UI o)->s.heap.objs.size<s1.heap.objs.size ->
   (∀I fp wr G P St h1,WalksS prog w B.in1 I fp wr G ys.length P St->(∀g g',G g g'->g'=g)->s.heap.objs.size∉fp->(∀b∈wr,s.heap.objs.size<b)->(∀i v,P i v->∃x t,ys[i]?=UI x/\v=.str x t)->St 0 {s1 with heap:=h1}->(∀b o,s1.heap.get? b=UI o->h1.get? b=UI o)->Q' (.ref I) {s1 with heap:=h1})->UU (U6 prog w) B (ô (.ref l)) Q' E s1)
  (h:∀(h':Ws) (tk:Nat),aL prog w h' s.heap.objs.size (aB w) (ao ys)->(∀b o,b<s.heap.objs.size->s.heap.get? b=UI o->h'.get? b=UI o)->Q (.ref s.heap.objs.size) {s with heap:=h',toks:=tk}) :
  UU (U6 prog w) A (X0 (.type "set") [.ref l]) Q E s:=by
 obtain⟨c,tl,RC⟩:=PySem.F.called_set.mro;have GB:=PySem.F.called_set.made;have Fy:=PySem.F.called_set.sub;refine wpAny_call (Ž ?_);show UU _ _ (callAny (.type "set") _) _ _ _;refine UM ⟨Ĝ _ (by decide +kernel),WS PySem.F.entry_type_call ?_⟩;rw[Around.under_plain (weight_type_call_type "set" [.ref l] []) rfl];have h1:=PySem.F.called_set.notType;have h2:=PySem.F.called_set.canCreate;have Ug:=PySem.F.typeCall_set_1 (.ref l)
 repeat (any_goals (first|assumption|wp_step))
 refine Zc (lp (.ref l) (E:=E) (Q₁:=λobj s₁=>obj=.ref s.heap.objs.size/\s₁={s with heap:=s.heap.push (qm (aB w))}) ⟨rfl,rfl⟩) λr s₁ hr=>?_;cases r with
 |error e=>exact hr
 |ok fl =>
  cases fl with
  |ret obj =>
   obtain⟨rfl,rfl⟩:=hr;have hS:(s.heap.push (qm (aB w))).get? s.heap.objs.size=UI (qm (aB w)):=UZ _ rfl;have hT:YB {s with heap:=s.heap.push (qm (aB w))} (.ref s.heap.objs.size) "set":=⟨_,hS,rfl⟩
   have Uh:=PySem.F.called_set.init.lookup;have NI:=PySem.F.called_set.init.bind (.ref s.heap.objs.size)
   repeat (any_goals (first|assumption|wp_step))
   refine Zc (codeAny_call_builtin (R:=wants (λr s₂=>r=.none/\∃h' tk,s₂={s with heap:=h',toks:=tk} /\
     aL prog w h' s.heap.objs.size (aB w) (ao ys) /\
     (∀b o,b<s.heap.objs.size->s.heap.get? b=UI o->h'.get? b=UI o)) E) PySem.F.called_set.init.plain PySem.F.entry_set_init (check_set_init_1 hT ?_)) λr₂ s₂ NJ=>?_
   ·obtain⟨ol,KQ,Mj⟩:=Rz;obtain⟨RE,KR,KS,Jm⟩:=ol;simp only at Mj;subst Mj;have NK:(s.heap.push (qm (aB w))).get? l=UI {cls:=.type T,dict:=KR,data:=KS,slots:=Jm}:=UL _ KQ;have PJ:YB {s with heap:=s.heap.push (qm (aB w))} (.ref l) T:=⟨_,NK,rfl⟩
    unfold Xk.«set.__init__» noKeywords Ŀ;generalize RF:ô=PI
    wp_walk
    subst RF;refine hit {s with heap:=s.heap.push (qm (aB w))} _ _ rfl (λb o e=>UL _ e) (by rw[WN];exact YQ _) λI fp wr G P St h1 W hG hf RG Jk Ei hk=>?_;refine UJ (ñ ?_);refine iB W s.heap.objs.size hf (aB w) ys rfl Jk hb (ys.length - 0) 0 _ ⋯ (Vo _) Ei (gh (hk _ _ hS)) ?_;intro s' hm G1;obtain⟨h',g',d',RH,Nd⟩:=s';have eg:g'=s.gens:=hG _ _ hm.gens;have ed:d'=s.drawn:=hm.drawn;have eo:Nd=s.os:=hm.os;subst eg;subst ed;subst eo;show UU _ _ _ _ _ _;refine UM ?_;show UU _ _ (ret Vy) _ _ _;refine UM ⟨rfl,h',RH,rfl,G1,λb o Fx e=>?_⟩;exact hm.heap b o (λz=>by
     rcases U2.mp z with z|z
     ·rw[z]at Fx;exact V8 _ Fx
     ·exact absurd (RG b z) (Nat.not_lt_of_lt Fx)) (hk _ _ (UL _ e))
   ·cases r₂ with
    |error e=>exact NJ
    |ok RJ =>
     cases RJ with
     |ret r =>
      obtain⟨rfl,h',tk,rfl,G1,FE⟩:=NJ
      repeat (any_goals (first|assumption|wp_step))
      exact h _ _ G1 FE
     |_=>exact NJ.elim
  |_=>exact hr.elim
end
section
theorem mV:∀{vs:List UT}{ss:List Str},Ym vs ss->∀(i:Nat) (v:UT),vs[i]?=UI v->∃x t,ss[i]?=UI x/\v=.str x t
 |_,_,.nil,i,v,h=>by simp at h
 |_,_,.cons x t h,0,v,e=>by simp at e;exact⟨x,t,rfl,e.symm⟩
 |_,_,.cons x t h,i+1,v,e=>by rw[YM]at e;rw[YM];exact mV h i v e
theorem gM:∀{vs:List UT}{ss:List Str},Ym vs ss->vs.length=ss.length
 |_,_,.nil=>rfl
 |_,_,.cons x t h=>by simp[gM h]
theorem rJ(h1:n≠S)(h2:n≠l):n∉[S,l]:=by simp[h1,h2]
theorem eS(hh:A.handled=UK)(hl:s.heap.IsList l vs.toArray)(hS:Ym vs ys)(hb:ys.length+1<Wn)
  (h:∀(h':Ws) (tk:Nat),aL prog w h' s.heap.objs.size (aB w) (ao ys)->(∀b o,b<s.heap.objs.size->s.heap.get? b=UI o->h'.get? b=UI o)->Q (.ref s.heap.objs.size) {s with heap:=h',toks:=tk}) :
  UU (U6 prog w) A (X0 (.type "set") [.ref l]) Q E s:=by
 have KU:l<s.heap.objs.size:=let ⟨o,ho,_⟩:=hl;UY ho;refine gL hl.typeIs PySem.F.sub_list_set PySem.F.sub_list_frozenset (by decide) hb (λs1 B Q' hB hk Ez hq=>?_) h;have G0:s1.heap.IsList l vs.toArray:=let ⟨o,ho,r⟩:=hl;⟨o,hk _ _ ho,r⟩;refine X6 G0 ?_;have Jn:l≠s1.heap.objs.size:=U5 (ZS KU Ez);have W:=(Č (prog:=prog) (w:=w) (A:=B.in1) (by simp[hB,hh]) s1.heap.objs.size l Jn vs.toArray).toS;have el:vs.toArray.size=ys.length:=by simp[gM hS]
 rw[el]at W;refine hq _ _ _ _ _ _ _ W (λ_ _ e=>e) (rJ (U5 Ez) (VV KU)) (λb hb=>by rw[Vl.mp hb];exact Ez) (λi v hv=>mV hS i v (by simpa using hv)) ⟨⟨_,UZ _ rfl,rfl,rfl⟩,G0.push _⟩ λb o e=>UL _ e
theorem fT(hh:A.handled=UK)(hl:s.heap.IsTuple l vs.toArray)(hS:Ym vs ys)(hb:ys.length+1<Wn)
  (h:∀(h':Ws) (tk:Nat),aL prog w h' s.heap.objs.size (aB w) (ao ys)->(∀b o,b<s.heap.objs.size->s.heap.get? b=UI o->h'.get? b=UI o)->Q (.ref s.heap.objs.size) {s with heap:=h',toks:=tk}) :
  UU (U6 prog w) A (X0 (.type "set") [.ref l]) Q E s:=by
 have KU:l<s.heap.objs.size:=let ⟨o,ho,_⟩:=hl;UY ho;refine gL hl.typeIs sub_tuple_set sub_tuple_frozenset (by decide) hb (λs1 B Q' hB hk Ez hq=>?_) h;have G0:s1.heap.IsTuple l vs.toArray:=let ⟨o,ho,r⟩:=hl;⟨o,hk _ _ ho,r⟩;refine Xi G0 ?_;have Jn:l≠s1.heap.objs.size:=U5 (ZS KU Ez);have W:=(Walks.tuple (prog:=prog) (w:=w) (A:=B.in1) (by simp[hB,hh]) s1.heap.objs.size l Jn vs.toArray).toS;have el:vs.toArray.size=ys.length:=by simp[gM hS]
 rw[el]at W;refine hq _ _ _ _ _ _ _ W (λ_ _ e=>e) (rJ (U5 Ez) (VV KU)) (λb hb=>by rw[Vl.mp hb];exact Ez) (λi v hv=>mV hS i v (by simpa using hv)) ⟨⟨_,UZ _ rfl,rfl,rfl⟩,let ⟨o,ho,r⟩:=G0;⟨o,UL _ ho,r⟩⟩ λb o e=>UL _ e
theorem mW(hn:n≠0)(h:∀i<n,Q i {s with drawn:=s.drawn.bump src}):UU M A (choose src n) Q E s:=λΓ p hΓ=>by
 show Sem.wp M Γ (.choose src n .pure) _ _ p s;rw[Sem.wp_choose];exact⟨hn,h _ (YT _ (Nat.pos_of_ne_zero hn))⟩
theorem gk:∀{xs:List α}{i:Nat}{x:α},xs[i]?=UI x->(x::xs.eraseIdx i).Perm xs
 |[],i,x,h=>by simp at h
 |y::ys,0,x,h=>by simp at h;subst h;exact .refl _
 |y::ys,i+1,x,h=>by
  rw[YM]at h;rw[è];exact(ē y x _).trans ((gk h).cons y)
theorem fU:∀(n:Nat) (xs:List α) (s:U1) (Q:List α->U1->Prop),xs.length=n->(∀ys d,ys.Perm xs->Q ys {s with drawn:=d})->UU M A (drawOrder n xs) Q E s
 |0,xs,s,Q,hn,h=>by
  have:xs=[]:=XJ.mp hn;subst this;exact UM (h [] s.drawn (.refl _))
 |n+1,[],s,Q,hn,h=>by simp at hn
 |n+1,y::ys,s,Q,hn,h=>by
  show UU M A (choose .order (y::ys).length >>= _) Q E s;refine UJ (mW (by simp) λi hi=>?_);have e:(y::ys)[i]?=UI ((y::ys)[i]'hi):=V2 hi;have hp:=gk e;generalize (y::ys)[i]'hi=x at e hp;simp only[e];refine UJ (fU n _ _ _ (by have:=hp.length_eq;simp at this hn ⊢;omega) λzs d hz=>?_);exact UM (h (x::zs) d ((hz.cons x).trans hp))
theorem iZ(next:Nat->Nat):∀(fuel k:Nat) (left:List α) (out:Array α),left.length=fuel->(Å next fuel k left out).toList.Perm (out.toList++left)
 |0,k,left,out,hl=>by
  have:left=[]:=XJ.mp hl;subst this;simp[Å]
 |fuel+1,k,left,out,hl=>by
  unfold Å;have Ez:next k % left.length<left.length:=YT _ ⋯;have e:left[next k % left.length]?=UI (left[next k % left.length]'Ez):=V2 Ez;have hp:=gk e;generalize left[next k % left.length]'Ez=x at e hp;simp only[e];refine(iZ next fuel _ _ _ (by have:=hp.length_eq;simp at this;omega)).trans ?_;rw[Ġ,İ];exact(hp.append_left _)
theorem dg(next:Nat->Nat)(xs:Array α):(Ô next xs).toList.Perm xs.toList:=by
 have:=iZ next xs.size 0 xs.toList #[] (by simp);simpa[Ô] using this
end
namespace SI
theorem oD:Manifest.owners.lookup (String.ofList ['r','o','t','a','r','e','t','i','_','t','e','s'].reverse)=UI Manifest.sig_set_iterator:=by kernel_rfl
theorem slot_next:Slot "set_iterator" "__next__" "set_iterator.__next__" :=
 .of (owner:="set_iterator") (n:="__next__") (by rw[å,Zq];kernel_rfl) (by decide +kernel) (by decide +kernel) (by decide +kernel)
  (by first|exact .inl (by decide +kernel)|exact .inr (by decide +kernel)) (by rw[Zx];kernel_rfl)
theorem entry_next:Ľ table "set_iterator.__next__"=UI Xk.«set_iterator.__next__»:=entryFor_of_tree (by kernel_rfl)
theorem args_next(a:UT):Ξ "set_iterator.__next__" ⟨[a],[]⟩:=by
 unfold Ξ;rw[signature?_of (id:="set_iterator.__next__") (n:=['_','_','t','x','e','n','_','_']) (o:=['r','o','t','a','r','e','t','i','_','t','e','s']) (by kernel_rfl) oD];kernel_rfl
theorem lL:Slot "set_iterator" "__iter__" "set_iterator.__iter__" :=
 .of (owner:="set_iterator") (n:="__iter__") (by rw[å,Zq];kernel_rfl) (by decide +kernel) (by decide +kernel) (by decide +kernel)
  (by first|exact .inl (by decide +kernel)|exact .inr (by decide +kernel)) (by rw[Zx];kernel_rfl)
theorem tS(a:UT):Ξ "set_iterator.__iter__" ⟨[a],[]⟩:=by
 unfold Ξ;rw[signature?_of (id:="set_iterator.__iter__") (n:=['_','_','r','e','t','i','_','_']) (o:=['r','o','t','a','r','e','t','i','_','t','e','s']) (by kernel_rfl) oD];kernel_rfl
theorem qo:Ľ table "set_iterator.__iter__"=UI Xk.«dict_keyiterator.__iter__» :=
 ö (id':="dict_keyiterator.__iter__") (by kernel_rfl) (by first|rfl|decide +kernel|(unfold String.splitOn;simp +decide [String.splitOnAux])) (by decide +kernel) (by kernel_rfl)
theorem jW:Ľ table "set.__iter__"=UI Xk.«frozenset.__iter__» :=
 ö (id':="frozenset.__iter__") (by kernel_rfl) rfl (by decide +kernel) (by kernel_rfl)
end SI
section
variable{prog:VZ}{w:Wi}{A:WZ}{E:UT->U1->Prop}{s:U1}
def gn(h:Ws)(I:U8)(first:UT)(i:Nat)(S:U8)(n ep:Nat):Prop:=∃o,h.get? I=UI o/\o.cls=.type "set_iterator"/\o.data=.fields #[first,V0 i,.ref S,V0 n,V0 ep]
theorem gn.typeIs(x:gn s.heap I f i S n ep):s.TypeIs (.ref I) "set_iterator":=let ⟨o,ho,hc,_⟩:=x;⟨o,ho,hc⟩
theorem yo(hit:gn s.heap I f i S n ep)(h:Q (.ref I) s):UU (U6 prog w) A (ô (.ref I)) Q E s:=by
 refine ŝ hit.typeIs SI.lL (VI SI.lL hit.typeIs SI.qo ?_ (SI.tS _));show UU _ _ (ret (.ref I)) _ _ s;exact UM ⟨_,rfl,"set_iterator",_,hit.typeIs,SI.slot_next.lookup,h⟩
theorem cm(h:Q (M.w.params.followText "set-order") s):UU M A Œ Q E s:=by
 unfold Œ;exact UJ (Yh (UM h))
end
end L2
namespace L2
open PySem PySem.Spec PyProof.Rows
section
variable{prog:VZ}{w:Wi}{A:WZ}{E:UT->U1->Prop}{s:U1}
abbrev mX(es:Array (Int×UT))(ep:Nat)(t:XB):Obj:={cls:=.type "set",dict:=UK,data:=.set es ep t}
theorem oE{I:U8}{B:WZ}{Q:Option UT->U1->Prop}{h1:Ws}{k:UT->Sem (Option UT)}(hh:B.handled=UK)
  (hQ:∀h',(∀b o,h1.get? b=UI o->h'.get? b=UI o)->∀e,YB {s with heap:=h' } e "StopIteration"->E e {s with heap:=h' }) {Q':Fin->U1->Prop} :
  UU (U6 prog w) B (ģ (.type "StopIteration") [] >>= λe=>(ó e:Sem Fin)) Q' E {s with heap:=h1}:=by
 refine UJ ?_;simp only[ģ,Μ];refine UJ (VL ?_ (by size_fits));refine UJ (m:=Zz _ _) (Û (a:=Vy) (by first|rfl|(simp only[Zz];rfl)) ?_);refine VL ?_ (by size_fits);simp only[ó];refine UJ (wpAny_handled ?_);rw[hh];refine UJ (UM (wpAny_throw ?_));exact hQ _ (λb o e=>UL _ (UL _ e)) _ ⟨_,UZ _ rfl,rfl⟩
theorem rK{I S:U8}{first:UT}{i ep:Nat}{es:Array (Int×UT)}{t:XB}(hit:gn s.heap I first i S es.size ep)(ho:s.heap.get? S=UI (mX es ep t))(hf:t.fits es.size=UN)
  (KW:∀(Q':Fin->U1->Prop) (E':UT->U1->Prop) ,(∀v s',Q (UI v) s'->Q' (.done (.ret v)) s')->(∀e s',s'.TypeIs e "StopIteration"->Q UK s'->E' e s') ->
   UU (U6 prog w) A.in1 (if let .int slot _:=first then(do
     match <-Â S slot.toNat i ep with
     |some (x,next) =>
      Ã (.ref I) 0 (V0 next)
      Ã (.ref I) 1 (V0 ((i:Int)+1))
      ret x
     |none=>Ã (.ref I) 2 .none;ó (<-ģ (.type "StopIteration") []))
    else(do
     let UI places <-Ó first|unsupported "internal:set_iterator"
     match places[i]? with
     |some (.int place _) =>
      let x <-Ģ S place.toNat ep
      Ã (.ref I) 1 (V0 ((i:Int)+1))
      ret x
     |some _=>Ü "internal:set_iterator"
     |none=>Ã (.ref I) 0 (V0 0);Ã (.ref I) 2 .none;ó (<-ģ (.type "StopIteration") []))) Q' E' s):UU (U6 prog w) A (Yj (.ref I)) Q E s:=by
 obtain⟨o,hI,hc,hd⟩:=id hit;unfold Yj;refine UJ (ZU (V7 (name:=W7 "__next__") hit.typeIs SI.slot_next
  (VI SI.slot_next hit.typeIs SI.entry_next ?_ (SI.args_next _))))
 unfold Xk.«set_iterator.__next__»;refine UJ (Û (a:=(Vd I,[])) rfl ?_)
 try dsimp only
 refine UJ (wpAny_fieldsOf hI hd ?_)
 try dsimp only
 refine UJ (YA ho rfl hf ?_);rw[ε (by simp)];refine VS (KW (λfin s'=>∃r,fin=.done (.ret r)/\Q (UI r) s') (λe s'=>s'.TypeIs e "StopIteration"/\Q UK s') (λv s' q=>⟨v,rfl,q⟩) λe s' z q=>⟨z,q⟩) ?_ ?_
 ·rintro fin s' ⟨r,rfl,q⟩;exact⟨r,rfl,UM q⟩
 ·rintro e s' ⟨z,q⟩;refine UJ (Wm (T:="StopIteration") (b:=UN) z Zy ?_);exact UM q
end
section
theorem rL{I S:U8}{f f':UT}{i n ep:Nat}{h:Ws}{o:Obj}(hI:h.get? I=UI o)(hc:o.cls=.type "set_iterator")(hd:o.data=.fields #[f,V0 i,.ref S,V0 n,V0 ep]):
  gn (h.update I (Ŧ (·.setIfInBounds 1 (V0 ((i:Int)+1))))) I f (i+1) S n ep :=
 ⟨_,V4 _ hI (Y3 (W8 hd _)),(ZR ..).trans hc,by rw[W8 hd];simp⟩
theorem oF{h:Ws}(hI:h.get? I=UI o)(hc:o.cls=.type "set_iterator")(hd:o.data=.fields #[f,V0 i,.ref S,V0 n,V0 ep]):
  ∃o',(h.update I (Ŧ (·.setIfInBounds 0 f'))).get? I=UI o'/\o'.cls=.type "set_iterator"/\o'.data=.fields #[f',V0 i,.ref S,V0 n,V0 ep] :=
 ⟨_,V4 _ hI (Y3 (W8 hd _)),(ZR ..).trans hc,by rw[W8 hd];simp⟩
theorem vF{I S:U8}{slot i ep:Nat}{es:Array (Int×UT)}{t:XB}{Q:Option UT->U1->Prop}(hit:gn s.heap I (V0 slot) i S es.size ep)(ho:s.heap.get? S=UI (mX es ep t))(hf:t.fits es.size=UN)(hh:A.handled=UK)
  {r:Option (UT×Nat)} (hn:∀(B:WZ) (E':UT->U1->Prop) (Q':Option (UT×Nat)->U1->Prop),Q' r s->UU (U6 prog w) B (Â S slot i ep) Q' E' s)
  (h1:∀x nx,r=UI (x,nx)->∀h',gn h' I (V0 nx) (i+1) S es.size ep->Vz I s.heap h'->Q (UI x) {s with heap:=h' })
  (h2:r=UK->∀h',(∀b o,b≠I->s.heap.get? b=UI o->h'.get? b=UI o)->Q UK {s with heap:=h' }):UU (U6 prog w) A (Yj (.ref I)) Q E s:=by
 refine rK hit ho hf λQ' E' q1 q2=>?_;obtain⟨o,hI,hc,hd⟩:=id hit;show UU _ _ (Â S slot i ep >>= _) _ _ s;refine UJ (hn _ _ _ ?_);cases r with
 |some p =>
  obtain⟨x,nx⟩:=p
  dsimp only
  refine UJ (W6 hI hd (by simp) ?_);obtain⟨o',e1,e2,e3⟩:=oF (f':=V0 nx) hI hc hd;refine UJ (W6 (s:={s with heap:=_}) e1 e3 (by simp) ?_);exact UM (q1 _ _ (h1 x nx rfl _ (rL (f':=V0 nx) e1 e2 e3) ((Wf ..).trans (Wf ..))))
 |none =>
  dsimp only
  refine UJ (W6 hI hd (by simp) ?_);refine oE (I:=I) (k:=λ_=>pure UK) (Q:=λ_ _=>True) (s:=s) (by simpa using hh) λh' hk e he=>q2 e _ he (h2 rfl h' λb ob hb eb=>hk b ob ?_);rw[Xz _ _ _ _ hb];exact eb
theorem AZ{I S T:U8}{i ep:Nat}{es:Array (Int×UT)}{t:XB}{pl:List Nat}{Q:Option UT->U1->Prop}(hit:gn s.heap I (.ref T) i S es.size ep)(ho:s.heap.get? S=UI (mX es ep t))(hf:t.fits es.size=UN)(hh:A.handled=UK)
  (hT:s.heap.IsTuple T ((pl.map λ(j:Nat)=>V0 j).toArray))
  (h1:∀(j:Nat) (e:Int×UT),pl[i]?=UI j->es[j]?=UI e->∀h',gn h' I (.ref T) (i+1) S es.size ep->Vz I s.heap h'->Q (UI e.2) {s with heap:=h' })
  (hp:∀j∈pl,j<es.size)
  (h2:pl[i]?=UK->∀h',(∀b o,b≠I->s.heap.get? b=UI o->h'.get? b=UI o)->Q UK {s with heap:=h' }):UU (U6 prog w) A (Yj (.ref I)) Q E s:=by
 refine rK hit ho hf λQ' E' q1 q2=>?_;obtain⟨o,hI,hc,hd⟩:=id hit;obtain⟨oT,RK,Ui,nT,RL⟩:=hT;show UU _ _ (Ó (.ref T) >>= _) _ _ s;refine UJ (Wq RK RL ?_);cases e:pl[i]? with
 |some j =>
  have e':(pl.map λ(j:Nat)=>V0 j).toArray[i]?=UI (V0 j):=by simp[e]
  simp only[e'];have hj:j<es.size:=hp j (Vt e);have ej:es[j]?=UI (es[j]'hj):=by simp[hj]
  show UU _ _ (Ģ S (j:Int).toNat ep >>= _) _ _ s;unfold Ģ;rw[WC];refine UJ (UJ (Vn ho rfl hf ?_))
  dsimp only
  rw[ε (by simp)];generalize es[j]'hj=p at ej;simp only[ej];refine UM ?_;refine UJ (W6 hI hd (by simp) ?_);exact UM (q1 _ _ (h1 j p e ej _ (rL (f':=.ref T) hI hc hd) (Wf ..)))
 |none =>
  have e':(pl.map λ(j:Nat)=>V0 j).toArray[i]?=UK:=by simp at e ⊢;exact e
  simp only[e'];refine UJ (W6 hI hd (by simp) ?_);obtain⟨o',e1,e2,e3⟩:=oF (f':=V0 0) hI hc hd;refine UJ (W6 (s:={s with heap:=_}) e1 e3 (by simp) ?_);refine oE (I:=I) (k:=λ_=>pure UK) (Q:=λ_ _=>True) (s:=s) (by simpa using hh) λh' hk ex he=>q2 ex _ he (h2 e h' λb ob hb eb=>hk b ob ?_);rw[Xz _ _ _ _ hb,Xz _ _ _ _ hb];exact eb
end
section
theorem gn.at(x:gn h I f i S n ep)(e:∀o,h.get? I=UI o->h'.get? I=UI o):gn h' I f i S n ep:=let ⟨o,ho,r⟩:=x;⟨o,e _ ho,r⟩
theorem jX(hh:A.handled=UK)(EX:S≠I)(hf:t.fits es.size=UN)(T:U8)(hT:T≠I)(ord:List UT)(hlen:ord.length=es.size)
  (first:Nat->UT) (side:Ws->Prop) (GC:∀h h',side h->(∀o,h.get? T=UI o->h'.get? T=UI o)->side h')
  (Gy:∀(s:U1) (i:Nat) (E:UT->U1->Prop) (Q:Option UT->U1->Prop),i<=es.size->side s.heap->gn s.heap I (first i) i S es.size ep->s.heap.get? S=UI (mX es ep t) ->
   (∀x,ord[i]?=UI x->∀h',gn h' I (first (i+1)) (i+1) S es.size ep->Vz I s.heap h'->Q (UI x) {s with heap:=h' }) ->
   (ord[i]?=UK->∀h',(∀b o,b≠I->s.heap.get? b=UI o->h'.get? b=UI o)->Q UK {s with heap:=h' })->UU (U6 prog w) A (Yj (.ref I)) Q E s) :
  Walks prog w A I [I,S,T] [I] es.size (λi v=>ord[i]?=UI v) (λi h=>i<=es.size/\gn h I (first i) i S es.size ep/\h.get? S=UI (mX es ep t)/\side h) where
 sub:=λb hb=>by rw[Vl.mp hb];simp
 frame:=λi h h' x hk=>⟨x.1,x.2.1.at λo e=>hk I (by simp) o e,hk S (by simp) _ x.2.2.1,GC h h' x.2.2.2 λo e=>hk T (by simp) o e⟩
 item:=λi s Q E hi x hQ=>by
  refine Gy s i E Q x.1 x.2.2.2 x.2.1 x.2.2.1 (λv hv h' hit hs=>?_) λz=>absurd z (by simp;omega);refine hQ v h' s.toks hv ⟨hi,hit,?_,GC _ h' x.2.2.2 λo e=>?_⟩ λb o hb e=>?_
  ·rw[hs.2 S EX];exact x.2.2.1
  ·rw[hs.2 T hT];exact e
  ·rw[hs.2 b λz=>hb (by simp[z])];exact e
 done:=λs Q E x hQ=>by
  refine Gy s es.size E Q x.1 x.2.2.2 x.2.1 x.2.2.1 (λv hv=>absurd hv (by rw[ü ⋯];simp)) λ_ h' hk=>hQ h' s.toks λb o hb e=>hk b o (λz=>hb (by simp[z])) e
 self:=λi s Q E x hQ=>yo x.2.1 hQ
theorem mY(ho:s.heap.get? S=UI (mX es ep t))(hf:t.fits es.size=UN)(h:Q (!w.params.followText "set-order"&&(!t.plain&&UP (es.size>1))) s):UU (U6 prog w) A (setDrawn S) Q E s:=by
 unfold setDrawn;refine UJ (Vn ho rfl hf ?_)
 dsimp only
 exact UJ (cm (UM h))
theorem mZ(hw:w.params.followText "set-order"=UN)(ho:s.heap.get? S=UI (mX es ep t))(hf:t.fits es.size=UN)
  (h:Q ((Ô (w.params.setOrder S ep) es)[i]?.map λe=>(e.2,0)) s):UU (U6 prog w) A (Â S 0 i ep) Q E s:=by
 unfold Â;refine UJ (Vn ho rfl hf ?_)
 dsimp only
 refine UJ (cm ?_);show UU _ _ (if (w.params.followText "set-order")=UN then _ else _) _ _ s;rw[δ hw];rw[ε (by simp)];unfold setWalk;refine UJ (UJ (Vn ho rfl hf ?_))
 dsimp only
 refine UJ (cm ?_);show UU _ _ (if (w.params.followText "set-order")=UN then _ else _) _ _ s;rw[δ hw];refine UJ (Yh (UM ?_));exact UM h
theorem oG(hw:w.params.followText "set-order"=UO)(ho:s.heap.get? S=UI (mX es ep t))(hf:t.fits es.size=UN)(hl:t.led=UN)(h1:es.size<=1)
    (h:Q (match es[WR t.place slot]?,t.place[WR t.place slot]? with|some (_,x),UI j=>UI (x,j+1)|_,_=>UK) s):UU (U6 prog w) A (Â S slot i ep) Q E s:=by
  unfold Â;refine UJ (Vn ho rfl hf ?_)
  dsimp only
  refine UJ (cm ?_);show UU _ _ (if (w.params.followText "set-order")=UN then _ else _) _ _ s;rw[ε (by rw[hw];simp)];show UU _ _ (if (!t.plain&&UP (es.size>1))=UN then _ else _) _ _ s
  rw [if_neg (by have : decide (es.size > 1) = false := decide_eq_false (by omega)
                 rw[this];simp)]
  show UU _ _ ((if (!t.led&&!es.isEmpty)=UN then _ else _) >>= _) _ _ s;rw[ε (by rw[hl];simp)];exact UJ (UM (UM h))
theorem oH(es:Array (Int×UT))(pl:Array Nat)(i:Nat)(h1:es.size<=1)(h2:pl.size=es.size)(h3:i<=es.size):
  (match es[WR pl (if i=0 then 0 else(pl[0]?).getD 0+1)]?,pl[WR pl (if i=0 then 0 else(pl[0]?).getD 0+1)]? with|some (_,x),UI j=>UI (x,j+1)|_,_=>UK)=es[i]?.map λe=>(e.2,(pl[0]?).getD 0+1):=by
 obtain⟨es⟩:=es;obtain⟨pl⟩:=pl
 match es,pl,h1,h2,h3 with
 |[],[],_,_,h3=>simp
 |[e],[p],_,_,h3 =>
  match i,h3 with
  |0,_ =>
   have:WR #[p] 0=0:=by simp[WR,Ê]
   simp[this]
  |1,_ =>
   have:WR #[p] (p+1)=1:=by simp[WR,Ê]
   simp[this]
  |n+2,h=>simp at h
 |[],_::_,_,h,_=>simp at h
 |[_],[],_,h,_=>simp at h
 |[_],_::_::_,_,h,_=>simp at h
 |_::_::_,_,h,_,_=>simp at h
theorem vG(hh:B.handled=UK)(hS:aL prog w s.heap S (aB w) D)
  (h:∀(I:U8) (fp:List U8) (n:Nat) (P:Nat->UT->Prop) (St:Nat->Ws->Prop) (ys:List Str) (h':Ws) (d':Drawn),Walks prog w B I fp [I] n P St->ys.Perm D->n=ys.length->(∀i v,P i v->∃x tk,ys[i]?=UI x/\v=.str x tk)->s.heap.objs.size<=I->(∀b∈fp,b=S\/s.heap.objs.size<=b)->St 0 h' ->
   (∀b o,s.heap.get? b=UI o->h'.get? b=UI o)->Q (.ref I) {s with heap:=h',drawn:=d' }):UU (U6 prog w) A (ô (.ref S)) Q E s:=by
 obtain⟨L,es,ep,t,ho,EZ,Eg,Eo,hf,hb,E3,EY⟩:=hS;have PK:s.TypeIs (.ref S) "set":=⟨_,ho,rfl⟩
 have Hl:S<s.heap.objs.size:=UY ho;refine ŝ PK PySem.F.slot_set_iter (VI PySem.F.slot_set_iter PK SI.jW ?_ (PySem.F.args_set_iter_1 _));unfold Xk.«frozenset.__iter__» ŀ slotArgs;simp only[List.isEmpty_nil,WH,VD,↓reduceIte,bind_assoc,YU,bne_self_eq_false];unfold Zi X2;refine UJ (UM ?_)
 try dsimp only
 refine UJ (UM ?_);refine UJ (UJ (YA ho rfl hf (UM ?_)));have RM:D.length=es.size:=by rw[<-Eg.length_eq,UQ,<-Va,EZ,UQ]
 have look:∀(l:List (Int×UT)),l.Perm es.toList->∃ys:List Str,ys.Perm D/\ys.length=es.size/\∀(i:Nat) (v:UT),(l.map (·.2))[i]?=UI v->∃(x:Str) (tk:Tok),ys[i]?=UI x/\v=VF x tk:=by
  intro l hl;rw[EZ]at hl;obtain⟨L',e',p'⟩:=cF hl;refine⟨L'.map (·.1),(p'.map _).trans Eg,by rw[((p'.map _).trans Eg).length_eq,RM],λi v hv=>?_⟩;subst e';rw[U4,Vi]at hv;rw[Vi];cases q:L'[i]? with
  |none=>rw[q]at hv;simp at hv
  |some p=>rw[q]at hv;simp at hv;exact⟨p.1,p.2,rfl,hv.symm⟩
 refine UJ (mY ho hf ?_);cases hw:w.params.followText "set-order" with
 |true =>
  simp only[WH,Ō,VD,↓reduceIte];refine UJ (UM ?_);refine UJ (UJ (Vn ho rfl hf (UM ?_)));refine UJ (VL ?_);have hn:S≠s.heap.objs.size:=U5 Hl;obtain⟨ys,y1,y2,y3⟩:=look (Ô (w.params.setOrder S ep) es).toList (dg _ _);have W:=jX (prog:=prog) (w:=w) (A:=B) (I:=s.heap.objs.size) (S:=S) (es:=es) (ep:=ep) (t:=t) hh hn hf S hn ((Ô (w.params.setOrder S ep) es).toList.map (·.2)) (by rw[UQ,(dg _ _).length_eq,Va]) (λ_=>V0 0) (λ_=>True) (λ_ _ _ _=>trivial)
   (λs i E Q _ _ hit E4 k1 k2=>vF (slot:=0) hit E4 hf hh (λB E' Q' q=>mZ hw E4 hf q) (λx nx e h' Gk hs=>by
    rw[U3]at e;obtain⟨p,e1,e2⟩:=e;cases e2;exact k1 _ (by rw[Vi,Wb,e1];rfl) h' Gk hs) (λe=>k2 (by rw[Vi,Wb,YL];rwa [YL]at e)))
  refine UM ⟨_,rfl,"set_iterator",_,⟨_,UZ _ rfl,rfl⟩,SI.slot_next.lookup,?_⟩;exact h _ _ _ _ _ ys _ s.drawn W y1 y2.symm y3 (U_ _) (λb hb=>by
   simp only[U2,Wu,or_false]at hb;rcases hb with rfl|rfl|rfl
   ·exact .inr (U_ _)
   ·exact .inl rfl
   ·exact .inl rfl) ⟨Vo _,⟨_,UZ _ rfl,rfl,rfl⟩,UL _ ho,trivial⟩ λb o e=>UL _ e
 |false =>
  by_cases hsz:es.size>1
  ·have E_:t.plain=UO:=by
    rcases EY with z|z
    ·omega
    ·exact z
   have e1:(!UO&&(!t.plain&&UP (es.size>1)))=UN:=by rw[E_,η hsz];rfl
   rw[e1];simp only[↓reduceIte];refine UJ (fU _ _ _ _ WO λpl d' hp=>?_);simp only[Μ];have HW:∀j∈pl,j<es.size:=λj hj=>by have:=hp.mem_iff.mp hj;simpa using this
   have KY:pl.length=es.size:=by rw[hp.length_eq];simp
   refine UJ (VL ?_ (by
    show(pl.map λ(j:Nat)=>V0 j).toArray.size<=_;have:es.size<4096:=hb;simp only[U9,UQ,KY];have:(4096:Nat)<=US:=by decide
    omega))
   have Gm:(s.heap.push {cls:=.type "tuple",data:=.seq (pl.map λ(j:Nat)=>V0 j).toArray}).get? S=UI (mX es ep t):=UL _ ho;refine UJ (UJ (Vn (s:={s with heap:=_,drawn:=d' }) Gm rfl hf (UM ?_)));refine UJ (VL ?_);have RN:s.heap.objs.size≠(s.heap.push {cls:=.type "tuple",data:=.seq (pl.map λ(j:Nat)=>V0 j).toArray}).objs.size:=by rw[WN];exact U5 (YQ _)
   have hn:S≠(s.heap.push {cls:=.type "tuple",data:=.seq (pl.map λ(j:Nat)=>V0 j).toArray}).objs.size:=by rw[WN];exact U5 (YJ Hl)
   have Jo:(pl.map λj=>(es[j]?).getD (0,Vy)).Perm es.toList:=by
    refine(hp.map _).trans ?_;have:(UX es.size).map (λj=>(es[j]?).getD (0,Vy))=es.toList:=by
     apply Wv
     ·simp
     ·intro i h1 h2;simp at h1 ⊢;simp[h1]
    rw[this]
   obtain⟨ys,y1,y2,y3⟩:=look _ Jo;have W:=jX (prog:=prog) (w:=w) (A:=B) (I:=(s.heap.push {cls:=.type "tuple",data:=.seq (pl.map λ(j:Nat)=>V0 j).toArray}).objs.size) (S:=S) (es:=es) (ep:=ep) (t:=t) hh hn hf s.heap.objs.size RN ((pl.map λj=>(es[j]?).getD (0,Vy)).map (·.2)) (by simp[KY]) (λ_=>.ref s.heap.objs.size) (λh=>h.IsTuple s.heap.objs.size (pl.map λ(j:Nat)=>V0 j).toArray) (λh h' ⟨o,ho,r⟩ k=>⟨o,k _ ho,r⟩)
    (λs' i E Q _ GC hit E4 k1 k2=>AZ hit E4 hf hh GC (λj e ej ee h' Gk hs=>k1 _ (by rw[Vi,Vi,ej];simp[ee]) h' Gk hs) HW (λe=>k2 (by rw[Vi,Vi,e];rfl)))
   refine UM ⟨_,rfl,"set_iterator",_,⟨_,UZ _ rfl,rfl⟩,SI.slot_next.lookup,?_⟩;refine h _ _ _ _ _ ys _ d' W y1 y2.symm y3 (by rw[WN];exact XQ _) (λb hb=>?_) ⟨Vo _,⟨_,UZ _ rfl,rfl,rfl⟩,UL _ Gm,⟨_,UL _ (UZ _ rfl),rfl,_,rfl⟩⟩ λb o e=>UL _ (UL _ e);rw[WN]at hb;simp only[U2,Wu,or_false]at hb;rcases hb with rfl|rfl|rfl
   ·exact .inr (XQ _)
   ·exact .inl rfl
   ·exact .inr (U_ _)
  ·have e1:(!UO&&(!t.plain&&UP (es.size>1)))=UO:=by rw[ζ hsz];simp
   rw[e1];simp only[VD,↓reduceIte];refine UJ (UM ?_);refine UJ (UJ (Vn ho rfl hf (UM ?_)));refine UJ (VL ?_);have hn:S≠s.heap.objs.size:=U5 Hl;have RO:t.led=UN:=by rw[E3];show(!w.params.followText "set-order")=UN;rw[hw];rfl
   obtain⟨ys,y1,y2,y3⟩:=look es.toList (.refl _);have HI:t.place.size=es.size:=by
    unfold Ys at hf;simp only[UR,beq_iff_eq]at hf;exact hf.1
   have W:=jX (prog:=prog) (w:=w) (A:=B) (I:=s.heap.objs.size) (S:=S) (es:=es) (ep:=ep) (t:=t) hh hn hf S hn (es.toList.map (·.2)) (by simp) (λi=>V0 ((if i=0 then 0 else(t.place[0]?).getD 0+1:Nat):Nat)) (λ_=>True) (λ_ _ _ _=>trivial)
    (λs' i E Q hi _ hit E4 k1 k2=>vF (slot:=if i=0 then 0 else(t.place[0]?).getD 0+1) hit E4 hf hh (λB E' Q' q=>oG hw E4 hf RO ⋯ q) (λx nx e h' Gk hs=>by
     rw[oH es t.place i ⋯ HI hi,U3]at e;obtain⟨p,e1,e2⟩:=e;cases e2;refine k1 _ (by rw[Vi,Wb,e1];rfl) h' ?_ hs;rw[ε (Nat.succ_ne_zero i)];exact Gk) (λe=>by
     rw[oH es t.place i ⋯ HI hi,YL]at e;exact k2 (by rw[Vi,Wb,e];rfl)))
   refine UM ⟨_,rfl,"set_iterator",_,⟨_,UZ _ rfl,rfl⟩,SI.slot_next.lookup,?_⟩;exact h _ _ _ _ _ ys _ s.drawn W y1 y2.symm y3 (U_ _) (λb hb=>by
    simp only[U2,Wu,or_false]at hb;rcases hb with rfl|rfl|rfl
    ·exact .inr (U_ _)
    ·exact .inl rfl
    ·exact .inl rfl) ⟨Vo _,⟨_,UZ _ rfl,rfl,rfl⟩,UL _ ho,trivial⟩ λb o e=>UL _ e
end
theorem oI:Ő (.type "set") "__len__"=pure (UI (.builtin "set.__len__")):=by rw[å,Zq];kernel_rfl
section
theorem jY:∀{vs:List UT}{ys:List Str},vs.length=ys.length->(∀(i:Nat) (v:UT),vs[i]?=UI v->∃x t,ys[i]?=UI x/\v=.str x t)->Ym vs ys
 |[],[],_,_=>.nil
 |[],_::_,h,_=>by simp at h
 |_::_,[],h,_=>by simp at h
 |v::vs,y::ys,h,k=>by
  obtain⟨x,t,e1,e2⟩:=k 0 v rfl;cases e1;subst e2;exact .cons y t (jY (by simpa using h) λi w hw=>k (i+1) w hw)
theorem oJ(hh:A.handled=UK)(hS:aL prog w s.heap S (aB w) D)(hn:D.length<=US)
  (hQ:∀(vs:List UT) (ys:List Str) (h':Ws) (d':Drawn) (tk:Nat),ys.Perm D->Ym vs ys->s.heap.objs.size<=h'.objs.size->s.toks<=tk->(∀b o,s.heap.get? b=UI o->h'.get? b=UI o)->Q vs {s with heap:=h',drawn:=d',toks:=tk}) :
  UU (U6 prog w) A (Ĥ (.ref S)) Q E s:=by
 obtain⟨L,es,ep,t,ho,rest⟩:=id hS;have Hl:S<s.heap.objs.size:=UY ho;unfold Ĥ;refine UJ (ñ (WS PySem.F.entry_proto_collect ?_));rw[Xl PySem.F.plain_proto_collect _];show UU _ A.in1 (š [] >>= λl=>Ο (.builtin "list.__iadd__" ⟨[l,.ref S],[]⟩)) _ _ s;refine UJ (VL ?_);refine UM ⟨ZW PySem.F.plain_list_iadd _,WS PySem.F.entry_list_iadd ?_⟩;rw[Xl PySem.F.plain_list_iadd _];have Gm:(s.heap.push {cls:=.type "list",data:=.seq ([]:List UT).toArray}).get? S=UI {cls:=.type "set",dict:=UK,data:=.set es ep t}:=UL _ ho;have hT:YB {s with heap:=s.heap.push {cls:=.type "list",data:=.seq ([]:List UT).toArray}} (.ref S) "set":=⟨_,Gm,rfl⟩
 show UU _ A.in1 (WY (.ref s.heap.objs.size) (.ref S) (.ref s.heap.objs.size)) _ _ _;unfold WY;refine UJ (YE hT ?_);have EX:s.heap.objs.size≠S:=VV Hl;have h1:ZM (.ref s.heap.objs.size) (.ref S)=UO:=by simp[ZM,EX]
 have h2:(WB "set"==WB "list")=UO:=by decide
 have h3:(WB "set"==WB "tuple")=UO:=by decide
 simp only[h1,h2,h3,Ś,VD,ι];refine UJ (vG (B:=A.in1) (by simpa using hh) ⟨L,es,ep,t,Gm,rest⟩ ?_);intro I fp n P St ys h' d' W hp Mk hP hI RP Ei hk;have NM:YB {s with heap:=h',drawn:=d' } (.ref S) "set":=⟨_,hk _ _ Gm,rfl⟩
 refine UJ (VG ?_);unfold Α;refine UJ (XR NM oI ?_);have Gw:splitId "set.__len__"=UI ("set","__len__"):=by decide +kernel
 dsimp only
 rw[Gw]
 dsimp only
 refine UJ (Wm NM À ?_);rw[ε (by decide)];rw[δ (by decide +kernel)];refine UJ (YE NM ?_);refine UM ?_;rw[δ (by decide +kernel)];have KP:s.heap.objs.size∉fp:=λhm=>by
  rcases RP _ hm with z|z
  ·exact EX z
  ·rw[WN]at z;exact absurd z (Nat.not_succ_le_self _)
 have Hm:h'.get? s.heap.objs.size=UI {cls:=.type "list",data:=.seq ([]:List UT).toArray}:=hk _ _ (UZ _ rfl);refine UJ (WA ?_);refine UJ ?_;show UU _ A.in1 (updateSeq s.heap.objs.size (·.push .none) >>= λ_=>updateSeq s.heap.objs.size (·.pop)) _ _ _;refine UJ (Zk Hm rfl ?_);have J0:=V4 (VE (·.push Vy)) Hm rfl;refine Zk J0 rfl ?_;have RQ:=V4 (VE (·.pop)) J0 rfl;have EE:∀b o,b≠s.heap.objs.size->h'.get? b=UI o->((h'.update s.heap.objs.size (VE (·.push Vy))).update s.heap.objs.size (VE (·.pop))).get? b=UI o :=
  λb o hb e=>(XU _ _ (VP hb)).trans ((XU _ _ (VP hb)).trans e)
 refine UM ⟨ZW PySem.F.plain_extend_loop _,codeAny_extend_loopS W.toS (by rw[Mk,hp.length_eq];exact hn) _ KP _ n 0 _ _ _ rfl (Vo _) (W.frame 0 h' _ Ei λb hb o e=>EE b o (λz=>KP (z▸hb)) e) RQ (ItemsOf.nil P) λs' KZ c' hm G1 HV=>?_⟩;show UU _ A (load s.heap.objs.size >>= _) _ _ s';refine UJ (Ŏ G1 ?_);obtain⟨Iy,g2,d2,NO,RS⟩:=s';have eg:g2=s.gens:=hm.gens;have ed:d2=d':=hm.drawn;have eo:RS=s.os:=hm.os;subst eg;subst ed;subst eo;refine UM (hQ _ ys Iy d2 NO hp (jY (by rw[Va,HV.1,Mk]) λi v hv=>hP i v (HV.2 i v (by rwa [Wb]at hv))) (Xy (UY G1)) hm.toks λb o e=>?_);have PL:b≠s.heap.objs.size:=λz=>by rw[z]at e;exact absurd (UY e) (V8 _)
 refine hm.heap b o (λz=>?_) (EE b o PL (hk _ _ (UL _ e)));rcases U2.mp z with z|z
 ·exact PL z
 ·rw[Vl.mp z]at e;have:=UY e;rw[WN]at hI;exact absurd (Vg this (VN (XQ _) hI)) (V8 _)
end
section
theorem Inv.drawn(I:Inv X pins σ H s)(d:Drawn):Inv X pins σ H {s with drawn:=d}:=⟨I.ok,I.os,I.bare,I.base,I.loc,I.cell,I.free,I.EW,I.pin,I.Ef,I.len⟩
theorem gN(hc:X.calm=UN)(I:Inv X pins σ H s)(hq:EN X.K H p (ys.map V.str)\/EC X.K H p (ys.map V.str))(hb:ys.length+1<Wn)
  (h:∀(S:U8) (h':Ws) (tk:Nat),aL X.prog X.w h' S (aB X.w) (ao ys)->Inv X pins σ H {s with heap:=h',toks:=tk}->Q (.ref S) {s with heap:=h',toks:=tk}) :
  UU (U6 X.prog X.w) X.A (X0 (.type "set") [.ref p]) Q X.xe s:=by
 have hh:X.A.handled=UK:=I.ok.hd hc;rcases hq with hq|hq
 ·obtain⟨A',rv,pl,hz⟩:=I.list hq;exact eS hh pl.isList (cf rv) hb λh' tk hS k=>h _ h' tk hS (I.kept λb o e=>k b o (UY e) e)
 ·obtain⟨A',rv,pl,hz⟩:=I.tuple hq;exact fT hh pl (cf rv) hb λh' tk hS k=>h _ h' tk hS (I.kept λb o e=>k b o (UY e) e)
theorem fV(hc:X.calm=UN)(I:Inv X pins σ H s)(hS:aL X.prog X.w s.heap S (aB X.w) D)(Gi:D.length<64)
  (q:∀p,H p=UK->Q (.ref p) (upd H p (.lst ((av D).map V.str)))):UU (U6 X.prog X.w) X.A (X0 (.builtin "sorted") [.ref S]) (EP X pins σ Q) X.xe s:=by
 have hh:X.A.handled=UK:=I.ok.hd hc;have hl:D.length<=US:=Xy (Vg Gi (by decide));refine gf (oJ (A:=X.A.in1) (by simpa using hh) hS hl λvs ys h' d' tk hp hv hsz QX hk=>⟨ys,hv,by rw[gM hv,hp.length_eq];exact Gi,λh2 E2 e k2 at2 s2=>?_⟩);rw[iX hp]at s2;have I1:Inv X pins σ H {s with heap:=h',toks:=tk}:=I.kept (t':=tk) hk;have I2:Inv X pins σ H {s with heap:=h',drawn:=d',toks:=tk}:=I1.drawn d';exact⟨.ref h'.objs.size,_,I2.laid (t':=tk) (o:=.lst ((av D).map V.str)) k2 (U_ _) ⟨by rw[UQ,bf];exact hl,E2,e,d0 s2,at2⟩,rfl,q _ (I2.Ef.fresh (U_ _))⟩
theorem jZ(I:Inv X pins σ H s)(hS:aL X.prog X.w s.heap S (aB X.w) D)
  (q:Q (.int D.length) H):UU (U6 X.prog X.w) X.A (X0 (.builtin "len") [.ref S]) (EP X pins σ Q) X.xe s:=by
 obtain⟨L,es,ep,t,ho,EZ,Eg,Eo,hf,hb,E3,EY⟩:=hS;have hlen:es.size=D.length:=by rw[<-Va,EZ,UQ,<-UQ (f:=Ŋ) (as:=L),Eg.length_eq]
 have Fx:es.size<4096:=hb;refine call_len_set ho ⟨rfl,rfl,rfl⟩ rfl hf ⋯ ?_;exact⟨.int es.size,_,I.kept (t':=s.toks+1+1) (λ_ _ e=>e),⟨_,rfl⟩,by rw[hlen];exact q⟩
end
end L2
namespace L2
open PySem
noncomputable def dh(mask:Nat):Nat->Nat×Nat->Nat×Nat
 |0,q=>q
 |t+1,q=>dh mask t (Ħ mask q.1 q.2)
theorem lM(mask:Nat):∀(a b:Nat) (q:Nat×Nat),dh mask (a+b) q=dh mask b (dh mask a q)
 |0,b,q=>by rw[Yq];rfl
 |a+1,b,q=>by rw[show a+1+b=(a+b)+1 by omega];exact lM mask a b _
theorem lN(mask:Nat):∀(t:Nat) (q:Nat×Nat),(dh mask t q).2=q.2 / 32 ^ t
 |0,q=>by simp[dh]
 |t+1,q=>by
  show(dh mask t (Ħ mask q.1 q.2)).2=_;rw[lN mask t];show q.2 / 32 / 32 ^ t=_;rw[Nat.div_div_eq_div_mul,Nat.pow_succ,Nat.mul_comm]
theorem oK(mask:Nat):∀(t:Nat) (q:Nat×Nat),q.1<mask+1->(dh mask t q).1<mask+1
 |0,q,h=>h
 |t+1,q,h=>oK mask t _ (YT _ (ù _))
noncomputable def Hn(m:Nat):Nat->Nat->Nat
 |0,i=>i
 |t+1,i=>Hn m t ((i * 5+1) % m)
theorem lO(mask:Nat):∀(t i:Nat),dh mask t (i,0)=(Hn (mask+1) t i,0)
 |0,i=>rfl
 |t+1,i=>by
  show dh mask t ((i * 5+1+0 / 32) % (mask+1),0 / 32)=(Hn (mask+1) t ((i * 5+1) % (mask+1)),0)
  rw[Nat.zero_div,Ż];exact lO mask t _
theorem ju(m:Nat):∀(a b i:Nat),Hn m (a+b) i=Hn m b (Hn m a i)
 |0,b,i=>by rw[Yq];rfl
 |a+1,b,i=>by rw[show a+1+b=(a+b)+1 by omega];exact ju m a b _
noncomputable def tT(m:Nat):Nat->Nat->List Nat
 |0,_=>[]
 |t+1,i=>i::tT m t ((i * 5+1) % m)
theorem rM(m:Nat):∀(n i t:Nat),t<n->(tT m n i)[t]?=UI (Hn m t i)
 |0,_,_,h=>by omega
 |n+1,i,0,_=>rfl
 |n+1,i,t+1,h=>by
  show(tT m n ((i * 5+1) % m))[t]?=_;exact rM m n _ t ⋯
theorem oM(m:Nat):∀(n i:Nat),(tT m n i).length=n
 |0,_=>rfl
 |n+1,i=>by show(tT m n _).length+1=_;rw[oM m n]
noncomputable def Full(m:Nat):Bool:=(UX m).all (λj=>(tT m m 0).contains j)&&(Hn m m 0==0)
theorem zL:Full 8=UN:=by decide +kernel
theorem vH:Full 16=UN:=by decide +kernel
theorem vI:Full 32=UN:=by decide +kernel
theorem vJ:Full 64=UN:=by decide +kernel
theorem rN:Full 128=UN:=by decide +kernel
theorem tU(h:Full m=UN)(hi:i<m)(hj:j<m):∃t,t<m/\Hn m t i=j:=by
 unfold Full at h;rw[UR,VA]at h;obtain⟨h1,h2⟩:=h;have h2:Hn m m 0=0:=by simpa using h2
 have get:∀k,k<m->∃a,a<m/\Hn m a 0=k:=λk hk=>by
  have:=h1 k (V6.mpr hk);rw[List.contains_iff_mem]at this;obtain⟨a,ha⟩:=û.mp this;have Ez:a<m:=by have:=(UW.mp ha).1;rw[oM]at this;exact this
  rw[rM m m 0 a Ez]at ha;exact⟨a,Ez,by simpa using ha⟩
 obtain⟨a,ha,ea⟩:=get i hi;obtain⟨b,hb,eb⟩:=get j hj;by_cases Gh:a<=b
 ·exact⟨b - a,⋯,by rw[<-ea,<-ju,show a+(b - a)=b by omega,eb]⟩
 ·refine⟨m - a+b,⋯,?_⟩;rw[<-ea,<-ju,show a+(m - a+b)=m+b by omega,ju,h2,eb]
theorem lP:∀(f i p:Nat),V3 mask owner f i p=UK->∀t,t<f->(owner.getD (dh mask t (i,p)).1 (UI 0)).isNone=UO
 |0,_,_,_,t,h=>by omega
 |f+1,i,p,h,t,ht=>by
  unfold V3 at h;cases hf:(UX (ZK mask i+1 - i)).find? (λk=>(owner.getD (i+k) (UI 0)).isNone) with
  |some k=>rw[hf]at h;cases h
  |none =>
   rw[hf]at h;cases t with
   |zero =>
    have:=List.find?_eq_none.mp hf 0 (V6.mpr (by unfold ZK;split<;>omega));rw[Ż]at this;show(owner.getD i (UI 0)).isNone=UO;cases e:(owner.getD i (UI 0)).isNone with
    |false=>rfl
    |true=>exact absurd e this
   |succ t=>exact lP f _ _ h t ⋯
theorem lQ:∀(f i p j:Nat),V3 mask owner f i p=UI j->owner[j]?=UI UK
 |0,_,_,_,h=>by cases h
 |f+1,i,p,j,h=>by
  unfold V3 at h;cases hf:(UX (ZK mask i+1 - i)).find? (λk=>(owner.getD (i+k) (UI 0)).isNone) with
  |some k =>
   rw[hf]at h;cases h;have h1:=List.find?_some hf;have h2:i+k<owner.size:=by
    refine WI λz=>?_;have:owner.getD (i+k) (UI 0)=UI 0:=by simp[Zu,z]
    rw[this]at h1;cases h1
   have h3:owner.getD (i+k) (UI 0)=owner[i+k]:=by simp[Zu,h2]
   rw[h3]at h1;rw[Yz h2];cases e:owner[i+k] with
   |none=>rfl
   |some _=>rw[e]at h1;cases h1
  |none =>
   rw[hf]at h;exact lQ f _ _ j h
theorem yp(hm:Full (mask+1)=UN){j0:Nat}(hj:owner[j0]?=UI UK)(hsz:owner.size=mask+1)(hi:i<mask+1)(hp:p<2 ^ 64):∃j,V3 mask owner (Yb mask) i p=UI j/\owner[j]?=UI UK:=by
 cases e:V3 mask owner (Yb mask) i p with
 |some j=>exact⟨j,rfl,lQ _ _ _ _ e⟩
 |none =>
  have K3:j0<mask+1:=by rw[<-hsz];exact(Array.getElem?_eq_some_iff.mp hj).1
  have RT:(dh mask 13 (i,p)).2=0:=by
   rw[lN];exact Nat.div_eq_of_lt (ZS hp (by decide))
  obtain⟨t,ht,et⟩:=tU hm (oK mask 13 (i,p) hi) K3;have el:dh mask (13+t) (i,p)=(j0,0):=by
   rw[lM,show dh mask 13 (i,p)=((dh mask 13 (i,p)).1,0) from Ă rfl RT,lO,et]
  have:=lP _ _ _ e (13+t) (by unfold Yb;omega);rw[el]at this;have h3:owner.getD j0 (UI 0)=UK:=by
   have Ez:j0<owner.size:=by omega
   rw[Yz Ez]at hj;simp[Zu,Ez];exact VM hj
  rw[h3]at this;cases this
noncomputable def vals(L:List (Option Nat)):List Nat:=L.filterMap id
theorem oN:∀{L:List (Option Nat)}{j:Nat},L[j]?=UI UK->(vals (L.set j (UI k))).Perm (k::vals L)
 |[],j,h=>by simp at h
 |x::L,0,h=>by
  have:x=UK:=by simpa using h
  subst this;exact Xd _
 |x::L,j+1,h=>by
  have ih:=oN (k:=k) (L:=L) (j:=j) (by simpa using h);cases x with
  |none=>exact ih
  |some y =>
   show(y::vals (L.set j (UI k))).Perm (k::y::vals L);exact(Ĕ y ih).trans (ē k y _)
theorem lR:∀{L:List (Option Nat)},(vals L).length<L.length->∃j:Nat,L[j]?=UI UK
 |[],h=>by simp at h
 |none::L,_=>⟨0,rfl⟩
 |some y::L,h=>by
  obtain⟨j,hj⟩:=lR (L:=L) (by
   have:(vals L).length+1<L.length+1:=h;omega)
  exact⟨j+1,by simpa using hj⟩
theorem vK(hm:Full (mask+1)=UN):∀(hs:List Int) (owner:Array (Option Nat)) (k:Nat),owner.size=mask+1->(vals owner.toList).Perm (UX k)->k+hs.length<=mask ->
  ∃Gn,hs.foldl (λacc h=>do
   let (owner,k) <-acc
   let j <-V3 mask owner (Yb mask) (Xt h % (mask+1)) (Xt h)
   pure (owner.setIfInBounds j (UI k),k+1)) (UI (owner,k))=UI (Gn,k+hs.length)/\Gn.size=mask+1/\(vals Gn.toList).Perm (UX (k+hs.length))
 |[],owner,k,h1,h2,_=>⟨owner,rfl,h1,h2⟩
 |h::hs,owner,k,h1,h2,h3=>by
  rw[Vj]at h3;obtain⟨j0,K3⟩:=lR (L:=owner.toList) (by rw[h2.length_eq,WO,Va];omega);obtain⟨j,e,hj⟩:=yp hm (owner:=owner) (j0:=j0) (by rw[<-Wb];exact K3) h1 (i:=Xt h % (mask+1)) (p:=Xt h) (YT _ (ù _)) (by unfold Xt;omega);have RU:owner.toList[j]?=UI UK:=by rw[Wb];exact hj
  have hp:(vals (owner.setIfInBounds j (UI k)).toList).Perm (UX (k+1)):=by
   rw[Array.toList_setIfInBounds,Ņ];exact(oN RU).trans ((Ĕ k h2).trans (List.perm_append_singleton k _).symm)
  obtain⟨o',q1,q2,q3⟩:=vK hm hs (owner.setIfInBounds j (UI k)) (k+1) (by rw[Array.size_setIfInBounds];exact h1) hp ⋯;refine⟨o',?_,q2,by rw[show k+(h::hs).length=k+1+hs.length by simp;omega];exact q3⟩;rw[YV,show k+(h::hs).length=k+1+hs.length by simp;omega,<-q1];congr 1
  show(V3 mask owner (Yb mask) (Xt h % (mask+1)) (Xt h)).bind _=_;rw[e];rfl
theorem qp(L:List (Option Nat)):(UX L.length).filterMap (λj=>L.getD j UK)=vals L:=by
 have h:(UX L.length).map (λj=>L.getD j UK)=L:=by
  apply Wv
  ·simp
  ·intro i h1 h2;simp[Xc,h2]
 have h2:vals ((UX L.length).map (λj=>L.getD j UK))=vals L:=θ vals h;unfold vals at h2;rw[Ğ]at h2;exact h2
theorem rO{led plain:Bool}(hm:Full (mask+1)=UN)(hn:hs.size<=mask):∃t order,Y2 mask finger moves led plain hs=UI (t,order)/\t.fits hs.size=UN/\t.led=led/\t.plain=plain/\t.mask=mask/\t.dummies=#[]/\order.toList.Perm (UX hs.size):=by
 obtain⟨owner,q1,q2,q3⟩:=vK hm hs.toList (Array.replicate (mask+1) UK) 0 (by simp) (by
  have:∀n:Nat,vals (Vk n UK)=[]:=λn=>by
   induction n with
   |zero=>rfl
   |succ n ih=>rw[List.replicate_succ];exact ih
  rw[Array.toList_replicate,this];exact Xd _) (by rw[Va];omega)
 rw[Yq,Va]at q1 q3;have hc:Yp mask hs=UI owner:=by
  unfold Yp;rw[<-Array.foldl_toList];rw[q1];rfl
 have hv:((UX (mask+1)).filterMap λj=>owner.getD j UK)=vals owner.toList:=by
  rw[<-qp,Va,q2];congr 1
  funext j
  simp only[Array.getD_eq_getD_getElem?,List.getD_eq_getElem?_getD,Wb]
 have E7:(((UX (mask+1)).filterMap λj=>(owner.getD j UK).map (j,·)).map (·.2))=vals owner.toList:=by
  rw[<-hv,List.map_filterMap];congr 1
  funext j
  cases owner.getD j UK<;>rfl
 have hl:((UX (mask+1)).filterMap λj=>(owner.getD j UK).map (j,·)).length=hs.size:=by
  have:=θ VX E7;rw[UQ,q3.length_eq,WO]at this;exact this
 refine⟨_,_,by unfold Y2;rw[hc];rfl,?_,rfl,rfl,rfl,rfl,?_⟩
 ·unfold Ys Z4;simp only[U9,UQ,hl];simp;exact hn
 ·show(((UX (mask+1)).filterMap λj=>(owner.getD j UK).map (j,·)).map (·.2)).Perm _;rw[E7];exact q3
end L2
namespace L2
open PySem PySem.Spec PyProof.Rows
noncomputable def A0(P:VZ)(w:Wi)(p:Str×Tok):Int×UT:=((sK P w).hash p.1,VF p.1 p.2)
section
theorem aL.perm(hS:aL prog w h a led D)(p:D.Perm D'):aL prog w h a led D' :=
 let ⟨L,es,ep,t,h1,h2,h3,h4,h5⟩:=hS;⟨L,es,ep,t,h1,h2,h3.trans p,p.nodup_iff.mp h4,h5⟩
theorem aL.at(hS:aL prog w h a led D)(k:∀o,h.get? a=UI o->h'.get? a=UI o):aL prog w h' a led D :=
 let ⟨L,es,ep,t,h1,h2⟩:=hS;⟨L,es,ep,t,k _ h1,h2⟩
theorem aL.sz{h:Ws}{a:U8}{led:Bool}{D:List Str}{L:List (Str×Tok)}{es:Array (Int×UT)}(h2:es.toList=L.map (λp=>((sK prog w).hash p.1,VF p.1 p.2)))(h3:(L.map (·.1)).Perm D):es.size=D.length:=by
 rw[<-Va,h2,UQ,<-h3.length_eq,UQ]
theorem aL.of(hS:aL prog w h a led D):h.SetOf (sK prog w) a (λx=>UP (x∈D)) D.length:=by
 obtain⟨L,es,ep,t,ho,EZ,Eg,Eo,hf,hb,E3,EY⟩:=hS;refine⟨_,es,ep,t,ho,⟨rfl,rfl,rfl⟩,rfl,by rw[EZ];exact jT,λx=>?_,hb,hf,aL.sz (h:=h) (a:=a) (led:=led) EZ Eg⟩;rw[γ,EZ,<-Eg.mem_iff,Vc];constructor
 ·rintro⟨p,hp,e⟩;exact⟨_,Vc.mpr ⟨p,hp,rfl⟩,by rw[fS];simp[e]⟩
 ·rintro⟨e,he,hi⟩;obtain⟨p,hp,rfl⟩:=Vc.mp he;rw[fS,γ]at hi;exact⟨p,hp,hi.symm⟩
theorem oO(hS:aL prog w s.heap a led D)(h:∀r:Option Nat,r.isSome=UP (x∈D)->Q r s):
  UU (U6 prog w) A (setFind a (.str x tk) ((sK prog w).hash x)) Q E s :=
 wpAny_setFind_of (knd:=sK prog w) (by rw[fS];simp) rfl hS.of h
theorem dP{L':List (Str×Tok)}(ho:s.heap.get? a=UI {cls:=.type "set",dict:=UK,data:=.set es ep t})(EZ:Ed.toList=L'.map (λp=>((sK prog w).hash p.1,VF p.1 p.2)))(Eg:(L'.map (·.1)).Perm D')(Eo:D'.Nodup)
  (hf:t'.fits Ed.size=UN) (hb:Ed.size<Wn) (hl:t'.led=led) (hp:Ed.size=0\/t'.plain=UO) (h:∀h',Vz a s.heap h'->h'.get? a=UI {cls:=.type "set",dict:=UK,data:=.set Ed (ep+1) t' }->aL prog w h' a led D'->Q () {s with heap:=h' }) :
  UU (U6 prog w) A (storeSet a Ed t') Q E s:=by
 refine Z8 ho rfl ?_ (Æ hb);have HG:(s.heap.update a (XH Ed t')).get? a=UI {cls:=.type "set",dict:=UK,data:=.set Ed (ep+1) t' }:=V4 (XH Ed t') ho rfl;exact h _ (Wf s.heap a (XH Ed t')) HG ⟨L',Ed,ep+1,t',HG,EZ,Eg,Eo,hf,hb,hl,hp⟩
theorem d5(xs:Array α)(i:Nat):(XS xs i).toList=xs.toList.eraseIdx i:=by
 unfold XS;rw[Yg,ý,ý,List.eraseIdx_eq_take_drop_succ];simp[List.extract];rw[W4 (by simp)]
theorem tV{t:XB}(h:t.fits n=UN)(hi:i<n):(t.drop i).fits (n - 1)=UN:=by
 simp only[Ys,UR,beq_iff_eq,γ]at h;obtain⟨h1,h2⟩:=h;have FD:i<t.place.size:=by omega
 have e1:(XS t.place i).size=t.place.size - 1:=by
  rw[<-Va,d5,Ć,δ (by simpa using FD),Va]
 have e2:∀p x,(SetTable.insertAt t.dummies p x).size=t.dummies.size+1:=λp x=>by
  have:=(SetTable.insertAt_perm t.dummies p x).length_eq;rw[Va,Va,Array.size_push]at this;exact this
 unfold ħ;rw[Yz FD];simp only[Ys,Z4,UR,beq_iff_eq,γ,e1,e2]at h2 ⊢;constructor<;>omega
theorem vL(t:XB)(i:Nat):(t.drop i).led=t.led/\(t.drop i).plain=t.plain:=by
 unfold ħ;split<;>exact⟨rfl,rfl⟩
theorem erase_filter:∀{l:List Str}{j:Nat}{x:Str},l.Nodup->l[j]?=UI x->l.eraseIdx j=l.filter λy=>UP (y≠x)
 |[],j,x,_,h=>by simp at h
 |y::l,0,x,hn,h=>by
  obtain⟨h1,h2⟩:=Vp.mp hn;have:y=x:=by simpa using h
  subst this;rw[List.eraseIdx_cons_zero,XN (by simp)];exact(WV.mpr λz hz=>by
   have:z≠y:=λe=>h1 (e▸hz);simpa using this).symm
 |y::l,j+1,x,hn,h=>by
  obtain⟨h1,h2⟩:=Vp.mp hn;have hj:l[j]?=UI x:=by simpa using h
  have:y≠x:=λe=>h1 (e▸Vt hj);rw[è,erase_filter h2 hj,XM (by simpa using this)]
theorem eT(f:α->β):∀(l:List α) (j:Nat),(l.map f).eraseIdx j=(l.eraseIdx j).map f
 |[],_=>rfl
 |x::l,0=>rfl
 |x::l,j+1=>by
  show f x::(l.map f).eraseIdx j=f x::(l.eraseIdx j).map f;rw[eT f l j]
theorem oP{a:U8}{led:Bool}{D:List Str}{x:Str}{tk:Tok}{Q:Bool->U1->Prop}(hS:aL prog w s.heap a led D)(h:∀b h',Vz a s.heap h'->aL prog w h' a led (D.filter λy=>UP (y≠x))->Q b {s with heap:=h' }):
  UU (U6 prog w) A (Ų a (.str x tk) ((sK prog w).hash x)) Q E s:=by
 have J1:=hS;obtain⟨L,es,ep,t,ho,EZ,Eg,Eo,hf,hb,E3,EY⟩:=hS;have Ji:(sK prog w).is x (.str x tk)=UN:=by rw[fS];simp
 have KJ:ElemsOf (sK prog w) es.toList:=by rw[EZ];exact jT
 have hsz:=aL.sz (h:=s.heap) (a:=a) (led:=led) EZ Eg;unfold Ų setFind setFindIn;refine UJ (UJ (Vn ho rfl hf ?_))
 dsimp only
 rw[byScan_of (knd:=sK prog w) rfl hb KJ];simp only[↓reduceIte];refine UJ (WA ?_);refine UJ (ŭ (knd:=sK prog w) Ji ho rfl hf KJ ?_);cases hr:â (λe=>(sK prog w).is x e.2) es.toList with
 |none =>
  dsimp only
  refine UM (UM ?_);have hx:x∉D:=λhx=>by
   rw[<-Eg.mem_iff,Vc]at hx;obtain⟨p,hp,e⟩:=hx;have hm:((sK prog w).hash p.1,VF p.1 p.2)∈es.toList:=by rw[EZ];exact Vc.mpr ⟨p,hp,rfl⟩
   have:=Ú.mp hr _ hm;rw[fS,decide_eq_false_iff_not]at this;exact this e.symm
  have e:D.filter (λy=>UP (y≠x))=D:=WV.mpr λz hz=>by
   have:z≠x:=λe=>hx (e▸hz);simpa using this
  have e2:s={s with heap:=s.heap}:=by cases s;rfl
  rw[e2];exact h UO s.heap (Wr a s.heap) (by rw[e];exact J1)
 |some j =>
  dsimp only
  obtain⟨hj,Mi,_⟩:=ZF.mp hr;rw[Yq];refine UM ?_
  dsimp only
  refine UJ (Vn ho rfl hf ?_)
  dsimp only
  have RV:j<L.length:=by rw[EZ,UQ]at hj;exact hj
  have RW:j<es.size:=by simpa using hj
  have RX:L[j].1=x:=by
   have e:es.toList[j]=((sK prog w).hash L[j].1,VF L[j].1 L[j].2):=by simp[EZ]
   rw[e,fS,γ]at Mi;exact Mi.symm
  have NP:(L.map (·.1)).Nodup:=Eg.nodup_iff.mpr Eo;have RY:(L.eraseIdx j).map (·.1)=(L.map (·.1)).filter λy=>UP (y≠x):=by
   rw[<-erase_filter NP (j:=j) (by simp[RV,RX]),eT]
  have NQ:(XS es j).toList=(L.eraseIdx j).map (λp=>((sK prog w).hash p.1,VF p.1 p.2)):=by
   rw[d5,EZ,eT]
  have K4:(XS es j).size=es.size - 1:=by rw[<-Va,d5,Ć,δ hj,Va]
  obtain⟨d1,d2⟩:=vL t j;refine UJ (dP (t':=t.drop j) (led:=led) ho NQ (by rw[RY];exact Eg.filter _) (ã WD Eo) (by rw[K4];exact tV hf RW) (by rw[K4];omega) (d1.trans E3) (.inr (d2.trans (EY.resolve_left ⋯))) λh' sb hg Fp=>?_);refine UJ (wpAny_point ?_);exact UM (h UN h' sb Fp)
end
theorem yq:Full 256=UN:=by decide +kernel
section
theorem gO{es:Array (Int×UT)}{order:Array Nat}(h:order.toList.Perm (UX es.size)):(order.filterMap (es[·]?)).toList.Perm es.toList:=by
 rw[Array.toList_filterMap];exact(h.filterMap _).trans (by rw[filterMap_getElem?_range])
theorem lS{L:List (Str×Tok)}(ho:s.heap.get? a=UI {cls:=.type "set",dict:=UK,data:=.set es ep t})(EZ:es.toList=L.map (λp=>((sK prog w).hash p.1,VF p.1 p.2)))(Eg:(L.map (·.1)).Perm D)(Eo:D.Nodup)
  (hf:t.fits es.size=UN) (hb:es.size<Wn) (E3:t.led=led) (EY:es.size=0\/t.plain=UO) (hm:WG wanted=m+1) (hF:Full (m+1)=UN) (hn:es.size<=m) (Uj:m<1000)
  (h:∀h' (Ed:Array (Int×UT)) (t':XB) (Hb:Nat),Vz a s.heap h'->h'.get? a=UI {cls:=.type "set",dict:=UK,data:=.set Ed Hb t' }->aL prog w h' a led D->t'.fits Ed.size=UN->t'.mask=m->t'.dummies=#[]->t'.led=led->Ed.size=es.size->Q () {s with heap:=h' }) :
  UU (U6 prog w) A (setRelay a wanted) Q E s:=by
 have big:(2000:Nat)<=US:=by decide
 obtain⟨t',order,q1,q2,q3,q4,q5,q6,q7⟩:=rO (mask:=m) (finger:=t.finger) (moves:=t.movedTo m) (led:=t.led) (plain:=t.plain) (hs:=es.map (·.1)) hF (by rw[Yr];exact hn);rw[Yr]at q2 q7;have e:t.relaid (es.map (·.1)) wanted=UI (t',order):=by
  unfold ZL;rw[hm,Nat.add_sub_cancel];exact q1
 unfold setRelay;refine UJ (Vn ho rfl hf ?_)
 dsimp only
 rw[ε (by rw[hm];omega)];refine UJ ?_;rw[e];show UU (U6 prog w) A (if ((order.filterMap (es[·]?)).size != es.size)=UN then((Ü "internal:set-table-lost-an-element":Sem Unit) >>= λ_=>pure (order.filterMap (es[·]?),t')) else pure (order.filterMap (es[·]?),t')) _ E s;have hq:=gO q7;have hsz:(order.filterMap (es[·]?)).size=es.size:=by rw[<-Va,hq.length_eq,Va]
 rw[ε (by rw[hsz];simp)];refine UM ?_;rw[EZ]at hq;obtain⟨L',e',p'⟩:=cF hq;exact dP (led:=led) ho e' ((p'.map _).trans Eg) Eo (by rw[hsz];exact q2) (by rw[hsz];exact hb) (q3.trans E3) (by rw[hsz,q4];exact EY) λh' sb hg hs=>h h' _ t' _ sb hg hs (by rw[hsz];exact q2) q5 q6 (q3.trans E3) hsz
theorem vM(h1:5<=n)(h2:n<64):∃m,WG (2 * n)=m+1/\Full (m+1)=UN/\n<=m/\m<1000:=by
 have:∀n:_root_.Fin 64,WG (2 * n.val)=(if n.val<4 then 8 else if n.val<8 then 16 else if n.val<16 then 32 else if n.val<32 then 64 else 128):=by decide +kernel
 have e:=this ⟨n,h2⟩
 dsimp only at e
 rw[e,ε ⋯];split
 ·exact⟨15,rfl,vH,⋯,⋯⟩
 ·split
  ·exact⟨31,rfl,vI,⋯,⋯⟩
  ·split
   ·exact⟨63,rfl,vJ,⋯,⋯⟩
   ·exact⟨127,rfl,rN,⋯,⋯⟩
theorem tW(h2:n<64):∃m,WG (Xf n)=m+1/\Full (m+1)=UN/\n<=m/\m<1000:=by
 have:∀n:_root_.Fin 64,WG (Xf n.val)=(if n.val<2 then 8 else if n.val<4 then 16 else if n.val<8 then 32 else if n.val<16 then 64 else if n.val<32 then 128 else 256):=by decide +kernel
 have e:=this ⟨n,h2⟩
 dsimp only at e
 rw[e];split
 ·exact⟨7,rfl,zL,⋯,⋯⟩
 ·split
  ·exact⟨15,rfl,vH,⋯,⋯⟩
  ·split
   ·exact⟨31,rfl,vI,⋯,⋯⟩
   ·split
    ·exact⟨63,rfl,vJ,⋯,⋯⟩
    ·split
     ·exact⟨127,rfl,rN,⋯,⋯⟩
     ·exact⟨255,rfl,yq,⋯,⋯⟩
theorem vN{a:U8}{led:Bool}{D:List Str}{Q:Unit->U1->Prop}(hS:aL prog w s.heap a led D)(Gi:D.length<64)(h:∀h',Vz a s.heap h'->aL prog w h' a led D->Q () {s with heap:=h' }):
  UU (U6 prog w) A (setTidy a) Q E s:=by
 have J1:=hS;obtain⟨L,es,ep,t,ho,EZ,Eg,Eo,hf,hb,E3,EY⟩:=hS;have hsz:=aL.sz (h:=s.heap) (a:=a) (led:=led) EZ Eg;unfold setTidy;refine UJ (Vn ho rfl hf ?_)
 dsimp only
 split
 ·obtain⟨m,m1,m2,m3,m4⟩:=tW (n:=es.size) ⋯;exact lS ho EZ Eg Eo hf hb E3 EY m1 m2 m3 m4 λh' _ _ _ sb _ hs _ _ _ _ _=>h h' sb hs
 ·have e2:s={s with heap:=s.heap}:=by cases s;rfl
  refine UM ?_;rw[e2];exact h s.heap (Wr a s.heap) J1
theorem tX{a b:U8}{es:Array (Int×UT)}{D:List Str}{Q:Unit->U1->Prop}(Gh:a≠b)(ho:s.heap.get? a=UI {cls:=.type "set",dict:=UK,data:=.set #[] 0 (.fresh 0 0 (aB w))})(hS:aL prog w s.heap b (aB w) D)(Gi:D.length<64)
  (h:∀h',Vz a s.heap h'->aL prog w h' a (aB w) D->Q () {s with heap:=h' }):UU (U6 prog w) A (setMerge a b) Q E s:=by
 have J1:=hS;obtain⟨L,eo,RZ,to,Jg,HA,Eg,Eo,PM,PN,K5,NR⟩:=hS;have hsz:=aL.sz (h:=s.heap) (a:=b) (led:=aB w) HA Eg;have HH:(ě 0 0 (aB w)).fits (#[]:Array (Int×UT)).size=UN:=rfl;unfold setMerge;rw[ε (by simpa using Gh)];refine UJ (Vn Jg rfl PM ?_)
 dsimp only
 split
 ·rename_i NT;have hD:D=[]:=by
   have:eo.size=0:=by simpa using NT
   exact X_ ⋯
  subst hD;have e2:s={s with heap:=s.heap}:=by cases s;rfl
  refine UM ?_;rw[e2];exact h s.heap (Wr a s.heap) (gh ho)
 ·rename_i EX;have NU:eo.size≠0:=λz=>EX (by simpa using z);refine UJ ?_;unfold setRoomFor;refine UJ (Vn ho rfl HH ?_)
  dsimp only
  refine VS (Q:=λ_ s1=>∃(h1:Ws) (ts:XB) (PQ:Nat) (EU:Array (Int×UT)),s1={s with heap:=h1}/\EU.size=0/\Vz a s.heap h1/\h1.get? a=UI {cls:=.type "set",dict:=UK,data:=.set EU PQ ts}/\ts.fits EU.size=UN/\Full (ts.mask+1)=UN/\eo.size<=ts.mask/\ts.dummies=#[]/\ts.led=aB w) ?_ (λ_ s1 ⟨h1,ts,PQ,EU,e,z,sb,hg,K6,hF,hle,NV,hl⟩=>?_) λ_ _ e=>e
  ·unfold SetTable.roomFor;by_cases h5:5<=eo.size
   ·rw[δ (by show(0+eo.size) * 5 >= 7 * 3;omega)]
    dsimp only
    obtain⟨m,m1,m2,m3,m4⟩:=vM h5 ⋯;have ew:((ě 0 0 (aB w)).place.size+eo.size) * 2=2 * eo.size:=by show(0+eo.size) * 2=_;omega
    rw[ew];exact lS (L:=[]) (D:=[]) (led:=aB w) ho rfl (Xd _) .nil HH (by decide) rfl (.inl rfl) m1 m2 (by show 0<=m;omega) m4 λh' Ed t' Hb sb hg _ Ny hm hd hl hz=>⟨h',t',Hb,Ed,rfl,hz,sb,hg,Ny,by rw[hm];exact m2,by rw[hm];exact m3,hd,hl⟩
   ·rw[ε (by show ¬(0+eo.size) * 5 >= 7 * 3;omega)]
    dsimp only
    have e2:s={s with heap:=s.heap}:=by cases s;rfl
    exact UM ⟨s.heap,_,0,#[],e2,rfl,Wr a s.heap,ho,HH,zL,by show eo.size<=7;omega,rfl,rfl⟩
  ·subst e;refine UJ (Vn hg rfl K6 ?_)
   dsimp only
   have NW:ts.place.size=0:=by
    simp only[Ys,UR,beq_iff_eq]at K6;omega
   have K7:ts.road to=if ts.mask==to.mask&&to.dummies.isEmpty then .slotForSlot else .clean:=by
    unfold SetTable.road Z4;rw[NW,NV];rfl
   have R3:h1.get? b=UI {cls:=.type "set",dict:=UK,data:=.set eo RZ to}:=(sb.2 b (VP Gh)).trans Jg;have K8:(ts.plain&&to.plain)=UO:=by rw[NR.resolve_left NU,Y_]
   have IC:(ts.led&&to.led)=aB w:=by rw[hl,K5,ś]
   rw[K7];by_cases hc:(ts.mask==to.mask&&to.dummies.isEmpty)=UN
   ·rw[δ hc]
    dsimp only
    exact dP (s:={s with heap:=h1}) (led:=aB w) (L':=L) (t':={to with finger:=ts.finger,led:=ts.led&&to.led,moves:=ts.moves,plain:=ts.plain&&to.plain}) hg HA Eg Eo PM PN IC (.inr K8) λh' KH _ hs=>h h' (sb.trans KH) hs
   ·rw[ε hc]
    dsimp only
    obtain⟨t',order,q1,q2,q3,q4,q5,q6,q7⟩:=rO (mask:=ts.mask) (finger:=ts.finger) (moves:=ts.moves) (led:=ts.led&&to.led) (plain:=ts.plain&&to.plain) (hs:=eo.map (·.1)) hF (by rw[Yr];exact hle);rw[Yr]at q2 q7;refine UJ ?_;rw[q1];show UU (U6 prog w) A (if ((order.filterMap (eo[·]?)).size != eo.size)=UN then((Ü "internal:set-table-lost-an-element":Sem Unit) >>= λ_=>pure (order.filterMap (eo[·]?),t')) else pure (order.filterMap (eo[·]?),t')) _ E _;have hq:=gO q7;have Jp:(order.filterMap (eo[·]?)).size=eo.size:=by rw[<-Va,hq.length_eq,Va]
    rw[ε (by rw[Jp];simp)];refine UM ?_;rw[HA]at hq;obtain⟨L',e',p'⟩:=cF hq;exact dP (s:={s with heap:=h1}) (led:=aB w) hg e' ((p'.map _).trans Eg) Eo (by rw[Jp];exact q2) (by rw[Jp];exact PN) (q3.trans IC) (.inr (q4.trans K8)) λh' KH _ hs=>h h' (sb.trans KH) hs
end
section
theorem gp:∀{l:List α},(∀x∈l,∀Q':ForInStep β->U1->Prop,Q' (.yield b) s->UU M A (body x b) Q' E s)->Q b s->UU M A (Ŭ l b body) Q E s
 |[],_,h=>by rw[Yw];exact UM h
 |x::l,hb,h=>by
  rw[Yd];exact UJ (hb x (by simp) _ (gp (λy hy=>hb y (by simp[hy])) h))
theorem tY(hs:∀b∈sets,∃led D,aL prog w s.heap b led D)(h:Q UN s):UU (U6 prog w) A (setsQuiet sets) Q E s:=by
 unfold setsQuiet;refine UJ (gp (λb hb Q' hq=>?_) (UM h));obtain⟨led,D,L,es,ep,t,hg,EZ,Eg,Eo,hf,Uk,E3,EY⟩:=hs b hb;refine UJ (YA hg rfl hf ?_);rw[<-W3];refine UJ (gp (λe he Q2 HJ=>?_) (UM hq));rw[EZ]at he;obtain⟨p,_,rfl⟩:=Vc.mp he;exact UM HJ
theorem oQ(hS:aL prog w s.heap a (aB w) D)(ho:∀b∈others,∃led D',aL prog w s.heap b led D')(K9:∀r,f=UI r->aL prog w s.heap r (aB w) [])
  (h:∀(es:Array (Int×UT)) (L:List (Str×Tok)) (h':Ws),es.toList=L.map (A0 prog w)->(L.map (·.1)).Perm D->(f=UK->h'=s.heap)->(∀r,f=UI r->Vz r s.heap h'/\aL prog w h' r (aB w) [])->Q es {s with heap:=h' }) :
  UU (U6 prog w) A (setWalkUnseen a others f) Q E s:=by
 have J1:=hS;obtain⟨L,es,ep,t,hg,EZ,Eg,Eo,hf,hb,E3,EY⟩:=hS;have Gp:s={s with heap:=s.heap}:=by cases s;rfl
 have fY:∀(Ed:Array (Int×UT)),Ed.toList.Perm es.toList->Q Ed s:=λEd hp=>by
  rw[EZ]at hp;obtain⟨L',e',p'⟩:=cF hp;rw[Gp];exact h Ed L' s.heap e' ((p'.map _).trans Eg) (λ_=>rfl) λr e=>⟨Wr r s.heap,K9 r e⟩
 unfold setWalkUnseen;refine UJ (Vn hg rfl hf ?_)
 dsimp only
 refine UJ (cm ?_);cases hw:w.params.followText "set-order" with
 |true =>
  rw[δ (by show(w.params.followText "set-order"||t.led&&t.plain||decide (es.size<=1))=UN;rw[hw];rfl)];unfold setWalk;refine UJ (Vn hg rfl hf ?_)
  dsimp only
  refine UJ (cm ?_);rw[δ (by exact hw)];refine UJ (Yh ?_);exact UM (fY _ (dg _ _))
 |false =>
  by_cases h1:es.size<=1
  ·rw[δ (by rw[η h1];simp)];unfold setWalk;refine UJ (Vn hg rfl hf ?_)
   dsimp only
   refine UJ (cm ?_);rw[ε (by show ¬w.params.followText "set-order"=UN;rw[hw];simp)];show UU _ _ (if (!t.plain&&UP (es.size>1))=UN then _ else _) _ _ s;rw[ε (by rw[ζ (show ¬es.size>1 by omega)];simp)];show UU _ _ ((if (!t.led&&UP (es.size>1))=UN then _ else _) >>= _) _ _ s;rw[ε (by rw[ζ (show ¬es.size>1 by omega)];simp)];exact UJ (UM (UM (fY es (Xd _))))
  ·have E_:t.plain=UO:=EY.resolve_left ⋯;rw[ε (by show ¬(w.params.followText "set-order"||t.led&&t.plain||decide (es.size<=1))=UN;rw[hw,E_,ζ h1];simp)];refine UJ (tY (λb Fx=>by
    rcases U2.mp Fx with rfl|Fx
    ·exact⟨_,_,J1⟩
    ·exact ho b Fx) ?_)
   rw[ε (by simp)];refine UJ (WA ?_);cases f with
   |none=>exact UM (fY es (Xd _))
   |some r =>
    dsimp only
    obtain⟨Lr,er,Ul,tr,PR,PU,JY,NX,HH,R4,K_,R5⟩:=K9 r rfl;refine UJ (Vn PR rfl HH ?_)
    dsimp only
    have J2:er.size=0:=by
     have:=aL.sz (h:=s.heap) (a:=r) (led:=aB w) PU JY;simpa using this
    split
    ·refine UJ (dP (t':={tr with led:=tr.led&&t.led,plain:=tr.plain&&t.plain}) (led:=aB w) PR PU JY NX HH R4 (by show(tr.led&&t.led)=_;rw[K_,E3,ś]) (.inl J2) λh' sb _ hs=>?_);exact UM (h es L h' EZ Eg (λz=>nomatch z) λr' e=>by cases e;exact⟨sb,hs⟩)
    ·exact UM (fY es (Xd _))
end
section
variable{prog:VZ}{w:Wi}{A:WZ}{E:UT->U1->Prop}{s:U1}
theorem iC(J:List (Str×Tok)->U1->Prop)(hb:∀d p r s,d++p::r=L->J d s->∀Q':ForInStep PUnit->U1->Prop,(∀s',J (d++[p]) s'->Q' (.yield ⟨⟩) s')->UU M A (body (A0 prog w p) ⟨⟩) Q' E s)(hq:∀s',J L s'->Q ⟨⟩ s'):
  ∀(r d:List (Str×Tok)) (s:U1),d++r=L->J d s->UU M A (Ŭ (r.map (A0 prog w)) ⟨⟩ body) Q E s
 |[],d,s,e,h=>by
  rw[V1]at e;subst e;rw[Wx,Yw];exact UM (hq s h)
 |p::r,d,s,e,h=>by
  rw[U7,Yd];exact UJ (hb d p r s e h _ λs' h'=>iC J hb hq r (d++[p]) s' (by rw[<-e];simp) h')
theorem aL.ty(h:aL prog w s.heap a led D):s.TypeIs (.ref a) "set":=let ⟨_,_,_,_,ho,_⟩:=h;⟨_,ho,rfl⟩
theorem fu(hS:aL prog w s.heap a led D)(h:Q UN s):UU (U6 prog w) A (Wy (.ref a)) Q E s:=by
 unfold Wy;refine UJ (Wm hS.ty À ?_);exact UM h
theorem gP{a:U8}{led:Bool}{D:List Str}{Q:Nat->U1->Prop}(hS:aL prog w s.heap a led D)(h:Q D.length s):UU (U6 prog w) A (X2 a) Q E s:=by
 obtain⟨L,es,ep,t,ho,EZ,Eg,Eo,hf,_⟩:=hS;unfold X2;refine UJ (YA ho rfl hf (UM ?_));rw[aL.sz (h:=s.heap) (a:=a) (led:=led) EZ Eg];exact h
theorem oR(hS:aL prog w s.heap a led D)(h:Q (.type "set") s):UU (U6 prog w) A (Zh a) Q E s:=by
 unfold Zh;refine UJ (Wm hS.ty À ?_);exact UM h
theorem rP(h:Q (.ref s.heap.objs.size) {s with heap:=s.heap.push {cls:=.type "set",dict:=UK,data:=.set #[] 0 (.fresh 0 0 (aB w))}}):UU (U6 prog w) A (newSet (.type "set")) Q E s:=by
 unfold newSet Œ;refine UJ (UJ (Yh (UM ?_)))
 dsimp only
 simp only[newObj];exact UJ (wpAny_alloc (UM h))
theorem vO{a:U8}{D:List Str}{Q:UT->U1->Prop}(hS:aL prog w s.heap a (aB w) D)(Gi:D.length<64)(h:∀h',Vz s.heap.objs.size (s.heap.push {cls:=.type "set",dict:=UK,data:=.set #[] 0 (.fresh 0 0 (aB w))}) h'->aL prog w h' s.heap.objs.size (aB w) D->Q (.ref s.heap.objs.size) {s with heap:=h' }):
  UU (U6 prog w) A (Zg a) Q E s:=by
 unfold Zg;refine UJ (oR hS (UJ (rP ?_)));refine UJ (UM ?_);have EX:s.heap.objs.size≠a:=λe=>by obtain⟨_,_,_,_,ho,_⟩:=hS;exact V8 _ (e▸UY ho)
 refine UJ (tX (es:=#[]) (s:={s with heap:=s.heap.push {cls:=.type "set",dict:=UK,data:=.set #[] 0 (.fresh 0 0 (aB w))}}) EX (UZ _ rfl) (hS.at λo e=>UL _ e) Gi λh' sb hs=>?_);exact UM (h h' sb hs)
theorem j3{id:String}(ho:s.heap.get? a=UI {cls:=.type "set",dict:=UK,data:=.set es ep t})(hf:t.fits es.size=UN)(h:Q () s):UU (U6 prog w) A (YX id a ep) Q E s:=by
 unfold YX;refine UJ (Z9 ho rfl hf ?_);rw[ε (by simp)];exact UM h
theorem vP{id:String}(Gh:a≠b)(hS:aL prog w s.heap a (aB w) D1)(hT:aL prog w s.heap b (aB w) D2)(h1:D1.length<64)(h2:D2.length<=D1.length)
  (h:∀h',Vz a s.heap h'->aL prog w h' a (aB w) (D1.filter λx=>UP (x∉D2))->Q () {s with heap:=h' }):UU (U6 prog w) A (YG id a (.ref b)) Q E s:=by
 unfold YG;rw[ε (by simpa using VP Gh)];refine UJ (fu hT ?_);rw[δ rfl];refine UJ (UM ?_);refine UJ (gP hT (UJ (gP hS ?_)));rw[ε ⋯];obtain⟨L2,eb,Um,tb,Jg,Uo,Up,R6,PV,Pp,PX,R7⟩:=_root_.id hT;refine UJ (Z9 Jg rfl PV ?_);refine UJ (VG ?_);refine UJ (oQ hT (others:=[a]) (f:=UK) (λc hc=>by rw[Vl.mp hc];exact⟨_,_,hS⟩) (λr e=>nomatch e) λes L h0 he hp e0 _=>?_);have e0:=e0 rfl;subst e0;rw[<-W3,he];refine UJ (iC (prog:=prog) (w:=w) (L:=L) (λd s'=>∃h',s'={s with heap:=h' }/\Vz a s.heap h'/\aL prog w h' a (aB w) (D1.filter λx=>UP (x∉d.map (·.1)))) (λd p r s' ed ⟨h',e',sb,Fp⟩ Q' Ml=>?_) (λs' ⟨h',e',sb,Fp⟩=>?_) L [] _ rfl ⟨s.heap,by cases s;rfl,Wr a s.heap,by rw[WV.mpr λx _=>by simp];exact hS⟩)
 ·subst e';refine UJ (VG (oP (s:={s with heap:=h' }) Fp λb' h2 HZ E7=>?_));refine UJ (j3 (s:={s with heap:=h2}) (((sb.trans HZ).2 b (VP Gh)).trans Jg) PV ?_);refine UM (Ml _ ⟨h2,rfl,sb.trans HZ,?_⟩);rw[List.filter_filter]at E7;have e:(D1.filter λx=>UP (x≠p.1)&&UP (x∉d.map (·.1)))=D1.filter λx=>UP (x∉(d++[p]).map (·.1)):=by
   refine į λx _=>?_;rw[VR];simp[not_or,and_comm]
  rw[<-e];exact E7
 ·subst e';refine UM ?_;have e:(D1.filter λx=>UP (x∉L.map (·.1)))=D1.filter λx=>UP (x∉D2):=by
   refine į λx _=>?_;rw[VR];simp only[γ];rw[hp.mem_iff]
  rw[e]at Fp;exact vN (s:={s with heap:=h' }) Fp (XI (Vv _ _) h1) λh2 HZ E7=>h h2 (sb.trans HZ) E7
theorem vQ{id:String}(Gh:a≠b)(hS:aL prog w s.heap a (aB w) D1)(hT:aL prog w s.heap b (aB w) D2)(h1:D1.length<64)(h2:D2.length<64)
  (h:∀h',(∀c o,s.heap.get? c=UI o->h'.get? c=UI o)->aL prog w h' s.heap.objs.size (aB w) (D1.filter λx=>UP (x∉D2))->Q (.ref s.heap.objs.size) {s with heap:=h' }):UU (U6 prog w) A (XF id a (.ref b)) Q E s:=by
 have keep:∀h',Vz s.heap.objs.size (s.heap.push {cls:=.type "set",dict:=UK,data:=.set #[] 0 (.fresh 0 0 (aB w))}) h'->∀c o,s.heap.get? c=UI o->h'.get? c=UI o:=λh' sb c o e =>
  (sb.2 c (U5 (UY e))).trans (UL _ e)
 have PY:a<s.heap.objs.size:=by obtain⟨_,_,_,_,ho,_⟩:=hS;exact UY ho
 have ltB:b<s.heap.objs.size:=by obtain⟨_,_,_,_,ho,_⟩:=hT;exact UY ho
 unfold XF
 dsimp only
 refine UJ (fu hT ?_);rw[ε (by simp)];refine UJ (UM ?_);rw[ε (by simp),δ rfl];refine UJ (gP hT (UJ (gP hS ?_)));by_cases Lb:D1.length / 4>D2.length
 ·rw[δ Lb];refine UJ (WA ?_);refine UJ (vO hS h1 λh' sb hs=>?_);refine UJ (UM ?_);refine UJ (VG (vP (s:={s with heap:=h' }) (VV ltB) hs (hT.at λo e=>keep h' sb b o e) h1 ⋯ λh2 HZ E7=>?_));exact UM (h h2 (keep h2 (sb.trans HZ)) E7)
 ·rw[ε Lb];refine UJ (oR hS (UJ (rP ?_)));refine UJ (UM ?_);have Hm:=hS.at (h':=s.heap.push {cls:=.type "set",dict:=UK,data:=.set #[] 0 (.fresh 0 0 (aB w))}) λo e=>UL _ e;have PJ:=hT.at (h':=s.heap.push {cls:=.type "set",dict:=UK,data:=.set #[] 0 (.fresh 0 0 (aB w))}) λo e=>UL _ e;have GP:aL prog w (s.heap.push {cls:=.type "set",dict:=UK,data:=.set #[] 0 (.fresh 0 0 (aB w))}) s.heap.objs.size (aB w) []:=gh (UZ _ rfl);obtain⟨La,ea,R8,ta,Mh,PZ,Uq,NY,GD,Ur,P0,R9⟩:=_root_.id Hm;refine UJ (Z9 Mh rfl GD ?_);refine UJ (VG ?_);rw[δ rfl];refine UJ (oQ (s:={s with heap:=s.heap.push {cls:=.type "set",dict:=UK,data:=.set #[] 0 (.fresh 0 0 (aB w))}}) Hm (others:=[b,s.heap.objs.size]) (f:=UI s.heap.objs.size) (λc hc=>by
   rcases U2.mp hc with rfl|hc
   ·exact⟨_,_,PJ⟩
   ·rw[Vl.mp hc];exact⟨_,_,GP⟩) (λr e=>by cases e;exact GP) λes L h0 he hp _ e0=>?_)
  obtain⟨R_,Mm⟩:=e0 _ rfl;rw[<-W3,he];have Sa:L.length=D1.length:=by rw[<-hp.length_eq,UQ]
  refine UJ (iC (prog:=prog) (w:=w) (L:=L) (λd s'=>∃h',s'={s with heap:=h' }/\Vz s.heap.objs.size (s.heap.push {cls:=.type "set",dict:=UK,data:=.set #[] 0 (.fresh 0 0 (aB w))}) h'/\aL prog w h' s.heap.objs.size (aB w) ((d.map (·.1)).filter λx=>UP (x∉D2))) (λd p r s' ed ⟨h',e',sb,Fp⟩ Q' Ml=>?_) (λs' ⟨h',e',sb,Fp⟩=>?_) L [] _ rfl ⟨h0,rfl,R_,Mm⟩)
  ·subst e';have Eo:(L.map (·.1)).Nodup:=hp.nodup_iff.mpr NY;have Sb:p.1∉d.map (·.1):=λz=>by
    rw[<-ed,Vm,VC]at Eo;exact Eo.2.2 p.1 z p.1 (by simp) rfl
   have Sd:aL prog w h' b (aB w) D2:=hT.at λo e=>keep h' sb b o e;have P4:h'.get? a=UI {cls:=.type "set",dict:=UK,data:=.set ea R8 ta}:=(sb.2 a (U5 PY)).trans Mh;have GF:d.length<64:=by have:=θ VX ed;simp at this;omega
   refine UJ (VG ?_);rw[δ rfl];refine UJ (oO (s:={s with heap:=h' }) Sd λr hr=>?_);refine UJ (UM ?_);have em:((d++[p]).map (·.1)).filter (λx=>UP (x∉D2))=(d.map (·.1)).filter (λx=>UP (x∉D2))++if p.1∈D2 then [] else [p.1]:=by
    rw[Vm,WM];congr 1
    by_cases z:p.1∈D2<;>simp[z]
   by_cases z:p.1∈D2
   ·rw[ε (by rw[hr,η z];simp)];refine UM ?_;refine UJ (j3 (s:={s with heap:=h' }) P4 GD ?_);refine UM (Ml _ ⟨h',rfl,sb,?_⟩);rw[em,δ z,V1];exact Fp
   ·rw[δ (by rw[hr,ζ z];rfl)];refine UJ (jV (s:={s with heap:=h' }) Fp (by
     have:((d.map (·.1)).filter λx=>UP (x∉D2)).length<=d.length:=VN (Vv _ _) (by simp);have HY:Wn=4096:=rfl;omega) λh2 HZ E7=>?_)
    refine UM ?_;refine UJ (j3 (s:={s with heap:=h2}) ((HZ.2 a (U5 PY)).trans P4) GD ?_);refine UM (Ml _ ⟨h2,rfl,sb.trans HZ,?_⟩);rw[em,ε z];rw[ε (λq=>Sb (Vq.mp q).1)]at E7;exact E7
  ·subst e';refine UM ?_;refine UM (h h' (keep h' sb) (Fp.perm ?_));exact hp.filter _
end
theorem lq:Ľ table "set.__sub__"=UI Xk.«frozenset.__sub__» :=
 ö (id':="frozenset.__sub__") (by kernel_rfl) rfl (by decide +kernel) (by kernel_rfl)
section
theorem yr(Gh:a≠b)(hS:aL prog w s.heap a (aB w) D1)(hT:aL prog w s.heap b (aB w) D2)(h1:D1.length<64)(h2:D2.length<64)
  (h:∀h',(∀c o,s.heap.get? c=UI o->h'.get? c=UI o)->aL prog w h' s.heap.objs.size (aB w) (D1.filter λx=>UP (x∉D2))->Q (.ref s.heap.objs.size) {s with heap:=h' }):UU (U6 prog w) A (XA .Sub (.ref a) (.ref b)) Q E s:=by
 refine wpAny_binaryOp_same (T:="set") hS.ty hT.ty PySem.F.fills_set_sub PySem.F.slot_set_sub (VI PySem.F.slot_set_sub hS.ty lq ?_ (PySem.F.args_set_sub_2 _ _));unfold Xk.«frozenset.__sub__»;show UU (U6 prog w) _ (do
  let x <-Zo "__sub__" ⟨[.ref a,.ref b],[]⟩
  match x with
  |(self,other) =>
   match if UO=UN then(other,self) else(self,other) with
   |(l,r)=>do
    let c <-Wy l <&&> Wy r
    if (!c)=UN then do
      ų (Y0 "frozenset."++Y0 "__sub__"++Y0 ".declined")
      ret Value.notImplemented
     else do
      let d <-Zi l
      let e <-XF (Y0 "frozenset."++Y0 "__sub__") d r
      ret e) _ _ _
 refine UJ (m:=Zo "__sub__" ⟨[.ref a,.ref b],[]⟩) (UM (a:=(Vd a,Vd b)) ?_)
 dsimp only
 refine UJ (UJ (fu hS ?_));show UU _ _ (Wy (.ref b)) _ _ _;refine fu hT ?_;rw[ε (by simp)];refine UJ (UM ?_);refine UJ (vQ Gh hS hT h1 h2 λh' hk hs=>?_);exact UM ⟨_,rfl,(λz=>by cases z),h h' hk hs⟩
end
section
theorem qq(hc:X.calm=UN)(I:Inv X pins σ H s)(hq:EN X.K H p (ys.map V.str)\/EC X.K H p (ys.map V.str))(hb:ys.length+1<Wn)
  (h:∀(S:U8) (o:Obj) (s1:U1),s.heap.objs.size<=S->s1.heap.get? S=UI o->aL X.prog X.w s1.heap S (aB X.w) (ao ys)->Inv X ((S,o)::pins) σ H s1->Q (.ref S) s1) :
  UU (U6 X.prog X.w) X.A (X0 (.type "set") [.ref p]) Q X.xe s:=by
 have hh:X.A.handled=UK:=I.ok.hd hc;have fin:∀(h':Ws) (tk:Nat),aL X.prog X.w h' s.heap.objs.size (aB X.w) (ao ys)->(∀b o,b<s.heap.objs.size->s.heap.get? b=UI o->h'.get? b=UI o)->Q (.ref s.heap.objs.size) {s with heap:=h',toks:=tk}:=λh' tk hS k=>by
  obtain⟨L,es,ep,t,ho,r⟩:=_root_.id hS;have I1:Inv X pins σ H {s with heap:=h',toks:=tk}:=I.kept λb o e=>k b o (UY e) e;refine h _ _ _ (U_ _) ho hS (I1.dy λq hq=>?_);rcases U2.mp hq with rfl|hq
  ·exact⟨ho,I.Ef.fresh (U_ _),VV I.lt,I.An (U_ _),λv z=>nomatch z⟩
  ·exact I1.pin q (Vu _ hq)
 rcases hq with hq|hq
 ·obtain⟨A',rv,pl,hz⟩:=I.list hq;exact eS hh pl.isList (cf rv) hb λh' tk hS k=>fin h' tk hS k
 ·obtain⟨A',rv,pl,hz⟩:=I.tuple hq;exact fT hh pl (cf rv) hb λh' tk hS k=>fin h' tk hS k
end
section
theorem gQ(hit:s.heap.IsTupleIter it l i)
  (hl:s.heap.IsTuple l items) (hx:items[i]?=UI x)
  (hQ:∀h',h'.IsTupleIter it l (i+1)->Vz it s.heap h'->Q x {s with heap:=h' }) :
  UU (U6 prog w) A (VB (.ref it)) Q E s:=by
 obtain⟨o,ho,hc,hd⟩:=id hit;obtain⟨ol,KQ,_,nl,GF⟩:=hl;unfold VB;refine UJ (V7 (name:=W7 "__next__") hit.typeIs PySem.F.slot_tuple_iterator_next
  (VI PySem.F.slot_tuple_iterator_next hit.typeIs PySem.F.entry_tuple_iterator_next ?_ (PySem.F.args_tuple_iterator_next_1 _)))
 show UU _ _ (õ (.ref it) 0 >>= _) _ _ s;refine UJ (We ho hd (x:=.ref l) rfl ?_);show UU _ _ (if (Vd l==Vy)=UN then _ else _) _ _ s;rw[ε (show ¬((Vd l==Vy)=UN) from Vw)];show UU _ _ (õ (.ref it) 1 >>= _) _ _ s;refine UJ (We ho hd (x:=.int i 0) rfl ?_);show UU _ _ (Ó (.ref l) >>= _) _ _ s;refine UJ (Wq KQ GF ?_);simp only[WC,hx];refine UJ (W6 ho hd (by simp) (UM ⟨x,rfl,UM (hQ _ ?_ (Wf ..))⟩));exact⟨_,V4 _ ho (Y3 (W8 hd _)),(ZR ..).trans hc,by
  rw[W8 hd];simp[V0]⟩
theorem cG(hh:A.handled=UK)
  (hit:s.heap.IsTupleIter it l i) (hl:s.heap.IsTuple l items) (hx:items[i]?=UK)
  (hE:∀h' e,ÿ it s.heap h'->(∃o,h'.get? e=UI o/\o.cls=.type "StopIteration")->E (.ref e) {s with heap:=h' }) :
  UU (U6 prog w) A (VB (.ref it)) Q E s:=by
 obtain⟨o,ho,hc,hd⟩:=id hit;obtain⟨ol,KQ,_,nl,GF⟩:=hl;unfold VB;refine UJ (V7 (name:=W7 "__next__") hit.typeIs PySem.F.slot_tuple_iterator_next
  (VI PySem.F.slot_tuple_iterator_next hit.typeIs PySem.F.entry_tuple_iterator_next ?_ (PySem.F.args_tuple_iterator_next_1 _)))
 show UU _ _ (õ (.ref it) 0 >>= _) _ _ s;refine UJ (We ho hd (x:=.ref l) rfl ?_);show UU _ _ (if (Vd l==Vy)=UN then _ else _) _ _ s;rw[ε (show ¬((Vd l==Vy)=UN) from Vw)];show UU _ _ (õ (.ref it) 1 >>= _) _ _ s;refine UJ (We ho hd (x:=.int i 0) rfl ?_);show UU _ _ (Ó (.ref l) >>= _) _ _ s;refine UJ (Wq KQ GF ?_);simp only[WC,hx];refine UJ (WA (UJ (W6 ho hd (by simp) ?_)));show UU _ _ (ģ (.type "StopIteration") [] >>= _) _ _ _;refine UJ ?_;simp only[ģ,Μ];refine UJ (VL ?_ (by size_fits));refine UJ (m:=Zz _ _) (Û (a:=Vy) (by first|rfl|(simp only[Zz];rfl)) ?_);refine VL ?_ (by size_fits);simp only[ó];refine UJ (wpAny_handled ?_)
 first|rw[show A.in1.handled=UK from hh]|rw[hh]
 refine UJ (UM (wpAny_throw ?_));exact hE _ _ (((Wf ..).extBut.push _).push _) ⟨_,UZ _ rfl,rfl⟩
end
theorem eU(hh:A.handled=UK)(it l:U8)(EX:l≠it)(items:Array UT):
  ũ prog w A it [it,l] items.size (λi v=>items[i]?=UI v) (λi h=>h.IsTupleIter it l i/\h.IsTuple l items) where
 live:=λ_ _ st=>let ⟨o,ho,_⟩:=st.1;⟨o,ho⟩
 frame:=λ_ _ _ st hk=>⟨st.1.at λo e=>hk it (by simp) o e,let ⟨o,ho,r⟩:=st.2;⟨o,hk l (by simp) o ho,r⟩⟩
 item:=λi s Q E hi st hQ=>by
  refine gQ st.1 st.2 (x:=items[i]) (by simp[hi]) λh' Gk Fp=>?_;exact hQ _ h' s.toks (by simp[hi]) ⟨Gk,let ⟨o,ho,r⟩:=st.2;⟨o,(Fp.2 l EX).trans ho,r⟩⟩ Fp
 done:=λs Q E st hE=>cG hh st.1 st.2 (by simp) hE
open AutoSeq1 (wpAny_loadPart') in
theorem j4(l:U8)(items:Array UT)(n:Nat)(NZ:Option U8)(sl:Array (Option UT)):
  Meets (Xk.«enumerate.__new__» ⟨[.type "enumerate",.ref l],[]⟩) (λ_ R s=>s.heap.get? l=UI {cls:=.type "tuple",dict:=NZ,data:=.seq items n,slots:=sl} /\
   R (.ok (.ret (.ref (s.heap.push {cls:=.type "tuple_iterator",data:=.fields #[.ref l,.int 0 0]}).objs.size)))
    {s with heap:=(s.heap.push {cls:=.type "tuple_iterator",data:=.fields #[.ref l,.int 0 0]}).push {cls:=.type "enumerate",data:=.fields #[.none,.bool UO,.ref s.heap.objs.size,V0 0,.none,.none]}}) :=
 .of_wp λprog w A R s h=>by
  obtain⟨hp,g,d,tk,os⟩:=s;obtain⟨hl,h⟩:=h;have Fy:=sub_enumerate;have hL:ŧ (ê ⟨hp,g,d,tk,os⟩) l items:=⟨_,hl,rfl,n,rfl⟩
  wp_walk using Zl hl
  refine wpAny_stack_any λst=>UM ?_;split
  ·rename_i c _ _ _ _ _;cases(c==WB "enumerate")
   ·wp_walk using Zl hl,Xi hL
    exact⟨_,rfl,h⟩
   ·wp_walk using Zl hl,Xi hL
    exact⟨_,rfl,h⟩
  ·wp_walk using Zl hl,Xi hL
   exact⟨_,rfl,h⟩
section
theorem eV(hL:s.heap.IsTuple l items)
  (h:∀h',ĩ h' (s.heap.objs.size+1) s.heap.objs.size 0 .none->h'.IsTupleIter s.heap.objs.size l 0->h'.objs.size=s.heap.objs.size+2 ->
   (∀b o,s.heap.get? b=UI o->h'.get? b=UI o)->Q (.ref (s.heap.objs.size+1)) {s with heap:=h' }) :
  UU (U6 prog w) A (X0 (.type "enumerate") [.ref l]) Q E s:=by
 obtain⟨⟨c,NZ,dt,sl⟩,hl,hc,n,hd⟩:=hL
 replace hc:c=.type "tuple":=hc
 replace hd:dt=.seq items n:=hd
 subst hc hd;refine callType_new PySem.F.called_enumerate (by decide) (PySem.F.typeCall_enumerate_1 _) (PySem.F.newCall_enumerate_1 _) (λobj=>PySem.F.args_object_init_2 obj _) PySem.F.entry_enumerate_new
  (j4 l items n NZ sl) ⟨hl,?_⟩
 have hz:(s.heap.push {cls:=.type "tuple_iterator",data:=.fields #[.ref l,.int 0 0]}).objs.size=s.heap.objs.size+1:=Y5 ..;show _/\_;rw[hz];have he:ĩ ((s.heap.push {cls:=.type "tuple_iterator",data:=.fields #[.ref l,.int 0 0]}).push
   {cls:=.type "enumerate",data:=.fields #[.none,.bool UO,.ref s.heap.objs.size,V0 0,.none,.none]}) (s.heap.objs.size+1) s.heap.objs.size 0 .none:=by
  have:=UZ (s.heap.push {cls:=.type "tuple_iterator",data:=.fields #[.ref l,.int 0 0]})
   (o:={cls:=.type "enumerate",data:=.fields #[.none,.bool UO,.ref s.heap.objs.size,V0 0,.none,.none]}) rfl
  rw[hz]at this;exact this
 refine⟨⟨_,he,rfl⟩,h _ he ⟨_,UL _ (UZ _ rfl),rfl,rfl⟩ (by rw[Y5,hz]) λb o x=>UL _ (UL _ x)⟩
end
end L2
namespace L2
open PySem PySem.Spec PyProof.Rows
section
theorem Inv.jv{ch:List U8}(I:Inv X pins σ H s)(hf:∀b∈ch,gD X pins H b)(k:∀b o,b∉ch->s.heap.get? b=UI o->h'.get? b=UI o):Inv X pins σ H {s with heap:=h',toks:=t' }:=by
 have Kl:∀b u,H b=UI u->b∉ch:=λb u e z=>by rw[(hf b z).1]at e;cases e
 refine I.step (g':=s.gens) (d':=s.drawn) (ch:=ch) (λb hb=>?_) (λb o _ _ hc e _=>k b o hc e) (λb o _ _ hc e _=>⟨o.slots,k b o hc e⟩) (λ_ _ _ _ n=>n)
  (λb o hc e=>⟨o,k b o hc e⟩) (λ_ _ e=>e) (λ_ _ _ e=>e) (λb ps e=>⟨#[],by rw[e];simp⟩) (λm hm=>?_) (λb u e=>?_) I.bare
 ·obtain⟨f0,f1,f2,f3,f4,f5⟩:=hf b hb;exact⟨f3,f1,f4,f5⟩
 ·obtain⟨o,es,ep,ho,r⟩:=hm;exact⟨o,es,ep,k _ o (λz=>(hf _ z).2.1 rfl) ho,r⟩
 ·refine(I.Ef b u e).fY (λc v hc q=>k c v ?_ q) (λ_ q=>q) λ_ _ q=>q;rcases hc with z|z
  ·rw[z];exact Kl b u e
  ·exact Kl c _ z
theorem Inv.gq{ch:List U8}(I:Inv X pins σ H s)(hf:∀b∈ch,gD X pins H b)(k:∀b o,b∉ch->s.heap.get? b=UI o->h'.get? b=UI o)(hT:s.heap.objs.size<=T)(new:bq X.prog X.w (upd H T o) h' T o):
  Inv X pins σ (upd H T o) {s with heap:=h',toks:=t' }:=by
 have I1:Inv X pins σ H {s with heap:=h',toks:=t' }:=I.jv hf k;have hn:H T=UK:=I.Ef.fresh hT;have nT:∀b o,s.heap.get? b=UI o->b≠T:=λb o e z=>by rw[z]at e;exact absurd (Vg (UY e) hT) (V8 _)
 have nH:∀b u,H b=UI u->b≠T:=λb u e z=>by rw[z,hn]at e;cases e
 refine I.step (g':=s.gens) (d':=s.drawn) (ch:=ch) (λb hb=>?_) (λb o _ _ hc e _=>k b o hc e) (λb o _ _ hc e _=>⟨o.slots,k b o hc e⟩) (λb o _ e n=>by rw[ak (nT b o e)];exact n)
  (λb o hc e=>⟨o,k b o hc e⟩) (λb _ e=>by rw[ak (nH b _ e)];exact e) (λb _ _ e=>by rw[ak (nH b _ e)];exact e) (λb ps e=>⟨#[],by rw[ak (nH b _ e),e];simp⟩) (λm hm=>?_) (λb u e=>?_) I.bare
 ·obtain⟨f0,f1,f2,f3,f4,f5⟩:=hf b hb;exact⟨f3,f1,f4,f5⟩
 ·obtain⟨o,es,ep,ho,r⟩:=hm;exact⟨o,es,ep,k _ o (λz=>(hf _ z).2.1 rfl) ho,r⟩
 ·by_cases hb:b=T
  ·subst hb;rw[au]at e;cases e;exact new
  ·rw[ak hb]at e;exact(I1.Ef b u e).fY (λc v _ q=>q) (λc q=>by rw[ak (nH c _ q)];exact q) λc xs q=>by rw[ak (nH c _ q)];exact q
end
noncomputable def J3(Sq:Hp->List V->Prop):It :=
 ⟨λi H=>∃xs x,Sq H xs/\xs[i]?=UI x,λi H x H'=>∃p,H p=UK/\x=.ref p/\∀xs v,Sq H xs->xs[i]?=UI v->H'=upd H p (.tup [.int i,v]),λi H=>∃xs,Sq H xs/\xs.length<=i⟩
theorem lT{K:PySem.W.Frag}(Sq:Hp->List V->Prop)(a e it:U8)(Jq:e≠it)(At:Nat->Ws->Prop)(Is:Ws->Array UT->Prop)
  (Fm:∀i h h',At i h->(∀o,h.get? it=UI o->h'.get? it=UI o)->At i h') (P5:∀i h,At i h->∃o,h.get? it=UI o/\∀v,o.data≠.cell v)
  (J4:∀(X:Cx) (pins:List (U8×Obj)) (s:U1) (σ:St) (H:Hp) (xs:List V),X.K=K->Inv X pins σ H s->Sq H xs->∃A':List UT,Vals xs A'/\Is s.heap A'.toArray)
  (N0:∀(X:Cx) (pins:List (U8×Obj)) (s:U1) (σ:St) (H:Hp) (xs ys:List V),X.K=K->Inv X pins σ H s->Sq H xs->Sq H ys->xs=ys)
  (PZ:∀h items i old,Is h items->ĩ h e it i old->e≠a)
  (hD:∀(A:WZ) (items:Array UT),A.handled=UK->ũ P w A it [it,a] items.size (λi v=>items[i]?=UI v) (λi h=>At i h/\Is h items))
  (GO:∀(A:WZ) (s:U1) (i:Nat) (items:Array UT) (Q:UT->U1->Prop) (E:UT->U1->Prop),A.handled=UK->At i s.heap->Is s.heap items->items[i]?=UK ->
   (∀h' x,ÿ it s.heap h'->(∃o,h'.get? x=UI o/\o.cls=.type "StopIteration")->E (.ref x) {s with heap:=h' })->UU (U6 P w) A (VB (.ref it)) Q E s) :
  Turn P w K (.Tuple es kx ps) (J3 Sq) [e,it] e (λi h=>(∃old,ĩ h e it i old)/\At i h) where
 mem:=by simp
 obj:=λi h st b hb=>by
  obtain⟨⟨old,he⟩,hl⟩:=st;rcases U2.mp hb with z|z
  ·rw[z];exact⟨_,he,λv z=>by
    have z':Ā _=ç v:=z;cases z'⟩
  ·rw[Vl.mp z];exact P5 i h hl
 keep:=λi h h' ⟨⟨old,he⟩,hl⟩ k=>⟨⟨old,k e (by simp) _ he⟩,Fm i h h' hl λo q=>k it (by simp) o q⟩
 item:=by
  intro X hP hw hK hc i pins s σ H E I hf ⟨⟨old,he⟩,hl⟩ hg;subst hP hw;obtain⟨xs,x,hq,hx⟩:=hg;obtain⟨A',rv,p⟩:=J4 X pins s σ H xs hK I hq;obtain⟨u,hu,ru⟩:=rv.get hx;have Ez:i<A'.toArray.size:=by simpa using(UW.mp hu).1
  have D:=hD X.A.in1 A'.toArray (by simpa using I.ok.hd hc);have N1:=PZ _ _ _ _ p he;refine wpAny_pyNext_enum_itemD D he ⟨hl,p⟩ Ez Jq (by simp[Jq,N1]) λy h1 tk hy ho st1 hT hsz hk=>?_;have ey:y=u:=by
   have:A'.toArray[i]?=UI u:=by simpa using hu
   rw[this]at hy;cases hy;rfl
  subst ey;refine⟨_,rfl,wpAny_letOwnedTupleGo_enum (s:={s with heap:=h1,toks:=tk+1}) ho λh2 Mn E7=>?_⟩;have P6:e<s.heap.objs.size:=UY he;have Lc:h2.get? s.heap.objs.size=UI {cls:=.type "tuple",data:=.seq #[.int i tk,y]}:=(E7.2 _ (VV P6)).trans hT;have k2:∀b o,b∉[e,it]->s.heap.get? b=UI o->h2.get? b=UI o:=λb o hb q=>by
   simp only[U2,Wu,or_false,not_or]at hb;exact(E7.2 b hb.1).trans (hk b o hb.1 hb.2 q)
  have I2:Inv X pins σ (upd H s.heap.objs.size (.tup [.int i,x])) {s with heap:=h2,toks:=tk+1}:=I.gq hf k2 (U_ _)
   (show bq X.prog X.w _ h2 _ (.tup [.int i,x]) from⟨by show 2<=US;decide,[.int i tk,y],.cons ⟨tk,rfl⟩ (.cons ru .nil),⟨_,Lc,rfl,_,rfl⟩⟩)
  refine⟨.ref s.heap.objs.size,_,I2,rfl,⟨_,I.Ef.fresh (U_ _),rfl,λys v hy hv=>?_⟩,⟨⟨_,Mn⟩,Fm (i+1) h1 h2 st1.1 λo q=>(E7.2 it (VP Jq)).trans q⟩,λb hb=>?_⟩
  ·have:=N0 X pins s σ H ys xs hK I hy hq;subst this;rw[hx]at hv;cases hv;rfl
  ·have Fx:b≠s.heap.objs.size:=by
    rcases U2.mp hb with z|z
    ·rw[z];exact U5 P6
    ·rw[Vl.mp z];obtain⟨o,q,_⟩:=P5 i _ hl;exact U5 (UY q)
   rw[ak Fx];exact(hf b hb).1
 done:=by
  intro X hP hw hK hc i pins s σ H E I hf ⟨⟨old,he⟩,hl⟩ hg;subst hP hw;obtain⟨xs,hq,hx⟩:=hg;obtain⟨A',rv,p⟩:=J4 X pins s σ H xs hK I hq;have hlen:=rv.length;have hT:s.TypeIs (.ref e) "enumerate":=⟨_,he,rfl⟩
  unfold Yj;refine UJ (ZU (V7 (name:=W7 "__next__") hT PySem.F.slot_enumerate_next
   (VI PySem.F.slot_enumerate_next hT PySem.F.entry_enumerate_next ?_ (PySem.F.args_enumerate_next_1 _))))
  show UU _ _ (õ (.ref e) 2 >>= _) _ _ _;refine UJ (We he rfl (x:=.ref it) rfl ?_);refine UJ (GO _ _ i A'.toArray _ _ (by simpa using I.ok.hd hc) hl p (by simp;omega) λh' x Nz Ky=>?_);obtain⟨o,ho,Mj⟩:=Ky;refine UJ (Wm (T:="StopIteration") (b:=UN) ⟨o,ho,Mj⟩ Zy ?_);refine UM ⟨rfl,I.jv (t':=s.toks) (ch:=[it]) (λb hb=>hf b (Vx _ hb)) λb o hb q=>Nz b o (λz=>hb (by simp[z])) q⟩
 self:=λA i s Q E ⟨⟨old,he⟩,hl⟩ h=>Z_ he h
section
variable{X:Cx}{es:List VO}{kx:Nat}{ps p pos:Pos}
theorem tZ:Wh "enumerate"=UI (.type "enumerate"):=by decide +kernel
def DZ(K:PySem.W.Frag)(ta:TA):TI:=λσ H R=>ta σ H λvs H1=>∃a,vs=[.ref a]/\((∃xs,EN K H1 a xs)/\R (J3 λH xs=>EN K H a xs) H1\/(∃xs,EC K H1 a xs)/\R (J3 λH xs=>EC K H a xs) H1)
theorem A1(a e it:U8)(Jq:e≠it)(KI:a≠it):Turn X.prog X.w X.K (.Tuple es kx ps) (J3 λH xs=>EN X.K H a xs) [e,it] e (λi h=>(∃old,ĩ h e it i old)/\h.IsListIter it a i):=by
 refine lT _ a e it Jq (λi h=>h.IsListIter it a i) (λh items=>h.IsList a items) (λi h h' x k=>x.at k) (λi h ⟨o,ho,hc,hd⟩=>⟨o,ho,λv z=>by rw[hd]at z;cases z⟩)
  (λY pins s σ H xs hK I hq=>?_) (λY pins s σ H xs ys hK I hx hy=>?_) (λh items i old ⟨o,ho,hc,_⟩ he z=>?_) (λA items hh=>Ď hh it a KI items) (λA s i items Q E hh hl hp hx hE=>Ĳ hh hl hp hx hE)
 ·rw[<-hK]at hq;obtain⟨A',rv,p,hz⟩:=I.list hq;exact⟨A',rv,p.isList⟩
 ·rw[<-hK]at hx hy;exact I.jF hx hy
 ·rw[<-z,he]at ho;cases ho;have HD:WB "enumerate"=WB "list":=hc;exact absurd HD (by decide)
theorem A2(a e it:U8)(Jq:e≠it)(KI:a≠it):Turn X.prog X.w X.K (.Tuple es kx ps) (J3 λH xs=>EC X.K H a xs) [e,it] e (λi h=>(∃old,ĩ h e it i old)/\h.IsTupleIter it a i):=by
 refine lT _ a e it Jq (λi h=>h.IsTupleIter it a i) (λh items=>h.IsTuple a items) (λi h h' x k=>x.at k) (λi h ⟨o,ho,hc,hd⟩=>⟨o,ho,λv z=>by rw[hd]at z;cases z⟩)
  (λY pins s σ H xs hK I hq=>?_) (λY pins s σ H xs ys hK I hx hy=>?_) (λh items i old ⟨o,ho,hc,_⟩ he z=>?_) (λA items hh=>eU hh it a KI items) (λA s i items Q E hh hl hp hx hE=>cG hh hl hp hx hE)
 ·rw[<-hK]at hq;obtain⟨A',rv,p,hz⟩:=I.tuple hq;exact⟨A',rv,p⟩
 ·rw[<-hK]at hx hy;exact I.iw hx hy
 ·rw[<-z,he]at ho;cases ho;have HD:WB "enumerate"=WB "tuple":=hc;exact absurd HD (by decide)
theorem yt(hg:Gl X "enumerate")(hm:X.mg "enumerate"=UK)(ha:PA X [a] ta)(hs:Vf [a] X.env=[(UO,Wo a X.env)]):PI X (.Tuple es kx ps) (.Call (.Name "enumerate" p) [a] [] pos) (DZ X.K ta):=by
 intro pins s σ H R I h;refine Call_ (dc I hg hm tZ (Wz (Ej (ha pos pins s σ H _ I h) λus s1 ⟨vs,H1,I1,r1,q1⟩=>?_) hs rfl));obtain⟨a',e,q⟩:=q1;subst e;obtain⟨u,rfl,r⟩:=vals1 r1;cases r;have ne1:s1.heap.objs.size+1≠s1.heap.objs.size:=Nat.succ_ne_self _;have fin:∀(h':Ws),(∀b∈[s1.heap.objs.size+1,s1.heap.objs.size],gD X pins H1 b):=λh' b hb=>by
  have Fx:s1.heap.objs.size<=b:=by
   rcases U2.mp hb with z|z
   ·rw[z];exact XQ _
   ·rw[Vl.mp z];exact U_ _
  exact I1.tw Fx (I1.Ef.fresh Fx)
 rcases q with⟨⟨xs,hq⟩,q⟩|⟨⟨xs,hq⟩,q⟩
 ·obtain⟨A',rv,p,hz⟩:=I1.list hq;have Ez:a'<s1.heap.objs.size:=let ⟨o,ho,_⟩:=p.isList;UY ho;refine call_enumerate_list p.isList λh' he hl hsz hk=>?_;refine Z_ he ⟨_,[s1.heap.objs.size+1,s1.heap.objs.size],_,_,H1,rfl,I1.kept (t':=s1.toks) hk,A1 a' _ _ ne1 (U5 Ez),⟨⟨_,he⟩,hl⟩,fin h',q⟩
 ·obtain⟨A',rv,p,hz⟩:=I1.tuple hq;have Ez:a'<s1.heap.objs.size:=let ⟨o,ho,_⟩:=p;UY ho;refine eV p λh' he hl hsz hk=>?_;refine Z_ he ⟨_,[s1.heap.objs.size+1,s1.heap.objs.size],_,_,H1,rfl,I1.kept (t':=s1.toks) hk,A2 a' _ _ ne1 (U5 Ez),⟨⟨_,he⟩,hl⟩,fin h',q⟩
end
theorem t6(l:U8)(items:Array UT)(n:Nat)(b:U8)(EK:Array UT)(n2:Nat)(dd:Option U8)(sl:Array (Option UT))(Fh:¬(!items.isEmpty&&WJ (items.size+EK.size))=UN)(FT:items.size<=US)(E7:items.size+EK.size<=US+1):
  Meets (Xk.«list.extend» ⟨[.ref l,.ref b],[]⟩) (λ_ R s=>s.heap.get? l=UI {cls:=.type "list",dict:=UK,data:=.seq items n,slots:=#[]}/\s.heap.get? b=UI {cls:=.type "list",dict:=dd,data:=.seq EK n2,slots:=sl}/\R (.ok (.ret Vy)) {s with heap:=s.heap.update l (VE λx=>x++EK),toks:=s.toks}) :=
 .of_wp λprog w A R s h=>by
  obtain⟨hp,g,d,tk,os⟩:=s;obtain⟨hl,hb,h⟩:=h;have f1:=ā;have f2:=Z5;have f3:=Ñ;have f4:=Ì;have f5:=Í;
  have Le:(items++EK).size<=US+1:=by rw[ZG];exact E7
  wp_walk using(Zk hl rfl (hz:=FT) (_hz':=Le)),Xu hl,Xu hb;exact⟨_,rfl,h⟩
theorem t8(l:U8)(items:Array UT)(n:Nat)(b:U8)(EK:Array UT)(n2:Nat)(dd:Option U8)(sl:Array (Option UT))(Fh:¬(!items.isEmpty&&WJ (items.size+EK.size))=UN)(FT:items.size<=US)(E7:items.size+EK.size<=US+1):
  Meets (Xk.«list.extend» ⟨[.ref l,.ref b],[]⟩) (λ_ R s=>s.heap.get? l=UI {cls:=.type "list",dict:=UK,data:=.seq items n,slots:=#[]}/\s.heap.get? b=UI {cls:=.type "tuple",dict:=dd,data:=.seq EK n2,slots:=sl}/\R (.ok (.ret Vy)) {s with heap:=s.heap.update l (VE λx=>x++EK),toks:=s.toks}) :=
 .of_wp λprog w A R s h=>by
  obtain⟨hp,g,d,tk,os⟩:=s;obtain⟨hl,hb,h⟩:=h;have f1:=ā;have f2:=Z5;have f3:=Ñ;have f4:=Ì;have f5:=Í;
  have Le:(items++EK).size<=US+1:=by rw[ZG];exact E7
  wp_walk using(Zk hl rfl (hz:=FT) (_hz':=Le)),Xu hl,Xu hb;exact⟨_,rfl,h⟩
section
theorem qr:Pn X "list.extend" (λx vs H Q=>∃l b xs zs,x=.ref l/\vs=[.ref b]/\H l=UI (.lst xs)/\(EN X.K H b zs\/EC X.K H b zs)/\xs.length+zs.length<=US/\Q .Es (upd H l (.lst (xs++zs)))):=by
 intro pins s σ H x vs v us Q I rx rv h;obtain⟨l,b,xs,zs,rfl,rfl,hH,hB,hz,q⟩:=h;cases rx;obtain⟨u,rfl,ru⟩:=rv.one;cases ru;obtain⟨z,A',n,r,hl,e⟩:=I.CB hH;have fin:∀Ew:List UT,Vals zs Ew->EP X pins σ Q Vy {s with heap:=s.heap.update l (VE λx=>x++Ew.toArray),toks:=s.toks}:=λEw r2=>by
  refine⟨.Es,_,I.mM (its':=A'++Ew) hH e (by simp) (r.append r2) ?_,rfl,q⟩;rw[U'];omega
 have sz:∀Ew:List UT,zs.length=Ew.length->A'.toArray.size+Ew.toArray.size<=US:=λEw h=>by rw[U9,U9];omega
 have lg:∀Ew:List UT,zs.length=Ew.length->¬(!A'.toArray.isEmpty&&WJ (A'.toArray.size+Ew.toArray.size))=UN:=λEw h=>by
  rw[vh (sz Ew h),Y_];exact Vw
 rcases hB with hB|hB
 ·obtain⟨Ew,r2,pl,_⟩:=I.list hB;obtain⟨⟨cls,dd,data,sl⟩,ho,hc,n2,hd⟩:=pl.isList;simp only at hc hd;subst hc hd;have GA:=r2.length;have h1:=sz Ew GA;exact Ze F.slot_list_extend ⟨_,e,rfl⟩ F.entry_list_extend (F.args_list_extend_2 _ _) (t6 l A'.toArray n b Ew.toArray n2 dd sl (lg Ew GA) ⋯ ⋯) ⟨e,ho,fin Ew r2⟩
 ·obtain⟨Ew,r2,pl,_⟩:=I.tuple hB;obtain⟨⟨cls,dd,data,sl⟩,ho,hc,n2,hd⟩:=pl;simp only at hc hd;subst hc hd;have GA:=r2.length;have h1:=sz Ew GA;exact Ze F.slot_list_extend ⟨_,e,rfl⟩ F.entry_list_extend (F.args_list_extend_2 _ _) (t8 l A'.toArray n b Ew.toArray n2 dd sl (lg Ew GA) ⋯ ⋯) ⟨e,ho,fin Ew r2⟩
end
end L2
namespace L2
open PySem PySem.W PyProof.Rows
noncomputable def gr{α:Type}(lt:Nat->Nat->Bool):KasT α->α
 |.ret x=>x
 |.ask i j k=>gr lt (k (lt i j))
def Fi{α:Type}(n:Nat)(P:α->Prop):KasT α->Prop
 |.ret x=>P x
 |.ask i j k=>i<n/\j<n/\∀b,Fi n P (k b)
theorem Fi.J5{P:α->Prop}{Q:β->Prop}{f:α->KasT β}(hf:∀x,P x->Fi n Q (f x)):∀{t:KasT α},Fi n P t->Fi n Q (t.bind f)
 |.ret x,h=>hf x h
 |.ask i j k,h=>⟨h.1,h.2.1,λb=>Fi.J5 hf (h.2.2 b)⟩
theorem Fi.got:∀{t:KasT α},Fi n P t->P (gr lt t)
 |.ret _,h=>h
 |.ask i j k,h=>Fi.got (t:=k (lt i j)) (h.2.2 _)
theorem Fi.wp(hc:∀i j,i<n->j<n->∀C:Bool->U1->Prop,C (lt i j) s->cmp i j C s):
  ∀{t:KasT α},Fi n P t->Q (gr lt t) s->t.kasWp cmp Q s
 |.ret _,_,q=>q
 |.ask i j k,h,q=>hc i j h.1 h.2.1 _ (Fi.wp hc (t:=k (lt i j)) (h.2.2 _) q)
def Pm(n:Nat)(p:Array Nat):Prop:=p.toList.Perm (UX n)
section
variable{n:Nat}(hn:0<n)
include hn
theorem Pm.at(h:Pm n p)(i:Nat):p.getD i 0<n:=by
 by_cases hi:i<p.size
 ·have:p.getD i 0=p[i]:=by simp[Zu,hi]
  rw[this];have hm:p[i]∈p.toList:=by simp
  exact V6.mp (h.mem_iff.mp hm)
 ·have:p.getD i 0=0:=by simp[Zu,hi]
  rw[this];exact hn
omit hn in
theorem Pm.rev(h:Pm n p)(i j:Nat):Pm n (kas_rev p i j):=(mirror_perm p i j _).toList.trans h
omit hn in
theorem Pm.Se(h:Pm n p)(i j:Nat):Pm n (bubble p i j):=(bubble_perm p i j).toList.trans h
theorem qt(h:Pm n p):∀(f m:Nat),Fi n (λ_=>True) (kas_asc p f m)
 |0,m=>trivial
 |f+1,m=>⟨h.at hn _,h.at hn _,λb=>by
  cases b
  ·exact qt h f (m+1)
  ·exact trivial⟩
theorem jw:∀(f:Nat) (p:Array Nat) (m q:Nat),Pm n p->Fi n (λr=>Pm n r.1) (kas_desc f p m q)
 |0,p,m,q,h=>h
 |f+1,p,m,q,h=>⟨h.at hn _,h.at hn _,λb=>by
  cases b
  ·exact⟨h.at hn _,h.at hn _,λb=>by
    cases b
    ·exact jw f p (m+1) (q+1) h
    ·exact h⟩
  ·show Fi n _ (if q>0 then _ else _);split
   ·exact jw f _ _ _ (h.rev _ _)
   ·exact jw f _ _ _ h⟩
theorem rQ(h:Pm n p)(m r:Nat):Fi n (λx=>Pm n x.2) (kas_tail3 m r p):=by
 unfold kas_tail3;refine Fi.J5 (λx _=>?_) (qt hn (h.rev _ _) _ _);exact h.rev _ _
theorem rR(h:Pm n p)(m r:Nat):Fi n (λx=>Pm n x.2) (kas_descPart m r p):=by
 unfold kas_descPart;refine Fi.J5 (λx hx=>?_) (jw hn _ _ _ _ h);split
 ·exact rQ hn (hx.rev _ _) _ _
 ·exact rQ hn hx _ _
theorem vR(h:Pm n p)(r:Nat):Fi n (λx=>Pm n x.2) (kas_count r p):=by
 unfold kas_count;refine Fi.J5 (λm _=>?_) (qt hn h _ _);split
 ·exact h
 ·split
  ·exact⟨h.at hn _,h.at hn _,λb=>by
    cases b
    ·exact rR hn (h.rev _ _) _ _
    ·exact h⟩
  ·exact rR hn h _ _
theorem j6(h:Pm n p)(k:Nat):∀(f l r:Nat),Fi n (λ_=>True) (kas_place p k f l r)
 |0,l,r=>trivial
 |f+1,l,r=>by
  unfold kas_place;split
  ·exact trivial
  ·exact⟨h.at hn _,h.at hn _,λb=>by
    cases b
    ·exact j6 h k f _ _
    ·exact j6 h k f _ _⟩
theorem vT:∀(f:Nat) (p:Array Nat) (k:Nat),Pm n p->Fi n (Pm n) (kas_bin f p k)
 |0,p,k,h=>h
 |f+1,p,k,h=>Fi.J5 (λl _=>vT f _ _ (h.Se _ _)) (j6 hn h _ _ _ _)
theorem rS:Fi n (Pm n) (Xn n):=by
 unfold Xn;refine Fi.J5 (λx hx=>?_) (vR hn (p:=List.toArray (UX n)) (by unfold Pm;simp) n);split
 ·exact vT hn _ _ _ hx
 ·exact hx
end
theorem j7(lt:Nat->Nat->Bool)(n:Nat):(gr lt (Xn n)).toList.Perm (UX n):=by
 cases n with
 |zero=>exact Xd _
 |succ n=>exact(rS (ù n)).got
section
theorem t_(ho:s.heap.get? a=UI (Wg "list" vs.toArray n))(Gi:vs.length<64)
  (P7:2<=vs.length->∀s1:U1,(∀b o,b≠a->s.heap.get? b=UI o->s1.heap.get? b=UI o)->UU (U6 prog w) A (keyKind' vs.toArray) (λκ s'=>s'=s1/\∀i j,i<vs.length->j<vs.length->∀C:Bool->U1->Prop,C (lt i j) s1->ţ prog w A κ vs i j C s1) (λ_ _=>False) s1)
  (h:P (.done (.ret .none)) {s with heap:=Ŗ s.heap a vs (((gr lt (Xn vs.length)).toList.map λi=>vs.getD i Vy).toArray)}) :
  UU (U6 prog w) A (Xk.«list.sort» ⟨[.ref a],[]⟩) P E s:=by
 have ha:a<s.heap.objs.size:=UY ho;have big:(64:Nat)<=US:=by decide
 rw[list_sort_plain];refine UJ (Ĭ ho rfl (UJ (ZZ ho rfl ?_ (by rw[U9];omega) (Vo _))));obtain⟨e1,Gm⟩:∃e1,(s.heap.update a (VE λ_=>(#[]:Array UT))).get? a=UI (Wg "list" #[] e1):=⟨_,Β ho λ_=>#[]⟩
 refine UJ (ł Gm rfl (UJ (Η (UJ (ĉ (VG ?_) (Vo _))) (by show vs.length<=_;omega))));have Lf:(((s.heap.update a (VE λ_=>(#[]:Array UT))).push (Wg "tuple" vs.toArray 0)).push (Wg "list" #[] 0)).get? a=UI (Wg "list" #[] e1):=UL _ (UL _ Gm);have old:∀b o,b≠a->s.heap.get? b=UI o->(((s.heap.update a (VE λ_=>(#[]:Array UT))).push (Wg "tuple" vs.toArray 0)).push (Wg "list" #[] 0)).get? b=UI o:=λb o hb e =>
  UL _ (UL _ (by rw[Xz _ _ _ _ hb];exact e))
 show UU (U6 prog w) A _ P E {s with heap:=((s.heap.update a (VE λ_=>(#[]:Array UT))).push (Wg "tuple" vs.toArray 0)).push (Wg "list" #[] 0)}
 dsimp only
 have Lg:((gr lt (Xn vs.length)).toList.map λi=>vs.getD i Vy).length=vs.length:=by rw[UQ,(j7 lt _).length_eq,WO]
 by_cases h2:vs.toArray.size<2
 ·rw[δ h2,δ h2];refine UJ (UM ?_);rw[StateT.run_pure];refine UJ (UM ?_);have eo:((gr lt (Xn vs.length)).toList.map λi=>vs.getD i Vy).toArray=(vs.toArray.zip vs.toArray).map (·.2):=by
   have hp:=j7 lt vs.length;clear h P7 Lg old Lf ho Gi
   match vs,h2,hp with
   |[],_,hp=>rw[show(gr lt (Xn ([]:List UT).length)).toList=[] from List.perm_nil.mp hp];simp
   |[v],_,hp=>rw[show(gr lt (Xn [v].length)).toList=[0] from List.perm_singleton.mp hp];simp
   |_::_::_,h2,_=>simp at h2;omega
  rw[eo]at h
  dsimp only
  refine UJ (ł Lf rfl (UJ (ZZ Lf rfl ?_ (Vo _) (by rw[Yr];show(pairsOf vs).size<=_;rw[pairsOf_size];omega))));simp only[bne_self_eq_false,VD,ι];exact UM h
 ·rw[ε h2,ε h2];have Iy:2<=vs.length:=by rw[U9]at h2;omega
  refine UJ (VS (P7 Iy _ old) (λκ s0 hk=>?_) λ_ _ x=>x.elim);obtain⟨rfl,hk⟩:=hk;refine UJ (VS (kat_run (κ:=κ) (ks:=vs) (vs:=vs) (G:=λp s'=>p=gr lt (Xn vs.length)/\s'={s with heap:=((s.heap.update a (VE λ_=>(#[]:Array UT))).push (Wg "tuple" vs.toArray 0)).push (Wg "list" #[] 0)})
   (Q:=λst' s'=>∃p:Array Nat,arrOf st'=p.map (kas_item (vs.toArray.zip vs.toArray))/\failedOf st'=UK/\p=gr lt (Xn vs.length)/\s'={s with heap:=((s.heap.update a (VE λ_=>(#[]:Array UT))).push (Wg "tuple" vs.toArray 0)).push (Wg "list" #[] 0)})
   rfl Iy Gi (λp st' s' a1 a2 a3 a4=>⟨p,a2,a3,a4⟩) (Fi.wp hk (rS ⋯) ⟨rfl,rfl⟩)) ?_ λ_ _ e=>e)
  rintro⟨⟨⟩,st'⟩ s' ⟨p,Sf,hf,rfl,rfl⟩
  dsimp only
  have N2:=kat_snds rfl Sf;rw[N2,hf];refine UJ (ł Lf rfl (UJ (ZZ Lf rfl ?_ (Vo _) (by rw[U9,Lg];omega))));simp only[bne_self_eq_false,VD,ι];exact UM h
end
abbrev yu:=Str×Int
noncomputable def ID(ks:List Str)(i j:Nat):Bool:=UP ((ks.getD i VW).cps.toList<(ks.getD j VW).cps.toList)
noncomputable def jk(ks:List Str):List Nat:=(gr (ID ks) (Xn ks.length)).toList
theorem fw(ks:List Str):(jk ks).Perm (UX ks.length):=j7 _ _
noncomputable def CI(x:Str)(n:Int)(t u:Tok):Obj:={cls:=.type "tuple",data:=.seq #[.str x t,.int n u]}
def eM(h:Ws)(as:List U8)(ps:List yu):Prop:=as.length=ps.length/\∀(j:Nat) (a:U8),as[j]?=UI a->∃p t u,ps[j]?=UI p/\h.get? a=UI (CI p.1 p.2 t u)
theorem eM.keeps(x:eM h as ps)(k:∀b o,b∈as->h.get? b=UI o->h'.get? b=UI o):eM h' as ps :=
 ⟨x.1,λj a e=>let ⟨p,t,u,e1,e2⟩:=x.2 j a e;⟨p,t,u,e1,k a _ (Vt e) e2⟩⟩
theorem eM.tail(x:eM h (a::as) (p::ps)):eM h as ps :=
 ⟨by have:=x.1;simpa using this,λj b e=>by
  obtain⟨q,t,u,e1,e2⟩:=x.2 (j+1) b (by simpa using e);exact⟨q,t,u,by simpa using e1,e2⟩⟩
theorem eM.jl:∀{as:List U8}{ps:List yu},eM h as ps->∃fs:List UT,KatTups h (as.map Vd) fs/\fs.length=as.length/\∀v∈fs,∃x t,v=VF x t
 |[],_,_=>⟨[],KatTups.nil,rfl,by simp⟩
 |a::as,[],x=>by have:=x.1;simp at this
 |a::as,p::ps,x=>by
  obtain⟨fs,h1,h2,h3⟩:=eM.jl x.tail;obtain⟨q,t,u,e1,e2⟩:=x.2 0 a rfl;refine⟨.str q.1 t::fs,KatTups.cons e2 rfl rfl rfl h1,by simp[h2],λv hv=>?_⟩;rcases U2.mp hv with rfl|hv
  ·exact⟨_,_,rfl⟩
  ·exact h3 v hv
theorem lU:∀{l:List α}{m:List β}{i:Nat}{x:α},Paired F l m->l[i]?=UI x->∃y,m[i]?=UI y/\F x y
 |_,_,_,_,.nil,e=>by simp at e
 |_,_,0,_,.cons r _,e=>by simp at e;subst e;exact⟨_,rfl,r⟩
 |_,_,i+1,x,.cons _ t,e=>by
  obtain⟨u,h1,h2⟩:=lU (i:=i) (x:=x) t (by simpa using e);exact⟨u,by simpa using h1,h2⟩
section
theorem A3(x:eM s.heap as ps)(Eo:(ps.map (·.1)).Nodup)(hi:i<as.length)(hj:j<as.length)(q:C (ID (ps.map (·.1)) i j) s):
  ţ prog w A (tuples' UN) (as.map Vd) i j C s:=by
 obtain⟨p,t,u,e1,e2⟩:=x.2 i as[i] (by simp[hi]);obtain⟨p',t',u',E9,FY⟩:=x.2 j as[j] (by simp[hj]);have hl:=x.1;have Sg:i<ps.length:=by omega
 have N3:j<ps.length:=by omega
 have gi:(as.map Vd).getD i Vy=.ref as[i]:=by simp[Xc,hi]
 have gj:(as.map Vd).getD j Vy=.ref as[j]:=by simp[Xc,hj]
 have ki:(ps.map (·.1)).getD i VW=p.1:=by simp[Xc,e1]
 have kj:(ps.map (·.1)).getD j VW=p'.1:=by simp[Xc,E9]
 unfold ţ;rw[gi,gj];refine kat_lt (b:=UN) e2 rfl FY rfl ?_;unfold ID at q;rw[ki,kj]at q;show KatLex prog w A UN (UP (2<2)) C [(.str p.1 t,.str p'.1 t'),(.int p.2 u,.int p'.2 u')] 0 s;refine kat_cons (ů ?_);by_cases h:p.1=p'.1
 ·have FI:i=j:=by
   have a1:(ps.map (·.1))[i]'(by simpa using Sg)=(ps.map (·.1))[j]'(by simpa using N3):=by
    obtain⟨_,z1⟩:=UW.mp e1;obtain⟨_,z2⟩:=UW.mp E9;simp[z1,z2,h]
   exact(ķ Eo).mp a1
  subst FI;rw[e1]at E9;cases E9;rw[η rfl];refine kat_yes (kat_cons (Ű ?_));rw[show(p.2==p.2)=UN by simp];refine kat_yes (kat_nil ?_);have:UP (p.1.cps.toList<p.1.cps.toList)=UO:=ζ (List.lt_irrefl _);rw[this]at q;exact q
 ·rw[ζ h];exact kat_no (oneLt_str q)
theorem A4(x:eM s.heap as ps)(Eo:(ps.map (·.1)).Nodup)(h2:2<=as.length):
  UU (U6 prog w) A (keyKind' (as.map Vd).toArray) (λκ s'=>s'=s/\∀i j,i<(as.map Vd).length->j<(as.map Vd).length->∀C:Bool->U1->Prop,C (ID (ps.map (·.1)) i j) s->ţ prog w A κ (as.map Vd) i j C s) (λ_ _=>False) s:=by
 obtain⟨fs,f1,f2,f3⟩:=x.jl;refine kat_kind (T:=.type "str") f1 ⋯ (λv hv=>?_) rfl ⟨rfl,λi j hi hj C q=>?_⟩
 ·obtain⟨y,t,rfl⟩:=f3 v hv;exact Looks.of_pure rfl
 ·rw[UQ]at hi hj;exact A3 x Eo hi hj q
end
noncomputable def jm(H:Hp):List (U8×List V)->Hp
 |[]=>H
 |(a,vs)::r=>upd (jm H r) a (.tup vs)
theorem j8:∀{l:List (U8×List V)}{b:U8}{o:HO},jm H l b=UI o->(∃vs,(b,vs)∈l/\o=.tup vs)\/H b=UI o
 |[],b,o,h=>.inr h
 |(a,vs)::r,b,o,h=>by
  by_cases hb:b=a
  ·subst hb;rw[jm,au]at h;cases h;exact .inl ⟨vs,by simp,rfl⟩
  ·rw[jm,ak hb]at h;rcases j8 h with⟨ws,q1,q2⟩|q
   ·exact .inl ⟨ws,by simp[q1],q2⟩
   ·exact .inr q
theorem j9:∀{l:List (U8×List V)}{b:U8},(∀p∈l,p.1≠b)->jm H l b=H b
 |[],b,_=>rfl
 |(a,vs)::r,b,h=>by
  rw[jm,ak (VP (h _ Vr))];exact j9 λp hp=>h p (by simp[hp])
theorem rT:∀{l:List (U8×List V)}{b:U8}{vs:List V},(l.map (·.1)).Nodup->(b,vs)∈l->jm H l b=UI (.tup vs)
 |(a,ws)::r,b,vs,nd,h=>by
  have P8:a∉r.map (·.1)/\(r.map (·.1)).Nodup:=by simpa using nd
  rcases U2.mp h with h|h
  ·cases h;exact au
  ·have:b≠a:=λz=>P8.1 (by rw[<-z];exact Vc.mpr ⟨_,h,rfl⟩);rw[jm,ak this];exact rT P8.2 h
section
theorem Inv.many(I:Inv X pins σ H s)(k:∀b u,s.heap.get? b=UI u->h'.get? b=UI u)(hH:∀b o,H b=UI o->H' b=UI o)
  (hn:∀b o,H' b=UI o->H b=UI o\/(s.heap.objs.size<=b/\bq X.prog X.w H' h' b o)):Inv X pins σ H' {s with heap:=h',toks:=t' }:=by
 refine I.un ⟨λb u q _ _ _=>k b u q,λb u q _ _ _=>⟨u.slots,k b u q⟩,λb u q n _=>?_,λb u q _=>⟨u,k b u q⟩,λb xs q=>hH b _ q,λb u xs q=>hH b _ q,λb ps q=>⟨#[],by rw[hH b _ q];simp⟩⟩ λb o e=>?_
 ·cases e:H' b with
  |none=>rfl
  |some o =>
   rcases hn b o e with z|⟨z,_⟩
   ·rw[n]at z;cases z
   ·exact absurd (Vg (UY q) z) (V8 _)
 ·rcases hn b o e with z|⟨_,z⟩
  ·exact(I.Ef b o z).fY (λc v _ q=>k c v q) (λc q=>hH c _ q) λc xs q=>hH c _ q
  ·exact z
noncomputable def HK(p:yu):List V:=[.str p.1,.int p.2]
theorem m6{ps:List yu}(hc:X.calm=UN)(I:Inv X pins σ H s)(e:H d=UI (.dK (ps.map λp=>((Vs p.1:Key),V.int p.2))))(Eo:(ps.map (·.1)).Nodup)(Gi:ps.length<64)
  (q:∀(as:List U8) (L:U8),as.length=ps.length->as.Nodup->(∀a∈L::as,H a=UK)->L∉as->Q (.ref L) (upd (jm H (as.zip (ps.map HK))) L (.lst ((jk (ps.map (·.1))).map λi=>V.ref (as.getD i 0))))) :
  UU (U6 X.prog X.w) X.A (X0 (.builtin "dict.items") [.ref d]) (λv s1=>UU (U6 X.prog X.w) X.A (X0 (.builtin "sorted") [v]) (EP X pins σ Q) X.xe s1) X.xe s:=by
 have big:(64:Nat)<=US:=by decide
 obtain⟨hz,lo,vs,kv,dd⟩:=zI I.Ef e;have hlen:vs.length=ps.length:=by
  have:=Paired.length kv;simpa using this.symm
 obtain⟨o,es,ep,hd⟩:=id dd;refine É PySem.F.slot_dict_items (show s.TypeIs (.ref d) "dict" from⟨o,hd.1,hd.2.1.1⟩) PySem.F.entry_dict_items (PySem.F.args_dict_items_1 _) (Ŵ (aO X.prog X.w) d lo) ⟨⟨vs,dd⟩,?_⟩;show UU (U6 X.prog X.w) X.A (X0 (.builtin "sorted") [.ref s.heap.objs.size]) (EP X pins σ Q) X.xe {s with heap:=s.heap.push {cls:=.type "dict_items",data:=.fields #[.ref d]}};have k1:∀b u,s.heap.get? b=UI u->(s.heap.push {cls:=.type "dict_items",data:=.fields #[.ref d]}).get? b=UI u:=λb u z=>UL _ z;have Us:(s.heap.push {cls:=.type "dict_items",data:=.fields #[.ref d]}).DictOf (aO X.prog X.w) d vs:=⟨o,es,ep,k1 _ _ hd.1,hd.2⟩
 have Fm:(s.heap.push {cls:=.type "dict_items",data:=.fields #[.ref d]}).DictAt (aO X.prog X.w) d vs ep:=⟨o,es,k1 _ _ hd.1,hd.2⟩
 refine Ï kind_sorted plain_sorted entry_sorted (args_sorted1 _) ?_;unfold Xk.«sorted»;refine UJ (m:=checkCount "sorted" 1 1 _) (UM ?_);refine UJ (kdx_collect (A:=X.A.in1) (knd:=aO X.prog X.w) (kvs:=vs) (ep:=ep) (I.ok.hd hc) ⟨_,UZ _ rfl,rfl,rfl⟩ Fm ⋯ λh1 tk as hk hl hG=>?_);have Io:as.length=ps.length:=hl.trans hlen;have above:∀a∈as,s.heap.objs.size<=a:=λa ha=>by
  have:=hG.above a ha;have z:(s.heap.push {cls:=.type "dict_items",data:=.fields #[.ref d]}).objs.size=s.heap.objs.size+1:=WN ..;have P9:(s.heap.push {cls:=.type "dict_items",data:=.fields #[.ref d]}).objs.size<a:=this;omega
 have pa:eM h1 as ps:=⟨Io,λj a ea=>by
  obtain⟨key,k,x,e1,e2,e3⟩:=hG.pairs j a ea;have hj:j<ps.length:=by rw[<-Io];exact(UW.mp ea).1
  obtain⟨y,ey,r1,r2⟩:=lU kv (i:=j) (x:=((Vs ps[j].1:Key),V.int ps[j].2)) (by simp[hj]);rw[e1]at ey;cases ey;obtain⟨tx,rfl⟩:∃t,x=.int ps[j].2 t:=r2;have Sh:k=Vs ps[j].1:=r1.symm;subst Sh;obtain⟨t,rfl⟩:=þ (x:=ps[j].1) (v:=key) e2;exact⟨ps[j],t,tx,by simp[hj],e3⟩⟩
 have nd:as.Nodup:=hG.rise.imp λh=>U5 h;refine UJ (ĉ ?_ (by rw[UQ];omega));have HQ:(h1.push (Wg "list" (as.map Vd).toArray 0)).get? h1.objs.size=UI (Wg "list" (as.map Vd).toArray 0):=UZ _ rfl;show UU _ _ _ _ _ {s with heap:=h1.push (Wg "list" (as.map Vd).toArray 0),toks:=tk};have P_:∀a∈as,a<h1.objs.size:=λa ha=>hG.there ha;refine UJ (VG (VI Φ ⟨_,HQ,rfl⟩ Δ (t_ (lt:=ID (ps.map (·.1))) HQ (by rw[UQ];omega) (λh2 s1 ks=>?_) ⟨_,rfl,?_⟩) (Ω _)))
 ·refine A4 (pa.keeps λb o hb z=>ks b o (U5 (P_ b hb)) (UL _ z)) Eo (by rw[UQ]at h2;exact h2)
 ·obtain⟨ee,he⟩:=sortedHeap_at (out:=((gr (ID (ps.map (·.1))) (Xn (as.map Vd).length)).toList.map λi=>(as.map Vd).getD i Vy).toArray) HQ;have hold:∀b o,h1.get? b=UI o->(Ŗ (h1.push (Wg "list" (as.map Vd).toArray 0)) h1.objs.size (as.map Vd) ((gr (ID (ps.map (·.1))) (Xn (as.map Vd).length)).toList.map λi=>(as.map Vd).getD i Vy).toArray).get? b=UI o:=λb o z=>by
   have Ez:b<h1.objs.size:=UY z;rw[Υ (U5 Ez) (by rw[WN];exact YJ Ez)];exact UL _ z
  have Jj:s.heap.objs.size<=h1.objs.size:=Xy (UY (hk _ _ (UZ _ rfl)));have eP:((gr (ID (ps.map (·.1))) (Xn (as.map Vd).length)).toList)=jk (ps.map (·.1)):=by
   unfold jk;rw[UQ,UQ,Io]
  have J6:H h1.objs.size=UK:=I.Ef.fresh Jj;have Si:h1.objs.size∉as:=λz=>V8 _ (P_ _ z);have P':∀a∈as,H a=UK:=λa ha=>I.Ef.fresh (above a ha);have N4:∀{b:U8} {ws:List V},(b,ws)∈as.zip (ps.map HK)->b∈as:=λz=>(XG z).1;refine UM ⟨_,rfl,.ref h1.objs.size,upd (jm H (as.zip (ps.map HK))) h1.objs.size (.lst ((jk (ps.map (·.1))).map λi=>V.ref (as.getD i 0))),?_,rfl,q as _ Io nd (λa ha=>?_) Si⟩
  ·refine I.many (λb u z=>hold b u (hk b u (k1 b u z))) (λb o z=>?_) λb o z=>?_
   ·have n1:b≠h1.objs.size:=λy=>by rw[y,J6]at z;cases z
    rw[ak n1,j9 λp hp y=>?_]
    ·exact z
    ·have:=P' p.1 (N4 (b:=p.1) (ws:=p.2) hp);rw[y,z]at this;cases this
   ·by_cases hb:b=h1.objs.size
    ·subst hb;rw[au]at z;cases z;refine .inr ⟨Jj,by rw[UQ,(fw _).length_eq,WO,UQ];omega,(jk (ps.map (·.1))).map λi=>(as.map Vd).getD i Vy,ee,?_,?_⟩
     ·have Fo:∀i∈jk (ps.map (·.1)),i<as.length:=λi hi=>by
       have:=V6.mp ((fw _).mem_iff.mp hi);rw[UQ]at this;omega
      generalize jk (ps.map (·.1))=l at Fo;induction l with
      |nil=>exact .nil
      |cons i l ih =>
       refine .cons ?_ (ih λj hj=>Fo j (by simp[hj]));have hi:=Fo i (by simp);show RelV (.ref (as.getD i 0)) ((as.map Vd).getD i Vy);have:(as.map Vd).getD i Vy=.ref (as.getD i 0):=by simp[Xc,hi]
       rw[this];rfl
     ·rw[<-eP];exact he
    ·rw[ak hb]at z;rcases j8 z with⟨ws,z1,rfl⟩|z1
     ·obtain⟨j,hj,ej⟩:=Ą.mp z1;have N5:j<as.length:=by simp at hj;omega
      have N3:j<ps.length:=by omega
      have Sj:as[j]=b/\HK ps[j]=ws:=by simpa using ej
      obtain⟨rfl,rfl⟩:=Sj;obtain⟨p,t,u,e1,e2⟩:=pa.2 j as[j] (by simp[N5]);have:p=ps[j]:=by simpa[N3] using e1.symm
      subst this;exact .inr ⟨above _ (by simp),by show 2<=US;omega,[.str ps[j].1 t,.int ps[j].2 u],.cons ⟨t,rfl⟩ (.cons ⟨u,rfl⟩ .nil),_,hold _ _ e2,rfl,0,rfl⟩
     ·exact .inl z1
  ·rcases U2.mp ha with rfl|ha
   ·exact J6
   ·exact P' a ha
end
section
end
section
theorem vU:X.calm=UN->iS X (.builtin "any") (λxs H Q=>∃(p:U8) (bs:List Bool),xs=[.ref p]/\EN X.K H p (bs.map V.bl)/\Q (.bl (bs.any id)) H):=by
 intro hc pins s σ H xs us Q I rs h;obtain⟨p,bs,rfl,hq,q⟩:=h;obtain⟨u,rfl,r⟩:=vals1 rs;cases r;obtain⟨A',rv,pl,hz⟩:=I.list hq;have e:=eQ rv;subst e;have Ez:p<s.heap.objs.size:=by obtain⟨_,_,e,_⟩:=pl;exact UY e
 refine call_any_walk (X6 pl.isList ?_);refine⟨s.heap.objs.size,[s.heap.objs.size,p],[s.heap.objs.size],(bs.map W0).toArray.size,_,_,λi=>(bs[i]?).getD UO,rfl,Č (A:=X.A.in1) (I.ok.hd hc) _ p (U5 Ez) (bs.map W0).toArray,
  ⟨⟨_,UZ _ rfl,rfl,rfl⟩,pl.isList.push _⟩,λi v s' Q' E' hP hQ=>?_,λh' tk hk=>?_⟩
 ·have Hj:(bs.map W0)[i]?=UI v:=by simpa using hP
  rw[Vi]at Hj;cases e:bs[i]? with
  |none=>rw[e]at Hj;cases Hj
  |some b =>
   rw[e]at Hj;cases Hj;simp only[e,ZN]at hQ;exact Wc hQ
 ·have e:((UX (bs.map W0).toArray.size).any λi=>(bs[i]?).getD UO)=bs.any id:=by
   rw[U9,UQ];exact ň bs
  rw[e];exact⟨.bl _,H,I.kept (t':=tk) (Y6 hk),rfl,q⟩
end
end L2
namespace L2
open PySem PySem.Spec PyProof.Rows
structure Lh(z TI TO i1 i2:U8)(f1 f2:List U8):Prop where
 Iz:TI≠z
 Oz:TO≠z
 az:i1≠z
 bz:i2≠z
 IO:TI≠TO
 Ia:TI≠i1
 Ib:TI≠i2
 Oa:TO≠i1
 Ob:TO≠i2
 ab:i1≠i2
 z1:z∉f1
 z2:z∉f2
 O1:TO∉f1
 O2:TO∉f2
 b1:i2∉f1
 a2:i1∉f2
def zM(prog:VZ)(w:Wi)(A:WZ)(it:U8)(St:Ws->Prop):Prop:=∀(s:U1) (Q:UT->U1->Prop) (E:UT->U1->Prop),St s.heap->(∀h' e,ÿ it s.heap h'->(∃o,h'.get? e=UI o/\o.cls=.type "StopIteration")->E (.ref e) {s with heap:=h' })->UU (U6 prog w) A (VB (.ref it)) Q E s
section
variable{prog:VZ}{w:Wi}{A:WZ}{E:UT->U1->Prop}{s:U1}{z TI TO i1 i2:U8}{f1 f2:List U8}{n1 n2 i:Nat}{P1 P2:Nat->UT->Prop}{S1 S2:Nat->Ws->Prop}
theorem vV(D1:ũ prog w A.in1 i1 f1 n1 P1 S1)(D2:ũ prog w A.in1 i2 f2 n2 P2 S2)(Z:Lh z TI TO i1 i2 f1 f2)(hz:ZC s.heap z TI TO .none)(GQ:XY s.heap TI (.ref i1) (.ref i2))(G2:XY s.heap TO a b)
  (t1:S1 i s.heap) (t2:S2 i s.heap) (l1:i<n1) (l2:i<n2)
  (hQ:∀x y h' tk,P1 i x->P2 i y->ZC h' z TI TO (V0 s.heap.objs.size)->XY h' TO x y->S1 (i+1) h'->S2 (i+1) h'->XY h' s.heap.objs.size x y ->
   (∀c o,c≠z->c≠TO->c≠i1->c≠i2->s.heap.get? c=UI o->h'.get? c=UI o)->Q (UI (.ref s.heap.objs.size)) {s with heap:=h',toks:=tk}):UU (U6 prog w) A (Yj (.ref z)) Q E s:=by
 have hT:s.TypeIs (.ref z) "zip":=⟨_,hz,rfl⟩
 have nz:∀{f:List U8} {c:U8},c∉f->∀b∈f,b≠c:=λhc b hb e=>hc (e▸hb);unfold Yj;refine UJ (ZU (V7 (name:=W7 "__next__") hT PySem.F.slot_zip_next (VI PySem.F.slot_zip_next hT PySem.F.entry_zip_next ?_ (PySem.F.args_zip_next_1 _))));show UU _ _ (õ (.ref z) 2 >>= _) _ _ _;refine UJ (We hz rfl (x:=.bool UO) rfl ?_);show UU _ _ (õ (.ref z) 3 >>= _) _ _ _;refine UJ (We hz rfl (x:=.ref TI) rfl (UJ (Wq GQ rfl ?_)));show UU _ _ (Wt (.ref z) >>= _) _ _ _;refine UJ ?_;unfold Wt;refine UJ (We hz rfl (x:=.none) rfl (UM ?_));simp only[μ];refine UJ (WA (UJ (We hz rfl (x:=.ref TO) rfl (UJ (Xh hz (by simp) λg1 Ho k1=>UJ ?_)))))
 replace Ho:ZC g1 z TI TO .ellipsis:=Ho
 simp only[Ĵ,ń,Yd,Yw];refine UJ (UJ (ZT ?_));show UU _ _ (VB (.ref i1) >>= _) _ _ _;refine UJ (D1.item i _ _ _ l1 (D1.frame i _ _ t1 λb hb o e=>k1.extBut b o (nz Z.z1 b hb) e) λx g2 NO px u1 k2=>UM ?_);have Li:XY g2 TO a b:=k2.extBut _ _ Z.Oa (k1.extBut _ _ Z.Oz G2);refine UJ (Wq Li rfl (UJ (Zw Li λg3 Mo k3=>UJ (ĺ (UM ?_)))))
 replace Mo:XY g3 TO x b:=Mo
 refine UJ (UJ (ZT ?_));show UU _ _ (VB (.ref i2) >>= _) _ _ _;refine UJ (D2.item i _ _ _ l2 (D2.frame i _ _ t2 λb hb o e=>k3.extBut b o (nz Z.O2 b hb) (k2.extBut b o (nz Z.a2 b hb) (k1.extBut b o (nz Z.z2 b hb) e))) λy g4 Ut py u2 k4=>UM ?_);have Qa:XY g4 TO x b:=k4.extBut _ _ Z.Ob Mo;refine UJ (Wq Qa rfl (UJ (Zw Qa λg5 Mp k5=>UJ (ĺ (UM (UM ?_))))))
 replace Mp:XY g5 TO x y:=Mp
 refine UJ (Wq Mp rfl (UJ (Η ?_)));have hsz:g5.objs.size=s.heap.objs.size:=by rw[k5.1,k4.1,k3.1,k2.1,k1.1]
 have Qb:ZC g5 z TI TO .ellipsis:=k5.extBut _ _ Z.Oz.symm (k4.extBut _ _ Z.bz.symm (k3.extBut _ _ Z.Oz.symm (k2.extBut _ _ Z.az.symm Ho)));have kk:∀c o,c≠z->c≠TO->c≠i1->c≠i2->s.heap.get? c=UI o->g5.get? c=UI o:=λc o c1 c2 c3 c4 e =>
  k5.extBut _ _ c2 (k4.extBut _ _ c4 (k3.extBut _ _ c2 (k2.extBut _ _ c3 (k1.extBut _ _ c1 e))))
 have v1:S1 (i+1) g5:=D1.frame _ _ _ u1 λb hb o e=>k5.extBut b o (nz Z.O1 b hb) (k4.extBut b o (nz Z.b1 b hb) (k3.extBut b o (nz Z.O1 b hb) e));have v2:S2 (i+1) g5:=D2.frame _ _ _ u2 λb hb o e=>k5.extBut b o (nz Z.O2 b hb) e;have Qc:z<g5.objs.size:=UY Qb;show UU _ _ (Yt (.ref z) (.ref g5.objs.size) >>= _) _ _ _;refine UJ ?_;unfold Yt;have Sk:ZC (g5.push {cls:=.type "tuple",data:=.seq #[x,y]}) z TI TO .ellipsis:=UL _ Qb;refine UJ (Xh Sk (by simp) λg7 N6 k7=>?_)
 replace N6:ZC g7 z TI TO (V0 g5.objs.size):=N6
 refine Xh N6 (by simp) λg8 Mq k8=>?_
 replace Mq:ZC g8 z TI TO (V0 g5.objs.size):=Mq
 have up:∀c o,c≠z->g5.get? c=UI o->g8.get? c=UI o:=λc o c1 e=>k8.extBut _ _ c1 (k7.extBut _ _ c1 (UL _ e));have Qd:XY g8 g5.objs.size x y:=k8.extBut _ _ (VV Qc) (k7.extBut _ _ (VV Qc) (UZ _ rfl));rw[hsz]at Mq Qd;refine UM ⟨_,rfl,?_⟩;show UU _ _ (pure (UI (Vd g5.objs.size))) _ _ _;rw[hsz];exact UM (hQ x y g8 _ px py Mq (up _ _ Z.Oz Mp) (D1.frame _ _ _ v1 λb hb o e=>up b o (nz Z.z1 b hb) e) (D2.frame _ _ _ v2 λb hb o e=>up b o (nz Z.z2 b hb) e) Qd λc o c1 c2 c3 c4 e=>up c o c1 (kk c o c1 c2 c3 c4 e))
theorem vW(hh:A.handled=UK)(D1:ũ prog w A.in1 i1 f1 n1 P1 S1)(D2:ũ prog w A.in1 i2 f2 n2 P2 S2)(Z:Lh z TI TO i1 i2 f1 f2)(hz:ZC s.heap z TI TO .none)(GQ:XY s.heap TI (.ref i1) (.ref i2))(G2:XY s.heap TO a b)
  (t1:S1 i s.heap) (t2:S2 i s.heap) (he:zM prog w A.in1 i1 (S1 i)\/i<n1/\zM prog w A.in1 i2 (S2 i))
  (hQ:∀h' tk,(∀c o,c≠z->c≠TO->c≠i1->c≠i2->s.heap.get? c=UI o->h'.get? c=UI o)->Q UK {s with heap:=h',toks:=tk}):UU (U6 prog w) A (Yj (.ref z)) Q E s:=by
 have hT:s.TypeIs (.ref z) "zip":=⟨_,hz,rfl⟩
 have nz:∀{f:List U8} {c:U8},c∉f->∀b∈f,b≠c:=λhc b hb e=>hc (e▸hb);unfold Yj;refine UJ (ZU (V7 (name:=W7 "__next__") hT PySem.F.slot_zip_next (VI PySem.F.slot_zip_next hT PySem.F.entry_zip_next ?_ (PySem.F.args_zip_next_1 _))));show UU _ _ (õ (.ref z) 2 >>= _) _ _ _;refine UJ (We hz rfl (x:=.bool UO) rfl ?_);show UU _ _ (õ (.ref z) 3 >>= _) _ _ _;refine UJ (We hz rfl (x:=.ref TI) rfl (UJ (Wq GQ rfl ?_)));show UU _ _ (Wt (.ref z) >>= _) _ _ _;refine UJ ?_;unfold Wt;refine UJ (We hz rfl (x:=.none) rfl (UM ?_));simp only[μ];refine UJ (WA (UJ (We hz rfl (x:=.ref TO) rfl (UJ (Xh hz (by simp) λg1 Ho k1=>UJ ?_)))))
 replace Ho:ZC g1 z TI TO .ellipsis:=Ho
 simp only[Ĵ,ń,Yd,Yw];refine UJ (UJ (ZT ?_));show UU _ _ (VB (.ref i1) >>= _) _ _ _;have Qe:=D1.frame i _ _ t1 λb hb o e=>k1.extBut b o (nz Z.z1 b hb) e;rcases he with e1|⟨l1,e2⟩
 ·refine UJ (e1 _ _ _ Qe λg2 e k2 ⟨oe,Jr,Lj⟩=>?_);have Mr:ZC g2 z TI TO .ellipsis:=k2 _ _ Z.az.symm Ho;have N7:e≠z:=λx=>by subst x;rw[Mr]at Jr;cases Jr;simp at Lj
  refine Xh Mr (by simp) λg3 _ k3=>?_;refine UJ (Wm (T:="StopIteration") (b:=UN) ⟨oe,k3.extBut _ _ N7 Jr,Lj⟩ Zy ?_);exact UM (hQ _ _ λc o c1 _ c3 _ x=>k3.extBut _ _ c1 (k2 _ _ c3 (k1.extBut _ _ c1 x)))
 ·refine UJ (D1.item i _ _ _ l1 Qe λx g2 NO px u1 k2=>UM ?_);have Li:XY g2 TO a b:=k2.extBut _ _ Z.Oa (k1.extBut _ _ Z.Oz G2);refine UJ (Wq Li rfl (UJ (Zw Li λg3 Mo k3=>UJ (ĺ (UM ?_)))));refine UJ (UJ (ZT ?_));show UU _ _ (VB (.ref i2) >>= _) _ _ _;refine UJ (e2 _ _ _ (D2.frame i _ _ t2 λb hb o e=>k3.extBut b o (nz Z.O2 b hb) (k2.extBut b o (nz Z.a2 b hb) (k1.extBut b o (nz Z.z2 b hb) e))) λg4 e k4 ⟨oe,Jr,Lj⟩=>?_);have Qf:ZC g4 z TI TO .ellipsis:=k4 _ _ Z.bz.symm (k3.extBut _ _ Z.Oz.symm (k2.extBut _ _ Z.az.symm Ho));have N7:e≠z:=λx=>by subst x;rw[Qf]at Jr;cases Jr;simp at Lj
  refine Xh Qf (by simp) λg5 _ k5=>?_;refine UJ (Wm (T:="StopIteration") (b:=UN) ⟨oe,k5.extBut _ _ N7 Jr,Lj⟩ Zy ?_);exact UM (hQ _ _ λc o c1 c2 c3 c4 x=>k5.extBut _ _ c1 (k4 _ _ c4 (k3.extBut _ _ c2 (k2.extBut _ _ c3 (k1.extBut _ _ c1 x)))))
end
noncomputable def N8(SA SB:Hp->List V->Prop):It :=
 ⟨λi H=>∃xs ys x y,SA H xs/\SB H ys/\xs[i]?=UI x/\ys[i]?=UI y,λi H v H'=>∃p,H p=UK/\v=.ref p/\∀xs ys x y,SA H xs->SB H ys->xs[i]?=UI x->ys[i]?=UI y->H'=upd H p (.tup [x,y]),λi H=>∃xs ys,SA H xs/\SB H ys/\(xs.length<=i\/i<xs.length/\ys.length<=i)⟩
section
theorem vX{K:PySem.W.Frag}{a b z TI TO i1 i2:U8}(Z:Lh z TI TO i1 i2 [i1,a] [i2,b])(Qg:a≠i1)(NI:b≠i2):Turn P w K (.Tuple es kx ps) (N8 (λH xs=>EN K H a xs) λH ys=>EC K H b ys) [z,TI,TO,i1,i2] z
  (λi h=>ZC h z TI TO .none/\XY h TI (.ref i1) (.ref i2)/\(∃u v,XY h TO u v)/\h.IsListIter i1 a i/\h.IsTupleIter i2 b i) where
 mem:=by simp
 obj:=λi h ⟨hz,GQ,⟨u,v,G2⟩,⟨o1,Gm,_,J7⟩,⟨o2,Ga,_,hd2⟩⟩ c hc=>by
  simp only[U2,Wu,or_false]at hc;rcases hc with rfl|rfl|rfl|rfl|rfl
  ·exact⟨_,hz,λv e=>by cases e⟩
  ·exact⟨_,GQ,λv e=>by cases e⟩
  ·exact⟨_,G2,λv e=>by cases e⟩
  ·exact⟨_,Gm,λv e=>by rw[J7]at e;cases e⟩
  ·exact⟨_,Ga,λv e=>by rw[hd2]at e;cases e⟩
 keep:=λi h h' ⟨hz,GQ,⟨u,v,G2⟩,h1,h2⟩ k=>⟨k z (by simp) _ hz,k TI (by simp) _ GQ,⟨u,v,k TO (by simp) _ G2⟩,h1.at λo e=>k i1 (by simp) o e,h2.at λo e=>k i2 (by simp) o e⟩
 item:=by
  intro Y hP hw hK hc i pins s σ H E I hf ⟨hz,GQ,⟨u,v,G2⟩,h1,h2⟩ ⟨xs,ys,x,y,HL,HJ,hx,hy⟩;rw[<-hK]at HL HJ;obtain⟨Js,r1,p1,_⟩:=I.list HL;obtain⟨Jt,r2,p2,_⟩:=I.tuple HJ;obtain⟨x0,IE,rx⟩:=r1.get hx;obtain⟨y0,Ms,ry⟩:=r2.get hy;have l1:i<Js.toArray.size:=by simpa using(UW.mp IE).1
  have l2:i<Jt.toArray.size:=by simpa using(UW.mp Ms).1
  have hA:Y.A.handled=UK:=I.ok.hd hc;subst hP hw;refine vV (Ď (A:=Y.A.in1) hA i1 a Qg Js.toArray) (eU (A:=Y.A.in1) hA i2 b NI Jt.toArray) Z hz GQ G2 ⟨h1,p1.isList⟩ ⟨h2,p2⟩ l1 l2 λx1 y1 g tk px py Le N9 t1 t2 hT k=>?_;have ex:x1=x0:=by
   have:Js.toArray[i]?=UI x0:=by simpa using IE
   rw[this]at px;cases px;rfl
  have ey:y1=y0:=by
   have:Jt.toArray[i]?=UI y0:=by simpa using Ms
   rw[this]at py;cases py;rfl
  subst ex ey;refine⟨_,rfl,wpAny_letOwnedTupleGo_zip (s:={s with heap:=g,toks:=tk}) Le λg2 Mr E7=>?_⟩;have lt:∀{c:U8} {o:Obj},s.heap.get? c=UI o->c≠s.heap.objs.size:=λe=>U5 (UY e);have N_:XY g TI (.ref i1) (.ref i2):=k _ _ Z.Iz Z.IO Z.Ia Z.Ib GQ;have Lc:g2.get? s.heap.objs.size=UI {cls:=.type "tuple",data:=.seq #[x1,y1]}:=(E7.2 _ (lt hz).symm).trans hT;have k2:∀c o,c∉[z,TI,TO,i1,i2]->s.heap.get? c=UI o->g2.get? c=UI o:=λc o hc e=>by
   simp only[U2,Wu,or_false,not_or]at hc;exact(E7.2 c hc.1).trans (k c o hc.1 hc.2.2.1 hc.2.2.2.1 hc.2.2.2.2 e)
  have I2:Inv Y pins σ (upd H s.heap.objs.size (.tup [x,y])) {s with heap:=g2,toks:=tk}:=I.gq hf k2 (U_ _)
   (show bq Y.prog Y.w _ g2 _ (.tup [x,y]) from⟨by show 2<=US;decide,[x1,y1],.cons rx (.cons ry .nil),⟨_,Lc,rfl,_,rfl⟩⟩)
  refine⟨.ref s.heap.objs.size,_,I2,rfl,⟨_,I.Ef.fresh (U_ _),rfl,λUu FL x' y' a1 a2 a3 a4=>?_⟩,⟨Mr,(E7.2 _ Z.Iz).trans N_,⟨_,_,(E7.2 _ Z.Oz).trans N9⟩,t1.1.at λo e=>(E7.2 _ Z.az).trans e,t2.1.at λo e=>(E7.2 _ Z.bz).trans e⟩,λc hc=>?_⟩
  ·rw[<-hK]at a1 a2;have:=I.jF a1 HL;subst this;have:=I.iw a2 HJ;subst this;rw[hx]at a3;rw[hy]at a4;cases a3;cases a4;rfl
  ·have EX:c≠s.heap.objs.size:=by
    simp only[U2,Wu,or_false]at hc;rcases hc with rfl|rfl|rfl|rfl|rfl
    ·exact lt hz
    ·exact lt GQ
    ·exact lt G2
    ·obtain⟨o,e,_⟩:=h1;exact lt e
    ·obtain⟨o,e,_⟩:=h2;exact lt e
   rw[ak EX];exact(hf c hc).1
 done:=by
  intro Y hP hw hK hc i pins s σ H E I hf ⟨hz,GQ,⟨u,v,G2⟩,h1,h2⟩ ⟨xs,ys,HL,HJ,GO⟩;rw[<-hK]at HL HJ;obtain⟨Js,r1,p1,_⟩:=I.list HL;obtain⟨Jt,r2,p2,_⟩:=I.tuple HJ;have e1:=r1.length;have e2:=r2.length;have hA:Y.A.handled=UK:=I.ok.hd hc;subst hP hw;refine vW hA (Ď (A:=Y.A.in1) hA i1 a Qg Js.toArray) (eU (A:=Y.A.in1) hA i2 b NI Jt.toArray) Z hz GQ G2 ⟨h1,p1.isList⟩ ⟨h2,p2⟩ ?_ λg tk k=>?_
  ·rcases GO with h|⟨h,h'⟩
   ·exact .inl λs Q E st hE=>Ĳ hA st.1 st.2 (by simp;omega) hE
   ·exact .inr ⟨by simp;omega,λs Q E st hE=>cG hA st.1 st.2 (by simp;omega) hE⟩
  ·exact⟨rfl,I.jv (t':=tk) (ch:=[z,TI,TO,i1,i2]) hf λc o hc e=>by
    simp only[U2,Wu,or_false,not_or]at hc;exact k c o hc.1 hc.2.2.1 hc.2.2.2.1 hc.2.2.2.2 e⟩
 self:=λA i s Q E ⟨hz,_⟩ h=>Ů hz h
theorem boot_zip:Wh "zip"=UI (.type "zip"):=by decide +kernel
def D0(K:PySem.W.Frag)(ta:TA):TI:=λσ H R=>ta σ H λvs H1=>∃a b,vs=[.ref a,.ref b]/\(∃xs,EN K H1 a xs)/\(∃ys,EC K H1 b ys)/\R (N8 (λH xs=>EN K H a xs) λH ys=>EC K H b ys) H1
theorem yw(l1 l2:U8)(xs ys:Array UT):
  Meets (Xk.«zip.__new__» ⟨[.type "zip",.ref l1,.ref l2],[]⟩) (λ_ R s=>s.heap.IsList l1 xs/\s.heap.IsTuple l2 ys /\
   R (.ok (.ret (.ref (s.heap.objs.size+4)))) {s with heap:=((((s.heap.push {cls:=.type "list_iterator",data:=.fields #[.ref l1,.int 0 0]}).push {cls:=.type "tuple_iterator",data:=.fields #[.ref l2,.int 0 0]}).push {cls:=.type "tuple",data:=.seq #[.ref s.heap.objs.size,.ref (s.heap.objs.size+1)]}).push {cls:=.type "tuple",data:=.seq #[.none,.none]}).push {cls:=.type "zip",data:=.fields #[.none,.bool UO,.bool UO,.ref (s.heap.objs.size+2),.ref (s.heap.objs.size+3)]}}) :=
 .of_wp λprog w A R s h=>by
  obtain⟨hp,g,d,tk,os⟩:=s;obtain⟨G0,GA,h⟩:=h;have Fy:=sub_zip;have Sl:Heap.IsList (ê ⟨hp,g,d,tk,os⟩) l1 xs:=G0;have Sm:ŧ (ê ⟨hp.push {cls:=.type "list_iterator",data:=.fields #[.ref l1,.int 0 0]},g,d,tk,os⟩) l2 ys:=let ⟨o,ho,r⟩:=GA;⟨o,UL _ ho,r⟩
  wp_walk using X6 Sl,Xi Sm
  simp only[Y5];exact⟨_,rfl,h⟩
theorem fy{c x y:Nat}(h1:x<c\/c<x)(h2:y<c):c∉[x,y]:=λh=>by
 rcases U2.mp h with e|h
 ·omega
 ·have:=Vl.mp h;omega
theorem yx{n l1 l2:Nat}(h1:l1<n)(h2:l2<n):Lh (n+4) (n+2) (n+3) n (n+1) [n,l1] [n+1,l2] :=
 ⟨U5 ⋯,U5 ⋯,U5 ⋯,U5 ⋯,U5 ⋯,VV ⋯,VV ⋯,VV ⋯,VV ⋯,U5 ⋯,
  fy ⋯ ⋯,fy ⋯ ⋯,fy ⋯ ⋯,fy ⋯ ⋯,fy ⋯ ⋯,fy ⋯ ⋯⟩
theorem yy(h:b∈[n+4,n+2,n+3,n,n+1]):n<=b:=by
 simp only[U2,Wu,or_false]at h;omega
theorem A5(hg:Gl X "zip")(hm:X.mg "zip"=UK)(ha:PA X [a,b] ta)(he:Vf (a::[b]) X.env=(UO,Wo a X.env)::Vf [b] X.env)(EY:(Ww pos (Vf [b] X.env)).any (·.1)=UO):PI X (.Tuple es kx ps) (.Call (.Name "zip" p) [a,b] [] pos) (D0 X.K ta):=by
 intro pins s σ H R I h;refine Call_ (dc I hg hm boot_zip (Wz (Ej (ha pos pins s σ H _ I h) λus s1 ⟨vs,H1,I1,r1,q1⟩=>?_) he EY));obtain⟨l1,l2,rfl,⟨xs,HL⟩,⟨ys,HJ⟩,q⟩:=q1;obtain⟨u1,u2,rfl,e1,e2⟩:=vals2 r1;cases e1;cases e2;obtain⟨Js,v1,p1,_⟩:=I1.list HL;obtain⟨Jt,v2,p2,_⟩:=I1.tuple HJ;have n1:l1<s1.heap.objs.size:=let ⟨o,ho,_⟩:=p1.isList;UY ho;have n2:l2<s1.heap.objs.size:=let ⟨o,ho,_⟩:=p2;UY ho;refine callType_new PySem.F.called_zip (by decide) (PySem.F.typeCall_zip_2 _ _) (PySem.F.newCall_zip_2 _ _) (λobj=>PySem.F.args_object_init_3 obj _ _) PySem.F.entry_zip_new (yw l1 l2 Js.toArray Jt.toArray) ⟨p1.isList,p2,?_⟩;generalize J8:((((s1.heap.push {cls:=.type "list_iterator",data:=.fields #[.ref l1,.int 0 0]}).push {cls:=.type "tuple_iterator",data:=.fields #[.ref l2,.int 0 0]}).push {cls:=.type "tuple",data:=.seq #[.ref s1.heap.objs.size,.ref (s1.heap.objs.size+1)]}).push {cls:=.type "tuple",data:=.seq #[.none,.none]}).push {cls:=.type "zip",data:=.fields #[.none,.bool UO,.bool UO,.ref (s1.heap.objs.size+2),.ref (s1.heap.objs.size+3)]}=g;have sz:∀(h:Ws) (o:Obj),(h.push o).objs.size=h.objs.size+1:=λh o=>WN ..;have at_:∀(h:Ws) (o:Obj) (n:Nat),h.objs.size=n->o.isFreed=UO->(h.push o).get? n=UI o:=λh o n e f=>by subst e;exact UZ _ f
 have g5:ZC g (s1.heap.objs.size+4) (s1.heap.objs.size+2) (s1.heap.objs.size+3) .none:=by subst J8;exact at_ _ _ _ (by simp[sz]) rfl
 have g4:XY g (s1.heap.objs.size+3) .none .none:=by subst J8;exact UL _ (at_ _ _ _ (by simp[sz]) rfl)
 have g3:XY g (s1.heap.objs.size+2) (.ref s1.heap.objs.size) (.ref (s1.heap.objs.size+1)):=by subst J8;exact UL _ (UL _ (at_ _ _ _ (by simp[sz]) rfl))
 have g2:g.IsTupleIter (s1.heap.objs.size+1) l2 0:=by subst J8;exact⟨_,UL _ (UL _ (UL _ (at_ _ _ _ (by simp[sz]) rfl))),rfl,rfl⟩
 have g1:g.IsListIter s1.heap.objs.size l1 0:=by subst J8;exact⟨_,UL _ (UL _ (UL _ (UL _ (at_ _ _ _ rfl rfl)))),rfl,rfl⟩
 have kk:∀c o,s1.heap.get? c=UI o->g.get? c=UI o:=λc o e=>by subst J8;exact UL _ (UL _ (UL _ (UL _ (UL _ e))))
 have Z:Lh (s1.heap.objs.size+4) (s1.heap.objs.size+2) (s1.heap.objs.size+3) s1.heap.objs.size (s1.heap.objs.size+1) [s1.heap.objs.size,l1] [s1.heap.objs.size+1,l2]:=yx n1 n2;refine⟨⟨_,g5,rfl⟩,Ů g5 ⟨_,[s1.heap.objs.size+4,s1.heap.objs.size+2,s1.heap.objs.size+3,s1.heap.objs.size,s1.heap.objs.size+1],_,_,H1,rfl,I1.kept (t':=s1.toks) kk,vX Z (U5 n1) (U5 (YJ n2)),⟨g5,g3,⟨_,_,g4⟩,g1,g2⟩,λb hb=>?_,q⟩⟩;have Fx:s1.heap.objs.size<=b:=yy hb;exact I1.tw Fx (I1.Ef.fresh Fx)
end
end L2
namespace L2
open PySem PySem.W PyProof.Rows
section
theorem Inv.freeze(I:Inv X pins σ H s)(hr:H r=UI (.dK kvs))(ho:s.heap.get? r=UI o):Inv X pins σ (upd H r (.Fs o (.dK kvs))) s:=by
 have nr:∀b u,H b=UI u->u≠.dK kvs->b≠r:=λb u e n z=>by subst z;rw[hr]at e;cases e;exact n rfl
 exact I.write (t':=s.toks) (x:=r) (e:=r) (by rw[hr];trivial) (.inl rfl) (λb u _ q=>q) ⟨o,ho⟩ ⟨ho,(I.Ef r _ hr).fY (λ_ _ _ q=>q) (λb q=>by rw[ak (nr b _ q (λz=>by cases z))];exact q) λb xs q=>by rw[ak (nr b _ q (λz=>by cases z))];exact q⟩
theorem A6(h:PE X e te):PE X e (λσ H Q=>∃r kvs,H r=UI (.dK kvs)/\∀o,te σ (upd H r (.Fs o (.dK kvs))) Q):=by
 intro pins s σ H Q I ⟨r,kvs,hr,h1⟩;obtain⟨_,_,vs,_,o,es,ep,ho,_⟩:=(show bq X.prog X.w H s.heap r (.dK kvs) from I.Ef r _ hr)
 exact h pins s σ _ Q (I.freeze hr ho) (h1 o)
end
noncomputable def N'(r:U8)(o:Obj)(kvs:List (Key×V)):It :=
 ⟨λi H=>H r=UI (.Fs o (.dK kvs))/\i<kvs.length,λi H x H'=>∃p,H p=UK/\x=.ref p/\∀k v,kvs[i]?=UI (k,v)->H'=upd H p (.tup [kV k,v]),λi H=>H r=UI (.Fs o (.dK kvs))/\kvs.length<=i⟩
theorem A7(h:(aO P w).is k u=UN):RelV (kV k) u:=by
 rcases bh (show jB k u=UN from h) with⟨i,t,rfl,rfl⟩|⟨y,t,rfl,rfl⟩
 ·exact⟨t,rfl⟩
 ·exact⟨t,rfl⟩
theorem zN:∀{kvs:List (Key×V)}{vs:List (Key×UT)},KV kvs vs->∀(i:Nat) (h:i<kvs.length) (h':i<vs.length),kvs[i].1=vs[i].1/\RelV kvs[i].2 vs[i].2
 |_,_,.cons a _,0,_,_=>a
 |_,_,.cons _ b,i+1,h,h'=>zN b i (by simpa using h) (by simpa using h')
theorem qu{K:PySem.W.Frag}(Mt:o.data=.dict en ep):
  Turn P w K (.Tuple es kx ps) (N' r o kvs) [it] it (λi h=>∃ok ov,IsItemIter h it r i kvs.length ep ok ov) where
 mem:=by simp
 obj:=λi h ⟨ok,ov,st⟩ b hb=>by
  rw[Vl.mp hb];exact⟨_,st,λv z=>by
    have z':Ā _=ç v:=z;cases z'⟩
 keep:=λi h h' ⟨ok,ov,st⟩ k=>⟨ok,ov,k it (by simp) _ st⟩
 item:=by
  intro X hP hw hK hc i pins s σ H E I hf ⟨ok,ov,st⟩ hg;subst hP hw;obtain⟨hr,hi⟩:=hg;obtain⟨ho,z1,z2,vs,kv,o',Sn,Hb,E4,hx,FO,Fg⟩:=(show bq X.prog X.w H s.heap r (.Fs o (.dK kvs)) from I.Ef r _ hr)
  rw[ho]at E4;cases E4;rw[Mt]at FO;cases FO;have hl:vs.length=kvs.length:=(Paired.length kv).symm;have hm:s.heap.DictAt (aO X.prog X.w) r vs ep:=⟨o,en,ho,hx,Mt,Fg⟩
  obtain⟨q,hq,e1,e2⟩:∃q,vs[i]?=UI q/\kvs[i].1=q.1/\RelV kvs[i].2 q.2:=by
   have FD:i<vs.length:=by omega
   refine⟨vs[i],by simp[FD],?_⟩;exact zN kv i hi FD
  rw[<-hl]at st;refine wpAny_pyNext_items_item st hm (k:=q.1) (v:=q.2) hq λkey h1 hk hit hT hsz Oc=>⟨_,rfl,wpAny_letOwnedTupleGo_items (s:={s with heap:=h1}) hit λh2 Mn E7=>?_⟩
  have Ez:it<s.heap.objs.size:=UY st;have Lc:h2.get? s.heap.objs.size=UI {cls:=.type "tuple",data:=.seq #[key,q.2]}:=(E7.2 _ (VV Ez)).trans hT;have k2:∀b o,b∉[it]->s.heap.get? b=UI o->h2.get? b=UI o:=λb o hb q=>by
   have Fx:b≠it:=λz=>hb (by simp[z]);exact(E7.2 b Fx).trans (Oc b o Fx q)
  have I2:Inv X pins σ (upd H s.heap.objs.size (.tup [kV kvs[i].1,kvs[i].2])) {s with heap:=h2,toks:=s.toks}:=I.gq hf k2 (U_ _)
   (show bq X.prog X.w _ h2 _ (.tup [kV kvs[i].1,kvs[i].2]) from⟨by show 2<=US;decide,[key,q.2],.cons (by rw[e1];exact A7 hk) (.cons e2 .nil),⟨_,Lc,rfl,_,rfl⟩⟩)
  refine⟨.ref s.heap.objs.size,_,I2,rfl,⟨_,I.Ef.fresh (U_ _),rfl,λk v J9=>?_⟩,⟨_,_,by rw[hl]at Mn;exact Mn⟩,λb hb=>?_⟩
  ·rw[V2 hi]at J9;rw[VM J9]
  ·have Fx:b≠s.heap.objs.size:=by rw[Vl.mp hb];exact U5 Ez
   rw[ak Fx];exact(hf b hb).1
 done:=by
  intro X hP hw hK hc i pins s σ H E I hf ⟨ok,ov,st⟩ hg;subst hP hw;obtain⟨hr,hi⟩:=hg;obtain⟨ho,z1,z2,vs,kv,o',Sn,Hb,E4,hx,FO,Fg⟩:=(show bq X.prog X.w H s.heap r (.Fs o (.dK kvs)) from I.Ef r _ hr)
  rw[ho]at E4;cases E4;rw[Mt]at FO;cases FO;have hl:vs.length=kvs.length:=(Paired.length kv).symm;have hm:s.heap.DictAt (aO X.prog X.w) r vs ep:=⟨o,en,ho,hx,Mt,Fg⟩
  rw[<-hl]at st;exact wpAny_pyNext_items_end (by simpa using I.ok.hd hc) st hm (ü ⋯) λh' Ky=>⟨rfl,I.jv (t':=s.toks) hf λb o hb q=>Ky b o (λz=>hb (by simp[z])) q⟩
 self:=λA i s Q E ⟨ok,ov,st⟩ h=>kcp_self st h
section
def D3(i:Nat):TI:=λσ H R=>∃r o kvs,σ[i]?=UI (UI (.ref r))/\H r=UI (.Fs o (.dK kvs))/\R (N' r o kvs) H
theorem vY(hN:X.N[i]?=UI x)(hv:F3 X.env.scope x)(hd:(x==("__debug__":Str))=UO)(EV:(x==("__classdict__":Str))=UO)(EJ:(apos.endLine==Ec.line)=UN):
  PI X (.Tuple es kx ps) (.Call (.Attribute (.Name x px) "items" apos) [] [] Ec) (D3 i):=by
 intro pins s σ H R I ⟨r,o,kvs,hs,hr,hR⟩;refine ĕ rfl EJ (Ej (cc hN hv hd EV pins s σ H (λv H1=>v=.ref r/\H1=H) I ⟨_,hs,rfl,rfl⟩) λv s1 ⟨x1,H1,I1,r1,z1,z2⟩=>?_);subst z1 z2;cases(show v=Vd r from r1);obtain⟨ho,z1,lo,vs,kv,o',en,ep,E4,hx,FO,Fg⟩:=(show bq X.prog X.w H1 s1.heap r (.Fs o (.dK kvs)) from I1.Ef r _ hr)
 rw[ho]at E4;cases E4;have hl:vs.length=kvs.length:=(Paired.length kv).symm;have hm:s1.heap.DictAt (aO X.prog X.w) r vs ep:=⟨o,en,ho,hx,FO,Fg⟩
 have hT:s1.TypeIs (.ref r) "dict":=⟨o,ho,hx.1⟩
 refine⟨"dict","dict.items",PySem.F.plainAttrs_dict,PySem.F.slot_dict_items,PySem.F.type_dict_items,hT,λa e=>⟨o,by cases e;exact ho,hx.2.1⟩,WE rfl (PySem.evalArgs_none (É PySem.F.slot_dict_items hT PySem.F.entry_dict_items (PySem.F.args_dict_items_1 _) (Ŵ (aO X.prog X.w) r lo) ⟨⟨vs,o,en,ep,ho,hx,FO,Fg⟩,?_⟩))⟩;have k1:∀b u,s1.heap.get? b=UI u->(s1.heap.push {cls:=.type "dict_items",data:=.fields #[.ref r]}).get? b=UI u:=λb u z=>UL _ z;have Fm:(s1.heap.push {cls:=.type "dict_items",data:=.fields #[.ref r]}).DictAt (aO X.prog X.w) r vs ep:=⟨o,en,k1 _ _ ho,hx,FO,Fg⟩
 refine wpAny_pyIter_items (s:={s1 with heap:=s1.heap.push {cls:=.type "dict_items",data:=.fields #[.ref r]}}) ⟨_,UZ _ rfl,rfl,rfl⟩ Fm ?_;have hsz:(s1.heap.push {cls:=.type "dict_items",data:=.fields #[.ref r]}).objs.size=s1.heap.objs.size+1:=WN ..;have I2:=I1.kept (t':=s1.toks) (h':=(s1.heap.push {cls:=.type "dict_items",data:=.fields #[.ref r]}).push {cls:=.type "dict_itemiterator",data:=.fields #[.none,.bool UO,.ref r,.int 0 0,.int vs.length 0,.int ep 0,.none,.none]}) λb u z=>UL _ (k1 b u z);refine⟨_,[_],_,_,H1,rfl,I2,qu (kvs:=kvs) FO,⟨.none,.none,by rw[<-hl];exact UZ _ rfl⟩,λb hb=>?_,hR⟩;rw[Vl.mp hb];have Qh:s1.heap.objs.size<=(s1.heap.push {cls:=.type "dict_items",data:=.fields #[.ref r]}).objs.size:=by rw[hsz];exact XQ _
 exact I1.tw Qh (I1.Ef.fresh Qh)
end
end L2
namespace TM
open PySem L2
inductive U where
 |Es|bl (b:Bool)|int (i:Int)|str (x:Str)
 |tup (xs:List U)|lst (xs:List U)
 |Ee (ks:List Str) (vs:List U)|Fc (ks:List lh)
mutual
noncomputable def EL:U->Bool
 |.tup xs=>gu xs
 |.lst _=>UO
 |.Ee _ _=>UO
 |.Fc _=>UO
 |.Es=>UN|.bl _=>UN|.int _=>UN|.str _=>UN
noncomputable def gu:List U->Bool
 |[]=>UN
 |u::us=>EL u&&gu us
end
inductive Kd where|own|io|loc|any|bor (j:Nat)|Eb
deriving DecidableEq
noncomputable def Kd.root:Kd->Bool
 |.own=>UN
 |.io=>UN
 |_=>UO
abbrev aq:=List (Option (Kd×U))
structure Ct where
 P:VZ
 w:Wi
 K:PySem.W.Frag
 H₀:Hp
 Hq:U8->Prop
 IO:U8->Prop
def KL(K:PySem.W.Frag)(a:U8)(xs:List V):Prop :=
 ∃(o:Obj) (A':Array UT) (n:Nat),K.lookup a=UI o/\o.cls=.type "list"/\o.dict=UK/\o.data=.seq A' n/\A'.size<=US/\Vals xs A'.toList
def Lk(K:PySem.W.Frag)(S:U8->Prop)(H:Hp)(a:U8)(vs:List V):Prop:=(S a/\Rd H a (.lst vs))\/KL K a vs
theorem Lk.sq(h:Lk K S H a vs):EN K H a vs:=h.elim (λz=>.inl z.2) .inr
def IF(H:Hp)(R:List V->Prop)(a:U8)(ks:List Str):Prop:=∃kvs:List (Key×V),H a=UI (.dK kvs)/\kvs.map (·.1)=ks.map Vs/\R (kvs.map (·.2))
section
variable(C:Ct)(S:U8->Prop)(H:Hp)
mutual
def Rep:U->V->Prop
 |.Es,v=>v=.Es
 |.bl b,v=>v=.bl b
 |.int i,v=>v=.int i
 |.str x,v=>v=.str x
 |.tup us,v=>∃a vs,v=.ref a/\EC C.K H a vs/\aj us vs
 |.lst us,v=>∃a vs,v=.ref a/\Lk C.K S H a vs/\aj us vs
 |.Ee ks us,v=>∃a,v=.ref a/\S a/\IF H (aj us) a ks
 |.Fc ks,v=>∃a,v=.ref a/\S a/\eL C.P C.w C.K H a ks
def aj:List U->List V->Prop
 |[],vs=>vs=[]
 |u::us,vs=>∃v r,vs=v::r/\Rep u v/\aj us r
end
end
def Tp:HO->Prop
 |.tup _=>True
 |.Fs _ (.tup _)=>True
 |_=>False
structure Mv(S:U8->Prop)(H:Hp)(S':U8->Prop)(H':Hp):Prop where
 sub:∀a,S a->S' a
 Ll:∀a o,H a=UI o->Tp o->H' a=UI o
 Mu:∀a o,S a->H a=UI o->H' a=UI o
theorem Mv.Oe(m:Mv S H S' H')(h:EC K H a vs):EC K H' a vs:=by
 rcases h with(h|⟨o,h⟩)|h
 ·exact .inl (.inl (m.Ll a _ h trivial))
 ·exact .inl (.inr ⟨o,m.Ll a _ h trivial⟩)
 ·exact .inr h
theorem Mv.So(m:Mv S H S' H')(h:Lk K S H a vs):Lk K S' H' a vs:=by
 rcases h with⟨s,h|⟨o,h⟩⟩|h
 ·exact .inl ⟨m.sub a s,.inl (m.Mu a _ s h)⟩
 ·exact .inl ⟨m.sub a s,.inr ⟨o,m.Mu a _ s h⟩⟩
 ·exact .inr h
theorem Mv.row(m:Mv S H S' H')(h:eR K H v r):eR K H' v r :=
 let ⟨a,b,e,h1,h2⟩:=h;⟨a,b,e,m.Oe h1,m.Oe h2⟩
theorem IF.mv(ha:∀o,H a=UI o->H' a=UI o)(hR:∀vs,R vs->R' vs)(h:IF H R a ks):IF H' R' a ks :=
 let ⟨kvs,h1,h2,h3⟩:=h;⟨kvs,ha _ h1,h2,hR _ h3⟩
theorem Mv.rU(m:Mv S H S' H')(ha:∀o,H a=UI o->H' a=UI o)(h:eL P w K H a ks):eL P w K H' a ks :=
 let ⟨xs,h1,h2,h3⟩:=h;⟨xs,ha _ h1,h2,λx hx=>m.row (h3 x hx)⟩
section
mutual
theorem Rep.IG(m:Mv S H S' H'):∀(u:U) (v:V),Rep C S H u v->Rep C S' H' u v
 |.Es,_,h=>h
 |.bl _,_,h=>h
 |.int _,_,h=>h
 |.str _,_,h=>h
 |.tup us,v,h=>by
  obtain⟨a,vs,e,h1,h2⟩:=h;exact⟨a,vs,e,m.Oe h1,aj.IG m us vs h2⟩
 |.lst us,v,h=>by
  obtain⟨a,vs,e,h1,h2⟩:=h;exact⟨a,vs,e,m.So h1,aj.IG m us vs h2⟩
 |.Ee ks us,v,h=>by
  obtain⟨a,e,h1,h2⟩:=h;exact⟨a,e,m.sub a h1,h2.mv (λo q=>m.Mu a o h1 q) λvs q=>aj.IG m us vs q⟩
 |.Fc ks,v,h=>by
  obtain⟨a,e,h1,h2⟩:=h;exact⟨a,e,m.sub a h1,m.rU (λo q=>m.Mu a o h1 q) h2⟩
theorem aj.IG(m:Mv S H S' H'):∀(us:List U) (vs:List V),aj C S H us vs->aj C S' H' us vs
 |[],_,h=>h
 |u::us,vs,h=>by
  obtain⟨v,r,e,h1,h2⟩:=h;exact⟨v,r,e,Rep.IG m u v h1,aj.IG m us r h2⟩
end
mutual
theorem Rep.ua:∀(u:U) (v:V),EL u=UN->Rep C S H u v->Rep C S' H u v
 |.Es,_,_,h=>h
 |.bl _,_,_,h=>h
 |.int _,_,_,h=>h
 |.str _,_,_,h=>h
 |.tup us,v,i,h=>by
  obtain⟨a,vs,e,h1,h2⟩:=h;exact⟨a,vs,e,h1,aj.ua us vs (by simpa[TM.EL] using i) h2⟩
 |.lst us,v,i,h=>by simp[TM.EL]at i
 |.Ee ks us,v,i,h=>by simp[TM.EL]at i
 |.Fc ks,v,i,h=>by simp[TM.EL]at i
theorem aj.ua:∀(us:List U) (vs:List V),gu us=UN->aj C S H us vs->aj C S' H us vs
 |[],_,_,h=>h
 |u::us,vs,i,h=>by
  obtain⟨v,r,e,h1,h2⟩:=h;have i':TM.EL u=UN/\gu us=UN:=by simpa[gu] using i
  exact⟨v,r,e,Rep.ua u v i'.1 h1,aj.ua us r i'.2 h2⟩
end
theorem Rep.mv(m:Mv S H S' H')(h:Rep C S H u v):Rep C S' H' u v:=Rep.IG m u v h
theorem aj.mv(m:Mv S H S' H')(h:aj C S H us vs):aj C S' H' us vs:=aj.IG m us vs h
theorem Rep.EL(i:TM.EL u=UN)(h:Rep C S H u v):Rep C S' H u v:=Rep.ua u v i h
theorem aj.EL(i:gu us=UN)(h:aj C S H us vs):aj C S' H us vs:=aj.ua us vs i h
theorem Mv.up(sub:∀a,S a->S' a):Mv S H S' H:=⟨sub,λ_ _ h _=>h,λ_ _ _ h=>h⟩
theorem aj.len:∀{us:List U}{vs:List V},aj C S H us vs->us.length=vs.length
 |[],_,h=>by cases h;rfl
 |u::us,vs,h=>by
  obtain⟨v,r,rfl,_,h2⟩:=h;rw[Vj,Vj,aj.len h2]
theorem aj.get:∀{us:List U}{vs:List V}{i:Nat}{u:U},aj C S H us vs->us[i]?=UI u->∃v,vs[i]?=UI v/\Rep C S H u v
 |[],_,_,_,_,e=>by simp at e
 |u::us,vs,0,w,h,e=>by
  obtain⟨v,r,rfl,h1,_⟩:=h;simp at e;subst e;exact⟨v,rfl,h1⟩
 |u::us,vs,i+1,w,h,e=>by
  obtain⟨v,r,rfl,_,h2⟩:=h;obtain⟨v',e',h'⟩:=aj.get (i:=i) (u:=w) h2 (by simpa using e);exact⟨v',by simpa using e',h'⟩
theorem aj.append:∀{us ws:List U}{vs ys:List V},aj C S H us vs->aj C S H ws ys->aj C S H (us++ws) (vs++ys)
 |[],_,_,_,h,h'=>by cases h;exact h'
 |u::us,ws,vs,ys,h,h'=>by
  obtain⟨v,r,rfl,h1,h2⟩:=h;exact⟨v,r++ys,rfl,h1,h2.append h'⟩
theorem aj.take:∀{us:List U}{vs:List V} (n:Nat),aj C S H us vs->aj C S H (us.take n) (vs.take n)
 |_,_,0,_=>by simp[aj]
 |[],_,n+1,h=>by cases h;simp[aj]
 |u::us,vs,n+1,h=>by
  obtain⟨v,r,rfl,h1,h2⟩:=h;exact⟨v,r.take n,rfl,h1,h2.take n⟩
theorem aj.drop:∀{us:List U}{vs:List V} (n:Nat),aj C S H us vs->aj C S H (us.drop n) (vs.drop n)
 |_,_,0,h=>h
 |[],_,n+1,h=>by cases h;simp[aj]
 |u::us,vs,n+1,h=>by
  obtain⟨v,r,rfl,h1,h2⟩:=h;exact h2.drop n
theorem aj.set:∀{us:List U}{vs:List V} (n:Nat) {u:U}{v:V},aj C S H us vs->Rep C S H u v->aj C S H (us.set n u) (vs.set n v)
 |[],_,n,_,_,h,_=>by cases h;simp[aj]
 |u::us,vs,0,_,_,h,h'=>by
  obtain⟨v,r,rfl,h1,h2⟩:=h;exact⟨_,r,rfl,h',h2⟩
 |u::us,vs,n+1,_,_,h,h'=>by
  obtain⟨v,r,rfl,h1,h2⟩:=h;exact⟨v,_,rfl,h1,h2.set n h'⟩
theorem aj.snoc(h:aj C S H us vs)(h':Rep C S H u v):aj C S H (us++[u]) (vs++[v]):=h.append ⟨v,[],rfl,h',rfl⟩
theorem aj.strs:∀{xs:List Str}{vs:List V},aj C S H (xs.map .str) vs↔vs=xs.map V.str
 |[],vs=>by simp[aj]
 |x::xs,vs=>by
  constructor
  ·rintro⟨v,r,rfl,h1,h2⟩;rw[aj.strs.mp h2];have:v=.str x:=h1;rw[this];rfl
  ·rintro rfl;exact⟨_,_,rfl,rfl,aj.strs.mpr rfl⟩
end
structure Ct.Eqv(C C':Ct):Prop where
 P:C.P=C'.P
 w:C.w=C'.w
 K:C.K=C'.K
section
mutual
theorem Rep.IH(q:C.Eqv C'):∀(u:U) (v:V),Rep C S H u v->Rep C' S H u v
 |.Es,_,h=>h
 |.bl _,_,h=>h
 |.int _,_,h=>h
 |.str _,_,h=>h
 |.tup us,v,h=>by
  obtain⟨a,vs,e,h1,h2⟩:=h;exact⟨a,vs,e,q.K▸h1,aj.IH q us vs h2⟩
 |.lst us,v,h=>by
  obtain⟨a,vs,e,h1,h2⟩:=h;exact⟨a,vs,e,q.K▸h1,aj.IH q us vs h2⟩
 |.Ee ks us,v,h=>by
  obtain⟨a,e,h1,h2⟩:=h;exact⟨a,e,h1,h2.mv (λ_ q=>q) λvs z=>aj.IH q us vs z⟩
 |.Fc ks,v,h=>by
  obtain⟨a,e,h1,h2⟩:=h;exact⟨a,e,h1,by rw[<-q.P,<-q.w,<-q.K];exact h2⟩
theorem aj.IH(q:C.Eqv C'):∀(us:List U) (vs:List V),aj C S H us vs->aj C' S H us vs
 |[],_,h=>h
 |u::us,vs,h=>by
  obtain⟨v,r,e,h1,h2⟩:=h;exact⟨v,r,e,Rep.IH q u v h1,aj.IH q us r h2⟩
end
theorem Rep.cg(q:C.Eqv C')(h:Rep C S H u v):Rep C' S H u v:=Rep.IH q u v h
theorem aj.cg(q:C.Eqv C')(h:aj C S H us vs):aj C' S H us vs:=aj.IH q us vs h
end
def di(C:Ct)(S:U8->Prop)(H:Hp)(r:U8):U->Prop
 |.lst us=>∃vs,H r=UI (.lst vs)/\aj C S H us vs
 |.Ee ks us=>IF H (aj C S H us) r ks
 |.Fc ks=>eL C.P C.w C.K H r ks
 |_=>False
theorem di.mv(m:Mv S H S' H')(hr:∀o,H r=UI o->H' r=UI o)(h:di C S H r u):di C S' H' r u:=by
 cases u with
 |lst us=>obtain⟨vs,h1,h2⟩:=h;exact⟨vs,hr _ h1,h2.mv m⟩
 |Ee ks us=>exact IF.mv hr (λvs q=>q.mv m) h
 |Fc ks=>exact m.rU hr h
 |_=>exact h
theorem di.rep(hs:∀a,S a->S' a)(hr:S' r)(h:di C S H r u):Rep C S' H u (.ref r):=by
 cases u with
 |lst us=>obtain⟨vs,h1,h2⟩:=h;exact⟨r,vs,rfl,.inl ⟨hr,.inl h1⟩,h2.mv (.up hs)⟩
 |Ee ks us=>exact⟨r,rfl,hr,IF.mv (λ_ q=>q) (λvs q=>q.mv (.up hs)) h⟩
 |Fc ks=>exact⟨r,rfl,hr,h⟩
 |_=>exact h.elim
theorem di.cg(q:C.Eqv C')(h:di C S H r u):di C' S H r u:=by
 cases u with
 |lst us=>obtain⟨vs,h1,h2⟩:=h;exact⟨vs,h1,h2.cg q⟩
 |Ee ks us=>exact IF.mv (λ_ q=>q) (λvs z=>z.cg q) h
 |Fc ks=>show eL _ _ _ _ _ _;rw[<-q.P,<-q.w,<-q.K];exact h
 |_=>exact h
theorem di.some(h:di C S H r u):∃o,H r=UI o/\¬Tp o:=by
 cases u with
 |lst us=>obtain⟨vs,h1,_⟩:=h;exact⟨_,h1,λz=>z⟩
 |Ee ks us=>obtain⟨kvs,h1,_⟩:=h;exact⟨_,h1,λz=>z⟩
 |Fc ks=>obtain⟨xs,h1,_⟩:=h;exact⟨_,h1,λz=>z⟩
 |_=>exact h.elim
structure Cf where
 S:U8->Prop
 H:Hp
 σ:St
 st:aq
 kid:Nat->List U8
def Cf.R1(c:Cf)(a:U8):Prop:=∃(j:Nat) (k:Kd) (u:U),k.root=UN/\c.st[j]?=UI (UI (k,u))/\c.σ[j]?=UI (UI (.ref a))
def Cf.RD(c:Cf)(j:Nat)(a:U8):Prop:=∃(u:U) (r:U8),c.st[j]?=UI (UI (.Eb,u))/\c.σ[j]?=UI (UI (.ref r))/\(a=r\/a∈c.kid j)
def Cf.R(c:Cf)(a:U8):Prop:=c.R1 a\/∃j,c.RD j a
def PS(C:Ct)(S:U8->Prop):U8->Prop:=λa=>C.Hq a\/S a
def eX(C:Ct)(S:U8->Prop)(H:Hp):Kd->U->V->Prop
 |.own,u,v=>∃r,v=.ref r/\¬S r/\¬C.Hq r/\C.H₀ r=UK/\di C S H r u
 |.io,u,v=>∃r,v=.ref r/\¬S r/\¬C.Hq r/\C.IO r/\di C S H r u
 |.loc,u,v=>Rep C S H u v
 |.any,u,v=>Rep C (PS C S) H u v
 |.bor _,_,_=>False
 |.Eb,_,v=>∃r,v=.ref r
def cQ(C:Ct)(S:U8->Prop)(H:Hp):List U->List U8->Prop
 |[],as=>as=[]
 |u::us,as=>∃a as' ys vs,as=a::as'/\u=.lst ys/\H a=UI (.lst vs)/\aj C S H ys vs/\cQ C S H us as'
def bX(C:Ct)(S:U8->Prop)(H:Hp)(r:U8)(as:List U8):U->Prop
 |.Ee ks us=>∃kvs:List (Key×V),H r=UI (.dK kvs)/\kvs.map (·.1)=ks.map Vs/\kvs.map (·.2)=as.map V.ref/\(r::as).Nodup/\(∀a∈r::as,¬S a/\¬C.Hq a/\C.H₀ a=UK)/\cQ C S H us as
 |_=>False
structure G3(C:Ct)(c:Cf):Prop where
 kd:∀(j:Nat) (u:U) (r:U8),c.st[j]?=UI (UI (.Eb,u))->c.σ[j]?=UI (UI (.ref r))->bX C c.S c.H r (c.kid j) u
 dj:∀(i j:Nat) (a:U8),c.RD i a->c.RD j a->i=j
 d1:∀(j:Nat) (a:U8),c.RD j a->¬c.R1 a
structure Ok(C:Ct)(c:Cf):Prop where
 same:∀a o,C.H₀ a=UI o->¬C.IO a->c.H a=UI o
 F5:∀a,c.S a->C.H₀ a=UK/\∃o,c.H a=UI o
 par:∀a,C.Hq a->(∃o,C.H₀ a=UI o)/\¬C.IO a
 io:∀a,C.IO a->(∃o,C.H₀ a=UI o)/\∃o,c.H a=UI o
 len:c.st.length=c.σ.length
 sl:∀(i:Nat) (k:Kd) (u:U),c.st[i]?=UI (UI (k,u))->∃v,c.σ[i]?=UI (UI v)/\eX C c.S c.H k u v
 inj:∀(i j:Nat) (k k':Kd) (u u':U) (r:U8),k.root=UN->k'.root=UN->c.st[i]?=UI (UI (k,u))->c.st[j]?=UI (UI (k',u'))->c.σ[i]?=UI (UI (.ref r))->c.σ[j]?=UI (UI (.ref r))->i=j
 dd:G3 C c
structure Ns(c c':Cf):Prop where
 keep:∀a o,c.H a=UI o->¬c.R a->c'.H a=UI o
 there:∀a o,c.H a=UI o->∃o',c'.H a=UI o'
 roots:∀a,c'.R a->c.R a\/c.H a=UK
 sub:∀a,c.S a->c'.S a
 new:∀a,c'.S a->c.S a\/c.R a\/c.H a=UK
section
theorem Ns.refl(c:Cf):Ns c c:=⟨λ_ _ h _=>h,λ_ o h=>⟨o,h⟩,λ_ h=>.inl h,λ_ h=>h,λ_ h=>.inl h⟩
theorem Ns.none(n:Ns c c')(h:c'.H a=.none):c.H a=.none:=by
 cases e:c.H a with
 |none=>rfl
 |some o=>obtain⟨o',q⟩:=n.there a o e;rw[h]at q;cases q
theorem Ns.trans(m:Ns c c')(n:Ns c' G4):Ns c G4 where
 keep:=λa o h hr=>by
  refine n.keep a o (m.keep a o h hr) λz=>?_;rcases m.roots a z with z|z
  ·exact hr z
  ·rw[h]at z;cases z
 there:=λa o h=>let ⟨o',h'⟩:=m.there a o h;n.there a o' h'
 roots:=λa h=>by
  rcases n.roots a h with z|z
  ·exact m.roots a z
  ·exact .inr (m.none z)
 sub:=λa h=>n.sub a (m.sub a h)
 new:=λa h=>by
  rcases n.new a h with z|z|z
  ·exact m.new a z
  ·rcases m.roots a z with z|z
   ·exact .inr (.inl z)
   ·exact .inr (.inr z)
  ·exact .inr (.inr (m.none z))
theorem eX.rt(hk:k.root=UN)(h:eX C S H k u v):∃r,v=.ref r/\¬S r/\¬C.Hq r/\(C.H₀ r=UK\/C.IO r)/\di C S H r u:=by
 cases k with
 |own=>obtain⟨r,h1,h2,h3,h4,h5⟩:=h;exact⟨r,h1,h2,h3,.inl h4,h5⟩
 |io=>obtain⟨r,h1,h2,h3,h4,h5⟩:=h;exact⟨r,h1,h2,h3,.inr h4,h5⟩
 |_=>cases hk
theorem cQ.mem:∀{us:List U}{as:List U8}{a:U8},cQ C S H us as->a∈as->∃vs,H a=UI (.lst vs)
 |[],as,a,h,ha=>by cases h;cases ha
 |u::us,as,a,h,ha=>by
  obtain⟨a',as',ys,vs,rfl,_,h1,_,h2⟩:=h;rcases U2.mp ha with rfl|ha
  ·exact⟨vs,h1⟩
  ·exact cQ.mem h2 ha
theorem cQ.mv(m:Mv S H S' H'):∀{us:List U}{as:List U8},(∀a∈as,∀o,H a=UI o->H' a=UI o)->cQ C S H us as->cQ C S' H' us as
 |[],as,_,h=>h
 |u::us,as,hf,h=>by
  obtain⟨a,as',ys,vs,rfl,e,h1,h2,h3⟩:=h;exact⟨a,as',ys,vs,rfl,e,hf a (by simp) _ h1,h2.mv m,cQ.mv m (λa ha=>hf a (by simp[ha])) h3⟩
theorem bX.fr(h:bX C S H r as u):∀a∈r::as,¬S a/\¬C.Hq a/\C.H₀ a=UK:=by
 cases u<;>first|exact h.elim|(obtain⟨kvs,_,_,_,_,h5,_⟩:=h;exact h5)
theorem bX.there(h:bX C S H r as u):∀a∈r::as,∃o,H a=UI o/\¬Tp o:=by
 cases u<;>first|exact h.elim|skip
 obtain⟨kvs,h1,_,_,_,_,h6⟩:=h;intro a ha;rcases U2.mp ha with rfl|ha
 ·exact⟨_,h1,λz=>z⟩
 ·obtain⟨vs,e⟩:=h6.mem ha;exact⟨_,e,λz=>z⟩
theorem bX.mv(m:Mv S H S' H')(hf:∀a∈r::as,¬S' a/\∀o,H a=UI o->H' a=UI o)(h:bX C S H r as u):bX C S' H' r as u:=by
 cases u<;>first|exact h.elim|skip
 obtain⟨kvs,h1,h2,h3,h4,h5,h6⟩:=h;exact⟨kvs,(hf r (by simp)).2 _ h1,h2,h3,h4,λa ha=>⟨(hf a ha).1,(h5 a ha).2⟩,h6.mv m λa ha=>(hf a (by simp[ha])).2⟩
theorem G3.of(d:G3 C c)(hk:c'.kid=c.kid)(hD:∀(j:Nat) (u:U),c'.st[j]?=UI (UI (.Eb,u))->c.st[j]?=UI (UI (.Eb,u))/\c'.σ[j]?=c.σ[j]?)(h1:∀a,c'.R1 a->c.R1 a\/∀j,¬c.RD j a)
  (m:Mv c.S c.H c'.S c'.H) (hf:∀j a,c.RD j a->¬c'.S a/\∀o,c.H a=UI o->c'.H a=UI o):G3 C c':=by
 have back:∀j a,c'.RD j a->c.RD j a:=λj a Ey=>by
  obtain⟨u,r,e1,e2,e3⟩:=Ey;obtain⟨q1,q2⟩:=hD j u e1;rw[q2]at e2;rw[hk]at e3;exact⟨u,r,q1,e2,e3⟩
 refine⟨λj u r e1 e2=>?_,λi j a z1 z2=>d.dj i j a (back i a z1) (back j a z2),λj a z1 z2=>?_⟩
 ·obtain⟨q1,q2⟩:=hD j u e1;rw[q2]at e2;rw[hk];exact bX.mv m (λa ha=>hf j a ⟨u,r,q1,e2,U2.mp ha⟩) (d.kd j u r q1 e2)
 ·rcases h1 a z2 with z|z
  ·exact d.d1 j a (back j a z1) z
  ·exact z j (back j a z1)
theorem G3.hs(d:G3 C c)(m:Mv c.S c.H S' H')(hf:∀j a,c.RD j a->¬S' a/\∀o,c.H a=UI o->H' a=UI o):G3 C {c with H:=H',S:=S' } :=
 d.of rfl (λ_ _ e=>⟨e,rfl⟩) (λ_ z=>.inl z) m hf
theorem Ok.root(ok:Ok C c)(h:c.R r):¬c.S r/\¬C.Hq r/\(C.H₀ r=UK\/C.IO r)/\∃o,c.H r=UI o/\¬Tp o:=by
 rcases h with⟨j,k,u,hk,h1,h2⟩|⟨j,u,r',h1,h2,h3⟩
 ·obtain⟨v,e,hs⟩:=ok.sl j _ _ h1;obtain⟨r',ev,h3,h4,h5,h6⟩:=hs.rt hk;rw[h2]at e;cases e;cases ev;exact⟨h3,h4,h5,h6.some⟩
 ·have hd:=ok.dd.kd j u r' h1 h2;obtain⟨q1,q2,q3⟩:=bX.fr hd r (U2.mpr h3);exact⟨q1,q2,.inl q3,bX.there hd r (U2.mpr h3)⟩
theorem Ok.mv(ok:Ok C c)(n:Ns c c'):Mv c.S c.H c'.S c'.H:=⟨n.sub,λa o h t=>n.keep a o h λz=>by
  obtain⟨_,_,_,o',h',nt⟩:=ok.root z;rw[h]at h';cases h';exact nt t,λa o s h=>n.keep a o h λz=>(ok.root z).1 s⟩
theorem Ok.HM(ok:Ok C c)(n:Ns c c'):Mv (PS C c.S) c.H (PS C c'.S) c'.H:=⟨λa h=>h.imp id (n.sub a),(ok.mv n).Ll,λa o s h=>n.keep a o h λz=>by
  rcases s with s|s
  ·exact(ok.root z).2.1 s
  ·exact(ok.root z).1 s⟩
theorem Ok.j_(ok:Ok C c)(h:c.H p=UK):C.H₀ p=UK/\¬c.S p/\¬C.Hq p/\¬C.IO p/\¬c.R p:=by
 have Mw:¬C.IO p:=λz=>by obtain⟨_,o,q⟩:=ok.io p z;rw[h]at q;cases q
 have h0:C.H₀ p=UK:=by
  cases e:C.H₀ p with
  |none=>rfl
  |some o=>have:=ok.same p o e Mw;rw[h]at this;cases this
 refine⟨h0,λz=>?_,λz=>?_,Mw,λz=>?_⟩
 ·obtain⟨_,o,q⟩:=ok.F5 p z;rw[h]at q;cases q
 ·obtain⟨⟨o,q⟩,_⟩:=ok.par p z;rw[h0]at q;cases q
 ·obtain⟨_,_,_,o,q,_⟩:=ok.root z;rw[h]at q;cases q
theorem eX.mv(m:Mv S H S' H')(mp:Mv (PS C S) H (PS C S') H')(hr:k.root=UN->∀r,v=.ref r->¬S' r/\∀o,H r=UI o->H' r=UI o)(h:eX C S H k u v):eX C S' H' k u v:=by
 cases k with
 |own =>
  obtain⟨r,e,h1,h2,h3,h4⟩:=h;obtain⟨q1,q2⟩:=hr rfl r e;exact⟨r,e,q1,h2,h3,h4.mv m q2⟩
 |io =>
  obtain⟨r,e,h1,h2,h3,h4⟩:=h;obtain⟨q1,q2⟩:=hr rfl r e;exact⟨r,e,q1,h2,h3,h4.mv m q2⟩
 |loc=>exact Rep.mv m h
 |any=>exact Rep.mv mp h
 |bor j=>exact h.elim
 |Eb=>exact h
structure Nx(c c':Cf):Prop extends Ns c c' where
 all:∀a o,c.H a=UI o->c'.H a=UI o
instance {c c':Cf}:Coe (Nx c c') (Ns c c'):=⟨Nx.toNs⟩
theorem Nx.refl(c:Cf):Nx c c:=⟨.refl c,λ_ _ h=>h⟩
theorem Nx.trans(m:Nx c c')(n:Nx c' G4):Nx c G4:=⟨m.toNs.trans n.toNs,λa o h=>n.all a o (m.all a o h)⟩
theorem Nx.none(n:Nx c c')(h:c'.H a=.none):c.H a=.none:=n.toNs.none h
theorem Ok.lay(ok:Ok C c)(h:c.H p=UK):Ok C {c with H:=upd c.H p o}/\Nx c {c with H:=upd c.H p o}:=by
 have ne:∀{a:U8} {o':HO},c.H a=UI o'->a≠p:=λe z=>by subst z;rw[h]at e;cases e
 have kp:∀a o',c.H a=UI o'->(upd c.H p o) a=UI o':=λa o' e=>by rw[ak (ne e)];exact e
 have nx:Nx c {c with H:=upd c.H p o}:=⟨⟨λa o' e _=>kp a o' e,λa o' e=>⟨o',kp a o' e⟩,λa z=>.inl z,λ_ z=>z,λ_ z=>.inl z⟩,kp⟩
 refine⟨⟨λa o' e z=>kp a o' (ok.same a o' e z),λa z=>⟨(ok.F5 a z).1,let ⟨o',q⟩:=(ok.F5 a z).2;⟨o',kp a o' q⟩⟩,ok.par,λa z=>⟨(ok.io a z).1,let ⟨o',q⟩:=(ok.io a z).2;⟨o',kp a o' q⟩⟩,ok.len,λi k u e=>?_,ok.inj,ok.dd.hs (ok.mv nx.toNs) λj a z=>⟨(ok.root (.inr ⟨j,z⟩)).1,λo' e=>kp a o' e⟩⟩,nx⟩;obtain⟨v,e1,e2⟩:=ok.sl i k u e;refine⟨v,e1,e2.mv (ok.mv nx.toNs) (ok.HM nx.toNs) λhk r er=>?_⟩;obtain⟨r',Fz,q1,_⟩:=e2.rt hk;rw[er]at Fz;cases Fz;exact⟨q1,λo' e=>kp r o' e⟩
theorem Ok.grow(ok:Ok C c)(hs:AN c.H H')(hS:∀a,S' a->c.S a\/(c.H a=UK/\∃o,H' a=UI o))(Hm:∀a,c.S a->S' a):Ok C {c with H:=H',S:=S' }/\Nx c {c with H:=H',S:=S' }:=by
 have nx:Nx c {c with H:=H',S:=S' }:=⟨⟨λa o' e _=>hs a o' e,λa o' e=>⟨o',hs a o' e⟩,λa z=>.inl z,Hm,λa z=>(hS a z).imp id λq=>.inr q.1⟩,hs⟩
 refine⟨⟨λa o' e z=>hs a o' (ok.same a o' e z),λa z=>?_,ok.par,λa z=>⟨(ok.io a z).1,let ⟨o',q⟩:=(ok.io a z).2;⟨o',hs a o' q⟩⟩,ok.len,λi k u e=>?_,ok.inj,ok.dd.hs (ok.mv nx.toNs) λj a z=>⟨λz'=>?_,λo' e=>hs a o' e⟩⟩,nx⟩
 rotate_left 2
 ·obtain⟨q1,_,_,o,q4,_⟩:=ok.root (.inr ⟨j,z⟩);rcases hS a z' with z'|⟨z',_⟩
  ·exact q1 z'
  ·rw[q4]at z';cases z'
 ·rcases hS a z with q|⟨q1,q2⟩
  ·exact⟨(ok.F5 a q).1,let ⟨o',q⟩:=(ok.F5 a q).2;⟨o',hs a o' q⟩⟩
  ·exact⟨(ok.j_ q1).1,q2⟩
 ·obtain⟨v,e1,e2⟩:=ok.sl i k u e;refine⟨v,e1,e2.mv (ok.mv nx.toNs) (ok.HM nx.toNs) λhk r er=>?_⟩;obtain⟨r',Fz,q1,q2,q3,q4⟩:=e2.rt hk;rw[er]at Fz;cases Fz;obtain⟨o,ho,_⟩:=q4.some;refine⟨λz=>?_,λo' e=>hs r o' e⟩;rcases hS r z with z|⟨z,_⟩
  ·exact q1 z
  ·rw[z]at ho;cases ho
def aI(C:Ct)(c0 c:Cf):Kd->U->V->Prop
 |.own,u,v=>∃r,v=.ref r/\c0.H r=UK/\¬c.S r/\¬c.R r/\di C c.S c.H r u
 |.loc,u,v=>Rep C c.S c.H u v
 |.any,u,v=>Rep C (PS C c.S) c.H u v
 |.bor j,u,v=>(∃k:Kd,k.root=UN/\c.st[j]?=UI (UI (k,u)))/\c.σ[j]?=UI (UI v)
 |.io,_,_=>False
 |.Eb,_,_=>False
def eY(C:Ct)(c0 c:Cf):Kd->U->V->Prop
 |.own,u,v=>∃r,v=.ref r/\c0.H r=UK/\¬c.S r/\¬c.R r/\di C c.S c.H r u
 |.loc,u,v=>Rep C c.S c.H u v
 |.any,u,v=>Rep C (PS C c.S) c.H u v
 |.bor j,u,v=>c.σ[j]?=UI (UI v)
 |.io,_,_=>False
 |.Eb,_,_=>False
theorem aI.w(h:aI C c0 c k u v):eY C c0 c k u v:=by
 cases k with
 |bor j=>exact h.2
 |_=>exact h
theorem eY.Qi(ok:Ok C c)(n:Ns c c')(hσ:∀j,k=.bor j->c'.σ[j]?=c.σ[j]?)(h:eY C c0 c k u v):eY C c0 c' k u v:=by
 cases k with
 |own =>
  obtain⟨r,e,h1,h2,h3,h4⟩:=h;obtain⟨o,ho,_⟩:=h4.some;refine⟨r,e,h1,λz=>?_,λz=>?_,h4.mv (ok.mv n) λo q=>n.keep r o q h3⟩
  ·rcases n.new r z with z|z|z
   ·exact h2 z
   ·exact h3 z
   ·rw[z]at ho;cases ho
  ·rcases n.roots r z with z|z
   ·exact h3 z
   ·rw[z]at ho;cases ho
 |loc=>exact Rep.mv (ok.mv n) h
 |any=>exact Rep.mv (ok.HM n) h
 |bor j=>show c'.σ[j]?=_;rw[hσ j rfl];exact h
 |_=>exact h
theorem eY.on(ok:Ok C c)(n:Ns c c')(hσ:c'.σ=c.σ)(h:eY C c0 c k u v):eY C c0 c' k u v:=h.Qi ok n λj _=>by rw[hσ]
theorem eY.from(n:Ns c0 c1)(h:eY C c1 c k u v):eY C c0 c k u v:=by
 cases k with
 |own=>obtain⟨r,e,h1,h2⟩:=h;exact⟨r,e,n.none h1,h2⟩
 |_=>exact h
theorem aI.from(n:Ns c0 c1)(h:aI C c1 c k u v):aI C c0 c k u v:=by
 cases k with
 |own=>obtain⟨r,e,h1,h2⟩:=h;exact⟨r,e,n.none h1,h2⟩
 |_=>exact h
def SK(C:Ct)(c:Cf):Kd->U8->Prop
 |.any=>PS C c.S
 |_=>c.S
noncomputable def kE:Kd->Kd
 |.any=>.any
 |_=>.loc
theorem Ok.rootOf(ok:Ok C c){j:Nat}(h:∃k:Kd,k.root=UN/\c.st[j]?=UI (UI (k,u)))(e:c.σ[j]?=UI (UI v)):∃r,v=.ref r/\¬c.S r/\¬C.Hq r/\(C.H₀ r=UK\/C.IO r)/\di C c.S c.H r u:=by
 obtain⟨k,hk,h⟩:=h;obtain⟨v',e1,e2⟩:=ok.sl j _ _ h;rw[e]at e1;cases e1;exact e2.rt hk
theorem aI.list(ok:Ok C c)(h:aI C c0 c k (.lst us) v):∃a vs,v=.ref a/\EN C.K c.H a vs/\aj C (SK C c k) c.H us vs:=by
 cases k with
 |own=>obtain⟨r,e,_,_,_,vs,h1,h2⟩:=h;exact⟨r,vs,e,EN.of h1,h2⟩
 |bor j=>obtain⟨r,e,_,_,_,vs,h1,h2⟩:=ok.rootOf h.1 h.2;exact⟨r,vs,e,EN.of h1,h2⟩
 |io=>exact h.elim
 |Eb=>exact h.elim
 |_=>obtain⟨a,vs,e,h1,h2⟩:=h;exact⟨a,vs,e,h1.sq,h2⟩
theorem aI.tuple(ok:Ok C c)(h:aI C c0 c k (.tup us) v):∃a vs,v=.ref a/\EC C.K c.H a vs/\aj C (SK C c k) c.H us vs:=by
 cases k with
 |own=>obtain⟨r,e,_,_,_,h⟩:=h;exact h.elim
 |bor j=>obtain⟨r,e,_,_,_,h⟩:=ok.rootOf h.1 h.2;exact h.elim
 |io=>exact h.elim
 |Eb=>exact h.elim
 |_=>obtain⟨a,vs,e,h1,h2⟩:=h;exact⟨a,vs,e,h1,h2⟩
theorem aI.flat(ok:Ok C c)(hu:EL u=UN)(h:aI C c0 c k u v):Rep C c.S c.H u v:=by
 cases k with
 |own=>obtain⟨r,e,_,_,_,h⟩:=h;cases u<;>simp[EL]at hu<;>exact h.elim
 |loc=>exact h
 |any=>exact Rep.EL hu h
 |bor j=>obtain⟨r,e,_,_,_,h⟩:=ok.rootOf h.1 h.2;cases u<;>simp[EL]at hu<;>exact h.elim
 |_=>exact h.elim
theorem aI.int(ok:Ok C c)(h:aI C c0 c k (.int i) v):v=.int i:=h.flat ok rfl
theorem aI.str(ok:Ok C c)(h:aI C c0 c k (.str x) v):v=.str x:=h.flat ok rfl
theorem aI.bl(ok:Ok C c)(h:aI C c0 c k (.bl b) v):v=.bl b:=h.flat ok rfl
theorem aI.item(h:Rep C (SK C c k) c.H u v):aI C c0 c (kE k) u v:=by
 cases k<;>exact h
def G5(H:Hp):U8->Prop:=λa=>∃o,H a=UI o
theorem Ok.yz(ok:Ok C c):∀a,c.S a->G5 c.H a:=λa h=>(ok.F5 a h).2
theorem Ok.D4(ok:Ok C c):∀a,PS C c.S a->G5 c.H a:=λa h=>by
 rcases h with h|h
 ·obtain⟨⟨o,e⟩,n⟩:=ok.par a h;exact⟨o,ok.same a o e n⟩
 ·exact ok.yz a h
theorem aI.read(ok:Ok C c)(h:aI C c0 c k u v):Rep C (G5 c.H) c.H u v:=by
 cases k with
 |own =>
  obtain⟨r,e,_,_,_,h4⟩:=h;rw[e];obtain⟨o,ho,_⟩:=h4.some;exact h4.rep ok.yz ⟨o,ho⟩
 |loc=>exact Rep.mv (.up ok.yz) h
 |any=>exact Rep.mv (.up ok.D4) h
 |bor j =>
  obtain⟨r,e,_,_,_,h4⟩:=ok.rootOf h.1 h.2;rw[e];obtain⟨o,ho,_⟩:=h4.some;exact h4.rep ok.yz ⟨o,ho⟩
 |_=>exact h.elim
theorem Ok.newList(ok:Ok C c)(n:Nx c0 c)(h:c.H p=UK)(hr:aj C c.S c.H us vs):
  Ok C {c with H:=upd c.H p (.lst vs)}/\Nx c0 {c with H:=upd c.H p (.lst vs)}/\aI C c0 {c with H:=upd c.H p (.lst vs)} .own (.lst us) (.ref p):=by
 obtain⟨Er,n'⟩:=ok.lay (o:=.lst vs) h;obtain⟨h0,h1,h2,h3,h4⟩:=ok.j_ h;exact⟨Er,n.trans n',p,rfl,n.none h,h1,h4,vs,au,hr.mv (ok.mv n'.toNs)⟩
theorem Ok.A8(ok:Ok C c)(n:Nx c0 c)(h:c.H p=UK)(hr:aj C c.S c.H us vs):
  Ok C {c with H:=upd c.H p (.tup vs)}/\Nx c0 {c with H:=upd c.H p (.tup vs)}/\aI C c0 {c with H:=upd c.H p (.tup vs)} .loc (.tup us) (.ref p):=by
 obtain⟨Er,n'⟩:=ok.lay (o:=.tup vs) h;exact⟨Er,n.trans n',p,vs,rfl,EC.of au,hr.mv (ok.mv n'.toNs)⟩
end
inductive Ex(α:Type) where|ok (a:α)|exc (c:Str)
noncomputable def M(α:Type):=aq->Option (Ex α×aq)
namespace M
noncomputable def pure(a:α):M α:=λst=>UI (.ok a,st)
noncomputable def fail:M α:=λ_=>UK
noncomputable def bind(m:M α)(f:α->M β):M β:=λst=>match m st with
 |none=>UK
 |some (.ok a,st')=>f a st'
 |some (.exc c,st')=>UI (.exc c,st')
noncomputable def Eu(o:Option α):M α:=λst=>match o with
 |none=>UK
 |some a=>UI (.ok a,st)
end M
noncomputable instance:Monad M:={pure:=M.pure,bind:=M.bind}
def W{α:Type}(m:M α)(st:aq)(Q:α->aq->Prop):Prop:=∃a st',m st=UI (.ok a,st')/\Q a st'
section
theorem ai:W (pure a) st Q↔Q a st:=by
 constructor
 ·rintro⟨b,st',e,h⟩;cases e;exact h
 ·intro h;exact⟨a,st,rfl,h⟩
theorem ag:W (m >>= f) st Q↔W m st λa st'=>W (f a) st' Q:=by
 constructor
 ·rintro⟨b,st',e,h⟩;have e':M.bind m f st=UI (.ok b,st'):=e;unfold M.bind at e';cases q:m st with
  |none=>rw[q]at e';cases e'
  |some r =>
   obtain⟨r,s1⟩:=r;rw[q]at e';cases r with
   |ok a=>exact⟨a,s1,q,b,st',e',h⟩
   |exc c=>cases e'
 ·rintro⟨a,s1,q,b,st',e,h⟩;refine⟨b,st',?_,h⟩;show M.bind m f st=_;unfold M.bind;rw[q];exact e
theorem cp:W (M.Eu o) st Q↔∃a,o=UI a/\Q a st:=by
 cases o with
 |none=>exact⟨λ⟨_,_,e,_⟩=>(by cases e),λ⟨_,e,_⟩=>(by cases e)⟩
 |some a=>exact⟨λ⟨_,_,e,h⟩=>(by cases e;exact⟨a,rfl,h⟩),λ⟨_,e,h⟩=>(by cases e;exact⟨a,st,rfl,h⟩)⟩
theorem aC:W (M.fail:M α) st Q↔False:=⟨λ⟨_,_,e,_⟩=>(by cases e),Xq⟩
theorem W.mono(h:W m st Q)(i:∀a s,Q a s->Q' a s):W m st Q':=let ⟨a,s,e,q⟩:=h;⟨a,s,e,i a s q⟩
end
inductive Mx where|add|sub|mul|FZ|mod|pow
deriving DecidableEq
inductive Lm where|eq|ne|lt|le|gt|ge|isin|Eh|is|Of
deriving DecidableEq
inductive Bf where|len|sorted|list|tuple|str|int|repr|max|min|all|any
deriving DecidableEq
inductive B2 where|H0|H9|sset|mM
deriving DecidableEq
inductive Mf where|split|join|partition|endswith
deriving DecidableEq
inductive Sr where|str|list|tuple|int|bool
deriving DecidableEq
inductive Ik where|seq|EG|Ss|II|zip|rev
deriving DecidableEq
inductive E where
 |var (i:Nat)
 |cst (u:U)
 |My (x:Str) (u:U)
 |bin (op:Mx) (a b:E)
 |cmp (op:Lm) (a b:E)
 |Hr (o1 o2:Lm) (a b c:E)
 |and (es:List E)|or (es:List E)|not (a:E)
 |ite (c a b:E)
 |tup (es:List E)|lst (es:List E)|FU (r:Bool)
 |idx (a b:E)
 |F6 (a:E) (lo hi:List E)
 |bi (f:Bf) (es:List E)
 |G6 (f:B2) (es:List E)
 |G7 (m:Mf) (a:E) (es:List E)
 |call (f:Str) (es:List E)
 |comp (k:Nat) (t:Bool) (ik:Ik) (src:List E) (cond:List E) (e:E)
 |neg (a:E)|bad|Mz (a:E) (T:Sr)|fst (es:List E)|inD (neg:Bool) (a:E) (i:Nat)|J_ (i:Nat)|Gq (i:Nat) (k d:E)|J' (i:Nat)|H_ (ln:Bool) (a b:E)
inductive S where
 |set (i:Nat) (e:E)
 |Ic (is:List Nat) (e:E)
 |put (i:Nat) (k v:E)
 |app (i:Nat) (e:E)|ext (i:Nat) (e:E)|bad|newD (i:Nat)|putD (i:Nat) (k v:E)|FJ (i:Nat) (k v:E)|aug (sub:Bool) (i:Nat) (k v:E)|MA (i:Nat)
 |exp (e:E)
 |ret (e:E)|Ie
 |GR (i:Nat) (e:E)
 |ite (c:E) (a b:List S)
 |EA (t:Bool) (is:List Nat) (ik:Ik) (src:List E) (body:List S)
 |Ju (c:E) (body:List S)
 |brk|cnt|MB
noncomputable def isAny:Kd->Bool
 |.any=>UN
 |_=>UO
noncomputable def jn(k:Kd)(xs:List U):Bool:=!isAny k||gu xs
noncomputable def kT(k k':Kd):Kd:=if isAny k||isAny k' then .any else .loc
noncomputable def cut{α:Type}(xs:List α)(lo hi:Option Int):List α:=(xs.drop (HT.En xs.length 0 lo)).take (HT.En xs.length xs.length hi - HT.En xs.length 0 lo)
noncomputable def ub:Kd×U->Kd×U->Option (Kd×U)
 |(_,.int i),(_,.int j)=>UI (.loc,.int (i+j))
 |(_,.str x),(_,.str y)=>if x.length+y.length<=US then UI (.loc,.str (x++y)) else UK
 |(k,.lst xs),(k',.lst ys)=>if xs.length+ys.length<=US/\jn k xs=UN/\jn k' ys=UN then UI (.own,.lst (xs++ys)) else UK
 |(k,.tup xs),(k',.tup ys)=>if xs.length+ys.length<=US then UI (kT k k',.tup (xs++ys)) else UK
 |_,_=>UK
noncomputable def qv(f:Int->Int->Option Int):U->U->Option (Kd×U)
 |.int i,.int j=>(f i j).map λn=>(.loc,.int n)
 |_,_=>UK
noncomputable def yA(i j:Int):Option Int:=if ((-(2 ^ 64)<i/\i<2 ^ 64)\/(-(2 ^ 64)<j/\j<2 ^ 64)) then UI (i * j) else UK
noncomputable def yB(i j:Int):Option Int:=if 0<j/\j<1073741824 then UI (i / j) else UK
noncomputable def yC(i j:Int):Option Int:=if 0<j then UI (i % j) else UK
noncomputable def yD(i j:Int):Option Int:=if 0<=j/\j<=1000000/\i.natAbs<2 ^ 64 then UI (i ^ j.toNat) else UK
noncomputable def Gb(op:Mx)(x y:Kd×U):Option (Kd×U):=match op with
 |.add=>ub x y
 |.sub=>qv (λi j=>UI (i - j)) x.2 y.2
 |.mul=>qv yA x.2 y.2
 |.FZ=>qv yB x.2 y.2
 |.mod=>qv yC x.2 y.2
 |.pow=>qv yD x.2 y.2
mutual
noncomputable def FA:Nat->U->Bool
 |_,.Ee _ _=>UO
 |_,.Fc _=>UO
 |0,.tup _=>UO
 |0,.lst _=>UO
 |n+1,.tup xs=>cX n xs
 |n+1,.lst xs=>cX n xs
 |_,.Es=>UN|_,.bl _=>UN|_,.int _=>UN|_,.str _=>UN
noncomputable def cX:Nat->List U->Bool
 |_,[]=>UN
 |n,u::us=>FA n u&&cX n us
end
mutual
noncomputable def bU:U->U->Bool
 |.Es,.Es=>UN
 |.bl a,.bl b=>a==b
 |.bl a,.int b=>(if a then 1 else 0)==b
 |.int a,.bl b=>a==(if b then 1 else 0)
 |.int a,.int b=>a==b
 |.str a,.str b=>a==b
 |.tup xs,.tup ys=>cR xs ys
 |.lst xs,.lst ys=>cR xs ys
 |_,_=>UO
noncomputable def cR:List U->List U->Bool
 |[],[]=>UN
 |u::us,w::ws=>bU u w&&cR us ws
 |_,_=>UO
end
noncomputable def Ig(x:U)(ys:List U):Option Bool:=if FA 50 x=UN/\cX 50 ys=UN then UI (ys.any λy=>bU y x) else UK
noncomputable def strsOf:List U->Option (List Str)
 |[]=>UI []
 |.str x::us=>(strsOf us).map (x::·)
 |_::_=>UK
noncomputable def rowOf:U->Option lh
 |.tup [.str x,.tup ys]=>(strsOf ys).map λss=>(x,ss)
 |_=>UK
noncomputable def uc:U->U->Option Bool
 |x,.lst ys=>Ig x ys
 |x,.tup ys=>Ig x ys
 |.str x,.Ee ks _=>UI (UP (x∈ks))
 |x,.Fc ks=>(rowOf x).map λr=>UP (r∈ks)
 |_,_=>UK
noncomputable def cY:List Str->List U->Str->Option U
 |y::ks,u::us,x=>if y=x then UI u else cY ks us x
 |_,_,_=>UK
noncomputable def dput(ks:List Str)(us:List U)(x:Str)(u:U):List Str×List U :=
 if x∈ks then(ks,(ks.zip us).map λp=>if p.1=x then u else p.2) else(ks++[x],us++[u])
noncomputable def bo:Lm->U->U->Option Bool
 |.eq,a,b=>if FA 50 a=UN/\FA 50 b=UN then UI (bU a b) else UK
 |.ne,a,b=>if FA 50 a=UN/\FA 50 b=UN then UI (!bU a b) else UK
 |.lt,.int i,.int j=>UI (UP (i<j))
 |.gt,.int i,.int j=>UI (UP (j<i))
 |.ge,.int i,.int j=>UI (UP (j<=i))
 |.isin,x,y=>uc x y
 |.Eh,x,y=>(uc x y).map (!·)
 |_,_,_=>UK
noncomputable def eZ:List U->Option (List Bool)
 |[]=>UI []
 |.bl x::us=>(eZ us).map (x::·)
 |_::_=>UK
noncomputable def gv:Kd×U->U->Option (Kd×U)
 |(k,.lst xs),.int i=>(ED xs i).map λu=>(kE k,u)
 |(k,.tup xs),.int i=>(ED xs i).map λu=>(kE k,u)
 |(_,.str x),.int i=>if x.length<=US then(ED x.cps.toList i).map λc=>(.loc,.str ⟨#[c]⟩) else UK
 |_,_=>UK
noncomputable def lr:Kd×U->Option Int->Option Int->Option (Kd×U)
 |(k,.lst xs),lo,hi=>if jn k xs=UN then UI (.own,.lst (cut xs lo hi)) else UK
 |(k,.tup xs),lo,hi=>UI (kE k,.tup (cut xs lo hi))
 |(_,.str x),lo,hi=>if x.length<=US then UI (.loc,.str (PySem.StrLaws.sliceText x lo hi)) else UK
 |_,_,_=>UK
noncomputable def A9:U->Option Nat
 |.lst xs=>UI xs.length
 |.tup xs=>UI xs.length
 |.str x=>if x.length<=US then UI x.length else UK
 |_=>UK
noncomputable def gR{β:Type}(f:Kd×U->Option β):List (Kd×U)->Option β
 |[x]=>f x
 |_=>UK
noncomputable def intsOf:List U->Option (List Int)
 |[]=>UI []
 |.int x::us=>(intsOf us).map (x::·)
 |_::_=>UK
noncomputable def A_:Kd×U->Option (Kd×U)
 |(_,.lst xs)=>(strsOf xs).bind λss=>if ss.length<64 then UI (.own,.lst ((av ss).map .str)) else UK
 |(_,.tup xs)=>(strsOf xs).bind λss=>if ss.length<64 then UI (.own,.lst ((av ss).map .str)) else UK
 |_=>UK
noncomputable def Ba:Kd×U->Option (Kd×U)
 |(k,.lst xs)=>UI (kE k,.tup xs)
 |(k,.tup xs)=>UI (kE k,.tup xs)
 |_=>UK
noncomputable def yE:Kd×U->Option (Kd×U)
 |(_,.int i)=>if i.natAbs.log2<1920 then UI (.loc,.str (Y0 i)) else UK
 |_=>UK
noncomputable def Bb:Kd×U->Option (Kd×U)
 |(_,.lst xs)=>(eZ xs).map λbs=>(.loc,.bl (bs.all id))
 |_=>UK
noncomputable def Bc:Kd×U->Option (Kd×U)
 |(_,.lst xs)=>(eZ xs).map λbs=>(.loc,.bl (bs.any id))
 |_=>UK
noncomputable def F7(f:Bf)(rs:List (Kd×U)):Option (Kd×U):=match f with
 |.len=>gR (λx=>(A9 x.2).map λ(n:Nat)=>(Kd.loc,U.int (n:Int))) rs
 |.sorted=>gR A_ rs
 |.tuple=>gR Ba rs
 |.str=>gR yE rs
 |.all=>gR Bb rs
 |.any=>gR Bc rs
 |_=>UK
noncomputable def fL:U->Option (List Str)
 |.lst xs=>(strsOf xs).bind λss=>if ss.length+1<Wn then UI (ao ss) else UK
 |.tup xs=>(strsOf xs).bind λss=>if ss.length+1<Wn then UI (ao ss) else UK
 |_=>UK
noncomputable def qw(f:B2)(rs:List (Kd×U)):Option (Kd×U):=match f with
 |.sset=>gR (λx=>(fL x.2).bind λss=>if ss.length<64 then UI (.own,.lst ((av ss).map .str)) else UK) rs
 |.mM=>gR (λx=>(fL x.2).map λss=>(.loc,.int ss.length)) rs
 |_=>UK
noncomputable def jo:Mf->U->List (Kd×U)->Option (Kd×U)
 |.split,.str a,[(_,.str b)]=>if (b.length==0)=UO/\a.length+2<=US then UI (.own,.lst ((XO a b).map .str)) else UK
 |.join,.str a,[(_,.lst xs)]=>(strsOf xs).bind λss=>if ŕ a ss=UN then UI (.loc,.str (ZQ a ss)) else UK
 |_,_,_=>UK
noncomputable def D5:Kd×U->Option (List (Kd×U))
 |(k,.lst xs)=>UI (xs.map λu=>(kE k,u))
 |(k,.tup xs)=>UI (xs.map λu=>(kE k,u))
 |_=>UK
noncomputable def ud:Kd×U->Option (List (Kd×U))
 |(_,.int n)=>if n<2 ^ 62/\-(2 ^ 62)<n then UI ((UX n.toNat).map λi:Nat=>(Kd.loc,U.int (0+(i:Int)))) else UK
 |_=>UK
noncomputable def Bd:Kd×U->Option (List (Kd×U))
 |(k,.lst xs)=>UI (xs.zipIdx.map λp=>(kE k,.tup [.int p.2,p.1]))
 |(k,.tup xs)=>UI (xs.zipIdx.map λp=>(kE k,.tup [.int p.2,p.1]))
 |_=>UK
noncomputable def Be:List (Kd×U)->Option (List (Kd×U))
 |[(k,.lst xs),(k',.tup ys)]=>UI ((xs.zip ys).map λp=>(kT k k',.tup [p.1,p.2]))
 |_=>UK
noncomputable def F0(ik:Ik)(rs:List (Kd×U)):Option (List (Kd×U)):=match ik with
 |.seq=>gR D5 rs
 |.EG=>gR ud rs
 |.II=>gR Bd rs
 |.zip=>Be rs
 |_=>UK
noncomputable def yF(ps:List (Str×Int)):List (Str×Int):=(jk (ps.map (·.1))).map λi=>ps.getD i (VW,0)
noncomputable def ue(p:Str×Int):U:=.tup [.str p.1,.int p.2]
noncomputable def vZ:U->Option (Kd×U)
 |.Ee ks us=>(intsOf us).bind λns=>if ks.length<64/\ks.Nodup/\ks.length=ns.length then UI (.own,.lst ((yF (ks.zip ns)).map ue)) else UK
 |_=>UK
noncomputable def uf(ln:Bool)(d1 d2:List Str):Option (Kd×U):=if d1.length<64/\d2.length<64 then UI (if ln=UN then(.loc,.int ((d1.filter λx=>UP (x∉d2)).length:Nat)) else(.own,.lst ((av (d1.filter λx=>UP (x∉d2))).map .str))) else UK
noncomputable def lu:U->Option Bool
 |.bl b=>UI b
 |.lst xs=>UI !xs.isEmpty
 |.tup xs=>UI !xs.isEmpty
 |.str x=>if x.length<=US then UI ((x.length:Int) != 0) else UK
 |_=>UK
noncomputable def lift:Kd×U->M U
 |(.own,u)=>pure u
 |(.loc,u)=>pure u
 |(.any,u)=>if EL u=UN then pure u else M.fail
 |(.bor j,_)=>λst=>match st[j]? with
  |some (UI (.own,u))=>UI (.ok u,st.set j (UI (.loc,u)))
  |_=>UK
 |(.io,_)=>M.fail
 |(.Eb,_)=>M.fail
noncomputable def cS:List (Kd×U)->M (List U)
 |[]=>pure []
 |r::rs=>do let u <-lift r;let us <-cS rs;pure (u::us)
noncomputable def d6(i:Nat):Kd×U->M Unit
 |(.bor j,_)=>λst=>match st[j]? with
  |some (UI (.own,u))=>UI (.ok (),(st.set j (UI (.loc,u))).set i (UI (.loc,u)))
  |_=>UK
 |(.io,_)=>M.fail
 |(.Eb,_)=>M.fail
 |(k,u)=>λst=>UI (.ok (),st.set i (UI (k,u)))
def a5:List (Kd×U)->aq->Prop
 |[],_=>True
 |(.bor j,u)::rs,st=>(∃k:Kd,k.root=UN/\st[j]?=UI (UI (k,u)))/\a5 rs st
 |_::rs,st=>a5 rs st
open Classical in
noncomputable def aA(rs:List (Kd×U)):M Unit:=λst=>if a5 rs st then UI (.ok (),st) else UK
abbrev Tab:=Str->List U->Option (Ex (Kd×U))
noncomputable def ka(Γ:Tab)(f:Str)(us:List U):M (Kd×U):=λst=>match Γ f us with
 |some (.ok (.any,_))=>UK
 |none=>UK
 |some r=>UI (r,st)
noncomputable def du(i:Nat):M (Kd×U):=λst=>match st[i]? with
 |some (UI (.Eb,_))=>UK
 |some (UI (k,u))=>UI (.ok (if k.root=UN then .bor i else k,u),st)
 |_=>UK
noncomputable def fM(i:Nat):M (List Str×List U):=λst=>match st[i]? with
 |some (UI (.Eb,.Ee ks us))=>UI (.ok (ks,us),st)
 |_=>UK
noncomputable def gT(x:Kd×U):M Str:=match x.2 with
 |.str y=>pure y
 |_=>M.fail
noncomputable def Ln(neg:Bool)(y:Str)(ks:List Str):Bool:=if neg=UN then !UP (y∈ks) else UP (y∈ks)
noncomputable def v3(i:Nat):M (Kd×U):=λst=>match st[i]? with
 |some (UI (.Eb,u))=>UI (.ok (.bor i,u),st.set i (UI (.own,u)))
 |_=>du i st
noncomputable def oS(i:Nat):M (List Str×List U):=λst=>match st[i]? with
 |some (UI (.Eb,.Ee ks us))=>UI (.ok (ks,us),st.set i UK)
 |_=>UK
noncomputable def m7(d:List Str×List U):List (Kd×U):=(d.1.zip d.2).map λp=>(Kd.loc,U.tup [.str p.1,p.2])
noncomputable def zO(i:Nat):M Unit:=λst=>UI (.ok (),st.set i (UI (.Eb,.Ee [] [])))
noncomputable def kb(i:Nat)(y:Str):Kd×U->M Unit
 |(.own,.lst us)=>λst=>match st[i]? with
  |some (UI (.Eb,.Ee ks vs))=>if y∉ks/\ks.length<US then UI (.ok (),st.set i (UI (.Eb,.Ee (ks++[y]) (vs++[.lst us])))) else UK
  |_=>UK
 |_=>M.fail
noncomputable def iD:List Str->List U->Str->U->List U
 |k::ks,v::vs,y,u=>if k=y then u::vs else v::iD ks vs y u
 |_,vs,_,_=>vs
noncomputable def kf(i:Nat)(y:Str)(u:U):M Unit:=λst=>match st[i]? with
 |some (UI (.Eb,.Ee ks vs))=>match cY ks vs y with
  |some (.lst xs)=>if xs.length<US then UI (.ok (),st.set i (UI (.Eb,.Ee ks (iD ks vs y (.lst (xs++[u])))))) else UK
  |_=>UK
 |_=>UK
noncomputable def Og:U->M Unit
 |.Ee _ _=>pure ()
 |_=>M.fail
noncomputable def yG(x:Kd×U)(y:Str)(u:U):Option (Kd×U):=match x with
 |(k,.Ee ks us)=>UI (match cY ks us y with|some v=>(kE k,v)|none=>(.loc,u))
 |_=>UK
noncomputable def oU(i:Nat):M (List U):=λst=>match st[i]? with
 |some (UI (k,.lst us))=>if k.root=UN then UI (.ok us,st) else UK
 |_=>UK
noncomputable def ug(x:Kd×U):M Int:=match x.2 with
 |.int j=>pure j
 |_=>M.fail
noncomputable def oV(us:List U)(j:Int):Option Int:=if 0<=j then(match us[j.toNat]? with|some (.int o)=>UI o|_=>UK) else UK
noncomputable def uh(sub:Bool)(o w:Int):Int:=if sub=UN then o - w else o+w
noncomputable def D6:U->Option U
 |.lst us=>UI (.lst us.reverse)
 |_=>UK
noncomputable def sets:List Nat->List (Kd×U)->M Unit
 |[],[]=>pure ()
 |i::is,r::rs=>do d6 i r;sets is rs
 |_,_=>M.fail
noncomputable def cH(t:Bool)(is:List Nat)(r:Kd×U):M Unit:=match t,is,r with
 |false,[i],r=>d6 i r
 |true,is,(k,.tup xs)=>sets is (xs.map λu=>(kE k,u))
 |_,_,_=>M.fail
noncomputable def inScope{α:Type}(k:Nat)(m:M α):M α:=λst=>match m (Vk k UK++st) with
 |none=>UK
 |some (r,st')=>UI (r,st'.drop k)
noncomputable def br(k:Nat)(t:Bool)(cond:M Bool)(elt:M (Kd×U))(src:List (Kd×U)):List (Kd×U)->List U->M (List U)
 |[],acc=>do aA src;pure acc
 |x::xs,acc=>do
  aA src
  let r <-inScope k (cH t (UX k) x >>= λ_=>cond >>= λb=>if b=UN then(elt >>= λr=>lift r >>= λu=>pure (UI u)) else pure UK)
  match r with
  |some u=>if acc.length<US then br k t cond elt src xs (acc++[u]) else M.fail
  |none=>br k t cond elt src xs acc
noncomputable def D7:Kd×U->Option (Kd×U)
 |(_,.int i)=>UI (.loc,.int (-i))
 |_=>UK
noncomputable def Bg(x:Kd×U):M (Option Int):=match x.2 with
 |.int i=>pure (UI i)
 |_=>M.fail
section
variable(Γ:Tab)
mutual
noncomputable def ev:E->M (Kd×U)
 |.var i=>du i
 |.cst u=>pure (.loc,u)
 |.My _ u=>pure (.loc,u)
 |.bin op a b=>do
  let x <-ev a
  let y <-ev b
  aA [x,y]
  M.Eu (Gb op x y)
 |.cmp op a b=>do
  let x <-ev a
  let y <-ev b
  aA [x,y]
  let c <-M.Eu (bo op x.2 y.2)
  pure (.loc,.bl c)
 |.Hr o1 o2 a b c=>do
  let x <-ev a
  let y <-ev b
  aA [x,y]
  let p <-M.Eu (bo o1 x.2 y.2)
  if p=UN then do
   let z <-ev c
   aA [y,z]
   let q <-M.Eu (bo o2 y.2 z.2)
   pure (.loc,.bl q)
  else pure (.loc,.bl UO)
 |.and es=>gU es
 |.or es=>Bh es
 |.not a=>do
  let x <-ev a
  match x.2 with
  |.bl c=>pure (.loc,.bl !c)
  |_=>M.fail
 |.ite c a b=>do
  let p <-Et c
  if p=UN then ev a else ev b
 |.tup es=>do
  let rs <-bL es
  aA rs
  let us <-cS rs
  if us.length<=US then pure (.loc,.tup us) else M.fail
 |.lst es=>do
  let rs <-bL es
  aA rs
  let us <-cS rs
  if us.length<=US then pure (.own,.lst us) else M.fail
 |.FU r=>pure (.own,if r=UN then .Fc [] else .Ee [] [])
 |.idx a b=>do
  let x <-ev a
  let y <-ev b
  aA [x,y]
  M.Eu (gv x y.2)
 |.F6 a lo hi=>do
  let x <-ev a
  let l <-Jv lo
  let h <-Jv hi
  aA [x]
  M.Eu (lr x l h)
 |.bi f es=>do
  let rs <-bL es
  aA rs
  M.Eu (F7 f rs)
 |.G6 f es=>do
  let rs <-bL es
  aA rs
  M.Eu (qw f rs)
 |.G7 m a es=>do
  let x <-ev a
  let rs <-bL es
  aA (x::rs)
  M.Eu (jo m x.2 rs)
 |.call f es=>do
  let rs <-bL es
  aA rs
  ka Γ f (rs.map (·.2))
 |.comp k t ik src cond e=>do
  let rs <-bL src
  aA rs
  let xs <-M.Eu (F0 ik rs)
  let us <-br k t (aM cond) (ev e) rs xs []
  pure (.own,.lst us)
 |.neg a=>do
  let x <-ev a
  M.Eu (D7 x)
 |.bad=>M.fail
 |.inD neg a i=>do
  let x <-ev a
  let y <-gT x
  let d <-fM i
  pure (.loc,.bl (Ln neg y d.1))
 |.J_ i=>v3 i
 |.Gq i k d=>do
  let x <-du i
  Og x.2
  let y <-ev k
  let y <-gT y
  let z <-ev d
  let u <-lift z
  let x <-du i
  M.Eu (yG x y u)
 |.J' i=>do
  let x <-du i
  M.Eu (vZ x.2)
 |.H_ ln a b=>do
  let x <-ev a
  let d1 <-M.Eu (fL x.2)
  let y <-ev b
  let d2 <-M.Eu (fL y.2)
  M.Eu (uf ln d1 d2)
 |.fst es=>M.fail
 |.Mz a T=>M.fail
noncomputable def bL:List E->M (List (Kd×U))
 |[]=>pure []
 |e::es=>do let r <-ev e;let rs <-bL es;pure (r::rs)
noncomputable def Jv:List E->M (Option Int)
 |[]=>pure UK
 |[e]=>do let x <-ev e;Bg x
 |_=>M.fail
noncomputable def gU:List E->M (Kd×U)
 |[]=>M.fail
 |[e]=>ev e
 |e::es=>do
  let x <-ev e
  match x.2 with
  |.bl UN=>gU es
  |.bl UO=>pure (.loc,.bl UO)
  |_=>M.fail
noncomputable def Bh:List E->M (Kd×U)
 |[]=>M.fail
 |[e]=>ev e
 |e::es=>do
  let x <-ev e
  match x.2 with
  |.bl UN=>pure (.loc,.bl UN)
  |.bl UO=>Bh es
  |_=>M.fail
noncomputable def Et:E->M Bool
 |.and es=>aM es
 |.or es=>e_ es
 |.not a=>do let b <-Et a;pure !b
 |.cmp op a b=>do
  let x <-ev a
  let y <-ev b
  aA [x,y]
  M.Eu (bo op x.2 y.2)
 |.var i=>do let x <-du i;M.Eu (lu x.2)
 |.cst u=>M.Eu (lu u)
 |.idx a b=>do
  let x <-ev a
  let y <-ev b
  aA [x,y]
  let r <-M.Eu (gv x y.2)
  M.Eu (lu r.2)
 |.G6 f es=>do
  let rs <-bL es
  aA rs
  let r <-M.Eu (qw f rs)
  M.Eu (lu r.2)
 |.bi f es=>do
  let rs <-bL es
  aA rs
  let r <-M.Eu (F7 f rs)
  M.Eu (lu r.2)
 |.G7 m a es=>do
  let x <-ev a
  let rs <-bL es
  aA (x::rs)
  let r <-M.Eu (jo m x.2 rs)
  M.Eu (lu r.2)
 |.call f es=>do
  let rs <-bL es
  aA rs
  let r <-ka Γ f (rs.map (·.2))
  M.Eu (lu r.2)
 |.Hr o1 o2 a b c=>do
  let x <-ev a
  let y <-ev b
  aA [x,y]
  let p <-M.Eu (bo o1 x.2 y.2)
  if p=UN then do
   let z <-ev c
   aA [y,z]
   M.Eu (bo o2 y.2 z.2)
  else pure UO
 |.inD neg a i=>do
  let x <-ev a
  let y <-gT x
  let d <-fM i
  pure (Ln neg y d.1)
 |_=>M.fail
noncomputable def aM:List E->M Bool
 |[]=>pure UN
 |[e]=>Et e
 |e::es=>do let b <-Et e;if b=UN then aM es else pure UO
noncomputable def e_:List E->M Bool
 |[]=>pure UO
 |[e]=>Et e
 |e::es=>do let b <-Et e;if b=UN then pure UN else e_ es
end
inductive Fl where|nx|rt (k:Kd) (u:U)|bk|ct
noncomputable def retS:Kd×U->M Fl
 |(.own,u)=>pure (.rt .own u)
 |(.loc,u)=>pure (.rt .loc u)
 |(.any,u)=>if EL u=UN then pure (.rt .loc u) else pure (.rt .any u)
 |(.bor j,_)=>λst=>match st[j]? with
  |some (UI (.own,u))=>UI (.ok (.rt .own u),st.set j UK)
  |_=>UK
 |(.io,_)=>M.fail
 |(.Eb,_)=>M.fail
noncomputable def forM(t:Bool)(is:List Nat)(body:M Fl)(src:List (Kd×U)):List (Kd×U)->M Fl
 |[]=>do aA src;pure .nx
 |x::xs=>do
  aA src
  cH t is x
  let f <-body
  match f with
  |.nx=>forM t is body src xs
  |.ct=>forM t is body src xs
  |.bk=>pure .nx
  |.rt k u=>pure (.rt k u)
noncomputable def gw(c:M Bool)(body:M Fl):Nat->M Fl
 |0=>M.fail
 |n+1=>do
  let b <-c
  if b=UN then do
   let f <-body
   match f with
   |.nx=>gw c body n
   |.ct=>gw c body n
   |.bk=>pure .nx
   |.rt k u=>pure (.rt k u)
  else pure .nx
noncomputable def modS(i:Nat)(f:U->Option U):M Unit:=λst=>match st[i]? with
 |some (UI (k,u))=>if k.root=UN then match f u with
   |some u'=>UI (.ok (),st.set i (UI (k,u')))
   |none=>UK
  else UK
 |_=>UK
noncomputable def v5(u:U):U->Option U
 |.lst xs=>if xs.length<US then UI (.lst (xs++[u])) else UK
 |_=>UK
noncomputable def kg:Kd×U->U->Option U
 |(k,.lst ys),.lst xs=>if xs.length+ys.length<=US/\jn k ys=UN then UI (.lst (xs++ys)) else UK
 |(k,.tup ys),.lst xs=>if xs.length+ys.length<=US/\jn k ys=UN then UI (.lst (xs++ys)) else UK
 |_,_=>UK
noncomputable def dv(x u:U):U->Option U
 |.Ee ks vs=>match x with
  |.str y=>if ks.length<US then UI (.Ee (dput ks vs y u).1 (dput ks vs y u).2) else UK
  |_=>UK
 |.Fc ks=>match rowOf x,u with
  |some r,.bl UN=>if r∉ks/\ks.length<=1000 then UI (.Fc (ks++[r])) else UK
  |_,_=>UK
 |.lst xs=>match x with
  |.int i=>(Hf xs.length i).map λj=>.lst (xs.set j u)
  |_=>UK
 |_=>UK
noncomputable def rV:List U->U->Option U
 |[u,x]=>dv x u
 |_=>λ_=>UK
noncomputable def Ka:U->M Unit
 |.lst _=>pure ()
 |_=>M.fail
noncomputable def fuel:Nat:=100000
mutual
noncomputable def Ih:S->Nat->Bool
 |.set i _,j=>UP (j≠i)
 |.Ic is _,j=>UP (j∉is)
 |.ite _ a b,j=>G8 a j&&G8 b j
 |.EA _ is _ _ body,j=>UP (j∉is)&&G8 body j
 |.Ju _ body,j=>G8 body j
 |.put _ _ _,_=>UN
 |.app _ _,_=>UN
 |.ext _ _,_=>UN
 |.bad,_=>UN
 |.newD i,j=>UP (j≠i)
 |.putD _ _ _,_=>UN
 |.FJ _ _ _,_=>UN
 |.aug _ _ _ _,_=>UN
 |.MA _,_=>UN
 |.exp _,_=>UN
 |.ret _,_=>UN
 |.GR _ _,_=>UN
 |.Ie,_=>UN
 |.brk,_=>UN
 |.cnt,_=>UN
 |.MB,_=>UN
noncomputable def G8:List S->Nat->Bool
 |[],_=>UN
 |s::ss,j=>Ih s j&&G8 ss j
end
noncomputable def oW(rs:List (Kd×U))(is:List Nat)(body:List S):Bool:=rs.all λr=>match r.1 with
 |.bor j=>UP (j∉is)&&G8 body j
 |_=>UN
mutual
noncomputable def exec:S->M Fl
 |.set i e=>do let r <-ev Γ e;d6 i r;pure .nx
 |.Ic is e=>do let r <-ev Γ e;cH UN is r;pure .nx
 |.put i k v=>do
  let r <-ev Γ v
  let _ <-du i
  let x <-ev Γ k
  let us <-cS [r,x]
  modS i (rV us)
  pure .nx
 |.app i e=>do
  let x <-du i
  Ka x.2
  let r <-ev Γ e
  let u <-lift r
  modS i (v5 u)
  pure .nx
 |.ext i e=>do
  let x <-du i
  Ka x.2
  let r <-ev Γ e
  modS i (kg r)
  pure .nx
 |.bad=>M.fail
 |.newD i=>do zO i;pure .nx
 |.putD i k v=>do
  let r <-ev Γ v
  let d <-fM i
  let x <-ev Γ k
  let y <-gT x
  kb i y r
  pure .nx
 |.FJ i k v=>do
  let _ <-fM i
  let x <-ev Γ k
  let y <-gT x
  let d <-fM i
  if y∈d.1 then do
   let r <-ev Γ v
   let u <-lift r
   kf i y u
   pure .nx
  else M.fail
 |.aug sub i k v=>do
  let _ <-oU i
  let y <-ev Γ k
  let j <-ug y
  let us <-oU i
  let o <-M.Eu (oV us j)
  let z <-ev Γ v
  let w <-ug z
  modS i (dv (.int j) (.int (uh sub o w)))
  pure .nx
 |.MA i=>do
  modS i D6
  pure .nx
 |.exp e=>do let _ <-ev Γ e;pure .nx
 |.ret e=>do let r <-ev Γ e;retS r
 |.GR i e=>do
  let d <-oS i
  let us <-br 2 UN (pure UN) (ev Γ e) [] (m7 d) []
  retS (.own,.lst us)
 |.Ie=>pure (.rt .loc .Es)
 |.ite c a b=>do let p <-Et Γ c;if p=UN then execs a else execs b
 |.EA t is ik src body=>do
  let rs <-bL Γ src
  aA rs
  let xs <-M.Eu (F0 ik rs)
  if oW rs is body=UN then forM t is (execs body) rs xs else M.fail
 |.Ju c body=>gw (Et Γ c) (execs body) fuel
 |.brk=>pure .bk
 |.cnt=>pure .ct
 |.MB=>pure .nx
noncomputable def execs:List S->M Fl
 |[]=>pure .nx
 |s::ss=>do
  let f <-exec s
  match f with
  |.nx=>execs ss
  |f=>pure f
end
end
structure Fn where
 name:Str
 np:Nat
 ns:Nat
 body:List S
noncomputable def start(us:List U)(n:Nat):aq:=us.map (λu=>UI (if EL u=UN then Kd.loc else Kd.any,u))++Vk (n - us.length) UK
noncomputable def bM(Γ:Tab)(fn:Fn)(us:List U):Option (Ex (Kd×U)):=if us.length=fn.np then match execs Γ fn.body (start us fn.ns) with
  |some (.ok (.rt .own u),_)=>UI (.ok (.own,u))
  |some (.ok (.rt .loc u),_)=>UI (.ok (.loc,u))
  |some (.ok (.rt .any u),_)=>UI (.ok (.any,u))
  |some (.ok .nx,_)=>UI (.ok (.loc,.Es))
  |some (.exc c,_)=>UI (.exc c)
  |_=>UK
 else UK
noncomputable def EI(P:List Fn):Nat->Tab
 |0=>λ_ _=>UK
 |d+1=>λf us=>match P.find? λfn=>UP (fn.name=f) with
  |some fn=>bM (EI P d) fn us
  |none=>UK
end TM
namespace TM
open PySem L2
section
variable{X:Cx}{pins:List (U8×Obj)}{σ:St}{H:Hp}{s:U1}{C:Ct}{S:U8->Prop}
theorem rW(I:Inv X pins σ H s)(h:EN X.K H a vs):∃A':List UT,Vals vs A'/\s.heap.IsList a A'.toArray/\vs.length<=US:=by
 obtain⟨A',r,p,z⟩:=I.list h;exact⟨A',r,p.isList,z⟩
inductive ER(s:U1):Nat->U->UT->Prop where
 |Es {n:Nat}:ER s n .Es .none
 |bl {n:Nat} {b:Bool}:ER s n (.bl b) (.bool b)
 |int {n:Nat} {i:Int} {t:Tok}:ER s n (.int i) (.int i t)
 |str {n:Nat} {y:Str} {t:Tok}:ER s n (.str y) (.str y t)
 |tup {n:Nat} {us:List U} {A':List UT} {a:U8}:us.length=A'.length->(∀j (hj:j<A'.length),ER s n (us.getD j .Es) A'[j])->s.heap.IsTuple a A'.toArray->ER s (n+1) (.tup us) (.ref a)
 |lst {n:Nat} {us:List U} {A':List UT} {a:U8}:us.length=A'.length->(∀j (hj:j<A'.length),ER s n (us.getD j .Es) A'[j])->s.heap.IsList a A'.toArray->ER s (n+1) (.lst us) (.ref a)
theorem ER.yH(f:∀u v x,FA n u=UN->Rep C S H u v->RelV v x->ER s n u x):∀{us:List U}{vs:List V}{A':List UT},cX n us=UN->aj C S H us vs->Vals vs A'->us.length=A'.length/\∀j (hj:j<A'.length),ER s n (us.getD j .Es) A'[j]
 |[],_,_,_,h,r=>by cases h;cases r;exact⟨rfl,λj hj=>nomatch hj⟩
 |u::us,_,_,e,h,r=>by
  obtain⟨v,vs,rfl,h1,h2⟩:=h;simp only[cX,UR]at e;cases r with
  |cons r1 r2 =>
   obtain⟨l,k⟩:=ER.yH f e.2 h2 r2;refine⟨by simp[l],λj hj=>?_⟩;cases j with
   |zero=>exact f _ _ _ e.1 h1 r1
   |succ j=>exact k j (by simpa using hj)
theorem ER.of(I:Inv X pins σ H s)(hK:C.K=X.K):∀(n:Nat) (u:U) (v:V) (x:UT),FA n u=UN->Rep C S H u v->RelV v x->ER s n u x:=by
 intro n;induction n with
 |zero=>intro u v x e h r;cases u<;>first|(simp[FA]at e;done)|(simp only[Rep]at h;subst h;first|(cases r;constructor)|(obtain⟨t,rfl⟩:=r;constructor))
 |succ n ih =>
  intro u v x e h r;cases u with
  |tup us =>
   obtain⟨a,vs,rfl,h1,h2⟩:=h;cases r;obtain⟨A',rv,p,_⟩:=I.tuple (hK▸h1);obtain⟨l,k⟩:=ER.yH ih (by simpa[FA] using e) h2 rv;exact .tup l k p
  |lst us =>
   obtain⟨a,vs,rfl,h1,h2⟩:=h;cases r;obtain⟨A',rv,p,_⟩:=rW I (hK▸h1.sq);obtain⟨l,k⟩:=ER.yH ih (by simpa[FA] using e) h2 rv;exact .lst l k p
  |_=>first|(simp[FA]at e;done)|(simp only[Rep]at h;subst h;first|(cases r;constructor)|(obtain⟨t,rfl⟩:=r;constructor))
theorem ER.inj:∀{n:Nat}{u w:U}{x:UT},ER s n u x->ER s n w x->u=w:=by
 intro n;induction n with
 |zero=>intro u w x h h';cases h<;>cases h'<;>rfl
 |succ n ih =>
  have go:∀{us ws:List U} {A' its':List UT} {a:U8} {o o':Obj} {m m':Nat},us.length=A'.length->(∀j (hj:j<A'.length),ER s n (us.getD j .Es) A'[j])->ws.length=its'.length->(∀j (hj:j<its'.length),ER s n (ws.getD j .Es) its'[j])->s.heap.get? a=UI o->o.data=.seq A'.toArray m->s.heap.get? a=UI o'->o'.data=.seq its'.toArray m'->us=ws:=by
   intro us ws A' its' a o o' m m' l k l' k' e d e' d';rw[e]at e';cases e';rw[d]at d';injection d' with d1 _
   have:A'=its':=by simpa using θ é d1
   subst this;refine Wv ⋯ λj h1 h2=>?_;have:=ih (k j ⋯) (k' j ⋯);simpa[h1,h2] using this
  intro u w x h h';cases h with
  |tup l k p =>
   cases h' with
   |tup l' k' p'=>obtain⟨o,e,_,m,d⟩:=p;obtain⟨o',e',_,m',d'⟩:=p';rw[go l k l' k' e d e' d']
   |lst l' k' p'=>exact absurd rfl (æ p' p)
  |lst l k p =>
   cases h' with
   |lst l' k' p'=>obtain⟨o,e,_,m,d⟩:=p;obtain⟨o',e',_,m',d'⟩:=p';rw[go l k l' k' e d e' d']
   |tup l' k' p'=>exact absurd rfl (æ p p')
  |_=>cases h';rfl
mutual
theorem ER.self:∀{u:U}{n:Nat}{x:UT},ER s n u x->bU u u=UN
 |.tup us,_,_,.tup l k _=>ER.v7 us λj hj=>⟨_,_,k j (l▸hj)⟩
 |.lst us,_,_,.lst l k _=>ER.v7 us λj hj=>⟨_,_,k j (l▸hj)⟩
 |.Es,_,_,_=>rfl
 |.bl _,_,_,_=>by simp[bU]
 |.int _,_,_,_=>by simp[bU]
 |.str _,_,_,_=>by simp[bU]
theorem ER.v7:∀(us:List U),(∀j,j<us.length->∃n x,ER s n (us.getD j .Es) x)->cR us us=UN
 |[],_=>rfl
 |u::us,h=>by
  obtain⟨n,x,q⟩:=h 0 (by simp);rw[cR,ER.self (u:=u) q,ER.v7 us λj hj=>h (j+1) (by simpa using hj)];rfl
end
theorem iE:∀{us ws:List U},us.length≠ws.length->cR us ws=UO
 |[],[],h=>absurd rfl h
 |[],_::_,_=>rfl
 |_::_,[],_=>rfl
 |u::us,w::ws,h=>by
  rw[cR,iE (us:=us) (ws:=ws) (λe=>h (by simp[e])),Y_]
theorem fb:∀{us ws:List U},us.length=ws.length->cR us ws=(UX us.length).all λj=>bU (us.getD j .Es) (ws.getD j .Es)
 |[],[],_=>rfl
 |[],_::_,h=>by simp at h
 |_::_,[],h=>by simp at h
 |u::us,w::ws,h=>by
  have h':us.length=ws.length:=by simpa using h
  rw[cR,fb h',Vj,List.range_succ_eq_map,List.all_cons,W5];rfl
theorem CJ{A' its':List UT}(l1:us.length=A'.length)(l2:ws.length=its'.length):cR us ws=((UX (min A'.toArray.size its'.toArray.size)).all (λj=>bU (us.getD j .Es) (ws.getD j .Es))&&A'.toArray.size==its'.toArray.size):=by
 simp only[U9];by_cases el:us.length=ws.length
 ·rw[fb el,show min A'.length its'.length=us.length by omega,show(A'.length==its'.length)=UN by simp;omega,Zt]
 ·rw[iE el,show(A'.length==its'.length)=UO by simp;omega,Y_]
theorem rX(hf:ER s n u y)(h:č A s y x k)(hs:y=x->k=UN):YO A s y x k:=λprog w E Q hq=>by
 unfold eqBool;refine VG ?_;refine wpAny_ite_split (λGh=>?_) (λ_=>?_)
 ·rw[hs (ğ Gh)]at hq;exact UJ (WA (UM hq))
 ·cases hf<;>exact UJ (h prog w E _ (Wc hq))
theorem Oh(ih:∀m,m+1=n->∀{u w:U}{x x':UT}{A:WZ},ER s m u x->ER s m w x'->A.units+m<Wa->YO A s x x' (bU u w))(h:ER s n u x)(h':ER s n w x')(hn:A.units+n<Wa):č A s x x' (bU u w)/\Ŕ A s x x' (!bU u w):=by
 have hu:A.units<Wa:=by omega
 have go:∀{m:Nat} {us ws:List U} {A' its':List UT},m+1=n->(∀j (hj:j<A'.length),ER s m (us.getD j .Es) A'[j])->(∀j (hj:j<its'.length),ER s m (ws.getD j .Es) its'[j])->∀j (h1:j<A'.toArray.size) (h2:j<its'.toArray.size),YO A.in1 s A'.toArray[j] its'.toArray[j] (bU (us.getD j .Es) (ws.getD j .Es)):=λ{m us ws A' its'} e k k' j h1 h2=>ih m e (k j h1) (k' j h2) (by show A.units+1+m < _;omega);cases h with
 |Es =>
  cases h' with
  |Es=>exact⟨.none_none,.none_none⟩
  |bl=>exact⟨.none_bool _,.none_bool _⟩
  |int=>exact⟨.none_int _ _,.none_int _ _⟩
  |str=>exact⟨.none_str _ _,.none_str _ _⟩
  |tup l' k' p'=>exact⟨.none_tuple p' hu,.none_tuple p' hu⟩
  |lst l' k' p'=>exact⟨.none_list p' hu,.none_list p' hu⟩
 |bl =>
  cases h' with
  |Es=>exact⟨.bool_none _,.bool_none _⟩
  |bl=>exact⟨.bool_bool _ _,.bool_bool _ _⟩
  |int=>exact⟨.bool_int _ _ _,.bool_int _ _ _⟩
  |str=>exact⟨.bool_str _ _ _,.bool_str _ _ _⟩
  |tup l' k' p'=>exact⟨.bool_tuple _ p' hu,.bool_tuple _ p' hu⟩
  |lst l' k' p'=>exact⟨.bool_list _ p' hu,.bool_list _ p' hu⟩
 |int =>
  cases h' with
  |Es=>exact⟨.int_none _ _,.int_none _ _⟩
  |bl=>exact⟨.int_bool _ _ _,.int_bool _ _ _⟩
  |int=>exact⟨.int_int _ _ _ _,.int_int _ _ _ _⟩
  |str=>exact⟨.int_str _ _ _ _,.int_str _ _ _ _⟩
  |tup l' k' p'=>exact⟨.int_tuple _ _ p' hu,.int_tuple _ _ p' hu⟩
  |lst l' k' p'=>exact⟨.int_list _ _ p' hu,.int_list _ _ p' hu⟩
 |str =>
  cases h' with
  |Es=>exact⟨.str_none _ _,.str_none _ _⟩
  |bl=>exact⟨.str_bool _ _ _,.str_bool _ _ _⟩
  |int=>exact⟨.str_int _ _ _ _,.str_int _ _ _ _⟩
  |str=>exact⟨.str_str _ _ _ _,.str_str _ _ _ _⟩
  |tup l' k' p'=>exact⟨.str_tuple _ _ p' hu,.str_tuple _ _ p' hu⟩
  |lst l' k' p'=>exact⟨.str_list _ _ p' hu,.str_list _ _ p' hu⟩
 |tup l k p =>
  cases h' with
  |Es=>exact⟨.tuple_none p hu,.tuple_none p hu⟩
  |bl=>exact⟨.tuple_bool _ p hu,.tuple_bool _ p hu⟩
  |int=>exact⟨.tuple_int _ _ p hu,.tuple_int _ _ p hu⟩
  |str=>exact⟨.tuple_str _ _ p hu,.tuple_str _ _ p hu⟩
  |tup l' k' p'=>rw[show bU (.tup _) (.tup _)=_ from CJ l l'];exact⟨.tuples p p' hu (go rfl k k'),.tuples p p' hu (go rfl k k')⟩
  |lst l' k' p'=>exact⟨.tuple_list p p' hu,.tuple_list p p' hu⟩
 |lst l k p =>
  cases h' with
  |Es=>exact⟨.list_none p hu,.list_none p hu⟩
  |bl=>exact⟨.list_bool _ p hu,.list_bool _ p hu⟩
  |int=>exact⟨.list_int _ _ p hu,.list_int _ _ p hu⟩
  |str=>exact⟨.list_str _ _ p hu,.list_str _ _ p hu⟩
  |tup l' k' p'=>exact⟨.list_tuple p p' hu,.list_tuple p p' hu⟩
  |lst l' k' p' =>
   rename_i us _ _ ws _ _;by_cases el:us.length=ws.length
   ·rw[show bU (.lst us) (.lst ws)=_ from fb el,l,<-U9];exact⟨.lists p p' (by simp;omega) hu (go rfl k k'),.lists p p' (by simp;omega) hu (go rfl k k')⟩
   ·rw[show bU (.lst us) (.lst ws)=UO from iE el];exact⟨.lists_lengths p p' (by simp;omega) hu,.lists_lengths p p' (by simp;omega) hu⟩
theorem CK:∀{n:Nat}{u w:U}{x x':UT}{A:WZ},ER s n u x->ER s n w x'->A.units+n<Wa->YO A s x x' (bU u w):=by
 intro n;induction n with
 |zero=>intro u w x x' A h h' hu;exact rX h (Oh (λm e=>by cases e) h h' hu).1 λe=>by subst e;rw[h.inj h'];exact h'.self
 |succ n ih=>intro u w x x' A h h' hu;exact rX h (Oh (λm e=>by cases e;exact ih) h h' hu).1 λe=>by subst e;rw[h.inj h'];exact h'.self
theorem CL(h:ER s n u x)(h':ER s n w x')(hu:A.units+n<Wa):č A s x x' (bU u w)/\Ŕ A s x x' (!bU u w):=Oh (λm e=>by cases e;exact CK) h h' hu
end
end TM
namespace TM
open PySem L2 PyProof.Rows
def Ek(C:Ct)(m:M (Kd×U)):TE:=λσ H Q=>∃c0:Cf,c0.σ=σ/\c0.H=H/\Ok C c0/\W m c0.st λr st'=>∀c v,c.σ=σ->c.st=st'->Ok C c->Nx c0 c->aI C c0 c r.1 r.2 v->Q v c.H
def Fq(C:Ct)(m:M Bool):TT:=λσ H Q=>∃c0:Cf,c0.σ=σ/\c0.H=H/\Ok C c0/\W m c0.st λb st'=>∀c,c.σ=σ->c.st=st'->Ok C c->Nx c0 c->Q b c.H
def dk(C:Ct)(c0 c:Cf):List (Kd×U)->List V->Prop
 |[],vs=>vs=[]
 |r::rs,vs=>∃v t,vs=v::t/\eY C c0 c r.1 r.2 v/\dk C c0 c rs t/\(r.1=.own->∀(i:Nat) r' v',rs[i]?=UI r'->t[i]?=UI v'->r'.1=.own->v'≠v)
def FF(C:Ct)(m:M (List (Kd×U))):TA:=λσ H Q=>∃c0:Cf,c0.σ=σ/\c0.H=H/\Ok C c0/\W m c0.st λrs st'=>∀c vs,c.σ=σ->c.st=st'->Ok C c->Nx c0 c->dk C c0 c rs vs->Q vs c.H
section
theorem PE.weak(h:PE X e t)(i:∀σ H Q,t' σ H Q->t σ H Q):PE X e t':=λpins s σ H Q I q=>h pins s σ H Q I (i σ H Q q)
theorem PT.weak(h:PT X e t)(i:∀σ H Q,t' σ H Q->t σ H Q):PT X e t':=λpins s σ H Q I q=>h pins s σ H Q I (i σ H Q q)
theorem b_{st:aq}:W (aA rs) st Q↔a5 rs st/\Q () st:=by
 constructor
 ·rintro⟨a,st',e,h⟩;unfold aA at e;split at e
  ·cases e;exact⟨by assumption,h⟩
  ·cases e
 ·rintro⟨h1,h2⟩;exact⟨(),st,by unfold aA;rw[δ h1],h2⟩
theorem fz{st:aq}:a5 (r::rs) st↔a5 [r] st/\a5 rs st:=by
 obtain⟨k,u⟩:=r;cases k<;>simp[a5]
theorem eY.t(h:eY C c0 c k u v)(s:a5 [(k,u)] c.st):aI C c0 c k u v:=by
 cases k with
 |bor j=>exact⟨s.1,h⟩
 |_=>exact h
structure Lo(C:Ct)(c0 c:Cf)(x y:Kd×U)(vx vy:V):Prop where
 hσ:c.σ=c0.σ
 ok:Ok C c
 nx:Nx c0 c
 rx:aI C c0 c x.1 x.2 vx
 ry:aI C c0 c y.1 y.2 vy
 ne:x.1=.own->y.1=.own->vy≠vx
theorem m8(h:eY C c0 c1 k u v)(h':eY C c1 c k' u' v'):k=.own->k'=.own->v'≠v:=by
 rintro rfl rfl e;obtain⟨r,e1,_,_,_,h4⟩:=h;obtain⟨r',e2,h5,_⟩:=h';obtain⟨o,ho,_⟩:=h4.some;subst e1;rw[e2]at e;cases e;rw[ho]at h5;cases h5
theorem two{k:Kd×U->Kd×U->M β}{Em:β->aq->Prop}{f:UT->UT->Sem α}{Q':UT->UT->α->U1->Prop}(ha:PE X a (Ek C ma))(hb:PE X b (Ek C mb))(I:Inv X pins c0.σ c0.H s)(ok:Ok C c0)
  (h:W (ma >>= λx=>mb >>= λy=>aA [x,y] >>= λ_=>k x y) c0.st Em)
  (hf:∀x y c vx vy v u s2,Lo C c0 c x y vx vy->Inv X pins c.σ c.H s2->RelV vx v->RelV vy u->W (k x y) c.st Em->UU (U6 X.prog X.w) X.A (f v u) (Q' v u) X.xe s2) :
  UU (U6 X.prog X.w) X.A (Wo a X.env) (λv s₁=>UU (U6 X.prog X.w) X.A (Wo b X.env) (λu s₂=>UU (U6 X.prog X.w) X.A (f v u) (Q' v u) X.xe s₂) X.xe s₁) X.xe s:=by
 rw[ag]at h;refine Ej (ha pins s c0.σ c0.H (λvx H1=>∃x c1,c1.H=H1/\c1.σ=c0.σ/\Ok C c1/\Nx c0 c1/\aI C c0 c1 x.1 x.2 vx/\W (mb >>= λy=>aA [x,y] >>= λ_=>k x y) c1.st Em) I ⟨c0,rfl,rfl,ok,h.mono λx st1 h1 c1 vx e1 e2 El n1 r1=>⟨x,c1,rfl,e1,El,n1,r1,by rw[e2];exact h1⟩⟩) ?_;rintro v s1 ⟨vx,H1,I1,rv,x,c1,rfl,e1,El,n1,r1,h1⟩;rw[ag]at h1;refine Ej (hb pins s1 c0.σ c1.H (λvy H2=>∃y c2,c2.H=H2/\Lo C c0 c2 x y vx vy/\W (k x y) c2.st Em) I1 ⟨c1,e1,rfl,El,h1.mono λy st2 h2 c2 vy e3 e4 EH n2 r2=>?_⟩) ?_
 ·rw[ag,b_]at h2;subst e4;rw[fz]at h2;exact⟨y,c2,rfl,⟨e3,EH,n1.trans n2,(r1.w.on El n2 (e3.trans e1.symm)).t h2.1.1,(r2.from n1),m8 r1.w r2.w⟩,h2.2⟩
 ·rintro u s2 ⟨vy,H2,I2,ru,y,c2,rfl,at2,h2⟩;have hs:c2.σ=c0.σ:=at2.hσ;exact hf x y c2 vx vy v u s2 at2 (by rw[hs];exact I2) rv ru h2
structure Lp(C:Ct)(c0 c:Cf)(x:Kd×U)(vx:V):Prop where
 hσ:c.σ=c0.σ
 ok:Ok C c
 nx:Nx c0 c
 rx:aI C c0 c x.1 x.2 vx
theorem one{k:Kd×U->M β}{Em:β->aq->Prop}{f:UT->Sem α}{Q':α->U1->Prop}(ha:PE X a (Ek C ma))(I:Inv X pins c0.σ c0.H s)(ok:Ok C c0)
  (h:W (ma >>= λx=>k x) c0.st Em)
  (hf:∀x c vx v s2,Lp C c0 c x vx->Inv X pins c.σ c.H s2->RelV vx v->W (k x) c.st Em->UU (U6 X.prog X.w) X.A (f v) Q' X.xe s2) :
  UU (U6 X.prog X.w) X.A (Wo a X.env) (λv s₁=>UU (U6 X.prog X.w) X.A (f v) Q' X.xe s₁) X.xe s:=by
 rw[ag]at h;refine Ej (ha pins s c0.σ c0.H (λvx H1=>∃x c1,c1.H=H1/\Lp C c0 c1 x vx/\W (k x) c1.st Em) I ⟨c0,rfl,rfl,ok,h.mono λx st1 h1 c1 vx e1 e2 El n1 r1=>⟨x,c1,rfl,⟨e1,El,n1,r1⟩,by rw[e2];exact h1⟩⟩) ?_;rintro v s1 ⟨vx,H1,I1,rv,x,c1,rfl,Qj,h1⟩;exact hf x c1 vx v s1 Qj (by rw[Qj.hσ];exact I1) rv h1
def bZ(C:Ct)(c0:Cf)(Q:VK)(r:Kd×U)(st':aq):Prop:=∀c v,c.σ=c0.σ->c.st=st'->Ok C c->Nx c0 c->aI C c0 c r.1 r.2 v->Q v c.H
section
theorem bZ.flat(h:bZ C c0 Q (.loc,u) c.st)(hσ:c.σ=c0.σ)(ok:Ok C c)(n:Nx c0 c)(r:Rep C c.S c.H u v):Q v c.H:=h c v hσ rfl ok n r
theorem bZ.list(h:bZ C c0 Q (.own,.lst us) c.st)(hσ:c.σ=c0.σ)(ok:Ok C c)(n:Nx c0 c)(r:aj C c.S c.H us vs)(p:U8)(hp:c.H p=UK):Q (.ref p) (upd c.H p (.lst vs)):=by
 obtain⟨Er,n',r'⟩:=ok.newList n hp r;exact h {c with H:=upd c.H p (.lst vs)} _ hσ rfl Er n' r'
theorem bZ.tup(h:bZ C c0 Q (.loc,.tup us) c.st)(hσ:c.σ=c0.σ)(ok:Ok C c)(n:Nx c0 c)(r:aj C c.S c.H us vs)(p:U8)(hp:c.H p=UK):Q (.ref p) (upd c.H p (.tup vs)):=by
 obtain⟨Er,n',r'⟩:=ok.A8 n hp r;exact h {c with H:=upd c.H p (.tup vs)} _ hσ rfl Er n' r'
theorem bZ.tupK(h:bZ C c0 Q (kE k,.tup us) c.st)(hσ:c.σ=c0.σ)(ok:Ok C c)(n:Nx c0 c)(r:aj C (SK C c k) c.H us vs)(p:U8)(hp:c.H p=UK):Q (.ref p) (upd c.H p (.tup vs)):=by
 obtain⟨Er,n'⟩:=ok.lay (o:=.tup vs) hp;refine h {c with H:=upd c.H p (.tup vs)} _ hσ rfl Er (n.trans n') (aI.item ?_);cases k<;>exact⟨p,vs,rfl,EC.of au,by first|exact r.mv (ok.HM n')|exact r.mv (ok.mv n')⟩
theorem fc(h:jn k us=UN)(r:aj C (SK C c k) c.H us vs):aj C c.S c.H us vs:=by
 cases k with
 |any=>exact r.EL (by simpa[jn,isAny] using h)
 |_=>exact r
end
theorem v8(k k':Kd):∀a,SK C c k a->SK C c (kT k k') a:=by
 intro a h;cases k<;>cases k'<;>first|exact h|exact .inr h
theorem rY(k k':Kd):∀a,SK C c k' a->SK C c (kT k k') a:=by
 intro a h;cases k<;>cases k'<;>first|exact h|exact .inr h
theorem zP(k k':Kd):kE (kT k k')=kT k k':=by cases k<;>cases k'<;>rfl
theorem yI:FP X (XA .Add) (λx y H Q=>∃l b xs zs,x=.ref l/\y=.ref b/\EN X.K H l xs/\EN X.K H b zs/\xs.length+zs.length<=US/\∀p,H p=UK->Q (.ref p) (upd H p (.lst (xs++zs)))):=by
 intro pins s σ H x y v u Q I rx ry h;obtain⟨l,b,xs,zs,rfl,rfl,hH,hB,hz,q⟩:=h;cases rx;cases ry;obtain⟨A',r,pl,z⟩:=I.list hH;obtain⟨Ew,r2,Su,z2⟩:=I.list hB;have hl:=r.length;have GA:=r2.length;obtain⟨⟨cls,dd,data,sl⟩,ho,hc,n,hd⟩:=pl.isList;obtain⟨⟨Ku,JU,data2,Iq⟩,Ga,Ir,n2,hd2⟩:=Su.isList;simp only at hc hd Ir hd2;subst hc hd Ir hd2;refine Ç ⟨_,ho,rfl⟩ ⟨_,Ga,rfl⟩ noFill_list_add seq_list_add PySem.F.slot_list_add PySem.F.entry_list_add (PySem.F.args_list_add_2 _ _)
   (list_addW l b A'.toArray Ew.toArray n n2 dd JU sl Iq (by rw[U9,U9];omega)) ⟨ho,Ga,?_⟩
 have ea:A'.toArray++Ew.toArray=(A'++Ew).toArray:=by simp
 rw[ea];exact⟨.ref _,_,I.DV (t':=s.toks) (r.append r2) (by rw[U'];omega),rfl,q _ I.fresh⟩
end
section
variable{X:Cx}{C:Ct}{pins:List (U8×Obj)}{s:U1}{c0 c:Cf}{Q:VK}
theorem v9:FP X (XA .Add) (λx y H Q=>∃a b ys,x=.ref a/\y=.ref b/\EC X.K H a []/\EC X.K H b ys/\Q (.ref b) H):=by
 intro pins s σ H x y v u Q I rx ry h;obtain⟨a,b,ys,rfl,rfl,ha,hb,q⟩:=h;cases rx;cases ry;obtain⟨A',r1,p1,_⟩:=I.tuple ha;obtain⟨Ew,r2,p2,_⟩:=I.tuple hb;cases r1;obtain⟨⟨cls,dd,data,sl⟩,ho,hc,n,hd⟩:=id p1;obtain⟨⟨Ku,JU,data2,Iq⟩,Ga,Ir,n2,hd2⟩:=id p2;simp only at hc hd Ir hd2;subst hc hd Ir hd2;exact Ç ⟨_,ho,rfl⟩ ⟨_,Ga,rfl⟩ Õ ċ PySem.F.slot_tuple_add PySem.F.entry_tuple_add (PySem.F.args_tuple_add_2 _ _)
   (tuple_addW0 a b _ Ew.toArray n n2 dd JU sl Iq (by rfl)) ⟨ho,Ga,.ref b,H,I,rfl,q⟩
noncomputable def Mx.op:Mx->Ρ
 |.add=>.Add|.sub=>.Sub|.mul=>.Mult|.FZ=>.FloorDiv|.mod=>.Mod|.pow=>.Pow
theorem dQ(h:qv f a b=UI r):∃i j o,a=.int i/\b=.int j/\f i j=UI o/\r=(.loc,.int o):=by
 unfold qv at h;split at h
 ·rw[U3]at h;obtain⟨o,e,rfl⟩:=h;exact⟨_,_,o,rfl,rfl,e,rfl⟩
 ·cases h
theorem Bi(hK:C.K=X.K)(t:Lo C c0 c x y vx vy)(I:Inv X pins c.σ c.H s)(rx:RelV vx v)(ry:RelV vy u)(h:Gb op x y=UI r)(q:bZ C c0 Q r c.st):
  UU (U6 X.prog X.w) X.A (XA op.op v u) (EP X pins c.σ Q) X.xe s:=by
 obtain⟨hσ,ok,n,tx,ty,_⟩:=t;cases op with
 |add =>
  have h:ub x y=UI r:=h;unfold ub at h;split at h
  ·have ex:=tx.int ok;have ey:=ty.int ok;cases h;exact fZ pins s c.σ c.H vx vy v u Q I rx ry ⟨_,_,ex,ey,q.flat hσ ok n rfl⟩
  ·have ex:=tx.str ok;have ey:=ty.str ok;split at h
   ·cases h;exact qb pins s c.σ c.H vx vy v u Q I rx ry ⟨_,_,ex,ey,by assumption,q.flat hσ ok n rfl⟩
   ·cases h
  ·obtain⟨a,vs,ex,h1,h2⟩:=tx.list ok;obtain⟨b,ws,ey,h3,h4⟩:=ty.list ok;split at h
   ·rename_i hh;cases h;exact yI pins s c.σ c.H vx vy v u Q I rx ry ⟨a,b,vs,ws,ex,ey,hK▸h1,hK▸h3,by rw[<-h2.len,<-h4.len];exact hh.1,λp hp=>q.list hσ ok n ((fc hh.2.1 h2).append (fc hh.2.2 h4)) p hp⟩
   ·cases h
  ·rename_i k xs k' ys _ _;obtain⟨a,vs,ex,h1,h2⟩:=tx.tuple ok;obtain⟨b,ws,ey,h3,h4⟩:=ty.tuple ok;have GS:=h1;have JV:=h3;rw[hK]at GS JV;split at h
   ·rename_i hh;cases h;have m1:aj C (SK C c (kT k k')) c.H xs vs:=h2.mv (.up (v8 k k'));have m2:aj C (SK C c (kT k k')) c.H ys ws:=h4.mv (.up (rY k k'));have q':bZ C c0 Q (kE (kT k k'),.tup (xs++ys)) c.st:=by rw[zP];exact q
    by_cases e1:vs=[]
    ·subst e1;refine v9 pins s c.σ c.H vx vy v u Q I rx ry ⟨a,b,ws,ex,ey,GS,JV,?_⟩;refine q' c (.ref b) hσ rfl ok n (aI.item ⟨b,ws,rfl,h3,?_⟩);have:xs=[]:=by have:=m1.len;simpa using this
     rw[this];exact m2
    ·refine x_ pins s c.σ c.H vx vy v u Q I rx ry ⟨a,b,vs,ws,ex,ey,GS,JV,e1,by rw[<-h2.len,<-h4.len];exact hh,λe2=>?_,λ_ p hp=>q'.tupK hσ ok n (m1.append m2) p hp⟩;subst e2;refine q' c (.ref a) hσ rfl ok n (aI.item ⟨a,vs,rfl,h1,?_⟩);have:ys=[]:=by have:=m2.len;simpa using this
     rw[this,V1];exact m1
   ·cases h
  ·cases h
 |sub =>
  obtain⟨i,j,o,ex,ey,eo,rfl⟩:=dQ h;have ex:=(ex▸tx).int ok;have ey:=(ey▸ty).int ok;cases eo;exact p_ pins s c.σ c.H vx vy v u Q I rx ry ⟨_,_,ex,ey,q.flat hσ ok n rfl⟩
 |mul =>
  obtain⟨i,j,o,ex,ey,eo,rfl⟩:=dQ h;have ex:=(ex▸tx).int ok;have ey:=(ey▸ty).int ok;unfold yA at eo;split at eo
  ·cases eo;exact mD pins s c.σ c.H vx vy v u Q I rx ry ⟨_,_,ex,ey,by assumption,q.flat hσ ok n rfl⟩
  ·cases eo
 |FZ =>
  obtain⟨i,j,o,ex,ey,eo,rfl⟩:=dQ h;have ex:=(ex▸tx).int ok;have ey:=(ey▸ty).int ok;unfold yB at eo;split at eo
  ·cases eo;exact xX pins s c.σ c.H vx vy v u Q I rx ry ⟨_,_,ex,ey,by assumption,q.flat hσ ok n rfl⟩
  ·cases eo
 |mod =>
  obtain⟨i,j,o,ex,ey,eo,rfl⟩:=dQ h;have ex:=(ex▸tx).int ok;have ey:=(ey▸ty).int ok;unfold yC at eo;split at eo
  ·cases eo;exact bS pins s c.σ c.H vx vy v u Q I rx ry ⟨_,_,ex,ey,by assumption,q.flat hσ ok n rfl⟩
  ·cases eo
 |pow =>
  obtain⟨i,j,o,ex,ey,eo,rfl⟩:=dQ h;have ex:=(ex▸tx).int ok;have ey:=(ey▸ty).int ok;unfold yD at eo;split at eo
  ·cases eo;exact mE pins s c.σ c.H vx vy v u Q I rx ry ⟨_,_,ex,ey,by assumption,q.flat hσ ok n rfl⟩
  ·cases eo
theorem yJ(hK:C.K=X.K)(ha:PE X a (Ek C ma))(hb:PE X b (Ek C mb)):PE X (.BinOp a op.op b pos) (Ek C (ma >>= λx=>mb >>= λy=>aA [x,y] >>= λ_=>M.Eu (Gb op x y))):=by
 rintro pins s σ H Q I ⟨c0,rfl,rfl,ok,h⟩;refine wpAny_BinOp (two ha hb I ok h λx y c vx vy v u s2 t I2 rx ry w=>?_);obtain⟨r,e,q⟩:=cp.mp w;exact Ej (Bi hK t I2 rx ry e q) λ_ _ z=>by rw[t.hσ]at z;exact z
noncomputable def Lm.op:Lm->CmpOp
 |.eq=>.Eq|.ne=>.NotEq|.lt=>.Lt|.le=>.LtE|.gt=>.Gt|.ge=>.GtE|.isin=>.In|.Eh=>.NotIn|.is=>.Is|.Of=>.IsNot
theorem CM{neg:Bool}(I:Inv X pins c.σ c.H s)(hK:C.K=X.K)(hu:X.A.units+60<Wa){S:U8->Prop}(hx:Rep C S c.H x vx)(rx:RelV vx v)(hy:aj C S c.H ys vs)
  (ha:EN C.K c.H a vs\/EC C.K c.H a vs) (e1:FA 50 x=UN) (e2:cX 50 ys=UN) {Q:UT->U1->Prop} (q:Q (.bool (if neg then !(ys.any λy=>bU y x) else ys.any λy=>bU y x)) s) :
  UU (U6 X.prog X.w) X.A (Xr (if neg then .NotIn else .In) v (.ref a)) Q X.xe s:=by
 have sx:=ER.of I hK 50 x vx v e1 hx rx;have go:∀A':List UT,Vals vs A'->∃e:UT->Bool,(∀y,y∈A'.toArray->YO X.A.in1 s y v (e y))/\A'.toArray.any e=ys.any λy=>bU y x:=by
  intro A' rv;obtain⟨l,k⟩:=ER.yH (ER.of I hK 50) e2 hy rv
  classical
  have q:∀j (hj:j<A'.length),UP (∃w,ER s 50 w A'[j]/\bU w x=UN)=bU (ys.getD j .Es) x:=λj hj=>by
   rw[VR,decide_eq_true_iff];exact⟨λ⟨w,h1,h2⟩=>by rw[<-h1.inj (k j hj)];exact h2,λh=>⟨_,k j hj,h⟩⟩
  refine⟨λy=>UP (∃w,ER s 50 w y/\bU w x=UN),λy FR=>?_,?_⟩
  ·obtain⟨j,hj,e⟩:=Yk (show y∈A' by simpa using FR);subst e;show YO _ _ _ _ (decide _);rw[q j hj];exact CK (k j hj) sx (by show X.A.units+1+50 < _;omega)
  ·rw[VR];simp only[List.any_toArray,YN];constructor
   ·rintro⟨y,Jw,h⟩;obtain⟨j,hj,rfl⟩:=Yk Jw;rw[q j hj]at h;exact⟨_,Xv (l▸hj),by simpa[l▸hj] using h⟩
   ·rintro⟨w,hw,h3⟩;obtain⟨j,hj,rfl⟩:=Yk hw;exact⟨_,Xv (l▸hj),by rw[q j (l▸hj)];simpa[hj] using h3⟩
 rcases ha with ha|ha
 ·obtain⟨A',rv,p,_⟩:=rW I (hK▸ha);obtain⟨e,h1,h2⟩:=go A' rv;cases neg with
  |false=>exact SeqAt.in_listAt e p h1 (by rw[h2];exact q)
  |true=>exact SeqAt.notIn_listAt e p h1 (by rw[h2];exact q)
 ·rw[hK]at ha;obtain⟨A',rv,p,_⟩:=I.tuple ha;obtain⟨e,h1,h2⟩:=go A' rv;cases neg with
  |false=>exact SeqAt.in_tupleAt e p h1 (by rw[h2];exact q)
  |true=>exact SeqAt.notIn_tupleAt e p h1 (by rw[h2];exact q)
end
section
theorem bV:∀{us:List U}{ss:List Str},strsOf us=UI ss->us=ss.map .str
 |[],ss,h=>by cases h;rfl
 |.str x::us,ss,h=>by
  simp only[strsOf,U3]at h;obtain⟨t,h1,rfl⟩:=h;rw[bV h1];rfl
 |.Es::_,_,h=>by cases h
 |.bl _::_,_,h=>by cases h
 |.int _::_,_,h=>by cases h
 |.tup _::_,_,h=>by cases h
 |.lst _::_,_,h=>by cases h
 |.Ee _ _::_,_,h=>by cases h
 |.Fc _::_,_,h=>by cases h
theorem i_:∀{us:List U}{ns:List Int},intsOf us=UI ns->us=ns.map .int
 |[],ns,h=>by cases h;rfl
 |u::us,ns,h=>by
  cases u<;>first|(cases h;done)|skip
  rename_i x;have h':(intsOf us).map (x::·)=UI ns:=h;rw[U3]at h';obtain⟨ms,e,rfl⟩:=h';rw[i_ e];rfl
theorem aj.ints{S:U8->Prop}:∀{ns:List Int}{vs:List V},aj C S H (ns.map .int) vs->vs=ns.map V.int
 |[],vs,h=>h
 |n::ns,vs,h=>by
  obtain⟨v,r,rfl,h1,h2⟩:=h;rw[aj.ints h2];have:v=.int n:=h1;rw[this];rfl
theorem gx:∀{us:List U}{ss:List Bool},eZ us=UI ss->us=ss.map .bl
 |[],ss,h=>by cases h;rfl
 |.bl x::us,ss,h=>by
  simp only[eZ,U3]at h;obtain⟨t,h1,rfl⟩:=h;rw[gx h1];rfl
 |.Es::_,_,h=>by cases h
 |.str _::_,_,h=>by cases h
 |.int _::_,_,h=>by cases h
 |.tup _::_,_,h=>by cases h
 |.lst _::_,_,h=>by cases h
 |.Ee _ _::_,_,h=>by cases h
 |.Fc _::_,_,h=>by cases h
theorem aj.Oi{S:U8->Prop}:∀{xs:List Bool}{vs:List V},aj C S H (xs.map .bl) vs->vs=xs.map V.bl
 |[],vs,h=>h
 |x::xs,vs,h=>by
  obtain⟨v,r,rfl,h1,h2⟩:=h;rw[aj.Oi h2];have:v=.bl x:=h1;rw[this];rfl
noncomputable def CN(r:lh):U:=.tup [.str r.1,.tup (r.2.map .str)]
theorem kh(h:rowOf u=UI r):u=CN r:=by
 unfold rowOf at h;split at h
 ·rw[U3]at h;obtain⟨ss,h1,rfl⟩:=h;rw[bV h1];rfl
 ·cases h
def Bj(X:Cx)(pins:List (U8×Obj))(c:Cf)(b:Bool)(v:UT)(s':U1):Prop:=v=.bool b/\Inv X pins c.σ c.H s'
theorem gV(o:FP X f r)(I:Inv X pins c.σ c.H s)(rx:RelV vx v)(ry:RelV vy u)(h:r vx vy c.H λx H'=>x=.bl b/\H'=c.H):
  UU (U6 X.prog X.w) X.A (f v u) (Bj X pins c b) X.xe s :=
 Ej (o pins s c.σ c.H vx vy v u _ I rx ry h) λw s' Ey=>by
  obtain⟨z,H',I',r,e1,e2⟩:=Ey;subst e1 e2;exact⟨r,I'⟩
theorem aI.dict(ok:Ok C c)(h:aI C c0 c k (.Ee ks us) v):∃a kvs,v=.ref a/\c.H a=UI (.dK kvs)/\kvs.map (·.1)=ks.map Vs/\aj C (SK C c k) c.H us (kvs.map (·.2)):=by
 cases k with
 |own=>obtain⟨r,e,_,_,_,kvs,h1,h2,h3⟩:=h;exact⟨r,kvs,e,h1,h2,h3⟩
 |bor j=>obtain⟨r,e,_,_,_,kvs,h1,h2,h3⟩:=ok.rootOf h.1 h.2;exact⟨r,kvs,e,h1,h2,h3⟩
 |io=>exact h.elim
 |Eb=>exact h.elim
 |_=>obtain⟨a,e,_,kvs,h1,h2,h3⟩:=h;exact⟨a,kvs,e,h1,h2,h3⟩
theorem aI.rU(ok:Ok C c)(h:aI C c0 c k (.Fc ks) v):∃a,v=.ref a/\eL C.P C.w C.K c.H a ks:=by
 cases k with
 |own=>obtain⟨r,e,_,_,_,h⟩:=h;exact⟨r,e,h⟩
 |bor j=>obtain⟨r,e,_,_,_,h⟩:=ok.rootOf h.1 h.2;exact⟨r,e,h⟩
 |io=>exact h.elim
 |Eb=>exact h.elim
 |_=>obtain⟨a,e,_,h⟩:=h;exact⟨a,e,h⟩
theorem c8{S:U8->Prop}:∀{ks:List Str}{us:List U}{kvs:List (Key×V)},kvs.map (·.1)=ks.map Vs->aj C S H us (kvs.map (·.2)) ->
  (∀u,cY ks us x=UI u->∃v,cW kvs (Vs x)=UI v/\Rep C S H u v)/\(cW kvs (Vs x)).isSome=UP (x∈ks)
 |[],us,kvs,h1,h2=>by
  have:kvs=[]:=by simpa using h1
  subst this;exact⟨λu h=>by cases us<;>simp[cY]at h,by simp[cW]⟩
 |k::ks,us,[],h1,h2=>by simp at h1
 |k::ks,[],p::kvs,h1,h2=>by simp[aj]at h2
 |k::ks,u0::us,p::kvs,h1,h2=>by
  obtain⟨v,r,e,h3,h4⟩:=h2;rw[U7]at e;cases e;rw[U7,U7,X4]at h1;obtain⟨i1,i2⟩:=c8 (x:=x) h1.2 h4;by_cases hk:k=x
  ·subst hk;refine⟨λu h=>?_,?_⟩
   ·simp[cY]at h;subst h;exact⟨p.2,dJ h1.1,h3⟩
   ·rw[dJ h1.1];simp
  ·have hp:¬p.1=Vs x:=by rw[h1.1];intro z;exact hk (ZH z)
   refine⟨λu h=>?_,?_⟩
   ·simp[cY,hk]at h;obtain⟨v,e,q⟩:=i1 u h;exact⟨v,by rw[dM hp];exact e,q⟩
   ·rw[dM hp,i2];simp[VP hk]
theorem Bk(hu:X.A.units+3<Wa):FP X (Xr .In) (λx y H Q=>∃k d ks,eR X.K H x k/\y=.ref d/\eL X.prog X.w X.K H d ks/\Q (.bl (UP (k∈ks))) H):=by
 intro pins s σ H x y v u Q I rx ry h;obtain⟨k,d,ks,⟨a,b,rfl,h1,h2⟩,rfl,⟨xs,h3,h4,h5⟩,q⟩:=h;cases rx;cases ry;obtain⟨hd,dd⟩:=jS I h3 h5;refine wpAny_in_heap hu (js I ⟨a,b,rfl,h1,h2⟩) hd dd ?_;exact⟨.bl (UP (k∈ks)),H,I.tok _,by rw[f_,h4];rfl,q⟩
theorem Rep.row{S:U8->Prop}(h:Rep C S H (CN r) v):eR C.K H v r:=by
 obtain⟨a,vs,e,h1,v1,r1,e1,h2,v2,r2,e2,h3,h4⟩:=h;cases h4;have e3:v1=.str r.1:=h2;obtain⟨b,ws,e4,h5,h6⟩:=h3;rw[aj.strs]at h6;subst e1 e2 e3 e4 h6;exact⟨a,b,e,h1,h5⟩
theorem v_(hP:C.P=X.prog)(hw:C.w=X.w)(hK:C.K=X.K)(hu:X.A.units+60<Wa)(t:Lo C c0 c x y vx vy)(I:Inv X pins c.σ c.H s)(rx:RelV vx v)(ry:RelV vy u)(h:bo op x.2 y.2=UI b):
  UU (U6 X.prog X.w) X.A (Xr op.op v u) (Bj X pins c b) X.xe s:=by
 obtain⟨hσ,ok,n,tx,ty,_⟩:=t;obtain⟨kx,ux⟩:=x;obtain⟨ky,uy⟩:=y
 dsimp only at h tx ty
 have has:∀neg:Bool,∀b',uc ux uy=UI b'->UU (U6 X.prog X.w) X.A (Xr (if neg then .NotIn else .In) v u) (Bj X pins c (if neg then !b' else b')) X.xe s:=by
  intro neg b' h;have mx:=tx.read ok;have my:=ty.read ok;unfold uc at h;split at h
  ·obtain⟨a,vs,rfl,h1,h2⟩:=my;cases ry;unfold Ig at h;split at h
   ·rename_i hh;cases h;exact CM I hK hu mx rx h2 (.inl h1.sq) hh.1 hh.2 ⟨by cases neg<;>rfl,I⟩
   ·cases h
  ·obtain⟨a,vs,rfl,h1,h2⟩:=my;cases ry;unfold Ig at h;split at h
   ·rename_i hh;cases h;exact CM I hK hu mx rx h2 (.inr h1) hh.1 hh.2 ⟨by cases neg<;>rfl,I⟩
   ·cases h
  ·cases h;have ex:vx=_:=mx;obtain⟨a,kvs,rfl,h1,h2,h3⟩:=ty.dict ok;cases ry;subst ex;have hs:=λz:Str=>(c8 (x:=z) h2 h3).2;cases neg with
   |false=>exact CF ⋯ I (dF.k (k:=Vs _) h1) rx λs' I'=>⟨by rw[hs];rfl,I'⟩
   |true=>exact rD ⋯ I (dF.k (k:=Vs _) h1) rx λs' I'=>⟨by rw[hs];rfl,I'⟩
  ·rw[U3]at h;obtain⟨r,h1,h2⟩:=h;have e:=kh h1;subst e;have hr:=mx.row;obtain⟨a,ea,h3⟩:=ty.rU ok;rw[hK]at hr h3;rw[hP,hw]at h3;subst h2;cases neg with
   |false=>exact gV (Bk ⋯) I rx ry ⟨r,a,_,hr,ea,h3,rfl,rfl⟩
   |true=>exact gV (tQ ⋯) I rx ry ⟨r,a,_,hr,ea,h3,rfl,rfl⟩
  ·cases h
 unfold bo at h;split at h
 ·split at h
  ·rename_i hh;cases h;exact(CL (n:=50) (.of I hK _ _ _ _ hh.1 (tx.read ok) rx) (.of I hK _ _ _ _ hh.2 (ty.read ok) ry) ⋯).1 _ _ _ _ ⟨rfl,I⟩
  ·cases h
 ·split at h
  ·rename_i hh;cases h;exact(CL (n:=50) (.of I hK _ _ _ _ hh.1 (tx.read ok) rx) (.of I hK _ _ _ _ hh.2 (ty.read ok) ry) ⋯).2 _ _ _ _ ⟨rfl,I⟩
  ·cases h
 ·cases h;exact gV Co I rx ry ⟨_,_,tx.int ok,ty.int ok,rfl,rfl⟩
 ·cases h;exact gV Cp I rx ry ⟨_,_,tx.int ok,ty.int ok,rfl,rfl⟩
 ·cases h;exact gV Cq I rx ry ⟨_,_,tx.int ok,ty.int ok,rfl,rfl⟩
 ·exact has UO b h
 ·rw[U3]at h;obtain⟨b',h1,rfl⟩:=h;exact has UN b' h1
 ·cases h
theorem yK(hP:C.P=X.prog)(hw:C.w=X.w)(hK:C.K=X.K)(hu:X.A.units+60<Wa)(ha:PE X a (Ek C ma))(hb:PE X b (Ek C mb))(hm:Xs op.op b=UO):
  PE X (.Compare a [op.op] [b] pos) (Ek C (ma >>= λx=>mb >>= λy=>aA [x,y] >>= λ_=>M.Eu (bo op x.2 y.2) >>= λc=>pure (.loc,.bl c))):=by
 rintro pins s σ H Q I ⟨c0,rfl,rfl,ok,h⟩;refine Θ (two ha hb I ok h λx y c vx vy v u s2 t I2 rx ry w=>?_) hm;rw[ag]at w;obtain⟨r,e,q⟩:=cp.mp w;rw[ai]at q;refine Ej (v_ hP hw hK hu t I2 rx ry e) λz s' ⟨e,I'⟩=>?_;subst e;exact⟨.bl r,c.H,by rw[<-t.hσ];exact I',rfl,q c (.bl r) t.hσ rfl t.ok t.nx rfl⟩
theorem yL(hP:C.P=X.prog)(hw:C.w=X.w)(hK:C.K=X.K)(hu:X.A.units+60<Wa)(ha:PE X a (Ek C ma))(hb:PE X b (Ek C mb))(hm:Xs op.op b=UO):
  PT X (.Compare a [op.op] [b] pos) (Fq C (ma >>= λx=>mb >>= λy=>aA [x,y] >>= λ_=>M.Eu (bo op x.2 y.2))):=by
 rintro pins s σ H Q I ⟨c0,rfl,rfl,ok,h⟩;refine ĳ (two (f:=λv u=>Xr op.op v u) (Q':=λ_ _ c s=>UU (U6 X.prog X.w) X.A (ő c) (TP X pins c0.σ Q) X.xe s) ha hb I ok h λx y c vx vy v u s2 t I2 rx ry w=>?_) hm;obtain⟨r,e,q⟩:=cp.mp w;refine Ej (v_ hP hw hK hu t I2 rx ry e) λz s' ⟨e,I'⟩=>?_;subst e;exact Wc ⟨c.H,by rw[<-t.hσ];exact I',q c t.hσ rfl t.ok t.nx⟩
end
section
def CO(C:Ct)(c0:Cf)(Q:Bool->Hp->Prop)(b:Bool)(st':aq):Prop:=∀c,c.σ=c0.σ->c.st=st'->Ok C c->Nx c0 c->Q b c.H
theorem wa(hσ:c1.σ=c0.σ)(ok:Ok C c1)(n:Nx c0 c1)(h:W m c1.st (bZ C c0 Q)):Ek C m c0.σ c1.H Q :=
 ⟨c1,hσ,rfl,ok,h.mono λr st h2 c2 v e3 e4 EH n2 r2=>h2 c2 v e3 e4 EH (n.trans n2) (r2.from n)⟩
theorem wb(hσ:c1.σ=c0.σ)(ok:Ok C c1)(n:Nx c0 c1)(h:W m c1.st (CO C c0 Q)):Fq C m c0.σ c1.H Q :=
 ⟨c1,hσ,rfl,ok,h.mono λr st h2 c2 e3 e4 EH n2=>h2 c2 e3 e4 EH (n.trans n2)⟩
theorem aN(ok:Ok C c0)(h:W (ma >>= k) c0.st Em)
  (hz:∀x c v,Lp C c0 c x v->W (k x) c.st Em->Z v c.H):Ek C ma c0.σ c0.H Z:=by
 rw[ag]at h;exact⟨c0,rfl,rfl,ok,h.mono λx st1 h1 c1 vx e1 e2 El n1 r1=>hz x c1 vx ⟨e1,El,n1,r1⟩ (by rw[e2];exact h1)⟩
theorem fe(ok:Ok C c0)(h:W (ta >>= k) c0.st Em)
  (hz:∀b c,c.σ=c0.σ->Ok C c->Nx c0 c->W (k b) c.st Em->Z b c.H):Fq C ta c0.σ c0.H Z:=by
 rw[ag]at h;exact⟨c0,rfl,rfl,ok,h.mono λx st1 h1 c1 e1 e2 El n1=>hz x c1 e1 El n1 (by rw[e2];exact h1)⟩
noncomputable def CP(m:M (Kd×U))(x:Kd×U):M (Kd×U):=match x.2 with
 |.bl UN=>m
 |.bl UO=>pure (.loc,.bl UO)
 |_=>M.fail
noncomputable def Qk(m:M (Kd×U))(x:Kd×U):M (Kd×U):=match x.2 with
 |.bl UN=>pure (.loc,.bl UN)
 |.bl UO=>m
 |_=>M.fail
noncomputable def CQ(x:Kd×U):M (Kd×U):=match x.2 with
 |.bl c=>pure (.loc,.bl !c)
 |_=>M.fail
theorem snd_and(ha:PE X a (Ek C ma))(hb:PE X (.BoolOp .And (b::rest) pos) (Ek C mb)):PE X (.BoolOp .And (a::b::rest) pos) (Ek C (ma >>= CP mb)):=by
 refine PE.weak (Ar ha hb) ?_;rintro σ H Q ⟨c0,rfl,rfl,ok,h⟩;refine aN ok h λx c v t w=>?_;obtain⟨k,u⟩:=x;obtain⟨hσ,El,n,r⟩:=t;unfold CP at w;split at w
 ·rename_i e
  dsimp only at e r
  subst e;exact⟨UN,r.bl El,by rw[δ rfl];exact wa hσ El n w⟩
 ·rename_i e
  dsimp only at e r
  subst e;rw[ai]at w;exact⟨UO,r.bl El,by rw[ε Vw];exact w c (.bl UO) hσ rfl El n rfl⟩
 ·exact(aC.mp w).elim
theorem Bl(ha:PE X a (Ek C ma))(hb:PE X (.BoolOp .Or (b::rest) pos) (Ek C mb)):PE X (.BoolOp .Or (a::b::rest) pos) (Ek C (ma >>= Qk mb)):=by
 refine PE.weak (B_ ha hb) ?_;rintro σ H Q ⟨c0,rfl,rfl,ok,h⟩;refine aN ok h λx c v t w=>?_;obtain⟨k,u⟩:=x;obtain⟨hσ,El,n,r⟩:=t;unfold Qk at w;split at w
 ·rename_i e
  dsimp only at e r
  subst e;rw[ai]at w;exact⟨UN,r.bl El,by rw[δ rfl];exact w c (.bl UN) hσ rfl El n rfl⟩
 ·rename_i e
  dsimp only at e r
  subst e;exact⟨UO,r.bl El,by rw[ε Vw];exact wa hσ El n w⟩
 ·exact(aC.mp w).elim
theorem yM(ha:PE X a (Ek C ma)):PE X (.UnaryOp .Not a pos) (Ek C (ma >>= CQ)):=by
 refine PE.weak (As ha) ?_;rintro σ H Q ⟨c0,rfl,rfl,ok,h⟩;refine aN ok h λx c v t w=>?_;obtain⟨k,u⟩:=x;obtain⟨hσ,El,n,r⟩:=t;unfold CQ at w;split at w
 ·rename_i e
  dsimp only at e r
  subst e;rw[ai]at w;exact⟨_,r.bl El,w c (.bl _) hσ rfl El n rfl⟩
 ·exact(aC.mp w).elim
theorem yN(ha:PT X a (Fq C ta)):PT X (.UnaryOp .Not a pos) (Fq C (ta >>= λb=>pure !b)):=by
 refine PT.weak (Aq ha) ?_;rintro σ H Q ⟨c0,rfl,rfl,ok,h⟩;refine fe ok h λp c hσ El n w=>?_;rw[ai]at w;exact w c hσ rfl El n
theorem yO(ha:PT X a (Fq C ta))(hb:PW X (.BoolOp .And (b::rest) pos) (Fq C tb)):PW X (.BoolOp .And (a::b::rest) pos) (Fq C (ta >>= λp=>if p=UN then tb else pure UO)):=by
 have h0:=Ap ha hb;rintro wh pins s σ H Q I ⟨c0,rfl,rfl,ok,h⟩;refine h0 wh pins s c0.σ c0.H Q I (fe ok h λp c hσ El n w=>?_);cases p with
 |true=>rw[δ rfl]at w ⊢;exact wb hσ El n w
 |false=>rw[ε Vw]at w ⊢;rw[ai]at w;exact w c hσ rfl El n
theorem Bm(ha:PT X a (Fq C ta))(hb:PW X (.BoolOp .Or (b::rest) pos) (Fq C tb)):PW X (.BoolOp .Or (a::b::rest) pos) (Fq C (ta >>= λp=>if p=UN then pure UN else tb)):=by
 have h0:=B7 ha hb;rintro wh pins s σ H Q I ⟨c0,rfl,rfl,ok,h⟩;refine h0 wh pins s c0.σ c0.H Q I (fe ok h λp c hσ El n w=>?_);cases p with
 |true=>rw[δ rfl]at w ⊢;rw[ai]at w;exact w c hσ rfl El n
 |false=>rw[ε Vw]at w ⊢;exact wb hσ El n w
theorem rZ{us:List α}{vs:List β}(h:us.length=vs.length):(!us.isEmpty)=!vs.isEmpty:=by
 cases us<;>cases vs<;>simp_all
theorem d7(ha:PE X a (Ek C ma))(hK:C.K=X.K)(he:∀whole,isTrue a X.env whole=(do let v <-whole;Á a.pos;WT [v] (ő v))):PT X a (Fq C (ma >>= λx=>M.Eu (lu x.2))):=by
 refine PT.weak (vc ha he) ?_;rintro σ H Q ⟨c0,rfl,rfl,ok,h⟩;refine aN ok h λx c v t w=>?_;obtain⟨k,u⟩:=x;obtain⟨hσ,El,n,r⟩:=t;obtain⟨p,e,q⟩:=cp.mp w
 dsimp only at e r
 refine⟨p,?_,q c hσ rfl El n⟩;unfold lu at e;split at e
 ·cases e;rw[r.bl El];rfl
 ·cases e;obtain⟨a,vs,rfl,h1,h2⟩:=r.list El;exact .inl ⟨vs,hK▸h1,rZ h2.len⟩
 ·cases e;obtain⟨a,vs,rfl,h1,h2⟩:=r.tuple El;rw[hK]at h1;exact .inr (.inl ⟨vs,h1,rZ h2.len⟩)
 ·split at e
  ·cases e;rw[r.str El];exact⟨by assumption,rfl⟩
  ·cases e
 ·cases e
end
section
theorem dk.from(n:Nx c0 c1):dk C c1 c rs vs->dk C c0 c rs vs:=by
 intro h;induction rs generalizing vs with
 |nil=>exact h
 |cons r rs ih=>obtain⟨v,t,e,h1,h2,h3⟩:=h;exact⟨v,t,e,h1.from n,ih h2,h3⟩
theorem dk.get{i:Nat}(h:dk C c0 c rs vs)(e:rs[i]?=UI r)(e':vs[i]?=UI v):eY C c0 c r.1 r.2 v:=by
 induction rs generalizing vs i with
 |nil=>simp at e
 |cons r' rs ih =>
  obtain⟨v',t,rfl,h1,h2,h3⟩:=h;cases i with
  |zero=>simp at e e';subst e e';exact h1
  |succ i=>exact ih h2 (by simpa using e) (by simpa using e')
theorem yP:PA X [] (FF C (pure [])):=by
 rintro pos pins s σ H Q I ⟨c0,rfl,rfl,ok,h⟩;rw[ai]at h;exact mG pos pins s c0.σ c0.H Q I (h c0 [] rfl rfl ok (Nx.refl c0) rfl)
theorem wc(ha:PE X e (Ek C m))(hr:PA X es (FF C ms))(hs:Vf (e::es) X.env=(UO,Wo e X.env)::Vf es X.env):PA X (e::es) (FF C (m >>= λr=>ms >>= λrs=>pure (r::rs))):=by
 rintro pos pins s σ H Q I ⟨c0,rfl,rfl,ok,h⟩;refine jr ha hr hs pos pins s c0.σ c0.H Q I (aN ok h λr c1 v t w=>?_);rw[ag]at w;refine⟨c1,t.hσ,rfl,t.ok,w.mono λrs st2 h2 c2 vs e3 e4 EH n2 r2=>?_⟩;rw[ai]at h2;refine h2 c2 (v::vs) e3 e4 EH (t.nx.trans n2) ⟨v,vs,rfl,t.rx.w.on t.ok n2 (e3.trans t.hσ.symm),r2.from t.nx,λhk i r' v' e5 e6 FE=>?_⟩;exact m8 t.rx.w (r2.get e5 e6) hk FE
structure GU(C:Ct)(c0 c:Cf)(rs:List (Kd×U))(vs:List V):Prop where
 hσ:c.σ=c0.σ
 ok:Ok C c
 nx:Nx c0 c
 rep:dk C c0 c rs vs
 IJ:a5 rs c.st
theorem args{k:List (Kd×U)->M β}{Em:β->aq->Prop}(ha:PA X es (FF C ms))(I:Inv X pins c0.σ c0.H s)(ok:Ok C c0)(h:W (ms >>= λrs=>aA rs >>= λ_=>k rs) c0.st Em)(pos:Pos):
  UU (U6 X.prog X.w) X.A (ş (Ww pos (Vf es X.env))) (λus s1=>∃rs c vs,GU C c0 c rs vs/\Inv X pins c.σ c.H s1/\Vals vs us/\W (k rs) c.st Em) X.xe s:=by
 rw[ag]at h;refine Ej (ha pos pins s c0.σ c0.H (λvs H1=>∃rs c,c.H=H1/\GU C c0 c rs vs/\W (k rs) c.st Em) I ⟨c0,rfl,rfl,ok,h.mono λrs st1 h1 c1 vs e1 e2 El n1 r1=>?_⟩) ?_
 ·rw[ag,b_]at h1;subst e2;exact⟨rs,c1,rfl,⟨e1,El,n1,r1,h1.1⟩,h1.2⟩
 ·rintro us s1 ⟨vs,H1,I1,rv,rs,c1,rfl,t,w⟩;exact⟨rs,c1,vs,t,by rw[t.hσ];exact I1,rv,w⟩
theorem GU.one(t:GU C c0 c [r] vs):∃v,vs=[v]/\aI C c0 c r.1 r.2 v:=by
 obtain⟨v,t',rfl,h1,h2,_⟩:=t.rep;cases h2;exact⟨v,rfl,h1.t t.IJ⟩
theorem GU.two(t:GU C c0 c [r,r'] vs):∃v v',vs=[v,v']/\aI C c0 c r.1 r.2 v/\aI C c0 c r'.1 r'.2 v':=by
 obtain⟨v,t',rfl,h1,⟨v',Uv,rfl,h2,h3,_⟩,_⟩:=t.rep;cases h3;have hs:=fz.mp t.IJ;exact⟨v,v',rfl,h1.t hs.1,h2.t hs.2⟩
theorem Ok.share(ok:Ok C c)(h0:C.H₀ r=UK)(hH:∃o,c.H r=UI o)(hl:st'.length=c.st.length)
  (Ei:∀(i:Nat) k u,st'[i]?=UI (UI (k,u))->(∃v,c.σ[i]?=UI (UI v)/\eX C (λa=>c.S a\/a=r) c.H k u v)/\(k.root=UN->c.st[i]?=UI (UI (k,u)))) (Hs:G3 C {c with S:=λa=>c.S a\/a=r,st:=st' }) :
  Ok C {c with S:=λa=>c.S a\/a=r,st:=st' }:=by
 refine⟨ok.same,λa z=>?_,ok.par,ok.io,by rw[show({c with S:=λa=>c.S a\/a=r,st:=st' }:Cf).st.length=st'.length from rfl,hl];exact ok.len,λi k u e=>(Ei i k u e).1,λi j k k' u u' r' hk FE e1 e2 e3 e4=>?_,Hs⟩
 ·rcases z with z|rfl
  ·exact ok.F5 a z
  ·exact⟨h0,hH⟩
 ·exact ok.inj i j k k' u u' r' hk FE ((Ei i k u e1).2 hk) ((Ei j k' u' e2).2 FE) e3 e4
theorem Ok.Bn(FC:Ok C c0)(ok:Ok C c)(n:Nx c0 c)(h0:c0.H r=UK)(hR:¬c.R r)(hr:di C c.S c.H r u):
  Ok C {c with S:=λa=>c.S a\/a=r}/\Nx c0 {c with S:=λa=>c.S a\/a=r}:=by
 obtain⟨o,ho,_⟩:=hr.some;refine⟨ok.share (st':=c.st) (FC.j_ h0).1 ⟨o,ho⟩ rfl (λi k u e=>⟨?_,λ_=>e⟩) (ok.dd.hs (.up λa=>.inl) λj a z=>⟨λq=>q.elim (ok.root (.inr ⟨j,z⟩)).1 λe=>hR (.inr ⟨j,e▸z⟩),λo q=>q⟩),⟨⟨n.keep,n.there,n.roots,λa z=>.inl (n.sub a z),λa z=>?_⟩,n.all⟩⟩
 ·obtain⟨v,e1,e2⟩:=ok.sl i k u e;have Sv:Mv c.S c.H (λa=>c.S a\/a=r) c.H:=.up λa=>.inl;refine⟨v,e1,e2.mv Sv (.up λa z=>z.imp id .inl) λhk r' er=>⟨?_,λo q=>q⟩⟩;obtain⟨Lq,Fz,q1,_⟩:=e2.rt hk;rw[er]at Fz;cases Fz;rintro(z|rfl)
  ·exact q1 z
  ·exact hR (.inl ⟨i,k,u,hk,e,by rw[e1,er]⟩)
 ·rcases z with z|rfl
  ·exact n.new a z
  ·exact .inr (.inr h0)
theorem Ok.wd(ok:Ok C c)(n:Nx c0 c)(hj:c.st[j]?=UI (UI (.own,u)))(hv:c.σ[j]?=UI (UI (.ref r))):
  Ok C {c with S:=λa=>c.S a\/a=r,st:=c.st.set j (UI (.loc,u))}/\Nx c0 {c with S:=λa=>c.S a\/a=r,st:=c.st.set j (UI (.loc,u))}/\Rep C (λa=>c.S a\/a=r) c.H u (.ref r):=by
 obtain⟨v',e1,r',er,q1,q2,q3,q4⟩:=ok.sl j _ _ hj;rw[hv]at e1;cases e1;cases er;have FK:Rep C (λa=>c.S a\/a=r) c.H u (.ref r):=q4.rep (λa=>.inl) (.inr rfl);obtain⟨o,ho,_⟩:=q4.some;have GV:j<c.st.length:=(UW.mp hj).1;have EE:∀(i:Nat) k u',(c.st.set j (UI (.loc,u)))[i]?=UI (UI (k,u'))->i≠j->c.st[i]?=UI (UI (k,u')):=λi k u' e ne=>by rw[Vh (VP ne)]at e;exact e
 have GP:c.R1 r:=⟨j,.own,u,rfl,hj,hv⟩
 have dD:∀(i:Nat) (u':U),(c.st.set j (UI (.loc,u)))[i]?=UI (UI (.Eb,u'))->c.st[i]?=UI (UI (.Eb,u')):=λi u' e=>by
  by_cases FI:i=j
  ·subst FI;rw[U0 GV]at e;cases e
  ·exact EE i .Eb u' e FI
 have b1:∀a,({c with S:=λa=>c.S a\/a=r,st:=c.st.set j (UI (.loc,u))}:Cf).R1 a->c.R1 a:=λa Ey=>by
  obtain⟨i,k,u',hk,e,e'⟩:=Ey;by_cases FI:i=j
  ·subst FI;rw[U0 GV]at e;cases e;cases hk
  ·exact⟨i,k,u',hk,EE i k u' e FI,e'⟩
 have Hs:G3 C {c with S:=λa=>c.S a\/a=r,st:=c.st.set j (UI (.loc,u))}:=ok.dd.of rfl (λi u' e=>⟨dD i u' e,rfl⟩) (λa z=>.inl (b1 a z)) (.up λa=>.inl) λi a z=>⟨λq=>q.elim (ok.root (.inr ⟨i,z⟩)).1 λe=>ok.dd.d1 i a z (e▸GP),λo q=>q⟩
 refine⟨ok.share (st':=c.st.set j (UI (.loc,u))) q3 ⟨o,ho⟩ (by simp) (λi k u' e=>?_) Hs,⟨⟨n.keep,n.there,λa z=>?_,λa z=>.inl (n.sub a z),λa z=>?_⟩,n.all⟩,FK⟩
 ·by_cases FI:i=j
  ·subst FI;rw[U0 GV]at e;cases e;exact⟨⟨.ref r,hv,FK⟩,λz=>nomatch z⟩
  ·have e0:=EE i k u' e FI;obtain⟨v,e1,e2⟩:=ok.sl i k u' e0;refine⟨⟨v,e1,e2.mv (.up λa=>.inl) (.up λa z=>z.imp id .inl) λhk r' er=>⟨?_,λo q=>q⟩⟩,λ_=>e0⟩;obtain⟨Lq,Fz,p1,_⟩:=e2.rt hk;rw[er]at Fz;cases Fz;rintro(z|rfl)
   ·exact p1 z
   ·exact FI (ok.inj i j k .own u' u r' hk rfl e0 hj (by rw[e1,er]) hv)
 ·rcases z with z|⟨i,u',r',e1,e2,e3⟩
  ·exact n.roots a (.inl (b1 a z))
  ·exact n.roots a (.inr ⟨i,u',r',dD i u' e1,e2,e3⟩)
 ·rcases z with z|rfl
  ·exact n.new a z
  ·rcases n.roots a (.inl ⟨j,.own,u,rfl,hj,hv⟩) with z|z
   ·exact .inr (.inl z)
   ·exact .inr (.inr z)
theorem gW(FC:Ok C c0)(ok:Ok C c)(n:Nx c0 c)(hr:eY C c0 c r.1 r.2 v)(h:W (lift r) c.st Em):
  ∃(S':U8->Prop) (st':aq) (u:U),(∀a,c.S a->S' a)/\Ok C {c with S:=S',st:=st' }/\Nx c0 {c with S:=S',st:=st' }/\Rep C S' c.H u v/\Em u st' /\
   (∀a,S' a->c.S a\/v=.ref a/\(r.1=.own\/c.R a))/\∀a,({c with S:=S',st:=st' }:Cf).R a->c.R a:=by
 obtain⟨k,u⟩:=r;cases k with
 |own =>
  rw[show lift (.own,u)=pure u from rfl,ai]at h;obtain⟨r,e,h1,h2,h3,h4⟩:=hr;obtain⟨Er,n'⟩:=Ok.Bn FC ok n h1 h3 h4;refine⟨_,c.st,u,λa=>.inl,Er,n',by rw[e];exact h4.rep (λa=>.inl) (.inr rfl),h,λa z=>?_,λa z=>z⟩;rcases z with z|rfl
  ·exact .inl z
  ·exact .inr ⟨e,.inl rfl⟩
 |loc =>
  rw[show lift (.loc,u)=pure u from rfl,ai]at h;exact⟨c.S,c.st,u,λa=>id,ok,n,hr,h,λa z=>.inl z,λa z=>z⟩
 |any =>
  rw[show lift (.any,u)=if EL u=UN then pure u else M.fail from rfl]at h;split at h
  ·rw[ai]at h;exact⟨c.S,c.st,u,λa=>id,ok,n,Rep.EL (by assumption) hr,h,λa z=>.inl z,λa z=>z⟩
  ·exact(aC.mp h).elim
 |bor j =>
  obtain⟨x,st',e,hp⟩:=h;rw[show lift (.bor j,u) c.st=match c.st[j]? with|some (UI (.own,u))=>UI (Ex.ok u,c.st.set j (UI (.loc,u)))|_=>UK from rfl]at e;split at e
  ·rename_i w hj;cases e;obtain⟨v',e1,r,er,_⟩:=ok.sl j _ _ hj;have hv:c.σ[j]?=UI (UI v):=hr;rw[hv]at e1;cases e1;subst er;obtain⟨Er,n',rep⟩:=ok.wd n hj hv;refine⟨_,_,_,λa=>.inl,Er,n',rep,hp,λa z=>?_,λa z=>?_⟩
   ·rcases z with z|rfl
    ·exact .inl z
    ·exact .inr ⟨rfl,.inr (.inl ⟨j,.own,_,rfl,hj,hv⟩)⟩
   ·rcases z with⟨i,k,u',hk,e,e'⟩|⟨i,u',r',e,e',Sw⟩
    rotate_left 1
    ·by_cases FI:i=j
     ·subst FI;have GV:i<c.st.length:=(UW.mp hj).1;rw[U0 GV]at e;cases e
     ·rw[Vh (VP FI)]at e;exact .inr ⟨i,u',r',e,e',Sw⟩
    by_cases FI:i=j
    ·subst FI;have GV:i<c.st.length:=(UW.mp hj).1;rw[U0 GV]at e;cases e;cases hk
    ·rw[Vh (VP FI)]at e;exact .inl ⟨i,k,u',hk,e,e'⟩
  ·cases e
 |_=>exact hr.elim
theorem gX:∀{rs:List (Kd×U)}{vs:List V}{c:Cf}{Em:List U->aq->Prop},Ok C c0->Ok C c->Nx c0 c->dk C c0 c rs vs->W (cS rs) c.st Em ->
  ∃(S':U8->Prop) (st':aq) (us:List U),(∀a,c.S a->S' a)/\Ok C {c with S:=S',st:=st' }/\Nx c0 {c with S:=S',st:=st' }/\aj C S' c.H us vs/\Em us st'
 |[],vs,c,Em,FC,ok,n,hr,h=>by
  rw[show cS []=pure [] from rfl,ai]at h;exact⟨c.S,c.st,[],λa=>id,ok,n,hr,h⟩
 |r::rs,vs,c,Em,FC,ok,n,hr,h=>by
  obtain⟨v,t,rfl,h1,h2,h3⟩:=hr;rw[show cS (r::rs)=lift r >>= λu=>cS rs >>= λus=>pure (u::us) from rfl,ag]at h;obtain⟨S1,st1,u,s1,El,n1,rep1,h4,Hm,GP⟩:=gW FC ok n h1 h;rw[ag]at h4;have Ls:dk C c0 {c with S:=S1,st:=st1} rs t:=by
   clear h h4;have aux:∀(l:List (Kd×U)) (w:List V),dk C c0 c l w->(r.1=.own->∀(i:Nat) r' v',l[i]?=UI r'->w[i]?=UI v'->r'.1=.own->v'≠v)->dk C c0 {c with S:=S1,st:=st1} l w:=by
    intro l;induction l with
    |nil=>intro w q _;exact q
    |cons r2 l ih =>
     intro w q EX;obtain⟨v2,t2,rfl,q1,q2,q3⟩:=q;refine⟨v2,t2,rfl,?_,ih t2 q2 (λhk i r' v' e1 e2 FE=>EX hk (i+1) r' v' (by simpa using e1) (by simpa using e2) FE),q3⟩;obtain⟨k2,u2⟩:=r2;cases k2 with
     |own =>
      obtain⟨a,e,p1,p2,p3,p4⟩:=q1;refine⟨a,e,p1,λz=>?_,λz=>p3 (GP a z),p4.mv (.up s1) λo q=>q⟩;rcases Hm a z with z|⟨z,z'|z'⟩
      ·exact p2 z
      ·exact EX z' 0 _ v2 rfl rfl rfl (e.trans z.symm)
      ·exact p3 z'
     |loc=>exact Rep.mv (.up s1) q1
     |any=>exact Rep.mv (.up λa z=>z.imp id (s1 a)) q1
     |_=>exact q1
   exact aux rs t h2 h3
  obtain⟨S2,st2,us,s2,EH,n2,rep2,h5⟩:=gX (c:={c with S:=S1,st:=st1}) FC El n1 Ls h4;rw[ai]at h5;exact⟨S2,st2,u::us,λa z=>s2 a (s1 a z),EH,n2,⟨v,t,rfl,rep1.mv (.up s2),rep2⟩,h5⟩
theorem yQ(ha:PA X es (FF C ms)):PE X (.Tuple es x1 pos) (Ek C (ms >>= λrs=>aA rs >>= λ_=>cS rs >>= λus=>if us.length<=US then pure (.loc,.tup us) else M.fail)):=by
 rintro pins s σ H Q I ⟨c0,rfl,rfl,ok,h⟩;refine wpAny_Tuple_spliced (Ej (args ha I ok h pos) λus s1 ⟨rs,c,vs,t,I1,rv,w⟩=>?_);rw[ag]at w;obtain⟨S',st',ws,Sx,El,n1,rep,w1⟩:=gX ok t.ok t.nx t.rep w;split at w1
 ·rename_i hz;rw[ai]at w1;have hl:vs.length<=US:=by rw[<-rep.len];exact hz
  refine⟨by rw[<-rv.length];exact hl,?_⟩;have hf:c.H s1.heap.objs.size=UK:=I1.Ef.fresh (U_ _);have I2:Inv X pins c0.σ c.H s1:=by rw[<-t.hσ];exact I1
  refine⟨.ref s1.heap.objs.size,upd c.H s1.heap.objs.size (.tup vs),I2.laid (t':=s1.toks) (λb u e=>UL _ e) (U_ _) ⟨hl,us,rv,Þ _ _⟩,rfl,?_⟩;exact bZ.tup (c:={c with S:=S',st:=st' }) w1 t.hσ El n1 rep _ hf
 ·exact(aC.mp w1).elim
theorem yR(ha:PA X es (FF C ms)):PE X (.List es pos) (Ek C (ms >>= λrs=>aA rs >>= λ_=>cS rs >>= λus=>if us.length<=US then pure (.own,.lst us) else M.fail)):=by
 rintro pins s σ H Q I ⟨c0,rfl,rfl,ok,h⟩;refine wpAny_List_spliced (Ej (args ha I ok h pos) λus s1 ⟨rs,c,vs,t,I1,rv,w⟩=>?_);rw[ag]at w;obtain⟨S',st',ws,Sx,El,n1,rep,w1⟩:=gX ok t.ok t.nx t.rep w;split at w1
 ·rename_i hz;rw[ai]at w1;have hl:vs.length<=US:=by rw[<-rep.len];exact hz
  refine⟨by rw[<-rv.length];exact hl,?_⟩;have hf:c.H s1.heap.objs.size=UK:=I1.Ef.fresh (U_ _);have I2:Inv X pins c0.σ c.H s1:=by rw[<-t.hσ];exact I1
  refine⟨.ref s1.heap.objs.size,upd c.H s1.heap.objs.size (.lst vs),I2.laid (t':=s1.toks) (λb u e=>UL _ e) (U_ _) ⟨hl,us,0,rv,UZ _ rfl⟩,rfl,?_⟩;exact bZ.list (c:={c with S:=S',st:=st' }) w1 t.hσ El n1 rep _ hf
 ·exact(aC.mp w1).elim
end
section
theorem m9(hN:X.N[i]?=UI x)(hv:F3 X.env.scope x)(hd:(x==("__debug__":Str))=UO)(EV:(x==("__classdict__":Str))=UO):PE X (.Name x pos) (Ek C (du i)):=by
 refine PE.weak (cc hN hv hd EV) ?_;rintro σ H Q ⟨c0,rfl,rfl,ok,r,st',e,h⟩;unfold du at e;split at e
 ·cases e
 ·rename_i k u Oj hs;cases e;obtain⟨v,e1,e2⟩:=ok.sl i k u hs;refine⟨v,e1,h c0 v rfl rfl ok (Nx.refl c0) ?_⟩;by_cases hk:k.root=UN
  ·rw[δ hk];exact⟨⟨k,hk,hs⟩,e1⟩
  ·rw[ε hk];cases k with
   |loc=>exact e2
   |any=>exact e2
   |bor j=>exact e2.elim
   |Eb=>exact(Oj rfl).elim
   |_=>exact absurd rfl hk
 ·cases e
theorem gY(h:PE X e (tC v))(r:∀S H,Rep C S H u v):PE X e (Ek C (pure (.loc,u))):=by
 refine PE.weak h ?_;rintro σ H Q ⟨c0,rfl,rfl,ok,h⟩;rw[ai]at h;exact h c0 v rfl rfl ok (Nx.refl c0) (r _ _)
theorem bZ.root(h:bZ C c0 Q (.own,u) c.st)(hσ:c.σ=c0.σ)(ok:Ok C c)(n:Nx c0 c)(p:U8)(hp:c.H p=UK)(r:di C c.S (upd c.H p o) p u):Q (.ref p) (upd c.H p o):=by
 obtain⟨Er,n'⟩:=ok.lay (o:=o) hp;obtain⟨h0,h1,h2,h3,h4⟩:=ok.j_ hp;exact h {c with H:=upd c.H p o} _ hσ rfl Er (n.trans n') ⟨p,rfl,n.none hp,h1,h4,r⟩
theorem we(hP:C.P=X.prog)(hw:C.w=X.w)(r:Bool):PE X (.Dict [] [] pos) (Ek C (pure (.own,if r=UN then .Fc [] else .Ee [] []))):=by
 cases r with
 |false =>
  refine PE.weak ou ?_;rintro σ H Q ⟨c0,rfl,rfl,ok,h⟩ p hp;rw[ai,ε Vw]at h;exact bZ.root h rfl ok (Nx.refl c0) p hp ⟨[],au,rfl,rfl⟩
 |true =>
  refine PE.weak ym ?_;rintro σ H Q ⟨c0,rfl,rfl,ok,h⟩ p hp;rw[ai,δ rfl]at h;refine bZ.root h rfl ok (Nx.refl c0) p hp ⟨[],?_,rfl,λx hx=>by cases hx⟩;rw[hP,hw];exact au
theorem aj.ED{S:U8->Prop}(h:aj C S H us vs)(e:ED us i=UI u):∃v,L2.ED vs i=UI v/\Rep C S H u v:=by
 unfold L2.ED at e ⊢;rw[h.len]at e;cases q:Hf vs.length i with
 |none=>rw[q]at e;cases e
 |some j =>
  rw[q]at e;exact h.get e
theorem Bo(hK:C.K=X.K)(hu:X.A.units+60<Wa)(hs:mJ b)(t:Lo C c0 c x y vx vy)(I:Inv X pins c.σ c.H s)(rx:RelV vx v)(ry:RelV vy u)(h:gv x y.2=UI r)(q:bZ C c0 Q r c.st):
  UU (U6 X.prog X.w) X.A (ZY a b v u) (EP X pins c.σ Q) X.xe s:=by
 obtain⟨hσ,ok,n,tx,ty,-⟩:=t;obtain⟨ky,uy⟩:=y
 dsimp only at h ty
 unfold gv at h;split at h
 ·rename_i k xs i;rw[U3]at h;obtain⟨w,e,rfl⟩:=h;obtain⟨a',vs,ex,h1,h2⟩:=tx.list ok;obtain⟨vw,e1,e2⟩:=h2.ED e;exact ya a b pins s c.σ c.H vx vy v u Q I rx ry ⟨a',vs,i,vw,ex,ty.int ok,hK▸h1,e1,q c vw hσ rfl ok n (aI.item e2)⟩ (hs _ _)
 ·rename_i k xs i;rw[U3]at h;obtain⟨w,e,rfl⟩:=h;obtain⟨a',vs,ex,h1,h2⟩:=tx.tuple ok;obtain⟨vw,e1,e2⟩:=h2.ED e;rw[hK]at h1;exact jM a b pins s c.σ c.H vx vy v u Q I rx ry ⟨a',vs,i,vw,ex,ty.int ok,h1,e1,q c vw hσ rfl ok n (aI.item e2)⟩ (hs _ _)
 ·split at h
  ·rw[U3]at h;obtain⟨w,e,rfl⟩:=h;exact jN a b pins s c.σ c.H vx vy v u Q I rx ry ⟨_,_,w,tx.str ok,ty.int ok,by assumption,e,q c _ hσ rfl ok n rfl⟩ (hs _ _)
  ·cases h
 ·cases h
theorem r6(hK:C.K=X.K)(hu:X.A.units+60<Wa)(hs:mJ b)(ha:PE X a (Ek C ma))(hb:PE X b (Ek C mb)):PE X (.Subscript a b pos) (Ek C (ma >>= λx=>mb >>= λy=>aA [x,y] >>= λ_=>M.Eu (gv x y.2))):=by
 rintro pins s σ H Q I ⟨c0,rfl,rfl,ok,h⟩;refine Ř (two ha hb I ok h λx y c vx vy v u s2 t I2 rx ry w=>?_);obtain⟨r,e,q⟩:=cp.mp w;exact Ej (Bo hK hu hs t I2 rx ry e q) λ_ _ z=>by rw[t.hσ]at z;exact z
theorem aj.cut{S:U8->Prop}(h:aj C S H us vs)(lo hi:Option Int):aj C S H (TM.cut us lo hi) (oo vs lo hi):=by
 unfold TM.cut oo;rw[h.len];exact(h.drop _).take _
theorem ui{lo hi:Option Int}(h:HT.En xs.length 0 lo=0/\HT.En xs.length xs.length hi=xs.length):cut xs lo hi=xs:=by
 unfold cut;rw[h.1,h.2];simp
end
section
variable{prog:VZ}{w:Wi}{A:WZ}{E:UT->U1->Prop}{s:U1}
theorem fN{lo hi:Option Int}(ht:Ń s.heap t items)(hs:s.heap.IsSliceOf sl vl vu .none)(pl:ZD vl lo)(pu:ZD vu hi)
  (hw:HT.En items.size 0 lo=0/\HT.En items.size items.size hi=items.size) (h:Q (.ref t) s):UU (U6 prog w) A (YF (.ref t) (.ref sl)) Q E s:=by
 obtain⟨os,He,L8,Iu⟩:=id hs;have Ng:s.TypeIs (.ref sl) "slice":=⟨os,He,L8⟩
 unfold YF
 try with_reducible refine VG ?_
 first|refine UJ (UM ?_)|skip
 refine UJ (Ŝ ht.typeIs (by decide) ?_);refine UJ (V7 (name:=W7 "__getitem__") ht.typeIs VU
  (VI VU ht.typeIs Ň ?_ (ŗ _ _)))
 show UU _ _ (X1 (.ref t) >>= _) _ _ s;refine UJ (tupleItemsOf_ ht ?_);refine UJ (YE Ng ?_);rw[δ (by decide)];refine UJ (HT.dI hs pl pu ?_);have Ol:(((HT.En items.size 0 lo:Nat):Int)==0&&(1:Int)==1&&(HT.En items.size items.size hi - HT.En items.size 0 lo)==items.size)=UN:=by
  rw[hw.1,hw.2];simp
 show UU _ _ (if (((HT.En items.size 0 lo:Nat):Int)==0&&(1:Int)==1&&(HT.En items.size items.size hi - HT.En items.size 0 lo)==items.size)=UN then _ else _) _ _ s;rw[δ Ol];show UU (U6 prog w) A.in1 ((Ι (Vd t) >>= λx=>pure (x==.type "tuple")) >>= _) _ _ s;refine UJ (UJ (YE ht.typeIs (UM ?_)));rw[δ (by decide)];exact UJ (WA (UM ⟨_,rfl,UM h⟩))
end
section
variable{X:Cx}{C:Ct}{pins:List (U8×Obj)}{s:U1}{c0 c c1:Cf}
variable{a b d e:VO}{es:List VO}{m ma mb md:M (Kd×U)}{ms:M (List (Kd×U))}{ta tb:M Bool}{pos p p2:Pos}
theorem yS:HE X (λx lo hi H Q=>∃a xs,x=.ref a/\EC X.K H a xs/\(HT.En xs.length 0 lo=0/\HT.En xs.length xs.length hi=xs.length)/\Q (.ref a) H):=by
 intro pins s σ H x v vl vu lo hi sl Q I rx hs pl pu h;obtain⟨a,xs,rfl,hx,hw,q⟩:=h;cases rx;obtain⟨A',r,ht,hz⟩:=I.tuple hx;have hlen:A'.toArray.size=xs.length:=by rw[U9];exact r.length.symm
 exact⟨"tuple",_,VU.lookup,ht.typeIs,fN ht hs pl pu (by rw[hlen];exact hw) ⟨.ref a,H,I,rfl,q⟩⟩
def tO(C:Ct)(m:M (Option Int)):TO:=λσ H Q=>∃c0:Cf,c0.σ=σ/\c0.H=H/\Ok C c0/\W m c0.st λi st'=>∀c,c.σ=σ->c.st=st'->Ok C c->Nx c0 c->Q i c.H
theorem uj:PO X UK (tO C (pure UK)):=by
 rintro pins s σ H Q I ⟨c0,rfl,rfl,ok,h⟩;rw[ai]at h;exact x8 pins s c0.σ c0.H Q I (h c0 rfl rfl ok (Nx.refl c0))
theorem um(ha:PE X a (Ek C ma)):PO X (UI a) (tO C (ma >>= Bg)):=by
 rintro pins s σ H Q I ⟨c0,rfl,rfl,ok,h⟩;refine x9 ha pins s c0.σ c0.H Q I (aN ok h λx c v t w=>?_);obtain⟨k,u⟩:=x;unfold Bg at w;split at w
 ·rename_i i e
  dsimp only at e
  subst e;rw[ai]at w;exact⟨i,t.rx.int t.ok,w c t.hσ rfl t.ok t.nx⟩
 ·exact(aC.mp w).elim
theorem Bp{lo hi:Option Int}(hK:C.K=X.K)(hσ:c.σ=c0.σ)(ok:Ok C c)(n:Nx c0 c)(tx:aI C c0 c x.1 x.2 vx)(h:lr x lo hi=UI r)(q:bZ C c0 Q r c.st):
  ((CA X.K vx lo hi c.H Q\/Cw X.K vx lo hi c.H Q)\/(∃a xs,vx=.ref a/\EC X.K c.H a xs/\(HT.En xs.length 0 lo=0/\HT.En xs.length xs.length hi=xs.length)/\Q (.ref a) c.H))\/CH vx lo hi c.H Q:=by
 unfold lr at h;split at h
 ·split at h
  ·rename_i hh;cases h;obtain⟨a',vs,ex,h1,h2⟩:=tx.list ok;exact .inl (.inl (.inl ⟨a',vs,ex,hK▸h1,λp hp=>q.list hσ ok n ((fc hh h2).cut lo hi) p hp⟩))
  ·cases h
 ·cases h;obtain⟨a',vs,ex,h1,h2⟩:=tx.tuple ok;have GS:=h1;rw[hK]at GS;by_cases hw:HT.En vs.length 0 lo=0/\HT.En vs.length vs.length hi=vs.length
  ·refine .inl (.inr ⟨a',vs,ex,GS,hw,?_⟩);refine q c (.ref a') hσ rfl ok n (aI.item ⟨a',vs,rfl,h1,?_⟩);rw[ui (by rw[h2.len];exact hw)];exact h2
  ·exact .inl (.inl (.inr ⟨a',vs,ex,GS,hw,λp hp=>q.tupK hσ ok n (h2.cut lo hi) p hp⟩))
 ·split at h
  ·cases h;exact .inr ⟨_,tx.str ok,by assumption,q.flat hσ ok n rfl⟩
  ·cases h
 ·cases h
theorem yT{lo hi:Option VO}(hK:C.K=X.K)(ha:PE X a (Ek C ma))(hl:PO X lo (tO C ml))(hh:PO X hi (tO C mh)):
  PE X (.Subscript a (.Slice lo hi UK p2) pos) (Ek C (ma >>= λx=>ml >>= λl=>mh >>= λh=>aA [x] >>= λ_=>M.Eu (lr x l h))):=by
 refine PE.weak (vf (((HE.or yb AJ).or yS).or AY) ha hl hh) ?_;rintro σ H Q ⟨c0,rfl,rfl,ok,h⟩;refine aN ok h λx c v t w=>?_;rw[ag]at w;refine⟨c,t.hσ,rfl,t.ok,w.mono λl st2 h2 c2 e1 e2 EH n2=>?_⟩;subst e2;rw[ag]at h2;refine⟨c2,e1,rfl,EH,h2.mono λl' st3 h3 c3 e3 e4 Gr n3=>?_⟩;subst e4;rw[ag,b_]at h3;obtain⟨r,e,q⟩:=cp.mp h3.2;have Ql:Nx c c3:=n2.trans n3;exact Bp hK e3 Gr (t.nx.trans Ql) ((t.rx.w.on t.ok Ql (e3.trans t.hσ.symm)).t h3.1) e q
end
section
variable{X:Cx}{C:Ct}{pins:List (U8×Obj)}{s:U1}{c0 c c1:Cf}
variable{a b d e:VO}{es:List VO}{m ma mb md:M (Kd×U)}{ms:M (List (Kd×U))}{ta tb:M Bool}{pos p p2:Pos}
noncomputable def Bf.val:Bf->UT
 |.len=>.builtin "len"|.sorted=>.builtin "sorted"|.repr=>.builtin "repr"|.max=>.builtin "max"|.min=>.builtin "min"|.all=>.builtin "all"|.any=>.builtin "any"
 |.list=>.type "list"|.tuple=>.type "tuple"|.str=>.type "str"|.int=>.type "int"
noncomputable def Bf.name:Bf->Str
 |.len=>"len"|.sorted=>"sorted"|.repr=>"repr"|.max=>"max"|.min=>"min"|.all=>"all"|.any=>"any"
 |.list=>"list"|.tuple=>"tuple"|.str=>"str"|.int=>"int"
theorem call_of(hc:iS X f r)(I:Inv X pins c.σ c.H s)(rv:Vals vs us)(h:r vs c.H Q):UU (U6 X.prog X.w) X.A (X0 f us) (EP X pins c.σ Q) X.xe s:=hc pins s c.σ c.H vs us Q I rv h
theorem bO(h:gR f rs=UI r):∃x,rs=[x]/\f x=UI r:=by
 unfold gR at h;split at h
 ·exact⟨_,rfl,h⟩
 ·cases h
theorem zQ(hc:X.calm=UN)(hK:C.K=X.K)(MC:X.A.guards=UI [])(Lu:X.A.units+60<Wa)(t:GU C c0 c rs vs)(I:Inv X pins c.σ c.H s)(rv:Vals vs us)(h:F7 f rs=UI r)(q:bZ C c0 Q r c.st):
  UU (U6 X.prog X.w) X.A (X0 f.val us) (EP X pins c.σ Q) X.xe s:=by
 have hσ:=t.hσ;have ok:=t.ok;have n:=t.nx;cases f with
 |len =>
  obtain⟨x,rfl,hz⟩:=bO (f:=λx=>(A9 x.2).map λ(n:Nat)=>(Kd.loc,U.int (n:Int))) h;clear h;have h:=hz;clear hz;rw[U3]at h;obtain⟨k,e,rfl⟩:=h;obtain⟨v,rfl,tx⟩:=t.one;obtain⟨kx,ux⟩:=x;unfold A9 at e;split at e
  ·rename_i xs hx;have hx:ux=.lst xs:=hx;subst hx;cases e;obtain⟨a',ws,ex,h1,h2⟩:=tx.list ok;rw[h2.len]at q;exact call_of gF I rv ⟨a',ws,by rw[ex],.inl (hK▸h1),q.flat hσ ok n rfl⟩
  ·rename_i xs hx;have hx:ux=.tup xs:=hx;subst hx;cases e;obtain⟨a',ws,ex,h1,h2⟩:=tx.tuple ok;rw[hK]at h1;rw[h2.len]at q;exact call_of gF I rv ⟨a',ws,by rw[ex],.inr h1,q.flat hσ ok n rfl⟩
  ·rename_i xs hx;have hx:ux=.str xs:=hx;subst hx;split at e
   ·cases e;exact call_of mL I rv ⟨_,by rw[tx.str ok],by assumption,q.flat hσ ok n rfl⟩
   ·cases e
  ·cases e
 |sorted =>
  obtain⟨x,rfl,hz⟩:=bO (f:=A_) h;clear h;have h:=hz;clear hz;obtain⟨v,rfl,tx⟩:=t.one;unfold A_ at h;split at h
  ·rw[VJ]at h;obtain⟨ss,e,h⟩:=h;have e':=bV e;subst e';obtain⟨a',ws,ex,h1,h2⟩:=tx.list ok;rw[aj.strs]at h2;subst h2;split at h
   ·cases h;exact call_of iY I rv ⟨a',ss,by rw[ex],.inl (hK▸h1),by assumption,λp hp=>q.list hσ ok n (aj.strs.mpr rfl) p hp⟩
   ·cases h
  ·rw[VJ]at h;obtain⟨ss,e,h⟩:=h;have e':=bV e;subst e';obtain⟨a',ws,ex,h1,h2⟩:=tx.tuple ok;rw[hK]at h1;rw[aj.strs]at h2;subst h2;split at h
   ·cases h;exact call_of iY I rv ⟨a',ss,by rw[ex],.inr h1,by assumption,λp hp=>q.list hσ ok n (aj.strs.mpr rfl) p hp⟩
   ·cases h
  ·cases h
 |tuple =>
  obtain⟨x,rfl,hz⟩:=bO (f:=Ba) h;clear h;have h:=hz;clear hz;obtain⟨v,rfl,tx⟩:=t.one;unfold Ba at h;split at h
  ·obtain⟨a',ws,ex,h1,h2⟩:=tx.list ok;cases h;exact call_of fR I rv ⟨a',ws,by rw[ex],.inl ⟨hK▸h1,λp hp=>q.tupK hσ ok n h2 p hp⟩⟩
  ·obtain⟨a',ws,ex,h1,h2⟩:=tx.tuple ok;have GS:=h1;rw[hK]at GS;cases h;exact call_of fR I rv ⟨a',ws,by rw[ex],.inr ⟨GS,q c (.ref a') hσ rfl ok n (aI.item ⟨a',ws,rfl,h1,h2⟩)⟩⟩
  ·cases h
 |str =>
  obtain⟨x,rfl,hz⟩:=bO (f:=yE) h;clear h;have h:=hz;clear hz;obtain⟨v,rfl,tx⟩:=t.one;unfold yE at h;split at h
  ·split at h
   ·cases h;exact call_of mF I rv ⟨_,by rw[tx.int ok],by assumption,q.flat hσ ok n rfl⟩
   ·cases h
  ·cases h
 |all =>
  obtain⟨x,rfl,hz⟩:=bO (f:=Bb) h;clear h;have h:=hz;clear hz;obtain⟨v,rfl,tx⟩:=t.one;unfold Bb at h;split at h
  ·rw[U3]at h;obtain⟨bs,e,rfl⟩:=h;have e':=gx e;subst e';obtain⟨a',ws,ex,h1,h2⟩:=tx.list ok;have:=h2.Oi;subst this;exact call_of (vB hc) I rv ⟨a',bs,by rw[ex],hK▸h1,q.flat hσ ok n rfl⟩
  ·cases h
 |any =>
  obtain⟨x,rfl,hz⟩:=bO (f:=Bc) h;clear h;have h:=hz;clear hz;obtain⟨v,rfl,tx⟩:=t.one;unfold Bc at h;split at h
  ·rw[U3]at h;obtain⟨bs,e,rfl⟩:=h;have e':=gx e;subst e';obtain⟨a',ws,ex,h1,h2⟩:=tx.list ok;have:=h2.Oi;subst this;exact call_of (vU hc) I rv ⟨a',bs,by rw[ex],hK▸h1,q.flat hσ ok n rfl⟩
  ·cases h
 |_=>cases h
theorem yU{id:String}(hc:X.calm=UN)(hK:C.K=X.K)(MC:X.A.guards=UI [])(Lu:X.A.units+60<Wa)(hf:f.val=.builtin id)(hg:Gl X x)(hm:X.mg x=UK)(hv:Wh x=UI (.builtin id))(hn:x≠"__name__")(Jh:(x==("__debug__":Str))=UO)
  (ha:PA X (e::es) (FF C ms)) (he:Vf (e::es) X.env=(UO,Wo e X.env)::Vf es X.env) (EY:(Ww pos (Vf es X.env)).any (·.1)=UO) :
  PE X (.Call (.Name x p) (e::es) [] pos) (Ek C (ms >>= λrs=>aA rs >>= λ_=>M.Eu (F7 f rs))):=by
 rintro pins s σ H Q I ⟨c0,rfl,rfl,ok,h⟩;refine Wk (dc I hg hm hv ?_ hn Jh);refine Ε (Ej (args ha I ok h pos) λus s1 ⟨rs,c,vs,t,I1,rv,w⟩=>?_) he EY;obtain⟨r,e,q⟩:=cp.mp w;have z:=zQ hc hK MC Lu t I1 rv e q;rw[hf,t.hσ]at z;exact z
theorem yV(hc:X.calm=UN)(hK:C.K=X.K)(MC:X.A.guards=UI [])(Lu:X.A.units+60<Wa)(hf:f.val=.type T)(hg:Gl X x)(hm:X.mg x=UK)(hv:Wh x=UI (.type T))(hn:x≠"__name__")(Jh:(x==("__debug__":Str))=UO)
  (ha:PA X (e::es) (FF C ms)) (he:Vf (e::es) X.env=(UO,Wo e X.env)::Vf es X.env) (EY:(Ww pos (Vf es X.env)).any (·.1)=UO) :
  PE X (.Call (.Name x p) (e::es) [] pos) (Ek C (ms >>= λrs=>aA rs >>= λ_=>M.Eu (F7 f rs))):=by
 rintro pins s σ H Q I ⟨c0,rfl,rfl,ok,h⟩;refine Wk (dc I hg hm hv ?_ hn Jh);refine Wz (Ej (args ha I ok h pos) λus s1 ⟨rs,c,vs,t,I1,rv,w⟩=>?_) he EY;obtain⟨r,e,q⟩:=cp.mp w;have z:=zQ hc hK MC Lu t I1 rv e q;rw[hf,t.hσ]at z;exact z
abbrev HN(P:VZ)(w:Wi)(K:PySem.W.Frag)(H:Hp)(Pr:U8->Prop):Ct:=⟨P,w,K,H,Pr,λ_=>False⟩
structure Back(C:Ct)(H H':Hp)(S':U8->Prop)(k:Kd)(u:U)(v:V):Prop where
 same:AN H H'
 new:∀a,S' a->H a=UK/\∃o,H' a=UI o
 own:k=.own->∃r,v=.ref r/\H r=UK/\¬S' r/\di C S' H' r u
 loc:k=.loc->Rep C S' H' u v
 any:k=.any->Rep C (PS C S') H' u v
def spT(P:VZ)(w:Wi)(K:PySem.W.Frag)(F:List U->Option (Ex (Kd×U)))(np:Nat):Sp:=λvs H Q _=>vs.length=np/\∃us k u Pr,F us=UI (.ok (k,u))/\(k=.own\/k=.loc\/k=.any)/\(∀a,Pr a->G5 H a) /\
 aj (HN P w K H Pr) Pr H us vs/\∀v H' S',Back (HN P w K H Pr) H H' S' k u v->Q v H'
theorem GU.read(t:GU C c0 c rs vs):aj C (G5 c.H) c.H (rs.map (·.2)) vs:=by
 have aux:∀(l:List (Kd×U)) (w:List V),dk C c0 c l w->a5 l c.st->aj C (G5 c.H) c.H (l.map (·.2)) w:=by
  intro l;induction l with
  |nil=>intro w h _;exact h
  |cons r l ih =>
   intro w h hs;obtain⟨v,t',rfl,h1,h2,_⟩:=h;rw[fz]at hs;exact⟨v,t',rfl,(h1.t hs.1).read t.ok,ih t' h2 hs.2⟩
 exact aux rs vs t.rep t.IJ
theorem Back.here(hk:k=.own\/k=.loc)(hσ:c.σ=c0.σ)(ok:Ok C c)(n:Nx c0 c)(q:C'.Eqv C)(h:Back C' c.H H' S' k u v)(w:bZ C c0 Q (k,u) c.st):Q v H':=by
 obtain⟨Er,n'⟩:=ok.grow (S':=λa=>c.S a\/S' a) h.same (λa z=>z.imp id λz=>h.new a z) λa=>.inl;have hn:=n.trans n';refine w {c with H:=H',S:=λa=>c.S a\/S' a} v hσ rfl Er hn ?_;rcases hk with rfl|rfl
 ·obtain⟨r,e,h1,h2,h3⟩:=h.own rfl;obtain⟨z0,z1,z2,z3,z4⟩:=ok.j_ h1;refine⟨r,e,n.none h1,λz=>z.elim z1 h2,z4,(h3.cg q).mv (.up λa=>.inr) λo q=>q⟩
 ·exact((h.loc rfl).cg q).mv (.up λa=>.inr)
theorem wg(hP:C.P=X.prog)(hw:C.w=X.w)(hK:C.K=X.K)(hF:Γ f=F)(hk:∀us k u,F us=UI (.ok (k,u))->(k=.own\/k=.loc\/k=.any)/\us.length=np)
  (G:oj X.prog X.w X.K X.mg X.base Iv k fa fd ps (spT X.prog X.w X.K F np)) (hr:f7 k X.A) (hg:Gl X f) (hm:X.mg f=UI (.ref fa)) (Oc:PySem.W.keepIn X.K (.ref fa)=UN) (hb:Binds X.K fd ps [])
  (Jh:(f==("__debug__":Str))=UO) (ha:PA X (e::es) (FF C ms)) (he:Vf (e::es) X.env=(UO,Wo e X.env)::Vf es X.env) (EY:(Ww pos (Vf es X.env)).any (·.1)=UO) :
  PE X (.Call (.Name f p) (e::es) [] pos) (Ek C (ms >>= λrs=>aA rs >>= λ_=>ka Γ f (rs.map (·.2)))):=by
 rintro pins s σ H Q I ⟨c0,rfl,rfl,ok,h⟩;refine Wk (xP I hg hm ?_ Jh);refine PySem.W.callWith_K (h₀:=X.base) I.ok.mod.M4 Oc (Ej (args ha I ok h pos) λus s1 ⟨rs,c,vs,t,I1,rv,w⟩=>⟨I1.JR,?_⟩) he EY;obtain⟨r,st',e1,q⟩:=w;unfold ka at e1;rw[hF]at e1;cases e2:F (rs.map (·.2)) with
 |none=>rw[e2]at e1;cases e1
 |some r' =>
  rw[e2]at e1;split at e1
  ·cases e1
  ·rename_i z;cases z
  rename_i Om e3;cases e3;cases e1;obtain⟨kd,u⟩:=r;obtain⟨k0,k2⟩:=hk _ _ _ e2;have k1:kd=.own\/kd=.loc:=by
   rcases k0 with z|z|z
   ·exact .inl z
   ·exact .inr z
   ·subst z;exact(Om u rfl).elim
  have eqv:C.Eqv (HN X.prog X.w X.K c.H (G5 c.H)):=⟨hP,hw,hK⟩
  have Oo:(HN X.prog X.w X.K c.H (G5 c.H)).Eqv C:=⟨hP.symm,hw.symm,hK.symm⟩
  have rd:=t.read;have Gw:spT X.prog X.w X.K F np vs c.H (λv H'=>Q v H') E0:=⟨by rw[<-rd.len];exact k2,rs.map (·.2),kd,u,G5 c.H,e2,k0,λ_ z=>z,rd.cg eqv,λv H' S' hb=>hb.here k1 t.hσ t.ok t.nx Oo q⟩
  have z:=AH (Q:=Q) G hr hb .nil CC I1 rv (by rw[V1];exact Gw);rw[t.hσ]at z;exact z
end
section
noncomputable def Mf.id:Mf->String
 |.split=>"str.split"|.join=>"str.join"|.partition=>"str.partition"|.endswith=>"str.endswith"
noncomputable def Mf.name:Mf->Str
 |.split=>"split"|.join=>"join"|.partition=>"partition"|.endswith=>"endswith"
theorem wj(h:jo f u rs=UI r):∃x,u=.str x:=by
 unfold jo at h;split at h
 ·exact⟨_,rfl⟩
 ·exact⟨_,rfl⟩
 ·cases h
theorem Bq(hK:C.K=X.K)(t:GU C c0 c (x::rs) (vx::vs))(I:Inv X pins c.σ c.H s)(rx:RelV vx v)(rv:Vals vs us)(h:jo f x.2 rs=UI r)(q:bZ C c0 Q r c.st):
  UU (U6 X.prog X.w) X.A (X0 (.builtin f.id) (v::us)) (EP X pins c.σ Q) X.xe s:=by
 have hσ:=t.hσ;have ok:=t.ok;have n:=t.nx;obtain⟨kx,ux⟩:=x;have hs:=fz.mp t.IJ;obtain⟨v0,MD,e0,h1,h2,-⟩:=t.rep;cases e0;have tx:aI C c0 c kx ux vx:=h1.t hs.1;have one:∀{r:Kd×U},dk C c0 c [r] vs->a5 [r] c.st->∃v,vs=[v]/\aI C c0 c r.1 r.2 v:=λ{r} h s=>by
  obtain⟨v,t',rfl,h1,h2,_⟩:=h;cases h2;exact⟨v,rfl,h1.t s⟩
 dsimp only at h
 unfold jo at h;split at h
 ·obtain⟨w,rfl,ty⟩:=one h2 hs.2;split at h
  ·rename_i hh;cases h;exact vA pins s c.σ c.H vx [w] v us Q I rx rv ⟨_,_,tx.str ok,by rw[ty.str ok],hh.1,hh.2,λp hp=>q.list hσ ok n (aj.strs.mpr rfl) p hp⟩
  ·cases h
 ·rw[VJ]at h;obtain⟨ss,e,h⟩:=h;have e':=bV e;subst e';obtain⟨w,rfl,ty⟩:=one h2 hs.2;obtain⟨a',ws,ex,h3,h4⟩:=ty.list ok;rw[aj.strs]at h4;subst h4;split at h
  ·cases h;exact yj pins s c.σ c.H vx [w] v us Q I rx rv ⟨_,a',ss,tx.str ok,by rw[ex],hK▸h3,by assumption,q.flat hσ ok n rfl⟩
  ·cases h
 ·cases h
theorem yW(hK:C.K=X.K)(slot:Slot "str" name f.id)(Nk:Ι (.builtin f.id)=pure (.type "method_descriptor"))(ho:PE X o (Ek C m))(ha:PA X (e::es) (FF C ms))
  (Hg:ZX o name X.env (Wo o X.env)=Wo o X.env)
  (Fu:((Ww Ec (Vf (e::es) X.env)).all (λx=>!x.1)&&(Yo Ec (Xe [] X.env)).all (λx=>x.1.isSome)
   && UP ((e::es).length+([]:List XT).length+(if ([]:List XT).isEmpty then 0 else 1)<30))=UN)
  (EJ:(apos.endLine==Ec.line)=UN) (hs:Vf (e::es) X.env=(UO,Wo e X.env)::Vf es X.env) (E_:(Ww Ec (Vf es X.env)).any (·.1)=UO) :
  PE X (.Call (.Attribute o name apos) (e::es) [] Ec) (Ek C (m >>= λx=>ms >>= λrs=>aA (x::rs) >>= λ_=>M.Eu (jo f x.2 rs))):=by
 rintro pins s σ H Q I ⟨c0,rfl,rfl,ok,h⟩;refine ġ Hg Fu EJ rfl (Ej (ho pins s c0.σ c0.H (λvx H1=>∃x c1,c1.H=H1/\Lp C c0 c1 x vx/\W (ms >>= λrs=>aA (x::rs) >>= λ_=>M.Eu (jo f x.2 rs)) c1.st (bZ C c0 Q)) I (aN ok h λx c v t w=>⟨x,c,rfl,t,w⟩)) ?_);rintro v s1 ⟨vx,H1,I1,rx,x,c1,rfl,t,w⟩;have Jx:∃z,x.2=.str z:=by
  rw[ag]at w;obtain⟨rs,st2,_,w⟩:=w;rw[ag]at w;obtain⟨_,st3,_,w⟩:=w;obtain⟨r,e,_⟩:=cp.mp w;exact wj e
 obtain⟨z,hz⟩:=Jx;have tx:=t.rx;rw[hz]at tx;have ev:=tx.str t.ok;have ty:Nj X.K "str" vx c1.H:=by rw[ev];rfl
 obtain⟨h1,h2⟩:=qg I1 rx ty;refine⟨"str",f.id,PySem.F.plainAttrs_str,slot,Nk,h1,h2,?_⟩;rw[ag]at w;have hA:=ha Ec pins s1 c0.σ c1.H (λvs H2=>∃rs c2,c2.H=H2/\GU C c0 c2 (x::rs) (vx::vs)/\W (M.Eu (jo f x.2 rs)) c2.st (bZ C c0 Q)) I1 ⟨c1,t.hσ,rfl,t.ok,w.mono λrs st2 h3 c2 vs e3 e4 EH n2 r2=>by
  rw[ag,b_]at h3;subst e4;exact⟨rs,c2,rfl,⟨e3,EH,t.nx.trans n2,⟨vx,vs,rfl,t.rx.w.on t.ok n2 (e3.trans t.hσ.symm),r2.from t.nx,λhk i r' v' e5 e6 FE=>m8 t.rx.w (r2.get e5 e6) hk FE⟩,h3.1⟩,h3.2⟩⟩
 rw[hs]at hA ⊢;refine WE (by show(UO||(Ww Ec (Vf es X.env)).any (·.1))=UO;rw[E_]<;>rfl) (Xo ?_);refine Ej hA ?_;rintro us s2 ⟨vs,H2,I2,r2,rs,c2,rfl,t2,w2⟩;obtain⟨r,e,q⟩:=cp.mp w2;have z:=Bq hK t2 (by rw[t2.hσ];exact I2) rx r2 e q;rw[t2.hσ]at z;exact z
end
section
variable{X:Cx}{C:Ct}{pins:List (U8×Obj)}{s:U1}{c0 c c1:Cf}
variable{e:VO}{es:List VO}{ms:M (List (Kd×U))}{pos p p2 pos2:Pos}
noncomputable def B2.out:B2->UT
 |.H0=>.type "tuple"|.H9=>.type "list"|.sset=>.builtin "sorted"|.mM=>.builtin "len"
noncomputable def B2.ME:B2->UT
 |.H0=>.type "reversed"|.H9=>.type "reversed"|.sset=>.type "set"|.mM=>.type "set"
noncomputable def B2.m_:B2->Str
 |.H0=>"tuple"|.H9=>"list"|.sset=>"sorted"|.mM=>"len"
noncomputable def B2.gZ:B2->Str
 |.H0=>"reversed"|.H9=>"reversed"|.sset=>"set"|.mM=>"set"
theorem iF(hK:C.K=X.K)(ok:Ok C c)(tx:aI C c0 c k u v)(h:fL u=UI ss):∃a ys,v=.ref a/\(EN X.K c.H a (ys.map V.str)\/EC X.K c.H a (ys.map V.str))/\ys.length+1<Wn/\ss=ao ys:=by
 unfold fL at h;split at h
 ·rw[VJ]at h;obtain⟨ys,e,h⟩:=h;have e':=bV e;subst e';obtain⟨a',ws,ex,h1,h2⟩:=tx.list ok;rw[aj.strs]at h2;subst h2;split at h
  ·cases h;exact⟨a',ys,ex,.inl (hK▸h1),by assumption,rfl⟩
  ·cases h
 ·rw[VJ]at h;obtain⟨ys,e,h⟩:=h;have e':=bV e;subst e';obtain⟨a',ws,ex,h1,h2⟩:=tx.tuple ok;rw[aj.strs]at h2;subst h2;rw[hK]at h1;split at h
  ·cases h;exact⟨a',ys,ex,.inr h1,by assumption,rfl⟩
  ·cases h
 ·cases h
theorem Br(hc:X.calm=UN)(hK:C.K=X.K)(t:GU C c0 c rs vs)(I:Inv X pins c.σ c.H s)(rv:Vals vs us)(h:qw f rs=UI r)(q:bZ C c0 Q r c.st):
  UU (U6 X.prog X.w) X.A (X0 f.ME us) (λv s1=>UU (U6 X.prog X.w) X.A (X0 f.out [v]) (EP X pins c.σ Q) X.xe s1) X.xe s:=by
 have hσ:=t.hσ;have ok:=t.ok;have n:=t.nx;cases f with
 |sset =>
  obtain⟨x,rfl,hz⟩:=bO (f:=λx=>(fL x.2).bind λss=>if ss.length<64 then UI (Kd.own,U.lst ((av ss).map .str)) else UK) h;clear h;have h:=hz;clear hz;obtain⟨ss,e,h⟩:=VJ.mp h;obtain⟨v,rfl,tx⟩:=t.one;obtain⟨a',ys,rfl,h1,h2,rfl⟩:=iF hK ok tx e;obtain⟨u,rfl,rr⟩:=vals1 rv;cases rr;split at h
  ·cases h;exact gN hc I h1 h2 λS h' tk hS I1=>fV hc I1 hS (by assumption) λl hl=>q.list hσ ok n (aj.strs.mpr rfl) l hl
  ·cases h
 |mM =>
  obtain⟨x,rfl,hz⟩:=bO (f:=λx:Kd×U=>(fL x.2).map λss:List Str=>(Kd.loc,U.int (ss.length:Int))) h;clear h;have h:=hz;clear hz;obtain⟨ss,e,rfl⟩:=U3.mp h;obtain⟨v,rfl,tx⟩:=t.one;obtain⟨a',ys,rfl,h1,h2,rfl⟩:=iF hK ok tx e;obtain⟨u,rfl,rr⟩:=vals1 rv;cases rr;exact gN hc I h1 h2 λS h' tk hS I1=>jZ I1 hS (q.flat hσ ok n rfl)
 |_=>cases h
theorem r9:∀f:B2,Wh f.m_=UI f.out/\Wh f.gZ=UI f.ME/\f.m_≠"__name__"/\f.gZ≠"__name__"/\(f.m_==("__debug__":Str))=UO/\(f.gZ==("__debug__":Str))=UO:=by
 intro f;cases f<;>exact⟨by decide +kernel,by decide +kernel,by decide +kernel,by decide +kernel,by decide +kernel,by decide +kernel⟩
theorem Bs(f:B2):∃T,f.ME=.type T:=by cases f<;>exact⟨_,rfl⟩
theorem Bt(f:B2):(∃T,f.out=.type T)\/∃T,f.out=.builtin T:=by cases f<;>first|exact .inl ⟨_,rfl⟩|exact .inr ⟨_,rfl⟩
theorem r_{M:Model}{E:UT->U1->Prop}(h:UU M A t (λv s₁=>UU M A (X0 (.type T) [v]) Q E s₁) E s):UU M A (callWith pos (.type T) [] [(UO,t)] []) Q E s :=
 PySem.callWith_type rfl (Xo (XE (VS h (λ_ _ h₁=>YC h₁) λ_ _ e=>e)))
theorem ng{M:Model}{E:UT->U1->Prop}(h:UU M A t (λv s₁=>UU M A (X0 (.builtin T) [v]) Q E s₁) E s):UU M A (callWith pos (.builtin T) [] [(UO,t)] []) Q E s :=
 WE rfl (Xo (XE (VS h (λ_ _ h₁=>YC h₁) λ_ _ e=>e)))
theorem wm(hc:X.calm=UN)(hK:C.K=X.K)(JZ:Gl X f.gZ)(MF:X.mg f.gZ=UK)
  (ha:PA X (e::es) (FF C ms)) (he:Vf (e::es) X.env=(UO,Wo e X.env)::Vf es X.env) (EY:(Ww pos2 (Vf es X.env)).any (·.1)=UO)
  (I:Inv X pins c0.σ c0.H s) (ok:Ok C c0) (h:W (ms >>= λrs=>aA rs >>= λ_=>M.Eu (qw f rs)) c0.st (bZ C c0 Q)) :
  UU (U6 X.prog X.w) X.A (Wo (.Call (.Name f.gZ p2) (e::es) [] pos2) X.env) (λv s1=>UU (U6 X.prog X.w) X.A (X0 f.out [v]) (EP X pins c0.σ Q) X.xe s1) X.xe s:=by
 obtain⟨b1,b2,b3,b4,b5,b6⟩:=r9 f;refine Wk (dc I JZ MF b2 ?_ b4 b6);have fin:UU (U6 X.prog X.w) X.A (ş (Ww pos2 (Vf (e::es) X.env))) (λus s1=>UU (U6 X.prog X.w) X.A (X0 f.ME us) (λv s1=>UU (U6 X.prog X.w) X.A (X0 f.out [v]) (EP X pins c0.σ Q) X.xe s1) X.xe s1) X.xe s :=
  Ej (args ha I ok h pos2) λus s1 Ey=>by
   obtain⟨rs,c,vs,t,I1,rv,w⟩:=Ey;obtain⟨r,e,q⟩:=cp.mp w;have z:=Br hc hK t I1 rv e q;rw[t.hσ]at z;exact z
 obtain⟨T,hT⟩:=Bs f;rw[hT]at fin ⊢;exact Wz fin he EY
theorem yX(hc:X.calm=UN)(hK:C.K=X.K)(HG:Gl X f.m_)(Oq:X.mg f.m_=UK)(JZ:Gl X f.gZ)(MF:X.mg f.gZ=UK)
  (ha:PA X (e::es) (FF C ms)) (he:Vf (e::es) X.env=(UO,Wo e X.env)::Vf es X.env) (EY:(Ww pos2 (Vf es X.env)).any (·.1)=UO) :
  PE X (.Call (.Name f.m_ p) [.Call (.Name f.gZ p2) (e::es) [] pos2] [] pos) (Ek C (ms >>= λrs=>aA rs >>= λ_=>M.Eu (qw f rs))):=by
 rintro pins s σ H Q I ⟨c0,rfl,rfl,ok,h⟩;obtain⟨b1,b2,b3,b4,b5,b6⟩:=r9 f;refine Wk (dc I HG Oq b1 ?_ b3 b5);have inner:=wm (p2:=p2) (pos2:=pos2) hc hK JZ MF ha he EY I ok h;have eb:Ww pos (Vf [.Call (.Name f.gZ p2) (e::es) [] pos2] X.env)=[(UO,Wo (.Call (.Name f.gZ p2) (e::es) [] pos2) X.env)]:=rfl;have ek:Yo pos (Xe [] X.env)=[]:=rfl;rw[eb,ek];rcases Bt f with⟨T,hT⟩|⟨T,hT⟩
 ·rw[hT]at inner ⊢;exact r_ inner
 ·rw[hT]at inner ⊢;exact ng inner
end
section
variable{X:Cx}{C:Ct}{pins:List (U8×Obj)}{s:U1}{c0 c c1:Cf}
variable{a b d e o tg:VO}{es:List VO}{m ma mb md:M (Kd×U)}{ms:M (List (Kd×U))}{ta tb:M Bool}{pos p p2 apos Ec:Pos}
def ja(rs:List (Kd×U))(c c':Cf):Prop:=∀j u,(Kd.bor j,u)∈rs->c'.σ[j]?=c.σ[j]?
def Walk(C:Ct)(c:Cf)(rs:List (Kd×U))(xs:List (Kd×U))(J:It):Prop:=∀c',Ok C c'->Ns c c'->ja rs c c'->a5 rs c'.st ->
 (∀(i:Nat) r,xs[i]?=UI r->(r.1=.loc\/r.1=.any)/\J.go i c'.H/\∀x H',J.L4 i c'.H x H'->∃G4:Cf,G4.H=H'/\G4.σ=c'.σ/\G4.st=c'.st/\Ok C G4/\Nx c' G4/\aI C c' G4 r.1 r.2 x) /\
 ∀i:Nat,xs.length<=i->J.stop i c'.H
def Ht(C:Ct)(ik:Ik)(ms:M (List (Kd×U))):TI:=λσ H R=>∃c0:Cf,c0.σ=σ/\c0.H=H/\Ok C c0/\W (ms >>= λrs=>aA rs >>= λ_=>M.Eu (F0 ik rs) >>= λxs=>pure (rs,xs)) c0.st λq st' =>
 ∀c J,c.σ=σ->c.st=st'->Ok C c->Nx c0 c->a5 q.1 c.st->Walk C c q.1 q.2 J->R J c.H
theorem aI.walk(ok:Ok C c)(n:Ns c c')(hf:ja [r] c c')(hs:a5 [r] c'.st)(h:aI C c0 c r.1 r.2 v):aI C c0 c' r.1 r.2 v :=
 (h.w.Qi ok n λj e=>hf j r.2 (by rw[<-e];simp)).t hs
theorem wo(k:Kd):kE k=.loc\/kE k=.any:=by cases k<;>simp[kE]
theorem uo(hK:C.K=X.K)(ok:Ok C c)(h:aI C c0 c k (.lst us) (.ref a')):Walk C c [(k,.lst us)] (us.map λu=>(kE k,u)) (M' X.K a'):=by
 intro c' Er n hf hs;have h':=aI.walk (r:=(k,.lst us)) ok n hf hs h;obtain⟨a2,vs,e,h1,h2⟩:=h'.list Er;cases e;rw[hK]at h1;refine⟨λi r hr=>?_,λi hi=>⟨vs,h1,by rw[<-h2.len];simpa using hi⟩⟩;rw[Vi,U3]at hr;obtain⟨u,hu,rfl⟩:=hr;obtain⟨v,hv,rep⟩:=h2.get hu;refine⟨wo k,⟨vs,v,h1,hv⟩,λx H' hy=>?_⟩;obtain⟨e,hy⟩:=hy;subst e;have:=hy vs h1;rw[hv]at this;cases this;exact⟨c',rfl,rfl,rfl,Er,Nx.refl c',aI.item rep⟩
theorem qx(hK:C.K=X.K)(ok:Ok C c)(h:aI C c0 c k (.tup us) (.ref a')):Walk C c [(k,.tup us)] (us.map λu=>(kE k,u)) (Na X.K a'):=by
 intro c' Er n hf hs;have h':=aI.walk (r:=(k,.tup us)) ok n hf hs h;obtain⟨a2,vs,e,h1,h2⟩:=h'.tuple Er;cases e;rw[hK]at h1;refine⟨λi r hr=>?_,λi hi=>⟨vs,h1,by rw[<-h2.len];simpa using hi⟩⟩;rw[Vi,U3]at hr;obtain⟨u,hu,rfl⟩:=hr;obtain⟨v,hv,rep⟩:=h2.get hu;refine⟨wo k,⟨vs,v,h1,hv⟩,λx H' hy=>?_⟩;obtain⟨e,hy⟩:=hy;subst e;have:=hy vs h1;rw[hv]at this;cases this;exact⟨c',rfl,rfl,rfl,Er,Nx.refl c',aI.item rep⟩
theorem qy{lo:Int}:Walk C c rs ((UX n).map λi:Nat=>(Kd.loc,U.int (lo+(i:Int)))) (L6 lo n):=by
 intro c' Er nx hf hs;refine⟨λi r hr=>?_,λi hi=>by show n<=i;simpa using hi⟩;rw[Vi,U3]at hr;obtain⟨j,hu,rfl⟩:=hr;have hi:i<n:=by simpa using(UW.mp hu).1
 rw[đ hi]at hu;cases hu;refine⟨.inl rfl,hi,λy H' hy=>?_⟩;obtain⟨e,rfl⟩:=hy;subst e;exact⟨c',rfl,rfl,rfl,Er,Nx.refl c',rfl⟩
theorem Bu(hK:C.K=X.K)(ha:PE X a (Ek C ma)):PI X tg a (Ht C .seq (ma >>= λr=>pure [] >>= λrs=>pure (r::rs))):=by
 rintro pins s σ H R I ⟨c0,rfl,rfl,ok,h⟩;rw[ag,ag]at h;obtain⟨r,st1,e1,h⟩:=h;rw[ag,ai,ai,ag,b_,ag]at h;obtain⟨Ei,h⟩:=h;obtain⟨xs,e2,h⟩:=cp.mp h;rw[ai]at h;obtain⟨k,u⟩:=r;cases u with
 |lst us =>
  cases e2;refine xW ha pins s c0.σ c0.H R I ⟨c0,rfl,rfl,ok,_,st1,e1,λc v hσ hs EF n rep=>?_⟩;obtain⟨a',vs,rfl,h1,h2⟩:=rep.list EF;subst hs;exact⟨a',rfl,⟨vs,hK▸h1⟩,h c _ hσ rfl EF n Ei (uo hK EF rep)⟩
 |tup us =>
  cases e2;refine AB ha pins s c0.σ c0.H R I ⟨c0,rfl,rfl,ok,_,st1,e1,λc v hσ hs EF n rep=>?_⟩;obtain⟨a',vs,rfl,h1,h2⟩:=rep.tuple EF;subst hs;have GS:=h1;rw[hK]at GS;exact⟨a',rfl,⟨vs,GS⟩,h c _ hσ rfl EF n Ei (qx hK EF rep)⟩
 |_=>cases e2
theorem qz{k:List (Kd×U)->M β}{Em:β->aq->Prop}(ok:Ok C c0)(h:W (ms >>= λrs=>aA rs >>= λ_=>k rs) c0.st Em)
  (hz:∀rs c vs,GU C c0 c rs vs->W (k rs) c.st Em->Z vs c.H):FF C ms c0.σ c0.H Z:=by
 rw[ag]at h;refine⟨c0,rfl,rfl,ok,h.mono λrs st1 h1 c1 vs e1 e2 El n1 r1=>?_⟩;rw[ag,b_]at h1;subst e2;exact hz rs c1 vs ⟨e1,El,n1,r1,h1.1⟩ h1.2
theorem yY(hg:Gl X "range")(hm:X.mg "range"=UK)(hs:Vf [a] X.env=[(UO,Wo a X.env)])(ha:PA X [a] (FF C ms)):PI X tg (.Call (.Name "range" p) [a] [] pos) (Ht C .EG ms):=by
 rintro pins s σ H R I ⟨c0,rfl,rfl,ok,h⟩;refine tE hg hm ha hs pins s c0.σ c0.H R I (qz ok h λrs c vs t w=>?_);rw[ag]at w;obtain⟨xs,e2,w⟩:=cp.mp w;rw[ai]at w;obtain⟨x,rfl,hz⟩:=bO (f:=ud) e2;clear e2;have e2:=hz;clear hz;obtain⟨v,rfl,tx⟩:=t.one;unfold ud at e2;split at e2
 ·split at e2
  ·rename_i hh;cases e2;exact⟨_,by rw[tx.int t.ok],⋯,⋯,w c _ t.hσ rfl t.ok t.nx t.IJ qy⟩
  ·cases e2
 ·cases e2
theorem oX{k:Kd}{us:List U}{u0:U}{a':U8}{Sq:Hp->List V->Prop}(J4:∀c',Ok C c'->Ns c c'->ja [(k,u0)] c c'->a5 [(k,u0)] c'.st->∃vs,Sq c'.H vs/\aj C (SK C c' k) c'.H us vs):Walk C c [(k,u0)] (us.zipIdx.map λp=>(kE k,.tup [.int p.2,p.1])) (J3 Sq):=by
 intro c' Er n hf hs;obtain⟨vs,h1,h2⟩:=J4 c' Er n hf hs;refine⟨λi r hr=>?_,λi hi=>⟨vs,h1,by rw[<-h2.len];simpa using hi⟩⟩;rw[Vi,U3]at hr;obtain⟨p,hp,rfl⟩:=hr;rw[ć,U3]at hp;obtain⟨u,hu,rfl⟩:=hp;obtain⟨v,hv,rep⟩:=h2.get hu;refine⟨wo k,⟨vs,v,h1,hv⟩,λx H' hy=>?_⟩;obtain⟨p,Ot,rfl,hy⟩:=hy;have Jw:=hy vs v h1 hv;subst Jw;obtain⟨EH,n2⟩:=Er.lay (o:=.tup [.int i,v]) Ot;refine⟨{c' with H:=upd c'.H p (.tup [.int i,v])},rfl,rfl,rfl,EH,n2,aI.item ?_⟩;have r2:aj C (SK C c' k) c'.H [.int ((0+i:Nat):Int),u] [.int (i:Int),v]:=by
  rw[Yq];exact⟨_,_,rfl,rfl,_,_,rfl,rep,rfl⟩
 cases k<;>exact⟨p,_,rfl,EC.of au,by first|exact r2.mv (Er.HM n2)|exact r2.mv (Er.mv n2)⟩
theorem Bv{es:List VO}{kx:Nat}{ps:Pos}(hK:C.K=X.K)(hg:Gl X "enumerate")(hm:X.mg "enumerate"=UK)(hs:Vf [a] X.env=[(UO,Wo a X.env)])(ha:PA X [a] (FF C ms)):PI X (.Tuple es kx ps) (.Call (.Name "enumerate" p) [a] [] pos) (Ht C .II ms):=by
 rintro pins s σ H R I ⟨c0,rfl,rfl,ok,h⟩;refine yt hg hm ha hs pins s c0.σ c0.H R I (qz ok h λrs c vs t w=>?_);rw[ag]at w;obtain⟨xs,e2,w⟩:=cp.mp w;rw[ai]at w;obtain⟨x,rfl,hz⟩:=bO (f:=Bd) e2;clear e2;have e2:=hz;clear hz;obtain⟨v,rfl,tx⟩:=t.one;unfold Bd at e2;split at e2
 ·cases e2;obtain⟨a',ws,e1,h1,h2⟩:=tx.list t.ok;subst e1;refine⟨a',rfl,.inl ⟨⟨ws,hK▸h1⟩,w c _ t.hσ rfl t.ok t.nx t.IJ ?_⟩⟩;refine oX (a':=a') λc' Er n hf Fp=>?_;obtain⟨a2,vs,e,h1,h2⟩:=(aI.walk t.ok n hf Fp tx).list Er;cases e;exact⟨vs,hK▸h1,h2⟩
 ·cases e2;obtain⟨a',ws,e1,h1,h2⟩:=tx.tuple t.ok;subst e1;rw[hK]at h1;refine⟨a',rfl,.inr ⟨⟨ws,h1⟩,w c _ t.hσ rfl t.ok t.nx t.IJ ?_⟩⟩;refine oX (a':=a') λc' Er n hf Fp=>?_;obtain⟨a2,vs,e,h1,h2⟩:=(aI.walk t.ok n hf Fp tx).tuple Er;cases e;rw[hK]at h1;exact⟨vs,h1,h2⟩
 ·cases e2
theorem wq(J4:∀c',Ok C c'->Ns c c'->ja [(k,.lst us),(k',.tup ws)] c c'->a5 [(k,.lst us),(k',.tup ws)] c'.st->∃vs xs,EN X.K c'.H a' vs/\EC X.K c'.H b' xs/\aj C (SK C c' k) c'.H us vs/\aj C (SK C c' k') c'.H ws xs):
  Walk C c [(k,.lst us),(k',.tup ws)] ((us.zip ws).map λp=>(kT k k',.tup [p.1,p.2])) (N8 (λH xs=>EN X.K H a' xs) λH ys=>EC X.K H b' ys):=by
 intro c' Er n hf hs;obtain⟨vs,xs,s1,s2,r1,r2⟩:=J4 c' Er n hf hs;refine⟨λi r hr=>?_,λi hi=>⟨vs,xs,s1,s2,?_⟩⟩
 ·rw[Vi,U3]at hr;obtain⟨p,hp,rfl⟩:=hr;obtain⟨hu,hw⟩:=Ù.mp hp;obtain⟨v,hv,rep1⟩:=r1.get hu;obtain⟨w,GW,rep2⟩:=r2.get hw;refine⟨by cases k<;>cases k'<;>simp[kT,isAny],⟨vs,xs,v,w,s1,s2,hv,GW⟩,λx H' hy=>?_⟩;obtain⟨q,Ot,rfl,hy⟩:=hy;have Jw:=hy vs xs v w s1 s2 hv GW;subst Jw;obtain⟨EH,n2⟩:=Er.lay (o:=.tup [v,w]) Ot;refine⟨{c' with H:=upd c'.H q (.tup [v,w])},rfl,rfl,rfl,EH,n2,?_⟩;have a1:aj C (SK C c' k) c'.H [p.1] [v]:=⟨_,_,rfl,rep1,rfl⟩
  have a2:aj C (SK C c' k') c'.H [p.2] [w]:=⟨_,_,rfl,rep2,rfl⟩
  have m:aj C (SK C c' (kT k k')) c'.H [p.1,p.2] [v,w]:=(a1.mv (.up (v8 k k'))).append (a2.mv (.up (rY k k')));have z:aI C c' {c' with H:=upd c'.H q (.tup [v,w])} (kE (kT k k')) (.tup [p.1,p.2]) (.ref q):=aI.item (by
   generalize kT k k'=k0 at m;cases k0<;>exact⟨q,_,rfl,EC.of au,by first|exact m.mv (Er.HM n2)|exact m.mv (Er.mv n2)⟩)
  rw[zP]at z;exact z
 ·have e1:=r1.len;have e2:=r2.len;rw[UQ,Yc]at hi;omega
theorem oY{st:aq}(h:a5 [x,y] st):a5 [x] st/\a5 [y] st:=by
 obtain⟨k,u⟩:=x;obtain⟨k',u'⟩:=y;cases k<;>cases k'<;>first|exact⟨h.1,h.2⟩|exact⟨⟨h.1,trivial⟩,h.2⟩|exact⟨trivial,h⟩|exact⟨⟨h.1,trivial⟩,trivial⟩
theorem Bw(hK:C.K=X.K)(hg:Gl X "zip")(hm:X.mg "zip"=UK)(he:Vf (a::[b]) X.env=(UO,Wo a X.env)::Vf [b] X.env)(EY:(Ww pos (Vf [b] X.env)).any (·.1)=UO)(ha:PA X [a,b] (FF C ms)):PI X (.Tuple es kx ps) (.Call (.Name "zip" p) [a,b] [] pos) (Ht C .zip ms):=by
 rintro pins s σ H R I ⟨c0,rfl,rfl,ok,h⟩;refine A5 hg hm ha he EY pins s c0.σ c0.H R I (qz ok h λrs c vs t w=>?_);rw[ag]at w;obtain⟨xs,e2,w⟩:=cp.mp w;rw[ai]at w;have e2:Be rs=UI xs:=e2;unfold Be at e2;split at e2
 ·cases e2;obtain⟨v,v',rfl,tx,ty⟩:=t.two;obtain⟨a',w1,e1,h1,h2⟩:=tx.list t.ok;obtain⟨b',w2,e3,h3,h4⟩:=ty.tuple t.ok;subst e1 e3;rw[hK]at h3;refine⟨a',b',rfl,⟨w1,hK▸h1⟩,⟨w2,h3⟩,w c _ t.hσ rfl t.ok t.nx t.IJ ?_⟩;refine wq λc' Er n hf Fp=>?_;obtain⟨a2,vs,e,g1,g2⟩:=(aI.walk t.ok n (λj u hj=>hf j u (by simp at hj ⊢;exact .inl hj)) (oY Fp).1 tx).list Er;cases e;obtain⟨a3,E2,e,g3,g4⟩:=(aI.walk t.ok n (λj u hj=>hf j u (by simp at hj ⊢;exact .inr hj)) (oY Fp).2 ty).tuple Er;cases e;rw[hK]at g3;exact⟨vs,E2,hK▸g1,g3,g2,g4⟩
 ·cases e2
theorem Ok.put(ok:Ok C c)(n:Nx c0 c)(hi:i<c.σ.length)(hk:k=.own\/k=.loc\/k=.any)(FC:Ok C c0)(h:aI C c0 c k u v):
  Ok C {c with σ:=c.σ.set i (UI v),st:=c.st.set i (UI (k,u))}/\Nx c0 {c with σ:=c.σ.set i (UI v),st:=c.st.set i (UI (k,u))}:=by
 have FD:i<c.st.length:=by rw[ok.len];exact hi
 have EE:∀(j:Nat) k' u',(c.st.set i (UI (k,u)))[j]?=UI (UI (k',u'))->j≠i->c.st[j]?=UI (UI (k',u')):=λj k' u' e ne=>by rw[Vh (VP ne)]at e;exact e
 have F8:∀(j:Nat) v',(c.σ.set i (UI v))[j]?=UI (UI v')->j≠i->c.σ[j]?=UI (UI v'):=λj v' e ne=>by rw[Vh (VP ne)]at e;exact e
 have sl:eX C c.S c.H k u v:=by
  rcases hk with rfl|rfl|rfl
  ·obtain⟨r,e,h1,h2,h3,h4⟩:=h;obtain⟨z0,z1,z2,z3,z4⟩:=FC.j_ h1;exact⟨r,e,h2,z2,z0,h4⟩
  ·exact h
  ·exact h
 have Jy:∀(j:Nat) k' u' r,k'.root=UN->(c.st.set i (UI (k,u)))[j]?=UI (UI (k',u'))->(c.σ.set i (UI v))[j]?=UI (UI (.ref r))->j=i/\k=.own/\v=.ref r\/j≠i/\c.st[j]?=UI (UI (k',u'))/\c.σ[j]?=UI (UI (.ref r)):=λj k' u' r hr e1 e2=>by
  by_cases hj:j=i
  ·subst hj;rw[U0 FD]at e1;rw[U0 hi]at e2;cases e1;cases e2;rcases hk with rfl|rfl|rfl
   ·exact .inl ⟨rfl,rfl,rfl⟩
   ·cases hr
   ·cases hr
  ·exact .inr ⟨hj,EE j k' u' e1 hj,F8 j _ e2 hj⟩
 have dD:∀(j:Nat) (u':U),(c.st.set i (UI (k,u)))[j]?=UI (UI (.Eb,u'))->c.st[j]?=UI (UI (.Eb,u'))/\(c.σ.set i (UI v))[j]?=c.σ[j]?:=λj u' e=>by
  by_cases hj:j=i
  ·subst hj;rw[U0 FD]at e;cases e;rcases hk with hk|hk|hk<;>cases hk
  ·exact⟨EE j .Eb u' e hj,Vh (VP hj)⟩
 have b1:∀a,({c with σ:=c.σ.set i (UI v),st:=c.st.set i (UI (k,u))}:Cf).R1 a->c.R1 a\/k=.own/\v=.ref a:=λa Ey=>by
  obtain⟨j,k',u',hr,e1,e2⟩:=Ey;rcases Jy j k' u' a hr e1 e2 with⟨a1,a2,a3⟩|⟨a1,a2,a3⟩
  ·exact .inr ⟨a2,a3⟩
  ·exact .inl ⟨j,k',u',hr,a2,a3⟩
 have Hs:G3 C {c with σ:=c.σ.set i (UI v),st:=c.st.set i (UI (k,u))}:=ok.dd.of rfl dD (λa z=>(b1 a z).imp id λ⟨q1,q2⟩ j z'=>by
  subst q1;obtain⟨r',e,_,_,h3,_⟩:=h;rw[q2]at e;cases e;exact h3 (.inr ⟨j,z'⟩)) (.up λ_ z=>z) λj a z=>⟨(ok.root (.inr ⟨j,z⟩)).1,λo q=>q⟩
 refine⟨⟨ok.same,ok.F5,ok.par,ok.io,by simp[ok.len],λj k' u' e=>?_,λj1 j2 k1 k2 u1 u2 r Jz Ls e1 e2 e3 e4=>?_,Hs⟩,⟨⟨n.keep,n.there,λa z=>?_,n.sub,n.new⟩,n.all⟩⟩
 ·by_cases hj:j=i
  ·subst hj;rw[U0 FD]at e;cases e;exact⟨v,by rw[U0 hi],sl⟩
  ·obtain⟨v',e1,e2⟩:=ok.sl j k' u' (EE j k' u' e hj);exact⟨v',by rw[Vh (VP hj)];exact e1,e2⟩
 ·have z1:=Jy j1 k1 u1 r Jz e1 e3;have z2:=Jy j2 k2 u2 r Ls e2 e4;rcases z1 with⟨a1,a2,a3⟩|⟨a1,a2,a3⟩
  ·rcases z2 with⟨b1,b2,b3⟩|⟨b1,b2,b3⟩
   ·exact a1.trans b1.symm
   ·subst a2;obtain⟨r',e,h1,h2,h3,h4⟩:=h;rw[a3]at e;cases e;exact(h3 (.inl ⟨j2,k2,u2,Ls,b2,b3⟩)).elim
  ·rcases z2 with⟨b1,b2,b3⟩|⟨b1,b2,b3⟩
   ·subst b2;obtain⟨r',e,h1,h2,h3,h4⟩:=h;rw[b3]at e;cases e;exact(h3 (.inl ⟨j1,k1,u1,Jz,a2,a3⟩)).elim
   ·exact ok.inj j1 j2 k1 k2 u1 u2 r Jz Ls a2 b2 a3 b3
 ·rcases z with z|⟨j,u',r',e1,e2,e3⟩
  ·rcases b1 a z with z|⟨a2,a3⟩
   ·exact n.roots a (.inl z)
   ·subst a2;obtain⟨r',e,h1,h2,h3,h4⟩:=h;rw[a3]at e;cases e;exact .inr h1
  ·obtain⟨q1,q2⟩:=dD j u' e1;exact n.roots a (.inr ⟨j,u',r',q1,q2▸e2,e3⟩)
theorem sd(FC:Ok C c0)(ok:Ok C c)(n:Nx c0 c)(hi:i<c.σ.length)(hr:aI C c0 c r.1 r.2 v)(h:W (d6 i r) c.st Em):
  ∃c',c'.σ=c.σ.set i (UI v)/\c'.H=c.H/\Ok C c'/\Nx c0 c'/\Em () c'.st:=by
 obtain⟨k,u⟩:=r;cases k with
 |own =>
  obtain⟨x,st',e,hp⟩:=h;cases e;obtain⟨a1,a2⟩:=ok.put n hi (.inl rfl) FC hr;exact⟨{c with σ:=c.σ.set i (UI v),st:=c.st.set i (UI (.own,u))},rfl,rfl,a1,a2,hp⟩
 |loc =>
  obtain⟨x,st',e,hp⟩:=h;cases e;obtain⟨a1,a2⟩:=ok.put n hi (.inr (.inl rfl)) FC hr;exact⟨{c with σ:=c.σ.set i (UI v),st:=c.st.set i (UI (.loc,u))},rfl,rfl,a1,a2,hp⟩
 |any =>
  obtain⟨x,st',e,hp⟩:=h;cases e;obtain⟨a1,a2⟩:=ok.put n hi (.inr (.inr rfl)) FC hr;exact⟨{c with σ:=c.σ.set i (UI v),st:=c.st.set i (UI (.any,u))},rfl,rfl,a1,a2,hp⟩
 |bor j =>
  obtain⟨x,st',e,hp⟩:=h;rw[show d6 i (.bor j,u) c.st=match c.st[j]? with|some (UI (.own,u))=>UI (Ex.ok (),(c.st.set j (UI (.loc,u))).set i (UI (.loc,u)))|_=>UK from rfl]at e;split at e
  ·rename_i w hj;cases e;obtain⟨v',e1,r,er,_⟩:=ok.sl j _ _ hj;have hv:c.σ[j]?=UI (UI v):=hr.2;rw[hv]at e1;cases e1;subst er;obtain⟨Er,n',rep⟩:=ok.wd n hj hv;obtain⟨a1,a2⟩:=Ok.put (c:={c with S:=λa=>c.S a\/a=r,st:=c.st.set j (UI (.loc,w))}) Er n' (k:=.loc) (u:=w) (v:=.ref r) hi (.inr (.inl rfl)) FC rep;exact⟨{S:=λa=>c.S a\/a=r,H:=c.H,σ:=c.σ.set i (UI (.ref r)),st:=(c.st.set j (UI (.loc,w))).set i (UI (.loc,w)),kid:=c.kid},rfl,rfl,a1,a2,hp⟩
  ·cases e
 |_=>exact hr.elim
end
section
def tG(C:Ct)(t:Bool)(is:List Nat):TG:=λv σ H Q=>∃c0 c r,c.σ=σ/\c.H=H/\Ok C c0/\Ok C c/\Nx c0 c/\aI C c0 c r.1 r.2 v/\W (cH t is r) c.st λ_ st' =>
 ∀c',c'.st=st'->Ok C c'->Nx c0 c'->(∀j,j∉is->c'.σ[j]?=c.σ[j]?)->c'.σ.length=c.σ.length->Q c'.σ c'.H
structure qA(X:Cx)(e:VO)(i:Nat):Prop where
 is:∃x pos,e=.Name x pos/\X.N[i]?=UI x/\Loc X.env.scope x/\(X.fn x=UN\/X.env.scope.names.lookup x=UI .local)
theorem Bx(hN:X.N.Nodup)(h:qA X e i):PG X e (tG C UO [i]):=by
 obtain⟨x,pos,rfl,h1,h2,h3⟩:=h.is;rintro pins s σ H v u Q I rv ⟨c0,c,r,rfl,rfl,FC,ok,n,rep,w⟩;have hi:i<c.σ.length:=by rw[I.len];exact(UW.mp h1).1
 obtain⟨c',e1,e2,Er,n',q⟩:=sd (r:=r) FC ok n hi rep w;refine rA hN h1 h2 h3 pins s c.σ c.H v u Q I rv ?_;have z:=q c' rfl Er n' (λj hj=>by rw[e1,Vh (by intro z;exact hj (by simp[z]))]) (by rw[e1];simp);rw[e1,e2]at z;exact z
noncomputable def Ou:List Nat->JS
 |[]=>Ce
 |i::is=>zG (rq i) (Ou is)
inductive d8(X:Cx):List VO->List Nat->Prop where
 |nil:d8 X [] []
 |cons {e:VO} {es:List VO} {i:Nat} {is:List Nat} (h:qA X e i) (t:d8 X es is):d8 X (e::es) (i::is)
theorem uq(hN:X.N.Nodup)(h:d8 X es is):Ko X es (Ou is):=by
 induction h with
 |nil=>exact xU
 |cons h t ih =>
  obtain⟨x,pos,rfl,h1,h2,h3⟩:=h.is;exact u5 (rA hN h1 h2 h3) ih rfl
theorem qB(h:d8 X es is):(XX es X.env).length=is.length/\(XX es X.env).findIdx? (·.1)=UK:=by
 induction h with
 |nil=>exact⟨rfl,rfl⟩
 |cons h t ih =>
  obtain⟨x,pos,rfl,h1,h2,h3⟩:=h.is;refine⟨?_,?_⟩
  ·show(_::_).length=_;simp[ih.1]
  ·show â _ (_::_)=UK;rw[List.findIdx?_cons,ε (by simp),ih.2];rfl
theorem se(hk:kE k=k)(FC:Ok C c0):∀{is:List Nat}{us:List U}{vs:List V}{c:Cf}{Em:Unit->aq->Prop}{Q:L2.St->Hp->Prop},Ok C c->Nx c0 c->(∀i∈is,i<c.σ.length)->aj C (SK C c k) c.H us vs->W (sets is (us.map λu=>(k,u))) c.st Em ->
  (∀c',Em () c'.st->Ok C c'->Nx c0 c'->(∀j,j∉is->c'.σ[j]?=c.σ[j]?)->c'.σ.length=c.σ.length->Q c'.σ c'.H)->Ou is vs c.σ c.H Q
 |[],[],vs,c,Em,Q,ok,n,hi,rep,w,q=>by
  rw[show sets [] (X9 (λu=>(k,u)) [])=pure () from rfl,ai]at w;exact⟨rep,q c w ok n (λ_ _=>rfl) rfl⟩
 |[],u::us,vs,c,Em,Q,ok,n,hi,rep,w,q=>(aC.mp w).elim
 |i::is,[],vs,c,Em,Q,ok,n,hi,rep,w,q=>(aC.mp w).elim
 |i::is,u::us,vs,c,Em,Q,ok,n,hi,rep,w,q=>by
  rw[show sets (i::is) (X9 (λu=>(k,u)) (u::us))=d6 i (k,u) >>= λ_=>sets is (us.map λu=>(k,u)) from rfl,ag]at w;obtain⟨v,r,rfl,h1,h2⟩:=rep;have FE:k=.own\/k=.loc\/k=.any:=by cases k<;>simp[kE]at hk<;>simp
  have IK:k≠.own:=by cases k<;>simp[kE]at hk<;>simp
  have rt:aI C c0 c k u v:=by rw[<-hk];exact aI.item h1
  obtain⟨a1,a2⟩:=ok.put n (hi i (by simp)) FE FC rt;have es:d6 i (k,u)=λst=>UI (.ok (),st.set i (UI (k,u))):=by cases k<;>simp[kE]at hk<;>rfl
  obtain⟨_,st',e,w'⟩:=w;rw[es]at e;cases e;refine⟨v,r,rfl,se (c:={c with σ:=c.σ.set i (UI v),st:=c.st.set i (UI (k,u))}) hk FC a1 a2 (λj hj=>by simpa using hi j (by simp[hj])) (by cases k<;>exact h2) w' λc' p Er n' hf hl=>?_⟩;refine q c' p Er n' (λj hj=>?_) (by rw[hl];simp);rw[hf j (λz=>hj (by simp[z])),Vh (λz=>hj (by simp[z]))]
theorem CS(hc:X.calm=UN)(hK:C.K=X.K)(hN:X.N.Nodup)(h:d8 X es is)(hl:∀i∈is,i<X.N.length):PG X (.Tuple es kk pos) (tG C UN is):=by
 rintro pins s σ H v u Q I rv ⟨c0,c,r,rfl,rfl,FC,ok,n,rep,w⟩;obtain⟨e1,e2⟩:=qB h;refine Aw hc (uq hN h) e1 e2 pins s c.σ c.H v u Q I rv ?_;obtain⟨k,ux⟩:=r;cases ux with
 |tup us =>
  rw[show cH UN is (k,.tup us)=sets is (us.map λu=>(kE k,u)) from by cases is<;>rfl]at w;obtain⟨a',vs,rfl,h1,h2⟩:=rep.tuple ok;rw[hK]at h1;have hlen:us.length=is.length:=by
   have aux:∀(is:List Nat) (l:List (Kd×U)) (st:aq) (P:Unit->aq->Prop),W (sets is l) st P->l.length=is.length:=by
    intro is;induction is with
    |nil=>intro l st P w;cases l with
     |nil=>rfl
     |cons _ _=>exact(aC.mp w).elim
    |cons i is ih=>intro l st P w;cases l with
     |nil=>exact(aC.mp w).elim
     |cons x l =>
      rw[show sets (i::is) (x::l)=d6 i x >>= λ_=>sets is l from rfl,ag]at w;obtain⟨_,_,_,w⟩:=w;rw[Vj,Vj,ih l _ _ w]
   simpa using aux _ _ _ _ w
  refine⟨a',vs,rfl,h1,by rw[<-h2.len,hlen],?_⟩;refine se (k:=kE k) (by cases k<;>rfl) FC ok n (λi hi=>by rw[I.len];exact hl i hi) (by cases k<;>exact h2) w λc' p Er n' hf Io=>p c' rfl Er n' hf Io
 |_=>cases is<;>exact(aC.mp w).elim
end
section
variable{X:Cx}{C:Ct}{pins:List (U8×Obj)}{s:U1}{c0 c c1:Cf}
variable{a b d e o tg iter elt:VO}{es ifs:List VO}{m ma mb md me:M (Kd×U)}{ms:M (List (Kd×U))}{ta tb tc:M Bool}{pos p p2 apos Ec:Pos}
theorem ur{m:M α}{st:aq}{Q:α->aq->Prop}:W (inScope k m) st Q↔W m (Vk k UK++st) λa st'=>Q a (st'.drop k):=by
 constructor
 ·rintro⟨a,st',e,h⟩;unfold inScope at e;cases q:m (Vk k UK++st) with
  |none=>rw[q]at e;cases e
  |some r=>obtain⟨r1,r2⟩:=r;rw[q]at e;cases e;exact⟨a,r2,q,h⟩
 ·rintro⟨a,st',e,h⟩;exact⟨a,st'.drop k,by unfold inScope;rw[e],h⟩
noncomputable def Cf.ext(k:Nat)(c:Cf):Cf:={c with σ:=Vk k UK++c.σ,st:=Vk k UK++c.st,kid:=λj=>c.kid (j - k)}
noncomputable def Cf.cut(k:Nat)(c:Cf):Cf:={c with σ:=c.σ.drop k,st:=c.st.drop k,kid:=λj=>c.kid (k+j)}
theorem fA(h:(Vk k UK++l)[j]?=UI (UI x)):∃i,j=k+i/\l[i]?=UI (UI x):=by
 by_cases hj:j<k
 ·rw[VY (by simpa using hj)]at h;rw[WX]at h;rw[δ hj]at h;cases h
 ·refine⟨j - k,⋯,?_⟩;rw[VH (by simp;omega)]at h;simpa using h
theorem d9:(Vk k UK++l)[k+i]?=l[i]?:=by
 rw[VH (by simp)];simp
theorem wt:(c.ext k).R1 r↔c.R1 r:=by
 constructor
 ·rintro⟨j,kd,u,h1,h2,h3⟩;obtain⟨i,rfl,e⟩:=fA h2;rw[Cf.ext,d9]at h3;exact⟨i,kd,u,h1,e,h3⟩
 ·rintro⟨i,kd,u,h1,h2,h3⟩;exact⟨k+i,kd,u,h1,by rw[Cf.ext,d9];exact h2,by rw[Cf.ext,d9];exact h3⟩
theorem nh{a:U8}(h:(c.ext k).RD j a):∃i,j=k+i/\c.RD i a:=by
 obtain⟨u,r,e1,e2,e3⟩:=h;obtain⟨i,rfl,e⟩:=fA e1;rw[Cf.ext,d9]at e2;refine⟨i,rfl,u,r,e,e2,?_⟩;have:(c.ext k).kid (k+i)=c.kid i:=by show c.kid (k+i - k)=_;rw[ì]
 rw[this]at e3;exact e3
theorem CT(h:(c.ext k).R r):c.R r:=by
 rcases h with h|⟨j,h⟩
 ·exact .inl (wt.mp h)
 ·obtain⟨i,_,h⟩:=nh h;exact .inr ⟨i,h⟩
theorem Ok.ext(k:Nat)(ok:Ok C c):Ok C (c.ext k)/\Nx c (c.ext k):=by
 refine⟨⟨ok.same,ok.F5,ok.par,ok.io,by simp[Cf.ext,ok.len],λj kd u e=>?_,λi j k1 k2 u u' r h1 h2 e1 e2 e3 e4=>?_,⟨λj u r e1 e2=>?_,λi j a z1 z2=>?_,λj a z1 z2=>?_⟩⟩,⟨⟨λ_ _ h _=>h,λ_ o h=>⟨o,h⟩,λa h=>.inl (CT h),λ_ h=>h,λ_ h=>.inl h⟩,λ_ _ h=>h⟩⟩
 ·obtain⟨i,rfl,e'⟩:=fA e;obtain⟨v,e1,e2⟩:=ok.sl i kd u e';exact⟨v,by rw[Cf.ext,d9];exact e1,e2⟩
 ·obtain⟨i',rfl,E9⟩:=fA e1;obtain⟨j',rfl,FY⟩:=fA e2;rw[Cf.ext,d9]at e3 e4;rw[ok.inj i' j' k1 k2 u u' r h1 h2 E9 FY e3 e4]
 ·obtain⟨i,rfl,e⟩:=fA e1;rw[Cf.ext,d9]at e2;have:(c.ext k).kid (k+i)=c.kid i:=by show c.kid (k+i - k)=_;rw[ì]
  rw[this];exact ok.dd.kd i u r e e2
 ·obtain⟨i',rfl,y1⟩:=nh z1;obtain⟨j',rfl,y2⟩:=nh z2;rw[ok.dd.dj i' j' a y1 y2]
 ·obtain⟨i,rfl,y1⟩:=nh z1;exact ok.dd.d1 i a y1 (wt.mp z2)
theorem wu{a:U8}(h:(c.cut k).R1 a):c.R1 a:=by
 obtain⟨j,kd,u,h1,h2,h3⟩:=h;rw[Cf.cut,WL]at h2 h3;exact⟨k+j,kd,u,h1,h2,h3⟩
theorem ni{a:U8}(h:(c.cut k).RD j a):c.RD (k+j) a:=by
 obtain⟨u,r,h1,h2,h3⟩:=h;rw[Cf.cut,WL]at h1 h2;exact⟨u,r,h1,h2,h3⟩
theorem Ok.cut(k:Nat)(ok:Ok C c):Ok C (c.cut k)/\Nx c (c.cut k):=by
 refine⟨⟨ok.same,ok.F5,ok.par,ok.io,by simp[Cf.cut,ok.len],λj kd u e=>?_,λi j k1 k2 u u' r h1 h2 e1 e2 e3 e4=>?_,⟨λj u r e1 e2=>?_,λi j a z1 z2=>?_,λj a z1 z2=>ok.dd.d1 _ a (ni z1) (wu z2)⟩⟩,⟨⟨λ_ _ h _=>h,λ_ o h=>⟨o,h⟩,λa h=>.inl (h.elim (λz=>.inl (wu z)) λ⟨j,z⟩=>.inr ⟨k+j,ni z⟩),λ_ h=>h,λ_ h=>.inl h⟩,λ_ _ h=>h⟩⟩
 ·rw[Cf.cut,WL]at e;obtain⟨v,e1,e2⟩:=ok.sl _ kd u e;exact⟨v,by rw[Cf.cut,WL];exact e1,e2⟩
 ·rw[Cf.cut,WL]at e1 e2 e3 e4;have:=ok.inj _ _ k1 k2 u u' r h1 h2 e1 e2 e3 e4;omega
 ·rw[Cf.cut,WL]at e1 e2;exact ok.dd.kd _ u r e1 e2
 ·have:=ok.dd.dj _ _ a (ni z1) (ni z2);omega
theorem yZ(h:∀j,j∉UX k->σ'[j]?=(Vk k UK++σ)[j]?)(hl:σ'.length=(Vk k (UK:Option V)++σ).length):∃own:L2.St,own.length=k/\σ'=own++σ:=by
 refine⟨σ'.take k,by rw[V9,hl];simp,?_⟩;apply List.ext_getElem?;intro j;by_cases hj:j<k
 ·rw[VY (by rw[V9,hl];simp;omega),List.getElem?_take,δ hj]
 ·rw[h j (by simpa using hj),VH (by simp;omega),VH (by rw[V9,hl];simp;omega)];congr 1
  rw[V9,hl];simp
theorem lV(e1:c1.σ=c0.σ)(El:Ok C c1)(n1:Nx c0 c1)(hw:Walk C c1 rs xs J)(h3:W (br k t tc me rs xs []) c1.st λus st'=>W (pure (Kd.own,U.lst us)) st' (bZ C c0 Q)):
  rG k J (tG C t (UX k)) (Fq C tc) (Ek C me) Q c0.σ c1.H:=by
 refine⟨λi m ys H=>∃c acc,c.H=H/\c.σ=c0.σ/\Ok C c/\Nx c1 c/\m=xs.length - i/\i<=xs.length/\aj C c.S c.H acc ys/\acc.length<=US/\W (br k t tc me rs (xs.drop i) acc) c.st λus st'=>W (pure (Kd.own,U.lst us)) st' (bZ C c0 Q),⟨xs.length,c1,[],rfl,e1,El,Nx.refl c1,by simp,Vo _,rfl,Vo _,by simpa using h3⟩,?_⟩;rintro i m ys H ⟨c,acc,rfl,e3,EF,nc,rfl,hi,rep,hlen,w⟩;refine⟨by rw[<-rep.len];exact hlen,?_⟩;have fixed:ja rs c1 c:=λj u _=>by rw[e3,e1]
 by_cases Ez:i<xs.length
 ·right
  rw[YD Ez]at w;rw[show br k t tc me rs (xs[i]::xs.drop (i+1)) acc=aA rs >>= λ_=>inScope k (cH t (UX k) xs[i] >>= λ_=>tc >>= λb=>if b=UN then(me >>= λr=>lift r >>= λu=>pure (UI u)) else pure UK) >>= λr=>match r with|some u=>if acc.length<US then br k t tc me rs (xs.drop (i+1)) (acc++[u]) else M.fail|none=>br k t tc me rs (xs.drop (i+1)) acc from rfl,ag,b_]at w;obtain⟨Hu,w⟩:=w;obtain⟨wk,_⟩:=hw c EF nc fixed Hu;obtain⟨Ov,Kb,MG⟩:=wk i xs[i] (by simp[Ez]);refine⟨Kb,λFL H'=>∃c acc,c.H=H'/\c.σ=c0.σ/\Ok C c/\Nx c1 c/\aj C c.S c.H acc FL/\acc.length<=US/\W (br k t tc me rs (xs.drop (i+1)) acc) c.st λus st'=>W (pure (Kd.own,U.lst us)) st' (bZ C c0 Q),λFL H' ⟨c',KZ,z1,z2,z3,z4,z5,z6,z7⟩=>⟨xs.length - (i+1),⋯,c',KZ,z1,z2,z3,z4,rfl,Ez,z5,z6,z7⟩,λx H' hy=>?_⟩;obtain⟨c2,rfl,e4,e5,EH,n2,rt⟩:=MG x H' hy;rw[ag,ur,ag]at w;obtain⟨Qm,nx⟩:=EH.ext k;have Sy:aI C (c2.ext k) (c2.ext k) xs[i].1 xs[i].2 x:=by
   rcases Ov with z|z
   ·rw[z]at rt ⊢;exact rt
   ·rw[z]at rt ⊢;exact rt
  have eσ:(c2.ext k).σ=Vk k UK++c0.σ:=by rw[Cf.ext];show Vk k UK++c2.σ=_;rw[e4,e3]
  refine⟨c2.ext k,c2.ext k,xs[i],eσ,rfl,Qm,Qm,Nx.refl _,Sy,?_⟩;have Ow:(c2.ext k).st=Vk k UK++c.st:=by rw[Cf.ext];show Vk k UK++c2.st=_;rw[e5]
  rw[Ow];refine w.mono λ_ st3 w3 c3 e6 Gr n3 Lv MH=>?_;subst e6;rw[eσ]at Lv MH;obtain⟨own,Gm,Ga⟩:=yZ Lv MH;refine⟨own,Gm,Ga,?_⟩;have Qn:Nx c c3:=(n2.trans nx).trans n3;rw[ag]at w3;refine⟨c3,rfl,rfl,Gr,w3.mono λb JW w4 c4 e7 e8 JA n4=>?_⟩;subst e8;cases b with
  |false =>
   rw[ε Vw]at w4 ⊢;rw[ai]at w4;obtain⟨Ox,nk⟩:=JA.cut k;have nn:Nx c (c4.cut k):=(Qn.trans n4).trans nk;refine⟨c4.cut k,acc,rfl,?_,Ox,nc.trans nn,rep.mv (EF.mv nn),hlen,w4⟩;show c4.σ.drop k=_;rw[e7,Ga,Z7 Gm]
  |true =>
   rw[δ rfl]at w4 ⊢;rw[ag]at w4;refine⟨c4,e7,rfl,JA,w4.mono λr GX w5 c5 v e9 Sz SD n5 SE=>?_⟩;subst Sz;rw[ag]at w5;obtain⟨S',st',u,sS,SF,n6,Oy,w6,_,_⟩:=gW JA SD n5 SE.w w5;rw[ai]at w6
   dsimp only at w6
   split at w6
   ·rename_i hz;obtain⟨Ox,nk⟩:=SF.cut k;have nn:Nx c (Cf.cut k {c5 with S:=S',st:=st' }):=((Qn.trans n4).trans n6).trans nk;refine⟨Cf.cut k {c5 with S:=S',st:=st' },acc++[u],rfl,?_,Ox,nc.trans nn,(rep.mv (EF.mv nn)).snoc Oy,by rw[U'];exact hz,w6⟩;show c5.σ.drop k=_;rw[e9,Ga,Z7 Gm]
   ·exact(aC.mp w6).elim
 ·left
  have FD:i=xs.length:=by omega
  subst FD;rw[ĸ,show br k t tc me rs [] acc=aA rs >>= λ_=>pure acc from rfl,ag,b_,ai,ai]at w;obtain⟨_,wk⟩:=hw c EF nc fixed w.1;exact⟨wk _ (U_ _),λp hp=>bZ.list w.2 e3 EF (n1.trans nc) rep p hp⟩
theorem lW(ok:Ok C c0)
  (h:W (ms >>= λrs=>aA rs >>= λ_=>M.Eu (F0 ik rs) >>= λxs=>br k t tc me rs xs [] >>= λus=>pure (Kd.own,U.lst us)) c0.st (bZ C c0 Q)) :
  vt k (Ht C ik ms) (tG C t (UX k)) (Fq C tc) (Ek C me) c0.σ c0.H Q:=by
 rw[ag]at h;refine⟨c0,rfl,rfl,ok,?_⟩;rw[ag];refine h.mono λrs st1 h1=>?_;rw[ag,b_]at h1 ⊢;refine⟨h1.1,?_⟩;have h2:=h1.2;rw[ag]at h2 ⊢;refine h2.mono λxs st2 h3=>?_;rw[ai];intro c1 J e1 e2 El n1 Ei hw;rw[ag]at h3;subst e2
 dsimp only at Ei hw
 exact lV e1 El n1 hw h3
theorem wx(S:de X N own scope)(hc:X.calm=UN)(hi:PI X tg iter (Ht C ik ms))
  (hg:∀D s H ex,PG (Fb X N scope D s H ex) tg (tG C t (UX own.length))) (hf:∀D s H ex,HF (Fb X N scope D s H ex) ifs (Fq C tc)) (he:∀D s H ex,PE (Fb X N scope D s H ex) elt (Ek C me))
  (hs:∀x,WU iter X.env x=pure x) :
  PE X (.ListComp elt [⟨tg,iter,ifs,0⟩] scope pos) (Ek C (ms >>= λrs=>aA rs >>= λ_=>M.Eu (F0 ik rs) >>= λxs=>br own.length t tc me rs xs [] >>= λus=>pure (.own,.lst us))):=by
 refine PE.weak (rH S hc hi hg hf he hs) ?_;rintro σ H Q ⟨c0,rfl,rfl,ok,h⟩;exact lW ok h
end
section
variable{a b d e o tg iter elt:VO}{es ifs:List VO}{m ma mb md me:M (Kd×U)}{ms:M (List (Kd×U))}{ta tb tc:M Bool}{pos p p2 apos Ec:Pos}{st:Ya}{rest body:List Ya}{f g mm:M Fl}{ns MI:Nat->Bool}
def CU(C:Ct)(c:Cf):Kd->U->V->Prop
 |.own,u,v=>∃r,v=.ref r/\C.H₀ r=UK/\¬c.S r/\¬c.R r/\di C c.S c.H r u
 |.loc,u,v=>Rep C c.S c.H u v
 |.any,u,v=>Rep C (PS C c.S) c.H u v
 |_,_,_=>False
def Fin(C:Ct)(D:Ends)(f:Fl)(c:Cf):Prop:=match f with
 |.nx=>D.nx c.σ c.H
 |.bk=>D.bk c.σ c.H
 |.ct=>D.ct c.σ c.H
 |.rt k u=>∀v,CU C c k u v->D.rt v c.H
def Kept(ns:Nat->Bool)(c c':Cf):Prop:=(∀j,ns j=UN->c'.σ[j]?=c.σ[j]?)/\c'.σ.length=c.σ.length
theorem Kept.refl:Kept ns c c:=⟨λ_ _=>rfl,rfl⟩
theorem Kept.trans(h:Kept ns c c')(h':Kept ns c' G4):Kept ns c G4:=⟨λj z=>(h'.1 j z).trans (h.1 j z),h'.2.trans h.2⟩
theorem Kept.le(i:∀j,MI j=UN->ns j=UN)(h:Kept ns c c'):Kept MI c c':=⟨λj z=>h.1 j (i j z),h.2⟩
theorem Kept.of(h:c'.σ=c.σ):Kept ns c c':=⟨λj z=>by rw[h],by rw[h]⟩
def kl(C:Ct)(c0:Cf)(ns:Nat->Bool)(D:Ends)(f:Fl)(st':aq):Prop:=∀c,c.st=st'->Ok C c->Ns c0 c->Kept ns c0 c->Fin C D f c
def E5(C:Ct)(ns:Nat->Bool)(m:M Fl):TS:=λD σ H=>∃c0:Cf,c0.σ=σ/\c0.H=H/\Ok C c0/\W m c0.st (kl C c0 ns D)
theorem qC(ok:Ok C c1)(n:Ns c0 c1)(k:Kept ns c0 c1)(h:W mm c1.st (kl C c0 ns D)):E5 C ns mm D c1.σ c1.H :=
 ⟨c1,rfl,rfl,ok,h.mono λf st h2 c2 e EH n2 k2=>h2 c2 e EH (n.trans n2) (k.trans k2)⟩
theorem PS.weak(h:L2.PS X st t)(i:∀D σ H,t' D σ H->t D σ H):L2.PS X st t':=λpins s σ H D I q=>h pins s σ H D I (i D σ H q)
theorem Ff.weak(h:Ff X rest t)(i:∀D σ H,t' D σ H->t D σ H):Ff X rest t':=λpins s σ H D I q=>h pins s σ H D I (i D σ H q)
theorem nj(i:∀j,MI j=UN->ns j=UN)(h:E5 C MI mm D σ H):E5 C ns mm D σ H :=
 let ⟨c0,e1,e2,ok,w⟩:=h;⟨c0,e1,e2,ok,w.mono λf st h2 c2 e EH n2 k2=>h2 c2 e EH n2 (k2.le i)⟩
theorem CV:Ff X [] (E5 C ns (pure .nx)):=by
 refine Ff.weak xR ?_;rintro D σ H ⟨c0,rfl,rfl,ok,h⟩;rw[ai]at h;exact h c0 rfl ok (Ns.refl c0) Kept.refl
noncomputable def y4(m:M Fl)(f:Fl):M Fl:=match f with
 |.nx=>m
 |f=>pure f
theorem By(h1:L2.PS X st (E5 C ns f))(h2:Ff X rest (E5 C ns g)):Ff X (st::rest) (E5 C ns (f >>= y4 g)):=by
 refine Ff.weak (uZ h1 h2) ?_;rintro D σ H ⟨c0,rfl,rfl,ok,h⟩;rw[ag]at h;refine⟨c0,rfl,rfl,ok,h.mono λfl st1 w c1 e El n1 k1=>?_⟩;subst e;cases fl with
 |nx=>exact qC El n1 k1 w
 |bk=>rw[show y4 g .bk=pure .bk from rfl,ai]at w;exact w c1 rfl El n1 k1
 |ct=>rw[show y4 g .ct=pure .ct from rfl,ai]at w;exact w c1 rfl El n1 k1
 |rt k u=>rw[show y4 g (.rt k u)=pure (.rt k u) from rfl,ai]at w;exact w c1 rfl El n1 k1
theorem CW:L2.PS X (.Break pos) (E5 C ns (pure .bk)):=by
 refine PS.weak u3 ?_;rintro D σ H ⟨c0,rfl,rfl,ok,h⟩;rw[ai]at h;exact h c0 rfl ok (Ns.refl c0) Kept.refl
theorem CY:L2.PS X (.Continue pos) (E5 C ns (pure .ct)):=by
 refine PS.weak oi ?_;rintro D σ H ⟨c0,rfl,rfl,ok,h⟩;rw[ai]at h;exact h c0 rfl ok (Ns.refl c0) Kept.refl
theorem CZ:L2.PS X (.Pass pos) (E5 C ns (pure .nx)):=by
 refine PS.weak xS ?_;rintro D σ H ⟨c0,rfl,rfl,ok,h⟩;rw[ai]at h;exact h c0 rfl ok (Ns.refl c0) Kept.refl
theorem C0(ha:PE X a (Ek C ma))(hs:Yi a UK pos.line X.env=pure UO):L2.PS X (.Expr a pos) (E5 C ns (ma >>= λ_=>pure .nx)):=by
 refine PS.weak (jq ha hs) ?_;rintro D σ H ⟨c0,rfl,rfl,ok,h⟩;refine aN ok h λx c v t w=>?_;rw[ai]at w;have:=w c rfl t.ok t.nx (Kept.of t.hσ);rw[<-t.hσ];exact this
theorem Bz:L2.PS X (.Return UK pos) (E5 C ns (pure (.rt .loc .Es))):=by
 refine PS.weak xT ?_;rintro D σ H ⟨c0,rfl,rfl,ok,h⟩;rw[ai]at h;exact h c0 rfl ok (Ns.refl c0) Kept.refl .Es rfl
theorem C1(ha:PE X a (Ek C ma)):L2.PS X (.Return (UI a) pos) (E5 C ns (ma >>= retS)):=by
 refine PS.weak (u4 ha) ?_;rintro D σ H ⟨c0,rfl,rfl,ok,h⟩;refine aN ok h λx c v t w=>?_;obtain⟨k,u⟩:=x;obtain⟨hσ,EF,n,r⟩:=t;cases k with
 |own =>
  rw[show retS (.own,u)=pure (.rt .own u) from rfl,ai]at w;obtain⟨r0,e,h1,h2,h3,h4⟩:=r;exact w c rfl EF n (Kept.of hσ) v ⟨r0,e,(ok.j_ h1).1,h2,h3,h4⟩
 |loc =>
  rw[show retS (.loc,u)=pure (.rt .loc u) from rfl,ai]at w;exact w c rfl EF n (Kept.of hσ) v r
 |any =>
  rw[show retS (.any,u)=if EL u=UN then pure (.rt .loc u) else pure (.rt .any u) from rfl]at w;split at w
  ·rw[ai]at w;exact w c rfl EF n (Kept.of hσ) v (Rep.EL (by assumption) r)
  ·rw[ai]at w;exact w c rfl EF n (Kept.of hσ) v r
 |bor j =>
  obtain⟨fl,st',e,w⟩:=w;rw[show retS (.bor j,u) c.st=match c.st[j]? with|some (UI (.own,u))=>UI (Ex.ok (Fl.rt .own u),c.st.set j UK)|_=>UK from rfl]at e;split at e
  ·rename_i u' hj;cases e;have GV:j<c.st.length:=(UW.mp hj).1;have EE:∀(i:Nat) k u',(c.st.set j UK)[i]?=UI (UI (k,u'))->i≠j/\c.st[i]?=UI (UI (k,u')):=λi k u' e=>by
    by_cases FI:i=j
    ·subst FI;rw[U0 GV]at e;cases e
    ·rw[Vh (VP FI)]at e;exact⟨FI,e⟩
   obtain⟨v',e1,r0,er,q1,q2,q3,q4⟩:=EF.sl j _ _ hj;have hv:c.σ[j]?=UI (UI v):=r.2;rw[hv]at e1;cases e1;subst er;have GP:∀a,({c with st:=c.st.set j UK}:Cf).R1 a->c.R1 a:=λa ⟨i,k,u2,hk,e1,e2⟩=>⟨i,k,u2,hk,(EE i k u2 e1).2,e2⟩
   have hR:∀a,({c with st:=c.st.set j UK}:Cf).R a->c.R a:=λa z=>z.elim (λz=>.inl (GP a z)) λ⟨i,u2,r2,e1,e2,e3⟩=>.inr ⟨i,u2,r2,(EE i .Eb u2 e1).2,e2,e3⟩;have Hs:G3 C {c with st:=c.st.set j UK}:=EF.dd.of rfl (λi u2 e=>⟨(EE i .Eb u2 e).2,rfl⟩) (λa z=>.inl (GP a z)) (.up λ_ z=>z) λi a z=>⟨(EF.root (.inr ⟨i,z⟩)).1,λo q=>q⟩
   have SG:Ok C {c with st:=c.st.set j UK}:=⟨EF.same,EF.F5,EF.par,EF.io,by simp[EF.len],λi k u2 e=>EF.sl i k u2 (EE i k u2 e).2,λi i' k k' u1 u2 r hk FE e1 e2 e3 e4=>EF.inj i i' k k' u1 u2 r hk FE (EE i k u1 e1).2 (EE i' k' u2 e2).2 e3 e4,Hs⟩
   have nn:Ns c0 {c with st:=c.st.set j UK}:=⟨n.keep,n.there,λa z=>n.roots a (hR a z),n.sub,n.new⟩
   refine w {c with st:=c.st.set j UK} rfl SG nn (Kept.of hσ) (.ref r0) ⟨r0,rfl,q3,q1,λz=>?_,q4⟩
   ·rcases z with⟨i,k,u2,hk,e1,e2⟩|⟨i,u2,r2,e1,e2,e3⟩
    ·obtain⟨ne,E9⟩:=EE i k u2 e1;exact ne (EF.inj i j k .own u2 _ r0 hk rfl E9 hj e2 hv)
    ·exact EF.dd.d1 i r0 ⟨u2,r2,(EE i .Eb u2 e1).2,e2,e3⟩ ⟨j,.own,_,rfl,hj,hv⟩
  ·cases e
 |_=>exact r.elim
end
section
theorem oZ(FH:∀j,ns j=UN->j≠i)(FC:Ok C c0)(t:Lp C c0 c r v)(hi:i<c.σ.length)(w:W (d6 i r >>= λ_=>(pure .nx:M Fl)) c.st (kl C c0 ns D)):D.nx (c0.σ.set i (UI v)) c.H:=by
 rw[ag]at w;obtain⟨c',e1,e2,Er,n',q⟩:=sd (r:=r) FC t.ok t.nx hi t.rx w;rw[ai]at q;have z:=q c' rfl Er n' ⟨λj hj=>by rw[e1,t.hσ,Vh (VP (FH j hj))],by rw[e1,t.hσ];simp⟩;have z':D.nx c'.σ c'.H:=z;rw[e1,e2,t.hσ]at z';exact z'
theorem zR(FH:∀j,ns j=UN->j≠i)(hN:X.N.Nodup)(hi:X.N[i]?=UI x)(hx:Loc X.env.scope x)(hf:X.fn x=UN\/X.env.scope.names.lookup x=UI .local)(ha:PE X a (Ek C ma))
  (hs:Yi a (UI (.Name x pos')) pos.line X.env=pure UO):L2.PS X (.Assign [.Name x pos'] a pos) (E5 C ns (ma >>= λr=>d6 i r >>= λ_=>pure .nx)):=by
 rintro pins s σ H D I ⟨c0,rfl,rfl,ok,h⟩;have Fj:i<c0.σ.length:=by rw[I.len];exact(UW.mp hi).1
 exact u7 hN hi hx ha hs hf pins s c0.σ c0.H D I (aN ok h λr c v t w=>oZ FH ok t (by rw[t.hσ];exact Fj) w)
theorem BA(FH:∀j,ns j=UN->j≠i)(S:de X N own scope)(hc:X.calm=UN)(hN:X.N.Nodup)(Mg:X.N[i]?=UI y)(hy:X.env.scope.names.lookup y=UI .local)
  (hi:PI X tg iter (Ht C ik ms)) (hg:∀D s H ex,PG (Fb X N scope D s H ex) tg (tG C t (UX own.length))) (hf:∀D s H ex,HF (Fb X N scope D s H ex) ifs (Fq C tc)) (he:∀D s H ex,PE (Fb X N scope D s H ex) elt (Ek C me))
  (Iw:Yi (.ListComp elt [⟨tg,iter,ifs,0⟩] scope pos) (UI (.Name y py)) GL.line X.env=pure UN) (hs:∀x,WU iter X.env x=pure x) :
  L2.PS X (.Assign [.Name y py] (.ListComp elt [⟨tg,iter,ifs,0⟩] scope pos) GL)
   (E5 C ns ((ms >>= λrs=>aA rs >>= λ_=>M.Eu (F0 ik rs) >>= λxs=>br own.length t tc me rs xs [] >>= λus=>pure (.own,.lst us)) >>= λr=>d6 i r >>= λ_=>pure .nx)):=by
 rintro pins s σ H D I ⟨c0,rfl,rfl,ok,h⟩;have Fj:i<c0.σ.length:=by rw[I.len];exact(UW.mp Mg).1
 refine yi S hc hN Mg hy hi hg hf he Iw hs pins s c0.σ c0.H D I ?_;rw[ag]at h;refine lW ok (h.mono λr st1 w c v e1 e2 EF n rt=>?_);subst e2;exact oZ FH ok ⟨e1,EF,n,rt⟩ (by rw[e1];exact Fj) w
theorem BB(FH:∀j,ns j=UN->j∉is)(ha:PE X a (Ek C ma))(hg:PG X tg (tG C UN is))(hs:Yl [tg] a pos.line X.env=pure UO)(hw:ZV [tg] a X.env=pure UK)(h1:(XX [tg] X.env).map (·.2)=[YK tg X.env]):
  L2.PS X (.Assign [tg] a pos) (E5 C ns (ma >>= λr=>cH UN is r >>= λ_=>pure .nx)):=by
 refine PS.weak (p7 ha hg hs hw h1) ?_;rintro D σ H ⟨c0,rfl,rfl,ok,h⟩;refine aN ok h λr c v t w=>?_;rw[ag]at w;refine⟨c0,c,r,t.hσ,rfl,ok,t.ok,t.nx,t.rx,w.mono λ_ st1 w1 c' e Er n' hf hl=>?_⟩;subst e;rw[ai]at w1;exact w1 c' rfl Er n' ⟨λj hj=>by rw[hf j (FH j hj),t.hσ],by rw[hl,t.hσ]⟩
theorem C2(hc:PT X a (Fq C ta))(h1:Ff X ca (E5 C ns f))(h2:Ff X cb (E5 C ns g)):L2.PS X (.If a ca cb pos) (E5 C ns (ta >>= λp=>if p=UN then f else g)):=by
 refine PS.weak (Cd hc h1 h2) ?_;rintro D σ H ⟨c0,rfl,rfl,ok,h⟩;refine fe ok h λp c hσ EF n w=>?_;have e:c0.σ=c.σ:=hσ.symm;rw[e];cases p with
 |true=>rw[δ rfl]at w ⊢;exact qC EF n (Kept.of hσ) w
 |false=>rw[ε Vw]at w ⊢;exact qC EF n (Kept.of hσ) w
theorem C3(hp:Ø (U6 X.prog X.w) X.A X.env X.xe)(hc:PT X a (Fq C ta))(hb:Ff X body (E5 C ns f)):L2.PS X (.While a body [] pos) (E5 C ns (gw ta f n)):=by
 refine PS.weak (u9 hp hc hb) ?_;rintro D σ H ⟨c0,rfl,rfl,ok,h⟩;refine⟨λm σ' H'=>∃c,c.H=H'/\c.σ=σ'/\Ok C c/\Ns c0 c/\Kept ns c0 c/\W (gw ta f m) c.st (kl C c0 ns D),⟨n,c0,rfl,rfl,ok,Ns.refl c0,Kept.refl,h⟩,?_⟩;rintro m σ' H' ⟨c,rfl,rfl,EF,nc,kc,w⟩;cases m with
 |zero=>exact(aC.mp w).elim
 |succ m =>
  rw[show gw ta f (m+1)=ta >>= λb=>if b=UN then(f >>= λf'=>match f' with|.nx=>gw ta f m|.ct=>gw ta f m|.bk=>pure .nx|.rt k u=>pure (.rt k u)) else pure .nx from rfl]at w;refine fe EF w λp c2 hσ EH n2 w2=>?_;have k2:Kept ns c c2:=Kept.of hσ;rw[<-hσ];cases p with
  |false =>
   rw[ε Vw]at w2 ⊢;rw[ai]at w2;exact w2 c2 rfl EH (nc.trans n2) (kc.trans k2)
  |true =>
   rw[δ rfl]at w2 ⊢;refine⟨λQo Qp=>∃c,c.H=Qp/\c.σ=Qo/\Ok C c/\Ns c0 c/\Kept ns c0 c/\W (gw ta f m) c.st (kl C c0 ns D),λQo Qp z=>⟨m,YQ m,z⟩,?_⟩;rw[ag]at w2;refine⟨c2,rfl,rfl,EH,w2.mono λfl st3 w3 c3 e Gr n3 k3=>?_⟩;subst e;have OA:=(nc.trans n2).trans n3;have OB:=(kc.trans k2).trans k3;cases fl with
   |nx=>exact⟨c3,rfl,rfl,Gr,OA,OB,w3⟩
   |ct=>exact⟨c3,rfl,rfl,Gr,OA,OB,w3⟩
   |_=>rw[ai]at w3;exact w3 c3 rfl Gr OA OB
theorem C4(hp:Ø (U6 X.prog X.w) X.A X.env X.xe)(hc:X.calm=UN)(hi:PI X tg iter (Ht C ik ms))(hg:PG X tg (tG C t is))(hb:Ff X body (E5 C (G8 sb) f))(hs:∀x,WU iter X.env x=pure x)
  (FH:∀j,ns j=UN->j∉is/\G8 sb j=UN) :
  L2.PS X (.For tg iter body [] pos) (E5 C ns (ms >>= λrs=>aA rs >>= λ_=>M.Eu (F0 ik rs) >>= λxs=>if oW rs is sb=UN then forM t is f rs xs else M.fail)):=by
 refine PS.weak (AD hp hc hi hg hb hs) ?_;rintro D σ H ⟨c0,rfl,rfl,ok,h⟩;rw[ag]at h;refine⟨c0,rfl,rfl,ok,?_⟩;rw[ag];refine h.mono λrs st1 h1=>?_;rw[ag,b_]at h1 ⊢;refine⟨h1.1,?_⟩;have h2:=h1.2;rw[ag]at h2 ⊢;refine h2.mono λxs st2 h3=>?_;rw[ai];intro c1 J e1 e2 El n1 Ei hw;subst e2
 dsimp only at Ei hw
 split at h3
 ·rename_i FV;have OC:∀j u,(Kd.bor j,u)∈rs->j∉is/\G8 sb j=UN:=λj u hm=>by
   have:=VA.mp FV _ hm;simpa using this
  refine⟨λi m σ' H'=>∃c,c.H=H'/\c.σ=σ'/\Ok C c/\Ns c1 c/\Kept ns c0 c/\ja rs c1 c/\m=xs.length - i/\i<=xs.length/\W (forM t is f rs (xs.drop i)) c.st (kl C c0 ns D),
   ⟨xs.length,c1,rfl,e1,El,Ns.refl c1,Kept.of e1,λ_ _ _=>rfl,by simp,Vo _,by simpa using h3⟩,?_⟩
  rintro i m σ' H' ⟨c,rfl,rfl,EF,nc,kc,fx,rfl,FD,w⟩;by_cases Ez:i<xs.length
  ·right
   rw[YD Ez,show forM t is f rs (xs[i]::xs.drop (i+1))=aA rs >>= λ_=>cH t is xs[i] >>= λ_=>f >>= λf'=>match f' with|.nx=>forM t is f rs (xs.drop (i+1))|.ct=>forM t is f rs (xs.drop (i+1))|.bk=>pure .nx|.rt k u=>pure (.rt k u) from rfl,ag,b_]at w;obtain⟨Hu,w⟩:=w;obtain⟨wk,_⟩:=hw c EF nc fx Hu;obtain⟨Ov,Kb,MG⟩:=wk i xs[i] (by simp[Ez]);refine⟨Kb,λσ' H'=>∃c,c.H=H'/\c.σ=σ'/\Ok C c/\Ns c1 c/\Kept ns c0 c/\ja rs c1 c/\W (forM t is f rs (xs.drop (i+1))) c.st (kl C c0 ns D),λσ' H' ⟨c',z1,z2,z3,z4,z5,z6,z7⟩=>⟨xs.length - (i+1),⋯,c',z1,z2,z3,z4,z5,z6,rfl,Ez,z7⟩,λx H' hy=>?_⟩;obtain⟨c2,rfl,e4,e5,EH,n2,rt⟩:=MG x H' hy;rw[ag]at w;have SH:aI C c2 c2 xs[i].1 xs[i].2 x:=by
    rcases Ov with z|z
    ·rw[z]at rt ⊢;exact rt
    ·rw[z]at rt ⊢;exact rt
   refine⟨c2,c2,xs[i],e4,rfl,EH,EH,Nx.refl c2,SH,?_⟩;rw[e5];refine w.mono λ_ st3 w3 c3 e6 Gr n3 Qq MH=>?_;subst e6;rw[ag]at w3;refine⟨c3,rfl,rfl,Gr,w3.mono λfl JW w4 c4 e JA n4 k4=>?_⟩;subst e;have OD:Ns c1 c4:=((nc.trans n2.toNs).trans n3.toNs).trans n4;have OE:Kept ns c0 c4:=by
    refine kc.trans ⟨λj hj=>?_,by rw[k4.2,MH,e4]⟩;obtain⟨j1,j2⟩:=FH j hj;rw[k4.1 j j2,Qq j j1,e4]
   have Qr:ja rs c1 c4:=λj u hm=>by
    obtain⟨j1,j2⟩:=OC j u hm;rw[k4.1 j j2,Qq j j1,e4];exact fx j u hm
   cases fl with
   |nx=>exact⟨c4,rfl,rfl,JA,OD,OE,Qr,w4⟩
   |ct=>exact⟨c4,rfl,rfl,JA,OD,OE,Qr,w4⟩
   |_=>rw[ai]at w4;exact w4 c4 rfl JA (n1.toNs.trans OD) OE
  ·left
   have SJ:i=xs.length:=by omega
   subst SJ;rw[ĸ,show forM t is f rs []=aA rs >>= λ_=>pure .nx from rfl,ag,b_,ai]at w;obtain⟨_,wk⟩:=hw c EF nc fx w.1;exact⟨wk _ (U_ _),w.2 c rfl EF (n1.toNs.trans nc) kc⟩
 ·exact(aC.mp h3).elim
end
section
theorem Ok.mod(ok:Ok C c)(n:Ns c0 c)(hk:k.root=UN)(hi:c.st[i]?=UI (UI (k,u)))(hv:c.σ[i]?=UI (UI (.ref r)))(EX:∀a,a≠r->H' a=c.H a)(hr:∃o,H' r=UI o)
  (new:Mv c.S c.H c.S H'->di C c.S H' r u'):Ok C {c with H:=H',st:=c.st.set i (UI (k,u'))}/\Ns c0 {c with H:=H',st:=c.st.set i (UI (k,u'))}:=by
 have GP:c.R1 r:=⟨i,k,u,hk,hi,hv⟩
 have hR:c.R r:=.inl GP;obtain⟨q1,q2,q3,o,ho,SM⟩:=ok.root hR;have Fj:i<c.st.length:=(UW.mp hi).1;have kp:∀{a:U8} {o':HO},a≠r->c.H a=UI o'->H' a=UI o':=λne e=>by rw[EX _ ne];exact e
 have mv:Mv c.S c.H c.S H':=⟨λ_ z=>z,λa o' e t=>kp (λz=>by subst z;rw[ho]at e;cases e;exact SM t) e,λa o' z e=>kp (λz'=>q1 (z'▸z)) e⟩
 have HM:Mv (PS C c.S) c.H (PS C c.S) H':=⟨λ_ z=>z,mv.Ll,λa o' z e=>kp (λz'=>by subst z';exact z.elim q2 q1) e⟩
 have EE:∀(j:Nat) k' w,(c.st.set i (UI (k,u')))[j]?=UI (UI (k',w))->j≠i->c.st[j]?=UI (UI (k',w)):=λj k' w e ne=>by rw[Vh (VP ne)]at e;exact e
 have back:∀(j:Nat) k' w,k'.root=UN->(c.st.set i (UI (k,u')))[j]?=UI (UI (k',w))->∃w',c.st[j]?=UI (UI (k',w')):=λj k' w _ e=>by
  by_cases hj:j=i
  ·subst hj;rw[U0 Fj]at e;cases e;exact⟨u,hi⟩
  ·exact⟨w,EE j k' w e hj⟩
 have b1:∀a,({c with H:=H',st:=c.st.set i (UI (k,u'))}:Cf).R1 a->c.R1 a:=λa Ey=>by
  obtain⟨j,k',w,h1,e1,e2⟩:=Ey;obtain⟨w',a1⟩:=back j k' w h1 e1;exact⟨j,k',w',h1,a1,e2⟩
 have dD:∀(j:Nat) (w:U),(c.st.set i (UI (k,u')))[j]?=UI (UI (.Eb,w))->c.st[j]?=UI (UI (.Eb,w)):=λj w e=>by
  by_cases hj:j=i
  ·subst hj;rw[U0 Fj]at e;cases e;cases hk
  ·exact EE j .Eb w e hj
 have Hs:G3 C {c with H:=H',st:=c.st.set i (UI (k,u'))}:=ok.dd.of rfl (λj w e=>⟨dD j w e,rfl⟩) (λa z=>.inl (b1 a z)) mv λj a z=>⟨(ok.root (.inr ⟨j,z⟩)).1,λo' e=>kp (λz'=>ok.dd.d1 j a z (z'▸GP)) e⟩
 refine⟨⟨λa o' e z=>?_,λa z=>?_,ok.par,λa z=>?_,by simp[ok.len],λj k' w e=>?_,λj1 j2 k1 k2 w1 w2 r' h1 h2 e1 e2 e3 e4=>?_,Hs⟩,n.trans ⟨λa o' e z=>kp (λz'=>z (z'▸hR)) e,λa o' e=>?_,λa z=>?_,λ_ z=>z,λ_ z=>.inl z⟩⟩
 ·have h1:=ok.same a o' e z;refine kp (λz'=>?_) h1;subst z';rcases q3 with q3|q3
  ·rw[e]at q3;cases q3
  ·exact z q3
 ·obtain⟨h1,o',h2⟩:=ok.F5 a z;exact⟨h1,o',kp (λz'=>q1 (z'▸z)) h2⟩
 ·obtain⟨h1,o',h2⟩:=ok.io a z;refine⟨h1,?_⟩;by_cases ha:a=r
  ·subst ha;exact hr
  ·exact⟨o',kp ha h2⟩
 ·by_cases hj:j=i
  ·subst hj;rw[U0 Fj]at e;cases e;obtain⟨v,e1,e2⟩:=ok.sl j _ _ hi;rw[hv]at e1;cases e1;refine⟨.ref r,hv,?_⟩;have nr:=new mv;cases k with
   |own=>obtain⟨r',er,z1,z2,z3,_⟩:=e2;cases er;exact⟨r,rfl,z1,z2,z3,nr⟩
   |io=>obtain⟨r',er,z1,z2,z3,_⟩:=e2;cases er;exact⟨r,rfl,z1,z2,z3,nr⟩
   |_=>cases hk
  ·have e0:=EE j k' w e hj;obtain⟨v,e1,e2⟩:=ok.sl j k' w e0;refine⟨v,e1,e2.mv mv HM λFE r' er=>?_⟩;obtain⟨Lq,Fz,z1,_⟩:=e2.rt FE;rw[er]at Fz;cases Fz;refine⟨z1,λo' e=>kp (λz=>?_) e⟩;subst z;exact hj (ok.inj j i k' k w u r' FE hk e0 hi (by rw[e1,er]) hv)
 ·obtain⟨MJ,a1⟩:=back j1 k1 w1 h1 e1;obtain⟨Qs,a2⟩:=back j2 k2 w2 h2 e2;exact ok.inj j1 j2 k1 k2 MJ Qs r' h1 h2 a1 a2 e3 e4
 ·by_cases ha:a=r
  ·subst ha;exact hr
  ·exact⟨o',kp ha e⟩
 ·rcases z with z|⟨j,w,r',e1,e2,e3⟩
  ·exact .inl (.inl (b1 a z))
  ·exact .inl (.inr ⟨j,w,r',dD j w e1,e2,e3⟩)
theorem fB{f:U->Option U}{st:aq}(h:W (modS i f) st Q):∃k u u',k.root=UN/\st[i]?=UI (UI (k,u))/\f u=UI u'/\Q () (st.set i (UI (k,u'))):=by
 obtain⟨_,st',e,q⟩:=h;unfold modS at e;split at e
 ·rename_i k u hs;split at e
  ·rename_i hk;cases e2:f u with
   |none=>rw[e2]at e;cases e
   |some u'=>rw[e2]at e;cases e;exact⟨k,u,u',hk,hs,e2,q⟩
  ·cases e
 ·cases e
theorem c9{st:aq}(h:W (du i) st Q):∃k u,k≠.Eb/\st[i]?=UI (UI (k,u))/\Q (if k.root=UN then .bor i else k,u) st:=by
 obtain⟨r,st',e,q⟩:=h;unfold du at e;split at e
 ·cases e
 ·rename_i k u Oj hs;cases e;exact⟨k,u,λz=>Oj z,hs,q⟩
 ·cases e
theorem C5(hK:C.K=X.K)(hN:X.N[i]?=UI x)(hv:F3 X.env.scope x)(hd:(x==("__debug__":Str))=UO)(EV:(x==("__classdict__":Str))=UO)(ha:PE X a (Ek C ma))
  (Fu:((Ww Ec (Vf [a] X.env)).all (λx=>!x.1)&&(Yo Ec (Xe [] X.env)).all (λx=>x.1.isSome)
   && UP ([a].length+([]:List XT).length+(if ([]:List XT).isEmpty then 0 else 1)<30))=UN)
  (EJ:(apos.endLine==Ec.line)=UN) (Ei:Vf [a] X.env=[(UO,Wo a X.env)]) :
  L2.PS X (.Expr (.Call (.Attribute (.Name x px) "append" apos) [a] [] Ec) pos) (E5 C ns (du i >>= λx=>Ka x.2 >>= λ_=>ma >>= λr=>lift r >>= λu=>modS i (v5 u) >>= λ_=>pure .nx)):=by
 refine PS.weak (jq (vg PySem.F.plainAttrs_list PySem.F.slot_list_append PySem.F.type_list_append lE (cc hN hv hd EV) (jr ha mG Ei) rfl Fu EJ Ei rfl)) ?_;rintro D σ H ⟨c0,rfl,rfl,ok,h⟩;rw[ag]at h;obtain⟨k0,u0,Ii,Fh,h⟩:=c9 h;obtain⟨v0,e0,GG⟩:=ok.sl i k0 u0 Fh;refine⟨v0,e0,?_⟩;cases u0 with
 |lst Lw =>
  rw[ag,show Ka (U.lst Lw)=pure () from rfl,ai]at h;have OF:aI C c0 c0 (if k0.root=UN then .bor i else k0) (.lst Lw) v0:=by
   by_cases hk:k0.root=UN
   ·rw[δ hk];exact⟨⟨k0,hk,Fh⟩,e0⟩
   ·rw[ε hk];cases k0 with
    |loc=>exact GG
    |any=>exact GG
    |bor j=>exact GG.elim
    |Eb=>exact(Ii rfl).elim
    |_=>exact absurd rfl hk
  obtain⟨a0,MD,ea,L9,_⟩:=OF.list ok;refine⟨by rw[ea];exact .inl ⟨rfl,MD,hK▸L9⟩,?_⟩;refine aN ok h λr c v t w=>?_;rw[ag]at w;obtain⟨S',st',u,sS,El,n1,rep1,w1,_,_⟩:=gW ok t.ok t.nx t.rx.w w;rw[ag]at w1;obtain⟨k,u1,u2,hk,hs,hf,q⟩:=fB w1;have hσ:c.σ[i]?=UI (UI (.ref a0)):=by rw[t.hσ,e0,ea]
  cases u1 with
  |lst ys =>
   simp only[v5]at hf;split at hf
   ·rename_i hz;cases hf;obtain⟨v',e1,e2⟩:=El.sl i k (.lst ys) hs;have E9:c.σ[i]?=UI (UI v'):=e1;rw[hσ]at E9;cases E9;obtain⟨r',er,_,_,_,ws,hw,FK⟩:=e2.rt hk;cases er;have GW:c.H a0=UI (.lst ws):=hw;refine⟨a0,ws,v,ea,rfl,GW,by rw[<-FK.len];exact hz,?_⟩;rw[ai]at q;obtain⟨EH,n2⟩:=Ok.mod (c:={c with S:=S',st:=st' }) (H':=upd c.H a0 (.lst (ws++[v]))) (u':=.lst (ys++[u])) El n1.toNs hk hs hσ (λa ne=>ak ne) ⟨_,au⟩ λmv=>⟨ws++[v],au,(FK.mv mv).snoc (rep1.mv mv)⟩
    have z:=q _ rfl EH n2 (Kept.of t.hσ);rw[<-t.hσ];exact z
   ·cases hf
  |_=>cases hf
 |_=>rw[ag]at h;exact(aC.mp h).elim
theorem C6(hK:C.K=X.K)(hN:X.N[i]?=UI x)(hv:F3 X.env.scope x)(hd:(x==("__debug__":Str))=UO)(EV:(x==("__classdict__":Str))=UO)(ha:PE X a (Ek C ma))
  (Fu:((Ww Ec (Vf [a] X.env)).all (λx=>!x.1)&&(Yo Ec (Xe [] X.env)).all (λx=>x.1.isSome)
   && UP ([a].length+([]:List XT).length+(if ([]:List XT).isEmpty then 0 else 1)<30))=UN)
  (EJ:(apos.endLine==Ec.line)=UN) (Ei:Vf [a] X.env=[(UO,Wo a X.env)]) :
  L2.PS X (.Expr (.Call (.Attribute (.Name x px) "extend" apos) [a] [] Ec) pos) (E5 C ns (du i >>= λx=>Ka x.2 >>= λ_=>ma >>= λr=>modS i (kg r) >>= λ_=>pure .nx)):=by
 refine PS.weak (jq (vg PySem.F.plainAttrs_list PySem.F.slot_list_extend PySem.F.type_list_extend qr (cc hN hv hd EV) (jr ha mG Ei) rfl Fu EJ Ei rfl)) ?_;rintro D σ H ⟨c0,rfl,rfl,ok,h⟩;rw[ag]at h;obtain⟨k0,u0,Ii,Fh,h⟩:=c9 h;obtain⟨v0,e0,GG⟩:=ok.sl i k0 u0 Fh;refine⟨v0,e0,?_⟩;cases u0 with
 |lst Lw =>
  rw[ag,show Ka (U.lst Lw)=pure () from rfl,ai]at h;have OF:aI C c0 c0 (if k0.root=UN then .bor i else k0) (.lst Lw) v0:=by
   by_cases hk:k0.root=UN
   ·rw[δ hk];exact⟨⟨k0,hk,Fh⟩,e0⟩
   ·rw[ε hk];cases k0 with
    |loc=>exact GG
    |any=>exact GG
    |bor j=>exact GG.elim
    |Eb=>exact(Ii rfl).elim
    |_=>exact absurd rfl hk
  obtain⟨a0,MD,ea,L9,_⟩:=OF.list ok;refine⟨by rw[ea];exact .inl ⟨rfl,MD,hK▸L9⟩,?_⟩;refine aN ok h λr c v t w=>?_;rw[ag]at w;obtain⟨k,u1,u2,hk,hs,hf,q⟩:=fB w;have hσ:c.σ[i]?=UI (UI (.ref a0)):=by rw[t.hσ,e0,ea]
  obtain⟨rk,ru⟩:=r;have key:∃ys zs b vs,u1=.lst ys/\v=.ref b/\(EN C.K c.H b vs\/EC C.K c.H b vs)/\aj C c.S c.H zs vs/\ys.length+zs.length<=US/\u2=.lst (ys++zs):=by
   cases ru with
   |lst zs =>
    cases u1 with
    |lst ys =>
     simp only[kg]at hf;split at hf
     ·rename_i hz;cases hf;obtain⟨b,vs,ev,h1,h2⟩:=t.rx.list t.ok;exact⟨_,_,b,vs,rfl,ev,.inl h1,fc hz.2 h2,hz.1,rfl⟩
     ·cases hf
    |_=>simp[kg]at hf
   |tup zs =>
    cases u1 with
    |lst ys =>
     simp only[kg]at hf;split at hf
     ·rename_i hz;cases hf;obtain⟨b,vs,ev,h1,h2⟩:=t.rx.tuple t.ok;exact⟨_,_,b,vs,rfl,ev,.inr h1,fc hz.2 h2,hz.1,rfl⟩
     ·cases hf
    |_=>simp[kg]at hf
   |_=>simp[kg]at hf
  obtain⟨ys,zs,b,vs,rfl,rfl,hB,hz,hl,rfl⟩:=key;obtain⟨v',e1,e2⟩:=t.ok.sl i k (.lst ys) hs;rw[hσ]at e1;cases e1;obtain⟨r',er,_,_,_,ws,hw,FK⟩:=e2.rt hk;cases er;refine⟨a0,b,ws,vs,ea,rfl,hw,hK▸hB,by rw[<-FK.len,<-hz.len];exact hl,?_⟩;rw[ai]at q;obtain⟨EH,n2⟩:=Ok.mod (c:=c) (H':=upd c.H a0 (.lst (ws++vs))) (u':=.lst (ys++zs)) t.ok t.nx.toNs hk hs hσ (λa ne=>ak ne) ⟨_,au⟩ λmv=>⟨ws++vs,au,(FK.mv mv).append (hz.mv mv)⟩
  have z:=q _ rfl EH n2 (Kept.of t.hσ);rw[<-t.hσ];exact z
 |_=>rw[ag]at h;exact(aC.mp h).elim
theorem jG.or(h:jG X t)(h':jG X t'):jG X (λo i v H Q=>t o i v H Q\/t' o i v H Q):=λpins s σ H o i v ov iv u Q I r1 r2 r3 q =>
 q.elim (h pins s σ H o i v ov iv u Q I r1 r2 r3) (h' pins s σ H o i v ov iv u Q I r1 r2 r3)
theorem set_dict(hu:X.A.units+1<Wa):jG X (λo i v H Q=>∃a H',o=.ref a/\tL H a i v H'/\Q H'):=by
 rintro pins s σ H o i v ov iv u Q I ro ri rv ⟨a,H',rfl,g,q⟩;cases ro;exact tN hu I g ri rv λs' I'=>⟨H',I',q⟩
theorem wy{S:U8->Prop}{kvs:List (Key×V)}(h1:kvs.map (·.1)=ks.map Vs)(h2:aj C S H us (kvs.map (·.2)))(hv:Rep C S H u v):
  (putK kvs (Vs y) v).map (·.1)=(dput ks us y u).1.map Vs/\aj C S H (dput ks us y u).2 ((putK kvs (Vs y) v).map (·.2)):=by
 have Lx:(kvs.any λkv=>UP (kv.1=(Vs y:Key)))=UP (y∈ks):=by
  rw[gG];exact(c8 (x:=y) h1 h2).2
 unfold putK dput;rw[Lx];by_cases hm:y∈ks
 ·rw[δ (by simpa using hm),δ hm];constructor
  ·rw[U4];rw[<-h1];apply VT;intro p _;show(if p.1=Vs y then(p.1,v) else p).1=p.1;split<;>rfl
  ·clear Lx hm;induction kvs generalizing ks us with
   |nil =>
    have:ks=[]:=by simpa using h1.symm
    subst this;simp[aj]
   |cons p kvs ih =>
    cases ks with
    |nil=>simp at h1
    |cons k ks =>
     cases us with
     |nil=>simp[aj]at h2
     |cons u0 us =>
      rw[U7,U7,X4]at h1;obtain⟨v0,r0,e0,q1,q2⟩:=h2;rw[U7]at e0;cases e0;rw[U7,Yu,U7,U7];refine⟨_,_,rfl,?_,ih h1.2 q2⟩;by_cases hk:k=y
      ·rw[δ (by exact hk),δ (by rw[h1.1,hk])];exact hv
      ·rw[ε (by exact hk),ε (by rw[h1.1];intro z;exact hk (ZH z))];exact q1
 ·rw[ε (by simpa using hm),ε hm];exact⟨by rw[Vm,h1,Vm];rfl,by rw[Vm];exact h2.snoc hv⟩
theorem C7(hP:C.P=X.prog)(hw:C.w=X.w)(hK:C.K=X.K)(hu:X.A.units+60<Wa)(hN:X.N[i]?=UI x)(hv:F3 X.env.scope x)(hd:(x==("__debug__":Str))=UO)(EV:(x==("__classdict__":Str))=UO)
  (ha:PE X a (Ek C ma)) (hb:PE X b (Ek C mb)) (hs:Yl [.Subscript (.Name x px) b p] a pos.line X.env=pure UO) (JB:ZV [.Subscript (.Name x px) b p] a X.env=pure UK)
  (has:∀v,YK (.Subscript (.Name x px) b p) X.env v=(do
   let ov <-WT [v] (Wo (.Name x px) X.env)
   let iv <-WT [v,ov] (Wo b X.env)
   Á p
   WT [v,ov,iv] (Za ov iv v)
   Ä [v,ov,iv] [])) :
  L2.PS X (.Assign [.Subscript (.Name x px) b p] a pos) (E5 C ns (ma >>= λr=>du i >>= λ_=>mb >>= λx=>cS [r,x] >>= λus=>modS i (rV us) >>= λ_=>pure .nx)):=by
 refine PS.weak (p7 ha (u6 (cc hN hv hd EV) hb (jG.or (jG.or set_list (set_dict (X:=X) ⋯)) (yn (X:=X) ⋯)) has) hs JB rfl) ?_;rintro D σ H ⟨c0,rfl,rfl,ok,h⟩;refine aN ok h λr c v t w=>?_;rw[ag]at w;obtain⟨k0,u0,Ii,Fh,w⟩:=c9 w;obtain⟨v0,e0,GG⟩:=t.ok.sl i k0 u0 Fh;refine⟨v0,by rw[<-t.hσ];exact e0,?_⟩;rw[ag]at w;refine⟨c,t.hσ,rfl,t.ok,w.mono λy st2 w2 c2 vy e3 e4 EH n2 r2=>?_⟩;subst e4;rw[ag]at w2;have OG:=t.nx.trans n2;have rws:dk C c0 c2 [r,y] [v,vy]:=⟨v,[vy],rfl,t.rx.w.on t.ok n2 (e3.trans t.hσ.symm),⟨vy,[],rfl,(r2.w).from t.nx,rfl,λ_ i r' v' e _=>by simp at e⟩,λhk i r' v' e5 e6 FE=>by
  cases i with
  |zero=>simp at e5 e6;subst e5 e6;exact m8 t.rx.w r2.w hk FE
  |succ i=>simp at e5⟩
 obtain⟨S',st',us,sS,El,n1,rep1,w1⟩:=gX ok EH OG rws w2;rw[ag]at w1;obtain⟨k,u1,u2,hk,FT,hf,q⟩:=fB w1;rw[ai]at q;have hσ:c2.σ[i]?=UI (UI v0):=by rw[e3,<-t.hσ];exact e0
 obtain⟨v',e1,e2⟩:=El.sl i k u1 FT;have E9:c2.σ[i]?=UI (UI v'):=e1;rw[hσ]at E9;cases E9;obtain⟨a0,er,z1,z2,z3,root⟩:=e2.rt hk;subst er;have SN:({c2 with S:=S',st:=st' }:Cf).σ[i]?=UI (UI (.ref a0)):=hσ;obtain⟨MJ,ws,ew,Qt,Qs,Uw,Ux,OH,Ly⟩:∃u ws,us=[u,ws]/\Rep C S' c2.H u v/\∃(_:Unit) (_:Unit),True/\Rep C S' c2.H ws vy/\True:=by
  cases us with
  |nil=>simp[aj]at rep1
  |cons u us =>
   obtain⟨_,_,e,q1,q2⟩:=rep1;cases e;cases us with
   |nil=>simp[aj]at q2
   |cons u' us =>
    obtain⟨_,_,e,q3,q4⟩:=q2;cases e;cases us with
    |nil=>exact⟨u,u',rfl,q1,(),(),trivial,q3,trivial⟩
    |cons _ _=>obtain⟨_,_,e,_⟩:=q4;cases e
 subst ew;rw[show rV [MJ,ws] u1=dv ws MJ u1 from rfl]at hf;have fin:∀{H':Hp} ,(∀a,a≠a0->H' a=c2.H a)->(∃o,H' a0=UI o)->(Mv S' c2.H S' H'->di C S' H' a0 u2)->D.nx c0.σ H':=λ{H'} EX hr new=>by
  obtain⟨Gr,n3⟩:=Ok.mod (c:={c2 with S:=S',st:=st' }) (H':=H') (u':=u2) El n1.toNs hk FT SN EX hr new;have z:=q _ rfl Gr n3 (Kept.of e3);rw[<-e3];exact z
 cases u1 with
 |lst xs =>
  cases ws with
  |int j =>
   simp only[dv,U3]at hf;obtain⟨j',hj,rfl⟩:=hf;obtain⟨vs,h1,h2⟩:=root;have ey:vy=.int j:=OH;refine .inl (.inl ⟨a0,vs,j,j',rfl,ey,h1,by rw[<-h2.len];exact hj,?_⟩);exact fin (λa ne=>ak ne) ⟨_,au⟩ λmv=>⟨vs.set j' v,au,(h2.mv mv).set j' (Qt.mv mv)⟩
  |_=>simp[dv]at hf
 |Ee ks vs =>
  cases ws with
  |str y' =>
   simp only[dv]at hf;split at hf
   ·rename_i hz;cases hf;obtain⟨kvs,h1,h2,h3⟩:=root;have ey:vy=.str y':=OH;subst ey;have hl:kvs.length=ks.length:=by have:=θ VX h2;simpa using this
    refine .inl (.inr ⟨a0,_,rfl,tL.k (k:=Vs y') h1 (by rw[hl];exact hz),?_⟩);refine fin (λa ne=>ak ne) ⟨_,au⟩ λmv=>?_;obtain⟨g1,g2⟩:=wy (y:=y') h2 h3 Qt;exact⟨_,au,g1,g2.mv mv⟩
   ·cases hf
  |_=>simp[dv]at hf
 |Fc ks =>
  simp only[dv]at hf;split at hf
  ·rename_i r0 J2;split at hf
   ·rename_i hh;cases hf;have er:=kh J2;subst er;have E8:=OH.row;have IL:eL C.P C.w C.K c2.H a0 ks:=root;rw[hK]at E8;rw[hP,hw,hK]at IL;refine .inr ⟨a0,r0,ks,rfl,E8,IL,hh.1,hh.2,λH' hR EX=>?_⟩;obtain⟨xs,hx,_⟩:=id hR;refine fin EX ⟨_,hx⟩ λmv=>?_;show eL C.P C.w C.K H' a0 _;rw[hP,hw,hK];exact hR
   ·cases hf
  ·cases hf
 |_=>simp[dv]at hf
theorem Ok.slot(ok:Ok C c)(hn:k≠.Eb)(hs:c.st[i]?=UI (UI (k,u))):∃v,c.σ[i]?=UI (UI v)/\aI C c c (if k.root=UN then .bor i else k) u v:=by
 obtain⟨v0,e0,GG⟩:=ok.sl i k u hs;refine⟨v0,e0,?_⟩;by_cases hk:k.root=UN
 ·rw[δ hk];exact⟨⟨k,hk,hs⟩,e0⟩
 ·rw[ε hk];cases k with
  |loc=>exact GG
  |any=>exact GG
  |bor j=>exact GG.elim
  |Eb=>exact(hn rfl).elim
  |_=>exact absurd rfl hk
end
section
theorem Ok.C8(ok:Ok C c)(n:Ns c0 c)(hi:c.st[i]?=UI (UI (.Eb,u)))(hv:c.σ[i]?=UI (UI (.ref r)))(EX:∀a,¬c.RD i a->H' a=c.H a)(OI:∀a o,c.H a=UI o->∃o',H' a=UI o')
  (new:Mv c.S c.H c.S H'->bX C c.S H' r as' u') (has:∀a∈as',a∈c.kid i\/(¬c.R a/\c0.H a=UK)) :
  Ok C {c with H:=H',st:=c.st.set i (UI (.Eb,u')),kid:=λj=>if j=i then as' else c.kid j}/\Ns c0 {c with H:=H',st:=c.st.set i (UI (.Eb,u')),kid:=λj=>if j=i then as' else c.kid j}:=by
 have Fj:i<c.st.length:=(UW.mp hi).1;have rt:∀{a},c.RD i a->¬c.S a/\¬C.Hq a/\(C.H₀ a=UK\/C.IO a)/\∃o,c.H a=UI o/\¬Tp o:=λz=>ok.root (.inr ⟨i,z⟩);have h0:∀{a},c.RD i a->C.H₀ a=UK:=λ⟨u1,r1,e1,e2,e3⟩=>(bX.fr (ok.dd.kd i u1 r1 e1 e2) _ (U2.mpr e3)).2.2;have kp:∀{a:U8} {o:HO},¬c.RD i a->c.H a=UI o->H' a=UI o:=λz e=>by rw[EX _ z];exact e
 have mv:Mv c.S c.H c.S H':=⟨λ_ z=>z,λa o e t=>kp (λz=>by
  obtain⟨_,_,_,o',e',nt⟩:=rt z;rw[e]at e';cases e';exact nt t) e,λa o z e=>kp (λz'=>(rt z').1 z) e⟩
 have HM:Mv (PS C c.S) c.H (PS C c.S) H':=⟨λ_ z=>z,mv.Ll,λa o z e=>kp (λz'=>z.elim (rt z').2.1 (rt z').1) e⟩
 have EE:∀(j:Nat) k w,(c.st.set i (UI (.Eb,u')))[j]?=UI (UI (k,w))->j≠i->c.st[j]?=UI (UI (k,w)):=λj k w e ne=>by rw[Vh (VP ne)]at e;exact e
 have JC:∀(j:Nat) k w,k.root=UN->(c.st.set i (UI (.Eb,u')))[j]?=UI (UI (k,w))->c.st[j]?=UI (UI (k,w)):=λj k w hk e=>by
  by_cases hj:j=i
  ·subst hj;rw[U0 Fj]at e;cases e;cases hk
  ·exact EE j k w e hj
 have b1:∀a,({c with H:=H',st:=c.st.set i (UI (.Eb,u')),kid:=λj=>if j=i then as' else c.kid j}:Cf).R1 a->c.R1 a:=λa ⟨j,k,w,hk,e1,e2⟩=>⟨j,k,w,hk,JC j k w hk e1,e2⟩
 have bD:∀j a,({c with H:=H',st:=c.st.set i (UI (.Eb,u')),kid:=λj=>if j=i then as' else c.kid j}:Cf).RD j a->c.RD j a\/(j=i/\¬c.R a/\c0.H a=UK):=λj a Ey=>by
  obtain⟨w,r',e1,e2,e3⟩:=Ey;by_cases hj:j=i
  ·subst hj;have FY:c.σ[j]?=UI (UI (.ref r')):=e2;rw[hv]at FY;cases FY;rcases e3 with rfl|e3
   ·exact .inl ⟨u,_,hi,hv,.inl rfl⟩
   ·have IM:a∈as':=by simpa using e3
    rcases has a IM with z|z
    ·exact .inl ⟨u,_,hi,hv,.inr z⟩
    ·exact .inr ⟨rfl,z⟩
  ·have IM:a=r'\/a∈c.kid j:=by simpa[hj] using e3
   exact .inl ⟨w,r',EE j _ w e1 hj,e2,IM⟩
 refine⟨⟨λa o e z=>kp (λz'=>by rw[h0 z']at e;cases e) (ok.same a o e z),λa z=>?_,ok.par,λa z=>?_,by simp[ok.len],λj k w e=>?_,λj1 j2 k1 k2 w1 w2 r' h1 h2 e1 e2 e3 e4=>ok.inj j1 j2 k1 k2 w1 w2 r' h1 h2 (JC j1 k1 w1 h1 e1) (JC j2 k2 w2 h2 e2) e3 e4,⟨λj w r' e1 e2=>?_,λj1 j2 a z1 z2=>?_,λj a z1 z2=>?_⟩⟩,⟨λa o e z=>?_,λa o e=>?_,λa z=>?_,n.sub,n.new⟩⟩
 ·obtain⟨q1,o,q2⟩:=ok.F5 a z;exact⟨q1,OI a o q2⟩
 ·obtain⟨q1,o,q2⟩:=ok.io a z;exact⟨q1,OI a o q2⟩
 ·by_cases hj:j=i
  ·subst hj;rw[U0 Fj]at e;cases e;exact⟨.ref r,hv,r,rfl⟩
  ·obtain⟨v,e1,e2⟩:=ok.sl j k w (EE j k w e hj);refine⟨v,e1,e2.mv mv HM λhk r' er=>?_⟩;obtain⟨Lq,Fz,z1,_⟩:=e2.rt hk;rw[er]at Fz;cases Fz;exact⟨z1,λo e'=>kp (λz=>ok.dd.d1 i r' z ⟨j,k,w,hk,EE j k w e hj,by rw[e1,er]⟩) e'⟩
 ·by_cases hj:j=i
  ·subst hj;rw[U0 Fj]at e1;cases e1;have FY:c.σ[j]?=UI (UI (.ref r')):=e2;rw[hv]at FY;cases FY;have z:=new mv;simpa using z
  ·have E9:=EE j _ w e1 hj;have FE:(if j=i then as' else c.kid j)=c.kid j:=ε hj;show bX C c.S H' r' (if j=i then as' else c.kid j) w;rw[FE];exact bX.mv mv (λa ha=>⟨(ok.root (.inr ⟨j,w,r',E9,e2,U2.mp ha⟩)).1,λo e'=>kp (λz=>hj (ok.dd.dj j i a ⟨w,r',E9,e2,U2.mp ha⟩ z)) e'⟩) (ok.dd.kd j w r' E9 e2)
 ·rcases bD j1 a z1 with y1|⟨rfl,y1,_⟩
  ·rcases bD j2 a z2 with y2|⟨rfl,y2,_⟩
   ·exact ok.dd.dj j1 j2 a y1 y2
   ·exact(y2 (.inr ⟨j1,y1⟩)).elim
  ·rcases bD j2 a z2 with y2|⟨rfl,y2,_⟩
   ·exact(y1 (.inr ⟨j2,y2⟩)).elim
   ·rfl
 ·rcases bD j a z1 with y1|⟨rfl,y1,_⟩
  ·exact ok.dd.d1 j a y1 (b1 a z2)
  ·exact y1 (.inl (b1 a z2))
 ·exact kp (λz'=>by
   rcases n.roots a (.inr ⟨i,z'⟩) with y|y
   ·exact z y
   ·rw[e]at y;cases y) (n.keep a o e z)
 ·obtain⟨o',e'⟩:=n.there a o e;exact OI a o' e'
 ·rcases z with z|⟨j,z⟩
  ·exact n.roots a (.inl (b1 a z))
  ·rcases bD j a z with y|⟨_,_,y⟩
   ·exact n.roots a (.inr ⟨j,y⟩)
   ·exact .inr y
theorem Ok.newD(ok:Ok C c)(hp:c.H p=UK)(hi:i<c.σ.length):
  Ok C {c with H:=upd c.H p (.dK []),σ:=c.σ.set i (UI (.ref p)),st:=c.st.set i (UI (.Eb,.Ee [] [])),kid:=λj=>if j=i then [] else c.kid j}/\Ns c {c with H:=upd c.H p (.dK []),σ:=c.σ.set i (UI (.ref p)),st:=c.st.set i (UI (.Eb,.Ee [] [])),kid:=λj=>if j=i then [] else c.kid j}:=by
 obtain⟨El,n1⟩:=ok.lay (o:=.dK []) hp;obtain⟨q1,q2,q3,q4,q5⟩:=ok.j_ hp;have Fj:i<c.st.length:=by rw[ok.len];exact hi
 have EE:∀(j:Nat) k w,(c.st.set i (UI (.Eb,.Ee [] [])))[j]?=UI (UI (k,w))->j≠i->c.st[j]?=UI (UI (k,w)):=λj k w e ne=>by rw[Vh (VP ne)]at e;exact e
 have F8:∀(j:Nat),j≠i->(c.σ.set i (UI (.ref p)))[j]?=c.σ[j]?:=λj ne=>Vh (VP ne);have JC:∀(j:Nat) k w,k.root=UN->(c.st.set i (UI (.Eb,.Ee [] [])))[j]?=UI (UI (k,w))->j≠i/\c.st[j]?=UI (UI (k,w)):=λj k w hk e=>by
  by_cases hj:j=i
  ·subst hj;rw[U0 Fj]at e;cases e;cases hk
  ·exact⟨hj,EE j k w e hj⟩
 have b1:∀a,({c with H:=upd c.H p (.dK []),σ:=c.σ.set i (UI (.ref p)),st:=c.st.set i (UI (.Eb,.Ee [] [])),kid:=λj=>if j=i then [] else c.kid j}:Cf).R1 a->c.R1 a:=λa Ey=>by
  obtain⟨j,k,w,hk,e1,e2⟩:=Ey;obtain⟨hj,E9⟩:=JC j k w hk e1;exact⟨j,k,w,hk,E9,by rw[<-F8 j hj];exact e2⟩
 have bD:∀j a,({c with H:=upd c.H p (.dK []),σ:=c.σ.set i (UI (.ref p)),st:=c.st.set i (UI (.Eb,.Ee [] [])),kid:=λj=>if j=i then [] else c.kid j}:Cf).RD j a->(j≠i/\c.RD j a)\/(j=i/\a=p):=λj a Ey=>by
  obtain⟨w,r',e1,e2,e3⟩:=Ey;by_cases hj:j=i
  ·subst hj;have FY:(c.σ.set j (UI (.ref p)))[j]?=UI (UI (.ref r')):=e2;rw[U0 hi]at FY;cases FY;rcases e3 with rfl|e3
   ·exact .inr ⟨rfl,rfl⟩
   ·simp at e3
  ·have IM:a=r'\/a∈c.kid j:=by simpa[hj] using e3
   exact .inl ⟨hj,w,r',EE j _ w e1 hj,by rw[<-F8 j hj];exact e2,IM⟩
 refine⟨⟨El.same,El.F5,El.par,El.io,by simp[ok.len],λj k w e=>?_,λj1 j2 k1 k2 w1 w2 r' h1 h2 e1 e2 e3 e4=>?_,⟨λj w r' e1 e2=>?_,λj1 j2 a z1 z2=>?_,λj a z1 z2=>?_⟩⟩,⟨λa o e z=>n1.all a o e,n1.there,λa z=>?_,λ_ z=>z,λ_ z=>.inl z⟩⟩
 ·by_cases hj:j=i
  ·subst hj;rw[U0 Fj]at e;cases e;exact⟨.ref p,U0 hi,p,rfl⟩
  ·obtain⟨v,e1,e2⟩:=El.sl j k w (EE j k w e hj);exact⟨v,(F8 j hj).trans e1,e2⟩
 ·obtain⟨Kc,a1⟩:=JC j1 k1 w1 h1 e1;obtain⟨JD,a2⟩:=JC j2 k2 w2 h2 e2;exact ok.inj j1 j2 k1 k2 w1 w2 r' h1 h2 a1 a2 ((F8 j1 Kc).symm.trans e3) ((F8 j2 JD).symm.trans e4)
 ·by_cases hj:j=i
  ·subst hj;rw[U0 Fj]at e1;cases e1;have FY:(c.σ.set j (UI (.ref p)))[j]?=UI (UI (.ref r')):=e2;rw[U0 hi]at FY;cases FY;show bX C c.S (upd c.H p (.dK [])) p (if j=j then [] else c.kid j) (.Ee [] []);rw[δ rfl];exact⟨[],au,rfl,rfl,by simp,λa ha=>by rw[Vl.mp ha];exact⟨q2,q3,q1⟩,rfl⟩
  ·have E9:=EE j _ w e1 hj;have z:=El.dd.kd j w r' E9 ((F8 j hj).symm.trans e2);show bX C c.S (upd c.H p (.dK [])) r' (if j=i then [] else c.kid j) w;rw[ε hj];exact z
 ·rcases bD j1 a z1 with⟨_,y1⟩|⟨rfl,rfl⟩
  ·rcases bD j2 a z2 with⟨_,y2⟩|⟨rfl,rfl⟩
   ·exact ok.dd.dj j1 j2 a y1 y2
   ·exact(q5 (.inr ⟨j1,y1⟩)).elim
  ·rcases bD j2 a z2 with⟨_,y2⟩|⟨rfl,_⟩
   ·exact(q5 (.inr ⟨j2,y2⟩)).elim
   ·rfl
 ·rcases bD j a z1 with⟨_,y1⟩|⟨rfl,rfl⟩
  ·exact ok.dd.d1 j a y1 (b1 a z2)
  ·exact q5 (.inl (b1 a z2))
 ·rcases z with z|⟨j,z⟩
  ·exact .inl (.inl (b1 a z))
  ·rcases bD j a z with⟨_,y⟩|⟨_,rfl⟩
   ·exact .inl (.inr ⟨j,y⟩)
   ·exact .inr hp
end
section
theorem cQ.rep{S S':U8->Prop}(hs:∀a,S a->S' a):∀{us:List U}{as:List U8},(∀a∈as,S' a)->cQ C S H us as->aj C S' H us (as.map V.ref)
 |[],as,_,h=>by cases h;exact rfl
 |u::us,as,ha,h=>by
  obtain⟨a,as',ys,vs,rfl,rfl,h1,h2,h3⟩:=h;exact⟨.ref a,as'.map V.ref,rfl,⟨a,vs,rfl,.inl ⟨ha a (by simp),.inl h1⟩,h2.mv (.up hs)⟩,cQ.rep hs (λb hb=>ha b (by simp[hb])) h3⟩
theorem Ok.C9(ok:Ok C c)(n:Nx c0 c)(hi:c.st[i]?=UI (UI (.Eb,u)))(hv:c.σ[i]?=UI (UI (.ref r))):
  Ok C {c with S:=λa=>c.S a\/a∈c.kid i,st:=c.st.set i (UI (.own,u))}/\Nx c0 {c with S:=λa=>c.S a\/a∈c.kid i,st:=c.st.set i (UI (.own,u))}:=by
 have Fj:i<c.st.length:=(UW.mp hi).1;have rd:=ok.dd.kd i u r hi hv;have fr:=bX.fr rd;have mem:∀a,(a=r\/a∈c.kid i)->c.RD i a:=λa z=>⟨u,r,hi,hv,z⟩
 have up:Mv c.S c.H (λa=>c.S a\/a∈c.kid i) c.H:=.up λa=>.inl;have SO:Mv (PS C c.S) c.H (PS C λa=>c.S a\/a∈c.kid i) c.H:=.up λa z=>z.imp id .inl;have MK:r∉c.kid i/\di C (λa=>c.S a\/a∈c.kid i) c.H r u:=by
  cases u<;>first|exact rd.elim|skip
  obtain⟨kvs,h1,h2,h3,h4,h5,h6⟩:=rd;refine⟨(Vp.mp h4).1,kvs,h1,h2,?_⟩;rw[h3];exact h6.rep (λa=>.inl) λa ha=>.inr ha
 have EE:∀(j:Nat) k w,(c.st.set i (UI (.own,u)))[j]?=UI (UI (k,w))->j≠i->c.st[j]?=UI (UI (k,w)):=λj k w e ne=>by rw[Vh (VP ne)]at e;exact e
 have b1:∀a,({c with S:=λa=>c.S a\/a∈c.kid i,st:=c.st.set i (UI (.own,u))}:Cf).R1 a->c.R1 a\/a=r:=λa Ey=>by
  obtain⟨j,k,w,hk,e1,e2⟩:=Ey;by_cases hj:j=i
  ·subst hj;have FY:c.σ[j]?=UI (UI (.ref a)):=e2;rw[hv]at FY;cases FY;exact .inr rfl
  ·exact .inl ⟨j,k,w,hk,EE j k w e1 hj,e2⟩
 have bD:∀j a,({c with S:=λa=>c.S a\/a∈c.kid i,st:=c.st.set i (UI (.own,u))}:Cf).RD j a->j≠i/\c.RD j a:=λj a Ey=>by
  obtain⟨w,r',e1,e2,e3⟩:=Ey;by_cases hj:j=i
  ·subst hj;rw[U0 Fj]at e1;cases e1
  ·exact⟨hj,w,r',EE j _ w e1 hj,e2,e3⟩
 refine⟨⟨ok.same,λa z=>?_,ok.par,ok.io,by simp[ok.len],λj k w e=>?_,λj1 j2 k1 k2 w1 w2 r' h1 h2 e1 e2 e3 e4=>?_,⟨λj w r' e1 e2=>?_,λj1 j2 a z1 z2=>ok.dd.dj j1 j2 a (bD j1 a z1).2 (bD j2 a z2).2,λj a z1 z2=>?_⟩⟩,⟨⟨n.keep,n.there,λa z=>?_,λa z=>.inl (n.sub a z),λa z=>?_⟩,n.all⟩⟩
 ·rcases z with z|z
  ·exact ok.F5 a z
  ·obtain⟨o,ho,_⟩:=bX.there rd a (Vx _ z);exact⟨(fr a (Vx _ z)).2.2,o,ho⟩
 ·by_cases hj:j=i
  ·subst hj;rw[U0 Fj]at e;cases e;obtain⟨q1,q2,q3⟩:=fr r (Vr ..);exact⟨.ref r,hv,r,rfl,λz=>z.elim q1 MK.1,q2,q3,MK.2⟩
  ·obtain⟨v,e1,e2⟩:=ok.sl j k w (EE j k w e hj);refine⟨v,e1,e2.mv up SO λhk r' er=>?_⟩;obtain⟨Lq,Fz,z1,_⟩:=e2.rt hk;rw[er]at Fz;cases Fz;exact⟨λz=>z.elim z1 λz=>ok.dd.d1 i r' (mem r' (.inr z)) ⟨j,k,w,hk,EE j k w e hj,by rw[e1,er]⟩,λo q=>q⟩
 ·by_cases Kc:j1=i
  ·by_cases JD:j2=i
   ·rw[Kc,JD]
   ·subst Kc;have IM:c.σ[j1]?=UI (UI (.ref r')):=e3;rw[hv]at IM;cases IM;exact(ok.dd.d1 j1 r (mem r (.inl rfl)) ⟨j2,k2,w2,h2,EE j2 k2 w2 e2 JD,e4⟩).elim
  ·by_cases JD:j2=i
   ·subst JD;have Qu:c.σ[j2]?=UI (UI (.ref r')):=e4;rw[hv]at Qu;cases Qu;exact(ok.dd.d1 j2 r (mem r (.inl rfl)) ⟨j1,k1,w1,h1,EE j1 k1 w1 e1 Kc,e3⟩).elim
   ·exact ok.inj j1 j2 k1 k2 w1 w2 r' h1 h2 (EE j1 k1 w1 e1 Kc) (EE j2 k2 w2 e2 JD) e3 e4
 ·by_cases hj:j=i
  ·subst hj;rw[U0 Fj]at e1;cases e1
  ·have E9:=EE j _ w e1 hj;exact bX.mv up (λa ha=>⟨λz=>z.elim (ok.root (.inr ⟨j,w,r',E9,e2,U2.mp ha⟩)).1 λz=>hj (ok.dd.dj j i a ⟨w,r',E9,e2,U2.mp ha⟩ (mem a (.inr z))),λo q=>q⟩) (ok.dd.kd j w r' E9 e2)
 ·obtain⟨hj,y⟩:=bD j a z1;rcases b1 a z2 with z|z
  ·exact ok.dd.d1 j a y z
  ·subst z;exact hj (ok.dd.dj j i a y (mem a (.inl rfl)))
 ·rcases z with z|⟨j,z⟩
  ·rcases b1 a z with z|rfl
   ·exact n.roots a (.inl z)
   ·exact n.roots a (.inr ⟨i,mem a (.inl rfl)⟩)
  ·exact n.roots a (.inr ⟨j,(bD j a z).2⟩)
 ·rcases z with z|z
  ·exact n.new a z
  ·rcases n.roots a (.inr ⟨i,mem a (.inr z)⟩) with y|y
   ·exact .inr (.inl y)
   ·exact .inr (.inr y)
theorem y6(hN:X.N[i]?=UI x)(hv:F3 X.env.scope x)(hd:(x==("__debug__":Str))=UO)(EV:(x==("__classdict__":Str))=UO):PE X (.Name x pos) (Ek C (v3 i)):=by
 have OJ:=m9 (C:=C) (pos:=pos) hN hv hd EV;rintro pins s σ H Q I ⟨c0,rfl,rfl,ok,r,st',e,h⟩;unfold v3 at e;split at e
 ·rename_i u hs;cases e;obtain⟨v,e1,r',rfl⟩:=ok.sl i _ _ hs;obtain⟨Er,n'⟩:=ok.C9 (Nx.refl c0) hs e1;have Fj:i<c0.st.length:=(UW.mp hs).1;exact cc hN hv hd EV pins s c0.σ c0.H Q I ⟨.ref r',e1,h {c0 with S:=λa=>c0.S a\/a∈c0.kid i,st:=c0.st.set i (UI (.own,u))} (.ref r') rfl rfl Er n' ⟨⟨.own,rfl,U0 Fj⟩,e1⟩⟩
 ·exact OJ pins s c0.σ c0.H Q I ⟨c0,rfl,rfl,ok,r,st',e,h⟩
end
section
theorem Ok.C_(ok:Ok C c)(hi:c.st[i]?=UI (UI (.own,u)))(hv:c.σ[i]?=UI (UI (.ref r))):Ok C {c with H:=upd c.H r o',st:=c.st.set i UK}/\Ns c {c with H:=upd c.H r o',st:=c.st.set i UK}/\¬({c with H:=upd c.H r o',st:=c.st.set i UK}:Cf).R r:=by
 have Fj:i<c.st.length:=(UW.mp hi).1;have Jz:c.R1 r:=⟨i,.own,u,rfl,hi,hv⟩
 obtain⟨z1,z2,z3,o,z4,z5⟩:=ok.root (.inl Jz);have h0:C.H₀ r=UK:=by
  obtain⟨v,e1,r',er,_,_,q,_⟩:=ok.sl i _ _ hi;rw[hv]at e1;cases e1;cases er;exact q
 have EE:∀(j:Nat) k w,(c.st.set i UK)[j]?=UI (UI (k,w))->j≠i/\c.st[j]?=UI (UI (k,w)):=λj k w e=>by
  by_cases hj:j=i
  ·subst hj;rw[U0 Fj]at e;cases e
  ·rw[Vh (VP hj)]at e;exact⟨hj,e⟩
 have b1:∀a,({c with H:=upd c.H r o',st:=c.st.set i UK}:Cf).R1 a->c.R1 a/\a≠r:=λa Ey=>by
  obtain⟨j,k,w,hk,e1,e2⟩:=Ey;obtain⟨ne,E9⟩:=EE j k w e1;refine⟨⟨j,k,w,hk,E9,e2⟩,λz=>?_⟩;subst z;exact ne (ok.inj j i k .own w u a hk rfl E9 hi e2 hv)
 have bD:∀j a,({c with H:=upd c.H r o',st:=c.st.set i UK}:Cf).RD j a->c.RD j a:=λj a ⟨w,r',e1,e2,e3⟩=>⟨w,r',(EE j _ w e1).2,e2,e3⟩
 have nD:∀j a,c.RD j a->a≠r:=λj a z e=>by subst e;exact ok.dd.d1 j a z Jz
 have mv:∀S:U8->Prop,¬S r->Mv S c.H S (upd c.H r o'):=λS hS=>⟨λa z=>z,λa ob e tp=>by
  have:a≠r:=λz=>by subst z;rw[z4]at e;cases e;exact z5 tp
  rw[ak this];exact e,λa ob z e=>by
  have:a≠r:=λy=>by subst y;exact hS z
  rw[ak this];exact e⟩
 have hP:¬PS C c.S r:=λz=>z.elim z2 z1;refine⟨⟨λa ob e Mw=>?_,λa z=>?_,ok.par,λa z=>?_,by simp[ok.len],λj k w e=>?_,λj1 j2 k1 k2 w1 w2 r' h1 h2 e1 e2 e3 e4=>ok.inj j1 j2 k1 k2 w1 w2 r' h1 h2 (EE _ _ _ e1).2 (EE _ _ _ e2).2 e3 e4,?_⟩,⟨λa ob e hR=>?_,λa ob e=>?_,λa z=>?_,λa z=>z,λa z=>.inl z⟩,λz=>?_⟩
 ·have:a≠r:=λy=>by subst y;rw[h0]at e;cases e
  show upd c.H r o' a=_;rw[ak this];exact ok.same a ob e Mw
 ·obtain⟨q1,ob,q2⟩:=ok.F5 a z;have:a≠r:=λy=>by subst y;exact z1 z
  exact⟨q1,ob,by show upd c.H r o' a=_;rw[ak this];exact q2⟩
 ·obtain⟨⟨ob,q1⟩,SQ,q2⟩:=ok.io a z;have:a≠r:=λy=>by subst y;rw[h0]at q1;cases q1
  exact⟨⟨ob,q1⟩,SQ,by show upd c.H r o' a=_;rw[ak this];exact q2⟩
 ·obtain⟨ne,e'⟩:=EE j k w e;obtain⟨v,e1,e2⟩:=ok.sl j k w e';refine⟨v,e1,e2.mv (mv _ z1) (mv _ hP) λhk r' er=>?_⟩;obtain⟨Lq,Fz,y1,_⟩:=e2.rt hk;rw[er]at Fz;cases Fz;have:r'≠r:=λy=>by subst y;exact ne (ok.inj j i k .own w u r' hk rfl e' hi (by rw[e1,er]) hv)
  exact⟨y1,λob q=>by show upd c.H r o' r'=_;rw[ak this];exact q⟩
 ·exact ok.dd.of rfl (λj w e=>⟨(EE j _ w e).2,rfl⟩) (λa z=>.inl (b1 a z).1) (mv _ z1) λj a z=>⟨(ok.root (.inr ⟨j,z⟩)).1,λob q=>by show upd c.H r o' a=_;rw[ak (nD j a z)];exact q⟩
 ·have:a≠r:=λy=>by subst y;exact hR (.inl Jz)
  show upd c.H r o' a=_;rw[ak this];exact e
 ·by_cases ha:a=r
  ·subst ha;exact⟨o',au⟩
  ·exact⟨ob,by show upd c.H r o' a=_;rw[ak ha];exact e⟩
 ·rcases z with z|⟨j,z⟩
  ·exact .inl (.inl (b1 a z).1)
  ·exact .inl (.inr ⟨j,bD j a z⟩)
 ·rcases z with z|⟨j,z⟩
  ·exact(b1 r z).2 rfl
  ·exact nD j r (bD j r z) rfl
theorem wz(hH:c.H r=UI (.Fs o (.dK kvs)))(hR:¬c.R r)(ok:Ok C c)(hk:kvs.map (·.1)=ks.map Vs)(hr:aj C c.S c.H us (kvs.map (·.2))):Walk C c [] (m7 (ks,us)) (N' r o kvs):=by
 intro c' Er n hf hs;have h1:=n.keep r _ hH hR;have h2:=hr.mv (ok.mv n);have l1:kvs.length=ks.length:=by rw[<-UQ (f:=(·.1)),hk,UQ]
 have l2:us.length=kvs.length:=by rw[h2.len,UQ]
 have l3:(m7 (ks,us)).length=kvs.length:=by
  unfold m7;rw[UQ,Yc];show min ks.length us.length=_;omega
 refine⟨λi q hq=>?_,λi hi=>⟨h1,⋯⟩⟩;unfold m7 at hq;rw[Vi,U3]at hq;obtain⟨p,hp,rfl⟩:=hq;obtain⟨hu,hw⟩:=Ù.mp hp;obtain⟨v,hv,rep⟩:=h2.get hw;have hi:i<kvs.length:=by
  have:i<ks.length:=(UW.mp hu).1;omega
 have J9:kvs[i]?=UI (Vs p.1,v):=by
  rw[Vi,V2 hi]at hv;have e1:(kvs.map (·.1))[i]?=(ks.map Vs)[i]?:=by rw[hk]
  rw[Vi,Vi,V2 hi,hu]at e1;rw[V2 hi];simp only[Z0,ß]at e1 hv;rw[<-e1,<-hv]
 refine⟨.inl rfl,⟨h1,hi⟩,λx H' hy=>?_⟩;obtain⟨q,SR,rfl,hy⟩:=hy;have Jw:=hy _ _ J9;subst Jw;obtain⟨EH,n2⟩:=Er.lay (o:=.tup [kV (Vs p.1),v]) SR;refine⟨{c' with H:=upd c'.H q (.tup [kV (Vs p.1),v])},rfl,rfl,rfl,EH,n2,?_⟩;have r2:aj C c'.S c'.H [.str p.1,p.2] [kV (Vs p.1),v]:=⟨_,_,rfl,rfl,_,_,rfl,rep,rfl⟩
 exact⟨q,_,rfl,EC.of au,r2.mv (Er.mv n2)⟩
theorem BC(hN:X.N[i]?=UI x)(hv:F3 X.env.scope x)(hd:(x==("__debug__":Str))=UO)(EV:(x==("__classdict__":Str))=UO)(EJ:(apos.endLine==Ec.line)=UN)
  (S:de X N own scope) (hc:X.calm=UN) (hl:own.length=2) (hg:∀D s H ex,PG (Fb X N scope D s H ex) (.Tuple es kx ps) (tG C UN (UX own.length))) (he:∀D s H ex,PE (Fb X N scope D s H ex) elt (Ek C me)) :
  L2.PS X (.Return (UI (.ListComp elt [⟨.Tuple es kx ps,.Call (.Attribute (.Name x px) "items" apos) [] [] Ec,[],0⟩] scope pos)) SS) (E5 C ns (oS i >>= λd=>br 2 UN (pure UN) me [] (m7 d) [] >>= λus=>retS (.own,.lst us))):=by
 refine PS.weak (u4 (A6 (rH S hc (vY hN hv hd EV EJ) hg (λD s H ex=>show HF _ [] (Fq C (pure UN)) from λpins s σ H Q I ⟨c0,e1,e2,ok,w⟩=>mP pins s σ H Q I (by subst e1 e2;rw[ai]at w;exact w c0 rfl rfl ok (Nx.refl c0))) he))) ?_;rintro D σ H ⟨c0,rfl,rfl,ok,h⟩;rw[ag]at h;obtain⟨d,st',e,h⟩:=h;unfold oS at e;split at e
 rotate_left
 ·cases e
 rename_i ks us hi;cases e;obtain⟨v,e1,r,er⟩:=ok.sl i _ _ hi;subst er;obtain⟨kvs,g1,g2,g3,g4,g5,g6⟩:=ok.dd.kd i _ r hi e1;refine⟨r,kvs,g1,λo=>?_⟩;obtain⟨El,n1⟩:=Ok.C9 ok (Nx.refl c0) hi e1;have Fj:i<c0.st.length:=(UW.mp hi).1;obtain⟨EH,n2,nR⟩:=Ok.C_ (o':=.Fs o (.dK kvs)) El (i:=i) (u:=.Ee ks us) (r:=r) (by show(c0.st.set i _)[i]?=_;rw[U0 Fj]) e1;let c2:Cf:={S:=λa=>c0.S a\/a∈c0.kid i,H:=upd c0.H r (.Fs o (.dK kvs)),σ:=c0.σ,st:=c0.st.set i UK,kid:=c0.kid}
 have Ow:(c0.st.set i (UI (Kd.own,U.Ee ks us))).set i UK=c0.st.set i UK:=by rw[List.set_set]
 have ec:({ ({c0 with S:=λa=>c0.S a\/a∈c0.kid i,st:=c0.st.set i (UI (.own,.Ee ks us))}:Cf) with H:=upd c0.H r (.Fs o (.dK kvs)),st:=(c0.st.set i (UI (Kd.own,U.Ee ks us))).set i UK}:Cf)=c2:=by rw[Ow]
 have JE:Ok C c2:=ec▸EH;have SU:Ns c0 c2:=n1.toNs.trans (ec▸n2);have SV:¬c2.R r:=ec▸nR;have FK:aj C c2.S c2.H us (kvs.map (·.2)):=by
  rw[g3];have:=(cQ.rep (S':=c2.S) (λa=>.inl) (λa ha=>.inr ha) g6).mv (show Mv c2.S c0.H c2.S c2.H from⟨λa z=>z,λa ob q tp=>?_,λa ob z q=>?_⟩)
  ·exact this
  ·have:a≠r:=λy=>by subst y;rw[g1]at q;cases q;exact tp
   show upd c0.H r _ a=_;rw[ak this];exact q
  ·have:a≠r:=λy=>by
    subst y;rcases z with z|z
    ·exact(g5 a (by simp)).1 z
    ·exact(Vp.mp g4).1 z
   show upd c0.H r _ a=_;rw[ak this];exact q
 refine⟨r,o,kvs,e1,au,?_⟩;rw[hl];refine lV (c0:=c2) (c1:=c2) (rs:=[]) (xs:=m7 (ks,us)) rfl JE (Nx.refl c2) (wz au SV JE g2 FK) ?_;rw[ag]at h;refine h.mono λvs st2 w=>?_;rw[show retS (.own,.lst vs)=pure (.rt .own (.lst vs)) from rfl,ai]at w;rw[ai];intro c v hσ Ei EF n rt;obtain⟨r0,e,h1,h2,h3,h4⟩:=rt;exact w c Ei EF (SU.trans n.toNs) (Kept.of hσ) v ⟨r0,e,(JE.j_ h1).1,h2,h3,h4⟩
end
section
theorem fC{st:aq}(h:W (fM i) st Q):∃ks us,st[i]?=UI (UI (.Eb,.Ee ks us))/\Q (ks,us) st:=by
 obtain⟨r,st',e,q⟩:=h;unfold fM at e;split at e
 ·rename_i ks us hs;cases e;exact⟨ks,us,hs,q⟩
 ·cases e
theorem fD{st:aq}(h:W (gT x) st Q):∃y,x.2=.str y/\Q y st:=by
 unfold gT at h;split at h
 ·rename_i y e;rw[ai]at h;exact⟨y,e,h⟩
 ·exact(aC.mp h).elim
theorem Ok.Ee(ok:Ok C c)(hi:c.st[i]?=UI (UI (.Eb,.Ee ks us))):∃(r:U8) (kvs:List (Key×V)),c.σ[i]?=UI (UI (.ref r))/\c.H r=UI (.dK kvs)/\kvs.map (·.1)=ks.map Vs/\kvs.map (·.2)=(c.kid i).map V.ref /\
  (r::c.kid i).Nodup/\cQ C c.S c.H us (c.kid i)/\(∀y:Str,(cW kvs (Vs y)).isSome=UP (y∈ks))/\∀(y:Str) (u:U),cY ks us y=UI u->∃v,cW kvs (Vs y)=UI v/\Rep C (λa=>c.S a\/a∈c.kid i) c.H u v:=by
 obtain⟨v,e,r,rfl⟩:=ok.sl i _ _ hi;obtain⟨kvs,h1,h2,h3,h4,h5,h6⟩:=ok.dd.kd i _ r hi e;have hr:aj C (λa=>c.S a\/a∈c.kid i) c.H us (kvs.map (·.2)):=by rw[h3];exact h6.rep (λa=>.inl) λa ha=>.inr ha
 exact⟨r,kvs,e,h1,h2,h3,h4,h6,λy=>(c8 (x:=y) h2 hr).2,λy=>(c8 (x:=y) h2 hr).1⟩
theorem g_{k:Str->List Str×List U->M β}{Em:β->aq->Prop}{Z:V->V->Hp->Prop}(ok:Ok C c0)(h:W (ma >>= λx=>gT x >>= λy=>fM i >>= λd=>k y d) c0.st Em)
  (hz:∀(c:Cf) (y:Str) (ks:List Str) (us:List U) (r:U8) (kvs:List (Key×V)),c.σ=c0.σ->Ok C c->Nx c0 c->c.H r=UI (.dK kvs)->(cW kvs (Vs y)).isSome=UP (y∈ks)->W (k y (ks,us)) c.st Em->Z (.str y) (.ref r) c.H) :
  Ek C ma c0.σ c0.H λv H1=>∃v',c0.σ[i]?=UI (UI v')/\Z v v' H1:=by
 refine⟨c0,rfl,rfl,ok,?_⟩;rw[ag]at h;refine W.mono h λx st' w c v hσ hs Er n r=>?_;subst hs;obtain⟨kx,ux⟩:=x;rw[ag]at w;obtain⟨y,e,w1⟩:=fD w;clear w
 dsimp only at e r
 subst e;have ev:v=.str y:=r.str Er;subst ev;rw[ag]at w1;obtain⟨ks,us,hs,w⟩:=fC w1;obtain⟨r',kvs,e1,h1,_,_,_,_,h2,_⟩:=Er.Ee hs;exact⟨.ref r',by rw[<-hσ];exact e1,hz c y ks us r' kvs hσ Er n h1 (h2 y) w⟩
noncomputable def wA(neg:Bool):CmpOp:=if neg=UN then .NotIn else .In
theorem y7(hu:X.A.units+60<Wa)(hN:X.N[i]?=UI x)(hv:F3 X.env.scope x)(hd:(x==("__debug__":Str))=UO)(EV:(x==("__classdict__":Str))=UO)(ha:PE X a (Ek C ma))(hm:Xs (wA neg) (.Name x p2)=UO):
  PE X (.Compare a [wA neg] [.Name x p2] pos) (Ek C (ma >>= λx=>gT x >>= λy=>fM i >>= λd=>pure (.loc,.bl (Ln neg y d.1)))):=by
 rintro pins s σ H Q I ⟨c0,rfl,rfl,ok,h⟩;cases neg with
 |false =>
  refine uW (vk ⋯ ha (cc hN hv hd EV)) hm pins s c0.σ c0.H Q I (g_ ok h λc y ks us r kvs hσ EF n h1 h2 w=>?_);rw[ai]at w;refine⟨r,_,rfl,dF.k (k:=Vs y) h1,?_⟩;rw[h2];exact w c (.bl _) hσ rfl EF n rfl
 |true =>
  refine uW (lI ⋯ ha (cc hN hv hd EV)) hm pins s c0.σ c0.H Q I (g_ ok h λc y ks us r kvs hσ EF n h1 h2 w=>?_);rw[ai]at w;refine⟨r,_,rfl,dF.k (k:=Vs y) h1,?_⟩;rw[h2];exact w c (.bl _) hσ rfl EF n rfl
theorem BD(FH:∀j,ns j=UN->j≠i)(hN:X.N.Nodup)(hi:X.N[i]?=UI x)(hx:Loc X.env.scope x)(hf:X.fn x=UN\/X.env.scope.names.lookup x=UI .local)
  (hs:Yi (.Dict [] [] p) (UI (.Name x pos')) pos.line X.env=pure UO):L2.PS X (.Assign [.Name x pos'] (.Dict [] [] p) pos) (E5 C ns (zO i >>= λ_=>pure .nx)):=by
 rintro pins s σ H D I ⟨c0,rfl,rfl,ok,h⟩;have Fj:i<c0.σ.length:=by rw[I.len];exact(UW.mp hi).1
 refine u7 hN hi hx ou hs hf pins s c0.σ c0.H D I λq hq=>?_;obtain⟨Er,n'⟩:=ok.newD hq Fj;rw[ag]at h;obtain⟨_,st',e,w⟩:=h;cases e;rw[ai]at w;exact w _ rfl Er n' ⟨λj hj=>Vh (VP (FH j hj)),by simp⟩
end
section
theorem y8(hu:X.A.units+60<Wa)(hN:X.N[i]?=UI x)(hv:F3 X.env.scope x)(hd:(x==("__debug__":Str))=UO)(EV:(x==("__classdict__":Str))=UO)(ha:PE X a (Ek C ma))(hm:Xs (wA neg) (.Name x p2)=UO):
  PT X (.Compare a [wA neg] [.Name x p2] pos) (Fq C (ma >>= λx=>gT x >>= λy=>fM i >>= λd=>pure (Ln neg y d.1))):=by
 rintro pins s σ H Q I ⟨c0,rfl,rfl,ok,h⟩;cases neg with
 |false =>
  refine uX (vk ⋯ ha (cc hN hv hd EV)) hm pins s c0.σ c0.H Q I (g_ (Z:=λy x H2=>∃a o,x=V.ref a/\dF H2 a y o/\∃b,V.bl o.isSome=.bl b/\Q b H2) ok h λc y ks us r kvs hσ EF n h1 h2 w=>?_);rw[ai]at w;refine⟨r,_,rfl,dF.k (k:=Vs y) h1,?_⟩;rw[h2];exact⟨_,rfl,w c hσ rfl EF n⟩
 |true =>
  refine uX (lI ⋯ ha (cc hN hv hd EV)) hm pins s c0.σ c0.H Q I (g_ (Z:=λy x H2=>∃a o,x=V.ref a/\dF H2 a y o/\∃b,V.bl (!o.isSome)=.bl b/\Q b H2) ok h λc y ks us r kvs hσ EF n h1 h2 w=>?_);rw[ai]at w;refine⟨r,_,rfl,dF.k (k:=Vs y) h1,?_⟩;rw[h2];exact⟨_,rfl,w c hσ rfl EF n⟩
theorem cQ.snoc{S:U8->Prop}{a:U8}(h1:H a=UI (.lst vs))(h2:aj C S H ys vs):∀{us:List U}{as:List U8},cQ C S H us as->cQ C S H (us++[.lst ys]) (as++[a])
 |[],as,h=>by cases h;exact⟨a,[],ys,vs,rfl,rfl,h1,h2,rfl⟩
 |u::us,as,h=>by
  obtain⟨a',as',FL,E2,rfl,e,g1,g2,g3⟩:=h;exact⟨a',as'++[a],FL,E2,rfl,e,g1,g2,cQ.snoc h1 h2 g3⟩
theorem qD{st:aq}(h:W (kb i y r) st Q):∃us ks vs,r=(.own,.lst us)/\st[i]?=UI (UI (.Eb,.Ee ks vs))/\y∉ks/\ks.length<US/\Q () (st.set i (UI (.Eb,.Ee (ks++[y]) (vs++[.lst us])))):=by
 obtain⟨k,u⟩:=r;cases k<;>cases u<;>first|exact(aC.mp h).elim|skip
 rename_i us;obtain⟨_,st',e,q⟩:=h;unfold kb at e
 dsimp only at e
 split at e
 ·rename_i ks vs hs;split at e
  ·rename_i hz;cases e;exact⟨us,ks,vs,rfl,hs,hz.1,hz.2,q⟩
  ·cases e
 ·cases e
theorem BE{i:Nat}{x:Str}{px:Pos}(hu:X.A.units+60<Wa)(hN:X.N[i]?=UI x)(hv:F3 X.env.scope x)(hd:(x==("__debug__":Str))=UO)(EV:(x==("__classdict__":Str))=UO)
  (ha:PE X a (Ek C ma)) (hb:PE X b (Ek C mb)) (hs:Yl [.Subscript (.Name x px) b p] a pos.line X.env=pure UO) (JB:ZV [.Subscript (.Name x px) b p] a X.env=pure UK)
  (has:∀v,YK (.Subscript (.Name x px) b p) X.env v=(do
   let ov <-WT [v] (Wo (.Name x px) X.env)
   let iv <-WT [v,ov] (Wo b X.env)
   Á p
   WT [v,ov,iv] (Za ov iv v)
   Ä [v,ov,iv] [])) :
  L2.PS X (.Assign [.Subscript (.Name x px) b p] a pos) (E5 C ns (ma >>= λr=>fM i >>= λ_=>mb >>= λx=>gT x >>= λy=>kb i y r >>= λ_=>pure .nx)):=by
 refine PS.weak (p7 ha (u6 (cc hN hv hd EV) hb (set_dict (X:=X) ⋯) has) hs JB rfl) ?_;rintro D σ H ⟨c0,rfl,rfl,ok,h⟩;refine aN ok h λr c v t w=>?_;rw[ag]at w;obtain⟨Qv,OK,Fh,w⟩:=fC w;obtain⟨r0,JF,e0,g0,_⟩:=t.ok.Ee Fh;refine⟨.ref r0,by rw[<-t.hσ];exact e0,?_⟩;rw[ag]at w;refine⟨c,t.hσ,rfl,t.ok,w.mono λy st2 w2 c2 vy e3 e4 EH n2 r2=>?_⟩;subst e4;rw[ag]at w2;obtain⟨ky,uy⟩:=y;obtain⟨y,ey,w3⟩:=fD w2
 dsimp only at ey r2
 subst ey;have ev:vy=.str y:=r2.str EH;subst ev;rw[ag]at w3;obtain⟨us,ks,vs,er,FT,Mk,hlen,q⟩:=qD w3;subst er;rw[ai]at q;obtain⟨r1,kvs,f1,g1,g2,g3,g4,g5,g6,_⟩:=EH.Ee FT;have er:r1=r0:=by rw[e3,<-t.hσ,e0]at f1;cases f1;rfl
 subst er;obtain⟨r',rfl,k1,k2,k3,E2,k4,k5⟩:=t.rx.w.on t.ok n2.toNs (e3.trans t.hσ.symm);have OG:=t.nx.trans n2;have hl:kvs.length=ks.length:=by have:=θ VX g2;simpa using this
 have Hv:cW kvs (Vs y)=UK:=by
  have:=g6 y;rw[ζ Mk]at this;cases hq:cW kvs (Vs y) with
  |none=>rfl
  |some _=>rw[hq]at this;cases this
 refine⟨r1,_,rfl,tL.k (k:=Vs y) g1 (by rw[hl];exact hlen),?_⟩;rw[vj _ Hv];have MK:r'∉c2.kid i:=λz=>k3 (.inr ⟨i,_,_,FT,f1,.inr z⟩);have Qw:r'≠r1:=λz=>k3 (.inr ⟨i,_,_,FT,f1,.inl z⟩);have rd:=EH.dd.kd i _ _ FT f1;have fr:=bX.fr rd;obtain⟨Gr,n3⟩:=Ok.C8 (H':=upd c2.H r1 (.dK (kvs++[(Vs y,.ref r')]))) (u':=.Ee (ks++[y]) (vs++[.lst us])) (as':=c2.kid i++[r']) EH OG.toNs FT f1
  (λa ne=>ak λz=>ne ⟨_,_,FT,f1,.inl z⟩) (λa o e=>by
   by_cases hz:a=r1
   ·subst hz;exact⟨_,au⟩
   ·rw[ak hz];exact⟨o,e⟩)
  (λmv=>by
   refine⟨_,au,by rw[Vm,g2,Vm];rfl,by rw[Vm,g3,Vm];rfl,?_,λa ha=>?_,?_⟩
   ·rw[<-Ĺ,VC];exact⟨g4,by simp,λa ha b hb=>by
     have:b=r':=by simpa using hb
     subst this;rintro rfl;rcases U2.mp ha with z|z
     ·exact Qw z
     ·exact MK z⟩
   ·rw[<-Ĺ]at ha;rcases Ve.mp ha with ha|ha
    ·exact fr a ha
    ·have:a=r':=by simpa using ha
     subst this;obtain⟨z1,_,z3,_⟩:=ok.j_ k1;exact⟨k2,z3,z1⟩
   ·exact cQ.snoc (by rw[ak Qw];exact k4) (k5.mv mv) (cQ.mv mv (λa ha o e=>by
     rw[ak (λz=>(Vp.mp g4).1 (by rw[<-z];exact ha))];exact e) g5))
  (λa ha=>by
   rcases Ve.mp ha with ha|ha
   ·exact .inl ha
   ·have:a=r':=by simpa using ha
    subst this;exact .inr ⟨k3,k1⟩)
 have z:=q _ rfl Gr n3 (Kept.of e3);rw[<-e3];exact z
theorem cQ.at{S:U8->Prop}:∀{ks:List Str}{us:List U}{as:List U8}{kvs:List (Key×V)}{u:U},kvs.map (·.1)=ks.map Vs->kvs.map (·.2)=as.map V.ref->as.Nodup->cQ C S H us as->cY ks us y=UI u ->
  ∃a ws ys,cW kvs (Vs y)=UI (.ref a)/\a∈as/\u=.lst ys/\H a=UI (.lst ws)/\aj C S H ys ws/\∀(H':Hp) (FL:List U) (Ke:List V),Mv S H S H'->H' a=UI (.lst Ke)->aj C S H' FL Ke->(∀b∈as,b≠a->H' b=H b)->cQ C S H' (iD ks us y (.lst FL)) as
 |[],us,as,kvs,u,_,_,_,_,h=>by cases us<;>cases h
 |k::ks,[],as,kvs,u,_,_,_,_,h=>by cases h
 |k::ks,u0::us,as,kvs,u,h1,h2,hn,hk,h=>by
  obtain⟨a,as',ys,ws,rfl,rfl,g1,g2,g3⟩:=hk;cases kvs with
  |nil=>simp at h1
  |cons p kvs =>
   rw[U7,U7,X4]at h1 h2;rw[Vp]at hn;by_cases hy:k=y
   ·subst hy;simp only[cY,μ]at h;cases h;refine⟨a,ws,ys,by rw[dJ h1.1,h2.1],by simp,rfl,g1,g2,λH' FL Ke mv e1 e2 e3=>?_⟩;simp only[iD,μ];exact⟨a,as',FL,Ke,rfl,rfl,e1,e2,cQ.mv mv (λb hb o e=>by rw[e3 b (by simp[hb]) (λz=>hn.1 (z▸hb))];exact e) g3⟩
   ·simp only[cY,ε hy]at h;obtain⟨a1,SW,SX,f1,f2,f3,f4,f5,f6⟩:=cQ.at h1.2 h2.2 hn.2 g3 h;refine⟨a1,SW,SX,?_,by simp[f2],f3,f4,f5,λH' FL Ke mv e1 e2 e3=>?_⟩
    ·rw[dM (by rw[h1.1];intro z;exact hy (ZH z))];exact f1
    ·simp only[iD,ε hy];have ha:a≠a1:=λz=>hn.1 (z▸f2);exact⟨a,as',ys,ws,rfl,rfl,by rw[e3 a (by simp) ha];exact g1,g2.mv mv,f6 H' FL Ke mv e1 e2 λb hb=>e3 b (by simp[hb])⟩
theorem qE{st:aq}(h:W (kf i y u) st Q):∃ks vs xs,st[i]?=UI (UI (.Eb,.Ee ks vs))/\cY ks vs y=UI (.lst xs)/\xs.length<US/\Q () (st.set i (UI (.Eb,.Ee ks (iD ks vs y (.lst (xs++[u])))))):=by
 obtain⟨_,st',e,q⟩:=h;unfold kf at e;split at e
 ·rename_i ks vs hs;split at e
  ·rename_i xs hx;split at e
   ·rename_i hz;cases e;exact⟨ks,vs,xs,hs,hx,hz,q⟩
   ·cases e
  ·cases e
 ·cases e
theorem BF(hK:C.K=X.K)(hu:X.A.units+60<Wa)(hN:X.N[i]?=UI x)(hv:F3 X.env.scope x)(hd:(x==("__debug__":Str))=UO)(EV:(x==("__classdict__":Str))=UO)(ha:PE X a (Ek C ma))(hb:PE X b (Ek C mb))(Ij:AR b)
  (Fu:((Ww Ec (Vf [a] X.env)).all (λx=>!x.1)&&(Yo Ec (Xe [] X.env)).all (λx=>x.1.isSome)
   && UP ([a].length+([]:List XT).length+(if ([]:List XT).isEmpty then 0 else 1)<30))=UN)
  (EJ:(apos.endLine==Ec.line)=UN) (Ei:Vf [a] X.env=[(UO,Wo a X.env)]) :
  L2.PS X (.Expr (.Call (.Attribute (.Subscript (.Name x px) b p) "append" apos) [a] [] Ec) pos) (E5 C ns (fM i >>= λ_=>mb >>= λx=>gT x >>= λy=>fM i >>= λd=>if y∈d.1 then(ma >>= λr=>lift r >>= λu=>kf i y u >>= λ_=>pure .nx) else M.fail)):=by
 refine PS.weak (jq (vg PySem.F.plainAttrs_list PySem.F.slot_list_append PySem.F.type_list_append lE (yg ⋯ (cc hN hv hd EV) hb Ij) (jr ha mG Ei) rfl Fu EJ Ei rfl)) ?_;rintro D σ H ⟨c0,rfl,rfl,ok,h⟩;rw[ag]at h;obtain⟨Qv,OK,Fh,h⟩:=fC h;obtain⟨r0,JF,e0,g0,_⟩:=ok.Ee Fh;refine⟨.ref r0,e0,?_⟩;refine aN ok h λry c vy t w=>?_;rw[ag]at w;obtain⟨ky,uy⟩:=ry;obtain⟨y,ey,w1⟩:=fD w
 dsimp only at ey
 subst ey;have ev:vy=.str y:=t.rx.str t.ok;subst ev;rw[ag]at w1;obtain⟨ks,us,hs,w2⟩:=fC w1
 dsimp only at w2
 by_cases hy:y∈ks
 case neg=>rw[ε hy]at w2;exact(aC.mp w2).elim
 rw[δ hy]at w2;obtain⟨r1,kvs,f1,g1,g2,g3,g4,g5,g6,_⟩:=t.ok.Ee hs;have er:r1=r0:=by rw[t.hσ,e0]at f1;cases f1;rfl
 subst er;have F9:=g6 y;rw[η hy]at F9;obtain⟨v0,ML⟩:=Ò.mp F9;have FR:v0∈(c.kid i).map V.ref:=by
  rw[<-g3];unfold cW at ML;obtain⟨q,hq,rfl⟩:=U3.mp ML;exact ď (List.mem_of_find?_eq_some hq)
 obtain⟨a1,SY,rfl⟩:=Vc.mp FR;obtain⟨S3,OL⟩:=g5.mem SY;refine⟨r1,.ref a1,rfl,by rw[<-ML];exact dF.k (k:=Vs y) g1,Or.inl ⟨rfl,S3,.inl (.inl OL)⟩,?_⟩;rw[<-t.hσ];refine aN t.ok w2 λr c' v t' w3=>?_;rw[ag]at w3;obtain⟨S',st',u,sS,El,n1,rep1,w4,_,_⟩:=gW t.ok t'.ok t'.nx t'.rx.w w3;rw[ag]at w4;obtain⟨Qx,E2,xs,Fp,hx,hz,q⟩:=qE w4;rw[ai]at q;obtain⟨r2,JG,k1,k2,k3,k4,k5,k6,_,_⟩:=El.Ee Fp;have Qy:c'.σ[i]?=UI (UI (.ref r2)):=k1;have er:r2=r1:=by rw[t'.hσ,t.hσ,e0]at Qy;cases Qy;rfl
 subst er;have S4:c'.H r2=UI (.dK JG):=k2;have OM:JG=kvs:=by have:=t'.nx.all _ _ g1;rw[S4]at this;cases this;rfl
 subst OM;have nd:=(Vp.mp k5).2;obtain⟨a2,ws,ys,l1,l2,l3,l4,l5,l6⟩:=cQ.at k3 k4 nd k6 hx;cases l3;rw[ML]at l1;cases l1;have S5:c'.H a1=UI (.lst ws):=l4;refine⟨a1,ws,v,rfl,rfl,S5,by rw[<-l5.len];exact hz,?_⟩;have EX:a1≠r2:=λz=>(Vp.mp k5).1 (z▸l2);obtain⟨EH,n2⟩:=Ok.C8 (c:={c' with S:=S',st:=st' }) (H':=upd c'.H a1 (.lst (ws++[v]))) (u':=.Ee Qx (iD Qx E2 y (.lst (xs++[u])))) (as':=c'.kid i) El (t.nx.trans n1).toNs Fp k1
  (λa ne=>ak λz=>ne ⟨_,_,Fp,k1,.inr (z▸l2)⟩) (λa o e=>by
   by_cases hz:a=a1
   ·subst hz;exact⟨_,au⟩
   ·rw[ak hz];exact⟨o,e⟩)
  (λmv=>⟨JG,by rw[ak (VP EX)];exact k2,k3,k4,k5,bX.fr (El.dd.kd i _ _ Fp k1),l6 _ _ _ mv au ((l5.mv mv).snoc (rep1.mv mv)) λb _ ne=>ak ne⟩)
  (λa ha=>.inl ha)
 have z:=q _ rfl EH n2 (Kept.of (t'.hσ.trans t.hσ));rw[<-t'.hσ];exact z
end
section
theorem wB{st:aq}(h:W (Og u) st Q):∃ks us,u=.Ee ks us/\Q () st:=by
 cases u<;>first|exact(aC.mp h).elim|skip
 exact⟨_,_,rfl,ai.mp h⟩
theorem lX{st:aq}(h:W (ug x) st Q):∃j,x.2=.int j/\Q j st:=by
 unfold ug at h;split at h
 ·rename_i y e;rw[ai]at h;exact⟨y,e,h⟩
 ·exact(aC.mp h).elim
theorem lY{st:aq}(h:W (oU i) st Q):∃k us,k.root=UN/\st[i]?=UI (UI (k,.lst us))/\Q us st:=by
 obtain⟨r,st',e,q⟩:=h;unfold oU at e;split at e
 ·rename_i k us hs;split at e
  ·rename_i hk;cases e;exact⟨k,_,hk,hs,q⟩
  ·cases e
 ·cases e
theorem o_:∀{ks:List Str}{us:List U},y∈ks->ks.length=us.length->cY ks us y=UK->False
 |[],us,h,_,_=>by cases h
 |k::ks,[],_,h,_=>by simp at h
 |k::ks,u::us,h,hl,e=>by
  by_cases hk:k=y
  ·simp[cY,hk]at e
  ·simp only[cY,ε hk]at e;rcases U2.mp h with h|h
   ·exact hk h.symm
   ·exact o_ h (by simpa using hl) e
theorem wC{i:Nat}{x:Str}{px:Pos}(hu:X.A.units+60<Wa)(hN:X.N[i]?=UI x)(hv:F3 X.env.scope x)(hd:(x==("__debug__":Str))=UO)(EV:(x==("__classdict__":Str))=UO)
  (ha:PE X a (Ek C ma)) (hb:PE X b (Ek C mb)) (hm:M2 X (.Name x px) "get" apos a b Ec) :
  PE X (.Call (.Attribute (.Name x px) "get" apos) [a,b] [] Ec) (Ek C (du i >>= λx=>Og x.2 >>= λ_=>ma >>= λy=>gT y >>= λy=>mb >>= λz=>lift z >>= λu=>du i >>= λx=>M.Eu (yG x y u))):=by
 rintro pins s σ H Q I ⟨c0,rfl,rfl,ok,h⟩;refine vn ⋯ (cc hN hv hd EV) ha hb hm pins s c0.σ c0.H Q I ?_;rw[ag]at h;obtain⟨k0,u0,ON,Fh,h⟩:=c9 h;obtain⟨v0,e0,t0⟩:=ok.slot ON Fh;rw[ag]at h;obtain⟨Qv,OK,Qz,h'⟩:=wB h
 dsimp only at Qz
 subst Qz;obtain⟨a0,JF,rfl,g0,_⟩:=t0.dict ok;refine⟨.ref a0,e0,a0,rfl,.inl ⟨JF,.inl g0⟩,?_⟩;refine aN ok h' λry c vy t w=>?_;rw[ag]at w;obtain⟨ky,uy⟩:=ry;obtain⟨y,ey,w1⟩:=fD w
 dsimp only at ey
 subst ey;have ev:vy=.str y:=t.rx.str t.ok;subst ev;rw[<-t.hσ];refine aN t.ok w1 λz c2 vz t2 w2=>?_;rw[ag]at w2;obtain⟨S',st',u,sS,El,n1,rep1,w4,_,_⟩:=gW t.ok t2.ok t2.nx t2.rx.w w2;rw[ag]at w4;obtain⟨k,u1,S6,FT,w5⟩:=c9 w4;obtain⟨r,er,q⟩:=cp.mp w5;obtain⟨v1,e1,t1⟩:=El.slot S6 FT;have E9:c2.σ[i]?=UI (UI v1):=e1;rw[t2.hσ,t.hσ,e0]at E9;cases E9;cases u1<;>first|(simp only[yG]at er;cases er;done)|skip
 rename_i ks us;obtain⟨a1,kvs,ea,g1,g2,g3⟩:=t1.dict El;cases ea;have MM:c2.H a0=UI (.dK kvs):=g1;refine⟨_,dF.k (k:=Vs y) MM,?_⟩;simp only[yG]at er;obtain⟨l1,l2⟩:=c8 (x:=y) g2 g3;have fin:∀v:V,aI C c0 {c2 with S:=S',st:=st' } r.1 r.2 v->Q v c2.H:=λv z=>q {c2 with S:=S',st:=st' } v (t2.hσ.trans t.hσ) rfl El (t.nx.trans n1) z;cases hg:cY ks us y with
 |some w =>
  rw[hg]at er;cases er;obtain⟨v,ev,rv⟩:=l1 w hg;rw[ev];refine fin v ?_;exact aI.item (k:=if k.root=UN then .bor i else k) rv
 |none =>
  rw[hg]at er;cases er;have Hv:cW kvs (Vs y)=UK:=by
   cases hq:cW kvs (Vs y) with
   |none=>rfl
   |some v =>
    exfalso
    rw[hq]at l2;have hy:y∈ks:=by simpa using l2.symm
    have hlen:ks.length=us.length:=by have h1:=θ VX g2;have h2:=g3.len;simp at h1 h2;omega
    exact o_ hy hlen hg
  rw[Hv];exact fin vz rep1
theorem wD:Ci X (λo i H Q=>∃p xs j v,o=.ref p/\i=.int j/\H p=UI (.lst xs)/\0<=j/\xs[j.toNat]?=UI v/\Q v H):=by
 rintro pins s σ H o i ov iv Q I ro ri ⟨p,xs,j,v,rfl,rfl,hp,h0,hv,q⟩;cases ro;obtain⟨t,rfl⟩:=ri;obtain⟨A',r,pl,hz⟩:=I.list (.inl (.inl hp));obtain⟨w,ew,GK⟩:=r.get hv;have hl:=r.length;have hn:=eO;have Ez:=(UW.mp hv).1;exact wpAny_getItem_list pl.isList h0 ⋯ (by simpa using ew) ⟨v,H,I,GK,q⟩
theorem y9:L3 X (if sub=UN then .Sub else .Add) (M_ (uh sub)):=by
 cases sub with
 |true=>exact Az
 |false=>exact Ay
theorem Dc(hN:X.N[i]?=UI x)(hv:F3 X.env.scope x)(hd:(x==("__debug__":Str))=UO)(EV:(x==("__classdict__":Str))=UO)
  (ha:PE X a (Ek C ma)) (hb:PE X b (Ek C mb))
  (has:∀ov iv new,Ν b ov iv new=(do WT [new,ov,iv] (Za ov iv new);Ä [new,ov,iv] [];pure .next)) :
  L2.PS X (.AugAssign (.Subscript (.Name x px) b p) (if sub=UN then .Sub else .Add) a pos) (E5 C ns (oU i >>= λ_=>mb >>= λy=>ug y >>= λj=>oU i >>= λus=>M.Eu (oV us j) >>= λo=>ma >>= λz=>ug z >>= λw=>modS i (dv (.int j) (.int (uh sub o w))) >>= λ_=>pure .nx)):=by
 refine PS.weak (xV (cc hN hv hd EV) hb wD ha y9 set_list has) ?_;rintro D σ H ⟨c0,rfl,rfl,ok,h⟩;rw[ag]at h;obtain⟨k0,OK,Lz,Fh,h⟩:=lY h;obtain⟨v0,e0,GG⟩:=ok.sl i _ _ Fh;obtain⟨a0,rfl,_,_,_,_⟩:=GG.rt Lz;refine⟨.ref a0,e0,?_⟩;refine aN ok h λry c vy t w=>?_;rw[ag]at w;obtain⟨ky,uy⟩:=ry;obtain⟨j,ey,w1⟩:=lX w
 dsimp only at ey
 subst ey;have ev:vy=.int j:=t.rx.int t.ok;subst ev;rw[ag]at w1;obtain⟨k1,Uy,S7,FT,w2⟩:=lY w1;rw[ag]at w2;obtain⟨o,ho,w3⟩:=cp.mp w2;obtain⟨v1,e1,S8⟩:=t.ok.sl i _ _ FT;obtain⟨a1,rfl,_,_,_,LA⟩:=S8.rt S7;rw[t.hσ,e0]at e1;cases e1;obtain⟨vs,g1,g2⟩:=LA;unfold oV at ho;split at ho
 case isFalse=>cases ho
 rename_i K3;split at ho
 case h_2=>cases ho
 rename_i o' OO;cases ho;obtain⟨vo,S9,S_⟩:=g2.get OO;have Ta:vo=.int o:=S_;subst Ta;refine⟨a0,vs,j,_,rfl,rfl,g1,K3,S9,?_⟩;rw[<-t.hσ];refine aN t.ok w3 λz c2 vz t2 w4=>?_;rw[ag]at w4;obtain⟨kz,uz⟩:=z;obtain⟨w,ez,w5⟩:=lX w4
 dsimp only at ez
 subst ez;have ev:vz=.int w:=t2.rx.int t2.ok;subst ev;refine⟨o,w,rfl,rfl,?_⟩;rw[ag]at w5;obtain⟨k,u1,u2,hk,E7,hf,q⟩:=fB w5;rw[ai]at q;obtain⟨v2,e2,Iq⟩:=t2.ok.sl i _ _ E7;obtain⟨a2,rfl,_,_,_,LB⟩:=Iq.rt hk;have Tb:=e2;rw[t2.hσ,t.hσ,e0]at e2;cases e2;have MM:c2.H a0=UI (.lst vs):=t2.nx.all _ _ g1;cases u1 with
 |lst xs =>
  simp only[dv,U3]at hf;obtain⟨j',Mb,rfl⟩:=hf;obtain⟨Uz,l1,l2⟩:=LB;rw[MM]at l1;cases l1;refine⟨a0,vs,j,j',rfl,rfl,MM,by rw[<-l2.len];exact Mb,?_⟩;obtain⟨Gr,n3⟩:=Ok.mod (c:=c2) (H':=upd c2.H a0 (.lst (vs.set j' (.int (uh sub o w))))) (u':=.lst (xs.set j' (.int (uh sub o w)))) t2.ok (t.nx.trans t2.nx).toNs hk E7 Tb (λa ne=>ak ne) ⟨_,au⟩ λmv=>⟨_,au,(l2.mv mv).set j' rfl⟩
  have z:=q _ rfl Gr n3 (Kept.of (t2.hσ.trans t.hσ));rw[<-t2.hσ];exact z
 |Ee ks vs=>simp[dv]at hf
 |Fc ks=>simp[dv,rowOf]at hf
 |_=>simp[dv]at hf
end
section
theorem y_{ks:List Str}(h1:kvs.map (·.1)=ks.map Vs)(h2:kvs.map (·.2)=ns.map V.int):kvs=(ks.zip ns).map λp=>((Vs p.1:Key),V.int p.2):=by
 induction kvs generalizing ks ns with
 |nil =>
  cases ks with
  |nil=>rfl
  |cons _ _=>cases h1
 |cons kv kvs ih =>
  cases ks with
  |nil=>cases h1
  |cons k ks =>
   cases ns with
   |nil=>cases h2
   |cons n ns =>
    obtain⟨a,b⟩:=kv;simp only[U7,X4]at h1 h2;obtain⟨rfl,h1⟩:=h1;obtain⟨rfl,h2⟩:=h2;rw[ih h1 h2];rfl
theorem aj.of_map{S:U8->Prop}{f:α->U}{g:α->V}:∀{l:List α},(∀x∈l,Rep C S H (f x) (g x))->aj C S H (l.map f) (l.map g)
 |[],_=>rfl
 |x::l,h=>⟨g x,l.map g,rfl,h x (by simp),aj.of_map λy hy=>h y (by simp[hy])⟩
theorem za(hc:X.calm=UN)(hK:C.K=X.K)(hg:Gl X "sorted")(hm:X.mg "sorted"=UK)(hN:X.N[i]?=UI x)(hv:F3 X.env.scope x)(hd:(x==("__debug__":Str))=UO)(EV:(x==("__classdict__":Str))=UO)(EJ:(apos.endLine==Ec.line)=UN):
  PE X (.Call (.Name "sorted" p) [.Call (.Attribute (.Name x px) "items" apos) [] [] Ec] [] pos) (Ek C (du i >>= λx=>M.Eu (vZ x.2))):=by
 rintro pins s σ H Q I ⟨c0,rfl,rfl,ok,h⟩;refine Wk (dc I hg hm (show Wh "sorted"=UI (.builtin "sorted") by decide +kernel) ?_ (by decide +kernel) (by decide +kernel));rw[ag]at h;obtain⟨k0,u0,ON,Fh,h⟩:=c9 h;obtain⟨v0,e0,t0⟩:=ok.slot ON Fh;obtain⟨r,er,want⟩:=cp.mp h
 dsimp only at er
 unfold vZ at er;split at er
 rotate_left
 ·cases er
 rename_i ks us;rw[VJ]at er;obtain⟨ns,en,er⟩:=er;split at er
 rotate_left
 ·cases er
 rename_i OP;cases er;obtain⟨Gi,Eo,hlen⟩:=OP;obtain⟨d,kvs,rfl,QA,Lz,J2⟩:=t0.dict ok;rw[i_ en]at J2;have OM:=y_ Lz (aj.ints J2);subst OM;have ek:((ks.zip ns).map (·.1))=ks:=ĵ ⋯;have inner:UU (U6 X.prog X.w) X.A (Wo (.Call (.Attribute (.Name x px) "items" apos) [] [] Ec) X.env) (λv s1=>UU (U6 X.prog X.w) X.A (X0 (.builtin "sorted") [v]) (EP X pins c0.σ Q) X.xe s1) X.xe s:=by
  refine ĕ rfl EJ (Ej (cc hN hv hd EV pins s c0.σ c0.H (λv H1=>v=.ref d/\H1=c0.H) I ⟨_,e0,rfl,rfl⟩) λv s1 ⟨x1,H1,I1,r1,z1,z2⟩=>?_);subst z1 z2;cases(show v=Vd d from r1);obtain⟨h1,h2⟩:=qg (T:="dict") I1 (x:=.ref d) rfl (.inr (.inr (.inl ⟨rfl,.inl ⟨_,QA⟩⟩)));refine⟨"dict","dict.items",PySem.F.plainAttrs_dict,PySem.F.slot_dict_items,PySem.F.type_dict_items,h1,h2,WE rfl (PySem.evalArgs_none (m6 hc I1 QA (by rw[ek];exact Eo) (by rw[Yc];omega) λas L hl nd GY hL=>?_))⟩;have J6:c0.H L=UK:=GY L (by simp);have Tc:(as.zip ((ks.zip ns).map HK)).map (·.1)=as:=ĵ (by rw[UQ];omega);have Td:∀p∈as.zip ((ks.zip ns).map HK),p.1∈as:=λp hp=>(XG hp).1;have same:AN c0.H (upd (jm c0.H (as.zip ((ks.zip ns).map HK))) L (.lst ((jk ((ks.zip ns).map (·.1))).map λi=>V.ref (as.getD i 0)))):=λa o e=>by
   have n1:a≠L:=λy=>by rw[y,J6]at e;cases e
   rw[ak n1,j9 λp hp y=>?_]
   ·exact e
   ·have:=GY p.1 (by simp[Td p hp]);rw[y,e]at this;cases this
  obtain⟨Er,n'⟩:=ok.grow (S':=c0.S) same (λa z=>.inl z) λa z=>z;obtain⟨q1,q2,q3,q4,q5⟩:=ok.j_ J6;refine want {c0 with H:=upd (jm c0.H (as.zip ((ks.zip ns).map HK))) L (.lst ((jk ((ks.zip ns).map (·.1))).map λi=>V.ref (as.getD i 0))),S:=c0.S} _ rfl rfl Er n' ⟨L,rfl,J6,q2,q5,_,au,?_⟩;show aj C c0.S _ ((yF (ks.zip ns)).map ue) _;unfold yF;rw[U4];refine aj.of_map λj hj=>?_;have Mb:j<(ks.zip ns).length:=by
   have:=V6.mp ((fw _).mem_iff.mp hj);rw[UQ]at this;exact this
  have N5:j<as.length:=by omega
  have e1:(ks.zip ns).getD j (VW,0)=(ks.zip ns)[j]:=(List.getElem_eq_getD _).symm;have e2:as.getD j 0=as[j]:=by simp[Xc,N5]
  show Rep C c0.S _ (ue ((ks.zip ns).getD j (VW,0))) (V.ref (as.getD j 0));rw[e1,e2];refine⟨as[j],HK (ks.zip ns)[j],rfl,EC.of ?_,⟨_,_,rfl,rfl,_,_,rfl,rfl,rfl⟩⟩;have EX:as[j]≠L:=λy=>hL (by rw[<-y];simp);refine(ak EX).trans (rT (by rw[Tc];exact nd) (vs:=HK (ks.zip ns)[j]) ?_);refine Ą.mpr ⟨j,by rw[Yc,UQ];omega,?_⟩;rw[List.getElem_zip,Ķ]
 have eb:Ww pos (Vf [.Call (.Attribute (.Name x px) "items" apos) [] [] Ec] X.env)=[(UO,Wo (.Call (.Attribute (.Name x px) "items" apos) [] [] Ec) X.env)]:=rfl;have Te:Yo pos (Xe [] X.env)=[]:=rfl;rw[eb,Te];exact ng inner
end
section
theorem sf(hc:X.calm=UN)(hK:C.K=X.K)(hg:Gl X "set")(hm:X.mg "set"=UK)(ha:PE X a (Ek C ma))(hs:Vf [a] X.env=[(UO,Wo a X.env)])(I:Inv X pins c0.σ c0.H s)(ok:Ok C c0)
  (h:W (ma >>= λx=>M.Eu (fL x.2) >>= k) c0.st Em)
  (hf:∀(S:U8) (o:Obj) (s1:U1) (D:List Str) (c:Cf),c.σ=c0.σ->Ok C c->Nx c0 c->s1.heap.get? S=UI o->aL X.prog X.w s1.heap S (aB X.w) D->Inv X ((S,o)::pins) c.σ c.H s1->W (k D) c.st Em->(∀q∈pins,q.1≠S)->Q (.ref S) s1) :
  UU (U6 X.prog X.w) X.A (Wo (.Call (.Name "set" p) [a] [] pos) X.env) Q X.xe s:=by
 refine Wk (dc I hg hm (show Wh "set"=UI (.type "set") by decide +kernel) ?_ (by decide +kernel) (by decide +kernel));have eb:Ww pos (Vf [a] X.env)=[(UO,Wo a X.env)]:=by rw[hs];rfl
 have ek:Yo pos (Xe [] X.env)=[]:=rfl;rw[eb,ek];refine r_ (one ha I ok h λx c vx v s2 t I2 rv w=>?_);rw[ag]at w;obtain⟨D,e,w⟩:=cp.mp w;obtain⟨l,ys,rfl,h1,h2,rfl⟩:=iF hK t.ok t.rx e;cases rv;exact qq hc I2 h1 h2 λS o s1 hsz Nw hS I3=>hf S o s1 _ c t.hσ t.ok t.nx Nw hS I3 w λq hq z=>by
  have:=UY (I2.pin q (Vu _ hq)).1;rw[z]at this;exact absurd (Vg this hsz) (V8 _)
theorem zb(hc:X.calm=UN)(hK:C.K=X.K)(Kb:Gl X (if ln=UN then "len" else "sorted"))(QB:X.mg (if ln=UN then "len" else "sorted")=UK)(hg:Gl X "set")(hm:X.mg "set"=UK)(ha:PE X a (Ek C ma))(hb:PE X b (Ek C mb))(Tf:Vf [a] X.env=[(UO,Wo a X.env)])(HY:Vf [b] X.env=[(UO,Wo b X.env)]):
  PE X (.Call (.Name (if ln=UN then "len" else "sorted") p) [.BinOp (.Call (.Name "set" p1) [a] [] JH) .Sub (.Call (.Name "set" p2) [b] [] pos2) posB] [] pos)
   (Ek C (ma >>= λx=>M.Eu (fL x.2) >>= λd1=>mb >>= λy=>M.Eu (fL y.2) >>= λd2=>M.Eu (uf ln d1 d2))):=by
 rintro pins s σ H Q I ⟨c0,rfl,rfl,ok,h⟩;have inner:UU (U6 X.prog X.w) X.A (Wo (.BinOp (.Call (.Name "set" p1) [a] [] JH) .Sub (.Call (.Name "set" p2) [b] [] pos2) posB) X.env) (λv s1=>UU (U6 X.prog X.w) X.A (X0 (.builtin (if ln=UN then "len" else "sorted")) [v]) (EP X pins c0.σ Q) X.xe s1) X.xe s:=by
  refine wpAny_BinOp (sf hc hK hg hm ha Tf I ok h λS1 o1 s1 D1 c1 Tg El Th HG Hm I1 w1 JX=>?_);refine sf hc hK hg hm hb HY I1 El w1 λS2 o2 s2 D2 c2 Ti EH Tj JZ J0 I2 w2 Nq=>?_;obtain⟨r,er,want⟩:=cp.mp w2;have OQ:=(I2.pin (S1,o1) (Vu _ (by simp))).1;have OR:aL X.prog X.w s2.heap S1 (aB X.w) D1:=Hm.at λo e=>by rw[HG]at e;cases e;exact OQ
  have EX:S1≠S2:=Nq (S1,o1) (by simp);have nx:Nx c0 c2:=Th.trans Tj;have hσ:c2.σ=c0.σ:=Ti.trans Tg;have I3:Inv X pins c2.σ c2.H s2:=I2.dy λq hq=>I2.pin q (Vu _ (by simp[hq]));unfold uf at er;split at er
  rotate_left
  ·cases er
  rename_i hlen;refine L2.yr EX OR J0 hlen.1 hlen.2 λh' hk hR=>?_;have I4:Inv X pins c2.σ c2.H {s2 with heap:=h' }:=I3.kept (t':=s2.toks) hk;rw[<-hσ];cases ln with
  |true =>
   cases er;exact jZ I4 hR (bZ.flat (c:=c2) want hσ EH nx rfl)
  |false =>
   cases er;exact fV hc I4 hR (XI (Vv _ _) hlen.1) λl hl=>bZ.list (c:=c2) want hσ EH nx (aj.strs.mpr rfl) l hl
 have eb:Ww pos (Vf [.BinOp (.Call (.Name "set" p1) [a] [] JH) .Sub (.Call (.Name "set" p2) [b] [] pos2) posB] X.env)=[(UO,Wo (.BinOp (.Call (.Name "set" p1) [a] [] JH) .Sub (.Call (.Name "set" p2) [b] [] pos2) posB) X.env)]:=rfl;have ek:Yo pos (Xe [] X.env)=[]:=rfl;cases ln with
 |true =>
  refine Wk (dc I Kb QB (show Wh "len"=UI (.builtin "len") by decide +kernel) ?_ (by decide +kernel) (by decide +kernel));rw[eb,ek];exact ng inner
 |false =>
  refine Wk (dc I Kb QB (show Wh "sorted"=UI (.builtin "sorted") by decide +kernel) ?_ (by decide +kernel) (by decide +kernel));rw[eb,ek];exact ng inner
end
structure Ck where
 fns:List Str
 gl:List (Str×U)
noncomputable def iG:U->U->Bool
 |.int i,.int j=>UP (i=j)
 |.str x,.str y=>UP (x=y)
 |.bl a,.bl b=>a==b
 |.Es,.Es=>UN
 |_,_=>UO
theorem cq(h:iG u v=UN):u=v:=by
 cases u<;>cases v<;>simp[iG]at h<;>subst_vars<;>rfl
noncomputable def noStar:VO->Bool
 |.Starred _ _=>UO
 |_=>UN
noncomputable def dz:VO->Bool
 |.Slice _ _ _ _=>UO
 |_=>UN
noncomputable def qF:VO->Bool
 |.Set _ _ _=>UO
 |_=>UN
noncomputable def nq:VO->Bool
 |.Call (.Name _ _) [] [] _=>UO
 |_=>UN
noncomputable def cZ:VO->Bool
 |.ListComp _ _ _ _=>UO
 |.SetComp _ _ _ _=>UO
 |.DictComp _ _ _ _ _=>UO
 |_=>UN
noncomputable def BG:VO->Bool
 |.Tuple _ _ _=>UO
 |_=>UN
noncomputable def Ge(sc:Xg)(x:Str):Bool:=UP (sc.names.lookup x=UI .globalImplicit)
noncomputable def hJ(sc:Xg)(x:Str):Bool:=UP (sc.names.lookup x=UI .local)||decide (sc.names.lookup x=UI .cell)||decide (sc.names.lookup x=UI .free)
noncomputable def nu(sc:Xg)(x:Str):Bool:=UP (sc.names.lookup x=UI .local)||decide (sc.names.lookup x=UI .cell)
noncomputable def Dd(sc:Xg)(x:Str):Bool:=UP (sc.names.lookup x=UI .local)
noncomputable def b7(x:Str):Bool:=!(x==("__debug__":Str))&&!(x==("__classdict__":Str))
noncomputable def sg(N:List Str)(sc:Xg)(fa:Bool)(i:Nat):VO->Bool
 |.Name x _=>UP (N[i]?=UI x)&&nu sc x&&(fa||Dd sc x)
 |_=>UO
noncomputable def nv(N:List Str)(sc:Xg)(fa:Bool):List Nat->List VO->Bool
 |[],[]=>UN
 |i::is,e::es=>sg N sc fa i e&&nv N sc fa is es
 |_,_=>UO
noncomputable def cD:VO->List Str
 |.Name x _=>[x]
 |.Tuple es _ _=>es.filterMap fun|.Name x _=>UI x|_=>UK
 |_=>[]
noncomputable def hide(own N:List Str):List Str:=match own.filter λx=>UP (x∈N) with
 |[]=>N
 |[x]=>N.set (N.idxOf x) "."
 |x::y::_=>(N.set (N.idxOf x) ".").set (N.idxOf y) ".."
noncomputable def JI(t:Bool)(N:List Str)(sc:Xg)(fa:Bool)(is:List Nat):VO->Bool
 |.Name x p=>!t&&(match is with|[i]=>sg N sc fa i (.Name x p)|_=>UO)
 |.Tuple es _ _=>t&&nv N sc fa is es&&is.all λi=>UP (i<N.length)
 |_=>UO
noncomputable def isTup:VO->Bool
 |.Tuple _ _ _=>UN
 |_=>UO
noncomputable def km(e:VO):Option (Str×List VO):=match e with
 |.Call f as kw _=>match f with
  |.Name x _=>if kw.isEmpty=UN then UI (x,as) else UK
  |_=>UK
 |_=>UK
theorem ff(h:km e=UI (x,as)):∃p q,e=.Call (.Name x p) as [] q:=by
 unfold km at h;split at h
 ·split at h
  ·split at h
   ·rename_i hk;rw[X5]at hk;cases h;subst hk;exact⟨_,_,rfl⟩
   ·cases h
  ·cases h
 ·cases h
noncomputable def fg(sc:Xg)(tg:VO)(ik:Ik)(e:VO):Option (List VO):=match ik with
 |.seq=>UI [e]
 |.EG=>(km e).bind λp=>if p.1="range"/\Ge sc p.1=UN/\p.2.length=1 then UI p.2 else UK
 |.II=>(km e).bind λp=>if p.1="enumerate"/\Ge sc p.1=UN/\p.2.length=1/\isTup tg=UN then UI p.2 else UK
 |.zip=>(km e).bind λp=>if p.1="zip"/\Ge sc p.1=UN/\p.2.length=2/\isTup tg=UN then UI p.2 else UK
 |_=>UK
noncomputable def simple:Bf->Bool:=λ_=>UN
noncomputable def wF(scope sc:Xg):Xg:={scope with names:=scope.names.map λ(n,k)=>if (k==W2&&sc.kind==.function&&sc.names.lookup n==UI .cell)=UN then(n,.cell) else(n,k)}
noncomputable def bA(e:VO)(k:Str->Bool):Bool:=match e with|.Name x _=>k x|_=>UO
theorem aw(h:bA e k=UN):∃x p,e=.Name x p/\k x=UN:=by
 unfold bA at h;split at h
 ·exact⟨_,_,rfl,h⟩
 ·cases h
noncomputable def dA{α:Type}(l:List α)(k:α->Bool):Bool:=match l with|[a]=>k a|_=>UO
theorem a9(h:dA l k=UN):∃a,l=[a]/\k a=UN:=by
 unfold dA at h;split at h
 ·exact⟨_,rfl,h⟩
 ·cases h
noncomputable def dm(e:VO)(k:VO->List VO->Pos->Bool):Bool:=match e with|.Call f as kw p=>kw.isEmpty&&k f as p|_=>UO
theorem aS(h:dm e k=UN):∃f as p,e=.Call f as [] p/\k f as p=UN:=by
 unfold dm at h;split at h
 ·rename_i f as kw p;rw[UR,X5]at h;obtain⟨rfl,h⟩:=h;exact⟨_,_,_,rfl,h⟩
 ·cases h
noncomputable def qG(e:VO)(k:VO->Str->Pos->Bool):Bool:=match e with|.Attribute o m p=>k o m p|_=>UO
theorem pd(h:qG e k=UN):∃o m p,e=.Attribute o m p/\k o m p=UN:=by
 unfold qG at h;split at h
 ·exact⟨_,_,_,rfl,h⟩
 ·cases h
noncomputable def wG(e:VO)(k:VO->Ρ->VO->Bool):Bool:=match e with|.BinOp a op b _=>k a op b|_=>UO
theorem qH(h:wG e k=UN):∃a op b p,e=.BinOp a op b p/\k a op b=UN:=by
 unfold wG at h;split at h
 ·exact⟨_,_,_,_,rfl,h⟩
 ·cases h
noncomputable def si(e:VO)(k:VO->CmpOp->VO->Bool):Bool:=match e with|.Compare a ops bs _=>dA ops λop=>dA bs λb=>k a op b|_=>UO
theorem d_(h:si e k=UN):∃a op b p,e=.Compare a [op] [b] p/\k a op b=UN:=by
 unfold si at h;split at h
 ·obtain⟨op,rfl,z1⟩:=a9 h;obtain⟨b,rfl,z2⟩:=a9 z1;exact⟨_,_,_,_,rfl,z2⟩
 ·cases h
noncomputable def fh(e:VO)(k:VO->Str->Pos->List VO->Pos->Bool):Bool:=dm e λf as Ec=>qG f λo m apos=>k o m apos as Ec
theorem bF(h:fh e k=UN):∃o m apos as Ec,e=.Call (.Attribute o m apos) as [] Ec/\k o m apos as Ec=UN:=by
 obtain⟨f,as,p,rfl,h⟩:=aS h;obtain⟨o,m,q,rfl,h⟩:=pd h;exact⟨_,_,_,_,_,rfl,h⟩
noncomputable def lZ(e:VO)(k:VO->VO->Bool):Bool:=match e with|.Subscript a b _=>k a b|_=>UO
theorem eh(h:lZ e k=UN):∃a b p,e=.Subscript a b p/\k a b=UN:=by
 unfold lZ at h;split at h
 ·exact⟨_,_,_,rfl,h⟩
 ·cases h
mutual
noncomputable def aE(k:Ck):E->List Str->Xg->VO->Bool
 |.var i,N,sc,e'=>match e' with
  |.Name x _=>UP (N[i]?=UI x)&&hJ sc x&&b7 x
  |_=>UO
 |.cst u,N,sc,e'=>match e' with
  |.Constant (.int j) _ _=>iG u (.int j)
  |.Constant (.str y) _ _=>iG u (.str y)
  |.Constant (.bool y) _ _=>iG u (.bl y)
  |.Constant .none _ _=>iG u .Es
  |_=>UO
 |.My _ _,_,_,_=>UO
 |.bin op a b,N,sc,e'=>match e' with
  |.BinOp a' Hw b' _=>UP (op.op=Hw)&&aE k a N sc a'&&aE k b N sc b'
  |_=>UO
 |.cmp op a b,N,sc,e'=>si e' λa' Hw b'=>UP (op.op=Hw)&&!Xs Hw b'&&aE k a N sc a'&&aE k b N sc b'
 |.Hr _ _ _ _ _,_,_,_=>UO
 |.and es,N,sc,e'=>match e' with
  |.BoolOp .And Ed _=>aK k es N sc Ed
  |_=>UO
 |.or es,N,sc,e'=>match e' with
  |.BoolOp .Or Ed _=>aK k es N sc Ed
  |_=>UO
 |.not a,N,sc,e'=>match e' with
  |.UnaryOp .Not a' _=>aE k a N sc a'
  |_=>UO
 |.ite _ _ _,_,_,_=>UO
 |.neg _,_,_,_=>UO
 |.bad,_,_,_=>UN
 |.inD neg a i,N,sc,e'=>si e' λa' Hw b'=>bA b' λx=>UP (wA neg=Hw)&&!Xs Hw b'&&UP (N[i]?=UI x)&&hJ sc x&&b7 x&&aE k a N sc a'
 |.J_ i,N,sc,e'=>match e' with
  |.Name x _=>UP (N[i]?=UI x)&&hJ sc x&&b7 x
  |_=>UO
 |.Gq i a b,N,sc,e'=>fh e' λo m apos as Ec=>bA o λx=>match as with
  |[a',b']=>UP (m="get")&&UP (N[i]?=UI x)&&hJ sc x&&b7 x&&(apos.endLine==Ec.line)&&noStar a'&&noStar b'&&aE k a N sc a'&&aE k b N sc b'
  |_=>UO
 |.J' i,N,sc,e'=>dm e' λf' as _=>bA f' λf=>dA as λc=>fh c λo m apos bs Ec=>bA o λx=>bs.isEmpty&&UP (f="sorted")&&Ge sc f&&UP (m="items")&&UP (N[i]?=UI x)&&hJ sc x&&b7 x&&(apos.endLine==Ec.line)
 |.H_ ln a b,N,sc,e'=>dm e' λf' as _=>bA f' λf=>dA as λd=>wG d λl op r=>dm l λl' al _=>bA l' λg1=>dA al λa'=>dm r λr' ar _=>bA r' λg2=>dA ar λb' =>
  UP (f=(if ln=UN then("len":Str) else "sorted"))&&UP (g1="set")&&UP (g2="set")&&UP (op=.Sub)&&Ge sc f&&Ge sc "set"&&noStar a'&&noStar b'&&aE k a N sc a'&&aE k b N sc b'
 |.fst es,N,sc,e'=>UO
 |.Mz a T,N,sc,e'=>UO
 |.tup es,N,sc,e'=>match e' with
  |.Tuple Ed _ _=>aK k es N sc Ed
  |_=>UO
 |.lst es,N,sc,e'=>match e' with
  |.List Ed _=>aK k es N sc Ed
  |_=>UO
 |.FU _,N,sc,e'=>match e' with
  |.Dict [] [] _=>UN
  |_=>UO
 |.idx a b,N,sc,e'=>match e' with
  |.Subscript a' b' _=>dz b'&&aE k a N sc a'&&aE k b N sc b'
  |_=>UO
 |.F6 a lo hi,N,sc,e'=>match e' with
  |.Subscript a' (.Slice Tn FD UK _) _=>aE k a N sc a'&&qI k lo N sc Tn&&qI k hi N sc FD
  |_=>UO
 |.bi f es,N,sc,e'=>dm e' λf' Ed _=>bA f' λx=>UP (x=f.name)&&simple f&&Ge sc x&&!Ed.isEmpty&&aK k es N sc Ed
 |.G6 f es,N,sc,e'=>dm e' λf' as _=>bA f' λx=>dA as λc=>dm c λg' Ed _=>bA g' λy=>UP (x=f.m_)&&UP (y=f.gZ)&&Ge sc x&&Ge sc y&&!Ed.isEmpty&&aK k es N sc Ed
 |.G7 m a es,N,sc,e'=>fh e' λo name apos Ed Ec=>UP (name=m.name)&&nq o&&(apos.endLine==Ec.line)&&!Ed.isEmpty&&UP (Ed.length<20)&&aE k a N sc o&&aK k es N sc Ed
 |.call f es,N,sc,e'=>dm e' λf' Ed _=>bA f' λx=>UP (x=f)&&UP (f∈k.fns)&&Ge sc x&&b7 x&&!Ed.isEmpty&&aK k es N sc Ed
 |.comp n t ik src cond e,N,sc,e'=>match e' with
  |.ListComp elt [⟨tg,iter,ifs,0⟩] scope _ =>
   UP ((cD tg).length=n)&&yk (cD tg++hide (cD tg) N) (cD tg) scope sc.names&&JI t (cD tg++hide (cD tg) N) (wF scope sc) UO (UX n) tg&&qF iter &&
   (match fg sc tg ik iter with
    |some as=>aK k src N sc as
    |none=>UO) &&
   UP (ifs.length<=1)&&aK k cond (cD tg++hide (cD tg) N) (wF scope sc) ifs&&aE k e (cD tg++hide (cD tg) N) (wF scope sc) elt
  |_=>UO
noncomputable def aK(k:Ck):List E->List Str->Xg->List VO->Bool
 |[],_,_,Ed=>Ed.isEmpty
 |e::es,N,sc,Ed=>match Ed with
  |e'::Ed=>noStar e'&&aE k e N sc e'&&aK k es N sc Ed
  |[]=>UO
noncomputable def qI(k:Ck):List E->List Str->Xg->Option VO->Bool
 |[],_,_,o=>o.isNone
 |[e],N,sc,o=>match o with
  |some e'=>aE k e N sc e'
  |none=>UO
 |_::_::_,_,_,_=>UO
end
noncomputable def b9:List Str:=["len","sorted","repr","max","min","all","any","list","tuple","str","int","range","enumerate","zip","reversed","set","dict","sum","isinstance","bool"]
structure BH(P:VZ)(w:Wi)(K:PySem.W.Frag)(mg:Str->Option UT)(base:Ws)(d:Nat)(F:List U->Option (Ex (Kd×U)))(f:Str):Prop where
 ex:∃(np:Nat) (fa:U8) (fd:Y4) (ps:List Str),oj P w K mg base Iv d fa fd ps (spT P w K F np)/\mg f=UI (.ref fa)/\PySem.W.keepIn K (.ref fa)=UN/\Binds K fd ps []/\∀us k u,F us=UI (.ok (k,u))->(k=.own\/k=.loc\/k=.any)/\us.length=np
structure Gd(ck:Ck)(Γ:Tab)(C:Ct)(d:Nat)(X:Cx):Prop where
 P:C.P=X.prog
 w:C.w=X.w
 K:C.K=X.K
 u:X.A.units+60<Wa
 calm:X.calm=UN
 room:f7 d X.A
 blt:∀x∈b9,X.mg x=UK
 fns:∀f∈ck.fns,BH X.prog X.w X.K X.mg X.base d (Γ f) f
 IQ:∀p∈ck.gl,∃val v,X.mg p.1=UI val/\RelV v val/\∀S H,Rep C S H p.2 v
theorem Gd.cx(g:Gd ck Γ C d X)(N:List Str)(sc:Xg)(D:U8)(s:U1)(H:Hp)(ex:List U8):Gd ck Γ C d (Fb X N sc D s H ex) :=
 ⟨g.P,g.w,g.K,g.u,g.calm,g.room,g.blt,g.fns,g.IQ⟩
theorem cv(h:hJ sc x=UN):F3 sc x:=by
 unfold hJ at h;simp only[Yf,γ]at h;rcases h with(h|h)|h
 ·exact .inl h
 ·exact .inr (.inl h)
 ·exact .inr (.inr h)
theorem a_(h:b7 x=UN):(x==("__debug__":Str))=UO/\(x==("__classdict__":Str))=UO:=by
 unfold b7 at h;simpa using h
theorem bu(h:noStar e=UN):Vf (e::es) env=(UO,Wo e env)::Vf es env:=by
 cases e<;>first|rfl|cases h
theorem kn(h:dz e=UN):mJ e:=by
 intro o i;cases e<;>first|rfl|cases h
theorem qJ(h:qF e=UN):∀x,WU e env x=pure x:=by
 intro x;cases e<;>first|rfl|cases h
theorem jx(h:nq o=UN):ZX o name env wh=wh:=by
 cases o with
 |Call f as ks p =>
  cases f with
  |Name x q=>cases as with
   |nil=>cases ks with
    |nil=>cases h
    |cons _ _=>rfl
   |cons _ _=>rfl
  |_=>rfl
 |_=>rfl
theorem bI(h:∀e∈es,noStar e=UN):(Ww pos (Vf es env)).any (·.1)=UO/\(Ww pos (Vf es env)).all (λx=>!x.1)=UN:=by
 induction es with
 |nil=>exact⟨rfl,rfl⟩
 |cons e es ih =>
  rw[bu (h e (by simp))];have:=ih λe' he=>h e' (by simp[he]);constructor
  ·show(UO||(Ww pos (Vf es env)).any (·.1))=UO;rw[this.1];rfl
  ·show(!UO&&(Ww pos (Vf es env)).all (λx=>!x.1))=UN;rw[this.2];rfl
theorem c_(h:aK k es N sc Ed=UN):∀e∈Ed,noStar e=UN:=by
 induction es generalizing Ed with
 |nil =>
  cases Ed with
  |nil=>intro e he;cases he
  |cons _ _=>simp[aK]at h
 |cons x es ih =>
  cases Ed with
  |nil=>intro e he;cases he
  |cons e' Ed =>
   simp only[aK,UR]at h;intro e he;rcases U2.mp he with rfl|he
   ·exact h.1.1
   ·exact ih h.2 e he
theorem l0(GD:fa=UN->∀x,X.fn x=UN)(h:sg X.N X.env.scope fa i e=UN):qA X e i:=by
 cases e with
 |Name x p =>
  simp only[sg,UR,γ,nu,Yf,Dd]at h;refine⟨x,p,rfl,h.1.1,?_,?_⟩
  ·rcases h.1.2 with z|z
   ·exact .inl z
   ·exact .inr z
  ·rcases h.2 with z|z
   ·exact .inl (GD z x)
   ·exact .inr z
 |_=>cases h
theorem kq(GD:fa=UN->∀x,X.fn x=UN):∀{is:List Nat}{es:List VO},nv X.N X.env.scope fa is es=UN->d8 X es is
 |[],[],_=>.nil
 |[],_::_,h=>by cases h
 |_::_,[],h=>by cases h
 |i::is,e::es,h=>by
  simp only[nv,UR]at h;exact .cons (l0 GD h.1) (kq GD h.2)
theorem pe(hc:X.calm=UN)(hK:C.K=X.K)(hN:X.N.Nodup)(GD:fa=UN->∀x,X.fn x=UN)(h:JI t X.N X.env.scope fa is tg=UN):PG X tg (tG C t is):=by
 cases tg with
 |Name x p =>
  simp only[JI,UR,V5]at h;obtain⟨rfl,h⟩:=h;cases is with
  |nil=>cases h
  |cons i is=>cases is with
   |nil=>exact Bx hN (l0 GD h)
   |cons _ _=>cases h
 |Tuple es k p =>
  simp only[JI,UR,VA,γ]at h;obtain⟨⟨rfl,h1⟩,h2⟩:=h;exact CS hc hK hN (kq GD h1) h2
 |_=>cases h
theorem iH(own N:List Str):dG ((own++hide own N).drop own.length) N:=by
 rw[Z7 rfl];unfold hide;split
 ·exact .refl N
 ·exact(dG.refl N).set _ (.inl rfl)
 ·exact((dG.refl N).set _ (.inl rfl)).set _ (.inr rfl)
noncomputable def Bf.UA:Bf->Bool
 |.len=>UN|.sorted=>UN|.repr=>UN|.max=>UN|.min=>UN|.all=>UN|.any=>UN|_=>UO
noncomputable def Bf.id:Bf->String
 |.len=>"len"|.sorted=>"sorted"|.repr=>"repr"|.max=>"max"|.min=>"min"|.all=>"all"|.any=>"any"
 |.list=>"list"|.tuple=>"tuple"|.str=>"str"|.int=>"int"
theorem zc:∀f:Bf,simple f=UN->Wh f.name=UI f.val/\f.name∈b9/\f.name≠"__name__"/\(f.name==("__debug__":Str))=UO:=by
 intro f h;cases f<;>first|exact⟨by decide +kernel,by decide +kernel,by decide +kernel,by decide +kernel⟩|(cases h;done)
theorem BI:∀f:Bf,simple f=UN->(f.val=.builtin f.id\/f.val=.type f.id):=by
 intro f h;cases f<;>first|exact .inl rfl|exact .inr rfl|(cases h;done)
theorem BJ:∀f:B2,f.m_∈b9/\f.gZ∈b9:=by
 intro f;cases f<;>exact⟨by decide +kernel,by decide +kernel⟩
theorem zd:∀f:Mf,Slot "str" f.name f.id/\Ι (.builtin f.id)=pure (.type "method_descriptor"):=by
 intro f;cases f with
 |split=>exact⟨PySem.F.slot_str_split,PySem.F.type_str_split⟩
 |join=>exact⟨PySem.F.slot_str_join,PySem.F.type_str_join⟩
 |partition=>exact⟨PySem.F.slot_str_partition,PySem.F.type_str_partition⟩
 |endswith=>exact⟨PySem.F.slot_str_endswith,PySem.F.type_str_endswith⟩
section
theorem fi(h:Ge X.env.scope x=UN):Gl X x:=by
 unfold Ge at h;show X.env.kindOf x=UI .globalImplicit;exact of_decide_eq_true h
theorem ze:("enumerate":Str)∈b9:=by decide +kernel
theorem zf:("range":Str)∈b9:=by decide +kernel
theorem zS(g:Gd ck Γ C d X)(h:fg X.env.scope tg ik iter=UI as)(hL:PA X as (FF C (bL Γ src)))(h1:∀a,as=[a]->∃e,src=[e]/\PE X a (Ek C (ev Γ e)))(Ei:∀e∈as,noStar e=UN):PI X tg iter (Ht C ik (bL Γ src)):=by
 unfold fg at h;split at h
 ·cases h;obtain⟨e,rfl,he⟩:=h1 _ rfl;exact Bu g.K he
 ·rw[VJ]at h;obtain⟨⟨x,bs⟩,hc,h⟩:=h;split at h
  ·rename_i hh;cases h;obtain⟨e1,hg,hl⟩:=hh
   dsimp only at e1 hg hl
   subst e1;obtain⟨p,q,rfl⟩:=ff hc;obtain⟨b,rfl⟩:=î.mp hl;exact yY (fi hg) (g.blt _ zf) (bu (Ei _ (by simp))) hL
  ·cases h
 ·rw[VJ]at h;obtain⟨⟨x,bs⟩,hc,h⟩:=h;split at h
  ·rename_i hh;cases h;obtain⟨e1,hg,hl,ht⟩:=hh
   dsimp only at e1 hg hl
   subst e1;obtain⟨p,q,rfl⟩:=ff hc;obtain⟨b,rfl⟩:=î.mp hl;cases tg with
   |Tuple es kx ps=>exact Bv g.K (fi hg) (g.blt _ ze) (bu (Ei _ (by simp))) hL
   |_=>cases ht
  ·cases h
 ·rw[VJ]at h;obtain⟨⟨x,bs⟩,hc,h⟩:=h;split at h
  ·rename_i hh;cases h;obtain⟨e1,hg,hl,ht⟩:=hh
   dsimp only at e1 hg hl
   subst e1;obtain⟨p,q,rfl⟩:=ff hc;obtain⟨b,b',rfl⟩:∃b b',bs=[b,b']:=by match bs,hl with|[b,b'],_=>exact⟨b,b',rfl⟩
   have s1:=bu (env:=X.env) (es:=[]) (Ei _ (show _∈[_,_] from Vx _ Vr));cases tg with
   |Tuple es kx ps=>exact Bw g.K (fi hg) (g.blt _ (by decide +kernel)) (bu (Ei _ Vr)) (by rw[s1];rfl) hL
   |_=>cases ht
  ·cases h
 ·cases h
theorem PT.eqv(h:PT X e (Fq C m))(i:∀st Q,W m' st Q->W m st Q):PT X e (Fq C m'):=PT.weak h λσ H Q ⟨c0,e1,e2,ok,w⟩=>⟨c0,e1,e2,ok,i _ _ w⟩
theorem De(g:Gd ck Γ C d X)(hL:PA X Ed (FF C (bL Γ es)))
  (h:(UP (x=f.name)&&simple f&&Ge X.env.scope x&&!Ed.isEmpty&&aK ck es X.N X.env.scope Ed)=UN):PE X (.Call (.Name x p) Ed [] pos) (Ek C (ev Γ (.bi f es))):=by
 simp only[UR,γ,V5]at h;obtain⟨⟨⟨⟨rfl,h1⟩,h2⟩,h3⟩,h4⟩:=h;obtain⟨b1,b2,b3,b4⟩:=zc f h1;have hS:=c_ h4;cases Ed with
 |nil=>cases h3
 |cons e0 Gp =>
  have st:=bu (env:=X.env) (es:=Gp) (hS e0 (by simp));have sn:=(bI (pos:=pos) (env:=X.env) (es:=Gp) λe he=>hS e (by simp[he])).1;rcases BI f h1 with hv|hv
  ·exact yU g.calm g.K g.room.gd g.u hv (fi h2) (g.blt _ b2) (by rw[b1,hv]) b3 b4 hL st sn
  ·exact yV g.calm g.K g.room.gd g.u hv (fi h2) (g.blt _ b2) (by rw[b1,hv]) b3 b4 hL st sn
theorem zT(g:Gd ck Γ C d X)(hL:PA X Ed (FF C (bL Γ es)))
  (h:(UP (x=f.m_)&&UP (y=f.gZ)&&Ge X.env.scope x&&Ge X.env.scope y&&!Ed.isEmpty&&aK ck es X.N X.env.scope Ed)=UN):PE X (.Call (.Name x p) [.Call (.Name y p2) Ed [] pos2] [] pos) (Ek C (ev Γ (.G6 f es))):=by
 simp only[UR,γ,V5]at h;obtain⟨⟨⟨⟨⟨rfl,rfl⟩,h1⟩,h2⟩,h3⟩,h4⟩:=h;obtain⟨b1,b2⟩:=BJ f;have hS:=c_ h4;cases Ed with
 |nil=>cases h3
 |cons e0 Gp =>
  have st:=bu (env:=X.env) (es:=Gp) (hS e0 (by simp));have sn:=(bI (pos:=pos2) (env:=X.env) (es:=Gp) λe he=>hS e (by simp[he])).1;exact yX g.calm g.K (fi h1) (g.blt _ b1) (fi h2) (g.blt _ b2) hL st sn
theorem zU(g:Gd ck Γ C d X)(ha:PE X o (Ek C (ev Γ a)))(hL:PA X Ed (FF C (bL Γ es)))
  (h:(UP (name=m.name)&&nq o&&(apos.endLine==Ec.line)&&!Ed.isEmpty&&UP (Ed.length<20)&&aE ck a X.N X.env.scope o&&aK ck es X.N X.env.scope Ed)=UN):PE X (.Call (.Attribute o name apos) Ed [] Ec) (Ek C (ev Γ (.G7 m a es))):=by
 simp only[UR,γ,V5]at h;obtain⟨⟨⟨⟨⟨⟨rfl,h1⟩,h2⟩,h3⟩,h4⟩,h5⟩,h6⟩:=h;have hS:=c_ h6;obtain⟨s1,s2⟩:=zd m;cases Ed with
 |nil=>cases h3
 |cons e0 Gp =>
  have st:=bu (env:=X.env) (es:=Gp) (hS e0 (by simp));have sn:=(bI (pos:=Ec) (env:=X.env) (es:=Gp) λe he=>hS e (by simp[he])).1;have sa:=(bI (pos:=Ec) (env:=X.env) (es:=e0::Gp) hS).2;refine yW g.K s1 s2 ha hL (jx h1) ?_ h2 st sn;rw[sa];have:(e0::Gp).length+([]:List XT).length+(if ([]:List XT).isEmpty=UN then 0 else 1)<30:=by simp at h4 ⊢;omega
  simp only[η this];rfl
theorem wH(g:Gd ck Γ C d X)(hL:PA X Ed (FF C (bL Γ es)))
  (h:(UP (x=f)&&UP (f∈ck.fns)&&Ge X.env.scope x&&b7 x&&!Ed.isEmpty&&aK ck es X.N X.env.scope Ed)=UN):PE X (.Call (.Name x p) Ed [] pos) (Ek C (ev Γ (.call f es))):=by
 simp only[UR,γ,V5]at h;obtain⟨⟨⟨⟨⟨rfl,h1⟩,h2⟩,h3⟩,h4⟩,h5⟩:=h;have hS:=c_ h5;obtain⟨np,fa,fd,ps,q1,q2,q3,q4,q5⟩:=(g.fns _ h1).ex;cases Ed with
 |nil=>cases h4
 |cons e0 Gp =>
  have st:=bu (env:=X.env) (es:=Gp) (hS e0 (by simp));have sn:=(bI (pos:=pos) (env:=X.env) (es:=Gp) λe he=>hS e (by simp[he])).1;exact wg g.P g.w g.K rfl q5 q1 g.room (fi h2) q2 q3 q4 (a_ h3).1 hL st sn
theorem cT(h:(b&&aK k es N sc Ed)=UN):aK k es N sc Ed=UN:=(WQ.mp h).2
mutual
theorem bp:∀(e:E) (X:Cx) (e':VO),Gd ck Γ C d X->aE ck e X.N X.env.scope e'=UN->PE X e' (Ek C (ev Γ e))
 |.var i,X,e',g,h=>by
  simp only[aE]at h;split at h
  ·simp only[UR,γ]at h;obtain⟨h3,h4⟩:=a_ h.2;exact m9 h.1.1 (cv h.1.2) h3 h4
  ·cases h
 |.cst u,X,e',g,h=>by
  simp only[aE]at h;split at h
  ·have:=cq h;subst this;exact gY uT λ_ _=>rfl
  ·have:=cq h;subst this;exact gY uV λ_ _=>rfl
  ·have:=cq h;subst this;exact gY zE λ_ _=>rfl
  ·have:=cq h;subst this;exact gY uU λ_ _=>rfl
  ·cases h
 |.My x u,X,e',g,h=>absurd h (by simp[aE])
 |.bin op a b,X,e',g,h=>by
  simp only[aE]at h;split at h
  ·simp only[UR,γ]at h;obtain⟨⟨rfl,h1⟩,h2⟩:=h;exact yJ g.K (bp a X _ g h1) (bp b X _ g h2)
  ·cases h
 |.cmp op a b,X,e',g,h=>by
  simp only[aE]at h;obtain⟨a',Hw,b',p0,rfl,z1⟩:=d_ h;have h:=z1;simp only[UR,γ,V5]at h;obtain⟨⟨⟨rfl,h0⟩,h1⟩,h2⟩:=h;exact yK g.P g.w g.K g.u (bp a X _ g h1) (bp b X _ g h2) h0
 |.Hr o1 o2 a b c,X,e',g,h=>absurd h (by simp[aE])
 |.and es,X,e',g,h=>by
  simp only[aE]at h;split at h
  ·exact wI es X _ g h
  ·cases h
 |.or es,X,e',g,h=>by
  simp only[aE]at h;split at h
  ·exact zV es X _ g h
  ·cases h
 |.not a,X,e',g,h=>by
  simp only[aE]at h;split at h
  ·exact yM (bp a X _ g h)
  ·cases h
 |.neg a,X,e',g,h=>absurd h (by simp[aE])
 |.bad,X,e',g,h=>λpins s σ H Q I ⟨_,_,_,_,w⟩=>(aC.mp w).elim
 |.inD neg a i,X,e',g,h=>by
  simp only[aE]at h;obtain⟨a',Hw,b',p0,rfl,z1⟩:=d_ h;obtain⟨x,p1,rfl,z2⟩:=aw z1;have h:=z2;simp only[UR,γ,V5]at h;obtain⟨⟨⟨⟨⟨rfl,h0⟩,h1⟩,h2⟩,h3⟩,h4⟩:=h;obtain⟨q1,q2⟩:=a_ h3;exact y7 g.u h1 (cv h2) q1 q2 (bp a X _ g h4) h0
 |.J_ i,X,e',g,h=>by
  simp only[aE]at h;split at h
  ·simp only[UR,γ]at h;obtain⟨h3,h4⟩:=a_ h.2;exact y6 h.1.1 (cv h.1.2) h3 h4
  ·cases h
 |.Gq i a b,X,e',g,h=>by
  simp only[aE]at h;obtain⟨o,m,apos,as,Ec,rfl,z1⟩:=bF h;obtain⟨x,px,rfl,z2⟩:=aw z1;split at z2
  ·simp only[UR,γ]at z2;obtain⟨⟨⟨⟨⟨⟨⟨⟨rfl,h1⟩,h2⟩,h3⟩,h4⟩,h5⟩,h6⟩,h7⟩,h8⟩:=z2;obtain⟨q1,q2⟩:=a_ h3;rename_i a' b';have sa:=bI (pos:=Ec) (env:=X.env) (es:=[a',b']) λe he=>by
    rcases U2.mp he with rfl|he
    ·exact h5
    ·simp at he;subst he;exact h6
   exact wC g.u h1 (cv h2) q1 q2 (bp a X _ g h7) (bp b X _ g h8) ⟨rfl,by rw[sa.2];rfl,h4,by rw[bu h5,bu h6];rfl⟩
  ·cases z2
 |.J' i,X,e',g,h=>by
  simp only[aE]at h;obtain⟨f',as,_,rfl,z1⟩:=aS h;obtain⟨f,_,rfl,z2⟩:=aw z1;obtain⟨c,rfl,z3⟩:=a9 z2;obtain⟨o,m,apos,bs,Ec,rfl,z4⟩:=bF z3;obtain⟨x,px,rfl,z5⟩:=aw z4;simp only[UR,γ,X5]at z5;obtain⟨⟨⟨⟨⟨⟨⟨rfl,rfl⟩,h1⟩,rfl⟩,h3⟩,h4⟩,h5⟩,h6⟩:=z5;obtain⟨q1,q2⟩:=a_ h5;exact za g.calm g.K (fi h1) (g.blt _ (by decide +kernel)) h3 (cv h4) q1 q2 h6
 |.H_ ln a b,X,e',g,h=>by
  simp only[aE]at h;obtain⟨_,_,_,rfl,z0⟩:=aS h;obtain⟨_,_,rfl,z1⟩:=aw z0;obtain⟨_,rfl,z2⟩:=a9 z1;obtain⟨_,_,_,_,rfl,z3⟩:=qH z2;obtain⟨_,_,_,rfl,z4⟩:=aS z3;obtain⟨_,_,rfl,z5⟩:=aw z4;obtain⟨_,rfl,z6⟩:=a9 z5;obtain⟨_,_,_,rfl,z7⟩:=aS z6;obtain⟨_,_,rfl,z8⟩:=aw z7;obtain⟨_,rfl,z9⟩:=a9 z8;simp only[UR,γ]at z9;obtain⟨⟨⟨⟨⟨⟨⟨⟨⟨rfl,rfl⟩,rfl⟩,rfl⟩,h1⟩,h2⟩,h3⟩,h4⟩,h5⟩,h6⟩:=z9;exact zb (ln:=ln) g.calm g.K (fi h1) (g.blt _ (by cases ln<;>decide +kernel)) (fi h2) (g.blt _ (by decide +kernel)) (bp a X _ g h5) (bp b X _ g h6) (bu h3) (bu h4)
 |.fst es,X,e',g,h=>λpins s σ H Q I ⟨_,_,_,_,w⟩=>(aC.mp w).elim
 |.Mz a T,X,e',g,h=>λpins s σ H Q I ⟨_,_,_,_,w⟩=>(aC.mp w).elim
 |.ite c a b,X,e',g,h=>absurd h (by simp[aE])
 |.tup es,X,e',g,h=>by
  simp only[aE]at h;split at h
  ·exact yQ (iI es X _ g h)
  ·cases h
 |.lst es,X,e',g,h=>by
  simp only[aE]at h;split at h
  ·exact yR (iI es X _ g h)
  ·cases h
 |.FU r,X,e',g,h=>by
  simp only[aE]at h;split at h
  ·exact we g.P g.w r
  ·cases h
 |.idx a b,X,e',g,h=>by
  simp only[aE]at h;split at h
  ·simp only[UR]at h;exact r6 g.K g.u (kn h.1.1) (bp a X _ g h.1.2) (bp b X _ g h.2)
  ·cases h
 |.F6 a lo hi,X,e',g,h=>by
  simp only[aE]at h;split at h
  ·simp only[UR]at h;exact yT g.K (bp a X _ g h.1.1) (Df lo X _ g h.1.2) (Df hi X _ g h.2)
  ·cases h
 |.bi f es,X,e',g,h=>by
  simp only[aE]at h;obtain⟨f',as,p0,rfl,z1⟩:=aS h;obtain⟨x,p1,rfl,z2⟩:=aw z1;have h:=z2;exact De g (iI es X _ g (cT h)) h
 |.G6 f es,X,e',g,h=>by
  simp only[aE]at h;obtain⟨f',as,p0,rfl,z1⟩:=aS h;obtain⟨x,p1,rfl,z2⟩:=aw z1;obtain⟨c,rfl,z3⟩:=a9 z2;obtain⟨g',as',p2,rfl,z4⟩:=aS z3;obtain⟨y,p3,rfl,z5⟩:=aw z4;have h:=z5;exact zT g (iI es X _ g (cT h)) h
 |.G7 m a es,X,e',g,h=>by
  simp only[aE]at h;obtain⟨o,name,apos,as,Ec,rfl,z1⟩:=bF h;have h:=z1;have h':=h;simp only[UR]at h';exact zU g (bp a X _ g h'.1.2) (iI es X _ g (cT h)) h
 |.call f es,X,e',g,h=>by
  simp only[aE]at h;obtain⟨f',as,p0,rfl,z1⟩:=aS h;obtain⟨x,p1,rfl,z2⟩:=aw z1;have h:=z2;exact wH g (iI es X _ g (cT h)) h
 |.comp n t ik src cond e,X,e',g,h=>by
  simp only[aE]at h;split at h
  ·rename_i elt tg iter ifs scope _;simp only[UR,γ]at h;obtain⟨⟨⟨⟨⟨⟨⟨h1,h2⟩,h3⟩,h4⟩,h5⟩,h6⟩,h7⟩,h8⟩:=h;subst h1;have S:=qi (X:=X) rfl (iH _ _) h2;split at h5
   ·rename_i as has;have Ei:=c_ h5;have hI:PI X tg iter (Ht C ik (bL Γ src)):=zS g has (iI src X _ g h5) (λa e=>by
     subst e;cases src with
     |nil=>simp[aK]at h5
     |cons e1 EU =>
      cases EU with
      |nil =>
       simp only[aK,UR]at h5;exact⟨e1,rfl,bp e1 X _ g h5.1.2⟩
      |cons _ _=>simp[aK]at h5) Ei
    exact wx S g.calm hI (λD s H ex=>pe (fa:=UO) g.calm g.K S.nd (λz=>nomatch z) h3)
     (λD s H ex=>by
      cases ifs with
      |nil =>
       cases cond with
       |nil=>exact λpins s σ H Q I ⟨c0,e1,e2,ok,w⟩=>mP pins s σ H Q I (by subst e1 e2;rw[show aM Γ []=pure UN from rfl,ai]at w;exact w c0 rfl rfl ok (Nx.refl c0))
       |cons _ _=>simp[aK]at h7
      |cons c1 cs =>
       cases cs with
       |nil =>
        cases cond with
        |nil=>simp[aK]at h7
        |cons e1 EU =>
         cases EU with
         |nil =>
          simp only[aK,UR]at h7;exact rF (ny e1 (Fb X _ scope D s H ex) c1 (g.cx _ _ _ _ _ _) h7.1.2)
         |cons _ _=>simp[aK]at h7
       |cons _ _=>simp at h6)
     (λD s H ex=>bp e (Fb X _ scope D s H ex) elt (g.cx _ _ _ _ _ _) h8) (qJ h4)
   ·cases h5
  ·cases h
theorem iI:∀(es:List E) (X:Cx) (Ed:List VO),Gd ck Γ C d X->aK ck es X.N X.env.scope Ed=UN->PA X Ed (FF C (bL Γ es))
 |[],X,Ed,g,h=>by
  cases Ed with
  |nil=>exact yP
  |cons _ _=>simp[aK]at h
 |e::es,X,Ed,g,h=>by
  cases Ed with
  |nil=>simp[aK]at h
  |cons e' Ed =>
   simp only[aK,UR]at h;exact wc (bp e X e' g h.1.2) (iI es X Ed g h.2) (bu h.1.1)
theorem Df:∀(es:List E) (X:Cx) (o:Option VO),Gd ck Γ C d X->qI ck es X.N X.env.scope o=UN->PO X o (tO C (Jv Γ es))
 |[],X,o,g,h=>by
  cases o with
  |none=>exact uj
  |some _=>simp[qI]at h
 |[e],X,o,g,h=>by
  cases o with
  |none=>simp[qI]at h
  |some e'=>simp only[qI]at h;exact um (bp e X e' g h)
 |_::_::_,X,o,g,h=>by simp[qI]at h
theorem wI:∀(es:List E) (X:Cx) (Ed:List VO),Gd ck Γ C d X->aK ck es X.N X.env.scope Ed=UN->∀{pos},PE X (.BoolOp .And Ed pos) (Ek C (gU Γ es))
 |[],X,Ed,g,h,pos=>λpins s σ H Q I ⟨_,_,_,_,w⟩=>(aC.mp w).elim
 |[e],X,Ed,g,h,pos=>by
  cases Ed with
  |nil=>simp[aK]at h
  |cons e' Ed =>
   cases Ed with
   |nil=>simp only[aK,UR]at h;exact uY (bp e X e' g h.1.2)
   |cons _ _=>simp[aK]at h
 |e::e1::es,X,Ed,g,h,pos=>by
  cases Ed with
  |nil=>simp[aK]at h
  |cons e' Ed =>
   have h':noStar e'=UN/\aE ck e X.N X.env.scope e'=UN/\aK ck (e1::es) X.N X.env.scope Ed=UN:=by
    rw[aK]at h;simp only[UR]at h;exact⟨h.1.1,h.1.2,h.2⟩
   cases Ed with
   |nil=>have:=h'.2.2;simp[aK]at this
   |cons e2 HX=>exact snd_and (bp e X e' g h'.2.1) (wI (e1::es) X _ g h'.2.2)
theorem zV:∀(es:List E) (X:Cx) (Ed:List VO),Gd ck Γ C d X->aK ck es X.N X.env.scope Ed=UN->∀{pos},PE X (.BoolOp .Or Ed pos) (Ek C (Bh Γ es))
 |[],X,Ed,g,h,pos=>λpins s σ H Q I ⟨_,_,_,_,w⟩=>(aC.mp w).elim
 |[e],X,Ed,g,h,pos=>by
  cases Ed with
  |nil=>simp[aK]at h
  |cons e' Ed =>
   cases Ed with
   |nil=>simp only[aK,UR]at h;exact uY (bp e X e' g h.1.2)
   |cons _ _=>simp[aK]at h
 |e::e1::es,X,Ed,g,h,pos=>by
  cases Ed with
  |nil=>simp[aK]at h
  |cons e' Ed =>
   have h':noStar e'=UN/\aE ck e X.N X.env.scope e'=UN/\aK ck (e1::es) X.N X.env.scope Ed=UN:=by
    rw[aK]at h;simp only[UR]at h;exact⟨h.1.1,h.1.2,h.2⟩
   cases Ed with
   |nil=>have:=h'.2.2;simp[aK]at this
   |cons e2 HX=>exact Bl (bp e X e' g h'.2.1) (zV (e1::es) X _ g h'.2.2)
theorem ny:∀(e:E) (X:Cx) (e':VO),Gd ck Γ C d X->aE ck e X.N X.env.scope e'=UN->PT X e' (Fq C (Et Γ e))
 |.and es,X,e',g,h=>by
  simp only[aE]at h;split at h
  ·exact(sj es X _ g h).pt
  ·cases h
 |.or es,X,e',g,h=>by
  simp only[aE]at h;split at h
  ·exact(wJ es X _ g h).pt
  ·cases h
 |.not a,X,e',g,h=>by
  simp only[aE]at h;split at h
  ·exact yN (ny a X _ g h)
  ·cases h
 |.cmp op a b,X,e',g,h=>by
  simp only[aE]at h;obtain⟨a',Hw,b',p0,rfl,z1⟩:=d_ h;have h:=z1;simp only[UR,γ,V5]at h;obtain⟨⟨⟨rfl,h0⟩,h1⟩,h2⟩:=h;exact yL g.P g.w g.K g.u (bp a X _ g h1) (bp b X _ g h2) h0
 |.Hr o1 o2 a b c,X,e',g,h=>absurd h (by simp[aE])
 |.var i,X,e',g,h=>by
  have hE:PE X e' (Ek C (ev Γ (.var i))):=by
   have h':=h;simp only[aE]at h';split at h'
   ·simp only[UR,γ]at h';obtain⟨h3,h4⟩:=a_ h'.2;exact m9 h'.1.1 (cv h'.1.2) h3 h4
   ·cases h'
  simp only[aE]at h;split at h
  ·exact d7 hE g.K λ_=>rfl
  ·cases h
 |.idx a b,X,e',g,h=>by
  simp only[aE]at h;split at h
  ·simp only[UR]at h;have hE:=r6 (pos:=by assumption) g.K g.u (kn h.1.1) (bp a X _ g h.1.2) (bp b X _ g h.2);refine PT.eqv (d7 hE g.K λ_=>rfl) λst Q w=>?_;simp only[Et,ag]at w ⊢;exact w
  ·cases h
 |.bi f es,X,e',g,h=>by
  simp only[aE]at h;obtain⟨f',as,p0,rfl,z1⟩:=aS h;obtain⟨x,p1,rfl,z2⟩:=aw z1;have h:=z2;refine PT.eqv (d7 (De g (iI es X _ g (cT h)) h) g.K λ_=>rfl) λst Q w=>?_;simp only[Et,ev,ag]at w ⊢;exact w
 |.G6 f es,X,e',g,h=>by
  simp only[aE]at h;obtain⟨f',as,p0,rfl,z1⟩:=aS h;obtain⟨x,p1,rfl,z2⟩:=aw z1;obtain⟨c,rfl,z3⟩:=a9 z2;obtain⟨g',as',p2,rfl,z4⟩:=aS z3;obtain⟨y,p3,rfl,z5⟩:=aw z4;have h:=z5;refine PT.eqv (d7 (zT g (iI es X _ g (cT h)) h) g.K λ_=>rfl) λst Q w=>?_;simp only[Et,ev,ag]at w ⊢;exact w
 |.G7 m a es,X,e',g,h=>by
  simp only[aE]at h;obtain⟨o,name,apos,as,Ec,rfl,z1⟩:=bF h;have h:=z1;have h':=h;simp only[UR]at h';refine PT.eqv (d7 (zU g (bp a X _ g h'.1.2) (iI es X _ g (cT h)) h) g.K λ_=>rfl) λst Q w=>?_;simp only[Et,ev,ag]at w ⊢;exact w
 |.call f es,X,e',g,h=>by
  simp only[aE]at h;obtain⟨f',as,p0,rfl,z1⟩:=aS h;obtain⟨x,p1,rfl,z2⟩:=aw z1;have h:=z2;refine PT.eqv (d7 (wH g (iI es X _ g (cT h)) h) g.K λ_=>rfl) λst Q w=>?_;simp only[Et,ev,ag]at w ⊢;exact w
 |.cst u,X,e',g,h=>by
  have go:∀{v:V},PE X e' (tC v)->(∀S H,Rep C S H u v)->(∀whole,isTrue e' X.env whole=(do let v <-whole;Á e'.pos;WT [v] (ő v)))->PT X e' (Fq C (Et Γ (.cst u))):=λ{v} h1 h2 h3=>by
   refine PT.eqv (d7 (gY h1 h2) g.K h3) λst Q w=>?_;rw[ag,ai];exact w
  simp only[aE]at h;split at h
  ·have:=cq h;subst this;exact go uT (λ_ _=>rfl) λ_=>rfl
  ·have:=cq h;subst this;exact go uV (λ_ _=>rfl) λ_=>rfl
  ·have:=cq h;subst this;exact go zE (λ_ _=>rfl) λ_=>rfl
  ·have:=cq h;subst this;exact go uU (λ_ _=>rfl) λ_=>rfl
  ·cases h
 |.fst es,X,e',g,h=>λpins s σ H Q I ⟨_,_,_,_,w⟩=>(aC.mp w).elim
 |.My x u,X,e',g,h=>λpins s σ H Q I ⟨_,_,_,_,w⟩=>(aC.mp w).elim
 |.neg a,X,e',g,h=>λpins s σ H Q I ⟨_,_,_,_,w⟩=>(aC.mp w).elim
 |.Mz a T,X,e',g,h=>λpins s σ H Q I ⟨_,_,_,_,w⟩=>(aC.mp w).elim
 |.bad,X,e',g,h=>λpins s σ H Q I ⟨_,_,_,_,w⟩=>(aC.mp w).elim
 |.inD neg a i,X,e',g,h=>by
  simp only[aE]at h;obtain⟨a',Hw,b',p0,rfl,z1⟩:=d_ h;obtain⟨x,p1,rfl,z2⟩:=aw z1;have h:=z2;simp only[UR,γ,V5]at h;obtain⟨⟨⟨⟨⟨rfl,h0⟩,h1⟩,h2⟩,h3⟩,h4⟩:=h;obtain⟨q1,q2⟩:=a_ h3;exact y8 g.u h1 (cv h2) q1 q2 (bp a X _ g h4) h0
 |.J_ i,X,e',g,h=>λpins s σ H Q I ⟨_,_,_,_,w⟩=>(aC.mp w).elim
 |.H_ ln a b,X,e',g,h=>λpins s σ H Q I ⟨_,_,_,_,w⟩=>(aC.mp w).elim
 |.J' i,X,e',g,h=>λpins s σ H Q I ⟨_,_,_,_,w⟩=>(aC.mp w).elim
 |.Gq i a b,X,e',g,h=>λpins s σ H Q I ⟨_,_,_,_,w⟩=>(aC.mp w).elim
 |.bin op a b,X,e',g,h=>λpins s σ H Q I ⟨_,_,_,_,w⟩=>(aC.mp w).elim
 |.ite c a b,X,e',g,h=>λpins s σ H Q I ⟨_,_,_,_,w⟩=>(aC.mp w).elim
 |.tup es,X,e',g,h=>λpins s σ H Q I ⟨_,_,_,_,w⟩=>(aC.mp w).elim
 |.lst es,X,e',g,h=>λpins s σ H Q I ⟨_,_,_,_,w⟩=>(aC.mp w).elim
 |.FU r,X,e',g,h=>λpins s σ H Q I ⟨_,_,_,_,w⟩=>(aC.mp w).elim
 |.F6 a lo hi,X,e',g,h=>λpins s σ H Q I ⟨_,_,_,_,w⟩=>(aC.mp w).elim
 |.comp n t ik src cond e,X,e',g,h=>λpins s σ H Q I ⟨_,_,_,_,w⟩=>(aC.mp w).elim
theorem sj:∀(es:List E) (X:Cx) (Ed:List VO),Gd ck Γ C d X->aK ck es X.N X.env.scope Ed=UN->∀{pos},PW X (.BoolOp .And Ed pos) (Fq C (aM Γ es))
 |[],X,Ed,g,h,pos=>by
  cases Ed with
  |nil =>
   rintro wh pins s σ H Q I ⟨c0,rfl,rfl,ok,w⟩;rw[show aM Γ []=pure UN from rfl,ai]at w;exact Ψ ⟨c0.H,I,w c0 rfl rfl ok (Nx.refl c0)⟩
  |cons _ _=>simp[aK]at h
 |[e],X,Ed,g,h,pos=>by
  cases Ed with
  |nil=>simp[aK]at h
  |cons e' Ed =>
   cases Ed with
   |nil=>simp only[aK,UR]at h;exact xQ (ny e X e' g h.1.2)
   |cons _ _=>simp[aK]at h
 |e::e1::es,X,Ed,g,h,pos=>by
  cases Ed with
  |nil=>simp[aK]at h
  |cons e' Ed =>
   have h':noStar e'=UN/\aE ck e X.N X.env.scope e'=UN/\aK ck (e1::es) X.N X.env.scope Ed=UN:=by
    rw[aK]at h;simp only[UR]at h;exact⟨h.1.1,h.1.2,h.2⟩
   cases Ed with
   |nil=>have:=h'.2.2;simp[aK]at this
   |cons e2 HX=>exact yO (ny e X e' g h'.2.1) (sj (e1::es) X _ g h'.2.2)
theorem wJ:∀(es:List E) (X:Cx) (Ed:List VO),Gd ck Γ C d X->aK ck es X.N X.env.scope Ed=UN->∀{pos},PW X (.BoolOp .Or Ed pos) (Fq C (e_ Γ es))
 |[],X,Ed,g,h,pos=>by
  cases Ed with
  |nil =>
   rintro wh pins s σ H Q I ⟨c0,rfl,rfl,ok,w⟩;rw[show e_ Γ []=pure UO from rfl,ai]at w;exact isTrue_or_nil ⟨c0.H,I,w c0 rfl rfl ok (Nx.refl c0)⟩
  |cons _ _=>simp[aK]at h
 |[e],X,Ed,g,h,pos=>by
  cases Ed with
  |nil=>simp[aK]at h
  |cons e' Ed =>
   cases Ed with
   |nil=>simp only[aK,UR]at h;exact Ao (ny e X e' g h.1.2)
   |cons _ _=>simp[aK]at h
 |e::e1::es,X,Ed,g,h,pos=>by
  cases Ed with
  |nil=>simp[aK]at h
  |cons e' Ed =>
   have h':noStar e'=UN/\aE ck e X.N X.env.scope e'=UN/\aK ck (e1::es) X.N X.env.scope Ed=UN:=by
    rw[aK]at h;simp only[UR]at h;exact⟨h.1.1,h.1.2,h.2⟩
   cases Ed with
   |nil=>have:=h'.2.2;simp[aK]at this
   |cons e2 HX=>exact Bm (ny e X e' g h'.2.1) (wJ (e1::es) X _ g h'.2.2)
end
end
noncomputable def LC(sc:Xg)(x:Str)(line:Nat):VO->Bool
 |.ListComp elt gens s pos=>UP (sc.names.lookup x=UI .local)&&(line==pos.line)&&!(s.names.any λ(n,k)=>n==x&&(k==.local||k==.cell))
 |_=>UO
noncomputable def pf(s:Ya)(k:VO->Bool):Bool:=match s with|.Expr e _=>k e|_=>UO
theorem gy(h:pf s k=UN):∃e p,s=.Expr e p/\k e=UN:=by
 unfold pf at h;split at h
 ·exact⟨_,_,rfl,h⟩
 ·cases h
noncomputable def sm(s:Ya)(k:VO->VO->Bool):Bool:=match s with|.Assign ts v _=>dA ts λt=>k t v|_=>UO
theorem kr(h:sm s k=UN):∃t v p,s=.Assign [t] v p/\k t v=UN:=by
 unfold sm at h;split at h
 ·obtain⟨t,rfl,z1⟩:=a9 h;exact⟨_,_,_,rfl,h⟩
 ·cases h
noncomputable def qK(e:VO)(k:VO->VO->VO->Xg->Bool):Bool:=match e with
 |.ListComp elt gens scope _=>dA gens λg=>match g with
  |⟨tg,iter,[],0⟩=>k elt tg iter scope
  |_=>UO
 |_=>UO
theorem ph(h:qK e k=UN):∃elt tg iter scope p,e=.ListComp elt [⟨tg,iter,[],0⟩] scope p/\k elt tg iter scope=UN:=by
 unfold qK at h;split at h
 ·obtain⟨g,rfl,z1⟩:=a9 h;split at z1
  ·exact⟨_,_,_,_,_,rfl,z1⟩
  ·cases z1
 ·cases h
mutual
noncomputable def dw(k:Ck):S->List Str->Xg->Ya->Bool
 |.set i e,N,sc,s=>match s with
  |.Assign [.Name x p] v _=>UP (N[i]?=UI x)&&nu sc x&&UP (sc.kind=.function)&&aE k e N sc v&&(cZ v||LC sc x p.line v||(match v with|.ListComp _ _ _ _=>UN|_=>UO))&&(match e with|.comp _ _ _ _ _ _=>UN|_=>cZ v)
  |_=>UO
 |.Ic is e,N,sc,s=>match s with
  |.Assign [.Tuple es kk p] v _=>JI UN N sc UN is (.Tuple es kk p)&&cZ v&&BG v&&aE k e N sc v
  |_=>UO
 |.put i a b,N,sc,s=>sm s λt b'=>lZ t λo a'=>bA o λx=>UP (N[i]?=UI x)&&hJ sc x&&b7 x&&cZ b'&&dz a'&&aE k a N sc a'&&aE k b N sc b'
 |.app i e,N,sc,s=>pf s λc=>fh c λo m apos as Ec=>bA o λx=>dA as λa=>UP (m="append")&&UP (N[i]?=UI x)&&hJ sc x&&b7 x&&(apos.endLine==Ec.line)&&noStar a&&aE k e N sc a
 |.ext i e,N,sc,s=>pf s λc=>fh c λo m apos as Ec=>bA o λx=>dA as λa=>UP (m="extend")&&UP (N[i]?=UI x)&&hJ sc x&&b7 x&&(apos.endLine==Ec.line)&&noStar a&&aE k e N sc a
 |.bad,_,_,_=>UN
 |.newD i,N,sc,s=>match s with
  |.Assign [.Name x p] (.Dict [] [] _) _=>UP (N[i]?=UI x)&&nu sc x
  |_=>UO
 |.putD i a b,N,sc,s=>sm s λt b'=>lZ t λo a'=>bA o λx=>UP (N[i]?=UI x)&&hJ sc x&&b7 x&&cZ b'&&dz a'&&aE k a N sc a'&&aE k b N sc b'
 |.FJ i a e,N,sc,s=>pf s λc=>fh c λo m apos as Ec=>lZ o λo' a'=>bA o' λx=>dA as λb=>UP (m="append")&&UP (N[i]?=UI x)&&hJ sc x&&b7 x&&dz a'&&(apos.endLine==Ec.line)&&noStar b&&aE k a N sc a'&&aE k e N sc b
 |.aug sub i a e,N,sc,s=>match s with
  |.AugAssign t op b _=>lZ t λo a'=>bA o λx=>UP (op=if sub=UN then .Sub else .Add)&&UP (N[i]?=UI x)&&hJ sc x&&b7 x&&dz a'&&aE k a N sc a'&&aE k e N sc b
  |_=>UO
 |.MA _,_,_,_=>UO
 |.exp e,N,sc,s=>match s with
  |.Expr e' _=>cZ e'&&aE k e N sc e'
  |_=>UO
 |.ret e,N,sc,s=>match s with
  |.Return (UI e') _=>aE k e N sc e'
  |_=>UO
 |.GR i e,N,sc,s=>match s with
  |.Return (UI v) _=>qK v λelt tg iter scope=>fh iter λo m apos as Ec=>bA o λx=>as.isEmpty&&UP (m="items")&&UP (N[i]?=UI x)&&hJ sc x&&b7 x&&(apos.endLine==Ec.line)&&isTup tg&&UP ((cD tg).length=2) &&
   yk (cD tg++hide (cD tg) N) (cD tg) scope sc.names&&JI UN (cD tg++hide (cD tg) N) (wF scope sc) UO (UX 2) tg&&aE k e (cD tg++hide (cD tg) N) (wF scope sc) elt
  |_=>UO
 |.Ie,N,sc,s=>match s with
  |.Return UK _=>UN
  |_=>UO
 |.ite c a b,N,sc,s=>match s with
  |.If c' a' b' _=>aE k c N sc c'&&dB k a N sc a'&&dB k b N sc b'
  |_=>UO
 |.EA t is ik src body,N,sc,s=>match s with
  |.For tg iter GH [] _=>JI t N sc UN is tg&&qF iter&&(match fg sc tg ik iter with
    |some as=>aK k src N sc as
    |none=>UO)&&dB k body N sc GH
  |_=>UO
 |.Ju c body,N,sc,s=>match s with
  |.While c' GH [] _=>aE k c N sc c'&&dB k body N sc GH
  |_=>UO
 |.brk,_,_,s=>match s with
  |.Break _=>UN
  |_=>UO
 |.cnt,_,_,s=>match s with
  |.Continue _=>UN
  |_=>UO
 |.MB,_,_,s=>match s with
  |.Pass _=>UN
  |_=>UO
noncomputable def dB(k:Ck):List S->List Str->Xg->List Ya->Bool
 |[],_,_,Gj=>Gj.isEmpty
 |s::ss,N,sc,Gj=>match Gj with
  |s'::Gj=>dw k s N sc s'&&dB k ss N sc Gj
  |[]=>UO
end
section
variable{ck:Ck}{Γ:Tab}{C:Ct}{d:Nat}{X:Cx}
theorem qL(h:nu sc x=UN):Loc sc x:=by
 unfold nu at h;simp only[Yf,γ]at h;exact h
theorem hV(h:cZ v=UN):Yi v t line env=pure UO:=by
 cases v<;>first|rfl|cases h
theorem nA(h:cZ v=UN):Yl [t] v line env=pure UO:=by
 rw[Yl];exact hV h
theorem zg(h:dz i=UN):∀ov iv new,Ν i ov iv new=(do WT [new,ov,iv] (Za ov iv new);Ä [new,ov,iv] [];pure .next):=by
 intro ov iv new;cases i<;>first|rfl|cases h
theorem so(h:dz i=UN):∀v,YK (.Subscript o i p) env v=(do
   let ov <-WT [v] (Wo o env)
   let iv <-WT [v,ov] (Wo i env)
   Á p
   WT [v,ov,iv] (Za ov iv v)
   Ä [v,ov,iv] []):=by
 intro v;cases i<;>first|rfl|cases h
structure Gs(ck:Ck)(Γ:Tab)(C:Ct)(d:Nat)(X:Cx):Prop where
 gd:Gd ck Γ C d X
 nd:X.N.Nodup
 fn:∀x,X.fn x=UN
 po:Ø (U6 X.prog X.w) X.A X.env X.xe
 kd:X.env.scope.kind=.function
theorem sr(g:Gd ck Γ C d X)(h:(match fg X.env.scope tg ik iter with|some as=>aK ck src X.N X.env.scope as|none=>UO)=UN):PI X tg iter (Ht C ik (bL Γ src)):=by
 split at h
 ·rename_i as has;exact zS g has (iI src X _ g h) (λa e=>by
   subst e;cases src with
   |nil=>simp[aK]at h
   |cons e1 EU =>
    cases EU with
    |nil =>
     simp only[aK,UR]at h;exact⟨e1,rfl,bp e1 X _ g h.1.2⟩
    |cons _ _=>simp[aK]at h) (c_ h)
 ·cases h
theorem ku{pos p GL:Pos}(hk:X.env.scope.kind=.function):Yi (.ListComp elt gens s pos) (UI (.Name x p)) GL.line X.env=pure (LC X.env.scope x p.line (.ListComp elt gens s pos)):=by
 have hb:X.env.blockKind=.function:=by
  unfold Env.blockKind;rw[hk];rfl
 show(pure (X.env.blockKind==.function&&X.env.kindOf x==UI .local&&p.line==pos.line&&!(s.names.any λ(n,k)=>n==x&&(k==.local||k==.cell))):Sem Bool)=_;rw[hb];unfold LC;congr 1
 have:(X.env.kindOf x==UI NameKind.local)=UP (X.env.scope.names.lookup x=UI .local):=by
  unfold Env.kindOf;rw[VR];simp
 rw[this];rfl
theorem BK{src cond:List E}(G:Gs ck Γ C d X)(hi:X.N[i]?=UI x)(hx:nu X.env.scope x=UN)
  (h:aE ck (.comp n t ik src cond e) X.N X.env.scope (.ListComp elt [⟨tg,iter,ifs,0⟩] scope pos)=UN) (ns:Nat->Bool) (FH:∀j,ns j=UN->j≠i) :
  L2.PS X (.Assign [.Name x p] (.ListComp elt [⟨tg,iter,ifs,0⟩] scope pos) GL) (E5 C ns (ev Γ (.comp n t ik src cond e) >>= λr=>d6 i r >>= λ_=>pure .nx)):=by
 have g:=G.gd;have hE:=bp (.comp n t ik src cond e) X _ g h;cases Iw:LC X.env.scope x p.line (.ListComp elt [⟨tg,iter,ifs,0⟩] scope pos) with
 |false=>exact zR FH G.nd hi (qL hx) (.inl (G.fn x)) hE (by rw[ku G.kd,Iw])
 |true =>
  have hl:X.env.scope.names.lookup x=UI .local:=by
   simp only[LC,UR,γ]at Iw;exact Iw.1.1
  simp only[aE,UR,γ]at h;obtain⟨⟨⟨⟨⟨⟨⟨h1,h2⟩,h3⟩,h4⟩,h5⟩,h6⟩,h7⟩,h8⟩:=h;subst h1;have S:=qi (X:=X) rfl (iH _ _) h2;exact BA FH S g.calm G.nd hi hl (sr g h5) (λD s H ex=>pe (fa:=UO) g.calm g.K S.nd (λz=>nomatch z) h3)
   (λD s H ex=>by
    cases ifs with
    |nil =>
     cases cond with
     |nil=>exact λpins s σ H Q I ⟨c0,e1,e2,ok,w⟩=>mP pins s σ H Q I (by subst e1 e2;rw[show aM Γ []=pure UN from rfl,ai]at w;exact w c0 rfl rfl ok (Nx.refl c0))
     |cons _ _=>simp[aK]at h7
    |cons c1 cs =>
     cases cs with
     |nil =>
      cases cond with
      |nil=>simp[aK]at h7
      |cons e1 EU =>
       cases EU with
       |nil =>
        simp only[aK,UR]at h7;exact rF (ny e1 (Fb X _ scope D s H ex) c1 (g.cx _ _ _ _ _ _) h7.1.2)
       |cons _ _=>simp[aK]at h7
     |cons _ _=>simp at h6)
   (λD s H ex=>bp e (Fb X _ scope D s H ex) elt (g.cx _ _ _ _ _ _) h8) (by rw[ku G.kd,Iw]) (qJ h4)
mutual
theorem D8:∀(s:S) (X:Cx) (s':Ya),Gs ck Γ C d X->dw ck s X.N X.env.scope s'=UN->L2.PS X s' (E5 C (Ih s) (exec Γ s))
 |.set i e,X,s',G,h=>by
  simp only[dw]at h;split at h
  ·rename_i x p v _;simp only[UR,γ]at h;obtain⟨⟨⟨⟨⟨h1,h2⟩,h3⟩,h4⟩,h5⟩,h6⟩:=h;have FH:∀j,Ih (.set i e) j=UN->j≠i:=λj hj=>by simpa[Ih] using hj
   by_cases hc:cZ v=UN
   ·exact zR FH G.nd h1 (qL h2) (.inl (G.fn x)) (bp e X v G.gd h4) (hV hc)
   ·cases e with
    |comp n t ik src cond e =>
     have OS:=h4;simp only[aE]at OS;split at OS
     ·exact BK G h1 h2 h4 _ FH
     ·cases OS
    |_=>exact absurd h6 hc
  ·cases h
 |.Ic is e,X,s',G,h=>by
  simp only[dw]at h;split at h
  ·simp only[UR]at h;obtain⟨⟨⟨h1,h2⟩,h3⟩,h4⟩:=h;rename_i es kk p v _;refine BB (λj hj=>by simpa[Ih] using hj) (bp e X v G.gd h4) (pe (fa:=UN) G.gd.calm G.gd.K G.nd (λ_=>G.fn) h1) (nA h2) ?_ rfl;cases v<;>first|rfl|cases h3
  ·cases h
 |.put i a b,X,s',G,h=>by
  simp only[dw]at h;obtain⟨t,v,p,rfl,z1⟩:=kr h;obtain⟨o,a',p1,rfl,z2⟩:=eh z1;obtain⟨x,px,rfl,z3⟩:=aw z2;simp only[UR,γ]at z3;obtain⟨⟨⟨⟨⟨⟨h1,h2⟩,h3⟩,h4⟩,h5⟩,h6⟩,h7⟩:=z3;obtain⟨q1,q2⟩:=a_ h3;exact C7 G.gd.P G.gd.w G.gd.K G.gd.u h1 (cv h2) q1 q2 (bp b X _ G.gd h7) (bp a X _ G.gd h6) (nA h4) rfl (so h5)
 |.app i e,X,s',G,h=>by
  simp only[dw]at h;obtain⟨c,p0,rfl,z1⟩:=gy h;obtain⟨o,m,apos,as,Ec,rfl,z2⟩:=bF z1;obtain⟨x,px,rfl,z3⟩:=aw z2;obtain⟨a,rfl,z4⟩:=a9 z3;simp only[UR,γ]at z4;obtain⟨⟨⟨⟨⟨⟨rfl,h1⟩,h2⟩,h3⟩,h4⟩,h5⟩,h6⟩:=z4;obtain⟨q1,q2⟩:=a_ h3;have st:=bu (env:=X.env) (es:=[]) h5;have sa:=(bI (pos:=Ec) (env:=X.env) (es:=[a]) λe he=>by simp at he;subst he;exact h5).2;refine C5 G.gd.K h1 (cv h2) q1 q2 (bp e X _ G.gd h6) ?_ h4 st;rw[sa];rfl
 |.ext i e,X,s',G,h=>by
  simp only[dw]at h;obtain⟨c,p0,rfl,z1⟩:=gy h;obtain⟨o,m,apos,as,Ec,rfl,z2⟩:=bF z1;obtain⟨x,px,rfl,z3⟩:=aw z2;obtain⟨a,rfl,z4⟩:=a9 z3;simp only[UR,γ]at z4;obtain⟨⟨⟨⟨⟨⟨rfl,h1⟩,h2⟩,h3⟩,h4⟩,h5⟩,h6⟩:=z4;obtain⟨q1,q2⟩:=a_ h3;have st:=bu (env:=X.env) (es:=[]) h5;have sa:=(bI (pos:=Ec) (env:=X.env) (es:=[a]) λe he=>by simp at he;subst he;exact h5).2;refine C6 G.gd.K h1 (cv h2) q1 q2 (bp e X _ G.gd h6) ?_ h4 st;rw[sa];rfl
 |.bad,X,s',G,h=>λpins sh σ H D I ⟨_,_,_,_,w⟩=>(aC.mp w).elim
 |.newD i,X,s',G,h=>by
  simp only[dw]at h;split at h
  ·simp only[UR,γ]at h;exact BD (λj hj=>by simpa[Ih] using hj) G.nd h.1 (qL h.2) (.inl (G.fn _)) (hV rfl)
  ·cases h
 |.putD i a b,X,s',G,h=>by
  simp only[dw]at h;obtain⟨t,v,p,rfl,z1⟩:=kr h;obtain⟨o,a',p1,rfl,z2⟩:=eh z1;obtain⟨x,px,rfl,z3⟩:=aw z2;simp only[UR,γ]at z3;obtain⟨⟨⟨⟨⟨⟨h1,h2⟩,h3⟩,h4⟩,h5⟩,h6⟩,h7⟩:=z3;obtain⟨q1,q2⟩:=a_ h3;exact BE G.gd.u h1 (cv h2) q1 q2 (bp b X _ G.gd h7) (bp a X _ G.gd h6) (nA h4) rfl (so h5)
 |.FJ i a e,X,s',G,h=>by
  simp only[dw]at h;obtain⟨c,p0,rfl,z1⟩:=gy h;obtain⟨o,m,apos,as,Ec,rfl,z2⟩:=bF z1;obtain⟨o',a',p1,rfl,z3⟩:=eh z2;obtain⟨x,px,rfl,z4⟩:=aw z3;obtain⟨b,rfl,z5⟩:=a9 z4;simp only[UR,γ]at z5;obtain⟨⟨⟨⟨⟨⟨⟨⟨rfl,h1⟩,h2⟩,h3⟩,h4⟩,h5⟩,h6⟩,h7⟩,h8⟩:=z5;obtain⟨q1,q2⟩:=a_ h3;have st:=bu (env:=X.env) (es:=[]) h6;have sa:=(bI (pos:=Ec) (env:=X.env) (es:=[b]) λe he=>by simp at he;subst he;exact h6).2;refine BF G.gd.K G.gd.u h1 (cv h2) q1 q2 (bp e X _ G.gd h8) (bp a X _ G.gd h7) (kn h4) ?_ h5 st;rw[sa];rfl
 |.aug sub i a e,X,s',G,h=>by
  simp only[dw]at h;split at h
  ·obtain⟨o,a',p1,rfl,z1⟩:=eh h;obtain⟨x,px,rfl,z2⟩:=aw z1;simp only[UR,γ]at z2;obtain⟨⟨⟨⟨⟨⟨rfl,h1⟩,h2⟩,h3⟩,h4⟩,h5⟩,h6⟩:=z2;obtain⟨q1,q2⟩:=a_ h3;exact Dc h1 (cv h2) q1 q2 (bp e X _ G.gd h6) (bp a X _ G.gd h5) (zg h4)
  ·cases h
 |.MA i,X,s',G,h=>absurd h (by simp[dw])
 |.exp e,X,s',G,h=>by
  simp only[dw]at h;split at h
  ·simp only[UR]at h;exact C0 (bp e X _ G.gd h.2) (hV h.1)
  ·cases h
 |.ret e,X,s',G,h=>by
  simp only[dw]at h;split at h
  ·exact C1 (bp e X _ G.gd h)
  ·cases h
 |.GR i e,X,s',G,h=>by
  have g:=G.gd;simp only[dw]at h;split at h
  ·obtain⟨elt,tg,iter,scope,p,rfl,z1⟩:=ph h;obtain⟨o,m,apos,as,Ec,rfl,z2⟩:=bF z1;obtain⟨x,px,rfl,z3⟩:=aw z2;simp only[UR,γ,X5]at z3;obtain⟨⟨⟨⟨⟨⟨⟨⟨⟨⟨rfl,rfl⟩,h1⟩,h2⟩,h3⟩,h4⟩,h5⟩,h6⟩,h7⟩,h8⟩,h9⟩:=z3;cases tg with
   |Tuple es kx ps =>
    obtain⟨q1,q2⟩:=a_ h3;have S:=qi (X:=X) rfl (iH _ _) h7;rw[<-h6]at h8;exact BC h1 (cv h2) q1 q2 h4 S g.calm h6 (λD s H ex=>pe (fa:=UO) g.calm g.K S.nd (λz=>nomatch z) h8) (λD s H ex=>bp e _ _ (g.cx _ _ _ _ _ _) h9)
   |_=>cases h5
  ·cases h
 |.Ie,X,s',G,h=>by
  simp only[dw]at h;split at h
  ·exact Bz
  ·cases h
 |.ite c a b,X,s',G,h=>by
  simp only[dw]at h;split at h
  ·simp only[UR]at h;have ha:=l7 a X _ G h.1.2;have hb:=l7 b X _ G h.2;exact C2 (ny c X _ G.gd h.1.1) (Ff.weak ha λD σ H z=>nj (λj hj=>by simp only[Ih,UR]at hj;exact hj.1) z) (Ff.weak hb λD σ H z=>nj (λj hj=>by simp only[Ih,UR]at hj;exact hj.2) z)
  ·cases h
 |.EA t is ik src body,X,s',G,h=>by
  simp only[dw]at h;split at h
  ·rename_i tg iter GH _;rw[UR,UR,UR]at h;exact C4 G.po G.gd.calm (sr G.gd h.1.2) (pe (fa:=UN) G.gd.calm G.gd.K G.nd (λ_=>G.fn) h.1.1.1) (l7 body X _ G h.2) (qJ h.1.1.2) λj hj=>by simpa[Ih] using hj
  ·cases h
 |.Ju c body,X,s',G,h=>by
  simp only[dw]at h;split at h
  ·simp only[UR]at h;exact C3 G.po (ny c X _ G.gd h.1) (l7 body X _ G h.2)
  ·cases h
 |.brk,X,s',G,h=>by
  simp only[dw]at h;split at h
  ·exact CW
  ·cases h
 |.cnt,X,s',G,h=>by
  simp only[dw]at h;split at h
  ·exact CY
  ·cases h
 |.MB,X,s',G,h=>by
  simp only[dw]at h;split at h
  ·exact CZ
  ·cases h
theorem l7:∀(ss:List S) (X:Cx) (Gj:List Ya),Gs ck Γ C d X->dB ck ss X.N X.env.scope Gj=UN->Ff X Gj (E5 C (G8 ss) (execs Γ ss))
 |[],X,Gj,G,h=>by
  cases Gj with
  |nil=>exact CV
  |cons _ _=>simp[dB]at h
 |s::ss,X,Gj,G,h=>by
  cases Gj with
  |nil=>simp[dB]at h
  |cons s' Gj =>
   simp only[dB,UR]at h;have h1:=D8 s X s' G h.1;have h2:=l7 ss X Gj G h.2;exact By (PS.weak h1 λD σ H z=>nj (λj hj=>by simp only[G8,UR]at hj;exact hj.1) z) (Ff.weak h2 λD σ H z=>nj (λj hj=>by simp only[G8,UR]at hj;exact hj.2) z)
end
end
section
variable{ck:Ck}{Γ:Tab}{d:Nat}{P:VZ}{w:Wi}{K:PySem.W.Frag}{mg:Str->Option UT}{base:Ws}
theorem iJ{n i:Nat}(h:(start us n)[i]?=UI (UI (k,u))):us[i]?=UI u/\k=if EL u=UN then .loc else .any:=by
 unfold start at h;by_cases hi:i<us.length
 ·rw[VY (by simpa using hi),Vi]at h;rw[V2 hi]at h ⊢;simp only[Z0,ß,Prod.mk.injEq]at h;obtain⟨h1,h2⟩:=h;subst h2;exact⟨rfl,h1.symm⟩
 ·rw[VH (by simp;omega),WX]at h;split at h<;>cases h
theorem qM{i:Nat}(h:vs[i]?=UI v):(L2.start N vs)[i]?=UI (UI v):=by
 unfold L2.start;have hi:i<vs.length:=(UW.mp h).1;rw[VY (by simpa using hi),Vi,h];rfl
theorem wK(hP:∀a,Pr a->G5 H a)(h:aj (HN P w K H Pr) Pr H us vs)(hn:N.length=n):Ok (HN P w K H Pr) ⟨λ_=>False,H,L2.start N vs,start us n,λ_=>[]⟩:=by
 have OT:∀(j:Nat) (u:U),(start us n)[j]?≠UI (UI (.Eb,u)):=λj u e=>by
  have:=(iJ e).2;split at this<;>cases this
 refine⟨λa o e _=>e,λa z=>z.elim,λa z=>⟨hP a z,λz=>z⟩,λa z=>z.elim,?_,λi k u e=>?_,λi j k k' u u' r hk FE e1 e2 e3 e4=>?_,⟨λj u r e _=>(OT j u e).elim,λi j a ⟨u,_,e,_⟩=>(OT i u e).elim,λj a ⟨u,_,e,_⟩=>(OT j u e).elim⟩⟩
 ·have:=h.len;simp[start,L2.start,hn];omega
 ·obtain⟨e1,e2⟩:=iJ e;obtain⟨v,ev,rep⟩:=h.get e1;refine⟨v,qM ev,?_⟩;subst e2;by_cases hu:EL u=UN
  ·rw[δ hu];exact Rep.EL hu rep
  ·rw[ε hu];exact Rep.mv (.up λa z=>.inl z) rep
 ·obtain⟨_,e5⟩:=iJ e1;subst e5;split at hk<;>cases hk
theorem nB(h:bM Γ fn us=UI (.ok (k,u))):us.length=fn.np/\((k=.own\/k=.loc\/k=.any)/\(∃st',execs Γ fn.body (start us fn.ns)=UI (.ok (.rt k u),st'))\/(k=.loc/\u=.Es/\∃st',execs Γ fn.body (start us fn.ns)=UI (.ok .nx,st'))):=by
 unfold bM at h;split at h
 ·rename_i hl;refine⟨hl,?_⟩;split at h
  ·rename_i e;cases h;exact .inl ⟨.inl rfl,_,e⟩
  ·rename_i e;cases h;exact .inl ⟨.inr (.inl rfl),_,e⟩
  ·rename_i e;cases h;exact .inl ⟨.inr (.inr rfl),_,e⟩
  ·rename_i e;cases h;exact .inr ⟨rfl,rfl,_,e⟩
  ·cases h
  ·cases h
 ·cases h
theorem zW{st:Ya}(F:Je K fn.name qual st f fd)(S:dY N ps (aT st))(hN:N.length=fn.ns)(HI:ps.length=fn.np)
  (OU:dB ck fn.body N (aT st) (cO st)=UN) (blt:∀x∈b9,mg x=UK) (fns:∀g∈ck.fns,BH P w K mg base d (Γ g) g)
  (IQ:∀p∈ck.gl,∃val v,mg p.1=UI val/\RelV v val/\∀(C:Ct) S H,Rep C S H p.2 v):oj P w K mg base Iv (d+1) f fd ps (spT P w K (bM Γ fn) fn.np):=by
 refine F.ok S (λvs H Q E h=>h.1.trans HI.symm) (λFt A outer s H vs Q E hr h=>?_);obtain⟨hl,us,k,u,Pr,Ep,hk,To,rep,cont⟩:=h;have Lu:=hr.un;have G:Gs ck Γ (HN P w K H Pr) d (qc Iv P w K mg base N qual (aT st) f Ft A outer s H E).Km :=
  ⟨⟨rfl,rfl,rfl,by show(A.deeper (ZE qual (aT st) s.heap.objs.size f Ft)).units+60<Wa;omega,rfl,hr,blt,fns,λp hp=>let ⟨val,v,q1,q2,q3⟩:=IQ p hp;⟨val,v,q1,q2,q3 _⟩⟩,S.nd,λ_=>rfl,PassesOwn.never,S.kind⟩
 refine⟨_,l7 fn.body _ _ G OU,⟨λ_=>False,H,L2.start N vs,start us fn.ns,λ_=>[]⟩,rfl,rfl,wK To rep hN,?_⟩;obtain⟨_,OV⟩:=nB Ep;have mk:∀(c:Cf),Ok (HN P w K H Pr) c->∀v,CU (HN P w K H Pr) c k u v->Back (HN P w K H Pr) H c.H c.S k u v:=λc ok v r=>by
  refine⟨λa o e=>ok.same a o e λz=>z,λa z=>ok.F5 a z,λe=>?_,λe=>?_,λe=>?_⟩
  ·subst e;obtain⟨r0,e,h1,h2,h3,h4⟩:=r;exact⟨r0,e,h1,h2,h4⟩
  ·subst e;exact r
  ·subst e;exact r
 rcases OV with⟨_,st',e⟩|⟨rfl,rfl,st',e⟩
 ·exact⟨_,st',e,λc ec ok n kp v r=>cont v c.H c.S (mk c ok v r)⟩
 ·exact⟨_,st',e,λc ec ok n kp=>cont .Es c.H c.S (mk c ok .Es rfl)⟩
structure Ld(ck:Ck)(K:PySem.W.Frag)(mg:Str->Option UT)(fn:Fn):Prop where
 ex:∃(qual:Str) (st:Ya) (f:U8) (fd:Y4) (N ps:List Str),Je K fn.name qual st f fd/\mg fn.name=UI (.ref f)/\Binds K fd ps []/\dY N ps (aT st)/\N.length=fn.ns/\ps.length=fn.np/\dB ck fn.body N (aT st) (cO st)=UN
theorem zh{Pg:List Fn}(Eo:(Pg.map (·.name)).Nodup)(h:fn∈Pg):Pg.find? (λg=>UP (g.name=fn.name))=UI fn:=by
 induction Pg with
 |nil=>cases h
 |cons g Pg ih =>
  rw[U7,Vp]at Eo;rcases U2.mp h with rfl|h
  ·simp
  ·rw[Xb];have:UP (g.name=fn.name)=UO:=by
    apply ζ;intro z;exact Eo.1 (z▸ď h)
   rw[this];exact ih Eo.2 h
theorem wL(Eo:(Pg.map (·.name)).Nodup)(h:fn∈Pg):EI Pg (d+1) fn.name=bM (EI Pg d) fn:=by
 funext us
 show(match Pg.find? λg=>UP (g.name=fn.name) with|some fn=>bM (EI Pg d) fn us|none=>UK)=_;rw[zh Eo h]
theorem zi(Eo:(Pg.map (·.name)).Nodup)(Kf:ck.fns=Pg.map (·.name))(blt:∀x∈b9,mg x=UK)(IQ:∀p∈ck.gl,∃val v,mg p.1=UI val/\RelV v val/\∀(C:Ct) S H,Rep C S H p.2 v)
  (ld:∀fn∈Pg,Ld ck K mg fn):∀d,∀fn∈Pg,BH P w K mg base d (EI Pg d fn.name) fn.name:=by
 intro d;induction d with
 |zero =>
  intro fn HC;obtain⟨qual,st,f,fd,N,ps,F,hm,hb,S,hN,HI,hc⟩:=(ld fn HC).ex;exact⟨fn.np,f,fd,ps,⟨λvs H Q E h=>h.1.trans HI.symm,λA outer s H args us vs Q E _ _ _ _ h=>by obtain⟨_,us,k,u,_,e,_⟩:=h;cases e⟩,hm,F.kp,hb,λus k u e=>by cases e⟩
 |succ d ih =>
  intro fn HC;obtain⟨qual,st,f,fd,N,ps,F,hm,hb,S,hN,HI,hc⟩:=(ld fn HC).ex;rw[wL Eo HC];refine⟨fn.np,f,fd,ps,zW F S hN HI hc blt (λg hg=>?_) IQ,hm,F.kp,hb,λus k u e=>?_⟩
  ·rw[Kf]at hg;obtain⟨OW,h1,rfl⟩:=Vc.mp hg;exact ih OW h1
  ·obtain⟨h1,h2⟩:=nB e;refine⟨?_,h1⟩;rcases h2 with⟨z,_⟩|⟨z,_⟩
   ·exact z
   ·exact .inr (.inl z)
end
noncomputable def qN(ns:List Int):U:=.lst (ns.map .int)
theorem l8{S:U8->Prop}:∀(ns:List Int),aj C S H (ns.map .int) (ns.map V.int)
 |[]=>rfl
 |n::ns=>⟨_,_,rfl,rfl,l8 ns⟩
theorem qO(h:EN C.K H a (ns.map V.int)):Rep C (G5 H) H (qN ns) (.ref a):=by
 refine⟨a,_,rfl,?_,l8 ns⟩;rcases h with(h|⟨o,h⟩)|h
 ·exact .inl ⟨⟨_,h⟩,.inl h⟩
 ·exact .inl ⟨⟨_,h⟩,.inr ⟨o,h⟩⟩
 ·exact .inr h
theorem pj:∀{l:List α},(∀a∈l,f a=g a)->l.filterMap f=l.filterMap g
 |[],_=>rfl
 |a::l,h=>by rw[WW,WW,h a (by simp),pj λb hb=>h b (by simp[hb])]
theorem su:∀(l:List Str) (us:List UT),l.Nodup->us.length=l.length->l.filterMap (λn=>((l.zip us).lookup n).map (n,·))=l.zip us
 |[],_,_,_=>rfl
 |a::l,[],_,h=>nomatch h
 |a::l,u::us,nd,h=>by
  rw[Vp]at nd;have ih:=su l us nd.2 (by simpa using h);simp only[Yu,WW,VQ,beq_self_eq_true,Z0];congr 1
  conv=>rhs;rw[<-ih]
  refine pj λn hn=>?_;have:(n==a)=UO:=by
   rw[beq_eq_false_iff_ne];rintro rfl;exact nd.1 hn
  rw[this]
theorem wM(l:List Str)(us:List UT)(h:us.length=l.length):l.filter (λn=>((l.zip us).lookup n).isNone)=[]:=by
 rw[ï];intro n hn;induction l generalizing us with
 |nil=>cases hn
 |cons a l ih =>
  cases us with
  |nil=>cases h
  |cons u us =>
   simp only[Yu,VQ];cases e:n==a with
   |true=>simp
   |false =>
    rcases U2.mp hn with rfl|hn
    ·simp at e
    ·exact ih us (by simpa using h) hn
theorem wN{kV doc pm Ft ct:UT}(nd:(as.map (·.arg)).Nodup)(hl:us.length=(as.map (·.arg)).length):
  ľ (PySem.W.fnOf x q ⟨[],as,UK,[],[],UK,[]⟩ body scope .none kV doc pm an Ft ct) ⟨us,[]⟩=pure ((as.map (·.arg)).zip us):=by
 have h1:=su _ us nd hl;have h2:=wM _ us hl;have hs:Ó Vy=pure UK:=rfl;simp only[ľ,PySem.W.fnOf,Wx,Vb,V1,hs,pure_bind,ZO,YU,Nat.sub_zero,List.drop_nil,List.zip_nil_right,Yw,h1];rw[ε (by simp[hl])];rw[UQ,W4 (by simp),h2];rfl
structure Me where
 fn:Fn
 i:Nat
 N:List Str
 a:U8
 c:U8
 m:UT
 cr:Obj
noncomputable def Me.fd(top:Nat->Ya)(m:Me):Y4:=PySem.W.fnOf m.fn.name m.fn.name (fq (top m.i)) (cO (top m.i)) (aT (top m.i)) .none .none .none m.m UK (.ref m.c) .none
noncomputable def Me.fo(top:Nat->Ya)(m:Me):Obj:=⟨.type "function",UK,.func (m.fd top),#[]⟩
noncomputable def adr(ms:List Me):List U8:=3::ms.flatMap λm=>[m.c,m.a]
noncomputable def Gu(top:Nat->Ya)(g:Obj)(ms:List Me):PySem.W.Frag:=(3,g)::ms.flatMap λm=>[(m.c,m.cr),(m.a,m.fo top)]
theorem sv(top:Nat->Ya)(g:Obj)(ms:List Me):adr ms=(Gu top g ms).map (·.1):=by
 unfold adr Gu;rw[U7,List.map_flatMap];rfl
noncomputable def BL(v:Option (Option UT))(a:U8):Bool:=match v with|some (UI (.ref b))=>UP (b=a)|_=>UO
theorem zj(h:BL v a=UN):v=UI (UI (.ref a)):=by
 unfold BL at h;split at h
 ·rw[of_decide_eq_true h]
 ·cases h
noncomputable def nn(o:Option (Option UT)):Bool:=match o with|some UK=>UN|_=>UO
theorem Dg(h:nn o=UN):o=UI UK:=by
 unfold nn at h;split at h
 ·rfl
 ·cases h
noncomputable def Dh(p:Arguments)(ps:List Str):Bool:=p.posonlyargs.isEmpty&&p.vararg.isNone&&p.kwonlyargs.isEmpty&&p.kw_defaults.isEmpty&&p.kwarg.isNone&&p.defaults.isEmpty&&UP (p.args.map (·.arg)=ps)
noncomputable def QC(N:List Str)(np:Nat)(sc:Xg):Bool:=UP (sc.kind=.function)&&UP (sc.isCoroutine=UO)&&UP (sc.isGenerator=UO)&&decide N.Nodup&&(N.take np).all (nu sc)&&sc.names.all (λy=>UP (y.2≠.free))
noncomputable def QD(ck:Ck)(top:Nat->Ya)(K:PySem.W.Frag)(m:Me):Bool:=PySem.W.codeIn K (.ref m.c) m.fn.name&&PySem.W.keepIn K (.ref m.a)&&BL (PySem.W.nsIn K V' m.fn.name) m.a&&Dh (fq (top m.i)) (m.N.take m.fn.np) &&
 QC m.N m.fn.np (aT (top m.i))&&UP (m.N.length=m.fn.ns)&&UP (m.fn.np<=m.fn.ns)&&dB ck m.fn.body m.N (aT (top m.i)) (cO (top m.i))
noncomputable def QE(K:PySem.W.Frag)(p:Str×U):Bool:=match p.2,PySem.W.nsIn K V' p.1 with
 |.int i,UI (UI (.int j _))=>UP (i=j)
 |.str i,UI (UI (.str j _))=>UP (i=j)
 |_,_=>UO
noncomputable def IS(ck:Ck)(top:Nat->Ya)(K:PySem.W.Frag)(ms:List Me):Bool:=ms.all (QD ck top K)&&b9.all (λy=>nn (PySem.W.nsIn K V' y))&&ck.gl.all (QE K)&&UP (K.map (·.1)).Nodup
theorem Di{K:PySem.W.Frag}(nd:(K.map (·.1)).Nodup)(h:(a,o)∈K):K.lookup a=UI o:=by
 induction K with
 |nil=>cases h
 |cons p K ih =>
  rw[U7,Vp]at nd;rw[VQ];rcases U2.mp h with rfl|h
  ·simp
  ·have:(a==p.1)=UO:=by
    rw[beq_eq_false_iff_ne];rintro rfl;exact nd.1 (Vc.mpr ⟨_,h,rfl⟩)
   rw[this];exact ih nd.2 h
section
theorem zX(hm:IS ck top (Gu top g ms) ms=UN)(h:m∈ms):Je (Gu top g ms) m.fn.name m.fn.name (top m.i) m.a (m.fd top)/\PySem.W.nsIn (Gu top g ms) V' m.fn.name=UI (UI (.ref m.a)) /\
  (∀us:List UT,us.length=(m.N.take m.fn.np).length->ľ (m.fd top) ⟨us,[]⟩=pure ((m.N.take m.fn.np).zip us))/\dY m.N (m.N.take m.fn.np) (aT (top m.i))/\m.N.length=m.fn.ns/\(m.N.take m.fn.np).length=m.fn.np/\dB ck m.fn.body m.N (aT (top m.i)) (cO (top m.i))=UN:=by
 simp only[IS,UR,γ]at hm;have z:=VA.mp hm.1.1.1 m h;simp only[QD,UR,γ]at z;obtain⟨⟨⟨⟨⟨⟨⟨z1,z2⟩,z3⟩,z4⟩,z5⟩,z6⟩,z7⟩,z8⟩:=z;simp only[QC,UR,γ]at z5;obtain⟨⟨⟨⟨⟨s1,s2⟩,s3⟩,s4⟩,s5⟩,s6⟩:=z5;have Tq:(Gu top g ms).lookup m.a=UI (m.fo top):=Di hm.2 (U2.mpr (.inr (List.mem_flatMap.mpr ⟨m,h,by simp⟩)));have hl:(m.N.take m.fn.np).length=m.fn.np:=by rw[V9];omega
 refine⟨AM Tq z1 z2,zj z3,λus hu=>?_,⟨s1,s2,s3,s4,by rw[hl],λx hx=>?_,λy hy=>?_⟩,z6,hl,z8⟩
 ·unfold Me.fd;revert z4;cases fq (top m.i) with
  |mk po as va ko kd kw df =>
   intro z4;simp only[Dh,UR,X5,Option.isNone_iff_eq_none,γ]at z4;obtain⟨⟨⟨⟨⟨⟨rfl,rfl⟩,rfl⟩,rfl⟩,rfl⟩,rfl⟩,e⟩:=z4;rw[<-e]at hu ⊢;exact wN (by rw[e];exact(Į _ _).nodup s4) hu
 ·have:=VA.mp s5 x hx;simpa[nu] using this
 ·have:=VA.mp s6 y hy;simpa using this
theorem Dj(hm:IS ck top (Gu top g ms) ms=UN)(X:(Gu top g ms).In h)(G:h.Ns V' mg)(hi:m∈ms):Ld ck (Gu top g ms) mg m.fn :=
 let ⟨a,b,c,d,e,f,k⟩:=zX hm hi
 ⟨_,_,_,_,_,_,a,PySem.W.mg_of X G b,.all c,d,e,f,k⟩
theorem BM(hm:IS ck top (Gu top g ms) ms=UN)(X:(Gu top g ms).In h)(G:h.Ns V' mg):∀p∈ck.gl,∃val v,mg p.1=UI val/\RelV v val/\∀(C:Ct) S H,Rep C S H p.2 v:=by
 intro p hp;simp only[IS,UR,γ]at hm;have z:=VA.mp hm.1.2 p hp;unfold QE at z;split at z
 ·rename_i i j k e1 e2;obtain rfl:=of_decide_eq_true z;exact⟨_,.int i,PySem.W.mg_of X G e2,⟨_,rfl⟩,λ_ _ _=>by rw[e1];rfl⟩
 ·rename_i i j k e1 e2;obtain rfl:=of_decide_eq_true z;exact⟨_,.str i,PySem.W.mg_of X G e2,⟨_,rfl⟩,λ_ _ _=>by rw[e1];rfl⟩
 ·cases z
end
theorem walk{l:PySem.W.OpenLaw}{K:Ĩ->PySem.W.Frag}
  (hn:l.most=UI 63) (Jc:d.params.defaults=[]) (hr:f7 (dp+1) Zd) (hY:∀(w:Wi) (h:Ws),YP w h->(K w.params).In h)
  (Eo:(Pg.map (·.name)).Nodup) (Kf:ck.fns=Pg.map (·.name)) (HC:fn∈Pg) (Hx:fn.name=d.name)
  (F:∀(w:Wi) (mg:Str->Option UT) (fa:U8) (h:Ws),(K w.params).In h->h.Ns V' mg->mg d.name=UI (.ref fa) ->
   (∀y∈b9,mg y=UK)/\(∀p∈ck.gl,∃val v,mg p.1=UI val/\RelV v val/\∀(C:Ct) S H,Rep C S H p.2 v)/\(∀g∈Pg,Ld ck (K w.params) mg g) /\
   ∃(qual:Str) (st:Ya) (fd:Y4) (N:List Str),Je (K w.params) fn.name qual st fa fd/\dY N [x] (aT st)/\N.length=fn.ns/\1=fn.np/\dB ck fn.body N (aT st) (cO st)=UN/\∀(s:U1) (u:UT),Ī s fd ⟨[u],[]⟩ [(x,u)])
  (T:∀ns:List Int,ns.length<=63->EI Pg (dp+1) fn.name [qN ns]=UI (.ok (.loc,.bl UN))) :
  PySem.W.WalkO q loose XP YP l.row.toRowW d [] (λf vs=>PySem.call f vs) :=
 L2.yd (n:=63) (k:=dp+1) (x:=x) (CX:=λ_=>Iv) (sp:=λw=>spT l.prog w (K w.params) (bM (EI Pg dp) fn) fn.np) hn (by decide) Jc hr hY
  (λw mg fa h KX G Kv=>by
   obtain⟨blt,IQ,ld,qual,st,fd,N,F1,S,hN,HI,hc,hb⟩:=F w mg fa h KX G Kv;refine⟨fd,hb,λbase _ _=>zW F1 S hN HI hc blt (λg hg=>?_) IQ⟩;rw[Kf]at hg;obtain⟨OW,h1,rfl⟩:=Vc.mp hg;exact zi Eo Kf blt IQ ld dp OW h1)
  (λw H a ns hl _ hS=>by
   have t:=T ns hl;rw[wL Eo HC]at t;have Tr:fn.np=1:=(nB t).1.symm;exact⟨Tr.symm,[qN ns],.loc,.bl UN,G5 H,t,.inr (.inl rfl),λ_ z=>z,⟨_,_,rfl,qO hS,rfl⟩,λv H' S' b=>b.loc rfl⟩)
  λ_ _ _ _ _ z=>z
theorem walk2{l:PySem.W.OpenLaw}{g:Ĩ->Obj}
  (hn:l.most=UI 63) (Jc:d.params.defaults=[]) (hr:f7 (dp+1) Zd) (hP:ms.map (·.fn)=Pg) (Eo:(Pg.map (·.name)).Nodup) (Kf:ck.fns=Pg.map (·.name)) (hm:m∈ms) (Hx:m.fn.name=d.name) (hx:m.N.take m.fn.np=[x])
  (ok:∀P,IS ck top (Gu top (g P) ms) ms=UN) (T:∀ns:List Int,ns.length<=63->EI Pg (dp+1) m.fn.name [qN ns]=UI (.ok (.loc,.bl UN))) :
  PySem.W.WalkO q loose XP (PySem.W.kHook (λP=>Gu top (g P) ms) (adr ms) λP=>sv top (g P) ms).says l.row.toRowW d [] (λf vs=>PySem.call f vs) :=
 walk hn Jc hr (λw h Y=>PySem.W.kIn_of Y) Eo Kf (hP▸Vc.mpr ⟨m,hm,rfl⟩) Hx (λw mg fa h X G GD=>by
  have hk:=ok w.params;obtain⟨a,b,c,e,f,k,n⟩:=zX hk hm;rw[<-Hx,PySem.W.mg_of X G b]at GD;cases GD;rw[hx]at c e k;refine⟨λy hy=>PySem.W.mg_none_of X G (Dg ?_),BM hk X G,λy hy=>?_,_,_,_,_,a,e,f,k,n,λs u=>.of_eq (c [u] rfl)⟩
  ·simp only[IS,UR]at hk;exact VA.mp hk.1.1.2 y hy
  ·rw[<-hP]at hy;obtain⟨m',h1,rfl⟩:=Vc.mp hy;exact Dj hk X G h1) T
noncomputable def co(n:Str)(k l np:Nat)(r s:U8)(x y z:UT)(a b t:Nat):Obj:=⟨.type "code",UK,.fields #[.str n k,.str n (k+1),.str "/claim/cut.py" (k+2),.int l 0,.int np 0,.int 0 0,.int 0 0,.int 3 0,.ref r,.bool UN,.int t 0,.ref s,.none,x,y,z,.int a 0,.int l 0,.str "/claim/cut.py" b],#[]⟩
noncomputable def ge(P:Ĩ)(x:Str)(k:Nat)(v:UT):DictEntry:=⟨PyData.keyHash P x,.str x k,v⟩
end TM
namespace EO
open PySem L2
def cw(l:List Nat):Prop:=eJ l=UN\/∃a b k,l=a++47::b/\eJ a=UN/\2<=k/\k<=99/\(tP k).cps.toList=b
theorem len_list(x:Str):x.length=x.cps.toList.length:=by simp[Ö]
theorem l9(h0:0<=k)(h1:k<=99):(tP k).length<=2:=by
 obtain⟨m,rfl⟩:=YR h0;have hm:m<100:=by omega
 clear h0 h1;revert m;decide +kernel
theorem cw.len(h:cw l):1<=l.length/\l.length<=11:=by
 rcases h with h|⟨a,b,k,rfl,h,h2,h9,hb⟩
 ·have:=(cE l).mp h;omega
 ·have:=(cE a).mp h;have hl:=l9 (k:=k) ⋯ h9;rw[len_list,hb]at hl;simp;omega
theorem cw.D9(h:cw x.cps.toList):∃y r,XO x zJ=y::r/\eJ y.cps.toList=UN:=by
 rcases h with h|⟨a,b,k,e,h,_⟩
 ·exact⟨x,[],qh (ox h),h⟩
 ·obtain⟨r,e'⟩:=vp e (ox h) (by decide);exact⟨_,r,e',by simpa using h⟩
theorem eN:∀(ps:List Str) (acc:Array Nat),(ps.foldl (λacc p=>acc++VW.cps++p.cps) acc).toList=acc.toList++(ps.map λp=>p.cps.toList).flatten
 |[],acc=>by simp
 |p::ps,acc=>by
  rw[YV,eN ps];have:VW.cps=#[]:=rfl;simp[this]
theorem join_list(ts:List Str):(ZQ VW ts).cps.toList=(ts.map λp=>p.cps.toList).flatten:=by
 cases ts with
 |nil=>rfl
 |cons t ts =>
  show(ts.foldl (λacc p=>acc++VW.cps++p.cps) t.cps).toList=_;rw[eN];simp
noncomputable def one(c:Nat):Str:=⟨#[c]⟩
theorem join_ones(cs:List Nat):(ZQ VW (cs.map one)).cps.toList=cs:=by
 rw[join_list,U4];induction cs with
 |nil=>rfl
 |cons c cs ih=>rw[U7,YH,ih];rfl
theorem pq(cs:List Nat)(h:cs.length<=100):ŕ VW (cs.map one)=UN:=by
 unfold ŕ;have e:=PySem.StrLaws.joinTotal VW (cs.map one);have e0:VW.length=0:=rfl;have es:((cs.map one).map (·.length)).sum=cs.length:=by
  rw[U4];clear h e;induction cs with
  |nil=>rfl
  |cons c cs ih=>rw[U7,List.sum_cons,ih];show 1+cs.length=cs.length+1;omega
 rw[e,e0,es];have hm:cs.length+(cs.map one).length * 0<=100:=by omega
 revert hm;generalize cs.length+(cs.map one).length * 0=m;revert m;decide
theorem BN(x:Str)(j:Nat):(PySem.StrLaws.sliceText x UK (UI (j:Int))).cps.toList=x.cps.toList.take j:=by
 by_cases h:j<=x.cps.toList.length
 ·rw[PySem.StrLaws.sliceText_to (x:=x) ⟨⋯,⋯⟩];simp
 ·have e:PySem.StrLaws.sliceText x UK (UI (j:Int))=PySem.StrLaws.sliceText x UK (UI (x.length:Int)):=by
   unfold PySem.StrLaws.sliceText;have hl:=len_list x;have:PySem.Builtin.Str.strSliceIndices UK (UI (j:Int)) 1 x.length=PySem.Builtin.Str.strSliceIndices UK (UI (x.length:Int)) 1 x.length:=by
    have h1:¬((j:Int)<0):=by omega
    have h2:¬((x.length:Int)<0):=by omega
    have e1:min (j:Int) (x.length:Int)=x.length:=by omega
    simp[PySem.Builtin.Str.strSliceIndices,h1,h2,e1]
   rw[this]
  have hl:=len_list x;rw[e,PySem.StrLaws.sliceText_to (x:=x) ⟨⋯,⋯⟩,List.drop_zero,W4 (l:=x.cps.toList) (i:=j) ⋯];show(x.cps.toList.take ((x.length:Int) - 0).toNat).toArray.toList=_;rw[W4 ⋯]
theorem uu(ha:eJ a=UN)(hb:∀c∈b,low c=UN):eJ ((a++b).take 8)=UN:=by
 have h:=(cE a).mp ha;refine(cE _).mpr ⟨by simp;omega,by simp;omega,λc hc=>?_⟩;have HD:=ă hc;rcases Ve.mp HD with m|m
 ·exact h.2.2 c m
 ·have:=hb c m;simp[low]at this;omega
theorem jb(hb:∀c∈b,low c=UN)(h1:1<=b.length)(h8:b.length<=8):eJ b=UN :=
 (cE b).mpr ⟨h1,h8,λc hc=>by have:=hb c hc;simp[low]at this;omega⟩
noncomputable def small:Str:="abcdefghijklmnopqrstuvwxyz"
theorem qP:small.cps.toList=(UX 26).map (97+·):=by decide +kernel
theorem kA(h0:0<=k)(h1:k<26):ED small.cps.toList k=UI (97+k.toNat):=by
 obtain⟨j,rfl⟩:=YR h0;refine bG ?_;rw[qP,Vi,đ ⋯];rfl
theorem qQ(h:j<26):low (97+j)=UN:=by simp[low];omega
noncomputable def l_(k:Nat):Str:=⟨#[97+k / 26,97+k % 26]⟩
theorem qR(h:k<40):eJ (l_ k).cps.toList=UN:=by
 refine jb (λc hc=>?_) (by show 1<=2;decide) (by show 2<=8;decide);have HD:c=97+k / 26\/c=97+k % 26:=by simpa[l_] using hc
 rcases HD with rfl|rfl
 ·exact qQ ⋯
 ·exact qQ ⋯
theorem kB [DecidableEq α]:∀{l m:List α},l.Nodup->(∀x∈l,x∈m)->l.length<=m.length
 |[],_,_,_=>Vo _
 |x::l,m,hn,h=>by
  obtain⟨h1,h2⟩:=Vp.mp hn;have hx:=h x Vr;have ih:=kB (l:=l) (m:=m.erase x) h2 λy hy=>(ą (by rintro rfl;exact h1 hy)).mpr (h y (Vx _ hy));rw[à hx]at ih;have:0<m.length:=í hx;rw[Vj];omega
noncomputable def bP:List Str:=(UX 40).map l_
theorem nE:bP.Nodup:=by
 decide +kernel
theorem qS(names:List Str)(h:names.length<40):∃x∈bP,x∉names:=by
 apply WI;intro GY;have:∀x∈bP,x∈names:=λx hx=>WI λhn=>GY ⟨x,hx,hn⟩;have:=kB nE this;simp[bP]at this;omega
end EO
namespace TM
open PySem L2
section
def Run(m:M α)(st:aq)(a:α)(st':aq):Prop:=m st=UI (.ok a,st')
theorem aa(h1:Run m st a st1)(h2:Run (f a) st1 b st2):Run (m >>= f) st b st2:=by
 show M.bind m f st=_;unfold M.bind;rw[show m st=_ from h1];exact h2
theorem aX:Run (pure a:M α) st a st:=rfl
theorem cy(h:o=UI a):Run (M.Eu o) st a st:=by subst h;rfl
theorem bb(h:a5 rs st):Run (aA rs) st () st:=by show aA rs st=_;unfold aA;rw[δ h]
noncomputable def kv(i:Nat)(k:Kd):Kd:=if k.root=UN then .bor i else k
theorem fW(h:st[i]?=UI (UI (k,u)))(hk:k≠.Eb:=by intro z;cases z):Run (du i) st (kv i k,u) st:=by
 show du i st=_;unfold du;rw[h];cases k<;>first|rfl|exact absurd rfl hk
theorem ae(h:st[i]?=UI (UI (.loc,u))):Run (ev Γ (.var i)) st (.loc,u) st:=fW h
theorem bj(h:st[i]?=UI (UI (.any,u))):Run (ev Γ (.var i)) st (.any,u) st:=fW h
theorem ax(h:st[i]?=UI (UI (.own,u))):Run (ev Γ (.var i)) st (.bor i,u) st:=fW h
theorem aD:Run (ev Γ (.cst u)) st (.loc,u) st:=rfl
theorem cz(h1:Run (ev Γ a) st x st1)(h2:Run (ev Γ b) st1 y st2)(h3:a5 [x,y] st2)(h4:Gb op x y=UI r):Run (ev Γ (.bin op a b)) st r st2 :=
 aa h1 (aa h2 (aa (bb h3) (cy h4)))
theorem dn(h1:Run (ev Γ a) st x st1)(h2:Run (ev Γ b) st1 y st2)(h3:a5 [x,y] st2)(h4:bo op x.2 y.2=UI c):Run (ev Γ (.cmp op a b)) st (.loc,.bl c) st2 :=
 aa h1 (aa h2 (aa (bb h3) (aa (cy h4) aX)))
theorem aW(h1:Run (ev Γ a) st x st1)(h2:Run (ev Γ b) st1 y st2)(h3:a5 [x,y] st2)(h4:gv x y.2=UI r):Run (ev Γ (.idx a b)) st r st2 :=
 aa h1 (aa h2 (aa (bb h3) (cy h4)))
theorem sy:Run (Jv Γ []) st UK st:=rfl
theorem sA(h:Run (ev Γ e) st (k,.int i) st1):Run (Jv Γ [e]) st (UI i) st1:=aa h rfl
theorem sC(h1:Run (ev Γ a) st x st1)(h2:Run (Jv Γ lo) st1 l st2)(h3:Run (Jv Γ hi) st2 h st3)(h4:a5 [x] st3)(h5:lr x l h=UI r):Run (ev Γ (.F6 a lo hi)) st r st3 :=
 aa h1 (aa h2 (aa h3 (aa (bb h4) (cy h5))))
theorem ah:Run (bL Γ []) st [] st:=rfl
theorem af(h1:Run (ev Γ e) st r st1)(h2:Run (bL Γ es) st1 rs st2):Run (bL Γ (e::es)) st (r::rs) st2:=aa h1 (aa h2 aX)
theorem cI(h1:Run (bL Γ es) st rs st1)(h2:a5 rs st1)(h3:F7 f rs=UI r):Run (ev Γ (.bi f es)) st r st1:=aa h1 (aa (bb h2) (cy h3))
theorem sD(h1:Run (bL Γ es) st rs st1)(h2:a5 rs st1)(h3:qw f rs=UI r):Run (ev Γ (.G6 f es)) st r st1:=aa h1 (aa (bb h2) (cy h3))
theorem wO(h0:Run (ev Γ a) st x st1)(h1:Run (bL Γ es) st1 rs st2)(h2:a5 (x::rs) st2)(h3:jo m x.2 rs=UI r):Run (ev Γ (.G7 m a es)) st r st2:=aa h0 (aa h1 (aa (bb h2) (cy h3)))
theorem sE(h:Γ f us=UI (.ok r))(hr:isAny r.1=UO):Run (ka Γ f us) st r st:=by
 obtain⟨k,u⟩:=r;show ka Γ f us st=_;unfold ka;rw[h];cases k<;>first|rfl|cases hr
theorem bx(h1:Run (bL Γ es) st rs st1)(h2:a5 rs st1)(h3:Γ f (rs.map (·.2))=UI (.ok r))(hr:isAny r.1=UO:=by exact rfl):Run (ev Γ (.call f es)) st r st1:=aa h1 (aa (bb h2) (sE h3 hr))
theorem kC(h1:Run (bL Γ es) st rs st1)(h2:a5 rs st1)(h3:Run (cS rs) st1 us st2)(h4:us.length<=US):Run (ev Γ (.tup es)) st (.loc,.tup us) st2:=by
 refine aa h1 (aa (bb h2) (aa h3 ?_));rw[δ h4];exact aX
theorem cU(h1:Run (bL Γ es) st rs st1)(h2:a5 rs st1)(h3:Run (cS rs) st1 us st2)(h4:us.length<=US):Run (ev Γ (.lst es)) st (.own,.lst us) st2:=by
 refine aa h1 (aa (bb h2) (aa h3 ?_));rw[δ h4];exact aX
theorem kD:Run (ev Γ (.FU r)) st (.own,if r=UN then .Fc [] else .Ee [] []) st:=rfl
theorem wQ:Run (lift (.own,u)) st u st:=rfl
theorem aU:Run (lift (.loc,u)) st u st:=rfl
theorem mf(h:EL u=UN):Run (lift (.any,u)) st u st:=by
 show(if EL u=UN then(pure u:M U) else M.fail) st=_;rw[δ h];rfl
theorem ba:Run (cS []) st [] st:=rfl
theorem bg(h1:Run (lift r) st u st1)(h2:Run (cS rs) st1 us st2):Run (cS (r::rs)) st (u::us) st2:=aa h1 (aa h2 aX)
theorem qT(h:Run (ev Γ e) st r st1):Run (gU Γ [e]) st r st1:=h
theorem BO(h:Run (ev Γ e) st (k,.bl p) st1)(h2:if p=UN then Run (gU Γ (e2::es)) st1 r st2 else st2=st1/\r=(.loc,.bl UO)):Run (gU Γ (e::e2::es)) st r st2:=by
 refine aa h ?_;cases p with
 |true=>exact h2
 |false=>obtain⟨rfl,rfl⟩:=h2;exact aX
theorem wR(h:Run (gU Γ es) st r st1):Run (ev Γ (.and es)) st r st1:=h
theorem bY(h1:Run (ev Γ a) st x st1)(h2:Run (ev Γ b) st1 y st2)(h3:a5 [x,y] st2)(h4:bo op x.2 y.2=UI c):Run (Et Γ (.cmp op a b)) st c st2:=aa h1 (aa h2 (aa (bb h3) (cy h4)))
theorem sF(h:Run (Et Γ a) st c st1):Run (Et Γ (.not a)) st (!c) st1:=aa h aX
theorem sG(h:Run (aM Γ es) st c st1):Run (Et Γ (.and es)) st c st1:=h
theorem BP(h:Run (e_ Γ es) st c st1):Run (Et Γ (.or es)) st c st1:=h
theorem dR:Run (aM Γ []) st UN st:=rfl
theorem eu(h:Run (Et Γ e) st c st1):Run (aM Γ [e]) st c st1:=h
theorem qU(h:Run (Et Γ e) st UN st1)(h2:Run (aM Γ (e2::es)) st1 c st2):Run (aM Γ (e::e2::es)) st c st2:=aa h h2
theorem wU(h:Run (Et Γ e) st UO st1):Run (aM Γ (e::e2::es)) st UO st1:=aa h aX
theorem wV(h:Run (Et Γ e) st c st1):Run (e_ Γ [e]) st c st1:=h
theorem Dk(h:Run (Et Γ e) st UN st1):Run (e_ Γ (e::e2::es)) st UN st1:=aa h aX
theorem wW(h:Run (Et Γ e) st UO st1)(h2:Run (e_ Γ (e2::es)) st1 c st2):Run (e_ Γ (e::e2::es)) st c st2:=aa h h2
theorem aY:Run (d6 i (.own,u)) st () (st.set i (UI (.own,u))):=rfl
theorem aQ:Run (d6 i (.loc,u)) st () (st.set i (UI (.loc,u))):=rfl
theorem jc:Run (d6 i (.any,u)) st () (st.set i (UI (.any,u))):=rfl
theorem Dl(h1:Run (ev Γ e) st r st1)(h2:Run (d6 i r) st1 () st2):Run (exec Γ (.set i e)) st .nx st2:=aa h1 (aa h2 aX)
theorem Dm(h0:∃k' us',st[i]?=UI (UI (k',.lst us'))/\k'≠.Eb)(h1:Run (ev Γ e) st r st1)(h2:Run (lift r) st1 u st2)(h3:st2[i]?=UI (UI (k,.lst us)))(hk:k.root=UN)(hl:us.length<US):
  Run (exec Γ (.app i e)) st .nx (st2.set i (UI (k,.lst (us++[u])))):=by
 obtain⟨k',us',h0,hn⟩:=h0;refine aa (fW h0 hn) (aa (a:=()) (st1:=st) rfl (aa h1 (aa h2 (aa (a:=()) ?_ aX))));show modS i (v5 u) st2=_;unfold modS;rw[h3];simp only[hk,μ];have e:v5 u (.lst us)=UI (.lst (us++[u])):=by show(if us.length<US then _ else _)=_;rw[δ hl]
 rw[e]
theorem Dn(h1:Run (ev Γ e) st r st1)(h2:Run (retS r) st1 f st2):Run (exec Γ (.ret e)) st f st2:=aa h1 h2
theorem hZ:Run (retS (.own,u)) st (.rt .own u) st:=rfl
theorem dq:Run (retS (.loc,u)) st (.rt .loc u) st:=rfl
theorem Dp(h:EL u=UN):Run (retS (.any,u)) st (.rt .loc u) st:=by
 show(if EL u=UN then(pure (Fl.rt .loc u):M Fl) else pure (.rt .any u)) st=_;rw[δ h];rfl
theorem pv(h:st[j]?=UI (UI (.own,u))):Run (retS (.bor j,u0)) st (.rt .own u) (st.set j UK):=by
 show(match st[j]? with|some (UI (.own,u))=>UI (Ex.ok (Fl.rt .own u),st.set j UK)|_=>UK)=_;rw[h]
theorem nF(h1:Run (Et Γ c) st UN st1)(h2:Run (execs Γ a) st1 f st2):Run (exec Γ (.ite c a b)) st f st2:=aa h1 h2
theorem qV(h1:Run (Et Γ c) st UO st1)(h2:Run (execs Γ b) st1 f st2):Run (exec Γ (.ite c a b)) st f st2:=aa h1 h2
theorem aH:Run (execs Γ []) st .nx st:=rfl
theorem fO(h1:Run (exec Γ s) st .nx st1)(h2:Run (execs Γ ss) st1 f st2):Run (execs Γ (s::ss)) st f st2:=aa h1 h2
theorem uw(h1:Run (exec Γ s) st (.rt k u) st1):Run (execs Γ (s::ss)) st (.rt k u) st1:=aa h1 aX
theorem ay(h1:Run (ev Γ e) st r st1)(h2:Run (d6 i r) st1 () st2)(h3:Run (execs Γ ss) st2 f st3):Run (execs Γ (.set i e::ss)) st f st3:=fO (Dl h1 h2) h3
theorem kF(h0:st[i]?=UI (UI (k',.lst us')))(h1:Run (ev Γ e) st r st1)(h2:Run (lift r) st1 u st2)(h3:st2[i]?=UI (UI (k,.lst us)))(hk:k.root=UN)(hl:us.length<US)
  (h4:Run (execs Γ ss) (st2.set i (UI (k,.lst (us++[u])))) f st3) (hn:k'≠.Eb:=by intro z;cases z):Run (execs Γ (.app i e::ss)) st f st3:=fO (Dm ⟨_,_,h0,hn⟩ h1 h2 h3 hk hl) h4
theorem bN(h1:Run (ev Γ e) st r st1)(h2:Run (retS r) st1 (.rt k u) st2):Run (execs Γ (.ret e::ss)) st (.rt k u) st2:=uw (Dn h1 h2)
theorem eB(h1:Run (Et Γ c) st UN st1)(h2:Run (execs Γ a) st1 .nx st2)(h3:Run (execs Γ ss) st2 f st3):Run (execs Γ (.ite c a b::ss)) st f st3:=fO (nF h1 h2) h3
theorem bB(h1:Run (Et Γ c) st UO st1)(h2:Run (execs Γ b) st1 .nx st2)(h3:Run (execs Γ ss) st2 f st3):Run (execs Γ (.ite c a b::ss)) st f st3:=fO (qV h1 h2) h3
theorem nG(h1:Run (Et Γ c) st UN st1)(h2:Run (execs Γ a) st1 (.rt k u) st2):Run (execs Γ (.ite c a b::ss)) st (.rt k u) st2:=uw (nF h1 h2)
theorem zY(h1:Run (bL Γ src) st rs st1)(h2:a5 rs st1)(h3:F0 ik rs=UI xs)(h4:oW rs is body=UN)(h5:Run (forM t is (execs Γ body) rs xs) st1 f st2):
  Run (exec Γ (.EA t is ik src body)) st f st2:=by
 refine aa h1 (aa (bb h2) (aa (cy h3) ?_));rw[δ h4];exact h5
theorem cV(h1:Run (bL Γ src) st rs st1)(h2:a5 rs st1)(h3:F0 ik rs=UI xs)(h4:oW rs is body=UN)(h5:Run (forM t is (execs Γ body) rs xs) st1 .nx st2)(h6:Run (execs Γ ss) st2 f st3):
  Run (execs Γ (.EA t is ik src body::ss)) st f st3:=fO (zY h1 h2 h3 h4 h5) h6
theorem wX(h:a5 rs st):Run (forM t is body rs []) st .nx st:=aa (bb h) aX
theorem zk(h:a5 rs st)(h1:Run (cH t is x) st () st1)(h2:Run body st1 .nx st2)(h3:Run (forM t is body rs xs) st2 f st3):Run (forM t is body rs (x::xs)) st f st3:=aa (bb h) (aa h1 (aa h2 h3))
theorem D_(h:a5 rs st)(h1:Run (cH t is x) st () st1)(h2:Run body st1 (.rt k u) st2):Run (forM t is body rs (x::xs)) st (.rt k u) st2:=aa (bb h) (aa h1 (aa h2 aX))
theorem pz(I:List (Kd×U)->aq->Prop)(hs:∀xs st,I xs st->a5 rs st)(Ļ:∀x xs st,I (x::xs) st->∃st1 st2,Run (cH t is x) st () st1/\Run body st1 .nx st2/\I xs st2):
  ∀(xs:List (Kd×U)) (st:aq),I xs st->∃st',Run (forM t is body rs xs) st .nx st'/\I [] st'
 |[],st,h=>⟨st,wX (hs _ _ h),h⟩
 |x::xs,st,h=>by
  obtain⟨s1,s2,h1,h2,h3⟩:=Ļ x xs st h;obtain⟨s3,h4,h5⟩:=pz I hs Ļ xs s2 h3;exact⟨s3,zk (hs _ _ h) h1 h2 h4,h5⟩
theorem cn(h:Run (d6 i r) st () st1):Run (cH UO [i] r) st () st1:=h
theorem aF(hn:us.length=fn.np)(hk:k=.own\/k=.loc)(hs:start us fn.ns=st0)(h:Run (execs Γ fn.body) st0 (.rt k u) st):bM Γ fn us=UI (.ok (k,u)):=by
 subst hs;unfold bM;rw[δ hn,show execs Γ fn.body (start us fn.ns)=_ from h];rcases hk with rfl|rfl<;>rfl
theorem pA{cond:M Bool}(h:a5 src st):Run (br k t cond elt src [] acc) st acc st:=aa (bb h) aX
theorem kG{cond:M Bool}(h:a5 src st)(h1:Run (cH t (UX k) x) (Vk k UK++st) () s1)(h2:Run cond s1 UN s2)(h3:Run elt s2 r s3)(h4:Run (lift r) s3 u s4)
  (hl:acc.length<US) (h5:Run (br k t cond elt src xs (acc++[u])) (s4.drop k) us st2):Run (br k t cond elt src (x::xs) acc) st us st2:=by
 refine aa (bb h) (aa (a:=UI u) (st1:=s4.drop k) ?_ ?_)
 ·show inScope k _ st=_;unfold inScope;have hh:Run (cH t (UX k) x >>= λ_=>cond >>= λb=>if b=UN then(elt >>= λr=>lift r >>= λu=>pure (UI u)) else pure UK) (Vk k UK++st) (UI u) s4 :=
   aa h1 (aa h2 (show Run (elt >>= λr=>lift r >>= λu=>pure (UI u)) s2 (UI u) s4 from aa h3 (aa (f:=λu=>pure (UI u)) h4 rfl)))
  rw[show _=_ from hh]
 ·show Run (if acc.length<US then br k t cond elt src xs (acc++[u]) else M.fail) _ _ _;rw[δ hl];exact h5
theorem qW{cond:M Bool}(h:a5 src st)(h1:Run (cH t (UX k) x) (Vk k UK++st) () s1)(h2:Run cond s1 UO s2)
  (h5:Run (br k t cond elt src xs acc) (s2.drop k) us st2):Run (br k t cond elt src (x::xs) acc) st us st2:=by
 refine aa (bb h) (aa (a:=UK) (st1:=s2.drop k) ?_ h5);show inScope k _ st=_;unfold inScope;have hh:Run (cH t (UX k) x >>= λ_=>cond >>= λb=>if b=UN then(elt >>= λr=>lift r >>= λu=>pure (UI u)) else pure UK) (Vk k UK++st) UK s2 :=
  aa h1 (aa h2 (show Run (pure UK:M (Option U)) s2 UK s2 from rfl))
 rw[show _=_ from hh]
theorem bJ{src cond:List E}(h1:Run (bL Γ src) st rs st1)(h2:a5 rs st1)(h3:F0 ik rs=UI xs)(h4:Run (br k t (aM Γ cond) (ev Γ e) rs xs []) st1 us st2):Run (ev Γ (.comp k t ik src cond e)) st (.own,.lst us) st2 :=
 aa h1 (aa (bb h2) (aa (cy h3) (aa h4 aX)))
theorem wY{cond:M Bool}(h:a5 src st)(g:Kd×U->U)(kd:Kd×U->Kd):∀(xs:List (Kd×U)) (acc:List U),acc.length+xs.length<=US ->
  (∀x∈xs,x.1=.loc\/x.1=.any)->(∀x∈xs,Run cond (UI x::st) UN (UI x::st)/\Run elt (UI x::st) (kd x,g x) (UI x::st)/\Run (lift (kd x,g x)) (UI x::st) (g x) (UI x::st))->Run (br 1 UO cond elt src xs acc) st (acc++xs.map g) st
 |[],acc,_,_,_=>by rw[Wx,V1];exact pA h
 |x::xs,acc,hl,hk,hx=>by
  obtain⟨h1,h2,h3⟩:=hx x (by simp);rw[Vj]at hl;refine kG (s1:=UI x::st) (s2:=UI x::st) (s3:=UI x::st) (s4:=UI x::st) h ?_ h1 h2 h3 ⋯ ?_
  ·obtain⟨k,u⟩:=x;rcases hk _ (Vr ..) with z|z<;>(cases z;rfl)
  ·have:=wY h g kd xs (acc++[g x]) (by simp;omega) (λy hy=>hk y (by simp[hy])) λy hy=>hx y (by simp[hy]);rw[U7];simpa using this
theorem kH{cond:M Bool}(h:a5 src st)(p:Kd×U->Bool)(g:Kd×U->U)(kd:Kd×U->Kd):∀(xs:List (Kd×U)) (acc:List U),acc.length+xs.length<=US ->
  (∀x∈xs,x.1=.loc\/x.1=.any)->(∀x∈xs,Run cond (UI x::st) (p x) (UI x::st)/\Run elt (UI x::st) (kd x,g x) (UI x::st)/\Run (lift (kd x,g x)) (UI x::st) (g x) (UI x::st))->Run (br 1 UO cond elt src xs acc) st (acc++(xs.filter p).map g) st
 |[],acc,_,_,_=>by rw[Ye,Wx,V1];exact pA h
 |x::xs,acc,hl,hk,hx=>by
  obtain⟨h1,h2,h3⟩:=hx x (by simp);rw[Vj]at hl;have ht:Run (cH UO (UX 1) x) (Vk 1 UK++st) () (UI x::st):=by
   obtain⟨k,u⟩:=x;rcases hk _ (Vr ..) with z|z<;>(cases z;rfl)
  cases hp:p x with
  |true =>
   rw[hp]at h1;refine kG (s1:=UI x::st) (s2:=UI x::st) (s3:=UI x::st) (s4:=UI x::st) h ht h1 h2 h3 ⋯ ?_;have:=kH h p g kd xs (acc++[g x]) (by simp;omega) (λy hy=>hk y (by simp[hy])) λy hy=>hx y (by simp[hy]);rw[V_,δ hp,U7];simpa using this
  |false =>
   rw[hp]at h1;refine qW (s1:=UI x::st) (s2:=UI x::st) h ht h1 ?_;have:=kH h p g kd xs acc ⋯ (λy hy=>hk y (by simp[hy])) λy hy=>hx y (by simp[hy]);rw[V_,ε (by simp[hp])];exact this
end
theorem bS(h:0<j):Gb .mod (k,.int i) (k',.int j)=UI (.loc,.int (i % j)):=by show(yC i j).map _=_;rw[yC,δ h];rfl
theorem qX(h:0<j/\j<1073741824):Gb .FZ (k,.int i) (k',.int j)=UI (.loc,.int (i / j)):=by show(yB i j).map _=_;rw[yB,δ h];rfl
theorem mD(h:(-(2 ^ 64)<i/\i<2 ^ 64)\/(-(2 ^ 64)<j/\j<2 ^ 64)):Gb .mul (k,.int i) (k',.int j)=UI (.loc,.int (i * j)):=by show(yA i j).map _=_;rw[yA,δ h];rfl
theorem mE(h:0<=j/\j<=1000000/\i.natAbs<2 ^ 64):Gb .pow (k,.int i) (k',.int j)=UI (.loc,.int (i ^ j.toNat)):=by show(yD i j).map _=_;rw[yD,δ h];rfl
theorem fZ:Gb .add (k,.int i) (k',.int j)=UI (.loc,.int (i+j)):=rfl
theorem aP(h:ED xs i=UI u):gv (k,.lst xs) (.int i)=UI (kE k,u):=by show(ED xs i).map _=_;rw[h];rfl
theorem jM(h:ED xs i=UI u):gv (k,.tup xs) (.int i)=UI (kE k,u):=by show(ED xs i).map _=_;rw[h];rfl
theorem sH:Kd.own≠Kd.Eb:=by decide
local macro_rules
 |`(tactic| sizeOf_list_dec)=>`(tactic| first|exact aH|apply ay|apply kF|apply bN|exact aD|exact ae rfl|exact bj rfl|exact ax rfl|apply cz|apply dn|apply aW|apply cI|apply bx|apply wO|apply bY|exact ah|apply af|apply kC|apply cU|exact ba|apply bg|exact aU|exact wQ|(first|exact trivial|exact⟨⟨_,rfl,rfl⟩,trivial⟩|exact⟨⟨_,rfl,rfl⟩,⟨_,rfl,rfl⟩,trivial⟩)|exact fZ|exact p_|exact bS (by first|omega|decide)|exact qX (by first|omega|decide)|exact mD (by first|omega|decide)|exact mE (by decide)|exact aQ|exact aY|exact jc|exact dq|exact hZ|exact pv rfl|exact Vo _|exact rfl|exact sH)
noncomputable def qY(c k:Int):Int:=((c % 10 ^ 15+1) * 48271+k * k * 16807+k * 7919) % 2147483647 * 69621 % 2147483629
noncomputable def uA:Fn:=⟨"_law_mix",2,3,[.set 2 (.bin .add (.bin .add (.bin .mul (.bin .add (.bin .mod (.var 0) (.bin .pow (.cst (.int 10)) (.cst (.int 15)))) (.cst (.int 1))) (.cst (.int 48271))) (.bin .mul (.bin .mul (.var 1) (.var 1)) (.cst (.int 16807)))) (.bin .mul (.var 1) (.cst (.int 7919)))),.ret (.bin .mod (.bin .mul (.bin .mod (.var 2) (.cst (.int 2147483647))) (.cst (.int 69621))) (.cst (.int 2147483629)))]⟩
theorem zl(h0:0<=k)(h1:k<2 ^ 63):bM Γ uA [.int c,.int k]=UI (.ok (.loc,.int (qY c k))):=by
 apply aF (st0:=[UI (.loc,.int c),UI (.loc,.int k),UK]) rfl (.inr rfl) rfl
 repeat' sizeOf_list_dec
noncomputable def sI:Fn:=⟨"_law_cell",2,3,[.ite (.cmp .lt (.var 1) (.bi .len [.var 0])) [.ret (.idx (.var 0) (.var 1))] [],.set 2 (.cst (.int 0)),.ite (.cmp .gt (.bi .len [.var 0]) (.cst (.int 0))) [.set 2 (.idx (.var 0) (.bin .mod (.var 1) (.bi .len [.var 0])))] [],.ret (.bin .add (.bin .mul (.cst (.int 2)) (.call "_law_mix" [.var 2,.var 1])) (.cst (.int 1)))]⟩
def wZ(Γ:Tab):Prop:=∀c k:Int,0<=k->k<2 ^ 63->Γ "_law_mix" [.int c,.int k]=UI (.ok (.loc,.int (qY c k)))
theorem w9(h:UP (i<j)=c):bo .lt (.int i) (.int j)=UI c:=by subst h;rfl
theorem pB(h:UP (j<i)=c):bo .gt (.int i) (.int j)=UI c:=by subst h;rfl
theorem gz(h:(i==j)=c):bo .eq (.int i) (.int j)=UI c:=by subst h;rfl
theorem fE:F7 .len [(k,.lst xs)]=UI (.loc,.int (xs.length:Nat)):=rfl
theorem jy:F7 .len [(k,.tup xs)]=UI (.loc,.int (xs.length:Nat)):=rfl
noncomputable def zZ(ns:List Int)(k:Nat):Int:=if k<ns.length then(ns[k]?).getD 0 else 2 * qY ((ns[k % ns.length]?).getD 0) k+1
theorem w_(hΓ:wZ Γ){k:Nat}(hk:k<2 ^ 62):bM Γ sI [.lst (ns.map .int),.int k]=UI (.ok (.loc,.int (zZ ns k))):=by
 have hm:∀c,Γ "_law_mix" [.int c,.int k]=UI (.ok (.loc,.int (qY c k))):=λc=>hΓ c k ⋯ ⋯;unfold zZ;by_cases h:k<ns.length
 ·rw[δ h];have ha:ED (ns.map U.int) (k:Int)=UI (.int ((ns[k]?).getD 0)):=bG (by simp[h]);apply aF (st0:=[UI (.any,.lst (ns.map .int)),UI (.loc,.int k),UK]) rfl (.inr rfl) rfl;apply nG
  all_goals repeat' (first|exact w9 (by simp[h])|exact aP ha|exact Dp rfl|sizeOf_list_dec)
 ·rw[ε h];have Ez:bo .lt (.int k) (.int ((ns.map U.int).length:Nat))=UI UO:=w9 (by simp;omega);by_cases hz:0<ns.length
  ·have hi:k % ns.length<ns.length:=YT _ hz;have ha:ED (ns.map U.int) ((k:Int) % ((ns.map U.int).length:Nat))=UI (.int ((ns[k % ns.length]?).getD 0)):=by
    rw[UQ,show(k:Int) % (ns.length:Nat)=((k % ns.length:Nat):Int) by omega];exact bG (by simp[hi])
   have hp:(0:Int)<((ns.map U.int).length:Nat):=by simp;omega
   apply aF (st0:=[UI (.any,.lst (ns.map .int)),UI (.loc,.int k),UK]) rfl (.inr rfl) rfl;apply bB
   all_goals repeat' (first|exact Ez|sizeOf_list_dec)
   apply eB
   all_goals repeat' (first|exact pB (by simp;omega)|exact bS hp|exact aP ha|exact hm _|sizeOf_list_dec)
  ·have e:ns=[]:=X_ ⋯;subst e;apply aF (st0:=[UI (.any,.lst ([].map .int)),UI (.loc,.int k),UK]) rfl (.inr rfl) rfl;apply bB
   all_goals repeat' (first|exact Ez|sizeOf_list_dec)
   apply bB
   all_goals repeat' (first|exact hm _|sizeOf_list_dec)
noncomputable def nI:Fn:=⟨"_law_drawn",2,5,[.set 2 (.lst []),.set 3 (.bin .FZ (.var 0) (.cst (.int 2))),.EA UO [4] .EG [.var 1] [.ite (.cmp .eq (.bin .mod (.var 0) (.cst (.int 2))) (.cst (.int 0))) [.app 2 (.bin .mod (.var 3) (.cst (.int 64))),.set 3 (.bin .FZ (.var 3) (.cst (.int 64)))] [.app 2 (.bin .mod (.bin .FZ (.call "_law_mix" [.var 0,.var 4]) (.cst (.int 7))) (.cst (.int 4096)))]],.ret (.var 2)]⟩
theorem pC(x:Kd×U):F0 .EG [x]=ud x:=rfl
theorem iK(h:n<2 ^ 62):F0 .EG [(k,.int (n:Nat))]=UI ((UX n).map λi:Nat=>(Kd.loc,U.int (0+(i:Int)))):=by
 rw[pC,ud,δ ⋯,WC]
def dS(n:Nat)(xs:List (Kd×U)):Prop:=∃i,i<=n/\xs=((UX n).drop i).map λi:Nat=>(Kd.loc,U.int (0+(i:Int)))
theorem dS.cons(h:dS n (x::xs)):∃i:Nat,i<n/\x=(.loc,.int (i:Nat))/\dS n xs/\i+xs.length+1=n:=by
 obtain⟨i,hi,e⟩:=h;by_cases Fo:i<n
 ·rw[YD (by simpa using Fo),U7]at e;cases e;refine⟨i,Fo,by simp,⟨i+1,Fo,rfl⟩,by simp;omega⟩
 ·rw[List.drop_eq_nil_of_le (by simp;omega)]at e;cases e
theorem dS.all(n:Nat):dS n ((UX n).map λi:Nat=>(Kd.loc,U.int (0+(i:Int)))):=⟨0,Vo _,rfl⟩
theorem uB(hΓ:wZ Γ)(hn:n<1000):∃ds:List Int,ds.length=n/\(∀d∈ds,0<=d)/\bM Γ nI [.int c,.int n]=UI (.ok (.own,.lst (ds.map .int))):=by
 have hsz:(1000:Nat)<=US:=by decide
 let I:List (Kd×U)->aq->Prop:=λxs st=>∃(ds:List Int) (us:List U) (left:Int) (o:Option (Kd×U)),st=[UI (.loc,.int c),UI (.loc,.int n),UI (.own,.lst us),UI (.loc,.int left),o]/\us=ds.map .int/\(∀d∈ds,0<=d)/\ds.length+xs.length=n/\dS n xs;have loop:=pz (t:=UO) (is:=[4]) (body:=execs Γ [.ite (.cmp .eq (.bin .mod (.var 0) (.cst (.int 2))) (.cst (.int 0)))
    [.app 2 (.bin .mod (.var 3) (.cst (.int 64))),
    .set 3 (.bin .FZ (.var 3) (.cst (.int 64)))]
    [.app 2 (.bin .mod (.bin .FZ (.call "_law_mix" [(.var 0),(.var 4)]) (.cst (.int 7))) (.cst (.int 4096)))]]) (rs:=[(.loc,.int n)]) I (λ_ _ _=>trivial) (λx xs st Ey=>by
  obtain⟨ds,us,left,o,e,e2,h0,hl,hr⟩:=Ey;subst e;have QF:us.length=ds.length:=by rw[e2];simp
  obtain⟨i,hi,rfl,Fg,hlen⟩:=hr.cons;have hm:Γ "_law_mix" [.int c,.int i]=UI (.ok (.loc,.int (qY c i))):=hΓ c i ⋯ ⋯;rw[Vj]at hl;by_cases hc:c % 2=0
  ·refine⟨[UI (.loc,.int c),UI (.loc,.int n),UI (.own,.lst us),UI (.loc,.int left),UI (.loc,.int i)],[UI (.loc,.int c),UI (.loc,.int n),UI (.own,.lst (us++[.int (left % 64)])),UI (.loc,.int (left / 64)),UI (.loc,.int i)],aQ,?_,⟨ds++[left % 64],_,left / 64,_,rfl,by simp[e2],?_,by simp;omega,Fg⟩⟩
   ·apply eB
    all_goals repeat' (first|exact gz (by simp[hc])|exact(by rw[QF];omega)|sizeOf_list_dec)
   ·intro d hd;rcases Ve.mp hd with z|z
    ·exact h0 d z
    ·rw[Vl.mp z];omega
  ·refine⟨[UI (.loc,.int c),UI (.loc,.int n),UI (.own,.lst us),UI (.loc,.int left),UI (.loc,.int i)],[UI (.loc,.int c),UI (.loc,.int n),UI (.own,.lst (us++[.int (qY c i / 7 % 4096)])),UI (.loc,.int left),UI (.loc,.int i)],aQ,?_,⟨ds++[qY c i / 7 % 4096],_,left,_,rfl,by simp[e2],?_,by simp;omega,Fg⟩⟩
   ·apply bB
    all_goals repeat' (first|exact gz (by simp[hc])|exact hm|exact(by rw[QF];omega)|sizeOf_list_dec)
   ·intro d hd;rcases Ve.mp hd with z|z
    ·exact h0 d z
    ·rw[Vl.mp z];omega)
 obtain⟨st',Ep,ds,us,left,o,e,e2,h0,hl,_⟩:=loop ((UX n).map λi:Nat=>(Kd.loc,U.int (0+(i:Int)))) [UI (.loc,.int c),UI (.loc,.int n),UI (.own,.lst []),UI (.loc,.int (c / 2)),UK] ⟨[],[],c / 2,UK,rfl,rfl,by simp,by simp,dS.all n⟩;subst e e2;refine⟨ds,by simpa using hl,h0,?_⟩;apply aF (st0:=[UI (.loc,.int c),UI (.loc,.int n),UK,UK,UK]) rfl (.inl rfl) rfl
 repeat' sizeOf_list_dec
 have hit:=iK (k:=.loc) (n:=n) ⋯;refine' cV (rs:=[(.loc,.int n)]) (st1:=[UI (.loc,.int c),UI (.loc,.int n),UI (.own,.lst []),UI (.loc,.int (c / 2)),UK]) _ trivial hit rfl Ep _
 all_goals repeat' sizeOf_list_dec
end TM
local macro_rules
 |`(tactic| sizeOf_list_dec)=>`(tactic| first|exact TM.aH|apply TM.ay|apply TM.kF|apply TM.bN|exact TM.aD|exact TM.ae rfl|exact TM.bj rfl|exact TM.ax rfl|apply TM.cz|apply TM.dn|apply TM.aW|apply TM.cI|apply TM.bx|apply TM.wO|apply TM.bY|exact TM.ah|apply TM.af|apply TM.kC|apply TM.cU|exact TM.ba|apply TM.bg|exact TM.aU|exact TM.wQ|(first|exact trivial|exact⟨⟨_,rfl,rfl⟩,trivial⟩|exact⟨⟨_,rfl,rfl⟩,⟨_,rfl,rfl⟩,trivial⟩)|exact TM.fZ|exact TM.p_|exact TM.bS (by first|omega|decide)|exact TM.qX (by first|omega|decide)|exact TM.mD (by first|omega|decide)|exact TM.mE (by decide)|exact TM.aQ|exact TM.aY|exact TM.jc|exact TM.dq|exact TM.hZ|exact TM.pv rfl|exact Vo _|exact rfl|exact TM.sH)
namespace TM
open PySem L2 EO
theorem sJ(h0:0<=z)(h:z<2 ^ 62):F0 .EG [(k,.int z)]=UI ((UX z.toNat).map λi:Nat=>(Kd.loc,U.int (0+(i:Int)))):=by
 rw[pC,ud,δ ⋯]
theorem jN(hx:x.length<=US)(h:ED x.cps.toList i=UI c):gv (k,.str x) (.int i)=UI (.loc,.str (EO.one c)):=by
 simp only[gv];rw[δ hx,h];rfl
theorem kI:small.length<=US:=by decide
theorem bQ{ds:List Int}(h:i<ds.length):ED (ds.map U.int) (i:Int)=UI (.int ((ds[i]?).getD 0)):=bG (by simp[h])
theorem cJ:∀(ss:List Str),strsOf (ss.map U.str)=UI ss
 |[]=>rfl
 |s::ss=>by show(strsOf (ss.map U.str)).map (s::·)=_;rw[cJ ss];rfl
noncomputable def nJ(md:E):Fn:=⟨"_law_name",2,6,[.set 2 (.cst (.str "abcdefghijklmnopqrstuvwxyz")),.set 3 (.G7 .join (.cst (.str "")) [.comp 1 UO .EG [.bin .add (.cst (.int 1)) (.bin .mod (.idx (.var 0) (.cst (.int 0))) (.cst (.int 8)))] [] (.idx (.var 3) (.bin .mod (.idx (.var 1) (.bin .add (.cst (.int 4)) (.var 0))) (.cst (.int 26))))]),.ite (.cmp .gt (.bi .len [.var 1]) (.cst (.int 0))) [.set 4 (.idx (.G7 .split (.idx (.var 1) (.bin .mod (.idx (.var 0) (.cst (.int 1))) (.bi .len [.var 1]))) [.cst (.str "/")]) (.cst (.int 0))),.ite (.cmp .eq (.bin .mod (.idx (.var 0) (.cst (.int 2))) (.cst (.int 4))) (.cst (.int 1))) [.set 3 (.F6 (.bin .add (.var 4) (.var 3)) [] [.cst (.int 8)])] [],.ite (.cmp .eq (.bin .mod (.idx (.var 0) (.cst (.int 2))) (.cst (.int 4))) (.cst (.int 2))) [.set 3 (.bin .add (.bin .add (.var 4) (.cst (.str "/"))) (.bi .str [.bin .add (.cst (.int 2)) (.bin .mod (.idx (.var 0) (.cst (.int 3))) md)]))] []] [],.set 5 (.bin .add (.lst [.var 3]) (.comp 1 UO .EG [.cst (.int 40)] [] (.bin .add (.idx (.var 3) (.bin .FZ (.var 0) (.cst (.int 26)))) (.idx (.var 3) (.bin .mod (.var 0) (.cst (.int 26))))))),.ret (.idx (.comp 1 UO .seq [.var 5] [.cmp .Eh (.var 0) (.var 2)] (.var 0)) (.cst (.int 0)))]⟩
def zm(md:E):Prop:=∀(Γ:Tab) (ds:List Int),ds.length=12->(∀d∈ds,0<=d)->∃m:Int,0<m/\m<=98/\∀o1 o2 o3 o4 o5,Run (ev Γ md) [UI (.any,.lst (ds.map .int)),o1,o2,o3,o4,o5] (.loc,.int m) [UI (.any,.lst (ds.map .int)),o1,o2,o3,o4,o5]
abbrev Dq:E:=.cst (.int 98)
theorem zo:zm Dq:=λ_ _ _ _=>⟨98,by decide,by decide,λ_ _ _ _ _=>aD⟩
section
variable{Γ:Tab}{ds:List Int}
noncomputable def dd(ds:List Int)(i:Nat):Int:=(ds[i]?).getD 0
theorem dU(h0:∀d∈ds,0<=d)(i:Nat):0<=dd ds i:=by
 unfold dd;cases e:ds[i]? with
 |none=>simp
 |some d=>exact h0 d (Vt e)
theorem nK(hd:ds.length=12)(h0:∀d∈ds,0<=d):∃cs:List Nat,(∀c∈cs,low c=UN)/\1<=cs.length/\cs.length<=8 /\
  Run (ev Γ (.comp 1 UO .EG [.bin .add (.cst (.int 1)) (.bin .mod (.idx (.var 0) (.cst (.int 0))) (.cst (.int 8)))] [] (.idx (.var 3) (.bin .mod (.idx (.var 1) (.bin .add (.cst (.int 4)) (.var 0))) (.cst (.int 26))))))
   [UI (.any,.lst (ds.map .int)),o1,UI (.loc,.str small),o3,o4,o5] (.own,.lst ((cs.map EO.one).map .str)) [UI (.any,.lst (ds.map .int)),o1,UI (.loc,.str small),o3,o4,o5]:=by
 have hz:=dU h0 0;let n:=(1+dd ds 0 % 8).toNat;have hn:n<=8/\1<=n:=by show(1+dd ds 0 % 8).toNat<=8/\1<=(1+dd ds 0 % 8).toNat;omega
 let f:Nat->Nat:=λi=>97+(dd ds (4+i) % 26).toNat;refine⟨(UX n).map f,?_,by simp;exact hn.2,by simp;exact hn.1,?_⟩
 ·intro c hc;obtain⟨i,_,rfl⟩:=Vc.mp hc;have:=dU h0 (4+i);exact qQ ⋯
 ·have hx:Run (br 1 UO (aM Γ []) (ev Γ (.idx (.var 3) (.bin .mod (.idx (.var 1) (.bin .add (.cst (.int 4)) (.var 0))) (.cst (.int 26))))) [(.loc,.int (1+dd ds 0 % 8))] ((UX n).map λi:Nat=>(Kd.loc,U.int (0+(i:Int)))) [])
    [UI (.any,.lst (ds.map .int)),o1,UI (.loc,.str small),o3,o4,o5] ([]++((UX n).map λi:Nat=>(Kd.loc,U.int (0+(i:Int)))).map λx=>match x.2 with|.int j=>.str (EO.one (97+(dd ds (4+j.toNat) % 26).toNat))|u=>u) [UI (.any,.lst (ds.map .int)),o1,UI (.loc,.str small),o3,o4,o5]:=by
   have h8:(8:Nat)<=US:=by decide
   refine wY (by exact trivial) _ (λ_=>.loc) _ _ (by simp;omega) (λx hx=>?_) (λx hx=>?_)
   ·obtain⟨i,_,rfl⟩:=Vc.mp hx;exact .inl rfl
   ·obtain⟨i,hi,rfl⟩:=Vc.mp hx;have FD:i<n:=by simpa using hi
    have ha:ED (ds.map U.int) (4+(0+(i:Int)))=UI (.int (dd ds (4+i))):=by
     rw[show(4+(0+(i:Int)))=((4+i:Nat):Int) by omega];exact bQ ⋯
    have UB:=dU h0 (4+i);have hs:=kA (k:=dd ds (4+i) % 26) ⋯ ⋯;refine⟨dR,?_,aU⟩;simp only[YW,WC];rw[YW]at ha
    repeat' (first|exact aP ha|exact jN kI hs|sizeOf_list_dec)
  have e:((UX n).map f).map EO.one=(UX n).map λi=>EO.one (97+(dd ds (4+i) % 26).toNat):=by rw[U4];rfl
  rw[e];have e2:([]++((UX n).map λi:Nat=>(Kd.loc,U.int (0+(i:Int)))).map λx=>match x.2 with|.int j=>U.str (EO.one (97+(dd ds (4+j.toNat) % 26).toNat))|u=>u)=((UX n).map λi=>EO.one (97+(dd ds (4+i) % 26).toNat)).map U.str:=by
   rw[Vb,U4,U4];apply VT;intro i _;simp
  rw[e2]at hx;refine bJ (rs:=[(.loc,.int (1+dd ds 0 % 8))]) ?_ trivial (sJ ⋯ ⋯) hx
  repeat' (first|exact aP (bQ (i:=0) ⋯)|sizeOf_list_dec)
theorem jz(h:x.length+y.length<=US):Gb .add (k,.str x) (k',.str y)=UI (.loc,.str (x++y)):=by
 simp only[Gb,ub];rw[δ h]
theorem fF:∀(ss:List Str) (n:Nat),cX n (ss.map U.str)=UN
 |[],n=>by simp[cX]
 |s::ss,n=>by simp only[U7,cX,fF ss n,Zt];cases n<;>rfl
theorem pD(x:Str):∀(ss:List Str),((ss.map U.str).any λy=>bU y (.str x))=UP (x∈ss)
 |[]=>by simp
 |s::ss=>by
  rw[U7,Zs,pD x ss];have:bU (.str s) (.str x)=UP (x=s):=by
   simp only[bU];by_cases h:x=s
   ·subst h;simp
   ·have h':s≠x:=λz=>h z.symm;simp[h,h']
  rw[this,VR];simp
theorem zp(x:Str)(ss:List Str):Ig (.str x) (ss.map U.str)=UI (UP (x∈ss)):=by
 unfold Ig;rw[δ ⟨by rfl,fF ss 50⟩,pD]
theorem kJ{x:Str}{ss:List Str}:bo .Eh (.str x) (.lst (ss.map U.str))=UI (UP (x∉ss)):=by
 show(Ig (.str x) (ss.map U.str)).map (!·)=_;rw[zp];simp
theorem pE:Run (ev Γ (.comp 1 UO .EG [.cst (.int 40)] [] (.bin .add (.idx (.var 3) (.bin .FZ (.var 0) (.cst (.int 26)))) (.idx (.var 3) (.bin .mod (.var 0) (.cst (.int 26)))))))
   [o0,o1,UI (.loc,.str small),o3,o4,o5] (.own,.lst (bP.map .str)) [o0,o1,UI (.loc,.str small),o3,o4,o5]:=by
 have h8:(100:Nat)<=US:=by decide
 have hx:Run (br 1 UO (aM Γ []) (ev Γ (.bin .add (.idx (.var 3) (.bin .FZ (.var 0) (.cst (.int 26)))) (.idx (.var 3) (.bin .mod (.var 0) (.cst (.int 26)))))) [(.loc,.int 40)] ((UX 40).map λi:Nat=>(Kd.loc,U.int (0+(i:Int)))) [])
   [o0,o1,UI (.loc,.str small),o3,o4,o5] ([]++((UX 40).map λi:Nat=>(Kd.loc,U.int (0+(i:Int)))).map λx=>match x.2 with|.int j=>.str (l_ j.toNat)|u=>u) [o0,o1,UI (.loc,.str small),o3,o4,o5]:=by
  refine wY (by exact trivial) _ (λ_=>.loc) _ _ (by simp;omega) (λx hx=>?_) (λx hx=>?_)
  ·obtain⟨i,_,rfl⟩:=Vc.mp hx;exact .inl rfl
  ·obtain⟨i,hi,rfl⟩:=Vc.mp hx;have FD:i<40:=by simpa using hi
   refine⟨dR,?_,aU⟩;simp only[YW,WC];have h1:=kA (k:=(i:Int) / 26) ⋯ ⋯;have h2:=kA (k:=(i:Int) % 26) ⋯ ⋯;have e1:((i:Int) / 26).toNat=i / 26:=by omega
   have e2:((i:Int) % 26).toNat=i % 26:=by omega
   rw[e1]at h1;rw[e2]at h2;have ad:Gb .add (.loc,.str (EO.one (97+i / 26))) (.loc,.str (EO.one (97+i % 26)))=UI (.loc,.str (l_ i)):=by
    have:=jz (k:=.loc) (k':=.loc) (x:=EO.one (97+i / 26)) (y:=EO.one (97+i % 26)) (by show 1+1<=US;omega);rw[this];rfl
   repeat' (first|exact jN kI h1|exact jN kI h2|exact ad|sizeOf_list_dec)
 have e2:([]++((UX 40).map λi:Nat=>(Kd.loc,U.int (0+(i:Int)))).map λx=>match x.2 with|.int j=>U.str (l_ j.toNat)|u=>u)=bP.map U.str:=by
  rw[Vb,U4,bP,U4];apply VT;intro i _;simp
 rw[e2]at hx;exact bJ (rs:=[(.loc,.int 40)]) (by repeat' sizeOf_list_dec) trivial (sJ ⋯ ⋯) hx
theorem uC{names ts:List Str}(hl:ts.length<=1000):Run (ev Γ (.comp 1 UO .seq [.var 5] [.cmp .Eh (.var 0) (.var 2)] (.var 0)))
   [o0,UI (.any,.lst (names.map .str)),o2,o3,o4,UI (.own,.lst (ts.map .str))] (.own,.lst ((ts.filter λx=>UP (x∉names)).map .str)) [o0,UI (.any,.lst (names.map .str)),o2,o3,o4,UI (.own,.lst (ts.map .str))]:=by
 have h8:(1000:Nat)<=US:=by decide
 have hx:=kH (cond:=aM Γ [.cmp .Eh (.var 0) (.var 2)]) (elt:=ev Γ (.var 0)) (src:=[(.bor 5,.lst (ts.map .str))]) (st:=[o0,UI (.any,.lst (names.map .str)),o2,o3,o4,UI (.own,.lst (ts.map .str))]) ⟨⟨.own,rfl,rfl⟩,trivial⟩
  (λx=>match x.2 with|.str y=>UP (y∉names)|_=>UO) (λx=>x.2) (λ_=>.loc) ((ts.map U.str).map λu=>(kE (.bor 5),u)) [] (by simp;omega) (λx hx=>by obtain⟨u,_,rfl⟩:=Vc.mp hx;exact .inl rfl) (λx hx=>by
   obtain⟨u,hu,rfl⟩:=Vc.mp hx;obtain⟨y,_,rfl⟩:=Vc.mp hu;refine⟨eu ?_,ae rfl,aU⟩
   repeat' (first|exact kJ|sizeOf_list_dec))
 have e:([]++(((ts.map U.str).map λu=>(kE (.bor 5),u)).filter λx=>match x.2 with|.str y=>UP (y∉names)|_=>UO).map λx=>x.2)=(ts.filter λx=>UP (x∉names)).map U.str:=by
  rw[Vb,Z6,Z6,U4,U4];rfl
 rw[e]at hx;exact bJ (rs:=[(.bor 5,.lst (ts.map .str))]) (by repeat' sizeOf_list_dec) ⟨⟨.own,rfl,rfl⟩,trivial⟩ rfl hx
end
section
variable{Γ:Tab}{ds:List Int}
theorem uD{names:List Str}(hn:names.length<40)(IE:cw x0.cps.toList):∃x st',cw x.cps.toList/\x∉names /\
  Run (execs Γ [.set 5 (.bin .add (.lst [.var 3]) (.comp 1 UO .EG [.cst (.int 40)] [] (.bin .add (.idx (.var 3) (.bin .FZ (.var 0) (.cst (.int 26)))) (.idx (.var 3) (.bin .mod (.var 0) (.cst (.int 26))))))),
  .ret (.idx (.comp 1 UO .seq [(.var 5)] [(.cmp .Eh (.var 0) (.var 2))] (.var 0)) (.cst (.int 0)))]) [o0,UI (.any,.lst (names.map .str)),UI (.loc,.str small),UI (.loc,.str x0),o4,UK] (.rt .loc (.str x)) st':=by
 have h8:(1000:Nat)<=US:=by decide
 obtain⟨y,hy,Ts⟩:=qS names hn;have EX:(x0::bP).filter (λx=>UP (x∉names))≠[]:=λz=>by
  have:y∈(x0::bP).filter (λx=>UP (x∉names)):=Vq.mpr ⟨Vx _ hy,by simpa using Ts⟩;rw[z]at this;cases this
 cases e:(x0::bP).filter (λx=>UP (x∉names)) with
 |nil=>exact absurd e EX
 |cons x rest =>
  have hx:x∈(x0::bP).filter (λx=>UP (x∉names)):=by rw[e];simp
  obtain⟨OX,OY⟩:=Vq.mp hx;have fr:=uC (Γ:=Γ) (names:=names) (ts:=x0::bP) (by simp[bP]) (o0:=o0) (o2:=UI (.loc,.str small)) (o3:=UI (.loc,.str x0)) (o4:=o4);rw[e]at fr;have ad:Gb .add (.own,.lst [.str x0]) (.own,.lst (bP.map U.str))=UI (.own,.lst ((x0::bP).map U.str)):=by
   simp only[Gb,ub];rw[δ ⟨by simp[bP];omega,rfl,rfl⟩];rfl
  refine⟨x,[o0,UI (.any,.lst (names.map .str)),UI (.loc,.str small),UI (.loc,.str x0),o4,UI (.own,.lst ((x0::bP).map .str))],?_,by simpa using OY,?_⟩
  ·rcases U2.mp OX with rfl|h
   ·exact IE
   ·obtain⟨k,hk,rfl⟩:=Vc.mp h;exact .inl (qR (by simpa using hk))
  ·refine ay (st2:=[o0,UI (.any,.lst (names.map .str)),UI (.loc,.str small),UI (.loc,.str x0),o4,UI (.own,.lst ((x0::bP).map .str))]) (cz (x:=(.own,.lst [.str x0])) (cU (af (ae rfl) ah) (by(first|exact trivial|exact⟨⟨_,rfl,rfl⟩,trivial⟩|exact⟨⟨_,rfl,rfl⟩,⟨_,rfl,rfl⟩,trivial⟩)) (bg aU ba) (by show 1<=US;omega)) pE trivial ad) aY ?_;refine bN (aW fr aD trivial (aP (by show ED _ ((0:Nat):Int)=_;exact bG rfl))) dq
theorem xa(LD:zm md)(hd:ds.length=12)(h0:∀d∈ds,0<=d){names:List Str}(hn:names.length<40)(hw:∀x∈names,cw x.cps.toList):
  ∃x,cw x.cps.toList/\x∉names/\bM Γ (nJ md) [.lst (ds.map .int),.lst (names.map .str)]=UI (.ok (.loc,.str x)):=by
 obtain⟨m,Kx,UC,Tt⟩:=LD Γ ds hd h0;have h8:(1000:Nat)<=US:=by decide
 obtain⟨cs,LF,Tu,QG,LG⟩:=nK (Γ:=Γ) hd h0 (o1:=UI (.any,.lst (names.map .str))) (o3:=UK) (o4:=UK) (o5:=UK);have LH:jo .join (.str "") [(.own,.lst ((cs.map EO.one).map U.str))]=UI (.loc,.str (ZQ VW (cs.map EO.one))):=by
  show(strsOf ((cs.map EO.one).map U.str)).bind _=_;rw[cJ];show(if ŕ VW (cs.map EO.one)=UN then _ else _)=_;rw[δ (pq cs ⋯)];rfl
 let x0:Str:=ZQ VW (cs.map EO.one);have IE:x0.cps.toList=cs:=join_ones cs;have Fh:eJ x0.cps.toList=UN:=by rw[IE];exact jb LF Tu QG
 have QH:x0.length<=8:=by rw[len_list,IE];exact QG
 have head:∀{f:Fl} {st':aq} (ss:List S),Run (execs Γ ss) [UI (.any,.lst (ds.map .int)),UI (.any,.lst (names.map .str)),UI (.loc,.str small),UI (.loc,.str x0),UK,UK] f st' ->
   Run (execs Γ (.set 2 (.cst (.str "abcdefghijklmnopqrstuvwxyz"))::.set 3 (.G7 .join (.cst (.str "")) [.comp 1 UO .EG [.bin .add (.cst (.int 1)) (.bin .mod (.idx (.var 0) (.cst (.int 0))) (.cst (.int 8)))] [] (.idx (.var 3) (.bin .mod (.idx (.var 1) (.bin .add (.cst (.int 4)) (.var 0))) (.cst (.int 26))))])::ss))
    [UI (.any,.lst (ds.map .int)),UI (.any,.lst (names.map .str)),UK,UK,UK,UK] f st':=λss h=>ay (r:=(.loc,.str small)) aD aQ (ay (wO aD (af LG ah) (by(first|exact trivial|exact⟨⟨_,rfl,rfl⟩,trivial⟩|exact⟨⟨_,rfl,rfl⟩,⟨_,rfl,rfl⟩,trivial⟩)) LH) aQ h)
 have mid:∀(x1:Str) (o4:Option (Kd×U)),cw x1.cps.toList->∃x st',cw x.cps.toList/\x∉names/\Run (execs Γ [.set 5 (.bin .add (.lst [.var 3]) (.comp 1 UO .EG [.cst (.int 40)] [] (.bin .add (.idx (.var 3) (.bin .FZ (.var 0) (.cst (.int 26)))) (.idx (.var 3) (.bin .mod (.var 0) (.cst (.int 26))))))),
  .ret (.idx (.comp 1 UO .seq [(.var 5)] [(.cmp .Eh (.var 0) (.var 2))] (.var 0)) (.cst (.int 0)))]) [UI (.any,.lst (ds.map .int)),UI (.any,.lst (names.map .str)),UI (.loc,.str small),UI (.loc,.str x1),o4,UK] (.rt .loc (.str x)) st':=λx1 o4 h1=>uD hn h1
 by_cases hz:0<names.length
 ·
  have hi:(dd ds 1).toNat % names.length<names.length:=YT _ hz;let nm:=names[(dd ds 1).toNat % names.length]'hi;have G9:cw nm.cps.toList:=hw _ (Xv hi);obtain⟨y,r,Gw,Ei⟩:=G9.D9;have MG:y.length<=8:=by rw[len_list];exact((cE _).mp Ei).2.1
  have OZ:nm.length<=11:=by rw[len_list];exact G9.len.2
  have J7:=dU h0 1;have Fm:ED (names.map U.str) (dd ds 1 % ((names.map U.str).length:Nat))=UI (.str nm):=by
   rw[UQ,show dd ds 1 % (names.length:Nat)=(((dd ds 1).toNat % names.length:Nat):Int) by rw[Int.natCast_emod,XD J7]];exact bG (by simp[hi];rfl)
  have JJ:jo .split (.str nm) [(.loc,.str "/")]=UI (.own,.lst ((y::r).map U.str)):=by
   show(if (Ö "/"==0)=UO/\nm.length+2<=US then UI (Kd.own,U.lst ((XO nm "/").map .str)) else UK)=_;rw[δ ⟨by decide,⋯⟩,show("/":Str)=zJ from rfl,Gw]
  have hp:(0:Int)<((names.map U.str).length:Nat):=by simp;omega
  have Tv:gv (.own,.lst ((y::r).map U.str)) (.int 0)=UI (.loc,.str y):=aP (by show ED _ ((0:Nat):Int)=_;exact bG rfl);have hd2:=dU h0 2;have UD:=dU h0 3;have i1:ED (ds.map U.int) 1=UI (.int (dd ds 1)):=bQ (i:=1) ⋯;have i2:ED (ds.map U.int) 2=UI (.int (dd ds 2)):=bQ (i:=2) ⋯;have i3:ED (ds.map U.int) 3=UI (.int (dd ds 3)):=bQ (i:=3) ⋯;have go:∀x1:Str,cw x1.cps.toList->Run (execs Γ [.ite (.cmp .eq (.bin .mod (.idx (.var 0) (.cst (.int 2))) (.cst (.int 4))) (.cst (.int 1)))
    [.set 3 (.F6 (.bin .add (.var 4) (.var 3)) [] [.cst (.int 8)])]
    [],
   .ite (.cmp .eq (.bin .mod (.idx (.var 0) (.cst (.int 2))) (.cst (.int 4))) (.cst (.int 2)))
    [.set 3 (.bin .add (.bin .add (.var 4) (.cst (.str "/"))) (.bi .str [.bin .add (.cst (.int 2)) (.bin .mod (.idx (.var 0) (.cst (.int 3))) md)]))]
    []]) [UI (.any,.lst (ds.map .int)),UI (.any,.lst (names.map .str)),UI (.loc,.str small),UI (.loc,.str x0),UI (.loc,.str y),UK] .nx [UI (.any,.lst (ds.map .int)),UI (.any,.lst (names.map .str)),UI (.loc,.str small),UI (.loc,.str x1),UI (.loc,.str y),UK] ->
    ∃x,cw x.cps.toList/\x∉names/\bM Γ (nJ md) [.lst (ds.map .int),.lst (names.map .str)]=UI (.ok (.loc,.str x)):=λx1 h1 hr=>by
   obtain⟨x,st',a1,a2,a3⟩:=mid x1 (UI (.loc,.str y)) h1;refine⟨x,a1,a2,aF (st0:=[UI (.any,.lst (ds.map .int)),UI (.any,.lst (names.map .str)),UK,UK,UK,UK]) rfl (.inr rfl) rfl (head _ (eB (st1:=[UI (.any,.lst (ds.map .int)),UI (.any,.lst (names.map .str)),UI (.loc,.str small),UI (.loc,.str x0),UK,UK]) ?_ (ay (r:=(.loc,.str y)) (st1:=[UI (.any,.lst (ds.map .int)),UI (.any,.lst (names.map .str)),UI (.loc,.str small),UI (.loc,.str x0),UK,UK]) ?_ aQ hr) a3))⟩
   ·repeat' (first|exact pB (by simp;omega)|sizeOf_list_dec)
   ·repeat' (first|exact bS hp|exact aP Fm|exact aP i1|exact JJ|exact Tv|sizeOf_list_dec)
  have t1:∀{c:Bool} {o3 o4:Option (Kd×U)},(dd ds 2 % 4==1)=c->Run (Et Γ (.cmp .eq (.bin .mod (.idx (.var 0) (.cst (.int 2))) (.cst (.int 4))) (.cst (.int 1)))) [UI (.any,.lst (ds.map .int)),UI (.any,.lst (names.map .str)),UI (.loc,.str small),o3,o4,UK] c [UI (.any,.lst (ds.map .int)),UI (.any,.lst (names.map .str)),UI (.loc,.str small),o3,o4,UK]:=λhc=>by
   repeat' (first|exact aP i2|exact gz hc|sizeOf_list_dec)
  have t2:∀{c:Bool} {o3 o4:Option (Kd×U)},(dd ds 2 % 4==2)=c->Run (Et Γ (.cmp .eq (.bin .mod (.idx (.var 0) (.cst (.int 2))) (.cst (.int 4))) (.cst (.int 2)))) [UI (.any,.lst (ds.map .int)),UI (.any,.lst (names.map .str)),UI (.loc,.str small),o3,o4,UK] c [UI (.any,.lst (ds.map .int)),UI (.any,.lst (names.map .str)),UI (.loc,.str small),o3,o4,UK]:=λhc=>by
   repeat' (first|exact aP i2|exact gz hc|sizeOf_list_dec)
  by_cases O0:dd ds 2 % 4=1
  ·have Tw:y.length+x0.length<=US:=by omega
   have Ij:lr (.loc,.str (y++x0)) UK (UI 8)=UI (.loc,.str (PySem.StrLaws.sliceText (y++x0) UK (UI 8))):=by
    simp only[lr];rw[δ (by rw[len_list];show(y.cps++x0.cps).toList.length<=_;rw[Yg,U',<-len_list,<-len_list];omega)]
   refine go (PySem.StrLaws.sliceText (y++x0) UK (UI 8)) (.inl ?_) ?_
   ·have:=BN (y++x0) 8;rw[show((8:Nat):Int)=8 from rfl]at this;rw[this];show eJ ((y.cps++x0.cps).toList.take 8)=UN;rw[Yg];exact uu Ei (by rw[IE];exact LF)
   ·refine eB (t1 (by simp[O0])) (ay (sC (cz (ae rfl) (ae rfl) trivial (jz Tw)) sy (sA aD) trivial Ij) aQ aH) (bB (t2 (by simp[O0])) aH aH)
  ·by_cases JB:dd ds 2 % 4=2
   ·have Oq:=YZ (dd ds 3) (show m≠0 by omega);have MF:=Yy (dd ds 3) Kx;have Lz:0<=2+dd ds 3 % m:=by omega
    have QI:2+dd ds 3 % m<=99:=by omega
    have Tx:=l9 Lz QI;have Jx:F7 .str [(.loc,.int (2+dd ds 3 % m))]=UI (.loc,.str (tP (2+dd ds 3 % m))):=by
     simp only[F7,gR,yE];rw[δ (by
      have:(2+dd ds 3 % m).natAbs<2 ^ 7:=by omega
      have h2:(2+dd ds 3 % m).natAbs≠0:=by omega
      have:=(Nat.log2_lt h2).mpr this;omega)]
     rfl
    have O3:(y++("/":Str)).length=y.length+1:=by rw[len_list,len_list];show(y.cps++_).toList.length=_;rw[Yg,U'];rfl
    have O4:Run (ev Γ (.bin .add (.cst (.int 2)) (.bin .mod (.idx (.var 0) (.cst (.int 3))) md))) [UI (.any,.lst (ds.map .int)),UI (.any,.lst (names.map .str)),UI (.loc,.str small),UI (.loc,.str x0),UI (.loc,.str y),UK] (.loc,.int (2+dd ds 3 % m)) [UI (.any,.lst (ds.map .int)),UI (.any,.lst (names.map .str)),UI (.loc,.str small),UI (.loc,.str x0),UI (.loc,.str y),UK]:=cz aD (cz (aW (bj rfl) aD trivial (aP i3)) (Tt _ _ _ _ _) trivial (bS Kx)) trivial fZ;refine go (y++"/"++tP (2+dd ds 3 % m)) (.inr ⟨y.cps.toList,(tP (2+dd ds 3 % m)).cps.toList,2+dd ds 3 % m,?_,Ei,⋯,QI,rfl⟩) ?_
    ·show((y.cps++#[47])++(tP _).cps).toList=_;simp
    ·refine bB (t1 (by simp[JB])) aH (eB (t2 (by simp[JB])) (ay (cz (cz (ae rfl) aD trivial (jz (by show y.length+1<=US;omega))) (cI (af O4 ah) trivial Jx) trivial (jz (by rw[O3];omega))) aQ aH) aH)
   ·refine go x0 (.inl Fh) ?_;exact bB (t1 (by simp[O0])) aH (bB (t2 (by simp[JB])) aH aH)
 ·obtain⟨x,st',a1,a2,a3⟩:=mid x0 UK (.inl Fh);refine⟨x,a1,a2,aF (st0:=[UI (.any,.lst (ds.map .int)),UI (.any,.lst (names.map .str)),UK,UK,UK,UK]) rfl (.inr rfl) rfl (head _ (bB (st1:=[UI (.any,.lst (ds.map .int)),UI (.any,.lst (names.map .str)),UI (.loc,.str small),UI (.loc,.str x0),UK,UK]) ?_ aH a3))⟩
  repeat' (first|exact pB (ζ (by simp only[UQ];omega))|sizeOf_list_dec)
end
def iL(Γ:Tab):Prop:=∀(ns:List Int) (k:Nat),k<2 ^ 62->∃z,Γ "_law_cell" [.lst (ns.map .int),.int (k:Nat)]=UI (.ok (.loc,.int z))
def fG(Γ:Tab):Prop:=∀(c:Int) (n:Nat),n<1000->∃ds:List Int,ds.length=n/\(∀d∈ds,0<=d)/\Γ "_law_drawn" [.int c,.int (n:Nat)]=UI (.ok (.own,.lst (ds.map .int)))
def xb(Γ:Tab):Prop:=∀(ds:List Int) (names:List Str),ds.length=12->(∀d∈ds,0<=d)->names.length<40->(∀x∈names,cw x.cps.toList)->∃x,cw x.cps.toList/\x∉names/\Γ "_law_name" [.lst (ds.map .int),.lst (names.map .str)]=UI (.ok (.loc,.str x))
noncomputable def fNames:Fn:=⟨"_law_names",3,5,[.set 3 (.lst []),.EA UO [4] .EG [.var 2] [.app 3 (.call "_law_name" [.call "_law_drawn" [.call "_law_cell" [.var 0,.bin .add (.var 1) (.var 4)],.cst (.int 12)],.var 3])],.ret (.var 3)]⟩
theorem uE(hc:iL Γ)(hd:fG Γ)(hn:xb Γ){ns:List Int}(hb:b<1000)(hm:m<40):
    ∃names:List Str,names.length=m/\names.Nodup/\(∀x∈names,cw x.cps.toList)/\bM Γ fNames [.lst (ns.map .int),.int (b:Nat),.int (m:Nat)]=UI (.ok (.own,.lst (names.map .str))):=by
  have hsz:(1000:Nat)<=US:=by decide
  let I:List (Kd×U)->aq->Prop:=λxs st=>∃(names:List Str) (us:List U) (o:Option (Kd×U)),st=[UI (.any,.lst (ns.map .int)),UI (.loc,.int (b:Nat)),UI (.loc,.int (m:Nat)),UI (.own,.lst us),o]/\us=names.map .str/\names.Nodup/\(∀x∈names,cw x.cps.toList)/\names.length+xs.length=m/\dS m xs;have loop:=pz (t:=UO) (is:=[4]) (body:=execs Γ [.app 3 (.call "_law_name" [.call "_law_drawn" [.call "_law_cell" [.var 0,.bin .add (.var 1) (.var 4)],.cst (.int 12)],.var 3])]) (rs:=[(.loc,.int (m:Nat))]) I (λ_ _ _=>trivial) (λx xs st Ey=>by
    obtain⟨names,us,o,e,e2,Eo,hw,hl,hr⟩:=Ey;subst e;obtain⟨i,hi,rfl,Fg,hlen⟩:=hr.cons;rw[Vj]at hl;obtain⟨z,hz⟩:=hc ns (b+i) ⋯;rw[Î]at hz;obtain⟨ds,d1,d2,d3⟩:=hd z 12 ⋯;obtain⟨x,x1,x2,x3⟩:=hn ds names d1 d2 ⋯ hw;rw[<-e2]at x3;refine⟨[UI (.any,.lst (ns.map .int)),UI (.loc,.int (b:Nat)),UI (.loc,.int (m:Nat)),UI (.own,.lst us),UI (.loc,.int (i:Nat))],[UI (.any,.lst (ns.map .int)),UI (.loc,.int (b:Nat)),UI (.loc,.int (m:Nat)),UI (.own,.lst (us++[.str x])),UI (.loc,.int (i:Nat))],aQ,?_,⟨names++[x],_,_,rfl,by simp[e2],?_,?_,by simp;omega,Fg⟩⟩
    · repeat' (first|exact hz|exact d3|exact x3|exact(by rw[e2,UQ];omega)|sizeOf_list_dec)
    · rw[VC]
      exact ⟨Eo, by simp, fun y hy w GW => by have : w = x := by simpa using GW
                                              subst this;rintro rfl;exact x2 hy⟩
    · intro y hy
      rcases Ve.mp hy with h|h
      · exact hw y h
      · rw[Vl.mp h];exact x1)
  obtain⟨st',Ep,names,us,o,e,e2,Eo,hw,hl,_⟩:=loop ((UX m).map λi:Nat=>(Kd.loc,U.int (0+(i:Int)))) [UI (.any,.lst (ns.map .int)),UI (.loc,.int (b:Nat)),UI (.loc,.int (m:Nat)),UI (.own,.lst []),UK] ⟨[],[],UK,rfl,rfl,by simp,by simp,by simp,dS.all m⟩;subst e e2;refine⟨names,by simpa using hl,Eo,hw,?_⟩;apply aF (st0:=[UI (.any,.lst (ns.map .int)),UI (.loc,.int (b:Nat)),UI (.loc,.int (m:Nat)),UK,UK]) rfl (.inl rfl) rfl
  repeat' sizeOf_list_dec
  have hit:=iK (k:=.loc) (n:=m) ⋯;refine' cV (rs:=[(.loc,.int (m:Nat))]) (st1:=[UI (.any,.lst (ns.map .int)),UI (.loc,.int (b:Nat)),UI (.loc,.int (m:Nat)),UI (.own,.lst []),UK]) _ trivial hit rfl Ep _
  all_goals repeat' sizeOf_list_dec
noncomputable def jd:Fn:=⟨"_law_told",2,6,[.set 2 (.bi .len [.var 1]),.ite (.and [.cmp .gt (.bin .mod (.idx (.var 0) (.cst (.int 2))) (.cst (.int 3))) (.cst (.int 0)),.cmp .gt (.bin .mod (.idx (.var 0) (.cst (.int 0))) (.bi .len [.var 1])) (.cst (.int 0))]) [.set 2 (.bin .mod (.idx (.var 0) (.cst (.int 0))) (.bi .len [.var 1]))] [],.set 3 (.lst []),.EA UO [4] .EG [.idx (.lst [.cst (.int 0),.cst (.int 0),.cst (.int 1),.cst (.int 1),.cst (.int 1),.cst (.int 2),.cst (.int 2),.cst (.int 2),.cst (.int 3),.cst (.int 8)]) (.bin .mod (.idx (.var 0) (.cst (.int 1))) (.cst (.int 10)))] [.set 5 (.idx (.var 1) (.bin .mod (.idx (.var 0) (.bin .add (.cst (.int 3)) (.var 4))) (.var 2))),.ite (.cmp .Eh (.var 5) (.var 3)) [.app 3 (.var 5)] []],.ret (.bi .tuple [.var 3])]⟩
theorem Ea:∀j:Nat,j<10->∃q:Nat,q<=8/\ED [U.int 0,.int 0,.int 1,.int 1,.int 1,.int 2,.int 2,.int 2,.int 3,.int 8] (j:Int)=UI (.int (q:Nat))
 |0,_=>⟨0,⋯,rfl⟩|1,_=>⟨0,⋯,rfl⟩|2,_=>⟨1,⋯,rfl⟩|3,_=>⟨1,⋯,rfl⟩|4,_=>⟨1,⋯,rfl⟩
 |5,_=>⟨2,⋯,rfl⟩|6,_=>⟨2,⋯,rfl⟩|7,_=>⟨2,⋯,rfl⟩|8,_=>⟨3,⋯,rfl⟩|9,_=>⟨8,⋯,rfl⟩
 |n+10,h=>absurd h ⋯
theorem BQ(hz:0<=z)(ht:0<t)(hl:t<=xs.length):∃x∈xs,ED xs (z % t)=UI x:=by
 have h1:=YZ z (by omega:t≠0);have h2:=Yy z ht;obtain⟨j,hj⟩:=YR h1;have GV:j<xs.length:=by omega
 refine⟨xs[j]'GV,Xv GV,?_⟩;rw[hj];exact bG (by simp[GV])
theorem sM{xs:List Str}{z t:Int}(hz:0<=z)(ht:0<t)(hl:t<=xs.length):∃x∈xs,ED (xs.map U.str) (z % t)=UI (.str x):=by
 obtain⟨u,hu,e⟩:=BQ (xs:=xs.map U.str) hz ht (by simpa using hl);obtain⟨x,hx,rfl⟩:=Vc.mp hu;exact⟨x,hx,e⟩
theorem xc{Γ:Tab}{ds:List Int}{names:List Str}(hd:11<=ds.length)(h0:∀d∈ds,0<=d)(hn:0<names.length):
    ∃told:List Str,told.length<=8/\told.Nodup/\(∀x∈told,x∈names)/\bM Γ jd [.lst (ds.map .int),.lst (names.map .str)]=UI (.ok (.loc,.tup (told.map .str))):=by
  have hsz:(1000:Nat)<=US:=by decide
  have i0:ED (ds.map U.int) 0=UI (.int (dd ds 0)):=bQ (i:=0) ⋯;have i1:ED (ds.map U.int) 1=UI (.int (dd ds 1)):=bQ (i:=1) ⋯;have i2:ED (ds.map U.int) 2=UI (.int (dd ds 2)):=bQ (i:=2) ⋯;have n0:=dU h0 0;have n1:=dU h0 1;have n2:=dU h0 2;have hp:(0:Int)<((names.map U.str).length:Nat):=by simp;omega
  have hL:((names.map U.str).length:Int)=names.length:=by simp
  have Kx:=Yy (dd ds 0) hp;have Oq:=YZ (dd ds 0) (by omega:((names.map U.str).length:Int)≠0);let B:=λ(t:Int) (us:List U) (o4 o5:Option (Kd×U))=>([UI (.any,.lst (ds.map .int)),UI (.any,.lst (names.map .str)),UI (.loc,.int t),UI (.own,.lst us),o4,o5]:aq)
  have hj:(dd ds 1 % 10).toNat<10:=by omega
  obtain⟨q,hq,Fm⟩:=Ea _ hj;rw[XD ⋯]at Fm;have main:∀t:Int,0<t->t<=names.length->∃told:List Str,told.length<=8/\told.Nodup/\(∀x∈told,x∈names)/\∃st',Run (execs Γ (jd.body.drop 2)) [UI (.any,.lst (ds.map .int)),UI (.any,.lst (names.map .str)),UI (.loc,.int t),UK,UK,UK] (.rt .loc (.tup (told.map .str))) st':=λt ht MN=>by
    let I:List (Kd×U)->aq->Prop:=λxs st=>∃(told:List Str) (us:List U) (o4 o5:Option (Kd×U)),st=B t us o4 o5/\us=told.map .str/\told.Nodup/\(∀x∈told,x∈names)/\told.length+xs.length<=q/\dS q xs;have loop:=pz (t:=UO) (is:=[4]) (body:=execs Γ [.set 5 (.idx (.var 1) (.bin .mod (.idx (.var 0) (.bin .add (.cst (.int 3)) (.var 4))) (.var 2))),
      .ite (.cmp .Eh (.var 5) (.var 3))
        [.app 3 (.var 5)]
        []]) (rs:=[(.loc,.int (q:Nat))]) I (λ_ _ _=>trivial) (λx xs st Ey=>by
      obtain⟨told,us,o4,o5,e,e2,Eo,hw,hl,hr⟩:=Ey;subst e;obtain⟨i,hi,rfl,Fg,hlen⟩:=hr.cons;rw[Vj]at hl;have ik:ED (ds.map U.int) (3+(i:Int))=UI (.int (dd ds (3+i))):=by
        rw[show(3+(i:Int))=((3+i:Nat):Int) by omega];exact bQ ⋯
      obtain⟨x,hx,QJ⟩:=sM (xs:=names) (dU h0 (3+i)) ht MN;have IK:bo .Eh (.str x) (.lst us)=UI (UP (x∉told)):=by rw[e2];exact kJ
      by_cases Fo:x∈told
      · refine⟨B t us (UI (.loc,.int (i:Nat))) o5,B t us (UI (.loc,.int (i:Nat))) (UI (.any,.str x)),aQ,?_,⟨told,us,_,_,rfl,e2,Eo,hw,⋯,Fg⟩⟩
        refine ay (r:=(.any,.str x)) (st1:=B t us (UI (.loc,.int (i:Nat))) o5) ?_ jc (bB (st1:=B t us (UI (.loc,.int (i:Nat))) (UI (.any,.str x))) ?_ aH aH)
        · repeat' (first|exact aP ik|exact bS ht|exact aP QJ|sizeOf_list_dec)
        · have:bo .Eh (.str x) (.lst us)=UI UO:=by rw[IK];simp[Fo]
          repeat' (first|exact this|sizeOf_list_dec)
      · refine⟨B t us (UI (.loc,.int (i:Nat))) o5,B t (us++[.str x]) (UI (.loc,.int (i:Nat))) (UI (.any,.str x)),aQ,?_,⟨told++[x],_,_,_,rfl,by simp[e2],?_,?_,by simp;omega,Fg⟩⟩
        · refine ay (r:=(.any,.str x)) (st1:=B t us (UI (.loc,.int (i:Nat))) o5) ?_ jc (eB (st1:=B t us (UI (.loc,.int (i:Nat))) (UI (.any,.str x))) (st2:=B t (us++[.str x]) (UI (.loc,.int (i:Nat))) (UI (.any,.str x))) ?_ ?_ aH)
          · repeat' (first|exact aP ik|exact bS ht|exact aP QJ|sizeOf_list_dec)
          · have:bo .Eh (.str x) (.lst us)=some true:=by rw[IK];simp[Fo]
            repeat' (first|exact this|sizeOf_list_dec)
          · repeat' (first|exact mf rfl|exact(by rw[e2,UQ];omega)|sizeOf_list_dec)
        · rw[VC]
          exact ⟨Eo, by simp, fun y hy w GW => by have : w = x := by simpa using GW
                                                  subst this;rintro rfl;exact Fo hy⟩
        · intro y hy
          rcases Ve.mp hy with h|h
          · exact hw y h
          · rw[Vl.mp h];exact hx)
    obtain⟨st',Ep,told,us,o4,o5,e,e2,Eo,hw,hl,_⟩:=loop ((UX q).map λi:Nat=>(Kd.loc,U.int (0+(i:Int)))) (B t [] UK UK) ⟨[],[],UK,UK,rfl,rfl,by simp,by simp,by simp,dS.all q⟩;subst e e2;refine⟨told,by simp at hl;omega,Eo,hw,?_⟩;have hit:=iK (k:=.loc) (n:=q) ⋯;refine⟨B t (told.map .str) o4 o5,ay (r:=(.own,.lst [])) (cU ah trivial ba (Vo _)) aY (cV (rs:=[(.loc,.int (q:Nat))]) (st1:=B t [] UK UK) ?_ trivial hit rfl Ep ?_)⟩
    · refine af (aW (x:=(.own,.lst [U.int 0,.int 0,.int 1,.int 1,.int 1,.int 2,.int 2,.int 2,.int 3,.int 8])) (y:=(.loc,.int (dd ds 1 % 10))) (st1:=B t [] UK UK) ?_ ?_ trivial (aP Fm)) ah
      · repeat' (first|exact(by decide:(10:Nat)<=US)|sizeOf_list_dec)
      · repeat' (first|exact aP i1|sizeOf_list_dec)
    · repeat' sizeOf_list_dec
  have fin:∀t:Int,0<t->t<=names.length->(∀{f:Fl} {st':aq},Run (execs Γ (jd.body.drop 2)) [UI (.any,.lst (ds.map .int)),UI (.any,.lst (names.map .str)),UI (.loc,.int t),UK,UK,UK] f st'->Run (execs Γ jd.body) [UI (.any,.lst (ds.map .int)),UI (.any,.lst (names.map .str)),UK,UK,UK,UK] f st') ->
      ∃told:List Str,told.length<=8/\told.Nodup/\(∀x∈told,x∈names)/\bM Γ jd [.lst (ds.map .int),.lst (names.map .str)]=UI (.ok (.loc,.tup (told.map .str))):=λt ht MN hh=>by
    obtain⟨told,a1,a2,a3,st',a4⟩:=main t ht MN;exact⟨told,a1,a2,a3,aF (st0:=[UI (.any,.lst (ds.map .int)),UI (.any,.lst (names.map .str)),UK,UK,UK,UK]) rfl (.inr rfl) rfl (hh a4)⟩
  let S0:aq:=[UI (.any,.lst (ds.map .int)),UI (.any,.lst (names.map .str)),UI (.loc,.int ((names.map U.str).length:Nat)),UK,UK,UK]
  have q1:∀{c:Bool},UP (0<dd ds 2 % 3)=c->Run (Et Γ (.cmp .gt (.bin .mod (.idx (.var 0) (.cst (.int 2))) (.cst (.int 3))) (.cst (.int 0)))) S0 c S0:=λh=>by repeat' (first|exact aP i2|exact pB h|sizeOf_list_dec)
  have q2:∀{c:Bool},UP (0<dd ds 0 % ((names.map U.str).length:Nat))=c->Run (Et Γ (.cmp .gt (.bin .mod (.idx (.var 0) (.cst (.int 0))) (.bi .len [.var 1])) (.cst (.int 0)))) S0 c S0:=λh=>by repeat' (first|exact aP i0|exact bS hp|exact pB h|sizeOf_list_dec)
  have s2:Run (ev Γ (.bi .len [.var 1])) [UI (.any,.lst (ds.map .int)),UI (.any,.lst (names.map .str)),UK,UK,UK,UK] (.loc,.int ((names.map U.str).length:Nat)) [UI (.any,.lst (ds.map .int)),UI (.any,.lst (names.map .str)),UK,UK,UK,UK]:=by repeat' sizeOf_list_dec
  have s3:Run (ev Γ (.bin .mod (.idx (.var 0) (.cst (.int 0))) (.bi .len [.var 1]))) S0 (.loc,.int (dd ds 0 % ((names.map U.str).length:Nat))) S0:=by repeat' (first|exact aP i0|exact bS hp|sizeOf_list_dec)
  by_cases c1:0<dd ds 2 % 3
  · by_cases c2:0<dd ds 0 % ((names.map U.str).length:Nat)
    · exact fin (dd ds 0 % ((names.map U.str).length:Nat)) c2 ⋯ λh=>ay s2 aQ (eB (sG (qU (q1 (η c1)) (eu (q2 (η c2))))) (ay s3 aQ aH) h)
    · exact fin ((names.map U.str).length:Nat) hp ⋯ λh=>ay s2 aQ (bB (sG (qU (q1 (η c1)) (eu (q2 (ζ c2))))) aH h)
  · exact fin ((names.map U.str).length:Nat) hp ⋯ λh=>ay s2 aQ (bB (sG (wU (q1 (ζ c1)))) aH h)
theorem sN(h1:Run (ev Γ ve) st rv st1)(h2:st1[i]?=UI (UI (k',u')))(h3:Run (ev Γ ke) st1 rk st2)(h4:Run (cS [rv,rk]) st2 [uv,uk] st3)(h5:st3[i]?=UI (UI (k,u0)))(hk:k.root=UN)(h6:dv uk uv u0=UI u1)
  (h7:Run (execs Γ ss) (st3.set i (UI (k,u1))) f JW) (hn:k'≠.Eb:=by intro z;cases z):Run (execs Γ (.put i ke ve::ss)) st f JW:=by
 refine fO (aa h1 (aa (fW h2 hn) (aa h3 (aa h4 (aa (a:=()) (st1:=st3.set i (UI (k,u1))) ?_ aX))))) h7;show modS i (rV [uv,uk]) st3=_;unfold modS;rw[h5];simp only[hk,μ];show(match dv uk uv u0 with|some u'=>_|none=>UK)=_;rw[h6]
abbrev Row:=Str×List Str
noncomputable def B'(r:Row):U:=.tup [.str r.1,.tup (r.2.map .str)]
noncomputable def keyOf(r:Row):Row:=(r.1,av r.2)
theorem mj(r:Row):rowOf (B' r)=UI r:=by
 show(strsOf (r.2.map U.str)).map _=_;rw[cJ];rfl
theorem sorted_strs(h:ss.length<64):F7 .sorted [(k,.tup (ss.map .str))]=UI (.own,.lst ((av ss).map .str)):=by
 show(strsOf (ss.map U.str)).bind _=_;rw[cJ];show(if ss.length<64 then _ else _)=_;rw[δ h]
noncomputable def xf:Fn:=⟨"_law_book",4,10,[.set 4 (.lst []),.set 5 (.FU UN),.EA UO [6] .EG [.var 3] [.set 7 (.call "_law_drawn" [.call "_law_cell" [.var 0,.bin .add (.var 1) (.var 6)],.cst (.int 11)]),.set 8 (.tup [.idx (.var 2) (.bin .mod (.idx (.var 7) (.cst (.int 0))) (.bi .len [.var 2])),.call "_law_told" [.var 7,.var 2]]),.set 9 (.tup [.idx (.var 8) (.cst (.int 0)),.bi .tuple [.bi .sorted [.idx (.var 8) (.cst (.int 1))]]]),.ite (.cmp .Eh (.var 9) (.var 5)) [.put 5 (.var 9) (.cst (.bl UN)),.app 4 (.var 8)] []],.ret (.bi .tuple [.var 4])]⟩
def xg(Γ:Tab):Prop:=∀(ds:List Int) (names:List Str),11<=ds.length->(∀d∈ds,0<=d)->0<names.length ->
 ∃told:List Str,told.length<=8/\told.Nodup/\(∀x∈told,x∈names)/\Γ "_law_told" [.lst (ds.map .int),.lst (names.map .str)]=UI (.ok (.loc,.tup (told.map .str)))
structure cA(names:List Str)(r:Row):Prop where
 word:r.1∈names
 GZ:r.2.length<=8
 once:r.2.Nodup
 told:∀x∈r.2,x∈names
theorem xh(hc:iL Γ)(hd:fG Γ)(ht:xg Γ){ns:List Int}(hn:0<names.length)(hb:b<1000)(hm:m<1000):
    ∃rows:List Row,rows.length<=m/\(rows.map keyOf).Nodup/\(∀r∈rows,cA names r)/\bM Γ xf [.lst (ns.map .int),.int (b:Nat),.lst (names.map .str),.int (m:Nat)]=UI (.ok (.loc,.tup (rows.map B'))):=by
  have hsz:(1000:Nat)<=US:=by decide
  let B:=λ(us:List U) (ks:List lh) (o6 o7 o8 o9:Option (Kd×U))=>([UI (.any,.lst (ns.map .int)),UI (.loc,.int (b:Nat)),UI (.any,.lst (names.map .str)),UI (.loc,.int (m:Nat)),UI (.own,.lst us),UI (.own,.Fc ks),o6,o7,o8,o9]:aq)
  let I:List (Kd×U)->aq->Prop:=λxs st=>∃(rows:List Row) (us:List U) (ks:List lh) (o6 o7 o8 o9:Option (Kd×U)),st=B us ks o6 o7 o8 o9/\us=rows.map B'/\ks=rows.map keyOf/\ks.Nodup/\(∀r∈rows,cA names r)/\rows.length+xs.length<=m/\dS m xs;have hp:(0:Int)<((names.map U.str).length:Nat):=by simp;omega
  have loop:=pz (t:=UO) (is:=[6]) (body:=execs Γ [.set 7 (.call "_law_drawn" [.call "_law_cell" [.var 0,.bin .add (.var 1) (.var 6)],.cst (.int 11)]),
      .set 8 (.tup [.idx (.var 2) (.bin .mod (.idx (.var 7) (.cst (.int 0))) (.bi .len [.var 2])),.call "_law_told" [.var 7,.var 2]]),
      .set 9 (.tup [.idx (.var 8) (.cst (.int 0)),.bi .tuple [.bi .sorted [.idx (.var 8) (.cst (.int 1))]]]),
      .ite (.cmp .Eh (.var 9) (.var 5))
        [.put 5 (.var 9) (.cst (.bl UN)),
        .app 4 (.var 8)]
        []]) (rs:=[(.loc,.int (m:Nat))]) I (λ_ _ _=>trivial) (λx xs st Ey=>by
    obtain⟨rows,us,ks,o6,o7,o8,o9,e,e2,e3,Eo,hw,hl,hr⟩:=Ey;subst e;obtain⟨i,hi,rfl,Fg,hlen⟩:=hr.cons;rw[Vj]at hl;obtain⟨z,hz⟩:=hc ns (b+i) ⋯;rw[Î]at hz;obtain⟨ds,d1,d2,d3⟩:=hd z 11 ⋯;obtain⟨told,t1,t2,t3,t4⟩:=ht ds names ⋯ d2 hn;have i0:ED (ds.map U.int) 0=UI (.int (dd ds 0)):=bQ (i:=0) ⋯;obtain⟨nm,G9,Om⟩:=sM (xs:=names) (t:=((names.map U.str).length:Nat)) (dU d2 0) hp (by simp);have E8:cA names (nm,told):=⟨G9,t1,t2,t3⟩
    have j0:gv (.loc,B' (nm,told)) (.int 0)=UI (.loc,.str nm):=rfl;have j1:gv (.loc,B' (nm,told)) (.int 1)=UI (.loc,.tup (told.map .str)):=rfl;have Tz:=sorted_strs (k:=.loc) (ss:=told) ⋯;let i6:Option (Kd×U):=UI (.loc,.int (i:Nat));let i7:Option (Kd×U):=UI (.own,.lst (ds.map .int));let i8:Option (Kd×U):=UI (.loc,B' (nm,told));let i9:Option (Kd×U):=UI (.loc,B' (keyOf (nm,told)));have g7:Run (ev Γ (.call "_law_drawn" [.call "_law_cell" [.var 0,.bin .add (.var 1) (.var 6)],.cst (.int 11)])) (B us ks i6 o7 o8 o9) (.own,.lst (ds.map .int)) (B us ks i6 o7 o8 o9):=by repeat' (first|exact hz|exact d3|sizeOf_list_dec)
    have g8:Run (ev Γ (.tup [.idx (.var 2) (.bin .mod (.idx (.var 7) (.cst (.int 0))) (.bi .len [.var 2])),.call "_law_told" [.var 7,.var 2]])) (B us ks i6 i7 o8 o9) (.loc,B' (nm,told)) (B us ks i6 i7 o8 o9):=by
      repeat' (first|exact aP i0|exact bS hp|exact aP Om|exact t4|exact mf rfl|exact(by decide:(2:Nat)<=US)|sizeOf_list_dec)
    have g9:Run (ev Γ (.tup [.idx (.var 8) (.cst (.int 0)),.bi .tuple [.bi .sorted [.idx (.var 8) (.cst (.int 1))]]])) (B us ks i6 i7 i8 o9) (.loc,B' (keyOf (nm,told))) (B us ks i6 i7 i8 o9):=by
      repeat' (first|exact j0|exact j1|exact Tz|exact(by decide:(2:Nat)<=US)|sizeOf_list_dec)
    have IK:bo .Eh (B' (keyOf (nm,told))) (.Fc ks)=UI (UP (keyOf (nm,told)∉ks)):=by
      show(((rowOf (B' (keyOf (nm,told)))).map λr=>UP (r∈ks))).map (!·)=_;rw[mj];simp
    by_cases Fo:keyOf (nm,told)∈ks
    · refine⟨B us ks i6 o7 o8 o9,B us ks i6 i7 i8 i9,aQ,ay g7 aY (ay g8 aQ (ay g9 aQ (bB ?_ aH aH))),⟨rows,us,ks,_,_,_,_,rfl,e2,e3,Eo,hw,⋯,Fg⟩⟩
      have:bo .Eh (B' (keyOf (nm,told))) (.Fc ks)=UI UO:=by rw[IK];simp[Fo]
      exact bY (ae rfl) (ax rfl) ⟨⟨.own,rfl,rfl⟩,trivial⟩ this
    · refine⟨B us ks i6 o7 o8 o9,B (us++[B' (nm,told)]) (ks++[keyOf (nm,told)]) i6 i7 i8 i9,aQ,ay g7 aY (ay g8 aQ (ay g9 aQ (eB (st1:=B us ks i6 i7 i8 i9) (st2:=B (us++[B' (nm,told)]) (ks++[keyOf (nm,told)]) i6 i7 i8 i9) ?_ ?_ aH))),⟨rows++[(nm,told)],_,_,_,_,_,_,rfl,by simp[e2],by simp[e3],?_,?_,by simp;omega,Fg⟩⟩
      · have:bo .Eh (B' (keyOf (nm,told))) (.Fc ks)=UI UN:=by rw[IK];simp[Fo]
        exact bY (ae rfl) (ax rfl) ⟨⟨.own,rfl,rfl⟩,trivial⟩ this
      · have JK:dv (B' (keyOf (nm,told))) (.bl UN) (.Fc ks)=UI (.Fc (ks++[keyOf (nm,told)])):=by
          show(match rowOf (B' (keyOf (nm,told))),U.bl UN with|some r,.bl UN=>if r∉ks/\ks.length<=1000 then UI (U.Fc (ks++[r])) else UK|_,_=>UK)=_;rw[mj];show(if keyOf (nm,told)∉ks/\ks.length<=1000 then _ else _)=_;rw[δ ⟨Fo,by rw[e3,UQ];omega⟩]
        exact sN (st1:=B us ks i6 i7 i8 i9) (st2:=B us ks i6 i7 i8 i9) (st3:=B us ks i6 i7 i8 i9) (k:=.own) (k':=.own) aD rfl (ae rfl) (bg aU (bg aU ba)) rfl rfl JK
          (kF (st1:=B us (ks++[keyOf (nm,told)]) i6 i7 i8 i9) (st2:=B us (ks++[keyOf (nm,told)]) i6 i7 i8 i9) (k:=.own) (k':=.own) (us:=us) (us':=us) rfl (ae rfl) aU rfl rfl (by rw[e2,UQ];omega) aH)
      · rw[VC]
        exact ⟨Eo, by simp, fun y hy w GW => by have : w = keyOf (nm, told) := by simpa using GW
                                                subst this;rintro rfl;exact Fo hy⟩
      · intro y hy
        rcases Ve.mp hy with h|h
        · exact hw y h
        · rw[Vl.mp h];exact E8)
  obtain⟨st',Ep,rows,us,ks,o6,o7,o8,o9,e,e2,e3,Eo,hw,hl,_⟩:=loop ((UX m).map λi:Nat=>(Kd.loc,U.int (0+(i:Int)))) (B [] [] UK UK UK UK) ⟨[],[],[],UK,UK,UK,UK,rfl,rfl,rfl,by simp,by simp,by simp,dS.all m⟩;subst e e2 e3;refine⟨rows,by simpa using hl,Eo,hw,?_⟩;have hit:=iK (k:=.loc) (n:=m) ⋯;exact aF (st0:=[UI (.any,.lst (ns.map .int)),UI (.loc,.int (b:Nat)),UI (.any,.lst (names.map .str)),UI (.loc,.int (m:Nat)),UK,UK,UK,UK,UK,UK]) rfl (.inr rfl) rfl
    (ay (r:=(.own,.lst [])) (cU ah trivial ba (Vo _)) aY (ay (r:=(.own,.Fc [])) kD aY (cV (rs:=[(.loc,.int (m:Nat))]) (st1:=B [] [] UK UK UK UK) (af (ae rfl) ah) trivial hit rfl Ep
      (bN (cI (af (ax rfl) ah) ⟨⟨.own,rfl,rfl⟩,trivial⟩ rfl) dq))))
def nL(Γ:Tab):Prop:=∀(ns:List Int) (b m:Nat),b<1000->m<40->∃names:List Str,names.length=m/\names.Nodup/\(∀x∈names,cw x.cps.toList)/\Γ "_law_names" [.lst (ns.map .int),.int (b:Nat),.int (m:Nat)]=UI (.ok (.own,.lst (names.map .str)))
def xi(Γ:Tab):Prop:=∀(ns:List Int) (names:List Str) (b m:Nat),0<names.length->b<1000->m<1000 ->
 ∃rows:List Row,rows.length<=m/\(rows.map keyOf).Nodup/\(∀r∈rows,cA names r)/\Γ "_law_book" [.lst (ns.map .int),.int (b:Nat),.lst (names.map .str),.int (m:Nat)]=UI (.ok (.loc,.tup (rows.map B')))
noncomputable def xj:Fn:=⟨"_law_made",1,3,[.set 1 (.call "_law_drawn" [.call "_law_cell" [.var 0,.cst (.int 0)],.cst (.int 4)]),.set 2 (.call "_law_names" [.var 0,.cst (.int 1),.bin .add (.cst (.int 1)) (.bin .mod (.idx (.var 1) (.cst (.int 0))) (.cst (.int 14)))]),.ret (.call "_law_book" [.var 0,.cst (.int 20),.var 2,.bin .mod (.idx (.var 1) (.cst (.int 1))) (.cst (.int 41))])]⟩
theorem xk(hc:iL Γ)(hd:fG Γ)(hn:nL Γ)(hb:xi Γ)(ns:List Int):∃(names:List Str) (rows:List Row),0<names.length/\names.length<=14/\names.Nodup/\(∀x∈names,cw x.cps.toList) /\
  rows.length<=40/\(rows.map keyOf).Nodup/\(∀r∈rows,cA names r)/\bM Γ xj [.lst (ns.map .int)]=UI (.ok (.loc,.tup (rows.map B'))):=by
 obtain⟨z,hz⟩:=hc ns 0 ⋯;obtain⟨ds,d1,d2,d3⟩:=hd z 4 ⋯;have i0:ED (ds.map U.int) 0=UI (.int (dd ds 0)):=bQ (i:=0) ⋯;have i1:ED (ds.map U.int) 1=UI (.int (dd ds 1)):=bQ (i:=1) ⋯;have n0:=dU d2 0;have n1:=dU d2 1;obtain⟨names,a1,a2,a3,a4⟩:=hn ns 1 (1+dd ds 0 % 14).toNat ⋯ ⋯;rw[XD ⋯]at a4;obtain⟨rows,b1,b2,b3,b4⟩:=hb ns names 20 (dd ds 1 % 41).toNat ⋯ ⋯ ⋯;rw[XD ⋯]at b4;refine⟨names,rows,⋯,⋯,a2,a3,⋯,b2,b3,?_⟩;apply aF (st0:=[UI (.any,.lst (ns.map .int)),UK,UK]) rfl (.inr rfl) rfl
 repeat' (first|exact hz|exact d3|exact aP i0|exact aP i1|exact a4|exact b4|sizeOf_list_dec)
section
def E6(Pg:List Fn)(f:Str)(fn:Fn):Prop:=(Pg.find? λg=>UP (g.name=f))=UI fn
theorem aG(h:E6 Pg f fn)(us:List U):EI Pg (d+1) f us=bM (EI Pg d) fn us:=by
 show(match Pg.find? λg=>UP (g.name=f) with|some fn=>bM (EI Pg d) fn us|none=>UK)=_;rw[show _=UI fn from h]
theorem z_(h:E6 Pg "_law_mix" uA):wZ (EI Pg (d+1)):=λc k h0 h1=>by rw[aG h];exact zl h0 h1
theorem iM(h:E6 Pg "_law_mix" uA)(h2:E6 Pg "_law_cell" sI):iL (EI Pg (d+2)):=λns k hk=>⟨_,by rw[aG h2];exact w_ (z_ h) hk⟩
theorem drawnOk(h:E6 Pg "_law_mix" uA)(h2:E6 Pg "_law_drawn" nI):fG (EI Pg (d+2)):=λc n hn=>by
 obtain⟨ds,a,b,e⟩:=uB (z_ (d:=d) h) (c:=c) hn;exact⟨ds,a,b,by rw[aG h2];exact e⟩
theorem BR(LD:zm md)(h:E6 Pg "_law_name" (nJ md)):xb (EI Pg (d+1)):=λds names a b c e=>by
 obtain⟨x,p,q,r⟩:=xa (Γ:=EI Pg d) LD a b c e;exact⟨x,p,q,by rw[aG h];exact r⟩
theorem BS(h:E6 Pg "_law_told" jd):xg (EI Pg (d+1)):=λds names a b c=>by
 obtain⟨x,p,q,r,s⟩:=xc (Γ:=EI Pg d) a b c;exact⟨x,p,q,r,by rw[aG h];exact s⟩
structure cB(md:E)(Pg:List Fn):Prop where
 mix:E6 Pg "_law_mix" uA
 cell:E6 Pg "_law_cell" sI
 drawn:E6 Pg "_law_drawn" nI
 name:E6 Pg "_law_name" (nJ md)
 names:E6 Pg "_law_names" fNames
 told:E6 Pg "_law_told" jd
 book:E6 Pg "_law_book" xf
theorem cB.iM(M:cB md Pg):iL (EI Pg (d+2)):=TM.iM M.mix M.cell
theorem cB.drawnOk(M:cB md Pg):fG (EI Pg (d+2)):=TM.drawnOk M.mix M.drawn
theorem cB.xl(LD:zm md)(M:cB md Pg):nL (EI Pg (d+3)):=λns b m hb hm=>by
 obtain⟨names,p,q,r,s⟩:=uE (Γ:=EI Pg (d+2)) M.iM M.drawnOk (TM.BR LD M.name) (ns:=ns) hb hm;exact⟨names,p,q,r,by rw[aG M.names];exact s⟩
abbrev xm(Pg:List Fn):Prop:=cB Dq Pg
theorem cB.namesOk(M:xm Pg):nL (EI Pg (d+3)):=cB.xl zo M
theorem cB.BU(M:cB md Pg):xi (EI Pg (d+3)):=λns names b m hn hb hm=>by
 obtain⟨rows,p,q,r,s⟩:=xh (Γ:=EI Pg (d+2)) M.iM M.drawnOk (TM.BS M.told) (ns:=ns) hn hb hm;exact⟨rows,p,q,r,by rw[aG M.book];exact s⟩
end
section
theorem mn(h:Run (execs Γ (a++ss)) st f st2):(∃s1,Run (execs Γ a) st .nx s1/\Run (execs Γ ss) s1 f st2)\/(Run (execs Γ a) st f st2/\f≠.nx):=by
 induction a generalizing st with
 |nil=>exact .inl ⟨st,aH,h⟩
 |cons s a ih =>
  have h':M.bind (exec Γ s) (λf=>match f with|.nx=>execs Γ (a++ss)|f=>pure f) st=UI (.ok f,st2):=h;unfold M.bind at h';cases e:exec Γ s st with
  |none=>rw[e]at h';cases h'
  |some p =>
   obtain⟨x,s1⟩:=p;rw[e]at h';cases x with
   |exc c=>cases h'
   |ok g =>
    cases g with
    |nx =>
     rcases ih h' with⟨s2,h1,h2⟩|⟨h1,h2⟩
     ·exact .inl ⟨s2,fO e h1,h2⟩
     ·exact .inr ⟨fO e h1,h2⟩
    |rt k u=>cases h';exact .inr ⟨uw e,λz=>nomatch z⟩
    |bk=>cases h';exact .inr ⟨aa (show Run (exec Γ s) st Fl.bk _ from e) aX,λz=>nomatch z⟩
    |ct=>cases h';exact .inr ⟨aa (show Run (exec Γ s) st Fl.ct _ from e) aX,λz=>nomatch z⟩
theorem Dr(h1:Run (exec Γ s) st f st1)(hf:f≠.nx):Run (execs Γ (s::ss)) st f st1:=by
 cases f with
 |nx=>exact absurd rfl hf
 |rt k u=>exact uw h1
 |_=>exact aa h1 aX
theorem fj(h1:Run (Et Γ c) st p st1)(hT:p=UN->Run (execs Γ (a++ss)) st1 f st2)(hF:p=UO->Run (execs Γ (b++ss)) st1 f st2):Run (execs Γ (.ite c a b::ss)) st f st2:=by
 cases p with
 |true =>
  rcases mn (hT rfl) with⟨s1,h2,h3⟩|⟨h2,h3⟩
  ·exact fO (nF h1 h2) h3
  ·exact Dr (nF h1 h2) h3
 |false =>
  rcases mn (hF rfl) with⟨s1,h2,h3⟩|⟨h2,h3⟩
  ·exact fO (qV h1 h2) h3
  ·exact Dr (qV h1 h2) h3
theorem nM(h:Run (ev Γ e) st (k,.bl p) st)(h2:p=UN->Run (gU Γ (e2::es)) st (.loc,.bl q) st):Run (gU Γ (e::e2::es)) st (.loc,.bl (p&&q)) st:=by
 refine BO h ?_;cases p with
 |true=>rw[δ rfl];exact h2 rfl
 |false=>rw[ε Vw];exact⟨rfl,rfl⟩
theorem Aa(h:Run (Et Γ e) st p st)(h2:p=UO->Run (e_ Γ (e2::es)) st q st):Run (e_ Γ (e::e2::es)) st (p||q) st:=by
 cases p with
 |true=>exact Dk h
 |false=>exact wW h (h2 rfl)
theorem BV(h:Run (Et Γ e) st p st)(h2:p=UN->Run (aM Γ (e2::es)) st q st):Run (aM Γ (e::e2::es)) st (p&&q) st:=by
 cases p with
 |true=>exact qU h (h2 rfl)
 |false=>exact wU h
theorem dH{cond:M Bool}(h:a5 src st)(k:Kd)(hk:k=.loc\/k=.any)(enc g:α->U)(kd:Kd)(hc:∀y,Run cond (UI (k,enc y)::st) UN (UI (k,enc y)::st)):∀(ys:List α) (acc:List U),acc.length+ys.length<=US ->
  (∀y∈ys,Run elt (UI (k,enc y)::st) (kd,g y) (UI (k,enc y)::st)/\Run (lift (kd,g y)) (UI (k,enc y)::st) (g y) (UI (k,enc y)::st))->Run (br 1 UO cond elt src (ys.map λy=>(k,enc y)) acc) st (acc++ys.map g) st
 |[],acc,_,_=>by rw[Wx,Wx,V1];exact pA h
 |y::ys,acc,hl,hx=>by
  obtain⟨h2,h3⟩:=hx y (by simp);rw[Vj]at hl;refine kG (s1:=UI (k,enc y)::st) (s2:=UI (k,enc y)::st) (s3:=UI (k,enc y)::st) (s4:=UI (k,enc y)::st) h ?_ (hc y) h2 h3 ⋯ ?_
  ·rcases hk with rfl|rfl
   ·exact cn aQ
   ·exact cn jc
  ·have:=dH h k hk enc g kd hc ys (acc++[g y]) (by simp;omega) λz hz=>hx z (by simp[hz]);rw[U7];simpa using this
theorem kK{cond:M Bool}(h:a5 src st)(k:Kd)(hk:k=.loc\/k=.any)(enc g:α->U)(p:α->Bool)(kd:Kd):∀(ys:List α) (acc:List U),acc.length+ys.length<=US ->
  (∀y∈ys,Run cond (UI (k,enc y)::st) (p y) (UI (k,enc y)::st)/\(p y=UN->Run elt (UI (k,enc y)::st) (kd,g y) (UI (k,enc y)::st)/\Run (lift (kd,g y)) (UI (k,enc y)::st) (g y) (UI (k,enc y)::st)))->Run (br 1 UO cond elt src (ys.map λy=>(k,enc y)) acc) st (acc++(ys.filter p).map g) st
 |[],acc,_,_=>by rw[Wx,Ye,Wx,V1];exact pA h
 |y::ys,acc,hl,hx=>by
  obtain⟨h1,TB⟩:=hx y (by simp);rw[Vj]at hl;have ht:Run (cH UO (UX 1) (k,enc y)) (Vk 1 UK++st) () (UI (k,enc y)::st):=by
   rcases hk with rfl|rfl
   ·exact cn aQ
   ·exact cn jc
  cases hp:p y with
  |true =>
   rw[hp]at h1;obtain⟨h2,h3⟩:=TB hp;refine kG (s1:=UI (k,enc y)::st) (s2:=UI (k,enc y)::st) (s3:=UI (k,enc y)::st) (s4:=UI (k,enc y)::st) h ht h1 h2 h3 ⋯ ?_;have:=kK h k hk enc g p kd ys (acc++[g y]) (by simp;omega) λz hz=>hx z (by simp[hz]);rw[V_,δ hp,U7];simpa using this
  |false =>
   rw[hp]at h1;refine qW (s1:=UI (k,enc y)::st) (s2:=UI (k,enc y)::st) h ht h1 ?_;have:=kK h k hk enc g p kd ys acc ⋯ λz hz=>hx z (by simp[hz]);rw[V_,ε (by simp[hp])];exact this
theorem cM(it:α->Kd×U)(I:List α->List α->aq->Prop)(hs:∀d r st,I d r st->a5 rs st)
  (Ļ:∀d y r st,I d (y::r) st->∃st1 st2,Run (cH t is (it y)) st () st1/\Run body st1 .nx st2/\I (d++[y]) r st2):∀(r d:List α) (st:aq),I d r st->∃st',Run (forM t is body rs (r.map it)) st .nx st'/\I (d++r) [] st'
 |[],d,st,h=>⟨st,wX (hs _ _ _ h),by rw[V1];exact h⟩
 |y::r,d,st,h=>by
  obtain⟨s1,s2,h1,h2,h3⟩:=Ļ d y r st h;obtain⟨s3,h4,h5⟩:=cM it I hs Ļ r (d++[y]) s2 h3;exact⟨s3,zk (hs _ _ _ h) h1 h2 h4,by simpa using h5⟩
theorem nN(h1:Run (bL Γ es) st rs st1)(h2:a5 rs st1)(h3:Γ f (rs.map (·.2))=UI (.ok r))(h4:lu r.2=UI b)(hr:isAny r.1=UO:=by exact rfl):Run (Et Γ (.call f es)) st b st1:=aa h1 (aa (bb h2) (aa (sE h3 hr) (cy h4)))
theorem xn(h:Run (ev Γ (.bi f es)) st (k,.bl b) st1):Run (Et Γ (.bi f es)) st b st1:=by
 have h':(bL Γ es >>= λrs=>aA rs >>= λ_=>M.Eu (F7 f rs)) st=UI (.ok (k,.bl b),st1):=h;obtain⟨rs,s1,e1,e2,s2,e3,r,s3,e4,e5⟩:∃rs s1,bL Γ es st=UI (.ok rs,s1)/\∃(a:Unit) (s2:aq),aA rs s1=UI (.ok a,s2)/\∃r s3,M.Eu (F7 f rs) s2=UI (.ok r,s3)/\(r,s3)=((k,U.bl b),st1):=by
  have w:W (bL Γ es >>= λrs=>aA rs >>= λ_=>M.Eu (F7 f rs)) st λr s=>(r,s)=((k,U.bl b),st1):=⟨_,_,h',rfl⟩
  rw[ag]at w;obtain⟨rs,s1,e1,w⟩:=w;rw[ag]at w;obtain⟨a,s2,e2,w⟩:=w;obtain⟨r,s3,e3,w⟩:=w;exact⟨rs,s1,e1,a,s2,e2,r,s3,e3,w⟩
 cases e5;exact aa e1 (aa (a:=e2) e3 (aa e4 (cy rfl)))
theorem sO(h0:st[i]?=UI (UI (k',.lst us')))(h1:Run (ev Γ e) st r st1)(h3:st1[i]?=UI (UI (k,.lst us)))(hk:k.root=UN)(hr:kg r (.lst us)=UI (.lst zs))
  (h4:Run (execs Γ ss) (st1.set i (UI (k,.lst zs))) f st3) (hn:k'≠.Eb:=by intro z;cases z):Run (execs Γ (.ext i e::ss)) st f st3:=by
 refine fO (aa (fW h0 hn) (aa (a:=()) (st1:=st) rfl (aa h1 (aa (a:=()) (st1:=st1.set i (UI (k,.lst zs))) ?_ aX)))) h4;show modS i (kg r) st1=_;unfold modS;rw[h3];simp only[hk,μ];rw[hr]
end
theorem sP(h:xs.length+ys.length<=US)(hs:jn k ys=UN):kg (k,.tup ys) (.lst xs)=UI (.lst (xs++ys)):=by
 show(if xs.length+ys.length<=US/\jn k ys=UN then _ else _)=_;rw[δ ⟨h,hs⟩]
theorem sQ(h:xs.length+ys.length<=US)(hs:jn k ys=UN):kg (k,.lst ys) (.lst xs)=UI (.lst (xs++ys)):=by
 show(if xs.length+ys.length<=US/\jn k ys=UN then _ else _)=_;rw[δ ⟨h,hs⟩]
theorem mq:∀ss:List Str,gu (ss.map U.str)=UN
 |[]=>by simp[gu]
 |s::ss=>by simp[gu,EL,mq ss]
theorem sR(r:Row):EL (B' r)=UN:=by simp[B',EL,gu,mq]
theorem aV:∀rs:List Row,gu (rs.map B')=UN
 |[]=>by simp[gu]
 |r::rs=>by simp[gu,sR,aV rs]
theorem gA:∀(a b:List Str),cR (a.map U.str) (b.map U.str)=UP (a=b)
 |[],[]=>by simp[cR]
 |[],_::_=>by simp[cR]
 |_::_,[]=>by simp[cR]
 |x::a,y::b=>by
  rw[U7,U7,cR,gA a b];simp only[bU];by_cases h:x=y
  ·subst h;simp
  ·simp[h]
theorem uF(a b:Row):bU (B' a) (B' b)=UP (a=b):=by
 obtain⟨a1,a2⟩:=a;obtain⟨b1,b2⟩:=b;simp only[B',bU,cR,Zt,gA];by_cases h:a1=b1
 ·subst h;simp
 ·simp[h]
theorem sT(r:Row):FA 50 (B' r)=UN:=by
 simp[B',FA,cX,fF]
theorem kL(ss:List Str)(n:Nat):FA (n+1) (.lst (ss.map U.str))=UN:=by simp[FA,fF]
theorem pF{a b:List Str}:bo .eq (.lst (a.map U.str)) (.lst (b.map U.str))=UI (UP (a=b)):=by
 simp only[bo];rw[δ ⟨kL a 49,kL b 49⟩];simp only[bU,gA]
theorem nO:bo .eq (.str a) (.str b)=UI (UP (a=b)):=by
 simp only[bo];rw[δ ⟨rfl,rfl⟩];simp only[bU];by_cases h:a=b
 ·subst h;simp
 ·simp[h]
theorem nP(f:α->β)(xs:List α)(lo hi:Option Int):cut (xs.map f) lo hi=(cut xs lo hi).map f:=by simp[cut,List.map_take,List.map_drop]
theorem sU(xs:List α)(lo hi:Option Int):(cut xs lo hi).length<=xs.length:=by simp[cut];omega
theorem zq{a b:List Str}(h:a.length+b.length<=1000):Gb .add (.own,.lst (a.map .str)) (.own,.lst (b.map .str))=UI (.own,.lst ((a++b).map .str)):=by
 have hsz:(1000:Nat)<=US:=by decide
 simp only[Gb,ub];rw[δ ⟨by simp;omega,rfl,rfl⟩,Vm]
theorem sV(h:x∈cut xs lo hi):x∈xs:=List.mem_of_mem_drop (ă h)
theorem mr:∀rs:List Row,cX 50 (rs.map B')=UN
 |[]=>by simp[cX]
 |r::rs=>by rw[U7,cX,sT,mr rs];rfl
theorem zr(r:Row)(rows:List Row):Ig (B' r) (rows.map B')=UI (UP (r∈rows)):=by
 unfold Ig;rw[δ ⟨sT r,mr rows⟩];congr 1
 rw[ð,VR,YN];simp only[Function.comp,uF,γ];exact⟨λ⟨x,h1,h2⟩=>h2▸h1,λh=>⟨r,h,rfl⟩⟩
theorem uG{rows:List Row}:bo .Eh (B' r) (.tup (rows.map B'))=UI (UP (r∉rows)):=by
 show(uc (B' r) (.tup (rows.map B'))).map (!·)=_;rw[show uc (B' r) (.tup (rows.map B'))=UI (UP (r∈rows)) from zr r rows];simp
theorem h_(h:acc.length<4000)(h2:(ao acc).length<64):qw .sset [(k,.lst (acc.map .str))]=UI (.own,.lst ((av (ao acc)).map .str)):=by
 have e:fL (.lst (acc.map U.str))=UI (ao acc):=by
  show(strsOf (acc.map U.str)).bind _=_;rw[cJ];show(if acc.length+1<Wn then _ else _)=_;rw[δ (by show acc.length+1<4096;omega)]
 show(fL (.lst (acc.map U.str))).bind _=_;rw[e];show(if (ao acc).length<64 then _ else _)=_;rw[δ h2]
noncomputable def iN(rows:List Row):List Str:=rows.map (·.1)++(rows.map (·.2)).flatten
theorem nQ(h:∀r∈rows,cA names r):∀x∈iN rows,x∈names:=by
 intro x hx;rcases Ve.mp hx with hx|hx
 ·obtain⟨r,hr,rfl⟩:=Vc.mp hx;exact(h r hr).word
 ·obtain⟨l,hl,hx⟩:=Z1.mp hx;obtain⟨r,hr,rfl⟩:=Vc.mp hl;exact(h r hr).told x hx
theorem pG{rows:List Row}(h:∀r∈rows,r.2.length<=n):(rows.map (·.2)).flatten.length<=n * rows.length:=by
 induction rows with
 |nil=>simp
 |cons r rows ih =>
  have h1:=h r (by simp);have h2:=ih λs hs=>h s (by simp[hs]);simp only[U7,YH,U',Vj,Nat.mul_add];omega
theorem pH(l:List Str):(av (ao l)).Nodup:=(aZ _).nodup_iff.mpr (bW l)
theorem qZ(l:List Str)(x:Str):x∈av (ao l)↔x∈l:=by rw[(aZ _).mem_iff,bT]
theorem q9{l names:List Str}(h:∀x∈l,x∈names):(ao l).length<=names.length:=kB (bW l) λx hx=>h x ((bT l x).mp hx)
section
theorem uH{rows:List Row}(hl:rows.length<=1000)(h:st[i]?=UI (UI (.loc,.tup (rows.map B')))):Run (ev Γ (.comp 1 UO .seq [.var i] [] (.idx (.var 0) (.cst (.int 0))))) st (.own,.lst ((rows.map (·.1)).map .str)) st:=by
 have hsz:(1000:Nat)<=US:=by decide
 have hx:=dH (cond:=aM Γ []) (elt:=ev Γ (.idx (.var 0) (.cst (.int 0)))) (src:=[(.loc,.tup (rows.map B'))]) (st:=st) trivial .loc (.inl rfl) B' (λr=>.str r.1) .loc (λ_=>dR) rows [] (by simp;omega)
  (λr _=>⟨aW (x:=(.loc,B' r)) (ae rfl) aD trivial rfl,aU⟩)
 rw[Vb]at hx;have e:(rows.map B').map (λu=>(kE .loc,u))=rows.map λr=>(Kd.loc,B' r):=by rw[U4];rfl
 rw[U4];exact bJ (rs:=[(.loc,.tup (rows.map B'))]) (af (ae h) ah) trivial (by show UI _=_;rw[e]) hx
end
section
end
noncomputable def bC(rows:List Row):List Str:=(rows.map λr=>r.1::r.2).flatten
noncomputable def aR(rows:List Row):List Str:=av (ao (bC rows))
theorem pI(d:List Row)(y:Row):bC (d++[y])=bC d++[y.1]++y.2:=by simp[bC]
theorem cN:x∈bC rows↔∃r∈rows,x=r.1\/x∈r.2:=by
 simp only[bC,Z1,Vc];constructor
 ·rintro⟨l,⟨r,hr,rfl⟩,hx⟩;exact⟨r,hr,U2.mp hx⟩
 ·rintro⟨r,hr,hx⟩;exact⟨_,⟨r,hr,rfl⟩,U2.mpr hx⟩
theorem eC(h:∀r∈rows,cA names r):∀x∈bC rows,x∈names:=by
 intro x hx;obtain⟨r,hr,hx⟩:=cN.mp hx;rcases hx with rfl|hx
 ·exact(h r hr).word
 ·exact(h r hr).told x hx
theorem kM(h:∀r∈rows,r.2.length<=8):(bC rows).length<=9 * rows.length:=by
 induction rows with
 |nil=>simp[bC]
 |cons r rows ih =>
  have h1:=h r (by simp);have h2:=ih λs hs=>h s (by simp[hs]);simp only[bC,U7,YH,U',Vj]at h2 ⊢;omega
theorem eD:x∈aR rows↔x∈bC rows:=qZ _ _
theorem ia(rows:List Row):(aR rows).Nodup:=pH _
theorem kN(h:∀r∈rows,cA names r):(aR rows).length<=names.length:=by
 show(av (ao (bC rows))).length<=_;rw[bf];exact q9 (eC h)
noncomputable def nS:Fn:=⟨"words_of",1,3,[.set 1 (.lst []),.EA UO [2] .seq [.var 0] [.app 1 (.idx (.var 2) (.cst (.int 0))),.ext 1 (.idx (.var 2) (.cst (.int 1)))],.ret (.G6 .sset [.var 1])]⟩
theorem ib(hl:rows.length<=100)(hr:∀r∈rows,cA names r)(hn:names.length<64):bM Γ nS [.tup (rows.map B')]=UI (.ok (.own,.lst ((aR rows).map .str))):=by
 have hsz:(4000:Nat)<=US:=by decide
 have Ei:TM.start [.tup (rows.map B')] 3=[UI (.loc,.tup (rows.map B')),UK,UK]:=by simp[TM.start,EL,aV]
 have h8:∀r∈rows,r.2.length<=8:=λr h=>(hr r h).GZ;obtain⟨st',Ep,_,o2,e⟩:=cM (t:=UO) (is:=[2]) (body:=execs Γ [.app 1 (.idx (.var 2) (.cst (.int 0))),.ext 1 (.idx (.var 2) (.cst (.int 1)))]) (rs:=[(.loc,.tup (rows.map B'))]) (λr:Row=>(Kd.loc,B' r))
  (λd r st=>d++r=rows/\∃o2,st=[UI (.loc,.tup (rows.map B')),UI (.own,.lst ((bC d).map .str)),o2]) (λ_ _ _ _=>trivial) (λd y r st Ey=>by
   obtain⟨EB,o2,e⟩:=Ey;subst e;have hy:y∈rows:=by rw[<-EB];simp
   have TC:=kM (rows:=d) λs hs=>h8 s (by rw[<-EB];simp[hs]);have GF:d.length<=100:=by have:=θ VX EB;simp at this;omega
   have TF:=h8 y hy;refine⟨[UI (.loc,.tup (rows.map B')),UI (.own,.lst ((bC d).map .str)),UI (.loc,B' y)],[UI (.loc,.tup (rows.map B')),UI (.own,.lst ((bC d).map .str++[.str y.1]++y.2.map .str)),UI (.loc,B' y)],cn aQ,?_,by rw[<-EB];simp,UI (.loc,B' y),?_⟩
   ·exact kF (k:=.own) (k':=.own) (r:=(.loc,.str y.1)) rfl (aW (x:=(.loc,B' y)) (ae rfl) aD trivial rfl) aU rfl rfl (by rw[UQ];omega)
     (sO (k:=.own) rfl (aW (x:=(.loc,B' y)) (ae rfl) aD trivial rfl) rfl rfl (sP (by simp;omega) rfl) aH)
   ·rw[pI];simp) rows [] [UI (.loc,.tup (rows.map B')),UI (.own,.lst []),UK] ⟨rfl,UK,rfl⟩
 subst e;have e5:(rows.map B').map (λu=>(kE .loc,u))=rows.map λr=>(Kd.loc,B' r):=by rw[U4];rfl
 have Hh:=kM h8;have GF:=q9 (eC hr);exact aF rfl (.inl rfl) Ei (ay (r:=(.own,.lst [])) (cU ah trivial ba (Vo _)) aY (cV (rs:=[(.loc,.tup (rows.map B'))]) (af (ae rfl) ah) trivial rfl rfl (by rw[e5];exact Ep) (bN (sD (af (ax rfl) ah) ⟨⟨.own,rfl,rfl⟩,trivial⟩ (h_ ⋯ ⋯)) hZ)))
theorem zt(h:ks.length<1000):dv (.str x) u (.Ee ks us)=UI (.Ee (dput ks us x u).1 (dput ks us x u).2):=by
 have hsz:(1000:Nat)<=US:=by decide
 show(if ks.length<US then _ else _)=_;rw[δ ⋯]
end TM
namespace Od
section
variable{W:Type}[DecidableEq W]{rows:List (W×List W)}
def kO(rows:List (W×List W))(C:W->Prop):Prop:=∀r∈rows,(∀x∈r.2,C x)->C r.1
def Kg(rows:List (W×List W))(K:List W):Prop:=∀C:W->Prop,kO rows C->∀x∈K,C x
theorem same(hK:K.Nodup)(hL:L.Nodup)(sK:Kg rows K)(sL:Kg rows L)(cK:kO rows (·∈K))(cL:kO rows (·∈L)):K.Perm L :=
 (WK hK hL).mpr λx=>⟨λh=>sK _ cL x h,λh=>sL _ cK x h⟩
noncomputable def told(rows:List (W×List W))(p:Nat):List W:=match rows[p]? with
 |some r=>r.2
 |none=>[]
theorem jA(h:rows[p]?=UI r):told rows p=r.2:=by unfold told;rw[h]
noncomputable def q_(K l:List W):Nat:=(l.filter λx=>UP (x∉K)).length
noncomputable def cnt(rows:List (W×List W))(K:List W)(p:Nat):Nat:=q_ K (told rows p)
theorem uI{K l:List W}:q_ K l=0↔∀x∈l,x∈K:=by
 unfold q_;rw[XJ,ï];constructor
 ·intro h x hx;have:=h x hx;simpa using this
 ·intro h x hx;simpa using h x hx
theorem pJ(hw:w∉K):∀{l:List W},l.Nodup->q_ (K++[w]) l+(if w∈l then 1 else 0)=q_ K l
 |[],_=>rfl
 |x::l,h=>by
  obtain⟨h1,h2⟩:=Vp.mp h;have ih:=pJ hw h2;unfold q_ at ih ⊢;by_cases e:x=w
  ·subst e;have a1:UP (x∉K++[x])≠UN:=by simp
   have a2:UP (x∉K)=UN:=η hw;rw[XN (p:=λy=>UP (y∉K++[x])) a1,XM (p:=λy=>UP (y∉K)) a2,Vj,δ (Vr ..)];rw[ε h1]at ih;omega
  ·have e':w≠x:=λz=>e z.symm;have e1:(if w∈x::l then 1 else 0)=if w∈l then 1 else 0:=by simp[e']
   rw[e1];by_cases hx:x∈K
   ·have a1:UP (x∉K++[w])≠UN:=by simp[hx]
    have a2:UP (x∉K)≠UN:=by simp[hx]
    rw[XN (p:=λy=>UP (y∉K++[w])) a1,XN (p:=λy=>UP (y∉K)) a2];exact ih
   ·have a1:UP (x∉K++[w])=UN:=by simp[hx,e]
    have a2:UP (x∉K)=UN:=by simp[hx]
    rw[XM (p:=λy=>UP (y∉K++[w])) a1,XM (p:=λy=>UP (y∉K)) a2,Vj,Vj];omega
def Once(rows:List (W×List W)):Prop:=∀r∈rows,r.2.Nodup
theorem Once.told(h:Once rows)(p:Nat):(told rows p).Nodup:=by
 unfold Od.told;split
 ·rename_i r e;exact h r (Vt e)
 ·exact .nil
theorem pK:cnt rows K p=0↔∀x∈told rows p,x∈K:=uI
theorem nU(h:Once rows)(hw:w∉K)(p:Nat):cnt rows (K++[w]) p+(if w∈told rows p then 1 else 0)=cnt rows K p:=pJ hw (h.told p)
noncomputable def ES(rows:List (W×List W))(n:Nat)(w:W):List Nat:=(UX n).filter λp=>UP (w∈told rows p)
theorem uJ(n:Nat)(w:W):(ES rows n w).Nodup:=ã WD List.nodup_range
theorem ic:p∈ES rows n w↔p<n/\w∈told rows p:=by simp[ES]
noncomputable def aJ(ps:List (W×Nat))(w:W):List Nat:=(ps.filter λp=>UP (p.1=w)).map (·.2)
theorem pL:∀{l:List W},l.Nodup->aJ (l.map λx=>(x,n)) w=if w∈l then [n] else []
 |[],_=>rfl
 |x::l,h=>by
  obtain⟨h1,h2⟩:=Vp.mp h;have ih:=pL (n:=n) (w:=w) h2;unfold aJ at ih ⊢;rw[U7,V_];by_cases e:x=w
  ·subst e;rw[ε h1]at ih;rw[δ (by simp),U7,ih,δ (by simp)]
  ·rw[ε (by simpa using e),ih];have e':w≠x:=λz=>e z.symm;simp[e']
theorem pM(a b:List (W×Nat))(w:W):aJ (a++b) w=aJ a w++aJ b w:=by simp[aJ]
theorem uK(h:Once rows)(hr:rows[n]?=UI r)(hp:∀w,aJ ps w=ES rows n w)(w:W):aJ (ps++r.2.map λx=>(x,n)) w=ES rows (n+1) w:=by
 rw[pM,hp w,pL (h r (Vt hr))];unfold ES;rw[Ņ,WM];congr 1
 rw[V_,Ye,jA hr];by_cases e:w∈r.2<;>simp[e]
structure RI(rows:List (W×List W))(K0 K:List W)(R:List Nat):Prop where
 LJ:∀t∈R,t<rows.length/\cnt rows K t=0
 all:∀t,t<rows.length->cnt rows K t=0->cnt rows K0 t=0\/t∈R
theorem RI.start(K:List W):RI rows K K []:=⟨by simp,λt _ h=>.inl h⟩
theorem RI.step(h:Once rows)(x:RI rows K0 K R)(hw:w∉K):RI rows K0 (K++[w]) (R++(ES rows rows.length w).filter λt=>UP (cnt rows K t=1)):=by
 refine⟨λt ht=>?_,λt ht h0=>?_⟩
 ·have ha:=nU h hw t;rcases Ve.mp ht with ht|ht
  ·obtain⟨q1,q2⟩:=x.LJ t ht;exact⟨q1,⋯⟩
  ·obtain⟨q1,q2⟩:=Vq.mp ht;obtain⟨q3,q4⟩:=ic.mp q1;rw[δ q4]at ha;have:cnt rows K t=1:=by simpa using q2
   exact⟨q3,⋯⟩
 ·have ha:=nU h hw t;by_cases hm:w∈told rows t
  ·rw[δ hm]at ha;exact .inr (Ve.mpr (.inr (Vq.mpr ⟨ic.mpr ⟨ht,hm⟩,by simp;omega⟩)))
  ·rw[ε hm]at ha;rcases x.all t ht ⋯ with z|z
   ·exact .inl z
   ·exact .inr (Ve.mpr (.inl z))
structure NS(rows:List (W×List W))(K:List W)(d:List Nat)(ps:List (W×Nat)):Prop where
 ok:∀s∈ps,s.2∈d/\s.1∉K/\∃r,rows[s.2]?=UI r/\r.1=s.1
 once:(ps.map (·.1)).Nodup
 all:∀p∈d,∀r,rows[p]?=UI r->r.1∈K\/r.1∈ps.map (·.1)
theorem NS.start(K:List W):NS rows K [] []:=⟨by simp,by simp,by simp⟩
theorem NS.skip(x:NS rows K d ps)(hr:rows[p]?=UI r)(h:r.1∈K\/r.1∈ps.map (·.1)):NS rows K (d++[p]) ps :=
 ⟨λs hs=>let ⟨a,b,c⟩:=x.ok s hs;⟨by simp[a],b,c⟩,x.once,λq hq r' Fg=>by
  rcases Ve.mp hq with hq|hq
  ·exact x.all q hq r' Fg
  ·have:q=p:=by simpa using hq
   subst this;rw[hr]at Fg;cases Fg;exact h⟩
theorem NS.take(x:NS rows K d ps)(hr:rows[p]?=UI r)(h1:r.1∉K)(h2:r.1∉ps.map (·.1)):NS rows K (d++[p]) (ps++[(r.1,p)]):=by
 refine⟨λs hs=>?_,?_,λq hq r' Fg=>?_⟩
 ·rcases Ve.mp hs with hs|hs
  ·obtain⟨a,b,c⟩:=x.ok s hs;exact⟨by simp[a],b,c⟩
  ·have:s=(r.1,p):=by simpa using hs
   subst this;exact⟨by simp,h1,r,hr,rfl⟩
 ·rw[Vm,VC];refine⟨x.once,by simp,λa ha b hb e=>?_⟩;have:b=r.1:=by simpa using hb
  subst this;exact h2 (e▸ha)
 ·rcases Ve.mp hq with hq|hq
  ·rcases x.all q hq r' Fg with z|z
   ·exact .inl z
   ·exact .inr (by simp only[Vm,Ve];exact .inl z)
  ·have:q=p:=by simpa using hq
   subst this;rw[hr]at Fg;cases Fg;exact .inr (by simp)
theorem NS.perm(x:NS rows K d ps)(h:qs.Perm ps):NS rows K d qs :=
 ⟨λs hs=>x.ok s (h.mem_iff.mp hs),(h.map _).nodup_iff.mpr x.once,λp hp r hr=>(x.all p hp r hr).imp id λz=>(h.map _).mem_iff.mpr z⟩
def vS(rows:List (W×List W)):List W->List (W×Nat)->Prop
 |_,[]=>True
 |K,s::ss=>(s.1∉K/\∃r,rows[s.2]?=UI r/\r.1=s.1/\∀x∈r.2,x∈K)/\vS rows (K++[s.1]) ss
theorem xo:∀{a b:List (W×Nat)}{K:List W},vS rows K a->vS rows (K++a.map (·.1)) b->vS rows K (a++b)
 |[],b,K,_,h=>by simpa using h
 |s::a,b,K,h1,h2=>⟨h1.1,xo h1.2 (by simpa using h2)⟩
theorem xp:∀{ss:List (W×Nat)}{K:List W},(∀s∈ss,s.1∉K/\∃r,rows[s.2]?=UI r/\r.1=s.1/\∀x∈r.2,x∈K)->(ss.map (·.1)).Nodup->vS rows K ss
 |[],K,_,_=>trivial
 |s::ss,K,h,hn=>by
  have IY:s.1∉ss.map (·.1)/\(ss.map (·.1)).Nodup:=by
   rw[U7]at hn;exact Vp.mp hn
  refine⟨h s (by simp),xp (λt ht=>?_) IY.2⟩;obtain⟨q1,r,q2,q3,q4⟩:=h t (by simp[ht]);refine⟨λz=>?_,r,q2,q3,λx hx=>by simp[q4 x hx]⟩;rcases Ve.mp z with z|z
  ·exact q1 z
  ·have:t.1=s.1:=by simpa using z
   exact IY.1 (this▸Vc.mpr ⟨t,ht,rfl⟩)
theorem ie:∀{ss:List (W×Nat)}{K:List W},vS rows K ss->K.Nodup->(K++ss.map (·.1)).Nodup
 |[],K,_,h=>by simpa using h
 |s::ss,K,h,hn=>by
  have:(K++[s.1]).Nodup:=by
   rw[VC];refine⟨hn,by simp,λa ha b hb e=>?_⟩;have:b=s.1:=by simpa using hb
   subst this;exact h.1.1 (e▸ha)
  have:=ie h.2 this;simpa using this
theorem xq:∀{ss:List (W×Nat)}{K:List W},vS rows K ss->Kg rows K->Kg rows (K++ss.map (·.1))
 |[],K,_,h=>by simpa using h
 |s::ss,K,h,hn=>by
  have h1:Kg rows (K++[s.1]):=λC hC x hx=>by
   rcases Ve.mp hx with hx|hx
   ·exact hn C hC x hx
   ·have:x=s.1:=by simpa using hx
    subst this;obtain⟨_,r,q1,q2,q3⟩:=h.1;rw[<-q2];exact hC r (Vt q1) λy hy=>hn C hC y (q3 y hy)
  have:=xq h.2 h1;simpa using this
theorem ig:∀{ss:List (W×Nat)}{K:List W},vS rows K ss->∀x∈ss.map (·.1),x∈rows.map (·.1)
 |[],K,_,x,hx=>by simp at hx
 |s::ss,K,h,x,hx=>by
  rw[U7]at hx;rcases U2.mp hx with rfl|hx
  ·obtain⟨_,r,q1,q2,q3⟩:=h.1;exact Vc.mpr ⟨r,Vt q1,q2⟩
  ·exact ig h.2 x hx
structure LI(rows:List (W×List W))(sts:List (W×Nat))(R:List Nat):Prop where
 ok:vS rows [] sts
 LJ:∀t∈R,t<rows.length/\cnt rows (sts.map (·.1)) t=0
 all:∀t r,rows[t]?=UI r->cnt rows (sts.map (·.1)) t=0->t∈R\/r.1∈sts.map (·.1)
theorem LI.step(x:LI rows sts R)(n:NS rows (sts.map (·.1)) R st)(y:RI rows (sts.map (·.1)) (sts.map (·.1)++st.map (·.1)) R'):LI rows (sts++st) R':=by
 have em:(sts++st).map (·.1)=sts.map (·.1)++st.map (·.1):=Vm;refine⟨xo x.ok (xp (λs hs=>?_) n.once),λt ht=>by rw[em];exact y.LJ t ht,λt r hr h0=>?_⟩
 ·obtain⟨q1,q2,r,q3,q4⟩:=n.ok s hs;have hz:=(x.LJ _ q1).2;rw[pK,jA q3]at hz;exact⟨by simpa using q2,r,q3,q4,by simpa using hz⟩
 ·rw[em]at h0 ⊢;rcases y.all t (UW.mp hr).1 h0 with z|z
  ·rcases x.all t r hr z with z|z
   ·rcases n.all t z r hr with z|z
    ·exact .inr (Ve.mpr (.inl z))
    ·exact .inr (Ve.mpr (.inr z))
   ·exact .inr (Ve.mpr (.inl z))
  ·exact .inl z
theorem LI.closed(x:LI rows sts []):kO rows (·∈sts.map (·.1)):=λr hr h=>by
 obtain⟨t,ht⟩:=û.mp hr;rcases x.all t r ht (by rw[pK,jA ht];exact h) with z|z
 ·cases z
 ·exact z
theorem sW{K L:List W}(h:K.Nodup)(s:∀x∈K,x∈L):K.length<=L.length:=by
 induction K generalizing L with
 |nil=>simp
 |cons a K ih =>
  obtain⟨h1,h2⟩:=Vp.mp h;have ha:a∈L:=s a (by simp);have:=ih (L:=L.erase a) h2 λx hx=>by
   have EX:x≠a:=λe=>h1 (e▸hx);exact(ą EX).mpr (s x (by simp[hx]))
  rw[à ha]at this;have:0<L.length:=í ha;rw[Vj];omega
end
end Od
namespace TM
open PySem L2 EO
section
theorem Ds(h:st[j]?=UI (UI (.own,u))):Run (lift (.bor j,u0)) st u (st.set j (UI (.loc,u))):=by
 show(match st[j]? with|some (UI (.own,u))=>UI (Ex.ok u,st.set j (UI (.loc,u)))|_=>UK)=_;rw[h]
theorem xr(h:Run c st UO st1):Run (gw c body (n+1)) st .nx st1:=aa h aX
theorem xt(h:Run c st UN st1)(h2:Run body st1 .nx st2)(h3:Run (gw c body n) st2 f st3):Run (gw c body (n+1)) st f st3:=aa h (aa h2 h3)
theorem Ab(h:Run (gw (Et Γ c) (execs Γ body) fuel) st .nx st1)(h2:Run (execs Γ ss) st1 f st2):Run (execs Γ (.Ju c body::ss)) st f st2:=fO h h2
theorem sX(hk:k=.loc\/k=.any):Run (cH UN [i,j] (k,.tup [a,b])) st () ((st.set i (UI (k,a))).set j (UI (k,b))):=by
 rcases hk with rfl|rfl<;>rfl
theorem xu(h:Run (execs Γ ss) (st.set i (UI (.Eb,.Ee [] []))) f st1):Run (execs Γ (.newD i::ss)) st f st1:=fO (aa (a:=()) (st1:=st.set i (UI (.Eb,.Ee [] []))) rfl aX) h
theorem nV(h:st[i]?=UI (UI (.Eb,.Ee ks us))):Run (fM i) st (ks,us) st:=by
 show fM i st=_;unfold fM;rw[h]
theorem rb:Run (gT (k,.str y)) st y st:=rfl
theorem zu(h2:st[i]?=UI (UI (.Eb,.Ee ks us)))(h4:y∉ks)(h5:ks.length<US):Run (kb i y (.own,.lst xs)) st () (st.set i (UI (.Eb,.Ee (ks++[y]) (us++[.lst xs])))):=by
 show kb i y (.own,.lst xs) st=_;unfold kb
 dsimp only
 rw[h2]
 dsimp only
 rw[δ ⟨h4,h5⟩]
theorem zv(h0:st[i]?=UI (UI (.Eb,.Ee ks us)))(h5:cY ks us y=UI (.lst xs))(h6:xs.length<US):Run (kf i y u) st () (st.set i (UI (.Eb,.Ee ks (iD ks us y (.lst (xs++[u])))))):=by
 show kf i y u st=_;unfold kf;rw[h0]
 dsimp only
 rw[h5]
 dsimp only
 rw[δ h6]
theorem xv(h1:Run (ev Γ a) st (k,.str y) st1)(h2:st1[i]?=UI (UI (.Eb,.Ee ks us))):Run (Et Γ (.inD neg a i)) st (Ln neg y ks) st1 :=
 aa h1 (aa rb (aa (nV h2) aX))
theorem xw(h1:Run (ev Γ ve) st (.own,.lst xs) st1)(h2:st1[i]?=UI (UI (.Eb,.Ee ks us)))(h3:Run (ev Γ ke) st1 (k,.str y) st1)(h4:y∉ks)(h5:ks.length<US)
  (h6:Run (execs Γ ss) (st1.set i (UI (.Eb,.Ee (ks++[y]) (us++[.lst xs])))) f st3):Run (execs Γ (.putD i ke ve::ss)) st f st3:=by
 refine fO ?_ h6;exact aa h1 (aa (nV h2) (aa h3 (aa rb (aa (zu h2 h4 h5) aX))))
theorem xx(h0:st[i]?=UI (UI (.Eb,.Ee ks us)))(h1:Run (ev Γ ke) st (k,.str y) st)(h2:y∈ks)(h3:Run (ev Γ ve) st r st)(h4:Run (lift r) st u st)(h5:cY ks us y=UI (.lst xs))(h6:xs.length<US)
  (h7:Run (execs Γ ss) (st.set i (UI (.Eb,.Ee ks (iD ks us y (.lst (xs++[u])))))) f st3):Run (execs Γ (.FJ i ke ve::ss)) st f st3:=by
 refine fO ?_ h7;refine aa (nV h0) (aa h1 (aa rb (aa (nV h0) ?_)));rw[δ h2];exact aa h3 (aa h4 (aa (zv h0 h5 h6) aX))
theorem Dt(h:st[i]?=UI (UI (.Eb,u))):Run (ev Γ (.J_ i)) st (.bor i,u) (st.set i (UI (.own,u))):=by
 show v3 i st=_;unfold v3;rw[h]
theorem BW(h0:st[i]?=UI (UI (.own,.Ee ks us)))(h1:Run (ev Γ a) st (k,.str y) st)(h2:Run (ev Γ b) st z st)(h3:Run (lift z) st u st)(h4:(match cY ks us y with|some v=>(Kd.loc,v)|none=>(.loc,u))=r):
  Run (ev Γ (.Gq i a b)) st r st:=by
 refine aa (fW h0) (aa (a:=()) (st1:=st) rfl (aa h1 (aa (a:=y) (st1:=st) rfl (aa h2 (aa h3 (aa (fW h0) (cy ?_)))))));subst h4;rfl
theorem Du(h0:st[i]?=UI (UI (.own,.lst us)))(h1:Run (ev Γ ke) st (k1,.int (j:Nat)) st)(h2:us[j]?=UI (.int o))(h3:Run (ev Γ ve) st (k2,.int w) st)
  (h4:Run (execs Γ ss) (st.set i (UI (.own,.lst (us.set j (.int (o - w)))))) f st3):Run (execs Γ (.aug UN i ke ve::ss)) st f st3:=by
 have hl:oU i st=UI (.ok us,st):=by unfold oU;rw[h0];rfl
 have hj:j<us.length:=(UW.mp h2).1;have hi:oV us (j:Nat)=UI o:=by
  unfold oV;rw[δ ⋯,WC,h2]
 have hx:Hf us.length (j:Nat)=UI j:=by
  unfold Hf;rw[δ ⋯]
  first|(rw[δ ⋯];simp)|simp[hj]
 refine fO (aa (a:=us) (st1:=st) hl (aa h1 (aa (a:=(j:Int)) (st1:=st) rfl (aa (a:=us) (st1:=st) hl (aa (cy hi) (aa h3 (aa (a:=w) (st1:=st) rfl (aa (a:=()) (st1:=st.set i (UI (.own,.lst (us.set j (.int (o - w)))))) ?_ aX)))))))) h4;show modS i (dv (.int (j:Nat)) (.int (uh UN o w))) st=_;unfold modS;rw[h0];simp only[Kd.root,μ,dv];rw[hx];rfl
theorem Dv(h0:st[i]?=UI (UI (.own,u)))(h1:vZ u=UI r):Run (ev Γ (.J' i)) st r st:=aa (fW h0) (cy h1)
end
theorem ij(f:Str->U)(y:Str):∀ks:List Str,cY ks (ks.map f) y=if y∈ks then UI (f y) else UK
 |[]=>rfl
 |k::ks=>by
  rw[U7];show(if k=y then UI (f k) else cY ks (ks.map f) y)=_;by_cases e:k=y
  ·subst e;rw[δ rfl,δ (by simp)]
  ·rw[ε e,ij f y ks];have:(y∈k::ks)↔y∈ks:=by simp[VP e]
   by_cases h:y∈ks
   ·rw[δ h,δ (this.mpr h)]
   ·rw[ε h,ε λz=>h (this.mp z)]
theorem kP(f:Str->U)(y:Str)(u:U):∀ks:List Str,ks.Nodup->iD ks (ks.map f) y u=ks.map λk=>if k=y then u else f k
 |[],_=>rfl
 |k::ks,h=>by
  obtain⟨h1,h2⟩:=Vp.mp h;rw[U7,U7];show(if k=y then u::ks.map f else f k::iD ks (ks.map f) y u)=_;by_cases e:k=y
  ·subst e;rw[δ rfl,δ rfl];congr 1
   refine VT λz hz=>?_;have TH:z≠k:=λq=>h1 (by rw[<-q];exact hz);rw[ε TH]
  ·rw[ε e,ε e,kP f y u ks h2]
noncomputable def stN(s:Str×Nat):U:=.tup [.str s.1,.int (s.2:Nat)]
theorem mw(f:α->Int):∀(ns:List α),intsOf (ns.map λa=>U.int (f a))=UI (ns.map f)
 |[]=>rfl
 |n::ns=>by show(intsOf (ns.map λa=>U.int (f a))).map _=_;rw[mw f ns];rfl
theorem zw(h:ps.length<64)(hn:(ps.map (·.1)).Nodup):∃qs:List (Str×Nat),qs.Perm ps/\vZ (.Ee (ps.map (·.1)) (ps.map λp=>.int (p.2:Nat)))=UI (.own,.lst (qs.map stN)):=by
 have hi:=mw (λp:Str×Nat=>((p.2:Nat):Int)) ps;have hz:(ps.map (·.1)).zip (ps.map λp:Str×Nat=>((p.2:Nat):Int))=ps.map λp=>(p.1,((p.2:Nat):Int)):=by
  rw[ř]
 let P:=jk ((ps.map λp=>(p.1,((p.2:Nat):Int))).map (·.1));have hP:P.Perm (UX ps.length):=by
  have:=fw ((ps.map λp=>(p.1,((p.2:Nat):Int))).map (·.1));simpa[P] using this
 refine⟨P.map λi=>ps.getD i (VW,0),?_,?_⟩
 ·refine(hP.map _).trans ?_;have:(UX ps.length).map (λi=>ps.getD i (VW,0))=ps:=by
   apply Wv
   ·simp
   ·intro i h1 h2;simp[Xc,h2]
  rw[this]
 ·show(intsOf (ps.map λp=>U.int (p.2:Nat))).bind _=_;rw[hi];show(if (ps.map (·.1)).length<64/\(ps.map (·.1)).Nodup/\(ps.map (·.1)).length=(ps.map λp:Str×Nat=>((p.2:Nat):Int)).length then _ else _)=_;rw[δ ⟨by simpa using h,hn,by simp⟩,hz];congr 3
  show(yF _).map ue=_;show(P.map λi=>(ps.map λp=>(p.1,((p.2:Nat):Int))).getD i (VW,0)).map ue=_;rw[U4,U4];refine VT λi FD=>?_;have Ez:i<ps.length:=V6.mp (hP.mem_iff.mp FD);simp[Xc,Ez,ue,stN]
theorem Dw(h:UP (j<=i)=c):bo .ge (.int i) (.int j)=UI c:=by subst h;rfl
theorem BX:bo .isin (.str x) (.Ee ks vs)=UI (UP (x∈ks)):=rfl
theorem iO:bo .Eh (.str x) (.Ee ks vs)=UI (!UP (x∈ks)):=rfl
theorem pN{x:Str}{ss:List Str}:bo .isin (.str x) (.lst (ss.map U.str))=UI (UP (x∈ss)):=by
 have h:=@kJ x ss;have e:bo .Eh (.str x) (.lst (ss.map U.str))=(bo .isin (.str x) (.lst (ss.map U.str))).map (!·):=rfl;rw[e,U3]at h;obtain⟨b,h1,h2⟩:=h;rw[h1];congr 1
 cases b<;>simp_all
theorem fH(bs:List Bool):F7 .all [(k,.lst (bs.map .bl))]=UI (.loc,.bl (bs.all id)):=by
 show(eZ (bs.map U.bl)).map _=_;have:∀bs:List Bool,eZ (bs.map U.bl)=UI bs:=λbs=>by
  induction bs with
  |nil=>rfl
  |cons b bs ih=>show(eZ (bs.map U.bl)).map _=_;rw[ih];rfl
 rw[this];rfl
section
theorem uL{told known:List Str}(hk:k=.loc\/k=.any)(hl:told.length<=1000)(hs:Run (ev Γ src) st (.loc,.tup (told.map .str)) st)(hj:st[j]?=UI (UI (k,w))\/st[j]?=UI (UI (.own,w)))(hw:∀x:Str,bo .isin (.str x) w=UI (UP (x∈known))):
  Run (ev Γ (.bi .all [.comp 1 UO .seq [src] [] (.cmp .isin (.var 0) (.var (j+1)))])) st (.loc,.bl (told.all λx=>UP (x∈known))) st:=by
 have hsz:(1000:Nat)<=US:=by decide
 have hx:=dH (cond:=aM Γ []) (elt:=ev Γ (.cmp .isin (.var 0) (.var (j+1)))) (src:=[(.loc,.tup (told.map .str))]) (st:=st) trivial .loc (.inl rfl) U.str (λx=>.bl (UP (x∈known))) .loc (λ_=>dR) told [] (by simp;omega)
  (λy _=>⟨by
   rcases hj with hj|hj
   ·rcases hk with rfl|rfl
    ·exact dn (ae rfl) (ae (by simpa using hj)) trivial (hw y)
    ·exact dn (ae rfl) (bj (by simpa using hj)) trivial (hw y)
   ·exact dn (ae rfl) (ax (by simpa using hj)) ⟨⟨.own,rfl,by simpa using hj⟩,trivial⟩ (hw y),aU⟩)
 rw[Vb]at hx;have e:(told.map U.str).map (λu=>(kE .loc,u))=told.map λr=>(Kd.loc,U.str r):=by rw[U4];rfl
 have e2:(told.map λx=>U.bl (UP (x∈known)))=(told.map λx=>UP (x∈known)).map U.bl:=by rw[U4];rfl
 rw[e2]at hx;have e3:(told.all λx=>UP (x∈known))=((told.map λx=>UP (x∈known)).all id):=by rw[W5];rfl
 rw[e3];exact cI (af (bJ (rs:=[(.loc,.tup (told.map .str))]) (af hs ah) trivial (by show UI _=_;rw[e]) hx) ah) trivial (fH _)
end
theorem sY(h:ks.length<1000)(hx:x∉ks):dv (.str x) u (.Ee ks us)=UI (.Ee (ks++[x]) (us++[u])):=by
 rw[zt h];unfold dput;rw[ε hx]
theorem pO(h:FA 50 (.lst us)=UN):bo .ne (.lst us) (.lst [])=UI (!us.isEmpty):=by
 simp only[bo];rw[δ ⟨h,by simp[FA,cX]⟩];cases us with
 |_=>simp[bU,cR]
theorem mz(f:α->Int):∀(l:List α) (n:Nat),cX n (l.map λa=>U.int (f a))=UN
 |[],n=>by simp[cX]
 |a::l,n=>by rw[U7,cX,mz f l n];simp[FA]
theorem pP:∀(ss:List (Str×Nat)) (n:Nat),cX (n+1) (ss.map stN)=UN
 |[],n=>by simp[cX]
 |s::ss,n=>by rw[U7,cX,pP ss n];simp[stN,FA,cX]
theorem gB{cond:M Bool}(h:a5 src st)(a b g:α->U)(p:α->Bool):∀(ys:List α) (acc:List U),acc.length+ys.length<=US ->
  (∀y∈ys,Run cond (UI (.loc,a y)::UI (.loc,b y)::st) (p y) (UI (.loc,a y)::UI (.loc,b y)::st)/\Run elt (UI (.loc,a y)::UI (.loc,b y)::st) (.loc,g y) (UI (.loc,a y)::UI (.loc,b y)::st)) ->
  Run (br 2 UN cond elt src (ys.map λy=>(Kd.loc,U.tup [a y,b y])) acc) st (acc++(ys.filter p).map g) st
 |[],acc,_,_=>by rw[Wx,Ye,Wx,V1];exact pA h
 |y::ys,acc,hl,hx=>by
  obtain⟨h1,h2⟩:=hx y (by simp);rw[Vj]at hl;have ht:Run (cH UN (UX 2) (.loc,.tup [a y,b y])) (Vk 2 UK++st) () (UI (.loc,a y)::UI (.loc,b y)::st):=sX (.inl rfl);cases hp:p y with
  |true =>
   rw[hp]at h1;refine kG (s1:=UI (.loc,a y)::UI (.loc,b y)::st) (s2:=UI (.loc,a y)::UI (.loc,b y)::st) (s3:=UI (.loc,a y)::UI (.loc,b y)::st) (s4:=UI (.loc,a y)::UI (.loc,b y)::st) h ht h1 h2 aU ⋯ ?_;have:=gB h a b g p ys (acc++[g y]) (by simp;omega) λz hz=>hx z (by simp[hz]);rw[V_,δ hp,U7];simpa using this
  |false =>
   rw[hp]at h1;refine qW (s1:=UI (.loc,a y)::UI (.loc,b y)::st) (s2:=UI (.loc,a y)::UI (.loc,b y)::st) h ht h1 ?_;have:=gB h a b g p ys acc ⋯ λz hz=>hx z (by simp[hz]);rw[V_,ε (by simp[hp])];exact this
theorem set_range(n:Nat)(f:Nat->α)(t:Nat)(v:α):((UX n).map f).set t v=(UX n).map λp=>if p=t then v else f p:=by
 apply Wv
 ·simp
 ·intro i h1 h2;simp only[List.getElem_set,Ķ,List.getElem_range];by_cases e:t=i
  ·subst e;simp
  ·rw[ε e,ε (VP e)]
theorem zx{rows:List Row}{t:Nat}(h:rows[t]?=UI r):ED (rows.map B') (t:Int)=UI (B' r):=bG (by simp[h])
section
theorem Ac(h1:Run (ev Γ a) st x st1)(h2:fL x.2=UI d1)(h3:Run (ev Γ b) st1 y st2)(h4:fL y.2=UI d2)(h5:uf ln d1 d2=UI r):Run (ev Γ (.H_ ln a b)) st r st2 :=
 aa h1 (aa (cy h2) (aa h3 (aa (cy h4) (cy h5))))
end
theorem fI(h:ss.length<4000):fL (.lst (ss.map .str))=UI (ao ss):=by
 show(strsOf (ss.map U.str)).bind _=_;rw[cJ];show(if ss.length+1<Wn then _ else _)=_;rw[δ (by show ss.length+1<4096;omega)]
theorem il(hp:l.Perm m)(hs:m.Pairwise (λa b=>FX a b=UN)):av l=m:=ft ((aZ l).trans hp) (cP l) hs
theorem xy(h:∀x,x∈a↔x∈b):av (ao a)=av (ao b) :=
 iX ((WK (bW a) (bW b)).mpr λx=>by rw[bT,bT,h x])
end TM
namespace K
open PySem L2 TM
noncomputable def top(i:Nat):Ya:=PySem.Challenge.pw_primer_k16_whole_learnt_or_held.main.body.getD i (.Pass ⟨0,0,0,0⟩)
noncomputable def kQ:Fn:=TM.nS
noncomputable def fJ:Fn:=⟨"rows_of",2,2,[.ret (.comp 2 UN .II [.var 0] [.cmp .eq (.idx (.var 1) (.cst (.int 0))) (.var 3)] (.var 0))]⟩
noncomputable def eE:Fn:=⟨"gathered",1,4,[.newD 1,.EA UN [2,3] .seq [.var 0] [.ite (.inD UN (.var 2) 1) [.putD 1 (.var 2) (.lst [])] [],.FJ 1 (.var 2) (.var 3)],.ret (.J_ 1)]⟩
noncomputable def bK:Fn:=⟨"places_that_tell",1,4,[.set 1 (.lst []),.EA UN [2,3] .II [.var 0] [.ext 1 (.comp 1 UO .seq [.idx (.var 3) (.cst (.int 1))] [] (.tup [.var 0,.var 3]))],.ret (.call "gathered" [.var 1])]⟩
noncomputable def dC:Fn:=⟨"new_steps",3,6,[.set 3 (.FU UO),.EA UO [4] .seq [.var 1] [.set 5 (.idx (.idx (.var 0) (.var 4)) (.cst (.int 0))),.ite (.and [.cmp .Eh (.var 5) (.var 2),.cmp .Eh (.var 5) (.var 3)]) [.put 3 (.var 5) (.var 4)] []],.ret (.J' 3)]⟩
noncomputable def bR:Fn:=⟨"steps_in_rounds",1,10,[.set 1 (.call "places_that_tell" [.var 0]),.set 2 (.comp 1 UO .seq [.var 0] [] (.bi .len [.idx (.var 0) (.cst (.int 1))])),.set 3 (.FU UO),.set 4 (.lst []),.set 5 (.comp 2 UN .II [.var 2] [.cmp .eq (.var 1) (.cst (.int 0))] (.var 0)),.Ju (.cmp .ne (.var 5) (.lst [])) [.set 6 (.call "new_steps" [.var 0,.var 5,.var 3]),.set 5 (.lst []),.EA UN [7,8] .seq [.var 6] [.put 3 (.var 7) (.cst (.bl UN)),.EA UO [9] .seq [.Gq 1 (.var 7) (.lst [])] [.aug UN 2 (.var 9) (.cst (.int 1)),.ite (.cmp .eq (.idx (.var 2) (.var 9)) (.cst (.int 0))) [.app 5 (.var 9)] []]],.ite (.cmp .ne (.var 6) (.lst [])) [.app 4 (.var 6)] []],.ret (.var 4)]⟩
noncomputable def ip:Fn:=⟨"order",1,3,[.set 1 (.lst []),.EA UO [2] .seq [.call "steps_in_rounds" [.var 0]] [.ext 1 (.var 2)],.ret (.var 1)]⟩
noncomputable def iq:Fn:=⟨"learnt",1,1,[.ret (.bi .sorted [.comp 2 UN .seq [.call "order" [.var 0]] [] (.var 0)])]⟩
noncomputable def c6:Fn:=⟨"not_learnt",1,1,[.ret (.H_ UO (.call "words_of" [.var 0]) (.call "learnt" [.var 0]))]⟩
noncomputable def da:Fn:=⟨"is_step",3,6,[.set 3 (.idx (.var 1) (.cst (.int 0))),.set 4 (.idx (.var 1) (.cst (.int 1))),.ite (.or [.cmp .lt (.var 4) (.cst (.int 0)),.cmp .ge (.var 4) (.bi .len [.var 0])]) [.ret (.cst (.bl UO))] [],.set 5 (.idx (.var 0) (.var 4)),.ret (.and [.cmp .eq (.idx (.var 5) (.cst (.int 0))) (.var 3),.cmp .Eh (.var 3) (.var 2),.bi .all [.comp 1 UO .seq [.idx (.var 5) (.cst (.int 1))] [] (.cmp .isin (.var 0) (.var 3))]])]⟩
noncomputable def eF:Fn:=⟨"is_order",2,4,[.set 2 (.FU UO),.EA UO [3] .seq [.var 1] [.ite (.not (.call "is_step" [.var 0,.var 3,.var 2])) [.ret (.cst (.bl UO))] [],.put 2 (.idx (.var 3) (.cst (.int 0))) (.cst (.bl UN))],.ret (.cst (.bl UN))]⟩
noncomputable def nW:Fn:=⟨"knot",1,4,[.newD 1,.EA UO [2] .seq [.call "not_learnt" [.var 0]] [.putD 1 (.var 2) (.lst [])],.EA UO [3] .seq [.var 0] [.ite (.inD UO (.idx (.var 3) (.cst (.int 0))) 1) [.FJ 1 (.idx (.var 3) (.cst (.int 0))) (.idx (.comp 1 UO .seq [.idx (.var 3) (.cst (.int 1))] [.inD UO (.var 0) 2] (.var 0)) (.cst (.int 0)))] []],.GR 1 (.tup [.var 0,.bi .tuple [.var 1]])]⟩
noncomputable def c7:Fn:=⟨"is_blocked",3,4,[.set 3 (.call "rows_of" [.var 0,.idx (.var 1) (.cst (.int 0))]),.ite (.cmp .ne (.bi .len [.idx (.var 1) (.cst (.int 1))]) (.bi .len [.var 3])) [.ret (.cst (.bl UO))] [],.ret (.bi .all [.comp 2 UN .zip [.var 3,.idx (.var 1) (.cst (.int 1))] [] (.and [.cmp .isin (.var 1) (.idx (.idx (.var 2) (.var 0)) (.cst (.int 1))),.cmp .isin (.var 1) (.var 4)])])]⟩
noncomputable def fK:Fn:=⟨"is_knot",2,3,[.set 2 (.comp 1 UO .seq [.var 1] [] (.idx (.var 0) (.cst (.int 0)))),.ite (.or [.cmp .ne (.var 2) (.G6 .sset [.var 2]),.cmp .gt (.H_ UN (.var 2) (.call "words_of" [.var 0])) (.cst (.int 0))]) [.ret (.cst (.bl UO))] [],.ret (.bi .all [.comp 1 UO .seq [.var 1] [] (.call "is_blocked" [.var 1,.var 0,.var 3])])]⟩
noncomputable def mB:Fn:=TM.uA
noncomputable def kR:Fn:=TM.sI
noncomputable def je:Fn:=TM.nI
noncomputable def kS:Fn:=⟨"_law_name",2,6,[.set 2 (.cst (.str "abcdefghijklmnopqrstuvwxyz")),.set 3 (.G7 .join (.cst (.str "")) [.comp 1 UO .EG [.bin .add (.cst (.int 1)) (.bin .mod (.idx (.var 0) (.cst (.int 0))) (.cst (.int 8)))] [] (.idx (.var 3) (.bin .mod (.idx (.var 1) (.bin .add (.cst (.int 4)) (.var 0))) (.cst (.int 26))))]),.ite (.cmp .gt (.bi .len [.var 1]) (.cst (.int 0))) [.set 4 (.idx (.G7 .split (.idx (.var 1) (.bin .mod (.idx (.var 0) (.cst (.int 1))) (.bi .len [.var 1]))) [.cst (.str "/")]) (.cst (.int 0))),.ite (.cmp .eq (.bin .mod (.idx (.var 0) (.cst (.int 2))) (.cst (.int 4))) (.cst (.int 1))) [.set 3 (.F6 (.bin .add (.var 4) (.var 3)) [] [.cst (.int 8)])] [],.ite (.cmp .eq (.bin .mod (.idx (.var 0) (.cst (.int 2))) (.cst (.int 4))) (.cst (.int 2))) [.set 3 (.bin .add (.bin .add (.var 4) (.cst (.str "/"))) (.bi .str [.bin .add (.cst (.int 2)) (.bin .mod (.idx (.var 0) (.cst (.int 3))) (.cst (.int 98)))]))] []] [],.set 5 (.bin .add (.lst [.var 3]) (.comp 1 UO .EG [.cst (.int 40)] [] (.bin .add (.idx (.var 3) (.bin .FZ (.var 0) (.cst (.int 26)))) (.idx (.var 3) (.bin .mod (.var 0) (.cst (.int 26))))))),.ret (.idx (.comp 1 UO .seq [.var 5] [.cmp .Eh (.var 0) (.var 2)] (.var 0)) (.cst (.int 0)))]⟩
noncomputable def jf:Fn:=TM.fNames
noncomputable def kU:Fn:=TM.jd
noncomputable def kW:Fn:=TM.xf
noncomputable def kX:Fn:=TM.xj
noncomputable def eG:Fn:=⟨"_law_held",2,6,[.set 2 (.G6 .sset [.var 1]),.set 3 (.cst (.bl UN)),.Ju (.var 3) [.set 4 (.lst []),.EA UO [5] .seq [.var 2] [.ite (.bi .all [.comp 1 UO .seq [.var 0] [.cmp .eq (.idx (.var 0) (.cst (.int 0))) (.var 6)] (.bi .any [.comp 1 UO .seq [.idx (.var 0) (.cst (.int 1))] [] (.cmp .isin (.var 0) (.var 4))])]) [.app 4 (.var 5)] []],.set 3 (.cmp .lt (.bi .len [.var 4]) (.bi .len [.var 2])),.set 2 (.var 4)],.ret (.var 2)]⟩
noncomputable def dE:Fn:=⟨"_law_words",1,3,[.set 1 (.comp 1 UO .seq [.var 0] [] (.idx (.var 0) (.cst (.int 0)))),.EA UO [2] .seq [.var 0] [.ext 1 (.idx (.var 2) (.cst (.int 1)))],.ret (.G6 .sset [.var 1])]⟩
noncomputable def sZ:Fn:=⟨"law",1,14,[.set 1 (.call "_law_made" [.var 0]),.set 2 (.call "order" [.var 1]),.set 3 (.call "knot" [.var 1]),.set 4 (.bin .add (.comp 1 UO .seq [.var 2] [] (.idx (.var 0) (.cst (.int 0)))) (.comp 1 UO .seq [.var 3] [] (.idx (.var 0) (.cst (.int 0))))),.ite (.or [.cmp .ne (.bi .sorted [.var 4]) (.call "_law_words" [.var 1]),.not (.call "is_order" [.var 1,.var 2]),.not (.call "is_knot" [.var 1,.var 3])]) [.ret (.cst (.bl UO))] [],.set 5 (.call "learnt" [.var 1]),.ite (.cmp .ne (.var 5) (.bi .sorted [.comp 1 UO .seq [.var 2] [] (.idx (.var 0) (.cst (.int 0)))])) [.ret (.cst (.bl UO))] [],.set 6 (.call "_law_drawn" [.call "_law_cell" [.var 0,.cst (.int 19)],.cst (.int 12)]),.ite (.not (.call "is_order" [.var 1,.F6 (.var 2) [] [.bin .mod (.idx (.var 6) (.cst (.int 0))) (.bin .add (.bi .len [.var 2]) (.cst (.int 1)))]])) [.ret (.cst (.bl UO))] [],.EA UO [7] .EG [.cst (.int 6)] [.set 8 (.call "_law_drawn" [.call "_law_cell" [.var 0,.bin .add (.cst (.int 56)) (.var 7)],.cst (.int 20)]),.set 9 (.comp 1 UO .EG [.bi .len [.var 4]] [.cmp .gt (.bin .mod (.bin .FZ (.idx (.var 9) (.bin .mod (.var 0) (.cst (.int 20)))) (.cst (.int 2))) (.cst (.int 4))) (.cst (.int 0))] (.idx (.var 5) (.var 0))),.ite (.bi .any [.comp 1 UO .seq [.call "_law_held" [.var 1,.var 9]] [] (.cmp .isin (.var 0) (.var 6))]) [.ret (.cst (.bl UO))] []],.ite (.cmp .eq (.bi .len [.var 1]) (.cst (.int 0))) [.ret (.cmp .eq (.var 4) (.lst []))] [],.set 10 (.bin .mod (.idx (.var 6) (.cst (.int 1))) (.bi .len [.var 1])),.set 11 (.tup [.idx (.var 4) (.bin .mod (.idx (.var 6) (.cst (.int 2))) (.bi .len [.var 4])),.tup [.idx (.var 4) (.bin .mod (.idx (.var 6) (.cst (.int 3))) (.bi .len [.var 4]))]]),.set 12 (.var 5),.ite (.cmp .Eh (.var 11) (.var 1)) [.set 12 (.call "learnt" [.bin .add (.var 1) (.tup [.var 11])])] [],.set 13 (.call "learnt" [.bin .add (.F6 (.var 1) [] [.var 10]) (.F6 (.var 1) [.bin .add (.var 10) (.cst (.int 1))] [])]),.ret (.and [.bi .all [.comp 1 UO .seq [.var 5] [] (.cmp .isin (.var 0) (.var 13))],.bi .all [.comp 1 UO .seq [.var 13] [] (.cmp .isin (.var 0) (.var 6))]])]⟩
noncomputable def prog:List Fn:=[kQ,fJ,eE,bK,dC,bR,ip,iq,c6,da,eF,nW,c7,fK,mB,kR,je,kS,jf,kU,kW,kX,eG,dE,sZ]
noncomputable def ck:Ck:=⟨prog.map (·.name),[]⟩
end K
namespace K
open PySem L2 TM EO Od
noncomputable def b8(f:Str->List Nat)(k:Str):U:=.lst ((f k).map λt:Nat=>U.int (t:Nat))
theorem iP(d:List (Str×Nat))(y:Str×Nat)(k:Str):aJ (d++[y]) k=if y.1=k then aJ d k++[y.2] else aJ d k:=by
 rw[pM];by_cases e:y.1=k
 ·rw[δ e];simp[aJ,e]
 ·rw[ε e];simp[aJ,e]
theorem xA(d:List (Str×Nat))(k:Str):(aJ d k).length<=d.length:=by
 unfold aJ;rw[UQ];exact Vv _ _
section
theorem nX(hl:ps.length<=1000):∃ks:List Str,(∀w,w∉ks->aJ ps w=[])/\bM Γ eE [.lst (ps.map stN)]=UI (.ok (.own,.Ee ks (ks.map (b8 (aJ ps))))):=by
 have hsz:(2000:Nat)<=US:=by decide
 have Ei:TM.start [.lst (ps.map stN)] 4=[UI (.any,.lst (ps.map stN)),UK,UK,UK]:=rfl;let S:=λ(ks:List Str) (us:List U) (o2 o3:Option (Kd×U))=>([UI (.any,.lst (ps.map stN)),UI (.Eb,.Ee ks us),o2,o3]:aq)
 let body:List TM.S:=[.ite (.inD UN (.var 2) 1)
    [.putD 1 (.var 2) (.lst [])]
    [],
   .FJ 1 (.var 2) (.var 3)]
 obtain⟨st',Ep,EB,ks,o2,o3,e,hn,hk,MO⟩:=cM (t:=UN) (is:=[2,3]) (body:=execs Γ body) (rs:=[(.any,.lst (ps.map stN))]) (λp:Str×Nat=>(Kd.any,stN p))
  (λd r st=>d++r=ps/\∃(ks:List Str) (o2 o3:Option (Kd×U)),st=S ks (ks.map (b8 (aJ d))) o2 o3/\ks.Nodup/\(∀w,w∉ks->aJ d w=[])/\ks.length<=d.length) (λ_ _ _ _=>trivial) (λd y r st Ey=>by
   obtain⟨EB,ks,o2,o3,e,hn,hk,MO⟩:=Ey;subst e;have GF:d.length<1000:=by have:=θ VX EB;simp at this;omega
   let i2:Option (Kd×U):=UI (.any,.str y.1);let i3:Option (Kd×U):=UI (.any,.int (y.2:Nat));have MN:=xA d y.1;have app:∀(ks:List Str),ks.Nodup->y.1∈ks->Run (execs Γ [.FJ 1 (.var 2) (.var 3)]) (S ks (ks.map (b8 (aJ d))) i2 i3) .nx (S ks (ks.map (b8 (aJ (d++[y])))) i2 i3):=λks hn hy=>by
    have hg:cY ks (ks.map (b8 (aJ d))) y.1=UI (.lst ((aJ d y.1).map λt:Nat=>U.int (t:Nat))):=by rw[ij,δ hy];rfl
    have hs:iD ks (ks.map (b8 (aJ d))) y.1 (.lst ((aJ d y.1).map (λt:Nat=>U.int (t:Nat))++[.int (y.2:Nat)]))=ks.map (b8 (aJ (d++[y]))):=by
     rw[kP _ _ _ _ hn];refine VT λk hk=>?_;unfold b8;rw[iP];by_cases e:y.1=k
     ·subst e;rw[δ rfl,δ rfl];simp
     ·rw[ε e,ε (VP e)]
    rw[<-hs];exact xx (k:=.any) (r:=(.any,.int (y.2:Nat))) rfl (bj rfl) hy (bj rfl) (mf rfl) hg (by rw[UQ];omega) aH
   have tc:Run (Et Γ (.inD UN (.var 2) 1)) (S ks (ks.map (b8 (aJ d))) i2 i3) (!UP (y.1∈ks)) (S ks (ks.map (b8 (aJ d))) i2 i3):=xv (neg:=UN) (k:=.any) (bj rfl) rfl;have F2:Run (cH UN [2,3] (.any,stN y)) (S ks (ks.map (b8 (aJ d))) o2 o3) () (S ks (ks.map (b8 (aJ d))) i2 i3):=sX (.inr rfl);by_cases hy:y.1∈ks
   ·rw[η hy]at tc;refine⟨_,_,F2,fj tc (λh=>by cases h) λ_=>app ks hn hy,by rw[<-EB];simp,ks,_,_,rfl,hn,λw hw=>?_,by simp;omega⟩;have TJ:y.1≠w:=λz=>hw (by rw[<-z];exact hy);rw[iP,ε TJ];exact hk w hw
   ·rw[ζ hy]at tc;have IY:(ks++[y.1]).Nodup:=by
     rw[VC];refine⟨hn,by simp,λa ha b hb e=>?_⟩;have:b=y.1:=by simpa using hb
     subst this;exact hy (e▸ha)
    have em:ks.map (b8 (aJ d))++[.lst []]=(ks++[y.1]).map (b8 (aJ d)):=by
     rw[Vm];congr 1
     show _=[b8 (aJ d) y.1]
     unfold b8;rw[hk y.1 hy];rfl
    have LK:=app (ks++[y.1]) IY (by simp);rw[<-em]at LK;refine⟨_,_,F2,fj tc (λ_=>xw (k:=.any) (xs:=[]) (cU ah trivial ba (Vo _)) rfl (bj rfl) hy ⋯ LK) λh=>(by cases h),by rw[<-EB];simp,ks++[y.1],_,_,rfl,IY,λw hw=>?_,by simp;omega⟩;have GW:w∉ks/\w≠y.1:=by simpa using hw
    rw[iP,ε (VP GW.2)];exact hk w GW.1) ps [] (S [] [] UK UK) ⟨rfl,[],UK,UK,rfl,.nil,λ_ _=>rfl,U_ _⟩
 subst e;rw[Vb]at *;refine⟨ks,hk,?_⟩;have e:(ps.map stN).map (λu=>(kE .any,u))=ps.map λp=>(Kd.any,stN p):=by rw[U4];rfl
 exact aF rfl (.inl rfl) Ei (xu (cV (rs:=[(.any,.lst (ps.map stN))]) (st1:=S [] [] UK UK) (af (bj rfl) ah) trivial rfl rfl (by rw[e];exact Ep) (bN (Dt rfl) (pv rfl))))
def Ad(Γ:Tab):Prop:=∀ps:List (Str×Nat),ps.length<=1000->∃ks:List Str,(∀w,w∉ks->aJ ps w=[])/\Γ "gathered" [.lst (ps.map stN)]=UI (.ok (.own,.Ee ks (ks.map (b8 (aJ ps)))))
theorem rf(hg:Ad Γ)(hO:Once rows)(h8:∀r∈rows,r.2.length<=8)(hr:rows.length<=100):
  ∃ks:List Str,(∀w,w∉ks->ES rows rows.length w=[])/\bM Γ bK [.tup (rows.map B')]=UI (.ok (.own,.Ee ks (ks.map (b8 (ES rows rows.length))))):=by
 have hsz:(2000:Nat)<=US:=by decide
 have Ei:TM.start [.tup (rows.map B')] 4=[UI (.loc,.tup (rows.map B')),UK,UK,UK]:=by simp[TM.start,EL,aV]
 let S:=λ(ps:List (Str×Nat)) (o2 o3:Option (Kd×U))=>([UI (.loc,.tup (rows.map B')),UI (.own,.lst (ps.map stN)),o2,o3]:aq)
 let body:List TM.S:=[.ext 1 (.comp 1 UO .seq [.idx (.var 3) (.cst (.int 1))] [] (.tup [.var 0,.var 3]))]
 obtain⟨st',Ep,EB,ps,o2,o3,e,hp,EY⟩:=cM (t:=UN) (is:=[2,3]) (body:=execs Γ body) (rs:=[(.loc,.tup (rows.map B'))]) (λp:Row×Nat=>(Kd.loc,U.tup [.int (p.2:Nat),B' p.1]))
  (λd r st=>d++r=rows.zipIdx/\∃(ps:List (Str×Nat)) (o2 o3:Option (Kd×U)),st=S ps o2 o3/\(∀w,aJ ps w=ES rows d.length w)/\ps.length<=8 * d.length) (λ_ _ _ _=>trivial) (λd y r st Ey=>by
   obtain⟨EB,ps,o2,o3,e,hp,EY⟩:=Ey;subst e;obtain⟨row,i⟩:=y;have hy:(rows.zipIdx)[d.length]?=UI (row,i):=by rw[<-EB];simp
   rw[ć,U3]at hy;obtain⟨Fe,E8,e⟩:=hy;have e1:Fe=row:=θ Ŋ e;have e2:0+d.length=i:=θ Prod.snd e;rw[Yq]at e2;subst e1 e2;have GF:d.length<100:=by have:=θ VX EB;simp at this;omega
   have QK:=h8 Fe (Vt E8);let i2:Option (Kd×U):=UI (.loc,.int (d.length:Nat));let i3:Option (Kd×U):=UI (.loc,B' Fe);have hx:=dH (cond:=aM Γ []) (elt:=ev Γ (.tup [.var 0,.var 3])) (src:=[(.loc,.tup (Fe.2.map .str))]) (st:=S ps i2 i3) trivial .loc (.inl rfl) U.str (λx=>stN (x,d.length)) .loc (λ_=>dR) Fe.2 [] (by simp;omega)
    (λy _=>⟨kC (af (ae rfl) (af (ae rfl) ah)) trivial (bg aU (bg aU ba)) (by show 2<=US;omega),aU⟩)
   rw[Vb]at hx;have e:(Fe.2.map U.str).map (λu=>(kE .loc,u))=Fe.2.map λr=>(Kd.loc,U.str r):=by rw[U4];rfl
   have hc:Run (ev Γ (.comp 1 UO .seq [.idx (.var 3) (.cst (.int 1))] [] (.tup [.var 0,.var 3]))) (S ps i2 i3) (.own,.lst (Fe.2.map λx=>stN (x,d.length))) (S ps i2 i3) :=
    bJ (rs:=[(.loc,.tup (Fe.2.map .str))]) (af (aW (x:=(.loc,B' Fe)) (ae rfl) aD trivial rfl) ah) trivial (by show UI _=_;rw[e]) hx
   have em:ps.map stN++(Fe.2.map λx=>stN (x,d.length))=(ps++Fe.2.map λx=>(x,d.length)).map stN:=by simp
   refine⟨S ps i2 i3,S (ps++Fe.2.map λx=>(x,d.length)) i2 i3,sX (.inl rfl),?_,by rw[<-EB];simp,_,_,_,rfl,λw=>?_,by simp;omega⟩
   ·show Run _ _ _ [UI (.loc,.tup (rows.map B')),UI (.own,.lst ((ps++Fe.2.map λx=>(x,d.length)).map stN)),i2,i3];rw[<-em];exact sO (k:=.own) (k':=.own) rfl hc rfl rfl (sQ (by rw[UQ,UQ];omega) rfl) aH
   ·rw[U'];exact uK hO E8 hp w) rows.zipIdx [] (S [] UK UK) ⟨rfl,[],UK,UK,rfl,λw=>by simp[aJ,ES],by simp⟩
 subst e;rw[Vb,List.length_zipIdx]at hp EY;have hit:F0 .II [(.loc,.tup (rows.map B'))]=UI (rows.zipIdx.map λp:Row×Nat=>(Kd.loc,U.tup [.int (p.2:Nat),B' p.1])):=by
  show UI ((rows.map B').zipIdx.map λp=>(kE .loc,U.tup [.int p.2,p.1]))=_;rw[List.zipIdx_map,U4];rfl
 obtain⟨ks,k1,k2⟩:=hg ps ⋯;have ef:aJ ps=ES rows rows.length:=funext hp;rw[ef]at k1 k2;refine⟨ks,k1,?_⟩;exact aF rfl (.inl rfl) Ei (ay (r:=(.own,.lst [])) (cU ah trivial ba (Vo _)) aY (cV (rs:=[(.loc,.tup (rows.map B'))]) (st1:=S [] UK UK) (af (ae rfl) ah) trivial hit rfl Ep
  (bN (bx (af (ax rfl) ah) ⟨⟨.own,rfl,rfl⟩,trivial⟩ k2) hZ)))
theorem ly{names:List Str}(G9:∀r∈rows,r.1∈names)(OZ:names.length<64)(hR:∀t∈R,t<rows.length):
  ∃st:List (Str×Nat),NS rows K0 R st/\bM Γ dC [.tup (rows.map B'),.lst (R.map λt:Nat=>.int (t:Nat)),.Ee K0 vs]=UI (.ok (.own,.lst (st.map stN))):=by
 have hsz:(2000:Nat)<=US:=by decide
 have Ei:TM.start [.tup (rows.map B'),.lst (R.map λt:Nat=>.int (t:Nat)),.Ee K0 vs] 6=[UI (.loc,.tup (rows.map B')),UI (.any,.lst (R.map λt:Nat=>.int (t:Nat))),UI (.any,.Ee K0 vs),UK,UK,UK]:=by simp[TM.start,EL,aV]
 let S:=λ(ps:List (Str×Nat)) (o4 o5:Option (Kd×U))=>([UI (.loc,.tup (rows.map B')),UI (.any,.lst (R.map λt:Nat=>.int (t:Nat))),UI (.any,.Ee K0 vs),UI (.own,.Ee (ps.map (·.1)) (ps.map λp=>.int (p.2:Nat))),o4,o5]:aq)
 let body:List TM.S:=[.set 5 (.idx (.idx (.var 0) (.var 4)) (.cst (.int 0))),
   .ite (.and [.cmp .Eh (.var 5) (.var 2),.cmp .Eh (.var 5) (.var 3)])
    [.put 3 (.var 5) (.var 4)]
    []]
 have GZ:∀{d:List Nat} {ps:List (Str×Nat)},NS rows K0 d ps->ps.length<=names.length:=λ{d ps} x=>by
  have:=sW x.once (L:=names) λw hw=>by
   obtain⟨s,hs,rfl⟩:=Vc.mp hw;obtain⟨_,_,r,h1,h2⟩:=x.ok s hs;rw[<-h2];exact G9 r (Vt h1)
  simpa using this
 obtain⟨st',Ep,EB,ps,o4,o5,e,x⟩:=cM (t:=UO) (is:=[4]) (body:=execs Γ body) (rs:=[(.any,.lst (R.map λt:Nat=>.int (t:Nat)))]) (λt:Nat=>(Kd.any,U.int (t:Nat)))
  (λd r st=>d++r=R/\∃(ps:List (Str×Nat)) (o4 o5:Option (Kd×U)),st=S ps o4 o5/\NS rows K0 d ps) (λ_ _ _ _=>trivial) (λd t r st Ey=>by
   obtain⟨EB,ps,o4,o5,e,x⟩:=Ey;subst e;have ht:t<rows.length:=hR t (by rw[<-EB];simp);have E8:rows[t]?=UI rows[t]:=by simp[ht]
   generalize rows[t]=row at E8;let i4:Option (Kd×U):=UI (.any,.int (t:Nat));let i5:Option (Kd×U):=UI (.loc,.str row.1);have Fu:=GZ x;have tc:Run (Et Γ (.and [.cmp .Eh (.var 5) (.var 2),.cmp .Eh (.var 5) (.var 3)])) (S ps i4 i5) (!UP (row.1∈K0)&&!UP (row.1∈ps.map (·.1))) (S ps i4 i5) :=
    sG (BV (bY (ae rfl) (bj rfl) trivial iO) λ_=>eu (bY (ae rfl) (ax rfl) ⟨⟨.own,rfl,rfl⟩,trivial⟩ iO))
   have pre:∀{F_:aq},Run (execs Γ [.ite (.and [.cmp .Eh (.var 5) (.var 2),.cmp .Eh (.var 5) (.var 3)])
    [.put 3 (.var 5) (.var 4)]
    []]) (S ps i4 i5) .nx F_->Run (execs Γ body) (S ps i4 o5) .nx F_:=λh =>
    ay (r:=(.loc,.str row.1)) (aW (x:=(.loc,B' row)) (aW (ae rfl) (bj rfl) trivial (jM (zx E8))) aD trivial rfl) aQ h
   have F2:Run (cH UO [4] (.any,.int (t:Nat))) (S ps o4 o5) () (S ps i4 o5):=cn jc;by_cases h1:row.1∈K0
   ·rw[η h1]at tc;exact⟨_,_,F2,pre (fj tc (λh=>by cases h) λ_=>aH),by rw[<-EB];simp,ps,_,_,rfl,x.skip E8 (.inl h1)⟩
   ·by_cases h2:row.1∈ps.map (·.1)
    ·rw[ζ h1,η h2]at tc;exact⟨_,_,F2,pre (fj tc (λh=>by cases h) λ_=>aH),by rw[<-EB];simp,ps,_,_,rfl,x.skip E8 (.inr h2)⟩
    ·rw[ζ h1,ζ h2]at tc;refine⟨_,S (ps++[(row.1,t)]) i4 i5,F2,pre (fj tc (λ_=>?_) λh=>by cases h),by rw[<-EB];simp,_,_,_,rfl,x.take E8 h1 h2⟩;have e1:(ps++[(row.1,t)]).map (·.1)=ps.map (·.1)++[row.1]:=by simp
     have e2:((ps++[(row.1,t)]).map λp=>U.int (p.2:Nat))=(ps.map λp=>U.int (p.2:Nat))++[.int (t:Nat)]:=by simp
     show Run _ _ _ [UI (.loc,.tup (rows.map B')),UI (.any,.lst (R.map λt:Nat=>.int (t:Nat))),UI (.any,.Ee K0 vs),UI (.own,.Ee ((ps++[(row.1,t)]).map (·.1)) ((ps++[(row.1,t)]).map λp=>.int (p.2:Nat))),i4,i5];rw[e1,e2];exact sN (k:=.own) (rv:=(.any,.int (t:Nat))) (rk:=(.loc,.str row.1)) (bj rfl) rfl (ae rfl) (bg (mf rfl) (bg aU ba)) rfl rfl (sY (by rw[UQ];omega) h2) aH) R [] (S [] UK UK) ⟨rfl,[],UK,UK,rfl,NS.start K0⟩
 subst e;rw[Vb]at x;have Fu:=GZ x;obtain⟨qs,q1,q2⟩:=zw (ps:=ps) ⋯ x.once;refine⟨qs,x.perm q1,?_⟩;have e:(R.map λt:Nat=>U.int (t:Nat)).map (λu=>(kE .any,u))=R.map λt=>(Kd.any,U.int (t:Nat)):=by rw[U4];rfl
 exact aF rfl (.inl rfl) Ei (ay (r:=(.own,.Ee [] [])) kD aY (cV (rs:=[(.any,.lst (R.map λt:Nat=>.int (t:Nat)))]) (st1:=S [] UK UK) (af (bj rfl) ah) trivial rfl rfl (by rw[e];exact Ep) (bN (Dv rfl q2) hZ)))
end
noncomputable def mi(rows:List Row)(K0:List Str)(d:List Nat)(p:Nat):Int:=(cnt rows K0 p:Int) - (if p∈d then 1 else 0)
noncomputable def bE(rows:List Row)(f:Nat->Int):List U:=(UX rows.length).map λp=>U.int (f p)
noncomputable def eI(R:List Nat):List U:=R.map λt:Nat=>U.int (t:Nat)
theorem zy(rows:List Row)(K0:List Str):bE rows (mi rows K0 [])=bE rows λp=>(cnt rows K0 p:Int):=by
 unfold bE mi;refine VT λp _=>?_;simp
theorem zA(hO:Once rows)(hw:w∉K0):bE rows (mi rows K0 (ES rows rows.length w))=bE rows λp=>(cnt rows (K0++[w]) p:Int):=by
 unfold bE mi;refine VT λp hp=>?_;have EY:=V6.mp hp;have ha:=nU hO hw p;by_cases h:w∈told rows p
 ·rw[δ (ic.mpr ⟨EY,h⟩)];rw[δ h]at ha;show U.int ((cnt rows K0 p:Int) - 1)=U.int (cnt rows (K0++[w]) p:Int);congr 1
  omega
 ·rw[ε λz=>h (ic.mp z).2];rw[ε h]at ha;show U.int ((cnt rows K0 p:Int) - 0)=U.int (cnt rows (K0++[w]) p:Int);congr 1
  omega
theorem xB(hd:t∉d):(bE rows (mi rows K0 d)).set t (.int (mi rows K0 d t - 1))=bE rows (mi rows K0 (d++[t])):=by
 unfold bE;rw[set_range];refine VT λp _=>?_;unfold mi;by_cases e:p=t
 ·subst e;rw[δ rfl,ε hd,δ (by simp)];rw[show((cnt rows K0 p:Int) - 0 - 1)=(cnt rows K0 p:Int) - 1 by omega]
 ·rw[ε e];have:(p∈d++[t])↔p∈d:=by simp[e]
  simp only[this]
theorem xC(h:t<rows.length):(bE rows f)[t]?=UI (.int (f t)):=by simp[bE,h]
section
variable{Γ:Tab}{rows:List Row}
noncomputable def s9:List TM.S:=[.aug UN 2 (.var 9) (.cst (.int 1)),.ite (.cmp .eq (.idx (.var 2) (.var 9)) (.cst (.int 0))) [.app 5 (.var 9)] []]
theorem pQ(hO:Once rows)(hr:rows.length<=100)(hw:w∉K0)(NF:R.length<=10000)(o9:Option (Kd×U))(FV:∀st,a5 src st):∃FW:Option (Kd×U),
  Run (forM UO [9] (execs Γ s9) src ((ES rows rows.length w).map λt:Nat=>(Kd.loc,U.int (t:Nat))))
   [b0,b1,UI (.own,.lst (bE rows λp=>(cnt rows K0 p:Int))),b3,b4,UI (.own,.lst (eI R)),o6,o7,o8,o9] .nx
   [b0,b1,UI (.own,.lst (bE rows λp=>(cnt rows (K0++[w]) p:Int))),b3,b4,UI (.own,.lst (eI (R++(ES rows rows.length w).filter λt=>UP (cnt rows K0 t=1)))),o6,o7,o8,FW]:=by
 have hsz:(20000:Nat)<=US:=by decide
 let S:=λ(ms:List U) (R:List Nat) (o9:Option (Kd×U))=>([b0,b1,UI (.own,.lst ms),b3,b4,UI (.own,.lst (eI R)),o6,o7,o8,o9]:aq)
 obtain⟨st',Ep,EB,FW,e⟩:=cM (t:=UO) (is:=[9]) (body:=execs Γ s9) (rs:=src) (λt:Nat=>(Kd.loc,U.int (t:Nat)))
  (λd r st=>d++r=ES rows rows.length w/\∃o9:Option (Kd×U),st=S (bE rows (mi rows K0 d)) (R++d.filter λt=>UP (cnt rows K0 t=1)) o9) (λ_ _ st _=>FV st) (λd t r st Ey=>by
   obtain⟨EB,o9,e⟩:=Ey;subst e;have FR:t∈ES rows rows.length w:=by rw[<-EB];simp
   have ht:t<rows.length:=(ic.mp FR).1;have Eo:=uJ (rows:=rows) rows.length w;have TK:t∉d:=λz=>by
    rw[<-EB,VC]at Eo;exact Eo.2.2 t z t (by simp) rfl
   have GF:d.length<=100:=by
    have h1:=θ VX EB;have h2:(ES rows rows.length w).length<=(UX rows.length).length:=Vv _ _;simp at h1 h2;omega
   let i9:Option (Kd×U):=UI (.loc,.int (t:Nat));let R1:=R++d.filter λt=>UP (cnt rows K0 t=1);have GP:R1.length<=10100:=by
    have:(d.filter λt=>UP (cnt rows K0 t=1)).length<=d.length:=Vv _ _;show(R++_).length<=_;rw[U'];omega
   have Fm:ED (bE rows (mi rows K0 (d++[t]))) (t:Int)=UI (.int (mi rows K0 (d++[t]) t)):=bG (xC ht);have hv:mi rows K0 (d++[t]) t=(cnt rows K0 t:Int) - 1:=by unfold mi;rw[δ (by simp)]
   have tc:Run (Et Γ (.cmp .eq (.idx (.var 2) (.var 9)) (.cst (.int 0)))) (S (bE rows (mi rows K0 (d++[t]))) R1 i9) (UP (cnt rows K0 t=1)) (S (bE rows (mi rows K0 (d++[t]))) R1 i9) :=
    bY (aW (x:=(.bor 2,.lst (bE rows (mi rows K0 (d++[t]))))) (ax rfl) (ae rfl) ⟨⟨.own,rfl,rfl⟩,trivial⟩ (aP Fm)) aD trivial (gz (by
     rw[hv,VR];simp;omega))
   have pre:∀{F_:aq},Run (execs Γ [.ite (.cmp .eq (.idx (.var 2) (.var 9)) (.cst (.int 0)))
      [.app 5 (.var 9)]
      []]) (S (bE rows (mi rows K0 (d++[t]))) R1 i9) .nx F_->Run (execs Γ s9) (S (bE rows (mi rows K0 d)) R1 i9) .nx F_:=λh=>by
    refine Du (us:=bE rows (mi rows K0 d)) (k1:=.loc) (k2:=.loc) (j:=t) (w:=1) rfl (ae rfl) (xC ht) aD ?_;rw[xB TK];exact h
   have F2:Run (cH UO [9] (.loc,.int (t:Nat))) (S (bE rows (mi rows K0 d)) R1 o9) () (S (bE rows (mi rows K0 d)) R1 i9):=cn aQ;cases hc:UP (cnt rows K0 t=1) with
   |false =>
    rw[hc]at tc;refine⟨_,_,F2,pre (fj tc (λh=>by cases h) λ_=>aH),by rw[<-EB];simp,i9,?_⟩;rw[WM,V_,hc];simp[S,R1]
   |true =>
    rw[hc]at tc;refine⟨_,S (bE rows (mi rows K0 (d++[t]))) (R1++[t]) i9,F2,pre (fj tc (λ_=>?_) λh=>by cases h),by rw[<-EB];simp,i9,?_⟩
    ·have em:eI (R1++[t])=eI R1++[.int (t:Nat)]:=by simp[eI]
     show Run _ _ _ [b0,b1,UI (.own,.lst (bE rows (mi rows K0 (d++[t])))),b3,b4,UI (.own,.lst (eI (R1++[t]))),o6,o7,o8,i9];rw[em];exact kF (k:=.own) (k':=.own) (r:=(.loc,.int (t:Nat))) rfl (ae rfl) aU rfl rfl (by unfold eI;rw[UQ];omega) aH
    ·rw[WM,V_,hc];simp[S,R1]) (ES rows rows.length w) [] (S (bE rows (mi rows K0 [])) R o9) ⟨rfl,o9,by simp⟩
 subst e;rw[Vb]at Ep;rw[zy,zA hO hw]at Ep;exact⟨FW,Ep⟩
noncomputable def xD:List TM.S:=[.put 3 (.var 7) (.cst (.bl UN)),.EA UO [9] .seq [.Gq 1 (.var 7) (.lst [])] s9]
theorem uM(hO:Once rows)(hr:rows.length<=100)(GN:∀w,w∉ks->ES rows rows.length w=[])(Eo:(K0++st.map (·.1)).Nodup)(hl:K0.length+st.length<=100)(vs:List U)(o7 o8 o9:Option (Kd×U)):∃(E2:List U) (R:List Nat) (G_ G' FW:Option (Kd×U)),
  RI rows K0 (K0++st.map (·.1)) R/\(st=[]->R=[])/\Run (forM UN [7,8] (execs Γ xD) [(.bor 6,.lst (st.map stN))] (st.map λs=>(Kd.loc,stN s)))
   [b0,UI (.own,.Ee ks (ks.map (b8 (ES rows rows.length)))),UI (.own,.lst (bE rows λp=>(cnt rows K0 p:Int))),UI (.own,.Ee K0 vs),b4,UI (.own,.lst []),UI (.own,.lst (st.map stN)),o7,o8,o9] .nx
   [b0,UI (.own,.Ee ks (ks.map (b8 (ES rows rows.length)))),UI (.own,.lst (bE rows λp=>(cnt rows (K0++st.map (·.1)) p:Int))),UI (.own,.Ee (K0++st.map (·.1)) E2),b4,UI (.own,.lst (eI R)),UI (.own,.lst (st.map stN)),G_,G',FW]:=by
 let S:=λ(K:List Str) (vs:List U) (R:List Nat) (o7 o8 o9:Option (Kd×U))=>([b0,UI (.own,.Ee ks (ks.map (b8 (ES rows rows.length)))),UI (.own,.lst (bE rows λp=>(cnt rows K p:Int))),UI (.own,.Ee K vs),b4,UI (.own,.lst (eI R)),UI (.own,.lst (st.map stN)),o7,o8,o9]:aq)
 obtain⟨st',Ep,EB,E2,R,G_,G',FW,e,x,NF,Mm⟩:=cM (t:=UN) (is:=[7,8]) (body:=execs Γ xD) (rs:=[(.bor 6,.lst (st.map stN))]) (λs:Str×Nat=>(Kd.loc,stN s))
  (λd r O5=>d++r=st/\∃(vs:List U) (R:List Nat) (o7 o8 o9:Option (Kd×U)),O5=S (K0++d.map (·.1)) vs R o7 o8 o9/\RI rows K0 (K0++d.map (·.1)) R/\R.length<=100 * d.length/\(d=[]->R=[])) (λ_ _ O5 ⟨_,vs,R,o7,o8,o9,e,_⟩=>by subst e;exact⟨⟨.own,rfl,rfl⟩,trivial⟩) (λd s r O5 Ey=>by
   obtain⟨EB,vs,R,o7,o8,o9,e,x,NF,Mm⟩:=Ey;subst e;obtain⟨w,p⟩:=s;have GF:d.length<st.length:=by have:=θ VX EB;simp at this;omega
   have hw:w∉K0++d.map (·.1):=λz=>by
    rw[<-EB,Vm,<-İ,VC]at Eo;exact Eo.2.2 w z w (by simp) rfl
   let i7:Option (Kd×U):=UI (.loc,.str w);let i8:Option (Kd×U):=UI (.loc,.int (p:Nat));obtain⟨FW,Fo⟩:=pQ (Γ:=Γ) hO hr hw (R:=R) ⋯ (b0:=b0) (b1:=UI (.own,.Ee ks (ks.map (b8 (ES rows rows.length))))) (b3:=UI (.own,.Ee (K0++d.map (·.1)++[w]) (vs++[.bl UN]))) (b4:=b4) (o6:=UI (.own,.lst (st.map stN))) (o7:=i7) (o8:=i8) o9 (src:=[(.loc,b8 (ES rows rows.length) w)]) (λ_=>trivial);have em:K0++(d++[(w,p)]).map (·.1)=K0++d.map (·.1)++[w]:=by simp
   have MO:(K0++d.map (·.1)).length<1000:=by rw[U',UQ];omega
   have hg:(match cY ks (ks.map (b8 (ES rows rows.length))) w with|some v=>(Kd.loc,v)|none=>(.loc,U.lst []))=(.loc,b8 (ES rows rows.length) w):=by
    rw[ij];by_cases h:w∈ks
    ·rw[δ h]
    ·rw[ε h];unfold b8;rw[GN w h];rfl
   have e2:((ES rows rows.length w).map λt:Nat=>U.int (t:Nat)).map (λu=>(kE .loc,u))=(ES rows rows.length w).map λt=>(Kd.loc,U.int (t:Nat)):=by rw[U4];rfl
   refine⟨S (K0++d.map (·.1)) vs R i7 i8 o9,S (K0++d.map (·.1)++[w]) (vs++[.bl UN]) (R++(ES rows rows.length w).filter λt=>UP (cnt rows (K0++d.map (·.1)) t=1)) i7 i8 FW,sX (.inl rfl),?_,by rw[<-EB];simp,vs++[.bl UN],_,i7,i8,FW,by rw[em],?_,?_,λz=>by simp at z⟩
   ·refine sN (k:=.own) (rv:=(.loc,.bl UN)) (rk:=(.loc,.str w)) aD rfl (ae rfl) (bg aU (bg aU ba)) rfl rfl (sY MO hw) ?_;exact cV (rs:=[(.loc,b8 (ES rows rows.length) w)]) (af (BW (k:=.loc) (z:=(.own,.lst [])) (u:=.lst []) rfl (ae rfl) (cU ah trivial ba (Vo _)) wQ hg) ah) trivial (by show UI (X9 (λu=>(kE .loc,u)) _)=_;rw[e2]) rfl Fo aH
   ·rw[em];exact x.step hO hw
   ·have:((ES rows rows.length w).filter λt=>UP (cnt rows (K0++d.map (·.1)) t=1)).length<=100:=by
     refine VN (Vv _ _) ?_;have h2:(ES rows rows.length w).length<=(UX rows.length).length:=Vv _ _;simp at h2;omega
    rw[U',U',YY];omega) st [] (S K0 vs [] o7 o8 o9) ⟨rfl,vs,[],o7,o8,o9,by simp[S],by simpa using RI.start K0,by simp,λ_=>rfl⟩
 subst e;exact⟨E2,R,G_,G',FW,by simpa using x,λz=>Mm (by simpa using z),by simpa[S,eI] using Ep⟩
noncomputable def fP(ET:List (List (Str×Nat))):List U:=ET.map λl=>U.lst (l.map stN)
noncomputable def xE:List TM.S:=[.set 6 (.call "new_steps" [.var 0,.var 5,.var 3]),.set 5 (.lst []),.EA UN [7,8] .seq [.var 6] xD,.ite (.cmp .ne (.var 6) (.lst [])) [.app 4 (.var 6)] []]
def xF(Γ:Tab)(rows:List Row):Prop:=∀(R:List Nat) (K0:List Str) (vs:List U),(∀t∈R,t<rows.length)->∃st:List (Str×Nat),NS rows K0 R st/\Γ "new_steps" [.tup (rows.map B'),.lst (eI R),.Ee K0 vs]=UI (.ok (.own,.lst (st.map stN)))
theorem iQ(hO:Once rows)(hr:rows.length<=100)(hN:xF Γ rows)(GN:∀w,w∉ks->ES rows rows.length w=[]):∀(f:Nat) (sts:List (Str×Nat)) (ET:List (List (Str×Nat))) (R:List Nat) (vs:List U) (o6 o7 o8 o9:Option (Kd×U)),
  LI rows sts R->ET.flatten=sts->ET.length<=sts.length->(rows.length - sts.length)+(if R=[] then 1 else 2)<=f ->
  ∃(LL:List (Str×Nat)) (JL:List (List (Str×Nat))) (st':aq),LI rows LL []/\JL.flatten=LL/\JL.length<=100/\st'[4]?=UI (UI (.own,.lst (fP JL))) /\
   Run (gw (Et Γ (.cmp .ne (.var 5) (.lst []))) (execs Γ xE) f) [UI (.loc,.tup (rows.map B')),UI (.own,.Ee ks (ks.map (b8 (ES rows rows.length)))),UI (.own,.lst (bE rows λp=>(cnt rows (sts.map (·.1)) p:Int))),UI (.own,.Ee (sts.map (·.1)) vs),UI (.own,.lst (fP ET)),UI (.own,.lst (eI R)),o6,o7,o8,o9] .nx st'
 |0,sts,ET,R,vs,o6,o7,o8,o9,_,_,_,h=>by split at h<;>omega
 |f+1,sts,ET,R,vs,o6,o7,o8,o9,x,hf,K9,h=>by
  have hsz:(20000:Nat)<=US:=by decide
  have GZ:∀{s:List (Str×Nat)} {R':List Nat},LI rows s R'->s.length<=rows.length:=λ{s R'} x=>by
   have h1:=ie x.ok .nil;rw[Vb]at h1;have:=sW h1 (ig x.ok);simpa using this
  have Fu:=GZ x;let S:=λ(K:List Str) (vs:List U) (ET:List (List (Str×Nat))) (R:List Nat) (o6 o7 o8 o9:Option (Kd×U))=>([UI (.loc,.tup (rows.map B')),UI (.own,.Ee ks (ks.map (b8 (ES rows rows.length)))),UI (.own,.lst (bE rows λp=>(cnt rows K p:Int))),UI (.own,.Ee K vs),UI (.own,.lst (fP ET)),UI (.own,.lst (eI R)),o6,o7,o8,o9]:aq)
  have TL:∀R:List Nat,FA 50 (.lst (eI R))=UN:=λR=>by show cX 49 _=UN;exact mz (λt:Nat=>((t:Nat):Int)) R 49
  have tc:Run (Et Γ (.cmp .ne (.var 5) (.lst []))) (S (sts.map (·.1)) vs ET R o6 o7 o8 o9) (!(eI R).isEmpty) (S (sts.map (·.1)) vs ET R o6 o7 o8 o9) :=
   bY (ax rfl) (cU ah trivial ba (Vo _)) ⟨⟨.own,rfl,rfl⟩,trivial⟩ (pO (TL R))
  by_cases hR:R=[]
  ·subst hR;exact⟨sts,ET,_,x,hf,⋯,rfl,xr tc⟩
  ·rw[ε hR]at h;have TN:(!(eI R).isEmpty)=UN:=by
    cases R with
    |nil=>exact absurd rfl hR
    |cons a l=>rfl
   rw[TN]at tc;obtain⟨st,n,Ei⟩:=hN R (sts.map (·.1)) vs λt ht=>(x.LJ t ht).1;have Eo:(sts.map (·.1)++st.map (·.1)).Nodup:=by
    have h1:=ie x.ok .nil;rw[Vb]at h1;rw[VC];refine⟨h1,n.once,λa ha b hb e=>?_⟩;obtain⟨s,hs,rfl⟩:=Vc.mp hb;exact(n.ok s hs).2.1 (e▸ha)
   have hlen:sts.length+st.length<=rows.length:=by
    have:=sW Eo (L:=rows.map (·.1)) λy hy=>by
     rcases Ve.mp hy with hy|hy
     ·exact ig x.ok y hy
     ·obtain⟨s,hs,rfl⟩:=Vc.mp hy;obtain⟨_,_,r,q1,q2⟩:=n.ok s hs;exact Vc.mpr ⟨r,Vt q1,q2⟩
    simpa using this
   let i6:Option (Kd×U):=UI (.own,.lst (st.map stN));obtain⟨E2,R',G_,G',FW,y,Ms,O6⟩:=uM (Γ:=Γ) hO hr GN Eo (by rw[UQ];omega) (b0:=UI (.loc,.tup (rows.map B'))) (b4:=UI (.own,.lst (fP ET))) vs o7 o8 o9;have x':=x.step n y;have em:(sts++st).map (·.1)=sts.map (·.1)++st.map (·.1):=Vm;have TQ:FA 50 (.lst (st.map stN))=UN:=by show cX 49 _=UN;exact pP st 48
   have MP:Run (Et Γ (.cmp .ne (.var 6) (.lst []))) (S (sts.map (·.1)++st.map (·.1)) E2 ET R' i6 G_ G' FW) (!(st.map stN).isEmpty) (S (sts.map (·.1)++st.map (·.1)) E2 ET R' i6 G_ G' FW) :=
    bY (ax rfl) (cU ah trivial ba (Vo _)) ⟨⟨.own,rfl,rfl⟩,trivial⟩ (pO TQ)
   have e1:(st.map stN).map (λu=>(kE (.bor 6),u))=st.map λs=>(Kd.loc,stN s):=by rw[U4];rfl
   have pre:∀{F_:aq},Run (execs Γ [.ite (.cmp .ne (.var 6) (.lst []))
    [.app 4 (.var 6)]
    []]) (S (sts.map (·.1)++st.map (·.1)) E2 ET R' i6 G_ G' FW) .nx F_->Run (execs Γ xE) (S (sts.map (·.1)) vs ET R o6 o7 o8 o9) .nx F_:=λh=>by
    refine ay (r:=(.own,.lst (st.map stN))) (bx (af (ae rfl) (af (ax rfl) (af (ax rfl) ah))) ⟨⟨.own,rfl,rfl⟩,⟨.own,rfl,rfl⟩,trivial⟩ Ei) aY ?_;refine ay (r:=(.own,.lst [])) (cU ah trivial ba (Vo _)) aY ?_;exact cV (rs:=[(.bor 6,.lst (st.map stN))]) (af (ax rfl) ah) ⟨⟨.own,rfl,rfl⟩,trivial⟩ (by show UI (X9 (λu=>(kE (.bor 6),u)) _)=_;rw[e1]) rfl O6 h
   by_cases Fh:st=[]
   ·have TR:=Ms Fh;subst Fh;rw[show(!(([]:List (Str×Nat)).map stN).isEmpty)=UO from rfl]at MP;have ee:sts++[]=sts:=V1 _;rw[ee]at x';have hb:=pre (fj MP (λh=>by cases h) λ_=>aH);obtain⟨JM,JN,st2,z1,z2,z3,z4,z5⟩:=iQ hO hr hN GN f sts ET R' E2 i6 G_ G' FW x' hf K9 (by rw[δ TR];omega);refine⟨JM,JN,st2,z1,z2,z3,z4,xt tc hb ?_⟩;have e3:sts.map (·.1)++([]:List (Str×Nat)).map (·.1)=sts.map (·.1):=by simp
    show Run _ (S (sts.map (·.1)++([]:List (Str×Nat)).map (·.1)) E2 ET R' i6 G_ G' FW) _ _;rw[e3];exact z5
   ·have O7:(!(st.map stN).isEmpty)=UN:=by
     cases st with
     |nil=>exact absurd rfl Fh
     |cons a l=>rfl
    rw[O7]at MP;have TU:0<st.length:=Đ.mpr Fh;have ef:fP (ET++[st])=fP ET++[.lst (st.map stN)]:=by simp[fP]
    have hb:Run (execs Γ xE) (S (sts.map (·.1)) vs ET R o6 o7 o8 o9) .nx (S (sts.map (·.1)++st.map (·.1)) E2 (ET++[st]) R' (UI (.loc,.lst (st.map stN))) G_ G' FW):=by
     refine pre (fj MP (λ_=>?_) λh=>by cases h);show Run _ _ _ [UI (.loc,.tup (rows.map B')),UI (.own,.Ee ks (ks.map (b8 (ES rows rows.length)))),UI (.own,.lst (bE rows λp=>(cnt rows (sts.map (·.1)++st.map (·.1)) p:Int))),UI (.own,.Ee (sts.map (·.1)++st.map (·.1)) E2),UI (.own,.lst (fP (ET++[st]))),UI (.own,.lst (eI R')),UI (.loc,.lst (st.map stN)),G_,G',FW];rw[ef];exact kF (k:=.own) (k':=.own) (r:=(.bor 6,.lst (st.map stN))) (u:=.lst (st.map stN)) rfl (ax rfl) (Ds rfl) rfl rfl (by unfold fP;rw[UQ];omega) aH
    obtain⟨JM,JN,st2,z1,z2,z3,z4,z5⟩:=iQ hO hr hN GN f (sts++st) (ET++[st]) R' E2 (UI (.loc,.lst (st.map stN))) G_ G' FW x' (by rw[Ē,hf];simp) (by rw[U',U',YY];omega) (by rw[U'];split<;>omega);refine⟨JM,JN,st2,z1,z2,z3,z4,xt tc hb ?_⟩;rw[em]at z5;exact z5
def Ae(Γ:Tab)(rows:List Row):Prop:=∃ks:List Str,(∀w,w∉ks->ES rows rows.length w=[])/\Γ "places_that_tell" [.tup (rows.map B')]=UI (.ok (.own,.Ee ks (ks.map (b8 (ES rows rows.length)))))
theorem fQ(hO:Once rows)(hr:rows.length<=100)(hP:Ae Γ rows)(hN:xF Γ rows):∃(sts:List (Str×Nat)) (ET:List (List (Str×Nat))),LI rows sts []/\ET.flatten=sts/\ET.length<=100/\bM Γ bR [.tup (rows.map B')]=UI (.ok (.own,.lst (fP ET))):=by
 have hsz:(20000:Nat)<=US:=by decide
 obtain⟨ks,GN,EY⟩:=hP;have Ei:TM.start [.tup (rows.map B')] 10=[UI (.loc,.tup (rows.map B')),UK,UK,UK,UK,UK,UK,UK,UK,UK]:=by simp[TM.start,EL,aV]
 let i0:Option (Kd×U):=UI (.loc,.tup (rows.map B'));let i1:Option (Kd×U):=UI (.own,.Ee ks (ks.map (b8 (ES rows rows.length))));let i2:Option (Kd×U):=UI (.own,.lst (bE rows λp=>(cnt rows [] p:Int)));have g2:Run (ev Γ (.comp 1 UO .seq [.var 0] [] (.bi .len [.idx (.var 0) (.cst (.int 1))]))) [i0,i1,UK,UK,UK,UK,UK,UK,UK,UK] (.own,.lst (bE rows λp=>(cnt rows [] p:Int))) [i0,i1,UK,UK,UK,UK,UK,UK,UK,UK]:=by
  have hx:=dH (cond:=aM Γ []) (elt:=ev Γ (.bi .len [.idx (.var 0) (.cst (.int 1))])) (src:=[(.loc,.tup (rows.map B'))]) (st:=[i0,i1,UK,UK,UK,UK,UK,UK,UK,UK]) trivial .loc (.inl rfl) B' (λr=>.int (r.2.length:Nat)) .loc (λ_=>dR) rows [] (by simp;omega)
   (λy _=>⟨cI (af (aW (x:=(.loc,B' y)) (ae rfl) aD trivial rfl) ah) trivial (by rw[jy,UQ]),aU⟩)
  rw[Vb]at hx;have e:(rows.map B').map (λu=>(kE .loc,u))=rows.map λr=>(Kd.loc,B' r):=by rw[U4];rfl
  have e2:(rows.map λr=>U.int (r.2.length:Nat))=bE rows λp=>(cnt rows [] p:Int):=by
   unfold bE;apply Wv
   ·simp
   ·intro i h1 h2;have hi:i<rows.length:=by simpa using h1
    have ht:told rows i=rows[i].2:=jA (by simp[hi]);have hc:cnt rows [] i=rows[i].2.length:=by unfold cnt q_;rw[ht];simp
    simp[hc]
  rw[e2]at hx;exact bJ (rs:=[(.loc,.tup (rows.map B'))]) (af (ae rfl) ah) trivial (by show UI _=_;rw[e]) hx
 let R0:=(UX rows.length).filter λp=>UP (cnt rows [] p=0);let GX:aq:=[i0,i1,i2,UI (.own,.Ee [] []),UI (.own,.lst []),UK,UK,UK,UK,UK]
 have g5:Run (ev Γ (.comp 2 UN .II [.var 2] [.cmp .eq (.var 1) (.cst (.int 0))] (.var 0))) GX (.own,.lst (eI R0)) GX:=by
  have hx:=gB (st:=GX) (cond:=aM Γ [.cmp .eq (.var 1) (.cst (.int 0))]) (elt:=ev Γ (.var 0)) (src:=[(.bor 2,.lst (bE rows λp=>(cnt rows [] p:Int)))]) ⟨⟨.own,rfl,rfl⟩,trivial⟩ (λp:Nat=>U.int (p:Nat)) (λp:Nat=>U.int (cnt rows [] p:Int)) (λp:Nat=>U.int (p:Nat)) (λp=>UP (cnt rows [] p=0)) (UX rows.length) [] (by simp;omega)
   (λy _=>⟨eu (bY (ae rfl) aD trivial (gz (by rw[VR];simp))),ae rfl⟩)
  rw[Vb]at hx;have e:((bE rows λp=>(cnt rows [] p:Int)).zipIdx.map λp=>(kE (.bor 2),U.tup [.int p.2,p.1]))=(UX rows.length).map λp:Nat=>(Kd.loc,U.tup [.int (p:Nat),.int (cnt rows [] p:Int)]):=by
   unfold bE;apply Wv
   ·simp
   ·intro i h1 h2;simp[kE]
  exact bJ (rs:=[(.bor 2,.lst (bE rows λp=>(cnt rows [] p:Int)))]) (af (ax rfl) ah) ⟨⟨.own,rfl,rfl⟩,trivial⟩ (by show UI _=_;rw[e]) hx
 have x0:LI rows [] R0:=⟨trivial,λt ht=>by
  obtain⟨a,b⟩:=Vq.mp ht;exact⟨V6.mp a,by simpa using b⟩,λt r h1 h2=>.inl (Vq.mpr ⟨V6.mpr (UW.mp h1).1,by simpa using h2⟩)⟩
 obtain⟨sts,ET,st',z1,z2,z3,z4,z5⟩:=iQ hO hr hN GN fuel [] [] R0 [] UK UK UK UK x0 rfl (U_ _) (by unfold fuel;split<;>simp<;>omega);refine⟨sts,ET,z1,z2,z3,?_⟩;exact aF rfl (.inl rfl) Ei (ay (r:=(.own,.Ee ks (ks.map (b8 (ES rows rows.length))))) (bx (af (ae rfl) ah) trivial EY) aY (ay g2 aY (ay (r:=(.own,.Ee [] [])) kD aY (ay (r:=(.own,.lst [])) (cU ah trivial ba (Vo _)) aY (ay g5 aY (Ab z5 (bN (ax z4) (pv z4))))))))
theorem uN(hs:Γ "steps_in_rounds" [.tup (rows.map B')]=UI (.ok (.own,.lst (fP ET))))(hf:ET.flatten=sts)(hl:sts.length<=100):bM Γ ip [.tup (rows.map B')]=UI (.ok (.own,.lst (sts.map stN))):=by
 have hsz:(20000:Nat)<=US:=by decide
 have Ei:TM.start [.tup (rows.map B')] 3=[UI (.loc,.tup (rows.map B')),UK,UK]:=by simp[TM.start,EL,aV]
 let S:=λ(l:List (Str×Nat)) (o2:Option (Kd×U))=>([UI (.loc,.tup (rows.map B')),UI (.own,.lst (l.map stN)),o2]:aq)
 obtain⟨st',Ep,EB,o2,e⟩:=cM (t:=UO) (is:=[2]) (body:=execs Γ [.ext 1 (.var 2)]) (rs:=[(.own,.lst (fP ET))]) (λl:List (Str×Nat)=>(Kd.loc,U.lst (l.map stN)))
  (λd r st=>d++r=ET/\∃o2:Option (Kd×U),st=S d.flatten o2) (λ_ _ _ _=>trivial) (λd y r st Ey=>by
   obtain⟨EB,o2,e⟩:=Ey;subst e;have hb:d.flatten.length+y.length<=100:=by
    have:=θ (λl:List (List (Str×Nat))=>l.flatten.length) EB;simp only[Ē,YH,U',hf]at this;omega
   refine⟨S d.flatten (UI (.loc,.lst (y.map stN))),S (d++[y]).flatten (UI (.loc,.lst (y.map stN))),cn aQ,?_,by rw[<-EB];simp,_,rfl⟩;have em:(d++[y]).flatten.map stN=d.flatten.map stN++y.map stN:=by simp
   show Run _ _ _ [UI (.loc,.tup (rows.map B')),UI (.own,.lst ((d++[y]).flatten.map stN)),UI (.loc,.lst (y.map stN))];rw[em];exact sO (k:=.own) (k':=.own) rfl (ae rfl) rfl rfl (sQ (by rw[UQ,UQ];omega) rfl) aH) ET [] (S [] UK) ⟨rfl,UK,rfl⟩
 subst e;have e:(fP ET).map (λu=>(kE .own,u))=ET.map λl=>(Kd.loc,U.lst (l.map stN)):=by unfold fP;rw[U4];rfl
 have h0:=aF (Γ:=Γ) (fn:=ip) rfl (.inl rfl) Ei (ay (r:=(.own,.lst [])) (cU ah trivial ba (Vo _)) aY (cV (rs:=[(.own,.lst (fP ET))]) (st1:=S [] UK) (af (bx (af (ae rfl) ah) trivial hs) ah) trivial rfl rfl (by rw[e];exact Ep) (bN (ax rfl) (pv rfl))));rw[Vb,hf]at h0;exact h0
end
end K
namespace TM
open PySem L2 EO
theorem s_(bs:List Bool):F7 .any [(k,.lst (bs.map .bl))]=UI (.loc,.bl (bs.any id)):=by
 show(eZ (bs.map U.bl)).map _=_;have:∀bs:List Bool,eZ (bs.map U.bl)=UI bs:=λbs=>by
  induction bs with
  |nil=>rfl
  |cons b bs ih=>show(eZ (bs.map U.bl)).map _=_;rw[ih];rfl
 rw[this];rfl
section
theorem Af(h:st[j]?=UI (UI (.own,u))):Run (d6 i (.bor j,u0)) st () ((st.set j (UI (.loc,u))).set i (UI (.loc,u))):=by
 show(match st[j]? with|some (UI (.own,u))=>UI (Ex.ok (),(st.set j (UI (.loc,u))).set i (UI (.loc,u)))|_=>UK)=_;rw[h]
theorem pR(h:st[i]?=UI (UI (.loc,.bl b))):Run (Et Γ (.var i)) st b st:=aa (fW h) (cy rfl)
theorem uO{told known:List Str}(hl:told.length<=1000)(hs:Run (ev Γ src) st (.loc,.tup (told.map .str)) st)(hj:st[j]?=UI (UI (.loc,w))\/st[j]?=UI (UI (.own,w)))(hw:∀x:Str,bo .isin (.str x) w=UI (UP (x∈known))):
  Run (ev Γ (.bi .any [.comp 1 UO .seq [src] [] (.cmp .isin (.var 0) (.var (j+1)))])) st (.loc,.bl (told.any λx=>UP (x∈known))) st:=by
 have hsz:(1000:Nat)<=US:=by decide
 have hx:=dH (cond:=aM Γ []) (elt:=ev Γ (.cmp .isin (.var 0) (.var (j+1)))) (src:=[(.loc,.tup (told.map .str))]) (st:=st) trivial .loc (.inl rfl) U.str (λx=>.bl (UP (x∈known))) .loc (λ_=>dR) told [] (by simp;omega)
  (λy _=>⟨by
   rcases hj with hj|hj
   ·exact dn (ae rfl) (ae (by simpa using hj)) trivial (hw y)
   ·exact dn (ae rfl) (ax (by simpa using hj)) ⟨⟨.own,rfl,by simpa using hj⟩,trivial⟩ (hw y),aU⟩)
 rw[Vb]at hx;have e:(told.map U.str).map (λu=>(kE .loc,u))=told.map λr=>(Kd.loc,U.str r):=by rw[U4];rfl
 have e2:(told.map λx=>U.bl (UP (x∈known)))=(told.map λx=>UP (x∈known)).map U.bl:=by rw[U4];rfl
 rw[e2]at hx;have e3:(told.any λx=>UP (x∈known))=((told.map λx=>UP (x∈known)).any id):=by rw[ð];rfl
 rw[e3];exact cI (af (bJ (rs:=[(.loc,.tup (told.map .str))]) (af hs ah) trivial (by show UI _=_;rw[e]) hx) ah) trivial (s_ _)
end
noncomputable def cu(rows:List Row)(H:List Str)(w:Str):Bool:=(rows.filter λr=>UP (r.1=w)).all λr=>r.2.any λx=>UP (x∈H)
noncomputable def Ei(rows:List Row)(H:List Str):List Str:=H.filter (cu rows H)
end TM
namespace K
open PySem L2 TM EO
section
noncomputable def ir:E:=.bi .all [.comp 1 UO .seq [.var 0] [.cmp .eq (.idx (.var 0) (.cst (.int 0))) (.var 6)] (.bi .any [.comp 1 UO .seq [.idx (.var 0) (.cst (.int 1))] [] (.cmp .isin (.var 0) (.var 4))])]
noncomputable def pS:List TM.S:=[.set 4 (.lst []),.EA UO [5] .seq [.var 2] [.ite ir [.app 4 (.var 5)] []],.set 3 (.cmp .lt (.bi .len [.var 4]) (.bi .len [.var 2])),.set 2 (.var 4)]
abbrev hS(bk pu:Option (Kd×U))(k2:Kd)(H:List Str)(g:Bool)(o4 o5:Option (Kd×U)):aq:=[bk,pu,UI (k2,.lst (H.map .str)),UI (.loc,.bl g),o4,o5]
noncomputable def IT(k2:Kd):Kd:=if k2.root=UN then .bor 2 else k2
theorem uP{V H:List Str}(h:cu rows V w=UN)(s:∀x∈V,x∈H):cu rows H w=UN:=by
 unfold cu at h ⊢;simp only[VA,YN,γ]at h ⊢;intro r hr;obtain⟨x,h1,h2⟩:=h r hr;exact⟨x,h1,s x h2⟩
theorem pT{V H:List Str}(s:∀x∈V,x∈H)(h:∀w∈V,cu rows V w=UN):∀x∈V,x∈Ei rows H:=λx hx=>Vq.mpr ⟨s x hx,uP (h x hx) s⟩
theorem kY(hr:rows.length<=100)(h8:∀r∈rows,r.2.length<=8)(hk:k2=.own\/k2=.loc)(hH:H.length<=100):
  ∃GI,Run (execs Γ pS) (hS (UI (.loc,.tup (rows.map B'))) pu k2 H g o4 o5) .nx (hS (UI (.loc,.tup (rows.map B'))) pu .loc (Ei rows H) (UP ((Ei rows H).length<H.length)) (UI (.loc,.lst ((Ei rows H).map .str))) GI):=by
 have hsz:(2000:Nat)<=US:=by decide
 let bk:Option (Kd×U):=UI (.loc,.tup (rows.map B'));let S:=λ(L:List Str) (o5:Option (Kd×U))=>hS bk pu k2 H g (UI (.own,.lst (L.map .str))) o5;have v2:∀L o5,Run (ev Γ (.var 2)) (S L o5) (IT k2,.lst (H.map .str)) (S L o5):=λL o5=>by
  rcases hk with rfl|rfl
  ·exact ax rfl
  ·exact ae rfl
 have s2:∀L o5,a5 [(IT k2,.lst (H.map .str))] (S L o5):=λL o5=>by
  rcases hk with rfl|rfl
  ·exact⟨⟨.own,rfl,rfl⟩,trivial⟩
  ·trivial
 have ek:kE (IT k2)=.loc:=by rcases hk with rfl|rfl<;>rfl
 have tc:∀(L:List Str) (w:Str),Run (Et Γ ir) (S L (UI (.loc,.str w))) (cu rows H w) (S L (UI (.loc,.str w))):=λL w=>by
  have hx:=kK (cond:=aM Γ [.cmp .eq (.idx (.var 0) (.cst (.int 0))) (.var 6)]) (elt:=ev Γ (.bi .any [.comp 1 UO .seq [.idx (.var 0) (.cst (.int 1))] [] (.cmp .isin (.var 0) (.var (3+1)))])) (src:=[(.loc,.tup (rows.map B'))]) (st:=S L (UI (.loc,.str w))) trivial .loc (.inl rfl) B' (λr=>.bl (r.2.any λx=>UP (x∈H))) (λr=>UP (r.1=w)) .loc rows [] (by simp;omega)
   (λr Fg=>⟨eu (bY (aW (x:=(.loc,B' r)) (ae rfl) aD trivial rfl) (ae rfl) trivial nO),λ_=>⟨uO (by have:=h8 r Fg;omega) (aW (x:=(.loc,B' r)) (ae rfl) aD trivial rfl) (by
    rcases hk with rfl|rfl
    ·exact .inr rfl
    ·exact .inl rfl) λx=>pN,aU⟩⟩)
  rw[Vb]at hx;have e2:((rows.filter λr=>UP (r.1=w)).map λr=>U.bl (r.2.any λx=>UP (x∈H)))=((rows.filter λr=>UP (r.1=w)).map λr=>r.2.any λx=>UP (x∈H)).map U.bl:=by rw[U4];rfl
  rw[e2]at hx;have hc:=bJ (Γ:=Γ) (k:=1) (t:=UO) (ik:=.seq) (src:=[.var 0]) (st:=S L (UI (.loc,.str w))) (st1:=S L (UI (.loc,.str w))) (rs:=[(.loc,.tup (rows.map B'))]) (af (ae rfl) ah) trivial (by show UI _=_;rw[U4];rfl) hx;have ra:=cI (af hc ah) trivial (fH _);have e3:(((rows.filter λr=>UP (r.1=w)).map λr=>r.2.any λx=>UP (x∈H)).all id)=cu rows H w:=by rw[W5];rfl
  rw[e3]at ra;exact xn ra
 obtain⟨st',Ep,_,GI,e⟩:=cM (t:=UO) (is:=[5]) (body:=execs Γ [.ite ir [.app 4 (.var 5)] []]) (rs:=[(IT k2,.lst (H.map .str))]) (λw:Str=>(Kd.loc,U.str w))
  (λd r st=>d++r=H/\∃o5,st=S (d.filter (cu rows H)) o5) (λd r st ⟨_,o5,e⟩=>by subst e;exact s2 _ _) (λd w r st Ey=>by
   obtain⟨EB,o5,e⟩:=Ey;subst e;have GF:d.length<H.length:=by have:=θ VX EB;simp at this;omega
   have K9:=Vv (cu rows H) d;refine⟨S (d.filter (cu rows H)) (UI (.loc,.str w)),S ((d++[w]).filter (cu rows H)) (UI (.loc,.str w)),cn aQ,fj (tc _ w) (λh=>?_) λh=>?_,by rw[<-EB];simp,UI (.loc,.str w),rfl⟩
   ·have e1:((d++[w]).filter (cu rows H)).map U.str=(d.filter (cu rows H)).map U.str++[.str w]:=by rw[WM];simp[h]
    show Run _ _ _ (hS bk pu k2 H g (UI (.own,.lst (((d++[w]).filter (cu rows H)).map .str))) (UI (.loc,.str w)));rw[e1];exact kF (k:=.own) (k':=.own) (r:=(.loc,.str w)) (us:=(d.filter (cu rows H)).map U.str) rfl (ae rfl) aU rfl rfl (by rw[UQ];omega) aH
   ·have e1:(d++[w]).filter (cu rows H)=d.filter (cu rows H):=by rw[WM];simp[h]
    rw[e1];exact aH) H [] (S [] o5) ⟨rfl,o5,rfl⟩
 subst e;rw[Vb]at Ep;have ei:F0 .seq [(IT k2,.lst (H.map .str))]=UI (H.map λw=>(Kd.loc,U.str w)):=by
  show UI ((H.map U.str).map λu=>(kE (IT k2),u))=_;rw[ek,U4];rfl
 have ok:oW [(IT k2,.lst (H.map .str))] [5] [.ite ir [.app 4 (.var 5)] []]=UN:=by rcases hk with rfl|rfl<;>rfl
 let L:=Ei rows H;have g3:Run (ev Γ (.cmp .lt (.bi .len [.var 4]) (.bi .len [.var 2]))) (S L GI) (.loc,.bl (UP (L.length<H.length))) (S L GI):=by
  refine dn (cI (af (ax rfl) ah) ⟨⟨.own,rfl,rfl⟩,trivial⟩ fE) (cI (af (v2 L GI) ah) (s2 _ _) fE) trivial ?_;show UI (UP (((L.map U.str).length:Int)<((H.map U.str).length:Nat)))=_;congr 1
  rw[VR];simp only[γ,UQ];omega
 exact⟨GI,ay (r:=(.own,.lst [])) (cU ah trivial ba (Vo _)) aY (cV (rs:=[(IT k2,.lst (H.map .str))]) (af (v2 [] o5) ah) (s2 [] o5) ei ok Ep
  (ay g3 aQ (ay (st1:=hS bk pu k2 H (UP (L.length<H.length)) (UI (.own,.lst (L.map .str))) GI) (ax rfl) (Af rfl) aH)))⟩
theorem rg(hr:rows.length<=100)(h8:∀r∈rows,r.2.length<=8):∀(m n:Nat) (H:List Str) (k2:Kd) (o4 o5:Option (Kd×U)),H.length<=m->H.length<=100->(k2=.own\/k2=.loc)->m+2<=n ->
  ∃F TV GI,F.Sublist H/\Ei rows F=F/\(∀V:List Str,(∀w∈V,w∈H)->(∀w∈V,cu rows V w=UN)->∀w∈V,w∈F)/\Run (gw (Et Γ (.var 3)) (execs Γ pS) n) (hS (UI (.loc,.tup (rows.map B'))) pu k2 H UN o4 o5) .nx (hS (UI (.loc,.tup (rows.map B'))) pu .loc F UO TV GI):=by
 intro m;induction m with
 |zero =>
  intro n H k2 o4 o5 hm h1 hk hn;obtain⟨n,rfl⟩:∃k,n=k+2:=⟨n - 2,⋯⟩
  have:H=[]:=XJ.mp ⋯;subst this;obtain⟨GI,hb⟩:=kY (Γ:=Γ) hr h8 (pu:=pu) hk (H:=[]) (by simp) (g:=UN) (o4:=o4) (o5:=o5);exact⟨[],_,GI,Ζ _,rfl,λV s _=>s,xt (pR rfl) hb (xr (pR rfl))⟩
 |succ m ih =>
  intro n H k2 o4 o5 hm h1 hk hn;obtain⟨n,rfl⟩:∃k,n=k+2:=⟨n - 2,⋯⟩
  obtain⟨GI,hb⟩:=kY (Γ:=Γ) hr h8 (pu:=pu) hk (H:=H) h1 (g:=UN) (o4:=o4) (o5:=o5);have Fy:(Ei rows H).Sublist H:=WD;have hle:=Fy.length_le;by_cases Ez:(Ei rows H).length<H.length
  ·rw[η Ez]at hb;obtain⟨F,a,b,h2,h3,TX,h4⟩:=ih (n+1) (Ei rows H) .loc _ GI ⋯ ⋯ (.inr rfl) ⋯;exact⟨F,a,b,h2.trans Fy,h3,λV s h=>TX V (pT s h) h,xt (pR rfl) hb h4⟩
  ·rw[ζ Ez]at hb;have he:Ei rows H=H:=Fy.eq_of_length ⋯;exact⟨Ei rows H,_,GI,Fy,by rw[he,he],λV s h=>pT s h,xt (pR rfl) hb (xr (pR rfl))⟩
theorem xG(hr:rows.length<=100)(h8:∀r∈rows,r.2.length<=8)(hw:ws.length<=60):∃F:List Str,F.Sublist (av (ao ws))/\Ei rows F=F/\(∀V:List Str,(∀w∈V,w∈ws)->(∀w∈V,cu rows V w=UN)->∀w∈V,w∈F)/\bM Γ eG [.tup (rows.map B'),.lst (ws.map .str)]=UI (.ok (.loc,.lst (F.map .str))):=by
 have hd:(ao ws).length<=60:=VN (cj _) hw;have hH:(av (ao ws)).length<=60:=by rw[bf];exact hd
 obtain⟨F,o4,o5,h1,h2,hm,h3⟩:=rg (Γ:=Γ) hr h8 (pu:=UI (.any,.lst (ws.map .str))) 60 fuel (av (ao ws)) .own UK UK hH ⋯ (.inl rfl) (by decide);have Jl:TM.start [.tup (rows.map B'),.lst (ws.map .str)] 6=[UI (.loc,.tup (rows.map B')),UI (.any,.lst (ws.map .str)),UK,UK,UK,UK]:=by simp[TM.start,EL,aV]
 exact⟨F,h1,h2,λV s h=>hm V (λw hw=>(qZ _ _).mpr (s w hw)) h,aF rfl (.inr rfl) Jl (ay (sD (af (bj rfl) ah) trivial (h_ ⋯ ⋯)) aY (ay aD aQ (Ab h3 (bN (ae rfl) dq))))⟩
theorem rh(hr:rows.length<=100)(hR:∀r∈rows,cA names r)(hn:names.length<64):bM Γ dE [.tup (rows.map B')]=UI (.ok (.own,.lst ((aR rows).map .str))):=by
 have hsz:(4000:Nat)<=US:=by decide
 let R0:Option (Kd×U):=UI (.loc,.tup (rows.map B'));have Ei:TM.start [.tup (rows.map B')] 3=[R0,UK,UK]:=by simp[TM.start,EL,aV,R0]
 let S:=λ(ws:List Str) (o2:Option (Kd×U))=>([R0,UI (.own,.lst (ws.map .str)),o2]:aq)
 let H:=rows.map (·.1);have hH:H.length<=100:=by show(rows.map (·.1)).length<=100;simpa using hr
 have h8:∀r∈rows,r.2.length<=8:=λr h=>(hR r h).GZ;obtain⟨st',Ep,_,o2,e⟩:=cM (t:=UO) (is:=[2]) (body:=execs Γ [.ext 1 (.idx (.var 2) (.cst (.int 1)))]) (rs:=[(.loc,.tup (rows.map B'))]) (λr:Row=>(Kd.loc,B' r))
  (λd r st=>d++r=rows/\∃o2,st=S (H++(d.map (·.2)).flatten) o2) (λ_ _ _ _=>trivial) (λd y r st Ey=>by
   obtain⟨EB,o2,e⟩:=Ey;subst e;have hy:y∈rows:=by rw[<-EB];simp
   have TC:=pG (rows:=d) (n:=8) λs hs=>h8 s (by rw[<-EB];simp[hs]);have GF:d.length<=100:=by have:=θ VX EB;simp at this;omega
   have TF:=h8 y hy;refine⟨S (H++(d.map (·.2)).flatten) (UI (.loc,B' y)),S (H++((d++[y]).map (·.2)).flatten) (UI (.loc,B' y)),cn aQ,?_,by rw[<-EB];simp,UI (.loc,B' y),rfl⟩;have e1:(H++((d++[y]).map (·.2)).flatten).map U.str=(H++(d.map (·.2)).flatten).map U.str++y.2.map U.str:=by simp
   show Run _ _ _ [R0,UI (.own,.lst ((H++((d++[y]).map (·.2)).flatten).map .str)),UI (.loc,B' y)];rw[e1];exact sO (k:=.own) (k':=.own) rfl (aW (x:=(.loc,B' y)) (ae rfl) aD trivial rfl) rfl rfl (sP (by rw[UQ,UQ,U'];omega) rfl) aH) rows [] (S H UK) ⟨rfl,UK,by simp⟩
 subst e;rw[Vb]at Ep;have hL:H++(rows.map (·.2)).flatten=iN rows:=rfl;rw[hL]at Ep;have TY:(iN rows).length<4000:=by
  have:=pG h8;show(H++(rows.map (·.2)).flatten).length<4000;rw[U'];omega
 have Hs:(ao (iN rows)).length<64:=by have:=q9 (nQ hR);omega
 have eW:av (ao (iN rows))=aR rows:=xy λx=>by
  rw[cN];simp only[iN,Ve,Vc,Z1];constructor
  ·rintro(⟨r,hr,rfl⟩|⟨l,⟨r,hr,rfl⟩,hx⟩)
   ·exact⟨r,hr,.inl rfl⟩
   ·exact⟨r,hr,.inr hx⟩
  ·rintro⟨r,hr,rfl|hx⟩
   ·exact .inl ⟨r,hr,rfl⟩
   ·exact .inr ⟨_,⟨r,hr,rfl⟩,hx⟩
 have e5:(rows.map B').map (λu=>(kE .loc,u))=rows.map λr=>(Kd.loc,B' r):=by rw[U4];rfl
 have LM:=h_ (k:=.bor 1) TY Hs;rw[eW]at LM;exact aF rfl (.inl rfl) Ei (ay (uH ⋯ rfl) aY (cV (rs:=[(.loc,.tup (rows.map B'))]) (af (ae rfl) ah) trivial rfl rfl (by rw[e5];exact Ep) (bN (sD (af (ax rfl) ah) ⟨⟨.own,rfl,rfl⟩,trivial⟩ LM) hZ)))
end
end K
namespace TM
open PySem L2 EO
section
theorem BY(h0:st[i]?=UI (UI (.Eb,.Ee ks us)))(h1:Run (br 2 UN (pure UN) (ev Γ e) [] (m7 (ks,us)) []) (st.set i UK) vs st1):Run (execs Γ (.GR i e::ss)) st (.rt .own (.lst vs)) st1:=by
 refine uw (aa (a:=(ks,us)) (st1:=st.set i UK) ?_ (aa h1 rfl));show oS i st=_;unfold oS;rw[h0]
end
end TM
namespace K
open PySem L2 TM EO Od
noncomputable def Fv(rows:List Row)(K:List Str):List Str:=(aR rows).filter λx=>UP (x∉K)
theorem iu:x∈Fv rows K↔x∈bC rows/\x∉K:=by
 unfold Fv;rw[Vq,eD];simp
theorem iR(rows:List Row)(K:List Str):(Fv rows K).Nodup:=(ia rows).sublist WD
noncomputable def pick(Z:List Str)(l:List Str):Str:=((l.filter λx=>UP (x∈Z)).head?).getD ""
noncomputable def GJ(Z:List Str)(d:List Row)(k:Str):List Str:=(d.filter λr=>UP (r.1=k)).map λr=>pick Z r.2
noncomputable def cC(Z:List Str)(d:List Row)(k:Str):U:=.lst ((GJ Z d k).map .str)
noncomputable def fk(Z:List Str)(rows:List Row):List Row:=Z.map λk=>(k,GJ Z rows k)
section
variable{Γ:Tab}{rows:List Row}{names:List Str}
theorem gC(h:ss.length<64):F7 .sorted [(k,.lst (ss.map .str))]=UI (.own,.lst ((av ss).map .str)):=by
 show(strsOf (ss.map .str)).bind _=_;rw[cJ];show(if ss.length<64 then _ else _)=_;rw[δ h]
theorem rj{sts:List (Str×Nat)}(hl:sts.length<64)(ho:Γ "order" [.tup (rows.map B')]=UI (.ok (.own,.lst (sts.map stN)))):bM Γ iq [.tup (rows.map B')]=UI (.ok (.own,.lst ((av (sts.map (·.1))).map .str))):=by
 have hsz:(20000:Nat)<=US:=by decide
 have Ei:TM.start [.tup (rows.map B')] 1=[UI (.loc,.tup (rows.map B'))]:=by simp[TM.start,EL,aV]
 have hx:=gB (st:=[UI (.loc,.tup (rows.map B'))]) (cond:=aM Γ []) (elt:=ev Γ (.var 0)) (src:=[(.own,.lst (sts.map stN))]) trivial (λs:Str×Nat=>U.str s.1) (λs=>U.int (s.2:Nat)) (λs=>U.str s.1) (λ_=>UN) sts [] (by simp;omega) (λy _=>⟨dR,ae rfl⟩);rw[Vb,WV.mpr (λ_ _=>rfl)]at hx;have e:(sts.map stN).map (λu=>(kE .own,u))=sts.map λs=>(Kd.loc,U.tup [.str s.1,.int (s.2:Nat)]):=by rw[U4];rfl
 have e2:(sts.map λs=>U.str s.1)=(sts.map (·.1)).map U.str:=by rw[U4];rfl
 rw[e2]at hx;exact aF rfl (.inl rfl) Ei (bN (cI (af (bJ (rs:=[(.own,.lst (sts.map stN))]) (af (bx (af (ae rfl) ah) trivial ho) ah) trivial (by show UI (X9 (λu=>(kE .own,u)) _)=_;rw[e]) hx) ah) trivial (gC (by rw[UQ];exact hl))) hZ)
theorem kZ(hK:K.length<64)(Hh:(aR rows).length<64)(hw:Γ "words_of" [.tup (rows.map B')]=UI (.ok (.own,.lst ((aR rows).map .str))))(hn:Γ "learnt" [.tup (rows.map B')]=UI (.ok (.own,.lst ((av K).map .str)))):
  bM Γ c6 [.tup (rows.map B')]=UI (.ok (.own,.lst ((Fv rows K).map .str))):=by
 have Ei:TM.start [.tup (rows.map B')] 1=[UI (.loc,.tup (rows.map B'))]:=by simp[TM.start,EL,aV]
 have l1:=cj (aR rows);have l2:=cj (av K);rw[bf]at l2;have hs:uf UO (ao (aR rows)) (ao (av K))=UI (.own,.lst ((Fv rows K).map .str)):=by
  unfold uf;rw[δ ⟨⋯,⋯⟩,ε Vw];have e:av ((ao (aR rows)).filter λx=>UP (x∉ao (av K)))=Fv rows K:=by
   refine il ?_ ((cP _).sublist WD);refine(WK ((bW _).sublist WD) (iR rows K)).mpr λx=>?_;unfold Fv;rw[Vq,Vq,bT];simp only[γ,bT,(aZ K).mem_iff]
  rw[e]
 exact aF rfl (.inl rfl) Ei (bN (Ac (bx (af (ae rfl) ah) trivial hw) (fI ⋯) (bx (af (ae rfl) ah) trivial hn) (fI (by rw[bf];omega)) hs) hZ)
theorem pU(Z:List Str)(d:List Row)(r:Row)(k:Str):GJ Z (d++[r]) k=if r.1=k then GJ Z d k++[pick Z r.2] else GJ Z d k:=by
 unfold GJ;rw[WM,Vm,V_,Ye];by_cases e:r.1=k
 ·rw[δ e,δ (η e)];rfl
 ·rw[ε e,ε (by simpa using e)];simp
theorem zB(Z:List Str)(d:List Row)(k:Str):(GJ Z d k).length<=d.length:=by
 unfold GJ;rw[UQ];exact Vv _ _
theorem xH(hr:rows.length<=100)(h8:∀r∈rows,r.2.length<=8)(hU:Z.Nodup)(hl:Z.length<64)(hp:∀r∈rows,r.1∈Z->∃x∈r.2,x∈Z)(hn:Γ "not_learnt" [.tup (rows.map B')]=UI (.ok (.own,.lst (Z.map .str)))):
  bM Γ nW [.tup (rows.map B')]=UI (.ok (.own,.lst ((fk Z rows).map B'))):=by
 have hsz:(20000:Nat)<=US:=by decide
 let R0:Option (Kd×U):=UI (.loc,.tup (rows.map B'));have Ei:TM.start [.tup (rows.map B')] 4=[R0,UK,UK,UK]:=by simp[TM.start,EL,aV,R0]
 let S:=λ(ks:List Str) (us:List TM.U) (o2 o3:Option (Kd×TM.U))=>([R0,UI (.Eb,.Ee ks us),o2,o3]:aq)
 obtain⟨st1,LN,_,o2,e⟩:=cM (t:=UO) (is:=[2]) (body:=execs Γ [.putD 1 (.var 2) (.lst [])]) (rs:=[(.own,.lst (Z.map .str))]) (λw:Str=>(Kd.loc,U.str w))
  (λd r st=>d++r=Z/\∃o2,st=S d (d.map (cC Z [])) o2 UK) (λ_ _ _ _=>trivial) (λd w r st Ey=>by
   obtain⟨EB,o2,e⟩:=Ey;subst e;have hw:w∉d:=λz=>by
    rw[<-EB,VC]at hU;exact hU.2.2 w z w (by simp) rfl
   have GF:d.length<64:=by have:=θ VX EB;simp at this;omega
   have em:(d++[w]).map (cC Z [])=d.map (cC Z [])++[.lst []]:=by rw[Vm];rfl
   refine⟨S d (d.map (cC Z [])) (UI (.loc,.str w)) UK,S (d++[w]) ((d++[w]).map (cC Z [])) (UI (.loc,.str w)) UK,cn aQ,?_,by rw[<-EB];simp,_,rfl⟩;rw[em];exact xw (k:=.loc) (xs:=[]) (cU ah trivial ba (Vo _)) rfl (ae rfl) hw ⋯ aH) Z [] (S [] [] UK UK) ⟨rfl,UK,rfl⟩
 subst e;rw[Vb]at LN;let body:List TM.S:=[.ite (.inD UO (.idx (.var 3) (.cst (.int 0))) 1)
    [.FJ 1 (.idx (.var 3) (.cst (.int 0))) (.idx (.comp 1 UO .seq [.idx (.var 3) (.cst (.int 1))] [.inD UO (.var 0) 2] (.var 0)) (.cst (.int 0)))]
    []]
 obtain⟨st2,LO,_,o3,e⟩:=cM (t:=UO) (is:=[3]) (body:=execs Γ body) (rs:=[(.loc,.tup (rows.map B'))]) (λr:Row=>(Kd.loc,B' r))
  (λd r st=>d++r=rows/\∃o3,st=S Z (Z.map (cC Z d)) o2 o3) (λ_ _ _ _=>trivial) (λd row r st Ey=>by
   obtain⟨EB,o3,e⟩:=Ey;subst e;have GF:d.length<100:=by have:=θ VX EB;simp at this;omega
   have E8:row∈rows:=by rw[<-EB];simp
   have QK:=h8 row E8;let i3:Option (Kd×TM.U):=UI (.loc,B' row);have gi:Run (ev Γ (.idx (.var 3) (.cst (.int 0)))) (S Z (Z.map (cC Z d)) o2 i3) (.loc,.str row.1) (S Z (Z.map (cC Z d)) o2 i3):=aW (x:=(.loc,B' row)) (ae rfl) aD trivial rfl;have tc:Run (Et Γ (.inD UO (.idx (.var 3) (.cst (.int 0))) 1)) (S Z (Z.map (cC Z d)) o2 i3) (UP (row.1∈Z)) (S Z (Z.map (cC Z d)) o2 i3):=xv (neg:=UO) (k:=.loc) gi rfl;have F2:Run (cH UO [3] (.loc,B' row)) (S Z (Z.map (cC Z d)) o2 o3) () (S Z (Z.map (cC Z d)) o2 i3):=cn aQ;by_cases hy:row.1∈Z
   ·rw[η hy]at tc;have hx:=kK (cond:=aM Γ [.inD UO (.var 0) 2]) (elt:=ev Γ (.var 0)) (src:=[(.loc,.tup (row.2.map .str))]) (st:=S Z (Z.map (cC Z d)) o2 i3) trivial .loc (.inl rfl) U.str U.str (λx=>UP (x∈Z)) .loc row.2 [] (by simp;omega)
     (λy _=>⟨eu (xv (neg:=UO) (k:=.loc) (ae rfl) rfl),λ_=>⟨ae rfl,aU⟩⟩)
    rw[Vb]at hx;have e1:(row.2.map U.str).map (λu=>(kE .loc,u))=row.2.map λx=>(Kd.loc,U.str x):=by rw[U4];rfl
    have gc:=bJ (Γ:=Γ) (ik:=.seq) (rs:=[(.loc,.tup (row.2.map .str))]) (st:=S Z (Z.map (cC Z d)) o2 i3) (src:=[.idx (.var 3) (.cst (.int 1))]) (af (aW (x:=(.loc,B' row)) (ae rfl) aD trivial rfl) ah) trivial (by show UI (X9 (λu=>(kE .loc,u)) _)=_;rw[e1]) hx;have Fm:ED ((row.2.filter λx=>UP (x∈Z)).map U.str) ((0:Nat):Int)=UI (.str (pick Z row.2)):=by
     obtain⟨x,OX,OY⟩:=hp row E8 hy;refine bG ?_;unfold pick;cases hf:row.2.filter λx=>UP (x∈Z) with
     |nil =>
      have:x∈row.2.filter λx=>UP (x∈Z):=Vq.mpr ⟨OX,η OY⟩;rw[hf]at this;cases this
     |cons a l=>rfl
    have hg:cY Z (Z.map (cC Z d)) row.1=UI (.lst ((GJ Z d row.1).map .str)):=by rw[ij,δ hy];rfl
    have hs:iD Z (Z.map (cC Z d)) row.1 (.lst ((GJ Z d row.1).map .str++[.str (pick Z row.2)]))=Z.map (cC Z (d++[row])):=by
     rw[kP _ _ _ _ hU];refine VT λk hk=>?_;unfold cC;rw[pU];by_cases e:row.1=k
     ·subst e;rw[δ rfl,δ rfl];simp
     ·rw[ε e,ε (VP e)]
    have MQ:=zB Z d row.1;refine⟨_,S Z (Z.map (cC Z (d++[row]))) o2 i3,F2,fj tc (λ_=>?_) (λh=>by cases h),by rw[<-EB];simp,_,rfl⟩;rw[<-hs];exact xx (k:=.loc) (r:=(.loc,.str (pick Z row.2))) rfl gi hy (aW gc aD trivial (aP (k:=.own) Fm)) aU hg (by rw[UQ];omega) aH
   ·rw[ζ hy]at tc;have em:Z.map (cC Z (d++[row]))=Z.map (cC Z d):=VT λk hk=>by
     unfold cC;rw[pU,ε (show ¬row.1=k from λz=>hy (z▸hk))]
    exact⟨_,S Z (Z.map (cC Z d)) o2 i3,F2,fj tc (λh=>by cases h) (λ_=>aH),by rw[<-EB];simp,i3,by rw[em]⟩) rows [] (S Z (Z.map (cC Z [])) o2 UK) ⟨rfl,UK,rfl⟩
 subst e;rw[Vb]at LO;have hx:=gB (st:=[R0,UK,o2,o3]) (cond:=pure UN) (elt:=ev Γ (.tup [.var 0,.bi .tuple [.var 1]])) (src:=[]) trivial (λk:Str=>U.str k) (λk=>cC Z rows k) (λk=>B' (k,GJ Z rows k)) (λ_=>UN) Z [] (by simp;omega)
  (λy _=>⟨aX,kC (af (ae rfl) (af (cI (af (ae rfl) ah) trivial (r:=(.loc,.tup ((GJ Z rows y).map .str))) rfl) ah)) trivial (bg aU (bg aU ba)) (by show 2<=US;omega)⟩)
 rw[Vb,WV.mpr (λ_ _=>rfl)]at hx;have ei:m7 (Z,Z.map (cC Z rows))=Z.map λk=>(Kd.loc,U.tup [.str k,cC Z rows k]):=by
  have:∀l:List Str,(l.zip (l.map (cC Z rows))).map (λp=>(Kd.loc,U.tup [.str p.1,p.2]))=l.map λk=>(Kd.loc,U.tup [.str k,cC Z rows k]):=λl=>by
   induction l with
   |nil=>rfl
   |cons a l ih=>rw[U7,Yu,U7,ih];rfl
  exact this Z
 have ek:(fk Z rows).map B'=Z.map λk=>B' (k,GJ Z rows k):=by unfold fk;rw[U4];rfl
 rw[ek];have e1:(Z.map U.str).map (λu=>(kE .own,u))=Z.map λw=>(Kd.loc,U.str w):=by rw[U4];rfl
 have e2:(rows.map B').map (λu=>(kE .loc,u))=rows.map λr=>(Kd.loc,B' r):=by rw[U4];rfl
 exact aF rfl (.inl rfl) Ei (xu (cV (rs:=[(.own,.lst (Z.map .str))]) (st1:=S [] [] UK UK) (af (bx (af (ae rfl) ah) trivial hn) ah) trivial (by show UI (X9 (λu=>(kE .own,u)) _)=_;rw[e1]) rfl LN
  (cV (rs:=[(.loc,.tup (rows.map B'))]) (af (ae rfl) ah) trivial (by show UI (X9 (λu=>(kE .loc,u)) _)=_;rw[e2]) rfl LO (BY rfl (by rw[ei];exact hx)))))
end
end K
namespace TM
open PySem L2 EO
abbrev LP:=Str×Int
noncomputable def Fw(s:LP):U:=.tup [.str s.1,.int s.2]
noncomputable def rowAt(rows:List Row)(i:Int):Row:=(rows[i.toNat]?).getD ("",[])
noncomputable def dr(rows:List Row)(known:List Str)(s:LP):Bool :=
 !(UP (s.2<0)||decide ((rows.length:Int)<=s.2))&&(UP ((rowAt rows s.2).1=s.1)&&(UP (s.1∉known)&&(rowAt rows s.2).2.all λx=>UP (x∈known)))
noncomputable def fm(rows:List Row):List Str->List LP->Bool
 |_,[]=>UN
 |known,s::ss=>dr rows known s&&fm rows (known++[s.1]) ss
theorem BZ(h0:0<=i)(h1:i<rows.length):ED (rows.map B') i=UI (B' (rowAt rows i)):=by
 have h:i.toNat<rows.length:=by omega
 have h2:ED (rows.map B') ((i.toNat:Nat):Int)=UI (B' (rowAt rows i)):=bG (by simp[rowAt,h]);have e:((i.toNat:Nat):Int)=i:=by omega
 rw[e]at h2;exact h2
end TM
namespace K
open PySem L2 TM EO
section
theorem pV(h8:∀r∈rows,r.2.length<=8):bM Γ da [.tup (rows.map B'),Fw s,.Ee known vs]=UI (.ok (.loc,.bl (dr rows known s))):=by
 have Ei:TM.start [.tup (rows.map B'),Fw s,.Ee known vs] 6=[UI (.loc,.tup (rows.map B')),UI (.loc,Fw s),UI (.any,.Ee known vs),UK,UK,UK]:=by simp[TM.start,EL,gu,aV,Fw]
 let S:=λ(o3 o4 o5:Option (Kd×U))=>([UI (.loc,.tup (rows.map B')),UI (.loc,Fw s),UI (.any,.Ee known vs),o3,o4,o5]:aq)
 let i3:Option (Kd×U):=UI (.loc,.str s.1);let i4:Option (Kd×U):=UI (.loc,.int s.2);have t1:Run (Et Γ (.or [.cmp .lt (.var 4) (.cst (.int 0)),.cmp .ge (.var 4) (.bi .len [.var 0])])) (S i3 i4 UK) (UP (s.2<0)||decide ((rows.length:Int)<=s.2)) (S i3 i4 UK) :=
  BP (Aa (bY (ae rfl) aD trivial (w9 rfl)) λ_=>wV (bY (ae rfl) (cI (af (ae rfl) ah) trivial rfl) trivial (Dw (by rw[UQ]))))
 have pre:∀{f:Fl} {st':aq},Run (execs Γ (da.body.drop 2)) (S i3 i4 UK) f st'->Run (execs Γ da.body) [UI (.loc,.tup (rows.map B')),UI (.loc,Fw s),UI (.any,.Ee known vs),UK,UK,UK] f st':=λh =>
  ay (r:=(.loc,.str s.1)) (aW (x:=(.loc,Fw s)) (ae rfl) aD trivial rfl) aQ (ay (r:=(.loc,.int s.2)) (aW (x:=(.loc,Fw s)) (ae rfl) aD trivial rfl) aQ h)
 cases h:(UP (s.2<0)||decide ((rows.length:Int)<=s.2)) with
 |true =>
  rw[h]at t1;have:dr rows known s=UO:=by unfold dr;rw[h];rfl
  rw[this];exact aF rfl (.inr rfl) Ei (pre (fj t1 (λ_=>bN aD dq) λh=>by cases h))
 |false =>
  rw[h]at t1;have h':=h;simp only[Bool.or_eq_false_iff,decide_eq_false_iff_not]at h';have ha:=BZ (rows:=rows) (i:=s.2) ⋯ ⋯;have FR:(rowAt rows s.2)∈rows:=by
   have:s.2.toNat<rows.length:=by omega
   simp[rowAt,this]
  have QK:=h8 _ FR;have e:dr rows known s=(UP ((rowAt rows s.2).1=s.1)&&(UP (s.1∉known)&&(rowAt rows s.2).2.all λx=>UP (x∈known))):=by unfold dr;rw[h];rfl
  rw[e];let i5:Option (Kd×U):=UI (.loc,B' (rowAt rows s.2));refine aF rfl (.inr rfl) Ei (pre (fj t1 (λh=>by cases h) λ_=>ay (r:=(.loc,B' (rowAt rows s.2))) (aW (ae rfl) (ae rfl) trivial (jM ha)) aQ (bN (st1:=S i3 i4 i5) (wR (nM (k:=.loc) ?_ λ_=>nM (k:=.loc) ?_ λ_=>qT ?_)) dq)))
  ·exact dn (aW (x:=(.loc,B' (rowAt rows s.2))) (ae rfl) aD trivial rfl) (ae rfl) trivial nO
  ·rw[show UP (s.1∉known)=!UP (s.1∈known) by simp];exact dn (ae rfl) (bj rfl) trivial iO
  ·exact uL (k:=.any) (w:=.Ee known vs) (.inr rfl) ⋯ (aW (x:=(.loc,B' (rowAt rows s.2))) (ae rfl) aD trivial rfl) (.inl rfl) λ_=>BX
noncomputable def nY:List TM.S:=[.ite (.not (.call "is_step" [.var 0,.var 3,.var 2])) [.ret (.cst (.bl UO))] [],.put 2 (.idx (.var 3) (.cst (.int 0))) (.cst (.bl UN))]
def rl(Γ:Tab)(rows:List Row):Prop:=∀(s:LP) (known:List Str) (vs:List U),Γ "is_step" [.tup (rows.map B'),Fw s,.Ee known vs]=UI (.ok (.loc,.bl (dr rows known s)))
theorem pW(hS:rl Γ rows)(hk:k=.loc\/k=.any)(FV:∀known vs o3,a5 src [UI (.loc,.tup (rows.map B')),o1,UI (.own,.Ee known vs),o3]):∀(steps:List LP) (known:List Str) (vs:List U) (o3:Option (Kd×U)),known.length=vs.length->known.length+steps.length<=1000 ->
  ∃st',(fm rows known steps=UN->Run (forM UO [3] (execs Γ nY) src (steps.map λs=>(k,Fw s))) [UI (.loc,.tup (rows.map B')),o1,UI (.own,.Ee known vs),o3] .nx st') /\
   (fm rows known steps=UO->Run (forM UO [3] (execs Γ nY) src (steps.map λs=>(k,Fw s))) [UI (.loc,.tup (rows.map B')),o1,UI (.own,.Ee known vs),o3] (.rt .loc (.bl UO)) st')
 |[],known,vs,o3,_,_=>⟨_,λ_=>wX (FV _ _ _),λh=>by simp[fm]at h⟩
 |s::steps,known,vs,o3,J9,hl=>by
  have hsz:(1000:Nat)<=US:=by decide
  rw[Vj]at hl;let S:=λ(known:List Str) (vs:List U)=>([UI (.loc,.tup (rows.map B')),o1,UI (.own,.Ee known vs),UI (k,Fw s)]:aq)
  have F2:Run (cH UO [3] (k,Fw s)) [UI (.loc,.tup (rows.map B')),o1,UI (.own,.Ee known vs),o3] () (S known vs):=by
   rcases hk with rfl|rfl
   ·exact cn aQ
   ·exact cn jc
  have QL:∀known vs,Run (ev Γ (.var 3)) (S known vs) (k,Fw s) (S known vs):=λknown vs=>by
   rcases hk with rfl|rfl
   ·exact ae rfl
   ·exact bj rfl
  have hc:Run (Et Γ (.not (.call "is_step" [.var 0,.var 3,.var 2]))) (S known vs) (!dr rows known s) (S known vs):=by
   refine sF (nN (af (ae rfl) (af (QL _ _) (af (ax rfl) ah))) ?_ (hS s known vs) rfl);rcases hk with rfl|rfl<;>exact⟨⟨.own,rfl,rfl⟩,trivial⟩
  cases Ef:dr rows known s with
  |false =>
   refine⟨S known vs,λh=>?_,λ_=>D_ (FV _ _ _) F2 (fj hc (λ_=>bN aD dq) λh=>?_)⟩
   ·simp[fm,Ef]at h
   ·simp[Ef]at h
  |true =>
   have IK:s.1∉known:=by
    unfold dr at Ef;simp only[UR,γ]at Ef;exact Ef.2.2.1
   obtain⟨st',h1,h2⟩:=pW hS hk FV steps (known++[s.1]) (vs++[.bl UN]) (UI (k,Fw s)) (by simp[J9]) (by simp;omega);have JK:dv (.str s.1) (.bl UN) (.Ee known vs)=UI (.Ee (known++[s.1]) (vs++[.bl UN])):=by
    show(if known.length<US then UI (U.Ee (dput known vs s.1 (.bl UN)).1 (dput known vs s.1 (.bl UN)).2) else UK)=_;rw[δ ⋯];unfold dput;rw[ε IK]
   have hb:Run (execs Γ nY) (S known vs) .nx (S (known++[s.1]) (vs++[.bl UN])):=by
    refine fj hc (λh=>by simp[Ef]at h) λ_=>?_;refine sN (st1:=S known vs) (st2:=S known vs) (st3:=S known vs) (k:=.own) (k':=.own) (rk:=(kE k,.str s.1)) aD rfl (aW (x:=(k,Fw s)) (QL _ _) aD ?_ rfl) (bg aU (bg ?_ ba)) rfl rfl JK aH
    ·rcases hk with rfl|rfl<;>trivial
    ·rcases hk with rfl|rfl
     ·exact aU
     ·exact mf rfl
   refine⟨st',λh=>zk (FV _ _ _) F2 hb (h1 ?_),λh=>zk (FV _ _ _) F2 hb (h2 ?_)⟩
   ·simpa[fm,Ef] using h
   ·simpa[fm,Ef] using h
theorem nZ(hS:rl Γ rows)(hl:steps.length<=900):bM Γ eF [.tup (rows.map B'),.lst (steps.map Fw)]=UI (.ok (.loc,.bl (fm rows [] steps))):=by
 have Ei:TM.start [.tup (rows.map B'),.lst (steps.map Fw)] 4=[UI (.loc,.tup (rows.map B')),UI (.any,.lst (steps.map Fw)),UK,UK]:=by simp[TM.start,EL,aV]
 obtain⟨st',h1,h2⟩:=pW (rows:=rows) hS (o1:=UI (.any,.lst (steps.map Fw))) (src:=[(.any,.lst (steps.map Fw))]) (k:=.any) (.inr rfl) (λ_ _ _=>trivial) steps [] [] UK rfl (by simp;omega);have e:(steps.map Fw).map (λu=>(kE .any,u))=steps.map λr=>(Kd.any,Fw r):=by rw[U4];rfl
 cases ho:fm rows [] steps with
 |true=>exact aF rfl (.inr rfl) Ei (ay (r:=(.own,.Ee [] [])) kD aY (cV (rs:=[(.any,.lst (steps.map Fw))]) (af (bj rfl) ah) trivial rfl rfl (by rw[e];exact h1 ho) (bN aD dq)))
 |false=>exact aF rfl (.inr rfl) Ei (ay (r:=(.own,.Ee [] [])) kD aY (uw (zY (rs:=[(.any,.lst (steps.map Fw))]) (af (bj rfl) ah) trivial rfl rfl (by rw[e];exact h2 ho))))
end
end K
namespace TM
open PySem L2 EO
noncomputable def O8(rows:List Row)(k:Nat):Str:=(rows.getD k ("",[])).1
noncomputable def Hy(rows:List Row)(w:Str):List Nat:=(UX rows.length).filter λk=>UP (O8 rows k=w)
noncomputable def fX(rows:List Row)(w:Str):List (List Str):=(rows.filter λr=>UP (r.1=w)).map (·.2)
theorem zC(rows:List Row)(w:Str):(Hy rows w).length<=rows.length:=by
 have:=Vv (λk=>UP (O8 rows k=w)) (UX rows.length);rw[WO]at this;exact this
theorem B0(h:i∈Hy rows w):i<rows.length:=V6.mp (Vq.mp h).1
theorem pX(rows:List Row)(w:Str):(Hy rows w).map (λp=>(rows.getD p ("",[])).2)=fX rows w:=by
 have e:rows=(UX rows.length).map λp=>rows.getD p ("",[]):=by
  apply Wv
  ·simp
  ·intro i h1 h2;simp[Xc,h1]
 have h:fX rows w=(((UX rows.length).map λp=>rows.getD p ("",[])).filter λr=>UP (r.1=w)).map (·.2):=by rw[<-e];rfl
 rw[h,Z6,U4];rfl
theorem uQ(rows:List Row)(w:Str):(fX rows w).length=(Hy rows w).length:=by rw[<-pX,UQ]
noncomputable def F'(rows:List Row)(ins:List Str)(r:Row):Bool:=UP (r.2.length=(fX rows r.1).length)&&((fX rows r.1).zip r.2).all λp=>UP (p.2∈p.1)&&UP (p.2∈ins)
noncomputable def LQ(rows prs:List Row):Bool:=(UP (prs.map (·.1)=av (ao (prs.map (·.1))))&&(prs.map (·.1)).all λw=>UP (w∈aR rows))&&prs.all (F' rows (prs.map (·.1)))
theorem B1{ss:List Str}:bo .isin (.str x) (.tup (ss.map U.str))=UI (UP (x∈ss)):=by
 have h:=@pN x ss;exact h
theorem rm{a b:List Str}:bo .ne (.lst (a.map U.str)) (.lst (b.map U.str))=UI (!UP (a=b)):=by
 have h:=@pF a b;simp only[bo]at h ⊢;split at h
 ·rename_i hh;rw[δ hh,VM h]
 ·cases h
theorem B3:bo .ne (.int i) (.int j)=UI (!UP (i=j)):=by
 simp only[bo];rw[δ ⟨rfl,rfl⟩];congr 1
noncomputable def k9(t:Bool)(prs:List Row):U:=if t=UN then .tup (prs.map B') else .lst (prs.map B')
noncomputable def dW(t:Bool):Kd:=if t=UN then .loc else .any
theorem B4(r:Row):gv (k,B' r) (.int 0)=UI (kE k,.str r.1):=rfl
theorem rn(h:F.Sublist (av (ao L))):F=av (ao F):=by
 have nd:F.Nodup:=h.nodup (pH L);refine(il ?_ ((cP _).sublist h)).symm;exact(WK (bW _) nd).mpr λx=>bT _ _
theorem B5(hF:prs.map (·.1)=F)(hs:F.Sublist (av (ao L)))(hL:∀x∈L,x∈aR rows)(ho:∀p∈prs,F' rows F p=UN):LQ rows prs=UN:=by
 unfold LQ;rw[hF];simp only[UR,γ,VA];exact⟨⟨rn hs,λw hw=>hL w ((qZ L w).mp (hs.subset hw))⟩,ho⟩
end TM
namespace K
open PySem L2 TM EO
section
theorem pY(hr:rows.length<=100)(w:Str):bM Γ fJ [.tup (rows.map B'),.str w]=UI (.ok (.own,.lst ((Hy rows w).map λn:Nat=>.int (n:Nat)))):=by
 have hsz:(2000:Nat)<=US:=by decide
 have Ei:TM.start [.tup (rows.map B'),.str w] 2=[UI (.loc,.tup (rows.map B')),UI (.loc,.str w)]:=by simp[TM.start,EL,aV]
 have hx:=gB (st:=[UI (.loc,.tup (rows.map B')),UI (.loc,.str w)]) (cond:=aM Γ [.cmp .eq (.idx (.var 1) (.cst (.int 0))) (.var 3)]) (elt:=ev Γ (.var 0)) (src:=[(.loc,.tup (rows.map B'))]) trivial (λp:Nat=>U.int (p:Nat)) (λp:Nat=>B' (rows.getD p ("",[]))) (λp:Nat=>U.int (p:Nat)) (λp=>UP (O8 rows p=w)) (UX rows.length) [] (by simp;omega)
  (λy _=>⟨eu (bY (aW (x:=(.loc,B' (rows.getD y ("",[])))) (ae rfl) aD trivial rfl) (ae rfl) trivial nO),ae rfl⟩)
 rw[Vb]at hx;have e:((rows.map B').zipIdx.map λp=>(kE .loc,U.tup [.int p.2,p.1]))=(UX rows.length).map λp:Nat=>(Kd.loc,U.tup [.int (p:Nat),B' (rows.getD p ("",[]))]):=by
  apply Wv
  ·simp
  ·intro i h1 h2;have hi:i<rows.length:=by simpa using h1
   simp[kE,Xc,hi]
 exact aF rfl (.inl rfl) Ei (bN (bJ (rs:=[(.loc,.tup (rows.map B'))]) (af (ae rfl) ah) trivial (by show UI _=_;rw[e]) hx) hZ)
theorem pZ(hr:rows.length<=100)(TZ:∀w:Str,Γ "rows_of" [.tup (rows.map B'),.str w]=UI (.ok (.own,.lst ((Hy rows w).map λn:Nat=>.int (n:Nat)))))(r:Row)(ins:List Str):bM Γ c7 [.tup (rows.map B'),B' r,.lst (ins.map .str)]=UI (.ok (.loc,.bl (F' rows ins r))):=by
 have hsz:(2000:Nat)<=US:=by decide
 let P:=Hy rows r.1;have UE:P.length<=100:=VN (zC rows r.1) hr;let S:=λ(o3:Option (Kd×U))=>([UI (.loc,.tup (rows.map B')),UI (.loc,B' r),UI (.any,.lst (ins.map .str)),o3]:aq)
 have Ei:TM.start [.tup (rows.map B'),B' r,.lst (ins.map .str)] 4=S UK:=by simp[TM.start,EL,aV,sR,S]
 let i3:Option (Kd×U):=UI (.own,.lst (P.map λn:Nat=>.int (n:Nat)));have g3:Run (ev Γ (.call "rows_of" [.var 0,.idx (.var 1) (.cst (.int 0))])) (S UK) (.own,.lst (P.map λn:Nat=>.int (n:Nat))) (S UK):=bx (af (ae rfl) (af (aW (x:=(.loc,B' r)) (ae rfl) aD trivial rfl) ah)) trivial (TZ r.1);have j1:Run (ev Γ (.idx (.var 1) (.cst (.int 1)))) (S i3) (.loc,.tup (r.2.map .str)) (S i3):=aW (x:=(.loc,B' r)) (ae rfl) aD trivial rfl;have tc:Run (Et Γ (.cmp .ne (.bi .len [.idx (.var 1) (.cst (.int 1))]) (.bi .len [.var 3]))) (S i3) (!UP (((r.2.map U.str).length:Int)=((P.map λn:Nat=>U.int (n:Nat)).length:Nat))) (S i3) :=
  bY (cI (af j1 ah) trivial jy) (cI (af (ax rfl) ah) ⟨⟨.own,rfl,rfl⟩,trivial⟩ fE) trivial B3
 have hlen:(UP (((r.2.map U.str).length:Int)=((P.map λn:Nat=>U.int (n:Nat)).length:Nat)))=UP (r.2.length=(fX rows r.1).length):=by
  rw[uQ,VR];simp only[γ,UQ];show((r.2.length:Nat):Int)=((Hy rows r.1).length:Nat)↔_;omega
 rw[hlen]at tc;let f:Nat×Str->Bool:=λq=>UP (q.2∈(rows.getD q.1 ("",[])).2)&&UP (q.2∈ins);have hx:=gB (st:=S i3) (cond:=aM Γ []) (elt:=ev Γ (.and [.cmp .isin (.var 1) (.idx (.idx (.var 2) (.var 0)) (.cst (.int 1))),.cmp .isin (.var 1) (.var 4)])) (src:=[(.bor 3,.lst (P.map λn:Nat=>.int (n:Nat))),(.loc,.tup (r.2.map .str))]) ⟨⟨.own,rfl,rfl⟩,trivial⟩ (λq:Nat×Str=>U.int (q.1:Nat)) (λq=>U.str q.2) (λq=>U.bl (f q)) (λ_=>UN) (P.zip r.2) [] (by simp;omega)
  (λq hq=>⟨dR,by
   have HL:q.1<rows.length:=B0 (XG hq).1;have ha:ED (rows.map B') (q.1:Int)=UI (B' (rows.getD q.1 ("",[]))):=bG (by simp[Xc,HL]);exact wR (nM (dn (ae rfl) (aW (x:=(.loc,B' (rows.getD q.1 ("",[])))) (aW (ae rfl) (ae rfl) trivial (jM ha)) aD trivial rfl) trivial B1) λ_=>qT (dn (ae rfl) (bj rfl) trivial pN))⟩)
 rw[Vb,WV.mpr (λ_ _=>rfl)]at hx;have e:F0 .zip [(.bor 3,.lst (P.map λn:Nat=>.int (n:Nat))),(.loc,.tup (r.2.map .str))]=UI ((P.zip r.2).map λq=>(Kd.loc,U.tup [.int (q.1:Nat),.str q.2])):=by
  show UI (((P.map λn:Nat=>U.int (n:Nat)).zip (r.2.map U.str)).map λp=>(kT (.bor 3) .loc,U.tup [p.1,p.2]))=_;rw[Ū,U4];rfl
 have hc:=bJ (Γ:=Γ) (st:=S i3) (st1:=S i3) (rs:=[(.bor 3,.lst (P.map λn:Nat=>.int (n:Nat))),(.loc,.tup (r.2.map .str))]) (af (ax rfl) (af j1 ah)) ⟨⟨.own,rfl,rfl⟩,trivial⟩ e hx;have e2:((P.zip r.2).map λq=>U.bl (f q))=((P.zip r.2).map f).map U.bl:=by rw[U4];rfl
 rw[e2]at hc;have e3:(((P.zip r.2).map f).all id)=((fX rows r.1).zip r.2).all λp=>UP (p.2∈p.1)&&UP (p.2∈ins):=by
  rw[<-pX,W5];have:(((Hy rows r.1).map λp=>(rows.getD p ("",[])).2).zip r.2)=((Hy rows r.1).zip r.2).map λq=>((rows.getD q.1 ("",[])).2,q.2):=by
   have:=Ū (f:=λp=>(rows.getD p ("",[])).2) (g:=(id:Str->Str)) (l₁:=Hy rows r.1) (l₂:=r.2);rw[Y9]at this;rw[this];rfl
  rw[this,W5];rfl
 have ra:=cI (af hc ah) trivial (fH ((P.zip r.2).map f));rw[e3]at ra;cases hb:UP (r.2.length=(fX rows r.1).length) with
 |false =>
  rw[hb]at tc;have:F' rows ins r=UO:=by unfold F';rw[hb];rfl
  rw[this];exact aF rfl (.inr rfl) Ei (ay g3 aY (nG tc (bN aD dq)))
 |true =>
  rw[hb]at tc;have:F' rows ins r=((fX rows r.1).zip r.2).all λp=>UP (p.2∈p.1)&&UP (p.2∈ins):=by unfold F';rw[hb];rfl
  rw[this];exact aF rfl (.inr rfl) Ei (ay g3 aY (bB tc aH (bN ra dq)))
theorem p5(t:Bool)(hl:prs.length<=60)(Hh:(aR rows).length<64)(hw:Γ "words_of" [.tup (rows.map B')]=UI (.ok (.own,.lst ((aR rows).map .str))))(MQ:∀(r:Row) (ins:List Str),Γ "is_blocked" [.tup (rows.map B'),B' r,.lst (ins.map .str)]=UI (.ok (.loc,.bl (F' rows ins r)))):
  bM Γ fK [.tup (rows.map B'),k9 t prs]=UI (.ok (.loc,.bl (LQ rows prs))):=by
 have hsz:(2000:Nat)<=US:=by decide
 let W:=prs.map (·.1);have T1:W.length<=60:=by show(prs.map (·.1)).length<=60;rw[UQ];exact hl
 let S:=λ(o2:Option (Kd×U))=>([UI (.loc,.tup (rows.map B')),UI (dW t,k9 t prs),o2]:aq)
 have Ei:TM.start [.tup (rows.map B'),k9 t prs] 3=S UK:=by cases t<;>simp[TM.start,EL,aV,k9,dW,S]
 have v1:∀o2,Run (ev Γ (.var 1)) (S o2) (dW t,k9 t prs) (S o2):=λo2=>by
  cases t
  ·exact bj rfl
  ·exact ae rfl
 have s1:∀st,a5 [(dW t,k9 t prs)] st:=λst=>by cases t<;>trivial
 have QM:F0 .seq [(dW t,k9 t prs)]=UI (prs.map λr=>(dW t,B' r)):=by cases t<;>(show UI ((prs.map B').map _)=_;rw[U4];rfl)
 have kk:dW t=.loc\/dW t=.any:=by cases t<;>simp[dW]
 have v0:∀(r:Row) (st:aq),Run (ev Γ (.var 0)) (UI (dW t,B' r)::st) (dW t,B' r) (UI (dW t,B' r)::st):=λr st=>by
  cases t
  ·exact bj rfl
  ·exact ae rfl
 have sk:∀(r:Row) (u:U) (st:aq),a5 [(dW t,B' r),(.loc,u)] st:=λr u st=>by cases t<;>trivial
 have g2:Run (ev Γ (.comp 1 UO .seq [.var 1] [] (.idx (.var 0) (.cst (.int 0))))) (S UK) (.own,.lst (W.map .str)) (S UK):=by
  have hx:=dH (cond:=aM Γ []) (elt:=ev Γ (.idx (.var 0) (.cst (.int 0)))) (src:=[(dW t,k9 t prs)]) (st:=S UK) (s1 _) (dW t) kk B' (λr=>.str r.1) (kE (dW t)) (λ_=>dR) prs [] (by simp;omega)
   (λr _=>⟨aW (v0 r _) aD (sk r _ _) (B4 r),by cases t;exact mf rfl;exact aU⟩)
  rw[Vb]at hx;have e:W.map U.str=prs.map λr=>U.str r.1:=by show(prs.map (·.1)).map U.str=_;rw[U4];rfl
  rw[e];exact bJ (rs:=[(dW t,k9 t prs)]) (af (v1 UK) ah) (s1 _) QM hx
 let i2:Option (Kd×U):=UI (.own,.lst (W.map .str));have J7:(ao W).length<64:=XI (cj _) ⋯;have hd2:(ao (aR rows)).length<64:=XI (cj _) Hh;let n:=((ao W).filter λx=>UP (x∉ao (aR rows))).length;have t2:Run (Et Γ (.cmp .gt (.H_ UN (.var 2) (.call "words_of" [.var 0])) (.cst (.int 0)))) (S i2) (UP ((0:Int)<(n:Nat))) (S i2):=by
  refine bY (Ac (r:=(.loc,.int (n:Nat))) (ax rfl) (fI ⋯) (bx (af (ae rfl) ah) trivial hw) (fI ⋯) ?_) aD trivial rfl;show(if _/\_ then _ else _)=_;rw[δ ⟨J7,hd2⟩,δ rfl]
 have en:UP ((0:Int)<(n:Nat))=!(W.all λw=>UP (w∈aR rows)):=by
  rw[VR,V5,<-Bool.not_eq_true,γ,VA];have:(0:Int)<(n:Nat)↔∃x,x∈(ao W).filter λx=>UP (x∉ao (aR rows)):=by
   show(0:Int)<(((ao W).filter λx=>UP (x∉ao (aR rows))).length:Nat)↔_;rw[<-List.length_pos_iff_exists_mem];omega
  rw[this];simp only[Vq,γ,bT];constructor
  ·rintro⟨x,h1,h2⟩ h;exact h2 (h x h1)
  ·intro h;by_cases z:∃x,x∈W/\x∉aR rows
   ·exact z
   ·exact absurd (λx hx=>by by_cases y:x∈aR rows;exact y;exact absurd ⟨x,hx,y⟩ z) h
 rw[en]at t2;have tc:Run (Et Γ (.or [.cmp .ne (.var 2) (.G6 .sset [.var 2]),.cmp .gt (.H_ UN (.var 2) (.call "words_of" [.var 0])) (.cst (.int 0))])) (S i2) (!(UP (W=av (ao W))&&W.all λw=>UP (w∈aR rows))) (S i2):=by
  rw[Bool.not_and];exact BP (Aa (bY (ax rfl) (sD (af (ax rfl) ah) ⟨⟨.own,rfl,rfl⟩,trivial⟩ (h_ ⋯ J7)) ⟨⟨.own,rfl,rfl⟩,trivial⟩ rm) λ_=>wV t2)
 have hx:=dH (cond:=aM Γ []) (elt:=ev Γ (.call "is_blocked" [.var 1,.var 0,.var 3])) (src:=[(dW t,k9 t prs)]) (st:=S i2) (s1 _) (dW t) kk B' (λr=>.bl (F' rows W r)) .loc (λ_=>dR) prs [] (by simp;omega)
  (λr _=>⟨bx (af (ae rfl) (af (v0 r _) (af (ax rfl) ah))) (by cases t<;>exact⟨⟨.own,rfl,rfl⟩,trivial⟩) (MQ r W),aU⟩)
 rw[Vb]at hx;have hc:=bJ (Γ:=Γ) (st:=S i2) (st1:=S i2) (rs:=[(dW t,k9 t prs)]) (af (v1 i2) ah) (s1 _) QM hx;have e2:(prs.map λr=>U.bl (F' rows W r))=(prs.map (F' rows W)).map U.bl:=by rw[U4];rfl
 rw[e2]at hc;have ra:=cI (af hc ah) trivial (fH (prs.map (F' rows W)));have e3:(prs.map (F' rows W)).all id=prs.all (F' rows W):=by rw[W5];rfl
 rw[e3]at ra;have eK:LQ rows prs=((UP (W=av (ao W))&&W.all λw=>UP (w∈aR rows))&&prs.all (F' rows W)):=rfl;rw[eK];cases hb:(UP (W=av (ao W))&&W.all λw=>UP (w∈aR rows)) with
 |false=>rw[hb]at tc;exact aF rfl (.inr rfl) Ei (ay g2 aY (nG tc (bN aD dq)))
 |true=>rw[hb]at tc;exact aF rfl (.inr rfl) Ei (ay g2 aY (bB tc aH (bN ra dq)))
end
end K
namespace K
open PySem L2 TM EO Od
section
structure Kn(rows:List Row)(K:List Str):Prop where
 nd:K.Nodup
 sn:Kg rows K
 cl:kO rows (·∈K)
theorem Kn.perm(a:Kn rows K)(b:Kn rows L):K.Perm L:=same a.nd b.nd a.sn b.sn a.cl b.cl
theorem Kn.of(s:LI rows sts []):Kn rows (sts.map (·.1)):=by
 have Eo:=ie s.ok .nil;have QN:=xq s.ok (λC _ x hx=>by cases hx);rw[Vb]at Eo QN;exact⟨Eo,QN,s.closed⟩
theorem n9(n:Nat)(hw:∀r∈rows,cA names r)(hW:names.length<=14)(hr:rows.length<=100):∃sts:List (Str×Nat),LI rows sts []/\sts.length<=14/\EI prog (n+4) "order" [.tup (rows.map B')]=UI (.ok (.own,.lst (sts.map stN))):=by
 have h8:∀r∈rows,r.2.length<=8:=λr h=>(hw r h).GZ;have hO:Once rows:=λr h=>(hw r h).once;have G9:∀r∈rows,r.1∈names:=λr h=>(hw r h).word;have hG:Ad (EI prog (n+1)):=λps hl=>by
  obtain⟨ks,a,b⟩:=nX (Γ:=EI prog n) hl;exact⟨ks,a,(aG (show E6 prog "gathered" eE from rfl) _).trans b⟩
 have hP:Ae (EI prog (n+2)) rows:=by
  obtain⟨ks,a,b⟩:=rf hG hO h8 hr;exact⟨ks,a,(aG (show E6 prog "places_that_tell" bK from rfl) _).trans b⟩
 have hN:xF (EI prog (n+2)) rows:=λR K0 vs hR=>by
  obtain⟨st,a,b⟩:=ly (Γ:=EI prog (n+1)) G9 ⋯ hR (K0:=K0) (vs:=vs);exact⟨st,a,(aG (show E6 prog "new_steps" dC from rfl) _).trans b⟩
 obtain⟨sts,ET,s1,s2,s3,s4⟩:=fQ hO hr hP hN;have s5:EI prog (n+3) "steps_in_rounds" [.tup (rows.map B')]=UI (.ok (.own,.lst (fP ET))):=(aG (show E6 prog "steps_in_rounds" bR from rfl) _).trans s4;have Ij:sts.length<=14:=by
  have:=sW (Kn.of s1).nd (L:=names) λx hx=>by
   obtain⟨r,a,b⟩:=Vc.mp (ig s1.ok x hx);exact b▸G9 r a
  rw[UQ]at this;omega
 exact⟨sts,s1,Ij,(aG (show E6 prog "order" ip from rfl) _).trans (uN s5 s2 ⋯)⟩
theorem tf(n:Nat)(hw:∀r∈rows,cA names r)(hW:names.length<=14)(hr:rows.length<=100)(hK:Kn rows K):EI prog (n+5) "learnt" [.tup (rows.map B')]=UI (.ok (.own,.lst ((av K).map .str))):=by
 obtain⟨sts,s1,s2,s3⟩:=n9 n hw hW hr;have e:av (sts.map (·.1))=av K:=il (((Kn.of s1).perm hK).trans (aZ K).symm) (cP K);rw[<-e];exact(aG (show E6 prog "learnt" iq from rfl) _).trans (rj ⋯ s3)
theorem Kn.some(hw:∀r∈rows,cA names r)(hW:names.length<=14)(hr:rows.length<=100):∃K,Kn rows K/\K.length<=14:=by
 obtain⟨sts,s1,s2,_⟩:=n9 0 hw hW hr;exact⟨_,.of s1,by rw[UQ];exact s2⟩
theorem Kn.held(hK:Kn rows K):∀r∈rows,r.1∈Fv rows K->∃x∈r.2,x∈Fv rows K:=λr h hz=>by
 apply WI;intro GY;refine(iu.mp hz).2 (hK.cl r h λx hx=>?_);apply WI;intro T2;exact GY ⟨x,hx,iu.mpr ⟨cN.mpr ⟨r,h,.inr hx⟩,T2⟩⟩
theorem Kn.words(hK:Kn rows K):∀x∈K,x∈bC rows:=hK.sn (·∈bC rows) λr h _=>cN.mpr ⟨r,h,.inl rfl⟩
theorem Kn.all(hK:Kn rows K):av (K++Fv rows K)=aR rows:=by
 refine il ?_ (cP _);refine(WK (VC.mpr ⟨hK.nd,iR rows K,λa h b h' e=>(iu.mp h').2 (e▸h)⟩) (ia rows)).mpr λx=>?_;rw[Ve,iu,eD];by_cases h:x∈K
 ·simp[h,hK.words x h]
 ·simp[h]
theorem xI(hw:∀r∈rows,cA names r)(hW:names.length<=14)(hr:rows.length<=100)(hK:Kn rows K)(hl:K.length<=14):EI prog 7 "knot" [.tup (rows.map B')]=UI (.ok (.own,.lst ((fk (Fv rows K) rows).map B'))):=by
 have Hh:(aR rows).length<=14:=VN (kN hw) hW;have O9:EI prog 5 "words_of" [.tup (rows.map B')]=UI (.ok (.own,.lst ((aR rows).map .str))):=(aG (show E6 prog "words_of" nS from rfl) _).trans (ib hr hw ⋯);have OZ:EI prog 6 "not_learnt" [.tup (rows.map B')]=UI (.ok (.own,.lst ((Fv rows K).map .str))):=(aG (show E6 prog "not_learnt" c6 from rfl) _).trans (kZ ⋯ ⋯ O9 (tf 0 hw hW hr hK));have O_:(Fv rows K).length<=14:=VN (Vv _ _) Hh;exact(aG (show E6 prog "knot" nW from rfl) _).trans (xH hr (λr h=>(hw r h).GZ) (iR _ _) ⋯ hK.held OZ)
theorem xJ(hK:Kn rows K):LQ rows (fk (Fv rows K) rows)=UN:=by
 refine B5 (F:=Fv rows K) (L:=bC rows) (by unfold fk;rw[U4];exact Y9 _) WD (λx hx=>eD.mpr hx) λp hp=>?_;obtain⟨k,hk,rfl⟩:=Vc.mp hp;unfold F' fX GJ;simp only[UQ,decide_true,Bool.true_and];rw[ř,W5,VA];intro r h;rw[Vq]at h;obtain⟨x,h1,h2⟩:=hK.held r h.1 (by rw[show r.1=k by simpa using h.2];exact hk);have:pick (Fv rows K) r.2∈r.2.filter λx=>UP (x∈Fv rows K):=by
  unfold pick;cases hf:r.2.filter λx=>UP (x∈Fv rows K) with
  |nil =>
   have:x∈r.2.filter λx=>UP (x∈Fv rows K):=Vq.mpr ⟨h1,η h2⟩;rw[hf]at this;cases this
  |cons a t=>simp
 rw[Vq]at this;simpa using this
theorem p6:∀{sts:List (Str×Nat)}{K:List Str},vS rows K sts->fm rows K (sts.map λs=>(s.1,(s.2:Int)))=UN
 |[],_,_=>rfl
 |s::ss,K,h=>by
  obtain⟨h1,h2⟩:=h;rw[U7,fm,p6 h2,Zt];obtain⟨h3,r,h4,h5,h6⟩:=h1;have hl:s.2<rows.length:=(UW.mp h4).1;unfold dr rowAt;simp only[WC,h4,ZN,h5];simp[h3,hl];exact h6
theorem tm:∀{sts:List (Str×Nat)}{K:List Str} (m:Nat),vS rows K sts->vS rows K (sts.take m)
 |[],_,m,h=>by rw[List.take_nil];exact h
 |s::ss,K,0,h=>trivial
 |s::ss,K,m+1,h=>⟨h.1,tm m h.2⟩
theorem xK(hK:Kn rows K)(hf:Ei rows F=F):∀x∈K,x∉F:=hK.sn (·∉F) λr hr h z=>by
 rw[<-hf]at z;have z2:=(Vq.mp z).2;unfold cu at z2;rw[VA]at z2;have:=z2 r (Vq.mpr ⟨hr,η rfl⟩);rw[YN]at this;obtain⟨x,a,b⟩:=this;exact h x a (by simpa using b)
end
section
theorem heads(f:α->Str)(g:α->U)(hg:∀a,gv (.loc,g a) (.int 0)=UI (.loc,.str (f a))){xs:List α}(h:st[j]?=UI (UI (.own,.lst (xs.map g))))(hl:xs.length<=1000):
  Run (ev Γ (.comp 1 UO .seq [.var j] [] (.idx (.var 0) (.cst (.int 0))))) st (.own,.lst ((xs.map f).map .str)) st:=by
 have hsz:(2000:Nat)<=US:=by decide
 have hx:=dH (cond:=aM Γ []) (elt:=ev Γ (.idx (.var 0) (.cst (.int 0)))) (src:=[(.bor j,.lst (xs.map g))]) (st:=st) ⟨⟨.own,rfl,h⟩,trivial⟩ .loc (.inl rfl) g (λa=>.str (f a)) .loc (λ_=>dR) xs [] (by simp;omega)
  (λr _=>⟨aW (ae rfl) aD trivial (hg r),aU⟩)
 rw[Vb]at hx;rw[U4];exact bJ (rs:=[(.bor j,.lst (xs.map g))]) (af (ax h) ah) ⟨⟨.own,rfl,h⟩,trivial⟩ (by show UI (X9 _ _)=_;rw[U4];rfl) hx
theorem xM{xs ys:List Str}(hk:a5 [(k,.lst (xs.map .str))] st)(hs:Run (ev Γ src) st (k,.lst (xs.map .str)) st)(T3:kj=.own\/kj=.loc)(hj:st[j]?=UI (UI (kj,.lst (ys.map .str))))(hl:xs.length<=1000):
  Run (ev Γ (.comp 1 UO .seq [src] [] (.cmp .isin (.var 0) (.var (j+1))))) st (.own,.lst ((xs.map λx=>UP (x∈ys)).map .bl)) st:=by
 have hsz:(2000:Nat)<=US:=by decide
 have hx:=dH (cond:=aM Γ []) (elt:=ev Γ (.cmp .isin (.var 0) (.var (j+1)))) (src:=[(k,.lst (xs.map .str))]) (st:=st) hk (kE k) (by cases k<;>simp[kE]) U.str (λx=>.bl (UP (x∈ys))) .loc (λ_=>dR) xs [] (by simp;omega)
  (λx _=>⟨by
   have h0:Run (ev Γ (.var 0)) (UI (kE k,U.str x)::st) (kE k,.str x) (UI (kE k,U.str x)::st):=by
    cases k<;>first|exact ae rfl|exact bj rfl
   rcases T3 with rfl|rfl
   ·exact dn h0 (ax (show(UI (kE k,U.str x)::st)[j+1]?=_ by simpa using hj)) (by cases k<;>exact⟨⟨.own,rfl,by simpa using hj⟩,trivial⟩) pN
   ·exact dn h0 (ae (show(UI (kE k,U.str x)::st)[j+1]?=_ by simpa using hj)) (by cases k<;>trivial) pN,aU⟩)
 rw[Vb]at hx;rw[U4];exact bJ (rs:=[(k,.lst (xs.map .str))]) (af hs ah) hk (by show UI (X9 _ _)=_;rw[U4];rfl) hx
noncomputable def Ag:E:=.comp 1 UO .EG [.bi .len [.var 4]] [.cmp .gt (.bin .mod (.bin .FZ (.idx (.var 9) (.bin .mod (.var 0) (.cst (.int 20)))) (.cst (.int 2))) (.cst (.int 4))) (.cst (.int 0))] (.idx (.var 5) (.var 0))
noncomputable def Ah:List TM.S:=[.set 8 (.call "_law_drawn" [.call "_law_cell" [.var 0,.bin .add (.cst (.int 56)) (.var 7)],.cst (.int 20)]),.set 9 Ag,.ite (.bi .any [.comp 1 UO .seq [.call "_law_held" [.var 1,.var 9]] [] (.cmp .isin (.var 0) (.var 6))]) [.ret (.cst (.bl UO))] []]
noncomputable def xN:List TM.S:=[.set 13 (.call "learnt" [.bin .add (.F6 (.var 1) [] [.var 10]) (.F6 (.var 1) [.bin .add (.var 10) (.cst (.int 1))] [])]),.ret (.and [.bi .all [.comp 1 UO .seq [.var 5] [] (.cmp .isin (.var 0) (.var 13))],.bi .all [.comp 1 UO .seq [.var 13] [] (.cmp .isin (.var 0) (.var 6))]])]
noncomputable def Dx:List TM.S:=[.ite (.cmp .eq (.bi .len [.var 1]) (.cst (.int 0))) [.ret (.cmp .eq (.var 4) (.lst []))] [],.set 10 (.bin .mod (.idx (.var 6) (.cst (.int 1))) (.bi .len [.var 1])),.set 11 (.tup [.idx (.var 4) (.bin .mod (.idx (.var 6) (.cst (.int 2))) (.bi .len [.var 4])),.tup [.idx (.var 4) (.bin .mod (.idx (.var 6) (.cst (.int 3))) (.bi .len [.var 4]))]]),.set 12 (.var 5),.ite (.cmp .Eh (.var 11) (.var 1)) [.set 12 (.call "learnt" [.bin .add (.var 1) (.tup [.var 11])])] []]++xN
theorem zD{sts:List (Str×Nat)}(F4:iL Γ)(Hz:fG Γ)(hr:rows.length<=40)(Ij:sts.length<=14)(O_:Z.length<=14)
  (hw:∀r∈rows,cA names r) (G9:∀x∈sts.map (·.1)++Z,x∈names) (hK:Kn rows (sts.map (·.1))) (EX:rows≠[]->sts.map (·.1)++Z≠[]) (Ly:rows=[]->sts.map (·.1)++Z=[])
  (GB:Γ "_law_made" [.lst (ns.map .int)]=UI (.ok (.loc,.tup (rows.map B'))))
  (JO:Γ "order" [.tup (rows.map B')]=UI (.ok (.own,.lst (sts.map stN))))
  (LR:Γ "knot" [.tup (rows.map B')]=UI (.ok (.own,.lst ((fk Z rows).map B'))))
  (MR:Γ "_law_words" [.tup (rows.map B')]=UI (.ok (.own,.lst ((av (sts.map (·.1)++Z)).map .str))))
  (LS:∀m,Γ "is_order" [.tup (rows.map B'),.lst ((sts.take m).map stN)]=UI (.ok (.loc,.bl UN)))
  (Il:Γ "is_knot" [.tup (rows.map B'),.lst ((fk Z rows).map B')]=UI (.ok (.loc,.bl UN)))
  (LU:∀ws:List Str,ws.length<=60->∃F:List Str,F.length<=60/\(∀x∈F,x∉sts.map (·.1))/\Γ "_law_held" [.tup (rows.map B'),.lst (ws.map .str)]=UI (.ok (.loc,.lst (F.map .str))))
  (JP:∀(EM:List Row) (K':List Str),(∀r∈EM,cA names r)->EM.length<=100->Kn EM K'->Γ "learnt" [.tup (EM.map B')]=UI (.ok (.own,.lst ((av K').map .str))))
  (F9:∀EM:List Row,(∀r∈EM,cA names r)->EM.length<=100->∃K',Kn EM K'/\K'.length<=14) :
  bM Γ sZ [qN ns]=UI (.ok (.loc,.bl UN)):=by
 have hsz:(20000:Nat)<=US:=by decide
 let K:=sts.map (·.1);let Wd:=K++Z;have QO:K.length<=14:=by show(sts.map (·.1)).length<=14;rw[UQ];exact Ij
 have T1:Wd.length<=28:=by show(K++Z).length<=28;rw[U'];omega
 have MO:(fk Z rows).length=Z.length:=by unfold fk;rw[UQ]
 have T4:(fk Z rows).map (·.1)=Z:=by unfold fk;rw[U4];exact Y9 _
 let i0:Option (Kd×U):=UI (.any,.lst (ns.map .int));let i1:Option (Kd×U):=UI (.loc,.tup (rows.map B'));let i2:Option (Kd×U):=UI (.own,.lst (sts.map stN));let i3:Option (Kd×U):=UI (.own,.lst ((fk Z rows).map B'));let i4:Option (Kd×U):=UI (.own,.lst (Wd.map .str));let i5:Option (Kd×U):=UI (.own,.lst ((av K).map .str));have Ei:TM.start [qN ns] 14=[i0,UK,UK,UK,UK,UK,UK,UK,UK,UK,UK,UK,UK,UK]:=rfl;let S:=λ(o4 o5 o6 o7 o8 o9 MS MT MU MV:Option (Kd×U))=>([i0,i1,i2,i3,o4,o5,o6,o7,o8,o9,MS,MT,MU,MV]:aq)
 let s3:=S UK UK UK UK UK UK UK UK UK UK;have Iu:∀o4 o5 o6 o7 o8 o9 MS MT MU MV,Run (ev Γ (.comp 1 UO .seq [.var 2] [] (.idx (.var 0) (.cst (.int 0))))) (S o4 o5 o6 o7 o8 o9 MS MT MU MV) (.own,.lst (K.map .str)) (S o4 o5 o6 o7 o8 o9 MS MT MU MV):=λ_ _ _ _ _ _ _ _ _ _=>heads (·.1) stN (λ_=>rfl) rfl ⋯;have g4:Run (ev Γ (.bin .add (.comp 1 UO .seq [.var 2] [] (.idx (.var 0) (.cst (.int 0)))) (.comp 1 UO .seq [.var 3] [] (.idx (.var 0) (.cst (.int 0)))))) s3 (.own,.lst (Wd.map .str)) s3:=by
  have h:=heads (Γ:=Γ) (st:=s3) (j:=3) (·.1) B' (λ_=>rfl) (xs:=fk Z rows) rfl ⋯;rw[T4]at h;exact cz (Iu _ _ _ _ _ _ _ _ _ _) h trivial (zq ⋯)
 let s4:=S i4 UK UK UK UK UK UK UK UK UK;have IU:=LS sts.length;rw[List.take_length]at IU;have t5:Run (Et Γ (.or [.cmp .ne (.bi .sorted [.var 4]) (.call "_law_words" [.var 1]),.not (.call "is_order" [.var 1,.var 2]),.not (.call "is_knot" [.var 1,.var 3])])) s4 UO s4 :=
  BP (wW (bY (cI (af (ax rfl) ah) ⟨⟨.own,rfl,rfl⟩,trivial⟩ (gC (ss:=Wd) ⋯)) (bx (af (ae rfl) ah) trivial MR) trivial (by show bo .ne (.lst ((av (K++Z)).map .str)) _=_;rw[rm];simp[K]))
   (wW (sF (nN (b:=UN) (af (ae rfl) (af (ax rfl) ah)) ⟨⟨.own,rfl,rfl⟩,trivial⟩ IU rfl)) (wV (sF (nN (b:=UN) (af (ae rfl) (af (ax rfl) ah)) ⟨⟨.own,rfl,rfl⟩,trivial⟩ Il rfl)))))
 have T5:=JP rows K hw ⋯ hK;let s5:=S i4 i5 UK UK UK UK UK UK UK UK;have t7:Run (Et Γ (.cmp .ne (.var 5) (.bi .sorted [.comp 1 UO .seq [.var 2] [] (.idx (.var 0) (.cst (.int 0)))]))) s5 UO s5 :=
  bY (ax rfl) (cI (af (Iu _ _ _ _ _ _ _ _ _ _) ah) trivial (gC ⋯)) ⟨⟨.own,rfl,rfl⟩,trivial⟩ (by show bo .ne (.lst ((av K).map .str)) _=_;rw[rm];simp)
 obtain⟨z,hz⟩:=F4 ns 19 ⋯;obtain⟨ds,d1,d2,d3⟩:=Hz z 12 ⋯;let i6:Option (Kd×U):=UI (.own,.lst (ds.map .int));have g6:Run (ev Γ (.call "_law_drawn" [.call "_law_cell" [.var 0,.cst (.int 19)],.cst (.int 12)])) s5 (.own,.lst (ds.map .int)) s5:=by repeat' (first|exact hz|exact d3|sizeOf_list_dec)
 let s6:=S i4 i5 i6 UK UK UK UK UK UK UK;have O':∀j:Nat,j<12->ED (ds.map U.int) (j:Int)=UI (.int (dd ds j)):=λj hj=>bQ ⋯;have t9:Run (Et Γ (.not (.call "is_order" [.var 1,.F6 (.var 2) [] [.bin .mod (.idx (.var 6) (.cst (.int 0))) (.bin .add (.bi .len [.var 2]) (.cst (.int 1)))]]))) s6 UO s6:=by
  have gm:Run (ev Γ (.bin .mod (.idx (.var 6) (.cst (.int 0))) (.bin .add (.bi .len [.var 2]) (.cst (.int 1))))) s6 (.loc,.int (dd ds 0 % ((((sts.map stN).length:Nat):Int)+1))) s6 :=
   cz (aW (ax rfl) aD ⟨⟨.own,rfl,rfl⟩,trivial⟩ (aP (O' 0 ⋯))) (cz (cI (af (ax rfl) ah) ⟨⟨.own,rfl,rfl⟩,trivial⟩ fE) aD trivial fZ) trivial (bS ⋯)
  have e:∀h,∃m,cut sts UK h=sts.take m:=λh=>⟨HT.En sts.length sts.length h - HT.En sts.length 0 UK,rfl⟩
  obtain⟨m,hm⟩:=e (UI (dd ds 0 % ((((sts.map stN).length:Nat):Int)+1)));have gs:Run (ev Γ (.F6 (.var 2) [] [.bin .mod (.idx (.var 6) (.cst (.int 0))) (.bin .add (.bi .len [.var 2]) (.cst (.int 1)))])) s6 (.own,.lst ((sts.take m).map stN)) s6 :=
   sC (ax rfl) sy (sA gm) ⟨⟨.own,rfl,rfl⟩,trivial⟩ (by simp only[lr];rw[δ (show jn (.bor 2) (sts.map stN)=UN from rfl),nP,hm])
  exact sF (nN (b:=UN) (af (ae rfl) (af gs ah)) trivial (LS m) rfl)
 have MW:∀x,x∈av K↔x∈K:=λx=>(aZ K).mem_iff;obtain⟨st',Ep,_,o7,o8,o9,e⟩:=cM (t:=UO) (is:=[7]) (body:=execs Γ Ah) (rs:=[(.loc,.int (6:Nat))]) (λi:Nat=>(Kd.loc,U.int (0+(i:Int)))) (λd r st=>(∀i∈r,i<6)/\∃o7 o8 o9,st=S i4 i5 i6 o7 o8 o9 UK UK UK UK) (λ_ _ _ _=>trivial) (λd i r st Ey=>by
   obtain⟨hi,o7,o8,o9,e⟩:=Ey;subst e;have UG:i<6:=hi i (by simp);obtain⟨z1,Ho⟩:=F4 ns (56+i) ⋯;rw[Î]at Ho;obtain⟨bs,b1,b2,b3⟩:=Hz z1 20 ⋯;let i7:Option (Kd×U):=UI (.loc,.int (i:Nat));let i8:Option (Kd×U):=UI (.own,.lst (bs.map .int));have g8:Run (ev Γ (.call "_law_drawn" [.call "_law_cell" [.var 0,.bin .add (.cst (.int 56)) (.var 7)],.cst (.int 20)])) (S i4 i5 i6 i7 o8 o9 UK UK UK UK) (.own,.lst (bs.map .int)) (S i4 i5 i6 i7 o8 o9 UK UK UK UK):=by repeat' (first|exact Ho|exact b3|sizeOf_list_dec)
   let pk:Nat->Bool:=λi=>UP ((0:Int)<dd bs (i % 20) / 2 % 4);let pw:Nat->Str:=λi=>(Wd[i]?).getD "";let sel:List Str:=((UX Wd.length).filter pk).map pw;have Ij:sel.length<=60:=by
    have h2:=Vv pk (UX Wd.length);show(((UX Wd.length).filter pk).map pw).length<=60;rw[UQ];rw[WO]at h2;omega
   let sb:=S i4 i5 i6 i7 i8 o9 UK UK UK UK;have gS:Run (ev Γ Ag) sb (.own,.lst (sel.map .str)) sb:=by
    have hx:=kK (cond:=aM Γ [.cmp .gt (.bin .mod (.bin .FZ (.idx (.var 9) (.bin .mod (.var 0) (.cst (.int 20)))) (.cst (.int 2))) (.cst (.int 4))) (.cst (.int 0))]) (elt:=ev Γ (.idx (.var 5) (.var 0))) (src:=[(.loc,.int ((Wd.map U.str).length:Nat))]) (st:=sb) trivial .loc (.inl rfl) (λi:Nat=>U.int (0+(i:Int))) (λi=>.str (pw i)) pk .loc (UX Wd.length) [] (by simp;omega)
     (λi hi=>by
      have FD:i<Wd.length:=V6.mp hi;have h6:ED (bs.map U.int) ((0+(i:Int)) % 20)=UI (.int (dd bs (i % 20))):=by
       rw[show(0+(i:Int)) % 20=((i % 20:Nat):Int) by omega];exact bQ ⋯
      have hn:ED (Wd.map U.str) (0+(i:Int))=UI (.str (pw i)):=by
       rw[YW];exact bG (by simp[pw,FD])
      exact⟨eu (bY (cz (cz (aW (ax rfl) (cz (ae rfl) aD trivial (bS (by decide))) ⟨⟨.own,rfl,rfl⟩,trivial⟩ (aP h6)) aD trivial (qX (by decide))) aD trivial (bS (by decide))) aD trivial rfl),λ_=>⟨aW (ax rfl) (ae rfl) ⟨⟨.own,rfl,rfl⟩,trivial⟩ (aP hn),aU⟩⟩)
    rw[Vb]at hx;have e:F0 .EG [(.loc,.int ((Wd.map U.str).length:Nat))]=UI ((UX Wd.length).map λi:Nat=>(Kd.loc,U.int (0+(i:Int)))):=by rw[UQ];exact iK ⋯
    have e0:sel.map U.str=((UX Wd.length).filter pk).map (λi=>U.str (pw i)):=by
     show(((UX Wd.length).filter pk).map pw).map U.str=_;rw[U4];rfl
    rw[e0];exact bJ (rs:=[(.loc,.int ((Wd.map U.str).length:Nat))]) (af (cI (af (ax rfl) ah) ⟨⟨.own,rfl,rfl⟩,trivial⟩ fE) ah) trivial e hx
   obtain⟨F,f1,f2,f3⟩:=LU sel Ij;let i9:Option (Kd×U):=UI (.own,.lst (sel.map .str));let sc:=S i4 i5 i6 i7 i8 i9 UK UK UK UK;have ha:=xM (Γ:=Γ) (st:=sc) (src:=.call "_law_held" [.var 1,.var 9]) (j:=5) (k:=.loc) (xs:=F) (ys:=av K) trivial (bx (af (ae rfl) (af (ax rfl) ah)) ⟨⟨.own,rfl,rfl⟩,trivial⟩ f3) (.inl rfl) rfl ⋯;have ef:(F.map λx=>UP (x∈av K)).any id=UO:=by
    rw[ð,List.any_eq_false];intro x hx h;exact f2 x hx ((MW x).mp (by simpa using h))
   have ta:Run (Et Γ (.bi .any [.comp 1 UO .seq [.call "_law_held" [.var 1,.var 9]] [] (.cmp .isin (.var 0) (.var 6))])) sc UO sc:=xn (cI (af ha ah) trivial (by rw[s_,ef]));have F2:Run (cH UO [7] (.loc,.int (0+(i:Int)))) (S i4 i5 i6 o7 o8 o9 UK UK UK UK) () (S i4 i5 i6 i7 o8 o9 UK UK UK UK):=by rw[YW];exact cn aQ
   exact⟨_,sc,F2,ay g8 aY (ay gS aY (fj ta (λh=>by cases h) λ_=>aH)),λj hj=>hi j (by simp[hj]),_,_,_,rfl⟩) (UX 6) [] s6 ⟨λi hi=>V6.mp hi,UK,UK,UK,rfl⟩
 subst e;have hit:=iK (k:=.loc) (n:=6) ⋯;let s7:=S i4 i5 i6 o7 o8 o9 UK UK UK UK;have MX:Run (Et Γ (.cmp .eq (.bi .len [.var 1]) (.cst (.int 0)))) s7 (UP (rows.length=0)) s7:=bY (cI (af (ae rfl) ah) trivial jy) aD trivial (gz (by rw[VR];simp));have tail:∃st,Run (execs Γ Dx) s7 (.rt .loc (.bl UN)) st:=by
  by_cases hn:rows.length=0
  ·rw[η hn]at MX;have T6:Wd=[]:=Ly (X_ hn);exact⟨_,nG MX (bN (dn (ax rfl) (cU ah trivial ba (Vo _)) ⟨⟨.own,rfl,rfl⟩,trivial⟩ (by show bo .eq (.lst (Wd.map U.str)) (.lst (([]:List Str).map U.str))=_;rw[pF,η T6])) dq)⟩
  rw[ζ hn]at MX;have UH:0<Wd.length:=Đ.mpr (EX λz=>hn (by rw[z];rfl));let a:Int:=dd ds 1 % (((rows.map B').length:Nat):Int);have T7:Run (ev Γ (.bin .mod (.idx (.var 6) (.cst (.int 1))) (.bi .len [.var 1]))) s7 (.loc,.int a) s7:=cz (aW (ax rfl) aD ⟨⟨.own,rfl,rfl⟩,trivial⟩ (aP (O' 1 ⋯))) (cI (af (ae rfl) ah) trivial jy) trivial (bS (by rw[UQ];omega));let LV:Option (Kd×U):=UI (.loc,.int a);let MY:=S i4 i5 i6 o7 o8 o9 LV UK UK UK;have QP:∀j:Nat,j<12->∃w∈Wd,Run (ev Γ (.idx (.var 4) (.bin .mod (.idx (.var 6) (.cst (.int (j:Nat)))) (.bi .len [.var 4])))) MY (.loc,.str w) MY:=λj hj=>by
   let t:Int:=dd ds j % (((Wd.map U.str).length:Nat):Int);have hl:((Wd.map U.str).length:Nat)=Wd.length:=UQ _;have h0:0<=t:=YZ _ ⋯;have h1:t<Wd.length:=by have:=Yy (dd ds j) (b:=(((Wd.map U.str).length:Nat):Int)) ⋯;omega
   have h2:t.toNat<Wd.length:=by omega
   have h3:ED (Wd.map U.str) ((t.toNat:Nat):Int)=UI (.str (Wd[t.toNat])):=bG (by simp[h2]);rw[XD h0]at h3;exact⟨_,Xv h2,aW (ax rfl) (cz (aW (ax rfl) aD ⟨⟨.own,rfl,rfl⟩,trivial⟩ (aP (O' j hj))) (cI (af (ax rfl) ah) ⟨⟨.own,rfl,rfl⟩,trivial⟩ fE) trivial (bS ⋯)) ⟨⟨.own,rfl,rfl⟩,trivial⟩ (aP h3)⟩
  obtain⟨w2,m2,r2⟩:=QP 2 ⋯;obtain⟨w3,m3,r3⟩:=QP 3 ⋯;let row:Row:=(w2,[w3])
  have T8:Run (ev Γ (.tup [.idx (.var 4) (.bin .mod (.idx (.var 6) (.cst (.int 2))) (.bi .len [.var 4])),.tup [.idx (.var 4) (.bin .mod (.idx (.var 6) (.cst (.int 3))) (.bi .len [.var 4]))]])) MY (.loc,B' row) MY :=
   kC (af r2 (af (kC (af r3 ah) trivial (bg aU ba) (by show 1<=US;omega)) ah)) trivial (bg aU (bg aU ba)) (by show 2<=US;omega)
  have QQ:∀r∈rows++[row],cA names r:=λr h=>by
   rcases Ve.mp h with h|h
   ·exact hw r h
   ·rw[Vl.mp h];exact⟨G9 _ m2,by show 1<=8;omega,by show [w3].Nodup;simp,λx hx=>by rw[Vl.mp hx];exact G9 _ m3⟩
  let j5:Option (Kd×U):=UI (.loc,.lst ((av K).map .str));let MZ:Option (Kd×U):=UI (.loc,B' row);let Pa:=S i4 j5 i6 o7 o8 o9 LV MZ j5 UK;have M0:Run (Et Γ (.cmp .Eh (.var 11) (.var 1))) Pa (UP (row∉rows)) Pa:=bY (ae rfl) (ae rfl) trivial uG;have fin:∀(kd:Kd) (M:List Str),(kd=.own\/kd=.loc)->(∀x∈K,x∈M)->∃st,Run (execs Γ xN) (S i4 j5 i6 o7 o8 o9 LV MZ (UI (kd,.lst (M.map .str))) UK) (.rt .loc (.bl UN)) st:=λkd M T9 hM=>by
   let QR:=S i4 j5 i6 o7 o8 o9 LV MZ (UI (kd,.lst (M.map .str))) UK;let rs:List Row:=cut rows UK (UI a)++cut rows (UI (a+1)) UK;have Pb:∀r∈rs,r∈rows:=λr h=>(Ve.mp h).elim sV sV;have Pc:rs.length<=100:=by
    have h1:=sU rows UK (UI a);have h2:=sU rows (UI (a+1)) UK;show(cut rows UK (UI a)++cut rows (UI (a+1)) UK).length<=100;rw[U'];omega
   obtain⟨K2,k2,k3⟩:=F9 rs (λr h=>hw r (Pb r h)) Pc;have hL:=JP rs K2 (λr h=>hw r (Pb r h)) Pc k2;have T_:∀x∈K2,x∈K:=k2.sn (·∈K) λr h q=>hK.cl r (Pb r h) q;have gb:Run (ev Γ (.bin .add (.F6 (.var 1) [] [.var 10]) (.F6 (.var 1) [.bin .add (.var 10) (.cst (.int 1))] []))) QR (.loc,.tup (rs.map B')) QR :=
    cz (sC (r:=(.loc,.tup ((cut rows UK (UI a)).map B'))) (ae rfl) sy (sA (ae rfl)) trivial (by simp only[lr];rw[nP];rfl)) (sC (r:=(.loc,.tup ((cut rows (UI (a+1)) UK).map B'))) (ae rfl) (sA (cz (ae rfl) aD trivial fZ)) sy trivial (by simp only[lr];rw[nP];rfl)) trivial
     (by show(if _ then _ else _)=_;rw[U']at Pc;rw[δ (by rw[UQ,UQ];omega),<-Vm];rfl)
   let T':Option (Kd×U):=UI (.own,.lst ((av K2).map .str));let QS:=S i4 j5 i6 o7 o8 o9 LV MZ (UI (kd,.lst (M.map .str))) T';have a1:=xM (Γ:=Γ) (st:=QS) (src:=.var 5) (j:=12) (k:=.loc) (kj:=kd) (xs:=av K) (ys:=M) trivial (ae rfl) T9 rfl (by rw[bf];omega);have a2:=xM (Γ:=Γ) (st:=QS) (src:=.var 13) (j:=5) (k:=.bor 13) (kj:=.loc) (xs:=av K2) (ys:=av K) ⟨⟨.own,rfl,rfl⟩,trivial⟩ (ax rfl) (.inr rfl) rfl (by rw[bf];omega);have e1:((av K).map λx=>UP (x∈M)).all id=UN:=by
    rw[W5,VA];intro x hx;simpa using hM x ((MW x).mp hx)
   have e2:((av K2).map λx=>UP (x∈av K)).all id=UN:=by
    rw[W5,VA];intro x hx;simpa using(MW x).mpr (T_ x ((aZ K2).mem_iff.mp hx))
   exact⟨_,ay (bx (af gb ah) trivial hL) aY (bN (r:=(.loc,.bl UN)) (wR (nM (p:=UN) (q:=UN) (cI (af a1 ah) trivial (by rw[fH,e1])) λ_=>qT (cI (af a2 ah) trivial (by rw[fH,e2])))) dq)⟩
  have mid:∃st,Run (execs Γ (.ite (.cmp .Eh (.var 11) (.var 1)) [.set 12 (.call "learnt" [.bin .add (.var 1) (.tup [.var 11])])] []::xN)) Pa (.rt .loc (.bl UN)) st:=by
   by_cases Fo:row∈rows
   ·rw[ζ (not_not_intro Fo)]at M0;obtain⟨st,h⟩:=fin .loc (av K) (.inr rfl) λx hx=>(MW x).mpr hx;exact⟨st,bB M0 aH h⟩
   ·rw[η Fo]at M0;have GA:(rows++[row]).length<=100:=by rw[U'];show rows.length+1<=100;omega
    obtain⟨K1,k1,_⟩:=F9 (rows++[row]) QQ GA;obtain⟨st,h⟩:=fin .own (av K1) (.inl rfl) λx hx=>(aZ K1).mem_iff.mpr (hK.sn (·∈K1) (λr h q=>k1.cl r (Y8 _ h) q) x hx);refine⟨st,eB M0 (ay (bx (af (cz (r:=(.loc,.tup ((rows++[row]).map B'))) (ae rfl) (kC (af (ae rfl) ah) trivial (bg aU ba) (by show 1<=US;omega)) trivial ?_) ah) trivial (JP _ K1 QQ GA k1)) aY aH) h⟩;show(if _ then _ else _)=_;rw[δ (by rw[UQ];show rows.length+1<=_;omega),Vm];rfl
  obtain⟨st,h⟩:=mid;exact⟨st,bB MX aH (ay T7 aQ (ay T8 aQ (ay (ax rfl) (Af rfl) h)))⟩
 obtain⟨st,ht⟩:=tail;have h9:=cV (Γ:=Γ) (ik:=.EG) (src:=[.cst (.int 6)]) (body:=Ah) (rs:=[(.loc,.int (6:Nat))]) (st:=s6) (st1:=s6) (af aD ah) trivial hit rfl Ep ht;have h8:Run (execs Γ _) s5 _ _:=ay (i:=6) g6 aY (bB (a:=[.ret (.cst (.bl UO))]) (b:=[]) t9 aH h9);have h7:Run (execs Γ _) s4 _ _:=ay (i:=5) (e:=.call "learnt" [.var 1]) (bx (af (ae rfl) ah) trivial T5) aY (bB (a:=[.ret (.cst (.bl UO))]) (b:=[]) t7 aH h8);have h6:Run (execs Γ _) s3 _ _:=ay (i:=4) g4 aY (bB (a:=[.ret (.cst (.bl UO))]) (b:=[]) t5 aH h7);exact aF rfl (.inr rfl) Ei (ay (bx (af (bj rfl) ah) trivial GB) aQ (ay (bx (af (ae rfl) ah) trivial JO) aY (ay (bx (af (ae rfl) ah) trivial LR) aY h6)))
end
theorem makers:xm prog:=⟨rfl,rfl,rfl,rfl,rfl,rfl,rfl⟩
theorem pure(ns:List Int)(FH:ns.length<=63):EI prog 8 "law" [qN ns]=UI (.ok (.loc,.bl UN)):=by
 obtain⟨names,rows,k1,k2,k3,k4,k5,k6,k7,k8⟩:=xk (Γ:=EI prog 6) makers.iM makers.drawnOk makers.namesOk makers.BU ns;have GB:EI prog 7 "_law_made" [.lst (ns.map .int)]=UI (.ok (.loc,.tup (rows.map B'))):=(aG (show E6 prog "_law_made" xj from rfl) _).trans k8;have hr:rows.length<=100:=by omega
 have h8:∀r∈rows,r.2.length<=8:=λr h=>(k7 r h).GZ;obtain⟨sts,s1,s2,s3⟩:=n9 3 k7 k2 hr;have hK:=Kn.of s1;have QO:(sts.map (·.1)).length<=14:=by rw[UQ];exact s2
 have Hh:(aR rows).length<=14:=VN (kN k7) k2;have MR:EI prog 7 "_law_words" [.tup (rows.map B')]=UI (.ok (.own,.lst ((aR rows).map .str))):=(aG (show E6 prog "_law_words" dE from rfl) _).trans (rh hr k7 ⋯);rw[<-hK.all]at MR;have Fo:∀x∈sts.map (·.1)++Fv rows (sts.map (·.1)),x∈bC rows:=λx hx=>(Ve.mp hx).elim (hK.words x) λh=>(iu.mp h).1;have O_:(Fv rows (sts.map (·.1))).length<=14:=VN (Vv _ _) Hh;have MQ:∀(r:Row) (ins:List Str),EI prog 6 "is_blocked" [.tup (rows.map B'),B' r,.lst (ins.map .str)]=UI (.ok (.loc,.bl (F' rows ins r))):=λr ins=>(aG (show E6 prog "is_blocked" c7 from rfl) _).trans (pZ hr (λw=>(aG (show E6 prog "rows_of" fJ from rfl) _).trans (pY hr w)) r ins);have Il:=p5 (Γ:=EI prog 6) (prs:=fk (Fv rows (sts.map (·.1))) rows) UO (by unfold fk;rw[UQ];omega) ⋯ ((aG (show E6 prog "words_of" nS from rfl) _).trans (ib hr k7 ⋯)) MQ;rw[xJ hK]at Il;have hS:rl (EI prog 6) rows:=λs known vs=>(aG (show E6 prog "is_step" da from rfl) _).trans (pV h8);have JO:EI prog 7 "order" [.tup (rows.map B')]=UI (.ok (.own,.lst (sts.map stN))):=s3;have Ua:=xI k7 k2 hr hK QO;have Ub:EI prog 7 "is_knot" [.tup (rows.map B'),.lst ((fk (Fv rows (sts.map (·.1))) rows).map B')]=UI (.ok (.loc,.bl UN)):=(aG (show E6 prog "is_knot" fK from rfl) _).trans Il;have KO:∀(EM:List Row) (K':List Str),(∀r∈EM,cA names r)->EM.length<=100->Kn EM K'->EI prog 7 "learnt" [.tup (EM.map B')]=UI (.ok (.own,.lst ((av K').map .str))):=λEM K' h1 h2 h3=>tf 2 h1 k2 h2 h3;have hL:=zD (Γ:=EI prog 7) (names:=names) (ns:=ns) (sts:=sts) (Z:=Fv rows (sts.map (·.1))) makers.iM makers.drawnOk ⋯ s2 O_ k7 (λx hx=>eC k7 x (Fo x hx)) hK;refine(aG (show E6 prog "law" sZ from rfl) _).trans (hL (λh z=>?_) (λh=>?_) GB JO Ua MR (λm=>?_) Ub (λws hl=>?_) KO λEM h1 h2=>Kn.some h1 k2 h2)
 ·obtain⟨r,hr⟩:=List.exists_mem_of_ne_nil _ h;have hx:r.1∈av (sts.map (·.1)++Fv rows (sts.map (·.1))):=by rw[hK.all];exact eD.mpr (cN.mpr ⟨r,hr,.inl rfl⟩)
  rw[(aZ _).mem_iff,z]at hx;cases hx
 ·subst h;refine List.eq_nil_iff_forall_not_mem.mpr λx hx=>?_;obtain⟨r,h,_⟩:=cN.mp (Fo x hx);cases h
 ·have h:=(aG (show E6 prog "is_order" eF from rfl) _).trans (nZ hS (steps:=(sts.take m).map λs=>(s.1,(s.2:Int))) (by rw[UQ,V9];omega));rw[p6 (tm m s1.ok),U4]at h;exact h
 ·obtain⟨F,f1,f2,_,f4⟩:=xG (Γ:=EI prog 6) hr h8 hl;refine⟨F,?_,λx hx hk=>xK hK f2 x hk hx,(aG (show E6 prog "_law_held" eG from rfl) _).trans f4⟩;have h1:=f1.length_le;have h2:=cj ws;rw[bf]at h1;omega
end K
namespace K
open PySem L2 TM PySem.W PyProof.Rows
noncomputable def m0:UT:=.str "primer.books" 187
noncomputable def m1:UT:=.str "primer.learning" 214
noncomputable def m2:UT:=.str "primer.knots" 278
noncomputable def m3:UT:=.str "law_primer_k16_whole_learnt_or_held" 298
noncomputable def ml:Me:=⟨sZ,28,["_law_script","_law_book_here","_law_steps","_law_pairs","_law_words_here","_law_known","_law_drawn_here","_law_k","_law_bits","_law_some","_law_at","_law_row","_law_more","_law_fewer"],165,164,m3,co "law" 395 168 1 161 162 .none .none (.ref 163) 398 399 181⟩
noncomputable def ms:List Me:=[⟨kQ,1,["book","words","row"],21,20,m0,co "words_of" 189 2 1 15 16 (.ref 17) (.ref 18) (.ref 19) 195 196 181⟩,
 ⟨fJ,2,["book","word"],26,25,m0,co "rows_of" 198 8 2 22 23 .none .none (.ref 24) 201 202 181⟩,
 ⟨eE,3,["pairs","found","key","value"],33,32,m0,co "gathered" 204 10 1 27 28 (.ref 29) (.ref 30) (.ref 31) 211 212 181⟩,
 ⟨bK,5,["book","pairs","place","row"],38,37,m1,co "places_that_tell" 216 18 1 34 35 .none .none (.ref 36) 219 220 181⟩,
 ⟨dC,6,["book","places","known","steps","place","word"],45,44,m1,co "new_steps" 222 23 3 39 40 (.ref 41) (.ref 42) (.ref 43) 231 232 181⟩,
 ⟨bR,7,["book","tellers","missing","known","found","ready","steps","word","place","teller"],50,49,m1,co "steps_in_rounds" 234 30 1 46 47 .none .none (.ref 48) 237 238 181⟩,
 ⟨ip,8,["book","found","steps"],57,56,m1,co "order" 240 48 1 51 52 (.ref 53) (.ref 54) (.ref 55) 246 247 181⟩,
 ⟨iq,9,["book"],62,61,m1,co "learnt" 249 53 1 58 59 .none .none (.ref 60) 252 253 181⟩,
 ⟨c6,10,["book"],69,68,m1,co "not_learnt" 255 55 1 63 64 (.ref 65) (.ref 66) (.ref 67) 259 260 181⟩,
 ⟨da,11,["book","step","known","word","place","row"],74,73,m1,co "is_step" 262 57 3 70 71 .none .none (.ref 72) 265 266 181⟩,
 ⟨eF,12,["book","steps","known","step"],81,80,m1,co "is_order" 268 64 2 75 76 (.ref 77) (.ref 78) (.ref 79) 275 276 181⟩,
 ⟨nW,14,["book","blocks","word","row"],86,85,m2,co "knot" 280 72 1 82 83 .none .none (.ref 84) 283 284 181⟩,
 ⟨c7,15,["book","pair","inside","places"],91,90,m2,co "is_blocked" 286 80 3 87 88 .none .none (.ref 89) 289 290 181⟩,
 ⟨fK,16,["book","pairs","words"],96,95,m2,co "is_knot" 292 85 2 92 93 .none .none (.ref 94) 295 296 181⟩,
 ⟨mB,18,["_law_cell_here","_law_k","_law_by"],103,102,m3,co "_law_mix" 300 91 2 97 98 (.ref 99) (.ref 100) (.ref 101) 306 307 181⟩,
 ⟨kR,19,["_law_script","_law_k","_law_seed"],110,109,m3,co "_law_cell" 309 94 2 104 105 (.ref 106) (.ref 107) (.ref 108) 315 316 181⟩,
 ⟨je,20,["_law_cell_here","_law_many","_law_found","_law_left","_law_k"],117,116,m3,co "_law_drawn" 318 101 2 111 112 (.ref 113) (.ref 114) (.ref 115) 326 327 181⟩,
 ⟨kS,21,["_law_drawn_here","_law_names_here","_law_letters","_law_name_here","_law_stem","_law_spare"],122,121,m3,co "_law_name" 329 111 2 118 119 .none .none (.ref 120) 332 333 181⟩,
 ⟨jf,22,["_law_script","_law_base","_law_many","_law_names_here","_law_k"],129,128,m3,co "_law_names" 335 122 3 123 124 (.ref 125) (.ref 126) (.ref 127) 343 344 181⟩,
 ⟨kU,23,["_law_drawn_here","_law_names_here","_law_top","_law_told_here","_law_k","_law_one"],136,135,m3,co "_law_told" 346 127 2 130 131 (.ref 132) (.ref 133) (.ref 134) 355 356 181⟩,
 ⟨kW,24,["_law_script","_law_base","_law_names_here","_law_many","_law_rows","_law_met","_law_k","_law_drawn_here","_law_row","_law_key"],143,142,m3,co "_law_book" 358 137 4 137 138 (.ref 139) (.ref 140) (.ref 141) 371 372 181⟩,
 ⟨kX,25,["_law_script","_law_drawn_here","_law_names_here"],150,149,m3,co "_law_made" 374 148 1 144 145 (.ref 146) (.ref 147) (.ref 148) 380 381 181⟩,
 ⟨eG,26,["_law_book_here","_law_words_here","_law_held_here","_law_going","_law_left","_law_word"],155,154,m3,co "_law_held" 383 152 2 151 152 .none .none (.ref 153) 386 387 181⟩,
 ⟨dE,27,["_law_book_here","_law_words_here","_law_row"],160,159,m3,co "_law_words" 389 163 1 156 157 .none .none (.ref 158) 392 393 181⟩,
 ml]
noncomputable def gg(P:Ĩ):Obj:=⟨.type "dict",UK,.dict #[ge P "__name__" 165 (.str "law_primer_k16_whole_learnt_or_held" 298),ge P "__doc__" 166 .none,ge P "__package__" 167 .none,ge P "__loader__" 168 (.builtin "__main__.__loader__#opaque"),ge P "__spec__" 169 .none,ge P "__annotations__" 170 (.ref 6),ge P "__builtins__" 171 (.ref 4),ge P "__file__" 173 (.str "/claim/cut.py" 172),ge P "__cached__" 174 .none,ge P "words_of" 197 (.ref 21),ge P "rows_of" 203 (.ref 26),ge P "gathered" 213 (.ref 33),ge P "places_that_tell" 221 (.ref 38),ge P "new_steps" 233 (.ref 45),ge P "steps_in_rounds" 239 (.ref 50),ge P "order" 248 (.ref 57),ge P "learnt" 254 (.ref 62),ge P "not_learnt" 261 (.ref 69),ge P "is_step" 267 (.ref 74),ge P "is_order" 277 (.ref 81),ge P "knot" 285 (.ref 86),ge P "is_blocked" 291 (.ref 91),ge P "is_knot" 297 (.ref 96),ge P "_law_mix" 308 (.ref 103),ge P "_law_cell" 317 (.ref 110),ge P "_law_drawn" 328 (.ref 117),ge P "_law_name" 334 (.ref 122),ge P "_law_names" 345 (.ref 129),ge P "_law_told" 357 (.ref 136),ge P "_law_book" 373 (.ref 143),ge P "_law_made" 382 (.ref 150),ge P "_law_held" 388 (.ref 155),ge P "_law_words" 394 (.ref 160),ge P "law" 400 (.ref 165)] 34,#[]⟩
noncomputable def vw:VZ:=view PySem.Challenge.pw_primer_k16_whole_learnt_or_held [1,2,3,5,6,7,8,9,10,11,12,14,15,16,18,19,20,21,22,23,24,25,26,27,28]
noncomputable def hk:Hook:=kHook (λP=>Gu top (gg P) ms) (adr ms) λP=>sv top (gg P) ms
theorem hl:LeftO PySem.Challenge.rw_primer_k16_whole_learnt_or_held.row.prog vw [] (λs=>xlAt vw [] s&&recOk (RowW.records PySem.Challenge.rw_primer_k16_whole_learnt_or_held.row.toRowW) s) hk.obs hk.val 4000:=λw=>by kernel_rfl
theorem hs:PySem.Challenge.rw_primer_k16_whole_learnt_or_held.wellSaid=UN:=by kernel_rfl
theorem ho(P:Ĩ):IS ck top (Gu top (gg P) ms) ms=UN:=by kernel_rfl
end K
open PySem PySem.W PyProof.Rows K
theorem PySem.Challenge.cw_primer_k16_whole_learnt_or_held_holds : PySem.Challenge.rw_primer_k16_whole_learnt_or_held.Holds := by
 w_on
 refine holds_law hs λz => ?_;refine holds_open hl hk.of hk.keeps (λs e => xl_of s (WQ.mp e).1) XL.keeps rfl rfl rfl (λs e => recFacts_of (WQ.mp e).2) rfl z (by kernel_rfl) ⟨rfl, rfl, rfl, rfl, rfl, by decide +kernel⟩ ?hw ?hc
 (case hw => w_witness2)
 exact TM.walk2 (l := PySem.Challenge.rw_primer_k16_whole_learnt_or_held) (Pg := prog) (ck := ck) (dp := 7) (x := "_law_script") (m := ml) rfl rfl ⟨rfl, by decide, by decide, rfl⟩ rfl (by decide +kernel) rfl (by simp [ms]) rfl rfl ho K.pure
