import PyProof.Rows.All
import Wide.All
import OpenK.AllK
import Wide.FinOn
import Lean
import PyProof.EqAt
import PyProof.EqKinds
import PyProof.TupleCall
import PyProof.StrLawsChain
import PyProof.StrLawsFirst
import PyProof.Rows.StrNews2
import OpenK.AllK
import PyProof.DictItems
import OpenK.AllK
import PyProof.DictValues
import OpenK.AllK
import PyProof.AttrMissHeap
import OpenK.AllK
import PyProof.ReprBulk
import PySem.Challenge.RW_primer_k63_whole_taught_still
set_option Elab.async false
set_option linter.all false
set_option maxRecDepth 100000
set_option maxHeartbeats 4000000
set_option genInjectivity false
set_option genSizeOf false
set_option autoImplicit true
set_option relaxedAutoImplicit true
open Option renaming some->RY,none->R3,map_eq_some_iff->Si,bind_eq_some_iff->S8,isSome_map->VJ,map_eq_none_iff->VW,getD_some->WN,getD_none->WO,isSome_iff_exists->Xt,map_some->YJ
open PySem renaming wpAny_bind->RZ,sizeLine->R6,wpAny_pure->R_,Value->Sb,wpAny->Se,Shared->Sm,Addr->Sr,model->Sw,starEach->SJ,wpAny_newObj_type->Tb,Expr->Td,wpAny_mono->Th,wpAny_holding->Tj,rawInt->To,wpAny_call_entry->Ts,Program->Tu,mainGlobals->Tw,cLine->Tx,wpAny_truthy_bool->TC,sysModules->TQ,wpAny_setState_of->TZ,World->T1,eval->T2,codeAny_builtin->T3,Heap->Ua,wpAny_callSpecial?_slot->Uc,compareOp->Ud,backTo->Uk,holding->Up,scanBound->Ut,foldedSetIterable->Uu,bootBuiltins->Uv,wpAny_setField->UC,Scope->UI,wpAny_rule->UJ,wpAny_Call_Name_kw->UK,wpAny_passesOwn->UN,behindInMarks->US,Around->UT,Builtin->UU,NameKind->U5,wpAny_typeOf->U7,wpAny_isInstance->U8,wpAny_specialOf->U',Keyword->Va,wpAny_pyIter_tuple->Vc,tupleKind_room_in1->Vd,assignEach->Ve,wpAny_getItem_str_slice->Vg,wpAny_field->Vh,keywordEach->Vi,call->Vj,wpAny_seqItems->Vo,wpAny_pyIter_list->Vp,tupleKeyHash->Vq,Stmt->Vt,swapsWith->Vx,call_meets->Vy,swapsWithSole->VB,plainId_quiet->VC,sliceBounds->VD,getItem->VO,codeAny->VP,typeIs_str->VR,pyNext->VS,binaryOp->VT,assign->VU,SetTable->VV,wpAny_forIn_list->V',backToKw->Wa,FuncData->Wc,setItem->Wg,relabel->Wh,codeAny_mono->Wi,callerA->Wj,builtinsNs->Wk,wpAny_updateSeq->Wn,wpAny_loadPart'->Wo,post_val_or_str->Wq,letOwnedTupleGo->Wr,isSubtype_tuple_tuple->Ws,builtinLookup_eq_fast->Wt,isSubtype_type->WC,firstArgMember->WD,atKey->WE,IsPart->WG,tupleKind->WK,notedBy->WL,swappedStores->W0,attributeBase->W2,wpAny_tupleItemsOf->W6,wpAny_pyIter_enum->Xb,valueAt->Xc,standAt->Xd,setNext->Xe,setField->Xf,release->Xg,compEnvC->Xi,wpAny_askSetting->Xx,seqItems?->Xy,pickOrder->Xz,PassesOwn->XA,wpAny_of_eq->XD,subscripted->XE,wpAny_execs_nil->XI,typeLookup_type->XJ,wpAny_runValue->XZ,typeLookup->X0,relayAll->X1,raiseNew->X2,pyIter->X3,IsTupleKey->X5,wpAny_standAt->Yc,wpAny_newList->Yd,wpAny_comprehension_free->Ye,strValues->Yl,isSubtype->Ym,eqIsQuiet->Yn,bindL->Yo,bindC->Yp,wpAny_Call_method_late->Yu,setNextDrawn->Yv,newExc->Yw,collect->Yx,call_meetsIn->Yy,Params->YB,IsEnum->YC,BindsTo->YE,wpAny_isTrue_Compare1->YN,step->YX,seqIndex_of->YY,entryFor->YZ,bindArgs->Y0,wpAny_setEntries_of->Y',wpAny_setItem_heap->Zj,wpAny_load->Zk,wpAny_Name->Zl,truthy->Zm,isInstance->Zn,getattributeRaised->Zo,JoinOk->Zq,wpAny_storeSet_of->Zw,wpAny_sequenceKey->Zx,wpAny_pyIter_slot->Zy,wpAny_assign_Name->Zz,spliced->ZA,slot_list_getitem->ZC,newList->ZD,fits_of_scanBound->ZE,eqIsQuiet_byValue->ZF,wpAny_eqBool_str->ZN,wpAny_eqBool_int->ZO,wpAny_Dict_empty->ZP,entryFor_of_tree->ZQ,cellsFrom->ZR,codeAny_of_tree->Z5,wpAny_Compare1->Ä,typeOf->Å,stored->Æ,rule->Ç,recursionLimit->È,numbered_texts->É,newTuple->Ê,isSubtype_stop->Ë,field->Ì,entryFor_alias->Í,augStore->Î,argsOk->Ï,again->Ð
open Bool renaming true->R4,false->R5,and_eq_true->R7,false_ne_true->S6,false_eq_true->S9,not_eq_true'->Tr,not_true->Ug,eq_iff_iff->Uo,and_eq_true_iff->Uq,or_eq_true->Vw,and_true->Wx,and_false->Xw,eq_false_iff->YM,not_false->Zh,false_and->Zi,or_false->Zv
open PySem.Heap renaming get?_push_of_some->R8,lt_size->Sg,get?_push_size->Sj,get?_update_self->Tz,SameBut->T5,get?_update_ne->U4,get?_update_other->Vb,size_push->Xo,ExtBut->ZT
open List renaming length_map->R9,map_cons->Sd,getElem?_eq_some_iff->Sf,getElem?_set_self->Sk,range->Sl,mem_cons->Sn,mem_map->So,size_toArray->Ss,map_map->Sx,length_append->Sy,nil_append->Sz,mem_append->SA,length_cons->SE,getElem?_set_ne->SG,replicate->SH,map_append->SO,getElem?_map->SQ,mem_cons_self->SR,mem_cons_of_mem->SS,nodup_cons->SU,mem_append_right->SV,nodup_append->SW,mem_singleton->SX,mem_of_getElem?->SY,getElem?_append_right->Ta,lookup_cons->Tc,map_congr_left->Tf,getElem?_append_left->Ti,length->Tn,length_take->Tv,mem_range->TB,append_nil->TF,mem_append_left->TJ,filter_cons->TK,all_eq_true->TL,take_of_length_le->TU,map_nil->TV,mem_filter->T',getElem?_drop->Ui,length_filter_le->Ul,find?_cons->Um,filterMap_cons->Uw,getElem?_replicate->Ux,ext_getElem->UX,any_eq_true->UZ,drop_eq_getElem_cons->U3,getElem?_eq_getElem->U6,length_singleton->Vl,length_replicate->Vm,getElem_mem->Vn,of_mem_zip->Vv,getElem_of_mem->Vz,getD->VF,pairwise_cons->VG,nodup_nil->VH,not_mem_nil->VX,length_eq_zero_iff->VY,length_drop->VZ,isEmpty_iff->V0,getElem?_cons_succ->V1,filter_cons_of_pos->V2,filter_cons_of_neg->V3,filter_eq_nil_iff->V7,length_nil->V9,filter_nil->V_,mem_of_mem_take->We,map->Wf,any_cons->Ww,zip_cons_cons->WA,filter_append->WB,length_range->WQ,flatten_cons->WR,map_id->W8,length_zip->W_,foldl_cons->W',drop_left'->Xa,perm_ext_iff_of_nodup->Xu,drop_zero->Xv,length_erase_of_mem->XG,getElem?_take_of_lt->XH,length_pos_of_mem->XT,length_eq_one_iff->XU,drop_of_length_le->XW,drop_eq_nil_of_le->XX,mem_of_mem_drop->X9,mem_iff_getElem->X_,mem_erase_of_ne->Ya,getElem?_zipIdx->Yb,mem_map_of_mem->Yi,getElem?_range->Yj,flatten_append->Yk,mem_filterMap->Yr,take_sublist->YK,append_assoc->YL,nodup_range->YR,map_fst_zip->YS,getElem_map->YT,getElem_inj->YU,drop_length->YV,cons_append->YW,length_set->Y9,filter_map->Y_,findIdx?->Zu,all_map->ZL
open Decidable renaming decide->Sa
open Nat renaming ne_of_lt->Su,le_refl->Sv,lt_of_lt_of_le->SF,zero_le->SM,lt_irrefl->TR,le_trans->TX,ne_of_gt->Ur,le_of_lt->U2,le_succ->U_,lt_trans->VE,lt_succ_self->V5,lt_succ_of_lt->WX,mod_lt->XC,add_sub_cancel_left->XS,le_of_eq->X6,min_eq_right->Y8,min_eq_left->Zf,zero_add->Z0,sub_zero->Z1,log2_lt->Ã
open PySem.Value renaming ref->SD,none->S3,str->Tt,type->T_,isStrOf->Ue,bool->Uz,isStrOf_shape->X7,int->Yz,builtin->Za,isInt->ZI
open Sum renaming inr->SN,inl->WS
open PySem.Txt renaming partition->S4,split->UH,join->WT,endswith->ZS
open PySem.Str renaming empty->S5,ofString->Vf,length->VI
open Array renaming length_toList->S7,getElem?_toList->Uj,toList_append->Wm,forIn_toList->Wy,size_append->WI,toList_inj->WZ,toList->XN,toList_push->Yt,getD->Z4
open PySem.Obj renaming mapSeq->S_,data_mapFields->UD,putSet->V8,isFreed_of_fields->Wb,cls_mapFields->WU,mapFields->ZJ
open Ne renaming symm->Te
open PyProof.Rows renaming slot_tuple_getitem->Tg,seqObj->TH,callWith_type1->T8,size_push'->UM,StrsAre->Vs,AllBare->Wl,envOfC->WH,subscriptTail->W3,listUpdate_at->W4,subscriptTail_builtinR->YF,listItems_at->YG,IntsAre->YI,seqEpoch_at->Y7,entry_tuple_getitem->Zb,sortedHeap->Zr,args_tuple_getitem->Zs,Subscript_->Zt,wpAny_notIn_heap->ZY,slot_str_getitem->ZZ,joinParts_consE->Z',get?_update_seq->À,entry_list_sort->Á,callWith_builtin1->Â,tail_any->Ñ,sortedHeap_old->Ò,slot_list_sort->Ó,slicePart_none->Ô,joinParts_cons->Õ,isTrue_and_nil->Ö,args_list_sort->Ø,IsTup->Ù
open Option.some renaming inj->Tq,injEq->XF
open PySem.Builtin.Tuple renaming tupleHashOf->TN,tupleExact->UL,tupleItemsOf->Vk
open Int renaming toNat_natCast->TY,toNat_of_nonneg->Ub,emod_nonneg->VA,emod_lt_of_pos->VL,eq_ofNat_of_zero_le->V6,zero_add->WY,natCast_add->Zg
open PySem.Heap.SameBut renaming update->T4,refl->XB
open PySem.Around renaming under_plainId->T6
open PySem.Builtin.Str renaming occurrences->T7,partsBetween->UQ,strKind->Xq
open PySem.Builtin.SmallTypes renaming nextOf->T9
open PySem.Builtin.List renaming listTooLong->Uh,listExtendWith->Uy,listSameRef->WM,listLengthHint->Z8
open PySem.SetTable renaming below->Us,grown->Vu,sizeAbove->XO,orStandIn->XQ,layClean->X4,relaid->Yg,laid->YA
open PySem.NameKind renaming free->UA
open PySem.Calls renaming callWith_builtin->UB,evalArgs_plain->UP,spliced_cons->U9,spliced_nil->VN,Name_function_global->Xl,call_function_entry->Xp
open PySem.Builtin.Slice renaming slicePlaces->UE,sliceAdjust->Vr,sliceApplied->Wv,slicePartIndex->ZV,sliceFields->ZW
open PyProof.Rows.F renaming plain_set_update_loop->UG,entry_set_update_loop->VQ
open PySem.W renaming kas_sort->UO,kas_ask->ZG
open False renaming elim->UR
open PySem.AutoSeq1 renaming wpAny_loadPart'->UW,sub_tuple_tuple->W9,sub_tuple_list->Xm,sub_list_tuple->Xn,sub_list_list->Xr,idx_int->X8
open List.cons renaming injEq->UY
open LT renaming lt->U0
open ForInStep renaming yield->U1
open PySem.Shared renaming TypeIs->VM
open PySem.SeqAt renaming EqAt->V4,ne_of_list_tuple->XM,RcAt->Yh,RcNeAt->Zp
open PyProof.Rows.LSm renaming kept_iter->Wd,range_any->Zc,range_all->Zd
open PySem.Walks renaming list->Wu
open True renaming intro->Wz
open Sum.inr renaming inj->WJ
open PySem.F renaming args_str_split_2->WV,entry_str_split->W7,slot_str_split->Xk,args_list_extend_2->YD,entry_list_extend->YO,slot_list_extend->Y1
open PySem.Builtin.Dict renaming updateFrom->WW,selfAndRest->Z9,pairItems->Z_
open Classical renaming byContradiction->W5
open PySem.pickOrder renaming go->Xh
open PySem.SetTable.below renaming go->Xj
open Prod renaming ext->Xs,fst->Ze
open PySem.Heap.DictOf renaming new->XR
open ToString renaming toString->XY
open PySem.StrLaws renaming strSub_toList->Yf
open PySem.Code renaming quiet_builtin->Yq
open LawfulBEq renaming eq_of_beq->Ys
open PyProof.Rows.IsTup renaming new->YH
open PySem.Data renaming cell->YQ,fields->ZU
open PySem.Builtin.Frozenset renaming updateFrom->Y2,slot0->Y3,sizeOf->Y4,newClass->Y5,addrOf->Y6
open PySem.W.WShape renaming has->ZH
open PySem.Heap.IsSliceOf renaming new->ZK
open LE renaming le->ZM
open PySem.Builtin.Range renaming rangeSize->ZX
open List.Pairwise renaming nil->Z2,map->Z3
open PySem.W.WData renaming int->Z6
open PySem.Heap.DictOfH renaming new->Z7
abbrev Ú:=@if_pos
abbrev Û:=@decide_eq_true_eq
abbrev Ü:=@if_neg
abbrev Ý:=@decide_eq_false
abbrev Þ:=@decide_eq_true
abbrev ß:=@congrArg
abbrev à:=@beq_eq_false_iff_ne
abbrev á:=@if_false
local macro_rules|`(⋯)=>`(by omega)
namespace L2
open PySem PySem.Spec PyProof.Rows
abbrev Key:=Sum Int Str
def jr:Key->Sb->Bool
 |.inl k,v=>ZI k v
 |.inr x,v=>Ue x v
def C7(w:T1):Key->Int
 |.inl k=>hashInt k
 |.inr x=>hashStr w x
theorem bg:∀{k:Key}{v:Sb},jr k v=R4->(∃i t,k=WS i/\v=Yz i t)\/(∃x t,k=SN x/\v=Tt x t)
 |.inl i,v,h=>by
  obtain⟨t,e⟩:=Value.isInt_shape (k:=i) (v:=v) h;exact .inl ⟨i,t,rfl,e⟩
 |.inr x,v,h=>by
  obtain⟨t,e⟩:=X7 (x:=x) (v:=v) h;exact .inr ⟨x,t,rfl,e⟩
theorem sT(i:Int)(t:Tok):jr (.inl i) (.int i t)=R4:=by simp[jr,ZI]
theorem sU(x:Str)(t:Tok):jr (.inr x) (.str x t)=R4:=by simp[jr,Ue]
theorem zD(a b:Int):Sa ((WS a:Key)=WS b)=(a==b):=by
 by_cases e:a=b
 ·subst e;simp
 ·have h:¬(WS a:Key)=WS b:=λq=>e (Sum.inl.inj q);rw[Ý h];exact(à.mpr e).symm
theorem zE(a b:Str):Sa ((SN a:Key)=SN b)=Sa (a=b):=by
 by_cases e:a=b
 ·subst e;simp
 ·have h:¬(SN a:Key)=SN b:=λq=>e (WJ q);rw[Ý h,Ý e]
theorem zF(a:Int)(b:Str):Sa ((WS a:Key)=SN b)=R5:=Ý (λq=>nomatch q)
theorem zG(a:Str)(b:Int):Sa ((SN a:Key)=WS b)=R5:=Ý (λq=>nomatch q)
def aJ(prog:Tu)(w:T1):PySem.KeyKind prog w Key where
 is:=jr
 hash:=C7 w
 inj:=λv a b ha hb=>by
  rcases bg ha with⟨i,t,rfl,rfl⟩|⟨x,t,rfl,rfl⟩
  ·rcases bg hb with⟨j,u,rfl,e⟩|⟨y,u,rfl,e⟩
   ·injection e with e1 _;rw[e1]
   ·exact nomatch e
  ·rcases bg hb with⟨j,u,rfl,e⟩|⟨y,u,rfl,e⟩
   ·exact nomatch e
   ·injection e with e1 _;rw[e1]
 byValue:=λk v h=>by
  rcases bg h with⟨i,t,rfl,rfl⟩|⟨x,t,rfl,rfl⟩<;>rfl
 pyHash:=λhv h=>by
  rcases bg hv with⟨i,t,rfl,rfl⟩|⟨x,t,rfl,rfl⟩
  ·exact wpAny_pyHash_int h
  ·exact wpAny_pyHash_str h
 eqBool:=λhu hv h=>by
  rcases bg hu with⟨i,t,rfl,rfl⟩|⟨x,t,rfl,rfl⟩
  ·rcases bg hv with⟨j,u,rfl,rfl⟩|⟨y,u,rfl,rfl⟩
   ·rw[zD]at h;exact ZO h
   ·rw[zF]at h;exact SeqAt.EqAt.int_str i t y u _ _ _ _ h
  ·rcases bg hv with⟨j,u,rfl,rfl⟩|⟨y,u,rfl,rfl⟩
   ·rw[zG]at h;exact SeqAt.EqAt.str_int x t j u _ _ _ _ h
   ·rw[zE]at h;exact ZN h
 «strs»:=λk x t v h=>by
  rcases bg h with⟨i,u,rfl,e⟩|⟨y,u,rfl,e⟩
  ·exact nomatch e
  ·injection e with e1 _
   subst e1;cases v<;>rfl
theorem nY(prog:Tu)(w:T1)(i:Int)(t:Tok):(aJ prog w).is (.inl i) (.int i t)=R4:=sT i t
theorem nZ(prog:Tu)(w:T1)(x:Str)(t:Tok):(aJ prog w).is (.inr x) (.str x t)=R4:=sU x t
inductive V where
 |DR|bl (b:Bool)|int (i:Int)|str (x:Str)|Kz (b:Array UInt8)|KA (b:UInt64)|ref (a:Sr)|ty (n:String)
 deriving DecidableEq
def RelV:V->Sb->Prop
 |.DR,u=>u=S3
 |.bl b,u=>u=Uz b
 |.int i,u=>∃t,u=Yz i t
 |.str x,u=>∃t,u=Tt x t
 |.Kz b,u=>∃t,u=Value.bytes b t
 |.KA b,u=>∃t,u=Value.float b t
 |.ref a,u=>u=SD a
 |.ty n,u=>u=T_ n
abbrev Vals:List V->List Sb->Prop:=Paired RelV
theorem Vals.length(r:Vals xs us):xs.length=us.length:=Paired.length r
theorem Vals.get:∀{xs:List V}{us:List Sb}{i:Nat}{x:V},Vals xs us->xs[i]?=RY x->∃u,us[i]?=RY u/\RelV x u
 |_,_,_,_,.nil,e=>by simp at e
 |_,_,0,_,.cons r _,e=>by simp at e;subst e;exact⟨_,rfl,r⟩
 |_,_,i+1,x,.cons _ t,e=>by
  obtain⟨u,h1,h2⟩:=Vals.get (i:=i) (x:=x) t (by simpa using e);exact⟨u,by simpa using h1,h2⟩
theorem Vals.set(r:RelV x u):∀{xs:List V}{us:List Sb} (i:Nat),Vals xs us->Vals (xs.set i x) (us.set i u)
 |_,_,_,.nil=>.nil
 |_,_,0,.cons _ t=>.cons r t
 |_,_,i+1,.cons q t=>.cons q (Vals.set r i t)
theorem Vals.append:∀{xs ys:List V}{us ws:List Sb},Vals xs us->Vals ys ws->Vals (xs++ys) (us++ws)
 |_,_,_,_,.nil,s=>s
 |_,_,_,_,.cons r t,s=>.cons r (Vals.append t s)
theorem Vals.take:∀{xs:List V}{us:List Sb} (n:Nat),Vals xs us->Vals (xs.take n) (us.take n)
 |_,_,0,_=>.nil
 |_,_,_+1,.nil=>.nil
 |_,_,n+1,.cons r t=>.cons r (Vals.take n t)
theorem Vals.drop:∀{xs:List V}{us:List Sb} (n:Nat),Vals xs us->Vals (xs.drop n) (us.drop n)
 |_,_,0,r=>r
 |_,_,_+1,.nil=>.nil
 |_,_,n+1,.cons _ t=>Vals.drop n t
def i_:Option V->Option Sb->Prop
 |some v,RY u=>RelV v u
 |none,R3=>True
 |_,_=>False
def KV{κ:Type}:List (κ×V)->List (κ×Sb)->Prop:=Paired λ(p:κ×V) (q:κ×Sb)=>p.1=q.1/\RelV p.2 q.2
def kV:Key->V
 |.inl i=>.int i
 |.inr x=>.str x
inductive HO where
 |lst (xs:List V)
 |tup (xs:List V)
 |dK (kvs:List (Key×V))|dT (kvs:List (List Key×V))
 |set (S:Int->Bool) (n:Nat)
 |ins (C dx:Sr) (fs:List (Str×V))
 |own (x:Sr)
 |xd (fs:List (Str×V))
 |met (f x:Sr)
 |Lz (lo hi:Int)
 |F4 (o:Obj) (u:HO)
 |HQ (ps:Array Sb)
 |ext (φ:Ua->Prop)
abbrev Hp:=Sr->Option HO
def upd(H:Hp)(a:Sr)(o:HO):Hp:=λb=>if b=a then RY o else H b
theorem au:upd H a o a=RY o:=by unfold upd;rw[Ú rfl]
theorem ao(h:b≠a):upd H a o b=H b:=by unfold upd;rw[Ü h]
theorem ur{H:Hp}(h:H a=RY o)(h':H b=RY u)(d:o≠u):a≠b:=by
 intro e;subst e;rw[h]at h';exact d (Tq h')
theorem bu{H:Hp}(h:H a=RY o)(h':H b=R3):a≠b:=by
 intro e;subst e;rw[h]at h';cases h'
section
variable(P:Tu)(w:T1)
def bK(H:Hp)(h:Ua)(a:Sr):HO->Prop
 |.lst xs=>xs.length<=R6/\∃(its:List Sb) (n:Nat),Vals xs its/\h.get? a=RY {cls:=.type "list",data:=.seq its.toArray n}
 |.tup xs=>xs.length<=R6/\∃its:List Sb,Vals xs its/\Ù h a its.toArray
 |.dK kvs=>kvs.length<=R6/\(a==TQ)=R5/\∃vs,KV kvs vs/\h.DictOf (aJ P w) a vs
 |.dT kvs=>kvs.length<=R6/\(a==TQ)=R5/\∃xs:List (List Key×Sr×Sb),
   Paired (λ(p:List Key×V) (q:List Key×Sr×Sb)=>p.1=q.1/\H q.2.1=RY (.tup (p.1.map kV))/\RelV p.2 q.2.2) kvs xs /\
   ∃o es ep,h.get? a=RY o/\o.ExactDict/\o.data=.dict es ep/\es.toList=xs.map (entryOfKey (WK (aJ P w)))/\(xs.map (·.1)).Nodup
 |.set S n=>h.SetOf (intKind P w) a S n
 |.ins C dx fs=>H dx=RY (.own a)/\fs.length<=1000/\dx≠a/\h.get? a=RY (PySem.W.instObj C dx) /\
   ∃mA,h.Ns1 dx mA/\(∀f,i_ (fs.lookup f) (mA f))/\PySem.Within mA (fs.map (·.1))
 |.own _=>∃o,h.get? a=RY o
 |.xd fs=>∃mA,h.Ns1 a mA/\∀f,i_ (fs.lookup f) (mA f)
 |.Lz lo hi=>∃t u v,h.get? a=RY {cls:=.type "range",data:=.fields #[.int lo t,.int hi u,.int 1 v]}
 |.F4 o u=>h.get? a=RY o/\bK H h a u
 |.HQ ps=>h.get? a=RY {cls:=.none,data:=.fields ps}
 |.met f x=>h.get? a=RY (PySem.W.methodObj (.ref f) (.ref x))
 |.ext φ=>φ h/\(∃o,h.get? a=RY o)/\∀h1 h2:Ua,φ h1->(∀o,h1.get? a=RY o->h2.get? a=RY o)->φ h2
def EA(H:Hp)(h:Ua):Prop:=∀a o,H a=RY o->bK P w H h a o
end
section
theorem bK.lt(x:bK P w H h a o):a<h.objs.size:=by
 cases o with
 |lst xs=>obtain⟨_,_,_,_,e⟩:=x;exact Sg e
 |tup xs=>obtain⟨_,_,_,p⟩:=x;exact p.lt
 |set S n=>obtain⟨o,_,_,_,e,_⟩:=x;exact Sg e
 |ins C dx fs=>obtain⟨_,_,_,e,_⟩:=x;exact Sg e
 |own y=>obtain⟨_,e⟩:=x;exact Sg e
 |xd fs=>obtain⟨_,⟨_,_,_,e,_⟩,_⟩:=x;exact Sg e
 |Lz lo hi=>obtain⟨_,_,_,e⟩:=x;exact Sg e
 |F4 ob u=>obtain⟨e,_⟩:=x;exact Sg e
 |HQ ps=>exact Sg (show h.get? a=RY _ from x)
 |met f y=>exact Sg (show h.get? a=RY _ from x)
 |ext φ=>obtain⟨_,⟨_,e⟩,_⟩:=x;exact Sg e
 |_=>obtain⟨_,_,_,_,o,_,_,e,_⟩:=x;exact Sg e
theorem Paired.zH:∀{l₁:List α}{l₂:List β},Paired F l₁ l₂->(∀a b,F a b->G a b)->Paired G l₁ l₂
 |_,_,.nil,_=>.nil
 |_,_,.cons r t,f=>.cons (f _ _ r) (Paired.zH t f)
theorem bK.js(x:bK P w H h a o)(k:∀b u,(b=a\/H b=RY (.own a))->h.get? b=RY u->h'.get? b=RY u)
  (ho:∀b,H b=RY (.own a)->H' b=RY (.own a)) (ht:∀b xs,H b=RY (.tup xs)->H' b=RY (.tup xs)):bK P w H' h' a o:=by
 induction o with
 |lst xs=>obtain⟨z,its,n,r,e⟩:=x;exact⟨z,its,n,r,k _ _ (.inl rfl) e⟩
 |tup xs=>obtain⟨z,its,r,ob,e,c⟩:=x;exact⟨z,its,r,ob,k _ _ (.inl rfl) e,c⟩
 |dK kvs=>obtain⟨z,y,vs,r,ob,es,ep,e,c⟩:=x;exact⟨z,y,vs,r,ob,es,ep,k _ _ (.inl rfl) e,c⟩
 |dT kvs =>
  obtain⟨z,y,xs,r,ob,es,ep,e,c⟩:=x;exact⟨z,y,xs,Paired.zH r λp q z=>⟨z.1,ht _ _ z.2.1,z.2.2⟩,ob,es,ep,k _ _ (.inl rfl) e,c⟩
 |set S n=>obtain⟨ob,es,ep,t,e,c⟩:=x;exact⟨ob,es,ep,t,k _ _ (.inl rfl) e,c⟩
 |ins C dx fs =>
  obtain⟨d,z,ne,e,mA,⟨od,es,ep,e2,c⟩,r⟩:=x;exact⟨ho _ d,z,ne,k _ _ (.inl rfl) e,mA,⟨od,es,ep,k _ _ (.inr d) e2,c⟩,r⟩
 |own y=>obtain⟨ob,e⟩:=x;exact⟨ob,k _ _ (.inl rfl) e⟩
 |xd fs=>obtain⟨mA,⟨od,es,ep,e,c⟩,r⟩:=x;exact⟨mA,⟨od,es,ep,k _ _ (.inl rfl) e,c⟩,r⟩
 |Lz lo hi=>obtain⟨t,u,v,e⟩:=x;exact⟨t,u,v,k _ _ (.inl rfl) e⟩
 |F4 ob u ih=>obtain⟨e,q⟩:=x;exact⟨k _ _ (.inl rfl) e,ih q⟩
 |HQ ps =>
  have e:h.get? a=RY {cls:=.none,data:=.fields ps}:=x;show h'.get? a=RY {cls:=.none,data:=.fields ps};exact k a _ (.inl rfl) e
 |met f y =>
  have e:h.get? a=RY (PySem.W.methodObj (.ref f) (.ref y)):=x;show h'.get? a=RY (PySem.W.methodObj (.ref f) (.ref y));exact k a _ (.inl rfl) e
 |ext φ=>obtain⟨p,⟨o,e⟩,st⟩:=x;exact⟨st _ _ p λo q=>k _ _ (.inl rfl) q,⟨o,k _ _ (.inl rfl) e⟩,st⟩
theorem EA.lt(x:EA P w H h)(e:H a=RY o):a<h.objs.size:=(x a o e).lt
theorem EA.fresh(x:EA P w H h)(e:h.objs.size<=a):H a=R3:=by
 cases q:H a with
 |none=>rfl
 |some u=>exact absurd (SF (x.lt q) e) (TR _)
theorem EA.kept(x:EA P w H h)(k:∀b u,h.get? b=RY u->h'.get? b=RY u):EA P w H h':=λa o e =>
 (x a o e).js (λb u _ q=>k b u q) (λ_ q=>q) λ_ _ q=>q
theorem EA.laid(x:EA P w H h)(k:∀b u,h.get? b=RY u->h'.get? b=RY u)(hp:h.objs.size<=a)(new:bK P w (upd H a o) h' a o):EA P w (upd H a o) h':=λb u e=>by
 have hn:=x.fresh hp;by_cases hb:b=a
 ·subst hb;rw[au]at e;cases e;exact new
 ·rw[ao hb]at e;exact(x b u e).js (λc v _ q=>k c v q) (λc q=>by rw[ao (bu q hn)];exact q) λc xs q=>by rw[ao (bu q hn)];exact q
end
def Rd(H:Hp)(a:Sr)(u:HO):Prop:=H a=RY u\/∃o,H a=RY (.F4 o u)
theorem Rd.ok(r:Rd H a u)(x:EA P w H h):bK P w H h a u:=by
 rcases r with r|⟨o,r⟩
 ·exact x a u r
 ·obtain⟨_,q⟩:=x a _ r;exact q
def Jr:Option HO->Prop
 |some (.lst _)=>True
 |some (.dK _)=>True
 |some (.dT _)=>True
 |some (.set _ _)=>True
 |some (.ins _ _ _)=>True
 |some (.ext _)=>True
 |_=>False
section
theorem EA.write(ok:EA P w H h)(mu:Jr (H x))(he:e=x\/H e=RY (.own x))(k:∀b u,b≠e->h.get? b=RY u->h'.get? b=RY u)(IU:∃u,h'.get? e=RY u)
  (new:bK P w (upd H x o') h' x o'):EA P w (upd H x o') h':=λb u q=>by
 have Js:∀c y,H c=RY (.own y)->c≠x:=λc y r z=>by subst z;rw[r]at mu;exact mu
 have LA:∀c xs,H c=RY (.tup xs)->c≠x:=λc xs r z=>by subst z;rw[r]at mu;exact mu
 by_cases hb:b=x
 ·subst hb;rw[au]at q;cases q;exact new
 ·rw[ao hb]at q;by_cases HR:b=e
  ·have q':H b=RY (.own x):=by
    rcases he with z|z
    ·exact absurd (HR.trans z) hb
    ·rw[HR];exact z
   rw[q]at q';cases q';obtain⟨v,hv⟩:=IU;exact⟨v,by rw[HR];exact hv⟩
  ·refine(ok b u q).js (λc v hc r=>k c v ?_ r) (λc r=>by rw[ao (Js c b r)];exact r) λc xs r=>by rw[ao (LA c xs r)];exact r
   rcases hc with rfl|hc
   ·exact HR
   ·rintro rfl;rcases he with z|z
    ·exact Js c b hc z
    ·rw[hc]at z;cases z;exact hb rfl
end
structure Un(fs ex:List Sr)(H H':Hp)(h h':Ua):Prop where
 keep:∀b o,h.get? b=RY o->H b=R3->b∉fs->b∉ex->h'.get? b=RY o
 slot:∀b o,h.get? b=RY o->H b=R3->b∈fs->b∉ex->∃sl,h'.get? b=RY {o with slots:=sl}
 free:∀b o,h.get? b=RY o->H b=R3->b∉ex->H' b=R3
 there:∀b o,h.get? b=RY o->b∉ex->∃o',h'.get? b=RY o'
 je:∀b xs,H b=RY (.tup xs)->H' b=RY (.tup xs)
 E1:∀b o u,H b=RY (.F4 o u)->H' b=RY (.F4 o u)
 E6:∀b ps,H b=RY (.HQ ps)->∃more,H' b=RY (.HQ (ps++more))
section
theorem Un.any(u:Un fs ex H H1 h h1)(q:h.get? b=RY ob)(n:H b=R3)(hx:b∉ex):∃sl,h1.get? b=RY {ob with slots:=sl}:=by
 by_cases hb:b∈fs
 ·exact u.slot b ob q n hb hx
 ·exact⟨ob.slots,u.keep b ob q n hb hx⟩
theorem Un.kept(k:∀b u,h.get? b=RY u->h'.get? b=RY u):Un fs ex H H h h' :=
 ⟨λb ob q _ _ _=>k b ob q,λb ob q _ _ _=>⟨ob.slots,k b ob q⟩,λ_ _ _ n _=>n,λb ob q _=>⟨ob,k b ob q⟩,λ_ _ q=>q,λ_ _ _ q=>q,λ_ ps q=>⟨#[],by rw[q];simp⟩⟩
theorem Un.refl:Un fs ex H H h h:=Un.kept λ_ _ q=>q
theorem Un.laid(k:∀b u,h.get? b=RY u->h'.get? b=RY u)(hp:h.objs.size<=a)(hn:H a=R3):Un fs ex H (upd H a o) h h' where
 keep:=λb u q _ _ _=>k b u q
 slot:=λb u q _ _ _=>⟨u.slots,k b u q⟩
 free:=λb u q n _=>by rw[ao (Su (SF (Sg q) hp))];exact n
 there:=λb u q _=>⟨u,k b u q⟩
 je:=λb xs q=>by rw[ao (bu q hn)];exact q
 E1:=λb u xs q=>by rw[ao (bu q hn)];exact q
 E6:=λb ps q=>⟨#[],by rw[ao (bu q hn),q];simp⟩
theorem Un.write(mu:Jr (H x))(he:e=x\/H e=RY (.own x))(k:∀b u,b≠e->h.get? b=RY u->h'.get? b=RY u)(IU:∃u,h'.get? e=RY u):Un fs ex H (upd H x o) h h':=by
 have hx:∀b,H b=R3->b≠x:=λb n z=>by subst z;rw[n]at mu;exact mu
 have hb:∀b,H b=R3->b≠e:=λb n z=>by
  subst z;rcases he with r|r
  ·exact hx b n r
  ·rw[n]at r;cases r
 have hm:∀b u,H b=RY u->¬Jr (RY u)->b≠x:=λb u q nm z=>by subst z;rw[q]at mu;exact nm mu
 refine⟨λb u q n _ _=>k b u (hb b n) q,λb u q n _ _=>⟨u.slots,k b u (hb b n) q⟩,λb u q n _=>by rw[ao (hx b n)];exact n,λb u q _=>?_,
  λb xs q=>by rw[ao (hm b _ q λz=>z)];exact q,λb u xs q=>by rw[ao (hm b _ q λz=>z)];exact q,λb ps q=>⟨#[],by rw[ao (hm b _ q λz=>z),q];simp⟩⟩
 by_cases HR:b=e
 ·subst HR;exact IU
 ·exact⟨u,k b u HR q⟩
end
def KC(h:Ua)(H:Hp):List Sr:=(Sl h.objs.size).filter λa=>(H a).isSome
def mw(h:Ua)(H:Hp):Ua:=PySem.W.hideAll h (KC h H)
theorem sV(h:Ua)(H:Hp):(mw h H).objs.size=h.objs.size:=PySem.W.hideAll_size _ _
theorem uu(e:h.get? b=RY o)(n:H b=R3):(mw h H).get? b=RY o :=
 PySem.W.hideAll_get _ e λhm=>by
  have q:(H b).isSome=R4:=(T'.mp hm).2;rw[n]at q;simp at q
theorem xc(e:(mw h H).get? b=RY o):h.get? b=RY o/\H b=R3:=by
 have e':h.get? b=RY o:=PySem.W.of_hideAll (KC h H) e;refine⟨e',?_⟩;cases q:H b with
 |none=>rfl
 |some x =>
  have hm:b∈KC h H:=T'.mpr ⟨TB.mpr (Sg e'),by simp[q]⟩;have z:(mw h H).get? b=R3:=PySem.W.hideAll_none (KC h H) hm;rw[z]at e;cases e
structure Mod(K:PySem.W.Frag)(mg:Str->Option Sb)(base:Ua):Prop where
 LB:K.In base
 glob:base.Ns Tw mg
 blt:∃mb,base.Ns Wk mb/\∀x:Str,x≠"__name__"->mb x=Uv x
 nolimit:base.NoLimit
structure Cx where
 prog:Tu
 w:T1
 K:PySem.W.Frag
 mg:Str->Option Sb
 base:Ua
 A:UT
 N:List Str
 s₀:Sm
 H₀:Hp
 env:Env
 outer:List Env
 stack:List Env
 ex:List Sr
 fn:Str->Bool
 calm:Bool
 pn:List (Sr×Obj)
 xe:Sb->Sm->Prop
def FT(l:List Env):List Sr:=l.filterMap (·.frame)
abbrev Cx.fs(X:Cx):List Sr:=FT X.outer
def FE(sc:UI)(x:Str):Prop:=sc.names.lookup x=RY .local\/sc.names.lookup x=RY .cell\/sc.names.lookup x=RY .free
def Loc(sc:UI)(x:Str):Prop:=sc.names.lookup x=RY .local\/sc.names.lookup x=RY .cell
def Look(env:Env)(h:Ua)(m:Str->Option Sb)(x:Str)(u:Sb):Prop :=
 (env.kindOf x=RY .local/\m x=RY u)\/((env.kindOf x=RY .cell\/env.kindOf x=RY .free)/\∃c,env.cells.lookup x=RY c/\h.IsCell c (RY u))
structure Cx.Ok(X:Cx):Prop where
 mod:Mod X.K X.mg X.base
 kind:X.env.scope.kind=.function
 glob:X.env.globals=Tw
 blt:X.env.builtins=Wk
 above:X.s₀.heap.objs.size<=X.env.locals
 inj:∀x y c,X.env.cells.lookup x=RY c->X.env.cells.lookup y=RY c->x=y
 has:∀x,(X.env.kindOf x=RY .cell\/X.env.kindOf x=RY .free)->∃c,X.env.cells.lookup x=RY c
 Jt:∀x c,X.fn x=R4->X.env.cells.lookup x=RY c->X.s₀.heap.objs.size<=c
 hd:X.calm=R4->X.A.handled=R3
 frames:X.A.frames=RY X.stack
 KD:X.stack=X.outer\/(X.stack=X.env::X.outer/\X.env.frame=RY X.env.locals)
 Nt:∀b∈X.ex,b≠X.env.locals/\∀x c,X.env.cells.lookup x=RY c->c≠b
 bs:∀b o,X.base.get? b=RY o->X.s₀.heap.get? b=RY o/\X.H₀ b=R3
 Hx:X.base.objs.size<=X.s₀.heap.objs.size
 Gr:∀b o,X.base.get? b=RY o->b∉X.ex
 G8:∀b∈X.ex,b∉X.fs
 jt:X.s₀.heap.FunFrames X.base X.outer
 IV:∀b∈X.fs,X.H₀ b=R3
structure Inv(X:Cx)(pins:List (Sr×Obj))(σ:List (Option V))(H:Hp)(s:Sm):Prop where
 ok:X.Ok
 os:s.os=X.s₀.os
 bare:Wl s.gens
 base:Un X.fs X.ex X.H₀ H X.s₀.heap s.heap
 loc:∃m,s.heap.Ns X.env.locals m/\∀(i:Nat) (x:Str) (v:V),X.N[i]?=RY x->σ[i]?=RY (RY v)->FE X.env.scope x->∃u,RelV v u/\Look X.env s.heap m x u
 cell:∀x c,X.env.cells.lookup x=RY c->∃v,s.heap.IsCell c v
 free:H X.env.locals=R3
 El:∀x c,X.env.cells.lookup x=RY c->H c=R3
 pin:∀p∈X.pn++pins,s.heap.get? p.1=RY p.2/\H p.1=R3/\p.1≠X.env.locals/\p.1∉X.fs/\∀v,p.2.data≠.cell v
 DN:EA X.prog X.w H s.heap
 len:σ.length=X.N.length
section
variable{X:Cx}{pins:List (Sr×Obj)}{σ:List (Option V)}{H H':Hp}{s:Sm}{h':Ua}
theorem Cx.Ok.C8(ok:X.Ok)(e:X.base.get? b=RY o):b∉X.fs:=λhb=>by
 have:=(ok.jt.mem hb).1;rw[e]at this;cases this
theorem Inv.bs(I:Inv X pins σ H s):∀b o,X.base.get? b=RY o->s.heap.get? b=RY o/\H b=R3:=λb o e =>
 ⟨I.base.keep b o (I.ok.bs b o e).1 (I.ok.bs b o e).2 (I.ok.C8 e) (I.ok.Gr b o e),I.base.free b o (I.ok.bs b o e).1 (I.ok.bs b o e).2 (I.ok.Gr b o e)⟩
theorem Inv.bk(I:Inv X pins σ H s):∀b o,X.base.get? b=RY o->s.heap.get? b=RY o:=λb o e=>(I.bs b o e).1
theorem Inv.mod(I:Inv X pins σ H s):Mod X.K X.mg X.base:=I.ok.mod
theorem Inv.IW(I:Inv X pins σ H s):X.K.In s.heap:=I.ok.mod.LB.keeps I.bk
theorem Inv.lt(I:Inv X pins σ H s):X.env.locals<s.heap.objs.size:=let ⟨_,hn,_⟩:=I.loc;hn.lt
theorem Inv.sz(I:Inv X pins σ H s):X.s₀.heap.objs.size<=s.heap.objs.size:=TX I.ok.above (U2 I.lt)
theorem Inv.BD(I:Inv X pins σ H s)(h:s.heap.objs.size<=a):a∉X.fs:=λhb=>by
 obtain⟨_,o,ho,_⟩:=I.ok.jt.mem hb;exact absurd (SF (Sg ho) (TX I.sz h)) (TR _)
theorem Inv.HS(I:Inv X pins σ H s):∀x c,X.env.cells.lookup x=RY c->c≠X.env.locals:=λx c e z=>by
 obtain⟨v,o,ho,hd⟩:=I.cell x c e;obtain⟨m,⟨o',es,ep,EK,Gf,_⟩,_⟩:=I.loc;rw[z,EK]at ho;cases ho;rw[Gf]at hd;cases hd
theorem Inv.jt(I:Inv X pins σ H s):s.heap.FunFrames X.base X.outer:=by
 have all:∀(l:List Env),(∀b∈FT l,b∈X.fs)->X.s₀.heap.FunFrames X.base l->s.heap.FunFrames X.base l:=by
  intro l;induction l with
  |nil=>intro _ _;trivial
  |cons env r ih =>
   intro hs hl;obtain⟨hk,⟨L,o,hf,hn,ho,hd⟩,hr⟩:=hl;have hL:L∈X.fs:=hs L (by unfold FT;rw[Uw,hf];exact SR);obtain⟨sl,e⟩:=I.base.slot L o ho (I.ok.IV L hL) hL λz=>I.ok.G8 L z hL;exact⟨hk,⟨L,_,hf,hn,e,hd⟩,ih (λb hb=>hs b (by unfold FT;rw[Uw,hf];exact SS _ hb)) hr⟩
 exact all X.outer (λ_ hb=>hb) I.ok.jt
theorem Inv.stack(I:Inv X pins σ H s):s.heap.FunFrames X.base X.stack:=by
 rcases I.ok.KD with e|⟨e,hf⟩
 ·rw[e];exact I.jt
 ·rw[e];obtain⟨m,hn,_⟩:=I.loc;refine .cons (by rw[I.ok.kind];decide) hf hn ?_ I.jt;exact Heap.get?_none_of_le (TX I.ok.Hx I.ok.above)
theorem Inv.ju(I:Inv X pins σ H s):∀b∈FT X.stack,b∈X.env.locals::X.fs:=λb hb=>by
 rcases I.ok.KD with e|⟨e,hf⟩
 ·rw[e]at hb;exact SS _ hb
 ·rw[e]at hb;unfold FT at hb;rw[Uw,hf]at hb;exact hb
theorem Inv.rg(I:Inv X pins σ H s):∀b∈FT X.stack,H b=R3:=λb hb=>by
 rcases Sn.mp (I.ju b hb) with e|hb
 ·rw[e];exact I.free
 ·obtain⟨_,o,ho,_⟩:=I.ok.jt.mem hb;exact I.base.free b o ho (I.ok.IV b hb) λz=>I.ok.G8 b z hb
theorem Inv.step{ch:List Sr}(I:Inv X pins σ H s)
  (GV:∀b∈ch,(b∈X.ex\/X.s₀.heap.objs.size<=b)/\b≠X.env.locals/\(∀x c,X.env.cells.lookup x=RY c->c≠b)/\∀p∈X.pn++pins,p.1≠b)
  (keep:∀b o,b≠X.env.locals->b∉X.fs->b∉ch->s.heap.get? b=RY o->H b=R3->h'.get? b=RY o)
  (slot:∀b o,b≠X.env.locals->b∈X.fs->b∉ch->s.heap.get? b=RY o->H b=R3->∃sl,h'.get? b=RY {o with slots:=sl}) (free:∀b o,b∉ch->s.heap.get? b=RY o->H b=R3->H' b=R3)
  (there:∀b o,b∉ch->s.heap.get? b=RY o->∃o',h'.get? b=RY o')
  (je:∀b xs,H b=RY (.tup xs)->H' b=RY (.tup xs)) (E1:∀b o u,H b=RY (.F4 o u)->H' b=RY (.F4 o u)) (E6:∀b ps,H b=RY (.HQ ps)->∃more,H' b=RY (.HQ (ps++more)))
  (ns:∀m,s.heap.Ns X.env.locals m->h'.Ns X.env.locals m) (DN:EA X.prog X.w H' h') (hg:Wl g') :
  Inv X pins σ H' {s with heap:=h',gens:=g',drawn:=d',toks:=t' }:=by
 have Nu:∀b o,X.s₀.heap.get? b=RY o->b≠X.env.locals:=λb o e=>Su (SF (Sg e) I.ok.above);have KG:∀b o,X.s₀.heap.get? b=RY o->b∉X.ex->b∉ch:=λb o e hx hb=>by
  rcases(GV b hb).1 with z|z
  ·exact hx z
  ·exact absurd (SF (Sg e) z) (TR _)
 have cellK:∀x c,X.env.cells.lookup x=RY c->∀v,s.heap.IsCell c v->h'.IsCell c v:=λx c e v D4=>by
  obtain⟨o,ho,hd⟩:=D4;have Ju:c∉ch:=λz=>(GV c z).2.2.1 x c e rfl;by_cases hc:c∈X.fs
  ·obtain⟨sl,q⟩:=slot c o (I.HS x c e) hc Ju ho (I.El x c e);exact⟨_,q,hd⟩
  ·exact⟨o,keep c o (I.HS x c e) hc Ju ho (I.El x c e),hd⟩
 refine⟨I.ok,I.os,hg,⟨λb o e n hb hx=>?_,λb o e n hb hx=>?_,λb o e n hx=>?_,λb o e hx=>?_,λb xs e=>je b xs (I.base.je b xs e),λb o xs e=>E1 b o xs (I.base.E1 b o xs e),λb ps e=>?_⟩,?_,λx c e=>?_,?_,λx c e=>?_,λp hp=>?_,DN,I.len⟩
 ·exact keep b o (Nu b o e) hb (KG b o e hx) (I.base.keep b o e n hb hx) (I.base.free b o e n hx)
 ·obtain⟨sl,e1⟩:=I.base.slot b o e n hb hx;obtain⟨OQ,e2⟩:=slot b _ (Nu b o e) hb (KG b o e hx) e1 (I.base.free b o e n hx);exact⟨OQ,e2⟩
 ·obtain⟨o',e1⟩:=I.base.there b o e hx;exact free b o' (KG b o e hx) e1 (I.base.free b o e n hx)
 ·obtain⟨o',e1⟩:=I.base.there b o e hx;exact there b o' (KG b o e hx) e1
 ·obtain⟨m1,e1⟩:=I.base.E6 b ps e;obtain⟨m2,e2⟩:=E6 b _ e1;exact⟨m1++m2,by rw[e2,Array.append_assoc]⟩
 ·obtain⟨m,hn,hl⟩:=I.loc;refine⟨m,ns m hn,λi x v e1 e2 e3=>?_⟩;obtain⟨u,r,l⟩:=hl i x v e1 e2 e3;refine⟨u,r,?_⟩;rcases l with l|⟨k,c,e,z⟩
  ·exact .inl l
  ·exact .inr ⟨k,c,e,cellK x c e _ z⟩
 ·obtain⟨v,z⟩:=I.cell x c e;exact⟨v,cellK x c e v z⟩
 ·obtain⟨m,⟨o,_,_,ho,_⟩,_⟩:=I.loc;exact free _ o (λz=>(GV _ z).2.1 rfl) ho I.free
 ·obtain⟨v,o,ho,hd⟩:=I.cell x c e;exact free c o (λz=>(GV c z).2.2.1 x c e rfl) ho (I.El x c e)
 ·obtain⟨e,n,ne,nf,d⟩:=I.pin p hp;have Ju:p.1∉ch:=λz=>(GV p.1 z).2.2.2 p hp rfl;exact⟨keep p.1 p.2 ne nf Ju e n,free p.1 p.2 Ju e n,ne,nf,d⟩
theorem Inv.un(I:Inv X pins σ H s)(u:Un X.fs [] H H' s.heap h')(DN:EA X.prog X.w H' h'):Inv X pins σ H' {s with heap:=h',toks:=t' }:=by
 obtain⟨m,⟨o,es,ep,ho,r⟩,_⟩:=id I.loc;obtain⟨sl,hL⟩:=u.any ho I.free (by simp);exact I.step (g':=s.gens) (d':=s.drawn) (ch:=[]) (λ_ z=>nomatch z) (λb o _ hb _ e n=>u.keep b o e n hb (by simp)) (λb o _ hb _ e n=>u.slot b o e n hb (by simp)) (λb o _ e n=>u.free b o e n (by simp)) (λb o _ e=>u.there b o e (by simp)) u.je u.E1 u.E6 (λm' hm=>by
  obtain⟨o',DL,Jv,EK,r'⟩:=hm;rw[ho]at EK;cases EK;exact⟨_,DL,Jv,hL,r'⟩) DN I.bare
theorem Inv.call(I:Inv X pins σ H s)(u:Un (FT X.stack) ch H H' s.heap h')(DN:EA X.prog X.w H' h')(hg:Wl g')
  (GV:∀b∈ch,(b∈X.ex\/X.s₀.heap.objs.size<=b)/\b≠X.env.locals/\(∀x c,X.env.cells.lookup x=RY c->c≠b)/\∀p∈X.pn++pins,p.1≠b) :
  Inv X pins σ H' {s with heap:=h',gens:=g',drawn:=d',toks:=t' }:=by
 obtain⟨m,⟨o,es,ep,ho,r⟩,_⟩:=id I.loc;obtain⟨sl,hL⟩:=u.any ho I.free λz=>(GV _ z).2.1 rfl;exact I.step (ch:=ch) GV (λb o hL hb hc e n=>u.keep b o e n (λz=>(Sn.mp (I.ju b z)).elim hL hb) hc) (λb o _ _ hc e n=>u.any e n hc) (λb o hc e n=>u.free b o e n hc) (λb o hc e=>u.there b o e hc) u.je u.E1 u.E6 (λm' hm=>by
  obtain⟨o',DL,Jv,EK,r'⟩:=hm;rw[ho]at EK;cases EK;exact⟨_,DL,Jv,hL,r'⟩) DN hg
theorem Inv.turned(I:Inv X pins σ H s)(k:∀b o,b≠it->s.heap.get? b=RY o->h'.get? b=RY o)(hn:H it=R3)(hL:it≠X.env.locals)
  (h1:it∈X.ex\/X.s₀.heap.objs.size<=it) (h2:∀x c,X.env.cells.lookup x=RY c->c≠it) (h3:∀p∈X.pn++pins,p.1≠it):Inv X pins σ H {s with heap:=h',toks:=t' }:=by
 have Jw:∀b u,H b=RY u->b≠it:=λb u e z=>by rw[z,hn]at e;cases e
 refine I.step (g':=s.gens) (d':=s.drawn) (ch:=[it]) (λb hb=>?_) (λb o _ _ hc e _=>k b o (λz=>hc (by simp[z])) e) (λb o _ _ hc e _=>⟨o.slots,k b o (λz=>hc (by simp[z])) e⟩) (λ_ _ _ _ n=>n)
  (λb o hc e=>⟨o,k b o (λz=>hc (by simp[z])) e⟩) (λ_ _ e=>e) (λ_ _ _ e=>e) (λb ps e=>⟨#[],by rw[e];simp⟩) (λm hm=>?_) (λb u e=>?_) I.bare
 ·have e:b=it:=by simpa using hb
  subst e;exact⟨h1,hL,h2,h3⟩
 ·obtain⟨o,es,ep,ho,r⟩:=hm;exact⟨o,es,ep,k _ o (Te hL) ho,r⟩
 ·refine(I.DN b u e).js (λc v hc q=>k c v ?_ q) (λ_ q=>q) λ_ _ q=>q;rcases hc with z|z
  ·rw[z];exact Jw b u e
  ·exact Jw c _ z
theorem Inv.tok(I:Inv X pins σ H s)(t:Nat):Inv X pins σ H {s with toks:=t}:=I.un (h':=s.heap) (t':=t) Un.refl I.DN
theorem Inv.kept(I:Inv X pins σ H s)(k:∀b u,s.heap.get? b=RY u->h'.get? b=RY u):Inv X pins σ H {s with heap:=h',toks:=t' }:=I.un (Un.kept k) (I.DN.kept k)
theorem Inv.laid(I:Inv X pins σ H s)(k:∀b u,s.heap.get? b=RY u->h'.get? b=RY u)(hp:s.heap.objs.size<=a)(new:bK X.prog X.w (upd H a o) h' a o):
  Inv X pins σ (upd H a o) {s with heap:=h',toks:=t' }:=I.un (Un.laid k hp (I.DN.fresh hp)) (I.DN.laid k hp new)
theorem Inv.write(I:Inv X pins σ H s)(mu:Jr (H x))(he:e=x\/H e=RY (.own x))(k:∀b u,b≠e->s.heap.get? b=RY u->h'.get? b=RY u)(IU:∃u,h'.get? e=RY u)
  (new:bK X.prog X.w (upd H x o) h' x o):Inv X pins σ (upd H x o) {s with heap:=h',toks:=t' }:=I.un (Un.write mu he k IU) (I.DN.write mu he k IU new)
theorem Inv.weak(I:Inv X pins σ H s)(hl:σ'.length=σ.length)(w:∀(i:Nat) v,σ'[i]?=RY (RY v)->σ[i]?=RY (RY v)):Inv X pins σ' H s :=
 ⟨I.ok,I.os,I.bare,I.base,let ⟨m,hn,G9⟩:=I.loc;⟨m,hn,λi x v e1 e2 e3=>G9 i x v e1 (w i v e2) e3⟩,I.cell,I.free,I.El,I.pin,I.DN,hl.trans I.len⟩
theorem Inv.fz(I:Inv X pins σ H s)(h:∀p∈Hy,s.heap.get? p.1=RY p.2/\H p.1=R3/\p.1≠X.env.locals/\p.1∉X.fs/\∀v,p.2.data≠.cell v):Inv X Hy σ H s :=
 ⟨I.ok,I.os,I.bare,I.base,I.loc,I.cell,I.free,I.El,λp hp=>(SA.mp hp).elim (λz=>I.pin p (TJ _ z)) (h p),I.DN,I.len⟩
theorem jv{N:List Str}(hN:N.Nodup){i j:Nat}(a:N[i]?=RY x)(b:N[j]?=RY x):i=j:=by
 obtain⟨h1,e1⟩:=Sf.mp a;obtain⟨h2,e2⟩:=Sf.mp b;exact(YU hN).mp (e1.trans e2.symm)
theorem lu(I:Inv X pins σ H s)(hN:X.N.Nodup)(hi:X.N[i]?=RY x)(hx:Loc X.env.scope x)(r:RelV v u)
  (h:∀s',Inv X pins (σ.set i (RY v)) H s'->(∃a,T5 a s.heap s'.heap/\(a=X.env.locals\/X.env.cells.lookup x=RY a))->Q () s') (hf:X.fn x=R4\/X.env.scope.names.lookup x=RY .local:=by first|exact .inl rfl|exact .inr rfl|assumption):Se M A (storeName X.env x u) Q E s:=by
 obtain⟨m,hn,hl⟩:=id I.loc;have LC:(X.env.scope.kind==.class||(X.env.scope.kind==.module&&X.env.locals != X.env.globals))=R5:=by rw[I.ok.kind];rfl
 have Nv:i < σ.length:=by rw[I.len];exact(Sf.mp hi).1
 have HS:=I.HS;have tracked:∀{a:Sr} {h':Ua},(∃o,s.heap.get? a=RY o/\H a=R3)->T5 a s.heap h'->EA X.prog X.w H h':=λ{a h'} ha hs b ob e=>by
  obtain⟨_,_,D5⟩:=ha;refine(I.DN b ob e).js (λc w' hc q=>(hs.2 c ?_).trans q) (λ_ q=>q) λ_ _ q=>q;rintro rfl;rcases hc with rfl|hc
  ·rw[D5]at e;cases e
  ·rw[D5]at hc;cases hc
 rcases hx with hk|hk
 ·refine wpAny_storeName_local hk hn (λh' HU hs=>?_) LC;obtain⟨oL,_,_,G_,_⟩:=id hn;refine h _ ⟨I.ok,I.os,I.bare,⟨λb o e n hb hx=>?_,λb o e n hb hx=>?_,I.base.free,λb o e hx=>?_,I.base.je,I.base.E1,I.base.E6⟩,⟨_,HU,λj y v' e1 e2 e3=>?_⟩,λy c e=>?_,I.free,I.El,λp hp=>?_,tracked ⟨oL,G_,I.free⟩ hs,by simpa using I.len⟩ ⟨_,hs,.inl rfl⟩
  ·exact(hs.2 b (Su (SF (Sg e) I.ok.above))).trans (I.base.keep b o e n hb hx)
  ·obtain⟨sl,e1⟩:=I.base.slot b o e n hb hx;exact⟨sl,(hs.2 b (Su (SF (Sg e) I.ok.above))).trans e1⟩
  ·obtain⟨o',e1⟩:=I.base.there b o e hx;exact⟨o',(hs.2 b (Su (SF (Sg e) I.ok.above))).trans e1⟩
  ·by_cases hj:j=i
   ·subst hj;rw[hi]at e1;cases e1;rw[Sk Nv]at e2;cases e2;exact⟨u,r,.inl ⟨hk,by simp⟩⟩
   ·rw[SG (Te hj)]at e2;obtain⟨u',r',q⟩:=hl j y v' e1 e2 e3;refine⟨u',r',?_⟩;rcases q with⟨k,e⟩|⟨k,c,e,z⟩
    ·refine .inl ⟨k,?_⟩;have:y≠x:=λe=>hj (jv hN e1 (e▸hi));simp[this,e]
    ·exact .inr ⟨k,c,e,z.sameBut hs (HS y c e)⟩
  ·obtain⟨w',z⟩:=I.cell y c e;exact⟨w',z.sameBut hs (HS y c e)⟩
  ·obtain⟨e,n,ne,nf,d⟩:=I.pin p hp;exact⟨(hs.2 p.1 ne).trans e,n,ne,nf,d⟩
 ·have GW:X.fn x=R4:=by
   rcases hf with z|z
   ·exact z
   ·rw[z]at hk;cases hk
  obtain⟨c,hc⟩:=I.ok.has x (.inl hk);obtain⟨w',z⟩:=I.cell x c hc;refine wpAny_storeName_cell I.ok.kind hk hc z (λh' GX hs=>?_);obtain⟨oc,Nw,LD⟩:=id z;refine h {s with heap:=h' } ⟨I.ok,I.os,I.bare,⟨λb o e n hb hx=>?_,λb o e n hb hx=>?_,I.base.free,λb o e hx=>?_,I.base.je,I.base.E1,I.base.E6⟩,⟨m,hn.sameBut hs (Te (HS x c hc)),λj y v' e1 e2 e3=>?_⟩,λy c' e=>?_,I.free,I.El,λp hp=>?_,tracked ⟨oc,Nw,I.El x c hc⟩ hs,by simpa using I.len⟩ ⟨c,hs,.inr hc⟩
  ·exact(hs.2 b (Su (SF (Sg e) (I.ok.Jt x c GW hc)))).trans (I.base.keep b o e n hb hx)
  ·obtain⟨sl,e1⟩:=I.base.slot b o e n hb hx;exact⟨sl,(hs.2 b (Su (SF (Sg e) (I.ok.Jt x c GW hc)))).trans e1⟩
  ·obtain⟨o',e1⟩:=I.base.there b o e hx;exact⟨o',(hs.2 b (Su (SF (Sg e) (I.ok.Jt x c GW hc)))).trans e1⟩
  ·by_cases hj:j=i
   ·subst hj;rw[hi]at e1;cases e1;rw[Sk Nv]at e2;cases e2;exact⟨u,r,.inr ⟨.inl hk,c,hc,GX⟩⟩
   ·rw[SG (Te hj)]at e2;obtain⟨u',r',q⟩:=hl j y v' e1 e2 e3;refine⟨u',r',?_⟩;rcases q with q|⟨k,c',e,z'⟩
    ·exact .inl q
    ·refine .inr ⟨k,c',e,z'.sameBut hs ?_⟩;rintro rfl;exact hj (jv hN e1 (I.ok.inj _ _ _ e hc▸hi))
  ·by_cases Ny:c'=c
   ·subst Ny;exact⟨_,GX⟩
   ·obtain⟨w2,z2⟩:=I.cell y c' e;exact⟨w2,z2.sameBut hs Ny⟩
  ·obtain⟨e,n,ne,nf,d⟩:=I.pin p hp;refine⟨(hs.2 p.1 ?_).trans e,n,ne,nf,d⟩;intro q;rw[q,Nw]at e;have q':oc=p.2:=Tq e;exact d w' (by rw[<-q'];exact LD)
theorem n9(I:Inv X pins σ H s)(hN:X.N.Nodup)(hi:X.N[i]?=RY x)(hx:Loc X.env.scope x)(r:RelV v u)
  (h:∀s',Inv X pins (σ.set i (RY v)) H s'->Q () s') (hf:X.fn x=R4\/X.env.scope.names.lookup x=RY .local:=by first|exact .inl rfl|exact .inr rfl|assumption):Se M A (storeName X.env x u) Q E s :=
 lu I hN hi hx r (λs' I' _=>h s' I') hf
theorem Inv.BE(I:Inv X pins σ H s)(ho:s'.os=s.os)(u:Un (FT X.stack) ch H H' s.heap s'.heap)(DN:EA X.prog X.w H' s'.heap)(hg:Wl s'.gens)
  (GV:∀b∈ch,(b∈X.ex\/X.s₀.heap.objs.size<=b)/\b≠X.env.locals/\(∀x c,X.env.cells.lookup x=RY c->c≠b)/\∀p∈X.pn++pins,p.1≠b):Inv X pins σ H' s':=by
 obtain⟨h',g',d',t',o'⟩:=s';have e:o'=s.os:=ho;subst e;exact I.call (g':=g') (t':=t') (d':=d') u DN hg GV
end
abbrev XK:=Sb->Option Sr->Hp->Prop
abbrev St:=List (Option V)
abbrev VK:=V->Hp->Prop
abbrev TE:=St->Hp->VK->Prop
abbrev TT:=St->Hp->(Bool->Hp->Prop)->Prop
abbrev TA:=St->Hp->(List V->Hp->Prop)->Prop
structure Ends where
 nx:St->Hp->Prop
 rt:VK
 bk:St->Hp->Prop:=λ_ _=>False
 ct:St->Hp->Prop:=λ_ _=>False
abbrev TS:=Ends->St->Hp->Prop
def EP(X:Cx)(pins:List (Sr×Obj))(σ:St)(Q:VK)(u:Sb)(s':Sm):Prop:=∃v H',Inv X pins σ H' s'/\RelV v u/\Q v H'
def TP(X:Cx)(pins:List (Sr×Obj))(σ:St)(Q:Bool->Hp->Prop)(b:Bool)(s':Sm):Prop:=∃H',Inv X pins σ H' s'/\Q b H'
def AP(X:Cx)(pins:List (Sr×Obj))(σ:St)(Q:List V->Hp->Prop)(us:List Sb)(s':Sm):Prop:=∃vs H',Inv X pins σ H' s'/\Vals vs us/\Q vs H'
def SP(X:Cx)(pins:List (Sr×Obj))(D:Ends)(f:Flow)(s':Sm):Prop :=
 match f with
 |.next=>∃σ' H',Inv X pins σ' H' s'/\D.nx σ' H'
 |.brk=>∃σ' H',Inv X pins σ' H' s'/\D.bk σ' H'
 |.cont=>∃σ' H',Inv X pins σ' H' s'/\D.ct σ' H'
 |.ret u=>∃v σ' H',Inv X pins σ' H' s'/\RelV v u/\D.rt v H'
def PE(X:Cx)(e:Td)(t:TE):Prop :=
 ∀(pins:List (Sr×Obj)) (s:Sm) (σ:St) (H:Hp) (Q:VK),Inv X pins σ H s->t σ H Q->Se (Sw X.prog X.w) X.A (T2 e X.env) (EP X pins σ Q) X.xe s
def PT(X:Cx)(e:Td)(t:TT):Prop :=
 ∀(pins:List (Sr×Obj)) (s:Sm) (σ:St) (H:Hp) (Q:Bool->Hp->Prop),Inv X pins σ H s->t σ H Q->Se (Sw X.prog X.w) X.A (isTrue e X.env (T2 e X.env)) (TP X pins σ Q) X.xe s
def PW(X:Cx)(e:Td)(t:TT):Prop :=
 ∀(whole:Sem Sb) (pins:List (Sr×Obj)) (s:Sm) (σ:St) (H:Hp) (Q:Bool->Hp->Prop),Inv X pins σ H s->t σ H Q->Se (Sw X.prog X.w) X.A (isTrue e X.env whole) (TP X pins σ Q) X.xe s
theorem PW.pt(h:PW X e t):PT X e t:=h _
def PA(X:Cx)(es:List Td)(t:TA):Prop :=
 ∀(pos:Pos) (pins:List (Sr×Obj)) (s:Sm) (σ:St) (H:Hp) (Q:List V->Hp->Prop),Inv X pins σ H s->t σ H Q->Se (Sw X.prog X.w) X.A (ZA (Uk pos (SJ es X.env))) (AP X pins σ Q) X.xe s
def PS(X:Cx)(st:Vt)(t:TS):Prop :=
 ∀(pins:List (Sr×Obj)) (s:Sm) (σ:St) (H:Hp) (D:Ends),Inv X pins σ H s->t D σ H->Se (Sw X.prog X.w) X.A (exec st X.env) (SP X pins D) X.xe s
def EE(X:Cx)(st:List Vt)(t:TS):Prop :=
 ∀(pins:List (Sr×Obj)) (s:Sm) (σ:St) (H:Hp) (D:Ends),Inv X pins σ H s->t D σ H->Se (Sw X.prog X.w) X.A (execs st X.env) (SP X pins D) X.xe s
theorem DQ(h:Se M A t Q E s)(hQ:∀a s,Q a s->Q' a s):Se M A t Q' E s:=Th h hQ λ_ _ x=>x
section
def C9(i:Nat):TE:=λσ H Q=>∃v,σ[i]?=RY (RY v)/\Q v H
def tC(v:V):TE:=λ_ H Q=>Q v H
theorem cw(hN:X.N[i]?=RY x)(hv:FE X.env.scope x)(hd:(x==("__debug__":Str))=R5:=by decide)(En:(x==("__classdict__":Str))=R5:=by decide):PE X (.Name x pos) (C9 i):=by
 intro pins s σ H Q I h;obtain⟨v,e,h⟩:=h;obtain⟨m,hn,hl⟩:=I.loc;obtain⟨u,r,l⟩:=hl i x v hN e hv;have fin:EP X pins σ Q u s:=⟨v,H,I,r,h⟩
 rcases l with⟨hk,hm⟩|⟨hk,c,hc,FU⟩
 ·exact Zl (wpAny_loadName_local I.ok.kind hk hn hm fin) hd
 ·rcases hk with hk|hk
  ·exact Zl (wpAny_loadName_cell I.ok.kind hk hc FU fin) hd
  ·exact Zl (wpAny_loadName_free I.ok.kind hk hc FU fin En) hd
theorem uw:PE X (.Constant (.int i) j pos) (tC (.int i)):=λ_ _ _ H _ I h=>wpAny_Constant_int ⟨.int i,H,I.tok _,⟨_,rfl⟩,h⟩
theorem zd:PE X (.Constant (.bool b) j pos) (tC (.bl b)):=λ_ _ _ H _ I h=>Constant_bool ⟨.bl b,H,I,rfl,h⟩
theorem uA:PE X (.Constant .none j pos) (tC .DR):=λ_ _ _ H _ I h=>Constant_none ⟨.DR,H,I,rfl,h⟩
theorem p5:PE X (.Constant (.str x) j pos) (tC (.str x)):=λ_ _ _ H _ I h=>Calls.Constant_str ⟨.str x,H,I.tok _,⟨_,rfl⟩,h⟩
def Gl(X:Cx)(x:Str):Prop:=X.env.kindOf x=RY .globalImplicit
theorem rh(I:Inv X pins σ H s)(hg:Gl X x)(hm:X.mg x=RY u)(h:Q u s)
  (hd:(x==("__debug__":Str))=R5:=by decide):Se (Sw X.prog X.w) X.A (T2 (.Name x pos) X.env) Q E s :=
 Xl I.ok.kind hg (Calls.loadGlobal_global (by rw[I.ok.glob];exact I.mod.glob.keeps I.bk) hm h) hd
theorem eT(I:Inv X pins σ H s)(hg:Gl X x)(hm:X.mg x=R3)(hv:Uv x=RY u)(h:Q u s)
  (hn:x≠"__name__":=by decide) (hd:(x==("__debug__":Str))=R5:=by decide):Se (Sw X.prog X.w) X.A (T2 (.Name x pos) X.env) Q E s:=by
 obtain⟨mb,h1,h2⟩:=I.mod.blt;exact Xl I.ok.kind hg (Calls.loadGlobal_builtin (by rw[I.ok.glob];exact I.mod.glob.keeps I.bk) hm (by rw[I.ok.blt];exact h1.keeps I.bk) ((h2 x hn).trans hv) h) hd
theorem xf(hg:Gl X x)(hm:X.mg x=RY u)(r:RelV v u)(hd:(x==("__debug__":Str))=R5:=by decide):PE X (.Name x pos) (tC v) :=
 λ_ _ _ H _ I h=>rh I hg hm ⟨v,H,I,r,h⟩ hd
def PC(X:Cx)(op:CmpOp)(a b:Td)(t:TE):Prop :=
 ∀(pins:List (Sr×Obj)) (s:Sm) (σ:St) (H:Hp) (Q:VK),Inv X pins σ H s->t σ H Q ->
  Se (Sw X.prog X.w) X.A (T2 a X.env) (λv s₁=>Se (Sw X.prog X.w) X.A (T2 b X.env) (λu s₂=>Se (Sw X.prog X.w) X.A (Ud op v u) (EP X pins σ Q) X.xe s₂) X.xe s₁) X.xe s
def tB(t:TE):TT:=λσ H Q=>t σ H λx H1=>∃c,x=.bl c/\Q c H1
theorem uB(h:PC X op a b t)(h1:US op b=R5:=by first|exact Gu _ (by decide) (by decide)|rfl):PE X (.Compare a [op] [b] pos) t:=λpins s σ H Q I hw=>Ä (h pins s σ H Q I hw) h1
theorem uC(h:PC X op a b t)(h1:US op b=R5:=by first|exact Gu _ (by decide) (by decide)|rfl):PT X (.Compare a [op] [b] pos) (tB t):=by
 intro pins s σ H Q I hw;refine YN (DQ (h pins s σ H _ I hw) λv s1 h1=>DQ h1 λu s2 h2=>DQ h2 λc s3 ⟨x,H1,I1,r1,q1⟩=>?_) h1;obtain⟨d,rfl,q⟩:=q1;cases r1;exact TC ⟨H1,I1,q⟩
def C_(t u:TT):TT:=λσ H Q=>t σ H λc H1=>if c=R4 then u σ H1 Q else Q R5 H1
def OR(t u:TT):TT:=λσ H Q=>t σ H λc H1=>if c=R4 then Q R4 H1 else u σ H1 Q
def Dc(t:TT):TT:=λσ H Q=>t σ H λc H1=>Q (!c) H1
theorem xg(ha:PT X a tA):PW X (.BoolOp .And [a] pos) tA:=by
 intro wh pins s σ H Q I h;refine isTrue_and (DQ (ha pins s σ H Q I h) λc s1 e=>?_);cases c with
 |true=>exact Ö e
 |false=>exact e
theorem zI(ha:PT X a tA):PW X (.BoolOp .Or [a] pos) tA:=by
 intro wh pins s σ H Q I h;refine isTrue_or (DQ (ha pins s σ H Q I h) λc s1 e=>?_);cases c with
 |false=>exact isTrue_or_nil e
 |true=>exact e
theorem zJ(ha:PT X a tA)(hb:PW X (.BoolOp .And (b::rest) pos) LF):PW X (.BoolOp .And (a::b::rest) pos) (C_ tA LF):=by
 intro wh pins s σ H Q I h;refine isTrue_and (DQ (ha pins s σ H _ I h) λc s1 ⟨H1,I1,q1⟩=>?_);cases c with
 |true=>exact hb wh pins s1 σ H1 Q I1 q1
 |false=>exact⟨H1,I1,q1⟩
theorem BF(ha:PT X a tA)(hb:PW X (.BoolOp .Or (b::rest) pos) LF):PW X (.BoolOp .Or (a::b::rest) pos) (OR tA LF):=by
 intro wh pins s σ H Q I h;refine isTrue_or (DQ (ha pins s σ H _ I h) λc s1 ⟨H1,I1,q1⟩=>?_);cases c with
 |true=>exact⟨H1,I1,q1⟩
 |false=>exact hb wh pins s1 σ H1 Q I1 q1
theorem zK(ha:PT X a tA):PT X (.UnaryOp .Not a pos) (Dc tA):=by
 intro pins s σ H Q I h;exact isTrue_not (ha pins s σ H (λc H1=>Q (!c) H1) I h)
def BG(ta tb:TE):TE:=λσ H Q=>ta σ H λx H1=>∃c,x=.bl c/\if c=R4 then tb σ H1 Q else Q (.bl R5) H1
def Dd(ta tb:TE):TE:=λσ H Q=>ta σ H λx H1=>∃c,x=.bl c/\if c=R4 then Q (.bl R4) H1 else tb σ H1 Q
def BH(ta:TE):TE:=λσ H Q=>ta σ H λx H1=>∃c,x=.bl c/\Q (.bl (!c)) H1
theorem uD(h:PE X a t):PE X (.BoolOp op [a] pos) t:=λpins s σ H Q I hw=>BoolOp_one (h pins s σ H Q I hw)
theorem zL(ha:PE X a ta)(hb:PE X (.BoolOp .And (b::rest) pos) tb):PE X (.BoolOp .And (a::b::rest) pos) (BG ta tb):=by
 intro pins s σ H Q I h;refine BoolOp_and (DQ (ha pins s σ H _ I h) λv s1 ⟨x,H1,I1,r1,q1⟩=>?_);obtain⟨c,rfl,q1⟩:=q1;cases r1;refine TC ?_;cases c with
 |true=>exact hb pins s1 σ H1 Q I1 q1
 |false=>exact⟨.bl R5,H1,I1,rfl,q1⟩
theorem BI(ha:PE X a ta)(hb:PE X (.BoolOp .Or (b::rest) pos) tb):PE X (.BoolOp .Or (a::b::rest) pos) (Dd ta tb):=by
 intro pins s σ H Q I h;refine BoolOp_or (DQ (ha pins s σ H _ I h) λv s1 ⟨x,H1,I1,r1,q1⟩=>?_);obtain⟨c,rfl,q1⟩:=q1;cases r1;refine TC ?_;cases c with
 |false=>exact hb pins s1 σ H1 Q I1 q1
 |true=>exact⟨.bl R4,H1,I1,rfl,q1⟩
theorem zM(ha:PE X a ta):PE X (.UnaryOp .Not a pos) (BH ta):=by
 intro pins s σ H Q I h;refine UnaryOp_ (DQ (ha pins s σ H _ I h) λv s1 ⟨x,H1,I1,r1,q1⟩=>?_);obtain⟨c,rfl,q1⟩:=q1;cases r1;exact not_of (TC ⟨.bl (!c),H1,I1,rfl,q1⟩)
end
def Eg(K:PySem.W.Frag)(H:Hp)(a:Sr)(xs:List V):Prop :=
 Rd H a (.lst xs) \/
  ∃(o:Obj) (its:Array Sb) (n:Nat),K.lookup a=RY o/\o.cls=.type "list"/\o.dict=R3/\o.data=.seq its n/\its.size<=R6/\Vals xs its.toList
def Ef(K:PySem.W.Frag)(H:Hp)(a:Sr)(xs:List V):Prop :=
 Rd H a (.tup xs) \/
  ∃(o:Obj) (its:Array Sb) (n:Nat),K.lookup a=RY o/\o.cls=.type "tuple"/\o.data=.seq its n/\its.size<=R6/\Vals xs its.toList
def De:Sb->Option V
 |.none=>RY .DR
 |.bool b=>RY (.bl b)
 |.int i _=>RY (.int i)
 |.str x _=>RY (.str x)
 |.bytes b _=>RY (.Kz b)
 |.float b _=>RY (.KA b)
 |.ref a=>RY (.ref a)
 |.type n=>RY (.ty n)
 |_=>R3
theorem RelV.abs(r:RelV x u):De u=RY x:=by
 cases x with
 |DR=>cases r;rfl
 |bl _=>cases r;rfl
 |ref _=>cases r;rfl
 |ty _=>cases r;rfl
 |_=>obtain⟨t,rfl⟩:=r;rfl
theorem RelV.inj(r:RelV x u)(q:RelV y u):x=y:=Tq (r.abs.symm.trans q.abs)
theorem Vals.inj:∀{xs ys:List V}{us:List Sb},Vals xs us->Vals ys us->xs=ys
 |_,_,_,.nil,.nil=>rfl
 |_,_,_,.cons r t,.cons r' t'=>by rw[r.inj r',Vals.inj t t']
section
theorem Eg.of{K:PySem.W.Frag}(h:H a=RY (.lst xs)):Eg K H a xs:=.inl (.inl h)
theorem Ef.of{K:PySem.W.Frag}(h:H a=RY (.tup xs)):Ef K H a xs:=.inl (.inl h)
theorem Inv.list(I:Inv X pins σ H s)(h:Eg X.K H a xs):∃its:List Sb,Vals xs its/\PlainL s.heap a its.toArray/\xs.length<=R6:=by
 rcases h with h|⟨o,its,n,hk,hc,hd,hs,hz,r⟩
 ·obtain⟨z,its,n,r,e⟩:=h.ok I.DN;exact⟨its,r,⟨_,n,e,rfl,rfl,rfl⟩,z⟩
 ·refine⟨its.toList,r,⟨o,n,I.IW a o hk,hc,hd,by simpa using hs⟩,?_⟩;have e:=r.length;simp only[S7]at e;omega
theorem Inv.tuple(I:Inv X pins σ H s)(h:Ef X.K H a xs):∃its:List Sb,Vals xs its/\Ù s.heap a its.toArray/\xs.length<=R6:=by
 rcases h with h|⟨o,its,n,hk,hc,hs,hz,r⟩
 ·obtain⟨z,its,r,p⟩:=h.ok I.DN;exact⟨its,r,p,z⟩
 ·refine⟨its.toList,r,⟨o,I.IW a o hk,hc,n,by simpa using hs⟩,?_⟩;have e:=r.length;simp only[S7]at e;omega
theorem Inv.n_(I:Inv X pins σ H s)(h:Eg X.K H a xs)(h':Eg X.K H a ys):xs=ys:=by
 obtain⟨its,r,⟨o,n,e,_,_,d⟩,_⟩:=I.list h;obtain⟨its',r',⟨o',n',e',_,_,d'⟩,_⟩:=I.list h';rw[e]at e';cases e';rw[d]at d';injection d' with d1 _
 have:its=its':=by simpa using ß XN d1
 subst this;exact r.inj r'
theorem Inv.ly(I:Inv X pins σ H s)(h:Ef X.K H a xs)(h':Ef X.K H a ys):xs=ys:=by
 obtain⟨its,r,⟨o,e,_,n,d⟩,_⟩:=I.tuple h;obtain⟨its',r',⟨o',e',_,n',d'⟩,_⟩:=I.tuple h';rw[e]at e';cases e';rw[d]at d';injection d' with d1 _
 have:its=its':=by simpa using ß XN d1
 subst this;exact r.inj r'
end
abbrev Cx.kU(X:Cx)(E:Sb->Sm->Prop):Cx:={X with xe:=E}
abbrev Cx.Jx(X:Cx):Cx:=X.kU λ_ _=>False
theorem Cx.Ok.kU{X:Cx}(ok:X.Ok)(E:Sb->Sm->Prop):(X.kU E).Ok :=
 ⟨ok.mod,ok.kind,ok.glob,ok.blt,ok.above,ok.inj,ok.has,ok.Jt,ok.hd,ok.frames,ok.KD,ok.Nt,ok.bs,ok.Hx,ok.Gr,ok.G8,ok.jt,ok.IV⟩
theorem Cx.Ok.ie{X:Cx}(ok:(X.kU E).Ok):X.Ok :=
 ⟨ok.mod,ok.kind,ok.glob,ok.blt,ok.above,ok.inj,ok.has,ok.Jt,ok.hd,ok.frames,ok.KD,ok.Nt,ok.bs,ok.Hx,ok.Gr,ok.G8,ok.jt,ok.IV⟩
section
theorem Inv.kU(I:Inv X pins σ H s)(E:Sb->Sm->Prop):Inv (X.kU E) pins σ H s:=⟨I.ok.kU E,I.os,I.bare,I.base,I.loc,I.cell,I.free,I.El,I.pin,I.DN,I.len⟩
theorem Inv.ie(I:Inv (X.kU E) pins σ H s):Inv X pins σ H s:=⟨I.ok.ie,I.os,I.bare,I.base,I.loc,I.cell,I.free,I.El,I.pin,I.DN,I.len⟩
theorem SP.ie(h:SP (X.kU E) pins D f s'):SP X pins D f s':=by
 cases f with
 |ret u=>obtain⟨v,σ',H',I,r,q⟩:=h;exact⟨v,σ',H',I.ie,r,q⟩
 |_=>obtain⟨σ',H',I,q⟩:=h;exact⟨σ',H',I.ie,q⟩
theorem EE.Jx{st:List Vt}(h:EE X.Jx st t):EE X st t:=λpins s σ H D I hw =>
 Th (h pins s σ H D (I.kU _) hw) (λ_ _ q=>q.ie) λ_ _ z=>UR z
end
section
variable{X:Cx}{st:Vt}{rest:List Vt}{t u:TS}{e:Td}{te:TE}{pos:Pos}
def ze:TS:=λD σ H=>D.nx σ H
def Df(t u:TS):TS:=λD σ H=>t {D with nx:=u D} σ H
theorem xh:EE X [] ze:=λ_ _ σ H _ I h=>XI ⟨σ,H,I,h⟩
theorem uE(h1:PS X st t)(h2:EE X rest u):EE X (st::rest) (Df t u):=by
 intro pins s σ H D I h;refine wpAny_execs_cons (DQ (h1 pins s σ H {D with nx:=u D} I h) λf s1 q=>?_);cases f with
 |next =>
  obtain⟨σ',H',I',q⟩:=q;exact h2 pins s1 σ' H' D I' q
 |_=>exact q
def zN:TS:=λD σ H=>D.bk σ H
def BJ:TS:=λD σ H=>D.ct σ H
theorem xi:PS X (.Pass pos) ze:=λ_ _ σ H _ I h=>wpAny_Pass ⟨σ,H,I,h⟩
theorem uF:PS X (.Break pos) zN:=λ_ _ σ H _ I h=>wpAny_Break ⟨σ,H,I,h⟩
theorem oe:PS X (.Continue pos) BJ:=λ_ _ σ H _ I h=>wpAny_Continue ⟨σ,H,I,h⟩
theorem Inv.quiet(I:Inv X pins σ H s):interactive X.env=R5:=by simp[interactive,I.ok.kind]
def BK(te:TE):TS:=λD σ H=>te σ H λ_ H1=>D.nx σ H1
theorem jh(he:PE X e te)(hs:Vx e R3 pos.line X.env=pure R5:=by rfl):PS X (.Expr e pos) (BK te):=by
 intro pins s σ H D I h;exact wpAny_Expr_any (DQ (he pins s σ H _ I h) λv s1 ⟨x,H1,I1,r1,q1⟩=>⟨σ,H1,I1,q1⟩) I.quiet hs
def Dg(te:TE):TS:=λD σ H=>te σ H D.rt
theorem zO(he:PE X e te):PS X (.Return (RY e) pos) (Dg te):=by
 intro pins s σ H D I h;exact wpAny_Return_some (DQ (he pins s σ H _ I h) λv s1 ⟨x,H1,I1,r1,q1⟩=>⟨x,σ,H1,I1,r1,q1⟩)
def BL:TS:=λD _ H=>D.rt .DR H
theorem xj:PS X (.Return R3 pos) BL:=λ_ _ σ H _ I h=>wpAny_Return_none ⟨.DR,σ,H,I,rfl,h⟩
def Dh(c:TT)(t u:TS):TS:=λD σ H=>c σ H λb H1=>if b=R4 then t D σ H1 else u D σ H1
theorem BM(hc:PT X c tc)(ha:EE X a t)(hb:EE X b u):PS X (.If c a b pos) (Dh tc t u):=by
 intro pins s σ H D I h;refine wpAny_If (DQ (hc pins s σ H _ I h) λd s1 ⟨H1,I1,q1⟩=>?_);cases d with
 |true=>exact ha pins s1 σ H1 D I1 q1
 |false=>exact hb pins s1 σ H1 D I1 q1
end
abbrev TG:=V->St->Hp->(St->Hp->Prop)->Prop
abbrev IX:=List V->St->Hp->(St->Hp->Prop)->Prop
def PG(X:Cx)(target:Td)(t:TG):Prop :=
 ∀(pins:List (Sr×Obj)) (s:Sm) (σ:St) (H:Hp) (v:V) (u:Sb) (Q:St->Hp->Prop),Inv X pins σ H s->RelV v u->t v σ H Q ->
  Se (Sw X.prog X.w) X.A (VU target X.env u) (λ_ s'=>∃σ' H',Inv X pins σ' H' s'/\Q σ' H') X.xe s
def Jy(X:Cx)(ts:List Td)(t:IX):Prop :=
 ∀(pins:List (Sr×Obj)) (s:Sm) (σ:St) (H:Hp) (vs:List V) (us:List Sb) (Q:St->Hp->Prop),Inv X pins σ H s->Vals vs us->t vs σ H Q ->
  Se (Sw X.prog X.w) X.A (assignInOrder ((Ve ts X.env).map (·.2)) us) (λ_ s'=>∃σ' H',Inv X pins σ' H' s'/\Q σ' H') X.xe s
abbrev zP:=V->V->V->Hp->(Hp->Prop)->Prop
def jw(X:Cx)(t:zP):Prop :=
 ∀(pins:List (Sr×Obj)) (s:Sm) (σ:St) (H:Hp) (o i v:V) (ov iv u:Sb) (Q:Hp->Prop),Inv X pins σ H s->RelV o ov->RelV i iv->RelV v u->t o i v H Q ->
  Se (Sw X.prog X.w) X.A (Wg ov iv u) (λ_ s'=>∃H',Inv X pins σ H' s'/\Q H') X.xe s
abbrev LG:=V->V->Hp->VK->Prop
def KH(X:Cx)(op:Operator)(t:LG):Prop :=
 ∀(pins:List (Sr×Obj)) (s:Sm) (σ:St) (H:Hp) (x y:V) (v u:Sb) (Q:VK),Inv X pins σ H s->RelV x v->RelV y u->t x y H Q ->
  Se (Sw X.prog X.w) X.A (inplaceOp op v u) (EP X pins σ Q) X.xe s
section
def rj(i:Nat):TG:=λv σ H Q=>Q (σ.set i (RY v)) H
theorem rl(hN:X.N.Nodup)(hi:X.N[i]?=RY x)(hx:Loc X.env.scope x)(hf:X.fn x=R4\/X.env.scope.names.lookup x=RY .local:=by first|exact .inl rfl|exact .inr rfl|assumption):PG X (.Name x pos) (rj i):=by
 intro pins s σ H v u Q I r h;exact Zz (n9 I hN hi hx r (λs' I'=>⟨_,H,I',h⟩) hf)
def BN:IX:=λvs σ H Q=>vs=[]/\Q σ H
def zf(t:TG)(u:IX):IX:=λvs σ H Q=>∃v r,vs=v::r/\t v σ H λσ' H'=>u r σ' H' Q
theorem xk:Jy X [] BN:=by
 intro pins s σ H vs us Q I r h;obtain⟨e,h⟩:=h;subst e;cases r;exact assignInOrder_nil ⟨σ,H,I,h⟩
theorem uG(h1:PG X e t)(h2:Jy X es u)
  (hs:(Ve (e::es) X.env).map (·.2)=VU e X.env::(Ve es X.env).map (·.2):=by rfl):Jy X (e::es) (zf t u):=by
 intro pins s σ H vs us Q I r h;obtain⟨v,vr,e1,h⟩:=h;subst e1;cases r with
 |cons r rr =>
  rw[hs];refine assignInOrder_cons (DQ (h1 pins s σ H _ _ _ I r h) λ_ s1 ⟨σ1,H1,I1,q1⟩=>?_);exact h2 pins s1 σ1 H1 _ _ Q I1 rr q1
def Di(K:PySem.W.Frag)(n:Nat)(t:IX):TG:=λv σ H Q=>∃a xs,v=.ref a/\Ef K H a xs/\xs.length=n/\t xs σ H Q
theorem zQ(hc:X.calm=R4)(h:Jy X es t)
  (hn:(Ve es X.env).length=n:=by rfl) (DS:(Ve es X.env).findIdx? (·.1)=R3:=by rfl):PG X (.Tuple es k pos) (Di X.K n t):=by
 intro pins s σ H v u Q I r hw;obtain⟨a,xs,e1,hq,hl,hw⟩:=hw;subst e1;cases r;obtain⟨its,rv,ht,hz⟩:=I.tuple hq;refine assign_Tuple_tuple (I.ok.hd hc) ht (by simp[hn,<-hl,rv.length]) DS λh' hx=>?_;have I1:Inv X pins σ H {s with heap:=h' }:=I.kept (t':=s.toks) λb o e=>hx b o (Su (Sg e)) e;exact h pins _ σ H xs _ Q I1 (by simpa using rv) hw
def Dj(to ti:TE)(t:zP):TG:=λv σ H Q=>to σ H λo H1=>ti σ H1 λi H2=>t o i v H2 λH3=>Q σ H3
theorem uH(ho:PE X o to)(hi:PE X i ti)(hs:jw X t)
  (ha:∀v,VU (.Subscript o i pos) X.env v=(do
   let ov <-Up [v] (T2 o X.env)
   let iv <-Up [v,ov] (T2 i X.env)
   Xd pos
   Up [v,ov,iv] (Wg ov iv v)
   Xg [v,ov,iv] []):=by intro _;rfl):PG X (.Subscript o i pos) (Dj to ti t):=by
 intro pins s σ H v u Q I r h;rw[ha];refine RZ (Tj (DQ (ho pins s σ H _ I h) λov s1 ⟨x,H1,I1,r1,q1⟩=>?_));refine RZ (Tj (DQ (hi pins s1 σ H1 _ I1 q1) λiv s2 ⟨y,H2,I2,r2,q2⟩=>?_));refine RZ (Yc (RZ (Tj (DQ (hs pins s2 σ H2 x y v ov iv u _ I2 r1 r2 r q2) λ_ s3 ⟨H3,I3,q3⟩=>?_))));exact wpAny_release ⟨σ,H3,I3,q3⟩
def zR(te:TE)(g:TG):TS:=λD σ H=>te σ H λx H1=>g x σ H1 D.nx
theorem p6(he:PE X e te)(hg:PG X tg g)(hs:VB [tg] e pos.line X.env=pure R5:=by rfl)(hw:W0 [tg] e X.env=pure R3:=by rfl)
  (h1:(Ve [tg] X.env).map (·.2)=[VU tg X.env]:=by rfl):PS X (.Assign [tg] e pos) (zR te g):=by
 intro pins s σ H D I h;refine wpAny_Assign_stores (DQ (he pins s σ H _ I h) λv s1 ⟨x,H1,I1,r1,q1⟩=>?_) hs hw;rw[h1];exact DQ (hg pins s1 σ H1 x v _ I1 r1 q1) λ_ s2 q=>q
theorem uI(hN:X.N.Nodup)(hi:X.N[i]?=RY x)(hx:Loc X.env.scope x)(he:PE X e te)(hs:Vx e (RY (.Name x pos')) pos.line X.env=pure R5:=by rfl)(hf:X.fn x=R4\/X.env.scope.names.lookup x=RY .local:=by first|exact .inl rfl|exact .inr rfl|assumption):
  PS X (.Assign [.Name x pos'] e pos) (zR te (rj i)):=by
 intro pins s σ H D I h;refine wpAny_Assign_Name (DQ (he pins s σ H _ I h) λv s1 ⟨y,H1,I1,r1,q1⟩=>?_) hs;exact n9 I1 hN hi hx r1 (λs2 I2=>⟨_,H1,I2,q1⟩) hf
def BO(to ti te:TE)(HV:V->V->Hp->VK->Prop)(LH:LG)(HW:zP):TS:=λD σ H=>to σ H λo H1=>ti σ H1 λi H2=>HV o i H2 λx H3=>te σ H3 λy H4=>LH x y H4 λz H5=>HW o i z H5 λH6=>D.nx σ H6
def BP(X:Cx)(t:V->V->Hp->VK->Prop):Prop :=
 ∀(pins:List (Sr×Obj)) (s:Sm) (σ:St) (H:Hp) (o i:V) (ov iv:Sb) (Q:VK),Inv X pins σ H s->RelV o ov->RelV i iv->t o i H Q ->
  Se (Sw X.prog X.w) X.A (VO ov iv) (EP X pins σ Q) X.xe s
theorem xl(ho:PE X o to)(hi:PE X i ti)(hg:BP X HV)(he:PE X e te)(hp:KH X op LH)(hs:jw X HW)
  (ha:∀ov iv new,Î i ov iv new=(do Up [new,ov,iv] (Wg ov iv new);Xg [new,ov,iv] [];pure .next):=by intros;rfl):PS X (.AugAssign (.Subscript o i OS) op e pos) (BO to ti te HV LH HW):=by
 intro pins s σ H D I h;refine wpAny_AugAssign_SubscriptAny (DQ (ho pins s σ H _ I h) λov s1 ⟨x1,H1,I1,r1,q1⟩=>?_) ha;refine DQ (hi pins s1 σ H1 _ I1 q1) λiv s2 ⟨x2,H2,I2,r2,q2⟩=>?_;refine DQ (hg pins s2 σ H2 x1 x2 ov iv _ I2 r1 r2 q2) λold s3 ⟨x3,H3,I3,r3,q3⟩=>?_;refine DQ (he pins s3 σ H3 _ I3 q3) λv s4 ⟨x4,H4,I4,r4,q4⟩=>?_;refine DQ (hp pins s4 σ H4 x3 x4 old v _ I4 r3 r4 q4) λnew s5 ⟨x5,H5,I5,r5,q5⟩=>?_;exact DQ (hs pins s5 σ H5 x1 x2 x5 ov iv new _ I5 r1 r2 r5 q5) λ_ s6 ⟨H6,I6,q6⟩=>⟨σ,H6,I6,q6⟩
def LJ(f:Int->Int->Int):LG:=λx y H Q=>∃i j,x=.int i/\y=.int j/\Q (.int (f i j)) H
theorem zS:KH X .Add (LJ λi j=>i+j):=by
 intro pins s σ H x y v u Q I r1 r2 h;obtain⟨i,j,e1,e2,q⟩:=h;subst e1;subst e2;obtain⟨t,rfl⟩:=r1;obtain⟨t',rfl⟩:=r2;exact iadd_int ⟨.int _,H,I.tok _,⟨_,rfl⟩,q⟩
theorem zT:KH X .Sub (LJ λi j=>i - j):=by
 intro pins s σ H x y v u Q I r1 r2 h;obtain⟨i,j,e1,e2,q⟩:=h;subst e1;subst e2;obtain⟨t,rfl⟩:=r1;obtain⟨t',rfl⟩:=r2;exact isub_int ⟨.int _,H,I.tok _,⟨_,rfl⟩,q⟩
end
section
def zU(c:TT)(tb:TS):TS:=λD σ H=>∃W:Nat->St->Hp->Prop,(∃m,W m σ H)/\∀m σ H,W m σ H ->
 c σ H λb H1=>if b=R4 then ∃N:St->Hp->Prop,(∀σ' H',N σ' H'->∃m',m'<m/\W m' σ' H')/\tb {D with nx:=N,ct:=N,bk:=D.nx} σ H1 else D.nx σ H1
theorem uJ(hp:XA (Sw X.prog X.w) X.A X.env X.xe)(hc:PT X c tc)(hb:EE X body tb):PS X (.While c body [] pos) (zU tc tb):=by
 intro pins s σ H D I h;obtain⟨W,⟨m0,w0⟩,turn⟩:=h;refine wpAny_While (codeAny_whileLoop (λn s'=>∃σ' H',Inv X pins σ' H' s'/\W n σ' H') ?_ m0 ⟨σ,H,I,w0⟩);rintro n s1 ⟨σ1,H1,I1,w1⟩;refine UN hp (DQ (hc pins s1 σ1 H1 _ I1 (turn n σ1 H1 w1)) λb s2 ⟨H2,I2,q2⟩=>?_);cases b with
 |true =>
  obtain⟨N,hN,q2⟩:=q2;rw[Ú rfl];refine UN hp (DQ (hb pins s2 σ1 H2 _ I2 q2) λf s3 q3=>?_);cases f with
  |next =>
   obtain⟨σ3,H3,I3,n3⟩:=q3;obtain⟨m',hm,w3⟩:=hN σ3 H3 n3;exact⟨m',hm,σ3,H3,I3,w3⟩
  |cont =>
   obtain⟨σ3,H3,I3,n3⟩:=q3;obtain⟨m',hm,w3⟩:=hN σ3 H3 n3;exact⟨m',hm,σ3,H3,I3,w3⟩
  |_=>exact q3
 |false =>
  rw[Ü S6];exact XI ⟨σ1,H2,I2,q2⟩
end
structure It where
 go:Nat->Hp->Prop
 KI:Nat->Hp->V->Hp->Prop
 stop:Nat->Hp->Prop
def gF(X:Cx)(pins:List (Sr×Obj))(H:Hp)(b:Sr):Prop :=
 H b=R3/\b≠X.env.locals/\b∉X.fs/\(b∈X.ex\/X.s₀.heap.objs.size<=b)/\(∀x c,X.env.cells.lookup x=RY c->c≠b)/\∀p∈X.pn++pins,p.1≠b
theorem Inv.xm(I:Inv X pins σ H s)(hb:s.heap.objs.size<=b)(hn:H' b=R3):gF X pins H' b:=by
 refine⟨hn,Ur (SF I.lt hb),I.BD hb,.inr (TX I.sz hb),λx c e z=>?_,λp hp z=>?_⟩
 ·obtain⟨v,q⟩:=I.cell x c e;exact absurd (SF q.lt (by rw[z];exact hb)) (TR _)
 ·exact absurd (SF (Sg (I.pin p hp).1) (by rw[z];exact hb)) (TR _)
structure Turn(P:Tu)(w:T1)(K:PySem.W.Frag)(tg:Td)(J:It)(fp:List Sr)(it:Sr)(tn:Nat->Ua->Prop):Prop where
 mem:it∈fp
 obj:∀i h,tn i h->∀b∈fp,∃o,h.get? b=RY o/\∀v,o.data≠.cell v
 keep:∀i h h',tn i h->(∀b∈fp,∀o,h.get? b=RY o->h'.get? b=RY o)->tn i h'
 item:∀(X:Cx),X.prog=P->X.w=w->X.K=K->X.calm=R4->∀(i:Nat) (pins:List (Sr×Obj)) (s:Sm) (σ:St) (H:Hp) (E:Sb->Sm->Prop),Inv X pins σ H s->(∀b∈fp,gF X pins H b)->tn i s.heap->J.go i H ->
  Se (Sw P w) X.A (VS (.ref it)) (λr s1=>∃u,r=RY u /\
   Se (Sw P w) X.A (Wr tg (.ref it) u) (λ_ s2=>∃x H',Inv X pins σ H' s2/\RelV x u/\J.KI i H x H'/\tn (i+1) s2.heap/\∀b∈fp,H' b=R3) E s1) E s
 done:∀(X:Cx),X.prog=P->X.w=w->X.K=K->X.calm=R4->∀(i:Nat) (pins:List (Sr×Obj)) (s:Sm) (σ:St) (H:Hp) (E:Sb->Sm->Prop),Inv X pins σ H s->(∀b∈fp,gF X pins H b)->tn i s.heap->J.stop i H ->
  Se (Sw P w) X.A (VS (.ref it)) (λr s1=>r=R3/\Inv X pins σ H s1) E s
 self:∀(A:UT) (i:Nat) (s:Sm) (Q:Sb->Sm->Prop) (E:Sb->Sm->Prop),tn i s.heap->Q (.ref it) s->Se (Sw P w) A (X3 (.ref it)) Q E s
abbrev TI:=St->Hp->(It->Hp->Prop)->Prop
def Nz(X:Cx)(pins:List (Sr×Obj))(σ:St)(tg:Td)(R:It->Hp->Prop)(KJ:Sb)(s2:Sm):Prop :=
 ∃(it:Sr) (fp:List Sr) (tn:Nat->Ua->Prop) (J:It) (H':Hp),KJ=.ref it/\Inv X pins σ H' s2/\Turn X.prog X.w X.K tg J fp it tn/\tn 0 s2.heap/\(∀b∈fp,gF X pins H' b)/\R J H'
def PI(X:Cx)(tg iter:Td)(wi:TI):Prop :=
 ∀(pins:List (Sr×Obj)) (s:Sm) (σ:St) (H:Hp) (R:It->Hp->Prop),Inv X pins σ H s->wi σ H R ->
  Se (Sw X.prog X.w) X.A (T2 iter X.env) (λv s1=>Se (Sw X.prog X.w) X.A (X3 v) (Nz X pins σ tg R) X.xe s1) X.xe s
theorem uK(ho:s.heap.get? it=RY o)(hc:o.cls=.type n)(hd:o.data=.fields vs)
    (hn:["enumerate","zip","dict_itemiterator","dict_reverseitemiterator","odict_iterator","itertools.zip_longest","itertools.pairwise"].contains n=R5) (hQ:Q () s):Se M A (Wr tg (.ref it) u) Q E s:=by
  unfold Wr;cases tg<;>first
    | exact R_ hQ
    | (cases u<;>first
        | exact R_ hQ
        | (refine RZ (Zk ho ?_)
           rw[hc,hd];show Se M A (if (["enumerate","zip","dict_itemiterator","dict_reverseitemiterator","odict_iterator","itertools.zip_longest","itertools.pairwise"].contains n&&vs[0]?==RY (To _))=R4 then _ else _) Q E s;rw[Ü (by intro h;rw[hn,Zi]at h;cases h)];exact R_ hQ))
def LK(K:PySem.W.Frag)(a:Sr):It :=
 ⟨λi H=>∃xs x,Eg K H a xs/\xs[i]?=RY x,λi H x H'=>H'=H/\∀xs,Eg K H a xs->xs[i]?=RY x,λi H=>∃xs,Eg K H a xs/\xs.length<=i⟩
def LL(K:PySem.W.Frag)(a:Sr):It :=
 ⟨λi H=>∃xs x,Ef K H a xs/\xs[i]?=RY x,λi H x H'=>H'=H/\∀xs,Ef K H a xs->xs[i]?=RY x,λi H=>∃xs,Ef K H a xs/\xs.length<=i⟩
def Jz(lo:Int)(n:Nat):It:=⟨λi _=>i<n,λi H x H'=>H'=H/\x=.int (lo+i),λi _=>n<=i⟩
theorem sW{K:PySem.W.Frag}(a it:Sr):Turn P w K tg (LK K a) [it] it (λi h=>h.IsListIter it a i) where
 mem:=by simp
 obj:=λi h st b hb=>by
  have e:b=it:=by simpa using hb
  subst e;obtain⟨o,e,c,d⟩:=st;exact⟨o,e,λv z=>by rw[d]at z;cases z⟩
 keep:=λi h h' st k=>st.at λo e=>k it (by simp) o e
 item:=by
  intro X hP hw hK hc i pins s σ H E I hf st hg;subst hP hw hK;obtain⟨xs,x,hq,hx⟩:=hg;obtain⟨its,rv,p,hz⟩:=I.list hq;obtain⟨u,hu,ru⟩:=rv.get hx;obtain⟨f0,f1,f2,f3,f4,f5⟩:=hf it (by simp);refine wpAny_pyNext_list_item st p.isList (x:=u) (by simpa using hu) λh' st' sb=>?_;have I1:Inv X pins σ H {s with heap:=h' }:=I.turned (t':=s.toks) (λb o hb e=>(sb.2 b hb).trans e) f0 f1 f3 f4 f5;obtain⟨o,e,c,d⟩:=id st';exact⟨u,rfl,uK (s:={s with heap:=h' }) e c d (by decide) ⟨x,H,I1,ru,⟨rfl,λys hy=>by rw[I.n_ hy hq];exact hx⟩,st',λb hb=>(hf b hb).1⟩⟩
 done:=by
  intro X hP hw hK hc i pins s σ H E I hf st hg;subst hP hw hK;obtain⟨xs,hq,hx⟩:=hg;obtain⟨its,rv,p,hz⟩:=I.list hq;obtain⟨f0,f1,f2,f3,f4,f5⟩:=hf it (by simp);have hl:=rv.length;exact wpAny_pyNext_list_end (I.ok.hd hc) st p.isList (by simp;omega) λh' eb=>⟨rfl,I.turned (t':=s.toks) (λb o hb e=>eb b o hb e) f0 f1 f3 f4 f5⟩
 self:=λ_ _ _ _ _ st h=>wpAny_pyIter_listiter st h
theorem p7{K:PySem.W.Frag}(a it:Sr):Turn P w K tg (LL K a) [it] it (λi h=>h.IsTupleIter it a i) where
 mem:=by simp
 obj:=λi h st b hb=>by
  have e:b=it:=by simpa using hb
  subst e;obtain⟨o,e,c,d⟩:=st;exact⟨o,e,λv z=>by rw[d]at z;cases z⟩
 keep:=λi h h' st k=>st.at λo e=>k it (by simp) o e
 item:=by
  intro X hP hw hK hc i pins s σ H E I hf st hg;subst hP hw hK;obtain⟨xs,x,hq,hx⟩:=hg;obtain⟨its,rv,p,hz⟩:=I.tuple hq;obtain⟨u,hu,ru⟩:=rv.get hx;obtain⟨f0,f1,f2,f3,f4,f5⟩:=hf it (by simp);refine wpAny_pyNext_tuple_item st (show s.heap.IsTuple a its.toArray from p) (x:=u) (by simpa using hu) λh' st' sb=>?_;have I1:Inv X pins σ H {s with heap:=h' }:=I.turned (t':=s.toks) (λb o hb e=>(sb.2 b hb).trans e) f0 f1 f3 f4 f5;obtain⟨o,e,c,d⟩:=id st';exact⟨u,rfl,uK (s:={s with heap:=h' }) e c d (by decide) ⟨x,H,I1,ru,⟨rfl,λys hy=>by rw[I.ly hy hq];exact hx⟩,st',λb hb=>(hf b hb).1⟩⟩
 done:=by
  intro X hP hw hK hc i pins s σ H E I hf st hg;subst hP hw hK;obtain⟨xs,hq,hx⟩:=hg;obtain⟨its,rv,p,hz⟩:=I.tuple hq;obtain⟨f0,f1,f2,f3,f4,f5⟩:=hf it (by simp);have hl:=rv.length;exact wpAny_pyNext_tuple_end (I.ok.hd hc) st (show s.heap.IsTuple a its.toArray from p) (by simp;omega) λh' eb=>⟨rfl,I.turned (t':=s.toks) (λb o hb e=>eb b o hb e) f0 f1 f3 f4 f5⟩
 self:=λ_ _ _ _ _ st h=>wpAny_pyIter_tupleiter st h
theorem p8{K:PySem.W.Frag}(it:Sr)(lo:Int)(n:Nat):Turn P w K tg (Jz lo n) [it] it (λi h=>IsRangeIter h it (lo+(i:Nat) * 1) ((n:Int) - (i:Nat)) 1) where
 mem:=by simp
 obj:=λi h st b hb=>by
  have e:b=it:=by simpa using hb
  subst e;exact⟨_,st,λv z=>by
   have z':ZU _=YQ v:=z;cases z'⟩
 keep:=λi h h' st k=>k it (by simp) _ st
 item:=by
  intro X hP hw hK hc i pins s σ H E I hf st hg;subst hP hw hK;obtain⟨f0,f1,f2,f3,f4,f5⟩:=hf it (by simp);have W:=Walks.range (prog:=X.prog) (w:=X.w) (I.ok.hd hc) it lo 1 n;refine W.item i s _ _ hg st λv h' tk hv st' kk=>?_;obtain⟨t,rfl⟩:=hv;have I1:Inv X pins σ H {s with heap:=h',toks:=tk}:=I.turned (λb o hb e=>kk b o (by simpa using hb) e) f0 f1 f3 f4 f5;refine⟨_,rfl,uK (s:={s with heap:=h',toks:=tk}) (n:="range_iterator") st' rfl rfl (by decide) ⟨.int (lo+i),H,I1,⟨t,?_⟩,⟨rfl,rfl⟩,st',λb hb=>(hf b hb).1⟩⟩;rw[Int.mul_one]
 done:=by
  intro X hP hw hK hc i pins s σ H E I hf st hg;subst hP hw hK;obtain⟨f0,f1,f2,f3,f4,f5⟩:=hf it (by simp);exact wpAny_pyNext_range_end (I.ok.hd hc) st (by have:n<=i:=hg;omega) λh' eb=>⟨rfl,I.turned (t':=s.toks) (λb o hb e=>eb b o hb e) f0 f1 f3 f4 f5⟩
 self:=λ_ _ _ _ _ st h=>wpAny_pyIter_rangeiter st h
section
def BQ(K:PySem.W.Frag)(tl:TE):TI:=λσ H R=>tl σ H λx H1=>∃a,x=.ref a/\(∃xs,Eg K H1 a xs)/\R (LK K a) H1
def Dk(K:PySem.W.Frag)(tl:TE):TI:=λσ H R=>tl σ H λx H1=>∃a,x=.ref a/\(∃xs,Ef K H1 a xs)/\R (LL K a) H1
theorem xn(hl:PE X l tl):PI X tg l (BQ X.K tl):=by
 intro pins s σ H R I h;refine DQ (hl pins s σ H _ I h) λv s1 ⟨x,H1,I1,r1,q1⟩=>?_;obtain⟨a,e,⟨xs,hq⟩,q⟩:=q1;subst e;cases r1;obtain⟨its,rv,p,hz⟩:=I1.list hq;refine Vp p.isList ?_;refine⟨s1.heap.objs.size,[s1.heap.objs.size],_,_,H1,rfl,I1.kept (t':=s1.toks) λb o e=>R8 _ e,sW a _,⟨_,Sj _ rfl,rfl,rfl⟩,λb hb=>?_,q⟩;have e:b=s1.heap.objs.size:=by simpa using hb
 subst e;exact I1.xm (Sv _) (I1.DN.fresh (Sv _))
theorem zV(hl:PE X l tl):PI X tg l (Dk X.K tl):=by
 intro pins s σ H R I h;refine DQ (hl pins s σ H _ I h) λv s1 ⟨x,H1,I1,r1,q1⟩=>?_;obtain⟨a,e,⟨xs,hq⟩,q⟩:=q1;subst e;cases r1;obtain⟨its,rv,p,hz⟩:=I1.tuple hq;refine Vc (show s1.heap.IsTuple a its.toArray from p) ?_;refine⟨s1.heap.objs.size,[s1.heap.objs.size],_,_,H1,rfl,I1.kept (t':=s1.toks) λb o e=>R8 _ e,p7 a _,⟨_,Sj _ rfl,rfl,rfl⟩,λb hb=>?_,q⟩;have e:b=s1.heap.objs.size:=by simpa using hb
 subst e;exact I1.xm (Sv _) (I1.DN.fresh (Sv _))
theorem og{lo hi:Int}(I:Inv X pins σ H s)(h1:-(2 ^ 62)<=lo)(h2:lo<2 ^ 62)(h3:-(2 ^ 62)<=hi)(h4:hi<2 ^ 62)
  (q:R (Jz lo (hi - lo).toNat) H):Se (Sw X.prog X.w) X.A (X3 (.ref s.heap.objs.size)) (Nz X pins σ tg R) E {s with heap:=s.heap.push {cls:=.type "range",data:=.fields #[.int lo t,.int hi u,.int 1 v]},toks:=tk}:=by
 refine wpAny_pyIter_range (IsRange.new ..) (small_one h1 h2 h3 h4) ?_;have I1:Inv X pins σ H {s with heap:=s.heap.push {cls:=.type "range",data:=.fields #[.int lo t,.int hi u,.int 1 v]},toks:=tk}:=I.kept λb o e=>R8 _ e;refine⟨(s.heap.push {cls:=.type "range",data:=.fields #[.int lo t,.int hi u,.int 1 v]}).objs.size,[(s.heap.push {cls:=.type "range",data:=.fields #[.int lo t,.int hi u,.int 1 v]}).objs.size],_,_,H,rfl,
  I1.kept (t':=tk) λb o e=>R8 _ e,p8 _ lo (hi - lo).toNat,?_,λb hb=>?_,q⟩
 ·have e1:lo+((0:Nat):Int) * 1=lo:=by simp
  have e2:(((hi - lo).toNat:Nat):Int) - ((0:Nat):Int)=ZX lo hi 1:=by rw[rangeSize_one];split<;>omega
  show IsRangeIter _ _ (lo+((0:Nat):Int) * 1) ((((hi - lo).toNat:Nat):Int) - ((0:Nat):Int)) 1;rw[e1,e2];exact Sj _ rfl
 ·have e:b=(s.heap.push {cls:=.type "range",data:=.fields #[.int lo t,.int hi u,.int 1 v]}).objs.size:=by simpa using hb
  subst e;exact I1.xm (Sv _) (I1.DN.fresh (Sv _))
def BR(ta:TA):TI:=λσ H R=>ta σ H λvs H1=>∃j:Int,vs=[.int j]/\-(2 ^ 62)<=j/\j<2 ^ 62/\R (Jz 0 j.toNat) H1
def BS(ta:TA):TI:=λσ H R=>ta σ H λvs H1=>∃i j:Int,vs=[.int i,.int j]/\(-(2 ^ 62)<=i/\i<2 ^ 62/\-(2 ^ 62)<=j/\j<2 ^ 62)/\R (Jz i (j - i).toNat) H1
theorem sX(hg:Gl X "range")(hm:X.mg "range"=R3)(ha:PA X [a] ta)(hs:SJ [a] X.env=[(R5,T2 a X.env)]:=by rfl):PI X tg (.Call (.Name "range" p) [a] [] pos) (BR ta):=by
 intro pins s σ H R I h;refine Call_ (eT I hg hm boot_range (T8 (DQ (ha pos pins s σ H _ I h) λus s1 ⟨vs,H1,I1,r1,q1⟩=>?_) hs rfl));obtain⟨j,e,q1,q2,q⟩:=q1;subst e;cases r1 with
 |cons r rr =>
  cases rr;obtain⟨t,rfl⟩:=r;exact call_range_1 (og I1 ⋯ ⋯ q1 q2 (by simpa using q))
theorem sY(hg:Gl X "range")(hm:X.mg "range"=R3)(ha:PA X [a,b] ta)(hs:SJ [a,b] X.env=[(R5,T2 a X.env),(R5,T2 b X.env)]:=by rfl)(Fo:SJ [b] X.env=[(R5,T2 b X.env)]:=by rfl):
  PI X tg (.Call (.Name "range" p) [a,b] [] pos) (BS ta):=by
 intro pins s σ H R I h;refine Call_ (eT I hg hm boot_range (T8 (DQ (ha pos pins s σ H _ I h) λus s1 ⟨vs,H1,I1,r1,q1⟩=>?_) (by rw[hs,Fo]) (by rw[Fo];rfl)));obtain⟨i,j,e,⟨q1,q2,q3,q4⟩,q⟩:=q1;subst e;cases r1 with
 |cons r rr =>
  cases rr with
  |cons r' rr =>
   cases rr;obtain⟨t,rfl⟩:=r;obtain⟨t',rfl⟩:=r';exact call_range_2 (og I1 q1 q2 q3 q4 q)
def Dl(wi:TI)(g:TG)(tb:TS):TS:=λD σ H=>wi σ H λJ H1=>∃W:Nat->Nat->St->Hp->Prop,(∃m,W 0 m σ H1)/\∀i m σ H,W i m σ H ->
 (J.stop i H/\D.nx σ H)\/(J.go i H/\∃N:St->Hp->Prop,(∀σ' H',N σ' H'->∃m',m'<m/\W (i+1) m' σ' H')/\∀x H',J.KI i H x H'->g x σ H' λσ2 H2=>tb {D with nx:=N,ct:=N,bk:=D.nx} σ2 H2)
def jx(fp:List Sr)(h:Ua):List (Sr×Obj):=fp.filterMap λb=>(h.get? b).map λo=>(b,o)
theorem dW(hb:b∈fp)(e:h.get? b=RY o):(b,o)∈jx fp h:=Yr.mpr ⟨b,hb,by rw[e];rfl⟩
theorem sZ(hp:p∈jx fp h):p.1∈fp/\h.get? p.1=RY p.2:=by
 obtain⟨b,hb,e⟩:=Yr.mp hp;cases q:h.get? b with
 |none=>rw[q]at e;cases e
 |some o =>
  rw[q]at e;have e':(b,o)=p:=Tq e;subst e';exact⟨hb,q⟩
theorem Inv.pinned(I:Inv X pins σ H s)(hf:∀b∈fp,gF X pins H b)(ho:∀b∈fp,∃o,s.heap.get? b=RY o/\∀v,o.data≠.cell v):Inv X (pins++jx fp s.heap) σ H s :=
 I.fz λp hp=>(SA.mp hp).elim (λz=>I.pin p (SV _ z)) λz=>by
  obtain⟨hb,e⟩:=sZ z;obtain⟨f0,f1,f2,_⟩:=hf p.1 hb;obtain⟨o,e',d⟩:=ho p.1 hb;rw[e]at e';cases e';exact⟨e,f0,f1,f2,d⟩
theorem Inv.jy(I:Inv X (pins++pl) σ H s):Inv X pins σ H s:=I.fz λp hp=>I.pin p (SV _ (TJ _ hp))
theorem zW(hp:XA (Sw X.prog X.w) X.A X.env X.xe)(hc:X.calm=R4)(hi:PI X tg iter wi)(hg:PG X tg g)(hb:EE X body tb)
  (hs:∀x,Uu iter X.env x=pure x:=by intro _;rfl):PS X (.For tg iter body [] pos) (Dl wi g tb):=by
 intro pins s σ H D I h;refine wpAny_For (DQ (hi pins s σ H _ I h) λv s1 h1=>DQ h1 λKJ s2 h2=>?_) hs;obtain⟨it,fp,tn,J,H2,e,I2,T,st2,f2,W,⟨m0,w0⟩,turn⟩:=h2;subst e;have HX:∀{H':Hp},(∀b∈fp,H' b=R3)->∀b∈fp,gF X pins H' b:=λhn b hb=>⟨hn b hb,(f2 b hb).2⟩
 refine codeAny_forLoop_any (λn s'=>∃i σ' H',Inv X pins σ' H' s'/\tn i s'.heap/\(∀b∈fp,H' b=R3)/\W i n σ' H') ?_ m0 ⟨0,σ,H2,I2,st2,λb hb=>(f2 b hb).1,w0⟩;rintro n s3 ⟨i,σ3,H3,I3,st3,JA,w3⟩;rcases turn i n σ3 H3 w3 with⟨stop,qn⟩|⟨go,N,hN,YX⟩
 ·refine UN hp (DQ (T.done X rfl rfl rfl hc i pins s3 σ3 H3 X.xe I3 (HX JA) st3 stop) λr s4 ⟨hr,I4⟩=>?_);subst hr;exact XI ⟨σ3,H3,I4,qn⟩
 ·refine UN hp (DQ (T.item X rfl rfl rfl hc i pins s3 σ3 H3 X.xe I3 (HX JA) st3 go) λr s4 ⟨u,hr,h4⟩=>?_);subst hr;refine UN hp (DQ h4 λ_ s5 ⟨x,H5,I5,r5,y5,Gg,LM⟩=>?_);have LN:=I5.pinned (HX LM) (T.obj _ _ Gg);refine UN hp (DQ (hg _ s5 σ3 H5 x u _ LN r5 (YX x H5 y5)) λ_ s6 ⟨σ6,H6,I6,q6⟩=>?_);refine UN hp (DQ (hb _ s6 σ6 H6 _ I6 q6) λf s7 q7=>?_);have Ð:∀{σ7:St} {H7:Hp},Inv X (pins++jx fp s5.heap) σ7 H7 s7->N σ7 H7->∃m,m<n/\∃i σ' H',Inv X pins σ' H' s7/\tn i s7.heap/\(∀b∈fp,H' b=R3)/\W i m σ' H':=λ{σ7 H7} I7 n7=>by
   obtain⟨m',hm,w7⟩:=hN σ7 H7 n7;refine⟨m',hm,i+1,σ7,H7,I7.jy,T.keep _ _ _ Gg λb hb o e=>(I7.pin (b,o) (SV _ (SV _ (dW hb e)))).1,λb hb=>?_,w7⟩;obtain⟨o,e,d⟩:=T.obj _ _ Gg b hb;exact(I7.pin (b,o) (SV _ (SV _ (dW hb e)))).2.1
  cases f with
  |brk=>obtain⟨σ7,H7,I7,q7⟩:=q7;exact⟨σ7,H7,I7.jy,q7⟩
  |ret v=>obtain⟨x7,σ7,H7,I7,r7,q7⟩:=q7;exact⟨x7,σ7,H7,I7.jy,r7,q7⟩
  |_=>obtain⟨σ7,H7,I7,n7⟩:=q7;exact Ð I7 n7
end
abbrev R2:=V->V->Hp->VK->Prop
def E2(X:Cx)(f:Sb->Sb->Sem Sb)(r:R2):Prop :=
 ∀(pins:List (Sr×Obj)) (s:Sm) (σ:St) (H:Hp) (x y:V) (v u:Sb) (Q:VK),Inv X pins σ H s->RelV x v->RelV y u->r x y H Q ->
  Se (Sw X.prog X.w) X.A (f v u) (EP X pins σ Q) X.xe s
def fX(X:Cx)(f:Sb)(r:List V->Hp->VK->Prop):Prop :=
 ∀(pins:List (Sr×Obj)) (s:Sm) (σ:St) (H:Hp) (xs:List V) (us:List Sb) (Q:VK),Inv X pins σ H s->Vals xs us->r xs H Q ->
  Se (Sw X.prog X.w) X.A (Vj f us) (EP X pins σ Q) X.xe s
def Dm(X:Cx)(r:V->Hp->(Bool->Hp->Prop)->Prop):Prop :=
 ∀(pins:List (Sr×Obj)) (s:Sm) (σ:St) (H:Hp) (x:V) (v:Sb) (Q:Bool->Hp->Prop),Inv X pins σ H s->RelV x v->r x H Q ->
  Se (Sw X.prog X.w) X.A (Zm v) (TP X pins σ Q) X.xe s
def rI(C:Int->Int->Prop)(g:Int->Int->V):R2:=λx y H Q=>∃i j,x=.int i/\y=.int j/\C i j/\Q (g i j) H
def HY(g:Int->Int->V):R2:=λx y H Q=>∃i j,x=.int i/\y=.int j/\Q (g i j) H
section
theorem KN{g:Int->Int->Int}
  (Ç:∀(i j:Int) (t u:Tok) (s:Sm) (Q:Sb->Sm->Prop) (E:Sb->Sm->Prop),C i j->Q (.int (g i j) s.toks) {s with toks:=s.toks+1}->Se (Sw X.prog X.w) X.A (f (.int i t) (.int j u)) Q E s) :
  E2 X f (rI C λi j=>.int (g i j)):=by
 intro pins s σ H x y v u Q I rx ry h;obtain⟨i,j,rfl,rfl,hc,q⟩:=h;obtain⟨t,rfl⟩:=rx;obtain⟨t',rfl⟩:=ry;exact Ç i j t t' s _ _ hc ⟨.int (g i j),H,I.tok _,⟨_,rfl⟩,q⟩
theorem BU{g:Int->Int->Int}
  (Ç:∀(i j:Int) (t u:Tok) (s:Sm) (Q:Sb->Sm->Prop) (E:Sb->Sm->Prop),Q (.int (g i j) s.toks) {s with toks:=s.toks+1}->Se (Sw X.prog X.w) X.A (f (.int i t) (.int j u)) Q E s) :
  E2 X f (HY λi j=>.int (g i j)):=by
 intro pins s σ H x y v u Q I rx ry h;obtain⟨i,j,rfl,rfl,q⟩:=h;obtain⟨t,rfl⟩:=rx;obtain⟨t',rfl⟩:=ry;exact Ç i j t t' s _ _ ⟨.int (g i j),H,I.tok _,⟨_,rfl⟩,q⟩
theorem zX{g:Int->Int->Bool}
  (Ç:∀(i j:Int) (t u:Tok) (s:Sm) (Q:Sb->Sm->Prop) (E:Sb->Sm->Prop),Q (.bool (g i j)) s->Se (Sw X.prog X.w) X.A (f (.int i t) (.int j u)) Q E s) :
  E2 X f (HY λi j=>.bl (g i j)):=by
 intro pins s σ H x y v u Q I rx ry h;obtain⟨i,j,rfl,rfl,q⟩:=h;obtain⟨t,rfl⟩:=rx;obtain⟨t',rfl⟩:=ry;exact Ç i j t t' s _ _ ⟨.bl (g i j),H,I,rfl,q⟩
def Dn(i j:Int):Prop:=0<j/\j<1073741824
def Dp(i j:Int):Prop:=0<=j/\j<=1000000/\i.natAbs<2 ^ 64
def zY(i j:Int):Prop:=(-(2 ^ 64)<i/\i<2 ^ 64)\/(-(2 ^ 64)<j/\j<2 ^ 64)
theorem zY.ok(h:zY i j):IntMulOk i j:=by
 rcases h with⟨h1,h2⟩|⟨h1,h2⟩
 ·exact .of_left (intBits_le_64 h1 h2)
 ·exact .of_right (intBits_le_64 h1 h2)
theorem dB:E2 X (VT .Add) (HY λi j=>.int (i+j)):=BU λ_ _ _ _ _ _ _ q=>add_int q
theorem p9:E2 X (VT .Sub) (HY λi j=>.int (i - j)):=BU λ_ _ _ _ _ _ _ q=>sub_int q
theorem mz:E2 X (VT .Mult) (rI zY λi j=>.int (i * j)):=KN λ_ _ _ _ _ _ _ hc q=>mul_int q hc.ok
theorem xo:E2 X (VT .FloorDiv) (rI Dn λi j=>.int (i / j)):=KN λi j _ _ _ _ _ hc q=>by
 have h1:(0:Int)<j:=hc.1;have h2:j<1073741824:=hc.2;exact floordiv_int ⋯ (by rw[Int.fdiv_eq_ediv_of_nonneg i ⋯];exact q) (.inl (PyProof.noPylong_small ⋯))
theorem bw:E2 X (VT .Mod) (rI (λ_ j=>0<j) λi j=>.int (i % j)):=KN λi j _ _ _ _ _ hc q=>by
 have h1:(0:Int)<j:=hc;exact mod_int' ⋯ (by rw[Int.fmod_eq_emod_of_nonneg i ⋯];exact q)
theorem mB:E2 X (VT .Pow) (rI Dp λi j=>.int (i ^ j.toNat)):=KN λ_ _ _ _ _ _ _ hc q=>pow_int_small hc.1 hc.2.1 hc.2.2 q
end
section
theorem mC(I:Inv X pins σ H s)(q:Q (.bl k) H)(e:k=k'):EP X pins σ Q (.bool k') s:=by
 subst e;exact⟨.bl k,H,I,rfl,q⟩
theorem BV:E2 X (Ud .Lt) (HY λi j=>.bl (Sa (i<j))):=zX λ_ _ _ _ _ _ _ q=>lt_int q
theorem BW:E2 X (Ud .Gt) (HY λi j=>.bl (Sa (j<i))):=zX λ_ _ _ _ _ _ _ q=>gt_int q
theorem BX:E2 X (Ud .GtE) (HY λi j=>.bl (Sa (j<=i))):=zX λ_ _ _ _ _ _ _ q=>ge_int q
theorem zZ:E2 X (Ud .Is) (λx y H Q=>y=.DR/\Q (.bl (Sa (x=.DR))) H):=by
 intro pins s σ H x y v u Q I rx ry h;obtain⟨rfl,q⟩:=h;cases ry;refine is_none_gen (mC I q ?_);cases x<;>first
  |(cases rx;rfl)
  |(obtain⟨t,rfl⟩:=rx;rfl)
theorem xp:E2 X (Ud .IsNot) (λx y H Q=>y=.DR/\Q (.bl (!Sa (x=.DR))) H):=by
 intro pins s σ H x y v u Q I rx ry h;obtain⟨rfl,q⟩:=h;cases ry;refine isnot_none_gen (mC I q ?_);cases x<;>first
  |(cases rx;rfl)
  |(obtain⟨t,rfl⟩:=rx;rfl)
def BY(K:PySem.W.Frag)(x:V)(H:Hp)(k:Bool):Prop :=
 match x with
 |.DR=>k=R5
 |.bl b=>k=b
 |.int i=>k=(i != 0)
 |.str y=>y.length<=R6/\k=((y.length:Int) != 0)
 |.Kz y=>y.size<=R6/\k=((y.size:Int) != 0)
 |.ref p=>(∃xs,Eg K H p xs/\k=!xs.isEmpty)\/(∃xs,Ef K H p xs/\k=!xs.isEmpty)\/∃kvs,H p=RY (.dK kvs)/\k=!kvs.isEmpty
 |_=>False
theorem p_(r:KV kvs vs):(!vs.isEmpty)=!kvs.isEmpty:=by
 cases r<;>rfl
theorem jz(r:Vals xs its):(!its.toArray.isEmpty)=!xs.isEmpty:=by
 cases r<;>simp
theorem eU:(R6:Nat)<2 ^ 63:=by rw[sizeLine_eq];decide
theorem z9:Dm X (λx H Q=>∃k,BY X.K x H k/\Q k H):=by
 intro pins s σ H x v Q I rx h;obtain⟨k,e,q⟩:=h;have hl:=eU;have hs:R6=16777216:=sizeLine_eq;cases x with
 |DR =>
  cases rx;have e':k=R5:=e;subst e';exact truthy_none ⟨H,I,q⟩
 |bl b =>
  cases rx;have e':k=b:=e;subst e';exact TC ⟨H,I,q⟩
 |int i =>
  obtain⟨t,rfl⟩:=rx;have e':k=(i != 0):=e;subst e';exact PySem.P.truthy_int ⟨H,I,q⟩
 |str y =>
  obtain⟨t,rfl⟩:=rx;obtain⟨hy,e'⟩:y.length<=R6/\k=((y.length:Int) != 0):=e;subst e';exact PySem.P.truthy_str ⋯ ⟨H,I.tok _,q⟩
 |Kz y =>
  obtain⟨t,rfl⟩:=rx;obtain⟨hy,e'⟩:y.size<=R6/\k=((y.size:Int) != 0):=e;subst e';exact PySem.W.truthy_bytes ⋯ ⟨H,I.tok _,q⟩
 |ref p =>
  cases rx;have e':(∃xs,Eg X.K H p xs/\k=!xs.isEmpty)\/(∃xs,Ef X.K H p xs/\k=!xs.isEmpty)\/∃kvs,H p=RY (.dK kvs)/\k=!kvs.isEmpty:=e;rcases e' with⟨xs,hx,e'⟩|⟨xs,hx,e'⟩|⟨kvs,hx,e'⟩
  ·subst e';obtain⟨its,r,pl,hz⟩:=I.list hx;have hlen:=r.length;exact wpAny_truthy_list pl.isList (by simp only[Ss];omega) ⟨H,I.tok _,by rw[jz r];exact q⟩
  ·subst e';obtain⟨its,r,pl,hz⟩:=I.tuple hx;have hlen:=r.length;exact truthy_tuple pl (by simp only[Ss];omega) ⟨H,I.tok _,by rw[jz r];exact q⟩
  ·subst e';obtain⟨hz,hS,vs,r,m⟩:kvs.length<=R6/\(p==TQ)=R5/\∃vs,KV kvs vs/\s.heap.DictOf (aJ X.prog X.w) p vs:=I.DN p _ hx;have hlen:kvs.length=vs.length:=Paired.length r;exact wpAny_truthy_dict hS m ⋯ ⟨H,I.tok _,by rw[p_ r];exact q⟩
 |_=>exact(show False from e).elim
theorem uL(ha:PE X a ta)(he:∀whole,isTrue a X.env whole=(do let v <-whole;Xd a.pos;Up [v] (Zm v))):
  PT X a (λσ H Q=>ta σ H λx H'=>∃k,BY X.K x H' k/\Q k H'):=by
 intro pins s σ H Q I h;exact isTrue_plain (DQ (ha pins s σ H _ I h) λv s1 ⟨x,H1,I1,r1,q1⟩=>z9 pins s1 σ H1 x v Q I1 r1 q1) (he _)
theorem qa:E2 X (VT .Add) (λx y H Q=>∃i j,x=.str i/\y=.str j/\i.length+j.length<=R6/\Q (.str (i++j)) H):=by
 intro pins s σ H x y v u Q I rx ry h;obtain⟨i,j,rfl,rfl,hz,q⟩:=h;obtain⟨t,rfl⟩:=rx;obtain⟨t',rfl⟩:=ry;exact add_str (λt' tk=>⟨.str (i++j),H,I.tok _,⟨_,rfl⟩,q⟩) hz
theorem vals1(r:Vals [x] us):∃u,us=[u]/\RelV x u:=by
 cases r with
 |cons r1 r2=>cases r2;exact⟨_,rfl,r1⟩
theorem mD:fX X (.type "str") (λxs H Q=>∃i,xs=[.int i]/\i.natAbs.log2<1920/\Q (.str (XY i)) H):=by
 intro pins s σ H xs us Q I r h;obtain⟨i,rfl,hz,q⟩:=h;obtain⟨u,rfl,t,rfl⟩:=vals1 r;exact PySem.P.str_of_int hz ⟨.str _,H,I.tok _,⟨_,rfl⟩,q⟩
end
section
end
theorem i_.some_of(r:i_ (RY v) o):∃u,o=RY u/\RelV v u:=by
 cases o with
 |none=>exact(show False from r).elim
 |some u=>exact⟨u,rfl,r⟩
section
end
structure OT(K:PySem.W.Frag)(C:Sr):Prop where
 pg:PySem.W.plainGet K C S5=R4
 hd:PySem.W.hasDictIn K C=R4
 po:PySem.W.plainOver K C=R4
 sa:PySem.W.findIn K (.ref C) "__setattr__"=RY (RY (.builtin "object.__setattr__"))
section
end
section
end
section
inductive jA(K:PySem.W.Frag)(H:Hp):V->Sb->Prop where
 |DR:jA K H .DR (.type "NoneType")
 |bl (x:Bool):jA K H (.bl x) (.type "bool")
 |int (i:Int):jA K H (.int i) (.type "int")
 |str (x:Str):jA K H (.str x) (.type "str")
 |KA (x:UInt64):jA K H (.KA x) (.type "float")
 |lst {a:Sr} {xs:List V} (e:H a=RY (.lst xs)):jA K H (.ref a) (.type "list")
 |F4 {a:Sr} {o:Obj} {xs:List V} (e:H a=RY (.F4 o (.lst xs))):jA K H (.ref a) (.type "list")
 |tup {a:Sr} {xs:List V} (e:H a=RY (.tup xs)):jA K H (.ref a) (.type "tuple")
 |dK {a:Sr} {kvs:List (Key×V)} (e:H a=RY (.dK kvs)):jA K H (.ref a) (.type "dict")
 |dT {a:Sr} {kvs:List (List Key×V)} (e:H a=RY (.dT kvs)):jA K H (.ref a) (.type "dict")
 |ins {a C dx:Sr} {fs:List (Str×V)} (e:H a=RY (.ins C dx fs)) (cl:OT K C) (ha:PySem.W.findIn K (.ref C) "__class__"=RY (RY (.builtin "object.__class__")))
   (hn:PySem.W.specialIn K (.builtin "object.__class__") "__get__"=RY (RY (.builtin "getset_descriptor.__get__"))) (OU:PySem.W.takesIn K (.builtin "object.__class__")=RY R4)
   (hm:PySem.W.mroIn K C (.type "object")=RY R4):jA K H (.ref a) (.ref C)
end
structure gh(k:Nat)(A:UT):Prop where
 hd:A.handled=R3
 dp:A.depth+3 * k+5<È
 un:A.units+16 * k+200<Tx
 gd:A.guards=RY []
theorem gh.deeper(r:gh (k+1) A)(env:Env):gh k (A.deeper env) :=
 ⟨r.hd,by have:=r.dp;show A.depth+1+3 * k+5 < _;omega,by have:=r.un;show A.units+3+16 * k+200 < _;omega,r.gd⟩
theorem gh.depth(r:gh k A):A.depth<È:=by have:=r.dp;omega
def Dq:TA:=λ_ H Q=>Q [] H
def BZ(ta:TE)(tr:TA):TA:=λσ H Q=>ta σ H λx H1=>tr σ H1 λxs H2=>Q (x::xs) H2
section
theorem mE:PA X [] Dq:=λ_ _ _ _ H Q I h=>VN ⟨[],H,I,.nil,h⟩
theorem ji(ha:PE X e te)(hr:PA X es t)(hs:SJ (e::es) X.env=(R5,T2 e X.env)::SJ es X.env:=by rfl):PA X (e::es) (BZ te t):=by
 intro pos pins s σ H Q I h;rw[hs];show Se _ _ (ZA ((R5,T2 e X.env)::Uk pos (SJ es X.env))) _ _ s;refine U9 (DQ (ha pins s σ H _ I h) λu s1 ⟨x,H1,I1,r1,q1⟩=>?_);exact DQ (hr pos pins s1 σ H1 _ I1 q1) λus s2 ⟨xs,H2,I2,r2,q2⟩=>⟨x::xs,H2,I2,.cons r1 r2,q2⟩
end
abbrev Sp:=List V->Hp->VK->XK->Prop
abbrev IY:=List Env->Hp->Sm->XK->Sb->Sm->Prop
structure xq(P:Tu)(w:T1)(K:PySem.W.Frag)(mg:Str->Option Sb)(base:Ua)(A:UT)(outer:List Env)(s:Sm)(H:Hp):Prop where
 frames:A.frames=RY outer
 mod:Mod K mg base
 bs:∀b o,base.get? b=RY o->s.heap.get? b=RY o/\H b=R3
 Hx:base.objs.size<=s.heap.objs.size
 jt:s.heap.FunFrames base outer
 IV:∀b∈FT outer,H b=R3
 DN:EA P w H s.heap
 bare:Wl s.gens
def CE(outer:List Env)(P:Tu)(w:T1)(H:Hp)(s:Sm)(Q:VK)(u:Sb)(s':Sm):Prop :=
 ∃v H',s'.os=s.os/\Wl s'.gens/\Un (FT outer) [] H H' s.heap s'.heap/\EA P w H' s'.heap/\RelV v u/\Q v H'
def CR(CX:IY)(outer:List Env)(P:Tu)(w:T1)(H:Hp)(s:Sm)(Q:VK)(E:XK)(r:Result)(s':Sm):Prop :=
 match r with
 |.ok (.ret u)=>CE outer P w H s Q u s'
 |.ok _=>False
 |.error e=>CX outer H s E e s'
structure oh(P:Tu)(w:T1)(K:PySem.W.Frag)(mg:Str->Option Sb)(base:Ua)(CX:IY)(k:Nat)(f:Sr)(fd:Wc)(ps:List Str)(sp:Sp):Prop where
 len:∀vs H Q E,sp vs H Q E->vs.length=ps.length
 run:∀(A:UT) (outer:List Env) (s:Sm) (H:Hp) (args:Args) (us:List Sb) (vs:List V) (Q:VK) (E:XK),gh k A->xq P w K mg base A outer s H->YE s fd args (ps.zip us)->Vals vs us->sp vs H Q E ->
  VP (Sw P w) A (.call (.ref f) args) (CR CX outer P w H s Q E) s
section
theorem Inv.Dr(I:Inv X pins σ H s):xq X.prog X.w X.K X.mg X.base X.A X.stack s H :=
 ⟨I.ok.frames,I.ok.mod,I.bs,TX I.ok.Hx I.sz,I.stack,I.rg,I.DN,I.bare⟩
theorem Inv.after(I:Inv X pins σ H s)(h:CE X.stack X.prog X.w H s Q u s'):EP X pins σ Q u s':=by
 obtain⟨v,H',os,bare,un,DN,r,q⟩:=h;obtain⟨hh,g,d,t,LO⟩:=s';obtain rfl:LO=s.os:=os;exact⟨v,H',I.call (h':=hh) (g':=g) (d':=d) (t':=t) (ch:=[]) un DN bare (λb z=>absurd z (by simp)),r,q⟩
end
def Binds(K:PySem.W.Frag)(fd:Wc)(ps:List Str)(ds:List Sb):Prop :=
 ∀(s:Sm) (us:List Sb),K.In s.heap->(us++ds).length=ps.length->YE s fd ⟨us,[]⟩ (ps.zip (us++ds))
theorem Binds.all{K:PySem.W.Frag}(h:∀us:List Sb,us.length=ps.length->Y0 fd ⟨us,[]⟩=pure (ps.zip us)):Binds K fd ps []:=λs us _ hl=>by
 rw[TF]at hl ⊢;exact .of_eq (h us hl)
def Passes(CX:IY)(X:Cx)(E:XK):Prop:=∀(pins:List (Sr×Obj)) (σ:St) (H:Hp) (s:Sm) (e:Sb) (s':Sm),Inv X pins σ H s->CX X.stack H s E e s'->X.xe e s'
section
theorem z_(F:oh X.prog X.w X.K X.mg X.base CX k f fd ps sp)(hr:gh k X.A)(hb:Binds X.K fd ps ds)(hd:Vals LP ds)(hx:Passes CX X E)
  (I:Inv X pins σ H s) (r:Vals vs us) (h:sp (vs++LP) H Q E):Se (Sw X.prog X.w) X.A (Vj (.ref f) us) (EP X pins σ Q) X.xe s:=by
 have r2:Vals (vs++LP) (us++ds):=r.append hd;have hl:(us++ds).length=ps.length:=by rw[<-r2.length];exact F.len _ _ _ _ h
 refine wpAny_call (Wi (F.run X.A X.stack s H ⟨us,[]⟩ (us++ds) (vs++LP) Q E hr I.Dr (hb s us I.IW hl) r2 h) λr s' hq=>?_);cases r with
 |error e=>exact hx pins σ H s e s' I hq
 |ok fl =>
  cases fl with
  |ret u=>exact I.after hq
  |_=>exact UR hq
end
section
end
structure dX(N P:List Str)(sc:UI):Prop where
 kind:sc.kind=.function
 co:sc.isCoroutine=R5
 gen:sc.isGenerator=R5
 nd:N.Nodup
 pre:N.take P.length=P
 par:∀x∈P,sc.names.lookup x=RY .local\/sc.names.lookup x=RY .cell
 HZ:∀y∈sc.names,y.2≠.free
theorem lz{kindOf:Str->Option U5}:∀{binds:List (Str×Sb)}{m:Str->Option Sb},(∀v,(x,v)∉binds)->Yo kindOf binds m x=m x
 |[],_,_=>rfl
 |(n,v)::r,m,h=>by
  unfold Yo;rw[lz λw hw=>h w (SS _ hw)];split
  ·have:x≠n:=by rintro rfl;exact h v SR
   simp[this]
  ·rfl
theorem lA{kindOf:Str->Option U5}:∀{binds:List (Str×Sb)}{m:Str->Option Sb},(∀v,(x,v)∉binds)->Yp kindOf binds m x=m x
 |[],_,_=>rfl
 |(n,v)::r,m,h=>by
  unfold Yp;rw[lA λw hw=>h w (SS _ hw)];split
  ·rfl
  ·have:x≠n:=by rintro rfl;exact h v SR
   simp[this]
theorem lB{kindOf:Str->Option U5}:∀{P:List Str}{vs:List Sb}{i:Nat}{m:Str->Option Sb},P.Nodup->P[i]?=RY x->vs[i]?=RY v->kindOf x=RY .local ->
  Yo kindOf (P.zip vs) m x=RY v
 |[],_,_,_,_,h,_,_=>by simp at h
 |_::_,[],_,_,_,_,h,_=>by simp at h
 |p::P,w::vs,0,m,nd,h1,h2,hk=>by
  simp at h1 h2;subst h1;subst h2;show Yo kindOf ((p,w)::P.zip vs) m p=_;unfold Yo;rw[lz λv hv=>(SU.mp nd).1 (Vv hv).1,Ú hk];simp
 |p::P,w::vs,i+1,m,nd,h1,h2,hk=>by
  show Yo kindOf ((p,w)::P.zip vs) m x=_;unfold Yo;exact lB (i:=i) (SU.mp nd).2 (by simpa using h1) (by simpa using h2) hk
theorem lC{kindOf:Str->Option U5}:∀{P:List Str}{vs:List Sb}{i:Nat}{m:Str->Option Sb},P.Nodup->P[i]?=RY x->vs[i]?=RY v->kindOf x≠RY .local ->
  Yp kindOf (P.zip vs) m x=RY v
 |[],_,_,_,_,h,_,_=>by simp at h
 |_::_,[],_,_,_,_,h,_=>by simp at h
 |p::P,w::vs,0,m,nd,h1,h2,hk=>by
  simp at h1 h2;subst h1;subst h2;show Yp kindOf ((p,w)::P.zip vs) m p=_;unfold Yp;rw[lA λv hv=>(SU.mp nd).1 (Vv hv).1,Ü hk];simp
 |p::P,w::vs,i+1,m,nd,h1,h2,hk=>by
  show Yp kindOf ((p,w)::P.zip vs) m x=_;unfold Yp;exact lC (i:=i) (SU.mp nd).2 (by simpa using h1) (by simpa using h2) hk
def start(N:List Str)(vs:List V):St:=vs.map RY++SH (N.length - vs.length) R3
def qb(CX:IY)(P:Tu)(w:T1)(K:PySem.W.Frag)(mg:Str->Option Sb)(base:Ua)(N:List Str)(qual:Str)(scope:UI)(f:Sr)(cd:Sb)(A:UT)(outer:List Env)(s:Sm)(H:Hp)(E:XK):Cx where
 prog:=P
 w:=w
 K:=K
 mg:=mg
 base:=base
 A:=A.deeper (WH qual scope s.heap.objs.size f cd)
 N:=N
 s₀:=s
 H₀:=H
 env:=WH qual scope s.heap.objs.size f cd
 outer:=outer
 stack:=WH qual scope s.heap.objs.size f cd::outer
 ex:=[]
 calm:=R4
 fn:=λ_=>R4
 pn:=[]
 xe:=λe s'=>Se (Sw P w) (A.deeper (WH qual scope s.heap.objs.size f cd)) (leaving (WH qual scope s.heap.objs.size f cd) e) (λ_ JB=>CX outer H s E e JB) (λe' JB=>CX outer H s E e' JB) s'
theorem oi{sc:UI}(h:sc.names.lookup x=RY .cell):∃c,(ZR n sc.names []).lookup x=RY c:=by
 have q:=PySem.W.cellsFrom_some sc.names n [] (.inl h);exact Xt.mp q
theorem s_{K:PySem.W.Frag}
  (S:dX N ps scope) (hd:A.handled=R3) (e0:xq P w K mg base A outer s H) (hl:vs.length=ps.length) (r:Vals vs us)
  (x:InCallC s s.heap.objs.size (Yo (WH qual scope s.heap.objs.size f cd).kindOf (ps.zip us) λ_=>R3) (ZR (s.heap.objs.size+1) scope.names []) (Yp (WH qual scope s.heap.objs.size f cd).kindOf (ps.zip us) λ_=>R3) s1) :
  Inv (qb CX P w K mg base N qual scope f cd A outer s H E) [] (start N vs) H s1:=by
 have EX:ps.length<=N.length:=by have:=ß Tn S.pre;rw[Tv]at this;omega
 obtain⟨h1,tk,rfl,hk⟩:=x.done;have JC:∀b:Sr,b∉(qb CX P w K mg base N qual scope f cd A outer s H E).ex:=λb z=>absurd (show b∈([]:List Sr) from z) (by simp);refine⟨⟨e0.mod,S.kind,rfl,rfl,Sv _,λy z c h1 h2=>?_,λy hy=>?_,λy c _ h=>?_,λ_=>hd,Around.frames_deeper e0.frames,.inr ⟨rfl,rfl⟩,λb z=>absurd z (JC b),e0.bs,e0.Hx,λb _ _=>JC b,λb z=>absurd z (JC b),e0.jt,e0.IV⟩,
  rfl,e0.bare,Un.kept hk,⟨_,x.toInCall.ns,λi y v h1 h2 h3=>?_⟩,λy c h=>⟨_,x.cell y c h⟩,e0.DN.fresh (Sv _),λy c h=>?_,λp hp=>absurd (show p∈([]:List (Sr×Obj)) from hp) (by simp),e0.DN.kept hk,?_⟩
 ·exact name_of_addr x.apart (PySem.mem_of_lookup h1) (PySem.mem_of_lookup h2)
 ·have hy:scope.names.lookup y=RY .cell\/scope.names.lookup y=RY .free:=hy;rcases hy with hy|hy
  ·exact oi hy
  ·exact absurd rfl (S.HZ _ (PySem.mem_of_lookup hy))
 ·exact U2 (x.above y c (PySem.mem_of_lookup h))
 ·have hi:i<vs.length:=by
   unfold start at h2;by_cases hi:i<vs.length
   ·exact hi
   ·rw[Ta (by simpa using hi)]at h2;rw[Ux]at h2;split at h2<;>cases h2
  have ha:vs[i]?=RY v:=by
   unfold start at h2;rw[Ti (by simpa using hi),SQ]at h2;cases e:vs[i]? with
   |none=>rw[e]at h2;cases h2
   |some a=>rw[e]at h2;cases h2;rfl
  obtain⟨u,hu,rv⟩:=r.get ha;have hp:ps[i]?=RY y:=by
   rw[<-S.pre,XH ⋯];exact h1
  have NA:ps.Nodup:=by rw[<-S.pre];exact S.nd.sublist (YK _ _)
  refine⟨u,rv,?_⟩;rcases S.par y (SY hp) with k|k
  ·exact .inl ⟨k,lB NA hp hu k⟩
  ·obtain⟨c,e⟩:=oi (n:=s.heap.objs.size+1) k;refine .inr ⟨.inl k,c,e,?_⟩;have q:=x.cell y c e;rw[lC NA hp hu (by show scope.names.lookup y≠_;rw[k];decide)]at q;exact q
 ·exact e0.DN.fresh (U2 (x.above y c (PySem.mem_of_lookup h)))
 ·unfold start;show _=N.length;rw[Sy,R9,Vm];omega
theorem B0{K:PySem.W.Frag}{dV kV doc pm EL ct oc:Sb}
 (lk:K.lookup f=RY ⟨oc,od,.func (PySem.W.fnOf name qual params body scope dV kV doc pm an EL ct),IZ⟩) (En:PySem.W.codeIn K EL qual=R4) (S:dX N ps scope)
    (len:∀vs H Q E,sp vs H Q E->vs.length=ps.length)
    (Gv:∀(A:UT) (outer:List Env) (s:Sm) (H:Hp) (vs:List V) (Q:VK) (E:XK),gh k (A.deeper (WH qual scope s.heap.objs.size f EL))->sp vs H Q E ->
      ∃t,EE (qb CX P w K mg base N qual scope f EL A outer s H E) body t/\t {nx:=λ_ H'=>Q .DR H',rt:=Q} (start N vs) H) :
    oh P w K mg base CX (k+1) f (PySem.W.fnOf name qual params body scope dV kV doc pm an EL ct) ps sp:=by
  refine⟨len,λA outer s H args us vs Q E hr e0 hb r FV=>?_⟩;have hl:=len _ _ _ _ FV;have KX:K.In s.heap:=e0.mod.LB.keeps λb o e=>(e0.bs b o e).1;have lim:s.heap.NoLimit:=e0.mod.nolimit.keeps λb o e=>(e0.bs b o e).1;have JD:∀y∈ps.zip us,scope.names.lookup y.1=RY .local\/(scope.names.lookup y.1=RY .cell/\((ZR (s.heap.objs.size+1) scope.names []).lookup y.1).isSome=R4):=λ⟨n,v⟩ hy=>by
    rcases S.par n (Vv hy).1 with q|q
    · exact .inl q
    · exact .inr ⟨q,PySem.W.cellsFrom_some _ _ _ (.inl q)⟩
  refine codeAny_call_function hr.depth (KX _ _ lk) rfl S.co S.gen rfl (PySem.W.codeRec_of KX En) (hb _ _ _ _ ?_);refine wpAny_newFunctionEnv_cells S.kind JD λenv he s1 x=>?_;subst he;refine⟨lim.keeps x.toInCall.keep,codeAny_func ?_⟩;obtain⟨t,ht,hq⟩:=Gv A outer s H vs Q E (hr.deeper _) FV;have I:Inv (qb CX P w K mg base N qual scope f EL A outer s H E) [] (start N vs) H s1:=s_ S hr.hd e0 hl r x;refine Th (ht [] s1 (start N vs) H _ I hq) (λfl s' hs=>?_) λe s' hs=>hs;have fin:∀{σ':St} {H':Hp} {v:V} {u:Sb},Inv (qb CX P w K mg base N qual scope f EL A outer s H E) [] σ' H' s'->RelV v u->Q v H'->CE outer P w H s Q u s' :=
    λ{σ' H' v u} J rv q=>⟨v,H',J.os,J.bare,J.base,J.DN,rv,q⟩
  cases fl with
  | ret u =>
    obtain⟨v,σ',H',J,rv,q⟩:=hs;exact fin J rv q
  | next =>
    obtain⟨σ',H',J,q⟩:=hs;exact fin (v:=V.DR) (u:=S3) J rfl q
  | brk =>
    obtain⟨_,_,_,q⟩:=hs;exact UR q
  | cont =>
    obtain⟨_,_,_,q⟩:=hs;exact UR q
section
end
end L2
namespace HT
open PySem PyProof.Rows
section
open PySem.SeqAt
open PySem.AutoSeq1 (wpAny_loadPart')
open PySem.MeetsSeq PySem.MeetsSeq2 PySem.MeetsSeq3
end
section
def DU(n d:Nat):Option Int->Nat
 |none=>d
 |some v=>if v<0 then(v+(n:Int)).toNat else min v.toNat n
theorem rm(n d k:Nat):DU n d (RY (k:Int))=min k n:=by
 show(if (k:Int)<0 then((k:Int)+(n:Int)).toNat else min (k:Int).toNat n)=min k n;rw[Ü ⋯,TY]
theorem Aa(n d:Nat)(hd:d<=n)(o:Option Int):DU n d o<=n:=by
 cases o with
 |none=>exact hd
 |some v =>
  show(if v<0 then(v+(n:Int)).toNat else min v.toNat n)<=n;by_cases hv:v<0
  ·rw[Ú hv];omega
  ·rw[Ü hv];exact Nat.min_le_right _ _
theorem rn(v:Int)(n d:Nat):(if v<0 then max (v+(n:Int)) 0 else min v (n:Int))=((DU n d (RY v):Nat):Int):=by
 show(if v<0 then max (v+(n:Int)) 0 else min v (n:Int))=(((if v<0 then(v+(n:Int)).toNat else min v.toNat n):Nat):Int)
 by_cases hv:v<0
 ·simp only[Ú hv];omega
 ·simp only[Ü hv];omega
theorem qc(lo hi:Option Int)(n:Nat):Vr lo hi 1 (n:Int)=(((DU n 0 lo:Nat):Int),((DU n n hi:Nat):Int)):=by
 have h1:¬((1:Int)<0):=by omega
 unfold Vr;simp only[h1,á];refine Xs ?_ ?_
 ·cases lo with
  |none=>rfl
  |some v=>exact rn v n 0
 ·cases hi with
  |none=>rfl
  |some v=>exact rn v n n
theorem qd(i j:Nat):UE (i:Int) (j:Int) 1=j - i:=by
 unfold UE;have h1:(1:Int)>0:=by omega
 simp only[h1,if_true,Int.ediv_one];split<;>omega
theorem jB(p:WG v o)(h:Q o s):Se (Sw prog w) A (ZV v) Q E s:=by
 cases p with
 |none=>exact Ô h
 |int i t=>exact slicePart_int h
theorem dH{sl:Sr}{vl vu:Sb}{lo hi:Option Int}{n:Nat}(hs:s.heap.IsSliceOf sl vl vu .none)(pl:WG vl lo)(pu:WG vu hi)
  (h:Q (((DU n 0 lo:Nat):Int),1,DU n n hi - DU n 0 lo) s):Se (Sw prog w) A (Wv (.ref sl) (pure (n:Int))) Q E s:=by
 obtain⟨os,Gw,KO,JE⟩:=id hs;unfold Wv ZW;refine RZ (RZ (Vh Gw JE (x:=vl) rfl (RZ (Vh Gw JE (x:=vu) rfl (RZ (Vh Gw JE (x:=.none) rfl (R_ ?_)))))));refine RZ (Ô ?_);show Se _ _ (if ((1:Int)==0)=R4 then _ else _) _ _ s;rw[Ü (by decide)];refine RZ (jB pl (RZ (jB pu (RZ (R_ ?_)))));show Se _ _ (match Vr lo hi 1 (n:Int) with|(lo,hi)=>pure (lo,(1:Int),UE lo hi 1)) _ _ s;rw[qc lo hi n];show Se _ _ (pure (((DU n 0 lo:Nat):Int),(1:Int),UE ((DU n 0 lo:Nat):Int) ((DU n n hi:Nat):Int) 1)) _ _ s;rw[qd];exact R_ h
theorem uM(xs:Array Sb)(i k:Nat):((Sl k).filterMap λ(m:Nat)=>xs[((i:Int)+(m:Int) * 1).toNat]?).toArray=((xs.toList.drop i).take k).toArray:=by
 have e:(λ(m:Nat)=>xs[((i:Int)+(m:Int) * 1).toNat]?)=λm=>xs[i+m]?:=by
  funext m
  have:((i:Int)+(m:Int) * 1).toNat=i+m:=by omega
  rw[this]
 rw[e];have:=pick_run xs i k;rw[List.filterMap_map]at this;have e2:((λx=>xs[x]?) ∘ λx=>i+x)=λm=>xs[i+m]?:=rfl;rw[e2]at this;rw[this]
theorem gG{lo hi:Option Int}(ht:Ù s.heap t items)(hs:s.heap.IsSliceOf sl vl vu .none)(pl:WG vl lo)(pu:WG vu hi)
  (hw:¬(DU items.size 0 lo=0/\DU items.size items.size hi=items.size))
  (h:Q (.ref s.heap.objs.size) {s with heap:=s.heap.push {cls:=.type "tuple",data:=.seq ((items.toList.drop (DU items.size 0 lo)).take (DU items.size items.size hi - DU items.size 0 lo)).toArray}})
  (hsz:items.size<=R6):Se (Sw prog w) A (VO (.ref t) (.ref sl)) Q E s:=by
 have FW:sizeOk (.seq ((items.toList.drop (DU items.size 0 lo)).take (DU items.size items.size hi - DU items.size 0 lo)).toArray):=by
  show((items.toList.drop (DU items.size 0 lo)).take (DU items.size items.size hi - DU items.size 0 lo)).toArray.size<=R6;rw[Ss,Tv,VZ,S7];omega
 have hj:DU items.size items.size hi<=items.size:=Aa _ _ (Sv _) hi;obtain⟨os,Gw,KO,JE⟩:=id hs;have LQ:s.TypeIs (.ref sl) "slice":=⟨os,Gw,KO⟩
 unfold VO
 try with_reducible refine Tj ?_
 first|refine RZ (R_ ?_)|skip
 refine RZ (Zx ht.typeIs (by decide) ?_);refine RZ (Uc (name:=Vf "__getitem__") ht.typeIs Tg
  (Ts Tg ht.typeIs Zb ?_ (Zs _ _)))
 show Se _ _ (Vk (.ref t) >>= _) _ _ s;refine RZ (tupleItemsOf_ ht ?_);refine RZ (U7 LQ ?_);rw[Ú (by decide)];refine RZ (dH hs pl pu ?_);have GY:¬((((DU items.size 0 lo:Nat):Int)==0&&(1:Int)==1&&(DU items.size items.size hi - DU items.size 0 lo)==items.size)=R4):=by
  intro q;rw[R7,R7]at q;have q1:((DU items.size 0 lo:Nat):Int)=0:=Ys q.1.1;have q2:DU items.size items.size hi - DU items.size 0 lo=items.size:=Ys q.2;exact hw ⟨⋯,⋯⟩
 show Se _ _ (if (((DU items.size 0 lo:Nat):Int)==0&&(1:Int)==1&&(DU items.size items.size hi - DU items.size 0 lo)==items.size)=R4 then _ else _) _ _ s;rw[Ü GY,uM]
 first
  |exact RZ (m:=UL _) (Tb (R_ ⟨_,rfl,R_ h⟩) FW)
  |exact RZ (m:=UL _) (Tb (RZ (R_ (R_ ⟨_,rfl,R_ h⟩))) FW)
  |exact RZ (RZ (m:=UL _) (Tb (R_ (R_ ⟨_,rfl,R_ h⟩)) FW))
  |exact RZ (RZ (m:=UL _) (Tb (R_ ⟨_,rfl,R_ h⟩) FW))
end
end HT
namespace L2
open PySem PySem.Spec PyProof.Rows
abbrev TO:=St->Hp->(Option Int->Hp->Prop)->Prop
def PO(X:Cx)(e:Option Td)(t:TO):Prop :=
 ∀(pins:List (Sr×Obj)) (s:Sm) (σ:St) (H:Hp) (Q:Option Int->Hp->Prop),Inv X pins σ H s->t σ H Q ->
  Se (Sw X.prog X.w) X.A (evalPart e X.env) (λu s'=>∃o H',Inv X pins σ H' s'/\WG u o/\Q o H') X.xe s
def xr:TO:=λ_ H Q=>Q R3 H
def B1(t:TE):TO:=λσ H Q=>t σ H λx H1=>∃i,x=.int i/\Q (RY i) H1
section
variable{X:Cx}{e:Td}{te:TE}{lo hi:Option Td}{tl th:TO}{pos p2:Pos}
theorem xt:PO X R3 xr:=by
 intro pins s σ H Q I h;rw[evalPart_none];exact R_ ⟨R3,H,I,.none,h⟩
theorem xu(h:PE X e te):PO X (RY e) (B1 te):=by
 intro pins s σ H Q I hw;rw[evalPart_some];refine DQ (h pins s σ H _ I hw) λu s1 ⟨x,H1,I1,r1,q1⟩=>?_;obtain⟨i,rfl,q⟩:=q1;obtain⟨t,rfl⟩:=r1;exact⟨RY i,H1,I1,.int i t,q⟩
def GZ(X:Cx)(r:V->Option Int->Option Int->Hp->VK->Prop):Prop :=
 ∀(pins:List (Sr×Obj)) (s:Sm) (σ:St) (H:Hp) (x:V) (v vl vu:Sb) (lo hi:Option Int) (sl:Sr) (Q:VK),Inv X pins σ H s->RelV x v->s.heap.IsSliceOf sl vl vu .none->WG vl lo->WG vu hi->r x lo hi H Q ->
  ∃T id,X0 (.type T) "__getitem__"=pure (RY (.builtin id))/\s.TypeIs v T/\Se (Sw X.prog X.w) X.A (VO v (.ref sl)) (EP X pins σ Q) X.xe s
theorem GZ.or(h:GZ X r)(h':GZ X r'):GZ X (λx lo hi H Q=>r x lo hi H Q\/r' x lo hi H Q):=by
 intro pins s σ H x v vl vu lo hi sl Q I rx hs pl pu q;rcases q with q|q
 ·exact h pins s σ H x v vl vu lo hi sl Q I rx hs pl pu q
 ·exact h' pins s σ H x v vl vu lo hi sl Q I rx hs pl pu q
def OV(r:V->Option Int->Option Int->Hp->VK->Prop)(te:TE)(tl th:TO):TE:=λσ H Q=>te σ H λx H1=>tl σ H1 λl H2=>th σ H2 λu H3=>r x l u H3 Q
theorem uN(hr:GZ X r)(he:PE X e te)(hl:PO X lo tl)(hu:PO X hi th):PE X (.Subscript e (.Slice lo hi R3 p2) pos) (OV r te tl th):=by
 intro pins s σ H Q I h;refine Zt (DQ (he pins s σ H _ I h) λv s1 ⟨x,H1,I1,r1,q1⟩=>?_);refine wpAny_Slice (DQ (hl pins s1 σ H1 _ I1 q1) λvl s2 ⟨l,H2,I2,pl,q2⟩=>DQ (hu pins s2 σ H2 _ I2 q2) λvu s3 ⟨u,H3,I3,pu,q3⟩=>?_);rw[evalPart_none];refine R_ ?_;have I4:Inv X pins σ H3 {s3 with heap:=s3.heap.push {cls:=.type "slice",data:=.fields #[vl,vu,.none]}}:=I3.kept (t':=s3.toks) λb ob q=>R8 _ q;obtain⟨T,id,hT,ht,hg⟩:=hr pins {s3 with heap:=s3.heap.push {cls:=.type "slice",data:=.fields #[vl,vu,.none]}} σ H3 x v vl vu l u s3.heap.objs.size Q I4 r1 (ZK ..) pl pu q3;show Se (Sw X.prog X.w) X.A (W3 e (.Slice lo hi R3 p2) v (.ref s3.heap.objs.size)) (EP X pins σ Q) X.xe {s3 with heap:=s3.heap.push {cls:=.type "slice",data:=.fields #[vl,vu,.none]}};exact Ñ (ops:=[.ref s3.heap.objs.size,v]) ht hT hg (by with_unfolding_all rfl)
def oj(xs:List V)(lo hi:Option Int):List V:=(xs.drop (HT.DU xs.length 0 lo)).take (HT.DU xs.length xs.length hi - HT.DU xs.length 0 lo)
theorem iG(xs:List V)(lo hi:Option Int):(oj xs lo hi).length<=xs.length:=by
 unfold oj;rw[Tv,VZ];omega
def B3(K:PySem.W.Frag):V->Option Int->Option Int->Hp->VK->Prop:=λx lo hi H Q=>∃a xs,x=.ref a/\Ef K H a xs /\
 ¬(HT.DU xs.length 0 lo=0/\HT.DU xs.length xs.length hi=xs.length)/\∀p,H p=R3->Q (.ref p) (upd H p (.tup (oj xs lo hi)))
theorem Ab:GZ X (B3 X.K):=by
 intro pins s σ H x v vl vu lo hi sl Q I rx hs pl pu h;obtain⟨a,xs,rfl,hx,hw,q⟩:=h;cases rx;obtain⟨its,r,ht,hz⟩:=I.tuple hx;have hlen:its.toArray.size=xs.length:=by rw[Ss];exact r.length.symm
 refine⟨"tuple",_,Tg.lookup,ht.typeIs,?_⟩;refine HT.gG ht hs pl pu (by rw[hlen];exact hw) ?_ (by rw[hlen];exact hz);rw[hlen];refine⟨.ref s.heap.objs.size,_,I.laid (t':=s.toks) (o:=.tup (oj xs lo hi)) (λb ob q=>R8 _ q) (Sv _) ?_,rfl,q _ (I.DN.fresh (Sv _))⟩;exact⟨TX (iG xs lo hi) hz,_,(r.drop (HT.DU xs.length 0 lo)).take (HT.DU xs.length xs.length hi - HT.DU xs.length 0 lo),YH _ _⟩
end
def Gx(n:Nat)(i:Int):Option Nat:=if 0<=i then(if i<n then RY i.toNat else R3) else if -(n:Int)<=i then RY (i+n).toNat else R3
def D8{α:Type}(xs:List α)(i:Int):Option α:=(Gx xs.length i).bind λj=>xs[j]?
theorem rp(h:Gx n i=RY j):seqIndex? i n=RY j/\j<n/\-(n:Int)<=i/\i<n:=by
 unfold Gx at h;by_cases h0:0<=i
 ·rw[Ú h0]at h;by_cases h1:i<n
  ·rw[Ú h1]at h;have e:i.toNat=j:=Tq h;exact⟨by rw[YY h0 h1,e],⋯,⋯,h1⟩
  ·rw[Ü h1]at h;cases h
 ·rw[Ü h0]at h;by_cases h1:-(n:Int)<=i
  ·rw[Ú h1]at h;have e:(i+n).toNat=j:=Tq h;exact⟨by rw[seqIndex_neg ⋯ h1,e],⋯,h1,⋯⟩
  ·rw[Ü h1]at h;cases h
theorem mF(h:D8 xs i=RY v):∃j,seqIndex? i xs.length=RY j/\xs[j]?=RY v/\j<xs.length/\-(xs.length:Int)<=i/\i<xs.length:=by
 unfold D8 at h;cases e:Gx xs.length i with
 |none=>rw[e]at h;cases h
 |some j =>
  rw[e]at h;obtain⟨h1,h2,h3,h4⟩:=rp e;exact⟨j,h1,h,h2,h3,h4⟩
theorem cc{xs:List α}{j:Nat}{v:α}(h:xs[j]?=RY v):D8 xs (j:Int)=RY v:=by
 have hj:j<xs.length:=(Sf.mp h).1;have e:Gx xs.length (j:Int)=RY j:=by
  unfold Gx;rw[Ú ⋯,Ú ⋯];simp
 unfold D8;rw[e];exact h
def mG(b:Td):Prop:=∀o i,XE b R5 o i=operate [o,i] (VO o i)
def LR(X:Cx)(r:R2):Prop :=
 ∀(value slice:Td) (pins:List (Sr×Obj)) (s:Sm) (σ:St) (H:Hp) (x y:V) (v u:Sb) (Q:VK),Inv X pins σ H s->RelV x v->RelV y u->r x y H Q ->
  XE slice R5 v u=operate [v,u] (VO v u)->Se (Sw X.prog X.w) X.A (W3 value slice v u) (EP X pins σ Q) X.xe s
def JF(X:Cx)(id:String)(r:V->List V->Hp->VK->Prop):Prop :=
 ∀(pins:List (Sr×Obj)) (s:Sm) (σ:St) (H:Hp) (x:V) (xs:List V) (v:Sb) (us:List Sb) (Q:VK),Inv X pins σ H s->RelV x v->Vals xs us->r x xs H Q ->
  Se (Sw X.prog X.w) X.A (Vj (.builtin id) (v::us)) (EP X pins σ Q) X.xe s
section
def Ds(K:PySem.W.Frag):R2:=λx y H Q=>∃p xs i v,x=.ref p/\y=.int i/\Eg K H p xs/\D8 xs i=RY v/\Q v H
def Dt(K:PySem.W.Frag):R2:=λx y H Q=>∃p xs i v,x=.ref p/\y=.int i/\Ef K H p xs/\D8 xs i=RY v/\Q v H
def Du:R2:=λx y H Q=>∃z i c,x=.str z/\y=.int i/\z.length<=R6/\D8 z.cps.toList i=RY c/\Q (.str ⟨#[c]⟩) H
theorem xv:LR X (Ds X.K):=by
 intro value slice pins s σ H x y v u Q I rx ry h hs;obtain⟨p,xs,i,z,rfl,rfl,hq,he,q⟩:=h;cases rx;obtain⟨t,rfl⟩:=ry;obtain⟨its,r,pl,hz⟩:=I.list hq;obtain⟨j,h1,h2,h3,h4,h5⟩:=mF he;obtain⟨w,ew,FF⟩:=r.get h2;have hl:=r.length;have hn:=eU;have fin:EP X pins σ Q w s:=⟨z,H,I,FF,q⟩
 by_cases h0:0<=i
 ·have hj:i.toNat=j:=by
   rw[YY h0 h5]at h1;exact Tq h1
  exact item_listR pl.isList h0 ⋯ (by rw[hj];simpa using ew) fin hs
 ·have hj:(i+(its.toArray.size:Int)).toNat=j:=by
   rw[seqIndex_neg ⋯ h4]at h1;rw[Ss,<-hl];exact Tq h1
  exact YF (x:=w) pl.isList.typeIs ZC.lookup
   (wpAny_getItem_list_neg (Q:=λr s'=>r=w/\EP X pins σ Q r s') pl.isList ⋯ (by rw[Ss]<;>omega) ⋯ (by rw[hj];simpa using ew) ⟨rfl,fin⟩) hs
theorem mH:LR X (Dt X.K):=by
 intro value slice pins s σ H x y v u Q I rx ry h hs;obtain⟨p,xs,i,z,rfl,rfl,hq,he,q⟩:=h;cases rx;obtain⟨t,rfl⟩:=ry;obtain⟨its,r,pl,hz⟩:=I.tuple hq;obtain⟨j,h1,h2,h3,h4,h5⟩:=mF he;obtain⟨w,ew,FF⟩:=r.get h2;have hl:=r.length;have hn:=eU;have fin:EP X pins σ Q w s:=⟨z,H,I,FF,q⟩
 exact YF (x:=w) pl.typeIs Tg.lookup
  (getItem_tuple (j:=j) (Q:=λr s'=>r=w/\EP X pins σ Q r s') pl ⋯ ⋯ (by rw[Ss,<-hl];exact h1) (by simpa using ew) ⟨rfl,fin⟩) hs
theorem jC:LR X Du:=by
 intro value slice pins s σ H x y v u Q I rx ry h hs;obtain⟨z,i,c,rfl,rfl,hz,he,q⟩:=h;obtain⟨t,rfl⟩:=rx;obtain⟨t',rfl⟩:=ry;obtain⟨j,h1,h2,h3,h4,h5⟩:=mF he;have hl:z.cps.toList.length=z.length:=by simp[VI]
 rw[hl]at h1 h4 h5;have hn:=eU;exact Ñ (VR s z t) ZZ.lookup (getItem_str (c:=c) (by
  have e1:Sa (i < -(2 ^ 63:Int))=R5:=Ý ⋯;have e2:Sa (i >= 2 ^ 63)=R5:=Ý ⋯;rw[e1,e2,Zv]) (by rw[h1];simpa using h2) ⟨.str ⟨#[c]⟩,H,I.tok _,⟨_,rfl⟩,q⟩) hs
theorem qe(its:List Sb)(n j:Nat)(u:Sb):S_ (·.setIfInBounds j u) {cls:=.type "list",data:=.seq its.toArray n}={cls:=.type "list",data:=.seq (its.set j u).toArray n}:=by
 simp[S_]
theorem Inv.lst(I:Inv X pins σ H s)(h:H p=RY (.lst xs)):
  ∃(its:List Sb) (n:Nat),Vals xs its/\s.heap.get? p=RY {cls:=.type "list",data:=.seq its.toArray n}/\xs.length<=R6:=by
 obtain⟨z,its,n,r,e⟩:=I.DN p _ h;exact⟨its,n,r,e,z⟩
theorem Inv.Ac{its its':List Sb}(I:Inv X pins σ H s)(h:H p=RY (.lst xs))
  (ho:s.heap.get? p=RY {cls:=.type "list",data:=.seq its.toArray n}) (hf:f {cls:=.type "list",data:=.seq its.toArray n}={cls:=.type "list",data:=.seq its'.toArray n' }) (r:Vals ys its') (hz:ys.length<=R6) (t:Nat) :
  Inv X pins σ (upd H p (.lst ys)) {s with heap:=s.heap.update p f,toks:=t}:=by
 have e:(s.heap.update p f).get? p=RY {cls:=.type "list",data:=.seq its'.toArray n' }:=by
  rw[Tz f ho (by rw[hf]<;>rfl),hf]
 refine I.write (x:=p) (e:=p) (by rw[h];trivial) (.inl rfl) (λb u hb q=>(Vb _ _ (Te hb)).trans q) ⟨_,e⟩ ?_;exact⟨hz,its',n',r,e⟩
def B4:V->V->V->Hp->(Hp->Prop)->Prop:=λo i v H Q=>∃p xs k j,o=.ref p/\i=.int k/\H p=RY (.lst xs)/\Gx xs.length k=RY j/\Q (upd H p (.lst (xs.set j v)))
theorem set_list:jw X B4:=by
 intro pins s σ H o i v ov iv u Q I ro ri rv h;obtain⟨p,xs,k,j,rfl,rfl,hp,hj,q⟩:=h;cases ro;obtain⟨t,rfl⟩:=ri;obtain⟨its,n,r,ho,hz⟩:=I.lst hp;obtain⟨h1,h2,h3,h4⟩:=rp hj;have hl:=r.length;have hn:=eU;have I':Inv X pins σ (upd H p (.lst (xs.set j v))) {s with heap:=s.heap.update p (S_ (·.setIfInBounds j u))} :=
  I.Ac hp ho (qe its n j u) (r.set rv j) (by rw[Y9];exact hz) s.toks
 by_cases h0:0<=k
 ·have hk:k.toNat=j:=by
   rw[YY h0 h4]at h1;exact Tq h1
  exact PySem.W.ki_setAt ho h0 ⋯ (by rw[Ss,<-hl];exact h4) (by rw[hk];exact⟨_,I',q⟩)
 ·have hk:(k+(its.toArray.size:Int)).toNat=j:=by
   rw[seqIndex_neg ⋯ h3]at h1;rw[Ss,<-hl];exact Tq h1
  exact PySem.W.ki_setBack ho ⋯ (by rw[Ss,<-hl];exact h3) ⋯ (by rw[hk];exact⟨_,I',q⟩)
theorem mI(lo hi:Option Int)(n:Nat):(VD lo hi R3 n).1=((HT.DU n 0 lo:Nat):Int)/\(VD lo hi R3 n).2.1=((HT.DU n n hi:Nat):Int)/\(VD lo hi R3 n).2.2=1:=by
 refine⟨?_,?_,rfl⟩
 ·cases lo with
  |none=>simp[VD,HT.DU]
  |some i =>
   simp only[VD,HT.DU,WO,show(1:Int)>0 by decide,if_true];by_cases h:i<0
   ·simp only[h,if_true]<;>omega
   ·simp only[h,á]<;>omega
 ·cases hi with
  |none=>simp[VD,HT.DU]
  |some i =>
   simp only[VD,HT.DU,WO,show(1:Int)>0 by decide,if_true];by_cases h:i<0
   ·simp only[h,if_true]<;>omega
   ·simp only[h,á]<;>omega
theorem kW(its:List Sb)(lo hi:Option Int):slicePick its.toArray lo hi R3=((its.drop (HT.DU its.length 0 lo)).take (HT.DU its.length its.length hi - HT.DU its.length 0 lo)).toArray:=by
 obtain⟨h1,h2,h3⟩:=mI lo hi its.toArray.size;unfold slicePick;rw[h1,h2,h3];simp only[sliceRange_one,pick_run,Ss]<;>rfl
def B5(K:PySem.W.Frag):V->Option Int->Option Int->Hp->VK->Prop:=λx lo hi H Q=>∃a xs,x=.ref a/\Eg K H a xs/\∀p,H p=R3->Q (.ref p) (upd H p (.lst (oj xs lo hi)))
theorem xw:GZ X (B5 X.K):=by
 intro pins s σ H x v vl vu lo hi sl Q I rx hs pl pu h;obtain⟨a,xs,rfl,hx,q⟩:=h;cases rx;obtain⟨its,r,ht,hz⟩:=I.list hx;have hlen:=r.length;refine⟨"list",_,ZC.lookup,ht.isList.typeIs,?_⟩;refine wpAny_getItem_list_slice ht.isList hs pl pu .none (by simp) ?_ (by rw[Ss]<;>omega);rw[kW,<-hlen];refine⟨.ref s.heap.objs.size,_,I.laid (t':=s.toks) (o:=.lst (oj xs lo hi)) (λb ob q=>R8 _ q) (Sv _) ?_,rfl,q _ (I.DN.fresh (Sv _))⟩;exact⟨TX (iG xs lo hi) hz,_,0,(r.drop (HT.DU xs.length 0 lo)).take (HT.DU xs.length xs.length hi - HT.DU xs.length 0 lo),Sj _ rfl⟩
theorem gH:fX X (.builtin "len") (λxs H Q=>∃p ys,xs=[.ref p]/\(Eg X.K H p ys\/Ef X.K H p ys)/\Q (.int ys.length) H):=by
 intro pins s σ H xs us Q I r h;obtain⟨p,ys,rfl,hq,q⟩:=h;obtain⟨u,rfl,rx⟩:=vals1 r;cases rx;have hn:=eU;rcases hq with hq|hq
 ·obtain⟨its,r',pl,hz⟩:=I.list hq;have hlen:=r'.length;exact Calls.call_len_list pl.isList (by simp only[Ss]<;>omega) ⟨.int ys.length,H,I.tok _,⟨s.toks+1,by rw[Ss,hlen]⟩,q⟩
 ·obtain⟨its,r',pl,hz⟩:=I.tuple hq;have hlen:=r'.length;exact len_tuple pl (by simp only[Ss]<;>omega) ⟨.int ys.length,H,I.tok _,⟨s.toks+1,by rw[Ss,hlen]⟩,q⟩
theorem mJ:fX X (.builtin "len") (λxs H Q=>∃z,xs=[.str z]/\z.length<=R6/\Q (.int z.length) H):=by
 intro pins s σ H xs us Q I r h;obtain⟨z,rfl,hz,q⟩:=h;obtain⟨u,rfl,t,rfl⟩:=vals1 r;have hn:=eU;exact len_str ⋯ ⟨.int z.length,H,I.tok _,⟨_,rfl⟩,q⟩
theorem gI:fX X (.type "list") (λxs H Q=>∃p ys,xs=[.ref p]/\(Eg X.K H p ys\/Ef X.K H p ys)/\∀l,H l=R3->Q (.ref l) (upd H l (.lst ys))):=by
 intro pins s σ H xs us Q I r h;obtain⟨p,ys,rfl,hq,q⟩:=h;obtain⟨u,rfl,rx⟩:=vals1 r;cases rx;have fin:∀(its:List Sb),Vals ys its->ys.length<=R6->∀(h':Ua) (c':Nat),(∀b o',s.heap.get? b=RY o'->h'.get? b=RY o') ->
   h'.get? s.heap.objs.size=RY {cls:=.type "list",dict:=R3,data:=.seq its.toArray c',slots:=#[]}->EP X pins σ Q (.ref s.heap.objs.size) {s with heap:=h' }:=λits r' hz h' c' kp e =>
  ⟨.ref s.heap.objs.size,_,I.laid (t':=s.toks) kp (Sv _) (show bK X.prog X.w _ h' _ (.lst ys) from⟨hz,its,c',r',e⟩),rfl,q _ (I.DN.fresh (Sv _))⟩
 rcases hq with hq|hq
 ·obtain⟨its,r',pl,hz⟩:=I.list hq;have hlen:=r'.length;obtain⟨o,ho,hc,n,hd⟩:=pl.isList;exact call_list_seq p (.inl rfl) ho hc hd (λh' c' kp e=>fin its r' hz h' c' kp e) (by simp only[Ss]<;>omega)
 ·obtain⟨its,r',pl,hz⟩:=I.tuple hq;have hlen:=r'.length;obtain⟨o,ho,hc,n,hd⟩:=pl;exact call_list_seq p (.inr rfl) ho hc hd (λh' c' kp e=>fin its r' hz h' c' kp e) (by simp only[Ss]<;>omega)
theorem fY:fX X (.type "tuple") (λxs H Q=>∃p ys,xs=[.ref p]/\((Eg X.K H p ys/\∀l,H l=R3->Q (.ref l) (upd H l (.tup ys)))\/(Ef X.K H p ys/\Q (.ref p) H))):=by
 intro pins s σ H xs us Q I r h;obtain⟨p,ys,rfl,h⟩:=h;obtain⟨u,rfl,rx⟩:=vals1 r;cases rx;rcases h with⟨hq,q⟩|⟨hq,q⟩
 ·obtain⟨its,r',pl,hz⟩:=I.list hq;have hlen:=r'.length;refine call_tuple_list pl.isList (λh' kp=>?_) (by simp only[Ss]<;>omega);have I1:Inv X pins σ H {s with heap:=h' }:=I.kept (t':=s.toks) kp;have I2:Inv X pins σ (upd H h'.objs.size (.tup ys)) {s with heap:=h'.push {cls:=.type "tuple",data:=.seq its.toArray}} :=
   I1.laid (t':=s.toks) (λb o e=>R8 _ e) (Sv _) (show bK X.prog X.w _ _ _ (.tup ys) from⟨hz,its,r',YH _ _⟩)
  exact⟨.ref h'.objs.size,_,I2,rfl,q _ (I1.DN.fresh (Sv _))⟩
 ·obtain⟨its,r',pl,hz⟩:=I.tuple hq;exact call_tuple_same pl ⟨.ref p,H,I,rfl,q⟩
def LS(K:PySem.W.Frag)(T:String)(x:V)(H:Hp):Prop:=match x with
 |.str _=>T="str"
 |.int _=>T="int"
 |.ref p=>(T="list"/\∃xs,Eg K H p xs)\/(T="tuple"/\∃o,K.lookup p=RY o/\o.cls=.type "tuple"/\o.dict=R3) \/
   (T="dict"/\((∃kvs,H p=RY (.dK kvs))\/∃kvs,H p=RY (.dT kvs)))\/(T="set"/\∃S n,H p=RY (.set S n))
 |_=>False
theorem qf(I:Inv X pins σ H s)(r:RelV x v)(ty:LS X.K T x H):
  s.TypeIs v T/\∀a,v=.ref a->∃ob,s.heap.get? a=RY ob/\ob.dict=R3:=by
 cases x with
 |str z =>
  obtain⟨t,rfl⟩:=r;cases(show T="str" from ty);exact⟨VR s z t,λ_ e=>nomatch e⟩
 |int i =>
  obtain⟨t,rfl⟩:=r;cases(show T="int" from ty);exact⟨typeIs_int s i t,λ_ e=>nomatch e⟩
 |ref p =>
  cases r;rcases ty with⟨rfl,xs,hq⟩|⟨rfl,o,hk,hc,hd⟩|⟨rfl,hk⟩|⟨rfl,S,n,hk⟩
  ·obtain⟨its,_,pl,_⟩:=I.list hq;refine⟨pl.isList.typeIs,λa e=>?_⟩;cases e;obtain⟨o,n,e,c,hd,_⟩:=pl;exact⟨o,e,hd⟩
  ·refine⟨⟨o,I.IW p o hk,hc⟩,λa e=>?_⟩;cases e;exact⟨o,I.IW _ o hk,hd⟩
  ·have z:∃o,s.heap.get? p=RY o/\o.ExactDict:=by
    rcases hk with⟨kvs,hk⟩|⟨kvs,hk⟩
    ·obtain⟨_,_,_,_,o,_,_,e,ex,_⟩:=I.DN p _ hk;exact⟨o,e,ex⟩
    ·obtain⟨_,_,_,_,o,_,_,e,ex,_⟩:=I.DN p _ hk;exact⟨o,e,ex⟩
   obtain⟨o,e,ex⟩:=z;refine⟨⟨o,e,ex.1⟩,λa e2=>?_⟩;cases e2;exact⟨o,e,ex.2.1⟩
  ·obtain⟨o,_,_,_,e,ex,_⟩:=I.DN p _ hk;refine⟨⟨o,e,ex.1⟩,λa e2=>?_⟩;cases e2;exact⟨o,e,ex.2.1⟩
 |_=>exact UR ty
def OW(K:PySem.W.Frag)(T:String)(r:V->List V->Hp->VK->Prop)(to:TE)(t:TA):TE:=λσ H Q=>to σ H λx H1=>LS K T x H1/\t σ H1 λxs H2=>r x xs H2 Q
variable{o e:Td}{es:List Td}{to:TE}{t:TA}{name:Str}{apos DK:Pos}{T id:String}{r:V->List V->Hp->VK->Prop}
theorem uO(pa:PlainAttrs T)(slot:Slot T name id)(LU:Å (.builtin id)=pure (.type "method_descriptor"))(hm:JF X id r)(ho:PE X o to)(ha:PA X (e::es) t)
  (Gy:W2 o name X.env (T2 o X.env)=T2 o X.env:=by rfl)
  (EM:((Uk DK (SJ (e::es) X.env)).all (λx=>!x.1)&&(Wa DK (Vi [] X.env)).all (λx=>x.1.isSome)
   && Sa ((e::es).length+([]:List Va).length+(if ([]:List Va).isEmpty then 0 else 1)<30))=R4:=by rfl)
  (Eo:(apos.endLine==DK.line)=R4:=by rfl) (hs:SJ (e::es) X.env=(R5,T2 e X.env)::SJ es X.env:=by rfl) (ET:(Uk DK (SJ es X.env)).any (·.1)=R5:=by rfl) :
  PE X (.Call (.Attribute o name apos) (e::es) [] DK) (OW X.K T r to t):=by
 intro pins s σ H Q I h;refine Yu Gy EM Eo rfl (DQ (ho pins s σ H _ I h) λv s1 ⟨x,H1,I1,r1,ty,q1⟩=>?_);obtain⟨h1,h2⟩:=qf I1 r1 ty;refine⟨T,id,pa,slot,LU,h1,h2,?_⟩;have hA:=ha DK pins s1 σ H1 _ I1 q1;rw[hs]at hA ⊢;refine UB (by show(R5||(Uk DK (SJ es X.env)).any (·.1))=R5;rw[ET]<;>rfl) (UP ?_);exact DQ hA λus s2 ⟨vs,H2,I2,r2,q2⟩=>hm pins s2 σ H2 x vs v us Q I2 r1 r2 q2
end
def NB(X:Cx)(id:String)(r:V->List V->Hp->VK->Prop):Prop :=
 ∀(pins:List (Sr×Obj)) (s:Sm) (σ:St) (H:Hp) (x:V) (xs:List V) (v:Sb) (us:List Sb) (Q:VK),Inv X pins σ H s->RelV x v->Vals xs us->r x xs H Q ->
  Se (Sw X.prog X.w) X.A (Vj (.builtin id) (v::us)) (EP X pins σ Q) X.xe s
theorem Vals.one:∀{x:V}{us:List Sb},Vals [x] us->∃u,us=[u]/\RelV x u
 |_,_,.cons r .nil=>⟨_,rfl,r⟩
section
theorem Inv.mK{its its':List Sb}(I:Inv X pins σ H s)(hH:H l=RY (.lst xs))
  (e:s.heap.get? l=RY {cls:=.type "list",data:=.seq its.toArray n}) (hf:f its.toArray=its'.toArray) (hv:Vals ys its') (hz:ys.length<=R6) :
  Inv X pins σ (upd H l (.lst ys)) {s with heap:=s.heap.update l (S_ f),toks:=t' }:=by
 have q:=PySem.IsL.update e f;rw[hf]at q;refine I.write (x:=l) (e:=l) (by rw[hH];exact trivial) (.inl rfl) (λb' u hb hu=>(Vb s.heap (S_ f) (Te hb)).trans hu) ⟨_,q⟩ ?_;exact⟨hz,its',_,hv,q⟩
theorem Inv.Dv(I:Inv X pins σ H s)(hv:Vals ys its)(hz:ys.length<=R6):
  Inv X pins σ (upd H s.heap.objs.size (.lst ys)) {s with heap:=s.heap.push {cls:=.type "list",data:=.seq its.toArray},toks:=t' } :=
 I.laid (λ_ _ q=>R8 _ q) (Sv _) ⟨hz,its,0,hv,Sj _ rfl⟩
theorem Inv.fresh(I:Inv X pins σ H s):H s.heap.objs.size=R3:=I.DN.fresh (Sv _)
theorem Inv.B6(I:Inv X pins σ H s)(hH:H l=RY (.lst xs)):xs.length<=R6/\∃(its:List Sb) (n:Nat),Vals xs its/\xs.length=its.length/\s.heap.get? l=RY {cls:=.type "list",data:=.seq its.toArray n}:=by
 obtain⟨z,its,n,r,e⟩:=I.DN l _ hH;exact⟨z,its,n,r,r.length,e⟩
theorem uP(h:n<=R6):Uh n=R5:=by
 unfold Uh;exact Ý ⋯
end
section
def xx:V->List V->Hp->VK->Prop:=λx vs H Q=>∃l xs y,x=.ref l/\vs=[y]/\H l=RY (.lst xs)/\xs.length<R6/\Q .DR (upd H l (.lst (xs++[y])))
theorem lD:NB X "list.append" xx:=by
 intro pins s σ H x vs v us Q I rx rv h;obtain⟨l,xs,y,rfl,rfl,hH,hz,q⟩:=h;cases rx;obtain⟨u,rfl,ru⟩:=rv.one;obtain⟨z,its,n,r,hl,e⟩:=I.B6 hH;refine Vy F.slot_list_append ⟨_,e,rfl⟩ F.entry_list_append (F.args_list_append_2 _ _) (PySem.list_append l its.toArray n u (by rw[Ss];omega)) ⟨e,?_⟩;refine⟨.DR,_,I.mK (its':=its++[u]) hH e (by simp) (r.append (.cons ru .nil)) ?_,rfl,q⟩;rw[Sy,Vl];omega
end
section
set_option maxRecDepth 100000 in
end
section
end
end L2
namespace NC
open PySem PySem.W PySem.Calls PyProof.Rows
theorem ja:∀(ns:List Int) (vs:List Sb),WellAll P h vs (ns.map Z6)->YI vs ns:=by
 intro ns;induction ns with
 |nil =>
  intro vs w;rw[TV]at w;cases w;exact .nil
 |cons n ns ih =>
  intro vs w;rw[Sd]at w;cases w with
  |cons a b =>
   cases a;exact .cons _ _ (ih _ b)
theorem tf{l:OpenLaw}(hn:l.most=RY n)
  (G':l.row.toRowW.claim.pre args=R4) (I0:WellAll P h vals args) :
  ∃a vs ns,vals=[SD a]/\args=[WData.list (ns.map Z6)]/\h.get? a=RY {cls:=.type "list",data:=.seq vs.toArray}/\YI vs ns/\ns.length<=n:=by
 have OX:WShape.hasAll [] args [.list .int]=R4:=(pre_splitW G').1;have hc:l.pre.holds [] {args:=args}=R4:=(pre_splitW G').2;obtain⟨d,r,rfl,h1,h2⟩:=hasAllW_cons OX;obtain rfl:=hasAllW_nil h2;obtain⟨xs,rfl,h3⟩:=hasW_list h1;obtain⟨ns,rfl⟩:=items_int h3;have hlen:ns.length<=n:=by
  unfold OpenLaw.pre at hc;have h4:(WTm.not (.lt (.lit (.int (n:Int))) (.len (.arg 0)))).holds [] {args:=[.list (ns.map .int)]}=R4:=by
   have h4:=(holds_andW hc).1;rw[hn]at h4;exact h4
  have h5:=condW_of h4 (w_not (w_lt w_lit (w_len_list (w_arg rfl))));rw[R9]at h5;refine Nat.le_of_not_lt λq=>?_;have q':(n:Int)<((ns.length:Nat):Int):=by omega
  first
   |(rw[Þ q']at h5;exact absurd h5 (by decide))
   |(simp at h5;omega)
 cases I0 with
 |cons w1 w2 =>
  cases w2;cases w1 with
  |list ho E7=>exact⟨_,_,ns,rfl,rfl,ho,ja ns _ E7,hlen⟩
theorem tm(l:OpenLaw)(args:List WData):l.row.toRowW.claim.post args (.bool R4) args=R4 :=
 postW_of (r:=l.row.toRowW) (X:=(R4==R4))
  (show ZH [] (.bool R4) .bool=R4 by first|rfl|decide|simp[ZH,WShape.arms,WShape.armsAll])
  (show(WTm.eq .res (.lit (.bool R4))).value [] {args:=args,res:=RY (.bool R4),after:=args}=RY (.bool (R4==R4)) from w_eq_bool (w_res rfl) w_lit) rfl
theorem om{l:OpenLaw}
  (hn:l.most=RY n) (H0:d.params.defaults=[])
  (Vj:∀(w:T1) (s₀ s₁:Sm) (mg mb:Str->Option Sb) (fa:Sr) (o:Obj) (pm cd doc:Sb) (a:Sr) (vs:List Sb) (ns:List Int),
   Ground q loose [] XP w s₀ mg mb s₁.heap->YP w s₁.heap ->
   s₁.heap.get? fa=RY o->o.data=.func (docDef d.name d.params d.body d.scope pm cd doc)->s₁.heap.CodeRec cd d.name->mg d.name=RY (.ref fa) ->
   s₁.heap.get? a=RY {cls:=.type "list",data:=.seq vs.toArray}->YI vs ns->ns.length<=n->s₁.gens=#[] ->
   VP (Sw l.prog w) Wj (.call (.ref fa) ⟨[.ref a],[]⟩) (λr s'=>r=.ok (.ret (.bool R4))/\OldK s₁.heap s'.heap/\s'.os=s₁.os/\Wl s'.gens) s₁) :
  WalkO q loose XP YP l.row.toRowW d [] (λf vs=>PySem.call f vs):=by
 intro w s₀ s₁ mg mb G Y fa o pm cd doc dV kV ho hd En hD JG hg args vals as G' OY KP I0 Rv;obtain rfl:dV=.none:=Dflts.none hD H0;obtain rfl:kV=.none:=Dflts.noKw hD;obtain⟨a,vs,ns,rfl,rfl,H9,hints,hlen⟩:=tf hn G' I0;refine enter_call (Wi (Vj w s₀ s₁ mg mb fa o pm cd doc a vs ns G Y ho (fd_plain hd) En JG H9 hints hlen hg) λr s' hq=>?_);obtain⟨rfl,h2,h3,h4⟩:=hq;exact⟨.inl ⟨.bool R4,.bool R4,[],rfl,λ_=>rfl,.bool R4,tm l _,λ_=>⟨Z2,λ_ hm=>(nomatch hm)⟩⟩,h2,h3,h4⟩
section
end
end NC
namespace L2
open PySem PySem.Spec PyProof.Rows
theorem lE:∀{vs:List Sb}{ns:List Int},YI vs ns->Vals (ns.map V.int) vs
 |_,_,.nil=>.nil
 |_,_,.cons n t h=>.cons ⟨t,rfl⟩ (lE h)
def Ad(H:Hp):Prop:=∀b,H b=R3\/∃o xs,H b=RY (.F4 o (.lst xs))
theorem uQ{K:PySem.W.Frag}
  (KX:K.In s₁.heap) (E3:s₁.heap.Ns Tw mg) (hb:s₁.heap.Ns Wk mb) (OZ:∀x:Str,x≠"__name__"->mb x=Uv x) (LV:s₁.heap.NoLimit) (hg:s₁.gens=#[])
  (ha:s₁.heap.get? a=RY {cls:=.type "list",data:=.seq vs.toArray}) (hi:YI vs ns) (hl:ns.length<=R6) (hr:gh k Wj)
  (F:∀base:Ua,K.In base->base.Ns Tw mg->oh P w K mg base CX k fa fd [x] sp) (JH:∀(s:Sm) (u:Sb),YE s fd ⟨[u],[]⟩ [(x,u)])
  (FV:∀H:Hp,Ad H->Eg K H a (ns.map V.int)->sp [.ref a] H (λv _=>v=.bl R4) λ_ _ _=>False)
  (LW:∀H e s',CX [] H s₁ (λ_ _ _=>False) e s'->False) :
  VP (Sw P w) Wj (.call (.ref fa) ⟨[.ref a],[]⟩) (λr s'=>r=.ok (.ret (.bool R4))/\OldK s₁.heap s'.heap/\s'.os=s₁.os/\Wl s'.gens) s₁:=by
 have rv:=lE hi;have LX:=hi.length;have core:∀H:Hp,Ad H->Eg K H a (ns.map V.int)->EA P w H s₁.heap->(∀b,H b≠R3->b=a)->(H a≠R3->K.lookup a=R3) ->
   VP (Sw P w) Wj (.call (.ref fa) ⟨[.ref a],[]⟩) (λr s'=>r=.ok (.ret (.bool R4))/\OldK s₁.heap s'.heap/\s'.os=s₁.os/\Wl s'.gens) s₁:=by
  intro H hO hS DN hA hK;have jm:∀{b:Sr} {o:Obj},s₁.heap.get? b=RY o->H b=R3->(mw s₁.heap H).get? b=RY o:=λe n=>uu e n;have JC:∀{b:Sr} {o:Obj} {es:Array DictEntry} {ep:Nat},s₁.heap.get? b=RY o->o.data=.dict es ep->H b=R3:=λ{b o es ep} e d=>by
   cases q:H b with
   |none=>rfl
   |some u =>
    have e':b=a:=hA b (by rw[q];simp);subst e';rw[ha]at e;cases e;have d':Data.seq vs.toArray _=Data.dict es ep:=d;cases d'
  have KQ:∀{b:Sr} {m:Str->Option Sb},s₁.heap.Ns b m->(mw s₁.heap H).Ns b m:=λ{b m} ⟨o,es,ep,e,d,r⟩=>⟨o,es,ep,jm e (JC e d),d,r⟩
  have ND:K.In (mw s₁.heap H):=λb o e=>jm (KX b o e) (by
   cases q:H b with
   |none=>rfl
   |some u =>
    have e':b=a:=hA b (by rw[q];simp);subst e';rw[hK (by rw[q];simp)]at e;cases e)
  have hM:Mod K mg (mw s₁.heap H):=⟨ND,KQ E3,⟨mb,KQ hb,OZ⟩,let ⟨mc,h1,h2⟩:=LV;⟨mc,KQ h1,h2⟩⟩
  have e0:xq P w K mg (mw s₁.heap H) Wj [] s₁ H:=⟨rfl,hM,λb o e=>xc e,X6 (sV _ _),trivial,λb hb=>absurd (show b∈([]:List Sr) from hb) (by simp),DN,.of_eq hg⟩
  refine Wi ((F _ ND (KQ E3)).run Wj [] s₁ H ⟨[.ref a],[]⟩ [.ref a] [.ref a] _ _ hr e0 (JH s₁ (.ref a)) (.cons rfl .nil) (FV H hO hS)) λr s' h=>?_;cases r with
  |error e=>exact(LW H e s' h).elim
  |ok fl =>
   cases fl with
   |ret u =>
    obtain⟨v,H',os,bare,un,LY,r',q⟩:=h;have q':v=.bl R4:=q;subst q';obtain rfl:u=Uz R4:=r';refine⟨rfl,OldK.of_keep λb o e=>?_,os,bare⟩;cases q:H b with
    |none=>exact un.keep b o e q (by intro z;exact absurd (show b∈([]:List Sr) from z) (by simp)) (by simp)
    |some u =>
     rcases hO b with z|⟨ob,xs,z⟩
     ·rw[q]at z;cases z
     ·have z2:=un.E1 b ob _ z;obtain⟨e1,_⟩:=DN b _ z;obtain⟨e2,_⟩:=LY b _ z2;rw[e]at e1;cases e1;exact e2
   |_=>exact UR h
 cases hk:K.lookup a with
 |some o =>
  have e:=KX a o hk;rw[ha]at e;cases e;refine core (λ_=>R3) (λ_=>.inl rfl) (.inr ⟨_,vs.toArray,_,hk,rfl,rfl,rfl,by rw[Ss,LX];exact hl,by simpa using rv⟩) (λb u z=>by have z':(R3:Option HO)=RY u:=z;cases z') (λb z=>absurd rfl z) λz=>absurd rfl z
 |none =>
  refine core (λb=>if b=a then RY (.F4 {cls:=.type "list",data:=.seq vs.toArray} (.lst (ns.map V.int))) else R3) (λb=>?_) (.inl (.inr ⟨{cls:=.type "list",data:=.seq vs.toArray},Ú rfl⟩)) (λb u z=>?_) (λb z=>?_) λ_=>hk
  ·by_cases hb:b=a
   ·exact .inr ⟨_,_,Ú hb⟩
   ·exact .inl (Ü hb)
  ·by_cases hb:b=a
   ·have z':=(Ú hb).symm.trans z;cases z';subst hb;exact⟨ha,by rw[R9];exact hl,vs,_,rv,ha⟩
   ·have z':=(Ü hb).symm.trans z;cases z'
  ·by_cases hb:b=a
   ·exact hb
   ·exact absurd (Ü hb) z
theorem xy{l:PySem.W.OpenLaw}{K:YB->PySem.W.Frag}{CX:T1->IY}{sp:T1->Sp}
  (hn:l.most=RY n) (O0:n<=R6) (H0:d.params.defaults=[]) (hr:gh k Wj)
  (hY:∀(w:T1) (h:Ua),YP w h->(K w.params).In h)
  (F:∀(w:T1) (mg:Str->Option Sb) (fa:Sr) (h:Ua),(K w.params).In h->h.Ns Tw mg->mg d.name=RY (.ref fa) ->
   ∃fd:Wc,(∀(s:Sm) (u:Sb),YE s fd ⟨[u],[]⟩ [(x,u)]) /\
    ∀base:Ua,(K w.params).In base->base.Ns Tw mg->oh l.prog w (K w.params) mg base (CX w) k fa fd [x] (sp w))
  (FV:∀(w:T1) (H:Hp) (a:Sr) (ns:List Int),ns.length<=n->Ad H->Eg (K w.params) H a (ns.map V.int)->sp w [.ref a] H (λv _=>v=.bl R4) λ_ _ _=>False)
  (LW:∀(w:T1) (H:Hp) (s:Sm) (e:Sb) (s':Sm),CX w [] H s (λ_ _ _=>False) e s'->False) :
  PySem.W.WalkO q loose XP YP l.row.toRowW d [] (λf vs=>PySem.call f vs):=by
 refine NC.om hn H0 λw s₀ s₁ mg mb fa o pm cd doc a vs ns G Y ho hd En JG H9 hints hlen hg=>?_;have KX:=hY w _ Y;obtain⟨fd,hb,hF⟩:=F w mg fa _ KX G.T.g JG;exact uQ KX G.T.g G.T.b G.T.builtins G.T.nolimit hg H9 hints (TX hlen O0) hr hF hb (λH hO hS=>FV w H a ns hlen hO hS) λH e s'=>LW w H s₁ e s'
def fA(s:Vt):Arguments:=match s with
 |.FunctionDef _ a _ _ _ _ _ _ _ _=>a
 |_=>{posonlyargs:=[],args:=[],vararg:=R3,kwonlyargs:=[],kw_defaults:=[],kwarg:=R3,defaults:=[]}
def cE(s:Vt):List Vt:=match s with
 |.FunctionDef _ _ b _ _ _ _ _ _ _=>b
 |_=>[]
def aT(s:Vt):UI:=match s with
 |.FunctionDef _ _ _ _ _ _ sc _ _ _=>sc
 |_=>{kind:=.function,names:=[],isGenerator:=R5,isCoroutine:=R5}
abbrev Hz:IY:=λ_ _ _ _ _ _=>False
abbrev E0:XK:=λ_ _ _=>False
theorem B7:Passes Hz X E0:=λ_ _ _ _ _ _ _ h=>h.elim
structure H_(K:PySem.W.Frag)(x qual:Str)(st:Vt)(f:Sr)(fd:Wc):Prop where
 ex:∃(oc:Sb) (od:Option Sr) (kV doc pm:Sb) (an:Option Sr) (EL ct:Sb) (IZ:Array (Option Sb)),
  fd=PySem.W.fnOf x qual (fA st) (cE st) (aT st) .none kV doc pm an EL ct/\K.lookup f=RY ⟨oc,od,.func fd,IZ⟩/\PySem.W.codeIn K EL qual=R4
 kp:PySem.W.keepIn K (.ref f)=R4
section
variable{P:Tu}{w:T1}{K:PySem.W.Frag}{mg:Str->Option Sb}{base:Ua}
theorem H_.ok{st:Vt}(F:H_ K x qual st f fd)(S:dX N ps (aT st))(len:∀vs H Q E,sp vs H Q E->vs.length=ps.length)
  (Gv:∀(EL:Sb) (A:UT) (outer:List Env) (s:Sm) (H:Hp) (vs:List V) (Q:VK) (E:XK),gh k (A.deeper (WH qual (aT st) s.heap.objs.size f EL))->sp vs H Q E ->
   ∃t,EE (qb Hz P w K mg base N qual (aT st) f EL A outer s H E).Jx (cE st) t/\t {nx:=λ_ H'=>Q .DR H',rt:=Q} (start N vs) H):oh P w K mg base Hz (k+1) f fd ps sp:=by
 obtain⟨oc,od,kV,doc,pm,an,EL,ct,IZ,rfl,lk,En⟩:=F.ex;refine B0 lk En S len λA outer s H vs Q E hr FV=>?_;obtain⟨t,h,q⟩:=Gv EL A outer s H vs Q E hr FV;exact⟨t,h.Jx,q⟩
theorem Ae{st:Vt}{kV doc pm EL ct:Sb}(l:K.lookup f=RY ⟨oc,od,.func (PySem.W.fnOf x qual (fA st) (cE st) (aT st) .none kV doc pm an EL ct),IZ⟩)
  (c:PySem.W.codeIn K EL qual=R4) (k:PySem.W.keepIn K (.ref f)=R4):H_ K x qual st f (PySem.W.fnOf x qual (fA st) (cE st) (aT st) .none kV doc pm an EL ct):=⟨⟨oc,od,kV,doc,pm,an,EL,ct,IZ,rfl,l,c⟩,k⟩
end
theorem tp(h:n<=1000):n<R6:=Nat.lt_of_le_of_lt h (by decide)
section
end
def Af(H H':Hp):Prop:=∀b o,H b=RY o->H' b=RY o
section
variable{κ:Type}[DecidableEq κ]
def cP(kvs:List (κ×V))(k:κ):Option V:=(kvs.find? λkv=>Sa (kv.1=k)).map (·.2)
def putK(kvs:List (κ×V))(k:κ)(v:V):List (κ×V) :=
 if (kvs.any λkv=>Sa (kv.1=k))=R4 then kvs.map (λkv=>if kv.1=k then(kv.1,v) else kv) else kvs++[(k,v)]
theorem dI{p:κ×V}{k:κ}(e:p.1=k):cP (p::r) k=RY p.2:=by simp[cP,Um,e]
theorem dJ{p:κ×V}{k:κ}(e:¬p.1=k):cP (p::r) k=cP r k:=by simp[cP,Um,e]
theorem gJ(k:κ):∀kvs:List (κ×V),(kvs.any λkv=>Sa (kv.1=k))=(cP kvs k).isSome
 |[]=>rfl
 |p::r=>by
  rw[Ww];by_cases e:p.1=k
  ·simp only[dI e,Þ e,Bool.true_or,Option.isSome_some]
  ·rw[dJ e,Ý e,Bool.false_or];exact gJ k r
theorem iH(kvs:List (κ×V))(k:κ)(v:V):(putK kvs k v).length<=kvs.length+1:=by
 unfold putK;split
 ·rw[R9];omega
 ·rw[Sy,SE,V9];omega
theorem uR{k:κ}(v:V)(h:cP kvs k=R3):putK kvs k v=kvs++[(k,v)]:=by
 unfold putK;rw[gJ,h];exact Ü (by decide)
theorem i_.dM(r:i_ o u):o.isSome=u.isSome:=by
 cases o with
 |none=>cases u with
  |none=>rfl
  |some _=>exact(show False from r).elim
 |some _=>cases u with
  |none=>exact(show False from r).elim
  |some _=>rfl
theorem i_.getD(r:i_ o u)(rd:RelV d d'):RelV (o.getD d) (u.getD d'):=by
 cases o with
 |none=>cases u with
  |none=>exact rd
  |some _=>exact(show False from r).elim
 |some _=>cases u with
  |none=>exact(show False from r).elim
  |some _=>exact r
theorem KV.val(r:KV kvs vs)(k:κ):i_ (cP kvs k) (Xc vs k):=by
 unfold KV at r;induction r with
 |nil=>exact Wz
 |@cons p q ps qs h t ih =>
  obtain⟨h1,h2⟩:=h;by_cases e:p.1=k
  ·have e':q.1=k:=h1.symm.trans e;have b:Xc (q::qs) k=RY q.2:=by simp[Xc,Um,e']
   rw[dI e,b];exact h2
  ·have e':¬q.1=k:=λz=>e (h1.trans z);have b:Xc (q::qs) k=Xc qs k:=by simp[Xc,Um,e']
   rw[dJ e,b];exact ih
theorem KV.any(r:KV kvs vs)(k:κ):(kvs.any λkv=>Sa (kv.1=k))=vs.any λkv=>Sa (kv.1=k):=by
 unfold KV at r;induction r with
 |nil=>rfl
 |cons h t ih=>rw[Ww,Ww,ih,h.1]
theorem KV.Ag(r:KV kvs vs)(k:κ)(ry:RelV y u):
  KV (kvs.map λkv=>if kv.1=k then(kv.1,y) else kv) (vs.map λkv=>if kv.1=k then(kv.1,u) else kv):=by
 unfold KV at r ⊢;induction r with
 |nil=>exact .nil
 |@cons p q ps qs h t ih =>
  rw[Sd,Sd];refine .cons ?_ ih;obtain⟨h1,h2⟩:=h;by_cases e:p.1=k
  ·rw[Ú e,Ú (h1.symm.trans e)];exact⟨h1,ry⟩
  ·rw[Ü e,Ü (λz=>e (h1.trans z))];exact⟨h1,h2⟩
theorem KV.put(r:KV kvs vs)(k:κ)(ry:RelV y u):KV (putK kvs k y) (Æ vs k u):=by
 unfold putK Æ;rw[r.any k];by_cases e:(vs.any λkv=>Sa (kv.1=k))=R4
 ·rw[Ú e,Ú e];exact r.Ag k ry
 ·rw[Ü e,Ü e];exact Paired.snoc r ⟨rfl,ry⟩
theorem KV.length(r:KV kvs vs):kvs.length=vs.length:=Paired.length r
end
theorem lF(r:RelV (kV k) u):(aJ P w).is k u=R4:=by
 cases k with
 |inl i=>obtain⟨t,e⟩:=(show ∃t,u=Yz i t from r);subst e;exact nY P w i t
 |inr x=>obtain⟨t,e⟩:=(show ∃t,u=Tt x t from r);subst e;exact nZ P w x t
theorem lG:∀{ks:List Key}{us:List Sb},Vals (ks.map kV) us->ItemsAre (aJ P w) ks us
 |[],_,r=>by rw[TV]at r;cases r;exact .nil
 |k::ks,_,r=>by
  rw[Sd]at r;cases r with
  |cons h t=>exact .cons (lF h) (lG t)
abbrev KT(H:Hp):List (List Key×V)->List (List Key×Sr×Sb)->Prop:=Paired λp q=>p.1=q.1/\H q.2.1=RY (.tup (p.1.map kV))/\RelV p.2 q.2.2
theorem KT.val(r:KT H kvs xs)(k:List Key):i_ (cP kvs k) ((WE xs k).map (·.2)):=by
 induction r with
 |nil=>exact Wz
 |@cons p q ps qs h t ih =>
  obtain⟨h1,_,h2⟩:=h;by_cases e:p.1=k
  ·have e':q.1=k:=h1.symm.trans e;have b:WE (q::qs) k=RY q.2:=by simp[WE,Um,e']
   rw[dI e,b];exact h2
  ·have e':¬q.1=k:=λz=>e (h1.trans z);have b:WE (q::qs) k=WE qs k:=by simp[WE,Um,e']
   rw[dJ e,b];exact ih
theorem KT.Ag(r:KT H kvs xs)(k:List Key)(ry:RelV y u):
  KT H (kvs.map λkv=>if kv.1=k then(kv.1,y) else kv) (xs.map (putAt k u)):=by
 induction r with
 |nil=>exact .nil
 |@cons p q ps qs h t ih =>
  rw[Sd,Sd];refine .cons ?_ ih;obtain⟨h1,h2,h3⟩:=h;unfold putAt;by_cases e:p.1=k
  ·rw[Ú e,Ú (h1.symm.trans e)];exact⟨h1,h2,ry⟩
  ·rw[Ü e,Ü (λz=>e (h1.trans z))];exact⟨h1,h2,h3⟩
theorem KT.put(r:KT H kvs xs)(k:List Key)(hb:H b=RY (.tup (k.map kV)))(ry:RelV y u):
  KT H (putK kvs k y) (storedH xs k b u):=by
 have e:(kvs.any λkv=>Sa (kv.1=k))=(WE xs k).isSome:=by
  rw[gJ,(r.val k).dM,VJ]
 unfold putK storedH;rw[e];by_cases q:(WE xs k).isSome=R4
 ·rw[Ú q,Ú q];exact r.Ag k ry
 ·rw[Ü q,Ü q];exact Paired.snoc r ⟨rfl,hb,ry⟩
theorem KT.keeps(r:KT H kvs xs)(ht:∀b ys,H b=RY (.tup ys)->H' b=RY (.tup ys)):KT H' kvs xs :=
 Paired.zH r λ_ _ z=>⟨z.1,ht _ _ z.2.1,z.2.2⟩
section
theorem zg(ok:EA P w H h)(e:Rd H a u):bK P w H h a u:=e.ok ok
theorem jD(ok:EA P w H h)(e:Rd H a (.dK kvs)):kvs.length<=R6/\(a==TQ)=R5/\∃vs,KV kvs vs/\h.DictOf (aJ P w) a vs :=
 show bK P w H h a (.dK kvs) from zg ok e
theorem uS(ok:EA P w H h)(e:H a=RY (.dK kvs)):kvs.length<=R6/\(a==TQ)=R5/\∃vs,KV kvs vs/\h.DictOf (aJ P w) a vs:=jD ok (.inl e)
theorem ig(ok:EA P w H h)(e:H a=RY (.tup (ks.map kV))):(WK (aJ P w)).is h ks a:=by
 obtain⟨_,its,r,o,h1,h2,n,h3⟩:=(show bK P w H h a (.tup (ks.map kV)) from ok a _ e)
 exact⟨o,its.toArray,n,h1,h2,h3,by simpa using lG r⟩
theorem jE(ok:EA P w H h)(e:Rd H a (.dT kvs)):kvs.length<=R6/\(a==TQ)=R5 /\
  ∃xs,KT H kvs xs/\h.DictOfH (WK (aJ P w)) a xs:=by
 obtain⟨z,y,xs,r,o,es,ep,h1,h2,h3,h4,h5⟩:=(show bK P w H h a (.dT kvs) from zg ok e)
 refine⟨z,y,xs,r,o,es,ep,h1,h2,h3,h4,λx hx=>?_,h5⟩;have all:∀{l:List (List Key×V)} {m:List (List Key×Sr×Sb)},KT H l m->∀x∈m,(WK (aJ P w)).is h x.1 x.2.1:=by
  intro l m q;induction q with
  |nil=>intro x hx;exact nomatch hx
  |@cons p q ps qs hq t ih =>
   intro x hx;rcases Sn.mp hx with e|hx
   ·subst e;exact ig ok (by rw[<-hq.1];exact hq.2.1)
   ·exact ih x hx
 exact all r x hx
theorem B8(ok:EA P w H h)(e:H a=RY (.dT kvs)):kvs.length<=R6/\(a==TQ)=R5 /\
  ∃xs,KT H kvs xs/\h.DictOfH (WK (aJ P w)) a xs:=jE ok (.inl e)
end
def c7(H:Hp)(a:Sr)(y:V)(r:Option V):Prop :=
 (∃kvs k,Rd H a (.dK kvs)/\y=kV k/\r=cP kvs k)\/∃kvs k b,Rd H a (.dT kvs)/\y=.ref b/\H b=RY (.tup (k.map kV))/\r=cP kvs k
def tq(H:Hp)(a:Sr)(y v:V)(H':Hp):Prop :=
 (∃kvs k,H a=RY (.dK kvs)/\y=kV k/\kvs.length<R6/\H'=upd H a (.dK (putK kvs k v))) \/
 ∃kvs k b,H a=RY (.dT kvs)/\y=.ref b/\H b=RY (.tup (k.map kV))/\kvs.length<R6/\H'=upd H a (.dT (putK kvs k v))
theorem c7.k{H:Hp}{a:Sr}{kvs:List (Key×V)}{k:Key}(e:H a=RY (.dK kvs)):c7 H a (kV k) (cP kvs k):=.inl ⟨kvs,k,.inl e,rfl,rfl⟩
theorem tq.k{H:Hp}{a:Sr}{kvs:List (Key×V)}{k:Key}{v:V}(e:H a=RY (.dK kvs))(hl:kvs.length<R6):tq H a (kV k) v (upd H a (.dK (putK kvs k v))):=.inl ⟨kvs,k,e,rfl,hl,rfl⟩
section
theorem Inv.big(I:Inv X pins σ H s):TQ<s.heap.objs.size:=by
 have h:Tw<s.heap.objs.size:=(I.mod.glob.keeps I.bk).lt;exact VE (by decide) h
theorem lH(hu:A.units+1<Tx)(I:Inv X pins σ H s)(g:c7 H a y (RY v))(ry:RelV y u)(h:∀w' s',Inv X pins σ H s'->RelV v w'->Q w' s'):
  Se (Sw X.prog X.w) A (VO (.ref a) u) Q E s:=by
 rcases g with⟨kvs,k,e,ey,l⟩|⟨kvs,k,b,e,ey,eb,l⟩
 ·subst ey;obtain⟨z,hd,vs,rel,dd⟩:=jD I.DN e;obtain⟨w',hw,FF⟩:=i_.some_of (v:=v) (o:=Xc vs k) (by rw[l];exact rel.val k);exact wpAny_getItem_of (lF ry) dd.mapOf hw (h w' _ (I.tok _) FF)
 ·subst ey;cases(show u=SD b from ry);obtain⟨z,hd,xs,rel,dd⟩:=jE I.DN e;obtain⟨w',hw,FF⟩:=i_.some_of (v:=v) (o:=(WE xs k).map (·.2)) (by rw[l];exact rel.val k);obtain⟨p,hp,O1⟩:=Si.mp hw;refine wpAny_getItem_heap (Vd hu) (ig I.DN eb) dd hp ?_;rw[O1];exact h w' _ (I.tok _) FF
theorem B9(hu:A.units+1<Tx)(I:Inv X pins σ H s)(g:c7 H a y o)(ry:RelV y u)(h:∀s',Inv X pins σ H s'->Q (.bool o.isSome) s'):
  Se (Sw X.prog X.w) A (Ud .In u (.ref a)) Q E s:=by
 rcases g with⟨kvs,k,e,ey,l⟩|⟨kvs,k,b,e,ey,eb,l⟩
 ·subst ey;obtain⟨z,hd,vs,rel,dd⟩:=jD I.DN e;refine wpAny_in_of (lF ry) hd dd.mapOf ?_;rw[<-(rel.val k).dM,<-l];exact h _ (I.tok _)
 ·subst ey;cases(show u=SD b from ry);obtain⟨z,hd,xs,rel,dd⟩:=jE I.DN e;refine wpAny_in_heap (Vd hu) (ig I.DN eb) hd dd ?_;have q:=(rel.val k).dM;rw[VJ]at q;rw[<-q,<-l];exact h _ (I.tok _)
theorem rq(hu:A.units+1<Tx)(I:Inv X pins σ H s)(g:c7 H a y o)(ry:RelV y u)(h:∀s',Inv X pins σ H s'->Q (.bool (!o.isSome)) s'):
  Se (Sw X.prog X.w) A (Ud .NotIn u (.ref a)) Q E s:=by
 rcases g with⟨kvs,k,e,ey,l⟩|⟨kvs,k,b,e,ey,eb,l⟩
 ·subst ey;obtain⟨z,hd,vs,rel,dd⟩:=jD I.DN e;refine wpAny_notIn_of (lF ry) hd dd.mapOf ?_;rw[<-(rel.val k).dM,<-l];exact h _ (I.tok _)
 ·subst ey;cases(show u=SD b from ry);obtain⟨z,hd,xs,rel,dd⟩:=jE I.DN e;refine ZY (Vd hu) (ig I.DN eb) hd dd ?_;have q:=(rel.val k).dM;rw[VJ]at q;rw[<-q,<-l];exact h _ (I.tok _)
theorem rA(I:Inv X pins σ H s)(mu:Jr (H a))(hs:T5 a s.heap h')(he:∃q,h'.get? a=RY q)(new:bK X.prog X.w (upd H a ob) h' a ob):
  Inv X pins σ (upd H a ob) {s with heap:=h',toks:=t' } :=
 I.write (x:=a) (e:=a) mu (.inl rfl) (λb q hb z=>(hs.2 b hb).trans z) he new
theorem Ah(z:kvs.length<=R6)(hd:(a==TQ)=R5)(rel:KV kvs vs)(dd:h'.DictOf (aJ P w) a vs):
  bK P w H' h' a (.dK kvs):=⟨z,hd,vs,rel,dd⟩
theorem tu(hu:A.units+1<Tx)(I:Inv X pins σ H s)(g:tq H a y v H')(ry:RelV y u)(rv:RelV v r)(h:∀s',Inv X pins σ H' s'->Q () s'):
  Se (Sw X.prog X.w) A (Wg (.ref a) u r) Q E s:=by
 rcases g with⟨kvs,k,e,ey,l,eH⟩|⟨kvs,k,b,e,ey,eb,l,eH⟩
 ·subst ey eH;obtain⟨z,hd,vs,rel,dd⟩:=uS I.DN e;have hz:vs.length<=R6:=by rw[<-rel.length];exact z
  have hl:(putK kvs k v).length<=R6:=by have:=iH kvs k v;omega
  refine wpAny_setItem_pairs (hsz:=hz) (lF ry) dd λh' KR hs=>h _ ?_;have he:∃q,h'.get? a=RY q:=let ⟨q,_,_,hq,_⟩:=KR;⟨q,hq⟩;exact rA I (by rw[e];exact Wz) hs he (Ah hl hd (rel.put k rv) KR)
 ·subst ey eH;cases(show u=SD b from ry);obtain⟨z,hd,xs,rel,dd⟩:=B8 I.DN e;have hz:xs.length<=R6:=by rw[<-Paired.length rel];exact z
  have hl:(putK kvs k v).length<=R6:=by have:=iH kvs k v;omega
  refine Zj (hsz:=hz) (Vd hu) (ig I.DN eb) dd λh' KR hs=>h _ ?_;obtain⟨q,es,ep,hq,h2,h3,h4,_,h5⟩:=KR;refine rA I (by rw[e];exact Wz) hs ⟨q,hq⟩ ⟨hl,hd,_,(rel.put k eb rv).keeps λc ys ec=>?_,q,es,ep,hq,h2,h3,h4,h5⟩;rw[ao (ur ec e (λz=>nomatch z))];exact ec
end
section
end
def Ai(i:Td):Prop:=∀ov iv,XE i R5 ov iv=operate [ov,iv] (VO ov iv)
theorem xA{T id:String}
  (hl:X0 (.type T) "__getitem__"=pure (RY (.builtin id))) (hs:Ai slice)
  (h:Se (Sw prog w) A (T2 value env) (λo s₁=>Se (Sw prog w) A (T2 slice env) (λi s₂=>s₂.TypeIs o T/\Se (Sw prog w) A (VO o i) Q E s₂) E s₁) E s) :
  Se (Sw prog w) A (T2 (.Subscript value slice pos) env) Q E s:=by
 refine Zt (Th h (λo s₁ h₁=>Th h₁ (λi s₂ h₂=>?_) λ_ _ x=>x) λ_ _ x=>x);obtain⟨hT,h₂⟩:=h₂;unfold W3;refine RZ ?_;rw[getitemInPython_of_ne hT.not_modules];refine RZ (U' hT hl ?_);have fin:Se (Sw prog w) A (XE slice R5 o i) (λr s₃=>Se (Sw prog w) A (letTemporaryGo value o r >>= λ_=>pure r) Q E s₃) E s₂:=by
  rw[hs o i];exact wpAny_operating (Th h₂ (λr s₃ h₃=>RZ (wpAny_letTemporaryGo (R_ h₃))) λ_ _ x=>x)
 first
  |exact R_ (RZ fin)
  |exact RZ (R_ (RZ fin))
  |exact RZ fin
theorem iI(I:Inv X pins σ H s)(g:c7 H a y o):s.TypeIs (.ref a) "dict":=by
 rcases g with⟨kvs,k,e,_,_⟩|⟨kvs,k,b,e,_,_,_⟩
 ·obtain⟨_,_,vs,_,dd⟩:=jD I.DN e;exact dd.typeIs
 ·obtain⟨_,_,xs,_,dd⟩:=jE I.DN e;exact dd.typeIs
def B_(td ty:TE):TE:=λσ H Q=>td σ H λx H1=>ty σ H1 λy H2=>∃a v,x=.ref a/\c7 H2 a y (RY v)/\Q v H2
def Dw(ty td:TE):TE:=λσ H Q=>ty σ H λy H1=>td σ H1 λx H2=>∃a o,x=.ref a/\c7 H2 a y o/\Q (.bl o.isSome) H2
def xB(ty td:TE):TE:=λσ H Q=>ty σ H λy H1=>td σ H1 λx H2=>∃a o,x=.ref a/\c7 H2 a y o/\Q (.bl (!o.isSome)) H2
section
theorem xC(hu:X.A.units+1<Tx)(ho:PE X o td)(hi:PE X i ty)(hs:Ai i):PE X (.Subscript o i pos) (B_ td ty):=by
 intro pins s σ H Q I h;refine xA PySem.F.slot_dict_getitem.lookup hs (DQ (ho pins s σ H _ I h) λu s1 ⟨x,H1,I1,rx,q1⟩=>DQ (hi pins s1 σ H1 _ I1 q1) λiv s2 ⟨y,H2,I2,ry,a,v,ex,g,q2⟩=>?_);subst ex;obtain rfl:u=SD a:=rx;exact⟨iI I2 g,lH hu I2 g ry λw' s3 I3 FF=>⟨v,H2,I3,FF,q2⟩⟩
theorem uT(hu:X.A.units+1<Tx)(hi:PE X i ty)(ho:PE X o td):PC X .In i o (Dw ty td):=by
 intro pins s σ H Q I h;refine DQ (hi pins s σ H _ I h) λiv s1 ⟨y,H1,I1,ry,q1⟩=>DQ (ho pins s1 σ H1 _ I1 q1) λu s2 ⟨x,H2,I2,rx,a,ov,ex,g,q2⟩=>?_;subst ex;obtain rfl:u=SD a:=rx;exact B9 hu I2 g ry λs3 I3=>⟨.bl ov.isSome,H2,I3,rfl,q2⟩
theorem lI(hu:X.A.units+1<Tx)(hi:PE X i ty)(ho:PE X o td):PC X .NotIn i o (xB ty td):=by
 intro pins s σ H Q I h;refine DQ (hi pins s σ H _ I h) λiv s1 ⟨y,H1,I1,ry,q1⟩=>DQ (ho pins s1 σ H1 _ I1 q1) λu s2 ⟨x,H2,I2,rx,a,ov,ex,g,q2⟩=>?_;subst ex;obtain rfl:u=SD a:=rx;exact rq hu I2 g ry λs3 I3=>⟨.bl (!ov.isSome),H2,I3,rfl,q2⟩
end
theorem uU(h:Ua)(hb:TQ<h.objs.size):bK P w H (h.push {cls:=.type "dict",data:=.dict #[]}) h.objs.size (.dK []) :=
 ⟨SM _,à.mpr (Te (Su hb)),[],.nil,XR h⟩
def Aj:TE:=λ_ H Q=>∀p,H p=R3->Q (.ref p) (upd H p (.dK []))
section
theorem oo:PE X (.Dict [] [] pos) Aj:=λpins s σ H Q I h =>
 ZP ⟨.ref s.heap.objs.size,_,I.laid (a:=s.heap.objs.size) (o:=.dK []) (t':=s.toks) (λ_ _ q=>R8 _ q) (Sv _) (uU s.heap I.big),rfl,h _ (I.DN.fresh (Sv _))⟩
end
structure M2(X:Cx)(o:Td)(m:Str)(apos:Pos)(e f:Td)(DK:Pos):Prop where
 base:W2 o m X.env (T2 o X.env)=T2 o X.env
 Fh:((Uk DK (SJ [e,f] X.env)).all (λx=>!x.1)&&(Wa DK (Vi [] X.env)).all (λx=>x.1.isSome)
  && Sa (([e,f]:List Td).length+([]:List Va).length+(if ([]:List Va).isEmpty then 0 else 1)<30))=R4
 line:(apos.endLine==DK.line)=R4
 trees:Uk DK (SJ [e,f] X.env)=[(R5,T2 e X.env),(R5,T2 f X.env)]
def NF(H:Hp)(a:Sr):Prop:=(∃kvs,Rd H a (.dK kvs))\/∃kvs,Rd H a (.dT kvs)
theorem Ak(I:Inv X pins σ H s)(d:NF H a):
  s.TypeIs (.ref a) "dict"/\(∀b,SD a=.ref b->∃ob,s.heap.get? b=RY ob/\ob.dict=R3)/\(a==TQ)=R5:=by
 rcases d with⟨kvs,e⟩|⟨kvs,e⟩
 ·obtain⟨_,hd,vs,_,dd⟩:=jD I.DN e;refine⟨dd.typeIs,λb q=>?_,hd⟩;cases q;obtain⟨ob,_,_,h1,h2,_⟩:=dd;exact⟨ob,h1,h2.2.1⟩
 ·obtain⟨_,hd,xs,_,dd⟩:=jE I.DN e;refine⟨dd.typeIs,λb q=>?_,hd⟩;cases q;obtain⟨ob,_,_,h1,h2,_⟩:=dd;exact⟨ob,h1,h2.2.1⟩
section
theorem Al(hu:A.units+1<Tx)(I:Inv X pins σ H s)(g:c7 H a y o)(ry:RelV y u)(rd:RelV d r)(h:∀w' s',Inv X pins σ H s'->RelV (o.getD d) w'->Q w' s'):
  Se (Sw X.prog X.w) A (Vj (.builtin "dict.get") [.ref a,u,r]) Q E s:=by
 rcases g with⟨kvs,k,e,ey,l⟩|⟨kvs,k,b,e,ey,eb,l⟩
 ·subst ey;obtain⟨z,hd,vs,rel,dd⟩:=jD I.DN e;refine Yy PySem.F.slot_dict_get dd.typeIs PySem.F.entry_dict_get (PySem.F.args_dict_get_3 _ _ _) (meets_dict_get_default (aJ X.prog X.w) a (lF ry) hd r) ⟨_,dd.mapOf,h _ _ (I.tok _) ?_⟩;rw[l];exact(rel.val k).getD rd
 ·subst ey;cases(show u=SD b from ry);obtain⟨z,hd,xs,rel,dd⟩:=jE I.DN e;refine Yy PySem.F.slot_dict_get dd.typeIs PySem.F.entry_dict_get (PySem.F.args_dict_get_3 _ _ _) (meetsH_dict_get_default (WK (aJ X.prog X.w)) a b hd r) ⟨Vd hu,k,xs,ig I.DN eb,dd,h _ _ (I.tok _) ?_⟩;rw[l];exact(rel.val k).getD rd
end
def Am(td ty tx:TE):TE:=λσ H Q=>td σ H λx H1=>∃a,x=.ref a/\NF H1 a/\ty σ H1 λy H2=>tx σ H2 λz H3=>∃o,c7 H3 a y o/\Q (o.getD z) H3
section
theorem uV(hu:X.A.units+1<Tx)(ho:PE X o td)(he:PE X e ty)(hf:PE X f tx)(m:M2 X o "get" apos e f DK):PE X (.Call (.Attribute o "get" apos) [e,f] [] DK) (Am td ty tx):=by
 intro pins s σ H Q I h;refine wpAny_Call_method m.base m.Fh m.line PySem.F.plainAttrs_dict PySem.F.slot_dict_get PySem.F.type_dict_get (DQ (ho pins s σ H _ I h) λu s1 ⟨x,H1,I1,rx,a,ex,d,q1⟩=>?_);subst ex;obtain rfl:u=SD a:=rx;obtain⟨t1,t2,_⟩:=Ak I1 d;refine⟨t1,t2,?_⟩;rw[m.trees];refine UB rfl (UP (U9 (DQ (he pins s1 σ H1 _ I1 q1) λiv s2 ⟨y,H2,I2,ry,q2⟩ =>
  U9 (DQ (hf pins s2 σ H2 _ I2 q2) λfv s3 ⟨z,H3,I3,rz,ov,g,q3⟩=>VN ?_))))
 exact Al hu I3 g ry rz λw' s4 I4 FF=>⟨_,H3,I4,FF,q3⟩
end
section
end
section
end
end L2
namespace D6
open PySem PySem.Builtin.Str PySem.StrLaws
def low(c:Nat):Bool:=Sa (97<=c)&&Sa (c<=122)
def eL(l:List Nat):Bool:=Sa (1<=l.length)&&Sa (l.length<=8)&&l.all low
theorem bV(l:List Nat):eL l=R4↔1<=l.length/\l.length<=8/\∀c∈l,97<=c/\c<=122:=by
 simp[eL,low,TL,and_assoc]
theorem dN(h:eL l=R4):47∉l:=λm=>by
 have:=((bV l).mp h).2.2 47 m;omega
theorem fB{x y:Str}(h:x.cps.toList=y.cps.toList):x=y:=by
 cases x;cases y;congr
 exact WZ.mp h
theorem ij(h:c∉x.cps.toList):S4 x ⟨#[c]⟩=(x,S5,S5):=by
 have e:=found_one x c;rw[Ý h]at e;unfold S4;cases q:T7 x ⟨#[c]⟩ 0 x.length 1 with
 |nil=>rfl
 |cons i r=>rw[q]at e;simp at e
theorem mL(x:Str)(c i:Nat):At x ⟨#[c]⟩ x.length i↔x.cps.toList[i]?=RY c:=subAt_one x c i
theorem uW(h:x.cps.toList=a++c::b)(hn:c∉a)(limit:Nat)(hl:1<=limit):∃r,T7 x ⟨#[c]⟩ 0 x.length limit=a.length::r:=by
 have EY:x.cps.toList[a.length]?=RY c:=by rw[h];simp
 rcases occ_head x ⟨#[c]⟩ limit hl with⟨_,GY⟩|⟨i,r,e,hi,LZ⟩
 ·exact absurd ((mL x c a.length).mpr EY) (GY _)
 ·have e1:=(mL x c i).mp hi;have:i=a.length:=by
   rcases Nat.lt_trichotomy i a.length with z|z|z
   ·exfalso
    rw[h,Ti z]at e1;exact hn (SY e1)
   ·exact z
   ·exact absurd ((mL x c a.length).mpr EY) (LZ _ z)
  subst this;exact⟨r,e⟩
theorem xD(h:x.cps.toList=a++c::b)(hn:c∉a):S4 x ⟨#[c]⟩=(⟨a.toArray⟩,⟨#[c]⟩,⟨b.toArray⟩):=by
 obtain⟨r,e⟩:=uW h hn 1 (Sv _);unfold S4;rw[e];have l1:(⟨#[c]⟩:Str).length=1:=rfl;have lx:x.length=a.length+1+b.length:=by
  have:=ß Tn h;simp[VI]at this ⊢;omega
 refine Xs ?_ (Xs rfl ?_)
 ·apply fB;rw[Yf,h];simp
 ·apply fB;show(strSub x (a.length+(⟨#[c]⟩:Str).length) x.length).cps.toList=_;rw[Yf,h,l1,lx];simp
theorem jF(h:c∉x.cps.toList):UH x ⟨#[c]⟩=[x]:=by
 unfold UH;split
 ·rfl
 ·rw[Ú];rcases occ_head x ⟨#[c]⟩ (x.length+1) ⋯ with⟨e,_⟩|⟨i,r,e,hi,_⟩
  ·rw[e];rfl
  ·exact absurd (SY ((mL x c i).mp hi)) h
theorem oq(c:Nat)(h:c<256)(x:Str):¬(PySem.Builtin.Str.strKind x<PySem.Builtin.Str.strKind ⟨#[c]⟩):=by
 have e:PySem.Builtin.Str.strKind ⟨#[c]⟩=1:=by simp[PySem.Builtin.Str.strKind,h]
 rw[e];unfold PySem.Builtin.Str.strKind;split
 ·omega
 ·split<;>omega
theorem ot(h:x.cps.toList=a++c::b)(hn:c∉a)(hc:c<256):∃r,UH x ⟨#[c]⟩=⟨a.toArray⟩::r:=by
 obtain⟨r,e⟩:=uW h hn (x.length+1) ⋯;have l1:(⟨#[c]⟩:Str).length=1:=rfl;have lx:x.length=a.length+1+b.length:=by
  have:=ß Tn h;simp[VI]at this ⊢;omega
 unfold UH;rw[Ü (by
  have h1:¬(x.length<(⟨#[c]⟩:Str).length):=by rw[l1];omega
  have h2:=oq c hc x;simp[h1,h2]),Ü (by rw[e];simp),partsBetween_eq,e]
 refine⟨_,ß (·::_) ?_⟩;apply fB;rw[Yf,h];simp
def il(i:Int):Str:=Vf (XY i)
def fZ:Str:=⟨#[47]⟩
end D6
namespace L2
open PySem PySem.Spec PyProof.Rows
def bp(env:Env):List (Str×U5)->List (Str×Sr)->List (Str×Sr)
 |[],cs=>cs
 |(n,k)::r,cs=>bp env r (if k==.free then(match env.cells.lookup n with|some a=>(n,a)::cs|none=>cs) else cs)
theorem dO(h:∀y∈scope.names,y.2=.free->∃a,env.cells.lookup y.1=RY a):closureFor scope env=pure (bp env scope.names []):=by
 unfold closureFor;generalize scope.names=names at h
 suffices H:∀cs,(forIn names cs (λ(x:Str×U5) (r:List (Str×Sr))=>if (x.2==UA)=R4 then do let a <-cellOf env x.1;pure (U1 ((x.1,a)::r)) else pure (U1 r)):Sem (List (Str×Sr)))=pure (bp env names cs) by
  have:=H [];exact ß (λ(m:Sem (List (Str×Sr)))=>m >>= pure) this
 induction names with
 |nil=>intro cs;rfl
 |cons y r ih =>
  intro cs;obtain⟨n,k⟩:=y;rw[List.forIn_cons];have NG:=ih λy hy=>h y (SS _ hy);by_cases hk:(k==UA)=R4
  ·obtain⟨a,ha⟩:=h (n,k) SR (by simpa using hk);have O2:env.cells.lookup n=RY a:=ha;simp only[hk,if_true,cellOf,O2,bp];exact NG _
  ·simp only[hk,á,bp];exact NG _
theorem dY:∀(names:List (Str×U5)) (cs:List (Str×Sr)),(∀n c,cs.lookup n=RY c->env.cells.lookup n=RY c)->∀n c,(bp env names cs).lookup n=RY c->env.cells.lookup n=RY c
 |[],_,h=>h
 |(m,k)::r,cs,h=>by
  unfold bp;refine dY r _ λn c e=>?_;by_cases hk:(k==UA)=R4
  ·rw[Ú hk]at e;cases q:env.cells.lookup m with
   |none=>rw[q]at e;exact h n c e
   |some a =>
    rw[q]at e;simp only[Tc]at e;cases hx:n==m with
    |true =>
     rw[hx]at e;have e':n=m:=by simpa using hx
     subst e';simp only at e;rw[q];exact e
    |false=>rw[hx]at e;exact h n c e
  ·rw[Ü hk]at e;exact h n c e
theorem iJ(ha:env.cells.lookup n=RY a):∀(names:List (Str×U5)) (cs:List (Str×Sr)),cs.lookup n=RY a->(bp env names cs).lookup n=RY a
 |[],_,h=>h
 |(m,k)::r,cs,h=>by
  unfold bp;refine iJ ha r _ ?_;by_cases hk:(k==UA)=R4
  ·rw[Ú hk];cases q:env.cells.lookup m with
   |none=>exact h
   |some b =>
    simp only[Tc];cases hx:n==m with
    |true =>
     have e':n=m:=by simpa using hx
     subst e';rw[ha]at q;cases q;rfl
    |false=>exact h
  ·rw[Ü hk];exact h
theorem gk(ha:env.cells.lookup n=RY a):∀(names:List (Str×U5)) (cs:List (Str×Sr)),(n,UA)∈names->(bp env names cs).lookup n=RY a
 |[],_,h=>by cases h
 |(m,k)::r,cs,h=>by
  unfold bp;rcases Sn.mp h with e|e
  ·cases e;refine iJ ha r _ ?_;rw[Ú (by decide),ha];simp[Tc]
  ·exact gk ha r _ e
theorem bF{env:Env}:∀{names:List (Str×U5)}{x:Str}{k:U5},
  (names.map λ(n,k)=>if (k==UA&&env.scope.kind==.function&&env.kindOf n==RY .cell) then(n,NameKind.cell) else(n,k)).lookup x=RY k ->
  names.lookup x=RY k\/(k=.cell/\names.lookup x=RY .free)
 |[],_,_,h=>by simp at h
 |(n,k0)::r,x,k,h=>by
  have ih:=@bF env r x k;rw[Sd]at h;by_cases hc:(k0==UA&&env.scope.kind==.function&&env.kindOf n==RY .cell)=R4
  ·simp only[Ú hc,Tc]at h;cases hx:x==n with
   |true =>
    rw[hx]at h;have hf:k0=.free:=by
     have:=(Uq.mp (Uq.mp hc).1).1;simpa using this
    refine .inr ⟨by simpa using h.symm,by simp[Tc,hx,hf]⟩
   |false =>
    rw[hx]at h;rcases ih h with z|⟨z1,z2⟩
    ·exact .inl (by simp[Tc,hx,z])
    ·exact .inr ⟨z1,by simp[Tc,hx,z2]⟩
  ·simp only[Ü hc,Tc]at h;cases hx:x==n with
   |true=>rw[hx]at h;exact .inl (by simpa[Tc,hx] using h)
   |false =>
    rw[hx]at h;rcases ih h with z|⟨z1,z2⟩
    ·exact .inl (by simp[Tc,hx,z])
    ·exact .inr ⟨z1,by simp[Tc,hx,z2]⟩
def EB(X:Cx)(N:List Str)(scope:UI)(C:Sr)(s:Sm)(H:Hp)(ex:List Sr):Cx where
 prog:=X.prog
 w:=X.w
 K:=X.K
 mg:=X.mg
 base:=X.base
 A:=X.A
 N:=N
 s₀:=s
 H₀:=H
 env:=Xi scope (bp X.env scope.names []) C X.env
 outer:=X.stack
 stack:=X.stack
 ex:=ex
 fn:=λ_=>R5
 calm:=X.calm
 pn:=[]
 xe:=λ_ _=>False
def dC(D N:List Str):Prop:=D.length=N.length/\∀(i:Nat) (y:Str),D[i]?=RY y->N[i]?=RY y\/y="."\/y=".."
theorem dC.refl(N:List Str):dC N N:=⟨rfl,λ_ _ h=>.inl h⟩
theorem dC.set{D N:List Str}(h:dC D N)(j:Nat){m:Str}(hm:m="."\/m=".."):dC (D.set j m) N:=by
 refine⟨by rw[Y9];exact h.1,λi y e=>?_⟩;by_cases hj:j=i
 ·subst hj;rw[List.getElem?_set,Ú rfl]at e;split at e
  ·cases e;exact .inr hm
  ·cases e
 ·rw[SG hj]at e;exact h.2 i y e
structure dE(X:Cx)(N own:List Str)(scope:UI):Prop where
 kind:scope.kind=.function
 FG:∀y∈scope.names,y.2≠.cell
 names:∀y∈scope.names,y.2=.local->scope.names.lookup y.1=RY .local
 nd:N.Nodup
 pre:N.take own.length=own
 loc:∀y∈scope.names,y.2=.local->y.1∈own\/y.1=".0"
 O3:(".0":Str)∉N
 tail:dC (N.drop own.length) X.N
 free:∀y∈scope.names,y.2=.free->X.env.scope.names.lookup y.1=RY .cell\/X.env.scope.names.lookup y.1=RY .free
 dot:∀y∈scope.names,y.1≠"."/\y.1≠".."
theorem mem_lookup{names:List (Str×U5)}(h:names.lookup x=RY k):(x,k)∈names:=PySem.mem_of_lookup h
theorem dE.cells(S:dE X N own scope)(ok:X.Ok):∀y∈scope.names,y.2=.free->∃a,X.env.cells.lookup y.1=RY a:=λy hy hf=>by
 rcases S.free y hy hf with z|z
 ·exact ok.has y.1 (.inl z)
 ·exact ok.has y.1 (.inr z)
theorem uX(S:dE X N own scope)(I:Inv X pins σ H s)
  (hC:s.heap.objs.size<=C) (Gw:s4.os=s.os) (hg:s4.gens=s.gens) (keep:∀b o,s.heap.get? b=RY o->s4.heap.get? b=RY o) (ns:∃m,s4.heap.Ns C m)
  (hex:∀b∈ex,gF X pins H b/\b<s.heap.objs.size):Inv (EB X N scope C s H ex) [] (SH own.length R3++σ) H s4:=by
 obtain⟨m0,JI⟩:=ns;have sub:=dY (env:=X.env) scope.names [] (λn c e=>by simp at e);have L0:∀b∈ex,b<C:=λb hb=>SF (hex b hb).2 hC;have tl:own.length<=N.length:=by have:=ß Tn S.pre;rw[Tv]at this;omega
 refine⟨⟨I.ok.mod,?_,I.ok.glob,I.ok.blt,hC,λx y c h1 h2=>I.ok.inj x y c (sub x c h1) (sub y c h2),λx hx=>?_,λx c h _=>absurd (show R5=R4 from h) (by decide),I.ok.hd,I.ok.frames,.inl rfl,λb hb=>⟨Su (L0 b hb),λx c e=>?_⟩,λb o e=>I.bs b o e,?_,λb o e hb=>?_,λb hb=>?_,I.stack,I.rg⟩,
  Gw,(by rw[hg];exact I.bare),Un.kept keep,⟨m0,JI,λi y v h1 h2 h3=>?_⟩,λx c e=>?_,I.DN.fresh hC,λx c e=>I.El x c (sub x c e),λp hp=>absurd (show p∈([]:List (Sr×Obj)) from hp) (by simp),I.DN.kept keep,?_⟩
 ·show(Wh scope X.env).kind=.function;exact S.kind
 ·
  have I_:(Wh scope X.env).names.lookup x=RY .cell\/(Wh scope X.env).names.lookup x=RY .free:=hx;have D5:scope.names.lookup x=RY .free:=by
   rcases I_ with z|z
   ·rcases bF z with q|⟨_,q⟩
    ·exact absurd rfl (S.FG _ (mem_lookup q))
    ·exact q
   ·rcases bF z with q|⟨q,_⟩
    ·exact q
    ·cases q
  obtain⟨a,ha⟩:=S.cells I.ok (x,.free) (mem_lookup D5) rfl;exact⟨a,gk ha scope.names [] (mem_lookup D5)⟩
 ·exact(hex b hb).1.2.2.2.2.1 x c (sub x c e)
 ·exact TX I.ok.Hx I.sz
 ·obtain⟨f0,f1,f2,f3,f4,f5⟩:=(hex b hb).1;rcases f3 with z|z
  ·exact I.ok.Gr b o e z
  ·exact absurd (SF (Sg e) (TX I.ok.Hx z)) (TR _)
 ·intro FH;obtain⟨f0,f1,f2,f3,f4,f5⟩:=(hex b hb).1;rcases Sn.mp (I.ju b FH) with z|z
  ·exact f1 z
  ·exact f2 z
 ·
  have hi:own.length<=i:=by
   by_cases hi:i<own.length
   ·rw[Ti (by simpa using hi),Ux]at h2;split at h2<;>cases h2
   ·omega
  rw[Ta (by simpa using hi),Vm]at h2;have O4:(N.drop own.length)[i - own.length]?=RY y:=by
   rw[Ui];have e:own.length+(i - own.length)=i:=by omega
   rw[e];exact h1
  have NH:(Wh scope X.env).names.lookup y=RY .local\/(Wh scope X.env).names.lookup y=RY .cell\/(Wh scope X.env).names.lookup y=RY .free:=h3;have D5:scope.names.lookup y=RY .free:=by
   rcases NH with z|z|z
   ·rcases bF z with q|⟨q,_⟩
    ·exfalso
     have E8:y∈own:=by
      rcases S.loc (y,.local) (mem_lookup q) rfl with z|z
      ·exact z
      ·have z':y=".0":=z;exact absurd (SY h1) (by rw[z'];exact S.O3)
     obtain⟨j,hj,ej⟩:=Vz E8;have KS:N[j]?=RY y:=by
      have e1:(N.take own.length)[j]?=RY y:=by rw[S.pre,U6 hj,ej]
      rw[XH hj]at e1;exact e1
     have:=jv S.nd KS h1;omega
    ·cases q
   ·rcases bF z with q|⟨_,q⟩
    ·exact absurd rfl (S.FG _ (mem_lookup q))
    ·exact q
   ·rcases bF z with q|⟨q,_⟩
    ·exact q
    ·cases q
  have hX:X.N[i - own.length]?=RY y:=by
   rcases S.tail.2 _ _ O4 with e|e|e
   ·exact e
   ·exact absurd e (S.dot _ (mem_lookup D5)).1
   ·exact absurd e (S.dot _ (mem_lookup D5)).2
  obtain⟨m,hn,hl⟩:=I.loc;have hv:X.env.scope.names.lookup y=RY .cell\/X.env.scope.names.lookup y=RY .free:=S.free (y,.free) (mem_lookup D5) rfl;obtain⟨u,r,l⟩:=hl _ y v hX h2 (.inr hv);refine⟨u,r,?_⟩;rcases l with⟨k,_⟩|⟨k,c,e,z⟩
  ·have k':X.env.scope.names.lookup y=RY .local:=k;rcases hv with q|q<;>(rw[k']at q;cases q)
  ·have hk:(Wh scope X.env).names.lookup y=RY .cell\/(Wh scope X.env).names.lookup y=RY .free:=by
    rcases NH with q|q|q
    ·rcases bF q with q'|⟨q',_⟩
     ·rw[D5]at q';cases q'
     ·cases q'
    ·exact .inl q
    ·exact .inr q
   obtain⟨o,ho,hd⟩:=z;exact .inr ⟨hk,c,gk e scope.names [] (mem_lookup D5),o,keep c o ho,hd⟩
 ·obtain⟨v,o,ho,hd⟩:=I.cell x c (sub x c e);exact⟨v,o,keep c o ho,hd⟩
 ·rw[Sy,Vm,I.len];have e:N.length=own.length+(N.drop own.length).length:=by rw[VZ];omega
  show _=N.length;rw[e,S.tail.1]
theorem ou(I:Inv X pins σ H s)
  (I4:Inv (EB X N scope C s H ex) Hy σ' H4 s4) (hD:s.heap.objs.size<=D) (hC:s.heap.objs.size<=C) (L3:D≠C) (nD:H4 D=R3) (rv:Vals ys its) (pl:s4.heap.PlainList D its.toArray) (hl:ys.length<=R6)
  (sb:T5 C s4.heap h') (hex:∀b∈ex,gF X pins H b):Inv X pins σ (upd H4 D (.lst ys)) {s4 with heap:=h' }:=by
 have nC:H4 C=R3:=I4.free;have lt:∀{b:Sr} {o:Obj},s.heap.get? b=RY o->b≠C/\b≠D:=λe=>⟨Su (SF (Sg e) hC),Su (SF (Sg e) hD)⟩
 refine I.BE (s':={s4 with heap:=h' }) (ch:=ex) I4.os ⟨λb o e n hb hx=>?_,λb o e n hb hx=>?_,λb o e n hx=>?_,λb o e hx=>?_,λb xs e=>?_,λb o u e=>?_,λb ps e=>?_⟩ (λa o e=>?_) I4.bare λb hb=>?_
 ·exact(sb.2 b (lt e).1).trans (I4.base.keep b o e n hb hx)
 ·obtain⟨sl,q⟩:=I4.base.slot b o e n hb hx;exact⟨sl,(sb.2 b (lt e).1).trans q⟩
 ·rw[ao (lt e).2];exact I4.base.free b o e n hx
 ·obtain⟨o',q⟩:=I4.base.there b o e hx;exact⟨o',(sb.2 b (lt e).1).trans q⟩
 ·have q:=I4.base.je b xs e;rw[ao (bu q nD)];exact q
 ·have q:=I4.base.E1 b o u e;rw[ao (bu q nD)];exact q
 ·obtain⟨more,q⟩:=I4.base.E6 b ps e;exact⟨more,by rw[ao (bu q nD)];exact q⟩
 ·by_cases ha:a=D
  ·subst ha;rw[au]at e;cases e;obtain⟨n,q⟩:=pl;exact⟨hl,its,n,rv,(sb.2 _ L3).trans q⟩
  ·rw[ao ha]at e;refine(I4.DN a o e).js (λc v hc q=>(sb.2 c ?_).trans q) (λc q=>?_) λc xs q=>?_
   ·rintro rfl;rcases hc with z|z
    ·rw[<-z,nC]at e;cases e
    ·rw[nC]at z;cases z
   ·rw[ao (bu q nD)];exact q
   ·rw[ao (bu q nD)];exact q
 ·obtain⟨f0,f1,f2,f3,f4,f5⟩:=hex b hb;exact⟨f3,f1,f4,f5⟩
section
theorem mM(I:Nat->Sm->Prop)
  (turn:∀n s,I n s->Se (Sw prog w) A (VS it) (λr s₁=>match r with
   |none=>R (.ok .next) s₁
   |some v=>Se (Sw prog w) A (Wr target it v) (λ_ s₁=>Se (Sw prog w) A (VU target env v) (λ_ s₂ =>
     Se (Sw prog w) A (forIn ifs R4 λc r=>if r=R4 then do let ok <-isTrue c env (T2 c env);pure (U1 ok) else pure (U1 r)) (λok s₃ =>
      if ok=R4 then Se (Sw prog w) A (T2 elt env) (λx s₄ =>
       Se (Sw prog w) A (Vj (.builtin "list.append") [acc,x]) (λ_ s₅=>∃m,m<n/\I m s₅) (WL (Sw prog w) A env λe s'=>R (.error e) s') s₄) (WL (Sw prog w) A env λe s'=>R (.error e) s') s₃
      else ∃m,m<n/\I m s₃) (WL (Sw prog w) A env λe s'=>R (.error e) s') s₂) (WL (Sw prog w) A env λe s'=>R (.error e) s') s₁) (WL (Sw prog w) A env λe s'=>R (.error e) s') s₁) (WL (Sw prog w) A env λe s'=>R (.error e) s') s)
  (n:Nat) (h:I n s) :
  VP (Sw prog w) A (.compLoop (.ListComp elt [⟨target,iter,ifs,0⟩] scope pos) 0 it acc env) R s:=by
 refine codeAny_loop rfl I (λn s hI=>?_) n h;show Se _ A ((compTurn (.ListComp elt [⟨target,iter,ifs,0⟩] scope pos) 0 it acc env).onRaise (λx=>do noteFrame x env;theTreesLotGoes x)) _ _ s;refine wpAny_noted ?_;rw[compTurn_list];refine RZ (Yc (RZ (Th (turn n s hI) (λr s₁ h₁=>?_) λ_ _ h'=>h')));cases r with
 |none=>exact R_ h₁
 |some v =>
  refine RZ (Th h₁ (λ_ Rw O5=>?_) λ_ _ h'=>h');refine RZ (Th O5 (λ_ s₂ h₂=>RZ (Th h₂ (λok s₃ h₃=>?_) λ_ _ h'=>h')) λ_ _ h'=>h');cases ok with
  |false=>exact R_ ⟨rfl,h₃⟩
  |true =>
   exact RZ (RZ (Th h₃ (λx s₄ h₄=>RZ (Th h₄ (λ_ s₅ h₅=>R_ (R_ ⟨rfl,h₅⟩)) λ_ _ h'=>h')) λ_ _ h'=>h'))
end
def Ha(X:Cx)(ifs:List Td)(t:TT):Prop :=
 ∀(pins:List (Sr×Obj)) (s:Sm) (σ:St) (H:Hp) (Q:Bool->Hp->Prop),Inv X pins σ H s->t σ H Q ->
  Se (Sw X.prog X.w) X.A (forIn ifs R4 λc r=>if r=R4 then do let ok <-isTrue c X.env (T2 c X.env);pure (U1 ok) else pure (U1 r)) (TP X pins σ Q) X.xe s
def Dx:TT:=λ_ H Q=>Q R4 H
theorem rB:Ha X [] Dx:=λ_ _ _ H _ I h=>wpAny_tests_nil ⟨H,I,h⟩
theorem rC(h:PT X c t):Ha X [c] t:=λpins s σ H Q I q=>wpAny_tests_one (h pins s σ H Q I q)
def rD(k:Nat)(J:It)(g:TG)(tt:TT)(te:TE)(Q:VK)(σ:St)(H1:Hp):Prop :=
  ∃W:Nat->Nat->List V->Hp->Prop,(∃m,W 0 m [] H1)/\∀i m ys H,W i m ys H->ys.length<=R6 /\
    ((J.stop i H/\∀p,H p=R3->Q (.ref p) (upd H p (.lst ys))) \/
     (J.go i H/\∃NN:List V->Hp->Prop,(∀E9 H',NN E9 H'->∃m',m'<m/\W (i+1) m' E9 H')/\∀x H',J.KI i H x H'->g x (SH k R3++σ) H' λσ2 H2=>∃own:St,own.length=k/\σ2=own++σ /\
        tt σ2 H2 λb H3=>if b=R4 then te σ2 H3 λy H4=>NN (ys++[y]) H4 else NN ys H3))
def uY(k:Nat)(wi:TI)(g:TG)(tt:TT)(te:TE):TE:=λσ H Q=>wi σ H λJ H1=>rD k J g tt te Q σ H1
section
theorem uZ
  (S:dE X N own scope) (hc:X.calm=R4) (hg:∀C s H ex,PG (EB X N scope C s H ex) tg g) (hf:∀C s H ex,Ha (EB X N scope C s H ex) ifs tt) (he:∀C s H ex,PE (EB X N scope C s H ex) elt te)
  (I:Inv X pins σ H s) (T:Turn X.prog X.w X.K tg J fp it tn) (st:tn 0 s.heap) (f2:∀b∈fp,gF X pins H b) (W:rD own.length J g tt te Q σ H)
  (hD:@Eq Nat D s.heap.objs.size) (hC:@Eq Nat C (s.heap.objs.size+1)) (Gw:s4.os=s.os) (O6:s4.gens=s.gens) (keep:∀b o,s.heap.get? b=RY o->s4.heap.get? b=RY o) (ns:∃m,s4.heap.Ns C m) (pl:s4.heap.PlainList D #[])
  (fin:∀s5 H5 ys its,Inv (EB X N scope C s H fp) [] (SH own.length R3++σ) H5 s5->H5 D=R3->Vals ys its->s5.heap.PlainList D its.toArray->ys.length<=R6->(∀p,H5 p=R3->Q (.ref p) (upd H5 p (.lst ys)))->R (.ok .next) s5) :
  VP (Sw X.prog X.w) X.A (.compStart (.ListComp elt [⟨tg,iter,ifs,0⟩] scope pos) 0 (.ref it) (.ref D) (Xi scope (bp X.env scope.names []) C X.env)) R s4:=by
 have Hb:∀b∈fp,@U0 Nat _ b s.heap.objs.size:=λb hb=>by
  obtain⟨o,e,_⟩:=T.obj 0 s.heap st b hb;exact Sg e
 have I4:Inv (EB X N scope C s H fp) [] (SH own.length R3++σ) H s4:=uX S I ⋯ Gw O6 keep ns λb hb=>⟨f2 b hb,Hb b hb⟩
 have Ja:tn 0 s4.heap:=T.keep 0 s.heap s4.heap st λb _ o e=>keep b o e;have nD:H D=R3:=I.DN.fresh ⋯;obtain⟨W,⟨m0,w0⟩,YX⟩:=W;generalize FI:EB X N scope C s H fp=X' at I4 fin;have eP:X'.prog=X.prog:=by rw[<-FI];rfl
 have ew:X'.w=X.w:=by rw[<-FI];rfl
 have eK:X'.K=X.K:=by rw[<-FI];rfl
 have ec:X'.calm=R4:=by rw[<-FI];exact hc
 have eA:X'.A=X.A:=by rw[<-FI];rfl
 have ee:X'.env=Xi scope (bp X.env scope.names []) C X.env:=by rw[<-FI];rfl
 have L4:X'.xe=λ_ _=>False:=by rw[<-FI];rfl
 have el:X'.env.locals=C:=by rw[ee];rfl
 have O7:PG X' tg g:=by rw[<-FI];exact hg _ _ _ _
 have O8:Ha X' ifs tt:=by rw[<-FI];exact hf _ _ _ _
 have L5:PE X' elt te:=by rw[<-FI];exact he _ _ _ _
 have s0:X'.s₀=s:=by rw[<-FI];rfl
 have JJ:X'.pn=[]:=by rw[<-FI];rfl
 have L6:∀{H':Hp} {o:Obj},(∀b∈fp,H' b=R3)->∀b∈fp,gF X' [(D,o)] H' b:=λ{H' o} hn b hb=>by
  have ex:X'.ex=fp:=by rw[<-FI];rfl
  refine⟨hn b hb,?_,?_,.inl (by rw[ex];exact hb),λx c e=>?_,λp hp=>?_⟩
  ·rw[el];have:=Hb b hb;exact Su (by show @U0 Nat _ b C;omega)
  ·have e1:X'.fs=FT X.stack:=by rw[<-FI];rfl
   rw[e1];intro z;obtain⟨f0,f1,O9,f3,f4,f5⟩:=f2 b hb;rcases Sn.mp (I.ju b z) with q|q
   ·exact f1 q
   ·exact O9 q
  ·have e1:X'.env.cells=bp X.env scope.names []:=by rw[ee];rfl
   rw[e1]at e;exact(f2 b hb).2.2.2.2.1 x c (dY scope.names [] (λn c e=>by simp at e) x c e)
  ·rw[JJ,Sz]at hp;have:p=(D,o):=by simpa using hp
   subst this;have:=Hb b hb;exact Ur (by show @U0 Nat _ b D;omega)
 have L7:∀{σ':St} {H':Hp} {s':Sm} {o:Obj},Inv X' [] σ' H' s'->H' D=R3->s'.heap.get? D=RY o->(∀v,o.data≠.cell v)->Inv X' [(D,o)] σ' H' s':=λ{σ' H' s' o} I' n e d =>
  I'.fz λp hp=>by
   have:p=(D,o):=by simpa using hp
   subst this;refine⟨e,n,?_,?_,d⟩
   ·rw[el];exact Su (by show @U0 Nat _ D C;omega)
   ·have e1:X'.fs=FT X.stack:=by rw[<-FI];rfl
    rw[e1];intro z;have zz:(D:Sr)∈FT X.stack:=z;rcases Sn.mp (I.ju D zz) with q|q
    ·have:=I.lt;rw[<-q]at this;exact absurd this (by show ¬@U0 Nat _ D s.heap.objs.size;omega)
    ·exact I.BD (a:=D) ⋯ q
 have start:∀s':Sm,s'=s4->VP (Sw X.prog X.w) X.A (.compLoop (.ListComp elt [⟨tg,iter,ifs,0⟩] scope pos) 0 (.ref it) (.ref D) (Xi scope (bp X.env scope.names []) C X.env)) R s':=by
  rintro s' rfl;refine mM (λn s'=>∃i ys its H',Inv X' [] (SH own.length R3++σ) H' s'/\tn i s'.heap/\(∀b∈fp,H' b=R3)/\H' D=R3/\Vals ys its/\s'.heap.PlainList D its.toArray/\W i n ys H') ?_ m0
   ⟨0,[],[],H,I4,Ja,λb hb=>(f2 b hb).1,nD,.nil,pl,w0⟩
  rintro n s3 ⟨i,ys,its,H3,I3,st3,JA,NI,KU,⟨nn,O_⟩,w3⟩;obtain⟨hlen,FX⟩:=YX i n ys H3 w3;have IP:=L7 I3 NI O_ (λv z=>by have z':Data.seq _ _=YQ v:=z;cases z');rcases FX with⟨stop,qn⟩|⟨go,NN,NJ,turn⟩
  ·have d:=T.done X' eP ew eK ec i _ s3 _ H3 (WL (Sw X.prog X.w) X.A (Xi scope (bp X.env scope.names []) C X.env) λe s'=>R (.error e) s') IP (L6 JA) st3 stop;rw[eA]at d;refine DQ d λr s4 ⟨hr,I5⟩=>?_;subst hr;have e5:=(I5.pin (D,({cls:=.type "list",data:=.seq its.toArray nn}:Obj)) (by rw[JJ];simp)).1;exact fin s4 H3 ys its (I5.fz λp hp=>by cases hp) NI KU ⟨nn,e5⟩ hlen qn
  ·have d:=T.item X' eP ew eK ec i _ s3 _ H3 (WL (Sw X.prog X.w) X.A (Xi scope (bp X.env scope.names []) C X.env) λe s'=>R (.error e) s') IP (L6 JA) st3 go;rw[eA]at d;refine DQ d λr s4 ⟨u,hr,h4⟩=>?_;subst hr;refine DQ h4 λ_ s5 ⟨x,H5,I5,r5,y5,Gg,LM⟩=>?_;have Rx:H5 D=R3:=(I5.pin (D,({cls:=.type "list",data:=.seq its.toArray nn}:Obj)) (by rw[JJ];simp)).2.1;have LN:=I5.pinned (L6 LM) (T.obj _ _ Gg);have a6:=O7 _ s5 _ H5 x u _ LN r5 (turn x H5 y5);rw[eP,ew,eA,ee,L4]at a6;refine Th a6 (λ_ s6 ⟨σ6,H6,I6,q6⟩=>?_) λ_ _ z=>UR z;obtain⟨ow,how,rfl,q6⟩:=q6;have a7:=O8 _ s6 _ H6 _ I6 q6;rw[eP,ew,eA,ee,L4]at a7;refine Th a7 (λb s7 ⟨H7,I7,q7⟩=>?_) λ_ _ z=>UR z;have back:∀{s8:Sm} {H8:Hp} {E9:List V} {its':List Sb} {nn':Nat},Inv X' [] (ow++σ) H8 s8->tn (i+1) s8.heap->(∀b∈fp,H8 b=R3)->H8 D=R3->Vals E9 its'->s8.heap.PlainList D its'.toArray->(∃m',m'<n/\W (i+1) m' E9 H8) ->
     ∃m,m<n/\∃i ys its H',Inv X' [] (SH own.length R3++σ) H' s8/\tn i s8.heap/\(∀b∈fp,H' b=R3)/\H' D=R3/\Vals ys its/\s8.heap.PlainList D its.toArray/\W i m ys H':=λ{s8 H8 E9 its' nn'} I8 O' Pa n8 Pb Pc w8=>by
    obtain⟨m',hm,w8⟩:=w8;refine⟨m',hm,i+1,E9,its',H8,I8.weak (by simp[how]) (λj v e=>?_),O',Pa,n8,Pb,Pc,w8⟩;by_cases hj:j<own.length
    ·rw[Ti (by simpa using hj),Ux]at e;split at e<;>cases e
    ·rw[Ta (by simpa using(Nat.not_lt.mp hj)),Vm]at e;rw[Ta ⋯,how];exact e
   have tell:∀{σ':St} {H8:Hp} {s8:Sm},Inv X' ([(D,({cls:=.type "list",data:=.seq its.toArray nn}:Obj))]++jx fp s5.heap) σ' H8 s8->s8.heap.get? D=RY {cls:=.type "list",data:=.seq its.toArray nn}/\H8 D=R3/\tn (i+1) s8.heap/\∀b∈fp,H8 b=R3:=λ{σ' H8 s8} I8=>by
    have p1:=I8.pin (D,({cls:=.type "list",data:=.seq its.toArray nn}:Obj)) (by rw[JJ];simp);refine⟨p1.1,p1.2.1,T.keep _ _ _ Gg λb hb o e=>(I8.pin (b,o) (SV _ (SV _ (dW hb e)))).1,λb hb=>?_⟩;obtain⟨o,e,d⟩:=T.obj _ _ Gg b hb;exact(I8.pin (b,o) (SV _ (SV _ (dW hb e)))).2.1
   cases b with
   |false =>
    rw[Ü S6]at q7 ⊢;obtain⟨p1,p2,p3,p4⟩:=tell I7;exact back (nn':=0) (I7.fz λp hp=>by cases hp) p3 p4 p2 KU ⟨nn,p1⟩ (NJ _ _ q7)
   |true =>
    rw[Ú rfl]at q7 ⊢;have a8:=L5 _ s7 _ H7 _ I7 q7;rw[eP,ew,eA,ee,L4]at a8;refine Th a8 (λy s8 ⟨yv,H8,I8,r8,q8⟩=>?_) λ_ _ z=>UR z;obtain⟨p1,p2,p3,p4⟩:=tell I8;have hsz:its.toArray.size<=R6:=by rw[Ss,<-KU.length];exact hlen
    refine wpAny_list_append_plain (hsz:=hsz) ⟨nn,p1⟩ λh9 Pd NK=>?_;have Pe:Inv X' [] (ow++σ) H8 s8:=I8.fz λp hp=>by cases hp
    have KW:∀x c,X'.env.cells.lookup x=RY c->c≠D:=λx c e=>by
     have e1:X'.env.cells=bp X.env scope.names []:=by rw[ee];rfl
     rw[e1]at e;have q:=dY scope.names [] (λn c e=>by simp at e) x c e;obtain⟨v,z⟩:=I.cell x c q;have:@U0 Nat _ c s.heap.objs.size:=z.lt;exact Su (by show @U0 Nat _ c D;omega)
    have I9:Inv X' [] (ow++σ) H8 {s8 with heap:=h9,toks:=s8.toks}:=Pe.turned (it:=D) (λb o hb e=>(NK.2 b hb).trans e) p2 (by rw[el];exact Su (by show @U0 Nat _ D C;omega)) (.inr (by rw[s0];show @ZM Nat _ s.heap.objs.size D;omega)) KW (λp hp=>by rw[JJ]at hp;cases hp);have Pf:(its++[y]).toArray=its.toArray.push y:=by simp
    refine back (nn':=0) (s8:={s8 with heap:=h9,toks:=s8.toks}) I9 (T.keep _ _ _ p3 λb hb o e=>(NK.2 b ?_).trans e) p4 p2 (KU.append (.cons r8 .nil)) (by rw[Pf];exact Pd) (NJ _ _ q8);have:=Hb b hb;exact Su (by show @U0 Nat _ b D;omega)
 exact codeAny_compStart_list (start _ rfl) (T.self _ _ _ _ _ Ja (start _ rfl))
theorem jG{RR:Sb->Sr->Result->Sm->Prop}
    (S:dE X N own scope) (hc:X.calm=R4) (hg:∀C s H ex,PG (EB X N scope C s H ex) tg g) (hf:∀C s H ex,Ha (EB X N scope C s H ex) ifs tt) (he:∀C s H ex,PE (EB X N scope C s H ex) elt te)
 (I:Inv X pins σ H s) (T:Turn X.prog X.w X.K tg J fp it tn) (st:tn 0 s.heap) (f2:∀b∈fp,gF X pins H b) (W:rD own.length J g tt te Q σ H)
    (fin:∀D C s5 H5 ys its,@Eq Nat D s.heap.objs.size->@Eq Nat C (s.heap.objs.size+1)->Inv (EB X N scope C s H fp) [] (SH own.length R3++σ) H5 s5->H5 D=R3->Vals ys its->s5.heap.PlainList D its.toArray->ys.length<=R6->(∀p,H5 p=R3->Q (.ref p) (upd H5 p (.lst ys)))->RR (.ref D) C (.ok .next) s5) :
    Se (Sw X.prog X.w) X.A (ZD []) (λacc s₃=>Se (Sw X.prog X.w) X.A (newFunctionEnv scope X.env.globals (bp X.env scope.names []) [] X.env.qual R3 .none (RY X.env)) (λJK s₄ =>
      VP (Sw X.prog X.w) X.A (.compStart (.ListComp elt [⟨tg,iter,ifs,0⟩] scope pos) 0 (.ref it) acc {JK with scope:=Wh scope X.env}) (RR acc JK.locals) s₄) E s₃) E s:=by
  refine Tb (wpAny_newFunctionEnv S.FG (by intro y hy;simp at hy) (λh₁ Ia Hc=>?_) S.kind)
  dsimp only at Ia Hc ⊢
  generalize L8:s.heap.push {cls:=.type "list",dict:=R3,data:=.seq ([]:List Sb).toArray}=H2 at Ia Hc ⊢;have hC:H2.objs.size=s.heap.objs.size+1:=by rw[<-L8,Xo]
  have L3:s.heap.objs.size≠H2.objs.size:=by rw[hC];exact Su (V5 _)
  have below:∀b:Sr,b<s.heap.objs.size->b≠H2.objs.size:=λb hb=>Su (by have FH:@U0 Nat _ b s.heap.objs.size:=hb;show @U0 Nat _ b H2.objs.size;omega);have old:∀b o,s.heap.get? b=RY o->h₁.get? b=RY o:=λb o e=>Hc.extBut b o (below b (Sg e)) (R8 _ (L8▸R8 _ e));have EG:h₁.PlainList s.heap.objs.size #[]:=⟨_,Hc.extBut _ _ L3 (R8 _ (L8▸Sj _ rfl))⟩
  exact uZ (s:=s) (s4:={s with heap:=h₁,toks:=s.toks+([]:List (Str×Sb)).length}) (C:=H2.objs.size) (D:=s.heap.objs.size) S hc hg hf he I T st f2 W rfl hC rfl rfl old ⟨_,Ia⟩ EG
    λs5 H5 ys its I5 n5 JL JM JN q5=>fin _ _ s5 H5 ys its rfl hC I5 n5 JL JM JN q5
theorem xE(S:dE X N own scope)(hc:X.calm=R4)(hi:PI X tg iter wi)(hg:∀C s H ex,PG (EB X N scope C s H ex) tg g)(hf:∀C s H ex,Ha (EB X N scope C s H ex) ifs tt)(he:∀C s H ex,PE (EB X N scope C s H ex) elt te)
  (hs:∀x,Uu iter X.env x=pure x:=by intro _;rfl):PE X (.ListComp elt [⟨tg,iter,ifs,0⟩] scope pos) (uY own.length wi g tt te):=by
 intro pins s σ H Q I h;rw[eval_ListComp];refine Ye (use:=R3) (cl:=bp X.env scope.names []) rfl hs (dO (S.cells I.ok)) S.kind S.names ?_;refine DQ (hi pins s σ H _ I h) λv s1 h1=>DQ h1 λKJ s2 h2=>?_;obtain⟨it,fp,tn,J,H2,e,I2,T,st2,f2,W⟩:=h2;subst e;refine jG (RR:=λacc C=>compPost (Sw X.prog X.w) X.A X.xe R3 (EP X pins σ Q) acc C) S hc hg hf he I2 T st2 f2 W ?_;intro D C s5 H5 ys its hD hC I5 n5 JL JM JN q5;obtain⟨m5,L9,_⟩:=I5.loc;exact⟨m5,L9,λh' sb=>⟨.ref D,_,ou I2 I5 (X6 hD.symm) (by show @ZM Nat _ s2.heap.objs.size C;omega) (Su (by show @U0 Nat _ D C;omega)) n5 JL JM JN sb f2,rfl,q5 D n5⟩⟩
theorem xF(S:dE X N own scope)(hc:X.calm=R4)(hN:X.N.Nodup)(KY:X.N[i]?=RY y)(hy:X.env.scope.names.lookup y=RY .local)
  (hi:PI X tg iter wi) (hg:∀C s H ex,PG (EB X N scope C s H ex) tg g) (hf:∀C s H ex,Ha (EB X N scope C s H ex) ifs tt) (he:∀C s H ex,PE (EB X N scope C s H ex) elt te)
  (HA:Vx (.ListComp elt [⟨tg,iter,ifs,0⟩] scope pos) (RY (.Name y py)) F5.line X.env=pure R4:=by rfl)
  (hs:∀x,Uu iter X.env x=pure x:=by intro _;rfl):PS X (.Assign [.Name y py] (.ListComp elt [⟨tg,iter,ifs,0⟩] scope pos) F5) (zR (uY own.length wi g tt te) (rj i)):=by
 intro pins s σ H D I h;rw[exec_Assign_Name_used _ _ _ _ HA];refine RZ (Yc (RZ ?_));show Se _ X.A (do let _ <-comprehension (.ListComp elt [⟨tg,iter,ifs,0⟩] scope pos) scope X.env _ (ZD []) R5 (T2 iter X.env) (RY (VU (.Name y py) X.env))) _ _ s;refine RZ (Th (Ye (use:=RY (VU (.Name y py) X.env)) (cl:=bp X.env scope.names []) (Q:=λ_ s'=>SP X pins D .next s') rfl hs (dO (S.cells I.ok)) S.kind S.names ?_) (λ_ s' hq=>R_ (R_ hq)) λ_ _ e=>e);refine DQ (hi pins s σ H _ I h) λv s1 h1=>DQ h1 λKJ s2 h2=>?_;obtain⟨it,fp,tn,J,H2,e,I2,T,st2,f2,W⟩:=h2;subst e;refine jG (RR:=λacc C=>compPost (Sw X.prog X.w) X.A X.xe (RY (VU (.Name y py) X.env)) (λ_ s'=>SP X pins D .next s') acc C) S hc hg hf he I2 T st2 f2 W ?_;intro DD C s5 H5 ys its hD hC I5 n5 JL JM JN q5;obtain⟨m5,L9,_⟩:=I5.loc;have Ph:H5 C=R3:=I5.free;have B:Inv X pins σ (upd H5 DD (.lst ys)) {s5 with heap:=s5.heap}:=ou I2 I5 (X6 hD.symm) (by show @ZM Nat _ s2.heap.objs.size C;omega) (Su (by show @U0 Nat _ DD C;omega)) n5 JL JM JN (XB ..) f2;show Se _ X.A (VU (.Name y py) X.env (.ref DD)) _ _ s5;refine Zz (lu (s:=s5) B hN KY (.inl hy) (show RelV (.ref DD) (.ref DD) from rfl) (λs6 I6 ⟨a,sb,ha⟩=>?_) (.inr hy));have KW:@U0 Nat _ X.env.locals C:=by have:@U0 Nat _ X.env.locals s2.heap.objs.size:=I2.lt;omega
 have Gz:∀x c,X.env.cells.lookup x=RY c->c≠C:=λx c e=>by
  obtain⟨v,z⟩:=I2.cell x c e;have:@U0 Nat _ c s2.heap.objs.size:=z.lt;exact Su (by show @U0 Nat _ c C;omega)
 have Pj:C≠a:=by
  rcases ha with z|z
  ·rw[z];exact Ur KW
  ·exact(Gz _ _ z).symm
 refine⟨m5,L9.sameBut sb Pj,λh' Pk=>?_⟩;refine⟨σ.set i (RY (.ref DD)),upd H5 DD (.lst ys),I6.turned (it:=C) (t':=s6.toks) (λb o hb e=>(Pk.2 b hb).trans e) ?_ (Ur KW) (.inr (by have:@ZM Nat _ X.s₀.heap.objs.size s2.heap.objs.size:=I2.sz;show @ZM Nat _ X.s₀.heap.objs.size C;omega)) Gz (λp hp=>?_),q5 DD n5⟩
 ·rw[ao (Ur (by show @U0 Nat _ DD C;omega))];exact Ph
 ·have:@U0 Nat _ p.1 s2.heap.objs.size:=Sg (I2.pin p hp).1;exact Su (by show @U0 Nat _ p.1 C;omega)
end
section
end
section
def Ca:V->Option Int->Option Int->Hp->VK->Prop:=λx lo hi H Q=>∃z,x=.str z/\z.length<=R6/\Q (.str (PySem.StrLaws.sliceText z lo hi)) H
theorem kX(x:Str)(lo hi:Option Int)(hz:x.length<=R6):(PySem.StrLaws.sliceText x lo hi).length<=R6:=TX (Txt.slice_le x lo hi) hz
theorem An:GZ X Ca:=by
 intro pins s σ H x v vl vu lo hi sl Q I rx hs pl pu h;obtain⟨z,rfl,hz,q⟩:=h;obtain⟨t,rfl⟩:=rx;refine⟨"str",_,ZZ.lookup,VR _ _ _,?_⟩;have fin:(PySem.StrLaws.sliceText z lo hi).length<=R6/\∀t' k,EP X pins σ Q (.str (PySem.StrLaws.sliceText z lo hi) t') {s with toks:=k}:=⟨kX z lo hi hz,λt' k=>⟨.str _,H,I.tok k,⟨_,rfl⟩,q⟩⟩
 cases pl with
 |none =>
  cases pu with
  |none=>exact Vg (l:=R3) (u:=R3) (st:=R3) hs rfl (Wq fin)
  |int j tj=>exact Vg (l:=R3) (u:=RY (j,tj)) (st:=R3) hs rfl (Wq fin)
 |int i ti =>
  cases pu with
  |none=>exact Vg (l:=RY (i,ti)) (u:=R3) (st:=R3) hs rfl (Wq fin)
  |int j tj=>exact Vg (l:=RY (i,ti)) (u:=RY (j,tj)) (st:=R3) hs rfl (Wq fin)
theorem ox:JF X "str.endswith" (λx xs H Q=>∃a b,x=.str a/\xs=[.str b]/\Q (.bl (ZS a b)) H):=by
 intro pins s σ H x xs v us Q I rx rs h;obtain⟨a,b,rfl,rfl,q⟩:=h;obtain⟨t,rfl⟩:=rx;obtain⟨u,rfl,t',rfl⟩:=vals1 rs;exact SC.endswith ⟨.bl _,H,I,rfl,q⟩
theorem mN:JF X "str.partition" (λx xs H Q=>∃a b,x=.str a/\xs=[.str b]/\(b.length==0)=R5/\a.length<=R6 /\
  ∀p,H p=R3->Q (.ref p) (upd H p (.tup [.str (S4 a b).1,.str (S4 a b).2.1,.str (S4 a b).2.2]))):=by
 intro pins s σ H x xs v us Q I rx rs h;obtain⟨a,b,rfl,rfl,hb,hz,q⟩:=h;obtain⟨t,rfl⟩:=rx;obtain⟨u,rfl,t',rfl⟩:=vals1 rs;refine Vy F.slot_str_partition (VR _ _ _) F.entry_str_partition (F.args_str_partition_2 _ _) (meets_str_partition a b t t' hb hz) ?_;have hf:H s.heap.objs.size=R3:=I.DN.fresh (Sv _);have q':=q _ hf;have fin:∀(t1 t2 t3:Tok) (k:Nat),EP X pins σ Q (.ref s.heap.objs.size) {s with toks:=k,heap:=s.heap.push {cls:=.type "tuple",data:=.seq [.str (S4 a b).1 t1,.str (S4 a b).2.1 t2,.str (S4 a b).2.2 t3].toArray}}:=λt1 t2 t3 k =>
  ⟨.ref s.heap.objs.size,_,I.laid (t':=k) (o:=.tup [.str (S4 a b).1,.str (S4 a b).2.1,.str (S4 a b).2.2]) (λb u e=>R8 _ e) (Sv _)
   ⟨by show 3<=R6;decide,_,.cons ⟨t1,rfl⟩ (.cons ⟨t2,rfl⟩ (.cons ⟨t3,rfl⟩ .nil)),⟨_,Sj _ rfl,rfl,_,rfl⟩⟩,rfl,q'⟩
 revert fin;unfold S4;cases T7 a b 0 a.length 1 with
 |_=>intro fin;exact fin _ _ _ _
theorem lJ:∀(l:List (Str×Tok)),Vals (l.map λp=>V.str p.1) (Yl l)
 |[]=>.nil
 |(x,t)::r=>.cons ⟨t,rfl⟩ (lJ r)
theorem gK:∀{ys:List Str}{its:List Sb},Vals (ys.map V.str) its->∃l:List (Str×Tok),its=Yl l/\l.map (·.1)=ys
 |[],_,.nil=>⟨[],rfl,rfl⟩
 |y::ys,_,.cons r t=>by
  obtain⟨tk,rfl⟩:=r;obtain⟨l,rfl,e⟩:=gK t;exact⟨(y,tk)::l,rfl,by rw[Sd,e]⟩
theorem u3:JF X "str.split" (λx xs H Q=>∃a b,x=.str a/\xs=[.str b]/\(b.length==0)=R5/\a.length+2<=R6 /\
  ∀p,H p=R3->Q (.ref p) (upd H p (.lst ((UH a b).map V.str)))):=by
 intro pins s σ H x xs v us Q I rx rs h;obtain⟨x,y,rfl,rfl,hy,hz,q⟩:=h;obtain⟨t,rfl⟩:=rx;obtain⟨u0,rfl,u,rfl⟩:=vals1 rs;have hf:H s.heap.objs.size=R3:=I.DN.fresh (Sv _);have q':=q _ hf;have fin:∀(l:List (Str×Tok)) (k:Nat),l.length<=R6->l.map (·.1)=UH x y->EP X pins σ Q (.ref s.heap.objs.size) {s with toks:=k,heap:=s.heap.push {cls:=.type "list",data:=.seq (Yl l).toArray}}:=λl k hl e =>
  ⟨.ref s.heap.objs.size,_,I.laid (t':=k) (o:=.lst ((UH x y).map V.str)) (λb u e=>R8 _ e) (Sv _)
   ⟨by rw[<-e,R9,R9];exact hl,Yl l,_,by rw[<-e,Sx];exact lJ l,Sj _ rfl⟩,rfl,q'⟩
 have one:1<=R6:=by decide
 cases h1:(Sa (x.length<y.length)||decide (Xq x<Xq y))
 ·cases hf:(T7 x y 0 x.length (x.length+1)).isEmpty
  ·have hn:(UQ x (T7 x y 0 x.length (x.length+1)) y.length).length<=R6:=by
    have:=PySem.StrLaws.occ_length_le x y 0 x.length (x.length+1);simp only[UQ,R9,W_,SE,Sy];omega
   refine Vy Xk (VR _ _ _) W7 (WV _ _) (meets_str_split_sep x y t u h1 hy hf ⋯ hn) ?_;show wants _ _ _ {s with toks:=_,heap:=s.heap.push {cls:=.type "list",data:=.seq (strsFrom s.toks (UQ x (T7 x y 0 x.length (x.length+1)) y.length)).toArray}};rw[strsFrom_eq];refine fin (numbered s.toks _) _ ?_ ((É _ _).trans ((Ü (ne_true_of_eq_false h1)).trans (Ü (ne_true_of_eq_false hf))).symm);have e:=ß Tn (É s.toks (UQ x (T7 x y 0 x.length (x.length+1)) y.length));rw[R9]at e;omega
  ·exact Vy Xk (VR _ _ _) W7 (WV _ _) (meets_str_split_not_found x y t u h1 hy hf)
    (fin [(x,t)] _ one ((Ü (ne_true_of_eq_false h1)).trans (Ú hf)).symm)
 ·exact Vy Xk (VR _ _ _) W7 (WV _ _) (meets_str_split_cannot_occur x y t u h1)
   (fin [(x,t)] _ one (Ú h1).symm)
theorem xG:JF X "str.join" (λx xs H Q=>∃a p ys,x=.str a/\xs=[.ref p]/\Eg X.K H p (ys.map V.str)/\Zq a ys=R4/\Q (.str (WT a ys)) H):=by
 intro pins s σ H x xs v us Q I rx rs h;obtain⟨a,p,ys,rfl,rfl,hq,DN,q⟩:=h;obtain⟨t,rfl⟩:=rx;obtain⟨u,rfl,r⟩:=vals1 rs;cases r;obtain⟨its,rv,pl,hz⟩:=I.list hq;obtain⟨l,rfl,e⟩:=gK rv;exact SC.join pl.isList e DN λt' k=>⟨.str _,H,I.tok k,⟨_,rfl⟩,q⟩
theorem eV:∀{bs:List Bool}{its:List Sb},Vals (bs.map V.bl) its->its=bs.map Uz
 |[],_,.nil=>rfl
 |b::bs,_,.cons r t=>by
  cases r;rw[eV t];rfl
theorem u4:X.calm=R4->fX X (.builtin "all") (λxs H Q=>∃(p:Sr) (bs:List Bool),xs=[.ref p]/\Eg X.K H p (bs.map V.bl)/\Q (.bl (bs.all id)) H):=by
 intro hc pins s σ H xs us Q I rs h;obtain⟨p,bs,rfl,hq,q⟩:=h;obtain⟨u,rfl,r⟩:=vals1 rs;cases r;obtain⟨its,rv,pl,hz⟩:=I.list hq;have e:=eV rv;subst e;have D2:p<s.heap.objs.size:=by obtain⟨_,_,e,_⟩:=pl;exact Sg e
 refine call_all_walk (Vp pl.isList ?_);refine⟨s.heap.objs.size,[s.heap.objs.size,p],[s.heap.objs.size],(bs.map Uz).toArray.size,_,_,λi=>(bs[i]?).getD R4,rfl,Wu (A:=X.A.in1) (I.ok.hd hc) _ p (Su D2) (bs.map Uz).toArray,
  ⟨⟨_,Sj _ rfl,rfl,rfl⟩,pl.isList.push _⟩,λi v s' Q' E' hP hQ=>?_,λh' tk hk=>?_⟩
 ·have FY:(bs.map Uz)[i]?=RY v:=by simpa using hP
  rw[SQ]at FY;cases e:bs[i]? with
  |none=>rw[e]at FY;cases FY
  |some b =>
   rw[e]at FY;cases FY;simp only[e,WN]at hQ;exact TC hQ
 ·have e:((Sl (bs.map Uz).toArray.size).all λi=>(bs[i]?).getD R4)=bs.all id:=by
   rw[Ss,R9];exact Zd bs
  rw[e];exact⟨.bl _,H,I.kept (t':=tk) (Wd hk),rfl,q⟩
end
section
end
def Ao(N own:List Str)(scope:UI)(out:List (Str×U5)):Bool :=
 Sa (scope.kind=.function)&&scope.names.all (λy=>Sa (y.2≠.cell))&&scope.names.all (λy=>Sa (y.2≠.local)||decide (scope.names.lookup y.1=RY .local))&&decide N.Nodup&&Sa (N.take own.length=own) &&
 scope.names.all (λy=>Sa (y.2≠.local)||decide (y.1∈own)||decide (y.1=".0"))&&Sa ((".0":Str)∉N)&&scope.names.all (λy=>Sa (y.2≠.free)||decide (out.lookup y.1=RY .cell)||decide (out.lookup y.1=RY .free))&&scope.names.all (λy=>Sa (y.1≠".")&&Sa (y.1≠".."))
theorem u5(hn:X.env.scope.names=out)(ht:dC (N.drop own.length) X.N)(h:Ao N own scope out=R4):dE X N own scope:=by
 unfold Ao at h;simp only[R7,TL,Vw,Û]at h;obtain⟨⟨⟨⟨⟨⟨⟨⟨h1,h2⟩,h3⟩,h4⟩,h5⟩,h6⟩,h7⟩,h8⟩,h9⟩:=h;refine⟨h1,h2,λy hy e=>?_,h4,h5,λy hy e=>?_,h7,ht,λy hy e=>?_,h9⟩
 ·rcases h3 y hy with z|z
  ·exact absurd e z
  ·exact z
 ·rcases h6 y hy with(z|z)|z
  ·exact absurd e z
  ·exact .inl z
  ·exact .inr z
 ·rw[hn];rcases h8 y hy with(z|z)|z
  ·exact absurd e z
  ·exact .inl z
  ·exact .inr z
section
def bb(prog:Tu)(w:T1)(h:Ua)(k:Str×List Str)(a:Sr):Prop :=
 ∃o n t b,h.get? a=RY o/\o.cls=.type "tuple"/\o.data=.seq #[.str k.1 t,.ref b] n/\X5 (PySem.strKind prog w) h k.2 b
theorem bb.typeIs{s:Sm}(x:bb prog w s.heap k a):s.TypeIs (.ref a) "tuple":=let ⟨o,_,_,_,ho,hc,_⟩:=x;⟨o,ho,hc⟩
theorem bb.inj(hx:bb prog w h x a)(hy:bb prog w h y a):x=y:=by
 obtain⟨o,n,t,b,ho,_,hd,hi⟩:=hx;obtain⟨o',n',t',b',EK,_,Gf,FA⟩:=hy;obtain rfl:o=o':=Tq (ho.symm.trans EK);rw[hd]at Gf;injection Gf with h1 _
 simp only[Array.mk.injEq,UY,Value.str.injEq,Value.ref.injEq,and_true]at h1;obtain⟨⟨e1,_⟩,e2⟩:=h1;subst e2;exact Xs e1 (hi.inj FA)
theorem bb.keeps(x:bb prog w h k a)(ho:h.get? d=RY o)(hd:o.data=.dict es ep)(hs:T5 d h h'):bb prog w h' k a:=by
 obtain⟨o',n,t,b,EK,hc,Gf,hi⟩:=x;have Ez:a≠d:=by
  rintro rfl;obtain rfl:o'=o:=Tq (EK.symm.trans ho);rw[hd]at Gf;exact nomatch Gf
 exact⟨o',n,t,b,(hs.2 a Ez).trans EK,hc,Gf,hi.keeps ho hd hs⟩
def mO(prog:Tu)(w:T1)(k:Str×List Str):Int:=reduceHash (TN [(PySem.strKind prog w).hash k.1,Vq (PySem.strKind prog w) k.2])
def u6(prog:Tu)(w:T1)(hh:Ua)(v:Sb)(n:Int)(d:Nat):Prop :=
 ∀{A:UT} {E:Sb->Sm->Prop} {s:Sm} {Q:Int->Sm->Prop},s.heap=hh->A.units<Tx->Q n {s with toks:=s.toks+d}->Se (Sw prog w) A (pyHash v) Q E s
theorem qg(x:Str)(t:Tok):u6 prog w hh (.str x t) ((PySem.strKind prog w).hash x) 1:=λ_ _ h=>(PySem.strKind prog w).pyHash (by simp[PySem.strKind,Ue]) h
theorem mP(hk:X5 (PySem.strKind prog w) hh ks b):u6 prog w hh (.ref b) (Vq (PySem.strKind prog w) ks) (ks.length+1):=λe hu h=>by
 subst e;exact wpAny_pyHash_tuple hu hk h
theorem ip(hu:A.units+1<Tx)(hk:bb prog w s.heap k a)(h:Q (mO prog w k) {s with toks:=s.toks+(k.2.length+3)}):
  Se (Sw prog w) A (pyHash (.ref a)) Q E s:=by
 have hT:=hk.typeIs;obtain⟨o,n,t,b,ho,_,hd,hi⟩:=hk;unfold pyHash
 first|unfold pyHashByItsType|skip
 first|refine RZ (wpAny_cRoomFor_or (.inr ⋯) ?_)|skip
 refine RZ (U' hT PySem.F.slot_tuple_hash.lookup ?_);show Se _ _ (if (RY (Za "tuple.__hash__")==RY S3)=R4 then _ else _) Q E s;rw[Ü (by rw[beq_builtin_none];exact S6)];refine RZ (U' hT PySem.F.slot_tuple_hash.lookup ?_);show Se _ _ (callSpecialIfBoundUnlessNone? (.ref a) "__hash__" _ >>= _) Q E s;refine RZ (wpAny_callSpecialIfBoundUnlessNone?_slot hT PySem.F.slot_tuple_hash (Ts PySem.F.slot_tuple_hash hT PySem.F.entry_tuple_hash ?_ (PySem.F.args_tuple_hash_1 _)));show Se _ _ (Vk (.ref a) >>= _) _ _ s;refine RZ (W6 ho hd ?_);refine RZ ?_;rw[<-Wy];refine V' _
  (λrest (b':Array Int) s'=>(rest=[Tt k.1 t,SD b]/\b'=#[]/\s'=s)\/(rest=[SD b]/\b'.toList=[(PySem.strKind prog w).hash k.1]/\s'={s with toks:=s.toks+1}) \/
   (rest=[]/\b'.toList=[(PySem.strKind prog w).hash k.1,Vq (PySem.strKind prog w) k.2]/\s'={s with toks:=s.toks+1+(k.2.length+1)}))
  _ ?_ ?_ _ _ (.inl ⟨rfl,rfl,rfl⟩)
 ·rintro x rest b' s' (⟨e,rfl,rfl⟩|⟨e,hb,rfl⟩|⟨e,_,_⟩)
  ·cases e;refine RZ (qg k.1 t (hh:=s'.heap) rfl (by show A.units+1<Tx;exact hu) ?_)
   first
    |exact R_ (.inr (.inl ⟨rfl,rfl,rfl⟩))
    |exact RZ (R_ (R_ (.inr (.inl ⟨rfl,rfl,rfl⟩))))
  ·cases e;refine RZ (mP hi rfl (by show A.units+1<Tx;exact hu) ?_)
   first
    |exact R_ (.inr (.inr ⟨rfl,by simp[hb],rfl⟩))
    |exact RZ (R_ (R_ (.inr (.inr ⟨rfl,by simp[hb],rfl⟩))))
  ·cases e
 ·rintro b' s' (⟨e,_,_⟩|⟨e,_,_⟩|⟨_,hb,rfl⟩)
  ·cases e
  ·cases e
  ·show Se _ _ (retInt (TN b'.toList)) _ _ _;rw[hb];refine wpAny_ret_mkInt ?_;have et:s.toks+1+(k.2.length+1)+1=s.toks+(k.2.length+3):=by omega
   show Se _ _ (if (Sa (-(2:Int) ^ 63<=TN [(PySem.strKind prog w).hash k.1,Vq (PySem.strKind prog w) k.2])&&Sa (TN [(PySem.strKind prog w).hash k.1,Vq (PySem.strKind prog w) k.2]<2 ^ 63))=R4 then _ else _) Q E _;unfold mO reduceHash at h;by_cases hr:(Sa (-(2:Int) ^ 63<=TN [(PySem.strKind prog w).hash k.1,Vq (PySem.strKind prog w) k.2])&&Sa (TN [(PySem.strKind prog w).hash k.1,Vq (PySem.strKind prog w) k.2]<2 ^ 63))=R4
   ·rw[Ú hr];rw[Ú hr]at h;exact R_ (by rw[et];exact h)
   ·rw[Ü hr];rw[Ü hr]at h;exact RZ (UJ (R_ (by rw[et];exact h)))
theorem oy(hu:A.units<Tx)(hx:bb prog w s.heap x a)(hy:bb prog w s.heap y b)(h:P (.done (.ret (.bool (Sa (x=y))))) s):
  Se (Sw prog w) A (UU.«tuple.__eq__» ⟨[.ref a,.ref b],[]⟩) P E s:=by
 have Pl:=hy.typeIs;obtain⟨oa,na,ta,pa,Pn,_,L_,JO⟩:=hx;obtain⟨ob,nb,tb,pb,Po,_,Ib,Pp⟩:=hy;show Se _ _ (Zn (.ref b) (.type "tuple") >>= _) _ _ s;refine RZ (U8 Pl Ws ?_);simp only[Ug,S9,á];refine RZ (W6 Pn L_ ?_);refine RZ (W6 Po Ib ?_);refine RZ ?_;refine V' _
  (λrest r s'=>r.1=R3/\s'=s/\((rest=[(Tt x.1 ta,Tt y.1 tb),(SD pa,SD pb)])\/(rest=[(SD pa,SD pb)]/\x.1=y.1)\/(rest=[]/\x=y)))
  _ ?_ ?_ _ _ ⟨rfl,rfl,.inl rfl⟩
 ·rintro⟨u,v⟩ rest r s' ⟨hr,rfl,(e|⟨e,e1⟩|⟨e,_⟩)⟩
  ·cases e;refine RZ ((PySem.strKind prog w).eqBool (a:=x.1) (b:=y.1) (by simp[PySem.strKind,Ue]) (by simp[PySem.strKind,Ue]) ?_);by_cases hk:x.1=y.1
   ·rw[Þ hk];simp only[Ug,S9,á];exact R_ ⟨rfl,rfl,.inr (.inl ⟨by first|rfl|trivial,hk⟩)⟩
   ·rw[Ý hk];simp only[Zh,if_true];rw[Ý (λz=>hk (by rw[z]))]at h;exact RZ (R_ (R_ (R_ h)))
  ·cases e;refine RZ (wpAny_eqBool_tuple hu JO Pp ?_);by_cases hk:x.2=y.2
   ·rw[Þ hk];simp only[Ug,S9,á];exact R_ ⟨rfl,rfl,.inr (.inr ⟨by first|rfl|trivial,Xs e1 hk⟩)⟩
   ·rw[Ý hk];simp only[Zh,if_true];rw[Ý (λz=>hk (by rw[z]))]at h;exact RZ (R_ (R_ (R_ h)))
  ·cases e
 ·rintro⟨r1,r2⟩ s' ⟨hr,rfl,(e|⟨e,_⟩|⟨_,rfl⟩)⟩
  ·cases e
  ·cases e
  ·simp only at hr;subst hr;refine R_ ?_;rw[Þ rfl]at h;exact h
theorem iq(hu:A.units+2<Tx)(hx:bb prog w s.heap x a)(hy:bb prog w s.heap y b)(h:Q (Sa (x=y)) s):
  Se (Sw prog w) A (eqBool (.ref a) (.ref b)) Q E s:=by
 unfold eqBool
 try with_reducible refine Tj ?_
 show Se _ _ (if (SD a==SD b)=R4 then _ else _) Q E s;by_cases Ic:(SD a==SD b)=R4
 ·rw[Ú Ic];have e:a=b:=by have:=Ys Ic;injection this
  subst e;obtain rfl:=hx.inj hy;exact RZ (UJ (R_ (by simpa using h)))
 ·rw[Ü Ic];exact RZ (wpAny_richCompare_same_room (op:=.Eq) hx.typeIs hy.typeIs PySem.F.slot_tuple_eq
   (Ts PySem.F.slot_tuple_eq hx.typeIs PySem.F.entry_tuple_eq (oy (by first|(show A.units+1<Tx;omega)|(show A.units<Tx;omega)|(show A.units+1+1<Tx;omega)) hx hy ⟨_,rfl,(λe=>nomatch e),TC h⟩) (PySem.F.args_tuple_eq_2 _ _)) ⋯)
theorem gL(hk:X5 (PySem.strKind prog w) s.heap ks a)(h:Q R4 s):Se (Sw prog w) A (Yn (n+1) (.ref a)) Q E s:=by
 have hT:=hk.typeIs;obtain⟨o,items,n',ho,_,hd,hi⟩:=hk;unfold Yn;refine RZ (U' hT PySem.F.slot_tuple_eq.lookup ?_);show Se _ _ (Zn (.ref a) (.type "tuple") >>= _) _ _ s;refine RZ (U8 hT Ws ?_);simp only[Ug,S9,á];refine RZ (Vo ho hd ?_);refine RZ ?_;show Se _ _ (forIn items _ _) _ _ s;rw[<-Wy];refine V' _ (λrest r s'=>r.1=R3/\s'=s/\∀v∈rest,carriedByValue v=R4) _ ?_ ?_ _ _ ⟨rfl,rfl,hi.byValue⟩
 ·rintro v rest r s' ⟨hr,rfl,E7⟩;rw[ZF _ (E7 v SR)];refine RZ (R_ ?_);simp only[Ug,S9,á];exact R_ ⟨rfl,rfl,λu Pq=>E7 u (SS _ Pq)⟩
 ·rintro⟨r1,r2⟩ s' ⟨hr,rfl,_⟩;simp only at hr;subst hr;exact R_ h
theorem jb(hk:bb prog w s.heap k a)(h:Q R4 s):Se (Sw prog w) A (Yn 8 (.ref a)) Q E s:=by
 have hT:=hk.typeIs;obtain⟨o,n,t,b,ho,_,hd,hi⟩:=hk;unfold Yn;refine RZ (U' hT PySem.F.slot_tuple_eq.lookup ?_);show Se _ _ (Zn (.ref a) (.type "tuple") >>= _) _ _ s;refine RZ (U8 hT Ws ?_);simp only[Ug,S9,á];refine RZ (Vo ho hd ?_);refine RZ ?_;rw[<-Wy];refine V' _ (λrest r s'=>r.1=R3/\s'=s/\(rest=[Tt k.1 t,SD b]\/rest=[SD b]\/rest=[])) _ ?_ ?_ _ _ ⟨rfl,rfl,.inl rfl⟩
 ·rintro v rest r s' ⟨hr,rfl,(e|e|e)⟩
  ·cases e;rw[ZF _ rfl];refine RZ (R_ ?_);simp only[Ug,S9,á];exact R_ ⟨rfl,rfl,.inr (.inl (by first|rfl|trivial))⟩
  ·cases e;refine RZ (gL hi ?_);simp only[Ug,S9,á];exact R_ ⟨rfl,rfl,.inr (.inr (by first|rfl|trivial))⟩
  ·cases e
 ·rintro⟨r1,r2⟩ s' ⟨hr,rfl,_⟩;simp only at hr;subst hr;exact R_ h
end
def gM(prog:Tu)(w:T1):HeapKind prog w (Str×List Str) where
 is:=bb prog w
 hash:=mO prog w
 draws:=λk=>k.2.length+3
 room:=λA=>A.units+2<Tx
 inj:=λhx hy=>hx.inj hy
 keeps:=λx ho hd hs=>x.keeps ho hd hs
 pyHash:=λhu hk h=>ip ⋯ hk h
 eqBool:=λhu hx hy h=>iq hu hx hy h
 quiet:=λhk h=>jb hk h
abbrev kY:=Str×List Str
def eW(K:PySem.W.Frag)(H:Hp)(v:V)(k:kY):Prop:=∃a b,v=.ref a/\Ef K H a [.str k.1,.ref b]/\Ef K H b (k.2.map V.str)
def iK(P:Tu)(w:T1)(d:Sr)(xs:List (kY×Sr×Sb)):HO:=.ext λh=>(d==TQ)=R5/\∃o es ep,h.get? d=RY o/\o.ExactDict/\o.data=.dict es ep/\es.toList=xs.map (entryOfKey (gM P w))/\(xs.map (·.1)).Nodup
def eM(P:Tu)(w:T1)(K:PySem.W.Frag)(H:Hp)(d:Sr)(ks:List kY):Prop:=∃xs,H d=RY (iK P w d xs)/\xs.map (·.1)=ks/\∀x∈xs,eW K H (.ref x.2.1) x.1
theorem jH:∀{ks:List Str}{its:List Sb},Vals (ks.map V.str) its->ItemsAre (PySem.strKind P w) ks its
 |[],_,.nil=>.nil
 |k::ks,_,.cons r t=>by
  obtain⟨tk,rfl⟩:=r;exact .cons (by simp[PySem.strKind,Ue]) (jH t)
theorem xH(I:Inv X pins σ H s)(e:Ef X.K H b (ks.map V.str)):X5 (PySem.strKind X.prog X.w) s.heap ks b:=by
 obtain⟨its,r,⟨o,h1,h2,n,h3⟩,_⟩:=I.tuple e;exact⟨o,its.toArray,n,h1,h2,h3,by simpa using jH r⟩
theorem jj(I:Inv X pins σ H s)(e:eW X.K H (.ref a) k):bb X.prog X.w s.heap k a:=by
 obtain⟨a',b,q,e1,e2⟩:=e;cases q;obtain⟨its,r,⟨o,h1,h2,n,h3⟩,_⟩:=I.tuple e1;cases r with
 |cons r1 r2 =>
  cases r2 with
  |cons r2 r3 =>
   cases r3;obtain⟨t,rfl⟩:=r1;cases r2;exact⟨o,n,t,b,h1,h2,h3,xH I e2⟩
section
theorem Inv.Dy(I:Inv X pins σ H s):TQ<s.heap.objs.size:=by
 obtain⟨o,es,ep,ho,_⟩:=I.mod.glob;have h1:@U0 Nat _ Tw s.heap.objs.size:=Sg (I.bk _ _ ho);obtain⟨mb,⟨o',DL,Jv,EK,_⟩,_⟩:=I.mod.blt;have h2:@U0 Nat _ Wk s.heap.objs.size:=Sg (I.bk _ _ EK);revert h1 h2;show @U0 Nat _ Tw s.heap.objs.size->@U0 Nat _ Wk s.heap.objs.size->@U0 Nat _ TQ s.heap.objs.size;unfold Tw Wk TQ;omega
theorem jI(I:Inv X pins σ H s)(h:H d=RY (iK X.prog X.w d xs))(hk:∀x∈xs,eW X.K H (.ref x.2.1) x.1):(d==TQ)=R5/\s.heap.DictOfH (gM X.prog X.w) d xs:=by
 obtain⟨⟨h1,o,es,ep,h2,h3,h4,h5,h6⟩,_⟩:=I.DN d _ h;exact⟨h1,o,es,ep,h2,h3,h4,h5,λx hx=>jj I (hk x hx),h6⟩
theorem zh(hd:(d==TQ)=R5)(x:h.DictOfH (gM P w) d xs):bK P w H' h d (iK P w d xs):=by
 obtain⟨o,es,ep,h2,h3,h4,h5,_,h6⟩:=x;exact⟨⟨hd,o,es,ep,h2,h3,h4,h5,h6⟩,⟨o,h2⟩,λh1 h2 ⟨q0,o,es,ep,q1,q2,q3,q4,q5⟩ k=>⟨q0,o,es,ep,k _ q1,q2,q3,q4,q5⟩⟩
theorem xI:PE X (.Dict [] [] pos) (λ_ H Q=>∀p,H p=R3->Q (.ref p) (upd H p (iK X.prog X.w p []))):=λpins s σ H Q I h =>
 ZP ⟨.ref s.heap.objs.size,_,I.laid (a:=s.heap.objs.size) (o:=iK X.prog X.w s.heap.objs.size []) (t':=s.toks) (λ_ _ q=>R8 _ q) (Sv _)
  (zh (à.mpr (Te (Su I.Dy))) (Z7 s.heap)),rfl,h _ (I.DN.fresh (Sv _))⟩
theorem gm(k:kY):(WE xs k).isSome=Sa (k∈xs.map (·.1)):=by
 unfold WE;rw[VJ,Uo,List.find?_isSome,Û,So];constructor
 ·rintro⟨x,hx,e⟩;exact⟨x,hx,of_decide_eq_true e⟩
 ·rintro⟨x,hx,e⟩;exact⟨x,hx,Þ e⟩
theorem tv(hu:X.A.units+3<Tx):E2 X (Ud .NotIn) (λx y H Q=>∃k d ks,eW X.K H x k/\y=.ref d/\eM X.prog X.w X.K H d ks/\Q (.bl (!Sa (k∈ks))) H):=by
 intro pins s σ H x y v u Q I rx ry h;obtain⟨k,d,ks,hx,rfl,⟨xs,hd,Fp,E7⟩,q⟩:=h;cases ry;obtain⟨a,b,rfl,e1,e2⟩:=id hx;cases rx;obtain⟨h1,h2⟩:=jI I hd E7;refine ZY (knd:=gM X.prog X.w) (k:=k) (by show X.A.units+1+2<Tx;omega) (jj I hx) h1 h2 ?_;rw[gm,Fp];exact⟨.bl _,H,I.tok _,rfl,q⟩
theorem xJ(hu:X.A.units+3<Tx):jw X (λo i v H Q=>∃d k ks,o=.ref d/\eW X.K H i k/\eM X.prog X.w X.K H d ks/\k∉ks/\ks.length<=1000/\∀H',eM X.prog X.w X.K H' d (ks++[k])->(∀b,b≠d->H' b=H b)->Q H'):=by
 intro pins s σ H o i v ov iv u Q I ro ri rv h;obtain⟨d,k,ks,rfl,hi,⟨xs,hd,Fp,E7⟩,hn,hl,q⟩:=h;cases ro;obtain⟨a,b,rfl,e1,e2⟩:=id hi;cases ri;obtain⟨h1,h2⟩:=jI I hd E7;have Pt:xs.length<=R6:=by
  have:=ß Tn Fp;rw[R9]at this;rw[this];exact U2 (tp hl)
 refine Zj (hsz:=Pt) (knd:=gM X.prog X.w) (k:=k) (by show X.A.units+1+2<Tx;omega) (jj I hi) h2 λh' HB sb=>?_;have GY:WE xs k=R3:=by
  have:=gm (xs:=xs) k;rw[Fp,Ý hn]at this;cases e:WE xs k with
  |none=>rfl
  |some _=>rw[e]at this;cases this
 rw[storedH_new GY]at HB;obtain⟨o',DL,Jv,g1,_⟩:=id HB;refine⟨upd H d (iK X.prog X.w d (xs++[(k,a,u)])),I.write (x:=d) (e:=d) (by rw[hd];exact Wz) (.inl rfl) (λb q hb z=>(sb.2 b hb).trans z) ⟨o',g1⟩ (zh h1 HB),q _ ⟨_,au,by rw[SO,Fp];rfl,λx hx=>?_⟩ λb hb=>ao hb⟩;have kT:∀{a':Sr} {ys:List V},Ef X.K H a' ys->Ef X.K (upd H d (iK X.prog X.w d (xs++[(k,a,u)]))) a' ys:=λ{a' ys} z=>by
  rcases z with(z|⟨o,z⟩)|z
  ·exact .inl (.inl (by rw[ao (ur z hd (λz=>nomatch z))];exact z))
  ·exact .inl (.inr ⟨o,by rw[ao (ur z hd (λz=>nomatch z))];exact z⟩)
  ·exact .inr z
 have keep:∀{y:V} {k':kY},eW X.K H y k'->eW X.K (upd H d (iK X.prog X.w d (xs++[(k,a,u)]))) y k':=λ{y k'} ⟨a',b',z1,z2,z3⟩=>⟨a',b',z1,kT z2,kT z3⟩
 rcases SA.mp hx with m|m
 ·exact keep (E7 x m)
 ·have:x=(k,a,u):=by simpa using m
  subst this;exact keep hi
end
def Fi(a b:Str):Bool:=!Sa (b.cps.toList<a.cps.toList)
theorem jk(a b:Str):Fi a b=R4↔a.cps.toList<=b.cps.toList:=by
 simp only[Fi,Tr,decide_eq_false_iff_not];exact List.not_lt
theorem lK(a b c:Str)(h1:Fi a b=R4)(h2:Fi b c=R4):Fi a c=R4:=by
 rw[jk]at h1 h2 ⊢;exact List.le_trans h1 h2
theorem tw(a b:Str):(Fi a b||Fi b a)=R4:=by
 rw[Vw,jk,jk];exact List.le_total _ _
theorem u7{x y:Str}(h:x.cps.toList=y.cps.toList):x=y:=by
 cases x;cases y;congr
 exact WZ.mp h
theorem mQ(h1:Fi a b=R4)(h2:Fi b a=R4):a=b:=by
 rw[jk]at h1 h2;exact u7 (List.le_antisymm h1 h2)
def ay(l:List Str):List Str:=l.mergeSort Fi
theorem aR(l:List Str):(ay l).Perm l:=List.mergeSort_perm l Fi
theorem dP(l:List Str):(ay l).Pairwise (λa b=>Fi a b=R4):=List.pairwise_mergeSort lK tw l
theorem gN:∀(l:List Str) (p:Str),risingS p l=R4->(p::l).Pairwise (λa b=>Fi a b=R4)
 |[],p,_=>by simp
 |x::r,p,h=>by
  have h':(!ltCps x.cps.toList p.cps.toList&&risingS x r)=R4:=h;obtain⟨h1,h2⟩:=Uq.mp h';have ih:=gN r x h2;have NM:Fi p x=R4:=by rw[ltCps_eq]at h1;exact h1
  refine VG.mpr ⟨λy hy=>?_,ih⟩;rcases Sn.mp hy with e|e
  ·rw[e];exact NM
  ·exact lK _ _ _ NM ((VG.mp ih).1 y e)
theorem mR(h:sortedS l=R4):l.Pairwise (λa b=>Fi a b=R4):=by
 cases l with
 |nil=>exact .nil
 |cons x r=>exact gN r x h
theorem fC:∀{l m:List Str},l.Perm m->l.Pairwise (λa b=>Fi a b=R4)->m.Pairwise (λa b=>Fi a b=R4)->l=m
 |[],m,hp,_,_=>(List.Perm.nil_eq hp)
 |x::l,m,hp,h1,h2=>by
  cases m with
  |nil=>exact absurd hp.length_eq (by simp)
  |cons y m =>
   obtain⟨a1,a2⟩:=VG.mp h1;obtain⟨b1,b2⟩:=VG.mp h2;have Pu:x=y:=by
    have m1:x∈y::m:=hp.mem_iff.mp SR;have m2:y∈x::l:=hp.mem_iff.mpr SR;rcases Sn.mp m1 with e|e
    ·exact e
    ·rcases Sn.mp m2 with e'|e'
     ·exact e'.symm
     ·exact mQ (a1 y e') (b1 x e)
   subst Pu;rw[fC (List.Perm.cons_inv hp) a2 b2]
theorem u9(hp:l.Perm m)(hs:sortedS l=R4):l=ay m:=fC (hp.trans (aR m).symm) (mR hs) (dP m)
theorem oz(hp:l.Perm m):ay l=ay m:=fC ((aR l).trans (hp.trans (aR m).symm)) (dP l) (dP m)
theorem br(l:List Str):(ay l).length=l.length:=(aR l).length_eq
section
theorem c9:∀{ys:List Str}{its:List Sb},Vals (ys.map V.str) its->Vs its ys
 |[],_,.nil=>.nil
 |y::ys,_,.cons r t=>by
  obtain⟨tk,rfl⟩:=r;exact .cons y tk (c9 t)
theorem cQ:∀{its:List Sb}{ys:List Str},Vs its ys->Vals (ys.map V.str) its
 |_,_,.nil=>.nil
 |_,_,.cons x t h=>.cons ⟨t,rfl⟩ (cQ h)
theorem dZ(hc:Se (Sw prog w) A.in1 (Yx x) (λvs s1=>∃ss,Vs vs ss/\vs.length<64 /\
      ∀(h':Ua) (Ea:List Sb) (e:Nat),(∀b o,s1.heap.get? b=RY o->h'.get? b=RY o)->h'.get? s1.heap.objs.size=RY (TH "list" Ea.toArray e)->Vs Ea (ay ss)->Q (.ref s1.heap.objs.size) {s1 with heap:=h' }) E s) :
    Se (Sw prog w) A (Vj (.builtin "sorted") [x]) Q E s:=by
  refine Xp kind_sorted plain_sorted entry_sorted (args_sorted1 _) ?_;unfold UU.«sorted»;refine RZ (m:=checkCount "sorted" 1 1 _) (R_ ?_);refine RZ (Th hc (λvs s1 h1=>?_) λ_ _ e=>e);obtain⟨ss,hS,Gh,h⟩:=h1
  refine wpAny_bind (wpAny_newList ?_ (by have : (64 : Nat) ≤ sizeLine := by decide
                                          omega))
  have G_:(s1.heap.push (TH "list" vs.toArray 0)).get? s1.heap.objs.size=RY (TH "list" vs.toArray 0):=Sj _ rfl;show Se _ _ _ _ _ {s1 with heap:=s1.heap.push (TH "list" vs.toArray 0)};refine RZ (Tj (Ts Ó ⟨_,G_,rfl⟩ Á (list_sort_treeK strKind_oneLt G_ hS.keysOf (λv₁ v₂ rest e=>keyKind_strs (by rw[<-e];exact hS)) Gh λst' a1 a2=>⟨_,rfl,?_⟩) (Ø _)));obtain⟨FJ,b1,b2,b3⟩:=sorted_out_str hS a1 a2;obtain⟨e,he⟩:=sortedHeap_at (out:=(arrOf st').map (·.2)) G_;rw[u9 b2 b3]at b1;refine R_ ⟨_,rfl,h _ ((arrOf st').map (·.2)).toList e (λb o q=>?_) (by rw[Array.toArray_toList];exact he) b1⟩;have D2:b<s1.heap.objs.size:=Sg q;show(Zr (s1.heap.push (TH "list" vs.toArray 0)) s1.heap.objs.size vs ((arrOf st').map (·.2))).get? b=RY o;rw[Ò (Su D2) (by rw[UM];exact WX D2)];exact R8 _ q
theorem kZ(hl:Ù s.heap l vs.toArray)
  (h:Q vs {s with heap:=(s.heap.push (TH "list" #[] 0)).update s.heap.objs.size (S_ (·++vs.toArray))}) (hsz:vs.length<=R6) :
  Se (Sw prog w) A (Yx (.ref l)) Q E s:=by
 obtain⟨o,ho,hc,n,hd⟩:=id hl;unfold Yx;refine RZ (XZ (T3 entry_proto_collect' ?_));show Se _ _ (do Ð (.builtin "list.__iadd__" ⟨[<-ZD [],.ref l],[]⟩)) _ _ s;refine RZ (Yd (R_ ⟨Yq _ (by decide +kernel),T3 entry_list_iadd' ?_⟩));show Se _ _ (Uy (.ref s.heap.objs.size) (.ref l) (.ref s.heap.objs.size)) _ _ {s with heap:=s.heap.push (TH "list" #[] 0)};unfold Uy;have EK:(s.heap.push (TH "list" #[] 0)).get? l=RY o:=R8 _ ho;refine RZ (U7 (T:="tuple") ⟨o,EK,hc⟩ ?_);have ht:(T_ "tuple"==T_ "tuple")=R4:=by rfl
 rw[Ú (by rw[ht];simp)];refine RZ (YG EK hd ?_);refine RZ (YG (xs:=#[]) (n:=0) (Sj _ rfl) rfl ?_);rw[Ü (by simp)];refine RZ (W4 (xs:=#[]) (n:=0) (Sj _ rfl) rfl ?_ (SM _) (by show(#[]++vs.toArray).size<=R6+1;simp only[WI,Ss,V9];omega));refine R_ ?_;show Se (Sw prog w) A (do
   let o <-load s.heap.objs.size
   match o.data with
   |.seq xs _=>pure xs.toList
   |_=>unsupported "internal:collect") Q E {s with heap:=(s.heap.push (TH "list" #[] 0)).update s.heap.objs.size (S_ (·++vs.toArray))}
 refine RZ (Zk (À (Sj _ rfl) _) ?_);show Se _ _ (pure ((#[]:Array Sb)++vs.toArray).toList) Q E _;rw[show((#[]:Array Sb)++vs.toArray).toList=vs by simp];exact R_ h
end
section
theorem k7{h:Ua}{vs:List Sb}(e:h.get? b=RY o):((h.push (TH "list" #[] 0)).update h.objs.size (S_ (·++vs.toArray))).get? b=RY o:=by
 rw[U4 _ _ _ _ (Su (Sg e))];exact R8 _ e
theorem oA(I:Inv X pins σ H s)(k1:∀b o,s.heap.get? b=RY o->s1.heap.get? b=RY o)(E_:∃h1 t1,s1={s with heap:=h1,toks:=t1})
  (hk:∀b o,s1.heap.get? b=RY o->h'.get? b=RY o) (EY:h'.get? s1.heap.objs.size=RY (TH "list" Ea.toArray e)) (hS:Vs Ea (ay ss)) (hsz:s.heap.objs.size<=s1.heap.objs.size) (hl:ss.length<=R6)
  (q:∀p,H p=R3->Q (.ref p) (upd H p (.lst ((ay ss).map V.str)))):EP X pins σ Q (.ref s1.heap.objs.size) {s1 with heap:=h' }:=by
 obtain⟨h1,t1,rfl⟩:=E_;have I1:Inv X pins σ H {s with heap:=h1,toks:=t1}:=I.kept (t':=t1) k1;refine⟨.ref h1.objs.size,_,I1.laid (t':=t1) (o:=.lst ((ay ss).map V.str)) hk (Sv _) ⟨by rw[R9,br];exact hl,Ea,e,cQ hS,EY⟩,rfl,q _ (I1.DN.fresh (Sv _))⟩
theorem iL:fX X (.builtin "sorted") (λxs H Q=>∃(p:Sr) (ys:List Str),xs=[.ref p]/\(Eg X.K H p (ys.map V.str)\/Ef X.K H p (ys.map V.str))/\ys.length<64/\∀q,H q=R3->Q (.ref q) (upd H q (.lst ((ay ys).map V.str)))):=by
 intro pins s σ H xs us Q I rs h;obtain⟨p,ys,rfl,hq,Gh,q⟩:=h;obtain⟨u,rfl,r⟩:=vals1 rs;cases r;have hl:ys.length<=R6:=U2 (SF Gh (by decide));have fin:∀(its:List Sb),Vals (ys.map V.str) its->∀(h':Ua) (Ea:List Sb) (e:Nat),(∀b o,((s.heap.push (TH "list" #[] 0)).update s.heap.objs.size (S_ (·++its.toArray))).get? b=RY o->h'.get? b=RY o) ->
   h'.get? ((s.heap.push (TH "list" #[] 0)).update s.heap.objs.size (S_ (·++its.toArray))).objs.size=RY (TH "list" Ea.toArray e)->Vs Ea (ay ys) ->
   EP X pins σ Q (.ref ((s.heap.push (TH "list" #[] 0)).update s.heap.objs.size (S_ (·++its.toArray))).objs.size) {s with heap:=h' }:=λits rv h' Ea e hk EY hS =>
  oA (s1:={s with heap:=(s.heap.push (TH "list" #[] 0)).update s.heap.objs.size (S_ (·++its.toArray))}) I (λb o z=>k7 z) ⟨_,s.toks,rfl⟩ hk EY hS (by show s.heap.objs.size<=((s.heap.push (TH "list" #[] 0)).update s.heap.objs.size (S_ (·++its.toArray))).objs.size;rw[Heap.size_update,UM];exact U_ _) hl q
 rcases hq with hq|hq
 ·obtain⟨its,rv,pl,hz⟩:=I.list hq;have el:its.length=ys.length:=by rw[<-rv.length,R9]
  exact dZ (collect_list pl.isList ⟨ys,c9 rv,⋯,λh' Ea e hk EY hS=>fin its rv h' Ea e hk EY hS⟩ ⋯)
 ·obtain⟨its,rv,pl,hz⟩:=I.tuple hq;have el:its.length=ys.length:=by rw[<-rv.length,R9]
  exact dZ (kZ pl ⟨ys,c9 rv,⋯,λh' Ea e hk EY hS=>fin its rv h' Ea e hk EY hS⟩ ⋯)
end
abbrev sK(P:Tu)(w:T1):=PySem.strKind P w
def d0(P:Tu)(w:T1)(h:Ua)(a:Sr)(led:Bool)(D:List Str):Prop :=
 ∃(L:List (Str×Tok)) (es:Array (Int×Sb)) (ep:Nat) (t:VV),h.get? a=RY {cls:=.type "set",dict:=R3,data:=.set es ep t}/\es.toList=L.map (λp=>((sK P w).hash p.1,Tt p.1 p.2)) /\
  (L.map (·.1)).Perm D/\D.Nodup/\t.fits es.size=R4/\es.size<Ut/\t.led=led/\(es.size=0\/t.plain=R5)
section
theorem u_{L:List (Str×Tok)}:ElemsOf (sK prog w) (L.map λp=>((sK prog w).hash p.1,Tt p.1 p.2)):=by
 intro e he;obtain⟨p,_,rfl⟩:=So.mp he;exact⟨⟨p.1,by simp[PySem.strKind,Ue],rfl⟩,rfl⟩
theorem rE(x y:Str)(t:Tok):(sK prog w).is x (.str y t)=Sa (x=y):=by
 rw[Uo];simp[PySem.strKind,Ue];exact⟨λh=>h.symm,λh=>h.symm⟩
theorem qh(t:VV)(es:Array (Int×Sb))(h:Int)(x:Sb):(layNew t es h x).2.1.led=t.led:=by
 unfold layNew;split
 ·show(XQ (t.put _).1 _).led=t.led;unfold XQ;split<;>rfl
 ·rfl
theorem mS(t:VV)(es:Array (Int×Sb))(n:Nat):(X1 t es n).2.1.led=t.led:=by
 unfold X1;split
 ·rename_i t' order he;have:t'.led=t.led:=by
   unfold Yg YA at he;cases hc:X4 (XO n - 1) (es.map (·.1)) with
   |none=>rw[hc]at he;cases he
   |some o=>rw[hc]at he;cases he;rfl
  dsimp only
  split
  ·exact this
  ·rfl
 ·rfl
theorem jJ(t:VV)(es:Array (Int×Sb))(n:Nat)(h:t.plain=R5):(X1 t es n).2.1.plain=R5:=by
 unfold X1;split
 ·rename_i t' order he;have:t'.plain=t.plain:=by
   unfold Yg YA at he;cases hc:X4 (XO n - 1) (es.map (·.1)) with
   |none=>rw[hc]at he;cases he
   |some o=>rw[hc]at he;cases he;rfl
  dsimp only
  split
  ·rw[this];exact h
  ·rfl
 ·rfl
theorem gn(h:l.Perm (L.map λp=>((sK prog w).hash p.1,Tt p.1 p.2))):∃L':List (Str×Tok),l=L'.map (λp=>((sK prog w).hash p.1,Tt p.1 p.2))/\L'.Perm L:=by
 have all:∀e∈l,∃p:Str×Tok,e=((sK prog w).hash p.1,Tt p.1 p.2):=λe he=>by
  obtain⟨p,_,rfl⟩:=So.mp (h.mem_iff.mp he);exact⟨p,rfl⟩
 have ex:∀l:List (Int×Sb),(∀e∈l,∃p:Str×Tok,e=((sK prog w).hash p.1,Tt p.1 p.2))->∃L':List (Str×Tok),l=L'.map (λp=>((sK prog w).hash p.1,Tt p.1 p.2)):=by
  intro l;induction l with
  |nil=>intro _;exact⟨[],rfl⟩
  |cons e l ih =>
   intro ha;obtain⟨p,rfl⟩:=ha e SR;obtain⟨L',rfl⟩:=ih λe he=>ha e (SS _ he);exact⟨p::L',rfl⟩
 obtain⟨L',rfl⟩:=ex l all;refine⟨L',rfl,?_⟩;have g:(L'.map λp=>((sK prog w).hash p.1,Tt p.1 p.2)).map (λe=>match e.2 with|.str x t=>(x,t)|_=>(S5,0))=L':=by
  rw[Sx];exact W8 _
 have g2:(L.map λp=>((sK prog w).hash p.1,Tt p.1 p.2)).map (λe=>match e.2 with|.str x t=>(x,t)|_=>(S5,0))=L:=by
  rw[Sx];exact W8 _
 have:=h.map (λe=>match e.2 with|.str x t=>(x,t)|_=>(S5,0));rw[g,g2]at this;exact this
theorem qi(hS:d0 prog w s.heap a led D)(HC:D.length+1<Ut)
    (h:∀h',T5 a s.heap h'->d0 prog w h' a led (if x∈D then D else D++[x])->Q (Sa (x∉D)) {s with heap:=h' }) :
    Se (Sw prog w) A (setAddHashed a (.str x tk) ((sK prog w).hash x)) Q E s:=by
  obtain⟨L,es,ep,t,ho,GA,Eu,DW,hf,hb,F6,EX⟩:=hS;have Ma:(sK prog w).is x (.str x tk)=R4:=by rw[rE];simp
  have NO:ElemsOf (sK prog w) es.toList:=by rw[GA];exact u_
  have hlen:es.size=D.length:=by rw[<-S7,GA,R9,<-R9 (f:=Ze) (as:=L),Eu.length_eq]
  unfold setAddHashed setAddHashedIn;refine Tj (RZ (TZ ho rfl hf ?_))
  dsimp only
  rw[byScan_of (knd:=sK prog w) rfl hb NO];simp only[↓reduceIte];unfold setAddByScan;refine RZ ?_;refine RZ (UJ ?_);refine RZ (wpAny_setScan_of (knd:=sK prog w) Ma ho rfl hf NO ?_);have mem_iff:(∃e∈es.toList,(sK prog w).is x e.2=R4)↔x∈D:=by
    rw[GA,<-Eu.mem_iff,So];constructor
    · rintro⟨e,he,hi⟩
      obtain⟨p,hp,rfl⟩:=So.mp he;rw[rE,Û]at hi;exact⟨p,hp,hi.symm⟩
    · rintro⟨p,hp,e⟩
      exact⟨_,So.mpr ⟨p,hp,rfl⟩,by rw[rE];simp[e]⟩
  cases hr:Zu (λe=>(sK prog w).is x e.2) es.toList with
  | some j =>
    dsimp only
    obtain⟨hj,Pw,_⟩:=List.findIdx?_eq_some_iff_getElem.mp hr;have hx:x∈D:=mem_iff.mp ⟨es.toList[j],Vn hj,Pw⟩;refine R_ (R_ ?_);have e:s={s with heap:=s.heap}:=by cases s;rfl
    have:=h s.heap (XB a s.heap) (by rw[Ú hx];exact⟨L,es,ep,t,ho,GA,Eu,DW,hf,hb,F6,EX⟩);rw[Ý (λz=>z hx)]at this;rw[e];exact this
  | none =>
    dsimp only
    have hx:x∉D:=λhx=>by
      obtain⟨e,he,hp⟩:=mem_iff.mpr hx;have:=List.findIdx?_eq_none_iff.mp hr e he;rw[hp]at this;exact Bool.noConfusion this
    have Px:∀(b:Bool) {s₁:Sm} {Q':Unit->Sm->Prop},Q' () s₁->Se (Sw prog w) A (match b with|true=>Ç "set.scan.the-table-gave-way"|false=>pure ()) Q' E s₁ :=
      λb s₁ Q' hq=>by cases b<;>first|exact R_ hq|exact UJ hq
    have JP:=layNew_perm t es ((sK prog w).hash x) (.str x tk);have FZ:=layNew_fits t es ((sK prog w).hash x) (.str x tk);have Gi:=qh t es ((sK prog w).hash x) (.str x tk);generalize hL:layNew t es ((sK prog w).hash x) (.str x tk)=NL at JP FZ Gi ⊢;obtain⟨Ep,t1,GB,Py⟩:=NL
    dsimp only at JP FZ Gi ⊢
    rw[Yt,GA,show [((sK prog w).hash x,Tt x tk)]=[(x,tk)].map (λp=>((sK prog w).hash p.1,Tt p.1 p.2)) from rfl,<-SO]at JP;obtain⟨L1,e1,Pz⟩:=gn JP;have Fq:Ep.size=D.length+1:=by rw[<-S7,JP.length_eq,R9,Sy,<-hlen,<-S7,GA,R9];rfl
    have NP:Ep.size<Ut:=by omega
    have HD:(L1.map (·.1)).Perm (D++[x]):=(Pz.map _).trans (by rw[SO];exact Eu.append_right _);have NQ:(D++[x]).Nodup:=by
      rw[SW]
      exact ⟨DW, by simp, fun y hy z hz => by have : z = x := by simpa using hz
                                              subst this;rintro rfl;exact hx hy⟩
    refine RZ (Px _ ?_);have Hd:∀h',T5 a s.heap h'->d0 prog w h' a led (D++[x])->Q R4 {s with heap:=h' }:=λh' sb hs=>by
      have:=h h' sb (by rw[Ü hx];exact hs);rw[Þ hx]at this;exact this
    have tail:∀(g:Bool->Sem Unit),(∀(b:Bool) (s₁:Sm) (Q':Unit->Sm->Prop),Q' () s₁->Se (Sw prog w) A (g b) Q' E s₁)->∀(R:Option Bool->Sm->Prop),(∀h',T5 a s.heap h'->d0 prog w h' a led (D++[x])->R (RY R4) {s with heap:=h' })->∀t2:VV,t2.fits Ep.size=R4->t2.led=led->t2.plain=R5->Se (Sw prog w) A (do
        storeSet a Ep t2
        if (!GB&&t2.tooFull)=true then do
            g (relayAll t2 Ep (SetTable.grown Ep.size)).2.2
            storeSet a (relayAll t2 Ep (SetTable.grown Ep.size)).1 (relayAll t2 Ep (SetTable.grown Ep.size)).2.1
            pure (some true)
          else pure (RY R4)) R E s:=by
      intro g hg R hR t2 PB F7 He;refine RZ (Zw ho rfl ?_ (ZE NP));have JQ:(s.heap.update a (V8 Ep t2)).get? a=RY {cls:=.type "set",dict:=R3,data:=.set Ep (ep+1) t2}:=by
        have:=Tz (V8 Ep t2) ho rfl;exact this
      have JR:=T4 s.heap a (V8 Ep t2);split
      · have hp:=relayAll_perm t2 Ep (Vu Ep.size)
        have Mb:=relayAll_fits t2 Ep (Vu Ep.size);have JS:=mS t2 Ep (Vu Ep.size);have Jb:=jJ t2 Ep (Vu Ep.size) He;generalize JT:X1 t2 Ep (Vu Ep.size)=Rl at hp Mb JS Jb ⊢;obtain⟨Hf,t3,NR⟩:=Rl
        dsimp only at hp Mb JS Jb ⊢
        rw[e1]at hp;obtain⟨L2,e2,PD⟩:=gn hp;have hsz:Hf.size=Ep.size:=by rw[<-S7,hp.length_eq,<-e1,S7]
        refine RZ (hg _ _ _ ?_);refine RZ (Zw JQ rfl ?_ (ZE ⋯));have JU:((s.heap.update a (V8 Ep t2)).update a (V8 Hf t3)).get? a=RY {cls:=.type "set",dict:=R3,data:=.set Hf (ep+1+1) t3}:=Tz (V8 Hf t3) JQ rfl;refine R_ (hR _ (JR.trans (T4 _ a _)) ⟨L2,Hf,_,t3,JU,e2,(PD.map _).trans HD,NQ,Mb,⋯,JS.trans F7,.inr Jb⟩)
      · exact R_ (hR _ JR ⟨L1,Ep,_,t2,JQ,e1,HD,NQ,PB,NP,F7,.inr He⟩)
    split
    · rename_i hp
      refine RZ ?_;rw[hashByValue_scannable 8 rfl];refine R_ ?_;have ep:(if plainKind (Tt x tk)=R4 then t1 else {t1 with plain:=R5})={t1 with plain:=R5}:=rfl;rw[ep];refine tail _ ?_ _ ?_ {t1 with plain:=R5} (SetTable.fits_plain_off FZ) (Gi.trans F6) rfl
      · intro b s₁ Q' hq;cases b<;>first|exact R_ hq|exact UJ hq
      · intro h' Jc Gj;dsimp only;exact R_ (Hd h' Jc Gj)
    · rename_i hp
      refine RZ (R_ ?_);simp only[↓reduceIte];refine tail _ ?_ _ ?_ t1 FZ (Gi.trans F6) (YM.mpr hp)
      · intro b s₁ Q' hq;cases b<;>first|exact R_ hq|exact UJ hq
      · intro h' Jc Gj;dsimp only;exact R_ (Hd h' Jc Gj)
end
def jc(D:List Str)(x:Str):List Str:=if x∈D then D else D++[x]
def aL(l:List Str):List Str:=l.foldl jc []
theorem qj(h:D.Nodup):(jc D x).Nodup:=by
  unfold jc;split
  · exact h
  · rename_i hx
    rw[SW]
    exact ⟨h, by simp, fun y hy z hz => by have : z = x := by simpa using hz
                                           subst this;rintro rfl;exact hx hy⟩
theorem d4:∀(l D:List Str),D.Nodup->(l.foldl jc D).Nodup/\(∀x,x∈l.foldl jc D↔x∈D\/x∈l)/\(l.foldl jc D).length<=D.length+l.length
 |[],D,h=>⟨h,by simp,by simp⟩
 |y::l,D,h=>by
  obtain⟨h1,h2,h3⟩:=d4 l (jc D y) (qj h);have hm:∀x,x∈jc D y↔x∈D\/x=y:=λx=>by
   unfold jc;split
   ·rename_i hy;exact⟨.inl,λz=>z.elim id (λe=>e▸hy)⟩
   ·simp
  have hl:(jc D y).length<=D.length+1:=by
   unfold jc;split
   ·omega
   ·simp
  refine⟨h1,λx=>?_,by rw[W',SE];omega⟩;rw[W',h2,hm,Sn,or_assoc]
theorem gO(l:List Str):(aL l).Nodup:=(d4 l [] VH).1
theorem jK(l:List Str)(x:Str):x∈aL l↔x∈l:=by rw[aL,(d4 l [] VH).2.1];simp
theorem gp(l:List Str):(aL l).length<=l.length:=by have:=(d4 l [] VH).2.2;simpa[aL] using this
theorem oB(l:List Str)(x:Str):aL (l++[x])=jc (aL l) x:=by unfold aL;rw[List.foldl_append];rfl
section
variable{prog:Tu}{w:T1}{A:UT}{R:Result->Sm->Prop}{I:Sr}{fp wr:List Sr}{G:Array GenState->Array GenState->Prop}{n:Nat}{P:Nat->Sb->Prop}{St:Nat->Sm->Prop}
theorem ir(W:WalksS prog w A.in1 I fp wr G n P St)(S:Sr)(JV:S∉fp)(led:Bool)
  (ys:List Str) (hn:ys.length=n) (Ie:∀i v,P i v->∃x t,ys[i]?=RY x/\v=.str x t) (hb:n+1<Ut) :
  ∀(k i:Nat) (s:Sm),n - i=k->i<=n->St i s->d0 prog w s.heap S led (aL (ys.take i)) ->
   (∀s',Moved (S::wr) G s s'->d0 prog w s'.heap S led (aL ys)->R (.ok (.ret .none)) s') ->
   VP (Sw prog w) A (.builtin "set.update.loop" ⟨[.ref S,.ref I],[]⟩) R s:=by
 have NT:S∉wr:=λh=>JV (W.sub _ h);have GC:∀b∈wr,b∈S::wr:=λb hb=>SS _ hb;intro k;induction k with
 |zero =>
  intro i s hk hi DS hS hR;have EH:i=n:=by omega
  subst EH;refine T3 VQ ?_;rw[T6 UG _];show Se _ A.in1 (VS (.ref I) >>= _) _ _ s;refine RZ (W.done s _ _ DS λs' hm=>?_);show Se _ A.in1 (ret S3) _ _ s';rw[TU ⋯]at hS;exact R_ (hR s' (hm.mono GC) (by
   obtain⟨L,es,ep,t,ho,rest⟩:=hS;exact⟨L,es,ep,t,hm.heap S _ NT ho,rest⟩))
 |succ k ih =>
  intro i s hk hi DS hS hR;have D2:i<n:=by omega
  refine T3 VQ ?_;rw[T6 UG _];show Se _ A.in1 (VS (.ref I) >>= _) _ _ s;refine RZ (W.item i s _ _ D2 DS λv s' hP Hg hm=>?_);obtain⟨x,t,hx,rfl⟩:=Ie i v hP;have Gj:d0 prog w s'.heap S led (aL (ys.take i)):=by
   obtain⟨L,es,ep,tb,ho,rest⟩:=hS;exact⟨L,es,ep,tb,hm.heap S _ NT ho,rest⟩
  show Se _ A.in1 (Up [Tt x t] (setAdd S (.str x t)) >>= _) _ _ s';refine RZ (Tj ?_);unfold setAdd;refine Tj ?_;refine RZ ((sK prog w).pyHash (k:=x) (by rw[rE];simp) ?_);have HC:(aL (ys.take i)).length+1<Ut:=by have:=gp (ys.take i);rw[Tv]at this;omega
  refine qi (s:={s' with toks:=s'.toks+1}) Gj HC λh' Jc KZ=>?_;have PF:d0 prog w h' S led (aL (ys.take (i+1))):=by
   rw[List.take_add_one,hx];show d0 prog w h' S led (aL (ys.take i++[x]));rw[oB];exact KZ
  refine R_ ⟨VC UG _,ih (i+1) _ ⋯ D2 (W.frame _ s' _ _ Hg (U_ _) λb hb o e=>?_) PF λJB Mc Md=>?_⟩
  ·rw[Jc.2 b (λh:b=S=>JV (by rw[<-h];exact hb))];exact e
  ·refine hR JB (Moved.trans W.gtrans ((hm.mono GC).then_heap (U_ _) λb o hb e=>?_) Mc) Md;rw[Jc.2 b (λh:b=S=>hb (by rw[h];exact SR))];exact e
end
section
theorem k8(a:Sb)
  (h:Q₁ (.ref s.heap.objs.size) {s with heap:=s.heap.push {cls:=.type "set",dict:=R3,data:=.set #[] 0 (.fresh 0 0 (!w.params.followText "set-order"))}}) :
  VP (Sw prog w) A (.call (.builtin "set.__new__") ⟨[.type "set",a],[]⟩) (wants Q₁ E) s:=by
 refine Z5 ?_;show Se _ A.in1 (do checkBuiltinCall "set.__new__" ⟨[.type "set",a],[]⟩;Ð (.builtin "set.__new__" ⟨[.type "set",a],[]⟩)) _ _ s;refine RZ (XD (PySem.F.newCall_set_1 a) (R_ ⟨VC PySem.F.plain_set_new _,T3 PySem.F.entry_set_new ?_⟩));rw[T6 PySem.F.plain_set_new _];unfold UU.«set.__new__» Y5;have GC:=sub_set_self;obtain⟨hp,g,d,tk,os⟩:=s
 dsimp only
 wp_walk
 refine Xx (R_ ?_)
 dsimp only
 simp only[newObj];refine RZ (wpAny_alloc (R_ ?_));exact R_ h
theorem qk(hg:h.get? a=RY {cls:=.type "set",dict:=R3,data:=.set #[] 0 (.fresh 0 0 led)}):d0 prog w h a led [] :=
 ⟨[],#[],0,_,hg,rfl,.nil,VH,rfl,by unfold Ut;decide,rfl,.inl rfl⟩
end
theorem sub_tuple_set:Ym (.type "tuple") (.type "set")=pure R5:=by rw[WC];kernel_rfl
theorem sub_tuple_frozenset:Ym (.type "tuple") (.type "frozenset")=pure R5:=by rw[WC];kernel_rfl
section
abbrev cG(w:T1):Bool:=!w.params.followText "set-order"
abbrev ql(led:Bool):Obj:={cls:=.type "set",dict:=R3,data:=.set #[] 0 (.fresh 0 0 led)}
theorem gP
  (PH:s.TypeIs (.ref l) T) (PK:Ym (.type T) (.type "set")=pure R5) (PL:Ym (.type T) (.type "frozenset")=pure R5) (Ez:(T_ T==T_ "dict")=R5)
  (hb:ys.length+1<Ut)
  (hit:∀(s1:Sm) (B:UT) (Q':Sb->Sm->Prop),B.handled=A.handled->(∀b o,s.heap.get? b=RY o->s1.heap.get? b=RY o)->s.heap.objs.size<s1.heap.objs.size ->
   (∀I fp wr G P St h1,WalksS prog w B.in1 I fp wr G ys.length P St->(∀g g',G g g'->g'=g)->s.heap.objs.size∉fp->(∀b∈wr,s.heap.objs.size<b)->(∀i v,P i v->∃x t,ys[i]?=RY x/\v=.str x t)->St 0 {s1 with heap:=h1}->(∀b o,s1.heap.get? b=RY o->h1.get? b=RY o)->Q' (.ref I) {s1 with heap:=h1})->Se (Sw prog w) B (X3 (.ref l)) Q' E s1)
  (h:∀(h':Ua) (tk:Nat),d0 prog w h' s.heap.objs.size (cG w) (aL ys)->(∀b o,b<s.heap.objs.size->s.heap.get? b=RY o->h'.get? b=RY o)->Q (.ref s.heap.objs.size) {s with heap:=h',toks:=tk}) :
  Se (Sw prog w) A (Vj (.type "set") [.ref l]) Q E s:=by
 obtain⟨c,tl,PM⟩:=PySem.F.called_set.mro;have NU:=PySem.F.called_set.made;have GC:=PySem.F.called_set.sub;refine wpAny_call (Z5 ?_);show Se _ _ (callAny (.type "set") _) _ _ _;refine R_ ⟨Yq _ (by decide +kernel),T3 PySem.F.entry_type_call ?_⟩;rw[Around.under_plain (weight_type_call_type "set" [.ref l] []) rfl];have h1:=PySem.F.called_set.notType;have h2:=PySem.F.called_set.canCreate;have Ry:=PySem.F.typeCall_set_1 (.ref l)
 repeat (any_goals (first|assumption|wp_step))
 refine Wi (k8 (.ref l) (E:=E) (Q₁:=λobj s₁=>obj=.ref s.heap.objs.size/\s₁={s with heap:=s.heap.push (ql (cG w))}) ⟨rfl,rfl⟩) λr s₁ hr=>?_;cases r with
 |error e=>exact hr
 |ok fl =>
  cases fl with
  |ret obj =>
   obtain⟨rfl,rfl⟩:=hr;have hS:(s.heap.push (ql (cG w))).get? s.heap.objs.size=RY (ql (cG w)):=Sj _ rfl;have hT:VM {s with heap:=s.heap.push (ql (cG w))} (.ref s.heap.objs.size) "set":=⟨_,hS,rfl⟩
   have Rz:=PySem.F.called_set.init.lookup;have RA:=PySem.F.called_set.init.bind (.ref s.heap.objs.size)
   repeat (any_goals (first|assumption|wp_step))
   refine Wi (codeAny_call_builtin (R:=wants (λr s₂=>r=.none/\∃h' tk,s₂={s with heap:=h',toks:=tk} /\
     d0 prog w h' s.heap.objs.size (cG w) (aL ys) /\
     (∀b o,b<s.heap.objs.size->s.heap.get? b=RY o->h'.get? b=RY o)) E) PySem.F.called_set.init.plain PySem.F.entry_set_init (check_set_init_1 hT ?_)) λr₂ s₂ Mg=>?_
   ·obtain⟨ol,JW,Ig⟩:=PH;obtain⟨PN,JX,JY,Ih⟩:=ol;simp only at Ig;subst Ig;have Mh:(s.heap.push (ql (cG w))).get? l=RY {cls:=.type T,dict:=JX,data:=JY,slots:=Ih}:=R8 _ JW;have RB:VM {s with heap:=s.heap.push (ql (cG w))} (.ref l) T:=⟨_,Mh,rfl⟩
    unfold UU.«set.__init__» noKeywords Y2;generalize PQ:X3=PI
    wp_walk
    subst PQ;refine hit {s with heap:=s.heap.push (ql (cG w))} _ _ rfl (λb o e=>R8 _ e) (by rw[UM];exact V5 _) λI fp wr G P St h1 W hG hf PR Ie DS hk=>?_;refine RZ (XZ ?_);refine ir W s.heap.objs.size hf (cG w) ys rfl Ie hb (ys.length - 0) 0 _ ⋯ (SM _) DS (qk (hk _ _ hS)) ?_;intro s' hm Gj;obtain⟨h',g',d',K3,LO⟩:=s';have eg:g'=s.gens:=hG _ _ hm.gens;have ed:d'=s.drawn:=hm.drawn;have eo:LO=s.os:=hm.os;subst eg;subst ed;subst eo;show Se _ _ _ _ _ _;refine R_ ?_;show Se _ _ (ret S3) _ _ _;refine R_ ⟨rfl,h',K3,rfl,Gj,λb o FH e=>?_⟩;exact hm.heap b o (λz=>by
     rcases Sn.mp z with z|z
     ·rw[z]at FH;exact TR _ FH
     ·exact absurd (PR b z) (Nat.not_lt_of_lt FH)) (hk _ _ (R8 _ e))
   ·cases r₂ with
    |error e=>exact Mg
    |ok PU =>
     cases PU with
     |ret r =>
      obtain⟨rfl,h',tk,rfl,Gj,EF⟩:=Mg
      repeat (any_goals (first|assumption|wp_step))
      exact h _ _ Gj EF
     |_=>exact Mg.elim
  |_=>exact hr.elim
end
section
theorem mT:∀{vs:List Sb}{ss:List Str},Vs vs ss->∀(i:Nat) (v:Sb),vs[i]?=RY v->∃x t,ss[i]?=RY x/\v=.str x t
 |_,_,.nil,i,v,h=>by simp at h
 |_,_,.cons x t h,0,v,e=>by simp at e;exact⟨x,t,rfl,e.symm⟩
 |_,_,.cons x t h,i+1,v,e=>by rw[V1]at e;rw[V1];exact mT h i v e
theorem gQ:∀{vs:List Sb}{ss:List Str},Vs vs ss->vs.length=ss.length
 |_,_,.nil=>rfl
 |_,_,.cons x t h=>by simp[gQ h]
theorem rF(h1:n≠S)(h2:n≠l):n∉[S,l]:=by simp[h1,h2]
theorem jL(hh:A.handled=R3)(hl:s.heap.IsList l vs.toArray)(hS:Vs vs ys)(hb:ys.length+1<Ut)
  (h:∀(h':Ua) (tk:Nat),d0 prog w h' s.heap.objs.size (cG w) (aL ys)->(∀b o,b<s.heap.objs.size->s.heap.get? b=RY o->h'.get? b=RY o)->Q (.ref s.heap.objs.size) {s with heap:=h',toks:=tk}) :
  Se (Sw prog w) A (Vj (.type "set") [.ref l]) Q E s:=by
 have JZ:l<s.heap.objs.size:=let ⟨o,ho,_⟩:=hl;Sg ho;refine gP hl.typeIs PySem.F.sub_list_set PySem.F.sub_list_frozenset (by decide) hb (λs1 B Q' hB hk D2 hq=>?_) h;have Gi:s1.heap.IsList l vs.toArray:=let ⟨o,ho,r⟩:=hl;⟨o,hk _ _ ho,r⟩;refine Vp Gi ?_;have Ii:l≠s1.heap.objs.size:=Su (VE JZ D2);have W:=(Wu (prog:=prog) (w:=w) (A:=B.in1) (by simp[hB,hh]) s1.heap.objs.size l Ii vs.toArray).toS;have el:vs.toArray.size=ys.length:=by simp[gQ hS]
 rw[el]at W;refine hq _ _ _ _ _ _ _ W (λ_ _ e=>e) (rF (Su D2) (Ur JZ)) (λb hb=>by rw[SX.mp hb];exact D2) (λi v hv=>mT hS i v (by simpa using hv)) ⟨⟨_,Sj _ rfl,rfl,rfl⟩,Gi.push _⟩ λb o e=>R8 _ e
theorem k9(hh:A.handled=R3)(hl:s.heap.IsTuple l vs.toArray)(hS:Vs vs ys)(hb:ys.length+1<Ut)
  (h:∀(h':Ua) (tk:Nat),d0 prog w h' s.heap.objs.size (cG w) (aL ys)->(∀b o,b<s.heap.objs.size->s.heap.get? b=RY o->h'.get? b=RY o)->Q (.ref s.heap.objs.size) {s with heap:=h',toks:=tk}) :
  Se (Sw prog w) A (Vj (.type "set") [.ref l]) Q E s:=by
 have JZ:l<s.heap.objs.size:=let ⟨o,ho,_⟩:=hl;Sg ho;refine gP hl.typeIs sub_tuple_set sub_tuple_frozenset (by decide) hb (λs1 B Q' hB hk D2 hq=>?_) h;have Gi:s1.heap.IsTuple l vs.toArray:=let ⟨o,ho,r⟩:=hl;⟨o,hk _ _ ho,r⟩;refine Vc Gi ?_;have Ii:l≠s1.heap.objs.size:=Su (VE JZ D2);have W:=(Walks.tuple (prog:=prog) (w:=w) (A:=B.in1) (by simp[hB,hh]) s1.heap.objs.size l Ii vs.toArray).toS;have el:vs.toArray.size=ys.length:=by simp[gQ hS]
 rw[el]at W;refine hq _ _ _ _ _ _ _ W (λ_ _ e=>e) (rF (Su D2) (Ur JZ)) (λb hb=>by rw[SX.mp hb];exact D2) (λi v hv=>mT hS i v (by simpa using hv)) ⟨⟨_,Sj _ rfl,rfl,rfl⟩,let ⟨o,ho,r⟩:=Gi;⟨o,R8 _ ho,r⟩⟩ λb o e=>R8 _ e
theorem mU(hn:n≠0)(h:∀i<n,Q i {s with drawn:=s.drawn.bump src}):Se M A (choose src n) Q E s:=λΓ p hΓ=>by
 show Sem.wp M Γ (.choose src n .pure) _ _ p s;rw[Sem.wp_choose];exact⟨hn,h _ (XC _ (Nat.pos_of_ne_zero hn))⟩
theorem gq:∀{xs:List α}{i:Nat}{x:α},xs[i]?=RY x->(x::xs.eraseIdx i).Perm xs
 |[],i,x,h=>by simp at h
 |y::ys,0,x,h=>by simp at h;subst h;exact .refl _
 |y::ys,i+1,x,h=>by
  rw[V1]at h;rw[List.eraseIdx_cons_succ];exact(List.Perm.swap y x _).trans ((gq h).cons y)
theorem f7:∀(n:Nat) (xs:List α) (s:Sm) (Q:List α->Sm->Prop),xs.length=n->(∀ys d,ys.Perm xs->Q ys {s with drawn:=d})->Se M A (drawOrder n xs) Q E s
 |0,xs,s,Q,hn,h=>by
  have:xs=[]:=VY.mp hn;subst this;exact R_ (h [] s.drawn (.refl _))
 |n+1,[],s,Q,hn,h=>by simp at hn
 |n+1,y::ys,s,Q,hn,h=>by
  show Se M A (choose .order (y::ys).length >>= _) Q E s;refine RZ (mU (by simp) λi hi=>?_);have e:(y::ys)[i]?=RY ((y::ys)[i]'hi):=U6 hi;have hp:=gq e;generalize (y::ys)[i]'hi=x at e hp;simp only[e];refine RZ (f7 n _ _ _ (by have:=hp.length_eq;simp at this hn ⊢;omega) λzs d hz=>?_);exact R_ (h (x::zs) d ((hz.cons x).trans hp))
theorem iM(next:Nat->Nat):∀(fuel k:Nat) (left:List α) (out:Array α),left.length=fuel->(Xh next fuel k left out).toList.Perm (out.toList++left)
 |0,k,left,out,hl=>by
  have:left=[]:=VY.mp hl;subst this;simp[Xh]
 |fuel+1,k,left,out,hl=>by
  unfold Xh;have D2:next k % left.length<left.length:=XC _ ⋯;have e:left[next k % left.length]?=RY (left[next k % left.length]'D2):=U6 D2;have hp:=gq e;generalize left[next k % left.length]'D2=x at e hp;simp only[e];refine(iM next fuel _ _ _ (by have:=hp.length_eq;simp at this;omega)).trans ?_;rw[Yt,YL];exact(hp.append_left _)
theorem eX(next:Nat->Nat)(xs:Array α):(Xz next xs).toList.Perm xs.toList:=by
 have:=iM next xs.size 0 xs.toList #[] (by simp);simpa[Xz] using this
end
namespace SI
theorem oC:Manifest.owners.lookup (String.ofList ['r','o','t','a','r','e','t','i','_','t','e','s'].reverse)=RY Manifest.sig_set_iterator:=by kernel_rfl
theorem slot_next:Slot "set_iterator" "__next__" "set_iterator.__next__" :=
 .of (owner:="set_iterator") (n:="__next__") (by rw[XJ,Wt];kernel_rfl) (by decide +kernel) (by decide +kernel) (by decide +kernel)
  (by first|exact .inl (by decide +kernel)|exact .inr (by decide +kernel)) (by rw[WC];kernel_rfl)
theorem entry_next:YZ table "set_iterator.__next__"=RY UU.«set_iterator.__next__»:=ZQ (by kernel_rfl)
theorem args_next(a:Sb):Ï "set_iterator.__next__" ⟨[a],[]⟩:=by
 unfold Ï;rw[signature?_of (id:="set_iterator.__next__") (n:=['_','_','t','x','e','n','_','_']) (o:=['r','o','t','a','r','e','t','i','_','t','e','s']) (by kernel_rfl) oC];kernel_rfl
theorem lL:Slot "set_iterator" "__iter__" "set_iterator.__iter__" :=
 .of (owner:="set_iterator") (n:="__iter__") (by rw[XJ,Wt];kernel_rfl) (by decide +kernel) (by decide +kernel) (by decide +kernel)
  (by first|exact .inl (by decide +kernel)|exact .inr (by decide +kernel)) (by rw[WC];kernel_rfl)
theorem tD(a:Sb):Ï "set_iterator.__iter__" ⟨[a],[]⟩:=by
 unfold Ï;rw[signature?_of (id:="set_iterator.__iter__") (n:=['_','_','r','e','t','i','_','_']) (o:=['r','o','t','a','r','e','t','i','_','t','e','s']) (by kernel_rfl) oC];kernel_rfl
theorem qm:YZ table "set_iterator.__iter__"=RY UU.«dict_keyiterator.__iter__» :=
 Í (id':="dict_keyiterator.__iter__") (by kernel_rfl) (by first|rfl|decide +kernel|(unfold String.splitOn;simp +decide [String.splitOnAux])) (by decide +kernel) (by kernel_rfl)
theorem jM:YZ table "set.__iter__"=RY UU.«frozenset.__iter__» :=
 Í (id':="frozenset.__iter__") (by kernel_rfl) rfl (by decide +kernel) (by kernel_rfl)
end SI
section
variable{prog:Tu}{w:T1}{A:UT}{E:Sb->Sm->Prop}{s:Sm}
def gr(h:Ua)(I:Sr)(first:Sb)(i:Nat)(S:Sr)(n ep:Nat):Prop:=∃o,h.get? I=RY o/\o.cls=.type "set_iterator"/\o.data=.fields #[first,To i,.ref S,To n,To ep]
theorem gr.typeIs(x:gr s.heap I f i S n ep):s.TypeIs (.ref I) "set_iterator":=let ⟨o,ho,hc,_⟩:=x;⟨o,ho,hc⟩
theorem xK(hit:gr s.heap I f i S n ep)(h:Q (.ref I) s):Se (Sw prog w) A (X3 (.ref I)) Q E s:=by
 refine Zy hit.typeIs SI.lL (Ts SI.lL hit.typeIs SI.qm ?_ (SI.tD _));show Se _ _ (ret (.ref I)) _ _ s;exact R_ ⟨_,rfl,"set_iterator",_,hit.typeIs,SI.slot_next.lookup,h⟩
theorem d5(h:Q (M.w.params.followText "set-order") s):Se M A setsByText Q E s:=by
 unfold setsByText;exact RZ (Xx (R_ h))
end
end L2
namespace L2
open PySem PySem.Spec PyProof.Rows
section
variable{prog:Tu}{w:T1}{A:UT}{E:Sb->Sm->Prop}{s:Sm}
abbrev mV(es:Array (Int×Sb))(ep:Nat)(t:VV):Obj:={cls:=.type "set",dict:=R3,data:=.set es ep t}
theorem oD{I:Sr}{B:UT}{Q:Option Sb->Sm->Prop}{h1:Ua}{k:Sb->Sem (Option Sb)}(hh:B.handled=R3)
  (hQ:∀h',(∀b o,h1.get? b=RY o->h'.get? b=RY o)->∀e,VM {s with heap:=h' } e "StopIteration"->E e {s with heap:=h' }) {Q':Fin->Sm->Prop} :
  Se (Sw prog w) B (Yw (.type "StopIteration") [] >>= λe=>(X2 e:Sem Fin)) Q' E {s with heap:=h1}:=by
 refine RZ ?_;simp only[Yw,Ê];refine RZ (Tb ?_ (by size_fits));refine RZ (m:=WD _ _) (XD (a:=S3) (by first|rfl|(simp only[WD];rfl)) ?_);refine Tb ?_ (by size_fits);simp only[X2];refine RZ (wpAny_handled ?_);rw[hh];refine RZ (R_ (wpAny_throw ?_));exact hQ _ (λb o e=>R8 _ (R8 _ e)) _ ⟨_,Sj _ rfl,rfl⟩
theorem rG{I S:Sr}{first:Sb}{i ep:Nat}{es:Array (Int×Sb)}{t:VV}(hit:gr s.heap I first i S es.size ep)(ho:s.heap.get? S=RY (mV es ep t))(hf:t.fits es.size=R4)
  (J0:∀(Q':Fin->Sm->Prop) (E':Sb->Sm->Prop) ,(∀v s',Q (RY v) s'->Q' (.done (.ret v)) s')->(∀e s',s'.TypeIs e "StopIteration"->Q R3 s'->E' e s') ->
   Se (Sw prog w) A.in1 (if let .int slot _:=first then(do
     match <-Xe S slot.toNat i ep with
     |some (x,next) =>
      Xf (.ref I) 0 (To next)
      Xf (.ref I) 1 (To ((i:Int)+1))
      ret x
     |none=>Xf (.ref I) 2 .none;X2 (<-Yw (.type "StopIteration") []))
    else(do
     let RY places <-Xy first|unsupported "internal:set_iterator"
     match places[i]? with
     |some (.int place _) =>
      let x <-Yv S place.toNat ep
      Xf (.ref I) 1 (To ((i:Int)+1))
      ret x
     |some _=>unsupported "internal:set_iterator"
     |none=>Xf (.ref I) 0 (To 0);Xf (.ref I) 2 .none;X2 (<-Yw (.type "StopIteration") []))) Q' E' s):Se (Sw prog w) A (VS (.ref I)) Q E s:=by
 obtain⟨o,hI,hc,hd⟩:=id hit;unfold VS;refine RZ (wpAny_attempt (Uc (name:=Vf "__next__") hit.typeIs SI.slot_next
  (Ts SI.slot_next hit.typeIs SI.entry_next ?_ (SI.args_next _))))
 unfold UU.«set_iterator.__next__»;refine RZ (XD (a:=(SD I,[])) rfl ?_)
 try dsimp only
 refine RZ (wpAny_fieldsOf hI hd ?_)
 try dsimp only
 refine RZ (Y' ho rfl hf ?_);rw[Ü (by simp)];refine Th (J0 (λfin s'=>∃r,fin=.done (.ret r)/\Q (RY r) s') (λe s'=>s'.TypeIs e "StopIteration"/\Q R3 s') (λv s' q=>⟨v,rfl,q⟩) λe s' z q=>⟨z,q⟩) ?_ ?_
 ·rintro fin s' ⟨r,rfl,q⟩;exact⟨r,rfl,R_ q⟩
 ·rintro e s' ⟨z,q⟩;refine RZ (U8 (T:="StopIteration") (b:=R4) z Ë ?_);exact R_ q
end
section
theorem rH{I S:Sr}{f f':Sb}{i n ep:Nat}{h:Ua}{o:Obj}(hI:h.get? I=RY o)(hc:o.cls=.type "set_iterator")(hd:o.data=.fields #[f,To i,.ref S,To n,To ep]):
  gr (h.update I (ZJ (·.setIfInBounds 1 (To ((i:Int)+1))))) I f (i+1) S n ep :=
 ⟨_,Tz _ hI (Wb (UD hd _)),(WU ..).trans hc,by rw[UD hd];simp⟩
theorem oE{h:Ua}(hI:h.get? I=RY o)(hc:o.cls=.type "set_iterator")(hd:o.data=.fields #[f,To i,.ref S,To n,To ep]):
  ∃o',(h.update I (ZJ (·.setIfInBounds 0 f'))).get? I=RY o'/\o'.cls=.type "set_iterator"/\o'.data=.fields #[f',To i,.ref S,To n,To ep] :=
 ⟨_,Tz _ hI (Wb (UD hd _)),(WU ..).trans hc,by rw[UD hd];simp⟩
theorem vb{I S:Sr}{slot i ep:Nat}{es:Array (Int×Sb)}{t:VV}{Q:Option Sb->Sm->Prop}(hit:gr s.heap I (To slot) i S es.size ep)(ho:s.heap.get? S=RY (mV es ep t))(hf:t.fits es.size=R4)(hh:A.handled=R3)
  {r:Option (Sb×Nat)} (hn:∀(B:UT) (E':Sb->Sm->Prop) (Q':Option (Sb×Nat)->Sm->Prop),Q' r s->Se (Sw prog w) B (Xe S slot i ep) Q' E' s)
  (h1:∀x nx,r=RY (x,nx)->∀h',gr h' I (To nx) (i+1) S es.size ep->T5 I s.heap h'->Q (RY x) {s with heap:=h' })
  (h2:r=R3->∀h',(∀b o,b≠I->s.heap.get? b=RY o->h'.get? b=RY o)->Q R3 {s with heap:=h' }):Se (Sw prog w) A (VS (.ref I)) Q E s:=by
 refine rG hit ho hf λQ' E' q1 q2=>?_;obtain⟨o,hI,hc,hd⟩:=id hit;show Se _ _ (Xe S slot i ep >>= _) _ _ s;refine RZ (hn _ _ _ ?_);cases r with
 |some p =>
  obtain⟨x,nx⟩:=p
  dsimp only
  refine RZ (UC hI hd (by simp) ?_);obtain⟨o',e1,e2,e3⟩:=oE (f':=To nx) hI hc hd;refine RZ (UC (s:={s with heap:=_}) e1 e3 (by simp) ?_);exact R_ (q1 _ _ (h1 x nx rfl _ (rH (f':=To nx) e1 e2 e3) ((T4 ..).trans (T4 ..))))
 |none =>
  dsimp only
  refine RZ (UC hI hd (by simp) ?_);refine oD (I:=I) (k:=λ_=>pure R3) (Q:=λ_ _=>True) (s:=s) (by simpa using hh) λh' hk e he=>q2 e _ he (h2 rfl h' λb ob hb eb=>hk b ob ?_);rw[U4 _ _ _ _ hb];exact eb
theorem Ap{I S T:Sr}{i ep:Nat}{es:Array (Int×Sb)}{t:VV}{pl:List Nat}{Q:Option Sb->Sm->Prop}(hit:gr s.heap I (.ref T) i S es.size ep)(ho:s.heap.get? S=RY (mV es ep t))(hf:t.fits es.size=R4)(hh:A.handled=R3)
  (hT:s.heap.IsTuple T ((pl.map λ(j:Nat)=>To j).toArray))
  (h1:∀(j:Nat) (e:Int×Sb),pl[i]?=RY j->es[j]?=RY e->∀h',gr h' I (.ref T) (i+1) S es.size ep->T5 I s.heap h'->Q (RY e.2) {s with heap:=h' })
  (hp:∀j∈pl,j<es.size)
  (h2:pl[i]?=R3->∀h',(∀b o,b≠I->s.heap.get? b=RY o->h'.get? b=RY o)->Q R3 {s with heap:=h' }):Se (Sw prog w) A (VS (.ref I)) Q E s:=by
 refine rG hit ho hf λQ' E' q1 q2=>?_;obtain⟨o,hI,hc,hd⟩:=id hit;obtain⟨oT,PV,RC,nT,PX⟩:=hT;show Se _ _ (Xy (.ref T) >>= _) _ _ s;refine RZ (Vo PV PX ?_);cases e:pl[i]? with
 |some j =>
  have e':(pl.map λ(j:Nat)=>To j).toArray[i]?=RY (To j):=by simp[e]
  simp only[e'];have hj:j<es.size:=hp j (SY e);have ej:es[j]?=RY (es[j]'hj):=by simp[hj]
  show Se _ _ (Yv S (j:Int).toNat ep >>= _) _ _ s;unfold Yv;rw[TY];refine RZ (RZ (TZ ho rfl hf ?_))
  dsimp only
  rw[Ü (by simp)];generalize es[j]'hj=p at ej;simp only[ej];refine R_ ?_;refine RZ (UC hI hd (by simp) ?_);exact R_ (q1 _ _ (h1 j p e ej _ (rH (f':=.ref T) hI hc hd) (T4 ..)))
 |none =>
  have e':(pl.map λ(j:Nat)=>To j).toArray[i]?=R3:=by simp at e ⊢;exact e
  simp only[e'];refine RZ (UC hI hd (by simp) ?_);obtain⟨o',e1,e2,e3⟩:=oE (f':=To 0) hI hc hd;refine RZ (UC (s:={s with heap:=_}) e1 e3 (by simp) ?_);refine oD (I:=I) (k:=λ_=>pure R3) (Q:=λ_ _=>True) (s:=s) (by simpa using hh) λh' hk ex he=>q2 ex _ he (h2 e h' λb ob hb eb=>hk b ob ?_);rw[U4 _ _ _ _ hb,U4 _ _ _ _ hb];exact eb
end
section
theorem gr.at(x:gr h I f i S n ep)(e:∀o,h.get? I=RY o->h'.get? I=RY o):gr h' I f i S n ep:=let ⟨o,ho,r⟩:=x;⟨o,e _ ho,r⟩
theorem jN(hh:A.handled=R3)(Ez:S≠I)(hf:t.fits es.size=R4)(T:Sr)(hT:T≠I)(ord:List Sb)(hlen:ord.length=es.size)
  (first:Nat->Sb) (side:Ua->Prop) (F0:∀h h',side h->(∀o,h.get? T=RY o->h'.get? T=RY o)->side h')
  (FX:∀(s:Sm) (i:Nat) (E:Sb->Sm->Prop) (Q:Option Sb->Sm->Prop),i<=es.size->side s.heap->gr s.heap I (first i) i S es.size ep->s.heap.get? S=RY (mV es ep t) ->
   (∀x,ord[i]?=RY x->∀h',gr h' I (first (i+1)) (i+1) S es.size ep->T5 I s.heap h'->Q (RY x) {s with heap:=h' }) ->
   (ord[i]?=R3->∀h',(∀b o,b≠I->s.heap.get? b=RY o->h'.get? b=RY o)->Q R3 {s with heap:=h' })->Se (Sw prog w) A (VS (.ref I)) Q E s) :
  Walks prog w A I [I,S,T] [I] es.size (λi v=>ord[i]?=RY v) (λi h=>i<=es.size/\gr h I (first i) i S es.size ep/\h.get? S=RY (mV es ep t)/\side h) where
 sub:=λb hb=>by rw[SX.mp hb];simp
 frame:=λi h h' x hk=>⟨x.1,x.2.1.at λo e=>hk I (by simp) o e,hk S (by simp) _ x.2.2.1,F0 h h' x.2.2.2 λo e=>hk T (by simp) o e⟩
 item:=λi s Q E hi x hQ=>by
  refine FX s i E Q x.1 x.2.2.2 x.2.1 x.2.2.1 (λv hv h' hit hs=>?_) λz=>absurd z (by simp;omega);refine hQ v h' s.toks hv ⟨hi,hit,?_,F0 _ h' x.2.2.2 λo e=>?_⟩ λb o hb e=>?_
  ·rw[hs.2 S Ez];exact x.2.2.1
  ·rw[hs.2 T hT];exact e
  ·rw[hs.2 b λz=>hb (by simp[z])];exact e
 done:=λs Q E x hQ=>by
  refine FX s es.size E Q x.1 x.2.2.2 x.2.1 x.2.2.1 (λv hv=>absurd hv (by rw[List.getElem?_eq_none ⋯];simp)) λ_ h' hk=>hQ h' s.toks λb o hb e=>hk b o (λz=>hb (by simp[z])) e
 self:=λi s Q E x hQ=>xK x.2.1 hQ
theorem mW(ho:s.heap.get? S=RY (mV es ep t))(hf:t.fits es.size=R4)(h:Q (!w.params.followText "set-order"&&(!t.plain&&Sa (es.size>1))) s):Se (Sw prog w) A (setDrawn S) Q E s:=by
 unfold setDrawn;refine RZ (TZ ho rfl hf ?_)
 dsimp only
 exact RZ (d5 (R_ h))
theorem mX(hw:w.params.followText "set-order"=R4)(ho:s.heap.get? S=RY (mV es ep t))(hf:t.fits es.size=R4)
  (h:Q ((Xz (w.params.setOrder S ep) es)[i]?.map λe=>(e.2,0)) s):Se (Sw prog w) A (Xe S 0 i ep) Q E s:=by
 unfold Xe;refine RZ (TZ ho rfl hf ?_)
 dsimp only
 refine RZ (d5 ?_);show Se _ _ (if (w.params.followText "set-order")=R4 then _ else _) _ _ s;rw[Ú hw];rw[Ü (by simp)];unfold setWalk;refine RZ (RZ (TZ ho rfl hf ?_))
 dsimp only
 refine RZ (d5 ?_);show Se _ _ (if (w.params.followText "set-order")=R4 then _ else _) _ _ s;rw[Ú hw];refine RZ (Xx (R_ ?_));exact R_ h
theorem oF(hw:w.params.followText "set-order"=R5)(ho:s.heap.get? S=RY (mV es ep t))(hf:t.fits es.size=R4)(hl:t.led=R4)(h1:es.size<=1)
    (h:Q (match es[Us t.place slot]?,t.place[Us t.place slot]? with|some (_,x),RY j=>RY (x,j+1)|_,_=>R3) s):Se (Sw prog w) A (Xe S slot i ep) Q E s:=by
  unfold Xe;refine RZ (TZ ho rfl hf ?_)
  dsimp only
  refine RZ (d5 ?_);show Se _ _ (if (w.params.followText "set-order")=R4 then _ else _) _ _ s;rw[Ü (by rw[hw];simp)];show Se _ _ (if (!t.plain&&Sa (es.size>1))=R4 then _ else _) _ _ s
  rw [if_neg (by have : decide (es.size > 1) = false := decide_eq_false (by omega)
                 rw[this];simp)]
  show Se _ _ ((if (!t.led&&!es.isEmpty)=R4 then _ else _) >>= _) _ _ s;rw[Ü (by rw[hl];simp)];exact RZ (R_ (R_ h))
theorem oG(es:Array (Int×Sb))(pl:Array Nat)(i:Nat)(h1:es.size<=1)(h2:pl.size=es.size)(h3:i<=es.size):
  (match es[Us pl (if i=0 then 0 else(pl[0]?).getD 0+1)]?,pl[Us pl (if i=0 then 0 else(pl[0]?).getD 0+1)]? with|some (_,x),RY j=>RY (x,j+1)|_,_=>R3)=es[i]?.map λe=>(e.2,(pl[0]?).getD 0+1):=by
 obtain⟨es⟩:=es;obtain⟨pl⟩:=pl
 match es,pl,h1,h2,h3 with
 |[],[],_,_,h3=>simp
 |[e],[p],_,_,h3 =>
  match i,h3 with
  |0,_ =>
   have:Us #[p] 0=0:=by simp[Us,Xj]
   simp[this]
  |1,_ =>
   have:Us #[p] (p+1)=1:=by simp[Us,Xj]
   simp[this]
  |n+2,h=>simp at h
 |[],_::_,_,h,_=>simp at h
 |[_],[],_,h,_=>simp at h
 |[_],_::_::_,_,h,_=>simp at h
 |_::_::_,_,h,_,_=>simp at h
theorem vc(hh:B.handled=R3)(hS:d0 prog w s.heap S (cG w) D)
  (h:∀(I:Sr) (fp:List Sr) (n:Nat) (P:Nat->Sb->Prop) (St:Nat->Ua->Prop) (ys:List Str) (h':Ua) (d':Drawn),Walks prog w B I fp [I] n P St->ys.Perm D->n=ys.length->(∀i v,P i v->∃x tk,ys[i]?=RY x/\v=.str x tk)->s.heap.objs.size<=I->(∀b∈fp,b=S\/s.heap.objs.size<=b)->St 0 h' ->
   (∀b o,s.heap.get? b=RY o->h'.get? b=RY o)->Q (.ref I) {s with heap:=h',drawn:=d' }):Se (Sw prog w) A (X3 (.ref S)) Q E s:=by
 obtain⟨L,es,ep,t,ho,GA,Eu,DW,hf,hb,F6,EX⟩:=hS;have NV:s.TypeIs (.ref S) "set":=⟨_,ho,rfl⟩
 have GD:S<s.heap.objs.size:=Sg ho;refine Zy NV PySem.F.slot_set_iter (Ts PySem.F.slot_set_iter NV SI.jM ?_ (PySem.F.args_set_iter_1 _));unfold UU.«frozenset.__iter__» Y3 slotArgs;simp only[List.isEmpty_nil,Ug,S9,↓reduceIte,bind_assoc,V9,bne_self_eq_false];unfold Y6 Y4;refine RZ (R_ ?_)
 try dsimp only
 refine RZ (R_ ?_);refine RZ (RZ (Y' ho rfl hf (R_ ?_)));have K4:D.length=es.size:=by rw[<-Eu.length_eq,R9,<-S7,GA,R9]
 have look:∀(l:List (Int×Sb)),l.Perm es.toList->∃ys:List Str,ys.Perm D/\ys.length=es.size/\∀(i:Nat) (v:Sb),(l.map (·.2))[i]?=RY v->∃(x:Str) (tk:Tok),ys[i]?=RY x/\v=Tt x tk:=by
  intro l hl;rw[GA]at hl;obtain⟨L',e',p'⟩:=gn hl;refine⟨L'.map (·.1),(p'.map _).trans Eu,by rw[((p'.map _).trans Eu).length_eq,K4],λi v hv=>?_⟩;subst e';rw[Sx,SQ]at hv;rw[SQ];cases q:L'[i]? with
  |none=>rw[q]at hv;simp at hv
  |some p=>rw[q]at hv;simp at hv;exact⟨p.1,p.2,rfl,hv.symm⟩
 refine RZ (mW ho hf ?_);cases hw:w.params.followText "set-order" with
 |true =>
  simp only[Ug,Zi,S9,↓reduceIte];refine RZ (R_ ?_);refine RZ (RZ (TZ ho rfl hf (R_ ?_)));refine RZ (Tb ?_);have hn:S≠s.heap.objs.size:=Su GD;obtain⟨ys,y1,y2,y3⟩:=look (Xz (w.params.setOrder S ep) es).toList (eX _ _);have W:=jN (prog:=prog) (w:=w) (A:=B) (I:=s.heap.objs.size) (S:=S) (es:=es) (ep:=ep) (t:=t) hh hn hf S hn ((Xz (w.params.setOrder S ep) es).toList.map (·.2)) (by rw[R9,(eX _ _).length_eq,S7]) (λ_=>To 0) (λ_=>True) (λ_ _ _ _=>trivial)
   (λs i E Q _ _ hit EK k1 k2=>vb (slot:=0) hit EK hf hh (λB E' Q' q=>mX hw EK hf q) (λx nx e h' FK hs=>by
    rw[Si]at e;obtain⟨p,e1,e2⟩:=e;cases e2;exact k1 _ (by rw[SQ,Uj,e1];rfl) h' FK hs) (λe=>k2 (by rw[SQ,Uj,VW];rwa [VW]at e)))
  refine R_ ⟨_,rfl,"set_iterator",_,⟨_,Sj _ rfl,rfl⟩,SI.slot_next.lookup,?_⟩;exact h _ _ _ _ _ ys _ s.drawn W y1 y2.symm y3 (Sv _) (λb hb=>by
   simp only[Sn,VX,or_false]at hb;rcases hb with rfl|rfl|rfl
   ·exact .inr (Sv _)
   ·exact .inl rfl
   ·exact .inl rfl) ⟨SM _,⟨_,Sj _ rfl,rfl,rfl⟩,R8 _ ho,trivial⟩ λb o e=>R8 _ e
 |false =>
  by_cases hsz:es.size>1
  ·have ET:t.plain=R5:=by
    rcases EX with z|z
    ·omega
    ·exact z
   have e1:(!R5&&(!t.plain&&Sa (es.size>1)))=R4:=by rw[ET,Þ hsz];rfl
   rw[e1];simp only[↓reduceIte];refine RZ (f7 _ _ _ _ WQ λpl d' hp=>?_);simp only[Ê];have He:∀j∈pl,j<es.size:=λj hj=>by have:=hp.mem_iff.mp hj;simpa using this
   have J1:pl.length=es.size:=by rw[hp.length_eq];simp
   refine RZ (Tb ?_ (by
    show(pl.map λ(j:Nat)=>To j).toArray.size<=_;have:es.size<4096:=hb;simp only[Ss,R9,J1];have:(4096:Nat)<=R6:=by decide
    omega))
   have F8:(s.heap.push {cls:=.type "tuple",data:=.seq (pl.map λ(j:Nat)=>To j).toArray}).get? S=RY (mV es ep t):=R8 _ ho;refine RZ (RZ (TZ (s:={s with heap:=_,drawn:=d' }) F8 rfl hf (R_ ?_)));refine RZ (Tb ?_);have PY:s.heap.objs.size≠(s.heap.push {cls:=.type "tuple",data:=.seq (pl.map λ(j:Nat)=>To j).toArray}).objs.size:=by rw[UM];exact Su (V5 _)
   have hn:S≠(s.heap.push {cls:=.type "tuple",data:=.seq (pl.map λ(j:Nat)=>To j).toArray}).objs.size:=by rw[UM];exact Su (WX GD)
   have Ij:(pl.map λj=>(es[j]?).getD (0,S3)).Perm es.toList:=by
    refine(hp.map _).trans ?_;have:(Sl es.size).map (λj=>(es[j]?).getD (0,S3))=es.toList:=by
     apply UX
     ·simp
     ·intro i h1 h2;simp at h1 ⊢;simp[h1]
    rw[this]
   obtain⟨ys,y1,y2,y3⟩:=look _ Ij;have W:=jN (prog:=prog) (w:=w) (A:=B) (I:=(s.heap.push {cls:=.type "tuple",data:=.seq (pl.map λ(j:Nat)=>To j).toArray}).objs.size) (S:=S) (es:=es) (ep:=ep) (t:=t) hh hn hf s.heap.objs.size PY ((pl.map λj=>(es[j]?).getD (0,S3)).map (·.2)) (by simp[J1]) (λ_=>.ref s.heap.objs.size) (λh=>h.IsTuple s.heap.objs.size (pl.map λ(j:Nat)=>To j).toArray) (λh h' ⟨o,ho,r⟩ k=>⟨o,k _ ho,r⟩)
    (λs' i E Q _ F0 hit EK k1 k2=>Ap hit EK hf hh F0 (λj e ej ee h' FK hs=>k1 _ (by rw[SQ,SQ,ej];simp[ee]) h' FK hs) He (λe=>k2 (by rw[SQ,SQ,e];rfl)))
   refine R_ ⟨_,rfl,"set_iterator",_,⟨_,Sj _ rfl,rfl⟩,SI.slot_next.lookup,?_⟩;refine h _ _ _ _ _ ys _ d' W y1 y2.symm y3 (by rw[UM];exact U_ _) (λb hb=>?_) ⟨SM _,⟨_,Sj _ rfl,rfl,rfl⟩,R8 _ F8,⟨_,R8 _ (Sj _ rfl),rfl,_,rfl⟩⟩ λb o e=>R8 _ (R8 _ e);rw[UM]at hb;simp only[Sn,VX,or_false]at hb;rcases hb with rfl|rfl|rfl
   ·exact .inr (U_ _)
   ·exact .inl rfl
   ·exact .inr (Sv _)
  ·have e1:(!R5&&(!t.plain&&Sa (es.size>1)))=R5:=by rw[Ý hsz];simp
   rw[e1];simp only[S9,↓reduceIte];refine RZ (R_ ?_);refine RZ (RZ (TZ ho rfl hf (R_ ?_)));refine RZ (Tb ?_);have hn:S≠s.heap.objs.size:=Su GD;have PZ:t.led=R4:=by rw[F6];show(!w.params.followText "set-order")=R4;rw[hw];rfl
   obtain⟨ys,y1,y2,y3⟩:=look es.toList (.refl _);have G0:t.place.size=es.size:=by
    unfold SetTable.fits at hf;simp only[R7,beq_iff_eq]at hf;exact hf.1
   have W:=jN (prog:=prog) (w:=w) (A:=B) (I:=s.heap.objs.size) (S:=S) (es:=es) (ep:=ep) (t:=t) hh hn hf S hn (es.toList.map (·.2)) (by simp) (λi=>To ((if i=0 then 0 else(t.place[0]?).getD 0+1:Nat):Nat)) (λ_=>True) (λ_ _ _ _=>trivial)
    (λs' i E Q hi _ hit EK k1 k2=>vb (slot:=if i=0 then 0 else(t.place[0]?).getD 0+1) hit EK hf hh (λB E' Q' q=>oF hw EK hf PZ ⋯ q) (λx nx e h' FK hs=>by
     rw[oG es t.place i ⋯ G0 hi,Si]at e;obtain⟨p,e1,e2⟩:=e;cases e2;refine k1 _ (by rw[SQ,Uj,e1];rfl) h' ?_ hs;rw[Ü (Nat.succ_ne_zero i)];exact FK) (λe=>by
     rw[oG es t.place i ⋯ G0 hi,VW]at e;exact k2 (by rw[SQ,Uj,e];rfl)))
   refine R_ ⟨_,rfl,"set_iterator",_,⟨_,Sj _ rfl,rfl⟩,SI.slot_next.lookup,?_⟩;exact h _ _ _ _ _ ys _ s.drawn W y1 y2.symm y3 (Sv _) (λb hb=>by
    simp only[Sn,VX,or_false]at hb;rcases hb with rfl|rfl|rfl
    ·exact .inr (Sv _)
    ·exact .inl rfl
    ·exact .inl rfl) ⟨SM _,⟨_,Sj _ rfl,rfl,rfl⟩,R8 _ ho,trivial⟩ λb o e=>R8 _ e
end
theorem oH:X0 (.type "set") "__len__"=pure (RY (.builtin "set.__len__")):=by rw[XJ,Wt];kernel_rfl
section
theorem jO:∀{vs:List Sb}{ys:List Str},vs.length=ys.length->(∀(i:Nat) (v:Sb),vs[i]?=RY v->∃x t,ys[i]?=RY x/\v=.str x t)->Vs vs ys
 |[],[],_,_=>.nil
 |[],_::_,h,_=>by simp at h
 |_::_,[],h,_=>by simp at h
 |v::vs,y::ys,h,k=>by
  obtain⟨x,t,e1,e2⟩:=k 0 v rfl;cases e1;subst e2;exact .cons y t (jO (by simpa using h) λi w hw=>k (i+1) w hw)
theorem oI(hh:A.handled=R3)(hS:d0 prog w s.heap S (cG w) D)(hn:D.length<=R6)
  (hQ:∀(vs:List Sb) (ys:List Str) (h':Ua) (d':Drawn) (tk:Nat),ys.Perm D->Vs vs ys->s.heap.objs.size<=h'.objs.size->s.toks<=tk->(∀b o,s.heap.get? b=RY o->h'.get? b=RY o)->Q vs {s with heap:=h',drawn:=d',toks:=tk}) :
  Se (Sw prog w) A (Yx (.ref S)) Q E s:=by
 obtain⟨L,es,ep,t,ho,rest⟩:=id hS;have GD:S<s.heap.objs.size:=Sg ho;unfold Yx;refine RZ (XZ (T3 PySem.F.entry_proto_collect ?_));rw[T6 PySem.F.plain_proto_collect _];show Se _ A.in1 (ZD [] >>= λl=>Ð (.builtin "list.__iadd__" ⟨[l,.ref S],[]⟩)) _ _ s;refine RZ (Tb ?_);refine R_ ⟨VC PySem.F.plain_list_iadd _,T3 PySem.F.entry_list_iadd ?_⟩;rw[T6 PySem.F.plain_list_iadd _];have F8:(s.heap.push {cls:=.type "list",data:=.seq ([]:List Sb).toArray}).get? S=RY {cls:=.type "set",dict:=R3,data:=.set es ep t}:=R8 _ ho;have hT:VM {s with heap:=s.heap.push {cls:=.type "list",data:=.seq ([]:List Sb).toArray}} (.ref S) "set":=⟨_,F8,rfl⟩
 show Se _ A.in1 (Uy (.ref s.heap.objs.size) (.ref S) (.ref s.heap.objs.size)) _ _ _;unfold Uy;refine RZ (U7 hT ?_);have Ez:s.heap.objs.size≠S:=Ur GD;have h1:WM (.ref s.heap.objs.size) (.ref S)=R5:=by simp[WM,Ez]
 have h2:(T_ "set"==T_ "list")=R5:=by decide
 have h3:(T_ "set"==T_ "tuple")=R5:=by decide
 simp only[h1,h2,h3,Zv,S9,á];refine RZ (vc (B:=A.in1) (by simpa using hh) ⟨L,es,ep,t,F8,rest⟩ ?_);intro I fp n P St ys h' d' W hp K5 hP hI P0 DS hk;have Mi:VM {s with heap:=h',drawn:=d' } (.ref S) "set":=⟨_,hk _ _ F8,rfl⟩
 refine RZ (Tj ?_);unfold Z8;refine RZ (U' Mi oH ?_);have FV:splitId "set.__len__"=RY ("set","__len__"):=by decide +kernel
 dsimp only
 rw[FV]
 dsimp only
 refine RZ (U8 Mi sub_set_self ?_);rw[Ü (by decide)];rw[Ú (by decide +kernel)];refine RZ (U7 Mi ?_);refine R_ ?_;rw[Ú (by decide +kernel)];have JV:s.heap.objs.size∉fp:=λhm=>by
  rcases P0 _ hm with z|z
  ·exact Ez z
  ·rw[UM]at z;exact absurd z (Nat.not_succ_le_self _)
 have Jd:h'.get? s.heap.objs.size=RY {cls:=.type "list",data:=.seq ([]:List Sb).toArray}:=hk _ _ (Sj _ rfl);refine RZ (UJ ?_);refine RZ ?_;show Se _ A.in1 (updateSeq s.heap.objs.size (·.push .none) >>= λ_=>updateSeq s.heap.objs.size (·.pop)) _ _ _;refine RZ (Wn Jd rfl ?_);have KZ:=Tz (S_ (·.push S3)) Jd rfl;refine Wn KZ rfl ?_;have P1:=Tz (S_ (·.pop)) KZ rfl;have Ee:∀b o,b≠s.heap.objs.size->h'.get? b=RY o->((h'.update s.heap.objs.size (S_ (·.push S3))).update s.heap.objs.size (S_ (·.pop))).get? b=RY o :=
  λb o hb e=>(Vb _ _ (Te hb)).trans ((Vb _ _ (Te hb)).trans e)
 refine R_ ⟨VC PySem.F.plain_extend_loop _,codeAny_extend_loopS W.toS (by rw[K5,hp.length_eq];exact hn) _ JV _ n 0 _ _ _ rfl (SM _) (W.frame 0 h' _ DS λb hb o e=>Ee b o (λz=>JV (z▸hb)) e) P1 (ItemsOf.nil P) λs' J2 c' hm Gj EG=>?_⟩;show Se _ A (load s.heap.objs.size >>= _) _ _ s';refine RZ (Zk Gj ?_);obtain⟨HB,g2,d2,P2,P4⟩:=s';have eg:g2=s.gens:=hm.gens;have ed:d2=d':=hm.drawn;have eo:P4=s.os:=hm.os;subst eg;subst ed;subst eo;refine R_ (hQ _ ys HB d2 P2 hp (jO (by rw[S7,EG.1,K5]) λi v hv=>hP i v (EG.2 i v (by rwa [Uj]at hv))) (U2 (Sg Gj)) hm.toks λb o e=>?_);have NW:b≠s.heap.objs.size:=λz=>by rw[z]at e;exact absurd (Sg e) (TR _)
 refine hm.heap b o (λz=>?_) (Ee b o NW (hk _ _ (R8 _ e)));rcases Sn.mp z with z|z
 ·exact NW z
 ·rw[SX.mp z]at e;have:=Sg e;rw[UM]at hI;exact absurd (SF this (TX (U_ _) hI)) (TR _)
end
section
theorem Inv.drawn(I:Inv X pins σ H s)(d:Drawn):Inv X pins σ H {s with drawn:=d}:=⟨I.ok,I.os,I.bare,I.base,I.loc,I.cell,I.free,I.El,I.pin,I.DN,I.len⟩
theorem gR(hc:X.calm=R4)(I:Inv X pins σ H s)(hq:Eg X.K H p (ys.map V.str)\/Ef X.K H p (ys.map V.str))(hb:ys.length+1<Ut)
  (h:∀(S:Sr) (h':Ua) (tk:Nat),d0 X.prog X.w h' S (cG X.w) (aL ys)->Inv X pins σ H {s with heap:=h',toks:=tk}->Q (.ref S) {s with heap:=h',toks:=tk}) :
  Se (Sw X.prog X.w) X.A (Vj (.type "set") [.ref p]) Q X.xe s:=by
 have hh:X.A.handled=R3:=I.ok.hd hc;rcases hq with hq|hq
 ·obtain⟨its,rv,pl,hz⟩:=I.list hq;exact jL hh pl.isList (c9 rv) hb λh' tk hS k=>h _ h' tk hS (I.kept λb o e=>k b o (Sg e) e)
 ·obtain⟨its,rv,pl,hz⟩:=I.tuple hq;exact k9 hh pl (c9 rv) hb λh' tk hS k=>h _ h' tk hS (I.kept λb o e=>k b o (Sg e) e)
theorem k_(hc:X.calm=R4)(I:Inv X pins σ H s)(hS:d0 X.prog X.w s.heap S (cG X.w) D)(Gh:D.length<64)
  (q:∀p,H p=R3->Q (.ref p) (upd H p (.lst ((ay D).map V.str)))):Se (Sw X.prog X.w) X.A (Vj (.builtin "sorted") [.ref S]) (EP X pins σ Q) X.xe s:=by
 have hh:X.A.handled=R3:=I.ok.hd hc;have hl:D.length<=R6:=U2 (SF Gh (by decide));refine dZ (oI (A:=X.A.in1) (by simpa using hh) hS hl λvs ys h' d' tk hp hv hsz OU hk=>⟨ys,hv,by rw[gQ hv,hp.length_eq];exact Gh,λh2 Ea e k2 at2 s2=>?_⟩);rw[oz hp]at s2;have I1:Inv X pins σ H {s with heap:=h',toks:=tk}:=I.kept (t':=tk) hk;have I2:Inv X pins σ H {s with heap:=h',drawn:=d',toks:=tk}:=I1.drawn d';exact⟨.ref h'.objs.size,_,I2.laid (t':=tk) (o:=.lst ((ay D).map V.str)) k2 (Sv _) ⟨by rw[R9,br];exact hl,Ea,e,cQ s2,at2⟩,rfl,q _ (I2.DN.fresh (Sv _))⟩
theorem qo(I:Inv X pins σ H s)(hS:d0 X.prog X.w s.heap S (cG X.w) D)
  (q:Q (.int D.length) H):Se (Sw X.prog X.w) X.A (Vj (.builtin "len") [.ref S]) (EP X pins σ Q) X.xe s:=by
 obtain⟨L,es,ep,t,ho,GA,Eu,DW,hf,hb,F6,EX⟩:=hS;have hlen:es.size=D.length:=by rw[<-S7,GA,R9,<-R9 (f:=Ze) (as:=L),Eu.length_eq]
 have FH:es.size<4096:=hb;refine call_len_set ho ⟨rfl,rfl,rfl⟩ rfl hf ⋯ ?_;exact⟨.int es.size,_,I.kept (t':=s.toks+1+1) (λ_ _ e=>e),⟨_,rfl⟩,by rw[hlen];exact q⟩
end
section
theorem gS(hit:s.heap.IsTupleIter it l i)
  (hl:s.heap.IsTuple l items) (hx:items[i]?=RY x)
  (hQ:∀h',h'.IsTupleIter it l (i+1)->T5 it s.heap h'->Q x {s with heap:=h' }) :
  Se (Sw prog w) A (T9 (.ref it)) Q E s:=by
 obtain⟨o,ho,hc,hd⟩:=id hit;obtain⟨ol,JW,_,nl,F9⟩:=hl;unfold T9;refine RZ (Uc (name:=Vf "__next__") hit.typeIs PySem.F.slot_tuple_iterator_next
  (Ts PySem.F.slot_tuple_iterator_next hit.typeIs PySem.F.entry_tuple_iterator_next ?_ (PySem.F.args_tuple_iterator_next_1 _)))
 show Se _ _ (Ì (.ref it) 0 >>= _) _ _ s;refine RZ (Vh ho hd (x:=.ref l) rfl ?_);show Se _ _ (if (SD l==S3)=R4 then _ else _) _ _ s;rw[Ü (show ¬((SD l==S3)=R4) from S6)];show Se _ _ (Ì (.ref it) 1 >>= _) _ _ s;refine RZ (Vh ho hd (x:=.int i 0) rfl ?_);show Se _ _ (Xy (.ref l) >>= _) _ _ s;refine RZ (Vo JW F9 ?_);simp only[TY,hx];refine RZ (UC ho hd (by simp) (R_ ⟨x,rfl,R_ (hQ _ ?_ (T4 ..))⟩));exact⟨_,Tz _ ho (Wb (UD hd _)),(WU ..).trans hc,by
  rw[UD hd];simp[To]⟩
theorem dQ(hh:A.handled=R3)
  (hit:s.heap.IsTupleIter it l i) (hl:s.heap.IsTuple l items) (hx:items[i]?=R3)
  (hE:∀h' e,ZT it s.heap h'->(∃o,h'.get? e=RY o/\o.cls=.type "StopIteration")->E (.ref e) {s with heap:=h' }) :
  Se (Sw prog w) A (T9 (.ref it)) Q E s:=by
 obtain⟨o,ho,hc,hd⟩:=id hit;obtain⟨ol,JW,_,nl,F9⟩:=hl;unfold T9;refine RZ (Uc (name:=Vf "__next__") hit.typeIs PySem.F.slot_tuple_iterator_next
  (Ts PySem.F.slot_tuple_iterator_next hit.typeIs PySem.F.entry_tuple_iterator_next ?_ (PySem.F.args_tuple_iterator_next_1 _)))
 show Se _ _ (Ì (.ref it) 0 >>= _) _ _ s;refine RZ (Vh ho hd (x:=.ref l) rfl ?_);show Se _ _ (if (SD l==S3)=R4 then _ else _) _ _ s;rw[Ü (show ¬((SD l==S3)=R4) from S6)];show Se _ _ (Ì (.ref it) 1 >>= _) _ _ s;refine RZ (Vh ho hd (x:=.int i 0) rfl ?_);show Se _ _ (Xy (.ref l) >>= _) _ _ s;refine RZ (Vo JW F9 ?_);simp only[TY,hx];refine RZ (UJ (RZ (UC ho hd (by simp) ?_)));show Se _ _ (Yw (.type "StopIteration") [] >>= _) _ _ _;refine RZ ?_;simp only[Yw,Ê];refine RZ (Tb ?_ (by size_fits));refine RZ (m:=WD _ _) (XD (a:=S3) (by first|rfl|(simp only[WD];rfl)) ?_);refine Tb ?_ (by size_fits);simp only[X2];refine RZ (wpAny_handled ?_)
 first|rw[show A.in1.handled=R3 from hh]|rw[hh]
 refine RZ (R_ (wpAny_throw ?_));exact hE _ _ (((T4 ..).extBut.push _).push _) ⟨_,Sj _ rfl,rfl⟩
end
theorem oJ(hh:A.handled=R3)(it l:Sr)(Ez:l≠it)(items:Array Sb):
  Draws prog w A it [it,l] items.size (λi v=>items[i]?=RY v) (λi h=>h.IsTupleIter it l i/\h.IsTuple l items) where
 live:=λ_ _ st=>let ⟨o,ho,_⟩:=st.1;⟨o,ho⟩
 frame:=λ_ _ _ st hk=>⟨st.1.at λo e=>hk it (by simp) o e,let ⟨o,ho,r⟩:=st.2;⟨o,hk l (by simp) o ho,r⟩⟩
 item:=λi s Q E hi st hQ=>by
  refine gS st.1 st.2 (x:=items[i]) (by simp[hi]) λh' FK GF=>?_;exact hQ _ h' s.toks (by simp[hi]) ⟨FK,let ⟨o,ho,r⟩:=st.2;⟨o,(GF.2 l Ez).trans ho,r⟩⟩ GF
 done:=λs Q E st hE=>dQ hh st.1 st.2 (by simp) hE
open AutoSeq1 (wpAny_loadPart') in
theorem jP(l:Sr)(items:Array Sb)(n:Nat)(Mj:Option Sr)(sl:Array (Option Sb)):
  Meets (UU.«enumerate.__new__» ⟨[.type "enumerate",.ref l],[]⟩) (λ_ R s=>s.heap.get? l=RY {cls:=.type "tuple",dict:=Mj,data:=.seq items n,slots:=sl} /\
   R (.ok (.ret (.ref (s.heap.push {cls:=.type "tuple_iterator",data:=.fields #[.ref l,.int 0 0]}).objs.size)))
    {s with heap:=(s.heap.push {cls:=.type "tuple_iterator",data:=.fields #[.ref l,.int 0 0]}).push {cls:=.type "enumerate",data:=.fields #[.none,.bool R5,.ref s.heap.objs.size,To 0,.none,.none]}}) :=
 .of_wp λprog w A R s h=>by
  obtain⟨hp,g,d,tk,os⟩:=s;obtain⟨hl,h⟩:=h;have GC:=sub_enumerate;have hL:Heap.IsTuple (Shared.heap ⟨hp,g,d,tk,os⟩) l items:=⟨_,hl,rfl,n,rfl⟩
  wp_walk using Wo hl
  refine wpAny_stack_any λst=>R_ ?_;split
  ·rename_i c _ _ _ _ _;cases(c==T_ "enumerate")
   ·wp_walk using Wo hl,Vc hL
    exact⟨_,rfl,h⟩
   ·wp_walk using Wo hl,Vc hL
    exact⟨_,rfl,h⟩
  ·wp_walk using Wo hl,Vc hL
   exact⟨_,rfl,h⟩
section
theorem eY(hL:s.heap.IsTuple l items)
  (h:∀h',YC h' (s.heap.objs.size+1) s.heap.objs.size 0 .none->h'.IsTupleIter s.heap.objs.size l 0->h'.objs.size=s.heap.objs.size+2 ->
   (∀b o,s.heap.get? b=RY o->h'.get? b=RY o)->Q (.ref (s.heap.objs.size+1)) {s with heap:=h' }) :
  Se (Sw prog w) A (Vj (.type "enumerate") [.ref l]) Q E s:=by
 obtain⟨⟨c,Mj,dt,sl⟩,hl,hc,n,hd⟩:=hL
 replace hc:c=.type "tuple":=hc
 replace hd:dt=.seq items n:=hd
 subst hc hd;refine callType_new PySem.F.called_enumerate (by decide) (PySem.F.typeCall_enumerate_1 _) (PySem.F.newCall_enumerate_1 _) (λobj=>PySem.F.args_object_init_2 obj _) PySem.F.entry_enumerate_new
  (jP l items n Mj sl) ⟨hl,?_⟩
 have hz:(s.heap.push {cls:=.type "tuple_iterator",data:=.fields #[.ref l,.int 0 0]}).objs.size=s.heap.objs.size+1:=Xo ..;show _/\_;rw[hz];have he:YC ((s.heap.push {cls:=.type "tuple_iterator",data:=.fields #[.ref l,.int 0 0]}).push
   {cls:=.type "enumerate",data:=.fields #[.none,.bool R5,.ref s.heap.objs.size,To 0,.none,.none]}) (s.heap.objs.size+1) s.heap.objs.size 0 .none:=by
  have:=Sj (s.heap.push {cls:=.type "tuple_iterator",data:=.fields #[.ref l,.int 0 0]})
   (o:={cls:=.type "enumerate",data:=.fields #[.none,.bool R5,.ref s.heap.objs.size,To 0,.none,.none]}) rfl
  rw[hz]at this;exact this
 refine⟨⟨_,he,rfl⟩,h _ he ⟨_,R8 _ (Sj _ rfl),rfl,rfl⟩ (by rw[Xo,hz]) λb o x=>R8 _ (R8 _ x)⟩
end
end L2
namespace L2
open PySem PySem.Spec PyProof.Rows
section
theorem Inv.rJ{ch:List Sr}(I:Inv X pins σ H s)(hf:∀b∈ch,gF X pins H b)(k:∀b o,b∉ch->s.heap.get? b=RY o->h'.get? b=RY o):Inv X pins σ H {s with heap:=h',toks:=t' }:=by
 have Jw:∀b u,H b=RY u->b∉ch:=λb u e z=>by rw[(hf b z).1]at e;cases e
 refine I.step (g':=s.gens) (d':=s.drawn) (ch:=ch) (λb hb=>?_) (λb o _ _ hc e _=>k b o hc e) (λb o _ _ hc e _=>⟨o.slots,k b o hc e⟩) (λ_ _ _ _ n=>n)
  (λb o hc e=>⟨o,k b o hc e⟩) (λ_ _ e=>e) (λ_ _ _ e=>e) (λb ps e=>⟨#[],by rw[e];simp⟩) (λm hm=>?_) (λb u e=>?_) I.bare
 ·obtain⟨f0,f1,f2,f3,f4,f5⟩:=hf b hb;exact⟨f3,f1,f4,f5⟩
 ·obtain⟨o,es,ep,ho,r⟩:=hm;exact⟨o,es,ep,k _ o (λz=>(hf _ z).2.1 rfl) ho,r⟩
 ·refine(I.DN b u e).js (λc v hc q=>k c v ?_ q) (λ_ q=>q) λ_ _ q=>q;rcases hc with z|z
  ·rw[z];exact Jw b u e
  ·exact Jw c _ z
theorem Inv.qp{ch:List Sr}(I:Inv X pins σ H s)(hf:∀b∈ch,gF X pins H b)(k:∀b o,b∉ch->s.heap.get? b=RY o->h'.get? b=RY o)(hT:s.heap.objs.size<=T)(new:bK X.prog X.w (upd H T o) h' T o):
  Inv X pins σ (upd H T o) {s with heap:=h',toks:=t' }:=by
 have I1:Inv X pins σ H {s with heap:=h',toks:=t' }:=I.rJ hf k;have hn:H T=R3:=I.DN.fresh hT;have nT:∀b o,s.heap.get? b=RY o->b≠T:=λb o e z=>by rw[z]at e;exact absurd (SF (Sg e) hT) (TR _)
 have nH:∀b u,H b=RY u->b≠T:=λb u e z=>by rw[z,hn]at e;cases e
 refine I.step (g':=s.gens) (d':=s.drawn) (ch:=ch) (λb hb=>?_) (λb o _ _ hc e _=>k b o hc e) (λb o _ _ hc e _=>⟨o.slots,k b o hc e⟩) (λb o _ e n=>by rw[ao (nT b o e)];exact n)
  (λb o hc e=>⟨o,k b o hc e⟩) (λb _ e=>by rw[ao (nH b _ e)];exact e) (λb _ _ e=>by rw[ao (nH b _ e)];exact e) (λb ps e=>⟨#[],by rw[ao (nH b _ e),e];simp⟩) (λm hm=>?_) (λb u e=>?_) I.bare
 ·obtain⟨f0,f1,f2,f3,f4,f5⟩:=hf b hb;exact⟨f3,f1,f4,f5⟩
 ·obtain⟨o,es,ep,ho,r⟩:=hm;exact⟨o,es,ep,k _ o (λz=>(hf _ z).2.1 rfl) ho,r⟩
 ·by_cases hb:b=T
  ·subst hb;rw[au]at e;cases e;exact new
  ·rw[ao hb]at e;exact(I1.DN b u e).js (λc v _ q=>q) (λc q=>by rw[ao (nH c _ q)];exact q) λc xs q=>by rw[ao (nH c _ q)];exact q
end
def Je(Sq:Hp->List V->Prop):It :=
 ⟨λi H=>∃xs x,Sq H xs/\xs[i]?=RY x,λi H x H'=>∃p,H p=R3/\x=.ref p/\∀xs v,Sq H xs->xs[i]?=RY v->H'=upd H p (.tup [.int i,v]),λi H=>∃xs,Sq H xs/\xs.length<=i⟩
theorem lM{K:PySem.W.Frag}(Sq:Hp->List V->Prop)(a e it:Sr)(Il:e≠it)(At:Nat->Ua->Prop)(Is:Ua->Array Sb->Prop)
  (EY:∀i h h',At i h->(∀o,h.get? it=RY o->h'.get? it=RY o)->At i h') (NX:∀i h,At i h->∃o,h.get? it=RY o/\∀v,o.data≠.cell v)
  (K6:∀(X:Cx) (pins:List (Sr×Obj)) (s:Sm) (σ:St) (H:Hp) (xs:List V),X.K=K->Inv X pins σ H s->Sq H xs->∃its:List Sb,Vals xs its/\Is s.heap its.toArray)
  (Mk:∀(X:Cx) (pins:List (Sr×Obj)) (s:Sm) (σ:St) (H:Hp) (xs ys:List V),X.K=K->Inv X pins σ H s->Sq H xs->Sq H ys->xs=ys)
  (P5:∀h items i old,Is h items->YC h e it i old->e≠a)
  (hD:∀(A:UT) (items:Array Sb),A.handled=R3->Draws P w A it [it,a] items.size (λi v=>items[i]?=RY v) (λi h=>At i h/\Is h items))
  (Hd:∀(A:UT) (s:Sm) (i:Nat) (items:Array Sb) (Q:Sb->Sm->Prop) (E:Sb->Sm->Prop),A.handled=R3->At i s.heap->Is s.heap items->items[i]?=R3 ->
   (∀h' x,ZT it s.heap h'->(∃o,h'.get? x=RY o/\o.cls=.type "StopIteration")->E (.ref x) {s with heap:=h' })->Se (Sw P w) A (T9 (.ref it)) Q E s) :
  Turn P w K (.Tuple es kx ps) (Je Sq) [e,it] e (λi h=>(∃old,YC h e it i old)/\At i h) where
 mem:=by simp
 obj:=λi h st b hb=>by
  obtain⟨⟨old,he⟩,hl⟩:=st;rcases Sn.mp hb with z|z
  ·rw[z];exact⟨_,he,λv z=>by
    have z':ZU _=YQ v:=z;cases z'⟩
  ·rw[SX.mp z];exact NX i h hl
 keep:=λi h h' ⟨⟨old,he⟩,hl⟩ k=>⟨⟨old,k e (by simp) _ he⟩,EY i h h' hl λo q=>k it (by simp) o q⟩
 item:=by
  intro X hP hw hK hc i pins s σ H E I hf ⟨⟨old,he⟩,hl⟩ hg;subst hP hw;obtain⟨xs,x,hq,hx⟩:=hg;obtain⟨its,rv,p⟩:=K6 X pins s σ H xs hK I hq;obtain⟨u,hu,ru⟩:=rv.get hx;have D2:i<its.toArray.size:=by simpa using(Sf.mp hu).1
  have D:=hD X.A.in1 its.toArray (by simpa using I.ok.hd hc);have Ml:=P5 _ _ _ _ p he;refine wpAny_pyNext_enum_itemD D he ⟨hl,p⟩ D2 Il (by simp[Il,Ml]) λy h1 tk hy ho st1 hT hsz hk=>?_;have ey:y=u:=by
   have:its.toArray[i]?=RY u:=by simpa using hu
   rw[this]at hy;cases hy;rfl
  subst ey;refine⟨_,rfl,wpAny_letOwnedTupleGo_enum (s:={s with heap:=h1,toks:=tk+1}) ho λh2 P6 Fo=>?_⟩;have NY:e<s.heap.objs.size:=Sg he;have P7:h2.get? s.heap.objs.size=RY {cls:=.type "tuple",data:=.seq #[.int i tk,y]}:=(Fo.2 _ (Ur NY)).trans hT;have k2:∀b o,b∉[e,it]->s.heap.get? b=RY o->h2.get? b=RY o:=λb o hb q=>by
   simp only[Sn,VX,or_false,not_or]at hb;exact(Fo.2 b hb.1).trans (hk b o hb.1 hb.2 q)
  have I2:Inv X pins σ (upd H s.heap.objs.size (.tup [.int i,x])) {s with heap:=h2,toks:=tk+1}:=I.qp hf k2 (Sv _)
   (show bK X.prog X.w _ h2 _ (.tup [.int i,x]) from⟨by show 2<=R6;decide,[.int i tk,y],.cons ⟨tk,rfl⟩ (.cons ru .nil),⟨_,P7,rfl,_,rfl⟩⟩)
  refine⟨.ref s.heap.objs.size,_,I2,rfl,⟨_,I.DN.fresh (Sv _),rfl,λys v hy hv=>?_⟩,⟨⟨_,P6⟩,EY (i+1) h1 h2 st1.1 λo q=>(Fo.2 it (Te Il)).trans q⟩,λb hb=>?_⟩
  ·have:=Mk X pins s σ H ys xs hK I hy hq;subst this;rw[hx]at hv;cases hv;rfl
  ·have FH:b≠s.heap.objs.size:=by
    rcases Sn.mp hb with z|z
    ·rw[z];exact Su NY
    ·rw[SX.mp z];obtain⟨o,q,_⟩:=NX i _ hl;exact Su (Sg q)
   rw[ao FH];exact(hf b hb).1
 done:=by
  intro X hP hw hK hc i pins s σ H E I hf ⟨⟨old,he⟩,hl⟩ hg;subst hP hw;obtain⟨xs,hq,hx⟩:=hg;obtain⟨its,rv,p⟩:=K6 X pins s σ H xs hK I hq;have hlen:=rv.length;have hT:s.TypeIs (.ref e) "enumerate":=⟨_,he,rfl⟩
  unfold VS;refine RZ (wpAny_attempt (Uc (name:=Vf "__next__") hT PySem.F.slot_enumerate_next
   (Ts PySem.F.slot_enumerate_next hT PySem.F.entry_enumerate_next ?_ (PySem.F.args_enumerate_next_1 _))))
  show Se _ _ (Ì (.ref e) 2 >>= _) _ _ _;refine RZ (Vh he rfl (x:=.ref it) rfl ?_);refine RZ (Hd _ _ i its.toArray _ _ (by simpa using I.ok.hd hc) hl p (by simp;omega) λh' x L5 I_=>?_);obtain⟨o,ho,Ig⟩:=I_;refine RZ (U8 (T:="StopIteration") (b:=R4) ⟨o,ho,Ig⟩ Ë ?_);refine R_ ⟨rfl,I.rJ (t':=s.toks) (ch:=[it]) (λb hb=>hf b (SS _ hb)) λb o hb q=>L5 b o (λz=>hb (by simp[z])) q⟩
 self:=λA i s Q E ⟨⟨old,he⟩,hl⟩ h=>Xb he h
section
variable{X:Cx}{es:List Td}{kx:Nat}{ps p pos:Pos}
theorem tE:Uv "enumerate"=RY (.type "enumerate"):=by decide +kernel
def Dz(K:PySem.W.Frag)(ta:TA):TI:=λσ H R=>ta σ H λvs H1=>∃a,vs=[.ref a]/\((∃xs,Eg K H1 a xs)/\R (Je λH xs=>Eg K H a xs) H1\/(∃xs,Ef K H1 a xs)/\R (Je λH xs=>Ef K H a xs) H1)
theorem Aq(a e it:Sr)(Il:e≠it)(JO:a≠it):Turn X.prog X.w X.K (.Tuple es kx ps) (Je λH xs=>Eg X.K H a xs) [e,it] e (λi h=>(∃old,YC h e it i old)/\h.IsListIter it a i):=by
 refine lM _ a e it Il (λi h=>h.IsListIter it a i) (λh items=>h.IsList a items) (λi h h' x k=>x.at k) (λi h ⟨o,ho,hc,hd⟩=>⟨o,ho,λv z=>by rw[hd]at z;cases z⟩)
  (λY pins s σ H xs hK I hq=>?_) (λY pins s σ H xs ys hK I hx hy=>?_) (λh items i old ⟨o,ho,hc,_⟩ he z=>?_) (λA items hh=>Draws.list hh it a JO items) (λA s i items Q E hh hl hp hx hE=>wpAny_nextOf_list_end hh hl hp hx hE)
 ·rw[<-hK]at hq;obtain⟨its,rv,p,hz⟩:=I.list hq;exact⟨its,rv,p.isList⟩
 ·rw[<-hK]at hx hy;exact I.n_ hx hy
 ·rw[<-z,he]at ho;cases ho;have GX:T_ "enumerate"=T_ "list":=hc;exact absurd GX (by decide)
theorem Ar(a e it:Sr)(Il:e≠it)(JO:a≠it):Turn X.prog X.w X.K (.Tuple es kx ps) (Je λH xs=>Ef X.K H a xs) [e,it] e (λi h=>(∃old,YC h e it i old)/\h.IsTupleIter it a i):=by
 refine lM _ a e it Il (λi h=>h.IsTupleIter it a i) (λh items=>h.IsTuple a items) (λi h h' x k=>x.at k) (λi h ⟨o,ho,hc,hd⟩=>⟨o,ho,λv z=>by rw[hd]at z;cases z⟩)
  (λY pins s σ H xs hK I hq=>?_) (λY pins s σ H xs ys hK I hx hy=>?_) (λh items i old ⟨o,ho,hc,_⟩ he z=>?_) (λA items hh=>oJ hh it a JO items) (λA s i items Q E hh hl hp hx hE=>dQ hh hl hp hx hE)
 ·rw[<-hK]at hq;obtain⟨its,rv,p,hz⟩:=I.tuple hq;exact⟨its,rv,p⟩
 ·rw[<-hK]at hx hy;exact I.ly hx hy
 ·rw[<-z,he]at ho;cases ho;have GX:T_ "enumerate"=T_ "tuple":=hc;exact absurd GX (by decide)
theorem xM(hg:Gl X "enumerate")(hm:X.mg "enumerate"=R3)(ha:PA X [a] ta)(hs:SJ [a] X.env=[(R5,T2 a X.env)]):PI X (.Tuple es kx ps) (.Call (.Name "enumerate" p) [a] [] pos) (Dz X.K ta):=by
 intro pins s σ H R I h;refine Call_ (eT I hg hm tE (T8 (DQ (ha pos pins s σ H _ I h) λus s1 ⟨vs,H1,I1,r1,q1⟩=>?_) hs rfl));obtain⟨a',e,q⟩:=q1;subst e;obtain⟨u,rfl,r⟩:=vals1 r1;cases r;have ne1:s1.heap.objs.size+1≠s1.heap.objs.size:=Nat.succ_ne_self _;have fin:∀(h':Ua),(∀b∈[s1.heap.objs.size+1,s1.heap.objs.size],gF X pins H1 b):=λh' b hb=>by
  have FH:s1.heap.objs.size<=b:=by
   rcases Sn.mp hb with z|z
   ·rw[z];exact U_ _
   ·rw[SX.mp z];exact Sv _
  exact I1.xm FH (I1.DN.fresh FH)
 rcases q with⟨⟨xs,hq⟩,q⟩|⟨⟨xs,hq⟩,q⟩
 ·obtain⟨its,rv,p,hz⟩:=I1.list hq;have D2:a'<s1.heap.objs.size:=let ⟨o,ho,_⟩:=p.isList;Sg ho;refine call_enumerate_list p.isList λh' he hl hsz hk=>?_;refine Xb he ⟨_,[s1.heap.objs.size+1,s1.heap.objs.size],_,_,H1,rfl,I1.kept (t':=s1.toks) hk,Aq a' _ _ ne1 (Su D2),⟨⟨_,he⟩,hl⟩,fin h',q⟩
 ·obtain⟨its,rv,p,hz⟩:=I1.tuple hq;have D2:a'<s1.heap.objs.size:=let ⟨o,ho,_⟩:=p;Sg ho;refine eY p λh' he hl hsz hk=>?_;refine Xb he ⟨_,[s1.heap.objs.size+1,s1.heap.objs.size],_,_,H1,rfl,I1.kept (t':=s1.toks) hk,Ar a' _ _ ne1 (Su D2),⟨⟨_,he⟩,hl⟩,fin h',q⟩
end
theorem tF(l:Sr)(items:Array Sb)(n:Nat)(b:Sr)(D_:Array Sb)(n2:Nat)(dd:Option Sr)(sl:Array (Option Sb))(EI:¬(!items.isEmpty&&Uh (items.size+D_.size))=R4)(E_:items.size<=R6)(Fo:items.size+D_.size<=R6+1):
  Meets (UU.«list.extend» ⟨[.ref l,.ref b],[]⟩) (λ_ R s=>s.heap.get? l=RY {cls:=.type "list",dict:=R3,data:=.seq items n,slots:=#[]}/\s.heap.get? b=RY {cls:=.type "list",dict:=dd,data:=.seq D_ n2,slots:=sl}/\R (.ok (.ret S3)) {s with heap:=s.heap.update l (S_ λx=>x++D_),toks:=s.toks}) :=
 .of_wp λprog w A R s h=>by
  obtain⟨hp,g,d,tk,os⟩:=s;obtain⟨hl,hb,h⟩:=h;have f1:=X8;have f2:=W9;have f3:=Xr;have f4:=Xm;have f5:=Xn;
  have Jf:(items++D_).size<=R6+1:=by rw[WI];exact Fo
  wp_walk using(Wn hl rfl (hz:=E_) (_hz':=Jf)),UW hl,UW hb;exact⟨_,rfl,h⟩
theorem tH(l:Sr)(items:Array Sb)(n:Nat)(b:Sr)(D_:Array Sb)(n2:Nat)(dd:Option Sr)(sl:Array (Option Sb))(EI:¬(!items.isEmpty&&Uh (items.size+D_.size))=R4)(E_:items.size<=R6)(Fo:items.size+D_.size<=R6+1):
  Meets (UU.«list.extend» ⟨[.ref l,.ref b],[]⟩) (λ_ R s=>s.heap.get? l=RY {cls:=.type "list",dict:=R3,data:=.seq items n,slots:=#[]}/\s.heap.get? b=RY {cls:=.type "tuple",dict:=dd,data:=.seq D_ n2,slots:=sl}/\R (.ok (.ret S3)) {s with heap:=s.heap.update l (S_ λx=>x++D_),toks:=s.toks}) :=
 .of_wp λprog w A R s h=>by
  obtain⟨hp,g,d,tk,os⟩:=s;obtain⟨hl,hb,h⟩:=h;have f1:=X8;have f2:=W9;have f3:=Xr;have f4:=Xm;have f5:=Xn;
  have Jf:(items++D_).size<=R6+1:=by rw[WI];exact Fo
  wp_walk using(Wn hl rfl (hz:=E_) (_hz':=Jf)),UW hl,UW hb;exact⟨_,rfl,h⟩
section
theorem qq:NB X "list.extend" (λx vs H Q=>∃l b xs zs,x=.ref l/\vs=[.ref b]/\H l=RY (.lst xs)/\(Eg X.K H b zs\/Ef X.K H b zs)/\xs.length+zs.length<=R6/\Q .DR (upd H l (.lst (xs++zs)))):=by
 intro pins s σ H x vs v us Q I rx rv h;obtain⟨l,b,xs,zs,rfl,rfl,hH,hB,hz,q⟩:=h;cases rx;obtain⟨u,rfl,ru⟩:=rv.one;cases ru;obtain⟨z,its,n,r,hl,e⟩:=I.B6 hH;have fin:∀D3:List Sb,Vals zs D3->EP X pins σ Q S3 {s with heap:=s.heap.update l (S_ λx=>x++D3.toArray),toks:=s.toks}:=λD3 r2=>by
  refine⟨.DR,_,I.mK (its':=its++D3) hH e (by simp) (r.append r2) ?_,rfl,q⟩;rw[Sy];omega
 have sz:∀D3:List Sb,zs.length=D3.length->its.toArray.size+D3.toArray.size<=R6:=λD3 h=>by rw[Ss,Ss];omega
 have lg:∀D3:List Sb,zs.length=D3.length->¬(!its.toArray.isEmpty&&Uh (its.toArray.size+D3.toArray.size))=R4:=λD3 h=>by
  rw[uP (sz D3 h),Xw];exact S6
 rcases hB with hB|hB
 ·obtain⟨D3,r2,pl,_⟩:=I.list hB;obtain⟨⟨cls,dd,data,sl⟩,ho,hc,n2,hd⟩:=pl.isList;simp only at hc hd;subst hc hd;have F7:=r2.length;have h1:=sz D3 F7;exact Vy Y1 ⟨_,e,rfl⟩ YO (YD _ _) (tF l its.toArray n b D3.toArray n2 dd sl (lg D3 F7) ⋯ ⋯) ⟨e,ho,fin D3 r2⟩
 ·obtain⟨D3,r2,pl,_⟩:=I.tuple hB;obtain⟨⟨cls,dd,data,sl⟩,ho,hc,n2,hd⟩:=pl;simp only at hc hd;subst hc hd;have F7:=r2.length;have h1:=sz D3 F7;exact Vy Y1 ⟨_,e,rfl⟩ YO (YD _ _) (tH l its.toArray n b D3.toArray n2 dd sl (lg D3 F7) ⋯ ⋯) ⟨e,ho,fin D3 r2⟩
end
end L2
namespace L2
open PySem PySem.W PyProof.Rows
def gs{α:Type}(lt:Nat->Nat->Bool):KasT α->α
 |.ret x=>x
 |.ask i j k=>gs lt (k (lt i j))
def EJ{α:Type}(n:Nat)(P:α->Prop):KasT α->Prop
 |.ret x=>P x
 |.ask i j k=>i<n/\j<n/\∀b,EJ n P (k b)
theorem EJ.Jg{P:α->Prop}{Q:β->Prop}{f:α->KasT β}(hf:∀x,P x->EJ n Q (f x)):∀{t:KasT α},EJ n P t->EJ n Q (t.bind f)
 |.ret x,h=>hf x h
 |.ask i j k,h=>⟨h.1,h.2.1,λb=>EJ.Jg hf (h.2.2 b)⟩
theorem EJ.got:∀{t:KasT α},EJ n P t->P (gs lt t)
 |.ret _,h=>h
 |.ask i j k,h=>EJ.got (t:=k (lt i j)) (h.2.2 _)
theorem EJ.wp(hc:∀i j,i<n->j<n->∀C:Bool->Sm->Prop,C (lt i j) s->cmp i j C s):
  ∀{t:KasT α},EJ n P t->Q (gs lt t) s->t.kasWp cmp Q s
 |.ret _,_,q=>q
 |.ask i j k,h,q=>hc i j h.1 h.2.1 _ (EJ.wp hc (t:=k (lt i j)) (h.2.2 _) q)
def Pm(n:Nat)(p:Array Nat):Prop:=p.toList.Perm (Sl n)
section
variable{n:Nat}(hn:0<n)
include hn
theorem Pm.at(h:Pm n p)(i:Nat):p.getD i 0<n:=by
 by_cases hi:i<p.size
 ·have:p.getD i 0=p[i]:=by simp[Z4,hi]
  rw[this];have hm:p[i]∈p.toList:=by simp
  exact TB.mp (h.mem_iff.mp hm)
 ·have:p.getD i 0=0:=by simp[Z4,hi]
  rw[this];exact hn
omit hn in
theorem Pm.rev(h:Pm n p)(i j:Nat):Pm n (kas_rev p i j):=(mirror_perm p i j _).toList.trans h
omit hn in
theorem Pm.P8(h:Pm n p)(i j:Nat):Pm n (bubble p i j):=(bubble_perm p i j).toList.trans h
theorem qr(h:Pm n p):∀(f m:Nat),EJ n (λ_=>True) (kas_asc p f m)
 |0,m=>trivial
 |f+1,m=>⟨h.at hn _,h.at hn _,λb=>by
  cases b
  ·exact qr h f (m+1)
  ·exact trivial⟩
theorem jl:∀(f:Nat) (p:Array Nat) (m q:Nat),Pm n p->EJ n (λr=>Pm n r.1) (kas_desc f p m q)
 |0,p,m,q,h=>h
 |f+1,p,m,q,h=>⟨h.at hn _,h.at hn _,λb=>by
  cases b
  ·exact⟨h.at hn _,h.at hn _,λb=>by
    cases b
    ·exact jl f p (m+1) (q+1) h
    ·exact h⟩
  ·show EJ n _ (if q>0 then _ else _);split
   ·exact jl f _ _ _ (h.rev _ _)
   ·exact jl f _ _ _ h⟩
theorem rK(h:Pm n p)(m r:Nat):EJ n (λx=>Pm n x.2) (kas_tail3 m r p):=by
 unfold kas_tail3;refine EJ.Jg (λx _=>?_) (qr hn (h.rev _ _) _ _);exact h.rev _ _
theorem rL(h:Pm n p)(m r:Nat):EJ n (λx=>Pm n x.2) (kas_descPart m r p):=by
 unfold kas_descPart;refine EJ.Jg (λx hx=>?_) (jl hn _ _ _ _ h);split
 ·exact rK hn (hx.rev _ _) _ _
 ·exact rK hn hx _ _
theorem vd(h:Pm n p)(r:Nat):EJ n (λx=>Pm n x.2) (kas_count r p):=by
 unfold kas_count;refine EJ.Jg (λm _=>?_) (qr hn h _ _);split
 ·exact h
 ·split
  ·exact⟨h.at hn _,h.at hn _,λb=>by
    cases b
    ·exact rL hn (h.rev _ _) _ _
    ·exact h⟩
  ·exact rL hn h _ _
theorem jQ(h:Pm n p)(k:Nat):∀(f l r:Nat),EJ n (λ_=>True) (kas_place p k f l r)
 |0,l,r=>trivial
 |f+1,l,r=>by
  unfold kas_place;split
  ·exact trivial
  ·exact⟨h.at hn _,h.at hn _,λb=>by
    cases b
    ·exact jQ h k f _ _
    ·exact jQ h k f _ _⟩
theorem vf:∀(f:Nat) (p:Array Nat) (k:Nat),Pm n p->EJ n (Pm n) (kas_bin f p k)
 |0,p,k,h=>h
 |f+1,p,k,h=>EJ.Jg (λl _=>vf f _ _ (h.P8 _ _)) (jQ hn h _ _ _ _)
theorem rM:EJ n (Pm n) (UO n):=by
 unfold UO;refine EJ.Jg (λx hx=>?_) (vd hn (p:=List.toArray (Sl n)) (by unfold Pm;simp) n);split
 ·exact vf hn _ _ _ hx
 ·exact hx
end
theorem jR(lt:Nat->Nat->Bool)(n:Nat):(gs lt (UO n)).toList.Perm (Sl n):=by
 cases n with
 |zero=>exact List.Perm.refl _
 |succ n=>exact(rM (Nat.succ_pos n)).got
section
theorem tI(ho:s.heap.get? a=RY (TH "list" vs.toArray n))(Gh:vs.length<64)
  (NZ:2<=vs.length->∀s1:Sm,(∀b o,b≠a->s.heap.get? b=RY o->s1.heap.get? b=RY o)->Se (Sw prog w) A (keyKind' vs.toArray) (λκ s'=>s'=s1/\∀i j,i<vs.length->j<vs.length->∀C:Bool->Sm->Prop,C (lt i j) s1->ZG prog w A κ vs i j C s1) (λ_ _=>False) s1)
  (h:P (.done (.ret .none)) {s with heap:=Zr s.heap a vs (((gs lt (UO vs.length)).toList.map λi=>vs.getD i S3).toArray)}) :
  Se (Sw prog w) A (UU.«list.sort» ⟨[.ref a],[]⟩) P E s:=by
 have ha:a<s.heap.objs.size:=Sg ho;have big:(64:Nat)<=R6:=by decide
 rw[list_sort_plain];refine RZ (YG ho rfl (RZ (W4 ho rfl ?_ (by rw[Ss];omega) (SM _))));obtain⟨e1,F8⟩:∃e1,(s.heap.update a (S_ λ_=>(#[]:Array Sb))).get? a=RY (TH "list" #[] e1):=⟨_,À ho λ_=>#[]⟩
 refine RZ (Y7 F8 rfl (RZ (wpAny_newTuple (RZ (Yd (Tj ?_) (SM _))) (by show vs.length<=_;omega))));have J3:(((s.heap.update a (S_ λ_=>(#[]:Array Sb))).push (TH "tuple" vs.toArray 0)).push (TH "list" #[] 0)).get? a=RY (TH "list" #[] e1):=R8 _ (R8 _ F8);have old:∀b o,b≠a->s.heap.get? b=RY o->(((s.heap.update a (S_ λ_=>(#[]:Array Sb))).push (TH "tuple" vs.toArray 0)).push (TH "list" #[] 0)).get? b=RY o:=λb o hb e =>
  R8 _ (R8 _ (by rw[U4 _ _ _ _ hb];exact e))
 show Se (Sw prog w) A _ P E {s with heap:=((s.heap.update a (S_ λ_=>(#[]:Array Sb))).push (TH "tuple" vs.toArray 0)).push (TH "list" #[] 0)}
 dsimp only
 have J4:((gs lt (UO vs.length)).toList.map λi=>vs.getD i S3).length=vs.length:=by rw[R9,(jR lt _).length_eq,WQ]
 by_cases h2:vs.toArray.size<2
 ·rw[Ú h2,Ú h2];refine RZ (R_ ?_);rw[StateT.run_pure];refine RZ (R_ ?_);have eo:((gs lt (UO vs.length)).toList.map λi=>vs.getD i S3).toArray=(vs.toArray.zip vs.toArray).map (·.2):=by
   have hp:=jR lt vs.length;clear h NZ J4 old J3 ho Gh
   match vs,h2,hp with
   |[],_,hp=>rw[show(gs lt (UO ([]:List Sb).length)).toList=[] from List.perm_nil.mp hp];simp
   |[v],_,hp=>rw[show(gs lt (UO [v].length)).toList=[0] from List.perm_singleton.mp hp];simp
   |_::_::_,h2,_=>simp at h2;omega
  rw[eo]at h
  dsimp only
  refine RZ (Y7 J3 rfl (RZ (W4 J3 rfl ?_ (SM _) (by rw[Array.size_map];show(pairsOf vs).size<=_;rw[pairsOf_size];omega))));simp only[bne_self_eq_false,S9,á];exact R_ h
 ·rw[Ü h2,Ü h2];have HB:2<=vs.length:=by rw[Ss]at h2;omega
  refine RZ (Th (NZ HB _ old) (λκ s0 hk=>?_) λ_ _ x=>x.elim);obtain⟨rfl,hk⟩:=hk;refine RZ (Th (kat_run (κ:=κ) (ks:=vs) (vs:=vs) (G:=λp s'=>p=gs lt (UO vs.length)/\s'={s with heap:=((s.heap.update a (S_ λ_=>(#[]:Array Sb))).push (TH "tuple" vs.toArray 0)).push (TH "list" #[] 0)})
   (Q:=λst' s'=>∃p:Array Nat,arrOf st'=p.map (kas_item (vs.toArray.zip vs.toArray))/\failedOf st'=R3/\p=gs lt (UO vs.length)/\s'={s with heap:=((s.heap.update a (S_ λ_=>(#[]:Array Sb))).push (TH "tuple" vs.toArray 0)).push (TH "list" #[] 0)})
   rfl HB Gh (λp st' s' a1 a2 a3 a4=>⟨p,a2,a3,a4⟩) (EJ.wp hk (rM ⋯) ⟨rfl,rfl⟩)) ?_ λ_ _ e=>e)
  rintro⟨⟨⟩,st'⟩ s' ⟨p,P9,hf,rfl,rfl⟩
  dsimp only
  have Mm:=kat_snds rfl P9;rw[Mm,hf];refine RZ (Y7 J3 rfl (RZ (W4 J3 rfl ?_ (SM _) (by rw[Ss,J4];omega))));simp only[bne_self_eq_false,S9,á];exact R_ h
end
abbrev xN:=Str×Int
def HE(ks:List Str)(i j:Nat):Bool:=Sa ((ks.getD i S5).cps.toList<(ks.getD j S5).cps.toList)
def jd(ks:List Str):List Nat:=(gs (HE ks) (UO ks.length)).toList
theorem fD(ks:List Str):(jd ks).Perm (Sl ks.length):=jR _ _
def Cb(x:Str)(n:Int)(t u:Tok):Obj:={cls:=.type "tuple",data:=.seq #[.str x t,.int n u]}
def eN(h:Ua)(as:List Sr)(ps:List xN):Prop:=as.length=ps.length/\∀(j:Nat) (a:Sr),as[j]?=RY a->∃p t u,ps[j]?=RY p/\h.get? a=RY (Cb p.1 p.2 t u)
theorem eN.keeps(x:eN h as ps)(k:∀b o,b∈as->h.get? b=RY o->h'.get? b=RY o):eN h' as ps :=
 ⟨x.1,λj a e=>let ⟨p,t,u,e1,e2⟩:=x.2 j a e;⟨p,t,u,e1,k a _ (SY e) e2⟩⟩
theorem eN.tail(x:eN h (a::as) (p::ps)):eN h as ps :=
 ⟨by have:=x.1;simpa using this,λj b e=>by
  obtain⟨q,t,u,e1,e2⟩:=x.2 (j+1) b (by simpa using e);exact⟨q,t,u,by simpa using e1,e2⟩⟩
theorem eN.je:∀{as:List Sr}{ps:List xN},eN h as ps->∃fs:List Sb,KatTups h (as.map SD) fs/\fs.length=as.length/\∀v∈fs,∃x t,v=Tt x t
 |[],_,_=>⟨[],KatTups.nil,rfl,by simp⟩
 |a::as,[],x=>by have:=x.1;simp at this
 |a::as,p::ps,x=>by
  obtain⟨fs,h1,h2,h3⟩:=eN.je x.tail;obtain⟨q,t,u,e1,e2⟩:=x.2 0 a rfl;refine⟨.str q.1 t::fs,KatTups.cons e2 rfl rfl rfl h1,by simp[h2],λv hv=>?_⟩;rcases Sn.mp hv with rfl|hv
  ·exact⟨_,_,rfl⟩
  ·exact h3 v hv
theorem lN:∀{l:List α}{m:List β}{i:Nat}{x:α},Paired F l m->l[i]?=RY x->∃y,m[i]?=RY y/\F x y
 |_,_,_,_,.nil,e=>by simp at e
 |_,_,0,_,.cons r _,e=>by simp at e;subst e;exact⟨_,rfl,r⟩
 |_,_,i+1,x,.cons _ t,e=>by
  obtain⟨u,h1,h2⟩:=lN (i:=i) (x:=x) t (by simpa using e);exact⟨u,by simpa using h1,h2⟩
section
theorem As(x:eN s.heap as ps)(DW:(ps.map (·.1)).Nodup)(hi:i<as.length)(hj:j<as.length)(q:C (HE (ps.map (·.1)) i j) s):
  ZG prog w A (tuples' R4) (as.map SD) i j C s:=by
 obtain⟨p,t,u,e1,e2⟩:=x.2 i as[i] (by simp[hi]);obtain⟨p',t',u',EC,Fj⟩:=x.2 j as[j] (by simp[hj]);have hl:=x.1;have P_:i<ps.length:=by omega
 have Mn:j<ps.length:=by omega
 have gi:(as.map SD).getD i S3=.ref as[i]:=by simp[VF,hi]
 have gj:(as.map SD).getD j S3=.ref as[j]:=by simp[VF,hj]
 have ki:(ps.map (·.1)).getD i S5=p.1:=by simp[VF,e1]
 have kj:(ps.map (·.1)).getD j S5=p'.1:=by simp[VF,EC]
 unfold ZG;rw[gi,gj];refine kat_lt (b:=R4) e2 rfl Fj rfl ?_;unfold HE at q;rw[ki,kj]at q;show KatLex prog w A R4 (Sa (2<2)) C [(.str p.1 t,.str p'.1 t'),(.int p.2 u,.int p'.2 u')] 0 s;refine kat_cons (ZN ?_);by_cases h:p.1=p'.1
 ·have E4:i=j:=by
   have a1:(ps.map (·.1))[i]'(by simpa using P_)=(ps.map (·.1))[j]'(by simpa using Mn):=by
    obtain⟨_,z1⟩:=Sf.mp e1;obtain⟨_,z2⟩:=Sf.mp EC;simp[z1,z2,h]
   exact(YU DW).mp a1
  subst E4;rw[e1]at EC;cases EC;rw[Þ rfl];refine kat_yes (kat_cons (ZO ?_));rw[show(p.2==p.2)=R4 by simp];refine kat_yes (kat_nil ?_);have:Sa (p.1.cps.toList<p.1.cps.toList)=R5:=Ý (List.lt_irrefl _);rw[this]at q;exact q
 ·rw[Ý h];exact kat_no (oneLt_str q)
theorem Au(x:eN s.heap as ps)(DW:(ps.map (·.1)).Nodup)(h2:2<=as.length):
  Se (Sw prog w) A (keyKind' (as.map SD).toArray) (λκ s'=>s'=s/\∀i j,i<(as.map SD).length->j<(as.map SD).length->∀C:Bool->Sm->Prop,C (HE (ps.map (·.1)) i j) s->ZG prog w A κ (as.map SD) i j C s) (λ_ _=>False) s:=by
 obtain⟨fs,f1,f2,f3⟩:=x.je;refine kat_kind (T:=.type "str") f1 ⋯ (λv hv=>?_) rfl ⟨rfl,λi j hi hj C q=>?_⟩
 ·obtain⟨y,t,rfl⟩:=f3 v hv;exact Looks.of_pure rfl
 ·rw[R9]at hi hj;exact As x DW hi hj q
end
def jf(H:Hp):List (Sr×List V)->Hp
 |[]=>H
 |(a,vs)::r=>upd (jf H r) a (.tup vs)
theorem jS:∀{l:List (Sr×List V)}{b:Sr}{o:HO},jf H l b=RY o->(∃vs,(b,vs)∈l/\o=.tup vs)\/H b=RY o
 |[],b,o,h=>.inr h
 |(a,vs)::r,b,o,h=>by
  by_cases hb:b=a
  ·subst hb;rw[jf,au]at h;cases h;exact .inl ⟨vs,by simp,rfl⟩
  ·rw[jf,ao hb]at h;rcases jS h with⟨ws,q1,q2⟩|q
   ·exact .inl ⟨ws,by simp[q1],q2⟩
   ·exact .inr q
theorem jT:∀{l:List (Sr×List V)}{b:Sr},(∀p∈l,p.1≠b)->jf H l b=H b
 |[],b,_=>rfl
 |(a,vs)::r,b,h=>by
  rw[jf,ao (Te (h _ SR))];exact jT λp hp=>h p (by simp[hp])
theorem rN:∀{l:List (Sr×List V)}{b:Sr}{vs:List V},(l.map (·.1)).Nodup->(b,vs)∈l->jf H l b=RY (.tup vs)
 |(a,ws)::r,b,vs,nd,h=>by
  have N0:a∉r.map (·.1)/\(r.map (·.1)).Nodup:=by simpa using nd
  rcases Sn.mp h with h|h
  ·cases h;exact au
  ·have:b≠a:=λz=>N0.1 (by rw[<-z];exact So.mpr ⟨_,h,rfl⟩);rw[jf,ao this];exact rN N0.2 h
section
theorem Inv.many(I:Inv X pins σ H s)(k:∀b u,s.heap.get? b=RY u->h'.get? b=RY u)(hH:∀b o,H b=RY o->H' b=RY o)
  (hn:∀b o,H' b=RY o->H b=RY o\/(s.heap.objs.size<=b/\bK X.prog X.w H' h' b o)):Inv X pins σ H' {s with heap:=h',toks:=t' }:=by
 refine I.un ⟨λb u q _ _ _=>k b u q,λb u q _ _ _=>⟨u.slots,k b u q⟩,λb u q n _=>?_,λb u q _=>⟨u,k b u q⟩,λb xs q=>hH b _ q,λb u xs q=>hH b _ q,λb ps q=>⟨#[],by rw[hH b _ q];simp⟩⟩ λb o e=>?_
 ·cases e:H' b with
  |none=>rfl
  |some o =>
   rcases hn b o e with z|⟨z,_⟩
   ·rw[n]at z;cases z
   ·exact absurd (SF (Sg q) z) (TR _)
 ·rcases hn b o e with z|⟨_,z⟩
  ·exact(I.DN b o z).js (λc v _ q=>k c v q) (λc q=>hH c _ q) λc xs q=>hH c _ q
  ·exact z
def G1(p:xN):List V:=[.str p.1,.int p.2]
theorem mY{ps:List xN}(hc:X.calm=R4)(I:Inv X pins σ H s)(e:H d=RY (.dK (ps.map λp=>((SN p.1:Key),V.int p.2))))(DW:(ps.map (·.1)).Nodup)(Gh:ps.length<64)
  (q:∀(as:List Sr) (L:Sr),as.length=ps.length->as.Nodup->(∀a∈L::as,H a=R3)->L∉as->Q (.ref L) (upd (jf H (as.zip (ps.map G1))) L (.lst ((jd (ps.map (·.1))).map λi=>V.ref (as.getD i 0))))) :
  Se (Sw X.prog X.w) X.A (Vj (.builtin "dict.items") [.ref d]) (λv s1=>Se (Sw X.prog X.w) X.A (Vj (.builtin "sorted") [v]) (EP X pins σ Q) X.xe s1) X.xe s:=by
 have big:(64:Nat)<=R6:=by decide
 obtain⟨hz,lo,vs,kv,dd⟩:=uS I.DN e;have hlen:vs.length=ps.length:=by
  have:=Paired.length kv;simpa using this.symm
 obtain⟨o,es,ep,hd⟩:=id dd;refine Yy PySem.F.slot_dict_items (show s.TypeIs (.ref d) "dict" from⟨o,hd.1,hd.2.1.1⟩) PySem.F.entry_dict_items (PySem.F.args_dict_items_1 _) (meets_dict_items (aJ X.prog X.w) d lo) ⟨⟨vs,dd⟩,?_⟩;show Se (Sw X.prog X.w) X.A (Vj (.builtin "sorted") [.ref s.heap.objs.size]) (EP X pins σ Q) X.xe {s with heap:=s.heap.push {cls:=.type "dict_items",data:=.fields #[.ref d]}};have k1:∀b u,s.heap.get? b=RY u->(s.heap.push {cls:=.type "dict_items",data:=.fields #[.ref d]}).get? b=RY u:=λb u z=>R8 _ z;have RE:(s.heap.push {cls:=.type "dict_items",data:=.fields #[.ref d]}).DictOf (aJ X.prog X.w) d vs:=⟨o,es,ep,k1 _ _ hd.1,hd.2⟩
 have EY:(s.heap.push {cls:=.type "dict_items",data:=.fields #[.ref d]}).DictAt (aJ X.prog X.w) d vs ep:=⟨o,es,k1 _ _ hd.1,hd.2⟩
 refine Xp kind_sorted plain_sorted entry_sorted (args_sorted1 _) ?_;unfold UU.«sorted»;refine RZ (m:=checkCount "sorted" 1 1 _) (R_ ?_);refine RZ (kdx_collect (A:=X.A.in1) (knd:=aJ X.prog X.w) (kvs:=vs) (ep:=ep) (I.ok.hd hc) ⟨_,Sj _ rfl,rfl,rfl⟩ EY ⋯ λh1 tk as hk hl hG=>?_);have G9:as.length=ps.length:=hl.trans hlen;have above:∀a∈as,s.heap.objs.size<=a:=λa ha=>by
  have:=hG.above a ha;have z:(s.heap.push {cls:=.type "dict_items",data:=.fields #[.ref d]}).objs.size=s.heap.objs.size+1:=UM ..;have N1:(s.heap.push {cls:=.type "dict_items",data:=.fields #[.ref d]}).objs.size<a:=this;omega
 have pa:eN h1 as ps:=⟨G9,λj a ea=>by
  obtain⟨key,k,x,e1,e2,e3⟩:=hG.pairs j a ea;have hj:j<ps.length:=by rw[<-G9];exact(Sf.mp ea).1
  obtain⟨y,ey,r1,r2⟩:=lN kv (i:=j) (x:=((SN ps[j].1:Key),V.int ps[j].2)) (by simp[hj]);rw[e1]at ey;cases ey;obtain⟨tx,rfl⟩:∃t,x=.int ps[j].2 t:=r2;have P':k=SN ps[j].1:=r1.symm;subst P';obtain⟨t,rfl⟩:=X7 (x:=ps[j].1) (v:=key) e2;exact⟨ps[j],t,tx,by simp[hj],e3⟩⟩
 have nd:as.Nodup:=hG.rise.imp λh=>Su h;refine RZ (Yd ?_ (by rw[R9];omega));have G_:(h1.push (TH "list" (as.map SD).toArray 0)).get? h1.objs.size=RY (TH "list" (as.map SD).toArray 0):=Sj _ rfl;show Se _ _ _ _ _ {s with heap:=h1.push (TH "list" (as.map SD).toArray 0),toks:=tk};have N2:∀a∈as,a<h1.objs.size:=λa ha=>hG.there ha;refine RZ (Tj (Ts Ó ⟨_,G_,rfl⟩ Á (tI (lt:=HE (ps.map (·.1))) G_ (by rw[R9];omega) (λh2 s1 ks=>?_) ⟨_,rfl,?_⟩) (Ø _)))
 ·refine Au (pa.keeps λb o hb z=>ks b o (Su (N2 b hb)) (R8 _ z)) DW (by rw[R9]at h2;exact h2)
 ·obtain⟨ee,he⟩:=sortedHeap_at (out:=((gs (HE (ps.map (·.1))) (UO (as.map SD).length)).toList.map λi=>(as.map SD).getD i S3).toArray) G_;have hold:∀b o,h1.get? b=RY o->(Zr (h1.push (TH "list" (as.map SD).toArray 0)) h1.objs.size (as.map SD) ((gs (HE (ps.map (·.1))) (UO (as.map SD).length)).toList.map λi=>(as.map SD).getD i S3).toArray).get? b=RY o:=λb o z=>by
   have D2:b<h1.objs.size:=Sg z;rw[Ò (Su D2) (by rw[UM];exact WX D2)];exact R8 _ z
  have Fq:s.heap.objs.size<=h1.objs.size:=U2 (Sg (hk _ _ (Sj _ rfl)));have eP:((gs (HE (ps.map (·.1))) (UO (as.map SD).length)).toList)=jd (ps.map (·.1)):=by
   unfold jd;rw[R9,R9,G9]
  have Jh:H h1.objs.size=R3:=I.DN.fresh Fq;have Qa:h1.objs.size∉as:=λz=>TR _ (N2 _ z);have N3:∀a∈as,H a=R3:=λa ha=>I.DN.fresh (above a ha);have Mo:∀{b:Sr} {ws:List V},(b,ws)∈as.zip (ps.map G1)->b∈as:=λz=>(Vv z).1;refine R_ ⟨_,rfl,.ref h1.objs.size,upd (jf H (as.zip (ps.map G1))) h1.objs.size (.lst ((jd (ps.map (·.1))).map λi=>V.ref (as.getD i 0))),?_,rfl,q as _ G9 nd (λa ha=>?_) Qa⟩
  ·refine I.many (λb u z=>hold b u (hk b u (k1 b u z))) (λb o z=>?_) λb o z=>?_
   ·have n1:b≠h1.objs.size:=λy=>by rw[y,Jh]at z;cases z
    rw[ao n1,jT λp hp y=>?_]
    ·exact z
    ·have:=N3 p.1 (Mo (b:=p.1) (ws:=p.2) hp);rw[y,z]at this;cases this
   ·by_cases hb:b=h1.objs.size
    ·subst hb;rw[au]at z;cases z;refine .inr ⟨Fq,by rw[R9,(fD _).length_eq,WQ,R9];omega,(jd (ps.map (·.1))).map λi=>(as.map SD).getD i S3,ee,?_,?_⟩
     ·have EH:∀i∈jd (ps.map (·.1)),i<as.length:=λi hi=>by
       have:=TB.mp ((fD _).mem_iff.mp hi);rw[R9]at this;omega
      generalize jd (ps.map (·.1))=l at EH;induction l with
      |nil=>exact .nil
      |cons i l ih =>
       refine .cons ?_ (ih λj hj=>EH j (by simp[hj]));have hi:=EH i (by simp);show RelV (.ref (as.getD i 0)) ((as.map SD).getD i S3);have:(as.map SD).getD i S3=.ref (as.getD i 0):=by simp[VF,hi]
       rw[this];rfl
     ·rw[<-eP];exact he
    ·rw[ao hb]at z;rcases jS z with⟨ws,z1,rfl⟩|z1
     ·obtain⟨j,hj,ej⟩:=X_.mp z1;have Mp:j<as.length:=by simp at hj;omega
      have Mn:j<ps.length:=by omega
      have Qb:as[j]=b/\G1 ps[j]=ws:=by simpa using ej
      obtain⟨rfl,rfl⟩:=Qb;obtain⟨p,t,u,e1,e2⟩:=pa.2 j as[j] (by simp[Mp]);have:p=ps[j]:=by simpa[Mn] using e1.symm
      subst this;exact .inr ⟨above _ (by simp),by show 2<=R6;omega,[.str ps[j].1 t,.int ps[j].2 u],.cons ⟨t,rfl⟩ (.cons ⟨u,rfl⟩ .nil),_,hold _ _ e2,rfl,0,rfl⟩
     ·exact .inl z1
  ·rcases Sn.mp ha with rfl|ha
   ·exact Jh
   ·exact N3 a ha
end
section
end
section
theorem vg:X.calm=R4->fX X (.builtin "any") (λxs H Q=>∃(p:Sr) (bs:List Bool),xs=[.ref p]/\Eg X.K H p (bs.map V.bl)/\Q (.bl (bs.any id)) H):=by
 intro hc pins s σ H xs us Q I rs h;obtain⟨p,bs,rfl,hq,q⟩:=h;obtain⟨u,rfl,r⟩:=vals1 rs;cases r;obtain⟨its,rv,pl,hz⟩:=I.list hq;have e:=eV rv;subst e;have D2:p<s.heap.objs.size:=by obtain⟨_,_,e,_⟩:=pl;exact Sg e
 refine call_any_walk (Vp pl.isList ?_);refine⟨s.heap.objs.size,[s.heap.objs.size,p],[s.heap.objs.size],(bs.map Uz).toArray.size,_,_,λi=>(bs[i]?).getD R5,rfl,Wu (A:=X.A.in1) (I.ok.hd hc) _ p (Su D2) (bs.map Uz).toArray,
  ⟨⟨_,Sj _ rfl,rfl,rfl⟩,pl.isList.push _⟩,λi v s' Q' E' hP hQ=>?_,λh' tk hk=>?_⟩
 ·have FY:(bs.map Uz)[i]?=RY v:=by simpa using hP
  rw[SQ]at FY;cases e:bs[i]? with
  |none=>rw[e]at FY;cases FY
  |some b =>
   rw[e]at FY;cases FY;simp only[e,WN]at hQ;exact TC hQ
 ·have e:((Sl (bs.map Uz).toArray.size).any λi=>(bs[i]?).getD R5)=bs.any id:=by
   rw[Ss,R9];exact Zc bs
  rw[e];exact⟨.bl _,H,I.kept (t':=tk) (Wd hk),rfl,q⟩
end
section
theorem mZ:X0 (.type "list") "keys"=pure R3:=am_miss_of_fast (by decide +kernel)
theorem m6(hx:s.heap.get? a=RY {cls:=.type "list",dict:=R3,data:=.seq xs k,slots:=sl})(hA:A.handled=R3)
    (h:∀h' tk,(∀b ob,s.heap.get? b=RY ob->h'.get? b=RY ob)->Q R3 {s with heap:=h',toks:=tk}):Se (Sw prog w) A (getAttr? (.ref a) "keys") Q E s:=by
  obtain⟨hp,g,d,tk,os⟩:=s;have hT:∀K3,(⟨hp,g,d,K3,os⟩:Sm).TypeIs (.ref a) "list":=λ_=>⟨_,hx,rfl⟩
  have f1:=sub_AttributeError;have f3:=PySem.F.slot_list_getattribute.lookup;have f4:=PySem.F.slot_list_getattribute.bind (.ref a);have f5:=am_list_getattr_none;have big:(1000:Nat)<=R6:=by decide
  have hk : (("keys" : Str)).length + 100 ≤ sizeLine := by have : ("keys" : Str).length = 4 := by decide
                                                           omega
  unfold getAttr? getAttrBy? getAttrBy
  repeat (any_goals (first|assumption|exact hT _|((with_reducible show Se _ _ (Vj (Za "list.__getattribute__") _ _) _ _ _);refine Vy PySem.F.slot_list_getattribute (hT _) am_entry_list_getattribute (PySem.F.args_list_getattribute_2 _ _) (meets_getattribute_miss_list a xs k sl "keys" _ mZ (by decide) hk) ⟨hx,hA,λh' K3 e I_=>?_⟩)|wp_step))
  obtain⟨t',u',he⟩:=I_.there;show Se _ _ (Zo _ _ _ _ _ _ _) _ _ _;unfold Zo
  repeat (any_goals (first|assumption|wp_step))
  exact h _ _ I_.keeps
theorem eZ:YZ table "dict.update.loop"=RY UU.«dict.update.loop»:=ZQ (by kernel_rfl)
theorem cy:plainId "dict.update.loop"=R4:=by decide +kernel
def xO(prog:Tu)(w:T1)(d I:Sr)(its:Array Sb)(ps:List (Key×Sb))(h:Ua):Prop:=∀(j:Nat) p,ps[j]?=RY p->∃a o e key,its[j]?=RY (.ref a)/\a≠d/\a≠I/\h.get? a=RY o/\o.cls=.type "tuple"/\o.data=.seq #[key,p.2] e/\(aJ prog w).is p.1 key=R4
theorem xO.keep(x:xO prog w d I its ps h)(k:∀b o,b≠d->b≠I->h.get? b=RY o->h'.get? b=RY o):xO prog w d I its ps h':=λj p e=>by
 obtain⟨a,o,n,key,e1,e2,e3,e4,e5⟩:=x j p e;exact⟨a,o,n,key,e1,e2,e3,k a o e2 e3 e4,e5⟩
theorem vh(hh:A.handled=R3)(Ez:ax≠I)(Mq:d≠I)(L_:ax≠d)(hz:ps.length<=R6)(hl:its.size=ps.length):
  ∀(k i:Nat) (s:Sm) (acc:List (Key×Sb)),ps.length - i=k->i<=ps.length->s.heap.IsListIter I ax i->s.heap.IsList ax its->acc.length<=i->xO prog w d I its ps s.heap->s.heap.DictOf (aJ prog w) d acc->(acc.map (·.1)++(ps.drop i).map (·.1)).Nodup ->
  (∀h' tk,h'.DictOf (aJ prog w) d (acc++ps.drop i)->(∀b o,b≠d->b≠I->s.heap.get? b=RY o->h'.get? b=RY o)->R (.ok (.ret res)) {s with heap:=h',toks:=tk}) ->
  VP (Sw prog w) A (.builtin "dict.update.loop" ⟨[.ref d,.ref I,To i,res],[]⟩) R s:=by
 intro k;induction k with
 |zero =>
  intro i s acc hk hi hit Mr Hh Jb hd DW hR;have EH:i=its.size:=by omega
  subst EH;refine T3 eZ ?_;rw[T6 cy _];show Se _ A.in1 (VS (.ref I) >>= _) _ _ s;refine RZ ((Wu (A:=A.in1) hh I ax Ez its).done s _ _ ⟨hit,Mr⟩ λh' tk EF=>?_);have e0:ps.drop its.size=[]:=XX ⋯;rw[e0,TF]at hR;have kp:∀b o,b≠I->s.heap.get? b=RY o->h'.get? b=RY o:=λb o hb e=>EF b o (by simpa using hb) e;refine RZ (R_ (R_ (hR h' tk ?_ λb o _ hb e=>kp b o hb e)));obtain⟨o,es,ep,ho,r⟩:=hd;exact⟨o,es,ep,kp d o Mq ho,r⟩
 |succ k ih =>
  intro i s acc hk hi hit Mr Hh Jb hd DW hR;have D2:i<ps.length:=by omega
  obtain⟨p,hp⟩:∃p,ps[i]?=RY p:=⟨ps[i],by simp[D2]⟩
  refine T3 eZ ?_;rw[T6 cy _];show Se _ A.in1 (VS (.ref I) >>= _) _ _ s;refine RZ ((Wu (A:=A.in1) hh I ax Ez its).item i s _ _ ⋯ ⟨hit,Mr⟩ λv h' tk hP Hg EF=>?_);have kp:∀b o,b≠I->s.heap.get? b=RY o->h'.get? b=RY o:=λb o hb e=>EF b o (by simpa using hb) e;have Gf:h'.DictOf (aJ prog w) d acc:=by
   obtain⟨o,es,ep,ho,r⟩:=hd;exact⟨o,es,ep,kp d o Mq ho,r⟩
  have J5:=Jb.keep (h':=h') λb o _ hb e=>kp b o hb e;obtain⟨a,o,e,key,e1,e2,e3,e4,e5,e6,e7⟩:=J5 i p hp;have FY:its[i]?=RY v:=hP;rw[e1]at FY;cases FY;refine RZ (Tj (RZ (wpAny_tryCatch ?_)));unfold Z_;refine RZ (U7 (T:="tuple") ⟨o,e4,e5⟩ ?_);rw[Ú (by decide)];refine RZ (Vo e4 e6 (R_ ?_));show Se _ _ (Up [key,p.2] (dictSet d key p.2)) _ _ _;have Ms:ps.drop i=p::ps.drop (i+1):=by
   rw[U3 D2];have:ps[i]=p:=by simpa[D2] using hp
   rw[this]
  have Fb:p.1∉acc.map (·.1):=λz=>by
   rw[Ms,Sd,SW]at DW;exact DW.2.2 _ z _ (by simp) rfl
  have Mt:Æ acc p.1 p.2=acc++[p]:=by
   unfold Æ;rw[Ü λz=>by
    obtain⟨x,hx,e⟩:=UZ.mp z;exact Fb (So.mpr ⟨x,hx,by simpa using e⟩)]
  refine Tj (wpAny_dictSet_pairs (hsz:=by omega) e7 Gf λh2 hd2 Fo=>?_);rw[Mt]at hd2;have K7:∀b o,b≠d->h'.get? b=RY o->h2.get? b=RY o:=λb o hb e=>(Fo.2 b hb).trans e;have Im:h2.IsListIter I ax (i+1):=by
   obtain⟨z,_⟩:=Hg;exact z.at λo e=>K7 _ o (Te Mq) e
  have Mu:h2.IsList ax its:=by
   obtain⟨_,z⟩:=Hg;exact z.at λo e=>K7 _ o L_ e
  rw[Ms,Sd]at DW;rw[Ms]at hR;exact R_ ⟨VC cy _,ih (i+1) _ (acc++[p]) ⋯ D2 Im Mu (by simp;omega) (J5.keep λb o hb _ e=>K7 b o hb e) hd2 (by simpa using DW) λh3 Qc N4 k3=>hR h3 Qc (by simpa using N4) λb o hb FH e=>k3 b o hb FH (K7 b o hb (kp b o FH e))⟩
end
theorem vi{h:Ua}:∀{as:List Sr}{ps:List (Str×Str)},as.length=ps.length->(∀(j:Nat) a p,as[j]?=RY a->ps[j]?=RY p->∃(o:Obj) (n:Nat) (t u:Tok),h.get? a=RY o/\o.cls=.type "tuple"/\o.data=.seq #[.str p.1 t,.str p.2 u] n) ->
  ∃vs:List (Key×Sb),vs.length=ps.length/\vs.map (·.1)=ps.map (λp=>(SN p.1:Key))/\KV (ps.map λp=>((SN p.1:Key),V.str p.2)) vs/\∀(j:Nat) q,vs[j]?=RY q->∃a p o n t,as[j]?=RY a/\ps[j]?=RY p/\q.1=SN p.1/\h.get? a=RY o/\o.cls=.type "tuple"/\o.data=.seq #[.str p.1 t,q.2] n
 |[],[],_,_=>⟨[],rfl,rfl,.nil,by simp⟩
 |[],_::_,h,_=>by simp at h
 |_::_,[],h,_=>by simp at h
 |a::as,p::ps,hl,hx=>by
  obtain⟨vs,h1,h2,h3,h4⟩:=vi (as:=as) (ps:=ps) (by simpa using hl) λj b q e1 e2=>hx (j+1) b q (by simpa using e1) (by simpa using e2);obtain⟨o,n,t,u,e1,e2,e3⟩:=hx 0 a p rfl rfl;refine⟨(SN p.1,.str p.2 u)::vs,by simp[h1],by simp[h2],.cons ⟨rfl,u,rfl⟩ h3,λj q hq=>?_⟩;cases j with
  |zero =>
   simp at hq;subst hq;exact⟨a,p,o,n,t,rfl,rfl,rfl,e1,e2,e3⟩
  |succ j =>
   obtain⟨a',p',o',n',t',z1,z2,z⟩:=h4 j q (by simpa using hq);exact⟨a',p',o',n',t',by simpa using z1,by simpa using z2,z⟩
section
theorem xP{as:List Sr}{ps:List (Str×Str)}(hc:X.calm=R4)(I:Inv X pins σ H s)(e:Eg X.K H L (as.map V.ref))(hl:as.length=ps.length)(ht:∀(j:Nat) a p,as[j]?=RY a->ps[j]?=RY p->Ef X.K H a [.str p.1,.str p.2])(DW:(ps.map (·.1)).Nodup)
  (q:∀d,H d=R3->Q (.ref d) (upd H d (.dK (ps.map λp=>((SN p.1:Key),V.str p.2))))) :
  Se (Sw X.prog X.w) X.A (Vj (.type "dict") [.ref L]) (EP X pins σ Q) X.xe s:=by
 obtain⟨its,rv,pl,hz⟩:=I.list e;rw[R9]at hz;have ER:its.length=ps.length:=by rw[<-rv.length,R9,hl]
 have Mw:its=as.map SD:=by
  have:∀(as:List Sr) (its:List Sb),Vals (as.map V.ref) its->its=as.map SD:=λas=>by
   induction as with
   |nil=>intro its h;cases h;rfl
   |cons a as ih =>
    intro its h;cases h with
    |cons r t=>rw[ih _ t];cases r;rfl
  exact this as its rv
 subst Mw;obtain⟨o,n,ho,Ig,N5,N6⟩:=pl;obtain⟨oc,od,RF,IZ⟩:=o;simp only at Ig N5 N6;subst Ig N5 N6;obtain⟨vs,v1,v2,v3,v4⟩:=vi (h:=s.heap) hl λj a p e1 e2=>by
  obtain⟨us,r,⟨o,h1,h2,n,h3⟩,_⟩:=I.tuple (ht j a p e1 e2);cases r with
  |cons r1 r2 =>
   cases r2 with
   |cons r2 r3 =>
    cases r3;obtain⟨t,rfl⟩:=r1;obtain⟨u,rfl⟩:=r2;exact⟨o,n,t,u,h1,h2,h3⟩
 have hA:X.A.handled=R3:=I.ok.hd hc;have K4:L<s.heap.objs.size:=Sg ho;refine callType_codes (Q₁:=λobj s₁=>obj=.ref s.heap.objs.size/\s₁={s with heap:=s.heap.push {cls:=.type "dict",data:=.dict #[]}}) PySem.F.kt_called_dict (PySem.F.kt_typeCall_dict_1 _) PySem.F.entry_dict_init (kt_code_dict_new _ ⟨rfl,rfl⟩) ?_;rintro obj s₁ ⟨rfl,rfl⟩;have Fb:(s.heap.push {cls:=.type "dict",data:=.dict #[]}).DictOf (aJ X.prog X.w) s.heap.objs.size []:=XR s.heap;have k0:∀b u,s.heap.get? b=RY u->(s.heap.push {cls:=.type "dict",data:=.dict #[]}).get? b=RY u:=λb u z=>R8 _ z;refine⟨Fb.typeIs,PySem.F.args_dict_init_2 _ _,?_⟩;unfold UU.«dict.__init__»;refine RZ ?_;unfold Z9;refine RZ (wpAny_notOrdered_dict Fb.typeIs ?_);show Se _ _ (pure (s.heap.objs.size,[SD L])) _ _ _;refine R_ ?_;show Se _ _ (WW "dict.__init__" s.heap.objs.size (.ref L) [] .none) _ _ _;unfold WW;refine RZ (U7 (T:="list") ⟨_,k0 _ _ ho,rfl⟩ ?_);rw[Ú (by decide)];refine RZ (m6 (k0 _ _ ho) hA λh1 RG k1=>?_);have N7:=k1 _ _ (k0 _ _ ho);have K8:h1.DictOf (aJ X.prog X.w) s.heap.objs.size []:=by
  obtain⟨o,es,ep,ho,r⟩:=Fb;exact⟨o,es,ep,k1 _ _ ho,r⟩
 have Fq:s.heap.objs.size<h1.objs.size:=by
  obtain⟨o,es,ep,ho,r⟩:=K8;exact Sg ho
 refine RZ (UJ (RZ (Vp ⟨_,N7,rfl,n,rfl⟩ ?_)));refine R_ ⟨VC cy _,vh (A:=X.A.in1) (ax:=L) (I:=h1.objs.size) (d:=s.heap.objs.size) (its:=(as.map SD).toArray) (ps:=vs) hA (Su (VE K4 Fq)) (Su Fq) (Su K4) ⋯ (by simp;omega) vs.length 0 _ [] ⋯ (SM _) ⟨_,Sj _ rfl,rfl,rfl⟩ ⟨_,R8 _ N7,rfl,n,rfl⟩ (Sv _) (λj q hq=>?_) (K8.push _) (by rw[TV,Sz,Xv,v2];exact(Sx (f:=λp:Str×Str=>p.1) (g:=λx=>(SN x:Key))▸(Z3 _ (λa b Ic z=>Ic (by injection z)) DW)) ) λh' tk Gf kp=>?_⟩
 ·obtain⟨a,p,o,m,t,z1,z2,z3,z4,z5,z6⟩:=v4 j q hq;have D2:=Sg z4;refine⟨a,o,m,.str p.1 t,by simp[z1],Su D2,Su (VE D2 Fq),R8 _ (k1 _ _ (k0 _ _ z4)),z5,z6,?_⟩;rw[z3];show Ue p.1 (.str p.1 t)=R4;simp[Ue]
 ·refine⟨rfl,.ref s.heap.objs.size,upd H s.heap.objs.size (.dK (ps.map λp=>((SN p.1:Key),V.str p.2))),I.laid (a:=s.heap.objs.size) (λb u z=>?_) (Sv _) ⟨by rw[R9];omega,?_,vs,v3,?_⟩,rfl,q _ (I.DN.fresh (Sv _))⟩
  ·have D2:=Sg z;exact kp b u (Su D2) (Su (VE D2 Fq)) (R8 _ (k1 _ _ (k0 _ _ z)))
  ·exact à.mpr (Ur I.big)
  ·simpa using Gf
end
section
theorem tJ{vs:List (Key×Sb)}(hk:vs.map (·.1)=ks.map SN)(hl:acc.length=vs.length)(h:∀(j:Nat) (v:Sb),acc[j]?=RY v->∃k x,vs[j]?=RY (k,x)/\(aJ P w).is k v=R4):Vs acc ks:=by
 induction acc generalizing ks vs with
 |nil =>
  cases vs with
  |nil=>cases ks with
   |nil=>exact .nil
   |cons _ _=>cases hk
  |cons _ _=>cases hl
 |cons v acc ih =>
  cases vs with
  |nil=>cases hl
  |cons p vs =>
   cases ks with
   |nil=>cases hk
   |cons k ks =>
    simp only[Sd,UY]at hk;obtain⟨k',x,e1,e2⟩:=h 0 v rfl;simp only[List.getElem?_cons_zero,XF]at e1;subst e1;have Mx:k'=SN k:=hk.1;subst Mx;rcases bg (show jr (SN k) v=R4 from e2) with⟨i,t,e,rfl⟩|⟨y,t,e,rfl⟩
    ·cases e
    ·cases e;exact .cons _ _ (ih hk.2 (by simpa using hl) λj u ej=>h (j+1) u (by simpa using ej))
theorem iu:X.calm=R4->fX X (.builtin "sorted") (λxs H Q=>∃(d:Sr) (kvs:List (Key×V)) (ks:List Str),xs=[.ref d]/\H d=RY (.dK kvs)/\kvs.map (·.1)=ks.map SN/\ks.length<64/\∀q,H q=R3->Q (.ref q) (upd H q (.lst ((ay ks).map V.str)))):=by
 intro hc pins s σ H xs us Q I rs h;obtain⟨d,kvs,ks,rfl,e,hk,Gh,q⟩:=h;obtain⟨u,rfl,r⟩:=vals1 rs;cases r;obtain⟨hz,lo,vs,kv,dd⟩:=uS I.DN e;have hlen:vs.length=kvs.length:=(Paired.length kv).symm;have Io:kvs.length=ks.length:=by rw[<-R9 (f:=(·.1)),hk,R9]
 have Qd:vs.map (·.1)=ks.map SN:=by
  rw[<-hk];clear dd hlen hk Io e q hz;induction kv with
  |nil=>rfl
  |cons r _ ih=>rw[Sd,Sd,ih,r.1]
 obtain⟨o,es,ep,hd⟩:=id dd;have big:(64:Nat)<=R6:=by decide
 refine dZ (kdu_collect (A:=X.A.in1) (kdl_dict (knd:=aJ X.prog X.w) (kvs:=vs) (ep:=ep) lo) (I.ok.hd hc) ⟨o,es,hd⟩ ⋯ λh' tk acc EF EG=>⟨ks,tJ Qd (by rw[S7];exact EG.1) (λj v ej=>EG.2 j v (by rw[<-Uj];exact ej)),by rw[S7,EG.1];omega,λh2 Ea e2 k2 at2 s2=>?_⟩);have I1:Inv X pins σ H {s with heap:=h',toks:=tk}:=I.kept (t':=tk) EF;exact⟨.ref h'.objs.size,_,I1.laid (t':=tk) (o:=.lst ((ay ks).map V.str)) k2 (Sv _) ⟨by rw[R9,br];omega,Ea,e2,cQ s2,at2⟩,rfl,q _ (I1.DN.fresh (Sv _))⟩
end
end L2
namespace TM
open PySem L2
inductive U where
 |DR|bl (b:Bool)|int (i:Int)|str (x:Str)
 |tup (xs:List U)|lst (xs:List U)
 |DJ (ks:List Str) (vs:List U)|Ew (ks:List kY)
mutual
def D':U->Bool
 |.tup xs=>gu xs
 |.lst _=>R5
 |.DJ _ _=>R5
 |.Ew _=>R5
 |.DR=>R4|.bl _=>R4|.int _=>R4|.str _=>R4
def gu:List U->Bool
 |[]=>R4
 |u::us=>D' u&&gu us
end
inductive Kd where|own|io|loc|any|bor (j:Nat)|B'
deriving DecidableEq
def Kd.root:Kd->Bool
 |.own=>R4
 |.io=>R4
 |_=>R5
abbrev aj:=List (Option (Kd×U))
structure Ct where
 P:Tu
 w:T1
 K:PySem.W.Frag
 H₀:Hp
 GG:Sr->Prop
 IO:Sr->Prop
def KL(K:PySem.W.Frag)(a:Sr)(xs:List V):Prop :=
 ∃(o:Obj) (its:Array Sb) (n:Nat),K.lookup a=RY o/\o.cls=.type "list"/\o.dict=R3/\o.data=.seq its n/\its.size<=R6/\Vals xs its.toList
def J6(K:PySem.W.Frag)(S:Sr->Prop)(H:Hp)(a:Sr)(vs:List V):Prop:=(S a/\Rd H a (.lst vs))\/KL K a vs
theorem J6.sq(h:J6 K S H a vs):Eg K H a vs:=h.elim (λz=>.inl z.2) .inr
def HF(H:Hp)(R:List V->Prop)(a:Sr)(ks:List Str):Prop:=∃kvs:List (Key×V),H a=RY (.dK kvs)/\kvs.map (·.1)=ks.map SN/\R (kvs.map (·.2))
section
variable(C:Ct)(S:Sr->Prop)(H:Hp)
mutual
def Rep:U->V->Prop
 |.DR,v=>v=.DR
 |.bl b,v=>v=.bl b
 |.int i,v=>v=.int i
 |.str x,v=>v=.str x
 |.tup us,v=>∃a vs,v=.ref a/\Ef C.K H a vs/\ai us vs
 |.lst us,v=>∃a vs,v=.ref a/\J6 C.K S H a vs/\ai us vs
 |.DJ ks us,v=>∃a,v=.ref a/\S a/\HF H (ai us) a ks
 |.Ew ks,v=>∃a,v=.ref a/\S a/\eM C.P C.w C.K H a ks
def ai:List U->List V->Prop
 |[],vs=>vs=[]
 |u::us,vs=>∃v r,vs=v::r/\Rep u v/\ai us r
end
end
def Tp:HO->Prop
 |.tup _=>True
 |.F4 _ (.tup _)=>True
 |_=>False
structure Mv(S:Sr->Prop)(H:Hp)(S':Sr->Prop)(H':Hp):Prop where
 sub:∀a,S a->S' a
 J7:∀a o,H a=RY o->Tp o->H' a=RY o
 K9:∀a o,S a->H a=RY o->H' a=RY o
theorem Mv.My(m:Mv S H S' H')(h:Ef K H a vs):Ef K H' a vs:=by
 rcases h with(h|⟨o,h⟩)|h
 ·exact .inl (.inl (m.J7 a _ h trivial))
 ·exact .inl (.inr ⟨o,m.J7 a _ h trivial⟩)
 ·exact .inr h
theorem Mv.Qe(m:Mv S H S' H')(h:J6 K S H a vs):J6 K S' H' a vs:=by
 rcases h with⟨s,h|⟨o,h⟩⟩|h
 ·exact .inl ⟨m.sub a s,.inl (m.K9 a _ s h)⟩
 ·exact .inl ⟨m.sub a s,.inr ⟨o,m.K9 a _ s h⟩⟩
 ·exact .inr h
theorem Mv.row(m:Mv S H S' H')(h:eW K H v r):eW K H' v r :=
 let ⟨a,b,e,h1,h2⟩:=h;⟨a,b,e,m.My h1,m.My h2⟩
theorem HF.mv(ha:∀o,H a=RY o->H' a=RY o)(hR:∀vs,R vs->R' vs)(h:HF H R a ks):HF H' R' a ks :=
 let ⟨kvs,h1,h2,h3⟩:=h;⟨kvs,ha _ h1,h2,hR _ h3⟩
theorem Mv.rO(m:Mv S H S' H')(ha:∀o,H a=RY o->H' a=RY o)(h:eM P w K H a ks):eM P w K H' a ks :=
 let ⟨xs,h1,h2,h3⟩:=h;⟨xs,ha _ h1,h2,λx hx=>m.row (h3 x hx)⟩
section
mutual
theorem Rep.HG(m:Mv S H S' H'):∀(u:U) (v:V),Rep C S H u v->Rep C S' H' u v
 |.DR,_,h=>h
 |.bl _,_,h=>h
 |.int _,_,h=>h
 |.str _,_,h=>h
 |.tup us,v,h=>by
  obtain⟨a,vs,e,h1,h2⟩:=h;exact⟨a,vs,e,m.My h1,ai.HG m us vs h2⟩
 |.lst us,v,h=>by
  obtain⟨a,vs,e,h1,h2⟩:=h;exact⟨a,vs,e,m.Qe h1,ai.HG m us vs h2⟩
 |.DJ ks us,v,h=>by
  obtain⟨a,e,h1,h2⟩:=h;exact⟨a,e,m.sub a h1,h2.mv (λo q=>m.K9 a o h1 q) λvs q=>ai.HG m us vs q⟩
 |.Ew ks,v,h=>by
  obtain⟨a,e,h1,h2⟩:=h;exact⟨a,e,m.sub a h1,m.rO (λo q=>m.K9 a o h1 q) h2⟩
theorem ai.HG(m:Mv S H S' H'):∀(us:List U) (vs:List V),ai C S H us vs->ai C S' H' us vs
 |[],_,h=>h
 |u::us,vs,h=>by
  obtain⟨v,r,e,h1,h2⟩:=h;exact⟨v,r,e,Rep.HG m u v h1,ai.HG m us r h2⟩
end
mutual
theorem Rep.tK:∀(u:U) (v:V),D' u=R4->Rep C S H u v->Rep C S' H u v
 |.DR,_,_,h=>h
 |.bl _,_,_,h=>h
 |.int _,_,_,h=>h
 |.str _,_,_,h=>h
 |.tup us,v,i,h=>by
  obtain⟨a,vs,e,h1,h2⟩:=h;exact⟨a,vs,e,h1,ai.tK us vs (by simpa[TM.D'] using i) h2⟩
 |.lst us,v,i,h=>by simp[TM.D']at i
 |.DJ ks us,v,i,h=>by simp[TM.D']at i
 |.Ew ks,v,i,h=>by simp[TM.D']at i
theorem ai.tK:∀(us:List U) (vs:List V),gu us=R4->ai C S H us vs->ai C S' H us vs
 |[],_,_,h=>h
 |u::us,vs,i,h=>by
  obtain⟨v,r,e,h1,h2⟩:=h;have i':TM.D' u=R4/\gu us=R4:=by simpa[gu] using i
  exact⟨v,r,e,Rep.tK u v i'.1 h1,ai.tK us r i'.2 h2⟩
end
theorem Rep.mv(m:Mv S H S' H')(h:Rep C S H u v):Rep C S' H' u v:=Rep.HG m u v h
theorem ai.mv(m:Mv S H S' H')(h:ai C S H us vs):ai C S' H' us vs:=ai.HG m us vs h
theorem Rep.D'(i:TM.D' u=R4)(h:Rep C S H u v):Rep C S' H u v:=Rep.tK u v i h
theorem ai.D'(i:gu us=R4)(h:ai C S H us vs):ai C S' H us vs:=ai.tK us vs i h
theorem Mv.up(sub:∀a,S a->S' a):Mv S H S' H:=⟨sub,λ_ _ h _=>h,λ_ _ _ h=>h⟩
theorem ai.len:∀{us:List U}{vs:List V},ai C S H us vs->us.length=vs.length
 |[],_,h=>by cases h;rfl
 |u::us,vs,h=>by
  obtain⟨v,r,rfl,_,h2⟩:=h;rw[SE,SE,ai.len h2]
theorem ai.get:∀{us:List U}{vs:List V}{i:Nat}{u:U},ai C S H us vs->us[i]?=RY u->∃v,vs[i]?=RY v/\Rep C S H u v
 |[],_,_,_,_,e=>by simp at e
 |u::us,vs,0,w,h,e=>by
  obtain⟨v,r,rfl,h1,_⟩:=h;simp at e;subst e;exact⟨v,rfl,h1⟩
 |u::us,vs,i+1,w,h,e=>by
  obtain⟨v,r,rfl,_,h2⟩:=h;obtain⟨v',e',h'⟩:=ai.get (i:=i) (u:=w) h2 (by simpa using e);exact⟨v',by simpa using e',h'⟩
theorem ai.append:∀{us ws:List U}{vs ys:List V},ai C S H us vs->ai C S H ws ys->ai C S H (us++ws) (vs++ys)
 |[],_,_,_,h,h'=>by cases h;exact h'
 |u::us,ws,vs,ys,h,h'=>by
  obtain⟨v,r,rfl,h1,h2⟩:=h;exact⟨v,r++ys,rfl,h1,h2.append h'⟩
theorem ai.take:∀{us:List U}{vs:List V} (n:Nat),ai C S H us vs->ai C S H (us.take n) (vs.take n)
 |_,_,0,_=>by simp[ai]
 |[],_,n+1,h=>by cases h;simp[ai]
 |u::us,vs,n+1,h=>by
  obtain⟨v,r,rfl,h1,h2⟩:=h;exact⟨v,r.take n,rfl,h1,h2.take n⟩
theorem ai.drop:∀{us:List U}{vs:List V} (n:Nat),ai C S H us vs->ai C S H (us.drop n) (vs.drop n)
 |_,_,0,h=>h
 |[],_,n+1,h=>by cases h;simp[ai]
 |u::us,vs,n+1,h=>by
  obtain⟨v,r,rfl,h1,h2⟩:=h;exact h2.drop n
theorem ai.set:∀{us:List U}{vs:List V} (n:Nat) {u:U}{v:V},ai C S H us vs->Rep C S H u v->ai C S H (us.set n u) (vs.set n v)
 |[],_,n,_,_,h,_=>by cases h;simp[ai]
 |u::us,vs,0,_,_,h,h'=>by
  obtain⟨v,r,rfl,h1,h2⟩:=h;exact⟨_,r,rfl,h',h2⟩
 |u::us,vs,n+1,_,_,h,h'=>by
  obtain⟨v,r,rfl,h1,h2⟩:=h;exact⟨v,_,rfl,h1,h2.set n h'⟩
theorem ai.snoc(h:ai C S H us vs)(h':Rep C S H u v):ai C S H (us++[u]) (vs++[v]):=h.append ⟨v,[],rfl,h',rfl⟩
theorem ai.strs:∀{xs:List Str}{vs:List V},ai C S H (xs.map .str) vs↔vs=xs.map V.str
 |[],vs=>by simp[ai]
 |x::xs,vs=>by
  constructor
  ·rintro⟨v,r,rfl,h1,h2⟩;rw[ai.strs.mp h2];have:v=.str x:=h1;rw[this];rfl
  ·rintro rfl;exact⟨_,_,rfl,rfl,ai.strs.mpr rfl⟩
end
structure Ct.Eqv(C C':Ct):Prop where
 P:C.P=C'.P
 w:C.w=C'.w
 K:C.K=C'.K
section
mutual
theorem Rep.HH(q:C.Eqv C'):∀(u:U) (v:V),Rep C S H u v->Rep C' S H u v
 |.DR,_,h=>h
 |.bl _,_,h=>h
 |.int _,_,h=>h
 |.str _,_,h=>h
 |.tup us,v,h=>by
  obtain⟨a,vs,e,h1,h2⟩:=h;exact⟨a,vs,e,q.K▸h1,ai.HH q us vs h2⟩
 |.lst us,v,h=>by
  obtain⟨a,vs,e,h1,h2⟩:=h;exact⟨a,vs,e,q.K▸h1,ai.HH q us vs h2⟩
 |.DJ ks us,v,h=>by
  obtain⟨a,e,h1,h2⟩:=h;exact⟨a,e,h1,h2.mv (λ_ q=>q) λvs z=>ai.HH q us vs z⟩
 |.Ew ks,v,h=>by
  obtain⟨a,e,h1,h2⟩:=h;exact⟨a,e,h1,by rw[<-q.P,<-q.w,<-q.K];exact h2⟩
theorem ai.HH(q:C.Eqv C'):∀(us:List U) (vs:List V),ai C S H us vs->ai C' S H us vs
 |[],_,h=>h
 |u::us,vs,h=>by
  obtain⟨v,r,e,h1,h2⟩:=h;exact⟨v,r,e,Rep.HH q u v h1,ai.HH q us r h2⟩
end
theorem Rep.cg(q:C.Eqv C')(h:Rep C S H u v):Rep C' S H u v:=Rep.HH q u v h
theorem ai.cg(q:C.Eqv C')(h:ai C S H us vs):ai C' S H us vs:=ai.HH q us vs h
end
def c_(C:Ct)(S:Sr->Prop)(H:Hp)(r:Sr):U->Prop
 |.lst us=>∃vs,H r=RY (.lst vs)/\ai C S H us vs
 |.DJ ks us=>HF H (ai C S H us) r ks
 |.Ew ks=>eM C.P C.w C.K H r ks
 |_=>False
theorem c_.mv(m:Mv S H S' H')(hr:∀o,H r=RY o->H' r=RY o)(h:c_ C S H r u):c_ C S' H' r u:=by
 cases u with
 |lst us=>obtain⟨vs,h1,h2⟩:=h;exact⟨vs,hr _ h1,h2.mv m⟩
 |DJ ks us=>exact HF.mv hr (λvs q=>q.mv m) h
 |Ew ks=>exact m.rO hr h
 |_=>exact h
theorem c_.rep(hs:∀a,S a->S' a)(hr:S' r)(h:c_ C S H r u):Rep C S' H u (.ref r):=by
 cases u with
 |lst us=>obtain⟨vs,h1,h2⟩:=h;exact⟨r,vs,rfl,.inl ⟨hr,.inl h1⟩,h2.mv (.up hs)⟩
 |DJ ks us=>exact⟨r,rfl,hr,HF.mv (λ_ q=>q) (λvs q=>q.mv (.up hs)) h⟩
 |Ew ks=>exact⟨r,rfl,hr,h⟩
 |_=>exact h.elim
theorem c_.cg(q:C.Eqv C')(h:c_ C S H r u):c_ C' S H r u:=by
 cases u with
 |lst us=>obtain⟨vs,h1,h2⟩:=h;exact⟨vs,h1,h2.cg q⟩
 |DJ ks us=>exact HF.mv (λ_ q=>q) (λvs z=>z.cg q) h
 |Ew ks=>show eM _ _ _ _ _ _;rw[<-q.P,<-q.w,<-q.K];exact h
 |_=>exact h
theorem c_.some(h:c_ C S H r u):∃o,H r=RY o/\¬Tp o:=by
 cases u with
 |lst us=>obtain⟨vs,h1,_⟩:=h;exact⟨_,h1,λz=>z⟩
 |DJ ks us=>obtain⟨kvs,h1,_⟩:=h;exact⟨_,h1,λz=>z⟩
 |Ew ks=>obtain⟨xs,h1,_⟩:=h;exact⟨_,h1,λz=>z⟩
 |_=>exact h.elim
structure Cf where
 S:Sr->Prop
 H:Hp
 σ:St
 st:aj
 kid:Nat->List Sr
def Cf.R1(c:Cf)(a:Sr):Prop:=∃(j:Nat) (k:Kd) (u:U),k.root=R4/\c.st[j]?=RY (RY (k,u))/\c.σ[j]?=RY (RY (.ref a))
def Cf.RD(c:Cf)(j:Nat)(a:Sr):Prop:=∃(u:U) (r:Sr),c.st[j]?=RY (RY (.B',u))/\c.σ[j]?=RY (RY (.ref r))/\(a=r\/a∈c.kid j)
def Cf.R(c:Cf)(a:Sr):Prop:=c.R1 a\/∃j,c.RD j a
def PS(C:Ct)(S:Sr->Prop):Sr->Prop:=λa=>C.GG a\/S a
def e_(C:Ct)(S:Sr->Prop)(H:Hp):Kd->U->V->Prop
 |.own,u,v=>∃r,v=.ref r/\¬S r/\¬C.GG r/\C.H₀ r=R3/\c_ C S H r u
 |.io,u,v=>∃r,v=.ref r/\¬S r/\¬C.GG r/\C.IO r/\c_ C S H r u
 |.loc,u,v=>Rep C S H u v
 |.any,u,v=>Rep C (PS C S) H u v
 |.bor _,_,_=>False
 |.B',_,v=>∃r,v=.ref r
def cN(C:Ct)(S:Sr->Prop)(H:Hp):List U->List Sr->Prop
 |[],as=>as=[]
 |u::us,as=>∃a as' ys vs,as=a::as'/\u=.lst ys/\H a=RY (.lst vs)/\ai C S H ys vs/\cN C S H us as'
def bW(C:Ct)(S:Sr->Prop)(H:Hp)(r:Sr)(as:List Sr):U->Prop
 |.DJ ks us=>∃kvs:List (Key×V),H r=RY (.dK kvs)/\kvs.map (·.1)=ks.map SN/\kvs.map (·.2)=as.map V.ref/\(r::as).Nodup/\(∀a∈r::as,¬S a/\¬C.GG a/\C.H₀ a=R3)/\cN C S H us as
 |_=>False
structure Gk(C:Ct)(c:Cf):Prop where
 kd:∀(j:Nat) (u:U) (r:Sr),c.st[j]?=RY (RY (.B',u))->c.σ[j]?=RY (RY (.ref r))->bW C c.S c.H r (c.kid j) u
 dj:∀(i j:Nat) (a:Sr),c.RD i a->c.RD j a->i=j
 d1:∀(j:Nat) (a:Sr),c.RD j a->¬c.R1 a
structure Ok(C:Ct)(c:Cf):Prop where
 same:∀a o,C.H₀ a=RY o->¬C.IO a->c.H a=RY o
 FC:∀a,c.S a->C.H₀ a=R3/\∃o,c.H a=RY o
 par:∀a,C.GG a->(∃o,C.H₀ a=RY o)/\¬C.IO a
 io:∀a,C.IO a->(∃o,C.H₀ a=RY o)/\∃o,c.H a=RY o
 len:c.st.length=c.σ.length
 sl:∀(i:Nat) (k:Kd) (u:U),c.st[i]?=RY (RY (k,u))->∃v,c.σ[i]?=RY (RY v)/\e_ C c.S c.H k u v
 inj:∀(i j:Nat) (k k':Kd) (u u':U) (r:Sr),k.root=R4->k'.root=R4->c.st[i]?=RY (RY (k,u))->c.st[j]?=RY (RY (k',u'))->c.σ[i]?=RY (RY (.ref r))->c.σ[j]?=RY (RY (.ref r))->i=j
 dd:Gk C c
structure Ns(c c':Cf):Prop where
 keep:∀a o,c.H a=RY o->¬c.R a->c'.H a=RY o
 there:∀a o,c.H a=RY o->∃o',c'.H a=RY o'
 roots:∀a,c'.R a->c.R a\/c.H a=R3
 sub:∀a,c.S a->c'.S a
 new:∀a,c'.S a->c.S a\/c.R a\/c.H a=R3
section
theorem Ns.refl(c:Cf):Ns c c:=⟨λ_ _ h _=>h,λ_ o h=>⟨o,h⟩,λ_ h=>.inl h,λ_ h=>h,λ_ h=>.inl h⟩
theorem Ns.none(n:Ns c c')(h:c'.H a=.none):c.H a=.none:=by
 cases e:c.H a with
 |none=>rfl
 |some o=>obtain⟨o',q⟩:=n.there a o e;rw[h]at q;cases q
theorem Ns.trans(m:Ns c c')(n:Ns c' Gm):Ns c Gm where
 keep:=λa o h hr=>by
  refine n.keep a o (m.keep a o h hr) λz=>?_;rcases m.roots a z with z|z
  ·exact hr z
  ·rw[h]at z;cases z
 there:=λa o h=>let ⟨o',h'⟩:=m.there a o h;n.there a o' h'
 roots:=λa h=>by
  rcases n.roots a h with z|z
  ·exact m.roots a z
  ·exact .inr (m.none z)
 sub:=λa h=>n.sub a (m.sub a h)
 new:=λa h=>by
  rcases n.new a h with z|z|z
  ·exact m.new a z
  ·rcases m.roots a z with z|z
   ·exact .inr (.inl z)
   ·exact .inr (.inr z)
  ·exact .inr (.inr (m.none z))
theorem e_.rt(hk:k.root=R4)(h:e_ C S H k u v):∃r,v=.ref r/\¬S r/\¬C.GG r/\(C.H₀ r=R3\/C.IO r)/\c_ C S H r u:=by
 cases k with
 |own=>obtain⟨r,h1,h2,h3,h4,h5⟩:=h;exact⟨r,h1,h2,h3,.inl h4,h5⟩
 |io=>obtain⟨r,h1,h2,h3,h4,h5⟩:=h;exact⟨r,h1,h2,h3,.inr h4,h5⟩
 |_=>cases hk
theorem cN.mem:∀{us:List U}{as:List Sr}{a:Sr},cN C S H us as->a∈as->∃vs,H a=RY (.lst vs)
 |[],as,a,h,ha=>by cases h;cases ha
 |u::us,as,a,h,ha=>by
  obtain⟨a',as',ys,vs,rfl,_,h1,_,h2⟩:=h;rcases Sn.mp ha with rfl|ha
  ·exact⟨vs,h1⟩
  ·exact cN.mem h2 ha
theorem cN.mv(m:Mv S H S' H'):∀{us:List U}{as:List Sr},(∀a∈as,∀o,H a=RY o->H' a=RY o)->cN C S H us as->cN C S' H' us as
 |[],as,_,h=>h
 |u::us,as,hf,h=>by
  obtain⟨a,as',ys,vs,rfl,e,h1,h2,h3⟩:=h;exact⟨a,as',ys,vs,rfl,e,hf a (by simp) _ h1,h2.mv m,cN.mv m (λa ha=>hf a (by simp[ha])) h3⟩
theorem bW.fr(h:bW C S H r as u):∀a∈r::as,¬S a/\¬C.GG a/\C.H₀ a=R3:=by
 cases u<;>first|exact h.elim|(obtain⟨kvs,_,_,_,_,h5,_⟩:=h;exact h5)
theorem bW.there(h:bW C S H r as u):∀a∈r::as,∃o,H a=RY o/\¬Tp o:=by
 cases u<;>first|exact h.elim|skip
 obtain⟨kvs,h1,_,_,_,_,h6⟩:=h;intro a ha;rcases Sn.mp ha with rfl|ha
 ·exact⟨_,h1,λz=>z⟩
 ·obtain⟨vs,e⟩:=h6.mem ha;exact⟨_,e,λz=>z⟩
theorem bW.mv(m:Mv S H S' H')(hf:∀a∈r::as,¬S' a/\∀o,H a=RY o->H' a=RY o)(h:bW C S H r as u):bW C S' H' r as u:=by
 cases u<;>first|exact h.elim|skip
 obtain⟨kvs,h1,h2,h3,h4,h5,h6⟩:=h;exact⟨kvs,(hf r (by simp)).2 _ h1,h2,h3,h4,λa ha=>⟨(hf a ha).1,(h5 a ha).2⟩,h6.mv m λa ha=>(hf a (by simp[ha])).2⟩
theorem Gk.of(d:Gk C c)(hk:c'.kid=c.kid)(hD:∀(j:Nat) (u:U),c'.st[j]?=RY (RY (.B',u))->c.st[j]?=RY (RY (.B',u))/\c'.σ[j]?=c.σ[j]?)(h1:∀a,c'.R1 a->c.R1 a\/∀j,¬c.RD j a)
  (m:Mv c.S c.H c'.S c'.H) (hf:∀j a,c.RD j a->¬c'.S a/\∀o,c.H a=RY o->c'.H a=RY o):Gk C c':=by
 have back:∀j a,c'.RD j a->c.RD j a:=λj a D4=>by
  obtain⟨u,r,e1,e2,e3⟩:=D4;obtain⟨q1,q2⟩:=hD j u e1;rw[q2]at e2;rw[hk]at e3;exact⟨u,r,q1,e2,e3⟩
 refine⟨λj u r e1 e2=>?_,λi j a z1 z2=>d.dj i j a (back i a z1) (back j a z2),λj a z1 z2=>?_⟩
 ·obtain⟨q1,q2⟩:=hD j u e1;rw[q2]at e2;rw[hk];exact bW.mv m (λa ha=>hf j a ⟨u,r,q1,e2,Sn.mp ha⟩) (d.kd j u r q1 e2)
 ·rcases h1 a z2 with z|z
  ·exact d.d1 j a (back j a z1) z
  ·exact z j (back j a z1)
theorem Gk.hs(d:Gk C c)(m:Mv c.S c.H S' H')(hf:∀j a,c.RD j a->¬S' a/\∀o,c.H a=RY o->H' a=RY o):Gk C {c with H:=H',S:=S' } :=
 d.of rfl (λ_ _ e=>⟨e,rfl⟩) (λ_ z=>.inl z) m hf
theorem Ok.root(ok:Ok C c)(h:c.R r):¬c.S r/\¬C.GG r/\(C.H₀ r=R3\/C.IO r)/\∃o,c.H r=RY o/\¬Tp o:=by
 rcases h with⟨j,k,u,hk,h1,h2⟩|⟨j,u,r',h1,h2,h3⟩
 ·obtain⟨v,e,hs⟩:=ok.sl j _ _ h1;obtain⟨r',ev,h3,h4,h5,h6⟩:=hs.rt hk;rw[h2]at e;cases e;cases ev;exact⟨h3,h4,h5,h6.some⟩
 ·have hd:=ok.dd.kd j u r' h1 h2;obtain⟨q1,q2,q3⟩:=bW.fr hd r (Sn.mpr h3);exact⟨q1,q2,.inl q3,bW.there hd r (Sn.mpr h3)⟩
theorem Ok.mv(ok:Ok C c)(n:Ns c c'):Mv c.S c.H c'.S c'.H:=⟨n.sub,λa o h t=>n.keep a o h λz=>by
  obtain⟨_,_,_,o',h',nt⟩:=ok.root z;rw[h]at h';cases h';exact nt t,λa o s h=>n.keep a o h λz=>(ok.root z).1 s⟩
theorem Ok.Hi(ok:Ok C c)(n:Ns c c'):Mv (PS C c.S) c.H (PS C c'.S) c'.H:=⟨λa h=>h.imp id (n.sub a),(ok.mv n).J7,λa o s h=>n.keep a o h λz=>by
  rcases s with s|s
  ·exact(ok.root z).2.1 s
  ·exact(ok.root z).1 s⟩
theorem Ok.la(ok:Ok C c)(h:c.H p=R3):C.H₀ p=R3/\¬c.S p/\¬C.GG p/\¬C.IO p/\¬c.R p:=by
 have Ji:¬C.IO p:=λz=>by obtain⟨_,o,q⟩:=ok.io p z;rw[h]at q;cases q
 have h0:C.H₀ p=R3:=by
  cases e:C.H₀ p with
  |none=>rfl
  |some o=>have:=ok.same p o e Ji;rw[h]at this;cases this
 refine⟨h0,λz=>?_,λz=>?_,Ji,λz=>?_⟩
 ·obtain⟨_,o,q⟩:=ok.FC p z;rw[h]at q;cases q
 ·obtain⟨⟨o,q⟩,_⟩:=ok.par p z;rw[h0]at q;cases q
 ·obtain⟨_,_,_,o,q,_⟩:=ok.root z;rw[h]at q;cases q
theorem e_.mv(m:Mv S H S' H')(mp:Mv (PS C S) H (PS C S') H')(hr:k.root=R4->∀r,v=.ref r->¬S' r/\∀o,H r=RY o->H' r=RY o)(h:e_ C S H k u v):e_ C S' H' k u v:=by
 cases k with
 |own =>
  obtain⟨r,e,h1,h2,h3,h4⟩:=h;obtain⟨q1,q2⟩:=hr rfl r e;exact⟨r,e,q1,h2,h3,h4.mv m q2⟩
 |io =>
  obtain⟨r,e,h1,h2,h3,h4⟩:=h;obtain⟨q1,q2⟩:=hr rfl r e;exact⟨r,e,q1,h2,h3,h4.mv m q2⟩
 |loc=>exact Rep.mv m h
 |any=>exact Rep.mv mp h
 |bor j=>exact h.elim
 |B'=>exact h
structure Nx(c c':Cf):Prop extends Ns c c' where
 all:∀a o,c.H a=RY o->c'.H a=RY o
instance {c c':Cf}:Coe (Nx c c') (Ns c c'):=⟨Nx.toNs⟩
theorem Nx.refl(c:Cf):Nx c c:=⟨.refl c,λ_ _ h=>h⟩
theorem Nx.trans(m:Nx c c')(n:Nx c' Gm):Nx c Gm:=⟨m.toNs.trans n.toNs,λa o h=>n.all a o (m.all a o h)⟩
theorem Nx.none(n:Nx c c')(h:c'.H a=.none):c.H a=.none:=n.toNs.none h
theorem Ok.lay(ok:Ok C c)(h:c.H p=R3):Ok C {c with H:=upd c.H p o}/\Nx c {c with H:=upd c.H p o}:=by
 have ne:∀{a:Sr} {o':HO},c.H a=RY o'->a≠p:=λe z=>by subst z;rw[h]at e;cases e
 have kp:∀a o',c.H a=RY o'->(upd c.H p o) a=RY o':=λa o' e=>by rw[ao (ne e)];exact e
 have nx:Nx c {c with H:=upd c.H p o}:=⟨⟨λa o' e _=>kp a o' e,λa o' e=>⟨o',kp a o' e⟩,λa z=>.inl z,λ_ z=>z,λ_ z=>.inl z⟩,kp⟩
 refine⟨⟨λa o' e z=>kp a o' (ok.same a o' e z),λa z=>⟨(ok.FC a z).1,let ⟨o',q⟩:=(ok.FC a z).2;⟨o',kp a o' q⟩⟩,ok.par,λa z=>⟨(ok.io a z).1,let ⟨o',q⟩:=(ok.io a z).2;⟨o',kp a o' q⟩⟩,ok.len,λi k u e=>?_,ok.inj,ok.dd.hs (ok.mv nx.toNs) λj a z=>⟨(ok.root (.inr ⟨j,z⟩)).1,λo' e=>kp a o' e⟩⟩,nx⟩;obtain⟨v,e1,e2⟩:=ok.sl i k u e;refine⟨v,e1,e2.mv (ok.mv nx.toNs) (ok.Hi nx.toNs) λhk r er=>?_⟩;obtain⟨r',E5,q1,_⟩:=e2.rt hk;rw[er]at E5;cases E5;exact⟨q1,λo' e=>kp r o' e⟩
theorem Ok.grow(ok:Ok C c)(hs:Af c.H H')(hS:∀a,S' a->c.S a\/(c.H a=R3/\∃o,H' a=RY o))(Jd:∀a,c.S a->S' a):Ok C {c with H:=H',S:=S' }/\Nx c {c with H:=H',S:=S' }:=by
 have nx:Nx c {c with H:=H',S:=S' }:=⟨⟨λa o' e _=>hs a o' e,λa o' e=>⟨o',hs a o' e⟩,λa z=>.inl z,Jd,λa z=>(hS a z).imp id λq=>.inr q.1⟩,hs⟩
 refine⟨⟨λa o' e z=>hs a o' (ok.same a o' e z),λa z=>?_,ok.par,λa z=>⟨(ok.io a z).1,let ⟨o',q⟩:=(ok.io a z).2;⟨o',hs a o' q⟩⟩,ok.len,λi k u e=>?_,ok.inj,ok.dd.hs (ok.mv nx.toNs) λj a z=>⟨λz'=>?_,λo' e=>hs a o' e⟩⟩,nx⟩
 rotate_left 2
 ·obtain⟨q1,_,_,o,q4,_⟩:=ok.root (.inr ⟨j,z⟩);rcases hS a z' with z'|⟨z',_⟩
  ·exact q1 z'
  ·rw[q4]at z';cases z'
 ·rcases hS a z with q|⟨q1,q2⟩
  ·exact⟨(ok.FC a q).1,let ⟨o',q⟩:=(ok.FC a q).2;⟨o',hs a o' q⟩⟩
  ·exact⟨(ok.la q1).1,q2⟩
 ·obtain⟨v,e1,e2⟩:=ok.sl i k u e;refine⟨v,e1,e2.mv (ok.mv nx.toNs) (ok.Hi nx.toNs) λhk r er=>?_⟩;obtain⟨r',E5,q1,q2,q3,q4⟩:=e2.rt hk;rw[er]at E5;cases E5;obtain⟨o,ho,_⟩:=q4.some;refine⟨λz=>?_,λo' e=>hs r o' e⟩;rcases hS r z with z|⟨z,_⟩
  ·exact q1 z
  ·rw[z]at ho;cases ho
def aH(C:Ct)(c0 c:Cf):Kd->U->V->Prop
 |.own,u,v=>∃r,v=.ref r/\c0.H r=R3/\¬c.S r/\¬c.R r/\c_ C c.S c.H r u
 |.loc,u,v=>Rep C c.S c.H u v
 |.any,u,v=>Rep C (PS C c.S) c.H u v
 |.bor j,u,v=>(∃k:Kd,k.root=R4/\c.st[j]?=RY (RY (k,u)))/\c.σ[j]?=RY (RY v)
 |.io,_,_=>False
 |.B',_,_=>False
def fb(C:Ct)(c0 c:Cf):Kd->U->V->Prop
 |.own,u,v=>∃r,v=.ref r/\c0.H r=R3/\¬c.S r/\¬c.R r/\c_ C c.S c.H r u
 |.loc,u,v=>Rep C c.S c.H u v
 |.any,u,v=>Rep C (PS C c.S) c.H u v
 |.bor j,u,v=>c.σ[j]?=RY (RY v)
 |.io,_,_=>False
 |.B',_,_=>False
theorem aH.w(h:aH C c0 c k u v):fb C c0 c k u v:=by
 cases k with
 |bor j=>exact h.2
 |_=>exact h
theorem fb.N8(ok:Ok C c)(n:Ns c c')(hσ:∀j,k=.bor j->c'.σ[j]?=c.σ[j]?)(h:fb C c0 c k u v):fb C c0 c' k u v:=by
 cases k with
 |own =>
  obtain⟨r,e,h1,h2,h3,h4⟩:=h;obtain⟨o,ho,_⟩:=h4.some;refine⟨r,e,h1,λz=>?_,λz=>?_,h4.mv (ok.mv n) λo q=>n.keep r o q h3⟩
  ·rcases n.new r z with z|z|z
   ·exact h2 z
   ·exact h3 z
   ·rw[z]at ho;cases ho
  ·rcases n.roots r z with z|z
   ·exact h3 z
   ·rw[z]at ho;cases ho
 |loc=>exact Rep.mv (ok.mv n) h
 |any=>exact Rep.mv (ok.Hi n) h
 |bor j=>show c'.σ[j]?=_;rw[hσ j rfl];exact h
 |_=>exact h
theorem fb.on(ok:Ok C c)(n:Ns c c')(hσ:c'.σ=c.σ)(h:fb C c0 c k u v):fb C c0 c' k u v:=h.N8 ok n λj _=>by rw[hσ]
theorem fb.from(n:Ns c0 c1)(h:fb C c1 c k u v):fb C c0 c k u v:=by
 cases k with
 |own=>obtain⟨r,e,h1,h2⟩:=h;exact⟨r,e,n.none h1,h2⟩
 |_=>exact h
theorem aH.from(n:Ns c0 c1)(h:aH C c1 c k u v):aH C c0 c k u v:=by
 cases k with
 |own=>obtain⟨r,e,h1,h2⟩:=h;exact⟨r,e,n.none h1,h2⟩
 |_=>exact h
def SK(C:Ct)(c:Cf):Kd->Sr->Prop
 |.any=>PS C c.S
 |_=>c.S
def kE:Kd->Kd
 |.any=>.any
 |_=>.loc
theorem Ok.rootOf(ok:Ok C c){j:Nat}(h:∃k:Kd,k.root=R4/\c.st[j]?=RY (RY (k,u)))(e:c.σ[j]?=RY (RY v)):∃r,v=.ref r/\¬c.S r/\¬C.GG r/\(C.H₀ r=R3\/C.IO r)/\c_ C c.S c.H r u:=by
 obtain⟨k,hk,h⟩:=h;obtain⟨v',e1,e2⟩:=ok.sl j _ _ h;rw[e]at e1;cases e1;exact e2.rt hk
theorem aH.list(ok:Ok C c)(h:aH C c0 c k (.lst us) v):∃a vs,v=.ref a/\Eg C.K c.H a vs/\ai C (SK C c k) c.H us vs:=by
 cases k with
 |own=>obtain⟨r,e,_,_,_,vs,h1,h2⟩:=h;exact⟨r,vs,e,Eg.of h1,h2⟩
 |bor j=>obtain⟨r,e,_,_,_,vs,h1,h2⟩:=ok.rootOf h.1 h.2;exact⟨r,vs,e,Eg.of h1,h2⟩
 |io=>exact h.elim
 |B'=>exact h.elim
 |_=>obtain⟨a,vs,e,h1,h2⟩:=h;exact⟨a,vs,e,h1.sq,h2⟩
theorem aH.tuple(ok:Ok C c)(h:aH C c0 c k (.tup us) v):∃a vs,v=.ref a/\Ef C.K c.H a vs/\ai C (SK C c k) c.H us vs:=by
 cases k with
 |own=>obtain⟨r,e,_,_,_,h⟩:=h;exact h.elim
 |bor j=>obtain⟨r,e,_,_,_,h⟩:=ok.rootOf h.1 h.2;exact h.elim
 |io=>exact h.elim
 |B'=>exact h.elim
 |_=>obtain⟨a,vs,e,h1,h2⟩:=h;exact⟨a,vs,e,h1,h2⟩
theorem aH.flat(ok:Ok C c)(hu:D' u=R4)(h:aH C c0 c k u v):Rep C c.S c.H u v:=by
 cases k with
 |own=>obtain⟨r,e,_,_,_,h⟩:=h;cases u<;>simp[D']at hu<;>exact h.elim
 |loc=>exact h
 |any=>exact Rep.D' hu h
 |bor j=>obtain⟨r,e,_,_,_,h⟩:=ok.rootOf h.1 h.2;cases u<;>simp[D']at hu<;>exact h.elim
 |_=>exact h.elim
theorem aH.int(ok:Ok C c)(h:aH C c0 c k (.int i) v):v=.int i:=h.flat ok rfl
theorem aH.str(ok:Ok C c)(h:aH C c0 c k (.str x) v):v=.str x:=h.flat ok rfl
theorem aH.bl(ok:Ok C c)(h:aH C c0 c k (.bl b) v):v=.bl b:=h.flat ok rfl
theorem aH.DR(ok:Ok C c)(h:aH C c0 c k .DR v):v=.DR:=h.flat ok rfl
theorem aH.item(h:Rep C (SK C c k) c.H u v):aH C c0 c (kE k) u v:=by
 cases k<;>exact h
def Gn(H:Hp):Sr->Prop:=λa=>∃o,H a=RY o
theorem Ok.xQ(ok:Ok C c):∀a,c.S a->Gn c.H a:=λa h=>(ok.FC a h).2
theorem Ok.DA(ok:Ok C c):∀a,PS C c.S a->Gn c.H a:=λa h=>by
 rcases h with h|h
 ·obtain⟨⟨o,e⟩,n⟩:=ok.par a h;exact⟨o,ok.same a o e n⟩
 ·exact ok.xQ a h
theorem aH.read(ok:Ok C c)(h:aH C c0 c k u v):Rep C (Gn c.H) c.H u v:=by
 cases k with
 |own =>
  obtain⟨r,e,_,_,_,h4⟩:=h;rw[e];obtain⟨o,ho,_⟩:=h4.some;exact h4.rep ok.xQ ⟨o,ho⟩
 |loc=>exact Rep.mv (.up ok.xQ) h
 |any=>exact Rep.mv (.up ok.DA) h
 |bor j =>
  obtain⟨r,e,_,_,_,h4⟩:=ok.rootOf h.1 h.2;rw[e];obtain⟨o,ho,_⟩:=h4.some;exact h4.rep ok.xQ ⟨o,ho⟩
 |_=>exact h.elim
theorem Ok.newList(ok:Ok C c)(n:Nx c0 c)(h:c.H p=R3)(hr:ai C c.S c.H us vs):
  Ok C {c with H:=upd c.H p (.lst vs)}/\Nx c0 {c with H:=upd c.H p (.lst vs)}/\aH C c0 {c with H:=upd c.H p (.lst vs)} .own (.lst us) (.ref p):=by
 obtain⟨DZ,n'⟩:=ok.lay (o:=.lst vs) h;obtain⟨h0,h1,h2,h3,h4⟩:=ok.la h;exact⟨DZ,n.trans n',p,rfl,n.none h,h1,h4,vs,au,hr.mv (ok.mv n'.toNs)⟩
theorem Ok.Av(ok:Ok C c)(n:Nx c0 c)(h:c.H p=R3)(hr:ai C c.S c.H us vs):
  Ok C {c with H:=upd c.H p (.tup vs)}/\Nx c0 {c with H:=upd c.H p (.tup vs)}/\aH C c0 {c with H:=upd c.H p (.tup vs)} .loc (.tup us) (.ref p):=by
 obtain⟨DZ,n'⟩:=ok.lay (o:=.tup vs) h;exact⟨DZ,n.trans n',p,vs,rfl,Ef.of au,hr.mv (ok.mv n'.toNs)⟩
end
inductive Ex(α:Type) where|ok (a:α)|exc (c:Str)
def M(α:Type):=aj->Option (Ex α×aj)
namespace M
def pure(a:α):M α:=λst=>RY (.ok a,st)
def fail:M α:=λ_=>R3
def bind(m:M α)(f:α->M β):M β:=λst=>match m st with
 |none=>R3
 |some (.ok a,st')=>f a st'
 |some (.exc c,st')=>RY (.exc c,st')
def D0(o:Option α):M α:=λst=>match o with
 |none=>R3
 |some a=>RY (.ok a,st)
end M
instance:Monad M:={pure:=M.pure,bind:=M.bind}
def W{α:Type}(m:M α)(st:aj)(Q:α->aj->Prop):Prop:=∃a st',m st=RY (.ok a,st')/\Q a st'
section
theorem ah:W (pure a) st Q↔Q a st:=by
 constructor
 ·rintro⟨b,st',e,h⟩;cases e;exact h
 ·intro h;exact⟨a,st,rfl,h⟩
theorem af:W (m >>= f) st Q↔W m st λa st'=>W (f a) st' Q:=by
 constructor
 ·rintro⟨b,st',e,h⟩;have e':M.bind m f st=RY (.ok b,st'):=e;unfold M.bind at e';cases q:m st with
  |none=>rw[q]at e';cases e'
  |some r =>
   obtain⟨r,s1⟩:=r;rw[q]at e';cases r with
   |ok a=>exact⟨a,s1,q,b,st',e',h⟩
   |exc c=>cases e'
 ·rintro⟨a,s1,q,b,st',e,h⟩;refine⟨b,st',?_,h⟩;show M.bind m f st=_;unfold M.bind;rw[q];exact e
theorem cq:W (M.D0 o) st Q↔∃a,o=RY a/\Q a st:=by
 cases o with
 |none=>exact⟨λ⟨_,_,e,_⟩=>(by cases e),λ⟨_,e,_⟩=>(by cases e)⟩
 |some a=>exact⟨λ⟨_,_,e,h⟩=>(by cases e;exact⟨a,rfl,h⟩),λ⟨_,e,h⟩=>(by cases e;exact⟨a,st,rfl,h⟩)⟩
theorem az:W (M.fail:M α) st Q↔False:=⟨λ⟨_,_,e,_⟩=>(by cases e),UR⟩
theorem W.mono(h:W m st Q)(i:∀a s,Q a s->Q' a s):W m st Q':=let ⟨a,s,e,q⟩:=h;⟨a,s,e,i a s q⟩
end
inductive K_ where|add|sub|mul|Fs|mod|pow
deriving DecidableEq
inductive J8 where|eq|ne|lt|le|gt|ge|isin|DM|is|GH
deriving DecidableEq
inductive Bf where|len|sorted|list|tuple|str|int|repr|max|min|all|any
 |dict
deriving DecidableEq
inductive B2 where|Hj|Hk|sset|mK
deriving DecidableEq
inductive Mf where|split|join|partition|endswith
deriving DecidableEq
inductive Qf where|str|list|tuple|int|bool
deriving DecidableEq
inductive Ik where|seq|Eb|Hl|Ip|zip|rev
deriving DecidableEq
inductive E where
 |var (i:Nat)
 |cst (u:U)
 |Hm (x:Str) (u:U)
 |bin (op:K_) (a b:E)
 |cmp (op:J8) (a b:E)
 |GI (o1 o2:J8) (a b c:E)
 |and (es:List E)|or (es:List E)|not (a:E)
 |ite (c a b:E)
 |tup (es:List E)|lst (es:List E)|EU (r:Bool)
 |idx (a b:E)
 |FD (a:E) (lo hi:List E)
 |bi (f:Bf) (es:List E)
 |GJ (f:B2) (es:List E)
 |F_ (m:Mf) (a:E) (es:List E)
 |call (f:Str) (es:List E)
 |comp (k:Nat) (t:Bool) (ik:Ik) (src:List E) (cond:List E) (e:E)
 |neg (a:E)|bad|K' (a:E) (T:Qf)|fst (es:List E)|inD (neg:Bool) (a:E) (i:Nat)|Jj (i:Nat)|FL (i:Nat) (k d:E)|Jk (i:Nat)|La (ln:Bool) (a b:E)
inductive S where
 |set (i:Nat) (e:E)
 |Hn (is:List Nat) (e:E)
 |put (i:Nat) (k v:E)
 |app (i:Nat) (e:E)|ext (i:Nat) (e:E)|bad|newD (i:Nat)|putD (i:Nat) (k v:E)|Ft (i:Nat) (k v:E)|aug (sub:Bool) (i:Nat) (k v:E)|Lb (i:Nat)
 |exp (e:E)
 |ret (e:E)|Ho
 |ite (c:E) (a b:List S)
 |D1 (t:Bool) (is:List Nat) (ik:Ik) (src:List E) (body:List S)
 |Iq (c:E) (body:List S)
 |brk|cnt|Lc
def isAny:Kd->Bool
 |.any=>R4
 |_=>R5
def fQ(k:Kd)(xs:List U):Bool:=!isAny k||gu xs
def cut{α:Type}(xs:List α)(lo hi:Option Int):List α:=(xs.drop (HT.DU xs.length 0 lo)).take (HT.DU xs.length xs.length hi - HT.DU xs.length 0 lo)
def qt:Kd×U->Kd×U->Option (Kd×U)
 |(_,.int i),(_,.int j)=>RY (.loc,.int (i+j))
 |(_,.str x),(_,.str y)=>if x.length+y.length<=R6 then RY (.loc,.str (x++y)) else R3
 |(k,.lst xs),(k',.lst ys)=>if xs.length+ys.length<=R6/\fQ k xs=R4/\fQ k' ys=R4 then RY (.own,.lst (xs++ys)) else R3
 |_,_=>R3
def qu(f:Int->Int->Option Int):U->U->Option (Kd×U)
 |.int i,.int j=>(f i j).map λn=>(.loc,.int n)
 |_,_=>R3
def xR(i j:Int):Option Int:=if ((-(2 ^ 64)<i/\i<2 ^ 64)\/(-(2 ^ 64)<j/\j<2 ^ 64)) then RY (i * j) else R3
def xS(i j:Int):Option Int:=if 0<j/\j<1073741824 then RY (i / j) else R3
def xT(i j:Int):Option Int:=if 0<j then RY (i % j) else R3
def xU(i j:Int):Option Int:=if 0<=j/\j<=1000000/\i.natAbs<2 ^ 64 then RY (i ^ j.toNat) else R3
def Fc(op:K_)(x y:Kd×U):Option (Kd×U):=match op with
 |.add=>qt x y
 |.sub=>qu (λi j=>RY (i - j)) x.2 y.2
 |.mul=>qu xR x.2 y.2
 |.Fs=>qu xS x.2 y.2
 |.mod=>qu xT x.2 y.2
 |.pow=>qu xU x.2 y.2
mutual
def Ek:Nat->U->Bool
 |_,.DJ _ _=>R5
 |_,.Ew _=>R5
 |0,.tup _=>R5
 |0,.lst _=>R5
 |n+1,.tup xs=>bY n xs
 |n+1,.lst xs=>bY n xs
 |_,.DR=>R4|_,.bl _=>R4|_,.int _=>R4|_,.str _=>R4
def bY:Nat->List U->Bool
 |_,[]=>R4
 |n,u::us=>Ek n u&&bY n us
end
mutual
def bx:U->U->Bool
 |.DR,.DR=>R4
 |.bl a,.bl b=>a==b
 |.bl a,.int b=>(if a then 1 else 0)==b
 |.int a,.bl b=>a==(if b then 1 else 0)
 |.int a,.int b=>a==b
 |.str a,.str b=>a==b
 |.tup xs,.tup ys=>cu xs ys
 |.lst xs,.lst ys=>cu xs ys
 |_,_=>R5
def cu:List U->List U->Bool
 |[],[]=>R4
 |u::us,w::ws=>bx u w&&cu us ws
 |_,_=>R5
end
def Ir(x:U)(ys:List U):Option Bool:=if Ek 50 x=R4/\bY 50 ys=R4 then RY (ys.any λy=>bx y x) else R3
def strsOf:List U->Option (List Str)
 |[]=>RY []
 |.str x::us=>(strsOf us).map (x::·)
 |_::_=>R3
def rowOf:U->Option kY
 |.tup [.str x,.tup ys]=>(strsOf ys).map λss=>(x,ss)
 |_=>R3
def xV:U->U->Option Bool
 |x,.lst ys=>Ir x ys
 |x,.tup ys=>Ir x ys
 |.str x,.DJ ks _=>RY (Sa (x∈ks))
 |x,.Ew ks=>(rowOf x).map λr=>Sa (r∈ks)
 |_,_=>R3
def cA:List Str->List U->Str->Option U
 |y::ks,u::us,x=>if y=x then RY u else cA ks us x
 |_,_,_=>R3
def dput(ks:List Str)(us:List U)(x:Str)(u:U):List Str×List U :=
 if x∈ks then(ks,(ks.zip us).map λp=>if p.1=x then u else p.2) else(ks++[x],us++[u])
def lO:U->Bool
 |.DR=>R4
 |_=>R5
def a5:J8->U->U->Option Bool
 |.eq,a,b=>if Ek 50 a=R4/\Ek 50 b=R4 then RY (bx a b) else R3
 |.ne,a,b=>if Ek 50 a=R4/\Ek 50 b=R4 then RY (!bx a b) else R3
 |.lt,.int i,.int j=>RY (Sa (i<j))
 |.gt,.int i,.int j=>RY (Sa (j<i))
 |.ge,.int i,.int j=>RY (Sa (j<=i))
 |.isin,x,y=>xV x y
 |.DM,x,y=>(xV x y).map (!·)
 |.is,x,.DR=>RY (lO x)
 |.GH,x,.DR=>RY (!lO x)
 |.is,.bl x,.bl y=>RY (x==y)
 |.GH,.bl x,.bl y=>RY (!(x==y))
 |_,_,_=>R3
def fc:List U->Option (List Bool)
 |[]=>RY []
 |.bl x::us=>(fc us).map (x::·)
 |_::_=>R3
def fe:Kd×U->U->Option (Kd×U)
 |(k,.lst xs),.int i=>(D8 xs i).map λu=>(kE k,u)
 |(k,.tup xs),.int i=>(D8 xs i).map λu=>(kE k,u)
 |(_,.str x),.int i=>if x.length<=R6 then(D8 x.cps.toList i).map λc=>(.loc,.str ⟨#[c]⟩) else R3
 |(k,.DJ ks us),.str x=>(cA ks us x).map λu=>(kE k,u)
 |_,_=>R3
def m7:Kd×U->Option Int->Option Int->Option (Kd×U)
 |(k,.lst xs),lo,hi=>if fQ k xs=R4 then RY (.own,.lst (cut xs lo hi)) else R3
 |(k,.tup xs),lo,hi=>RY (kE k,.tup (cut xs lo hi))
 |(_,.str x),lo,hi=>if x.length<=R6 then RY (.loc,.str (PySem.StrLaws.sliceText x lo hi)) else R3
 |_,_,_=>R3
def Aw:U->Option Nat
 |.lst xs=>RY xs.length
 |.tup xs=>RY xs.length
 |.str x=>if x.length<=R6 then RY x.length else R3
 |_=>R3
def fR{β:Type}(f:Kd×U->Option β):List (Kd×U)->Option β
 |[x]=>f x
 |_=>R3
def intsOf:List U->Option (List Int)
 |[]=>RY []
 |.int x::us=>(intsOf us).map (x::·)
 |_::_=>R3
def Ax:Kd×U->Option (Kd×U)
 |(_,.lst xs)=>(strsOf xs).bind λss=>if ss.length<64 then RY (.own,.lst ((ay ss).map .str)) else R3
 |(_,.DJ ks _)=>if ks.length<64 then RY (.own,.lst ((ay ks).map .str)) else R3
 |(_,.tup xs)=>(strsOf xs).bind λss=>if ss.length<64 then RY (.own,.lst ((ay ss).map .str)) else R3
 |_=>R3
def Ay:Kd×U->Option (Kd×U)
 |(k,.lst xs)=>if fQ k xs=R4 then RY (.own,.lst xs) else R3
 |(k,.tup xs)=>if fQ k xs=R4 then RY (.own,.lst xs) else R3
 |_=>R3
def Az:Kd×U->Option (Kd×U)
 |(k,.lst xs)=>RY (kE k,.tup xs)
 |(k,.tup xs)=>RY (kE k,.tup xs)
 |_=>R3
def xW:Kd×U->Option (Kd×U)
 |(_,.int i)=>if i.natAbs.log2<1920 then RY (.loc,.str (XY i)) else R3
 |_=>R3
def AA:Kd×U->Option (Kd×U)
 |(_,.lst xs)=>(fc xs).map λbs=>(.loc,.bl (bs.all id))
 |_=>R3
def AB:Kd×U->Option (Kd×U)
 |(_,.lst xs)=>(fc xs).map λbs=>(.loc,.bl (bs.any id))
 |_=>R3
def jU:List U->Option (List (Str×Str))
 |[]=>RY []
 |.tup [.str x,.str y]::us=>(jU us).map ((x,y)::·)
 |_::_=>R3
def AD:Kd×U->Option (Kd×U)
 |(_,.lst xs)=>(jU xs).bind λps=>if (ps.map (·.1)).Nodup then RY (.own,.DJ (ps.map (·.1)) (ps.map λp=>.str p.2)) else R3
 |_=>R3
def Fd(f:Bf)(rs:List (Kd×U)):Option (Kd×U):=match f with
 |.len=>fR (λx=>(Aw x.2).map λ(n:Nat)=>(Kd.loc,U.int (n:Int))) rs
 |.sorted=>fR Ax rs
 |.list=>fR Ay rs
 |.tuple=>fR Az rs
 |.str=>fR xW rs
 |.all=>fR AA rs
 |.any=>fR AB rs
 |.dict=>fR AD rs
 |_=>R3
def oK:U->Option (List Str)
 |.lst xs=>(strsOf xs).bind λss=>if ss.length+1<Ut then RY (aL ss) else R3
 |.tup xs=>(strsOf xs).bind λss=>if ss.length+1<Ut then RY (aL ss) else R3
 |_=>R3
def qv(f:B2)(rs:List (Kd×U)):Option (Kd×U):=match f with
 |.sset=>fR (λx=>(oK x.2).bind λss=>if ss.length<64 then RY (.own,.lst ((ay ss).map .str)) else R3) rs
 |.mK=>fR (λx=>(oK x.2).map λss=>(.loc,.int ss.length)) rs
 |_=>R3
def iw:Mf->U->List (Kd×U)->Option (Kd×U)
 |.split,.str a,[(_,.str b)]=>if (b.length==0)=R5/\a.length+2<=R6 then RY (.own,.lst ((UH a b).map .str)) else R3
 |.join,.str a,[(_,.lst xs)]=>(strsOf xs).bind λss=>if Zq a ss=R4 then RY (.loc,.str (WT a ss)) else R3
 |.endswith,.str a,[(_,.str b)]=>RY (.loc,.bl (ZS a b))
 |.partition,.str a,[(_,.str b)]=>if (b.length==0)=R5/\a.length<=R6 then RY (.loc,.tup [.str (S4 a b).1,.str (S4 a b).2.1,.str (S4 a b).2.2]) else R3
 |_,_,_=>R3
def DB:Kd×U->Option (List (Kd×U))
 |(k,.lst xs)=>RY (xs.map λu=>(kE k,u))
 |(k,.tup xs)=>RY (xs.map λu=>(kE k,u))
 |_=>R3
def tL:Kd×U->Option (List (Kd×U))
 |(_,.int n)=>if n<2 ^ 62/\-(2 ^ 62)<n then RY ((Sl n.toNat).map λi:Nat=>(Kd.loc,U.int (0+(i:Int)))) else R3
 |_=>R3
def AE:List (Kd×U)->Option (List (Kd×U))
 |[(_,.int lo),(_,.int hi)]=>if hi<2 ^ 62/\-(2 ^ 62)<lo/\lo<2 ^ 62/\-(2 ^ 62)<hi then RY ((Sl (hi - lo).toNat).map λi:Nat=>(Kd.loc,U.int (lo+(i:Int)))) else R3
 |_=>R3
def AF:Kd×U->Option (List (Kd×U))
 |(k,.lst xs)=>RY (xs.zipIdx.map λp=>(kE k,.tup [.int p.2,p.1]))
 |(k,.tup xs)=>RY (xs.zipIdx.map λp=>(kE k,.tup [.int p.2,p.1]))
 |_=>R3
def Fu(ik:Ik)(rs:List (Kd×U)):Option (List (Kd×U)):=match ik with
 |.seq=>fR DB rs
 |.Eb=>fR tL rs
 |.Hl=>AE rs
 |.Ip=>fR AF rs
 |_=>R3
def xX(ps:List (Str×Int)):List (Str×Int):=(jd (ps.map (·.1))).map λi=>ps.getD i (S5,0)
def tM(p:Str×Int):U:=.tup [.str p.1,.int p.2]
def vj:U->Option (Kd×U)
 |.DJ ks us=>(intsOf us).bind λns=>if ks.length<64/\ks.Nodup/\ks.length=ns.length then RY (.own,.lst ((xX (ks.zip ns)).map tM)) else R3
 |_=>R3
def lh:U->Option Bool
 |.bl b=>RY b
 |.lst xs=>RY !xs.isEmpty
 |.tup xs=>RY !xs.isEmpty
 |.str x=>if x.length<=R6 then RY ((x.length:Int) != 0) else R3
 |_=>R3
def lift:Kd×U->M U
 |(.own,u)=>pure u
 |(.loc,u)=>pure u
 |(.any,u)=>if D' u=R4 then pure u else M.fail
 |(.bor j,_)=>λst=>match st[j]? with
  |some (RY (.own,u))=>RY (.ok u,st.set j (RY (.loc,u)))
  |_=>R3
 |(.io,_)=>M.fail
 |(.B',_)=>M.fail
def cH:List (Kd×U)->M (List U)
 |[]=>pure []
 |r::rs=>do let u <-lift r;let us <-cH rs;pure (u::us)
def eS(i:Nat):Kd×U->M Unit
 |(.bor j,_)=>λst=>match st[j]? with
  |some (RY (.own,u))=>RY (.ok (),(st.set j (RY (.loc,u))).set i (RY (.loc,u)))
  |_=>R3
 |(.io,_)=>M.fail
 |(.B',_)=>M.fail
 |(k,u)=>λst=>RY (.ok (),st.set i (RY (k,u)))
def bc:List (Kd×U)->aj->Prop
 |[],_=>True
 |(.bor j,u)::rs,st=>(∃k:Kd,k.root=R4/\st[j]?=RY (RY (k,u)))/\bc rs st
 |_::rs,st=>bc rs st
open Classical in
noncomputable def av(rs:List (Kd×U)):M Unit:=λst=>if bc rs st then RY (.ok (),st) else R3
abbrev Tab:=Str->List U->Option (Ex (Kd×U))
def jV(Γ:Tab)(f:Str)(us:List U):M (Kd×U):=λst=>match Γ f us with
 |some (.ok (.any,_))=>R3
 |none=>R3
 |some r=>RY (r,st)
def dk(i:Nat):M (Kd×U):=λst=>match st[i]? with
 |some (RY (.B',_))=>R3
 |some (RY (k,u))=>RY (.ok (if k.root=R4 then .bor i else k,u),st)
 |_=>R3
def fS(i:Nat):M (List Str×List U):=λst=>match st[i]? with
 |some (RY (.B',.DJ ks us))=>RY (.ok (ks,us),st)
 |_=>R3
def gT(x:Kd×U):M Str:=match x.2 with
 |.str y=>pure y
 |_=>M.fail
def J9(neg:Bool)(y:Str)(ks:List Str):Bool:=if neg=R4 then !Sa (y∈ks) else Sa (y∈ks)
def vk(i:Nat):M (Kd×U):=λst=>match st[i]? with
 |some (RY (.B',u))=>RY (.ok (.bor i,u),st.set i (RY (.own,u)))
 |_=>dk i st
def zi(i:Nat):M Unit:=λst=>RY (.ok (),st.set i (RY (.B',.DJ [] [])))
def jW(i:Nat)(y:Str):Kd×U->M Unit
 |(.own,.lst us)=>λst=>match st[i]? with
  |some (RY (.B',.DJ ks vs))=>if y∉ks/\ks.length<R6 then RY (.ok (),st.set i (RY (.B',.DJ (ks++[y]) (vs++[.lst us])))) else R3
  |_=>R3
 |_=>M.fail
def jg:List Str->List U->Str->U->List U
 |k::ks,v::vs,y,u=>if k=y then u::vs else v::jg ks vs y u
 |_,vs,_,_=>vs
def jX(i:Nat)(y:Str)(u:U):M Unit:=λst=>match st[i]? with
 |some (RY (.B',.DJ ks vs))=>match cA ks vs y with
  |some (.lst xs)=>if xs.length<R6 then RY (.ok (),st.set i (RY (.B',.DJ ks (jg ks vs y (.lst (xs++[u])))))) else R3
  |_=>R3
 |_=>R3
def Mz:U->M Unit
 |.DJ _ _=>pure ()
 |_=>M.fail
def xY(x:Kd×U)(y:Str)(u:U):Option (Kd×U):=match x with
 |(k,.DJ ks us)=>RY (match cA ks us y with|some v=>(kE k,v)|none=>(.loc,u))
 |_=>R3
def oM(i:Nat):M (List U):=λst=>match st[i]? with
 |some (RY (k,.lst us))=>if k.root=R4 then RY (.ok us,st) else R3
 |_=>R3
def tN(x:Kd×U):M Int:=match x.2 with
 |.int j=>pure j
 |_=>M.fail
def oN(us:List U)(j:Int):Option Int:=if 0<=j then(match us[j.toNat]? with|some (.int o)=>RY o|_=>R3) else R3
def tP(sub:Bool)(o w:Int):Int:=if sub=R4 then o - w else o+w
def DC:U->Option U
 |.lst us=>RY (.lst us.reverse)
 |_=>R3
def sets:List Nat->List (Kd×U)->M Unit
 |[],[]=>pure ()
 |i::is,r::rs=>do eS i r;sets is rs
 |_,_=>M.fail
def cB(t:Bool)(is:List Nat)(r:Kd×U):M Unit:=match t,is,r with
 |false,[i],r=>eS i r
 |true,is,(k,.tup xs)=>sets is (xs.map λu=>(kE k,u))
 |_,_,_=>M.fail
def inScope{α:Type}(k:Nat)(m:M α):M α:=λst=>match m (SH k R3++st) with
 |none=>R3
 |some (r,st')=>RY (r,st'.drop k)
noncomputable def bz(k:Nat)(t:Bool)(cond:M Bool)(elt:M (Kd×U))(src:List (Kd×U)):List (Kd×U)->List U->M (List U)
 |[],acc=>do av src;pure acc
 |x::xs,acc=>do
  av src
  let r <-inScope k (cB t (Sl k) x >>= λ_=>cond >>= λb=>if b=R4 then(elt >>= λr=>lift r >>= λu=>pure (RY u)) else pure R3)
  match r with
  |some u=>if acc.length<R6 then bz k t cond elt src xs (acc++[u]) else M.fail
  |none=>bz k t cond elt src xs acc
def lj:U->Str->Option Str
 |.str y,out=>if y.length<=R6/\(out++y).length<=R6 then RY (out++y) else R3
 |.int i,out=>if i.natAbs.log2<1920/\(out++(XY i:Str)).length<=R6 then RY (out++(XY i:Str)) else R3
 |_,_=>R3
def DE:Kd×U->Option (Kd×U)
 |(_,.int i)=>RY (.loc,.int (-i))
 |_=>R3
def AG(x:Kd×U):M (Option Int):=match x.2 with
 |.int i=>pure (RY i)
 |_=>M.fail
section
variable(Γ:Tab)
mutual
noncomputable def ev:E->M (Kd×U)
 |.var i=>dk i
 |.cst u=>pure (.loc,u)
 |.Hm _ u=>pure (.loc,u)
 |.bin op a b=>do
  let x <-ev a
  let y <-ev b
  av [x,y]
  M.D0 (Fc op x y)
 |.cmp op a b=>do
  let x <-ev a
  let y <-ev b
  av [x,y]
  let c <-M.D0 (a5 op x.2 y.2)
  pure (.loc,.bl c)
 |.GI o1 o2 a b c=>do
  let x <-ev a
  let y <-ev b
  av [x,y]
  let p <-M.D0 (a5 o1 x.2 y.2)
  if p=R4 then do
   let z <-ev c
   av [y,z]
   let q <-M.D0 (a5 o2 y.2 z.2)
   pure (.loc,.bl q)
  else pure (.loc,.bl R5)
 |.and es=>gU es
 |.or es=>AH es
 |.not a=>do
  let x <-ev a
  match x.2 with
  |.bl c=>pure (.loc,.bl !c)
  |_=>M.fail
 |.ite c a b=>do
  let p <-DX c
  if p=R4 then ev a else ev b
 |.tup es=>do
  let rs <-bL es
  av rs
  let us <-cH rs
  if us.length<=R6 then pure (.loc,.tup us) else M.fail
 |.lst es=>do
  let rs <-bL es
  av rs
  let us <-cH rs
  if us.length<=R6 then pure (.own,.lst us) else M.fail
 |.EU r=>pure (.own,if r=R4 then .Ew [] else .DJ [] [])
 |.idx a b=>do
  let x <-ev a
  let y <-ev b
  av [x,y]
  M.D0 (fe x y.2)
 |.FD a lo hi=>do
  let x <-ev a
  let l <-Iu lo
  let h <-Iu hi
  av [x]
  M.D0 (m7 x l h)
 |.bi f es=>do
  let rs <-bL es
  av rs
  M.D0 (Fd f rs)
 |.GJ f es=>do
  let rs <-bL es
  av rs
  M.D0 (qv f rs)
 |.F_ m a es=>do
  let x <-ev a
  let rs <-bL es
  av (x::rs)
  M.D0 (iw m x.2 rs)
 |.call f es=>do
  let rs <-bL es
  av rs
  jV Γ f (rs.map (·.2))
 |.comp k t ik src cond e=>do
  let rs <-bL src
  av rs
  let xs <-M.D0 (Fu ik rs)
  let us <-bz k t (aQ cond) (ev e) rs xs []
  pure (.own,.lst us)
 |.neg a=>do
  let x <-ev a
  M.D0 (DE x)
 |.bad=>M.fail
 |.inD neg a i=>do
  let x <-ev a
  let y <-gT x
  let d <-fS i
  pure (.loc,.bl (J9 neg y d.1))
 |.Jj i=>vk i
 |.FL i k d=>do
  let x <-dk i
  Mz x.2
  let y <-ev k
  let y <-gT y
  let z <-ev d
  let u <-lift z
  let x <-dk i
  M.D0 (xY x y u)
 |.Jk i=>do
  let x <-dk i
  M.D0 (vj x.2)
 |.La _ _ _=>M.fail
 |.fst es=>do
  let s <-Hq es S5
  pure (.loc,.str s)
 |.K' a T=>M.fail
noncomputable def Hq:List E->Str->M Str
 |[],out=>pure out
 |e::es,out=>do
  let x <-ev e
  let y <-M.D0 (lj x.2 out)
  Hq es y
noncomputable def bL:List E->M (List (Kd×U))
 |[]=>pure []
 |e::es=>do let r <-ev e;let rs <-bL es;pure (r::rs)
noncomputable def Iu:List E->M (Option Int)
 |[]=>pure R3
 |[e]=>do let x <-ev e;AG x
 |_=>M.fail
noncomputable def gU:List E->M (Kd×U)
 |[]=>M.fail
 |[e]=>ev e
 |e::es=>do
  let x <-ev e
  match x.2 with
  |.bl R4=>gU es
  |.bl R5=>pure (.loc,.bl R5)
  |_=>M.fail
noncomputable def AH:List E->M (Kd×U)
 |[]=>M.fail
 |[e]=>ev e
 |e::es=>do
  let x <-ev e
  match x.2 with
  |.bl R4=>pure (.loc,.bl R4)
  |.bl R5=>AH es
  |_=>M.fail
noncomputable def DX:E->M Bool
 |.and es=>aQ es
 |.or es=>ff es
 |.not a=>do let b <-DX a;pure !b
 |.cmp op a b=>do
  let x <-ev a
  let y <-ev b
  av [x,y]
  M.D0 (a5 op x.2 y.2)
 |.var i=>do let x <-dk i;M.D0 (lh x.2)
 |.cst u=>M.D0 (lh u)
 |.idx a b=>do
  let x <-ev a
  let y <-ev b
  av [x,y]
  let r <-M.D0 (fe x y.2)
  M.D0 (lh r.2)
 |.GJ f es=>do
  let rs <-bL es
  av rs
  let r <-M.D0 (qv f rs)
  M.D0 (lh r.2)
 |.bi f es=>do
  let rs <-bL es
  av rs
  let r <-M.D0 (Fd f rs)
  M.D0 (lh r.2)
 |.F_ m a es=>do
  let x <-ev a
  let rs <-bL es
  av (x::rs)
  let r <-M.D0 (iw m x.2 rs)
  M.D0 (lh r.2)
 |.call f es=>do
  let rs <-bL es
  av rs
  let r <-jV Γ f (rs.map (·.2))
  M.D0 (lh r.2)
 |.GI o1 o2 a b c=>do
  let x <-ev a
  let y <-ev b
  av [x,y]
  let p <-M.D0 (a5 o1 x.2 y.2)
  if p=R4 then do
   let z <-ev c
   av [y,z]
   M.D0 (a5 o2 y.2 z.2)
  else pure R5
 |.inD neg a i=>do
  let x <-ev a
  let y <-gT x
  let d <-fS i
  pure (J9 neg y d.1)
 |_=>M.fail
noncomputable def aQ:List E->M Bool
 |[]=>pure R4
 |[e]=>DX e
 |e::es=>do let b <-DX e;if b=R4 then aQ es else pure R5
noncomputable def ff:List E->M Bool
 |[]=>pure R5
 |[e]=>DX e
 |e::es=>do let b <-DX e;if b=R4 then pure R4 else ff es
end
inductive Fl where|nx|rt (k:Kd) (u:U)|bk|ct
def retS:Kd×U->M Fl
 |(.own,u)=>pure (.rt .own u)
 |(.loc,u)=>pure (.rt .loc u)
 |(.any,u)=>if D' u=R4 then pure (.rt .loc u) else pure (.rt .any u)
 |(.bor j,_)=>λst=>match st[j]? with
  |some (RY (.own,u))=>RY (.ok (.rt .own u),st.set j R3)
  |_=>R3
 |(.io,_)=>M.fail
 |(.B',_)=>M.fail
noncomputable def forM(t:Bool)(is:List Nat)(body:M Fl)(src:List (Kd×U)):List (Kd×U)->M Fl
 |[]=>do av src;pure .nx
 |x::xs=>do
  av src
  cB t is x
  let f <-body
  match f with
  |.nx=>forM t is body src xs
  |.ct=>forM t is body src xs
  |.bk=>pure .nx
  |.rt k u=>pure (.rt k u)
def gv(c:M Bool)(body:M Fl):Nat->M Fl
 |0=>M.fail
 |n+1=>do
  let b <-c
  if b=R4 then do
   let f <-body
   match f with
   |.nx=>gv c body n
   |.ct=>gv c body n
   |.bk=>pure .nx
   |.rt k u=>pure (.rt k u)
  else pure .nx
def modS(i:Nat)(f:U->Option U):M Unit:=λst=>match st[i]? with
 |some (RY (k,u))=>if k.root=R4 then match f u with
   |some u'=>RY (.ok (),st.set i (RY (k,u')))
   |none=>R3
  else R3
 |_=>R3
def vm(u:U):U->Option U
 |.lst xs=>if xs.length<R6 then RY (.lst (xs++[u])) else R3
 |_=>R3
def jY:Kd×U->U->Option U
 |(k,.lst ys),.lst xs=>if xs.length+ys.length<=R6/\fQ k ys=R4 then RY (.lst (xs++ys)) else R3
 |(k,.tup ys),.lst xs=>if xs.length+ys.length<=R6/\fQ k ys=R4 then RY (.lst (xs++ys)) else R3
 |_,_=>R3
def dm(x u:U):U->Option U
 |.DJ ks vs=>match x with
  |.str y=>if ks.length<R6 then RY (.DJ (dput ks vs y u).1 (dput ks vs y u).2) else R3
  |_=>R3
 |.Ew ks=>match rowOf x,u with
  |some r,.bl R4=>if r∉ks/\ks.length<=1000 then RY (.Ew (ks++[r])) else R3
  |_,_=>R3
 |.lst xs=>match x with
  |.int i=>(Gx xs.length i).map λj=>.lst (xs.set j u)
  |_=>R3
 |_=>R3
def rP:List U->U->Option U
 |[u,x]=>dm x u
 |_=>λ_=>R3
def Jl:U->M Unit
 |.lst _=>pure ()
 |_=>M.fail
def fuel:Nat:=100000
mutual
def Hr:S->Nat->Bool
 |.set i _,j=>Sa (j≠i)
 |.Hn is _,j=>Sa (j∉is)
 |.ite _ a b,j=>Gp a j&&Gp b j
 |.D1 _ is _ _ body,j=>Sa (j∉is)&&Gp body j
 |.Iq _ body,j=>Gp body j
 |.put _ _ _,_=>R4
 |.app _ _,_=>R4
 |.ext _ _,_=>R4
 |.bad,_=>R4
 |.newD i,j=>Sa (j≠i)
 |.putD _ _ _,_=>R4
 |.Ft _ _ _,_=>R4
 |.aug _ _ _ _,_=>R4
 |.Lb _,_=>R4
 |.exp _,_=>R4
 |.ret _,_=>R4
 |.Ho,_=>R4
 |.brk,_=>R4
 |.cnt,_=>R4
 |.Lc,_=>R4
def Gp:List S->Nat->Bool
 |[],_=>R4
 |s::ss,j=>Hr s j&&Gp ss j
end
def rQ(rs:List (Kd×U))(is:List Nat)(body:List S):Bool:=rs.all λr=>match r.1 with
 |.bor j=>Sa (j∉is)&&Gp body j
 |_=>R4
mutual
noncomputable def exec:S->M Fl
 |.set i e=>do let r <-ev Γ e;eS i r;pure .nx
 |.Hn is e=>do let r <-ev Γ e;cB R4 is r;pure .nx
 |.put i k v=>do
  let r <-ev Γ v
  let _ <-dk i
  let x <-ev Γ k
  let us <-cH [r,x]
  modS i (rP us)
  pure .nx
 |.app i e=>do
  let x <-dk i
  Jl x.2
  let r <-ev Γ e
  let u <-lift r
  modS i (vm u)
  pure .nx
 |.ext i e=>do
  let x <-dk i
  Jl x.2
  let r <-ev Γ e
  modS i (jY r)
  pure .nx
 |.bad=>M.fail
 |.newD i=>do zi i;pure .nx
 |.putD i k v=>do
  let r <-ev Γ v
  let d <-fS i
  let x <-ev Γ k
  let y <-gT x
  jW i y r
  pure .nx
 |.Ft i k v=>do
  let _ <-fS i
  let x <-ev Γ k
  let y <-gT x
  let d <-fS i
  if y∈d.1 then do
   let r <-ev Γ v
   let u <-lift r
   jX i y u
   pure .nx
  else M.fail
 |.aug sub i k v=>do
  let _ <-oM i
  let y <-ev Γ k
  let j <-tN y
  let us <-oM i
  let o <-M.D0 (oN us j)
  let z <-ev Γ v
  let w <-tN z
  modS i (dm (.int j) (.int (tP sub o w)))
  pure .nx
 |.Lb i=>do
  modS i DC
  pure .nx
 |.exp e=>do let _ <-ev Γ e;pure .nx
 |.ret e=>do let r <-ev Γ e;retS r
 |.Ho=>pure (.rt .loc .DR)
 |.ite c a b=>do let p <-DX Γ c;if p=R4 then execs a else execs b
 |.D1 t is ik src body=>do
  let rs <-bL Γ src
  av rs
  let xs <-M.D0 (Fu ik rs)
  if rQ rs is body=R4 then forM t is (execs body) rs xs else M.fail
 |.Iq c body=>gv (DX Γ c) (execs body) fuel
 |.brk=>pure .bk
 |.cnt=>pure .ct
 |.Lc=>pure .nx
noncomputable def execs:List S->M Fl
 |[]=>pure .nx
 |s::ss=>do
  let f <-exec s
  match f with
  |.nx=>execs ss
  |f=>pure f
end
end
structure Fn where
 name:Str
 np:Nat
 ns:Nat
 body:List S
def start(us:List U)(n:Nat):aj:=us.map (λu=>RY (if D' u=R4 then Kd.loc else Kd.any,u))++SH (n - us.length) R3
noncomputable def bC(Γ:Tab)(fn:Fn)(us:List U):Option (Ex (Kd×U)):=if us.length=fn.np then match execs Γ fn.body (start us fn.ns) with
  |some (.ok (.rt .own u),_)=>RY (.ok (.own,u))
  |some (.ok (.rt .loc u),_)=>RY (.ok (.loc,u))
  |some (.ok (.rt .any u),_)=>RY (.ok (.any,u))
  |some (.ok .nx,_)=>RY (.ok (.loc,.DR))
  |some (.exc c,_)=>RY (.exc c)
  |_=>R3
 else R3
noncomputable def Ec(P:List Fn):Nat->Tab
 |0=>λ_ _=>R3
 |d+1=>λf us=>match P.find? λfn=>Sa (fn.name=f) with
  |some fn=>bC (Ec P d) fn us
  |none=>R3
end TM
namespace TM
open PySem L2
section
variable{X:Cx}{pins:List (Sr×Obj)}{σ:St}{H:Hp}{s:Sm}{C:Ct}{S:Sr->Prop}
theorem rR(I:Inv X pins σ H s)(h:Eg X.K H a vs):∃its:List Sb,Vals vs its/\s.heap.IsList a its.toArray/\vs.length<=R6:=by
 obtain⟨its,r,p,z⟩:=I.list h;exact⟨its,r,p.isList,z⟩
inductive Ed(s:Sm):Nat->U->Sb->Prop where
 |DR {n:Nat}:Ed s n .DR .none
 |bl {n:Nat} {b:Bool}:Ed s n (.bl b) (.bool b)
 |int {n:Nat} {i:Int} {t:Tok}:Ed s n (.int i) (.int i t)
 |str {n:Nat} {y:Str} {t:Tok}:Ed s n (.str y) (.str y t)
 |tup {n:Nat} {us:List U} {its:List Sb} {a:Sr}:us.length=its.length->(∀j (hj:j<its.length),Ed s n (us.getD j .DR) its[j])->s.heap.IsTuple a its.toArray->Ed s (n+1) (.tup us) (.ref a)
 |lst {n:Nat} {us:List U} {its:List Sb} {a:Sr}:us.length=its.length->(∀j (hj:j<its.length),Ed s n (us.getD j .DR) its[j])->s.heap.IsList a its.toArray->Ed s (n+1) (.lst us) (.ref a)
theorem Ed.xZ(f:∀u v x,Ek n u=R4->Rep C S H u v->RelV v x->Ed s n u x):∀{us:List U}{vs:List V}{its:List Sb},bY n us=R4->ai C S H us vs->Vals vs its->us.length=its.length/\∀j (hj:j<its.length),Ed s n (us.getD j .DR) its[j]
 |[],_,_,_,h,r=>by cases h;cases r;exact⟨rfl,λj hj=>nomatch hj⟩
 |u::us,_,_,e,h,r=>by
  obtain⟨v,vs,rfl,h1,h2⟩:=h;simp only[bY,R7]at e;cases r with
  |cons r1 r2 =>
   obtain⟨l,k⟩:=Ed.xZ f e.2 h2 r2;refine⟨by simp[l],λj hj=>?_⟩;cases j with
   |zero=>exact f _ _ _ e.1 h1 r1
   |succ j=>exact k j (by simpa using hj)
theorem Ed.of(I:Inv X pins σ H s)(hK:C.K=X.K):∀(n:Nat) (u:U) (v:V) (x:Sb),Ek n u=R4->Rep C S H u v->RelV v x->Ed s n u x:=by
 intro n;induction n with
 |zero=>intro u v x e h r;cases u<;>first|(simp[Ek]at e;done)|(simp only[Rep]at h;subst h;first|(cases r;constructor)|(obtain⟨t,rfl⟩:=r;constructor))
 |succ n ih =>
  intro u v x e h r;cases u with
  |tup us =>
   obtain⟨a,vs,rfl,h1,h2⟩:=h;cases r;obtain⟨its,rv,p,_⟩:=I.tuple (hK▸h1);obtain⟨l,k⟩:=Ed.xZ ih (by simpa[Ek] using e) h2 rv;exact .tup l k p
  |lst us =>
   obtain⟨a,vs,rfl,h1,h2⟩:=h;cases r;obtain⟨its,rv,p,_⟩:=rR I (hK▸h1.sq);obtain⟨l,k⟩:=Ed.xZ ih (by simpa[Ek] using e) h2 rv;exact .lst l k p
  |_=>first|(simp[Ek]at e;done)|(simp only[Rep]at h;subst h;first|(cases r;constructor)|(obtain⟨t,rfl⟩:=r;constructor))
theorem Ed.inj:∀{n:Nat}{u w:U}{x:Sb},Ed s n u x->Ed s n w x->u=w:=by
 intro n;induction n with
 |zero=>intro u w x h h';cases h<;>cases h'<;>rfl
 |succ n ih =>
  have go:∀{us ws:List U} {its its':List Sb} {a:Sr} {o o':Obj} {m m':Nat},us.length=its.length->(∀j (hj:j<its.length),Ed s n (us.getD j .DR) its[j])->ws.length=its'.length->(∀j (hj:j<its'.length),Ed s n (ws.getD j .DR) its'[j])->s.heap.get? a=RY o->o.data=.seq its.toArray m->s.heap.get? a=RY o'->o'.data=.seq its'.toArray m'->us=ws:=by
   intro us ws its its' a o o' m m' l k l' k' e d e' d';rw[e]at e';cases e';rw[d]at d';injection d' with d1 _
   have:its=its':=by simpa using ß XN d1
   subst this;refine UX ⋯ λj h1 h2=>?_;have:=ih (k j ⋯) (k' j ⋯);simpa[h1,h2] using this
  intro u w x h h';cases h with
  |tup l k p =>
   cases h' with
   |tup l' k' p'=>obtain⟨o,e,_,m,d⟩:=p;obtain⟨o',e',_,m',d'⟩:=p';rw[go l k l' k' e d e' d']
   |lst l' k' p'=>exact absurd rfl (XM p' p)
  |lst l k p =>
   cases h' with
   |lst l' k' p'=>obtain⟨o,e,_,m,d⟩:=p;obtain⟨o',e',_,m',d'⟩:=p';rw[go l k l' k' e d e' d']
   |tup l' k' p'=>exact absurd rfl (XM p p')
  |_=>cases h';rfl
mutual
theorem Ed.self:∀{u:U}{n:Nat}{x:Sb},Ed s n u x->bx u u=R4
 |.tup us,_,_,.tup l k _=>Ed.vn us λj hj=>⟨_,_,k j (l▸hj)⟩
 |.lst us,_,_,.lst l k _=>Ed.vn us λj hj=>⟨_,_,k j (l▸hj)⟩
 |.DR,_,_,_=>rfl
 |.bl _,_,_,_=>by simp[bx]
 |.int _,_,_,_=>by simp[bx]
 |.str _,_,_,_=>by simp[bx]
theorem Ed.vn:∀(us:List U),(∀j,j<us.length->∃n x,Ed s n (us.getD j .DR) x)->cu us us=R4
 |[],_=>rfl
 |u::us,h=>by
  obtain⟨n,x,q⟩:=h 0 (by simp);rw[cu,Ed.self (u:=u) q,Ed.vn us λj hj=>h (j+1) (by simpa using hj)];rfl
end
theorem iy:∀{us ws:List U},us.length≠ws.length->cu us ws=R5
 |[],[],h=>absurd rfl h
 |[],_::_,_=>rfl
 |_::_,[],_=>rfl
 |u::us,w::ws,h=>by
  rw[cu,iy (us:=us) (ws:=ws) (λe=>h (by simp[e])),Xw]
theorem fg:∀{us ws:List U},us.length=ws.length->cu us ws=(Sl us.length).all λj=>bx (us.getD j .DR) (ws.getD j .DR)
 |[],[],_=>rfl
 |[],_::_,h=>by simp at h
 |_::_,[],h=>by simp at h
 |u::us,w::ws,h=>by
  have h':us.length=ws.length:=by simpa using h
  rw[cu,fg h',SE,List.range_succ_eq_map,List.all_cons,ZL];rfl
theorem Cc{its its':List Sb}(l1:us.length=its.length)(l2:ws.length=its'.length):cu us ws=((Sl (min its.toArray.size its'.toArray.size)).all (λj=>bx (us.getD j .DR) (ws.getD j .DR))&&its.toArray.size==its'.toArray.size):=by
 simp only[Ss];by_cases el:us.length=ws.length
 ·rw[fg el,show min its.length its'.length=us.length by omega,show(its.length==its'.length)=R4 by simp;omega,Wx]
 ·rw[iy el,show(its.length==its'.length)=R5 by simp;omega,Xw]
theorem rS(hf:Ed s n u y)(h:Yh A s y x k)(hs:y=x->k=R4):V4 A s y x k:=λprog w E Q hq=>by
 unfold eqBool;refine Tj ?_;refine wpAny_ite_split (λIc=>?_) (λ_=>?_)
 ·rw[hs (Ys Ic)]at hq;exact RZ (UJ (R_ hq))
 ·cases hf<;>exact RZ (h prog w E _ (TC hq))
theorem MA(ih:∀m,m+1=n->∀{u w:U}{x x':Sb}{A:UT},Ed s m u x->Ed s m w x'->A.units+m<Tx->V4 A s x x' (bx u w))(h:Ed s n u x)(h':Ed s n w x')(hn:A.units+n<Tx):Yh A s x x' (bx u w)/\Zp A s x x' (!bx u w):=by
 have hu:A.units<Tx:=by omega
 have go:∀{m:Nat} {us ws:List U} {its its':List Sb},m+1=n->(∀j (hj:j<its.length),Ed s m (us.getD j .DR) its[j])->(∀j (hj:j<its'.length),Ed s m (ws.getD j .DR) its'[j])->∀j (h1:j<its.toArray.size) (h2:j<its'.toArray.size),V4 A.in1 s its.toArray[j] its'.toArray[j] (bx (us.getD j .DR) (ws.getD j .DR)):=λ{m us ws its its'} e k k' j h1 h2=>ih m e (k j h1) (k' j h2) (by show A.units+1+m < _;omega);cases h with
 |DR =>
  cases h' with
  |DR=>exact⟨.none_none,.none_none⟩
  |bl=>exact⟨.none_bool _,.none_bool _⟩
  |int=>exact⟨.none_int _ _,.none_int _ _⟩
  |str=>exact⟨.none_str _ _,.none_str _ _⟩
  |tup l' k' p'=>exact⟨.none_tuple p' hu,.none_tuple p' hu⟩
  |lst l' k' p'=>exact⟨.none_list p' hu,.none_list p' hu⟩
 |bl =>
  cases h' with
  |DR=>exact⟨.bool_none _,.bool_none _⟩
  |bl=>exact⟨.bool_bool _ _,.bool_bool _ _⟩
  |int=>exact⟨.bool_int _ _ _,.bool_int _ _ _⟩
  |str=>exact⟨.bool_str _ _ _,.bool_str _ _ _⟩
  |tup l' k' p'=>exact⟨.bool_tuple _ p' hu,.bool_tuple _ p' hu⟩
  |lst l' k' p'=>exact⟨.bool_list _ p' hu,.bool_list _ p' hu⟩
 |int =>
  cases h' with
  |DR=>exact⟨.int_none _ _,.int_none _ _⟩
  |bl=>exact⟨.int_bool _ _ _,.int_bool _ _ _⟩
  |int=>exact⟨.int_int _ _ _ _,.int_int _ _ _ _⟩
  |str=>exact⟨.int_str _ _ _ _,.int_str _ _ _ _⟩
  |tup l' k' p'=>exact⟨.int_tuple _ _ p' hu,.int_tuple _ _ p' hu⟩
  |lst l' k' p'=>exact⟨.int_list _ _ p' hu,.int_list _ _ p' hu⟩
 |str =>
  cases h' with
  |DR=>exact⟨.str_none _ _,.str_none _ _⟩
  |bl=>exact⟨.str_bool _ _ _,.str_bool _ _ _⟩
  |int=>exact⟨.str_int _ _ _ _,.str_int _ _ _ _⟩
  |str=>exact⟨.str_str _ _ _ _,.str_str _ _ _ _⟩
  |tup l' k' p'=>exact⟨.str_tuple _ _ p' hu,.str_tuple _ _ p' hu⟩
  |lst l' k' p'=>exact⟨.str_list _ _ p' hu,.str_list _ _ p' hu⟩
 |tup l k p =>
  cases h' with
  |DR=>exact⟨.tuple_none p hu,.tuple_none p hu⟩
  |bl=>exact⟨.tuple_bool _ p hu,.tuple_bool _ p hu⟩
  |int=>exact⟨.tuple_int _ _ p hu,.tuple_int _ _ p hu⟩
  |str=>exact⟨.tuple_str _ _ p hu,.tuple_str _ _ p hu⟩
  |tup l' k' p'=>rw[show bx (.tup _) (.tup _)=_ from Cc l l'];exact⟨.tuples p p' hu (go rfl k k'),.tuples p p' hu (go rfl k k')⟩
  |lst l' k' p'=>exact⟨.tuple_list p p' hu,.tuple_list p p' hu⟩
 |lst l k p =>
  cases h' with
  |DR=>exact⟨.list_none p hu,.list_none p hu⟩
  |bl=>exact⟨.list_bool _ p hu,.list_bool _ p hu⟩
  |int=>exact⟨.list_int _ _ p hu,.list_int _ _ p hu⟩
  |str=>exact⟨.list_str _ _ p hu,.list_str _ _ p hu⟩
  |tup l' k' p'=>exact⟨.list_tuple p p' hu,.list_tuple p p' hu⟩
  |lst l' k' p' =>
   rename_i us _ _ ws _ _;by_cases el:us.length=ws.length
   ·rw[show bx (.lst us) (.lst ws)=_ from fg el,l,<-Ss];exact⟨.lists p p' (by simp;omega) hu (go rfl k k'),.lists p p' (by simp;omega) hu (go rfl k k')⟩
   ·rw[show bx (.lst us) (.lst ws)=R5 from iy el];exact⟨.lists_lengths p p' (by simp;omega) hu,.lists_lengths p p' (by simp;omega) hu⟩
theorem Cd:∀{n:Nat}{u w:U}{x x':Sb}{A:UT},Ed s n u x->Ed s n w x'->A.units+n<Tx->V4 A s x x' (bx u w):=by
 intro n;induction n with
 |zero=>intro u w x x' A h h' hu;exact rS h (MA (λm e=>by cases e) h h' hu).1 λe=>by subst e;rw[h.inj h'];exact h'.self
 |succ n ih=>intro u w x x' A h h' hu;exact rS h (MA (λm e=>by cases e;exact ih) h h' hu).1 λe=>by subst e;rw[h.inj h'];exact h'.self
theorem Ce(h:Ed s n u x)(h':Ed s n w x')(hu:A.units+n<Tx):Yh A s x x' (bx u w)/\Zp A s x x' (!bx u w):=MA (λm e=>by cases e;exact Cd) h h' hu
end
end TM
namespace TM
open PySem L2 PyProof.Rows
def DP(C:Ct)(m:M (Kd×U)):TE:=λσ H Q=>∃c0:Cf,c0.σ=σ/\c0.H=H/\Ok C c0/\W m c0.st λr st'=>∀c v,c.σ=σ->c.st=st'->Ok C c->Nx c0 c->aH C c0 c r.1 r.2 v->Q v c.H
def EN(C:Ct)(m:M Bool):TT:=λσ H Q=>∃c0:Cf,c0.σ=σ/\c0.H=H/\Ok C c0/\W m c0.st λb st'=>∀c,c.σ=σ->c.st=st'->Ok C c->Nx c0 c->Q b c.H
def da(C:Ct)(c0 c:Cf):List (Kd×U)->List V->Prop
 |[],vs=>vs=[]
 |r::rs,vs=>∃v t,vs=v::t/\fb C c0 c r.1 r.2 v/\da C c0 c rs t/\(r.1=.own->∀(i:Nat) r' v',rs[i]?=RY r'->t[i]?=RY v'->r'.1=.own->v'≠v)
def EZ(C:Ct)(m:M (List (Kd×U))):TA:=λσ H Q=>∃c0:Cf,c0.σ=σ/\c0.H=H/\Ok C c0/\W m c0.st λrs st'=>∀c vs,c.σ=σ->c.st=st'->Ok C c->Nx c0 c->da C c0 c rs vs->Q vs c.H
section
theorem PE.weak(h:PE X e t)(i:∀σ H Q,t' σ H Q->t σ H Q):PE X e t':=λpins s σ H Q I q=>h pins s σ H Q I (i σ H Q q)
theorem PT.weak(h:PT X e t)(i:∀σ H Q,t' σ H Q->t σ H Q):PT X e t':=λpins s σ H Q I q=>h pins s σ H Q I (i σ H Q q)
theorem cf{st:aj}:W (av rs) st Q↔bc rs st/\Q () st:=by
 constructor
 ·rintro⟨a,st',e,h⟩;unfold av at e;split at e
  ·cases e;exact⟨by assumption,h⟩
  ·cases e
 ·rintro⟨h1,h2⟩;exact⟨(),st,by unfold av;rw[Ú h1],h2⟩
theorem fE{st:aj}:bc (r::rs) st↔bc [r] st/\bc rs st:=by
 obtain⟨k,u⟩:=r;cases k<;>simp[bc]
theorem fb.t(h:fb C c0 c k u v)(s:bc [(k,u)] c.st):aH C c0 c k u v:=by
 cases k with
 |bor j=>exact⟨s.1,h⟩
 |_=>exact h
structure J_(C:Ct)(c0 c:Cf)(x y:Kd×U)(vx vy:V):Prop where
 hσ:c.σ=c0.σ
 ok:Ok C c
 nx:Nx c0 c
 rx:aH C c0 c x.1 x.2 vx
 ry:aH C c0 c y.1 y.2 vy
 ne:x.1=.own->y.1=.own->vy≠vx
theorem m8(h:fb C c0 c1 k u v)(h':fb C c1 c k' u' v'):k=.own->k'=.own->v'≠v:=by
 rintro rfl rfl e;obtain⟨r,e1,_,_,_,h4⟩:=h;obtain⟨r',e2,h5,_⟩:=h';obtain⟨o,ho,_⟩:=h4.some;subst e1;rw[e2]at e;cases e;rw[ho]at h5;cases h5
theorem two{k:Kd×U->Kd×U->M β}{DV:β->aj->Prop}{f:Sb->Sb->Sem α}{Q':Sb->Sb->α->Sm->Prop}(ha:PE X a (DP C ma))(hb:PE X b (DP C mb))(I:Inv X pins c0.σ c0.H s)(ok:Ok C c0)
  (h:W (ma >>= λx=>mb >>= λy=>av [x,y] >>= λ_=>k x y) c0.st DV)
  (hf:∀x y c vx vy v u s2,J_ C c0 c x y vx vy->Inv X pins c.σ c.H s2->RelV vx v->RelV vy u->W (k x y) c.st DV->Se (Sw X.prog X.w) X.A (f v u) (Q' v u) X.xe s2) :
  Se (Sw X.prog X.w) X.A (T2 a X.env) (λv s₁=>Se (Sw X.prog X.w) X.A (T2 b X.env) (λu s₂=>Se (Sw X.prog X.w) X.A (f v u) (Q' v u) X.xe s₂) X.xe s₁) X.xe s:=by
 rw[af]at h;refine DQ (ha pins s c0.σ c0.H (λvx H1=>∃x c1,c1.H=H1/\c1.σ=c0.σ/\Ok C c1/\Nx c0 c1/\aH C c0 c1 x.1 x.2 vx/\W (mb >>= λy=>av [x,y] >>= λ_=>k x y) c1.st DV) I ⟨c0,rfl,rfl,ok,h.mono λx st1 h1 c1 vx e1 e2 DT n1 r1=>⟨x,c1,rfl,e1,DT,n1,r1,by rw[e2];exact h1⟩⟩) ?_;rintro v s1 ⟨vx,H1,I1,rv,x,c1,rfl,e1,DT,n1,r1,h1⟩;rw[af]at h1;refine DQ (hb pins s1 c0.σ c1.H (λvy H2=>∃y c2,c2.H=H2/\J_ C c0 c2 x y vx vy/\W (k x y) c2.st DV) I1 ⟨c1,e1,rfl,DT,h1.mono λy st2 h2 c2 vy e3 e4 Ej n2 r2=>?_⟩) ?_
 ·rw[af,cf]at h2;subst e4;rw[fE]at h2;exact⟨y,c2,rfl,⟨e3,Ej,n1.trans n2,(r1.w.on DT n2 (e3.trans e1.symm)).t h2.1.1,(r2.from n1),m8 r1.w r2.w⟩,h2.2⟩
 ·rintro u s2 ⟨vy,H2,I2,ru,y,c2,rfl,at2,h2⟩;have hs:c2.σ=c0.σ:=at2.hσ;exact hf x y c2 vx vy v u s2 at2 (by rw[hs];exact I2) rv ru h2
structure Le(C:Ct)(c0 c:Cf)(x:Kd×U)(vx:V):Prop where
 hσ:c.σ=c0.σ
 ok:Ok C c
 nx:Nx c0 c
 rx:aH C c0 c x.1 x.2 vx
def cm(C:Ct)(c0:Cf)(Q:VK)(r:Kd×U)(st':aj):Prop:=∀c v,c.σ=c0.σ->c.st=st'->Ok C c->Nx c0 c->aH C c0 c r.1 r.2 v->Q v c.H
section
theorem cm.flat(h:cm C c0 Q (.loc,u) c.st)(hσ:c.σ=c0.σ)(ok:Ok C c)(n:Nx c0 c)(r:Rep C c.S c.H u v):Q v c.H:=h c v hσ rfl ok n r
theorem cm.list(h:cm C c0 Q (.own,.lst us) c.st)(hσ:c.σ=c0.σ)(ok:Ok C c)(n:Nx c0 c)(r:ai C c.S c.H us vs)(p:Sr)(hp:c.H p=R3):Q (.ref p) (upd c.H p (.lst vs)):=by
 obtain⟨DZ,n',r'⟩:=ok.newList n hp r;exact h {c with H:=upd c.H p (.lst vs)} _ hσ rfl DZ n' r'
theorem cm.tup(h:cm C c0 Q (.loc,.tup us) c.st)(hσ:c.σ=c0.σ)(ok:Ok C c)(n:Nx c0 c)(r:ai C c.S c.H us vs)(p:Sr)(hp:c.H p=R3):Q (.ref p) (upd c.H p (.tup vs)):=by
 obtain⟨DZ,n',r'⟩:=ok.Av n hp r;exact h {c with H:=upd c.H p (.tup vs)} _ hσ rfl DZ n' r'
theorem cm.tupK(h:cm C c0 Q (kE k,.tup us) c.st)(hσ:c.σ=c0.σ)(ok:Ok C c)(n:Nx c0 c)(r:ai C (SK C c k) c.H us vs)(p:Sr)(hp:c.H p=R3):Q (.ref p) (upd c.H p (.tup vs)):=by
 obtain⟨DZ,n'⟩:=ok.lay (o:=.tup vs) hp;refine h {c with H:=upd c.H p (.tup vs)} _ hσ rfl DZ (n.trans n') (aH.item ?_);cases k<;>exact⟨p,vs,rfl,Ef.of au,by first|exact r.mv (ok.Hi n')|exact r.mv (ok.mv n')⟩
theorem dc(h:fQ k us=R4)(r:ai C (SK C c k) c.H us vs):ai C c.S c.H us vs:=by
 cases k with
 |any=>exact r.D' (by simpa[fQ,isAny] using h)
 |_=>exact r
end
theorem x6:E2 X (VT .Add) (λx y H Q=>∃l b xs zs,x=.ref l/\y=.ref b/\Eg X.K H l xs/\Eg X.K H b zs/\xs.length+zs.length<=R6/\∀p,H p=R3->Q (.ref p) (upd H p (.lst (xs++zs)))):=by
 intro pins s σ H x y v u Q I rx ry h;obtain⟨l,b,xs,zs,rfl,rfl,hH,hB,hz,q⟩:=h;cases rx;cases ry;obtain⟨its,r,pl,z⟩:=I.list hH;obtain⟨D3,r2,Qg,z2⟩:=I.list hB;have hl:=r.length;have F7:=r2.length;obtain⟨⟨cls,dd,data,sl⟩,ho,hc,n,hd⟩:=pl.isList;obtain⟨⟨Qh,Qi,data2,MB⟩,Jm,N9,n2,hd2⟩:=Qg.isList;simp only at hc hd N9 hd2;subst hc hd N9 hd2;refine concat_meets ⟨_,ho,rfl⟩ ⟨_,Jm,rfl⟩ noFill_list_add seq_list_add PySem.F.slot_list_add PySem.F.entry_list_add (PySem.F.args_list_add_2 _ _)
   (list_addW l b its.toArray D3.toArray n n2 dd Qi sl MB (by rw[Ss,Ss];omega)) ⟨ho,Jm,?_⟩
 have ea:its.toArray++D3.toArray=(its++D3).toArray:=by simp
 rw[ea];exact⟨.ref _,_,I.Dv (t':=s.toks) (r.append r2) (by rw[Sy];omega),rfl,q _ I.fresh⟩
end
section
variable{X:Cx}{C:Ct}{pins:List (Sr×Obj)}{s:Sm}{c0 c:Cf}{Q:VK}
def K_.op:K_->Operator
 |.add=>.Add|.sub=>.Sub|.mul=>.Mult|.Fs=>.FloorDiv|.mod=>.Mod|.pow=>.Pow
theorem dR(h:qu f a b=RY r):∃i j o,a=.int i/\b=.int j/\f i j=RY o/\r=(.loc,.int o):=by
 unfold qu at h;split at h
 ·rw[Si]at h;obtain⟨o,e,rfl⟩:=h;exact⟨_,_,o,rfl,rfl,e,rfl⟩
 ·cases h
theorem AI(hK:C.K=X.K)(t:J_ C c0 c x y vx vy)(I:Inv X pins c.σ c.H s)(rx:RelV vx v)(ry:RelV vy u)(h:Fc op x y=RY r)(q:cm C c0 Q r c.st):
  Se (Sw X.prog X.w) X.A (VT op.op v u) (EP X pins c.σ Q) X.xe s:=by
 obtain⟨hσ,ok,n,tx,ty,_⟩:=t;cases op with
 |add =>
  have h:qt x y=RY r:=h;unfold qt at h;split at h
  ·have ex:=tx.int ok;have ey:=ty.int ok;cases h;exact dB pins s c.σ c.H vx vy v u Q I rx ry ⟨_,_,ex,ey,q.flat hσ ok n rfl⟩
  ·have ex:=tx.str ok;have ey:=ty.str ok;split at h
   ·cases h;exact qa pins s c.σ c.H vx vy v u Q I rx ry ⟨_,_,ex,ey,by assumption,q.flat hσ ok n rfl⟩
   ·cases h
  ·obtain⟨a,vs,ex,h1,h2⟩:=tx.list ok;obtain⟨b,ws,ey,h3,h4⟩:=ty.list ok;split at h
   ·rename_i hh;cases h;exact x6 pins s c.σ c.H vx vy v u Q I rx ry ⟨a,b,vs,ws,ex,ey,hK▸h1,hK▸h3,by rw[<-h2.len,<-h4.len];exact hh.1,λp hp=>q.list hσ ok n ((dc hh.2.1 h2).append (dc hh.2.2 h4)) p hp⟩
   ·cases h
  ·cases h
 |sub =>
  obtain⟨i,j,o,ex,ey,eo,rfl⟩:=dR h;have ex:=(ex▸tx).int ok;have ey:=(ey▸ty).int ok;cases eo;exact p9 pins s c.σ c.H vx vy v u Q I rx ry ⟨_,_,ex,ey,q.flat hσ ok n rfl⟩
 |mul =>
  obtain⟨i,j,o,ex,ey,eo,rfl⟩:=dR h;have ex:=(ex▸tx).int ok;have ey:=(ey▸ty).int ok;unfold xR at eo;split at eo
  ·cases eo;exact mz pins s c.σ c.H vx vy v u Q I rx ry ⟨_,_,ex,ey,by assumption,q.flat hσ ok n rfl⟩
  ·cases eo
 |Fs =>
  obtain⟨i,j,o,ex,ey,eo,rfl⟩:=dR h;have ex:=(ex▸tx).int ok;have ey:=(ey▸ty).int ok;unfold xS at eo;split at eo
  ·cases eo;exact xo pins s c.σ c.H vx vy v u Q I rx ry ⟨_,_,ex,ey,by assumption,q.flat hσ ok n rfl⟩
  ·cases eo
 |mod =>
  obtain⟨i,j,o,ex,ey,eo,rfl⟩:=dR h;have ex:=(ex▸tx).int ok;have ey:=(ey▸ty).int ok;unfold xT at eo;split at eo
  ·cases eo;exact bw pins s c.σ c.H vx vy v u Q I rx ry ⟨_,_,ex,ey,by assumption,q.flat hσ ok n rfl⟩
  ·cases eo
 |pow =>
  obtain⟨i,j,o,ex,ey,eo,rfl⟩:=dR h;have ex:=(ex▸tx).int ok;have ey:=(ey▸ty).int ok;unfold xU at eo;split at eo
  ·cases eo;exact mB pins s c.σ c.H vx vy v u Q I rx ry ⟨_,_,ex,ey,by assumption,q.flat hσ ok n rfl⟩
  ·cases eo
theorem x8(hK:C.K=X.K)(ha:PE X a (DP C ma))(hb:PE X b (DP C mb)):PE X (.BinOp a op.op b pos) (DP C (ma >>= λx=>mb >>= λy=>av [x,y] >>= λ_=>M.D0 (Fc op x y))):=by
 rintro pins s σ H Q I ⟨c0,rfl,rfl,ok,h⟩;refine wpAny_BinOp (two ha hb I ok h λx y c vx vy v u s2 t I2 rx ry w=>?_);obtain⟨r,e,q⟩:=cq.mp w;exact DQ (AI hK t I2 rx ry e q) λ_ _ z=>by rw[t.hσ]at z;exact z
def J8.op:J8->CmpOp
 |.eq=>.Eq|.ne=>.NotEq|.lt=>.Lt|.le=>.LtE|.gt=>.Gt|.ge=>.GtE|.isin=>.In|.DM=>.NotIn|.is=>.Is|.GH=>.IsNot
theorem Cg{neg:Bool}(I:Inv X pins c.σ c.H s)(hK:C.K=X.K)(hu:X.A.units+60<Tx){S:Sr->Prop}(hx:Rep C S c.H x vx)(rx:RelV vx v)(hy:ai C S c.H ys vs)
  (ha:Eg C.K c.H a vs\/Ef C.K c.H a vs) (e1:Ek 50 x=R4) (e2:bY 50 ys=R4) {Q:Sb->Sm->Prop} (q:Q (.bool (if neg then !(ys.any λy=>bx y x) else ys.any λy=>bx y x)) s) :
  Se (Sw X.prog X.w) X.A (Ud (if neg then .NotIn else .In) v (.ref a)) Q X.xe s:=by
 have sx:=Ed.of I hK 50 x vx v e1 hx rx;have go:∀its:List Sb,Vals vs its->∃e:Sb->Bool,(∀y,y∈its.toArray->V4 X.A.in1 s y v (e y))/\its.toArray.any e=ys.any λy=>bx y x:=by
  intro its rv;obtain⟨l,k⟩:=Ed.xZ (Ed.of I hK 50) e2 hy rv
  classical
  have q:∀j (hj:j<its.length),Sa (∃w,Ed s 50 w its[j]/\bx w x=R4)=bx (ys.getD j .DR) x:=λj hj=>by
   rw[Uo,decide_eq_true_iff];exact⟨λ⟨w,h1,h2⟩=>by rw[<-h1.inj (k j hj)];exact h2,λh=>⟨_,k j hj,h⟩⟩
  refine⟨λy=>Sa (∃w,Ed s 50 w y/\bx w x=R4),λy E8=>?_,?_⟩
  ·obtain⟨j,hj,e⟩:=Vz (show y∈its by simpa using E8);subst e;show V4 _ _ _ _ (decide _);rw[q j hj];exact Cd (k j hj) sx (by show X.A.units+1+50 < _;omega)
  ·rw[Uo];simp only[List.any_toArray,UZ];constructor
   ·rintro⟨y,Jn,h⟩;obtain⟨j,hj,rfl⟩:=Vz Jn;rw[q j hj]at h;exact⟨_,Vn (l▸hj),by simpa[l▸hj] using h⟩
   ·rintro⟨w,hw,h3⟩;obtain⟨j,hj,rfl⟩:=Vz hw;exact⟨_,Vn (l▸hj),by rw[q j (l▸hj)];simpa[hj] using h3⟩
 rcases ha with ha|ha
 ·obtain⟨its,rv,p,_⟩:=rR I (hK▸ha);obtain⟨e,h1,h2⟩:=go its rv;cases neg with
  |false=>exact SeqAt.in_listAt e p h1 (by rw[h2];exact q)
  |true=>exact SeqAt.notIn_listAt e p h1 (by rw[h2];exact q)
 ·rw[hK]at ha;obtain⟨its,rv,p,_⟩:=I.tuple ha;obtain⟨e,h1,h2⟩:=go its rv;cases neg with
  |false=>exact SeqAt.in_tupleAt e p h1 (by rw[h2];exact q)
  |true=>exact SeqAt.notIn_tupleAt e p h1 (by rw[h2];exact q)
end
section
theorem bR:∀{us:List U}{ss:List Str},strsOf us=RY ss->us=ss.map .str
 |[],ss,h=>by cases h;rfl
 |.str x::us,ss,h=>by
  simp only[strsOf,Si]at h;obtain⟨t,h1,rfl⟩:=h;rw[bR h1];rfl
 |.DR::_,_,h=>by cases h
 |.bl _::_,_,h=>by cases h
 |.int _::_,_,h=>by cases h
 |.tup _::_,_,h=>by cases h
 |.lst _::_,_,h=>by cases h
 |.DJ _ _::_,_,h=>by cases h
 |.Ew _::_,_,h=>by cases h
theorem iN:∀{us:List U}{ns:List Int},intsOf us=RY ns->us=ns.map .int
 |[],ns,h=>by cases h;rfl
 |u::us,ns,h=>by
  cases u<;>first|(cases h;done)|skip
  rename_i x;have h':(intsOf us).map (x::·)=RY ns:=h;rw[Si]at h';obtain⟨ms,e,rfl⟩:=h';rw[iN e];rfl
theorem ai.ints{S:Sr->Prop}:∀{ns:List Int}{vs:List V},ai C S H (ns.map .int) vs->vs=ns.map V.int
 |[],vs,h=>h
 |n::ns,vs,h=>by
  obtain⟨v,r,rfl,h1,h2⟩:=h;rw[ai.ints h2];have:v=.int n:=h1;rw[this];rfl
theorem gw:∀{us:List U}{ss:List Bool},fc us=RY ss->us=ss.map .bl
 |[],ss,h=>by cases h;rfl
 |.bl x::us,ss,h=>by
  simp only[fc,Si]at h;obtain⟨t,h1,rfl⟩:=h;rw[gw h1];rfl
 |.DR::_,_,h=>by cases h
 |.str _::_,_,h=>by cases h
 |.int _::_,_,h=>by cases h
 |.tup _::_,_,h=>by cases h
 |.lst _::_,_,h=>by cases h
 |.DJ _ _::_,_,h=>by cases h
 |.Ew _::_,_,h=>by cases h
theorem ai.MC{S:Sr->Prop}:∀{xs:List Bool}{vs:List V},ai C S H (xs.map .bl) vs->vs=xs.map V.bl
 |[],vs,h=>h
 |x::xs,vs,h=>by
  obtain⟨v,r,rfl,h1,h2⟩:=h;rw[ai.MC h2];have:v=.bl x:=h1;rw[this];rfl
def Ci(r:kY):U:=.tup [.str r.1,.tup (r.2.map .str)]
theorem jZ(h:rowOf u=RY r):u=Ci r:=by
 unfold rowOf at h;split at h
 ·rw[Si]at h;obtain⟨ss,h1,rfl⟩:=h;rw[bR h1];rfl
 ·cases h
def AJ(X:Cx)(pins:List (Sr×Obj))(c:Cf)(b:Bool)(v:Sb)(s':Sm):Prop:=v=.bool b/\Inv X pins c.σ c.H s'
theorem cR(o:E2 X f r)(I:Inv X pins c.σ c.H s)(rx:RelV vx v)(ry:RelV vy u)(h:r vx vy c.H λx H'=>x=.bl b/\H'=c.H):
  Se (Sw X.prog X.w) X.A (f v u) (AJ X pins c b) X.xe s :=
 DQ (o pins s c.σ c.H vx vy v u _ I rx ry h) λw s' D4=>by
  obtain⟨z,H',I',r,e1,e2⟩:=D4;subst e1 e2;exact⟨r,I'⟩
theorem aH.dict(ok:Ok C c)(h:aH C c0 c k (.DJ ks us) v):∃a kvs,v=.ref a/\c.H a=RY (.dK kvs)/\kvs.map (·.1)=ks.map SN/\ai C (SK C c k) c.H us (kvs.map (·.2)):=by
 cases k with
 |own=>obtain⟨r,e,_,_,_,kvs,h1,h2,h3⟩:=h;exact⟨r,kvs,e,h1,h2,h3⟩
 |bor j=>obtain⟨r,e,_,_,_,kvs,h1,h2,h3⟩:=ok.rootOf h.1 h.2;exact⟨r,kvs,e,h1,h2,h3⟩
 |io=>exact h.elim
 |B'=>exact h.elim
 |_=>obtain⟨a,e,_,kvs,h1,h2,h3⟩:=h;exact⟨a,kvs,e,h1,h2,h3⟩
theorem aH.rO(ok:Ok C c)(h:aH C c0 c k (.Ew ks) v):∃a,v=.ref a/\eM C.P C.w C.K c.H a ks:=by
 cases k with
 |own=>obtain⟨r,e,_,_,_,h⟩:=h;exact⟨r,e,h⟩
 |bor j=>obtain⟨r,e,_,_,_,h⟩:=ok.rootOf h.1 h.2;exact⟨r,e,h⟩
 |io=>exact h.elim
 |B'=>exact h.elim
 |_=>obtain⟨a,e,_,h⟩:=h;exact⟨a,e,h⟩
theorem cC{S:Sr->Prop}:∀{ks:List Str}{us:List U}{kvs:List (Key×V)},kvs.map (·.1)=ks.map SN->ai C S H us (kvs.map (·.2)) ->
  (∀u,cA ks us x=RY u->∃v,cP kvs (SN x)=RY v/\Rep C S H u v)/\(cP kvs (SN x)).isSome=Sa (x∈ks)
 |[],us,kvs,h1,h2=>by
  have:kvs=[]:=by simpa using h1
  subst this;exact⟨λu h=>by cases us<;>simp[cA]at h,by simp[cP]⟩
 |k::ks,us,[],h1,h2=>by simp at h1
 |k::ks,[],p::kvs,h1,h2=>by simp[ai]at h2
 |k::ks,u0::us,p::kvs,h1,h2=>by
  obtain⟨v,r,e,h3,h4⟩:=h2;rw[Sd]at e;cases e;rw[Sd,Sd,UY]at h1;obtain⟨i1,i2⟩:=cC (x:=x) h1.2 h4;by_cases hk:k=x
  ·subst hk;refine⟨λu h=>?_,?_⟩
   ·simp[cA]at h;subst h;exact⟨p.2,dI h1.1,h3⟩
   ·rw[dI h1.1];simp
  ·have hp:¬p.1=SN x:=by rw[h1.1];intro z;exact hk (WJ z)
   refine⟨λu h=>?_,?_⟩
   ·simp[cA,hk]at h;obtain⟨v,e,q⟩:=i1 u h;exact⟨v,by rw[dJ hp];exact e,q⟩
   ·rw[dJ hp,i2];simp[Te hk]
theorem AK(hu:X.A.units+3<Tx):E2 X (Ud .In) (λx y H Q=>∃k d ks,eW X.K H x k/\y=.ref d/\eM X.prog X.w X.K H d ks/\Q (.bl (Sa (k∈ks))) H):=by
 intro pins s σ H x y v u Q I rx ry h;obtain⟨k,d,ks,⟨a,b,rfl,h1,h2⟩,rfl,⟨xs,h3,h4,h5⟩,q⟩:=h;cases rx;cases ry;obtain⟨hd,dd⟩:=jI I h3 h5;refine wpAny_in_heap hu (jj I ⟨a,b,rfl,h1,h2⟩) hd dd ?_;exact⟨.bl (Sa (k∈ks)),H,I.tok _,by rw[gm,h4];rfl,q⟩
theorem Rep.row{S:Sr->Prop}(h:Rep C S H (Ci r) v):eW C.K H v r:=by
 obtain⟨a,vs,e,h1,v1,r1,e1,h2,v2,r2,e2,h3,h4⟩:=h;cases h4;have e3:v1=.str r.1:=h2;obtain⟨b,ws,e4,h5,h6⟩:=h3;rw[ai.strs]at h6;subst e1 e2 e3 e4 h6;exact⟨a,b,e,h1,h5⟩
theorem Rep.lO{S:Sr->Prop}(h:Rep C S H u v):Sa (v=.DR)=lO u:=by
 cases u with
 |DR=>have:v=.DR:=h;subst this;rfl
 |bl b=>have:v=.bl b:=h;subst this;rfl
 |int b=>have:v=.int b:=h;subst this;rfl
 |str b=>have:v=.str b:=h;subst this;rfl
 |DJ ks us=>obtain⟨a,rfl,_⟩:=h;rfl
 |Ew ks=>obtain⟨a,rfl,_⟩:=h;rfl
 |_=>obtain⟨a,vs,rfl,_⟩:=h;rfl
theorem vp:E2 X (Ud .Is) (λx y H Q=>∃i j,x=.bl i/\y=.bl j/\Q (.bl (i==j)) H):=by
 intro pins s σ H x y v u Q I rx ry h;obtain⟨i,j,rfl,rfl,q⟩:=h;cases rx;cases ry;cases i<;>cases j<;>exact R_ (mC I q rfl)
theorem qw:E2 X (Ud .IsNot) (λx y H Q=>∃i j,x=.bl i/\y=.bl j/\Q (.bl (!(i==j))) H):=by
 intro pins s σ H x y v u Q I rx ry h;obtain⟨i,j,rfl,rfl,q⟩:=h;cases rx;cases ry;cases i<;>cases j<;>exact R_ (mC I q rfl)
theorem vq(hP:C.P=X.prog)(hw:C.w=X.w)(hK:C.K=X.K)(hu:X.A.units+60<Tx)(t:J_ C c0 c x y vx vy)(I:Inv X pins c.σ c.H s)(rx:RelV vx v)(ry:RelV vy u)(h:a5 op x.2 y.2=RY b):
  Se (Sw X.prog X.w) X.A (Ud op.op v u) (AJ X pins c b) X.xe s:=by
 obtain⟨hσ,ok,n,tx,ty,_⟩:=t;obtain⟨kx,ux⟩:=x;obtain⟨ky,uy⟩:=y
 dsimp only at h tx ty
 have has:∀neg:Bool,∀b',xV ux uy=RY b'->Se (Sw X.prog X.w) X.A (Ud (if neg then .NotIn else .In) v u) (AJ X pins c (if neg then !b' else b')) X.xe s:=by
  intro neg b' h;have mx:=tx.read ok;have my:=ty.read ok;unfold xV at h;split at h
  ·obtain⟨a,vs,rfl,h1,h2⟩:=my;cases ry;unfold Ir at h;split at h
   ·rename_i hh;cases h;exact Cg I hK hu mx rx h2 (.inl h1.sq) hh.1 hh.2 ⟨by cases neg<;>rfl,I⟩
   ·cases h
  ·obtain⟨a,vs,rfl,h1,h2⟩:=my;cases ry;unfold Ir at h;split at h
   ·rename_i hh;cases h;exact Cg I hK hu mx rx h2 (.inr h1) hh.1 hh.2 ⟨by cases neg<;>rfl,I⟩
   ·cases h
  ·cases h;have ex:vx=_:=mx;obtain⟨a,kvs,rfl,h1,h2,h3⟩:=ty.dict ok;cases ry;subst ex;have hs:=λz:Str=>(cC (x:=z) h2 h3).2;cases neg with
   |false=>exact B9 ⋯ I (c7.k (k:=SN _) h1) rx λs' I'=>⟨by rw[hs];rfl,I'⟩
   |true=>exact rq ⋯ I (c7.k (k:=SN _) h1) rx λs' I'=>⟨by rw[hs];rfl,I'⟩
  ·rw[Si]at h;obtain⟨r,h1,h2⟩:=h;have e:=jZ h1;subst e;have hr:=mx.row;obtain⟨a,ea,h3⟩:=ty.rO ok;rw[hK]at hr h3;rw[hP,hw]at h3;subst h2;cases neg with
   |false=>exact cR (AK ⋯) I rx ry ⟨r,a,_,hr,ea,h3,rfl,rfl⟩
   |true=>exact cR (tv ⋯) I rx ry ⟨r,a,_,hr,ea,h3,rfl,rfl⟩
  ·cases h
 unfold a5 at h;split at h
 ·split at h
  ·rename_i hh;cases h;exact(Ce (n:=50) (.of I hK _ _ _ _ hh.1 (tx.read ok) rx) (.of I hK _ _ _ _ hh.2 (ty.read ok) ry) ⋯).1 _ _ _ _ ⟨rfl,I⟩
  ·cases h
 ·split at h
  ·rename_i hh;cases h;exact(Ce (n:=50) (.of I hK _ _ _ _ hh.1 (tx.read ok) rx) (.of I hK _ _ _ _ hh.2 (ty.read ok) ry) ⋯).2 _ _ _ _ ⟨rfl,I⟩
  ·cases h
 ·cases h;exact cR BV I rx ry ⟨_,_,tx.int ok,ty.int ok,rfl,rfl⟩
 ·cases h;exact cR BW I rx ry ⟨_,_,tx.int ok,ty.int ok,rfl,rfl⟩
 ·cases h;exact cR BX I rx ry ⟨_,_,tx.int ok,ty.int ok,rfl,rfl⟩
 ·exact has R5 b h
 ·rw[Si]at h;obtain⟨b',h1,rfl⟩:=h;exact has R4 b' h1
 ·cases h;have e:=ty.DR ok;exact cR zZ I rx ry ⟨e,by rw[(tx.read ok).lO],rfl⟩
 ·cases h;have e:=ty.DR ok;exact cR xp I rx ry ⟨e,by rw[(tx.read ok).lO],rfl⟩
 ·cases h;exact cR vp I rx ry ⟨_,_,tx.bl ok,ty.bl ok,rfl,rfl⟩
 ·cases h;exact cR qw I rx ry ⟨_,_,tx.bl ok,ty.bl ok,rfl,rfl⟩
 ·cases h
theorem x9(hP:C.P=X.prog)(hw:C.w=X.w)(hK:C.K=X.K)(hu:X.A.units+60<Tx)(ha:PE X a (DP C ma))(hb:PE X b (DP C mb))(hm:US op.op b=R5):
  PE X (.Compare a [op.op] [b] pos) (DP C (ma >>= λx=>mb >>= λy=>av [x,y] >>= λ_=>M.D0 (a5 op x.2 y.2) >>= λc=>pure (.loc,.bl c))):=by
 rintro pins s σ H Q I ⟨c0,rfl,rfl,ok,h⟩;refine Ä (two ha hb I ok h λx y c vx vy v u s2 t I2 rx ry w=>?_) hm;rw[af]at w;obtain⟨r,e,q⟩:=cq.mp w;rw[ah]at q;refine DQ (vq hP hw hK hu t I2 rx ry e) λz s' ⟨e,I'⟩=>?_;subst e;exact⟨.bl r,c.H,by rw[<-t.hσ];exact I',rfl,q c (.bl r) t.hσ rfl t.ok t.nx rfl⟩
theorem x_(hP:C.P=X.prog)(hw:C.w=X.w)(hK:C.K=X.K)(hu:X.A.units+60<Tx)(ha:PE X a (DP C ma))(hb:PE X b (DP C mb))(hm:US op.op b=R5):
  PT X (.Compare a [op.op] [b] pos) (EN C (ma >>= λx=>mb >>= λy=>av [x,y] >>= λ_=>M.D0 (a5 op x.2 y.2))):=by
 rintro pins s σ H Q I ⟨c0,rfl,rfl,ok,h⟩;refine YN (two (f:=λv u=>Ud op.op v u) (Q':=λ_ _ c s=>Se (Sw X.prog X.w) X.A (Zm c) (TP X pins c0.σ Q) X.xe s) ha hb I ok h λx y c vx vy v u s2 t I2 rx ry w=>?_) hm;obtain⟨r,e,q⟩:=cq.mp w;refine DQ (vq hP hw hK hu t I2 rx ry e) λz s' ⟨e,I'⟩=>?_;subst e;exact TC ⟨c.H,by rw[<-t.hσ];exact I',q c t.hσ rfl t.ok t.nx⟩
end
section
def Cj(C:Ct)(c0:Cf)(Q:Bool->Hp->Prop)(b:Bool)(st':aj):Prop:=∀c,c.σ=c0.σ->c.st=st'->Ok C c->Nx c0 c->Q b c.H
theorem vt(hσ:c1.σ=c0.σ)(ok:Ok C c1)(n:Nx c0 c1)(h:W m c1.st (cm C c0 Q)):DP C m c0.σ c1.H Q :=
 ⟨c1,hσ,rfl,ok,h.mono λr st h2 c2 v e3 e4 Ej n2 r2=>h2 c2 v e3 e4 Ej (n.trans n2) (r2.from n)⟩
theorem vv(hσ:c1.σ=c0.σ)(ok:Ok C c1)(n:Nx c0 c1)(h:W m c1.st (Cj C c0 Q)):EN C m c0.σ c1.H Q :=
 ⟨c1,hσ,rfl,ok,h.mono λr st h2 c2 e3 e4 Ej n2=>h2 c2 e3 e4 Ej (n.trans n2)⟩
theorem aO(ok:Ok C c0)(h:W (ma >>= k) c0.st DV)
  (hz:∀x c v,Le C c0 c x v->W (k x) c.st DV->Z v c.H):DP C ma c0.σ c0.H Z:=by
 rw[af]at h;exact⟨c0,rfl,rfl,ok,h.mono λx st1 h1 c1 vx e1 e2 DT n1 r1=>hz x c1 vx ⟨e1,DT,n1,r1⟩ (by rw[e2];exact h1)⟩
theorem fh(ok:Ok C c0)(h:W (ta >>= k) c0.st DV)
  (hz:∀b c,c.σ=c0.σ->Ok C c->Nx c0 c->W (k b) c.st DV->Z b c.H):EN C ta c0.σ c0.H Z:=by
 rw[af]at h;exact⟨c0,rfl,rfl,ok,h.mono λx st1 h1 c1 e1 e2 DT n1=>hz x c1 e1 DT n1 (by rw[e2];exact h1)⟩
def Cm(m:M (Kd×U))(x:Kd×U):M (Kd×U):=match x.2 with
 |.bl R4=>m
 |.bl R5=>pure (.loc,.bl R5)
 |_=>M.fail
def N_(m:M (Kd×U))(x:Kd×U):M (Kd×U):=match x.2 with
 |.bl R4=>pure (.loc,.bl R4)
 |.bl R5=>m
 |_=>M.fail
def Cn(x:Kd×U):M (Kd×U):=match x.2 with
 |.bl c=>pure (.loc,.bl !c)
 |_=>M.fail
theorem snd_and(ha:PE X a (DP C ma))(hb:PE X (.BoolOp .And (b::rest) pos) (DP C mb)):PE X (.BoolOp .And (a::b::rest) pos) (DP C (ma >>= Cm mb)):=by
 refine PE.weak (zL ha hb) ?_;rintro σ H Q ⟨c0,rfl,rfl,ok,h⟩;refine aO ok h λx c v t w=>?_;obtain⟨k,u⟩:=x;obtain⟨hσ,DT,n,r⟩:=t;unfold Cm at w;split at w
 ·rename_i e
  dsimp only at e r
  subst e;exact⟨R4,r.bl DT,by rw[Ú rfl];exact vt hσ DT n w⟩
 ·rename_i e
  dsimp only at e r
  subst e;rw[ah]at w;exact⟨R5,r.bl DT,by rw[Ü S6];exact w c (.bl R5) hσ rfl DT n rfl⟩
 ·exact(az.mp w).elim
theorem AL(ha:PE X a (DP C ma))(hb:PE X (.BoolOp .Or (b::rest) pos) (DP C mb)):PE X (.BoolOp .Or (a::b::rest) pos) (DP C (ma >>= N_ mb)):=by
 refine PE.weak (BI ha hb) ?_;rintro σ H Q ⟨c0,rfl,rfl,ok,h⟩;refine aO ok h λx c v t w=>?_;obtain⟨k,u⟩:=x;obtain⟨hσ,DT,n,r⟩:=t;unfold N_ at w;split at w
 ·rename_i e
  dsimp only at e r
  subst e;rw[ah]at w;exact⟨R4,r.bl DT,by rw[Ú rfl];exact w c (.bl R4) hσ rfl DT n rfl⟩
 ·rename_i e
  dsimp only at e r
  subst e;exact⟨R5,r.bl DT,by rw[Ü S6];exact vt hσ DT n w⟩
 ·exact(az.mp w).elim
theorem ya(ha:PE X a (DP C ma)):PE X (.UnaryOp .Not a pos) (DP C (ma >>= Cn)):=by
 refine PE.weak (zM ha) ?_;rintro σ H Q ⟨c0,rfl,rfl,ok,h⟩;refine aO ok h λx c v t w=>?_;obtain⟨k,u⟩:=x;obtain⟨hσ,DT,n,r⟩:=t;unfold Cn at w;split at w
 ·rename_i e
  dsimp only at e r
  subst e;rw[ah]at w;exact⟨_,r.bl DT,w c (.bl _) hσ rfl DT n rfl⟩
 ·exact(az.mp w).elim
theorem yc(ha:PT X a (EN C ta)):PT X (.UnaryOp .Not a pos) (EN C (ta >>= λb=>pure !b)):=by
 refine PT.weak (zK ha) ?_;rintro σ H Q ⟨c0,rfl,rfl,ok,h⟩;refine fh ok h λp c hσ DT n w=>?_;rw[ah]at w;exact w c hσ rfl DT n
theorem yd(ha:PT X a (EN C ta))(hb:PW X (.BoolOp .And (b::rest) pos) (EN C tb)):PW X (.BoolOp .And (a::b::rest) pos) (EN C (ta >>= λp=>if p=R4 then tb else pure R5)):=by
 have h0:=zJ ha hb;rintro wh pins s σ H Q I ⟨c0,rfl,rfl,ok,h⟩;refine h0 wh pins s c0.σ c0.H Q I (fh ok h λp c hσ DT n w=>?_);cases p with
 |true=>rw[Ú rfl]at w ⊢;exact vv hσ DT n w
 |false=>rw[Ü S6]at w ⊢;rw[ah]at w;exact w c hσ rfl DT n
theorem AM(ha:PT X a (EN C ta))(hb:PW X (.BoolOp .Or (b::rest) pos) (EN C tb)):PW X (.BoolOp .Or (a::b::rest) pos) (EN C (ta >>= λp=>if p=R4 then pure R4 else tb)):=by
 have h0:=BF ha hb;rintro wh pins s σ H Q I ⟨c0,rfl,rfl,ok,h⟩;refine h0 wh pins s c0.σ c0.H Q I (fh ok h λp c hσ DT n w=>?_);cases p with
 |true=>rw[Ú rfl]at w ⊢;rw[ah]at w;exact w c hσ rfl DT n
 |false=>rw[Ü S6]at w ⊢;exact vv hσ DT n w
theorem rT{us:List α}{vs:List β}(h:us.length=vs.length):(!us.isEmpty)=!vs.isEmpty:=by
 cases us<;>cases vs<;>simp_all
theorem d6(ha:PE X a (DP C ma))(hK:C.K=X.K)(he:∀whole,isTrue a X.env whole=(do let v <-whole;Xd a.pos;Up [v] (Zm v))):PT X a (EN C (ma >>= λx=>M.D0 (lh x.2))):=by
 refine PT.weak (uL ha he) ?_;rintro σ H Q ⟨c0,rfl,rfl,ok,h⟩;refine aO ok h λx c v t w=>?_;obtain⟨k,u⟩:=x;obtain⟨hσ,DT,n,r⟩:=t;obtain⟨p,e,q⟩:=cq.mp w
 dsimp only at e r
 refine⟨p,?_,q c hσ rfl DT n⟩;unfold lh at e;split at e
 ·cases e;rw[r.bl DT];rfl
 ·cases e;obtain⟨a,vs,rfl,h1,h2⟩:=r.list DT;exact .inl ⟨vs,hK▸h1,rT h2.len⟩
 ·cases e;obtain⟨a,vs,rfl,h1,h2⟩:=r.tuple DT;rw[hK]at h1;exact .inr (.inl ⟨vs,h1,rT h2.len⟩)
 ·split at e
  ·cases e;rw[r.str DT];exact⟨by assumption,rfl⟩
  ·cases e
 ·cases e
end
section
theorem da.from(n:Nx c0 c1):da C c1 c rs vs->da C c0 c rs vs:=by
 intro h;induction rs generalizing vs with
 |nil=>exact h
 |cons r rs ih=>obtain⟨v,t,e,h1,h2,h3⟩:=h;exact⟨v,t,e,h1.from n,ih h2,h3⟩
theorem da.get{i:Nat}(h:da C c0 c rs vs)(e:rs[i]?=RY r)(e':vs[i]?=RY v):fb C c0 c r.1 r.2 v:=by
 induction rs generalizing vs i with
 |nil=>simp at e
 |cons r' rs ih =>
  obtain⟨v',t,rfl,h1,h2,h3⟩:=h;cases i with
  |zero=>simp at e e';subst e e';exact h1
  |succ i=>exact ih h2 (by simpa using e) (by simpa using e')
theorem ye:PA X [] (EZ C (pure [])):=by
 rintro pos pins s σ H Q I ⟨c0,rfl,rfl,ok,h⟩;rw[ah]at h;exact mE pos pins s c0.σ c0.H Q I (h c0 [] rfl rfl ok (Nx.refl c0) rfl)
theorem vA(ha:PE X e (DP C m))(hr:PA X es (EZ C ms))(hs:SJ (e::es) X.env=(R5,T2 e X.env)::SJ es X.env):PA X (e::es) (EZ C (m >>= λr=>ms >>= λrs=>pure (r::rs))):=by
 rintro pos pins s σ H Q I ⟨c0,rfl,rfl,ok,h⟩;refine ji ha hr hs pos pins s c0.σ c0.H Q I (aO ok h λr c1 v t w=>?_);rw[af]at w;refine⟨c1,t.hσ,rfl,t.ok,w.mono λrs st2 h2 c2 vs e3 e4 Ej n2 r2=>?_⟩;rw[ah]at h2;refine h2 c2 (v::vs) e3 e4 Ej (t.nx.trans n2) ⟨v,vs,rfl,t.rx.w.on t.ok n2 (e3.trans t.hσ.symm),r2.from t.nx,λhk i r' v' e5 e6 EF=>?_⟩;exact m8 t.rx.w (r2.get e5 e6) hk EF
structure F'(C:Ct)(c0 c:Cf)(rs:List (Kd×U))(vs:List V):Prop where
 hσ:c.σ=c0.σ
 ok:Ok C c
 nx:Nx c0 c
 rep:da C c0 c rs vs
 HI:bc rs c.st
theorem args{k:List (Kd×U)->M β}{DV:β->aj->Prop}(ha:PA X es (EZ C ms))(I:Inv X pins c0.σ c0.H s)(ok:Ok C c0)(h:W (ms >>= λrs=>av rs >>= λ_=>k rs) c0.st DV)(pos:Pos):
  Se (Sw X.prog X.w) X.A (ZA (Uk pos (SJ es X.env))) (λus s1=>∃rs c vs,F' C c0 c rs vs/\Inv X pins c.σ c.H s1/\Vals vs us/\W (k rs) c.st DV) X.xe s:=by
 rw[af]at h;refine DQ (ha pos pins s c0.σ c0.H (λvs H1=>∃rs c,c.H=H1/\F' C c0 c rs vs/\W (k rs) c.st DV) I ⟨c0,rfl,rfl,ok,h.mono λrs st1 h1 c1 vs e1 e2 DT n1 r1=>?_⟩) ?_
 ·rw[af,cf]at h1;subst e2;exact⟨rs,c1,rfl,⟨e1,DT,n1,r1,h1.1⟩,h1.2⟩
 ·rintro us s1 ⟨vs,H1,I1,rv,rs,c1,rfl,t,w⟩;exact⟨rs,c1,vs,t,by rw[t.hσ];exact I1,rv,w⟩
theorem F'.one(t:F' C c0 c [r] vs):∃v,vs=[v]/\aH C c0 c r.1 r.2 v:=by
 obtain⟨v,t',rfl,h1,h2,_⟩:=t.rep;cases h2;exact⟨v,rfl,h1.t t.HI⟩
theorem F'.two(t:F' C c0 c [r,r'] vs):∃v v',vs=[v,v']/\aH C c0 c r.1 r.2 v/\aH C c0 c r'.1 r'.2 v':=by
 obtain⟨v,t',rfl,h1,⟨v',RH,rfl,h2,h3,_⟩,_⟩:=t.rep;cases h3;have hs:=fE.mp t.HI;exact⟨v,v',rfl,h1.t hs.1,h2.t hs.2⟩
theorem Ok.share(ok:Ok C c)(h0:C.H₀ r=R3)(hH:∃o,c.H r=RY o)(hl:st'.length=c.st.length)
  (DS:∀(i:Nat) k u,st'[i]?=RY (RY (k,u))->(∃v,c.σ[i]?=RY (RY v)/\e_ C (λa=>c.S a\/a=r) c.H k u v)/\(k.root=R4->c.st[i]?=RY (RY (k,u)))) (Hs:Gk C {c with S:=λa=>c.S a\/a=r,st:=st' }) :
  Ok C {c with S:=λa=>c.S a\/a=r,st:=st' }:=by
 refine⟨ok.same,λa z=>?_,ok.par,ok.io,by rw[show({c with S:=λa=>c.S a\/a=r,st:=st' }:Cf).st.length=st'.length from rfl,hl];exact ok.len,λi k u e=>(DS i k u e).1,λi j k k' u u' r' hk EF e1 e2 e3 e4=>?_,Hs⟩
 ·rcases z with z|rfl
  ·exact ok.FC a z
  ·exact⟨h0,hH⟩
 ·exact ok.inj i j k k' u u' r' hk EF ((DS i k u e1).2 hk) ((DS j k' u' e2).2 EF) e3 e4
theorem Ok.AN(EV:Ok C c0)(ok:Ok C c)(n:Nx c0 c)(h0:c0.H r=R3)(hR:¬c.R r)(hr:c_ C c.S c.H r u):
  Ok C {c with S:=λa=>c.S a\/a=r}/\Nx c0 {c with S:=λa=>c.S a\/a=r}:=by
 obtain⟨o,ho,_⟩:=hr.some;refine⟨ok.share (st':=c.st) (EV.la h0).1 ⟨o,ho⟩ rfl (λi k u e=>⟨?_,λ_=>e⟩) (ok.dd.hs (.up λa=>.inl) λj a z=>⟨λq=>q.elim (ok.root (.inr ⟨j,z⟩)).1 λe=>hR (.inr ⟨j,e▸z⟩),λo q=>q⟩),⟨⟨n.keep,n.there,n.roots,λa z=>.inl (n.sub a z),λa z=>?_⟩,n.all⟩⟩
 ·obtain⟨v,e1,e2⟩:=ok.sl i k u e;have Qj:Mv c.S c.H (λa=>c.S a\/a=r) c.H:=.up λa=>.inl;refine⟨v,e1,e2.mv Qj (.up λa z=>z.imp id .inl) λhk r' er=>⟨?_,λo q=>q⟩⟩;obtain⟨Lf,E5,q1,_⟩:=e2.rt hk;rw[er]at E5;cases E5;rintro(z|rfl)
  ·exact q1 z
  ·exact hR (.inl ⟨i,k,u,hk,e,by rw[e1,er]⟩)
 ·rcases z with z|rfl
  ·exact n.new a z
  ·exact .inr (.inr h0)
theorem Ok.vB(ok:Ok C c)(n:Nx c0 c)(hj:c.st[j]?=RY (RY (.own,u)))(hv:c.σ[j]?=RY (RY (.ref r))):
  Ok C {c with S:=λa=>c.S a\/a=r,st:=c.st.set j (RY (.loc,u))}/\Nx c0 {c with S:=λa=>c.S a\/a=r,st:=c.st.set j (RY (.loc,u))}/\Rep C (λa=>c.S a\/a=r) c.H u (.ref r):=by
 obtain⟨v',e1,r',er,q1,q2,q3,q4⟩:=ok.sl j _ _ hj;rw[hv]at e1;cases e1;cases er;have Fv:Rep C (λa=>c.S a\/a=r) c.H u (.ref r):=q4.rep (λa=>.inl) (.inr rfl);obtain⟨o,ho,_⟩:=q4.some;have Ga:j<c.st.length:=(Sf.mp hj).1;have Ee:∀(i:Nat) k u',(c.st.set j (RY (.loc,u)))[i]?=RY (RY (k,u'))->i≠j->c.st[i]?=RY (RY (k,u')):=λi k u' e ne=>by rw[SG (Te ne)]at e;exact e
 have G2:c.R1 r:=⟨j,.own,u,rfl,hj,hv⟩
 have dD:∀(i:Nat) (u':U),(c.st.set j (RY (.loc,u)))[i]?=RY (RY (.B',u'))->c.st[i]?=RY (RY (.B',u')):=λi u' e=>by
  by_cases E4:i=j
  ·subst E4;rw[Sk Ga]at e;cases e
  ·exact Ee i .B' u' e E4
 have b1:∀a,({c with S:=λa=>c.S a\/a=r,st:=c.st.set j (RY (.loc,u))}:Cf).R1 a->c.R1 a:=λa D4=>by
  obtain⟨i,k,u',hk,e,e'⟩:=D4;by_cases E4:i=j
  ·subst E4;rw[Sk Ga]at e;cases e;cases hk
  ·exact⟨i,k,u',hk,Ee i k u' e E4,e'⟩
 have Hs:Gk C {c with S:=λa=>c.S a\/a=r,st:=c.st.set j (RY (.loc,u))}:=ok.dd.of rfl (λi u' e=>⟨dD i u' e,rfl⟩) (λa z=>.inl (b1 a z)) (.up λa=>.inl) λi a z=>⟨λq=>q.elim (ok.root (.inr ⟨i,z⟩)).1 λe=>ok.dd.d1 i a z (e▸G2),λo q=>q⟩
 refine⟨ok.share (st':=c.st.set j (RY (.loc,u))) q3 ⟨o,ho⟩ (by simp) (λi k u' e=>?_) Hs,⟨⟨n.keep,n.there,λa z=>?_,λa z=>.inl (n.sub a z),λa z=>?_⟩,n.all⟩,Fv⟩
 ·by_cases E4:i=j
  ·subst E4;rw[Sk Ga]at e;cases e;exact⟨⟨.ref r,hv,Fv⟩,λz=>nomatch z⟩
  ·have e0:=Ee i k u' e E4;obtain⟨v,e1,e2⟩:=ok.sl i k u' e0;refine⟨⟨v,e1,e2.mv (.up λa=>.inl) (.up λa z=>z.imp id .inl) λhk r' er=>⟨?_,λo q=>q⟩⟩,λ_=>e0⟩;obtain⟨Lf,E5,p1,_⟩:=e2.rt hk;rw[er]at E5;cases E5;rintro(z|rfl)
   ·exact p1 z
   ·exact E4 (ok.inj i j k .own u' u r' hk rfl e0 hj (by rw[e1,er]) hv)
 ·rcases z with z|⟨i,u',r',e1,e2,e3⟩
  ·exact n.roots a (.inl (b1 a z))
  ·exact n.roots a (.inr ⟨i,u',r',dD i u' e1,e2,e3⟩)
 ·rcases z with z|rfl
  ·exact n.new a z
  ·rcases n.roots a (.inl ⟨j,.own,u,rfl,hj,hv⟩) with z|z
   ·exact .inr (.inl z)
   ·exact .inr (.inr z)
theorem gV(EV:Ok C c0)(ok:Ok C c)(n:Nx c0 c)(hr:fb C c0 c r.1 r.2 v)(h:W (lift r) c.st DV):
  ∃(S':Sr->Prop) (st':aj) (u:U),(∀a,c.S a->S' a)/\Ok C {c with S:=S',st:=st' }/\Nx c0 {c with S:=S',st:=st' }/\Rep C S' c.H u v/\DV u st' /\
   (∀a,S' a->c.S a\/v=.ref a/\(r.1=.own\/c.R a))/\∀a,({c with S:=S',st:=st' }:Cf).R a->c.R a:=by
 obtain⟨k,u⟩:=r;cases k with
 |own =>
  rw[show lift (.own,u)=pure u from rfl,ah]at h;obtain⟨r,e,h1,h2,h3,h4⟩:=hr;obtain⟨DZ,n'⟩:=Ok.AN EV ok n h1 h3 h4;refine⟨_,c.st,u,λa=>.inl,DZ,n',by rw[e];exact h4.rep (λa=>.inl) (.inr rfl),h,λa z=>?_,λa z=>z⟩;rcases z with z|rfl
  ·exact .inl z
  ·exact .inr ⟨e,.inl rfl⟩
 |loc =>
  rw[show lift (.loc,u)=pure u from rfl,ah]at h;exact⟨c.S,c.st,u,λa=>id,ok,n,hr,h,λa z=>.inl z,λa z=>z⟩
 |any =>
  rw[show lift (.any,u)=if D' u=R4 then pure u else M.fail from rfl]at h;split at h
  ·rw[ah]at h;exact⟨c.S,c.st,u,λa=>id,ok,n,Rep.D' (by assumption) hr,h,λa z=>.inl z,λa z=>z⟩
  ·exact(az.mp h).elim
 |bor j =>
  obtain⟨x,st',e,hp⟩:=h;rw[show lift (.bor j,u) c.st=match c.st[j]? with|some (RY (.own,u))=>RY (Ex.ok u,c.st.set j (RY (.loc,u)))|_=>R3 from rfl]at e;split at e
  ·rename_i w hj;cases e;obtain⟨v',e1,r,er,_⟩:=ok.sl j _ _ hj;have hv:c.σ[j]?=RY (RY v):=hr;rw[hv]at e1;cases e1;subst er;obtain⟨DZ,n',rep⟩:=ok.vB n hj hv;refine⟨_,_,_,λa=>.inl,DZ,n',rep,hp,λa z=>?_,λa z=>?_⟩
   ·rcases z with z|rfl
    ·exact .inl z
    ·exact .inr ⟨rfl,.inr (.inl ⟨j,.own,_,rfl,hj,hv⟩)⟩
   ·rcases z with⟨i,k,u',hk,e,e'⟩|⟨i,u',r',e,e',Qk⟩
    rotate_left 1
    ·by_cases E4:i=j
     ·subst E4;have Ga:i<c.st.length:=(Sf.mp hj).1;rw[Sk Ga]at e;cases e
     ·rw[SG (Te E4)]at e;exact .inr ⟨i,u',r',e,e',Qk⟩
    by_cases E4:i=j
    ·subst E4;have Ga:i<c.st.length:=(Sf.mp hj).1;rw[Sk Ga]at e;cases e;cases hk
    ·rw[SG (Te E4)]at e;exact .inl ⟨i,k,u',hk,e,e'⟩
  ·cases e
 |_=>exact hr.elim
theorem gW:∀{rs:List (Kd×U)}{vs:List V}{c:Cf}{DV:List U->aj->Prop},Ok C c0->Ok C c->Nx c0 c->da C c0 c rs vs->W (cH rs) c.st DV ->
  ∃(S':Sr->Prop) (st':aj) (us:List U),(∀a,c.S a->S' a)/\Ok C {c with S:=S',st:=st' }/\Nx c0 {c with S:=S',st:=st' }/\ai C S' c.H us vs/\DV us st'
 |[],vs,c,DV,EV,ok,n,hr,h=>by
  rw[show cH []=pure [] from rfl,ah]at h;exact⟨c.S,c.st,[],λa=>id,ok,n,hr,h⟩
 |r::rs,vs,c,DV,EV,ok,n,hr,h=>by
  obtain⟨v,t,rfl,h1,h2,h3⟩:=hr;rw[show cH (r::rs)=lift r >>= λu=>cH rs >>= λus=>pure (u::us) from rfl,af]at h;obtain⟨S1,st1,u,s1,DT,n1,rep1,h4,Jd,G2⟩:=gV EV ok n h1 h;rw[af]at h4;have J':da C c0 {c with S:=S1,st:=st1} rs t:=by
   clear h h4;have aux:∀(l:List (Kd×U)) (w:List V),da C c0 c l w->(r.1=.own->∀(i:Nat) r' v',l[i]?=RY r'->w[i]?=RY v'->r'.1=.own->v'≠v)->da C c0 {c with S:=S1,st:=st1} l w:=by
    intro l;induction l with
    |nil=>intro w q _;exact q
    |cons r2 l ih =>
     intro w q Ez;obtain⟨v2,t2,rfl,q1,q2,q3⟩:=q;refine⟨v2,t2,rfl,?_,ih t2 q2 (λhk i r' v' e1 e2 EF=>Ez hk (i+1) r' v' (by simpa using e1) (by simpa using e2) EF),q3⟩;obtain⟨k2,u2⟩:=r2;cases k2 with
     |own =>
      obtain⟨a,e,p1,p2,p3,p4⟩:=q1;refine⟨a,e,p1,λz=>?_,λz=>p3 (G2 a z),p4.mv (.up s1) λo q=>q⟩;rcases Jd a z with z|⟨z,z'|z'⟩
      ·exact p2 z
      ·exact Ez z' 0 _ v2 rfl rfl rfl (e.trans z.symm)
      ·exact p3 z'
     |loc=>exact Rep.mv (.up s1) q1
     |any=>exact Rep.mv (.up λa z=>z.imp id (s1 a)) q1
     |_=>exact q1
   exact aux rs t h2 h3
  obtain⟨S2,st2,us,s2,Ej,n2,rep2,h5⟩:=gW (c:={c with S:=S1,st:=st1}) EV DT n1 J' h4;rw[ah]at h5;exact⟨S2,st2,u::us,λa z=>s2 a (s1 a z),Ej,n2,⟨v,t,rfl,rep1.mv (.up s2),rep2⟩,h5⟩
theorem yf(ha:PA X es (EZ C ms)):PE X (.Tuple es x1 pos) (DP C (ms >>= λrs=>av rs >>= λ_=>cH rs >>= λus=>if us.length<=R6 then pure (.loc,.tup us) else M.fail)):=by
 rintro pins s σ H Q I ⟨c0,rfl,rfl,ok,h⟩;refine wpAny_Tuple_spliced (DQ (args ha I ok h pos) λus s1 ⟨rs,c,vs,t,I1,rv,w⟩=>?_);rw[af]at w;obtain⟨S',st',ws,Ql,DT,n1,rep,w1⟩:=gW ok t.ok t.nx t.rep w;split at w1
 ·rename_i hz;rw[ah]at w1;have hl:vs.length<=R6:=by rw[<-rep.len];exact hz
  refine⟨by rw[<-rv.length];exact hl,?_⟩;have hf:c.H s1.heap.objs.size=R3:=I1.DN.fresh (Sv _);have I2:Inv X pins c0.σ c.H s1:=by rw[<-t.hσ];exact I1
  refine⟨.ref s1.heap.objs.size,upd c.H s1.heap.objs.size (.tup vs),I2.laid (t':=s1.toks) (λb u e=>R8 _ e) (Sv _) ⟨hl,us,rv,YH _ _⟩,rfl,?_⟩;exact cm.tup (c:={c with S:=S',st:=st' }) w1 t.hσ DT n1 rep _ hf
 ·exact(az.mp w1).elim
theorem yg(ha:PA X es (EZ C ms)):PE X (.List es pos) (DP C (ms >>= λrs=>av rs >>= λ_=>cH rs >>= λus=>if us.length<=R6 then pure (.own,.lst us) else M.fail)):=by
 rintro pins s σ H Q I ⟨c0,rfl,rfl,ok,h⟩;refine wpAny_List_spliced (DQ (args ha I ok h pos) λus s1 ⟨rs,c,vs,t,I1,rv,w⟩=>?_);rw[af]at w;obtain⟨S',st',ws,Ql,DT,n1,rep,w1⟩:=gW ok t.ok t.nx t.rep w;split at w1
 ·rename_i hz;rw[ah]at w1;have hl:vs.length<=R6:=by rw[<-rep.len];exact hz
  refine⟨by rw[<-rv.length];exact hl,?_⟩;have hf:c.H s1.heap.objs.size=R3:=I1.DN.fresh (Sv _);have I2:Inv X pins c0.σ c.H s1:=by rw[<-t.hσ];exact I1
  refine⟨.ref s1.heap.objs.size,upd c.H s1.heap.objs.size (.lst vs),I2.laid (t':=s1.toks) (λb u e=>R8 _ e) (Sv _) ⟨hl,us,0,rv,Sj _ rfl⟩,rfl,?_⟩;exact cm.list (c:={c with S:=S',st:=st' }) w1 t.hσ DT n1 rep _ hf
 ·exact(az.mp w1).elim
end
section
theorem m9(hN:X.N[i]?=RY x)(hv:FE X.env.scope x)(hd:(x==("__debug__":Str))=R5)(En:(x==("__classdict__":Str))=R5):PE X (.Name x pos) (DP C (dk i)):=by
 refine PE.weak (cw hN hv hd En) ?_;rintro σ H Q ⟨c0,rfl,rfl,ok,r,st',e,h⟩;unfold dk at e;split at e
 ·cases e
 ·rename_i k u MD hs;cases e;obtain⟨v,e1,e2⟩:=ok.sl i k u hs;refine⟨v,e1,h c0 v rfl rfl ok (Nx.refl c0) ?_⟩;by_cases hk:k.root=R4
  ·rw[Ú hk];exact⟨⟨k,hk,hs⟩,e1⟩
  ·rw[Ü hk];cases k with
   |loc=>exact e2
   |any=>exact e2
   |bor j=>exact e2.elim
   |B'=>exact(MD rfl).elim
   |_=>exact absurd rfl hk
 ·cases e
theorem fF(h:PE X e (tC v))(r:∀S H,Rep C S H u v):PE X e (DP C (pure (.loc,u))):=by
 refine PE.weak h ?_;rintro σ H Q ⟨c0,rfl,rfl,ok,h⟩;rw[ah]at h;exact h c0 v rfl rfl ok (Nx.refl c0) (r _ _)
theorem cm.root(h:cm C c0 Q (.own,u) c.st)(hσ:c.σ=c0.σ)(ok:Ok C c)(n:Nx c0 c)(p:Sr)(hp:c.H p=R3)(r:c_ C c.S (upd c.H p o) p u):Q (.ref p) (upd c.H p o):=by
 obtain⟨DZ,n'⟩:=ok.lay (o:=o) hp;obtain⟨h0,h1,h2,h3,h4⟩:=ok.la hp;exact h {c with H:=upd c.H p o} _ hσ rfl DZ (n.trans n') ⟨p,rfl,n.none hp,h1,h4,r⟩
theorem vC(hP:C.P=X.prog)(hw:C.w=X.w)(r:Bool):PE X (.Dict [] [] pos) (DP C (pure (.own,if r=R4 then .Ew [] else .DJ [] []))):=by
 cases r with
 |false =>
  refine PE.weak oo ?_;rintro σ H Q ⟨c0,rfl,rfl,ok,h⟩ p hp;rw[ah,Ü S6]at h;exact cm.root h rfl ok (Nx.refl c0) p hp ⟨[],au,rfl,rfl⟩
 |true =>
  refine PE.weak xI ?_;rintro σ H Q ⟨c0,rfl,rfl,ok,h⟩ p hp;rw[ah,Ú rfl]at h;refine cm.root h rfl ok (Nx.refl c0) p hp ⟨[],?_,rfl,λx hx=>by cases hx⟩;rw[hP,hw];exact au
theorem ai.D8{S:Sr->Prop}(h:ai C S H us vs)(e:D8 us i=RY u):∃v,L2.D8 vs i=RY v/\Rep C S H u v:=by
 unfold L2.D8 at e ⊢;rw[h.len]at e;cases q:Gx vs.length i with
 |none=>rw[q]at e;cases e
 |some j =>
  rw[q]at e;exact h.get e
theorem AO(hK:C.K=X.K)(hu:X.A.units+60<Tx)(hs:mG b)(t:J_ C c0 c x y vx vy)(I:Inv X pins c.σ c.H s)(rx:RelV vx v)(ry:RelV vy u)(h:fe x y.2=RY r)(q:cm C c0 Q r c.st):
  Se (Sw X.prog X.w) X.A (W3 a b v u) (EP X pins c.σ Q) X.xe s:=by
 obtain⟨hσ,ok,n,tx,ty,-⟩:=t;obtain⟨ky,uy⟩:=y
 dsimp only at h ty
 unfold fe at h;split at h
 ·rename_i k xs i;rw[Si]at h;obtain⟨w,e,rfl⟩:=h;obtain⟨a',vs,ex,h1,h2⟩:=tx.list ok;obtain⟨vw,e1,e2⟩:=h2.D8 e;exact xv a b pins s c.σ c.H vx vy v u Q I rx ry ⟨a',vs,i,vw,ex,ty.int ok,hK▸h1,e1,q c vw hσ rfl ok n (aH.item e2)⟩ (hs _ _)
 ·rename_i k xs i;rw[Si]at h;obtain⟨w,e,rfl⟩:=h;obtain⟨a',vs,ex,h1,h2⟩:=tx.tuple ok;obtain⟨vw,e1,e2⟩:=h2.D8 e;rw[hK]at h1;exact mH a b pins s c.σ c.H vx vy v u Q I rx ry ⟨a',vs,i,vw,ex,ty.int ok,h1,e1,q c vw hσ rfl ok n (aH.item e2)⟩ (hs _ _)
 ·split at h
  ·rw[Si]at h;obtain⟨w,e,rfl⟩:=h;exact jC a b pins s c.σ c.H vx vy v u Q I rx ry ⟨_,_,w,tx.str ok,ty.int ok,by assumption,e,q c _ hσ rfl ok n rfl⟩ (hs _ _)
  ·cases h
 ·rename_i k ks us x;rw[Si]at h;obtain⟨w,e,rfl⟩:=h;obtain⟨a',kvs,ex,h1,h2,h3⟩:=tx.dict ok;obtain⟨vw,e1,e2⟩:=(cC (x:=x) h2 h3).1 w e;have ey:=ty.str ok;subst ex ey;cases rx;have g:c7 c.H a' (.str x) (RY vw):=by rw[<-e1];exact c7.k (k:=SN x) h1
  exact Ñ (ops:=[.ref a',u]) (iI I g) PySem.F.slot_dict_getitem.lookup (lH ⋯ I g ry λw' s3 I3 FF=>⟨vw,c.H,I3,FF,q c vw hσ rfl ok n (aH.item e2)⟩) (hs _ _)
 ·cases h
theorem rU(hK:C.K=X.K)(hu:X.A.units+60<Tx)(hs:mG b)(ha:PE X a (DP C ma))(hb:PE X b (DP C mb)):PE X (.Subscript a b pos) (DP C (ma >>= λx=>mb >>= λy=>av [x,y] >>= λ_=>M.D0 (fe x y.2))):=by
 rintro pins s σ H Q I ⟨c0,rfl,rfl,ok,h⟩;refine Zt (two ha hb I ok h λx y c vx vy v u s2 t I2 rx ry w=>?_);obtain⟨r,e,q⟩:=cq.mp w;exact DQ (AO hK hu hs t I2 rx ry e q) λ_ _ z=>by rw[t.hσ]at z;exact z
theorem ai.cut{S:Sr->Prop}(h:ai C S H us vs)(lo hi:Option Int):ai C S H (TM.cut us lo hi) (oj vs lo hi):=by
 unfold TM.cut oj;rw[h.len];exact(h.drop _).take _
theorem tQ{lo hi:Option Int}(h:HT.DU xs.length 0 lo=0/\HT.DU xs.length xs.length hi=xs.length):cut xs lo hi=xs:=by
 unfold cut;rw[h.1,h.2];simp
end
section
variable{prog:Tu}{w:T1}{A:UT}{E:Sb->Sm->Prop}{s:Sm}
theorem fT{lo hi:Option Int}(ht:Ù s.heap t items)(hs:s.heap.IsSliceOf sl vl vu .none)(pl:WG vl lo)(pu:WG vu hi)
  (hw:HT.DU items.size 0 lo=0/\HT.DU items.size items.size hi=items.size) (h:Q (.ref t) s):Se (Sw prog w) A (VO (.ref t) (.ref sl)) Q E s:=by
 obtain⟨os,Gw,KO,JE⟩:=id hs;have LQ:s.TypeIs (.ref sl) "slice":=⟨os,Gw,KO⟩
 unfold VO
 try with_reducible refine Tj ?_
 first|refine RZ (R_ ?_)|skip
 refine RZ (Zx ht.typeIs (by decide) ?_);refine RZ (Uc (name:=Vf "__getitem__") ht.typeIs Tg
  (Ts Tg ht.typeIs Zb ?_ (Zs _ _)))
 show Se _ _ (Vk (.ref t) >>= _) _ _ s;refine RZ (tupleItemsOf_ ht ?_);refine RZ (U7 LQ ?_);rw[Ú (by decide)];refine RZ (HT.dH hs pl pu ?_);have ME:(((HT.DU items.size 0 lo:Nat):Int)==0&&(1:Int)==1&&(HT.DU items.size items.size hi - HT.DU items.size 0 lo)==items.size)=R4:=by
  rw[hw.1,hw.2];simp
 show Se _ _ (if (((HT.DU items.size 0 lo:Nat):Int)==0&&(1:Int)==1&&(HT.DU items.size items.size hi - HT.DU items.size 0 lo)==items.size)=R4 then _ else _) _ _ s;rw[Ú ME];show Se (Sw prog w) A.in1 ((Å (SD t) >>= λx=>pure (x==.type "tuple")) >>= _) _ _ s;refine RZ (RZ (U7 ht.typeIs (R_ ?_)));rw[Ú (by decide)];exact RZ (UJ (R_ ⟨_,rfl,R_ h⟩))
end
section
variable{X:Cx}{C:Ct}{pins:List (Sr×Obj)}{s:Sm}{c0 c c1:Cf}
variable{a b d e:Td}{es:List Td}{m ma mb md:M (Kd×U)}{ms:M (List (Kd×U))}{ta tb:M Bool}{pos p p2:Pos}
theorem yh:GZ X (λx lo hi H Q=>∃a xs,x=.ref a/\Ef X.K H a xs/\(HT.DU xs.length 0 lo=0/\HT.DU xs.length xs.length hi=xs.length)/\Q (.ref a) H):=by
 intro pins s σ H x v vl vu lo hi sl Q I rx hs pl pu h;obtain⟨a,xs,rfl,hx,hw,q⟩:=h;cases rx;obtain⟨its,r,ht,hz⟩:=I.tuple hx;have hlen:its.toArray.size=xs.length:=by rw[Ss];exact r.length.symm
 exact⟨"tuple",_,Tg.lookup,ht.typeIs,fT ht hs pl pu (by rw[hlen];exact hw) ⟨.ref a,H,I,rfl,q⟩⟩
def tO(C:Ct)(m:M (Option Int)):TO:=λσ H Q=>∃c0:Cf,c0.σ=σ/\c0.H=H/\Ok C c0/\W m c0.st λi st'=>∀c,c.σ=σ->c.st=st'->Ok C c->Nx c0 c->Q i c.H
theorem ij:PO X R3 (tO C (pure R3)):=by
 rintro pins s σ H Q I ⟨c0,rfl,rfl,ok,h⟩;rw[ah]at h;exact xt pins s c0.σ c0.H Q I (h c0 rfl rfl ok (Nx.refl c0))
theorem tR(ha:PE X a (DP C ma)):PO X (RY a) (tO C (ma >>= AG)):=by
 rintro pins s σ H Q I ⟨c0,rfl,rfl,ok,h⟩;refine xu ha pins s c0.σ c0.H Q I (aO ok h λx c v t w=>?_);obtain⟨k,u⟩:=x;unfold AG at w;split at w
 ·rename_i i e
  dsimp only at e
  subst e;rw[ah]at w;exact⟨i,t.rx.int t.ok,w c t.hσ rfl t.ok t.nx⟩
 ·exact(az.mp w).elim
theorem AQ{lo hi:Option Int}(hK:C.K=X.K)(hσ:c.σ=c0.σ)(ok:Ok C c)(n:Nx c0 c)(tx:aH C c0 c x.1 x.2 vx)(h:m7 x lo hi=RY r)(q:cm C c0 Q r c.st):
  ((B5 X.K vx lo hi c.H Q\/B3 X.K vx lo hi c.H Q)\/(∃a xs,vx=.ref a/\Ef X.K c.H a xs/\(HT.DU xs.length 0 lo=0/\HT.DU xs.length xs.length hi=xs.length)/\Q (.ref a) c.H))\/Ca vx lo hi c.H Q:=by
 unfold m7 at h;split at h
 ·split at h
  ·rename_i hh;cases h;obtain⟨a',vs,ex,h1,h2⟩:=tx.list ok;exact .inl (.inl (.inl ⟨a',vs,ex,hK▸h1,λp hp=>q.list hσ ok n ((dc hh h2).cut lo hi) p hp⟩))
  ·cases h
 ·cases h;obtain⟨a',vs,ex,h1,h2⟩:=tx.tuple ok;have Ht:=h1;rw[hK]at Ht;by_cases hw:HT.DU vs.length 0 lo=0/\HT.DU vs.length vs.length hi=vs.length
  ·refine .inl (.inr ⟨a',vs,ex,Ht,hw,?_⟩);refine q c (.ref a') hσ rfl ok n (aH.item ⟨a',vs,rfl,h1,?_⟩);rw[tQ (by rw[h2.len];exact hw)];exact h2
  ·exact .inl (.inl (.inr ⟨a',vs,ex,Ht,hw,λp hp=>q.tupK hσ ok n (h2.cut lo hi) p hp⟩))
 ·split at h
  ·cases h;exact .inr ⟨_,tx.str ok,by assumption,q.flat hσ ok n rfl⟩
  ·cases h
 ·cases h
theorem yi{lo hi:Option Td}(hK:C.K=X.K)(ha:PE X a (DP C ma))(hl:PO X lo (tO C ml))(hh:PO X hi (tO C mh)):
  PE X (.Subscript a (.Slice lo hi R3 p2) pos) (DP C (ma >>= λx=>ml >>= λl=>mh >>= λh=>av [x] >>= λ_=>M.D0 (m7 x l h))):=by
 refine PE.weak (uN (((GZ.or xw Ab).or yh).or An) ha hl hh) ?_;rintro σ H Q ⟨c0,rfl,rfl,ok,h⟩;refine aO ok h λx c v t w=>?_;rw[af]at w;refine⟨c,t.hσ,rfl,t.ok,w.mono λl st2 h2 c2 e1 e2 Ej n2=>?_⟩;subst e2;rw[af]at h2;refine⟨c2,e1,rfl,Ej,h2.mono λl' st3 h3 c3 e3 e4 FN n3=>?_⟩;subst e4;rw[af,cf]at h3;obtain⟨r,e,q⟩:=cq.mp h3.2;have N':Nx c c3:=n2.trans n3;exact AQ hK e3 FN (t.nx.trans N') ((t.rx.w.on t.ok N' (e3.trans t.hσ.symm)).t h3.1) e q
end
section
variable{X:Cx}{C:Ct}{pins:List (Sr×Obj)}{s:Sm}{c0 c c1:Cf}
variable{a b d e:Td}{es:List Td}{m ma mb md:M (Kd×U)}{ms:M (List (Kd×U))}{ta tb:M Bool}{pos p p2:Pos}
def Bf.val:Bf->Sb
 |.len=>.builtin "len"|.sorted=>.builtin "sorted"|.repr=>.builtin "repr"|.max=>.builtin "max"|.min=>.builtin "min"|.all=>.builtin "all"|.any=>.builtin "any"
 |.list=>.type "list"|.tuple=>.type "tuple"|.str=>.type "str"|.int=>.type "int"
 |.dict=>.type "dict"
def Bf.name:Bf->Str
 |.len=>"len"|.sorted=>"sorted"|.repr=>"repr"|.max=>"max"|.min=>"min"|.all=>"all"|.any=>"any"
 |.list=>"list"|.tuple=>"tuple"|.str=>"str"|.int=>"int"
 |.dict=>"dict"
theorem call_of(hc:fX X f r)(I:Inv X pins c.σ c.H s)(rv:Vals vs us)(h:r vs c.H Q):Se (Sw X.prog X.w) X.A (Vj f us) (EP X pins c.σ Q) X.xe s:=hc pins s c.σ c.H vs us Q I rv h
theorem ai.Oa{S:Sr->Prop}:∀{ps:List (Str×Str)},ai C S H (ps.map λp=>U.str p.2) (ps.map ((·.2) ∘ λp:Str×Str=>((SN p.1:Key),V.str p.2)))
 |[]=>rfl
 |p::ps=>⟨_,_,rfl,rfl,ai.Oa⟩
theorem ai.Ob{S:Sr->Prop}(hK:C.K=X.K):∀{us:List U}{ps:List (Str×Str)}{vs:List V},jU us=RY ps->ai C S H us vs->∃as:List Sr,vs=as.map V.ref/\as.length=ps.length/\∀(j:Nat) a p,as[j]?=RY a->ps[j]?=RY p->Ef X.K H a [.str p.1,.str p.2]
 |[],ps,vs,e,h=>by
  cases e;cases h;exact⟨[],rfl,rfl,by simp⟩
 |u::us,ps,vs,e,h=>by
  obtain⟨v,r,rfl,h1,h2⟩:=h;unfold jU at e;split at e
  ·rename_i e0;cases e0
  ·rename_i x y us' e0;cases e0;rw[Si]at e;obtain⟨qs,e,rfl⟩:=e;obtain⟨as,rfl,g1,g2⟩:=ai.Ob hK e h2;obtain⟨a,ws,rfl,z1,z2⟩:=h1;obtain⟨w1,Iv,rfl,y1,y2⟩:=z2;obtain⟨w2,Qm,rfl,y3,y4⟩:=y2;cases y1;cases y3;cases y4;rw[hK]at z1;refine⟨a::as,rfl,by simp[g1],λj b p e1 e2=>?_⟩;cases j with
   |zero=>simp at e1 e2;subst e1 e2;exact z1
   |succ j=>exact g2 j b p (by simpa using e1) (by simpa using e2)
  ·cases e
theorem bq(h:fR f rs=RY r):∃x,rs=[x]/\f x=RY r:=by
 unfold fR at h;split at h
 ·exact⟨_,rfl,h⟩
 ·cases h
theorem zj(hc:X.calm=R4)(hK:C.K=X.K)(Lg:X.A.guards=RY [])(Ka:X.A.units+60<Tx)(t:F' C c0 c rs vs)(I:Inv X pins c.σ c.H s)(rv:Vals vs us)(h:Fd f rs=RY r)(q:cm C c0 Q r c.st):
  Se (Sw X.prog X.w) X.A (Vj f.val us) (EP X pins c.σ Q) X.xe s:=by
 have hσ:=t.hσ;have ok:=t.ok;have n:=t.nx;cases f with
 |len =>
  obtain⟨x,rfl,hz⟩:=bq (f:=λx=>(Aw x.2).map λ(n:Nat)=>(Kd.loc,U.int (n:Int))) h;clear h;have h:=hz;clear hz;rw[Si]at h;obtain⟨k,e,rfl⟩:=h;obtain⟨v,rfl,tx⟩:=t.one;obtain⟨kx,ux⟩:=x;unfold Aw at e;split at e
  ·rename_i xs hx;have hx:ux=.lst xs:=hx;subst hx;cases e;obtain⟨a',ws,ex,h1,h2⟩:=tx.list ok;rw[h2.len]at q;exact call_of gH I rv ⟨a',ws,by rw[ex],.inl (hK▸h1),q.flat hσ ok n rfl⟩
  ·rename_i xs hx;have hx:ux=.tup xs:=hx;subst hx;cases e;obtain⟨a',ws,ex,h1,h2⟩:=tx.tuple ok;rw[hK]at h1;rw[h2.len]at q;exact call_of gH I rv ⟨a',ws,by rw[ex],.inr h1,q.flat hσ ok n rfl⟩
  ·rename_i xs hx;have hx:ux=.str xs:=hx;subst hx;split at e
   ·cases e;exact call_of mJ I rv ⟨_,by rw[tx.str ok],by assumption,q.flat hσ ok n rfl⟩
   ·cases e
  ·cases e
 |sorted =>
  obtain⟨x,rfl,hz⟩:=bq (f:=Ax) h;clear h;have h:=hz;clear hz;obtain⟨v,rfl,tx⟩:=t.one;unfold Ax at h;split at h
  ·rw[S8]at h;obtain⟨ss,e,h⟩:=h;have e':=bR e;subst e';obtain⟨a',ws,ex,h1,h2⟩:=tx.list ok;rw[ai.strs]at h2;subst h2;split at h
   ·cases h;exact call_of iL I rv ⟨a',ss,by rw[ex],.inl (hK▸h1),by assumption,λp hp=>q.list hσ ok n (ai.strs.mpr rfl) p hp⟩
   ·cases h
  ·obtain⟨a',kvs,ex,h1,h2,_⟩:=tx.dict ok;split at h
   ·cases h;exact call_of (iu hc) I rv ⟨a',kvs,_,by rw[ex],h1,h2,by assumption,λp hp=>q.list hσ ok n (ai.strs.mpr rfl) p hp⟩
   ·cases h
  ·rw[S8]at h;obtain⟨ss,e,h⟩:=h;have e':=bR e;subst e';obtain⟨a',ws,ex,h1,h2⟩:=tx.tuple ok;rw[hK]at h1;rw[ai.strs]at h2;subst h2;split at h
   ·cases h;exact call_of iL I rv ⟨a',ss,by rw[ex],.inr h1,by assumption,λp hp=>q.list hσ ok n (ai.strs.mpr rfl) p hp⟩
   ·cases h
  ·cases h
 |list =>
  obtain⟨x,rfl,hz⟩:=bq (f:=Ay) h;clear h;have h:=hz;clear hz;obtain⟨v,rfl,tx⟩:=t.one;unfold Ay at h;split at h
  ·obtain⟨a',ws,ex,h1,h2⟩:=tx.list ok;split at h
   ·cases h;exact call_of gI I rv ⟨a',ws,by rw[ex],.inl (hK▸h1),λp hp=>q.list hσ ok n (dc (by assumption) h2) p hp⟩
   ·cases h
  ·obtain⟨a',ws,ex,h1,h2⟩:=tx.tuple ok;rw[hK]at h1;split at h
   ·cases h;exact call_of gI I rv ⟨a',ws,by rw[ex],.inr h1,λp hp=>q.list hσ ok n (dc (by assumption) h2) p hp⟩
   ·cases h
  ·cases h
 |tuple =>
  obtain⟨x,rfl,hz⟩:=bq (f:=Az) h;clear h;have h:=hz;clear hz;obtain⟨v,rfl,tx⟩:=t.one;unfold Az at h;split at h
  ·obtain⟨a',ws,ex,h1,h2⟩:=tx.list ok;cases h;exact call_of fY I rv ⟨a',ws,by rw[ex],.inl ⟨hK▸h1,λp hp=>q.tupK hσ ok n h2 p hp⟩⟩
  ·obtain⟨a',ws,ex,h1,h2⟩:=tx.tuple ok;have Ht:=h1;rw[hK]at Ht;cases h;exact call_of fY I rv ⟨a',ws,by rw[ex],.inr ⟨Ht,q c (.ref a') hσ rfl ok n (aH.item ⟨a',ws,rfl,h1,h2⟩)⟩⟩
  ·cases h
 |str =>
  obtain⟨x,rfl,hz⟩:=bq (f:=xW) h;clear h;have h:=hz;clear hz;obtain⟨v,rfl,tx⟩:=t.one;unfold xW at h;split at h
  ·split at h
   ·cases h;exact call_of mD I rv ⟨_,by rw[tx.int ok],by assumption,q.flat hσ ok n rfl⟩
   ·cases h
  ·cases h
 |all =>
  obtain⟨x,rfl,hz⟩:=bq (f:=AA) h;clear h;have h:=hz;clear hz;obtain⟨v,rfl,tx⟩:=t.one;unfold AA at h;split at h
  ·rw[Si]at h;obtain⟨bs,e,rfl⟩:=h;have e':=gw e;subst e';obtain⟨a',ws,ex,h1,h2⟩:=tx.list ok;have:=h2.MC;subst this;exact call_of (u4 hc) I rv ⟨a',bs,by rw[ex],hK▸h1,q.flat hσ ok n rfl⟩
  ·cases h
 |any =>
  obtain⟨x,rfl,hz⟩:=bq (f:=AB) h;clear h;have h:=hz;clear hz;obtain⟨v,rfl,tx⟩:=t.one;unfold AB at h;split at h
  ·rw[Si]at h;obtain⟨bs,e,rfl⟩:=h;have e':=gw e;subst e';obtain⟨a',ws,ex,h1,h2⟩:=tx.list ok;have:=h2.MC;subst this;exact call_of (vg hc) I rv ⟨a',bs,by rw[ex],hK▸h1,q.flat hσ ok n rfl⟩
  ·cases h
 |dict =>
  obtain⟨x,rfl,hz⟩:=bq (f:=AD) h;clear h;have h:=hz;clear hz;obtain⟨v,rfl,tx⟩:=t.one;obtain⟨u,rfl,rr⟩:=vals1 rv;unfold AD at h;split at h
  ·obtain⟨ps,e,h⟩:=S8.mp h;obtain⟨a',ws,ex,h1,h2⟩:=tx.list ok;subst ex;cases rr;obtain⟨as,rfl,hl,ht⟩:=ai.Ob hK e h2;split at h
   ·cases h;exact xP hc I (hK▸h1) hl ht (by assumption) λd hd=>q.root hσ ok n d hd ⟨_,au,by rw[Sx,Sx];rfl,by rw[Sx];exact ai.Oa⟩
   ·cases h
  ·cases h
 |_=>cases h
theorem yj{id:String}(hc:X.calm=R4)(hK:C.K=X.K)(Lg:X.A.guards=RY [])(Ka:X.A.units+60<Tx)(hf:f.val=.builtin id)(hg:Gl X x)(hm:X.mg x=R3)(hv:Uv x=RY (.builtin id))(hn:x≠"__name__")(Ib:(x==("__debug__":Str))=R5)
  (ha:PA X (e::es) (EZ C ms)) (he:SJ (e::es) X.env=(R5,T2 e X.env)::SJ es X.env) (EX:(Uk pos (SJ es X.env)).any (·.1)=R5) :
  PE X (.Call (.Name x p) (e::es) [] pos) (DP C (ms >>= λrs=>av rs >>= λ_=>M.D0 (Fd f rs))):=by
 rintro pins s σ H Q I ⟨c0,rfl,rfl,ok,h⟩;refine UK (eT I hg hm hv ?_ hn Ib);refine Â (DQ (args ha I ok h pos) λus s1 ⟨rs,c,vs,t,I1,rv,w⟩=>?_) he EX;obtain⟨r,e,q⟩:=cq.mp w;have z:=zj hc hK Lg Ka t I1 rv e q;rw[hf,t.hσ]at z;exact z
theorem yk(hc:X.calm=R4)(hK:C.K=X.K)(Lg:X.A.guards=RY [])(Ka:X.A.units+60<Tx)(hf:f.val=.type T)(hg:Gl X x)(hm:X.mg x=R3)(hv:Uv x=RY (.type T))(hn:x≠"__name__")(Ib:(x==("__debug__":Str))=R5)
  (ha:PA X (e::es) (EZ C ms)) (he:SJ (e::es) X.env=(R5,T2 e X.env)::SJ es X.env) (EX:(Uk pos (SJ es X.env)).any (·.1)=R5) :
  PE X (.Call (.Name x p) (e::es) [] pos) (DP C (ms >>= λrs=>av rs >>= λ_=>M.D0 (Fd f rs))):=by
 rintro pins s σ H Q I ⟨c0,rfl,rfl,ok,h⟩;refine UK (eT I hg hm hv ?_ hn Ib);refine T8 (DQ (args ha I ok h pos) λus s1 ⟨rs,c,vs,t,I1,rv,w⟩=>?_) he EX;obtain⟨r,e,q⟩:=cq.mp w;have z:=zj hc hK Lg Ka t I1 rv e q;rw[hf,t.hσ]at z;exact z
def PJ(X:Cx)(out:Str)(es:List Td)(t:TE):Prop :=
 ∀(pins:List (Sr×Obj)) (s:Sm) (σ:L2.St) (H:Hp) (Q:VK),Inv X pins σ H s->t σ H Q->Se (Sw X.prog X.w) X.A (joinParts out (evalEach es X.env)) (EP X pins σ Q) X.xe s
theorem AR(hz:out.length<=R6):PJ X out [] (DP C (pure (.loc,.str out))):=by
 rintro pins s σ H Q I ⟨c0,rfl,rfl,ok,h⟩;rw[ah]at h;exact joinParts_nil ⟨.str out,c0.H,I.tok _,⟨_,rfl⟩,h c0 (.str out) rfl rfl ok (Nx.refl c0) rfl⟩ hz
theorem AS(hr:PJ X (out++y) es (DP C m))(hz:(out++y).length<=R6):PJ X out (.Constant (.str y) kk p::es) (DP C m):=by
 intro pins s σ H Q I h;refine Z' (Õ (DQ (p5 (X:=X) pins s σ H (λv H'=>v=.str y/\H'=H) I ⟨rfl,rfl⟩) λv s1 ⟨x,H1,I1,r1,e1,e2⟩=>?_));subst e1 e2;obtain⟨t,rfl⟩:=r1;exact⟨hz,hr pins s1 σ H1 Q I1 h⟩
theorem AU{mf:Str->M (Kd×U)}(ha:PE X a (DP C ma))(hr:∀y,y.length<=R6->PJ X y es (DP C (mf y))):PJ X out (.FormattedValue a (-1) R3 p::es) (DP C (ma >>= λx=>M.D0 (lj x.2 out) >>= λy=>mf y)):=by
 rintro pins s σ H Q I ⟨c0,rfl,rfl,ok,h⟩;refine Z' (Õ (FormattedValue_plain (DQ (ha pins s c0.σ c0.H (λv H'=>∃x c y,Le C c0 c x v/\c.H=H'/\lj x.2 out=RY y/\W (mf y) c.st (cm C c0 Q)) I ?_) λv s1 ⟨vx,H1,I1,r1,x,c,y,t,e,hy,w⟩=>?_)))
 ·refine⟨c0,rfl,rfl,ok,?_⟩;rw[af]at h;refine W.mono h λx st' w c v hσ hs DZ n r=>?_;subst hs;rw[af]at w;obtain⟨y,e,w⟩:=cq.mp w;exact⟨x,c,y,⟨hσ,DZ,n,r⟩,rfl,e,w⟩
 ·subst e;obtain⟨k,u⟩:=x;obtain⟨hσ,D7,n,r⟩:=t
  dsimp only at hy r
  have go:∀s2:Sm,Inv X pins c0.σ c.H s2->y.length<=R6->Se (Sw X.prog X.w) X.A (joinParts y (evalEach es X.env)) (EP X pins c0.σ Q) X.xe s2:=λs2 I2 hz =>
   hr y hz pins s2 c0.σ c.H Q I2 ⟨c,hσ,rfl,D7,W.mono w λr' st' q c' v' h1 h2 h3 h4 h5=>q c' v' h1 h2 h3 (n.trans h4) (h5.from n)⟩
  unfold lj at hy;split at hy
  ·split at hy
   ·rename_i hz;cases hy;have ev:vx=_:=r.str D7;subst ev;obtain⟨tk,rfl⟩:=r1;exact formatField_str (λt' tk=>⟨hz.2,go _ (I1.tok tk) hz.2⟩) hz.1
   ·cases hy
  ·split at hy
   ·rename_i hz;cases hy;have ev:vx=_:=r.int D7;subst ev;obtain⟨tk,rfl⟩:=r1;exact formatField_int_small hz.1 ⟨hz.2,go _ (I1.tok _) hz.2⟩
   ·cases hy
  ·cases hy
theorem yl(h:PJ X S5 (e1::e2::es) (DP C m)):PE X (.JoinedStr (e1::e2::es) pos) (DP C m):=λpins s σ H Q I q=>JoinedStr_many (h pins s σ H Q I q)
abbrev G3(P:Tu)(w:T1)(K:PySem.W.Frag)(H:Hp)(Pr:Sr->Prop):Ct:=⟨P,w,K,H,Pr,λ_=>False⟩
structure Back(C:Ct)(H H':Hp)(S':Sr->Prop)(k:Kd)(u:U)(v:V):Prop where
 same:Af H H'
 new:∀a,S' a->H a=R3/\∃o,H' a=RY o
 own:k=.own->∃r,v=.ref r/\H r=R3/\¬S' r/\c_ C S' H' r u
 loc:k=.loc->Rep C S' H' u v
 any:k=.any->Rep C (PS C S') H' u v
def spT(P:Tu)(w:T1)(K:PySem.W.Frag)(F:List U->Option (Ex (Kd×U)))(np:Nat):Sp:=λvs H Q _=>vs.length=np/\∃us k u Pr,F us=RY (.ok (k,u))/\(k=.own\/k=.loc\/k=.any)/\(∀a,Pr a->Gn H a) /\
 ai (G3 P w K H Pr) Pr H us vs/\∀v H' S',Back (G3 P w K H Pr) H H' S' k u v->Q v H'
theorem F'.read(t:F' C c0 c rs vs):ai C (Gn c.H) c.H (rs.map (·.2)) vs:=by
 have aux:∀(l:List (Kd×U)) (w:List V),da C c0 c l w->bc l c.st->ai C (Gn c.H) c.H (l.map (·.2)) w:=by
  intro l;induction l with
  |nil=>intro w h _;exact h
  |cons r l ih =>
   intro w h hs;obtain⟨v,t',rfl,h1,h2,_⟩:=h;rw[fE]at hs;exact⟨v,t',rfl,(h1.t hs.1).read t.ok,ih t' h2 hs.2⟩
 exact aux rs vs t.rep t.HI
theorem Back.here(hk:k=.own\/k=.loc)(hσ:c.σ=c0.σ)(ok:Ok C c)(n:Nx c0 c)(q:C'.Eqv C)(h:Back C' c.H H' S' k u v)(w:cm C c0 Q (k,u) c.st):Q v H':=by
 obtain⟨DZ,n'⟩:=ok.grow (S':=λa=>c.S a\/S' a) h.same (λa z=>z.imp id λz=>h.new a z) λa=>.inl;have hn:=n.trans n';refine w {c with H:=H',S:=λa=>c.S a\/S' a} v hσ rfl DZ hn ?_;rcases hk with rfl|rfl
 ·obtain⟨r,e,h1,h2,h3⟩:=h.own rfl;obtain⟨z0,z1,z2,z3,z4⟩:=ok.la h1;refine⟨r,e,n.none h1,λz=>z.elim z1 h2,z4,(h3.cg q).mv (.up λa=>.inr) λo q=>q⟩
 ·exact((h.loc rfl).cg q).mv (.up λa=>.inr)
theorem vD(hP:C.P=X.prog)(hw:C.w=X.w)(hK:C.K=X.K)(hF:Γ f=F)(hk:∀us k u,F us=RY (.ok (k,u))->(k=.own\/k=.loc\/k=.any)/\us.length=np)
  (G:oh X.prog X.w X.K X.mg X.base Hz k fa fd ps (spT X.prog X.w X.K F np)) (hr:gh k X.A) (hg:Gl X f) (hm:X.mg f=RY (.ref fa)) (Qn:PySem.W.keepIn X.K (.ref fa)=R4) (hb:Binds X.K fd ps [])
  (Ib:(f==("__debug__":Str))=R5) (ha:PA X (e::es) (EZ C ms)) (he:SJ (e::es) X.env=(R5,T2 e X.env)::SJ es X.env) (EX:(Uk pos (SJ es X.env)).any (·.1)=R5) :
  PE X (.Call (.Name f p) (e::es) [] pos) (DP C (ms >>= λrs=>av rs >>= λ_=>jV Γ f (rs.map (·.2)))):=by
 rintro pins s σ H Q I ⟨c0,rfl,rfl,ok,h⟩;refine UK (rh I hg hm ?_ Ib);refine PySem.W.callWith_K (h₀:=X.base) I.ok.mod.LB Qn (DQ (args ha I ok h pos) λus s1 ⟨rs,c,vs,t,I1,rv,w⟩=>⟨I1.IW,?_⟩) he EX;obtain⟨r,st',e1,q⟩:=w;unfold jV at e1;rw[hF]at e1;cases e2:F (rs.map (·.2)) with
 |none=>rw[e2]at e1;cases e1
 |some r' =>
  rw[e2]at e1;split at e1
  ·cases e1
  ·rename_i z;cases z
  rename_i MF e3;cases e3;cases e1;obtain⟨kd,u⟩:=r;obtain⟨k0,k2⟩:=hk _ _ _ e2;have k1:kd=.own\/kd=.loc:=by
   rcases k0 with z|z|z
   ·exact .inl z
   ·exact .inr z
   ·subst z;exact(MF u rfl).elim
  have eqv:C.Eqv (G3 X.prog X.w X.K c.H (Gn c.H)):=⟨hP,hw,hK⟩
  have MG:(G3 X.prog X.w X.K c.H (Gn c.H)).Eqv C:=⟨hP.symm,hw.symm,hK.symm⟩
  have rd:=t.read;have FV:spT X.prog X.w X.K F np vs c.H (λv H'=>Q v H') E0:=⟨by rw[<-rd.len];exact k2,rs.map (·.2),kd,u,Gn c.H,e2,k0,λ_ z=>z,rd.cg eqv,λv H' S' hb=>hb.here k1 t.hσ t.ok t.nx MG q⟩
  have z:=z_ (Q:=Q) G hr hb .nil B7 I1 rv (by rw[TF];exact FV);rw[t.hσ]at z;exact z
end
section
def Mf.id:Mf->String
 |.split=>"str.split"|.join=>"str.join"|.partition=>"str.partition"|.endswith=>"str.endswith"
def Mf.name:Mf->Str
 |.split=>"split"|.join=>"join"|.partition=>"partition"|.endswith=>"endswith"
theorem vE(h:iw f u rs=RY r):∃x,u=.str x:=by
 unfold iw at h;split at h
 ·exact⟨_,rfl⟩
 ·exact⟨_,rfl⟩
 ·exact⟨_,rfl⟩
 ·exact⟨_,rfl⟩
 ·cases h
theorem AV(hK:C.K=X.K)(t:F' C c0 c (x::rs) (vx::vs))(I:Inv X pins c.σ c.H s)(rx:RelV vx v)(rv:Vals vs us)(h:iw f x.2 rs=RY r)(q:cm C c0 Q r c.st):
  Se (Sw X.prog X.w) X.A (Vj (.builtin f.id) (v::us)) (EP X pins c.σ Q) X.xe s:=by
 have hσ:=t.hσ;have ok:=t.ok;have n:=t.nx;obtain⟨kx,ux⟩:=x;have hs:=fE.mp t.HI;obtain⟨v0,Lh,e0,h1,h2,-⟩:=t.rep;cases e0;have tx:aH C c0 c kx ux vx:=h1.t hs.1;have one:∀{r:Kd×U},da C c0 c [r] vs->bc [r] c.st->∃v,vs=[v]/\aH C c0 c r.1 r.2 v:=λ{r} h s=>by
  obtain⟨v,t',rfl,h1,h2,_⟩:=h;cases h2;exact⟨v,rfl,h1.t s⟩
 dsimp only at h
 unfold iw at h;split at h
 ·obtain⟨w,rfl,ty⟩:=one h2 hs.2;split at h
  ·rename_i hh;cases h;exact u3 pins s c.σ c.H vx [w] v us Q I rx rv ⟨_,_,tx.str ok,by rw[ty.str ok],hh.1,hh.2,λp hp=>q.list hσ ok n (ai.strs.mpr rfl) p hp⟩
  ·cases h
 ·rw[S8]at h;obtain⟨ss,e,h⟩:=h;have e':=bR e;subst e';obtain⟨w,rfl,ty⟩:=one h2 hs.2;obtain⟨a',ws,ex,h3,h4⟩:=ty.list ok;rw[ai.strs]at h4;subst h4;split at h
  ·cases h;exact xG pins s c.σ c.H vx [w] v us Q I rx rv ⟨_,a',ss,tx.str ok,by rw[ex],hK▸h3,by assumption,q.flat hσ ok n rfl⟩
  ·cases h
 ·obtain⟨w,rfl,ty⟩:=one h2 hs.2;cases h;exact ox pins s c.σ c.H vx [w] v us Q I rx rv ⟨_,_,tx.str ok,by rw[ty.str ok],q.flat hσ ok n rfl⟩
 ·obtain⟨w,rfl,ty⟩:=one h2 hs.2;split at h
  ·rename_i hh;cases h;refine mN pins s c.σ c.H vx [w] v us Q I rx rv ⟨_,_,tx.str ok,by rw[ty.str ok],hh.1,hh.2,λp hp=>?_⟩;exact q.tup hσ ok n ⟨_,_,rfl,rfl,_,_,rfl,rfl,_,_,rfl,rfl,rfl⟩ p hp
  ·cases h
 ·cases h
theorem ym(hK:C.K=X.K)(slot:Slot "str" name f.id)(LU:Å (.builtin f.id)=pure (.type "method_descriptor"))(ho:PE X o (DP C m))(ha:PA X (e::es) (EZ C ms))
  (Gy:W2 o name X.env (T2 o X.env)=T2 o X.env)
  (EM:((Uk DK (SJ (e::es) X.env)).all (λx=>!x.1)&&(Wa DK (Vi [] X.env)).all (λx=>x.1.isSome)
   && Sa ((e::es).length+([]:List Va).length+(if ([]:List Va).isEmpty then 0 else 1)<30))=R4)
  (Eo:(apos.endLine==DK.line)=R4) (hs:SJ (e::es) X.env=(R5,T2 e X.env)::SJ es X.env) (ET:(Uk DK (SJ es X.env)).any (·.1)=R5) :
  PE X (.Call (.Attribute o name apos) (e::es) [] DK) (DP C (m >>= λx=>ms >>= λrs=>av (x::rs) >>= λ_=>M.D0 (iw f x.2 rs))):=by
 rintro pins s σ H Q I ⟨c0,rfl,rfl,ok,h⟩;refine Yu Gy EM Eo rfl (DQ (ho pins s c0.σ c0.H (λvx H1=>∃x c1,c1.H=H1/\Le C c0 c1 x vx/\W (ms >>= λrs=>av (x::rs) >>= λ_=>M.D0 (iw f x.2 rs)) c1.st (cm C c0 Q)) I (aO ok h λx c v t w=>⟨x,c,rfl,t,w⟩)) ?_);rintro v s1 ⟨vx,H1,I1,rx,x,c1,rfl,t,w⟩;have Iw:∃z,x.2=.str z:=by
  rw[af]at w;obtain⟨rs,st2,_,w⟩:=w;rw[af]at w;obtain⟨_,st3,_,w⟩:=w;obtain⟨r,e,_⟩:=cq.mp w;exact vE e
 obtain⟨z,hz⟩:=Iw;have tx:=t.rx;rw[hz]at tx;have ev:=tx.str t.ok;have ty:LS X.K "str" vx c1.H:=by rw[ev];rfl
 obtain⟨h1,h2⟩:=qf I1 rx ty;refine⟨"str",f.id,PySem.F.plainAttrs_str,slot,LU,h1,h2,?_⟩;rw[af]at w;have hA:=ha DK pins s1 c0.σ c1.H (λvs H2=>∃rs c2,c2.H=H2/\F' C c0 c2 (x::rs) (vx::vs)/\W (M.D0 (iw f x.2 rs)) c2.st (cm C c0 Q)) I1 ⟨c1,t.hσ,rfl,t.ok,w.mono λrs st2 h3 c2 vs e3 e4 Ej n2 r2=>by
  rw[af,cf]at h3;subst e4;exact⟨rs,c2,rfl,⟨e3,Ej,t.nx.trans n2,⟨vx,vs,rfl,t.rx.w.on t.ok n2 (e3.trans t.hσ.symm),r2.from t.nx,λhk i r' v' e5 e6 EF=>m8 t.rx.w (r2.get e5 e6) hk EF⟩,h3.1⟩,h3.2⟩⟩
 rw[hs]at hA ⊢;refine UB (by show(R5||(Uk DK (SJ es X.env)).any (·.1))=R5;rw[ET]<;>rfl) (UP ?_);refine DQ hA ?_;rintro us s2 ⟨vs,H2,I2,r2,rs,c2,rfl,t2,w2⟩;obtain⟨r,e,q⟩:=cq.mp w2;have z:=AV hK t2 (by rw[t2.hσ];exact I2) rx r2 e q;rw[t2.hσ]at z;exact z
end
section
variable{X:Cx}{C:Ct}{pins:List (Sr×Obj)}{s:Sm}{c0 c c1:Cf}
variable{e:Td}{es:List Td}{ms:M (List (Kd×U))}{pos p p2 pos2:Pos}
def B2.out:B2->Sb
 |.Hj=>.type "tuple"|.Hk=>.type "list"|.sset=>.builtin "sorted"|.mK=>.builtin "len"
def B2.Li:B2->Sb
 |.Hj=>.type "reversed"|.Hk=>.type "reversed"|.sset=>.type "set"|.mK=>.type "set"
def B2.m_:B2->Str
 |.Hj=>"tuple"|.Hk=>"list"|.sset=>"sorted"|.mK=>"len"
def B2.gX:B2->Str
 |.Hj=>"reversed"|.Hk=>"reversed"|.sset=>"set"|.mK=>"set"
theorem lP(hK:C.K=X.K)(ok:Ok C c)(tx:aH C c0 c k u v)(h:oK u=RY ss):∃a ys,v=.ref a/\(Eg X.K c.H a (ys.map V.str)\/Ef X.K c.H a (ys.map V.str))/\ys.length+1<Ut/\ss=aL ys:=by
 unfold oK at h;split at h
 ·rw[S8]at h;obtain⟨ys,e,h⟩:=h;have e':=bR e;subst e';obtain⟨a',ws,ex,h1,h2⟩:=tx.list ok;rw[ai.strs]at h2;subst h2;split at h
  ·cases h;exact⟨a',ys,ex,.inl (hK▸h1),by assumption,rfl⟩
  ·cases h
 ·rw[S8]at h;obtain⟨ys,e,h⟩:=h;have e':=bR e;subst e';obtain⟨a',ws,ex,h1,h2⟩:=tx.tuple ok;rw[ai.strs]at h2;subst h2;rw[hK]at h1;split at h
  ·cases h;exact⟨a',ys,ex,.inr h1,by assumption,rfl⟩
  ·cases h
 ·cases h
theorem AW(hc:X.calm=R4)(hK:C.K=X.K)(t:F' C c0 c rs vs)(I:Inv X pins c.σ c.H s)(rv:Vals vs us)(h:qv f rs=RY r)(q:cm C c0 Q r c.st):
  Se (Sw X.prog X.w) X.A (Vj f.Li us) (λv s1=>Se (Sw X.prog X.w) X.A (Vj f.out [v]) (EP X pins c.σ Q) X.xe s1) X.xe s:=by
 have hσ:=t.hσ;have ok:=t.ok;have n:=t.nx;cases f with
 |sset =>
  obtain⟨x,rfl,hz⟩:=bq (f:=λx=>(oK x.2).bind λss=>if ss.length<64 then RY (Kd.own,U.lst ((ay ss).map .str)) else R3) h;clear h;have h:=hz;clear hz;obtain⟨ss,e,h⟩:=S8.mp h;obtain⟨v,rfl,tx⟩:=t.one;obtain⟨a',ys,rfl,h1,h2,rfl⟩:=lP hK ok tx e;obtain⟨u,rfl,rr⟩:=vals1 rv;cases rr;split at h
  ·cases h;exact gR hc I h1 h2 λS h' tk hS I1=>k_ hc I1 hS (by assumption) λl hl=>q.list hσ ok n (ai.strs.mpr rfl) l hl
  ·cases h
 |mK =>
  obtain⟨x,rfl,hz⟩:=bq (f:=λx:Kd×U=>(oK x.2).map λss:List Str=>(Kd.loc,U.int (ss.length:Int))) h;clear h;have h:=hz;clear hz;obtain⟨ss,e,rfl⟩:=Si.mp h;obtain⟨v,rfl,tx⟩:=t.one;obtain⟨a',ys,rfl,h1,h2,rfl⟩:=lP hK ok tx e;obtain⟨u,rfl,rr⟩:=vals1 rv;cases rr;exact gR hc I h1 h2 λS h' tk hS I1=>qo I1 hS (q.flat hσ ok n rfl)
 |_=>cases h
theorem rV:∀f:B2,Uv f.m_=RY f.out/\Uv f.gX=RY f.Li/\f.m_≠"__name__"/\f.gX≠"__name__"/\(f.m_==("__debug__":Str))=R5/\(f.gX==("__debug__":Str))=R5:=by
 intro f;cases f<;>exact⟨by decide +kernel,by decide +kernel,by decide +kernel,by decide +kernel,by decide +kernel,by decide +kernel⟩
theorem AX(f:B2):∃T,f.Li=.type T:=by cases f<;>exact⟨_,rfl⟩
theorem AY(f:B2):(∃T,f.out=.type T)\/∃T,f.out=.builtin T:=by cases f<;>first|exact .inl ⟨_,rfl⟩|exact .inr ⟨_,rfl⟩
theorem yn{M:Model}{E:Sb->Sm->Prop}(h:Se M A t (λv s₁=>Se M A (Vj (.type T) [v]) Q E s₁) E s):Se M A (callWith pos (.type T) [] [(R5,t)] []) Q E s :=
 PySem.callWith_type rfl (UP (U9 (Th h (λ_ _ h₁=>VN h₁) λ_ _ e=>e)))
theorem vF{M:Model}{E:Sb->Sm->Prop}(h:Se M A t (λv s₁=>Se M A (Vj (.builtin T) [v]) Q E s₁) E s):Se M A (callWith pos (.builtin T) [] [(R5,t)] []) Q E s :=
 UB rfl (UP (U9 (Th h (λ_ _ h₁=>VN h₁) λ_ _ e=>e)))
theorem vG(hc:X.calm=R4)(hK:C.K=X.K)(JU:Gl X f.gX)(Lj:X.mg f.gX=R3)
  (ha:PA X (e::es) (EZ C ms)) (he:SJ (e::es) X.env=(R5,T2 e X.env)::SJ es X.env) (EX:(Uk pos2 (SJ es X.env)).any (·.1)=R5)
  (I:Inv X pins c0.σ c0.H s) (ok:Ok C c0) (h:W (ms >>= λrs=>av rs >>= λ_=>M.D0 (qv f rs)) c0.st (cm C c0 Q)) :
  Se (Sw X.prog X.w) X.A (T2 (.Call (.Name f.gX p2) (e::es) [] pos2) X.env) (λv s1=>Se (Sw X.prog X.w) X.A (Vj f.out [v]) (EP X pins c0.σ Q) X.xe s1) X.xe s:=by
 obtain⟨b1,b2,b3,b4,b5,b6⟩:=rV f;refine UK (eT I JU Lj b2 ?_ b4 b6);have fin:Se (Sw X.prog X.w) X.A (ZA (Uk pos2 (SJ (e::es) X.env))) (λus s1=>Se (Sw X.prog X.w) X.A (Vj f.Li us) (λv s1=>Se (Sw X.prog X.w) X.A (Vj f.out [v]) (EP X pins c0.σ Q) X.xe s1) X.xe s1) X.xe s :=
  DQ (args ha I ok h pos2) λus s1 D4=>by
   obtain⟨rs,c,vs,t,I1,rv,w⟩:=D4;obtain⟨r,e,q⟩:=cq.mp w;have z:=AW hc hK t I1 rv e q;rw[t.hσ]at z;exact z
 obtain⟨T,hT⟩:=AX f;rw[hT]at fin ⊢;exact T8 fin he EX
theorem yo(hc:X.calm=R4)(hK:C.K=X.K)(JQ:Gl X f.m_)(MH:X.mg f.m_=R3)(JU:Gl X f.gX)(Lj:X.mg f.gX=R3)
  (ha:PA X (e::es) (EZ C ms)) (he:SJ (e::es) X.env=(R5,T2 e X.env)::SJ es X.env) (EX:(Uk pos2 (SJ es X.env)).any (·.1)=R5) :
  PE X (.Call (.Name f.m_ p) [.Call (.Name f.gX p2) (e::es) [] pos2] [] pos) (DP C (ms >>= λrs=>av rs >>= λ_=>M.D0 (qv f rs))):=by
 rintro pins s σ H Q I ⟨c0,rfl,rfl,ok,h⟩;obtain⟨b1,b2,b3,b4,b5,b6⟩:=rV f;refine UK (eT I JQ MH b1 ?_ b3 b5);have inner:=vG (p2:=p2) (pos2:=pos2) hc hK JU Lj ha he EX I ok h;have eb:Uk pos (SJ [.Call (.Name f.gX p2) (e::es) [] pos2] X.env)=[(R5,T2 (.Call (.Name f.gX p2) (e::es) [] pos2) X.env)]:=rfl;have ek:Wa pos (Vi [] X.env)=[]:=rfl;rw[eb,ek];rcases AY f with⟨T,hT⟩|⟨T,hT⟩
 ·rw[hT]at inner ⊢;exact yn inner
 ·rw[hT]at inner ⊢;exact vF inner
end
section
variable{X:Cx}{C:Ct}{pins:List (Sr×Obj)}{s:Sm}{c0 c c1:Cf}
variable{a b d e o tg:Td}{es:List Td}{m ma mb md:M (Kd×U)}{ms:M (List (Kd×U))}{ta tb:M Bool}{pos p p2 apos DK:Pos}
def j3(rs:List (Kd×U))(c c':Cf):Prop:=∀j u,(Kd.bor j,u)∈rs->c'.σ[j]?=c.σ[j]?
def Walk(C:Ct)(c:Cf)(rs:List (Kd×U))(xs:List (Kd×U))(J:It):Prop:=∀c',Ok C c'->Ns c c'->j3 rs c c'->bc rs c'.st ->
 (∀(i:Nat) r,xs[i]?=RY r->(r.1=.loc\/r.1=.any)/\J.go i c'.H/\∀x H',J.KI i c'.H x H'->∃Gm:Cf,Gm.H=H'/\Gm.σ=c'.σ/\Gm.st=c'.st/\Ok C Gm/\Nx c' Gm/\aH C c' Gm r.1 r.2 x) /\
 ∀i:Nat,xs.length<=i->J.stop i c'.H
def GK(C:Ct)(ik:Ik)(ms:M (List (Kd×U))):TI:=λσ H R=>∃c0:Cf,c0.σ=σ/\c0.H=H/\Ok C c0/\W (ms >>= λrs=>av rs >>= λ_=>M.D0 (Fu ik rs) >>= λxs=>pure (rs,xs)) c0.st λq st' =>
 ∀c J,c.σ=σ->c.st=st'->Ok C c->Nx c0 c->bc q.1 c.st->Walk C c q.1 q.2 J->R J c.H
theorem aH.walk(ok:Ok C c)(n:Ns c c')(hf:j3 [r] c c')(hs:bc [r] c'.st)(h:aH C c0 c r.1 r.2 v):aH C c0 c' r.1 r.2 v :=
 (h.w.N8 ok n λj e=>hf j r.2 (by rw[<-e];simp)).t hs
theorem vH(k:Kd):kE k=.loc\/kE k=.any:=by cases k<;>simp[kE]
theorem tS(hK:C.K=X.K)(ok:Ok C c)(h:aH C c0 c k (.lst us) (.ref a')):Walk C c [(k,.lst us)] (us.map λu=>(kE k,u)) (LK X.K a'):=by
 intro c' DZ n hf hs;have h':=aH.walk (r:=(k,.lst us)) ok n hf hs h;obtain⟨a2,vs,e,h1,h2⟩:=h'.list DZ;cases e;rw[hK]at h1;refine⟨λi r hr=>?_,λi hi=>⟨vs,h1,by rw[<-h2.len];simpa using hi⟩⟩;rw[SQ,Si]at hr;obtain⟨u,hu,rfl⟩:=hr;obtain⟨v,hv,rep⟩:=h2.get hu;refine⟨vH k,⟨vs,v,h1,hv⟩,λx H' hy=>?_⟩;obtain⟨e,hy⟩:=hy;subst e;have:=hy vs h1;rw[hv]at this;cases this;exact⟨c',rfl,rfl,rfl,DZ,Nx.refl c',aH.item rep⟩
theorem qx(hK:C.K=X.K)(ok:Ok C c)(h:aH C c0 c k (.tup us) (.ref a')):Walk C c [(k,.tup us)] (us.map λu=>(kE k,u)) (LL X.K a'):=by
 intro c' DZ n hf hs;have h':=aH.walk (r:=(k,.tup us)) ok n hf hs h;obtain⟨a2,vs,e,h1,h2⟩:=h'.tuple DZ;cases e;rw[hK]at h1;refine⟨λi r hr=>?_,λi hi=>⟨vs,h1,by rw[<-h2.len];simpa using hi⟩⟩;rw[SQ,Si]at hr;obtain⟨u,hu,rfl⟩:=hr;obtain⟨v,hv,rep⟩:=h2.get hu;refine⟨vH k,⟨vs,v,h1,hv⟩,λx H' hy=>?_⟩;obtain⟨e,hy⟩:=hy;subst e;have:=hy vs h1;rw[hv]at this;cases this;exact⟨c',rfl,rfl,rfl,DZ,Nx.refl c',aH.item rep⟩
theorem j4{lo:Int}:Walk C c rs ((Sl n).map λi:Nat=>(Kd.loc,U.int (lo+(i:Int)))) (Jz lo n):=by
 intro c' DZ nx hf hs;refine⟨λi r hr=>?_,λi hi=>by show n<=i;simpa using hi⟩;rw[SQ,Si]at hr;obtain⟨j,hu,rfl⟩:=hr;have hi:i<n:=by simpa using(Sf.mp hu).1
 rw[Yj hi]at hu;cases hu;refine⟨.inl rfl,hi,λy H' hy=>?_⟩;obtain⟨e,rfl⟩:=hy;subst e;exact⟨c',rfl,rfl,rfl,DZ,Nx.refl c',rfl⟩
theorem AZ(hK:C.K=X.K)(ha:PE X a (DP C ma)):PI X tg a (GK C .seq (ma >>= λr=>pure [] >>= λrs=>pure (r::rs))):=by
 rintro pins s σ H R I ⟨c0,rfl,rfl,ok,h⟩;rw[af,af]at h;obtain⟨r,st1,e1,h⟩:=h;rw[af,ah,ah,af,cf,af]at h;obtain⟨DS,h⟩:=h;obtain⟨xs,e2,h⟩:=cq.mp h;rw[ah]at h;obtain⟨k,u⟩:=r;cases u with
 |lst us =>
  cases e2;refine xn ha pins s c0.σ c0.H R I ⟨c0,rfl,rfl,ok,_,st1,e1,λc v hσ hs D7 n rep=>?_⟩;obtain⟨a',vs,rfl,h1,h2⟩:=rep.list D7;subst hs;exact⟨a',rfl,⟨vs,hK▸h1⟩,h c _ hσ rfl D7 n DS (tS hK D7 rep)⟩
 |tup us =>
  cases e2;refine zV ha pins s c0.σ c0.H R I ⟨c0,rfl,rfl,ok,_,st1,e1,λc v hσ hs D7 n rep=>?_⟩;obtain⟨a',vs,rfl,h1,h2⟩:=rep.tuple D7;subst hs;have Ht:=h1;rw[hK]at Ht;exact⟨a',rfl,⟨vs,Ht⟩,h c _ hσ rfl D7 n DS (qx hK D7 rep)⟩
 |_=>cases e2
theorem qy{k:List (Kd×U)->M β}{DV:β->aj->Prop}(ok:Ok C c0)(h:W (ms >>= λrs=>av rs >>= λ_=>k rs) c0.st DV)
  (hz:∀rs c vs,F' C c0 c rs vs->W (k rs) c.st DV->Z vs c.H):EZ C ms c0.σ c0.H Z:=by
 rw[af]at h;refine⟨c0,rfl,rfl,ok,h.mono λrs st1 h1 c1 vs e1 e2 DT n1 r1=>?_⟩;rw[af,cf]at h1;subst e2;exact hz rs c1 vs ⟨e1,DT,n1,r1,h1.1⟩ h1.2
theorem yp(hg:Gl X "range")(hm:X.mg "range"=R3)(hs:SJ [a] X.env=[(R5,T2 a X.env)])(ha:PA X [a] (EZ C ms)):PI X tg (.Call (.Name "range" p) [a] [] pos) (GK C .Eb ms):=by
 rintro pins s σ H R I ⟨c0,rfl,rfl,ok,h⟩;refine sX hg hm ha hs pins s c0.σ c0.H R I (qy ok h λrs c vs t w=>?_);rw[af]at w;obtain⟨xs,e2,w⟩:=cq.mp w;rw[ah]at w;obtain⟨x,rfl,hz⟩:=bq (f:=tL) e2;clear e2;have e2:=hz;clear hz;obtain⟨v,rfl,tx⟩:=t.one;unfold tL at e2;split at e2
 ·split at e2
  ·rename_i hh;cases e2;exact⟨_,by rw[tx.int t.ok],⋯,⋯,w c _ t.hσ rfl t.ok t.nx t.HI j4⟩
  ·cases e2
 ·cases e2
theorem yq(hg:Gl X "range")(hm:X.mg "range"=R3)(hs:SJ [a,b] X.env=[(R5,T2 a X.env),(R5,T2 b X.env)])(Fo:SJ [b] X.env=[(R5,T2 b X.env)])(ha:PA X [a,b] (EZ C ms)):PI X tg (.Call (.Name "range" p) [a,b] [] pos) (GK C .Hl ms):=by
 rintro pins s σ H R I ⟨c0,rfl,rfl,ok,h⟩;refine sY hg hm ha hs Fo pins s c0.σ c0.H R I (qy ok h λrs c vs t w=>?_);rw[af]at w;obtain⟨xs,e2,w⟩:=cq.mp w;rw[ah]at w;have e2:AE rs=RY xs:=e2;unfold AE at e2;split at e2
 ·split at e2
  ·rename_i hh;cases e2;obtain⟨v,v',rfl,tx,ty⟩:=t.two;exact⟨_,_,by rw[tx.int t.ok,ty.int t.ok],⋯,w c _ t.hσ rfl t.ok t.nx t.HI j4⟩
  ·cases e2
 ·cases e2
theorem oO{k:Kd}{us:List U}{u0:U}{a':Sr}{Sq:Hp->List V->Prop}(K6:∀c',Ok C c'->Ns c c'->j3 [(k,u0)] c c'->bc [(k,u0)] c'.st->∃vs,Sq c'.H vs/\ai C (SK C c' k) c'.H us vs):Walk C c [(k,u0)] (us.zipIdx.map λp=>(kE k,.tup [.int p.2,p.1])) (Je Sq):=by
 intro c' DZ n hf hs;obtain⟨vs,h1,h2⟩:=K6 c' DZ n hf hs;refine⟨λi r hr=>?_,λi hi=>⟨vs,h1,by rw[<-h2.len];simpa using hi⟩⟩;rw[SQ,Si]at hr;obtain⟨p,hp,rfl⟩:=hr;rw[Yb,Si]at hp;obtain⟨u,hu,rfl⟩:=hp;obtain⟨v,hv,rep⟩:=h2.get hu;refine⟨vH k,⟨vs,v,h1,hv⟩,λx H' hy=>?_⟩;obtain⟨p,Qo,rfl,hy⟩:=hy;have Jn:=hy vs v h1 hv;subst Jn;obtain⟨Ej,n2⟩:=DZ.lay (o:=.tup [.int i,v]) Qo;refine⟨{c' with H:=upd c'.H p (.tup [.int i,v])},rfl,rfl,rfl,Ej,n2,aH.item ?_⟩;have r2:ai C (SK C c' k) c'.H [.int ((0+i:Nat):Int),u] [.int (i:Int),v]:=by
  rw[Z0];exact⟨_,_,rfl,rfl,_,_,rfl,rep,rfl⟩
 cases k<;>exact⟨p,_,rfl,Ef.of au,by first|exact r2.mv (DZ.Hi n2)|exact r2.mv (DZ.mv n2)⟩
theorem A0{es:List Td}{kx:Nat}{ps:Pos}(hK:C.K=X.K)(hg:Gl X "enumerate")(hm:X.mg "enumerate"=R3)(hs:SJ [a] X.env=[(R5,T2 a X.env)])(ha:PA X [a] (EZ C ms)):PI X (.Tuple es kx ps) (.Call (.Name "enumerate" p) [a] [] pos) (GK C .Ip ms):=by
 rintro pins s σ H R I ⟨c0,rfl,rfl,ok,h⟩;refine xM hg hm ha hs pins s c0.σ c0.H R I (qy ok h λrs c vs t w=>?_);rw[af]at w;obtain⟨xs,e2,w⟩:=cq.mp w;rw[ah]at w;obtain⟨x,rfl,hz⟩:=bq (f:=AF) e2;clear e2;have e2:=hz;clear hz;obtain⟨v,rfl,tx⟩:=t.one;unfold AF at e2;split at e2
 ·cases e2;obtain⟨a',ws,e1,h1,h2⟩:=tx.list t.ok;subst e1;refine⟨a',rfl,.inl ⟨⟨ws,hK▸h1⟩,w c _ t.hσ rfl t.ok t.nx t.HI ?_⟩⟩;refine oO (a':=a') λc' DZ n hf GF=>?_;obtain⟨a2,vs,e,h1,h2⟩:=(aH.walk t.ok n hf GF tx).list DZ;cases e;exact⟨vs,hK▸h1,h2⟩
 ·cases e2;obtain⟨a',ws,e1,h1,h2⟩:=tx.tuple t.ok;subst e1;rw[hK]at h1;refine⟨a',rfl,.inr ⟨⟨ws,h1⟩,w c _ t.hσ rfl t.ok t.nx t.HI ?_⟩⟩;refine oO (a':=a') λc' DZ n hf GF=>?_;obtain⟨a2,vs,e,h1,h2⟩:=(aH.walk t.ok n hf GF tx).tuple DZ;cases e;rw[hK]at h1;exact⟨vs,h1,h2⟩
 ·cases e2
theorem Ok.put(ok:Ok C c)(n:Nx c0 c)(hi:i<c.σ.length)(hk:k=.own\/k=.loc\/k=.any)(EV:Ok C c0)(h:aH C c0 c k u v):
  Ok C {c with σ:=c.σ.set i (RY v),st:=c.st.set i (RY (k,u))}/\Nx c0 {c with σ:=c.σ.set i (RY v),st:=c.st.set i (RY (k,u))}:=by
 have FA:i<c.st.length:=by rw[ok.len];exact hi
 have Ee:∀(j:Nat) k' u',(c.st.set i (RY (k,u)))[j]?=RY (RY (k',u'))->j≠i->c.st[j]?=RY (RY (k',u')):=λj k' u' e ne=>by rw[SG (Te ne)]at e;exact e
 have Fw:∀(j:Nat) v',(c.σ.set i (RY v))[j]?=RY (RY v')->j≠i->c.σ[j]?=RY (RY v'):=λj v' e ne=>by rw[SG (Te ne)]at e;exact e
 have sl:e_ C c.S c.H k u v:=by
  rcases hk with rfl|rfl|rfl
  ·obtain⟨r,e,h1,h2,h3,h4⟩:=h;obtain⟨z0,z1,z2,z3,z4⟩:=EV.la h1;exact⟨r,e,h2,z2,z0,h4⟩
  ·exact h
  ·exact h
 have Iy:∀(j:Nat) k' u' r,k'.root=R4->(c.st.set i (RY (k,u)))[j]?=RY (RY (k',u'))->(c.σ.set i (RY v))[j]?=RY (RY (.ref r))->j=i/\k=.own/\v=.ref r\/j≠i/\c.st[j]?=RY (RY (k',u'))/\c.σ[j]?=RY (RY (.ref r)):=λj k' u' r hr e1 e2=>by
  by_cases hj:j=i
  ·subst hj;rw[Sk FA]at e1;rw[Sk hi]at e2;cases e1;cases e2;rcases hk with rfl|rfl|rfl
   ·exact .inl ⟨rfl,rfl,rfl⟩
   ·cases hr
   ·cases hr
  ·exact .inr ⟨hj,Ee j k' u' e1 hj,Fw j _ e2 hj⟩
 have dD:∀(j:Nat) (u':U),(c.st.set i (RY (k,u)))[j]?=RY (RY (.B',u'))->c.st[j]?=RY (RY (.B',u'))/\(c.σ.set i (RY v))[j]?=c.σ[j]?:=λj u' e=>by
  by_cases hj:j=i
  ·subst hj;rw[Sk FA]at e;cases e;rcases hk with hk|hk|hk<;>cases hk
  ·exact⟨Ee j .B' u' e hj,SG (Te hj)⟩
 have b1:∀a,({c with σ:=c.σ.set i (RY v),st:=c.st.set i (RY (k,u))}:Cf).R1 a->c.R1 a\/k=.own/\v=.ref a:=λa D4=>by
  obtain⟨j,k',u',hr,e1,e2⟩:=D4;rcases Iy j k' u' a hr e1 e2 with⟨a1,a2,a3⟩|⟨a1,a2,a3⟩
  ·exact .inr ⟨a2,a3⟩
  ·exact .inl ⟨j,k',u',hr,a2,a3⟩
 have Hs:Gk C {c with σ:=c.σ.set i (RY v),st:=c.st.set i (RY (k,u))}:=ok.dd.of rfl dD (λa z=>(b1 a z).imp id λ⟨q1,q2⟩ j z'=>by
  subst q1;obtain⟨r',e,_,_,h3,_⟩:=h;rw[q2]at e;cases e;exact h3 (.inr ⟨j,z'⟩)) (.up λ_ z=>z) λj a z=>⟨(ok.root (.inr ⟨j,z⟩)).1,λo q=>q⟩
 refine⟨⟨ok.same,ok.FC,ok.par,ok.io,by simp[ok.len],λj k' u' e=>?_,λj1 j2 k1 k2 u1 u2 r MI J' e1 e2 e3 e4=>?_,Hs⟩,⟨⟨n.keep,n.there,λa z=>?_,n.sub,n.new⟩,n.all⟩⟩
 ·by_cases hj:j=i
  ·subst hj;rw[Sk FA]at e;cases e;exact⟨v,by rw[Sk hi],sl⟩
  ·obtain⟨v',e1,e2⟩:=ok.sl j k' u' (Ee j k' u' e hj);exact⟨v',by rw[SG (Te hj)];exact e1,e2⟩
 ·have z1:=Iy j1 k1 u1 r MI e1 e3;have z2:=Iy j2 k2 u2 r J' e2 e4;rcases z1 with⟨a1,a2,a3⟩|⟨a1,a2,a3⟩
  ·rcases z2 with⟨b1,b2,b3⟩|⟨b1,b2,b3⟩
   ·exact a1.trans b1.symm
   ·subst a2;obtain⟨r',e,h1,h2,h3,h4⟩:=h;rw[a3]at e;cases e;exact(h3 (.inl ⟨j2,k2,u2,J',b2,b3⟩)).elim
  ·rcases z2 with⟨b1,b2,b3⟩|⟨b1,b2,b3⟩
   ·subst b2;obtain⟨r',e,h1,h2,h3,h4⟩:=h;rw[b3]at e;cases e;exact(h3 (.inl ⟨j1,k1,u1,MI,a2,a3⟩)).elim
   ·exact ok.inj j1 j2 k1 k2 u1 u2 r MI J' a2 b2 a3 b3
 ·rcases z with z|⟨j,u',r',e1,e2,e3⟩
  ·rcases b1 a z with z|⟨a2,a3⟩
   ·exact n.roots a (.inl z)
   ·subst a2;obtain⟨r',e,h1,h2,h3,h4⟩:=h;rw[a3]at e;cases e;exact .inr h1
  ·obtain⟨q1,q2⟩:=dD j u' e1;exact n.roots a (.inr ⟨j,u',r',q1,q2▸e2,e3⟩)
theorem rW(EV:Ok C c0)(ok:Ok C c)(n:Nx c0 c)(hi:i<c.σ.length)(hr:aH C c0 c r.1 r.2 v)(h:W (eS i r) c.st DV):
  ∃c',c'.σ=c.σ.set i (RY v)/\c'.H=c.H/\Ok C c'/\Nx c0 c'/\DV () c'.st:=by
 obtain⟨k,u⟩:=r;cases k with
 |own =>
  obtain⟨x,st',e,hp⟩:=h;cases e;obtain⟨a1,a2⟩:=ok.put n hi (.inl rfl) EV hr;exact⟨{c with σ:=c.σ.set i (RY v),st:=c.st.set i (RY (.own,u))},rfl,rfl,a1,a2,hp⟩
 |loc =>
  obtain⟨x,st',e,hp⟩:=h;cases e;obtain⟨a1,a2⟩:=ok.put n hi (.inr (.inl rfl)) EV hr;exact⟨{c with σ:=c.σ.set i (RY v),st:=c.st.set i (RY (.loc,u))},rfl,rfl,a1,a2,hp⟩
 |any =>
  obtain⟨x,st',e,hp⟩:=h;cases e;obtain⟨a1,a2⟩:=ok.put n hi (.inr (.inr rfl)) EV hr;exact⟨{c with σ:=c.σ.set i (RY v),st:=c.st.set i (RY (.any,u))},rfl,rfl,a1,a2,hp⟩
 |bor j =>
  obtain⟨x,st',e,hp⟩:=h;rw[show eS i (.bor j,u) c.st=match c.st[j]? with|some (RY (.own,u))=>RY (Ex.ok (),(c.st.set j (RY (.loc,u))).set i (RY (.loc,u)))|_=>R3 from rfl]at e;split at e
  ·rename_i w hj;cases e;obtain⟨v',e1,r,er,_⟩:=ok.sl j _ _ hj;have hv:c.σ[j]?=RY (RY v):=hr.2;rw[hv]at e1;cases e1;subst er;obtain⟨DZ,n',rep⟩:=ok.vB n hj hv;obtain⟨a1,a2⟩:=Ok.put (c:={c with S:=λa=>c.S a\/a=r,st:=c.st.set j (RY (.loc,w))}) DZ n' (k:=.loc) (u:=w) (v:=.ref r) hi (.inr (.inl rfl)) EV rep;exact⟨{S:=λa=>c.S a\/a=r,H:=c.H,σ:=c.σ.set i (RY (.ref r)),st:=(c.st.set j (RY (.loc,w))).set i (RY (.loc,w)),kid:=c.kid},rfl,rfl,a1,a2,hp⟩
  ·cases e
 |_=>exact hr.elim
end
section
def tG(C:Ct)(t:Bool)(is:List Nat):TG:=λv σ H Q=>∃c0 c r,c.σ=σ/\c.H=H/\Ok C c0/\Ok C c/\Nx c0 c/\aH C c0 c r.1 r.2 v/\W (cB t is r) c.st λ_ st' =>
 ∀c',c'.st=st'->Ok C c'->Nx c0 c'->(∀j,j∉is->c'.σ[j]?=c.σ[j]?)->c'.σ.length=c.σ.length->Q c'.σ c'.H
structure qz(X:Cx)(e:Td)(i:Nat):Prop where
 is:∃x pos,e=.Name x pos/\X.N[i]?=RY x/\Loc X.env.scope x/\(X.fn x=R4\/X.env.scope.names.lookup x=RY .local)
theorem A1(hN:X.N.Nodup)(h:qz X e i):PG X e (tG C R5 [i]):=by
 obtain⟨x,pos,rfl,h1,h2,h3⟩:=h.is;rintro pins s σ H v u Q I rv ⟨c0,c,r,rfl,rfl,EV,ok,n,rep,w⟩;have hi:i<c.σ.length:=by rw[I.len];exact(Sf.mp h1).1
 obtain⟨c',e1,e2,DZ,n',q⟩:=rW (r:=r) EV ok n hi rep w;refine rl hN h1 h2 h3 pins s c.σ c.H v u Q I rv ?_;have z:=q c' rfl DZ n' (λj hj=>by rw[e1,SG (by intro z;exact hj (by simp[z]))]) (by rw[e1];simp);rw[e1,e2]at z;exact z
def MJ:List Nat->IX
 |[]=>BN
 |i::is=>zf (rj i) (MJ is)
inductive d7(X:Cx):List Td->List Nat->Prop where
 |nil:d7 X [] []
 |cons {e:Td} {es:List Td} {i:Nat} {is:List Nat} (h:qz X e i) (t:d7 X es is):d7 X (e::es) (i::is)
theorem tT(hN:X.N.Nodup)(h:d7 X es is):Jy X es (MJ is):=by
 induction h with
 |nil=>exact xk
 |cons h t ih =>
  obtain⟨x,pos,rfl,h1,h2,h3⟩:=h.is;exact uG (rl hN h1 h2 h3) ih rfl
theorem qA(h:d7 X es is):(Ve es X.env).length=is.length/\(Ve es X.env).findIdx? (·.1)=R3:=by
 induction h with
 |nil=>exact⟨rfl,rfl⟩
 |cons h t ih =>
  obtain⟨x,pos,rfl,h1,h2,h3⟩:=h.is;refine⟨?_,?_⟩
  ·show(_::_).length=_;simp[ih.1]
  ·show Zu _ (_::_)=R3;rw[List.findIdx?_cons,Ü (by simp),ih.2];rfl
theorem rX(hk:kE k=k)(EV:Ok C c0):∀{is:List Nat}{us:List U}{vs:List V}{c:Cf}{DV:Unit->aj->Prop}{Q:L2.St->Hp->Prop},Ok C c->Nx c0 c->(∀i∈is,i<c.σ.length)->ai C (SK C c k) c.H us vs->W (sets is (us.map λu=>(k,u))) c.st DV ->
  (∀c',DV () c'.st->Ok C c'->Nx c0 c'->(∀j,j∉is->c'.σ[j]?=c.σ[j]?)->c'.σ.length=c.σ.length->Q c'.σ c'.H)->MJ is vs c.σ c.H Q
 |[],[],vs,c,DV,Q,ok,n,hi,rep,w,q=>by
  rw[show sets [] (Wf (λu=>(k,u)) [])=pure () from rfl,ah]at w;exact⟨rep,q c w ok n (λ_ _=>rfl) rfl⟩
 |[],u::us,vs,c,DV,Q,ok,n,hi,rep,w,q=>(az.mp w).elim
 |i::is,[],vs,c,DV,Q,ok,n,hi,rep,w,q=>(az.mp w).elim
 |i::is,u::us,vs,c,DV,Q,ok,n,hi,rep,w,q=>by
  rw[show sets (i::is) (Wf (λu=>(k,u)) (u::us))=eS i (k,u) >>= λ_=>sets is (us.map λu=>(k,u)) from rfl,af]at w;obtain⟨v,r,rfl,h1,h2⟩:=rep;have EF:k=.own\/k=.loc\/k=.any:=by cases k<;>simp[kE]at hk<;>simp
  have G4:k≠.own:=by cases k<;>simp[kE]at hk<;>simp
  have rt:aH C c0 c k u v:=by rw[<-hk];exact aH.item h1
  obtain⟨a1,a2⟩:=ok.put n (hi i (by simp)) EF EV rt;have es:eS i (k,u)=λst=>RY (.ok (),st.set i (RY (k,u))):=by cases k<;>simp[kE]at hk<;>rfl
  obtain⟨_,st',e,w'⟩:=w;rw[es]at e;cases e;refine⟨v,r,rfl,rX (c:={c with σ:=c.σ.set i (RY v),st:=c.st.set i (RY (k,u))}) hk EV a1 a2 (λj hj=>by simpa using hi j (by simp[hj])) (by cases k<;>exact h2) w' λc' p DZ n' hf hl=>?_⟩;refine q c' p DZ n' (λj hj=>?_) (by rw[hl];simp);rw[hf j (λz=>hj (by simp[z])),SG (λz=>hj (by simp[z]))]
theorem Co(hc:X.calm=R4)(hK:C.K=X.K)(hN:X.N.Nodup)(h:d7 X es is)(hl:∀i∈is,i<X.N.length):PG X (.Tuple es kk pos) (tG C R4 is):=by
 rintro pins s σ H v u Q I rv ⟨c0,c,r,rfl,rfl,EV,ok,n,rep,w⟩;obtain⟨e1,e2⟩:=qA h;refine zQ hc (tT hN h) e1 e2 pins s c.σ c.H v u Q I rv ?_;obtain⟨k,ux⟩:=r;cases ux with
 |tup us =>
  rw[show cB R4 is (k,.tup us)=sets is (us.map λu=>(kE k,u)) from by cases is<;>rfl]at w;obtain⟨a',vs,rfl,h1,h2⟩:=rep.tuple ok;rw[hK]at h1;have hlen:us.length=is.length:=by
   have aux:∀(is:List Nat) (l:List (Kd×U)) (st:aj) (P:Unit->aj->Prop),W (sets is l) st P->l.length=is.length:=by
    intro is;induction is with
    |nil=>intro l st P w;cases l with
     |nil=>rfl
     |cons _ _=>exact(az.mp w).elim
    |cons i is ih=>intro l st P w;cases l with
     |nil=>exact(az.mp w).elim
     |cons x l =>
      rw[show sets (i::is) (x::l)=eS i x >>= λ_=>sets is l from rfl,af]at w;obtain⟨_,_,_,w⟩:=w;rw[SE,SE,ih l _ _ w]
   simpa using aux _ _ _ _ w
  refine⟨a',vs,rfl,h1,by rw[<-h2.len,hlen],?_⟩;refine rX (k:=kE k) (by cases k<;>rfl) EV ok n (λi hi=>by rw[I.len];exact hl i hi) (by cases k<;>exact h2) w λc' p DZ n' hf G9=>p c' rfl DZ n' hf G9
 |_=>cases is<;>exact(az.mp w).elim
end
section
variable{X:Cx}{C:Ct}{pins:List (Sr×Obj)}{s:Sm}{c0 c c1:Cf}
variable{a b d e o tg iter elt:Td}{es ifs:List Td}{m ma mb md me:M (Kd×U)}{ms:M (List (Kd×U))}{ta tb tc:M Bool}{pos p p2 apos DK:Pos}
theorem tU{m:M α}{st:aj}{Q:α->aj->Prop}:W (inScope k m) st Q↔W m (SH k R3++st) λa st'=>Q a (st'.drop k):=by
 constructor
 ·rintro⟨a,st',e,h⟩;unfold inScope at e;cases q:m (SH k R3++st) with
  |none=>rw[q]at e;cases e
  |some r=>obtain⟨r1,r2⟩:=r;rw[q]at e;cases e;exact⟨a,r2,q,h⟩
 ·rintro⟨a,st',e,h⟩;exact⟨a,st'.drop k,by unfold inScope;rw[e],h⟩
def Cf.ext(k:Nat)(c:Cf):Cf:={c with σ:=SH k R3++c.σ,st:=SH k R3++c.st,kid:=λj=>c.kid (j - k)}
def Cf.cut(k:Nat)(c:Cf):Cf:={c with σ:=c.σ.drop k,st:=c.st.drop k,kid:=λj=>c.kid (k+j)}
theorem fG(h:(SH k R3++l)[j]?=RY (RY x)):∃i,j=k+i/\l[i]?=RY (RY x):=by
 by_cases hj:j<k
 ·rw[Ti (by simpa using hj)]at h;rw[Ux]at h;rw[Ú hj]at h;cases h
 ·refine⟨j - k,⋯,?_⟩;rw[Ta (by simp;omega)]at h;simpa using h
theorem d8:(SH k R3++l)[k+i]?=l[i]?:=by
 rw[Ta (by simp)];simp
theorem vI:(c.ext k).R1 r↔c.R1 r:=by
 constructor
 ·rintro⟨j,kd,u,h1,h2,h3⟩;obtain⟨i,rfl,e⟩:=fG h2;rw[Cf.ext,d8]at h3;exact⟨i,kd,u,h1,e,h3⟩
 ·rintro⟨i,kd,u,h1,h2,h3⟩;exact⟨k+i,kd,u,h1,by rw[Cf.ext,d8];exact h2,by rw[Cf.ext,d8];exact h3⟩
theorem ng{a:Sr}(h:(c.ext k).RD j a):∃i,j=k+i/\c.RD i a:=by
 obtain⟨u,r,e1,e2,e3⟩:=h;obtain⟨i,rfl,e⟩:=fG e1;rw[Cf.ext,d8]at e2;refine⟨i,rfl,u,r,e,e2,?_⟩;have:(c.ext k).kid (k+i)=c.kid i:=by show c.kid (k+i - k)=_;rw[XS]
 rw[this]at e3;exact e3
theorem Cp(h:(c.ext k).R r):c.R r:=by
 rcases h with h|⟨j,h⟩
 ·exact .inl (vI.mp h)
 ·obtain⟨i,_,h⟩:=ng h;exact .inr ⟨i,h⟩
theorem Ok.ext(k:Nat)(ok:Ok C c):Ok C (c.ext k)/\Nx c (c.ext k):=by
 refine⟨⟨ok.same,ok.FC,ok.par,ok.io,by simp[Cf.ext,ok.len],λj kd u e=>?_,λi j k1 k2 u u' r h1 h2 e1 e2 e3 e4=>?_,⟨λj u r e1 e2=>?_,λi j a z1 z2=>?_,λj a z1 z2=>?_⟩⟩,⟨⟨λ_ _ h _=>h,λ_ o h=>⟨o,h⟩,λa h=>.inl (Cp h),λ_ h=>h,λ_ h=>.inl h⟩,λ_ _ h=>h⟩⟩
 ·obtain⟨i,rfl,e'⟩:=fG e;obtain⟨v,e1,e2⟩:=ok.sl i kd u e';exact⟨v,by rw[Cf.ext,d8];exact e1,e2⟩
 ·obtain⟨i',rfl,EC⟩:=fG e1;obtain⟨j',rfl,Fj⟩:=fG e2;rw[Cf.ext,d8]at e3 e4;rw[ok.inj i' j' k1 k2 u u' r h1 h2 EC Fj e3 e4]
 ·obtain⟨i,rfl,e⟩:=fG e1;rw[Cf.ext,d8]at e2;have:(c.ext k).kid (k+i)=c.kid i:=by show c.kid (k+i - k)=_;rw[XS]
  rw[this];exact ok.dd.kd i u r e e2
 ·obtain⟨i',rfl,y1⟩:=ng z1;obtain⟨j',rfl,y2⟩:=ng z2;rw[ok.dd.dj i' j' a y1 y2]
 ·obtain⟨i,rfl,y1⟩:=ng z1;exact ok.dd.d1 i a y1 (vI.mp z2)
theorem vJ{a:Sr}(h:(c.cut k).R1 a):c.R1 a:=by
 obtain⟨j,kd,u,h1,h2,h3⟩:=h;rw[Cf.cut,Ui]at h2 h3;exact⟨k+j,kd,u,h1,h2,h3⟩
theorem nh{a:Sr}(h:(c.cut k).RD j a):c.RD (k+j) a:=by
 obtain⟨u,r,h1,h2,h3⟩:=h;rw[Cf.cut,Ui]at h1 h2;exact⟨u,r,h1,h2,h3⟩
theorem Ok.cut(k:Nat)(ok:Ok C c):Ok C (c.cut k)/\Nx c (c.cut k):=by
 refine⟨⟨ok.same,ok.FC,ok.par,ok.io,by simp[Cf.cut,ok.len],λj kd u e=>?_,λi j k1 k2 u u' r h1 h2 e1 e2 e3 e4=>?_,⟨λj u r e1 e2=>?_,λi j a z1 z2=>?_,λj a z1 z2=>ok.dd.d1 _ a (nh z1) (vJ z2)⟩⟩,⟨⟨λ_ _ h _=>h,λ_ o h=>⟨o,h⟩,λa h=>.inl (h.elim (λz=>.inl (vJ z)) λ⟨j,z⟩=>.inr ⟨k+j,nh z⟩),λ_ h=>h,λ_ h=>.inl h⟩,λ_ _ h=>h⟩⟩
 ·rw[Cf.cut,Ui]at e;obtain⟨v,e1,e2⟩:=ok.sl _ kd u e;exact⟨v,by rw[Cf.cut,Ui];exact e1,e2⟩
 ·rw[Cf.cut,Ui]at e1 e2 e3 e4;have:=ok.inj _ _ k1 k2 u u' r h1 h2 e1 e2 e3 e4;omega
 ·rw[Cf.cut,Ui]at e1 e2;exact ok.dd.kd _ u r e1 e2
 ·have:=ok.dd.dj _ _ a (nh z1) (nh z2);omega
theorem yr(h:∀j,j∉Sl k->σ'[j]?=(SH k R3++σ)[j]?)(hl:σ'.length=(SH k (R3:Option V)++σ).length):∃own:L2.St,own.length=k/\σ'=own++σ:=by
 refine⟨σ'.take k,by rw[Tv,hl];simp,?_⟩;apply List.ext_getElem?;intro j;by_cases hj:j<k
 ·rw[Ti (by rw[Tv,hl];simp;omega),List.getElem?_take,Ú hj]
 ·rw[h j (by simpa using hj),Ta (by simp;omega),Ta (by rw[Tv,hl];simp;omega)];congr 1
  rw[Tv,hl];simp
theorem tV(e1:c1.σ=c0.σ)(DT:Ok C c1)(n1:Nx c0 c1)(hw:Walk C c1 rs xs J)(h3:W (bz k t tc me rs xs []) c1.st λus st'=>W (pure (Kd.own,U.lst us)) st' (cm C c0 Q)):
  rD k J (tG C t (Sl k)) (EN C tc) (DP C me) Q c0.σ c1.H:=by
 refine⟨λi m ys H=>∃c acc,c.H=H/\c.σ=c0.σ/\Ok C c/\Nx c1 c/\m=xs.length - i/\i<=xs.length/\ai C c.S c.H acc ys/\acc.length<=R6/\W (bz k t tc me rs (xs.drop i) acc) c.st λus st'=>W (pure (Kd.own,U.lst us)) st' (cm C c0 Q),⟨xs.length,c1,[],rfl,e1,DT,Nx.refl c1,by simp,SM _,rfl,SM _,by simpa using h3⟩,?_⟩;rintro i m ys H ⟨c,acc,rfl,e3,D7,nc,rfl,hi,rep,hlen,w⟩;refine⟨by rw[<-rep.len];exact hlen,?_⟩;have fixed:j3 rs c1 c:=λj u _=>by rw[e3,e1]
 by_cases D2:i<xs.length
 ·right
  rw[U3 D2]at w;rw[show bz k t tc me rs (xs[i]::xs.drop (i+1)) acc=av rs >>= λ_=>inScope k (cB t (Sl k) xs[i] >>= λ_=>tc >>= λb=>if b=R4 then(me >>= λr=>lift r >>= λu=>pure (RY u)) else pure R3) >>= λr=>match r with|some u=>if acc.length<R6 then bz k t tc me rs (xs.drop (i+1)) (acc++[u]) else M.fail|none=>bz k t tc me rs (xs.drop (i+1)) acc from rfl,af,cf]at w;obtain⟨GL,w⟩:=w;obtain⟨wk,_⟩:=hw c D7 nc fixed GL;obtain⟨Iz,MK,Ll⟩:=wk i xs[i] (by simp[D2]);refine⟨MK,λE9 H'=>∃c acc,c.H=H'/\c.σ=c0.σ/\Ok C c/\Nx c1 c/\ai C c.S c.H acc E9/\acc.length<=R6/\W (bz k t tc me rs (xs.drop (i+1)) acc) c.st λus st'=>W (pure (Kd.own,U.lst us)) st' (cm C c0 Q),λE9 H' ⟨c',J2,z1,z2,z3,z4,z5,z6,z7⟩=>⟨xs.length - (i+1),⋯,c',J2,z1,z2,z3,z4,rfl,D2,z5,z6,z7⟩,λx H' hy=>?_⟩;obtain⟨c2,rfl,e4,e5,Ej,n2,rt⟩:=Ll x H' hy;rw[af,tU,af]at w;obtain⟨Oc,nx⟩:=Ej.ext k;have Qp:aH C (c2.ext k) (c2.ext k) xs[i].1 xs[i].2 x:=by
   rcases Iz with z|z
   ·rw[z]at rt ⊢;exact rt
   ·rw[z]at rt ⊢;exact rt
  have eσ:(c2.ext k).σ=SH k R3++c0.σ:=by rw[Cf.ext];show SH k R3++c2.σ=_;rw[e4,e3]
  refine⟨c2.ext k,c2.ext k,xs[i],eσ,rfl,Oc,Oc,Nx.refl _,Qp,?_⟩;have Mt:(c2.ext k).st=SH k R3++c.st:=by rw[Cf.ext];show SH k R3++c2.st=_;rw[e5]
  rw[Mt];refine w.mono λ_ st3 w3 c3 e6 FN n3 Kc Lm=>?_;subst e6;rw[eσ]at Kc Lm;obtain⟨own,F8,Jm⟩:=yr Kc Lm;refine⟨own,F8,Jm,?_⟩;have Oe:Nx c c3:=(n2.trans nx).trans n3;rw[af]at w3;refine⟨c3,rfl,rfl,FN,w3.mono λb Ja w4 c4 e7 e8 IA n4=>?_⟩;subst e8;cases b with
  |false =>
   rw[Ü S6]at w4 ⊢;rw[ah]at w4;obtain⟨ML,nk⟩:=IA.cut k;have nn:Nx c (c4.cut k):=(Oe.trans n4).trans nk;refine⟨c4.cut k,acc,rfl,?_,ML,nc.trans nn,rep.mv (D7.mv nn),hlen,w4⟩;show c4.σ.drop k=_;rw[e7,Jm,Xa F8]
  |true =>
   rw[Ú rfl]at w4 ⊢;rw[af]at w4;refine⟨c4,e7,rfl,IA,w4.mono λr Gg w5 c5 v e9 Qq Qr n5 Qs=>?_⟩;subst Qq;rw[af]at w5;obtain⟨S',st',u,sS,Qt,n6,MM,w6,_,_⟩:=gV IA Qr n5 Qs.w w5;rw[ah]at w6
   dsimp only at w6
   split at w6
   ·rename_i hz;obtain⟨ML,nk⟩:=Qt.cut k;have nn:Nx c (Cf.cut k {c5 with S:=S',st:=st' }):=((Oe.trans n4).trans n6).trans nk;refine⟨Cf.cut k {c5 with S:=S',st:=st' },acc++[u],rfl,?_,ML,nc.trans nn,(rep.mv (D7.mv nn)).snoc MM,by rw[Sy];exact hz,w6⟩;show c5.σ.drop k=_;rw[e9,Jm,Xa F8]
   ·exact(az.mp w6).elim
 ·left
  have FA:i=xs.length:=by omega
  subst FA;rw[YV,show bz k t tc me rs [] acc=av rs >>= λ_=>pure acc from rfl,af,cf,ah,ah]at w;obtain⟨_,wk⟩:=hw c D7 nc fixed w.1;exact⟨wk _ (Sv _),λp hp=>cm.list w.2 e3 D7 (n1.trans nc) rep p hp⟩
theorem lQ(ok:Ok C c0)
  (h:W (ms >>= λrs=>av rs >>= λ_=>M.D0 (Fu ik rs) >>= λxs=>bz k t tc me rs xs [] >>= λus=>pure (Kd.own,U.lst us)) c0.st (cm C c0 Q)) :
  uY k (GK C ik ms) (tG C t (Sl k)) (EN C tc) (DP C me) c0.σ c0.H Q:=by
 rw[af]at h;refine⟨c0,rfl,rfl,ok,?_⟩;rw[af];refine h.mono λrs st1 h1=>?_;rw[af,cf]at h1 ⊢;refine⟨h1.1,?_⟩;have h2:=h1.2;rw[af]at h2 ⊢;refine h2.mono λxs st2 h3=>?_;rw[ah];intro c1 J e1 e2 DT n1 DS hw;rw[af]at h3;subst e2
 dsimp only at DS hw
 exact tV e1 DT n1 hw h3
theorem vK(S:dE X N own scope)(hc:X.calm=R4)(hi:PI X tg iter (GK C ik ms))
  (hg:∀D s H ex,PG (EB X N scope D s H ex) tg (tG C t (Sl own.length))) (hf:∀D s H ex,Ha (EB X N scope D s H ex) ifs (EN C tc)) (he:∀D s H ex,PE (EB X N scope D s H ex) elt (DP C me))
  (hs:∀x,Uu iter X.env x=pure x) :
  PE X (.ListComp elt [⟨tg,iter,ifs,0⟩] scope pos) (DP C (ms >>= λrs=>av rs >>= λ_=>M.D0 (Fu ik rs) >>= λxs=>bz own.length t tc me rs xs [] >>= λus=>pure (.own,.lst us))):=by
 refine PE.weak (xE S hc hi hg hf he hs) ?_;rintro σ H Q ⟨c0,rfl,rfl,ok,h⟩;exact lQ ok h
end
section
variable{a b d e o tg iter elt:Td}{es ifs:List Td}{m ma mb md me:M (Kd×U)}{ms:M (List (Kd×U))}{ta tb tc:M Bool}{pos p p2 apos DK:Pos}{st:Vt}{rest body:List Vt}{f g mm:M Fl}{ns Ln:Nat->Bool}
def Cq(C:Ct)(c:Cf):Kd->U->V->Prop
 |.own,u,v=>∃r,v=.ref r/\C.H₀ r=R3/\¬c.S r/\¬c.R r/\c_ C c.S c.H r u
 |.loc,u,v=>Rep C c.S c.H u v
 |.any,u,v=>Rep C (PS C c.S) c.H u v
 |_,_,_=>False
def Fin(C:Ct)(D:Ends)(f:Fl)(c:Cf):Prop:=match f with
 |.nx=>D.nx c.σ c.H
 |.bk=>D.bk c.σ c.H
 |.ct=>D.ct c.σ c.H
 |.rt k u=>∀v,Cq C c k u v->D.rt v c.H
def Kept(ns:Nat->Bool)(c c':Cf):Prop:=(∀j,ns j=R4->c'.σ[j]?=c.σ[j]?)/\c'.σ.length=c.σ.length
theorem Kept.refl:Kept ns c c:=⟨λ_ _=>rfl,rfl⟩
theorem Kept.trans(h:Kept ns c c')(h':Kept ns c' Gm):Kept ns c Gm:=⟨λj z=>(h'.1 j z).trans (h.1 j z),h'.2.trans h.2⟩
theorem Kept.le(i:∀j,Ln j=R4->ns j=R4)(h:Kept ns c c'):Kept Ln c c':=⟨λj z=>h.1 j (i j z),h.2⟩
theorem Kept.of(h:c'.σ=c.σ):Kept ns c c':=⟨λj z=>by rw[h],by rw[h]⟩
def j5(C:Ct)(c0:Cf)(ns:Nat->Bool)(D:Ends)(f:Fl)(st':aj):Prop:=∀c,c.st=st'->Ok C c->Ns c0 c->Kept ns c0 c->Fin C D f c
def Es(C:Ct)(ns:Nat->Bool)(m:M Fl):TS:=λD σ H=>∃c0:Cf,c0.σ=σ/\c0.H=H/\Ok C c0/\W m c0.st (j5 C c0 ns D)
theorem qB(ok:Ok C c1)(n:Ns c0 c1)(k:Kept ns c0 c1)(h:W mm c1.st (j5 C c0 ns D)):Es C ns mm D c1.σ c1.H :=
 ⟨c1,rfl,rfl,ok,h.mono λf st h2 c2 e Ej n2 k2=>h2 c2 e Ej (n.trans n2) (k.trans k2)⟩
theorem PS.weak(h:L2.PS X st t)(i:∀D σ H,t' D σ H->t D σ H):L2.PS X st t':=λpins s σ H D I q=>h pins s σ H D I (i D σ H q)
theorem EE.weak(h:EE X rest t)(i:∀D σ H,t' D σ H->t D σ H):EE X rest t':=λpins s σ H D I q=>h pins s σ H D I (i D σ H q)
theorem ni(i:∀j,Ln j=R4->ns j=R4)(h:Es C Ln mm D σ H):Es C ns mm D σ H :=
 let ⟨c0,e1,e2,ok,w⟩:=h;⟨c0,e1,e2,ok,w.mono λf st h2 c2 e Ej n2 k2=>h2 c2 e Ej n2 (k2.le i)⟩
theorem Cr:EE X [] (Es C ns (pure .nx)):=by
 refine EE.weak xh ?_;rintro D σ H ⟨c0,rfl,rfl,ok,h⟩;rw[ah]at h;exact h c0 rfl ok (Ns.refl c0) Kept.refl
def yt(m:M Fl)(f:Fl):M Fl:=match f with
 |.nx=>m
 |f=>pure f
theorem A2(h1:L2.PS X st (Es C ns f))(h2:EE X rest (Es C ns g)):EE X (st::rest) (Es C ns (f >>= yt g)):=by
 refine EE.weak (uE h1 h2) ?_;rintro D σ H ⟨c0,rfl,rfl,ok,h⟩;rw[af]at h;refine⟨c0,rfl,rfl,ok,h.mono λfl st1 w c1 e DT n1 k1=>?_⟩;subst e;cases fl with
 |nx=>exact qB DT n1 k1 w
 |bk=>rw[show yt g .bk=pure .bk from rfl,ah]at w;exact w c1 rfl DT n1 k1
 |ct=>rw[show yt g .ct=pure .ct from rfl,ah]at w;exact w c1 rfl DT n1 k1
 |rt k u=>rw[show yt g (.rt k u)=pure (.rt k u) from rfl,ah]at w;exact w c1 rfl DT n1 k1
theorem Cs:L2.PS X (.Break pos) (Es C ns (pure .bk)):=by
 refine PS.weak uF ?_;rintro D σ H ⟨c0,rfl,rfl,ok,h⟩;rw[ah]at h;exact h c0 rfl ok (Ns.refl c0) Kept.refl
theorem Cu:L2.PS X (.Continue pos) (Es C ns (pure .ct)):=by
 refine PS.weak oe ?_;rintro D σ H ⟨c0,rfl,rfl,ok,h⟩;rw[ah]at h;exact h c0 rfl ok (Ns.refl c0) Kept.refl
theorem Cv:L2.PS X (.Pass pos) (Es C ns (pure .nx)):=by
 refine PS.weak xi ?_;rintro D σ H ⟨c0,rfl,rfl,ok,h⟩;rw[ah]at h;exact h c0 rfl ok (Ns.refl c0) Kept.refl
theorem Cw(ha:PE X a (DP C ma))(hs:Vx a R3 pos.line X.env=pure R5):L2.PS X (.Expr a pos) (Es C ns (ma >>= λ_=>pure .nx)):=by
 refine PS.weak (jh ha hs) ?_;rintro D σ H ⟨c0,rfl,rfl,ok,h⟩;refine aO ok h λx c v t w=>?_;rw[ah]at w;have:=w c rfl t.ok t.nx (Kept.of t.hσ);rw[<-t.hσ];exact this
theorem A3:L2.PS X (.Return R3 pos) (Es C ns (pure (.rt .loc .DR))):=by
 refine PS.weak xj ?_;rintro D σ H ⟨c0,rfl,rfl,ok,h⟩;rw[ah]at h;exact h c0 rfl ok (Ns.refl c0) Kept.refl .DR rfl
theorem Cy(ha:PE X a (DP C ma)):L2.PS X (.Return (RY a) pos) (Es C ns (ma >>= retS)):=by
 refine PS.weak (zO ha) ?_;rintro D σ H ⟨c0,rfl,rfl,ok,h⟩;refine aO ok h λx c v t w=>?_;obtain⟨k,u⟩:=x;obtain⟨hσ,D7,n,r⟩:=t;cases k with
 |own =>
  rw[show retS (.own,u)=pure (.rt .own u) from rfl,ah]at w;obtain⟨r0,e,h1,h2,h3,h4⟩:=r;exact w c rfl D7 n (Kept.of hσ) v ⟨r0,e,(ok.la h1).1,h2,h3,h4⟩
 |loc =>
  rw[show retS (.loc,u)=pure (.rt .loc u) from rfl,ah]at w;exact w c rfl D7 n (Kept.of hσ) v r
 |any =>
  rw[show retS (.any,u)=if D' u=R4 then pure (.rt .loc u) else pure (.rt .any u) from rfl]at w;split at w
  ·rw[ah]at w;exact w c rfl D7 n (Kept.of hσ) v (Rep.D' (by assumption) r)
  ·rw[ah]at w;exact w c rfl D7 n (Kept.of hσ) v r
 |bor j =>
  obtain⟨fl,st',e,w⟩:=w;rw[show retS (.bor j,u) c.st=match c.st[j]? with|some (RY (.own,u))=>RY (Ex.ok (Fl.rt .own u),c.st.set j R3)|_=>R3 from rfl]at e;split at e
  ·rename_i u' hj;cases e;have Ga:j<c.st.length:=(Sf.mp hj).1;have Ee:∀(i:Nat) k u',(c.st.set j R3)[i]?=RY (RY (k,u'))->i≠j/\c.st[i]?=RY (RY (k,u')):=λi k u' e=>by
    by_cases E4:i=j
    ·subst E4;rw[Sk Ga]at e;cases e
    ·rw[SG (Te E4)]at e;exact⟨E4,e⟩
   obtain⟨v',e1,r0,er,q1,q2,q3,q4⟩:=D7.sl j _ _ hj;have hv:c.σ[j]?=RY (RY v):=r.2;rw[hv]at e1;cases e1;subst er;have G2:∀a,({c with st:=c.st.set j R3}:Cf).R1 a->c.R1 a:=λa ⟨i,k,u2,hk,e1,e2⟩=>⟨i,k,u2,hk,(Ee i k u2 e1).2,e2⟩
   have hR:∀a,({c with st:=c.st.set j R3}:Cf).R a->c.R a:=λa z=>z.elim (λz=>.inl (G2 a z)) λ⟨i,u2,r2,e1,e2,e3⟩=>.inr ⟨i,u2,r2,(Ee i .B' u2 e1).2,e2,e3⟩;have Hs:Gk C {c with st:=c.st.set j R3}:=D7.dd.of rfl (λi u2 e=>⟨(Ee i .B' u2 e).2,rfl⟩) (λa z=>.inl (G2 a z)) (.up λ_ z=>z) λi a z=>⟨(D7.root (.inr ⟨i,z⟩)).1,λo q=>q⟩
   have Qu:Ok C {c with st:=c.st.set j R3}:=⟨D7.same,D7.FC,D7.par,D7.io,by simp[D7.len],λi k u2 e=>D7.sl i k u2 (Ee i k u2 e).2,λi i' k k' u1 u2 r hk EF e1 e2 e3 e4=>D7.inj i i' k k' u1 u2 r hk EF (Ee i k u1 e1).2 (Ee i' k' u2 e2).2 e3 e4,Hs⟩
   have nn:Ns c0 {c with st:=c.st.set j R3}:=⟨n.keep,n.there,λa z=>n.roots a (hR a z),n.sub,n.new⟩
   refine w {c with st:=c.st.set j R3} rfl Qu nn (Kept.of hσ) (.ref r0) ⟨r0,rfl,q3,q1,λz=>?_,q4⟩
   ·rcases z with⟨i,k,u2,hk,e1,e2⟩|⟨i,u2,r2,e1,e2,e3⟩
    ·obtain⟨ne,EC⟩:=Ee i k u2 e1;exact ne (D7.inj i j k .own u2 _ r0 hk rfl EC hj e2 hv)
    ·exact D7.dd.d1 i r0 ⟨u2,r2,(Ee i .B' u2 e1).2,e2,e3⟩ ⟨j,.own,_,rfl,hj,hv⟩
  ·cases e
 |_=>exact r.elim
end
section
theorem oP(E3:∀j,ns j=R4->j≠i)(EV:Ok C c0)(t:Le C c0 c r v)(hi:i<c.σ.length)(w:W (eS i r >>= λ_=>(pure .nx:M Fl)) c.st (j5 C c0 ns D)):D.nx (c0.σ.set i (RY v)) c.H:=by
 rw[af]at w;obtain⟨c',e1,e2,DZ,n',q⟩:=rW (r:=r) EV t.ok t.nx hi t.rx w;rw[ah]at q;have z:=q c' rfl DZ n' ⟨λj hj=>by rw[e1,t.hσ,SG (Te (E3 j hj))],by rw[e1,t.hσ];simp⟩;have z':D.nx c'.σ c'.H:=z;rw[e1,e2,t.hσ]at z';exact z'
theorem zk(E3:∀j,ns j=R4->j≠i)(hN:X.N.Nodup)(hi:X.N[i]?=RY x)(hx:Loc X.env.scope x)(hf:X.fn x=R4\/X.env.scope.names.lookup x=RY .local)(ha:PE X a (DP C ma))
  (hs:Vx a (RY (.Name x pos')) pos.line X.env=pure R5):L2.PS X (.Assign [.Name x pos'] a pos) (Es C ns (ma >>= λr=>eS i r >>= λ_=>pure .nx)):=by
 rintro pins s σ H D I ⟨c0,rfl,rfl,ok,h⟩;have ER:i<c0.σ.length:=by rw[I.len];exact(Sf.mp hi).1
 exact uI hN hi hx ha hs hf pins s c0.σ c0.H D I (aO ok h λr c v t w=>oP E3 ok t (by rw[t.hσ];exact ER) w)
theorem A4(E3:∀j,ns j=R4->j≠i)(S:dE X N own scope)(hc:X.calm=R4)(hN:X.N.Nodup)(KY:X.N[i]?=RY y)(hy:X.env.scope.names.lookup y=RY .local)
  (hi:PI X tg iter (GK C ik ms)) (hg:∀D s H ex,PG (EB X N scope D s H ex) tg (tG C t (Sl own.length))) (hf:∀D s H ex,Ha (EB X N scope D s H ex) ifs (EN C tc)) (he:∀D s H ex,PE (EB X N scope D s H ex) elt (DP C me))
  (HA:Vx (.ListComp elt [⟨tg,iter,ifs,0⟩] scope pos) (RY (.Name y py)) F5.line X.env=pure R4) (hs:∀x,Uu iter X.env x=pure x) :
  L2.PS X (.Assign [.Name y py] (.ListComp elt [⟨tg,iter,ifs,0⟩] scope pos) F5)
   (Es C ns ((ms >>= λrs=>av rs >>= λ_=>M.D0 (Fu ik rs) >>= λxs=>bz own.length t tc me rs xs [] >>= λus=>pure (.own,.lst us)) >>= λr=>eS i r >>= λ_=>pure .nx)):=by
 rintro pins s σ H D I ⟨c0,rfl,rfl,ok,h⟩;have ER:i<c0.σ.length:=by rw[I.len];exact(Sf.mp KY).1
 refine xF S hc hN KY hy hi hg hf he HA hs pins s c0.σ c0.H D I ?_;rw[af]at h;refine lQ ok (h.mono λr st1 w c v e1 e2 D7 n rt=>?_);subst e2;exact oP E3 ok ⟨e1,D7,n,rt⟩ (by rw[e1];exact ER) w
theorem A5(E3:∀j,ns j=R4->j∉is)(ha:PE X a (DP C ma))(hg:PG X tg (tG C R4 is))(hs:VB [tg] a pos.line X.env=pure R5)(hw:W0 [tg] a X.env=pure R3)(h1:(Ve [tg] X.env).map (·.2)=[VU tg X.env]):
  L2.PS X (.Assign [tg] a pos) (Es C ns (ma >>= λr=>cB R4 is r >>= λ_=>pure .nx)):=by
 refine PS.weak (p6 ha hg hs hw h1) ?_;rintro D σ H ⟨c0,rfl,rfl,ok,h⟩;refine aO ok h λr c v t w=>?_;rw[af]at w;refine⟨c0,c,r,t.hσ,rfl,ok,t.ok,t.nx,t.rx,w.mono λ_ st1 w1 c' e DZ n' hf hl=>?_⟩;subst e;rw[ah]at w1;exact w1 c' rfl DZ n' ⟨λj hj=>by rw[hf j (E3 j hj),t.hσ],by rw[hl,t.hσ]⟩
theorem Cz(hc:PT X a (EN C ta))(h1:EE X ca (Es C ns f))(h2:EE X cb (Es C ns g)):L2.PS X (.If a ca cb pos) (Es C ns (ta >>= λp=>if p=R4 then f else g)):=by
 refine PS.weak (BM hc h1 h2) ?_;rintro D σ H ⟨c0,rfl,rfl,ok,h⟩;refine fh ok h λp c hσ D7 n w=>?_;have e:c0.σ=c.σ:=hσ.symm;rw[e];cases p with
 |true=>rw[Ú rfl]at w ⊢;exact qB D7 n (Kept.of hσ) w
 |false=>rw[Ü S6]at w ⊢;exact qB D7 n (Kept.of hσ) w
theorem CA(hp:XA (Sw X.prog X.w) X.A X.env X.xe)(hc:PT X a (EN C ta))(hb:EE X body (Es C ns f)):L2.PS X (.While a body [] pos) (Es C ns (gv ta f n)):=by
 refine PS.weak (uJ hp hc hb) ?_;rintro D σ H ⟨c0,rfl,rfl,ok,h⟩;refine⟨λm σ' H'=>∃c,c.H=H'/\c.σ=σ'/\Ok C c/\Ns c0 c/\Kept ns c0 c/\W (gv ta f m) c.st (j5 C c0 ns D),⟨n,c0,rfl,rfl,ok,Ns.refl c0,Kept.refl,h⟩,?_⟩;rintro m σ' H' ⟨c,rfl,rfl,D7,nc,kc,w⟩;cases m with
 |zero=>exact(az.mp w).elim
 |succ m =>
  rw[show gv ta f (m+1)=ta >>= λb=>if b=R4 then(f >>= λf'=>match f' with|.nx=>gv ta f m|.ct=>gv ta f m|.bk=>pure .nx|.rt k u=>pure (.rt k u)) else pure .nx from rfl]at w;refine fh D7 w λp c2 hσ Ej n2 w2=>?_;have k2:Kept ns c c2:=Kept.of hσ;rw[<-hσ];cases p with
  |false =>
   rw[Ü S6]at w2 ⊢;rw[ah]at w2;exact w2 c2 rfl Ej (nc.trans n2) (kc.trans k2)
  |true =>
   rw[Ú rfl]at w2 ⊢;refine⟨λOf Og=>∃c,c.H=Og/\c.σ=Of/\Ok C c/\Ns c0 c/\Kept ns c0 c/\W (gv ta f m) c.st (j5 C c0 ns D),λOf Og z=>⟨m,V5 m,z⟩,?_⟩;rw[af]at w2;refine⟨c2,rfl,rfl,Ej,w2.mono λfl st3 w3 c3 e FN n3 k3=>?_⟩;subst e;have MN:=(nc.trans n2).trans n3;have MO:=(kc.trans k2).trans k3;cases fl with
   |nx=>exact⟨c3,rfl,rfl,FN,MN,MO,w3⟩
   |ct=>exact⟨c3,rfl,rfl,FN,MN,MO,w3⟩
   |_=>rw[ah]at w3;exact w3 c3 rfl FN MN MO
theorem CB(hp:XA (Sw X.prog X.w) X.A X.env X.xe)(hc:X.calm=R4)(hi:PI X tg iter (GK C ik ms))(hg:PG X tg (tG C t is))(hb:EE X body (Es C (Gp sb) f))(hs:∀x,Uu iter X.env x=pure x)
  (E3:∀j,ns j=R4->j∉is/\Gp sb j=R4) :
  L2.PS X (.For tg iter body [] pos) (Es C ns (ms >>= λrs=>av rs >>= λ_=>M.D0 (Fu ik rs) >>= λxs=>if rQ rs is sb=R4 then forM t is f rs xs else M.fail)):=by
 refine PS.weak (zW hp hc hi hg hb hs) ?_;rintro D σ H ⟨c0,rfl,rfl,ok,h⟩;rw[af]at h;refine⟨c0,rfl,rfl,ok,?_⟩;rw[af];refine h.mono λrs st1 h1=>?_;rw[af,cf]at h1 ⊢;refine⟨h1.1,?_⟩;have h2:=h1.2;rw[af]at h2 ⊢;refine h2.mono λxs st2 h3=>?_;rw[ah];intro c1 J e1 e2 DT n1 DS hw;subst e2
 dsimp only at DS hw
 split at h3
 ·rename_i Fe;have MP:∀j u,(Kd.bor j,u)∈rs->j∉is/\Gp sb j=R4:=λj u hm=>by
   have:=TL.mp Fe _ hm;simpa using this
  refine⟨λi m σ' H'=>∃c,c.H=H'/\c.σ=σ'/\Ok C c/\Ns c1 c/\Kept ns c0 c/\j3 rs c1 c/\m=xs.length - i/\i<=xs.length/\W (forM t is f rs (xs.drop i)) c.st (j5 C c0 ns D),
   ⟨xs.length,c1,rfl,e1,DT,Ns.refl c1,Kept.of e1,λ_ _ _=>rfl,by simp,SM _,by simpa using h3⟩,?_⟩
  rintro i m σ' H' ⟨c,rfl,rfl,D7,nc,kc,fx,rfl,FA,w⟩;by_cases D2:i<xs.length
  ·right
   rw[U3 D2,show forM t is f rs (xs[i]::xs.drop (i+1))=av rs >>= λ_=>cB t is xs[i] >>= λ_=>f >>= λf'=>match f' with|.nx=>forM t is f rs (xs.drop (i+1))|.ct=>forM t is f rs (xs.drop (i+1))|.bk=>pure .nx|.rt k u=>pure (.rt k u) from rfl,af,cf]at w;obtain⟨GL,w⟩:=w;obtain⟨wk,_⟩:=hw c D7 nc fx GL;obtain⟨Iz,MK,Ll⟩:=wk i xs[i] (by simp[D2]);refine⟨MK,λσ' H'=>∃c,c.H=H'/\c.σ=σ'/\Ok C c/\Ns c1 c/\Kept ns c0 c/\j3 rs c1 c/\W (forM t is f rs (xs.drop (i+1))) c.st (j5 C c0 ns D),λσ' H' ⟨c',z1,z2,z3,z4,z5,z6,z7⟩=>⟨xs.length - (i+1),⋯,c',z1,z2,z3,z4,z5,z6,rfl,D2,z7⟩,λx H' hy=>?_⟩;obtain⟨c2,rfl,e4,e5,Ej,n2,rt⟩:=Ll x H' hy;rw[af]at w;have Qv:aH C c2 c2 xs[i].1 xs[i].2 x:=by
    rcases Iz with z|z
    ·rw[z]at rt ⊢;exact rt
    ·rw[z]at rt ⊢;exact rt
   refine⟨c2,c2,xs[i],e4,rfl,Ej,Ej,Nx.refl c2,Qv,?_⟩;rw[e5];refine w.mono λ_ st3 w3 c3 e6 FN n3 Oh Lm=>?_;subst e6;rw[af]at w3;refine⟨c3,rfl,rfl,FN,w3.mono λfl Ja w4 c4 e IA n4 k4=>?_⟩;subst e;have MQ:Ns c1 c4:=((nc.trans n2.toNs).trans n3.toNs).trans n4;have MR:Kept ns c0 c4:=by
    refine kc.trans ⟨λj hj=>?_,by rw[k4.2,Lm,e4]⟩;obtain⟨j1,j2⟩:=E3 j hj;rw[k4.1 j j2,Oh j j1,e4]
   have Oi:j3 rs c1 c4:=λj u hm=>by
    obtain⟨j1,j2⟩:=MP j u hm;rw[k4.1 j j2,Oh j j1,e4];exact fx j u hm
   cases fl with
   |nx=>exact⟨c4,rfl,rfl,IA,MQ,MR,Oi,w4⟩
   |ct=>exact⟨c4,rfl,rfl,IA,MQ,MR,Oi,w4⟩
   |_=>rw[ah]at w4;exact w4 c4 rfl IA (n1.toNs.trans MQ) MR
  ·left
   have Qw:i=xs.length:=by omega
   subst Qw;rw[YV,show forM t is f rs []=av rs >>= λ_=>pure .nx from rfl,af,cf,ah]at w;obtain⟨_,wk⟩:=hw c D7 nc fx w.1;exact⟨wk _ (Sv _),w.2 c rfl D7 (n1.toNs.trans nc) kc⟩
 ·exact(az.mp h3).elim
end
section
theorem Ok.mod(ok:Ok C c)(n:Ns c0 c)(hk:k.root=R4)(hi:c.st[i]?=RY (RY (k,u)))(hv:c.σ[i]?=RY (RY (.ref r)))(Ez:∀a,a≠r->H' a=c.H a)(hr:∃o,H' r=RY o)
  (new:Mv c.S c.H c.S H'->c_ C c.S H' r u'):Ok C {c with H:=H',st:=c.st.set i (RY (k,u'))}/\Ns c0 {c with H:=H',st:=c.st.set i (RY (k,u'))}:=by
 have G2:c.R1 r:=⟨i,k,u,hk,hi,hv⟩
 have hR:c.R r:=.inl G2;obtain⟨q1,q2,q3,o,ho,Qx⟩:=ok.root hR;have ER:i<c.st.length:=(Sf.mp hi).1;have kp:∀{a:Sr} {o':HO},a≠r->c.H a=RY o'->H' a=RY o':=λne e=>by rw[Ez _ ne];exact e
 have mv:Mv c.S c.H c.S H':=⟨λ_ z=>z,λa o' e t=>kp (λz=>by subst z;rw[ho]at e;cases e;exact Qx t) e,λa o' z e=>kp (λz'=>q1 (z'▸z)) e⟩
 have Hi:Mv (PS C c.S) c.H (PS C c.S) H':=⟨λ_ z=>z,mv.J7,λa o' z e=>kp (λz'=>by subst z';exact z.elim q2 q1) e⟩
 have Ee:∀(j:Nat) k' w,(c.st.set i (RY (k,u')))[j]?=RY (RY (k',w))->j≠i->c.st[j]?=RY (RY (k',w)):=λj k' w e ne=>by rw[SG (Te ne)]at e;exact e
 have back:∀(j:Nat) k' w,k'.root=R4->(c.st.set i (RY (k,u')))[j]?=RY (RY (k',w))->∃w',c.st[j]?=RY (RY (k',w')):=λj k' w _ e=>by
  by_cases hj:j=i
  ·subst hj;rw[Sk ER]at e;cases e;exact⟨u,hi⟩
  ·exact⟨w,Ee j k' w e hj⟩
 have b1:∀a,({c with H:=H',st:=c.st.set i (RY (k,u'))}:Cf).R1 a->c.R1 a:=λa D4=>by
  obtain⟨j,k',w,h1,e1,e2⟩:=D4;obtain⟨w',a1⟩:=back j k' w h1 e1;exact⟨j,k',w',h1,a1,e2⟩
 have dD:∀(j:Nat) (w:U),(c.st.set i (RY (k,u')))[j]?=RY (RY (.B',w))->c.st[j]?=RY (RY (.B',w)):=λj w e=>by
  by_cases hj:j=i
  ·subst hj;rw[Sk ER]at e;cases e;cases hk
  ·exact Ee j .B' w e hj
 have Hs:Gk C {c with H:=H',st:=c.st.set i (RY (k,u'))}:=ok.dd.of rfl (λj w e=>⟨dD j w e,rfl⟩) (λa z=>.inl (b1 a z)) mv λj a z=>⟨(ok.root (.inr ⟨j,z⟩)).1,λo' e=>kp (λz'=>ok.dd.d1 j a z (z'▸G2)) e⟩
 refine⟨⟨λa o' e z=>?_,λa z=>?_,ok.par,λa z=>?_,by simp[ok.len],λj k' w e=>?_,λj1 j2 k1 k2 w1 w2 r' h1 h2 e1 e2 e3 e4=>?_,Hs⟩,n.trans ⟨λa o' e z=>kp (λz'=>z (z'▸hR)) e,λa o' e=>?_,λa z=>?_,λ_ z=>z,λ_ z=>.inl z⟩⟩
 ·have h1:=ok.same a o' e z;refine kp (λz'=>?_) h1;subst z';rcases q3 with q3|q3
  ·rw[e]at q3;cases q3
  ·exact z q3
 ·obtain⟨h1,o',h2⟩:=ok.FC a z;exact⟨h1,o',kp (λz'=>q1 (z'▸z)) h2⟩
 ·obtain⟨h1,o',h2⟩:=ok.io a z;refine⟨h1,?_⟩;by_cases ha:a=r
  ·subst ha;exact hr
  ·exact⟨o',kp ha h2⟩
 ·by_cases hj:j=i
  ·subst hj;rw[Sk ER]at e;cases e;obtain⟨v,e1,e2⟩:=ok.sl j _ _ hi;rw[hv]at e1;cases e1;refine⟨.ref r,hv,?_⟩;have nr:=new mv;cases k with
   |own=>obtain⟨r',er,z1,z2,z3,_⟩:=e2;cases er;exact⟨r,rfl,z1,z2,z3,nr⟩
   |io=>obtain⟨r',er,z1,z2,z3,_⟩:=e2;cases er;exact⟨r,rfl,z1,z2,z3,nr⟩
   |_=>cases hk
  ·have e0:=Ee j k' w e hj;obtain⟨v,e1,e2⟩:=ok.sl j k' w e0;refine⟨v,e1,e2.mv mv Hi λEF r' er=>?_⟩;obtain⟨Lf,E5,z1,_⟩:=e2.rt EF;rw[er]at E5;cases E5;refine⟨z1,λo' e=>kp (λz=>?_) e⟩;subst z;exact hj (ok.inj j i k' k w u r' EF hk e0 hi (by rw[e1,er]) hv)
 ·obtain⟨Lo,a1⟩:=back j1 k1 w1 h1 e1;obtain⟨Oj,a2⟩:=back j2 k2 w2 h2 e2;exact ok.inj j1 j2 k1 k2 Lo Oj r' h1 h2 a1 a2 e3 e4
 ·by_cases ha:a=r
  ·subst ha;exact hr
  ·exact⟨o',kp ha e⟩
 ·rcases z with z|⟨j,w,r',e1,e2,e3⟩
  ·exact .inl (.inl (b1 a z))
  ·exact .inl (.inr ⟨j,w,r',dD j w e1,e2,e3⟩)
theorem fH{f:U->Option U}{st:aj}(h:W (modS i f) st Q):∃k u u',k.root=R4/\st[i]?=RY (RY (k,u))/\f u=RY u'/\Q () (st.set i (RY (k,u'))):=by
 obtain⟨_,st',e,q⟩:=h;unfold modS at e;split at e
 ·rename_i k u hs;split at e
  ·rename_i hk;cases e2:f u with
   |none=>rw[e2]at e;cases e
   |some u'=>rw[e2]at e;cases e;exact⟨k,u,u',hk,hs,e2,q⟩
  ·cases e
 ·cases e
theorem cW{st:aj}(h:W (dk i) st Q):∃k u,k≠.B'/\st[i]?=RY (RY (k,u))/\Q (if k.root=R4 then .bor i else k,u) st:=by
 obtain⟨r,st',e,q⟩:=h;unfold dk at e;split at e
 ·cases e
 ·rename_i k u MD hs;cases e;exact⟨k,u,λz=>MD z,hs,q⟩
 ·cases e
theorem CC(hK:C.K=X.K)(hN:X.N[i]?=RY x)(hv:FE X.env.scope x)(hd:(x==("__debug__":Str))=R5)(En:(x==("__classdict__":Str))=R5)(ha:PE X a (DP C ma))
  (EM:((Uk DK (SJ [a] X.env)).all (λx=>!x.1)&&(Wa DK (Vi [] X.env)).all (λx=>x.1.isSome)
   && Sa ([a].length+([]:List Va).length+(if ([]:List Va).isEmpty then 0 else 1)<30))=R4)
  (Eo:(apos.endLine==DK.line)=R4) (DS:SJ [a] X.env=[(R5,T2 a X.env)]) :
  L2.PS X (.Expr (.Call (.Attribute (.Name x px) "append" apos) [a] [] DK) pos) (Es C ns (dk i >>= λx=>Jl x.2 >>= λ_=>ma >>= λr=>lift r >>= λu=>modS i (vm u) >>= λ_=>pure .nx)):=by
 refine PS.weak (jh (uO PySem.F.plainAttrs_list PySem.F.slot_list_append PySem.F.type_list_append lD (cw hN hv hd En) (ji ha mE DS) rfl EM Eo DS rfl)) ?_;rintro D σ H ⟨c0,rfl,rfl,ok,h⟩;rw[af]at h;obtain⟨k0,u0,Hu,EI,h⟩:=cW h;obtain⟨v0,e0,F2⟩:=ok.sl i k0 u0 EI;refine⟨v0,e0,?_⟩;cases u0 with
 |lst Ke =>
  rw[af,show Jl (U.lst Ke)=pure () from rfl,ah]at h;have MS:aH C c0 c0 (if k0.root=R4 then .bor i else k0) (.lst Ke) v0:=by
   by_cases hk:k0.root=R4
   ·rw[Ú hk];exact⟨⟨k0,hk,EI⟩,e0⟩
   ·rw[Ü hk];cases k0 with
    |loc=>exact F2
    |any=>exact F2
    |bor j=>exact F2.elim
    |B'=>exact(Hu rfl).elim
    |_=>exact absurd rfl hk
  obtain⟨a0,Lh,ea,KP,_⟩:=MS.list ok;refine⟨by rw[ea];exact .inl ⟨rfl,Lh,hK▸KP⟩,?_⟩;refine aO ok h λr c v t w=>?_;rw[af]at w;obtain⟨S',st',u,sS,DT,n1,rep1,w1,_,_⟩:=gV ok t.ok t.nx t.rx.w w;rw[af]at w1;obtain⟨k,u1,u2,hk,hs,hf,q⟩:=fH w1;have hσ:c.σ[i]?=RY (RY (.ref a0)):=by rw[t.hσ,e0,ea]
  cases u1 with
  |lst ys =>
   simp only[vm]at hf;split at hf
   ·rename_i hz;cases hf;obtain⟨v',e1,e2⟩:=DT.sl i k (.lst ys) hs;have EC:c.σ[i]?=RY (RY v'):=e1;rw[hσ]at EC;cases EC;obtain⟨r',er,_,_,_,ws,hw,Fv⟩:=e2.rt hk;cases er;have G5:c.H a0=RY (.lst ws):=hw;refine⟨a0,ws,v,ea,rfl,G5,by rw[<-Fv.len];exact hz,?_⟩;rw[ah]at q;obtain⟨Ej,n2⟩:=Ok.mod (c:={c with S:=S',st:=st' }) (H':=upd c.H a0 (.lst (ws++[v]))) (u':=.lst (ys++[u])) DT n1.toNs hk hs hσ (λa ne=>ao ne) ⟨_,au⟩ λmv=>⟨ws++[v],au,(Fv.mv mv).snoc (rep1.mv mv)⟩
    have z:=q _ rfl Ej n2 (Kept.of t.hσ);rw[<-t.hσ];exact z
   ·cases hf
  |_=>cases hf
 |_=>rw[af]at h;exact(az.mp h).elim
theorem CD(hK:C.K=X.K)(hN:X.N[i]?=RY x)(hv:FE X.env.scope x)(hd:(x==("__debug__":Str))=R5)(En:(x==("__classdict__":Str))=R5)(ha:PE X a (DP C ma))
  (EM:((Uk DK (SJ [a] X.env)).all (λx=>!x.1)&&(Wa DK (Vi [] X.env)).all (λx=>x.1.isSome)
   && Sa ([a].length+([]:List Va).length+(if ([]:List Va).isEmpty then 0 else 1)<30))=R4)
  (Eo:(apos.endLine==DK.line)=R4) (DS:SJ [a] X.env=[(R5,T2 a X.env)]) :
  L2.PS X (.Expr (.Call (.Attribute (.Name x px) "extend" apos) [a] [] DK) pos) (Es C ns (dk i >>= λx=>Jl x.2 >>= λ_=>ma >>= λr=>modS i (jY r) >>= λ_=>pure .nx)):=by
 refine PS.weak (jh (uO PySem.F.plainAttrs_list PySem.F.slot_list_extend PySem.F.type_list_extend qq (cw hN hv hd En) (ji ha mE DS) rfl EM Eo DS rfl)) ?_;rintro D σ H ⟨c0,rfl,rfl,ok,h⟩;rw[af]at h;obtain⟨k0,u0,Hu,EI,h⟩:=cW h;obtain⟨v0,e0,F2⟩:=ok.sl i k0 u0 EI;refine⟨v0,e0,?_⟩;cases u0 with
 |lst Ke =>
  rw[af,show Jl (U.lst Ke)=pure () from rfl,ah]at h;have MS:aH C c0 c0 (if k0.root=R4 then .bor i else k0) (.lst Ke) v0:=by
   by_cases hk:k0.root=R4
   ·rw[Ú hk];exact⟨⟨k0,hk,EI⟩,e0⟩
   ·rw[Ü hk];cases k0 with
    |loc=>exact F2
    |any=>exact F2
    |bor j=>exact F2.elim
    |B'=>exact(Hu rfl).elim
    |_=>exact absurd rfl hk
  obtain⟨a0,Lh,ea,KP,_⟩:=MS.list ok;refine⟨by rw[ea];exact .inl ⟨rfl,Lh,hK▸KP⟩,?_⟩;refine aO ok h λr c v t w=>?_;rw[af]at w;obtain⟨k,u1,u2,hk,hs,hf,q⟩:=fH w;have hσ:c.σ[i]?=RY (RY (.ref a0)):=by rw[t.hσ,e0,ea]
  obtain⟨rk,ru⟩:=r;have key:∃ys zs b vs,u1=.lst ys/\v=.ref b/\(Eg C.K c.H b vs\/Ef C.K c.H b vs)/\ai C c.S c.H zs vs/\ys.length+zs.length<=R6/\u2=.lst (ys++zs):=by
   cases ru with
   |lst zs =>
    cases u1 with
    |lst ys =>
     simp only[jY]at hf;split at hf
     ·rename_i hz;cases hf;obtain⟨b,vs,ev,h1,h2⟩:=t.rx.list t.ok;exact⟨_,_,b,vs,rfl,ev,.inl h1,dc hz.2 h2,hz.1,rfl⟩
     ·cases hf
    |_=>simp[jY]at hf
   |tup zs =>
    cases u1 with
    |lst ys =>
     simp only[jY]at hf;split at hf
     ·rename_i hz;cases hf;obtain⟨b,vs,ev,h1,h2⟩:=t.rx.tuple t.ok;exact⟨_,_,b,vs,rfl,ev,.inr h1,dc hz.2 h2,hz.1,rfl⟩
     ·cases hf
    |_=>simp[jY]at hf
   |_=>simp[jY]at hf
  obtain⟨ys,zs,b,vs,rfl,rfl,hB,hz,hl,rfl⟩:=key;obtain⟨v',e1,e2⟩:=t.ok.sl i k (.lst ys) hs;rw[hσ]at e1;cases e1;obtain⟨r',er,_,_,_,ws,hw,Fv⟩:=e2.rt hk;cases er;refine⟨a0,b,ws,vs,ea,rfl,hw,hK▸hB,by rw[<-Fv.len,<-hz.len];exact hl,?_⟩;rw[ah]at q;obtain⟨Ej,n2⟩:=Ok.mod (c:=c) (H':=upd c.H a0 (.lst (ws++vs))) (u':=.lst (ys++zs)) t.ok t.nx.toNs hk hs hσ (λa ne=>ao ne) ⟨_,au⟩ λmv=>⟨ws++vs,au,(Fv.mv mv).append (hz.mv mv)⟩
  have z:=q _ rfl Ej n2 (Kept.of t.hσ);rw[<-t.hσ];exact z
 |_=>rw[af]at h;exact(az.mp h).elim
theorem jw.or(h:jw X t)(h':jw X t'):jw X (λo i v H Q=>t o i v H Q\/t' o i v H Q):=λpins s σ H o i v ov iv u Q I r1 r2 r3 q =>
 q.elim (h pins s σ H o i v ov iv u Q I r1 r2 r3) (h' pins s σ H o i v ov iv u Q I r1 r2 r3)
theorem set_dict(hu:X.A.units+1<Tx):jw X (λo i v H Q=>∃a H',o=.ref a/\tq H a i v H'/\Q H'):=by
 rintro pins s σ H o i v ov iv u Q I ro ri rv ⟨a,H',rfl,g,q⟩;cases ro;exact tu hu I g ri rv λs' I'=>⟨H',I',q⟩
theorem vL{S:Sr->Prop}{kvs:List (Key×V)}(h1:kvs.map (·.1)=ks.map SN)(h2:ai C S H us (kvs.map (·.2)))(hv:Rep C S H u v):
  (putK kvs (SN y) v).map (·.1)=(dput ks us y u).1.map SN/\ai C S H (dput ks us y u).2 ((putK kvs (SN y) v).map (·.2)):=by
 have Kf:(kvs.any λkv=>Sa (kv.1=(SN y:Key)))=Sa (y∈ks):=by
  rw[gJ];exact(cC (x:=y) h1 h2).2
 unfold putK dput;rw[Kf];by_cases hm:y∈ks
 ·rw[Ú (by simpa using hm),Ú hm];constructor
  ·rw[Sx];rw[<-h1];apply Tf;intro p _;show(if p.1=SN y then(p.1,v) else p).1=p.1;split<;>rfl
  ·clear Kf hm;induction kvs generalizing ks us with
   |nil =>
    have:ks=[]:=by simpa using h1.symm
    subst this;simp[ai]
   |cons p kvs ih =>
    cases ks with
    |nil=>simp at h1
    |cons k ks =>
     cases us with
     |nil=>simp[ai]at h2
     |cons u0 us =>
      rw[Sd,Sd,UY]at h1;obtain⟨v0,r0,e0,q1,q2⟩:=h2;rw[Sd]at e0;cases e0;rw[Sd,WA,Sd,Sd];refine⟨_,_,rfl,?_,ih h1.2 q2⟩;by_cases hk:k=y
      ·rw[Ú (by exact hk),Ú (by rw[h1.1,hk])];exact hv
      ·rw[Ü (by exact hk),Ü (by rw[h1.1];intro z;exact hk (WJ z))];exact q1
 ·rw[Ü (by simpa using hm),Ü hm];exact⟨by rw[SO,h1,SO];rfl,by rw[SO];exact h2.snoc hv⟩
theorem CF(hP:C.P=X.prog)(hw:C.w=X.w)(hK:C.K=X.K)(hu:X.A.units+60<Tx)(hN:X.N[i]?=RY x)(hv:FE X.env.scope x)(hd:(x==("__debug__":Str))=R5)(En:(x==("__classdict__":Str))=R5)
  (ha:PE X a (DP C ma)) (hb:PE X b (DP C mb)) (hs:VB [.Subscript (.Name x px) b p] a pos.line X.env=pure R5) (IB:W0 [.Subscript (.Name x px) b p] a X.env=pure R3)
  (has:∀v,VU (.Subscript (.Name x px) b p) X.env v=(do
   let ov <-Up [v] (T2 (.Name x px) X.env)
   let iv <-Up [v,ov] (T2 b X.env)
   Xd p
   Up [v,ov,iv] (Wg ov iv v)
   Xg [v,ov,iv] [])) :
  L2.PS X (.Assign [.Subscript (.Name x px) b p] a pos) (Es C ns (ma >>= λr=>dk i >>= λ_=>mb >>= λx=>cH [r,x] >>= λus=>modS i (rP us) >>= λ_=>pure .nx)):=by
 refine PS.weak (p6 ha (uH (cw hN hv hd En) hb (jw.or (jw.or set_list (set_dict (X:=X) ⋯)) (xJ (X:=X) ⋯)) has) hs IB rfl) ?_;rintro D σ H ⟨c0,rfl,rfl,ok,h⟩;refine aO ok h λr c v t w=>?_;rw[af]at w;obtain⟨k0,u0,Hu,EI,w⟩:=cW w;obtain⟨v0,e0,F2⟩:=t.ok.sl i k0 u0 EI;refine⟨v0,by rw[<-t.hσ];exact e0,?_⟩;rw[af]at w;refine⟨c,t.hσ,rfl,t.ok,w.mono λy st2 w2 c2 vy e3 e4 Ej n2 r2=>?_⟩;subst e4;rw[af]at w2;have MT:=t.nx.trans n2;have rws:da C c0 c2 [r,y] [v,vy]:=⟨v,[vy],rfl,t.rx.w.on t.ok n2 (e3.trans t.hσ.symm),⟨vy,[],rfl,(r2.w).from t.nx,rfl,λ_ i r' v' e _=>by simp at e⟩,λhk i r' v' e5 e6 EF=>by
  cases i with
  |zero=>simp at e5 e6;subst e5 e6;exact m8 t.rx.w r2.w hk EF
  |succ i=>simp at e5⟩
 obtain⟨S',st',us,sS,DT,n1,rep1,w1⟩:=gW ok Ej MT rws w2;rw[af]at w1;obtain⟨k,u1,u2,hk,E_,hf,q⟩:=fH w1;rw[ah]at q;have hσ:c2.σ[i]?=RY (RY v0):=by rw[e3,<-t.hσ];exact e0
 obtain⟨v',e1,e2⟩:=DT.sl i k u1 E_;have EC:c2.σ[i]?=RY (RY v'):=e1;rw[hσ]at EC;cases EC;obtain⟨a0,er,z1,z2,z3,root⟩:=e2.rt hk;subst er;have Qy:({c2 with S:=S',st:=st' }:Cf).σ[i]?=RY (RY (.ref a0)):=hσ;obtain⟨Lo,ws,ew,Ol,Oj,RJ,RK,MU,Qz⟩:∃u ws,us=[u,ws]/\Rep C S' c2.H u v/\∃(_:Unit) (_:Unit),True/\Rep C S' c2.H ws vy/\True:=by
  cases us with
  |nil=>simp[ai]at rep1
  |cons u us =>
   obtain⟨_,_,e,q1,q2⟩:=rep1;cases e;cases us with
   |nil=>simp[ai]at q2
   |cons u' us =>
    obtain⟨_,_,e,q3,q4⟩:=q2;cases e;cases us with
    |nil=>exact⟨u,u',rfl,q1,(),(),trivial,q3,trivial⟩
    |cons _ _=>obtain⟨_,_,e,_⟩:=q4;cases e
 subst ew;rw[show rP [Lo,ws] u1=dm ws Lo u1 from rfl]at hf;have fin:∀{H':Hp} ,(∀a,a≠a0->H' a=c2.H a)->(∃o,H' a0=RY o)->(Mv S' c2.H S' H'->c_ C S' H' a0 u2)->D.nx c0.σ H':=λ{H'} Ez hr new=>by
  obtain⟨FN,n3⟩:=Ok.mod (c:={c2 with S:=S',st:=st' }) (H':=H') (u':=u2) DT n1.toNs hk E_ Qy Ez hr new;have z:=q _ rfl FN n3 (Kept.of e3);rw[<-e3];exact z
 cases u1 with
 |lst xs =>
  cases ws with
  |int j =>
   simp only[dm,Si]at hf;obtain⟨j',hj,rfl⟩:=hf;obtain⟨vs,h1,h2⟩:=root;have ey:vy=.int j:=MU;refine .inl (.inl ⟨a0,vs,j,j',rfl,ey,h1,by rw[<-h2.len];exact hj,?_⟩);exact fin (λa ne=>ao ne) ⟨_,au⟩ λmv=>⟨vs.set j' v,au,(h2.mv mv).set j' (Ol.mv mv)⟩
  |_=>simp[dm]at hf
 |DJ ks vs =>
  cases ws with
  |str y' =>
   simp only[dm]at hf;split at hf
   ·rename_i hz;cases hf;obtain⟨kvs,h1,h2,h3⟩:=root;have ey:vy=.str y':=MU;subst ey;have hl:kvs.length=ks.length:=by have:=ß Tn h2;simpa using this
    refine .inl (.inr ⟨a0,_,rfl,tq.k (k:=SN y') h1 (by rw[hl];exact hz),?_⟩);refine fin (λa ne=>ao ne) ⟨_,au⟩ λmv=>?_;obtain⟨g1,g2⟩:=vL (y:=y') h2 h3 Ol;exact⟨_,au,g1,g2.mv mv⟩
   ·cases hf
  |_=>simp[dm]at hf
 |Ew ks =>
  simp only[dm]at hf;split at hf
  ·rename_i r0 Lp;split at hf
   ·rename_i hh;cases hf;have er:=jZ Lp;subst er;have Et:=MU.row;have HJ:eM C.P C.w C.K c2.H a0 ks:=root;rw[hK]at Et;rw[hP,hw,hK]at HJ;refine .inr ⟨a0,r0,ks,rfl,Et,HJ,hh.1,hh.2,λH' hR Ez=>?_⟩;obtain⟨xs,hx,_⟩:=id hR;refine fin Ez ⟨_,hx⟩ λmv=>?_;show eM C.P C.w C.K H' a0 _;rw[hP,hw,hK];exact hR
   ·cases hf
  ·cases hf
 |_=>simp[dm]at hf
theorem Ok.slot(ok:Ok C c)(hn:k≠.B')(hs:c.st[i]?=RY (RY (k,u))):∃v,c.σ[i]?=RY (RY v)/\aH C c c (if k.root=R4 then .bor i else k) u v:=by
 obtain⟨v0,e0,F2⟩:=ok.sl i k u hs;refine⟨v0,e0,?_⟩;by_cases hk:k.root=R4
 ·rw[Ú hk];exact⟨⟨k,hk,hs⟩,e0⟩
 ·rw[Ü hk];cases k with
  |loc=>exact F2
  |any=>exact F2
  |bor j=>exact F2.elim
  |B'=>exact(hn rfl).elim
  |_=>exact absurd rfl hk
end
section
theorem Ok.CG(ok:Ok C c)(n:Ns c0 c)(hi:c.st[i]?=RY (RY (.B',u)))(hv:c.σ[i]?=RY (RY (.ref r)))(Ez:∀a,¬c.RD i a->H' a=c.H a)(MV:∀a o,c.H a=RY o->∃o',H' a=RY o')
  (new:Mv c.S c.H c.S H'->bW C c.S H' r as' u') (has:∀a∈as',a∈c.kid i\/(¬c.R a/\c0.H a=R3)) :
  Ok C {c with H:=H',st:=c.st.set i (RY (.B',u')),kid:=λj=>if j=i then as' else c.kid j}/\Ns c0 {c with H:=H',st:=c.st.set i (RY (.B',u')),kid:=λj=>if j=i then as' else c.kid j}:=by
 have ER:i<c.st.length:=(Sf.mp hi).1;have rt:∀{a},c.RD i a->¬c.S a/\¬C.GG a/\(C.H₀ a=R3\/C.IO a)/\∃o,c.H a=RY o/\¬Tp o:=λz=>ok.root (.inr ⟨i,z⟩);have h0:∀{a},c.RD i a->C.H₀ a=R3:=λ⟨u1,r1,e1,e2,e3⟩=>(bW.fr (ok.dd.kd i u1 r1 e1 e2) _ (Sn.mpr e3)).2.2;have kp:∀{a:Sr} {o:HO},¬c.RD i a->c.H a=RY o->H' a=RY o:=λz e=>by rw[Ez _ z];exact e
 have mv:Mv c.S c.H c.S H':=⟨λ_ z=>z,λa o e t=>kp (λz=>by
  obtain⟨_,_,_,o',e',nt⟩:=rt z;rw[e]at e';cases e';exact nt t) e,λa o z e=>kp (λz'=>(rt z').1 z) e⟩
 have Hi:Mv (PS C c.S) c.H (PS C c.S) H':=⟨λ_ z=>z,mv.J7,λa o z e=>kp (λz'=>z.elim (rt z').2.1 (rt z').1) e⟩
 have Ee:∀(j:Nat) k w,(c.st.set i (RY (.B',u')))[j]?=RY (RY (k,w))->j≠i->c.st[j]?=RY (RY (k,w)):=λj k w e ne=>by rw[SG (Te ne)]at e;exact e
 have IC:∀(j:Nat) k w,k.root=R4->(c.st.set i (RY (.B',u')))[j]?=RY (RY (k,w))->c.st[j]?=RY (RY (k,w)):=λj k w hk e=>by
  by_cases hj:j=i
  ·subst hj;rw[Sk ER]at e;cases e;cases hk
  ·exact Ee j k w e hj
 have b1:∀a,({c with H:=H',st:=c.st.set i (RY (.B',u')),kid:=λj=>if j=i then as' else c.kid j}:Cf).R1 a->c.R1 a:=λa ⟨j,k,w,hk,e1,e2⟩=>⟨j,k,w,hk,IC j k w hk e1,e2⟩
 have bD:∀j a,({c with H:=H',st:=c.st.set i (RY (.B',u')),kid:=λj=>if j=i then as' else c.kid j}:Cf).RD j a->c.RD j a\/(j=i/\¬c.R a/\c0.H a=R3):=λj a D4=>by
  obtain⟨w,r',e1,e2,e3⟩:=D4;by_cases hj:j=i
  ·subst hj;have Fj:c.σ[j]?=RY (RY (.ref r')):=e2;rw[hv]at Fj;cases Fj;rcases e3 with rfl|e3
   ·exact .inl ⟨u,_,hi,hv,.inl rfl⟩
   ·have HK:a∈as':=by simpa using e3
    rcases has a HK with z|z
    ·exact .inl ⟨u,_,hi,hv,.inr z⟩
    ·exact .inr ⟨rfl,z⟩
  ·have HK:a=r'\/a∈c.kid j:=by simpa[hj] using e3
   exact .inl ⟨w,r',Ee j _ w e1 hj,e2,HK⟩
 refine⟨⟨λa o e z=>kp (λz'=>by rw[h0 z']at e;cases e) (ok.same a o e z),λa z=>?_,ok.par,λa z=>?_,by simp[ok.len],λj k w e=>?_,λj1 j2 k1 k2 w1 w2 r' h1 h2 e1 e2 e3 e4=>ok.inj j1 j2 k1 k2 w1 w2 r' h1 h2 (IC j1 k1 w1 h1 e1) (IC j2 k2 w2 h2 e2) e3 e4,⟨λj w r' e1 e2=>?_,λj1 j2 a z1 z2=>?_,λj a z1 z2=>?_⟩⟩,⟨λa o e z=>?_,λa o e=>?_,λa z=>?_,n.sub,n.new⟩⟩
 ·obtain⟨q1,o,q2⟩:=ok.FC a z;exact⟨q1,MV a o q2⟩
 ·obtain⟨q1,o,q2⟩:=ok.io a z;exact⟨q1,MV a o q2⟩
 ·by_cases hj:j=i
  ·subst hj;rw[Sk ER]at e;cases e;exact⟨.ref r,hv,r,rfl⟩
  ·obtain⟨v,e1,e2⟩:=ok.sl j k w (Ee j k w e hj);refine⟨v,e1,e2.mv mv Hi λhk r' er=>?_⟩;obtain⟨Lf,E5,z1,_⟩:=e2.rt hk;rw[er]at E5;cases E5;exact⟨z1,λo e'=>kp (λz=>ok.dd.d1 i r' z ⟨j,k,w,hk,Ee j k w e hj,by rw[e1,er]⟩) e'⟩
 ·by_cases hj:j=i
  ·subst hj;rw[Sk ER]at e1;cases e1;have Fj:c.σ[j]?=RY (RY (.ref r')):=e2;rw[hv]at Fj;cases Fj;have z:=new mv;simpa using z
  ·have EC:=Ee j _ w e1 hj;have EF:(if j=i then as' else c.kid j)=c.kid j:=Ü hj;show bW C c.S H' r' (if j=i then as' else c.kid j) w;rw[EF];exact bW.mv mv (λa ha=>⟨(ok.root (.inr ⟨j,w,r',EC,e2,Sn.mp ha⟩)).1,λo e'=>kp (λz=>hj (ok.dd.dj j i a ⟨w,r',EC,e2,Sn.mp ha⟩ z)) e'⟩) (ok.dd.kd j w r' EC e2)
 ·rcases bD j1 a z1 with y1|⟨rfl,y1,_⟩
  ·rcases bD j2 a z2 with y2|⟨rfl,y2,_⟩
   ·exact ok.dd.dj j1 j2 a y1 y2
   ·exact(y2 (.inr ⟨j1,y1⟩)).elim
  ·rcases bD j2 a z2 with y2|⟨rfl,y2,_⟩
   ·exact(y1 (.inr ⟨j2,y2⟩)).elim
   ·rfl
 ·rcases bD j a z1 with y1|⟨rfl,y1,_⟩
  ·exact ok.dd.d1 j a y1 (b1 a z2)
  ·exact y1 (.inl (b1 a z2))
 ·exact kp (λz'=>by
   rcases n.roots a (.inr ⟨i,z'⟩) with y|y
   ·exact z y
   ·rw[e]at y;cases y) (n.keep a o e z)
 ·obtain⟨o',e'⟩:=n.there a o e;exact MV a o' e'
 ·rcases z with z|⟨j,z⟩
  ·exact n.roots a (.inl (b1 a z))
  ·rcases bD j a z with y|⟨_,_,y⟩
   ·exact n.roots a (.inr ⟨j,y⟩)
   ·exact .inr y
theorem Ok.newD(ok:Ok C c)(hp:c.H p=R3)(hi:i<c.σ.length):
  Ok C {c with H:=upd c.H p (.dK []),σ:=c.σ.set i (RY (.ref p)),st:=c.st.set i (RY (.B',.DJ [] [])),kid:=λj=>if j=i then [] else c.kid j}/\Ns c {c with H:=upd c.H p (.dK []),σ:=c.σ.set i (RY (.ref p)),st:=c.st.set i (RY (.B',.DJ [] [])),kid:=λj=>if j=i then [] else c.kid j}:=by
 obtain⟨DT,n1⟩:=ok.lay (o:=.dK []) hp;obtain⟨q1,q2,q3,q4,q5⟩:=ok.la hp;have ER:i<c.st.length:=by rw[ok.len];exact hi
 have Ee:∀(j:Nat) k w,(c.st.set i (RY (.B',.DJ [] [])))[j]?=RY (RY (k,w))->j≠i->c.st[j]?=RY (RY (k,w)):=λj k w e ne=>by rw[SG (Te ne)]at e;exact e
 have Fw:∀(j:Nat),j≠i->(c.σ.set i (RY (.ref p)))[j]?=c.σ[j]?:=λj ne=>SG (Te ne);have IC:∀(j:Nat) k w,k.root=R4->(c.st.set i (RY (.B',.DJ [] [])))[j]?=RY (RY (k,w))->j≠i/\c.st[j]?=RY (RY (k,w)):=λj k w hk e=>by
  by_cases hj:j=i
  ·subst hj;rw[Sk ER]at e;cases e;cases hk
  ·exact⟨hj,Ee j k w e hj⟩
 have b1:∀a,({c with H:=upd c.H p (.dK []),σ:=c.σ.set i (RY (.ref p)),st:=c.st.set i (RY (.B',.DJ [] [])),kid:=λj=>if j=i then [] else c.kid j}:Cf).R1 a->c.R1 a:=λa D4=>by
  obtain⟨j,k,w,hk,e1,e2⟩:=D4;obtain⟨hj,EC⟩:=IC j k w hk e1;exact⟨j,k,w,hk,EC,by rw[<-Fw j hj];exact e2⟩
 have bD:∀j a,({c with H:=upd c.H p (.dK []),σ:=c.σ.set i (RY (.ref p)),st:=c.st.set i (RY (.B',.DJ [] [])),kid:=λj=>if j=i then [] else c.kid j}:Cf).RD j a->(j≠i/\c.RD j a)\/(j=i/\a=p):=λj a D4=>by
  obtain⟨w,r',e1,e2,e3⟩:=D4;by_cases hj:j=i
  ·subst hj;have Fj:(c.σ.set j (RY (.ref p)))[j]?=RY (RY (.ref r')):=e2;rw[Sk hi]at Fj;cases Fj;rcases e3 with rfl|e3
   ·exact .inr ⟨rfl,rfl⟩
   ·simp at e3
  ·have HK:a=r'\/a∈c.kid j:=by simpa[hj] using e3
   exact .inl ⟨hj,w,r',Ee j _ w e1 hj,by rw[<-Fw j hj];exact e2,HK⟩
 refine⟨⟨DT.same,DT.FC,DT.par,DT.io,by simp[ok.len],λj k w e=>?_,λj1 j2 k1 k2 w1 w2 r' h1 h2 e1 e2 e3 e4=>?_,⟨λj w r' e1 e2=>?_,λj1 j2 a z1 z2=>?_,λj a z1 z2=>?_⟩⟩,⟨λa o e z=>n1.all a o e,n1.there,λa z=>?_,λ_ z=>z,λ_ z=>.inl z⟩⟩
 ·by_cases hj:j=i
  ·subst hj;rw[Sk ER]at e;cases e;exact⟨.ref p,Sk hi,p,rfl⟩
  ·obtain⟨v,e1,e2⟩:=DT.sl j k w (Ee j k w e hj);exact⟨v,(Fw j hj).trans e1,e2⟩
 ·obtain⟨Jo,a1⟩:=IC j1 k1 w1 h1 e1;obtain⟨ID,a2⟩:=IC j2 k2 w2 h2 e2;exact ok.inj j1 j2 k1 k2 w1 w2 r' h1 h2 a1 a2 ((Fw j1 Jo).symm.trans e3) ((Fw j2 ID).symm.trans e4)
 ·by_cases hj:j=i
  ·subst hj;rw[Sk ER]at e1;cases e1;have Fj:(c.σ.set j (RY (.ref p)))[j]?=RY (RY (.ref r')):=e2;rw[Sk hi]at Fj;cases Fj;show bW C c.S (upd c.H p (.dK [])) p (if j=j then [] else c.kid j) (.DJ [] []);rw[Ú rfl];exact⟨[],au,rfl,rfl,by simp,λa ha=>by rw[SX.mp ha];exact⟨q2,q3,q1⟩,rfl⟩
  ·have EC:=Ee j _ w e1 hj;have z:=DT.dd.kd j w r' EC ((Fw j hj).symm.trans e2);show bW C c.S (upd c.H p (.dK [])) r' (if j=i then [] else c.kid j) w;rw[Ü hj];exact z
 ·rcases bD j1 a z1 with⟨_,y1⟩|⟨rfl,rfl⟩
  ·rcases bD j2 a z2 with⟨_,y2⟩|⟨rfl,rfl⟩
   ·exact ok.dd.dj j1 j2 a y1 y2
   ·exact(q5 (.inr ⟨j1,y1⟩)).elim
  ·rcases bD j2 a z2 with⟨_,y2⟩|⟨rfl,_⟩
   ·exact(q5 (.inr ⟨j2,y2⟩)).elim
   ·rfl
 ·rcases bD j a z1 with⟨_,y1⟩|⟨rfl,rfl⟩
  ·exact ok.dd.d1 j a y1 (b1 a z2)
  ·exact q5 (.inl (b1 a z2))
 ·rcases z with z|⟨j,z⟩
  ·exact .inl (.inl (b1 a z))
  ·rcases bD j a z with⟨_,y⟩|⟨_,rfl⟩
   ·exact .inl (.inr ⟨j,y⟩)
   ·exact .inr hp
end
section
theorem cN.rep{S S':Sr->Prop}(hs:∀a,S a->S' a):∀{us:List U}{as:List Sr},(∀a∈as,S' a)->cN C S H us as->ai C S' H us (as.map V.ref)
 |[],as,_,h=>by cases h;exact rfl
 |u::us,as,ha,h=>by
  obtain⟨a,as',ys,vs,rfl,rfl,h1,h2,h3⟩:=h;exact⟨.ref a,as'.map V.ref,rfl,⟨a,vs,rfl,.inl ⟨ha a (by simp),.inl h1⟩,h2.mv (.up hs)⟩,cN.rep hs (λb hb=>ha b (by simp[hb])) h3⟩
theorem Ok.DF(ok:Ok C c)(n:Nx c0 c)(hi:c.st[i]?=RY (RY (.B',u)))(hv:c.σ[i]?=RY (RY (.ref r))):
  Ok C {c with S:=λa=>c.S a\/a∈c.kid i,st:=c.st.set i (RY (.own,u))}/\Nx c0 {c with S:=λa=>c.S a\/a∈c.kid i,st:=c.st.set i (RY (.own,u))}:=by
 have ER:i<c.st.length:=(Sf.mp hi).1;have rd:=ok.dd.kd i u r hi hv;have fr:=bW.fr rd;have mem:∀a,(a=r\/a∈c.kid i)->c.RD i a:=λa z=>⟨u,r,hi,hv,z⟩
 have up:Mv c.S c.H (λa=>c.S a\/a∈c.kid i) c.H:=.up λa=>.inl;have QA:Mv (PS C c.S) c.H (PS C λa=>c.S a\/a∈c.kid i) c.H:=.up λa z=>z.imp id .inl;have Lq:r∉c.kid i/\c_ C (λa=>c.S a\/a∈c.kid i) c.H r u:=by
  cases u<;>first|exact rd.elim|skip
  obtain⟨kvs,h1,h2,h3,h4,h5,h6⟩:=rd;refine⟨(SU.mp h4).1,kvs,h1,h2,?_⟩;rw[h3];exact h6.rep (λa=>.inl) λa ha=>.inr ha
 have Ee:∀(j:Nat) k w,(c.st.set i (RY (.own,u)))[j]?=RY (RY (k,w))->j≠i->c.st[j]?=RY (RY (k,w)):=λj k w e ne=>by rw[SG (Te ne)]at e;exact e
 have b1:∀a,({c with S:=λa=>c.S a\/a∈c.kid i,st:=c.st.set i (RY (.own,u))}:Cf).R1 a->c.R1 a\/a=r:=λa D4=>by
  obtain⟨j,k,w,hk,e1,e2⟩:=D4;by_cases hj:j=i
  ·subst hj;have Fj:c.σ[j]?=RY (RY (.ref a)):=e2;rw[hv]at Fj;cases Fj;exact .inr rfl
  ·exact .inl ⟨j,k,w,hk,Ee j k w e1 hj,e2⟩
 have bD:∀j a,({c with S:=λa=>c.S a\/a∈c.kid i,st:=c.st.set i (RY (.own,u))}:Cf).RD j a->j≠i/\c.RD j a:=λj a D4=>by
  obtain⟨w,r',e1,e2,e3⟩:=D4;by_cases hj:j=i
  ·subst hj;rw[Sk ER]at e1;cases e1
  ·exact⟨hj,w,r',Ee j _ w e1 hj,e2,e3⟩
 refine⟨⟨ok.same,λa z=>?_,ok.par,ok.io,by simp[ok.len],λj k w e=>?_,λj1 j2 k1 k2 w1 w2 r' h1 h2 e1 e2 e3 e4=>?_,⟨λj w r' e1 e2=>?_,λj1 j2 a z1 z2=>ok.dd.dj j1 j2 a (bD j1 a z1).2 (bD j2 a z2).2,λj a z1 z2=>?_⟩⟩,⟨⟨n.keep,n.there,λa z=>?_,λa z=>.inl (n.sub a z),λa z=>?_⟩,n.all⟩⟩
 ·rcases z with z|z
  ·exact ok.FC a z
  ·obtain⟨o,ho,_⟩:=bW.there rd a (SS _ z);exact⟨(fr a (SS _ z)).2.2,o,ho⟩
 ·by_cases hj:j=i
  ·subst hj;rw[Sk ER]at e;cases e;obtain⟨q1,q2,q3⟩:=fr r (SR ..);exact⟨.ref r,hv,r,rfl,λz=>z.elim q1 Lq.1,q2,q3,Lq.2⟩
  ·obtain⟨v,e1,e2⟩:=ok.sl j k w (Ee j k w e hj);refine⟨v,e1,e2.mv up QA λhk r' er=>?_⟩;obtain⟨Lf,E5,z1,_⟩:=e2.rt hk;rw[er]at E5;cases E5;exact⟨λz=>z.elim z1 λz=>ok.dd.d1 i r' (mem r' (.inr z)) ⟨j,k,w,hk,Ee j k w e hj,by rw[e1,er]⟩,λo q=>q⟩
 ·by_cases Jo:j1=i
  ·by_cases ID:j2=i
   ·rw[Jo,ID]
   ·subst Jo;have HK:c.σ[j1]?=RY (RY (.ref r')):=e3;rw[hv]at HK;cases HK;exact(ok.dd.d1 j1 r (mem r (.inl rfl)) ⟨j2,k2,w2,h2,Ee j2 k2 w2 e2 ID,e4⟩).elim
  ·by_cases ID:j2=i
   ·subst ID;have Om:c.σ[j2]?=RY (RY (.ref r')):=e4;rw[hv]at Om;cases Om;exact(ok.dd.d1 j2 r (mem r (.inl rfl)) ⟨j1,k1,w1,h1,Ee j1 k1 w1 e1 Jo,e3⟩).elim
   ·exact ok.inj j1 j2 k1 k2 w1 w2 r' h1 h2 (Ee j1 k1 w1 e1 Jo) (Ee j2 k2 w2 e2 ID) e3 e4
 ·by_cases hj:j=i
  ·subst hj;rw[Sk ER]at e1;cases e1
  ·have EC:=Ee j _ w e1 hj;exact bW.mv up (λa ha=>⟨λz=>z.elim (ok.root (.inr ⟨j,w,r',EC,e2,Sn.mp ha⟩)).1 λz=>hj (ok.dd.dj j i a ⟨w,r',EC,e2,Sn.mp ha⟩ (mem a (.inr z))),λo q=>q⟩) (ok.dd.kd j w r' EC e2)
 ·obtain⟨hj,y⟩:=bD j a z1;rcases b1 a z2 with z|z
  ·exact ok.dd.d1 j a y z
  ·subst z;exact hj (ok.dd.dj j i a y (mem a (.inl rfl)))
 ·rcases z with z|⟨j,z⟩
  ·rcases b1 a z with z|rfl
   ·exact n.roots a (.inl z)
   ·exact n.roots a (.inr ⟨i,mem a (.inl rfl)⟩)
  ·exact n.roots a (.inr ⟨j,(bD j a z).2⟩)
 ·rcases z with z|z
  ·exact n.new a z
  ·rcases n.roots a (.inr ⟨i,mem a (.inr z)⟩) with y|y
   ·exact .inr (.inl y)
   ·exact .inr (.inr y)
theorem yu(hN:X.N[i]?=RY x)(hv:FE X.env.scope x)(hd:(x==("__debug__":Str))=R5)(En:(x==("__classdict__":Str))=R5):PE X (.Name x pos) (DP C (vk i)):=by
 have MW:=m9 (C:=C) (pos:=pos) hN hv hd En;rintro pins s σ H Q I ⟨c0,rfl,rfl,ok,r,st',e,h⟩;unfold vk at e;split at e
 ·rename_i u hs;cases e;obtain⟨v,e1,r',rfl⟩:=ok.sl i _ _ hs;obtain⟨DZ,n'⟩:=ok.DF (Nx.refl c0) hs e1;have ER:i<c0.st.length:=(Sf.mp hs).1;exact cw hN hv hd En pins s c0.σ c0.H Q I ⟨.ref r',e1,h {c0 with S:=λa=>c0.S a\/a∈c0.kid i,st:=c0.st.set i (RY (.own,u))} (.ref r') rfl rfl DZ n' ⟨⟨.own,rfl,Sk ER⟩,e1⟩⟩
 ·exact MW pins s c0.σ c0.H Q I ⟨c0,rfl,rfl,ok,r,st',e,h⟩
end
section
theorem fI{st:aj}(h:W (fS i) st Q):∃ks us,st[i]?=RY (RY (.B',.DJ ks us))/\Q (ks,us) st:=by
 obtain⟨r,st',e,q⟩:=h;unfold fS at e;split at e
 ·rename_i ks us hs;cases e;exact⟨ks,us,hs,q⟩
 ·cases e
theorem fJ{st:aj}(h:W (gT x) st Q):∃y,x.2=.str y/\Q y st:=by
 unfold gT at h;split at h
 ·rename_i y e;rw[ah]at h;exact⟨y,e,h⟩
 ·exact(az.mp h).elim
theorem Ok.DJ(ok:Ok C c)(hi:c.st[i]?=RY (RY (.B',.DJ ks us))):∃(r:Sr) (kvs:List (Key×V)),c.σ[i]?=RY (RY (.ref r))/\c.H r=RY (.dK kvs)/\kvs.map (·.1)=ks.map SN/\kvs.map (·.2)=(c.kid i).map V.ref /\
  (r::c.kid i).Nodup/\cN C c.S c.H us (c.kid i)/\(∀y:Str,(cP kvs (SN y)).isSome=Sa (y∈ks))/\∀(y:Str) (u:U),cA ks us y=RY u->∃v,cP kvs (SN y)=RY v/\Rep C (λa=>c.S a\/a∈c.kid i) c.H u v:=by
 obtain⟨v,e,r,rfl⟩:=ok.sl i _ _ hi;obtain⟨kvs,h1,h2,h3,h4,h5,h6⟩:=ok.dd.kd i _ r hi e;have hr:ai C (λa=>c.S a\/a∈c.kid i) c.H us (kvs.map (·.2)):=by rw[h3];exact h6.rep (λa=>.inl) λa ha=>.inr ha
 exact⟨r,kvs,e,h1,h2,h3,h4,h6,λy=>(cC (x:=y) h2 hr).2,λy=>(cC (x:=y) h2 hr).1⟩
theorem gY{k:Str->List Str×List U->M β}{DV:β->aj->Prop}{Z:V->V->Hp->Prop}(ok:Ok C c0)(h:W (ma >>= λx=>gT x >>= λy=>fS i >>= λd=>k y d) c0.st DV)
  (hz:∀(c:Cf) (y:Str) (ks:List Str) (us:List U) (r:Sr) (kvs:List (Key×V)),c.σ=c0.σ->Ok C c->Nx c0 c->c.H r=RY (.dK kvs)->(cP kvs (SN y)).isSome=Sa (y∈ks)->W (k y (ks,us)) c.st DV->Z (.str y) (.ref r) c.H) :
  DP C ma c0.σ c0.H λv H1=>∃v',c0.σ[i]?=RY (RY v')/\Z v v' H1:=by
 refine⟨c0,rfl,rfl,ok,?_⟩;rw[af]at h;refine W.mono h λx st' w c v hσ hs DZ n r=>?_;subst hs;obtain⟨kx,ux⟩:=x;rw[af]at w;obtain⟨y,e,w1⟩:=fJ w;clear w
 dsimp only at e r
 subst e;have ev:v=.str y:=r.str DZ;subst ev;rw[af]at w1;obtain⟨ks,us,hs,w⟩:=fI w1;obtain⟨r',kvs,e1,h1,_,_,_,_,h2,_⟩:=DZ.DJ hs;exact⟨.ref r',by rw[<-hσ];exact e1,hz c y ks us r' kvs hσ DZ n h1 (h2 y) w⟩
def vM(neg:Bool):CmpOp:=if neg=R4 then .NotIn else .In
theorem yw(hu:X.A.units+60<Tx)(hN:X.N[i]?=RY x)(hv:FE X.env.scope x)(hd:(x==("__debug__":Str))=R5)(En:(x==("__classdict__":Str))=R5)(ha:PE X a (DP C ma))(hm:US (vM neg) (.Name x p2)=R5):
  PE X (.Compare a [vM neg] [.Name x p2] pos) (DP C (ma >>= λx=>gT x >>= λy=>fS i >>= λd=>pure (.loc,.bl (J9 neg y d.1)))):=by
 rintro pins s σ H Q I ⟨c0,rfl,rfl,ok,h⟩;cases neg with
 |false =>
  refine uB (uT ⋯ ha (cw hN hv hd En)) hm pins s c0.σ c0.H Q I (gY ok h λc y ks us r kvs hσ D7 n h1 h2 w=>?_);rw[ah]at w;refine⟨r,_,rfl,c7.k (k:=SN y) h1,?_⟩;rw[h2];exact w c (.bl _) hσ rfl D7 n rfl
 |true =>
  refine uB (lI ⋯ ha (cw hN hv hd En)) hm pins s c0.σ c0.H Q I (gY ok h λc y ks us r kvs hσ D7 n h1 h2 w=>?_);rw[ah]at w;refine⟨r,_,rfl,c7.k (k:=SN y) h1,?_⟩;rw[h2];exact w c (.bl _) hσ rfl D7 n rfl
theorem A6(E3:∀j,ns j=R4->j≠i)(hN:X.N.Nodup)(hi:X.N[i]?=RY x)(hx:Loc X.env.scope x)(hf:X.fn x=R4\/X.env.scope.names.lookup x=RY .local)
  (hs:Vx (.Dict [] [] p) (RY (.Name x pos')) pos.line X.env=pure R5):L2.PS X (.Assign [.Name x pos'] (.Dict [] [] p) pos) (Es C ns (zi i >>= λ_=>pure .nx)):=by
 rintro pins s σ H D I ⟨c0,rfl,rfl,ok,h⟩;have ER:i<c0.σ.length:=by rw[I.len];exact(Sf.mp hi).1
 refine uI hN hi hx oo hs hf pins s c0.σ c0.H D I λq hq=>?_;obtain⟨DZ,n'⟩:=ok.newD hq ER;rw[af]at h;obtain⟨_,st',e,w⟩:=h;cases e;rw[ah]at w;exact w _ rfl DZ n' ⟨λj hj=>SG (Te (E3 j hj)),by simp⟩
end
section
theorem yx(hu:X.A.units+60<Tx)(hN:X.N[i]?=RY x)(hv:FE X.env.scope x)(hd:(x==("__debug__":Str))=R5)(En:(x==("__classdict__":Str))=R5)(ha:PE X a (DP C ma))(hm:US (vM neg) (.Name x p2)=R5):
  PT X (.Compare a [vM neg] [.Name x p2] pos) (EN C (ma >>= λx=>gT x >>= λy=>fS i >>= λd=>pure (J9 neg y d.1))):=by
 rintro pins s σ H Q I ⟨c0,rfl,rfl,ok,h⟩;cases neg with
 |false =>
  refine uC (uT ⋯ ha (cw hN hv hd En)) hm pins s c0.σ c0.H Q I (gY (Z:=λy x H2=>∃a o,x=V.ref a/\c7 H2 a y o/\∃b,V.bl o.isSome=.bl b/\Q b H2) ok h λc y ks us r kvs hσ D7 n h1 h2 w=>?_);rw[ah]at w;refine⟨r,_,rfl,c7.k (k:=SN y) h1,?_⟩;rw[h2];exact⟨_,rfl,w c hσ rfl D7 n⟩
 |true =>
  refine uC (lI ⋯ ha (cw hN hv hd En)) hm pins s c0.σ c0.H Q I (gY (Z:=λy x H2=>∃a o,x=V.ref a/\c7 H2 a y o/\∃b,V.bl (!o.isSome)=.bl b/\Q b H2) ok h λc y ks us r kvs hσ D7 n h1 h2 w=>?_);rw[ah]at w;refine⟨r,_,rfl,c7.k (k:=SN y) h1,?_⟩;rw[h2];exact⟨_,rfl,w c hσ rfl D7 n⟩
theorem cN.snoc{S:Sr->Prop}{a:Sr}(h1:H a=RY (.lst vs))(h2:ai C S H ys vs):∀{us:List U}{as:List Sr},cN C S H us as->cN C S H (us++[.lst ys]) (as++[a])
 |[],as,h=>by cases h;exact⟨a,[],ys,vs,rfl,rfl,h1,h2,rfl⟩
 |u::us,as,h=>by
  obtain⟨a',as',E9,Ea,rfl,e,g1,g2,g3⟩:=h;exact⟨a',as'++[a],E9,Ea,rfl,e,g1,g2,cN.snoc h1 h2 g3⟩
theorem qC{st:aj}(h:W (jW i y r) st Q):∃us ks vs,r=(.own,.lst us)/\st[i]?=RY (RY (.B',.DJ ks vs))/\y∉ks/\ks.length<R6/\Q () (st.set i (RY (.B',.DJ (ks++[y]) (vs++[.lst us])))):=by
 obtain⟨k,u⟩:=r;cases k<;>cases u<;>first|exact(az.mp h).elim|skip
 rename_i us;obtain⟨_,st',e,q⟩:=h;unfold jW at e
 dsimp only at e
 split at e
 ·rename_i ks vs hs;split at e
  ·rename_i hz;cases e;exact⟨us,ks,vs,rfl,hs,hz.1,hz.2,q⟩
  ·cases e
 ·cases e
theorem A7{i:Nat}{x:Str}{px:Pos}(hu:X.A.units+60<Tx)(hN:X.N[i]?=RY x)(hv:FE X.env.scope x)(hd:(x==("__debug__":Str))=R5)(En:(x==("__classdict__":Str))=R5)
  (ha:PE X a (DP C ma)) (hb:PE X b (DP C mb)) (hs:VB [.Subscript (.Name x px) b p] a pos.line X.env=pure R5) (IB:W0 [.Subscript (.Name x px) b p] a X.env=pure R3)
  (has:∀v,VU (.Subscript (.Name x px) b p) X.env v=(do
   let ov <-Up [v] (T2 (.Name x px) X.env)
   let iv <-Up [v,ov] (T2 b X.env)
   Xd p
   Up [v,ov,iv] (Wg ov iv v)
   Xg [v,ov,iv] [])) :
  L2.PS X (.Assign [.Subscript (.Name x px) b p] a pos) (Es C ns (ma >>= λr=>fS i >>= λ_=>mb >>= λx=>gT x >>= λy=>jW i y r >>= λ_=>pure .nx)):=by
 refine PS.weak (p6 ha (uH (cw hN hv hd En) hb (set_dict (X:=X) ⋯) has) hs IB rfl) ?_;rintro D σ H ⟨c0,rfl,rfl,ok,h⟩;refine aO ok h λr c v t w=>?_;rw[af]at w;obtain⟨Oo,MX,EI,w⟩:=fI w;obtain⟨r0,IE,e0,g0,_⟩:=t.ok.DJ EI;refine⟨.ref r0,by rw[<-t.hσ];exact e0,?_⟩;rw[af]at w;refine⟨c,t.hσ,rfl,t.ok,w.mono λy st2 w2 c2 vy e3 e4 Ej n2 r2=>?_⟩;subst e4;rw[af]at w2;obtain⟨ky,uy⟩:=y;obtain⟨y,ey,w3⟩:=fJ w2
 dsimp only at ey r2
 subst ey;have ev:vy=.str y:=r2.str Ej;subst ev;rw[af]at w3;obtain⟨us,ks,vs,er,E_,K5,hlen,q⟩:=qC w3;subst er;rw[ah]at q;obtain⟨r1,kvs,f1,g1,g2,g3,g4,g5,g6,_⟩:=Ej.DJ E_;have er:r1=r0:=by rw[e3,<-t.hσ,e0]at f1;cases f1;rfl
 subst er;obtain⟨r',rfl,k1,k2,k3,Ea,k4,k5⟩:=t.rx.w.on t.ok n2.toNs (e3.trans t.hσ.symm);have MT:=t.nx.trans n2;have hl:kvs.length=ks.length:=by have:=ß Tn g2;simpa using this
 have GN:cP kvs (SN y)=R3:=by
  have:=g6 y;rw[Ý K5]at this;cases hq:cP kvs (SN y) with
  |none=>rfl
  |some _=>rw[hq]at this;cases this
 refine⟨r1,_,rfl,tq.k (k:=SN y) g1 (by rw[hl];exact hlen),?_⟩;rw[uR _ GN];have Lq:r'∉c2.kid i:=λz=>k3 (.inr ⟨i,_,_,E_,f1,.inr z⟩);have Oq:r'≠r1:=λz=>k3 (.inr ⟨i,_,_,E_,f1,.inl z⟩);have rd:=Ej.dd.kd i _ _ E_ f1;have fr:=bW.fr rd;obtain⟨FN,n3⟩:=Ok.CG (H':=upd c2.H r1 (.dK (kvs++[(SN y,.ref r')]))) (u':=.DJ (ks++[y]) (vs++[.lst us])) (as':=c2.kid i++[r']) Ej MT.toNs E_ f1
  (λa ne=>ao λz=>ne ⟨_,_,E_,f1,.inl z⟩) (λa o e=>by
   by_cases hz:a=r1
   ·subst hz;exact⟨_,au⟩
   ·rw[ao hz];exact⟨o,e⟩)
  (λmv=>by
   refine⟨_,au,by rw[SO,g2,SO];rfl,by rw[SO,g3,SO];rfl,?_,λa ha=>?_,?_⟩
   ·rw[<-YW,SW];exact⟨g4,by simp,λa ha b hb=>by
     have:b=r':=by simpa using hb
     subst this;rintro rfl;rcases Sn.mp ha with z|z
     ·exact Oq z
     ·exact Lq z⟩
   ·rw[<-YW]at ha;rcases SA.mp ha with ha|ha
    ·exact fr a ha
    ·have:a=r':=by simpa using ha
     subst this;obtain⟨z1,_,z3,_⟩:=ok.la k1;exact⟨k2,z3,z1⟩
   ·exact cN.snoc (by rw[ao Oq];exact k4) (k5.mv mv) (cN.mv mv (λa ha o e=>by
     rw[ao (λz=>(SU.mp g4).1 (by rw[<-z];exact ha))];exact e) g5))
  (λa ha=>by
   rcases SA.mp ha with ha|ha
   ·exact .inl ha
   ·have:a=r':=by simpa using ha
    subst this;exact .inr ⟨k3,k1⟩)
 have z:=q _ rfl FN n3 (Kept.of e3);rw[<-e3];exact z
theorem cN.at{S:Sr->Prop}:∀{ks:List Str}{us:List U}{as:List Sr}{kvs:List (Key×V)}{u:U},kvs.map (·.1)=ks.map SN->kvs.map (·.2)=as.map V.ref->as.Nodup->cN C S H us as->cA ks us y=RY u ->
  ∃a ws ys,cP kvs (SN y)=RY (.ref a)/\a∈as/\u=.lst ys/\H a=RY (.lst ws)/\ai C S H ys ws/\∀(H':Hp) (E9:List U) (Iv:List V),Mv S H S H'->H' a=RY (.lst Iv)->ai C S H' E9 Iv->(∀b∈as,b≠a->H' b=H b)->cN C S H' (jg ks us y (.lst E9)) as
 |[],us,as,kvs,u,_,_,_,_,h=>by cases us<;>cases h
 |k::ks,[],as,kvs,u,_,_,_,_,h=>by cases h
 |k::ks,u0::us,as,kvs,u,h1,h2,hn,hk,h=>by
  obtain⟨a,as',ys,ws,rfl,rfl,g1,g2,g3⟩:=hk;cases kvs with
  |nil=>simp at h1
  |cons p kvs =>
   rw[Sd,Sd,UY]at h1 h2;rw[SU]at hn;by_cases hy:k=y
   ·subst hy;simp only[cA,if_true]at h;cases h;refine⟨a,ws,ys,by rw[dI h1.1,h2.1],by simp,rfl,g1,g2,λH' E9 Iv mv e1 e2 e3=>?_⟩;simp only[jg,if_true];exact⟨a,as',E9,Iv,rfl,rfl,e1,e2,cN.mv mv (λb hb o e=>by rw[e3 b (by simp[hb]) (λz=>hn.1 (z▸hb))];exact e) g3⟩
   ·simp only[cA,Ü hy]at h;obtain⟨a1,QB,QC,f1,f2,f3,f4,f5,f6⟩:=cN.at h1.2 h2.2 hn.2 g3 h;refine⟨a1,QB,QC,?_,by simp[f2],f3,f4,f5,λH' E9 Iv mv e1 e2 e3=>?_⟩
    ·rw[dJ (by rw[h1.1];intro z;exact hy (WJ z))];exact f1
    ·simp only[jg,Ü hy];have ha:a≠a1:=λz=>hn.1 (z▸f2);exact⟨a,as',ys,ws,rfl,rfl,by rw[e3 a (by simp) ha];exact g1,g2.mv mv,f6 H' E9 Iv mv e1 e2 λb hb=>e3 b (by simp[hb])⟩
theorem qD{st:aj}(h:W (jX i y u) st Q):∃ks vs xs,st[i]?=RY (RY (.B',.DJ ks vs))/\cA ks vs y=RY (.lst xs)/\xs.length<R6/\Q () (st.set i (RY (.B',.DJ ks (jg ks vs y (.lst (xs++[u])))))):=by
 obtain⟨_,st',e,q⟩:=h;unfold jX at e;split at e
 ·rename_i ks vs hs;split at e
  ·rename_i xs hx;split at e
   ·rename_i hz;cases e;exact⟨ks,vs,xs,hs,hx,hz,q⟩
   ·cases e
  ·cases e
 ·cases e
theorem A8(hK:C.K=X.K)(hu:X.A.units+60<Tx)(hN:X.N[i]?=RY x)(hv:FE X.env.scope x)(hd:(x==("__debug__":Str))=R5)(En:(x==("__classdict__":Str))=R5)(ha:PE X a (DP C ma))(hb:PE X b (DP C mb))(Kg:Ai b)
  (EM:((Uk DK (SJ [a] X.env)).all (λx=>!x.1)&&(Wa DK (Vi [] X.env)).all (λx=>x.1.isSome)
   && Sa ([a].length+([]:List Va).length+(if ([]:List Va).isEmpty then 0 else 1)<30))=R4)
  (Eo:(apos.endLine==DK.line)=R4) (DS:SJ [a] X.env=[(R5,T2 a X.env)]) :
  L2.PS X (.Expr (.Call (.Attribute (.Subscript (.Name x px) b p) "append" apos) [a] [] DK) pos) (Es C ns (fS i >>= λ_=>mb >>= λx=>gT x >>= λy=>fS i >>= λd=>if y∈d.1 then(ma >>= λr=>lift r >>= λu=>jX i y u >>= λ_=>pure .nx) else M.fail)):=by
 refine PS.weak (jh (uO PySem.F.plainAttrs_list PySem.F.slot_list_append PySem.F.type_list_append lD (xC ⋯ (cw hN hv hd En) hb Kg) (ji ha mE DS) rfl EM Eo DS rfl)) ?_;rintro D σ H ⟨c0,rfl,rfl,ok,h⟩;rw[af]at h;obtain⟨Oo,MX,EI,h⟩:=fI h;obtain⟨r0,IE,e0,g0,_⟩:=ok.DJ EI;refine⟨.ref r0,e0,?_⟩;refine aO ok h λry c vy t w=>?_;rw[af]at w;obtain⟨ky,uy⟩:=ry;obtain⟨y,ey,w1⟩:=fJ w
 dsimp only at ey
 subst ey;have ev:vy=.str y:=t.rx.str t.ok;subst ev;rw[af]at w1;obtain⟨ks,us,hs,w2⟩:=fI w1
 dsimp only at w2
 by_cases hy:y∈ks
 case neg=>rw[Ü hy]at w2;exact(az.mp w2).elim
 rw[Ú hy]at w2;obtain⟨r1,kvs,f1,g1,g2,g3,g4,g5,g6,_⟩:=t.ok.DJ hs;have er:r1=r0:=by rw[t.hσ,e0]at f1;cases f1;rfl
 subst er;have HL:=g6 y;rw[Þ hy]at HL;obtain⟨v0,Lr⟩:=Xt.mp HL;have E8:v0∈(c.kid i).map V.ref:=by
  rw[<-g3];unfold cP at Lr;obtain⟨q,hq,rfl⟩:=Si.mp Lr;exact Yi (List.mem_of_find?_eq_some hq)
 obtain⟨a1,QD,rfl⟩:=So.mp E8;obtain⟨GO,MY⟩:=g5.mem QD;refine⟨r1,.ref a1,rfl,by rw[<-Lr];exact c7.k (k:=SN y) g1,Or.inl ⟨rfl,GO,.inl (.inl MY)⟩,?_⟩;rw[<-t.hσ];refine aO t.ok w2 λr c' v t' w3=>?_;rw[af]at w3;obtain⟨S',st',u,sS,DT,n1,rep1,w4,_,_⟩:=gV t.ok t'.ok t'.nx t'.rx.w w3;rw[af]at w4;obtain⟨FO,Ea,xs,GF,hx,hz,q⟩:=qD w4;rw[ah]at q;obtain⟨r2,IF,k1,k2,k3,k4,k5,k6,_,_⟩:=DT.DJ GF;have Ot:c'.σ[i]?=RY (RY (.ref r2)):=k1;have er:r2=r1:=by rw[t'.hσ,t.hσ,e0]at Ot;cases Ot;rfl
 subst er;have QE:c'.H r2=RY (.dK IF):=k2;have MZ:IF=kvs:=by have:=t'.nx.all _ _ g1;rw[QE]at this;cases this;rfl
 subst MZ;have nd:=(SU.mp k5).2;obtain⟨a2,ws,ys,l1,l2,l3,l4,l5,l6⟩:=cN.at k3 k4 nd k6 hx;cases l3;rw[Lr]at l1;cases l1;have QF:c'.H a1=RY (.lst ws):=l4;refine⟨a1,ws,v,rfl,rfl,QF,by rw[<-l5.len];exact hz,?_⟩;have Ez:a1≠r2:=λz=>(SU.mp k5).1 (z▸l2);obtain⟨Ej,n2⟩:=Ok.CG (c:={c' with S:=S',st:=st' }) (H':=upd c'.H a1 (.lst (ws++[v]))) (u':=.DJ FO (jg FO Ea y (.lst (xs++[u])))) (as':=c'.kid i) DT (t.nx.trans n1).toNs GF k1
  (λa ne=>ao λz=>ne ⟨_,_,GF,k1,.inr (z▸l2)⟩) (λa o e=>by
   by_cases hz:a=a1
   ·subst hz;exact⟨_,au⟩
   ·rw[ao hz];exact⟨o,e⟩)
  (λmv=>⟨IF,by rw[ao (Te Ez)];exact k2,k3,k4,k5,bW.fr (DT.dd.kd i _ _ GF k1),l6 _ _ _ mv au ((l5.mv mv).snoc (rep1.mv mv)) λb _ ne=>ao ne⟩)
  (λa ha=>.inl ha)
 have z:=q _ rfl Ej n2 (Kept.of (t'.hσ.trans t.hσ));rw[<-t'.hσ];exact z
end
section
theorem vN{st:aj}(h:W (Mz u) st Q):∃ks us,u=.DJ ks us/\Q () st:=by
 cases u<;>first|exact(az.mp h).elim|skip
 exact⟨_,_,rfl,ah.mp h⟩
theorem lR{st:aj}(h:W (tN x) st Q):∃j,x.2=.int j/\Q j st:=by
 unfold tN at h;split at h
 ·rename_i y e;rw[ah]at h;exact⟨y,e,h⟩
 ·exact(az.mp h).elim
theorem lT{st:aj}(h:W (oM i) st Q):∃k us,k.root=R4/\st[i]?=RY (RY (k,.lst us))/\Q us st:=by
 obtain⟨r,st',e,q⟩:=h;unfold oM at e;split at e
 ·rename_i k us hs;split at e
  ·rename_i hk;cases e;exact⟨k,_,hk,hs,q⟩
  ·cases e
 ·cases e
theorem oQ:∀{ks:List Str}{us:List U},y∈ks->ks.length=us.length->cA ks us y=R3->False
 |[],us,h,_,_=>by cases h
 |k::ks,[],_,h,_=>by simp at h
 |k::ks,u::us,h,hl,e=>by
  by_cases hk:k=y
  ·simp[cA,hk]at e
  ·simp only[cA,Ü hk]at e;rcases Sn.mp h with h|h
   ·exact hk h.symm
   ·exact oQ h (by simpa using hl) e
theorem vO{i:Nat}{x:Str}{px:Pos}(hu:X.A.units+60<Tx)(hN:X.N[i]?=RY x)(hv:FE X.env.scope x)(hd:(x==("__debug__":Str))=R5)(En:(x==("__classdict__":Str))=R5)
  (ha:PE X a (DP C ma)) (hb:PE X b (DP C mb)) (hm:M2 X (.Name x px) "get" apos a b DK) :
  PE X (.Call (.Attribute (.Name x px) "get" apos) [a,b] [] DK) (DP C (dk i >>= λx=>Mz x.2 >>= λ_=>ma >>= λy=>gT y >>= λy=>mb >>= λz=>lift z >>= λu=>dk i >>= λx=>M.D0 (xY x y u))):=by
 rintro pins s σ H Q I ⟨c0,rfl,rfl,ok,h⟩;refine uV ⋯ (cw hN hv hd En) ha hb hm pins s c0.σ c0.H Q I ?_;rw[af]at h;obtain⟨k0,u0,M0,EI,h⟩:=cW h;obtain⟨v0,e0,t0⟩:=ok.slot M0 EI;rw[af]at h;obtain⟨Oo,MX,Ou,h'⟩:=vN h
 dsimp only at Ou
 subst Ou;obtain⟨a0,IE,rfl,g0,_⟩:=t0.dict ok;refine⟨.ref a0,e0,a0,rfl,.inl ⟨IE,.inl g0⟩,?_⟩;refine aO ok h' λry c vy t w=>?_;rw[af]at w;obtain⟨ky,uy⟩:=ry;obtain⟨y,ey,w1⟩:=fJ w
 dsimp only at ey
 subst ey;have ev:vy=.str y:=t.rx.str t.ok;subst ev;rw[<-t.hσ];refine aO t.ok w1 λz c2 vz t2 w2=>?_;rw[af]at w2;obtain⟨S',st',u,sS,DT,n1,rep1,w4,_,_⟩:=gV t.ok t2.ok t2.nx t2.rx.w w2;rw[af]at w4;obtain⟨k,u1,QG,E_,w5⟩:=cW w4;obtain⟨r,er,q⟩:=cq.mp w5;obtain⟨v1,e1,t1⟩:=DT.slot QG E_;have EC:c2.σ[i]?=RY (RY v1):=e1;rw[t2.hσ,t.hσ,e0]at EC;cases EC;cases u1<;>first|(simp only[xY]at er;cases er;done)|skip
 rename_i ks us;obtain⟨a1,kvs,ea,g1,g2,g3⟩:=t1.dict DT;cases ea;have Ls:c2.H a0=RY (.dK kvs):=g1;refine⟨_,c7.k (k:=SN y) Ls,?_⟩;simp only[xY]at er;obtain⟨l1,l2⟩:=cC (x:=y) g2 g3;have fin:∀v:V,aH C c0 {c2 with S:=S',st:=st' } r.1 r.2 v->Q v c2.H:=λv z=>q {c2 with S:=S',st:=st' } v (t2.hσ.trans t.hσ) rfl DT (t.nx.trans n1) z;cases hg:cA ks us y with
 |some w =>
  rw[hg]at er;cases er;obtain⟨v,ev,rv⟩:=l1 w hg;rw[ev];refine fin v ?_;exact aH.item (k:=if k.root=R4 then .bor i else k) rv
 |none =>
  rw[hg]at er;cases er;have GN:cP kvs (SN y)=R3:=by
   cases hq:cP kvs (SN y) with
   |none=>rfl
   |some v =>
    exfalso
    rw[hq]at l2;have hy:y∈ks:=by simpa using l2.symm
    have hlen:ks.length=us.length:=by have h1:=ß Tn g2;have h2:=g3.len;simp at h1 h2;omega
    exact oQ hy hlen hg
  rw[GN];exact fin vz rep1
theorem vP:BP X (λo i H Q=>∃p xs j v,o=.ref p/\i=.int j/\H p=RY (.lst xs)/\0<=j/\xs[j.toNat]?=RY v/\Q v H):=by
 rintro pins s σ H o i ov iv Q I ro ri ⟨p,xs,j,v,rfl,rfl,hp,h0,hv,q⟩;cases ro;obtain⟨t,rfl⟩:=ri;obtain⟨its,r,pl,hz⟩:=I.list (.inl (.inl hp));obtain⟨w,ew,FF⟩:=r.get hv;have hl:=r.length;have hn:=eU;have D2:=(Sf.mp hv).1;exact wpAny_getItem_list pl.isList h0 ⋯ (by simpa using ew) ⟨v,H,I,FF,q⟩
theorem yy:KH X (if sub=R4 then .Sub else .Add) (LJ (tP sub)):=by
 cases sub with
 |true=>exact zT
 |false=>exact zS
theorem CH(hN:X.N[i]?=RY x)(hv:FE X.env.scope x)(hd:(x==("__debug__":Str))=R5)(En:(x==("__classdict__":Str))=R5)
  (ha:PE X a (DP C ma)) (hb:PE X b (DP C mb))
  (has:∀ov iv new,Î b ov iv new=(do Up [new,ov,iv] (Wg ov iv new);Xg [new,ov,iv] [];pure .next)) :
  L2.PS X (.AugAssign (.Subscript (.Name x px) b p) (if sub=R4 then .Sub else .Add) a pos) (Es C ns (oM i >>= λ_=>mb >>= λy=>tN y >>= λj=>oM i >>= λus=>M.D0 (oN us j) >>= λo=>ma >>= λz=>tN z >>= λw=>modS i (dm (.int j) (.int (tP sub o w))) >>= λ_=>pure .nx)):=by
 refine PS.weak (xl (cw hN hv hd En) hb vP ha yy set_list has) ?_;rintro D σ H ⟨c0,rfl,rfl,ok,h⟩;rw[af]at h;obtain⟨k0,MX,Kh,EI,h⟩:=lT h;obtain⟨v0,e0,F2⟩:=ok.sl i _ _ EI;obtain⟨a0,rfl,_,_,_,_⟩:=F2.rt Kh;refine⟨.ref a0,e0,?_⟩;refine aO ok h λry c vy t w=>?_;rw[af]at w;obtain⟨ky,uy⟩:=ry;obtain⟨j,ey,w1⟩:=lR w
 dsimp only at ey
 subst ey;have ev:vy=.int j:=t.rx.int t.ok;subst ev;rw[af]at w1;obtain⟨k1,RL,Mx,E_,w2⟩:=lT w1;rw[af]at w2;obtain⟨o,ho,w3⟩:=cq.mp w2;obtain⟨v1,e1,QH⟩:=t.ok.sl i _ _ E_;obtain⟨a1,rfl,_,_,_,Ki⟩:=QH.rt Mx;rw[t.hσ,e0]at e1;cases e1;obtain⟨vs,g1,g2⟩:=Ki;unfold oN at ho;split at ho
 case isFalse=>cases ho
 rename_i QI;split at ho
 case h_2=>cases ho
 rename_i o' M1;cases ho;obtain⟨vo,QJ,QK⟩:=g2.get M1;have QL:vo=.int o:=QK;subst QL;refine⟨a0,vs,j,_,rfl,rfl,g1,QI,QJ,?_⟩;rw[<-t.hσ];refine aO t.ok w3 λz c2 vz t2 w4=>?_;rw[af]at w4;obtain⟨kz,uz⟩:=z;obtain⟨w,ez,w5⟩:=lR w4
 dsimp only at ez
 subst ez;have ev:vz=.int w:=t2.rx.int t2.ok;subst ev;refine⟨o,w,rfl,rfl,?_⟩;rw[af]at w5;obtain⟨k,u1,u2,hk,Fo,hf,q⟩:=fH w5;rw[ah]at q;obtain⟨v2,e2,MB⟩:=t2.ok.sl i _ _ Fo;obtain⟨a2,rfl,_,_,_,Kj⟩:=MB.rt hk;have QM:=e2;rw[t2.hσ,t.hσ,e0]at e2;cases e2;have Ls:c2.H a0=RY (.lst vs):=t2.nx.all _ _ g1;cases u1 with
 |lst xs =>
  simp only[dm,Si]at hf;obtain⟨j',KS,rfl⟩:=hf;obtain⟨Ov,l1,l2⟩:=Kj;rw[Ls]at l1;cases l1;refine⟨a0,vs,j,j',rfl,rfl,Ls,by rw[<-l2.len];exact KS,?_⟩;obtain⟨FN,n3⟩:=Ok.mod (c:=c2) (H':=upd c2.H a0 (.lst (vs.set j' (.int (tP sub o w))))) (u':=.lst (xs.set j' (.int (tP sub o w)))) t2.ok (t.nx.trans t2.nx).toNs hk Fo QM (λa ne=>ao ne) ⟨_,au⟩ λmv=>⟨_,au,(l2.mv mv).set j' rfl⟩
  have z:=q _ rfl FN n3 (Kept.of (t2.hσ.trans t.hσ));rw[<-t2.hσ];exact z
 |DJ ks vs=>simp[dm]at hf
 |Ew ks=>simp[dm,rowOf]at hf
 |_=>simp[dm]at hf
end
section
theorem yz{ks:List Str}(h1:kvs.map (·.1)=ks.map SN)(h2:kvs.map (·.2)=ns.map V.int):kvs=(ks.zip ns).map λp=>((SN p.1:Key),V.int p.2):=by
 induction kvs generalizing ks ns with
 |nil =>
  cases ks with
  |nil=>rfl
  |cons _ _=>cases h1
 |cons kv kvs ih =>
  cases ks with
  |nil=>cases h1
  |cons k ks =>
   cases ns with
   |nil=>cases h2
   |cons n ns =>
    obtain⟨a,b⟩:=kv;simp only[Sd,UY]at h1 h2;obtain⟨rfl,h1⟩:=h1;obtain⟨rfl,h2⟩:=h2;rw[ih h1 h2];rfl
theorem ai.of_map{S:Sr->Prop}{f:α->U}{g:α->V}:∀{l:List α},(∀x∈l,Rep C S H (f x) (g x))->ai C S H (l.map f) (l.map g)
 |[],_=>rfl
 |x::l,h=>⟨g x,l.map g,rfl,h x (by simp),ai.of_map λy hy=>h y (by simp[hy])⟩
theorem yA(hc:X.calm=R4)(hK:C.K=X.K)(hg:Gl X "sorted")(hm:X.mg "sorted"=R3)(hN:X.N[i]?=RY x)(hv:FE X.env.scope x)(hd:(x==("__debug__":Str))=R5)(En:(x==("__classdict__":Str))=R5)(Eo:(apos.endLine==DK.line)=R4):
  PE X (.Call (.Name "sorted" p) [.Call (.Attribute (.Name x px) "items" apos) [] [] DK] [] pos) (DP C (dk i >>= λx=>M.D0 (vj x.2))):=by
 rintro pins s σ H Q I ⟨c0,rfl,rfl,ok,h⟩;refine UK (eT I hg hm (show Uv "sorted"=RY (.builtin "sorted") by decide +kernel) ?_ (by decide +kernel) (by decide +kernel));rw[af]at h;obtain⟨k0,u0,M0,EI,h⟩:=cW h;obtain⟨v0,e0,t0⟩:=ok.slot M0 EI;obtain⟨r,er,want⟩:=cq.mp h
 dsimp only at er
 unfold vj at er;split at er
 rotate_left
 ·cases er
 rename_i ks us;rw[S8]at er;obtain⟨ns,en,er⟩:=er;split at er
 rotate_left
 ·cases er
 rename_i M3;cases er;obtain⟨Gh,DW,hlen⟩:=M3;obtain⟨d,kvs,rfl,Ow,Kh,Lp⟩:=t0.dict ok;rw[iN en]at Lp;have MZ:=yz Kh (ai.ints Lp);subst MZ;have ek:((ks.zip ns).map (·.1))=ks:=YS ⋯;have inner:Se (Sw X.prog X.w) X.A (T2 (.Call (.Attribute (.Name x px) "items" apos) [] [] DK) X.env) (λv s1=>Se (Sw X.prog X.w) X.A (Vj (.builtin "sorted") [v]) (EP X pins c0.σ Q) X.xe s1) X.xe s:=by
  refine wpAny_Call_method0_late rfl Eo (DQ (cw hN hv hd En pins s c0.σ c0.H (λv H1=>v=.ref d/\H1=c0.H) I ⟨_,e0,rfl,rfl⟩) λv s1 ⟨x1,H1,I1,r1,z1,z2⟩=>?_);subst z1 z2;cases(show v=SD d from r1);obtain⟨h1,h2⟩:=qf (T:="dict") I1 (x:=.ref d) rfl (.inr (.inr (.inl ⟨rfl,.inl ⟨_,Ow⟩⟩)));refine⟨"dict","dict.items",PySem.F.plainAttrs_dict,PySem.F.slot_dict_items,PySem.F.type_dict_items,h1,h2,UB rfl (PySem.evalArgs_none (mY hc I1 Ow (by rw[ek];exact DW) (by rw[W_];omega) λas L hl nd GY hL=>?_))⟩;have Jh:c0.H L=R3:=GY L (by simp);have QN:(as.zip ((ks.zip ns).map G1)).map (·.1)=as:=YS (by rw[R9];omega);have QO:∀p∈as.zip ((ks.zip ns).map G1),p.1∈as:=λp hp=>(Vv hp).1;have same:Af c0.H (upd (jf c0.H (as.zip ((ks.zip ns).map G1))) L (.lst ((jd ((ks.zip ns).map (·.1))).map λi=>V.ref (as.getD i 0)))):=λa o e=>by
   have n1:a≠L:=λy=>by rw[y,Jh]at e;cases e
   rw[ao n1,jT λp hp y=>?_]
   ·exact e
   ·have:=GY p.1 (by simp[QO p hp]);rw[y,e]at this;cases this
  obtain⟨DZ,n'⟩:=ok.grow (S':=c0.S) same (λa z=>.inl z) λa z=>z;obtain⟨q1,q2,q3,q4,q5⟩:=ok.la Jh;refine want {c0 with H:=upd (jf c0.H (as.zip ((ks.zip ns).map G1))) L (.lst ((jd ((ks.zip ns).map (·.1))).map λi=>V.ref (as.getD i 0))),S:=c0.S} _ rfl rfl DZ n' ⟨L,rfl,Jh,q2,q5,_,au,?_⟩;show ai C c0.S _ ((xX (ks.zip ns)).map tM) _;unfold xX;rw[Sx];refine ai.of_map λj hj=>?_;have KS:j<(ks.zip ns).length:=by
   have:=TB.mp ((fD _).mem_iff.mp hj);rw[R9]at this;exact this
  have Mp:j<as.length:=by omega
  have e1:(ks.zip ns).getD j (S5,0)=(ks.zip ns)[j]:=(List.getElem_eq_getD _).symm;have e2:as.getD j 0=as[j]:=by simp[VF,Mp]
  show Rep C c0.S _ (tM ((ks.zip ns).getD j (S5,0))) (V.ref (as.getD j 0));rw[e1,e2];refine⟨as[j],G1 (ks.zip ns)[j],rfl,Ef.of ?_,⟨_,_,rfl,rfl,_,_,rfl,rfl,rfl⟩⟩;have Ez:as[j]≠L:=λy=>hL (by rw[<-y];simp);refine(ao Ez).trans (rN (by rw[QN];exact nd) (vs:=G1 (ks.zip ns)[j]) ?_);refine X_.mpr ⟨j,by rw[W_,R9];omega,?_⟩;rw[List.getElem_zip,YT]
 have eb:Uk pos (SJ [.Call (.Attribute (.Name x px) "items" apos) [] [] DK] X.env)=[(R5,T2 (.Call (.Attribute (.Name x px) "items" apos) [] [] DK) X.env)]:=rfl;have QP:Wa pos (Vi [] X.env)=[]:=rfl;rw[eb,QP];exact vF inner
end
structure Ck where
 fns:List Str
 gl:List (Str×U)
def fi:U->U->Bool
 |.int i,.int j=>Sa (i=j)
 |.str x,.str y=>Sa (x=y)
 |.bl a,.bl b=>a==b
 |.DR,.DR=>R4
 |_,_=>R5
theorem bM(h:fi u v=R4):u=v:=by
 cases u<;>cases v<;>simp[fi]at h<;>subst_vars<;>rfl
def noStar:Td->Bool
 |.Starred _ _=>R5
 |_=>R4
def dq:Td->Bool
 |.Slice _ _ _ _=>R5
 |_=>R4
def qE:Td->Bool
 |.Set _ _ _=>R5
 |_=>R4
def nj:Td->Bool
 |.Call (.Name _ _) [] [] _=>R5
 |_=>R4
def cS:Td->Bool
 |.ListComp _ _ _ _=>R5
 |.SetComp _ _ _ _=>R5
 |.DictComp _ _ _ _ _=>R5
 |_=>R4
def A9:Td->Bool
 |.Tuple _ _ _=>R5
 |_=>R4
def FP(sc:UI)(x:Str):Bool:=Sa (sc.names.lookup x=RY .globalImplicit)
def iz(sc:UI)(x:Str):Bool:=Sa (sc.names.lookup x=RY .local)||decide (sc.names.lookup x=RY .cell)||decide (sc.names.lookup x=RY .free)
def nq(sc:UI)(x:Str):Bool:=Sa (sc.names.lookup x=RY .local)||decide (sc.names.lookup x=RY .cell)
def CI(sc:UI)(x:Str):Bool:=Sa (sc.names.lookup x=RY .local)
def bZ(x:Str):Bool:=!(x==("__debug__":Str))&&!(x==("__classdict__":Str))
def rY(N:List Str)(sc:UI)(fa:Bool)(i:Nat):Td->Bool
 |.Name x _=>Sa (N[i]?=RY x)&&nq sc x&&(fa||CI sc x)
 |_=>R5
def nu(N:List Str)(sc:UI)(fa:Bool):List Nat->List Td->Bool
 |[],[]=>R4
 |i::is,e::es=>rY N sc fa i e&&nu N sc fa is es
 |_,_=>R5
def f9:Td->List Str
 |.Name x _=>[x]
 |.Tuple es _ _=>es.filterMap fun|.Name x _=>RY x|_=>R3
 |_=>[]
def hide(own N:List Str):List Str:=match own.filter λx=>Sa (x∈N) with
 |[]=>N
 |[x]=>N.set (N.idxOf x) "."
 |x::y::_=>(N.set (N.idxOf x) ".").set (N.idxOf y) ".."
def Jp(t:Bool)(N:List Str)(sc:UI)(fa:Bool)(is:List Nat):Td->Bool
 |.Name x p=>!t&&(match is with|[i]=>rY N sc fa i (.Name x p)|_=>R5)
 |.Tuple es _ _=>t&&nu N sc fa is es&&is.all λi=>Sa (i<N.length)
 |_=>R5
def isTup:Td->Bool
 |.Tuple _ _ _=>R4
 |_=>R5
def j_(e:Td):Option (Str×List Td):=match e with
 |.Call f as kw _=>match f with
  |.Name x _=>if kw.isEmpty=R4 then RY (x,as) else R3
  |_=>R3
 |_=>R3
theorem fj(h:j_ e=RY (x,as)):∃p q,e=.Call (.Name x p) as [] q:=by
 unfold j_ at h;split at h
 ·split at h
  ·split at h
   ·rename_i hk;rw[V0]at hk;cases h;subst hk;exact⟨_,_,rfl⟩
   ·cases h
  ·cases h
 ·cases h
def fk(sc:UI)(tg:Td)(ik:Ik)(e:Td):Option (List Td):=match ik with
 |.seq=>RY [e]
 |.Eb=>(j_ e).bind λp=>if p.1="range"/\FP sc p.1=R4/\p.2.length=1 then RY p.2 else R3
 |.Hl=>(j_ e).bind λp=>if p.1="range"/\FP sc p.1=R4/\p.2.length=2 then RY p.2 else R3
 |.Ip=>(j_ e).bind λp=>if p.1="enumerate"/\FP sc p.1=R4/\p.2.length=1/\isTup tg=R4 then RY p.2 else R3
 |_=>R3
def simple:Bf->Bool:=λ_=>R4
def A_(scope sc:UI):UI:={scope with names:=scope.names.map λ(n,k)=>if (k==UA&&sc.kind==.function&&sc.names.lookup n==RY .cell)=R4 then(n,.cell) else(n,k)}
def b7(e:Td)(k:Str->Bool):Bool:=match e with|.Name x _=>k x|_=>R5
theorem aA(h:b7 e k=R4):∃x p,e=.Name x p/\k x=R4:=by
 unfold b7 at h;split at h
 ·exact⟨_,_,rfl,h⟩
 ·cases h
def f_{α:Type}(l:List α)(k:α->Bool):Bool:=match l with|[a]=>k a|_=>R5
theorem bG(h:f_ l k=R4):∃a,l=[a]/\k a=R4:=by
 unfold f_ at h;split at h
 ·exact⟨_,rfl,h⟩
 ·cases h
def fm(e:Td)(k:Td->List Td->Pos->Bool):Bool:=match e with|.Call f as kw p=>kw.isEmpty&&k f as p|_=>R5
theorem bh(h:fm e k=R4):∃f as p,e=.Call f as [] p/\k f as p=R4:=by
 unfold fm at h;split at h
 ·rename_i f as kw p;rw[R7,V0]at h;obtain⟨rfl,h⟩:=h;exact⟨_,_,_,rfl,h⟩
 ·cases h
def qF(e:Td)(k:Td->Str->Pos->Bool):Bool:=match e with|.Attribute o m p=>k o m p|_=>R5
theorem oR(h:qF e k=R4):∃o m p,e=.Attribute o m p/\k o m p=R4:=by
 unfold qF at h;split at h
 ·exact⟨_,_,_,rfl,h⟩
 ·cases h
def rZ(e:Td)(k:Td->CmpOp->Td->Bool):Bool:=match e with|.Compare a ops bs _=>f_ ops λop=>f_ bs λb=>k a op b|_=>R5
theorem d9(h:rZ e k=R4):∃a op b p,e=.Compare a [op] [b] p/\k a op b=R4:=by
 unfold rZ at h;split at h
 ·obtain⟨op,rfl,z1⟩:=bG h;obtain⟨b,rfl,z2⟩:=bG z1;exact⟨_,_,_,_,rfl,z2⟩
 ·cases h
def gx(e:Td)(k:Td->Str->Pos->List Td->Pos->Bool):Bool:=fm e λf as DK=>qF f λo m apos=>k o m apos as DK
theorem bS(h:gx e k=R4):∃o m apos as DK,e=.Call (.Attribute o m apos) as [] DK/\k o m apos as DK=R4:=by
 obtain⟨f,as,p,rfl,h⟩:=bh h;obtain⟨o,m,q,rfl,h⟩:=oR h;exact⟨_,_,_,_,_,rfl,h⟩
def lU(e:Td)(k:Td->Td->Bool):Bool:=match e with|.Subscript a b _=>k a b|_=>R5
theorem d_(h:lU e k=R4):∃a b p,e=.Subscript a b p/\k a b=R4:=by
 unfold lU at h;split at h
 ·exact⟨_,_,_,rfl,h⟩
 ·cases h
mutual
def aC(k:Ck):E->List Str->UI->Td->Bool
 |.var i,N,sc,e'=>match e' with
  |.Name x _=>Sa (N[i]?=RY x)&&iz sc x&&bZ x
  |_=>R5
 |.cst u,N,sc,e'=>match e' with
  |.Constant (.int j) _ _=>fi u (.int j)
  |.Constant (.str y) _ _=>fi u (.str y)
  |.Constant (.bool y) _ _=>fi u (.bl y)
  |.Constant .none _ _=>fi u .DR
  |_=>R5
 |.Hm x u,N,sc,e'=>match e' with
  |.Name y _=>Sa (x=y)&&FP sc x&&bZ x&&k.gl.any λp=>Sa (p.1=x)&&fi p.2 u
  |_=>R5
 |.bin op a b,N,sc,e'=>match e' with
  |.BinOp a' GP b' _=>Sa (op.op=GP)&&aC k a N sc a'&&aC k b N sc b'
  |_=>R5
 |.cmp op a b,N,sc,e'=>rZ e' λa' GP b'=>Sa (op.op=GP)&&!US GP b'&&aC k a N sc a'&&aC k b N sc b'
 |.GI _ _ _ _ _,_,_,_=>R5
 |.and es,N,sc,e'=>match e' with
  |.BoolOp .And DL _=>aI k es N sc DL
  |_=>R5
 |.or es,N,sc,e'=>match e' with
  |.BoolOp .Or DL _=>aI k es N sc DL
  |_=>R5
 |.not a,N,sc,e'=>match e' with
  |.UnaryOp .Not a' _=>aC k a N sc a'
  |_=>R5
 |.ite _ _ _,_,_,_=>R5
 |.neg _,_,_,_=>R5
 |.bad,_,_,_=>R4
 |.inD neg a i,N,sc,e'=>rZ e' λa' GP b'=>b7 b' λx=>Sa (vM neg=GP)&&!US GP b'&&Sa (N[i]?=RY x)&&iz sc x&&bZ x&&aC k a N sc a'
 |.Jj i,N,sc,e'=>match e' with
  |.Name x _=>Sa (N[i]?=RY x)&&iz sc x&&bZ x
  |_=>R5
 |.FL i a b,N,sc,e'=>gx e' λo m apos as DK=>b7 o λx=>match as with
  |[a',b']=>Sa (m="get")&&Sa (N[i]?=RY x)&&iz sc x&&bZ x&&(apos.endLine==DK.line)&&noStar a'&&noStar b'&&aC k a N sc a'&&aC k b N sc b'
  |_=>R5
 |.Jk i,N,sc,e'=>fm e' λf' as _=>b7 f' λf=>f_ as λc=>gx c λo m apos bs DK=>b7 o λx=>bs.isEmpty&&Sa (f="sorted")&&FP sc f&&Sa (m="items")&&Sa (N[i]?=RY x)&&iz sc x&&bZ x&&(apos.endLine==DK.line)
 |.La _ _ _,_,_,_=>R5
 |.fst es,N,sc,e'=>match e' with
  |.JoinedStr (e1::e2::DL) _=>tW k es N sc (e1::e2::DL)
  |_=>R5
 |.K' a T,N,sc,e'=>R5
 |.tup es,N,sc,e'=>match e' with
  |.Tuple DL _ _=>aI k es N sc DL
  |_=>R5
 |.lst es,N,sc,e'=>match e' with
  |.List DL _=>aI k es N sc DL
  |_=>R5
 |.EU _,N,sc,e'=>match e' with
  |.Dict [] [] _=>R4
  |_=>R5
 |.idx a b,N,sc,e'=>match e' with
  |.Subscript a' b' _=>dq b'&&aC k a N sc a'&&aC k b N sc b'
  |_=>R5
 |.FD a lo hi,N,sc,e'=>match e' with
  |.Subscript a' (.Slice QQ FA R3 _) _=>aC k a N sc a'&&qG k lo N sc QQ&&qG k hi N sc FA
  |_=>R5
 |.bi f es,N,sc,e'=>fm e' λf' DL _=>b7 f' λx=>Sa (x=f.name)&&simple f&&FP sc x&&!DL.isEmpty&&aI k es N sc DL
 |.GJ f es,N,sc,e'=>fm e' λf' as _=>b7 f' λx=>f_ as λc=>fm c λg' DL _=>b7 g' λy=>Sa (x=f.m_)&&Sa (y=f.gX)&&FP sc x&&FP sc y&&!DL.isEmpty&&aI k es N sc DL
 |.F_ m a es,N,sc,e'=>gx e' λo name apos DL DK=>Sa (name=m.name)&&nj o&&(apos.endLine==DK.line)&&!DL.isEmpty&&Sa (DL.length<20)&&aC k a N sc o&&aI k es N sc DL
 |.call f es,N,sc,e'=>fm e' λf' DL _=>b7 f' λx=>Sa (x=f)&&Sa (f∈k.fns)&&FP sc x&&bZ x&&!DL.isEmpty&&aI k es N sc DL
 |.comp n t ik src cond e,N,sc,e'=>match e' with
  |.ListComp elt [⟨tg,iter,ifs,0⟩] scope _ =>
   Sa ((f9 tg).length=n)&&Ao (f9 tg++hide (f9 tg) N) (f9 tg) scope sc.names&&Jp t (f9 tg++hide (f9 tg) N) (A_ scope sc) R5 (Sl n) tg&&qE iter &&
   (match fk sc tg ik iter with
    |some as=>aI k src N sc as
    |none=>R5) &&
   Sa (ifs.length<=1)&&aI k cond (f9 tg++hide (f9 tg) N) (A_ scope sc) ifs&&aC k e (f9 tg++hide (f9 tg) N) (A_ scope sc) elt
  |_=>R5
def tW(k:Ck):List E->List Str->UI->List Td->Bool
 |[],_,_,DL=>DL.isEmpty
 |e::es,N,sc,DL=>match DL with
  |.FormattedValue v (-1) R3 _::DL=>aC k e N sc v&&tW k es N sc DL
  |.Constant (.str y) _ _::DL=>(match e with|.cst u=>fi u (.str y)|_=>R5)&&tW k es N sc DL
  |_=>R5
def aI(k:Ck):List E->List Str->UI->List Td->Bool
 |[],_,_,DL=>DL.isEmpty
 |e::es,N,sc,DL=>match DL with
  |e'::DL=>noStar e'&&aC k e N sc e'&&aI k es N sc DL
  |[]=>R5
def qG(k:Ck):List E->List Str->UI->Option Td->Bool
 |[],_,_,o=>o.isNone
 |[e],N,sc,o=>match o with
  |some e'=>aC k e N sc e'
  |none=>R5
 |_::_::_,_,_,_=>R5
end
def b_:List Str:=["len","sorted","repr","max","min","all","any","list","tuple","str","int","range","enumerate","zip","reversed","set","dict","sum","isinstance","bool"]
structure Ba(P:Tu)(w:T1)(K:PySem.W.Frag)(mg:Str->Option Sb)(base:Ua)(d:Nat)(F:List U->Option (Ex (Kd×U)))(f:Str):Prop where
 ex:∃(np:Nat) (fa:Sr) (fd:Wc) (ps:List Str),oh P w K mg base Hz d fa fd ps (spT P w K F np)/\mg f=RY (.ref fa)/\PySem.W.keepIn K (.ref fa)=R4/\Binds K fd ps []/\∀us k u,F us=RY (.ok (k,u))->(k=.own\/k=.loc\/k=.any)/\us.length=np
structure Gd(ck:Ck)(Γ:Tab)(C:Ct)(d:Nat)(X:Cx):Prop where
 P:C.P=X.prog
 w:C.w=X.w
 K:C.K=X.K
 u:X.A.units+60<Tx
 calm:X.calm=R4
 room:gh d X.A
 blt:∀x∈b_,X.mg x=R3
 fns:∀f∈ck.fns,Ba X.prog X.w X.K X.mg X.base d (Γ f) f
 Hv:∀p∈ck.gl,∃val v,X.mg p.1=RY val/\RelV v val/\∀S H,Rep C S H p.2 v
theorem Gd.cx(g:Gd ck Γ C d X)(N:List Str)(sc:UI)(D:Sr)(s:Sm)(H:Hp)(ex:List Sr):Gd ck Γ C d (EB X N sc D s H ex) :=
 ⟨g.P,g.w,g.K,g.u,g.calm,g.room,g.blt,g.fns,g.Hv⟩
theorem cD(h:iz sc x=R4):FE sc x:=by
 unfold iz at h;simp only[Vw,Û]at h;rcases h with(h|h)|h
 ·exact .inl h
 ·exact .inr (.inl h)
 ·exact .inr (.inr h)
theorem aY(h:bZ x=R4):(x==("__debug__":Str))=R5/\(x==("__classdict__":Str))=R5:=by
 unfold bZ at h;simpa using h
theorem bH(h:noStar e=R4):SJ (e::es) env=(R5,T2 e env)::SJ es env:=by
 cases e<;>first|rfl|cases h
theorem ka(h:dq e=R4):mG e:=by
 intro o i;cases e<;>first|rfl|cases h
theorem qH(h:qE e=R4):∀x,Uu e env x=pure x:=by
 intro x;cases e<;>first|rfl|cases h
theorem jm(h:nj o=R4):W2 o name env wh=wh:=by
 cases o with
 |Call f as ks p =>
  cases f with
  |Name x q=>cases as with
   |nil=>cases ks with
    |nil=>cases h
    |cons _ _=>rfl
   |cons _ _=>rfl
  |_=>rfl
 |_=>rfl
theorem bI(h:∀e∈es,noStar e=R4):(Uk pos (SJ es env)).any (·.1)=R5/\(Uk pos (SJ es env)).all (λx=>!x.1)=R4:=by
 induction es with
 |nil=>exact⟨rfl,rfl⟩
 |cons e es ih =>
  rw[bH (h e (by simp))];have:=ih λe' he=>h e' (by simp[he]);constructor
  ·show(R5||(Uk pos (SJ es env)).any (·.1))=R5;rw[this.1];rfl
  ·show(!R5&&(Uk pos (SJ es env)).all (λx=>!x.1))=R4;rw[this.2];rfl
theorem cX(h:aI k es N sc DL=R4):∀e∈DL,noStar e=R4:=by
 induction es generalizing DL with
 |nil =>
  cases DL with
  |nil=>intro e he;cases he
  |cons _ _=>simp[aI]at h
 |cons x es ih =>
  cases DL with
  |nil=>intro e he;cases he
  |cons e' DL =>
   simp only[aI,R7]at h;intro e he;rcases Sn.mp he with rfl|he
   ·exact h.1.1
   ·exact ih h.2 e he
theorem lV(G6:fa=R4->∀x,X.fn x=R4)(h:rY X.N X.env.scope fa i e=R4):qz X e i:=by
 cases e with
 |Name x p =>
  simp only[rY,R7,Û,nq,Vw,CI]at h;refine⟨x,p,rfl,h.1.1,?_,?_⟩
  ·rcases h.1.2 with z|z
   ·exact .inl z
   ·exact .inr z
  ·rcases h.2 with z|z
   ·exact .inl (G6 z x)
   ·exact .inr z
 |_=>cases h
theorem kf(G6:fa=R4->∀x,X.fn x=R4):∀{is:List Nat}{es:List Td},nu X.N X.env.scope fa is es=R4->d7 X es is
 |[],[],_=>.nil
 |[],_::_,h=>by cases h
 |_::_,[],h=>by cases h
 |i::is,e::es,h=>by
  simp only[nu,R7]at h;exact .cons (lV G6 h.1) (kf G6 h.2)
theorem r6(hc:X.calm=R4)(hK:C.K=X.K)(hN:X.N.Nodup)(G6:fa=R4->∀x,X.fn x=R4)(h:Jp t X.N X.env.scope fa is tg=R4):PG X tg (tG C t is):=by
 cases tg with
 |Name x p =>
  simp only[Jp,R7,Tr]at h;obtain⟨rfl,h⟩:=h;cases is with
  |nil=>cases h
  |cons i is=>cases is with
   |nil=>exact A1 hN (lV G6 h)
   |cons _ _=>cases h
 |Tuple es k p =>
  simp only[Jp,R7,TL,Û]at h;obtain⟨⟨rfl,h1⟩,h2⟩:=h;exact Co hc hK hN (kf G6 h1) h2
 |_=>cases h
theorem lW(own N:List Str):dC ((own++hide own N).drop own.length) N:=by
 rw[Xa rfl];unfold hide;split
 ·exact .refl N
 ·exact(dC.refl N).set _ (.inl rfl)
 ·exact((dC.refl N).set _ (.inl rfl)).set _ (.inr rfl)
def Bf.RM:Bf->Bool
 |.len=>R4|.sorted=>R4|.repr=>R4|.max=>R4|.min=>R4|.all=>R4|.any=>R4|_=>R5
def Bf.id:Bf->String
 |.len=>"len"|.sorted=>"sorted"|.repr=>"repr"|.max=>"max"|.min=>"min"|.all=>"all"|.any=>"any"
 |.list=>"list"|.tuple=>"tuple"|.str=>"str"|.int=>"int"
 |.dict=>"dict"
theorem yB:∀f:Bf,simple f=R4->Uv f.name=RY f.val/\f.name∈b_/\f.name≠"__name__"/\(f.name==("__debug__":Str))=R5:=by
 intro f h;cases f<;>first|exact⟨by decide +kernel,by decide +kernel,by decide +kernel,by decide +kernel⟩|(cases h;done)
theorem Bb:∀f:Bf,simple f=R4->(f.val=.builtin f.id\/f.val=.type f.id):=by
 intro f h;cases f<;>first|exact .inl rfl|exact .inr rfl|(cases h;done)
theorem Bc:∀f:B2,f.m_∈b_/\f.gX∈b_:=by
 intro f;cases f<;>exact⟨by decide +kernel,by decide +kernel⟩
theorem yC:∀f:Mf,Slot "str" f.name f.id/\Å (.builtin f.id)=pure (.type "method_descriptor"):=by
 intro f;cases f with
 |split=>exact⟨PySem.F.slot_str_split,PySem.F.type_str_split⟩
 |join=>exact⟨PySem.F.slot_str_join,PySem.F.type_str_join⟩
 |partition=>exact⟨PySem.F.slot_str_partition,PySem.F.type_str_partition⟩
 |endswith=>exact⟨PySem.F.slot_str_endswith,PySem.F.type_str_endswith⟩
section
theorem gb(h:FP X.env.scope x=R4):Gl X x:=by
 unfold FP at h;show X.env.kindOf x=RY .globalImplicit;exact of_decide_eq_true h
theorem yD:("enumerate":Str)∈b_:=by decide +kernel
theorem r9:("range":Str)∈b_:=by decide +kernel
theorem zl(g:Gd ck Γ C d X)(h:fk X.env.scope tg ik iter=RY as)(hL:PA X as (EZ C (bL Γ src)))(h1:∀a,as=[a]->∃e,src=[e]/\PE X a (DP C (ev Γ e)))(DS:∀e∈as,noStar e=R4):PI X tg iter (GK C ik (bL Γ src)):=by
 unfold fk at h;split at h
 ·cases h;obtain⟨e,rfl,he⟩:=h1 _ rfl;exact AZ g.K he
 ·rw[S8]at h;obtain⟨⟨x,bs⟩,hc,h⟩:=h;split at h
  ·rename_i hh;cases h;obtain⟨e1,hg,hl⟩:=hh
   dsimp only at e1 hg hl
   subst e1;obtain⟨p,q,rfl⟩:=fj hc;obtain⟨b,rfl⟩:=XU.mp hl;exact yp (gb hg) (g.blt _ r9) (bH (DS _ (by simp))) hL
  ·cases h
 ·rw[S8]at h;obtain⟨⟨x,bs⟩,hc,h⟩:=h;split at h
  ·rename_i hh;cases h;obtain⟨e1,hg,hl⟩:=hh
   dsimp only at e1 hg hl
   subst e1;obtain⟨p,q,rfl⟩:=fj hc;obtain⟨b,b',rfl⟩:∃b b',bs=[b,b']:=by match bs,hl with|[b,b'],_=>exact⟨b,b',rfl⟩
   have s1:=bH (env:=X.env) (es:=[]) (DS _ (show _∈[_,_] from SS _ SR));exact yq (gb hg) (g.blt _ r9) (by rw[bH (DS _ SR),s1];rfl) s1 hL
  ·cases h
 ·rw[S8]at h;obtain⟨⟨x,bs⟩,hc,h⟩:=h;split at h
  ·rename_i hh;cases h;obtain⟨e1,hg,hl,ht⟩:=hh
   dsimp only at e1 hg hl
   subst e1;obtain⟨p,q,rfl⟩:=fj hc;obtain⟨b,rfl⟩:=XU.mp hl;cases tg with
   |Tuple es kx ps=>exact A0 g.K (gb hg) (g.blt _ yD) (bH (DS _ (by simp))) hL
   |_=>cases ht
  ·cases h
 ·cases h
theorem PT.eqv(h:PT X e (EN C m))(i:∀st Q,W m' st Q->W m st Q):PT X e (EN C m'):=PT.weak h λσ H Q ⟨c0,e1,e2,ok,w⟩=>⟨c0,e1,e2,ok,i _ _ w⟩
theorem CJ(g:Gd ck Γ C d X)(hL:PA X DL (EZ C (bL Γ es)))
  (h:(Sa (x=f.name)&&simple f&&FP X.env.scope x&&!DL.isEmpty&&aI ck es X.N X.env.scope DL)=R4):PE X (.Call (.Name x p) DL [] pos) (DP C (ev Γ (.bi f es))):=by
 simp only[R7,Û,Tr]at h;obtain⟨⟨⟨⟨rfl,h1⟩,h2⟩,h3⟩,h4⟩:=h;obtain⟨b1,b2,b3,b4⟩:=yB f h1;have hS:=cX h4;cases DL with
 |nil=>cases h3
 |cons e0 Gb =>
  have st:=bH (env:=X.env) (es:=Gb) (hS e0 (by simp));have sn:=(bI (pos:=pos) (env:=X.env) (es:=Gb) λe he=>hS e (by simp[he])).1;rcases Bb f h1 with hv|hv
  ·exact yj g.calm g.K g.room.gd g.u hv (gb h2) (g.blt _ b2) (by rw[b1,hv]) b3 b4 hL st sn
  ·exact yk g.calm g.K g.room.gd g.u hv (gb h2) (g.blt _ b2) (by rw[b1,hv]) b3 b4 hL st sn
theorem zm(g:Gd ck Γ C d X)(hL:PA X DL (EZ C (bL Γ es)))
  (h:(Sa (x=f.m_)&&Sa (y=f.gX)&&FP X.env.scope x&&FP X.env.scope y&&!DL.isEmpty&&aI ck es X.N X.env.scope DL)=R4):PE X (.Call (.Name x p) [.Call (.Name y p2) DL [] pos2] [] pos) (DP C (ev Γ (.GJ f es))):=by
 simp only[R7,Û,Tr]at h;obtain⟨⟨⟨⟨⟨rfl,rfl⟩,h1⟩,h2⟩,h3⟩,h4⟩:=h;obtain⟨b1,b2⟩:=Bc f;have hS:=cX h4;cases DL with
 |nil=>cases h3
 |cons e0 Gb =>
  have st:=bH (env:=X.env) (es:=Gb) (hS e0 (by simp));have sn:=(bI (pos:=pos2) (env:=X.env) (es:=Gb) λe he=>hS e (by simp[he])).1;exact yo g.calm g.K (gb h1) (g.blt _ b1) (gb h2) (g.blt _ b2) hL st sn
theorem zo(g:Gd ck Γ C d X)(ha:PE X o (DP C (ev Γ a)))(hL:PA X DL (EZ C (bL Γ es)))
  (h:(Sa (name=m.name)&&nj o&&(apos.endLine==DK.line)&&!DL.isEmpty&&Sa (DL.length<20)&&aC ck a X.N X.env.scope o&&aI ck es X.N X.env.scope DL)=R4):PE X (.Call (.Attribute o name apos) DL [] DK) (DP C (ev Γ (.F_ m a es))):=by
 simp only[R7,Û,Tr]at h;obtain⟨⟨⟨⟨⟨⟨rfl,h1⟩,h2⟩,h3⟩,h4⟩,h5⟩,h6⟩:=h;have hS:=cX h6;obtain⟨s1,s2⟩:=yC m;cases DL with
 |nil=>cases h3
 |cons e0 Gb =>
  have st:=bH (env:=X.env) (es:=Gb) (hS e0 (by simp));have sn:=(bI (pos:=DK) (env:=X.env) (es:=Gb) λe he=>hS e (by simp[he])).1;have sa:=(bI (pos:=DK) (env:=X.env) (es:=e0::Gb) hS).2;refine ym g.K s1 s2 ha hL (jm h1) ?_ h2 st sn;rw[sa];have:(e0::Gb).length+([]:List Va).length+(if ([]:List Va).isEmpty=R4 then 0 else 1)<30:=by simp at h4 ⊢;omega
  simp only[Þ this];rfl
theorem vQ(g:Gd ck Γ C d X)(hL:PA X DL (EZ C (bL Γ es)))
  (h:(Sa (x=f)&&Sa (f∈ck.fns)&&FP X.env.scope x&&bZ x&&!DL.isEmpty&&aI ck es X.N X.env.scope DL)=R4):PE X (.Call (.Name x p) DL [] pos) (DP C (ev Γ (.call f es))):=by
 simp only[R7,Û,Tr]at h;obtain⟨⟨⟨⟨⟨rfl,h1⟩,h2⟩,h3⟩,h4⟩,h5⟩:=h;have hS:=cX h5;obtain⟨np,fa,fd,ps,q1,q2,q3,q4,q5⟩:=(g.fns _ h1).ex;cases DL with
 |nil=>cases h4
 |cons e0 Gb =>
  have st:=bH (env:=X.env) (es:=Gb) (hS e0 (by simp));have sn:=(bI (pos:=pos) (env:=X.env) (es:=Gb) λe he=>hS e (by simp[he])).1;exact vD g.P g.w g.K rfl q5 q1 g.room (gb h2) q2 q3 q4 (aY h3).1 hL st sn
theorem cI(h:(b&&aI k es N sc DL)=R4):aI k es N sc DL=R4:=(Uq.mp h).2
mutual
theorem bt:∀(e:E) (X:Cx) (e':Td),Gd ck Γ C d X->aC ck e X.N X.env.scope e'=R4->PE X e' (DP C (ev Γ e))
 |.var i,X,e',g,h=>by
  simp only[aC]at h;split at h
  ·simp only[R7,Û]at h;obtain⟨h3,h4⟩:=aY h.2;exact m9 h.1.1 (cD h.1.2) h3 h4
  ·cases h
 |.cst u,X,e',g,h=>by
  simp only[aC]at h;split at h
  ·have:=bM h;subst this;exact fF uw λ_ _=>rfl
  ·have:=bM h;subst this;exact fF p5 λ_ _=>rfl
  ·have:=bM h;subst this;exact fF zd λ_ _=>rfl
  ·have:=bM h;subst this;exact fF uA λ_ _=>rfl
  ·cases h
 |.Hm x u,X,e',g,h=>by
  simp only[aC]at h;split at h
  ·simp only[R7,Û,UZ]at h;obtain⟨⟨⟨rfl,h1⟩,h2⟩,p,hp,e1,e2⟩:=h;have:=bM e2;subst this e1;obtain⟨val,v,q1,q2,q3⟩:=g.Hv p hp;exact fF (xf (gb h1) q1 q2 (aY h2).1) q3
  ·cases h
 |.bin op a b,X,e',g,h=>by
  simp only[aC]at h;split at h
  ·simp only[R7,Û]at h;obtain⟨⟨rfl,h1⟩,h2⟩:=h;exact x8 g.K (bt a X _ g h1) (bt b X _ g h2)
  ·cases h
 |.cmp op a b,X,e',g,h=>by
  simp only[aC]at h;obtain⟨a',GP,b',p0,rfl,z1⟩:=d9 h;have h:=z1;simp only[R7,Û,Tr]at h;obtain⟨⟨⟨rfl,h0⟩,h1⟩,h2⟩:=h;exact x9 g.P g.w g.K g.u (bt a X _ g h1) (bt b X _ g h2) h0
 |.GI o1 o2 a b c,X,e',g,h=>absurd h (by simp[aC])
 |.and es,X,e',g,h=>by
  simp only[aC]at h;split at h
  ·exact vR es X _ g h
  ·cases h
 |.or es,X,e',g,h=>by
  simp only[aC]at h;split at h
  ·exact zp es X _ g h
  ·cases h
 |.not a,X,e',g,h=>by
  simp only[aC]at h;split at h
  ·exact ya (bt a X _ g h)
  ·cases h
 |.neg a,X,e',g,h=>absurd h (by simp[aC])
 |.bad,X,e',g,h=>λpins s σ H Q I ⟨_,_,_,_,w⟩=>(az.mp w).elim
 |.inD neg a i,X,e',g,h=>by
  simp only[aC]at h;obtain⟨a',GP,b',p0,rfl,z1⟩:=d9 h;obtain⟨x,p1,rfl,z2⟩:=aA z1;have h:=z2;simp only[R7,Û,Tr]at h;obtain⟨⟨⟨⟨⟨rfl,h0⟩,h1⟩,h2⟩,h3⟩,h4⟩:=h;obtain⟨q1,q2⟩:=aY h3;exact yw g.u h1 (cD h2) q1 q2 (bt a X _ g h4) h0
 |.Jj i,X,e',g,h=>by
  simp only[aC]at h;split at h
  ·simp only[R7,Û]at h;obtain⟨h3,h4⟩:=aY h.2;exact yu h.1.1 (cD h.1.2) h3 h4
  ·cases h
 |.FL i a b,X,e',g,h=>by
  simp only[aC]at h;obtain⟨o,m,apos,as,DK,rfl,z1⟩:=bS h;obtain⟨x,px,rfl,z2⟩:=aA z1;split at z2
  ·simp only[R7,Û]at z2;obtain⟨⟨⟨⟨⟨⟨⟨⟨rfl,h1⟩,h2⟩,h3⟩,h4⟩,h5⟩,h6⟩,h7⟩,h8⟩:=z2;obtain⟨q1,q2⟩:=aY h3;rename_i a' b';have sa:=bI (pos:=DK) (env:=X.env) (es:=[a',b']) λe he=>by
    rcases Sn.mp he with rfl|he
    ·exact h5
    ·simp at he;subst he;exact h6
   exact vO g.u h1 (cD h2) q1 q2 (bt a X _ g h7) (bt b X _ g h8) ⟨rfl,by rw[sa.2];rfl,h4,by rw[bH h5,bH h6];rfl⟩
  ·cases z2
 |.Jk i,X,e',g,h=>by
  simp only[aC]at h;obtain⟨f',as,_,rfl,z1⟩:=bh h;obtain⟨f,_,rfl,z2⟩:=aA z1;obtain⟨c,rfl,z3⟩:=bG z2;obtain⟨o,m,apos,bs,DK,rfl,z4⟩:=bS z3;obtain⟨x,px,rfl,z5⟩:=aA z4;simp only[R7,Û,V0]at z5;obtain⟨⟨⟨⟨⟨⟨⟨rfl,rfl⟩,h1⟩,rfl⟩,h3⟩,h4⟩,h5⟩,h6⟩:=z5;obtain⟨q1,q2⟩:=aY h5;exact yA g.calm g.K (gb h1) (g.blt _ (by decide +kernel)) h3 (cD h4) q1 q2 h6
 |.La ln a b,X,e',g,h=>λpins s σ H Q I ⟨_,_,_,_,w⟩=>(az.mp w).elim
 |.fst es,X,e',g,h=>by
  simp only[aC]at h;split at h
  ·exact yl (Bd es X _ g h S5 (by decide))
  ·cases h
 |.K' a T,X,e',g,h=>λpins s σ H Q I ⟨_,_,_,_,w⟩=>(az.mp w).elim
 |.ite c a b,X,e',g,h=>absurd h (by simp[aC])
 |.tup es,X,e',g,h=>by
  simp only[aC]at h;split at h
  ·exact yf (iA es X _ g h)
  ·cases h
 |.lst es,X,e',g,h=>by
  simp only[aC]at h;split at h
  ·exact yg (iA es X _ g h)
  ·cases h
 |.EU r,X,e',g,h=>by
  simp only[aC]at h;split at h
  ·exact vC g.P g.w r
  ·cases h
 |.idx a b,X,e',g,h=>by
  simp only[aC]at h;split at h
  ·simp only[R7]at h;exact rU g.K g.u (ka h.1.1) (bt a X _ g h.1.2) (bt b X _ g h.2)
  ·cases h
 |.FD a lo hi,X,e',g,h=>by
  simp only[aC]at h;split at h
  ·simp only[R7]at h;exact yi g.K (bt a X _ g h.1.1) (CK lo X _ g h.1.2) (CK hi X _ g h.2)
  ·cases h
 |.bi f es,X,e',g,h=>by
  simp only[aC]at h;obtain⟨f',as,p0,rfl,z1⟩:=bh h;obtain⟨x,p1,rfl,z2⟩:=aA z1;have h:=z2;exact CJ g (iA es X _ g (cI h)) h
 |.GJ f es,X,e',g,h=>by
  simp only[aC]at h;obtain⟨f',as,p0,rfl,z1⟩:=bh h;obtain⟨x,p1,rfl,z2⟩:=aA z1;obtain⟨c,rfl,z3⟩:=bG z2;obtain⟨g',as',p2,rfl,z4⟩:=bh z3;obtain⟨y,p3,rfl,z5⟩:=aA z4;have h:=z5;exact zm g (iA es X _ g (cI h)) h
 |.F_ m a es,X,e',g,h=>by
  simp only[aC]at h;obtain⟨o,name,apos,as,DK,rfl,z1⟩:=bS h;have h:=z1;have h':=h;simp only[R7]at h';exact zo g (bt a X _ g h'.1.2) (iA es X _ g (cI h)) h
 |.call f es,X,e',g,h=>by
  simp only[aC]at h;obtain⟨f',as,p0,rfl,z1⟩:=bh h;obtain⟨x,p1,rfl,z2⟩:=aA z1;have h:=z2;exact vQ g (iA es X _ g (cI h)) h
 |.comp n t ik src cond e,X,e',g,h=>by
  simp only[aC]at h;split at h
  ·rename_i elt tg iter ifs scope _;simp only[R7,Û]at h;obtain⟨⟨⟨⟨⟨⟨⟨h1,h2⟩,h3⟩,h4⟩,h5⟩,h6⟩,h7⟩,h8⟩:=h;subst h1;have S:=u5 (X:=X) rfl (lW _ _) h2;split at h5
   ·rename_i as has;have DS:=cX h5;have hI:PI X tg iter (GK C ik (bL Γ src)):=zl g has (iA src X _ g h5) (λa e=>by
     subst e;cases src with
     |nil=>simp[aI]at h5
     |cons e1 Ep =>
      cases Ep with
      |nil =>
       simp only[aI,R7]at h5;exact⟨e1,rfl,bt e1 X _ g h5.1.2⟩
      |cons _ _=>simp[aI]at h5) DS
    exact vK S g.calm hI (λD s H ex=>r6 (fa:=R5) g.calm g.K S.nd (λz=>nomatch z) h3)
     (λD s H ex=>by
      cases ifs with
      |nil =>
       cases cond with
       |nil=>exact λpins s σ H Q I ⟨c0,e1,e2,ok,w⟩=>rB pins s σ H Q I (by subst e1 e2;rw[show aQ Γ []=pure R4 from rfl,ah]at w;exact w c0 rfl rfl ok (Nx.refl c0))
       |cons _ _=>simp[aI]at h7
      |cons c1 cs =>
       cases cs with
       |nil =>
        cases cond with
        |nil=>simp[aI]at h7
        |cons e1 Ep =>
         cases Ep with
         |nil =>
          simp only[aI,R7]at h7;exact rC (nv e1 (EB X _ scope D s H ex) c1 (g.cx _ _ _ _ _ _) h7.1.2)
         |cons _ _=>simp[aI]at h7
       |cons _ _=>simp at h6)
     (λD s H ex=>bt e (EB X _ scope D s H ex) elt (g.cx _ _ _ _ _ _) h8) (qH h4)
   ·cases h5
  ·cases h
theorem Bd:∀(es:List E) (X:Cx) (DL:List Td),Gd ck Γ C d X->tW ck es X.N X.env.scope DL=R4->∀out:Str,out.length<=R6->PJ X out DL (DP C (Hq Γ es out >>= λy=>pure (.loc,.str y)))
 |[],X,DL,g,h,out,hz=>by
  cases DL with
  |nil=>exact AR hz
  |cons _ _=>simp[tW]at h
 |e::es,X,DL,g,h,out,hz=>by
  simp only[tW]at h;split at h
  ·simp only[R7]at h;have z:=AU (p:=by assumption) (out:=out) (bt e X _ g h.1) λy hy=>Bd es X _ g h.2 y hy;rintro pins s σ H Q I ⟨c0,e1,e2,ok,w⟩;refine z pins s σ H Q I ⟨c0,e1,e2,ok,?_⟩;simp only[Hq,af]at w ⊢;exact w
  ·simp only[R7]at h;cases e with
   |cst u =>
    have hu:=bM h.1;subst hu;rintro pins s σ H Q I ⟨c0,e1,e2,ok,w⟩;simp only[Hq,af]at w;rw[show ev Γ (.cst (.str _))=pure (.loc,.str _) from rfl,ah]at w;obtain⟨y',hy,w⟩:=cq.mp w;simp only[lj]at hy;split at hy
    ·rename_i Jf;cases hy;exact AS (Bd es X _ g h.2 _ Jf.2) Jf.2 pins s σ H Q I ⟨c0,e1,e2,ok,by rw[af];exact w⟩
    ·cases hy
   |_=>simp at h
  ·cases h
theorem iA:∀(es:List E) (X:Cx) (DL:List Td),Gd ck Γ C d X->aI ck es X.N X.env.scope DL=R4->PA X DL (EZ C (bL Γ es))
 |[],X,DL,g,h=>by
  cases DL with
  |nil=>exact ye
  |cons _ _=>simp[aI]at h
 |e::es,X,DL,g,h=>by
  cases DL with
  |nil=>simp[aI]at h
  |cons e' DL =>
   simp only[aI,R7]at h;exact vA (bt e X e' g h.1.2) (iA es X DL g h.2) (bH h.1.1)
theorem CK:∀(es:List E) (X:Cx) (o:Option Td),Gd ck Γ C d X->qG ck es X.N X.env.scope o=R4->PO X o (tO C (Iu Γ es))
 |[],X,o,g,h=>by
  cases o with
  |none=>exact ij
  |some _=>simp[qG]at h
 |[e],X,o,g,h=>by
  cases o with
  |none=>simp[qG]at h
  |some e'=>simp only[qG]at h;exact tR (bt e X e' g h)
 |_::_::_,X,o,g,h=>by simp[qG]at h
theorem vR:∀(es:List E) (X:Cx) (DL:List Td),Gd ck Γ C d X->aI ck es X.N X.env.scope DL=R4->∀{pos},PE X (.BoolOp .And DL pos) (DP C (gU Γ es))
 |[],X,DL,g,h,pos=>λpins s σ H Q I ⟨_,_,_,_,w⟩=>(az.mp w).elim
 |[e],X,DL,g,h,pos=>by
  cases DL with
  |nil=>simp[aI]at h
  |cons e' DL =>
   cases DL with
   |nil=>simp only[aI,R7]at h;exact uD (bt e X e' g h.1.2)
   |cons _ _=>simp[aI]at h
 |e::e1::es,X,DL,g,h,pos=>by
  cases DL with
  |nil=>simp[aI]at h
  |cons e' DL =>
   have h':noStar e'=R4/\aC ck e X.N X.env.scope e'=R4/\aI ck (e1::es) X.N X.env.scope DL=R4:=by
    rw[aI]at h;simp only[R7]at h;exact⟨h.1.1,h.1.2,h.2⟩
   cases DL with
   |nil=>have:=h'.2.2;simp[aI]at this
   |cons e2 Hf=>exact snd_and (bt e X e' g h'.2.1) (vR (e1::es) X _ g h'.2.2)
theorem zp:∀(es:List E) (X:Cx) (DL:List Td),Gd ck Γ C d X->aI ck es X.N X.env.scope DL=R4->∀{pos},PE X (.BoolOp .Or DL pos) (DP C (AH Γ es))
 |[],X,DL,g,h,pos=>λpins s σ H Q I ⟨_,_,_,_,w⟩=>(az.mp w).elim
 |[e],X,DL,g,h,pos=>by
  cases DL with
  |nil=>simp[aI]at h
  |cons e' DL =>
   cases DL with
   |nil=>simp only[aI,R7]at h;exact uD (bt e X e' g h.1.2)
   |cons _ _=>simp[aI]at h
 |e::e1::es,X,DL,g,h,pos=>by
  cases DL with
  |nil=>simp[aI]at h
  |cons e' DL =>
   have h':noStar e'=R4/\aC ck e X.N X.env.scope e'=R4/\aI ck (e1::es) X.N X.env.scope DL=R4:=by
    rw[aI]at h;simp only[R7]at h;exact⟨h.1.1,h.1.2,h.2⟩
   cases DL with
   |nil=>have:=h'.2.2;simp[aI]at this
   |cons e2 Hf=>exact AL (bt e X e' g h'.2.1) (zp (e1::es) X _ g h'.2.2)
theorem nv:∀(e:E) (X:Cx) (e':Td),Gd ck Γ C d X->aC ck e X.N X.env.scope e'=R4->PT X e' (EN C (DX Γ e))
 |.and es,X,e',g,h=>by
  simp only[aC]at h;split at h
  ·exact(r_ es X _ g h).pt
  ·cases h
 |.or es,X,e',g,h=>by
  simp only[aC]at h;split at h
  ·exact(vT es X _ g h).pt
  ·cases h
 |.not a,X,e',g,h=>by
  simp only[aC]at h;split at h
  ·exact yc (nv a X _ g h)
  ·cases h
 |.cmp op a b,X,e',g,h=>by
  simp only[aC]at h;obtain⟨a',GP,b',p0,rfl,z1⟩:=d9 h;have h:=z1;simp only[R7,Û,Tr]at h;obtain⟨⟨⟨rfl,h0⟩,h1⟩,h2⟩:=h;exact x_ g.P g.w g.K g.u (bt a X _ g h1) (bt b X _ g h2) h0
 |.GI o1 o2 a b c,X,e',g,h=>absurd h (by simp[aC])
 |.var i,X,e',g,h=>by
  have hE:PE X e' (DP C (ev Γ (.var i))):=by
   have h':=h;simp only[aC]at h';split at h'
   ·simp only[R7,Û]at h';obtain⟨h3,h4⟩:=aY h'.2;exact m9 h'.1.1 (cD h'.1.2) h3 h4
   ·cases h'
  simp only[aC]at h;split at h
  ·exact d6 hE g.K λ_=>rfl
  ·cases h
 |.idx a b,X,e',g,h=>by
  simp only[aC]at h;split at h
  ·simp only[R7]at h;have hE:=rU (pos:=by assumption) g.K g.u (ka h.1.1) (bt a X _ g h.1.2) (bt b X _ g h.2);refine PT.eqv (d6 hE g.K λ_=>rfl) λst Q w=>?_;simp only[DX,af]at w ⊢;exact w
  ·cases h
 |.bi f es,X,e',g,h=>by
  simp only[aC]at h;obtain⟨f',as,p0,rfl,z1⟩:=bh h;obtain⟨x,p1,rfl,z2⟩:=aA z1;have h:=z2;refine PT.eqv (d6 (CJ g (iA es X _ g (cI h)) h) g.K λ_=>rfl) λst Q w=>?_;simp only[DX,ev,af]at w ⊢;exact w
 |.GJ f es,X,e',g,h=>by
  simp only[aC]at h;obtain⟨f',as,p0,rfl,z1⟩:=bh h;obtain⟨x,p1,rfl,z2⟩:=aA z1;obtain⟨c,rfl,z3⟩:=bG z2;obtain⟨g',as',p2,rfl,z4⟩:=bh z3;obtain⟨y,p3,rfl,z5⟩:=aA z4;have h:=z5;refine PT.eqv (d6 (zm g (iA es X _ g (cI h)) h) g.K λ_=>rfl) λst Q w=>?_;simp only[DX,ev,af]at w ⊢;exact w
 |.F_ m a es,X,e',g,h=>by
  simp only[aC]at h;obtain⟨o,name,apos,as,DK,rfl,z1⟩:=bS h;have h:=z1;have h':=h;simp only[R7]at h';refine PT.eqv (d6 (zo g (bt a X _ g h'.1.2) (iA es X _ g (cI h)) h) g.K λ_=>rfl) λst Q w=>?_;simp only[DX,ev,af]at w ⊢;exact w
 |.call f es,X,e',g,h=>by
  simp only[aC]at h;obtain⟨f',as,p0,rfl,z1⟩:=bh h;obtain⟨x,p1,rfl,z2⟩:=aA z1;have h:=z2;refine PT.eqv (d6 (vQ g (iA es X _ g (cI h)) h) g.K λ_=>rfl) λst Q w=>?_;simp only[DX,ev,af]at w ⊢;exact w
 |.cst u,X,e',g,h=>by
  have go:∀{v:V},PE X e' (tC v)->(∀S H,Rep C S H u v)->(∀whole,isTrue e' X.env whole=(do let v <-whole;Xd e'.pos;Up [v] (Zm v)))->PT X e' (EN C (DX Γ (.cst u))):=λ{v} h1 h2 h3=>by
   refine PT.eqv (d6 (fF h1 h2) g.K h3) λst Q w=>?_;rw[af,ah];exact w
  simp only[aC]at h;split at h
  ·have:=bM h;subst this;exact go uw (λ_ _=>rfl) λ_=>rfl
  ·have:=bM h;subst this;exact go p5 (λ_ _=>rfl) λ_=>rfl
  ·have:=bM h;subst this;exact go zd (λ_ _=>rfl) λ_=>rfl
  ·have:=bM h;subst this;exact go uA (λ_ _=>rfl) λ_=>rfl
  ·cases h
 |.fst es,X,e',g,h=>λpins s σ H Q I ⟨_,_,_,_,w⟩=>(az.mp w).elim
 |.Hm x u,X,e',g,h=>λpins s σ H Q I ⟨_,_,_,_,w⟩=>(az.mp w).elim
 |.neg a,X,e',g,h=>λpins s σ H Q I ⟨_,_,_,_,w⟩=>(az.mp w).elim
 |.K' a T,X,e',g,h=>λpins s σ H Q I ⟨_,_,_,_,w⟩=>(az.mp w).elim
 |.bad,X,e',g,h=>λpins s σ H Q I ⟨_,_,_,_,w⟩=>(az.mp w).elim
 |.inD neg a i,X,e',g,h=>by
  simp only[aC]at h;obtain⟨a',GP,b',p0,rfl,z1⟩:=d9 h;obtain⟨x,p1,rfl,z2⟩:=aA z1;have h:=z2;simp only[R7,Û,Tr]at h;obtain⟨⟨⟨⟨⟨rfl,h0⟩,h1⟩,h2⟩,h3⟩,h4⟩:=h;obtain⟨q1,q2⟩:=aY h3;exact yx g.u h1 (cD h2) q1 q2 (bt a X _ g h4) h0
 |.Jj i,X,e',g,h=>λpins s σ H Q I ⟨_,_,_,_,w⟩=>(az.mp w).elim
 |.La ln a b,X,e',g,h=>λpins s σ H Q I ⟨_,_,_,_,w⟩=>(az.mp w).elim
 |.Jk i,X,e',g,h=>λpins s σ H Q I ⟨_,_,_,_,w⟩=>(az.mp w).elim
 |.FL i a b,X,e',g,h=>λpins s σ H Q I ⟨_,_,_,_,w⟩=>(az.mp w).elim
 |.bin op a b,X,e',g,h=>λpins s σ H Q I ⟨_,_,_,_,w⟩=>(az.mp w).elim
 |.ite c a b,X,e',g,h=>λpins s σ H Q I ⟨_,_,_,_,w⟩=>(az.mp w).elim
 |.tup es,X,e',g,h=>λpins s σ H Q I ⟨_,_,_,_,w⟩=>(az.mp w).elim
 |.lst es,X,e',g,h=>λpins s σ H Q I ⟨_,_,_,_,w⟩=>(az.mp w).elim
 |.EU r,X,e',g,h=>λpins s σ H Q I ⟨_,_,_,_,w⟩=>(az.mp w).elim
 |.FD a lo hi,X,e',g,h=>λpins s σ H Q I ⟨_,_,_,_,w⟩=>(az.mp w).elim
 |.comp n t ik src cond e,X,e',g,h=>λpins s σ H Q I ⟨_,_,_,_,w⟩=>(az.mp w).elim
theorem r_:∀(es:List E) (X:Cx) (DL:List Td),Gd ck Γ C d X->aI ck es X.N X.env.scope DL=R4->∀{pos},PW X (.BoolOp .And DL pos) (EN C (aQ Γ es))
 |[],X,DL,g,h,pos=>by
  cases DL with
  |nil =>
   rintro wh pins s σ H Q I ⟨c0,rfl,rfl,ok,w⟩;rw[show aQ Γ []=pure R4 from rfl,ah]at w;exact Ö ⟨c0.H,I,w c0 rfl rfl ok (Nx.refl c0)⟩
  |cons _ _=>simp[aI]at h
 |[e],X,DL,g,h,pos=>by
  cases DL with
  |nil=>simp[aI]at h
  |cons e' DL =>
   cases DL with
   |nil=>simp only[aI,R7]at h;exact xg (nv e X e' g h.1.2)
   |cons _ _=>simp[aI]at h
 |e::e1::es,X,DL,g,h,pos=>by
  cases DL with
  |nil=>simp[aI]at h
  |cons e' DL =>
   have h':noStar e'=R4/\aC ck e X.N X.env.scope e'=R4/\aI ck (e1::es) X.N X.env.scope DL=R4:=by
    rw[aI]at h;simp only[R7]at h;exact⟨h.1.1,h.1.2,h.2⟩
   cases DL with
   |nil=>have:=h'.2.2;simp[aI]at this
   |cons e2 Hf=>exact yd (nv e X e' g h'.2.1) (r_ (e1::es) X _ g h'.2.2)
theorem vT:∀(es:List E) (X:Cx) (DL:List Td),Gd ck Γ C d X->aI ck es X.N X.env.scope DL=R4->∀{pos},PW X (.BoolOp .Or DL pos) (EN C (ff Γ es))
 |[],X,DL,g,h,pos=>by
  cases DL with
  |nil =>
   rintro wh pins s σ H Q I ⟨c0,rfl,rfl,ok,w⟩;rw[show ff Γ []=pure R5 from rfl,ah]at w;exact isTrue_or_nil ⟨c0.H,I,w c0 rfl rfl ok (Nx.refl c0)⟩
  |cons _ _=>simp[aI]at h
 |[e],X,DL,g,h,pos=>by
  cases DL with
  |nil=>simp[aI]at h
  |cons e' DL =>
   cases DL with
   |nil=>simp only[aI,R7]at h;exact zI (nv e X e' g h.1.2)
   |cons _ _=>simp[aI]at h
 |e::e1::es,X,DL,g,h,pos=>by
  cases DL with
  |nil=>simp[aI]at h
  |cons e' DL =>
   have h':noStar e'=R4/\aC ck e X.N X.env.scope e'=R4/\aI ck (e1::es) X.N X.env.scope DL=R4:=by
    rw[aI]at h;simp only[R7]at h;exact⟨h.1.1,h.1.2,h.2⟩
   cases DL with
   |nil=>have:=h'.2.2;simp[aI]at this
   |cons e2 Hf=>exact AM (nv e X e' g h'.2.1) (vT (e1::es) X _ g h'.2.2)
end
end
def Kk(sc:UI)(x:Str)(line:Nat):Td->Bool
 |.ListComp elt gens s pos=>Sa (sc.names.lookup x=RY .local)&&(line==pos.line)&&!(s.names.any λ(n,k)=>n==x&&(k==.local||k==.cell))
 |_=>R5
def oS(s:Vt)(k:Td->Bool):Bool:=match s with|.Expr e _=>k e|_=>R5
theorem gy(h:oS s k=R4):∃e p,s=.Expr e p/\k e=R4:=by
 unfold oS at h;split at h
 ·exact⟨_,_,rfl,h⟩
 ·cases h
def sd(s:Vt)(k:Td->Td->Bool):Bool:=match s with|.Assign ts v _=>f_ ts λt=>k t v|_=>R5
theorem kg(h:sd s k=R4):∃t v p,s=.Assign [t] v p/\k t v=R4:=by
 unfold sd at h;split at h
 ·obtain⟨t,rfl,z1⟩:=bG h;exact⟨_,_,_,rfl,h⟩
 ·cases h
mutual
def dF(k:Ck):S->List Str->UI->Vt->Bool
 |.set i e,N,sc,s=>match s with
  |.Assign [.Name x p] v _=>Sa (N[i]?=RY x)&&nq sc x&&Sa (sc.kind=.function)&&aC k e N sc v&&(cS v||Kk sc x p.line v||(match v with|.ListComp _ _ _ _=>R4|_=>R5))&&(match e with|.comp _ _ _ _ _ _=>R4|_=>cS v)
  |_=>R5
 |.Hn is e,N,sc,s=>match s with
  |.Assign [.Tuple es kk p] v _=>Jp R4 N sc R4 is (.Tuple es kk p)&&cS v&&A9 v&&aC k e N sc v
  |_=>R5
 |.put i a b,N,sc,s=>sd s λt b'=>lU t λo a'=>b7 o λx=>Sa (N[i]?=RY x)&&iz sc x&&bZ x&&cS b'&&dq a'&&aC k a N sc a'&&aC k b N sc b'
 |.app i e,N,sc,s=>oS s λc=>gx c λo m apos as DK=>b7 o λx=>f_ as λa=>Sa (m="append")&&Sa (N[i]?=RY x)&&iz sc x&&bZ x&&(apos.endLine==DK.line)&&noStar a&&aC k e N sc a
 |.ext i e,N,sc,s=>oS s λc=>gx c λo m apos as DK=>b7 o λx=>f_ as λa=>Sa (m="extend")&&Sa (N[i]?=RY x)&&iz sc x&&bZ x&&(apos.endLine==DK.line)&&noStar a&&aC k e N sc a
 |.bad,_,_,_=>R4
 |.newD i,N,sc,s=>match s with
  |.Assign [.Name x p] (.Dict [] [] _) _=>Sa (N[i]?=RY x)&&nq sc x
  |_=>R5
 |.putD i a b,N,sc,s=>sd s λt b'=>lU t λo a'=>b7 o λx=>Sa (N[i]?=RY x)&&iz sc x&&bZ x&&cS b'&&dq a'&&aC k a N sc a'&&aC k b N sc b'
 |.Ft i a e,N,sc,s=>oS s λc=>gx c λo m apos as DK=>lU o λo' a'=>b7 o' λx=>f_ as λb=>Sa (m="append")&&Sa (N[i]?=RY x)&&iz sc x&&bZ x&&dq a'&&(apos.endLine==DK.line)&&noStar b&&aC k a N sc a'&&aC k e N sc b
 |.aug sub i a e,N,sc,s=>match s with
  |.AugAssign t op b _=>lU t λo a'=>b7 o λx=>Sa (op=if sub=R4 then .Sub else .Add)&&Sa (N[i]?=RY x)&&iz sc x&&bZ x&&dq a'&&aC k a N sc a'&&aC k e N sc b
  |_=>R5
 |.Lb _,_,_,_=>R5
 |.exp e,N,sc,s=>match s with
  |.Expr e' _=>cS e'&&aC k e N sc e'
  |_=>R5
 |.ret e,N,sc,s=>match s with
  |.Return (RY e') _=>aC k e N sc e'
  |_=>R5
 |.Ho,N,sc,s=>match s with
  |.Return R3 _=>R4
  |_=>R5
 |.ite c a b,N,sc,s=>match s with
  |.If c' a' b' _=>aC k c N sc c'&&dr k a N sc a'&&dr k b N sc b'
  |_=>R5
 |.D1 t is ik src body,N,sc,s=>match s with
  |.For tg iter F3 [] _=>Jp t N sc R4 is tg&&qE iter&&(match fk sc tg ik iter with
    |some as=>aI k src N sc as
    |none=>R5)&&dr k body N sc F3
  |_=>R5
 |.Iq c body,N,sc,s=>match s with
  |.While c' F3 [] _=>aC k c N sc c'&&dr k body N sc F3
  |_=>R5
 |.brk,_,_,s=>match s with
  |.Break _=>R4
  |_=>R5
 |.cnt,_,_,s=>match s with
  |.Continue _=>R4
  |_=>R5
 |.Lc,_,_,s=>match s with
  |.Pass _=>R4
  |_=>R5
def dr(k:Ck):List S->List Str->UI->List Vt->Bool
 |[],_,_,FJ=>FJ.isEmpty
 |s::ss,N,sc,FJ=>match FJ with
  |s'::FJ=>dF k s N sc s'&&dr k ss N sc FJ
  |[]=>R5
end
section
variable{ck:Ck}{Γ:Tab}{C:Ct}{d:Nat}{X:Cx}
theorem qI(h:nq sc x=R4):Loc sc x:=by
 unfold nq at h;simp only[Vw,Û]at h;exact h
theorem gZ(h:cS v=R4):Vx v t line env=pure R5:=by
 cases v<;>first|rfl|cases h
theorem ny(h:cS v=R4):VB [t] v line env=pure R5:=by
 rw[VB];exact gZ h
theorem yE(h:dq i=R4):∀ov iv new,Î i ov iv new=(do Up [new,ov,iv] (Wg ov iv new);Xg [new,ov,iv] [];pure .next):=by
 intro ov iv new;cases i<;>first|rfl|cases h
theorem se(h:dq i=R4):∀v,VU (.Subscript o i p) env v=(do
   let ov <-Up [v] (T2 o env)
   let iv <-Up [v,ov] (T2 i env)
   Xd p
   Up [v,ov,iv] (Wg ov iv v)
   Xg [v,ov,iv] []):=by
 intro v;cases i<;>first|rfl|cases h
structure Gs(ck:Ck)(Γ:Tab)(C:Ct)(d:Nat)(X:Cx):Prop where
 gd:Gd ck Γ C d X
 nd:X.N.Nodup
 fn:∀x,X.fn x=R4
 po:XA (Sw X.prog X.w) X.A X.env X.xe
 kd:X.env.scope.kind=.function
theorem sf(g:Gd ck Γ C d X)(h:(match fk X.env.scope tg ik iter with|some as=>aI ck src X.N X.env.scope as|none=>R5)=R4):PI X tg iter (GK C ik (bL Γ src)):=by
 split at h
 ·rename_i as has;exact zl g has (iA src X _ g h) (λa e=>by
   subst e;cases src with
   |nil=>simp[aI]at h
   |cons e1 Ep =>
    cases Ep with
    |nil =>
     simp only[aI,R7]at h;exact⟨e1,rfl,bt e1 X _ g h.1.2⟩
    |cons _ _=>simp[aI]at h) (cX h)
 ·cases h
theorem kh{pos p F5:Pos}(hk:X.env.scope.kind=.function):Vx (.ListComp elt gens s pos) (RY (.Name x p)) F5.line X.env=pure (Kk X.env.scope x p.line (.ListComp elt gens s pos)):=by
 have hb:X.env.blockKind=.function:=by
  unfold Env.blockKind;rw[hk];rfl
 show(pure (X.env.blockKind==.function&&X.env.kindOf x==RY .local&&p.line==pos.line&&!(s.names.any λ(n,k)=>n==x&&(k==.local||k==.cell))):Sem Bool)=_;rw[hb];unfold Kk;congr 1
 have:(X.env.kindOf x==RY NameKind.local)=Sa (X.env.scope.names.lookup x=RY .local):=by
  unfold Env.kindOf;rw[Uo];simp
 rw[this];rfl
theorem Be{src cond:List E}(G:Gs ck Γ C d X)(hi:X.N[i]?=RY x)(hx:nq X.env.scope x=R4)
  (h:aC ck (.comp n t ik src cond e) X.N X.env.scope (.ListComp elt [⟨tg,iter,ifs,0⟩] scope pos)=R4) (ns:Nat->Bool) (E3:∀j,ns j=R4->j≠i) :
  L2.PS X (.Assign [.Name x p] (.ListComp elt [⟨tg,iter,ifs,0⟩] scope pos) F5) (Es C ns (ev Γ (.comp n t ik src cond e) >>= λr=>eS i r >>= λ_=>pure .nx)):=by
 have g:=G.gd;have hE:=bt (.comp n t ik src cond e) X _ g h;cases HA:Kk X.env.scope x p.line (.ListComp elt [⟨tg,iter,ifs,0⟩] scope pos) with
 |false=>exact zk E3 G.nd hi (qI hx) (.inl (G.fn x)) hE (by rw[kh G.kd,HA])
 |true =>
  have hl:X.env.scope.names.lookup x=RY .local:=by
   simp only[Kk,R7,Û]at HA;exact HA.1.1
  simp only[aC,R7,Û]at h;obtain⟨⟨⟨⟨⟨⟨⟨h1,h2⟩,h3⟩,h4⟩,h5⟩,h6⟩,h7⟩,h8⟩:=h;subst h1;have S:=u5 (X:=X) rfl (lW _ _) h2;exact A4 E3 S g.calm G.nd hi hl (sf g h5) (λD s H ex=>r6 (fa:=R5) g.calm g.K S.nd (λz=>nomatch z) h3)
   (λD s H ex=>by
    cases ifs with
    |nil =>
     cases cond with
     |nil=>exact λpins s σ H Q I ⟨c0,e1,e2,ok,w⟩=>rB pins s σ H Q I (by subst e1 e2;rw[show aQ Γ []=pure R4 from rfl,ah]at w;exact w c0 rfl rfl ok (Nx.refl c0))
     |cons _ _=>simp[aI]at h7
    |cons c1 cs =>
     cases cs with
     |nil =>
      cases cond with
      |nil=>simp[aI]at h7
      |cons e1 Ep =>
       cases Ep with
       |nil =>
        simp only[aI,R7]at h7;exact rC (nv e1 (EB X _ scope D s H ex) c1 (g.cx _ _ _ _ _ _) h7.1.2)
       |cons _ _=>simp[aI]at h7
     |cons _ _=>simp at h6)
   (λD s H ex=>bt e (EB X _ scope D s H ex) elt (g.cx _ _ _ _ _ _) h8) (by rw[kh G.kd,HA]) (qH h4)
mutual
theorem DG:∀(s:S) (X:Cx) (s':Vt),Gs ck Γ C d X->dF ck s X.N X.env.scope s'=R4->L2.PS X s' (Es C (Hr s) (exec Γ s))
 |.set i e,X,s',G,h=>by
  simp only[dF]at h;split at h
  ·rename_i x p v _;simp only[R7,Û]at h;obtain⟨⟨⟨⟨⟨h1,h2⟩,h3⟩,h4⟩,h5⟩,h6⟩:=h;have E3:∀j,Hr (.set i e) j=R4->j≠i:=λj hj=>by simpa[Hr] using hj
   by_cases hc:cS v=R4
   ·exact zk E3 G.nd h1 (qI h2) (.inl (G.fn x)) (bt e X v G.gd h4) (gZ hc)
   ·cases e with
    |comp n t ik src cond e =>
     have M4:=h4;simp only[aC]at M4;split at M4
     ·exact Be G h1 h2 h4 _ E3
     ·cases M4
    |_=>exact absurd h6 hc
  ·cases h
 |.Hn is e,X,s',G,h=>by
  simp only[dF]at h;split at h
  ·simp only[R7]at h;obtain⟨⟨⟨h1,h2⟩,h3⟩,h4⟩:=h;rename_i es kk p v _;refine A5 (λj hj=>by simpa[Hr] using hj) (bt e X v G.gd h4) (r6 (fa:=R4) G.gd.calm G.gd.K G.nd (λ_=>G.fn) h1) (ny h2) ?_ rfl;cases v<;>first|rfl|cases h3
  ·cases h
 |.put i a b,X,s',G,h=>by
  simp only[dF]at h;obtain⟨t,v,p,rfl,z1⟩:=kg h;obtain⟨o,a',p1,rfl,z2⟩:=d_ z1;obtain⟨x,px,rfl,z3⟩:=aA z2;simp only[R7,Û]at z3;obtain⟨⟨⟨⟨⟨⟨h1,h2⟩,h3⟩,h4⟩,h5⟩,h6⟩,h7⟩:=z3;obtain⟨q1,q2⟩:=aY h3;exact CF G.gd.P G.gd.w G.gd.K G.gd.u h1 (cD h2) q1 q2 (bt b X _ G.gd h7) (bt a X _ G.gd h6) (ny h4) rfl (se h5)
 |.app i e,X,s',G,h=>by
  simp only[dF]at h;obtain⟨c,p0,rfl,z1⟩:=gy h;obtain⟨o,m,apos,as,DK,rfl,z2⟩:=bS z1;obtain⟨x,px,rfl,z3⟩:=aA z2;obtain⟨a,rfl,z4⟩:=bG z3;simp only[R7,Û]at z4;obtain⟨⟨⟨⟨⟨⟨rfl,h1⟩,h2⟩,h3⟩,h4⟩,h5⟩,h6⟩:=z4;obtain⟨q1,q2⟩:=aY h3;have st:=bH (env:=X.env) (es:=[]) h5;have sa:=(bI (pos:=DK) (env:=X.env) (es:=[a]) λe he=>by simp at he;subst he;exact h5).2;refine CC G.gd.K h1 (cD h2) q1 q2 (bt e X _ G.gd h6) ?_ h4 st;rw[sa];rfl
 |.ext i e,X,s',G,h=>by
  simp only[dF]at h;obtain⟨c,p0,rfl,z1⟩:=gy h;obtain⟨o,m,apos,as,DK,rfl,z2⟩:=bS z1;obtain⟨x,px,rfl,z3⟩:=aA z2;obtain⟨a,rfl,z4⟩:=bG z3;simp only[R7,Û]at z4;obtain⟨⟨⟨⟨⟨⟨rfl,h1⟩,h2⟩,h3⟩,h4⟩,h5⟩,h6⟩:=z4;obtain⟨q1,q2⟩:=aY h3;have st:=bH (env:=X.env) (es:=[]) h5;have sa:=(bI (pos:=DK) (env:=X.env) (es:=[a]) λe he=>by simp at he;subst he;exact h5).2;refine CD G.gd.K h1 (cD h2) q1 q2 (bt e X _ G.gd h6) ?_ h4 st;rw[sa];rfl
 |.bad,X,s',G,h=>λpins sh σ H D I ⟨_,_,_,_,w⟩=>(az.mp w).elim
 |.newD i,X,s',G,h=>by
  simp only[dF]at h;split at h
  ·simp only[R7,Û]at h;exact A6 (λj hj=>by simpa[Hr] using hj) G.nd h.1 (qI h.2) (.inl (G.fn _)) (gZ rfl)
  ·cases h
 |.putD i a b,X,s',G,h=>by
  simp only[dF]at h;obtain⟨t,v,p,rfl,z1⟩:=kg h;obtain⟨o,a',p1,rfl,z2⟩:=d_ z1;obtain⟨x,px,rfl,z3⟩:=aA z2;simp only[R7,Û]at z3;obtain⟨⟨⟨⟨⟨⟨h1,h2⟩,h3⟩,h4⟩,h5⟩,h6⟩,h7⟩:=z3;obtain⟨q1,q2⟩:=aY h3;exact A7 G.gd.u h1 (cD h2) q1 q2 (bt b X _ G.gd h7) (bt a X _ G.gd h6) (ny h4) rfl (se h5)
 |.Ft i a e,X,s',G,h=>by
  simp only[dF]at h;obtain⟨c,p0,rfl,z1⟩:=gy h;obtain⟨o,m,apos,as,DK,rfl,z2⟩:=bS z1;obtain⟨o',a',p1,rfl,z3⟩:=d_ z2;obtain⟨x,px,rfl,z4⟩:=aA z3;obtain⟨b,rfl,z5⟩:=bG z4;simp only[R7,Û]at z5;obtain⟨⟨⟨⟨⟨⟨⟨⟨rfl,h1⟩,h2⟩,h3⟩,h4⟩,h5⟩,h6⟩,h7⟩,h8⟩:=z5;obtain⟨q1,q2⟩:=aY h3;have st:=bH (env:=X.env) (es:=[]) h6;have sa:=(bI (pos:=DK) (env:=X.env) (es:=[b]) λe he=>by simp at he;subst he;exact h6).2;refine A8 G.gd.K G.gd.u h1 (cD h2) q1 q2 (bt e X _ G.gd h8) (bt a X _ G.gd h7) (ka h4) ?_ h5 st;rw[sa];rfl
 |.aug sub i a e,X,s',G,h=>by
  simp only[dF]at h;split at h
  ·obtain⟨o,a',p1,rfl,z1⟩:=d_ h;obtain⟨x,px,rfl,z2⟩:=aA z1;simp only[R7,Û]at z2;obtain⟨⟨⟨⟨⟨⟨rfl,h1⟩,h2⟩,h3⟩,h4⟩,h5⟩,h6⟩:=z2;obtain⟨q1,q2⟩:=aY h3;exact CH h1 (cD h2) q1 q2 (bt e X _ G.gd h6) (bt a X _ G.gd h5) (yE h4)
  ·cases h
 |.Lb i,X,s',G,h=>absurd h (by simp[dF])
 |.exp e,X,s',G,h=>by
  simp only[dF]at h;split at h
  ·simp only[R7]at h;exact Cw (bt e X _ G.gd h.2) (gZ h.1)
  ·cases h
 |.ret e,X,s',G,h=>by
  simp only[dF]at h;split at h
  ·exact Cy (bt e X _ G.gd h)
  ·cases h
 |.Ho,X,s',G,h=>by
  simp only[dF]at h;split at h
  ·exact A3
  ·cases h
 |.ite c a b,X,s',G,h=>by
  simp only[dF]at h;split at h
  ·simp only[R7]at h;have ha:=lX a X _ G h.1.2;have hb:=lX b X _ G h.2;exact Cz (nv c X _ G.gd h.1.1) (EE.weak ha λD σ H z=>ni (λj hj=>by simp only[Hr,R7]at hj;exact hj.1) z) (EE.weak hb λD σ H z=>ni (λj hj=>by simp only[Hr,R7]at hj;exact hj.2) z)
  ·cases h
 |.D1 t is ik src body,X,s',G,h=>by
  simp only[dF]at h;split at h
  ·rename_i tg iter F3 _;rw[R7,R7,R7]at h;exact CB G.po G.gd.calm (sf G.gd h.1.2) (r6 (fa:=R4) G.gd.calm G.gd.K G.nd (λ_=>G.fn) h.1.1.1) (lX body X _ G h.2) (qH h.1.1.2) λj hj=>by simpa[Hr] using hj
  ·cases h
 |.Iq c body,X,s',G,h=>by
  simp only[dF]at h;split at h
  ·simp only[R7]at h;exact CA G.po (nv c X _ G.gd h.1) (lX body X _ G h.2)
  ·cases h
 |.brk,X,s',G,h=>by
  simp only[dF]at h;split at h
  ·exact Cs
  ·cases h
 |.cnt,X,s',G,h=>by
  simp only[dF]at h;split at h
  ·exact Cu
  ·cases h
 |.Lc,X,s',G,h=>by
  simp only[dF]at h;split at h
  ·exact Cv
  ·cases h
theorem lX:∀(ss:List S) (X:Cx) (FJ:List Vt),Gs ck Γ C d X->dr ck ss X.N X.env.scope FJ=R4->EE X FJ (Es C (Gp ss) (execs Γ ss))
 |[],X,FJ,G,h=>by
  cases FJ with
  |nil=>exact Cr
  |cons _ _=>simp[dr]at h
 |s::ss,X,FJ,G,h=>by
  cases FJ with
  |nil=>simp[dr]at h
  |cons s' FJ =>
   simp only[dr,R7]at h;have h1:=DG s X s' G h.1;have h2:=lX ss X FJ G h.2;exact A2 (PS.weak h1 λD σ H z=>ni (λj hj=>by simp only[Gp,R7]at hj;exact hj.1) z) (EE.weak h2 λD σ H z=>ni (λj hj=>by simp only[Gp,R7]at hj;exact hj.2) z)
end
end
section
variable{ck:Ck}{Γ:Tab}{d:Nat}{P:Tu}{w:T1}{K:PySem.W.Frag}{mg:Str->Option Sb}{base:Ua}
theorem iB{n i:Nat}(h:(start us n)[i]?=RY (RY (k,u))):us[i]?=RY u/\k=if D' u=R4 then .loc else .any:=by
 unfold start at h;by_cases hi:i<us.length
 ·rw[Ti (by simpa using hi),SQ]at h;rw[U6 hi]at h ⊢;simp only[YJ,XF,Prod.mk.injEq]at h;obtain⟨h1,h2⟩:=h;subst h2;exact⟨rfl,h1.symm⟩
 ·rw[Ta (by simp;omega),Ux]at h;split at h<;>cases h
theorem qJ{i:Nat}(h:vs[i]?=RY v):(L2.start N vs)[i]?=RY (RY v):=by
 unfold L2.start;have hi:i<vs.length:=(Sf.mp h).1;rw[Ti (by simpa using hi),SQ,h];rfl
theorem vU(hP:∀a,Pr a->Gn H a)(h:ai (G3 P w K H Pr) Pr H us vs)(hn:N.length=n):Ok (G3 P w K H Pr) ⟨λ_=>False,H,L2.start N vs,start us n,λ_=>[]⟩:=by
 have M5:∀(j:Nat) (u:U),(start us n)[j]?≠RY (RY (.B',u)):=λj u e=>by
  have:=(iB e).2;split at this<;>cases this
 refine⟨λa o e _=>e,λa z=>z.elim,λa z=>⟨hP a z,λz=>z⟩,λa z=>z.elim,?_,λi k u e=>?_,λi j k k' u u' r hk EF e1 e2 e3 e4=>?_,⟨λj u r e _=>(M5 j u e).elim,λi j a ⟨u,_,e,_⟩=>(M5 i u e).elim,λj a ⟨u,_,e,_⟩=>(M5 j u e).elim⟩⟩
 ·have:=h.len;simp[start,L2.start,hn];omega
 ·obtain⟨e1,e2⟩:=iB e;obtain⟨v,ev,rep⟩:=h.get e1;refine⟨v,qJ ev,?_⟩;subst e2;by_cases hu:D' u=R4
  ·rw[Ú hu];exact Rep.D' hu rep
  ·rw[Ü hu];exact Rep.mv (.up λa z=>.inl z) rep
 ·obtain⟨_,e5⟩:=iB e1;subst e5;split at hk<;>cases hk
theorem nz(h:bC Γ fn us=RY (.ok (k,u))):us.length=fn.np/\((k=.own\/k=.loc\/k=.any)/\(∃st',execs Γ fn.body (start us fn.ns)=RY (.ok (.rt k u),st'))\/(k=.loc/\u=.DR/\∃st',execs Γ fn.body (start us fn.ns)=RY (.ok .nx,st'))):=by
 unfold bC at h;split at h
 ·rename_i hl;refine⟨hl,?_⟩;split at h
  ·rename_i e;cases h;exact .inl ⟨.inl rfl,_,e⟩
  ·rename_i e;cases h;exact .inl ⟨.inr (.inl rfl),_,e⟩
  ·rename_i e;cases h;exact .inl ⟨.inr (.inr rfl),_,e⟩
  ·rename_i e;cases h;exact .inr ⟨rfl,rfl,_,e⟩
  ·cases h
  ·cases h
 ·cases h
theorem zq{st:Vt}(F:H_ K fn.name qual st f fd)(S:dX N ps (aT st))(hN:N.length=fn.ns)(G0:ps.length=fn.np)
  (M6:dr ck fn.body N (aT st) (cE st)=R4) (blt:∀x∈b_,mg x=R3) (fns:∀g∈ck.fns,Ba P w K mg base d (Γ g) g)
  (Hv:∀p∈ck.gl,∃val v,mg p.1=RY val/\RelV v val/\∀(C:Ct) S H,Rep C S H p.2 v):oh P w K mg base Hz (d+1) f fd ps (spT P w K (bC Γ fn) fn.np):=by
 refine F.ok S (λvs H Q E h=>h.1.trans G0.symm) (λEL A outer s H vs Q E hr h=>?_);obtain⟨hl,us,k,u,Pr,DY,hk,QR,rep,cont⟩:=h;have Ka:=hr.un;have G:Gs ck Γ (G3 P w K H Pr) d (qb Hz P w K mg base N qual (aT st) f EL A outer s H E).Jx :=
  ⟨⟨rfl,rfl,rfl,by show(A.deeper (WH qual (aT st) s.heap.objs.size f EL)).units+60<Tx;omega,rfl,hr,blt,fns,λp hp=>let ⟨val,v,q1,q2,q3⟩:=Hv p hp;⟨val,v,q1,q2,q3 _⟩⟩,S.nd,λ_=>rfl,PassesOwn.never,S.kind⟩
 refine⟨_,lX fn.body _ _ G M6,⟨λ_=>False,H,L2.start N vs,start us fn.ns,λ_=>[]⟩,rfl,rfl,vU QR rep hN,?_⟩;obtain⟨_,M7⟩:=nz DY;have mk:∀(c:Cf),Ok (G3 P w K H Pr) c->∀v,Cq (G3 P w K H Pr) c k u v->Back (G3 P w K H Pr) H c.H c.S k u v:=λc ok v r=>by
  refine⟨λa o e=>ok.same a o e λz=>z,λa z=>ok.FC a z,λe=>?_,λe=>?_,λe=>?_⟩
  ·subst e;obtain⟨r0,e,h1,h2,h3,h4⟩:=r;exact⟨r0,e,h1,h2,h4⟩
  ·subst e;exact r
  ·subst e;exact r
 rcases M7 with⟨_,st',e⟩|⟨rfl,rfl,st',e⟩
 ·exact⟨_,st',e,λc ec ok n kp v r=>cont v c.H c.S (mk c ok v r)⟩
 ·exact⟨_,st',e,λc ec ok n kp=>cont .DR c.H c.S (mk c ok .DR rfl)⟩
structure Ld(ck:Ck)(K:PySem.W.Frag)(mg:Str->Option Sb)(fn:Fn):Prop where
 ex:∃(qual:Str) (st:Vt) (f:Sr) (fd:Wc) (N ps:List Str),H_ K fn.name qual st f fd/\mg fn.name=RY (.ref f)/\Binds K fd ps []/\dX N ps (aT st)/\N.length=fn.ns/\ps.length=fn.np/\dr ck fn.body N (aT st) (cE st)=R4
theorem yF{Pg:List Fn}(DW:(Pg.map (·.name)).Nodup)(h:fn∈Pg):Pg.find? (λg=>Sa (g.name=fn.name))=RY fn:=by
 induction Pg with
 |nil=>cases h
 |cons g Pg ih =>
  rw[Sd,SU]at DW;rcases Sn.mp h with rfl|h
  ·simp
  ·rw[Um];have:Sa (g.name=fn.name)=R5:=by
    apply Ý;intro z;exact DW.1 (z▸Yi h)
   rw[this];exact ih DW.2 h
theorem vV(DW:(Pg.map (·.name)).Nodup)(h:fn∈Pg):Ec Pg (d+1) fn.name=bC (Ec Pg d) fn:=by
 funext us
 show(match Pg.find? λg=>Sa (g.name=fn.name) with|some fn=>bC (Ec Pg d) fn us|none=>R3)=_;rw[yF DW h]
theorem yG(DW:(Pg.map (·.name)).Nodup)(Jq:ck.fns=Pg.map (·.name))(blt:∀x∈b_,mg x=R3)(Hv:∀p∈ck.gl,∃val v,mg p.1=RY val/\RelV v val/\∀(C:Ct) S H,Rep C S H p.2 v)
  (ld:∀fn∈Pg,Ld ck K mg fn):∀d,∀fn∈Pg,Ba P w K mg base d (Ec Pg d fn.name) fn.name:=by
 intro d;induction d with
 |zero =>
  intro fn GW;obtain⟨qual,st,f,fd,N,ps,F,hm,hb,S,hN,G0,hc⟩:=(ld fn GW).ex;exact⟨fn.np,f,fd,ps,⟨λvs H Q E h=>h.1.trans G0.symm,λA outer s H args us vs Q E _ _ _ _ h=>by obtain⟨_,us,k,u,_,e,_⟩:=h;cases e⟩,hm,F.kp,hb,λus k u e=>by cases e⟩
 |succ d ih =>
  intro fn GW;obtain⟨qual,st,f,fd,N,ps,F,hm,hb,S,hN,G0,hc⟩:=(ld fn GW).ex;rw[vV DW GW];refine⟨fn.np,f,fd,ps,zq F S hN G0 hc blt (λg hg=>?_) Hv,hm,F.kp,hb,λus k u e=>?_⟩
  ·rw[Jq]at hg;obtain⟨M8,h1,rfl⟩:=So.mp hg;exact ih M8 h1
  ·obtain⟨h1,h2⟩:=nz e;refine⟨?_,h1⟩;rcases h2 with⟨z,_⟩|⟨z,_⟩
   ·exact z
   ·exact .inr (.inl z)
end
def vW(ns:List Int):U:=.lst (ns.map .int)
theorem lY{S:Sr->Prop}:∀(ns:List Int),ai C S H (ns.map .int) (ns.map V.int)
 |[]=>rfl
 |n::ns=>⟨_,_,rfl,rfl,lY ns⟩
theorem qK(h:Eg C.K H a (ns.map V.int)):Rep C (Gn H) H (vW ns) (.ref a):=by
 refine⟨a,_,rfl,?_,lY ns⟩;rcases h with(h|⟨o,h⟩)|h
 ·exact .inl ⟨⟨_,h⟩,.inl h⟩
 ·exact .inl ⟨⟨_,h⟩,.inr ⟨o,h⟩⟩
 ·exact .inr h
theorem oU:∀{l:List α},(∀a∈l,f a=g a)->l.filterMap f=l.filterMap g
 |[],_=>rfl
 |a::l,h=>by rw[Uw,Uw,h a (by simp),oU λb hb=>h b (by simp[hb])]
theorem sg:∀(l:List Str) (us:List Sb),l.Nodup->us.length=l.length->l.filterMap (λn=>((l.zip us).lookup n).map (n,·))=l.zip us
 |[],_,_,_=>rfl
 |a::l,[],_,h=>nomatch h
 |a::l,u::us,nd,h=>by
  rw[SU]at nd;have ih:=sg l us nd.2 (by simpa using h);simp only[WA,Uw,Tc,beq_self_eq_true,YJ];congr 1
  conv=>rhs;rw[<-ih]
  refine oU λn hn=>?_;have:(n==a)=R5:=by
   rw[à];rintro rfl;exact nd.1 hn
  rw[this]
theorem vX(l:List Str)(us:List Sb)(h:us.length=l.length):l.filter (λn=>((l.zip us).lookup n).isNone)=[]:=by
 rw[V7];intro n hn;induction l generalizing us with
 |nil=>cases hn
 |cons a l ih =>
  cases us with
  |nil=>cases h
  |cons u us =>
   simp only[WA,Tc];cases e:n==a with
   |true=>simp
   |false =>
    rcases Sn.mp hn with rfl|hn
    ·simp at e
    ·exact ih us (by simpa using h) hn
theorem vY{kV doc pm EL ct:Sb}(nd:(as.map (·.arg)).Nodup)(hl:us.length=(as.map (·.arg)).length):
  Y0 (PySem.W.fnOf x q ⟨[],as,R3,[],[],R3,[]⟩ body scope .none kV doc pm an EL ct) ⟨us,[]⟩=pure ((as.map (·.arg)).zip us):=by
 have h1:=sg _ us nd hl;have h2:=vX _ us hl;have hs:Xy S3=pure R3:=rfl;simp only[Y0,PySem.W.fnOf,TV,Sz,TF,hs,pure_bind,WO,V9,Z1,List.drop_nil,List.zip_nil_right,List.forIn_nil,h1];rw[Ü (by simp[hl])];rw[R9,TU (by simp),h2];rfl
structure Me where
 fn:Fn
 i:Nat
 N:List Str
 a:Sr
 c:Sr
 m:Sb
 cr:Obj
def Me.fd(top:Nat->Vt)(m:Me):Wc:=PySem.W.fnOf m.fn.name m.fn.name (fA (top m.i)) (cE (top m.i)) (aT (top m.i)) .none .none .none m.m R3 (.ref m.c) .none
def Me.fo(top:Nat->Vt)(m:Me):Obj:=⟨.type "function",R3,.func (m.fd top),#[]⟩
def adr(ms:List Me):List Sr:=3::ms.flatMap λm=>[m.c,m.a]
def FQ(top:Nat->Vt)(g:Obj)(ms:List Me):PySem.W.Frag:=(3,g)::ms.flatMap λm=>[(m.c,m.cr),(m.a,m.fo top)]
theorem si(top:Nat->Vt)(g:Obj)(ms:List Me):adr ms=(FQ top g ms).map (·.1):=by
 unfold adr FQ;rw[Sd,List.map_flatMap];rfl
def Bg(v:Option (Option Sb))(a:Sr):Bool:=match v with|some (RY (.ref b))=>Sa (b=a)|_=>R5
theorem yH(h:Bg v a=R4):v=RY (RY (.ref a)):=by
 unfold Bg at h;split at h
 ·rw[of_decide_eq_true h]
 ·cases h
def nn(o:Option (Option Sb)):Bool:=match o with|some R3=>R4|_=>R5
theorem CL(h:nn o=R4):o=RY R3:=by
 unfold nn at h;split at h
 ·rfl
 ·cases h
def CM(p:Arguments)(ps:List Str):Bool:=p.posonlyargs.isEmpty&&p.vararg.isNone&&p.kwonlyargs.isEmpty&&p.kw_defaults.isEmpty&&p.kwarg.isNone&&p.defaults.isEmpty&&Sa (p.args.map (·.arg)=ps)
def Ox(N:List Str)(np:Nat)(sc:UI):Bool:=Sa (sc.kind=.function)&&Sa (sc.isCoroutine=R5)&&Sa (sc.isGenerator=R5)&&decide N.Nodup&&(N.take np).all (nq sc)&&sc.names.all (λy=>Sa (y.2≠.free))
def Oy(ck:Ck)(top:Nat->Vt)(K:PySem.W.Frag)(m:Me):Bool:=PySem.W.codeIn K (.ref m.c) m.fn.name&&PySem.W.keepIn K (.ref m.a)&&Bg (PySem.W.nsIn K Tw m.fn.name) m.a&&CM (fA (top m.i)) (m.N.take m.fn.np) &&
 Ox m.N m.fn.np (aT (top m.i))&&Sa (m.N.length=m.fn.ns)&&Sa (m.fn.np<=m.fn.ns)&&dr ck m.fn.body m.N (aT (top m.i)) (cE (top m.i))
def Oz(K:PySem.W.Frag)(p:Str×U):Bool:=match p.2,PySem.W.nsIn K Tw p.1 with
 |.int i,RY (RY (.int j _))=>Sa (i=j)
 |.str i,RY (RY (.str j _))=>Sa (i=j)
 |_,_=>R5
def HM(ck:Ck)(top:Nat->Vt)(K:PySem.W.Frag)(ms:List Me):Bool:=ms.all (Oy ck top K)&&b_.all (λy=>nn (PySem.W.nsIn K Tw y))&&ck.gl.all (Oz K)&&Sa (K.map (·.1)).Nodup
theorem CN{K:PySem.W.Frag}(nd:(K.map (·.1)).Nodup)(h:(a,o)∈K):K.lookup a=RY o:=by
 induction K with
 |nil=>cases h
 |cons p K ih =>
  rw[Sd,SU]at nd;rw[Tc];rcases Sn.mp h with rfl|h
  ·simp
  ·have:(a==p.1)=R5:=by
    rw[à];rintro rfl;exact nd.1 (So.mpr ⟨_,h,rfl⟩)
   rw[this];exact ih nd.2 h
section
theorem zr(hm:HM ck top (FQ top g ms) ms=R4)(h:m∈ms):H_ (FQ top g ms) m.fn.name m.fn.name (top m.i) m.a (m.fd top)/\PySem.W.nsIn (FQ top g ms) Tw m.fn.name=RY (RY (.ref m.a)) /\
  (∀us:List Sb,us.length=(m.N.take m.fn.np).length->Y0 (m.fd top) ⟨us,[]⟩=pure ((m.N.take m.fn.np).zip us))/\dX m.N (m.N.take m.fn.np) (aT (top m.i))/\m.N.length=m.fn.ns/\(m.N.take m.fn.np).length=m.fn.np/\dr ck m.fn.body m.N (aT (top m.i)) (cE (top m.i))=R4:=by
 simp only[HM,R7,Û]at hm;have z:=TL.mp hm.1.1.1 m h;simp only[Oy,R7,Û]at z;obtain⟨⟨⟨⟨⟨⟨⟨z1,z2⟩,z3⟩,z4⟩,z5⟩,z6⟩,z7⟩,z8⟩:=z;simp only[Ox,R7,Û]at z5;obtain⟨⟨⟨⟨⟨s1,s2⟩,s3⟩,s4⟩,s5⟩,s6⟩:=z5;have QS:(FQ top g ms).lookup m.a=RY (m.fo top):=CN hm.2 (Sn.mpr (.inr (List.mem_flatMap.mpr ⟨m,h,by simp⟩)));have hl:(m.N.take m.fn.np).length=m.fn.np:=by rw[Tv];omega
 refine⟨Ae QS z1 z2,yH z3,λus hu=>?_,⟨s1,s2,s3,s4,by rw[hl],λx hx=>?_,λy hy=>?_⟩,z6,hl,z8⟩
 ·unfold Me.fd;revert z4;cases fA (top m.i) with
  |mk po as va ko kd kw df =>
   intro z4;simp only[CM,R7,V0,Option.isNone_iff_eq_none,Û]at z4;obtain⟨⟨⟨⟨⟨⟨rfl,rfl⟩,rfl⟩,rfl⟩,rfl⟩,rfl⟩,e⟩:=z4;rw[<-e]at hu ⊢;exact vY (by rw[e];exact(YK _ _).nodup s4) hu
 ·have:=TL.mp s5 x hx;simpa[nq] using this
 ·have:=TL.mp s6 y hy;simpa using this
theorem CO(hm:HM ck top (FQ top g ms) ms=R4)(X:(FQ top g ms).In h)(G:h.Ns Tw mg)(hi:m∈ms):Ld ck (FQ top g ms) mg m.fn :=
 let ⟨a,b,c,d,e,f,k⟩:=zr hm hi
 ⟨_,_,_,_,_,_,a,PySem.W.mg_of X G b,.all c,d,e,f,k⟩
theorem Bh(hm:HM ck top (FQ top g ms) ms=R4)(X:(FQ top g ms).In h)(G:h.Ns Tw mg):∀p∈ck.gl,∃val v,mg p.1=RY val/\RelV v val/\∀(C:Ct) S H,Rep C S H p.2 v:=by
 intro p hp;simp only[HM,R7,Û]at hm;have z:=TL.mp hm.1.2 p hp;unfold Oz at z;split at z
 ·rename_i i j k e1 e2;obtain rfl:=of_decide_eq_true z;exact⟨_,.int i,PySem.W.mg_of X G e2,⟨_,rfl⟩,λ_ _ _=>by rw[e1];rfl⟩
 ·rename_i i j k e1 e2;obtain rfl:=of_decide_eq_true z;exact⟨_,.str i,PySem.W.mg_of X G e2,⟨_,rfl⟩,λ_ _ _=>by rw[e1];rfl⟩
 ·cases z
end
theorem walk{l:PySem.W.OpenLaw}{K:YB->PySem.W.Frag}
  (hn:l.most=RY 63) (H0:d.params.defaults=[]) (hr:gh (dp+1) Wj) (hY:∀(w:T1) (h:Ua),YP w h->(K w.params).In h)
  (DW:(Pg.map (·.name)).Nodup) (Jq:ck.fns=Pg.map (·.name)) (GW:fn∈Pg) (GQ:fn.name=d.name)
  (F:∀(w:T1) (mg:Str->Option Sb) (fa:Sr) (h:Ua),(K w.params).In h->h.Ns Tw mg->mg d.name=RY (.ref fa) ->
   (∀y∈b_,mg y=R3)/\(∀p∈ck.gl,∃val v,mg p.1=RY val/\RelV v val/\∀(C:Ct) S H,Rep C S H p.2 v)/\(∀g∈Pg,Ld ck (K w.params) mg g) /\
   ∃(qual:Str) (st:Vt) (fd:Wc) (N:List Str),H_ (K w.params) fn.name qual st fa fd/\dX N [x] (aT st)/\N.length=fn.ns/\1=fn.np/\dr ck fn.body N (aT st) (cE st)=R4/\∀(s:Sm) (u:Sb),YE s fd ⟨[u],[]⟩ [(x,u)])
  (T:∀ns:List Int,ns.length<=63->Ec Pg (dp+1) fn.name [vW ns]=RY (.ok (.loc,.bl R4))) :
  PySem.W.WalkO q loose XP YP l.row.toRowW d [] (λf vs=>PySem.call f vs) :=
 L2.xy (n:=63) (k:=dp+1) (x:=x) (CX:=λ_=>Hz) (sp:=λw=>spT l.prog w (K w.params) (bC (Ec Pg dp) fn) fn.np) hn (by decide) H0 hr hY
  (λw mg fa h KX G JG=>by
   obtain⟨blt,Hv,ld,qual,st,fd,N,F1,S,hN,G0,hc,hb⟩:=F w mg fa h KX G JG;refine⟨fd,hb,λbase _ _=>zq F1 S hN G0 hc blt (λg hg=>?_) Hv⟩;rw[Jq]at hg;obtain⟨M8,h1,rfl⟩:=So.mp hg;exact yG DW Jq blt Hv ld dp M8 h1)
  (λw H a ns hl _ hS=>by
   have t:=T ns hl;rw[vV DW GW]at t;have OA:fn.np=1:=(nz t).1.symm;exact⟨OA.symm,[vW ns],.loc,.bl R4,Gn H,t,.inr (.inl rfl),λ_ z=>z,⟨_,_,rfl,qK hS,rfl⟩,λv H' S' b=>b.loc rfl⟩)
  λ_ _ _ _ _ z=>z
theorem walk2{l:PySem.W.OpenLaw}{g:YB->Obj}
  (hn:l.most=RY 63) (H0:d.params.defaults=[]) (hr:gh (dp+1) Wj) (hP:ms.map (·.fn)=Pg) (DW:(Pg.map (·.name)).Nodup) (Jq:ck.fns=Pg.map (·.name)) (hm:m∈ms) (GQ:m.fn.name=d.name) (hx:m.N.take m.fn.np=[x])
  (ok:∀P,HM ck top (FQ top (g P) ms) ms=R4) (T:∀ns:List Int,ns.length<=63->Ec Pg (dp+1) m.fn.name [vW ns]=RY (.ok (.loc,.bl R4))) :
  PySem.W.WalkO q loose XP (PySem.W.kHook (λP=>FQ top (g P) ms) (adr ms) λP=>si top (g P) ms).says l.row.toRowW d [] (λf vs=>PySem.call f vs) :=
 walk hn H0 hr (λw h Y=>PySem.W.kIn_of Y) DW Jq (hP▸So.mpr ⟨m,hm,rfl⟩) GQ (λw mg fa h X G G6=>by
  have hk:=ok w.params;obtain⟨a,b,c,e,f,k,n⟩:=zr hk hm;rw[<-GQ,PySem.W.mg_of X G b]at G6;cases G6;rw[hx]at c e k;refine⟨λy hy=>PySem.W.mg_none_of X G (CL ?_),Bh hk X G,λy hy=>?_,_,_,_,_,a,e,f,k,n,λs u=>.of_eq (c [u] rfl)⟩
  ·simp only[HM,R7]at hk;exact TL.mp hk.1.1.2 y hy
  ·rw[<-hP]at hy;obtain⟨m',h1,rfl⟩:=So.mp hy;exact CO hk X G h1) T
def co(n:Str)(k l np:Nat)(r s:Sr)(x y z:Sb)(a b t:Nat):Obj:=⟨.type "code",R3,.fields #[.str n k,.str n (k+1),.str "/claim/cut.py" (k+2),.int l 0,.int np 0,.int 0 0,.int 0 0,.int 3 0,.ref r,.bool R4,.int t 0,.ref s,.none,x,y,z,.int a 0,.int l 0,.str "/claim/cut.py" b],#[]⟩
def ge(P:YB)(x:Str)(k:Nat)(v:Sb):DictEntry:=⟨PyData.keyHash P x,.str x k,v⟩
end TM
namespace D6
open PySem L2
def a9(l:List Nat):Prop:=eL l=R4\/∃a b k,l=a++47::b/\eL a=R4/\2<=k/\k<=99/\(il k).cps.toList=b
theorem len_list(x:Str):x.length=x.cps.toList.length:=by simp[VI]
theorem fK(h0:0<=k)(h1:k<=99):(il k).length<=2:=by
 obtain⟨m,rfl⟩:=V6 h0;have hm:m<100:=by omega
 clear h0 h1;revert m;decide +kernel
theorem a9.len(h:a9 l):1<=l.length/\l.length<=11:=by
 rcases h with h|⟨a,b,k,rfl,h,h2,h9,hb⟩
 ·have:=(bV l).mp h;omega
 ·have:=(bV a).mp h;have hl:=fK (k:=k) ⋯ h9;rw[len_list,hb]at hl;simp;omega
theorem a9.aX(h:a9 x.cps.toList):∃y r,UH x fZ=y::r/\eL y.cps.toList=R4:=by
 rcases h with h|⟨a,b,k,e,h,_⟩
 ·exact⟨x,[],jF (dN h),h⟩
 ·obtain⟨r,e'⟩:=ot e (dN h) (by decide);exact⟨_,r,e',by simpa using h⟩
theorem eO:∀(ps:List Str) (acc:Array Nat),(ps.foldl (λacc p=>acc++S5.cps++p.cps) acc).toList=acc.toList++(ps.map λp=>p.cps.toList).flatten
 |[],acc=>by simp
 |p::ps,acc=>by
  rw[W',eO ps];have:S5.cps=#[]:=rfl;simp[this]
theorem join_list(ts:List Str):(WT S5 ts).cps.toList=(ts.map λp=>p.cps.toList).flatten:=by
 cases ts with
 |nil=>rfl
 |cons t ts =>
  show(ts.foldl (λacc p=>acc++S5.cps++p.cps) t.cps).toList=_;rw[eO];simp
def one(c:Nat):Str:=⟨#[c]⟩
theorem join_ones(cs:List Nat):(WT S5 (cs.map one)).cps.toList=cs:=by
 rw[join_list,Sx];induction cs with
 |nil=>rfl
 |cons c cs ih=>rw[Sd,WR,ih];rfl
theorem oV(cs:List Nat)(h:cs.length<=100):Zq S5 (cs.map one)=R4:=by
 unfold Zq;have e:=PySem.StrLaws.joinTotal S5 (cs.map one);have e0:S5.length=0:=rfl;have es:((cs.map one).map (·.length)).sum=cs.length:=by
  rw[Sx];clear h e;induction cs with
  |nil=>rfl
  |cons c cs ih=>rw[Sd,List.sum_cons,ih];show 1+cs.length=cs.length+1;omega
 rw[e,e0,es];have hm:cs.length+(cs.map one).length * 0<=100:=by omega
 revert hm;generalize cs.length+(cs.map one).length * 0=m;revert m;decide
theorem Bi(x:Str)(j:Nat):(PySem.StrLaws.sliceText x R3 (RY (j:Int))).cps.toList=x.cps.toList.take j:=by
 by_cases h:j<=x.cps.toList.length
 ·rw[PySem.StrLaws.sliceText_to (x:=x) ⟨⋯,⋯⟩];simp
 ·have e:PySem.StrLaws.sliceText x R3 (RY (j:Int))=PySem.StrLaws.sliceText x R3 (RY (x.length:Int)):=by
   unfold PySem.StrLaws.sliceText;have hl:=len_list x;have:PySem.Builtin.Str.strSliceIndices R3 (RY (j:Int)) 1 x.length=PySem.Builtin.Str.strSliceIndices R3 (RY (x.length:Int)) 1 x.length:=by
    have h1:¬((j:Int)<0):=by omega
    have h2:¬((x.length:Int)<0):=by omega
    have e1:min (j:Int) (x.length:Int)=x.length:=by omega
    simp[PySem.Builtin.Str.strSliceIndices,h1,h2,e1]
   rw[this]
  have hl:=len_list x;rw[e,PySem.StrLaws.sliceText_to (x:=x) ⟨⋯,⋯⟩,Xv,TU (l:=x.cps.toList) (i:=j) ⋯];show(x.cps.toList.take ((x.length:Int) - 0).toNat).toArray.toList=_;rw[TU ⋯]
theorem tX(ha:eL a=R4)(hb:∀c∈b,low c=R4):eL ((a++b).take 8)=R4:=by
 have h:=(bV a).mp ha;refine(bV _).mpr ⟨by simp;omega,by simp;omega,λc hc=>?_⟩;have GX:=We hc;rcases SA.mp GX with m|m
 ·exact h.2.2 c m
 ·have:=hb c m;simp[low]at this;omega
theorem iO(hb:∀c∈b,low c=R4)(h1:1<=b.length)(h8:b.length<=8):eL b=R4 :=
 (bV b).mpr ⟨h1,h8,λc hc=>by have:=hb c hc;simp[low]at this;omega⟩
def small:Str:="abcdefghijklmnopqrstuvwxyz"
theorem qL:small.cps.toList=(Sl 26).map (97+·):=by decide +kernel
theorem kl(h0:0<=k)(h1:k<26):D8 small.cps.toList k=RY (97+k.toNat):=by
 obtain⟨j,rfl⟩:=V6 h0;refine cc ?_;rw[qL,SQ,Yj ⋯];rfl
theorem qM(h:j<26):low (97+j)=R4:=by simp[low];omega
def lZ(k:Nat):Str:=⟨#[97+k / 26,97+k % 26]⟩
theorem qN(h:k<40):eL (lZ k).cps.toList=R4:=by
 refine iO (λc hc=>?_) (by show 1<=2;decide) (by show 2<=8;decide);have GX:c=97+k / 26\/c=97+k % 26:=by simpa[lZ] using hc
 rcases GX with rfl|rfl
 ·exact qM ⋯
 ·exact qM ⋯
theorem g_ [DecidableEq α]:∀{l m:List α},l.Nodup->(∀x∈l,x∈m)->l.length<=m.length
 |[],_,_,_=>SM _
 |x::l,m,hn,h=>by
  obtain⟨h1,h2⟩:=SU.mp hn;have hx:=h x SR;have ih:=g_ (l:=l) (m:=m.erase x) h2 λy hy=>(Ya (by rintro rfl;exact h1 hy)).mpr (h y (SS _ hy));rw[XG hx]at ih;have:0<m.length:=XT hx;rw[SE];omega
def bN:List Str:=(Sl 40).map lZ
theorem nA:bN.Nodup:=by
 decide +kernel
theorem qO(names:List Str)(h:names.length<40):∃x∈bN,x∉names:=by
 apply W5;intro GY;have:∀x∈bN,x∈names:=λx hx=>W5 λhn=>GY ⟨x,hx,hn⟩;have:=g_ nA this;simp[bN]at this;omega
end D6
namespace TM
open PySem L2
section
def Run(m:M α)(st:aj)(a:α)(st':aj):Prop:=m st=RY (.ok a,st')
theorem aa(h1:Run m st a st1)(h2:Run (f a) st1 b st2):Run (m >>= f) st b st2:=by
 show M.bind m f st=_;unfold M.bind;rw[show m st=_ from h1];exact h2
theorem aU:Run (pure a:M α) st a st:=rfl
theorem cJ(h:o=RY a):Run (M.D0 o) st a st:=by subst h;rfl
theorem a_(h:bc rs st):Run (av rs) st () st:=by show av rs st=_;unfold av;rw[Ú h]
def kv(i:Nat)(k:Kd):Kd:=if k.root=R4 then .bor i else k
theorem gf(h:st[i]?=RY (RY (k,u)))(hk:k≠.B':=by intro z;cases z):Run (dk i) st (kv i k,u) st:=by
 show dk i st=_;unfold dk;rw[h];cases k<;>first|rfl|exact absurd rfl hk
theorem ae(h:st[i]?=RY (RY (.loc,u))):Run (ev Γ (.var i)) st (.loc,u) st:=gf h
theorem aZ(h:st[i]?=RY (RY (.any,u))):Run (ev Γ (.var i)) st (.any,u) st:=gf h
theorem ak(h:st[i]?=RY (RY (.own,u))):Run (ev Γ (.var i)) st (.bor i,u) st:=gf h
theorem ar:Run (ev Γ (.cst u)) st (.loc,u) st:=rfl
theorem vZ:Run (ev Γ (.Hm x u)) st (.loc,u) st:=rfl
theorem bA(h1:Run (ev Γ a) st x st1)(h2:Run (ev Γ b) st1 y st2)(h3:bc [x,y] st2)(h4:Fc op x y=RY r):Run (ev Γ (.bin op a b)) st r st2 :=
 aa h1 (aa h2 (aa (a_ h3) (cJ h4)))
theorem iP(h1:Run (ev Γ a) st x st1)(h2:Run (ev Γ b) st1 y st2)(h3:bc [x,y] st2)(h4:a5 op x.2 y.2=RY c):Run (ev Γ (.cmp op a b)) st (.loc,.bl c) st2 :=
 aa h1 (aa h2 (aa (a_ h3) (aa (cJ h4) aU)))
theorem bo(h1:Run (ev Γ a) st x st1)(h2:Run (ev Γ b) st1 y st2)(h3:bc [x,y] st2)(h4:fe x y.2=RY r):Run (ev Γ (.idx a b)) st r st2 :=
 aa h1 (aa h2 (aa (a_ h3) (cJ h4)))
theorem sj:Run (Iu Γ []) st R3 st:=rfl
theorem sk(h:Run (ev Γ e) st (k,.int i) st1):Run (Iu Γ [e]) st (RY i) st1:=aa h rfl
theorem so(h1:Run (ev Γ a) st x st1)(h2:Run (Iu Γ lo) st1 l st2)(h3:Run (Iu Γ hi) st2 h st3)(h4:bc [x] st3)(h5:m7 x l h=RY r):Run (ev Γ (.FD a lo hi)) st r st3 :=
 aa h1 (aa h2 (aa h3 (aa (a_ h4) (cJ h5))))
theorem ag:Run (bL Γ []) st [] st:=rfl
theorem ab(h1:Run (ev Γ e) st r st1)(h2:Run (bL Γ es) st1 rs st2):Run (bL Γ (e::es)) st (r::rs) st2:=aa h1 (aa h2 aU)
theorem eh(h1:Run (bL Γ es) st rs st1)(h2:bc rs st1)(h3:Fd f rs=RY r):Run (ev Γ (.bi f es)) st r st1:=aa h1 (aa (a_ h2) (cJ h3))
theorem v5(h1:Run (bL Γ es) st rs st1)(h2:bc rs st1)(h3:qv f rs=RY r):Run (ev Γ (.GJ f es)) st r st1:=aa h1 (aa (a_ h2) (cJ h3))
theorem sr(h0:Run (ev Γ a) st x st1)(h1:Run (bL Γ es) st1 rs st2)(h2:bc (x::rs) st2)(h3:iw m x.2 rs=RY r):Run (ev Γ (.F_ m a es)) st r st2:=aa h0 (aa h1 (aa (a_ h2) (cJ h3)))
theorem su(h:Γ f us=RY (.ok r))(hr:isAny r.1=R5):Run (jV Γ f us) st r st:=by
 obtain⟨k,u⟩:=r;show jV Γ f us st=_;unfold jV;rw[h];cases k<;>first|rfl|cases hr
theorem aM(h1:Run (bL Γ es) st rs st1)(h2:bc rs st1)(h3:Γ f (rs.map (·.2))=RY (.ok r))(hr:isAny r.1=R5:=by exact rfl):Run (ev Γ (.call f es)) st r st1:=aa h1 (aa (a_ h2) (su h3 hr))
theorem km(h1:Run (bL Γ es) st rs st1)(h2:bc rs st1)(h3:Run (cH rs) st1 us st2)(h4:us.length<=R6):Run (ev Γ (.tup es)) st (.loc,.tup us) st2:=by
 refine aa h1 (aa (a_ h2) (aa h3 ?_));rw[Ú h4];exact aU
theorem bX(h1:Run (bL Γ es) st rs st1)(h2:bc rs st1)(h3:Run (cH rs) st1 us st2)(h4:us.length<=R6):Run (ev Γ (.lst es)) st (.own,.lst us) st2:=by
 refine aa h1 (aa (a_ h2) (aa h3 ?_));rw[Ú h4];exact aU
theorem gz:Run (ev Γ (.EU r)) st (.own,if r=R4 then .Ew [] else .DJ [] []) st:=rfl
theorem v7:Run (lift (.own,u)) st u st:=rfl
theorem aP:Run (lift (.loc,u)) st u st:=rfl
theorem kn(h:D' u=R4):Run (lift (.any,u)) st u st:=by
 show(if D' u=R4 then(pure u:M U) else M.fail) st=_;rw[Ú h];rfl
theorem aN:Run (cH []) st [] st:=rfl
theorem aK(h1:Run (lift r) st u st1)(h2:Run (cH rs) st1 us st2):Run (cH (r::rs)) st (u::us) st2:=aa h1 (aa h2 aU)
theorem v8(h:Run (ev Γ e) st r st1):Run (gU Γ [e]) st r st1:=h
theorem Bj(h:Run (ev Γ e) st (k,.bl p) st1)(h2:if p=R4 then Run (gU Γ (e2::es)) st1 r st2 else st2=st1/\r=(.loc,.bl R5)):Run (gU Γ (e::e2::es)) st r st2:=by
 refine aa h ?_;cases p with
 |true=>exact h2
 |false=>obtain⟨rfl,rfl⟩:=h2;exact aU
theorem zt(h:Run (gU Γ es) st r st1):Run (ev Γ (.and es)) st r st1:=h
theorem bj(h1:Run (ev Γ a) st x st1)(h2:Run (ev Γ b) st1 y st2)(h3:bc [x,y] st2)(h4:a5 op x.2 y.2=RY c):Run (DX Γ (.cmp op a b)) st c st2:=aa h1 (aa h2 (aa (a_ h3) (cJ h4)))
theorem zu(h:Run (DX Γ a) st c st1):Run (DX Γ (.not a)) st (!c) st1:=aa h aU
theorem iQ(h:Run (aQ Γ es) st c st1):Run (DX Γ (.and es)) st c st1:=h
theorem v9(h:Run (ff Γ es) st c st1):Run (DX Γ (.or es)) st c st1:=h
theorem fq:Run (aQ Γ []) st R4 st:=rfl
theorem cO(h:Run (DX Γ e) st c st1):Run (aQ Γ [e]) st c st1:=h
theorem qP(h:Run (DX Γ e) st R4 st1)(h2:Run (aQ Γ (e2::es)) st1 c st2):Run (aQ Γ (e::e2::es)) st c st2:=aa h h2
theorem v_(h:Run (DX Γ e) st R5 st1):Run (aQ Γ (e::e2::es)) st R5 st1:=aa h aU
theorem oW(h:Run (DX Γ e) st c st1):Run (ff Γ [e]) st c st1:=h
theorem CP(h:Run (DX Γ e) st R4 st1):Run (ff Γ (e::e2::es)) st R4 st1:=aa h aU
theorem oX(h:Run (DX Γ e) st R5 st1)(h2:Run (ff Γ (e2::es)) st1 c st2):Run (ff Γ (e::e2::es)) st c st2:=aa h h2
theorem aS:Run (eS i (.own,u)) st () (st.set i (RY (.own,u))):=rfl
theorem aE:Run (eS i (.loc,u)) st () (st.set i (RY (.loc,u))):=rfl
theorem iR:Run (eS i (.any,u)) st () (st.set i (RY (.any,u))):=rfl
theorem CQ(h1:Run (ev Γ e) st r st1)(h2:Run (eS i r) st1 () st2):Run (exec Γ (.set i e)) st .nx st2:=aa h1 (aa h2 aU)
theorem CS(h0:∃k' us',st[i]?=RY (RY (k',.lst us'))/\k'≠.B')(h1:Run (ev Γ e) st r st1)(h2:Run (lift r) st1 u st2)(h3:st2[i]?=RY (RY (k,.lst us)))(hk:k.root=R4)(hl:us.length<R6):
  Run (exec Γ (.app i e)) st .nx (st2.set i (RY (k,.lst (us++[u])))):=by
 obtain⟨k',us',h0,hn⟩:=h0;refine aa (gf h0 hn) (aa (a:=()) (st1:=st) rfl (aa h1 (aa h2 (aa (a:=()) ?_ aU))));show modS i (vm u) st2=_;unfold modS;rw[h3];simp only[hk,if_true];have e:vm u (.lst us)=RY (.lst (us++[u])):=by show(if us.length<R6 then _ else _)=_;rw[Ú hl]
 rw[e]
theorem CT(h1:Run (ev Γ e) st r st1)(h2:Run (retS r) st1 f st2):Run (exec Γ (.ret e)) st f st2:=aa h1 h2
theorem iS:Run (retS (.own,u)) st (.rt .own u) st:=rfl
theorem du:Run (retS (.loc,u)) st (.rt .loc u) st:=rfl
theorem CU(h:D' u=R4):Run (retS (.any,u)) st (.rt .loc u) st:=by
 show(if D' u=R4 then(pure (Fl.rt .loc u):M Fl) else pure (.rt .any u)) st=_;rw[Ú h];rfl
theorem l0(h:st[j]?=RY (RY (.own,u))):Run (retS (.bor j,u0)) st (.rt .own u) (st.set j R3):=by
 show(match st[j]? with|some (RY (.own,u))=>RY (Ex.ok (Fl.rt .own u),st.set j R3)|_=>R3)=_;rw[h]
theorem nB(h1:Run (DX Γ c) st R4 st1)(h2:Run (execs Γ a) st1 f st2):Run (exec Γ (.ite c a b)) st f st2:=aa h1 h2
theorem qQ(h1:Run (DX Γ c) st R5 st1)(h2:Run (execs Γ b) st1 f st2):Run (exec Γ (.ite c a b)) st f st2:=aa h1 h2
theorem aF:Run (execs Γ []) st .nx st:=rfl
theorem fU(h1:Run (exec Γ s) st .nx st1)(h2:Run (execs Γ ss) st1 f st2):Run (execs Γ (s::ss)) st f st2:=aa h1 h2
theorem tY(h1:Run (exec Γ s) st (.rt k u) st1):Run (execs Γ (s::ss)) st (.rt k u) st1:=aa h1 aU
theorem aq(h1:Run (ev Γ e) st r st1)(h2:Run (eS i r) st1 () st2)(h3:Run (execs Γ ss) st2 f st3):Run (execs Γ (.set i e::ss)) st f st3:=fU (CQ h1 h2) h3
theorem iT(h0:st[i]?=RY (RY (k',.lst us')))(h1:Run (ev Γ e) st r st1)(h2:Run (lift r) st1 u st2)(h3:st2[i]?=RY (RY (k,.lst us)))(hk:k.root=R4)(hl:us.length<R6)
  (h4:Run (execs Γ ss) (st2.set i (RY (k,.lst (us++[u])))) f st3) (hn:k'≠.B':=by intro z;cases z):Run (execs Γ (.app i e::ss)) st f st3:=fU (CS ⟨_,_,h0,hn⟩ h1 h2 h3 hk hl) h4
theorem bP(h1:Run (ev Γ e) st r st1)(h2:Run (retS r) st1 (.rt k u) st2):Run (execs Γ (.ret e::ss)) st (.rt k u) st2:=tY (CT h1 h2)
theorem ei(h1:Run (DX Γ c) st R4 st1)(h2:Run (execs Γ a) st1 .nx st2)(h3:Run (execs Γ ss) st2 f st3):Run (execs Γ (.ite c a b::ss)) st f st3:=fU (nB h1 h2) h3
theorem bO(h1:Run (DX Γ c) st R5 st1)(h2:Run (execs Γ b) st1 .nx st2)(h3:Run (execs Γ ss) st2 f st3):Run (execs Γ (.ite c a b::ss)) st f st3:=fU (qQ h1 h2) h3
theorem Bk(h1:Run (DX Γ c) st R4 st1)(h2:Run (execs Γ a) st1 (.rt k u) st2):Run (execs Γ (.ite c a b::ss)) st (.rt k u) st2:=tY (nB h1 h2)
theorem wa(h1:Run (bL Γ src) st rs st1)(h2:bc rs st1)(h3:Fu ik rs=RY xs)(h4:rQ rs is body=R4)(h5:Run (forM t is (execs Γ body) rs xs) st1 f st2):
  Run (exec Γ (.D1 t is ik src body)) st f st2:=by
 refine aa h1 (aa (a_ h2) (aa (cJ h3) ?_));rw[Ú h4];exact h5
theorem cM(h1:Run (bL Γ src) st rs st1)(h2:bc rs st1)(h3:Fu ik rs=RY xs)(h4:rQ rs is body=R4)(h5:Run (forM t is (execs Γ body) rs xs) st1 .nx st2)(h6:Run (execs Γ ss) st2 f st3):
  Run (execs Γ (.D1 t is ik src body::ss)) st f st3:=fU (wa h1 h2 h3 h4 h5) h6
theorem oY(h:bc rs st):Run (forM t is body rs []) st .nx st:=aa (a_ h) aU
theorem oZ(h:bc rs st)(h1:Run (cB t is x) st () st1)(h2:Run body st1 .nx st2)(h3:Run (forM t is body rs xs) st2 f st3):Run (forM t is body rs (x::xs)) st f st3:=aa (a_ h) (aa h1 (aa h2 h3))
theorem CV(h:bc rs st)(h1:Run (cB t is x) st () st1)(h2:Run body st1 (.rt k u) st2):Run (forM t is body rs (x::xs)) st (.rt k u) st2:=aa (a_ h) (aa h1 (aa h2 aU))
theorem o_(I:List (Kd×U)->aj->Prop)(hs:∀xs st,I xs st->bc rs st)(YX:∀x xs st,I (x::xs) st->∃st1 st2,Run (cB t is x) st () st1/\Run body st1 .nx st2/\I xs st2):
  ∀(xs:List (Kd×U)) (st:aj),I xs st->∃st',Run (forM t is body rs xs) st .nx st'/\I [] st'
 |[],st,h=>⟨st,oY (hs _ _ h),h⟩
 |x::xs,st,h=>by
  obtain⟨s1,s2,h1,h2,h3⟩:=YX x xs st h;obtain⟨s3,h4,h5⟩:=o_ I hs YX xs s2 h3;exact⟨s3,oZ (hs _ _ h) h1 h2 h4,h5⟩
theorem cn(h:Run (eS i r) st () st1):Run (cB R5 [i] r) st () st1:=h
theorem aD(hn:us.length=fn.np)(hk:k=.own\/k=.loc)(hs:start us fn.ns=st0)(h:Run (execs Γ fn.body) st0 (.rt k u) st):bC Γ fn us=RY (.ok (k,u)):=by
 subst hs;unfold bC;rw[Ú hn,show execs Γ fn.body (start us fn.ns)=_ from h];rcases hk with rfl|rfl<;>rfl
theorem pd{cond:M Bool}(h:bc src st):Run (bz k t cond elt src [] acc) st acc st:=aa (a_ h) aU
theorem kq{cond:M Bool}(h:bc src st)(h1:Run (cB t (Sl k) x) (SH k R3++st) () s1)(h2:Run cond s1 R4 s2)(h3:Run elt s2 r s3)(h4:Run (lift r) s3 u s4)
  (hl:acc.length<R6) (h5:Run (bz k t cond elt src xs (acc++[u])) (s4.drop k) us st2):Run (bz k t cond elt src (x::xs) acc) st us st2:=by
 refine aa (a_ h) (aa (a:=RY u) (st1:=s4.drop k) ?_ ?_)
 ·show inScope k _ st=_;unfold inScope;have hh:Run (cB t (Sl k) x >>= λ_=>cond >>= λb=>if b=R4 then(elt >>= λr=>lift r >>= λu=>pure (RY u)) else pure R3) (SH k R3++st) (RY u) s4 :=
   aa h1 (aa h2 (show Run (elt >>= λr=>lift r >>= λu=>pure (RY u)) s2 (RY u) s4 from aa h3 (aa (f:=λu=>pure (RY u)) h4 rfl)))
  rw[show _=_ from hh]
 ·show Run (if acc.length<R6 then bz k t cond elt src xs (acc++[u]) else M.fail) _ _ _;rw[Ú hl];exact h5
theorem qR{cond:M Bool}(h:bc src st)(h1:Run (cB t (Sl k) x) (SH k R3++st) () s1)(h2:Run cond s1 R5 s2)
  (h5:Run (bz k t cond elt src xs acc) (s2.drop k) us st2):Run (bz k t cond elt src (x::xs) acc) st us st2:=by
 refine aa (a_ h) (aa (a:=R3) (st1:=s2.drop k) ?_ h5);show inScope k _ st=_;unfold inScope;have hh:Run (cB t (Sl k) x >>= λ_=>cond >>= λb=>if b=R4 then(elt >>= λr=>lift r >>= λu=>pure (RY u)) else pure R3) (SH k R3++st) R3 s2 :=
  aa h1 (aa h2 (show Run (pure R3:M (Option U)) s2 R3 s2 from rfl))
 rw[show _=_ from hh]
theorem b8{src cond:List E}(h1:Run (bL Γ src) st rs st1)(h2:bc rs st1)(h3:Fu ik rs=RY xs)(h4:Run (bz k t (aQ Γ cond) (ev Γ e) rs xs []) st1 us st2):Run (ev Γ (.comp k t ik src cond e)) st (.own,.lst us) st2 :=
 aa h1 (aa (a_ h2) (aa (cJ h3) (aa h4 aU)))
theorem wb{cond:M Bool}(h:bc src st)(g:Kd×U->U)(kd:Kd×U->Kd):∀(xs:List (Kd×U)) (acc:List U),acc.length+xs.length<=R6 ->
  (∀x∈xs,x.1=.loc\/x.1=.any)->(∀x∈xs,Run cond (RY x::st) R4 (RY x::st)/\Run elt (RY x::st) (kd x,g x) (RY x::st)/\Run (lift (kd x,g x)) (RY x::st) (g x) (RY x::st))->Run (bz 1 R5 cond elt src xs acc) st (acc++xs.map g) st
 |[],acc,_,_,_=>by rw[TV,TF];exact pd h
 |x::xs,acc,hl,hk,hx=>by
  obtain⟨h1,h2,h3⟩:=hx x (by simp);rw[SE]at hl;refine kq (s1:=RY x::st) (s2:=RY x::st) (s3:=RY x::st) (s4:=RY x::st) h ?_ h1 h2 h3 ⋯ ?_
  ·obtain⟨k,u⟩:=x;rcases hk _ (SR ..) with z|z<;>(cases z;rfl)
  ·have:=wb h g kd xs (acc++[g x]) (by simp;omega) (λy hy=>hk y (by simp[hy])) λy hy=>hx y (by simp[hy]);rw[Sd];simpa using this
theorem kr{cond:M Bool}(h:bc src st)(p:Kd×U->Bool)(g:Kd×U->U)(kd:Kd×U->Kd):∀(xs:List (Kd×U)) (acc:List U),acc.length+xs.length<=R6 ->
  (∀x∈xs,x.1=.loc\/x.1=.any)->(∀x∈xs,Run cond (RY x::st) (p x) (RY x::st)/\Run elt (RY x::st) (kd x,g x) (RY x::st)/\Run (lift (kd x,g x)) (RY x::st) (g x) (RY x::st))->Run (bz 1 R5 cond elt src xs acc) st (acc++(xs.filter p).map g) st
 |[],acc,_,_,_=>by rw[V_,TV,TF];exact pd h
 |x::xs,acc,hl,hk,hx=>by
  obtain⟨h1,h2,h3⟩:=hx x (by simp);rw[SE]at hl;have ht:Run (cB R5 (Sl 1) x) (SH 1 R3++st) () (RY x::st):=by
   obtain⟨k,u⟩:=x;rcases hk _ (SR ..) with z|z<;>(cases z;rfl)
  cases hp:p x with
  |true =>
   rw[hp]at h1;refine kq (s1:=RY x::st) (s2:=RY x::st) (s3:=RY x::st) (s4:=RY x::st) h ht h1 h2 h3 ⋯ ?_;have:=kr h p g kd xs (acc++[g x]) (by simp;omega) (λy hy=>hk y (by simp[hy])) λy hy=>hx y (by simp[hy]);rw[TK,Ú hp,Sd];simpa using this
  |false =>
   rw[hp]at h1;refine qR (s1:=RY x::st) (s2:=RY x::st) h ht h1 ?_;have:=kr h p g kd xs acc ⋯ (λy hy=>hk y (by simp[hy])) λy hy=>hx y (by simp[hy]);rw[TK,Ü (by simp[hp])];exact this
end
theorem bw(h:0<j):Fc .mod (k,.int i) (k',.int j)=RY (.loc,.int (i % j)):=by show(xT i j).map _=_;rw[xT,Ú h];rfl
theorem qS(h:0<j/\j<1073741824):Fc .Fs (k,.int i) (k',.int j)=RY (.loc,.int (i / j)):=by show(xS i j).map _=_;rw[xS,Ú h];rfl
theorem mz(h:(-(2 ^ 64)<i/\i<2 ^ 64)\/(-(2 ^ 64)<j/\j<2 ^ 64)):Fc .mul (k,.int i) (k',.int j)=RY (.loc,.int (i * j)):=by show(xR i j).map _=_;rw[xR,Ú h];rfl
theorem mB(h:0<=j/\j<=1000000/\i.natAbs<2 ^ 64):Fc .pow (k,.int i) (k',.int j)=RY (.loc,.int (i ^ j.toNat)):=by show(xU i j).map _=_;rw[xU,Ú h];rfl
theorem dB:Fc .add (k,.int i) (k',.int j)=RY (.loc,.int (i+j)):=rfl
theorem aV(h:D8 xs i=RY u):fe (k,.lst xs) (.int i)=RY (kE k,u):=by show(D8 xs i).map _=_;rw[h];rfl
theorem mH(h:D8 xs i=RY u):fe (k,.tup xs) (.int i)=RY (kE k,u):=by show(D8 xs i).map _=_;rw[h];rfl
theorem sv:Kd.own≠Kd.B':=by decide
local macro_rules
 |`(tactic| sizeOf_list_dec)=>`(tactic| first|exact aF|apply aq|apply iT|apply bP|exact ar|exact ae rfl|exact aZ rfl|exact ak rfl|apply bA|apply iP|apply bo|apply eh|apply aM|apply sr|apply bj|exact ag|apply ab|apply km|apply bX|exact aN|apply aK|exact aP|exact v7|(first|exact trivial|exact⟨⟨_,rfl,rfl⟩,trivial⟩|exact⟨⟨_,rfl,rfl⟩,⟨_,rfl,rfl⟩,trivial⟩)|exact dB|exact p9|exact bw (by first|omega|decide)|exact qS (by first|omega|decide)|exact mz (by first|omega|decide)|exact mB (by decide)|exact aE|exact aS|exact iR|exact du|exact iS|exact l0 rfl|exact SM _|exact rfl|exact sv)
def qT(c k:Int):Int:=((c % 10 ^ 15+1) * 48271+k * k * 16807+k * 7919) % 2147483647 * 69621 % 2147483629
def tZ:Fn:=⟨"_law_mix",2,3,[.set 2 (.bin .add (.bin .add (.bin .mul (.bin .add (.bin .mod (.var 0) (.bin .pow (.cst (.int 10)) (.cst (.int 15)))) (.cst (.int 1))) (.cst (.int 48271))) (.bin .mul (.bin .mul (.var 1) (.var 1)) (.cst (.int 16807)))) (.bin .mul (.var 1) (.cst (.int 7919)))),.ret (.bin .mod (.bin .mul (.bin .mod (.var 2) (.cst (.int 2147483647))) (.cst (.int 69621))) (.cst (.int 2147483629)))]⟩
theorem yI(h0:0<=k)(h1:k<2 ^ 63):bC Γ tZ [.int c,.int k]=RY (.ok (.loc,.int (qT c k))):=by
 apply aD (st0:=[RY (.loc,.int c),RY (.loc,.int k),R3]) rfl (.inr rfl) rfl
 repeat' sizeOf_list_dec
def sy:Fn:=⟨"_law_cell",2,3,[.ite (.cmp .lt (.var 1) (.bi .len [.var 0])) [.ret (.idx (.var 0) (.var 1))] [],.set 2 (.cst (.int 0)),.ite (.cmp .gt (.bi .len [.var 0]) (.cst (.int 0))) [.set 2 (.idx (.var 0) (.bin .mod (.var 1) (.bi .len [.var 0])))] [],.ret (.bin .add (.bin .mul (.cst (.int 2)) (.call "_law_mix" [.var 2,.var 1])) (.cst (.int 1)))]⟩
def wc(Γ:Tab):Prop:=∀c k:Int,0<=k->k<2 ^ 63->Γ "_law_mix" [.int c,.int k]=RY (.ok (.loc,.int (qT c k)))
theorem wd(h:Sa (i<j)=c):a5 .lt (.int i) (.int j)=RY c:=by subst h;rfl
theorem pe(h:Sa (j<i)=c):a5 .gt (.int i) (.int j)=RY c:=by subst h;rfl
theorem eu(h:(i==j)=c):a5 .eq (.int i) (.int j)=RY c:=by subst h;rfl
theorem yJ:Fd .len [(k,.tup xs)]=RY (.loc,.int (xs.length:Nat)):=rfl
def zv(ns:List Int)(k:Nat):Int:=if k<ns.length then(ns[k]?).getD 0 else 2 * qT ((ns[k % ns.length]?).getD 0) k+1
theorem we(hΓ:wc Γ){k:Nat}(hk:k<2 ^ 62):bC Γ sy [.lst (ns.map .int),.int k]=RY (.ok (.loc,.int (zv ns k))):=by
 have hm:∀c,Γ "_law_mix" [.int c,.int k]=RY (.ok (.loc,.int (qT c k))):=λc=>hΓ c k ⋯ ⋯;unfold zv;by_cases h:k<ns.length
 ·rw[Ú h];have ha:D8 (ns.map U.int) (k:Int)=RY (.int ((ns[k]?).getD 0)):=cc (by simp[h]);apply aD (st0:=[RY (.any,.lst (ns.map .int)),RY (.loc,.int k),R3]) rfl (.inr rfl) rfl;apply Bk
  all_goals repeat' (first|exact wd (by simp[h])|exact aV ha|exact CU rfl|sizeOf_list_dec)
 ·rw[Ü h];have D2:a5 .lt (.int k) (.int ((ns.map U.int).length:Nat))=RY R5:=wd (by simp;omega);by_cases hz:0<ns.length
  ·have hi:k % ns.length<ns.length:=XC _ hz;have ha:D8 (ns.map U.int) ((k:Int) % ((ns.map U.int).length:Nat))=RY (.int ((ns[k % ns.length]?).getD 0)):=by
    rw[R9,show(k:Int) % (ns.length:Nat)=((k % ns.length:Nat):Int) by omega];exact cc (by simp[hi])
   have hp:(0:Int)<((ns.map U.int).length:Nat):=by simp;omega
   apply aD (st0:=[RY (.any,.lst (ns.map .int)),RY (.loc,.int k),R3]) rfl (.inr rfl) rfl;apply bO
   all_goals repeat' (first|exact D2|sizeOf_list_dec)
   apply ei
   all_goals repeat' (first|exact pe (by simp;omega)|exact bw hp|exact aV ha|exact hm _|sizeOf_list_dec)
  ·have e:ns=[]:=List.eq_nil_of_length_eq_zero ⋯;subst e;apply aD (st0:=[RY (.any,.lst ([].map .int)),RY (.loc,.int k),R3]) rfl (.inr rfl) rfl;apply bO
   all_goals repeat' (first|exact D2|sizeOf_list_dec)
   apply bO
   all_goals repeat' (first|exact hm _|sizeOf_list_dec)
def nE:Fn:=⟨"_law_drawn",2,5,[.set 2 (.lst []),.set 3 (.bin .Fs (.var 0) (.cst (.int 2))),.D1 R5 [4] .Eb [.var 1] [.ite (.cmp .eq (.bin .mod (.var 0) (.cst (.int 2))) (.cst (.int 0))) [.app 2 (.bin .mod (.var 3) (.cst (.int 64))),.set 3 (.bin .Fs (.var 3) (.cst (.int 64)))] [.app 2 (.bin .mod (.bin .Fs (.call "_law_mix" [.var 0,.var 4]) (.cst (.int 7))) (.cst (.int 4096)))]],.ret (.var 2)]⟩
theorem pf(x:Kd×U):Fu .Eb [x]=tL x:=rfl
theorem ku(h:n<2 ^ 62):Fu .Eb [(k,.int (n:Nat))]=RY ((Sl n).map λi:Nat=>(Kd.loc,U.int (0+(i:Int)))):=by
 rw[pf,tL,Ú ⋯,TY]
def dS(n:Nat)(xs:List (Kd×U)):Prop:=∃i,i<=n/\xs=((Sl n).drop i).map λi:Nat=>(Kd.loc,U.int (0+(i:Int)))
theorem dS.cons(h:dS n (x::xs)):∃i:Nat,i<n/\x=(.loc,.int (i:Nat))/\dS n xs/\i+xs.length+1=n:=by
 obtain⟨i,hi,e⟩:=h;by_cases EH:i<n
 ·rw[U3 (by simpa using EH),Sd]at e;cases e;refine⟨i,EH,by simp,⟨i+1,EH,rfl⟩,by simp;omega⟩
 ·rw[XX (by simp;omega)]at e;cases e
theorem dS.all(n:Nat):dS n ((Sl n).map λi:Nat=>(Kd.loc,U.int (0+(i:Int)))):=⟨0,SM _,rfl⟩
theorem t5(hΓ:wc Γ)(hn:n<1000):∃ds:List Int,ds.length=n/\(∀d∈ds,0<=d)/\bC Γ nE [.int c,.int n]=RY (.ok (.own,.lst (ds.map .int))):=by
 have hsz:(1000:Nat)<=R6:=by decide
 let I:List (Kd×U)->aj->Prop:=λxs st=>∃(ds:List Int) (us:List U) (left:Int) (o:Option (Kd×U)),st=[RY (.loc,.int c),RY (.loc,.int n),RY (.own,.lst us),RY (.loc,.int left),o]/\us=ds.map .int/\(∀d∈ds,0<=d)/\ds.length+xs.length=n/\dS n xs;have loop:=o_ (t:=R5) (is:=[4]) (body:=execs Γ [.ite (.cmp .eq (.bin .mod (.var 0) (.cst (.int 2))) (.cst (.int 0)))
    [.app 2 (.bin .mod (.var 3) (.cst (.int 64))),
    .set 3 (.bin .Fs (.var 3) (.cst (.int 64)))]
    [.app 2 (.bin .mod (.bin .Fs (.call "_law_mix" [(.var 0),(.var 4)]) (.cst (.int 7))) (.cst (.int 4096)))]]) (rs:=[(.loc,.int n)]) I (λ_ _ _=>trivial) (λx xs st D4=>by
  obtain⟨ds,us,left,o,e,e2,h0,hl,hr⟩:=D4;subst e;have OB:us.length=ds.length:=by rw[e2];simp
  obtain⟨i,hi,rfl,ES,hlen⟩:=hr.cons;have hm:Γ "_law_mix" [.int c,.int i]=RY (.ok (.loc,.int (qT c i))):=hΓ c i ⋯ ⋯;rw[SE]at hl;by_cases hc:c % 2=0
  ·refine⟨[RY (.loc,.int c),RY (.loc,.int n),RY (.own,.lst us),RY (.loc,.int left),RY (.loc,.int i)],[RY (.loc,.int c),RY (.loc,.int n),RY (.own,.lst (us++[.int (left % 64)])),RY (.loc,.int (left / 64)),RY (.loc,.int i)],aE,?_,⟨ds++[left % 64],_,left / 64,_,rfl,by simp[e2],?_,by simp;omega,ES⟩⟩
   ·apply ei
    all_goals repeat' (first|exact eu (by simp[hc])|exact(by rw[OB];omega)|sizeOf_list_dec)
   ·intro d hd;rcases SA.mp hd with z|z
    ·exact h0 d z
    ·rw[SX.mp z];omega
  ·refine⟨[RY (.loc,.int c),RY (.loc,.int n),RY (.own,.lst us),RY (.loc,.int left),RY (.loc,.int i)],[RY (.loc,.int c),RY (.loc,.int n),RY (.own,.lst (us++[.int (qT c i / 7 % 4096)])),RY (.loc,.int left),RY (.loc,.int i)],aE,?_,⟨ds++[qT c i / 7 % 4096],_,left,_,rfl,by simp[e2],?_,by simp;omega,ES⟩⟩
   ·apply bO
    all_goals repeat' (first|exact eu (by simp[hc])|exact hm|exact(by rw[OB];omega)|sizeOf_list_dec)
   ·intro d hd;rcases SA.mp hd with z|z
    ·exact h0 d z
    ·rw[SX.mp z];omega)
 obtain⟨st',DY,ds,us,left,o,e,e2,h0,hl,_⟩:=loop ((Sl n).map λi:Nat=>(Kd.loc,U.int (0+(i:Int)))) [RY (.loc,.int c),RY (.loc,.int n),RY (.own,.lst []),RY (.loc,.int (c / 2)),R3] ⟨[],[],c / 2,R3,rfl,rfl,by simp,by simp,dS.all n⟩;subst e e2;refine⟨ds,by simpa using hl,h0,?_⟩;apply aD (st0:=[RY (.loc,.int c),RY (.loc,.int n),R3,R3,R3]) rfl (.inl rfl) rfl
 repeat' sizeOf_list_dec
 have hit:=ku (k:=.loc) (n:=n) ⋯;refine' cM (rs:=[(.loc,.int n)]) (st1:=[RY (.loc,.int c),RY (.loc,.int n),RY (.own,.lst []),RY (.loc,.int (c / 2)),R3]) _ trivial hit rfl DY _
 all_goals repeat' sizeOf_list_dec
end TM
local macro_rules
 |`(tactic| sizeOf_list_dec)=>`(tactic| first|exact TM.aF|apply TM.aq|apply TM.iT|apply TM.bP|exact TM.ar|exact TM.ae rfl|exact TM.aZ rfl|exact TM.ak rfl|apply TM.bA|apply TM.iP|apply TM.bo|apply TM.eh|apply TM.aM|apply TM.sr|apply TM.bj|exact TM.ag|apply TM.ab|apply TM.km|apply TM.bX|exact TM.aN|apply TM.aK|exact TM.aP|exact TM.v7|(first|exact trivial|exact⟨⟨_,rfl,rfl⟩,trivial⟩|exact⟨⟨_,rfl,rfl⟩,⟨_,rfl,rfl⟩,trivial⟩)|exact TM.dB|exact TM.p9|exact TM.bw (by first|omega|decide)|exact TM.qS (by first|omega|decide)|exact TM.mz (by first|omega|decide)|exact TM.mB (by decide)|exact TM.aE|exact TM.aS|exact TM.iR|exact TM.du|exact TM.iS|exact TM.l0 rfl|exact SM _|exact rfl|exact TM.sv)
namespace TM
open PySem L2 D6
theorem sA(h0:0<=z)(h:z<2 ^ 62):Fu .Eb [(k,.int z)]=RY ((Sl z.toNat).map λi:Nat=>(Kd.loc,U.int (0+(i:Int)))):=by
 rw[pf,tL,Ú ⋯]
theorem jC(hx:x.length<=R6)(h:D8 x.cps.toList i=RY c):fe (k,.str x) (.int i)=RY (.loc,.str (D6.one c)):=by
 simp only[fe];rw[Ú hx,h];rfl
theorem kA:small.length<=R6:=by decide
theorem cj{ds:List Int}(h:i<ds.length):D8 (ds.map U.int) (i:Int)=RY (.int ((ds[i]?).getD 0)):=cc (by simp[h])
theorem cY:∀(ss:List Str),strsOf (ss.map U.str)=RY ss
 |[]=>rfl
 |s::ss=>by show(strsOf (ss.map U.str)).map (s::·)=_;rw[cY ss];rfl
def nF(md:E):Fn:=⟨"_law_name",2,6,[.set 2 (.cst (.str "abcdefghijklmnopqrstuvwxyz")),.set 3 (.F_ .join (.cst (.str "")) [.comp 1 R5 .Eb [.bin .add (.cst (.int 1)) (.bin .mod (.idx (.var 0) (.cst (.int 0))) (.cst (.int 8)))] [] (.idx (.var 3) (.bin .mod (.idx (.var 1) (.bin .add (.cst (.int 4)) (.var 0))) (.cst (.int 26))))]),.ite (.cmp .gt (.bi .len [.var 1]) (.cst (.int 0))) [.set 4 (.idx (.F_ .split (.idx (.var 1) (.bin .mod (.idx (.var 0) (.cst (.int 1))) (.bi .len [.var 1]))) [.cst (.str "/")]) (.cst (.int 0))),.ite (.cmp .eq (.bin .mod (.idx (.var 0) (.cst (.int 2))) (.cst (.int 4))) (.cst (.int 1))) [.set 3 (.FD (.bin .add (.var 4) (.var 3)) [] [.cst (.int 8)])] [],.ite (.cmp .eq (.bin .mod (.idx (.var 0) (.cst (.int 2))) (.cst (.int 4))) (.cst (.int 2))) [.set 3 (.bin .add (.bin .add (.var 4) (.cst (.str "/"))) (.bi .str [.bin .add (.cst (.int 2)) (.bin .mod (.idx (.var 0) (.cst (.int 3))) md)]))] []] [],.set 5 (.bin .add (.lst [.var 3]) (.comp 1 R5 .Eb [.cst (.int 40)] [] (.bin .add (.idx (.var 3) (.bin .Fs (.var 0) (.cst (.int 26)))) (.idx (.var 3) (.bin .mod (.var 0) (.cst (.int 26))))))),.ret (.idx (.comp 1 R5 .seq [.var 5] [.cmp .DM (.var 0) (.var 2)] (.var 0)) (.cst (.int 0)))]⟩
def yK(md:E):Prop:=∀(Γ:Tab) (ds:List Int),ds.length=12->(∀d∈ds,0<=d)->∃m:Int,0<m/\m<=98/\∀o1 o2 o3 o4 o5,Run (ev Γ md) [RY (.any,.lst (ds.map .int)),o1,o2,o3,o4,o5] (.loc,.int m) [RY (.any,.lst (ds.map .int)),o1,o2,o3,o4,o5]
section
variable{Γ:Tab}{ds:List Int}
def dd(ds:List Int)(i:Nat):Int:=(ds[i]?).getD 0
theorem eQ(h0:∀d∈ds,0<=d)(i:Nat):0<=dd ds i:=by
 unfold dd;cases e:ds[i]? with
 |none=>simp
 |some d=>exact h0 d (SY e)
theorem nG(hd:ds.length=12)(h0:∀d∈ds,0<=d):∃cs:List Nat,(∀c∈cs,low c=R4)/\1<=cs.length/\cs.length<=8 /\
  Run (ev Γ (.comp 1 R5 .Eb [.bin .add (.cst (.int 1)) (.bin .mod (.idx (.var 0) (.cst (.int 0))) (.cst (.int 8)))] [] (.idx (.var 3) (.bin .mod (.idx (.var 1) (.bin .add (.cst (.int 4)) (.var 0))) (.cst (.int 26))))))
   [RY (.any,.lst (ds.map .int)),o1,RY (.loc,.str small),o3,o4,o5] (.own,.lst ((cs.map D6.one).map .str)) [RY (.any,.lst (ds.map .int)),o1,RY (.loc,.str small),o3,o4,o5]:=by
 have hz:=eQ h0 0;let n:=(1+dd ds 0 % 8).toNat;have hn:n<=8/\1<=n:=by show(1+dd ds 0 % 8).toNat<=8/\1<=(1+dd ds 0 % 8).toNat;omega
 let f:Nat->Nat:=λi=>97+(dd ds (4+i) % 26).toNat;refine⟨(Sl n).map f,?_,by simp;exact hn.2,by simp;exact hn.1,?_⟩
 ·intro c hc;obtain⟨i,_,rfl⟩:=So.mp hc;have:=eQ h0 (4+i);exact qM ⋯
 ·have hx:Run (bz 1 R5 (aQ Γ []) (ev Γ (.idx (.var 3) (.bin .mod (.idx (.var 1) (.bin .add (.cst (.int 4)) (.var 0))) (.cst (.int 26))))) [(.loc,.int (1+dd ds 0 % 8))] ((Sl n).map λi:Nat=>(Kd.loc,U.int (0+(i:Int)))) [])
    [RY (.any,.lst (ds.map .int)),o1,RY (.loc,.str small),o3,o4,o5] ([]++((Sl n).map λi:Nat=>(Kd.loc,U.int (0+(i:Int)))).map λx=>match x.2 with|.int j=>.str (D6.one (97+(dd ds (4+j.toNat) % 26).toNat))|u=>u) [RY (.any,.lst (ds.map .int)),o1,RY (.loc,.str small),o3,o4,o5]:=by
   have h8:(8:Nat)<=R6:=by decide
   refine wb (by exact trivial) _ (λ_=>.loc) _ _ (by simp;omega) (λx hx=>?_) (λx hx=>?_)
   ·obtain⟨i,_,rfl⟩:=So.mp hx;exact .inl rfl
   ·obtain⟨i,hi,rfl⟩:=So.mp hx;have FA:i<n:=by simpa using hi
    have ha:D8 (ds.map U.int) (4+(0+(i:Int)))=RY (.int (dd ds (4+i))):=by
     rw[show(4+(0+(i:Int)))=((4+i:Nat):Int) by omega];exact cj ⋯
    have Lu:=eQ h0 (4+i);have hs:=kl (k:=dd ds (4+i) % 26) ⋯ ⋯;refine⟨fq,?_,aP⟩;simp only[WY,TY];rw[WY]at ha
    repeat' (first|exact aV ha|exact jC kA hs|sizeOf_list_dec)
  have e:((Sl n).map f).map D6.one=(Sl n).map λi=>D6.one (97+(dd ds (4+i) % 26).toNat):=by rw[Sx];rfl
  rw[e];have e2:([]++((Sl n).map λi:Nat=>(Kd.loc,U.int (0+(i:Int)))).map λx=>match x.2 with|.int j=>U.str (D6.one (97+(dd ds (4+j.toNat) % 26).toNat))|u=>u)=((Sl n).map λi=>D6.one (97+(dd ds (4+i) % 26).toNat)).map U.str:=by
   rw[Sz,Sx,Sx];apply Tf;intro i _;simp
  rw[e2]at hx;refine b8 (rs:=[(.loc,.int (1+dd ds 0 % 8))]) ?_ trivial (sA ⋯ ⋯) hx
  repeat' (first|exact aV (cj (i:=0) ⋯)|sizeOf_list_dec)
theorem jn(h:x.length+y.length<=R6):Fc .add (k,.str x) (k',.str y)=RY (.loc,.str (x++y)):=by
 simp only[Fc,qt];rw[Ú h]
theorem dU:∀(ss:List Str) (n:Nat),bY n (ss.map U.str)=R4
 |[],n=>by simp[bY]
 |s::ss,n=>by simp only[Sd,bY,dU ss n,Wx];cases n<;>rfl
theorem ph(x:Str):∀(ss:List Str),((ss.map U.str).any λy=>bx y (.str x))=Sa (x∈ss)
 |[]=>by simp
 |s::ss=>by
  rw[Sd,Ww,ph x ss];have:bx (.str s) (.str x)=Sa (x=s):=by
   simp only[bx];by_cases h:x=s
   ·subst h;simp
   ·have h':s≠x:=λz=>h z.symm;simp[h,h']
  rw[this,Uo];simp
theorem yL(x:Str)(ss:List Str):Ir (.str x) (ss.map U.str)=RY (Sa (x∈ss)):=by
 unfold Ir;rw[Ú ⟨by rfl,dU ss 50⟩,ph]
theorem ft{x:Str}{ss:List Str}:a5 .DM (.str x) (.lst (ss.map U.str))=RY (Sa (x∉ss)):=by
 show(Ir (.str x) (ss.map U.str)).map (!·)=_;rw[yL];simp
theorem pj:Run (ev Γ (.comp 1 R5 .Eb [.cst (.int 40)] [] (.bin .add (.idx (.var 3) (.bin .Fs (.var 0) (.cst (.int 26)))) (.idx (.var 3) (.bin .mod (.var 0) (.cst (.int 26)))))))
   [o0,o1,RY (.loc,.str small),o3,o4,o5] (.own,.lst (bN.map .str)) [o0,o1,RY (.loc,.str small),o3,o4,o5]:=by
 have h8:(100:Nat)<=R6:=by decide
 have hx:Run (bz 1 R5 (aQ Γ []) (ev Γ (.bin .add (.idx (.var 3) (.bin .Fs (.var 0) (.cst (.int 26)))) (.idx (.var 3) (.bin .mod (.var 0) (.cst (.int 26)))))) [(.loc,.int 40)] ((Sl 40).map λi:Nat=>(Kd.loc,U.int (0+(i:Int)))) [])
   [o0,o1,RY (.loc,.str small),o3,o4,o5] ([]++((Sl 40).map λi:Nat=>(Kd.loc,U.int (0+(i:Int)))).map λx=>match x.2 with|.int j=>.str (lZ j.toNat)|u=>u) [o0,o1,RY (.loc,.str small),o3,o4,o5]:=by
  refine wb (by exact trivial) _ (λ_=>.loc) _ _ (by simp;omega) (λx hx=>?_) (λx hx=>?_)
  ·obtain⟨i,_,rfl⟩:=So.mp hx;exact .inl rfl
  ·obtain⟨i,hi,rfl⟩:=So.mp hx;have FA:i<40:=by simpa using hi
   refine⟨fq,?_,aP⟩;simp only[WY,TY];have h1:=kl (k:=(i:Int) / 26) ⋯ ⋯;have h2:=kl (k:=(i:Int) % 26) ⋯ ⋯;have e1:((i:Int) / 26).toNat=i / 26:=by omega
   have e2:((i:Int) % 26).toNat=i % 26:=by omega
   rw[e1]at h1;rw[e2]at h2;have ad:Fc .add (.loc,.str (D6.one (97+i / 26))) (.loc,.str (D6.one (97+i % 26)))=RY (.loc,.str (lZ i)):=by
    have:=jn (k:=.loc) (k':=.loc) (x:=D6.one (97+i / 26)) (y:=D6.one (97+i % 26)) (by show 1+1<=R6;omega);rw[this];rfl
   repeat' (first|exact jC kA h1|exact jC kA h2|exact ad|sizeOf_list_dec)
 have e2:([]++((Sl 40).map λi:Nat=>(Kd.loc,U.int (0+(i:Int)))).map λx=>match x.2 with|.int j=>U.str (lZ j.toNat)|u=>u)=bN.map U.str:=by
  rw[Sz,Sx,bN,Sx];apply Tf;intro i _;simp
 rw[e2]at hx;exact b8 (rs:=[(.loc,.int 40)]) (by repeat' sizeOf_list_dec) trivial (sA ⋯ ⋯) hx
theorem t6{names ts:List Str}(hl:ts.length<=1000):Run (ev Γ (.comp 1 R5 .seq [.var 5] [.cmp .DM (.var 0) (.var 2)] (.var 0)))
   [o0,RY (.any,.lst (names.map .str)),o2,o3,o4,RY (.own,.lst (ts.map .str))] (.own,.lst ((ts.filter λx=>Sa (x∉names)).map .str)) [o0,RY (.any,.lst (names.map .str)),o2,o3,o4,RY (.own,.lst (ts.map .str))]:=by
 have h8:(1000:Nat)<=R6:=by decide
 have hx:=kr (cond:=aQ Γ [.cmp .DM (.var 0) (.var 2)]) (elt:=ev Γ (.var 0)) (src:=[(.bor 5,.lst (ts.map .str))]) (st:=[o0,RY (.any,.lst (names.map .str)),o2,o3,o4,RY (.own,.lst (ts.map .str))]) ⟨⟨.own,rfl,rfl⟩,trivial⟩
  (λx=>match x.2 with|.str y=>Sa (y∉names)|_=>R5) (λx=>x.2) (λ_=>.loc) ((ts.map U.str).map λu=>(kE (.bor 5),u)) [] (by simp;omega) (λx hx=>by obtain⟨u,_,rfl⟩:=So.mp hx;exact .inl rfl) (λx hx=>by
   obtain⟨u,hu,rfl⟩:=So.mp hx;obtain⟨y,_,rfl⟩:=So.mp hu;refine⟨cO ?_,ae rfl,aP⟩
   repeat' (first|exact ft|sizeOf_list_dec))
 have e:([]++(((ts.map U.str).map λu=>(kE (.bor 5),u)).filter λx=>match x.2 with|.str y=>Sa (y∉names)|_=>R5).map λx=>x.2)=(ts.filter λx=>Sa (x∉names)).map U.str:=by
  rw[Sz,Y_,Y_,Sx,Sx];rfl
 rw[e]at hx;exact b8 (rs:=[(.bor 5,.lst (ts.map .str))]) (by repeat' sizeOf_list_dec) ⟨⟨.own,rfl,rfl⟩,trivial⟩ rfl hx
end
section
variable{Γ:Tab}{ds:List Int}
theorem t7{names:List Str}(hn:names.length<40)(Kl:a9 x0.cps.toList):∃x st',a9 x.cps.toList/\x∉names /\
  Run (execs Γ [.set 5 (.bin .add (.lst [.var 3]) (.comp 1 R5 .Eb [.cst (.int 40)] [] (.bin .add (.idx (.var 3) (.bin .Fs (.var 0) (.cst (.int 26)))) (.idx (.var 3) (.bin .mod (.var 0) (.cst (.int 26))))))),
  .ret (.idx (.comp 1 R5 .seq [(.var 5)] [(.cmp .DM (.var 0) (.var 2))] (.var 0)) (.cst (.int 0)))]) [o0,RY (.any,.lst (names.map .str)),RY (.loc,.str small),RY (.loc,.str x0),o4,R3] (.rt .loc (.str x)) st':=by
 have h8:(1000:Nat)<=R6:=by decide
 obtain⟨y,hy,QT⟩:=qO names hn;have Ez:(x0::bN).filter (λx=>Sa (x∉names))≠[]:=λz=>by
  have:y∈(x0::bN).filter (λx=>Sa (x∉names)):=T'.mpr ⟨SS _ hy,by simpa using QT⟩;rw[z]at this;cases this
 cases e:(x0::bN).filter (λx=>Sa (x∉names)) with
 |nil=>exact absurd e Ez
 |cons x rest =>
  have hx:x∈(x0::bN).filter (λx=>Sa (x∉names)):=by rw[e];simp
  obtain⟨QU,QV⟩:=T'.mp hx;have fr:=t6 (Γ:=Γ) (names:=names) (ts:=x0::bN) (by simp[bN]) (o0:=o0) (o2:=RY (.loc,.str small)) (o3:=RY (.loc,.str x0)) (o4:=o4);rw[e]at fr;have ad:Fc .add (.own,.lst [.str x0]) (.own,.lst (bN.map U.str))=RY (.own,.lst ((x0::bN).map U.str)):=by
   simp only[Fc,qt];rw[Ú ⟨by simp[bN];omega,rfl,rfl⟩];rfl
  refine⟨x,[o0,RY (.any,.lst (names.map .str)),RY (.loc,.str small),RY (.loc,.str x0),o4,RY (.own,.lst ((x0::bN).map .str))],?_,by simpa using QV,?_⟩
  ·rcases Sn.mp QU with rfl|h
   ·exact Kl
   ·obtain⟨k,hk,rfl⟩:=So.mp h;exact .inl (qN (by simpa using hk))
  ·refine aq (st2:=[o0,RY (.any,.lst (names.map .str)),RY (.loc,.str small),RY (.loc,.str x0),o4,RY (.own,.lst ((x0::bN).map .str))]) (bA (x:=(.own,.lst [.str x0])) (bX (ab (ae rfl) ag) (by(first|exact trivial|exact⟨⟨_,rfl,rfl⟩,trivial⟩|exact⟨⟨_,rfl,rfl⟩,⟨_,rfl,rfl⟩,trivial⟩)) (aK aP aN) (by show 1<=R6;omega)) pj trivial ad) aS ?_;refine bP (bo fr ar trivial (aV (by show D8 _ ((0:Nat):Int)=_;exact cc rfl))) du
theorem wg(Km:yK md)(hd:ds.length=12)(h0:∀d∈ds,0<=d){names:List Str}(hn:names.length<40)(hw:∀x∈names,a9 x.cps.toList):
  ∃x,a9 x.cps.toList/\x∉names/\bC Γ (nF md) [.lst (ds.map .int),.lst (names.map .str)]=RY (.ok (.loc,.str x)):=by
 obtain⟨m,JI,RN,QW⟩:=Km Γ ds hd h0;have h8:(1000:Nat)<=R6:=by decide
 obtain⟨cs,Ko,QX,OC,Kp⟩:=nG (Γ:=Γ) hd h0 (o1:=RY (.any,.lst (names.map .str))) (o3:=R3) (o4:=R3) (o5:=R3);have Kq:iw .join (.str "") [(.own,.lst ((cs.map D6.one).map U.str))]=RY (.loc,.str (WT S5 (cs.map D6.one))):=by
  show(strsOf ((cs.map D6.one).map U.str)).bind _=_;rw[cY];show(if Zq S5 (cs.map D6.one)=R4 then _ else _)=_;rw[Ú (oV cs ⋯)];rfl
 let x0:Str:=WT S5 (cs.map D6.one);have Kl:x0.cps.toList=cs:=join_ones cs;have EI:eL x0.cps.toList=R4:=by rw[Kl];exact iO Ko QX OC
 have OD:x0.length<=8:=by rw[len_list,Kl];exact OC
 have head:∀{f:Fl} {st':aj} (ss:List S),Run (execs Γ ss) [RY (.any,.lst (ds.map .int)),RY (.any,.lst (names.map .str)),RY (.loc,.str small),RY (.loc,.str x0),R3,R3] f st' ->
   Run (execs Γ (.set 2 (.cst (.str "abcdefghijklmnopqrstuvwxyz"))::.set 3 (.F_ .join (.cst (.str "")) [.comp 1 R5 .Eb [.bin .add (.cst (.int 1)) (.bin .mod (.idx (.var 0) (.cst (.int 0))) (.cst (.int 8)))] [] (.idx (.var 3) (.bin .mod (.idx (.var 1) (.bin .add (.cst (.int 4)) (.var 0))) (.cst (.int 26))))])::ss))
    [RY (.any,.lst (ds.map .int)),RY (.any,.lst (names.map .str)),R3,R3,R3,R3] f st':=λss h=>aq (r:=(.loc,.str small)) ar aE (aq (sr ar (ab Kp ag) (by(first|exact trivial|exact⟨⟨_,rfl,rfl⟩,trivial⟩|exact⟨⟨_,rfl,rfl⟩,⟨_,rfl,rfl⟩,trivial⟩)) Kq) aE h)
 have mid:∀(x1:Str) (o4:Option (Kd×U)),a9 x1.cps.toList->∃x st',a9 x.cps.toList/\x∉names/\Run (execs Γ [.set 5 (.bin .add (.lst [.var 3]) (.comp 1 R5 .Eb [.cst (.int 40)] [] (.bin .add (.idx (.var 3) (.bin .Fs (.var 0) (.cst (.int 26)))) (.idx (.var 3) (.bin .mod (.var 0) (.cst (.int 26))))))),
  .ret (.idx (.comp 1 R5 .seq [(.var 5)] [(.cmp .DM (.var 0) (.var 2))] (.var 0)) (.cst (.int 0)))]) [RY (.any,.lst (ds.map .int)),RY (.any,.lst (names.map .str)),RY (.loc,.str small),RY (.loc,.str x1),o4,R3] (.rt .loc (.str x)) st':=λx1 o4 h1=>t7 hn h1
 by_cases hz:0<names.length
 ·
  have hi:(dd ds 1).toNat % names.length<names.length:=XC _ hz;let nm:=names[(dd ds 1).toNat % names.length]'hi;have GR:a9 nm.cps.toList:=hw _ (Vn hi);obtain⟨y,r,FV,DS⟩:=GR.aX;have Ll:y.length<=8:=by rw[len_list];exact((bV _).mp DS).2.1
  have G7:nm.length<=11:=by rw[len_list];exact GR.len.2
  have K8:=eQ h0 1;have EY:D8 (names.map U.str) (dd ds 1 % ((names.map U.str).length:Nat))=RY (.str nm):=by
   rw[R9,show dd ds 1 % (names.length:Nat)=(((dd ds 1).toNat % names.length:Nat):Int) by rw[Int.natCast_emod,Ub K8]];exact cc (by simp[hi];rfl)
  have IG:iw .split (.str nm) [(.loc,.str "/")]=RY (.own,.lst ((y::r).map U.str)):=by
   show(if (VI "/"==0)=R5/\nm.length+2<=R6 then RY (Kd.own,U.lst ((UH nm "/").map .str)) else R3)=_;rw[Ú ⟨by decide,⋯⟩,show("/":Str)=fZ from rfl,FV]
  have hp:(0:Int)<((names.map U.str).length:Nat):=by simp;omega
  have QY:fe (.own,.lst ((y::r).map U.str)) (.int 0)=RY (.loc,.str y):=aV (by show D8 _ ((0:Nat):Int)=_;exact cc rfl);have hd2:=eQ h0 2;have N4:=eQ h0 3;have i1:D8 (ds.map U.int) 1=RY (.int (dd ds 1)):=cj (i:=1) ⋯;have i2:D8 (ds.map U.int) 2=RY (.int (dd ds 2)):=cj (i:=2) ⋯;have i3:D8 (ds.map U.int) 3=RY (.int (dd ds 3)):=cj (i:=3) ⋯;have go:∀x1:Str,a9 x1.cps.toList->Run (execs Γ [.ite (.cmp .eq (.bin .mod (.idx (.var 0) (.cst (.int 2))) (.cst (.int 4))) (.cst (.int 1)))
    [.set 3 (.FD (.bin .add (.var 4) (.var 3)) [] [.cst (.int 8)])]
    [],
   .ite (.cmp .eq (.bin .mod (.idx (.var 0) (.cst (.int 2))) (.cst (.int 4))) (.cst (.int 2)))
    [.set 3 (.bin .add (.bin .add (.var 4) (.cst (.str "/"))) (.bi .str [.bin .add (.cst (.int 2)) (.bin .mod (.idx (.var 0) (.cst (.int 3))) md)]))]
    []]) [RY (.any,.lst (ds.map .int)),RY (.any,.lst (names.map .str)),RY (.loc,.str small),RY (.loc,.str x0),RY (.loc,.str y),R3] .nx [RY (.any,.lst (ds.map .int)),RY (.any,.lst (names.map .str)),RY (.loc,.str small),RY (.loc,.str x1),RY (.loc,.str y),R3] ->
    ∃x,a9 x.cps.toList/\x∉names/\bC Γ (nF md) [.lst (ds.map .int),.lst (names.map .str)]=RY (.ok (.loc,.str x)):=λx1 h1 hr=>by
   obtain⟨x,st',a1,a2,a3⟩:=mid x1 (RY (.loc,.str y)) h1;refine⟨x,a1,a2,aD (st0:=[RY (.any,.lst (ds.map .int)),RY (.any,.lst (names.map .str)),R3,R3,R3,R3]) rfl (.inr rfl) rfl (head _ (ei (st1:=[RY (.any,.lst (ds.map .int)),RY (.any,.lst (names.map .str)),RY (.loc,.str small),RY (.loc,.str x0),R3,R3]) ?_ (aq (r:=(.loc,.str y)) (st1:=[RY (.any,.lst (ds.map .int)),RY (.any,.lst (names.map .str)),RY (.loc,.str small),RY (.loc,.str x0),R3,R3]) ?_ aE hr) a3))⟩
   ·repeat' (first|exact pe (by simp;omega)|sizeOf_list_dec)
   ·repeat' (first|exact bw hp|exact aV EY|exact aV i1|exact IG|exact QY|sizeOf_list_dec)
  have t1:∀{c:Bool} {o3 o4:Option (Kd×U)},(dd ds 2 % 4==1)=c->Run (DX Γ (.cmp .eq (.bin .mod (.idx (.var 0) (.cst (.int 2))) (.cst (.int 4))) (.cst (.int 1)))) [RY (.any,.lst (ds.map .int)),RY (.any,.lst (names.map .str)),RY (.loc,.str small),o3,o4,R3] c [RY (.any,.lst (ds.map .int)),RY (.any,.lst (names.map .str)),RY (.loc,.str small),o3,o4,R3]:=λhc=>by
   repeat' (first|exact aV i2|exact eu hc|sizeOf_list_dec)
  have t2:∀{c:Bool} {o3 o4:Option (Kd×U)},(dd ds 2 % 4==2)=c->Run (DX Γ (.cmp .eq (.bin .mod (.idx (.var 0) (.cst (.int 2))) (.cst (.int 4))) (.cst (.int 2)))) [RY (.any,.lst (ds.map .int)),RY (.any,.lst (names.map .str)),RY (.loc,.str small),o3,o4,R3] c [RY (.any,.lst (ds.map .int)),RY (.any,.lst (names.map .str)),RY (.loc,.str small),o3,o4,R3]:=λhc=>by
   repeat' (first|exact aV i2|exact eu hc|sizeOf_list_dec)
  by_cases Kr:dd ds 2 % 4=1
  ·have QZ:y.length+x0.length<=R6:=by omega
   have Kg:m7 (.loc,.str (y++x0)) R3 (RY 8)=RY (.loc,.str (PySem.StrLaws.sliceText (y++x0) R3 (RY 8))):=by
    simp only[m7];rw[Ú (by rw[len_list];show(y.cps++x0.cps).toList.length<=_;rw[Wm,Sy,<-len_list,<-len_list];omega)]
   refine go (PySem.StrLaws.sliceText (y++x0) R3 (RY 8)) (.inl ?_) ?_
   ·have:=Bi (y++x0) 8;rw[show((8:Nat):Int)=8 from rfl]at this;rw[this];show eL ((y.cps++x0.cps).toList.take 8)=R4;rw[Wm];exact tX DS (by rw[Kl];exact Ko)
   ·refine ei (t1 (by simp[Kr])) (aq (so (bA (ae rfl) (ae rfl) trivial (jn QZ)) sj (sk ar) trivial Kg) aE aF) (bO (t2 (by simp[Kr])) aF aF)
  ·by_cases IB:dd ds 2 % 4=2
   ·have MH:=VA (dd ds 3) (show m≠0 by omega);have Lj:=VL (dd ds 3) JI;have Kh:0<=2+dd ds 3 % m:=by omega
    have OE:2+dd ds 3 % m<=99:=by omega
    have Q0:=fK Kh OE;have Iw:Fd .str [(.loc,.int (2+dd ds 3 % m))]=RY (.loc,.str (il (2+dd ds 3 % m))):=by
     simp only[Fd,fR,xW];rw[Ú (by
      have:(2+dd ds 3 % m).natAbs<2 ^ 7:=by omega
      have h2:(2+dd ds 3 % m).natAbs≠0:=by omega
      have:=(Ã h2).mpr this;omega)]
     rfl
    have M9:(y++("/":Str)).length=y.length+1:=by rw[len_list,len_list];show(y.cps++_).toList.length=_;rw[Wm,Sy];rfl
    have M_:Run (ev Γ (.bin .add (.cst (.int 2)) (.bin .mod (.idx (.var 0) (.cst (.int 3))) md))) [RY (.any,.lst (ds.map .int)),RY (.any,.lst (names.map .str)),RY (.loc,.str small),RY (.loc,.str x0),RY (.loc,.str y),R3] (.loc,.int (2+dd ds 3 % m)) [RY (.any,.lst (ds.map .int)),RY (.any,.lst (names.map .str)),RY (.loc,.str small),RY (.loc,.str x0),RY (.loc,.str y),R3]:=bA ar (bA (bo (aZ rfl) ar trivial (aV i3)) (QW _ _ _ _ _) trivial (bw JI)) trivial dB;refine go (y++"/"++il (2+dd ds 3 % m)) (.inr ⟨y.cps.toList,(il (2+dd ds 3 % m)).cps.toList,2+dd ds 3 % m,?_,DS,⋯,OE,rfl⟩) ?_
    ·show((y.cps++#[47])++(il _).cps).toList=_;simp
    ·refine bO (t1 (by simp[IB])) aF (ei (t2 (by simp[IB])) (aq (bA (bA (ae rfl) ar trivial (jn (by show y.length+1<=R6;omega))) (eh (ab M_ ag) trivial Iw) trivial (jn (by rw[M9];omega))) aE aF) aF)
   ·refine go x0 (.inl EI) ?_;exact bO (t1 (by simp[Kr])) aF (bO (t2 (by simp[IB])) aF aF)
 ·obtain⟨x,st',a1,a2,a3⟩:=mid x0 R3 (.inl EI);refine⟨x,a1,a2,aD (st0:=[RY (.any,.lst (ds.map .int)),RY (.any,.lst (names.map .str)),R3,R3,R3,R3]) rfl (.inr rfl) rfl (head _ (bO (st1:=[RY (.any,.lst (ds.map .int)),RY (.any,.lst (names.map .str)),RY (.loc,.str small),RY (.loc,.str x0),R3,R3]) ?_ aF a3))⟩
  repeat' (first|exact pe (Ý (by simp only[R9];omega))|sizeOf_list_dec)
end
def kB(Γ:Tab):Prop:=∀(ns:List Int) (k:Nat),k<2 ^ 62->∃z,Γ "_law_cell" [.lst (ns.map .int),.int (k:Nat)]=RY (.ok (.loc,.int z))
def hJ(Γ:Tab):Prop:=∀(c:Int) (n:Nat),n<1000->∃ds:List Int,ds.length=n/\(∀d∈ds,0<=d)/\Γ "_law_drawn" [.int c,.int (n:Nat)]=RY (.ok (.own,.lst (ds.map .int)))
def wj(Γ:Tab):Prop:=∀(ds:List Int) (names:List Str),ds.length=12->(∀d∈ds,0<=d)->names.length<40->(∀x∈names,a9 x.cps.toList)->∃x,a9 x.cps.toList/\x∉names/\Γ "_law_name" [.lst (ds.map .int),.lst (names.map .str)]=RY (.ok (.loc,.str x))
def fNames:Fn:=⟨"_law_names",3,5,[.set 3 (.lst []),.D1 R5 [4] .Eb [.var 2] [.app 3 (.call "_law_name" [.call "_law_drawn" [.call "_law_cell" [.var 0,.bin .add (.var 1) (.var 4)],.cst (.int 12)],.var 3])],.ret (.var 3)]⟩
theorem t8(hc:kB Γ)(hd:hJ Γ)(hn:wj Γ){ns:List Int}(hb:b<1000)(hm:m<40):
    ∃names:List Str,names.length=m/\names.Nodup/\(∀x∈names,a9 x.cps.toList)/\bC Γ fNames [.lst (ns.map .int),.int (b:Nat),.int (m:Nat)]=RY (.ok (.own,.lst (names.map .str))):=by
  have hsz:(1000:Nat)<=R6:=by decide
  let I:List (Kd×U)->aj->Prop:=λxs st=>∃(names:List Str) (us:List U) (o:Option (Kd×U)),st=[RY (.any,.lst (ns.map .int)),RY (.loc,.int (b:Nat)),RY (.loc,.int (m:Nat)),RY (.own,.lst us),o]/\us=names.map .str/\names.Nodup/\(∀x∈names,a9 x.cps.toList)/\names.length+xs.length=m/\dS m xs;have loop:=o_ (t:=R5) (is:=[4]) (body:=execs Γ [.app 3 (.call "_law_name" [.call "_law_drawn" [.call "_law_cell" [.var 0,.bin .add (.var 1) (.var 4)],.cst (.int 12)],.var 3])]) (rs:=[(.loc,.int (m:Nat))]) I (λ_ _ _=>trivial) (λx xs st D4=>by
    obtain⟨names,us,o,e,e2,DW,hw,hl,hr⟩:=D4;subst e;obtain⟨i,hi,rfl,ES,hlen⟩:=hr.cons;rw[SE]at hl;obtain⟨z,hz⟩:=hc ns (b+i) ⋯;rw[Zg]at hz;obtain⟨ds,d1,d2,d3⟩:=hd z 12 ⋯;obtain⟨x,x1,x2,x3⟩:=hn ds names d1 d2 ⋯ hw;rw[<-e2]at x3;refine⟨[RY (.any,.lst (ns.map .int)),RY (.loc,.int (b:Nat)),RY (.loc,.int (m:Nat)),RY (.own,.lst us),RY (.loc,.int (i:Nat))],[RY (.any,.lst (ns.map .int)),RY (.loc,.int (b:Nat)),RY (.loc,.int (m:Nat)),RY (.own,.lst (us++[.str x])),RY (.loc,.int (i:Nat))],aE,?_,⟨names++[x],_,_,rfl,by simp[e2],?_,?_,by simp;omega,ES⟩⟩
    · repeat' (first|exact hz|exact d3|exact x3|exact(by rw[e2,R9];omega)|sizeOf_list_dec)
    · rw[SW]
      exact ⟨DW, by simp, fun y hy w G5 => by have : w = x := by simpa using G5
                                              subst this;rintro rfl;exact x2 hy⟩
    · intro y hy
      rcases SA.mp hy with h|h
      · exact hw y h
      · rw[SX.mp h];exact x1)
  obtain⟨st',DY,names,us,o,e,e2,DW,hw,hl,_⟩:=loop ((Sl m).map λi:Nat=>(Kd.loc,U.int (0+(i:Int)))) [RY (.any,.lst (ns.map .int)),RY (.loc,.int (b:Nat)),RY (.loc,.int (m:Nat)),RY (.own,.lst []),R3] ⟨[],[],R3,rfl,rfl,by simp,by simp,by simp,dS.all m⟩;subst e e2;refine⟨names,by simpa using hl,DW,hw,?_⟩;apply aD (st0:=[RY (.any,.lst (ns.map .int)),RY (.loc,.int (b:Nat)),RY (.loc,.int (m:Nat)),R3,R3]) rfl (.inl rfl) rfl
  repeat' sizeOf_list_dec
  have hit:=ku (k:=.loc) (n:=m) ⋯;refine' cM (rs:=[(.loc,.int (m:Nat))]) (st1:=[RY (.any,.lst (ns.map .int)),RY (.loc,.int (b:Nat)),RY (.loc,.int (m:Nat)),RY (.own,.lst []),R3]) _ trivial hit rfl DY _
  all_goals repeat' sizeOf_list_dec
def iU:Fn:=⟨"_law_told",2,6,[.set 2 (.bi .len [.var 1]),.ite (.and [.cmp .gt (.bin .mod (.idx (.var 0) (.cst (.int 2))) (.cst (.int 3))) (.cst (.int 0)),.cmp .gt (.bin .mod (.idx (.var 0) (.cst (.int 0))) (.bi .len [.var 1])) (.cst (.int 0))]) [.set 2 (.bin .mod (.idx (.var 0) (.cst (.int 0))) (.bi .len [.var 1]))] [],.set 3 (.lst []),.D1 R5 [4] .Eb [.idx (.lst [.cst (.int 0),.cst (.int 0),.cst (.int 1),.cst (.int 1),.cst (.int 1),.cst (.int 2),.cst (.int 2),.cst (.int 2),.cst (.int 3),.cst (.int 8)]) (.bin .mod (.idx (.var 0) (.cst (.int 1))) (.cst (.int 10)))] [.set 5 (.idx (.var 1) (.bin .mod (.idx (.var 0) (.bin .add (.cst (.int 3)) (.var 4))) (.var 2))),.ite (.cmp .DM (.var 5) (.var 3)) [.app 3 (.var 5)] []],.ret (.bi .tuple [.var 3])]⟩
theorem DH:∀j:Nat,j<10->∃q:Nat,q<=8/\D8 [U.int 0,.int 0,.int 1,.int 1,.int 1,.int 2,.int 2,.int 2,.int 3,.int 8] (j:Int)=RY (.int (q:Nat))
 |0,_=>⟨0,⋯,rfl⟩|1,_=>⟨0,⋯,rfl⟩|2,_=>⟨1,⋯,rfl⟩|3,_=>⟨1,⋯,rfl⟩|4,_=>⟨1,⋯,rfl⟩
 |5,_=>⟨2,⋯,rfl⟩|6,_=>⟨2,⋯,rfl⟩|7,_=>⟨2,⋯,rfl⟩|8,_=>⟨3,⋯,rfl⟩|9,_=>⟨8,⋯,rfl⟩
 |n+10,h=>absurd h ⋯
theorem Bl(hz:0<=z)(ht:0<t)(hl:t<=xs.length):∃x∈xs,D8 xs (z % t)=RY x:=by
 have h1:=VA z (by omega:t≠0);have h2:=VL z ht;obtain⟨j,hj⟩:=V6 h1;have Ga:j<xs.length:=by omega
 refine⟨xs[j]'Ga,Vn Ga,?_⟩;rw[hj];exact cc (by simp[Ga])
theorem sC{xs:List Str}{z t:Int}(hz:0<=z)(ht:0<t)(hl:t<=xs.length):∃x∈xs,D8 (xs.map U.str) (z % t)=RY (.str x):=by
 obtain⟨u,hu,e⟩:=Bl (xs:=xs.map U.str) hz ht (by simpa using hl);obtain⟨x,hx,rfl⟩:=So.mp hu;exact⟨x,hx,e⟩
theorem wm{Γ:Tab}{ds:List Int}{names:List Str}(hd:11<=ds.length)(h0:∀d∈ds,0<=d)(hn:0<names.length):
    ∃told:List Str,told.length<=8/\told.Nodup/\(∀x∈told,x∈names)/\bC Γ iU [.lst (ds.map .int),.lst (names.map .str)]=RY (.ok (.loc,.tup (told.map .str))):=by
  have hsz:(1000:Nat)<=R6:=by decide
  have i0:D8 (ds.map U.int) 0=RY (.int (dd ds 0)):=cj (i:=0) ⋯;have i1:D8 (ds.map U.int) 1=RY (.int (dd ds 1)):=cj (i:=1) ⋯;have i2:D8 (ds.map U.int) 2=RY (.int (dd ds 2)):=cj (i:=2) ⋯;have n0:=eQ h0 0;have n1:=eQ h0 1;have n2:=eQ h0 2;have hp:(0:Int)<((names.map U.str).length:Nat):=by simp;omega
  have hL:((names.map U.str).length:Int)=names.length:=by simp
  have JI:=VL (dd ds 0) hp;have MH:=VA (dd ds 0) (by omega:((names.map U.str).length:Int)≠0);let B:=λ(t:Int) (us:List U) (o4 o5:Option (Kd×U))=>([RY (.any,.lst (ds.map .int)),RY (.any,.lst (names.map .str)),RY (.loc,.int t),RY (.own,.lst us),o4,o5]:aj)
  have hj:(dd ds 1 % 10).toNat<10:=by omega
  obtain⟨q,hq,EY⟩:=DH _ hj;rw[Ub ⋯]at EY;have main:∀t:Int,0<t->t<=names.length->∃told:List Str,told.length<=8/\told.Nodup/\(∀x∈told,x∈names)/\∃st',Run (execs Γ (iU.body.drop 2)) [RY (.any,.lst (ds.map .int)),RY (.any,.lst (names.map .str)),RY (.loc,.int t),R3,R3,R3] (.rt .loc (.tup (told.map .str))) st':=λt ht Lv=>by
    let I:List (Kd×U)->aj->Prop:=λxs st=>∃(told:List Str) (us:List U) (o4 o5:Option (Kd×U)),st=B t us o4 o5/\us=told.map .str/\told.Nodup/\(∀x∈told,x∈names)/\told.length+xs.length<=q/\dS q xs;have loop:=o_ (t:=R5) (is:=[4]) (body:=execs Γ [.set 5 (.idx (.var 1) (.bin .mod (.idx (.var 0) (.bin .add (.cst (.int 3)) (.var 4))) (.var 2))),
      .ite (.cmp .DM (.var 5) (.var 3))
        [.app 3 (.var 5)]
        []]) (rs:=[(.loc,.int (q:Nat))]) I (λ_ _ _=>trivial) (λx xs st D4=>by
      obtain⟨told,us,o4,o5,e,e2,DW,hw,hl,hr⟩:=D4;subst e;obtain⟨i,hi,rfl,ES,hlen⟩:=hr.cons;rw[SE]at hl;have ik:D8 (ds.map U.int) (3+(i:Int))=RY (.int (dd ds (3+i))):=by
        rw[show(3+(i:Int))=((3+i:Nat):Int) by omega];exact cj ⋯
      obtain⟨x,hx,OF⟩:=sC (xs:=names) (eQ h0 (3+i)) ht Lv;have G4:a5 .DM (.str x) (.lst us)=RY (Sa (x∉told)):=by rw[e2];exact ft
      by_cases EH:x∈told
      · refine⟨B t us (RY (.loc,.int (i:Nat))) o5,B t us (RY (.loc,.int (i:Nat))) (RY (.any,.str x)),aE,?_,⟨told,us,_,_,rfl,e2,DW,hw,⋯,ES⟩⟩
        refine aq (r:=(.any,.str x)) (st1:=B t us (RY (.loc,.int (i:Nat))) o5) ?_ iR (bO (st1:=B t us (RY (.loc,.int (i:Nat))) (RY (.any,.str x))) ?_ aF aF)
        · repeat' (first|exact aV ik|exact bw ht|exact aV OF|sizeOf_list_dec)
        · have:a5 .DM (.str x) (.lst us)=RY R5:=by rw[G4];simp[EH]
          repeat' (first|exact this|sizeOf_list_dec)
      · refine⟨B t us (RY (.loc,.int (i:Nat))) o5,B t (us++[.str x]) (RY (.loc,.int (i:Nat))) (RY (.any,.str x)),aE,?_,⟨told++[x],_,_,_,rfl,by simp[e2],?_,?_,by simp;omega,ES⟩⟩
        · refine aq (r:=(.any,.str x)) (st1:=B t us (RY (.loc,.int (i:Nat))) o5) ?_ iR (ei (st1:=B t us (RY (.loc,.int (i:Nat))) (RY (.any,.str x))) (st2:=B t (us++[.str x]) (RY (.loc,.int (i:Nat))) (RY (.any,.str x))) ?_ ?_ aF)
          · repeat' (first|exact aV ik|exact bw ht|exact aV OF|sizeOf_list_dec)
          · have:a5 .DM (.str x) (.lst us)=some true:=by rw[G4];simp[EH]
            repeat' (first|exact this|sizeOf_list_dec)
          · repeat' (first|exact kn rfl|exact(by rw[e2,R9];omega)|sizeOf_list_dec)
        · rw[SW]
          exact ⟨DW, by simp, fun y hy w G5 => by have : w = x := by simpa using G5
                                                  subst this;rintro rfl;exact EH hy⟩
        · intro y hy
          rcases SA.mp hy with h|h
          · exact hw y h
          · rw[SX.mp h];exact hx)
    obtain⟨st',DY,told,us,o4,o5,e,e2,DW,hw,hl,_⟩:=loop ((Sl q).map λi:Nat=>(Kd.loc,U.int (0+(i:Int)))) (B t [] R3 R3) ⟨[],[],R3,R3,rfl,rfl,by simp,by simp,by simp,dS.all q⟩;subst e e2;refine⟨told,by simp at hl;omega,DW,hw,?_⟩;have hit:=ku (k:=.loc) (n:=q) ⋯;refine⟨B t (told.map .str) o4 o5,aq (r:=(.own,.lst [])) (bX ag trivial aN (SM _)) aS (cM (rs:=[(.loc,.int (q:Nat))]) (st1:=B t [] R3 R3) ?_ trivial hit rfl DY ?_)⟩
    · refine ab (bo (x:=(.own,.lst [U.int 0,.int 0,.int 1,.int 1,.int 1,.int 2,.int 2,.int 2,.int 3,.int 8])) (y:=(.loc,.int (dd ds 1 % 10))) (st1:=B t [] R3 R3) ?_ ?_ trivial (aV EY)) ag
      · repeat' (first|exact(by decide:(10:Nat)<=R6)|sizeOf_list_dec)
      · repeat' (first|exact aV i1|sizeOf_list_dec)
    · repeat' sizeOf_list_dec
  have fin:∀t:Int,0<t->t<=names.length->(∀{f:Fl} {st':aj},Run (execs Γ (iU.body.drop 2)) [RY (.any,.lst (ds.map .int)),RY (.any,.lst (names.map .str)),RY (.loc,.int t),R3,R3,R3] f st'->Run (execs Γ iU.body) [RY (.any,.lst (ds.map .int)),RY (.any,.lst (names.map .str)),R3,R3,R3,R3] f st') ->
      ∃told:List Str,told.length<=8/\told.Nodup/\(∀x∈told,x∈names)/\bC Γ iU [.lst (ds.map .int),.lst (names.map .str)]=RY (.ok (.loc,.tup (told.map .str))):=λt ht Lv hh=>by
    obtain⟨told,a1,a2,a3,st',a4⟩:=main t ht Lv;exact⟨told,a1,a2,a3,aD (st0:=[RY (.any,.lst (ds.map .int)),RY (.any,.lst (names.map .str)),R3,R3,R3,R3]) rfl (.inr rfl) rfl (hh a4)⟩
  let S0:aj:=[RY (.any,.lst (ds.map .int)),RY (.any,.lst (names.map .str)),RY (.loc,.int ((names.map U.str).length:Nat)),R3,R3,R3]
  have q1:∀{c:Bool},Sa (0<dd ds 2 % 3)=c->Run (DX Γ (.cmp .gt (.bin .mod (.idx (.var 0) (.cst (.int 2))) (.cst (.int 3))) (.cst (.int 0)))) S0 c S0:=λh=>by repeat' (first|exact aV i2|exact pe h|sizeOf_list_dec)
  have q2:∀{c:Bool},Sa (0<dd ds 0 % ((names.map U.str).length:Nat))=c->Run (DX Γ (.cmp .gt (.bin .mod (.idx (.var 0) (.cst (.int 0))) (.bi .len [.var 1])) (.cst (.int 0)))) S0 c S0:=λh=>by repeat' (first|exact aV i0|exact bw hp|exact pe h|sizeOf_list_dec)
  have s2:Run (ev Γ (.bi .len [.var 1])) [RY (.any,.lst (ds.map .int)),RY (.any,.lst (names.map .str)),R3,R3,R3,R3] (.loc,.int ((names.map U.str).length:Nat)) [RY (.any,.lst (ds.map .int)),RY (.any,.lst (names.map .str)),R3,R3,R3,R3]:=by repeat' sizeOf_list_dec
  have s3:Run (ev Γ (.bin .mod (.idx (.var 0) (.cst (.int 0))) (.bi .len [.var 1]))) S0 (.loc,.int (dd ds 0 % ((names.map U.str).length:Nat))) S0:=by repeat' (first|exact aV i0|exact bw hp|sizeOf_list_dec)
  by_cases c1:0<dd ds 2 % 3
  · by_cases c2:0<dd ds 0 % ((names.map U.str).length:Nat)
    · exact fin (dd ds 0 % ((names.map U.str).length:Nat)) c2 ⋯ λh=>aq s2 aE (ei (iQ (qP (q1 (Þ c1)) (cO (q2 (Þ c2))))) (aq s3 aE aF) h)
    · exact fin ((names.map U.str).length:Nat) hp ⋯ λh=>aq s2 aE (bO (iQ (qP (q1 (Þ c1)) (cO (q2 (Ý c2))))) aF h)
  · exact fin ((names.map U.str).length:Nat) hp ⋯ λh=>aq s2 aE (bO (iQ (v_ (q1 (Ý c1)))) aF h)
theorem kC(h1:Run (ev Γ ve) st rv st1)(h2:st1[i]?=RY (RY (k',u')))(h3:Run (ev Γ ke) st1 rk st2)(h4:Run (cH [rv,rk]) st2 [uv,uk] st3)(h5:st3[i]?=RY (RY (k,u0)))(hk:k.root=R4)(h6:dm uk uv u0=RY u1)
  (h7:Run (execs Γ ss) (st3.set i (RY (k,u1))) f Ja) (hn:k'≠.B':=by intro z;cases z):Run (execs Γ (.put i ke ve::ss)) st f Ja:=by
 refine fU (aa h1 (aa (gf h2 hn) (aa h3 (aa h4 (aa (a:=()) (st1:=st3.set i (RY (k,u1))) ?_ aU))))) h7;show modS i (rP [uv,uk]) st3=_;unfold modS;rw[h5];simp only[hk,if_true];show(match dm uk uv u0 with|some u'=>_|none=>R3)=_;rw[h6]
abbrev Row:=Str×List Str
def A'(r:Row):U:=.tup [.str r.1,.tup (r.2.map .str)]
def keyOf(r:Row):Row:=(r.1,ay r.2)
theorem l7(r:Row):rowOf (A' r)=RY r:=by
 show(strsOf (r.2.map U.str)).map _=_;rw[cY];rfl
theorem sorted_strs(h:ss.length<64):Fd .sorted [(k,.tup (ss.map .str))]=RY (.own,.lst ((ay ss).map .str)):=by
 show(strsOf (ss.map U.str)).bind _=_;rw[cY];show(if ss.length<64 then _ else _)=_;rw[Ú h]
def wo:Fn:=⟨"_law_book",4,10,[.set 4 (.lst []),.set 5 (.EU R4),.D1 R5 [6] .Eb [.var 3] [.set 7 (.call "_law_drawn" [.call "_law_cell" [.var 0,.bin .add (.var 1) (.var 6)],.cst (.int 11)]),.set 8 (.tup [.idx (.var 2) (.bin .mod (.idx (.var 7) (.cst (.int 0))) (.bi .len [.var 2])),.call "_law_told" [.var 7,.var 2]]),.set 9 (.tup [.idx (.var 8) (.cst (.int 0)),.bi .tuple [.bi .sorted [.idx (.var 8) (.cst (.int 1))]]]),.ite (.cmp .DM (.var 9) (.var 5)) [.put 5 (.var 9) (.cst (.bl R4)),.app 4 (.var 8)] []],.ret (.bi .tuple [.var 4])]⟩
def wq(Γ:Tab):Prop:=∀(ds:List Int) (names:List Str),11<=ds.length->(∀d∈ds,0<=d)->0<names.length ->
 ∃told:List Str,told.length<=8/\told.Nodup/\(∀x∈told,x∈names)/\Γ "_law_told" [.lst (ds.map .int),.lst (names.map .str)]=RY (.ok (.loc,.tup (told.map .str)))
structure aW(names:List Str)(r:Row):Prop where
 word:r.1∈names
 Fh:r.2.length<=8
 once:r.2.Nodup
 told:∀x∈r.2,x∈names
theorem wt(hc:kB Γ)(hd:hJ Γ)(ht:wq Γ){ns:List Int}(hn:0<names.length)(hb:b<1000)(hm:m<1000):
    ∃rows:List Row,rows.length<=m/\(rows.map keyOf).Nodup/\(∀r∈rows,aW names r)/\bC Γ wo [.lst (ns.map .int),.int (b:Nat),.lst (names.map .str),.int (m:Nat)]=RY (.ok (.loc,.tup (rows.map A'))):=by
  have hsz:(1000:Nat)<=R6:=by decide
  let B:=λ(us:List U) (ks:List kY) (o6 o7 o8 o9:Option (Kd×U))=>([RY (.any,.lst (ns.map .int)),RY (.loc,.int (b:Nat)),RY (.any,.lst (names.map .str)),RY (.loc,.int (m:Nat)),RY (.own,.lst us),RY (.own,.Ew ks),o6,o7,o8,o9]:aj)
  let I:List (Kd×U)->aj->Prop:=λxs st=>∃(rows:List Row) (us:List U) (ks:List kY) (o6 o7 o8 o9:Option (Kd×U)),st=B us ks o6 o7 o8 o9/\us=rows.map A'/\ks=rows.map keyOf/\ks.Nodup/\(∀r∈rows,aW names r)/\rows.length+xs.length<=m/\dS m xs;have hp:(0:Int)<((names.map U.str).length:Nat):=by simp;omega
  have loop:=o_ (t:=R5) (is:=[6]) (body:=execs Γ [.set 7 (.call "_law_drawn" [.call "_law_cell" [.var 0,.bin .add (.var 1) (.var 6)],.cst (.int 11)]),
      .set 8 (.tup [.idx (.var 2) (.bin .mod (.idx (.var 7) (.cst (.int 0))) (.bi .len [.var 2])),.call "_law_told" [.var 7,.var 2]]),
      .set 9 (.tup [.idx (.var 8) (.cst (.int 0)),.bi .tuple [.bi .sorted [.idx (.var 8) (.cst (.int 1))]]]),
      .ite (.cmp .DM (.var 9) (.var 5))
        [.put 5 (.var 9) (.cst (.bl R4)),
        .app 4 (.var 8)]
        []]) (rs:=[(.loc,.int (m:Nat))]) I (λ_ _ _=>trivial) (λx xs st D4=>by
    obtain⟨rows,us,ks,o6,o7,o8,o9,e,e2,e3,DW,hw,hl,hr⟩:=D4;subst e;obtain⟨i,hi,rfl,ES,hlen⟩:=hr.cons;rw[SE]at hl;obtain⟨z,hz⟩:=hc ns (b+i) ⋯;rw[Zg]at hz;obtain⟨ds,d1,d2,d3⟩:=hd z 11 ⋯;obtain⟨told,t1,t2,t3,t4⟩:=ht ds names ⋯ d2 hn;have i0:D8 (ds.map U.int) 0=RY (.int (dd ds 0)):=cj (i:=0) ⋯;obtain⟨nm,GR,MF⟩:=sC (xs:=names) (t:=((names.map U.str).length:Nat)) (eQ d2 0) hp (by simp);have Et:aW names (nm,told):=⟨GR,t1,t2,t3⟩
    have j0:fe (.loc,A' (nm,told)) (.int 0)=RY (.loc,.str nm):=rfl;have j1:fe (.loc,A' (nm,told)) (.int 1)=RY (.loc,.tup (told.map .str)):=rfl;have M':=sorted_strs (k:=.loc) (ss:=told) ⋯;let i6:Option (Kd×U):=RY (.loc,.int (i:Nat));let i7:Option (Kd×U):=RY (.own,.lst (ds.map .int));let i8:Option (Kd×U):=RY (.loc,A' (nm,told));let i9:Option (Kd×U):=RY (.loc,A' (keyOf (nm,told)));have g7:Run (ev Γ (.call "_law_drawn" [.call "_law_cell" [.var 0,.bin .add (.var 1) (.var 6)],.cst (.int 11)])) (B us ks i6 o7 o8 o9) (.own,.lst (ds.map .int)) (B us ks i6 o7 o8 o9):=by repeat' (first|exact hz|exact d3|sizeOf_list_dec)
    have g8:Run (ev Γ (.tup [.idx (.var 2) (.bin .mod (.idx (.var 7) (.cst (.int 0))) (.bi .len [.var 2])),.call "_law_told" [.var 7,.var 2]])) (B us ks i6 i7 o8 o9) (.loc,A' (nm,told)) (B us ks i6 i7 o8 o9):=by
      repeat' (first|exact aV i0|exact bw hp|exact aV MF|exact t4|exact kn rfl|exact(by decide:(2:Nat)<=R6)|sizeOf_list_dec)
    have g9:Run (ev Γ (.tup [.idx (.var 8) (.cst (.int 0)),.bi .tuple [.bi .sorted [.idx (.var 8) (.cst (.int 1))]]])) (B us ks i6 i7 i8 o9) (.loc,A' (keyOf (nm,told))) (B us ks i6 i7 i8 o9):=by
      repeat' (first|exact j0|exact j1|exact M'|exact(by decide:(2:Nat)<=R6)|sizeOf_list_dec)
    have G4:a5 .DM (A' (keyOf (nm,told))) (.Ew ks)=RY (Sa (keyOf (nm,told)∉ks)):=by
      show(((rowOf (A' (keyOf (nm,told)))).map λr=>Sa (r∈ks))).map (!·)=_;rw[l7];simp
    by_cases EH:keyOf (nm,told)∈ks
    · refine⟨B us ks i6 o7 o8 o9,B us ks i6 i7 i8 i9,aE,aq g7 aS (aq g8 aE (aq g9 aE (bO ?_ aF aF))),⟨rows,us,ks,_,_,_,_,rfl,e2,e3,DW,hw,⋯,ES⟩⟩
      have:a5 .DM (A' (keyOf (nm,told))) (.Ew ks)=RY R5:=by rw[G4];simp[EH]
      exact bj (ae rfl) (ak rfl) ⟨⟨.own,rfl,rfl⟩,trivial⟩ this
    · refine⟨B us ks i6 o7 o8 o9,B (us++[A' (nm,told)]) (ks++[keyOf (nm,told)]) i6 i7 i8 i9,aE,aq g7 aS (aq g8 aE (aq g9 aE (ei (st1:=B us ks i6 i7 i8 i9) (st2:=B (us++[A' (nm,told)]) (ks++[keyOf (nm,told)]) i6 i7 i8 i9) ?_ ?_ aF))),⟨rows++[(nm,told)],_,_,_,_,_,_,rfl,by simp[e2],by simp[e3],?_,?_,by simp;omega,ES⟩⟩
      · have:a5 .DM (A' (keyOf (nm,told))) (.Ew ks)=RY R4:=by rw[G4];simp[EH]
        exact bj (ae rfl) (ak rfl) ⟨⟨.own,rfl,rfl⟩,trivial⟩ this
      · have IH:dm (A' (keyOf (nm,told))) (.bl R4) (.Ew ks)=RY (.Ew (ks++[keyOf (nm,told)])):=by
          show(match rowOf (A' (keyOf (nm,told))),U.bl R4 with|some r,.bl R4=>if r∉ks/\ks.length<=1000 then RY (U.Ew (ks++[r])) else R3|_,_=>R3)=_;rw[l7];show(if keyOf (nm,told)∉ks/\ks.length<=1000 then _ else _)=_;rw[Ú ⟨EH,by rw[e3,R9];omega⟩]
        exact kC (st1:=B us ks i6 i7 i8 i9) (st2:=B us ks i6 i7 i8 i9) (st3:=B us ks i6 i7 i8 i9) (k:=.own) (k':=.own) ar rfl (ae rfl) (aK aP (aK aP aN)) rfl rfl IH
          (iT (st1:=B us (ks++[keyOf (nm,told)]) i6 i7 i8 i9) (st2:=B us (ks++[keyOf (nm,told)]) i6 i7 i8 i9) (k:=.own) (k':=.own) (us:=us) (us':=us) rfl (ae rfl) aP rfl rfl (by rw[e2,R9];omega) aF)
      · rw[SW]
        exact ⟨DW, by simp, fun y hy w G5 => by have : w = keyOf (nm, told) := by simpa using G5
                                                subst this;rintro rfl;exact EH hy⟩
      · intro y hy
        rcases SA.mp hy with h|h
        · exact hw y h
        · rw[SX.mp h];exact Et)
  obtain⟨st',DY,rows,us,ks,o6,o7,o8,o9,e,e2,e3,DW,hw,hl,_⟩:=loop ((Sl m).map λi:Nat=>(Kd.loc,U.int (0+(i:Int)))) (B [] [] R3 R3 R3 R3) ⟨[],[],[],R3,R3,R3,R3,rfl,rfl,rfl,by simp,by simp,by simp,dS.all m⟩;subst e e2 e3;refine⟨rows,by simpa using hl,DW,hw,?_⟩;have hit:=ku (k:=.loc) (n:=m) ⋯;exact aD (st0:=[RY (.any,.lst (ns.map .int)),RY (.loc,.int (b:Nat)),RY (.any,.lst (names.map .str)),RY (.loc,.int (m:Nat)),R3,R3,R3,R3,R3,R3]) rfl (.inr rfl) rfl
    (aq (r:=(.own,.lst [])) (bX ag trivial aN (SM _)) aS (aq (r:=(.own,.Ew [])) gz aS (cM (rs:=[(.loc,.int (m:Nat))]) (st1:=B [] [] R3 R3 R3 R3) (ab (ae rfl) ag) trivial hit rfl DY
      (bP (eh (ab (ak rfl) ag) ⟨⟨.own,rfl,rfl⟩,trivial⟩ rfl) du))))
def sD(Γ:Tab):Prop:=∀(ns:List Int) (b m:Nat),b<1000->m<40->∃names:List Str,names.length=m/\names.Nodup/\(∀x∈names,a9 x.cps.toList)/\Γ "_law_names" [.lst (ns.map .int),.int (b:Nat),.int (m:Nat)]=RY (.ok (.own,.lst (names.map .str)))
def wu(Γ:Tab):Prop:=∀(ns:List Int) (names:List Str) (b m:Nat),0<names.length->b<1000->m<1000 ->
 ∃rows:List Row,rows.length<=m/\(rows.map keyOf).Nodup/\(∀r∈rows,aW names r)/\Γ "_law_book" [.lst (ns.map .int),.int (b:Nat),.lst (names.map .str),.int (m:Nat)]=RY (.ok (.loc,.tup (rows.map A')))
section
def Em(Pg:List Fn)(f:Str)(fn:Fn):Prop:=(Pg.find? λg=>Sa (g.name=f))=RY fn
theorem aB(h:Em Pg f fn)(us:List U):Ec Pg (d+1) f us=bC (Ec Pg d) fn us:=by
 show(match Pg.find? λg=>Sa (g.name=f) with|some fn=>bC (Ec Pg d) fn us|none=>R3)=_;rw[show _=RY fn from h]
theorem zw(h:Em Pg "_law_mix" tZ):wc (Ec Pg (d+1)):=λc k h0 h1=>by rw[aB h];exact yI h0 h1
theorem kD(h:Em Pg "_law_mix" tZ)(h2:Em Pg "_law_cell" sy):kB (Ec Pg (d+2)):=λns k hk=>⟨_,by rw[aB h2];exact we (zw h) hk⟩
theorem drawnOk(h:Em Pg "_law_mix" tZ)(h2:Em Pg "_law_drawn" nE):hJ (Ec Pg (d+2)):=λc n hn=>by
 obtain⟨ds,a,b,e⟩:=t5 (zw (d:=d) h) (c:=c) hn;exact⟨ds,a,b,by rw[aB h2];exact e⟩
theorem Bm(Km:yK md)(h:Em Pg "_law_name" (nF md)):wj (Ec Pg (d+1)):=λds names a b c e=>by
 obtain⟨x,p,q,r⟩:=wg (Γ:=Ec Pg d) Km a b c e;exact⟨x,p,q,by rw[aB h];exact r⟩
theorem Bn(h:Em Pg "_law_told" iU):wq (Ec Pg (d+1)):=λds names a b c=>by
 obtain⟨x,p,q,r,s⟩:=wm (Γ:=Ec Pg d) a b c;exact⟨x,p,q,r,by rw[aB h];exact s⟩
structure cF(md:E)(Pg:List Fn):Prop where
 mix:Em Pg "_law_mix" tZ
 cell:Em Pg "_law_cell" sy
 drawn:Em Pg "_law_drawn" nE
 name:Em Pg "_law_name" (nF md)
 names:Em Pg "_law_names" fNames
 told:Em Pg "_law_told" iU
 book:Em Pg "_law_book" wo
theorem cF.kD(M:cF md Pg):kB (Ec Pg (d+2)):=TM.kD M.mix M.cell
theorem cF.drawnOk(M:cF md Pg):hJ (Ec Pg (d+2)):=TM.drawnOk M.mix M.drawn
theorem cF.wx(Km:yK md)(M:cF md Pg):sD (Ec Pg (d+3)):=λns b m hb hm=>by
 obtain⟨names,p,q,r,s⟩:=t8 (Γ:=Ec Pg (d+2)) M.kD M.drawnOk (TM.Bm Km M.name) (ns:=ns) hb hm;exact⟨names,p,q,r,by rw[aB M.names];exact s⟩
theorem cF.Bo(M:cF md Pg):wu (Ec Pg (d+3)):=λns names b m hn hb hm=>by
 obtain⟨rows,p,q,r,s⟩:=wt (Γ:=Ec Pg (d+2)) M.kD M.drawnOk (TM.Bn M.told) (ns:=ns) hn hb hm;exact⟨rows,p,q,r,by rw[aB M.book];exact s⟩
end
section
theorem l8(h:Run (execs Γ (a++ss)) st f st2):(∃s1,Run (execs Γ a) st .nx s1/\Run (execs Γ ss) s1 f st2)\/(Run (execs Γ a) st f st2/\f≠.nx):=by
 induction a generalizing st with
 |nil=>exact .inl ⟨st,aF,h⟩
 |cons s a ih =>
  have h':M.bind (exec Γ s) (λf=>match f with|.nx=>execs Γ (a++ss)|f=>pure f) st=RY (.ok f,st2):=h;unfold M.bind at h';cases e:exec Γ s st with
  |none=>rw[e]at h';cases h'
  |some p =>
   obtain⟨x,s1⟩:=p;rw[e]at h';cases x with
   |exc c=>cases h'
   |ok g =>
    cases g with
    |nx =>
     rcases ih h' with⟨s2,h1,h2⟩|⟨h1,h2⟩
     ·exact .inl ⟨s2,fU e h1,h2⟩
     ·exact .inr ⟨fU e h1,h2⟩
    |rt k u=>cases h';exact .inr ⟨tY e,λz=>nomatch z⟩
    |bk=>cases h';exact .inr ⟨aa (show Run (exec Γ s) st Fl.bk _ from e) aU,λz=>nomatch z⟩
    |ct=>cases h';exact .inr ⟨aa (show Run (exec Γ s) st Fl.ct _ from e) aU,λz=>nomatch z⟩
theorem CW(h1:Run (exec Γ s) st f st1)(hf:f≠.nx):Run (execs Γ (s::ss)) st f st1:=by
 cases f with
 |nx=>exact absurd rfl hf
 |rt k u=>exact tY h1
 |_=>exact aa h1 aU
theorem dG(h1:Run (DX Γ c) st p st1)(hT:p=R4->Run (execs Γ (a++ss)) st1 f st2)(hF:p=R5->Run (execs Γ (b++ss)) st1 f st2):Run (execs Γ (.ite c a b::ss)) st f st2:=by
 cases p with
 |true =>
  rcases l8 (hT rfl) with⟨s1,h2,h3⟩|⟨h2,h3⟩
  ·exact fU (nB h1 h2) h3
  ·exact CW (nB h1 h2) h3
 |false =>
  rcases l8 (hF rfl) with⟨s1,h2,h3⟩|⟨h2,h3⟩
  ·exact fU (qQ h1 h2) h3
  ·exact CW (qQ h1 h2) h3
theorem qU(h:Run (ev Γ e) st (k,.bl p) st)(h2:p=R4->Run (gU Γ (e2::es)) st (.loc,.bl q) st):Run (gU Γ (e::e2::es)) st (.loc,.bl (p&&q)) st:=by
 refine Bj h ?_;cases p with
 |true=>rw[Ú rfl];exact h2 rfl
 |false=>rw[Ü S6];exact⟨rfl,rfl⟩
theorem zx(h:Run (DX Γ e) st p st)(h2:p=R5->Run (ff Γ (e2::es)) st q st):Run (ff Γ (e::e2::es)) st (p||q) st:=by
 cases p with
 |true=>exact CP h
 |false=>exact oX h (h2 rfl)
theorem kF(h:Run (DX Γ e) st p st)(h2:p=R4->Run (aQ Γ (e2::es)) st q st):Run (aQ Γ (e::e2::es)) st (p&&q) st:=by
 cases p with
 |true=>exact qP h (h2 rfl)
 |false=>exact v_ h
theorem eB{cond:M Bool}(h:bc src st)(k:Kd)(hk:k=.loc\/k=.any)(enc g:α->U)(kd:Kd)(hc:∀y,Run cond (RY (k,enc y)::st) R4 (RY (k,enc y)::st)):∀(ys:List α) (acc:List U),acc.length+ys.length<=R6 ->
  (∀y∈ys,Run elt (RY (k,enc y)::st) (kd,g y) (RY (k,enc y)::st)/\Run (lift (kd,g y)) (RY (k,enc y)::st) (g y) (RY (k,enc y)::st))->Run (bz 1 R5 cond elt src (ys.map λy=>(k,enc y)) acc) st (acc++ys.map g) st
 |[],acc,_,_=>by rw[TV,TV,TF];exact pd h
 |y::ys,acc,hl,hx=>by
  obtain⟨h2,h3⟩:=hx y (by simp);rw[SE]at hl;refine kq (s1:=RY (k,enc y)::st) (s2:=RY (k,enc y)::st) (s3:=RY (k,enc y)::st) (s4:=RY (k,enc y)::st) h ?_ (hc y) h2 h3 ⋯ ?_
  ·rcases hk with rfl|rfl
   ·exact cn aE
   ·exact cn iR
  ·have:=eB h k hk enc g kd hc ys (acc++[g y]) (by simp;omega) λz hz=>hx z (by simp[hz]);rw[Sd];simpa using this
theorem kG{cond:M Bool}(h:bc src st)(k:Kd)(hk:k=.loc\/k=.any)(enc g:α->U)(p:α->Bool)(kd:Kd):∀(ys:List α) (acc:List U),acc.length+ys.length<=R6 ->
  (∀y∈ys,Run cond (RY (k,enc y)::st) (p y) (RY (k,enc y)::st)/\(p y=R4->Run elt (RY (k,enc y)::st) (kd,g y) (RY (k,enc y)::st)/\Run (lift (kd,g y)) (RY (k,enc y)::st) (g y) (RY (k,enc y)::st)))->Run (bz 1 R5 cond elt src (ys.map λy=>(k,enc y)) acc) st (acc++(ys.filter p).map g) st
 |[],acc,_,_=>by rw[TV,V_,TV,TF];exact pd h
 |y::ys,acc,hl,hx=>by
  obtain⟨h1,Q1⟩:=hx y (by simp);rw[SE]at hl;have ht:Run (cB R5 (Sl 1) (k,enc y)) (SH 1 R3++st) () (RY (k,enc y)::st):=by
   rcases hk with rfl|rfl
   ·exact cn aE
   ·exact cn iR
  cases hp:p y with
  |true =>
   rw[hp]at h1;obtain⟨h2,h3⟩:=Q1 hp;refine kq (s1:=RY (k,enc y)::st) (s2:=RY (k,enc y)::st) (s3:=RY (k,enc y)::st) (s4:=RY (k,enc y)::st) h ht h1 h2 h3 ⋯ ?_;have:=kG h k hk enc g p kd ys (acc++[g y]) (by simp;omega) λz hz=>hx z (by simp[hz]);rw[TK,Ú hp,Sd];simpa using this
  |false =>
   rw[hp]at h1;refine qR (s1:=RY (k,enc y)::st) (s2:=RY (k,enc y)::st) h ht h1 ?_;have:=kG h k hk enc g p kd ys acc ⋯ λz hz=>hx z (by simp[hz]);rw[TK,Ü (by simp[hp])];exact this
theorem de(it:α->Kd×U)(I:List α->List α->aj->Prop)(hs:∀d r st,I d r st->bc rs st)
  (YX:∀d y r st,I d (y::r) st->∃st1 st2,Run (cB t is (it y)) st () st1/\Run body st1 .nx st2/\I (d++[y]) r st2):∀(r d:List α) (st:aj),I d r st->∃st',Run (forM t is body rs (r.map it)) st .nx st'/\I (d++r) [] st'
 |[],d,st,h=>⟨st,oY (hs _ _ _ h),by rw[TF];exact h⟩
 |y::r,d,st,h=>by
  obtain⟨s1,s2,h1,h2,h3⟩:=YX d y r st h;obtain⟨s3,h4,h5⟩:=de it I hs YX r (d++[y]) s2 h3;exact⟨s3,oZ (hs _ _ _ h) h1 h2 h4,by simpa using h5⟩
theorem Bp(h1:Run (bL Γ es) st rs st1)(h2:bc rs st1)(h3:Γ f (rs.map (·.2))=RY (.ok r))(h4:lh r.2=RY b)(hr:isAny r.1=R5:=by exact rfl):Run (DX Γ (.call f es)) st b st1:=aa h1 (aa (a_ h2) (aa (su h3 hr) (cJ h4)))
theorem wy(h:Run (ev Γ (.bi f es)) st (k,.bl b) st1):Run (DX Γ (.bi f es)) st b st1:=by
 have h':(bL Γ es >>= λrs=>av rs >>= λ_=>M.D0 (Fd f rs)) st=RY (.ok (k,.bl b),st1):=h;obtain⟨rs,s1,e1,e2,s2,e3,r,s3,e4,e5⟩:∃rs s1,bL Γ es st=RY (.ok rs,s1)/\∃(a:Unit) (s2:aj),av rs s1=RY (.ok a,s2)/\∃r s3,M.D0 (Fd f rs) s2=RY (.ok r,s3)/\(r,s3)=((k,U.bl b),st1):=by
  have w:W (bL Γ es >>= λrs=>av rs >>= λ_=>M.D0 (Fd f rs)) st λr s=>(r,s)=((k,U.bl b),st1):=⟨_,_,h',rfl⟩
  rw[af]at w;obtain⟨rs,s1,e1,w⟩:=w;rw[af]at w;obtain⟨a,s2,e2,w⟩:=w;obtain⟨r,s3,e3,w⟩:=w;exact⟨rs,s1,e1,a,s2,e2,r,s3,e3,w⟩
 cases e5;exact aa e1 (aa (a:=e2) e3 (aa e4 (cJ rfl)))
theorem wz(h0:st[i]?=RY (RY (k',.lst us')))(h1:Run (ev Γ e) st r st1)(h3:st1[i]?=RY (RY (k,.lst us)))(hk:k.root=R4)(hr:jY r (.lst us)=RY (.lst zs))
  (h4:Run (execs Γ ss) (st1.set i (RY (k,.lst zs))) f st3) (hn:k'≠.B':=by intro z;cases z):Run (execs Γ (.ext i e::ss)) st f st3:=by
 refine fU (aa (gf h0 hn) (aa (a:=()) (st1:=st) rfl (aa h1 (aa (a:=()) (st1:=st1.set i (RY (k,.lst zs))) ?_ aU)))) h4;show modS i (jY r) st1=_;unfold modS;rw[h3];simp only[hk,if_true];rw[hr]
end
theorem yM(h:xs.length+ys.length<=R6)(hs:fQ k ys=R4):jY (k,.tup ys) (.lst xs)=RY (.lst (xs++ys)):=by
 show(if xs.length+ys.length<=R6/\fQ k ys=R4 then _ else _)=_;rw[Ú ⟨h,hs⟩]
theorem sE(h:xs.length+ys.length<=R6)(hs:fQ k ys=R4):jY (k,.lst ys) (.lst xs)=RY (.lst (xs++ys)):=by
 show(if xs.length+ys.length<=R6/\fQ k ys=R4 then _ else _)=_;rw[Ú ⟨h,hs⟩]
theorem l9:∀ss:List Str,gu (ss.map U.str)=R4
 |[]=>by simp[gu]
 |s::ss=>by simp[gu,D',l9 ss]
theorem jo(r:Row):D' (A' r)=R4:=by simp[A',D',gu,l9]
theorem ba:∀rs:List Row,gu (rs.map A')=R4
 |[]=>by simp[gu]
 |r::rs=>by simp[gu,jo,ba rs]
theorem gA:∀(a b:List Str),cu (a.map U.str) (b.map U.str)=Sa (a=b)
 |[],[]=>by simp[cu]
 |[],_::_=>by simp[cu]
 |_::_,[]=>by simp[cu]
 |x::a,y::b=>by
  rw[Sd,Sd,cu,gA a b];simp only[bx];by_cases h:x=y
  ·subst h;simp
  ·simp[h]
theorem t9(a b:Row):bx (A' a) (A' b)=Sa (a=b):=by
 obtain⟨a1,a2⟩:=a;obtain⟨b1,b2⟩:=b;simp only[A',bx,cu,Wx,gA];by_cases h:a1=b1
 ·subst h;simp
 ·simp[h]
theorem sF(r:Row):Ek 50 (A' r)=R4:=by
 simp[A',Ek,bY,dU]
theorem yN{op:Bool}{a b:Row}:a5 .eq (A' a) (A' b)=RY (Sa (a=b)):=by
 simp only[a5];rw[Ú ⟨sF a,sF b⟩,t9]
theorem bT(ss:List Str)(n:Nat):Ek (n+1) (.lst (ss.map U.str))=R4:=by simp[Ek,dU]
theorem pq{a b:List Str}:a5 .eq (.lst (a.map U.str)) (.lst (b.map U.str))=RY (Sa (a=b)):=by
 simp only[a5];rw[Ú ⟨bT a 49,bT b 49⟩];simp only[bx,gA]
theorem yO:a5 .eq (.str a) (.str b)=RY (Sa (a=b)):=by
 simp only[a5];rw[Ú ⟨rfl,rfl⟩];simp only[bx];by_cases h:a=b
 ·subst h;simp
 ·simp[h]
theorem yP(f:α->β)(xs:List α)(lo hi:Option Int):cut (xs.map f) lo hi=(cut xs lo hi).map f:=by simp[cut,List.map_take,List.map_drop]
theorem nI(h:fQ k (ss.map U.str)=R4):m7 (k,.lst (ss.map .str)) lo hi=RY (.own,.lst ((cut ss lo hi).map .str)):=by
 simp only[m7];rw[Ú h,yP]
theorem yQ{a b:List Str}(h:a.length+b.length<=1000):Fc .add (.own,.lst (a.map .str)) (.own,.lst (b.map .str))=RY (.own,.lst ((a++b).map .str)):=by
 have hsz:(1000:Nat)<=R6:=by decide
 simp only[Fc,qt];rw[Ú ⟨by simp;omega,rfl,rfl⟩,SO]
theorem kH(h:acc.length<4000)(h2:(aL acc).length<64):qv .sset [(k,.lst (acc.map .str))]=RY (.own,.lst ((ay (aL acc)).map .str)):=by
 have e:oK (.lst (acc.map U.str))=RY (aL acc):=by
  show(strsOf (acc.map U.str)).bind _=_;rw[cY];show(if acc.length+1<Ut then _ else _)=_;rw[Ú (by show acc.length+1<4096;omega)]
 show(oK (.lst (acc.map U.str))).bind _=_;rw[e];show(if (aL acc).length<64 then _ else _)=_;rw[Ú h2]
theorem fu:∀{l:List α},(∀x∈l,∀y∈l,f x=f y->x=y)->l.Nodup->(l.map f).Nodup
 |[],_,_=>VH
 |a::l,h,n=>by
  rw[SU]at n;rw[Sd,SU];refine⟨λz=>?_,fu (λx hx y hy=>h x (by simp[hx]) y (by simp[hy])) n.2⟩;obtain⟨b,hb,e⟩:=So.mp z;exact n.1 (h b (by simp[hb]) a (by simp) e▸hb)
theorem pv(l:List Str):(ay (aL l)).Nodup:=(aR _).nodup_iff.mpr (gO l)
theorem wA(l:List Str)(x:Str):x∈ay (aL l)↔x∈l:=by rw[(aR _).mem_iff,jK]
theorem qV{l names:List Str}(h:∀x∈l,x∈names):(aL l).length<=names.length:=g_ (gO l) λx hx=>h x ((jK l x).mp hx)
section
end
section
theorem CY:Run (Hq Γ [] out) st out st:=rfl
theorem qW(h1:Run (ev Γ e) st x st1)(h2:lj x.2 out=RY y)(h3:Run (Hq Γ es y) st1 z st2):Run (Hq Γ (e::es) out) st z st2:=aa h1 (aa (cJ h2) h3)
theorem CZ(h:Run (Hq Γ es S5) st z st1):Run (ev Γ (.fst es)) st (.loc,.str z) st1:=aa h aU
end
theorem kI(h:xs.length+ys.length<=R6)(h1:fQ k xs=R4)(h2:fQ k' ys=R4):Fc .add (k,.lst xs) (k',.lst ys)=RY (.own,.lst (xs++ys)):=by
 simp only[Fc,qt];rw[Ú ⟨h,h1,h2⟩]
theorem nJ(x y:Str):(x++y).cps.toList=x.cps.toList++y.cps.toList:=by
 show(x.cps++y.cps).toList=_;simp
theorem str_len(x y:Str):(x++y).length=x.length+y.length:=by rw[len_list,len_list,len_list,nJ,Sy]
theorem fB{x y:Str}(h:x.cps.toList=y.cps.toList):x=y:=by
 obtain⟨a⟩:=x;obtain⟨b⟩:=y;have:a=b:=WZ.mp h;rw[this]
theorem empty_app(x:Str):S5++x=x:=fB (by rw[nJ];rfl)
theorem sG(h1:y.length<=1000)(h2:out.length<=1000):lj (.str y) out=RY (out++y):=by
 have hsz:(4000:Nat)<=R6:=by decide
 simp only[lj];rw[Ú ⟨⋯,by rw[str_len];omega⟩]
theorem yR(h0:0<=k)(h9:k<=99)(h2:out.length<=1000):lj (.int k) out=RY (out++il k):=by
 have hsz:(4000:Nat)<=R6:=by decide
 have hl:=fK h0 h9;simp only[lj];rw[Ú ⟨by
  by_cases hz:k=0
  ·subst hz;decide
  ·have:k.natAbs<2 ^ 7:=by omega
   have h2:k.natAbs≠0:=by omega
   have:=(Ã h2).mpr this;omega,by rw[str_len];show out.length+(il k).length<=R6;omega⟩]
 rfl
theorem t_(h:a9 x.cps.toList):∃y r,UH x fZ=y::r/\(S4 x fZ).1=y/\y.length<=8:=by
 rcases h with h|⟨a,b,k,e,h,_⟩
 ·exact⟨x,[],jF (dN h),by rw[show fZ=⟨#[47]⟩ from rfl,D6.ij (dN h)],by rw[len_list];exact((bV _).mp h).2.1⟩
 ·obtain⟨r,e'⟩:=ot e (dN h) (by decide);exact⟨_,r,e',by rw[show fZ=⟨#[47]⟩ from rfl,D6.xD e (dN h)],by rw[len_list];simpa using((bV _).mp h).2.1⟩
def bB(rows:List Row):List Str:=(rows.map λr=>r.1::r.2).flatten
def aw(rows:List Row):List Str:=ay (aL (bB rows))
theorem iV(d:List Row)(y:Row):bB (d++[y])=bB d++[y.1]++y.2:=by simp[bB]
theorem dg:x∈bB rows↔∃r∈rows,x=r.1\/x∈r.2:=by
 simp only[bB,List.mem_flatten,So];constructor
 ·rintro⟨l,⟨r,hr,rfl⟩,hx⟩;exact⟨r,hr,Sn.mp hx⟩
 ·rintro⟨r,hr,hx⟩;exact⟨_,⟨r,hr,rfl⟩,Sn.mpr hx⟩
theorem cT(h:∀r∈rows,aW names r):∀x∈bB rows,x∈names:=by
 intro x hx;obtain⟨r,hr,hx⟩:=dg.mp hx;rcases hx with rfl|hx
 ·exact(h r hr).word
 ·exact(h r hr).told x hx
theorem eC(h:∀r∈rows,r.2.length<=8):(bB rows).length<=9 * rows.length:=by
 induction rows with
 |nil=>simp[bB]
 |cons r rows ih =>
  have h1:=h r (by simp);have h2:=ih λs hs=>h s (by simp[hs]);simp only[bB,Sd,WR,Sy,SE]at h2 ⊢;omega
theorem dh:x∈aw rows↔x∈bB rows:=wA _ _
theorem cU(rows:List Row):(aw rows).Nodup:=pv _
theorem cp(h:∀r∈rows,aW names r):(aw rows).length<=names.length:=by
 show(ay (aL (bB rows))).length<=_;rw[br];exact qV (cT h)
def nK:Fn:=⟨"words_of",1,3,[.set 1 (.lst []),.D1 R5 [2] .seq [.var 0] [.app 1 (.idx (.var 2) (.cst (.int 0))),.ext 1 (.idx (.var 2) (.cst (.int 1)))],.ret (.GJ .sset [.var 1])]⟩
theorem hU(hl:rows.length<=100)(hr:∀r∈rows,aW names r)(hn:names.length<64):bC Γ nK [.tup (rows.map A')]=RY (.ok (.own,.lst ((aw rows).map .str))):=by
 have hsz:(4000:Nat)<=R6:=by decide
 have DS:TM.start [.tup (rows.map A')] 3=[RY (.loc,.tup (rows.map A')),R3,R3]:=by simp[TM.start,D',ba]
 have h8:∀r∈rows,r.2.length<=8:=λr h=>(hr r h).Fh;obtain⟨st',DY,_,o2,e⟩:=de (t:=R5) (is:=[2]) (body:=execs Γ [.app 1 (.idx (.var 2) (.cst (.int 0))),.ext 1 (.idx (.var 2) (.cst (.int 1)))]) (rs:=[(.loc,.tup (rows.map A'))]) (λr:Row=>(Kd.loc,A' r))
  (λd r st=>d++r=rows/\∃o2,st=[RY (.loc,.tup (rows.map A')),RY (.own,.lst ((bB d).map .str)),o2]) (λ_ _ _ _=>trivial) (λd y r st D4=>by
   obtain⟨D9,o2,e⟩:=D4;subst e;have hy:y∈rows:=by rw[<-D9];simp
   have Q2:=eC (rows:=d) λs hs=>h8 s (by rw[<-D9];simp[hs]);have F9:d.length<=100:=by have:=ß Tn D9;simp at this;omega
   have OG:=h8 y hy;refine⟨[RY (.loc,.tup (rows.map A')),RY (.own,.lst ((bB d).map .str)),RY (.loc,A' y)],[RY (.loc,.tup (rows.map A')),RY (.own,.lst ((bB d).map .str++[.str y.1]++y.2.map .str)),RY (.loc,A' y)],cn aE,?_,by rw[<-D9];simp,RY (.loc,A' y),?_⟩
   ·exact iT (k:=.own) (k':=.own) (r:=(.loc,.str y.1)) rfl (bo (x:=(.loc,A' y)) (ae rfl) ar trivial rfl) aP rfl rfl (by rw[R9];omega)
     (wz (k:=.own) rfl (bo (x:=(.loc,A' y)) (ae rfl) ar trivial rfl) rfl rfl (yM (by simp;omega) rfl) aF)
   ·rw[iV];simp) rows [] [RY (.loc,.tup (rows.map A')),RY (.own,.lst []),R3] ⟨rfl,R3,rfl⟩
 subst e;have e5:(rows.map A').map (λu=>(kE .loc,u))=rows.map λr=>(Kd.loc,A' r):=by rw[Sx];rfl
 have I0:=eC h8;have F9:=qV (cT hr);exact aD rfl (.inl rfl) DS (aq (r:=(.own,.lst [])) (bX ag trivial aN (SM _)) aS (cM (rs:=[(.loc,.tup (rows.map A'))]) (ab (ae rfl) ag) trivial rfl rfl (by rw[e5];exact DY) (bP (v5 (ab (ak rfl) ag) ⟨⟨.own,rfl,rfl⟩,trivial⟩ (kH ⋯ ⋯)) iS)))
theorem pz:z∈(dput ks us x u).1↔z∈ks\/z=x:=by
 unfold dput;by_cases h:x∈ks
 ·rw[Ú h];exact⟨.inl,λq=>q.elim id λe=>e▸h⟩
 ·rw[Ü h];simp
theorem pA:(dput ks us x u).1.length<=ks.length+1:=by
 unfold dput;by_cases h:x∈ks
 ·rw[Ú h];exact U_ _
 ·rw[Ü h];simp
theorem nL(h:ks.length<1000):dm (.str x) u (.DJ ks us)=RY (.DJ (dput ks us x u).1 (dput ks us x u).2):=by
 have hsz:(1000:Nat)<=R6:=by decide
 show(if ks.length<R6 then _ else _)=_;rw[Ú ⋯]
end TM
namespace Od
section
variable{W:Type}[DecidableEq W]{rows:List (W×List W)}
def fw(rows:List (W×List W))(C:W->Prop):Prop:=∀r∈rows,(∀x∈r.2,C x)->C r.1
def HN(rows:List (W×List W))(K:List W):Prop:=∀C:W->Prop,fw rows C->∀x∈K,C x
theorem same(hK:K.Nodup)(hL:L.Nodup)(sK:HN rows K)(sL:HN rows L)(cK:fw rows (·∈K))(cL:fw rows (·∈L)):K.Perm L :=
 (Xu hK hL).mpr λx=>⟨λh=>sK _ cL x h,λh=>sL _ cK x h⟩
def told(rows:List (W×List W))(p:Nat):List W:=match rows[p]? with
 |some r=>r.2
 |none=>[]
theorem jq(h:rows[p]?=RY r):told rows p=r.2:=by unfold told;rw[h]
def qX(K l:List W):Nat:=(l.filter λx=>Sa (x∉K)).length
def cnt(rows:List (W×List W))(K:List W)(p:Nat):Nat:=qX K (told rows p)
theorem ua{K l:List W}:qX K l=0↔∀x∈l,x∈K:=by
 unfold qX;rw[VY,V7];constructor
 ·intro h x hx;have:=h x hx;simpa using this
 ·intro h x hx;simpa using h x hx
theorem pB(hw:w∉K):∀{l:List W},l.Nodup->qX (K++[w]) l+(if w∈l then 1 else 0)=qX K l
 |[],_=>rfl
 |x::l,h=>by
  obtain⟨h1,h2⟩:=SU.mp h;have ih:=pB hw h2;unfold qX at ih ⊢;by_cases e:x=w
  ·subst e;have a1:Sa (x∉K++[x])≠R4:=by simp
   have a2:Sa (x∉K)=R4:=Þ hw;rw[V3 (p:=λy=>Sa (y∉K++[x])) a1,V2 (p:=λy=>Sa (y∉K)) a2,SE,Ú (SR ..)];rw[Ü h1]at ih;omega
  ·have e':w≠x:=λz=>e z.symm;have e1:(if w∈x::l then 1 else 0)=if w∈l then 1 else 0:=by simp[e']
   rw[e1];by_cases hx:x∈K
   ·have a1:Sa (x∉K++[w])≠R4:=by simp[hx]
    have a2:Sa (x∉K)≠R4:=by simp[hx]
    rw[V3 (p:=λy=>Sa (y∉K++[w])) a1,V3 (p:=λy=>Sa (y∉K)) a2];exact ih
   ·have a1:Sa (x∉K++[w])=R4:=by simp[hx,e]
    have a2:Sa (x∉K)=R4:=by simp[hx]
    rw[V2 (p:=λy=>Sa (y∉K++[w])) a1,V2 (p:=λy=>Sa (y∉K)) a2,SE,SE];omega
def Once(rows:List (W×List W)):Prop:=∀r∈rows,r.2.Nodup
theorem Once.told(h:Once rows)(p:Nat):(told rows p).Nodup:=by
 unfold Od.told;split
 ·rename_i r e;exact h r (SY e)
 ·exact .nil
theorem pC:cnt rows K p=0↔∀x∈told rows p,x∈K:=ua
theorem nM(h:Once rows)(hw:w∉K)(p:Nat):cnt rows (K++[w]) p+(if w∈told rows p then 1 else 0)=cnt rows K p:=pB hw (h.told p)
def Eh(rows:List (W×List W))(n:Nat)(w:W):List Nat:=(Sl n).filter λp=>Sa (w∈told rows p)
theorem ub(n:Nat)(w:W):(Eh rows n w).Nodup:=List.Nodup.sublist List.filter_sublist YR
theorem hV:p∈Eh rows n w↔p<n/\w∈told rows p:=by simp[Eh]
def aG(ps:List (W×Nat))(w:W):List Nat:=(ps.filter λp=>Sa (p.1=w)).map (·.2)
theorem pD:∀{l:List W},l.Nodup->aG (l.map λx=>(x,n)) w=if w∈l then [n] else []
 |[],_=>rfl
 |x::l,h=>by
  obtain⟨h1,h2⟩:=SU.mp h;have ih:=pD (n:=n) (w:=w) h2;unfold aG at ih ⊢;rw[Sd,TK];by_cases e:x=w
  ·subst e;rw[Ü h1]at ih;rw[Ú (by simp),Sd,ih,Ú (by simp)]
  ·rw[Ü (by simpa using e),ih];have e':w≠x:=λz=>e z.symm;simp[e']
theorem pE(a b:List (W×Nat))(w:W):aG (a++b) w=aG a w++aG b w:=by simp[aG]
theorem uc(h:Once rows)(hr:rows[n]?=RY r)(hp:∀w,aG ps w=Eh rows n w)(w:W):aG (ps++r.2.map λx=>(x,n)) w=Eh rows (n+1) w:=by
 rw[pE,hp w,pD (h r (SY hr))];unfold Eh;rw[List.range_succ,WB];congr 1
 rw[TK,V_,jq hr];by_cases e:w∈r.2<;>simp[e]
structure RI(rows:List (W×List W))(K0 K:List W)(R:List Nat):Prop where
 Ks:∀t∈R,t<rows.length/\cnt rows K t=0
 all:∀t,t<rows.length->cnt rows K t=0->cnt rows K0 t=0\/t∈R
theorem RI.start(K:List W):RI rows K K []:=⟨by simp,λt _ h=>.inl h⟩
theorem RI.step(h:Once rows)(x:RI rows K0 K R)(hw:w∉K):RI rows K0 (K++[w]) (R++(Eh rows rows.length w).filter λt=>Sa (cnt rows K t=1)):=by
 refine⟨λt ht=>?_,λt ht h0=>?_⟩
 ·have ha:=nM h hw t;rcases SA.mp ht with ht|ht
  ·obtain⟨q1,q2⟩:=x.Ks t ht;exact⟨q1,⋯⟩
  ·obtain⟨q1,q2⟩:=T'.mp ht;obtain⟨q3,q4⟩:=hV.mp q1;rw[Ú q4]at ha;have:cnt rows K t=1:=by simpa using q2
   exact⟨q3,⋯⟩
 ·have ha:=nM h hw t;by_cases hm:w∈told rows t
  ·rw[Ú hm]at ha;exact .inr (SA.mpr (.inr (T'.mpr ⟨hV.mpr ⟨ht,hm⟩,by simp;omega⟩)))
  ·rw[Ü hm]at ha;rcases x.all t ht ⋯ with z|z
   ·exact .inl z
   ·exact .inr (SA.mpr (.inl z))
structure NS(rows:List (W×List W))(K:List W)(d:List Nat)(ps:List (W×Nat)):Prop where
 ok:∀s∈ps,s.2∈d/\s.1∉K/\∃r,rows[s.2]?=RY r/\r.1=s.1
 once:(ps.map (·.1)).Nodup
 all:∀p∈d,∀r,rows[p]?=RY r->r.1∈K\/r.1∈ps.map (·.1)
theorem NS.start(K:List W):NS rows K [] []:=⟨by simp,by simp,by simp⟩
theorem NS.skip(x:NS rows K d ps)(hr:rows[p]?=RY r)(h:r.1∈K\/r.1∈ps.map (·.1)):NS rows K (d++[p]) ps :=
 ⟨λs hs=>let ⟨a,b,c⟩:=x.ok s hs;⟨by simp[a],b,c⟩,x.once,λq hq r' ES=>by
  rcases SA.mp hq with hq|hq
  ·exact x.all q hq r' ES
  ·have:q=p:=by simpa using hq
   subst this;rw[hr]at ES;cases ES;exact h⟩
theorem NS.take(x:NS rows K d ps)(hr:rows[p]?=RY r)(h1:r.1∉K)(h2:r.1∉ps.map (·.1)):NS rows K (d++[p]) (ps++[(r.1,p)]):=by
 refine⟨λs hs=>?_,?_,λq hq r' ES=>?_⟩
 ·rcases SA.mp hs with hs|hs
  ·obtain⟨a,b,c⟩:=x.ok s hs;exact⟨by simp[a],b,c⟩
  ·have:s=(r.1,p):=by simpa using hs
   subst this;exact⟨by simp,h1,r,hr,rfl⟩
 ·rw[SO,SW];refine⟨x.once,by simp,λa ha b hb e=>?_⟩;have:b=r.1:=by simpa using hb
  subst this;exact h2 (e▸ha)
 ·rcases SA.mp hq with hq|hq
  ·rcases x.all q hq r' ES with z|z
   ·exact .inl z
   ·exact .inr (by simp only[SO,SA];exact .inl z)
  ·have:q=p:=by simpa using hq
   subst this;rw[hr]at ES;cases ES;exact .inr (by simp)
theorem NS.perm(x:NS rows K d ps)(h:qs.Perm ps):NS rows K d qs :=
 ⟨λs hs=>x.ok s (h.mem_iff.mp hs),(h.map _).nodup_iff.mpr x.once,λp hp r hr=>(x.all p hp r hr).imp id λz=>(h.map _).mem_iff.mpr z⟩
def vS(rows:List (W×List W)):List W->List (W×Nat)->Prop
 |_,[]=>True
 |K,s::ss=>(s.1∉K/\∃r,rows[s.2]?=RY r/\r.1=s.1/\∀x∈r.2,x∈K)/\vS rows (K++[s.1]) ss
theorem wB:∀{a b:List (W×Nat)}{K:List W},vS rows K a->vS rows (K++a.map (·.1)) b->vS rows K (a++b)
 |[],b,K,_,h=>by simpa using h
 |s::a,b,K,h1,h2=>⟨h1.1,wB h1.2 (by simpa using h2)⟩
theorem wC:∀{ss:List (W×Nat)}{K:List W},(∀s∈ss,s.1∉K/\∃r,rows[s.2]?=RY r/\r.1=s.1/\∀x∈r.2,x∈K)->(ss.map (·.1)).Nodup->vS rows K ss
 |[],K,_,_=>trivial
 |s::ss,K,h,hn=>by
  have HU:s.1∉ss.map (·.1)/\(ss.map (·.1)).Nodup:=by
   rw[Sd]at hn;exact SU.mp hn
  refine⟨h s (by simp),wC (λt ht=>?_) HU.2⟩;obtain⟨q1,r,q2,q3,q4⟩:=h t (by simp[ht]);refine⟨λz=>?_,r,q2,q3,λx hx=>by simp[q4 x hx]⟩;rcases SA.mp z with z|z
  ·exact q1 z
  ·have:t.1=s.1:=by simpa using z
   exact HU.1 (this▸So.mpr ⟨t,ht,rfl⟩)
theorem hZ:∀{ss:List (W×Nat)}{K:List W},vS rows K ss->K.Nodup->(K++ss.map (·.1)).Nodup
 |[],K,_,h=>by simpa using h
 |s::ss,K,h,hn=>by
  have:(K++[s.1]).Nodup:=by
   rw[SW];refine⟨hn,by simp,λa ha b hb e=>?_⟩;have:b=s.1:=by simpa using hb
   subst this;exact h.1.1 (e▸ha)
  have:=hZ h.2 this;simpa using this
theorem wD:∀{ss:List (W×Nat)}{K:List W},vS rows K ss->HN rows K->HN rows (K++ss.map (·.1))
 |[],K,_,h=>by simpa using h
 |s::ss,K,h,hn=>by
  have h1:HN rows (K++[s.1]):=λC hC x hx=>by
   rcases SA.mp hx with hx|hx
   ·exact hn C hC x hx
   ·have:x=s.1:=by simpa using hx
    subst this;obtain⟨_,r,q1,q2,q3⟩:=h.1;rw[<-q2];exact hC r (SY q1) λy hy=>hn C hC y (q3 y hy)
  have:=wD h.2 h1;simpa using this
theorem h_:∀{ss:List (W×Nat)}{K:List W},vS rows K ss->∀x∈ss.map (·.1),x∈rows.map (·.1)
 |[],K,_,x,hx=>by simp at hx
 |s::ss,K,h,x,hx=>by
  rw[Sd]at hx;rcases Sn.mp hx with rfl|hx
  ·obtain⟨_,r,q1,q2,q3⟩:=h.1;exact So.mpr ⟨r,SY q1,q2⟩
  ·exact h_ h.2 x hx
structure LI(rows:List (W×List W))(DO:List (W×Nat))(R:List Nat):Prop where
 ok:vS rows [] DO
 Ks:∀t∈R,t<rows.length/\cnt rows (DO.map (·.1)) t=0
 all:∀t r,rows[t]?=RY r->cnt rows (DO.map (·.1)) t=0->t∈R\/r.1∈DO.map (·.1)
theorem LI.step(x:LI rows DO R)(n:NS rows (DO.map (·.1)) R st)(y:RI rows (DO.map (·.1)) (DO.map (·.1)++st.map (·.1)) R'):LI rows (DO++st) R':=by
 have em:(DO++st).map (·.1)=DO.map (·.1)++st.map (·.1):=SO;refine⟨wB x.ok (wC (λs hs=>?_) n.once),λt ht=>by rw[em];exact y.Ks t ht,λt r hr h0=>?_⟩
 ·obtain⟨q1,q2,r,q3,q4⟩:=n.ok s hs;have hz:=(x.Ks _ q1).2;rw[pC,jq q3]at hz;exact⟨by simpa using q2,r,q3,q4,by simpa using hz⟩
 ·rw[em]at h0 ⊢;rcases y.all t (Sf.mp hr).1 h0 with z|z
  ·rcases x.all t r hr z with z|z
   ·rcases n.all t z r hr with z|z
    ·exact .inr (SA.mpr (.inl z))
    ·exact .inr (SA.mpr (.inr z))
   ·exact .inr (SA.mpr (.inl z))
  ·exact .inl z
theorem LI.closed(x:LI rows DO []):fw rows (·∈DO.map (·.1)):=λr hr h=>by
 obtain⟨t,ht⟩:=List.mem_iff_getElem?.mp hr;rcases x.all t r ht (by rw[pC,jq ht];exact h) with z|z
 ·cases z
 ·exact z
theorem iW{K L:List W}(h:K.Nodup)(s:∀x∈K,x∈L):K.length<=L.length:=by
 induction K generalizing L with
 |nil=>simp
 |cons a K ih =>
  obtain⟨h1,h2⟩:=SU.mp h;have ha:a∈L:=s a (by simp);have:=ih (L:=L.erase a) h2 λx hx=>by
   have Ez:x≠a:=λe=>h1 (e▸hx);exact(Ya Ez).mpr (s x (by simp[hx]))
  rw[XG ha]at this;have:0<L.length:=XT ha;rw[SE];omega
end
end Od
namespace TM
open PySem L2 D6
section
theorem C0(h:st[j]?=RY (RY (.own,u))):Run (lift (.bor j,u0)) st u (st.set j (RY (.loc,u))):=by
 show(match st[j]? with|some (RY (.own,u))=>RY (Ex.ok u,st.set j (RY (.loc,u)))|_=>R3)=_;rw[h]
theorem zy(h:Run c st R5 st1):Run (gv c body (n+1)) st .nx st1:=aa h aU
theorem yS(h:Run c st R4 st1)(h2:Run body st1 .nx st2)(h3:Run (gv c body n) st2 f st3):Run (gv c body (n+1)) st f st3:=aa h (aa h2 h3)
theorem zA(h:Run (gv (DX Γ c) (execs Γ body) fuel) st .nx st1)(h2:Run (execs Γ ss) st1 f st2):Run (execs Γ (.Iq c body::ss)) st f st2:=fU h h2
theorem pF(hk:k=.loc\/k=.any):Run (cB R4 [i,j] (k,.tup [a,b])) st () ((st.set i (RY (k,a))).set j (RY (k,b))):=by
 rcases hk with rfl|rfl<;>rfl
theorem Bq(h:Run (execs Γ ss) (st.set i (RY (.B',.DJ [] []))) f st1):Run (execs Γ (.newD i::ss)) st f st1:=fU (aa (a:=()) (st1:=st.set i (RY (.B',.DJ [] []))) rfl aU) h
theorem nN(h:st[i]?=RY (RY (.B',.DJ ks us))):Run (fS i) st (ks,us) st:=by
 show fS i st=_;unfold fS;rw[h]
theorem qY:Run (gT (k,.str y)) st y st:=rfl
theorem yT(h2:st[i]?=RY (RY (.B',.DJ ks us)))(h4:y∉ks)(h5:ks.length<R6):Run (jW i y (.own,.lst xs)) st () (st.set i (RY (.B',.DJ (ks++[y]) (us++[.lst xs])))):=by
 show jW i y (.own,.lst xs) st=_;unfold jW
 dsimp only
 rw[h2]
 dsimp only
 rw[Ú ⟨h4,h5⟩]
theorem yU(h0:st[i]?=RY (RY (.B',.DJ ks us)))(h5:cA ks us y=RY (.lst xs))(h6:xs.length<R6):Run (jX i y u) st () (st.set i (RY (.B',.DJ ks (jg ks us y (.lst (xs++[u])))))):=by
 show jX i y u st=_;unfold jX;rw[h0]
 dsimp only
 rw[h5]
 dsimp only
 rw[Ú h6]
theorem C1(h1:Run (ev Γ a) st (k,.str y) st1)(h2:st1[i]?=RY (RY (.B',.DJ ks us))):Run (DX Γ (.inD neg a i)) st (J9 neg y ks) st1 :=
 aa h1 (aa qY (aa (nN h2) aU))
theorem Br(h1:Run (ev Γ ve) st (.own,.lst xs) st1)(h2:st1[i]?=RY (RY (.B',.DJ ks us)))(h3:Run (ev Γ ke) st1 (k,.str y) st1)(h4:y∉ks)(h5:ks.length<R6)
  (h6:Run (execs Γ ss) (st1.set i (RY (.B',.DJ (ks++[y]) (us++[.lst xs])))) f st3):Run (execs Γ (.putD i ke ve::ss)) st f st3:=by
 refine fU ?_ h6;exact aa h1 (aa (nN h2) (aa h3 (aa qY (aa (yT h2 h4 h5) aU))))
theorem Bs(h0:st[i]?=RY (RY (.B',.DJ ks us)))(h1:Run (ev Γ ke) st (k,.str y) st)(h2:y∈ks)(h3:Run (ev Γ ve) st r st)(h4:Run (lift r) st u st)(h5:cA ks us y=RY (.lst xs))(h6:xs.length<R6)
  (h7:Run (execs Γ ss) (st.set i (RY (.B',.DJ ks (jg ks us y (.lst (xs++[u])))))) f st3):Run (execs Γ (.Ft i ke ve::ss)) st f st3:=by
 refine fU ?_ h7;refine aa (nN h0) (aa h1 (aa qY (aa (nN h0) ?_)));rw[Ú h2];exact aa h3 (aa h4 (aa (yU h0 h5 h6) aU))
theorem C2(h:st[i]?=RY (RY (.B',u))):Run (ev Γ (.Jj i)) st (.bor i,u) (st.set i (RY (.own,u))):=by
 show vk i st=_;unfold vk;rw[h]
theorem Bt(h0:st[i]?=RY (RY (.own,.DJ ks us)))(h1:Run (ev Γ a) st (k,.str y) st)(h2:Run (ev Γ b) st z st)(h3:Run (lift z) st u st)(h4:(match cA ks us y with|some v=>(Kd.loc,v)|none=>(.loc,u))=r):
  Run (ev Γ (.FL i a b)) st r st:=by
 refine aa (gf h0) (aa (a:=()) (st1:=st) rfl (aa h1 (aa (a:=y) (st1:=st) rfl (aa h2 (aa h3 (aa (gf h0) (cJ ?_)))))));subst h4;rfl
theorem C3(h0:st[i]?=RY (RY (.own,.lst us)))(h1:Run (ev Γ ke) st (k1,.int (j:Nat)) st)(h2:us[j]?=RY (.int o))(h3:Run (ev Γ ve) st (k2,.int w) st)
  (h4:Run (execs Γ ss) (st.set i (RY (.own,.lst (us.set j (.int (o - w)))))) f st3):Run (execs Γ (.aug R4 i ke ve::ss)) st f st3:=by
 have hl:oM i st=RY (.ok us,st):=by unfold oM;rw[h0];rfl
 have hj:j<us.length:=(Sf.mp h2).1;have hi:oN us (j:Nat)=RY o:=by
  unfold oN;rw[Ú ⋯,TY,h2]
 have hx:Gx us.length (j:Nat)=RY j:=by
  unfold Gx;rw[Ú ⋯]
  first|(rw[Ú ⋯];simp)|simp[hj]
 refine fU (aa (a:=us) (st1:=st) hl (aa h1 (aa (a:=(j:Int)) (st1:=st) rfl (aa (a:=us) (st1:=st) hl (aa (cJ hi) (aa h3 (aa (a:=w) (st1:=st) rfl (aa (a:=()) (st1:=st.set i (RY (.own,.lst (us.set j (.int (o - w)))))) ?_ aU)))))))) h4;show modS i (dm (.int (j:Nat)) (.int (tP R4 o w))) st=_;unfold modS;rw[h0];simp only[Kd.root,if_true,dm];rw[hx];rfl
theorem C4(h0:st[i]?=RY (RY (.own,u)))(h1:vj u=RY r):Run (ev Γ (.Jk i)) st r st:=aa (gf h0) (cJ h1)
end
theorem kJ(f:Str->U)(y:Str):∀ks:List Str,cA ks (ks.map f) y=if y∈ks then RY (f y) else R3
 |[]=>rfl
 |k::ks=>by
  rw[Sd];show(if k=y then RY (f k) else cA ks (ks.map f) y)=_;by_cases e:k=y
  ·subst e;rw[Ú rfl,Ú (by simp)]
  ·rw[Ü e,kJ f y ks];have:(y∈k::ks)↔y∈ks:=by simp[Te e]
   by_cases h:y∈ks
   ·rw[Ú h,Ú (this.mpr h)]
   ·rw[Ü h,Ü λz=>h (this.mp z)]
theorem pG(f:Str->U)(y:Str)(u:U):∀ks:List Str,ks.Nodup->jg ks (ks.map f) y u=ks.map λk=>if k=y then u else f k
 |[],_=>rfl
 |k::ks,h=>by
  obtain⟨h1,h2⟩:=SU.mp h;rw[Sd,Sd];show(if k=y then u::ks.map f else f k::jg ks (ks.map f) y u)=_;by_cases e:k=y
  ·subst e;rw[Ú rfl,Ú rfl];congr 1
   refine Tf λz hz=>?_;have Q3:z≠k:=λq=>h1 (by rw[<-q];exact hz);rw[Ü Q3]
  ·rw[Ü e,Ü e,pG f y u ks h2]
def stN(s:Str×Nat):U:=.tup [.str s.1,.int (s.2:Nat)]
theorem l_(f:α->Int):∀(ns:List α),intsOf (ns.map λa=>U.int (f a))=RY (ns.map f)
 |[]=>rfl
 |n::ns=>by show(intsOf (ns.map λa=>U.int (f a))).map _=_;rw[l_ f ns];rfl
theorem yV(h:ps.length<64)(hn:(ps.map (·.1)).Nodup):∃qs:List (Str×Nat),qs.Perm ps/\vj (.DJ (ps.map (·.1)) (ps.map λp=>.int (p.2:Nat)))=RY (.own,.lst (qs.map stN)):=by
 have hi:=l_ (λp:Str×Nat=>((p.2:Nat):Int)) ps;have hz:(ps.map (·.1)).zip (ps.map λp:Str×Nat=>((p.2:Nat):Int))=ps.map λp=>(p.1,((p.2:Nat):Int)):=by
  rw[List.zip_map']
 let P:=jd ((ps.map λp=>(p.1,((p.2:Nat):Int))).map (·.1));have hP:P.Perm (Sl ps.length):=by
  have:=fD ((ps.map λp=>(p.1,((p.2:Nat):Int))).map (·.1));simpa[P] using this
 refine⟨P.map λi=>ps.getD i (S5,0),?_,?_⟩
 ·refine(hP.map _).trans ?_;have:(Sl ps.length).map (λi=>ps.getD i (S5,0))=ps:=by
   apply UX
   ·simp
   ·intro i h1 h2;simp[VF,h2]
  rw[this]
 ·show(intsOf (ps.map λp=>U.int (p.2:Nat))).bind _=_;rw[hi];show(if (ps.map (·.1)).length<64/\(ps.map (·.1)).Nodup/\(ps.map (·.1)).length=(ps.map λp:Str×Nat=>((p.2:Nat):Int)).length then _ else _)=_;rw[Ú ⟨by simpa using h,hn,by simp⟩,hz];congr 3
  show(xX _).map tM=_;show(P.map λi=>(ps.map λp=>(p.1,((p.2:Nat):Int))).getD i (S5,0)).map tM=_;rw[Sx,Sx];refine Tf λi FA=>?_;have D2:i<ps.length:=TB.mp (hP.mem_iff.mp FA);simp[VF,D2,tM,stN]
theorem C5(h:Sa (j<=i)=c):a5 .ge (.int i) (.int j)=RY c:=by subst h;rfl
theorem wF:a5 .isin (.str x) (.DJ ks vs)=RY (Sa (x∈ks)):=rfl
theorem fL:a5 .DM (.str x) (.DJ ks vs)=RY (!Sa (x∈ks)):=rfl
theorem wG{ss:List Str}:a5 .isin (.str x) (.lst (ss.map U.str))=RY (Sa (x∈ss)):=by
 have h:=@ft x ss;have e:a5 .DM (.str x) (.lst (ss.map U.str))=(a5 .isin (.str x) (.lst (ss.map U.str))).map (!·):=rfl;rw[e,Si]at h;obtain⟨b,h1,h2⟩:=h;rw[h1];congr 1
 cases b<;>simp_all
theorem yW(bs:List Bool):Fd .all [(k,.lst (bs.map .bl))]=RY (.loc,.bl (bs.all id)):=by
 show(fc (bs.map U.bl)).map _=_;have:∀bs:List Bool,fc (bs.map U.bl)=RY bs:=λbs=>by
  induction bs with
  |nil=>rfl
  |cons b bs ih=>show(fc (bs.map U.bl)).map _=_;rw[ih];rfl
 rw[this];rfl
mutual
theorem iC:∀(n:Nat) (u:U),Ek n u=R4->bx u u=R4
 |_,.DR,_=>rfl
 |_,.bl b,_=>by simp[bx]
 |_,.int i,_=>by simp[bx]
 |_,.str x,_=>by simp[bx]
 |0,.tup xs,h=>by simp[Ek]at h
 |0,.lst xs,h=>by simp[Ek]at h
 |n+1,.tup xs,h=>by rw[bx];exact gB n xs (by simpa[Ek] using h)
 |n+1,.lst xs,h=>by rw[bx];exact gB n xs (by simpa[Ek] using h)
 |_,.DJ _ _,h=>by simp[Ek]at h
 |_,.Ew _,h=>by simp[Ek]at h
theorem gB:∀(n:Nat) (us:List U),bY n us=R4->cu us us=R4
 |_,[],_=>rfl
 |n,u::us,h=>by
  have h':Ek n u=R4/\bY n us=R4:=by simpa[bY] using h
  rw[cu,iC n u h'.1,gB n us h'.2];rfl
end
theorem fM(h:Ek 50 u=R4):a5 .ne u u=RY R5:=by
 simp only[a5];rw[Ú ⟨h,h⟩,iC 50 u h];rfl
section
theorem mj{told known:List Str}(hk:k=.loc\/k=.any)(hl:told.length<=1000)(hs:Run (ev Γ src) st (.loc,.tup (told.map .str)) st)(hj:st[j]?=RY (RY (k,w))\/st[j]?=RY (RY (.own,w)))(hw:∀x:Str,a5 .isin (.str x) w=RY (Sa (x∈known))):
  Run (ev Γ (.bi .all [.comp 1 R5 .seq [src] [] (.cmp .isin (.var 0) (.var (j+1)))])) st (.loc,.bl (told.all λx=>Sa (x∈known))) st:=by
 have hsz:(1000:Nat)<=R6:=by decide
 have hx:=eB (cond:=aQ Γ []) (elt:=ev Γ (.cmp .isin (.var 0) (.var (j+1)))) (src:=[(.loc,.tup (told.map .str))]) (st:=st) trivial .loc (.inl rfl) U.str (λx=>.bl (Sa (x∈known))) .loc (λ_=>fq) told [] (by simp;omega)
  (λy _=>⟨by
   rcases hj with hj|hj
   ·rcases hk with rfl|rfl
    ·exact iP (ae rfl) (ae (by simpa using hj)) trivial (hw y)
    ·exact iP (ae rfl) (aZ (by simpa using hj)) trivial (hw y)
   ·exact iP (ae rfl) (ak (by simpa using hj)) ⟨⟨.own,rfl,by simpa using hj⟩,trivial⟩ (hw y),aP⟩)
 rw[Sz]at hx;have e:(told.map U.str).map (λu=>(kE .loc,u))=told.map λr=>(Kd.loc,U.str r):=by rw[Sx];rfl
 have e2:(told.map λx=>U.bl (Sa (x∈known)))=(told.map λx=>Sa (x∈known)).map U.bl:=by rw[Sx];rfl
 rw[e2]at hx;have e3:(told.all λx=>Sa (x∈known))=((told.map λx=>Sa (x∈known)).all id):=by rw[ZL];rfl
 rw[e3];exact eh (ab (b8 (rs:=[(.loc,.tup (told.map .str))]) (ab hs ag) trivial (by show RY _=_;rw[e]) hx) ag) trivial (yW _)
end
theorem nO(h:ks.length<1000)(hx:x∉ks):dm (.str x) u (.DJ ks us)=RY (.DJ (ks++[x]) (us++[u])):=by
 rw[nL h];unfold dput;rw[Ü hx]
theorem pH(h:Ek 50 (.lst us)=R4):a5 .ne (.lst us) (.lst [])=RY (!us.isEmpty):=by
 simp only[a5];rw[Ú ⟨h,by simp[Ek,bY]⟩];cases us with
 |_=>simp[bx,cu]
theorem mn(f:α->Int):∀(l:List α) (n:Nat),bY n (l.map λa=>U.int (f a))=R4
 |[],n=>by simp[bY]
 |a::l,n=>by rw[Sd,bY,mn f l n];simp[Ek]
theorem pI:∀(ss:List (Str×Nat)) (n:Nat),bY (n+1) (ss.map stN)=R4
 |[],n=>by simp[bY]
 |s::ss,n=>by rw[Sd,bY,pI ss n];simp[stN,Ek,bY]
theorem nP{cond:M Bool}(h:bc src st)(a b g:α->U)(p:α->Bool):∀(ys:List α) (acc:List U),acc.length+ys.length<=R6 ->
  (∀y∈ys,Run cond (RY (.loc,a y)::RY (.loc,b y)::st) (p y) (RY (.loc,a y)::RY (.loc,b y)::st)/\Run elt (RY (.loc,a y)::RY (.loc,b y)::st) (.loc,g y) (RY (.loc,a y)::RY (.loc,b y)::st)) ->
  Run (bz 2 R4 cond elt src (ys.map λy=>(Kd.loc,U.tup [a y,b y])) acc) st (acc++(ys.filter p).map g) st
 |[],acc,_,_=>by rw[TV,V_,TV,TF];exact pd h
 |y::ys,acc,hl,hx=>by
  obtain⟨h1,h2⟩:=hx y (by simp);rw[SE]at hl;have ht:Run (cB R4 (Sl 2) (.loc,.tup [a y,b y])) (SH 2 R3++st) () (RY (.loc,a y)::RY (.loc,b y)::st):=pF (.inl rfl);cases hp:p y with
  |true =>
   rw[hp]at h1;refine kq (s1:=RY (.loc,a y)::RY (.loc,b y)::st) (s2:=RY (.loc,a y)::RY (.loc,b y)::st) (s3:=RY (.loc,a y)::RY (.loc,b y)::st) (s4:=RY (.loc,a y)::RY (.loc,b y)::st) h ht h1 h2 aP ⋯ ?_;have:=nP h a b g p ys (acc++[g y]) (by simp;omega) λz hz=>hx z (by simp[hz]);rw[TK,Ú hp,Sd];simpa using this
  |false =>
   rw[hp]at h1;refine qR (s1:=RY (.loc,a y)::RY (.loc,b y)::st) (s2:=RY (.loc,a y)::RY (.loc,b y)::st) h ht h1 ?_;have:=nP h a b g p ys acc ⋯ λz hz=>hx z (by simp[hz]);rw[TK,Ü (by simp[hp])];exact this
theorem set_range(n:Nat)(f:Nat->α)(t:Nat)(v:α):((Sl n).map f).set t v=(Sl n).map λp=>if p=t then v else f p:=by
 apply UX
 ·simp
 ·intro i h1 h2;simp only[List.getElem_set,YT,List.getElem_range];by_cases e:t=i
  ·subst e;simp
  ·rw[Ü e,Ü (Te e)]
theorem yX{rows:List Row}{t:Nat}(h:rows[t]?=RY r):D8 (rows.map A') (t:Int)=RY (A' r):=cc (by simp[h])
section
end
theorem pJ(hp:l.Perm m)(hs:m.Pairwise (λa b=>Fi a b=R4)):ay l=m:=fC ((aR l).trans hp) (dP l) hs
end TM
namespace K
open PySem L2 TM
def top(i:Nat):Vt:=PySem.Challenge.pw_primer_k63_whole_taught_still.main.body.getD i (.Pass ⟨0,0,0,0⟩)
def fN:Fn:=⟨"stem_of",1,1,[.ret (.idx (.F_ .partition (.var 0) [.cst (.str "/")]) (.cst (.int 0)))]⟩
def bU:Fn:=⟨"in_one_order",1,1,[.ret (.tup [.idx (.var 0) (.cst (.int 0)),.bi .tuple [.bi .sorted [.idx (.var 0) (.cst (.int 1))]]])]⟩
def ia:Fn:=⟨"alike",2,2,[.ret (.cmp .eq (.call "in_one_order" [.var 0]) (.call "in_one_order" [.var 1]))]⟩
def kK:Fn:=TM.nK
def eD:Fn:=⟨"gathered",1,4,[.newD 1,.D1 R4 [2,3] .seq [.var 0] [.ite (.inD R4 (.var 2) 1) [.putD 1 (.var 2) (.lst [])] [],.Ft 1 (.var 2) (.var 3)],.ret (.Jj 1)]⟩
def dv:Fn:=⟨"free_name",2,4,[.D1 R5 [2] .Hl [.bin .add (.Hm "FIRST_SENSE" (.int 1)) (.cst (.int 1)),.bin .add (.Hm "LAST_SENSE" (.int 99)) (.cst (.int 1))] [.set 3 (.fst [.var 0,.cst (.str "/"),.var 2]),.ite (.cmp .DM (.var 3) (.var 1)) [.ret (.var 3)] []],.bad]⟩
def dw:Fn:=⟨"new_names",3,9,[.set 3 (.call "words_of" [.var 0]),.set 4 (.call "words_of" [.var 1]),.set 5 (.EU R5),.D1 R5 [6] .seq [.bin .add (.var 3) (.var 4)] [.put 5 (.var 6) (.cst (.bl R4))],.set 7 (.lst []),.D1 R5 [6] .seq [.var 4] [.set 8 (.var 6),.ite (.and [.cmp .isin (.var 6) (.var 3),.cmp .DM (.var 6) (.var 2)]) [.set 8 (.call "free_name" [.call "stem_of" [.var 6],.var 5]),.put 5 (.var 8) (.cst (.bl R4))] [],.app 7 (.tup [.var 6,.var 8])],.ret (.var 7)]⟩
def fO:Fn:=⟨"renamed",2,2,[.ret (.tup [.idx (.var 1) (.idx (.var 0) (.cst (.int 0))),.bi .tuple [.comp 1 R5 .seq [.idx (.var 0) (.cst (.int 1))] [] (.idx (.var 2) (.var 0))]])]⟩
def nQ:Fn:=⟨"laid",3,7,[.set 3 (.bi .dict [.call "new_names" [.var 0,.var 1,.var 2]]),.set 4 (.bi .list [.var 0]),.D1 R5 [5] .seq [.var 1] [.set 6 (.call "renamed" [.var 5,.var 3]),.ite (.not (.bi .any [.comp 1 R5 .seq [.var 4] [] (.call "alike" [.var 0,.var 7])])) [.app 4 (.var 6)] []],.ite (.cmp .gt (.bi .len [.var 4]) (.Hm "MOST_ROWS" (.int 60))) [.bad] [],.ret (.bi .tuple [.var 4])]⟩
def bJ:Fn:=⟨"places_that_tell",1,4,[.set 1 (.lst []),.D1 R4 [2,3] .Ip [.var 0] [.ext 1 (.comp 1 R5 .seq [.idx (.var 3) (.cst (.int 1))] [] (.tup [.var 0,.var 3]))],.ret (.call "gathered" [.var 1])]⟩
def dy:Fn:=⟨"new_steps",3,6,[.set 3 (.EU R5),.D1 R5 [4] .seq [.var 1] [.set 5 (.idx (.idx (.var 0) (.var 4)) (.cst (.int 0))),.ite (.and [.cmp .DM (.var 5) (.var 2),.cmp .DM (.var 5) (.var 3)]) [.put 3 (.var 5) (.var 4)] []],.ret (.Jk 3)]⟩
def bQ:Fn:=⟨"steps_in_rounds",1,10,[.set 1 (.call "places_that_tell" [.var 0]),.set 2 (.comp 1 R5 .seq [.var 0] [] (.bi .len [.idx (.var 0) (.cst (.int 1))])),.set 3 (.EU R5),.set 4 (.lst []),.set 5 (.comp 2 R4 .Ip [.var 2] [.cmp .eq (.var 1) (.cst (.int 0))] (.var 0)),.Iq (.cmp .ne (.var 5) (.lst [])) [.set 6 (.call "new_steps" [.var 0,.var 5,.var 3]),.set 5 (.lst []),.D1 R4 [7,8] .seq [.var 6] [.put 3 (.var 7) (.cst (.bl R4)),.D1 R5 [9] .seq [.FL 1 (.var 7) (.lst [])] [.aug R4 2 (.var 9) (.cst (.int 1)),.ite (.cmp .eq (.idx (.var 2) (.var 9)) (.cst (.int 0))) [.app 5 (.var 9)] []]],.ite (.cmp .ne (.var 6) (.lst [])) [.app 4 (.var 6)] []],.ret (.var 4)]⟩
def ib:Fn:=⟨"order",1,3,[.set 1 (.lst []),.D1 R5 [2] .seq [.call "steps_in_rounds" [.var 0]] [.ext 1 (.var 2)],.ret (.var 1)]⟩
def ic:Fn:=⟨"learnt",1,1,[.ret (.bi .sorted [.comp 2 R4 .seq [.call "order" [.var 0]] [] (.var 0)])]⟩
def cZ:Fn:=⟨"is_step",3,6,[.set 3 (.idx (.var 1) (.cst (.int 0))),.set 4 (.idx (.var 1) (.cst (.int 1))),.ite (.or [.cmp .lt (.var 4) (.cst (.int 0)),.cmp .ge (.var 4) (.bi .len [.var 0])]) [.ret (.cst (.bl R5))] [],.set 5 (.idx (.var 0) (.var 4)),.ret (.and [.cmp .eq (.idx (.var 5) (.cst (.int 0))) (.var 3),.cmp .DM (.var 3) (.var 2),.bi .all [.comp 1 R5 .seq [.idx (.var 5) (.cst (.int 1))] [] (.cmp .isin (.var 0) (.var 3))]])]⟩
def eE:Fn:=⟨"is_order",2,4,[.set 2 (.EU R5),.D1 R5 [3] .seq [.var 1] [.ite (.not (.call "is_step" [.var 0,.var 3,.var 2])) [.ret (.cst (.bl R5))] [],.put 2 (.idx (.var 3) (.cst (.int 0))) (.cst (.bl R4))],.ret (.cst (.bl R4))]⟩
def mq:Fn:=TM.tZ
def kL:Fn:=TM.sy
def iX:Fn:=TM.nE
def kM:Fn:=⟨"_law_name",2,6,[.set 2 (.cst (.str "abcdefghijklmnopqrstuvwxyz")),.set 3 (.F_ .join (.cst (.str "")) [.comp 1 R5 .Eb [.bin .add (.cst (.int 1)) (.bin .mod (.idx (.var 0) (.cst (.int 0))) (.cst (.int 8)))] [] (.idx (.var 3) (.bin .mod (.idx (.var 1) (.bin .add (.cst (.int 4)) (.var 0))) (.cst (.int 26))))]),.ite (.cmp .gt (.bi .len [.var 1]) (.cst (.int 0))) [.set 4 (.idx (.F_ .split (.idx (.var 1) (.bin .mod (.idx (.var 0) (.cst (.int 1))) (.bi .len [.var 1]))) [.cst (.str "/")]) (.cst (.int 0))),.ite (.cmp .eq (.bin .mod (.idx (.var 0) (.cst (.int 2))) (.cst (.int 4))) (.cst (.int 1))) [.set 3 (.FD (.bin .add (.var 4) (.var 3)) [] [.cst (.int 8)])] [],.ite (.cmp .eq (.bin .mod (.idx (.var 0) (.cst (.int 2))) (.cst (.int 4))) (.cst (.int 2))) [.set 3 (.bin .add (.bin .add (.var 4) (.cst (.str "/"))) (.bi .str [.bin .add (.cst (.int 2)) (.bin .mod (.idx (.var 0) (.cst (.int 3))) (.idx (.lst [.cst (.int 3),.cst (.int 98)]) (.bin .mod (.bin .Fs (.idx (.var 0) (.cst (.int 3))) (.cst (.int 8))) (.cst (.int 2)))))]))] []] [],.set 5 (.bin .add (.lst [.var 3]) (.comp 1 R5 .Eb [.cst (.int 40)] [] (.bin .add (.idx (.var 3) (.bin .Fs (.var 0) (.cst (.int 26)))) (.idx (.var 3) (.bin .mod (.var 0) (.cst (.int 26))))))),.ret (.idx (.comp 1 R5 .seq [.var 5] [.cmp .DM (.var 0) (.var 2)] (.var 0)) (.cst (.int 0)))]⟩
def iY:Fn:=TM.fNames
def kN:Fn:=TM.iU
def kO:Fn:=TM.wo
def cV:Fn:=⟨"_law_learnt",1,5,[.set 1 (.EU R5),.set 2 (.cst (.bl R4)),.Iq (.var 2) [.set 2 (.cst (.bl R5)),.D1 R4 [3,4] .seq [.var 0] [.ite (.and [.cmp .DM (.var 3) (.var 1),.bi .all [.comp 1 R5 .seq [.var 4] [] (.cmp .isin (.var 0) (.var 2))]]) [.put 1 (.var 3) (.cst (.bl R4)),.set 2 (.cst (.bl R4))] []]],.ret (.bi .sorted [.var 1])]⟩
def dz:Fn:=⟨"_law_words",1,4,[.set 1 (.lst []),.D1 R4 [2,3] .seq [.var 0] [.set 1 (.bin .add (.bin .add (.var 1) (.lst [.var 2])) (.bi .list [.var 3]))],.ret (.GJ .sset [.var 1])]⟩
def dA:Fn:=⟨"_law_alone",1,2,[.set 1 (.call "_law_words" [.var 0]),.ite (.or [.cmp .ne (.call "laid" [.var 0,.var 0,.var 1]) (.var 0),.cmp .ne (.call "laid" [.var 0,.tup [],.lst []]) (.var 0),.cmp .ne (.call "laid" [.tup [],.var 0,.FD (.var 1) [] [.cst (.int 2)]]) (.var 0)]) [.ret (.cst (.bl R5))] [],.ret (.cmp .eq (.call "new_names" [.tup [],.var 0,.lst []]) (.comp 1 R5 .seq [.var 1] [] (.tup [.var 0,.var 0])))]⟩
def sH:Fn:=⟨"law",1,12,[.set 1 (.call "_law_drawn" [.call "_law_cell" [.var 0,.cst (.int 0)],.cst (.int 21)]),.set 2 (.call "_law_names" [.var 0,.cst (.int 1),.bin .add (.cst (.int 1)) (.bin .mod (.idx (.var 1) (.cst (.int 0))) (.cst (.int 14)))]),.set 3 (.call "_law_book" [.var 0,.cst (.int 20),.FD (.var 2) [] [.bin .add (.cst (.int 1)) (.bin .mod (.idx (.var 1) (.cst (.int 1))) (.bi .len [.var 2]))],.bin .mod (.idx (.var 1) (.cst (.int 3))) (.cst (.int 21))]),.set 4 (.call "_law_book" [.var 0,.cst (.int 40),.FD (.var 2) [.bin .mod (.idx (.var 1) (.cst (.int 2))) (.bi .len [.var 2])] [],.bin .mod (.idx (.var 1) (.cst (.int 4))) (.cst (.int 21))]),.set 5 (.comp 1 R5 .Eb [.bi .len [.var 2]] [.or [.cmp .eq (.bin .mod (.idx (.var 2) (.bin .add (.cst (.int 6)) (.var 0))) (.cst (.int 3))) (.cst (.int 0)),.cmp .eq (.bin .mod (.idx (.var 2) (.cst (.int 5))) (.cst (.int 4))) (.cst (.int 1))]] (.idx (.var 3) (.var 0))),.ite (.cmp .eq (.bin .mod (.idx (.var 1) (.cst (.int 5))) (.cst (.int 4))) (.cst (.int 2))) [.set 5 (.lst [])] [],.set 6 (.call "laid" [.var 3,.var 4,.var 5]),.set 7 (.call "_law_learnt" [.var 6]),.set 8 (.bi .dict [.call "new_names" [.var 3,.var 4,.var 5]]),.set 9 (.GJ .sset [.bin .add (.call "_law_learnt" [.var 3]) (.comp 1 R5 .seq [.call "_law_learnt" [.var 4]] [] (.idx (.var 9) (.var 0)))]),.ite (.or [.cmp .ne (.comp 1 R5 .seq [.var 9] [.cmp .DM (.var 0) (.var 8)] (.var 0)) (.lst []),.cmp .ne (.call "learnt" [.var 6]) (.var 7)]) [.ret (.cst (.bl R5))] [],.set 10 (.comp 1 R5 .seq [.var 5] [.and [.cmp .isin (.var 0) (.call "_law_words" [.var 4]),.cmp .isin (.var 0) (.call "_law_words" [.var 5])]] (.var 0)),.ite (.and [.cmp .eq (.var 10) (.lst []),.cmp .ne (.var 7) (.var 9)]) [.ret (.cst (.bl R5))] [],.set 11 (.call "order" [.var 6]),.ite (.or [.cmp .ne (.bi .sorted [.comp 1 R5 .seq [.var 11] [] (.idx (.var 0) (.cst (.int 0)))]) (.var 7),.cmp .GH (.call "is_order" [.var 6,.var 11]) (.cst (.bl R4))]) [.ret (.cst (.bl R5))] [],.ret (.and [.call "_law_alone" [.var 3],.call "_law_alone" [.var 4]])]⟩
def prog:List Fn:=[fN,bU,ia,kK,eD,dv,dw,fO,nQ,bJ,dy,bQ,ib,ic,cZ,eE,mq,kL,iX,kM,iY,kN,kO,cV,dz,dA,sH]
def ck:Ck:=⟨prog.map (·.name),[("FIRST_SENSE",(.int 1)),("LAST_SENSE",(.int 99)),("MOST_ROWS",(.int 60))]⟩
end K
namespace TM
open PySem L2 D6
abbrev Pr:=Str×Str
def EW(p:Pr):U:=.tup [.str p.1,.str p.2]
def nm(aX:Str)(i:Nat):Str:=aX++fZ++il (2+(i:Int))
theorem wH:∀i j:Nat,i<98->j<98->il (2+(i:Int))=il (2+(j:Int))->i=j:=by
 have h:∀i:_root_.Fin 98,∀j:_root_.Fin 98,(il (2+((i:Nat):Int))).cps.toList=(il (2+((j:Nat):Int))).cps.toList->i=j:=by decide +kernel
 intro i j hi hj e;have:=h ⟨i,hi⟩ ⟨j,hj⟩ (by rw[e]);exact ß _root_.Fin.val this
theorem Bu(hi:i<98)(hj:j<98)(e:nm aX i=nm aX j):i=j:=by
 refine wH i j hi hj (fB ?_);have h:=ß (λx:Str=>x.cps.toList) e;simp only[nm,nJ]at h;exact List.append_cancel_left h
def cands(aX:Str):List Str:=(Sl 98).map (nm aX)
theorem pK(aX:Str):(cands aX).Nodup:=fu (λi hi j hj e=>Bu (TB.mp hi) (TB.mp hj) e) YR
def eR(aX:Str)(L:List Str):Str:=((cands aX).find? λx=>Sa (x∉L)).getD ""
theorem iD(aX:Str)(h:L.length<98):(cands aX).find? (λx=>Sa (x∉L))=RY (eR aX L)/\eR aX L∉L:=by
 cases e:(cands aX).find? λx=>Sa (x∉L) with
 |none =>
  have h1:∀x∈cands aX,x∈L:=λx hx=>by
   have:=List.find?_eq_none.mp e x hx;simpa using this
  have:=g_ (pK aX) h1;simp[cands]at this;omega
 |some x =>
  have hx:=List.find?_some e;have:eR aX L=x:=by unfold eR;rw[e];rfl
  rw[this];exact⟨rfl,by simpa using hx⟩
theorem qZ(aX:Str){L M:List Str}(h:∀x,x∈L↔x∈M):eR aX L=eR aX M:=by
 unfold eR;have:(λx=>Sa (x∉L))=λx=>Sa (x∉M):=by funext x;simp[h x]
 rw[this]
def stemOf(w:Str):Str:=(S4 w fZ).1
def newName(mine theirs same:List Str)(acc:List Pr)(w:Str):Str:=if w∈mine/\w∉same then eR (stemOf w) (mine++theirs++acc.map (·.2)) else w
def gC(mine theirs same:List Str):List Pr->List Str->List Pr
 |acc,[]=>acc
 |acc,w::ws=>gC mine theirs same (acc++[(w,newName mine theirs same acc w)]) ws
structure pL(mine theirs:List Str)(acc:List Pr)(rest:List Str):Prop where
 all:acc.map (·.1)++rest=theirs
 own:∀p∈acc,p.2=p.1\/p.2∉mine++theirs
 once:(acc.map (·.2)).Nodup
theorem pL.step(h:pL mine theirs acc (w::ws))(DW:theirs.Nodup)(hl:mine.length+theirs.length+acc.length<98):pL mine theirs (acc++[(w,newName mine theirs same acc w)]) ws:=by
 have hw:w∈theirs:=by rw[<-h.all];simp
 have Kr:w∉acc.map (·.1):=λz=>by
  have:=DW;rw[<-h.all,SW]at this;exact this.2.2 w z w (by simp) rfl
 have hf:=(iD (stemOf w) (L:=mine++theirs++acc.map (·.2)) (by simp;omega)).2;have Fb:newName mine theirs same acc w=w\/newName mine theirs same acc w∉mine++theirs:=by
  unfold newName;split
  ·exact .inr λz=>hf (TJ _ z)
  ·exact .inl rfl
 have G4:newName mine theirs same acc w∉acc.map (·.2):=by
  unfold newName;split
  ·exact λz=>hf (SV _ z)
  ·intro z;obtain⟨p,hp,e⟩:=So.mp z;rcases h.own p hp with q|q
   ·exact Kr (So.mpr ⟨p,hp,by rw[<-q,e]⟩)
   ·exact q (by rw[e];exact SV _ hw)
 refine⟨by rw[<-h.all];simp,λp hp=>?_,?_⟩
 ·rcases SA.mp hp with hp|hp
  ·exact h.own p hp
  ·rw[SX.mp hp];exact Fb
 ·rw[SO,SW];refine⟨h.once,by simp,λa ha b hb e=>?_⟩;have:b=newName mine theirs same acc w:=by simpa using hb
  subst this;subst e;exact G4 ha
theorem sI(DW:theirs.Nodup)(hl:mine.length+theirs.length+theirs.length<98):∀(ws:List Str) (acc:List Pr),pL mine theirs acc ws->pL mine theirs (gC mine theirs same acc ws) []
 |[],acc,h=>h
 |w::ws,acc,h=>sI DW hl ws _ (h.step DW (by have:=ß Tn h.all;simp at this;omega))
theorem ud(h:a9 w.cps.toList):(stemOf w).length<=8/\∃r,UH w fZ=stemOf w::r:=by
 obtain⟨y,r,h1,h2,h3⟩:=t_ h;unfold stemOf;rw[h2];exact⟨h3,r,h1⟩
theorem Bv(h:aX.length<=8)(hi:i<98):(nm aX i).length<=11:=by
 have:=fK (k:=2+(i:Int)) ⋯ ⋯;rw[nm,str_len,str_len];have:fZ.length=1:=rfl;omega
end TM
namespace K
open PySem L2 TM D6
section
theorem pM(h:w.length<=1000):bC Γ fN [.str w]=RY (.ok (.loc,.str (stemOf w))):=by
 have hsz:(1000:Nat)<=R6:=by decide
 have hp:iw .partition (.str w) [(.loc,.str "/")]=RY (.loc,.tup [.str (S4 w "/").1,.str (S4 w "/").2.1,.str (S4 w "/").2.2]):=by
  show(if (VI "/"==0)=R5/\w.length<=R6 then _ else _)=_;rw[Ú ⟨by decide,⋯⟩]
 exact aD (st0:=[RY (.loc,.str w)]) rfl (.inr rfl) rfl (bP (bo (sr (ae rfl) (ab ar ag) trivial hp) ar trivial rfl) du)
def wI:List TM.S:=[.set 3 (.fst [.var 0,.cst (.str "/"),.var 2]),.ite (.cmp .DM (.var 3) (.var 1)) [.ret (.var 3)] []]
theorem mr(hs:aX.length<=8)(Na:∀st,bc rs st):∀(is:List Nat) (o2 o3:Option (Kd×U)),(∀i∈is,i<98)->(is.map (nm aX)).find? (λx=>Sa (x∉ks))=RY x ->
  ∃st',Run (forM R5 [2] (execs Γ wI) rs (is.map λi:Nat=>(Kd.loc,U.int (2+(i:Int))))) [RY (.loc,.str aX),RY (.any,.DJ ks vs),o2,o3] (.rt .loc (.str x)) st'
 |[],_,_,_,h=>by simp at h
 |i::is,o2,o3,hi,h=>by
  have Nb:=hi i (by simp);let S:=λ(o3:Option (Kd×U))=>([RY (.loc,.str aX),RY (.any,.DJ ks vs),RY (.loc,.int (2+(i:Int))),o3]:aj)
  have G7:=Bv hs Nb;have g3:Run (ev Γ (.fst [.var 0,.cst (.str "/"),.var 2])) (S o3) (.loc,.str (nm aX i)) (S o3):=by
   have e0:S5++aX=aX:=empty_app aX;have f1:=sG (y:=aX) (out:=S5) ⋯ (by decide);rw[e0]at f1;have f2:=sG (y:="/") (out:=aX) (by decide) ⋯;have f3:=yR (k:=2+(i:Int)) (out:=aX++("/":Str)) ⋯ ⋯ (by rw[str_len];have:VI "/"=1:=rfl;omega);exact CZ (qW (ae rfl) f1 (qW ar f2 (qW (ae rfl) f3 CY)))
  have tc:Run (DX Γ (.cmp .DM (.var 3) (.var 1))) (S (RY (.loc,.str (nm aX i)))) (!Sa (nm aX i∈ks)) (S (RY (.loc,.str (nm aX i)))):=bj (ae rfl) (aZ rfl) trivial rfl;have Ff:Run (cB R5 [2] (.loc,.int (2+(i:Int)))) [RY (.loc,.str aX),RY (.any,.DJ ks vs),o2,o3] () (S o3):=cn aE;rw[Sd,Um]at h;by_cases EH:nm aX i∈ks
  ·rw[Ý (λz=>z EH)]at h;rw[Þ EH]at tc;obtain⟨st',hr⟩:=mr hs Na is (RY (.loc,.int (2+(i:Int)))) (RY (.loc,.str (nm aX i))) (λj hj=>hi j (by simp[hj])) h;exact⟨st',oZ (Na _) Ff (aq g3 aE (dG tc (λh=>by cases h) λ_=>aF)) hr⟩
  ·rw[Þ EH]at h;rw[Ý EH]at tc;cases h;exact⟨_,CV (Na _) Ff (aq g3 aE (dG tc (λ_=>bP (ae rfl) du) λh=>by cases h))⟩
theorem wJ(hs:aX.length<=8)(hk:ks.length<98):bC Γ dv [.str aX,.DJ ks vs]=RY (.ok (.loc,.str (eR aX ks))):=by
 have DS:TM.start [.str aX,.DJ ks vs] 4=[RY (.loc,.str aX),RY (.any,.DJ ks vs),R3,R3]:=rfl;obtain⟨st',hr⟩:=mr (Γ:=Γ) hs (ks:=ks) (vs:=vs) (rs:=[(.loc,.int (1+1)),(.loc,.int (99+1))]) (λ_=>trivial) (Sl 98) R3 R3 (λi hi=>TB.mp hi) (iD aX hk).1;exact aD rfl (.inr rfl) DS (tY (wa (rs:=[(.loc,.int (1+1)),(.loc,.int (99+1))]) (ab (bA vZ ar trivial dB) (ab (bA vZ ar trivial dB) ag)) trivial rfl rfl hr))
end
end K
namespace TM
open PySem L2 D6
theorem pN:∀(ps:List Pr) (n:Nat),bY (n+1) (ps.map EW)=R4
 |[],n=>by simp[bY]
 |p::ps,n=>by rw[Sd,bY,pN ps n];simp[EW,Ek,bY]
end TM
namespace K
open PySem L2 TM D6
section
theorem kP(hs:∀st,bc src st):∀(ws:List Str) (ks:List Str) (vs:List U) (o6:Option (Kd×U)),ks.length+ws.length<1000 ->
  ∃FO Ea Hw,(∀x,x∈FO↔x∈ks\/x∈ws)/\FO.length<=ks.length+ws.length/\Run (forM R5 [6] (execs Γ [.put 5 (.var 6) (.cst (.bl R4))]) src (ws.map λx=>(Kd.loc,U.str x))) [o0,o1,o2,o3,o4,RY (.own,.DJ ks vs),o6,o7,o8] .nx [o0,o1,o2,o3,o4,RY (.own,.DJ FO Ea),Hw,o7,o8]
 |[],ks,vs,o6,_=>⟨ks,vs,o6,by simp,by simp,oY (hs _)⟩
 |w::ws,ks,vs,o6,hl=>by
  rw[SE]at hl;have F9:=pA (ks:=ks) (us:=vs) (x:=w) (u:=.bl R4);obtain⟨FO,Ea,Hw,h1,h2,h3⟩:=kP (o0:=o0) (o1:=o1) (o2:=o2) (o3:=o3) (o4:=o4) (o7:=o7) (o8:=o8) hs ws (dput ks vs w (.bl R4)).1 (dput ks vs w (.bl R4)).2 (RY (.loc,.str w)) ⋯;refine⟨FO,Ea,Hw,λx=>?_,by simp;omega,oZ (hs _) (cn aE) (kC (st1:=[o0,o1,o2,o3,o4,RY (.own,.DJ ks vs),RY (.loc,.str w),o7,o8]) (st2:=[o0,o1,o2,o3,o4,RY (.own,.DJ ks vs),RY (.loc,.str w),o7,o8]) (st3:=[o0,o1,o2,o3,o4,RY (.own,.DJ ks vs),RY (.loc,.str w),o7,o8]) (k:=.own) (k':=.own) ar rfl (ae rfl) (aK aP (aK aP aN)) rfl rfl (nL ⋯) aF) h3⟩;rw[h1,pz,Sn,or_assoc]
def wK:List TM.S:=[.set 8 (.var 6),.ite (.and [.cmp .isin (.var 6) (.var 3),.cmp .DM (.var 6) (.var 2)]) [.set 8 (.call "free_name" [.call "stem_of" [.var 6],.var 5]),.put 5 (.var 8) (.cst (.bl R4))] [],.app 7 (.tup [.var 6,.var 8])]
theorem gD(II:k2=.loc\/k2=.any)(Kt:∀x:Str,a5 .DM (.str x) u2=RY (Sa (x∉same)))
  (Fx:∀w:Str,a9 w.cps.toList->Γ "stem_of" [.str w]=RY (.ok (.loc,.str (stemOf w)))) (D5:∀(aX:Str) (ks:List Str) (vs:List U),aX.length<=8->ks.length<98->Γ "free_name" [.str aX,.DJ ks vs]=RY (.ok (.loc,.str (eR aX ks))))
  (hm:mine.length<=14) (ht:theirs.length<=14) (hw:∀x∈theirs,a9 x.cps.toList):∀(ws:List Str) (acc:List Pr) (ks:List Str) (vs:List U) (o6 o8:Option (Kd×U)),(∀x,x∈ks↔x∈mine++theirs++acc.map (·.2))->ks.length<=28+acc.length->acc.map (·.1)++ws=theirs ->
  ∃FO Ea Hw Fm,Run (forM R5 [6] (execs Γ wK) [(.bor 4,.lst (theirs.map .str))] (ws.map λx=>(Kd.loc,U.str x))) [o0,o1,RY (k2,u2),RY (.own,.lst (mine.map .str)),RY (.own,.lst (theirs.map .str)),RY (.own,.DJ ks vs),o6,RY (.own,.lst (acc.map EW)),o8] .nx
   [o0,o1,RY (k2,u2),RY (.own,.lst (mine.map .str)),RY (.own,.lst (theirs.map .str)),RY (.own,.DJ FO Ea),Hw,RY (.own,.lst ((gC mine theirs same acc ws).map EW)),Fm]
 |[],acc,ks,vs,o6,o8,_,_,_=>⟨ks,vs,o6,o8,oY ⟨⟨.own,rfl,rfl⟩,trivial⟩⟩
 |w::ws,acc,ks,vs,o6,o8,Fp,Io,EG=>by
  have hsz:(1000:Nat)<=R6:=by decide
  have OH:w∈theirs:=by rw[<-EG];simp
  have Hh:acc.length<14:=by have:=ß Tn EG;simp at this;omega
  have OI:=hw w OH;let S:=λ(ks:List Str) (vs:List U) (acc:List Pr) (o8:Option (Kd×U))=>([o0,o1,RY (k2,u2),RY (.own,.lst (mine.map .str)),RY (.own,.lst (theirs.map .str)),RY (.own,.DJ ks vs),RY (.loc,.str w),RY (.own,.lst (acc.map EW)),o8]:aj)
  have Q4:Run (ev Γ (.var 2)) (S ks vs acc (RY (.loc,.str w))) (k2,u2) (S ks vs acc (RY (.loc,.str w))):=by
   rcases II with rfl|rfl
   ·exact ae rfl
   ·exact aZ rfl
  have Im:∀st,bc [(.loc,.str w),(k2,u2)] st:=λst=>by rcases II with rfl|rfl<;>trivial
  have tc:Run (DX Γ (.and [.cmp .isin (.var 6) (.var 3),.cmp .DM (.var 6) (.var 2)])) (S ks vs acc (RY (.loc,.str w))) (Sa (w∈mine)&&Sa (w∉same)) (S ks vs acc (RY (.loc,.str w))) :=
   iQ (kF (bj (ae rfl) (ak rfl) ⟨⟨.own,rfl,rfl⟩,trivial⟩ wG) λ_=>cO (bj (ae rfl) Q4 (Im _) (Kt w)))
  have app:∀(ks:List Str) (vs:List U) (x:Str),Run (execs Γ [.app 7 (.tup [.var 6,.var 8])]) (S ks vs acc (RY (.loc,.str x))) .nx (S ks vs (acc++[(w,x)]) (RY (.loc,.str x))):=λks vs x=>by
   have e:(acc++[(w,x)]).map EW=acc.map EW++[EW (w,x)]:=by simp
   show Run _ _ _ [o0,o1,RY (k2,u2),RY (.own,.lst (mine.map .str)),RY (.own,.lst (theirs.map .str)),RY (.own,.DJ ks vs),RY (.loc,.str w),RY (.own,.lst ((acc++[(w,x)]).map EW)),RY (.loc,.str x)];rw[e];exact iT (k:=.own) (k':=.own) (r:=(.loc,EW (w,x))) rfl (km (ab (ae rfl) (ab (ae rfl) ag)) trivial (aK aP (aK aP aN)) (by show 2<=R6;omega)) aP rfl rfl (by rw[R9];omega) aF
  by_cases hc:w∈mine/\w∉same
  ·have hb:(Sa (w∈mine)&&Sa (w∉same))=R4:=by simp[hc.1,hc.2]
   rw[hb]at tc;have hs:=(ud OI).1;have hf:=D5 (stemOf w) ks vs hs ⋯;rw[qZ (stemOf w) Fp]at hf;have hx:newName mine theirs same acc w=eR (stemOf w) (mine++theirs++acc.map (·.2)):=by unfold newName;rw[Ú hc]
   rw[<-hx]at hf;let x:=newName mine theirs same acc w;obtain⟨FO,Ea,Hw,Fm,hr⟩:=gD (o0:=o0) (o1:=o1) II Kt Fx D5 hm ht hw ws (acc++[(w,x)]) (dput ks vs x (.bl R4)).1 (dput ks vs x (.bl R4)).2 (RY (.loc,.str w)) (RY (.loc,.str x)) (λz=>by
    rw[pz,Fp];simp[or_assoc]) (by have:=pA (ks:=ks) (us:=vs) (x:=x) (u:=.bl R4);simp;omega) (by rw[<-EG];simp)
   refine⟨FO,Ea,Hw,Fm,oZ ⟨⟨.own,rfl,rfl⟩,trivial⟩ (cn aE) (aq (r:=(.loc,.str w)) (ae rfl) aE (dG tc (λ_=>?_) λh=>by cases h)) hr⟩;exact aq (r:=(.loc,.str x)) (aM (ab (aM (ab (ae rfl) ag) trivial (Fx w OI)) (ab (ak rfl) ag)) ⟨⟨.own,rfl,rfl⟩,trivial⟩ hf) aE
    (kC (st1:=S ks vs acc (RY (.loc,.str x))) (st2:=S ks vs acc (RY (.loc,.str x))) (st3:=S ks vs acc (RY (.loc,.str x))) (k:=.own) (k':=.own) ar rfl (ae rfl) (aK aP (aK aP aN)) rfl rfl (nL ⋯) (app _ _ x))
  ·have hb:(Sa (w∈mine)&&Sa (w∉same))=R5:=by
    rw[YM];intro z;simp only[R7,Û]at z;exact hc z
   rw[hb]at tc;have hx:newName mine theirs same acc w=w:=by unfold newName;rw[Ü hc]
   obtain⟨FO,Ea,Hw,Fm,hr⟩:=gD (o0:=o0) (o1:=o1) II Kt Fx D5 hm ht hw ws (acc++[(w,w)]) ks vs (RY (.loc,.str w)) (RY (.loc,.str w)) (λz=>by
    rw[Fp];simp only[SO,Sd,TV,SA,SX];exact⟨λq=>q.elim .inl λq=>.inr (.inl q),λq=>q.elim .inl λq=>q.elim .inr λe=>.inl (.inr (e▸OH))⟩) (by simp;omega) (by rw[<-EG];simp)
   refine⟨FO,Ea,Hw,Fm,oZ ⟨⟨.own,rfl,rfl⟩,trivial⟩ (cn aE) (aq (r:=(.loc,.str w)) (ae rfl) aE (dG tc (λh=>by cases h) λ_=>app ks vs w)) ?_⟩;rw[gC,hx];exact hr
end
section
variable{Γ:Tab}{one other:List Row}{same:List Str}
theorem fP{ss:List Str}(hk:kE k=.loc):Fu .seq [(k,.lst (ss.map .str))]=RY (ss.map λx=>(Kd.loc,U.str x)):=by
 show RY ((ss.map U.str).map λu=>(kE k,u))=_;rw[Sx,hk];rfl
theorem ll(II:(if D' u2=R4 then Kd.loc else Kd.any)=k2)(Kt:∀x:Str,a5 .DM (.str x) u2=RY (Sa (x∉same)))
  (GS:∀rows,rows=one\/rows=other->Γ "words_of" [.tup (rows.map A')]=RY (.ok (.own,.lst ((aw rows).map .str))))
  (Fx:∀w:Str,a9 w.cps.toList->Γ "stem_of" [.str w]=RY (.ok (.loc,.str (stemOf w)))) (D5:∀(aX:Str) (ks:List Str) (vs:List U),aX.length<=8->ks.length<98->Γ "free_name" [.str aX,.DJ ks vs]=RY (.ok (.loc,.str (eR aX ks))))
  (hm:(aw one).length<=14) (ht:(aw other).length<=14) (hw:∀x∈aw other,a9 x.cps.toList) :
  bC Γ dw [.tup (one.map A'),.tup (other.map A'),u2]=RY (.ok (.own,.lst ((gC (aw one) (aw other) same [] (aw other)).map EW))):=by
 have hsz:(1000:Nat)<=R6:=by decide
 have Nc:k2=.loc\/k2=.any:=by rw[<-II];split<;>simp
 let mine:=aw one;let theirs:=aw other;have RO:mine.length<=14:=hm;have RP:theirs.length<=14:=ht;let r0:Option (Kd×U):=RY (.loc,.tup (one.map A'));let r1:Option (Kd×U):=RY (.loc,.tup (other.map A'));have DS:TM.start [.tup (one.map A'),.tup (other.map A'),u2] 9=[r0,r1,RY (k2,u2),R3,R3,R3,R3,R3,R3]:=by simp[TM.start,D',ba,II,r0,r1]
 let m3:Option (Kd×U):=RY (.own,.lst (mine.map .str));let m4:Option (Kd×U):=RY (.own,.lst (theirs.map .str));obtain⟨ks,vs,o6,h1,h2,h3⟩:=kP (Γ:=Γ) (o0:=r0) (o1:=r1) (o2:=RY (k2,u2)) (o3:=m3) (o4:=m4) (o7:=R3) (o8:=R3) (src:=[(.own,.lst ((mine++theirs).map .str))]) (λ_=>trivial) (mine++theirs) [] [] R3 (by simp;omega);have F7:ks.length<=28:=by simp at h2;omega
 obtain⟨FO,Ea,q6,q8,h4⟩:=gD (Γ:=Γ) (mine:=mine) (theirs:=theirs) (same:=same) (o0:=r0) (o1:=r1) Nc Kt Fx D5 hm ht hw theirs [] ks vs o6 R3 (λx=>by rw[h1];simp) (by simpa using F7) rfl;have ad:Fc .add (.bor 3,.lst (mine.map .str)) (.bor 4,.lst (theirs.map .str))=RY (.own,.lst ((mine++theirs).map .str)):=by
  rw[SO];exact kI (by simp;omega) rfl rfl
 exact aD rfl (.inl rfl) DS (aq (r:=(.own,.lst (mine.map .str))) (aM (ab (ae rfl) ag) trivial (GS one (.inl rfl))) aS (aq (r:=(.own,.lst (theirs.map .str))) (aM (ab (ae rfl) ag) trivial (GS other (.inr rfl))) aS
  (aq (r:=(.own,.DJ [] [])) gz aS (cM (rs:=[(.own,.lst ((mine++theirs).map .str))]) (ab (bA (ak rfl) (ak rfl) ⟨⟨.own,rfl,rfl⟩,⟨.own,rfl,rfl⟩,trivial⟩ ad) ag) trivial (fP rfl) rfl h3
   (aq (r:=(.own,.lst [])) (bX ag trivial aN (SM _)) aS (cM (rs:=[(.bor 4,.lst (theirs.map .str))]) (ab (ak rfl) ag) ⟨⟨.own,rfl,rfl⟩,trivial⟩ (fP rfl) rfl h4 (bP (ak rfl) (l0 rfl))))))))
theorem lp(hl:rows.length<=100)(hr:∀r∈rows,aW names r)(hn:names.length<64):bC Γ dz [.tup (rows.map A')]=RY (.ok (.own,.lst ((aw rows).map .str))):=by
 have hsz:(4000:Nat)<=R6:=by decide
 have DS:TM.start [.tup (rows.map A')] 4=[RY (.loc,.tup (rows.map A')),R3,R3,R3]:=by simp[TM.start,D',ba]
 have h8:∀r∈rows,r.2.length<=8:=λr h=>(hr r h).Fh;obtain⟨st',DY,_,o2,o3,e⟩:=de (t:=R4) (is:=[2,3]) (body:=execs Γ [.set 1 (.bin .add (.bin .add (.var 1) (.lst [.var 2])) (.bi .list [.var 3]))]) (rs:=[(.loc,.tup (rows.map A'))]) (λr:Row=>(Kd.loc,A' r))
  (λd r st=>d++r=rows/\∃o2 o3,st=[RY (.loc,.tup (rows.map A')),RY (.own,.lst ((bB d).map .str)),o2,o3]) (λ_ _ _ _=>trivial) (λd y r st D4=>by
   obtain⟨D9,o2,o3,e⟩:=D4;subst e;have hy:y∈rows:=by rw[<-D9];simp
   have Q2:=eC (rows:=d) λs hs=>h8 s (by rw[<-D9];simp[hs]);have F9:d.length<=100:=by have:=ß Tn D9;simp at this;omega
   have OG:=h8 y hy;let S:=λ(us:List U)=>([RY (.loc,.tup (rows.map A')),RY (.own,.lst us),RY (.loc,.str y.1),RY (.loc,.tup (y.2.map .str))]:aj)
   refine⟨S ((bB d).map .str),S ((bB d).map .str++[.str y.1]++y.2.map .str),aa (a:=()) aE (aa (a:=()) aE aU),?_,by rw[<-D9];simp,RY (.loc,.str y.1),RY (.loc,.tup (y.2.map .str)),?_⟩
   ·refine aq (r:=(.own,.lst ((bB d).map .str++[.str y.1]++y.2.map .str))) (st1:=S ((bB d).map .str)) (bA (bA (ak rfl) (bX (us:=[.str y.1]) (ab (ae rfl) ag) trivial (aK aP aN) (by show 1<=R6;omega)) ⟨⟨.own,rfl,rfl⟩,trivial⟩ (kI (by simp;omega) rfl rfl)) (eh (ab (ae rfl) ag) trivial rfl) trivial (kI (by simp;omega) rfl rfl)) aS aF
   ·rw[iV];simp[S]) rows [] [RY (.loc,.tup (rows.map A')),RY (.own,.lst []),R3,R3] ⟨rfl,R3,R3,rfl⟩
 subst e;have e5:(rows.map A').map (λu=>(kE .loc,u))=rows.map λr=>(Kd.loc,A' r):=by rw[Sx];rfl
 have I0:=eC h8;have F9:=qV (cT hr);exact aD rfl (.inl rfl) DS (aq (r:=(.own,.lst [])) (bX ag trivial aN (SM _)) aS (cM (rs:=[(.loc,.tup (rows.map A'))]) (ab (ae rfl) ag) trivial rfl rfl (by rw[e5];exact DY) (bP (v5 (ab (ak rfl) ag) ⟨⟨.own,rfl,rfl⟩,trivial⟩ (kH ⋯ ⋯)) iS)))
end
end K
namespace TM
open PySem L2 D6
theorem Bw(xs:List α)(k:Nat):cut xs R3 (RY (k:Int))=xs.take k:=by
 unfold cut;have e0:HT.DU xs.length 0 R3=0:=rfl;rw[e0,HT.rm,Xv,Z1];by_cases h:k<=xs.length
 ·rw[Zf h]
 ·rw[Y8 ⋯,TU (Sv _),TU ⋯]
theorem wL(xs:List α)(k:Nat):cut xs (RY (k:Int)) R3=xs.drop k:=by
 unfold cut;have e0:HT.DU xs.length xs.length R3=xs.length:=rfl;rw[e0,HT.rm];by_cases h:k<=xs.length
 ·rw[Zf h,TU (by simp)]
 ·rw[Y8 ⋯,XW (Sv _),XW ⋯];simp
def Bx:E:=.idx (.lst [.cst (.int 3),.cst (.int 98)]) (.bin .mod (.bin .Fs (.idx (.var 0) (.cst (.int 3))) (.cst (.int 8))) (.cst (.int 2)))
theorem yY:yK Bx:=λΓ ds hd h0=>by
 have hsz:(1000:Nat)<=R6:=by decide
 have i3:D8 (ds.map U.int) 3=RY (.int (dd ds 3)):=cj (i:=3) ⋯;have hq:dd ds 3 / 8 % 2=0\/dd ds 3 / 8 % 2=1:=by omega
 have go:∀(z:Int),dd ds 3 / 8 % 2=z->(∃m:Int,D8 [U.int 3,.int 98] z=RY (.int m)/\0<m/\m<=98)->∃m:Int,0<m/\m<=98/\∀o1 o2 o3 o4 o5,Run (ev Γ Bx) [RY (.any,.lst (ds.map .int)),o1,o2,o3,o4,o5] (.loc,.int m) [RY (.any,.lst (ds.map .int)),o1,o2,o3,o4,o5]:=λz hz D4=>by
  obtain⟨m,h1,h2,h3⟩:=D4;subst hz;refine⟨m,h2,h3,λo1 o2 o3 o4 o5=>?_⟩;exact bo (bX (us:=[.int 3,.int 98]) (ab ar (ab ar ag)) trivial (aK aP (aK aP aN)) (by show 2<=R6;omega)) (bA (bA (bo (aZ rfl) ar trivial (aV i3)) ar trivial (qS (by decide))) ar trivial (bw (by decide))) trivial (aV h1)
 rcases hq with hq|hq
 ·exact go 0 hq ⟨3,rfl,by decide,by decide⟩
 ·exact go 1 hq ⟨98,rfl,by decide,by decide⟩
def cv:List Pr->Str->Str
 |[],x=>x
 |p::ps,x=>if p.1=x then p.2 else cv ps x
theorem pO:∀{ps:List Pr},x∈ps.map (·.1)->cA (ps.map (·.1)) (ps.map λp=>U.str p.2) x=RY (.str (cv ps x))
 |[],h=>by cases h
 |p::ps,h=>by
  simp only[Sd,cA,cv];by_cases e:p.1=x
  ·rw[Ú e,Ú e]
  ·rw[Ü e,Ü e];exact pO (by simpa[Te e] using h)
def dn(ps:List Pr)(r:Row):Row:=(cv ps r.1,r.2.map (cv ps))
def Ge(r s:Row):Bool:=Sa (keyOf r=keyOf s)
def eF(rows:List Row)(r:Row):List Row:=if (rows.any λs=>Ge s r)=R4 then rows else rows++[r]
def bf:List Row->List Row->List Row
 |rows,[]=>rows
 |rows,r::rs=>bf (eF rows r) rs
theorem pP(rows:List Row)(r:Row):∀(d:List Row),bf rows (d++[r])=eF (bf rows d) r:=λd=>by
 induction d generalizing rows with
 |nil=>rfl
 |cons x d ih=>exact ih _
theorem wM(h:x∈eF rows r):x∈rows\/x=r:=by
 unfold eF at h;split at h
 ·exact .inl h
 ·simpa using h
theorem wN(rows:List Row)(r:Row):(eF rows r).length<=rows.length+1:=by
 unfold eF;split<;>simp
theorem eG:∀{d rows:List Row},x∈bf rows d->x∈rows\/x∈d
 |[],rows,h=>.inl h
 |r::d,rows,h=>by
  rcases eG (d:=d) h with z|z
  ·rcases wM z with z|z
   ·exact .inl z
   ·exact .inr (by simp[z])
  ·exact .inr (by simp[z])
theorem eI:∀(d rows:List Row),(bf rows d).length<=rows.length+d.length
 |[],rows=>by simp[bf]
 |r::d,rows=>by
  have h1:=eI d (eF rows r);have h2:=wN rows r;simp only[bf,SE];omega
theorem yZ(bs:List Bool):Fd .any [(k,.lst (bs.map .bl))]=RY (.loc,.bl (bs.any id)):=by
 show(fc (bs.map U.bl)).map _=_;have:∀bs:List Bool,fc (bs.map U.bl)=RY bs:=λbs=>by
  induction bs with
  |nil=>rfl
  |cons b bs ih=>show(fc (bs.map U.bl)).map _=_;rw[ih];rfl
 rw[this];rfl
theorem sJ{ps:List Pr}(h:(ps.map (·.1)).Nodup):Fd .dict [(k,.lst (ps.map EW))]=RY (.own,.DJ (ps.map (·.1)) (ps.map λp=>.str p.2)):=by
 have e:∀ps:List Pr,jU (ps.map EW)=RY ps:=λps=>by
  induction ps with
  |nil=>rfl
  |cons p ps ih =>
   show(jU (ps.map EW)).map ((p.1,p.2)::·)=_;rw[ih];rfl
 show(jU (ps.map EW)).bind _=_;rw[e];show(if (ps.map (·.1)).Nodup then _ else _)=_;rw[Ú h]
theorem nR(h:x∈ps.map (·.1)):fe (k,.DJ (ps.map (·.1)) (ps.map λp=>.str p.2)) (.str x)=RY (kE k,.str (cv ps x)):=by
 show(cA _ _ x).map _=_;rw[pO h];rfl
theorem sM{rows:List Row}(t:Bool):Fu .seq [(k,if t=R4 then .tup (rows.map A') else .lst (rows.map A'))]=RY (rows.map λr=>(kE k,A' r)):=by
 cases t<;>(show RY ((rows.map A').map _)=_;rw[Sx];rfl)
theorem pQ(l:List Row):a5 .ne (.lst (l.map A')) (.lst [])=RY !l.isEmpty:=by
 simp only[a5];rw[Ú ⟨by simp only[Ek];exact FR l,by simp[Ek,bY]⟩];cases l<;>simp[bx,cu]
where FR:∀rs:List Row,bY 49 (rs.map A')=R4
 |[]=>by simp[bY]
 |r::rs=>by rw[Sd,bY,FR rs];simp[A',Ek,bY,dU]
end TM
namespace K
open PySem L2 TM D6
section
theorem lq(h:r.2.length<64):bC Γ bU [A' r]=RY (.ok (.loc,A' (keyOf r))):=by
 have M':=sorted_strs (k:=.loc) (ss:=r.2) h;have j0:fe (.loc,A' r) (.int 0)=RY (.loc,.str r.1):=rfl;have j1:fe (.loc,A' r) (.int 1)=RY (.loc,.tup (r.2.map .str)):=rfl;apply aD (st0:=[RY (.loc,A' r)]) rfl (.inr rfl) (by simp[TM.start,jo,bU])
 repeat' (first|exact j0|exact j1|exact M'|exact(by decide:(2:Nat)<=R6)|sizeOf_list_dec)
theorem ue(hΓ:∀r:Row,r.2.length<64->Γ "in_one_order" [A' r]=RY (.ok (.loc,A' (keyOf r))))(h:r.2.length<64)(h2:s.2.length<64):bC Γ ia [A' r,A' s]=RY (.ok (.loc,.bl (Ge r s))):=by
 apply aD (st0:=[RY (.loc,A' r),RY (.loc,A' s)]) rfl (.inr rfl) (by simp[TM.start,jo,ia])
 repeat' (first|exact hΓ r h|exact hΓ s h2|exact yN (op:=R4)|sizeOf_list_dec)
theorem pR(h8:r.2.length<=8)(h1:r.1∈ps.map (·.1))(h2:∀x∈r.2,x∈ps.map (·.1)):bC Γ fO [A' r,.DJ (ps.map (·.1)) (ps.map λp=>.str p.2)]=RY (.ok (.loc,A' (dn ps r))):=by
 have hsz:(1000:Nat)<=R6:=by decide
 let S:aj:=[RY (.loc,A' r),RY (.any,.DJ (ps.map (·.1)) (ps.map λp=>.str p.2))]
 have DS:TM.start [A' r,.DJ (ps.map (·.1)) (ps.map λp=>.str p.2)] 2=S:=by simp[TM.start,jo,D',S]
 have hx:=eB (cond:=aQ Γ []) (elt:=ev Γ (.idx (.var 2) (.var 0))) (src:=[(.loc,.tup (r.2.map .str))]) (st:=S) trivial .loc (.inl rfl) U.str (λx=>.str (cv ps x)) .any (λ_=>fq) r.2 [] (by simp;omega)
  (λx hx=>⟨bo (aZ rfl) (ae rfl) trivial (nR (h2 x hx)),kn rfl⟩)
 rw[Sz]at hx;have hc:Run (ev Γ (.comp 1 R5 .seq [.idx (.var 0) (.cst (.int 1))] [] (.idx (.var 2) (.var 0)))) S (.own,.lst (r.2.map λx=>.str (cv ps x))) S :=
  b8 (rs:=[(.loc,.tup (r.2.map .str))]) (ab (bo (x:=(.loc,A' r)) (ae rfl) ar trivial rfl) ag) trivial (by show RY _=_;rw[Sx];rfl) hx
 have e:A' (dn ps r)=.tup [.str (cv ps r.1),.tup (r.2.map λx=>.str (cv ps x))]:=by simp[A',dn,Sx,Function.comp_def]
 rw[e];exact aD rfl (.inr rfl) DS (bP (km (ab (bo (aZ rfl) (bo (x:=(.loc,A' r)) (ae rfl) ar trivial rfl) trivial (nR h1)) (ab (eh (ab hc ag) trivial rfl) ag)) trivial (aK (kn rfl) (aK aP aN)) (by show 2<=R6;omega)) du)
end
section
theorem By(h:r.2.length<=8):(dn ps r).2.length<=8:=by simpa[dn] using h
theorem DI{one:List Row}(h1:∀r∈one,r.2.length<=n)(h2:∀r∈d,r.2.length<=n):∀r∈bf one d,r.2.length<=n:=λr hr=>(eG hr).elim (h1 r) (h2 r)
theorem wO{one other:List Row}{same:List Str}(Fb:Γ "new_names" [.tup (one.map A'),.tup (other.map A'),.lst (same.map .str)]=RY (.ok (.own,.lst (ps.map EW))))(DW:(ps.map (·.1)).Nodup)
  (Nd:∀r:Row,r.2.length<=8->r.1∈ps.map (·.1)->(∀x∈r.2,x∈ps.map (·.1))->Γ "renamed" [A' r,.DJ (ps.map (·.1)) (ps.map λp=>.str p.2)]=RY (.ok (.loc,A' (dn ps r))))
  (Hh:∀r s:Row,r.2.length<64->s.2.length<64->Γ "alike" [A' r,A' s]=RY (.ok (.loc,.bl (Ge r s))))
  (h1:∀r∈one,r.2.length<=8) (h2:∀r∈other,r.2.length<=8) (hk:∀r∈other,r.1∈ps.map (·.1)/\∀x∈r.2,x∈ps.map (·.1)) (hl:one.length+other.length<=60) :
  bC Γ nQ [.tup (one.map A'),.tup (other.map A'),.lst (same.map .str)]=RY (.ok (.loc,.tup ((bf one (other.map (dn ps))).map A'))):=by
 have hsz:(1000:Nat)<=R6:=by decide
 let D:U:=.DJ (ps.map (·.1)) (ps.map λp=>.str p.2);let S:=λ(us:List U) (o5 o6:Option (Kd×U))=>([RY (.loc,.tup (one.map A')),RY (.loc,.tup (other.map A')),RY (.any,.lst (same.map .str)),RY (.own,D),RY (.own,.lst us),o5,o6]:aj)
 have DS:TM.start [.tup (one.map A'),.tup (other.map A'),.lst (same.map .str)] 7=[RY (.loc,.tup (one.map A')),RY (.loc,.tup (other.map A')),RY (.any,.lst (same.map .str)),R3,R3,R3,R3]:=by simp[TM.start,D',ba]
 obtain⟨st',DY,_,o5,o6,e⟩:=de (t:=R5) (is:=[5]) (body:=execs Γ [.set 6 (.call "renamed" [.var 5,.var 3]),.ite (.not (.bi .any [.comp 1 R5 .seq [.var 4] [] (.call "alike" [.var 0,.var 7])])) [.app 4 (.var 6)] []]) (rs:=[(.loc,.tup (other.map A'))]) (λr:Row=>(Kd.loc,A' r))
  (λd r st=>d++r=other/\∃o5 o6,st=S ((bf one (d.map (dn ps))).map A') o5 o6) (λ_ _ _ _=>trivial) (λd y r st D4=>by
   obtain⟨D9,o5,o6,e⟩:=D4;subst e;have hy:y∈other:=by rw[<-D9];simp
   obtain⟨k1,k2⟩:=hk y hy;have F9:d.length<other.length:=by have:=ß Tn D9;simp at this;omega
   let R:=bf one (d.map (dn ps));have Q5:∀s∈R,s.2.length<=8:=DI h1 λs hs=>by
    obtain⟨t,ht,rfl⟩:=So.mp hs;exact By (h2 t (by rw[<-D9];simp[ht]))
   have JT:R.length<=60:=by
    have:=eI (d.map (dn ps)) one;rw[R9]at this;show(bf one (d.map (dn ps))).length<=60;omega
   let y':=dn ps y;have OG:y'.2.length<=8:=By (h2 y hy);let i5:Option (Kd×U):=RY (.loc,A' y);let i6:Option (Kd×U):=RY (.loc,A' y');have g6:Run (ev Γ (.call "renamed" [.var 5,.var 3])) (S (R.map A') i5 o6) (.loc,A' y') (S (R.map A') i5 o6):=aM (ab (ae rfl) (ab (ak rfl) ag)) ⟨⟨.own,rfl,rfl⟩,trivial⟩ (Nd y (h2 y hy) k1 k2);have hx:=eB (cond:=aQ Γ []) (elt:=ev Γ (.call "alike" [.var 0,.var 7])) (src:=[(.bor 4,.lst (R.map A'))]) (st:=S (R.map A') i5 i6) ⟨⟨.own,rfl,rfl⟩,trivial⟩ .loc (.inl rfl) A' (λs=>.bl (Ge s y')) .loc (λ_=>fq) R [] (by simp;omega)
    (λs hs=>⟨aM (ab (ae rfl) (ab (ae rfl) ag)) trivial (Hh s y' (by have:=Q5 s hs;omega) ⋯),aP⟩)
   rw[Sz]at hx;have hc:=b8 (Γ:=Γ) (k:=1) (t:=R5) (ik:=.seq) (src:=[.var 4]) (st:=S (R.map A') i5 i6) (st1:=S (R.map A') i5 i6) (rs:=[(.bor 4,.lst (R.map A'))]) (ab (ak rfl) ag) ⟨⟨.own,rfl,rfl⟩,trivial⟩ (sM (k:=.bor 4) (rows:=R) R5) hx;have ha:Fd .any [(.own,.lst (R.map λs=>U.bl (Ge s y')))]=RY (.loc,.bl (R.any λs=>Ge s y')):=by
    have:=yZ (k:=.own) (R.map λs=>Ge s y');rw[Sx,List.any_map]at this;exact this
   have tc:Run (DX Γ (.not (.bi .any [.comp 1 R5 .seq [.var 4] [] (.call "alike" [.var 0,.var 7])]))) (S (R.map A') i5 i6) (!R.any λs=>Ge s y') (S (R.map A') i5 i6):=zu (wy (eh (ab hc ag) trivial ha));have hA:(bf one ((d++[y]).map (dn ps)))=eF R y':=by rw[SO];exact pP _ _ _
   refine⟨S (R.map A') i5 o6,S ((eF R y').map A') i5 i6,cn aE,aq g6 aE (dG tc (λh=>?_) λh=>?_),by rw[<-D9];simp,i5,i6,by rw[hA]⟩
   ·have hn:¬(R.any λs=>Ge s y')=R4:=by simpa using h
    rw[eF,Ü hn,SO];exact iT (k:=.own) (k':=.own) (r:=(.loc,A' y')) (us:=R.map A') rfl (ae rfl) aP rfl rfl (by rw[R9];omega) aF
   ·have hn:(R.any λs=>Ge s y')=R4:=by simpa using h
    rw[eF,Ú hn];exact aF) other [] (S (one.map A') R3 R3) ⟨rfl,R3,R3,rfl⟩
 subst e;rw[Sz]at DY;let R:=bf one (other.map (dn ps));have JT:R.length<=60:=by
  have:=eI (other.map (dn ps)) one;rw[R9]at this;show(bf one (other.map (dn ps))).length<=60;omega
 have tg:Run (DX Γ (.cmp .gt (.bi .len [.var 4]) (.Hm "MOST_ROWS" (.int 60)))) (S (R.map A') o5 o6) R5 (S (R.map A') o5 o6):=by
  refine bj (eh (ab (ak rfl) ag) ⟨⟨.own,rfl,rfl⟩,trivial⟩ rfl) vZ trivial ?_;show RY (Sa ((60:Int)<((R.map A').length:Nat)))=_;rw[R9,Ý ⋯]
 exact aD rfl (.inr rfl) DS (aq (r:=(.own,D)) (eh (ab (aM (ab (ae rfl) (ab (ae rfl) (ab (aZ rfl) ag))) trivial Fb) ag) trivial (sJ DW)) aS
  (aq (r:=(.own,.lst (one.map A'))) (eh (ab (ae rfl) ag) trivial rfl) aS
   (cM (rs:=[(.loc,.tup (other.map A'))]) (ab (ae rfl) ag) trivial (sM (k:=.loc) (rows:=other) R4) rfl DY
    (dG tg (λh=>by cases h) λ_=>bP (eh (ab (ak rfl) ag) ⟨⟨.own,rfl,rfl⟩,trivial⟩ rfl) du))))
end
end K
namespace K
open PySem L2 TM D6 Od
def b9(f:Str->List Nat)(k:Str):U:=.lst ((f k).map λt:Nat=>U.int (t:Nat))
theorem iE(d:List (Str×Nat))(y:Str×Nat)(k:Str):aG (d++[y]) k=if y.1=k then aG d k++[y.2] else aG d k:=by
 rw[pE];by_cases e:y.1=k
 ·rw[Ú e];simp[aG,e]
 ·rw[Ü e];simp[aG,e]
theorem wQ(d:List (Str×Nat))(k:Str):(aG d k).length<=d.length:=by
 unfold aG;rw[R9];exact Ul _ _
section
theorem nS(hl:ps.length<=1000):∃ks:List Str,(∀w,w∉ks->aG ps w=[])/\bC Γ eD [.lst (ps.map stN)]=RY (.ok (.own,.DJ ks (ks.map (b9 (aG ps))))):=by
 have hsz:(2000:Nat)<=R6:=by decide
 have DS:TM.start [.lst (ps.map stN)] 4=[RY (.any,.lst (ps.map stN)),R3,R3,R3]:=rfl;let S:=λ(ks:List Str) (us:List U) (o2 o3:Option (Kd×U))=>([RY (.any,.lst (ps.map stN)),RY (.B',.DJ ks us),o2,o3]:aj)
 let body:List TM.S:=[.ite (.inD R4 (.var 2) 1)
    [.putD 1 (.var 2) (.lst [])]
    [],
   .Ft 1 (.var 2) (.var 3)]
 obtain⟨st',DY,D9,ks,o2,o3,e,hn,hk,Io⟩:=de (t:=R4) (is:=[2,3]) (body:=execs Γ body) (rs:=[(.any,.lst (ps.map stN))]) (λp:Str×Nat=>(Kd.any,stN p))
  (λd r st=>d++r=ps/\∃(ks:List Str) (o2 o3:Option (Kd×U)),st=S ks (ks.map (b9 (aG d))) o2 o3/\ks.Nodup/\(∀w,w∉ks->aG d w=[])/\ks.length<=d.length) (λ_ _ _ _=>trivial) (λd y r st D4=>by
   obtain⟨D9,ks,o2,o3,e,hn,hk,Io⟩:=D4;subst e;have F9:d.length<1000:=by have:=ß Tn D9;simp at this;omega
   let i2:Option (Kd×U):=RY (.any,.str y.1);let i3:Option (Kd×U):=RY (.any,.int (y.2:Nat));have Lv:=wQ d y.1;have app:∀(ks:List Str),ks.Nodup->y.1∈ks->Run (execs Γ [.Ft 1 (.var 2) (.var 3)]) (S ks (ks.map (b9 (aG d))) i2 i3) .nx (S ks (ks.map (b9 (aG (d++[y])))) i2 i3):=λks hn hy=>by
    have hg:cA ks (ks.map (b9 (aG d))) y.1=RY (.lst ((aG d y.1).map λt:Nat=>U.int (t:Nat))):=by rw[kJ,Ú hy];rfl
    have hs:jg ks (ks.map (b9 (aG d))) y.1 (.lst ((aG d y.1).map (λt:Nat=>U.int (t:Nat))++[.int (y.2:Nat)]))=ks.map (b9 (aG (d++[y]))):=by
     rw[pG _ _ _ _ hn];refine Tf λk hk=>?_;unfold b9;rw[iE];by_cases e:y.1=k
     ·subst e;rw[Ú rfl,Ú rfl];simp
     ·rw[Ü e,Ü (Te e)]
    rw[<-hs];exact Bs (k:=.any) (r:=(.any,.int (y.2:Nat))) rfl (aZ rfl) hy (aZ rfl) (kn rfl) hg (by rw[R9];omega) aF
   have tc:Run (DX Γ (.inD R4 (.var 2) 1)) (S ks (ks.map (b9 (aG d))) i2 i3) (!Sa (y.1∈ks)) (S ks (ks.map (b9 (aG d))) i2 i3):=C1 (neg:=R4) (k:=.any) (aZ rfl) rfl;have Ff:Run (cB R4 [2,3] (.any,stN y)) (S ks (ks.map (b9 (aG d))) o2 o3) () (S ks (ks.map (b9 (aG d))) i2 i3):=pF (.inr rfl);by_cases hy:y.1∈ks
   ·rw[Þ hy]at tc;refine⟨_,_,Ff,dG tc (λh=>by cases h) λ_=>app ks hn hy,by rw[<-D9];simp,ks,_,_,rfl,hn,λw hw=>?_,by simp;omega⟩;have Q6:y.1≠w:=λz=>hw (by rw[<-z];exact hy);rw[iE,Ü Q6];exact hk w hw
   ·rw[Ý hy]at tc;have HU:(ks++[y.1]).Nodup:=by
     rw[SW];refine⟨hn,by simp,λa ha b hb e=>?_⟩;have:b=y.1:=by simpa using hb
     subst this;exact hy (e▸ha)
    have em:ks.map (b9 (aG d))++[.lst []]=(ks++[y.1]).map (b9 (aG d)):=by
     rw[SO];congr 1
     show _=[b9 (aG d) y.1]
     unfold b9;rw[hk y.1 hy];rfl
    have Ku:=app (ks++[y.1]) HU (by simp);rw[<-em]at Ku;refine⟨_,_,Ff,dG tc (λ_=>Br (k:=.any) (xs:=[]) (bX ag trivial aN (SM _)) rfl (aZ rfl) hy ⋯ Ku) λh=>(by cases h),by rw[<-D9];simp,ks++[y.1],_,_,rfl,HU,λw hw=>?_,by simp;omega⟩;have G5:w∉ks/\w≠y.1:=by simpa using hw
    rw[iE,Ü (Te G5.2)];exact hk w G5.1) ps [] (S [] [] R3 R3) ⟨rfl,[],R3,R3,rfl,.nil,λ_ _=>rfl,Sv _⟩
 subst e;rw[Sz]at *;refine⟨ks,hk,?_⟩;have e:(ps.map stN).map (λu=>(kE .any,u))=ps.map λp=>(Kd.any,stN p):=by rw[Sx];rfl
 exact aD rfl (.inl rfl) DS (Bq (cM (rs:=[(.any,.lst (ps.map stN))]) (st1:=S [] [] R3 R3) (ab (aZ rfl) ag) trivial rfl rfl (by rw[e];exact DY) (bP (C2 rfl) (l0 rfl))))
def zB(Γ:Tab):Prop:=∀ps:List (Str×Nat),ps.length<=1000->∃ks:List Str,(∀w,w∉ks->aG ps w=[])/\Γ "gathered" [.lst (ps.map stN)]=RY (.ok (.own,.DJ ks (ks.map (b9 (aG ps)))))
theorem q9(hg:zB Γ)(hO:Once rows)(h8:∀r∈rows,r.2.length<=8)(hr:rows.length<=100):
  ∃ks:List Str,(∀w,w∉ks->Eh rows rows.length w=[])/\bC Γ bJ [.tup (rows.map A')]=RY (.ok (.own,.DJ ks (ks.map (b9 (Eh rows rows.length))))):=by
 have hsz:(2000:Nat)<=R6:=by decide
 have DS:TM.start [.tup (rows.map A')] 4=[RY (.loc,.tup (rows.map A')),R3,R3,R3]:=by simp[TM.start,D',ba]
 let S:=λ(ps:List (Str×Nat)) (o2 o3:Option (Kd×U))=>([RY (.loc,.tup (rows.map A')),RY (.own,.lst (ps.map stN)),o2,o3]:aj)
 let body:List TM.S:=[.ext 1 (.comp 1 R5 .seq [.idx (.var 3) (.cst (.int 1))] [] (.tup [.var 0,.var 3]))]
 obtain⟨st',DY,D9,ps,o2,o3,e,hp,EX⟩:=de (t:=R4) (is:=[2,3]) (body:=execs Γ body) (rs:=[(.loc,.tup (rows.map A'))]) (λp:Row×Nat=>(Kd.loc,U.tup [.int (p.2:Nat),A' p.1]))
  (λd r st=>d++r=rows.zipIdx/\∃(ps:List (Str×Nat)) (o2 o3:Option (Kd×U)),st=S ps o2 o3/\(∀w,aG ps w=Eh rows d.length w)/\ps.length<=8 * d.length) (λ_ _ _ _=>trivial) (λd y r st D4=>by
   obtain⟨D9,ps,o2,o3,e,hp,EX⟩:=D4;subst e;obtain⟨row,i⟩:=y;have hy:(rows.zipIdx)[d.length]?=RY (row,i):=by rw[<-D9];simp
   rw[Yb,Si]at hy;obtain⟨ED,Et,e⟩:=hy;have e1:ED=row:=ß Ze e;have e2:0+d.length=i:=ß Prod.snd e;rw[Z0]at e2;subst e1 e2;have F9:d.length<100:=by have:=ß Tn D9;simp at this;omega
   have OJ:=h8 ED (SY Et);let i2:Option (Kd×U):=RY (.loc,.int (d.length:Nat));let i3:Option (Kd×U):=RY (.loc,A' ED);have hx:=eB (cond:=aQ Γ []) (elt:=ev Γ (.tup [.var 0,.var 3])) (src:=[(.loc,.tup (ED.2.map .str))]) (st:=S ps i2 i3) trivial .loc (.inl rfl) U.str (λx=>stN (x,d.length)) .loc (λ_=>fq) ED.2 [] (by simp;omega)
    (λy _=>⟨km (ab (ae rfl) (ab (ae rfl) ag)) trivial (aK aP (aK aP aN)) (by show 2<=R6;omega),aP⟩)
   rw[Sz]at hx;have e:(ED.2.map U.str).map (λu=>(kE .loc,u))=ED.2.map λr=>(Kd.loc,U.str r):=by rw[Sx];rfl
   have hc:Run (ev Γ (.comp 1 R5 .seq [.idx (.var 3) (.cst (.int 1))] [] (.tup [.var 0,.var 3]))) (S ps i2 i3) (.own,.lst (ED.2.map λx=>stN (x,d.length))) (S ps i2 i3) :=
    b8 (rs:=[(.loc,.tup (ED.2.map .str))]) (ab (bo (x:=(.loc,A' ED)) (ae rfl) ar trivial rfl) ag) trivial (by show RY _=_;rw[e]) hx
   have em:ps.map stN++(ED.2.map λx=>stN (x,d.length))=(ps++ED.2.map λx=>(x,d.length)).map stN:=by simp
   refine⟨S ps i2 i3,S (ps++ED.2.map λx=>(x,d.length)) i2 i3,pF (.inl rfl),?_,by rw[<-D9];simp,_,_,_,rfl,λw=>?_,by simp;omega⟩
   ·show Run _ _ _ [RY (.loc,.tup (rows.map A')),RY (.own,.lst ((ps++ED.2.map λx=>(x,d.length)).map stN)),i2,i3];rw[<-em];exact wz (k:=.own) (k':=.own) rfl hc rfl rfl (sE (by rw[R9,R9];omega) rfl) aF
   ·rw[Sy];exact uc hO Et hp w) rows.zipIdx [] (S [] R3 R3) ⟨rfl,[],R3,R3,rfl,λw=>by simp[aG,Eh],by simp⟩
 subst e;rw[Sz,List.length_zipIdx]at hp EX;have hit:Fu .Ip [(.loc,.tup (rows.map A'))]=RY (rows.zipIdx.map λp:Row×Nat=>(Kd.loc,U.tup [.int (p.2:Nat),A' p.1])):=by
  show RY ((rows.map A').zipIdx.map λp=>(kE .loc,U.tup [.int p.2,p.1]))=_;rw[List.zipIdx_map,Sx];rfl
 obtain⟨ks,k1,k2⟩:=hg ps ⋯;have ef:aG ps=Eh rows rows.length:=funext hp;rw[ef]at k1 k2;refine⟨ks,k1,?_⟩;exact aD rfl (.inl rfl) DS (aq (r:=(.own,.lst [])) (bX ag trivial aN (SM _)) aS (cM (rs:=[(.loc,.tup (rows.map A'))]) (st1:=S [] R3 R3) (ab (ae rfl) ag) trivial hit rfl DY
  (bP (aM (ab (ak rfl) ag) ⟨⟨.own,rfl,rfl⟩,trivial⟩ k2) iS)))
theorem lr{names:List Str}(GR:∀r∈rows,r.1∈names)(G7:names.length<64)(hR:∀t∈R,t<rows.length):
  ∃st:List (Str×Nat),NS rows K0 R st/\bC Γ dy [.tup (rows.map A'),.lst (R.map λt:Nat=>.int (t:Nat)),.DJ K0 vs]=RY (.ok (.own,.lst (st.map stN))):=by
 have hsz:(2000:Nat)<=R6:=by decide
 have DS:TM.start [.tup (rows.map A'),.lst (R.map λt:Nat=>.int (t:Nat)),.DJ K0 vs] 6=[RY (.loc,.tup (rows.map A')),RY (.any,.lst (R.map λt:Nat=>.int (t:Nat))),RY (.any,.DJ K0 vs),R3,R3,R3]:=by simp[TM.start,D',ba]
 let S:=λ(ps:List (Str×Nat)) (o4 o5:Option (Kd×U))=>([RY (.loc,.tup (rows.map A')),RY (.any,.lst (R.map λt:Nat=>.int (t:Nat))),RY (.any,.DJ K0 vs),RY (.own,.DJ (ps.map (·.1)) (ps.map λp=>.int (p.2:Nat))),o4,o5]:aj)
 let body:List TM.S:=[.set 5 (.idx (.idx (.var 0) (.var 4)) (.cst (.int 0))),
   .ite (.and [.cmp .DM (.var 5) (.var 2),.cmp .DM (.var 5) (.var 3)])
    [.put 3 (.var 5) (.var 4)]
    []]
 have Fh:∀{d:List Nat} {ps:List (Str×Nat)},NS rows K0 d ps->ps.length<=names.length:=λ{d ps} x=>by
  have:=iW x.once (L:=names) λw hw=>by
   obtain⟨s,hs,rfl⟩:=So.mp hw;obtain⟨_,_,r,h1,h2⟩:=x.ok s hs;rw[<-h2];exact GR r (SY h1)
  simpa using this
 obtain⟨st',DY,D9,ps,o4,o5,e,x⟩:=de (t:=R5) (is:=[4]) (body:=execs Γ body) (rs:=[(.any,.lst (R.map λt:Nat=>.int (t:Nat)))]) (λt:Nat=>(Kd.any,U.int (t:Nat)))
  (λd r st=>d++r=R/\∃(ps:List (Str×Nat)) (o4 o5:Option (Kd×U)),st=S ps o4 o5/\NS rows K0 d ps) (λ_ _ _ _=>trivial) (λd t r st D4=>by
   obtain⟨D9,ps,o4,o5,e,x⟩:=D4;subst e;have ht:t<rows.length:=hR t (by rw[<-D9];simp);have Et:rows[t]?=RY rows[t]:=by simp[ht]
   generalize rows[t]=row at Et;let i4:Option (Kd×U):=RY (.any,.int (t:Nat));let i5:Option (Kd×U):=RY (.loc,.str row.1);have EM:=Fh x;have tc:Run (DX Γ (.and [.cmp .DM (.var 5) (.var 2),.cmp .DM (.var 5) (.var 3)])) (S ps i4 i5) (!Sa (row.1∈K0)&&!Sa (row.1∈ps.map (·.1))) (S ps i4 i5) :=
    iQ (kF (bj (ae rfl) (aZ rfl) trivial fL) λ_=>cO (bj (ae rfl) (ak rfl) ⟨⟨.own,rfl,rfl⟩,trivial⟩ fL))
   have pre:∀{Fy:aj},Run (execs Γ [.ite (.and [.cmp .DM (.var 5) (.var 2),.cmp .DM (.var 5) (.var 3)])
    [.put 3 (.var 5) (.var 4)]
    []]) (S ps i4 i5) .nx Fy->Run (execs Γ body) (S ps i4 o5) .nx Fy:=λh =>
    aq (r:=(.loc,.str row.1)) (bo (x:=(.loc,A' row)) (bo (ae rfl) (aZ rfl) trivial (mH (yX Et))) ar trivial rfl) aE h
   have Ff:Run (cB R5 [4] (.any,.int (t:Nat))) (S ps o4 o5) () (S ps i4 o5):=cn iR;by_cases h1:row.1∈K0
   ·rw[Þ h1]at tc;exact⟨_,_,Ff,pre (dG tc (λh=>by cases h) λ_=>aF),by rw[<-D9];simp,ps,_,_,rfl,x.skip Et (.inl h1)⟩
   ·by_cases h2:row.1∈ps.map (·.1)
    ·rw[Ý h1,Þ h2]at tc;exact⟨_,_,Ff,pre (dG tc (λh=>by cases h) λ_=>aF),by rw[<-D9];simp,ps,_,_,rfl,x.skip Et (.inr h2)⟩
    ·rw[Ý h1,Ý h2]at tc;refine⟨_,S (ps++[(row.1,t)]) i4 i5,Ff,pre (dG tc (λ_=>?_) λh=>by cases h),by rw[<-D9];simp,_,_,_,rfl,x.take Et h1 h2⟩;have e1:(ps++[(row.1,t)]).map (·.1)=ps.map (·.1)++[row.1]:=by simp
     have e2:((ps++[(row.1,t)]).map λp=>U.int (p.2:Nat))=(ps.map λp=>U.int (p.2:Nat))++[.int (t:Nat)]:=by simp
     show Run _ _ _ [RY (.loc,.tup (rows.map A')),RY (.any,.lst (R.map λt:Nat=>.int (t:Nat))),RY (.any,.DJ K0 vs),RY (.own,.DJ ((ps++[(row.1,t)]).map (·.1)) ((ps++[(row.1,t)]).map λp=>.int (p.2:Nat))),i4,i5];rw[e1,e2];exact kC (k:=.own) (rv:=(.any,.int (t:Nat))) (rk:=(.loc,.str row.1)) (aZ rfl) rfl (ae rfl) (aK (kn rfl) (aK aP aN)) rfl rfl (nO (by rw[R9];omega) h2) aF) R [] (S [] R3 R3) ⟨rfl,[],R3,R3,rfl,NS.start K0⟩
 subst e;rw[Sz]at x;have EM:=Fh x;obtain⟨qs,q1,q2⟩:=yV (ps:=ps) ⋯ x.once;refine⟨qs,x.perm q1,?_⟩;have e:(R.map λt:Nat=>U.int (t:Nat)).map (λu=>(kE .any,u))=R.map λt=>(Kd.any,U.int (t:Nat)):=by rw[Sx];rfl
 exact aD rfl (.inl rfl) DS (aq (r:=(.own,.DJ [] [])) gz aS (cM (rs:=[(.any,.lst (R.map λt:Nat=>.int (t:Nat)))]) (st1:=S [] R3 R3) (ab (aZ rfl) ag) trivial rfl rfl (by rw[e];exact DY) (bP (C4 rfl q2) iS)))
end
def mi(rows:List Row)(K0:List Str)(d:List Nat)(p:Nat):Int:=(cnt rows K0 p:Int) - (if p∈d then 1 else 0)
def bE(rows:List Row)(f:Nat->Int):List U:=(Sl rows.length).map λp=>U.int (f p)
def eJ(R:List Nat):List U:=R.map λt:Nat=>U.int (t:Nat)
theorem y0(rows:List Row)(K0:List Str):bE rows (mi rows K0 [])=bE rows λp=>(cnt rows K0 p:Int):=by
 unfold bE mi;refine Tf λp _=>?_;simp
theorem y6(hO:Once rows)(hw:w∉K0):bE rows (mi rows K0 (Eh rows rows.length w))=bE rows λp=>(cnt rows (K0++[w]) p:Int):=by
 unfold bE mi;refine Tf λp hp=>?_;have EX:=TB.mp hp;have ha:=nM hO hw p;by_cases h:w∈told rows p
 ·rw[Ú (hV.mpr ⟨EX,h⟩)];rw[Ú h]at ha;show U.int ((cnt rows K0 p:Int) - 1)=U.int (cnt rows (K0++[w]) p:Int);congr 1
  omega
 ·rw[Ü λz=>h (hV.mp z).2];rw[Ü h]at ha;show U.int ((cnt rows K0 p:Int) - 0)=U.int (cnt rows (K0++[w]) p:Int);congr 1
  omega
theorem wR(hd:t∉d):(bE rows (mi rows K0 d)).set t (.int (mi rows K0 d t - 1))=bE rows (mi rows K0 (d++[t])):=by
 unfold bE;rw[set_range];refine Tf λp _=>?_;unfold mi;by_cases e:p=t
 ·subst e;rw[Ú rfl,Ü hd,Ú (by simp)];rw[show((cnt rows K0 p:Int) - 0 - 1)=(cnt rows K0 p:Int) - 1 by omega]
 ·rw[Ü e];have:(p∈d++[t])↔p∈d:=by simp[e]
  simp only[this]
theorem wU(h:t<rows.length):(bE rows f)[t]?=RY (.int (f t)):=by simp[bE,h]
section
variable{Γ:Tab}{rows:List Row}
def sN:List TM.S:=[.aug R4 2 (.var 9) (.cst (.int 1)),.ite (.cmp .eq (.idx (.var 2) (.var 9)) (.cst (.int 0))) [.app 5 (.var 9)] []]
theorem pS(hO:Once rows)(hr:rows.length<=100)(hw:w∉K0)(JT:R.length<=10000)(o9:Option (Kd×U))(Fe:∀st,bc src st):∃Fg:Option (Kd×U),
  Run (forM R5 [9] (execs Γ sN) src ((Eh rows rows.length w).map λt:Nat=>(Kd.loc,U.int (t:Nat))))
   [b0,b1,RY (.own,.lst (bE rows λp=>(cnt rows K0 p:Int))),b3,b4,RY (.own,.lst (eJ R)),o6,o7,o8,o9] .nx
   [b0,b1,RY (.own,.lst (bE rows λp=>(cnt rows (K0++[w]) p:Int))),b3,b4,RY (.own,.lst (eJ (R++(Eh rows rows.length w).filter λt=>Sa (cnt rows K0 t=1)))),o6,o7,o8,Fg]:=by
 have hsz:(20000:Nat)<=R6:=by decide
 let S:=λ(ms:List U) (R:List Nat) (o9:Option (Kd×U))=>([b0,b1,RY (.own,.lst ms),b3,b4,RY (.own,.lst (eJ R)),o6,o7,o8,o9]:aj)
 obtain⟨st',DY,D9,Fg,e⟩:=de (t:=R5) (is:=[9]) (body:=execs Γ sN) (rs:=src) (λt:Nat=>(Kd.loc,U.int (t:Nat)))
  (λd r st=>d++r=Eh rows rows.length w/\∃o9:Option (Kd×U),st=S (bE rows (mi rows K0 d)) (R++d.filter λt=>Sa (cnt rows K0 t=1)) o9) (λ_ _ st _=>Fe st) (λd t r st D4=>by
   obtain⟨D9,o9,e⟩:=D4;subst e;have E8:t∈Eh rows rows.length w:=by rw[<-D9];simp
   have ht:t<rows.length:=(hV.mp E8).1;have DW:=ub (rows:=rows) rows.length w;have Q7:t∉d:=λz=>by
    rw[<-D9,SW]at DW;exact DW.2.2 t z t (by simp) rfl
   have F9:d.length<=100:=by
    have h1:=ß Tn D9;have h2:(Eh rows rows.length w).length<=(Sl rows.length).length:=Ul _ _;simp at h1 h2;omega
   let i9:Option (Kd×U):=RY (.loc,.int (t:Nat));let R1:=R++d.filter λt=>Sa (cnt rows K0 t=1);have G2:R1.length<=10100:=by
    have:(d.filter λt=>Sa (cnt rows K0 t=1)).length<=d.length:=Ul _ _;show(R++_).length<=_;rw[Sy];omega
   have EY:D8 (bE rows (mi rows K0 (d++[t]))) (t:Int)=RY (.int (mi rows K0 (d++[t]) t)):=cc (wU ht);have hv:mi rows K0 (d++[t]) t=(cnt rows K0 t:Int) - 1:=by unfold mi;rw[Ú (by simp)]
   have tc:Run (DX Γ (.cmp .eq (.idx (.var 2) (.var 9)) (.cst (.int 0)))) (S (bE rows (mi rows K0 (d++[t]))) R1 i9) (Sa (cnt rows K0 t=1)) (S (bE rows (mi rows K0 (d++[t]))) R1 i9) :=
    bj (bo (x:=(.bor 2,.lst (bE rows (mi rows K0 (d++[t]))))) (ak rfl) (ae rfl) ⟨⟨.own,rfl,rfl⟩,trivial⟩ (aV EY)) ar trivial (eu (by
     rw[hv,Uo];simp;omega))
   have pre:∀{Fy:aj},Run (execs Γ [.ite (.cmp .eq (.idx (.var 2) (.var 9)) (.cst (.int 0)))
      [.app 5 (.var 9)]
      []]) (S (bE rows (mi rows K0 (d++[t]))) R1 i9) .nx Fy->Run (execs Γ sN) (S (bE rows (mi rows K0 d)) R1 i9) .nx Fy:=λh=>by
    refine C3 (us:=bE rows (mi rows K0 d)) (k1:=.loc) (k2:=.loc) (j:=t) (w:=1) rfl (ae rfl) (wU ht) ar ?_;rw[wR Q7];exact h
   have Ff:Run (cB R5 [9] (.loc,.int (t:Nat))) (S (bE rows (mi rows K0 d)) R1 o9) () (S (bE rows (mi rows K0 d)) R1 i9):=cn aE;cases hc:Sa (cnt rows K0 t=1) with
   |false =>
    rw[hc]at tc;refine⟨_,_,Ff,pre (dG tc (λh=>by cases h) λ_=>aF),by rw[<-D9];simp,i9,?_⟩;rw[WB,TK,hc];simp[S,R1]
   |true =>
    rw[hc]at tc;refine⟨_,S (bE rows (mi rows K0 (d++[t]))) (R1++[t]) i9,Ff,pre (dG tc (λ_=>?_) λh=>by cases h),by rw[<-D9];simp,i9,?_⟩
    ·have em:eJ (R1++[t])=eJ R1++[.int (t:Nat)]:=by simp[eJ]
     show Run _ _ _ [b0,b1,RY (.own,.lst (bE rows (mi rows K0 (d++[t])))),b3,b4,RY (.own,.lst (eJ (R1++[t]))),o6,o7,o8,i9];rw[em];exact iT (k:=.own) (k':=.own) (r:=(.loc,.int (t:Nat))) rfl (ae rfl) aP rfl rfl (by unfold eJ;rw[R9];omega) aF
    ·rw[WB,TK,hc];simp[S,R1]) (Eh rows rows.length w) [] (S (bE rows (mi rows K0 [])) R o9) ⟨rfl,o9,by simp⟩
 subst e;rw[Sz]at DY;rw[y0,y6 hO hw]at DY;exact⟨Fg,DY⟩
def wV:List TM.S:=[.put 3 (.var 7) (.cst (.bl R4)),.D1 R5 [9] .seq [.FL 1 (.var 7) (.lst [])] sN]
theorem uf(hO:Once rows)(hr:rows.length<=100)(Fp:∀w,w∉ks->Eh rows rows.length w=[])(DW:(K0++st.map (·.1)).Nodup)(hl:K0.length+st.length<=100)(vs:List U)(o7 o8 o9:Option (Kd×U)):∃(Ea:List U) (R:List Nat) (Gq Fm Fg:Option (Kd×U)),
  RI rows K0 (K0++st.map (·.1)) R/\(st=[]->R=[])/\Run (forM R4 [7,8] (execs Γ wV) [(.bor 6,.lst (st.map stN))] (st.map λs=>(Kd.loc,stN s)))
   [b0,RY (.own,.DJ ks (ks.map (b9 (Eh rows rows.length)))),RY (.own,.lst (bE rows λp=>(cnt rows K0 p:Int))),RY (.own,.DJ K0 vs),b4,RY (.own,.lst []),RY (.own,.lst (st.map stN)),o7,o8,o9] .nx
   [b0,RY (.own,.DJ ks (ks.map (b9 (Eh rows rows.length)))),RY (.own,.lst (bE rows λp=>(cnt rows (K0++st.map (·.1)) p:Int))),RY (.own,.DJ (K0++st.map (·.1)) Ea),b4,RY (.own,.lst (eJ R)),RY (.own,.lst (st.map stN)),Gq,Fm,Fg]:=by
 let S:=λ(K:List Str) (vs:List U) (R:List Nat) (o7 o8 o9:Option (Kd×U))=>([b0,RY (.own,.DJ ks (ks.map (b9 (Eh rows rows.length)))),RY (.own,.lst (bE rows λp=>(cnt rows K p:Int))),RY (.own,.DJ K vs),b4,RY (.own,.lst (eJ R)),RY (.own,.lst (st.map stN)),o7,o8,o9]:aj)
 obtain⟨st',DY,D9,Ea,R,Gq,Fm,Fg,e,x,JT,OK⟩:=de (t:=R4) (is:=[7,8]) (body:=execs Γ wV) (rs:=[(.bor 6,.lst (st.map stN))]) (λs:Str×Nat=>(Kd.loc,stN s))
  (λd r Nf=>d++r=st/\∃(vs:List U) (R:List Nat) (o7 o8 o9:Option (Kd×U)),Nf=S (K0++d.map (·.1)) vs R o7 o8 o9/\RI rows K0 (K0++d.map (·.1)) R/\R.length<=100 * d.length/\(d=[]->R=[])) (λ_ _ Nf ⟨_,vs,R,o7,o8,o9,e,_⟩=>by subst e;exact⟨⟨.own,rfl,rfl⟩,trivial⟩) (λd s r Nf D4=>by
   obtain⟨D9,vs,R,o7,o8,o9,e,x,JT,OK⟩:=D4;subst e;obtain⟨w,p⟩:=s;have F9:d.length<st.length:=by have:=ß Tn D9;simp at this;omega
   have hw:w∉K0++d.map (·.1):=λz=>by
    rw[<-D9,SO,<-YL,SW]at DW;exact DW.2.2 w z w (by simp) rfl
   let i7:Option (Kd×U):=RY (.loc,.str w);let i8:Option (Kd×U):=RY (.loc,.int (p:Nat));obtain⟨Fg,EH⟩:=pS (Γ:=Γ) hO hr hw (R:=R) ⋯ (b0:=b0) (b1:=RY (.own,.DJ ks (ks.map (b9 (Eh rows rows.length))))) (b3:=RY (.own,.DJ (K0++d.map (·.1)++[w]) (vs++[.bl R4]))) (b4:=b4) (o6:=RY (.own,.lst (st.map stN))) (o7:=i7) (o8:=i8) o9 (src:=[(.loc,b9 (Eh rows rows.length) w)]) (λ_=>trivial);have em:K0++(d++[(w,p)]).map (·.1)=K0++d.map (·.1)++[w]:=by simp
   have Io:(K0++d.map (·.1)).length<1000:=by rw[Sy,R9];omega
   have hg:(match cA ks (ks.map (b9 (Eh rows rows.length))) w with|some v=>(Kd.loc,v)|none=>(.loc,U.lst []))=(.loc,b9 (Eh rows rows.length) w):=by
    rw[kJ];by_cases h:w∈ks
    ·rw[Ú h]
    ·rw[Ü h];unfold b9;rw[Fp w h];rfl
   have e2:((Eh rows rows.length w).map λt:Nat=>U.int (t:Nat)).map (λu=>(kE .loc,u))=(Eh rows rows.length w).map λt=>(Kd.loc,U.int (t:Nat)):=by rw[Sx];rfl
   refine⟨S (K0++d.map (·.1)) vs R i7 i8 o9,S (K0++d.map (·.1)++[w]) (vs++[.bl R4]) (R++(Eh rows rows.length w).filter λt=>Sa (cnt rows (K0++d.map (·.1)) t=1)) i7 i8 Fg,pF (.inl rfl),?_,by rw[<-D9];simp,vs++[.bl R4],_,i7,i8,Fg,by rw[em],?_,?_,λz=>by simp at z⟩
   ·refine kC (k:=.own) (rv:=(.loc,.bl R4)) (rk:=(.loc,.str w)) ar rfl (ae rfl) (aK aP (aK aP aN)) rfl rfl (nO Io hw) ?_;exact cM (rs:=[(.loc,b9 (Eh rows rows.length) w)]) (ab (Bt (k:=.loc) (z:=(.own,.lst [])) (u:=.lst []) rfl (ae rfl) (bX ag trivial aN (SM _)) v7 hg) ag) trivial (by show RY (Wf (λu=>(kE .loc,u)) _)=_;rw[e2]) rfl EH aF
   ·rw[em];exact x.step hO hw
   ·have:((Eh rows rows.length w).filter λt=>Sa (cnt rows (K0++d.map (·.1)) t=1)).length<=100:=by
     refine TX (Ul _ _) ?_;have h2:(Eh rows rows.length w).length<=(Sl rows.length).length:=Ul _ _;simp at h2;omega
    rw[Sy,Sy,Vl];omega) st [] (S K0 vs [] o7 o8 o9) ⟨rfl,vs,[],o7,o8,o9,by simp[S],by simpa using RI.start K0,by simp,λ_=>rfl⟩
 subst e;exact⟨Ea,R,Gq,Fm,Fg,by simpa using x,λz=>OK (by simpa using z),by simpa[S,eJ] using DY⟩
def fV(Ei:List (List (Str×Nat))):List U:=Ei.map λl=>U.lst (l.map stN)
def wW:List TM.S:=[.set 6 (.call "new_steps" [.var 0,.var 5,.var 3]),.set 5 (.lst []),.D1 R4 [7,8] .seq [.var 6] wV,.ite (.cmp .ne (.var 6) (.lst [])) [.app 4 (.var 6)] []]
def wX(Γ:Tab)(rows:List Row):Prop:=∀(R:List Nat) (K0:List Str) (vs:List U),(∀t∈R,t<rows.length)->∃st:List (Str×Nat),NS rows K0 R st/\Γ "new_steps" [.tup (rows.map A'),.lst (eJ R),.DJ K0 vs]=RY (.ok (.own,.lst (st.map stN)))
theorem iF(hO:Once rows)(hr:rows.length<=100)(hN:wX Γ rows)(Fp:∀w,w∉ks->Eh rows rows.length w=[]):∀(f:Nat) (DO:List (Str×Nat)) (Ei:List (List (Str×Nat))) (R:List Nat) (vs:List U) (o6 o7 o8 o9:Option (Kd×U)),
  LI rows DO R->Ei.flatten=DO->Ei.length<=DO.length->(rows.length - DO.length)+(if R=[] then 1 else 2)<=f ->
  ∃(Kv:List (Str×Nat)) (IJ:List (List (Str×Nat))) (st':aj),LI rows Kv []/\IJ.flatten=Kv/\IJ.length<=100/\st'[4]?=RY (RY (.own,.lst (fV IJ))) /\
   Run (gv (DX Γ (.cmp .ne (.var 5) (.lst []))) (execs Γ wW) f) [RY (.loc,.tup (rows.map A')),RY (.own,.DJ ks (ks.map (b9 (Eh rows rows.length)))),RY (.own,.lst (bE rows λp=>(cnt rows (DO.map (·.1)) p:Int))),RY (.own,.DJ (DO.map (·.1)) vs),RY (.own,.lst (fV Ei)),RY (.own,.lst (eJ R)),o6,o7,o8,o9] .nx st'
 |0,DO,Ei,R,vs,o6,o7,o8,o9,_,_,_,h=>by split at h<;>omega
 |f+1,DO,Ei,R,vs,o6,o7,o8,o9,x,hf,Q8,h=>by
  have hsz:(20000:Nat)<=R6:=by decide
  have Fh:∀{s:List (Str×Nat)} {R':List Nat},LI rows s R'->s.length<=rows.length:=λ{s R'} x=>by
   have h1:=hZ x.ok .nil;rw[Sz]at h1;have:=iW h1 (h_ x.ok);simpa using this
  have EM:=Fh x;let S:=λ(K:List Str) (vs:List U) (Ei:List (List (Str×Nat))) (R:List Nat) (o6 o7 o8 o9:Option (Kd×U))=>([RY (.loc,.tup (rows.map A')),RY (.own,.DJ ks (ks.map (b9 (Eh rows rows.length)))),RY (.own,.lst (bE rows λp=>(cnt rows K p:Int))),RY (.own,.DJ K vs),RY (.own,.lst (fV Ei)),RY (.own,.lst (eJ R)),o6,o7,o8,o9]:aj)
  have Q9:∀R:List Nat,Ek 50 (.lst (eJ R))=R4:=λR=>by show bY 49 _=R4;exact mn (λt:Nat=>((t:Nat):Int)) R 49
  have tc:Run (DX Γ (.cmp .ne (.var 5) (.lst []))) (S (DO.map (·.1)) vs Ei R o6 o7 o8 o9) (!(eJ R).isEmpty) (S (DO.map (·.1)) vs Ei R o6 o7 o8 o9) :=
   bj (ak rfl) (bX ag trivial aN (SM _)) ⟨⟨.own,rfl,rfl⟩,trivial⟩ (pH (Q9 R))
  by_cases hR:R=[]
  ·subst hR;exact⟨DO,Ei,_,x,hf,⋯,rfl,zy tc⟩
  ·rw[Ü hR]at h;have Q_:(!(eJ R).isEmpty)=R4:=by
    cases R with
    |nil=>exact absurd rfl hR
    |cons a l=>rfl
   rw[Q_]at tc;obtain⟨st,n,DS⟩:=hN R (DO.map (·.1)) vs λt ht=>(x.Ks t ht).1;have DW:(DO.map (·.1)++st.map (·.1)).Nodup:=by
    have h1:=hZ x.ok .nil;rw[Sz]at h1;rw[SW];refine⟨h1,n.once,λa ha b hb e=>?_⟩;obtain⟨s,hs,rfl⟩:=So.mp hb;exact(n.ok s hs).2.1 (e▸ha)
   have hlen:DO.length+st.length<=rows.length:=by
    have:=iW DW (L:=rows.map (·.1)) λy hy=>by
     rcases SA.mp hy with hy|hy
     ·exact h_ x.ok y hy
     ·obtain⟨s,hs,rfl⟩:=So.mp hy;obtain⟨_,_,r,q1,q2⟩:=n.ok s hs;exact So.mpr ⟨r,SY q1,q2⟩
    simpa using this
   let i6:Option (Kd×U):=RY (.own,.lst (st.map stN));obtain⟨Ea,R',Gq,Fm,Fg,y,Ra,Ng⟩:=uf (Γ:=Γ) hO hr Fp DW (by rw[R9];omega) (b0:=RY (.loc,.tup (rows.map A'))) (b4:=RY (.own,.lst (fV Ei))) vs o7 o8 o9;have x':=x.step n y;have em:(DO++st).map (·.1)=DO.map (·.1)++st.map (·.1):=SO;have Rb:Ek 50 (.lst (st.map stN))=R4:=by show bY 49 _=R4;exact pI st 48
   have Lw:Run (DX Γ (.cmp .ne (.var 6) (.lst []))) (S (DO.map (·.1)++st.map (·.1)) Ea Ei R' i6 Gq Fm Fg) (!(st.map stN).isEmpty) (S (DO.map (·.1)++st.map (·.1)) Ea Ei R' i6 Gq Fm Fg) :=
    bj (ak rfl) (bX ag trivial aN (SM _)) ⟨⟨.own,rfl,rfl⟩,trivial⟩ (pH Rb)
   have e1:(st.map stN).map (λu=>(kE (.bor 6),u))=st.map λs=>(Kd.loc,stN s):=by rw[Sx];rfl
   have pre:∀{Fy:aj},Run (execs Γ [.ite (.cmp .ne (.var 6) (.lst []))
    [.app 4 (.var 6)]
    []]) (S (DO.map (·.1)++st.map (·.1)) Ea Ei R' i6 Gq Fm Fg) .nx Fy->Run (execs Γ wW) (S (DO.map (·.1)) vs Ei R o6 o7 o8 o9) .nx Fy:=λh=>by
    refine aq (r:=(.own,.lst (st.map stN))) (aM (ab (ae rfl) (ab (ak rfl) (ab (ak rfl) ag))) ⟨⟨.own,rfl,rfl⟩,⟨.own,rfl,rfl⟩,trivial⟩ DS) aS ?_;refine aq (r:=(.own,.lst [])) (bX ag trivial aN (SM _)) aS ?_;exact cM (rs:=[(.bor 6,.lst (st.map stN))]) (ab (ak rfl) ag) ⟨⟨.own,rfl,rfl⟩,trivial⟩ (by show RY (Wf (λu=>(kE (.bor 6),u)) _)=_;rw[e1]) rfl Ng h
   by_cases EI:st=[]
   ·have Rc:=Ra EI;subst EI;rw[show(!(([]:List (Str×Nat)).map stN).isEmpty)=R5 from rfl]at Lw;have ee:DO++[]=DO:=TF _;rw[ee]at x';have hb:=pre (dG Lw (λh=>by cases h) λ_=>aF);obtain⟨IK,IL,st2,z1,z2,z3,z4,z5⟩:=iF hO hr hN Fp f DO Ei R' Ea i6 Gq Fm Fg x' hf Q8 (by rw[Ú Rc];omega);refine⟨IK,IL,st2,z1,z2,z3,z4,yS tc hb ?_⟩;have e3:DO.map (·.1)++([]:List (Str×Nat)).map (·.1)=DO.map (·.1):=by simp
    show Run _ (S (DO.map (·.1)++([]:List (Str×Nat)).map (·.1)) Ea Ei R' i6 Gq Fm Fg) _ _;rw[e3];exact z5
   ·have Nh:(!(st.map stN).isEmpty)=R4:=by
     cases st with
     |nil=>exact absurd rfl EI
     |cons a l=>rfl
    rw[Nh]at Lw;have Rf:0<st.length:=List.length_pos_iff.mpr EI;have ef:fV (Ei++[st])=fV Ei++[.lst (st.map stN)]:=by simp[fV]
    have hb:Run (execs Γ wW) (S (DO.map (·.1)) vs Ei R o6 o7 o8 o9) .nx (S (DO.map (·.1)++st.map (·.1)) Ea (Ei++[st]) R' (RY (.loc,.lst (st.map stN))) Gq Fm Fg):=by
     refine pre (dG Lw (λ_=>?_) λh=>by cases h);show Run _ _ _ [RY (.loc,.tup (rows.map A')),RY (.own,.DJ ks (ks.map (b9 (Eh rows rows.length)))),RY (.own,.lst (bE rows λp=>(cnt rows (DO.map (·.1)++st.map (·.1)) p:Int))),RY (.own,.DJ (DO.map (·.1)++st.map (·.1)) Ea),RY (.own,.lst (fV (Ei++[st]))),RY (.own,.lst (eJ R')),RY (.loc,.lst (st.map stN)),Gq,Fm,Fg];rw[ef];exact iT (k:=.own) (k':=.own) (r:=(.bor 6,.lst (st.map stN))) (u:=.lst (st.map stN)) rfl (ak rfl) (C0 rfl) rfl rfl (by unfold fV;rw[R9];omega) aF
    obtain⟨IK,IL,st2,z1,z2,z3,z4,z5⟩:=iF hO hr hN Fp f (DO++st) (Ei++[st]) R' Ea (RY (.loc,.lst (st.map stN))) Gq Fm Fg x' (by rw[Yk,hf];simp) (by rw[Sy,Sy,Vl];omega) (by rw[Sy];split<;>omega);refine⟨IK,IL,st2,z1,z2,z3,z4,yS tc hb ?_⟩;rw[em]at z5;exact z5
def zC(Γ:Tab)(rows:List Row):Prop:=∃ks:List Str,(∀w,w∉ks->Eh rows rows.length w=[])/\Γ "places_that_tell" [.tup (rows.map A')]=RY (.ok (.own,.DJ ks (ks.map (b9 (Eh rows rows.length)))))
theorem fW(hO:Once rows)(hr:rows.length<=100)(hP:zC Γ rows)(hN:wX Γ rows):∃(DO:List (Str×Nat)) (Ei:List (List (Str×Nat))),LI rows DO []/\Ei.flatten=DO/\Ei.length<=100/\bC Γ bQ [.tup (rows.map A')]=RY (.ok (.own,.lst (fV Ei))):=by
 have hsz:(20000:Nat)<=R6:=by decide
 obtain⟨ks,Fp,EX⟩:=hP;have DS:TM.start [.tup (rows.map A')] 10=[RY (.loc,.tup (rows.map A')),R3,R3,R3,R3,R3,R3,R3,R3,R3]:=by simp[TM.start,D',ba]
 let i0:Option (Kd×U):=RY (.loc,.tup (rows.map A'));let i1:Option (Kd×U):=RY (.own,.DJ ks (ks.map (b9 (Eh rows rows.length))));let i2:Option (Kd×U):=RY (.own,.lst (bE rows λp=>(cnt rows [] p:Int)));have g2:Run (ev Γ (.comp 1 R5 .seq [.var 0] [] (.bi .len [.idx (.var 0) (.cst (.int 1))]))) [i0,i1,R3,R3,R3,R3,R3,R3,R3,R3] (.own,.lst (bE rows λp=>(cnt rows [] p:Int))) [i0,i1,R3,R3,R3,R3,R3,R3,R3,R3]:=by
  have hx:=eB (cond:=aQ Γ []) (elt:=ev Γ (.bi .len [.idx (.var 0) (.cst (.int 1))])) (src:=[(.loc,.tup (rows.map A'))]) (st:=[i0,i1,R3,R3,R3,R3,R3,R3,R3,R3]) trivial .loc (.inl rfl) A' (λr=>.int (r.2.length:Nat)) .loc (λ_=>fq) rows [] (by simp;omega)
   (λy _=>⟨eh (ab (bo (x:=(.loc,A' y)) (ae rfl) ar trivial rfl) ag) trivial (by rw[yJ,R9]),aP⟩)
  rw[Sz]at hx;have e:(rows.map A').map (λu=>(kE .loc,u))=rows.map λr=>(Kd.loc,A' r):=by rw[Sx];rfl
  have e2:(rows.map λr=>U.int (r.2.length:Nat))=bE rows λp=>(cnt rows [] p:Int):=by
   unfold bE;apply UX
   ·simp
   ·intro i h1 h2;have hi:i<rows.length:=by simpa using h1
    have ht:told rows i=rows[i].2:=jq (by simp[hi]);have hc:cnt rows [] i=rows[i].2.length:=by unfold cnt qX;rw[ht];simp
    simp[hc]
  rw[e2]at hx;exact b8 (rs:=[(.loc,.tup (rows.map A'))]) (ab (ae rfl) ag) trivial (by show RY _=_;rw[e]) hx
 let R0:=(Sl rows.length).filter λp=>Sa (cnt rows [] p=0);let Gg:aj:=[i0,i1,i2,RY (.own,.DJ [] []),RY (.own,.lst []),R3,R3,R3,R3,R3]
 have g5:Run (ev Γ (.comp 2 R4 .Ip [.var 2] [.cmp .eq (.var 1) (.cst (.int 0))] (.var 0))) Gg (.own,.lst (eJ R0)) Gg:=by
  have hx:=nP (st:=Gg) (cond:=aQ Γ [.cmp .eq (.var 1) (.cst (.int 0))]) (elt:=ev Γ (.var 0)) (src:=[(.bor 2,.lst (bE rows λp=>(cnt rows [] p:Int)))]) ⟨⟨.own,rfl,rfl⟩,trivial⟩ (λp:Nat=>U.int (p:Nat)) (λp:Nat=>U.int (cnt rows [] p:Int)) (λp:Nat=>U.int (p:Nat)) (λp=>Sa (cnt rows [] p=0)) (Sl rows.length) [] (by simp;omega)
   (λy _=>⟨cO (bj (ae rfl) ar trivial (eu (by rw[Uo];simp))),ae rfl⟩)
  rw[Sz]at hx;have e:((bE rows λp=>(cnt rows [] p:Int)).zipIdx.map λp=>(kE (.bor 2),U.tup [.int p.2,p.1]))=(Sl rows.length).map λp:Nat=>(Kd.loc,U.tup [.int (p:Nat),.int (cnt rows [] p:Int)]):=by
   unfold bE;apply UX
   ·simp
   ·intro i h1 h2;simp[kE]
  exact b8 (rs:=[(.bor 2,.lst (bE rows λp=>(cnt rows [] p:Int)))]) (ab (ak rfl) ag) ⟨⟨.own,rfl,rfl⟩,trivial⟩ (by show RY _=_;rw[e]) hx
 have x0:LI rows [] R0:=⟨trivial,λt ht=>by
  obtain⟨a,b⟩:=T'.mp ht;exact⟨TB.mp a,by simpa using b⟩,λt r h1 h2=>.inl (T'.mpr ⟨TB.mpr (Sf.mp h1).1,by simpa using h2⟩)⟩
 obtain⟨DO,Ei,st',z1,z2,z3,z4,z5⟩:=iF hO hr hN Fp fuel [] [] R0 [] R3 R3 R3 R3 x0 rfl (Sv _) (by unfold fuel;split<;>simp<;>omega);refine⟨DO,Ei,z1,z2,z3,?_⟩;exact aD rfl (.inl rfl) DS (aq (r:=(.own,.DJ ks (ks.map (b9 (Eh rows rows.length))))) (aM (ab (ae rfl) ag) trivial EX) aS (aq g2 aS (aq (r:=(.own,.DJ [] [])) gz aS (aq (r:=(.own,.lst [])) (bX ag trivial aN (SM _)) aS (aq g5 aS (zA z5 (bP (ak z4) (l0 z4))))))))
theorem ug(hs:Γ "steps_in_rounds" [.tup (rows.map A')]=RY (.ok (.own,.lst (fV Ei))))(hf:Ei.flatten=DO)(hl:DO.length<=100):bC Γ ib [.tup (rows.map A')]=RY (.ok (.own,.lst (DO.map stN))):=by
 have hsz:(20000:Nat)<=R6:=by decide
 have DS:TM.start [.tup (rows.map A')] 3=[RY (.loc,.tup (rows.map A')),R3,R3]:=by simp[TM.start,D',ba]
 let S:=λ(l:List (Str×Nat)) (o2:Option (Kd×U))=>([RY (.loc,.tup (rows.map A')),RY (.own,.lst (l.map stN)),o2]:aj)
 obtain⟨st',DY,D9,o2,e⟩:=de (t:=R5) (is:=[2]) (body:=execs Γ [.ext 1 (.var 2)]) (rs:=[(.own,.lst (fV Ei))]) (λl:List (Str×Nat)=>(Kd.loc,U.lst (l.map stN)))
  (λd r st=>d++r=Ei/\∃o2:Option (Kd×U),st=S d.flatten o2) (λ_ _ _ _=>trivial) (λd y r st D4=>by
   obtain⟨D9,o2,e⟩:=D4;subst e;have hb:d.flatten.length+y.length<=100:=by
    have:=ß (λl:List (List (Str×Nat))=>l.flatten.length) D9;simp only[Yk,WR,Sy,hf]at this;omega
   refine⟨S d.flatten (RY (.loc,.lst (y.map stN))),S (d++[y]).flatten (RY (.loc,.lst (y.map stN))),cn aE,?_,by rw[<-D9];simp,_,rfl⟩;have em:(d++[y]).flatten.map stN=d.flatten.map stN++y.map stN:=by simp
   show Run _ _ _ [RY (.loc,.tup (rows.map A')),RY (.own,.lst ((d++[y]).flatten.map stN)),RY (.loc,.lst (y.map stN))];rw[em];exact wz (k:=.own) (k':=.own) rfl (ae rfl) rfl rfl (sE (by rw[R9,R9];omega) rfl) aF) Ei [] (S [] R3) ⟨rfl,R3,rfl⟩
 subst e;have e:(fV Ei).map (λu=>(kE .own,u))=Ei.map λl=>(Kd.loc,U.lst (l.map stN)):=by unfold fV;rw[Sx];rfl
 have h0:=aD (Γ:=Γ) (fn:=ib) rfl (.inl rfl) DS (aq (r:=(.own,.lst [])) (bX ag trivial aN (SM _)) aS (cM (rs:=[(.own,.lst (fV Ei))]) (st1:=S [] R3) (ab (aM (ab (ae rfl) ag) trivial hs) ag) trivial rfl rfl (by rw[e];exact DY) (bP (ak rfl) (l0 rfl))));rw[Sz,hf]at h0;exact h0
end
end K
namespace TM
open PySem L2 D6
abbrev Kw:=Str×Int
def EO(s:Kw):U:=.tup [.str s.1,.int s.2]
def rowAt(rows:List Row)(i:Int):Row:=(rows[i.toNat]?).getD ("",[])
def di(rows:List Row)(known:List Str)(s:Kw):Bool :=
 !(Sa (s.2<0)||decide ((rows.length:Int)<=s.2))&&(Sa ((rowAt rows s.2).1=s.1)&&(Sa (s.1∉known)&&(rowAt rows s.2).2.all λx=>Sa (x∈known)))
def fy(rows:List Row):List Str->List Kw->Bool
 |_,[]=>R4
 |known,s::ss=>di rows known s&&fy rows (known++[s.1]) ss
theorem Bz(h0:0<=i)(h1:i<rows.length):D8 (rows.map A') i=RY (A' (rowAt rows i)):=by
 have h:i.toNat<rows.length:=by omega
 have h2:D8 (rows.map A') ((i.toNat:Nat):Int)=RY (A' (rowAt rows i)):=cc (by simp[rowAt,h]);have e:((i.toNat:Nat):Int)=i:=by omega
 rw[e]at h2;exact h2
end TM
namespace K
open PySem L2 TM D6 Od
section
variable{Γ:Tab}{rows:List Row}{names:List Str}
theorem kQ(h:ss.length<64):Fd .sorted [(k,.lst (ss.map .str))]=RY (.own,.lst ((ay ss).map .str)):=by
 show(strsOf (ss.map .str)).bind _=_;rw[cY];show(if ss.length<64 then _ else _)=_;rw[Ú h]
theorem q_{DO:List (Str×Nat)}(hl:DO.length<64)(ho:Γ "order" [.tup (rows.map A')]=RY (.ok (.own,.lst (DO.map stN)))):bC Γ ic [.tup (rows.map A')]=RY (.ok (.own,.lst ((ay (DO.map (·.1))).map .str))):=by
 have hsz:(20000:Nat)<=R6:=by decide
 have DS:TM.start [.tup (rows.map A')] 1=[RY (.loc,.tup (rows.map A'))]:=by simp[TM.start,D',ba]
 have hx:=nP (st:=[RY (.loc,.tup (rows.map A'))]) (cond:=aQ Γ []) (elt:=ev Γ (.var 0)) (src:=[(.own,.lst (DO.map stN))]) trivial (λs:Str×Nat=>U.str s.1) (λs=>U.int (s.2:Nat)) (λs=>U.str s.1) (λ_=>R4) DO [] (by simp;omega) (λy _=>⟨fq,ae rfl⟩);rw[Sz,List.filter_eq_self.mpr (λ_ _=>rfl)]at hx;have e:(DO.map stN).map (λu=>(kE .own,u))=DO.map λs=>(Kd.loc,U.tup [.str s.1,.int (s.2:Nat)]):=by rw[Sx];rfl
 have e2:(DO.map λs=>U.str s.1)=(DO.map (·.1)).map U.str:=by rw[Sx];rfl
 rw[e2]at hx;exact aD rfl (.inl rfl) DS (bP (eh (ab (b8 (rs:=[(.own,.lst (DO.map stN))]) (ab (aM (ab (ae rfl) ag) trivial ho) ag) trivial (by show RY (Wf (λu=>(kE .own,u)) _)=_;rw[e]) hx) ag) trivial (kQ (by rw[R9];exact hl))) iS)
theorem pT(h8:∀r∈rows,r.2.length<=8):bC Γ cZ [.tup (rows.map A'),EO s,.DJ known vs]=RY (.ok (.loc,.bl (di rows known s))):=by
 have DS:TM.start [.tup (rows.map A'),EO s,.DJ known vs] 6=[RY (.loc,.tup (rows.map A')),RY (.loc,EO s),RY (.any,.DJ known vs),R3,R3,R3]:=by simp[TM.start,D',gu,ba,EO]
 let S:=λ(o3 o4 o5:Option (Kd×U))=>([RY (.loc,.tup (rows.map A')),RY (.loc,EO s),RY (.any,.DJ known vs),o3,o4,o5]:aj)
 let i3:Option (Kd×U):=RY (.loc,.str s.1);let i4:Option (Kd×U):=RY (.loc,.int s.2);have t1:Run (DX Γ (.or [.cmp .lt (.var 4) (.cst (.int 0)),.cmp .ge (.var 4) (.bi .len [.var 0])])) (S i3 i4 R3) (Sa (s.2<0)||decide ((rows.length:Int)<=s.2)) (S i3 i4 R3) :=
  v9 (zx (bj (ae rfl) ar trivial (wd rfl)) λ_=>oW (bj (ae rfl) (eh (ab (ae rfl) ag) trivial rfl) trivial (C5 (by rw[R9]))))
 have pre:∀{f:Fl} {st':aj},Run (execs Γ (cZ.body.drop 2)) (S i3 i4 R3) f st'->Run (execs Γ cZ.body) [RY (.loc,.tup (rows.map A')),RY (.loc,EO s),RY (.any,.DJ known vs),R3,R3,R3] f st':=λh =>
  aq (r:=(.loc,.str s.1)) (bo (x:=(.loc,EO s)) (ae rfl) ar trivial rfl) aE (aq (r:=(.loc,.int s.2)) (bo (x:=(.loc,EO s)) (ae rfl) ar trivial rfl) aE h)
 cases h:(Sa (s.2<0)||decide ((rows.length:Int)<=s.2)) with
 |true =>
  rw[h]at t1;have:di rows known s=R5:=by unfold di;rw[h];rfl
  rw[this];exact aD rfl (.inr rfl) DS (pre (dG t1 (λ_=>bP ar du) λh=>by cases h))
 |false =>
  rw[h]at t1;have h':=h;simp only[Bool.or_eq_false_iff,decide_eq_false_iff_not]at h';have ha:=Bz (rows:=rows) (i:=s.2) ⋯ ⋯;have E8:(rowAt rows s.2)∈rows:=by
   have:s.2.toNat<rows.length:=by omega
   simp[rowAt,this]
  have OJ:=h8 _ E8;have e:di rows known s=(Sa ((rowAt rows s.2).1=s.1)&&(Sa (s.1∉known)&&(rowAt rows s.2).2.all λx=>Sa (x∈known))):=by unfold di;rw[h];rfl
  rw[e];let i5:Option (Kd×U):=RY (.loc,A' (rowAt rows s.2));refine aD rfl (.inr rfl) DS (pre (dG t1 (λh=>by cases h) λ_=>aq (r:=(.loc,A' (rowAt rows s.2))) (bo (ae rfl) (ae rfl) trivial (mH ha)) aE (bP (st1:=S i3 i4 i5) (zt (qU (k:=.loc) ?_ λ_=>qU (k:=.loc) ?_ λ_=>v8 ?_)) du)))
  ·exact iP (bo (x:=(.loc,A' (rowAt rows s.2))) (ae rfl) ar trivial rfl) (ae rfl) trivial yO
  ·rw[show Sa (s.1∉known)=!Sa (s.1∈known) by simp];exact iP (ae rfl) (aZ rfl) trivial fL
  ·exact mj (k:=.any) (w:=.DJ known vs) (.inr rfl) ⋯ (bo (x:=(.loc,A' (rowAt rows s.2))) (ae rfl) ar trivial rfl) (.inl rfl) λ_=>wF
def nU:List TM.S:=[.ite (.not (.call "is_step" [.var 0,.var 3,.var 2])) [.ret (.cst (.bl R5))] [],.put 2 (.idx (.var 3) (.cst (.int 0))) (.cst (.bl R4))]
def ra(Γ:Tab)(rows:List Row):Prop:=∀(s:Kw) (known:List Str) (vs:List U),Γ "is_step" [.tup (rows.map A'),EO s,.DJ known vs]=RY (.ok (.loc,.bl (di rows known s)))
theorem pU(hS:ra Γ rows)(hk:k=.loc\/k=.any)(Fe:∀known vs o3,bc src [RY (.loc,.tup (rows.map A')),o1,RY (.own,.DJ known vs),o3]):∀(steps:List Kw) (known:List Str) (vs:List U) (o3:Option (Kd×U)),known.length=vs.length->known.length+steps.length<=1000 ->
  ∃st',(fy rows known steps=R4->Run (forM R5 [3] (execs Γ nU) src (steps.map λs=>(k,EO s))) [RY (.loc,.tup (rows.map A')),o1,RY (.own,.DJ known vs),o3] .nx st') /\
   (fy rows known steps=R5->Run (forM R5 [3] (execs Γ nU) src (steps.map λs=>(k,EO s))) [RY (.loc,.tup (rows.map A')),o1,RY (.own,.DJ known vs),o3] (.rt .loc (.bl R5)) st')
 |[],known,vs,o3,_,_=>⟨_,λ_=>oY (Fe _ _ _),λh=>by simp[fy]at h⟩
 |s::steps,known,vs,o3,Rg,hl=>by
  have hsz:(1000:Nat)<=R6:=by decide
  rw[SE]at hl;let S:=λ(known:List Str) (vs:List U)=>([RY (.loc,.tup (rows.map A')),o1,RY (.own,.DJ known vs),RY (k,EO s)]:aj)
  have Ff:Run (cB R5 [3] (k,EO s)) [RY (.loc,.tup (rows.map A')),o1,RY (.own,.DJ known vs),o3] () (S known vs):=by
   rcases hk with rfl|rfl
   ·exact cn aE
   ·exact cn iR
  have OL:∀known vs,Run (ev Γ (.var 3)) (S known vs) (k,EO s) (S known vs):=λknown vs=>by
   rcases hk with rfl|rfl
   ·exact ae rfl
   ·exact aZ rfl
  have hc:Run (DX Γ (.not (.call "is_step" [.var 0,.var 3,.var 2]))) (S known vs) (!di rows known s) (S known vs):=by
   refine zu (Bp (ab (ae rfl) (ab (OL _ _) (ab (ak rfl) ag))) ?_ (hS s known vs) rfl);rcases hk with rfl|rfl<;>exact⟨⟨.own,rfl,rfl⟩,trivial⟩
  cases DN:di rows known s with
  |false =>
   refine⟨S known vs,λh=>?_,λ_=>CV (Fe _ _ _) Ff (dG hc (λ_=>bP ar du) λh=>?_)⟩
   ·simp[fy,DN]at h
   ·simp[DN]at h
  |true =>
   have G4:s.1∉known:=by
    unfold di at DN;simp only[R7,Û]at DN;exact DN.2.2.1
   obtain⟨st',h1,h2⟩:=pU hS hk Fe steps (known++[s.1]) (vs++[.bl R4]) (RY (k,EO s)) (by simp[Rg]) (by simp;omega);have IH:dm (.str s.1) (.bl R4) (.DJ known vs)=RY (.DJ (known++[s.1]) (vs++[.bl R4])):=by
    show(if known.length<R6 then RY (U.DJ (dput known vs s.1 (.bl R4)).1 (dput known vs s.1 (.bl R4)).2) else R3)=_;rw[Ú ⋯];unfold dput;rw[Ü G4]
   have hb:Run (execs Γ nU) (S known vs) .nx (S (known++[s.1]) (vs++[.bl R4])):=by
    refine dG hc (λh=>by simp[DN]at h) λ_=>?_;refine kC (st1:=S known vs) (st2:=S known vs) (st3:=S known vs) (k:=.own) (k':=.own) (rk:=(kE k,.str s.1)) ar rfl (bo (x:=(k,EO s)) (OL _ _) ar ?_ rfl) (aK aP (aK ?_ aN)) rfl rfl IH aF
    ·rcases hk with rfl|rfl<;>trivial
    ·rcases hk with rfl|rfl
     ·exact aP
     ·exact kn rfl
   refine⟨st',λh=>oZ (Fe _ _ _) Ff hb (h1 ?_),λh=>oZ (Fe _ _ _) Ff hb (h2 ?_)⟩
   ·simpa[fy,DN] using h
   ·simpa[fy,DN] using h
theorem nV(hS:ra Γ rows)(hl:steps.length<=900):bC Γ eE [.tup (rows.map A'),.lst (steps.map EO)]=RY (.ok (.loc,.bl (fy rows [] steps))):=by
 have DS:TM.start [.tup (rows.map A'),.lst (steps.map EO)] 4=[RY (.loc,.tup (rows.map A')),RY (.any,.lst (steps.map EO)),R3,R3]:=by simp[TM.start,D',ba]
 obtain⟨st',h1,h2⟩:=pU (rows:=rows) hS (o1:=RY (.any,.lst (steps.map EO))) (src:=[(.any,.lst (steps.map EO))]) (k:=.any) (.inr rfl) (λ_ _ _=>trivial) steps [] [] R3 rfl (by simp;omega);have e:(steps.map EO).map (λu=>(kE .any,u))=steps.map λr=>(Kd.any,EO r):=by rw[Sx];rfl
 cases ho:fy rows [] steps with
 |true=>exact aD rfl (.inr rfl) DS (aq (r:=(.own,.DJ [] [])) gz aS (cM (rs:=[(.any,.lst (steps.map EO))]) (ab (aZ rfl) ag) trivial rfl rfl (by rw[e];exact h1 ho) (bP ar du)))
 |false=>exact aD rfl (.inr rfl) DS (aq (r:=(.own,.DJ [] [])) gz aS (tY (wa (rs:=[(.any,.lst (steps.map EO))]) (ab (aZ rfl) ag) trivial rfl rfl (by rw[e];exact h2 ho))))
end
section
variable{Γ:Tab}{rows:List Row}{names:List Str}{st:aj}
theorem wY(h:st[i]?=RY (RY (.loc,.bl b))):Run (DX Γ (.var i)) st b st:=aa (gf h) (cJ rfl)
def y7:List TM.S:=[.ite (.and [.cmp .DM (.var 3) (.var 1),.bi .all [.comp 1 R5 .seq [.var 4] [] (.cmp .isin (.var 0) (.var 2))]]) [.put 1 (.var 3) (.cst (.bl R4)),.set 2 (.cst (.bl R4))] []]
structure Lk(rows:List Row)(K:List Str):Prop where
 nd:K.Nodup
 snd:HN rows K
 Ni:∀x∈K,x∈rows.map (·.1)
def lS(rows:List Row)(K:List Str)(vs:List U)(b:Bool)(o3 o4:Option (Kd×U)):aj:=[RY (.loc,.tup (rows.map A')),RY (.own,.DJ K vs),RY (.loc,.bl b),o3,o4]
theorem Lk.len(x:Lk rows K):K.length<=rows.length:=by
 have:=iW x.nd x.Ni
 rwa [R9]at this
theorem Lk.add(x:Lk rows K)(hr:r∈rows)(h1:r.1∉K)(h2:∀y∈r.2,y∈K):Lk rows (K++[r.1]):=by
 refine⟨?_,λC hC y hy=>?_,λy hy=>?_⟩
 ·rw[SW];refine⟨x.nd,by simp,λa ha b hb e=>?_⟩;have:b=r.1:=by simpa using hb
  subst this;exact h1 (e▸ha)
 ·rcases SA.mp hy with hy|hy
  ·exact x.snd C hC y hy
  ·have:y=r.1:=by simpa using hy
   subst this;exact hC r hr λz hz=>x.snd C hC z (h2 z hz)
 ·rcases SA.mp hy with hy|hy
  ·exact x.Ni y hy
  ·have:y=r.1:=by simpa using hy
   subst this;exact So.mpr ⟨r,hr,rfl⟩
theorem wZ(h8:∀r∈rows,r.2.length<=8)(hr:rows.length<=100)(x:Lk rows K0)(vs:List U)(o3 o4:Option (Kd×U)):∃(K1:List Str) (GO:List U) (b:Bool) (q3 q4:Option (Kd×U)),Lk rows K1/\(b=R4->K0.length<K1.length)/\(b=R5->K1=K0/\fw rows (·∈K0)) /\
  Run (forM R4 [3,4] (execs Γ y7) [(.loc,.tup (rows.map A'))] (rows.map λr=>(Kd.loc,A' r))) (lS rows K0 vs R5 o3 o4) .nx (lS rows K1 GO b q3 q4):=by
 have hsz:(20000:Nat)<=R6:=by decide
 obtain⟨st1,GU,_,K1,GO,b,q3,q4,e,y1,y2,y3⟩:=de (t:=R4) (is:=[3,4]) (body:=execs Γ y7) (rs:=[(.loc,.tup (rows.map A'))]) (λr:Row=>(Kd.loc,A' r))
  (λd r st=>d++r=rows/\∃(K:List Str) (vs:List U) (b:Bool) (o3 o4:Option (Kd×U)),st=lS rows K vs b o3 o4/\Lk rows K/\(b=R4->K0.length<K.length)/\(b=R5->K=K0/\∀r∈d,(∀y∈r.2,y∈K0)->r.1∈K0)) (λ_ _ _ _=>trivial) (λd row r st D4=>by
   obtain⟨D9,K,vs,b,o3,o4,e,y1,y2,y3⟩:=D4;subst e;have Et:row∈rows:=by rw[<-D9];simp
   have OJ:=h8 row Et;have Io:=y1.len;let i3:Option (Kd×U):=RY (.loc,.str row.1);let i4:Option (Kd×U):=RY (.loc,.tup (row.2.map .str));have tc:Run (DX Γ (.and [.cmp .DM (.var 3) (.var 1),.bi .all [.comp 1 R5 .seq [.var 4] [] (.cmp .isin (.var 0) (.var 2))]])) (lS rows K vs b i3 i4) (!Sa (row.1∈K)&&row.2.all λy=>Sa (y∈K)) (lS rows K vs b i3 i4) :=
    iQ (kF (bj (ae rfl) (ak rfl) ⟨⟨.own,rfl,rfl⟩,trivial⟩ fL) λ_=>cO (wy (mj (j:=1) (k:=.loc) (w:=.DJ K vs) (.inl rfl) ⋯ (ae rfl) (.inr rfl) λ_=>wF)))
   have Ff:Run (cB R4 [3,4] (.loc,A' row)) (lS rows K vs b o3 o4) () (lS rows K vs b i3 i4):=pF (.inl rfl);cases hp:(!Sa (row.1∈K)&&row.2.all λy=>Sa (y∈K)) with
   |false =>
    rw[hp]at tc;refine⟨_,_,Ff,dG tc (λh=>by cases h) λ_=>aF,by rw[<-D9];simp,K,vs,b,_,_,rfl,y1,y2,λhb=>⟨(y3 hb).1,λr' ES hz=>?_⟩⟩;rcases SA.mp ES with ES|ES
    ·exact(y3 hb).2 r' ES hz
    ·have:r'=row:=by simpa using ES
     subst this;rw[<-(y3 hb).1]at hz ⊢;by_cases hm:r'.1∈K
     ·exact hm
     ·have:(!Sa (r'.1∈K)&&r'.2.all λy=>Sa (y∈K))=R4:=by
       rw[Ý hm];simpa using hz
      rw[this]at hp;cases hp
   |true =>
    rw[hp]at tc;have Lx:=hp;simp only[R7,Tr,decide_eq_false_iff_not,TL,Û]at Lx;refine⟨_,lS rows (K++[row.1]) (vs++[.bl R4]) R4 i3 i4,Ff,dG tc (λ_=>?_) (λh=>by cases h),by rw[<-D9];simp,K++[row.1],_,R4,_,_,rfl,y1.add Et Lx.1 Lx.2,λ_=>?_,λh=>by cases h⟩
    ·exact kC (k:=.own) (rv:=(.loc,.bl R4)) (rk:=(.loc,.str row.1)) ar rfl (ae rfl) (aK aP (aK aP aN)) rfl rfl (nO ⋯ Lx.1) (aq ar aE aF)
    ·rw[Sy,Vl];cases b with
     |true=>have:=y2 rfl;omega
     |false=>rw[(y3 rfl).1];omega) rows [] (lS rows K0 vs R5 o3 o4) ⟨rfl,K0,vs,R5,o3,o4,rfl,x,(λh=>by cases h),λ_=>⟨rfl,λr hr=>by cases hr⟩⟩
 subst e;rw[Sz]at y3;exact⟨K1,GO,b,q3,q4,y1,y2,y3,GU⟩
theorem w9(h8:∀r∈rows,r.2.length<=8)(hr:rows.length<=100):∀(f:Nat) (K0:List Str) (vs:List U) (o3 o4:Option (Kd×U)),Lk rows K0->rows.length - K0.length+2<=f ->
  ∃(K1:List Str) (GO:List U) (q3 q4:Option (Kd×U)),Lk rows K1/\fw rows (·∈K1)/\Run (gv (DX Γ (.var 2)) (execs Γ [.set 2 (.cst (.bl R5)),.D1 R4 [3,4] .seq [.var 0] y7]) f) (lS rows K0 vs R4 o3 o4) .nx (lS rows K1 GO R5 q3 q4)
 |0,_,_,_,_,_,h=>by omega
 |f+1,K0,vs,o3,o4,x,h=>by
  obtain⟨K1,GO,b,q3,q4,y1,y2,y3,GU⟩:=wZ (Γ:=Γ) h8 hr x vs o3 o4;have e2:(rows.map A').map (λu=>(kE .loc,u))=rows.map λr=>(Kd.loc,A' r):=by rw[Sx];rfl
  have hb:Run (execs Γ [.set 2 (.cst (.bl R5)),.D1 R4 [3,4] .seq [.var 0] y7]) (lS rows K0 vs R4 o3 o4) .nx (lS rows K1 GO b q3 q4) :=
   aq ar aE (cM (rs:=[(.loc,.tup (rows.map A'))]) (st1:=lS rows K0 vs R5 o3 o4) (ab (ae rfl) ag) trivial (by show RY (Wf (λu=>(kE .loc,u)) _)=_;rw[e2]) rfl GU aF)
  cases b with
  |false =>
   obtain⟨e,hc⟩:=y3 rfl;subst e;cases f with
   |zero=>omega
   |succ f=>exact⟨K1,GO,q3,q4,y1,hc,yS (wY rfl) hb (zy (wY rfl))⟩
  |true =>
   have:=y2 rfl;have:=y1.len;obtain⟨K2,Ov,p3,p4,z1,z2,z3⟩:=w9 h8 hr f K1 GO q3 q4 y1 ⋯;exact⟨K2,Ov,p3,p4,z1,z2,yS (wY rfl) hb z3⟩
theorem pV(h8:∀r∈rows,r.2.length<=8)(hr:rows.length<=100)(GR:∀r∈rows,r.1∈names)(G7:names.length<64):∃L:List Str,L.Nodup/\HN rows L/\fw rows (·∈L)/\bC Γ cV [.tup (rows.map A')]=RY (.ok (.own,.lst ((ay L).map .str))):=by
 have DS:TM.start [.tup (rows.map A')] 5=[RY (.loc,.tup (rows.map A')),R3,R3,R3,R3]:=by simp[TM.start,D',ba]
 obtain⟨L,vs,q3,q4,y1,y2,GU⟩:=w9 (Γ:=Γ) h8 hr fuel [] [] R3 R3 ⟨.nil,(λC _ x hx=>by cases hx),(λx hx=>by cases hx)⟩ (by unfold fuel;simp;omega);have hl:L.length<64:=by
  have:=iW y1.nd (L:=names) λx hx=>by
   obtain⟨r,a,b⟩:=So.mp (y1.Ni x hx);exact b▸GR r a
  omega
 have hs:Fd .sorted [(.bor 1,.DJ L vs)]=RY (.own,.lst ((ay L).map .str)):=by
  show(if L.length<64 then _ else _)=_;rw[Ú hl]
 exact⟨L,y1.nd,y1.snd,y2,aD rfl (.inl rfl) DS (aq (r:=(.own,.DJ [] [])) gz aS (aq ar aE (zA GU (bP (eh (ab (ak rfl) ag) ⟨⟨.own,rfl,rfl⟩,trivial⟩ hs) iS))))⟩
end
end K
namespace TM
open PySem L2 D6
theorem pW:∀{ps:List Pr}{x:Str},x∈ps.map (·.1)->(x,cv ps x)∈ps
 |[],_,h=>by cases h
 |p::ps,x,h=>by
  by_cases e:p.1=x
  ·subst e;simp[cv]
  ·simp only[cv,Ü e];exact SS _ (pW (by simpa[Te e] using h))
theorem sO:∀{ps:List Pr},(ps.map (·.2)).Nodup->∀p∈ps,∀q∈ps,p.2=q.2->p=q
 |[],_,p,hp,_,_,_=>by cases hp
 |a::ps,h,p,hp,q,hq,e=>by
  rw[Sd,SU]at h;rcases Sn.mp hp with e1|h1
  ·rcases Sn.mp hq with e2|h2
   ·rw[e1,e2]
   ·exact absurd (So.mpr ⟨q,h2,by rw[<-e,e1]⟩) h.1
  ·rcases Sn.mp hq with e2|h2
   ·exact absurd (So.mpr ⟨p,h1,by rw[e,e2]⟩) h.1
   ·exact sO h.2 p h1 q h2 e
section
def Nj(mine theirs same:List Str)(p:Pr):Prop:=(p.1∈mine/\p.1∉same->p.2∉mine++theirs)/\(¬(p.1∈mine/\p.1∉same)->p.2=p.1)
theorem pX:∀(ws:List Str) (acc:List Pr),(∀p∈acc,Nj mine theirs same p)->mine.length+theirs.length+acc.length+ws.length<98->∀p∈gC mine theirs same acc ws,Nj mine theirs same p
 |[],acc,h,_=>h
 |w::ws,acc,h,hl=>by
  rw[SE]at hl;refine pX ws _ (λp hp=>?_) (by rw[Sy];show _+(acc.length+1)+_<98;omega);rcases SA.mp hp with hp|hp
  ·exact h p hp
  ·rw[SX.mp hp];unfold Nj newName;refine⟨λc=>?_,λc=>Ü c⟩;show(if _ then _ else _)∉_;rw[Ú c];exact λz=>(iD (stemOf w) (L:=mine++theirs++acc.map (·.2)) (by simp;omega)).2 (TJ _ z)
theorem nW:∀(ws:List Str) (acc:List Pr),(∀w∈ws,¬(w∈mine/\w∉same))->gC mine theirs same acc ws=acc++ws.map λw=>(w,w)
 |[],acc,_=>by simp[gC]
 |w::ws,acc,h=>by
  rw[gC,nW ws _ λx hx=>h x (SS _ hx),newName,Ü (h w SR)];simp
theorem nX(x:Str):∀ws:List Str,cv (ws.map λw=>(w,w)) x=x
 |[]=>rfl
 |w::ws=>by
  rw[Sd,cv];by_cases e:w=x
  ·rw[Ú e];exact e
  ·rw[Ü e];exact nX x ws
theorem sP(ws:List Str)(rows:List Row):rows.map (dn (ws.map λw=>(w,w)))=rows:=by
 refine(Tf λr _=>?_).trans (W8 rows);show(cv _ r.1,r.2.map (cv _))=r;rw[nX,Tf (g:=id) λx _=>nX x ws,W8]
structure BA(mine theirs same:List Str)(f:Str->Str):Prop where
 fresh:∀w∈theirs,w∈mine->w∉same->f w∉mine
 js:∀w∈theirs,w∉mine->f w=w
 inj:∀x∈theirs,∀y∈theirs,f x=f y->x=y
theorem C6(DW:theirs.Nodup)(hm:mine.length<=14)(ht:theirs.length<=14):(gC mine theirs same [] theirs).map (·.1)=theirs/\BA mine theirs same (cv (gC mine theirs same [] theirs)):=by
 have A:=sI (mine:=mine) (theirs:=theirs) (same:=same) DW ⋯ theirs [] ⟨rfl,by simp,by simp⟩;have B:=pX (mine:=mine) (theirs:=theirs) (same:=same) theirs [] (by simp) (by simp;omega);have e:(gC mine theirs same [] theirs).map (·.1)=theirs:=by simpa using A.all
 have m:∀w∈theirs,(w,cv (gC mine theirs same [] theirs) w)∈gC mine theirs same [] theirs:=λw hw=>pW (by rw[e];exact hw);exact⟨e,λw hw h1 h2 z=>(B _ (m w hw)).1 ⟨h1,h2⟩ (TJ _ z),λw hw h=>(B _ (m w hw)).2 λz=>h z.1,λx hx y hy q=>ß (·.1) (sO A.once _ (m x hx) _ (m y hy) q)⟩
end
theorem w_(h:x∈rows):x∈eF rows r:=by
 unfold eF;split
 ·exact h
 ·exact TJ _ h
theorem gE:∀{d rows:List Row},x∈rows->x∈bf rows d
 |[],_,h=>h
 |_::d,_,h=>gE (d:=d) (w_ h)
theorem kR:∀{d rows:List Row},r∈d->∃s∈bf rows d,keyOf s=keyOf r
 |s::d,rows,h=>by
  rcases Sn.mp h with rfl|h
  ·have:∃s∈eF rows r,keyOf s=keyOf r:=by
    unfold eF;split
    ·rename_i q;obtain⟨s,a,b⟩:=UZ.mp q;exact⟨s,a,by simpa[Ge] using b⟩
    ·exact⟨r,by simp,rfl⟩
   obtain⟨s,a,b⟩:=this;exact⟨s,gE (d:=d) a,b⟩
  ·exact kR (d:=d) h
theorem y8(h:keyOf s=keyOf r):s.1=r.1/\∀x,x∈s.2↔x∈r.2:=by
 unfold keyOf at h;injection h with h1 h2
 exact⟨h1,λx=>by rw[<-(aR s.2).mem_iff,h2,(aR r.2).mem_iff]⟩
theorem iZ:∀{d rows:List Row},(∀r∈d,r∈rows)->bf rows d=rows
 |[],_,_=>rfl
 |r::d,rows,h=>by
  have e:eF rows r=rows:=by
   unfold eF;rw[Ú (UZ.mpr ⟨r,h r (by simp),by simp[Ge]⟩)]
  rw[bf,e];exact iZ λs hs=>h s (by simp[hs])
theorem kS:∀{d rows:List Row},((rows++d).map keyOf).Nodup->bf rows d=rows++d
 |[],_,_=>by simp[bf]
 |r::d,rows,h=>by
  have e:eF rows r=rows++[r]:=by
   unfold eF;rw[Ü];intro q;obtain⟨s,a,b⟩:=UZ.mp q;rw[SO,SW]at h;exact h.2.2 _ (So.mpr ⟨s,a,rfl⟩) _ (So.mpr ⟨r,by simp,rfl⟩) (by simpa[Ge] using b)
  rw[bf,e,kS (by simpa using h)];simp
end TM
namespace K
open PySem L2 TM D6 Od
section
structure Kn(rows:List Row)(K:List Str):Prop where
 nd:K.Nodup
 sn:HN rows K
 cl:fw rows (·∈K)
theorem Kn.perm(a:Kn rows K)(b:Kn rows L):K.Perm L:=same a.nd b.nd a.sn b.sn a.cl b.cl
theorem Kn.sort(a:Kn rows K)(b:Kn rows L):ay K=ay L:=pJ ((a.perm b).trans (aR L).symm) (dP L)
theorem Kn.of(s:LI rows DO []):Kn rows (DO.map (·.1)):=by
 have DW:=hZ s.ok .nil;have OM:=wD s.ok (λC _ x hx=>by cases hx);rw[Sz]at DW OM;exact⟨DW,OM,s.closed⟩
theorem Kn.words(hK:Kn rows K):∀x∈K,x∈aw rows:=hK.sn (·∈aw rows) λr h _=>dh.mpr (dg.mpr ⟨r,h,.inl rfl⟩)
theorem sQ(n:Nat)(hw:∀r∈rows,aW names r)(hW:names.length<=60)(hr:rows.length<=100):∃DO:List (Str×Nat),LI rows DO []/\DO.length<=60/\Ec prog (n+4) "order" [.tup (rows.map A')]=RY (.ok (.own,.lst (DO.map stN))):=by
 have h8:∀r∈rows,r.2.length<=8:=λr h=>(hw r h).Fh;have hO:Once rows:=λr h=>(hw r h).once;have GR:∀r∈rows,r.1∈names:=λr h=>(hw r h).word;have hG:zB (Ec prog (n+1)):=λps hl=>by
  obtain⟨ks,a,b⟩:=nS (Γ:=Ec prog n) hl;exact⟨ks,a,(aB (show Em prog "gathered" eD from rfl) _).trans b⟩
 have hP:zC (Ec prog (n+2)) rows:=by
  obtain⟨ks,a,b⟩:=q9 hG hO h8 hr;exact⟨ks,a,(aB (show Em prog "places_that_tell" bJ from rfl) _).trans b⟩
 have hN:wX (Ec prog (n+2)) rows:=λR K0 vs hR=>by
  obtain⟨st,a,b⟩:=lr (Γ:=Ec prog (n+1)) GR ⋯ hR (K0:=K0) (vs:=vs);exact⟨st,a,(aB (show Em prog "new_steps" dy from rfl) _).trans b⟩
 obtain⟨DO,Ei,s1,s2,s3,s4⟩:=fW hO hr hP hN;have s5:Ec prog (n+3) "steps_in_rounds" [.tup (rows.map A')]=RY (.ok (.own,.lst (fV Ei))):=(aB (show Em prog "steps_in_rounds" bQ from rfl) _).trans s4;have Kg:DO.length<=60:=by
  have:=iW (Kn.of s1).nd (L:=names) λx hx=>by
   obtain⟨r,a,b⟩:=So.mp (h_ s1.ok x hx);exact b▸GR r a
  rw[R9]at this;omega
 exact⟨DO,s1,Kg,(aB (show Em prog "order" ib from rfl) _).trans (ug s5 s2 ⋯)⟩
theorem y9(n:Nat)(hw:∀r∈rows,aW names r)(hW:names.length<=60)(hr:rows.length<=100)(hK:Kn rows K):Ec prog (n+5) "learnt" [.tup (rows.map A')]=RY (.ok (.own,.lst ((ay K).map .str))):=by
 obtain⟨DO,s1,s2,s3⟩:=sQ n hw hW hr;rw[<-(Kn.of s1).sort hK];exact(aB (show Em prog "learnt" ic from rfl) _).trans (q_ ⋯ s3)
theorem BB(n:Nat)(hw:∀r∈rows,aW names r)(hW:names.length<=60)(hr:rows.length<=100)(hK:Kn rows K):Ec prog (n+1) "_law_learnt" [.tup (rows.map A')]=RY (.ok (.own,.lst ((ay K).map .str))):=by
 obtain⟨L,l1,l2,l3,l4⟩:=pV (Γ:=Ec prog n) (λr h=>(hw r h).Fh) hr (λr h=>(hw r h).word) (show names.length<64 by omega);rw[<-Kn.sort ⟨l1,l2,l3⟩ hK];exact(aB (show Em prog "_law_learnt" cV from rfl) _).trans l4
theorem pY:∀{DO:List (Str×Nat)}{K:List Str},vS rows K DO->fy rows K (DO.map λs=>(s.1,(s.2:Int)))=R4
 |[],_,_=>rfl
 |s::ss,K,h=>by
  obtain⟨h1,h2⟩:=h;rw[Sd,fy,pY h2,Wx];obtain⟨h3,r,h4,h5,h6⟩:=h1;have hl:s.2<rows.length:=(Sf.mp h4).1;unfold di rowAt;simp only[TY,h4,WN,h5];simp[h3,hl];exact h6
end
section
variable{one other:List Row}{same names:List Str}
def Ey(one other:List Row)(same:List Str):List Pr:=gC (aw one) (aw other) same [] (aw other)
def cz(one other:List Row)(same:List Str):List Row:=bf one (other.map (dn (Ey one other same)))
theorem y_(other:List Row):∀r∈other,r.1∈aw other/\∀x∈r.2,x∈aw other:=λr hr=>⟨dh.mpr (dg.mpr ⟨r,hr,.inl rfl⟩),λx hx=>dh.mpr (dg.mpr ⟨r,hr,.inr hx⟩)⟩
theorem rb(n:Nat)(hl:one.length<=60)(G9:other.length<=60)(hn:names.length<=14)(h1:∀r∈one,aW names r)(h2:∀r∈other,aW names r)(hc:∀x∈names,a9 x.cps.toList):Ec prog (n+2) "new_names" [.tup (one.map A'),.tup (other.map A'),.lst (same.map .str)]=RY (.ok (.own,.lst ((Ey one other same).map EW))):=by
 have w1:=cp h1;have w2:=cp h2;refine(aB (show Em prog "new_names" dw from rfl) _).trans (ll rfl (λx=>ft) (λrows hr=>?_) (λw hw=>(aB (show Em prog "stem_of" fN from rfl) _).trans (pM (by rw[len_list];have:=hw.len.2;omega))) (λaX ks vs h1 h2=>(aB (show Em prog "free_name" dv from rfl) _).trans (wJ h1 h2)) ⋯ ⋯ λx hx=>hc x (cT h2 x (dh.mp hx)));rcases hr with rfl|rfl
 ·exact(aB (show Em prog "words_of" nK from rfl) _).trans (hU ⋯ h1 ⋯)
 ·exact(aB (show Em prog "words_of" nK from rfl) _).trans (hU ⋯ h2 ⋯)
theorem pZ(n:Nat)(hl:one.length+other.length<=60)(hn:names.length<=14)(h1:∀r∈one,aW names r)(h2:∀r∈other,aW names r)(hc:∀x∈names,a9 x.cps.toList):Ec prog (n+3) "laid" [.tup (one.map A'),.tup (other.map A'),.lst (same.map .str)]=RY (.ok (.loc,.tup ((cz one other same).map A'))):=by
 have w1:=cp h1;have w2:=cp h2;have ke:=(C6 (mine:=aw one) (same:=same) (cU other) ⋯ ⋯).1;exact(aB (show Em prog "laid" nQ from rfl) _).trans (wO (ps:=Ey one other same) (rb n ⋯ ⋯ hn h1 h2 hc) (by unfold Ey;rw[ke];exact cU other)
  (λr h1 h2 h3=>(aB (show Em prog "renamed" fO from rfl) _).trans (pR h1 h2 h3)) (λr s h1 h2=>(aB (show Em prog "alike" ia from rfl) _).trans (ue (λr h=>(aB (show Em prog "in_one_order" bU from rfl) _).trans (lq h)) h1 h2)) (λr hr=>(h1 r hr).Fh) (λr hr=>(h2 r hr).Fh) (by unfold Ey;rw[ke];exact y_ other) hl)
variable{K1 K2 Kb:List Str}
theorem xa(k1:Kn one K1)(kb:Kn (cz one other same) Kb):∀x∈K1,x∈Kb:=k1.sn (·∈Kb) λr h q=>kb.cl r (gE h) q
theorem rf(k2:Kn other K2)(kb:Kn (cz one other same) Kb):∀x∈K2,cv (Ey one other same) x∈Kb:=k2.sn (cv (Ey one other same) ·∈Kb) λr h q=>by
 obtain⟨s,hs,e⟩:=kR (rows:=one) (So.mpr ⟨r,h,rfl⟩:dn (Ey one other same) r∈other.map (dn (Ey one other same)));obtain⟨e1,e2⟩:=y8 e;have:=kb.cl s hs λy hy=>by
  obtain⟨x,hx,rfl⟩:=So.mp ((e2 y).mp hy);exact q x hx
 rw[e1]at this;exact this
theorem uh(N:BA (aw one) (aw other) same (cv (Ey one other same)))(hs:∀w∈same,w∈aw one->w∉aw other)(k1:Kn one K1)(k2:Kn other K2)(kb:Kn (cz one other same) Kb):∀x∈Kb,x∈K1\/x∈K2.map (cv (Ey one other same)):=by
 have hm:∀w∈aw other,cv (Ey one other same) w∉aw one:=λw hw=>by
  by_cases h:w∈aw one
  ·exact N.fresh w hw h λz=>hs w z h hw
  ·rw[N.js w hw h];exact h
 refine kb.sn (λx=>x∈K1\/x∈K2.map (cv (Ey one other same))) λr hr q=>?_;rcases eG hr with h|h
 ·refine .inl (k1.cl r h λx hx=>(q x hx).resolve_right λz=>?_);obtain⟨w,hw,e⟩:=So.mp z;exact hm w (k2.words w hw) (by rw[e];exact(y_ one r h).2 x hx)
 ·obtain⟨t,ht,rfl⟩:=So.mp h;refine .inr (So.mpr ⟨t.1,k2.cl t ht λy hy=>?_,rfl⟩);have Jn:=(y_ other t ht).2 y hy;rcases q (cv (Ey one other same) y) (So.mpr ⟨y,hy,rfl⟩) with z|z
  ·exact absurd (k1.words _ z) (hm y Jn)
  ·obtain⟨w,hw,e⟩:=So.mp z;rw[<-N.inj w (k2.words w hw) y Jn e];exact hw
theorem za(N:BA (aw one) (aw other) same (cv (Ey one other same)))(h1:∀r∈one,aW names r)(h2:∀r∈other,aW names r):∀r∈cz one other same,aW (names++(aw other).map (cv (Ey one other same))) r:=λr hr=>by
 rcases eG hr with h|h
 ·have q:=h1 r h;exact⟨TJ _ q.word,q.Fh,q.once,λx hx=>TJ _ (q.told x hx)⟩
 ·obtain⟨t,ht,rfl⟩:=So.mp h;have q:=h2 t ht;obtain⟨a,b⟩:=y_ other t ht;refine⟨SV _ (So.mpr ⟨_,a,rfl⟩),By q.Fh,fu (λx hx y hy e=>N.inj x (b x hx) y (b y hy) e) q.once,λx hx=>?_⟩;obtain⟨y,hy,rfl⟩:=So.mp hx;exact SV _ (So.mpr ⟨y,b y hy,rfl⟩)
theorem ui{W:List Str}(hW:∀x∈aw one,x∈W):cz one one W=one:=by
 unfold cz Ey;rw[nW _ _ λw hw z=>z.2 (hW w hw),Sz,sP];exact iZ λr h=>h
theorem uj{W:List Str}:cz one [] W=one:=rfl
theorem sR{W:List Str}:Ey [] other W=(aw other).map λw=>(w,w):=by
 unfold Ey;rw[nW _ _ (λw hw z=>by obtain⟨r,h,_⟩:=dg.mp (dh.mp z.1);cases h),Sz]
theorem um{W:List Str}(hk:(other.map keyOf).Nodup):cz [] other W=other:=by
 unfold cz;rw[sR,sP,kS (by simpa using hk)];rfl
end
end K
namespace TM
open PySem L2 D6
theorem uo(h:Ek 50 u=R4):a5 .eq u u=RY R4:=by
 simp only[a5];rw[Ú ⟨h,h⟩,iC _ _ h]
theorem BC{a b:List Str}:a5 .ne (.lst (a.map U.str)) (.lst (b.map U.str))=RY (!Sa (a=b)):=by
 have:a5 .ne (.lst (a.map U.str)) (.lst (b.map U.str))=(a5 .eq (.lst (a.map U.str)) (.lst (b.map U.str))).map (!·):=by
  simp only[a5];rw[Ú ⟨bT a 49,bT b 49⟩,Ú ⟨bT a 49,bT b 49⟩];rfl
 rw[this,pq];rfl
end TM
namespace K
open PySem L2 TM D6 Od
theorem makers:cF Bx prog:=⟨rfl,rfl,rfl,rfl,rfl,rfl,rfl⟩
section
theorem heads(f:α->Str)(g:α->U)(hg:∀a,fe (.loc,g a) (.int 0)=RY (.loc,.str (f a))){xs:List α}(h:st[j]?=RY (RY (.own,.lst (xs.map g))))(hl:xs.length<=1000):
  Run (ev Γ (.comp 1 R5 .seq [.var j] [] (.idx (.var 0) (.cst (.int 0))))) st (.own,.lst ((xs.map f).map .str)) st:=by
 have hsz:(2000:Nat)<=R6:=by decide
 have hx:=eB (cond:=aQ Γ []) (elt:=ev Γ (.idx (.var 0) (.cst (.int 0)))) (src:=[(.bor j,.lst (xs.map g))]) (st:=st) ⟨⟨.own,rfl,h⟩,trivial⟩ .loc (.inl rfl) g (λa=>.str (f a)) .loc (λ_=>fq) xs [] (by simp;omega)
  (λr _=>⟨bo (ae rfl) ar trivial (hg r),aP⟩)
 rw[Sz]at hx;rw[Sx];exact b8 (rs:=[(.bor j,.lst (xs.map g))]) (ab (ak h) ag) ⟨⟨.own,rfl,h⟩,trivial⟩ (by show RY (Wf _ _)=_;rw[Sx];rfl) hx
theorem uq{book:List Row}{W:List Str}(RQ:W.length<=1000)
  (IM:Γ "_law_words" [.tup (book.map A')]=RY (.ok (.own,.lst (W.map .str))))
  (h1:Γ "laid" [.tup (book.map A'),.tup (book.map A'),.lst (W.map .str)]=RY (.ok (.loc,.tup (book.map A'))))
  (h2:Γ "laid" [.tup (book.map A'),.tup [],.lst []]=RY (.ok (.loc,.tup (book.map A'))))
  (h3:Γ "laid" [.tup [],.tup (book.map A'),.lst ((cut W R3 (RY 2)).map .str)]=RY (.ok (.loc,.tup (book.map A'))))
  (h4:Γ "new_names" [.tup [],.tup (book.map A'),.lst []]=RY (.ok (.own,.lst ((W.map λw=>(w,w)).map EW)))) :
  bC Γ dA [.tup (book.map A')]=RY (.ok (.loc,.bl R4)):=by
 have hsz:(2000:Nat)<=R6:=by decide
 let i0:Option (Kd×U):=RY (.loc,.tup (book.map A'));let i1:Option (Kd×U):=RY (.own,.lst (W.map .str));have DS:TM.start [.tup (book.map A')] 2=[i0,R3]:=by simp[TM.start,D',ba,i0]
 let s:aj:=[i0,i1]
 have nb:a5 .ne (.tup (book.map A')) (.tup (book.map A'))=RY R5:=fM (by rw[Ek];exact pQ.FR book);have gt:Run (ev Γ (.tup [])) s (.loc,.tup []) s:=km ag trivial aN (SM _);have gl:Run (ev Γ (.lst [])) s (.own,.lst []) s:=bX ag trivial aN (SM _);have t:Run (DX Γ (.or [.cmp .ne (.call "laid" [.var 0,.var 0,.var 1]) (.var 0),.cmp .ne (.call "laid" [.var 0,.tup [],.lst []]) (.var 0),.cmp .ne (.call "laid" [.tup [],.var 0,.FD (.var 1) [] [.cst (.int 2)]]) (.var 0)])) s R5 s :=
  v9 (oX (bj (aM (ab (ae rfl) (ab (ae rfl) (ab (ak rfl) ag))) ⟨⟨.own,rfl,rfl⟩,trivial⟩ h1) (ae rfl) trivial nb)
   (oX (bj (aM (ab (ae rfl) (ab gt (ab gl ag))) trivial h2) (ae rfl) trivial nb)
    (oW (bj (aM (ab gt (ab (ae rfl) (ab (so (ak rfl) sj (sk ar) ⟨⟨.own,rfl,rfl⟩,trivial⟩ (nI rfl)) ag))) trivial h3) (ae rfl) trivial nb))))
 have gc:Run (ev Γ (.comp 1 R5 .seq [.var 1] [] (.tup [.var 0,.var 0]))) s (.own,.lst ((W.map λw=>(w,w)).map EW)) s:=by
  have hx:=eB (cond:=aQ Γ []) (elt:=ev Γ (.tup [.var 0,.var 0])) (src:=[(.bor 1,.lst (W.map .str))]) (st:=s) ⟨⟨.own,rfl,rfl⟩,trivial⟩ .loc (.inl rfl) U.str (λw=>EW (w,w)) .loc (λ_=>fq) W [] (by simp;omega)
   (λw _=>⟨km (ab (ae rfl) (ab (ae rfl) ag)) trivial (aK aP (aK aP aN)) (by show 2<=R6;omega),aP⟩)
  rw[Sz]at hx;rw[Sx];exact b8 (rs:=[(.bor 1,.lst (W.map .str))]) (ab (ak rfl) ag) ⟨⟨.own,rfl,rfl⟩,trivial⟩ (fP rfl) hx
 exact aD rfl (.inr rfl) DS (aq (aM (ab (ae rfl) ag) trivial IM) aS (bO t aF (bP (iP (aM (ab gt (ab (ae rfl) (ab gl ag))) trivial h4) gc trivial (uo (by rw[Ek];exact pN _ 48))) du)))
theorem zc{ns:List Int}(FU:kB Γ)(IQ:hJ Γ)(IS:sD Γ)(HP:wu Γ)
  (Kx:∀(one other:List Row) (same names:List Str),one.length+other.length<=60->names.length<=14->(∀r∈one,aW names r)->(∀r∈other,aW names r)->(∀x∈names,a9 x.cps.toList)->Γ "laid" [.tup (one.map A'),.tup (other.map A'),.lst (same.map .str)]=RY (.ok (.loc,.tup ((cz one other same).map A'))))
  (Lu:∀(one other:List Row) (same names:List Str),one.length+other.length<=60->names.length<=14->(∀r∈one,aW names r)->(∀r∈other,aW names r)->(∀x∈names,a9 x.cps.toList)->Γ "new_names" [.tup (one.map A'),.tup (other.map A'),.lst (same.map .str)]=RY (.ok (.own,.lst ((Ey one other same).map EW))))
  (Nk:∀(rows:List Row) (names K:List Str),(∀r∈rows,aW names r)->names.length<=60->rows.length<=100->Kn rows K->Γ "_law_learnt" [.tup (rows.map A')]=RY (.ok (.own,.lst ((ay K).map .str))))
  (JS:∀(rows:List Row) (names K:List Str),(∀r∈rows,aW names r)->names.length<=60->rows.length<=100->Kn rows K->Γ "learnt" [.tup (rows.map A')]=RY (.ok (.own,.lst ((ay K).map .str))))
  (Nl:∀(rows:List Row) (names:List Str),(∀r∈rows,aW names r)->names.length<=60->rows.length<=100->∃DO:List (Str×Nat),LI rows DO []/\DO.length<=60/\Γ "order" [.tup (rows.map A')]=RY (.ok (.own,.lst (DO.map stN))))
  (Ji:∀(rows:List Row) (DO:List (Str×Nat)),(∀r∈rows,r.2.length<=8)->LI rows DO []->DO.length<=60->Γ "is_order" [.tup (rows.map A'),.lst (DO.map stN)]=RY (.ok (.loc,.bl R4)))
  (IM:∀(rows:List Row) (names:List Str),(∀r∈rows,aW names r)->names.length<=14->rows.length<=100->Γ "_law_words" [.tup (rows.map A')]=RY (.ok (.own,.lst ((aw rows).map .str))))
  (Hh:∀(rows:List Row) (names:List Str),(∀r∈rows,aW names r)->names.length<=14->rows.length<=20->(∀x∈names,a9 x.cps.toList)->(rows.map keyOf).Nodup->Γ "_law_alone" [.tup (rows.map A')]=RY (.ok (.loc,.bl R4))) :
  bC Γ sH [.lst (ns.map .int)]=RY (.ok (.loc,.bl R4)):=by
 have hsz:(1000:Nat)<=R6:=by decide
 have DS:TM.start [.lst (ns.map .int)] 12=[RY (.any,.lst (ns.map .int)),R3,R3,R3,R3,R3,R3,R3,R3,R3,R3,R3]:=rfl;obtain⟨z,hz⟩:=FU ns 0 ⋯;obtain⟨ds,d1,d2,d3⟩:=IQ z 21 ⋯;have ix:∀i:Nat,i<21->D8 (ds.map U.int) (i:Int)=RY (.int (dd ds i)):=λi hi=>cj ⋯;have nn:=λi=>eQ d2 i;have n0:=nn 0;obtain⟨names,a1,a2,a3,a4⟩:=IS ns 1 (1+dd ds 0 % 14).toNat ⋯ ⋯;rw[Ub ⋯]at a4;have G7:names.length<=14:=by omega
 have OA:0<names.length:=by omega
 have hp:(0:Int)<((names.map U.str).length:Nat):=by simp;omega
 let a:=(dd ds 1 % ((names.map U.str).length:Nat)).toNat;let b:=(dd ds 2 % ((names.map U.str).length:Nat)).toNat;have ha:dd ds 1 % ((names.map U.str).length:Nat)=(a:Int):=(Ub (VA _ ⋯)).symm;have hb:dd ds 2 % ((names.map U.str).length:Nat)=(b:Int):=(Ub (VA _ ⋯)).symm;have RS:b<names.length:=by
  have:=VL (dd ds 2) hp;rw[hb,R9]at this;omega
 let mine:=names.take (1+a);let theirs:=names.drop b;have Rh:0<mine.length:=by show 0<(names.take (1+a)).length;rw[Tv];omega
 have Ri:0<theirs.length:=by show 0<(names.drop b).length;rw[VZ];omega
 have n3:=nn 3;have n4:=nn 4;obtain⟨one,p1,p2,p3,p4⟩:=HP ns mine 20 (dd ds 3 % 21).toNat Rh ⋯ ⋯;rw[Ub ⋯]at p4;obtain⟨other,q1,q2,q3,q4⟩:=HP ns theirs 40 (dd ds 4 % 21).toNat Ri ⋯ ⋯;rw[Ub ⋯]at q4;have Fz:∀r∈one,aW names r:=λr hr=>⟨We (p3 r hr).word,(p3 r hr).Fh,(p3 r hr).once,λx hx=>We ((p3 r hr).told x hx)⟩
 have Er:∀r∈other,aW names r:=λr hr=>⟨X9 (q3 r hr).word,(q3 r hr).Fh,(q3 r hr).once,λx hx=>X9 ((q3 r hr).told x hx)⟩
 have Gi:one.length<=20:=by omega
 have F7:other.length<=20:=by omega
 let i0:Option (Kd×U):=RY (.any,.lst (ns.map .int));let i1:Option (Kd×U):=RY (.own,.lst (ds.map .int));let i2:Option (Kd×U):=RY (.own,.lst (names.map .str));let i3:Option (Kd×U):=RY (.loc,.tup (one.map A'));let i4:Option (Kd×U):=RY (.loc,.tup (other.map A'));let T:=λ(o2 o3 o4:Option (Kd×U))=>([i0,i1,o2,o3,o4,R3,R3,R3,R3,R3,R3,R3]:aj)
 have g1:Run (ev Γ (.call "_law_drawn" [.call "_law_cell" [.var 0,.cst (.int 0)],.cst (.int 21)])) [i0,R3,R3,R3,R3,R3,R3,R3,R3,R3,R3,R3] (.own,.lst (ds.map .int)) [i0,R3,R3,R3,R3,R3,R3,R3,R3,R3,R3,R3]:=by repeat' (first|exact hz|exact d3|sizeOf_list_dec)
 have dx:∀{st:aj} (i:Nat),i<21->st[1]?=RY (RY (.own,.lst (ds.map .int)))->Run (ev Γ (.idx (.var 1) (.cst (.int (i:Int))))) st (.loc,.int (dd ds i)) st:=λi hi h=>bo (ak h) ar ⟨⟨.own,rfl,h⟩,trivial⟩ (aV (ix i hi));have ln:∀{st:aj},st[2]?=RY (RY (.own,.lst (names.map .str)))->Run (ev Γ (.bi .len [.var 2])) st (.loc,.int ((names.map U.str).length:Nat)) st:=λh=>eh (ab (ak h) ag) ⟨⟨.own,rfl,h⟩,trivial⟩ rfl;have g2:Run (ev Γ (.call "_law_names" [.var 0,.cst (.int 1),.bin .add (.cst (.int 1)) (.bin .mod (.idx (.var 1) (.cst (.int 0))) (.cst (.int 14)))])) (T R3 R3 R3) (.own,.lst (names.map .str)) (T R3 R3 R3) :=
  aM (ab (aZ rfl) (ab ar (ab (bA ar (bA (dx 0 ⋯ rfl) ar trivial (bw (by decide))) trivial dB) ag))) trivial a4
 have g3:Run (ev Γ (.FD (.var 2) [] [.bin .add (.cst (.int 1)) (.bin .mod (.idx (.var 1) (.cst (.int 1))) (.bi .len [.var 2]))])) (T i2 R3 R3) (.own,.lst (mine.map .str)) (T i2 R3 R3):=by
  have e:cut names R3 (RY (1+dd ds 1 % ((names.map U.str).length:Nat)))=mine:=by
   rw[ha,show(1+(a:Int))=((1+a:Nat):Int) by omega];exact Bw names (1+a)
  have s:=nI (k:=.bor 2) (ss:=names) (lo:=R3) (hi:=RY (1+dd ds 1 % ((names.map U.str).length:Nat))) rfl;rw[e]at s;exact so (ak rfl) sj (sk (bA ar (bA (dx 1 ⋯ rfl) (ln rfl) trivial (bw hp)) trivial dB)) ⟨⟨.own,rfl,rfl⟩,trivial⟩ s
 have g4:Run (ev Γ (.FD (.var 2) [.bin .mod (.idx (.var 1) (.cst (.int 2))) (.bi .len [.var 2])] [])) (T i2 i3 R3) (.own,.lst (theirs.map .str)) (T i2 i3 R3):=by
  have e:cut names (RY (dd ds 2 % ((names.map U.str).length:Nat))) R3=theirs:=by
   rw[hb];exact wL names b
  have s:=nI (k:=.bor 2) (ss:=names) (lo:=RY (dd ds 2 % ((names.map U.str).length:Nat))) (hi:=R3) rfl;rw[e]at s;exact so (ak rfl) (sk (bA (dx 2 ⋯ rfl) (ln rfl) trivial (bw hp))) sj ⟨⟨.own,rfl,rfl⟩,trivial⟩ s
 have g5:Run (ev Γ (.call "_law_book" [.var 0,.cst (.int 20),.FD (.var 2) [] [.bin .add (.cst (.int 1)) (.bin .mod (.idx (.var 1) (.cst (.int 1))) (.bi .len [.var 2]))],.bin .mod (.idx (.var 1) (.cst (.int 3))) (.cst (.int 21))])) (T i2 R3 R3) (.loc,.tup (one.map A')) (T i2 R3 R3) :=
  aM (ab (aZ rfl) (ab ar (ab g3 (ab (bA (dx 3 ⋯ rfl) ar trivial (bw (by decide))) ag)))) trivial p4
 have g6:Run (ev Γ (.call "_law_book" [.var 0,.cst (.int 40),.FD (.var 2) [.bin .mod (.idx (.var 1) (.cst (.int 2))) (.bi .len [.var 2])] [],.bin .mod (.idx (.var 1) (.cst (.int 4))) (.cst (.int 21))])) (T i2 i3 R3) (.loc,.tup (other.map A')) (T i2 i3 R3) :=
  aM (ab (aZ rfl) (ab ar (ab g4 (ab (bA (dx 4 ⋯ rfl) ar trivial (bw (by decide))) ag)))) trivial q4
 let S:=λ(sm:List Str) (o6 o7 o8 o9 Rj Rk:Option (Kd×U))=>([i0,i1,i2,i3,i4,RY (.own,.lst (sm.map .str)),o6,o7,o8,o9,Rj,Rk]:aj)
 let pk:Nat->Bool:=λi=>(dd ds (6+i) % 3==0)||(dd ds 5 % 4==1)
 let pw:Nat->Str:=λi=>(names[i]?).getD "";let same:List Str:=((Sl names.length).filter pk).map pw;have Ky:same.length<=14:=by
  have h2:=Ul pk (Sl names.length);show(((Sl names.length).filter pk).map pw).length<=14;rw[R9];simp at h2;omega
 have g7:Run (ev Γ (.comp 1 R5 .Eb [.bi .len [.var 2]] [.or [.cmp .eq (.bin .mod (.idx (.var 2) (.bin .add (.cst (.int 6)) (.var 0))) (.cst (.int 3))) (.cst (.int 0)),.cmp .eq (.bin .mod (.idx (.var 2) (.cst (.int 5))) (.cst (.int 4))) (.cst (.int 1))]] (.idx (.var 3) (.var 0)))) (T i2 i3 i4) (.own,.lst (same.map .str)) (T i2 i3 i4):=by
  have hx:=kG (cond:=aQ Γ [.or [.cmp .eq (.bin .mod (.idx (.var 2) (.bin .add (.cst (.int 6)) (.var 0))) (.cst (.int 3))) (.cst (.int 0)),.cmp .eq (.bin .mod (.idx (.var 2) (.cst (.int 5))) (.cst (.int 4))) (.cst (.int 1))]]) (elt:=ev Γ (.idx (.var 3) (.var 0))) (src:=[(.loc,.int ((names.map U.str).length:Nat))]) (st:=T i2 i3 i4) trivial .loc (.inl rfl) (λi:Nat=>U.int (0+(i:Int))) (λi=>.str (pw i)) pk .loc (Sl names.length) [] (by simp;omega)
   (λi hi=>by
    have FA:i<names.length:=TB.mp hi;have h6:D8 (ds.map U.int) (6+(0+(i:Int)))=RY (.int (dd ds (6+i))):=by
     rw[show 6+(0+(i:Int))=((6+i:Nat):Int) by omega];exact ix (6+i) ⋯
    have h5:D8 (ds.map U.int) 5=RY (.int (dd ds 5)):=ix 5 ⋯;have hn:D8 (names.map U.str) (0+(i:Int))=RY (.str (pw i)):=by
     rw[WY];exact cc (by simp[pw,FA])
    exact⟨cO (v9 (zx (bj (bA (bo (ak rfl) (bA ar (ae rfl) trivial dB) ⟨⟨.own,rfl,rfl⟩,trivial⟩ (aV h6)) ar trivial (bw (by decide))) ar trivial (eu rfl)) λ_=>oW (bj (bA (bo (ak rfl) ar ⟨⟨.own,rfl,rfl⟩,trivial⟩ (aV h5)) ar trivial (bw (by decide))) ar trivial (eu rfl)))),λ_=>⟨bo (ak rfl) (ae rfl) ⟨⟨.own,rfl,rfl⟩,trivial⟩ (aV hn),aP⟩⟩)
  rw[Sz]at hx;have e:Fu .Eb [(.loc,.int ((names.map U.str).length:Nat))]=RY ((Sl names.length).map λi:Nat=>(Kd.loc,U.int (0+(i:Int)))):=by rw[R9];exact ku ⋯
  have e0:same.map U.str=((Sl names.length).filter pk).map (λi=>U.str (pw i)):=by
   show(((Sl names.length).filter pk).map pw).map U.str=_;rw[Sx];rfl
  rw[e0];exact b8 (rs:=[(.loc,.int ((names.map U.str).length:Nat))]) (ab (ln rfl) ag) trivial e hx
 have IT:∃sm:List Str,sm.length<=14/\∀{rest:List TM.S} {f:Fl} {st':aj},Run (execs Γ rest) (S sm R3 R3 R3 R3 R3 R3) f st'->Run (execs Γ (.ite (.cmp .eq (.bin .mod (.idx (.var 1) (.cst (.int 5))) (.cst (.int 4))) (.cst (.int 2))) [.set 5 (.lst [])] []::rest)) (S same R3 R3 R3 R3 R3 R3) f st':=by
  have tc:Run (DX Γ (.cmp .eq (.bin .mod (.idx (.var 1) (.cst (.int 5))) (.cst (.int 4))) (.cst (.int 2)))) (S same R3 R3 R3 R3 R3 R3) (dd ds 5 % 4==2) (S same R3 R3 R3 R3 R3 R3) :=
   bj (bA (dx 5 ⋯ rfl) ar trivial (bw (by decide))) ar trivial (eu rfl)
  cases hb:(dd ds 5 % 4==2) with
  |false=>rw[hb]at tc;exact⟨same,Ky,λh=>bO tc aF h⟩
  |true=>rw[hb]at tc;exact⟨[],by simp,λh=>ei tc (aq (bX ag trivial aN (SM _)) aS aF) h⟩
 obtain⟨sm,RT,IT⟩:=IT;have w1:=cp Fz;have w2:=cp Er;obtain⟨ke,N⟩:=C6 (mine:=aw one) (theirs:=aw other) (same:=sm) (cU other) ⋯ ⋯;let B:=cz one other sm;let f:=cv (Ey one other sm);have RU:B.length<=60:=by
  have:=eI (other.map (dn (Ey one other sm))) one;rw[R9]at this;show(bf one (other.map (dn (Ey one other sm)))).length<=60;omega
 have hB:=za N Fz Er;have Nm:(names++(aw other).map (cv (Ey one other sm))).length<=60:=by rw[Sy,R9];omega
 obtain⟨s1,x1,_,_⟩:=Nl one names Fz ⋯ ⋯;obtain⟨s2,x2,_,_⟩:=Nl other names Er ⋯ ⋯;obtain⟨sb,xb,yb,zb⟩:=Nl B _ hB Nm ⋯;have k1:=Kn.of x1;have k2:=Kn.of x2;have kb:=Kn.of xb;let K1:=s1.map (·.1);let K2:=s2.map (·.1);let Kb:=sb.map (·.1);have l1:=Nk one names K1 Fz ⋯ ⋯ k1;have l2:=Nk other names K2 Er ⋯ ⋯ k2;have lb:=Nk B _ Kb hB Nm ⋯ kb;have RV:K1.length<=14:=by have:=iW k1.nd k1.words;show(s1.map (·.1)).length<=14;omega
 have RW:K2.length<=14:=by have:=iW k2.nd k2.words;show(s2.map (·.1)).length<=14;omega
 let acc:List Str:=ay K1++(ay K2).map f;let D:=ay (aL acc);have Rm:acc.length<=28:=by show(ay K1++(ay K2).map f).length<=28;rw[Sy,R9,br,br];omega
 have ON:∀x,x∈D↔x∈K1\/x∈K2.map f:=λx=>by
  show x∈ay (aL acc)↔_;rw[wA];show x∈ay K1++(ay K2).map f↔_;rw[SA,(aR K1).mem_iff,((aR K2).map f).mem_iff]
 have OO:∀x∈D,x∈ay Kb:=λx hx=>by
  rw[(aR Kb).mem_iff];rcases(ON x).mp hx with h|h
  ·exact xa k1 kb x h
  ·obtain⟨w,hw,rfl⟩:=So.mp h;exact rf k2 kb w hw
 let j6:Option (Kd×U):=RY (.loc,.tup (B.map A'));let j7:Option (Kd×U):=RY (.own,.lst ((ay Kb).map .str));let j8:Option (Kd×U):=RY (.own,.DJ ((Ey one other sm).map (·.1)) ((Ey one other sm).map λp=>.str p.2));let j9:Option (Kd×U):=RY (.own,.lst (D.map .str));have c6:=Kx one other sm names ⋯ G7 Fz Er a3;have c8:=Lu one other sm names ⋯ G7 Fz Er a3;have g8:Run (ev Γ (.bi .dict [.call "new_names" [.var 3,.var 4,.var 5]])) (S sm j6 j7 R3 R3 R3 R3) (.own,.DJ ((Ey one other sm).map (·.1)) ((Ey one other sm).map λp=>.str p.2)) (S sm j6 j7 R3 R3 R3 R3) :=
  eh (ab (aM (ab (ae rfl) (ab (ae rfl) (ab (ak rfl) ag))) ⟨⟨.own,rfl,rfl⟩,trivial⟩ c8) ag) trivial (sJ (by unfold Ey;rw[ke];exact cU other))
 have g9:Run (ev Γ (.GJ .sset [.bin .add (.call "_law_learnt" [.var 3]) (.comp 1 R5 .seq [.call "_law_learnt" [.var 4]] [] (.idx (.var 9) (.var 0)))])) (S sm j6 j7 j8 R3 R3 R3) (.own,.lst (D.map .str)) (S sm j6 j7 j8 R3 R3 R3):=by
  have hx:=eB (cond:=aQ Γ []) (elt:=ev Γ (.idx (.var 9) (.var 0))) (src:=[(.own,.lst ((ay K2).map .str))]) (st:=S sm j6 j7 j8 R3 R3 R3) trivial .loc (.inl rfl) U.str (λx=>.str (f x)) .loc (λ_=>fq) (ay K2) [] (by rw[br];simp;omega)
   (λx hx=>⟨bo (ak rfl) (ae rfl) ⟨⟨.own,rfl,rfl⟩,trivial⟩ (nR (by unfold Ey;rw[ke];exact k2.words x ((aR K2).mem_iff.mp hx))),aP⟩)
  rw[Sz,show((ay K2).map λx=>U.str (f x))=((ay K2).map f).map U.str by rw[Sx];rfl]at hx;have gc:=b8 (Γ:=Γ) (ik:=.seq) (rs:=[(.own,.lst ((ay K2).map .str))]) (src:=[.call "_law_learnt" [.var 4]]) (st:=S sm j6 j7 j8 R3 R3 R3) (cond:=[]) (e:=.idx (.var 9) (.var 0)) (ab (aM (ab (ae rfl) ag) trivial l2) ag) trivial (fP rfl) hx;refine v5 (ab (bA (aM (ab (ae rfl) ag) trivial l1) gc trivial (yQ ?_)) ag) trivial (kH (acc:=acc) ⋯ (by have:=gp acc;omega));rw[<-Sy];show acc.length<=1000;omega
 let s9:=S sm j6 j7 j8 j9 R3 R3;have Rn:Run (DX Γ (.or [.cmp .ne (.comp 1 R5 .seq [.var 9] [.cmp .DM (.var 0) (.var 8)] (.var 0)) (.lst []),.cmp .ne (.call "learnt" [.var 6]) (.var 7)])) s9 R5 s9:=by
  have RX:D.length<=28:=by show(ay (aL acc)).length<=28;rw[br];have:=gp acc;omega
  have hx:=kG (cond:=aQ Γ [.cmp .DM (.var 0) (.var 8)]) (elt:=ev Γ (.var 0)) (src:=[(.bor 9,.lst (D.map .str))]) (st:=s9) ⟨⟨.own,rfl,rfl⟩,trivial⟩ .loc (.inl rfl) U.str U.str (λx=>Sa (x∉ay Kb)) .loc D [] (by simp;omega)
   (λx _=>⟨cO (bj (ae rfl) (ak rfl) ⟨⟨.own,rfl,rfl⟩,trivial⟩ ft),λ_=>⟨ae rfl,aP⟩⟩)
  rw[Sz,V7.mpr (λx hx=>by simpa using OO x hx)]at hx;have gc:=b8 (Γ:=Γ) (ik:=.seq) (rs:=[(.bor 9,.lst (D.map .str))]) (src:=[.var 9]) (st:=s9) (cond:=[.cmp .DM (.var 0) (.var 8)]) (e:=.var 0) (ab (ak rfl) ag) ⟨⟨.own,rfl,rfl⟩,trivial⟩ (fP rfl) hx;exact v9 (oX (bj gc (bX ag trivial aN (SM _)) trivial (fM rfl)) (oW (bj (aM (ab (ae rfl) ag) trivial (JS B _ Kb hB Nm ⋯ kb)) (ak rfl) ⟨⟨.own,rfl,rfl⟩,trivial⟩ (fM (bT _ 49)))))
 let ps:Str->Bool:=λx=>Sa (x∈aw one)&&Sa (x∈aw other);let Sh:=sm.filter ps;let OP:Option (Kd×U):=RY (.own,.lst (Sh.map .str));have Ro:Run (ev Γ (.comp 1 R5 .seq [.var 5] [.and [.cmp .isin (.var 0) (.call "_law_words" [.var 4]),.cmp .isin (.var 0) (.call "_law_words" [.var 5])]] (.var 0))) s9 (.own,.lst (Sh.map .str)) s9:=by
  have hx:=kG (cond:=aQ Γ [.and [.cmp .isin (.var 0) (.call "_law_words" [.var 4]),.cmp .isin (.var 0) (.call "_law_words" [.var 5])]]) (elt:=ev Γ (.var 0)) (src:=[(.bor 5,.lst (sm.map .str))]) (st:=s9) ⟨⟨.own,rfl,rfl⟩,trivial⟩ .loc (.inl rfl) U.str U.str ps .loc sm [] (by simp;omega)
   (λx _=>⟨cO (iQ (kF (bj (ae rfl) (aM (ab (ae rfl) ag) trivial (IM one names Fz G7 ⋯)) trivial wG) λ_=>cO (bj (ae rfl) (aM (ab (ae rfl) ag) trivial (IM other names Er G7 ⋯)) trivial wG))),λ_=>⟨ae rfl,aP⟩⟩)
  rw[Sz]at hx;exact b8 (rs:=[(.bor 5,.lst (sm.map .str))]) (ab (ak rfl) ag) ⟨⟨.own,rfl,rfl⟩,trivial⟩ (fP rfl) hx
 let Ly:=S sm j6 j7 j8 j9 OP R3;have Rp:Run (DX Γ (.and [.cmp .eq (.var 10) (.lst []),.cmp .ne (.var 7) (.var 9)])) Ly R5 Ly:=by
  have h:=iQ (Γ:=Γ) (st:=Ly) (kF (e:=.cmp .eq (.var 10) (.lst [])) (e2:=.cmp .ne (.var 7) (.var 9)) (es:=[]) (p:=Sa (Sh=[])) (q:=!Sa (ay Kb=D))
   (bj (ak rfl) (bX ag trivial aN (SM _)) ⟨⟨.own,rfl,rfl⟩,trivial⟩ (by show a5 .eq (.lst (Sh.map U.str)) (.lst (([]:List Str).map U.str))=_;rw[pq])) λ_=>cO (bj (ak rfl) (ak rfl) ⟨⟨.own,rfl,rfl⟩,⟨.own,rfl,rfl⟩,trivial⟩ BC))
  have e:(Sa (Sh=[])&&!Sa (ay Kb=D))=R5:=by
   by_cases hS:Sh=[]
   ·have hn:∀w∈sm,w∈aw one->w∉aw other:=λw hw h1 h2=>by
     have:w∈Sh:=T'.mpr ⟨hw,by simp[ps,h1,h2]⟩;rw[hS]at this;cases this
    have:ay Kb=D:=pJ ((Xu kb.nd (pv acc)).mpr λx=>⟨λh=>(ON x).mpr (uh N hn k1 k2 kb x h),λh=>(aR Kb).mem_iff.mp (OO x h)⟩) (dP _);simp[this]
   ·simp[hS]
  rw[e]at h;exact h
 let Rq:Option (Kd×U):=RY (.own,.lst (sb.map stN));let Nn:=S sm j6 j7 j8 j9 OP Rq;have Rr:Run (DX Γ (.or [.cmp .ne (.bi .sorted [.comp 1 R5 .seq [.var 11] [] (.idx (.var 0) (.cst (.int 0)))]) (.var 7),.cmp .GH (.call "is_order" [.var 6,.var 11]) (.cst (.bl R4))])) Nn R5 Nn :=
  v9 (oX (bj (x:=(.own,.lst ((ay Kb).map .str))) (eh (ab (heads (·.1) stN (λ_=>rfl) rfl ⋯) ag) trivial (kQ (ss:=Kb) (by show(sb.map (·.1)).length<64;rw[R9];omega))) (ak rfl) ⟨⟨.own,rfl,rfl⟩,trivial⟩ (fM (bT _ 49)))
   (oW (bj (aM (ab (ae rfl) (ab (ak rfl) ag)) ⟨⟨.own,rfl,rfl⟩,trivial⟩ (Ji B sb (λr h=>(hB r h).Fh) xb yb)) ar trivial rfl)))
 have Np:=bP (Γ:=Γ) (ss:=[]) (st:=Nn) (r:=(.loc,.bl R4)) (zt (qU (k:=.loc) (p:=R4) (q:=R4) (aM (f:="_law_alone") (es:=[.var 3]) (ab (ae rfl) ag) trivial (Hh one names Fz G7 Gi a3 p2)) λ_=>v8 (aM (f:="_law_alone") (es:=[.var 4]) (ab (ae rfl) ag) trivial (Hh other names Er G7 F7 a3 q2)))) du;have Rt:Run (execs Γ _) Ly _ _:=aq (i:=11) (e:=.call "order" [.var 6]) (aM (ab (ae rfl) ag) trivial zb) aS (bO (a:=[.ret (.cst (.bl R5))]) (b:=[]) Rr aF Np);have Ru:Run (execs Γ _) s9 _ _:=aq (i:=10) Ro aS (bO (a:=[.ret (.cst (.bl R5))]) (b:=[]) Rp aF Rt);have h9:Run (execs Γ _) (S sm j6 j7 j8 R3 R3 R3) _ _:=aq (i:=9) g9 aS (bO (a:=[.ret (.cst (.bl R5))]) (b:=[]) Rn aF Ru);have h6:Run (execs Γ _) (S sm R3 R3 R3 R3 R3 R3) _ _:=aq (i:=6) (e:=.call "laid" [.var 3,.var 4,.var 5]) (aM (ab (ae rfl) (ab (ae rfl) (ab (ak rfl) ag))) ⟨⟨.own,rfl,rfl⟩,trivial⟩ c6) aE (aq (i:=7) (e:=.call "_law_learnt" [.var 6]) (aM (ab (ae rfl) ag) trivial lb) aS (aq (i:=8) g8 aS h9));have h5:=IT h6;exact aD rfl (.inr rfl) DS (aq g1 aS (aq g2 aS (aq g5 aE (aq g6 aE (aq g7 aS h5)))))
end
theorem pure(ns:List Int)(E3:ns.length<=63):Ec prog 7 "law" [vW ns]=RY (.ok (.loc,.bl R4)):=by
 have IM:∀(n:Nat) (rows:List Row) (names:List Str),(∀r∈rows,aW names r)->names.length<=14->rows.length<=100->Ec prog (n+1) "_law_words" [.tup (rows.map A')]=RY (.ok (.own,.lst ((aw rows).map .str))):=λn rows names h1 h2 h3=>(aB (show Em prog "_law_words" dz from rfl) _).trans (lp h3 h1 ⋯);have Iz:∀(one other:List Row) (same names:List Str),one.length+other.length<=60->names.length<=14->(∀r∈one,aW names r)->(∀r∈other,aW names r)->(∀x∈names,a9 x.cps.toList)->Ec prog 5 "laid" [.tup (one.map A'),.tup (other.map A'),.lst (same.map .str)]=RY (.ok (.loc,.tup ((cz one other same).map A'))):=λone other same names a b c d e=>pZ 2 a b c d e;have Lu:∀(one other:List Row) (same names:List Str),one.length+other.length<=60->names.length<=14->(∀r∈one,aW names r)->(∀r∈other,aW names r)->(∀x∈names,a9 x.cps.toList)->Ec prog 5 "new_names" [.tup (one.map A'),.tup (other.map A'),.lst (same.map .str)]=RY (.ok (.own,.lst ((Ey one other same).map EW))):=λone other same names a b c d e=>rb 3 ⋯ ⋯ b c d e;have Nq:∀(one other:List Row) (same names:List Str),one.length+other.length<=60->names.length<=14->(∀r∈one,aW names r)->(∀r∈other,aW names r)->(∀x∈names,a9 x.cps.toList)->Ec prog 6 "laid" [.tup (one.map A'),.tup (other.map A'),.lst (same.map .str)]=RY (.ok (.loc,.tup ((cz one other same).map A'))):=λone other same names a b c d e=>pZ 3 a b c d e;have Nr:∀(one other:List Row) (same names:List Str),one.length+other.length<=60->names.length<=14->(∀r∈one,aW names r)->(∀r∈other,aW names r)->(∀x∈names,a9 x.cps.toList)->Ec prog 6 "new_names" [.tup (one.map A'),.tup (other.map A'),.lst (same.map .str)]=RY (.ok (.own,.lst ((Ey one other same).map EW))):=λone other same names a b c d e=>rb 4 ⋯ ⋯ b c d e;have Ji:∀(rows:List Row) (DO:List (Str×Nat)),(∀r∈rows,r.2.length<=8)->LI rows DO []->DO.length<=60->Ec prog 6 "is_order" [.tup (rows.map A'),.lst (DO.map stN)]=RY (.ok (.loc,.bl R4)):=λrows DO h8 x hl=>by
  have hS:ra (Ec prog 5) rows:=λs known vs=>(aB (show Em prog "is_step" cZ from rfl) _).trans (pT h8);have h:=(aB (d:=5) (show Em prog "is_order" eE from rfl) _).trans (nV hS (steps:=DO.map λs=>(s.1,(s.2:Int))) (by rw[R9];omega));rw[pY x.ok,Sx]at h;exact h
 have Hh:∀(rows:List Row) (names:List Str),(∀r∈rows,aW names r)->names.length<=14->rows.length<=20->(∀x∈names,a9 x.cps.toList)->(rows.map keyOf).Nodup->Ec prog 6 "_law_alone" [.tup (rows.map A')]=RY (.ok (.loc,.bl R4)):=λrows names h1 h2 h3 h4 h5=>by
  have a1:=Iz rows rows (aw rows) names ⋯ h2 h1 h1 h4;have a2:=Iz rows [] [] names (by simp;omega) h2 h1 (by simp) h4;have a3:=Iz [] rows (cut (aw rows) R3 (RY 2)) names (by simp;omega) h2 (by simp) h1 h4;have a4:=Lu [] rows [] names (by simp;omega) h2 (by simp) h1 h4;rw[ui λx hx=>hx]at a1;rw[uj]at a2;rw[um h5]at a3;rw[sR]at a4;have I0:=cp h1;exact(aB (show Em prog "_law_alone" dA from rfl) _).trans (uq ⋯ (IM 4 rows names h1 h2 ⋯) a1 a2 a3 a4)
 exact(aB (show Em prog "law" sH from rfl) _).trans (zc makers.kD makers.drawnOk (cF.wx yY makers) makers.Bo Nq Nr (λrows names K a b c d=>BB 5 a b c d) (λrows names K a b c d=>y9 1 a b c d) (λrows names a b c=>sQ 2 a b c) Ji (IM 5) Hh)
end K
namespace K
open PySem L2 TM PySem.W PyProof.Rows
def m0:Sb:=.str "primer.words" 223
def m1:Sb:=.str "primer.books" 236
def m2:Sb:=.str "primer.laying" 274
def m3:Sb:=.str "primer.learning" 313
def m4:Sb:=.str "law_primer_k63_whole_taught_still" 370
def ml:Me:=⟨sH,37,["_law_script","_law_drawn_here","_law_names_here","_law_one","_law_other","_law_same","_law_both","_law_known","_law_given","_law_due","_law_shared","_law_steps"],208,207,m4,co "law" 468 193 1 204 205 .none .none (.ref 206) 471 472 181⟩
def ms:List Me:=[⟨fN,6,["word"],46,45,m0,co "stem_of" 229 9 1 40 41 (.ref 42) (.ref 43) (.ref 44) 233 234 181⟩,
 ⟨bU,9,["row"],53,52,m1,co "in_one_order" 240 13 1 47 48 (.ref 49) (.ref 50) (.ref 51) 244 245 181⟩,
 ⟨ia,10,["row","other"],60,59,m1,co "alike" 247 15 2 54 55 (.ref 56) (.ref 57) (.ref 58) 252 253 181⟩,
 ⟨kK,11,["book","words","row"],67,66,m1,co "words_of" 255 17 1 61 62 (.ref 63) (.ref 64) (.ref 65) 261 262 181⟩,
 ⟨eD,12,["pairs","found","key","value"],74,73,m1,co "gathered" 264 23 1 68 69 (.ref 70) (.ref 71) (.ref 72) 271 272 181⟩,
 ⟨dv,14,["stem","taken","number","name"],81,80,m2,co "free_name" 276 31 2 75 76 (.ref 77) (.ref 78) (.ref 79) 283 284 181⟩,
 ⟨dw,15,["one","other","same","of_one","of_other","taken","word","names","name"],88,87,m2,co "new_names" 286 37 3 82 83 (.ref 84) (.ref 85) (.ref 86) 298 299 181⟩,
 ⟨fO,16,["row","names"],93,92,m2,co "renamed" 301 51 2 89 90 .none .none (.ref 91) 304 305 181⟩,
 ⟨nQ,17,["one","other","same","names","rows","row","new_row"],98,97,m2,co "laid" 307 53 3 94 95 .none .none (.ref 96) 310 311 181⟩,
 ⟨bJ,19,["book","pairs","place","row"],103,102,m3,co "places_that_tell" 315 64 1 99 100 .none .none (.ref 101) 318 319 181⟩,
 ⟨dy,20,["book","places","known","steps","place","word"],110,109,m3,co "new_steps" 321 69 3 104 105 (.ref 106) (.ref 107) (.ref 108) 330 331 181⟩,
 ⟨bQ,21,["book","tellers","missing","known","found","ready","steps","word","place","teller"],115,114,m3,co "steps_in_rounds" 333 76 1 111 112 .none .none (.ref 113) 336 337 181⟩,
 ⟨ib,22,["book","found","steps"],122,121,m3,co "order" 339 94 1 116 117 (.ref 118) (.ref 119) (.ref 120) 345 346 181⟩,
 ⟨ic,23,["book"],127,126,m3,co "learnt" 348 99 1 123 124 .none .none (.ref 125) 351 352 181⟩,
 ⟨cZ,24,["book","step","known","word","place","row"],132,131,m3,co "is_step" 354 101 3 128 129 .none .none (.ref 130) 357 358 181⟩,
 ⟨eE,25,["book","steps","known","step"],139,138,m3,co "is_order" 360 108 2 133 134 (.ref 135) (.ref 136) (.ref 137) 367 368 181⟩,
 ⟨mq,27,["_law_cell_here","_law_k","_law_by"],146,145,m4,co "_law_mix" 372 116 2 140 141 (.ref 142) (.ref 143) (.ref 144) 378 379 181⟩,
 ⟨kL,28,["_law_script","_law_k","_law_seed"],153,152,m4,co "_law_cell" 381 119 2 147 148 (.ref 149) (.ref 150) (.ref 151) 387 388 181⟩,
 ⟨iX,29,["_law_cell_here","_law_many","_law_found","_law_left","_law_k"],160,159,m4,co "_law_drawn" 390 126 2 154 155 (.ref 156) (.ref 157) (.ref 158) 398 399 181⟩,
 ⟨kM,30,["_law_drawn_here","_law_names_here","_law_letters","_law_name_here","_law_stem","_law_spare"],165,164,m4,co "_law_name" 401 136 2 161 162 .none .none (.ref 163) 404 405 181⟩,
 ⟨iY,31,["_law_script","_law_base","_law_many","_law_names_here","_law_k"],172,171,m4,co "_law_names" 407 147 3 166 167 (.ref 168) (.ref 169) (.ref 170) 415 416 181⟩,
 ⟨kN,32,["_law_drawn_here","_law_names_here","_law_top","_law_told_here","_law_k","_law_one"],179,178,m4,co "_law_told" 418 152 2 173 174 (.ref 175) (.ref 176) (.ref 177) 427 428 181⟩,
 ⟨kO,33,["_law_script","_law_base","_law_names_here","_law_many","_law_rows","_law_met","_law_k","_law_drawn_here","_law_row","_law_key"],186,185,m4,co "_law_book" 430 162 4 180 181 (.ref 182) (.ref 183) (.ref 184) 443 444 181⟩,
 ⟨cV,34,["_law_rows","_law_known","_law_grown","_law_word","_law_told_here"],191,190,m4,co "_law_learnt" 446 173 1 187 188 .none .none (.ref 189) 449 450 181⟩,
 ⟨dz,35,["_law_book_here","_law_found","_law_word","_law_told_here"],198,197,m4,co "_law_words" 452 183 1 192 193 (.ref 194) (.ref 195) (.ref 196) 459 460 181⟩,
 ⟨dA,36,["_law_book_here","_law_words_here"],203,202,m4,co "_law_alone" 462 188 1 199 200 .none .none (.ref 201) 465 466 181⟩,
 ml]
def gg(P:YB):Obj:=⟨.type "dict",R3,.dict #[ge P "__name__" 165 (.str "law_primer_k63_whole_taught_still" 370),ge P "__doc__" 166 .none,ge P "__package__" 167 .none,ge P "__loader__" 168 (.builtin "__main__.__loader__#opaque"),ge P "__spec__" 169 .none,ge P "__annotations__" 170 (.ref 6),ge P "__builtins__" 171 (.ref 4),ge P "__file__" 173 (.str "/claim/cut.py" 172),ge P "__cached__" 174 .none,ge P "PrimerError" 206 (.ref 24),ge P "TooMany" 222 (.ref 37),ge P "FIRST_SENSE" 226 (.int 1 225),ge P "LAST_SENSE" 228 (.int 99 227),ge P "stem_of" 235 (.ref 46),ge P "MOST_ROWS" 239 (.int 60 238),ge P "in_one_order" 246 (.ref 53),ge P "alike" 254 (.ref 60),ge P "words_of" 263 (.ref 67),ge P "gathered" 273 (.ref 74),ge P "free_name" 285 (.ref 81),ge P "new_names" 300 (.ref 88),ge P "renamed" 306 (.ref 93),ge P "laid" 312 (.ref 98),ge P "places_that_tell" 320 (.ref 103),ge P "new_steps" 332 (.ref 110),ge P "steps_in_rounds" 338 (.ref 115),ge P "order" 347 (.ref 122),ge P "learnt" 353 (.ref 127),ge P "is_step" 359 (.ref 132),ge P "is_order" 369 (.ref 139),ge P "_law_mix" 380 (.ref 146),ge P "_law_cell" 389 (.ref 153),ge P "_law_drawn" 400 (.ref 160),ge P "_law_name" 406 (.ref 165),ge P "_law_names" 417 (.ref 172),ge P "_law_told" 429 (.ref 179),ge P "_law_book" 445 (.ref 186),ge P "_law_learnt" 451 (.ref 191),ge P "_law_words" 461 (.ref 198),ge P "_law_alone" 467 (.ref 203),ge P "law" 473 (.ref 208)] 41,#[]⟩
def vw:Tu:=view PySem.Challenge.pw_primer_k63_whole_taught_still [6,9,10,11,12,14,15,16,17,19,20,21,22,23,24,25,27,28,29,30,31,32,33,34,35,36,37]
def hk:Hook:=kHook (λP=>FQ top (gg P) ms) (adr ms) λP=>si top (gg P) ms
theorem hl:LeftO PySem.Challenge.rw_primer_k63_whole_taught_still.row.prog vw ["PrimerError","TooMany","FIRST_SENSE","LAST_SENSE","MOST_ROWS"] (λs=>xlAt vw [] s&&recOk (RowW.records PySem.Challenge.rw_primer_k63_whole_taught_still.row.toRowW) s) hk.obs hk.val 4000:=λw=>by kernel_rfl
theorem hs:PySem.Challenge.rw_primer_k63_whole_taught_still.wellSaid=R4:=by kernel_rfl
theorem ho(P:YB):HM ck top (FQ top (gg P) ms) ms=R4:=by kernel_rfl
end K
open PySem PySem.W PyProof.Rows K
theorem PySem.Challenge.cw_primer_k63_whole_taught_still_holds : PySem.Challenge.rw_primer_k63_whole_taught_still.Holds := by
 w_on
 refine holds_law hs λz => ?_;refine holds_open hl hk.of hk.keeps (λs e => xl_of s (Uq.mp e).1) XL.keeps rfl rfl rfl (λs e => recFacts_of (Uq.mp e).2) rfl z (by kernel_rfl) ⟨rfl, rfl, rfl, rfl, rfl, by decide +kernel⟩ ?hw ?hc
 (case hw => w_witness2)
 exact TM.walk2 (l := PySem.Challenge.rw_primer_k63_whole_taught_still) (Pg := prog) (ck := ck) (dp := 6) (x := "_law_script") (m := ml) rfl rfl ⟨rfl, by decide, by decide, rfl⟩ rfl (by decide +kernel) rfl (by simp [ms]) rfl rfl ho K.pure
