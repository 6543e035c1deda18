import PyProof.Rows.All
import Wide.All
import OpenK.AllK
import Wide.FinOn
import Lean
import PyProof.EqAt
import PyProof.EqKinds
import PyProof.TupleCall
import PyProof.StrLawsChain
import PyProof.StrLawsFirst
import PyProof.Rows.StrNews2
import OpenK.AllK
import PySem.SetOps
import OpenK.AllK
import PyProof.DictItems
import OpenK.AllK
import PyProof.DictValues
import PyProof.ZipIter
import OpenK.AllK
import PyProof.ReprBulk
import PySem.Challenge.RW_primer_k14_the_knot
set_option Elab.async false
set_option linter.all false
set_option maxRecDepth 100000
set_option maxHeartbeats 4000000
set_option genInjectivity false
set_option genSizeOf false
set_option autoImplicit true
set_option relaxedAutoImplicit true
namespace L2
open PySem PySem.Spec PyProof.Rows
abbrev Key:=Sum Int Str
noncomputable def jj:Key->Value->Bool
 |.inl k,v=>Value.isInt k v
 |.inr x,v=>Value.isStrOf x v
noncomputable def CQ(w:World):Key->Int
 |.inl k=>hashInt k
 |.inr x=>hashStr w x
theorem bh:∀{k:Key}{v:Value},jj k v=true->(∃i t,k=Sum.inl i/\v=Value.int i t)\/(∃x t,k=Sum.inr x/\v=Value.str x t)
 |.inl i,v,h=>by
  obtain⟨t,e⟩:=Value.isInt_shape (k:=i) (v:=v) h;exact .inl ⟨i,t,rfl,e⟩
 |.inr x,v,h=>by
  obtain⟨t,e⟩:=Value.isStrOf_shape (x:=x) (v:=v) h;exact .inr ⟨x,t,rfl,e⟩
theorem so(i:Int)(t:Tok):jj (.inl i) (.int i t)=true:=by simp[jj,Value.isInt]
theorem sr(x:Str)(t:Tok):jj (.inr x) (.str x t)=true:=by simp[jj,Value.isStrOf]
theorem zo(a b:Int):decide ((Sum.inl a:Key)=Sum.inl b)=(a==b):=by
 by_cases e:a=b
 ·subst e;simp
 ·have h:¬(Sum.inl a:Key)=Sum.inl b:=λq=>e (Sum.inl.inj q);rw[decide_eq_false h];exact(beq_eq_false_iff_ne.mpr e).symm
theorem zp(a b:Str):decide ((Sum.inr a:Key)=Sum.inr b)=decide (a=b):=by
 by_cases e:a=b
 ·subst e;simp
 ·have h:¬(Sum.inr a:Key)=Sum.inr b:=λq=>e (Sum.inr.inj q);rw[decide_eq_false h,decide_eq_false e]
theorem zq(a:Int)(b:Str):decide ((Sum.inl a:Key)=Sum.inr b)=false:=decide_eq_false (λq=>nomatch q)
theorem zr(a:Str)(b:Int):decide ((Sum.inr a:Key)=Sum.inl b)=false:=decide_eq_false (λq=>nomatch q)
noncomputable def aM(prog:Program)(w:World):PySem.KeyKind prog w Key where
 is:=jj
 hash:=CQ w
 inj:=λv a b ha hb=>by
  rcases bh ha with⟨i,t,rfl,rfl⟩|⟨x,t,rfl,rfl⟩
  ·rcases bh hb with⟨j,u,rfl,e⟩|⟨y,u,rfl,e⟩
   ·injection e with e1 _;rw[e1]
   ·exact nomatch e
  ·rcases bh hb with⟨j,u,rfl,e⟩|⟨y,u,rfl,e⟩
   ·exact nomatch e
   ·injection e with e1 _;rw[e1]
 byValue:=λk v h=>by
  rcases bh h with⟨i,t,rfl,rfl⟩|⟨x,t,rfl,rfl⟩<;>rfl
 pyHash:=λhv h=>by
  rcases bh hv with⟨i,t,rfl,rfl⟩|⟨x,t,rfl,rfl⟩
  ·exact wpAny_pyHash_int h
  ·exact wpAny_pyHash_str h
 eqBool:=λhu hv h=>by
  rcases bh hu with⟨i,t,rfl,rfl⟩|⟨x,t,rfl,rfl⟩
  ·rcases bh hv with⟨j,u,rfl,rfl⟩|⟨y,u,rfl,rfl⟩
   ·rw[zo]at h;exact wpAny_eqBool_int h
   ·rw[zq]at h;exact SeqAt.EqAt.int_str i t y u _ _ _ _ h
  ·rcases bh hv with⟨j,u,rfl,rfl⟩|⟨y,u,rfl,rfl⟩
   ·rw[zr]at h;exact SeqAt.EqAt.str_int x t j u _ _ _ _ h
   ·rw[zp]at h;exact wpAny_eqBool_str h
 «strs»:=λk x t v h=>by
  rcases bh h with⟨i,u,rfl,e⟩|⟨y,u,rfl,e⟩
  ·exact nomatch e
  ·injection e with e1 _
   subst e1;cases v<;>rfl
theorem nN(prog:Program)(w:World)(i:Int)(t:Tok):(aM prog w).is (.inl i) (.int i t)=true:=so i t
theorem nO(prog:Program)(w:World)(x:Str)(t:Tok):(aM prog w).is (.inr x) (.str x t)=true:=sr x t
inductive V where
 |DF|bl (b:Bool)|int (i:Int)|str (x:Str)|JG (b:Array UInt8)|JH (b:UInt64)|ref (a:Addr)|ty (n:String)
 deriving DecidableEq
def RelV:V->Value->Prop
 |.DF,u=>u=Value.none
 |.bl b,u=>u=Value.bool b
 |.int i,u=>∃t,u=Value.int i t
 |.str x,u=>∃t,u=Value.str x t
 |.JG b,u=>∃t,u=Value.bytes b t
 |.JH b,u=>∃t,u=Value.float b t
 |.ref a,u=>u=Value.ref a
 |.ty n,u=>u=Value.type n
abbrev Vals:List V->List Value->Prop:=Paired RelV
theorem Vals.length(r:Vals xs us):xs.length=us.length:=Paired.length r
theorem Vals.get:∀{xs:List V}{us:List Value}{i:Nat}{x:V},Vals xs us->xs[i]?=some x->∃u,us[i]?=some u/\RelV x u
 |_,_,_,_,.nil,e=>by simp at e
 |_,_,0,_,.cons r _,e=>by simp at e;subst e;exact⟨_,rfl,r⟩
 |_,_,i+1,x,.cons _ t,e=>by
  obtain⟨u,h1,h2⟩:=Vals.get (i:=i) (x:=x) t (by simpa using e);exact⟨u,by simpa using h1,h2⟩
theorem Vals.set(r:RelV x u):∀{xs:List V}{us:List Value} (i:Nat),Vals xs us->Vals (xs.set i x) (us.set i u)
 |_,_,_,.nil=>.nil
 |_,_,0,.cons _ t=>.cons r t
 |_,_,i+1,.cons q t=>.cons q (Vals.set r i t)
theorem Vals.append:∀{xs ys:List V}{us ws:List Value},Vals xs us->Vals ys ws->Vals (xs++ys) (us++ws)
 |_,_,_,_,.nil,s=>s
 |_,_,_,_,.cons r t,s=>.cons r (Vals.append t s)
def iR:Option V->Option Value->Prop
 |some v,some u=>RelV v u
 |none,none=>True
 |_,_=>False
def KV{κ:Type}:List (κ×V)->List (κ×Value)->Prop:=Paired λ(p:κ×V) (q:κ×Value)=>p.1=q.1/\RelV p.2 q.2
noncomputable def kV:Key->V
 |.inl i=>.int i
 |.inr x=>.str x
inductive HO where
 |lst (xs:List V)
 |tup (xs:List V)
 |dK (kvs:List (Key×V))|dT (kvs:List (List Key×V))
 |set (S:Int->Bool) (n:Nat)
 |ins (C dx:Addr) (fs:List (Str×V))
 |own (x:Addr)
 |xd (fs:List (Str×V))
 |met (f x:Addr)
 |LY (lo hi:Int)
 |EJ (o:Obj) (u:HO)
 |H_ (ps:Array Value)
 |ext (φ:Heap->Prop)
abbrev Hp:=Addr->Option HO
noncomputable def upd(H:Hp)(a:Addr)(o:HO):Hp:=λb=>if b=a then some o else H b
theorem aq:upd H a o a=some o:=by unfold upd;rw[if_pos rfl]
theorem aj(h:b≠a):upd H a o b=H b:=by unfold upd;rw[if_neg h]
theorem t6{H:Hp}(h:H a=some o)(h':H b=some u)(d:o≠u):a≠b:=by
 intro e;subst e;rw[h]at h';exact d (Option.some.inj h')
theorem bu{H:Hp}(h:H a=some o)(h':H b=none):a≠b:=by
 intro e;subst e;rw[h]at h';cases h'
section
variable(P:Program)(w:World)
def bp(H:Hp)(h:Heap)(a:Addr):HO->Prop
 |.lst xs=>xs.length<=sizeLine/\∃(A':List Value) (n:Nat),Vals xs A'/\h.get? a=some {cls:=.type "list",data:=.seq A'.toArray n}
 |.tup xs=>xs.length<=sizeLine/\∃A':List Value,Vals xs A'/\IsTup h a A'.toArray
 |.dK kvs=>kvs.length<=sizeLine/\(a==sysModules)=false/\∃vs,KV kvs vs/\h.DictOf (aM P w) a vs
 |.dT kvs=>kvs.length<=sizeLine/\(a==sysModules)=false/\∃xs:List (List Key×Addr×Value),
   Paired (λ(p:List Key×V) (q:List Key×Addr×Value)=>p.1=q.1/\H q.2.1=some (.tup (p.1.map kV))/\RelV p.2 q.2.2) kvs xs /\
   ∃o es ep,h.get? a=some o/\o.ExactDict/\o.data=.dict es ep/\es.toList=xs.map (entryOfKey (tupleKind (aM P w)))/\(xs.map (·.1)).Nodup
 |.set S n=>h.SetOf (intKind P w) a S n
 |.ins C dx fs=>H dx=some (.own a)/\fs.length<=1000/\dx≠a/\h.get? a=some (PySem.W.instObj C dx) /\
   ∃mA,h.Ns1 dx mA/\(∀f,iR (fs.lookup f) (mA f))/\PySem.Within mA (fs.map (·.1))
 |.own _=>∃o,h.get? a=some o
 |.xd fs=>∃mA,h.Ns1 a mA/\∀f,iR (fs.lookup f) (mA f)
 |.LY lo hi=>∃t u v,h.get? a=some {cls:=.type "range",data:=.fields #[.int lo t,.int hi u,.int 1 v]}
 |.EJ o u=>h.get? a=some o/\bp H h a u
 |.H_ ps=>h.get? a=some {cls:=.none,data:=.fields ps}
 |.met f x=>h.get? a=some (PySem.W.methodObj (.ref f) (.ref x))
 |.ext φ=>φ h/\(∃o,h.get? a=some o)/\∀h1 h2:Heap,φ h1->(∀o,h1.get? a=some o->h2.get? a=some o)->φ h2
def Ew(H:Hp)(h:Heap):Prop:=∀a o,H a=some o->bp P w H h a o
end
section
theorem bp.lt(x:bp P w H h a o):a<h.objs.size:=by
 cases o with
 |lst xs=>obtain⟨_,_,_,_,e⟩:=x;exact Heap.lt_size e
 |tup xs=>obtain⟨_,_,_,p⟩:=x;exact p.lt
 |dK kvs=>obtain⟨_,_,_,_,o,_,_,e,_⟩:=x;exact Heap.lt_size e
 |dT kvs=>obtain⟨_,_,_,_,o,_,_,e,_⟩:=x;exact Heap.lt_size e
 |set S n=>obtain⟨o,_,_,_,e,_⟩:=x;exact Heap.lt_size e
 |ins C dx fs=>obtain⟨_,_,_,e,_⟩:=x;exact Heap.lt_size e
 |own y=>obtain⟨_,e⟩:=x;exact Heap.lt_size e
 |xd fs=>obtain⟨_,⟨_,_,_,e,_⟩,_⟩:=x;exact Heap.lt_size e
 |LY lo hi=>obtain⟨_,_,_,e⟩:=x;exact Heap.lt_size e
 |EJ ob u=>obtain⟨e,_⟩:=x;exact Heap.lt_size e
 |H_ ps=>exact Heap.lt_size (show h.get? a=some _ from x)
 |met f y=>exact Heap.lt_size (show h.get? a=some _ from x)
 |ext φ=>obtain⟨_,⟨_,e⟩,_⟩:=x;exact Heap.lt_size e
theorem Paired.zt:∀{l₁:List α}{l₂:List β},Paired F l₁ l₂->(∀a b,F a b->G a b)->Paired G l₁ l₂
 |_,_,.nil,_=>.nil
 |_,_,.cons r t,f=>.cons (f _ _ r) (Paired.zt t f)
theorem bp.fL(x:bp P w H h a o)(k:∀b u,(b=a\/H b=some (.own a))->h.get? b=some u->h'.get? b=some u)
  (ho:∀b,H b=some (.own a)->H' b=some (.own a)) (ht:∀b xs,H b=some (.tup xs)->H' b=some (.tup xs)):bp P w H' h' a o:=by
 induction o with
 |lst xs=>obtain⟨z,A',n,r,e⟩:=x;exact⟨z,A',n,r,k _ _ (.inl rfl) e⟩
 |tup xs=>obtain⟨z,A',r,ob,e,c⟩:=x;exact⟨z,A',r,ob,k _ _ (.inl rfl) e,c⟩
 |dK kvs=>obtain⟨z,y,vs,r,ob,es,ep,e,c⟩:=x;exact⟨z,y,vs,r,ob,es,ep,k _ _ (.inl rfl) e,c⟩
 |dT kvs =>
  obtain⟨z,y,xs,r,ob,es,ep,e,c⟩:=x;exact⟨z,y,xs,Paired.zt r λp q z=>⟨z.1,ht _ _ z.2.1,z.2.2⟩,ob,es,ep,k _ _ (.inl rfl) e,c⟩
 |set S n=>obtain⟨ob,es,ep,t,e,c⟩:=x;exact⟨ob,es,ep,t,k _ _ (.inl rfl) e,c⟩
 |ins C dx fs =>
  obtain⟨d,z,ne,e,mA,⟨od,es,ep,e2,c⟩,r⟩:=x;exact⟨ho _ d,z,ne,k _ _ (.inl rfl) e,mA,⟨od,es,ep,k _ _ (.inr d) e2,c⟩,r⟩
 |own y=>obtain⟨ob,e⟩:=x;exact⟨ob,k _ _ (.inl rfl) e⟩
 |xd fs=>obtain⟨mA,⟨od,es,ep,e,c⟩,r⟩:=x;exact⟨mA,⟨od,es,ep,k _ _ (.inl rfl) e,c⟩,r⟩
 |LY lo hi=>obtain⟨t,u,v,e⟩:=x;exact⟨t,u,v,k _ _ (.inl rfl) e⟩
 |EJ ob u ih=>obtain⟨e,q⟩:=x;exact⟨k _ _ (.inl rfl) e,ih q⟩
 |H_ ps =>
  have e:h.get? a=some {cls:=.none,data:=.fields ps}:=x;show h'.get? a=some {cls:=.none,data:=.fields ps};exact k a _ (.inl rfl) e
 |met f y =>
  have e:h.get? a=some (PySem.W.methodObj (.ref f) (.ref y)):=x;show h'.get? a=some (PySem.W.methodObj (.ref f) (.ref y));exact k a _ (.inl rfl) e
 |ext φ=>obtain⟨p,⟨o,e⟩,st⟩:=x;exact⟨st _ _ p λo q=>k _ _ (.inl rfl) q,⟨o,k _ _ (.inl rfl) e⟩,st⟩
theorem Ew.lt(x:Ew P w H h)(e:H a=some o):a<h.objs.size:=(x a o e).lt
theorem Ew.fresh(x:Ew P w H h)(e:h.objs.size<=a):H a=none:=by
 cases q:H a with
 |none=>rfl
 |some u=>exact absurd (Nat.lt_of_lt_of_le (x.lt q) e) (Nat.lt_irrefl _)
theorem Ew.kept(x:Ew P w H h)(k:∀b u,h.get? b=some u->h'.get? b=some u):Ew P w H h':=λa o e =>
 (x a o e).fL (λb u _ q=>k b u q) (λ_ q=>q) λ_ _ q=>q
theorem Ew.laid(x:Ew P w H h)(k:∀b u,h.get? b=some u->h'.get? b=some u)(hp:h.objs.size<=a)(new:bp P w (upd H a o) h' a o):Ew P w (upd H a o) h':=λb u e=>by
 have hn:=x.fresh hp;by_cases hb:b=a
 ·subst hb;rw[aq]at e;cases e;exact new
 ·rw[aj hb]at e;exact(x b u e).fL (λc v _ q=>k c v q) (λc q=>by rw[aj (bu q hn)];exact q) λc xs q=>by rw[aj (bu q hn)];exact q
end
def Rd(H:Hp)(a:Addr)(u:HO):Prop:=H a=some u\/∃o,H a=some (.EJ o u)
theorem Rd.ok(r:Rd H a u)(x:Ew P w H h):bp P w H h a u:=by
 rcases r with r|⟨o,r⟩
 ·exact x a u r
 ·obtain⟨_,q⟩:=x a _ r;exact q
def JI:Option HO->Prop
 |some (.lst _)=>True
 |some (.dK _)=>True
 |some (.dT _)=>True
 |some (.set _ _)=>True
 |some (.ins _ _ _)=>True
 |some (.ext _)=>True
 |_=>False
section
theorem Ew.write(ok:Ew P w H h)(mu:JI (H x))(he:e=x\/H e=some (.own x))(k:∀b u,b≠e->h.get? b=some u->h'.get? b=some u)(GX:∃u,h'.get? e=some u)
  (new:bp P w (upd H x o') h' x o'):Ew P w (upd H x o') h':=λb u q=>by
 have JJ:∀c y,H c=some (.own y)->c≠x:=λc y r z=>by subst z;rw[r]at mu;exact mu
 have LZ:∀c xs,H c=some (.tup xs)->c≠x:=λc xs r z=>by subst z;rw[r]at mu;exact mu
 by_cases hb:b=x
 ·subst hb;rw[aq]at q;cases q;exact new
 ·rw[aj hb]at q;by_cases Ic:b=e
  ·have q':H b=some (.own x):=by
    rcases he with z|z
    ·exact absurd (Ic.trans z) hb
    ·rw[Ic];exact z
   rw[q]at q';cases q';obtain⟨v,hv⟩:=GX;exact⟨v,by rw[Ic];exact hv⟩
  ·refine(ok b u q).fL (λc v hc r=>k c v ?_ r) (λc r=>by rw[aj (JJ c b r)];exact r) λc xs r=>by rw[aj (LZ c xs r)];exact r
   rcases hc with rfl|hc
   ·exact Ic
   ·rintro rfl;rcases he with z|z
    ·exact JJ c b hc z
    ·rw[hc]at z;cases z;exact hb rfl
end
structure Un(fs ex:List Addr)(H H':Hp)(h h':Heap):Prop where
 keep:∀b o,h.get? b=some o->H b=none->b∉fs->b∉ex->h'.get? b=some o
 slot:∀b o,h.get? b=some o->H b=none->b∈fs->b∉ex->∃sl,h'.get? b=some {o with slots:=sl}
 free:∀b o,h.get? b=some o->H b=none->b∉ex->H' b=none
 there:∀b o,h.get? b=some o->b∉ex->∃o',h'.get? b=some o'
 iW:∀b xs,H b=some (.tup xs)->H' b=some (.tup xs)
 EW:∀b o u,H b=some (.EJ o u)->H' b=some (.EJ o u)
 E6:∀b ps,H b=some (.H_ ps)->∃more,H' b=some (.H_ (ps++more))
section
theorem Un.any(u:Un fs ex H H1 h h1)(q:h.get? b=some ob)(n:H b=none)(hx:b∉ex):∃sl,h1.get? b=some {ob with slots:=sl}:=by
 by_cases hb:b∈fs
 ·exact u.slot b ob q n hb hx
 ·exact⟨ob.slots,u.keep b ob q n hb hx⟩
theorem Un.kept(k:∀b u,h.get? b=some u->h'.get? b=some u):Un fs ex H H h h' :=
 ⟨λb ob q _ _ _=>k b ob q,λb ob q _ _ _=>⟨ob.slots,k b ob q⟩,λ_ _ _ n _=>n,λb ob q _=>⟨ob,k b ob q⟩,λ_ _ q=>q,λ_ _ _ q=>q,λ_ ps q=>⟨#[],by rw[q];simp⟩⟩
theorem Un.refl:Un fs ex H H h h:=Un.kept λ_ _ q=>q
theorem Un.laid(k:∀b u,h.get? b=some u->h'.get? b=some u)(hp:h.objs.size<=a)(hn:H a=none):Un fs ex H (upd H a o) h h' where
 keep:=λb u q _ _ _=>k b u q
 slot:=λb u q _ _ _=>⟨u.slots,k b u q⟩
 free:=λb u q n _=>by rw[aj (Nat.ne_of_lt (Nat.lt_of_lt_of_le (Heap.lt_size q) hp))];exact n
 there:=λb u q _=>⟨u,k b u q⟩
 iW:=λb xs q=>by rw[aj (bu q hn)];exact q
 EW:=λb u xs q=>by rw[aj (bu q hn)];exact q
 E6:=λb ps q=>⟨#[],by rw[aj (bu q hn),q];simp⟩
theorem Un.write(mu:JI (H x))(he:e=x\/H e=some (.own x))(k:∀b u,b≠e->h.get? b=some u->h'.get? b=some u)(GX:∃u,h'.get? e=some u):Un fs ex H (upd H x o) h h':=by
 have hx:∀b,H b=none->b≠x:=λb n z=>by subst z;rw[n]at mu;exact mu
 have hb:∀b,H b=none->b≠e:=λb n z=>by
  subst z;rcases he with r|r
  ·exact hx b n r
  ·rw[n]at r;cases r
 have hm:∀b u,H b=some u->¬JI (some u)->b≠x:=λb u q nm z=>by subst z;rw[q]at mu;exact nm mu
 refine⟨λb u q n _ _=>k b u (hb b n) q,λb u q n _ _=>⟨u.slots,k b u (hb b n) q⟩,λb u q n _=>by rw[aj (hx b n)];exact n,λb u q _=>?_,
  λb xs q=>by rw[aj (hm b _ q λz=>z)];exact q,λb u xs q=>by rw[aj (hm b _ q λz=>z)];exact q,λb ps q=>⟨#[],by rw[aj (hm b _ q λz=>z),q];simp⟩⟩
 by_cases Ic:b=e
 ·subst Ic;exact GX
 ·exact⟨u,k b u Ic q⟩
end
noncomputable def K2(h:Heap)(H:Hp):List Addr:=(List.range h.objs.size).filter λa=>(H a).isSome
noncomputable def l_(h:Heap)(H:Hp):Heap:=PySem.W.hideAll h (K2 h H)
theorem su(h:Heap)(H:Hp):(l_ h H).objs.size=h.objs.size:=PySem.W.hideAll_size _ _
theorem t7(e:h.get? b=some o)(n:H b=none):(l_ h H).get? b=some o :=
 PySem.W.hideAll_get _ e λhm=>by
  have q:(H b).isSome=true:=(List.mem_filter.mp hm).2;rw[n]at q;simp at q
theorem wX(e:(l_ h H).get? b=some o):h.get? b=some o/\H b=none:=by
 have e':h.get? b=some o:=PySem.W.of_hideAll (K2 h H) e;refine⟨e',?_⟩;cases q:H b with
 |none=>rfl
 |some x =>
  have hm:b∈K2 h H:=List.mem_filter.mpr ⟨List.mem_range.mpr (Heap.lt_size e'),by simp[q]⟩;have z:(l_ h H).get? b=none:=PySem.W.hideAll_none (K2 h H) hm;rw[z]at e;cases e
structure Mod(K:PySem.W.Frag)(mg:Str->Option Value)(base:Heap):Prop where
 L0:K.In base
 glob:base.Ns mainGlobals mg
 blt:∃mb,base.Ns builtinsNs mb/\∀x:Str,x≠"__name__"->mb x=bootBuiltins x
 nolimit:base.NoLimit
structure Cx where
 prog:Program
 w:World
 K:PySem.W.Frag
 mg:Str->Option Value
 base:Heap
 A:Around
 N:List Str
 s₀:Shared
 H₀:Hp
 env:Env
 outer:List Env
 stack:List Env
 ex:List Addr
 fn:Str->Bool
 calm:Bool
 pn:List (Addr×Obj)
 xe:Value->Shared->Prop
def FO(l:List Env):List Addr:=l.filterMap (·.frame)
abbrev Cx.fs(X:Cx):List Addr:=FO X.outer
def Fm(sc:Scope)(x:Str):Prop:=sc.names.lookup x=some .local\/sc.names.lookup x=some .cell\/sc.names.lookup x=some .free
def Loc(sc:Scope)(x:Str):Prop:=sc.names.lookup x=some .local\/sc.names.lookup x=some .cell
def Look(env:Env)(h:Heap)(m:Str->Option Value)(x:Str)(u:Value):Prop :=
 (env.kindOf x=some .local/\m x=some u)\/((env.kindOf x=some .cell\/env.kindOf x=some .free)/\∃c,env.cells.lookup x=some c/\h.IsCell c (some u))
structure Cx.Ok(X:Cx):Prop where
 mod:Mod X.K X.mg X.base
 kind:X.env.scope.kind=.function
 glob:X.env.globals=mainGlobals
 blt:X.env.builtins=builtinsNs
 above:X.s₀.heap.objs.size<=X.env.locals
 inj:∀x y c,X.env.cells.lookup x=some c->X.env.cells.lookup y=some c->x=y
 has:∀x,(X.env.kindOf x=some .cell\/X.env.kindOf x=some .free)->∃c,X.env.cells.lookup x=some c
 JK:∀x c,X.fn x=true->X.env.cells.lookup x=some c->X.s₀.heap.objs.size<=c
 hd:X.calm=true->X.A.handled=none
 frames:X.A.frames=some X.stack
 K3:X.stack=X.outer\/(X.stack=X.env::X.outer/\X.env.frame=some X.env.locals)
 N8:∀b∈X.ex,b≠X.env.locals/\∀x c,X.env.cells.lookup x=some c->c≠b
 bs:∀b o,X.base.get? b=some o->X.s₀.heap.get? b=some o/\X.H₀ b=none
 Ht:X.base.objs.size<=X.s₀.heap.objs.size
 Gx:∀b o,X.base.get? b=some o->b∉X.ex
 Ha:∀b∈X.ex,b∉X.fs
 jk:X.s₀.heap.FunFrames X.base X.outer
 Jg:∀b∈X.fs,X.H₀ b=none
structure Inv(X:Cx)(pins:List (Addr×Obj))(σ:List (Option V))(H:Hp)(s:Shared):Prop where
 ok:X.Ok
 os:s.os=X.s₀.os
 bare:AllBare s.gens
 base:Un X.fs X.ex X.H₀ H X.s₀.heap s.heap
 loc:∃m,s.heap.Ns X.env.locals m/\∀(i:Nat) (x:Str) (v:V),X.N[i]?=some x->σ[i]?=some (some v)->Fm X.env.scope x->∃u,RelV v u/\Look X.env s.heap m x u
 cell:∀x c,X.env.cells.lookup x=some c->∃v,s.heap.IsCell c v
 free:H X.env.locals=none
 Ef:∀x c,X.env.cells.lookup x=some c->H c=none
 pin:∀p∈X.pn++pins,s.heap.get? p.1=some p.2/\H p.1=none/\p.1≠X.env.locals/\p.1∉X.fs/\∀v,p.2.data≠.cell v
 DE:Ew X.prog X.w H s.heap
 len:σ.length=X.N.length
section
variable{X:Cx}{pins:List (Addr×Obj)}{σ:List (Option V)}{H H':Hp}{s:Shared}{h':Heap}
theorem Cx.Ok.CS(ok:X.Ok)(e:X.base.get? b=some o):b∉X.fs:=λhb=>by
 have:=(ok.jk.mem hb).1;rw[e]at this;cases this
theorem Inv.bs(I:Inv X pins σ H s):∀b o,X.base.get? b=some o->s.heap.get? b=some o/\H b=none:=λb o e =>
 ⟨I.base.keep b o (I.ok.bs b o e).1 (I.ok.bs b o e).2 (I.ok.CS e) (I.ok.Gx b o e),I.base.free b o (I.ok.bs b o e).1 (I.ok.bs b o e).2 (I.ok.Gx b o e)⟩
theorem Inv.bk(I:Inv X pins σ H s):∀b o,X.base.get? b=some o->s.heap.get? b=some o:=λb o e=>(I.bs b o e).1
theorem Inv.mod(I:Inv X pins σ H s):Mod X.K X.mg X.base:=I.ok.mod
theorem Inv.Jh(I:Inv X pins σ H s):X.K.In s.heap:=I.ok.mod.L0.keeps I.bk
theorem Inv.lt(I:Inv X pins σ H s):X.env.locals<s.heap.objs.size:=let ⟨_,hn,_⟩:=I.loc;hn.lt
theorem Inv.sz(I:Inv X pins σ H s):X.s₀.heap.objs.size<=s.heap.objs.size:=Nat.le_trans I.ok.above (Nat.le_of_lt I.lt)
theorem Inv.zu(I:Inv X pins σ H s)(h:s.heap.objs.size<=a):a∉X.fs:=λhb=>by
 obtain⟨_,o,ho,_⟩:=I.ok.jk.mem hb;exact absurd (Nat.lt_of_lt_of_le (Heap.lt_size ho) (Nat.le_trans I.sz h)) (Nat.lt_irrefl _)
theorem Inv.Ie(I:Inv X pins σ H s):∀x c,X.env.cells.lookup x=some c->c≠X.env.locals:=λx c e z=>by
 obtain⟨v,o,ho,hd⟩:=I.cell x c e;obtain⟨m,⟨o',es,ep,En,E7,_⟩,_⟩:=I.loc;rw[z,En]at ho;cases ho;rw[E7]at hd;cases hd
theorem Inv.jk(I:Inv X pins σ H s):s.heap.FunFrames X.base X.outer:=by
 have all:∀(l:List Env),(∀b∈FO l,b∈X.fs)->X.s₀.heap.FunFrames X.base l->s.heap.FunFrames X.base l:=by
  intro l;induction l with
  |nil=>intro _ _;trivial
  |cons env r ih =>
   intro hs hl;obtain⟨hk,⟨L,o,hf,hn,ho,hd⟩,hr⟩:=hl;have hL:L∈X.fs:=hs L (by unfold FO;rw[List.filterMap_cons,hf];exact List.mem_cons_self);obtain⟨sl,e⟩:=I.base.slot L o ho (I.ok.Jg L hL) hL λz=>I.ok.Ha L z hL;exact⟨hk,⟨L,_,hf,hn,e,hd⟩,ih (λb hb=>hs b (by unfold FO;rw[List.filterMap_cons,hf];exact List.mem_cons_of_mem _ hb)) hr⟩
 exact all X.outer (λ_ hb=>hb) I.ok.jk
theorem Inv.stack(I:Inv X pins σ H s):s.heap.FunFrames X.base X.stack:=by
 rcases I.ok.K3 with e|⟨e,hf⟩
 ·rw[e];exact I.jk
 ·rw[e];obtain⟨m,hn,_⟩:=I.loc;refine .cons (by rw[I.ok.kind];decide) hf hn ?_ I.jk;exact Heap.get?_none_of_le (Nat.le_trans I.ok.Ht I.ok.above)
theorem Inv.jl(I:Inv X pins σ H s):∀b∈FO X.stack,b∈X.env.locals::X.fs:=λb hb=>by
 rcases I.ok.K3 with e|⟨e,hf⟩
 ·rw[e]at hb;exact List.mem_cons_of_mem _ hb
 ·rw[e]at hb;unfold FO at hb;rw[List.filterMap_cons,hf]at hb;exact hb
theorem Inv.qP(I:Inv X pins σ H s):∀b∈FO X.stack,H b=none:=λb hb=>by
 rcases List.mem_cons.mp (I.jl b hb) with e|hb
 ·rw[e];exact I.free
 ·obtain⟨_,o,ho,_⟩:=I.ok.jk.mem hb;exact I.base.free b o ho (I.ok.Jg b hb) λz=>I.ok.Ha b z hb
theorem Inv.step{ch:List Addr}(I:Inv X pins σ H s)
  (GY:∀b∈ch,(b∈X.ex\/X.s₀.heap.objs.size<=b)/\b≠X.env.locals/\(∀x c,X.env.cells.lookup x=some c->c≠b)/\∀p∈X.pn++pins,p.1≠b)
  (keep:∀b o,b≠X.env.locals->b∉X.fs->b∉ch->s.heap.get? b=some o->H b=none->h'.get? b=some o)
  (slot:∀b o,b≠X.env.locals->b∈X.fs->b∉ch->s.heap.get? b=some o->H b=none->∃sl,h'.get? b=some {o with slots:=sl}) (free:∀b o,b∉ch->s.heap.get? b=some o->H b=none->H' b=none)
  (there:∀b o,b∉ch->s.heap.get? b=some o->∃o',h'.get? b=some o')
  (iW:∀b xs,H b=some (.tup xs)->H' b=some (.tup xs)) (EW:∀b o u,H b=some (.EJ o u)->H' b=some (.EJ o u)) (E6:∀b ps,H b=some (.H_ ps)->∃more,H' b=some (.H_ (ps++more)))
  (ns:∀m,s.heap.Ns X.env.locals m->h'.Ns X.env.locals m) (DE:Ew X.prog X.w H' h') (hg:AllBare g') :
  Inv X pins σ H' {s with heap:=h',gens:=g',drawn:=d',toks:=t' }:=by
 have N9:∀b o,X.s₀.heap.get? b=some o->b≠X.env.locals:=λb o e=>Nat.ne_of_lt (Nat.lt_of_lt_of_le (Heap.lt_size e) I.ok.above);have K4:∀b o,X.s₀.heap.get? b=some o->b∉X.ex->b∉ch:=λb o e hx hb=>by
  rcases(GY b hb).1 with z|z
  ·exact hx z
  ·exact absurd (Nat.lt_of_lt_of_le (Heap.lt_size e) z) (Nat.lt_irrefl _)
 have cellK:∀x c,X.env.cells.lookup x=some c->∀v,s.heap.IsCell c v->h'.IsCell c v:=λx c e v DP=>by
  obtain⟨o,ho,hd⟩:=DP;have JL:c∉ch:=λz=>(GY c z).2.2.1 x c e rfl;by_cases hc:c∈X.fs
  ·obtain⟨sl,q⟩:=slot c o (I.Ie x c e) hc JL ho (I.Ef x c e);exact⟨_,q,hd⟩
  ·exact⟨o,keep c o (I.Ie x c e) hc JL ho (I.Ef x c e),hd⟩
 refine⟨I.ok,I.os,hg,⟨λb o e n hb hx=>?_,λb o e n hb hx=>?_,λb o e n hx=>?_,λb o e hx=>?_,λb xs e=>iW b xs (I.base.iW b xs e),λb o xs e=>EW b o xs (I.base.EW b o xs e),λb ps e=>?_⟩,?_,λx c e=>?_,?_,λx c e=>?_,λp hp=>?_,DE,I.len⟩
 ·exact keep b o (N9 b o e) hb (K4 b o e hx) (I.base.keep b o e n hb hx) (I.base.free b o e n hx)
 ·obtain⟨sl,e1⟩:=I.base.slot b o e n hb hx;obtain⟨PU,e2⟩:=slot b _ (N9 b o e) hb (K4 b o e hx) e1 (I.base.free b o e n hx);exact⟨PU,e2⟩
 ·obtain⟨o',e1⟩:=I.base.there b o e hx;exact free b o' (K4 b o e hx) e1 (I.base.free b o e n hx)
 ·obtain⟨o',e1⟩:=I.base.there b o e hx;exact there b o' (K4 b o e hx) e1
 ·obtain⟨m1,e1⟩:=I.base.E6 b ps e;obtain⟨m2,e2⟩:=E6 b _ e1;exact⟨m1++m2,by rw[e2,Array.append_assoc]⟩
 ·obtain⟨m,hn,hl⟩:=I.loc;refine⟨m,ns m hn,λi x v e1 e2 e3=>?_⟩;obtain⟨u,r,l⟩:=hl i x v e1 e2 e3;refine⟨u,r,?_⟩;rcases l with l|⟨k,c,e,z⟩
  ·exact .inl l
  ·exact .inr ⟨k,c,e,cellK x c e _ z⟩
 ·obtain⟨v,z⟩:=I.cell x c e;exact⟨v,cellK x c e v z⟩
 ·obtain⟨m,⟨o,_,_,ho,_⟩,_⟩:=I.loc;exact free _ o (λz=>(GY _ z).2.1 rfl) ho I.free
 ·obtain⟨v,o,ho,hd⟩:=I.cell x c e;exact free c o (λz=>(GY c z).2.2.1 x c e rfl) ho (I.Ef x c e)
 ·obtain⟨e,n,ne,nf,d⟩:=I.pin p hp;have JL:p.1∉ch:=λz=>(GY p.1 z).2.2.2 p hp rfl;exact⟨keep p.1 p.2 ne nf JL e n,free p.1 p.2 JL e n,ne,nf,d⟩
theorem Inv.un(I:Inv X pins σ H s)(u:Un X.fs [] H H' s.heap h')(DE:Ew X.prog X.w H' h'):Inv X pins σ H' {s with heap:=h',toks:=t' }:=by
 obtain⟨m,⟨o,es,ep,ho,r⟩,_⟩:=id I.loc;obtain⟨sl,hL⟩:=u.any ho I.free (by simp);exact I.step (g':=s.gens) (d':=s.drawn) (ch:=[]) (λ_ z=>nomatch z) (λb o _ hb _ e n=>u.keep b o e n hb (by simp)) (λb o _ hb _ e n=>u.slot b o e n hb (by simp)) (λb o _ e n=>u.free b o e n (by simp)) (λb o _ e=>u.there b o e (by simp)) u.iW u.EW u.E6 (λm' hm=>by
  obtain⟨o',Dz,Gy,En,r'⟩:=hm;rw[ho]at En;cases En;exact⟨_,Dz,Gy,hL,r'⟩) DE I.bare
theorem Inv.call(I:Inv X pins σ H s)(u:Un (FO X.stack) ch H H' s.heap h')(DE:Ew X.prog X.w H' h')(hg:AllBare g')
  (GY:∀b∈ch,(b∈X.ex\/X.s₀.heap.objs.size<=b)/\b≠X.env.locals/\(∀x c,X.env.cells.lookup x=some c->c≠b)/\∀p∈X.pn++pins,p.1≠b) :
  Inv X pins σ H' {s with heap:=h',gens:=g',drawn:=d',toks:=t' }:=by
 obtain⟨m,⟨o,es,ep,ho,r⟩,_⟩:=id I.loc;obtain⟨sl,hL⟩:=u.any ho I.free λz=>(GY _ z).2.1 rfl;exact I.step (ch:=ch) GY (λb o hL hb hc e n=>u.keep b o e n (λz=>(List.mem_cons.mp (I.jl b z)).elim hL hb) hc) (λb o _ _ hc e n=>u.any e n hc) (λb o hc e n=>u.free b o e n hc) (λb o hc e=>u.there b o e hc) u.iW u.EW u.E6 (λm' hm=>by
  obtain⟨o',Dz,Gy,En,r'⟩:=hm;rw[ho]at En;cases En;exact⟨_,Dz,Gy,hL,r'⟩) DE hg
theorem Inv.turned(I:Inv X pins σ H s)(k:∀b o,b≠it->s.heap.get? b=some o->h'.get? b=some o)(hn:H it=none)(hL:it≠X.env.locals)
  (h1:it∈X.ex\/X.s₀.heap.objs.size<=it) (h2:∀x c,X.env.cells.lookup x=some c->c≠it) (h3:∀p∈X.pn++pins,p.1≠it):Inv X pins σ H {s with heap:=h',toks:=t' }:=by
 have JM:∀b u,H b=some u->b≠it:=λb u e z=>by rw[z,hn]at e;cases e
 refine I.step (g':=s.gens) (d':=s.drawn) (ch:=[it]) (λb hb=>?_) (λb o _ _ hc e _=>k b o (λz=>hc (by simp[z])) e) (λb o _ _ hc e _=>⟨o.slots,k b o (λz=>hc (by simp[z])) e⟩) (λ_ _ _ _ n=>n)
  (λb o hc e=>⟨o,k b o (λz=>hc (by simp[z])) e⟩) (λ_ _ e=>e) (λ_ _ _ e=>e) (λb ps e=>⟨#[],by rw[e];simp⟩) (λm hm=>?_) (λb u e=>?_) I.bare
 ·have e:b=it:=by simpa using hb
  subst e;exact⟨h1,hL,h2,h3⟩
 ·obtain⟨o,es,ep,ho,r⟩:=hm;exact⟨o,es,ep,k _ o (Ne.symm hL) ho,r⟩
 ·refine(I.DE b u e).fL (λc v hc q=>k c v ?_ q) (λ_ q=>q) λ_ _ q=>q;rcases hc with z|z
  ·rw[z];exact JM b u e
  ·exact JM c _ z
theorem Inv.tok(I:Inv X pins σ H s)(t:Nat):Inv X pins σ H {s with toks:=t}:=I.un (h':=s.heap) (t':=t) Un.refl I.DE
theorem Inv.kept(I:Inv X pins σ H s)(k:∀b u,s.heap.get? b=some u->h'.get? b=some u):Inv X pins σ H {s with heap:=h',toks:=t' }:=I.un (Un.kept k) (I.DE.kept k)
theorem Inv.laid(I:Inv X pins σ H s)(k:∀b u,s.heap.get? b=some u->h'.get? b=some u)(hp:s.heap.objs.size<=a)(new:bp X.prog X.w (upd H a o) h' a o):
  Inv X pins σ (upd H a o) {s with heap:=h',toks:=t' }:=I.un (Un.laid k hp (I.DE.fresh hp)) (I.DE.laid k hp new)
theorem Inv.write(I:Inv X pins σ H s)(mu:JI (H x))(he:e=x\/H e=some (.own x))(k:∀b u,b≠e->s.heap.get? b=some u->h'.get? b=some u)(GX:∃u,h'.get? e=some u)
  (new:bp X.prog X.w (upd H x o) h' x o):Inv X pins σ (upd H x o) {s with heap:=h',toks:=t' }:=I.un (Un.write mu he k GX) (I.DE.write mu he k GX new)
theorem Inv.weak(I:Inv X pins σ H s)(hl:σ'.length=σ.length)(w:∀(i:Nat) v,σ'[i]?=some (some v)->σ[i]?=some (some v)):Inv X pins σ' H s :=
 ⟨I.ok,I.os,I.bare,I.base,let ⟨m,hn,Hu⟩:=I.loc;⟨m,hn,λi x v e1 e2 e3=>Hu i x v e1 (w i v e2) e3⟩,I.cell,I.free,I.Ef,I.pin,I.DE,hl.trans I.len⟩
theorem Inv.dr(I:Inv X pins σ H s)(h:∀p∈Hv,s.heap.get? p.1=some p.2/\H p.1=none/\p.1≠X.env.locals/\p.1∉X.fs/\∀v,p.2.data≠.cell v):Inv X Hv σ H s :=
 ⟨I.ok,I.os,I.bare,I.base,I.loc,I.cell,I.free,I.Ef,λp hp=>(List.mem_append.mp hp).elim (λz=>I.pin p (List.mem_append_left _ z)) (h p),I.DE,I.len⟩
theorem jm{N:List Str}(hN:N.Nodup){i j:Nat}(a:N[i]?=some x)(b:N[j]?=some x):i=j:=by
 obtain⟨h1,e1⟩:=List.getElem?_eq_some_iff.mp a;obtain⟨h2,e2⟩:=List.getElem?_eq_some_iff.mp b;exact(List.getElem_inj hN).mp (e1.trans e2.symm)
theorem kX(I:Inv X pins σ H s)(hN:X.N.Nodup)(hi:X.N[i]?=some x)(hx:Loc X.env.scope x)(r:RelV v u)
  (h:∀s',Inv X pins (σ.set i (some v)) H s'->(∃a,Heap.SameBut a s.heap s'.heap/\(a=X.env.locals\/X.env.cells.lookup x=some a))->Q () s') (hf:X.fn x=true\/X.env.scope.names.lookup x=some .local:=by first|exact .inl rfl|exact .inr rfl|assumption):wpAny M A (storeName X.env x u) Q E s:=by
 obtain⟨m,hn,hl⟩:=id I.loc;have L3:(X.env.scope.kind==.class||(X.env.scope.kind==.module&&X.env.locals != X.env.globals))=false:=by rw[I.ok.kind];rfl
 have N_:i < σ.length:=by rw[I.len];exact(List.getElem?_eq_some_iff.mp hi).1
 have Ie:=I.Ie;have tracked:∀{a:Addr} {h':Heap},(∃o,s.heap.get? a=some o/\H a=none)->Heap.SameBut a s.heap h'->Ew X.prog X.w H h':=λ{a h'} ha hs b ob e=>by
  obtain⟨_,_,El⟩:=ha;refine(I.DE b ob e).fL (λc w' hc q=>(hs.2 c ?_).trans q) (λ_ q=>q) λ_ _ q=>q;rintro rfl;rcases hc with rfl|hc
  ·rw[El]at e;cases e
  ·rw[El]at hc;cases hc
 rcases hx with hk|hk
 ·refine wpAny_storeName_local hk hn (λh' Ig hs=>?_) L3;obtain⟨oL,_,_,Hb,_⟩:=id hn;refine h _ ⟨I.ok,I.os,I.bare,⟨λb o e n hb hx=>?_,λb o e n hb hx=>?_,I.base.free,λb o e hx=>?_,I.base.iW,I.base.EW,I.base.E6⟩,⟨_,Ig,λj y v' e1 e2 e3=>?_⟩,λy c e=>?_,I.free,I.Ef,λp hp=>?_,tracked ⟨oL,Hb,I.free⟩ hs,by simpa using I.len⟩ ⟨_,hs,.inl rfl⟩
  ·exact(hs.2 b (Nat.ne_of_lt (Nat.lt_of_lt_of_le (Heap.lt_size e) I.ok.above))).trans (I.base.keep b o e n hb hx)
  ·obtain⟨sl,e1⟩:=I.base.slot b o e n hb hx;exact⟨sl,(hs.2 b (Nat.ne_of_lt (Nat.lt_of_lt_of_le (Heap.lt_size e) I.ok.above))).trans e1⟩
  ·obtain⟨o',e1⟩:=I.base.there b o e hx;exact⟨o',(hs.2 b (Nat.ne_of_lt (Nat.lt_of_lt_of_le (Heap.lt_size e) I.ok.above))).trans e1⟩
  ·by_cases hj:j=i
   ·subst hj;rw[hi]at e1;cases e1;rw[List.getElem?_set_self N_]at e2;cases e2;exact⟨u,r,.inl ⟨hk,by simp⟩⟩
   ·rw[List.getElem?_set_ne (Ne.symm hj)]at e2;obtain⟨u',r',q⟩:=hl j y v' e1 e2 e3;refine⟨u',r',?_⟩;rcases q with⟨k,e⟩|⟨k,c,e,z⟩
    ·refine .inl ⟨k,?_⟩;have:y≠x:=λe=>hj (jm hN e1 (e▸hi));simp[this,e]
    ·exact .inr ⟨k,c,e,z.sameBut hs (Ie y c e)⟩
  ·obtain⟨w',z⟩:=I.cell y c e;exact⟨w',z.sameBut hs (Ie y c e)⟩
  ·obtain⟨e,n,ne,nf,d⟩:=I.pin p hp;exact⟨(hs.2 p.1 ne).trans e,n,ne,nf,d⟩
 ·have GZ:X.fn x=true:=by
   rcases hf with z|z
   ·exact z
   ·rw[z]at hk;cases hk
  obtain⟨c,hc⟩:=I.ok.has x (.inl hk);obtain⟨w',z⟩:=I.cell x c hc;refine wpAny_storeName_cell I.ok.kind hk hc z (λh' G0 hs=>?_);obtain⟨oc,N',L4⟩:=id z;refine h {s with heap:=h' } ⟨I.ok,I.os,I.bare,⟨λb o e n hb hx=>?_,λb o e n hb hx=>?_,I.base.free,λb o e hx=>?_,I.base.iW,I.base.EW,I.base.E6⟩,⟨m,hn.sameBut hs (Ne.symm (Ie x c hc)),λj y v' e1 e2 e3=>?_⟩,λy c' e=>?_,I.free,I.Ef,λp hp=>?_,tracked ⟨oc,N',I.Ef x c hc⟩ hs,by simpa using I.len⟩ ⟨c,hs,.inr hc⟩
  ·exact(hs.2 b (Nat.ne_of_lt (Nat.lt_of_lt_of_le (Heap.lt_size e) (I.ok.JK x c GZ hc)))).trans (I.base.keep b o e n hb hx)
  ·obtain⟨sl,e1⟩:=I.base.slot b o e n hb hx;exact⟨sl,(hs.2 b (Nat.ne_of_lt (Nat.lt_of_lt_of_le (Heap.lt_size e) (I.ok.JK x c GZ hc)))).trans e1⟩
  ·obtain⟨o',e1⟩:=I.base.there b o e hx;exact⟨o',(hs.2 b (Nat.ne_of_lt (Nat.lt_of_lt_of_le (Heap.lt_size e) (I.ok.JK x c GZ hc)))).trans e1⟩
  ·by_cases hj:j=i
   ·subst hj;rw[hi]at e1;cases e1;rw[List.getElem?_set_self N_]at e2;cases e2;exact⟨u,r,.inr ⟨.inl hk,c,hc,G0⟩⟩
   ·rw[List.getElem?_set_ne (Ne.symm hj)]at e2;obtain⟨u',r',q⟩:=hl j y v' e1 e2 e3;refine⟨u',r',?_⟩;rcases q with q|⟨k,c',e,z'⟩
    ·exact .inl q
    ·refine .inr ⟨k,c',e,z'.sameBut hs ?_⟩;rintro rfl;exact hj (jm hN e1 (I.ok.inj _ _ _ e hc▸hi))
  ·by_cases Oc:c'=c
   ·subst Oc;exact⟨_,G0⟩
   ·obtain⟨w2,z2⟩:=I.cell y c' e;exact⟨w2,z2.sameBut hs Oc⟩
  ·obtain⟨e,n,ne,nf,d⟩:=I.pin p hp;refine⟨(hs.2 p.1 ?_).trans e,n,ne,nf,d⟩;intro q;rw[q,N']at e;have q':oc=p.2:=Option.some.inj e;exact d w' (by rw[<-q'];exact L4)
theorem nP(I:Inv X pins σ H s)(hN:X.N.Nodup)(hi:X.N[i]?=some x)(hx:Loc X.env.scope x)(r:RelV v u)
  (h:∀s',Inv X pins (σ.set i (some v)) H s'->Q () s') (hf:X.fn x=true\/X.env.scope.names.lookup x=some .local:=by first|exact .inl rfl|exact .inr rfl|assumption):wpAny M A (storeName X.env x u) Q E s :=
 kX I hN hi hx r (λs' I' _=>h s' I') hf
theorem Inv.Bl(I:Inv X pins σ H s)(ho:s'.os=s.os)(u:Un (FO X.stack) ch H H' s.heap s'.heap)(DE:Ew X.prog X.w H' s'.heap)(hg:AllBare s'.gens)
  (GY:∀b∈ch,(b∈X.ex\/X.s₀.heap.objs.size<=b)/\b≠X.env.locals/\(∀x c,X.env.cells.lookup x=some c->c≠b)/\∀p∈X.pn++pins,p.1≠b):Inv X pins σ H' s':=by
 obtain⟨h',g',d',t',o'⟩:=s';have e:o'=s.os:=ho;subst e;exact I.call (g':=g') (t':=t') (d':=d') u DE hg GY
end
abbrev XK:=Value->Option Addr->Hp->Prop
abbrev St:=List (Option V)
abbrev VK:=V->Hp->Prop
abbrev TE:=St->Hp->VK->Prop
abbrev TT:=St->Hp->(Bool->Hp->Prop)->Prop
abbrev TA:=St->Hp->(List V->Hp->Prop)->Prop
structure Ends where
 nx:St->Hp->Prop
 rt:VK
 bk:St->Hp->Prop:=λ_ _=>False
 ct:St->Hp->Prop:=λ_ _=>False
abbrev TS:=Ends->St->Hp->Prop
def EP(X:Cx)(pins:List (Addr×Obj))(σ:St)(Q:VK)(u:Value)(s':Shared):Prop:=∃v H',Inv X pins σ H' s'/\RelV v u/\Q v H'
def TP(X:Cx)(pins:List (Addr×Obj))(σ:St)(Q:Bool->Hp->Prop)(b:Bool)(s':Shared):Prop:=∃H',Inv X pins σ H' s'/\Q b H'
def AP(X:Cx)(pins:List (Addr×Obj))(σ:St)(Q:List V->Hp->Prop)(us:List Value)(s':Shared):Prop:=∃vs H',Inv X pins σ H' s'/\Vals vs us/\Q vs H'
def SP(X:Cx)(pins:List (Addr×Obj))(D:Ends)(f:Flow)(s':Shared):Prop :=
 match f with
 |.next=>∃σ' H',Inv X pins σ' H' s'/\D.nx σ' H'
 |.brk=>∃σ' H',Inv X pins σ' H' s'/\D.bk σ' H'
 |.cont=>∃σ' H',Inv X pins σ' H' s'/\D.ct σ' H'
 |.ret u=>∃v σ' H',Inv X pins σ' H' s'/\RelV v u/\D.rt v H'
def PE(X:Cx)(e:Expr)(t:TE):Prop :=
 ∀(pins:List (Addr×Obj)) (s:Shared) (σ:St) (H:Hp) (Q:VK),Inv X pins σ H s->t σ H Q->wpAny (model X.prog X.w) X.A (eval e X.env) (EP X pins σ Q) X.xe s
def PT(X:Cx)(e:Expr)(t:TT):Prop :=
 ∀(pins:List (Addr×Obj)) (s:Shared) (σ:St) (H:Hp) (Q:Bool->Hp->Prop),Inv X pins σ H s->t σ H Q->wpAny (model X.prog X.w) X.A (isTrue e X.env (eval e X.env)) (TP X pins σ Q) X.xe s
def PW(X:Cx)(e:Expr)(t:TT):Prop :=
 ∀(whole:Sem Value) (pins:List (Addr×Obj)) (s:Shared) (σ:St) (H:Hp) (Q:Bool->Hp->Prop),Inv X pins σ H s->t σ H Q->wpAny (model X.prog X.w) X.A (isTrue e X.env whole) (TP X pins σ Q) X.xe s
theorem PW.pt(h:PW X e t):PT X e t:=h _
def PA(X:Cx)(es:List Expr)(t:TA):Prop :=
 ∀(pos:Pos) (pins:List (Addr×Obj)) (s:Shared) (σ:St) (H:Hp) (Q:List V->Hp->Prop),Inv X pins σ H s->t σ H Q->wpAny (model X.prog X.w) X.A (spliced (backTo pos (starEach es X.env))) (AP X pins σ Q) X.xe s
def PS(X:Cx)(st:Stmt)(t:TS):Prop :=
 ∀(pins:List (Addr×Obj)) (s:Shared) (σ:St) (H:Hp) (D:Ends),Inv X pins σ H s->t D σ H->wpAny (model X.prog X.w) X.A (exec st X.env) (SP X pins D) X.xe s
def EA(X:Cx)(st:List Stmt)(t:TS):Prop :=
 ∀(pins:List (Addr×Obj)) (s:Shared) (σ:St) (H:Hp) (D:Ends),Inv X pins σ H s->t D σ H->wpAny (model X.prog X.w) X.A (execs st X.env) (SP X pins D) X.xe s
theorem DG(h:wpAny M A t Q E s)(hQ:∀a s,Q a s->Q' a s):wpAny M A t Q' E s:=wpAny_mono h hQ λ_ _ x=>x
section
def CT(i:Nat):TE:=λσ H Q=>∃v,σ[i]?=some (some v)/\Q v H
def tC(v:V):TE:=λ_ H Q=>Q v H
theorem cn(hN:X.N[i]?=some x)(hv:Fm X.env.scope x)(hd:(x==("__debug__":Str))=false:=by decide)(Ed:(x==("__classdict__":Str))=false:=by decide):PE X (.Name x pos) (CT i):=by
 intro pins s σ H Q I h;obtain⟨v,e,h⟩:=h;obtain⟨m,hn,hl⟩:=I.loc;obtain⟨u,r,l⟩:=hl i x v hN e hv;have fin:EP X pins σ Q u s:=⟨v,H,I,r,h⟩
 rcases l with⟨hk,hm⟩|⟨hk,c,hc,Hw⟩
 ·exact wpAny_Name (wpAny_loadName_local I.ok.kind hk hn hm fin) hd
 ·rcases hk with hk|hk
  ·exact wpAny_Name (wpAny_loadName_cell I.ok.kind hk hc Hw fin) hd
  ·exact wpAny_Name (wpAny_loadName_free I.ok.kind hk hc Hw fin Ed) hd
theorem pH:PE X (.Constant (.int i) j pos) (tC (.int i)):=λ_ _ _ H _ I h=>wpAny_Constant_int ⟨.int i,H,I.tok _,⟨_,rfl⟩,h⟩
theorem yS:PE X (.Constant (.bool b) j pos) (tC (.bl b)):=λ_ _ _ H _ I h=>Constant_bool ⟨.bl b,H,I,rfl,h⟩
theorem t8:PE X (.Constant .none j pos) (tC .DF):=λ_ _ _ H _ I h=>Constant_none ⟨.DF,H,I,rfl,h⟩
theorem t9:PE X (.Constant (.str x) j pos) (tC (.str x)):=λ_ _ _ H _ I h=>Calls.Constant_str ⟨.str x,H,I.tok _,⟨_,rfl⟩,h⟩
def Gl(X:Cx)(x:Str):Prop:=X.env.kindOf x=some .globalImplicit
theorem wY(I:Inv X pins σ H s)(hg:Gl X x)(hm:X.mg x=some u)(h:Q u s)
  (hd:(x==("__debug__":Str))=false:=by decide):wpAny (model X.prog X.w) X.A (eval (.Name x pos) X.env) Q E s :=
 Calls.Name_function_global I.ok.kind hg (Calls.loadGlobal_global (by rw[I.ok.glob];exact I.mod.glob.keeps I.bk) hm h) hd
theorem cF(I:Inv X pins σ H s)(hg:Gl X x)(hm:X.mg x=none)(hv:bootBuiltins x=some u)(h:Q u s)
  (hn:x≠"__name__":=by decide) (hd:(x==("__debug__":Str))=false:=by decide):wpAny (model X.prog X.w) X.A (eval (.Name x pos) X.env) Q E s:=by
 obtain⟨mb,h1,h2⟩:=I.mod.blt;exact Calls.Name_function_global I.ok.kind hg (Calls.loadGlobal_builtin (by rw[I.ok.glob];exact I.mod.glob.keeps I.bk) hm (by rw[I.ok.blt];exact h1.keeps I.bk) ((h2 x hn).trans hv) h) hd
theorem wZ(hg:Gl X x)(hm:X.mg x=none)(hv:bootBuiltins x=some u)(r:RelV v u)(hn:x≠"__name__":=by decide)(hd:(x==("__debug__":Str))=false:=by decide):PE X (.Name x pos) (tC v) :=
 λ_ _ _ H _ I h=>cF I hg hm hv ⟨v,H,I,r,h⟩ hn hd
def PC(X:Cx)(op:CmpOp)(a b:Expr)(t:TE):Prop :=
 ∀(pins:List (Addr×Obj)) (s:Shared) (σ:St) (H:Hp) (Q:VK),Inv X pins σ H s->t σ H Q ->
  wpAny (model X.prog X.w) X.A (eval a X.env) (λv s₁=>wpAny (model X.prog X.w) X.A (eval b X.env) (λu s₂=>wpAny (model X.prog X.w) X.A (compareOp op v u) (EP X pins σ Q) X.xe s₂) X.xe s₁) X.xe s
def tB(t:TE):TT:=λσ H Q=>t σ H λx H1=>∃c,x=.bl c/\Q c H1
theorem t_(h:PC X op a b t)(h1:behindInMarks op b=false:=by first|exact Gz _ (by decide) (by decide)|rfl):PE X (.Compare a [op] [b] pos) t:=λpins s σ H Q I hw=>wpAny_Compare1 (h pins s σ H Q I hw) h1
theorem ua(h:PC X op a b t)(h1:behindInMarks op b=false:=by first|exact Gz _ (by decide) (by decide)|rfl):PT X (.Compare a [op] [b] pos) (tB t):=by
 intro pins s σ H Q I hw;refine wpAny_isTrue_Compare1 (DG (h pins s σ H _ I hw) λv s1 h1=>DG h1 λu s2 h2=>DG h2 λc s3 ⟨x,H1,I1,r1,q1⟩=>?_) h1;obtain⟨d,rfl,q⟩:=q1;cases r1;exact wpAny_truthy_bool ⟨H1,I1,q⟩
def CU(t u:TT):TT:=λσ H Q=>t σ H λc H1=>if c=true then u σ H1 Q else Q false H1
def PV(t u:TT):TT:=λσ H Q=>t σ H λc H1=>if c=true then Q true H1 else u σ H1 Q
def CV(t:TT):TT:=λσ H Q=>t σ H λc H1=>Q (!c) H1
theorem w9(ha:PT X a tA):PW X (.BoolOp .And [a] pos) tA:=by
 intro wh pins s σ H Q I h;refine isTrue_and (DG (ha pins s σ H Q I h) λc s1 e=>?_);cases c with
 |true=>exact isTrue_and_nil e
 |false=>exact e
theorem zv(ha:PT X a tA):PW X (.BoolOp .Or [a] pos) tA:=by
 intro wh pins s σ H Q I h;refine isTrue_or (DG (ha pins s σ H Q I h) λc s1 e=>?_);cases c with
 |false=>exact isTrue_or_nil e
 |true=>exact e
theorem zw(ha:PT X a tA)(hb:PW X (.BoolOp .And (b::rest) pos) L5):PW X (.BoolOp .And (a::b::rest) pos) (CU tA L5):=by
 intro wh pins s σ H Q I h;refine isTrue_and (DG (ha pins s σ H _ I h) λc s1 ⟨H1,I1,q1⟩=>?_);cases c with
 |true=>exact hb wh pins s1 σ H1 Q I1 q1
 |false=>exact⟨H1,I1,q1⟩
theorem Bm(ha:PT X a tA)(hb:PW X (.BoolOp .Or (b::rest) pos) L5):PW X (.BoolOp .Or (a::b::rest) pos) (PV tA L5):=by
 intro wh pins s σ H Q I h;refine isTrue_or (DG (ha pins s σ H _ I h) λc s1 ⟨H1,I1,q1⟩=>?_);cases c with
 |true=>exact⟨H1,I1,q1⟩
 |false=>exact hb wh pins s1 σ H1 Q I1 q1
theorem zx(ha:PT X a tA):PT X (.UnaryOp .Not a pos) (CV tA):=by
 intro pins s σ H Q I h;exact isTrue_not (ha pins s σ H (λc H1=>Q (!c) H1) I h)
def Bn(ta tb:TE):TE:=λσ H Q=>ta σ H λx H1=>∃c,x=.bl c/\if c=true then tb σ H1 Q else Q (.bl false) H1
def CW(ta tb:TE):TE:=λσ H Q=>ta σ H λx H1=>∃c,x=.bl c/\if c=true then Q (.bl true) H1 else tb σ H1 Q
def Bo(ta:TE):TE:=λσ H Q=>ta σ H λx H1=>∃c,x=.bl c/\Q (.bl (!c)) H1
theorem ub(h:PE X a t):PE X (.BoolOp op [a] pos) t:=λpins s σ H Q I hw=>BoolOp_one (h pins s σ H Q I hw)
theorem zy(ha:PE X a ta)(hb:PE X (.BoolOp .And (b::rest) pos) tb):PE X (.BoolOp .And (a::b::rest) pos) (Bn ta tb):=by
 intro pins s σ H Q I h;refine BoolOp_and (DG (ha pins s σ H _ I h) λv s1 ⟨x,H1,I1,r1,q1⟩=>?_);obtain⟨c,rfl,q1⟩:=q1;cases r1;refine wpAny_truthy_bool ?_;cases c with
 |true=>exact hb pins s1 σ H1 Q I1 q1
 |false=>exact⟨.bl false,H1,I1,rfl,q1⟩
theorem Bp(ha:PE X a ta)(hb:PE X (.BoolOp .Or (b::rest) pos) tb):PE X (.BoolOp .Or (a::b::rest) pos) (CW ta tb):=by
 intro pins s σ H Q I h;refine BoolOp_or (DG (ha pins s σ H _ I h) λv s1 ⟨x,H1,I1,r1,q1⟩=>?_);obtain⟨c,rfl,q1⟩:=q1;cases r1;refine wpAny_truthy_bool ?_;cases c with
 |false=>exact hb pins s1 σ H1 Q I1 q1
 |true=>exact⟨.bl true,H1,I1,rfl,q1⟩
theorem zA(ha:PE X a ta):PE X (.UnaryOp .Not a pos) (Bo ta):=by
 intro pins s σ H Q I h;refine UnaryOp_ (DG (ha pins s σ H _ I h) λv s1 ⟨x,H1,I1,r1,q1⟩=>?_);obtain⟨c,rfl,q1⟩:=q1;cases r1;exact not_of (wpAny_truthy_bool ⟨.bl (!c),H1,I1,rfl,q1⟩)
end
def D7(K:PySem.W.Frag)(H:Hp)(a:Addr)(xs:List V):Prop :=
 Rd H a (.lst xs) \/
  ∃(o:Obj) (A':Array Value) (n:Nat),K.lookup a=some o/\o.cls=.type "list"/\o.dict=none/\o.data=.seq A' n/\A'.size<=sizeLine/\Vals xs A'.toList
def D3(K:PySem.W.Frag)(H:Hp)(a:Addr)(xs:List V):Prop :=
 Rd H a (.tup xs) \/
  ∃(o:Obj) (A':Array Value) (n:Nat),K.lookup a=some o/\o.cls=.type "tuple"/\o.data=.seq A' n/\A'.size<=sizeLine/\Vals xs A'.toList
noncomputable def CY:Value->Option V
 |.none=>some .DF
 |.bool b=>some (.bl b)
 |.int i _=>some (.int i)
 |.str x _=>some (.str x)
 |.bytes b _=>some (.JG b)
 |.float b _=>some (.JH b)
 |.ref a=>some (.ref a)
 |.type n=>some (.ty n)
 |_=>none
theorem RelV.abs(r:RelV x u):CY u=some x:=by
 cases x with
 |DF=>cases r;rfl
 |bl _=>cases r;rfl
 |int _=>obtain⟨t,rfl⟩:=r;rfl
 |str _=>obtain⟨t,rfl⟩:=r;rfl
 |JG _=>obtain⟨t,rfl⟩:=r;rfl
 |JH _=>obtain⟨t,rfl⟩:=r;rfl
 |ref _=>cases r;rfl
 |ty _=>cases r;rfl
theorem RelV.inj(r:RelV x u)(q:RelV y u):x=y:=Option.some.inj (r.abs.symm.trans q.abs)
theorem Vals.inj:∀{xs ys:List V}{us:List Value},Vals xs us->Vals ys us->xs=ys
 |_,_,_,.nil,.nil=>rfl
 |_,_,_,.cons r t,.cons r' t'=>by rw[r.inj r',Vals.inj t t']
section
theorem D7.of{K:PySem.W.Frag}(h:H a=some (.lst xs)):D7 K H a xs:=.inl (.inl h)
theorem D3.of{K:PySem.W.Frag}(h:H a=some (.tup xs)):D3 K H a xs:=.inl (.inl h)
theorem Inv.list(I:Inv X pins σ H s)(h:D7 X.K H a xs):∃A':List Value,Vals xs A'/\PlainL s.heap a A'.toArray/\xs.length<=sizeLine:=by
 rcases h with h|⟨o,A',n,hk,hc,hd,hs,hz,r⟩
 ·obtain⟨z,A',n,r,e⟩:=h.ok I.DE;exact⟨A',r,⟨_,n,e,rfl,rfl,rfl⟩,z⟩
 ·refine⟨A'.toList,r,⟨o,n,I.Jh a o hk,hc,hd,by simpa using hs⟩,?_⟩;have e:=r.length;simp only[Array.length_toList]at e;omega
theorem Inv.tuple(I:Inv X pins σ H s)(h:D3 X.K H a xs):∃A':List Value,Vals xs A'/\IsTup s.heap a A'.toArray/\xs.length<=sizeLine:=by
 rcases h with h|⟨o,A',n,hk,hc,hs,hz,r⟩
 ·obtain⟨z,A',r,p⟩:=h.ok I.DE;exact⟨A',r,p,z⟩
 ·refine⟨A'.toList,r,⟨o,I.Jh a o hk,hc,n,by simpa using hs⟩,?_⟩;have e:=r.length;simp only[Array.length_toList]at e;omega
theorem Inv.gb(I:Inv X pins σ H s)(h:D7 X.K H a xs)(h':D7 X.K H a ys):xs=ys:=by
 obtain⟨A',r,⟨o,n,e,_,_,d⟩,_⟩:=I.list h;obtain⟨its',r',⟨o',n',e',_,_,d'⟩,_⟩:=I.list h';rw[e]at e';cases e';rw[d]at d';injection d' with d1 _
 have:A'=its':=by simpa using congrArg Array.toList d1
 subst this;exact r.inj r'
theorem Inv.dG(I:Inv X pins σ H s)(h:D3 X.K H a xs)(h':D3 X.K H a ys):xs=ys:=by
 obtain⟨A',r,⟨o,e,_,n,d⟩,_⟩:=I.tuple h;obtain⟨its',r',⟨o',e',_,n',d'⟩,_⟩:=I.tuple h';rw[e]at e';cases e';rw[d]at d';injection d' with d1 _
 have:A'=its':=by simpa using congrArg Array.toList d1
 subst this;exact r.inj r'
end
abbrev Cx.kL(X:Cx)(E:Value->Shared->Prop):Cx:={X with xe:=E}
abbrev Cx.JN(X:Cx):Cx:=X.kL λ_ _=>False
theorem Cx.Ok.kL{X:Cx}(ok:X.Ok)(E:Value->Shared->Prop):(X.kL E).Ok :=
 ⟨ok.mod,ok.kind,ok.glob,ok.blt,ok.above,ok.inj,ok.has,ok.JK,ok.hd,ok.frames,ok.K3,ok.N8,ok.bs,ok.Ht,ok.Gx,ok.Ha,ok.jk,ok.Jg⟩
theorem Cx.Ok.eE{X:Cx}(ok:(X.kL E).Ok):X.Ok :=
 ⟨ok.mod,ok.kind,ok.glob,ok.blt,ok.above,ok.inj,ok.has,ok.JK,ok.hd,ok.frames,ok.K3,ok.N8,ok.bs,ok.Ht,ok.Gx,ok.Ha,ok.jk,ok.Jg⟩
section
theorem Inv.kL(I:Inv X pins σ H s)(E:Value->Shared->Prop):Inv (X.kL E) pins σ H s:=⟨I.ok.kL E,I.os,I.bare,I.base,I.loc,I.cell,I.free,I.Ef,I.pin,I.DE,I.len⟩
theorem Inv.eE(I:Inv (X.kL E) pins σ H s):Inv X pins σ H s:=⟨I.ok.eE,I.os,I.bare,I.base,I.loc,I.cell,I.free,I.Ef,I.pin,I.DE,I.len⟩
theorem SP.eE(h:SP (X.kL E) pins D f s'):SP X pins D f s':=by
 cases f with
 |next=>obtain⟨σ',H',I,q⟩:=h;exact⟨σ',H',I.eE,q⟩
 |brk=>obtain⟨σ',H',I,q⟩:=h;exact⟨σ',H',I.eE,q⟩
 |cont=>obtain⟨σ',H',I,q⟩:=h;exact⟨σ',H',I.eE,q⟩
 |ret u=>obtain⟨v,σ',H',I,r,q⟩:=h;exact⟨v,σ',H',I.eE,r,q⟩
theorem EA.JN{st:List Stmt}(h:EA X.JN st t):EA X st t:=λpins s σ H D I hw =>
 wpAny_mono (h pins s σ H D (I.kL _) hw) (λ_ _ q=>q.eE) λ_ _ z=>False.elim z
end
section
variable{X:Cx}{st:Stmt}{rest:List Stmt}{t u:TS}{e:Expr}{te:TE}{pos:Pos}
def yT:TS:=λD σ H=>D.nx σ H
def CZ(t u:TS):TS:=λD σ H=>t {D with nx:=u D} σ H
theorem w_:EA X [] yT:=λ_ _ σ H _ I h=>wpAny_execs_nil ⟨σ,H,I,h⟩
theorem uc(h1:PS X st t)(h2:EA X rest u):EA X (st::rest) (CZ t u):=by
 intro pins s σ H D I h;refine wpAny_execs_cons (DG (h1 pins s σ H {D with nx:=u D} I h) λf s1 q=>?_);cases f with
 |next =>
  obtain⟨σ',H',I',q⟩:=q;exact h2 pins s1 σ' H' D I' q
 |ret v=>exact q
 |brk=>exact q
 |cont=>exact q
def zB:TS:=λD σ H=>D.bk σ H
def Bq:TS:=λD σ H=>D.ct σ H
theorem xa:PS X (.Pass pos) yT:=λ_ _ σ H _ I h=>wpAny_Pass ⟨σ,H,I,h⟩
theorem ud:PS X (.Break pos) zB:=λ_ _ σ H _ I h=>wpAny_Break ⟨σ,H,I,h⟩
theorem nQ:PS X (.Continue pos) Bq:=λ_ _ σ H _ I h=>wpAny_Continue ⟨σ,H,I,h⟩
theorem Inv.quiet(I:Inv X pins σ H s):interactive X.env=false:=by simp[interactive,I.ok.kind]
def Br(te:TE):TS:=λD σ H=>te σ H λ_ H1=>D.nx σ H1
theorem iZ(he:PE X e te)(hs:swapsWith e none pos.line X.env=pure false:=by rfl):PS X (.Expr e pos) (Br te):=by
 intro pins s σ H D I h;exact wpAny_Expr_any (DG (he pins s σ H _ I h) λv s1 ⟨x,H1,I1,r1,q1⟩=>⟨σ,H1,I1,q1⟩) I.quiet hs
def C0(te:TE):TS:=λD σ H=>te σ H D.rt
theorem ue(he:PE X e te):PS X (.Return (some e) pos) (C0 te):=by
 intro pins s σ H D I h;exact wpAny_Return_some (DG (he pins s σ H _ I h) λv s1 ⟨x,H1,I1,r1,q1⟩=>⟨x,σ,H1,I1,r1,q1⟩)
def Bt:TS:=λD _ H=>D.rt .DF H
theorem xb:PS X (.Return none pos) Bt:=λ_ _ σ H _ I h=>wpAny_Return_none ⟨.DF,σ,H,I,rfl,h⟩
def C1(c:TT)(t u:TS):TS:=λD σ H=>c σ H λb H1=>if b=true then t D σ H1 else u D σ H1
theorem Bu(hc:PT X c tc)(ha:EA X a t)(hb:EA X b u):PS X (.If c a b pos) (C1 tc t u):=by
 intro pins s σ H D I h;refine wpAny_If (DG (hc pins s σ H _ I h) λd s1 ⟨H1,I1,q1⟩=>?_);cases d with
 |true=>exact ha pins s1 σ H1 D I1 q1
 |false=>exact hb pins s1 σ H1 D I1 q1
end
abbrev TG:=V->St->Hp->(St->Hp->Prop)->Prop
abbrev Ji:=List V->St->Hp->(St->Hp->Prop)->Prop
def PG(X:Cx)(target:Expr)(t:TG):Prop :=
 ∀(pins:List (Addr×Obj)) (s:Shared) (σ:St) (H:Hp) (v:V) (u:Value) (Q:St->Hp->Prop),Inv X pins σ H s->RelV v u->t v σ H Q ->
  wpAny (model X.prog X.w) X.A (assign target X.env u) (λ_ s'=>∃σ' H',Inv X pins σ' H' s'/\Q σ' H') X.xe s
def JO(X:Cx)(ts:List Expr)(t:Ji):Prop :=
 ∀(pins:List (Addr×Obj)) (s:Shared) (σ:St) (H:Hp) (vs:List V) (us:List Value) (Q:St->Hp->Prop),Inv X pins σ H s->Vals vs us->t vs σ H Q ->
  wpAny (model X.prog X.w) X.A (assignInOrder ((assignEach ts X.env).map (·.2)) us) (λ_ s'=>∃σ' H',Inv X pins σ' H' s'/\Q σ' H') X.xe s
abbrev zC:=V->V->V->Hp->(Hp->Prop)->Prop
def jn(X:Cx)(t:zC):Prop :=
 ∀(pins:List (Addr×Obj)) (s:Shared) (σ:St) (H:Hp) (o i v:V) (ov iv u:Value) (Q:Hp->Prop),Inv X pins σ H s->RelV o ov->RelV i iv->RelV v u->t o i v H Q ->
  wpAny (model X.prog X.w) X.A (setItem ov iv u) (λ_ s'=>∃H',Inv X pins σ H' s'/\Q H') X.xe s
abbrev L6:=V->V->Hp->VK->Prop
def K5(X:Cx)(op:Operator)(t:L6):Prop :=
 ∀(pins:List (Addr×Obj)) (s:Shared) (σ:St) (H:Hp) (x y:V) (v u:Value) (Q:VK),Inv X pins σ H s->RelV x v->RelV y u->t x y H Q ->
  wpAny (model X.prog X.w) X.A (inplaceOp op v u) (EP X pins σ Q) X.xe s
section
def qQ(i:Nat):TG:=λv σ H Q=>Q (σ.set i (some v)) H
theorem qR(hN:X.N.Nodup)(hi:X.N[i]?=some x)(hx:Loc X.env.scope x)(hf:X.fn x=true\/X.env.scope.names.lookup x=some .local:=by first|exact .inl rfl|exact .inr rfl|assumption):PG X (.Name x pos) (qQ i):=by
 intro pins s σ H v u Q I r h;exact wpAny_assign_Name (nP I hN hi hx r (λs' I'=>⟨_,H,I',h⟩) hf)
noncomputable def Bv:Ji:=λvs σ H Q=>vs=[]/\Q σ H
noncomputable def yU(t:TG)(u:Ji):Ji:=λvs σ H Q=>∃v r,vs=v::r/\t v σ H λσ' H'=>u r σ' H' Q
theorem xc:JO X [] Bv:=by
 intro pins s σ H vs us Q I r h;obtain⟨e,h⟩:=h;subst e;cases r;exact assignInOrder_nil ⟨σ,H,I,h⟩
theorem uf(h1:PG X e t)(h2:JO X es u)
  (hs:(assignEach (e::es) X.env).map (·.2)=assign e X.env::(assignEach es X.env).map (·.2):=by rfl):JO X (e::es) (yU t u):=by
 intro pins s σ H vs us Q I r h;obtain⟨v,vr,e1,h⟩:=h;subst e1;cases r with
 |cons r rr =>
  rw[hs];refine assignInOrder_cons (DG (h1 pins s σ H _ _ _ I r h) λ_ s1 ⟨σ1,H1,I1,q1⟩=>?_);exact h2 pins s1 σ1 H1 _ _ Q I1 rr q1
def C2(K:PySem.W.Frag)(n:Nat)(t:Ji):TG:=λv σ H Q=>∃a xs,v=.ref a/\D3 K H a xs/\xs.length=n/\t xs σ H Q
theorem zD(hc:X.calm=true)(h:JO X es t)
  (hn:(assignEach es X.env).length=n:=by rfl) (DJ:(assignEach es X.env).findIdx? (·.1)=none:=by rfl):PG X (.Tuple es k pos) (C2 X.K n t):=by
 intro pins s σ H v u Q I r hw;obtain⟨a,xs,e1,hq,hl,hw⟩:=hw;subst e1;cases r;obtain⟨A',rv,ht,hz⟩:=I.tuple hq;refine assign_Tuple_tuple (I.ok.hd hc) ht (by simp[hn,<-hl,rv.length]) DJ λh' hx=>?_;have I1:Inv X pins σ H {s with heap:=h' }:=I.kept (t':=s.toks) λb o e=>hx b o (Nat.ne_of_lt (Heap.lt_size e)) e;exact h pins _ σ H xs _ Q I1 (by simpa using rv) hw
def C3(to ti:TE)(t:zC):TG:=λv σ H Q=>to σ H λo H1=>ti σ H1 λi H2=>t o i v H2 λH3=>Q σ H3
theorem ug(ho:PE X o to)(hi:PE X i ti)(hs:jn X t)
  (ha:∀v,assign (.Subscript o i pos) X.env v=(do
   let ov <-holding [v] (eval o X.env)
   let iv <-holding [v,ov] (eval i X.env)
   standAt pos
   holding [v,ov,iv] (setItem ov iv v)
   release [v,ov,iv] []):=by intro _;rfl):PG X (.Subscript o i pos) (C3 to ti t):=by
 intro pins s σ H v u Q I r h;rw[ha];refine wpAny_bind (wpAny_holding (DG (ho pins s σ H _ I h) λov s1 ⟨x,H1,I1,r1,q1⟩=>?_));refine wpAny_bind (wpAny_holding (DG (hi pins s1 σ H1 _ I1 q1) λiv s2 ⟨y,H2,I2,r2,q2⟩=>?_));refine wpAny_bind (wpAny_standAt (wpAny_bind (wpAny_holding (DG (hs pins s2 σ H2 x y v ov iv u _ I2 r1 r2 r q2) λ_ s3 ⟨H3,I3,q3⟩=>?_))));exact wpAny_release ⟨σ,H3,I3,q3⟩
def zE(te:TE)(g:TG):TS:=λD σ H=>te σ H λx H1=>g x σ H1 D.nx
theorem pI(he:PE X e te)(hg:PG X tg g)(hs:swapsWithSole [tg] e pos.line X.env=pure false:=by rfl)(hw:swappedStores [tg] e X.env=pure none:=by rfl)
  (h1:(assignEach [tg] X.env).map (·.2)=[assign tg X.env]:=by rfl):PS X (.Assign [tg] e pos) (zE te g):=by
 intro pins s σ H D I h;refine wpAny_Assign_stores (DG (he pins s σ H _ I h) λv s1 ⟨x,H1,I1,r1,q1⟩=>?_) hs hw;rw[h1];exact DG (hg pins s1 σ H1 x v _ I1 r1 q1) λ_ s2 q=>q
theorem uh(hN:X.N.Nodup)(hi:X.N[i]?=some x)(hx:Loc X.env.scope x)(he:PE X e te)(hs:swapsWith e (some (.Name x pos')) pos.line X.env=pure false:=by rfl)(hf:X.fn x=true\/X.env.scope.names.lookup x=some .local:=by first|exact .inl rfl|exact .inr rfl|assumption):
  PS X (.Assign [.Name x pos'] e pos) (zE te (qQ i)):=by
 intro pins s σ H D I h;refine wpAny_Assign_Name (DG (he pins s σ H _ I h) λv s1 ⟨y,H1,I1,r1,q1⟩=>?_) hs;exact nP I1 hN hi hx r1 (λs2 I2=>⟨_,H1,I2,q1⟩) hf
def Bw(to ti te:TE)(Ih:V->V->Hp->VK->Prop)(L7:L6)(Ii:zC):TS:=λD σ H=>to σ H λo H1=>ti σ H1 λi H2=>Ih o i H2 λx H3=>te σ H3 λy H4=>L7 x y H4 λz H5=>Ii o i z H5 λH6=>D.nx σ H6
def Bx(X:Cx)(t:V->V->Hp->VK->Prop):Prop :=
 ∀(pins:List (Addr×Obj)) (s:Shared) (σ:St) (H:Hp) (o i:V) (ov iv:Value) (Q:VK),Inv X pins σ H s->RelV o ov->RelV i iv->t o i H Q ->
  wpAny (model X.prog X.w) X.A (getItem ov iv) (EP X pins σ Q) X.xe s
theorem xf(ho:PE X o to)(hi:PE X i ti)(hg:Bx X Ih)(he:PE X e te)(hp:K5 X op L7)(hs:jn X Ii)
  (ha:∀ov iv new,augStore i ov iv new=(do holding [new,ov,iv] (setItem ov iv new);release [new,ov,iv] [];pure .next):=by intros;rfl):PS X (.AugAssign (.Subscript o i PX) op e pos) (Bw to ti te Ih L7 Ii):=by
 intro pins s σ H D I h;refine wpAny_AugAssign_SubscriptAny (DG (ho pins s σ H _ I h) λov s1 ⟨x1,H1,I1,r1,q1⟩=>?_) ha;refine DG (hi pins s1 σ H1 _ I1 q1) λiv s2 ⟨x2,H2,I2,r2,q2⟩=>?_;refine DG (hg pins s2 σ H2 x1 x2 ov iv _ I2 r1 r2 q2) λold s3 ⟨x3,H3,I3,r3,q3⟩=>?_;refine DG (he pins s3 σ H3 _ I3 q3) λv s4 ⟨x4,H4,I4,r4,q4⟩=>?_;refine DG (hp pins s4 σ H4 x3 x4 old v _ I4 r3 r4 q4) λnew s5 ⟨x5,H5,I5,r5,q5⟩=>?_;exact DG (hs pins s5 σ H5 x1 x2 x5 ov iv new _ I5 r1 r2 r5 q5) λ_ s6 ⟨H6,I6,q6⟩=>⟨σ,H6,I6,q6⟩
noncomputable def L8(f:Int->Int->Int):L6:=λx y H Q=>∃i j,x=.int i/\y=.int j/\Q (.int (f i j)) H
theorem zF:K5 X .Add (L8 λi j=>i+j):=by
 intro pins s σ H x y v u Q I r1 r2 h;obtain⟨i,j,e1,e2,q⟩:=h;subst e1;subst e2;obtain⟨t,rfl⟩:=r1;obtain⟨t',rfl⟩:=r2;exact iadd_int ⟨.int _,H,I.tok _,⟨_,rfl⟩,q⟩
theorem zG:K5 X .Sub (L8 λi j=>i - j):=by
 intro pins s σ H x y v u Q I r1 r2 h;obtain⟨i,j,e1,e2,q⟩:=h;subst e1;subst e2;obtain⟨t,rfl⟩:=r1;obtain⟨t',rfl⟩:=r2;exact isub_int ⟨.int _,H,I.tok _,⟨_,rfl⟩,q⟩
end
section
def zH(c:TT)(tb:TS):TS:=λD σ H=>∃W:Nat->St->Hp->Prop,(∃m,W m σ H)/\∀m σ H,W m σ H ->
 c σ H λb H1=>if b=true then ∃N:St->Hp->Prop,(∀σ' H',N σ' H'->∃m',m'<m/\W m' σ' H')/\tb {D with nx:=N,ct:=N,bk:=D.nx} σ H1 else D.nx σ H1
theorem ui(hp:PassesOwn (model X.prog X.w) X.A X.env X.xe)(hc:PT X c tc)(hb:EA X body tb):PS X (.While c body [] pos) (zH tc tb):=by
 intro pins s σ H D I h;obtain⟨W,⟨m0,w0⟩,turn⟩:=h;refine wpAny_While (codeAny_whileLoop (λn s'=>∃σ' H',Inv X pins σ' H' s'/\W n σ' H') ?_ m0 ⟨σ,H,I,w0⟩);rintro n s1 ⟨σ1,H1,I1,w1⟩;refine wpAny_passesOwn hp (DG (hc pins s1 σ1 H1 _ I1 (turn n σ1 H1 w1)) λb s2 ⟨H2,I2,q2⟩=>?_);cases b with
 |true =>
  obtain⟨N,hN,q2⟩:=q2;rw[if_pos rfl];refine wpAny_passesOwn hp (DG (hb pins s2 σ1 H2 _ I2 q2) λf s3 q3=>?_);cases f with
  |next =>
   obtain⟨σ3,H3,I3,n3⟩:=q3;obtain⟨m',hm,w3⟩:=hN σ3 H3 n3;exact⟨m',hm,σ3,H3,I3,w3⟩
  |cont =>
   obtain⟨σ3,H3,I3,n3⟩:=q3;obtain⟨m',hm,w3⟩:=hN σ3 H3 n3;exact⟨m',hm,σ3,H3,I3,w3⟩
  |brk=>exact q3
  |ret v=>exact q3
 |false =>
  rw[if_neg Bool.false_ne_true];exact wpAny_execs_nil ⟨σ1,H2,I2,q2⟩
end
structure It where
 go:Nat->Hp->Prop
 K6:Nat->Hp->V->Hp->Prop
 stop:Nat->Hp->Prop
def gf(X:Cx)(pins:List (Addr×Obj))(H:Hp)(b:Addr):Prop :=
 H b=none/\b≠X.env.locals/\b∉X.fs/\(b∈X.ex\/X.s₀.heap.objs.size<=b)/\(∀x c,X.env.cells.lookup x=some c->c≠b)/\∀p∈X.pn++pins,p.1≠b
theorem Inv.sv(I:Inv X pins σ H s)(hb:s.heap.objs.size<=b)(hn:H' b=none):gf X pins H' b:=by
 refine⟨hn,Nat.ne_of_gt (Nat.lt_of_lt_of_le I.lt hb),I.zu hb,.inr (Nat.le_trans I.sz hb),λx c e z=>?_,λp hp z=>?_⟩
 ·obtain⟨v,q⟩:=I.cell x c e;exact absurd (Nat.lt_of_lt_of_le q.lt (by rw[z];exact hb)) (Nat.lt_irrefl _)
 ·exact absurd (Nat.lt_of_lt_of_le (Heap.lt_size (I.pin p hp).1) (by rw[z];exact hb)) (Nat.lt_irrefl _)
structure Turn(P:Program)(w:World)(K:PySem.W.Frag)(tg:Expr)(J:It)(fp:List Addr)(it:Addr)(tn:Nat->Heap->Prop):Prop where
 mem:it∈fp
 obj:∀i h,tn i h->∀b∈fp,∃o,h.get? b=some o/\∀v,o.data≠.cell v
 keep:∀i h h',tn i h->(∀b∈fp,∀o,h.get? b=some o->h'.get? b=some o)->tn i h'
 item:∀(X:Cx),X.prog=P->X.w=w->X.K=K->X.calm=true->∀(i:Nat) (pins:List (Addr×Obj)) (s:Shared) (σ:St) (H:Hp) (E:Value->Shared->Prop),Inv X pins σ H s->(∀b∈fp,gf X pins H b)->tn i s.heap->J.go i H ->
  wpAny (model P w) X.A (pyNext (.ref it)) (λr s1=>∃u,r=some u /\
   wpAny (model P w) X.A (letOwnedTupleGo tg (.ref it) u) (λ_ s2=>∃x H',Inv X pins σ H' s2/\RelV x u/\J.K6 i H x H'/\tn (i+1) s2.heap/\∀b∈fp,H' b=none) E s1) E s
 done:∀(X:Cx),X.prog=P->X.w=w->X.K=K->X.calm=true->∀(i:Nat) (pins:List (Addr×Obj)) (s:Shared) (σ:St) (H:Hp) (E:Value->Shared->Prop),Inv X pins σ H s->(∀b∈fp,gf X pins H b)->tn i s.heap->J.stop i H ->
  wpAny (model P w) X.A (pyNext (.ref it)) (λr s1=>r=none/\Inv X pins σ H s1) E s
 self:∀(A:Around) (i:Nat) (s:Shared) (Q:Value->Shared->Prop) (E:Value->Shared->Prop),tn i s.heap->Q (.ref it) s->wpAny (model P w) A (pyIter (.ref it)) Q E s
abbrev TI:=St->Hp->(It->Hp->Prop)->Prop
def Oe(X:Cx)(pins:List (Addr×Obj))(σ:St)(tg:Expr)(R:It->Hp->Prop)(K7:Value)(s2:Shared):Prop :=
 ∃(it:Addr) (fp:List Addr) (tn:Nat->Heap->Prop) (J:It) (H':Hp),K7=.ref it/\Inv X pins σ H' s2/\Turn X.prog X.w X.K tg J fp it tn/\tn 0 s2.heap/\(∀b∈fp,gf X pins H' b)/\R J H'
def PI(X:Cx)(tg iter:Expr)(wi:TI):Prop :=
 ∀(pins:List (Addr×Obj)) (s:Shared) (σ:St) (H:Hp) (R:It->Hp->Prop),Inv X pins σ H s->wi σ H R ->
  wpAny (model X.prog X.w) X.A (eval iter X.env) (λv s1=>wpAny (model X.prog X.w) X.A (pyIter v) (Oe X pins σ tg R) X.xe s1) X.xe s
theorem uj(ho:s.heap.get? it=some o)(hc:o.cls=.type n)(hd:o.data=.fields vs)
    (hn:["enumerate","zip","dict_itemiterator","dict_reverseitemiterator","odict_iterator","itertools.zip_longest","itertools.pairwise"].contains n=false) (hQ:Q () s):wpAny M A (letOwnedTupleGo tg (.ref it) u) Q E s:=by
  unfold letOwnedTupleGo;cases tg<;>first
    | exact wpAny_pure hQ
    | (cases u<;>first
        | exact wpAny_pure hQ
        | (refine wpAny_bind (wpAny_load ho ?_)
           rw[hc,hd];show wpAny M A (if (["enumerate","zip","dict_itemiterator","dict_reverseitemiterator","odict_iterator","itertools.zip_longest","itertools.pairwise"].contains n&&vs[0]?==some (rawInt _))=true then _ else _) Q E s;rw[if_neg (by intro h;rw[hn,Bool.false_and]at h;cases h)];exact wpAny_pure hQ))
noncomputable def L9(K:PySem.W.Frag)(a:Addr):It :=
 ⟨λi H=>∃xs x,D7 K H a xs/\xs[i]?=some x,λi H x H'=>H'=H/\∀xs,D7 K H a xs->xs[i]?=some x,λi H=>∃xs,D7 K H a xs/\xs.length<=i⟩
noncomputable def L_(K:PySem.W.Frag)(a:Addr):It :=
 ⟨λi H=>∃xs x,D3 K H a xs/\xs[i]?=some x,λi H x H'=>H'=H/\∀xs,D3 K H a xs->xs[i]?=some x,λi H=>∃xs,D3 K H a xs/\xs.length<=i⟩
noncomputable def K8(lo:Int)(n:Nat):It:=⟨λi _=>i<n,λi H x H'=>H'=H/\x=.int (lo+i),λi _=>n<=i⟩
theorem sx{K:PySem.W.Frag}(a it:Addr):Turn P w K tg (L9 K a) [it] it (λi h=>h.IsListIter it a i) where
 mem:=by simp
 obj:=λi h st b hb=>by
  have e:b=it:=by simpa using hb
  subst e;obtain⟨o,e,c,d⟩:=st;exact⟨o,e,λv z=>by rw[d]at z;cases z⟩
 keep:=λi h h' st k=>st.at λo e=>k it (by simp) o e
 item:=by
  intro X hP hw hK hc i pins s σ H E I hf st hg;subst hP hw hK;obtain⟨xs,x,hq,hx⟩:=hg;obtain⟨A',rv,p,hz⟩:=I.list hq;obtain⟨u,hu,ru⟩:=rv.get hx;obtain⟨f0,f1,f2,f3,f4,f5⟩:=hf it (by simp);refine wpAny_pyNext_list_item st p.isList (x:=u) (by simpa using hu) λh' st' sb=>?_;have I1:Inv X pins σ H {s with heap:=h' }:=I.turned (t':=s.toks) (λb o hb e=>(sb.2 b hb).trans e) f0 f1 f3 f4 f5;obtain⟨o,e,c,d⟩:=id st';exact⟨u,rfl,uj (s:={s with heap:=h' }) e c d (by decide) ⟨x,H,I1,ru,⟨rfl,λys hy=>by rw[I.gb hy hq];exact hx⟩,st',λb hb=>(hf b hb).1⟩⟩
 done:=by
  intro X hP hw hK hc i pins s σ H E I hf st hg;subst hP hw hK;obtain⟨xs,hq,hx⟩:=hg;obtain⟨A',rv,p,hz⟩:=I.list hq;obtain⟨f0,f1,f2,f3,f4,f5⟩:=hf it (by simp);have hl:=rv.length;exact wpAny_pyNext_list_end (I.ok.hd hc) st p.isList (by simp;omega) λh' eb=>⟨rfl,I.turned (t':=s.toks) (λb o hb e=>eb b o hb e) f0 f1 f3 f4 f5⟩
 self:=λ_ _ _ _ _ st h=>wpAny_pyIter_listiter st h
theorem pJ{K:PySem.W.Frag}(a it:Addr):Turn P w K tg (L_ K a) [it] it (λi h=>h.IsTupleIter it a i) where
 mem:=by simp
 obj:=λi h st b hb=>by
  have e:b=it:=by simpa using hb
  subst e;obtain⟨o,e,c,d⟩:=st;exact⟨o,e,λv z=>by rw[d]at z;cases z⟩
 keep:=λi h h' st k=>st.at λo e=>k it (by simp) o e
 item:=by
  intro X hP hw hK hc i pins s σ H E I hf st hg;subst hP hw hK;obtain⟨xs,x,hq,hx⟩:=hg;obtain⟨A',rv,p,hz⟩:=I.tuple hq;obtain⟨u,hu,ru⟩:=rv.get hx;obtain⟨f0,f1,f2,f3,f4,f5⟩:=hf it (by simp);refine wpAny_pyNext_tuple_item st (show s.heap.IsTuple a A'.toArray from p) (x:=u) (by simpa using hu) λh' st' sb=>?_;have I1:Inv X pins σ H {s with heap:=h' }:=I.turned (t':=s.toks) (λb o hb e=>(sb.2 b hb).trans e) f0 f1 f3 f4 f5;obtain⟨o,e,c,d⟩:=id st';exact⟨u,rfl,uj (s:={s with heap:=h' }) e c d (by decide) ⟨x,H,I1,ru,⟨rfl,λys hy=>by rw[I.dG hy hq];exact hx⟩,st',λb hb=>(hf b hb).1⟩⟩
 done:=by
  intro X hP hw hK hc i pins s σ H E I hf st hg;subst hP hw hK;obtain⟨xs,hq,hx⟩:=hg;obtain⟨A',rv,p,hz⟩:=I.tuple hq;obtain⟨f0,f1,f2,f3,f4,f5⟩:=hf it (by simp);have hl:=rv.length;exact wpAny_pyNext_tuple_end (I.ok.hd hc) st (show s.heap.IsTuple a A'.toArray from p) (by simp;omega) λh' eb=>⟨rfl,I.turned (t':=s.toks) (λb o hb e=>eb b o hb e) f0 f1 f3 f4 f5⟩
 self:=λ_ _ _ _ _ st h=>wpAny_pyIter_tupleiter st h
theorem pK{K:PySem.W.Frag}(it:Addr)(lo:Int)(n:Nat):Turn P w K tg (K8 lo n) [it] it (λi h=>IsRangeIter h it (lo+(i:Nat) * 1) ((n:Int) - (i:Nat)) 1) where
 mem:=by simp
 obj:=λi h st b hb=>by
  have e:b=it:=by simpa using hb
  subst e;exact⟨_,st,λv z=>by
   have z':Data.fields _=Data.cell v:=z;cases z'⟩
 keep:=λi h h' st k=>k it (by simp) _ st
 item:=by
  intro X hP hw hK hc i pins s σ H E I hf st hg;subst hP hw hK;obtain⟨f0,f1,f2,f3,f4,f5⟩:=hf it (by simp);have W:=Walks.range (prog:=X.prog) (w:=X.w) (I.ok.hd hc) it lo 1 n;refine W.item i s _ _ hg st λv h' tk hv st' kk=>?_;obtain⟨t,rfl⟩:=hv;have I1:Inv X pins σ H {s with heap:=h',toks:=tk}:=I.turned (λb o hb e=>kk b o (by simpa using hb) e) f0 f1 f3 f4 f5;refine⟨_,rfl,uj (s:={s with heap:=h',toks:=tk}) (n:="range_iterator") st' rfl rfl (by decide) ⟨.int (lo+i),H,I1,⟨t,?_⟩,⟨rfl,rfl⟩,st',λb hb=>(hf b hb).1⟩⟩;rw[Int.mul_one]
 done:=by
  intro X hP hw hK hc i pins s σ H E I hf st hg;subst hP hw hK;obtain⟨f0,f1,f2,f3,f4,f5⟩:=hf it (by simp);exact wpAny_pyNext_range_end (I.ok.hd hc) st (by have:n<=i:=hg;omega) λh' eb=>⟨rfl,I.turned (t':=s.toks) (λb o hb e=>eb b o hb e) f0 f1 f3 f4 f5⟩
 self:=λ_ _ _ _ _ st h=>wpAny_pyIter_rangeiter st h
section
def By(K:PySem.W.Frag)(tl:TE):TI:=λσ H R=>tl σ H λx H1=>∃a,x=.ref a/\(∃xs,D7 K H1 a xs)/\R (L9 K a) H1
def C4(K:PySem.W.Frag)(tl:TE):TI:=λσ H R=>tl σ H λx H1=>∃a,x=.ref a/\(∃xs,D3 K H1 a xs)/\R (L_ K a) H1
theorem xg(hl:PE X l tl):PI X tg l (By X.K tl):=by
 intro pins s σ H R I h;refine DG (hl pins s σ H _ I h) λv s1 ⟨x,H1,I1,r1,q1⟩=>?_;obtain⟨a,e,⟨xs,hq⟩,q⟩:=q1;subst e;cases r1;obtain⟨A',rv,p,hz⟩:=I1.list hq;refine wpAny_pyIter_list p.isList ?_;refine⟨s1.heap.objs.size,[s1.heap.objs.size],_,_,H1,rfl,I1.kept (t':=s1.toks) λb o e=>Heap.get?_push_of_some _ e,sx a _,⟨_,Heap.get?_push_size _ rfl,rfl,rfl⟩,λb hb=>?_,q⟩;have e:b=s1.heap.objs.size:=by simpa using hb
 subst e;exact I1.sv (Nat.le_refl _) (I1.DE.fresh (Nat.le_refl _))
theorem zI(hl:PE X l tl):PI X tg l (C4 X.K tl):=by
 intro pins s σ H R I h;refine DG (hl pins s σ H _ I h) λv s1 ⟨x,H1,I1,r1,q1⟩=>?_;obtain⟨a,e,⟨xs,hq⟩,q⟩:=q1;subst e;cases r1;obtain⟨A',rv,p,hz⟩:=I1.tuple hq;refine wpAny_pyIter_tuple (show s1.heap.IsTuple a A'.toArray from p) ?_;refine⟨s1.heap.objs.size,[s1.heap.objs.size],_,_,H1,rfl,I1.kept (t':=s1.toks) λb o e=>Heap.get?_push_of_some _ e,pJ a _,⟨_,Heap.get?_push_size _ rfl,rfl,rfl⟩,λb hb=>?_,q⟩;have e:b=s1.heap.objs.size:=by simpa using hb
 subst e;exact I1.sv (Nat.le_refl _) (I1.DE.fresh (Nat.le_refl _))
theorem um{lo hi:Int}(I:Inv X pins σ H s)(h1:-(2 ^ 62)<=lo)(h2:lo<2 ^ 62)(h3:-(2 ^ 62)<=hi)(h4:hi<2 ^ 62)
  (q:R (K8 lo (hi - lo).toNat) H):wpAny (model X.prog X.w) X.A (pyIter (.ref s.heap.objs.size)) (Oe X pins σ tg R) E {s with heap:=s.heap.push {cls:=.type "range",data:=.fields #[.int lo t,.int hi u,.int 1 v]},toks:=tk}:=by
 refine wpAny_pyIter_range (IsRange.new ..) (small_one h1 h2 h3 h4) ?_;have I1:Inv X pins σ H {s with heap:=s.heap.push {cls:=.type "range",data:=.fields #[.int lo t,.int hi u,.int 1 v]},toks:=tk}:=I.kept λb o e=>Heap.get?_push_of_some _ e;refine⟨(s.heap.push {cls:=.type "range",data:=.fields #[.int lo t,.int hi u,.int 1 v]}).objs.size,[(s.heap.push {cls:=.type "range",data:=.fields #[.int lo t,.int hi u,.int 1 v]}).objs.size],_,_,H,rfl,
  I1.kept (t':=tk) λb o e=>Heap.get?_push_of_some _ e,pK _ lo (hi - lo).toNat,?_,λb hb=>?_,q⟩
 ·have e1:lo+((0:Nat):Int) * 1=lo:=by simp
  have e2:(((hi - lo).toNat:Nat):Int) - ((0:Nat):Int)=Builtin.Range.rangeSize lo hi 1:=by rw[rangeSize_one];split<;>omega
  show IsRangeIter _ _ (lo+((0:Nat):Int) * 1) ((((hi - lo).toNat:Nat):Int) - ((0:Nat):Int)) 1;rw[e1,e2];exact Heap.get?_push_size _ rfl
 ·have e:b=(s.heap.push {cls:=.type "range",data:=.fields #[.int lo t,.int hi u,.int 1 v]}).objs.size:=by simpa using hb
  subst e;exact I1.sv (Nat.le_refl _) (I1.DE.fresh (Nat.le_refl _))
def Bz(ta:TA):TI:=λσ H R=>ta σ H λvs H1=>∃j:Int,vs=[.int j]/\-(2 ^ 62)<=j/\j<2 ^ 62/\R (K8 0 j.toNat) H1
theorem sy(hg:Gl X "range")(hm:X.mg "range"=none)(ha:PA X [a] ta)(hs:starEach [a] X.env=[(false,eval a X.env)]:=by rfl):PI X tg (.Call (.Name "range" p) [a] [] pos) (Bz ta):=by
 intro pins s σ H R I h;refine Call_ (cF I hg hm boot_range (PyProof.Rows.callWith_type1 (DG (ha pos pins s σ H _ I h) λus s1 ⟨vs,H1,I1,r1,q1⟩=>?_) hs rfl));obtain⟨j,e,q1,q2,q⟩:=q1;subst e;cases r1 with
 |cons r rr =>
  cases rr;obtain⟨t,rfl⟩:=r;exact call_range_1 (um I1 (by omega) (by omega) q1 q2 (by simpa using q))
def C5(wi:TI)(g:TG)(tb:TS):TS:=λD σ H=>wi σ H λJ H1=>∃W:Nat->Nat->St->Hp->Prop,(∃m,W 0 m σ H1)/\∀i m σ H,W i m σ H ->
 (J.stop i H/\D.nx σ H)\/(J.go i H/\∃N:St->Hp->Prop,(∀σ' H',N σ' H'->∃m',m'<m/\W (i+1) m' σ' H')/\∀x H',J.K6 i H x H'->g x σ H' λσ2 H2=>tb {D with nx:=N,ct:=N,bk:=D.nx} σ2 H2)
noncomputable def jo(fp:List Addr)(h:Heap):List (Addr×Obj):=fp.filterMap λb=>(h.get? b).map λo=>(b,o)
theorem dR(hb:b∈fp)(e:h.get? b=some o):(b,o)∈jo fp h:=List.mem_filterMap.mpr ⟨b,hb,by rw[e];rfl⟩
theorem sA(hp:p∈jo fp h):p.1∈fp/\h.get? p.1=some p.2:=by
 obtain⟨b,hb,e⟩:=List.mem_filterMap.mp hp;cases q:h.get? b with
 |none=>rw[q]at e;cases e
 |some o =>
  rw[q]at e;have e':(b,o)=p:=Option.some.inj e;subst e';exact⟨hb,q⟩
theorem Inv.pinned(I:Inv X pins σ H s)(hf:∀b∈fp,gf X pins H b)(ho:∀b∈fp,∃o,s.heap.get? b=some o/\∀v,o.data≠.cell v):Inv X (pins++jo fp s.heap) σ H s :=
 I.dr λp hp=>(List.mem_append.mp hp).elim (λz=>I.pin p (List.mem_append_right _ z)) λz=>by
  obtain⟨hb,e⟩:=sA z;obtain⟨f0,f1,f2,_⟩:=hf p.1 hb;obtain⟨o,e',d⟩:=ho p.1 hb;rw[e]at e';cases e';exact⟨e,f0,f1,f2,d⟩
theorem Inv.jq(I:Inv X (pins++pl) σ H s):Inv X pins σ H s:=I.dr λp hp=>I.pin p (List.mem_append_right _ (List.mem_append_left _ hp))
theorem zJ(hp:PassesOwn (model X.prog X.w) X.A X.env X.xe)(hc:X.calm=true)(hi:PI X tg iter wi)(hg:PG X tg g)(hb:EA X body tb)
  (hs:∀x,foldedSetIterable iter X.env x=pure x:=by intro _;rfl):PS X (.For tg iter body [] pos) (C5 wi g tb):=by
 intro pins s σ H D I h;refine wpAny_For (DG (hi pins s σ H _ I h) λv s1 h1=>DG h1 λK7 s2 h2=>?_) hs;obtain⟨it,fp,tn,J,H2,e,I2,T,st2,f2,W,⟨m0,w0⟩,turn⟩:=h2;subst e;have Ij:∀{H':Hp},(∀b∈fp,H' b=none)->∀b∈fp,gf X pins H' b:=λhn b hb=>⟨hn b hb,(f2 b hb).2⟩
 refine codeAny_forLoop_any (λn s'=>∃i σ' H',Inv X pins σ' H' s'/\tn i s'.heap/\(∀b∈fp,H' b=none)/\W i n σ' H') ?_ m0 ⟨0,σ,H2,I2,st2,λb hb=>(f2 b hb).1,w0⟩;rintro n s3 ⟨i,σ3,H3,I3,st3,JP,w3⟩;rcases turn i n σ3 H3 w3 with⟨stop,qn⟩|⟨go,N,hN,step⟩
 ·refine wpAny_passesOwn hp (DG (T.done X rfl rfl rfl hc i pins s3 σ3 H3 X.xe I3 (Ij JP) st3 stop) λr s4 ⟨hr,I4⟩=>?_);subst hr;exact wpAny_execs_nil ⟨σ3,H3,I4,qn⟩
 ·refine wpAny_passesOwn hp (DG (T.item X rfl rfl rfl hc i pins s3 σ3 H3 X.xe I3 (Ij JP) st3 go) λr s4 ⟨u,hr,h4⟩=>?_);subst hr;refine wpAny_passesOwn hp (DG h4 λ_ s5 ⟨x,H5,I5,r5,y5,Gi,Ma⟩=>?_);have Mb:=I5.pinned (Ij Ma) (T.obj _ _ Gi);refine wpAny_passesOwn hp (DG (hg _ s5 σ3 H5 x u _ Mb r5 (step x H5 y5)) λ_ s6 ⟨σ6,H6,I6,q6⟩=>?_);refine wpAny_passesOwn hp (DG (hb _ s6 σ6 H6 _ I6 q6) λf s7 q7=>?_);have again:∀{σ7:St} {H7:Hp},Inv X (pins++jo fp s5.heap) σ7 H7 s7->N σ7 H7->∃m,m<n/\∃i σ' H',Inv X pins σ' H' s7/\tn i s7.heap/\(∀b∈fp,H' b=none)/\W i m σ' H':=λ{σ7 H7} I7 n7=>by
   obtain⟨m',hm,w7⟩:=hN σ7 H7 n7;refine⟨m',hm,i+1,σ7,H7,I7.jq,T.keep _ _ _ Gi λb hb o e=>(I7.pin (b,o) (List.mem_append_right _ (List.mem_append_right _ (dR hb e)))).1,λb hb=>?_,w7⟩;obtain⟨o,e,d⟩:=T.obj _ _ Gi b hb;exact(I7.pin (b,o) (List.mem_append_right _ (List.mem_append_right _ (dR hb e)))).2.1
  cases f with
  |next=>obtain⟨σ7,H7,I7,n7⟩:=q7;exact again I7 n7
  |cont=>obtain⟨σ7,H7,I7,n7⟩:=q7;exact again I7 n7
  |brk=>obtain⟨σ7,H7,I7,q7⟩:=q7;exact⟨σ7,H7,I7.jq,q7⟩
  |ret v=>obtain⟨x7,σ7,H7,I7,r7,q7⟩:=q7;exact⟨x7,σ7,H7,I7.jq,r7,q7⟩
end
abbrev R2:=V->V->Hp->VK->Prop
def Fo(X:Cx)(f:Value->Value->Sem Value)(r:R2):Prop :=
 ∀(pins:List (Addr×Obj)) (s:Shared) (σ:St) (H:Hp) (x y:V) (v u:Value) (Q:VK),Inv X pins σ H s->RelV x v->RelV y u->r x y H Q ->
  wpAny (model X.prog X.w) X.A (f v u) (EP X pins σ Q) X.xe s
def Mc(X:Cx)(f:Value->Sem Value)(r:V->Hp->VK->Prop):Prop :=
 ∀(pins:List (Addr×Obj)) (s:Shared) (σ:St) (H:Hp) (x:V) (v:Value) (Q:VK),Inv X pins σ H s->RelV x v->r x H Q ->
  wpAny (model X.prog X.w) X.A (f v) (EP X pins σ Q) X.xe s
def iA(X:Cx)(f:Value)(r:List V->Hp->VK->Prop):Prop :=
 ∀(pins:List (Addr×Obj)) (s:Shared) (σ:St) (H:Hp) (xs:List V) (us:List Value) (Q:VK),Inv X pins σ H s->Vals xs us->r xs H Q ->
  wpAny (model X.prog X.w) X.A (call f us) (EP X pins σ Q) X.xe s
def C6(X:Cx)(r:V->Hp->(Bool->Hp->Prop)->Prop):Prop :=
 ∀(pins:List (Addr×Obj)) (s:Shared) (σ:St) (H:Hp) (x:V) (v:Value) (Q:Bool->Hp->Prop),Inv X pins σ H s->RelV x v->r x H Q ->
  wpAny (model X.prog X.w) X.A (truthy v) (TP X pins σ Q) X.xe s
def PY(r:V->Hp->VK->Prop)(ta:TE):TE:=λσ H Q=>ta σ H λx H1=>r x H1 Q
noncomputable def rI(C:Int->Int->Prop)(g:Int->Int->V):R2:=λx y H Q=>∃i j,x=.int i/\y=.int j/\C i j/\Q (g i j) H
noncomputable def Il(g:Int->Int->V):R2:=λx y H Q=>∃i j,x=.int i/\y=.int j/\Q (g i j) H
def rU(g:Int->V):V->Hp->VK->Prop:=λx H Q=>∃i,x=.int i/\Q (g i) H
section
theorem BA(ho:Mc X (unaryOp op) r)(ha:PE X a ta):PE X (.UnaryOp op a pos) (PY r ta):=by
 intro pins s σ H Q I h;exact UnaryOp_ (DG (ha pins s σ H _ I h) λv s1 ⟨x,H1,I1,r1,q1⟩=>ho pins s1 σ H1 x v Q I1 r1 q1)
theorem K9{g:Int->Int->Int}
  (rule:∀(i j:Int) (t u:Tok) (s:Shared) (Q:Value->Shared->Prop) (E:Value->Shared->Prop),C i j->Q (.int (g i j) s.toks) {s with toks:=s.toks+1}->wpAny (model X.prog X.w) X.A (f (.int i t) (.int j u)) Q E s) :
  Fo X f (rI C λi j=>.int (g i j)):=by
 intro pins s σ H x y v u Q I rx ry h;obtain⟨i,j,rfl,rfl,hc,q⟩:=h;obtain⟨t,rfl⟩:=rx;obtain⟨t',rfl⟩:=ry;exact rule i j t t' s _ _ hc ⟨.int (g i j),H,I.tok _,⟨_,rfl⟩,q⟩
theorem BB{g:Int->Int->Int}
  (rule:∀(i j:Int) (t u:Tok) (s:Shared) (Q:Value->Shared->Prop) (E:Value->Shared->Prop),Q (.int (g i j) s.toks) {s with toks:=s.toks+1}->wpAny (model X.prog X.w) X.A (f (.int i t) (.int j u)) Q E s) :
  Fo X f (Il λi j=>.int (g i j)):=by
 intro pins s σ H x y v u Q I rx ry h;obtain⟨i,j,rfl,rfl,q⟩:=h;obtain⟨t,rfl⟩:=rx;obtain⟨t',rfl⟩:=ry;exact rule i j t t' s _ _ ⟨.int (g i j),H,I.tok _,⟨_,rfl⟩,q⟩
theorem zK{g:Int->Int->Bool}
  (rule:∀(i j:Int) (t u:Tok) (s:Shared) (Q:Value->Shared->Prop) (E:Value->Shared->Prop),Q (.bool (g i j)) s->wpAny (model X.prog X.w) X.A (f (.int i t) (.int j u)) Q E s) :
  Fo X f (Il λi j=>.bl (g i j)):=by
 intro pins s σ H x y v u Q I rx ry h;obtain⟨i,j,rfl,rfl,q⟩:=h;obtain⟨t,rfl⟩:=rx;obtain⟨t',rfl⟩:=ry;exact rule i j t t' s _ _ ⟨.bl (g i j),H,I,rfl,q⟩
def C7(i j:Int):Prop:=0<j/\j<1073741824
def C8(i j:Int):Prop:=0<=j/\j<=1000000/\i.natAbs<2 ^ 64
def zL(i j:Int):Prop:=(-(2 ^ 64)<i/\i<2 ^ 64)\/(-(2 ^ 64)<j/\j<2 ^ 64)
theorem zL.ok(h:zL i j):IntMulOk i j:=by
 rcases h with⟨h1,h2⟩|⟨h1,h2⟩
 ·exact .of_left (intBits_le_64 h1 h2)
 ·exact .of_right (intBits_le_64 h1 h2)
theorem jr:Fo X (binaryOp .Add) (Il λi j=>.int (i+j)):=BB λ_ _ _ _ _ _ _ q=>add_int q
theorem pL:Fo X (binaryOp .Sub) (Il λi j=>.int (i - j)):=BB λ_ _ _ _ _ _ _ q=>sub_int q
theorem mf:Fo X (binaryOp .Mult) (rI zL λi j=>.int (i * j)):=K9 λ_ _ _ _ _ _ _ hc q=>mul_int q hc.ok
theorem xh:Fo X (binaryOp .FloorDiv) (rI C7 λi j=>.int (i / j)):=K9 λi j _ _ _ _ _ hc q=>by
 have h1:(0:Int)<j:=hc.1;have h2:j<1073741824:=hc.2;exact floordiv_int (by omega) (by rw[Int.fdiv_eq_ediv_of_nonneg i (by omega)];exact q) (.inl (PyProof.noPylong_small (by omega)))
theorem cU:Fo X (binaryOp .Mod) (rI (λ_ j=>0<j) λi j=>.int (i % j)):=K9 λi j _ _ _ _ _ hc q=>by
 have h1:(0:Int)<j:=hc;exact mod_int' (by omega) (by rw[Int.fmod_eq_emod_of_nonneg i (by omega)];exact q)
theorem mj:Fo X (binaryOp .Pow) (rI C8 λi j=>.int (i ^ j.toNat)):=K9 λ_ _ _ _ _ _ _ hc q=>pow_int_small hc.1 hc.2.1 hc.2.2 q
theorem PZ{g:Int->Int}
  (rule:∀(i:Int) (t:Tok) (s:Shared) (Q:Value->Shared->Prop) (E:Value->Shared->Prop),Q (.int (g i) s.toks) {s with toks:=s.toks+1}->wpAny (model X.prog X.w) X.A (f (.int i t)) Q E s) :
  Mc X f (rU λi=>.int (g i)):=by
 intro pins s σ H x v Q I rx h;obtain⟨i,rfl,q⟩:=h;obtain⟨t,rfl⟩:=rx;exact rule i t s _ _ ⟨.int (g i),H,I.tok _,⟨_,rfl⟩,q⟩
theorem zM:Mc X (unaryOp .USub) (rU λi=>.int (-i)):=PZ λ_ _ _ _ _ q=>neg_int q
end
section
theorem BC:Fo X (compareOp .Lt) (Il λi j=>.bl (decide (i<j))):=zK λ_ _ _ _ _ _ _ q=>lt_int q
theorem BD:Fo X (compareOp .Gt) (Il λi j=>.bl (decide (j<i))):=zK λ_ _ _ _ _ _ _ q=>gt_int q
theorem BE:Fo X (compareOp .GtE) (Il λi j=>.bl (decide (j<=i))):=zK λ_ _ _ _ _ _ _ q=>ge_int q
def BF(K:PySem.W.Frag)(x:V)(H:Hp)(k:Bool):Prop :=
 match x with
 |.DF=>k=false
 |.bl b=>k=b
 |.int i=>k=(i != 0)
 |.str y=>y.length<=sizeLine/\k=((y.length:Int) != 0)
 |.JG y=>y.size<=sizeLine/\k=((y.size:Int) != 0)
 |.ref p=>(∃xs,D7 K H p xs/\k=!xs.isEmpty)\/(∃xs,D3 K H p xs/\k=!xs.isEmpty)\/∃kvs,H p=some (.dK kvs)/\k=!kvs.isEmpty
 |_=>False
theorem pM(r:KV kvs vs):(!vs.isEmpty)=!kvs.isEmpty:=by
 cases r<;>rfl
theorem js(r:Vals xs A'):(!A'.toArray.isEmpty)=!xs.isEmpty:=by
 cases r<;>simp
theorem eF:(sizeLine:Nat)<2 ^ 63:=by rw[sizeLine_eq];decide
theorem zN:C6 X (λx H Q=>∃k,BF X.K x H k/\Q k H):=by
 intro pins s σ H x v Q I rx h;obtain⟨k,e,q⟩:=h;have hl:=eF;have hs:sizeLine=16777216:=sizeLine_eq;cases x with
 |DF =>
  cases rx;have e':k=false:=e;subst e';exact truthy_none ⟨H,I,q⟩
 |bl b =>
  cases rx;have e':k=b:=e;subst e';exact wpAny_truthy_bool ⟨H,I,q⟩
 |int i =>
  obtain⟨t,rfl⟩:=rx;have e':k=(i != 0):=e;subst e';exact PySem.P.truthy_int ⟨H,I,q⟩
 |str y =>
  obtain⟨t,rfl⟩:=rx;obtain⟨hy,e'⟩:y.length<=sizeLine/\k=((y.length:Int) != 0):=e;subst e';exact PySem.P.truthy_str (by omega) ⟨H,I.tok _,q⟩
 |JG y =>
  obtain⟨t,rfl⟩:=rx;obtain⟨hy,e'⟩:y.size<=sizeLine/\k=((y.size:Int) != 0):=e;subst e';exact PySem.W.truthy_bytes (by omega) ⟨H,I.tok _,q⟩
 |ref p =>
  cases rx;have e':(∃xs,D7 X.K H p xs/\k=!xs.isEmpty)\/(∃xs,D3 X.K H p xs/\k=!xs.isEmpty)\/∃kvs,H p=some (.dK kvs)/\k=!kvs.isEmpty:=e;rcases e' with⟨xs,hx,e'⟩|⟨xs,hx,e'⟩|⟨kvs,hx,e'⟩
  ·subst e';obtain⟨A',r,pl,hz⟩:=I.list hx;have hlen:=r.length;exact wpAny_truthy_list pl.isList (by simp only[List.size_toArray];omega) ⟨H,I.tok _,by rw[js r];exact q⟩
  ·subst e';obtain⟨A',r,pl,hz⟩:=I.tuple hx;have hlen:=r.length;exact truthy_tuple pl (by simp only[List.size_toArray];omega) ⟨H,I.tok _,by rw[js r];exact q⟩
  ·subst e';obtain⟨hz,hS,vs,r,m⟩:kvs.length<=sizeLine/\(p==sysModules)=false/\∃vs,KV kvs vs/\s.heap.DictOf (aM X.prog X.w) p vs:=I.DE p _ hx;have hlen:kvs.length=vs.length:=Paired.length r;exact wpAny_truthy_dict hS m (by omega) ⟨H,I.tok _,by rw[pM r];exact q⟩
 |_=>exact(show False from e).elim
theorem uo(ha:PE X a ta)(he:∀whole,isTrue a X.env whole=(do let v <-whole;standAt a.pos;holding [v] (truthy v))):
  PT X a (λσ H Q=>ta σ H λx H'=>∃k,BF X.K x H' k/\Q k H'):=by
 intro pins s σ H Q I h;exact isTrue_plain (DG (ha pins s σ H _ I h) λv s1 ⟨x,H1,I1,r1,q1⟩=>zN pins s1 σ H1 x v Q I1 r1 q1) (he _)
theorem pN:Fo X (binaryOp .Add) (λx y H Q=>∃i j,x=.str i/\y=.str j/\i.length+j.length<=sizeLine/\Q (.str (i++j)) H):=by
 intro pins s σ H x y v u Q I rx ry h;obtain⟨i,j,rfl,rfl,hz,q⟩:=h;obtain⟨t,rfl⟩:=rx;obtain⟨t',rfl⟩:=ry;exact add_str (λt' tk=>⟨.str (i++j),H,I.tok _,⟨_,rfl⟩,q⟩) hz
theorem vals1(r:Vals [x] us):∃u,us=[u]/\RelV x u:=by
 cases r with
 |cons r1 r2=>cases r2;exact⟨_,rfl,r1⟩
theorem vals2(r:Vals [x,y] us):∃u w',us=[u,w']/\RelV x u/\RelV y w':=by
 cases r with
 |cons r1 r2 =>
  cases r2 with
  |cons r3 r4=>cases r4;exact⟨_,_,rfl,r1,r3⟩
theorem mn:iA X (.type "str") (λxs H Q=>∃i,xs=[.int i]/\i.natAbs.log2<1920/\Q (.str (toString i)) H):=by
 intro pins s σ H xs us Q I r h;obtain⟨i,rfl,hz,q⟩:=h;obtain⟨u,rfl,t,rfl⟩:=vals1 r;exact PySem.P.str_of_int hz ⟨.str _,H,I.tok _,⟨_,rfl⟩,q⟩
end
section
end
theorem iR.some_of(r:iR (some v) o):∃u,o=some u/\RelV v u:=by
 cases o with
 |none=>exact(show False from r).elim
 |some u=>exact⟨u,rfl,r⟩
section
end
structure P0(K:PySem.W.Frag)(C:Addr):Prop where
 pg:PySem.W.plainGet K C Str.empty=true
 hd:PySem.W.hasDictIn K C=true
 po:PySem.W.plainOver K C=true
 sa:PySem.W.findIn K (.ref C) "__setattr__"=some (some (.builtin "object.__setattr__"))
section
end
section
end
section
inductive jt(K:PySem.W.Frag)(H:Hp):V->Value->Prop where
 |DF:jt K H .DF (.type "NoneType")
 |bl (x:Bool):jt K H (.bl x) (.type "bool")
 |int (i:Int):jt K H (.int i) (.type "int")
 |str (x:Str):jt K H (.str x) (.type "str")
 |JH (x:UInt64):jt K H (.JH x) (.type "float")
 |lst {a:Addr} {xs:List V} (e:H a=some (.lst xs)):jt K H (.ref a) (.type "list")
 |EJ {a:Addr} {o:Obj} {xs:List V} (e:H a=some (.EJ o (.lst xs))):jt K H (.ref a) (.type "list")
 |tup {a:Addr} {xs:List V} (e:H a=some (.tup xs)):jt K H (.ref a) (.type "tuple")
 |dK {a:Addr} {kvs:List (Key×V)} (e:H a=some (.dK kvs)):jt K H (.ref a) (.type "dict")
 |dT {a:Addr} {kvs:List (List Key×V)} (e:H a=some (.dT kvs)):jt K H (.ref a) (.type "dict")
 |ins {a C dx:Addr} {fs:List (Str×V)} (e:H a=some (.ins C dx fs)) (cl:P0 K C) (ha:PySem.W.findIn K (.ref C) "__class__"=some (some (.builtin "object.__class__")))
   (hn:PySem.W.specialIn K (.builtin "object.__class__") "__get__"=some (some (.builtin "getset_descriptor.__get__"))) (P4:PySem.W.takesIn K (.builtin "object.__class__")=some true)
   (hm:PySem.W.mroIn K C (.type "object")=some true):jt K H (.ref a) (.ref C)
end
structure fM(k:Nat)(A:Around):Prop where
 hd:A.handled=none
 dp:A.depth+3 * k+5<recursionLimit
 un:A.units+16 * k+200<cLine
 gd:A.guards=some []
theorem fM.deeper(r:fM (k+1) A)(env:Env):fM k (A.deeper env) :=
 ⟨r.hd,by have:=r.dp;show A.depth+1+3 * k+5 < _;omega,by have:=r.un;show A.units+3+16 * k+200 < _;omega,r.gd⟩
theorem fM.depth(r:fM k A):A.depth<recursionLimit:=by have:=r.dp;omega
def C9:TA:=λ_ H Q=>Q [] H
def BG(ta:TE)(tr:TA):TA:=λσ H Q=>ta σ H λx H1=>tr σ H1 λxs H2=>Q (x::xs) H2
section
theorem ju:PA X [] C9:=λ_ _ _ _ H Q I h=>Calls.spliced_nil ⟨[],H,I,.nil,h⟩
theorem fc(ha:PE X e te)(hr:PA X es t)(hs:starEach (e::es) X.env=(false,eval e X.env)::starEach es X.env:=by rfl):PA X (e::es) (BG te t):=by
 intro pos pins s σ H Q I h;rw[hs];show wpAny _ _ (spliced ((false,eval e X.env)::backTo pos (starEach es X.env))) _ _ s;refine Calls.spliced_cons (DG (ha pins s σ H _ I h) λu s1 ⟨x,H1,I1,r1,q1⟩=>?_);exact DG (hr pos pins s1 σ H1 _ I1 q1) λus s2 ⟨xs,H2,I2,r2,q2⟩=>⟨x::xs,H2,I2,.cons r1 r2,q2⟩
end
abbrev Sp:=List V->Hp->VK->XK->Prop
abbrev Jj:=List Env->Hp->Shared->XK->Value->Shared->Prop
structure xi(P:Program)(w:World)(K:PySem.W.Frag)(mg:Str->Option Value)(base:Heap)(A:Around)(outer:List Env)(s:Shared)(H:Hp):Prop where
 frames:A.frames=some outer
 mod:Mod K mg base
 bs:∀b o,base.get? b=some o->s.heap.get? b=some o/\H b=none
 Ht:base.objs.size<=s.heap.objs.size
 jk:s.heap.FunFrames base outer
 Jg:∀b∈FO outer,H b=none
 DE:Ew P w H s.heap
 bare:AllBare s.gens
def CE(outer:List Env)(P:Program)(w:World)(H:Hp)(s:Shared)(Q:VK)(u:Value)(s':Shared):Prop :=
 ∃v H',s'.os=s.os/\AllBare s'.gens/\Un (FO outer) [] H H' s.heap s'.heap/\Ew P w H' s'.heap/\RelV v u/\Q v H'
def CR(CX:Jj)(outer:List Env)(P:Program)(w:World)(H:Hp)(s:Shared)(Q:VK)(E:XK)(r:Result)(s':Shared):Prop :=
 match r with
 |.ok (.ret u)=>CE outer P w H s Q u s'
 |.ok _=>False
 |.error e=>CX outer H s E e s'
structure nS(P:Program)(w:World)(K:PySem.W.Frag)(mg:Str->Option Value)(base:Heap)(CX:Jj)(k:Nat)(f:Addr)(fd:FuncData)(ps:List Str)(sp:Sp):Prop where
 len:∀vs H Q E,sp vs H Q E->vs.length=ps.length
 run:∀(A:Around) (outer:List Env) (s:Shared) (H:Hp) (args:Args) (us:List Value) (vs:List V) (Q:VK) (E:XK),fM k A->xi P w K mg base A outer s H->BindsTo s fd args (ps.zip us)->Vals vs us->sp vs H Q E ->
  codeAny (model P w) A (.call (.ref f) args) (CR CX outer P w H s Q E) s
section
theorem Inv.C_(I:Inv X pins σ H s):xi X.prog X.w X.K X.mg X.base X.A X.stack s H :=
 ⟨I.ok.frames,I.ok.mod,I.bs,Nat.le_trans I.ok.Ht I.sz,I.stack,I.qP,I.DE,I.bare⟩
theorem Inv.after(I:Inv X pins σ H s)(h:CE X.stack X.prog X.w H s Q u s'):EP X pins σ Q u s':=by
 obtain⟨v,H',os,bare,un,DE,r,q⟩:=h;obtain⟨hh,g,d,t,Md⟩:=s';obtain rfl:Md=s.os:=os;exact⟨v,H',I.call (h':=hh) (g':=g) (d':=d) (t':=t) (ch:=[]) un DE bare (λb z=>absurd z (by simp)),r,q⟩
end
def Binds(K:PySem.W.Frag)(fd:FuncData)(ps:List Str)(ds:List Value):Prop :=
 ∀(s:Shared) (us:List Value),K.In s.heap->(us++ds).length=ps.length->BindsTo s fd ⟨us,[]⟩ (ps.zip (us++ds))
theorem Binds.all{K:PySem.W.Frag}(h:∀us:List Value,us.length=ps.length->bindArgs fd ⟨us,[]⟩=pure (ps.zip us)):Binds K fd ps []:=λs us _ hl=>by
 rw[List.append_nil]at hl ⊢;exact .of_eq (h us hl)
def Passes(CX:Jj)(X:Cx)(E:XK):Prop:=∀(pins:List (Addr×Obj)) (σ:St) (H:Hp) (s:Shared) (e:Value) (s':Shared),Inv X pins σ H s->CX X.stack H s E e s'->X.xe e s'
section
theorem zO(F:nS X.prog X.w X.K X.mg X.base CX k f fd ps sp)(hr:fM k X.A)(hb:Binds X.K fd ps ds)(hd:Vals Mg ds)(hx:Passes CX X E)
  (I:Inv X pins σ H s) (r:Vals vs us) (h:sp (vs++Mg) H Q E):wpAny (model X.prog X.w) X.A (call (.ref f) us) (EP X pins σ Q) X.xe s:=by
 have r2:Vals (vs++Mg) (us++ds):=r.append hd;have hl:(us++ds).length=ps.length:=by rw[<-r2.length];exact F.len _ _ _ _ h
 refine wpAny_call (codeAny_mono (F.run X.A X.stack s H ⟨us,[]⟩ (us++ds) (vs++Mg) Q E hr I.C_ (hb s us I.Jh hl) r2 h) λr s' hq=>?_);cases r with
 |error e=>exact hx pins σ H s e s' I hq
 |ok fl =>
  cases fl with
  |ret u=>exact I.after hq
  |next=>exact False.elim hq
  |brk=>exact False.elim hq
  |cont=>exact False.elim hq
end
section
end
structure dS(N P:List Str)(sc:Scope):Prop where
 kind:sc.kind=.function
 co:sc.isCoroutine=false
 gen:sc.isGenerator=false
 nd:N.Nodup
 pre:N.take P.length=P
 par:∀x∈P,sc.names.lookup x=some .local\/sc.names.lookup x=some .cell
 Im:∀y∈sc.names,y.2≠.free
theorem kY{kindOf:Str->Option NameKind}:∀{binds:List (Str×Value)}{m:Str->Option Value},(∀v,(x,v)∉binds)->bindL kindOf binds m x=m x
 |[],_,_=>rfl
 |(n,v)::r,m,h=>by
  unfold bindL;rw[kY λw hw=>h w (List.mem_cons_of_mem _ hw)];split
  ·have:x≠n:=by rintro rfl;exact h v List.mem_cons_self
   simp[this]
  ·rfl
theorem kZ{kindOf:Str->Option NameKind}:∀{binds:List (Str×Value)}{m:Str->Option Value},(∀v,(x,v)∉binds)->bindC kindOf binds m x=m x
 |[],_,_=>rfl
 |(n,v)::r,m,h=>by
  unfold bindC;rw[kZ λw hw=>h w (List.mem_cons_of_mem _ hw)];split
  ·rfl
  ·have:x≠n:=by rintro rfl;exact h v List.mem_cons_self
   simp[this]
theorem k9{kindOf:Str->Option NameKind}:∀{P:List Str}{vs:List Value}{i:Nat}{m:Str->Option Value},P.Nodup->P[i]?=some x->vs[i]?=some v->kindOf x=some .local ->
  bindL kindOf (P.zip vs) m x=some v
 |[],_,_,_,_,h,_,_=>by simp at h
 |_::_,[],_,_,_,_,h,_=>by simp at h
 |p::P,w::vs,0,m,nd,h1,h2,hk=>by
  simp at h1 h2;subst h1;subst h2;show bindL kindOf ((p,w)::P.zip vs) m p=_;unfold bindL;rw[kY λv hv=>(List.nodup_cons.mp nd).1 (List.of_mem_zip hv).1,if_pos hk];simp
 |p::P,w::vs,i+1,m,nd,h1,h2,hk=>by
  show bindL kindOf ((p,w)::P.zip vs) m x=_;unfold bindL;exact k9 (i:=i) (List.nodup_cons.mp nd).2 (by simpa using h1) (by simpa using h2) hk
theorem k_{kindOf:Str->Option NameKind}:∀{P:List Str}{vs:List Value}{i:Nat}{m:Str->Option Value},P.Nodup->P[i]?=some x->vs[i]?=some v->kindOf x≠some .local ->
  bindC kindOf (P.zip vs) m x=some v
 |[],_,_,_,_,h,_,_=>by simp at h
 |_::_,[],_,_,_,_,h,_=>by simp at h
 |p::P,w::vs,0,m,nd,h1,h2,hk=>by
  simp at h1 h2;subst h1;subst h2;show bindC kindOf ((p,w)::P.zip vs) m p=_;unfold bindC;rw[kZ λv hv=>(List.nodup_cons.mp nd).1 (List.of_mem_zip hv).1,if_neg hk];simp
 |p::P,w::vs,i+1,m,nd,h1,h2,hk=>by
  show bindC kindOf ((p,w)::P.zip vs) m x=_;unfold bindC;exact k_ (i:=i) (List.nodup_cons.mp nd).2 (by simpa using h1) (by simpa using h2) hk
noncomputable def start(N:List Str)(vs:List V):St:=vs.map some++List.replicate (N.length - vs.length) none
noncomputable def pO(CX:Jj)(P:Program)(w:World)(K:PySem.W.Frag)(mg:Str->Option Value)(base:Heap)(N:List Str)(qual:Str)(scope:Scope)(f:Addr)(cd:Value)(A:Around)(outer:List Env)(s:Shared)(H:Hp)(E:XK):Cx where
 prog:=P
 w:=w
 K:=K
 mg:=mg
 base:=base
 A:=A.deeper (envOfC qual scope s.heap.objs.size f cd)
 N:=N
 s₀:=s
 H₀:=H
 env:=envOfC qual scope s.heap.objs.size f cd
 outer:=outer
 stack:=envOfC qual scope s.heap.objs.size f cd::outer
 ex:=[]
 calm:=true
 fn:=λ_=>true
 pn:=[]
 xe:=λe s'=>wpAny (model P w) (A.deeper (envOfC qual scope s.heap.objs.size f cd)) (leaving (envOfC qual scope s.heap.objs.size f cd) e) (λ_ JQ=>CX outer H s E e JQ) (λe' JQ=>CX outer H s E e' JQ) s'
theorem nU{sc:Scope}(h:sc.names.lookup x=some .cell):∃c,(cellsFrom n sc.names []).lookup x=some c:=by
 have q:=PySem.W.cellsFrom_some sc.names n [] (.inl h);exact Option.isSome_iff_exists.mp q
theorem sC{K:PySem.W.Frag}
  (S:dS N ps scope) (hd:A.handled=none) (e0:xi P w K mg base A outer s H) (hl:vs.length=ps.length) (r:Vals vs us)
  (x:InCallC s s.heap.objs.size (bindL (envOfC qual scope s.heap.objs.size f cd).kindOf (ps.zip us) λ_=>none) (cellsFrom (s.heap.objs.size+1) scope.names []) (bindC (envOfC qual scope s.heap.objs.size f cd).kindOf (ps.zip us) λ_=>none) s1) :
  Inv (pO CX P w K mg base N qual scope f cd A outer s H E) [] (start N vs) H s1:=by
 have Eg:ps.length<=N.length:=by have:=congrArg List.length S.pre;rw[List.length_take]at this;omega
 obtain⟨h1,tk,rfl,hk⟩:=x.done;have JR:∀b:Addr,b∉(pO CX P w K mg base N qual scope f cd A outer s H E).ex:=λb z=>absurd (show b∈([]:List Addr) from z) (by simp);refine⟨⟨e0.mod,S.kind,rfl,rfl,Nat.le_refl _,λy z c h1 h2=>?_,λy hy=>?_,λy c _ h=>?_,λ_=>hd,Around.frames_deeper e0.frames,.inr ⟨rfl,rfl⟩,λb z=>absurd z (JR b),e0.bs,e0.Ht,λb _ _=>JR b,λb z=>absurd z (JR b),e0.jk,e0.Jg⟩,
  rfl,e0.bare,Un.kept hk,⟨_,x.toInCall.ns,λi y v h1 h2 h3=>?_⟩,λy c h=>⟨_,x.cell y c h⟩,e0.DE.fresh (Nat.le_refl _),λy c h=>?_,λp hp=>absurd (show p∈([]:List (Addr×Obj)) from hp) (by simp),e0.DE.kept hk,?_⟩
 ·exact name_of_addr x.apart (PySem.mem_of_lookup h1) (PySem.mem_of_lookup h2)
 ·have hy:scope.names.lookup y=some .cell\/scope.names.lookup y=some .free:=hy;rcases hy with hy|hy
  ·exact nU hy
  ·exact absurd rfl (S.Im _ (PySem.mem_of_lookup hy))
 ·exact Nat.le_of_lt (x.above y c (PySem.mem_of_lookup h))
 ·have hi:i<vs.length:=by
   unfold start at h2;by_cases hi:i<vs.length
   ·exact hi
   ·rw[List.getElem?_append_right (by simpa using hi)]at h2;rw[List.getElem?_replicate]at h2;split at h2<;>cases h2
  have ha:vs[i]?=some v:=by
   unfold start at h2;rw[List.getElem?_append_left (by simpa using hi),List.getElem?_map]at h2;cases e:vs[i]? with
   |none=>rw[e]at h2;cases h2
   |some a=>rw[e]at h2;cases h2;rfl
  obtain⟨u,hu,rv⟩:=r.get ha;have hp:ps[i]?=some y:=by
   rw[<-S.pre,List.getElem?_take_of_lt (by omega)];exact h1
  have Of:ps.Nodup:=by rw[<-S.pre];exact S.nd.sublist (List.take_sublist _ _)
  refine⟨u,rv,?_⟩;rcases S.par y (List.mem_of_getElem? hp) with k|k
  ·exact .inl ⟨k,k9 Of hp hu k⟩
  ·obtain⟨c,e⟩:=nU (n:=s.heap.objs.size+1) k;refine .inr ⟨.inl k,c,e,?_⟩;have q:=x.cell y c e;rw[k_ Of hp hu (by show scope.names.lookup y≠_;rw[k];decide)]at q;exact q
 ·exact e0.DE.fresh (Nat.le_of_lt (x.above y c (PySem.mem_of_lookup h)))
 ·unfold start;show _=N.length;rw[List.length_append,List.length_map,List.length_replicate];omega
theorem BH{K:PySem.W.Frag}{dV kV doc pm EK ct oc:Value}
 (lk:K.lookup f=some ⟨oc,od,.func (PySem.W.fnOf name qual params body scope dV kV doc pm an EK ct),JS⟩) (Ed:PySem.W.codeIn K EK qual=true) (S:dS N ps scope)
    (len:∀vs H Q E,sp vs H Q E->vs.length=ps.length)
    (GA:∀(A:Around) (outer:List Env) (s:Shared) (H:Hp) (vs:List V) (Q:VK) (E:XK),fM k (A.deeper (envOfC qual scope s.heap.objs.size f EK))->sp vs H Q E ->
      ∃t,EA (pO CX P w K mg base N qual scope f EK A outer s H E) body t/\t {nx:=λ_ H'=>Q .DF H',rt:=Q} (start N vs) H) :
    nS P w K mg base CX (k+1) f (PySem.W.fnOf name qual params body scope dV kV doc pm an EK ct) ps sp:=by
  refine⟨len,λA outer s H args us vs Q E hr e0 hb r FP=>?_⟩;have hl:=len _ _ _ _ FP;have KX:K.In s.heap:=e0.mod.L0.keeps λb o e=>(e0.bs b o e).1;have lim:s.heap.NoLimit:=e0.mod.nolimit.keeps λb o e=>(e0.bs b o e).1;have JT:∀y∈ps.zip us,scope.names.lookup y.1=some .local\/(scope.names.lookup y.1=some .cell/\((cellsFrom (s.heap.objs.size+1) scope.names []).lookup y.1).isSome=true):=λ⟨n,v⟩ hy=>by
    rcases S.par n (List.of_mem_zip hy).1 with q|q
    · exact .inl q
    · exact .inr ⟨q,PySem.W.cellsFrom_some _ _ _ (.inl q)⟩
  refine codeAny_call_function hr.depth (KX _ _ lk) rfl S.co S.gen rfl (PySem.W.codeRec_of KX Ed) (hb _ _ _ _ ?_);refine wpAny_newFunctionEnv_cells S.kind JT λenv he s1 x=>?_;subst he;refine⟨lim.keeps x.toInCall.keep,codeAny_func ?_⟩;obtain⟨t,ht,hq⟩:=GA A outer s H vs Q E (hr.deeper _) FP;have I:Inv (pO CX P w K mg base N qual scope f EK A outer s H E) [] (start N vs) H s1:=sC S hr.hd e0 hl r x;refine wpAny_mono (ht [] s1 (start N vs) H _ I hq) (λfl s' hs=>?_) λe s' hs=>hs;have fin:∀{σ':St} {H':Hp} {v:V} {u:Value},Inv (pO CX P w K mg base N qual scope f EK A outer s H E) [] σ' H' s'->RelV v u->Q v H'->CE outer P w H s Q u s' :=
    λ{σ' H' v u} J rv q=>⟨v,H',J.os,J.bare,J.base,J.DE,rv,q⟩
  cases fl with
  | ret u =>
    obtain⟨v,σ',H',J,rv,q⟩:=hs;exact fin J rv q
  | next =>
    obtain⟨σ',H',J,q⟩:=hs;exact fin (v:=V.DF) (u:=Value.none) J rfl q
  | brk =>
    obtain⟨_,_,_,q⟩:=hs;exact False.elim q
  | cont =>
    obtain⟨_,_,_,q⟩:=hs;exact False.elim q
section
end
end L2
namespace HT
open PySem PyProof.Rows
section
open PySem.SeqAt
open PySem.AutoSeq1 (wpAny_loadPart')
open PySem.MeetsSeq PySem.MeetsSeq2 PySem.MeetsSeq3
end
section
end
end HT
namespace L2
open PySem PySem.Spec PyProof.Rows
abbrev TO:=St->Hp->(Option Int->Hp->Prop)->Prop
def PO(X:Cx)(e:Option Expr)(t:TO):Prop :=
 ∀(pins:List (Addr×Obj)) (s:Shared) (σ:St) (H:Hp) (Q:Option Int->Hp->Prop),Inv X pins σ H s->t σ H Q ->
  wpAny (model X.prog X.w) X.A (evalPart e X.env) (λu s'=>∃o H',Inv X pins σ H' s'/\IsPart u o/\Q o H') X.xe s
def xj:TO:=λ_ H Q=>Q none H
def BI(t:TE):TO:=λσ H Q=>t σ H λx H1=>∃i,x=.int i/\Q (some i) H1
section
variable{X:Cx}{e:Expr}{te:TE}{lo hi:Option Expr}{tl th:TO}{pos p2:Pos}
theorem xk:PO X none xj:=by
 intro pins s σ H Q I h;rw[evalPart_none];exact wpAny_pure ⟨none,H,I,.none,h⟩
theorem xl(h:PE X e te):PO X (some e) (BI te):=by
 intro pins s σ H Q I hw;rw[evalPart_some];refine DG (h pins s σ H _ I hw) λu s1 ⟨x,H1,I1,r1,q1⟩=>?_;obtain⟨i,rfl,q⟩:=q1;obtain⟨t,rfl⟩:=r1;exact⟨some i,H1,I1,.int i t,q⟩
def Og(X:Cx)(r:V->Option Int->Option Int->Hp->VK->Prop):Prop :=
 ∀(pins:List (Addr×Obj)) (s:Shared) (σ:St) (H:Hp) (x:V) (v vl vu:Value) (lo hi:Option Int) (sl:Addr) (Q:VK),Inv X pins σ H s->RelV x v->s.heap.IsSliceOf sl vl vu .none->IsPart vl lo->IsPart vu hi->r x lo hi H Q ->
  ∃T id,typeLookup (.type T) "__getitem__"=pure (some (.builtin id))/\s.TypeIs v T/\wpAny (model X.prog X.w) X.A (getItem v (.ref sl)) (EP X pins σ Q) X.xe s
def P5(r:V->Option Int->Option Int->Hp->VK->Prop)(te:TE)(tl th:TO):TE:=λσ H Q=>te σ H λx H1=>tl σ H1 λl H2=>th σ H2 λu H3=>r x l u H3 Q
theorem uq(hr:Og X r)(he:PE X e te)(hl:PO X lo tl)(hu:PO X hi th):PE X (.Subscript e (.Slice lo hi none p2) pos) (P5 r te tl th):=by
 intro pins s σ H Q I h;refine Subscript_ (DG (he pins s σ H _ I h) λv s1 ⟨x,H1,I1,r1,q1⟩=>?_);refine wpAny_Slice (DG (hl pins s1 σ H1 _ I1 q1) λvl s2 ⟨l,H2,I2,pl,q2⟩=>DG (hu pins s2 σ H2 _ I2 q2) λvu s3 ⟨u,H3,I3,pu,q3⟩=>?_);rw[evalPart_none];refine wpAny_pure ?_;have I4:Inv X pins σ H3 {s3 with heap:=s3.heap.push {cls:=.type "slice",data:=.fields #[vl,vu,.none]}}:=I3.kept (t':=s3.toks) λb ob q=>Heap.get?_push_of_some _ q;obtain⟨T,id,hT,ht,hg⟩:=hr pins {s3 with heap:=s3.heap.push {cls:=.type "slice",data:=.fields #[vl,vu,.none]}} σ H3 x v vl vu l u s3.heap.objs.size Q I4 r1 (Heap.IsSliceOf.new ..) pl pu q3;show wpAny (model X.prog X.w) X.A (subscriptTail e (.Slice lo hi none p2) v (.ref s3.heap.objs.size)) (EP X pins σ Q) X.xe {s3 with heap:=s3.heap.push {cls:=.type "slice",data:=.fields #[vl,vu,.none]}};exact tail_any (ops:=[.ref s3.heap.objs.size,v]) ht hT hg (by with_unfolding_all rfl)
end
noncomputable def GB(n:Nat)(i:Int):Option Nat:=if 0<=i then(if i<n then some i.toNat else none) else if -(n:Int)<=i then some (i+n).toNat else none
noncomputable def D6{α:Type}(xs:List α)(i:Int):Option α:=(GB xs.length i).bind λj=>xs[j]?
theorem qS(h:GB n i=some j):seqIndex? i n=some j/\j<n/\-(n:Int)<=i/\i<n:=by
 unfold GB at h;by_cases h0:0<=i
 ·rw[if_pos h0]at h;by_cases h1:i<n
  ·rw[if_pos h1]at h;have e:i.toNat=j:=Option.some.inj h;exact⟨by rw[seqIndex_of h0 h1,e],by omega,by omega,h1⟩
  ·rw[if_neg h1]at h;cases h
 ·rw[if_neg h0]at h;by_cases h1:-(n:Int)<=i
  ·rw[if_pos h1]at h;have e:(i+n).toNat=j:=Option.some.inj h;exact⟨by rw[seqIndex_neg (by omega) h1,e],by omega,h1,by omega⟩
  ·rw[if_neg h1]at h;cases h
theorem mq(h:D6 xs i=some v):∃j,seqIndex? i xs.length=some j/\xs[j]?=some v/\j<xs.length/\-(xs.length:Int)<=i/\i<xs.length:=by
 unfold D6 at h;cases e:GB xs.length i with
 |none=>rw[e]at h;cases h
 |some j =>
  rw[e]at h;obtain⟨h1,h2,h3,h4⟩:=qS e;exact⟨j,h1,h,h2,h3,h4⟩
theorem cw{xs:List α}{j:Nat}{v:α}(h:xs[j]?=some v):D6 xs (j:Int)=some v:=by
 have hj:j<xs.length:=(List.getElem?_eq_some_iff.mp h).1;have e:GB xs.length (j:Int)=some j:=by
  unfold GB;rw[if_pos (by omega),if_pos (by omega)];simp
 unfold D6;rw[e];exact h
def mr(b:Expr):Prop:=∀o i,subscripted b false o i=operate [o,i] (getItem o i)
def Mh(X:Cx)(r:R2):Prop :=
 ∀(value slice:Expr) (pins:List (Addr×Obj)) (s:Shared) (σ:St) (H:Hp) (x y:V) (v u:Value) (Q:VK),Inv X pins σ H s->RelV x v->RelV y u->r x y H Q ->
  subscripted slice false v u=operate [v,u] (getItem v u)->wpAny (model X.prog X.w) X.A (subscriptTail value slice v u) (EP X pins σ Q) X.xe s
def Mi(X:Cx)(id:String)(r:V->List V->Hp->VK->Prop):Prop :=
 ∀(pins:List (Addr×Obj)) (s:Shared) (σ:St) (H:Hp) (x:V) (xs:List V) (v:Value) (us:List Value) (Q:VK),Inv X pins σ H s->RelV x v->Vals xs us->r x xs H Q ->
  wpAny (model X.prog X.w) X.A (call (.builtin id) (v::us)) (EP X pins σ Q) X.xe s
section
noncomputable def Dc(K:PySem.W.Frag):R2:=λx y H Q=>∃p xs i v,x=.ref p/\y=.int i/\D7 K H p xs/\D6 xs i=some v/\Q v H
noncomputable def Dd(K:PySem.W.Frag):R2:=λx y H Q=>∃p xs i v,x=.ref p/\y=.int i/\D3 K H p xs/\D6 xs i=some v/\Q v H
noncomputable def De:R2:=λx y H Q=>∃z i c,x=.str z/\y=.int i/\z.length<=sizeLine/\D6 z.cps.toList i=some c/\Q (.str ⟨#[c]⟩) H
theorem xm:Mh X (Dc X.K):=by
 intro value slice pins s σ H x y v u Q I rx ry h hs;obtain⟨p,xs,i,z,rfl,rfl,hq,he,q⟩:=h;cases rx;obtain⟨t,rfl⟩:=ry;obtain⟨A',r,pl,hz⟩:=I.list hq;obtain⟨j,h1,h2,h3,h4,h5⟩:=mq he;obtain⟨w,ew,F2⟩:=r.get h2;have hl:=r.length;have hn:=eF;have fin:EP X pins σ Q w s:=⟨z,H,I,F2,q⟩
 by_cases h0:0<=i
 ·have hj:i.toNat=j:=by
   rw[seqIndex_of h0 h5]at h1;exact Option.some.inj h1
  exact item_listR pl.isList h0 (by omega) (by rw[hj];simpa using ew) fin hs
 ·have hj:(i+(A'.toArray.size:Int)).toNat=j:=by
   rw[seqIndex_neg (by omega) h4]at h1;rw[List.size_toArray,<-hl];exact Option.some.inj h1
  exact subscriptTail_builtinR (x:=w) pl.isList.typeIs slot_list_getitem.lookup
   (wpAny_getItem_list_neg (Q:=λr s'=>r=w/\EP X pins σ Q r s') pl.isList (by omega) (by rw[List.size_toArray]<;>omega) (by omega) (by rw[hj];simpa using ew) ⟨rfl,fin⟩) hs
theorem pP:Mh X (Dd X.K):=by
 intro value slice pins s σ H x y v u Q I rx ry h hs;obtain⟨p,xs,i,z,rfl,rfl,hq,he,q⟩:=h;cases rx;obtain⟨t,rfl⟩:=ry;obtain⟨A',r,pl,hz⟩:=I.tuple hq;obtain⟨j,h1,h2,h3,h4,h5⟩:=mq he;obtain⟨w,ew,F2⟩:=r.get h2;have hl:=r.length;have hn:=eF;have fin:EP X pins σ Q w s:=⟨z,H,I,F2,q⟩
 exact subscriptTail_builtinR (x:=w) pl.typeIs slot_tuple_getitem.lookup
  (getItem_tuple (j:=j) (Q:=λr s'=>r=w/\EP X pins σ Q r s') pl (by omega) (by omega) (by rw[List.size_toArray,<-hl];exact h1) (by simpa using ew) ⟨rfl,fin⟩) hs
theorem jv:Mh X De:=by
 intro value slice pins s σ H x y v u Q I rx ry h hs;obtain⟨z,i,c,rfl,rfl,hz,he,q⟩:=h;obtain⟨t,rfl⟩:=rx;obtain⟨t',rfl⟩:=ry;obtain⟨j,h1,h2,h3,h4,h5⟩:=mq he;have hl:z.cps.toList.length=z.length:=by simp[Str.length]
 rw[hl]at h1 h4 h5;have hn:=eF;exact tail_any (typeIs_str s z t) slot_str_getitem.lookup (getItem_str (c:=c) (by
  have e1:decide (i < -(2 ^ 63:Int))=false:=decide_eq_false (by omega);have e2:decide (i >= 2 ^ 63)=false:=decide_eq_false (by omega);rw[e1,e2,Bool.or_false]) (by rw[h1];simpa using h2) ⟨.str ⟨#[c]⟩,H,I.tok _,⟨_,rfl⟩,q⟩) hs
theorem pQ(A':List Value)(n j:Nat)(u:Value):Obj.mapSeq (·.setIfInBounds j u) {cls:=.type "list",data:=.seq A'.toArray n}={cls:=.type "list",data:=.seq (A'.set j u).toArray n}:=by
 simp[Obj.mapSeq]
theorem Inv.lst(I:Inv X pins σ H s)(h:H p=some (.lst xs)):
  ∃(A':List Value) (n:Nat),Vals xs A'/\s.heap.get? p=some {cls:=.type "list",data:=.seq A'.toArray n}/\xs.length<=sizeLine:=by
 obtain⟨z,A',n,r,e⟩:=I.DE p _ h;exact⟨A',n,r,e,z⟩
theorem Inv.zP{A' its':List Value}(I:Inv X pins σ H s)(h:H p=some (.lst xs))
  (ho:s.heap.get? p=some {cls:=.type "list",data:=.seq A'.toArray n}) (hf:f {cls:=.type "list",data:=.seq A'.toArray n}={cls:=.type "list",data:=.seq its'.toArray n' }) (r:Vals ys its') (hz:ys.length<=sizeLine) (t:Nat) :
  Inv X pins σ (upd H p (.lst ys)) {s with heap:=s.heap.update p f,toks:=t}:=by
 have e:(s.heap.update p f).get? p=some {cls:=.type "list",data:=.seq its'.toArray n' }:=by
  rw[Heap.get?_update_self f ho (by rw[hf]<;>rfl),hf]
 refine I.write (x:=p) (e:=p) (by rw[h];trivial) (.inl rfl) (λb u hb q=>(Heap.get?_update_other _ _ (Ne.symm hb)).trans q) ⟨_,e⟩ ?_;exact⟨hz,its',n',r,e⟩
def BJ:V->V->V->Hp->(Hp->Prop)->Prop:=λo i v H Q=>∃p xs k j,o=.ref p/\i=.int k/\H p=some (.lst xs)/\GB xs.length k=some j/\Q (upd H p (.lst (xs.set j v)))
theorem set_list:jn X BJ:=by
 intro pins s σ H o i v ov iv u Q I ro ri rv h;obtain⟨p,xs,k,j,rfl,rfl,hp,hj,q⟩:=h;cases ro;obtain⟨t,rfl⟩:=ri;obtain⟨A',n,r,ho,hz⟩:=I.lst hp;obtain⟨h1,h2,h3,h4⟩:=qS hj;have hl:=r.length;have hn:=eF;have I':Inv X pins σ (upd H p (.lst (xs.set j v))) {s with heap:=s.heap.update p (Obj.mapSeq (·.setIfInBounds j u))} :=
  I.zP hp ho (pQ A' n j u) (r.set rv j) (by rw[List.length_set];exact hz) s.toks
 by_cases h0:0<=k
 ·have hk:k.toNat=j:=by
   rw[seqIndex_of h0 h4]at h1;exact Option.some.inj h1
  exact PySem.W.ki_setAt ho h0 (by omega) (by rw[List.size_toArray,<-hl];exact h4) (by rw[hk];exact⟨_,I',q⟩)
 ·have hk:(k+(A'.toArray.size:Int)).toNat=j:=by
   rw[seqIndex_neg (by omega) h3]at h1;rw[List.size_toArray,<-hl];exact Option.some.inj h1
  exact PySem.W.ki_setBack ho (by omega) (by rw[List.size_toArray,<-hl];exact h3) (by omega) (by rw[hk];exact⟨_,I',q⟩)
theorem gm:iA X (.builtin "len") (λxs H Q=>∃p ys,xs=[.ref p]/\(D7 X.K H p ys\/D3 X.K H p ys)/\Q (.int ys.length) H):=by
 intro pins s σ H xs us Q I r h;obtain⟨p,ys,rfl,hq,q⟩:=h;obtain⟨u,rfl,rx⟩:=vals1 r;cases rx;have hn:=eF;rcases hq with hq|hq
 ·obtain⟨A',r',pl,hz⟩:=I.list hq;have hlen:=r'.length;exact Calls.call_len_list pl.isList (by simp only[List.size_toArray]<;>omega) ⟨.int ys.length,H,I.tok _,⟨s.toks+1,by rw[List.size_toArray,hlen]⟩,q⟩
 ·obtain⟨A',r',pl,hz⟩:=I.tuple hq;have hlen:=r'.length;exact len_tuple pl (by simp only[List.size_toArray]<;>omega) ⟨.int ys.length,H,I.tok _,⟨s.toks+1,by rw[List.size_toArray,hlen]⟩,q⟩
theorem mw:iA X (.builtin "len") (λxs H Q=>∃z,xs=[.str z]/\z.length<=sizeLine/\Q (.int z.length) H):=by
 intro pins s σ H xs us Q I r h;obtain⟨z,rfl,hz,q⟩:=h;obtain⟨u,rfl,t,rfl⟩:=vals1 r;have hn:=eF;exact len_str (by omega) ⟨.int z.length,H,I.tok _,⟨_,rfl⟩,q⟩
theorem fE:iA X (.type "tuple") (λxs H Q=>∃p ys,xs=[.ref p]/\((D7 X.K H p ys/\∀l,H l=none->Q (.ref l) (upd H l (.tup ys)))\/(D3 X.K H p ys/\Q (.ref p) H))):=by
 intro pins s σ H xs us Q I r h;obtain⟨p,ys,rfl,h⟩:=h;obtain⟨u,rfl,rx⟩:=vals1 r;cases rx;rcases h with⟨hq,q⟩|⟨hq,q⟩
 ·obtain⟨A',r',pl,hz⟩:=I.list hq;have hlen:=r'.length;refine call_tuple_list pl.isList (λh' kp=>?_) (by simp only[List.size_toArray]<;>omega);have I1:Inv X pins σ H {s with heap:=h' }:=I.kept (t':=s.toks) kp;have I2:Inv X pins σ (upd H h'.objs.size (.tup ys)) {s with heap:=h'.push {cls:=.type "tuple",data:=.seq A'.toArray}} :=
   I1.laid (t':=s.toks) (λb o e=>Heap.get?_push_of_some _ e) (Nat.le_refl _) (show bp X.prog X.w _ _ _ (.tup ys) from⟨hz,A',r',IsTup.new _ _⟩)
  exact⟨.ref h'.objs.size,_,I2,rfl,q _ (I1.DE.fresh (Nat.le_refl _))⟩
 ·obtain⟨A',r',pl,hz⟩:=I.tuple hq;exact call_tuple_same pl ⟨.ref p,H,I,rfl,q⟩
def Mj(K:PySem.W.Frag)(T:String)(x:V)(H:Hp):Prop:=match x with
 |.str _=>T="str"
 |.int _=>T="int"
 |.ref p=>(T="list"/\∃xs,D7 K H p xs)\/(T="tuple"/\∃o,K.lookup p=some o/\o.cls=.type "tuple"/\o.dict=none) \/
   (T="dict"/\((∃kvs,H p=some (.dK kvs))\/∃kvs,H p=some (.dT kvs)))\/(T="set"/\∃S n,H p=some (.set S n))
 |_=>False
theorem pR(I:Inv X pins σ H s)(r:RelV x v)(ty:Mj X.K T x H):
  s.TypeIs v T/\∀a,v=.ref a->∃ob,s.heap.get? a=some ob/\ob.dict=none:=by
 cases x with
 |str z =>
  obtain⟨t,rfl⟩:=r;cases(show T="str" from ty);exact⟨typeIs_str s z t,λ_ e=>nomatch e⟩
 |int i =>
  obtain⟨t,rfl⟩:=r;cases(show T="int" from ty);exact⟨typeIs_int s i t,λ_ e=>nomatch e⟩
 |ref p =>
  cases r;rcases ty with⟨rfl,xs,hq⟩|⟨rfl,o,hk,hc,hd⟩|⟨rfl,hk⟩|⟨rfl,S,n,hk⟩
  ·obtain⟨A',_,pl,_⟩:=I.list hq;refine⟨pl.isList.typeIs,λa e=>?_⟩;cases e;obtain⟨o,n,e,c,hd,_⟩:=pl;exact⟨o,e,hd⟩
  ·refine⟨⟨o,I.Jh p o hk,hc⟩,λa e=>?_⟩;cases e;exact⟨o,I.Jh _ o hk,hd⟩
  ·have z:∃o,s.heap.get? p=some o/\o.ExactDict:=by
    rcases hk with⟨kvs,hk⟩|⟨kvs,hk⟩
    ·obtain⟨_,_,_,_,o,_,_,e,ex,_⟩:=I.DE p _ hk;exact⟨o,e,ex⟩
    ·obtain⟨_,_,_,_,o,_,_,e,ex,_⟩:=I.DE p _ hk;exact⟨o,e,ex⟩
   obtain⟨o,e,ex⟩:=z;refine⟨⟨o,e,ex.1⟩,λa e2=>?_⟩;cases e2;exact⟨o,e,ex.2.1⟩
  ·obtain⟨o,_,_,_,e,ex,_⟩:=I.DE p _ hk;refine⟨⟨o,e,ex.1⟩,λa e2=>?_⟩;cases e2;exact⟨o,e,ex.2.1⟩
 |_=>exact False.elim ty
def P6(K:PySem.W.Frag)(T:String)(r:V->List V->Hp->VK->Prop)(to:TE)(t:TA):TE:=λσ H Q=>to σ H λx H1=>Mj K T x H1/\t σ H1 λxs H2=>r x xs H2 Q
variable{o e:Expr}{es:List Expr}{to:TE}{t:TA}{name:Str}{apos Dx:Pos}{T id:String}{r:V->List V->Hp->VK->Prop}
theorem ur(pa:PlainAttrs T)(slot:Slot T name id)(Mk:typeOf (.builtin id)=pure (.type "method_descriptor"))(hm:Mi X id r)(ho:PE X o to)(ha:PA X (e::es) t)
  (GC:attributeBase o name X.env (eval o X.env)=eval o X.env:=by rfl)
  (EL:((backTo Dx (starEach (e::es) X.env)).all (λx=>!x.1)&&(backToKw Dx (keywordEach [] X.env)).all (λx=>x.1.isSome)
   && decide ((e::es).length+([]:List Keyword).length+(if ([]:List Keyword).isEmpty then 0 else 1)<30))=true:=by rfl)
  (D4:(apos.endLine==Dx.line)=true:=by rfl) (hs:starEach (e::es) X.env=(false,eval e X.env)::starEach es X.env:=by rfl) (Es:(backTo Dx (starEach es X.env)).any (·.1)=false:=by rfl) :
  PE X (.Call (.Attribute o name apos) (e::es) [] Dx) (P6 X.K T r to t):=by
 intro pins s σ H Q I h;refine wpAny_Call_method_late GC EL D4 rfl (DG (ho pins s σ H _ I h) λv s1 ⟨x,H1,I1,r1,ty,q1⟩=>?_);obtain⟨h1,h2⟩:=pR I1 r1 ty;refine⟨T,id,pa,slot,Mk,h1,h2,?_⟩;have hA:=ha Dx pins s1 σ H1 _ I1 q1;rw[hs]at hA ⊢;refine Calls.callWith_builtin (by show(false||(backTo Dx (starEach es X.env)).any (·.1))=false;rw[Es]<;>rfl) (Calls.evalArgs_plain ?_);exact DG hA λus s2 ⟨vs,H2,I2,r2,q2⟩=>hm pins s2 σ H2 x vs v us Q I2 r1 r2 q2
end
def Oh(X:Cx)(id:String)(r:V->List V->Hp->VK->Prop):Prop :=
 ∀(pins:List (Addr×Obj)) (s:Shared) (σ:St) (H:Hp) (x:V) (xs:List V) (v:Value) (us:List Value) (Q:VK),Inv X pins σ H s->RelV x v->Vals xs us->r x xs H Q ->
  wpAny (model X.prog X.w) X.A (call (.builtin id) (v::us)) (EP X pins σ Q) X.xe s
theorem Vals.one:∀{x:V}{us:List Value},Vals [x] us->∃u,us=[u]/\RelV x u
 |_,_,.cons r .nil=>⟨_,rfl,r⟩
section
theorem Inv.mz{A' its':List Value}(I:Inv X pins σ H s)(hH:H l=some (.lst xs))
  (e:s.heap.get? l=some {cls:=.type "list",data:=.seq A'.toArray n}) (hf:f A'.toArray=its'.toArray) (hv:Vals ys its') (hz:ys.length<=sizeLine) :
  Inv X pins σ (upd H l (.lst ys)) {s with heap:=s.heap.update l (Obj.mapSeq f),toks:=t' }:=by
 have q:=PySem.IsL.update e f;rw[hf]at q;refine I.write (x:=l) (e:=l) (by rw[hH];exact trivial) (.inl rfl) (λb' u hb hu=>(Heap.get?_update_other s.heap (Obj.mapSeq f) (Ne.symm hb)).trans hu) ⟨_,q⟩ ?_;exact⟨hz,its',_,hv,q⟩
theorem Inv.Df(I:Inv X pins σ H s)(hv:Vals ys A')(hz:ys.length<=sizeLine):
  Inv X pins σ (upd H s.heap.objs.size (.lst ys)) {s with heap:=s.heap.push {cls:=.type "list",data:=.seq A'.toArray},toks:=t' } :=
 I.laid (λ_ _ q=>Heap.get?_push_of_some _ q) (Nat.le_refl _) ⟨hz,A',0,hv,Heap.get?_push_size _ rfl⟩
theorem Inv.fresh(I:Inv X pins σ H s):H s.heap.objs.size=none:=I.DE.fresh (Nat.le_refl _)
theorem Inv.BK(I:Inv X pins σ H s)(hH:H l=some (.lst xs)):xs.length<=sizeLine/\∃(A':List Value) (n:Nat),Vals xs A'/\xs.length=A'.length/\s.heap.get? l=some {cls:=.type "list",data:=.seq A'.toArray n}:=by
 obtain⟨z,A',n,r,e⟩:=I.DE l _ hH;exact⟨z,A',n,r,r.length,e⟩
theorem uu(h:n<=sizeLine):Builtin.List.listTooLong n=false:=by
 unfold Builtin.List.listTooLong;exact decide_eq_false (by omega)
end
section
def xn:V->List V->Hp->VK->Prop:=λx vs H Q=>∃l xs y,x=.ref l/\vs=[y]/\H l=some (.lst xs)/\xs.length<sizeLine/\Q .DF (upd H l (.lst (xs++[y])))
theorem la:Oh X "list.append" xn:=by
 intro pins s σ H x vs v us Q I rx rv h;obtain⟨l,xs,y,rfl,rfl,hH,hz,q⟩:=h;cases rx;obtain⟨u,rfl,ru⟩:=rv.one;obtain⟨z,A',n,r,hl,e⟩:=I.BK hH;refine call_meets F.slot_list_append ⟨_,e,rfl⟩ F.entry_list_append (F.args_list_append_2 _ _) (PySem.list_append l A'.toArray n u (by rw[List.size_toArray];omega)) ⟨e,?_⟩;refine⟨.DF,_,I.mz (its':=A'++[u]) hH e (by simp) (r.append (.cons ru .nil)) ?_,rfl,q⟩;rw[List.length_append,List.length_singleton];omega
end
section
set_option maxRecDepth 100000 in
end
section
end
end L2
namespace Oi
open PySem PySem.W PySem.Calls PyProof.Rows
theorem iS:∀(ns:List Int) (vs:List Value),WellAll P h vs (ns.map WData.int)->IntsAre vs ns:=by
 intro ns;induction ns with
 |nil =>
  intro vs w;rw[List.map_nil]at w;cases w;exact .nil
 |cons n ns ih =>
  intro vs w;rw[List.map_cons]at w;cases w with
  |cons a b =>
   cases a;exact .cons _ _ (ih _ b)
theorem sD{l:OpenLaw}(hn:l.most=some n)
  (Hc:l.row.toRowW.claim.pre args=true) (Hd:WellAll P h vals args) :
  ∃a vs ns,vals=[Value.ref a]/\args=[WData.list (ns.map WData.int)]/\h.get? a=some {cls:=.type "list",data:=.seq vs.toArray}/\IntsAre vs ns/\ns.length<=n:=by
 have P7:WShape.hasAll [] args [.list .int]=true:=(pre_splitW Hc).1;have hc:l.pre.holds [] {args:=args}=true:=(pre_splitW Hc).2;obtain⟨d,r,rfl,h1,h2⟩:=hasAllW_cons P7;obtain rfl:=hasAllW_nil h2;obtain⟨xs,rfl,h3⟩:=hasW_list h1;obtain⟨ns,rfl⟩:=items_int h3;have hlen:ns.length<=n:=by
  unfold OpenLaw.pre at hc;have h4:(WTm.not (.lt (.lit (.int (n:Int))) (.len (.arg 0)))).holds [] {args:=[.list (ns.map .int)]}=true:=by
   have h4:=(holds_andW hc).1;rw[hn]at h4;exact h4
  have h5:=condW_of h4 (w_not (w_lt w_lit (w_len_list (w_arg rfl))));rw[List.length_map]at h5;refine Nat.le_of_not_lt λq=>?_;have q':(n:Int)<((ns.length:Nat):Int):=by omega
  first
   |(rw[decide_eq_true q']at h5;exact absurd h5 (by decide))
   |(simp at h5;omega)
 cases Hd with
 |cons w1 w2 =>
  cases w2;cases w1 with
  |list ho E8=>exact⟨_,_,ns,rfl,rfl,ho,iS ns _ E8,hlen⟩
theorem sE(l:OpenLaw)(args:List WData):l.row.toRowW.claim.post args (.bool true) args=true :=
 postW_of (r:=l.row.toRowW) (X:=(true==true))
  (show WShape.has [] (.bool true) .bool=true by first|rfl|decide|simp[WShape.has,WShape.arms,WShape.armsAll])
  (show(WTm.eq .res (.lit (.bool true))).value [] {args:=args,res:=some (.bool true),after:=args}=some (.bool (true==true)) from w_eq_bool (w_res rfl) w_lit) rfl
theorem nV{l:OpenLaw}
  (hn:l.most=some n) (Io:d.params.defaults=[])
  (call:∀(w:World) (s₀ s₁:Shared) (mg mb:Str->Option Value) (fa:Addr) (o:Obj) (pm cd doc:Value) (a:Addr) (vs:List Value) (ns:List Int),
   Ground q loose [] XP w s₀ mg mb s₁.heap->YP w s₁.heap ->
   s₁.heap.get? fa=some o->o.data=.func (docDef d.name d.params d.body d.scope pm cd doc)->s₁.heap.CodeRec cd d.name->mg d.name=some (.ref fa) ->
   s₁.heap.get? a=some {cls:=.type "list",data:=.seq vs.toArray}->IntsAre vs ns->ns.length<=n->s₁.gens=#[] ->
   codeAny (model l.prog w) callerA (.call (.ref fa) ⟨[.ref a],[]⟩) (λr s'=>r=.ok (.ret (.bool true))/\OldK s₁.heap s'.heap/\s'.os=s₁.os/\AllBare s'.gens) s₁) :
  WalkO q loose XP YP l.row.toRowW d [] (λf vs=>PySem.call f vs):=by
 intro w s₀ s₁ mg mb G Y fa o pm cd doc dV kV ho hd Ed hD JU hg args vals as Hc P8 K_ Hd SX;obtain rfl:dV=.none:=Dflts.none hD Io;obtain rfl:kV=.none:=Dflts.noKw hD;obtain⟨a,vs,ns,rfl,rfl,Ip,hints,hlen⟩:=sD hn Hc Hd;refine enter_call (codeAny_mono (call w s₀ s₁ mg mb fa o pm cd doc a vs ns G Y ho (fd_plain hd) Ed JU Ip hints hlen hg) λr s' hq=>?_);obtain⟨rfl,h2,h3,h4⟩:=hq;exact⟨.inl ⟨.bool true,.bool true,[],rfl,λ_=>rfl,.bool true,sE l _,λ_=>⟨List.Pairwise.nil,λ_ hm=>(nomatch hm)⟩⟩,h2,h3,h4⟩
section
end
end Oi
namespace L2
open PySem PySem.Spec PyProof.Rows
theorem lb:∀{vs:List Value}{ns:List Int},IntsAre vs ns->Vals (ns.map V.int) vs
 |_,_,.nil=>.nil
 |_,_,.cons n t h=>.cons ⟨t,rfl⟩ (lb h)
def zQ(H:Hp):Prop:=∀b,H b=none\/∃o xs,H b=some (.EJ o (.lst xs))
theorem uw{K:PySem.W.Frag}
  (KX:K.In s₁.heap) (EX:s₁.heap.Ns mainGlobals mg) (hb:s₁.heap.Ns builtinsNs mb) (Oj:∀x:Str,x≠"__name__"->mb x=bootBuiltins x) (Ml:s₁.heap.NoLimit) (hg:s₁.gens=#[])
  (ha:s₁.heap.get? a=some {cls:=.type "list",data:=.seq vs.toArray}) (hi:IntsAre vs ns) (hl:ns.length<=sizeLine) (hr:fM k callerA)
  (F:∀base:Heap,K.In base->base.Ns mainGlobals mg->nS P w K mg base CX k fa fd [x] sp) (JV:∀(s:Shared) (u:Value),BindsTo s fd ⟨[u],[]⟩ [(x,u)])
  (FP:∀H:Hp,zQ H->D7 K H a (ns.map V.int)->sp [.ref a] H (λv _=>v=.bl true) λ_ _ _=>False)
  (Mm:∀H e s',CX [] H s₁ (λ_ _ _=>False) e s'->False) :
  codeAny (model P w) callerA (.call (.ref fa) ⟨[.ref a],[]⟩) (λr s'=>r=.ok (.ret (.bool true))/\OldK s₁.heap s'.heap/\s'.os=s₁.os/\AllBare s'.gens) s₁:=by
 have rv:=lb hi;have Mn:=hi.length;have core:∀H:Hp,zQ H->D7 K H a (ns.map V.int)->Ew P w H s₁.heap->(∀b,H b≠none->b=a)->(H a≠none->K.lookup a=none) ->
   codeAny (model P w) callerA (.call (.ref fa) ⟨[.ref a],[]⟩) (λr s'=>r=.ok (.ret (.bool true))/\OldK s₁.heap s'.heap/\s'.os=s₁.os/\AllBare s'.gens) s₁:=by
  intro H hO hS DE hA hK;have jf:∀{b:Addr} {o:Obj},s₁.heap.get? b=some o->H b=none->(l_ s₁.heap H).get? b=some o:=λe n=>t7 e n;have JR:∀{b:Addr} {o:Obj} {es:Array DictEntry} {ep:Nat},s₁.heap.get? b=some o->o.data=.dict es ep->H b=none:=λ{b o es ep} e d=>by
   cases q:H b with
   |none=>rfl
   |some u =>
    have e':b=a:=hA b (by rw[q];simp);subst e';rw[ha]at e;cases e;have d':Data.seq vs.toArray _=Data.dict es ep:=d;cases d'
  have K':∀{b:Addr} {m:Str->Option Value},s₁.heap.Ns b m->(l_ s₁.heap H).Ns b m:=λ{b m} ⟨o,es,ep,e,d,r⟩=>⟨o,es,ep,jf e (JR e d),d,r⟩
  have Ol:K.In (l_ s₁.heap H):=λb o e=>jf (KX b o e) (by
   cases q:H b with
   |none=>rfl
   |some u =>
    have e':b=a:=hA b (by rw[q];simp);subst e';rw[hK (by rw[q];simp)]at e;cases e)
  have hM:Mod K mg (l_ s₁.heap H):=⟨Ol,K' EX,⟨mb,K' hb,Oj⟩,let ⟨mc,h1,h2⟩:=Ml;⟨mc,K' h1,h2⟩⟩
  have e0:xi P w K mg (l_ s₁.heap H) callerA [] s₁ H:=⟨rfl,hM,λb o e=>wX e,Nat.le_of_eq (su _ _),trivial,λb hb=>absurd (show b∈([]:List Addr) from hb) (by simp),DE,.of_eq hg⟩
  refine codeAny_mono ((F _ Ol (K' EX)).run callerA [] s₁ H ⟨[.ref a],[]⟩ [.ref a] [.ref a] _ _ hr e0 (JV s₁ (.ref a)) (.cons rfl .nil) (FP H hO hS)) λr s' h=>?_;cases r with
  |error e=>exact(Mm H e s' h).elim
  |ok fl =>
   cases fl with
   |next=>exact False.elim h
   |brk=>exact False.elim h
   |cont=>exact False.elim h
   |ret u =>
    obtain⟨v,H',os,bare,un,Mo,r',q⟩:=h;have q':v=.bl true:=q;subst q';obtain rfl:u=Value.bool true:=r';refine⟨rfl,OldK.of_keep λb o e=>?_,os,bare⟩;cases q:H b with
    |none=>exact un.keep b o e q (by intro z;exact absurd (show b∈([]:List Addr) from z) (by simp)) (by simp)
    |some u =>
     rcases hO b with z|⟨ob,xs,z⟩
     ·rw[q]at z;cases z
     ·have z2:=un.EW b ob _ z;obtain⟨e1,_⟩:=DE b _ z;obtain⟨e2,_⟩:=Mo b _ z2;rw[e]at e1;cases e1;exact e2
 cases hk:K.lookup a with
 |some o =>
  have e:=KX a o hk;rw[ha]at e;cases e;refine core (λ_=>none) (λ_=>.inl rfl) (.inr ⟨_,vs.toArray,_,hk,rfl,rfl,rfl,by rw[List.size_toArray,Mn];exact hl,by simpa using rv⟩) (λb u z=>by have z':(none:Option HO)=some u:=z;cases z') (λb z=>absurd rfl z) λz=>absurd rfl z
 |none =>
  refine core (λb=>if b=a then some (.EJ {cls:=.type "list",data:=.seq vs.toArray} (.lst (ns.map V.int))) else none) (λb=>?_) (.inl (.inr ⟨{cls:=.type "list",data:=.seq vs.toArray},if_pos rfl⟩)) (λb u z=>?_) (λb z=>?_) λ_=>hk
  ·by_cases hb:b=a
   ·exact .inr ⟨_,_,if_pos hb⟩
   ·exact .inl (if_neg hb)
  ·by_cases hb:b=a
   ·have z':=(if_pos hb).symm.trans z;cases z';subst hb;exact⟨ha,by rw[List.length_map];exact hl,vs,_,rv,ha⟩
   ·have z':=(if_neg hb).symm.trans z;cases z'
  ·by_cases hb:b=a
   ·exact hb
   ·exact absurd (if_neg hb) z
theorem xo{l:PySem.W.OpenLaw}{K:Params->PySem.W.Frag}{CX:World->Jj}{sp:World->Sp}
  (hn:l.most=some n) (P9:n<=sizeLine) (Io:d.params.defaults=[]) (hr:fM k callerA)
  (hY:∀(w:World) (h:Heap),YP w h->(K w.params).In h)
  (F:∀(w:World) (mg:Str->Option Value) (fa:Addr) (h:Heap),(K w.params).In h->h.Ns mainGlobals mg->mg d.name=some (.ref fa) ->
   ∃fd:FuncData,(∀(s:Shared) (u:Value),BindsTo s fd ⟨[u],[]⟩ [(x,u)]) /\
    ∀base:Heap,(K w.params).In base->base.Ns mainGlobals mg->nS l.prog w (K w.params) mg base (CX w) k fa fd [x] (sp w))
  (FP:∀(w:World) (H:Hp) (a:Addr) (ns:List Int),ns.length<=n->zQ H->D7 (K w.params) H a (ns.map V.int)->sp w [.ref a] H (λv _=>v=.bl true) λ_ _ _=>False)
  (Mm:∀(w:World) (H:Hp) (s:Shared) (e:Value) (s':Shared),CX w [] H s (λ_ _ _=>False) e s'->False) :
  PySem.W.WalkO q loose XP YP l.row.toRowW d [] (λf vs=>PySem.call f vs):=by
 refine Oi.nV hn Io λw s₀ s₁ mg mb fa o pm cd doc a vs ns G Y ho hd Ed JU Ip hints hlen hg=>?_;have KX:=hY w _ Y;obtain⟨fd,hb,hF⟩:=F w mg fa _ KX G.T.g JU;exact uw KX G.T.g G.T.b G.T.builtins G.T.nolimit hg Ip hints (Nat.le_trans hlen P9) hr hF hb (λH hO hS=>FP w H a ns hlen hO hS) λH e s'=>Mm w H s₁ e s'
noncomputable def fe(s:Stmt):Arguments:=match s with
 |.FunctionDef _ a _ _ _ _ _ _ _ _=>a
 |_=>{posonlyargs:=[],args:=[],vararg:=none,kwonlyargs:=[],kw_defaults:=[],kwarg:=none,defaults:=[]}
noncomputable def cP(s:Stmt):List Stmt:=match s with
 |.FunctionDef _ _ b _ _ _ _ _ _ _=>b
 |_=>[]
noncomputable def aQ(s:Stmt):Scope:=match s with
 |.FunctionDef _ _ _ _ _ _ sc _ _ _=>sc
 |_=>{kind:=.function,names:=[],isGenerator:=false,isCoroutine:=false}
abbrev Hx:Jj:=λ_ _ _ _ _ _=>False
abbrev E0:XK:=λ_ _ _=>False
theorem BL:Passes Hx X E0:=λ_ _ _ _ _ _ _ h=>h.elim
structure Iq(K:PySem.W.Frag)(x qual:Str)(st:Stmt)(f:Addr)(fd:FuncData):Prop where
 ex:∃(oc:Value) (od:Option Addr) (kV doc pm:Value) (an:Option Addr) (EK ct:Value) (JS:Array (Option Value)),
  fd=PySem.W.fnOf x qual (fe st) (cP st) (aQ st) .none kV doc pm an EK ct/\K.lookup f=some ⟨oc,od,.func fd,JS⟩/\PySem.W.codeIn K EK qual=true
 kp:PySem.W.keepIn K (.ref f)=true
section
variable{P:Program}{w:World}{K:PySem.W.Frag}{mg:Str->Option Value}{base:Heap}
theorem Iq.ok{st:Stmt}(F:Iq K x qual st f fd)(S:dS N ps (aQ st))(len:∀vs H Q E,sp vs H Q E->vs.length=ps.length)
  (GA:∀(EK:Value) (A:Around) (outer:List Env) (s:Shared) (H:Hp) (vs:List V) (Q:VK) (E:XK),fM k (A.deeper (envOfC qual (aQ st) s.heap.objs.size f EK))->sp vs H Q E ->
   ∃t,EA (pO Hx P w K mg base N qual (aQ st) f EK A outer s H E).JN (cP st) t/\t {nx:=λ_ H'=>Q .DF H',rt:=Q} (start N vs) H):nS P w K mg base Hx (k+1) f fd ps sp:=by
 obtain⟨oc,od,kV,doc,pm,an,EK,ct,JS,rfl,lk,Ed⟩:=F.ex;refine BH lk Ed S len λA outer s H vs Q E hr FP=>?_;obtain⟨t,h,q⟩:=GA EK A outer s H vs Q E hr FP;exact⟨t,h.JN,q⟩
theorem zR{st:Stmt}{kV doc pm EK ct:Value}(l:K.lookup f=some ⟨oc,od,.func (PySem.W.fnOf x qual (fe st) (cP st) (aQ st) .none kV doc pm an EK ct),JS⟩)
  (c:PySem.W.codeIn K EK qual=true) (k:PySem.W.keepIn K (.ref f)=true):Iq K x qual st f (PySem.W.fnOf x qual (fe st) (cP st) (aQ st) .none kV doc pm an EK ct):=⟨⟨oc,od,kV,doc,pm,an,EK,ct,JS,rfl,l,c⟩,k⟩
end
theorem sF(h:n<=1000):n<sizeLine:=Nat.lt_of_le_of_lt h (by decide)
section
end
def zS(H H':Hp):Prop:=∀b o,H b=some o->H' b=some o
section
variable{κ:Type}[DecidableEq κ]
noncomputable def cX(kvs:List (κ×V))(k:κ):Option V:=(kvs.find? λkv=>decide (kv.1=k)).map (·.2)
noncomputable def putK(kvs:List (κ×V))(k:κ)(v:V):List (κ×V) :=
 if (kvs.any λkv=>decide (kv.1=k))=true then kvs.map (λkv=>if kv.1=k then(kv.1,v) else kv) else kvs++[(k,v)]
theorem dH{p:κ×V}{k:κ}(e:p.1=k):cX (p::r) k=some p.2:=by simp[cX,List.find?_cons,e]
theorem dI{p:κ×V}{k:κ}(e:¬p.1=k):cX (p::r) k=cX r k:=by simp[cX,List.find?_cons,e]
theorem gn(k:κ):∀kvs:List (κ×V),(kvs.any λkv=>decide (kv.1=k))=(cX kvs k).isSome
 |[]=>rfl
 |p::r=>by
  rw[List.any_cons];by_cases e:p.1=k
  ·simp only[dH e,decide_eq_true e,Bool.true_or,Option.isSome_some]
  ·rw[dI e,decide_eq_false e,Bool.false_or];exact gn k r
theorem iB(kvs:List (κ×V))(k:κ)(v:V):(putK kvs k v).length<=kvs.length+1:=by
 unfold putK;split
 ·rw[List.length_map];omega
 ·rw[List.length_append,List.length_cons,List.length_nil];omega
theorem uA{k:κ}(v:V)(h:cX kvs k=none):putK kvs k v=kvs++[(k,v)]:=by
 unfold putK;rw[gn,h];exact if_neg (by decide)
theorem iR.dJ(r:iR o u):o.isSome=u.isSome:=by
 cases o with
 |none=>cases u with
  |none=>rfl
  |some _=>exact(show False from r).elim
 |some _=>cases u with
  |none=>exact(show False from r).elim
  |some _=>rfl
theorem iR.getD(r:iR o u)(rd:RelV d d'):RelV (o.getD d) (u.getD d'):=by
 cases o with
 |none=>cases u with
  |none=>exact rd
  |some _=>exact(show False from r).elim
 |some _=>cases u with
  |none=>exact(show False from r).elim
  |some _=>exact r
theorem KV.val(r:KV kvs vs)(k:κ):iR (cX kvs k) (valueAt vs k):=by
 unfold KV at r;induction r with
 |nil=>exact True.intro
 |@cons p q ps qs h t ih =>
  obtain⟨h1,h2⟩:=h;by_cases e:p.1=k
  ·have e':q.1=k:=h1.symm.trans e;have b:valueAt (q::qs) k=some q.2:=by simp[valueAt,List.find?_cons,e']
   rw[dH e,b];exact h2
  ·have e':¬q.1=k:=λz=>e (h1.trans z);have b:valueAt (q::qs) k=valueAt qs k:=by simp[valueAt,List.find?_cons,e']
   rw[dI e,b];exact ih
theorem KV.any(r:KV kvs vs)(k:κ):(kvs.any λkv=>decide (kv.1=k))=vs.any λkv=>decide (kv.1=k):=by
 unfold KV at r;induction r with
 |nil=>rfl
 |cons h t ih=>rw[List.any_cons,List.any_cons,ih,h.1]
theorem KV.zT(r:KV kvs vs)(k:κ)(ry:RelV y u):
  KV (kvs.map λkv=>if kv.1=k then(kv.1,y) else kv) (vs.map λkv=>if kv.1=k then(kv.1,u) else kv):=by
 unfold KV at r ⊢;induction r with
 |nil=>exact .nil
 |@cons p q ps qs h t ih =>
  rw[List.map_cons,List.map_cons];refine .cons ?_ ih;obtain⟨h1,h2⟩:=h;by_cases e:p.1=k
  ·rw[if_pos e,if_pos (h1.symm.trans e)];exact⟨h1,ry⟩
  ·rw[if_neg e,if_neg (λz=>e (h1.trans z))];exact⟨h1,h2⟩
theorem KV.put(r:KV kvs vs)(k:κ)(ry:RelV y u):KV (putK kvs k y) (stored vs k u):=by
 unfold putK stored;rw[r.any k];by_cases e:(vs.any λkv=>decide (kv.1=k))=true
 ·rw[if_pos e,if_pos e];exact r.zT k ry
 ·rw[if_neg e,if_neg e];exact Paired.snoc r ⟨rfl,ry⟩
theorem KV.length(r:KV kvs vs):kvs.length=vs.length:=Paired.length r
end
theorem lh(r:RelV (kV k) u):(aM P w).is k u=true:=by
 cases k with
 |inl i=>obtain⟨t,e⟩:=(show ∃t,u=Value.int i t from r);subst e;exact nN P w i t
 |inr x=>obtain⟨t,e⟩:=(show ∃t,u=Value.str x t from r);subst e;exact nO P w x t
theorem lj:∀{ks:List Key}{us:List Value},Vals (ks.map kV) us->ItemsAre (aM P w) ks us
 |[],_,r=>by rw[List.map_nil]at r;cases r;exact .nil
 |k::ks,_,r=>by
  rw[List.map_cons]at r;cases r with
  |cons h t=>exact .cons (lh h) (lj t)
abbrev KT(H:Hp):List (List Key×V)->List (List Key×Addr×Value)->Prop:=Paired λp q=>p.1=q.1/\H q.2.1=some (.tup (p.1.map kV))/\RelV p.2 q.2.2
theorem KT.val(r:KT H kvs xs)(k:List Key):iR (cX kvs k) ((atKey xs k).map (·.2)):=by
 induction r with
 |nil=>exact True.intro
 |@cons p q ps qs h t ih =>
  obtain⟨h1,_,h2⟩:=h;by_cases e:p.1=k
  ·have e':q.1=k:=h1.symm.trans e;have b:atKey (q::qs) k=some q.2:=by simp[atKey,List.find?_cons,e']
   rw[dH e,b];exact h2
  ·have e':¬q.1=k:=λz=>e (h1.trans z);have b:atKey (q::qs) k=atKey qs k:=by simp[atKey,List.find?_cons,e']
   rw[dI e,b];exact ih
theorem KT.zT(r:KT H kvs xs)(k:List Key)(ry:RelV y u):
  KT H (kvs.map λkv=>if kv.1=k then(kv.1,y) else kv) (xs.map (putAt k u)):=by
 induction r with
 |nil=>exact .nil
 |@cons p q ps qs h t ih =>
  rw[List.map_cons,List.map_cons];refine .cons ?_ ih;obtain⟨h1,h2,h3⟩:=h;unfold putAt;by_cases e:p.1=k
  ·rw[if_pos e,if_pos (h1.symm.trans e)];exact⟨h1,h2,ry⟩
  ·rw[if_neg e,if_neg (λz=>e (h1.trans z))];exact⟨h1,h2,h3⟩
theorem KT.put(r:KT H kvs xs)(k:List Key)(hb:H b=some (.tup (k.map kV)))(ry:RelV y u):
  KT H (putK kvs k y) (storedH xs k b u):=by
 have e:(kvs.any λkv=>decide (kv.1=k))=(atKey xs k).isSome:=by
  rw[gn,(r.val k).dJ,Option.isSome_map]
 unfold putK storedH;rw[e];by_cases q:(atKey xs k).isSome=true
 ·rw[if_pos q,if_pos q];exact r.zT k ry
 ·rw[if_neg q,if_neg q];exact Paired.snoc r ⟨rfl,hb,ry⟩
theorem KT.keeps(r:KT H kvs xs)(ht:∀b ys,H b=some (.tup ys)->H' b=some (.tup ys)):KT H' kvs xs :=
 Paired.zt r λ_ _ z=>⟨z.1,ht _ _ z.2.1,z.2.2⟩
section
theorem yV(ok:Ew P w H h)(e:Rd H a u):bp P w H h a u:=e.ok ok
theorem jw(ok:Ew P w H h)(e:Rd H a (.dK kvs)):kvs.length<=sizeLine/\(a==sysModules)=false/\∃vs,KV kvs vs/\h.DictOf (aM P w) a vs :=
 show bp P w H h a (.dK kvs) from yV ok e
theorem yW(ok:Ew P w H h)(e:H a=some (.dK kvs)):kvs.length<=sizeLine/\(a==sysModules)=false/\∃vs,KV kvs vs/\h.DictOf (aM P w) a vs:=jw ok (.inl e)
theorem g_(ok:Ew P w H h)(e:H a=some (.tup (ks.map kV))):(tupleKind (aM P w)).is h ks a:=by
 obtain⟨_,A',r,o,h1,h2,n,h3⟩:=(show bp P w H h a (.tup (ks.map kV)) from ok a _ e)
 exact⟨o,A'.toArray,n,h1,h2,h3,by simpa using lj r⟩
theorem jx(ok:Ew P w H h)(e:Rd H a (.dT kvs)):kvs.length<=sizeLine/\(a==sysModules)=false /\
  ∃xs,KT H kvs xs/\h.DictOfH (tupleKind (aM P w)) a xs:=by
 obtain⟨z,y,xs,r,o,es,ep,h1,h2,h3,h4,h5⟩:=(show bp P w H h a (.dT kvs) from yV ok e)
 refine⟨z,y,xs,r,o,es,ep,h1,h2,h3,h4,λx hx=>?_,h5⟩;have all:∀{l:List (List Key×V)} {m:List (List Key×Addr×Value)},KT H l m->∀x∈m,(tupleKind (aM P w)).is h x.1 x.2.1:=by
  intro l m q;induction q with
  |nil=>intro x hx;exact nomatch hx
  |@cons p q ps qs hq t ih =>
   intro x hx;rcases List.mem_cons.mp hx with e|hx
   ·subst e;exact g_ ok (by rw[<-hq.1];exact hq.2.1)
   ·exact ih x hx
 exact all r x hx
theorem BM(ok:Ew P w H h)(e:H a=some (.dT kvs)):kvs.length<=sizeLine/\(a==sysModules)=false /\
  ∃xs,KT H kvs xs/\h.DictOfH (tupleKind (aM P w)) a xs:=jx ok (.inl e)
end
def dC(H:Hp)(a:Addr)(y:V)(r:Option V):Prop :=
 (∃kvs k,Rd H a (.dK kvs)/\y=kV k/\r=cX kvs k)\/∃kvs k b,Rd H a (.dT kvs)/\y=.ref b/\H b=some (.tup (k.map kV))/\r=cX kvs k
def sG(H:Hp)(a:Addr)(y v:V)(H':Hp):Prop :=
 (∃kvs k,H a=some (.dK kvs)/\y=kV k/\kvs.length<sizeLine/\H'=upd H a (.dK (putK kvs k v))) \/
 ∃kvs k b,H a=some (.dT kvs)/\y=.ref b/\H b=some (.tup (k.map kV))/\kvs.length<sizeLine/\H'=upd H a (.dT (putK kvs k v))
theorem dC.k{H:Hp}{a:Addr}{kvs:List (Key×V)}{k:Key}(e:H a=some (.dK kvs)):dC H a (kV k) (cX kvs k):=.inl ⟨kvs,k,.inl e,rfl,rfl⟩
theorem sG.k{H:Hp}{a:Addr}{kvs:List (Key×V)}{k:Key}{v:V}(e:H a=some (.dK kvs))(hl:kvs.length<sizeLine):sG H a (kV k) v (upd H a (.dK (putK kvs k v))):=.inl ⟨kvs,k,e,rfl,hl,rfl⟩
section
theorem Inv.big(I:Inv X pins σ H s):sysModules<s.heap.objs.size:=by
 have h:mainGlobals<s.heap.objs.size:=(I.mod.glob.keeps I.bk).lt;exact Nat.lt_trans (by decide) h
theorem sH(hu:A.units+1<cLine)(I:Inv X pins σ H s)(g:dC H a y (some v))(ry:RelV y u)(h:∀w' s',Inv X pins σ H s'->RelV v w'->Q w' s'):
  wpAny (model X.prog X.w) A (getItem (.ref a) u) Q E s:=by
 rcases g with⟨kvs,k,e,ey,l⟩|⟨kvs,k,b,e,ey,eb,l⟩
 ·subst ey;obtain⟨z,hd,vs,rel,dd⟩:=jw I.DE e;obtain⟨w',hw,F2⟩:=iR.some_of (v:=v) (o:=valueAt vs k) (by rw[l];exact rel.val k);exact wpAny_getItem_of (lh ry) dd.mapOf hw (h w' _ (I.tok _) F2)
 ·subst ey;cases(show u=Value.ref b from ry);obtain⟨z,hd,xs,rel,dd⟩:=jx I.DE e;obtain⟨w',hw,F2⟩:=iR.some_of (v:=v) (o:=(atKey xs k).map (·.2)) (by rw[l];exact rel.val k);obtain⟨p,hp,Mp⟩:=Option.map_eq_some_iff.mp hw;refine wpAny_getItem_heap (tupleKind_room_in1 hu) (g_ I.DE eb) dd hp ?_;rw[Mp];exact h w' _ (I.tok _) F2
theorem BN(hu:A.units+1<cLine)(I:Inv X pins σ H s)(g:dC H a y o)(ry:RelV y u)(h:∀s',Inv X pins σ H s'->Q (.bool o.isSome) s'):
  wpAny (model X.prog X.w) A (compareOp .In u (.ref a)) Q E s:=by
 rcases g with⟨kvs,k,e,ey,l⟩|⟨kvs,k,b,e,ey,eb,l⟩
 ·subst ey;obtain⟨z,hd,vs,rel,dd⟩:=jw I.DE e;refine wpAny_in_of (lh ry) hd dd.mapOf ?_;rw[<-(rel.val k).dJ,<-l];exact h _ (I.tok _)
 ·subst ey;cases(show u=Value.ref b from ry);obtain⟨z,hd,xs,rel,dd⟩:=jx I.DE e;refine wpAny_in_heap (tupleKind_room_in1 hu) (g_ I.DE eb) hd dd ?_;have q:=(rel.val k).dJ;rw[Option.isSome_map]at q;rw[<-q,<-l];exact h _ (I.tok _)
theorem qT(hu:A.units+1<cLine)(I:Inv X pins σ H s)(g:dC H a y o)(ry:RelV y u)(h:∀s',Inv X pins σ H s'->Q (.bool (!o.isSome)) s'):
  wpAny (model X.prog X.w) A (compareOp .NotIn u (.ref a)) Q E s:=by
 rcases g with⟨kvs,k,e,ey,l⟩|⟨kvs,k,b,e,ey,eb,l⟩
 ·subst ey;obtain⟨z,hd,vs,rel,dd⟩:=jw I.DE e;refine wpAny_notIn_of (lh ry) hd dd.mapOf ?_;rw[<-(rel.val k).dJ,<-l];exact h _ (I.tok _)
 ·subst ey;cases(show u=Value.ref b from ry);obtain⟨z,hd,xs,rel,dd⟩:=jx I.DE e;refine wpAny_notIn_heap (tupleKind_room_in1 hu) (g_ I.DE eb) hd dd ?_;have q:=(rel.val k).dJ;rw[Option.isSome_map]at q;rw[<-q,<-l];exact h _ (I.tok _)
theorem qU(I:Inv X pins σ H s)(mu:JI (H a))(hs:Heap.SameBut a s.heap h')(he:∃q,h'.get? a=some q)(new:bp X.prog X.w (upd H a ob) h' a ob):
  Inv X pins σ (upd H a ob) {s with heap:=h',toks:=t' } :=
 I.write (x:=a) (e:=a) mu (.inl rfl) (λb q hb z=>(hs.2 b hb).trans z) he new
theorem zU(z:kvs.length<=sizeLine)(hd:(a==sysModules)=false)(rel:KV kvs vs)(dd:h'.DictOf (aM P w) a vs):
  bp P w H' h' a (.dK kvs):=⟨z,hd,vs,rel,dd⟩
theorem sI(hu:A.units+1<cLine)(I:Inv X pins σ H s)(g:sG H a y v H')(ry:RelV y u)(rv:RelV v r)(h:∀s',Inv X pins σ H' s'->Q () s'):
  wpAny (model X.prog X.w) A (setItem (.ref a) u r) Q E s:=by
 rcases g with⟨kvs,k,e,ey,l,eH⟩|⟨kvs,k,b,e,ey,eb,l,eH⟩
 ·subst ey eH;obtain⟨z,hd,vs,rel,dd⟩:=yW I.DE e;have hz:vs.length<=sizeLine:=by rw[<-rel.length];exact z
  have hl:(putK kvs k v).length<=sizeLine:=by have:=iB kvs k v;omega
  refine wpAny_setItem_pairs (hsz:=hz) (lh ry) dd λh' Lb hs=>h _ ?_;have he:∃q,h'.get? a=some q:=let ⟨q,_,_,hq,_⟩:=Lb;⟨q,hq⟩;exact qU I (by rw[e];exact True.intro) hs he (zU hl hd (rel.put k rv) Lb)
 ·subst ey eH;cases(show u=Value.ref b from ry);obtain⟨z,hd,xs,rel,dd⟩:=BM I.DE e;have hz:xs.length<=sizeLine:=by rw[<-Paired.length rel];exact z
  have hl:(putK kvs k v).length<=sizeLine:=by have:=iB kvs k v;omega
  refine wpAny_setItem_heap (hsz:=hz) (tupleKind_room_in1 hu) (g_ I.DE eb) dd λh' Lb hs=>h _ ?_;obtain⟨q,es,ep,hq,h2,h3,h4,_,h5⟩:=Lb;refine qU I (by rw[e];exact True.intro) hs ⟨q,hq⟩ ⟨hl,hd,_,(rel.put k eb rv).keeps λc ys ec=>?_,q,es,ep,hq,h2,h3,h4,h5⟩;rw[aj (t6 ec e (λz=>nomatch z))];exact ec
end
section
end
def zV(i:Expr):Prop:=∀ov iv,subscripted i false ov iv=operate [ov,iv] (getItem ov iv)
theorem xp{T id:String}
  (hl:typeLookup (.type T) "__getitem__"=pure (some (.builtin id))) (hs:zV slice)
  (h:wpAny (model prog w) A (eval value env) (λo s₁=>wpAny (model prog w) A (eval slice env) (λi s₂=>s₂.TypeIs o T/\wpAny (model prog w) A (getItem o i) Q E s₂) E s₁) E s) :
  wpAny (model prog w) A (eval (.Subscript value slice pos) env) Q E s:=by
 refine Subscript_ (wpAny_mono h (λo s₁ h₁=>wpAny_mono h₁ (λi s₂ h₂=>?_) λ_ _ x=>x) λ_ _ x=>x);obtain⟨hT,h₂⟩:=h₂;unfold subscriptTail;refine wpAny_bind ?_;rw[getitemInPython_of_ne hT.not_modules];refine wpAny_bind (wpAny_specialOf hT hl ?_);have fin:wpAny (model prog w) A (subscripted slice false o i) (λr s₃=>wpAny (model prog w) A (letTemporaryGo value o r >>= λ_=>pure r) Q E s₃) E s₂:=by
  rw[hs o i];exact wpAny_operating (wpAny_mono h₂ (λr s₃ h₃=>wpAny_bind (wpAny_letTemporaryGo (wpAny_pure h₃))) λ_ _ x=>x)
 first
  |exact wpAny_pure (wpAny_bind fin)
  |exact wpAny_bind (wpAny_pure (wpAny_bind fin))
  |exact wpAny_bind fin
theorem nW(I:Inv X pins σ H s)(g:dC H a y o):s.TypeIs (.ref a) "dict":=by
 rcases g with⟨kvs,k,e,_,_⟩|⟨kvs,k,b,e,_,_,_⟩
 ·obtain⟨_,_,vs,_,dd⟩:=jw I.DE e;exact dd.typeIs
 ·obtain⟨_,_,xs,_,dd⟩:=jx I.DE e;exact dd.typeIs
def BO(td ty:TE):TE:=λσ H Q=>td σ H λx H1=>ty σ H1 λy H2=>∃a v,x=.ref a/\dC H2 a y (some v)/\Q v H2
def Dg(ty td:TE):TE:=λσ H Q=>ty σ H λy H1=>td σ H1 λx H2=>∃a o,x=.ref a/\dC H2 a y o/\Q (.bl o.isSome) H2
def xq(ty td:TE):TE:=λσ H Q=>ty σ H λy H1=>td σ H1 λx H2=>∃a o,x=.ref a/\dC H2 a y o/\Q (.bl (!o.isSome)) H2
section
theorem xr(hu:X.A.units+1<cLine)(ho:PE X o td)(hi:PE X i ty)(hs:zV i):PE X (.Subscript o i pos) (BO td ty):=by
 intro pins s σ H Q I h;refine xp PySem.F.slot_dict_getitem.lookup hs (DG (ho pins s σ H _ I h) λu s1 ⟨x,H1,I1,rx,q1⟩=>DG (hi pins s1 σ H1 _ I1 q1) λiv s2 ⟨y,H2,I2,ry,a,v,ex,g,q2⟩=>?_);subst ex;obtain rfl:u=Value.ref a:=rx;exact⟨nW I2 g,sH hu I2 g ry λw' s3 I3 F2=>⟨v,H2,I3,F2,q2⟩⟩
theorem uB(hu:X.A.units+1<cLine)(hi:PE X i ty)(ho:PE X o td):PC X .In i o (Dg ty td):=by
 intro pins s σ H Q I h;refine DG (hi pins s σ H _ I h) λiv s1 ⟨y,H1,I1,ry,q1⟩=>DG (ho pins s1 σ H1 _ I1 q1) λu s2 ⟨x,H2,I2,rx,a,ov,ex,g,q2⟩=>?_;subst ex;obtain rfl:u=Value.ref a:=rx;exact BN hu I2 g ry λs3 I3=>⟨.bl ov.isSome,H2,I3,rfl,q2⟩
theorem ll(hu:X.A.units+1<cLine)(hi:PE X i ty)(ho:PE X o td):PC X .NotIn i o (xq ty td):=by
 intro pins s σ H Q I h;refine DG (hi pins s σ H _ I h) λiv s1 ⟨y,H1,I1,ry,q1⟩=>DG (ho pins s1 σ H1 _ I1 q1) λu s2 ⟨x,H2,I2,rx,a,ov,ex,g,q2⟩=>?_;subst ex;obtain rfl:u=Value.ref a:=rx;exact qT hu I2 g ry λs3 I3=>⟨.bl (!ov.isSome),H2,I3,rfl,q2⟩
end
theorem uC(h:Heap)(hb:sysModules<h.objs.size):bp P w H (h.push {cls:=.type "dict",data:=.dict #[]}) h.objs.size (.dK []) :=
 ⟨Nat.zero_le _,beq_eq_false_iff_ne.mpr (Ne.symm (Nat.ne_of_lt hb)),[],.nil,Heap.DictOf.new h⟩
def zW:TE:=λ_ H Q=>∀p,H p=none->Q (.ref p) (upd H p (.dK []))
section
theorem nX:PE X (.Dict [] [] pos) zW:=λpins s σ H Q I h =>
 wpAny_Dict_empty ⟨.ref s.heap.objs.size,_,I.laid (a:=s.heap.objs.size) (o:=.dK []) (t':=s.toks) (λ_ _ q=>Heap.get?_push_of_some _ q) (Nat.le_refl _) (uC s.heap I.big),rfl,h _ (I.DE.fresh (Nat.le_refl _))⟩
end
structure M2(X:Cx)(o:Expr)(m:Str)(apos:Pos)(e f:Expr)(Dx:Pos):Prop where
 base:attributeBase o m X.env (eval o X.env)=eval o X.env
 G1:((backTo Dx (starEach [e,f] X.env)).all (λx=>!x.1)&&(backToKw Dx (keywordEach [] X.env)).all (λx=>x.1.isSome)
  && decide (([e,f]:List Expr).length+([]:List Keyword).length+(if ([]:List Keyword).isEmpty then 0 else 1)<30))=true
 line:(apos.endLine==Dx.line)=true
 trees:backTo Dx (starEach [e,f] X.env)=[(false,eval e X.env),(false,eval f X.env)]
def Om(H:Hp)(a:Addr):Prop:=(∃kvs,Rd H a (.dK kvs))\/∃kvs,Rd H a (.dT kvs)
theorem zX(I:Inv X pins σ H s)(d:Om H a):
  s.TypeIs (.ref a) "dict"/\(∀b,Value.ref a=.ref b->∃ob,s.heap.get? b=some ob/\ob.dict=none)/\(a==sysModules)=false:=by
 rcases d with⟨kvs,e⟩|⟨kvs,e⟩
 ·obtain⟨_,hd,vs,_,dd⟩:=jw I.DE e;refine⟨dd.typeIs,λb q=>?_,hd⟩;cases q;obtain⟨ob,_,_,h1,h2,_⟩:=dd;exact⟨ob,h1,h2.2.1⟩
 ·obtain⟨_,hd,xs,_,dd⟩:=jx I.DE e;refine⟨dd.typeIs,λb q=>?_,hd⟩;cases q;obtain⟨ob,_,_,h1,h2,_⟩:=dd;exact⟨ob,h1,h2.2.1⟩
section
theorem zY(hu:A.units+1<cLine)(I:Inv X pins σ H s)(g:dC H a y o)(ry:RelV y u)(rd:RelV d r)(h:∀w' s',Inv X pins σ H s'->RelV (o.getD d) w'->Q w' s'):
  wpAny (model X.prog X.w) A (call (.builtin "dict.get") [.ref a,u,r]) Q E s:=by
 rcases g with⟨kvs,k,e,ey,l⟩|⟨kvs,k,b,e,ey,eb,l⟩
 ·subst ey;obtain⟨z,hd,vs,rel,dd⟩:=jw I.DE e;refine call_meetsIn PySem.F.slot_dict_get dd.typeIs PySem.F.entry_dict_get (PySem.F.args_dict_get_3 _ _ _) (meets_dict_get_default (aM X.prog X.w) a (lh ry) hd r) ⟨_,dd.mapOf,h _ _ (I.tok _) ?_⟩;rw[l];exact(rel.val k).getD rd
 ·subst ey;cases(show u=Value.ref b from ry);obtain⟨z,hd,xs,rel,dd⟩:=jx I.DE e;refine call_meetsIn PySem.F.slot_dict_get dd.typeIs PySem.F.entry_dict_get (PySem.F.args_dict_get_3 _ _ _) (meetsH_dict_get_default (tupleKind (aM X.prog X.w)) a b hd r) ⟨tupleKind_room_in1 hu,k,xs,g_ I.DE eb,dd,h _ _ (I.tok _) ?_⟩;rw[l];exact(rel.val k).getD rd
end
def zZ(td ty tx:TE):TE:=λσ H Q=>td σ H λx H1=>∃a,x=.ref a/\Om H1 a/\ty σ H1 λy H2=>tx σ H2 λz H3=>∃o,dC H3 a y o/\Q (o.getD z) H3
section
theorem uD(hu:X.A.units+1<cLine)(ho:PE X o td)(he:PE X e ty)(hf:PE X f tx)(m:M2 X o "get" apos e f Dx):PE X (.Call (.Attribute o "get" apos) [e,f] [] Dx) (zZ td ty tx):=by
 intro pins s σ H Q I h;refine wpAny_Call_method m.base m.G1 m.line PySem.F.plainAttrs_dict PySem.F.slot_dict_get PySem.F.type_dict_get (DG (ho pins s σ H _ I h) λu s1 ⟨x,H1,I1,rx,a,ex,d,q1⟩=>?_);subst ex;obtain rfl:u=Value.ref a:=rx;obtain⟨t1,t2,_⟩:=zX I1 d;refine⟨t1,t2,?_⟩;rw[m.trees];refine Calls.callWith_builtin rfl (Calls.evalArgs_plain (Calls.spliced_cons (DG (he pins s1 σ H1 _ I1 q1) λiv s2 ⟨y,H2,I2,ry,q2⟩ =>
  Calls.spliced_cons (DG (hf pins s2 σ H2 _ I2 q2) λfv s3 ⟨z,H3,I3,rz,ov,g,q3⟩=>Calls.spliced_nil ?_))))
 exact zY hu I3 g ry rz λw' s4 I4 F2=>⟨_,H3,I4,F2,q3⟩
end
section
end
section
end
end L2
namespace D8
open PySem PySem.Builtin.Str PySem.StrLaws
noncomputable def low(c:Nat):Bool:=decide (97<=c)&&decide (c<=122)
noncomputable def d_(l:List Nat):Bool:=decide (1<=l.length)&&decide (l.length<=8)&&l.all low
theorem cG(l:List Nat):d_ l=true↔1<=l.length/\l.length<=8/\∀c∈l,97<=c/\c<=122:=by
 simp[d_,low,List.all_eq_true,and_assoc]
theorem nY(h:d_ l=true):47∉l:=λm=>by
 have:=((cG l).mp h).2.2 47 m;omega
theorem xt{x y:Str}(h:x.cps.toList=y.cps.toList):x=y:=by
 cases x;cases y;congr
 exact Array.toList_inj.mp h
theorem mB(x:Str)(c i:Nat):At x ⟨#[c]⟩ x.length i↔x.cps.toList[i]?=some c:=subAt_one x c i
theorem z_(h:x.cps.toList=a++c::b)(hn:c∉a)(limit:Nat)(hl:1<=limit):∃r,occurrences x ⟨#[c]⟩ 0 x.length limit=a.length::r:=by
 have EF:x.cps.toList[a.length]?=some c:=by rw[h];simp
 rcases occ_head x ⟨#[c]⟩ limit hl with⟨_,G2⟩|⟨i,r,e,hi,Mq⟩
 ·exact absurd ((mB x c a.length).mpr EF) (G2 _)
 ·have e1:=(mB x c i).mp hi;have:i=a.length:=by
   rcases Nat.lt_trichotomy i a.length with z|z|z
   ·exfalso
    rw[h,List.getElem?_append_left z]at e1;exact hn (List.mem_of_getElem? e1)
   ·exact z
   ·exact absurd ((mB x c a.length).mpr EF) (Mq _ z)
  subst this;exact⟨r,e⟩
theorem pS(h:c∉x.cps.toList):Txt.split x ⟨#[c]⟩=[x]:=by
 unfold Txt.split;split
 ·rfl
 ·rw[if_pos];rcases occ_head x ⟨#[c]⟩ (x.length+1) (by omega) with⟨e,_⟩|⟨i,r,e,hi,_⟩
  ·rw[e];rfl
  ·exact absurd (List.mem_of_getElem? ((mB x c i).mp hi)) h
theorem nZ(c:Nat)(h:c<256)(x:Str):¬(PySem.Builtin.Str.strKind x<PySem.Builtin.Str.strKind ⟨#[c]⟩):=by
 have e:PySem.Builtin.Str.strKind ⟨#[c]⟩=1:=by simp[PySem.Builtin.Str.strKind,h]
 rw[e];unfold PySem.Builtin.Str.strKind;split
 ·omega
 ·split<;>omega
theorem uE(h:x.cps.toList=a++c::b)(hn:c∉a)(hc:c<256):∃r,Txt.split x ⟨#[c]⟩=⟨a.toArray⟩::r:=by
 obtain⟨r,e⟩:=z_ h hn (x.length+1) (by omega);have l1:(⟨#[c]⟩:Str).length=1:=rfl;have lx:x.length=a.length+1+b.length:=by
  have:=congrArg List.length h;simp[Str.length]at this ⊢;omega
 unfold Txt.split;rw[if_neg (by
  have h1:¬(x.length<(⟨#[c]⟩:Str).length):=by rw[l1];omega
  have h2:=nZ c hc x;simp[h1,h2]),if_neg (by rw[e];simp),partsBetween_eq,e]
 refine⟨_,congrArg (·::_) ?_⟩;apply xt;rw[strSub_toList,h];simp
noncomputable def sJ(i:Int):Str:=Str.ofString (toString i)
noncomputable def yX:Str:=⟨#[47]⟩
end D8
namespace L2
open PySem PySem.Spec PyProof.Rows
noncomputable def br(env:Env):List (Str×NameKind)->List (Str×Addr)->List (Str×Addr)
 |[],cs=>cs
 |(n,k)::r,cs=>br env r (if k==.free then(match env.cells.lookup n with|some a=>(n,a)::cs|none=>cs) else cs)
theorem dM(h:∀y∈scope.names,y.2=.free->∃a,env.cells.lookup y.1=some a):closureFor scope env=pure (br env scope.names []):=by
 unfold closureFor;generalize scope.names=names at h
 suffices H:∀cs,(forIn names cs (λ(x:Str×NameKind) (r:List (Str×Addr))=>if (x.2==NameKind.free)=true then do let a <-cellOf env x.1;pure (ForInStep.yield ((x.1,a)::r)) else pure (ForInStep.yield r)):Sem (List (Str×Addr)))=pure (br env names cs) by
  have:=H [];exact congrArg (λ(m:Sem (List (Str×Addr)))=>m >>= pure) this
 induction names with
 |nil=>intro cs;rfl
 |cons y r ih =>
  intro cs;obtain⟨n,k⟩:=y;rw[List.forIn_cons];have Oo:=ih λy hy=>h y (List.mem_cons_of_mem _ hy);by_cases hk:(k==NameKind.free)=true
  ·obtain⟨a,ha⟩:=h (n,k) List.mem_cons_self (by simpa using hk);have P_:env.cells.lookup n=some a:=ha;simp only[hk,if_true,cellOf,P_,br];exact Oo _
  ·simp only[hk,if_false,br];exact Oo _
theorem dU:∀(names:List (Str×NameKind)) (cs:List (Str×Addr)),(∀n c,cs.lookup n=some c->env.cells.lookup n=some c)->∀n c,(br env names cs).lookup n=some c->env.cells.lookup n=some c
 |[],_,h=>h
 |(m,k)::r,cs,h=>by
  unfold br;refine dU r _ λn c e=>?_;by_cases hk:(k==NameKind.free)=true
  ·rw[if_pos hk]at e;cases q:env.cells.lookup m with
   |none=>rw[q]at e;exact h n c e
   |some a =>
    rw[q]at e;simp only[List.lookup_cons]at e;cases hx:n==m with
    |true =>
     rw[hx]at e;have e':n=m:=by simpa using hx
     subst e';simp only at e;rw[q];exact e
    |false=>rw[hx]at e;exact h n c e
  ·rw[if_neg hk]at e;exact h n c e
theorem iC(ha:env.cells.lookup n=some a):∀(names:List (Str×NameKind)) (cs:List (Str×Addr)),cs.lookup n=some a->(br env names cs).lookup n=some a
 |[],_,h=>h
 |(m,k)::r,cs,h=>by
  unfold br;refine iC ha r _ ?_;by_cases hk:(k==NameKind.free)=true
  ·rw[if_pos hk];cases q:env.cells.lookup m with
   |none=>exact h
   |some b =>
    simp only[List.lookup_cons];cases hx:n==m with
    |true =>
     have e':n=m:=by simpa using hx
     subst e';rw[ha]at q;cases q;rfl
    |false=>exact h
  ·rw[if_neg hk];exact h
theorem fN(ha:env.cells.lookup n=some a):∀(names:List (Str×NameKind)) (cs:List (Str×Addr)),(n,NameKind.free)∈names->(br env names cs).lookup n=some a
 |[],_,h=>by cases h
 |(m,k)::r,cs,h=>by
  unfold br;rcases List.mem_cons.mp h with e|e
  ·cases e;refine iC ha r _ ?_;rw[if_pos (by decide),ha];simp[List.lookup_cons]
  ·exact fN ha r _ e
theorem bC{env:Env}:∀{names:List (Str×NameKind)}{x:Str}{k:NameKind},
  (names.map λ(n,k)=>if (k==NameKind.free&&env.scope.kind==.function&&env.kindOf n==some .cell) then(n,NameKind.cell) else(n,k)).lookup x=some k ->
  names.lookup x=some k\/(k=.cell/\names.lookup x=some .free)
 |[],_,_,h=>by simp at h
 |(n,k0)::r,x,k,h=>by
  have ih:=@bC env r x k;rw[List.map_cons]at h;by_cases hc:(k0==NameKind.free&&env.scope.kind==.function&&env.kindOf n==some .cell)=true
  ·simp only[if_pos hc,List.lookup_cons]at h;cases hx:x==n with
   |true =>
    rw[hx]at h;have hf:k0=.free:=by
     have:=(Bool.and_eq_true_iff.mp (Bool.and_eq_true_iff.mp hc).1).1;simpa using this
    refine .inr ⟨by simpa using h.symm,by simp[List.lookup_cons,hx,hf]⟩
   |false =>
    rw[hx]at h;rcases ih h with z|⟨z1,z2⟩
    ·exact .inl (by simp[List.lookup_cons,hx,z])
    ·exact .inr ⟨z1,by simp[List.lookup_cons,hx,z2]⟩
  ·simp only[if_neg hc,List.lookup_cons]at h;cases hx:x==n with
   |true=>rw[hx]at h;exact .inl (by simpa[List.lookup_cons,hx] using h)
   |false =>
    rw[hx]at h;rcases ih h with z|⟨z1,z2⟩
    ·exact .inl (by simp[List.lookup_cons,hx,z])
    ·exact .inr ⟨z1,by simp[List.lookup_cons,hx,z2]⟩
noncomputable def Et(X:Cx)(N:List Str)(scope:Scope)(C:Addr)(s:Shared)(H:Hp)(ex:List Addr):Cx where
 prog:=X.prog
 w:=X.w
 K:=X.K
 mg:=X.mg
 base:=X.base
 A:=X.A
 N:=N
 s₀:=s
 H₀:=H
 env:=compEnvC scope (br X.env scope.names []) C X.env
 outer:=X.stack
 stack:=X.stack
 ex:=ex
 fn:=λ_=>false
 calm:=X.calm
 pn:=[]
 xe:=λ_ _=>False
def dE(D N:List Str):Prop:=D.length=N.length/\∀(i:Nat) (y:Str),D[i]?=some y->N[i]?=some y\/y="."\/y=".."
theorem dE.refl(N:List Str):dE N N:=⟨rfl,λ_ _ h=>.inl h⟩
theorem dE.set{D N:List Str}(h:dE D N)(j:Nat){m:Str}(hm:m="."\/m=".."):dE (D.set j m) N:=by
 refine⟨by rw[List.length_set];exact h.1,λi y e=>?_⟩;by_cases hj:j=i
 ·subst hj;rw[List.getElem?_set,if_pos rfl]at e;split at e
  ·cases e;exact .inr hm
  ·cases e
 ·rw[List.getElem?_set_ne hj]at e;exact h.2 i y e
structure da(X:Cx)(N own:List Str)(scope:Scope):Prop where
 kind:scope.kind=.function
 Fz:∀y∈scope.names,y.2≠.cell
 names:∀y∈scope.names,y.2=.local->scope.names.lookup y.1=some .local
 nd:N.Nodup
 pre:N.take own.length=own
 loc:∀y∈scope.names,y.2=.local->y.1∈own\/y.1=".0"
 P':(".0":Str)∉N
 tail:dE (N.drop own.length) X.N
 free:∀y∈scope.names,y.2=.free->X.env.scope.names.lookup y.1=some .cell\/X.env.scope.names.lookup y.1=some .free
 dot:∀y∈scope.names,y.1≠"."/\y.1≠".."
theorem mem_lookup{names:List (Str×NameKind)}(h:names.lookup x=some k):(x,k)∈names:=PySem.mem_of_lookup h
theorem da.cells(S:da X N own scope)(ok:X.Ok):∀y∈scope.names,y.2=.free->∃a,X.env.cells.lookup y.1=some a:=λy hy hf=>by
 rcases S.free y hy hf with z|z
 ·exact ok.has y.1 (.inl z)
 ·exact ok.has y.1 (.inr z)
theorem uF(S:da X N own scope)(I:Inv X pins σ H s)
  (hC:s.heap.objs.size<=C) (Hy:s4.os=s.os) (hg:s4.gens=s.gens) (keep:∀b o,s.heap.get? b=some o->s4.heap.get? b=some o) (ns:∃m,s4.heap.Ns C m)
  (hex:∀b∈ex,gf X pins H b/\b<s.heap.objs.size):Inv (Et X N scope C s H ex) [] (List.replicate own.length none++σ) H s4:=by
 obtain⟨m0,JW⟩:=ns;have sub:=dU (env:=X.env) scope.names [] (λn c e=>by simp at e);have Mr:∀b∈ex,b<C:=λb hb=>Nat.lt_of_lt_of_le (hex b hb).2 hC;have tl:own.length<=N.length:=by have:=congrArg List.length S.pre;rw[List.length_take]at this;omega
 refine⟨⟨I.ok.mod,?_,I.ok.glob,I.ok.blt,hC,λx y c h1 h2=>I.ok.inj x y c (sub x c h1) (sub y c h2),λx hx=>?_,λx c h _=>absurd (show false=true from h) (by decide),I.ok.hd,I.ok.frames,.inl rfl,λb hb=>⟨Nat.ne_of_lt (Mr b hb),λx c e=>?_⟩,λb o e=>I.bs b o e,?_,λb o e hb=>?_,λb hb=>?_,I.stack,I.qP⟩,
  Hy,(by rw[hg];exact I.bare),Un.kept keep,⟨m0,JW,λi y v h1 h2 h3=>?_⟩,λx c e=>?_,I.DE.fresh hC,λx c e=>I.Ef x c (sub x c e),λp hp=>absurd (show p∈([]:List (Addr×Obj)) from hp) (by simp),I.DE.kept keep,?_⟩
 ·show(relabel scope X.env).kind=.function;exact S.kind
 ·
  have JX:(relabel scope X.env).names.lookup x=some .cell\/(relabel scope X.env).names.lookup x=some .free:=hx;have El:scope.names.lookup x=some .free:=by
   rcases JX with z|z
   ·rcases bC z with q|⟨_,q⟩
    ·exact absurd rfl (S.Fz _ (mem_lookup q))
    ·exact q
   ·rcases bC z with q|⟨q,_⟩
    ·exact q
    ·cases q
  obtain⟨a,ha⟩:=S.cells I.ok (x,.free) (mem_lookup El) rfl;exact⟨a,fN ha scope.names [] (mem_lookup El)⟩
 ·exact(hex b hb).1.2.2.2.2.1 x c (sub x c e)
 ·exact Nat.le_trans I.ok.Ht I.sz
 ·obtain⟨f0,f1,f2,f3,f4,f5⟩:=(hex b hb).1;rcases f3 with z|z
  ·exact I.ok.Gx b o e z
  ·exact absurd (Nat.lt_of_lt_of_le (Heap.lt_size e) (Nat.le_trans I.ok.Ht z)) (Nat.lt_irrefl _)
 ·intro EM;obtain⟨f0,f1,f2,f3,f4,f5⟩:=(hex b hb).1;rcases List.mem_cons.mp (I.jl b EM) with z|z
  ·exact f1 z
  ·exact f2 z
 ·
  have hi:own.length<=i:=by
   by_cases hi:i<own.length
   ·rw[List.getElem?_append_left (by simpa using hi),List.getElem?_replicate]at h2;split at h2<;>cases h2
   ·omega
  rw[List.getElem?_append_right (by simpa using hi),List.length_replicate]at h2;have Qa:(N.drop own.length)[i - own.length]?=some y:=by
   rw[List.getElem?_drop];have e:own.length+(i - own.length)=i:=by omega
   rw[e];exact h1
  have Oq:(relabel scope X.env).names.lookup y=some .local\/(relabel scope X.env).names.lookup y=some .cell\/(relabel scope X.env).names.lookup y=some .free:=h3;have El:scope.names.lookup y=some .free:=by
   rcases Oq with z|z|z
   ·rcases bC z with q|⟨q,_⟩
    ·exfalso
     have FA:y∈own:=by
      rcases S.loc (y,.local) (mem_lookup q) rfl with z|z
      ·exact z
      ·have z':y=".0":=z;exact absurd (List.mem_of_getElem? h1) (by rw[z'];exact S.P')
     obtain⟨j,hj,ej⟩:=List.getElem_of_mem FA;have Lc:N[j]?=some y:=by
      have e1:(N.take own.length)[j]?=some y:=by rw[S.pre,List.getElem?_eq_getElem hj,ej]
      rw[List.getElem?_take_of_lt hj]at e1;exact e1
     have:=jm S.nd Lc h1;omega
    ·cases q
   ·rcases bC z with q|⟨_,q⟩
    ·exact absurd rfl (S.Fz _ (mem_lookup q))
    ·exact q
   ·rcases bC z with q|⟨q,_⟩
    ·exact q
    ·cases q
  have hX:X.N[i - own.length]?=some y:=by
   rcases S.tail.2 _ _ Qa with e|e|e
   ·exact e
   ·exact absurd e (S.dot _ (mem_lookup El)).1
   ·exact absurd e (S.dot _ (mem_lookup El)).2
  obtain⟨m,hn,hl⟩:=I.loc;have hv:X.env.scope.names.lookup y=some .cell\/X.env.scope.names.lookup y=some .free:=S.free (y,.free) (mem_lookup El) rfl;obtain⟨u,r,l⟩:=hl _ y v hX h2 (.inr hv);refine⟨u,r,?_⟩;rcases l with⟨k,_⟩|⟨k,c,e,z⟩
  ·have k':X.env.scope.names.lookup y=some .local:=k;rcases hv with q|q<;>(rw[k']at q;cases q)
  ·have hk:(relabel scope X.env).names.lookup y=some .cell\/(relabel scope X.env).names.lookup y=some .free:=by
    rcases Oq with q|q|q
    ·rcases bC q with q'|⟨q',_⟩
     ·rw[El]at q';cases q'
     ·cases q'
    ·exact .inl q
    ·exact .inr q
   obtain⟨o,ho,hd⟩:=z;exact .inr ⟨hk,c,fN e scope.names [] (mem_lookup El),o,keep c o ho,hd⟩
 ·obtain⟨v,o,ho,hd⟩:=I.cell x c (sub x c e);exact⟨v,o,keep c o ho,hd⟩
 ·rw[List.length_append,List.length_replicate,I.len];have e:N.length=own.length+(N.drop own.length).length:=by rw[List.length_drop];omega
  show _=N.length;rw[e,S.tail.1]
theorem n9(I:Inv X pins σ H s)
  (I4:Inv (Et X N scope C s H ex) Hv σ' H4 s4) (hD:s.heap.objs.size<=D) (hC:s.heap.objs.size<=C) (Ms:D≠C) (nD:H4 D=none) (rv:Vals ys A') (pl:s4.heap.PlainList D A'.toArray) (hl:ys.length<=sizeLine)
  (sb:Heap.SameBut C s4.heap h') (hex:∀b∈ex,gf X pins H b):Inv X pins σ (upd H4 D (.lst ys)) {s4 with heap:=h' }:=by
 have nC:H4 C=none:=I4.free;have lt:∀{b:Addr} {o:Obj},s.heap.get? b=some o->b≠C/\b≠D:=λe=>⟨Nat.ne_of_lt (Nat.lt_of_lt_of_le (Heap.lt_size e) hC),Nat.ne_of_lt (Nat.lt_of_lt_of_le (Heap.lt_size e) hD)⟩
 refine I.Bl (s':={s4 with heap:=h' }) (ch:=ex) I4.os ⟨λb o e n hb hx=>?_,λb o e n hb hx=>?_,λb o e n hx=>?_,λb o e hx=>?_,λb xs e=>?_,λb o u e=>?_,λb ps e=>?_⟩ (λa o e=>?_) I4.bare λb hb=>?_
 ·exact(sb.2 b (lt e).1).trans (I4.base.keep b o e n hb hx)
 ·obtain⟨sl,q⟩:=I4.base.slot b o e n hb hx;exact⟨sl,(sb.2 b (lt e).1).trans q⟩
 ·rw[aj (lt e).2];exact I4.base.free b o e n hx
 ·obtain⟨o',q⟩:=I4.base.there b o e hx;exact⟨o',(sb.2 b (lt e).1).trans q⟩
 ·have q:=I4.base.iW b xs e;rw[aj (bu q nD)];exact q
 ·have q:=I4.base.EW b o u e;rw[aj (bu q nD)];exact q
 ·obtain⟨more,q⟩:=I4.base.E6 b ps e;exact⟨more,by rw[aj (bu q nD)];exact q⟩
 ·by_cases ha:a=D
  ·subst ha;rw[aq]at e;cases e;obtain⟨n,q⟩:=pl;exact⟨hl,A',n,rv,(sb.2 _ Ms).trans q⟩
  ·rw[aj ha]at e;refine(I4.DE a o e).fL (λc v hc q=>(sb.2 c ?_).trans q) (λc q=>?_) λc xs q=>?_
   ·rintro rfl;rcases hc with z|z
    ·rw[<-z,nC]at e;cases e
    ·rw[nC]at z;cases z
   ·rw[aj (bu q nD)];exact q
   ·rw[aj (bu q nD)];exact q
 ·obtain⟨f0,f1,f2,f3,f4,f5⟩:=hex b hb;exact⟨f3,f1,f4,f5⟩
section
theorem mC(I:Nat->Shared->Prop)
  (turn:∀n s,I n s->wpAny (model prog w) A (pyNext it) (λr s₁=>match r with
   |none=>R (.ok .next) s₁
   |some v=>wpAny (model prog w) A (letOwnedTupleGo target it v) (λ_ s₁=>wpAny (model prog w) A (assign target env v) (λ_ s₂ =>
     wpAny (model prog w) A (forIn ifs true λc r=>if r=true then do let ok <-isTrue c env (eval c env);pure (ForInStep.yield ok) else pure (ForInStep.yield r)) (λok s₃ =>
      if ok=true then wpAny (model prog w) A (eval elt env) (λx s₄ =>
       wpAny (model prog w) A (call (.builtin "list.append") [acc,x]) (λ_ s₅=>∃m,m<n/\I m s₅) (notedBy (model prog w) A env λe s'=>R (.error e) s') s₄) (notedBy (model prog w) A env λe s'=>R (.error e) s') s₃
      else ∃m,m<n/\I m s₃) (notedBy (model prog w) A env λe s'=>R (.error e) s') s₂) (notedBy (model prog w) A env λe s'=>R (.error e) s') s₁) (notedBy (model prog w) A env λe s'=>R (.error e) s') s₁) (notedBy (model prog w) A env λe s'=>R (.error e) s') s)
  (n:Nat) (h:I n s) :
  codeAny (model prog w) A (.compLoop (.ListComp elt [⟨target,iter,ifs,0⟩] scope pos) 0 it acc env) R s:=by
 refine codeAny_loop rfl I (λn s hI=>?_) n h;show wpAny _ A ((compTurn (.ListComp elt [⟨target,iter,ifs,0⟩] scope pos) 0 it acc env).onRaise (λx=>do noteFrame x env;theTreesLotGoes x)) _ _ s;refine wpAny_noted ?_;rw[compTurn_list];refine wpAny_bind (wpAny_standAt (wpAny_bind (wpAny_mono (turn n s hI) (λr s₁ h₁=>?_) λ_ _ h'=>h')));cases r with
 |none=>exact wpAny_pure h₁
 |some v =>
  refine wpAny_bind (wpAny_mono h₁ (λ_ SY Qb=>?_) λ_ _ h'=>h');refine wpAny_bind (wpAny_mono Qb (λ_ s₂ h₂=>wpAny_bind (wpAny_mono h₂ (λok s₃ h₃=>?_) λ_ _ h'=>h')) λ_ _ h'=>h');cases ok with
  |false=>exact wpAny_pure ⟨rfl,h₃⟩
  |true =>
   exact wpAny_bind (wpAny_bind (wpAny_mono h₃ (λx s₄ h₄=>wpAny_bind (wpAny_mono h₄ (λ_ s₅ h₅=>wpAny_pure (wpAny_pure ⟨rfl,h₅⟩)) λ_ _ h'=>h')) λ_ _ h'=>h'))
end
def G3(X:Cx)(ifs:List Expr)(t:TT):Prop :=
 ∀(pins:List (Addr×Obj)) (s:Shared) (σ:St) (H:Hp) (Q:Bool->Hp->Prop),Inv X pins σ H s->t σ H Q ->
  wpAny (model X.prog X.w) X.A (forIn ifs true λc r=>if r=true then do let ok <-isTrue c X.env (eval c X.env);pure (ForInStep.yield ok) else pure (ForInStep.yield r)) (TP X pins σ Q) X.xe s
def Dh:TT:=λ_ H Q=>Q true H
theorem mD:G3 X [] Dh:=λ_ _ _ H _ I h=>wpAny_tests_nil ⟨H,I,h⟩
theorem qV(h:PT X c t):G3 X [c] t:=λpins s σ H Q I q=>wpAny_tests_one (h pins s σ H Q I q)
def qW(k:Nat)(J:It)(g:TG)(tt:TT)(te:TE)(Q:VK)(σ:St)(H1:Hp):Prop :=
  ∃W:Nat->Nat->List V->Hp->Prop,(∃m,W 0 m [] H1)/\∀i m ys H,W i m ys H->ys.length<=sizeLine /\
    ((J.stop i H/\∀p,H p=none->Q (.ref p) (upd H p (.lst ys))) \/
     (J.go i H/\∃NN:List V->Hp->Prop,(∀E3 H',NN E3 H'->∃m',m'<m/\W (i+1) m' E3 H')/\∀x H',J.K6 i H x H'->g x (List.replicate k none++σ) H' λσ2 H2=>∃own:St,own.length=k/\σ2=own++σ /\
        tt σ2 H2 λb H3=>if b=true then te σ2 H3 λy H4=>NN (ys++[y]) H4 else NN ys H3))
def uG(k:Nat)(wi:TI)(g:TG)(tt:TT)(te:TE):TE:=λσ H Q=>wi σ H λJ H1=>qW k J g tt te Q σ H1
section
theorem uH
  (S:da X N own scope) (hc:X.calm=true) (hg:∀C s H ex,PG (Et X N scope C s H ex) tg g) (hf:∀C s H ex,G3 (Et X N scope C s H ex) ifs tt) (he:∀C s H ex,PE (Et X N scope C s H ex) elt te)
  (I:Inv X pins σ H s) (T:Turn X.prog X.w X.K tg J fp it tn) (st:tn 0 s.heap) (f2:∀b∈fp,gf X pins H b) (W:qW own.length J g tt te Q σ H)
  (hD:@Eq Nat D s.heap.objs.size) (hC:@Eq Nat C (s.heap.objs.size+1)) (Hy:s4.os=s.os) (Qc:s4.gens=s.gens) (keep:∀b o,s.heap.get? b=some o->s4.heap.get? b=some o) (ns:∃m,s4.heap.Ns C m) (pl:s4.heap.PlainList D #[])
  (fin:∀s5 H5 ys A',Inv (Et X N scope C s H fp) [] (List.replicate own.length none++σ) H5 s5->H5 D=none->Vals ys A'->s5.heap.PlainList D A'.toArray->ys.length<=sizeLine->(∀p,H5 p=none->Q (.ref p) (upd H5 p (.lst ys)))->R (.ok .next) s5) :
  codeAny (model X.prog X.w) X.A (.compStart (.ListComp elt [⟨tg,iter,ifs,0⟩] scope pos) 0 (.ref it) (.ref D) (compEnvC scope (br X.env scope.names []) C X.env)) R s4:=by
 have He:∀b∈fp,@LT.lt Nat _ b s.heap.objs.size:=λb hb=>by
  obtain⟨o,e,_⟩:=T.obj 0 s.heap st b hb;exact Heap.lt_size e
 have I4:Inv (Et X N scope C s H fp) [] (List.replicate own.length none++σ) H s4:=uF S I (by omega) Hy Qc keep ns λb hb=>⟨f2 b hb,He b hb⟩
 have Jk:tn 0 s4.heap:=T.keep 0 s.heap s4.heap st λb _ o e=>keep b o e;have nD:H D=none:=I.DE.fresh (by omega);obtain⟨W,⟨m0,w0⟩,step⟩:=W;generalize FC:Et X N scope C s H fp=X' at I4 fin;have eP:X'.prog=X.prog:=by rw[<-FC];rfl
 have ew:X'.w=X.w:=by rw[<-FC];rfl
 have eK:X'.K=X.K:=by rw[<-FC];rfl
 have ec:X'.calm=true:=by rw[<-FC];exact hc
 have eA:X'.A=X.A:=by rw[<-FC];rfl
 have ee:X'.env=compEnvC scope (br X.env scope.names []) C X.env:=by rw[<-FC];rfl
 have Mt:X'.xe=λ_ _=>False:=by rw[<-FC];rfl
 have el:X'.env.locals=C:=by rw[ee];rfl
 have Mu:PG X' tg g:=by rw[<-FC];exact hg _ _ _ _
 have Mw:G3 X' ifs tt:=by rw[<-FC];exact hf _ _ _ _
 have Mx:PE X' elt te:=by rw[<-FC];exact he _ _ _ _
 have s0:X'.s₀=s:=by rw[<-FC];rfl
 have JY:X'.pn=[]:=by rw[<-FC];rfl
 have My:∀{H':Hp} {o:Obj},(∀b∈fp,H' b=none)->∀b∈fp,gf X' [(D,o)] H' b:=λ{H' o} hn b hb=>by
  have ex:X'.ex=fp:=by rw[<-FC];rfl
  refine⟨hn b hb,?_,?_,.inl (by rw[ex];exact hb),λx c e=>?_,λp hp=>?_⟩
  ·rw[el];have:=He b hb;exact Nat.ne_of_lt (by show @LT.lt Nat _ b C;omega)
  ·have e1:X'.fs=FO X.stack:=by rw[<-FC];rfl
   rw[e1];intro z;obtain⟨f0,f1,Qd,f3,f4,f5⟩:=f2 b hb;rcases List.mem_cons.mp (I.jl b z) with q|q
   ·exact f1 q
   ·exact Qd q
  ·have e1:X'.env.cells=br X.env scope.names []:=by rw[ee];rfl
   rw[e1]at e;exact(f2 b hb).2.2.2.2.1 x c (dU scope.names [] (λn c e=>by simp at e) x c e)
  ·rw[JY,List.nil_append]at hp;have:p=(D,o):=by simpa using hp
   subst this;have:=He b hb;exact Nat.ne_of_gt (by show @LT.lt Nat _ b D;omega)
 have Mz:∀{σ':St} {H':Hp} {s':Shared} {o:Obj},Inv X' [] σ' H' s'->H' D=none->s'.heap.get? D=some o->(∀v,o.data≠.cell v)->Inv X' [(D,o)] σ' H' s':=λ{σ' H' s' o} I' n e d =>
  I'.dr λp hp=>by
   have:p=(D,o):=by simpa using hp
   subst this;refine⟨e,n,?_,?_,d⟩
   ·rw[el];exact Nat.ne_of_lt (by show @LT.lt Nat _ D C;omega)
   ·have e1:X'.fs=FO X.stack:=by rw[<-FC];rfl
    rw[e1];intro z;have zz:(D:Addr)∈FO X.stack:=z;rcases List.mem_cons.mp (I.jl D zz) with q|q
    ·have:=I.lt;rw[<-q]at this;exact absurd this (by show ¬@LT.lt Nat _ D s.heap.objs.size;omega)
    ·exact I.zu (a:=D) (by omega) q
 have start:∀s':Shared,s'=s4->codeAny (model X.prog X.w) X.A (.compLoop (.ListComp elt [⟨tg,iter,ifs,0⟩] scope pos) 0 (.ref it) (.ref D) (compEnvC scope (br X.env scope.names []) C X.env)) R s':=by
  rintro s' rfl;refine mC (λn s'=>∃i ys A' H',Inv X' [] (List.replicate own.length none++σ) H' s'/\tn i s'.heap/\(∀b∈fp,H' b=none)/\H' D=none/\Vals ys A'/\s'.heap.PlainList D A'.toArray/\W i n ys H') ?_ m0
   ⟨0,[],[],H,I4,Jk,λb hb=>(f2 b hb).1,nD,.nil,pl,w0⟩
  rintro n s3 ⟨i,ys,A',H3,I3,st3,JP,Ot,Le,⟨nn,Qe⟩,w3⟩;obtain⟨hlen,FQ⟩:=step i n ys H3 w3;have IP:=Mz I3 Ot Qe (λv z=>by have z':Data.seq _ _=Data.cell v:=z;cases z');rcases FQ with⟨stop,qn⟩|⟨go,NN,Ou,turn⟩
  ·have d:=T.done X' eP ew eK ec i _ s3 _ H3 (notedBy (model X.prog X.w) X.A (compEnvC scope (br X.env scope.names []) C X.env) λe s'=>R (.error e) s') IP (My JP) st3 stop;rw[eA]at d;refine DG d λr s4 ⟨hr,I5⟩=>?_;subst hr;have e5:=(I5.pin (D,({cls:=.type "list",data:=.seq A'.toArray nn}:Obj)) (by rw[JY];simp)).1;exact fin s4 H3 ys A' (I5.dr λp hp=>by cases hp) Ot Le ⟨nn,e5⟩ hlen qn
  ·have d:=T.item X' eP ew eK ec i _ s3 _ H3 (notedBy (model X.prog X.w) X.A (compEnvC scope (br X.env scope.names []) C X.env) λe s'=>R (.error e) s') IP (My JP) st3 go;rw[eA]at d;refine DG d λr s4 ⟨u,hr,h4⟩=>?_;subst hr;refine DG h4 λ_ s5 ⟨x,H5,I5,r5,y5,Gi,Ma⟩=>?_;have S3:H5 D=none:=(I5.pin (D,({cls:=.type "list",data:=.seq A'.toArray nn}:Obj)) (by rw[JY];simp)).2.1;have Mb:=I5.pinned (My Ma) (T.obj _ _ Gi);have a6:=Mu _ s5 _ H5 x u _ Mb r5 (turn x H5 y5);rw[eP,ew,eA,ee,Mt]at a6;refine wpAny_mono a6 (λ_ s6 ⟨σ6,H6,I6,q6⟩=>?_) λ_ _ z=>False.elim z;obtain⟨ow,how,rfl,q6⟩:=q6;have a7:=Mw _ s6 _ H6 _ I6 q6;rw[eP,ew,eA,ee,Mt]at a7;refine wpAny_mono a7 (λb s7 ⟨H7,I7,q7⟩=>?_) λ_ _ z=>False.elim z;have back:∀{s8:Shared} {H8:Hp} {E3:List V} {its':List Value} {nn':Nat},Inv X' [] (ow++σ) H8 s8->tn (i+1) s8.heap->(∀b∈fp,H8 b=none)->H8 D=none->Vals E3 its'->s8.heap.PlainList D its'.toArray->(∃m',m'<n/\W (i+1) m' E3 H8) ->
     ∃m,m<n/\∃i ys A' H',Inv X' [] (List.replicate own.length none++σ) H' s8/\tn i s8.heap/\(∀b∈fp,H' b=none)/\H' D=none/\Vals ys A'/\s8.heap.PlainList D A'.toArray/\W i m ys H':=λ{s8 H8 E3 its' nn'} I8 Qf Qg n8 Qh Qi w8=>by
    obtain⟨m',hm,w8⟩:=w8;refine⟨m',hm,i+1,E3,its',H8,I8.weak (by simp[how]) (λj v e=>?_),Qf,Qg,n8,Qh,Qi,w8⟩;by_cases hj:j<own.length
    ·rw[List.getElem?_append_left (by simpa using hj),List.getElem?_replicate]at e;split at e<;>cases e
    ·rw[List.getElem?_append_right (by simpa using(Nat.not_lt.mp hj)),List.length_replicate]at e;rw[List.getElem?_append_right (by omega),how];exact e
   have tell:∀{σ':St} {H8:Hp} {s8:Shared},Inv X' ([(D,({cls:=.type "list",data:=.seq A'.toArray nn}:Obj))]++jo fp s5.heap) σ' H8 s8->s8.heap.get? D=some {cls:=.type "list",data:=.seq A'.toArray nn}/\H8 D=none/\tn (i+1) s8.heap/\∀b∈fp,H8 b=none:=λ{σ' H8 s8} I8=>by
    have p1:=I8.pin (D,({cls:=.type "list",data:=.seq A'.toArray nn}:Obj)) (by rw[JY];simp);refine⟨p1.1,p1.2.1,T.keep _ _ _ Gi λb hb o e=>(I8.pin (b,o) (List.mem_append_right _ (List.mem_append_right _ (dR hb e)))).1,λb hb=>?_⟩;obtain⟨o,e,d⟩:=T.obj _ _ Gi b hb;exact(I8.pin (b,o) (List.mem_append_right _ (List.mem_append_right _ (dR hb e)))).2.1
   cases b with
   |false =>
    rw[if_neg Bool.false_ne_true]at q7 ⊢;obtain⟨p1,p2,p3,p4⟩:=tell I7;exact back (nn':=0) (I7.dr λp hp=>by cases hp) p3 p4 p2 Le ⟨nn,p1⟩ (Ou _ _ q7)
   |true =>
    rw[if_pos rfl]at q7 ⊢;have a8:=Mx _ s7 _ H7 _ I7 q7;rw[eP,ew,eA,ee,Mt]at a8;refine wpAny_mono a8 (λy s8 ⟨yv,H8,I8,r8,q8⟩=>?_) λ_ _ z=>False.elim z;obtain⟨p1,p2,p3,p4⟩:=tell I8;have hsz:A'.toArray.size<=sizeLine:=by rw[List.size_toArray,<-Le.length];exact hlen
    refine wpAny_list_append_plain (hsz:=hsz) ⟨nn,p1⟩ λh9 Qj Ov=>?_;have Qk:Inv X' [] (ow++σ) H8 s8:=I8.dr λp hp=>by cases hp
    have Lf:∀x c,X'.env.cells.lookup x=some c->c≠D:=λx c e=>by
     have e1:X'.env.cells=br X.env scope.names []:=by rw[ee];rfl
     rw[e1]at e;have q:=dU scope.names [] (λn c e=>by simp at e) x c e;obtain⟨v,z⟩:=I.cell x c q;have:@LT.lt Nat _ c s.heap.objs.size:=z.lt;exact Nat.ne_of_lt (by show @LT.lt Nat _ c D;omega)
    have I9:Inv X' [] (ow++σ) H8 {s8 with heap:=h9,toks:=s8.toks}:=Qk.turned (it:=D) (λb o hb e=>(Ov.2 b hb).trans e) p2 (by rw[el];exact Nat.ne_of_lt (by show @LT.lt Nat _ D C;omega)) (.inr (by rw[s0];show @LE.le Nat _ s.heap.objs.size D;omega)) Lf (λp hp=>by rw[JY]at hp;cases hp);have Ql:(A'++[y]).toArray=A'.toArray.push y:=by simp
    refine back (nn':=0) (s8:={s8 with heap:=h9,toks:=s8.toks}) I9 (T.keep _ _ _ p3 λb hb o e=>(Ov.2 b ?_).trans e) p4 p2 (Le.append (.cons r8 .nil)) (by rw[Ql];exact Qj) (Ou _ _ q8);have:=He b hb;exact Nat.ne_of_lt (by show @LT.lt Nat _ b D;omega)
 exact codeAny_compStart_list (start _ rfl) (T.self _ _ _ _ _ Jk (start _ rfl))
theorem jy{RR:Value->Addr->Result->Shared->Prop}
    (S:da X N own scope) (hc:X.calm=true) (hg:∀C s H ex,PG (Et X N scope C s H ex) tg g) (hf:∀C s H ex,G3 (Et X N scope C s H ex) ifs tt) (he:∀C s H ex,PE (Et X N scope C s H ex) elt te)
 (I:Inv X pins σ H s) (T:Turn X.prog X.w X.K tg J fp it tn) (st:tn 0 s.heap) (f2:∀b∈fp,gf X pins H b) (W:qW own.length J g tt te Q σ H)
    (fin:∀D C s5 H5 ys A',@Eq Nat D s.heap.objs.size->@Eq Nat C (s.heap.objs.size+1)->Inv (Et X N scope C s H fp) [] (List.replicate own.length none++σ) H5 s5->H5 D=none->Vals ys A'->s5.heap.PlainList D A'.toArray->ys.length<=sizeLine->(∀p,H5 p=none->Q (.ref p) (upd H5 p (.lst ys)))->RR (.ref D) C (.ok .next) s5) :
    wpAny (model X.prog X.w) X.A (newList []) (λacc s₃=>wpAny (model X.prog X.w) X.A (newFunctionEnv scope X.env.globals (br X.env scope.names []) [] X.env.qual none .none (some X.env)) (λJZ s₄ =>
      codeAny (model X.prog X.w) X.A (.compStart (.ListComp elt [⟨tg,iter,ifs,0⟩] scope pos) 0 (.ref it) acc {JZ with scope:=relabel scope X.env}) (RR acc JZ.locals) s₄) E s₃) E s:=by
  refine wpAny_newObj_type (wpAny_newFunctionEnv S.Fz (by intro y hy;simp at hy) (λh₁ Ir Hf=>?_) S.kind)
  dsimp only at Ir Hf ⊢
  generalize MA:s.heap.push {cls:=.type "list",dict:=none,data:=.seq ([]:List Value).toArray}=H2 at Ir Hf ⊢;have hC:H2.objs.size=s.heap.objs.size+1:=by rw[<-MA,Heap.size_push]
  have Ms:s.heap.objs.size≠H2.objs.size:=by rw[hC];exact Nat.ne_of_lt (Nat.lt_succ_self _)
  have below:∀b:Addr,b<s.heap.objs.size->b≠H2.objs.size:=λb hb=>Nat.ne_of_lt (by have EM:@LT.lt Nat _ b s.heap.objs.size:=hb;show @LT.lt Nat _ b H2.objs.size;omega);have old:∀b o,s.heap.get? b=some o->h₁.get? b=some o:=λb o e=>Hf.extBut b o (below b (Heap.lt_size e)) (Heap.get?_push_of_some _ (MA▸Heap.get?_push_of_some _ e));have Ey:h₁.PlainList s.heap.objs.size #[]:=⟨_,Hf.extBut _ _ Ms (Heap.get?_push_of_some _ (MA▸Heap.get?_push_size _ rfl))⟩
  exact uH (s:=s) (s4:={s with heap:=h₁,toks:=s.toks+([]:List (Str×Value)).length}) (C:=H2.objs.size) (D:=s.heap.objs.size) S hc hg hf he I T st f2 W rfl hC rfl rfl old ⟨_,Ir⟩ Ey
    λs5 H5 ys A' I5 n5 J0 J1 J2 q5=>fin _ _ s5 H5 ys A' rfl hC I5 n5 J0 J1 J2 q5
theorem qX(S:da X N own scope)(hc:X.calm=true)(hi:PI X tg iter wi)(hg:∀C s H ex,PG (Et X N scope C s H ex) tg g)(hf:∀C s H ex,G3 (Et X N scope C s H ex) ifs tt)(he:∀C s H ex,PE (Et X N scope C s H ex) elt te)
  (hs:∀x,foldedSetIterable iter X.env x=pure x:=by intro _;rfl):PE X (.ListComp elt [⟨tg,iter,ifs,0⟩] scope pos) (uG own.length wi g tt te):=by
 intro pins s σ H Q I h;rw[eval_ListComp];refine wpAny_comprehension_free (use:=none) (cl:=br X.env scope.names []) rfl hs (dM (S.cells I.ok)) S.kind S.names ?_;refine DG (hi pins s σ H _ I h) λv s1 h1=>DG h1 λK7 s2 h2=>?_;obtain⟨it,fp,tn,J,H2,e,I2,T,st2,f2,W⟩:=h2;subst e;refine jy (RR:=λacc C=>compPost (model X.prog X.w) X.A X.xe none (EP X pins σ Q) acc C) S hc hg hf he I2 T st2 f2 W ?_;intro D C s5 H5 ys A' hD hC I5 n5 J0 J1 J2 q5;obtain⟨m5,MB,_⟩:=I5.loc;exact⟨m5,MB,λh' sb=>⟨.ref D,_,n9 I2 I5 (Nat.le_of_eq hD.symm) (by show @LE.le Nat _ s2.heap.objs.size C;omega) (Nat.ne_of_lt (by show @LT.lt Nat _ D C;omega)) n5 J0 J1 J2 sb f2,rfl,q5 D n5⟩⟩
theorem xu(S:da X N own scope)(hc:X.calm=true)(hN:X.N.Nodup)(Lg:X.N[i]?=some y)(hy:X.env.scope.names.lookup y=some .local)
  (hi:PI X tg iter wi) (hg:∀C s H ex,PG (Et X N scope C s H ex) tg g) (hf:∀C s H ex,G3 (Et X N scope C s H ex) ifs tt) (he:∀C s H ex,PE (Et X N scope C s H ex) elt te)
  (Hz:swapsWith (.ListComp elt [⟨tg,iter,ifs,0⟩] scope pos) (some (.Name y py)) F3.line X.env=pure true:=by rfl)
  (hs:∀x,foldedSetIterable iter X.env x=pure x:=by intro _;rfl):PS X (.Assign [.Name y py] (.ListComp elt [⟨tg,iter,ifs,0⟩] scope pos) F3) (zE (uG own.length wi g tt te) (qQ i)):=by
 intro pins s σ H D I h;rw[exec_Assign_Name_used _ _ _ _ Hz];refine wpAny_bind (wpAny_standAt (wpAny_bind ?_));show wpAny _ X.A (do let _ <-comprehension (.ListComp elt [⟨tg,iter,ifs,0⟩] scope pos) scope X.env _ (newList []) false (eval iter X.env) (some (assign (.Name y py) X.env))) _ _ s;refine wpAny_bind (wpAny_mono (wpAny_comprehension_free (use:=some (assign (.Name y py) X.env)) (cl:=br X.env scope.names []) (Q:=λ_ s'=>SP X pins D .next s') rfl hs (dM (S.cells I.ok)) S.kind S.names ?_) (λ_ s' hq=>wpAny_pure (wpAny_pure hq)) λ_ _ e=>e);refine DG (hi pins s σ H _ I h) λv s1 h1=>DG h1 λK7 s2 h2=>?_;obtain⟨it,fp,tn,J,H2,e,I2,T,st2,f2,W⟩:=h2;subst e;refine jy (RR:=λacc C=>compPost (model X.prog X.w) X.A X.xe (some (assign (.Name y py) X.env)) (λ_ s'=>SP X pins D .next s') acc C) S hc hg hf he I2 T st2 f2 W ?_;intro DD C s5 H5 ys A' hD hC I5 n5 J0 J1 J2 q5;obtain⟨m5,MB,_⟩:=I5.loc;have Qm:H5 C=none:=I5.free;have B:Inv X pins σ (upd H5 DD (.lst ys)) {s5 with heap:=s5.heap}:=n9 I2 I5 (Nat.le_of_eq hD.symm) (by show @LE.le Nat _ s2.heap.objs.size C;omega) (Nat.ne_of_lt (by show @LT.lt Nat _ DD C;omega)) n5 J0 J1 J2 (Heap.SameBut.refl ..) f2;show wpAny _ X.A (assign (.Name y py) X.env (.ref DD)) _ _ s5;refine wpAny_assign_Name (kX (s:=s5) B hN Lg (.inl hy) (show RelV (.ref DD) (.ref DD) from rfl) (λs6 I6 ⟨a,sb,ha⟩=>?_) (.inr hy));have Lf:@LT.lt Nat _ X.env.locals C:=by have:@LT.lt Nat _ X.env.locals s2.heap.objs.size:=I2.lt;omega
 have GD:∀x c,X.env.cells.lookup x=some c->c≠C:=λx c e=>by
  obtain⟨v,z⟩:=I2.cell x c e;have:@LT.lt Nat _ c s2.heap.objs.size:=z.lt;exact Nat.ne_of_lt (by show @LT.lt Nat _ c C;omega)
 have Qn:C≠a:=by
  rcases ha with z|z
  ·rw[z];exact Nat.ne_of_gt Lf
  ·exact(GD _ _ z).symm
 refine⟨m5,MB.sameBut sb Qn,λh' J3=>?_⟩;refine⟨σ.set i (some (.ref DD)),upd H5 DD (.lst ys),I6.turned (it:=C) (t':=s6.toks) (λb o hb e=>(J3.2 b hb).trans e) ?_ (Nat.ne_of_gt Lf) (.inr (by have:@LE.le Nat _ X.s₀.heap.objs.size s2.heap.objs.size:=I2.sz;show @LE.le Nat _ X.s₀.heap.objs.size C;omega)) GD (λp hp=>?_),q5 DD n5⟩
 ·rw[aj (Nat.ne_of_gt (by show @LT.lt Nat _ DD C;omega))];exact Qm
 ·have:@LT.lt Nat _ p.1 s2.heap.objs.size:=Heap.lt_size (I2.pin p hp).1;exact Nat.ne_of_lt (by show @LT.lt Nat _ p.1 C;omega)
end
section
end
section
def BP:V->Option Int->Option Int->Hp->VK->Prop:=λx lo hi H Q=>∃z,x=.str z/\z.length<=sizeLine/\Q (.str (PySem.StrLaws.sliceText z lo hi)) H
theorem kM(x:Str)(lo hi:Option Int)(hz:x.length<=sizeLine):(PySem.StrLaws.sliceText x lo hi).length<=sizeLine:=Nat.le_trans (Txt.slice_le x lo hi) hz
theorem Aa:Og X BP:=by
 intro pins s σ H x v vl vu lo hi sl Q I rx hs pl pu h;obtain⟨z,rfl,hz,q⟩:=h;obtain⟨t,rfl⟩:=rx;refine⟨"str",_,slot_str_getitem.lookup,typeIs_str _ _ _,?_⟩;have fin:(PySem.StrLaws.sliceText z lo hi).length<=sizeLine/\∀t' k,EP X pins σ Q (.str (PySem.StrLaws.sliceText z lo hi) t') {s with toks:=k}:=⟨kM z lo hi hz,λt' k=>⟨.str _,H,I.tok k,⟨_,rfl⟩,q⟩⟩
 cases pl with
 |none =>
  cases pu with
  |none=>exact wpAny_getItem_str_slice (l:=none) (u:=none) (st:=none) hs rfl (post_val_or_str fin)
  |int j tj=>exact wpAny_getItem_str_slice (l:=none) (u:=some (j,tj)) (st:=none) hs rfl (post_val_or_str fin)
 |int i ti =>
  cases pu with
  |none=>exact wpAny_getItem_str_slice (l:=some (i,ti)) (u:=none) (st:=none) hs rfl (post_val_or_str fin)
  |int j tj=>exact wpAny_getItem_str_slice (l:=some (i,ti)) (u:=some (j,tj)) (st:=none) hs rfl (post_val_or_str fin)
theorem lp:∀(l:List (Str×Tok)),Vals (l.map λp=>V.str p.1) (strValues l)
 |[]=>.nil
 |(x,t)::r=>.cons ⟨t,rfl⟩ (lp r)
theorem gp:∀{ys:List Str}{A':List Value},Vals (ys.map V.str) A'->∃l:List (Str×Tok),A'=strValues l/\l.map (·.1)=ys
 |[],_,.nil=>⟨[],rfl,rfl⟩
 |y::ys,_,.cons r t=>by
  obtain⟨tk,rfl⟩:=r;obtain⟨l,rfl,e⟩:=gp t;exact⟨(y,tk)::l,rfl,by rw[List.map_cons,e]⟩
theorem uI:Mi X "str.split" (λx xs H Q=>∃a b,x=.str a/\xs=[.str b]/\(b.length==0)=false/\a.length+2<=sizeLine /\
  ∀p,H p=none->Q (.ref p) (upd H p (.lst ((Txt.split a b).map V.str)))):=by
 intro pins s σ H x xs v us Q I rx rs h;obtain⟨x,y,rfl,rfl,hy,hz,q⟩:=h;obtain⟨t,rfl⟩:=rx;obtain⟨u0,rfl,u,rfl⟩:=vals1 rs;have hf:H s.heap.objs.size=none:=I.DE.fresh (Nat.le_refl _);have q':=q _ hf;have fin:∀(l:List (Str×Tok)) (k:Nat),l.length<=sizeLine->l.map (·.1)=Txt.split x y->EP X pins σ Q (.ref s.heap.objs.size) {s with toks:=k,heap:=s.heap.push {cls:=.type "list",data:=.seq (strValues l).toArray}}:=λl k hl e =>
  ⟨.ref s.heap.objs.size,_,I.laid (t':=k) (o:=.lst ((Txt.split x y).map V.str)) (λb u e=>Heap.get?_push_of_some _ e) (Nat.le_refl _)
   ⟨by rw[<-e,List.length_map,List.length_map];exact hl,strValues l,_,by rw[<-e,List.map_map];exact lp l,Heap.get?_push_size _ rfl⟩,rfl,q'⟩
 have one:1<=sizeLine:=by decide
 cases h1:(decide (x.length<y.length)||decide (Builtin.Str.strKind x<Builtin.Str.strKind y))
 ·cases hf:(Builtin.Str.occurrences x y 0 x.length (x.length+1)).isEmpty
  ·have hn:(Builtin.Str.partsBetween x (Builtin.Str.occurrences x y 0 x.length (x.length+1)) y.length).length<=sizeLine:=by
    have:=PySem.StrLaws.occ_length_le x y 0 x.length (x.length+1);simp only[Builtin.Str.partsBetween,List.length_map,List.length_zip,List.length_cons,List.length_append];omega
   refine call_meets F.slot_str_split (typeIs_str _ _ _) F.entry_str_split (F.args_str_split_2 _ _) (meets_str_split_sep x y t u h1 hy hf (by omega) hn) ?_;show wants _ _ _ {s with toks:=_,heap:=s.heap.push {cls:=.type "list",data:=.seq (strsFrom s.toks (Builtin.Str.partsBetween x (Builtin.Str.occurrences x y 0 x.length (x.length+1)) y.length)).toArray}};rw[strsFrom_eq];refine fin (numbered s.toks _) _ ?_ ((numbered_texts _ _).trans ((if_neg (ne_true_of_eq_false h1)).trans (if_neg (ne_true_of_eq_false hf))).symm);have e:=congrArg List.length (numbered_texts s.toks (Builtin.Str.partsBetween x (Builtin.Str.occurrences x y 0 x.length (x.length+1)) y.length));rw[List.length_map]at e;omega
  ·exact call_meets F.slot_str_split (typeIs_str _ _ _) F.entry_str_split (F.args_str_split_2 _ _) (meets_str_split_not_found x y t u h1 hy hf)
    (fin [(x,t)] _ one ((if_neg (ne_true_of_eq_false h1)).trans (if_pos hf)).symm)
 ·exact call_meets F.slot_str_split (typeIs_str _ _ _) F.entry_str_split (F.args_str_split_2 _ _) (meets_str_split_cannot_occur x y t u h1)
   (fin [(x,t)] _ one (if_pos h1).symm)
theorem xv:Mi X "str.join" (λx xs H Q=>∃a p ys,x=.str a/\xs=[.ref p]/\D7 X.K H p (ys.map V.str)/\JoinOk a ys=true/\Q (.str (Txt.join a ys)) H):=by
 intro pins s σ H x xs v us Q I rx rs h;obtain⟨a,p,ys,rfl,rfl,hq,DE,q⟩:=h;obtain⟨t,rfl⟩:=rx;obtain⟨u,rfl,r⟩:=vals1 rs;cases r;obtain⟨A',rv,pl,hz⟩:=I.list hq;obtain⟨l,rfl,e⟩:=gp rv;exact SC.join pl.isList e DE λt' k=>⟨.str _,H,I.tok k,⟨_,rfl⟩,q⟩
theorem eG:∀{bs:List Bool}{A':List Value},Vals (bs.map V.bl) A'->A'=bs.map Value.bool
 |[],_,.nil=>rfl
 |b::bs,_,.cons r t=>by
  cases r;rw[eG t];rfl
theorem uJ:X.calm=true->iA X (.builtin "all") (λxs H Q=>∃(p:Addr) (bs:List Bool),xs=[.ref p]/\D7 X.K H p (bs.map V.bl)/\Q (.bl (bs.all id)) H):=by
 intro hc pins s σ H xs us Q I rs h;obtain⟨p,bs,rfl,hq,q⟩:=h;obtain⟨u,rfl,r⟩:=vals1 rs;cases r;obtain⟨A',rv,pl,hz⟩:=I.list hq;have e:=eG rv;subst e;have DW:p<s.heap.objs.size:=by obtain⟨_,_,e,_⟩:=pl;exact Heap.lt_size e
 refine call_all_walk (wpAny_pyIter_list pl.isList ?_);refine⟨s.heap.objs.size,[s.heap.objs.size,p],[s.heap.objs.size],(bs.map Value.bool).toArray.size,_,_,λi=>(bs[i]?).getD true,rfl,Walks.list (A:=X.A.in1) (I.ok.hd hc) _ p (Nat.ne_of_lt DW) (bs.map Value.bool).toArray,
  ⟨⟨_,Heap.get?_push_size _ rfl,rfl,rfl⟩,pl.isList.push _⟩,λi v s' Q' E' hP hQ=>?_,λh' tk hk=>?_⟩
 ·have GF:(bs.map Value.bool)[i]?=some v:=by simpa using hP
  rw[List.getElem?_map]at GF;cases e:bs[i]? with
  |none=>rw[e]at GF;cases GF
  |some b =>
   rw[e]at GF;cases GF;simp only[e,Option.getD_some]at hQ;exact wpAny_truthy_bool hQ
 ·have e:((List.range (bs.map Value.bool).toArray.size).all λi=>(bs[i]?).getD true)=bs.all id:=by
   rw[List.size_toArray,List.length_map];exact PyProof.Rows.LSm.range_all bs
  rw[e];exact⟨.bl _,H,I.kept (t':=tk) (PyProof.Rows.LSm.kept_iter hk),rfl,q⟩
end
section
end
noncomputable def xw(N own:List Str)(scope:Scope)(out:List (Str×NameKind)):Bool :=
 decide (scope.kind=.function)&&scope.names.all (λy=>decide (y.2≠.cell))&&scope.names.all (λy=>decide (y.2≠.local)||decide (scope.names.lookup y.1=some .local))&&decide N.Nodup&&decide (N.take own.length=own) &&
 scope.names.all (λy=>decide (y.2≠.local)||decide (y.1∈own)||decide (y.1=".0"))&&decide ((".0":Str)∉N)&&scope.names.all (λy=>decide (y.2≠.free)||decide (out.lookup y.1=some .cell)||decide (out.lookup y.1=some .free))&&scope.names.all (λy=>decide (y.1≠".")&&decide (y.1≠".."))
theorem pT(hn:X.env.scope.names=out)(ht:dE (N.drop own.length) X.N)(h:xw N own scope out=true):da X N own scope:=by
 unfold xw at h;simp only[Bool.and_eq_true,List.all_eq_true,Bool.or_eq_true,decide_eq_true_eq]at h;obtain⟨⟨⟨⟨⟨⟨⟨⟨h1,h2⟩,h3⟩,h4⟩,h5⟩,h6⟩,h7⟩,h8⟩,h9⟩:=h;refine⟨h1,h2,λy hy e=>?_,h4,h5,λy hy e=>?_,h7,ht,λy hy e=>?_,h9⟩
 ·rcases h3 y hy with z|z
  ·exact absurd e z
  ·exact z
 ·rcases h6 y hy with(z|z)|z
  ·exact absurd e z
  ·exact .inl z
  ·exact .inr z
 ·rw[hn];rcases h8 y hy with(z|z)|z
  ·exact absurd e z
  ·exact .inl z
  ·exact .inr z
section
def a_(prog:Program)(w:World)(h:Heap)(k:Str×List Str)(a:Addr):Prop :=
 ∃o n t b,h.get? a=some o/\o.cls=.type "tuple"/\o.data=.seq #[.str k.1 t,.ref b] n/\IsTupleKey (PySem.strKind prog w) h k.2 b
theorem a_.typeIs{s:Shared}(x:a_ prog w s.heap k a):s.TypeIs (.ref a) "tuple":=let ⟨o,_,_,_,ho,hc,_⟩:=x;⟨o,ho,hc⟩
theorem a_.inj(hx:a_ prog w h x a)(hy:a_ prog w h y a):x=y:=by
 obtain⟨o,n,t,b,ho,_,hd,hi⟩:=hx;obtain⟨o',n',t',b',En,_,E7,E4⟩:=hy;obtain rfl:o=o':=Option.some.inj (ho.symm.trans En);rw[hd]at E7;injection E7 with h1 _
 simp only[Array.mk.injEq,List.cons.injEq,Value.str.injEq,Value.ref.injEq,and_true]at h1;obtain⟨⟨e1,_⟩,e2⟩:=h1;subst e2;exact Prod.ext e1 (hi.inj E4)
theorem a_.keeps(x:a_ prog w h k a)(ho:h.get? d=some o)(hd:o.data=.dict es ep)(hs:Heap.SameBut d h h'):a_ prog w h' k a:=by
 obtain⟨o',n,t,b,En,hc,E7,hi⟩:=x;have Ej:a≠d:=by
  rintro rfl;obtain rfl:o'=o:=Option.some.inj (En.symm.trans ho);rw[hd]at E7;exact nomatch E7
 exact⟨o',n,t,b,(hs.2 a Ej).trans En,hc,E7,hi.keeps ho hd hs⟩
noncomputable def mE(prog:Program)(w:World)(k:Str×List Str):Int:=reduceHash (Builtin.Tuple.tupleHashOf [(PySem.strKind prog w).hash k.1,tupleKeyHash (PySem.strKind prog w) k.2])
def uK(prog:Program)(w:World)(hh:Heap)(v:Value)(n:Int)(d:Nat):Prop :=
 ∀{A:Around} {E:Value->Shared->Prop} {s:Shared} {Q:Int->Shared->Prop},s.heap=hh->A.units<cLine->Q n {s with toks:=s.toks+d}->wpAny (model prog w) A (pyHash v) Q E s
theorem pU(x:Str)(t:Tok):uK prog w hh (.str x t) ((PySem.strKind prog w).hash x) 1:=λ_ _ h=>(PySem.strKind prog w).pyHash (by simp[PySem.strKind,Value.isStrOf]) h
theorem mF(hk:IsTupleKey (PySem.strKind prog w) hh ks b):uK prog w hh (.ref b) (tupleKeyHash (PySem.strKind prog w) ks) (ks.length+1):=λe hu h=>by
 subst e;exact wpAny_pyHash_tuple hu hk h
theorem hJ(hu:A.units+1<cLine)(hk:a_ prog w s.heap k a)(h:Q (mE prog w k) {s with toks:=s.toks+(k.2.length+3)}):
  wpAny (model prog w) A (pyHash (.ref a)) Q E s:=by
 have hT:=hk.typeIs;obtain⟨o,n,t,b,ho,_,hd,hi⟩:=hk;unfold pyHash
 first|unfold pyHashByItsType|skip
 first|refine wpAny_bind (wpAny_cRoomFor_or (.inr (by omega)) ?_)|skip
 refine wpAny_bind (wpAny_specialOf hT PySem.F.slot_tuple_hash.lookup ?_);show wpAny _ _ (if (some (Value.builtin "tuple.__hash__")==some Value.none)=true then _ else _) Q E s;rw[if_neg (by rw[beq_builtin_none];exact Bool.false_ne_true)];refine wpAny_bind (wpAny_specialOf hT PySem.F.slot_tuple_hash.lookup ?_);show wpAny _ _ (callSpecialIfBoundUnlessNone? (.ref a) "__hash__" _ >>= _) Q E s;refine wpAny_bind (wpAny_callSpecialIfBoundUnlessNone?_slot hT PySem.F.slot_tuple_hash (wpAny_call_entry PySem.F.slot_tuple_hash hT PySem.F.entry_tuple_hash ?_ (PySem.F.args_tuple_hash_1 _)));show wpAny _ _ (Builtin.Tuple.tupleItemsOf (.ref a) >>= _) _ _ s;refine wpAny_bind (wpAny_tupleItemsOf ho hd ?_);refine wpAny_bind ?_;rw[<-Array.forIn_toList];refine wpAny_forIn_list _
  (λrest (b':Array Int) s'=>(rest=[Value.str k.1 t,Value.ref b]/\b'=#[]/\s'=s)\/(rest=[Value.ref b]/\b'.toList=[(PySem.strKind prog w).hash k.1]/\s'={s with toks:=s.toks+1}) \/
   (rest=[]/\b'.toList=[(PySem.strKind prog w).hash k.1,tupleKeyHash (PySem.strKind prog w) k.2]/\s'={s with toks:=s.toks+1+(k.2.length+1)}))
  _ ?_ ?_ _ _ (.inl ⟨rfl,rfl,rfl⟩)
 ·rintro x rest b' s' (⟨e,rfl,rfl⟩|⟨e,hb,rfl⟩|⟨e,_,_⟩)
  ·cases e;refine wpAny_bind (pU k.1 t (hh:=s'.heap) rfl (by show A.units+1<cLine;exact hu) ?_)
   first
    |exact wpAny_pure (.inr (.inl ⟨rfl,rfl,rfl⟩))
    |exact wpAny_bind (wpAny_pure (wpAny_pure (.inr (.inl ⟨rfl,rfl,rfl⟩))))
  ·cases e;refine wpAny_bind (mF hi rfl (by show A.units+1<cLine;exact hu) ?_)
   first
    |exact wpAny_pure (.inr (.inr ⟨rfl,by simp[hb],rfl⟩))
    |exact wpAny_bind (wpAny_pure (wpAny_pure (.inr (.inr ⟨rfl,by simp[hb],rfl⟩))))
  ·cases e
 ·rintro b' s' (⟨e,_,_⟩|⟨e,_,_⟩|⟨_,hb,rfl⟩)
  ·cases e
  ·cases e
  ·show wpAny _ _ (retInt (Builtin.Tuple.tupleHashOf b'.toList)) _ _ _;rw[hb];refine wpAny_ret_mkInt ?_;have et:s.toks+1+(k.2.length+1)+1=s.toks+(k.2.length+3):=by omega
   show wpAny _ _ (if (decide (-(2:Int) ^ 63<=Builtin.Tuple.tupleHashOf [(PySem.strKind prog w).hash k.1,tupleKeyHash (PySem.strKind prog w) k.2])&&decide (Builtin.Tuple.tupleHashOf [(PySem.strKind prog w).hash k.1,tupleKeyHash (PySem.strKind prog w) k.2]<2 ^ 63))=true then _ else _) Q E _;unfold mE reduceHash at h;by_cases hr:(decide (-(2:Int) ^ 63<=Builtin.Tuple.tupleHashOf [(PySem.strKind prog w).hash k.1,tupleKeyHash (PySem.strKind prog w) k.2])&&decide (Builtin.Tuple.tupleHashOf [(PySem.strKind prog w).hash k.1,tupleKeyHash (PySem.strKind prog w) k.2]<2 ^ 63))=true
   ·rw[if_pos hr];rw[if_pos hr]at h;exact wpAny_pure (by rw[et];exact h)
   ·rw[if_neg hr];rw[if_neg hr]at h;exact wpAny_bind (wpAny_rule (wpAny_pure (by rw[et];exact h)))
theorem n_(hu:A.units<cLine)(hx:a_ prog w s.heap x a)(hy:a_ prog w s.heap y b)(h:P (.done (.ret (.bool (decide (x=y))))) s):
  wpAny (model prog w) A (Builtin.«tuple.__eq__» ⟨[.ref a,.ref b],[]⟩) P E s:=by
 have Qo:=hy.typeIs;obtain⟨oa,na,ta,pa,Lh,_,Qp,J4⟩:=hx;obtain⟨ob,nb,tb,pb,Iu,_,Iv,Qq⟩:=hy;show wpAny _ _ (isInstance (.ref b) (.type "tuple") >>= _) _ _ s;refine wpAny_bind (wpAny_isInstance Qo isSubtype_tuple_tuple ?_);simp only[Bool.not_true,Bool.false_eq_true,if_false];refine wpAny_bind (wpAny_tupleItemsOf Lh Qp ?_);refine wpAny_bind (wpAny_tupleItemsOf Iu Iv ?_);refine wpAny_bind ?_;refine wpAny_forIn_list _
  (λrest r s'=>r.1=none/\s'=s/\((rest=[(Value.str x.1 ta,Value.str y.1 tb),(Value.ref pa,Value.ref pb)])\/(rest=[(Value.ref pa,Value.ref pb)]/\x.1=y.1)\/(rest=[]/\x=y)))
  _ ?_ ?_ _ _ ⟨rfl,rfl,.inl rfl⟩
 ·rintro⟨u,v⟩ rest r s' ⟨hr,rfl,(e|⟨e,e1⟩|⟨e,_⟩)⟩
  ·cases e;refine wpAny_bind ((PySem.strKind prog w).eqBool (a:=x.1) (b:=y.1) (by simp[PySem.strKind,Value.isStrOf]) (by simp[PySem.strKind,Value.isStrOf]) ?_);by_cases hk:x.1=y.1
   ·rw[decide_eq_true hk];simp only[Bool.not_true,Bool.false_eq_true,if_false];exact wpAny_pure ⟨rfl,rfl,.inr (.inl ⟨by first|rfl|trivial,hk⟩)⟩
   ·rw[decide_eq_false hk];simp only[Bool.not_false,if_true];rw[decide_eq_false (λz=>hk (by rw[z]))]at h;exact wpAny_bind (wpAny_pure (wpAny_pure (wpAny_pure h)))
  ·cases e;refine wpAny_bind (wpAny_eqBool_tuple hu J4 Qq ?_);by_cases hk:x.2=y.2
   ·rw[decide_eq_true hk];simp only[Bool.not_true,Bool.false_eq_true,if_false];exact wpAny_pure ⟨rfl,rfl,.inr (.inr ⟨by first|rfl|trivial,Prod.ext e1 hk⟩)⟩
   ·rw[decide_eq_false hk];simp only[Bool.not_false,if_true];rw[decide_eq_false (λz=>hk (by rw[z]))]at h;exact wpAny_bind (wpAny_pure (wpAny_pure (wpAny_pure h)))
  ·cases e
 ·rintro⟨r1,r2⟩ s' ⟨hr,rfl,(e|⟨e,_⟩|⟨_,rfl⟩)⟩
  ·cases e
  ·cases e
  ·simp only at hr;subst hr;refine wpAny_pure ?_;rw[decide_eq_true rfl]at h;exact h
theorem hV(hu:A.units+2<cLine)(hx:a_ prog w s.heap x a)(hy:a_ prog w s.heap y b)(h:Q (decide (x=y)) s):
  wpAny (model prog w) A (eqBool (.ref a) (.ref b)) Q E s:=by
 unfold eqBool
 try with_reducible refine wpAny_holding ?_
 show wpAny _ _ (if (Value.ref a==Value.ref b)=true then _ else _) Q E s;by_cases F4:(Value.ref a==Value.ref b)=true
 ·rw[if_pos F4];have e:a=b:=by have:=eq_of_beq F4;injection this
  subst e;obtain rfl:=hx.inj hy;exact wpAny_bind (wpAny_rule (wpAny_pure (by simpa using h)))
 ·rw[if_neg F4];exact wpAny_bind (wpAny_richCompare_same_room (op:=.Eq) hx.typeIs hy.typeIs PySem.F.slot_tuple_eq
   (wpAny_call_entry PySem.F.slot_tuple_eq hx.typeIs PySem.F.entry_tuple_eq (n_ (by first|(show A.units+1<cLine;omega)|(show A.units<cLine;omega)|(show A.units+1+1<cLine;omega)) hx hy ⟨_,rfl,(λe=>nomatch e),wpAny_truthy_bool h⟩) (PySem.F.args_tuple_eq_2 _ _)) (by omega))
theorem gq(hk:IsTupleKey (PySem.strKind prog w) s.heap ks a)(h:Q true s):wpAny (model prog w) A (eqIsQuiet (n+1) (.ref a)) Q E s:=by
 have hT:=hk.typeIs;obtain⟨o,items,n',ho,_,hd,hi⟩:=hk;unfold eqIsQuiet;refine wpAny_bind (wpAny_specialOf hT PySem.F.slot_tuple_eq.lookup ?_);show wpAny _ _ (isInstance (.ref a) (.type "tuple") >>= _) _ _ s;refine wpAny_bind (wpAny_isInstance hT isSubtype_tuple_tuple ?_);simp only[Bool.not_true,Bool.false_eq_true,if_false];refine wpAny_bind (wpAny_seqItems ho hd ?_);refine wpAny_bind ?_;show wpAny _ _ (forIn items _ _) _ _ s;rw[<-Array.forIn_toList];refine wpAny_forIn_list _ (λrest r s'=>r.1=none/\s'=s/\∀v∈rest,carriedByValue v=true) _ ?_ ?_ _ _ ⟨rfl,rfl,hi.byValue⟩
 ·rintro v rest r s' ⟨hr,rfl,E8⟩;rw[eqIsQuiet_byValue _ (E8 v List.mem_cons_self)];refine wpAny_bind (wpAny_pure ?_);simp only[Bool.not_true,Bool.false_eq_true,if_false];exact wpAny_pure ⟨rfl,rfl,λu Qr=>E8 u (List.mem_cons_of_mem _ Qr)⟩
 ·rintro⟨r1,r2⟩ s' ⟨hr,rfl,_⟩;simp only at hr;subst hr;exact wpAny_pure h
theorem iT(hk:a_ prog w s.heap k a)(h:Q true s):wpAny (model prog w) A (eqIsQuiet 8 (.ref a)) Q E s:=by
 have hT:=hk.typeIs;obtain⟨o,n,t,b,ho,_,hd,hi⟩:=hk;unfold eqIsQuiet;refine wpAny_bind (wpAny_specialOf hT PySem.F.slot_tuple_eq.lookup ?_);show wpAny _ _ (isInstance (.ref a) (.type "tuple") >>= _) _ _ s;refine wpAny_bind (wpAny_isInstance hT isSubtype_tuple_tuple ?_);simp only[Bool.not_true,Bool.false_eq_true,if_false];refine wpAny_bind (wpAny_seqItems ho hd ?_);refine wpAny_bind ?_;rw[<-Array.forIn_toList];refine wpAny_forIn_list _ (λrest r s'=>r.1=none/\s'=s/\(rest=[Value.str k.1 t,Value.ref b]\/rest=[Value.ref b]\/rest=[])) _ ?_ ?_ _ _ ⟨rfl,rfl,.inl rfl⟩
 ·rintro v rest r s' ⟨hr,rfl,(e|e|e)⟩
  ·cases e;rw[eqIsQuiet_byValue _ rfl];refine wpAny_bind (wpAny_pure ?_);simp only[Bool.not_true,Bool.false_eq_true,if_false];exact wpAny_pure ⟨rfl,rfl,.inr (.inl (by first|rfl|trivial))⟩
  ·cases e;refine wpAny_bind (gq hi ?_);simp only[Bool.not_true,Bool.false_eq_true,if_false];exact wpAny_pure ⟨rfl,rfl,.inr (.inr (by first|rfl|trivial))⟩
  ·cases e
 ·rintro⟨r1,r2⟩ s' ⟨hr,rfl,_⟩;simp only at hr;subst hr;exact wpAny_pure h
end
noncomputable def gr(prog:Program)(w:World):HeapKind prog w (Str×List Str) where
 is:=a_ prog w
 hash:=mE prog w
 draws:=λk=>k.2.length+3
 room:=λA=>A.units+2<cLine
 inj:=λhx hy=>hx.inj hy
 keeps:=λx ho hd hs=>x.keeps ho hd hs
 pyHash:=λhu hk h=>hJ (by omega) hk h
 eqBool:=λhu hx hy h=>hV hu hx hy h
 quiet:=λhk h=>iT hk h
abbrev kN:=Str×List Str
def eI(K:PySem.W.Frag)(H:Hp)(v:V)(k:kN):Prop:=∃a b,v=.ref a/\D3 K H a [.str k.1,.ref b]/\D3 K H b (k.2.map V.str)
noncomputable def iD(P:Program)(w:World)(d:Addr)(xs:List (kN×Addr×Value)):HO:=.ext λh=>(d==sysModules)=false/\∃o es ep,h.get? d=some o/\o.ExactDict/\o.data=.dict es ep/\es.toList=xs.map (entryOfKey (gr P w))/\(xs.map (·.1)).Nodup
def eh(P:Program)(w:World)(K:PySem.W.Frag)(H:Hp)(d:Addr)(ks:List kN):Prop:=∃xs,H d=some (iD P w d xs)/\xs.map (·.1)=ks/\∀x∈xs,eI K H (.ref x.2.1) x.1
theorem jz:∀{ks:List Str}{A':List Value},Vals (ks.map V.str) A'->ItemsAre (PySem.strKind P w) ks A'
 |[],_,.nil=>.nil
 |k::ks,_,.cons r t=>by
  obtain⟨tk,rfl⟩:=r;exact .cons (by simp[PySem.strKind,Value.isStrOf]) (jz t)
theorem xx(I:Inv X pins σ H s)(e:D3 X.K H b (ks.map V.str)):IsTupleKey (PySem.strKind X.prog X.w) s.heap ks b:=by
 obtain⟨A',r,⟨o,h1,h2,n,h3⟩,_⟩:=I.tuple e;exact⟨o,A'.toArray,n,h1,h2,h3,by simpa using jz r⟩
theorem i_(I:Inv X pins σ H s)(e:eI X.K H (.ref a) k):a_ X.prog X.w s.heap k a:=by
 obtain⟨a',b,q,e1,e2⟩:=e;cases q;obtain⟨A',r,⟨o,h1,h2,n,h3⟩,_⟩:=I.tuple e1;cases r with
 |cons r1 r2 =>
  cases r2 with
  |cons r2 r3 =>
   cases r3;obtain⟨t,rfl⟩:=r1;cases r2;exact⟨o,n,t,b,h1,h2,h3,xx I e2⟩
section
theorem Inv.Di(I:Inv X pins σ H s):sysModules<s.heap.objs.size:=by
 obtain⟨o,es,ep,ho,_⟩:=I.mod.glob;have h1:@LT.lt Nat _ mainGlobals s.heap.objs.size:=Heap.lt_size (I.bk _ _ ho);obtain⟨mb,⟨o',Dz,Gy,En,_⟩,_⟩:=I.mod.blt;have h2:@LT.lt Nat _ builtinsNs s.heap.objs.size:=Heap.lt_size (I.bk _ _ En);revert h1 h2;show @LT.lt Nat _ mainGlobals s.heap.objs.size->@LT.lt Nat _ builtinsNs s.heap.objs.size->@LT.lt Nat _ sysModules s.heap.objs.size;unfold mainGlobals builtinsNs sysModules;omega
theorem jA(I:Inv X pins σ H s)(h:H d=some (iD X.prog X.w d xs))(hk:∀x∈xs,eI X.K H (.ref x.2.1) x.1):(d==sysModules)=false/\s.heap.DictOfH (gr X.prog X.w) d xs:=by
 obtain⟨⟨h1,o,es,ep,h2,h3,h4,h5,h6⟩,_⟩:=I.DE d _ h;exact⟨h1,o,es,ep,h2,h3,h4,h5,λx hx=>i_ I (hk x hx),h6⟩
theorem yY(hd:(d==sysModules)=false)(x:h.DictOfH (gr P w) d xs):bp P w H' h d (iD P w d xs):=by
 obtain⟨o,es,ep,h2,h3,h4,h5,_,h6⟩:=x;exact⟨⟨hd,o,es,ep,h2,h3,h4,h5,h6⟩,⟨o,h2⟩,λh1 h2 ⟨q0,o,es,ep,q1,q2,q3,q4,q5⟩ k=>⟨q0,o,es,ep,k _ q1,q2,q3,q4,q5⟩⟩
theorem xy:PE X (.Dict [] [] pos) (λ_ H Q=>∀p,H p=none->Q (.ref p) (upd H p (iD X.prog X.w p []))):=λpins s σ H Q I h =>
 wpAny_Dict_empty ⟨.ref s.heap.objs.size,_,I.laid (a:=s.heap.objs.size) (o:=iD X.prog X.w s.heap.objs.size []) (t':=s.toks) (λ_ _ q=>Heap.get?_push_of_some _ q) (Nat.le_refl _)
  (yY (beq_eq_false_iff_ne.mpr (Ne.symm (Nat.ne_of_lt I.Di))) (Heap.DictOfH.new s.heap)),rfl,h _ (I.DE.fresh (Nat.le_refl _))⟩
theorem fO(k:kN):(atKey xs k).isSome=decide (k∈xs.map (·.1)):=by
 unfold atKey;rw[Option.isSome_map,Bool.eq_iff_iff,List.find?_isSome,decide_eq_true_eq,List.mem_map];constructor
 ·rintro⟨x,hx,e⟩;exact⟨x,hx,of_decide_eq_true e⟩
 ·rintro⟨x,hx,e⟩;exact⟨x,hx,decide_eq_true e⟩
theorem sM(hu:X.A.units+3<cLine):Fo X (compareOp .NotIn) (λx y H Q=>∃k d ks,eI X.K H x k/\y=.ref d/\eh X.prog X.w X.K H d ks/\Q (.bl (!decide (k∈ks))) H):=by
 intro pins s σ H x y v u Q I rx ry h;obtain⟨k,d,ks,hx,rfl,⟨xs,hd,F5,E8⟩,q⟩:=h;cases ry;obtain⟨a,b,rfl,e1,e2⟩:=id hx;cases rx;obtain⟨h1,h2⟩:=jA I hd E8;refine wpAny_notIn_heap (knd:=gr X.prog X.w) (k:=k) (by show X.A.units+1+2<cLine;omega) (i_ I hx) h1 h2 ?_;rw[fO,F5];exact⟨.bl _,H,I.tok _,rfl,q⟩
theorem xA(hu:X.A.units+3<cLine):jn X (λo i v H Q=>∃d k ks,o=.ref d/\eI X.K H i k/\eh X.prog X.w X.K H d ks/\k∉ks/\ks.length<=1000/\∀H',eh X.prog X.w X.K H' d (ks++[k])->(∀b,b≠d->H' b=H b)->Q H'):=by
 intro pins s σ H o i v ov iv u Q I ro ri rv h;obtain⟨d,k,ks,rfl,hi,⟨xs,hd,F5,E8⟩,hn,hl,q⟩:=h;cases ro;obtain⟨a,b,rfl,e1,e2⟩:=id hi;cases ri;obtain⟨h1,h2⟩:=jA I hd E8;have Qs:xs.length<=sizeLine:=by
  have:=congrArg List.length F5;rw[List.length_map]at this;rw[this];exact Nat.le_of_lt (sF hl)
 refine wpAny_setItem_heap (hsz:=Qs) (knd:=gr X.prog X.w) (k:=k) (by show X.A.units+1+2<cLine;omega) (i_ I hi) h2 λh' E5 sb=>?_;have G2:atKey xs k=none:=by
  have:=fO (xs:=xs) k;rw[F5,decide_eq_false hn]at this;cases e:atKey xs k with
  |none=>rfl
  |some _=>rw[e]at this;cases this
 rw[storedH_new G2]at E5;obtain⟨o',Dz,Gy,g1,_⟩:=id E5;refine⟨upd H d (iD X.prog X.w d (xs++[(k,a,u)])),I.write (x:=d) (e:=d) (by rw[hd];exact True.intro) (.inl rfl) (λb q hb z=>(sb.2 b hb).trans z) ⟨o',g1⟩ (yY h1 E5),q _ ⟨_,aq,by rw[List.map_append,F5];rfl,λx hx=>?_⟩ λb hb=>aj hb⟩;have kT:∀{a':Addr} {ys:List V},D3 X.K H a' ys->D3 X.K (upd H d (iD X.prog X.w d (xs++[(k,a,u)]))) a' ys:=λ{a' ys} z=>by
  rcases z with(z|⟨o,z⟩)|z
  ·exact .inl (.inl (by rw[aj (t6 z hd (λz=>nomatch z))];exact z))
  ·exact .inl (.inr ⟨o,by rw[aj (t6 z hd (λz=>nomatch z))];exact z⟩)
  ·exact .inr z
 have keep:∀{y:V} {k':kN},eI X.K H y k'->eI X.K (upd H d (iD X.prog X.w d (xs++[(k,a,u)]))) y k':=λ{y k'} ⟨a',b',z1,z2,z3⟩=>⟨a',b',z1,kT z2,kT z3⟩
 rcases List.mem_append.mp hx with m|m
 ·exact keep (E8 x m)
 ·have:x=(k,a,u):=by simpa using m
  subst this;exact keep hi
end
noncomputable def Ff(a b:Str):Bool:=!decide (b.cps.toList<a.cps.toList)
theorem ja(a b:Str):Ff a b=true↔a.cps.toList<=b.cps.toList:=by
 simp only[Ff,Bool.not_eq_true',decide_eq_false_iff_not];exact List.not_lt
theorem lq(a b c:Str)(h1:Ff a b=true)(h2:Ff b c=true):Ff a c=true:=by
 rw[ja]at h1 h2 ⊢;exact List.le_trans h1 h2
theorem sN(a b:Str):(Ff a b||Ff b a)=true:=by
 rw[Bool.or_eq_true,ja,ja];exact List.le_total _ _
theorem uL{x y:Str}(h:x.cps.toList=y.cps.toList):x=y:=by
 cases x;cases y;congr
 exact Array.toList_inj.mp h
theorem mG(h1:Ff a b=true)(h2:Ff b a=true):a=b:=by
 rw[ja]at h1 h2;exact uL (List.le_antisymm h1 h2)
noncomputable def aN(l:List Str):List Str:=l.mergeSort Ff
theorem bO(l:List Str):(aN l).Perm l:=List.mergeSort_perm l Ff
theorem eJ(l:List Str):(aN l).Pairwise (λa b=>Ff a b=true):=List.pairwise_mergeSort lq sN l
theorem gs:∀(l:List Str) (p:Str),risingS p l=true->(p::l).Pairwise (λa b=>Ff a b=true)
 |[],p,_=>by simp
 |x::r,p,h=>by
  have h':(!ltCps x.cps.toList p.cps.toList&&risingS x r)=true:=h;obtain⟨h1,h2⟩:=Bool.and_eq_true_iff.mp h';have ih:=gs r x h2;have Ow:Ff p x=true:=by rw[ltCps_eq]at h1;exact h1
  refine List.pairwise_cons.mpr ⟨λy hy=>?_,ih⟩;rcases List.mem_cons.mp hy with e|e
  ·rw[e];exact Ow
  ·exact lq _ _ _ Ow ((List.pairwise_cons.mp ih).1 y e)
theorem mH(h:sortedS l=true):l.Pairwise (λa b=>Ff a b=true):=by
 cases l with
 |nil=>exact .nil
 |cons x r=>exact gs r x h
theorem ff:∀{l m:List Str},l.Perm m->l.Pairwise (λa b=>Ff a b=true)->m.Pairwise (λa b=>Ff a b=true)->l=m
 |[],m,hp,_,_=>(List.Perm.nil_eq hp)
 |x::l,m,hp,h1,h2=>by
  cases m with
  |nil=>exact absurd hp.length_eq (by simp)
  |cons y m =>
   obtain⟨a1,a2⟩:=List.pairwise_cons.mp h1;obtain⟨b1,b2⟩:=List.pairwise_cons.mp h2;have Qt:x=y:=by
    have m1:x∈y::m:=hp.mem_iff.mp List.mem_cons_self;have m2:y∈x::l:=hp.mem_iff.mpr List.mem_cons_self;rcases List.mem_cons.mp m1 with e|e
    ·exact e
    ·rcases List.mem_cons.mp m2 with e'|e'
     ·exact e'.symm
     ·exact mG (a1 y e') (b1 x e)
   subst Qt;rw[ff (List.Perm.cons_inv hp) a2 b2]
theorem uM(hp:l.Perm m)(hs:sortedS l=true):l=aN m:=ff (hp.trans (bO m).symm) (mH hs) (eJ m)
theorem iE(hp:l.Perm m):aN l=aN m:=ff ((bO l).trans (hp.trans (bO m).symm)) (eJ l) (eJ m)
theorem bS(l:List Str):(aN l).length=l.length:=(bO l).length_eq
section
theorem cp:∀{ys:List Str}{A':List Value},Vals (ys.map V.str) A'->StrsAre A' ys
 |[],_,.nil=>.nil
 |y::ys,_,.cons r t=>by
  obtain⟨tk,rfl⟩:=r;exact .cons y tk (cp t)
theorem dW:∀{A':List Value}{ys:List Str},StrsAre A' ys->Vals (ys.map V.str) A'
 |_,_,.nil=>.nil
 |_,_,.cons x t h=>.cons ⟨t,rfl⟩ (dW h)
theorem fP(hc:wpAny (model prog w) A.in1 (collect x) (λvs s1=>∃ss,StrsAre vs ss/\vs.length<64 /\
      ∀(h':Heap) (DI:List Value) (e:Nat),(∀b o,s1.heap.get? b=some o->h'.get? b=some o)->h'.get? s1.heap.objs.size=some (seqObj "list" DI.toArray e)->StrsAre DI (aN ss)->Q (.ref s1.heap.objs.size) {s1 with heap:=h' }) E s) :
    wpAny (model prog w) A (call (.builtin "sorted") [x]) Q E s:=by
  refine Calls.call_function_entry kind_sorted plain_sorted entry_sorted (args_sorted1 _) ?_;unfold Builtin.«sorted»;refine wpAny_bind (m:=checkCount "sorted" 1 1 _) (wpAny_pure ?_);refine wpAny_bind (wpAny_mono hc (λvs s1 h1=>?_) λ_ _ e=>e);obtain⟨ss,hS,FD,h⟩:=h1
  refine wpAny_bind (wpAny_newList ?_ (by have : (64 : Nat) ≤ sizeLine := by decide
                                          omega))
  have Hb:(s1.heap.push (seqObj "list" vs.toArray 0)).get? s1.heap.objs.size=some (seqObj "list" vs.toArray 0):=Heap.get?_push_size _ rfl;show wpAny _ _ _ _ _ {s1 with heap:=s1.heap.push (seqObj "list" vs.toArray 0)};refine wpAny_bind (wpAny_holding (wpAny_call_entry slot_list_sort ⟨_,Hb,rfl⟩ entry_list_sort (list_sort_treeK strKind_oneLt Hb hS.keysOf (λv₁ v₂ rest e=>keyKind_strs (by rw[<-e];exact hS)) FD λst' a1 a2=>⟨_,rfl,?_⟩) (args_list_sort _)));obtain⟨FE,b1,b2,b3⟩:=sorted_out_str hS a1 a2;obtain⟨e,he⟩:=sortedHeap_at (out:=(arrOf st').map (·.2)) Hb;rw[uM b2 b3]at b1;refine wpAny_pure ⟨_,rfl,h _ ((arrOf st').map (·.2)).toList e (λb o q=>?_) (by rw[Array.toArray_toList];exact he) b1⟩;have DW:b<s1.heap.objs.size:=Heap.lt_size q;show(sortedHeap (s1.heap.push (seqObj "list" vs.toArray 0)) s1.heap.objs.size vs ((arrOf st').map (·.2))).get? b=some o;rw[sortedHeap_old (Nat.ne_of_lt DW) (by rw[size_push'];exact Nat.lt_succ_of_lt DW)];exact Heap.get?_push_of_some _ q
theorem kO(hl:IsTup s.heap l vs.toArray)
  (h:Q vs {s with heap:=(s.heap.push (seqObj "list" #[] 0)).update s.heap.objs.size (Obj.mapSeq (·++vs.toArray))}) (hsz:vs.length<=sizeLine) :
  wpAny (model prog w) A (collect (.ref l)) Q E s:=by
 obtain⟨o,ho,hc,n,hd⟩:=id hl;unfold collect;refine wpAny_bind (wpAny_runValue (codeAny_builtin entry_proto_collect' ?_));show wpAny _ _ (do again (.builtin "list.__iadd__" ⟨[<-newList [],.ref l],[]⟩)) _ _ s;refine wpAny_bind (wpAny_newList (wpAny_pure ⟨Code.quiet_builtin _ (by decide +kernel),codeAny_builtin entry_list_iadd' ?_⟩));show wpAny _ _ (Builtin.List.listExtendWith (.ref s.heap.objs.size) (.ref l) (.ref s.heap.objs.size)) _ _ {s with heap:=s.heap.push (seqObj "list" #[] 0)};unfold Builtin.List.listExtendWith;have En:(s.heap.push (seqObj "list" #[] 0)).get? l=some o:=Heap.get?_push_of_some _ ho;refine wpAny_bind (wpAny_typeOf (T:="tuple") ⟨o,En,hc⟩ ?_);have ht:(Value.type "tuple"==Value.type "tuple")=true:=by rfl
 rw[if_pos (by rw[ht];simp)];refine wpAny_bind (listItems_at En hd ?_);refine wpAny_bind (listItems_at (xs:=#[]) (n:=0) (Heap.get?_push_size _ rfl) rfl ?_);rw[if_neg (by simp)];refine wpAny_bind (listUpdate_at (xs:=#[]) (n:=0) (Heap.get?_push_size _ rfl) rfl ?_ (Nat.zero_le _) (by show(#[]++vs.toArray).size<=sizeLine+1;simp only[Array.size_append,List.size_toArray,List.length_nil];omega));refine wpAny_pure ?_;show wpAny (model prog w) A (do
   let o <-load s.heap.objs.size
   match o.data with
   |.seq xs _=>pure xs.toList
   |_=>unsupported "internal:collect") Q E {s with heap:=(s.heap.push (seqObj "list" #[] 0)).update s.heap.objs.size (Obj.mapSeq (·++vs.toArray))}
 refine wpAny_bind (wpAny_load (get?_update_seq (Heap.get?_push_size _ rfl) _) ?_);show wpAny _ _ (pure ((#[]:Array Value)++vs.toArray).toList) Q E _;rw[show((#[]:Array Value)++vs.toArray).toList=vs by simp];exact wpAny_pure h
end
section
theorem kP{h:Heap}{vs:List Value}(e:h.get? b=some o):((h.push (seqObj "list" #[] 0)).update h.objs.size (Obj.mapSeq (·++vs.toArray))).get? b=some o:=by
 rw[Heap.get?_update_ne _ _ _ _ (Nat.ne_of_lt (Heap.lt_size e))];exact Heap.get?_push_of_some _ e
theorem og(I:Inv X pins σ H s)(k1:∀b o,s.heap.get? b=some o->s1.heap.get? b=some o)(E9:∃h1 t1,s1={s with heap:=h1,toks:=t1})
  (hk:∀b o,s1.heap.get? b=some o->h'.get? b=some o) (EF:h'.get? s1.heap.objs.size=some (seqObj "list" DI.toArray e)) (hS:StrsAre DI (aN ss)) (hsz:s.heap.objs.size<=s1.heap.objs.size) (hl:ss.length<=sizeLine)
  (q:∀p,H p=none->Q (.ref p) (upd H p (.lst ((aN ss).map V.str)))):EP X pins σ Q (.ref s1.heap.objs.size) {s1 with heap:=h' }:=by
 obtain⟨h1,t1,rfl⟩:=E9;have I1:Inv X pins σ H {s with heap:=h1,toks:=t1}:=I.kept (t':=t1) k1;refine⟨.ref h1.objs.size,_,I1.laid (t':=t1) (o:=.lst ((aN ss).map V.str)) hk (Nat.le_refl _) ⟨by rw[List.length_map,bS];exact hl,DI,e,dW hS,EF⟩,rfl,q _ (I1.DE.fresh (Nat.le_refl _))⟩
theorem iF:iA X (.builtin "sorted") (λxs H Q=>∃(p:Addr) (ys:List Str),xs=[.ref p]/\(D7 X.K H p (ys.map V.str)\/D3 X.K H p (ys.map V.str))/\ys.length<64/\∀q,H q=none->Q (.ref q) (upd H q (.lst ((aN ys).map V.str)))):=by
 intro pins s σ H xs us Q I rs h;obtain⟨p,ys,rfl,hq,FD,q⟩:=h;obtain⟨u,rfl,r⟩:=vals1 rs;cases r;have hl:ys.length<=sizeLine:=Nat.le_of_lt (Nat.lt_of_lt_of_le FD (by decide));have fin:∀(A':List Value),Vals (ys.map V.str) A'->∀(h':Heap) (DI:List Value) (e:Nat),(∀b o,((s.heap.push (seqObj "list" #[] 0)).update s.heap.objs.size (Obj.mapSeq (·++A'.toArray))).get? b=some o->h'.get? b=some o) ->
   h'.get? ((s.heap.push (seqObj "list" #[] 0)).update s.heap.objs.size (Obj.mapSeq (·++A'.toArray))).objs.size=some (seqObj "list" DI.toArray e)->StrsAre DI (aN ys) ->
   EP X pins σ Q (.ref ((s.heap.push (seqObj "list" #[] 0)).update s.heap.objs.size (Obj.mapSeq (·++A'.toArray))).objs.size) {s with heap:=h' }:=λA' rv h' DI e hk EF hS =>
  og (s1:={s with heap:=(s.heap.push (seqObj "list" #[] 0)).update s.heap.objs.size (Obj.mapSeq (·++A'.toArray))}) I (λb o z=>kP z) ⟨_,s.toks,rfl⟩ hk EF hS (by show s.heap.objs.size<=((s.heap.push (seqObj "list" #[] 0)).update s.heap.objs.size (Obj.mapSeq (·++A'.toArray))).objs.size;rw[Heap.size_update,size_push'];exact Nat.le_succ _) hl q
 rcases hq with hq|hq
 ·obtain⟨A',rv,pl,hz⟩:=I.list hq;have el:A'.length=ys.length:=by rw[<-rv.length,List.length_map]
  exact fP (collect_list pl.isList ⟨ys,cp rv,by omega,λh' DI e hk EF hS=>fin A' rv h' DI e hk EF hS⟩ (by omega))
 ·obtain⟨A',rv,pl,hz⟩:=I.tuple hq;have el:A'.length=ys.length:=by rw[<-rv.length,List.length_map]
  exact fP (kO pl ⟨ys,cp rv,by omega,λh' DI e hk EF hS=>fin A' rv h' DI e hk EF hS⟩ (by omega))
end
abbrev sK(P:Program)(w:World):=PySem.strKind P w
def aI(P:Program)(w:World)(h:Heap)(a:Addr)(led:Bool)(D:List Str):Prop :=
 ∃(L:List (Str×Tok)) (es:Array (Int×Value)) (ep:Nat) (t:SetTable),h.get? a=some {cls:=.type "set",dict:=none,data:=.set es ep t}/\es.toList=L.map (λp=>((sK P w).hash p.1,Value.str p.1 p.2)) /\
  (L.map (·.1)).Perm D/\D.Nodup/\t.fits es.size=true/\es.size<scanBound/\t.led=led/\(es.size=0\/t.plain=false)
section
theorem jB{L:List (Str×Tok)}:ElemsOf (sK prog w) (L.map λp=>((sK prog w).hash p.1,Value.str p.1 p.2)):=by
 intro e he;obtain⟨p,_,rfl⟩:=List.mem_map.mp he;exact⟨⟨p.1,by simp[PySem.strKind,Value.isStrOf],rfl⟩,rfl⟩
theorem fF(x y:Str)(t:Tok):(sK prog w).is x (.str y t)=decide (x=y):=by
 rw[Bool.eq_iff_iff];simp[PySem.strKind,Value.isStrOf];exact⟨λh=>h.symm,λh=>h.symm⟩
theorem pV(t:SetTable)(es:Array (Int×Value))(h:Int)(x:Value):(layNew t es h x).2.1.led=t.led:=by
 unfold layNew;split
 ·show(SetTable.orStandIn (t.put _).1 _).led=t.led;unfold SetTable.orStandIn;split<;>rfl
 ·rfl
theorem mI(t:SetTable)(es:Array (Int×Value))(n:Nat):(relayAll t es n).2.1.led=t.led:=by
 unfold relayAll;split
 ·rename_i t' order he;have:t'.led=t.led:=by
   unfold SetTable.relaid SetTable.laid at he;cases hc:SetTable.layClean (SetTable.sizeAbove n - 1) (es.map (·.1)) with
   |none=>rw[hc]at he;cases he
   |some o=>rw[hc]at he;cases he;rfl
  dsimp only
  split
  ·exact this
  ·rfl
 ·rfl
theorem jC(t:SetTable)(es:Array (Int×Value))(n:Nat)(h:t.plain=false):(relayAll t es n).2.1.plain=false:=by
 unfold relayAll;split
 ·rename_i t' order he;have:t'.plain=t.plain:=by
   unfold SetTable.relaid SetTable.laid at he;cases hc:SetTable.layClean (SetTable.sizeAbove n - 1) (es.map (·.1)) with
   |none=>rw[hc]at he;cases he
   |some o=>rw[hc]at he;cases he;rfl
  dsimp only
  split
  ·rw[this];exact h
  ·rfl
 ·rfl
theorem cH(h:l.Perm (L.map λp=>((sK prog w).hash p.1,Value.str p.1 p.2))):∃L':List (Str×Tok),l=L'.map (λp=>((sK prog w).hash p.1,Value.str p.1 p.2))/\L'.Perm L:=by
 have all:∀e∈l,∃p:Str×Tok,e=((sK prog w).hash p.1,Value.str p.1 p.2):=λe he=>by
  obtain⟨p,_,rfl⟩:=List.mem_map.mp (h.mem_iff.mp he);exact⟨p,rfl⟩
 have ex:∀l:List (Int×Value),(∀e∈l,∃p:Str×Tok,e=((sK prog w).hash p.1,Value.str p.1 p.2))->∃L':List (Str×Tok),l=L'.map (λp=>((sK prog w).hash p.1,Value.str p.1 p.2)):=by
  intro l;induction l with
  |nil=>intro _;exact⟨[],rfl⟩
  |cons e l ih =>
   intro ha;obtain⟨p,rfl⟩:=ha e List.mem_cons_self;obtain⟨L',rfl⟩:=ih λe he=>ha e (List.mem_cons_of_mem _ he);exact⟨p::L',rfl⟩
 obtain⟨L',rfl⟩:=ex l all;refine⟨L',rfl,?_⟩;have g:(L'.map λp=>((sK prog w).hash p.1,Value.str p.1 p.2)).map (λe=>match e.2 with|.str x t=>(x,t)|_=>(Str.empty,0))=L':=by
  rw[List.map_map];exact List.map_id _
 have g2:(L.map λp=>((sK prog w).hash p.1,Value.str p.1 p.2)).map (λe=>match e.2 with|.str x t=>(x,t)|_=>(Str.empty,0))=L:=by
  rw[List.map_map];exact List.map_id _
 have:=h.map (λe=>match e.2 with|.str x t=>(x,t)|_=>(Str.empty,0));rw[g,g2]at this;exact this
theorem jD(hS:aI prog w s.heap a led D)(HA:D.length+1<scanBound)
    (h:∀h',Heap.SameBut a s.heap h'->aI prog w h' a led (if x∈D then D else D++[x])->Q (decide (x∉D)) {s with heap:=h' }) :
    wpAny (model prog w) A (setAddHashed a (.str x tk) ((sK prog w).hash x)) Q E s:=by
  obtain⟨L,es,ep,t,ho,Ek,DC,DN,hf,hb,Em,Eg⟩:=hS;have Iw:(sK prog w).is x (.str x tk)=true:=by rw[fF];simp
  have J5:ElemsOf (sK prog w) es.toList:=by rw[Ek];exact jB
  have hlen:es.size=D.length:=by rw[<-Array.length_toList,Ek,List.length_map,<-List.length_map (f:=Prod.fst) (as:=L),DC.length_eq]
  unfold setAddHashed setAddHashedIn;refine wpAny_holding (wpAny_bind (wpAny_setState_of ho rfl hf ?_))
  dsimp only
  rw[byScan_of (knd:=sK prog w) rfl hb J5];simp only[↓reduceIte];unfold setAddByScan;refine wpAny_bind ?_;refine wpAny_bind (wpAny_rule ?_);refine wpAny_bind (wpAny_setScan_of (knd:=sK prog w) Iw ho rfl hf J5 ?_);have mem_iff:(∃e∈es.toList,(sK prog w).is x e.2=true)↔x∈D:=by
    rw[Ek,<-DC.mem_iff,List.mem_map];constructor
    · rintro⟨e,he,hi⟩
      obtain⟨p,hp,rfl⟩:=List.mem_map.mp he;rw[fF,decide_eq_true_eq]at hi;exact⟨p,hp,hi.symm⟩
    · rintro⟨p,hp,e⟩
      exact⟨_,List.mem_map.mpr ⟨p,hp,rfl⟩,by rw[fF];simp[e]⟩
  cases hr:List.findIdx? (λe=>(sK prog w).is x e.2) es.toList with
  | some j =>
    dsimp only
    obtain⟨hj,Li,_⟩:=List.findIdx?_eq_some_iff_getElem.mp hr;have hx:x∈D:=mem_iff.mp ⟨es.toList[j],List.getElem_mem hj,Li⟩;refine wpAny_pure (wpAny_pure ?_);have e:s={s with heap:=s.heap}:=by cases s;rfl
    have:=h s.heap (Heap.SameBut.refl a s.heap) (by rw[if_pos hx];exact⟨L,es,ep,t,ho,Ek,DC,DN,hf,hb,Em,Eg⟩);rw[decide_eq_false (λz=>z hx)]at this;rw[e];exact this
  | none =>
    dsimp only
    have hx:x∉D:=λhx=>by
      obtain⟨e,he,hp⟩:=mem_iff.mpr hx;have:=List.findIdx?_eq_none_iff.mp hr e he;rw[hp]at this;exact Bool.noConfusion this
    have Qu:∀(b:Bool) {s₁:Shared} {Q':Unit->Shared->Prop},Q' () s₁->wpAny (model prog w) A (match b with|true=>rule "set.scan.the-table-gave-way"|false=>pure ()) Q' E s₁ :=
      λb s₁ Q' hq=>by cases b<;>first|exact wpAny_pure hq|exact wpAny_rule hq
    have Jl:=layNew_perm t es ((sK prog w).hash x) (.str x tk);have FR:=layNew_fits t es ((sK prog w).hash x) (.str x tk);have Gj:=pV t es ((sK prog w).hash x) (.str x tk);generalize hL:layNew t es ((sK prog w).hash x) (.str x tk)=NL at Jl FR Gj ⊢;obtain⟨Ec,t1,GG,Qv⟩:=NL
    dsimp only at Jl FR Gj ⊢
    rw[Array.toList_push,Ek,show [((sK prog w).hash x,Value.str x tk)]=[(x,tk)].map (λp=>((sK prog w).hash p.1,Value.str p.1 p.2)) from rfl,<-List.map_append]at Jl;obtain⟨L1,e1,Qw⟩:=cH Jl;have Iy:Ec.size=D.length+1:=by rw[<-Array.length_toList,Jl.length_eq,List.length_map,List.length_append,<-hlen,<-Array.length_toList,Ek,List.length_map];rfl
    have Ox:Ec.size<scanBound:=by omega
    have HB:(L1.map (·.1)).Perm (D++[x]):=(Qw.map _).trans (by rw[List.map_append];exact DC.append_right _);have Oy:(D++[x]).Nodup:=by
      rw[List.nodup_append]
      exact ⟨DN, by simp, fun y hy z hz => by have : z = x := by simpa using hz
                                              subst this;rintro rfl;exact hx hy⟩
    refine wpAny_bind (Qu _ ?_);have F6:∀h',Heap.SameBut a s.heap h'->aI prog w h' a led (D++[x])->Q true {s with heap:=h' }:=λh' sb hs=>by
      have:=h h' sb (by rw[if_neg hx];exact hs);rw[decide_eq_true hx]at this;exact this
    have tail:∀(g:Bool->Sem Unit),(∀(b:Bool) (s₁:Shared) (Q':Unit->Shared->Prop),Q' () s₁->wpAny (model prog w) A (g b) Q' E s₁)->∀(R:Option Bool->Shared->Prop),(∀h',Heap.SameBut a s.heap h'->aI prog w h' a led (D++[x])->R (some true) {s with heap:=h' })->∀t2:SetTable,t2.fits Ec.size=true->t2.led=led->t2.plain=false->wpAny (model prog w) A (do
        storeSet a Ec t2
        if (!GG&&t2.tooFull)=true then do
            g (relayAll t2 Ec (SetTable.grown Ec.size)).2.2
            storeSet a (relayAll t2 Ec (SetTable.grown Ec.size)).1 (relayAll t2 Ec (SetTable.grown Ec.size)).2.1
            pure (some true)
          else pure (some true)) R E s:=by
      intro g hg R hR t2 Qx GH Hg;refine wpAny_bind (wpAny_storeSet_of ho rfl ?_ (fits_of_scanBound Ox));have G4:(s.heap.update a (Obj.putSet Ec t2)).get? a=some {cls:=.type "set",dict:=none,data:=.set Ec (ep+1) t2}:=by
        have:=Heap.get?_update_self (Obj.putSet Ec t2) ho rfl;exact this
      have J6:=Heap.SameBut.update s.heap a (Obj.putSet Ec t2);split
      · have hp:=relayAll_perm t2 Ec (SetTable.grown Ec.size)
        have G5:=relayAll_fits t2 Ec (SetTable.grown Ec.size);have MC:=mI t2 Ec (SetTable.grown Ec.size);have HC:=jC t2 Ec (SetTable.grown Ec.size) Hg;generalize MD:relayAll t2 Ec (SetTable.grown Ec.size)=Rl at hp G5 MC HC ⊢;obtain⟨Hh,t3,OA⟩:=Rl
        dsimp only at hp G5 MC HC ⊢
        rw[e1]at hp;obtain⟨L2,e2,Qy⟩:=cH hp;have hsz:Hh.size=Ec.size:=by rw[<-Array.length_toList,hp.length_eq,<-e1,Array.length_toList]
        refine wpAny_bind (hg _ _ _ ?_);refine wpAny_bind (wpAny_storeSet_of G4 rfl ?_ (fits_of_scanBound (by omega)));have HD:((s.heap.update a (Obj.putSet Ec t2)).update a (Obj.putSet Hh t3)).get? a=some {cls:=.type "set",dict:=none,data:=.set Hh (ep+1+1) t3}:=Heap.get?_update_self (Obj.putSet Hh t3) G4 rfl;refine wpAny_pure (hR _ (J6.trans (Heap.SameBut.update _ a _)) ⟨L2,Hh,_,t3,HD,e2,(Qy.map _).trans HB,Oy,G5,by omega,MC.trans GH,.inr HC⟩)
      · exact wpAny_pure (hR _ J6 ⟨L1,Ec,_,t2,G4,e1,HB,Oy,Qx,Ox,GH,.inr Hg⟩)
    split
    · rename_i hp
      refine wpAny_bind ?_;rw[hashByValue_scannable 8 rfl];refine wpAny_pure ?_;have ep:(if plainKind (Value.str x tk)=true then t1 else {t1 with plain:=false})={t1 with plain:=false}:=rfl;rw[ep];refine tail _ ?_ _ ?_ {t1 with plain:=false} (SetTable.fits_plain_off FR) (Gj.trans Em) rfl
      · intro b s₁ Q' hq;cases b<;>first|exact wpAny_pure hq|exact wpAny_rule hq
      · intro h' Hi Gk;dsimp only;exact wpAny_pure (F6 h' Hi Gk)
    · rename_i hp
      refine wpAny_bind (wpAny_pure ?_);simp only[↓reduceIte];refine tail _ ?_ _ ?_ t1 FR (Gj.trans Em) (Bool.eq_false_iff.mpr hp)
      · intro b s₁ Q' hq;cases b<;>first|exact wpAny_pure hq|exact wpAny_rule hq
      · intro h' Hi Gk;dsimp only;exact wpAny_pure (F6 h' Hi Gk)
end
noncomputable def iU(D:List Str)(x:Str):List Str:=if x∈D then D else D++[x]
noncomputable def av(l:List Str):List Str:=l.foldl iU []
theorem pW(h:D.Nodup):(iU D x).Nodup:=by
  unfold iU;split
  · exact h
  · rename_i hx
    rw[List.nodup_append]
    exact ⟨h, by simp, fun y hy z hz => by have : z = x := by simpa using hz
                                           subst this;rintro rfl;exact hx hy⟩
theorem dX:∀(l D:List Str),D.Nodup->(l.foldl iU D).Nodup/\(∀x,x∈l.foldl iU D↔x∈D\/x∈l)/\(l.foldl iU D).length<=D.length+l.length
 |[],D,h=>⟨h,by simp,by simp⟩
 |y::l,D,h=>by
  obtain⟨h1,h2,h3⟩:=dX l (iU D y) (pW h);have hm:∀x,x∈iU D y↔x∈D\/x=y:=λx=>by
   unfold iU;split
   ·rename_i hy;exact⟨.inl,λz=>z.elim id (λe=>e▸hy)⟩
   ·simp
  have hl:(iU D y).length<=D.length+1:=by
   unfold iU;split
   ·omega
   ·simp
  refine⟨h1,λx=>?_,by rw[List.foldl_cons,List.length_cons];omega⟩;rw[List.foldl_cons,h2,hm,List.mem_cons,or_assoc]
theorem cy(l:List Str):(av l).Nodup:=(dX l [] List.nodup_nil).1
theorem cI(l:List Str)(x:Str):x∈av l↔x∈l:=by rw[av,(dX l [] List.nodup_nil).2.1];simp
theorem dY(l:List Str):(av l).length<=l.length:=by have:=(dX l [] List.nodup_nil).2.2;simpa[av] using this
theorem oh(l:List Str)(x:Str):av (l++[x])=iU (av l) x:=by unfold av;rw[List.foldl_append];rfl
section
variable{prog:Program}{w:World}{A:Around}{R:Result->Shared->Prop}{I:Addr}{fp wr:List Addr}{G:Array GenState->Array GenState->Prop}{n:Nat}{P:Nat->Value->Prop}{St:Nat->Shared->Prop}
theorem h_(W:WalksS prog w A.in1 I fp wr G n P St)(S:Addr)(J7:S∉fp)(led:Bool)
  (ys:List Str) (hn:ys.length=n) (IA:∀i v,P i v->∃x t,ys[i]?=some x/\v=.str x t) (hb:n+1<scanBound) :
  ∀(k i:Nat) (s:Shared),n - i=k->i<=n->St i s->aI prog w s.heap S led (av (ys.take i)) ->
   (∀s',Moved (S::wr) G s s'->aI prog w s'.heap S led (av ys)->R (.ok (.ret .none)) s') ->
   codeAny (model prog w) A (.builtin "set.update.loop" ⟨[.ref S,.ref I],[]⟩) R s:=by
 have OB:S∉wr:=λh=>J7 (W.sub _ h);have EO:∀b∈wr,b∈S::wr:=λb hb=>List.mem_cons_of_mem _ hb;intro k;induction k with
 |zero =>
  intro i s hk hi DJ hS hR;have EN:i=n:=by omega
  subst EN;refine codeAny_builtin PyProof.Rows.F.entry_set_update_loop ?_;rw[Around.under_plainId PyProof.Rows.F.plain_set_update_loop _];show wpAny _ A.in1 (pyNext (.ref I) >>= _) _ _ s;refine wpAny_bind (W.done s _ _ DJ λs' hm=>?_);show wpAny _ A.in1 (ret Value.none) _ _ s';rw[List.take_of_length_le (by omega)]at hS;exact wpAny_pure (hR s' (hm.mono EO) (by
   obtain⟨L,es,ep,t,ho,rest⟩:=hS;exact⟨L,es,ep,t,hm.heap S _ OB ho,rest⟩))
 |succ k ih =>
  intro i s hk hi DJ hS hR;have DW:i<n:=by omega
  refine codeAny_builtin PyProof.Rows.F.entry_set_update_loop ?_;rw[Around.under_plainId PyProof.Rows.F.plain_set_update_loop _];show wpAny _ A.in1 (pyNext (.ref I) >>= _) _ _ s;refine wpAny_bind (W.item i s _ _ DW DJ λv s' hP IB hm=>?_);obtain⟨x,t,hx,rfl⟩:=IA i v hP;have Gk:aI prog w s'.heap S led (av (ys.take i)):=by
   obtain⟨L,es,ep,tb,ho,rest⟩:=hS;exact⟨L,es,ep,tb,hm.heap S _ OB ho,rest⟩
  show wpAny _ A.in1 (holding [Value.str x t] (setAdd S (.str x t)) >>= _) _ _ s';refine wpAny_bind (wpAny_holding ?_);unfold setAdd;refine wpAny_holding ?_;refine wpAny_bind ((sK prog w).pyHash (k:=x) (by rw[fF];simp) ?_);have HA:(av (ys.take i)).length+1<scanBound:=by have:=dY (ys.take i);rw[List.length_take]at this;omega
  refine jD (s:={s' with toks:=s'.toks+1}) Gk HA λh' Hi Jm=>?_;have Qz:aI prog w h' S led (av (ys.take (i+1))):=by
   rw[List.take_add_one,hx];show aI prog w h' S led (av (ys.take i++[x]));rw[oh];exact Jm
  refine wpAny_pure ⟨plainId_quiet PyProof.Rows.F.plain_set_update_loop _,ih (i+1) _ (by omega) DW (W.frame _ s' _ _ IB (Nat.le_succ _) λb hb o e=>?_) Qz λJQ ME MF=>?_⟩
  ·rw[Hi.2 b (λh:b=S=>J7 (by rw[<-h];exact hb))];exact e
  ·refine hR JQ (Moved.trans W.gtrans ((hm.mono EO).then_heap (Nat.le_succ _) λb o hb e=>?_) ME) MF;rw[Hi.2 b (λh:b=S=>hb (by rw[h];exact List.mem_cons_self))];exact e
end
section
theorem kQ(a:Value)
  (h:Q₁ (.ref s.heap.objs.size) {s with heap:=s.heap.push {cls:=.type "set",dict:=none,data:=.set #[] 0 (.fresh 0 0 (!w.params.followText "set-order"))}}) :
  codeAny (model prog w) A (.call (.builtin "set.__new__") ⟨[.type "set",a],[]⟩) (wants Q₁ E) s:=by
 refine codeAny_of_tree ?_;show wpAny _ A.in1 (do checkBuiltinCall "set.__new__" ⟨[.type "set",a],[]⟩;again (.builtin "set.__new__" ⟨[.type "set",a],[]⟩)) _ _ s;refine wpAny_bind (wpAny_of_eq (PySem.F.newCall_set_1 a) (wpAny_pure ⟨plainId_quiet PySem.F.plain_set_new _,codeAny_builtin PySem.F.entry_set_new ?_⟩));rw[Around.under_plainId PySem.F.plain_set_new _];unfold Builtin.«set.__new__» Builtin.Frozenset.newClass;have EO:=sub_set_self;obtain⟨hp,g,d,tk,os⟩:=s
 dsimp only
 wp_walk
 refine wpAny_askSetting (wpAny_pure ?_)
 dsimp only
 simp only[newObj];refine wpAny_bind (wpAny_alloc (wpAny_pure ?_));exact wpAny_pure h
theorem fQ(hg:h.get? a=some {cls:=.type "set",dict:=none,data:=.set #[] 0 (.fresh 0 0 led)}):aI prog w h a led [] :=
 ⟨[],#[],0,_,hg,rfl,.nil,List.nodup_nil,rfl,by unfold scanBound;decide,rfl,.inl rfl⟩
end
theorem sub_tuple_set:isSubtype (.type "tuple") (.type "set")=pure false:=by rw[isSubtype_type];kernel_rfl
theorem sub_tuple_frozenset:isSubtype (.type "tuple") (.type "frozenset")=pure false:=by rw[isSubtype_type];kernel_rfl
section
abbrev ax(w:World):Bool:=!w.params.followText "set-order"
abbrev pX(led:Bool):Obj:={cls:=.type "set",dict:=none,data:=.set #[] 0 (.fresh 0 0 led)}
theorem gu
  (QA:s.TypeIs (.ref l) T) (QB:isSubtype (.type T) (.type "set")=pure false) (QC:isSubtype (.type T) (.type "frozenset")=pure false) (Ej:(Value.type T==Value.type "dict")=false)
  (hb:ys.length+1<scanBound)
  (hit:∀(s1:Shared) (B:Around) (Q':Value->Shared->Prop),B.handled=A.handled->(∀b o,s.heap.get? b=some o->s1.heap.get? b=some o)->s.heap.objs.size<s1.heap.objs.size ->
   (∀I fp wr G P St h1,WalksS prog w B.in1 I fp wr G ys.length P St->(∀g g',G g g'->g'=g)->s.heap.objs.size∉fp->(∀b∈wr,s.heap.objs.size<b)->(∀i v,P i v->∃x t,ys[i]?=some x/\v=.str x t)->St 0 {s1 with heap:=h1}->(∀b o,s1.heap.get? b=some o->h1.get? b=some o)->Q' (.ref I) {s1 with heap:=h1})->wpAny (model prog w) B (pyIter (.ref l)) Q' E s1)
  (h:∀(h':Heap) (tk:Nat),aI prog w h' s.heap.objs.size (ax w) (av ys)->(∀b o,b<s.heap.objs.size->s.heap.get? b=some o->h'.get? b=some o)->Q (.ref s.heap.objs.size) {s with heap:=h',toks:=tk}) :
  wpAny (model prog w) A (call (.type "set") [.ref l]) Q E s:=by
 obtain⟨c,tl,QD⟩:=PySem.F.called_set.mro;have FT:=PySem.F.called_set.made;have EO:=PySem.F.called_set.sub;refine wpAny_call (codeAny_of_tree ?_);show wpAny _ _ (callAny (.type "set") _) _ _ _;refine wpAny_pure ⟨Code.quiet_builtin _ (by decide +kernel),codeAny_builtin PySem.F.entry_type_call ?_⟩;rw[Around.under_plain (weight_type_call_type "set" [.ref l] []) rfl];have h1:=PySem.F.called_set.notType;have h2:=PySem.F.called_set.canCreate;have S4:=PySem.F.typeCall_set_1 (.ref l)
 repeat (any_goals (first|assumption|wp_step))
 refine codeAny_mono (kQ (.ref l) (E:=E) (Q₁:=λobj s₁=>obj=.ref s.heap.objs.size/\s₁={s with heap:=s.heap.push (pX (ax w))}) ⟨rfl,rfl⟩) λr s₁ hr=>?_;cases r with
 |error e=>exact hr
 |ok fl =>
  cases fl with
  |ret obj =>
   obtain⟨rfl,rfl⟩:=hr;have hS:(s.heap.push (pX (ax w))).get? s.heap.objs.size=some (pX (ax w)):=Heap.get?_push_size _ rfl;have hT:Shared.TypeIs {s with heap:=s.heap.push (pX (ax w))} (.ref s.heap.objs.size) "set":=⟨_,hS,rfl⟩
   have S5:=PySem.F.called_set.init.lookup;have MG:=PySem.F.called_set.init.bind (.ref s.heap.objs.size)
   repeat (any_goals (first|assumption|wp_step))
   refine codeAny_mono (codeAny_call_builtin (R:=wants (λr s₂=>r=.none/\∃h' tk,s₂={s with heap:=h',toks:=tk} /\
     aI prog w h' s.heap.objs.size (ax w) (av ys) /\
     (∀b o,b<s.heap.objs.size->s.heap.get? b=some o->h'.get? b=some o)) E) PySem.F.called_set.init.plain PySem.F.entry_set_init (check_set_init_1 hT ?_)) λr₂ s₂ MH=>?_
   ·obtain⟨ol,J8,Lj⟩:=QA;obtain⟨QE,J9,J_,IC⟩:=ol;simp only at Lj;subst Lj;have MI:(s.heap.push (pX (ax w))).get? l=some {cls:=.type T,dict:=J9,data:=J_,slots:=IC}:=Heap.get?_push_of_some _ J8;have OC:Shared.TypeIs {s with heap:=s.heap.push (pX (ax w))} (.ref l) T:=⟨_,MI,rfl⟩
    unfold Builtin.«set.__init__» noKeywords Builtin.Frozenset.updateFrom;generalize QF:pyIter=PI
    wp_walk
    subst QF;refine hit {s with heap:=s.heap.push (pX (ax w))} _ _ rfl (λb o e=>Heap.get?_push_of_some _ e) (by rw[size_push'];exact Nat.lt_succ_self _) λI fp wr G P St h1 W hG hf QG IA DJ hk=>?_;refine wpAny_bind (wpAny_runValue ?_);refine h_ W s.heap.objs.size hf (ax w) ys rfl IA hb (ys.length - 0) 0 _ (by omega) (Nat.zero_le _) DJ (fQ (hk _ _ hS)) ?_;intro s' hm Gk;obtain⟨h',g',d',QH,Md⟩:=s';have eg:g'=s.gens:=hG _ _ hm.gens;have ed:d'=s.drawn:=hm.drawn;have eo:Md=s.os:=hm.os;subst eg;subst ed;subst eo;show wpAny _ _ _ _ _ _;refine wpAny_pure ?_;show wpAny _ _ (ret Value.none) _ _ _;refine wpAny_pure ⟨rfl,h',QH,rfl,Gk,λb o EM e=>?_⟩;exact hm.heap b o (λz=>by
     rcases List.mem_cons.mp z with z|z
     ·rw[z]at EM;exact Nat.lt_irrefl _ EM
     ·exact absurd (QG b z) (Nat.not_lt_of_lt EM)) (hk _ _ (Heap.get?_push_of_some _ e))
   ·cases r₂ with
    |error e=>exact MH
    |ok QI =>
     cases QI with
     |ret r =>
      obtain⟨rfl,h',tk,rfl,Gk,ET⟩:=MH
      repeat (any_goals (first|assumption|wp_step))
      exact h _ _ Gk ET
     |_=>exact MH.elim
  |_=>exact hr.elim
end
section
theorem mJ:∀{vs:List Value}{ss:List Str},StrsAre vs ss->∀(i:Nat) (v:Value),vs[i]?=some v->∃x t,ss[i]?=some x/\v=.str x t
 |_,_,.nil,i,v,h=>by simp at h
 |_,_,.cons x t h,0,v,e=>by simp at e;exact⟨x,t,rfl,e.symm⟩
 |_,_,.cons x t h,i+1,v,e=>by rw[List.getElem?_cons_succ]at e;rw[List.getElem?_cons_succ];exact mJ h i v e
theorem gv:∀{vs:List Value}{ss:List Str},StrsAre vs ss->vs.length=ss.length
 |_,_,.nil=>rfl
 |_,_,.cons x t h=>by simp[gv h]
theorem qY(h1:n≠S)(h2:n≠l):n∉[S,l]:=by simp[h1,h2]
theorem eL(hh:A.handled=none)(hl:s.heap.IsList l vs.toArray)(hS:StrsAre vs ys)(hb:ys.length+1<scanBound)
  (h:∀(h':Heap) (tk:Nat),aI prog w h' s.heap.objs.size (ax w) (av ys)->(∀b o,b<s.heap.objs.size->s.heap.get? b=some o->h'.get? b=some o)->Q (.ref s.heap.objs.size) {s with heap:=h',toks:=tk}) :
  wpAny (model prog w) A (call (.type "set") [.ref l]) Q E s:=by
 have J':l<s.heap.objs.size:=let ⟨o,ho,_⟩:=hl;Heap.lt_size ho;refine gu hl.typeIs PySem.F.sub_list_set PySem.F.sub_list_frozenset (by decide) hb (λs1 B Q' hB hk DW hq=>?_) h;have Gj:s1.heap.IsList l vs.toArray:=let ⟨o,ho,r⟩:=hl;⟨o,hk _ _ ho,r⟩;refine wpAny_pyIter_list Gj ?_;have ID:l≠s1.heap.objs.size:=Nat.ne_of_lt (Nat.lt_trans J' DW);have W:=(Walks.list (prog:=prog) (w:=w) (A:=B.in1) (by simp[hB,hh]) s1.heap.objs.size l ID vs.toArray).toS;have el:vs.toArray.size=ys.length:=by simp[gv hS]
 rw[el]at W;refine hq _ _ _ _ _ _ _ W (λ_ _ e=>e) (qY (Nat.ne_of_lt DW) (Nat.ne_of_gt J')) (λb hb=>by rw[List.mem_singleton.mp hb];exact DW) (λi v hv=>mJ hS i v (by simpa using hv)) ⟨⟨_,Heap.get?_push_size _ rfl,rfl,rfl⟩,Gj.push _⟩ λb o e=>Heap.get?_push_of_some _ e
theorem fG(hh:A.handled=none)(hl:s.heap.IsTuple l vs.toArray)(hS:StrsAre vs ys)(hb:ys.length+1<scanBound)
  (h:∀(h':Heap) (tk:Nat),aI prog w h' s.heap.objs.size (ax w) (av ys)->(∀b o,b<s.heap.objs.size->s.heap.get? b=some o->h'.get? b=some o)->Q (.ref s.heap.objs.size) {s with heap:=h',toks:=tk}) :
  wpAny (model prog w) A (call (.type "set") [.ref l]) Q E s:=by
 have J':l<s.heap.objs.size:=let ⟨o,ho,_⟩:=hl;Heap.lt_size ho;refine gu hl.typeIs sub_tuple_set sub_tuple_frozenset (by decide) hb (λs1 B Q' hB hk DW hq=>?_) h;have Gj:s1.heap.IsTuple l vs.toArray:=let ⟨o,ho,r⟩:=hl;⟨o,hk _ _ ho,r⟩;refine wpAny_pyIter_tuple Gj ?_;have ID:l≠s1.heap.objs.size:=Nat.ne_of_lt (Nat.lt_trans J' DW);have W:=(Walks.tuple (prog:=prog) (w:=w) (A:=B.in1) (by simp[hB,hh]) s1.heap.objs.size l ID vs.toArray).toS;have el:vs.toArray.size=ys.length:=by simp[gv hS]
 rw[el]at W;refine hq _ _ _ _ _ _ _ W (λ_ _ e=>e) (qY (Nat.ne_of_lt DW) (Nat.ne_of_gt J')) (λb hb=>by rw[List.mem_singleton.mp hb];exact DW) (λi v hv=>mJ hS i v (by simpa using hv)) ⟨⟨_,Heap.get?_push_size _ rfl,rfl,rfl⟩,let ⟨o,ho,r⟩:=Gj;⟨o,Heap.get?_push_of_some _ ho,r⟩⟩ λb o e=>Heap.get?_push_of_some _ e
theorem mK(hn:n≠0)(h:∀i<n,Q i {s with drawn:=s.drawn.bump src}):wpAny M A (choose src n) Q E s:=λΓ p hΓ=>by
 show Sem.wp M Γ (.choose src n .pure) _ _ p s;rw[Sem.wp_choose];exact⟨hn,h _ (Nat.mod_lt _ (Nat.pos_of_ne_zero hn))⟩
theorem fR:∀{xs:List α}{i:Nat}{x:α},xs[i]?=some x->(x::xs.eraseIdx i).Perm xs
 |[],i,x,h=>by simp at h
 |y::ys,0,x,h=>by simp at h;subst h;exact .refl _
 |y::ys,i+1,x,h=>by
  rw[List.getElem?_cons_succ]at h;rw[List.eraseIdx_cons_succ];exact(List.Perm.swap y x _).trans ((fR h).cons y)
theorem fH:∀(n:Nat) (xs:List α) (s:Shared) (Q:List α->Shared->Prop),xs.length=n->(∀ys d,ys.Perm xs->Q ys {s with drawn:=d})->wpAny M A (drawOrder n xs) Q E s
 |0,xs,s,Q,hn,h=>by
  have:xs=[]:=List.length_eq_zero_iff.mp hn;subst this;exact wpAny_pure (h [] s.drawn (.refl _))
 |n+1,[],s,Q,hn,h=>by simp at hn
 |n+1,y::ys,s,Q,hn,h=>by
  show wpAny M A (choose .order (y::ys).length >>= _) Q E s;refine wpAny_bind (mK (by simp) λi hi=>?_);have e:(y::ys)[i]?=some ((y::ys)[i]'hi):=List.getElem?_eq_getElem hi;have hp:=fR e;generalize (y::ys)[i]'hi=x at e hp;simp only[e];refine wpAny_bind (fH n _ _ _ (by have:=hp.length_eq;simp at this hn ⊢;omega) λzs d hz=>?_);exact wpAny_pure (h (x::zs) d ((hz.cons x).trans hp))
theorem iG(next:Nat->Nat):∀(fuel k:Nat) (left:List α) (out:Array α),left.length=fuel->(pickOrder.go next fuel k left out).toList.Perm (out.toList++left)
 |0,k,left,out,hl=>by
  have:left=[]:=List.length_eq_zero_iff.mp hl;subst this;simp[pickOrder.go]
 |fuel+1,k,left,out,hl=>by
  unfold pickOrder.go;have DW:next k % left.length<left.length:=Nat.mod_lt _ (by omega);have e:left[next k % left.length]?=some (left[next k % left.length]'DW):=List.getElem?_eq_getElem DW;have hp:=fR e;generalize left[next k % left.length]'DW=x at e hp;simp only[e];refine(iG next fuel _ _ _ (by have:=hp.length_eq;simp at this;omega)).trans ?_;rw[Array.toList_push,List.append_assoc];exact(hp.append_left _)
theorem dc(next:Nat->Nat)(xs:Array α):(pickOrder next xs).toList.Perm xs.toList:=by
 have:=iG next xs.size 0 xs.toList #[] (by simp);simpa[pickOrder] using this
end
namespace SI
theorem oi:Manifest.owners.lookup (String.ofList ['r','o','t','a','r','e','t','i','_','t','e','s'].reverse)=some Manifest.sig_set_iterator:=by kernel_rfl
theorem slot_next:Slot "set_iterator" "__next__" "set_iterator.__next__" :=
 .of (owner:="set_iterator") (n:="__next__") (by rw[typeLookup_type,builtinLookup_eq_fast];kernel_rfl) (by decide +kernel) (by decide +kernel) (by decide +kernel)
  (by first|exact .inl (by decide +kernel)|exact .inr (by decide +kernel)) (by rw[isSubtype_type];kernel_rfl)
theorem entry_next:entryFor table "set_iterator.__next__"=some Builtin.«set_iterator.__next__»:=entryFor_of_tree (by kernel_rfl)
theorem args_next(a:Value):argsOk "set_iterator.__next__" ⟨[a],[]⟩:=by
 unfold argsOk;rw[signature?_of (id:="set_iterator.__next__") (n:=['_','_','t','x','e','n','_','_']) (o:=['r','o','t','a','r','e','t','i','_','t','e','s']) (by kernel_rfl) oi];kernel_rfl
theorem lr:Slot "set_iterator" "__iter__" "set_iterator.__iter__" :=
 .of (owner:="set_iterator") (n:="__iter__") (by rw[typeLookup_type,builtinLookup_eq_fast];kernel_rfl) (by decide +kernel) (by decide +kernel) (by decide +kernel)
  (by first|exact .inl (by decide +kernel)|exact .inr (by decide +kernel)) (by rw[isSubtype_type];kernel_rfl)
theorem sO(a:Value):argsOk "set_iterator.__iter__" ⟨[a],[]⟩:=by
 unfold argsOk;rw[signature?_of (id:="set_iterator.__iter__") (n:=['_','_','r','e','t','i','_','_']) (o:=['r','o','t','a','r','e','t','i','_','t','e','s']) (by kernel_rfl) oi];kernel_rfl
theorem pY:entryFor table "set_iterator.__iter__"=some Builtin.«dict_keyiterator.__iter__» :=
 entryFor_alias (id':="dict_keyiterator.__iter__") (by kernel_rfl) (by first|rfl|decide +kernel|(unfold String.splitOn;simp +decide [String.splitOnAux])) (by decide +kernel) (by kernel_rfl)
theorem jE:entryFor table "set.__iter__"=some Builtin.«frozenset.__iter__» :=
 entryFor_alias (id':="frozenset.__iter__") (by kernel_rfl) rfl (by decide +kernel) (by kernel_rfl)
end SI
section
variable{prog:Program}{w:World}{A:Around}{E:Value->Shared->Prop}{s:Shared}
def fS(h:Heap)(I:Addr)(first:Value)(i:Nat)(S:Addr)(n ep:Nat):Prop:=∃o,h.get? I=some o/\o.cls=.type "set_iterator"/\o.data=.fields #[first,rawInt i,.ref S,rawInt n,rawInt ep]
theorem fS.typeIs(x:fS s.heap I f i S n ep):s.TypeIs (.ref I) "set_iterator":=let ⟨o,ho,hc,_⟩:=x;⟨o,ho,hc⟩
theorem xB(hit:fS s.heap I f i S n ep)(h:Q (.ref I) s):wpAny (model prog w) A (pyIter (.ref I)) Q E s:=by
 refine wpAny_pyIter_slot hit.typeIs SI.lr (wpAny_call_entry SI.lr hit.typeIs SI.pY ?_ (SI.sO _));show wpAny _ _ (ret (.ref I)) _ _ s;exact wpAny_pure ⟨_,rfl,"set_iterator",_,hit.typeIs,SI.slot_next.lookup,h⟩
theorem cq(h:Q (M.w.params.followText "set-order") s):wpAny M A setsByText Q E s:=by
 unfold setsByText;exact wpAny_bind (wpAny_askSetting (wpAny_pure h))
end
end L2
namespace L2
open PySem PySem.Spec PyProof.Rows
section
variable{prog:Program}{w:World}{A:Around}{E:Value->Shared->Prop}{s:Shared}
abbrev mL(es:Array (Int×Value))(ep:Nat)(t:SetTable):Obj:={cls:=.type "set",dict:=none,data:=.set es ep t}
theorem oj{I:Addr}{B:Around}{Q:Option Value->Shared->Prop}{h1:Heap}{k:Value->Sem (Option Value)}(hh:B.handled=none)
  (hQ:∀h',(∀b o,h1.get? b=some o->h'.get? b=some o)->∀e,Shared.TypeIs {s with heap:=h' } e "StopIteration"->E e {s with heap:=h' }) {Q':Fin->Shared->Prop} :
  wpAny (model prog w) B (newExc (.type "StopIteration") [] >>= λe=>(raiseNew e:Sem Fin)) Q' E {s with heap:=h1}:=by
 refine wpAny_bind ?_;simp only[newExc,newTuple];refine wpAny_bind (wpAny_newObj_type ?_ (by size_fits));refine wpAny_bind (m:=firstArgMember _ _) (wpAny_of_eq (a:=Value.none) (by first|rfl|(simp only[firstArgMember];rfl)) ?_);refine wpAny_newObj_type ?_ (by size_fits);simp only[raiseNew];refine wpAny_bind (wpAny_handled ?_);rw[hh];refine wpAny_bind (wpAny_pure (wpAny_throw ?_));exact hQ _ (λb o e=>Heap.get?_push_of_some _ (Heap.get?_push_of_some _ e)) _ ⟨_,Heap.get?_push_size _ rfl,rfl⟩
theorem qZ{I S:Addr}{first:Value}{i ep:Nat}{es:Array (Int×Value)}{t:SetTable}(hit:fS s.heap I first i S es.size ep)(ho:s.heap.get? S=some (mL es ep t))(hf:t.fits es.size=true)
  (Ka:∀(Q':Fin->Shared->Prop) (E':Value->Shared->Prop) ,(∀v s',Q (some v) s'->Q' (.done (.ret v)) s')->(∀e s',s'.TypeIs e "StopIteration"->Q none s'->E' e s') ->
   wpAny (model prog w) A.in1 (if let .int slot _:=first then(do
     match <-setNext S slot.toNat i ep with
     |some (x,next) =>
      setField (.ref I) 0 (rawInt next)
      setField (.ref I) 1 (rawInt ((i:Int)+1))
      ret x
     |none=>setField (.ref I) 2 .none;raiseNew (<-newExc (.type "StopIteration") []))
    else(do
     let some places <-seqItems? first|unsupported "internal:set_iterator"
     match places[i]? with
     |some (.int place _) =>
      let x <-setNextDrawn S place.toNat ep
      setField (.ref I) 1 (rawInt ((i:Int)+1))
      ret x
     |some _=>unsupported "internal:set_iterator"
     |none=>setField (.ref I) 0 (rawInt 0);setField (.ref I) 2 .none;raiseNew (<-newExc (.type "StopIteration") []))) Q' E' s):wpAny (model prog w) A (pyNext (.ref I)) Q E s:=by
 obtain⟨o,hI,hc,hd⟩:=id hit;unfold pyNext;refine wpAny_bind (wpAny_attempt (wpAny_callSpecial?_slot (name:=Str.ofString "__next__") hit.typeIs SI.slot_next
  (wpAny_call_entry SI.slot_next hit.typeIs SI.entry_next ?_ (SI.args_next _))))
 unfold Builtin.«set_iterator.__next__»;refine wpAny_bind (wpAny_of_eq (a:=(Value.ref I,[])) rfl ?_)
 try dsimp only
 refine wpAny_bind (wpAny_fieldsOf hI hd ?_)
 try dsimp only
 refine wpAny_bind (wpAny_setEntries_of ho rfl hf ?_);rw[if_neg (by simp)];refine wpAny_mono (Ka (λfin s'=>∃r,fin=.done (.ret r)/\Q (some r) s') (λe s'=>s'.TypeIs e "StopIteration"/\Q none s') (λv s' q=>⟨v,rfl,q⟩) λe s' z q=>⟨z,q⟩) ?_ ?_
 ·rintro fin s' ⟨r,rfl,q⟩;exact⟨r,rfl,wpAny_pure q⟩
 ·rintro e s' ⟨z,q⟩;refine wpAny_bind (wpAny_isInstance (T:="StopIteration") (b:=true) z isSubtype_stop ?_);exact wpAny_pure q
end
section
theorem q9{I S:Addr}{f f':Value}{i n ep:Nat}{h:Heap}{o:Obj}(hI:h.get? I=some o)(hc:o.cls=.type "set_iterator")(hd:o.data=.fields #[f,rawInt i,.ref S,rawInt n,rawInt ep]):
  fS (h.update I (Obj.mapFields (·.setIfInBounds 1 (rawInt ((i:Int)+1))))) I f (i+1) S n ep :=
 ⟨_,Heap.get?_update_self _ hI (Obj.isFreed_of_fields (Obj.data_mapFields hd _)),(Obj.cls_mapFields ..).trans hc,by rw[Obj.data_mapFields hd];simp⟩
theorem om{h:Heap}(hI:h.get? I=some o)(hc:o.cls=.type "set_iterator")(hd:o.data=.fields #[f,rawInt i,.ref S,rawInt n,rawInt ep]):
  ∃o',(h.update I (Obj.mapFields (·.setIfInBounds 0 f'))).get? I=some o'/\o'.cls=.type "set_iterator"/\o'.data=.fields #[f',rawInt i,.ref S,rawInt n,rawInt ep] :=
 ⟨_,Heap.get?_update_self _ hI (Obj.isFreed_of_fields (Obj.data_mapFields hd _)),(Obj.cls_mapFields ..).trans hc,by rw[Obj.data_mapFields hd];simp⟩
theorem uN{I S:Addr}{slot i ep:Nat}{es:Array (Int×Value)}{t:SetTable}{Q:Option Value->Shared->Prop}(hit:fS s.heap I (rawInt slot) i S es.size ep)(ho:s.heap.get? S=some (mL es ep t))(hf:t.fits es.size=true)(hh:A.handled=none)
  {r:Option (Value×Nat)} (hn:∀(B:Around) (E':Value->Shared->Prop) (Q':Option (Value×Nat)->Shared->Prop),Q' r s->wpAny (model prog w) B (setNext S slot i ep) Q' E' s)
  (h1:∀x nx,r=some (x,nx)->∀h',fS h' I (rawInt nx) (i+1) S es.size ep->Heap.SameBut I s.heap h'->Q (some x) {s with heap:=h' })
  (h2:r=none->∀h',(∀b o,b≠I->s.heap.get? b=some o->h'.get? b=some o)->Q none {s with heap:=h' }):wpAny (model prog w) A (pyNext (.ref I)) Q E s:=by
 refine qZ hit ho hf λQ' E' q1 q2=>?_;obtain⟨o,hI,hc,hd⟩:=id hit;show wpAny _ _ (setNext S slot i ep >>= _) _ _ s;refine wpAny_bind (hn _ _ _ ?_);cases r with
 |some p =>
  obtain⟨x,nx⟩:=p
  dsimp only
  refine wpAny_bind (wpAny_setField hI hd (by simp) ?_);obtain⟨o',e1,e2,e3⟩:=om (f':=rawInt nx) hI hc hd;refine wpAny_bind (wpAny_setField (s:={s with heap:=_}) e1 e3 (by simp) ?_);exact wpAny_pure (q1 _ _ (h1 x nx rfl _ (q9 (f':=rawInt nx) e1 e2 e3) ((Heap.SameBut.update ..).trans (Heap.SameBut.update ..))))
 |none =>
  dsimp only
  refine wpAny_bind (wpAny_setField hI hd (by simp) ?_);refine oj (I:=I) (k:=λ_=>pure none) (Q:=λ_ _=>True) (s:=s) (by simpa using hh) λh' hk e he=>q2 e _ he (h2 rfl h' λb ob hb eb=>hk b ob ?_);rw[Heap.get?_update_ne _ _ _ _ hb];exact eb
theorem Ab{I S T:Addr}{i ep:Nat}{es:Array (Int×Value)}{t:SetTable}{pl:List Nat}{Q:Option Value->Shared->Prop}(hit:fS s.heap I (.ref T) i S es.size ep)(ho:s.heap.get? S=some (mL es ep t))(hf:t.fits es.size=true)(hh:A.handled=none)
  (hT:s.heap.IsTuple T ((pl.map λ(j:Nat)=>rawInt j).toArray))
  (h1:∀(j:Nat) (e:Int×Value),pl[i]?=some j->es[j]?=some e->∀h',fS h' I (.ref T) (i+1) S es.size ep->Heap.SameBut I s.heap h'->Q (some e.2) {s with heap:=h' })
  (hp:∀j∈pl,j<es.size)
  (h2:pl[i]?=none->∀h',(∀b o,b≠I->s.heap.get? b=some o->h'.get? b=some o)->Q none {s with heap:=h' }):wpAny (model prog w) A (pyNext (.ref I)) Q E s:=by
 refine qZ hit ho hf λQ' E' q1 q2=>?_;obtain⟨o,hI,hc,hd⟩:=id hit;obtain⟨oT,QJ,S6,nT,QK⟩:=hT;show wpAny _ _ (seqItems? (.ref T) >>= _) _ _ s;refine wpAny_bind (wpAny_seqItems QJ QK ?_);cases e:pl[i]? with
 |some j =>
  have e':(pl.map λ(j:Nat)=>rawInt j).toArray[i]?=some (rawInt j):=by simp[e]
  simp only[e'];have hj:j<es.size:=hp j (List.mem_of_getElem? e);have ej:es[j]?=some (es[j]'hj):=by simp[hj]
  show wpAny _ _ (setNextDrawn S (j:Int).toNat ep >>= _) _ _ s;unfold setNextDrawn;rw[Int.toNat_natCast];refine wpAny_bind (wpAny_bind (wpAny_setState_of ho rfl hf ?_))
  dsimp only
  rw[if_neg (by simp)];generalize es[j]'hj=p at ej;simp only[ej];refine wpAny_pure ?_;refine wpAny_bind (wpAny_setField hI hd (by simp) ?_);exact wpAny_pure (q1 _ _ (h1 j p e ej _ (q9 (f':=.ref T) hI hc hd) (Heap.SameBut.update ..)))
 |none =>
  have e':(pl.map λ(j:Nat)=>rawInt j).toArray[i]?=none:=by simp at e ⊢;exact e
  simp only[e'];refine wpAny_bind (wpAny_setField hI hd (by simp) ?_);obtain⟨o',e1,e2,e3⟩:=om (f':=rawInt 0) hI hc hd;refine wpAny_bind (wpAny_setField (s:={s with heap:=_}) e1 e3 (by simp) ?_);refine oj (I:=I) (k:=λ_=>pure none) (Q:=λ_ _=>True) (s:=s) (by simpa using hh) λh' hk ex he=>q2 ex _ he (h2 e h' λb ob hb eb=>hk b ob ?_);rw[Heap.get?_update_ne _ _ _ _ hb,Heap.get?_update_ne _ _ _ _ hb];exact eb
end
section
theorem fS.at(x:fS h I f i S n ep)(e:∀o,h.get? I=some o->h'.get? I=some o):fS h' I f i S n ep:=let ⟨o,ho,r⟩:=x;⟨o,e _ ho,r⟩
theorem jF(hh:A.handled=none)(Ej:S≠I)(hf:t.fits es.size=true)(T:Addr)(hT:T≠I)(ord:List Value)(hlen:ord.length=es.size)
  (first:Nat->Value) (side:Heap->Prop) (FU:∀h h',side h->(∀o,h.get? T=some o->h'.get? T=some o)->side h')
  (FQ:∀(s:Shared) (i:Nat) (E:Value->Shared->Prop) (Q:Option Value->Shared->Prop),i<=es.size->side s.heap->fS s.heap I (first i) i S es.size ep->s.heap.get? S=some (mL es ep t) ->
   (∀x,ord[i]?=some x->∀h',fS h' I (first (i+1)) (i+1) S es.size ep->Heap.SameBut I s.heap h'->Q (some x) {s with heap:=h' }) ->
   (ord[i]?=none->∀h',(∀b o,b≠I->s.heap.get? b=some o->h'.get? b=some o)->Q none {s with heap:=h' })->wpAny (model prog w) A (pyNext (.ref I)) Q E s) :
  Walks prog w A I [I,S,T] [I] es.size (λi v=>ord[i]?=some v) (λi h=>i<=es.size/\fS h I (first i) i S es.size ep/\h.get? S=some (mL es ep t)/\side h) where
 sub:=λb hb=>by rw[List.mem_singleton.mp hb];simp
 frame:=λi h h' x hk=>⟨x.1,x.2.1.at λo e=>hk I (by simp) o e,hk S (by simp) _ x.2.2.1,FU h h' x.2.2.2 λo e=>hk T (by simp) o e⟩
 item:=λi s Q E hi x hQ=>by
  refine FQ s i E Q x.1 x.2.2.2 x.2.1 x.2.2.1 (λv hv h' hit hs=>?_) λz=>absurd z (by simp;omega);refine hQ v h' s.toks hv ⟨hi,hit,?_,FU _ h' x.2.2.2 λo e=>?_⟩ λb o hb e=>?_
  ·rw[hs.2 S Ej];exact x.2.2.1
  ·rw[hs.2 T hT];exact e
  ·rw[hs.2 b λz=>hb (by simp[z])];exact e
 done:=λs Q E x hQ=>by
  refine FQ s es.size E Q x.1 x.2.2.2 x.2.1 x.2.2.1 (λv hv=>absurd hv (by rw[List.getElem?_eq_none (by omega)];simp)) λ_ h' hk=>hQ h' s.toks λb o hb e=>hk b o (λz=>hb (by simp[z])) e
 self:=λi s Q E x hQ=>xB x.2.1 hQ
theorem mM(ho:s.heap.get? S=some (mL es ep t))(hf:t.fits es.size=true)(h:Q (!w.params.followText "set-order"&&(!t.plain&&decide (es.size>1))) s):wpAny (model prog w) A (setDrawn S) Q E s:=by
 unfold setDrawn;refine wpAny_bind (wpAny_setState_of ho rfl hf ?_)
 dsimp only
 exact wpAny_bind (cq (wpAny_pure h))
theorem mN(hw:w.params.followText "set-order"=true)(ho:s.heap.get? S=some (mL es ep t))(hf:t.fits es.size=true)
  (h:Q ((pickOrder (w.params.setOrder S ep) es)[i]?.map λe=>(e.2,0)) s):wpAny (model prog w) A (setNext S 0 i ep) Q E s:=by
 unfold setNext;refine wpAny_bind (wpAny_setState_of ho rfl hf ?_)
 dsimp only
 refine wpAny_bind (cq ?_);show wpAny _ _ (if (w.params.followText "set-order")=true then _ else _) _ _ s;rw[if_pos hw];rw[if_neg (by simp)];unfold setWalk;refine wpAny_bind (wpAny_bind (wpAny_setState_of ho rfl hf ?_))
 dsimp only
 refine wpAny_bind (cq ?_);show wpAny _ _ (if (w.params.followText "set-order")=true then _ else _) _ _ s;rw[if_pos hw];refine wpAny_bind (wpAny_askSetting (wpAny_pure ?_));exact wpAny_pure h
theorem oo(hw:w.params.followText "set-order"=false)(ho:s.heap.get? S=some (mL es ep t))(hf:t.fits es.size=true)(hl:t.led=true)(h1:es.size<=1)
    (h:Q (match es[SetTable.below t.place slot]?,t.place[SetTable.below t.place slot]? with|some (_,x),some j=>some (x,j+1)|_,_=>none) s):wpAny (model prog w) A (setNext S slot i ep) Q E s:=by
  unfold setNext;refine wpAny_bind (wpAny_setState_of ho rfl hf ?_)
  dsimp only
  refine wpAny_bind (cq ?_);show wpAny _ _ (if (w.params.followText "set-order")=true then _ else _) _ _ s;rw[if_neg (by rw[hw];simp)];show wpAny _ _ (if (!t.plain&&decide (es.size>1))=true then _ else _) _ _ s
  rw [if_neg (by have : decide (es.size > 1) = false := decide_eq_false (by omega)
                 rw[this];simp)]
  show wpAny _ _ ((if (!t.led&&!es.isEmpty)=true then _ else _) >>= _) _ _ s;rw[if_neg (by rw[hl];simp)];exact wpAny_bind (wpAny_pure (wpAny_pure h))
theorem oq(es:Array (Int×Value))(pl:Array Nat)(i:Nat)(h1:es.size<=1)(h2:pl.size=es.size)(h3:i<=es.size):
  (match es[SetTable.below pl (if i=0 then 0 else(pl[0]?).getD 0+1)]?,pl[SetTable.below pl (if i=0 then 0 else(pl[0]?).getD 0+1)]? with|some (_,x),some j=>some (x,j+1)|_,_=>none)=es[i]?.map λe=>(e.2,(pl[0]?).getD 0+1):=by
 obtain⟨es⟩:=es;obtain⟨pl⟩:=pl
 match es,pl,h1,h2,h3 with
 |[],[],_,_,h3=>simp
 |[e],[p],_,_,h3 =>
  match i,h3 with
  |0,_ =>
   have:SetTable.below #[p] 0=0:=by simp[SetTable.below,SetTable.below.go]
   simp[this]
  |1,_ =>
   have:SetTable.below #[p] (p+1)=1:=by simp[SetTable.below,SetTable.below.go]
   simp[this]
  |n+2,h=>simp at h
 |[],_::_,_,h,_=>simp at h
 |[_],[],_,h,_=>simp at h
 |[_],_::_::_,_,h,_=>simp at h
 |_::_::_,_,h,_,_=>simp at h
theorem uO(hh:B.handled=none)(hS:aI prog w s.heap S (ax w) D)
  (h:∀(I:Addr) (fp:List Addr) (n:Nat) (P:Nat->Value->Prop) (St:Nat->Heap->Prop) (ys:List Str) (h':Heap) (d':Drawn),Walks prog w B I fp [I] n P St->ys.Perm D->n=ys.length->(∀i v,P i v->∃x tk,ys[i]?=some x/\v=.str x tk)->s.heap.objs.size<=I->(∀b∈fp,b=S\/s.heap.objs.size<=b)->St 0 h' ->
   (∀b o,s.heap.get? b=some o->h'.get? b=some o)->Q (.ref I) {s with heap:=h',drawn:=d' }):wpAny (model prog w) A (pyIter (.ref S)) Q E s:=by
 obtain⟨L,es,ep,t,ho,Ek,DC,DN,hf,hb,Em,Eg⟩:=hS;have OD:s.TypeIs (.ref S) "set":=⟨_,ho,rfl⟩
 have GI:S<s.heap.objs.size:=Heap.lt_size ho;refine wpAny_pyIter_slot OD PySem.F.slot_set_iter (wpAny_call_entry PySem.F.slot_set_iter OD SI.jE ?_ (PySem.F.args_set_iter_1 _));unfold Builtin.«frozenset.__iter__» Builtin.Frozenset.slot0 slotArgs;simp only[List.isEmpty_nil,Bool.not_true,Bool.false_eq_true,↓reduceIte,bind_assoc,List.length_nil,bne_self_eq_false];unfold Builtin.Frozenset.addrOf Builtin.Frozenset.sizeOf;refine wpAny_bind (wpAny_pure ?_)
 try dsimp only
 refine wpAny_bind (wpAny_pure ?_);refine wpAny_bind (wpAny_bind (wpAny_setEntries_of ho rfl hf (wpAny_pure ?_)));have QL:D.length=es.size:=by rw[<-DC.length_eq,List.length_map,<-Array.length_toList,Ek,List.length_map]
 have look:∀(l:List (Int×Value)),l.Perm es.toList->∃ys:List Str,ys.Perm D/\ys.length=es.size/\∀(i:Nat) (v:Value),(l.map (·.2))[i]?=some v->∃(x:Str) (tk:Tok),ys[i]?=some x/\v=Value.str x tk:=by
  intro l hl;rw[Ek]at hl;obtain⟨L',e',p'⟩:=cH hl;refine⟨L'.map (·.1),(p'.map _).trans DC,by rw[((p'.map _).trans DC).length_eq,QL],λi v hv=>?_⟩;subst e';rw[List.map_map,List.getElem?_map]at hv;rw[List.getElem?_map];cases q:L'[i]? with
  |none=>rw[q]at hv;simp at hv
  |some p=>rw[q]at hv;simp at hv;exact⟨p.1,p.2,rfl,hv.symm⟩
 refine wpAny_bind (mM ho hf ?_);cases hw:w.params.followText "set-order" with
 |true =>
  simp only[Bool.not_true,Bool.false_and,Bool.false_eq_true,↓reduceIte];refine wpAny_bind (wpAny_pure ?_);refine wpAny_bind (wpAny_bind (wpAny_setState_of ho rfl hf (wpAny_pure ?_)));refine wpAny_bind (wpAny_newObj_type ?_);have hn:S≠s.heap.objs.size:=Nat.ne_of_lt GI;obtain⟨ys,y1,y2,y3⟩:=look (pickOrder (w.params.setOrder S ep) es).toList (dc _ _);have W:=jF (prog:=prog) (w:=w) (A:=B) (I:=s.heap.objs.size) (S:=S) (es:=es) (ep:=ep) (t:=t) hh hn hf S hn ((pickOrder (w.params.setOrder S ep) es).toList.map (·.2)) (by rw[List.length_map,(dc _ _).length_eq,Array.length_toList]) (λ_=>rawInt 0) (λ_=>True) (λ_ _ _ _=>trivial)
   (λs i E Q _ _ hit En k1 k2=>uN (slot:=0) hit En hf hh (λB E' Q' q=>mN hw En hf q) (λx nx e h' FF hs=>by
    rw[Option.map_eq_some_iff]at e;obtain⟨p,e1,e2⟩:=e;cases e2;exact k1 _ (by rw[List.getElem?_map,Array.getElem?_toList,e1];rfl) h' FF hs) (λe=>k2 (by rw[List.getElem?_map,Array.getElem?_toList,Option.map_eq_none_iff];rwa [Option.map_eq_none_iff]at e)))
  refine wpAny_pure ⟨_,rfl,"set_iterator",_,⟨_,Heap.get?_push_size _ rfl,rfl⟩,SI.slot_next.lookup,?_⟩;exact h _ _ _ _ _ ys _ s.drawn W y1 y2.symm y3 (Nat.le_refl _) (λb hb=>by
   simp only[List.mem_cons,List.not_mem_nil,or_false]at hb;rcases hb with rfl|rfl|rfl
   ·exact .inr (Nat.le_refl _)
   ·exact .inl rfl
   ·exact .inl rfl) ⟨Nat.zero_le _,⟨_,Heap.get?_push_size _ rfl,rfl,rfl⟩,Heap.get?_push_of_some _ ho,trivial⟩ λb o e=>Heap.get?_push_of_some _ e
 |false =>
  by_cases hsz:es.size>1
  ·have Es:t.plain=false:=by
    rcases Eg with z|z
    ·omega
    ·exact z
   have e1:(!false&&(!t.plain&&decide (es.size>1)))=true:=by rw[Es,decide_eq_true hsz];rfl
   rw[e1];simp only[↓reduceIte];refine wpAny_bind (fH _ _ _ _ List.length_range λpl d' hp=>?_);simp only[newTuple];have Hg:∀j∈pl,j<es.size:=λj hj=>by have:=hp.mem_iff.mp hj;simpa using this
   have Kb:pl.length=es.size:=by rw[hp.length_eq];simp
   refine wpAny_bind (wpAny_newObj_type ?_ (by
    show(pl.map λ(j:Nat)=>rawInt j).toArray.size<=_;have:es.size<4096:=hb;simp only[List.size_toArray,List.length_map,Kb];have:(4096:Nat)<=sizeLine:=by decide
    omega))
   have FG:(s.heap.push {cls:=.type "tuple",data:=.seq (pl.map λ(j:Nat)=>rawInt j).toArray}).get? S=some (mL es ep t):=Heap.get?_push_of_some _ ho;refine wpAny_bind (wpAny_bind (wpAny_setState_of (s:={s with heap:=_,drawn:=d' }) FG rfl hf (wpAny_pure ?_)));refine wpAny_bind (wpAny_newObj_type ?_);have QM:s.heap.objs.size≠(s.heap.push {cls:=.type "tuple",data:=.seq (pl.map λ(j:Nat)=>rawInt j).toArray}).objs.size:=by rw[size_push'];exact Nat.ne_of_lt (Nat.lt_succ_self _)
   have hn:S≠(s.heap.push {cls:=.type "tuple",data:=.seq (pl.map λ(j:Nat)=>rawInt j).toArray}).objs.size:=by rw[size_push'];exact Nat.ne_of_lt (Nat.lt_succ_of_lt GI)
   have IE:(pl.map λj=>(es[j]?).getD (0,Value.none)).Perm es.toList:=by
    refine(hp.map _).trans ?_;have:(List.range es.size).map (λj=>(es[j]?).getD (0,Value.none))=es.toList:=by
     apply List.ext_getElem
     ·simp
     ·intro i h1 h2;simp at h1 ⊢;simp[h1]
    rw[this]
   obtain⟨ys,y1,y2,y3⟩:=look _ IE;have W:=jF (prog:=prog) (w:=w) (A:=B) (I:=(s.heap.push {cls:=.type "tuple",data:=.seq (pl.map λ(j:Nat)=>rawInt j).toArray}).objs.size) (S:=S) (es:=es) (ep:=ep) (t:=t) hh hn hf s.heap.objs.size QM ((pl.map λj=>(es[j]?).getD (0,Value.none)).map (·.2)) (by simp[Kb]) (λ_=>.ref s.heap.objs.size) (λh=>h.IsTuple s.heap.objs.size (pl.map λ(j:Nat)=>rawInt j).toArray) (λh h' ⟨o,ho,r⟩ k=>⟨o,k _ ho,r⟩)
    (λs' i E Q _ FU hit En k1 k2=>Ab hit En hf hh FU (λj e ej ee h' FF hs=>k1 _ (by rw[List.getElem?_map,List.getElem?_map,ej];simp[ee]) h' FF hs) Hg (λe=>k2 (by rw[List.getElem?_map,List.getElem?_map,e];rfl)))
   refine wpAny_pure ⟨_,rfl,"set_iterator",_,⟨_,Heap.get?_push_size _ rfl,rfl⟩,SI.slot_next.lookup,?_⟩;refine h _ _ _ _ _ ys _ d' W y1 y2.symm y3 (by rw[size_push'];exact Nat.le_succ _) (λb hb=>?_) ⟨Nat.zero_le _,⟨_,Heap.get?_push_size _ rfl,rfl,rfl⟩,Heap.get?_push_of_some _ FG,⟨_,Heap.get?_push_of_some _ (Heap.get?_push_size _ rfl),rfl,_,rfl⟩⟩ λb o e=>Heap.get?_push_of_some _ (Heap.get?_push_of_some _ e);rw[size_push']at hb;simp only[List.mem_cons,List.not_mem_nil,or_false]at hb;rcases hb with rfl|rfl|rfl
   ·exact .inr (Nat.le_succ _)
   ·exact .inl rfl
   ·exact .inr (Nat.le_refl _)
  ·have e1:(!false&&(!t.plain&&decide (es.size>1)))=false:=by rw[decide_eq_false hsz];simp
   rw[e1];simp only[Bool.false_eq_true,↓reduceIte];refine wpAny_bind (wpAny_pure ?_);refine wpAny_bind (wpAny_bind (wpAny_setState_of ho rfl hf (wpAny_pure ?_)));refine wpAny_bind (wpAny_newObj_type ?_);have hn:S≠s.heap.objs.size:=Nat.ne_of_lt GI;have QN:t.led=true:=by rw[Em];show(!w.params.followText "set-order")=true;rw[hw];rfl
   obtain⟨ys,y1,y2,y3⟩:=look es.toList (.refl _);have G6:t.place.size=es.size:=by
    unfold SetTable.fits at hf;simp only[Bool.and_eq_true,beq_iff_eq]at hf;exact hf.1
   have W:=jF (prog:=prog) (w:=w) (A:=B) (I:=s.heap.objs.size) (S:=S) (es:=es) (ep:=ep) (t:=t) hh hn hf S hn (es.toList.map (·.2)) (by simp) (λi=>rawInt ((if i=0 then 0 else(t.place[0]?).getD 0+1:Nat):Nat)) (λ_=>True) (λ_ _ _ _=>trivial)
    (λs' i E Q hi _ hit En k1 k2=>uN (slot:=if i=0 then 0 else(t.place[0]?).getD 0+1) hit En hf hh (λB E' Q' q=>oo hw En hf QN (by omega) q) (λx nx e h' FF hs=>by
     rw[oq es t.place i (by omega) G6 hi,Option.map_eq_some_iff]at e;obtain⟨p,e1,e2⟩:=e;cases e2;refine k1 _ (by rw[List.getElem?_map,Array.getElem?_toList,e1];rfl) h' ?_ hs;rw[if_neg (Nat.succ_ne_zero i)];exact FF) (λe=>by
     rw[oq es t.place i (by omega) G6 hi,Option.map_eq_none_iff]at e;exact k2 (by rw[List.getElem?_map,Array.getElem?_toList,e];rfl)))
   refine wpAny_pure ⟨_,rfl,"set_iterator",_,⟨_,Heap.get?_push_size _ rfl,rfl⟩,SI.slot_next.lookup,?_⟩;exact h _ _ _ _ _ ys _ s.drawn W y1 y2.symm y3 (Nat.le_refl _) (λb hb=>by
    simp only[List.mem_cons,List.not_mem_nil,or_false]at hb;rcases hb with rfl|rfl|rfl
    ·exact .inr (Nat.le_refl _)
    ·exact .inl rfl
    ·exact .inl rfl) ⟨Nat.zero_le _,⟨_,Heap.get?_push_size _ rfl,rfl,rfl⟩,Heap.get?_push_of_some _ ho,trivial⟩ λb o e=>Heap.get?_push_of_some _ e
end
theorem ot:typeLookup (.type "set") "__len__"=pure (some (.builtin "set.__len__")):=by rw[typeLookup_type,builtinLookup_eq_fast];kernel_rfl
section
theorem jG:∀{vs:List Value}{ys:List Str},vs.length=ys.length->(∀(i:Nat) (v:Value),vs[i]?=some v->∃x t,ys[i]?=some x/\v=.str x t)->StrsAre vs ys
 |[],[],_,_=>.nil
 |[],_::_,h,_=>by simp at h
 |_::_,[],h,_=>by simp at h
 |v::vs,y::ys,h,k=>by
  obtain⟨x,t,e1,e2⟩:=k 0 v rfl;cases e1;subst e2;exact .cons y t (jG (by simpa using h) λi w hw=>k (i+1) w hw)
theorem ou(hh:A.handled=none)(hS:aI prog w s.heap S (ax w) D)(hn:D.length<=sizeLine)
  (hQ:∀(vs:List Value) (ys:List Str) (h':Heap) (d':Drawn) (tk:Nat),ys.Perm D->StrsAre vs ys->s.heap.objs.size<=h'.objs.size->s.toks<=tk->(∀b o,s.heap.get? b=some o->h'.get? b=some o)->Q vs {s with heap:=h',drawn:=d',toks:=tk}) :
  wpAny (model prog w) A (collect (.ref S)) Q E s:=by
 obtain⟨L,es,ep,t,ho,rest⟩:=id hS;have GI:S<s.heap.objs.size:=Heap.lt_size ho;unfold collect;refine wpAny_bind (wpAny_runValue (codeAny_builtin PySem.F.entry_proto_collect ?_));rw[Around.under_plainId PySem.F.plain_proto_collect _];show wpAny _ A.in1 (newList [] >>= λl=>again (.builtin "list.__iadd__" ⟨[l,.ref S],[]⟩)) _ _ s;refine wpAny_bind (wpAny_newObj_type ?_);refine wpAny_pure ⟨plainId_quiet PySem.F.plain_list_iadd _,codeAny_builtin PySem.F.entry_list_iadd ?_⟩;rw[Around.under_plainId PySem.F.plain_list_iadd _];have FG:(s.heap.push {cls:=.type "list",data:=.seq ([]:List Value).toArray}).get? S=some {cls:=.type "set",dict:=none,data:=.set es ep t}:=Heap.get?_push_of_some _ ho;have hT:Shared.TypeIs {s with heap:=s.heap.push {cls:=.type "list",data:=.seq ([]:List Value).toArray}} (.ref S) "set":=⟨_,FG,rfl⟩
 show wpAny _ A.in1 (Builtin.List.listExtendWith (.ref s.heap.objs.size) (.ref S) (.ref s.heap.objs.size)) _ _ _;unfold Builtin.List.listExtendWith;refine wpAny_bind (wpAny_typeOf hT ?_);have Ej:s.heap.objs.size≠S:=Nat.ne_of_gt GI;have h1:Builtin.List.listSameRef (.ref s.heap.objs.size) (.ref S)=false:=by simp[Builtin.List.listSameRef,Ej]
 have h2:(Value.type "set"==Value.type "list")=false:=by decide
 have h3:(Value.type "set"==Value.type "tuple")=false:=by decide
 simp only[h1,h2,h3,Bool.or_false,Bool.false_eq_true,if_false];refine wpAny_bind (uO (B:=A.in1) (by simpa using hh) ⟨L,es,ep,t,FG,rest⟩ ?_);intro I fp n P St ys h' d' W hp Lk hP hI QO DJ hk;have MJ:Shared.TypeIs {s with heap:=h',drawn:=d' } (.ref S) "set":=⟨_,hk _ _ FG,rfl⟩
 refine wpAny_bind (wpAny_holding ?_);unfold Builtin.List.listLengthHint;refine wpAny_bind (wpAny_specialOf MJ ot ?_);have FP:splitId "set.__len__"=some ("set","__len__"):=by decide +kernel
 dsimp only
 rw[FP]
 dsimp only
 refine wpAny_bind (wpAny_isInstance MJ sub_set_self ?_);rw[if_neg (by decide)];rw[if_pos (by decide +kernel)];refine wpAny_bind (wpAny_typeOf MJ ?_);refine wpAny_pure ?_;rw[if_pos (by decide +kernel)];have J7:s.heap.objs.size∉fp:=λhm=>by
  rcases QO _ hm with z|z
  ·exact Ej z
  ·rw[size_push']at z;exact absurd z (Nat.not_succ_le_self _)
 have GJ:h'.get? s.heap.objs.size=some {cls:=.type "list",data:=.seq ([]:List Value).toArray}:=hk _ _ (Heap.get?_push_size _ rfl);refine wpAny_bind (wpAny_rule ?_);refine wpAny_bind ?_;show wpAny _ A.in1 (updateSeq s.heap.objs.size (·.push .none) >>= λ_=>updateSeq s.heap.objs.size (·.pop)) _ _ _;refine wpAny_bind (wpAny_updateSeq GJ rfl ?_);have Jm:=Heap.get?_update_self (Obj.mapSeq (·.push Value.none)) GJ rfl;refine wpAny_updateSeq Jm rfl ?_;have QP:=Heap.get?_update_self (Obj.mapSeq (·.pop)) Jm rfl;have DY:∀b o,b≠s.heap.objs.size->h'.get? b=some o->((h'.update s.heap.objs.size (Obj.mapSeq (·.push Value.none))).update s.heap.objs.size (Obj.mapSeq (·.pop))).get? b=some o :=
  λb o hb e=>(Heap.get?_update_other _ _ (Ne.symm hb)).trans ((Heap.get?_update_other _ _ (Ne.symm hb)).trans e)
 refine wpAny_pure ⟨plainId_quiet PySem.F.plain_extend_loop _,codeAny_extend_loopS W.toS (by rw[Lk,hp.length_eq];exact hn) _ J7 _ n 0 _ _ _ rfl (Nat.zero_le _) (W.frame 0 h' _ DJ λb hb o e=>DY b o (λz=>J7 (z▸hb)) e) QP (ItemsOf.nil P) λs' Kc c' hm Gk Ey=>?_⟩;show wpAny _ A (load s.heap.objs.size >>= _) _ _ s';refine wpAny_bind (wpAny_load Gk ?_);obtain⟨E5,g2,d2,MK,QQ⟩:=s';have eg:g2=s.gens:=hm.gens;have ed:d2=d':=hm.drawn;have eo:QQ=s.os:=hm.os;subst eg;subst ed;subst eo;refine wpAny_pure (hQ _ ys E5 d2 MK hp (jG (by rw[Array.length_toList,Ey.1,Lk]) λi v hv=>hP i v (Ey.2 i v (by rwa [Array.getElem?_toList]at hv))) (Nat.le_of_lt (Heap.lt_size Gk)) hm.toks λb o e=>?_);have OE:b≠s.heap.objs.size:=λz=>by rw[z]at e;exact absurd (Heap.lt_size e) (Nat.lt_irrefl _)
 refine hm.heap b o (λz=>?_) (DY b o OE (hk _ _ (Heap.get?_push_of_some _ e)));rcases List.mem_cons.mp z with z|z
 ·exact OE z
 ·rw[List.mem_singleton.mp z]at e;have:=Heap.lt_size e;rw[size_push']at hI;exact absurd (Nat.lt_of_lt_of_le this (Nat.le_trans (Nat.le_succ _) hI)) (Nat.lt_irrefl _)
end
section
theorem Inv.drawn(I:Inv X pins σ H s)(d:Drawn):Inv X pins σ H {s with drawn:=d}:=⟨I.ok,I.os,I.bare,I.base,I.loc,I.cell,I.free,I.Ef,I.pin,I.DE,I.len⟩
theorem gw(hc:X.calm=true)(I:Inv X pins σ H s)(hq:D7 X.K H p (ys.map V.str)\/D3 X.K H p (ys.map V.str))(hb:ys.length+1<scanBound)
  (h:∀(S:Addr) (h':Heap) (tk:Nat),aI X.prog X.w h' S (ax X.w) (av ys)->Inv X pins σ H {s with heap:=h',toks:=tk}->Q (.ref S) {s with heap:=h',toks:=tk}) :
  wpAny (model X.prog X.w) X.A (call (.type "set") [.ref p]) Q X.xe s:=by
 have hh:X.A.handled=none:=I.ok.hd hc;rcases hq with hq|hq
 ·obtain⟨A',rv,pl,hz⟩:=I.list hq;exact eL hh pl.isList (cp rv) hb λh' tk hS k=>h _ h' tk hS (I.kept λb o e=>k b o (Heap.lt_size e) e)
 ·obtain⟨A',rv,pl,hz⟩:=I.tuple hq;exact fG hh pl (cp rv) hb λh' tk hS k=>h _ h' tk hS (I.kept λb o e=>k b o (Heap.lt_size e) e)
theorem fI(hc:X.calm=true)(I:Inv X pins σ H s)(hS:aI X.prog X.w s.heap S (ax X.w) D)(FD:D.length<64)
  (q:∀p,H p=none->Q (.ref p) (upd H p (.lst ((aN D).map V.str)))):wpAny (model X.prog X.w) X.A (call (.builtin "sorted") [.ref S]) (EP X pins σ Q) X.xe s:=by
 have hh:X.A.handled=none:=I.ok.hd hc;have hl:D.length<=sizeLine:=Nat.le_of_lt (Nat.lt_of_lt_of_le FD (by decide));refine fP (ou (A:=X.A.in1) (by simpa using hh) hS hl λvs ys h' d' tk hp hv hsz P4 hk=>⟨ys,hv,by rw[gv hv,hp.length_eq];exact FD,λh2 DI e k2 at2 s2=>?_⟩);rw[iE hp]at s2;have I1:Inv X pins σ H {s with heap:=h',toks:=tk}:=I.kept (t':=tk) hk;have I2:Inv X pins σ H {s with heap:=h',drawn:=d',toks:=tk}:=I1.drawn d';exact⟨.ref h'.objs.size,_,I2.laid (t':=tk) (o:=.lst ((aN D).map V.str)) k2 (Nat.le_refl _) ⟨by rw[List.length_map,bS];exact hl,DI,e,dW s2,at2⟩,rfl,q _ (I2.DE.fresh (Nat.le_refl _))⟩
theorem jH(I:Inv X pins σ H s)(hS:aI X.prog X.w s.heap S (ax X.w) D)
  (q:Q (.int D.length) H):wpAny (model X.prog X.w) X.A (call (.builtin "len") [.ref S]) (EP X pins σ Q) X.xe s:=by
 obtain⟨L,es,ep,t,ho,Ek,DC,DN,hf,hb,Em,Eg⟩:=hS;have hlen:es.size=D.length:=by rw[<-Array.length_toList,Ek,List.length_map,<-List.length_map (f:=Prod.fst) (as:=L),DC.length_eq]
 have EM:es.size<4096:=hb;refine call_len_set ho ⟨rfl,rfl,rfl⟩ rfl hf (by omega) ?_;exact⟨.int es.size,_,I.kept (t':=s.toks+1+1) (λ_ _ e=>e),⟨_,rfl⟩,by rw[hlen];exact q⟩
end
end L2
namespace L2
open PySem
noncomputable def de(mask:Nat):Nat->Nat×Nat->Nat×Nat
 |0,q=>q
 |t+1,q=>de mask t (SetTable.leap mask q.1 q.2)
theorem lu(mask:Nat):∀(a b:Nat) (q:Nat×Nat),de mask (a+b) q=de mask b (de mask a q)
 |0,b,q=>by rw[Nat.zero_add];rfl
 |a+1,b,q=>by rw[show a+1+b=(a+b)+1 by omega];exact lu mask a b _
theorem ly(mask:Nat):∀(t:Nat) (q:Nat×Nat),(de mask t q).2=q.2 / 32 ^ t
 |0,q=>by simp[de]
 |t+1,q=>by
  show(de mask t (SetTable.leap mask q.1 q.2)).2=_;rw[ly mask t];show q.2 / 32 / 32 ^ t=_;rw[Nat.div_div_eq_div_mul,Nat.pow_succ,Nat.mul_comm]
theorem ox(mask:Nat):∀(t:Nat) (q:Nat×Nat),q.1<mask+1->(de mask t q).1<mask+1
 |0,q,h=>h
 |t+1,q,h=>ox mask t _ (Nat.mod_lt _ (Nat.succ_pos _))
noncomputable def GK(m:Nat):Nat->Nat->Nat
 |0,i=>i
 |t+1,i=>GK m t ((i * 5+1) % m)
theorem lz(mask:Nat):∀(t i:Nat),de mask t (i,0)=(GK (mask+1) t i,0)
 |0,i=>rfl
 |t+1,i=>by
  show de mask t ((i * 5+1+0 / 32) % (mask+1),0 / 32)=(GK (mask+1) t ((i * 5+1) % (mask+1)),0)
  rw[Nat.zero_div,Nat.add_zero];exact lz mask t _
theorem jb(m:Nat):∀(a b i:Nat),GK m (a+b) i=GK m b (GK m a i)
 |0,b,i=>by rw[Nat.zero_add];rfl
 |a+1,b,i=>by rw[show a+1+b=(a+b)+1 by omega];exact jb m a b _
noncomputable def sP(m:Nat):Nat->Nat->List Nat
 |0,_=>[]
 |t+1,i=>i::sP m t ((i * 5+1) % m)
theorem q_(m:Nat):∀(n i t:Nat),t<n->(sP m n i)[t]?=some (GK m t i)
 |0,_,_,h=>by omega
 |n+1,i,0,_=>rfl
 |n+1,i,t+1,h=>by
  show(sP m n ((i * 5+1) % m))[t]?=_;exact q_ m n _ t (by omega)
theorem oy(m:Nat):∀(n i:Nat),(sP m n i).length=n
 |0,_=>rfl
 |n+1,i=>by show(sP m n _).length+1=_;rw[oy m n]
noncomputable def Full(m:Nat):Bool:=(List.range m).all (λj=>(sP m m 0).contains j)&&(GK m m 0==0)
theorem yZ:Full 8=true:=by decide +kernel
theorem uP:Full 16=true:=by decide +kernel
theorem uQ:Full 32=true:=by decide +kernel
theorem uR:Full 64=true:=by decide +kernel
theorem rf:Full 128=true:=by decide +kernel
theorem sQ(h:Full m=true)(hi:i<m)(hj:j<m):∃t,t<m/\GK m t i=j:=by
 unfold Full at h;rw[Bool.and_eq_true,List.all_eq_true]at h;obtain⟨h1,h2⟩:=h;have h2:GK m m 0=0:=by simpa using h2
 have get:∀k,k<m->∃a,a<m/\GK m a 0=k:=λk hk=>by
  have:=h1 k (List.mem_range.mpr hk);rw[List.contains_iff_mem]at this;obtain⟨a,ha⟩:=List.mem_iff_getElem?.mp this;have DW:a<m:=by have:=(List.getElem?_eq_some_iff.mp ha).1;rw[oy]at this;exact this
  rw[q_ m m 0 a DW]at ha;exact⟨a,DW,by simpa using ha⟩
 obtain⟨a,ha,ea⟩:=get i hi;obtain⟨b,hb,eb⟩:=get j hj;by_cases F4:a<=b
 ·exact⟨b - a,by omega,by rw[<-ea,<-jb,show a+(b - a)=b by omega,eb]⟩
 ·refine⟨m - a+b,by omega,?_⟩;rw[<-ea,<-jb,show a+(m - a+b)=m+b by omega,jb,h2,eb]
theorem lA:∀(f i p:Nat),SetTable.layClean.free mask owner f i p=none->∀t,t<f->(owner.getD (de mask t (i,p)).1 (some 0)).isNone=false
 |0,_,_,_,t,h=>by omega
 |f+1,i,p,h,t,ht=>by
  unfold SetTable.layClean.free at h;cases hf:(List.range (SetTable.runEnd mask i+1 - i)).find? (λk=>(owner.getD (i+k) (some 0)).isNone) with
  |some k=>rw[hf]at h;cases h
  |none =>
   rw[hf]at h;cases t with
   |zero =>
    have:=List.find?_eq_none.mp hf 0 (List.mem_range.mpr (by unfold SetTable.runEnd;split<;>omega));rw[Nat.add_zero]at this;show(owner.getD i (some 0)).isNone=false;cases e:(owner.getD i (some 0)).isNone with
    |false=>rfl
    |true=>exact absurd e this
   |succ t=>exact lA f _ _ h t (by omega)
theorem lB:∀(f i p j:Nat),SetTable.layClean.free mask owner f i p=some j->owner[j]?=some none
 |0,_,_,_,h=>by cases h
 |f+1,i,p,j,h=>by
  unfold SetTable.layClean.free at h;cases hf:(List.range (SetTable.runEnd mask i+1 - i)).find? (λk=>(owner.getD (i+k) (some 0)).isNone) with
  |some k =>
   rw[hf]at h;cases h;have h1:=List.find?_some hf;have h2:i+k<owner.size:=by
    refine Classical.byContradiction λz=>?_;have:owner.getD (i+k) (some 0)=some 0:=by simp[Array.getD,z]
    rw[this]at h1;cases h1
   have h3:owner.getD (i+k) (some 0)=owner[i+k]:=by simp[Array.getD,h2]
   rw[h3]at h1;rw[Array.getElem?_eq_getElem h2];cases e:owner[i+k] with
   |none=>rfl
   |some _=>rw[e]at h1;cases h1
  |none =>
   rw[hf]at h;exact lB f _ _ j h
theorem xC(hm:Full (mask+1)=true){j0:Nat}(hj:owner[j0]?=some none)(hsz:owner.size=mask+1)(hi:i<mask+1)(hp:p<2 ^ 64):∃j,SetTable.layClean.free mask owner (SetTable.turns mask) i p=some j/\owner[j]?=some none:=by
 cases e:SetTable.layClean.free mask owner (SetTable.turns mask) i p with
 |some j=>exact⟨j,rfl,lB _ _ _ _ e⟩
 |none =>
  have Ke:j0<mask+1:=by rw[<-hsz];exact(Array.getElem?_eq_some_iff.mp hj).1
  have QR:(de mask 13 (i,p)).2=0:=by
   rw[ly];exact Nat.div_eq_of_lt (Nat.lt_trans hp (by decide))
  obtain⟨t,ht,et⟩:=sQ hm (ox mask 13 (i,p) hi) Ke;have el:de mask (13+t) (i,p)=(j0,0):=by
   rw[lu,show de mask 13 (i,p)=((de mask 13 (i,p)).1,0) from Prod.ext rfl QR,lz,et]
  have:=lA _ _ _ e (13+t) (by unfold SetTable.turns;omega);rw[el]at this;have h3:owner.getD j0 (some 0)=none:=by
   have DW:j0<owner.size:=by omega
   rw[Array.getElem?_eq_getElem DW]at hj;simp[Array.getD,DW];exact Option.some.inj hj
  rw[h3]at this;cases this
noncomputable def vals(L:List (Option Nat)):List Nat:=L.filterMap id
theorem oz:∀{L:List (Option Nat)}{j:Nat},L[j]?=some none->(vals (L.set j (some k))).Perm (k::vals L)
 |[],j,h=>by simp at h
 |x::L,0,h=>by
  have:x=none:=by simpa using h
  subst this;exact List.Perm.refl _
 |x::L,j+1,h=>by
  have ih:=oz (k:=k) (L:=L) (j:=j) (by simpa using h);cases x with
  |none=>exact ih
  |some y =>
   show(y::vals (L.set j (some k))).Perm (k::y::vals L);exact(List.Perm.cons y ih).trans (List.Perm.swap k y _)
theorem lC:∀{L:List (Option Nat)},(vals L).length<L.length->∃j:Nat,L[j]?=some none
 |[],h=>by simp at h
 |none::L,_=>⟨0,rfl⟩
 |some y::L,h=>by
  obtain⟨j,hj⟩:=lC (L:=L) (by
   have:(vals L).length+1<L.length+1:=h;omega)
  exact⟨j+1,by simpa using hj⟩
theorem uS(hm:Full (mask+1)=true):∀(hs:List Int) (owner:Array (Option Nat)) (k:Nat),owner.size=mask+1->(vals owner.toList).Perm (List.range k)->k+hs.length<=mask ->
  ∃FH,hs.foldl (λacc h=>do
   let (owner,k) <-acc
   let j <-SetTable.layClean.free mask owner (SetTable.turns mask) (SetTable.bits h % (mask+1)) (SetTable.bits h)
   pure (owner.setIfInBounds j (some k),k+1)) (some (owner,k))=some (FH,k+hs.length)/\FH.size=mask+1/\(vals FH.toList).Perm (List.range (k+hs.length))
 |[],owner,k,h1,h2,_=>⟨owner,rfl,h1,h2⟩
 |h::hs,owner,k,h1,h2,h3=>by
  rw[List.length_cons]at h3;obtain⟨j0,Ke⟩:=lC (L:=owner.toList) (by rw[h2.length_eq,List.length_range,Array.length_toList];omega);obtain⟨j,e,hj⟩:=xC hm (owner:=owner) (j0:=j0) (by rw[<-Array.getElem?_toList];exact Ke) h1 (i:=SetTable.bits h % (mask+1)) (p:=SetTable.bits h) (Nat.mod_lt _ (Nat.succ_pos _)) (by unfold SetTable.bits;omega);have QS:owner.toList[j]?=some none:=by rw[Array.getElem?_toList];exact hj
  have hp:(vals (owner.setIfInBounds j (some k)).toList).Perm (List.range (k+1)):=by
   rw[Array.toList_setIfInBounds,List.range_succ];exact(oz QS).trans ((List.Perm.cons k h2).trans (List.perm_append_singleton k _).symm)
  obtain⟨o',q1,q2,q3⟩:=uS hm hs (owner.setIfInBounds j (some k)) (k+1) (by rw[Array.size_setIfInBounds];exact h1) hp (by omega);refine⟨o',?_,q2,by rw[show k+(h::hs).length=k+1+hs.length by simp;omega];exact q3⟩;rw[List.foldl_cons,show k+(h::hs).length=k+1+hs.length by simp;omega,<-q1];congr 1
  show(SetTable.layClean.free mask owner (SetTable.turns mask) (SetTable.bits h % (mask+1)) (SetTable.bits h)).bind _=_;rw[e];rfl
theorem pZ(L:List (Option Nat)):(List.range L.length).filterMap (λj=>L.getD j none)=vals L:=by
 have h:(List.range L.length).map (λj=>L.getD j none)=L:=by
  apply List.ext_getElem
  ·simp
  ·intro i h1 h2;simp[List.getD,h2]
 have h2:vals ((List.range L.length).map (λj=>L.getD j none))=vals L:=congrArg vals h;unfold vals at h2;rw[List.filterMap_map]at h2;exact h2
theorem rg{led plain:Bool}(hm:Full (mask+1)=true)(hn:hs.size<=mask):∃t order,SetTable.laid mask finger moves led plain hs=some (t,order)/\t.fits hs.size=true/\t.led=led/\t.plain=plain/\t.mask=mask/\t.dummies=#[]/\order.toList.Perm (List.range hs.size):=by
 obtain⟨owner,q1,q2,q3⟩:=uS hm hs.toList (Array.replicate (mask+1) none) 0 (by simp) (by
  have:∀n:Nat,vals (List.replicate n none)=[]:=λn=>by
   induction n with
   |zero=>rfl
   |succ n ih=>rw[List.replicate_succ];exact ih
  rw[Array.toList_replicate,this];exact List.Perm.refl _) (by rw[Array.length_toList];omega)
 rw[Nat.zero_add,Array.length_toList]at q1 q3;have hc:SetTable.layClean mask hs=some owner:=by
  unfold SetTable.layClean;rw[<-Array.foldl_toList];rw[q1];rfl
 have hv:((List.range (mask+1)).filterMap λj=>owner.getD j none)=vals owner.toList:=by
  rw[<-pZ,Array.length_toList,q2];congr 1
  funext j
  simp only[Array.getD_eq_getD_getElem?,List.getD_eq_getElem?_getD,Array.getElem?_toList]
 have Ep:(((List.range (mask+1)).filterMap λj=>(owner.getD j none).map (j,·)).map (·.2))=vals owner.toList:=by
  rw[<-hv,List.map_filterMap];congr 1
  funext j
  cases owner.getD j none<;>rfl
 have hl:((List.range (mask+1)).filterMap λj=>(owner.getD j none).map (j,·)).length=hs.size:=by
  have:=congrArg List.length Ep;rw[List.length_map,q3.length_eq,List.length_range]at this;exact this
 refine⟨_,_,by unfold SetTable.laid;rw[hc];rfl,?_,rfl,rfl,rfl,rfl,?_⟩
 ·unfold SetTable.fits SetTable.fill;simp only[List.size_toArray,List.length_map,hl];simp;exact hn
 ·show(((List.range (mask+1)).filterMap λj=>(owner.getD j none).map (j,·)).map (·.2)).Perm _;rw[Ep];exact q3
end L2
namespace L2
open PySem PySem.Spec PyProof.Rows
noncomputable def Ac(P:Program)(w:World)(p:Str×Tok):Int×Value:=((sK P w).hash p.1,Value.str p.1 p.2)
section
theorem aI.perm(hS:aI prog w h a led D)(p:D.Perm D'):aI prog w h a led D' :=
 let ⟨L,es,ep,t,h1,h2,h3,h4,h5⟩:=hS;⟨L,es,ep,t,h1,h2,h3.trans p,p.nodup_iff.mp h4,h5⟩
theorem aI.at(hS:aI prog w h a led D)(k:∀o,h.get? a=some o->h'.get? a=some o):aI prog w h' a led D :=
 let ⟨L,es,ep,t,h1,h2⟩:=hS;⟨L,es,ep,t,k _ h1,h2⟩
theorem aI.sz{h:Heap}{a:Addr}{led:Bool}{D:List Str}{L:List (Str×Tok)}{es:Array (Int×Value)}(h2:es.toList=L.map (λp=>((sK prog w).hash p.1,Value.str p.1 p.2)))(h3:(L.map (·.1)).Perm D):es.size=D.length:=by
 rw[<-Array.length_toList,h2,List.length_map,<-h3.length_eq,List.length_map]
theorem aI.of(hS:aI prog w h a led D):h.SetOf (sK prog w) a (λx=>decide (x∈D)) D.length:=by
 obtain⟨L,es,ep,t,ho,Ek,DC,DN,hf,hb,Em,Eg⟩:=hS;refine⟨_,es,ep,t,ho,⟨rfl,rfl,rfl⟩,rfl,by rw[Ek];exact jB,λx=>?_,hb,hf,aI.sz (h:=h) (a:=a) (led:=led) Ek DC⟩;rw[decide_eq_true_eq,Ek,<-DC.mem_iff,List.mem_map];constructor
 ·rintro⟨p,hp,e⟩;exact⟨_,List.mem_map.mpr ⟨p,hp,rfl⟩,by rw[fF];simp[e]⟩
 ·rintro⟨e,he,hi⟩;obtain⟨p,hp,rfl⟩:=List.mem_map.mp he;rw[fF,decide_eq_true_eq]at hi;exact⟨p,hp,hi.symm⟩
theorem oA(hS:aI prog w s.heap a led D)(h:∀r:Option Nat,r.isSome=decide (x∈D)->Q r s):
  wpAny (model prog w) A (setFind a (.str x tk) ((sK prog w).hash x)) Q E s :=
 wpAny_setFind_of (knd:=sK prog w) (by rw[fF];simp) rfl hS.of h
theorem dN{L':List (Str×Tok)}(ho:s.heap.get? a=some {cls:=.type "set",dict:=none,data:=.set es ep t})(Ek:Dz.toList=L'.map (λp=>((sK prog w).hash p.1,Value.str p.1 p.2)))(DC:(L'.map (·.1)).Perm D')(DN:D'.Nodup)
  (hf:t'.fits Dz.size=true) (hb:Dz.size<scanBound) (hl:t'.led=led) (hp:Dz.size=0\/t'.plain=false) (h:∀h',Heap.SameBut a s.heap h'->h'.get? a=some {cls:=.type "set",dict:=none,data:=.set Dz (ep+1) t' }->aI prog w h' a led D'->Q () {s with heap:=h' }) :
  wpAny (model prog w) A (storeSet a Dz t') Q E s:=by
 refine wpAny_storeSet_of ho rfl ?_ (fits_of_scanBound hb);have G4:(s.heap.update a (Obj.putSet Dz t')).get? a=some {cls:=.type "set",dict:=none,data:=.set Dz (ep+1) t' }:=Heap.get?_update_self (Obj.putSet Dz t') ho rfl;exact h _ (Heap.SameBut.update s.heap a (Obj.putSet Dz t')) G4 ⟨L',Dz,ep+1,t',G4,Ek,DC,DN,hf,hb,hl,hp⟩
theorem dZ(xs:Array α)(i:Nat):(SetTable.eraseAt xs i).toList=xs.toList.eraseIdx i:=by
 unfold SetTable.eraseAt;rw[Array.toList_append,Array.toList_extract,Array.toList_extract,List.eraseIdx_eq_take_drop_succ];simp[List.extract];rw[List.take_of_length_le (by simp)]
theorem sR{t:SetTable}(h:t.fits n=true)(hi:i<n):(t.drop i).fits (n - 1)=true:=by
 simp only[SetTable.fits,Bool.and_eq_true,beq_iff_eq,decide_eq_true_eq]at h;obtain⟨h1,h2⟩:=h;have E4:i<t.place.size:=by omega
 have e1:(SetTable.eraseAt t.place i).size=t.place.size - 1:=by
  rw[<-Array.length_toList,dZ,List.length_eraseIdx,if_pos (by simpa using E4),Array.length_toList]
 have e2:∀p x,(SetTable.insertAt t.dummies p x).size=t.dummies.size+1:=λp x=>by
  have:=(SetTable.insertAt_perm t.dummies p x).length_eq;rw[Array.length_toList,Array.length_toList,Array.size_push]at this;exact this
 unfold SetTable.drop;rw[Array.getElem?_eq_getElem E4];simp only[SetTable.fits,SetTable.fill,Bool.and_eq_true,beq_iff_eq,decide_eq_true_eq,e1,e2]at h2 ⊢;constructor<;>omega
theorem uT(t:SetTable)(i:Nat):(t.drop i).led=t.led/\(t.drop i).plain=t.plain:=by
 unfold SetTable.drop;split<;>exact⟨rfl,rfl⟩
theorem erase_filter:∀{l:List Str}{j:Nat}{x:Str},l.Nodup->l[j]?=some x->l.eraseIdx j=l.filter λy=>decide (y≠x)
 |[],j,x,_,h=>by simp at h
 |y::l,0,x,hn,h=>by
  obtain⟨h1,h2⟩:=List.nodup_cons.mp hn;have:y=x:=by simpa using h
  subst this;rw[List.eraseIdx_cons_zero,List.filter_cons_of_neg (by simp)];exact(List.filter_eq_self.mpr λz hz=>by
   have:z≠y:=λe=>h1 (e▸hz);simpa using this).symm
 |y::l,j+1,x,hn,h=>by
  obtain⟨h1,h2⟩:=List.nodup_cons.mp hn;have hj:l[j]?=some x:=by simpa using h
  have:y≠x:=λe=>h1 (e▸List.mem_of_getElem? hj);rw[List.eraseIdx_cons_succ,erase_filter h2 hj,List.filter_cons_of_pos (by simpa using this)]
theorem eM(f:α->β):∀(l:List α) (j:Nat),(l.map f).eraseIdx j=(l.eraseIdx j).map f
 |[],_=>rfl
 |x::l,0=>rfl
 |x::l,j+1=>by
  show f x::(l.map f).eraseIdx j=f x::(l.eraseIdx j).map f;rw[eM f l j]
theorem oB{a:Addr}{led:Bool}{D:List Str}{x:Str}{tk:Tok}{Q:Bool->Shared->Prop}(hS:aI prog w s.heap a led D)(h:∀b h',Heap.SameBut a s.heap h'->aI prog w h' a led (D.filter λy=>decide (y≠x))->Q b {s with heap:=h' }):
  wpAny (model prog w) A (setDiscardHashed a (.str x tk) ((sK prog w).hash x)) Q E s:=by
 have Jn:=hS;obtain⟨L,es,ep,t,ho,Ek,DC,DN,hf,hb,Em,Eg⟩:=hS;have Iw:(sK prog w).is x (.str x tk)=true:=by rw[fF];simp
 have J5:ElemsOf (sK prog w) es.toList:=by rw[Ek];exact jB
 have hsz:=aI.sz (h:=s.heap) (a:=a) (led:=led) Ek DC;unfold setDiscardHashed setFind setFindIn;refine wpAny_bind (wpAny_bind (wpAny_setState_of ho rfl hf ?_))
 dsimp only
 rw[byScan_of (knd:=sK prog w) rfl hb J5];simp only[↓reduceIte];refine wpAny_bind (wpAny_rule ?_);refine wpAny_bind (wpAny_setScan_of (knd:=sK prog w) Iw ho rfl hf J5 ?_);cases hr:List.findIdx? (λe=>(sK prog w).is x e.2) es.toList with
 |none =>
  dsimp only
  refine wpAny_pure (wpAny_pure ?_);have hx:x∉D:=λhx=>by
   rw[<-DC.mem_iff,List.mem_map]at hx;obtain⟨p,hp,e⟩:=hx;have hm:((sK prog w).hash p.1,Value.str p.1 p.2)∈es.toList:=by rw[Ek];exact List.mem_map.mpr ⟨p,hp,rfl⟩
   have:=List.findIdx?_eq_none_iff.mp hr _ hm;rw[fF,decide_eq_false_iff_not]at this;exact this e.symm
  have e:D.filter (λy=>decide (y≠x))=D:=List.filter_eq_self.mpr λz hz=>by
   have:z≠x:=λe=>hx (e▸hz);simpa using this
  have e2:s={s with heap:=s.heap}:=by cases s;rfl
  rw[e2];exact h false s.heap (Heap.SameBut.refl a s.heap) (by rw[e];exact Jn)
 |some j =>
  dsimp only
  obtain⟨hj,Li,_⟩:=List.findIdx?_eq_some_iff_getElem.mp hr;rw[Nat.zero_add];refine wpAny_pure ?_
  dsimp only
  refine wpAny_bind (wpAny_setState_of ho rfl hf ?_)
  dsimp only
  have QT:j<L.length:=by rw[Ek,List.length_map]at hj;exact hj
  have QU:j<es.size:=by simpa using hj
  have QV:L[j].1=x:=by
   have e:es.toList[j]=((sK prog w).hash L[j].1,Value.str L[j].1 L[j].2):=by simp[Ek]
   rw[e,fF,decide_eq_true_eq]at Li;exact Li.symm
  have ML:(L.map (·.1)).Nodup:=DC.nodup_iff.mpr DN;have QW:(L.eraseIdx j).map (·.1)=(L.map (·.1)).filter λy=>decide (y≠x):=by
   rw[<-erase_filter ML (j:=j) (by simp[QT,QV]),eM]
  have MM:(SetTable.eraseAt es j).toList=(L.eraseIdx j).map (λp=>((sK prog w).hash p.1,Value.str p.1 p.2)):=by
   rw[dZ,Ek,eM]
  have Kf:(SetTable.eraseAt es j).size=es.size - 1:=by rw[<-Array.length_toList,dZ,List.length_eraseIdx,if_pos hj,Array.length_toList]
  obtain⟨d1,d2⟩:=uT t j;refine wpAny_bind (dN (t':=t.drop j) (led:=led) ho MM (by rw[QW];exact DC.filter _) (List.Nodup.sublist List.filter_sublist DN) (by rw[Kf];exact sR hf QU) (by rw[Kf];omega) (d1.trans Em) (.inr (d2.trans (Eg.resolve_left (by omega)))) λh' sb hg EG=>?_);refine wpAny_bind (wpAny_point ?_);exact wpAny_pure (h true h' sb EG)
end
theorem xD:Full 256=true:=by decide +kernel
section
theorem gx{es:Array (Int×Value)}{order:Array Nat}(h:order.toList.Perm (List.range es.size)):(order.filterMap (es[·]?)).toList.Perm es.toList:=by
 rw[Array.toList_filterMap];exact(h.filterMap _).trans (by rw[filterMap_getElem?_range])
theorem lD{L:List (Str×Tok)}(ho:s.heap.get? a=some {cls:=.type "set",dict:=none,data:=.set es ep t})(Ek:es.toList=L.map (λp=>((sK prog w).hash p.1,Value.str p.1 p.2)))(DC:(L.map (·.1)).Perm D)(DN:D.Nodup)
  (hf:t.fits es.size=true) (hb:es.size<scanBound) (Em:t.led=led) (Eg:es.size=0\/t.plain=false) (hm:SetTable.sizeAbove wanted=m+1) (hF:Full (m+1)=true) (hn:es.size<=m) (S7:m<1000)
  (h:∀h' (Dz:Array (Int×Value)) (t':SetTable) (Gy:Nat),Heap.SameBut a s.heap h'->h'.get? a=some {cls:=.type "set",dict:=none,data:=.set Dz Gy t' }->aI prog w h' a led D->t'.fits Dz.size=true->t'.mask=m->t'.dummies=#[]->t'.led=led->Dz.size=es.size->Q () {s with heap:=h' }) :
  wpAny (model prog w) A (setRelay a wanted) Q E s:=by
 have big:(2000:Nat)<=sizeLine:=by decide
 obtain⟨t',order,q1,q2,q3,q4,q5,q6,q7⟩:=rg (mask:=m) (finger:=t.finger) (moves:=t.movedTo m) (led:=t.led) (plain:=t.plain) (hs:=es.map (·.1)) hF (by rw[Array.size_map];exact hn);rw[Array.size_map]at q2 q7;have e:t.relaid (es.map (·.1)) wanted=some (t',order):=by
  unfold SetTable.relaid;rw[hm,Nat.add_sub_cancel];exact q1
 unfold setRelay;refine wpAny_bind (wpAny_setState_of ho rfl hf ?_)
 dsimp only
 rw[if_neg (by rw[hm];omega)];refine wpAny_bind ?_;rw[e];show wpAny (model prog w) A (if ((order.filterMap (es[·]?)).size != es.size)=true then((unsupported "internal:set-table-lost-an-element":Sem Unit) >>= λ_=>pure (order.filterMap (es[·]?),t')) else pure (order.filterMap (es[·]?),t')) _ E s;have hq:=gx q7;have hsz:(order.filterMap (es[·]?)).size=es.size:=by rw[<-Array.length_toList,hq.length_eq,Array.length_toList]
 rw[if_neg (by rw[hsz];simp)];refine wpAny_pure ?_;rw[Ek]at hq;obtain⟨L',e',p'⟩:=cH hq;exact dN (led:=led) ho e' ((p'.map _).trans DC) DN (by rw[hsz];exact q2) (by rw[hsz];exact hb) (q3.trans Em) (by rw[hsz,q4];exact Eg) λh' sb hg hs=>h h' _ t' _ sb hg hs (by rw[hsz];exact q2) q5 q6 (q3.trans Em) hsz
theorem uU(h1:5<=n)(h2:n<64):∃m,SetTable.sizeAbove (2 * n)=m+1/\Full (m+1)=true/\n<=m/\m<1000:=by
 have:∀n:_root_.Fin 64,SetTable.sizeAbove (2 * n.val)=(if n.val<4 then 8 else if n.val<8 then 16 else if n.val<16 then 32 else if n.val<32 then 64 else 128):=by decide +kernel
 have e:=this ⟨n,h2⟩
 dsimp only at e
 rw[e,if_neg (by omega)];split
 ·exact⟨15,rfl,uP,by omega,by omega⟩
 ·split
  ·exact⟨31,rfl,uQ,by omega,by omega⟩
  ·split
   ·exact⟨63,rfl,uR,by omega,by omega⟩
   ·exact⟨127,rfl,rf,by omega,by omega⟩
theorem sT(h2:n<64):∃m,SetTable.sizeAbove (SetTable.grown n)=m+1/\Full (m+1)=true/\n<=m/\m<1000:=by
 have:∀n:_root_.Fin 64,SetTable.sizeAbove (SetTable.grown n.val)=(if n.val<2 then 8 else if n.val<4 then 16 else if n.val<8 then 32 else if n.val<16 then 64 else if n.val<32 then 128 else 256):=by decide +kernel
 have e:=this ⟨n,h2⟩
 dsimp only at e
 rw[e];split
 ·exact⟨7,rfl,yZ,by omega,by omega⟩
 ·split
  ·exact⟨15,rfl,uP,by omega,by omega⟩
  ·split
   ·exact⟨31,rfl,uQ,by omega,by omega⟩
   ·split
    ·exact⟨63,rfl,uR,by omega,by omega⟩
    ·split
     ·exact⟨127,rfl,rf,by omega,by omega⟩
     ·exact⟨255,rfl,xD,by omega,by omega⟩
theorem uV{a:Addr}{led:Bool}{D:List Str}{Q:Unit->Shared->Prop}(hS:aI prog w s.heap a led D)(FD:D.length<64)(h:∀h',Heap.SameBut a s.heap h'->aI prog w h' a led D->Q () {s with heap:=h' }):
  wpAny (model prog w) A (setTidy a) Q E s:=by
 have Jn:=hS;obtain⟨L,es,ep,t,ho,Ek,DC,DN,hf,hb,Em,Eg⟩:=hS;have hsz:=aI.sz (h:=s.heap) (a:=a) (led:=led) Ek DC;unfold setTidy;refine wpAny_bind (wpAny_setState_of ho rfl hf ?_)
 dsimp only
 split
 ·obtain⟨m,m1,m2,m3,m4⟩:=sT (n:=es.size) (by omega);exact lD ho Ek DC DN hf hb Em Eg m1 m2 m3 m4 λh' _ _ _ sb _ hs _ _ _ _ _=>h h' sb hs
 ·have e2:s={s with heap:=s.heap}:=by cases s;rfl
  refine wpAny_pure ?_;rw[e2];exact h s.heap (Heap.SameBut.refl a s.heap) Jn
theorem sU{a b:Addr}{es:Array (Int×Value)}{D:List Str}{Q:Unit->Shared->Prop}(F4:a≠b)(ho:s.heap.get? a=some {cls:=.type "set",dict:=none,data:=.set #[] 0 (.fresh 0 0 (ax w))})(hS:aI prog w s.heap b (ax w) D)(FD:D.length<64)
  (h:∀h',Heap.SameBut a s.heap h'->aI prog w h' a (ax w) D->Q () {s with heap:=h' }):wpAny (model prog w) A (setMerge a b) Q E s:=by
 have Jn:=hS;obtain⟨L,eo,QX,to,Iu,GX,DC,DN,OF,OG,Kg,MN⟩:=hS;have hsz:=aI.sz (h:=s.heap) (a:=b) (led:=ax w) GX DC;have G5:(SetTable.fresh 0 0 (ax w)).fits (#[]:Array (Int×Value)).size=true:=rfl;unfold setMerge;rw[if_neg (by simpa using F4)];refine wpAny_bind (wpAny_setState_of Iu rfl OF ?_)
 dsimp only
 split
 ·rename_i MO;have hD:D=[]:=by
   have:eo.size=0:=by simpa using MO
   exact List.eq_nil_of_length_eq_zero (by omega)
  subst hD;have e2:s={s with heap:=s.heap}:=by cases s;rfl
  refine wpAny_pure ?_;rw[e2];exact h s.heap (Heap.SameBut.refl a s.heap) (fQ ho)
 ·rename_i Ej;have MP:eo.size≠0:=λz=>Ej (by simpa using z);refine wpAny_bind ?_;unfold setRoomFor;refine wpAny_bind (wpAny_setState_of ho rfl G5 ?_)
  dsimp only
  refine wpAny_mono (Q:=λ_ s1=>∃(h1:Heap) (ts:SetTable) (OH:Nat) (Ec:Array (Int×Value)),s1={s with heap:=h1}/\Ec.size=0/\Heap.SameBut a s.heap h1/\h1.get? a=some {cls:=.type "set",dict:=none,data:=.set Ec OH ts}/\ts.fits Ec.size=true/\Full (ts.mask+1)=true/\eo.size<=ts.mask/\ts.dummies=#[]/\ts.led=ax w) ?_ (λ_ s1 ⟨h1,ts,OH,Ec,e,z,sb,hg,Kh,hF,hle,MQ,hl⟩=>?_) λ_ _ e=>e
  ·unfold SetTable.roomFor;by_cases h5:5<=eo.size
   ·rw[if_pos (by show(0+eo.size) * 5 >= 7 * 3;omega)]
    dsimp only
    obtain⟨m,m1,m2,m3,m4⟩:=uU h5 (by omega);have ew:((SetTable.fresh 0 0 (ax w)).place.size+eo.size) * 2=2 * eo.size:=by show(0+eo.size) * 2=_;omega
    rw[ew];exact lD (L:=[]) (D:=[]) (led:=ax w) ho rfl (List.Perm.refl _) .nil G5 (by decide) rfl (.inl rfl) m1 m2 (by show 0<=m;omega) m4 λh' Dz t' Gy sb hg _ Mw hm hd hl hz=>⟨h',t',Gy,Dz,rfl,hz,sb,hg,Mw,by rw[hm];exact m2,by rw[hm];exact m3,hd,hl⟩
   ·rw[if_neg (by show ¬(0+eo.size) * 5 >= 7 * 3;omega)]
    dsimp only
    have e2:s={s with heap:=s.heap}:=by cases s;rfl
    exact wpAny_pure ⟨s.heap,_,0,#[],e2,rfl,Heap.SameBut.refl a s.heap,ho,G5,yZ,by show eo.size<=7;omega,rfl,rfl⟩
  ·subst e;refine wpAny_bind (wpAny_setState_of hg rfl Kh ?_)
   dsimp only
   have MR:ts.place.size=0:=by
    simp only[SetTable.fits,Bool.and_eq_true,beq_iff_eq]at Kh;omega
   have Ki:ts.road to=if ts.mask==to.mask&&to.dummies.isEmpty then .slotForSlot else .clean:=by
    unfold SetTable.road SetTable.fill;rw[MR,MQ];rfl
   have QY:h1.get? b=some {cls:=.type "set",dict:=none,data:=.set eo QX to}:=(sb.2 b (Ne.symm F4)).trans Iu;have Kj:(ts.plain&&to.plain)=false:=by rw[MN.resolve_left MP,Bool.and_false]
   have HE:(ts.led&&to.led)=ax w:=by rw[hl,Kg,Bool.and_self]
   rw[Ki];by_cases hc:(ts.mask==to.mask&&to.dummies.isEmpty)=true
   ·rw[if_pos hc]
    dsimp only
    exact dN (s:={s with heap:=h1}) (led:=ax w) (L':=L) (t':={to with finger:=ts.finger,led:=ts.led&&to.led,moves:=ts.moves,plain:=ts.plain&&to.plain}) hg GX DC DN OF OG HE (.inr Kj) λh' J3 _ hs=>h h' (sb.trans J3) hs
   ·rw[if_neg hc]
    dsimp only
    obtain⟨t',order,q1,q2,q3,q4,q5,q6,q7⟩:=rg (mask:=ts.mask) (finger:=ts.finger) (moves:=ts.moves) (led:=ts.led&&to.led) (plain:=ts.plain&&to.plain) (hs:=eo.map (·.1)) hF (by rw[Array.size_map];exact hle);rw[Array.size_map]at q2 q7;refine wpAny_bind ?_;rw[q1];show wpAny (model prog w) A (if ((order.filterMap (eo[·]?)).size != eo.size)=true then((unsupported "internal:set-table-lost-an-element":Sem Unit) >>= λ_=>pure (order.filterMap (eo[·]?),t')) else pure (order.filterMap (eo[·]?),t')) _ E _;have hq:=gx q7;have IF:(order.filterMap (eo[·]?)).size=eo.size:=by rw[<-Array.length_toList,hq.length_eq,Array.length_toList]
    rw[if_neg (by rw[IF];simp)];refine wpAny_pure ?_;rw[GX]at hq;obtain⟨L',e',p'⟩:=cH hq;exact dN (s:={s with heap:=h1}) (led:=ax w) hg e' ((p'.map _).trans DC) DN (by rw[IF];exact q2) (by rw[IF];exact OG) (q3.trans HE) (.inr (q4.trans Kj)) λh' J3 _ hs=>h h' (sb.trans J3) hs
end
section
theorem fT:∀{l:List α},(∀x∈l,∀Q':ForInStep β->Shared->Prop,Q' (.yield b) s->wpAny M A (body x b) Q' E s)->Q b s->wpAny M A (forIn l b body) Q E s
 |[],_,h=>by rw[List.forIn_nil];exact wpAny_pure h
 |x::l,hb,h=>by
  rw[List.forIn_cons];exact wpAny_bind (hb x (by simp) _ (fT (λy hy=>hb y (by simp[hy])) h))
theorem sV(hs:∀b∈sets,∃led D,aI prog w s.heap b led D)(h:Q true s):wpAny (model prog w) A (setsQuiet sets) Q E s:=by
 unfold setsQuiet;refine wpAny_bind (fT (λb hb Q' hq=>?_) (wpAny_pure h));obtain⟨led,D,L,es,ep,t,hg,Ek,DC,DN,hf,S8,Em,Eg⟩:=hs b hb;refine wpAny_bind (wpAny_setEntries_of hg rfl hf ?_);rw[<-Array.forIn_toList];refine wpAny_bind (fT (λe he Q2 G7=>?_) (wpAny_pure hq));rw[Ek]at he;obtain⟨p,_,rfl⟩:=List.mem_map.mp he;exact wpAny_pure G7
theorem oC(hS:aI prog w s.heap a (ax w) D)(ho:∀b∈others,∃led D',aI prog w s.heap b led D')(Jo:∀r,f=some r->aI prog w s.heap r (ax w) [])
  (h:∀(es:Array (Int×Value)) (L:List (Str×Tok)) (h':Heap),es.toList=L.map (Ac prog w)->(L.map (·.1)).Perm D->(f=none->h'=s.heap)->(∀r,f=some r->Heap.SameBut r s.heap h'/\aI prog w h' r (ax w) [])->Q es {s with heap:=h' }) :
  wpAny (model prog w) A (setWalkUnseen a others f) Q E s:=by
 have Jn:=hS;obtain⟨L,es,ep,t,hg,Ek,DC,DN,hf,hb,Em,Eg⟩:=hS;have FI:s={s with heap:=s.heap}:=by cases s;rfl
 have fL:∀(Dz:Array (Int×Value)),Dz.toList.Perm es.toList->Q Dz s:=λDz hp=>by
  rw[Ek]at hp;obtain⟨L',e',p'⟩:=cH hp;rw[FI];exact h Dz L' s.heap e' ((p'.map _).trans DC) (λ_=>rfl) λr e=>⟨Heap.SameBut.refl r s.heap,Jo r e⟩
 unfold setWalkUnseen;refine wpAny_bind (wpAny_setState_of hg rfl hf ?_)
 dsimp only
 refine wpAny_bind (cq ?_);cases hw:w.params.followText "set-order" with
 |true =>
  rw[if_pos (by show(w.params.followText "set-order"||t.led&&t.plain||decide (es.size<=1))=true;rw[hw];rfl)];unfold setWalk;refine wpAny_bind (wpAny_setState_of hg rfl hf ?_)
  dsimp only
  refine wpAny_bind (cq ?_);rw[if_pos (by exact hw)];refine wpAny_bind (wpAny_askSetting ?_);exact wpAny_pure (fL _ (dc _ _))
 |false =>
  by_cases h1:es.size<=1
  ·rw[if_pos (by rw[decide_eq_true h1];simp)];unfold setWalk;refine wpAny_bind (wpAny_setState_of hg rfl hf ?_)
   dsimp only
   refine wpAny_bind (cq ?_);rw[if_neg (by show ¬w.params.followText "set-order"=true;rw[hw];simp)];show wpAny _ _ (if (!t.plain&&decide (es.size>1))=true then _ else _) _ _ s;rw[if_neg (by rw[decide_eq_false (show ¬es.size>1 by omega)];simp)];show wpAny _ _ ((if (!t.led&&decide (es.size>1))=true then _ else _) >>= _) _ _ s;rw[if_neg (by rw[decide_eq_false (show ¬es.size>1 by omega)];simp)];exact wpAny_bind (wpAny_pure (wpAny_pure (fL es (List.Perm.refl _))))
  ·have Es:t.plain=false:=Eg.resolve_left (by omega);rw[if_neg (by show ¬(w.params.followText "set-order"||t.led&&t.plain||decide (es.size<=1))=true;rw[hw,Es,decide_eq_false h1];simp)];refine wpAny_bind (sV (λb EM=>by
    rcases List.mem_cons.mp EM with rfl|EM
    ·exact⟨_,_,Jn⟩
    ·exact ho b EM) ?_)
   rw[if_neg (by simp)];refine wpAny_bind (wpAny_rule ?_);cases f with
   |none=>exact wpAny_pure (fL es (List.Perm.refl _))
   |some r =>
    dsimp only
    obtain⟨Lr,er,S9,tr,OI,OJ,HC,MS,G5,QZ,Kk,Q0⟩:=Jo r rfl;refine wpAny_bind (wpAny_setState_of OI rfl G5 ?_)
    dsimp only
    have Jp:er.size=0:=by
     have:=aI.sz (h:=s.heap) (a:=r) (led:=ax w) OJ HC;simpa using this
    split
    ·refine wpAny_bind (dN (t':={tr with led:=tr.led&&t.led,plain:=tr.plain&&t.plain}) (led:=ax w) OI OJ HC MS G5 QZ (by show(tr.led&&t.led)=_;rw[Kk,Em,Bool.and_self]) (.inl Jp) λh' sb _ hs=>?_);exact wpAny_pure (h es L h' Ek DC (λz=>nomatch z) λr' e=>by cases e;exact⟨sb,hs⟩)
    ·exact wpAny_pure (fL es (List.Perm.refl _))
end
section
variable{prog:Program}{w:World}{A:Around}{E:Value->Shared->Prop}{s:Shared}
theorem ia(J:List (Str×Tok)->Shared->Prop)(hb:∀d p r s,d++p::r=L->J d s->∀Q':ForInStep PUnit->Shared->Prop,(∀s',J (d++[p]) s'->Q' (.yield ⟨⟩) s')->wpAny M A (body (Ac prog w p) ⟨⟩) Q' E s)(hq:∀s',J L s'->Q ⟨⟩ s'):
  ∀(r d:List (Str×Tok)) (s:Shared),d++r=L->J d s->wpAny M A (forIn (r.map (Ac prog w)) ⟨⟩ body) Q E s
 |[],d,s,e,h=>by
  rw[List.append_nil]at e;subst e;rw[List.map_nil,List.forIn_nil];exact wpAny_pure (hq s h)
 |p::r,d,s,e,h=>by
  rw[List.map_cons,List.forIn_cons];exact wpAny_bind (hb d p r s e h _ λs' h'=>ia J hb hq r (d++[p]) s' (by rw[<-e];simp) h')
theorem aI.ty(h:aI prog w s.heap a led D):s.TypeIs (.ref a) "set":=let ⟨_,_,_,_,ho,_⟩:=h;⟨_,ho,rfl⟩
theorem fg(hS:aI prog w s.heap a led D)(h:Q true s):wpAny (model prog w) A (Builtin.Frozenset.isAnySet (.ref a)) Q E s:=by
 unfold Builtin.Frozenset.isAnySet;refine wpAny_bind (wpAny_isInstance hS.ty sub_set_self ?_);exact wpAny_pure h
theorem gy{a:Addr}{led:Bool}{D:List Str}{Q:Nat->Shared->Prop}(hS:aI prog w s.heap a led D)(h:Q D.length s):wpAny (model prog w) A (Builtin.Frozenset.sizeOf a) Q E s:=by
 obtain⟨L,es,ep,t,ho,Ek,DC,DN,hf,_⟩:=hS;unfold Builtin.Frozenset.sizeOf;refine wpAny_bind (wpAny_setEntries_of ho rfl hf (wpAny_pure ?_));rw[aI.sz (h:=s.heap) (a:=a) (led:=led) Ek DC];exact h
theorem oD(hS:aI prog w s.heap a led D)(h:Q (.type "set") s):wpAny (model prog w) A (Builtin.Frozenset.baseOf a) Q E s:=by
 unfold Builtin.Frozenset.baseOf;refine wpAny_bind (wpAny_isInstance hS.ty sub_set_self ?_);exact wpAny_pure h
theorem rh(h:Q (.ref s.heap.objs.size) {s with heap:=s.heap.push {cls:=.type "set",dict:=none,data:=.set #[] 0 (.fresh 0 0 (ax w))}}):wpAny (model prog w) A (newSet (.type "set")) Q E s:=by
 unfold newSet setsByText;refine wpAny_bind (wpAny_bind (wpAny_askSetting (wpAny_pure ?_)))
 dsimp only
 simp only[newObj];exact wpAny_bind (wpAny_alloc (wpAny_pure h))
theorem uW{a:Addr}{D:List Str}{Q:Value->Shared->Prop}(hS:aI prog w s.heap a (ax w) D)(FD:D.length<64)(h:∀h',Heap.SameBut s.heap.objs.size (s.heap.push {cls:=.type "set",dict:=none,data:=.set #[] 0 (.fresh 0 0 (ax w))}) h'->aI prog w h' s.heap.objs.size (ax w) D->Q (.ref s.heap.objs.size) {s with heap:=h' }):
  wpAny (model prog w) A (Builtin.Frozenset.copyOf a) Q E s:=by
 unfold Builtin.Frozenset.copyOf;refine wpAny_bind (oD hS (wpAny_bind (rh ?_)));refine wpAny_bind (wpAny_pure ?_);have Ej:s.heap.objs.size≠a:=λe=>by obtain⟨_,_,_,_,ho,_⟩:=hS;exact Nat.lt_irrefl _ (e▸Heap.lt_size ho)
 refine wpAny_bind (sU (es:=#[]) (s:={s with heap:=s.heap.push {cls:=.type "set",dict:=none,data:=.set #[] 0 (.fresh 0 0 (ax w))}}) Ej (Heap.get?_push_size _ rfl) (hS.at λo e=>Heap.get?_push_of_some _ e) FD λh' sb hs=>?_);exact wpAny_pure (h h' sb hs)
theorem jI{id:String}(ho:s.heap.get? a=some {cls:=.type "set",dict:=none,data:=.set es ep t})(hf:t.fits es.size=true)(h:Q () s):wpAny (model prog w) A (Builtin.Frozenset.unchanged id a ep) Q E s:=by
 unfold Builtin.Frozenset.unchanged;refine wpAny_bind (wpAny_setEpoch_of ho rfl hf ?_);rw[if_neg (by simp)];exact wpAny_pure h
theorem uX{id:String}(F4:a≠b)(hS:aI prog w s.heap a (ax w) D1)(hT:aI prog w s.heap b (ax w) D2)(h1:D1.length<64)(h2:D2.length<=D1.length)
  (h:∀h',Heap.SameBut a s.heap h'->aI prog w h' a (ax w) (D1.filter λx=>decide (x∉D2))->Q () {s with heap:=h' }):wpAny (model prog w) A (Builtin.Frozenset.differenceUpdate id a (.ref b)) Q E s:=by
 unfold Builtin.Frozenset.differenceUpdate;rw[if_neg (by simpa using Ne.symm F4)];refine wpAny_bind (fg hT ?_);rw[if_pos rfl];refine wpAny_bind (wpAny_pure ?_);refine wpAny_bind (gy hT (wpAny_bind (gy hS ?_)));rw[if_neg (by omega)];obtain⟨L2,eb,S_,tb,Iu,Ta,Tb,Q1,OK,Oj,OL,Q3⟩:=_root_.id hT;refine wpAny_bind (wpAny_setEpoch_of Iu rfl OK ?_);refine wpAny_bind (wpAny_holding ?_);refine wpAny_bind (oC hT (others:=[a]) (f:=none) (λc hc=>by rw[List.mem_singleton.mp hc];exact⟨_,_,hS⟩) (λr e=>nomatch e) λes L h0 he hp e0 _=>?_);have e0:=e0 rfl;subst e0;rw[<-Array.forIn_toList,he];refine wpAny_bind (ia (prog:=prog) (w:=w) (L:=L) (λd s'=>∃h',s'={s with heap:=h' }/\Heap.SameBut a s.heap h'/\aI prog w h' a (ax w) (D1.filter λx=>decide (x∉d.map (·.1)))) (λd p r s' ed ⟨h',e',sb,EG⟩ Q' Ll=>?_) (λs' ⟨h',e',sb,EG⟩=>?_) L [] _ rfl ⟨s.heap,by cases s;rfl,Heap.SameBut.refl a s.heap,by rw[List.filter_eq_self.mpr λx _=>by simp];exact hS⟩)
 ·subst e';refine wpAny_bind (wpAny_holding (oB (s:={s with heap:=h' }) EG λb' h2 Hj Ep=>?_));refine wpAny_bind (jI (s:={s with heap:=h2}) (((sb.trans Hj).2 b (Ne.symm F4)).trans Iu) OK ?_);refine wpAny_pure (Ll _ ⟨h2,rfl,sb.trans Hj,?_⟩);rw[List.filter_filter]at Ep;have e:(D1.filter λx=>decide (x≠p.1)&&decide (x∉d.map (·.1)))=D1.filter λx=>decide (x∉(d++[p]).map (·.1)):=by
   refine List.filter_congr λx _=>?_;rw[Bool.eq_iff_iff];simp[not_or,and_comm]
  rw[<-e];exact Ep
 ·subst e';refine wpAny_pure ?_;have e:(D1.filter λx=>decide (x∉L.map (·.1)))=D1.filter λx=>decide (x∉D2):=by
   refine List.filter_congr λx _=>?_;rw[Bool.eq_iff_iff];simp only[decide_eq_true_eq];rw[hp.mem_iff]
  rw[e]at EG;exact uV (s:={s with heap:=h' }) EG (Nat.lt_of_le_of_lt (List.length_filter_le _ _) h1) λh2 Hj Ep=>h h2 (sb.trans Hj) Ep
theorem uY{id:String}(F4:a≠b)(hS:aI prog w s.heap a (ax w) D1)(hT:aI prog w s.heap b (ax w) D2)(h1:D1.length<64)(h2:D2.length<64)
  (h:∀h',(∀c o,s.heap.get? c=some o->h'.get? c=some o)->aI prog w h' s.heap.objs.size (ax w) (D1.filter λx=>decide (x∉D2))->Q (.ref s.heap.objs.size) {s with heap:=h' }):wpAny (model prog w) A (Builtin.Frozenset.difference id a (.ref b)) Q E s:=by
 have keep:∀h',Heap.SameBut s.heap.objs.size (s.heap.push {cls:=.type "set",dict:=none,data:=.set #[] 0 (.fresh 0 0 (ax w))}) h'->∀c o,s.heap.get? c=some o->h'.get? c=some o:=λh' sb c o e =>
  (sb.2 c (Nat.ne_of_lt (Heap.lt_size e))).trans (Heap.get?_push_of_some _ e)
 have OM:a<s.heap.objs.size:=by obtain⟨_,_,_,_,ho,_⟩:=hS;exact Heap.lt_size ho
 have ltB:b<s.heap.objs.size:=by obtain⟨_,_,_,_,ho,_⟩:=hT;exact Heap.lt_size ho
 unfold Builtin.Frozenset.difference
 dsimp only
 refine wpAny_bind (fg hT ?_);rw[if_neg (by simp)];refine wpAny_bind (wpAny_pure ?_);rw[if_neg (by simp),if_pos rfl];refine wpAny_bind (gy hT (wpAny_bind (gy hS ?_)));by_cases Kl:D1.length / 4>D2.length
 ·rw[if_pos Kl];refine wpAny_bind (wpAny_rule ?_);refine wpAny_bind (uW hS h1 λh' sb hs=>?_);refine wpAny_bind (wpAny_pure ?_);refine wpAny_bind (wpAny_holding (uX (s:={s with heap:=h' }) (Nat.ne_of_gt ltB) hs (hT.at λo e=>keep h' sb b o e) h1 (by omega) λh2 Hj Ep=>?_));exact wpAny_pure (h h2 (keep h2 (sb.trans Hj)) Ep)
 ·rw[if_neg Kl];refine wpAny_bind (oD hS (wpAny_bind (rh ?_)));refine wpAny_bind (wpAny_pure ?_);have GJ:=hS.at (h':=s.heap.push {cls:=.type "set",dict:=none,data:=.set #[] 0 (.fresh 0 0 (ax w))}) λo e=>Heap.get?_push_of_some _ e;have OC:=hT.at (h':=s.heap.push {cls:=.type "set",dict:=none,data:=.set #[] 0 (.fresh 0 0 (ax w))}) λo e=>Heap.get?_push_of_some _ e;have F7:aI prog w (s.heap.push {cls:=.type "set",dict:=none,data:=.set #[] 0 (.fresh 0 0 (ax w))}) s.heap.objs.size (ax w) []:=fQ (Heap.get?_push_size _ rfl);obtain⟨La,ea,Q4,ta,Lh,ON,Tc,MT,FV,Td,OO,Q5⟩:=_root_.id GJ;refine wpAny_bind (wpAny_setEpoch_of Lh rfl FV ?_);refine wpAny_bind (wpAny_holding ?_);rw[if_pos rfl];refine wpAny_bind (oC (s:={s with heap:=s.heap.push {cls:=.type "set",dict:=none,data:=.set #[] 0 (.fresh 0 0 (ax w))}}) GJ (others:=[b,s.heap.objs.size]) (f:=some s.heap.objs.size) (λc hc=>by
   rcases List.mem_cons.mp hc with rfl|hc
   ·exact⟨_,_,OC⟩
   ·rw[List.mem_singleton.mp hc];exact⟨_,_,F7⟩) (λr e=>by cases e;exact F7) λes L h0 he hp _ e0=>?_)
  obtain⟨Q6,Lm⟩:=e0 _ rfl;rw[<-Array.forIn_toList,he];have Q7:L.length=D1.length:=by rw[<-hp.length_eq,List.length_map]
  refine wpAny_bind (ia (prog:=prog) (w:=w) (L:=L) (λd s'=>∃h',s'={s with heap:=h' }/\Heap.SameBut s.heap.objs.size (s.heap.push {cls:=.type "set",dict:=none,data:=.set #[] 0 (.fresh 0 0 (ax w))}) h'/\aI prog w h' s.heap.objs.size (ax w) ((d.map (·.1)).filter λx=>decide (x∉D2))) (λd p r s' ed ⟨h',e',sb,EG⟩ Q' Ll=>?_) (λs' ⟨h',e',sb,EG⟩=>?_) L [] _ rfl ⟨h0,rfl,Q6,Lm⟩)
  ·subst e';have DN:(L.map (·.1)).Nodup:=hp.nodup_iff.mpr MT;have Q8:p.1∉d.map (·.1):=λz=>by
    rw[<-ed,List.map_append,List.nodup_append]at DN;exact DN.2.2 p.1 z p.1 (by simp) rfl
   have Q9:aI prog w h' b (ax w) D2:=hT.at λo e=>keep h' sb b o e;have OP:h'.get? a=some {cls:=.type "set",dict:=none,data:=.set ea Q4 ta}:=(sb.2 a (Nat.ne_of_lt OM)).trans Lh;have Fx:d.length<64:=by have:=congrArg List.length ed;simp at this;omega
   refine wpAny_bind (wpAny_holding ?_);rw[if_pos rfl];refine wpAny_bind (oA (s:={s with heap:=h' }) Q9 λr hr=>?_);refine wpAny_bind (wpAny_pure ?_);have em:((d++[p]).map (·.1)).filter (λx=>decide (x∉D2))=(d.map (·.1)).filter (λx=>decide (x∉D2))++if p.1∈D2 then [] else [p.1]:=by
    rw[List.map_append,List.filter_append];congr 1
    by_cases z:p.1∈D2<;>simp[z]
   by_cases z:p.1∈D2
   ·rw[if_neg (by rw[hr,decide_eq_true z];simp)];refine wpAny_pure ?_;refine wpAny_bind (jI (s:={s with heap:=h' }) OP FV ?_);refine wpAny_pure (Ll _ ⟨h',rfl,sb,?_⟩);rw[em,if_pos z,List.append_nil];exact EG
   ·rw[if_pos (by rw[hr,decide_eq_false z];rfl)];refine wpAny_bind (jD (s:={s with heap:=h' }) EG (by
     have:((d.map (·.1)).filter λx=>decide (x∉D2)).length<=d.length:=Nat.le_trans (List.length_filter_le _ _) (by simp);have Hi:scanBound=4096:=rfl;omega) λh2 Hj Ep=>?_)
    refine wpAny_pure ?_;refine wpAny_bind (jI (s:={s with heap:=h2}) ((Hj.2 a (Nat.ne_of_lt OM)).trans OP) FV ?_);refine wpAny_pure (Ll _ ⟨h2,rfl,sb.trans Hj,?_⟩);rw[em,if_neg z];rw[if_neg (λq=>Q8 (List.mem_filter.mp q).1)]at Ep;exact Ep
  ·subst e';refine wpAny_pure ?_;refine wpAny_pure (h h' (keep h' sb) (EG.perm ?_));exact hp.filter _
end
theorem kR:entryFor table "set.__sub__"=some Builtin.«frozenset.__sub__» :=
 entryFor_alias (id':="frozenset.__sub__") (by kernel_rfl) rfl (by decide +kernel) (by kernel_rfl)
section
theorem jc(F4:a≠b)(hS:aI prog w s.heap a (ax w) D1)(hT:aI prog w s.heap b (ax w) D2)(h1:D1.length<64)(h2:D2.length<64)
  (h:∀h',(∀c o,s.heap.get? c=some o->h'.get? c=some o)->aI prog w h' s.heap.objs.size (ax w) (D1.filter λx=>decide (x∉D2))->Q (.ref s.heap.objs.size) {s with heap:=h' }):wpAny (model prog w) A (binaryOp .Sub (.ref a) (.ref b)) Q E s:=by
 refine wpAny_binaryOp_same (T:="set") hS.ty hT.ty PySem.F.fills_set_sub PySem.F.slot_set_sub (wpAny_call_entry PySem.F.slot_set_sub hS.ty kR ?_ (PySem.F.args_set_sub_2 _ _));unfold Builtin.«frozenset.__sub__»;show wpAny (model prog w) _ (do
  let x <-Builtin.Frozenset.slot1 "__sub__" ⟨[.ref a,.ref b],[]⟩
  match x with
  |(self,other) =>
   match if false=true then(other,self) else(self,other) with
   |(l,r)=>do
    let c <-Builtin.Frozenset.isAnySet l <&&> Builtin.Frozenset.isAnySet r
    if (!c)=true then do
      rule (toString "frozenset."++toString "__sub__"++toString ".declined")
      ret Value.notImplemented
     else do
      let d <-Builtin.Frozenset.addrOf l
      let e <-Builtin.Frozenset.difference (toString "frozenset."++toString "__sub__") d r
      ret e) _ _ _
 refine wpAny_bind (m:=Builtin.Frozenset.slot1 "__sub__" ⟨[.ref a,.ref b],[]⟩) (wpAny_pure (a:=(Value.ref a,Value.ref b)) ?_)
 dsimp only
 refine wpAny_bind (wpAny_bind (fg hS ?_));show wpAny _ _ (Builtin.Frozenset.isAnySet (.ref b)) _ _ _;refine fg hT ?_;rw[if_neg (by simp)];refine wpAny_bind (wpAny_pure ?_);refine wpAny_bind (uY F4 hS hT h1 h2 λh' hk hs=>?_);exact wpAny_pure ⟨_,rfl,(λz=>by cases z),h h' hk hs⟩
end
section
theorem p5(hc:X.calm=true)(I:Inv X pins σ H s)(hq:D7 X.K H p (ys.map V.str)\/D3 X.K H p (ys.map V.str))(hb:ys.length+1<scanBound)
  (h:∀(S:Addr) (o:Obj) (s1:Shared),s.heap.objs.size<=S->s1.heap.get? S=some o->aI X.prog X.w s1.heap S (ax X.w) (av ys)->Inv X ((S,o)::pins) σ H s1->Q (.ref S) s1) :
  wpAny (model X.prog X.w) X.A (call (.type "set") [.ref p]) Q X.xe s:=by
 have hh:X.A.handled=none:=I.ok.hd hc;have fin:∀(h':Heap) (tk:Nat),aI X.prog X.w h' s.heap.objs.size (ax X.w) (av ys)->(∀b o,b<s.heap.objs.size->s.heap.get? b=some o->h'.get? b=some o)->Q (.ref s.heap.objs.size) {s with heap:=h',toks:=tk}:=λh' tk hS k=>by
  obtain⟨L,es,ep,t,ho,r⟩:=_root_.id hS;have I1:Inv X pins σ H {s with heap:=h',toks:=tk}:=I.kept λb o e=>k b o (Heap.lt_size e) e;refine h _ _ _ (Nat.le_refl _) ho hS (I1.dr λq hq=>?_);rcases List.mem_cons.mp hq with rfl|hq
  ·exact⟨ho,I.DE.fresh (Nat.le_refl _),Nat.ne_of_gt I.lt,I.zu (Nat.le_refl _),λv z=>nomatch z⟩
  ·exact I1.pin q (List.mem_append_right _ hq)
 rcases hq with hq|hq
 ·obtain⟨A',rv,pl,hz⟩:=I.list hq;exact eL hh pl.isList (cp rv) hb λh' tk hS k=>fin h' tk hS k
 ·obtain⟨A',rv,pl,hz⟩:=I.tuple hq;exact fG hh pl (cp rv) hb λh' tk hS k=>fin h' tk hS k
end
section
theorem gz(hit:s.heap.IsTupleIter it l i)
  (hl:s.heap.IsTuple l items) (hx:items[i]?=some x)
  (hQ:∀h',h'.IsTupleIter it l (i+1)->Heap.SameBut it s.heap h'->Q x {s with heap:=h' }) :
  wpAny (model prog w) A (Builtin.SmallTypes.nextOf (.ref it)) Q E s:=by
 obtain⟨o,ho,hc,hd⟩:=id hit;obtain⟨ol,J8,_,nl,Fx⟩:=hl;unfold Builtin.SmallTypes.nextOf;refine wpAny_bind (wpAny_callSpecial?_slot (name:=Str.ofString "__next__") hit.typeIs PySem.F.slot_tuple_iterator_next
  (wpAny_call_entry PySem.F.slot_tuple_iterator_next hit.typeIs PySem.F.entry_tuple_iterator_next ?_ (PySem.F.args_tuple_iterator_next_1 _)))
 show wpAny _ _ (field (.ref it) 0 >>= _) _ _ s;refine wpAny_bind (wpAny_field ho hd (x:=.ref l) rfl ?_);show wpAny _ _ (if (Value.ref l==Value.none)=true then _ else _) _ _ s;rw[if_neg (show ¬((Value.ref l==Value.none)=true) from Bool.false_ne_true)];show wpAny _ _ (field (.ref it) 1 >>= _) _ _ s;refine wpAny_bind (wpAny_field ho hd (x:=.int i 0) rfl ?_);show wpAny _ _ (seqItems? (.ref l) >>= _) _ _ s;refine wpAny_bind (wpAny_seqItems J8 Fx ?_);simp only[Int.toNat_natCast,hx];refine wpAny_bind (wpAny_setField ho hd (by simp) (wpAny_pure ⟨x,rfl,wpAny_pure (hQ _ ?_ (Heap.SameBut.update ..))⟩));exact⟨_,Heap.get?_update_self _ ho (Obj.isFreed_of_fields (Obj.data_mapFields hd _)),(Obj.cls_mapFields ..).trans hc,by
  rw[Obj.data_mapFields hd];simp[rawInt]⟩
theorem cJ(hh:A.handled=none)
  (hit:s.heap.IsTupleIter it l i) (hl:s.heap.IsTuple l items) (hx:items[i]?=none)
  (hE:∀h' e,Heap.ExtBut it s.heap h'->(∃o,h'.get? e=some o/\o.cls=.type "StopIteration")->E (.ref e) {s with heap:=h' }) :
  wpAny (model prog w) A (Builtin.SmallTypes.nextOf (.ref it)) Q E s:=by
 obtain⟨o,ho,hc,hd⟩:=id hit;obtain⟨ol,J8,_,nl,Fx⟩:=hl;unfold Builtin.SmallTypes.nextOf;refine wpAny_bind (wpAny_callSpecial?_slot (name:=Str.ofString "__next__") hit.typeIs PySem.F.slot_tuple_iterator_next
  (wpAny_call_entry PySem.F.slot_tuple_iterator_next hit.typeIs PySem.F.entry_tuple_iterator_next ?_ (PySem.F.args_tuple_iterator_next_1 _)))
 show wpAny _ _ (field (.ref it) 0 >>= _) _ _ s;refine wpAny_bind (wpAny_field ho hd (x:=.ref l) rfl ?_);show wpAny _ _ (if (Value.ref l==Value.none)=true then _ else _) _ _ s;rw[if_neg (show ¬((Value.ref l==Value.none)=true) from Bool.false_ne_true)];show wpAny _ _ (field (.ref it) 1 >>= _) _ _ s;refine wpAny_bind (wpAny_field ho hd (x:=.int i 0) rfl ?_);show wpAny _ _ (seqItems? (.ref l) >>= _) _ _ s;refine wpAny_bind (wpAny_seqItems J8 Fx ?_);simp only[Int.toNat_natCast,hx];refine wpAny_bind (wpAny_rule (wpAny_bind (wpAny_setField ho hd (by simp) ?_)));show wpAny _ _ (newExc (.type "StopIteration") [] >>= _) _ _ _;refine wpAny_bind ?_;simp only[newExc,newTuple];refine wpAny_bind (wpAny_newObj_type ?_ (by size_fits));refine wpAny_bind (m:=firstArgMember _ _) (wpAny_of_eq (a:=Value.none) (by first|rfl|(simp only[firstArgMember];rfl)) ?_);refine wpAny_newObj_type ?_ (by size_fits);simp only[raiseNew];refine wpAny_bind (wpAny_handled ?_)
 first|rw[show A.in1.handled=none from hh]|rw[hh]
 refine wpAny_bind (wpAny_pure (wpAny_throw ?_));exact hE _ _ (((Heap.SameBut.update ..).extBut.push _).push _) ⟨_,Heap.get?_push_size _ rfl,rfl⟩
end
theorem eN(hh:A.handled=none)(it l:Addr)(Ej:l≠it)(items:Array Value):
  Draws prog w A it [it,l] items.size (λi v=>items[i]?=some v) (λi h=>h.IsTupleIter it l i/\h.IsTuple l items) where
 live:=λ_ _ st=>let ⟨o,ho,_⟩:=st.1;⟨o,ho⟩
 frame:=λ_ _ _ st hk=>⟨st.1.at λo e=>hk it (by simp) o e,let ⟨o,ho,r⟩:=st.2;⟨o,hk l (by simp) o ho,r⟩⟩
 item:=λi s Q E hi st hQ=>by
  refine gz st.1 st.2 (x:=items[i]) (by simp[hi]) λh' FF EG=>?_;exact hQ _ h' s.toks (by simp[hi]) ⟨FF,let ⟨o,ho,r⟩:=st.2;⟨o,(EG.2 l Ej).trans ho,r⟩⟩ EG
 done:=λs Q E st hE=>cJ hh st.1 st.2 (by simp) hE
open AutoSeq1 (wpAny_loadPart') in
theorem jJ(l:Addr)(items:Array Value)(n:Nat)(MU:Option Addr)(sl:Array (Option Value)):
  Meets (Builtin.«enumerate.__new__» ⟨[.type "enumerate",.ref l],[]⟩) (λ_ R s=>s.heap.get? l=some {cls:=.type "tuple",dict:=MU,data:=.seq items n,slots:=sl} /\
   R (.ok (.ret (.ref (s.heap.push {cls:=.type "tuple_iterator",data:=.fields #[.ref l,.int 0 0]}).objs.size)))
    {s with heap:=(s.heap.push {cls:=.type "tuple_iterator",data:=.fields #[.ref l,.int 0 0]}).push {cls:=.type "enumerate",data:=.fields #[.none,.bool false,.ref s.heap.objs.size,rawInt 0,.none,.none]}}) :=
 .of_wp λprog w A R s h=>by
  obtain⟨hp,g,d,tk,os⟩:=s;obtain⟨hl,h⟩:=h;have EO:=sub_enumerate;have hL:Heap.IsTuple (Shared.heap ⟨hp,g,d,tk,os⟩) l items:=⟨_,hl,rfl,n,rfl⟩
  wp_walk using wpAny_loadPart' hl
  refine wpAny_stack_any λst=>wpAny_pure ?_;split
  ·rename_i c _ _ _ _ _;cases(c==Value.type "enumerate")
   ·wp_walk using wpAny_loadPart' hl,wpAny_pyIter_tuple hL
    exact⟨_,rfl,h⟩
   ·wp_walk using wpAny_loadPart' hl,wpAny_pyIter_tuple hL
    exact⟨_,rfl,h⟩
  ·wp_walk using wpAny_loadPart' hl,wpAny_pyIter_tuple hL
   exact⟨_,rfl,h⟩
section
theorem eO(hL:s.heap.IsTuple l items)
  (h:∀h',IsEnum h' (s.heap.objs.size+1) s.heap.objs.size 0 .none->h'.IsTupleIter s.heap.objs.size l 0->h'.objs.size=s.heap.objs.size+2 ->
   (∀b o,s.heap.get? b=some o->h'.get? b=some o)->Q (.ref (s.heap.objs.size+1)) {s with heap:=h' }) :
  wpAny (model prog w) A (call (.type "enumerate") [.ref l]) Q E s:=by
 obtain⟨⟨c,MU,dt,sl⟩,hl,hc,n,hd⟩:=hL
 replace hc:c=.type "tuple":=hc
 replace hd:dt=.seq items n:=hd
 subst hc hd;refine callType_new PySem.F.called_enumerate (by decide) (PySem.F.typeCall_enumerate_1 _) (PySem.F.newCall_enumerate_1 _) (λobj=>PySem.F.args_object_init_2 obj _) PySem.F.entry_enumerate_new
  (jJ l items n MU sl) ⟨hl,?_⟩
 have hz:(s.heap.push {cls:=.type "tuple_iterator",data:=.fields #[.ref l,.int 0 0]}).objs.size=s.heap.objs.size+1:=Heap.size_push ..;show _/\_;rw[hz];have he:IsEnum ((s.heap.push {cls:=.type "tuple_iterator",data:=.fields #[.ref l,.int 0 0]}).push
   {cls:=.type "enumerate",data:=.fields #[.none,.bool false,.ref s.heap.objs.size,rawInt 0,.none,.none]}) (s.heap.objs.size+1) s.heap.objs.size 0 .none:=by
  have:=Heap.get?_push_size (s.heap.push {cls:=.type "tuple_iterator",data:=.fields #[.ref l,.int 0 0]})
   (o:={cls:=.type "enumerate",data:=.fields #[.none,.bool false,.ref s.heap.objs.size,rawInt 0,.none,.none]}) rfl
  rw[hz]at this;exact this
 refine⟨⟨_,he,rfl⟩,h _ he ⟨_,Heap.get?_push_of_some _ (Heap.get?_push_size _ rfl),rfl,rfl⟩ (by rw[Heap.size_push,hz]) λb o x=>Heap.get?_push_of_some _ (Heap.get?_push_of_some _ x)⟩
end
end L2
namespace L2
open PySem PySem.Spec PyProof.Rows
section
theorem Inv.jd{ch:List Addr}(I:Inv X pins σ H s)(hf:∀b∈ch,gf X pins H b)(k:∀b o,b∉ch->s.heap.get? b=some o->h'.get? b=some o):Inv X pins σ H {s with heap:=h',toks:=t' }:=by
 have JM:∀b u,H b=some u->b∉ch:=λb u e z=>by rw[(hf b z).1]at e;cases e
 refine I.step (g':=s.gens) (d':=s.drawn) (ch:=ch) (λb hb=>?_) (λb o _ _ hc e _=>k b o hc e) (λb o _ _ hc e _=>⟨o.slots,k b o hc e⟩) (λ_ _ _ _ n=>n)
  (λb o hc e=>⟨o,k b o hc e⟩) (λ_ _ e=>e) (λ_ _ _ e=>e) (λb ps e=>⟨#[],by rw[e];simp⟩) (λm hm=>?_) (λb u e=>?_) I.bare
 ·obtain⟨f0,f1,f2,f3,f4,f5⟩:=hf b hb;exact⟨f3,f1,f4,f5⟩
 ·obtain⟨o,es,ep,ho,r⟩:=hm;exact⟨o,es,ep,k _ o (λz=>(hf _ z).2.1 rfl) ho,r⟩
 ·refine(I.DE b u e).fL (λc v hc q=>k c v ?_ q) (λ_ q=>q) λ_ _ q=>q;rcases hc with z|z
  ·rw[z];exact JM b u e
  ·exact JM c _ z
theorem Inv.fU{ch:List Addr}(I:Inv X pins σ H s)(hf:∀b∈ch,gf X pins H b)(k:∀b o,b∉ch->s.heap.get? b=some o->h'.get? b=some o)(hT:s.heap.objs.size<=T)(new:bp X.prog X.w (upd H T o) h' T o):
  Inv X pins σ (upd H T o) {s with heap:=h',toks:=t' }:=by
 have I1:Inv X pins σ H {s with heap:=h',toks:=t' }:=I.jd hf k;have hn:H T=none:=I.DE.fresh hT;have nT:∀b o,s.heap.get? b=some o->b≠T:=λb o e z=>by rw[z]at e;exact absurd (Nat.lt_of_lt_of_le (Heap.lt_size e) hT) (Nat.lt_irrefl _)
 have nH:∀b u,H b=some u->b≠T:=λb u e z=>by rw[z,hn]at e;cases e
 refine I.step (g':=s.gens) (d':=s.drawn) (ch:=ch) (λb hb=>?_) (λb o _ _ hc e _=>k b o hc e) (λb o _ _ hc e _=>⟨o.slots,k b o hc e⟩) (λb o _ e n=>by rw[aj (nT b o e)];exact n)
  (λb o hc e=>⟨o,k b o hc e⟩) (λb _ e=>by rw[aj (nH b _ e)];exact e) (λb _ _ e=>by rw[aj (nH b _ e)];exact e) (λb ps e=>⟨#[],by rw[aj (nH b _ e),e];simp⟩) (λm hm=>?_) (λb u e=>?_) I.bare
 ·obtain⟨f0,f1,f2,f3,f4,f5⟩:=hf b hb;exact⟨f3,f1,f4,f5⟩
 ·obtain⟨o,es,ep,ho,r⟩:=hm;exact⟨o,es,ep,k _ o (λz=>(hf _ z).2.1 rfl) ho,r⟩
 ·by_cases hb:b=T
  ·subst hb;rw[aq]at e;cases e;exact new
  ·rw[aj hb]at e;exact(I1.DE b u e).fL (λc v _ q=>q) (λc q=>by rw[aj (nH c _ q)];exact q) λc xs q=>by rw[aj (nH c _ q)];exact q
end
noncomputable def Jq(Sq:Hp->List V->Prop):It :=
 ⟨λi H=>∃xs x,Sq H xs/\xs[i]?=some x,λi H x H'=>∃p,H p=none/\x=.ref p/\∀xs v,Sq H xs->xs[i]?=some v->H'=upd H p (.tup [.int i,v]),λi H=>∃xs,Sq H xs/\xs.length<=i⟩
theorem lE{K:PySem.W.Frag}(Sq:Hp->List V->Prop)(a e it:Addr)(IG:e≠it)(At:Nat->Heap->Prop)(Is:Heap->Array Value->Prop)
  (EF:∀i h h',At i h->(∀o,h.get? it=some o->h'.get? it=some o)->At i h') (OQ:∀i h,At i h->∃o,h.get? it=some o/\∀v,o.data≠.cell v)
  (Jr:∀(X:Cx) (pins:List (Addr×Obj)) (s:Shared) (σ:St) (H:Hp) (xs:List V),X.K=K->Inv X pins σ H s->Sq H xs->∃A':List Value,Vals xs A'/\Is s.heap A'.toArray)
  (MV:∀(X:Cx) (pins:List (Addr×Obj)) (s:Shared) (σ:St) (H:Hp) (xs ys:List V),X.K=K->Inv X pins σ H s->Sq H xs->Sq H ys->xs=ys)
  (ON:∀h items i old,Is h items->IsEnum h e it i old->e≠a)
  (hD:∀(A:Around) (items:Array Value),A.handled=none->Draws P w A it [it,a] items.size (λi v=>items[i]?=some v) (λi h=>At i h/\Is h items))
  (F6:∀(A:Around) (s:Shared) (i:Nat) (items:Array Value) (Q:Value->Shared->Prop) (E:Value->Shared->Prop),A.handled=none->At i s.heap->Is s.heap items->items[i]?=none ->
   (∀h' x,Heap.ExtBut it s.heap h'->(∃o,h'.get? x=some o/\o.cls=.type "StopIteration")->E (.ref x) {s with heap:=h' })->wpAny (model P w) A (Builtin.SmallTypes.nextOf (.ref it)) Q E s) :
  Turn P w K (.Tuple es kx ps) (Jq Sq) [e,it] e (λi h=>(∃old,IsEnum h e it i old)/\At i h) where
 mem:=by simp
 obj:=λi h st b hb=>by
  obtain⟨⟨old,he⟩,hl⟩:=st;rcases List.mem_cons.mp hb with z|z
  ·rw[z];exact⟨_,he,λv z=>by
    have z':Data.fields _=Data.cell v:=z;cases z'⟩
  ·rw[List.mem_singleton.mp z];exact OQ i h hl
 keep:=λi h h' ⟨⟨old,he⟩,hl⟩ k=>⟨⟨old,k e (by simp) _ he⟩,EF i h h' hl λo q=>k it (by simp) o q⟩
 item:=by
  intro X hP hw hK hc i pins s σ H E I hf ⟨⟨old,he⟩,hl⟩ hg;subst hP hw;obtain⟨xs,x,hq,hx⟩:=hg;obtain⟨A',rv,p⟩:=Jr X pins s σ H xs hK I hq;obtain⟨u,hu,ru⟩:=rv.get hx;have DW:i<A'.toArray.size:=by simpa using(List.getElem?_eq_some_iff.mp hu).1
  have D:=hD X.A.in1 A'.toArray (by simpa using I.ok.hd hc);have MW:=ON _ _ _ _ p he;refine wpAny_pyNext_enum_itemD D he ⟨hl,p⟩ DW IG (by simp[IG,MW]) λy h1 tk hy ho st1 hT hsz hk=>?_;have ey:y=u:=by
   have:A'.toArray[i]?=some u:=by simpa using hu
   rw[this]at hy;cases hy;rfl
  subst ey;refine⟨_,rfl,wpAny_letOwnedTupleGo_enum (s:={s with heap:=h1,toks:=tk+1}) ho λh2 Ln Ep=>?_⟩;have OR:e<s.heap.objs.size:=Heap.lt_size he;have Km:h2.get? s.heap.objs.size=some {cls:=.type "tuple",data:=.seq #[.int i tk,y]}:=(Ep.2 _ (Nat.ne_of_gt OR)).trans hT;have k2:∀b o,b∉[e,it]->s.heap.get? b=some o->h2.get? b=some o:=λb o hb q=>by
   simp only[List.mem_cons,List.not_mem_nil,or_false,not_or]at hb;exact(Ep.2 b hb.1).trans (hk b o hb.1 hb.2 q)
  have I2:Inv X pins σ (upd H s.heap.objs.size (.tup [.int i,x])) {s with heap:=h2,toks:=tk+1}:=I.fU hf k2 (Nat.le_refl _)
   (show bp X.prog X.w _ h2 _ (.tup [.int i,x]) from⟨by show 2<=sizeLine;decide,[.int i tk,y],.cons ⟨tk,rfl⟩ (.cons ru .nil),⟨_,Km,rfl,_,rfl⟩⟩)
  refine⟨.ref s.heap.objs.size,_,I2,rfl,⟨_,I.DE.fresh (Nat.le_refl _),rfl,λys v hy hv=>?_⟩,⟨⟨_,Ln⟩,EF (i+1) h1 h2 st1.1 λo q=>(Ep.2 it (Ne.symm IG)).trans q⟩,λb hb=>?_⟩
  ·have:=MV X pins s σ H ys xs hK I hy hq;subst this;rw[hx]at hv;cases hv;rfl
  ·have EM:b≠s.heap.objs.size:=by
    rcases List.mem_cons.mp hb with z|z
    ·rw[z];exact Nat.ne_of_lt OR
    ·rw[List.mem_singleton.mp z];obtain⟨o,q,_⟩:=OQ i _ hl;exact Nat.ne_of_lt (Heap.lt_size q)
   rw[aj EM];exact(hf b hb).1
 done:=by
  intro X hP hw hK hc i pins s σ H E I hf ⟨⟨old,he⟩,hl⟩ hg;subst hP hw;obtain⟨xs,hq,hx⟩:=hg;obtain⟨A',rv,p⟩:=Jr X pins s σ H xs hK I hq;have hlen:=rv.length;have hT:s.TypeIs (.ref e) "enumerate":=⟨_,he,rfl⟩
  unfold pyNext;refine wpAny_bind (wpAny_attempt (wpAny_callSpecial?_slot (name:=Str.ofString "__next__") hT PySem.F.slot_enumerate_next
   (wpAny_call_entry PySem.F.slot_enumerate_next hT PySem.F.entry_enumerate_next ?_ (PySem.F.args_enumerate_next_1 _))))
  show wpAny _ _ (field (.ref e) 2 >>= _) _ _ _;refine wpAny_bind (wpAny_field he rfl (x:=.ref it) rfl ?_);refine wpAny_bind (F6 _ _ i A'.toArray _ _ (by simpa using I.ok.hd hc) hl p (by simp;omega) λh' x Mx JX=>?_);obtain⟨o,ho,Lj⟩:=JX;refine wpAny_bind (wpAny_isInstance (T:="StopIteration") (b:=true) ⟨o,ho,Lj⟩ isSubtype_stop ?_);refine wpAny_pure ⟨rfl,I.jd (t':=s.toks) (ch:=[it]) (λb hb=>hf b (List.mem_cons_of_mem _ hb)) λb o hb q=>Mx b o (λz=>hb (by simp[z])) q⟩
 self:=λA i s Q E ⟨⟨old,he⟩,hl⟩ h=>wpAny_pyIter_enum he h
section
variable{X:Cx}{es:List Expr}{kx:Nat}{ps p pos:Pos}
theorem sW:bootBuiltins "enumerate"=some (.type "enumerate"):=by decide +kernel
def Dj(K:PySem.W.Frag)(ta:TA):TI:=λσ H R=>ta σ H λvs H1=>∃a,vs=[.ref a]/\((∃xs,D7 K H1 a xs)/\R (Jq λH xs=>D7 K H a xs) H1\/(∃xs,D3 K H1 a xs)/\R (Jq λH xs=>D3 K H a xs) H1)
theorem Ad(a e it:Addr)(IG:e≠it)(J4:a≠it):Turn X.prog X.w X.K (.Tuple es kx ps) (Jq λH xs=>D7 X.K H a xs) [e,it] e (λi h=>(∃old,IsEnum h e it i old)/\h.IsListIter it a i):=by
 refine lE _ a e it IG (λi h=>h.IsListIter it a i) (λh items=>h.IsList a items) (λi h h' x k=>x.at k) (λi h ⟨o,ho,hc,hd⟩=>⟨o,ho,λv z=>by rw[hd]at z;cases z⟩)
  (λY pins s σ H xs hK I hq=>?_) (λY pins s σ H xs ys hK I hx hy=>?_) (λh items i old ⟨o,ho,hc,_⟩ he z=>?_) (λA items hh=>Draws.list hh it a J4 items) (λA s i items Q E hh hl hp hx hE=>wpAny_nextOf_list_end hh hl hp hx hE)
 ·rw[<-hK]at hq;obtain⟨A',rv,p,hz⟩:=I.list hq;exact⟨A',rv,p.isList⟩
 ·rw[<-hK]at hx hy;exact I.gb hx hy
 ·rw[<-z,he]at ho;cases ho;have G0:Value.type "enumerate"=Value.type "list":=hc;exact absurd G0 (by decide)
theorem Ae(a e it:Addr)(IG:e≠it)(J4:a≠it):Turn X.prog X.w X.K (.Tuple es kx ps) (Jq λH xs=>D3 X.K H a xs) [e,it] e (λi h=>(∃old,IsEnum h e it i old)/\h.IsTupleIter it a i):=by
 refine lE _ a e it IG (λi h=>h.IsTupleIter it a i) (λh items=>h.IsTuple a items) (λi h h' x k=>x.at k) (λi h ⟨o,ho,hc,hd⟩=>⟨o,ho,λv z=>by rw[hd]at z;cases z⟩)
  (λY pins s σ H xs hK I hq=>?_) (λY pins s σ H xs ys hK I hx hy=>?_) (λh items i old ⟨o,ho,hc,_⟩ he z=>?_) (λA items hh=>eN hh it a J4 items) (λA s i items Q E hh hl hp hx hE=>cJ hh hl hp hx hE)
 ·rw[<-hK]at hq;obtain⟨A',rv,p,hz⟩:=I.tuple hq;exact⟨A',rv,p⟩
 ·rw[<-hK]at hx hy;exact I.dG hx hy
 ·rw[<-z,he]at ho;cases ho;have G0:Value.type "enumerate"=Value.type "tuple":=hc;exact absurd G0 (by decide)
theorem xE(hg:Gl X "enumerate")(hm:X.mg "enumerate"=none)(ha:PA X [a] ta)(hs:starEach [a] X.env=[(false,eval a X.env)]):PI X (.Tuple es kx ps) (.Call (.Name "enumerate" p) [a] [] pos) (Dj X.K ta):=by
 intro pins s σ H R I h;refine Call_ (cF I hg hm sW (PyProof.Rows.callWith_type1 (DG (ha pos pins s σ H _ I h) λus s1 ⟨vs,H1,I1,r1,q1⟩=>?_) hs rfl));obtain⟨a',e,q⟩:=q1;subst e;obtain⟨u,rfl,r⟩:=vals1 r1;cases r;have ne1:s1.heap.objs.size+1≠s1.heap.objs.size:=Nat.succ_ne_self _;have fin:∀(h':Heap),(∀b∈[s1.heap.objs.size+1,s1.heap.objs.size],gf X pins H1 b):=λh' b hb=>by
  have EM:s1.heap.objs.size<=b:=by
   rcases List.mem_cons.mp hb with z|z
   ·rw[z];exact Nat.le_succ _
   ·rw[List.mem_singleton.mp z];exact Nat.le_refl _
  exact I1.sv EM (I1.DE.fresh EM)
 rcases q with⟨⟨xs,hq⟩,q⟩|⟨⟨xs,hq⟩,q⟩
 ·obtain⟨A',rv,p,hz⟩:=I1.list hq;have DW:a'<s1.heap.objs.size:=let ⟨o,ho,_⟩:=p.isList;Heap.lt_size ho;refine call_enumerate_list p.isList λh' he hl hsz hk=>?_;refine wpAny_pyIter_enum he ⟨_,[s1.heap.objs.size+1,s1.heap.objs.size],_,_,H1,rfl,I1.kept (t':=s1.toks) hk,Ad a' _ _ ne1 (Nat.ne_of_lt DW),⟨⟨_,he⟩,hl⟩,fin h',q⟩
 ·obtain⟨A',rv,p,hz⟩:=I1.tuple hq;have DW:a'<s1.heap.objs.size:=let ⟨o,ho,_⟩:=p;Heap.lt_size ho;refine eO p λh' he hl hsz hk=>?_;refine wpAny_pyIter_enum he ⟨_,[s1.heap.objs.size+1,s1.heap.objs.size],_,_,H1,rfl,I1.kept (t':=s1.toks) hk,Ae a' _ _ ne1 (Nat.ne_of_lt DW),⟨⟨_,he⟩,hl⟩,fin h',q⟩
end
theorem sX(l:Addr)(items:Array Value)(n:Nat)(b:Addr)(D5:Array Value)(n2:Nat)(dd:Option Addr)(sl:Array (Option Value))(EC:¬(!items.isEmpty&&Builtin.List.listTooLong (items.size+D5.size))=true)(E9:items.size<=sizeLine)(Ep:items.size+D5.size<=sizeLine+1):
  Meets (Builtin.«list.extend» ⟨[.ref l,.ref b],[]⟩) (λ_ R s=>s.heap.get? l=some {cls:=.type "list",dict:=none,data:=.seq items n,slots:=#[]}/\s.heap.get? b=some {cls:=.type "list",dict:=dd,data:=.seq D5 n2,slots:=sl}/\R (.ok (.ret Value.none)) {s with heap:=s.heap.update l (Obj.mapSeq λx=>x++D5),toks:=s.toks}) :=
 .of_wp λprog w A R s h=>by
  obtain⟨hp,g,d,tk,os⟩:=s;obtain⟨hl,hb,h⟩:=h;have f1:=AutoSeq1.idx_int;have f2:=AutoSeq1.sub_tuple_tuple;have f3:=AutoSeq1.sub_list_list;have f4:=AutoSeq1.sub_tuple_list;have f5:=AutoSeq1.sub_list_tuple;
  have HF:(items++D5).size<=sizeLine+1:=by rw[Array.size_append];exact Ep
  wp_walk using(wpAny_updateSeq hl rfl (hz:=E9) (_hz':=HF)),AutoSeq1.wpAny_loadPart' hl,AutoSeq1.wpAny_loadPart' hb;exact⟨_,rfl,h⟩
theorem sY(l:Addr)(items:Array Value)(n:Nat)(b:Addr)(D5:Array Value)(n2:Nat)(dd:Option Addr)(sl:Array (Option Value))(EC:¬(!items.isEmpty&&Builtin.List.listTooLong (items.size+D5.size))=true)(E9:items.size<=sizeLine)(Ep:items.size+D5.size<=sizeLine+1):
  Meets (Builtin.«list.extend» ⟨[.ref l,.ref b],[]⟩) (λ_ R s=>s.heap.get? l=some {cls:=.type "list",dict:=none,data:=.seq items n,slots:=#[]}/\s.heap.get? b=some {cls:=.type "tuple",dict:=dd,data:=.seq D5 n2,slots:=sl}/\R (.ok (.ret Value.none)) {s with heap:=s.heap.update l (Obj.mapSeq λx=>x++D5),toks:=s.toks}) :=
 .of_wp λprog w A R s h=>by
  obtain⟨hp,g,d,tk,os⟩:=s;obtain⟨hl,hb,h⟩:=h;have f1:=AutoSeq1.idx_int;have f2:=AutoSeq1.sub_tuple_tuple;have f3:=AutoSeq1.sub_list_list;have f4:=AutoSeq1.sub_tuple_list;have f5:=AutoSeq1.sub_list_tuple;
  have HF:(items++D5).size<=sizeLine+1:=by rw[Array.size_append];exact Ep
  wp_walk using(wpAny_updateSeq hl rfl (hz:=E9) (_hz':=HF)),AutoSeq1.wpAny_loadPart' hl,AutoSeq1.wpAny_loadPart' hb;exact⟨_,rfl,h⟩
section
theorem p6:Oh X "list.extend" (λx vs H Q=>∃l b xs zs,x=.ref l/\vs=[.ref b]/\H l=some (.lst xs)/\(D7 X.K H b zs\/D3 X.K H b zs)/\xs.length+zs.length<=sizeLine/\Q .DF (upd H l (.lst (xs++zs)))):=by
 intro pins s σ H x vs v us Q I rx rv h;obtain⟨l,b,xs,zs,rfl,rfl,hH,hB,hz,q⟩:=h;cases rx;obtain⟨u,rfl,ru⟩:=rv.one;cases ru;obtain⟨z,A',n,r,hl,e⟩:=I.BK hH;have fin:∀DX:List Value,Vals zs DX->EP X pins σ Q Value.none {s with heap:=s.heap.update l (Obj.mapSeq λx=>x++DX.toArray),toks:=s.toks}:=λDX r2=>by
  refine⟨.DF,_,I.mz (its':=A'++DX) hH e (by simp) (r.append r2) ?_,rfl,q⟩;rw[List.length_append];omega
 have sz:∀DX:List Value,zs.length=DX.length->A'.toArray.size+DX.toArray.size<=sizeLine:=λDX h=>by rw[List.size_toArray,List.size_toArray];omega
 have lg:∀DX:List Value,zs.length=DX.length->¬(!A'.toArray.isEmpty&&Builtin.List.listTooLong (A'.toArray.size+DX.toArray.size))=true:=λDX h=>by
  rw[uu (sz DX h),Bool.and_false];exact Bool.false_ne_true
 rcases hB with hB|hB
 ·obtain⟨DX,r2,pl,_⟩:=I.list hB;obtain⟨⟨cls,dd,data,sl⟩,ho,hc,n2,hd⟩:=pl.isList;simp only at hc hd;subst hc hd;have GH:=r2.length;have h1:=sz DX GH;exact call_meets F.slot_list_extend ⟨_,e,rfl⟩ F.entry_list_extend (F.args_list_extend_2 _ _) (sX l A'.toArray n b DX.toArray n2 dd sl (lg DX GH) (by omega) (by omega)) ⟨e,ho,fin DX r2⟩
 ·obtain⟨DX,r2,pl,_⟩:=I.tuple hB;obtain⟨⟨cls,dd,data,sl⟩,ho,hc,n2,hd⟩:=pl;simp only at hc hd;subst hc hd;have GH:=r2.length;have h1:=sz DX GH;exact call_meets F.slot_list_extend ⟨_,e,rfl⟩ F.entry_list_extend (F.args_list_extend_2 _ _) (sY l A'.toArray n b DX.toArray n2 dd sl (lg DX GH) (by omega) (by omega)) ⟨e,ho,fin DX r2⟩
end
end L2
namespace L2
open PySem PySem.W PyProof.Rows
noncomputable def fV{α:Type}(lt:Nat->Nat->Bool):KasT α->α
 |.ret x=>x
 |.ask i j k=>fV lt (k (lt i j))
def ED{α:Type}(n:Nat)(P:α->Prop):KasT α->Prop
 |.ret x=>P x
 |.ask i j k=>i<n/\j<n/\∀b,ED n P (k b)
theorem ED.Js{P:α->Prop}{Q:β->Prop}{f:α->KasT β}(hf:∀x,P x->ED n Q (f x)):∀{t:KasT α},ED n P t->ED n Q (t.bind f)
 |.ret x,h=>hf x h
 |.ask i j k,h=>⟨h.1,h.2.1,λb=>ED.Js hf (h.2.2 b)⟩
theorem ED.got:∀{t:KasT α},ED n P t->P (fV lt t)
 |.ret _,h=>h
 |.ask i j k,h=>ED.got (t:=k (lt i j)) (h.2.2 _)
theorem ED.wp(hc:∀i j,i<n->j<n->∀C:Bool->Shared->Prop,C (lt i j) s->cmp i j C s):
  ∀{t:KasT α},ED n P t->Q (fV lt t) s->t.kasWp cmp Q s
 |.ret _,_,q=>q
 |.ask i j k,h,q=>hc i j h.1 h.2.1 _ (ED.wp hc (t:=k (lt i j)) (h.2.2 _) q)
def Pm(n:Nat)(p:Array Nat):Prop:=p.toList.Perm (List.range n)
section
variable{n:Nat}(hn:0<n)
include hn
theorem Pm.at(h:Pm n p)(i:Nat):p.getD i 0<n:=by
 by_cases hi:i<p.size
 ·have:p.getD i 0=p[i]:=by simp[Array.getD,hi]
  rw[this];have hm:p[i]∈p.toList:=by simp
  exact List.mem_range.mp (h.mem_iff.mp hm)
 ·have:p.getD i 0=0:=by simp[Array.getD,hi]
  rw[this];exact hn
omit hn in
theorem Pm.rev(h:Pm n p)(i j:Nat):Pm n (kas_rev p i j):=(mirror_perm p i j _).toList.trans h
omit hn in
theorem Pm.Q_(h:Pm n p)(i j:Nat):Pm n (bubble p i j):=(bubble_perm p i j).toList.trans h
theorem p7(h:Pm n p):∀(f m:Nat),ED n (λ_=>True) (kas_asc p f m)
 |0,m=>trivial
 |f+1,m=>⟨h.at hn _,h.at hn _,λb=>by
  cases b
  ·exact p7 h f (m+1)
  ·exact trivial⟩
theorem je:∀(f:Nat) (p:Array Nat) (m q:Nat),Pm n p->ED n (λr=>Pm n r.1) (kas_desc f p m q)
 |0,p,m,q,h=>h
 |f+1,p,m,q,h=>⟨h.at hn _,h.at hn _,λb=>by
  cases b
  ·exact⟨h.at hn _,h.at hn _,λb=>by
    cases b
    ·exact je f p (m+1) (q+1) h
    ·exact h⟩
  ·show ED n _ (if q>0 then _ else _);split
   ·exact je f _ _ _ (h.rev _ _)
   ·exact je f _ _ _ h⟩
theorem rj(h:Pm n p)(m r:Nat):ED n (λx=>Pm n x.2) (kas_tail3 m r p):=by
 unfold kas_tail3;refine ED.Js (λx _=>?_) (p7 hn (h.rev _ _) _ _);exact h.rev _ _
theorem rl(h:Pm n p)(m r:Nat):ED n (λx=>Pm n x.2) (kas_descPart m r p):=by
 unfold kas_descPart;refine ED.Js (λx hx=>?_) (je hn _ _ _ _ h);split
 ·exact rj hn (hx.rev _ _) _ _
 ·exact rj hn hx _ _
theorem uZ(h:Pm n p)(r:Nat):ED n (λx=>Pm n x.2) (kas_count r p):=by
 unfold kas_count;refine ED.Js (λm _=>?_) (p7 hn h _ _);split
 ·exact h
 ·split
  ·exact⟨h.at hn _,h.at hn _,λb=>by
    cases b
    ·exact rl hn (h.rev _ _) _ _
    ·exact h⟩
  ·exact rl hn h _ _
theorem jK(h:Pm n p)(k:Nat):∀(f l r:Nat),ED n (λ_=>True) (kas_place p k f l r)
 |0,l,r=>trivial
 |f+1,l,r=>by
  unfold kas_place;split
  ·exact trivial
  ·exact⟨h.at hn _,h.at hn _,λb=>by
    cases b
    ·exact jK h k f _ _
    ·exact jK h k f _ _⟩
theorem u3:∀(f:Nat) (p:Array Nat) (k:Nat),Pm n p->ED n (Pm n) (kas_bin f p k)
 |0,p,k,h=>h
 |f+1,p,k,h=>ED.Js (λl _=>u3 f _ _ (h.Q_ _ _)) (jK hn h _ _ _ _)
theorem rm:ED n (Pm n) (kas_sort n):=by
 unfold kas_sort;refine ED.Js (λx hx=>?_) (uZ hn (p:=List.toArray (List.range n)) (by unfold Pm;simp) n);split
 ·exact u3 hn _ _ _ hx
 ·exact hx
end
theorem jL(lt:Nat->Nat->Bool)(n:Nat):(fV lt (kas_sort n)).toList.Perm (List.range n):=by
 cases n with
 |zero=>exact List.Perm.refl _
 |succ n=>exact(rm (Nat.succ_pos n)).got
section
theorem sZ(ho:s.heap.get? a=some (seqObj "list" vs.toArray n))(FD:vs.length<64)
  (OS:2<=vs.length->∀s1:Shared,(∀b o,b≠a->s.heap.get? b=some o->s1.heap.get? b=some o)->wpAny (model prog w) A (keyKind' vs.toArray) (λκ s'=>s'=s1/\∀i j,i<vs.length->j<vs.length->∀C:Bool->Shared->Prop,C (lt i j) s1->kas_ask prog w A κ vs i j C s1) (λ_ _=>False) s1)
  (h:P (.done (.ret .none)) {s with heap:=sortedHeap s.heap a vs (((fV lt (kas_sort vs.length)).toList.map λi=>vs.getD i Value.none).toArray)}) :
  wpAny (model prog w) A (Builtin.«list.sort» ⟨[.ref a],[]⟩) P E s:=by
 have ha:a<s.heap.objs.size:=Heap.lt_size ho;have big:(64:Nat)<=sizeLine:=by decide
 rw[list_sort_plain];refine wpAny_bind (listItems_at ho rfl (wpAny_bind (listUpdate_at ho rfl ?_ (by rw[List.size_toArray];omega) (Nat.zero_le _))));obtain⟨e1,FG⟩:∃e1,(s.heap.update a (Obj.mapSeq λ_=>(#[]:Array Value))).get? a=some (seqObj "list" #[] e1):=⟨_,get?_update_seq ho λ_=>#[]⟩
 refine wpAny_bind (seqEpoch_at FG rfl (wpAny_bind (wpAny_newTuple (wpAny_bind (wpAny_newList (wpAny_holding ?_) (Nat.zero_le _))) (by show vs.length<=_;omega))));have Kn:(((s.heap.update a (Obj.mapSeq λ_=>(#[]:Array Value))).push (seqObj "tuple" vs.toArray 0)).push (seqObj "list" #[] 0)).get? a=some (seqObj "list" #[] e1):=Heap.get?_push_of_some _ (Heap.get?_push_of_some _ FG);have old:∀b o,b≠a->s.heap.get? b=some o->(((s.heap.update a (Obj.mapSeq λ_=>(#[]:Array Value))).push (seqObj "tuple" vs.toArray 0)).push (seqObj "list" #[] 0)).get? b=some o:=λb o hb e =>
  Heap.get?_push_of_some _ (Heap.get?_push_of_some _ (by rw[Heap.get?_update_ne _ _ _ _ hb];exact e))
 show wpAny (model prog w) A _ P E {s with heap:=((s.heap.update a (Obj.mapSeq λ_=>(#[]:Array Value))).push (seqObj "tuple" vs.toArray 0)).push (seqObj "list" #[] 0)}
 dsimp only
 have Ko:((fV lt (kas_sort vs.length)).toList.map λi=>vs.getD i Value.none).length=vs.length:=by rw[List.length_map,(jL lt _).length_eq,List.length_range]
 by_cases h2:vs.toArray.size<2
 ·rw[if_pos h2,if_pos h2];refine wpAny_bind (wpAny_pure ?_);rw[StateT.run_pure];refine wpAny_bind (wpAny_pure ?_);have eo:((fV lt (kas_sort vs.length)).toList.map λi=>vs.getD i Value.none).toArray=(vs.toArray.zip vs.toArray).map (·.2):=by
   have hp:=jL lt vs.length;clear h OS Ko old Kn ho FD
   match vs,h2,hp with
   |[],_,hp=>rw[show(fV lt (kas_sort ([]:List Value).length)).toList=[] from List.perm_nil.mp hp];simp
   |[v],_,hp=>rw[show(fV lt (kas_sort [v].length)).toList=[0] from List.perm_singleton.mp hp];simp
   |_::_::_,h2,_=>simp at h2;omega
  rw[eo]at h
  dsimp only
  refine wpAny_bind (seqEpoch_at Kn rfl (wpAny_bind (listUpdate_at Kn rfl ?_ (Nat.zero_le _) (by rw[Array.size_map];show(pairsOf vs).size<=_;rw[pairsOf_size];omega))));simp only[bne_self_eq_false,Bool.false_eq_true,if_false];exact wpAny_pure h
 ·rw[if_neg h2,if_neg h2];have E5:2<=vs.length:=by rw[List.size_toArray]at h2;omega
  refine wpAny_bind (wpAny_mono (OS E5 _ old) (λκ s0 hk=>?_) λ_ _ x=>x.elim);obtain⟨rfl,hk⟩:=hk;refine wpAny_bind (wpAny_mono (kat_run (κ:=κ) (ks:=vs) (vs:=vs) (G:=λp s'=>p=fV lt (kas_sort vs.length)/\s'={s with heap:=((s.heap.update a (Obj.mapSeq λ_=>(#[]:Array Value))).push (seqObj "tuple" vs.toArray 0)).push (seqObj "list" #[] 0)})
   (Q:=λst' s'=>∃p:Array Nat,arrOf st'=p.map (kas_item (vs.toArray.zip vs.toArray))/\failedOf st'=none/\p=fV lt (kas_sort vs.length)/\s'={s with heap:=((s.heap.update a (Obj.mapSeq λ_=>(#[]:Array Value))).push (seqObj "tuple" vs.toArray 0)).push (seqObj "list" #[] 0)})
   rfl E5 FD (λp st' s' a1 a2 a3 a4=>⟨p,a2,a3,a4⟩) (ED.wp hk (rm (by omega)) ⟨rfl,rfl⟩)) ?_ λ_ _ e=>e)
  rintro⟨⟨⟩,st'⟩ s' ⟨p,Ra,hf,rfl,rfl⟩
  dsimp only
  have MX:=kat_snds rfl Ra;rw[MX,hf];refine wpAny_bind (seqEpoch_at Kn rfl (wpAny_bind (listUpdate_at Kn rfl ?_ (Nat.zero_le _) (by rw[List.size_toArray,Ko];omega))));simp only[bne_self_eq_false,Bool.false_eq_true,if_false];exact wpAny_pure h
end
abbrev xF:=Str×Int
noncomputable def HG(ks:List Str)(i j:Nat):Bool:=decide ((ks.getD i Str.empty).cps.toList<(ks.getD j Str.empty).cps.toList)
noncomputable def iV(ks:List Str):List Nat:=(fV (HG ks) (kas_sort ks.length)).toList
theorem fh(ks:List Str):(iV ks).Perm (List.range ks.length):=jL _ _
noncomputable def BQ(x:Str)(n:Int)(t u:Tok):Obj:={cls:=.type "tuple",data:=.seq #[.str x t,.int n u]}
def eu(h:Heap)(as:List Addr)(ps:List xF):Prop:=as.length=ps.length/\∀(j:Nat) (a:Addr),as[j]?=some a->∃p t u,ps[j]?=some p/\h.get? a=some (BQ p.1 p.2 t u)
theorem eu.keeps(x:eu h as ps)(k:∀b o,b∈as->h.get? b=some o->h'.get? b=some o):eu h' as ps :=
 ⟨x.1,λj a e=>let ⟨p,t,u,e1,e2⟩:=x.2 j a e;⟨p,t,u,e1,k a _ (List.mem_of_getElem? e) e2⟩⟩
theorem eu.tail(x:eu h (a::as) (p::ps)):eu h as ps :=
 ⟨by have:=x.1;simpa using this,λj b e=>by
  obtain⟨q,t,u,e1,e2⟩:=x.2 (j+1) b (by simpa using e);exact⟨q,t,u,by simpa using e1,e2⟩⟩
theorem eu.iW:∀{as:List Addr}{ps:List xF},eu h as ps->∃fs:List Value,KatTups h (as.map Value.ref) fs/\fs.length=as.length/\∀v∈fs,∃x t,v=Value.str x t
 |[],_,_=>⟨[],KatTups.nil,rfl,by simp⟩
 |a::as,[],x=>by have:=x.1;simp at this
 |a::as,p::ps,x=>by
  obtain⟨fs,h1,h2,h3⟩:=eu.iW x.tail;obtain⟨q,t,u,e1,e2⟩:=x.2 0 a rfl;refine⟨.str q.1 t::fs,KatTups.cons e2 rfl rfl rfl h1,by simp[h2],λv hv=>?_⟩;rcases List.mem_cons.mp hv with rfl|hv
  ·exact⟨_,_,rfl⟩
  ·exact h3 v hv
theorem lF:∀{l:List α}{m:List β}{i:Nat}{x:α},Paired F l m->l[i]?=some x->∃y,m[i]?=some y/\F x y
 |_,_,_,_,.nil,e=>by simp at e
 |_,_,0,_,.cons r _,e=>by simp at e;subst e;exact⟨_,rfl,r⟩
 |_,_,i+1,x,.cons _ t,e=>by
  obtain⟨u,h1,h2⟩:=lF (i:=i) (x:=x) t (by simpa using e);exact⟨u,by simpa using h1,h2⟩
section
theorem Af(x:eu s.heap as ps)(DN:(ps.map (·.1)).Nodup)(hi:i<as.length)(hj:j<as.length)(q:C (HG (ps.map (·.1)) i j) s):
  kas_ask prog w A (tuples' true) (as.map Value.ref) i j C s:=by
 obtain⟨p,t,u,e1,e2⟩:=x.2 i as[i] (by simp[hi]);obtain⟨p',t',u',Er,Fg⟩:=x.2 j as[j] (by simp[hj]);have hl:=x.1;have Rb:i<ps.length:=by omega
 have MY:j<ps.length:=by omega
 have gi:(as.map Value.ref).getD i Value.none=.ref as[i]:=by simp[List.getD,hi]
 have gj:(as.map Value.ref).getD j Value.none=.ref as[j]:=by simp[List.getD,hj]
 have ki:(ps.map (·.1)).getD i Str.empty=p.1:=by simp[List.getD,e1]
 have kj:(ps.map (·.1)).getD j Str.empty=p'.1:=by simp[List.getD,Er]
 unfold kas_ask;rw[gi,gj];refine kat_lt (b:=true) e2 rfl Fg rfl ?_;unfold HG at q;rw[ki,kj]at q;show KatLex prog w A true (decide (2<2)) C [(.str p.1 t,.str p'.1 t'),(.int p.2 u,.int p'.2 u')] 0 s;refine kat_cons (wpAny_eqBool_str ?_);by_cases h:p.1=p'.1
 ·have EY:i=j:=by
   have a1:(ps.map (·.1))[i]'(by simpa using Rb)=(ps.map (·.1))[j]'(by simpa using MY):=by
    obtain⟨_,z1⟩:=List.getElem?_eq_some_iff.mp e1;obtain⟨_,z2⟩:=List.getElem?_eq_some_iff.mp Er;simp[z1,z2,h]
   exact(List.getElem_inj DN).mp a1
  subst EY;rw[e1]at Er;cases Er;rw[decide_eq_true rfl];refine kat_yes (kat_cons (wpAny_eqBool_int ?_));rw[show(p.2==p.2)=true by simp];refine kat_yes (kat_nil ?_);have:decide (p.1.cps.toList<p.1.cps.toList)=false:=decide_eq_false (List.lt_irrefl _);rw[this]at q;exact q
 ·rw[decide_eq_false h];exact kat_no (oneLt_str q)
theorem Ag(x:eu s.heap as ps)(DN:(ps.map (·.1)).Nodup)(h2:2<=as.length):
  wpAny (model prog w) A (keyKind' (as.map Value.ref).toArray) (λκ s'=>s'=s/\∀i j,i<(as.map Value.ref).length->j<(as.map Value.ref).length->∀C:Bool->Shared->Prop,C (HG (ps.map (·.1)) i j) s->kas_ask prog w A κ (as.map Value.ref) i j C s) (λ_ _=>False) s:=by
 obtain⟨fs,f1,f2,f3⟩:=x.iW;refine kat_kind (T:=.type "str") f1 (by omega) (λv hv=>?_) rfl ⟨rfl,λi j hi hj C q=>?_⟩
 ·obtain⟨y,t,rfl⟩:=f3 v hv;exact Looks.of_pure rfl
 ·rw[List.length_map]at hi hj;exact Af x DN hi hj q
end
noncomputable def iX(H:Hp):List (Addr×List V)->Hp
 |[]=>H
 |(a,vs)::r=>upd (iX H r) a (.tup vs)
theorem jM:∀{l:List (Addr×List V)}{b:Addr}{o:HO},iX H l b=some o->(∃vs,(b,vs)∈l/\o=.tup vs)\/H b=some o
 |[],b,o,h=>.inr h
 |(a,vs)::r,b,o,h=>by
  by_cases hb:b=a
  ·subst hb;rw[iX,aq]at h;cases h;exact .inl ⟨vs,by simp,rfl⟩
  ·rw[iX,aj hb]at h;rcases jM h with⟨ws,q1,q2⟩|q
   ·exact .inl ⟨ws,by simp[q1],q2⟩
   ·exact .inr q
theorem jN:∀{l:List (Addr×List V)}{b:Addr},(∀p∈l,p.1≠b)->iX H l b=H b
 |[],b,_=>rfl
 |(a,vs)::r,b,h=>by
  rw[iX,aj (Ne.symm (h _ List.mem_cons_self))];exact jN λp hp=>h p (by simp[hp])
theorem rn:∀{l:List (Addr×List V)}{b:Addr}{vs:List V},(l.map (·.1)).Nodup->(b,vs)∈l->iX H l b=some (.tup vs)
 |(a,ws)::r,b,vs,nd,h=>by
  have OT:a∉r.map (·.1)/\(r.map (·.1)).Nodup:=by simpa using nd
  rcases List.mem_cons.mp h with h|h
  ·cases h;exact aq
  ·have:b≠a:=λz=>OT.1 (by rw[<-z];exact List.mem_map.mpr ⟨_,h,rfl⟩);rw[iX,aj this];exact rn OT.2 h
section
theorem Inv.many(I:Inv X pins σ H s)(k:∀b u,s.heap.get? b=some u->h'.get? b=some u)(hH:∀b o,H b=some o->H' b=some o)
  (hn:∀b o,H' b=some o->H b=some o\/(s.heap.objs.size<=b/\bp X.prog X.w H' h' b o)):Inv X pins σ H' {s with heap:=h',toks:=t' }:=by
 refine I.un ⟨λb u q _ _ _=>k b u q,λb u q _ _ _=>⟨u.slots,k b u q⟩,λb u q n _=>?_,λb u q _=>⟨u,k b u q⟩,λb xs q=>hH b _ q,λb u xs q=>hH b _ q,λb ps q=>⟨#[],by rw[hH b _ q];simp⟩⟩ λb o e=>?_
 ·cases e:H' b with
  |none=>rfl
  |some o =>
   rcases hn b o e with z|⟨z,_⟩
   ·rw[n]at z;cases z
   ·exact absurd (Nat.lt_of_lt_of_le (Heap.lt_size q) z) (Nat.lt_irrefl _)
 ·rcases hn b o e with z|⟨_,z⟩
  ·exact(I.DE b o z).fL (λc v _ q=>k c v q) (λc q=>hH c _ q) λc xs q=>hH c _ q
  ·exact z
noncomputable def G8(p:xF):List V:=[.str p.1,.int p.2]
theorem mO{ps:List xF}(hc:X.calm=true)(I:Inv X pins σ H s)(e:H d=some (.dK (ps.map λp=>((Sum.inr p.1:Key),V.int p.2))))(DN:(ps.map (·.1)).Nodup)(FD:ps.length<64)
  (q:∀(as:List Addr) (L:Addr),as.length=ps.length->as.Nodup->(∀a∈L::as,H a=none)->L∉as->Q (.ref L) (upd (iX H (as.zip (ps.map G8))) L (.lst ((iV (ps.map (·.1))).map λi=>V.ref (as.getD i 0))))) :
  wpAny (model X.prog X.w) X.A (call (.builtin "dict.items") [.ref d]) (λv s1=>wpAny (model X.prog X.w) X.A (call (.builtin "sorted") [v]) (EP X pins σ Q) X.xe s1) X.xe s:=by
 have big:(64:Nat)<=sizeLine:=by decide
 obtain⟨hz,lo,vs,kv,dd⟩:=yW I.DE e;have hlen:vs.length=ps.length:=by
  have:=Paired.length kv;simpa using this.symm
 obtain⟨o,es,ep,hd⟩:=id dd;refine call_meetsIn PySem.F.slot_dict_items (show s.TypeIs (.ref d) "dict" from⟨o,hd.1,hd.2.1.1⟩) PySem.F.entry_dict_items (PySem.F.args_dict_items_1 _) (meets_dict_items (aM X.prog X.w) d lo) ⟨⟨vs,dd⟩,?_⟩;show wpAny (model X.prog X.w) X.A (call (.builtin "sorted") [.ref s.heap.objs.size]) (EP X pins σ Q) X.xe {s with heap:=s.heap.push {cls:=.type "dict_items",data:=.fields #[.ref d]}};have k1:∀b u,s.heap.get? b=some u->(s.heap.push {cls:=.type "dict_items",data:=.fields #[.ref d]}).get? b=some u:=λb u z=>Heap.get?_push_of_some _ z;have Te:(s.heap.push {cls:=.type "dict_items",data:=.fields #[.ref d]}).DictOf (aM X.prog X.w) d vs:=⟨o,es,ep,k1 _ _ hd.1,hd.2⟩
 have EF:(s.heap.push {cls:=.type "dict_items",data:=.fields #[.ref d]}).DictAt (aM X.prog X.w) d vs ep:=⟨o,es,k1 _ _ hd.1,hd.2⟩
 refine Calls.call_function_entry kind_sorted plain_sorted entry_sorted (args_sorted1 _) ?_;unfold Builtin.«sorted»;refine wpAny_bind (m:=checkCount "sorted" 1 1 _) (wpAny_pure ?_);refine wpAny_bind (kdx_collect (A:=X.A.in1) (knd:=aM X.prog X.w) (kvs:=vs) (ep:=ep) (I.ok.hd hc) ⟨_,Heap.get?_push_size _ rfl,rfl,rfl⟩ EF (by omega) λh1 tk as hk hl hG=>?_);have Hu:as.length=ps.length:=hl.trans hlen;have above:∀a∈as,s.heap.objs.size<=a:=λa ha=>by
  have:=hG.above a ha;have z:(s.heap.push {cls:=.type "dict_items",data:=.fields #[.ref d]}).objs.size=s.heap.objs.size+1:=size_push' ..;have OU:(s.heap.push {cls:=.type "dict_items",data:=.fields #[.ref d]}).objs.size<a:=this;omega
 have pa:eu h1 as ps:=⟨Hu,λj a ea=>by
  obtain⟨key,k,x,e1,e2,e3⟩:=hG.pairs j a ea;have hj:j<ps.length:=by rw[<-Hu];exact(List.getElem?_eq_some_iff.mp ea).1
  obtain⟨y,ey,r1,r2⟩:=lF kv (i:=j) (x:=((Sum.inr ps[j].1:Key),V.int ps[j].2)) (by simp[hj]);rw[e1]at ey;cases ey;obtain⟨tx,rfl⟩:∃t,x=.int ps[j].2 t:=r2;have Rc:k=Sum.inr ps[j].1:=r1.symm;subst Rc;obtain⟨t,rfl⟩:=Value.isStrOf_shape (x:=ps[j].1) (v:=key) e2;exact⟨ps[j],t,tx,by simp[hj],e3⟩⟩
 have nd:as.Nodup:=hG.rise.imp λh=>Nat.ne_of_lt h;refine wpAny_bind (wpAny_newList ?_ (by rw[List.length_map];omega));have Hb:(h1.push (seqObj "list" (as.map Value.ref).toArray 0)).get? h1.objs.size=some (seqObj "list" (as.map Value.ref).toArray 0):=Heap.get?_push_size _ rfl;show wpAny _ _ _ _ _ {s with heap:=h1.push (seqObj "list" (as.map Value.ref).toArray 0),toks:=tk};have OV:∀a∈as,a<h1.objs.size:=λa ha=>hG.there ha;refine wpAny_bind (wpAny_holding (wpAny_call_entry slot_list_sort ⟨_,Hb,rfl⟩ entry_list_sort (sZ (lt:=HG (ps.map (·.1))) Hb (by rw[List.length_map];omega) (λh2 s1 ks=>?_) ⟨_,rfl,?_⟩) (args_list_sort _)))
 ·refine Ag (pa.keeps λb o hb z=>ks b o (Nat.ne_of_lt (OV b hb)) (Heap.get?_push_of_some _ z)) DN (by rw[List.length_map]at h2;exact h2)
 ·obtain⟨ee,he⟩:=sortedHeap_at (out:=((fV (HG (ps.map (·.1))) (kas_sort (as.map Value.ref).length)).toList.map λi=>(as.map Value.ref).getD i Value.none).toArray) Hb;have hold:∀b o,h1.get? b=some o->(sortedHeap (h1.push (seqObj "list" (as.map Value.ref).toArray 0)) h1.objs.size (as.map Value.ref) ((fV (HG (ps.map (·.1))) (kas_sort (as.map Value.ref).length)).toList.map λi=>(as.map Value.ref).getD i Value.none).toArray).get? b=some o:=λb o z=>by
   have DW:b<h1.objs.size:=Heap.lt_size z;rw[sortedHeap_old (Nat.ne_of_lt DW) (by rw[size_push'];exact Nat.lt_succ_of_lt DW)];exact Heap.get?_push_of_some _ z
  have Iy:s.heap.objs.size<=h1.objs.size:=Nat.le_of_lt (Heap.lt_size (hk _ _ (Heap.get?_push_size _ rfl)));have eP:((fV (HG (ps.map (·.1))) (kas_sort (as.map Value.ref).length)).toList)=iV (ps.map (·.1)):=by
   unfold iV;rw[List.length_map,List.length_map,Hu]
  have Jt:H h1.objs.size=none:=I.DE.fresh Iy;have Rf:h1.objs.size∉as:=λz=>Nat.lt_irrefl _ (OV _ z);have OW:∀a∈as,H a=none:=λa ha=>I.DE.fresh (above a ha);have MZ:∀{b:Addr} {ws:List V},(b,ws)∈as.zip (ps.map G8)->b∈as:=λz=>(List.of_mem_zip z).1;refine wpAny_pure ⟨_,rfl,.ref h1.objs.size,upd (iX H (as.zip (ps.map G8))) h1.objs.size (.lst ((iV (ps.map (·.1))).map λi=>V.ref (as.getD i 0))),?_,rfl,q as _ Hu nd (λa ha=>?_) Rf⟩
  ·refine I.many (λb u z=>hold b u (hk b u (k1 b u z))) (λb o z=>?_) λb o z=>?_
   ·have n1:b≠h1.objs.size:=λy=>by rw[y,Jt]at z;cases z
    rw[aj n1,jN λp hp y=>?_]
    ·exact z
    ·have:=OW p.1 (MZ (b:=p.1) (ws:=p.2) hp);rw[y,z]at this;cases this
   ·by_cases hb:b=h1.objs.size
    ·subst hb;rw[aq]at z;cases z;refine .inr ⟨Iy,by rw[List.length_map,(fh _).length_eq,List.length_range,List.length_map];omega,(iV (ps.map (·.1))).map λi=>(as.map Value.ref).getD i Value.none,ee,?_,?_⟩
     ·have EN:∀i∈iV (ps.map (·.1)),i<as.length:=λi hi=>by
       have:=List.mem_range.mp ((fh _).mem_iff.mp hi);rw[List.length_map]at this;omega
      generalize iV (ps.map (·.1))=l at EN;induction l with
      |nil=>exact .nil
      |cons i l ih =>
       refine .cons ?_ (ih λj hj=>EN j (by simp[hj]));have hi:=EN i (by simp);show RelV (.ref (as.getD i 0)) ((as.map Value.ref).getD i Value.none);have:(as.map Value.ref).getD i Value.none=.ref (as.getD i 0):=by simp[List.getD,hi]
       rw[this];rfl
     ·rw[<-eP];exact he
    ·rw[aj hb]at z;rcases jM z with⟨ws,z1,rfl⟩|z1
     ·obtain⟨j,hj,ej⟩:=List.mem_iff_getElem.mp z1;have M0:j<as.length:=by simp at hj;omega
      have MY:j<ps.length:=by omega
      have Rg:as[j]=b/\G8 ps[j]=ws:=by simpa using ej
      obtain⟨rfl,rfl⟩:=Rg;obtain⟨p,t,u,e1,e2⟩:=pa.2 j as[j] (by simp[M0]);have:p=ps[j]:=by simpa[MY] using e1.symm
      subst this;exact .inr ⟨above _ (by simp),by show 2<=sizeLine;omega,[.str ps[j].1 t,.int ps[j].2 u],.cons ⟨t,rfl⟩ (.cons ⟨u,rfl⟩ .nil),_,hold _ _ e2,rfl,0,rfl⟩
     ·exact .inl z1
  ·rcases List.mem_cons.mp ha with rfl|ha
   ·exact Jt
   ·exact OW a ha
end
section
end
section
theorem u4:X.calm=true->iA X (.builtin "any") (λxs H Q=>∃(p:Addr) (bs:List Bool),xs=[.ref p]/\D7 X.K H p (bs.map V.bl)/\Q (.bl (bs.any id)) H):=by
 intro hc pins s σ H xs us Q I rs h;obtain⟨p,bs,rfl,hq,q⟩:=h;obtain⟨u,rfl,r⟩:=vals1 rs;cases r;obtain⟨A',rv,pl,hz⟩:=I.list hq;have e:=eG rv;subst e;have DW:p<s.heap.objs.size:=by obtain⟨_,_,e,_⟩:=pl;exact Heap.lt_size e
 refine call_any_walk (wpAny_pyIter_list pl.isList ?_);refine⟨s.heap.objs.size,[s.heap.objs.size,p],[s.heap.objs.size],(bs.map Value.bool).toArray.size,_,_,λi=>(bs[i]?).getD false,rfl,Walks.list (A:=X.A.in1) (I.ok.hd hc) _ p (Nat.ne_of_lt DW) (bs.map Value.bool).toArray,
  ⟨⟨_,Heap.get?_push_size _ rfl,rfl,rfl⟩,pl.isList.push _⟩,λi v s' Q' E' hP hQ=>?_,λh' tk hk=>?_⟩
 ·have GF:(bs.map Value.bool)[i]?=some v:=by simpa using hP
  rw[List.getElem?_map]at GF;cases e:bs[i]? with
  |none=>rw[e]at GF;cases GF
  |some b =>
   rw[e]at GF;cases GF;simp only[e,Option.getD_some]at hQ;exact wpAny_truthy_bool hQ
 ·have e:((List.range (bs.map Value.bool).toArray.size).any λi=>(bs[i]?).getD false)=bs.any id:=by
   rw[List.size_toArray,List.length_map];exact PyProof.Rows.LSm.range_any bs
  rw[e];exact⟨.bl _,H,I.kept (t':=tk) (PyProof.Rows.LSm.kept_iter hk),rfl,q⟩
end
end L2
namespace L2
open PySem PySem.Spec PyProof.Rows
structure Kp(z TI TO i1 i2:Addr)(f1 f2:List Addr):Prop where
 Iz:TI≠z
 Oz:TO≠z
 az:i1≠z
 bz:i2≠z
 IO:TI≠TO
 Ia:TI≠i1
 Ib:TI≠i2
 Oa:TO≠i1
 Ob:TO≠i2
 ab:i1≠i2
 z1:z∉f1
 z2:z∉f2
 O1:TO∉f1
 O2:TO∉f2
 b1:i2∉f1
 a2:i1∉f2
def y4(prog:Program)(w:World)(A:Around)(it:Addr)(St:Heap->Prop):Prop:=∀(s:Shared) (Q:Value->Shared->Prop) (E:Value->Shared->Prop),St s.heap->(∀h' e,Heap.ExtBut it s.heap h'->(∃o,h'.get? e=some o/\o.cls=.type "StopIteration")->E (.ref e) {s with heap:=h' })->wpAny (model prog w) A (Builtin.SmallTypes.nextOf (.ref it)) Q E s
section
variable{prog:Program}{w:World}{A:Around}{E:Value->Shared->Prop}{s:Shared}{z TI TO i1 i2:Addr}{f1 f2:List Addr}{n1 n2 i:Nat}{P1 P2:Nat->Value->Prop}{S1 S2:Nat->Heap->Prop}
theorem u5(D1:Draws prog w A.in1 i1 f1 n1 P1 S1)(D2:Draws prog w A.in1 i2 f2 n2 P2 S2)(Z:Kp z TI TO i1 i2 f1 f2)(hz:IsZip s.heap z TI TO .none)(F8:IsPair s.heap TI (.ref i1) (.ref i2))(Gm:IsPair s.heap TO a b)
  (t1:S1 i s.heap) (t2:S2 i s.heap) (l1:i<n1) (l2:i<n2)
  (hQ:∀x y h' tk,P1 i x->P2 i y->IsZip h' z TI TO (rawInt s.heap.objs.size)->IsPair h' TO x y->S1 (i+1) h'->S2 (i+1) h'->IsPair h' s.heap.objs.size x y ->
   (∀c o,c≠z->c≠TO->c≠i1->c≠i2->s.heap.get? c=some o->h'.get? c=some o)->Q (some (.ref s.heap.objs.size)) {s with heap:=h',toks:=tk}):wpAny (model prog w) A (pyNext (.ref z)) Q E s:=by
 have hT:s.TypeIs (.ref z) "zip":=⟨_,hz,rfl⟩
 have nz:∀{f:List Addr} {c:Addr},c∉f->∀b∈f,b≠c:=λhc b hb e=>hc (e▸hb);unfold pyNext;refine wpAny_bind (wpAny_attempt (wpAny_callSpecial?_slot (name:=Str.ofString "__next__") hT PySem.F.slot_zip_next (wpAny_call_entry PySem.F.slot_zip_next hT PySem.F.entry_zip_next ?_ (PySem.F.args_zip_next_1 _))));show wpAny _ _ (field (.ref z) 2 >>= _) _ _ _;refine wpAny_bind (wpAny_field hz rfl (x:=.bool false) rfl ?_);show wpAny _ _ (field (.ref z) 3 >>= _) _ _ _;refine wpAny_bind (wpAny_field hz rfl (x:=.ref TI) rfl (wpAny_bind (wpAny_seqItems F8 rfl ?_)));show wpAny _ _ (Builtin.SmallTypes.ownedTupleIsFree (.ref z) >>= _) _ _ _;refine wpAny_bind ?_;unfold Builtin.SmallTypes.ownedTupleIsFree;refine wpAny_bind (wpAny_field hz rfl (x:=.none) rfl (wpAny_pure ?_));simp only[if_true];refine wpAny_bind (wpAny_rule (wpAny_bind (wpAny_field hz rfl (x:=.ref TO) rfl (wpAny_bind (wpAny_setField_rec hz (by simp) λg1 HH k1=>wpAny_bind ?_)))))
 replace HH:IsZip g1 z TI TO .ellipsis:=HH
 simp only[List.zipIdx_cons,List.zipIdx_nil,List.forIn_cons,List.forIn_nil];refine wpAny_bind (wpAny_bind (wpAny_onRaise ?_));show wpAny _ _ (Builtin.SmallTypes.nextOf (.ref i1) >>= _) _ _ _;refine wpAny_bind (D1.item i _ _ _ l1 (D1.frame i _ _ t1 λb hb o e=>k1.extBut b o (nz Z.z1 b hb) e) λx g2 MK px u1 k2=>wpAny_pure ?_);have Kq:IsPair g2 TO a b:=k2.extBut _ _ Z.Oa (k1.extBut _ _ Z.Oz Gm);refine wpAny_bind (wpAny_seqItems Kq rfl (wpAny_bind (wpAny_updateSeq_pair Kq λg3 Lo k3=>wpAny_bind (wpAny_letGo (wpAny_pure ?_)))))
 replace Lo:IsPair g3 TO x b:=Lo
 refine wpAny_bind (wpAny_bind (wpAny_onRaise ?_));show wpAny _ _ (Builtin.SmallTypes.nextOf (.ref i2) >>= _) _ _ _;refine wpAny_bind (D2.item i _ _ _ l2 (D2.frame i _ _ t2 λb hb o e=>k3.extBut b o (nz Z.O2 b hb) (k2.extBut b o (nz Z.a2 b hb) (k1.extBut b o (nz Z.z2 b hb) e))) λy g4 Tf py u2 k4=>wpAny_pure ?_);have OX:IsPair g4 TO x b:=k4.extBut _ _ Z.Ob Lo;refine wpAny_bind (wpAny_seqItems OX rfl (wpAny_bind (wpAny_updateSeq_pair OX λg5 Lp k5=>wpAny_bind (wpAny_letGo (wpAny_pure (wpAny_pure ?_))))))
 replace Lp:IsPair g5 TO x y:=Lp
 refine wpAny_bind (wpAny_seqItems Lp rfl (wpAny_bind (wpAny_newTuple ?_)));have hsz:g5.objs.size=s.heap.objs.size:=by rw[k5.1,k4.1,k3.1,k2.1,k1.1]
 have OY:IsZip g5 z TI TO .ellipsis:=k5.extBut _ _ Z.Oz.symm (k4.extBut _ _ Z.bz.symm (k3.extBut _ _ Z.Oz.symm (k2.extBut _ _ Z.az.symm HH)));have kk:∀c o,c≠z->c≠TO->c≠i1->c≠i2->s.heap.get? c=some o->g5.get? c=some o:=λc o c1 c2 c3 c4 e =>
  k5.extBut _ _ c2 (k4.extBut _ _ c4 (k3.extBut _ _ c2 (k2.extBut _ _ c3 (k1.extBut _ _ c1 e))))
 have v1:S1 (i+1) g5:=D1.frame _ _ _ u1 λb hb o e=>k5.extBut b o (nz Z.O1 b hb) (k4.extBut b o (nz Z.b1 b hb) (k3.extBut b o (nz Z.O1 b hb) e));have v2:S2 (i+1) g5:=D2.frame _ _ _ u2 λb hb o e=>k5.extBut b o (nz Z.O2 b hb) e;have OZ:z<g5.objs.size:=Heap.lt_size OY;show wpAny _ _ (Builtin.SmallTypes.ownedTupleHandOut (.ref z) (.ref g5.objs.size) >>= _) _ _ _;refine wpAny_bind ?_;unfold Builtin.SmallTypes.ownedTupleHandOut;have Rh:IsZip (g5.push {cls:=.type "tuple",data:=.seq #[x,y]}) z TI TO .ellipsis:=Heap.get?_push_of_some _ OY;refine wpAny_bind (wpAny_setField_rec Rh (by simp) λg7 M1 k7=>?_)
 replace M1:IsZip g7 z TI TO (rawInt g5.objs.size):=M1
 refine wpAny_setField_rec M1 (by simp) λg8 Lq k8=>?_
 replace Lq:IsZip g8 z TI TO (rawInt g5.objs.size):=Lq
 have up:∀c o,c≠z->g5.get? c=some o->g8.get? c=some o:=λc o c1 e=>k8.extBut _ _ c1 (k7.extBut _ _ c1 (Heap.get?_push_of_some _ e));have O0:IsPair g8 g5.objs.size x y:=k8.extBut _ _ (Nat.ne_of_gt OZ) (k7.extBut _ _ (Nat.ne_of_gt OZ) (Heap.get?_push_size _ rfl));rw[hsz]at Lq O0;refine wpAny_pure ⟨_,rfl,?_⟩;show wpAny _ _ (pure (some (Value.ref g5.objs.size))) _ _ _;rw[hsz];exact wpAny_pure (hQ x y g8 _ px py Lq (up _ _ Z.Oz Lp) (D1.frame _ _ _ v1 λb hb o e=>up b o (nz Z.z1 b hb) e) (D2.frame _ _ _ v2 λb hb o e=>up b o (nz Z.z2 b hb) e) O0 λc o c1 c2 c3 c4 e=>up c o c1 (kk c o c1 c2 c3 c4 e))
theorem u6(hh:A.handled=none)(D1:Draws prog w A.in1 i1 f1 n1 P1 S1)(D2:Draws prog w A.in1 i2 f2 n2 P2 S2)(Z:Kp z TI TO i1 i2 f1 f2)(hz:IsZip s.heap z TI TO .none)(F8:IsPair s.heap TI (.ref i1) (.ref i2))(Gm:IsPair s.heap TO a b)
  (t1:S1 i s.heap) (t2:S2 i s.heap) (he:y4 prog w A.in1 i1 (S1 i)\/i<n1/\y4 prog w A.in1 i2 (S2 i))
  (hQ:∀h' tk,(∀c o,c≠z->c≠TO->c≠i1->c≠i2->s.heap.get? c=some o->h'.get? c=some o)->Q none {s with heap:=h',toks:=tk}):wpAny (model prog w) A (pyNext (.ref z)) Q E s:=by
 have hT:s.TypeIs (.ref z) "zip":=⟨_,hz,rfl⟩
 have nz:∀{f:List Addr} {c:Addr},c∉f->∀b∈f,b≠c:=λhc b hb e=>hc (e▸hb);unfold pyNext;refine wpAny_bind (wpAny_attempt (wpAny_callSpecial?_slot (name:=Str.ofString "__next__") hT PySem.F.slot_zip_next (wpAny_call_entry PySem.F.slot_zip_next hT PySem.F.entry_zip_next ?_ (PySem.F.args_zip_next_1 _))));show wpAny _ _ (field (.ref z) 2 >>= _) _ _ _;refine wpAny_bind (wpAny_field hz rfl (x:=.bool false) rfl ?_);show wpAny _ _ (field (.ref z) 3 >>= _) _ _ _;refine wpAny_bind (wpAny_field hz rfl (x:=.ref TI) rfl (wpAny_bind (wpAny_seqItems F8 rfl ?_)));show wpAny _ _ (Builtin.SmallTypes.ownedTupleIsFree (.ref z) >>= _) _ _ _;refine wpAny_bind ?_;unfold Builtin.SmallTypes.ownedTupleIsFree;refine wpAny_bind (wpAny_field hz rfl (x:=.none) rfl (wpAny_pure ?_));simp only[if_true];refine wpAny_bind (wpAny_rule (wpAny_bind (wpAny_field hz rfl (x:=.ref TO) rfl (wpAny_bind (wpAny_setField_rec hz (by simp) λg1 HH k1=>wpAny_bind ?_)))))
 replace HH:IsZip g1 z TI TO .ellipsis:=HH
 simp only[List.zipIdx_cons,List.zipIdx_nil,List.forIn_cons,List.forIn_nil];refine wpAny_bind (wpAny_bind (wpAny_onRaise ?_));show wpAny _ _ (Builtin.SmallTypes.nextOf (.ref i1) >>= _) _ _ _;have O3:=D1.frame i _ _ t1 λb hb o e=>k1.extBut b o (nz Z.z1 b hb) e;rcases he with e1|⟨l1,e2⟩
 ·refine wpAny_bind (e1 _ _ _ O3 λg2 e k2 ⟨oe,IH,Kr⟩=>?_);have Ls:IsZip g2 z TI TO .ellipsis:=k2 _ _ Z.az.symm HH;have M3:e≠z:=λx=>by subst x;rw[Ls]at IH;cases IH;simp at Kr
  refine wpAny_setField_rec Ls (by simp) λg3 _ k3=>?_;refine wpAny_bind (wpAny_isInstance (T:="StopIteration") (b:=true) ⟨oe,k3.extBut _ _ M3 IH,Kr⟩ isSubtype_stop ?_);exact wpAny_pure (hQ _ _ λc o c1 _ c3 _ x=>k3.extBut _ _ c1 (k2 _ _ c3 (k1.extBut _ _ c1 x)))
 ·refine wpAny_bind (D1.item i _ _ _ l1 O3 λx g2 MK px u1 k2=>wpAny_pure ?_);have Kq:IsPair g2 TO a b:=k2.extBut _ _ Z.Oa (k1.extBut _ _ Z.Oz Gm);refine wpAny_bind (wpAny_seqItems Kq rfl (wpAny_bind (wpAny_updateSeq_pair Kq λg3 Lo k3=>wpAny_bind (wpAny_letGo (wpAny_pure ?_)))));refine wpAny_bind (wpAny_bind (wpAny_onRaise ?_));show wpAny _ _ (Builtin.SmallTypes.nextOf (.ref i2) >>= _) _ _ _;refine wpAny_bind (e2 _ _ _ (D2.frame i _ _ t2 λb hb o e=>k3.extBut b o (nz Z.O2 b hb) (k2.extBut b o (nz Z.a2 b hb) (k1.extBut b o (nz Z.z2 b hb) e))) λg4 e k4 ⟨oe,IH,Kr⟩=>?_);have O4:IsZip g4 z TI TO .ellipsis:=k4 _ _ Z.bz.symm (k3.extBut _ _ Z.Oz.symm (k2.extBut _ _ Z.az.symm HH));have M3:e≠z:=λx=>by subst x;rw[O4]at IH;cases IH;simp at Kr
  refine wpAny_setField_rec O4 (by simp) λg5 _ k5=>?_;refine wpAny_bind (wpAny_isInstance (T:="StopIteration") (b:=true) ⟨oe,k5.extBut _ _ M3 IH,Kr⟩ isSubtype_stop ?_);exact wpAny_pure (hQ _ _ λc o c1 c2 c3 c4 x=>k5.extBut _ _ c1 (k4 _ _ c4 (k3.extBut _ _ c2 (k2.extBut _ _ c3 (k1.extBut _ _ c1 x)))))
end
noncomputable def M4(SA SB:Hp->List V->Prop):It :=
 ⟨λi H=>∃xs ys x y,SA H xs/\SB H ys/\xs[i]?=some x/\ys[i]?=some y,λi H v H'=>∃p,H p=none/\v=.ref p/\∀xs ys x y,SA H xs->SB H ys->xs[i]?=some x->ys[i]?=some y->H'=upd H p (.tup [x,y]),λi H=>∃xs ys,SA H xs/\SB H ys/\(xs.length<=i\/i<xs.length/\ys.length<=i)⟩
section
theorem u7{K:PySem.W.Frag}{a b z TI TO i1 i2:Addr}(Z:Kp z TI TO i1 i2 [i1,a] [i2,b])(O5:a≠i1)(MG:b≠i2):Turn P w K (.Tuple es kx ps) (M4 (λH xs=>D7 K H a xs) λH ys=>D3 K H b ys) [z,TI,TO,i1,i2] z
  (λi h=>IsZip h z TI TO .none/\IsPair h TI (.ref i1) (.ref i2)/\(∃u v,IsPair h TO u v)/\h.IsListIter i1 a i/\h.IsTupleIter i2 b i) where
 mem:=by simp
 obj:=λi h ⟨hz,F8,⟨u,v,Gm⟩,⟨o1,FG,_,M5⟩,⟨o2,HI,_,hd2⟩⟩ c hc=>by
  simp only[List.mem_cons,List.not_mem_nil,or_false]at hc;rcases hc with rfl|rfl|rfl|rfl|rfl
  ·exact⟨_,hz,λv e=>by cases e⟩
  ·exact⟨_,F8,λv e=>by cases e⟩
  ·exact⟨_,Gm,λv e=>by cases e⟩
  ·exact⟨_,FG,λv e=>by rw[M5]at e;cases e⟩
  ·exact⟨_,HI,λv e=>by rw[hd2]at e;cases e⟩
 keep:=λi h h' ⟨hz,F8,⟨u,v,Gm⟩,h1,h2⟩ k=>⟨k z (by simp) _ hz,k TI (by simp) _ F8,⟨u,v,k TO (by simp) _ Gm⟩,h1.at λo e=>k i1 (by simp) o e,h2.at λo e=>k i2 (by simp) o e⟩
 item:=by
  intro Y hP hw hK hc i pins s σ H E I hf ⟨hz,F8,⟨u,v,Gm⟩,h1,h2⟩ ⟨xs,ys,x,y,HJ,G7,hx,hy⟩;rw[<-hK]at HJ G7;obtain⟨II,r1,p1,_⟩:=I.list HJ;obtain⟨IJ,r2,p2,_⟩:=I.tuple G7;obtain⟨x0,HK,rx⟩:=r1.get hx;obtain⟨y0,Lu,ry⟩:=r2.get hy;have l1:i<II.toArray.size:=by simpa using(List.getElem?_eq_some_iff.mp HK).1
  have l2:i<IJ.toArray.size:=by simpa using(List.getElem?_eq_some_iff.mp Lu).1
  have hA:Y.A.handled=none:=I.ok.hd hc;subst hP hw;refine u5 (Draws.list (A:=Y.A.in1) hA i1 a O5 II.toArray) (eN (A:=Y.A.in1) hA i2 b MG IJ.toArray) Z hz F8 Gm ⟨h1,p1.isList⟩ ⟨h2,p2⟩ l1 l2 λx1 y1 g tk px py HF M6 t1 t2 hT k=>?_;have ex:x1=x0:=by
   have:II.toArray[i]?=some x0:=by simpa using HK
   rw[this]at px;cases px;rfl
  have ey:y1=y0:=by
   have:IJ.toArray[i]?=some y0:=by simpa using Lu
   rw[this]at py;cases py;rfl
  subst ex ey;refine⟨_,rfl,wpAny_letOwnedTupleGo_zip (s:={s with heap:=g,toks:=tk}) HF λg2 Ls Ep=>?_⟩;have lt:∀{c:Addr} {o:Obj},s.heap.get? c=some o->c≠s.heap.objs.size:=λe=>Nat.ne_of_lt (Heap.lt_size e);have M7:IsPair g TI (.ref i1) (.ref i2):=k _ _ Z.Iz Z.IO Z.Ia Z.Ib F8;have Km:g2.get? s.heap.objs.size=some {cls:=.type "tuple",data:=.seq #[x1,y1]}:=(Ep.2 _ (lt hz).symm).trans hT;have k2:∀c o,c∉[z,TI,TO,i1,i2]->s.heap.get? c=some o->g2.get? c=some o:=λc o hc e=>by
   simp only[List.mem_cons,List.not_mem_nil,or_false,not_or]at hc;exact(Ep.2 c hc.1).trans (k c o hc.1 hc.2.2.1 hc.2.2.2.1 hc.2.2.2.2 e)
  have I2:Inv Y pins σ (upd H s.heap.objs.size (.tup [x,y])) {s with heap:=g2,toks:=tk}:=I.fU hf k2 (Nat.le_refl _)
   (show bp Y.prog Y.w _ g2 _ (.tup [x,y]) from⟨by show 2<=sizeLine;decide,[x1,y1],.cons rx (.cons ry .nil),⟨_,Km,rfl,_,rfl⟩⟩)
  refine⟨.ref s.heap.objs.size,_,I2,rfl,⟨_,I.DE.fresh (Nat.le_refl _),rfl,λTg E3 x' y' a1 a2 a3 a4=>?_⟩,⟨Ls,(Ep.2 _ Z.Iz).trans M7,⟨_,_,(Ep.2 _ Z.Oz).trans M6⟩,t1.1.at λo e=>(Ep.2 _ Z.az).trans e,t2.1.at λo e=>(Ep.2 _ Z.bz).trans e⟩,λc hc=>?_⟩
  ·rw[<-hK]at a1 a2;have:=I.gb a1 HJ;subst this;have:=I.dG a2 G7;subst this;rw[hx]at a3;rw[hy]at a4;cases a3;cases a4;rfl
  ·have Ej:c≠s.heap.objs.size:=by
    simp only[List.mem_cons,List.not_mem_nil,or_false]at hc;rcases hc with rfl|rfl|rfl|rfl|rfl
    ·exact lt hz
    ·exact lt F8
    ·exact lt Gm
    ·obtain⟨o,e,_⟩:=h1;exact lt e
    ·obtain⟨o,e,_⟩:=h2;exact lt e
   rw[aj Ej];exact(hf c hc).1
 done:=by
  intro Y hP hw hK hc i pins s σ H E I hf ⟨hz,F8,⟨u,v,Gm⟩,h1,h2⟩ ⟨xs,ys,HJ,G7,F6⟩;rw[<-hK]at HJ G7;obtain⟨II,r1,p1,_⟩:=I.list HJ;obtain⟨IJ,r2,p2,_⟩:=I.tuple G7;have e1:=r1.length;have e2:=r2.length;have hA:Y.A.handled=none:=I.ok.hd hc;subst hP hw;refine u6 hA (Draws.list (A:=Y.A.in1) hA i1 a O5 II.toArray) (eN (A:=Y.A.in1) hA i2 b MG IJ.toArray) Z hz F8 Gm ⟨h1,p1.isList⟩ ⟨h2,p2⟩ ?_ λg tk k=>?_
  ·rcases F6 with h|⟨h,h'⟩
   ·exact .inl λs Q E st hE=>wpAny_nextOf_list_end hA st.1 st.2 (by simp;omega) hE
   ·exact .inr ⟨by simp;omega,λs Q E st hE=>cJ hA st.1 st.2 (by simp;omega) hE⟩
  ·exact⟨rfl,I.jd (t':=tk) (ch:=[z,TI,TO,i1,i2]) hf λc o hc e=>by
    simp only[List.mem_cons,List.not_mem_nil,or_false,not_or]at hc;exact k c o hc.1 hc.2.2.1 hc.2.2.2.1 hc.2.2.2.2 e⟩
 self:=λA i s Q E ⟨hz,_⟩ h=>wpAny_pyIter_zip hz h
theorem boot_zip:bootBuiltins "zip"=some (.type "zip"):=by decide +kernel
def Dk(K:PySem.W.Frag)(ta:TA):TI:=λσ H R=>ta σ H λvs H1=>∃a b,vs=[.ref a,.ref b]/\(∃xs,D7 K H1 a xs)/\(∃ys,D3 K H1 b ys)/\R (M4 (λH xs=>D7 K H a xs) λH ys=>D3 K H b ys) H1
theorem xG(l1 l2:Addr)(xs ys:Array Value):
  Meets (Builtin.«zip.__new__» ⟨[.type "zip",.ref l1,.ref l2],[]⟩) (λ_ R s=>s.heap.IsList l1 xs/\s.heap.IsTuple l2 ys /\
   R (.ok (.ret (.ref (s.heap.objs.size+4)))) {s with heap:=((((s.heap.push {cls:=.type "list_iterator",data:=.fields #[.ref l1,.int 0 0]}).push {cls:=.type "tuple_iterator",data:=.fields #[.ref l2,.int 0 0]}).push {cls:=.type "tuple",data:=.seq #[.ref s.heap.objs.size,.ref (s.heap.objs.size+1)]}).push {cls:=.type "tuple",data:=.seq #[.none,.none]}).push {cls:=.type "zip",data:=.fields #[.none,.bool false,.bool false,.ref (s.heap.objs.size+2),.ref (s.heap.objs.size+3)]}}) :=
 .of_wp λprog w A R s h=>by
  obtain⟨hp,g,d,tk,os⟩:=s;obtain⟨Gj,GH,h⟩:=h;have EO:=sub_zip;have Ri:Heap.IsList (Shared.heap ⟨hp,g,d,tk,os⟩) l1 xs:=Gj;have Rj:Heap.IsTuple (Shared.heap ⟨hp.push {cls:=.type "list_iterator",data:=.fields #[.ref l1,.int 0 0]},g,d,tk,os⟩) l2 ys:=let ⟨o,ho,r⟩:=GH;⟨o,Heap.get?_push_of_some _ ho,r⟩
  wp_walk using wpAny_pyIter_list Ri,wpAny_pyIter_tuple Rj
  simp only[Heap.size_push];exact⟨_,rfl,h⟩
theorem fi{c x y:Nat}(h1:x<c\/c<x)(h2:y<c):c∉[x,y]:=λh=>by
 rcases List.mem_cons.mp h with e|h
 ·omega
 ·have:=List.mem_singleton.mp h;omega
theorem xH{n l1 l2:Nat}(h1:l1<n)(h2:l2<n):Kp (n+4) (n+2) (n+3) n (n+1) [n,l1] [n+1,l2] :=
 ⟨Nat.ne_of_lt (by omega),Nat.ne_of_lt (by omega),Nat.ne_of_lt (by omega),Nat.ne_of_lt (by omega),Nat.ne_of_lt (by omega),Nat.ne_of_gt (by omega),Nat.ne_of_gt (by omega),Nat.ne_of_gt (by omega),Nat.ne_of_gt (by omega),Nat.ne_of_lt (by omega),
  fi (by omega) (by omega),fi (by omega) (by omega),fi (by omega) (by omega),fi (by omega) (by omega),fi (by omega) (by omega),fi (by omega) (by omega)⟩
theorem xI(h:b∈[n+4,n+2,n+3,n,n+1]):n<=b:=by
 simp only[List.mem_cons,List.not_mem_nil,or_false]at h;omega
theorem Ah(hg:Gl X "zip")(hm:X.mg "zip"=none)(ha:PA X [a,b] ta)(he:starEach (a::[b]) X.env=(false,eval a X.env)::starEach [b] X.env)(Eg:(backTo pos (starEach [b] X.env)).any (·.1)=false):PI X (.Tuple es kx ps) (.Call (.Name "zip" p) [a,b] [] pos) (Dk X.K ta):=by
 intro pins s σ H R I h;refine Call_ (cF I hg hm boot_zip (PyProof.Rows.callWith_type1 (DG (ha pos pins s σ H _ I h) λus s1 ⟨vs,H1,I1,r1,q1⟩=>?_) he Eg));obtain⟨l1,l2,rfl,⟨xs,HJ⟩,⟨ys,G7⟩,q⟩:=q1;obtain⟨u1,u2,rfl,e1,e2⟩:=vals2 r1;cases e1;cases e2;obtain⟨II,v1,p1,_⟩:=I1.list HJ;obtain⟨IJ,v2,p2,_⟩:=I1.tuple G7;have n1:l1<s1.heap.objs.size:=let ⟨o,ho,_⟩:=p1.isList;Heap.lt_size ho;have n2:l2<s1.heap.objs.size:=let ⟨o,ho,_⟩:=p2;Heap.lt_size ho;refine callType_new PySem.F.called_zip (by decide) (PySem.F.typeCall_zip_2 _ _) (PySem.F.newCall_zip_2 _ _) (λobj=>PySem.F.args_object_init_3 obj _ _) PySem.F.entry_zip_new (xG l1 l2 II.toArray IJ.toArray) ⟨p1.isList,p2,?_⟩;generalize Ju:((((s1.heap.push {cls:=.type "list_iterator",data:=.fields #[.ref l1,.int 0 0]}).push {cls:=.type "tuple_iterator",data:=.fields #[.ref l2,.int 0 0]}).push {cls:=.type "tuple",data:=.seq #[.ref s1.heap.objs.size,.ref (s1.heap.objs.size+1)]}).push {cls:=.type "tuple",data:=.seq #[.none,.none]}).push {cls:=.type "zip",data:=.fields #[.none,.bool false,.bool false,.ref (s1.heap.objs.size+2),.ref (s1.heap.objs.size+3)]}=g;have sz:∀(h:Heap) (o:Obj),(h.push o).objs.size=h.objs.size+1:=λh o=>size_push' ..;have at_:∀(h:Heap) (o:Obj) (n:Nat),h.objs.size=n->o.isFreed=false->(h.push o).get? n=some o:=λh o n e f=>by subst e;exact Heap.get?_push_size _ f
 have g5:IsZip g (s1.heap.objs.size+4) (s1.heap.objs.size+2) (s1.heap.objs.size+3) .none:=by subst Ju;exact at_ _ _ _ (by simp[sz]) rfl
 have g4:IsPair g (s1.heap.objs.size+3) .none .none:=by subst Ju;exact Heap.get?_push_of_some _ (at_ _ _ _ (by simp[sz]) rfl)
 have g3:IsPair g (s1.heap.objs.size+2) (.ref s1.heap.objs.size) (.ref (s1.heap.objs.size+1)):=by subst Ju;exact Heap.get?_push_of_some _ (Heap.get?_push_of_some _ (at_ _ _ _ (by simp[sz]) rfl))
 have g2:g.IsTupleIter (s1.heap.objs.size+1) l2 0:=by subst Ju;exact⟨_,Heap.get?_push_of_some _ (Heap.get?_push_of_some _ (Heap.get?_push_of_some _ (at_ _ _ _ (by simp[sz]) rfl))),rfl,rfl⟩
 have g1:g.IsListIter s1.heap.objs.size l1 0:=by subst Ju;exact⟨_,Heap.get?_push_of_some _ (Heap.get?_push_of_some _ (Heap.get?_push_of_some _ (Heap.get?_push_of_some _ (at_ _ _ _ rfl rfl)))),rfl,rfl⟩
 have kk:∀c o,s1.heap.get? c=some o->g.get? c=some o:=λc o e=>by subst Ju;exact Heap.get?_push_of_some _ (Heap.get?_push_of_some _ (Heap.get?_push_of_some _ (Heap.get?_push_of_some _ (Heap.get?_push_of_some _ e))))
 have Z:Kp (s1.heap.objs.size+4) (s1.heap.objs.size+2) (s1.heap.objs.size+3) s1.heap.objs.size (s1.heap.objs.size+1) [s1.heap.objs.size,l1] [s1.heap.objs.size+1,l2]:=xH n1 n2;refine⟨⟨_,g5,rfl⟩,wpAny_pyIter_zip g5 ⟨_,[s1.heap.objs.size+4,s1.heap.objs.size+2,s1.heap.objs.size+3,s1.heap.objs.size,s1.heap.objs.size+1],_,_,H1,rfl,I1.kept (t':=s1.toks) kk,u7 Z (Nat.ne_of_lt n1) (Nat.ne_of_lt (Nat.lt_succ_of_lt n2)),⟨g5,g3,⟨_,_,g4⟩,g1,g2⟩,λb hb=>?_,q⟩⟩;have EM:s1.heap.objs.size<=b:=xI hb;exact I1.sv EM (I1.DE.fresh EM)
end
end L2
namespace L2
open PySem PySem.W PyProof.Rows
section
theorem Inv.freeze(I:Inv X pins σ H s)(hr:H r=some (.dK kvs))(ho:s.heap.get? r=some o):Inv X pins σ (upd H r (.EJ o (.dK kvs))) s:=by
 have nr:∀b u,H b=some u->u≠.dK kvs->b≠r:=λb u e n z=>by subst z;rw[hr]at e;cases e;exact n rfl
 exact I.write (t':=s.toks) (x:=r) (e:=r) (by rw[hr];trivial) (.inl rfl) (λb u _ q=>q) ⟨o,ho⟩ ⟨ho,(I.DE r _ hr).fL (λ_ _ _ q=>q) (λb q=>by rw[aj (nr b _ q (λz=>by cases z))];exact q) λb xs q=>by rw[aj (nr b _ q (λz=>by cases z))];exact q⟩
theorem Ai(h:PE X e te):PE X e (λσ H Q=>∃r kvs,H r=some (.dK kvs)/\∀o,te σ (upd H r (.EJ o (.dK kvs))) Q):=by
 intro pins s σ H Q I ⟨r,kvs,hr,h1⟩;obtain⟨_,_,vs,_,o,es,ep,ho,_⟩:=(show bp X.prog X.w H s.heap r (.dK kvs) from I.DE r _ hr)
 exact h pins s σ _ Q (I.freeze hr ho) (h1 o)
end
noncomputable def M8(r:Addr)(o:Obj)(kvs:List (Key×V)):It :=
 ⟨λi H=>H r=some (.EJ o (.dK kvs))/\i<kvs.length,λi H x H'=>∃p,H p=none/\x=.ref p/\∀k v,kvs[i]?=some (k,v)->H'=upd H p (.tup [kV k,v]),λi H=>H r=some (.EJ o (.dK kvs))/\kvs.length<=i⟩
theorem Aj(h:(aM P w).is k u=true):RelV (kV k) u:=by
 rcases bh (show jj k u=true from h) with⟨i,t,rfl,rfl⟩|⟨y,t,rfl,rfl⟩
 ·exact⟨t,rfl⟩
 ·exact⟨t,rfl⟩
theorem y6:∀{kvs:List (Key×V)}{vs:List (Key×Value)},KV kvs vs->∀(i:Nat) (h:i<kvs.length) (h':i<vs.length),kvs[i].1=vs[i].1/\RelV kvs[i].2 vs[i].2
 |_,_,.cons a _,0,_,_=>a
 |_,_,.cons _ b,i+1,h,h'=>y6 b i (by simpa using h) (by simpa using h')
theorem p8{K:PySem.W.Frag}(Lv:o.data=.dict en ep):
  Turn P w K (.Tuple es kx ps) (M8 r o kvs) [it] it (λi h=>∃ok ov,IsItemIter h it r i kvs.length ep ok ov) where
 mem:=by simp
 obj:=λi h ⟨ok,ov,st⟩ b hb=>by
  rw[List.mem_singleton.mp hb];exact⟨_,st,λv z=>by
    have z':Data.fields _=Data.cell v:=z;cases z'⟩
 keep:=λi h h' ⟨ok,ov,st⟩ k=>⟨ok,ov,k it (by simp) _ st⟩
 item:=by
  intro X hP hw hK hc i pins s σ H E I hf ⟨ok,ov,st⟩ hg;subst hP hw;obtain⟨hr,hi⟩:=hg;obtain⟨ho,z1,z2,vs,kv,o',Rk,Gy,En,hx,E7,EB⟩:=(show bp X.prog X.w H s.heap r (.EJ o (.dK kvs)) from I.DE r _ hr)
  rw[ho]at En;cases En;rw[Lv]at E7;cases E7;have hl:vs.length=kvs.length:=(Paired.length kv).symm;have hm:s.heap.DictAt (aM X.prog X.w) r vs ep:=⟨o,en,ho,hx,Lv,EB⟩
  obtain⟨q,hq,e1,e2⟩:∃q,vs[i]?=some q/\kvs[i].1=q.1/\RelV kvs[i].2 q.2:=by
   have E4:i<vs.length:=by omega
   refine⟨vs[i],by simp[E4],?_⟩;exact y6 kv i hi E4
  rw[<-hl]at st;refine wpAny_pyNext_items_item st hm (k:=q.1) (v:=q.2) hq λkey h1 hk hit hT hsz M9=>⟨_,rfl,wpAny_letOwnedTupleGo_items (s:={s with heap:=h1}) hit λh2 Ln Ep=>?_⟩
  have DW:it<s.heap.objs.size:=Heap.lt_size st;have Km:h2.get? s.heap.objs.size=some {cls:=.type "tuple",data:=.seq #[key,q.2]}:=(Ep.2 _ (Nat.ne_of_gt DW)).trans hT;have k2:∀b o,b∉[it]->s.heap.get? b=some o->h2.get? b=some o:=λb o hb q=>by
   have EM:b≠it:=λz=>hb (by simp[z]);exact(Ep.2 b EM).trans (M9 b o EM q)
  have I2:Inv X pins σ (upd H s.heap.objs.size (.tup [kV kvs[i].1,kvs[i].2])) {s with heap:=h2,toks:=s.toks}:=I.fU hf k2 (Nat.le_refl _)
   (show bp X.prog X.w _ h2 _ (.tup [kV kvs[i].1,kvs[i].2]) from⟨by show 2<=sizeLine;decide,[key,q.2],.cons (by rw[e1];exact Aj hk) (.cons e2 .nil),⟨_,Km,rfl,_,rfl⟩⟩)
  refine⟨.ref s.heap.objs.size,_,I2,rfl,⟨_,I.DE.fresh (Nat.le_refl _),rfl,λk v Lw=>?_⟩,⟨_,_,by rw[hl]at Ln;exact Ln⟩,λb hb=>?_⟩
  ·rw[List.getElem?_eq_getElem hi]at Lw;rw[Option.some.inj Lw]
  ·have EM:b≠s.heap.objs.size:=by rw[List.mem_singleton.mp hb];exact Nat.ne_of_lt DW
   rw[aj EM];exact(hf b hb).1
 done:=by
  intro X hP hw hK hc i pins s σ H E I hf ⟨ok,ov,st⟩ hg;subst hP hw;obtain⟨hr,hi⟩:=hg;obtain⟨ho,z1,z2,vs,kv,o',Rk,Gy,En,hx,E7,EB⟩:=(show bp X.prog X.w H s.heap r (.EJ o (.dK kvs)) from I.DE r _ hr)
  rw[ho]at En;cases En;rw[Lv]at E7;cases E7;have hl:vs.length=kvs.length:=(Paired.length kv).symm;have hm:s.heap.DictAt (aM X.prog X.w) r vs ep:=⟨o,en,ho,hx,Lv,EB⟩
  rw[<-hl]at st;exact wpAny_pyNext_items_end (by simpa using I.ok.hd hc) st hm (List.getElem?_eq_none (by omega)) λh' JX=>⟨rfl,I.jd (t':=s.toks) hf λb o hb q=>JX b o (λz=>hb (by simp[z])) q⟩
 self:=λA i s Q E ⟨ok,ov,st⟩ h=>kcp_self st h
section
def Dl(i:Nat):TI:=λσ H R=>∃r o kvs,σ[i]?=some (some (.ref r))/\H r=some (.EJ o (.dK kvs))/\R (M8 r o kvs) H
theorem u9(hN:X.N[i]?=some x)(hv:Fm X.env.scope x)(hd:(x==("__debug__":Str))=false)(Ed:(x==("__classdict__":Str))=false)(D4:(apos.endLine==Dx.line)=true):
  PI X (.Tuple es kx ps) (.Call (.Attribute (.Name x px) "items" apos) [] [] Dx) (Dl i):=by
 intro pins s σ H R I ⟨r,o,kvs,hs,hr,hR⟩;refine wpAny_Call_method0_late rfl D4 (DG (cn hN hv hd Ed pins s σ H (λv H1=>v=.ref r/\H1=H) I ⟨_,hs,rfl,rfl⟩) λv s1 ⟨x1,H1,I1,r1,z1,z2⟩=>?_);subst z1 z2;cases(show v=Value.ref r from r1);obtain⟨ho,z1,lo,vs,kv,o',en,ep,En,hx,E7,EB⟩:=(show bp X.prog X.w H1 s1.heap r (.EJ o (.dK kvs)) from I1.DE r _ hr)
 rw[ho]at En;cases En;have hl:vs.length=kvs.length:=(Paired.length kv).symm;have hm:s1.heap.DictAt (aM X.prog X.w) r vs ep:=⟨o,en,ho,hx,E7,EB⟩
 have hT:s1.TypeIs (.ref r) "dict":=⟨o,ho,hx.1⟩
 refine⟨"dict","dict.items",PySem.F.plainAttrs_dict,PySem.F.slot_dict_items,PySem.F.type_dict_items,hT,λa e=>⟨o,by cases e;exact ho,hx.2.1⟩,Calls.callWith_builtin rfl (PySem.evalArgs_none (call_meetsIn PySem.F.slot_dict_items hT PySem.F.entry_dict_items (PySem.F.args_dict_items_1 _) (meets_dict_items (aM X.prog X.w) r lo) ⟨⟨vs,o,en,ep,ho,hx,E7,EB⟩,?_⟩))⟩;have k1:∀b u,s1.heap.get? b=some u->(s1.heap.push {cls:=.type "dict_items",data:=.fields #[.ref r]}).get? b=some u:=λb u z=>Heap.get?_push_of_some _ z;have EF:(s1.heap.push {cls:=.type "dict_items",data:=.fields #[.ref r]}).DictAt (aM X.prog X.w) r vs ep:=⟨o,en,k1 _ _ ho,hx,E7,EB⟩
 refine wpAny_pyIter_items (s:={s1 with heap:=s1.heap.push {cls:=.type "dict_items",data:=.fields #[.ref r]}}) ⟨_,Heap.get?_push_size _ rfl,rfl,rfl⟩ EF ?_;have hsz:(s1.heap.push {cls:=.type "dict_items",data:=.fields #[.ref r]}).objs.size=s1.heap.objs.size+1:=size_push' ..;have I2:=I1.kept (t':=s1.toks) (h':=(s1.heap.push {cls:=.type "dict_items",data:=.fields #[.ref r]}).push {cls:=.type "dict_itemiterator",data:=.fields #[.none,.bool false,.ref r,.int 0 0,.int vs.length 0,.int ep 0,.none,.none]}) λb u z=>Heap.get?_push_of_some _ (k1 b u z);refine⟨_,[_],_,_,H1,rfl,I2,p8 (kvs:=kvs) E7,⟨.none,.none,by rw[<-hl];exact Heap.get?_push_size _ rfl⟩,λb hb=>?_,hR⟩;rw[List.mem_singleton.mp hb];have O6:s1.heap.objs.size<=(s1.heap.push {cls:=.type "dict_items",data:=.fields #[.ref r]}).objs.size:=by rw[hsz];exact Nat.le_succ _
 exact I1.sv O6 (I1.DE.fresh O6)
end
end L2
namespace L2
open PySem PySem.Spec PyProof.Rows PySem.SeqAt
open PySem.AutoSeq1 (wpAny_loadPart')
open PySem.MeetsSeq PySem.MeetsSeq2 PySem.MeetsSeq3
section
theorem u_(xs:Array Value):((List.range xs.size).filterMap λ(m:Nat)=>xs[((xs.size:Int) - 1+(m:Int) * -1).toNat]?).toArray=xs.toList.reverse.toArray:=by
 congr 1
 apply List.ext_getElem?;intro i;have e:(List.range xs.size).filterMap (λ(m:Nat)=>xs[((xs.size:Int) - 1+(m:Int) * -1).toNat]?)=(List.range xs.size).map λm=>xs.toList.reverse.getD m .none:=by
  have:∀l:List Nat,(∀m∈l,m<xs.size)->l.filterMap (λ(m:Nat)=>xs[((xs.size:Int) - 1+(m:Int) * -1).toNat]?)=l.map λm=>xs.toList.reverse.getD m .none:=λl hl=>by
   induction l with
   |nil=>rfl
   |cons a l ih =>
    have ha:=hl a (by simp);have e1:((xs.size:Int) - 1+(a:Int) * -1).toNat=xs.size - 1 - a:=by omega
    have e2:xs[xs.size - 1 - a]?=some (xs.toList.reverse.getD a .none):=by
     rw[List.getD_eq_getElem?_getD,List.getElem?_reverse (by simpa using ha),Array.length_toList,Array.getElem?_toList,Array.getElem?_eq_getElem (show xs.size - 1 - a<xs.size by omega)];rfl
    rw[List.filterMap_cons,e1,e2,List.map_cons,ih λm hm=>hl m (by simp[hm])]
  exact this _ λm hm=>List.mem_range.mp hm
 rw[e,List.getElem?_map];by_cases hi:i<xs.size
 ·rw[List.getElem?_range hi,Option.map_some,List.getD_eq_getElem?_getD,List.getElem?_eq_getElem (by simpa using hi)];rfl
 ·rw[List.getElem?_eq_none (by simp;omega),List.getElem?_eq_none (by simp;omega)];rfl
theorem gA(ht:IsTup s.heap t items)(hs:s.heap.IsSliceOf sl .none .none (.int (-1) tk))
  (h:Q (.ref s.heap.objs.size) {s with heap:=s.heap.push {cls:=.type "tuple",data:=.seq items.toList.reverse.toArray}}) (hsz:items.size<=sizeLine):wpAny (model prog w) A (getItem (.ref t) (.ref sl)) Q E s:=by
 have FW:sizeOk (.seq items.toList.reverse.toArray):=by
  show items.toList.reverse.toArray.size<=sizeLine;rw[List.size_toArray,List.length_reverse,Array.length_toList];exact hsz
 obtain⟨os,Hy,Rm,M_⟩:=id hs;have Rn:s.TypeIs (.ref sl) "slice":=⟨os,Hy,Rm⟩
 unfold getItem
 try with_reducible refine wpAny_holding ?_
 first|refine wpAny_bind (wpAny_pure ?_)|skip
 refine wpAny_bind (wpAny_sequenceKey ht.typeIs (by decide) ?_);refine wpAny_bind (wpAny_callSpecial?_slot (name:=Str.ofString "__getitem__") ht.typeIs PyProof.Rows.slot_tuple_getitem
  (wpAny_call_entry PyProof.Rows.slot_tuple_getitem ht.typeIs entry_tuple_getitem ?_ (args_tuple_getitem _ _)))
 show wpAny _ _ (Builtin.Tuple.tupleItemsOf (.ref t) >>= _) _ _ s;refine wpAny_bind (tupleItemsOf_ ht ?_);refine wpAny_bind (wpAny_typeOf Rn ?_);rw[if_pos (by decide)];refine wpAny_bind ?_;unfold Builtin.Slice.sliceApplied Builtin.Slice.sliceFields;refine wpAny_bind (wpAny_bind (wpAny_field Hy M_ (x:=.none) rfl (wpAny_bind (wpAny_field Hy M_ (x:=.none) rfl (wpAny_bind (wpAny_field Hy M_ (x:=.int (-1) tk) rfl (wpAny_pure ?_)))))));refine wpAny_bind (slicePart_int ?_);show wpAny _ _ (if ((-1:Int)==0)=true then _ else _) _ _ s;rw[if_neg (by decide)];refine wpAny_bind (slicePart_none (wpAny_bind (slicePart_none (wpAny_bind (wpAny_pure ?_)))));have Eg:Builtin.Slice.slicePlaces ((items.size:Int) - 1) (-1) (-1)=items.size:=by
  unfold Builtin.Slice.slicePlaces;simp only[show ¬((-1:Int)>0) by omega,if_false,show(- (-1:Int))=1 from rfl,Int.ediv_one];split<;>omega
 show wpAny _ _ (pure ((items.size:Int) - 1,(-1:Int),Builtin.Slice.slicePlaces ((items.size:Int) - 1) (-1) (-1))) _ _ s;rw[Eg];refine wpAny_pure ?_;show wpAny _ _ (if ((items.size:Int) - 1==0&&(-1:Int)==1&&items.size==items.size)=true then _ else _) _ _ s;rw[if_neg (by simp),u_]
 first
  |exact wpAny_bind (m:=Builtin.Tuple.tupleExact _) (wpAny_newObj_type (wpAny_pure ⟨_,rfl,wpAny_pure h⟩) FW)
  |exact wpAny_bind (m:=Builtin.Tuple.tupleExact _) (wpAny_newObj_type (wpAny_bind (wpAny_pure (wpAny_pure ⟨_,rfl,wpAny_pure h⟩))) FW)
  |exact wpAny_bind (wpAny_bind (m:=Builtin.Tuple.tupleExact _) (wpAny_newObj_type (wpAny_pure (wpAny_pure ⟨_,rfl,wpAny_pure h⟩)) FW))
  |exact wpAny_bind (wpAny_bind (m:=Builtin.Tuple.tupleExact _) (wpAny_newObj_type (wpAny_pure ⟨_,rfl,wpAny_pure h⟩) FW))
end
section
def Dm(K:PySem.W.Frag)(te:TE):TE:=λσ H Q=>te σ H λx H1=>∃a xs,x=.ref a/\D3 K H1 a xs/\∀p,H1 p=none->Q (.ref p) (upd H1 p (.tup xs.reverse))
theorem vb:∀{xs:List V}{us:List Value},Vals xs us->Vals xs.reverse us.reverse:=λ{xs us} h=>by
 induction h with
 |nil=>exact .nil
 |cons r _ ih =>
  rw[List.reverse_cons,List.reverse_cons];exact ih.append (.cons r .nil)
theorem Ak(he:PE X e te):PE X (.Subscript e (.Slice none none (some (.UnaryOp .USub (.Constant (.int 1) kx p1) p3)) p2) pos) (Dm X.K te):=by
 intro pins s σ H Q I h;refine Subscript_ (DG (he pins s σ H _ I h) λv s1 ⟨x,H1,I1,r1,q1⟩=>?_);obtain⟨a,xs,rfl,hx,q⟩:=q1;cases r1;refine wpAny_Slice ?_;rw[evalPart_none,evalPart_some];refine wpAny_pure (wpAny_pure ?_);refine DG (BA zM pH pins s1 σ H1 (λv H2=>v=.int (-1)/\H2=H1) I1 ⟨1,rfl,rfl,rfl⟩) λu s2 ⟨x2,H2,I2,r2,z1,z2⟩=>?_;subst z1 z2;obtain⟨tk,rfl⟩:=r2;obtain⟨A',r,ht,hz⟩:=I2.tuple hx;have k1:∀b ob,s2.heap.get? b=some ob->(s2.heap.push {cls:=.type "slice",data:=.fields #[Value.none,Value.none,.int (-1) tk]}).get? b=some ob:=λb ob q=>Heap.get?_push_of_some _ q;have I4:Inv X pins σ H2 {s2 with heap:=s2.heap.push {cls:=.type "slice",data:=.fields #[Value.none,Value.none,.int (-1) tk]}}:=I2.kept (t':=s2.toks) k1;obtain⟨its',r',O7,HF⟩:=I4.tuple hx;have hlen:its'.toArray.size=xs.length:=by rw[List.size_toArray];exact r'.length.symm
 refine tail_any (ops:=[.ref a,.ref s2.heap.objs.size]) O7.typeIs PyProof.Rows.slot_tuple_getitem.lookup (gA O7 (Heap.IsSliceOf.new ..) ?_ (by rw[hlen];exact HF)) (by with_unfolding_all rfl);refine⟨.ref _,_,I4.laid (t':=s2.toks) (o:=.tup xs.reverse) (λb ob q=>Heap.get?_push_of_some _ q) (Nat.le_refl _) ⟨by rw[List.length_reverse];exact HF,its'.reverse,vb r',⟨_,Heap.get?_push_size _ rfl,rfl,_,rfl⟩⟩,rfl,q _ (I4.DE.fresh (Nat.le_refl _))⟩
end
end L2
namespace TM
open PySem L2
inductive U where
 |DF|bl (b:Bool)|int (i:Int)|str (x:Str)
 |tup (xs:List U)|lst (xs:List U)
 |Dy (ks:List Str) (vs:List U)|DV (ks:List kN)
mutual
noncomputable def D9:U->Bool
 |.tup xs=>gB xs
 |.lst _=>false
 |.Dy _ _=>false
 |.DV _=>false
 |.DF=>true|.bl _=>true|.int _=>true|.str _=>true
noncomputable def gB:List U->Bool
 |[]=>true
 |u::us=>D9 u&&gB us
end
inductive Kd where|own|io|loc|any|bor (j:Nat)|Dw
deriving DecidableEq
noncomputable def Kd.root:Kd->Bool
 |.own=>true
 |.io=>true
 |_=>false
abbrev au:=List (Option (Kd×U))
structure Ct where
 P:Program
 w:World
 K:PySem.W.Frag
 H₀:Hp
 GL:Addr->Prop
 IO:Addr->Prop
def KL(K:PySem.W.Frag)(a:Addr)(xs:List V):Prop :=
 ∃(o:Obj) (A':Array Value) (n:Nat),K.lookup a=some o/\o.cls=.type "list"/\o.dict=none/\o.data=.seq A' n/\A'.size<=sizeLine/\Vals xs A'.toList
def Hk(K:PySem.W.Frag)(S:Addr->Prop)(H:Hp)(a:Addr)(vs:List V):Prop:=(S a/\Rd H a (.lst vs))\/KL K a vs
theorem Hk.sq(h:Hk K S H a vs):D7 K H a vs:=h.elim (λz=>.inl z.2) .inr
def HL(H:Hp)(R:List V->Prop)(a:Addr)(ks:List Str):Prop:=∃kvs:List (Key×V),H a=some (.dK kvs)/\kvs.map (·.1)=ks.map Sum.inr/\R (kvs.map (·.2))
section
variable(C:Ct)(S:Addr->Prop)(H:Hp)
mutual
def Rep:U->V->Prop
 |.DF,v=>v=.DF
 |.bl b,v=>v=.bl b
 |.int i,v=>v=.int i
 |.str x,v=>v=.str x
 |.tup us,v=>∃a vs,v=.ref a/\D3 C.K H a vs/\ai us vs
 |.lst us,v=>∃a vs,v=.ref a/\Hk C.K S H a vs/\ai us vs
 |.Dy ks us,v=>∃a,v=.ref a/\S a/\HL H (ai us) a ks
 |.DV ks,v=>∃a,v=.ref a/\S a/\eh C.P C.w C.K H a ks
def ai:List U->List V->Prop
 |[],vs=>vs=[]
 |u::us,vs=>∃v r,vs=v::r/\Rep u v/\ai us r
end
end
def Tp:HO->Prop
 |.tup _=>True
 |.EJ _ (.tup _)=>True
 |_=>False
structure Mv(S:Addr->Prop)(H:Hp)(S':Addr->Prop)(H':Hp):Prop where
 sub:∀a,S a->S' a
 Ks:∀a o,H a=some o->Tp o->H' a=some o
 Lx:∀a o,S a->H a=some o->H' a=some o
theorem Mv.M'(m:Mv S H S' H')(h:D3 K H a vs):D3 K H' a vs:=by
 rcases h with(h|⟨o,h⟩)|h
 ·exact .inl (.inl (m.Ks a _ h trivial))
 ·exact .inl (.inr ⟨o,m.Ks a _ h trivial⟩)
 ·exact .inr h
theorem Mv.Ro(m:Mv S H S' H')(h:Hk K S H a vs):Hk K S' H' a vs:=by
 rcases h with⟨s,h|⟨o,h⟩⟩|h
 ·exact .inl ⟨m.sub a s,.inl (m.Lx a _ s h)⟩
 ·exact .inl ⟨m.sub a s,.inr ⟨o,m.Lx a _ s h⟩⟩
 ·exact .inr h
theorem Mv.row(m:Mv S H S' H')(h:eI K H v r):eI K H' v r :=
 let ⟨a,b,e,h1,h2⟩:=h;⟨a,b,e,m.M' h1,m.M' h2⟩
theorem HL.mv(ha:∀o,H a=some o->H' a=some o)(hR:∀vs,R vs->R' vs)(h:HL H R a ks):HL H' R' a ks :=
 let ⟨kvs,h1,h2,h3⟩:=h;⟨kvs,ha _ h1,h2,hR _ h3⟩
theorem Mv.rp(m:Mv S H S' H')(ha:∀o,H a=some o->H' a=some o)(h:eh P w K H a ks):eh P w K H' a ks :=
 let ⟨xs,h1,h2,h3⟩:=h;⟨xs,ha _ h1,h2,λx hx=>m.row (h3 x hx)⟩
section
mutual
theorem Rep.HM(m:Mv S H S' H'):∀(u:U) (v:V),Rep C S H u v->Rep C S' H' u v
 |.DF,_,h=>h
 |.bl _,_,h=>h
 |.int _,_,h=>h
 |.str _,_,h=>h
 |.tup us,v,h=>by
  obtain⟨a,vs,e,h1,h2⟩:=h;exact⟨a,vs,e,m.M' h1,ai.HM m us vs h2⟩
 |.lst us,v,h=>by
  obtain⟨a,vs,e,h1,h2⟩:=h;exact⟨a,vs,e,m.Ro h1,ai.HM m us vs h2⟩
 |.Dy ks us,v,h=>by
  obtain⟨a,e,h1,h2⟩:=h;exact⟨a,e,m.sub a h1,h2.mv (λo q=>m.Lx a o h1 q) λvs q=>ai.HM m us vs q⟩
 |.DV ks,v,h=>by
  obtain⟨a,e,h1,h2⟩:=h;exact⟨a,e,m.sub a h1,m.rp (λo q=>m.Lx a o h1 q) h2⟩
theorem ai.HM(m:Mv S H S' H'):∀(us:List U) (vs:List V),ai C S H us vs->ai C S' H' us vs
 |[],_,h=>h
 |u::us,vs,h=>by
  obtain⟨v,r,e,h1,h2⟩:=h;exact⟨v,r,e,Rep.HM m u v h1,ai.HM m us r h2⟩
end
mutual
theorem Rep.s9:∀(u:U) (v:V),D9 u=true->Rep C S H u v->Rep C S' H u v
 |.DF,_,_,h=>h
 |.bl _,_,_,h=>h
 |.int _,_,_,h=>h
 |.str _,_,_,h=>h
 |.tup us,v,i,h=>by
  obtain⟨a,vs,e,h1,h2⟩:=h;exact⟨a,vs,e,h1,ai.s9 us vs (by simpa[TM.D9] using i) h2⟩
 |.lst us,v,i,h=>by simp[TM.D9]at i
 |.Dy ks us,v,i,h=>by simp[TM.D9]at i
 |.DV ks,v,i,h=>by simp[TM.D9]at i
theorem ai.s9:∀(us:List U) (vs:List V),gB us=true->ai C S H us vs->ai C S' H us vs
 |[],_,_,h=>h
 |u::us,vs,i,h=>by
  obtain⟨v,r,e,h1,h2⟩:=h;have i':TM.D9 u=true/\gB us=true:=by simpa[gB] using i
  exact⟨v,r,e,Rep.s9 u v i'.1 h1,ai.s9 us r i'.2 h2⟩
end
theorem Rep.mv(m:Mv S H S' H')(h:Rep C S H u v):Rep C S' H' u v:=Rep.HM m u v h
theorem ai.mv(m:Mv S H S' H')(h:ai C S H us vs):ai C S' H' us vs:=ai.HM m us vs h
theorem Rep.D9(i:TM.D9 u=true)(h:Rep C S H u v):Rep C S' H u v:=Rep.s9 u v i h
theorem ai.D9(i:gB us=true)(h:ai C S H us vs):ai C S' H us vs:=ai.s9 us vs i h
theorem Mv.up(sub:∀a,S a->S' a):Mv S H S' H:=⟨sub,λ_ _ h _=>h,λ_ _ _ h=>h⟩
theorem ai.len:∀{us:List U}{vs:List V},ai C S H us vs->us.length=vs.length
 |[],_,h=>by cases h;rfl
 |u::us,vs,h=>by
  obtain⟨v,r,rfl,_,h2⟩:=h;rw[List.length_cons,List.length_cons,ai.len h2]
theorem ai.get:∀{us:List U}{vs:List V}{i:Nat}{u:U},ai C S H us vs->us[i]?=some u->∃v,vs[i]?=some v/\Rep C S H u v
 |[],_,_,_,_,e=>by simp at e
 |u::us,vs,0,w,h,e=>by
  obtain⟨v,r,rfl,h1,_⟩:=h;simp at e;subst e;exact⟨v,rfl,h1⟩
 |u::us,vs,i+1,w,h,e=>by
  obtain⟨v,r,rfl,_,h2⟩:=h;obtain⟨v',e',h'⟩:=ai.get (i:=i) (u:=w) h2 (by simpa using e);exact⟨v',by simpa using e',h'⟩
theorem ai.append:∀{us ws:List U}{vs ys:List V},ai C S H us vs->ai C S H ws ys->ai C S H (us++ws) (vs++ys)
 |[],_,_,_,h,h'=>by cases h;exact h'
 |u::us,ws,vs,ys,h,h'=>by
  obtain⟨v,r,rfl,h1,h2⟩:=h;exact⟨v,r++ys,rfl,h1,h2.append h'⟩
theorem ai.set:∀{us:List U}{vs:List V} (n:Nat) {u:U}{v:V},ai C S H us vs->Rep C S H u v->ai C S H (us.set n u) (vs.set n v)
 |[],_,n,_,_,h,_=>by cases h;simp[ai]
 |u::us,vs,0,_,_,h,h'=>by
  obtain⟨v,r,rfl,h1,h2⟩:=h;exact⟨_,r,rfl,h',h2⟩
 |u::us,vs,n+1,_,_,h,h'=>by
  obtain⟨v,r,rfl,h1,h2⟩:=h;exact⟨v,_,rfl,h1,h2.set n h'⟩
theorem ai.snoc(h:ai C S H us vs)(h':Rep C S H u v):ai C S H (us++[u]) (vs++[v]):=h.append ⟨v,[],rfl,h',rfl⟩
theorem ai.strs:∀{xs:List Str}{vs:List V},ai C S H (xs.map .str) vs↔vs=xs.map V.str
 |[],vs=>by simp[ai]
 |x::xs,vs=>by
  constructor
  ·rintro⟨v,r,rfl,h1,h2⟩;rw[ai.strs.mp h2];have:v=.str x:=h1;rw[this];rfl
  ·rintro rfl;exact⟨_,_,rfl,rfl,ai.strs.mpr rfl⟩
end
structure Ct.Eqv(C C':Ct):Prop where
 P:C.P=C'.P
 w:C.w=C'.w
 K:C.K=C'.K
section
mutual
theorem Rep.HN(q:C.Eqv C'):∀(u:U) (v:V),Rep C S H u v->Rep C' S H u v
 |.DF,_,h=>h
 |.bl _,_,h=>h
 |.int _,_,h=>h
 |.str _,_,h=>h
 |.tup us,v,h=>by
  obtain⟨a,vs,e,h1,h2⟩:=h;exact⟨a,vs,e,q.K▸h1,ai.HN q us vs h2⟩
 |.lst us,v,h=>by
  obtain⟨a,vs,e,h1,h2⟩:=h;exact⟨a,vs,e,q.K▸h1,ai.HN q us vs h2⟩
 |.Dy ks us,v,h=>by
  obtain⟨a,e,h1,h2⟩:=h;exact⟨a,e,h1,h2.mv (λ_ q=>q) λvs z=>ai.HN q us vs z⟩
 |.DV ks,v,h=>by
  obtain⟨a,e,h1,h2⟩:=h;exact⟨a,e,h1,by rw[<-q.P,<-q.w,<-q.K];exact h2⟩
theorem ai.HN(q:C.Eqv C'):∀(us:List U) (vs:List V),ai C S H us vs->ai C' S H us vs
 |[],_,h=>h
 |u::us,vs,h=>by
  obtain⟨v,r,e,h1,h2⟩:=h;exact⟨v,r,e,Rep.HN q u v h1,ai.HN q us r h2⟩
end
theorem Rep.cg(q:C.Eqv C')(h:Rep C S H u v):Rep C' S H u v:=Rep.HN q u v h
theorem ai.cg(q:C.Eqv C')(h:ai C S H us vs):ai C' S H us vs:=ai.HN q us vs h
end
def dg(C:Ct)(S:Addr->Prop)(H:Hp)(r:Addr):U->Prop
 |.lst us=>∃vs,H r=some (.lst vs)/\ai C S H us vs
 |.Dy ks us=>HL H (ai C S H us) r ks
 |.DV ks=>eh C.P C.w C.K H r ks
 |_=>False
theorem dg.mv(m:Mv S H S' H')(hr:∀o,H r=some o->H' r=some o)(h:dg C S H r u):dg C S' H' r u:=by
 cases u with
 |lst us=>obtain⟨vs,h1,h2⟩:=h;exact⟨vs,hr _ h1,h2.mv m⟩
 |Dy ks us=>exact HL.mv hr (λvs q=>q.mv m) h
 |DV ks=>exact m.rp hr h
 |DF=>exact h
 |bl _=>exact h
 |int _=>exact h
 |str _=>exact h
 |tup _=>exact h
theorem dg.rep(hs:∀a,S a->S' a)(hr:S' r)(h:dg C S H r u):Rep C S' H u (.ref r):=by
 cases u with
 |lst us=>obtain⟨vs,h1,h2⟩:=h;exact⟨r,vs,rfl,.inl ⟨hr,.inl h1⟩,h2.mv (.up hs)⟩
 |Dy ks us=>exact⟨r,rfl,hr,HL.mv (λ_ q=>q) (λvs q=>q.mv (.up hs)) h⟩
 |DV ks=>exact⟨r,rfl,hr,h⟩
 |DF=>exact h.elim
 |bl _=>exact h.elim
 |int _=>exact h.elim
 |str _=>exact h.elim
 |tup _=>exact h.elim
theorem dg.cg(q:C.Eqv C')(h:dg C S H r u):dg C' S H r u:=by
 cases u with
 |lst us=>obtain⟨vs,h1,h2⟩:=h;exact⟨vs,h1,h2.cg q⟩
 |Dy ks us=>exact HL.mv (λ_ q=>q) (λvs z=>z.cg q) h
 |DV ks=>show eh _ _ _ _ _ _;rw[<-q.P,<-q.w,<-q.K];exact h
 |DF=>exact h
 |bl _=>exact h
 |int _=>exact h
 |str _=>exact h
 |tup _=>exact h
theorem dg.some(h:dg C S H r u):∃o,H r=some o/\¬Tp o:=by
 cases u with
 |lst us=>obtain⟨vs,h1,_⟩:=h;exact⟨_,h1,λz=>z⟩
 |Dy ks us=>obtain⟨kvs,h1,_⟩:=h;exact⟨_,h1,λz=>z⟩
 |DV ks=>obtain⟨xs,h1,_⟩:=h;exact⟨_,h1,λz=>z⟩
 |DF=>exact h.elim
 |bl _=>exact h.elim
 |int _=>exact h.elim
 |str _=>exact h.elim
 |tup _=>exact h.elim
structure Cf where
 S:Addr->Prop
 H:Hp
 σ:St
 st:au
 kid:Nat->List Addr
def Cf.R1(c:Cf)(a:Addr):Prop:=∃(j:Nat) (k:Kd) (u:U),k.root=true/\c.st[j]?=some (some (k,u))/\c.σ[j]?=some (some (.ref a))
def Cf.RD(c:Cf)(j:Nat)(a:Addr):Prop:=∃(u:U) (r:Addr),c.st[j]?=some (some (.Dw,u))/\c.σ[j]?=some (some (.ref r))/\(a=r\/a∈c.kid j)
def Cf.R(c:Cf)(a:Addr):Prop:=c.R1 a\/∃j,c.RD j a
def PS(C:Ct)(S:Addr->Prop):Addr->Prop:=λa=>C.GL a\/S a
def eQ(C:Ct)(S:Addr->Prop)(H:Hp):Kd->U->V->Prop
 |.own,u,v=>∃r,v=.ref r/\¬S r/\¬C.GL r/\C.H₀ r=none/\dg C S H r u
 |.io,u,v=>∃r,v=.ref r/\¬S r/\¬C.GL r/\C.IO r/\dg C S H r u
 |.loc,u,v=>Rep C S H u v
 |.any,u,v=>Rep C (PS C S) H u v
 |.bor _,_,_=>False
 |.Dw,_,v=>∃r,v=.ref r
def cQ(C:Ct)(S:Addr->Prop)(H:Hp):List U->List Addr->Prop
 |[],as=>as=[]
 |u::us,as=>∃a as' ys vs,as=a::as'/\u=.lst ys/\H a=some (.lst vs)/\ai C S H ys vs/\cQ C S H us as'
def bU(C:Ct)(S:Addr->Prop)(H:Hp)(r:Addr)(as:List Addr):U->Prop
 |.Dy ks us=>∃kvs:List (Key×V),H r=some (.dK kvs)/\kvs.map (·.1)=ks.map Sum.inr/\kvs.map (·.2)=as.map V.ref/\(r::as).Nodup/\(∀a∈r::as,¬S a/\¬C.GL a/\C.H₀ a=none)/\cQ C S H us as
 |_=>False
structure Gn(C:Ct)(c:Cf):Prop where
 kd:∀(j:Nat) (u:U) (r:Addr),c.st[j]?=some (some (.Dw,u))->c.σ[j]?=some (some (.ref r))->bU C c.S c.H r (c.kid j) u
 dj:∀(i j:Nat) (a:Addr),c.RD i a->c.RD j a->i=j
 d1:∀(j:Nat) (a:Addr),c.RD j a->¬c.R1 a
structure Ok(C:Ct)(c:Cf):Prop where
 same:∀a o,C.H₀ a=some o->¬C.IO a->c.H a=some o
 Fp:∀a,c.S a->C.H₀ a=none/\∃o,c.H a=some o
 par:∀a,C.GL a->(∃o,C.H₀ a=some o)/\¬C.IO a
 io:∀a,C.IO a->(∃o,C.H₀ a=some o)/\∃o,c.H a=some o
 len:c.st.length=c.σ.length
 sl:∀(i:Nat) (k:Kd) (u:U),c.st[i]?=some (some (k,u))->∃v,c.σ[i]?=some (some v)/\eQ C c.S c.H k u v
 inj:∀(i j:Nat) (k k':Kd) (u u':U) (r:Addr),k.root=true->k'.root=true->c.st[i]?=some (some (k,u))->c.st[j]?=some (some (k',u'))->c.σ[i]?=some (some (.ref r))->c.σ[j]?=some (some (.ref r))->i=j
 dd:Gn C c
structure Ns(c c':Cf):Prop where
 keep:∀a o,c.H a=some o->¬c.R a->c'.H a=some o
 there:∀a o,c.H a=some o->∃o',c'.H a=some o'
 roots:∀a,c'.R a->c.R a\/c.H a=none
 sub:∀a,c.S a->c'.S a
 new:∀a,c'.S a->c.S a\/c.R a\/c.H a=none
section
theorem Ns.refl(c:Cf):Ns c c:=⟨λ_ _ h _=>h,λ_ o h=>⟨o,h⟩,λ_ h=>.inl h,λ_ h=>h,λ_ h=>.inl h⟩
theorem Ns.none(n:Ns c c')(h:c'.H a=.none):c.H a=.none:=by
 cases e:c.H a with
 |none=>rfl
 |some o=>obtain⟨o',q⟩:=n.there a o e;rw[h]at q;cases q
theorem Ns.trans(m:Ns c c')(n:Ns c' Gp):Ns c Gp where
 keep:=λa o h hr=>by
  refine n.keep a o (m.keep a o h hr) λz=>?_;rcases m.roots a z with z|z
  ·exact hr z
  ·rw[h]at z;cases z
 there:=λa o h=>let ⟨o',h'⟩:=m.there a o h;n.there a o' h'
 roots:=λa h=>by
  rcases n.roots a h with z|z
  ·exact m.roots a z
  ·exact .inr (m.none z)
 sub:=λa h=>n.sub a (m.sub a h)
 new:=λa h=>by
  rcases n.new a h with z|z|z
  ·exact m.new a z
  ·rcases m.roots a z with z|z
   ·exact .inr (.inl z)
   ·exact .inr (.inr z)
  ·exact .inr (.inr (m.none z))
theorem eQ.rt(hk:k.root=true)(h:eQ C S H k u v):∃r,v=.ref r/\¬S r/\¬C.GL r/\(C.H₀ r=none\/C.IO r)/\dg C S H r u:=by
 cases k with
 |own=>obtain⟨r,h1,h2,h3,h4,h5⟩:=h;exact⟨r,h1,h2,h3,.inl h4,h5⟩
 |io=>obtain⟨r,h1,h2,h3,h4,h5⟩:=h;exact⟨r,h1,h2,h3,.inr h4,h5⟩
 |_=>cases hk
theorem cQ.mem:∀{us:List U}{as:List Addr}{a:Addr},cQ C S H us as->a∈as->∃vs,H a=some (.lst vs)
 |[],as,a,h,ha=>by cases h;cases ha
 |u::us,as,a,h,ha=>by
  obtain⟨a',as',ys,vs,rfl,_,h1,_,h2⟩:=h;rcases List.mem_cons.mp ha with rfl|ha
  ·exact⟨vs,h1⟩
  ·exact cQ.mem h2 ha
theorem cQ.mv(m:Mv S H S' H'):∀{us:List U}{as:List Addr},(∀a∈as,∀o,H a=some o->H' a=some o)->cQ C S H us as->cQ C S' H' us as
 |[],as,_,h=>h
 |u::us,as,hf,h=>by
  obtain⟨a,as',ys,vs,rfl,e,h1,h2,h3⟩:=h;exact⟨a,as',ys,vs,rfl,e,hf a (by simp) _ h1,h2.mv m,cQ.mv m (λa ha=>hf a (by simp[ha])) h3⟩
theorem bU.fr(h:bU C S H r as u):∀a∈r::as,¬S a/\¬C.GL a/\C.H₀ a=none:=by
 cases u<;>first|exact h.elim|(obtain⟨kvs,_,_,_,_,h5,_⟩:=h;exact h5)
theorem bU.there(h:bU C S H r as u):∀a∈r::as,∃o,H a=some o/\¬Tp o:=by
 cases u<;>first|exact h.elim|skip
 obtain⟨kvs,h1,_,_,_,_,h6⟩:=h;intro a ha;rcases List.mem_cons.mp ha with rfl|ha
 ·exact⟨_,h1,λz=>z⟩
 ·obtain⟨vs,e⟩:=h6.mem ha;exact⟨_,e,λz=>z⟩
theorem bU.mv(m:Mv S H S' H')(hf:∀a∈r::as,¬S' a/\∀o,H a=some o->H' a=some o)(h:bU C S H r as u):bU C S' H' r as u:=by
 cases u<;>first|exact h.elim|skip
 obtain⟨kvs,h1,h2,h3,h4,h5,h6⟩:=h;exact⟨kvs,(hf r (by simp)).2 _ h1,h2,h3,h4,λa ha=>⟨(hf a ha).1,(h5 a ha).2⟩,h6.mv m λa ha=>(hf a (by simp[ha])).2⟩
theorem Gn.of(d:Gn C c)(hk:c'.kid=c.kid)(hD:∀(j:Nat) (u:U),c'.st[j]?=some (some (.Dw,u))->c.st[j]?=some (some (.Dw,u))/\c'.σ[j]?=c.σ[j]?)(h1:∀a,c'.R1 a->c.R1 a\/∀j,¬c.RD j a)
  (m:Mv c.S c.H c'.S c'.H) (hf:∀j a,c.RD j a->¬c'.S a/\∀o,c.H a=some o->c'.H a=some o):Gn C c':=by
 have back:∀j a,c'.RD j a->c.RD j a:=λj a DP=>by
  obtain⟨u,r,e1,e2,e3⟩:=DP;obtain⟨q1,q2⟩:=hD j u e1;rw[q2]at e2;rw[hk]at e3;exact⟨u,r,q1,e2,e3⟩
 refine⟨λj u r e1 e2=>?_,λi j a z1 z2=>d.dj i j a (back i a z1) (back j a z2),λj a z1 z2=>?_⟩
 ·obtain⟨q1,q2⟩:=hD j u e1;rw[q2]at e2;rw[hk];exact bU.mv m (λa ha=>hf j a ⟨u,r,q1,e2,List.mem_cons.mp ha⟩) (d.kd j u r q1 e2)
 ·rcases h1 a z2 with z|z
  ·exact d.d1 j a (back j a z1) z
  ·exact z j (back j a z1)
theorem Gn.hs(d:Gn C c)(m:Mv c.S c.H S' H')(hf:∀j a,c.RD j a->¬S' a/\∀o,c.H a=Option.some o->H' a=Option.some o):Gn C {c with H:=H',S:=S' } :=
 d.of rfl (λ_ _ e=>⟨e,rfl⟩) (λ_ z=>.inl z) m hf
theorem Ok.root(ok:Ok C c)(h:c.R r):¬c.S r/\¬C.GL r/\(C.H₀ r=none\/C.IO r)/\∃o,c.H r=some o/\¬Tp o:=by
 rcases h with⟨j,k,u,hk,h1,h2⟩|⟨j,u,r',h1,h2,h3⟩
 ·obtain⟨v,e,hs⟩:=ok.sl j _ _ h1;obtain⟨r',ev,h3,h4,h5,h6⟩:=hs.rt hk;rw[h2]at e;cases e;cases ev;exact⟨h3,h4,h5,h6.some⟩
 ·have hd:=ok.dd.kd j u r' h1 h2;obtain⟨q1,q2,q3⟩:=bU.fr hd r (List.mem_cons.mpr h3);exact⟨q1,q2,.inl q3,bU.there hd r (List.mem_cons.mpr h3)⟩
theorem Ok.mv(ok:Ok C c)(n:Ns c c'):Mv c.S c.H c'.S c'.H:=⟨n.sub,λa o h t=>n.keep a o h λz=>by
  obtain⟨_,_,_,o',h',nt⟩:=ok.root z;rw[h]at h';cases h';exact nt t,λa o s h=>n.keep a o h λz=>(ok.root z).1 s⟩
theorem Ok.G9(ok:Ok C c)(n:Ns c c'):Mv (PS C c.S) c.H (PS C c'.S) c'.H:=⟨λa h=>h.imp id (n.sub a),(ok.mv n).Ks,λa o s h=>n.keep a o h λz=>by
  rcases s with s|s
  ·exact(ok.root z).2.1 s
  ·exact(ok.root z).1 s⟩
theorem Ok.jO(ok:Ok C c)(h:c.H p=none):C.H₀ p=none/\¬c.S p/\¬C.GL p/\¬C.IO p/\¬c.R p:=by
 have Ly:¬C.IO p:=λz=>by obtain⟨_,o,q⟩:=ok.io p z;rw[h]at q;cases q
 have h0:C.H₀ p=none:=by
  cases e:C.H₀ p with
  |none=>rfl
  |some o=>have:=ok.same p o e Ly;rw[h]at this;cases this
 refine⟨h0,λz=>?_,λz=>?_,Ly,λz=>?_⟩
 ·obtain⟨_,o,q⟩:=ok.Fp p z;rw[h]at q;cases q
 ·obtain⟨⟨o,q⟩,_⟩:=ok.par p z;rw[h0]at q;cases q
 ·obtain⟨_,_,_,o,q,_⟩:=ok.root z;rw[h]at q;cases q
theorem eQ.mv(m:Mv S H S' H')(mp:Mv (PS C S) H (PS C S') H')(hr:k.root=true->∀r,v=.ref r->¬S' r/\∀o,H r=some o->H' r=some o)(h:eQ C S H k u v):eQ C S' H' k u v:=by
 cases k with
 |own =>
  obtain⟨r,e,h1,h2,h3,h4⟩:=h;obtain⟨q1,q2⟩:=hr rfl r e;exact⟨r,e,q1,h2,h3,h4.mv m q2⟩
 |io =>
  obtain⟨r,e,h1,h2,h3,h4⟩:=h;obtain⟨q1,q2⟩:=hr rfl r e;exact⟨r,e,q1,h2,h3,h4.mv m q2⟩
 |loc=>exact Rep.mv m h
 |any=>exact Rep.mv mp h
 |bor j=>exact h.elim
 |Dw=>exact h
structure Nx(c c':Cf):Prop extends Ns c c' where
 all:∀a o,c.H a=some o->c'.H a=some o
instance {c c':Cf}:Coe (Nx c c') (Ns c c'):=⟨Nx.toNs⟩
theorem Nx.refl(c:Cf):Nx c c:=⟨.refl c,λ_ _ h=>h⟩
theorem Nx.trans(m:Nx c c')(n:Nx c' Gp):Nx c Gp:=⟨m.toNs.trans n.toNs,λa o h=>n.all a o (m.all a o h)⟩
theorem Nx.none(n:Nx c c')(h:c'.H a=.none):c.H a=.none:=n.toNs.none h
theorem Ok.lay(ok:Ok C c)(h:c.H p=none):Ok C {c with H:=upd c.H p o}/\Nx c {c with H:=upd c.H p o}:=by
 have ne:∀{a:Addr} {o':HO},c.H a=some o'->a≠p:=λe z=>by subst z;rw[h]at e;cases e
 have kp:∀a o',c.H a=some o'->(upd c.H p o) a=some o':=λa o' e=>by rw[aj (ne e)];exact e
 have nx:Nx c {c with H:=upd c.H p o}:=⟨⟨λa o' e _=>kp a o' e,λa o' e=>⟨o',kp a o' e⟩,λa z=>.inl z,λ_ z=>z,λ_ z=>.inl z⟩,kp⟩
 refine⟨⟨λa o' e z=>kp a o' (ok.same a o' e z),λa z=>⟨(ok.Fp a z).1,let ⟨o',q⟩:=(ok.Fp a z).2;⟨o',kp a o' q⟩⟩,ok.par,λa z=>⟨(ok.io a z).1,let ⟨o',q⟩:=(ok.io a z).2;⟨o',kp a o' q⟩⟩,ok.len,λi k u e=>?_,ok.inj,ok.dd.hs (ok.mv nx.toNs) λj a z=>⟨(ok.root (.inr ⟨j,z⟩)).1,λo' e=>kp a o' e⟩⟩,nx⟩;obtain⟨v,e1,e2⟩:=ok.sl i k u e;refine⟨v,e1,e2.mv (ok.mv nx.toNs) (ok.G9 nx.toNs) λhk r er=>?_⟩;obtain⟨r',ER,q1,_⟩:=e2.rt hk;rw[er]at ER;cases ER;exact⟨q1,λo' e=>kp r o' e⟩
theorem Ok.grow(ok:Ok C c)(hs:zS c.H H')(hS:∀a,S' a->c.S a\/(c.H a=none/\∃o,H' a=some o))(GJ:∀a,c.S a->S' a):Ok C {c with H:=H',S:=S' }/\Nx c {c with H:=H',S:=S' }:=by
 have nx:Nx c {c with H:=H',S:=S' }:=⟨⟨λa o' e _=>hs a o' e,λa o' e=>⟨o',hs a o' e⟩,λa z=>.inl z,GJ,λa z=>(hS a z).imp id λq=>.inr q.1⟩,hs⟩
 refine⟨⟨λa o' e z=>hs a o' (ok.same a o' e z),λa z=>?_,ok.par,λa z=>⟨(ok.io a z).1,let ⟨o',q⟩:=(ok.io a z).2;⟨o',hs a o' q⟩⟩,ok.len,λi k u e=>?_,ok.inj,ok.dd.hs (ok.mv nx.toNs) λj a z=>⟨λz'=>?_,λo' e=>hs a o' e⟩⟩,nx⟩
 rotate_left 2
 ·obtain⟨q1,_,_,o,q4,_⟩:=ok.root (.inr ⟨j,z⟩);rcases hS a z' with z'|⟨z',_⟩
  ·exact q1 z'
  ·rw[q4]at z';cases z'
 ·rcases hS a z with q|⟨q1,q2⟩
  ·exact⟨(ok.Fp a q).1,let ⟨o',q⟩:=(ok.Fp a q).2;⟨o',hs a o' q⟩⟩
  ·exact⟨(ok.jO q1).1,q2⟩
 ·obtain⟨v,e1,e2⟩:=ok.sl i k u e;refine⟨v,e1,e2.mv (ok.mv nx.toNs) (ok.G9 nx.toNs) λhk r er=>?_⟩;obtain⟨r',ER,q1,q2,q3,q4⟩:=e2.rt hk;rw[er]at ER;cases ER;obtain⟨o,ho,_⟩:=q4.some;refine⟨λz=>?_,λo' e=>hs r o' e⟩;rcases hS r z with z|⟨z,_⟩
  ·exact q1 z
  ·rw[z]at ho;cases ho
def aE(C:Ct)(c0 c:Cf):Kd->U->V->Prop
 |.own,u,v=>∃r,v=.ref r/\c0.H r=none/\¬c.S r/\¬c.R r/\dg C c.S c.H r u
 |.loc,u,v=>Rep C c.S c.H u v
 |.any,u,v=>Rep C (PS C c.S) c.H u v
 |.bor j,u,v=>(∃k:Kd,k.root=true/\c.st[j]?=some (some (k,u)))/\c.σ[j]?=some (some v)
 |.io,_,_=>False
 |.Dw,_,_=>False
def eR(C:Ct)(c0 c:Cf):Kd->U->V->Prop
 |.own,u,v=>∃r,v=.ref r/\c0.H r=none/\¬c.S r/\¬c.R r/\dg C c.S c.H r u
 |.loc,u,v=>Rep C c.S c.H u v
 |.any,u,v=>Rep C (PS C c.S) c.H u v
 |.bor j,u,v=>c.σ[j]?=some (some v)
 |.io,_,_=>False
 |.Dw,_,_=>False
theorem aE.w(h:aE C c0 c k u v):eR C c0 c k u v:=by
 cases k with
 |own=>exact h
 |loc=>exact h
 |any=>exact h
 |bor j=>exact h.2
 |io=>exact h
 |Dw=>exact h
theorem eR.O8(ok:Ok C c)(n:Ns c c')(hσ:∀j,k=.bor j->c'.σ[j]?=c.σ[j]?)(h:eR C c0 c k u v):eR C c0 c' k u v:=by
 cases k with
 |own =>
  obtain⟨r,e,h1,h2,h3,h4⟩:=h;obtain⟨o,ho,_⟩:=h4.some;refine⟨r,e,h1,λz=>?_,λz=>?_,h4.mv (ok.mv n) λo q=>n.keep r o q h3⟩
  ·rcases n.new r z with z|z|z
   ·exact h2 z
   ·exact h3 z
   ·rw[z]at ho;cases ho
  ·rcases n.roots r z with z|z
   ·exact h3 z
   ·rw[z]at ho;cases ho
 |loc=>exact Rep.mv (ok.mv n) h
 |any=>exact Rep.mv (ok.G9 n) h
 |bor j=>show c'.σ[j]?=_;rw[hσ j rfl];exact h
 |io=>exact h
 |Dw=>exact h
theorem eR.on(ok:Ok C c)(n:Ns c c')(hσ:c'.σ=c.σ)(h:eR C c0 c k u v):eR C c0 c' k u v:=h.O8 ok n λj _=>by rw[hσ]
theorem eR.from(n:Ns c0 c1)(h:eR C c1 c k u v):eR C c0 c k u v:=by
 cases k with
 |own=>obtain⟨r,e,h1,h2⟩:=h;exact⟨r,e,n.none h1,h2⟩
 |loc=>exact h
 |any=>exact h
 |bor j=>exact h
 |io=>exact h
 |Dw=>exact h
theorem aE.from(n:Ns c0 c1)(h:aE C c1 c k u v):aE C c0 c k u v:=by
 cases k with
 |own=>obtain⟨r,e,h1,h2⟩:=h;exact⟨r,e,n.none h1,h2⟩
 |loc=>exact h
 |any=>exact h
 |bor j=>exact h
 |io=>exact h
 |Dw=>exact h
def SK(C:Ct)(c:Cf):Kd->Addr->Prop
 |.any=>PS C c.S
 |_=>c.S
noncomputable def kE:Kd->Kd
 |.any=>.any
 |_=>.loc
theorem Ok.rootOf(ok:Ok C c){j:Nat}(h:∃k:Kd,k.root=true/\c.st[j]?=some (some (k,u)))(e:c.σ[j]?=some (some v)):∃r,v=.ref r/\¬c.S r/\¬C.GL r/\(C.H₀ r=none\/C.IO r)/\dg C c.S c.H r u:=by
 obtain⟨k,hk,h⟩:=h;obtain⟨v',e1,e2⟩:=ok.sl j _ _ h;rw[e]at e1;cases e1;exact e2.rt hk
theorem aE.list(ok:Ok C c)(h:aE C c0 c k (.lst us) v):∃a vs,v=.ref a/\D7 C.K c.H a vs/\ai C (SK C c k) c.H us vs:=by
 cases k with
 |own=>obtain⟨r,e,_,_,_,vs,h1,h2⟩:=h;exact⟨r,vs,e,D7.of h1,h2⟩
 |loc=>obtain⟨a,vs,e,h1,h2⟩:=h;exact⟨a,vs,e,h1.sq,h2⟩
 |any=>obtain⟨a,vs,e,h1,h2⟩:=h;exact⟨a,vs,e,h1.sq,h2⟩
 |bor j=>obtain⟨r,e,_,_,_,vs,h1,h2⟩:=ok.rootOf h.1 h.2;exact⟨r,vs,e,D7.of h1,h2⟩
 |io=>exact h.elim
 |Dw=>exact h.elim
theorem aE.tuple(ok:Ok C c)(h:aE C c0 c k (.tup us) v):∃a vs,v=.ref a/\D3 C.K c.H a vs/\ai C (SK C c k) c.H us vs:=by
 cases k with
 |own=>obtain⟨r,e,_,_,_,h⟩:=h;exact h.elim
 |loc=>obtain⟨a,vs,e,h1,h2⟩:=h;exact⟨a,vs,e,h1,h2⟩
 |any=>obtain⟨a,vs,e,h1,h2⟩:=h;exact⟨a,vs,e,h1,h2⟩
 |bor j=>obtain⟨r,e,_,_,_,h⟩:=ok.rootOf h.1 h.2;exact h.elim
 |io=>exact h.elim
 |Dw=>exact h.elim
theorem aE.flat(ok:Ok C c)(hu:D9 u=true)(h:aE C c0 c k u v):Rep C c.S c.H u v:=by
 cases k with
 |own=>obtain⟨r,e,_,_,_,h⟩:=h;cases u<;>simp[D9]at hu<;>exact h.elim
 |loc=>exact h
 |any=>exact Rep.D9 hu h
 |bor j=>obtain⟨r,e,_,_,_,h⟩:=ok.rootOf h.1 h.2;cases u<;>simp[D9]at hu<;>exact h.elim
 |io=>exact h.elim
 |Dw=>exact h.elim
theorem aE.int(ok:Ok C c)(h:aE C c0 c k (.int i) v):v=.int i:=h.flat ok rfl
theorem aE.str(ok:Ok C c)(h:aE C c0 c k (.str x) v):v=.str x:=h.flat ok rfl
theorem aE.bl(ok:Ok C c)(h:aE C c0 c k (.bl b) v):v=.bl b:=h.flat ok rfl
theorem aE.item(h:Rep C (SK C c k) c.H u v):aE C c0 c (kE k) u v:=by
 cases k<;>exact h
def Gq(H:Hp):Addr->Prop:=λa=>∃o,H a=some o
theorem Ok.xJ(ok:Ok C c):∀a,c.S a->Gq c.H a:=λa h=>(ok.Fp a h).2
theorem Ok.Dn(ok:Ok C c):∀a,PS C c.S a->Gq c.H a:=λa h=>by
 rcases h with h|h
 ·obtain⟨⟨o,e⟩,n⟩:=ok.par a h;exact⟨o,ok.same a o e n⟩
 ·exact ok.xJ a h
theorem aE.read(ok:Ok C c)(h:aE C c0 c k u v):Rep C (Gq c.H) c.H u v:=by
 cases k with
 |own =>
  obtain⟨r,e,_,_,_,h4⟩:=h;rw[e];obtain⟨o,ho,_⟩:=h4.some;exact h4.rep ok.xJ ⟨o,ho⟩
 |loc=>exact Rep.mv (.up ok.xJ) h
 |any=>exact Rep.mv (.up ok.Dn) h
 |bor j =>
  obtain⟨r,e,_,_,_,h4⟩:=ok.rootOf h.1 h.2;rw[e];obtain⟨o,ho,_⟩:=h4.some;exact h4.rep ok.xJ ⟨o,ho⟩
 |io=>exact h.elim
 |Dw=>exact h.elim
theorem Ok.newList(ok:Ok C c)(n:Nx c0 c)(h:c.H p=none)(hr:ai C c.S c.H us vs):
  Ok C {c with H:=upd c.H p (.lst vs)}/\Nx c0 {c with H:=upd c.H p (.lst vs)}/\aE C c0 {c with H:=upd c.H p (.lst vs)} .own (.lst us) (.ref p):=by
 obtain⟨DQ,n'⟩:=ok.lay (o:=.lst vs) h;obtain⟨h0,h1,h2,h3,h4⟩:=ok.jO h;exact⟨DQ,n.trans n',p,rfl,n.none h,h1,h4,vs,aq,hr.mv (ok.mv n'.toNs)⟩
theorem Ok.Al(ok:Ok C c)(n:Nx c0 c)(h:c.H p=none)(hr:ai C c.S c.H us vs):
  Ok C {c with H:=upd c.H p (.tup vs)}/\Nx c0 {c with H:=upd c.H p (.tup vs)}/\aE C c0 {c with H:=upd c.H p (.tup vs)} .loc (.tup us) (.ref p):=by
 obtain⟨DQ,n'⟩:=ok.lay (o:=.tup vs) h;exact⟨DQ,n.trans n',p,vs,rfl,D3.of aq,hr.mv (ok.mv n'.toNs)⟩
end
inductive Ex(α:Type) where|ok (a:α)|exc (c:Str)
noncomputable def M(α:Type):=au->Option (Ex α×au)
namespace M
def pure(a:α):M α:=λst=>some (.ok a,st)
def fail:M α:=λ_=>none
def bind(m:M α)(f:α->M β):M β:=λst=>match m st with
 |none=>none
 |some (.ok a,st')=>f a st'
 |some (.exc c,st')=>some (.exc c,st')
def DR(o:Option α):M α:=λst=>match o with
 |none=>none
 |some a=>some (.ok a,st)
end M
instance:Monad M:={pure:=M.pure,bind:=M.bind}
def W{α:Type}(m:M α)(st:au)(Q:α->au->Prop):Prop:=∃a st',m st=some (.ok a,st')/\Q a st'
section
theorem ah:W (pure a) st Q↔Q a st:=by
 constructor
 ·rintro⟨b,st',e,h⟩;cases e;exact h
 ·intro h;exact⟨a,st,rfl,h⟩
theorem ae:W (m >>= f) st Q↔W m st λa st'=>W (f a) st' Q:=by
 constructor
 ·rintro⟨b,st',e,h⟩;have e':M.bind m f st=some (.ok b,st'):=e;unfold M.bind at e';cases q:m st with
  |none=>rw[q]at e';cases e'
  |some r =>
   obtain⟨r,s1⟩:=r;rw[q]at e';cases r with
   |ok a=>exact⟨a,s1,q,b,st',e',h⟩
   |exc c=>cases e'
 ·rintro⟨a,s1,q,b,st',e,h⟩;refine⟨b,st',?_,h⟩;show M.bind m f st=_;unfold M.bind;rw[q];exact e
theorem bG:W (M.DR o) st Q↔∃a,o=some a/\Q a st:=by
 cases o with
 |none=>exact⟨λ⟨_,_,e,_⟩=>(by cases e),λ⟨_,e,_⟩=>(by cases e)⟩
 |some a=>exact⟨λ⟨_,_,e,h⟩=>(by cases e;exact⟨a,rfl,h⟩),λ⟨_,e,h⟩=>(by cases e;exact⟨a,st,rfl,h⟩)⟩
theorem aA:W (M.fail:M α) st Q↔False:=⟨λ⟨_,_,e,_⟩=>(by cases e),False.elim⟩
theorem W.mono(h:W m st Q)(i:∀a s,Q a s->Q' a s):W m st Q':=let ⟨a,s,e,q⟩:=h;⟨a,s,e,i a s q⟩
end
inductive Lz where|add|sub|mul|FJ|mod|pow
deriving DecidableEq
inductive Kt where|eq|ne|lt|le|gt|ge|isin|DA|is|Na
deriving DecidableEq
inductive Bf where|len|sorted|list|tuple|str|int|repr|max|min|all|any
deriving DecidableEq
inductive B2 where|Hl|Hm|sset|mz
deriving DecidableEq
inductive Mf where|split|join|partition|endswith
deriving DecidableEq
inductive F9 where|str|list|tuple|int|bool
deriving DecidableEq
inductive Ik where|seq|Ee|Rp|IK|zip|rev
deriving DecidableEq
inductive E where
 |var (i:Nat)
 |cst (u:U)
 |LA (x:Str) (u:U)
 |bin (op:Lz) (a b:E)
 |cmp (op:Kt) (a b:E)
 |GN (o1 o2:Kt) (a b c:E)
 |and (es:List E)|or (es:List E)|not (a:E)
 |ite (c a b:E)
 |tup (es:List E)|lst (es:List E)|E_ (r:Bool)
 |idx (a b:E)
 |HP (a:E) (lo hi:List E)
 |bi (f:Bf) (es:List E)
 |F_ (f:B2) (es:List E)
 |Gr (m:Mf) (a:E) (es:List E)
 |call (f:Str) (es:List E)
 |comp (k:Nat) (t:Bool) (ik:Ik) (src:List E) (cond:List E) (e:E)
 |neg (a:E)|bad|FX (a:E) (T:F9)|fst (es:List E)|inD (neg:Bool) (a:E) (i:Nat)|Jv (i:Nat)|FK (i:Nat) (k d:E)|Jw (i:Nat)|Jx (ln:Bool) (a b:E)
 |IL (a:E)
inductive S where
 |set (i:Nat) (e:E)
 |Hn (is:List Nat) (e:E)
 |put (i:Nat) (k v:E)
 |app (i:Nat) (e:E)|ext (i:Nat) (e:E)|bad|newD (i:Nat)|putD (i:Nat) (k v:E)|EZ (i:Nat) (k v:E)|aug (sub:Bool) (i:Nat) (k v:E)|LB (i:Nat)
 |exp (e:E)
 |ret (e:E)|Ho
 |Ga (i:Nat) (e:E)
 |ite (c:E) (a b:List S)
 |DS (t:Bool) (is:List Nat) (ik:Ik) (src:List E) (body:List S)
 |HQ (c:E) (body:List S)
 |brk|cnt|LC
noncomputable def isAny:Kd->Bool
 |.any=>true
 |_=>false
noncomputable def kS(k:Kd)(xs:List U):Bool:=!isAny k||gB xs
noncomputable def kT(k k':Kd):Kd:=if isAny k||isAny k' then .any else .loc
noncomputable def vc:Kd×U->Kd×U->Option (Kd×U)
 |(_,.int i),(_,.int j)=>some (.loc,.int (i+j))
 |(_,.str x),(_,.str y)=>if x.length+y.length<=sizeLine then some (.loc,.str (x++y)) else none
 |(k,.lst xs),(k',.lst ys)=>if xs.length+ys.length<=sizeLine/\kS k xs=true/\kS k' ys=true then some (.own,.lst (xs++ys)) else none
 |_,_=>none
noncomputable def p9(f:Int->Int->Option Int):U->U->Option (Kd×U)
 |.int i,.int j=>(f i j).map λn=>(.loc,.int n)
 |_,_=>none
noncomputable def xK(i j:Int):Option Int:=if ((-(2 ^ 64)<i/\i<2 ^ 64)\/(-(2 ^ 64)<j/\j<2 ^ 64)) then some (i * j) else none
noncomputable def xM(i j:Int):Option Int:=if 0<j/\j<1073741824 then some (i / j) else none
noncomputable def xN(i j:Int):Option Int:=if 0<j then some (i % j) else none
noncomputable def xO(i j:Int):Option Int:=if 0<=j/\j<=1000000/\i.natAbs<2 ^ 64 then some (i ^ j.toNat) else none
noncomputable def FY(op:Lz)(x y:Kd×U):Option (Kd×U):=match op with
 |.add=>vc x y
 |.sub=>p9 (λi j=>some (i - j)) x.2 y.2
 |.mul=>p9 xK x.2 y.2
 |.FJ=>p9 xM x.2 y.2
 |.mod=>p9 xN x.2 y.2
 |.pow=>p9 xO x.2 y.2
mutual
noncomputable def DB:Nat->U->Bool
 |_,.Dy _ _=>false
 |_,.DV _=>false
 |0,.tup _=>false
 |0,.lst _=>false
 |n+1,.tup xs=>bW n xs
 |n+1,.lst xs=>bW n xs
 |_,.DF=>true|_,.bl _=>true|_,.int _=>true|_,.str _=>true
noncomputable def bW:Nat->List U->Bool
 |_,[]=>true
 |n,u::us=>DB n u&&bW n us
end
mutual
noncomputable def ba:U->U->Bool
 |.DF,.DF=>true
 |.bl a,.bl b=>a==b
 |.bl a,.int b=>(if a then 1 else 0)==b
 |.int a,.bl b=>a==(if b then 1 else 0)
 |.int a,.int b=>a==b
 |.str a,.str b=>a==b
 |.tup xs,.tup ys=>bA xs ys
 |.lst xs,.lst ys=>bA xs ys
 |_,_=>false
noncomputable def bA:List U->List U->Bool
 |[],[]=>true
 |u::us,w::ws=>ba u w&&bA us ws
 |_,_=>false
end
noncomputable def HR(x:U)(ys:List U):Option Bool:=if DB 50 x=true/\bW 50 ys=true then some (ys.any λy=>ba y x) else none
noncomputable def strsOf:List U->Option (List Str)
 |[]=>some []
 |.str x::us=>(strsOf us).map (x::·)
 |_::_=>none
noncomputable def rowOf:U->Option kN
 |.tup [.str x,.tup ys]=>(strsOf ys).map λss=>(x,ss)
 |_=>none
noncomputable def xP:U->U->Option Bool
 |x,.lst ys=>HR x ys
 |x,.tup ys=>HR x ys
 |.str x,.Dy ks _=>some (decide (x∈ks))
 |x,.DV ks=>(rowOf x).map λr=>decide (r∈ks)
 |_,_=>none
noncomputable def cY:List Str->List U->Str->Option U
 |y::ks,u::us,x=>if y=x then some u else cY ks us x
 |_,_,_=>none
noncomputable def dput(ks:List Str)(us:List U)(x:Str)(u:U):List Str×List U :=
 if x∈ks then(ks,(ks.zip us).map λp=>if p.1=x then u else p.2) else(ks++[x],us++[u])
noncomputable def bw:Kt->U->U->Option Bool
 |.eq,a,b=>if DB 50 a=true/\DB 50 b=true then some (ba a b) else none
 |.ne,a,b=>if DB 50 a=true/\DB 50 b=true then some (!ba a b) else none
 |.lt,.int i,.int j=>some (decide (i<j))
 |.gt,.int i,.int j=>some (decide (j<i))
 |.ge,.int i,.int j=>some (decide (j<=i))
 |.isin,x,y=>xP x y
 |.DA,x,y=>(xP x y).map (!·)
 |_,_,_=>none
noncomputable def eS:List U->Option (List Bool)
 |[]=>some []
 |.bl x::us=>(eS us).map (x::·)
 |_::_=>none
noncomputable def ib:Kd×U->U->Option (Kd×U)
 |(k,.lst xs),.int i=>(D6 xs i).map λu=>(kE k,u)
 |(k,.tup xs),.int i=>(D6 xs i).map λu=>(kE k,u)
 |(_,.str x),.int i=>if x.length<=sizeLine then(D6 x.cps.toList i).map λc=>(.loc,.str ⟨#[c]⟩) else none
 |_,_=>none
noncomputable def p_:Kd×U->Option Int->Option Int->Option (Kd×U)
 |(_,.str x),lo,hi=>if x.length<=sizeLine then some (.loc,.str (PySem.StrLaws.sliceText x lo hi)) else none
 |_,_,_=>none
noncomputable def Am:U->Option Nat
 |.lst xs=>some xs.length
 |.tup xs=>some xs.length
 |.str x=>if x.length<=sizeLine then some x.length else none
 |_=>none
noncomputable def gC{β:Type}(f:Kd×U->Option β):List (Kd×U)->Option β
 |[x]=>f x
 |_=>none
noncomputable def intsOf:List U->Option (List Int)
 |[]=>some []
 |.int x::us=>(intsOf us).map (x::·)
 |_::_=>none
noncomputable def An:Kd×U->Option (Kd×U)
 |(_,.lst xs)=>(strsOf xs).bind λss=>if ss.length<64 then some (.own,.lst ((aN ss).map .str)) else none
 |(_,.tup xs)=>(strsOf xs).bind λss=>if ss.length<64 then some (.own,.lst ((aN ss).map .str)) else none
 |_=>none
noncomputable def Ao:Kd×U->Option (Kd×U)
 |(k,.lst xs)=>some (kE k,.tup xs)
 |(k,.tup xs)=>some (kE k,.tup xs)
 |_=>none
noncomputable def xQ:Kd×U->Option (Kd×U)
 |(_,.int i)=>if i.natAbs.log2<1920 then some (.loc,.str (toString i)) else none
 |_=>none
noncomputable def Ap:Kd×U->Option (Kd×U)
 |(_,.lst xs)=>(eS xs).map λbs=>(.loc,.bl (bs.all id))
 |_=>none
noncomputable def Aq:Kd×U->Option (Kd×U)
 |(_,.lst xs)=>(eS xs).map λbs=>(.loc,.bl (bs.any id))
 |_=>none
noncomputable def Fq(f:Bf)(rs:List (Kd×U)):Option (Kd×U):=match f with
 |.len=>gC (λx=>(Am x.2).map λ(n:Nat)=>(Kd.loc,U.int (n:Int))) rs
 |.sorted=>gC An rs
 |.tuple=>gC Ao rs
 |.str=>gC xQ rs
 |.all=>gC Ap rs
 |.any=>gC Aq rs
 |_=>none
noncomputable def fw:U->Option (List Str)
 |.lst xs=>(strsOf xs).bind λss=>if ss.length+1<scanBound then some (av ss) else none
 |.tup xs=>(strsOf xs).bind λss=>if ss.length+1<scanBound then some (av ss) else none
 |_=>none
noncomputable def qa(f:B2)(rs:List (Kd×U)):Option (Kd×U):=match f with
 |.sset=>gC (λx=>(fw x.2).bind λss=>if ss.length<64 then some (.own,.lst ((aN ss).map .str)) else none) rs
 |.mz=>gC (λx=>(fw x.2).map λss=>(.loc,.int ss.length)) rs
 |_=>none
noncomputable def iY:Mf->U->List (Kd×U)->Option (Kd×U)
 |.split,.str a,[(_,.str b)]=>if (b.length==0)=false/\a.length+2<=sizeLine then some (.own,.lst ((Txt.split a b).map .str)) else none
 |.join,.str a,[(_,.lst xs)]=>(strsOf xs).bind λss=>if JoinOk a ss=true then some (.loc,.str (Txt.join a ss)) else none
 |_,_,_=>none
noncomputable def Dp:Kd×U->Option (List (Kd×U))
 |(k,.lst xs)=>some (xs.map λu=>(kE k,u))
 |(k,.tup xs)=>some (xs.map λu=>(kE k,u))
 |_=>none
noncomputable def s_:Kd×U->Option (List (Kd×U))
 |(_,.int n)=>if n<2 ^ 62/\-(2 ^ 62)<n then some ((List.range n.toNat).map λi:Nat=>(Kd.loc,U.int (0+(i:Int)))) else none
 |_=>none
noncomputable def Ar:Kd×U->Option (List (Kd×U))
 |(k,.lst xs)=>some (xs.zipIdx.map λp=>(kE k,.tup [.int p.2,p.1]))
 |(k,.tup xs)=>some (xs.zipIdx.map λp=>(kE k,.tup [.int p.2,p.1]))
 |_=>none
noncomputable def As:List (Kd×U)->Option (List (Kd×U))
 |[(k,.lst xs),(k',.tup ys)]=>some ((xs.zip ys).map λp=>(kT k k',.tup [p.1,p.2]))
 |_=>none
noncomputable def Ft(ik:Ik)(rs:List (Kd×U)):Option (List (Kd×U)):=match ik with
 |.seq=>gC Dp rs
 |.Ee=>gC s_ rs
 |.IK=>gC Ar rs
 |.zip=>As rs
 |_=>none
noncomputable def xR(ps:List (Str×Int)):List (Str×Int):=(iV (ps.map (·.1))).map λi=>ps.getD i (Str.empty,0)
noncomputable def tf(p:Str×Int):U:=.tup [.str p.1,.int p.2]
noncomputable def vd:U->Option (Kd×U)
 |.Dy ks us=>(intsOf us).bind λns=>if ks.length<64/\ks.Nodup/\ks.length=ns.length then some (.own,.lst ((xR (ks.zip ns)).map tf)) else none
 |_=>none
noncomputable def tm(ln:Bool)(d1 d2:List Str):Option (Kd×U):=if d1.length<64/\d2.length<64 then some (if ln=true then(.loc,.int ((d1.filter λx=>decide (x∉d2)).length:Nat)) else(.own,.lst ((aN (d1.filter λx=>decide (x∉d2))).map .str))) else none
noncomputable def kU:U->Option Bool
 |.bl b=>some b
 |.lst xs=>some !xs.isEmpty
 |.tup xs=>some !xs.isEmpty
 |.str x=>if x.length<=sizeLine then some ((x.length:Int) != 0) else none
 |_=>none
noncomputable def lift:Kd×U->M U
 |(.own,u)=>pure u
 |(.loc,u)=>pure u
 |(.any,u)=>if D9 u=true then pure u else M.fail
 |(.bor j,_)=>λst=>match st[j]? with
  |some (some (.own,u))=>some (.ok u,st.set j (some (.loc,u)))
  |_=>none
 |(.io,_)=>M.fail
 |(.Dw,_)=>M.fail
noncomputable def cR:List (Kd×U)->M (List U)
 |[]=>pure []
 |r::rs=>do let u <-lift r;let us <-cR rs;pure (u::us)
noncomputable def d0(i:Nat):Kd×U->M Unit
 |(.bor j,_)=>λst=>match st[j]? with
  |some (some (.own,u))=>some (.ok (),(st.set j (some (.loc,u))).set i (some (.loc,u)))
  |_=>none
 |(.io,_)=>M.fail
 |(.Dw,_)=>M.fail
 |(k,u)=>λst=>some (.ok (),st.set i (some (k,u)))
def bb:List (Kd×U)->au->Prop
 |[],_=>True
 |(.bor j,u)::rs,st=>(∃k:Kd,k.root=true/\st[j]?=some (some (k,u)))/\bb rs st
 |_::rs,st=>bb rs st
open Classical in
noncomputable def aw(rs:List (Kd×U)):M Unit:=λst=>if bb rs st then some (.ok (),st) else none
abbrev Tab:=Str->List U->Option (Ex (Kd×U))
noncomputable def jP(Γ:Tab)(f:Str)(us:List U):M (Kd×U):=λst=>match Γ f us with
 |some (.ok (.any,_))=>none
 |none=>none
 |some r=>some (r,st)
noncomputable def dn(i:Nat):M (Kd×U):=λst=>match st[i]? with
 |some (some (.Dw,_))=>none
 |some (some (k,u))=>some (.ok (if k.root=true then .bor i else k,u),st)
 |_=>none
noncomputable def fy(i:Nat):M (List Str×List U):=λst=>match st[i]? with
 |some (some (.Dw,.Dy ks us))=>some (.ok (ks,us),st)
 |_=>none
noncomputable def gD(x:Kd×U):M Str:=match x.2 with
 |.str y=>pure y
 |_=>M.fail
noncomputable def Ku(neg:Bool)(y:Str)(ks:List Str):Bool:=if neg=true then !decide (y∈ks) else decide (y∈ks)
noncomputable def vf(i:Nat):M (Kd×U):=λst=>match st[i]? with
 |some (some (.Dw,u))=>some (.ok (.bor i,u),st.set i (some (.own,u)))
 |_=>dn i st
noncomputable def oE(i:Nat):M (List Str×List U):=λst=>match st[i]? with
 |some (some (.Dw,.Dy ks us))=>some (.ok (ks,us),st.set i none)
 |_=>none
noncomputable def mP(d:List Str×List U):List (Kd×U):=(d.1.zip d.2).map λp=>(Kd.loc,U.tup [.str p.1,p.2])
noncomputable def y7(i:Nat):M Unit:=λst=>some (.ok (),st.set i (some (.Dw,.Dy [] [])))
noncomputable def jQ(i:Nat)(y:Str):Kd×U->M Unit
 |(.own,.lst us)=>λst=>match st[i]? with
  |some (some (.Dw,.Dy ks vs))=>if y∉ks/\ks.length<sizeLine then some (.ok (),st.set i (some (.Dw,.Dy (ks++[y]) (vs++[.lst us])))) else none
  |_=>none
 |_=>M.fail
noncomputable def ic:List Str->List U->Str->U->List U
 |k::ks,v::vs,y,u=>if k=y then u::vs else v::ic ks vs y u
 |_,vs,_,_=>vs
noncomputable def jR(i:Nat)(y:Str)(u:U):M Unit:=λst=>match st[i]? with
 |some (some (.Dw,.Dy ks vs))=>match cY ks vs y with
  |some (.lst xs)=>if xs.length<sizeLine then some (.ok (),st.set i (some (.Dw,.Dy ks (ic ks vs y (.lst (xs++[u])))))) else none
  |_=>none
 |_=>none
noncomputable def Nb:U->M Unit
 |.Dy _ _=>pure ()
 |_=>M.fail
noncomputable def xS(x:Kd×U)(y:Str)(u:U):Option (Kd×U):=match x with
 |(k,.Dy ks us)=>some (match cY ks us y with|some v=>(kE k,v)|none=>(.loc,u))
 |_=>none
noncomputable def oF(i:Nat):M (List U):=λst=>match st[i]? with
 |some (some (k,.lst us))=>if k.root=true then some (.ok us,st) else none
 |_=>none
noncomputable def tq(x:Kd×U):M Int:=match x.2 with
 |.int j=>pure j
 |_=>M.fail
noncomputable def oG(us:List U)(j:Int):Option Int:=if 0<=j then(match us[j.toNat]? with|some (.int o)=>some o|_=>none) else none
noncomputable def tu(sub:Bool)(o w:Int):Int:=if sub=true then o - w else o+w
noncomputable def Dq:U->Option U
 |.lst us=>some (.lst us.reverse)
 |_=>none
noncomputable def sets:List Nat->List (Kd×U)->M Unit
 |[],[]=>pure ()
 |i::is,r::rs=>do d0 i r;sets is rs
 |_,_=>M.fail
noncomputable def cV(t:Bool)(is:List Nat)(r:Kd×U):M Unit:=match t,is,r with
 |false,[i],r=>d0 i r
 |true,is,(k,.tup xs)=>sets is (xs.map λu=>(kE k,u))
 |_,_,_=>M.fail
noncomputable def inScope{α:Type}(k:Nat)(m:M α):M α:=λst=>match m (List.replicate k none++st) with
 |none=>none
 |some (r,st')=>some (r,st'.drop k)
noncomputable def bq(k:Nat)(t:Bool)(cond:M Bool)(elt:M (Kd×U))(src:List (Kd×U)):List (Kd×U)->List U->M (List U)
 |[],acc=>do aw src;pure acc
 |x::xs,acc=>do
  aw src
  let r <-inScope k (cV t (List.range k) x >>= λ_=>cond >>= λb=>if b=true then(elt >>= λr=>lift r >>= λu=>pure (some u)) else pure none)
  match r with
  |some u=>if acc.length<sizeLine then bq k t cond elt src xs (acc++[u]) else M.fail
  |none=>bq k t cond elt src xs acc
noncomputable def qb:U->F9->Option Bool
 |.str _,T=>some (decide (T=.str))
 |.int _,T=>some (decide (T=.int))
 |.bl _,.bool=>some true
 |.bl _,.int=>some true
 |.lst _,.list=>some true
 |.tup _,.tuple=>some true
 |_,_=>none
noncomputable def xT:Kd×U->Option (Kd×U)
 |(k,.tup xs)=>some (kE k,.tup xs.reverse)
 |_=>none
noncomputable def Dr:Kd×U->Option (Kd×U)
 |(_,.int i)=>some (.loc,.int (-i))
 |_=>none
noncomputable def Au(x:Kd×U):M (Option Int):=match x.2 with
 |.int i=>pure (some i)
 |_=>M.fail
section
variable(Γ:Tab)
mutual
noncomputable def ev:E->M (Kd×U)
 |.var i=>dn i
 |.cst u=>pure (.loc,u)
 |.LA _ u=>pure (.loc,u)
 |.bin op a b=>do
  let x <-ev a
  let y <-ev b
  aw [x,y]
  M.DR (FY op x y)
 |.cmp op a b=>do
  let x <-ev a
  let y <-ev b
  aw [x,y]
  let c <-M.DR (bw op x.2 y.2)
  pure (.loc,.bl c)
 |.GN o1 o2 a b c=>do
  let x <-ev a
  let y <-ev b
  aw [x,y]
  let p <-M.DR (bw o1 x.2 y.2)
  if p=true then do
   let z <-ev c
   aw [y,z]
   let q <-M.DR (bw o2 y.2 z.2)
   pure (.loc,.bl q)
  else pure (.loc,.bl false)
 |.and es=>vg es
 |.or es=>Av es
 |.not a=>do
  let x <-ev a
  match x.2 with
  |.bl c=>pure (.loc,.bl !c)
  |_=>M.fail
 |.ite c a b=>do
  let p <-DU c
  if p=true then ev a else ev b
 |.tup es=>do
  let rs <-bH es
  aw rs
  let us <-cR rs
  if us.length<=sizeLine then pure (.loc,.tup us) else M.fail
 |.lst es=>do
  let rs <-bH es
  aw rs
  let us <-cR rs
  if us.length<=sizeLine then pure (.own,.lst us) else M.fail
 |.E_ r=>pure (.own,if r=true then .DV [] else .Dy [] [])
 |.idx a b=>do
  let x <-ev a
  let y <-ev b
  aw [x,y]
  M.DR (ib x y.2)
 |.HP a lo hi=>do
  let x <-ev a
  let l <-IM lo
  let h <-IM hi
  aw [x]
  M.DR (p_ x l h)
 |.bi f es=>do
  let rs <-bH es
  aw rs
  M.DR (Fq f rs)
 |.F_ f es=>do
  let rs <-bH es
  aw rs
  M.DR (qa f rs)
 |.Gr m a es=>do
  let x <-ev a
  let rs <-bH es
  aw (x::rs)
  M.DR (iY m x.2 rs)
 |.call f es=>do
  let rs <-bH es
  aw rs
  jP Γ f (rs.map (·.2))
 |.comp k t ik src cond e=>do
  let rs <-bH src
  aw rs
  let xs <-M.DR (Ft ik rs)
  let us <-bq k t (aO cond) (ev e) rs xs []
  pure (.own,.lst us)
 |.neg a=>do
  let x <-ev a
  M.DR (Dr x)
 |.bad=>M.fail
 |.inD neg a i=>do
  let x <-ev a
  let y <-gD x
  let d <-fy i
  pure (.loc,.bl (Ku neg y d.1))
 |.Jv i=>vf i
 |.FK i k d=>do
  let x <-dn i
  Nb x.2
  let y <-ev k
  let y <-gD y
  let z <-ev d
  let u <-lift z
  let x <-dn i
  M.DR (xS x y u)
 |.Jw i=>do
  let x <-dn i
  M.DR (vd x.2)
 |.IL a=>do
  let x <-ev a
  M.DR (xT x)
 |.Jx ln a b=>do
  let x <-ev a
  let d1 <-M.DR (fw x.2)
  let y <-ev b
  let d2 <-M.DR (fw y.2)
  M.DR (tm ln d1 d2)
 |.fst es=>M.fail
 |.FX a T=>do
  let x <-ev a
  let b <-M.DR (qb x.2 T)
  pure (.loc,.bl b)
noncomputable def bH:List E->M (List (Kd×U))
 |[]=>pure []
 |e::es=>do let r <-ev e;let rs <-bH es;pure (r::rs)
noncomputable def IM:List E->M (Option Int)
 |[]=>pure none
 |[e]=>do let x <-ev e;Au x
 |_=>M.fail
noncomputable def vg:List E->M (Kd×U)
 |[]=>M.fail
 |[e]=>ev e
 |e::es=>do
  let x <-ev e
  match x.2 with
  |.bl true=>vg es
  |.bl false=>pure (.loc,.bl false)
  |_=>M.fail
noncomputable def Av:List E->M (Kd×U)
 |[]=>M.fail
 |[e]=>ev e
 |e::es=>do
  let x <-ev e
  match x.2 with
  |.bl true=>pure (.loc,.bl true)
  |.bl false=>Av es
  |_=>M.fail
noncomputable def DU:E->M Bool
 |.and es=>aO es
 |.or es=>iH es
 |.not a=>do let b <-DU a;pure !b
 |.cmp op a b=>do
  let x <-ev a
  let y <-ev b
  aw [x,y]
  M.DR (bw op x.2 y.2)
 |.var i=>do let x <-dn i;M.DR (kU x.2)
 |.cst u=>M.DR (kU u)
 |.idx a b=>do
  let x <-ev a
  let y <-ev b
  aw [x,y]
  let r <-M.DR (ib x y.2)
  M.DR (kU r.2)
 |.F_ f es=>do
  let rs <-bH es
  aw rs
  let r <-M.DR (qa f rs)
  M.DR (kU r.2)
 |.bi f es=>do
  let rs <-bH es
  aw rs
  let r <-M.DR (Fq f rs)
  M.DR (kU r.2)
 |.Gr m a es=>do
  let x <-ev a
  let rs <-bH es
  aw (x::rs)
  let r <-M.DR (iY m x.2 rs)
  M.DR (kU r.2)
 |.call f es=>do
  let rs <-bH es
  aw rs
  let r <-jP Γ f (rs.map (·.2))
  M.DR (kU r.2)
 |.GN o1 o2 a b c=>do
  let x <-ev a
  let y <-ev b
  aw [x,y]
  let p <-M.DR (bw o1 x.2 y.2)
  if p=true then do
   let z <-ev c
   aw [y,z]
   M.DR (bw o2 y.2 z.2)
  else pure false
 |.inD neg a i=>do
  let x <-ev a
  let y <-gD x
  let d <-fy i
  pure (Ku neg y d.1)
 |.FX a T=>do
  let x <-ev a
  M.DR (qb x.2 T)
 |_=>M.fail
noncomputable def aO:List E->M Bool
 |[]=>pure true
 |[e]=>DU e
 |e::es=>do let b <-DU e;if b=true then aO es else pure false
noncomputable def iH:List E->M Bool
 |[]=>pure false
 |[e]=>DU e
 |e::es=>do let b <-DU e;if b=true then pure true else iH es
end
inductive Fl where|nx|rt (k:Kd) (u:U)|bk|ct
noncomputable def retS:Kd×U->M Fl
 |(.own,u)=>pure (.rt .own u)
 |(.loc,u)=>pure (.rt .loc u)
 |(.any,u)=>if D9 u=true then pure (.rt .loc u) else pure (.rt .any u)
 |(.bor j,_)=>λst=>match st[j]? with
  |some (some (.own,u))=>some (.ok (.rt .own u),st.set j none)
  |_=>none
 |(.io,_)=>M.fail
 |(.Dw,_)=>M.fail
noncomputable def forM(t:Bool)(is:List Nat)(body:M Fl)(src:List (Kd×U)):List (Kd×U)->M Fl
 |[]=>do aw src;pure .nx
 |x::xs=>do
  aw src
  cV t is x
  let f <-body
  match f with
  |.nx=>forM t is body src xs
  |.ct=>forM t is body src xs
  |.bk=>pure .nx
  |.rt k u=>pure (.rt k u)
noncomputable def fz(c:M Bool)(body:M Fl):Nat->M Fl
 |0=>M.fail
 |n+1=>do
  let b <-c
  if b=true then do
   let f <-body
   match f with
   |.nx=>fz c body n
   |.ct=>fz c body n
   |.bk=>pure .nx
   |.rt k u=>pure (.rt k u)
  else pure .nx
noncomputable def modS(i:Nat)(f:U->Option U):M Unit:=λst=>match st[i]? with
 |some (some (k,u))=>if k.root=true then match f u with
   |some u'=>some (.ok (),st.set i (some (k,u')))
   |none=>none
  else none
 |_=>none
noncomputable def vh(u:U):U->Option U
 |.lst xs=>if xs.length<sizeLine then some (.lst (xs++[u])) else none
 |_=>none
noncomputable def jS:Kd×U->U->Option U
 |(k,.lst ys),.lst xs=>if xs.length+ys.length<=sizeLine/\kS k ys=true then some (.lst (xs++ys)) else none
 |(k,.tup ys),.lst xs=>if xs.length+ys.length<=sizeLine/\kS k ys=true then some (.lst (xs++ys)) else none
 |_,_=>none
noncomputable def dF(x u:U):U->Option U
 |.Dy ks vs=>match x with
  |.str y=>if ks.length<sizeLine then some (.Dy (dput ks vs y u).1 (dput ks vs y u).2) else none
  |_=>none
 |.DV ks=>match rowOf x,u with
  |some r,.bl true=>if r∉ks/\ks.length<=1000 then some (.DV (ks++[r])) else none
  |_,_=>none
 |.lst xs=>match x with
  |.int i=>(GB xs.length i).map λj=>.lst (xs.set j u)
  |_=>none
 |_=>none
noncomputable def rq:List U->U->Option U
 |[u,x]=>dF x u
 |_=>λ_=>none
noncomputable def Jy:U->M Unit
 |.lst _=>pure ()
 |_=>M.fail
noncomputable def fuel:Nat:=100000
mutual
noncomputable def Hq:S->Nat->Bool
 |.set i _,j=>decide (j≠i)
 |.Hn is _,j=>decide (j∉is)
 |.ite _ a b,j=>Gu a j&&Gu b j
 |.DS _ is _ _ body,j=>decide (j∉is)&&Gu body j
 |.HQ _ body,j=>Gu body j
 |.put _ _ _,_=>true
 |.app _ _,_=>true
 |.ext _ _,_=>true
 |.bad,_=>true
 |.newD i,j=>decide (j≠i)
 |.putD _ _ _,_=>true
 |.EZ _ _ _,_=>true
 |.aug _ _ _ _,_=>true
 |.LB _,_=>true
 |.exp _,_=>true
 |.ret _,_=>true
 |.Ga _ _,_=>true
 |.Ho,_=>true
 |.brk,_=>true
 |.cnt,_=>true
 |.LC,_=>true
noncomputable def Gu:List S->Nat->Bool
 |[],_=>true
 |s::ss,j=>Hq s j&&Gu ss j
end
noncomputable def lG(rs:List (Kd×U))(is:List Nat)(body:List S):Bool:=rs.all λr=>match r.1 with
 |.bor j=>decide (j∉is)&&Gu body j
 |_=>true
mutual
noncomputable def exec:S->M Fl
 |.set i e=>do let r <-ev Γ e;d0 i r;pure .nx
 |.Hn is e=>do let r <-ev Γ e;cV true is r;pure .nx
 |.put i k v=>do
  let r <-ev Γ v
  let _ <-dn i
  let x <-ev Γ k
  let us <-cR [r,x]
  modS i (rq us)
  pure .nx
 |.app i e=>do
  let x <-dn i
  Jy x.2
  let r <-ev Γ e
  let u <-lift r
  modS i (vh u)
  pure .nx
 |.ext i e=>do
  let x <-dn i
  Jy x.2
  let r <-ev Γ e
  modS i (jS r)
  pure .nx
 |.bad=>M.fail
 |.newD i=>do y7 i;pure .nx
 |.putD i k v=>do
  let r <-ev Γ v
  let d <-fy i
  let x <-ev Γ k
  let y <-gD x
  jQ i y r
  pure .nx
 |.EZ i k v=>do
  let _ <-fy i
  let x <-ev Γ k
  let y <-gD x
  let d <-fy i
  if y∈d.1 then do
   let r <-ev Γ v
   let u <-lift r
   jR i y u
   pure .nx
  else M.fail
 |.aug sub i k v=>do
  let _ <-oF i
  let y <-ev Γ k
  let j <-tq y
  let us <-oF i
  let o <-M.DR (oG us j)
  let z <-ev Γ v
  let w <-tq z
  modS i (dF (.int j) (.int (tu sub o w)))
  pure .nx
 |.LB i=>do
  modS i Dq
  pure .nx
 |.exp e=>do let _ <-ev Γ e;pure .nx
 |.ret e=>do let r <-ev Γ e;retS r
 |.Ga i e=>do
  let d <-oE i
  let us <-bq 2 true (pure true) (ev Γ e) [] (mP d) []
  retS (.own,.lst us)
 |.Ho=>pure (.rt .loc .DF)
 |.ite c a b=>do let p <-DU Γ c;if p=true then execs a else execs b
 |.DS t is ik src body=>do
  let rs <-bH Γ src
  aw rs
  let xs <-M.DR (Ft ik rs)
  if lG rs is body=true then forM t is (execs body) rs xs else M.fail
 |.HQ c body=>fz (DU Γ c) (execs body) fuel
 |.brk=>pure .bk
 |.cnt=>pure .ct
 |.LC=>pure .nx
noncomputable def execs:List S->M Fl
 |[]=>pure .nx
 |s::ss=>do
  let f <-exec s
  match f with
  |.nx=>execs ss
  |f=>pure f
end
end
structure Fn where
 name:Str
 np:Nat
 ns:Nat
 body:List S
noncomputable def start(us:List U)(n:Nat):au:=us.map (λu=>some (if D9 u=true then Kd.loc else Kd.any,u))++List.replicate (n - us.length) none
noncomputable def bP(Γ:Tab)(fn:Fn)(us:List U):Option (Ex (Kd×U)):=if us.length=fn.np then match execs Γ fn.body (start us fn.ns) with
  |some (.ok (.rt .own u),_)=>some (.ok (.own,u))
  |some (.ok (.rt .loc u),_)=>some (.ok (.loc,u))
  |some (.ok (.rt .any u),_)=>some (.ok (.any,u))
  |some (.ok .nx,_)=>some (.ok (.loc,.DF))
  |some (.exc c,_)=>some (.exc c)
  |_=>none
 else none
noncomputable def D_(P:List Fn):Nat->Tab
 |0=>λ_ _=>none
 |d+1=>λf us=>match P.find? λfn=>decide (fn.name=f) with
  |some fn=>bP (D_ P d) fn us
  |none=>none
end TM
namespace TM
open PySem L2
section
variable{X:Cx}{pins:List (Addr×Obj)}{σ:St}{H:Hp}{s:Shared}{C:Ct}{S:Addr->Prop}
theorem rA(I:Inv X pins σ H s)(h:D7 X.K H a vs):∃A':List Value,Vals vs A'/\s.heap.IsList a A'.toArray/\vs.length<=sizeLine:=by
 obtain⟨A',r,p,z⟩:=I.list h;exact⟨A',r,p.isList,z⟩
theorem aK(I:Inv X pins σ H s)(hK:C.K=X.K)(h:Hk C.K S H a vs):∃A':List Value,Vals vs A'/\s.heap.IsList a A'.toArray/\vs.length<=sizeLine:=rA I (hK▸h.sq)
theorem rB(I:Inv X pins σ H s)(hK:C.K=X.K)(h:Hk C.K S H a vs)(h':Hk C.K S H a ws):vs=ws:=I.gb (hK▸h.sq) (hK▸h'.sq)
theorem gE(I:Inv X pins σ H s)(hK:C.K=X.K)(h:Hk C.K S H a vs)(h':D3 C.K H a ws):False:=by
 obtain⟨A',_,p,_⟩:=aK I hK h;rw[hK]at h';obtain⟨its',_,p',_⟩:=I.tuple h';exact SeqAt.ne_of_list_tuple p p' rfl
mutual
theorem qc(I:Inv X pins σ H s)(hK:C.K=X.K):∀(u w:U) (v:V) (n:Nat),DB n u=true->DB n w=true->Rep C S H u v->Rep C S H w v->ba u w=true
 |.DF,w,v,n,_,h2,h3,h4=>by
  cases w<;>first|rfl|(simp only[Rep]at h3 h4;subst h3;first|(cases h4;done)|(obtain⟨a,vs,e,_⟩:=h4;cases e;done))|(cases n<;>simp[DB]at h2)
 |.bl b,w,v,n,_,h2,h3,h4=>by
  cases w<;>first|(simp only[Rep]at h3 h4;subst h3;first|(cases h4;done)|(cases h4;simp[ba];done)|(obtain⟨a,vs,e,_⟩:=h4;cases e;done))|(cases n<;>simp[DB]at h2)
 |.int b,w,v,n,_,h2,h3,h4=>by
  cases w<;>first|(simp only[Rep]at h3 h4;subst h3;first|(cases h4;done)|(cases h4;simp[ba];done)|(obtain⟨a,vs,e,_⟩:=h4;cases e;done))|(cases n<;>simp[DB]at h2)
 |.str b,w,v,n,_,h2,h3,h4=>by
  cases w<;>first|(simp only[Rep]at h3 h4;subst h3;first|(cases h4;done)|(cases h4;simp[ba];done)|(obtain⟨a,vs,e,_⟩:=h4;cases e;done))|(cases n<;>simp[DB]at h2)
 |.tup us,w,v,n,h1,h2,h3,h4=>by
  obtain⟨a,vs,rfl,q1,q2⟩:=h3;cases n with
  |zero=>simp[DB]at h1
  |succ n =>
   cases w with
   |tup ws =>
    obtain⟨a',DI,e,q3,q4⟩:=h4;cases e;rw[hK]at q1 q3;have:=I.dG q1 q3;subst this;simp only[DB]at h1 h2;exact mQ I hK us ws vs n h1 h2 q2 q4
   |lst ws =>
    obtain⟨a',DI,e,q3,q4⟩:=h4;cases e;exact(gE I hK q3 q1).elim
   |Dy=>simp[DB]at h2
   |DV=>simp[DB]at h2
   |_=>simp only[Rep]at h4;cases h4
 |.lst us,w,v,n,h1,h2,h3,h4=>by
  obtain⟨a,vs,rfl,q1,q2⟩:=h3;cases n with
  |zero=>simp[DB]at h1
  |succ n =>
   cases w with
   |lst ws =>
    obtain⟨a',DI,e,q3,q4⟩:=h4;cases e;have:=rB I hK q1 q3;subst this;simp only[DB]at h1 h2;exact mQ I hK us ws vs n h1 h2 q2 q4
   |tup ws =>
    obtain⟨a',DI,e,q3,q4⟩:=h4;cases e;exact(gE I hK q1 q3).elim
   |Dy=>simp[DB]at h2
   |DV=>simp[DB]at h2
   |_=>simp only[Rep]at h4;cases h4
 |.Dy _ _,_,_,n,h,_,_,_=>by cases n<;>simp[DB]at h
 |.DV _,_,_,n,h,_,_,_=>by cases n<;>simp[DB]at h
theorem mQ(I:Inv X pins σ H s)(hK:C.K=X.K):∀(us ws:List U) (vs:List V) (n:Nat),bW n us=true->bW n ws=true->ai C S H us vs->ai C S H ws vs->bA us ws=true
 |[],[],_,_,_,_,_,_=>rfl
 |[],w::ws,vs,n,_,_,h3,h4=>by
  obtain⟨v,r,e,_⟩:=h4;simp only[ai]at h3;rw[h3]at e;cases e
 |u::us,[],vs,n,_,_,h3,h4=>by
  obtain⟨v,r,e,_⟩:=h3;simp only[ai]at h4;rw[h4]at e;cases e
 |u::us,w::ws,vs,n,h1,h2,h3,h4=>by
  obtain⟨v,r,rfl,q1,q2⟩:=h3;obtain⟨v',r',e,q3,q4⟩:=h4;cases e;simp only[bW,Bool.and_eq_true]at h1 h2;simp only[bA,Bool.and_eq_true];exact⟨qc I hK u w v n h1.1 h2.1 q1 q3,mQ I hK us ws r n h1.2 h2.2 q2 q4⟩
end
mutual
theorem rC(I:Inv X pins σ H s)(hK:C.K=X.K):∀(u w:U) (v:V) (n:Nat),DB n u=true->DB n w=true->Rep C S H u v->Rep C S H w v->u=w
 |.DF,w,v,n,_,h2,h3,h4=>by
  cases w<;>first|rfl|(simp only[Rep]at h3 h4;subst h3;first|(cases h4;done)|(obtain⟨a,vs,e,_⟩:=h4;cases e;done))|(cases n<;>simp[DB]at h2)
 |.bl b,w,v,n,_,h2,h3,h4=>by
  cases w<;>first|(simp only[Rep]at h3 h4;subst h3;first|(cases h4;done)|(cases h4;rfl;done)|(obtain⟨a,vs,e,_⟩:=h4;cases e;done))|(cases n<;>simp[DB]at h2)
 |.int b,w,v,n,_,h2,h3,h4=>by
  cases w<;>first|(simp only[Rep]at h3 h4;subst h3;first|(cases h4;done)|(cases h4;rfl;done)|(obtain⟨a,vs,e,_⟩:=h4;cases e;done))|(cases n<;>simp[DB]at h2)
 |.str b,w,v,n,_,h2,h3,h4=>by
  cases w<;>first|(simp only[Rep]at h3 h4;subst h3;first|(cases h4;done)|(cases h4;rfl;done)|(obtain⟨a,vs,e,_⟩:=h4;cases e;done))|(cases n<;>simp[DB]at h2)
 |.tup us,w,v,n,h1,h2,h3,h4=>by
  obtain⟨a,vs,rfl,q1,q2⟩:=h3;cases n with
  |zero=>simp[DB]at h1
  |succ n =>
   cases w with
   |tup ws =>
    obtain⟨a',DI,e,q3,q4⟩:=h4;cases e;rw[hK]at q1 q3;have:=I.dG q1 q3;subst this;simp only[DB]at h1 h2;rw[jT I hK us ws vs n h1 h2 q2 q4]
   |lst ws =>
    obtain⟨a',DI,e,q3,q4⟩:=h4;cases e;exact(gE I hK q3 q1).elim
   |Dy=>simp[DB]at h2
   |DV=>simp[DB]at h2
   |_=>simp only[Rep]at h4;cases h4
 |.lst us,w,v,n,h1,h2,h3,h4=>by
  obtain⟨a,vs,rfl,q1,q2⟩:=h3;cases n with
  |zero=>simp[DB]at h1
  |succ n =>
   cases w with
   |lst ws =>
    obtain⟨a',DI,e,q3,q4⟩:=h4;cases e;have:=rB I hK q1 q3;subst this;simp only[DB]at h1 h2;rw[jT I hK us ws vs n h1 h2 q2 q4]
   |tup ws =>
    obtain⟨a',DI,e,q3,q4⟩:=h4;cases e;exact(gE I hK q1 q3).elim
   |Dy=>simp[DB]at h2
   |DV=>simp[DB]at h2
   |_=>simp only[Rep]at h4;cases h4
 |.Dy _ _,_,_,n,h,_,_,_=>by cases n<;>simp[DB]at h
 |.DV _,_,_,n,h,_,_,_=>by cases n<;>simp[DB]at h
theorem jT(I:Inv X pins σ H s)(hK:C.K=X.K):∀(us ws:List U) (vs:List V) (n:Nat),bW n us=true->bW n ws=true->ai C S H us vs->ai C S H ws vs->us=ws
 |[],[],_,_,_,_,_,_=>rfl
 |[],w::ws,vs,n,_,_,h3,h4=>by
  obtain⟨v,r,e,_⟩:=h4;simp only[ai]at h3;rw[h3]at e;cases e
 |u::us,[],vs,n,_,_,h3,h4=>by
  obtain⟨v,r,e,_⟩:=h3;simp only[ai]at h4;rw[h4]at e;cases e
 |u::us,w::ws,vs,n,h1,h2,h3,h4=>by
  obtain⟨v,r,rfl,q1,q2⟩:=h3;obtain⟨v',r',e,q3,q4⟩:=h4;cases e;simp only[bW,Bool.and_eq_true]at h1 h2;rw[rC I hK u w v n h1.1 h2.1 q1 q3,jT I hK us ws r n h1.2 h2.2 q2 q4]
end
theorem cM:∀{us ws:List U},us.length≠ws.length->bA us ws=false
 |[],[],h=>absurd rfl h
 |[],_::_,_=>rfl
 |_::_,[],_=>rfl
 |u::us,w::ws,h=>by
  rw[bA,cM (us:=us) (ws:=ws) (λe=>h (by simp[e])),Bool.and_false]
theorem bQ:∀{us ws:List U},us.length=ws.length->bA us ws=(List.range us.length).all λj=>ba (us.getD j .DF) (ws.getD j .DF)
 |[],[],_=>rfl
 |[],_::_,h=>by simp at h
 |_::_,[],h=>by simp at h
 |u::us,w::ws,h=>by
  have h':us.length=ws.length:=by simpa using h
  rw[bA,bQ h',List.length_cons,List.range_succ_eq_map,List.all_cons,List.all_map];rfl
mutual
theorem vi(I:Inv X pins σ H s)(hK:C.K=X.K):∀(u w:U) (v v':V) (x x':Value) (n:Nat) (A:Around),DB n u=true->DB n w=true->Rep C S H u v->Rep C S H w v'->RelV v x->RelV v' x'->A.units+n<cLine->SeqAt.EqAt A s x x' (ba u w)
 |.DF,w,v,v',x,x',n,A,_,h2,h3,h4,r1,r2,hu=>by
  simp only[Rep]at h3;subst h3;cases r1;cases w with
  |DF=>simp only[Rep]at h4;subst h4;cases r2;exact SeqAt.EqAt.same _
  |bl b=>simp only[Rep]at h4;subst h4;cases r2;exact SeqAt.EqAt.none_bool b
  |int b=>simp only[Rep]at h4;subst h4;obtain⟨t,rfl⟩:=r2;exact SeqAt.EqAt.none_int b t
  |str b=>simp only[Rep]at h4;subst h4;obtain⟨t,rfl⟩:=r2;exact SeqAt.EqAt.none_str b t
  |tup ws=>obtain⟨a,vs,rfl,q1,q2⟩:=h4;cases r2;rw[hK]at q1;obtain⟨A',_,p,_⟩:=I.tuple q1;exact SeqAt.EqAt.none_tuple p (by omega)
  |lst ws=>obtain⟨a,vs,rfl,q1,q2⟩:=h4;cases r2;obtain⟨A',_,p,_⟩:=aK I hK q1;exact SeqAt.EqAt.none_list p (by omega)
  |Dy=>cases n<;>simp[DB]at h2
  |DV=>cases n<;>simp[DB]at h2
 |.bl a,w,v,v',x,x',n,A,_,h2,h3,h4,r1,r2,hu=>by
  simp only[Rep]at h3;subst h3;cases r1;cases w with
  |DF=>simp only[Rep]at h4;subst h4;cases r2;exact SeqAt.EqAt.bool_none a
  |bl b=>simp only[Rep]at h4;subst h4;cases r2;exact SeqAt.EqAt.bool_bool a b
  |int b=>simp only[Rep]at h4;subst h4;obtain⟨t,rfl⟩:=r2;exact SeqAt.EqAt.bool_int a b t
  |str b=>simp only[Rep]at h4;subst h4;obtain⟨t,rfl⟩:=r2;exact SeqAt.EqAt.bool_str a b t
  |tup ws=>obtain⟨a,vs,rfl,q1,q2⟩:=h4;cases r2;rw[hK]at q1;obtain⟨A',_,p,_⟩:=I.tuple q1;exact SeqAt.EqAt.bool_tuple _ p (by omega)
  |lst ws=>obtain⟨a,vs,rfl,q1,q2⟩:=h4;cases r2;obtain⟨A',_,p,_⟩:=aK I hK q1;exact SeqAt.EqAt.bool_list _ p (by omega)
  |Dy=>cases n<;>simp[DB]at h2
  |DV=>cases n<;>simp[DB]at h2
 |.int a,w,v,v',x,x',n,A,_,h2,h3,h4,r1,r2,hu=>by
  simp only[Rep]at h3;subst h3;obtain⟨t',rfl⟩:=r1;cases w with
  |DF=>simp only[Rep]at h4;subst h4;cases r2;exact SeqAt.EqAt.int_none a t'
  |bl b=>simp only[Rep]at h4;subst h4;cases r2;exact SeqAt.EqAt.int_bool a t' b
  |int b=>simp only[Rep]at h4;subst h4;obtain⟨t,rfl⟩:=r2;exact SeqAt.EqAt.int_int a t' b t
  |str b=>simp only[Rep]at h4;subst h4;obtain⟨t,rfl⟩:=r2;exact SeqAt.EqAt.int_str a t' b t
  |tup ws=>obtain⟨a,vs,rfl,q1,q2⟩:=h4;cases r2;rw[hK]at q1;obtain⟨A',_,p,_⟩:=I.tuple q1;exact SeqAt.EqAt.int_tuple _ _ p (by omega)
  |lst ws=>obtain⟨a,vs,rfl,q1,q2⟩:=h4;cases r2;obtain⟨A',_,p,_⟩:=aK I hK q1;exact SeqAt.EqAt.int_list _ _ p (by omega)
  |Dy=>cases n<;>simp[DB]at h2
  |DV=>cases n<;>simp[DB]at h2
 |.str a,w,v,v',x,x',n,A,_,h2,h3,h4,r1,r2,hu=>by
  simp only[Rep]at h3;subst h3;obtain⟨t',rfl⟩:=r1;cases w with
  |DF=>simp only[Rep]at h4;subst h4;cases r2;exact SeqAt.EqAt.str_none a t'
  |bl b=>simp only[Rep]at h4;subst h4;cases r2;exact SeqAt.EqAt.str_bool a t' b
  |int b=>simp only[Rep]at h4;subst h4;obtain⟨t,rfl⟩:=r2;exact SeqAt.EqAt.str_int a t' b t
  |str b=>simp only[Rep]at h4;subst h4;obtain⟨t,rfl⟩:=r2;exact SeqAt.EqAt.str_str a t' b t
  |tup ws=>obtain⟨a,vs,rfl,q1,q2⟩:=h4;cases r2;rw[hK]at q1;obtain⟨A',_,p,_⟩:=I.tuple q1;exact SeqAt.EqAt.str_tuple _ _ p (by omega)
  |lst ws=>obtain⟨a,vs,rfl,q1,q2⟩:=h4;cases r2;obtain⟨A',_,p,_⟩:=aK I hK q1;exact SeqAt.EqAt.str_list _ _ p (by omega)
  |Dy=>cases n<;>simp[DB]at h2
  |DV=>cases n<;>simp[DB]at h2
 |.tup us,w,v,v',x,x',n,A,h1,h2,h3,h4,r1,r2,hu=>by
  obtain⟨a,vs,rfl,q1,q2⟩:=id h3;cases r1;have O9:=q1;rw[hK]at O9;obtain⟨A',rv,p,_⟩:=I.tuple O9;cases n with
  |zero=>simp[DB]at h1
  |succ n =>
   cases w with
   |tup ws =>
    obtain⟨a',DI,rfl,q3,q4⟩:=id h4;cases r2;by_cases e:a=a'
    ·subst e;rw[qc I hK (.tup us) (.tup ws) (.ref a) (n+1) h1 h2 h3 h4];exact SeqAt.EqAt.same _
    ·rw[hK]at q3;obtain⟨its',Eh,p',_⟩:=I.tuple q3;simp only[DB]at h1 h2;have l1:=q2.len;have l2:=q4.len;have l3:=rv.length;have l4:=Eh.length;have ee:ba (.tup us) (.tup ws)=((List.range (min A'.toArray.size its'.toArray.size)).all (λj=>ba (us.getD j .DF) (ws.getD j .DF))&&A'.toArray.size==its'.toArray.size):=by
      show bA us ws=_;simp only[List.size_toArray];by_cases el:us.length=ws.length
      ·rw[bQ el,show min A'.length its'.length=us.length by omega,show(A'.length==its'.length)=true by simp;omega,Bool.and_true]
      ·rw[cM el,show(A'.length==its'.length)=false by simp;omega,Bool.and_false]
     rw[ee];refine .of_refs e (.tuples p p' (by omega) λj Fu E5=>?_);simp only[List.size_toArray]at Fu E5;exact jU I hK us ws vs DI A' its' n A.in1 h1 h2 q2 q4 rv Eh (by show A.units+1+n < _;omega) j (us.getD j .DF) (ws.getD j .DF) _ _ (by rw[List.getD_eq_getElem?_getD,List.getElem?_eq_getElem (by omega)];simp) (by rw[List.getD_eq_getElem?_getD,List.getElem?_eq_getElem (by omega)];simp) (by simp) (by simp)
   |lst ws=>obtain⟨a',DI,rfl,q3,q4⟩:=h4;cases r2;obtain⟨its',_,p',_⟩:=aK I hK q3;exact SeqAt.EqAt.tuple_list p p' (by omega)
   |DF=>simp only[Rep]at h4;subst h4;cases r2;exact SeqAt.EqAt.tuple_none p (by omega)
   |bl b=>simp only[Rep]at h4;subst h4;cases r2;exact SeqAt.EqAt.tuple_bool b p (by omega)
   |int b=>simp only[Rep]at h4;subst h4;obtain⟨t,rfl⟩:=r2;exact SeqAt.EqAt.tuple_int b t p (by omega)
   |str b=>simp only[Rep]at h4;subst h4;obtain⟨t,rfl⟩:=r2;exact SeqAt.EqAt.tuple_str b t p (by omega)
   |Dy=>simp[DB]at h2
   |DV=>simp[DB]at h2
 |.lst us,w,v,v',x,x',n,A,h1,h2,h3,h4,r1,r2,hu=>by
  obtain⟨a,vs,rfl,q1,q2⟩:=id h3;cases r1;obtain⟨A',rv,p,_⟩:=aK I hK q1;cases n with
  |zero=>simp[DB]at h1
  |succ n =>
   cases w with
   |lst ws =>
    obtain⟨a',DI,rfl,q3,q4⟩:=id h4;cases r2;by_cases e:a=a'
    ·subst e;rw[qc I hK (.lst us) (.lst ws) (.ref a) (n+1) h1 h2 h3 h4];exact SeqAt.EqAt.same _
    ·obtain⟨its',Eh,p',_⟩:=aK I hK q3;simp only[DB]at h1 h2;have l1:=q2.len;have l2:=q4.len;have l3:=rv.length;have l4:=Eh.length;by_cases el:us.length=ws.length
     ·have ee:ba (.lst us) (.lst ws)=(List.range A'.toArray.size).all (λj=>ba (us.getD j .DF) (ws.getD j .DF)):=by
       show bA us ws=_;rw[bQ el,List.size_toArray,show A'.length=us.length by omega]
      rw[ee];refine .of_refs e (.lists p p' (by simp;omega) (by omega) λj Fu E5=>?_);simp only[List.size_toArray]at Fu E5;exact jU I hK us ws vs DI A' its' n A.in1 h1 h2 q2 q4 rv Eh (by show A.units+1+n < _;omega) j (us.getD j .DF) (ws.getD j .DF) _ _ (by rw[List.getD_eq_getElem?_getD,List.getElem?_eq_getElem (by omega)];simp) (by rw[List.getD_eq_getElem?_getD,List.getElem?_eq_getElem (by omega)];simp) (by simp) (by simp)
     ·have ee:ba (.lst us) (.lst ws)=false:=cM el;rw[ee];exact .of_refs e (.lists_lengths p p' (by simp;omega) (by omega))
   |tup ws=>obtain⟨a',DI,rfl,q3,q4⟩:=h4;cases r2;rw[hK]at q3;obtain⟨its',_,p',_⟩:=I.tuple q3;exact SeqAt.EqAt.list_tuple p p' (by omega)
   |DF=>simp only[Rep]at h4;subst h4;cases r2;exact SeqAt.EqAt.list_none p (by omega)
   |bl b=>simp only[Rep]at h4;subst h4;cases r2;exact SeqAt.EqAt.list_bool b p (by omega)
   |int b=>simp only[Rep]at h4;subst h4;obtain⟨t,rfl⟩:=r2;exact SeqAt.EqAt.list_int b t p (by omega)
   |str b=>simp only[Rep]at h4;subst h4;obtain⟨t,rfl⟩:=r2;exact SeqAt.EqAt.list_str b t p (by omega)
   |Dy=>simp[DB]at h2
   |DV=>simp[DB]at h2
 |.Dy _ _,_,_,_,_,_,n,_,h,_,_,_,_,_,_=>by cases n<;>simp[DB]at h
 |.DV _,_,_,_,_,_,n,_,h,_,_,_,_,_,_=>by cases n<;>simp[DB]at h
theorem jU(I:Inv X pins σ H s)(hK:C.K=X.K):∀(us ws:List U) (vs DI:List V) (A' its':List Value) (n:Nat) (A:Around),bW n us=true->bW n ws=true->ai C S H us vs->ai C S H ws DI->Vals vs A'->Vals DI its'->A.units+n<cLine ->
  ∀(j:Nat) (u w:U) (x x':Value),us[j]?=some u->ws[j]?=some w->A'[j]?=some x->its'[j]?=some x'->SeqAt.EqAt A s x x' (ba u w)
 |[],_,_,_,_,_,_,_,_,_,_,_,_,_,_,j,_,_,_,_,e,_,_,_=>by simp at e
 |u::us,[],_,_,_,_,_,_,_,_,_,_,_,_,_,j,_,_,_,_,_,e,_,_=>by simp at e
 |u::us,w::ws,vs,DI,A',its',n,A,h1,h2,h3,h4,r1,r2,hu,j,u',w',x,x',e1,e2,e3,e4=>by
  obtain⟨v,r,rfl,q1,q2⟩:=h3;obtain⟨v',r',rfl,q3,q4⟩:=h4;simp only[bW,Bool.and_eq_true]at h1 h2;cases r1 with
  |cons ra rb =>
   cases r2 with
   |cons rc rd =>
    cases j with
    |zero =>
     simp at e1 e2 e3 e4;subst e1 e2 e3 e4;exact vi I hK u w v v' _ _ n A h1.1 h2.1 q1 q3 ra rc hu
    |succ j=>exact jU I hK us ws r r' _ _ n A h1.2 h2.2 q2 q4 rb rd hu j u' w' x x' (by simpa using e1) (by simpa using e2) (by simpa using e3) (by simpa using e4)
end
end
section
variable{X:Cx}{pins:List (Addr×Obj)}{σ:St}{H:Hp}{s:Shared}{C:Ct}{S:Addr->Prop}
theorem Ds(I:Inv X pins σ H s)(hK:C.K=X.K)(u w:U)(v v':V)(x x':Value)(n:Nat)(A:Around)(h1:DB n u=true)(h2:DB n w=true)(h3:Rep C S H u v)(h4:Rep C S H w v')(r1:RelV v x)(r2:RelV v' x')(hu:A.units+n<cLine):SeqAt.RcAt A s x x' (ba u w):=by
 cases u with
 |DF =>
  simp only[Rep]at h3;subst h3;cases r1;cases w with
  |DF=>simp only[Rep]at h4;subst h4;cases r2;exact SeqAt.RcAt.none_none
  |bl q=>simp only[Rep]at h4;subst h4;cases r2;exact SeqAt.RcAt.none_bool  q
  |int q=>simp only[Rep]at h4;subst h4;obtain⟨t,rfl⟩:=r2;exact SeqAt.RcAt.none_int  q t
  |str q=>simp only[Rep]at h4;subst h4;obtain⟨t,rfl⟩:=r2;exact SeqAt.RcAt.none_str  q t
  |tup ws=>obtain⟨a',DI,rfl,q3,q4⟩:=id h4;cases r2;rw[hK]at q3;obtain⟨its',Eh,p',_⟩:=I.tuple q3;exact SeqAt.RcAt.none_tuple  p' (by omega)
  |lst ws=>obtain⟨a',DI,rfl,q3,q4⟩:=id h4;cases r2;obtain⟨its',Eh,p',_⟩:=aK I hK q3;exact SeqAt.RcAt.none_list  p' (by omega)
  |Dy=>cases n<;>simp[DB]at h2
  |DV=>cases n<;>simp[DB]at h2
 |bl p =>
  simp only[Rep]at h3;subst h3;cases r1;cases w with
  |DF=>simp only[Rep]at h4;subst h4;cases r2;exact SeqAt.RcAt.bool_none p
  |bl q=>simp only[Rep]at h4;subst h4;cases r2;exact SeqAt.RcAt.bool_bool p q
  |int q=>simp only[Rep]at h4;subst h4;obtain⟨t,rfl⟩:=r2;exact SeqAt.RcAt.bool_int p q t
  |str q=>simp only[Rep]at h4;subst h4;obtain⟨t,rfl⟩:=r2;exact SeqAt.RcAt.bool_str p q t
  |tup ws=>obtain⟨a',DI,rfl,q3,q4⟩:=id h4;cases r2;rw[hK]at q3;obtain⟨its',Eh,p',_⟩:=I.tuple q3;exact SeqAt.RcAt.bool_tuple p p' (by omega)
  |lst ws=>obtain⟨a',DI,rfl,q3,q4⟩:=id h4;cases r2;obtain⟨its',Eh,p',_⟩:=aK I hK q3;exact SeqAt.RcAt.bool_list p p' (by omega)
  |Dy=>cases n<;>simp[DB]at h2
  |DV=>cases n<;>simp[DB]at h2
 |int p =>
  simp only[Rep]at h3;subst h3;obtain⟨t',rfl⟩:=r1;cases w with
  |DF=>simp only[Rep]at h4;subst h4;cases r2;exact SeqAt.RcAt.int_none p t'
  |bl q=>simp only[Rep]at h4;subst h4;cases r2;exact SeqAt.RcAt.int_bool p t' q
  |int q=>simp only[Rep]at h4;subst h4;obtain⟨t,rfl⟩:=r2;exact SeqAt.RcAt.int_int p t' q t
  |str q=>simp only[Rep]at h4;subst h4;obtain⟨t,rfl⟩:=r2;exact SeqAt.RcAt.int_str p t' q t
  |tup ws=>obtain⟨a',DI,rfl,q3,q4⟩:=id h4;cases r2;rw[hK]at q3;obtain⟨its',Eh,p',_⟩:=I.tuple q3;exact SeqAt.RcAt.int_tuple p t' p' (by omega)
  |lst ws=>obtain⟨a',DI,rfl,q3,q4⟩:=id h4;cases r2;obtain⟨its',Eh,p',_⟩:=aK I hK q3;exact SeqAt.RcAt.int_list p t' p' (by omega)
  |Dy=>cases n<;>simp[DB]at h2
  |DV=>cases n<;>simp[DB]at h2
 |str p =>
  simp only[Rep]at h3;subst h3;obtain⟨t',rfl⟩:=r1;cases w with
  |DF=>simp only[Rep]at h4;subst h4;cases r2;exact SeqAt.RcAt.str_none p t'
  |bl q=>simp only[Rep]at h4;subst h4;cases r2;exact SeqAt.RcAt.str_bool p t' q
  |int q=>simp only[Rep]at h4;subst h4;obtain⟨t,rfl⟩:=r2;exact SeqAt.RcAt.str_int p t' q t
  |str q=>simp only[Rep]at h4;subst h4;obtain⟨t,rfl⟩:=r2;exact SeqAt.RcAt.str_str p t' q t
  |tup ws=>obtain⟨a',DI,rfl,q3,q4⟩:=id h4;cases r2;rw[hK]at q3;obtain⟨its',Eh,p',_⟩:=I.tuple q3;exact SeqAt.RcAt.str_tuple p t' p' (by omega)
  |lst ws=>obtain⟨a',DI,rfl,q3,q4⟩:=id h4;cases r2;obtain⟨its',Eh,p',_⟩:=aK I hK q3;exact SeqAt.RcAt.str_list p t' p' (by omega)
  |Dy=>cases n<;>simp[DB]at h2
  |DV=>cases n<;>simp[DB]at h2
 |tup us =>
  obtain⟨a,vs,rfl,q1,q2⟩:=id h3;cases r1;rw[hK]at q1;obtain⟨A',rv,p,_⟩:=I.tuple q1;cases w with
  |DF=>simp only[Rep]at h4;subst h4;cases r2;exact SeqAt.RcAt.tuple_none  p (by omega)
  |bl q=>simp only[Rep]at h4;subst h4;cases r2;exact SeqAt.RcAt.tuple_bool q p (by omega)
  |int q=>simp only[Rep]at h4;subst h4;obtain⟨t,rfl⟩:=r2;exact SeqAt.RcAt.tuple_int q t p (by omega)
  |str q=>simp only[Rep]at h4;subst h4;obtain⟨t,rfl⟩:=r2;exact SeqAt.RcAt.tuple_str q t p (by omega)
  |tup ws =>
   obtain⟨a',DI,rfl,q3,q4⟩:=id h4;cases r2;rw[hK]at q3;obtain⟨its',Eh,p',_⟩:=I.tuple q3;cases n with
   |zero=>simp[DB]at h1
   |succ n =>
    simp only[DB]at h1 h2;have l1:=q2.len;have l2:=q4.len;have l3:=rv.length;have l4:=Eh.length;have ee:ba (.tup us) (.tup ws)=((List.range (min A'.toArray.size its'.toArray.size)).all (λj=>ba (us.getD j .DF) (ws.getD j .DF))&&A'.toArray.size==its'.toArray.size):=by
     show bA us ws=_;simp only[List.size_toArray];by_cases el:us.length=ws.length
     ·rw[bQ el,show min A'.length its'.length=us.length by omega,show(A'.length==its'.length)=true by simp;omega,Bool.and_true]
     ·rw[cM el,show(A'.length==its'.length)=false by simp;omega,Bool.and_false]
    rw[ee];refine SeqAt.RcAt.tuples p p' (by omega) λj Fu E5=>?_;simp only[List.size_toArray]at Fu E5;exact jU I hK us ws vs DI A' its' n A.in1 h1 h2 q2 q4 rv Eh (by show A.units+1+n < _;omega) j (us.getD j .DF) (ws.getD j .DF) _ _ (by rw[List.getD_eq_getElem?_getD,List.getElem?_eq_getElem (by omega)];simp) (by rw[List.getD_eq_getElem?_getD,List.getElem?_eq_getElem (by omega)];simp) (by simp) (by simp)
  |lst ws=>obtain⟨a',DI,rfl,q3,q4⟩:=id h4;cases r2;obtain⟨its',Eh,p',_⟩:=aK I hK q3;exact SeqAt.RcAt.tuple_list p p' (by omega)
  |Dy=>cases n<;>simp[DB]at h2
  |DV=>cases n<;>simp[DB]at h2
 |lst us =>
  obtain⟨a,vs,rfl,q1,q2⟩:=id h3;cases r1;obtain⟨A',rv,p,_⟩:=aK I hK q1;cases w with
  |DF=>simp only[Rep]at h4;subst h4;cases r2;exact SeqAt.RcAt.list_none  p (by omega)
  |bl q=>simp only[Rep]at h4;subst h4;cases r2;exact SeqAt.RcAt.list_bool q p (by omega)
  |int q=>simp only[Rep]at h4;subst h4;obtain⟨t,rfl⟩:=r2;exact SeqAt.RcAt.list_int q t p (by omega)
  |str q=>simp only[Rep]at h4;subst h4;obtain⟨t,rfl⟩:=r2;exact SeqAt.RcAt.list_str q t p (by omega)
  |tup ws=>obtain⟨a',DI,rfl,q3,q4⟩:=id h4;cases r2;rw[hK]at q3;obtain⟨its',Eh,p',_⟩:=I.tuple q3;exact SeqAt.RcAt.list_tuple p p' (by omega)
  |lst ws =>
   obtain⟨a',DI,rfl,q3,q4⟩:=id h4;cases r2;obtain⟨its',Eh,p',_⟩:=aK I hK q3;cases n with
   |zero=>simp[DB]at h1
   |succ n =>
    simp only[DB]at h1 h2;have l1:=q2.len;have l2:=q4.len;have l3:=rv.length;have l4:=Eh.length;by_cases el:us.length=ws.length
    ·have ee:ba (.lst us) (.lst ws)=(List.range A'.toArray.size).all (λj=>ba (us.getD j .DF) (ws.getD j .DF)):=by
      show bA us ws=_;rw[bQ el,List.size_toArray,show A'.length=us.length by omega]
     rw[ee];refine SeqAt.RcAt.lists p p' (by simp;omega) (by omega) λj Fu E5=>?_;simp only[List.size_toArray]at Fu E5;exact jU I hK us ws vs DI A' its' n A.in1 h1 h2 q2 q4 rv Eh (by show A.units+1+n < _;omega) j (us.getD j .DF) (ws.getD j .DF) _ _ (by rw[List.getD_eq_getElem?_getD,List.getElem?_eq_getElem (by omega)];simp) (by rw[List.getD_eq_getElem?_getD,List.getElem?_eq_getElem (by omega)];simp) (by simp) (by simp)
    ·have ee:ba (.lst us) (.lst ws)=false:=cM el;rw[ee];exact SeqAt.RcAt.lists_lengths p p' (by simp;omega) (by omega)
  |Dy=>cases n<;>simp[DB]at h2
  |DV=>cases n<;>simp[DB]at h2
 |Dy=>cases n<;>simp[DB]at h1
 |DV=>cases n<;>simp[DB]at h1
theorem Aw(I:Inv X pins σ H s)(hK:C.K=X.K)(u w:U)(v v':V)(x x':Value)(n:Nat)(A:Around)(h1:DB n u=true)(h2:DB n w=true)(h3:Rep C S H u v)(h4:Rep C S H w v')(r1:RelV v x)(r2:RelV v' x')(hu:A.units+n<cLine):SeqAt.RcNeAt A s x x' (!(ba u w)):=by
 cases u with
 |DF =>
  simp only[Rep]at h3;subst h3;cases r1;cases w with
  |DF=>simp only[Rep]at h4;subst h4;cases r2;exact SeqAt.RcNeAt.none_none
  |bl q=>simp only[Rep]at h4;subst h4;cases r2;exact SeqAt.RcNeAt.none_bool  q
  |int q=>simp only[Rep]at h4;subst h4;obtain⟨t,rfl⟩:=r2;exact SeqAt.RcNeAt.none_int  q t
  |str q=>simp only[Rep]at h4;subst h4;obtain⟨t,rfl⟩:=r2;exact SeqAt.RcNeAt.none_str  q t
  |tup ws=>obtain⟨a',DI,rfl,q3,q4⟩:=id h4;cases r2;rw[hK]at q3;obtain⟨its',Eh,p',_⟩:=I.tuple q3;exact SeqAt.RcNeAt.none_tuple  p' (by omega)
  |lst ws=>obtain⟨a',DI,rfl,q3,q4⟩:=id h4;cases r2;obtain⟨its',Eh,p',_⟩:=aK I hK q3;exact SeqAt.RcNeAt.none_list  p' (by omega)
  |Dy=>cases n<;>simp[DB]at h2
  |DV=>cases n<;>simp[DB]at h2
 |bl p =>
  simp only[Rep]at h3;subst h3;cases r1;cases w with
  |DF=>simp only[Rep]at h4;subst h4;cases r2;exact SeqAt.RcNeAt.bool_none p
  |bl q=>simp only[Rep]at h4;subst h4;cases r2;exact SeqAt.RcNeAt.bool_bool p q
  |int q=>simp only[Rep]at h4;subst h4;obtain⟨t,rfl⟩:=r2;exact SeqAt.RcNeAt.bool_int p q t
  |str q=>simp only[Rep]at h4;subst h4;obtain⟨t,rfl⟩:=r2;exact SeqAt.RcNeAt.bool_str p q t
  |tup ws=>obtain⟨a',DI,rfl,q3,q4⟩:=id h4;cases r2;rw[hK]at q3;obtain⟨its',Eh,p',_⟩:=I.tuple q3;exact SeqAt.RcNeAt.bool_tuple p p' (by omega)
  |lst ws=>obtain⟨a',DI,rfl,q3,q4⟩:=id h4;cases r2;obtain⟨its',Eh,p',_⟩:=aK I hK q3;exact SeqAt.RcNeAt.bool_list p p' (by omega)
  |Dy=>cases n<;>simp[DB]at h2
  |DV=>cases n<;>simp[DB]at h2
 |int p =>
  simp only[Rep]at h3;subst h3;obtain⟨t',rfl⟩:=r1;cases w with
  |DF=>simp only[Rep]at h4;subst h4;cases r2;exact SeqAt.RcNeAt.int_none p t'
  |bl q=>simp only[Rep]at h4;subst h4;cases r2;exact SeqAt.RcNeAt.int_bool p t' q
  |int q=>simp only[Rep]at h4;subst h4;obtain⟨t,rfl⟩:=r2;exact SeqAt.RcNeAt.int_int p t' q t
  |str q=>simp only[Rep]at h4;subst h4;obtain⟨t,rfl⟩:=r2;exact SeqAt.RcNeAt.int_str p t' q t
  |tup ws=>obtain⟨a',DI,rfl,q3,q4⟩:=id h4;cases r2;rw[hK]at q3;obtain⟨its',Eh,p',_⟩:=I.tuple q3;exact SeqAt.RcNeAt.int_tuple p t' p' (by omega)
  |lst ws=>obtain⟨a',DI,rfl,q3,q4⟩:=id h4;cases r2;obtain⟨its',Eh,p',_⟩:=aK I hK q3;exact SeqAt.RcNeAt.int_list p t' p' (by omega)
  |Dy=>cases n<;>simp[DB]at h2
  |DV=>cases n<;>simp[DB]at h2
 |str p =>
  simp only[Rep]at h3;subst h3;obtain⟨t',rfl⟩:=r1;cases w with
  |DF=>simp only[Rep]at h4;subst h4;cases r2;exact SeqAt.RcNeAt.str_none p t'
  |bl q=>simp only[Rep]at h4;subst h4;cases r2;exact SeqAt.RcNeAt.str_bool p t' q
  |int q=>simp only[Rep]at h4;subst h4;obtain⟨t,rfl⟩:=r2;exact SeqAt.RcNeAt.str_int p t' q t
  |str q=>simp only[Rep]at h4;subst h4;obtain⟨t,rfl⟩:=r2;exact SeqAt.RcNeAt.str_str p t' q t
  |tup ws=>obtain⟨a',DI,rfl,q3,q4⟩:=id h4;cases r2;rw[hK]at q3;obtain⟨its',Eh,p',_⟩:=I.tuple q3;exact SeqAt.RcNeAt.str_tuple p t' p' (by omega)
  |lst ws=>obtain⟨a',DI,rfl,q3,q4⟩:=id h4;cases r2;obtain⟨its',Eh,p',_⟩:=aK I hK q3;exact SeqAt.RcNeAt.str_list p t' p' (by omega)
  |Dy=>cases n<;>simp[DB]at h2
  |DV=>cases n<;>simp[DB]at h2
 |tup us =>
  obtain⟨a,vs,rfl,q1,q2⟩:=id h3;cases r1;rw[hK]at q1;obtain⟨A',rv,p,_⟩:=I.tuple q1;cases w with
  |DF=>simp only[Rep]at h4;subst h4;cases r2;exact SeqAt.RcNeAt.tuple_none  p (by omega)
  |bl q=>simp only[Rep]at h4;subst h4;cases r2;exact SeqAt.RcNeAt.tuple_bool q p (by omega)
  |int q=>simp only[Rep]at h4;subst h4;obtain⟨t,rfl⟩:=r2;exact SeqAt.RcNeAt.tuple_int q t p (by omega)
  |str q=>simp only[Rep]at h4;subst h4;obtain⟨t,rfl⟩:=r2;exact SeqAt.RcNeAt.tuple_str q t p (by omega)
  |tup ws =>
   obtain⟨a',DI,rfl,q3,q4⟩:=id h4;cases r2;rw[hK]at q3;obtain⟨its',Eh,p',_⟩:=I.tuple q3;cases n with
   |zero=>simp[DB]at h1
   |succ n =>
    simp only[DB]at h1 h2;have l1:=q2.len;have l2:=q4.len;have l3:=rv.length;have l4:=Eh.length;have ee:ba (.tup us) (.tup ws)=((List.range (min A'.toArray.size its'.toArray.size)).all (λj=>ba (us.getD j .DF) (ws.getD j .DF))&&A'.toArray.size==its'.toArray.size):=by
     show bA us ws=_;simp only[List.size_toArray];by_cases el:us.length=ws.length
     ·rw[bQ el,show min A'.length its'.length=us.length by omega,show(A'.length==its'.length)=true by simp;omega,Bool.and_true]
     ·rw[cM el,show(A'.length==its'.length)=false by simp;omega,Bool.and_false]
    rw[ee];refine SeqAt.RcNeAt.tuples p p' (by omega) λj Fu E5=>?_;simp only[List.size_toArray]at Fu E5;exact jU I hK us ws vs DI A' its' n A.in1 h1 h2 q2 q4 rv Eh (by show A.units+1+n < _;omega) j (us.getD j .DF) (ws.getD j .DF) _ _ (by rw[List.getD_eq_getElem?_getD,List.getElem?_eq_getElem (by omega)];simp) (by rw[List.getD_eq_getElem?_getD,List.getElem?_eq_getElem (by omega)];simp) (by simp) (by simp)
  |lst ws=>obtain⟨a',DI,rfl,q3,q4⟩:=id h4;cases r2;obtain⟨its',Eh,p',_⟩:=aK I hK q3;exact SeqAt.RcNeAt.tuple_list p p' (by omega)
  |Dy=>cases n<;>simp[DB]at h2
  |DV=>cases n<;>simp[DB]at h2
 |lst us =>
  obtain⟨a,vs,rfl,q1,q2⟩:=id h3;cases r1;obtain⟨A',rv,p,_⟩:=aK I hK q1;cases w with
  |DF=>simp only[Rep]at h4;subst h4;cases r2;exact SeqAt.RcNeAt.list_none  p (by omega)
  |bl q=>simp only[Rep]at h4;subst h4;cases r2;exact SeqAt.RcNeAt.list_bool q p (by omega)
  |int q=>simp only[Rep]at h4;subst h4;obtain⟨t,rfl⟩:=r2;exact SeqAt.RcNeAt.list_int q t p (by omega)
  |str q=>simp only[Rep]at h4;subst h4;obtain⟨t,rfl⟩:=r2;exact SeqAt.RcNeAt.list_str q t p (by omega)
  |tup ws=>obtain⟨a',DI,rfl,q3,q4⟩:=id h4;cases r2;rw[hK]at q3;obtain⟨its',Eh,p',_⟩:=I.tuple q3;exact SeqAt.RcNeAt.list_tuple p p' (by omega)
  |lst ws =>
   obtain⟨a',DI,rfl,q3,q4⟩:=id h4;cases r2;obtain⟨its',Eh,p',_⟩:=aK I hK q3;cases n with
   |zero=>simp[DB]at h1
   |succ n =>
    simp only[DB]at h1 h2;have l1:=q2.len;have l2:=q4.len;have l3:=rv.length;have l4:=Eh.length;by_cases el:us.length=ws.length
    ·have ee:ba (.lst us) (.lst ws)=(List.range A'.toArray.size).all (λj=>ba (us.getD j .DF) (ws.getD j .DF)):=by
      show bA us ws=_;rw[bQ el,List.size_toArray,show A'.length=us.length by omega]
     rw[ee];refine SeqAt.RcNeAt.lists p p' (by simp;omega) (by omega) λj Fu E5=>?_;simp only[List.size_toArray]at Fu E5;exact jU I hK us ws vs DI A' its' n A.in1 h1 h2 q2 q4 rv Eh (by show A.units+1+n < _;omega) j (us.getD j .DF) (ws.getD j .DF) _ _ (by rw[List.getD_eq_getElem?_getD,List.getElem?_eq_getElem (by omega)];simp) (by rw[List.getD_eq_getElem?_getD,List.getElem?_eq_getElem (by omega)];simp) (by simp) (by simp)
    ·have ee:ba (.lst us) (.lst ws)=false:=cM el;rw[ee];exact SeqAt.RcNeAt.lists_lengths p p' (by simp;omega) (by omega)
  |Dy=>cases n<;>simp[DB]at h2
  |DV=>cases n<;>simp[DB]at h2
 |Dy=>cases n<;>simp[DB]at h1
 |DV=>cases n<;>simp[DB]at h1
end
end TM
namespace TM
open PySem L2 PyProof.Rows
def DH(C:Ct)(m:M (Kd×U)):TE:=λσ H Q=>∃c0:Cf,c0.σ=σ/\c0.H=H/\Ok C c0/\W m c0.st λr st'=>∀c v,c.σ=σ->c.st=st'->Ok C c->Nx c0 c->aE C c0 c r.1 r.2 v->Q v c.H
def EH(C:Ct)(m:M Bool):TT:=λσ H Q=>∃c0:Cf,c0.σ=σ/\c0.H=H/\Ok C c0/\W m c0.st λb st'=>∀c,c.σ=σ->c.st=st'->Ok C c->Nx c0 c->Q b c.H
def dh(C:Ct)(c0 c:Cf):List (Kd×U)->List V->Prop
 |[],vs=>vs=[]
 |r::rs,vs=>∃v t,vs=v::t/\eR C c0 c r.1 r.2 v/\dh C c0 c rs t/\(r.1=.own->∀(i:Nat) r' v',rs[i]?=some r'->t[i]?=some v'->r'.1=.own->v'≠v)
def EU(C:Ct)(m:M (List (Kd×U))):TA:=λσ H Q=>∃c0:Cf,c0.σ=σ/\c0.H=H/\Ok C c0/\W m c0.st λrs st'=>∀c vs,c.σ=σ->c.st=st'->Ok C c->Nx c0 c->dh C c0 c rs vs->Q vs c.H
section
theorem PE.weak(h:PE X e t)(i:∀σ H Q,t' σ H Q->t σ H Q):PE X e t':=λpins s σ H Q I q=>h pins s σ H Q I (i σ H Q q)
theorem PT.weak(h:PT X e t)(i:∀σ H Q,t' σ H Q->t σ H Q):PT X e t':=λpins s σ H Q I q=>h pins s σ H Q I (i σ H Q q)
theorem cj{st:au}:W (aw rs) st Q↔bb rs st/\Q () st:=by
 constructor
 ·rintro⟨a,st',e,h⟩;unfold aw at e;split at e
  ·cases e;exact⟨by assumption,h⟩
  ·cases e
 ·rintro⟨h1,h2⟩;exact⟨(),st,by unfold aw;rw[if_pos h1],h2⟩
theorem fj{st:au}:bb (r::rs) st↔bb [r] st/\bb rs st:=by
 obtain⟨k,u⟩:=r;cases k<;>simp[bb]
theorem eR.t(h:eR C c0 c k u v)(s:bb [(k,u)] c.st):aE C c0 c k u v:=by
 cases k with
 |own=>exact h
 |loc=>exact h
 |any=>exact h
 |bor j=>exact⟨s.1,h⟩
 |io=>exact h
 |Dw=>exact h
structure Kv(C:Ct)(c0 c:Cf)(x y:Kd×U)(vx vy:V):Prop where
 hσ:c.σ=c0.σ
 ok:Ok C c
 nx:Nx c0 c
 rx:aE C c0 c x.1 x.2 vx
 ry:aE C c0 c y.1 y.2 vy
 ne:x.1=.own->y.1=.own->vy≠vx
theorem mR(h:eR C c0 c1 k u v)(h':eR C c1 c k' u' v'):k=.own->k'=.own->v'≠v:=by
 rintro rfl rfl e;obtain⟨r,e1,_,_,_,h4⟩:=h;obtain⟨r',e2,h5,_⟩:=h';obtain⟨o,ho,_⟩:=h4.some;subst e1;rw[e2]at e;cases e;rw[ho]at h5;cases h5
theorem two{k:Kd×U->Kd×U->M β}{DL:β->au->Prop}{f:Value->Value->Sem α}{Q':Value->Value->α->Shared->Prop}(ha:PE X a (DH C ma))(hb:PE X b (DH C mb))(I:Inv X pins c0.σ c0.H s)(ok:Ok C c0)
  (h:W (ma >>= λx=>mb >>= λy=>aw [x,y] >>= λ_=>k x y) c0.st DL)
  (hf:∀x y c vx vy v u s2,Kv C c0 c x y vx vy->Inv X pins c.σ c.H s2->RelV vx v->RelV vy u->W (k x y) c.st DL->wpAny (model X.prog X.w) X.A (f v u) (Q' v u) X.xe s2) :
  wpAny (model X.prog X.w) X.A (eval a X.env) (λv s₁=>wpAny (model X.prog X.w) X.A (eval b X.env) (λu s₂=>wpAny (model X.prog X.w) X.A (f v u) (Q' v u) X.xe s₂) X.xe s₁) X.xe s:=by
 rw[ae]at h;refine DG (ha pins s c0.σ c0.H (λvx H1=>∃x c1,c1.H=H1/\c1.σ=c0.σ/\Ok C c1/\Nx c0 c1/\aE C c0 c1 x.1 x.2 vx/\W (mb >>= λy=>aw [x,y] >>= λ_=>k x y) c1.st DL) I ⟨c0,rfl,rfl,ok,h.mono λx st1 h1 c1 vx e1 e2 DK n1 r1=>⟨x,c1,rfl,e1,DK,n1,r1,by rw[e2];exact h1⟩⟩) ?_;rintro v s1 ⟨vx,H1,I1,rv,x,c1,rfl,e1,DK,n1,r1,h1⟩;rw[ae]at h1;refine DG (hb pins s1 c0.σ c1.H (λvy H2=>∃y c2,c2.H=H2/\Kv C c0 c2 x y vx vy/\W (k x y) c2.st DL) I1 ⟨c1,e1,rfl,DK,h1.mono λy st2 h2 c2 vy e3 e4 D0 n2 r2=>?_⟩) ?_
 ·rw[ae,cj]at h2;subst e4;rw[fj]at h2;exact⟨y,c2,rfl,⟨e3,D0,n1.trans n2,(r1.w.on DK n2 (e3.trans e1.symm)).t h2.1.1,(r2.from n1),mR r1.w r2.w⟩,h2.2⟩
 ·rintro u s2 ⟨vy,H2,I2,ru,y,c2,rfl,at2,h2⟩;have hs:c2.σ=c0.σ:=at2.hσ;exact hf x y c2 vx vy v u s2 at2 (by rw[hs];exact I2) rv ru h2
structure IQ(C:Ct)(c0 c:Cf)(x:Kd×U)(vx:V):Prop where
 hσ:c.σ=c0.σ
 ok:Ok C c
 nx:Nx c0 c
 rx:aE C c0 c x.1 x.2 vx
theorem one{k:Kd×U->M β}{DL:β->au->Prop}{f:Value->Sem α}{Q':α->Shared->Prop}(ha:PE X a (DH C ma))(I:Inv X pins c0.σ c0.H s)(ok:Ok C c0)
  (h:W (ma >>= λx=>k x) c0.st DL)
  (hf:∀x c vx v s2,IQ C c0 c x vx->Inv X pins c.σ c.H s2->RelV vx v->W (k x) c.st DL->wpAny (model X.prog X.w) X.A (f v) Q' X.xe s2) :
  wpAny (model X.prog X.w) X.A (eval a X.env) (λv s₁=>wpAny (model X.prog X.w) X.A (f v) Q' X.xe s₁) X.xe s:=by
 rw[ae]at h;refine DG (ha pins s c0.σ c0.H (λvx H1=>∃x c1,c1.H=H1/\IQ C c0 c1 x vx/\W (k x) c1.st DL) I ⟨c0,rfl,rfl,ok,h.mono λx st1 h1 c1 vx e1 e2 DK n1 r1=>⟨x,c1,rfl,⟨e1,DK,n1,r1⟩,by rw[e2];exact h1⟩⟩) ?_;rintro v s1 ⟨vx,H1,I1,rv,x,c1,rfl,O_,h1⟩;exact hf x c1 vx v s1 O_ (by rw[O_.hσ];exact I1) rv h1
def bT(C:Ct)(c0:Cf)(Q:VK)(r:Kd×U)(st':au):Prop:=∀c v,c.σ=c0.σ->c.st=st'->Ok C c->Nx c0 c->aE C c0 c r.1 r.2 v->Q v c.H
section
theorem bT.flat(h:bT C c0 Q (.loc,u) c.st)(hσ:c.σ=c0.σ)(ok:Ok C c)(n:Nx c0 c)(r:Rep C c.S c.H u v):Q v c.H:=h c v hσ rfl ok n r
theorem bT.list(h:bT C c0 Q (.own,.lst us) c.st)(hσ:c.σ=c0.σ)(ok:Ok C c)(n:Nx c0 c)(r:ai C c.S c.H us vs)(p:Addr)(hp:c.H p=none):Q (.ref p) (upd c.H p (.lst vs)):=by
 obtain⟨DQ,n',r'⟩:=ok.newList n hp r;exact h {c with H:=upd c.H p (.lst vs)} _ hσ rfl DQ n' r'
theorem bT.tup(h:bT C c0 Q (.loc,.tup us) c.st)(hσ:c.σ=c0.σ)(ok:Ok C c)(n:Nx c0 c)(r:ai C c.S c.H us vs)(p:Addr)(hp:c.H p=none):Q (.ref p) (upd c.H p (.tup vs)):=by
 obtain⟨DQ,n',r'⟩:=ok.Al n hp r;exact h {c with H:=upd c.H p (.tup vs)} _ hσ rfl DQ n' r'
theorem bT.tupK(h:bT C c0 Q (kE k,.tup us) c.st)(hσ:c.σ=c0.σ)(ok:Ok C c)(n:Nx c0 c)(r:ai C (SK C c k) c.H us vs)(p:Addr)(hp:c.H p=none):Q (.ref p) (upd c.H p (.tup vs)):=by
 obtain⟨DQ,n'⟩:=ok.lay (o:=.tup vs) hp;refine h {c with H:=upd c.H p (.tup vs)} _ hσ rfl DQ (n.trans n') (aE.item ?_);cases k<;>exact⟨p,vs,rfl,D3.of aq,by first|exact r.mv (ok.G9 n')|exact r.mv (ok.mv n')⟩
theorem gF(h:kS k us=true)(r:ai C (SK C c k) c.H us vs):ai C c.S c.H us vs:=by
 cases k with
 |any=>exact r.D9 (by simpa[kS,isAny] using h)
 |own=>exact r
 |loc=>exact r
 |bor j=>exact r
 |io=>exact r
 |Dw=>exact r
end
theorem Ax(k k':Kd):∀a,SK C c k a->SK C c (kT k k') a:=by
 intro a h;cases k<;>cases k'<;>first|exact h|exact .inr h
theorem xU(k k':Kd):∀a,SK C c k' a->SK C c (kT k k') a:=by
 intro a h;cases k<;>cases k'<;>first|exact h|exact .inr h
theorem BR(k k':Kd):kE (kT k k')=kT k k':=by cases k<;>cases k'<;>rfl
theorem xV:Fo X (binaryOp .Add) (λx y H Q=>∃l b xs zs,x=.ref l/\y=.ref b/\D7 X.K H l xs/\D7 X.K H b zs/\xs.length+zs.length<=sizeLine/\∀p,H p=none->Q (.ref p) (upd H p (.lst (xs++zs)))):=by
 intro pins s σ H x y v u Q I rx ry h;obtain⟨l,b,xs,zs,rfl,rfl,hH,hB,hz,q⟩:=h;cases rx;cases ry;obtain⟨A',r,pl,z⟩:=I.list hH;obtain⟨DX,r2,Rq,z2⟩:=I.list hB;have hl:=r.length;have GH:=r2.length;obtain⟨⟨cls,dd,data,sl⟩,ho,hc,n,hd⟩:=pl.isList;obtain⟨⟨Rr,Rt,data2,Nc⟩,HI,O',n2,hd2⟩:=Rq.isList;simp only at hc hd O' hd2;subst hc hd O' hd2;refine concat_meets ⟨_,ho,rfl⟩ ⟨_,HI,rfl⟩ noFill_list_add seq_list_add PySem.F.slot_list_add PySem.F.entry_list_add (PySem.F.args_list_add_2 _ _)
   (list_addW l b A'.toArray DX.toArray n n2 dd Rt sl Nc (by rw[List.size_toArray,List.size_toArray];omega)) ⟨ho,HI,?_⟩
 have ea:A'.toArray++DX.toArray=(A'++DX).toArray:=by simp
 rw[ea];exact⟨.ref _,_,I.Df (t':=s.toks) (r.append r2) (by rw[List.length_append];omega),rfl,q _ I.fresh⟩
end
section
variable{X:Cx}{C:Ct}{pins:List (Addr×Obj)}{s:Shared}{c0 c:Cf}{Q:VK}
noncomputable def Lz.op:Lz->Operator
 |.add=>.Add|.sub=>.Sub|.mul=>.Mult|.FJ=>.FloorDiv|.mod=>.Mod|.pow=>.Pow
theorem dO(h:p9 f a b=some r):∃i j o,a=.int i/\b=.int j/\f i j=some o/\r=(.loc,.int o):=by
 unfold p9 at h;split at h
 ·rw[Option.map_eq_some_iff]at h;obtain⟨o,e,rfl⟩:=h;exact⟨_,_,o,rfl,rfl,e,rfl⟩
 ·cases h
theorem Ay(hK:C.K=X.K)(t:Kv C c0 c x y vx vy)(I:Inv X pins c.σ c.H s)(rx:RelV vx v)(ry:RelV vy u)(h:FY op x y=some r)(q:bT C c0 Q r c.st):
  wpAny (model X.prog X.w) X.A (binaryOp op.op v u) (EP X pins c.σ Q) X.xe s:=by
 obtain⟨hσ,ok,n,tx,ty,_⟩:=t;cases op with
 |add =>
  have h:vc x y=some r:=h;unfold vc at h;split at h
  ·have ex:=tx.int ok;have ey:=ty.int ok;cases h;exact jr pins s c.σ c.H vx vy v u Q I rx ry ⟨_,_,ex,ey,q.flat hσ ok n rfl⟩
  ·have ex:=tx.str ok;have ey:=ty.str ok;split at h
   ·cases h;exact pN pins s c.σ c.H vx vy v u Q I rx ry ⟨_,_,ex,ey,by assumption,q.flat hσ ok n rfl⟩
   ·cases h
  ·obtain⟨a,vs,ex,h1,h2⟩:=tx.list ok;obtain⟨b,ws,ey,h3,h4⟩:=ty.list ok;split at h
   ·rename_i hh;cases h;exact xV pins s c.σ c.H vx vy v u Q I rx ry ⟨a,b,vs,ws,ex,ey,hK▸h1,hK▸h3,by rw[<-h2.len,<-h4.len];exact hh.1,λp hp=>q.list hσ ok n ((gF hh.2.1 h2).append (gF hh.2.2 h4)) p hp⟩
   ·cases h
  ·cases h
 |sub =>
  obtain⟨i,j,o,ex,ey,eo,rfl⟩:=dO h;have ex:=(ex▸tx).int ok;have ey:=(ey▸ty).int ok;cases eo;exact pL pins s c.σ c.H vx vy v u Q I rx ry ⟨_,_,ex,ey,q.flat hσ ok n rfl⟩
 |mul =>
  obtain⟨i,j,o,ex,ey,eo,rfl⟩:=dO h;have ex:=(ex▸tx).int ok;have ey:=(ey▸ty).int ok;unfold xK at eo;split at eo
  ·cases eo;exact mf pins s c.σ c.H vx vy v u Q I rx ry ⟨_,_,ex,ey,by assumption,q.flat hσ ok n rfl⟩
  ·cases eo
 |FJ =>
  obtain⟨i,j,o,ex,ey,eo,rfl⟩:=dO h;have ex:=(ex▸tx).int ok;have ey:=(ey▸ty).int ok;unfold xM at eo;split at eo
  ·cases eo;exact xh pins s c.σ c.H vx vy v u Q I rx ry ⟨_,_,ex,ey,by assumption,q.flat hσ ok n rfl⟩
  ·cases eo
 |mod =>
  obtain⟨i,j,o,ex,ey,eo,rfl⟩:=dO h;have ex:=(ex▸tx).int ok;have ey:=(ey▸ty).int ok;unfold xN at eo;split at eo
  ·cases eo;exact cU pins s c.σ c.H vx vy v u Q I rx ry ⟨_,_,ex,ey,by assumption,q.flat hσ ok n rfl⟩
  ·cases eo
 |pow =>
  obtain⟨i,j,o,ex,ey,eo,rfl⟩:=dO h;have ex:=(ex▸tx).int ok;have ey:=(ey▸ty).int ok;unfold xO at eo;split at eo
  ·cases eo;exact mj pins s c.σ c.H vx vy v u Q I rx ry ⟨_,_,ex,ey,by assumption,q.flat hσ ok n rfl⟩
  ·cases eo
theorem xW(hK:C.K=X.K)(ha:PE X a (DH C ma))(hb:PE X b (DH C mb)):PE X (.BinOp a op.op b pos) (DH C (ma >>= λx=>mb >>= λy=>aw [x,y] >>= λ_=>M.DR (FY op x y))):=by
 rintro pins s σ H Q I ⟨c0,rfl,rfl,ok,h⟩;refine wpAny_BinOp (two ha hb I ok h λx y c vx vy v u s2 t I2 rx ry w=>?_);obtain⟨r,e,q⟩:=bG.mp w;exact DG (Ay hK t I2 rx ry e q) λ_ _ z=>by rw[t.hσ]at z;exact z
noncomputable def Kt.op:Kt->CmpOp
 |.eq=>.Eq|.ne=>.NotEq|.lt=>.Lt|.le=>.LtE|.gt=>.Gt|.ge=>.GtE|.isin=>.In|.DA=>.NotIn|.is=>.Is|.Na=>.IsNot
theorem BS{neg:Bool}(I:Inv X pins c.σ c.H s)(hK:C.K=X.K)(hu:X.A.units+60<cLine){S:Addr->Prop}(hx:Rep C S c.H x vx)(rx:RelV vx v)(hy:ai C S c.H ys vs)
  (ha:D7 C.K c.H a vs\/D3 C.K c.H a vs) (e1:DB 50 x=true) (e2:bW 50 ys=true) {Q:Value->Shared->Prop} (q:Q (.bool (if neg then !(ys.any λy=>ba y x) else ys.any λy=>ba y x)) s) :
  wpAny (model X.prog X.w) X.A (compareOp (if neg then .NotIn else .In) v (.ref a)) Q X.xe s:=by
 have hS:∀(j:Nat) (w:U) (vw:V),ys[j]?=some w->vs[j]?=some vw->Rep C S c.H w vw:=λj w vw h1 h2=>by
  obtain⟨Th,e,r⟩:=hy.get h1;rw[h2]at e;cases e;exact r
 have eD:∀(j:Nat) (w:U),ys[j]?=some w->DB 50 w=true:=by
  have:∀(l:List U),bW 50 l=true->∀w∈l,DB 50 w=true:=by
   intro l;induction l with
   |nil=>intro _ w hw;cases hw
   |cons z l ih =>
    intro h w hw;simp only[bW,Bool.and_eq_true]at h;rcases List.mem_cons.mp hw with rfl|hw
    ·exact h.1
    ·exact ih h.2 w hw
  exact λj w h=>this ys e2 w (List.mem_of_getElem? h)
 have go:∀A':List Value,Vals vs A'->∃e:Value->Bool,(∀y,y∈A'.toArray->SeqAt.EqAt X.A.in1 s y v (e y))/\A'.toArray.any e=ys.any λy=>ba y x:=by
  intro A' rv;have l1:=hy.len;have l2:=rv.length
  classical
  have at':∀(j:Nat) (y:Value),A'[j]?=some y->∃w vw,ys[j]?=some w/\vs[j]?=some vw/\RelV vw y/\Rep C S c.H w vw:=by
   intro j y h;have hj:j<A'.length:=(List.getElem?_eq_some_iff.mp h).1;obtain⟨w,hw⟩:∃w,ys[j]?=some w:=⟨ys[j]'(by omega),by simp⟩
   obtain⟨vw,Nd,r⟩:=hy.get hw;obtain⟨y',HS,rr⟩:=rv.get Nd;rw[h]at HS;cases HS;exact⟨w,vw,hw,Nd,rr,r⟩
  refine⟨λy=>decide (∃(j:Nat) (w:U),A'[j]?=some y/\ys[j]?=some w/\ba w x=true),λy FA=>?_,?_⟩
  ·obtain⟨j,hj,e⟩:=List.getElem_of_mem (show y∈A' by simpa using FA);have LD:A'[j]?=some y:=by rw[List.getElem?_eq_getElem hj,e]
   obtain⟨w,vw,hw,Nd,rr,r⟩:=at' j y LD;have eq:decide (∃(j:Nat) (w:U),A'[j]?=some y/\ys[j]?=some w/\ba w x=true)=ba w x:=by
    rw[Bool.eq_iff_iff,decide_eq_true_iff];constructor
    ·rintro⟨j',w',h1,h2,h3⟩;obtain⟨w2,Pa,G_,_,Nf,r2⟩:=at' j' y h1;rw[h2]at G_;cases G_;have:Pa=vw:=Nf.inj rr;subst this;rw[rC I hK w w' Pa 50 (eD j w hw) (eD j' w' h2) r r2];exact h3
    ·intro h;exact⟨j,w,LD,hw,h⟩
   have z:=vi I hK w x vw vx y v 50 X.A.in1 (eD j w hw) e1 r hx rr rx (by show X.A.units+1+50 < _;omega);rw[<-eq]at z;exact z
  ·rw[Bool.eq_iff_iff];simp only[List.any_toArray,List.any_eq_true,decide_eq_true_iff];constructor
   ·rintro⟨y,_,j,w,h1,h2,h3⟩;exact⟨w,List.mem_of_getElem? h2,h3⟩
   ·rintro⟨w,hw,h3⟩;obtain⟨j,hj,e⟩:=List.getElem_of_mem hw;have LD:A'[j]?=some (A'[j]'(by omega)):=List.getElem?_eq_getElem _;exact⟨A'[j]'(by omega),List.getElem_mem _,j,w,LD,by rw[List.getElem?_eq_getElem hj,e],h3⟩
 rcases ha with ha|ha
 ·obtain⟨A',rv,p,_⟩:=rA I (hK▸ha);obtain⟨e,h1,h2⟩:=go A' rv;cases neg with
  |false=>exact SeqAt.in_listAt e p h1 (by rw[h2];exact q)
  |true=>exact SeqAt.notIn_listAt e p h1 (by rw[h2];exact q)
 ·rw[hK]at ha;obtain⟨A',rv,p,_⟩:=I.tuple ha;obtain⟨e,h1,h2⟩:=go A' rv;cases neg with
  |false=>exact SeqAt.in_tupleAt e p h1 (by rw[h2];exact q)
  |true=>exact SeqAt.notIn_tupleAt e p h1 (by rw[h2];exact q)
end
section
theorem bR:∀{us:List U}{ss:List Str},strsOf us=some ss->us=ss.map .str
 |[],ss,h=>by cases h;rfl
 |.str x::us,ss,h=>by
  simp only[strsOf,Option.map_eq_some_iff]at h;obtain⟨t,h1,rfl⟩:=h;rw[bR h1];rfl
 |.DF::_,_,h=>by cases h
 |.bl _::_,_,h=>by cases h
 |.int _::_,_,h=>by cases h
 |.tup _::_,_,h=>by cases h
 |.lst _::_,_,h=>by cases h
 |.Dy _ _::_,_,h=>by cases h
 |.DV _::_,_,h=>by cases h
theorem iI:∀{us:List U}{ns:List Int},intsOf us=some ns->us=ns.map .int
 |[],ns,h=>by cases h;rfl
 |u::us,ns,h=>by
  cases u<;>first|(cases h;done)|skip
  rename_i x;have h':(intsOf us).map (x::·)=some ns:=h;rw[Option.map_eq_some_iff]at h';obtain⟨ms,e,rfl⟩:=h';rw[iI e];rfl
theorem ai.ints{S:Addr->Prop}:∀{ns:List Int}{vs:List V},ai C S H (ns.map .int) vs->vs=ns.map V.int
 |[],vs,h=>h
 |n::ns,vs,h=>by
  obtain⟨v,r,rfl,h1,h2⟩:=h;rw[ai.ints h2];have:v=.int n:=h1;rw[this];rfl
theorem fW:∀{us:List U}{ss:List Bool},eS us=some ss->us=ss.map .bl
 |[],ss,h=>by cases h;rfl
 |.bl x::us,ss,h=>by
  simp only[eS,Option.map_eq_some_iff]at h;obtain⟨t,h1,rfl⟩:=h;rw[fW h1];rfl
 |.DF::_,_,h=>by cases h
 |.str _::_,_,h=>by cases h
 |.int _::_,_,h=>by cases h
 |.tup _::_,_,h=>by cases h
 |.lst _::_,_,h=>by cases h
 |.Dy _ _::_,_,h=>by cases h
 |.DV _::_,_,h=>by cases h
theorem ai.Ng{S:Addr->Prop}:∀{xs:List Bool}{vs:List V},ai C S H (xs.map .bl) vs->vs=xs.map V.bl
 |[],vs,h=>h
 |x::xs,vs,h=>by
  obtain⟨v,r,rfl,h1,h2⟩:=h;rw[ai.Ng h2];have:v=.bl x:=h1;rw[this];rfl
noncomputable def BU(r:kN):U:=.tup [.str r.1,.tup (r.2.map .str)]
theorem jV(h:rowOf u=some r):u=BU r:=by
 unfold rowOf at h;split at h
 ·rw[Option.map_eq_some_iff]at h;obtain⟨ss,h1,rfl⟩:=h;rw[bR h1];rfl
 ·cases h
def Az(X:Cx)(pins:List (Addr×Obj))(c:Cf)(b:Bool)(v:Value)(s':Shared):Prop:=v=.bool b/\Inv X pins c.σ c.H s'
theorem gG(o:Fo X f r)(I:Inv X pins c.σ c.H s)(rx:RelV vx v)(ry:RelV vy u)(h:r vx vy c.H λx H'=>x=.bl b/\H'=c.H):
  wpAny (model X.prog X.w) X.A (f v u) (Az X pins c b) X.xe s :=
 DG (o pins s c.σ c.H vx vy v u _ I rx ry h) λw s' DP=>by
  obtain⟨z,H',I',r,e1,e2⟩:=DP;subst e1 e2;exact⟨r,I'⟩
theorem aE.dict(ok:Ok C c)(h:aE C c0 c k (.Dy ks us) v):∃a kvs,v=.ref a/\c.H a=some (.dK kvs)/\kvs.map (·.1)=ks.map Sum.inr/\ai C (SK C c k) c.H us (kvs.map (·.2)):=by
 cases k with
 |own=>obtain⟨r,e,_,_,_,kvs,h1,h2,h3⟩:=h;exact⟨r,kvs,e,h1,h2,h3⟩
 |loc=>obtain⟨a,e,_,kvs,h1,h2,h3⟩:=h;exact⟨a,kvs,e,h1,h2,h3⟩
 |any=>obtain⟨a,e,_,kvs,h1,h2,h3⟩:=h;exact⟨a,kvs,e,h1,h2,h3⟩
 |bor j=>obtain⟨r,e,_,_,_,kvs,h1,h2,h3⟩:=ok.rootOf h.1 h.2;exact⟨r,kvs,e,h1,h2,h3⟩
 |io=>exact h.elim
 |Dw=>exact h.elim
theorem aE.rp(ok:Ok C c)(h:aE C c0 c k (.DV ks) v):∃a,v=.ref a/\eh C.P C.w C.K c.H a ks:=by
 cases k with
 |own=>obtain⟨r,e,_,_,_,h⟩:=h;exact⟨r,e,h⟩
 |loc=>obtain⟨a,e,_,h⟩:=h;exact⟨a,e,h⟩
 |any=>obtain⟨a,e,_,h⟩:=h;exact⟨a,e,h⟩
 |bor j=>obtain⟨r,e,_,_,_,h⟩:=ok.rootOf h.1 h.2;exact⟨r,e,h⟩
 |io=>exact h.elim
 |Dw=>exact h.elim
theorem c8{S:Addr->Prop}:∀{ks:List Str}{us:List U}{kvs:List (Key×V)},kvs.map (·.1)=ks.map Sum.inr->ai C S H us (kvs.map (·.2)) ->
  (∀u,cY ks us x=some u->∃v,cX kvs (Sum.inr x)=some v/\Rep C S H u v)/\(cX kvs (Sum.inr x)).isSome=decide (x∈ks)
 |[],us,kvs,h1,h2=>by
  have:kvs=[]:=by simpa using h1
  subst this;exact⟨λu h=>by cases us<;>simp[cY]at h,by simp[cX]⟩
 |k::ks,us,[],h1,h2=>by simp at h1
 |k::ks,[],p::kvs,h1,h2=>by simp[ai]at h2
 |k::ks,u0::us,p::kvs,h1,h2=>by
  obtain⟨v,r,e,h3,h4⟩:=h2;rw[List.map_cons]at e;cases e;rw[List.map_cons,List.map_cons,List.cons.injEq]at h1;obtain⟨i1,i2⟩:=c8 (x:=x) h1.2 h4;by_cases hk:k=x
  ·subst hk;refine⟨λu h=>?_,?_⟩
   ·simp[cY]at h;subst h;exact⟨p.2,dH h1.1,h3⟩
   ·rw[dH h1.1];simp
  ·have hp:¬p.1=Sum.inr x:=by rw[h1.1];intro z;exact hk (Sum.inr.inj z)
   refine⟨λu h=>?_,?_⟩
   ·simp[cY,hk]at h;obtain⟨v,e,q⟩:=i1 u h;exact⟨v,by rw[dI hp];exact e,q⟩
   ·rw[dI hp,i2];simp[Ne.symm hk]
theorem AA(hu:X.A.units+3<cLine):Fo X (compareOp .In) (λx y H Q=>∃k d ks,eI X.K H x k/\y=.ref d/\eh X.prog X.w X.K H d ks/\Q (.bl (decide (k∈ks))) H):=by
 intro pins s σ H x y v u Q I rx ry h;obtain⟨k,d,ks,⟨a,b,rfl,h1,h2⟩,rfl,⟨xs,h3,h4,h5⟩,q⟩:=h;cases rx;cases ry;obtain⟨hd,dd⟩:=jA I h3 h5;refine wpAny_in_heap hu (i_ I ⟨a,b,rfl,h1,h2⟩) hd dd ?_;exact⟨.bl (decide (k∈ks)),H,I.tok _,by rw[fO,h4];rfl,q⟩
theorem Rep.row{S:Addr->Prop}(h:Rep C S H (BU r) v):eI C.K H v r:=by
 obtain⟨a,vs,e,h1,v1,r1,e1,h2,v2,r2,e2,h3,h4⟩:=h;cases h4;have e3:v1=.str r.1:=h2;obtain⟨b,ws,e4,h5,h6⟩:=h3;rw[ai.strs]at h6;subst e1 e2 e3 e4 h6;exact⟨a,b,e,h1,h5⟩
theorem vj(hP:C.P=X.prog)(hw:C.w=X.w)(hK:C.K=X.K)(hu:X.A.units+60<cLine)(t:Kv C c0 c x y vx vy)(I:Inv X pins c.σ c.H s)(rx:RelV vx v)(ry:RelV vy u)(h:bw op x.2 y.2=some b):
  wpAny (model X.prog X.w) X.A (compareOp op.op v u) (Az X pins c b) X.xe s:=by
 obtain⟨hσ,ok,n,tx,ty,_⟩:=t;obtain⟨kx,ux⟩:=x;obtain⟨ky,uy⟩:=y
 dsimp only at h tx ty
 have has:∀neg:Bool,∀b',xP ux uy=some b'->wpAny (model X.prog X.w) X.A (compareOp (if neg then .NotIn else .In) v u) (Az X pins c (if neg then !b' else b')) X.xe s:=by
  intro neg b' h;have mx:=tx.read ok;have my:=ty.read ok;unfold xP at h;split at h
  ·obtain⟨a,vs,rfl,h1,h2⟩:=my;cases ry;unfold HR at h;split at h
   ·rename_i hh;cases h;exact BS I hK hu mx rx h2 (.inl h1.sq) hh.1 hh.2 ⟨by cases neg<;>rfl,I⟩
   ·cases h
  ·obtain⟨a,vs,rfl,h1,h2⟩:=my;cases ry;unfold HR at h;split at h
   ·rename_i hh;cases h;exact BS I hK hu mx rx h2 (.inr h1) hh.1 hh.2 ⟨by cases neg<;>rfl,I⟩
   ·cases h
  ·cases h;have ex:vx=_:=mx;obtain⟨a,kvs,rfl,h1,h2,h3⟩:=ty.dict ok;cases ry;subst ex;have hs:=λz:Str=>(c8 (x:=z) h2 h3).2;cases neg with
   |false=>exact BN (by omega) I (dC.k (k:=Sum.inr _) h1) rx λs' I'=>⟨by rw[hs];rfl,I'⟩
   |true=>exact qT (by omega) I (dC.k (k:=Sum.inr _) h1) rx λs' I'=>⟨by rw[hs];rfl,I'⟩
  ·rw[Option.map_eq_some_iff]at h;obtain⟨r,h1,h2⟩:=h;have e:=jV h1;subst e;have hr:=mx.row;obtain⟨a,ea,h3⟩:=ty.rp ok;rw[hK]at hr h3;rw[hP,hw]at h3;subst h2;cases neg with
   |false=>exact gG (AA (by omega)) I rx ry ⟨r,a,_,hr,ea,h3,rfl,rfl⟩
   |true=>exact gG (sM (by omega)) I rx ry ⟨r,a,_,hr,ea,h3,rfl,rfl⟩
  ·cases h
 unfold bw at h;split at h
 ·split at h
  ·rename_i hh;cases h;exact Ds I hK _ _ vx vy v u 50 X.A hh.1 hh.2 (tx.read ok) (ty.read ok) rx ry (by omega) _ _ _ _ ⟨rfl,I⟩
  ·cases h
 ·split at h
  ·rename_i hh;cases h;exact Aw I hK _ _ vx vy v u 50 X.A hh.1 hh.2 (tx.read ok) (ty.read ok) rx ry (by omega) _ _ _ _ ⟨rfl,I⟩
  ·cases h
 ·cases h;exact gG BC I rx ry ⟨_,_,tx.int ok,ty.int ok,rfl,rfl⟩
 ·cases h;exact gG BD I rx ry ⟨_,_,tx.int ok,ty.int ok,rfl,rfl⟩
 ·cases h;exact gG BE I rx ry ⟨_,_,tx.int ok,ty.int ok,rfl,rfl⟩
 ·exact has false b h
 ·rw[Option.map_eq_some_iff]at h;obtain⟨b',h1,rfl⟩:=h;exact has true b' h1
 ·cases h
theorem xX(hP:C.P=X.prog)(hw:C.w=X.w)(hK:C.K=X.K)(hu:X.A.units+60<cLine)(ha:PE X a (DH C ma))(hb:PE X b (DH C mb))(hm:behindInMarks op.op b=false):
  PE X (.Compare a [op.op] [b] pos) (DH C (ma >>= λx=>mb >>= λy=>aw [x,y] >>= λ_=>M.DR (bw op x.2 y.2) >>= λc=>pure (.loc,.bl c))):=by
 rintro pins s σ H Q I ⟨c0,rfl,rfl,ok,h⟩;refine wpAny_Compare1 (two ha hb I ok h λx y c vx vy v u s2 t I2 rx ry w=>?_) hm;rw[ae]at w;obtain⟨r,e,q⟩:=bG.mp w;rw[ah]at q;refine DG (vj hP hw hK hu t I2 rx ry e) λz s' ⟨e,I'⟩=>?_;subst e;exact⟨.bl r,c.H,by rw[<-t.hσ];exact I',rfl,q c (.bl r) t.hσ rfl t.ok t.nx rfl⟩
theorem xY(hP:C.P=X.prog)(hw:C.w=X.w)(hK:C.K=X.K)(hu:X.A.units+60<cLine)(ha:PE X a (DH C ma))(hb:PE X b (DH C mb))(hm:behindInMarks op.op b=false):
  PT X (.Compare a [op.op] [b] pos) (EH C (ma >>= λx=>mb >>= λy=>aw [x,y] >>= λ_=>M.DR (bw op x.2 y.2))):=by
 rintro pins s σ H Q I ⟨c0,rfl,rfl,ok,h⟩;refine wpAny_isTrue_Compare1 (two (f:=λv u=>compareOp op.op v u) (Q':=λ_ _ c s=>wpAny (model X.prog X.w) X.A (truthy c) (TP X pins c0.σ Q) X.xe s) ha hb I ok h λx y c vx vy v u s2 t I2 rx ry w=>?_) hm;obtain⟨r,e,q⟩:=bG.mp w;refine DG (vj hP hw hK hu t I2 rx ry e) λz s' ⟨e,I'⟩=>?_;subst e;exact wpAny_truthy_bool ⟨c.H,by rw[<-t.hσ];exact I',q c t.hσ rfl t.ok t.nx⟩
end
section
def BV(C:Ct)(c0:Cf)(Q:Bool->Hp->Prop)(b:Bool)(st':au):Prop:=∀c,c.σ=c0.σ->c.st=st'->Ok C c->Nx c0 c->Q b c.H
theorem vk(hσ:c1.σ=c0.σ)(ok:Ok C c1)(n:Nx c0 c1)(h:W m c1.st (bT C c0 Q)):DH C m c0.σ c1.H Q :=
 ⟨c1,hσ,rfl,ok,h.mono λr st h2 c2 v e3 e4 D0 n2 r2=>h2 c2 v e3 e4 D0 (n.trans n2) (r2.from n)⟩
theorem vm(hσ:c1.σ=c0.σ)(ok:Ok C c1)(n:Nx c0 c1)(h:W m c1.st (BV C c0 Q)):EH C m c0.σ c1.H Q :=
 ⟨c1,hσ,rfl,ok,h.mono λr st h2 c2 e3 e4 D0 n2=>h2 c2 e3 e4 D0 (n.trans n2)⟩
theorem aF(ok:Ok C c0)(h:W (ma >>= k) c0.st DL)
  (hz:∀x c v,IQ C c0 c x v->W (k x) c.st DL->Z v c.H):DH C ma c0.σ c0.H Z:=by
 rw[ae]at h;exact⟨c0,rfl,rfl,ok,h.mono λx st1 h1 c1 vx e1 e2 DK n1 r1=>hz x c1 vx ⟨e1,DK,n1,r1⟩ (by rw[e2];exact h1)⟩
theorem eT(ok:Ok C c0)(h:W (ta >>= k) c0.st DL)
  (hz:∀b c,c.σ=c0.σ->Ok C c->Nx c0 c->W (k b) c.st DL->Z b c.H):EH C ta c0.σ c0.H Z:=by
 rw[ae]at h;exact⟨c0,rfl,rfl,ok,h.mono λx st1 h1 c1 e1 e2 DK n1=>hz x c1 e1 DK n1 (by rw[e2];exact h1)⟩
noncomputable def BW(m:M (Kd×U))(x:Kd×U):M (Kd×U):=match x.2 with
 |.bl true=>m
 |.bl false=>pure (.loc,.bl false)
 |_=>M.fail
noncomputable def Pb(m:M (Kd×U))(x:Kd×U):M (Kd×U):=match x.2 with
 |.bl true=>pure (.loc,.bl true)
 |.bl false=>m
 |_=>M.fail
noncomputable def BX(x:Kd×U):M (Kd×U):=match x.2 with
 |.bl c=>pure (.loc,.bl !c)
 |_=>M.fail
theorem snd_and(ha:PE X a (DH C ma))(hb:PE X (.BoolOp .And (b::rest) pos) (DH C mb)):PE X (.BoolOp .And (a::b::rest) pos) (DH C (ma >>= BW mb)):=by
 refine PE.weak (zy ha hb) ?_;rintro σ H Q ⟨c0,rfl,rfl,ok,h⟩;refine aF ok h λx c v t w=>?_;obtain⟨k,u⟩:=x;obtain⟨hσ,DK,n,r⟩:=t;unfold BW at w;split at w
 ·rename_i e
  dsimp only at e r
  subst e;exact⟨true,r.bl DK,by rw[if_pos rfl];exact vk hσ DK n w⟩
 ·rename_i e
  dsimp only at e r
  subst e;rw[ah]at w;exact⟨false,r.bl DK,by rw[if_neg Bool.false_ne_true];exact w c (.bl false) hσ rfl DK n rfl⟩
 ·exact(aA.mp w).elim
theorem AB(ha:PE X a (DH C ma))(hb:PE X (.BoolOp .Or (b::rest) pos) (DH C mb)):PE X (.BoolOp .Or (a::b::rest) pos) (DH C (ma >>= Pb mb)):=by
 refine PE.weak (Bp ha hb) ?_;rintro σ H Q ⟨c0,rfl,rfl,ok,h⟩;refine aF ok h λx c v t w=>?_;obtain⟨k,u⟩:=x;obtain⟨hσ,DK,n,r⟩:=t;unfold Pb at w;split at w
 ·rename_i e
  dsimp only at e r
  subst e;rw[ah]at w;exact⟨true,r.bl DK,by rw[if_pos rfl];exact w c (.bl true) hσ rfl DK n rfl⟩
 ·rename_i e
  dsimp only at e r
  subst e;exact⟨false,r.bl DK,by rw[if_neg Bool.false_ne_true];exact vk hσ DK n w⟩
 ·exact(aA.mp w).elim
theorem xZ(ha:PE X a (DH C ma)):PE X (.UnaryOp .Not a pos) (DH C (ma >>= BX)):=by
 refine PE.weak (zA ha) ?_;rintro σ H Q ⟨c0,rfl,rfl,ok,h⟩;refine aF ok h λx c v t w=>?_;obtain⟨k,u⟩:=x;obtain⟨hσ,DK,n,r⟩:=t;unfold BX at w;split at w
 ·rename_i e
  dsimp only at e r
  subst e;rw[ah]at w;exact⟨_,r.bl DK,w c (.bl _) hσ rfl DK n rfl⟩
 ·exact(aA.mp w).elim
theorem x6(ha:PT X a (EH C ta)):PT X (.UnaryOp .Not a pos) (EH C (ta >>= λb=>pure !b)):=by
 refine PT.weak (zx ha) ?_;rintro σ H Q ⟨c0,rfl,rfl,ok,h⟩;refine eT ok h λp c hσ DK n w=>?_;rw[ah]at w;exact w c hσ rfl DK n
theorem x8(ha:PT X a (EH C ta))(hb:PW X (.BoolOp .And (b::rest) pos) (EH C tb)):PW X (.BoolOp .And (a::b::rest) pos) (EH C (ta >>= λp=>if p=true then tb else pure false)):=by
 have h0:=zw ha hb;rintro wh pins s σ H Q I ⟨c0,rfl,rfl,ok,h⟩;refine h0 wh pins s c0.σ c0.H Q I (eT ok h λp c hσ DK n w=>?_);cases p with
 |true=>rw[if_pos rfl]at w ⊢;exact vm hσ DK n w
 |false=>rw[if_neg Bool.false_ne_true]at w ⊢;rw[ah]at w;exact w c hσ rfl DK n
theorem AD(ha:PT X a (EH C ta))(hb:PW X (.BoolOp .Or (b::rest) pos) (EH C tb)):PW X (.BoolOp .Or (a::b::rest) pos) (EH C (ta >>= λp=>if p=true then pure true else tb)):=by
 have h0:=Bm ha hb;rintro wh pins s σ H Q I ⟨c0,rfl,rfl,ok,h⟩;refine h0 wh pins s c0.σ c0.H Q I (eT ok h λp c hσ DK n w=>?_);cases p with
 |true=>rw[if_pos rfl]at w ⊢;rw[ah]at w;exact w c hσ rfl DK n
 |false=>rw[if_neg Bool.false_ne_true]at w ⊢;exact vm hσ DK n w
theorem rD{us:List α}{vs:List β}(h:us.length=vs.length):(!us.isEmpty)=!vs.isEmpty:=by
 cases us<;>cases vs<;>simp_all
theorem du(ha:PE X a (DH C ma))(hK:C.K=X.K)(he:∀whole,isTrue a X.env whole=(do let v <-whole;standAt a.pos;holding [v] (truthy v))):PT X a (EH C (ma >>= λx=>M.DR (kU x.2))):=by
 refine PT.weak (uo ha he) ?_;rintro σ H Q ⟨c0,rfl,rfl,ok,h⟩;refine aF ok h λx c v t w=>?_;obtain⟨k,u⟩:=x;obtain⟨hσ,DK,n,r⟩:=t;obtain⟨p,e,q⟩:=bG.mp w
 dsimp only at e r
 refine⟨p,?_,q c hσ rfl DK n⟩;unfold kU at e;split at e
 ·cases e;rw[r.bl DK];rfl
 ·cases e;obtain⟨a,vs,rfl,h1,h2⟩:=r.list DK;exact .inl ⟨vs,hK▸h1,rD h2.len⟩
 ·cases e;obtain⟨a,vs,rfl,h1,h2⟩:=r.tuple DK;rw[hK]at h1;exact .inr (.inl ⟨vs,h1,rD h2.len⟩)
 ·split at e
  ·cases e;rw[r.str DK];exact⟨by assumption,rfl⟩
  ·cases e
 ·cases e
end
section
theorem dh.from(n:Nx c0 c1):dh C c1 c rs vs->dh C c0 c rs vs:=by
 intro h;induction rs generalizing vs with
 |nil=>exact h
 |cons r rs ih=>obtain⟨v,t,e,h1,h2,h3⟩:=h;exact⟨v,t,e,h1.from n,ih h2,h3⟩
theorem dh.get{i:Nat}(h:dh C c0 c rs vs)(e:rs[i]?=some r)(e':vs[i]?=some v):eR C c0 c r.1 r.2 v:=by
 induction rs generalizing vs i with
 |nil=>simp at e
 |cons r' rs ih =>
  obtain⟨v',t,rfl,h1,h2,h3⟩:=h;cases i with
  |zero=>simp at e e';subst e e';exact h1
  |succ i=>exact ih h2 (by simpa using e) (by simpa using e')
theorem x9:PA X [] (EU C (pure [])):=by
 rintro pos pins s σ H Q I ⟨c0,rfl,rfl,ok,h⟩;rw[ah]at h;exact ju pos pins s c0.σ c0.H Q I (h c0 [] rfl rfl ok (Nx.refl c0) rfl)
theorem vn(ha:PE X e (DH C m))(hr:PA X es (EU C ms))(hs:starEach (e::es) X.env=(false,eval e X.env)::starEach es X.env):PA X (e::es) (EU C (m >>= λr=>ms >>= λrs=>pure (r::rs))):=by
 rintro pos pins s σ H Q I ⟨c0,rfl,rfl,ok,h⟩;refine fc ha hr hs pos pins s c0.σ c0.H Q I (aF ok h λr c1 v t w=>?_);rw[ae]at w;refine⟨c1,t.hσ,rfl,t.ok,w.mono λrs st2 h2 c2 vs e3 e4 D0 n2 r2=>?_⟩;rw[ah]at h2;refine h2 c2 (v::vs) e3 e4 D0 (t.nx.trans n2) ⟨v,vs,rfl,t.rx.w.on t.ok n2 (e3.trans t.hσ.symm),r2.from t.nx,λhk i r' v' e5 e6 ET=>?_⟩;exact mR t.rx.w (r2.get e5 e6) hk ET
structure Gb(C:Ct)(c0 c:Cf)(rs:List (Kd×U))(vs:List V):Prop where
 hσ:c.σ=c0.σ
 ok:Ok C c
 nx:Nx c0 c
 rep:dh C c0 c rs vs
 HU:bb rs c.st
theorem args{k:List (Kd×U)->M β}{DL:β->au->Prop}(ha:PA X es (EU C ms))(I:Inv X pins c0.σ c0.H s)(ok:Ok C c0)(h:W (ms >>= λrs=>aw rs >>= λ_=>k rs) c0.st DL)(pos:Pos):
  wpAny (model X.prog X.w) X.A (spliced (backTo pos (starEach es X.env))) (λus s1=>∃rs c vs,Gb C c0 c rs vs/\Inv X pins c.σ c.H s1/\Vals vs us/\W (k rs) c.st DL) X.xe s:=by
 rw[ae]at h;refine DG (ha pos pins s c0.σ c0.H (λvs H1=>∃rs c,c.H=H1/\Gb C c0 c rs vs/\W (k rs) c.st DL) I ⟨c0,rfl,rfl,ok,h.mono λrs st1 h1 c1 vs e1 e2 DK n1 r1=>?_⟩) ?_
 ·rw[ae,cj]at h1;subst e2;exact⟨rs,c1,rfl,⟨e1,DK,n1,r1,h1.1⟩,h1.2⟩
 ·rintro us s1 ⟨vs,H1,I1,rv,rs,c1,rfl,t,w⟩;exact⟨rs,c1,vs,t,by rw[t.hσ];exact I1,rv,w⟩
theorem Gb.one(t:Gb C c0 c [r] vs):∃v,vs=[v]/\aE C c0 c r.1 r.2 v:=by
 obtain⟨v,t',rfl,h1,h2,_⟩:=t.rep;cases h2;exact⟨v,rfl,h1.t t.HU⟩
theorem Gb.two(t:Gb C c0 c [r,r'] vs):∃v v',vs=[v,v']/\aE C c0 c r.1 r.2 v/\aE C c0 c r'.1 r'.2 v':=by
 obtain⟨v,t',rfl,h1,⟨v',Ti,rfl,h2,h3,_⟩,_⟩:=t.rep;cases h3;have hs:=fj.mp t.HU;exact⟨v,v',rfl,h1.t hs.1,h2.t hs.2⟩
theorem Ok.share(ok:Ok C c)(h0:C.H₀ r=none)(hH:∃o,c.H r=some o)(hl:st'.length=c.st.length)
  (DJ:∀(i:Nat) k u,st'[i]?=some (some (k,u))->(∃v,c.σ[i]?=some (some v)/\eQ C (λa=>c.S a\/a=r) c.H k u v)/\(k.root=true->c.st[i]?=some (some (k,u)))) (GO:Gn C {c with S:=λa=>c.S a\/a=r,st:=st' }) :
  Ok C {c with S:=λa=>c.S a\/a=r,st:=st' }:=by
 refine⟨ok.same,λa z=>?_,ok.par,ok.io,by rw[show({c with S:=λa=>c.S a\/a=r,st:=st' }:Cf).st.length=st'.length from rfl,hl];exact ok.len,λi k u e=>(DJ i k u e).1,λi j k k' u u' r' hk ET e1 e2 e3 e4=>?_,GO⟩
 ·rcases z with z|rfl
  ·exact ok.Fp a z
  ·exact⟨h0,hH⟩
 ·exact ok.inj i j k k' u u' r' hk ET ((DJ i k u e1).2 hk) ((DJ j k' u' e2).2 ET) e3 e4
theorem Ok.AE(ES:Ok C c0)(ok:Ok C c)(n:Nx c0 c)(h0:c0.H r=none)(hR:¬c.R r)(hr:dg C c.S c.H r u):
  Ok C {c with S:=λa=>c.S a\/a=r}/\Nx c0 {c with S:=λa=>c.S a\/a=r}:=by
 obtain⟨o,ho,_⟩:=hr.some;refine⟨ok.share (st':=c.st) (ES.jO h0).1 ⟨o,ho⟩ rfl (λi k u e=>⟨?_,λ_=>e⟩) (ok.dd.hs (.up λa=>.inl) λj a z=>⟨λq=>q.elim (ok.root (.inr ⟨j,z⟩)).1 λe=>hR (.inr ⟨j,e▸z⟩),λo q=>q⟩),⟨⟨n.keep,n.there,n.roots,λa z=>.inl (n.sub a z),λa z=>?_⟩,n.all⟩⟩
 ·obtain⟨v,e1,e2⟩:=ok.sl i k u e;have Ru:Mv c.S c.H (λa=>c.S a\/a=r) c.H:=.up λa=>.inl;refine⟨v,e1,e2.mv Ru (.up λa z=>z.imp id .inl) λhk r' er=>⟨?_,λo q=>q⟩⟩;obtain⟨Kw,ER,q1,_⟩:=e2.rt hk;rw[er]at ER;cases ER;rintro(z|rfl)
  ·exact q1 z
  ·exact hR (.inl ⟨i,k,u,hk,e,by rw[e1,er]⟩)
 ·rcases z with z|rfl
  ·exact n.new a z
  ·exact .inr (.inr h0)
theorem Ok.vp(ok:Ok C c)(n:Nx c0 c)(hj:c.st[j]?=some (some (.own,u)))(hv:c.σ[j]?=some (some (.ref r))):
  Ok C {c with S:=λa=>c.S a\/a=r,st:=c.st.set j (some (.loc,u))}/\Nx c0 {c with S:=λa=>c.S a\/a=r,st:=c.st.set j (some (.loc,u))}/\Rep C (λa=>c.S a\/a=r) c.H u (.ref r):=by
 obtain⟨v',e1,r',er,q1,q2,q3,q4⟩:=ok.sl j _ _ hj;rw[hv]at e1;cases e1;cases er;have E1:Rep C (λa=>c.S a\/a=r) c.H u (.ref r):=q4.rep (λa=>.inl) (.inr rfl);obtain⟨o,ho,_⟩:=q4.some;have Ge:j<c.st.length:=(List.getElem?_eq_some_iff.mp hj).1;have DY:∀(i:Nat) k u',(c.st.set j (some (.loc,u)))[i]?=some (some (k,u'))->i≠j->c.st[i]?=some (some (k,u')):=λi k u' e ne=>by rw[List.getElem?_set_ne (Ne.symm ne)]at e;exact e
 have F7:c.R1 r:=⟨j,.own,u,rfl,hj,hv⟩
 have dD:∀(i:Nat) (u':U),(c.st.set j (some (.loc,u)))[i]?=some (some (.Dw,u'))->c.st[i]?=some (some (.Dw,u')):=λi u' e=>by
  by_cases EY:i=j
  ·subst EY;rw[List.getElem?_set_self Ge]at e;cases e
  ·exact DY i .Dw u' e EY
 have b1:∀a,({c with S:=λa=>c.S a\/a=r,st:=c.st.set j (some (.loc,u))}:Cf).R1 a->c.R1 a:=λa DP=>by
  obtain⟨i,k,u',hk,e,e'⟩:=DP;by_cases EY:i=j
  ·subst EY;rw[List.getElem?_set_self Ge]at e;cases e;cases hk
  ·exact⟨i,k,u',hk,DY i k u' e EY,e'⟩
 have GO:Gn C {c with S:=λa=>c.S a\/a=r,st:=c.st.set j (some (.loc,u))}:=ok.dd.of rfl (λi u' e=>⟨dD i u' e,rfl⟩) (λa z=>.inl (b1 a z)) (.up λa=>.inl) λi a z=>⟨λq=>q.elim (ok.root (.inr ⟨i,z⟩)).1 λe=>ok.dd.d1 i a z (e▸F7),λo q=>q⟩
 refine⟨ok.share (st':=c.st.set j (some (.loc,u))) q3 ⟨o,ho⟩ (by simp) (λi k u' e=>?_) GO,⟨⟨n.keep,n.there,λa z=>?_,λa z=>.inl (n.sub a z),λa z=>?_⟩,n.all⟩,E1⟩
 ·by_cases EY:i=j
  ·subst EY;rw[List.getElem?_set_self Ge]at e;cases e;exact⟨⟨.ref r,hv,E1⟩,λz=>nomatch z⟩
  ·have e0:=DY i k u' e EY;obtain⟨v,e1,e2⟩:=ok.sl i k u' e0;refine⟨⟨v,e1,e2.mv (.up λa=>.inl) (.up λa z=>z.imp id .inl) λhk r' er=>⟨?_,λo q=>q⟩⟩,λ_=>e0⟩;obtain⟨Kw,ER,p1,_⟩:=e2.rt hk;rw[er]at ER;cases ER;rintro(z|rfl)
   ·exact p1 z
   ·exact EY (ok.inj i j k .own u' u r' hk rfl e0 hj (by rw[e1,er]) hv)
 ·rcases z with z|⟨i,u',r',e1,e2,e3⟩
  ·exact n.roots a (.inl (b1 a z))
  ·exact n.roots a (.inr ⟨i,u',r',dD i u' e1,e2,e3⟩)
 ·rcases z with z|rfl
  ·exact n.new a z
  ·rcases n.roots a (.inl ⟨j,.own,u,rfl,hj,hv⟩) with z|z
   ·exact .inr (.inl z)
   ·exact .inr (.inr z)
theorem gH(ES:Ok C c0)(ok:Ok C c)(n:Nx c0 c)(hr:eR C c0 c r.1 r.2 v)(h:W (lift r) c.st DL):
  ∃(S':Addr->Prop) (st':au) (u:U),(∀a,c.S a->S' a)/\Ok C {c with S:=S',st:=st' }/\Nx c0 {c with S:=S',st:=st' }/\Rep C S' c.H u v/\DL u st' /\
   (∀a,S' a->c.S a\/v=.ref a/\(r.1=.own\/c.R a))/\∀a,({c with S:=S',st:=st' }:Cf).R a->c.R a:=by
 obtain⟨k,u⟩:=r;cases k with
 |own =>
  rw[show lift (.own,u)=pure u from rfl,ah]at h;obtain⟨r,e,h1,h2,h3,h4⟩:=hr;obtain⟨DQ,n'⟩:=Ok.AE ES ok n h1 h3 h4;refine⟨_,c.st,u,λa=>.inl,DQ,n',by rw[e];exact h4.rep (λa=>.inl) (.inr rfl),h,λa z=>?_,λa z=>z⟩;rcases z with z|rfl
  ·exact .inl z
  ·exact .inr ⟨e,.inl rfl⟩
 |loc =>
  rw[show lift (.loc,u)=pure u from rfl,ah]at h;exact⟨c.S,c.st,u,λa=>id,ok,n,hr,h,λa z=>.inl z,λa z=>z⟩
 |any =>
  rw[show lift (.any,u)=if D9 u=true then pure u else M.fail from rfl]at h;split at h
  ·rw[ah]at h;exact⟨c.S,c.st,u,λa=>id,ok,n,Rep.D9 (by assumption) hr,h,λa z=>.inl z,λa z=>z⟩
  ·exact(aA.mp h).elim
 |io=>exact hr.elim
 |Dw=>exact hr.elim
 |bor j =>
  obtain⟨x,st',e,hp⟩:=h;rw[show lift (.bor j,u) c.st=match c.st[j]? with|some (some (.own,u))=>some (Ex.ok u,c.st.set j (some (.loc,u)))|_=>none from rfl]at e;split at e
  ·rename_i w hj;cases e;obtain⟨v',e1,r,er,_⟩:=ok.sl j _ _ hj;have hv:c.σ[j]?=some (some v):=hr;rw[hv]at e1;cases e1;subst er;obtain⟨DQ,n',rep⟩:=ok.vp n hj hv;refine⟨_,_,_,λa=>.inl,DQ,n',rep,hp,λa z=>?_,λa z=>?_⟩
   ·rcases z with z|rfl
    ·exact .inl z
    ·exact .inr ⟨rfl,.inr (.inl ⟨j,.own,_,rfl,hj,hv⟩)⟩
   ·rcases z with⟨i,k,u',hk,e,e'⟩|⟨i,u',r',e,e',Rv⟩
    rotate_left 1
    ·by_cases EY:i=j
     ·subst EY;have Ge:i<c.st.length:=(List.getElem?_eq_some_iff.mp hj).1;rw[List.getElem?_set_self Ge]at e;cases e
     ·rw[List.getElem?_set_ne (Ne.symm EY)]at e;exact .inr ⟨i,u',r',e,e',Rv⟩
    by_cases EY:i=j
    ·subst EY;have Ge:i<c.st.length:=(List.getElem?_eq_some_iff.mp hj).1;rw[List.getElem?_set_self Ge]at e;cases e;cases hk
    ·rw[List.getElem?_set_ne (Ne.symm EY)]at e;exact .inl ⟨i,k,u',hk,e,e'⟩
  ·cases e
theorem gI:∀{rs:List (Kd×U)}{vs:List V}{c:Cf}{DL:List U->au->Prop},Ok C c0->Ok C c->Nx c0 c->dh C c0 c rs vs->W (cR rs) c.st DL ->
  ∃(S':Addr->Prop) (st':au) (us:List U),(∀a,c.S a->S' a)/\Ok C {c with S:=S',st:=st' }/\Nx c0 {c with S:=S',st:=st' }/\ai C S' c.H us vs/\DL us st'
 |[],vs,c,DL,ES,ok,n,hr,h=>by
  rw[show cR []=pure [] from rfl,ah]at h;exact⟨c.S,c.st,[],λa=>id,ok,n,hr,h⟩
 |r::rs,vs,c,DL,ES,ok,n,hr,h=>by
  obtain⟨v,t,rfl,h1,h2,h3⟩:=hr;rw[show cR (r::rs)=lift r >>= λu=>cR rs >>= λus=>pure (u::us) from rfl,ae]at h;obtain⟨S1,st1,u,s1,DK,n1,rep1,h4,GJ,F7⟩:=gH ES ok n h1 h;rw[ae]at h4;have Kx:dh C c0 {c with S:=S1,st:=st1} rs t:=by
   clear h h4;have aux:∀(l:List (Kd×U)) (w:List V),dh C c0 c l w->(r.1=.own->∀(i:Nat) r' v',l[i]?=some r'->w[i]?=some v'->r'.1=.own->v'≠v)->dh C c0 {c with S:=S1,st:=st1} l w:=by
    intro l;induction l with
    |nil=>intro w q _;exact q
    |cons r2 l ih =>
     intro w q Ej;obtain⟨v2,t2,rfl,q1,q2,q3⟩:=q;refine⟨v2,t2,rfl,?_,ih t2 q2 (λhk i r' v' e1 e2 ET=>Ej hk (i+1) r' v' (by simpa using e1) (by simpa using e2) ET),q3⟩;obtain⟨k2,u2⟩:=r2;cases k2 with
     |own =>
      obtain⟨a,e,p1,p2,p3,p4⟩:=q1;refine⟨a,e,p1,λz=>?_,λz=>p3 (F7 a z),p4.mv (.up s1) λo q=>q⟩;rcases GJ a z with z|⟨z,z'|z'⟩
      ·exact p2 z
      ·exact Ej z' 0 _ v2 rfl rfl rfl (e.trans z.symm)
      ·exact p3 z'
     |loc=>exact Rep.mv (.up s1) q1
     |any=>exact Rep.mv (.up λa z=>z.imp id (s1 a)) q1
     |bor j=>exact q1
     |io=>exact q1
     |Dw=>exact q1
   exact aux rs t h2 h3
  obtain⟨S2,st2,us,s2,D0,n2,rep2,h5⟩:=gI (c:={c with S:=S1,st:=st1}) ES DK n1 Kx h4;rw[ah]at h5;exact⟨S2,st2,u::us,λa z=>s2 a (s1 a z),D0,n2,⟨v,t,rfl,rep1.mv (.up s2),rep2⟩,h5⟩
theorem x_(ha:PA X es (EU C ms)):PE X (.Tuple es x1 pos) (DH C (ms >>= λrs=>aw rs >>= λ_=>cR rs >>= λus=>if us.length<=sizeLine then pure (.loc,.tup us) else M.fail)):=by
 rintro pins s σ H Q I ⟨c0,rfl,rfl,ok,h⟩;refine wpAny_Tuple_spliced (DG (args ha I ok h pos) λus s1 ⟨rs,c,vs,t,I1,rv,w⟩=>?_);rw[ae]at w;obtain⟨S',st',ws,Rw,DK,n1,rep,w1⟩:=gI ok t.ok t.nx t.rep w;split at w1
 ·rename_i hz;rw[ah]at w1;have hl:vs.length<=sizeLine:=by rw[<-rep.len];exact hz
  refine⟨by rw[<-rv.length];exact hl,?_⟩;have hf:c.H s1.heap.objs.size=none:=I1.DE.fresh (Nat.le_refl _);have I2:Inv X pins c0.σ c.H s1:=by rw[<-t.hσ];exact I1
  refine⟨.ref s1.heap.objs.size,upd c.H s1.heap.objs.size (.tup vs),I2.laid (t':=s1.toks) (λb u e=>Heap.get?_push_of_some _ e) (Nat.le_refl _) ⟨hl,us,rv,IsTup.new _ _⟩,rfl,?_⟩;exact bT.tup (c:={c with S:=S',st:=st' }) w1 t.hσ DK n1 rep _ hf
 ·exact(aA.mp w1).elim
theorem ya(ha:PA X es (EU C ms)):PE X (.List es pos) (DH C (ms >>= λrs=>aw rs >>= λ_=>cR rs >>= λus=>if us.length<=sizeLine then pure (.own,.lst us) else M.fail)):=by
 rintro pins s σ H Q I ⟨c0,rfl,rfl,ok,h⟩;refine wpAny_List_spliced (DG (args ha I ok h pos) λus s1 ⟨rs,c,vs,t,I1,rv,w⟩=>?_);rw[ae]at w;obtain⟨S',st',ws,Rw,DK,n1,rep,w1⟩:=gI ok t.ok t.nx t.rep w;split at w1
 ·rename_i hz;rw[ah]at w1;have hl:vs.length<=sizeLine:=by rw[<-rep.len];exact hz
  refine⟨by rw[<-rv.length];exact hl,?_⟩;have hf:c.H s1.heap.objs.size=none:=I1.DE.fresh (Nat.le_refl _);have I2:Inv X pins c0.σ c.H s1:=by rw[<-t.hσ];exact I1
  refine⟨.ref s1.heap.objs.size,upd c.H s1.heap.objs.size (.lst vs),I2.laid (t':=s1.toks) (λb u e=>Heap.get?_push_of_some _ e) (Nat.le_refl _) ⟨hl,us,0,rv,Heap.get?_push_size _ rfl⟩,rfl,?_⟩;exact bT.list (c:={c with S:=S',st:=st' }) w1 t.hσ DK n1 rep _ hf
 ·exact(aA.mp w1).elim
end
section
theorem mS(hN:X.N[i]?=some x)(hv:Fm X.env.scope x)(hd:(x==("__debug__":Str))=false)(Ed:(x==("__classdict__":Str))=false):PE X (.Name x pos) (DH C (dn i)):=by
 refine PE.weak (cn hN hv hd Ed) ?_;rintro σ H Q ⟨c0,rfl,rfl,ok,r,st',e,h⟩;unfold dn at e;split at e
 ·cases e
 ·rename_i k u Nh hs;cases e;obtain⟨v,e1,e2⟩:=ok.sl i k u hs;refine⟨v,e1,h c0 v rfl rfl ok (Nx.refl c0) ?_⟩;by_cases hk:k.root=true
  ·rw[if_pos hk];exact⟨⟨k,hk,hs⟩,e1⟩
  ·rw[if_neg hk];cases k with
   |own=>exact absurd rfl hk
   |io=>exact absurd rfl hk
   |loc=>exact e2
   |any=>exact e2
   |bor j=>exact e2.elim
   |Dw=>exact(Nh rfl).elim
 ·cases e
theorem gJ(h:PE X e (tC v))(r:∀S H,Rep C S H u v):PE X e (DH C (pure (.loc,u))):=by
 refine PE.weak h ?_;rintro σ H Q ⟨c0,rfl,rfl,ok,h⟩;rw[ah]at h;exact h c0 v rfl rfl ok (Nx.refl c0) (r _ _)
theorem bT.root(h:bT C c0 Q (.own,u) c.st)(hσ:c.σ=c0.σ)(ok:Ok C c)(n:Nx c0 c)(p:Addr)(hp:c.H p=none)(r:dg C c.S (upd c.H p o) p u):Q (.ref p) (upd c.H p o):=by
 obtain⟨DQ,n'⟩:=ok.lay (o:=o) hp;obtain⟨h0,h1,h2,h3,h4⟩:=ok.jO hp;exact h {c with H:=upd c.H p o} _ hσ rfl DQ (n.trans n') ⟨p,rfl,n.none hp,h1,h4,r⟩
theorem vq(hP:C.P=X.prog)(hw:C.w=X.w)(r:Bool):PE X (.Dict [] [] pos) (DH C (pure (.own,if r=true then .DV [] else .Dy [] []))):=by
 cases r with
 |false =>
  refine PE.weak nX ?_;rintro σ H Q ⟨c0,rfl,rfl,ok,h⟩ p hp;rw[ah,if_neg Bool.false_ne_true]at h;exact bT.root h rfl ok (Nx.refl c0) p hp ⟨[],aq,rfl,rfl⟩
 |true =>
  refine PE.weak xy ?_;rintro σ H Q ⟨c0,rfl,rfl,ok,h⟩ p hp;rw[ah,if_pos rfl]at h;refine bT.root h rfl ok (Nx.refl c0) p hp ⟨[],?_,rfl,λx hx=>by cases hx⟩;rw[hP,hw];exact aq
theorem ai.D6{S:Addr->Prop}(h:ai C S H us vs)(e:D6 us i=some u):∃v,L2.D6 vs i=some v/\Rep C S H u v:=by
 unfold L2.D6 at e ⊢;rw[h.len]at e;cases q:GB vs.length i with
 |none=>rw[q]at e;cases e
 |some j =>
  rw[q]at e;exact h.get e
theorem AF(hK:C.K=X.K)(hu:X.A.units+60<cLine)(hs:mr b)(t:Kv C c0 c x y vx vy)(I:Inv X pins c.σ c.H s)(rx:RelV vx v)(ry:RelV vy u)(h:ib x y.2=some r)(q:bT C c0 Q r c.st):
  wpAny (model X.prog X.w) X.A (subscriptTail a b v u) (EP X pins c.σ Q) X.xe s:=by
 obtain⟨hσ,ok,n,tx,ty,-⟩:=t;obtain⟨ky,uy⟩:=y
 dsimp only at h ty
 unfold ib at h;split at h
 ·rename_i k xs i;rw[Option.map_eq_some_iff]at h;obtain⟨w,e,rfl⟩:=h;obtain⟨a',vs,ex,h1,h2⟩:=tx.list ok;obtain⟨vw,e1,e2⟩:=h2.D6 e;exact xm a b pins s c.σ c.H vx vy v u Q I rx ry ⟨a',vs,i,vw,ex,ty.int ok,hK▸h1,e1,q c vw hσ rfl ok n (aE.item e2)⟩ (hs _ _)
 ·rename_i k xs i;rw[Option.map_eq_some_iff]at h;obtain⟨w,e,rfl⟩:=h;obtain⟨a',vs,ex,h1,h2⟩:=tx.tuple ok;obtain⟨vw,e1,e2⟩:=h2.D6 e;rw[hK]at h1;exact pP a b pins s c.σ c.H vx vy v u Q I rx ry ⟨a',vs,i,vw,ex,ty.int ok,h1,e1,q c vw hσ rfl ok n (aE.item e2)⟩ (hs _ _)
 ·split at h
  ·rw[Option.map_eq_some_iff]at h;obtain⟨w,e,rfl⟩:=h;exact jv a b pins s c.σ c.H vx vy v u Q I rx ry ⟨_,_,w,tx.str ok,ty.int ok,by assumption,e,q c _ hσ rfl ok n rfl⟩ (hs _ _)
  ·cases h
 ·cases h
theorem rE(hK:C.K=X.K)(hu:X.A.units+60<cLine)(hs:mr b)(ha:PE X a (DH C ma))(hb:PE X b (DH C mb)):PE X (.Subscript a b pos) (DH C (ma >>= λx=>mb >>= λy=>aw [x,y] >>= λ_=>M.DR (ib x y.2))):=by
 rintro pins s σ H Q I ⟨c0,rfl,rfl,ok,h⟩;refine Subscript_ (two ha hb I ok h λx y c vx vy v u s2 t I2 rx ry w=>?_);obtain⟨r,e,q⟩:=bG.mp w;exact DG (AF hK hu hs t I2 rx ry e q) λ_ _ z=>by rw[t.hσ]at z;exact z
end
section
end
section
variable{X:Cx}{C:Ct}{pins:List (Addr×Obj)}{s:Shared}{c0 c c1:Cf}
variable{a b d e:Expr}{es:List Expr}{m ma mb md:M (Kd×U)}{ms:M (List (Kd×U))}{ta tb:M Bool}{pos p p2:Pos}
def tO(C:Ct)(m:M (Option Int)):TO:=λσ H Q=>∃c0:Cf,c0.σ=σ/\c0.H=H/\Ok C c0/\W m c0.st λi st'=>∀c,c.σ=σ->c.st=st'->Ok C c->Nx c0 c->Q i c.H
theorem tv:PO X none (tO C (pure none)):=by
 rintro pins s σ H Q I ⟨c0,rfl,rfl,ok,h⟩;rw[ah]at h;exact xk pins s c0.σ c0.H Q I (h c0 rfl rfl ok (Nx.refl c0))
theorem tw(ha:PE X a (DH C ma)):PO X (some a) (tO C (ma >>= Au)):=by
 rintro pins s σ H Q I ⟨c0,rfl,rfl,ok,h⟩;refine xl ha pins s c0.σ c0.H Q I (aF ok h λx c v t w=>?_);obtain⟨k,u⟩:=x;unfold Au at w;split at w
 ·rename_i i e
  dsimp only at e
  subst e;rw[ah]at w;exact⟨i,t.rx.int t.ok,w c t.hσ rfl t.ok t.nx⟩
 ·exact(aA.mp w).elim
theorem AG{lo hi:Option Int}(hK:C.K=X.K)(hσ:c.σ=c0.σ)(ok:Ok C c)(n:Nx c0 c)(tx:aE C c0 c x.1 x.2 vx)(h:p_ x lo hi=some r)(q:bT C c0 Q r c.st):BP vx lo hi c.H Q:=by
 unfold p_ at h;split at h
 ·split at h
  ·cases h;exact⟨_,tx.str ok,by assumption,q.flat hσ ok n rfl⟩
  ·cases h
 ·cases h
theorem yb{lo hi:Option Expr}(hK:C.K=X.K)(ha:PE X a (DH C ma))(hl:PO X lo (tO C ml))(hh:PO X hi (tO C mh)):
  PE X (.Subscript a (.Slice lo hi none p2) pos) (DH C (ma >>= λx=>ml >>= λl=>mh >>= λh=>aw [x] >>= λ_=>M.DR (p_ x l h))):=by
 refine PE.weak (uq Aa ha hl hh) ?_;rintro σ H Q ⟨c0,rfl,rfl,ok,h⟩;refine aF ok h λx c v t w=>?_;rw[ae]at w;refine⟨c,t.hσ,rfl,t.ok,w.mono λl st2 h2 c2 e1 e2 D0 n2=>?_⟩;subst e2;rw[ae]at h2;refine⟨c2,e1,rfl,D0,h2.mono λl' st3 h3 c3 e3 e4 Fy n3=>?_⟩;subst e4;rw[ae,cj]at h3;obtain⟨r,e,q⟩:=bG.mp h3.2;have Pc:Nx c c3:=n2.trans n3;exact AG hK e3 Fy (t.nx.trans Pc) ((t.rx.w.on t.ok Pc (e3.trans t.hσ.symm)).t h3.1) e q
theorem ai.rz{S:Addr->Prop}(h:ai C S H us vs):ai C S H us.reverse vs.reverse:=by
 induction us generalizing vs with
 |nil=>cases h;exact rfl
 |cons u us ih =>
  obtain⟨v,r,rfl,h1,h2⟩:=h;rw[List.reverse_cons,List.reverse_cons];exact(ih h2).snoc h1
theorem yc(hK:C.K=X.K)(ha:PE X a (DH C ma)):PE X (.Subscript a (.Slice none none (some (.UnaryOp .USub (.Constant (.int 1) kx p1) p3)) p2) pos) (DH C (ma >>= λx=>M.DR (xT x))):=by
 refine PE.weak (Ak ha) ?_;rintro σ H Q ⟨c0,rfl,rfl,ok,h⟩;refine aF ok h λx c v t w=>?_;obtain⟨r,e,w⟩:=bG.mp w;obtain⟨k,u⟩:=x;unfold xT at e;split at e
 ·rename_i k' xs q;cases q;cases e;obtain⟨a',vs,ex,h1,h2⟩:=t.rx.tuple t.ok;rw[hK]at h1;exact⟨a',vs,ex,h1,λp hp=>bT.tupK (λc' v' z1 z2 z3 z4 z5=>w c' v' z1 z2 z3 z4 z5) t.hσ t.ok t.nx h2.rz p hp⟩
 ·cases e
end
section
variable{X:Cx}{C:Ct}{pins:List (Addr×Obj)}{s:Shared}{c0 c c1:Cf}
variable{a b d e:Expr}{es:List Expr}{m ma mb md:M (Kd×U)}{ms:M (List (Kd×U))}{ta tb:M Bool}{pos p p2:Pos}
noncomputable def Bf.val:Bf->Value
 |.len=>.builtin "len"|.sorted=>.builtin "sorted"|.repr=>.builtin "repr"|.max=>.builtin "max"|.min=>.builtin "min"|.all=>.builtin "all"|.any=>.builtin "any"
 |.list=>.type "list"|.tuple=>.type "tuple"|.str=>.type "str"|.int=>.type "int"
noncomputable def Bf.name:Bf->Str
 |.len=>"len"|.sorted=>"sorted"|.repr=>"repr"|.max=>"max"|.min=>"min"|.all=>"all"|.any=>"any"
 |.list=>"list"|.tuple=>"tuple"|.str=>"str"|.int=>"int"
theorem call_of(hc:iA X f r)(I:Inv X pins c.σ c.H s)(rv:Vals vs us)(h:r vs c.H Q):wpAny (model X.prog X.w) X.A (call f us) (EP X pins c.σ Q) X.xe s:=hc pins s c.σ c.H vs us Q I rv h
theorem bJ(h:gC f rs=some r):∃x,rs=[x]/\f x=some r:=by
 unfold gC at h;split at h
 ·exact⟨_,rfl,h⟩
 ·cases h
theorem y8(hc:X.calm=true)(hK:C.K=X.K)(LF:X.A.guards=some [])(Ky:X.A.units+60<cLine)(t:Gb C c0 c rs vs)(I:Inv X pins c.σ c.H s)(rv:Vals vs us)(h:Fq f rs=some r)(q:bT C c0 Q r c.st):
  wpAny (model X.prog X.w) X.A (call f.val us) (EP X pins c.σ Q) X.xe s:=by
 have hσ:=t.hσ;have ok:=t.ok;have n:=t.nx;cases f with
 |len =>
  obtain⟨x,rfl,hz⟩:=bJ (f:=λx=>(Am x.2).map λ(n:Nat)=>(Kd.loc,U.int (n:Int))) h;clear h;have h:=hz;clear hz;rw[Option.map_eq_some_iff]at h;obtain⟨k,e,rfl⟩:=h;obtain⟨v,rfl,tx⟩:=t.one;obtain⟨kx,ux⟩:=x;unfold Am at e;split at e
  ·rename_i xs hx;have hx:ux=.lst xs:=hx;subst hx;cases e;obtain⟨a',ws,ex,h1,h2⟩:=tx.list ok;rw[h2.len]at q;exact call_of gm I rv ⟨a',ws,by rw[ex],.inl (hK▸h1),q.flat hσ ok n rfl⟩
  ·rename_i xs hx;have hx:ux=.tup xs:=hx;subst hx;cases e;obtain⟨a',ws,ex,h1,h2⟩:=tx.tuple ok;rw[hK]at h1;rw[h2.len]at q;exact call_of gm I rv ⟨a',ws,by rw[ex],.inr h1,q.flat hσ ok n rfl⟩
  ·rename_i xs hx;have hx:ux=.str xs:=hx;subst hx;split at e
   ·cases e;exact call_of mw I rv ⟨_,by rw[tx.str ok],by assumption,q.flat hσ ok n rfl⟩
   ·cases e
  ·cases e
 |sorted =>
  obtain⟨x,rfl,hz⟩:=bJ (f:=An) h;clear h;have h:=hz;clear hz;obtain⟨v,rfl,tx⟩:=t.one;unfold An at h;split at h
  ·rw[Option.bind_eq_some_iff]at h;obtain⟨ss,e,h⟩:=h;have e':=bR e;subst e';obtain⟨a',ws,ex,h1,h2⟩:=tx.list ok;rw[ai.strs]at h2;subst h2;split at h
   ·cases h;exact call_of iF I rv ⟨a',ss,by rw[ex],.inl (hK▸h1),by assumption,λp hp=>q.list hσ ok n (ai.strs.mpr rfl) p hp⟩
   ·cases h
  ·rw[Option.bind_eq_some_iff]at h;obtain⟨ss,e,h⟩:=h;have e':=bR e;subst e';obtain⟨a',ws,ex,h1,h2⟩:=tx.tuple ok;rw[hK]at h1;rw[ai.strs]at h2;subst h2;split at h
   ·cases h;exact call_of iF I rv ⟨a',ss,by rw[ex],.inr h1,by assumption,λp hp=>q.list hσ ok n (ai.strs.mpr rfl) p hp⟩
   ·cases h
  ·cases h
 |tuple =>
  obtain⟨x,rfl,hz⟩:=bJ (f:=Ao) h;clear h;have h:=hz;clear hz;obtain⟨v,rfl,tx⟩:=t.one;unfold Ao at h;split at h
  ·obtain⟨a',ws,ex,h1,h2⟩:=tx.list ok;cases h;exact call_of fE I rv ⟨a',ws,by rw[ex],.inl ⟨hK▸h1,λp hp=>q.tupK hσ ok n h2 p hp⟩⟩
  ·obtain⟨a',ws,ex,h1,h2⟩:=tx.tuple ok;have Fu:=h1;rw[hK]at Fu;cases h;exact call_of fE I rv ⟨a',ws,by rw[ex],.inr ⟨Fu,q c (.ref a') hσ rfl ok n (aE.item ⟨a',ws,rfl,h1,h2⟩)⟩⟩
  ·cases h
 |str =>
  obtain⟨x,rfl,hz⟩:=bJ (f:=xQ) h;clear h;have h:=hz;clear hz;obtain⟨v,rfl,tx⟩:=t.one;unfold xQ at h;split at h
  ·split at h
   ·cases h;exact call_of mn I rv ⟨_,by rw[tx.int ok],by assumption,q.flat hσ ok n rfl⟩
   ·cases h
  ·cases h
 |all =>
  obtain⟨x,rfl,hz⟩:=bJ (f:=Ap) h;clear h;have h:=hz;clear hz;obtain⟨v,rfl,tx⟩:=t.one;unfold Ap at h;split at h
  ·rw[Option.map_eq_some_iff]at h;obtain⟨bs,e,rfl⟩:=h;have e':=fW e;subst e';obtain⟨a',ws,ex,h1,h2⟩:=tx.list ok;have:=h2.Ng;subst this;exact call_of (uJ hc) I rv ⟨a',bs,by rw[ex],hK▸h1,q.flat hσ ok n rfl⟩
  ·cases h
 |any =>
  obtain⟨x,rfl,hz⟩:=bJ (f:=Aq) h;clear h;have h:=hz;clear hz;obtain⟨v,rfl,tx⟩:=t.one;unfold Aq at h;split at h
  ·rw[Option.map_eq_some_iff]at h;obtain⟨bs,e,rfl⟩:=h;have e':=fW e;subst e';obtain⟨a',ws,ex,h1,h2⟩:=tx.list ok;have:=h2.Ng;subst this;exact call_of (u4 hc) I rv ⟨a',bs,by rw[ex],hK▸h1,q.flat hσ ok n rfl⟩
  ·cases h
 |_=>cases h
theorem yd{id:String}(hc:X.calm=true)(hK:C.K=X.K)(LF:X.A.guards=some [])(Ky:X.A.units+60<cLine)(hf:f.val=.builtin id)(hg:Gl X x)(hm:X.mg x=none)(hv:bootBuiltins x=some (.builtin id))(hn:x≠"__name__")(Iv:(x==("__debug__":Str))=false)
  (ha:PA X (e::es) (EU C ms)) (he:starEach (e::es) X.env=(false,eval e X.env)::starEach es X.env) (Eg:(backTo pos (starEach es X.env)).any (·.1)=false) :
  PE X (.Call (.Name x p) (e::es) [] pos) (DH C (ms >>= λrs=>aw rs >>= λ_=>M.DR (Fq f rs))):=by
 rintro pins s σ H Q I ⟨c0,rfl,rfl,ok,h⟩;refine wpAny_Call_Name_kw (cF I hg hm hv ?_ hn Iv);refine PyProof.Rows.callWith_builtin1 (DG (args ha I ok h pos) λus s1 ⟨rs,c,vs,t,I1,rv,w⟩=>?_) he Eg;obtain⟨r,e,q⟩:=bG.mp w;have z:=y8 hc hK LF Ky t I1 rv e q;rw[hf,t.hσ]at z;exact z
theorem ye(hc:X.calm=true)(hK:C.K=X.K)(LF:X.A.guards=some [])(Ky:X.A.units+60<cLine)(hf:f.val=.type T)(hg:Gl X x)(hm:X.mg x=none)(hv:bootBuiltins x=some (.type T))(hn:x≠"__name__")(Iv:(x==("__debug__":Str))=false)
  (ha:PA X (e::es) (EU C ms)) (he:starEach (e::es) X.env=(false,eval e X.env)::starEach es X.env) (Eg:(backTo pos (starEach es X.env)).any (·.1)=false) :
  PE X (.Call (.Name x p) (e::es) [] pos) (DH C (ms >>= λrs=>aw rs >>= λ_=>M.DR (Fq f rs))):=by
 rintro pins s σ H Q I ⟨c0,rfl,rfl,ok,h⟩;refine wpAny_Call_Name_kw (cF I hg hm hv ?_ hn Iv);refine PyProof.Rows.callWith_type1 (DG (args ha I ok h pos) λus s1 ⟨rs,c,vs,t,I1,rv,w⟩=>?_) he Eg;obtain⟨r,e,q⟩:=bG.mp w;have z:=y8 hc hK LF Ky t I1 rv e q;rw[hf,t.hσ]at z;exact z
noncomputable def F9.name:F9->Str
 |.str=>"str"|.list=>"list"|.tuple=>"tuple"|.int=>"int"|.bool=>"bool"
noncomputable def F9.nm:F9->String
 |.str=>"str"|.list=>"list"|.tuple=>"tuple"|.int=>"int"|.bool=>"bool"
theorem yf(T:F9):bootBuiltins T.name=some (.type T.nm)/\T.name≠"__name__"/\(T.name==("__debug__":Str))=false:=by
 cases T<;>exact⟨by decide +kernel,by decide +kernel,by decide +kernel⟩
theorem mT(T:F9):typeOf (.type T.nm)=pure (.type "type"):=by cases T<;>kernel_rfl
theorem jc(T:F9):isSubtype (.type "str") (.type T.nm)=pure (decide (T=.str)):=by cases T<;>(rw[isSubtype_type];kernel_rfl)
theorem sub_int(T:F9):isSubtype (.type "int") (.type T.nm)=pure (decide (T=.int)):=by cases T<;>(rw[isSubtype_type];kernel_rfl)
theorem ne_str{T:F9}(h:¬T=.str):(Value.type "str"==Value.type T.nm)=false:=by cases T<;>first|exact absurd rfl h|decide
theorem ne_int{T:F9}(h:¬T=.int):(Value.type "int"==Value.type T.nm)=false:=by cases T<;>first|exact absurd rfl h|decide
theorem AH{b:Bool}(hK:C.K=X.K)(t:IQ C c0 c x v)(I:Inv X pins c.σ c.H s)(rv:RelV v val)(h:qb x.2 T=some b)(q:∀tk,Q (.bool b) {s with toks:=tk}):
  wpAny (model X.prog X.w) X.A (call (.builtin "isinstance") [val,.type T.nm]) Q X.xe s:=by
 obtain⟨k,u⟩:=x;obtain⟨hσ,ok,n,r⟩:=t;have q0:Q (.bool b) s:=q s.toks
 dsimp only at h r
 have yes:∀{Tx:String},b=true->s.TypeIs val Tx->isSubtype (.type Tx) (.type T.nm)=pure true->wpAny (model X.prog X.w) X.A (call (.builtin "isinstance") [val,.type T.nm]) Q X.xe s:=λe hx hs=>by
  subst e;exact PyProof.Rows.call_isinstance_yes hx (mT T) hs q0
 unfold qb at h;split at h
 ·cases h;have e:v=_:=r.str ok;subst e;obtain⟨tk,rfl⟩:=rv;by_cases hT:T=.str
  ·subst hT;exact yes (by simp) (typeIs_str s _ tk) (jc .str)
  ·rw[decide_eq_false hT]at q;exact call_isinstance (isinstance_false_str (ne_str hT) (mT T) (by rw[jc,decide_eq_false hT])) (q _)
 ·cases h;have e:v=_:=r.int ok;subst e;obtain⟨tk,rfl⟩:=rv;by_cases hT:T=.int
  ·subst hT;exact yes (by simp) (typeIs_int s _ tk) (sub_int .int)
  ·rw[decide_eq_false hT]at q;exact call_isinstance (isinstance_false_int (ne_int hT) (mT T) (by rw[sub_int,decide_eq_false hT])) (q _)
 ·cases h;have e:v=_:=r.bl ok;subst e;cases rv;exact yes rfl (PySem.typeIs_bool s _) (by rw[isSubtype_type];kernel_rfl)
 ·cases h;have e:v=_:=r.bl ok;subst e;cases rv;exact yes rfl (PySem.typeIs_bool s _) (by rw[isSubtype_type];kernel_rfl)
 ·cases h;obtain⟨a',ws,rfl,h1,h2⟩:=r.list ok;cases rv;rw[hK]at h1;obtain⟨A',_,pl,_⟩:=I.list h1;obtain⟨o,ho,hc,_⟩:=pl.isList;exact yes rfl ⟨o,ho,hc⟩ (by rw[isSubtype_type];kernel_rfl)
 ·cases h;obtain⟨a',ws,rfl,h1,h2⟩:=r.tuple ok;cases rv;rw[hK]at h1;obtain⟨A',_,⟨o,ho,hc,_⟩,_⟩:=I.tuple h1;exact yes rfl ⟨o,ho,hc⟩ (by rw[isSubtype_type];kernel_rfl)
 ·cases h
theorem rF(hK:C.K=X.K)(hg:Gl X "isinstance")(hm:X.mg "isinstance"=none)(HD:Gl X T.name)(Jz:X.mg T.name=none)(ha:PE X a (DH C ma))(hs:starEach [a,.Name T.name p2] X.env=(false,eval a X.env)::starEach [.Name T.name p2] X.env):
  PE X (.Call (.Name "isinstance" p) [a,.Name T.name p2] [] pos) (DH C (ma >>= λx=>M.DR (qb x.2 T) >>= λb=>pure (.loc,.bl b))):=by
 rintro pins s σ H Q I ⟨c0,rfl,rfl,ok,h⟩;obtain⟨t1,t2,t3⟩:=yf T;refine wpAny_Call_Name_kw (cF I hg hm (show bootBuiltins "isinstance"=some (.builtin "isinstance") by decide +kernel) ?_ (by decide +kernel) (by decide +kernel));refine PyProof.Rows.callWith_builtin1 (DG (fc ha (fc (wZ (v:=.ty T.nm) HD Jz t1 rfl t2 t3) ju) hs pos pins s c0.σ c0.H (λvs H'=>∃x c v b,IQ C c0 c x v/\c.H=H'/\vs=[v,.ty T.nm]/\qb x.2 T=some b/\bT C c0 Q (.loc,.bl b) c.st) I ?_) λus s1 ⟨vs,H1,I1,r1,x,c,v,b,t,e,e2,hb,w⟩=>?_) hs (by rfl)
 ·refine aF ok h λx c v t w=>?_;rw[ae]at w;obtain⟨b,e,w⟩:=bG.mp w;rw[ah]at w;exact⟨x,c,v,b,t,rfl,rfl,e,w⟩
 ·subst e e2;obtain⟨u1,u2,rfl,Rx,Nf⟩:=vals2 r1;cases Nf;have I2:Inv X pins c.σ c.H s1:=by rw[t.hσ];exact I1
  have z:=AH (Q:=EP X pins c0.σ Q) hK t I2 Rx hb λtk=>⟨.bl b,c.H,I1.tok tk,rfl,w c (.bl b) t.hσ rfl t.ok t.nx rfl⟩
  exact z
abbrev G'(P:Program)(w:World)(K:PySem.W.Frag)(H:Hp)(Pr:Addr->Prop):Ct:=⟨P,w,K,H,Pr,λ_=>False⟩
structure Back(C:Ct)(H H':Hp)(S':Addr->Prop)(k:Kd)(u:U)(v:V):Prop where
 same:zS H H'
 new:∀a,S' a->H a=none/\∃o,H' a=some o
 own:k=.own->∃r,v=.ref r/\H r=none/\¬S' r/\dg C S' H' r u
 loc:k=.loc->Rep C S' H' u v
 any:k=.any->Rep C (PS C S') H' u v
def spT(P:Program)(w:World)(K:PySem.W.Frag)(F:List U->Option (Ex (Kd×U)))(np:Nat):Sp:=λvs H Q _=>vs.length=np/\∃us k u Pr,F us=some (.ok (k,u))/\(k=.own\/k=.loc\/k=.any)/\(∀a,Pr a->Gq H a) /\
 ai (G' P w K H Pr) Pr H us vs/\∀v H' S',Back (G' P w K H Pr) H H' S' k u v->Q v H'
theorem Gb.read(t:Gb C c0 c rs vs):ai C (Gq c.H) c.H (rs.map (·.2)) vs:=by
 have aux:∀(l:List (Kd×U)) (w:List V),dh C c0 c l w->bb l c.st->ai C (Gq c.H) c.H (l.map (·.2)) w:=by
  intro l;induction l with
  |nil=>intro w h _;exact h
  |cons r l ih =>
   intro w h hs;obtain⟨v,t',rfl,h1,h2,_⟩:=h;rw[fj]at hs;exact⟨v,t',rfl,(h1.t hs.1).read t.ok,ih t' h2 hs.2⟩
 exact aux rs vs t.rep t.HU
theorem Back.here(hk:k=.own\/k=.loc)(hσ:c.σ=c0.σ)(ok:Ok C c)(n:Nx c0 c)(q:C'.Eqv C)(h:Back C' c.H H' S' k u v)(w:bT C c0 Q (k,u) c.st):Q v H':=by
 obtain⟨DQ,n'⟩:=ok.grow (S':=λa=>c.S a\/S' a) h.same (λa z=>z.imp id λz=>h.new a z) λa=>.inl;have hn:=n.trans n';refine w {c with H:=H',S:=λa=>c.S a\/S' a} v hσ rfl DQ hn ?_;rcases hk with rfl|rfl
 ·obtain⟨r,e,h1,h2,h3⟩:=h.own rfl;obtain⟨z0,z1,z2,z3,z4⟩:=ok.jO h1;refine⟨r,e,n.none h1,λz=>z.elim z1 h2,z4,(h3.cg q).mv (.up λa=>.inr) λo q=>q⟩
 ·exact((h.loc rfl).cg q).mv (.up λa=>.inr)
theorem vt(hP:C.P=X.prog)(hw:C.w=X.w)(hK:C.K=X.K)(hF:Γ f=F)(hk:∀us k u,F us=some (.ok (k,u))->(k=.own\/k=.loc\/k=.any)/\us.length=np)
  (G:nS X.prog X.w X.K X.mg X.base Hx k fa fd ps (spT X.prog X.w X.K F np)) (hr:fM k X.A) (hg:Gl X f) (hm:X.mg f=some (.ref fa)) (M9:PySem.W.keepIn X.K (.ref fa)=true) (hb:Binds X.K fd ps [])
  (Iv:(f==("__debug__":Str))=false) (ha:PA X (e::es) (EU C ms)) (he:starEach (e::es) X.env=(false,eval e X.env)::starEach es X.env) (Eg:(backTo pos (starEach es X.env)).any (·.1)=false) :
  PE X (.Call (.Name f p) (e::es) [] pos) (DH C (ms >>= λrs=>aw rs >>= λ_=>jP Γ f (rs.map (·.2)))):=by
 rintro pins s σ H Q I ⟨c0,rfl,rfl,ok,h⟩;refine wpAny_Call_Name_kw (wY I hg hm ?_ Iv);refine PySem.W.callWith_K (h₀:=X.base) I.ok.mod.L0 M9 (DG (args ha I ok h pos) λus s1 ⟨rs,c,vs,t,I1,rv,w⟩=>⟨I1.Jh,?_⟩) he Eg;obtain⟨r,st',e1,q⟩:=w;unfold jP at e1;rw[hF]at e1;cases e2:F (rs.map (·.2)) with
 |none=>rw[e2]at e1;cases e1
 |some r' =>
  rw[e2]at e1;split at e1
  ·cases e1
  ·rename_i z;cases z
  rename_i Ni e3;cases e3;cases e1;obtain⟨kd,u⟩:=r;obtain⟨k0,k2⟩:=hk _ _ _ e2;have k1:kd=.own\/kd=.loc:=by
   rcases k0 with z|z|z
   ·exact .inl z
   ·exact .inr z
   ·subst z;exact(Ni u rfl).elim
  have eqv:C.Eqv (G' X.prog X.w X.K c.H (Gq c.H)):=⟨hP,hw,hK⟩
  have Nj:(G' X.prog X.w X.K c.H (Gq c.H)).Eqv C:=⟨hP.symm,hw.symm,hK.symm⟩
  have rd:=t.read;have FP:spT X.prog X.w X.K F np vs c.H (λv H'=>Q v H') E0:=⟨by rw[<-rd.len];exact k2,rs.map (·.2),kd,u,Gq c.H,e2,k0,λ_ z=>z,rd.cg eqv,λv H' S' hb=>hb.here k1 t.hσ t.ok t.nx Nj q⟩
  have z:=zO (Q:=Q) G hr hb .nil BL I1 rv (by rw[List.append_nil];exact FP);rw[t.hσ]at z;exact z
end
section
noncomputable def Mf.id:Mf->String
 |.split=>"str.split"|.join=>"str.join"|.partition=>"str.partition"|.endswith=>"str.endswith"
noncomputable def Mf.name:Mf->Str
 |.split=>"split"|.join=>"join"|.partition=>"partition"|.endswith=>"endswith"
theorem vv(h:iY f u rs=some r):∃x,u=.str x:=by
 unfold iY at h;split at h
 ·exact⟨_,rfl⟩
 ·exact⟨_,rfl⟩
 ·cases h
theorem AI(hK:C.K=X.K)(t:Gb C c0 c (x::rs) (vx::vs))(I:Inv X pins c.σ c.H s)(rx:RelV vx v)(rv:Vals vs us)(h:iY f x.2 rs=some r)(q:bT C c0 Q r c.st):
  wpAny (model X.prog X.w) X.A (call (.builtin f.id) (v::us)) (EP X pins c.σ Q) X.xe s:=by
 have hσ:=t.hσ;have ok:=t.ok;have n:=t.nx;obtain⟨kx,ux⟩:=x;have hs:=fj.mp t.HU;obtain⟨v0,LG,e0,h1,h2,-⟩:=t.rep;cases e0;have tx:aE C c0 c kx ux vx:=h1.t hs.1;have one:∀{r:Kd×U},dh C c0 c [r] vs->bb [r] c.st->∃v,vs=[v]/\aE C c0 c r.1 r.2 v:=λ{r} h s=>by
  obtain⟨v,t',rfl,h1,h2,_⟩:=h;cases h2;exact⟨v,rfl,h1.t s⟩
 dsimp only at h
 unfold iY at h;split at h
 ·obtain⟨w,rfl,ty⟩:=one h2 hs.2;split at h
  ·rename_i hh;cases h;exact uI pins s c.σ c.H vx [w] v us Q I rx rv ⟨_,_,tx.str ok,by rw[ty.str ok],hh.1,hh.2,λp hp=>q.list hσ ok n (ai.strs.mpr rfl) p hp⟩
  ·cases h
 ·rw[Option.bind_eq_some_iff]at h;obtain⟨ss,e,h⟩:=h;have e':=bR e;subst e';obtain⟨w,rfl,ty⟩:=one h2 hs.2;obtain⟨a',ws,ex,h3,h4⟩:=ty.list ok;rw[ai.strs]at h4;subst h4;split at h
  ·cases h;exact xv pins s c.σ c.H vx [w] v us Q I rx rv ⟨_,a',ss,tx.str ok,by rw[ex],hK▸h3,by assumption,q.flat hσ ok n rfl⟩
  ·cases h
 ·cases h
theorem yg(hK:C.K=X.K)(slot:Slot "str" name f.id)(Mk:typeOf (.builtin f.id)=pure (.type "method_descriptor"))(ho:PE X o (DH C m))(ha:PA X (e::es) (EU C ms))
  (GC:attributeBase o name X.env (eval o X.env)=eval o X.env)
  (EL:((backTo Dx (starEach (e::es) X.env)).all (λx=>!x.1)&&(backToKw Dx (keywordEach [] X.env)).all (λx=>x.1.isSome)
   && decide ((e::es).length+([]:List Keyword).length+(if ([]:List Keyword).isEmpty then 0 else 1)<30))=true)
  (D4:(apos.endLine==Dx.line)=true) (hs:starEach (e::es) X.env=(false,eval e X.env)::starEach es X.env) (Es:(backTo Dx (starEach es X.env)).any (·.1)=false) :
  PE X (.Call (.Attribute o name apos) (e::es) [] Dx) (DH C (m >>= λx=>ms >>= λrs=>aw (x::rs) >>= λ_=>M.DR (iY f x.2 rs))):=by
 rintro pins s σ H Q I ⟨c0,rfl,rfl,ok,h⟩;refine wpAny_Call_method_late GC EL D4 rfl (DG (ho pins s c0.σ c0.H (λvx H1=>∃x c1,c1.H=H1/\IQ C c0 c1 x vx/\W (ms >>= λrs=>aw (x::rs) >>= λ_=>M.DR (iY f x.2 rs)) c1.st (bT C c0 Q)) I (aF ok h λx c v t w=>⟨x,c,rfl,t,w⟩)) ?_);rintro v s1 ⟨vx,H1,I1,rx,x,c1,rfl,t,w⟩;have IS:∃z,x.2=.str z:=by
  rw[ae]at w;obtain⟨rs,st2,_,w⟩:=w;rw[ae]at w;obtain⟨_,st3,_,w⟩:=w;obtain⟨r,e,_⟩:=bG.mp w;exact vv e
 obtain⟨z,hz⟩:=IS;have tx:=t.rx;rw[hz]at tx;have ev:=tx.str t.ok;have ty:Mj X.K "str" vx c1.H:=by rw[ev];rfl
 obtain⟨h1,h2⟩:=pR I1 rx ty;refine⟨"str",f.id,PySem.F.plainAttrs_str,slot,Mk,h1,h2,?_⟩;rw[ae]at w;have hA:=ha Dx pins s1 c0.σ c1.H (λvs H2=>∃rs c2,c2.H=H2/\Gb C c0 c2 (x::rs) (vx::vs)/\W (M.DR (iY f x.2 rs)) c2.st (bT C c0 Q)) I1 ⟨c1,t.hσ,rfl,t.ok,w.mono λrs st2 h3 c2 vs e3 e4 D0 n2 r2=>by
  rw[ae,cj]at h3;subst e4;exact⟨rs,c2,rfl,⟨e3,D0,t.nx.trans n2,⟨vx,vs,rfl,t.rx.w.on t.ok n2 (e3.trans t.hσ.symm),r2.from t.nx,λhk i r' v' e5 e6 ET=>mR t.rx.w (r2.get e5 e6) hk ET⟩,h3.1⟩,h3.2⟩⟩
 rw[hs]at hA ⊢;refine Calls.callWith_builtin (by show(false||(backTo Dx (starEach es X.env)).any (·.1))=false;rw[Es]<;>rfl) (Calls.evalArgs_plain ?_);refine DG hA ?_;rintro us s2 ⟨vs,H2,I2,r2,rs,c2,rfl,t2,w2⟩;obtain⟨r,e,q⟩:=bG.mp w2;have z:=AI hK t2 (by rw[t2.hσ];exact I2) rx r2 e q;rw[t2.hσ]at z;exact z
end
section
variable{X:Cx}{C:Ct}{pins:List (Addr×Obj)}{s:Shared}{c0 c c1:Cf}
variable{e:Expr}{es:List Expr}{ms:M (List (Kd×U))}{pos p p2 pos2:Pos}
noncomputable def B2.out:B2->Value
 |.Hl=>.type "tuple"|.Hm=>.type "list"|.sset=>.builtin "sorted"|.mz=>.builtin "len"
noncomputable def B2.LH:B2->Value
 |.Hl=>.type "reversed"|.Hm=>.type "reversed"|.sset=>.type "set"|.mz=>.type "set"
noncomputable def B2.mU:B2->Str
 |.Hl=>"tuple"|.Hm=>"list"|.sset=>"sorted"|.mz=>"len"
noncomputable def B2.gK:B2->Str
 |.Hl=>"reversed"|.Hm=>"reversed"|.sset=>"set"|.mz=>"set"
theorem ie(hK:C.K=X.K)(ok:Ok C c)(tx:aE C c0 c k u v)(h:fw u=some ss):∃a ys,v=.ref a/\(D7 X.K c.H a (ys.map V.str)\/D3 X.K c.H a (ys.map V.str))/\ys.length+1<scanBound/\ss=av ys:=by
 unfold fw at h;split at h
 ·rw[Option.bind_eq_some_iff]at h;obtain⟨ys,e,h⟩:=h;have e':=bR e;subst e';obtain⟨a',ws,ex,h1,h2⟩:=tx.list ok;rw[ai.strs]at h2;subst h2;split at h
  ·cases h;exact⟨a',ys,ex,.inl (hK▸h1),by assumption,rfl⟩
  ·cases h
 ·rw[Option.bind_eq_some_iff]at h;obtain⟨ys,e,h⟩:=h;have e':=bR e;subst e';obtain⟨a',ws,ex,h1,h2⟩:=tx.tuple ok;rw[ai.strs]at h2;subst h2;rw[hK]at h1;split at h
  ·cases h;exact⟨a',ys,ex,.inr h1,by assumption,rfl⟩
  ·cases h
 ·cases h
theorem AJ(hc:X.calm=true)(hK:C.K=X.K)(t:Gb C c0 c rs vs)(I:Inv X pins c.σ c.H s)(rv:Vals vs us)(h:qa f rs=some r)(q:bT C c0 Q r c.st):
  wpAny (model X.prog X.w) X.A (call f.LH us) (λv s1=>wpAny (model X.prog X.w) X.A (call f.out [v]) (EP X pins c.σ Q) X.xe s1) X.xe s:=by
 have hσ:=t.hσ;have ok:=t.ok;have n:=t.nx;cases f with
 |sset =>
  obtain⟨x,rfl,hz⟩:=bJ (f:=λx=>(fw x.2).bind λss=>if ss.length<64 then some (Kd.own,U.lst ((aN ss).map .str)) else none) h;clear h;have h:=hz;clear hz;obtain⟨ss,e,h⟩:=Option.bind_eq_some_iff.mp h;obtain⟨v,rfl,tx⟩:=t.one;obtain⟨a',ys,rfl,h1,h2,rfl⟩:=ie hK ok tx e;obtain⟨u,rfl,rr⟩:=vals1 rv;cases rr;split at h
  ·cases h;exact gw hc I h1 h2 λS h' tk hS I1=>fI hc I1 hS (by assumption) λl hl=>q.list hσ ok n (ai.strs.mpr rfl) l hl
  ·cases h
 |mz =>
  obtain⟨x,rfl,hz⟩:=bJ (f:=λx:Kd×U=>(fw x.2).map λss:List Str=>(Kd.loc,U.int (ss.length:Int))) h;clear h;have h:=hz;clear hz;obtain⟨ss,e,rfl⟩:=Option.map_eq_some_iff.mp h;obtain⟨v,rfl,tx⟩:=t.one;obtain⟨a',ys,rfl,h1,h2,rfl⟩:=ie hK ok tx e;obtain⟨u,rfl,rr⟩:=vals1 rv;cases rr;exact gw hc I h1 h2 λS h' tk hS I1=>jH I1 hS (q.flat hσ ok n rfl)
 |_=>cases h
theorem rG:∀f:B2,bootBuiltins f.mU=some f.out/\bootBuiltins f.gK=some f.LH/\f.mU≠"__name__"/\f.gK≠"__name__"/\(f.mU==("__debug__":Str))=false/\(f.gK==("__debug__":Str))=false:=by
 intro f;cases f<;>exact⟨by decide +kernel,by decide +kernel,by decide +kernel,by decide +kernel,by decide +kernel,by decide +kernel⟩
theorem AK(f:B2):∃T,f.LH=.type T:=by cases f<;>exact⟨_,rfl⟩
theorem AL(f:B2):(∃T,f.out=.type T)\/∃T,f.out=.builtin T:=by cases f<;>first|exact .inl ⟨_,rfl⟩|exact .inr ⟨_,rfl⟩
theorem rH{M:Model}{E:Value->Shared->Prop}(h:wpAny M A t (λv s₁=>wpAny M A (call (.type T) [v]) Q E s₁) E s):wpAny M A (callWith pos (.type T) [] [(false,t)] []) Q E s :=
 PySem.callWith_type rfl (Calls.evalArgs_plain (Calls.spliced_cons (wpAny_mono h (λ_ _ h₁=>Calls.spliced_nil h₁) λ_ _ e=>e)))
theorem mV{M:Model}{E:Value->Shared->Prop}(h:wpAny M A t (λv s₁=>wpAny M A (call (.builtin T) [v]) Q E s₁) E s):wpAny M A (callWith pos (.builtin T) [] [(false,t)] []) Q E s :=
 Calls.callWith_builtin rfl (Calls.evalArgs_plain (Calls.spliced_cons (wpAny_mono h (λ_ _ h₁=>Calls.spliced_nil h₁) λ_ _ e=>e)))
theorem vA(hc:X.calm=true)(hK:C.K=X.K)(HD:Gl X f.gK)(Jz:X.mg f.gK=none)
  (ha:PA X (e::es) (EU C ms)) (he:starEach (e::es) X.env=(false,eval e X.env)::starEach es X.env) (Eg:(backTo pos2 (starEach es X.env)).any (·.1)=false)
  (I:Inv X pins c0.σ c0.H s) (ok:Ok C c0) (h:W (ms >>= λrs=>aw rs >>= λ_=>M.DR (qa f rs)) c0.st (bT C c0 Q)) :
  wpAny (model X.prog X.w) X.A (eval (.Call (.Name f.gK p2) (e::es) [] pos2) X.env) (λv s1=>wpAny (model X.prog X.w) X.A (call f.out [v]) (EP X pins c0.σ Q) X.xe s1) X.xe s:=by
 obtain⟨b1,b2,b3,b4,b5,b6⟩:=rG f;refine wpAny_Call_Name_kw (cF I HD Jz b2 ?_ b4 b6);have fin:wpAny (model X.prog X.w) X.A (spliced (backTo pos2 (starEach (e::es) X.env))) (λus s1=>wpAny (model X.prog X.w) X.A (call f.LH us) (λv s1=>wpAny (model X.prog X.w) X.A (call f.out [v]) (EP X pins c0.σ Q) X.xe s1) X.xe s1) X.xe s :=
  DG (args ha I ok h pos2) λus s1 DP=>by
   obtain⟨rs,c,vs,t,I1,rv,w⟩:=DP;obtain⟨r,e,q⟩:=bG.mp w;have z:=AJ hc hK t I1 rv e q;rw[t.hσ]at z;exact z
 obtain⟨T,hT⟩:=AK f;rw[hT]at fin ⊢;exact PyProof.Rows.callWith_type1 fin he Eg
theorem yh(hc:X.calm=true)(hK:C.K=X.K)(G4:Gl X f.mU)(Nk:X.mg f.mU=none)(HD:Gl X f.gK)(Jz:X.mg f.gK=none)
  (ha:PA X (e::es) (EU C ms)) (he:starEach (e::es) X.env=(false,eval e X.env)::starEach es X.env) (Eg:(backTo pos2 (starEach es X.env)).any (·.1)=false) :
  PE X (.Call (.Name f.mU p) [.Call (.Name f.gK p2) (e::es) [] pos2] [] pos) (DH C (ms >>= λrs=>aw rs >>= λ_=>M.DR (qa f rs))):=by
 rintro pins s σ H Q I ⟨c0,rfl,rfl,ok,h⟩;obtain⟨b1,b2,b3,b4,b5,b6⟩:=rG f;refine wpAny_Call_Name_kw (cF I G4 Nk b1 ?_ b3 b5);have inner:=vA (p2:=p2) (pos2:=pos2) hc hK HD Jz ha he Eg I ok h;have eb:backTo pos (starEach [.Call (.Name f.gK p2) (e::es) [] pos2] X.env)=[(false,eval (.Call (.Name f.gK p2) (e::es) [] pos2) X.env)]:=rfl;have ek:backToKw pos (keywordEach [] X.env)=[]:=rfl;rw[eb,ek];rcases AL f with⟨T,hT⟩|⟨T,hT⟩
 ·rw[hT]at inner ⊢;exact rH inner
 ·rw[hT]at inner ⊢;exact mV inner
end
section
variable{X:Cx}{C:Ct}{pins:List (Addr×Obj)}{s:Shared}{c0 c c1:Cf}
variable{a b d e o tg:Expr}{es:List Expr}{m ma mb md:M (Kd×U)}{ms:M (List (Kd×U))}{ta tb:M Bool}{pos p p2 apos Dx:Pos}
def iJ(rs:List (Kd×U))(c c':Cf):Prop:=∀j u,(Kd.bor j,u)∈rs->c'.σ[j]?=c.σ[j]?
def Walk(C:Ct)(c:Cf)(rs:List (Kd×U))(xs:List (Kd×U))(J:It):Prop:=∀c',Ok C c'->Ns c c'->iJ rs c c'->bb rs c'.st ->
 (∀(i:Nat) r,xs[i]?=some r->(r.1=.loc\/r.1=.any)/\J.go i c'.H/\∀x H',J.K6 i c'.H x H'->∃Gp:Cf,Gp.H=H'/\Gp.σ=c'.σ/\Gp.st=c'.st/\Ok C Gp/\Nx c' Gp/\aE C c' Gp r.1 r.2 x) /\
 ∀i:Nat,xs.length<=i->J.stop i c'.H
def GP(C:Ct)(ik:Ik)(ms:M (List (Kd×U))):TI:=λσ H R=>∃c0:Cf,c0.σ=σ/\c0.H=H/\Ok C c0/\W (ms >>= λrs=>aw rs >>= λ_=>M.DR (Ft ik rs) >>= λxs=>pure (rs,xs)) c0.st λq st' =>
 ∀c J,c.σ=σ->c.st=st'->Ok C c->Nx c0 c->bb q.1 c.st->Walk C c q.1 q.2 J->R J c.H
theorem aE.walk(ok:Ok C c)(n:Ns c c')(hf:iJ [r] c c')(hs:bb [r] c'.st)(h:aE C c0 c r.1 r.2 v):aE C c0 c' r.1 r.2 v :=
 (h.w.O8 ok n λj e=>hf j r.2 (by rw[<-e];simp)).t hs
theorem vB(k:Kd):kE k=.loc\/kE k=.any:=by cases k<;>simp[kE]
theorem tD(hK:C.K=X.K)(ok:Ok C c)(h:aE C c0 c k (.lst us) (.ref a')):Walk C c [(k,.lst us)] (us.map λu=>(kE k,u)) (L9 X.K a'):=by
 intro c' DQ n hf hs;have h':=aE.walk (r:=(k,.lst us)) ok n hf hs h;obtain⟨a2,vs,e,h1,h2⟩:=h'.list DQ;cases e;rw[hK]at h1;refine⟨λi r hr=>?_,λi hi=>⟨vs,h1,by rw[<-h2.len];simpa using hi⟩⟩;rw[List.getElem?_map,Option.map_eq_some_iff]at hr;obtain⟨u,hu,rfl⟩:=hr;obtain⟨v,hv,rep⟩:=h2.get hu;refine⟨vB k,⟨vs,v,h1,hv⟩,λx H' hy=>?_⟩;obtain⟨e,hy⟩:=hy;subst e;have:=hy vs h1;rw[hv]at this;cases this;exact⟨c',rfl,rfl,rfl,DQ,Nx.refl c',aE.item rep⟩
theorem qd(hK:C.K=X.K)(ok:Ok C c)(h:aE C c0 c k (.tup us) (.ref a')):Walk C c [(k,.tup us)] (us.map λu=>(kE k,u)) (L_ X.K a'):=by
 intro c' DQ n hf hs;have h':=aE.walk (r:=(k,.tup us)) ok n hf hs h;obtain⟨a2,vs,e,h1,h2⟩:=h'.tuple DQ;cases e;rw[hK]at h1;refine⟨λi r hr=>?_,λi hi=>⟨vs,h1,by rw[<-h2.len];simpa using hi⟩⟩;rw[List.getElem?_map,Option.map_eq_some_iff]at hr;obtain⟨u,hu,rfl⟩:=hr;obtain⟨v,hv,rep⟩:=h2.get hu;refine⟨vB k,⟨vs,v,h1,hv⟩,λx H' hy=>?_⟩;obtain⟨e,hy⟩:=hy;subst e;have:=hy vs h1;rw[hv]at this;cases this;exact⟨c',rfl,rfl,rfl,DQ,Nx.refl c',aE.item rep⟩
theorem qe{lo:Int}:Walk C c rs ((List.range n).map λi:Nat=>(Kd.loc,U.int (lo+(i:Int)))) (K8 lo n):=by
 intro c' DQ nx hf hs;refine⟨λi r hr=>?_,λi hi=>by show n<=i;simpa using hi⟩;rw[List.getElem?_map,Option.map_eq_some_iff]at hr;obtain⟨j,hu,rfl⟩:=hr;have hi:i<n:=by simpa using(List.getElem?_eq_some_iff.mp hu).1
 rw[List.getElem?_range hi]at hu;cases hu;refine⟨.inl rfl,hi,λy H' hy=>?_⟩;obtain⟨e,rfl⟩:=hy;subst e;exact⟨c',rfl,rfl,rfl,DQ,Nx.refl c',rfl⟩
theorem AM(hK:C.K=X.K)(ha:PE X a (DH C ma)):PI X tg a (GP C .seq (ma >>= λr=>pure [] >>= λrs=>pure (r::rs))):=by
 rintro pins s σ H R I ⟨c0,rfl,rfl,ok,h⟩;rw[ae,ae]at h;obtain⟨r,st1,e1,h⟩:=h;rw[ae,ah,ah,ae,cj,ae]at h;obtain⟨DJ,h⟩:=h;obtain⟨xs,e2,h⟩:=bG.mp h;rw[ah]at h;obtain⟨k,u⟩:=r;cases u with
 |lst us =>
  cases e2;refine xg ha pins s c0.σ c0.H R I ⟨c0,rfl,rfl,ok,_,st1,e1,λc v hσ hs DZ n rep=>?_⟩;obtain⟨a',vs,rfl,h1,h2⟩:=rep.list DZ;subst hs;exact⟨a',rfl,⟨vs,hK▸h1⟩,h c _ hσ rfl DZ n DJ (tD hK DZ rep)⟩
 |tup us =>
  cases e2;refine zI ha pins s c0.σ c0.H R I ⟨c0,rfl,rfl,ok,_,st1,e1,λc v hσ hs DZ n rep=>?_⟩;obtain⟨a',vs,rfl,h1,h2⟩:=rep.tuple DZ;subst hs;have Fu:=h1;rw[hK]at Fu;exact⟨a',rfl,⟨vs,Fu⟩,h c _ hσ rfl DZ n DJ (qd hK DZ rep)⟩
 |_=>cases e2
theorem qf{k:List (Kd×U)->M β}{DL:β->au->Prop}(ok:Ok C c0)(h:W (ms >>= λrs=>aw rs >>= λ_=>k rs) c0.st DL)
  (hz:∀rs c vs,Gb C c0 c rs vs->W (k rs) c.st DL->Z vs c.H):EU C ms c0.σ c0.H Z:=by
 rw[ae]at h;refine⟨c0,rfl,rfl,ok,h.mono λrs st1 h1 c1 vs e1 e2 DK n1 r1=>?_⟩;rw[ae,cj]at h1;subst e2;exact hz rs c1 vs ⟨e1,DK,n1,r1,h1.1⟩ h1.2
theorem yi(hg:Gl X "range")(hm:X.mg "range"=none)(hs:starEach [a] X.env=[(false,eval a X.env)])(ha:PA X [a] (EU C ms)):PI X tg (.Call (.Name "range" p) [a] [] pos) (GP C .Ee ms):=by
 rintro pins s σ H R I ⟨c0,rfl,rfl,ok,h⟩;refine sy hg hm ha hs pins s c0.σ c0.H R I (qf ok h λrs c vs t w=>?_);rw[ae]at w;obtain⟨xs,e2,w⟩:=bG.mp w;rw[ah]at w;obtain⟨x,rfl,hz⟩:=bJ (f:=s_) e2;clear e2;have e2:=hz;clear hz;obtain⟨v,rfl,tx⟩:=t.one;unfold s_ at e2;split at e2
 ·split at e2
  ·rename_i hh;cases e2;exact⟨_,by rw[tx.int t.ok],by omega,by omega,w c _ t.hσ rfl t.ok t.nx t.HU qe⟩
  ·cases e2
 ·cases e2
theorem oH{k:Kd}{us:List U}{u0:U}{a':Addr}{Sq:Hp->List V->Prop}(Jr:∀c',Ok C c'->Ns c c'->iJ [(k,u0)] c c'->bb [(k,u0)] c'.st->∃vs,Sq c'.H vs/\ai C (SK C c' k) c'.H us vs):Walk C c [(k,u0)] (us.zipIdx.map λp=>(kE k,.tup [.int p.2,p.1])) (Jq Sq):=by
 intro c' DQ n hf hs;obtain⟨vs,h1,h2⟩:=Jr c' DQ n hf hs;refine⟨λi r hr=>?_,λi hi=>⟨vs,h1,by rw[<-h2.len];simpa using hi⟩⟩;rw[List.getElem?_map,Option.map_eq_some_iff]at hr;obtain⟨p,hp,rfl⟩:=hr;rw[List.getElem?_zipIdx,Option.map_eq_some_iff]at hp;obtain⟨u,hu,rfl⟩:=hp;obtain⟨v,hv,rep⟩:=h2.get hu;refine⟨vB k,⟨vs,v,h1,hv⟩,λx H' hy=>?_⟩;obtain⟨p,Nl,rfl,hy⟩:=hy;have HS:=hy vs v h1 hv;subst HS;obtain⟨D0,n2⟩:=DQ.lay (o:=.tup [.int i,v]) Nl;refine⟨{c' with H:=upd c'.H p (.tup [.int i,v])},rfl,rfl,rfl,D0,n2,aE.item ?_⟩;have r2:ai C (SK C c' k) c'.H [.int ((0+i:Nat):Int),u] [.int (i:Int),v]:=by
  rw[Nat.zero_add];exact⟨_,_,rfl,rfl,_,_,rfl,rep,rfl⟩
 cases k<;>exact⟨p,_,rfl,D3.of aq,by first|exact r2.mv (DQ.G9 n2)|exact r2.mv (DQ.mv n2)⟩
theorem AN{es:List Expr}{kx:Nat}{ps:Pos}(hK:C.K=X.K)(hg:Gl X "enumerate")(hm:X.mg "enumerate"=none)(hs:starEach [a] X.env=[(false,eval a X.env)])(ha:PA X [a] (EU C ms)):PI X (.Tuple es kx ps) (.Call (.Name "enumerate" p) [a] [] pos) (GP C .IK ms):=by
 rintro pins s σ H R I ⟨c0,rfl,rfl,ok,h⟩;refine xE hg hm ha hs pins s c0.σ c0.H R I (qf ok h λrs c vs t w=>?_);rw[ae]at w;obtain⟨xs,e2,w⟩:=bG.mp w;rw[ah]at w;obtain⟨x,rfl,hz⟩:=bJ (f:=Ar) e2;clear e2;have e2:=hz;clear hz;obtain⟨v,rfl,tx⟩:=t.one;unfold Ar at e2;split at e2
 ·cases e2;obtain⟨a',ws,e1,h1,h2⟩:=tx.list t.ok;subst e1;refine⟨a',rfl,.inl ⟨⟨ws,hK▸h1⟩,w c _ t.hσ rfl t.ok t.nx t.HU ?_⟩⟩;refine oH (a':=a') λc' DQ n hf EG=>?_;obtain⟨a2,vs,e,h1,h2⟩:=(aE.walk t.ok n hf EG tx).list DQ;cases e;exact⟨vs,hK▸h1,h2⟩
 ·cases e2;obtain⟨a',ws,e1,h1,h2⟩:=tx.tuple t.ok;subst e1;rw[hK]at h1;refine⟨a',rfl,.inr ⟨⟨ws,h1⟩,w c _ t.hσ rfl t.ok t.nx t.HU ?_⟩⟩;refine oH (a':=a') λc' DQ n hf EG=>?_;obtain⟨a2,vs,e,h1,h2⟩:=(aE.walk t.ok n hf EG tx).tuple DQ;cases e;rw[hK]at h1;exact⟨vs,h1,h2⟩
 ·cases e2
theorem vC(Jr:∀c',Ok C c'->Ns c c'->iJ [(k,.lst us),(k',.tup ws)] c c'->bb [(k,.lst us),(k',.tup ws)] c'.st->∃vs xs,D7 X.K c'.H a' vs/\D3 X.K c'.H b' xs/\ai C (SK C c' k) c'.H us vs/\ai C (SK C c' k') c'.H ws xs):
  Walk C c [(k,.lst us),(k',.tup ws)] ((us.zip ws).map λp=>(kT k k',.tup [p.1,p.2])) (M4 (λH xs=>D7 X.K H a' xs) λH ys=>D3 X.K H b' ys):=by
 intro c' DQ n hf hs;obtain⟨vs,xs,s1,s2,r1,r2⟩:=Jr c' DQ n hf hs;refine⟨λi r hr=>?_,λi hi=>⟨vs,xs,s1,s2,?_⟩⟩
 ·rw[List.getElem?_map,Option.map_eq_some_iff]at hr;obtain⟨p,hp,rfl⟩:=hr;obtain⟨hu,hw⟩:=List.getElem?_zip_eq_some.mp hp;obtain⟨v,hv,rep1⟩:=r1.get hu;obtain⟨w,Gf,rep2⟩:=r2.get hw;refine⟨by cases k<;>cases k'<;>simp[kT,isAny],⟨vs,xs,v,w,s1,s2,hv,Gf⟩,λx H' hy=>?_⟩;obtain⟨q,Nl,rfl,hy⟩:=hy;have HS:=hy vs xs v w s1 s2 hv Gf;subst HS;obtain⟨D0,n2⟩:=DQ.lay (o:=.tup [v,w]) Nl;refine⟨{c' with H:=upd c'.H q (.tup [v,w])},rfl,rfl,rfl,D0,n2,?_⟩;have a1:ai C (SK C c' k) c'.H [p.1] [v]:=⟨_,_,rfl,rep1,rfl⟩
  have a2:ai C (SK C c' k') c'.H [p.2] [w]:=⟨_,_,rfl,rep2,rfl⟩
  have m:ai C (SK C c' (kT k k')) c'.H [p.1,p.2] [v,w]:=(a1.mv (.up (Ax k k'))).append (a2.mv (.up (xU k k')));have z:aE C c' {c' with H:=upd c'.H q (.tup [v,w])} (kE (kT k k')) (.tup [p.1,p.2]) (.ref q):=aE.item (by
   generalize kT k k'=k0 at m;cases k0<;>exact⟨q,_,rfl,D3.of aq,by first|exact m.mv (DQ.G9 n2)|exact m.mv (DQ.mv n2)⟩)
  rw[BR]at z;exact z
 ·have e1:=r1.len;have e2:=r2.len;rw[List.length_map,List.length_zip]at hi;omega
theorem oI{st:au}(h:bb [x,y] st):bb [x] st/\bb [y] st:=by
 obtain⟨k,u⟩:=x;obtain⟨k',u'⟩:=y;cases k<;>cases k'<;>first|exact⟨h.1,h.2⟩|exact⟨⟨h.1,trivial⟩,h.2⟩|exact⟨trivial,h⟩|exact⟨⟨h.1,trivial⟩,trivial⟩
theorem AO(hK:C.K=X.K)(hg:Gl X "zip")(hm:X.mg "zip"=none)(he:starEach (a::[b]) X.env=(false,eval a X.env)::starEach [b] X.env)(Eg:(backTo pos (starEach [b] X.env)).any (·.1)=false)(ha:PA X [a,b] (EU C ms)):PI X (.Tuple es kx ps) (.Call (.Name "zip" p) [a,b] [] pos) (GP C .zip ms):=by
 rintro pins s σ H R I ⟨c0,rfl,rfl,ok,h⟩;refine Ah hg hm ha he Eg pins s c0.σ c0.H R I (qf ok h λrs c vs t w=>?_);rw[ae]at w;obtain⟨xs,e2,w⟩:=bG.mp w;rw[ah]at w;have e2:As rs=some xs:=e2;unfold As at e2;split at e2
 ·cases e2;obtain⟨v,v',rfl,tx,ty⟩:=t.two;obtain⟨a',w1,e1,h1,h2⟩:=tx.list t.ok;obtain⟨b',w2,e3,h3,h4⟩:=ty.tuple t.ok;subst e1 e3;rw[hK]at h3;refine⟨a',b',rfl,⟨w1,hK▸h1⟩,⟨w2,h3⟩,w c _ t.hσ rfl t.ok t.nx t.HU ?_⟩;refine vC λc' DQ n hf EG=>?_;obtain⟨a2,vs,e,g1,g2⟩:=(aE.walk t.ok n (λj u hj=>hf j u (by simp at hj ⊢;exact .inl hj)) (oI EG).1 tx).list DQ;cases e;obtain⟨a3,DI,e,g3,g4⟩:=(aE.walk t.ok n (λj u hj=>hf j u (by simp at hj ⊢;exact .inr hj)) (oI EG).2 ty).tuple DQ;cases e;rw[hK]at g3;exact⟨vs,DI,hK▸g1,g3,g2,g4⟩
 ·cases e2
theorem Ok.put(ok:Ok C c)(n:Nx c0 c)(hi:i<c.σ.length)(hk:k=.own\/k=.loc\/k=.any)(ES:Ok C c0)(h:aE C c0 c k u v):
  Ok C {c with σ:=c.σ.set i (some v),st:=c.st.set i (some (k,u))}/\Nx c0 {c with σ:=c.σ.set i (some v),st:=c.st.set i (some (k,u))}:=by
 have E4:i<c.st.length:=by rw[ok.len];exact hi
 have DY:∀(j:Nat) k' u',(c.st.set i (some (k,u)))[j]?=some (some (k',u'))->j≠i->c.st[j]?=some (some (k',u')):=λj k' u' e ne=>by rw[List.getElem?_set_ne (Ne.symm ne)]at e;exact e
 have Fv:∀(j:Nat) v',(c.σ.set i (some v))[j]?=some (some v')->j≠i->c.σ[j]?=some (some v'):=λj v' e ne=>by rw[List.getElem?_set_ne (Ne.symm ne)]at e;exact e
 have sl:eQ C c.S c.H k u v:=by
  rcases hk with rfl|rfl|rfl
  ·obtain⟨r,e,h1,h2,h3,h4⟩:=h;obtain⟨z0,z1,z2,z3,z4⟩:=ES.jO h1;exact⟨r,e,h2,z2,z0,h4⟩
  ·exact h
  ·exact h
 have IT:∀(j:Nat) k' u' r,k'.root=true->(c.st.set i (some (k,u)))[j]?=some (some (k',u'))->(c.σ.set i (some v))[j]?=some (some (.ref r))->j=i/\k=.own/\v=.ref r\/j≠i/\c.st[j]?=some (some (k',u'))/\c.σ[j]?=some (some (.ref r)):=λj k' u' r hr e1 e2=>by
  by_cases hj:j=i
  ·subst hj;rw[List.getElem?_set_self E4]at e1;rw[List.getElem?_set_self hi]at e2;cases e1;cases e2;rcases hk with rfl|rfl|rfl
   ·exact .inl ⟨rfl,rfl,rfl⟩
   ·cases hr
   ·cases hr
  ·exact .inr ⟨hj,DY j k' u' e1 hj,Fv j _ e2 hj⟩
 have dD:∀(j:Nat) (u':U),(c.st.set i (some (k,u)))[j]?=some (some (.Dw,u'))->c.st[j]?=some (some (.Dw,u'))/\(c.σ.set i (some v))[j]?=c.σ[j]?:=λj u' e=>by
  by_cases hj:j=i
  ·subst hj;rw[List.getElem?_set_self E4]at e;cases e;rcases hk with hk|hk|hk<;>cases hk
  ·exact⟨DY j .Dw u' e hj,List.getElem?_set_ne (Ne.symm hj)⟩
 have b1:∀a,({c with σ:=c.σ.set i (some v),st:=c.st.set i (some (k,u))}:Cf).R1 a->c.R1 a\/k=.own/\v=.ref a:=λa DP=>by
  obtain⟨j,k',u',hr,e1,e2⟩:=DP;rcases IT j k' u' a hr e1 e2 with⟨a1,a2,a3⟩|⟨a1,a2,a3⟩
  ·exact .inr ⟨a2,a3⟩
  ·exact .inl ⟨j,k',u',hr,a2,a3⟩
 have GO:Gn C {c with σ:=c.σ.set i (some v),st:=c.st.set i (some (k,u))}:=ok.dd.of rfl dD (λa z=>(b1 a z).imp id λ⟨q1,q2⟩ j z'=>by
  subst q1;obtain⟨r',e,_,_,h3,_⟩:=h;rw[q2]at e;cases e;exact h3 (.inr ⟨j,z'⟩)) (.up λ_ z=>z) λj a z=>⟨(ok.root (.inr ⟨j,z⟩)).1,λo q=>q⟩
 refine⟨⟨ok.same,ok.Fp,ok.par,ok.io,by simp[ok.len],λj k' u' e=>?_,λj1 j2 k1 k2 u1 u2 r IU Kx e1 e2 e3 e4=>?_,GO⟩,⟨⟨n.keep,n.there,λa z=>?_,n.sub,n.new⟩,n.all⟩⟩
 ·by_cases hj:j=i
  ·subst hj;rw[List.getElem?_set_self E4]at e;cases e;exact⟨v,by rw[List.getElem?_set_self hi],sl⟩
  ·obtain⟨v',e1,e2⟩:=ok.sl j k' u' (DY j k' u' e hj);exact⟨v',by rw[List.getElem?_set_ne (Ne.symm hj)];exact e1,e2⟩
 ·have z1:=IT j1 k1 u1 r IU e1 e3;have z2:=IT j2 k2 u2 r Kx e2 e4;rcases z1 with⟨a1,a2,a3⟩|⟨a1,a2,a3⟩
  ·rcases z2 with⟨b1,b2,b3⟩|⟨b1,b2,b3⟩
   ·exact a1.trans b1.symm
   ·subst a2;obtain⟨r',e,h1,h2,h3,h4⟩:=h;rw[a3]at e;cases e;exact(h3 (.inl ⟨j2,k2,u2,Kx,b2,b3⟩)).elim
  ·rcases z2 with⟨b1,b2,b3⟩|⟨b1,b2,b3⟩
   ·subst b2;obtain⟨r',e,h1,h2,h3,h4⟩:=h;rw[b3]at e;cases e;exact(h3 (.inl ⟨j1,k1,u1,IU,a2,a3⟩)).elim
   ·exact ok.inj j1 j2 k1 k2 u1 u2 r IU Kx a2 b2 a3 b3
 ·rcases z with z|⟨j,u',r',e1,e2,e3⟩
  ·rcases b1 a z with z|⟨a2,a3⟩
   ·exact n.roots a (.inl z)
   ·subst a2;obtain⟨r',e,h1,h2,h3,h4⟩:=h;rw[a3]at e;cases e;exact .inr h1
  ·obtain⟨q1,q2⟩:=dD j u' e1;exact n.roots a (.inr ⟨j,u',r',q1,q2▸e2,e3⟩)
theorem rJ(ES:Ok C c0)(ok:Ok C c)(n:Nx c0 c)(hi:i<c.σ.length)(hr:aE C c0 c r.1 r.2 v)(h:W (d0 i r) c.st DL):
  ∃c',c'.σ=c.σ.set i (some v)/\c'.H=c.H/\Ok C c'/\Nx c0 c'/\DL () c'.st:=by
 obtain⟨k,u⟩:=r;cases k with
 |own =>
  obtain⟨x,st',e,hp⟩:=h;cases e;obtain⟨a1,a2⟩:=ok.put n hi (.inl rfl) ES hr;exact⟨{c with σ:=c.σ.set i (some v),st:=c.st.set i (some (.own,u))},rfl,rfl,a1,a2,hp⟩
 |loc =>
  obtain⟨x,st',e,hp⟩:=h;cases e;obtain⟨a1,a2⟩:=ok.put n hi (.inr (.inl rfl)) ES hr;exact⟨{c with σ:=c.σ.set i (some v),st:=c.st.set i (some (.loc,u))},rfl,rfl,a1,a2,hp⟩
 |any =>
  obtain⟨x,st',e,hp⟩:=h;cases e;obtain⟨a1,a2⟩:=ok.put n hi (.inr (.inr rfl)) ES hr;exact⟨{c with σ:=c.σ.set i (some v),st:=c.st.set i (some (.any,u))},rfl,rfl,a1,a2,hp⟩
 |io=>exact hr.elim
 |Dw=>exact hr.elim
 |bor j =>
  obtain⟨x,st',e,hp⟩:=h;rw[show d0 i (.bor j,u) c.st=match c.st[j]? with|some (some (.own,u))=>some (Ex.ok (),(c.st.set j (some (.loc,u))).set i (some (.loc,u)))|_=>none from rfl]at e;split at e
  ·rename_i w hj;cases e;obtain⟨v',e1,r,er,_⟩:=ok.sl j _ _ hj;have hv:c.σ[j]?=some (some v):=hr.2;rw[hv]at e1;cases e1;subst er;obtain⟨DQ,n',rep⟩:=ok.vp n hj hv;obtain⟨a1,a2⟩:=Ok.put (c:={c with S:=λa=>c.S a\/a=r,st:=c.st.set j (some (.loc,w))}) DQ n' (k:=.loc) (u:=w) (v:=.ref r) hi (.inr (.inl rfl)) ES rep;exact⟨{S:=λa=>c.S a\/a=r,H:=c.H,σ:=c.σ.set i (some (.ref r)),st:=(c.st.set j (some (.loc,w))).set i (some (.loc,w)),kid:=c.kid},rfl,rfl,a1,a2,hp⟩
  ·cases e
end
section
def tG(C:Ct)(t:Bool)(is:List Nat):TG:=λv σ H Q=>∃c0 c r,c.σ=σ/\c.H=H/\Ok C c0/\Ok C c/\Nx c0 c/\aE C c0 c r.1 r.2 v/\W (cV t is r) c.st λ_ st' =>
 ∀c',c'.st=st'->Ok C c'->Nx c0 c'->(∀j,j∉is->c'.σ[j]?=c.σ[j]?)->c'.σ.length=c.σ.length->Q c'.σ c'.H
structure qg(X:Cx)(e:Expr)(i:Nat):Prop where
 is:∃x pos,e=.Name x pos/\X.N[i]?=some x/\Loc X.env.scope x/\(X.fn x=true\/X.env.scope.names.lookup x=some .local)
theorem AQ(hN:X.N.Nodup)(h:qg X e i):PG X e (tG C false [i]):=by
 obtain⟨x,pos,rfl,h1,h2,h3⟩:=h.is;rintro pins s σ H v u Q I rv ⟨c0,c,r,rfl,rfl,ES,ok,n,rep,w⟩;have hi:i<c.σ.length:=by rw[I.len];exact(List.getElem?_eq_some_iff.mp h1).1
 obtain⟨c',e1,e2,DQ,n',q⟩:=rJ (r:=r) ES ok n hi rep w;refine qR hN h1 h2 h3 pins s c.σ c.H v u Q I rv ?_;have z:=q c' rfl DQ n' (λj hj=>by rw[e1,List.getElem?_set_ne (by intro z;exact hj (by simp[z]))]) (by rw[e1];simp);rw[e1,e2]at z;exact z
noncomputable def Nm:List Nat->Ji
 |[]=>Bv
 |i::is=>yU (qQ i) (Nm is)
inductive d4(X:Cx):List Expr->List Nat->Prop where
 |nil:d4 X [] []
 |cons {e:Expr} {es:List Expr} {i:Nat} {is:List Nat} (h:qg X e i) (t:d4 X es is):d4 X (e::es) (i::is)
theorem tE(hN:X.N.Nodup)(h:d4 X es is):JO X es (Nm is):=by
 induction h with
 |nil=>exact xc
 |cons h t ih =>
  obtain⟨x,pos,rfl,h1,h2,h3⟩:=h.is;exact uf (qR hN h1 h2 h3) ih rfl
theorem qh(h:d4 X es is):(assignEach es X.env).length=is.length/\(assignEach es X.env).findIdx? (·.1)=none:=by
 induction h with
 |nil=>exact⟨rfl,rfl⟩
 |cons h t ih =>
  obtain⟨x,pos,rfl,h1,h2,h3⟩:=h.is;refine⟨?_,?_⟩
  ·show(_::_).length=_;simp[ih.1]
  ·show List.findIdx? _ (_::_)=none;rw[List.findIdx?_cons,if_neg (by simp),ih.2];rfl
theorem rK(hk:kE k=k)(ES:Ok C c0):∀{is:List Nat}{us:List U}{vs:List V}{c:Cf}{DL:Unit->au->Prop}{Q:L2.St->Hp->Prop},Ok C c->Nx c0 c->(∀i∈is,i<c.σ.length)->ai C (SK C c k) c.H us vs->W (sets is (us.map λu=>(k,u))) c.st DL ->
  (∀c',DL () c'.st->Ok C c'->Nx c0 c'->(∀j,j∉is->c'.σ[j]?=c.σ[j]?)->c'.σ.length=c.σ.length->Q c'.σ c'.H)->Nm is vs c.σ c.H Q
 |[],[],vs,c,DL,Q,ok,n,hi,rep,w,q=>by
  rw[show sets [] (List.map (λu=>(k,u)) [])=pure () from rfl,ah]at w;exact⟨rep,q c w ok n (λ_ _=>rfl) rfl⟩
 |[],u::us,vs,c,DL,Q,ok,n,hi,rep,w,q=>(aA.mp w).elim
 |i::is,[],vs,c,DL,Q,ok,n,hi,rep,w,q=>(aA.mp w).elim
 |i::is,u::us,vs,c,DL,Q,ok,n,hi,rep,w,q=>by
  rw[show sets (i::is) (List.map (λu=>(k,u)) (u::us))=d0 i (k,u) >>= λ_=>sets is (us.map λu=>(k,u)) from rfl,ae]at w;obtain⟨v,r,rfl,h1,h2⟩:=rep;have ET:k=.own\/k=.loc\/k=.any:=by cases k<;>simp[kE]at hk<;>simp
  have JA:k≠.own:=by cases k<;>simp[kE]at hk<;>simp
  have rt:aE C c0 c k u v:=by rw[<-hk];exact aE.item h1
  obtain⟨a1,a2⟩:=ok.put n (hi i (by simp)) ET ES rt;have es:d0 i (k,u)=λst=>some (.ok (),st.set i (some (k,u))):=by cases k<;>simp[kE]at hk<;>rfl
  obtain⟨_,st',e,w'⟩:=w;rw[es]at e;cases e;refine⟨v,r,rfl,rK (c:={c with σ:=c.σ.set i (some v),st:=c.st.set i (some (k,u))}) hk ES a1 a2 (λj hj=>by simpa using hi j (by simp[hj])) (by cases k<;>exact h2) w' λc' p DQ n' hf hl=>?_⟩;refine q c' p DQ n' (λj hj=>?_) (by rw[hl];simp);rw[hf j (λz=>hj (by simp[z])),List.getElem?_set_ne (λz=>hj (by simp[z]))]
theorem BY(hc:X.calm=true)(hK:C.K=X.K)(hN:X.N.Nodup)(h:d4 X es is)(hl:∀i∈is,i<X.N.length):PG X (.Tuple es kk pos) (tG C true is):=by
 rintro pins s σ H v u Q I rv ⟨c0,c,r,rfl,rfl,ES,ok,n,rep,w⟩;obtain⟨e1,e2⟩:=qh h;refine zD hc (tE hN h) e1 e2 pins s c.σ c.H v u Q I rv ?_;obtain⟨k,ux⟩:=r;cases ux with
 |tup us =>
  rw[show cV true is (k,.tup us)=sets is (us.map λu=>(kE k,u)) from by cases is<;>rfl]at w;obtain⟨a',vs,rfl,h1,h2⟩:=rep.tuple ok;rw[hK]at h1;have hlen:us.length=is.length:=by
   have aux:∀(is:List Nat) (l:List (Kd×U)) (st:au) (P:Unit->au->Prop),W (sets is l) st P->l.length=is.length:=by
    intro is;induction is with
    |nil=>intro l st P w;cases l with
     |nil=>rfl
     |cons _ _=>exact(aA.mp w).elim
    |cons i is ih=>intro l st P w;cases l with
     |nil=>exact(aA.mp w).elim
     |cons x l =>
      rw[show sets (i::is) (x::l)=d0 i x >>= λ_=>sets is l from rfl,ae]at w;obtain⟨_,_,_,w⟩:=w;rw[List.length_cons,List.length_cons,ih l _ _ w]
   simpa using aux _ _ _ _ w
  refine⟨a',vs,rfl,h1,by rw[<-h2.len,hlen],?_⟩;refine rK (k:=kE k) (by cases k<;>rfl) ES ok n (λi hi=>by rw[I.len];exact hl i hi) (by cases k<;>exact h2) w λc' p DQ n' hf Hu=>p c' rfl DQ n' hf Hu
 |_=>cases is<;>exact(aA.mp w).elim
end
section
variable{X:Cx}{C:Ct}{pins:List (Addr×Obj)}{s:Shared}{c0 c c1:Cf}
variable{a b d e o tg iter elt:Expr}{es ifs:List Expr}{m ma mb md me:M (Kd×U)}{ms:M (List (Kd×U))}{ta tb tc:M Bool}{pos p p2 apos Dx:Pos}
theorem tF{m:M α}{st:au}{Q:α->au->Prop}:W (inScope k m) st Q↔W m (List.replicate k none++st) λa st'=>Q a (st'.drop k):=by
 constructor
 ·rintro⟨a,st',e,h⟩;unfold inScope at e;cases q:m (List.replicate k none++st) with
  |none=>rw[q]at e;cases e
  |some r=>obtain⟨r1,r2⟩:=r;rw[q]at e;cases e;exact⟨a,r2,q,h⟩
 ·rintro⟨a,st',e,h⟩;exact⟨a,st'.drop k,by unfold inScope;rw[e],h⟩
noncomputable def Cf.ext(k:Nat)(c:Cf):Cf:={c with σ:=List.replicate k none++c.σ,st:=List.replicate k none++c.st,kid:=λj=>c.kid (j - k)}
noncomputable def Cf.cut(k:Nat)(c:Cf):Cf:={c with σ:=c.σ.drop k,st:=c.st.drop k,kid:=λj=>c.kid (k+j)}
theorem fk(h:(List.replicate k none++l)[j]?=some (some x)):∃i,j=k+i/\l[i]?=some (some x):=by
 by_cases hj:j<k
 ·rw[List.getElem?_append_left (by simpa using hj)]at h;rw[List.getElem?_replicate]at h;rw[if_pos hj]at h;cases h
 ·refine⟨j - k,by omega,?_⟩;rw[List.getElem?_append_right (by simp;omega)]at h;simpa using h
theorem d5:(List.replicate k none++l)[k+i]?=l[i]?:=by
 rw[List.getElem?_append_right (by simp)];simp
theorem vD:(c.ext k).R1 r↔c.R1 r:=by
 constructor
 ·rintro⟨j,kd,u,h1,h2,h3⟩;obtain⟨i,rfl,e⟩:=fk h2;rw[Cf.ext,d5]at h3;exact⟨i,kd,u,h1,e,h3⟩
 ·rintro⟨i,kd,u,h1,h2,h3⟩;exact⟨k+i,kd,u,h1,by rw[Cf.ext,d5];exact h2,by rw[Cf.ext,d5];exact h3⟩
theorem mW{a:Addr}(h:(c.ext k).RD j a):∃i,j=k+i/\c.RD i a:=by
 obtain⟨u,r,e1,e2,e3⟩:=h;obtain⟨i,rfl,e⟩:=fk e1;rw[Cf.ext,d5]at e2;refine⟨i,rfl,u,r,e,e2,?_⟩;have:(c.ext k).kid (k+i)=c.kid i:=by show c.kid (k+i - k)=_;rw[Nat.add_sub_cancel_left]
 rw[this]at e3;exact e3
theorem BZ(h:(c.ext k).R r):c.R r:=by
 rcases h with h|⟨j,h⟩
 ·exact .inl (vD.mp h)
 ·obtain⟨i,_,h⟩:=mW h;exact .inr ⟨i,h⟩
theorem Ok.ext(k:Nat)(ok:Ok C c):Ok C (c.ext k)/\Nx c (c.ext k):=by
 refine⟨⟨ok.same,ok.Fp,ok.par,ok.io,by simp[Cf.ext,ok.len],λj kd u e=>?_,λi j k1 k2 u u' r h1 h2 e1 e2 e3 e4=>?_,⟨λj u r e1 e2=>?_,λi j a z1 z2=>?_,λj a z1 z2=>?_⟩⟩,⟨⟨λ_ _ h _=>h,λ_ o h=>⟨o,h⟩,λa h=>.inl (BZ h),λ_ h=>h,λ_ h=>.inl h⟩,λ_ _ h=>h⟩⟩
 ·obtain⟨i,rfl,e'⟩:=fk e;obtain⟨v,e1,e2⟩:=ok.sl i kd u e';exact⟨v,by rw[Cf.ext,d5];exact e1,e2⟩
 ·obtain⟨i',rfl,Er⟩:=fk e1;obtain⟨j',rfl,Fg⟩:=fk e2;rw[Cf.ext,d5]at e3 e4;rw[ok.inj i' j' k1 k2 u u' r h1 h2 Er Fg e3 e4]
 ·obtain⟨i,rfl,e⟩:=fk e1;rw[Cf.ext,d5]at e2;have:(c.ext k).kid (k+i)=c.kid i:=by show c.kid (k+i - k)=_;rw[Nat.add_sub_cancel_left]
  rw[this];exact ok.dd.kd i u r e e2
 ·obtain⟨i',rfl,y1⟩:=mW z1;obtain⟨j',rfl,y2⟩:=mW z2;rw[ok.dd.dj i' j' a y1 y2]
 ·obtain⟨i,rfl,y1⟩:=mW z1;exact ok.dd.d1 i a y1 (vD.mp z2)
theorem vE{a:Addr}(h:(c.cut k).R1 a):c.R1 a:=by
 obtain⟨j,kd,u,h1,h2,h3⟩:=h;rw[Cf.cut,List.getElem?_drop]at h2 h3;exact⟨k+j,kd,u,h1,h2,h3⟩
theorem mX{a:Addr}(h:(c.cut k).RD j a):c.RD (k+j) a:=by
 obtain⟨u,r,h1,h2,h3⟩:=h;rw[Cf.cut,List.getElem?_drop]at h1 h2;exact⟨u,r,h1,h2,h3⟩
theorem Ok.cut(k:Nat)(ok:Ok C c):Ok C (c.cut k)/\Nx c (c.cut k):=by
 refine⟨⟨ok.same,ok.Fp,ok.par,ok.io,by simp[Cf.cut,ok.len],λj kd u e=>?_,λi j k1 k2 u u' r h1 h2 e1 e2 e3 e4=>?_,⟨λj u r e1 e2=>?_,λi j a z1 z2=>?_,λj a z1 z2=>ok.dd.d1 _ a (mX z1) (vE z2)⟩⟩,⟨⟨λ_ _ h _=>h,λ_ o h=>⟨o,h⟩,λa h=>.inl (h.elim (λz=>.inl (vE z)) λ⟨j,z⟩=>.inr ⟨k+j,mX z⟩),λ_ h=>h,λ_ h=>.inl h⟩,λ_ _ h=>h⟩⟩
 ·rw[Cf.cut,List.getElem?_drop]at e;obtain⟨v,e1,e2⟩:=ok.sl _ kd u e;exact⟨v,by rw[Cf.cut,List.getElem?_drop];exact e1,e2⟩
 ·rw[Cf.cut,List.getElem?_drop]at e1 e2 e3 e4;have:=ok.inj _ _ k1 k2 u u' r h1 h2 e1 e2 e3 e4;omega
 ·rw[Cf.cut,List.getElem?_drop]at e1 e2;exact ok.dd.kd _ u r e1 e2
 ·have:=ok.dd.dj _ _ a (mX z1) (mX z2);omega
theorem yj(h:∀j,j∉List.range k->σ'[j]?=(List.replicate k none++σ)[j]?)(hl:σ'.length=(List.replicate k (none:Option V)++σ).length):∃own:L2.St,own.length=k/\σ'=own++σ:=by
 refine⟨σ'.take k,by rw[List.length_take,hl];simp,?_⟩;apply List.ext_getElem?;intro j;by_cases hj:j<k
 ·rw[List.getElem?_append_left (by rw[List.length_take,hl];simp;omega),List.getElem?_take,if_pos hj]
 ·rw[h j (by simpa using hj),List.getElem?_append_right (by simp;omega),List.getElem?_append_right (by rw[List.length_take,hl];simp;omega)];congr 1
  rw[List.length_take,hl];simp
theorem lH(e1:c1.σ=c0.σ)(DK:Ok C c1)(n1:Nx c0 c1)(hw:Walk C c1 rs xs J)(h3:W (bq k t tc me rs xs []) c1.st λus st'=>W (pure (Kd.own,U.lst us)) st' (bT C c0 Q)):
  qW k J (tG C t (List.range k)) (EH C tc) (DH C me) Q c0.σ c1.H:=by
 refine⟨λi m ys H=>∃c acc,c.H=H/\c.σ=c0.σ/\Ok C c/\Nx c1 c/\m=xs.length - i/\i<=xs.length/\ai C c.S c.H acc ys/\acc.length<=sizeLine/\W (bq k t tc me rs (xs.drop i) acc) c.st λus st'=>W (pure (Kd.own,U.lst us)) st' (bT C c0 Q),⟨xs.length,c1,[],rfl,e1,DK,Nx.refl c1,by simp,Nat.zero_le _,rfl,Nat.zero_le _,by simpa using h3⟩,?_⟩;rintro i m ys H ⟨c,acc,rfl,e3,DZ,nc,rfl,hi,rep,hlen,w⟩;refine⟨by rw[<-rep.len];exact hlen,?_⟩;have fixed:iJ rs c1 c:=λj u _=>by rw[e3,e1]
 by_cases DW:i<xs.length
 ·right
  rw[List.drop_eq_getElem_cons DW]at w;rw[show bq k t tc me rs (xs[i]::xs.drop (i+1)) acc=aw rs >>= λ_=>inScope k (cV t (List.range k) xs[i] >>= λ_=>tc >>= λb=>if b=true then(me >>= λr=>lift r >>= λu=>pure (some u)) else pure none) >>= λr=>match r with|some u=>if acc.length<sizeLine then bq k t tc me rs (xs.drop (i+1)) (acc++[u]) else M.fail|none=>bq k t tc me rs (xs.drop (i+1)) acc from rfl,ae,cj]at w;obtain⟨GQ,w⟩:=w;obtain⟨wk,_⟩:=hw c DZ nc fixed GQ;obtain⟨Nn,JB,LJ⟩:=wk i xs[i] (by simp[DW]);refine⟨JB,λE3 H'=>∃c acc,c.H=H'/\c.σ=c0.σ/\Ok C c/\Nx c1 c/\ai C c.S c.H acc E3/\acc.length<=sizeLine/\W (bq k t tc me rs (xs.drop (i+1)) acc) c.st λus st'=>W (pure (Kd.own,U.lst us)) st' (bT C c0 Q),λE3 H' ⟨c',Kc,z1,z2,z3,z4,z5,z6,z7⟩=>⟨xs.length - (i+1),by omega,c',Kc,z1,z2,z3,z4,rfl,DW,z5,z6,z7⟩,λx H' hy=>?_⟩;obtain⟨c2,rfl,e4,e5,D0,n2,rt⟩:=LJ x H' hy;rw[ae,tF,ae]at w;obtain⟨Pd,nx⟩:=D0.ext k;have Ry:aE C (c2.ext k) (c2.ext k) xs[i].1 xs[i].2 x:=by
   rcases Nn with z|z
   ·rw[z]at rt ⊢;exact rt
   ·rw[z]at rt ⊢;exact rt
  have eσ:(c2.ext k).σ=List.replicate k none++c0.σ:=by rw[Cf.ext];show List.replicate k none++c2.σ=_;rw[e4,e3]
  refine⟨c2.ext k,c2.ext k,xs[i],eσ,rfl,Pd,Pd,Nx.refl _,Ry,?_⟩;have Np:(c2.ext k).st=List.replicate k none++c.st:=by rw[Cf.ext];show List.replicate k none++c2.st=_;rw[e5]
  rw[Np];refine w.mono λ_ st3 w3 c3 e6 Fy n3 Kz LK=>?_;subst e6;rw[eσ]at Kz LK;obtain⟨own,FG,HI⟩:=yj Kz LK;refine⟨own,FG,HI,?_⟩;have Pe:Nx c c3:=(n2.trans nx).trans n3;rw[ae]at w3;refine⟨c3,rfl,rfl,Fy,w3.mono λb Jk w4 c4 e7 e8 HV n4=>?_⟩;subst e8;cases b with
  |false =>
   rw[if_neg Bool.false_ne_true]at w4 ⊢;rw[ah]at w4;obtain⟨Nq,nk⟩:=HV.cut k;have nn:Nx c (c4.cut k):=(Pe.trans n4).trans nk;refine⟨c4.cut k,acc,rfl,?_,Nq,nc.trans nn,rep.mv (DZ.mv nn),hlen,w4⟩;show c4.σ.drop k=_;rw[e7,HI,List.drop_left' FG]
  |true =>
   rw[if_pos rfl]at w4 ⊢;rw[ae]at w4;refine⟨c4,e7,rfl,HV,w4.mono λr Gi w5 c5 v e9 Rz RA n5 RB=>?_⟩;subst Rz;rw[ae]at w5;obtain⟨S',st',u,sS,RC,n6,Nr,w6,_,_⟩:=gH HV RA n5 RB.w w5;rw[ah]at w6
   dsimp only at w6
   split at w6
   ·rename_i hz;obtain⟨Nq,nk⟩:=RC.cut k;have nn:Nx c (Cf.cut k {c5 with S:=S',st:=st' }):=((Pe.trans n4).trans n6).trans nk;refine⟨Cf.cut k {c5 with S:=S',st:=st' },acc++[u],rfl,?_,Nq,nc.trans nn,(rep.mv (DZ.mv nn)).snoc Nr,by rw[List.length_append];exact hz,w6⟩;show c5.σ.drop k=_;rw[e9,HI,List.drop_left' FG]
   ·exact(aA.mp w6).elim
 ·left
  have E4:i=xs.length:=by omega
  subst E4;rw[List.drop_length,show bq k t tc me rs [] acc=aw rs >>= λ_=>pure acc from rfl,ae,cj,ah,ah]at w;obtain⟨_,wk⟩:=hw c DZ nc fixed w.1;exact⟨wk _ (Nat.le_refl _),λp hp=>bT.list w.2 e3 DZ (n1.trans nc) rep p hp⟩
theorem lI(ok:Ok C c0)
  (h:W (ms >>= λrs=>aw rs >>= λ_=>M.DR (Ft ik rs) >>= λxs=>bq k t tc me rs xs [] >>= λus=>pure (Kd.own,U.lst us)) c0.st (bT C c0 Q)) :
  uG k (GP C ik ms) (tG C t (List.range k)) (EH C tc) (DH C me) c0.σ c0.H Q:=by
 rw[ae]at h;refine⟨c0,rfl,rfl,ok,?_⟩;rw[ae];refine h.mono λrs st1 h1=>?_;rw[ae,cj]at h1 ⊢;refine⟨h1.1,?_⟩;have h2:=h1.2;rw[ae]at h2 ⊢;refine h2.mono λxs st2 h3=>?_;rw[ah];intro c1 J e1 e2 DK n1 DJ hw;rw[ae]at h3;subst e2
 dsimp only at DJ hw
 exact lH e1 DK n1 hw h3
theorem vF(S:da X N own scope)(hc:X.calm=true)(hi:PI X tg iter (GP C ik ms))
  (hg:∀D s H ex,PG (Et X N scope D s H ex) tg (tG C t (List.range own.length))) (hf:∀D s H ex,G3 (Et X N scope D s H ex) ifs (EH C tc)) (he:∀D s H ex,PE (Et X N scope D s H ex) elt (DH C me))
  (hs:∀x,foldedSetIterable iter X.env x=pure x) :
  PE X (.ListComp elt [⟨tg,iter,ifs,0⟩] scope pos) (DH C (ms >>= λrs=>aw rs >>= λ_=>M.DR (Ft ik rs) >>= λxs=>bq own.length t tc me rs xs [] >>= λus=>pure (.own,.lst us))):=by
 refine PE.weak (qX S hc hi hg hf he hs) ?_;rintro σ H Q ⟨c0,rfl,rfl,ok,h⟩;exact lI ok h
end
section
variable{a b d e o tg iter elt:Expr}{es ifs:List Expr}{m ma mb md me:M (Kd×U)}{ms:M (List (Kd×U))}{ta tb tc:M Bool}{pos p p2 apos Dx:Pos}{st:Stmt}{rest body:List Stmt}{f g mm:M Fl}{ns LL:Nat->Bool}
def B0(C:Ct)(c:Cf):Kd->U->V->Prop
 |.own,u,v=>∃r,v=.ref r/\C.H₀ r=none/\¬c.S r/\¬c.R r/\dg C c.S c.H r u
 |.loc,u,v=>Rep C c.S c.H u v
 |.any,u,v=>Rep C (PS C c.S) c.H u v
 |_,_,_=>False
def Fin(C:Ct)(D:Ends)(f:Fl)(c:Cf):Prop:=match f with
 |.nx=>D.nx c.σ c.H
 |.bk=>D.bk c.σ c.H
 |.ct=>D.ct c.σ c.H
 |.rt k u=>∀v,B0 C c k u v->D.rt v c.H
def Kept(ns:Nat->Bool)(c c':Cf):Prop:=(∀j,ns j=true->c'.σ[j]?=c.σ[j]?)/\c'.σ.length=c.σ.length
theorem Kept.refl:Kept ns c c:=⟨λ_ _=>rfl,rfl⟩
theorem Kept.trans(h:Kept ns c c')(h':Kept ns c' Gp):Kept ns c Gp:=⟨λj z=>(h'.1 j z).trans (h.1 j z),h'.2.trans h.2⟩
theorem Kept.le(i:∀j,LL j=true->ns j=true)(h:Kept ns c c'):Kept LL c c':=⟨λj z=>h.1 j (i j z),h.2⟩
theorem Kept.of(h:c'.σ=c.σ):Kept ns c c':=⟨λj z=>by rw[h],by rw[h]⟩
def jW(C:Ct)(c0:Cf)(ns:Nat->Bool)(D:Ends)(f:Fl)(st':au):Prop:=∀c,c.st=st'->Ok C c->Ns c0 c->Kept ns c0 c->Fin C D f c
def Eo(C:Ct)(ns:Nat->Bool)(m:M Fl):TS:=λD σ H=>∃c0:Cf,c0.σ=σ/\c0.H=H/\Ok C c0/\W m c0.st (jW C c0 ns D)
theorem qi(ok:Ok C c1)(n:Ns c0 c1)(k:Kept ns c0 c1)(h:W mm c1.st (jW C c0 ns D)):Eo C ns mm D c1.σ c1.H :=
 ⟨c1,rfl,rfl,ok,h.mono λf st h2 c2 e D0 n2 k2=>h2 c2 e D0 (n.trans n2) (k.trans k2)⟩
theorem PS.weak(h:L2.PS X st t)(i:∀D σ H,t' D σ H->t D σ H):L2.PS X st t':=λpins s σ H D I q=>h pins s σ H D I (i D σ H q)
theorem EA.weak(h:EA X rest t)(i:∀D σ H,t' D σ H->t D σ H):EA X rest t':=λpins s σ H D I q=>h pins s σ H D I (i D σ H q)
theorem mY(i:∀j,LL j=true->ns j=true)(h:Eo C LL mm D σ H):Eo C ns mm D σ H :=
 let ⟨c0,e1,e2,ok,w⟩:=h;⟨c0,e1,e2,ok,w.mono λf st h2 c2 e D0 n2 k2=>h2 c2 e D0 n2 (k2.le i)⟩
theorem B1:EA X [] (Eo C ns (pure .nx)):=by
 refine EA.weak w_ ?_;rintro D σ H ⟨c0,rfl,rfl,ok,h⟩;rw[ah]at h;exact h c0 rfl ok (Ns.refl c0) Kept.refl
noncomputable def yk(m:M Fl)(f:Fl):M Fl:=match f with
 |.nx=>m
 |f=>pure f
theorem AR(h1:L2.PS X st (Eo C ns f))(h2:EA X rest (Eo C ns g)):EA X (st::rest) (Eo C ns (f >>= yk g)):=by
 refine EA.weak (uc h1 h2) ?_;rintro D σ H ⟨c0,rfl,rfl,ok,h⟩;rw[ae]at h;refine⟨c0,rfl,rfl,ok,h.mono λfl st1 w c1 e DK n1 k1=>?_⟩;subst e;cases fl with
 |nx=>exact qi DK n1 k1 w
 |bk=>rw[show yk g .bk=pure .bk from rfl,ah]at w;exact w c1 rfl DK n1 k1
 |ct=>rw[show yk g .ct=pure .ct from rfl,ah]at w;exact w c1 rfl DK n1 k1
 |rt k u=>rw[show yk g (.rt k u)=pure (.rt k u) from rfl,ah]at w;exact w c1 rfl DK n1 k1
theorem B3:L2.PS X (.Break pos) (Eo C ns (pure .bk)):=by
 refine PS.weak ud ?_;rintro D σ H ⟨c0,rfl,rfl,ok,h⟩;rw[ah]at h;exact h c0 rfl ok (Ns.refl c0) Kept.refl
theorem B4:L2.PS X (.Continue pos) (Eo C ns (pure .ct)):=by
 refine PS.weak nQ ?_;rintro D σ H ⟨c0,rfl,rfl,ok,h⟩;rw[ah]at h;exact h c0 rfl ok (Ns.refl c0) Kept.refl
theorem B5:L2.PS X (.Pass pos) (Eo C ns (pure .nx)):=by
 refine PS.weak xa ?_;rintro D σ H ⟨c0,rfl,rfl,ok,h⟩;rw[ah]at h;exact h c0 rfl ok (Ns.refl c0) Kept.refl
theorem B6(ha:PE X a (DH C ma))(hs:swapsWith a none pos.line X.env=pure false):L2.PS X (.Expr a pos) (Eo C ns (ma >>= λ_=>pure .nx)):=by
 refine PS.weak (iZ ha hs) ?_;rintro D σ H ⟨c0,rfl,rfl,ok,h⟩;refine aF ok h λx c v t w=>?_;rw[ah]at w;have:=w c rfl t.ok t.nx (Kept.of t.hσ);rw[<-t.hσ];exact this
theorem AS:L2.PS X (.Return none pos) (Eo C ns (pure (.rt .loc .DF))):=by
 refine PS.weak xb ?_;rintro D σ H ⟨c0,rfl,rfl,ok,h⟩;rw[ah]at h;exact h c0 rfl ok (Ns.refl c0) Kept.refl .DF rfl
theorem B7(ha:PE X a (DH C ma)):L2.PS X (.Return (some a) pos) (Eo C ns (ma >>= retS)):=by
 refine PS.weak (ue ha) ?_;rintro D σ H ⟨c0,rfl,rfl,ok,h⟩;refine aF ok h λx c v t w=>?_;obtain⟨k,u⟩:=x;obtain⟨hσ,DZ,n,r⟩:=t;cases k with
 |own =>
  rw[show retS (.own,u)=pure (.rt .own u) from rfl,ah]at w;obtain⟨r0,e,h1,h2,h3,h4⟩:=r;exact w c rfl DZ n (Kept.of hσ) v ⟨r0,e,(ok.jO h1).1,h2,h3,h4⟩
 |loc =>
  rw[show retS (.loc,u)=pure (.rt .loc u) from rfl,ah]at w;exact w c rfl DZ n (Kept.of hσ) v r
 |any =>
  rw[show retS (.any,u)=if D9 u=true then pure (.rt .loc u) else pure (.rt .any u) from rfl]at w;split at w
  ·rw[ah]at w;exact w c rfl DZ n (Kept.of hσ) v (Rep.D9 (by assumption) r)
  ·rw[ah]at w;exact w c rfl DZ n (Kept.of hσ) v r
 |io=>exact r.elim
 |Dw=>exact r.elim
 |bor j =>
  obtain⟨fl,st',e,w⟩:=w;rw[show retS (.bor j,u) c.st=match c.st[j]? with|some (some (.own,u))=>some (Ex.ok (Fl.rt .own u),c.st.set j none)|_=>none from rfl]at e;split at e
  ·rename_i u' hj;cases e;have Ge:j<c.st.length:=(List.getElem?_eq_some_iff.mp hj).1;have DY:∀(i:Nat) k u',(c.st.set j none)[i]?=some (some (k,u'))->i≠j/\c.st[i]?=some (some (k,u')):=λi k u' e=>by
    by_cases EY:i=j
    ·subst EY;rw[List.getElem?_set_self Ge]at e;cases e
    ·rw[List.getElem?_set_ne (Ne.symm EY)]at e;exact⟨EY,e⟩
   obtain⟨v',e1,r0,er,q1,q2,q3,q4⟩:=DZ.sl j _ _ hj;have hv:c.σ[j]?=some (some v):=r.2;rw[hv]at e1;cases e1;subst er;have F7:∀a,({c with st:=c.st.set j none}:Cf).R1 a->c.R1 a:=λa ⟨i,k,u2,hk,e1,e2⟩=>⟨i,k,u2,hk,(DY i k u2 e1).2,e2⟩
   have hR:∀a,({c with st:=c.st.set j none}:Cf).R a->c.R a:=λa z=>z.elim (λz=>.inl (F7 a z)) λ⟨i,u2,r2,e1,e2,e3⟩=>.inr ⟨i,u2,r2,(DY i .Dw u2 e1).2,e2,e3⟩;have GO:Gn C {c with st:=c.st.set j none}:=DZ.dd.of rfl (λi u2 e=>⟨(DY i .Dw u2 e).2,rfl⟩) (λa z=>.inl (F7 a z)) (.up λ_ z=>z) λi a z=>⟨(DZ.root (.inr ⟨i,z⟩)).1,λo q=>q⟩
   have RE:Ok C {c with st:=c.st.set j none}:=⟨DZ.same,DZ.Fp,DZ.par,DZ.io,by simp[DZ.len],λi k u2 e=>DZ.sl i k u2 (DY i k u2 e).2,λi i' k k' u1 u2 r hk ET e1 e2 e3 e4=>DZ.inj i i' k k' u1 u2 r hk ET (DY i k u1 e1).2 (DY i' k' u2 e2).2 e3 e4,GO⟩
   have nn:Ns c0 {c with st:=c.st.set j none}:=⟨n.keep,n.there,λa z=>n.roots a (hR a z),n.sub,n.new⟩
   refine w {c with st:=c.st.set j none} rfl RE nn (Kept.of hσ) (.ref r0) ⟨r0,rfl,q3,q1,λz=>?_,q4⟩
   ·rcases z with⟨i,k,u2,hk,e1,e2⟩|⟨i,u2,r2,e1,e2,e3⟩
    ·obtain⟨ne,Er⟩:=DY i k u2 e1;exact ne (DZ.inj i j k .own u2 _ r0 hk rfl Er hj e2 hv)
    ·exact DZ.dd.d1 i r0 ⟨u2,r2,(DY i .Dw u2 e1).2,e2,e3⟩ ⟨j,.own,_,rfl,hj,hv⟩
  ·cases e
end
section
theorem oJ(EX:∀j,ns j=true->j≠i)(ES:Ok C c0)(t:IQ C c0 c r v)(hi:i<c.σ.length)(w:W (d0 i r >>= λ_=>(pure .nx:M Fl)) c.st (jW C c0 ns D)):D.nx (c0.σ.set i (some v)) c.H:=by
 rw[ae]at w;obtain⟨c',e1,e2,DQ,n',q⟩:=rJ (r:=r) ES t.ok t.nx hi t.rx w;rw[ah]at q;have z:=q c' rfl DQ n' ⟨λj hj=>by rw[e1,t.hσ,List.getElem?_set_ne (Ne.symm (EX j hj))],by rw[e1,t.hσ];simp⟩;have z':D.nx c'.σ c'.H:=z;rw[e1,e2,t.hσ]at z';exact z'
theorem y9(EX:∀j,ns j=true->j≠i)(hN:X.N.Nodup)(hi:X.N[i]?=some x)(hx:Loc X.env.scope x)(hf:X.fn x=true\/X.env.scope.names.lookup x=some .local)(ha:PE X a (DH C ma))
  (hs:swapsWith a (some (.Name x pos')) pos.line X.env=pure false):L2.PS X (.Assign [.Name x pos'] a pos) (Eo C ns (ma >>= λr=>d0 i r >>= λ_=>pure .nx)):=by
 rintro pins s σ H D I ⟨c0,rfl,rfl,ok,h⟩;have EE:i<c0.σ.length:=by rw[I.len];exact(List.getElem?_eq_some_iff.mp hi).1
 exact uh hN hi hx ha hs hf pins s c0.σ c0.H D I (aF ok h λr c v t w=>oJ EX ok t (by rw[t.hσ];exact EE) w)
theorem AU(EX:∀j,ns j=true->j≠i)(S:da X N own scope)(hc:X.calm=true)(hN:X.N.Nodup)(Lg:X.N[i]?=some y)(hy:X.env.scope.names.lookup y=some .local)
  (hi:PI X tg iter (GP C ik ms)) (hg:∀D s H ex,PG (Et X N scope D s H ex) tg (tG C t (List.range own.length))) (hf:∀D s H ex,G3 (Et X N scope D s H ex) ifs (EH C tc)) (he:∀D s H ex,PE (Et X N scope D s H ex) elt (DH C me))
  (Hz:swapsWith (.ListComp elt [⟨tg,iter,ifs,0⟩] scope pos) (some (.Name y py)) F3.line X.env=pure true) (hs:∀x,foldedSetIterable iter X.env x=pure x) :
  L2.PS X (.Assign [.Name y py] (.ListComp elt [⟨tg,iter,ifs,0⟩] scope pos) F3)
   (Eo C ns ((ms >>= λrs=>aw rs >>= λ_=>M.DR (Ft ik rs) >>= λxs=>bq own.length t tc me rs xs [] >>= λus=>pure (.own,.lst us)) >>= λr=>d0 i r >>= λ_=>pure .nx)):=by
 rintro pins s σ H D I ⟨c0,rfl,rfl,ok,h⟩;have EE:i<c0.σ.length:=by rw[I.len];exact(List.getElem?_eq_some_iff.mp Lg).1
 refine xu S hc hN Lg hy hi hg hf he Hz hs pins s c0.σ c0.H D I ?_;rw[ae]at h;refine lI ok (h.mono λr st1 w c v e1 e2 DZ n rt=>?_);subst e2;exact oJ EX ok ⟨e1,DZ,n,rt⟩ (by rw[e1];exact EE) w
theorem AV(EX:∀j,ns j=true->j∉is)(ha:PE X a (DH C ma))(hg:PG X tg (tG C true is))(hs:swapsWithSole [tg] a pos.line X.env=pure false)(hw:swappedStores [tg] a X.env=pure none)(h1:(assignEach [tg] X.env).map (·.2)=[assign tg X.env]):
  L2.PS X (.Assign [tg] a pos) (Eo C ns (ma >>= λr=>cV true is r >>= λ_=>pure .nx)):=by
 refine PS.weak (pI ha hg hs hw h1) ?_;rintro D σ H ⟨c0,rfl,rfl,ok,h⟩;refine aF ok h λr c v t w=>?_;rw[ae]at w;refine⟨c0,c,r,t.hσ,rfl,ok,t.ok,t.nx,t.rx,w.mono λ_ st1 w1 c' e DQ n' hf hl=>?_⟩;subst e;rw[ah]at w1;exact w1 c' rfl DQ n' ⟨λj hj=>by rw[hf j (EX j hj),t.hσ],by rw[hl,t.hσ]⟩
theorem B8(hc:PT X a (EH C ta))(h1:EA X ca (Eo C ns f))(h2:EA X cb (Eo C ns g)):L2.PS X (.If a ca cb pos) (Eo C ns (ta >>= λp=>if p=true then f else g)):=by
 refine PS.weak (Bu hc h1 h2) ?_;rintro D σ H ⟨c0,rfl,rfl,ok,h⟩;refine eT ok h λp c hσ DZ n w=>?_;have e:c0.σ=c.σ:=hσ.symm;rw[e];cases p with
 |true=>rw[if_pos rfl]at w ⊢;exact qi DZ n (Kept.of hσ) w
 |false=>rw[if_neg Bool.false_ne_true]at w ⊢;exact qi DZ n (Kept.of hσ) w
theorem B9(hp:PassesOwn (model X.prog X.w) X.A X.env X.xe)(hc:PT X a (EH C ta))(hb:EA X body (Eo C ns f)):L2.PS X (.While a body [] pos) (Eo C ns (fz ta f n)):=by
 refine PS.weak (ui hp hc hb) ?_;rintro D σ H ⟨c0,rfl,rfl,ok,h⟩;refine⟨λm σ' H'=>∃c,c.H=H'/\c.σ=σ'/\Ok C c/\Ns c0 c/\Kept ns c0 c/\W (fz ta f m) c.st (jW C c0 ns D),⟨n,c0,rfl,rfl,ok,Ns.refl c0,Kept.refl,h⟩,?_⟩;rintro m σ' H' ⟨c,rfl,rfl,DZ,nc,kc,w⟩;cases m with
 |zero=>exact(aA.mp w).elim
 |succ m =>
  rw[show fz ta f (m+1)=ta >>= λb=>if b=true then(f >>= λf'=>match f' with|.nx=>fz ta f m|.ct=>fz ta f m|.bk=>pure .nx|.rt k u=>pure (.rt k u)) else pure .nx from rfl]at w;refine eT DZ w λp c2 hσ D0 n2 w2=>?_;have k2:Kept ns c c2:=Kept.of hσ;rw[<-hσ];cases p with
  |false =>
   rw[if_neg Bool.false_ne_true]at w2 ⊢;rw[ah]at w2;exact w2 c2 rfl D0 (nc.trans n2) (kc.trans k2)
  |true =>
   rw[if_pos rfl]at w2 ⊢;refine⟨λPf Ph=>∃c,c.H=Ph/\c.σ=Pf/\Ok C c/\Ns c0 c/\Kept ns c0 c/\W (fz ta f m) c.st (jW C c0 ns D),λPf Ph z=>⟨m,Nat.lt_succ_self m,z⟩,?_⟩;rw[ae]at w2;refine⟨c2,rfl,rfl,D0,w2.mono λfl st3 w3 c3 e Fy n3 k3=>?_⟩;subst e;have LM:=(nc.trans n2).trans n3;have LN:=(kc.trans k2).trans k3;cases fl with
   |nx=>exact⟨c3,rfl,rfl,Fy,LM,LN,w3⟩
   |ct=>exact⟨c3,rfl,rfl,Fy,LM,LN,w3⟩
   |bk=>rw[ah]at w3;exact w3 c3 rfl Fy LM LN
   |rt k u=>rw[ah]at w3;exact w3 c3 rfl Fy LM LN
theorem B_(hp:PassesOwn (model X.prog X.w) X.A X.env X.xe)(hc:X.calm=true)(hi:PI X tg iter (GP C ik ms))(hg:PG X tg (tG C t is))(hb:EA X body (Eo C (Gu sb) f))(hs:∀x,foldedSetIterable iter X.env x=pure x)
  (EX:∀j,ns j=true->j∉is/\Gu sb j=true) :
  L2.PS X (.For tg iter body [] pos) (Eo C ns (ms >>= λrs=>aw rs >>= λ_=>M.DR (Ft ik rs) >>= λxs=>if lG rs is sb=true then forM t is f rs xs else M.fail)):=by
 refine PS.weak (zJ hp hc hi hg hb hs) ?_;rintro D σ H ⟨c0,rfl,rfl,ok,h⟩;rw[ae]at h;refine⟨c0,rfl,rfl,ok,?_⟩;rw[ae];refine h.mono λrs st1 h1=>?_;rw[ae,cj]at h1 ⊢;refine⟨h1.1,?_⟩;have h2:=h1.2;rw[ae]at h2 ⊢;refine h2.mono λxs st2 h3=>?_;rw[ah];intro c1 J e1 e2 DK n1 DJ hw;subst e2
 dsimp only at DJ hw
 split at h3
 ·rename_i GR;have Nt:∀j u,(Kd.bor j,u)∈rs->j∉is/\Gu sb j=true:=λj u hm=>by
   have:=List.all_eq_true.mp GR _ hm;simpa using this
  refine⟨λi m σ' H'=>∃c,c.H=H'/\c.σ=σ'/\Ok C c/\Ns c1 c/\Kept ns c0 c/\iJ rs c1 c/\m=xs.length - i/\i<=xs.length/\W (forM t is f rs (xs.drop i)) c.st (jW C c0 ns D),
   ⟨xs.length,c1,rfl,e1,DK,Ns.refl c1,Kept.of e1,λ_ _ _=>rfl,by simp,Nat.zero_le _,by simpa using h3⟩,?_⟩
  rintro i m σ' H' ⟨c,rfl,rfl,DZ,nc,kc,fx,rfl,E4,w⟩;by_cases DW:i<xs.length
  ·right
   rw[List.drop_eq_getElem_cons DW,show forM t is f rs (xs[i]::xs.drop (i+1))=aw rs >>= λ_=>cV t is xs[i] >>= λ_=>f >>= λf'=>match f' with|.nx=>forM t is f rs (xs.drop (i+1))|.ct=>forM t is f rs (xs.drop (i+1))|.bk=>pure .nx|.rt k u=>pure (.rt k u) from rfl,ae,cj]at w;obtain⟨GQ,w⟩:=w;obtain⟨wk,_⟩:=hw c DZ nc fx GQ;obtain⟨Nn,JB,LJ⟩:=wk i xs[i] (by simp[DW]);refine⟨JB,λσ' H'=>∃c,c.H=H'/\c.σ=σ'/\Ok C c/\Ns c1 c/\Kept ns c0 c/\iJ rs c1 c/\W (forM t is f rs (xs.drop (i+1))) c.st (jW C c0 ns D),λσ' H' ⟨c',z1,z2,z3,z4,z5,z6,z7⟩=>⟨xs.length - (i+1),by omega,c',z1,z2,z3,z4,z5,z6,rfl,DW,z7⟩,λx H' hy=>?_⟩;obtain⟨c2,rfl,e4,e5,D0,n2,rt⟩:=LJ x H' hy;rw[ae]at w;have RF:aE C c2 c2 xs[i].1 xs[i].2 x:=by
    rcases Nn with z|z
    ·rw[z]at rt ⊢;exact rt
    ·rw[z]at rt ⊢;exact rt
   refine⟨c2,c2,xs[i],e4,rfl,D0,D0,Nx.refl c2,RF,?_⟩;rw[e5];refine w.mono λ_ st3 w3 c3 e6 Fy n3 Pj LK=>?_;subst e6;rw[ae]at w3;refine⟨c3,rfl,rfl,Fy,w3.mono λfl Jk w4 c4 e HV n4 k4=>?_⟩;subst e;have LO:Ns c1 c4:=((nc.trans n2.toNs).trans n3.toNs).trans n4;have LP:Kept ns c0 c4:=by
    refine kc.trans ⟨λj hj=>?_,by rw[k4.2,LK,e4]⟩;obtain⟨j1,j2⟩:=EX j hj;rw[k4.1 j j2,Pj j j1,e4]
   have Pk:iJ rs c1 c4:=λj u hm=>by
    obtain⟨j1,j2⟩:=Nt j u hm;rw[k4.1 j j2,Pj j j1,e4];exact fx j u hm
   cases fl with
   |nx=>exact⟨c4,rfl,rfl,HV,LO,LP,Pk,w4⟩
   |ct=>exact⟨c4,rfl,rfl,HV,LO,LP,Pk,w4⟩
   |bk=>rw[ah]at w4;exact w4 c4 rfl HV (n1.toNs.trans LO) LP
   |rt k u=>rw[ah]at w4;exact w4 c4 rfl HV (n1.toNs.trans LO) LP
  ·left
   have RG:i=xs.length:=by omega
   subst RG;rw[List.drop_length,show forM t is f rs []=aw rs >>= λ_=>pure .nx from rfl,ae,cj,ah]at w;obtain⟨_,wk⟩:=hw c DZ nc fx w.1;exact⟨wk _ (Nat.le_refl _),w.2 c rfl DZ (n1.toNs.trans nc) kc⟩
 ·exact(aA.mp h3).elim
end
section
theorem Ok.mod(ok:Ok C c)(n:Ns c0 c)(hk:k.root=true)(hi:c.st[i]?=some (some (k,u)))(hv:c.σ[i]?=some (some (.ref r)))(Ej:∀a,a≠r->H' a=c.H a)(hr:∃o,H' r=some o)
  (new:Mv c.S c.H c.S H'->dg C c.S H' r u'):Ok C {c with H:=H',st:=c.st.set i (some (k,u'))}/\Ns c0 {c with H:=H',st:=c.st.set i (some (k,u'))}:=by
 have F7:c.R1 r:=⟨i,k,u,hk,hi,hv⟩
 have hR:c.R r:=.inl F7;obtain⟨q1,q2,q3,o,ho,RH⟩:=ok.root hR;have EE:i<c.st.length:=(List.getElem?_eq_some_iff.mp hi).1;have kp:∀{a:Addr} {o':HO},a≠r->c.H a=some o'->H' a=some o':=λne e=>by rw[Ej _ ne];exact e
 have mv:Mv c.S c.H c.S H':=⟨λ_ z=>z,λa o' e t=>kp (λz=>by subst z;rw[ho]at e;cases e;exact RH t) e,λa o' z e=>kp (λz'=>q1 (z'▸z)) e⟩
 have G9:Mv (PS C c.S) c.H (PS C c.S) H':=⟨λ_ z=>z,mv.Ks,λa o' z e=>kp (λz'=>by subst z';exact z.elim q2 q1) e⟩
 have DY:∀(j:Nat) k' w,(c.st.set i (some (k,u')))[j]?=some (some (k',w))->j≠i->c.st[j]?=some (some (k',w)):=λj k' w e ne=>by rw[List.getElem?_set_ne (Ne.symm ne)]at e;exact e
 have back:∀(j:Nat) k' w,k'.root=true->(c.st.set i (some (k,u')))[j]?=some (some (k',w))->∃w',c.st[j]?=some (some (k',w')):=λj k' w _ e=>by
  by_cases hj:j=i
  ·subst hj;rw[List.getElem?_set_self EE]at e;cases e;exact⟨u,hi⟩
  ·exact⟨w,DY j k' w e hj⟩
 have b1:∀a,({c with H:=H',st:=c.st.set i (some (k,u'))}:Cf).R1 a->c.R1 a:=λa DP=>by
  obtain⟨j,k',w,h1,e1,e2⟩:=DP;obtain⟨w',a1⟩:=back j k' w h1 e1;exact⟨j,k',w',h1,a1,e2⟩
 have dD:∀(j:Nat) (w:U),(c.st.set i (some (k,u')))[j]?=some (some (.Dw,w))->c.st[j]?=some (some (.Dw,w)):=λj w e=>by
  by_cases hj:j=i
  ·subst hj;rw[List.getElem?_set_self EE]at e;cases e;cases hk
  ·exact DY j .Dw w e hj
 have GO:Gn C {c with H:=H',st:=c.st.set i (some (k,u'))}:=ok.dd.of rfl (λj w e=>⟨dD j w e,rfl⟩) (λa z=>.inl (b1 a z)) mv λj a z=>⟨(ok.root (.inr ⟨j,z⟩)).1,λo' e=>kp (λz'=>ok.dd.d1 j a z (z'▸F7)) e⟩
 refine⟨⟨λa o' e z=>?_,λa z=>?_,ok.par,λa z=>?_,by simp[ok.len],λj k' w e=>?_,λj1 j2 k1 k2 w1 w2 r' h1 h2 e1 e2 e3 e4=>?_,GO⟩,n.trans ⟨λa o' e z=>kp (λz'=>z (z'▸hR)) e,λa o' e=>?_,λa z=>?_,λ_ z=>z,λ_ z=>.inl z⟩⟩
 ·have h1:=ok.same a o' e z;refine kp (λz'=>?_) h1;subst z';rcases q3 with q3|q3
  ·rw[e]at q3;cases q3
  ·exact z q3
 ·obtain⟨h1,o',h2⟩:=ok.Fp a z;exact⟨h1,o',kp (λz'=>q1 (z'▸z)) h2⟩
 ·obtain⟨h1,o',h2⟩:=ok.io a z;refine⟨h1,?_⟩;by_cases ha:a=r
  ·subst ha;exact hr
  ·exact⟨o',kp ha h2⟩
 ·by_cases hj:j=i
  ·subst hj;rw[List.getElem?_set_self EE]at e;cases e;obtain⟨v,e1,e2⟩:=ok.sl j _ _ hi;rw[hv]at e1;cases e1;refine⟨.ref r,hv,?_⟩;have nr:=new mv;cases k with
   |own=>obtain⟨r',er,z1,z2,z3,_⟩:=e2;cases er;exact⟨r,rfl,z1,z2,z3,nr⟩
   |io=>obtain⟨r',er,z1,z2,z3,_⟩:=e2;cases er;exact⟨r,rfl,z1,z2,z3,nr⟩
   |_=>cases hk
  ·have e0:=DY j k' w e hj;obtain⟨v,e1,e2⟩:=ok.sl j k' w e0;refine⟨v,e1,e2.mv mv G9 λET r' er=>?_⟩;obtain⟨Kw,ER,z1,_⟩:=e2.rt ET;rw[er]at ER;cases ER;refine⟨z1,λo' e=>kp (λz=>?_) e⟩;subst z;exact hj (ok.inj j i k' k w u r' ET hk e0 hi (by rw[e1,er]) hv)
 ·obtain⟨LQ,a1⟩:=back j1 k1 w1 h1 e1;obtain⟨Pl,a2⟩:=back j2 k2 w2 h2 e2;exact ok.inj j1 j2 k1 k2 LQ Pl r' h1 h2 a1 a2 e3 e4
 ·by_cases ha:a=r
  ·subst ha;exact hr
  ·exact⟨o',kp ha e⟩
 ·rcases z with z|⟨j,w,r',e1,e2,e3⟩
  ·exact .inl (.inl (b1 a z))
  ·exact .inl (.inr ⟨j,w,r',dD j w e1,e2,e3⟩)
theorem fm{f:U->Option U}{st:au}(h:W (modS i f) st Q):∃k u u',k.root=true/\st[i]?=some (some (k,u))/\f u=some u'/\Q () (st.set i (some (k,u'))):=by
 obtain⟨_,st',e,q⟩:=h;unfold modS at e;split at e
 ·rename_i k u hs;split at e
  ·rename_i hk;cases e2:f u with
   |none=>rw[e2]at e;cases e
   |some u'=>rw[e2]at e;cases e;exact⟨k,u,u',hk,hs,e2,q⟩
  ·cases e
 ·cases e
theorem c9{st:au}(h:W (dn i) st Q):∃k u,k≠.Dw/\st[i]?=some (some (k,u))/\Q (if k.root=true then .bor i else k,u) st:=by
 obtain⟨r,st',e,q⟩:=h;unfold dn at e;split at e
 ·cases e
 ·rename_i k u Nh hs;cases e;exact⟨k,u,λz=>Nh z,hs,q⟩
 ·cases e
theorem Ca(hK:C.K=X.K)(hN:X.N[i]?=some x)(hv:Fm X.env.scope x)(hd:(x==("__debug__":Str))=false)(Ed:(x==("__classdict__":Str))=false)(ha:PE X a (DH C ma))
  (EL:((backTo Dx (starEach [a] X.env)).all (λx=>!x.1)&&(backToKw Dx (keywordEach [] X.env)).all (λx=>x.1.isSome)
   && decide ([a].length+([]:List Keyword).length+(if ([]:List Keyword).isEmpty then 0 else 1)<30))=true)
  (D4:(apos.endLine==Dx.line)=true) (DJ:starEach [a] X.env=[(false,eval a X.env)]) :
  L2.PS X (.Expr (.Call (.Attribute (.Name x px) "append" apos) [a] [] Dx) pos) (Eo C ns (dn i >>= λx=>Jy x.2 >>= λ_=>ma >>= λr=>lift r >>= λu=>modS i (vh u) >>= λ_=>pure .nx)):=by
 refine PS.weak (iZ (ur PySem.F.plainAttrs_list PySem.F.slot_list_append PySem.F.type_list_append la (cn hN hv hd Ed) (fc ha ju DJ) rfl EL D4 DJ rfl)) ?_;rintro D σ H ⟨c0,rfl,rfl,ok,h⟩;rw[ae]at h;obtain⟨k0,u0,Hr,EC,h⟩:=c9 h;obtain⟨v0,e0,FZ⟩:=ok.sl i k0 u0 EC;refine⟨v0,e0,?_⟩;cases u0 with
 |lst KA =>
  rw[ae,show Jy (U.lst KA)=pure () from rfl,ah]at h;have Nu:aE C c0 c0 (if k0.root=true then .bor i else k0) (.lst KA) v0:=by
   by_cases hk:k0.root=true
   ·rw[if_pos hk];exact⟨⟨k0,hk,EC⟩,e0⟩
   ·rw[if_neg hk];cases k0 with
    |own=>exact absurd rfl hk
    |io=>exact absurd rfl hk
    |loc=>exact FZ
    |any=>exact FZ
    |bor j=>exact FZ.elim
    |Dw=>exact(Hr rfl).elim
  obtain⟨a0,LG,ea,K_,_⟩:=Nu.list ok;refine⟨by rw[ea];exact .inl ⟨rfl,LG,hK▸K_⟩,?_⟩;refine aF ok h λr c v t w=>?_;rw[ae]at w;obtain⟨S',st',u,sS,DK,n1,rep1,w1,_,_⟩:=gH ok t.ok t.nx t.rx.w w;rw[ae]at w1;obtain⟨k,u1,u2,hk,hs,hf,q⟩:=fm w1;have hσ:c.σ[i]?=some (some (.ref a0)):=by rw[t.hσ,e0,ea]
  cases u1 with
  |lst ys =>
   simp only[vh]at hf;split at hf
   ·rename_i hz;cases hf;obtain⟨v',e1,e2⟩:=DK.sl i k (.lst ys) hs;have Er:c.σ[i]?=some (some v'):=e1;rw[hσ]at Er;cases Er;obtain⟨r',er,_,_,_,ws,hw,E1⟩:=e2.rt hk;cases er;have Gf:c.H a0=some (.lst ws):=hw;refine⟨a0,ws,v,ea,rfl,Gf,by rw[<-E1.len];exact hz,?_⟩;rw[ah]at q;obtain⟨D0,n2⟩:=Ok.mod (c:={c with S:=S',st:=st' }) (H':=upd c.H a0 (.lst (ws++[v]))) (u':=.lst (ys++[u])) DK n1.toNs hk hs hσ (λa ne=>aj ne) ⟨_,aq⟩ λmv=>⟨ws++[v],aq,(E1.mv mv).snoc (rep1.mv mv)⟩
    have z:=q _ rfl D0 n2 (Kept.of t.hσ);rw[<-t.hσ];exact z
   ·cases hf
  |_=>cases hf
 |_=>rw[ae]at h;exact(aA.mp h).elim
theorem Cb(hK:C.K=X.K)(hN:X.N[i]?=some x)(hv:Fm X.env.scope x)(hd:(x==("__debug__":Str))=false)(Ed:(x==("__classdict__":Str))=false)(ha:PE X a (DH C ma))
  (EL:((backTo Dx (starEach [a] X.env)).all (λx=>!x.1)&&(backToKw Dx (keywordEach [] X.env)).all (λx=>x.1.isSome)
   && decide ([a].length+([]:List Keyword).length+(if ([]:List Keyword).isEmpty then 0 else 1)<30))=true)
  (D4:(apos.endLine==Dx.line)=true) (DJ:starEach [a] X.env=[(false,eval a X.env)]) :
  L2.PS X (.Expr (.Call (.Attribute (.Name x px) "extend" apos) [a] [] Dx) pos) (Eo C ns (dn i >>= λx=>Jy x.2 >>= λ_=>ma >>= λr=>modS i (jS r) >>= λ_=>pure .nx)):=by
 refine PS.weak (iZ (ur PySem.F.plainAttrs_list PySem.F.slot_list_extend PySem.F.type_list_extend p6 (cn hN hv hd Ed) (fc ha ju DJ) rfl EL D4 DJ rfl)) ?_;rintro D σ H ⟨c0,rfl,rfl,ok,h⟩;rw[ae]at h;obtain⟨k0,u0,Hr,EC,h⟩:=c9 h;obtain⟨v0,e0,FZ⟩:=ok.sl i k0 u0 EC;refine⟨v0,e0,?_⟩;cases u0 with
 |lst KA =>
  rw[ae,show Jy (U.lst KA)=pure () from rfl,ah]at h;have Nu:aE C c0 c0 (if k0.root=true then .bor i else k0) (.lst KA) v0:=by
   by_cases hk:k0.root=true
   ·rw[if_pos hk];exact⟨⟨k0,hk,EC⟩,e0⟩
   ·rw[if_neg hk];cases k0 with
    |own=>exact absurd rfl hk
    |io=>exact absurd rfl hk
    |loc=>exact FZ
    |any=>exact FZ
    |bor j=>exact FZ.elim
    |Dw=>exact(Hr rfl).elim
  obtain⟨a0,LG,ea,K_,_⟩:=Nu.list ok;refine⟨by rw[ea];exact .inl ⟨rfl,LG,hK▸K_⟩,?_⟩;refine aF ok h λr c v t w=>?_;rw[ae]at w;obtain⟨k,u1,u2,hk,hs,hf,q⟩:=fm w;have hσ:c.σ[i]?=some (some (.ref a0)):=by rw[t.hσ,e0,ea]
  obtain⟨rk,ru⟩:=r;have key:∃ys zs b vs,u1=.lst ys/\v=.ref b/\(D7 C.K c.H b vs\/D3 C.K c.H b vs)/\ai C c.S c.H zs vs/\ys.length+zs.length<=sizeLine/\u2=.lst (ys++zs):=by
   cases ru with
   |lst zs =>
    cases u1 with
    |lst ys =>
     simp only[jS]at hf;split at hf
     ·rename_i hz;cases hf;obtain⟨b,vs,ev,h1,h2⟩:=t.rx.list t.ok;exact⟨_,_,b,vs,rfl,ev,.inl h1,gF hz.2 h2,hz.1,rfl⟩
     ·cases hf
    |_=>simp[jS]at hf
   |tup zs =>
    cases u1 with
    |lst ys =>
     simp only[jS]at hf;split at hf
     ·rename_i hz;cases hf;obtain⟨b,vs,ev,h1,h2⟩:=t.rx.tuple t.ok;exact⟨_,_,b,vs,rfl,ev,.inr h1,gF hz.2 h2,hz.1,rfl⟩
     ·cases hf
    |_=>simp[jS]at hf
   |_=>simp[jS]at hf
  obtain⟨ys,zs,b,vs,rfl,rfl,hB,hz,hl,rfl⟩:=key;obtain⟨v',e1,e2⟩:=t.ok.sl i k (.lst ys) hs;rw[hσ]at e1;cases e1;obtain⟨r',er,_,_,_,ws,hw,E1⟩:=e2.rt hk;cases er;refine⟨a0,b,ws,vs,ea,rfl,hw,hK▸hB,by rw[<-E1.len,<-hz.len];exact hl,?_⟩;rw[ah]at q;obtain⟨D0,n2⟩:=Ok.mod (c:=c) (H':=upd c.H a0 (.lst (ws++vs))) (u':=.lst (ys++zs)) t.ok t.nx.toNs hk hs hσ (λa ne=>aj ne) ⟨_,aq⟩ λmv=>⟨ws++vs,aq,(E1.mv mv).append (hz.mv mv)⟩
  have z:=q _ rfl D0 n2 (Kept.of t.hσ);rw[<-t.hσ];exact z
 |_=>rw[ae]at h;exact(aA.mp h).elim
theorem jn.or(h:jn X t)(h':jn X t'):jn X (λo i v H Q=>t o i v H Q\/t' o i v H Q):=λpins s σ H o i v ov iv u Q I r1 r2 r3 q =>
 q.elim (h pins s σ H o i v ov iv u Q I r1 r2 r3) (h' pins s σ H o i v ov iv u Q I r1 r2 r3)
theorem set_dict(hu:X.A.units+1<cLine):jn X (λo i v H Q=>∃a H',o=.ref a/\sG H a i v H'/\Q H'):=by
 rintro pins s σ H o i v ov iv u Q I ro ri rv ⟨a,H',rfl,g,q⟩;cases ro;exact sI hu I g ri rv λs' I'=>⟨H',I',q⟩
theorem vG{S:Addr->Prop}{kvs:List (Key×V)}(h1:kvs.map (·.1)=ks.map Sum.inr)(h2:ai C S H us (kvs.map (·.2)))(hv:Rep C S H u v):
  (putK kvs (Sum.inr y) v).map (·.1)=(dput ks us y u).1.map Sum.inr/\ai C S H (dput ks us y u).2 ((putK kvs (Sum.inr y) v).map (·.2)):=by
 have KC:(kvs.any λkv=>decide (kv.1=(Sum.inr y:Key)))=decide (y∈ks):=by
  rw[gn];exact(c8 (x:=y) h1 h2).2
 unfold putK dput;rw[KC];by_cases hm:y∈ks
 ·rw[if_pos (by simpa using hm),if_pos hm];constructor
  ·rw[List.map_map];rw[<-h1];apply List.map_congr_left;intro p _;show(if p.1=Sum.inr y then(p.1,v) else p).1=p.1;split<;>rfl
  ·clear KC hm;induction kvs generalizing ks us with
   |nil =>
    have:ks=[]:=by simpa using h1.symm
    subst this;simp[ai]
   |cons p kvs ih =>
    cases ks with
    |nil=>simp at h1
    |cons k ks =>
     cases us with
     |nil=>simp[ai]at h2
     |cons u0 us =>
      rw[List.map_cons,List.map_cons,List.cons.injEq]at h1;obtain⟨v0,r0,e0,q1,q2⟩:=h2;rw[List.map_cons]at e0;cases e0;rw[List.map_cons,List.zip_cons_cons,List.map_cons,List.map_cons];refine⟨_,_,rfl,?_,ih h1.2 q2⟩;by_cases hk:k=y
      ·rw[if_pos (by exact hk),if_pos (by rw[h1.1,hk])];exact hv
      ·rw[if_neg (by exact hk),if_neg (by rw[h1.1];intro z;exact hk (Sum.inr.inj z))];exact q1
 ·rw[if_neg (by simpa using hm),if_neg hm];exact⟨by rw[List.map_append,h1,List.map_append];rfl,by rw[List.map_append];exact h2.snoc hv⟩
theorem Cc(hP:C.P=X.prog)(hw:C.w=X.w)(hK:C.K=X.K)(hu:X.A.units+60<cLine)(hN:X.N[i]?=some x)(hv:Fm X.env.scope x)(hd:(x==("__debug__":Str))=false)(Ed:(x==("__classdict__":Str))=false)
  (ha:PE X a (DH C ma)) (hb:PE X b (DH C mb)) (hs:swapsWithSole [.Subscript (.Name x px) b p] a pos.line X.env=pure false) (G_:swappedStores [.Subscript (.Name x px) b p] a X.env=pure none)
  (has:∀v,assign (.Subscript (.Name x px) b p) X.env v=(do
   let ov <-holding [v] (eval (.Name x px) X.env)
   let iv <-holding [v,ov] (eval b X.env)
   standAt p
   holding [v,ov,iv] (setItem ov iv v)
   release [v,ov,iv] [])) :
  L2.PS X (.Assign [.Subscript (.Name x px) b p] a pos) (Eo C ns (ma >>= λr=>dn i >>= λ_=>mb >>= λx=>cR [r,x] >>= λus=>modS i (rq us) >>= λ_=>pure .nx)):=by
 refine PS.weak (pI ha (ug (cn hN hv hd Ed) hb (jn.or (jn.or set_list (set_dict (X:=X) (by omega))) (xA (X:=X) (by omega))) has) hs G_ rfl) ?_;rintro D σ H ⟨c0,rfl,rfl,ok,h⟩;refine aF ok h λr c v t w=>?_;rw[ae]at w;obtain⟨k0,u0,Hr,EC,w⟩:=c9 w;obtain⟨v0,e0,FZ⟩:=t.ok.sl i k0 u0 EC;refine⟨v0,by rw[<-t.hσ];exact e0,?_⟩;rw[ae]at w;refine⟨c,t.hσ,rfl,t.ok,w.mono λy st2 w2 c2 vy e3 e4 D0 n2 r2=>?_⟩;subst e4;rw[ae]at w2;have Nv:=t.nx.trans n2;have rws:dh C c0 c2 [r,y] [v,vy]:=⟨v,[vy],rfl,t.rx.w.on t.ok n2 (e3.trans t.hσ.symm),⟨vy,[],rfl,(r2.w).from t.nx,rfl,λ_ i r' v' e _=>by simp at e⟩,λhk i r' v' e5 e6 ET=>by
  cases i with
  |zero=>simp at e5 e6;subst e5 e6;exact mR t.rx.w r2.w hk ET
  |succ i=>simp at e5⟩
 obtain⟨S',st',us,sS,DK,n1,rep1,w1⟩:=gI ok D0 Nv rws w2;rw[ae]at w1;obtain⟨k,u1,u2,hk,E9,hf,q⟩:=fm w1;rw[ah]at q;have hσ:c2.σ[i]?=some (some v0):=by rw[e3,<-t.hσ];exact e0
 obtain⟨v',e1,e2⟩:=DK.sl i k u1 E9;have Er:c2.σ[i]?=some (some v'):=e1;rw[hσ]at Er;cases Er;obtain⟨a0,er,z1,z2,z3,root⟩:=e2.rt hk;subst er;have RJ:({c2 with S:=S',st:=st' }:Cf).σ[i]?=some (some (.ref a0)):=hσ;obtain⟨LQ,ws,ew,Pn,Pl,Tj,Tn,Nw,RK⟩:∃u ws,us=[u,ws]/\Rep C S' c2.H u v/\∃(_:Unit) (_:Unit),True/\Rep C S' c2.H ws vy/\True:=by
  cases us with
  |nil=>simp[ai]at rep1
  |cons u us =>
   obtain⟨_,_,e,q1,q2⟩:=rep1;cases e;cases us with
   |nil=>simp[ai]at q2
   |cons u' us =>
    obtain⟨_,_,e,q3,q4⟩:=q2;cases e;cases us with
    |nil=>exact⟨u,u',rfl,q1,(),(),trivial,q3,trivial⟩
    |cons _ _=>obtain⟨_,_,e,_⟩:=q4;cases e
 subst ew;rw[show rq [LQ,ws] u1=dF ws LQ u1 from rfl]at hf;have fin:∀{H':Hp} ,(∀a,a≠a0->H' a=c2.H a)->(∃o,H' a0=some o)->(Mv S' c2.H S' H'->dg C S' H' a0 u2)->D.nx c0.σ H':=λ{H'} Ej hr new=>by
  obtain⟨Fy,n3⟩:=Ok.mod (c:={c2 with S:=S',st:=st' }) (H':=H') (u':=u2) DK n1.toNs hk E9 RJ Ej hr new;have z:=q _ rfl Fy n3 (Kept.of e3);rw[<-e3];exact z
 cases u1 with
 |lst xs =>
  cases ws with
  |int j =>
   simp only[dF,Option.map_eq_some_iff]at hf;obtain⟨j',hj,rfl⟩:=hf;obtain⟨vs,h1,h2⟩:=root;have ey:vy=.int j:=Nw;refine .inl (.inl ⟨a0,vs,j,j',rfl,ey,h1,by rw[<-h2.len];exact hj,?_⟩);exact fin (λa ne=>aj ne) ⟨_,aq⟩ λmv=>⟨vs.set j' v,aq,(h2.mv mv).set j' (Pn.mv mv)⟩
  |_=>simp[dF]at hf
 |Dy ks vs =>
  cases ws with
  |str y' =>
   simp only[dF]at hf;split at hf
   ·rename_i hz;cases hf;obtain⟨kvs,h1,h2,h3⟩:=root;have ey:vy=.str y':=Nw;subst ey;have hl:kvs.length=ks.length:=by have:=congrArg List.length h2;simpa using this
    refine .inl (.inr ⟨a0,_,rfl,sG.k (k:=Sum.inr y') h1 (by rw[hl];exact hz),?_⟩);refine fin (λa ne=>aj ne) ⟨_,aq⟩ λmv=>?_;obtain⟨g1,g2⟩:=vG (y:=y') h2 h3 Pn;exact⟨_,aq,g1,g2.mv mv⟩
   ·cases hf
  |_=>simp[dF]at hf
 |DV ks =>
  simp only[dF]at hf;split at hf
  ·rename_i r0 Jp;split at hf
   ·rename_i hh;cases hf;have er:=jV Jp;subst er;have Ei:=Nw.row;have HW:eh C.P C.w C.K c2.H a0 ks:=root;rw[hK]at Ei;rw[hP,hw,hK]at HW;refine .inr ⟨a0,r0,ks,rfl,Ei,HW,hh.1,hh.2,λH' hR Ej=>?_⟩;obtain⟨xs,hx,_⟩:=id hR;refine fin Ej ⟨_,hx⟩ λmv=>?_;show eh C.P C.w C.K H' a0 _;rw[hP,hw,hK];exact hR
   ·cases hf
  ·cases hf
 |_=>simp[dF]at hf
theorem Ok.slot(ok:Ok C c)(hn:k≠.Dw)(hs:c.st[i]?=some (some (k,u))):∃v,c.σ[i]?=some (some v)/\aE C c c (if k.root=true then .bor i else k) u v:=by
 obtain⟨v0,e0,FZ⟩:=ok.sl i k u hs;refine⟨v0,e0,?_⟩;by_cases hk:k.root=true
 ·rw[if_pos hk];exact⟨⟨k,hk,hs⟩,e0⟩
 ·rw[if_neg hk];cases k with
  |own=>exact absurd rfl hk
  |io=>exact absurd rfl hk
  |loc=>exact FZ
  |any=>exact FZ
  |bor j=>exact FZ.elim
  |Dw=>exact(hn rfl).elim
end
section
theorem Ok.Cd(ok:Ok C c)(n:Ns c0 c)(hi:c.st[i]?=some (some (.Dw,u)))(hv:c.σ[i]?=some (some (.ref r)))(Ej:∀a,¬c.RD i a->H' a=c.H a)(Ny:∀a o,c.H a=some o->∃o',H' a=some o')
  (new:Mv c.S c.H c.S H'->bU C c.S H' r as' u') (has:∀a∈as',a∈c.kid i\/(¬c.R a/\c0.H a=none)) :
  Ok C {c with H:=H',st:=c.st.set i (some (.Dw,u')),kid:=λj=>if j=i then as' else c.kid j}/\Ns c0 {c with H:=H',st:=c.st.set i (some (.Dw,u')),kid:=λj=>if j=i then as' else c.kid j}:=by
 have EE:i<c.st.length:=(List.getElem?_eq_some_iff.mp hi).1;have rt:∀{a},c.RD i a->¬c.S a/\¬C.GL a/\(C.H₀ a=none\/C.IO a)/\∃o,c.H a=some o/\¬Tp o:=λz=>ok.root (.inr ⟨i,z⟩);have h0:∀{a},c.RD i a->C.H₀ a=none:=λ⟨u1,r1,e1,e2,e3⟩=>(bU.fr (ok.dd.kd i u1 r1 e1 e2) _ (List.mem_cons.mpr e3)).2.2;have kp:∀{a:Addr} {o:HO},¬c.RD i a->c.H a=some o->H' a=some o:=λz e=>by rw[Ej _ z];exact e
 have mv:Mv c.S c.H c.S H':=⟨λ_ z=>z,λa o e t=>kp (λz=>by
  obtain⟨_,_,_,o',e',nt⟩:=rt z;rw[e]at e';cases e';exact nt t) e,λa o z e=>kp (λz'=>(rt z').1 z) e⟩
 have G9:Mv (PS C c.S) c.H (PS C c.S) H':=⟨λ_ z=>z,mv.Ks,λa o z e=>kp (λz'=>z.elim (rt z').2.1 (rt z').1) e⟩
 have DY:∀(j:Nat) k w,(c.st.set i (some (.Dw,u')))[j]?=some (some (k,w))->j≠i->c.st[j]?=some (some (k,w)):=λj k w e ne=>by rw[List.getElem?_set_ne (Ne.symm ne)]at e;exact e
 have IV:∀(j:Nat) k w,k.root=true->(c.st.set i (some (.Dw,u')))[j]?=some (some (k,w))->c.st[j]?=some (some (k,w)):=λj k w hk e=>by
  by_cases hj:j=i
  ·subst hj;rw[List.getElem?_set_self EE]at e;cases e;cases hk
  ·exact DY j k w e hj
 have b1:∀a,({c with H:=H',st:=c.st.set i (some (.Dw,u')),kid:=λj=>if j=i then as' else c.kid j}:Cf).R1 a->c.R1 a:=λa ⟨j,k,w,hk,e1,e2⟩=>⟨j,k,w,hk,IV j k w hk e1,e2⟩
 have bD:∀j a,({c with H:=H',st:=c.st.set i (some (.Dw,u')),kid:=λj=>if j=i then as' else c.kid j}:Cf).RD j a->c.RD j a\/(j=i/\¬c.R a/\c0.H a=none):=λj a DP=>by
  obtain⟨w,r',e1,e2,e3⟩:=DP;by_cases hj:j=i
  ·subst hj;have Fg:c.σ[j]?=some (some (.ref r')):=e2;rw[hv]at Fg;cases Fg;rcases e3 with rfl|e3
   ·exact .inl ⟨u,_,hi,hv,.inl rfl⟩
   ·have HX:a∈as':=by simpa using e3
    rcases has a HX with z|z
    ·exact .inl ⟨u,_,hi,hv,.inr z⟩
    ·exact .inr ⟨rfl,z⟩
  ·have HX:a=r'\/a∈c.kid j:=by simpa[hj] using e3
   exact .inl ⟨w,r',DY j _ w e1 hj,e2,HX⟩
 refine⟨⟨λa o e z=>kp (λz'=>by rw[h0 z']at e;cases e) (ok.same a o e z),λa z=>?_,ok.par,λa z=>?_,by simp[ok.len],λj k w e=>?_,λj1 j2 k1 k2 w1 w2 r' h1 h2 e1 e2 e3 e4=>ok.inj j1 j2 k1 k2 w1 w2 r' h1 h2 (IV j1 k1 w1 h1 e1) (IV j2 k2 w2 h2 e2) e3 e4,⟨λj w r' e1 e2=>?_,λj1 j2 a z1 z2=>?_,λj a z1 z2=>?_⟩⟩,⟨λa o e z=>?_,λa o e=>?_,λa z=>?_,n.sub,n.new⟩⟩
 ·obtain⟨q1,o,q2⟩:=ok.Fp a z;exact⟨q1,Ny a o q2⟩
 ·obtain⟨q1,o,q2⟩:=ok.io a z;exact⟨q1,Ny a o q2⟩
 ·by_cases hj:j=i
  ·subst hj;rw[List.getElem?_set_self EE]at e;cases e;exact⟨.ref r,hv,r,rfl⟩
  ·obtain⟨v,e1,e2⟩:=ok.sl j k w (DY j k w e hj);refine⟨v,e1,e2.mv mv G9 λhk r' er=>?_⟩;obtain⟨Kw,ER,z1,_⟩:=e2.rt hk;rw[er]at ER;cases ER;exact⟨z1,λo e'=>kp (λz=>ok.dd.d1 i r' z ⟨j,k,w,hk,DY j k w e hj,by rw[e1,er]⟩) e'⟩
 ·by_cases hj:j=i
  ·subst hj;rw[List.getElem?_set_self EE]at e1;cases e1;have Fg:c.σ[j]?=some (some (.ref r')):=e2;rw[hv]at Fg;cases Fg;have z:=new mv;simpa using z
  ·have Er:=DY j _ w e1 hj;have ET:(if j=i then as' else c.kid j)=c.kid j:=if_neg hj;show bU C c.S H' r' (if j=i then as' else c.kid j) w;rw[ET];exact bU.mv mv (λa ha=>⟨(ok.root (.inr ⟨j,w,r',Er,e2,List.mem_cons.mp ha⟩)).1,λo e'=>kp (λz=>hj (ok.dd.dj j i a ⟨w,r',Er,e2,List.mem_cons.mp ha⟩ z)) e'⟩) (ok.dd.kd j w r' Er e2)
 ·rcases bD j1 a z1 with y1|⟨rfl,y1,_⟩
  ·rcases bD j2 a z2 with y2|⟨rfl,y2,_⟩
   ·exact ok.dd.dj j1 j2 a y1 y2
   ·exact(y2 (.inr ⟨j1,y1⟩)).elim
  ·rcases bD j2 a z2 with y2|⟨rfl,y2,_⟩
   ·exact(y1 (.inr ⟨j2,y2⟩)).elim
   ·rfl
 ·rcases bD j a z1 with y1|⟨rfl,y1,_⟩
  ·exact ok.dd.d1 j a y1 (b1 a z2)
  ·exact y1 (.inl (b1 a z2))
 ·exact kp (λz'=>by
   rcases n.roots a (.inr ⟨i,z'⟩) with y|y
   ·exact z y
   ·rw[e]at y;cases y) (n.keep a o e z)
 ·obtain⟨o',e'⟩:=n.there a o e;exact Ny a o' e'
 ·rcases z with z|⟨j,z⟩
  ·exact n.roots a (.inl (b1 a z))
  ·rcases bD j a z with y|⟨_,_,y⟩
   ·exact n.roots a (.inr ⟨j,y⟩)
   ·exact .inr y
theorem Ok.newD(ok:Ok C c)(hp:c.H p=none)(hi:i<c.σ.length):
  Ok C {c with H:=upd c.H p (.dK []),σ:=c.σ.set i (some (.ref p)),st:=c.st.set i (some (.Dw,.Dy [] [])),kid:=λj=>if j=i then [] else c.kid j}/\Ns c {c with H:=upd c.H p (.dK []),σ:=c.σ.set i (some (.ref p)),st:=c.st.set i (some (.Dw,.Dy [] [])),kid:=λj=>if j=i then [] else c.kid j}:=by
 obtain⟨DK,n1⟩:=ok.lay (o:=.dK []) hp;obtain⟨q1,q2,q3,q4,q5⟩:=ok.jO hp;have EE:i<c.st.length:=by rw[ok.len];exact hi
 have DY:∀(j:Nat) k w,(c.st.set i (some (.Dw,.Dy [] [])))[j]?=some (some (k,w))->j≠i->c.st[j]?=some (some (k,w)):=λj k w e ne=>by rw[List.getElem?_set_ne (Ne.symm ne)]at e;exact e
 have Fv:∀(j:Nat),j≠i->(c.σ.set i (some (.ref p)))[j]?=c.σ[j]?:=λj ne=>List.getElem?_set_ne (Ne.symm ne);have IV:∀(j:Nat) k w,k.root=true->(c.st.set i (some (.Dw,.Dy [] [])))[j]?=some (some (k,w))->j≠i/\c.st[j]?=some (some (k,w)):=λj k w hk e=>by
  by_cases hj:j=i
  ·subst hj;rw[List.getElem?_set_self EE]at e;cases e;cases hk
  ·exact⟨hj,DY j k w e hj⟩
 have b1:∀a,({c with H:=upd c.H p (.dK []),σ:=c.σ.set i (some (.ref p)),st:=c.st.set i (some (.Dw,.Dy [] [])),kid:=λj=>if j=i then [] else c.kid j}:Cf).R1 a->c.R1 a:=λa DP=>by
  obtain⟨j,k,w,hk,e1,e2⟩:=DP;obtain⟨hj,Er⟩:=IV j k w hk e1;exact⟨j,k,w,hk,Er,by rw[<-Fv j hj];exact e2⟩
 have bD:∀j a,({c with H:=upd c.H p (.dK []),σ:=c.σ.set i (some (.ref p)),st:=c.st.set i (some (.Dw,.Dy [] [])),kid:=λj=>if j=i then [] else c.kid j}:Cf).RD j a->(j≠i/\c.RD j a)\/(j=i/\a=p):=λj a DP=>by
  obtain⟨w,r',e1,e2,e3⟩:=DP;by_cases hj:j=i
  ·subst hj;have Fg:(c.σ.set j (some (.ref p)))[j]?=some (some (.ref r')):=e2;rw[List.getElem?_set_self hi]at Fg;cases Fg;rcases e3 with rfl|e3
   ·exact .inr ⟨rfl,rfl⟩
   ·simp at e3
  ·have HX:a=r'\/a∈c.kid j:=by simpa[hj] using e3
   exact .inl ⟨hj,w,r',DY j _ w e1 hj,by rw[<-Fv j hj];exact e2,HX⟩
 refine⟨⟨DK.same,DK.Fp,DK.par,DK.io,by simp[ok.len],λj k w e=>?_,λj1 j2 k1 k2 w1 w2 r' h1 h2 e1 e2 e3 e4=>?_,⟨λj w r' e1 e2=>?_,λj1 j2 a z1 z2=>?_,λj a z1 z2=>?_⟩⟩,⟨λa o e z=>n1.all a o e,n1.there,λa z=>?_,λ_ z=>z,λ_ z=>.inl z⟩⟩
 ·by_cases hj:j=i
  ·subst hj;rw[List.getElem?_set_self EE]at e;cases e;exact⟨.ref p,List.getElem?_set_self hi,p,rfl⟩
  ·obtain⟨v,e1,e2⟩:=DK.sl j k w (DY j k w e hj);exact⟨v,(Fv j hj).trans e1,e2⟩
 ·obtain⟨JC,a1⟩:=IV j1 k1 w1 h1 e1;obtain⟨IW,a2⟩:=IV j2 k2 w2 h2 e2;exact ok.inj j1 j2 k1 k2 w1 w2 r' h1 h2 a1 a2 ((Fv j1 JC).symm.trans e3) ((Fv j2 IW).symm.trans e4)
 ·by_cases hj:j=i
  ·subst hj;rw[List.getElem?_set_self EE]at e1;cases e1;have Fg:(c.σ.set j (some (.ref p)))[j]?=some (some (.ref r')):=e2;rw[List.getElem?_set_self hi]at Fg;cases Fg;show bU C c.S (upd c.H p (.dK [])) p (if j=j then [] else c.kid j) (.Dy [] []);rw[if_pos rfl];exact⟨[],aq,rfl,rfl,by simp,λa ha=>by rw[List.mem_singleton.mp ha];exact⟨q2,q3,q1⟩,rfl⟩
  ·have Er:=DY j _ w e1 hj;have z:=DK.dd.kd j w r' Er ((Fv j hj).symm.trans e2);show bU C c.S (upd c.H p (.dK [])) r' (if j=i then [] else c.kid j) w;rw[if_neg hj];exact z
 ·rcases bD j1 a z1 with⟨_,y1⟩|⟨rfl,rfl⟩
  ·rcases bD j2 a z2 with⟨_,y2⟩|⟨rfl,rfl⟩
   ·exact ok.dd.dj j1 j2 a y1 y2
   ·exact(q5 (.inr ⟨j1,y1⟩)).elim
  ·rcases bD j2 a z2 with⟨_,y2⟩|⟨rfl,_⟩
   ·exact(q5 (.inr ⟨j2,y2⟩)).elim
   ·rfl
 ·rcases bD j a z1 with⟨_,y1⟩|⟨rfl,rfl⟩
  ·exact ok.dd.d1 j a y1 (b1 a z2)
  ·exact q5 (.inl (b1 a z2))
 ·rcases z with z|⟨j,z⟩
  ·exact .inl (.inl (b1 a z))
  ·rcases bD j a z with⟨_,y⟩|⟨_,rfl⟩
   ·exact .inl (.inr ⟨j,y⟩)
   ·exact .inr hp
end
section
theorem cQ.rep{S S':Addr->Prop}(hs:∀a,S a->S' a):∀{us:List U}{as:List Addr},(∀a∈as,S' a)->cQ C S H us as->ai C S' H us (as.map V.ref)
 |[],as,_,h=>by cases h;exact rfl
 |u::us,as,ha,h=>by
  obtain⟨a,as',ys,vs,rfl,rfl,h1,h2,h3⟩:=h;exact⟨.ref a,as'.map V.ref,rfl,⟨a,vs,rfl,.inl ⟨ha a (by simp),.inl h1⟩,h2.mv (.up hs)⟩,cQ.rep hs (λb hb=>ha b (by simp[hb])) h3⟩
theorem Ok.Ce(ok:Ok C c)(n:Nx c0 c)(hi:c.st[i]?=some (some (.Dw,u)))(hv:c.σ[i]?=some (some (.ref r))):
  Ok C {c with S:=λa=>c.S a\/a∈c.kid i,st:=c.st.set i (some (.own,u))}/\Nx c0 {c with S:=λa=>c.S a\/a∈c.kid i,st:=c.st.set i (some (.own,u))}:=by
 have EE:i<c.st.length:=(List.getElem?_eq_some_iff.mp hi).1;have rd:=ok.dd.kd i u r hi hv;have fr:=bU.fr rd;have mem:∀a,(a=r\/a∈c.kid i)->c.RD i a:=λa z=>⟨u,r,hi,hv,z⟩
 have up:Mv c.S c.H (λa=>c.S a\/a∈c.kid i) c.H:=.up λa=>.inl;have RL:Mv (PS C c.S) c.H (PS C λa=>c.S a\/a∈c.kid i) c.H:=.up λa z=>z.imp id .inl;have LR:r∉c.kid i/\dg C (λa=>c.S a\/a∈c.kid i) c.H r u:=by
  cases u<;>first|exact rd.elim|skip
  obtain⟨kvs,h1,h2,h3,h4,h5,h6⟩:=rd;refine⟨(List.nodup_cons.mp h4).1,kvs,h1,h2,?_⟩;rw[h3];exact h6.rep (λa=>.inl) λa ha=>.inr ha
 have DY:∀(j:Nat) k w,(c.st.set i (some (.own,u)))[j]?=some (some (k,w))->j≠i->c.st[j]?=some (some (k,w)):=λj k w e ne=>by rw[List.getElem?_set_ne (Ne.symm ne)]at e;exact e
 have b1:∀a,({c with S:=λa=>c.S a\/a∈c.kid i,st:=c.st.set i (some (.own,u))}:Cf).R1 a->c.R1 a\/a=r:=λa DP=>by
  obtain⟨j,k,w,hk,e1,e2⟩:=DP;by_cases hj:j=i
  ·subst hj;have Fg:c.σ[j]?=some (some (.ref a)):=e2;rw[hv]at Fg;cases Fg;exact .inr rfl
  ·exact .inl ⟨j,k,w,hk,DY j k w e1 hj,e2⟩
 have bD:∀j a,({c with S:=λa=>c.S a\/a∈c.kid i,st:=c.st.set i (some (.own,u))}:Cf).RD j a->j≠i/\c.RD j a:=λj a DP=>by
  obtain⟨w,r',e1,e2,e3⟩:=DP;by_cases hj:j=i
  ·subst hj;rw[List.getElem?_set_self EE]at e1;cases e1
  ·exact⟨hj,w,r',DY j _ w e1 hj,e2,e3⟩
 refine⟨⟨ok.same,λa z=>?_,ok.par,ok.io,by simp[ok.len],λj k w e=>?_,λj1 j2 k1 k2 w1 w2 r' h1 h2 e1 e2 e3 e4=>?_,⟨λj w r' e1 e2=>?_,λj1 j2 a z1 z2=>ok.dd.dj j1 j2 a (bD j1 a z1).2 (bD j2 a z2).2,λj a z1 z2=>?_⟩⟩,⟨⟨n.keep,n.there,λa z=>?_,λa z=>.inl (n.sub a z),λa z=>?_⟩,n.all⟩⟩
 ·rcases z with z|z
  ·exact ok.Fp a z
  ·obtain⟨o,ho,_⟩:=bU.there rd a (List.mem_cons_of_mem _ z);exact⟨(fr a (List.mem_cons_of_mem _ z)).2.2,o,ho⟩
 ·by_cases hj:j=i
  ·subst hj;rw[List.getElem?_set_self EE]at e;cases e;obtain⟨q1,q2,q3⟩:=fr r (List.mem_cons_self ..);exact⟨.ref r,hv,r,rfl,λz=>z.elim q1 LR.1,q2,q3,LR.2⟩
  ·obtain⟨v,e1,e2⟩:=ok.sl j k w (DY j k w e hj);refine⟨v,e1,e2.mv up RL λhk r' er=>?_⟩;obtain⟨Kw,ER,z1,_⟩:=e2.rt hk;rw[er]at ER;cases ER;exact⟨λz=>z.elim z1 λz=>ok.dd.d1 i r' (mem r' (.inr z)) ⟨j,k,w,hk,DY j k w e hj,by rw[e1,er]⟩,λo q=>q⟩
 ·by_cases JC:j1=i
  ·by_cases IW:j2=i
   ·rw[JC,IW]
   ·subst JC;have HX:c.σ[j1]?=some (some (.ref r')):=e3;rw[hv]at HX;cases HX;exact(ok.dd.d1 j1 r (mem r (.inl rfl)) ⟨j2,k2,w2,h2,DY j2 k2 w2 e2 IW,e4⟩).elim
  ·by_cases IW:j2=i
   ·subst IW;have Po:c.σ[j2]?=some (some (.ref r')):=e4;rw[hv]at Po;cases Po;exact(ok.dd.d1 j2 r (mem r (.inl rfl)) ⟨j1,k1,w1,h1,DY j1 k1 w1 e1 JC,e3⟩).elim
   ·exact ok.inj j1 j2 k1 k2 w1 w2 r' h1 h2 (DY j1 k1 w1 e1 JC) (DY j2 k2 w2 e2 IW) e3 e4
 ·by_cases hj:j=i
  ·subst hj;rw[List.getElem?_set_self EE]at e1;cases e1
  ·have Er:=DY j _ w e1 hj;exact bU.mv up (λa ha=>⟨λz=>z.elim (ok.root (.inr ⟨j,w,r',Er,e2,List.mem_cons.mp ha⟩)).1 λz=>hj (ok.dd.dj j i a ⟨w,r',Er,e2,List.mem_cons.mp ha⟩ (mem a (.inr z))),λo q=>q⟩) (ok.dd.kd j w r' Er e2)
 ·obtain⟨hj,y⟩:=bD j a z1;rcases b1 a z2 with z|z
  ·exact ok.dd.d1 j a y z
  ·subst z;exact hj (ok.dd.dj j i a y (mem a (.inl rfl)))
 ·rcases z with z|⟨j,z⟩
  ·rcases b1 a z with z|rfl
   ·exact n.roots a (.inl z)
   ·exact n.roots a (.inr ⟨i,mem a (.inl rfl)⟩)
  ·exact n.roots a (.inr ⟨j,(bD j a z).2⟩)
 ·rcases z with z|z
  ·exact n.new a z
  ·rcases n.roots a (.inr ⟨i,mem a (.inr z)⟩) with y|y
   ·exact .inr (.inl y)
   ·exact .inr (.inr y)
theorem yl(hN:X.N[i]?=some x)(hv:Fm X.env.scope x)(hd:(x==("__debug__":Str))=false)(Ed:(x==("__classdict__":Str))=false):PE X (.Name x pos) (DH C (vf i)):=by
 have Nz:=mS (C:=C) (pos:=pos) hN hv hd Ed;rintro pins s σ H Q I ⟨c0,rfl,rfl,ok,r,st',e,h⟩;unfold vf at e;split at e
 ·rename_i u hs;cases e;obtain⟨v,e1,r',rfl⟩:=ok.sl i _ _ hs;obtain⟨DQ,n'⟩:=ok.Ce (Nx.refl c0) hs e1;have EE:i<c0.st.length:=(List.getElem?_eq_some_iff.mp hs).1;exact cn hN hv hd Ed pins s c0.σ c0.H Q I ⟨.ref r',e1,h {c0 with S:=λa=>c0.S a\/a∈c0.kid i,st:=c0.st.set i (some (.own,u))} (.ref r') rfl rfl DQ n' ⟨⟨.own,rfl,List.getElem?_set_self EE⟩,e1⟩⟩
 ·exact Nz pins s c0.σ c0.H Q I ⟨c0,rfl,rfl,ok,r,st',e,h⟩
end
section
theorem Ok.Cg(ok:Ok C c)(hi:c.st[i]?=some (some (.own,u)))(hv:c.σ[i]?=some (some (.ref r))):Ok C {c with H:=upd c.H r o',st:=c.st.set i none}/\Ns c {c with H:=upd c.H r o',st:=c.st.set i none}/\¬({c with H:=upd c.H r o',st:=c.st.set i none}:Cf).R r:=by
 have EE:i<c.st.length:=(List.getElem?_eq_some_iff.mp hi).1;have IU:c.R1 r:=⟨i,.own,u,rfl,hi,hv⟩
 obtain⟨z1,z2,z3,o,z4,z5⟩:=ok.root (.inl IU);have h0:C.H₀ r=none:=by
  obtain⟨v,e1,r',er,_,_,q,_⟩:=ok.sl i _ _ hi;rw[hv]at e1;cases e1;cases er;exact q
 have DY:∀(j:Nat) k w,(c.st.set i none)[j]?=some (some (k,w))->j≠i/\c.st[j]?=some (some (k,w)):=λj k w e=>by
  by_cases hj:j=i
  ·subst hj;rw[List.getElem?_set_self EE]at e;cases e
  ·rw[List.getElem?_set_ne (Ne.symm hj)]at e;exact⟨hj,e⟩
 have b1:∀a,({c with H:=upd c.H r o',st:=c.st.set i none}:Cf).R1 a->c.R1 a/\a≠r:=λa DP=>by
  obtain⟨j,k,w,hk,e1,e2⟩:=DP;obtain⟨ne,Er⟩:=DY j k w e1;refine⟨⟨j,k,w,hk,Er,e2⟩,λz=>?_⟩;subst z;exact ne (ok.inj j i k .own w u a hk rfl Er hi e2 hv)
 have bD:∀j a,({c with H:=upd c.H r o',st:=c.st.set i none}:Cf).RD j a->c.RD j a:=λj a ⟨w,r',e1,e2,e3⟩=>⟨w,r',(DY j _ w e1).2,e2,e3⟩
 have nD:∀j a,c.RD j a->a≠r:=λj a z e=>by subst e;exact ok.dd.d1 j a z IU
 have mv:∀S:Addr->Prop,¬S r->Mv S c.H S (upd c.H r o'):=λS hS=>⟨λa z=>z,λa ob e tp=>by
  have:a≠r:=λz=>by subst z;rw[z4]at e;cases e;exact z5 tp
  rw[aj this];exact e,λa ob z e=>by
  have:a≠r:=λy=>by subst y;exact hS z
  rw[aj this];exact e⟩
 have hP:¬PS C c.S r:=λz=>z.elim z2 z1;refine⟨⟨λa ob e Ly=>?_,λa z=>?_,ok.par,λa z=>?_,by simp[ok.len],λj k w e=>?_,λj1 j2 k1 k2 w1 w2 r' h1 h2 e1 e2 e3 e4=>ok.inj j1 j2 k1 k2 w1 w2 r' h1 h2 (DY _ _ _ e1).2 (DY _ _ _ e2).2 e3 e4,?_⟩,⟨λa ob e hR=>?_,λa ob e=>?_,λa z=>?_,λa z=>z,λa z=>.inl z⟩,λz=>?_⟩
 ·have:a≠r:=λy=>by subst y;rw[h0]at e;cases e
  show upd c.H r o' a=_;rw[aj this];exact ok.same a ob e Ly
 ·obtain⟨q1,ob,q2⟩:=ok.Fp a z;have:a≠r:=λy=>by subst y;exact z1 z
  exact⟨q1,ob,by show upd c.H r o' a=_;rw[aj this];exact q2⟩
 ·obtain⟨⟨ob,q1⟩,RM,q2⟩:=ok.io a z;have:a≠r:=λy=>by subst y;rw[h0]at q1;cases q1
  exact⟨⟨ob,q1⟩,RM,by show upd c.H r o' a=_;rw[aj this];exact q2⟩
 ·obtain⟨ne,e'⟩:=DY j k w e;obtain⟨v,e1,e2⟩:=ok.sl j k w e';refine⟨v,e1,e2.mv (mv _ z1) (mv _ hP) λhk r' er=>?_⟩;obtain⟨Kw,ER,y1,_⟩:=e2.rt hk;rw[er]at ER;cases ER;have:r'≠r:=λy=>by subst y;exact ne (ok.inj j i k .own w u r' hk rfl e' hi (by rw[e1,er]) hv)
  exact⟨y1,λob q=>by show upd c.H r o' r'=_;rw[aj this];exact q⟩
 ·exact ok.dd.of rfl (λj w e=>⟨(DY j _ w e).2,rfl⟩) (λa z=>.inl (b1 a z).1) (mv _ z1) λj a z=>⟨(ok.root (.inr ⟨j,z⟩)).1,λob q=>by show upd c.H r o' a=_;rw[aj (nD j a z)];exact q⟩
 ·have:a≠r:=λy=>by subst y;exact hR (.inl IU)
  show upd c.H r o' a=_;rw[aj this];exact e
 ·by_cases ha:a=r
  ·subst ha;exact⟨o',aq⟩
  ·exact⟨ob,by show upd c.H r o' a=_;rw[aj ha];exact e⟩
 ·rcases z with z|⟨j,z⟩
  ·exact .inl (.inl (b1 a z).1)
  ·exact .inl (.inr ⟨j,bD j a z⟩)
 ·rcases z with z|⟨j,z⟩
  ·exact(b1 r z).2 rfl
  ·exact nD j r (bD j r z) rfl
theorem vH(hH:c.H r=some (.EJ o (.dK kvs)))(hR:¬c.R r)(ok:Ok C c)(hk:kvs.map (·.1)=ks.map Sum.inr)(hr:ai C c.S c.H us (kvs.map (·.2))):Walk C c [] (mP (ks,us)) (M8 r o kvs):=by
 intro c' DQ n hf hs;have h1:=n.keep r _ hH hR;have h2:=hr.mv (ok.mv n);have l1:kvs.length=ks.length:=by rw[<-List.length_map (f:=(·.1)),hk,List.length_map]
 have l2:us.length=kvs.length:=by rw[h2.len,List.length_map]
 have l3:(mP (ks,us)).length=kvs.length:=by
  unfold mP;rw[List.length_map,List.length_zip];show min ks.length us.length=_;omega
 refine⟨λi q hq=>?_,λi hi=>⟨h1,by omega⟩⟩;unfold mP at hq;rw[List.getElem?_map,Option.map_eq_some_iff]at hq;obtain⟨p,hp,rfl⟩:=hq;obtain⟨hu,hw⟩:=List.getElem?_zip_eq_some.mp hp;obtain⟨v,hv,rep⟩:=h2.get hw;have hi:i<kvs.length:=by
  have:i<ks.length:=(List.getElem?_eq_some_iff.mp hu).1;omega
 have Lw:kvs[i]?=some (Sum.inr p.1,v):=by
  rw[List.getElem?_map,List.getElem?_eq_getElem hi]at hv;have e1:(kvs.map (·.1))[i]?=(ks.map Sum.inr)[i]?:=by rw[hk]
  rw[List.getElem?_map,List.getElem?_map,List.getElem?_eq_getElem hi,hu]at e1;rw[List.getElem?_eq_getElem hi];simp only[Option.map_some,Option.some.injEq]at e1 hv;rw[<-e1,<-hv]
 refine⟨.inl rfl,⟨h1,hi⟩,λx H' hy=>?_⟩;obtain⟨q,RN,rfl,hy⟩:=hy;have HS:=hy _ _ Lw;subst HS;obtain⟨D0,n2⟩:=DQ.lay (o:=.tup [kV (Sum.inr p.1),v]) RN;refine⟨{c' with H:=upd c'.H q (.tup [kV (Sum.inr p.1),v])},rfl,rfl,rfl,D0,n2,?_⟩;have r2:ai C c'.S c'.H [.str p.1,p.2] [kV (Sum.inr p.1),v]:=⟨_,_,rfl,rfl,_,_,rfl,rep,rfl⟩
 exact⟨q,_,rfl,D3.of aq,r2.mv (DQ.mv n2)⟩
theorem AW(hN:X.N[i]?=some x)(hv:Fm X.env.scope x)(hd:(x==("__debug__":Str))=false)(Ed:(x==("__classdict__":Str))=false)(D4:(apos.endLine==Dx.line)=true)
  (S:da X N own scope) (hc:X.calm=true) (hl:own.length=2) (hg:∀D s H ex,PG (Et X N scope D s H ex) (.Tuple es kx ps) (tG C true (List.range own.length))) (he:∀D s H ex,PE (Et X N scope D s H ex) elt (DH C me)) :
  L2.PS X (.Return (some (.ListComp elt [⟨.Tuple es kx ps,.Call (.Attribute (.Name x px) "items" apos) [] [] Dx,[],0⟩] scope pos)) RP) (Eo C ns (oE i >>= λd=>bq 2 true (pure true) me [] (mP d) [] >>= λus=>retS (.own,.lst us))):=by
 refine PS.weak (ue (Ai (qX S hc (u9 hN hv hd Ed D4) hg (λD s H ex=>show G3 _ [] (EH C (pure true)) from λpins s σ H Q I ⟨c0,e1,e2,ok,w⟩=>mD pins s σ H Q I (by subst e1 e2;rw[ah]at w;exact w c0 rfl rfl ok (Nx.refl c0))) he))) ?_;rintro D σ H ⟨c0,rfl,rfl,ok,h⟩;rw[ae]at h;obtain⟨d,st',e,h⟩:=h;unfold oE at e;split at e
 rotate_left
 ·cases e
 rename_i ks us hi;cases e;obtain⟨v,e1,r,er⟩:=ok.sl i _ _ hi;subst er;obtain⟨kvs,g1,g2,g3,g4,g5,g6⟩:=ok.dd.kd i _ r hi e1;refine⟨r,kvs,g1,λo=>?_⟩;obtain⟨DK,n1⟩:=Ok.Ce ok (Nx.refl c0) hi e1;have EE:i<c0.st.length:=(List.getElem?_eq_some_iff.mp hi).1;obtain⟨D0,n2,nR⟩:=Ok.Cg (o':=.EJ o (.dK kvs)) DK (i:=i) (u:=.Dy ks us) (r:=r) (by show(c0.st.set i _)[i]?=_;rw[List.getElem?_set_self EE]) e1;let c2:Cf:={S:=λa=>c0.S a\/a∈c0.kid i,H:=upd c0.H r (.EJ o (.dK kvs)),σ:=c0.σ,st:=c0.st.set i none,kid:=c0.kid}
 have Np:(c0.st.set i (some (Kd.own,U.Dy ks us))).set i none=c0.st.set i none:=by rw[List.set_set]
 have ec:({ ({c0 with S:=λa=>c0.S a\/a∈c0.kid i,st:=c0.st.set i (some (.own,.Dy ks us))}:Cf) with H:=upd c0.H r (.EJ o (.dK kvs)),st:=(c0.st.set i (some (Kd.own,U.Dy ks us))).set i none}:Cf)=c2:=by rw[Np]
 have IX:Ok C c2:=ec▸D0;have RQ:Ns c0 c2:=n1.toNs.trans (ec▸n2);have RS:¬c2.R r:=ec▸nR;have E1:ai C c2.S c2.H us (kvs.map (·.2)):=by
  rw[g3];have:=(cQ.rep (S':=c2.S) (λa=>.inl) (λa ha=>.inr ha) g6).mv (show Mv c2.S c0.H c2.S c2.H from⟨λa z=>z,λa ob q tp=>?_,λa ob z q=>?_⟩)
  ·exact this
  ·have:a≠r:=λy=>by subst y;rw[g1]at q;cases q;exact tp
   show upd c0.H r _ a=_;rw[aj this];exact q
  ·have:a≠r:=λy=>by
    subst y;rcases z with z|z
    ·exact(g5 a (by simp)).1 z
    ·exact(List.nodup_cons.mp g4).1 z
   show upd c0.H r _ a=_;rw[aj this];exact q
 refine⟨r,o,kvs,e1,aq,?_⟩;rw[hl];refine lH (c0:=c2) (c1:=c2) (rs:=[]) (xs:=mP (ks,us)) rfl IX (Nx.refl c2) (vH aq RS IX g2 E1) ?_;rw[ae]at h;refine h.mono λvs st2 w=>?_;rw[show retS (.own,.lst vs)=pure (.rt .own (.lst vs)) from rfl,ah]at w;rw[ah];intro c v hσ DJ DZ n rt;obtain⟨r0,e,h1,h2,h3,h4⟩:=rt;exact w c DJ DZ (RQ.trans n.toNs) (Kept.of hσ) v ⟨r0,e,(IX.jO h1).1,h2,h3,h4⟩
end
section
theorem fq{st:au}(h:W (fy i) st Q):∃ks us,st[i]?=some (some (.Dw,.Dy ks us))/\Q (ks,us) st:=by
 obtain⟨r,st',e,q⟩:=h;unfold fy at e;split at e
 ·rename_i ks us hs;cases e;exact⟨ks,us,hs,q⟩
 ·cases e
theorem ft{st:au}(h:W (gD x) st Q):∃y,x.2=.str y/\Q y st:=by
 unfold gD at h;split at h
 ·rename_i y e;rw[ah]at h;exact⟨y,e,h⟩
 ·exact(aA.mp h).elim
theorem Ok.Dy(ok:Ok C c)(hi:c.st[i]?=some (some (.Dw,.Dy ks us))):∃(r:Addr) (kvs:List (Key×V)),c.σ[i]?=some (some (.ref r))/\c.H r=some (.dK kvs)/\kvs.map (·.1)=ks.map Sum.inr/\kvs.map (·.2)=(c.kid i).map V.ref /\
  (r::c.kid i).Nodup/\cQ C c.S c.H us (c.kid i)/\(∀y:Str,(cX kvs (Sum.inr y)).isSome=decide (y∈ks))/\∀(y:Str) (u:U),cY ks us y=some u->∃v,cX kvs (Sum.inr y)=some v/\Rep C (λa=>c.S a\/a∈c.kid i) c.H u v:=by
 obtain⟨v,e,r,rfl⟩:=ok.sl i _ _ hi;obtain⟨kvs,h1,h2,h3,h4,h5,h6⟩:=ok.dd.kd i _ r hi e;have hr:ai C (λa=>c.S a\/a∈c.kid i) c.H us (kvs.map (·.2)):=by rw[h3];exact h6.rep (λa=>.inl) λa ha=>.inr ha
 exact⟨r,kvs,e,h1,h2,h3,h4,h6,λy=>(c8 (x:=y) h2 hr).2,λy=>(c8 (x:=y) h2 hr).1⟩
theorem gL{k:Str->List Str×List U->M β}{DL:β->au->Prop}{Z:V->V->Hp->Prop}(ok:Ok C c0)(h:W (ma >>= λx=>gD x >>= λy=>fy i >>= λd=>k y d) c0.st DL)
  (hz:∀(c:Cf) (y:Str) (ks:List Str) (us:List U) (r:Addr) (kvs:List (Key×V)),c.σ=c0.σ->Ok C c->Nx c0 c->c.H r=some (.dK kvs)->(cX kvs (Sum.inr y)).isSome=decide (y∈ks)->W (k y (ks,us)) c.st DL->Z (.str y) (.ref r) c.H) :
  DH C ma c0.σ c0.H λv H1=>∃v',c0.σ[i]?=some (some v')/\Z v v' H1:=by
 refine⟨c0,rfl,rfl,ok,?_⟩;rw[ae]at h;refine W.mono h λx st' w c v hσ hs DQ n r=>?_;subst hs;obtain⟨kx,ux⟩:=x;rw[ae]at w;obtain⟨y,e,w1⟩:=ft w;clear w
 dsimp only at e r
 subst e;have ev:v=.str y:=r.str DQ;subst ev;rw[ae]at w1;obtain⟨ks,us,hs,w⟩:=fq w1;obtain⟨r',kvs,e1,h1,_,_,_,_,h2,_⟩:=DQ.Dy hs;exact⟨.ref r',by rw[<-hσ];exact e1,hz c y ks us r' kvs hσ DQ n h1 (h2 y) w⟩
noncomputable def vI(neg:Bool):CmpOp:=if neg=true then .NotIn else .In
theorem ym(hu:X.A.units+60<cLine)(hN:X.N[i]?=some x)(hv:Fm X.env.scope x)(hd:(x==("__debug__":Str))=false)(Ed:(x==("__classdict__":Str))=false)(ha:PE X a (DH C ma))(hm:behindInMarks (vI neg) (.Name x p2)=false):
  PE X (.Compare a [vI neg] [.Name x p2] pos) (DH C (ma >>= λx=>gD x >>= λy=>fy i >>= λd=>pure (.loc,.bl (Ku neg y d.1)))):=by
 rintro pins s σ H Q I ⟨c0,rfl,rfl,ok,h⟩;cases neg with
 |false =>
  refine t_ (uB (by omega) ha (cn hN hv hd Ed)) hm pins s c0.σ c0.H Q I (gL ok h λc y ks us r kvs hσ DZ n h1 h2 w=>?_);rw[ah]at w;refine⟨r,_,rfl,dC.k (k:=Sum.inr y) h1,?_⟩;rw[h2];exact w c (.bl _) hσ rfl DZ n rfl
 |true =>
  refine t_ (ll (by omega) ha (cn hN hv hd Ed)) hm pins s c0.σ c0.H Q I (gL ok h λc y ks us r kvs hσ DZ n h1 h2 w=>?_);rw[ah]at w;refine⟨r,_,rfl,dC.k (k:=Sum.inr y) h1,?_⟩;rw[h2];exact w c (.bl _) hσ rfl DZ n rfl
theorem AX(EX:∀j,ns j=true->j≠i)(hN:X.N.Nodup)(hi:X.N[i]?=some x)(hx:Loc X.env.scope x)(hf:X.fn x=true\/X.env.scope.names.lookup x=some .local)
  (hs:swapsWith (.Dict [] [] p) (some (.Name x pos')) pos.line X.env=pure false):L2.PS X (.Assign [.Name x pos'] (.Dict [] [] p) pos) (Eo C ns (y7 i >>= λ_=>pure .nx)):=by
 rintro pins s σ H D I ⟨c0,rfl,rfl,ok,h⟩;have EE:i<c0.σ.length:=by rw[I.len];exact(List.getElem?_eq_some_iff.mp hi).1
 refine uh hN hi hx nX hs hf pins s c0.σ c0.H D I λq hq=>?_;obtain⟨DQ,n'⟩:=ok.newD hq EE;rw[ae]at h;obtain⟨_,st',e,w⟩:=h;cases e;rw[ah]at w;exact w _ rfl DQ n' ⟨λj hj=>List.getElem?_set_ne (Ne.symm (EX j hj)),by simp⟩
end
section
theorem yn(hu:X.A.units+60<cLine)(hN:X.N[i]?=some x)(hv:Fm X.env.scope x)(hd:(x==("__debug__":Str))=false)(Ed:(x==("__classdict__":Str))=false)(ha:PE X a (DH C ma))(hm:behindInMarks (vI neg) (.Name x p2)=false):
  PT X (.Compare a [vI neg] [.Name x p2] pos) (EH C (ma >>= λx=>gD x >>= λy=>fy i >>= λd=>pure (Ku neg y d.1))):=by
 rintro pins s σ H Q I ⟨c0,rfl,rfl,ok,h⟩;cases neg with
 |false =>
  refine ua (uB (by omega) ha (cn hN hv hd Ed)) hm pins s c0.σ c0.H Q I (gL (Z:=λy x H2=>∃a o,x=V.ref a/\dC H2 a y o/\∃b,V.bl o.isSome=.bl b/\Q b H2) ok h λc y ks us r kvs hσ DZ n h1 h2 w=>?_);rw[ah]at w;refine⟨r,_,rfl,dC.k (k:=Sum.inr y) h1,?_⟩;rw[h2];exact⟨_,rfl,w c hσ rfl DZ n⟩
 |true =>
  refine ua (ll (by omega) ha (cn hN hv hd Ed)) hm pins s c0.σ c0.H Q I (gL (Z:=λy x H2=>∃a o,x=V.ref a/\dC H2 a y o/\∃b,V.bl (!o.isSome)=.bl b/\Q b H2) ok h λc y ks us r kvs hσ DZ n h1 h2 w=>?_);rw[ah]at w;refine⟨r,_,rfl,dC.k (k:=Sum.inr y) h1,?_⟩;rw[h2];exact⟨_,rfl,w c hσ rfl DZ n⟩
theorem cQ.snoc{S:Addr->Prop}{a:Addr}(h1:H a=some (.lst vs))(h2:ai C S H ys vs):∀{us:List U}{as:List Addr},cQ C S H us as->cQ C S H (us++[.lst ys]) (as++[a])
 |[],as,h=>by cases h;exact⟨a,[],ys,vs,rfl,rfl,h1,h2,rfl⟩
 |u::us,as,h=>by
  obtain⟨a',as',E3,DI,rfl,e,g1,g2,g3⟩:=h;exact⟨a',as'++[a],E3,DI,rfl,e,g1,g2,cQ.snoc h1 h2 g3⟩
theorem qj{st:au}(h:W (jQ i y r) st Q):∃us ks vs,r=(.own,.lst us)/\st[i]?=some (some (.Dw,.Dy ks vs))/\y∉ks/\ks.length<sizeLine/\Q () (st.set i (some (.Dw,.Dy (ks++[y]) (vs++[.lst us])))):=by
 obtain⟨k,u⟩:=r;cases k<;>cases u<;>first|exact(aA.mp h).elim|skip
 rename_i us;obtain⟨_,st',e,q⟩:=h;unfold jQ at e
 dsimp only at e
 split at e
 ·rename_i ks vs hs;split at e
  ·rename_i hz;cases e;exact⟨us,ks,vs,rfl,hs,hz.1,hz.2,q⟩
  ·cases e
 ·cases e
theorem AY{i:Nat}{x:Str}{px:Pos}(hu:X.A.units+60<cLine)(hN:X.N[i]?=some x)(hv:Fm X.env.scope x)(hd:(x==("__debug__":Str))=false)(Ed:(x==("__classdict__":Str))=false)
  (ha:PE X a (DH C ma)) (hb:PE X b (DH C mb)) (hs:swapsWithSole [.Subscript (.Name x px) b p] a pos.line X.env=pure false) (G_:swappedStores [.Subscript (.Name x px) b p] a X.env=pure none)
  (has:∀v,assign (.Subscript (.Name x px) b p) X.env v=(do
   let ov <-holding [v] (eval (.Name x px) X.env)
   let iv <-holding [v,ov] (eval b X.env)
   standAt p
   holding [v,ov,iv] (setItem ov iv v)
   release [v,ov,iv] [])) :
  L2.PS X (.Assign [.Subscript (.Name x px) b p] a pos) (Eo C ns (ma >>= λr=>fy i >>= λ_=>mb >>= λx=>gD x >>= λy=>jQ i y r >>= λ_=>pure .nx)):=by
 refine PS.weak (pI ha (ug (cn hN hv hd Ed) hb (set_dict (X:=X) (by omega)) has) hs G_ rfl) ?_;rintro D σ H ⟨c0,rfl,rfl,ok,h⟩;refine aF ok h λr c v t w=>?_;rw[ae]at w;obtain⟨Pp,NA,EC,w⟩:=fq w;obtain⟨r0,IY,e0,g0,_⟩:=t.ok.Dy EC;refine⟨.ref r0,by rw[<-t.hσ];exact e0,?_⟩;rw[ae]at w;refine⟨c,t.hσ,rfl,t.ok,w.mono λy st2 w2 c2 vy e3 e4 D0 n2 r2=>?_⟩;subst e4;rw[ae]at w2;obtain⟨ky,uy⟩:=y;obtain⟨y,ey,w3⟩:=ft w2
 dsimp only at ey r2
 subst ey;have ev:vy=.str y:=r2.str D0;subst ev;rw[ae]at w3;obtain⟨us,ks,vs,er,E9,Lk,hlen,q⟩:=qj w3;subst er;rw[ah]at q;obtain⟨r1,kvs,f1,g1,g2,g3,g4,g5,g6,_⟩:=D0.Dy E9;have er:r1=r0:=by rw[e3,<-t.hσ,e0]at f1;cases f1;rfl
 subst er;obtain⟨r',rfl,k1,k2,k3,DI,k4,k5⟩:=t.rx.w.on t.ok n2.toNs (e3.trans t.hσ.symm);have Nv:=t.nx.trans n2;have hl:kvs.length=ks.length:=by have:=congrArg List.length g2;simpa using this
 have GS:cX kvs (Sum.inr y)=none:=by
  have:=g6 y;rw[decide_eq_false Lk]at this;cases hq:cX kvs (Sum.inr y) with
  |none=>rfl
  |some _=>rw[hq]at this;cases this
 refine⟨r1,_,rfl,sG.k (k:=Sum.inr y) g1 (by rw[hl];exact hlen),?_⟩;rw[uA _ GS];have LR:r'∉c2.kid i:=λz=>k3 (.inr ⟨i,_,_,E9,f1,.inr z⟩);have Pq:r'≠r1:=λz=>k3 (.inr ⟨i,_,_,E9,f1,.inl z⟩);have rd:=D0.dd.kd i _ _ E9 f1;have fr:=bU.fr rd;obtain⟨Fy,n3⟩:=Ok.Cd (H':=upd c2.H r1 (.dK (kvs++[(Sum.inr y,.ref r')]))) (u':=.Dy (ks++[y]) (vs++[.lst us])) (as':=c2.kid i++[r']) D0 Nv.toNs E9 f1
  (λa ne=>aj λz=>ne ⟨_,_,E9,f1,.inl z⟩) (λa o e=>by
   by_cases hz:a=r1
   ·subst hz;exact⟨_,aq⟩
   ·rw[aj hz];exact⟨o,e⟩)
  (λmv=>by
   refine⟨_,aq,by rw[List.map_append,g2,List.map_append];rfl,by rw[List.map_append,g3,List.map_append];rfl,?_,λa ha=>?_,?_⟩
   ·rw[<-List.cons_append,List.nodup_append];exact⟨g4,by simp,λa ha b hb=>by
     have:b=r':=by simpa using hb
     subst this;rintro rfl;rcases List.mem_cons.mp ha with z|z
     ·exact Pq z
     ·exact LR z⟩
   ·rw[<-List.cons_append]at ha;rcases List.mem_append.mp ha with ha|ha
    ·exact fr a ha
    ·have:a=r':=by simpa using ha
     subst this;obtain⟨z1,_,z3,_⟩:=ok.jO k1;exact⟨k2,z3,z1⟩
   ·exact cQ.snoc (by rw[aj Pq];exact k4) (k5.mv mv) (cQ.mv mv (λa ha o e=>by
     rw[aj (λz=>(List.nodup_cons.mp g4).1 (by rw[<-z];exact ha))];exact e) g5))
  (λa ha=>by
   rcases List.mem_append.mp ha with ha|ha
   ·exact .inl ha
   ·have:a=r':=by simpa using ha
    subst this;exact .inr ⟨k3,k1⟩)
 have z:=q _ rfl Fy n3 (Kept.of e3);rw[<-e3];exact z
theorem cQ.at{S:Addr->Prop}:∀{ks:List Str}{us:List U}{as:List Addr}{kvs:List (Key×V)}{u:U},kvs.map (·.1)=ks.map Sum.inr->kvs.map (·.2)=as.map V.ref->as.Nodup->cQ C S H us as->cY ks us y=some u ->
  ∃a ws ys,cX kvs (Sum.inr y)=some (.ref a)/\a∈as/\u=.lst ys/\H a=some (.lst ws)/\ai C S H ys ws/\∀(H':Hp) (E3:List U) (JD:List V),Mv S H S H'->H' a=some (.lst JD)->ai C S H' E3 JD->(∀b∈as,b≠a->H' b=H b)->cQ C S H' (ic ks us y (.lst E3)) as
 |[],us,as,kvs,u,_,_,_,_,h=>by cases us<;>cases h
 |k::ks,[],as,kvs,u,_,_,_,_,h=>by cases h
 |k::ks,u0::us,as,kvs,u,h1,h2,hn,hk,h=>by
  obtain⟨a,as',ys,ws,rfl,rfl,g1,g2,g3⟩:=hk;cases kvs with
  |nil=>simp at h1
  |cons p kvs =>
   rw[List.map_cons,List.map_cons,List.cons.injEq]at h1 h2;rw[List.nodup_cons]at hn;by_cases hy:k=y
   ·subst hy;simp only[cY,if_true]at h;cases h;refine⟨a,ws,ys,by rw[dH h1.1,h2.1],by simp,rfl,g1,g2,λH' E3 JD mv e1 e2 e3=>?_⟩;simp only[ic,if_true];exact⟨a,as',E3,JD,rfl,rfl,e1,e2,cQ.mv mv (λb hb o e=>by rw[e3 b (by simp[hb]) (λz=>hn.1 (z▸hb))];exact e) g3⟩
   ·simp only[cY,if_neg hy]at h;obtain⟨a1,RT,RU,f1,f2,f3,f4,f5,f6⟩:=cQ.at h1.2 h2.2 hn.2 g3 h;refine⟨a1,RT,RU,?_,by simp[f2],f3,f4,f5,λH' E3 JD mv e1 e2 e3=>?_⟩
    ·rw[dI (by rw[h1.1];intro z;exact hy (Sum.inr.inj z))];exact f1
    ·simp only[ic,if_neg hy];have ha:a≠a1:=λz=>hn.1 (z▸f2);exact⟨a,as',ys,ws,rfl,rfl,by rw[e3 a (by simp) ha];exact g1,g2.mv mv,f6 H' E3 JD mv e1 e2 λb hb=>e3 b (by simp[hb])⟩
theorem qk{st:au}(h:W (jR i y u) st Q):∃ks vs xs,st[i]?=some (some (.Dw,.Dy ks vs))/\cY ks vs y=some (.lst xs)/\xs.length<sizeLine/\Q () (st.set i (some (.Dw,.Dy ks (ic ks vs y (.lst (xs++[u])))))):=by
 obtain⟨_,st',e,q⟩:=h;unfold jR at e;split at e
 ·rename_i ks vs hs;split at e
  ·rename_i xs hx;split at e
   ·rename_i hz;cases e;exact⟨ks,vs,xs,hs,hx,hz,q⟩
   ·cases e
  ·cases e
 ·cases e
theorem AZ(hK:C.K=X.K)(hu:X.A.units+60<cLine)(hN:X.N[i]?=some x)(hv:Fm X.env.scope x)(hd:(x==("__debug__":Str))=false)(Ed:(x==("__classdict__":Str))=false)(ha:PE X a (DH C ma))(hb:PE X b (DH C mb))(KD:zV b)
  (EL:((backTo Dx (starEach [a] X.env)).all (λx=>!x.1)&&(backToKw Dx (keywordEach [] X.env)).all (λx=>x.1.isSome)
   && decide ([a].length+([]:List Keyword).length+(if ([]:List Keyword).isEmpty then 0 else 1)<30))=true)
  (D4:(apos.endLine==Dx.line)=true) (DJ:starEach [a] X.env=[(false,eval a X.env)]) :
  L2.PS X (.Expr (.Call (.Attribute (.Subscript (.Name x px) b p) "append" apos) [a] [] Dx) pos) (Eo C ns (fy i >>= λ_=>mb >>= λx=>gD x >>= λy=>fy i >>= λd=>if y∈d.1 then(ma >>= λr=>lift r >>= λu=>jR i y u >>= λ_=>pure .nx) else M.fail)):=by
 refine PS.weak (iZ (ur PySem.F.plainAttrs_list PySem.F.slot_list_append PySem.F.type_list_append la (xr (by omega) (cn hN hv hd Ed) hb KD) (fc ha ju DJ) rfl EL D4 DJ rfl)) ?_;rintro D σ H ⟨c0,rfl,rfl,ok,h⟩;rw[ae]at h;obtain⟨Pp,NA,EC,h⟩:=fq h;obtain⟨r0,IY,e0,g0,_⟩:=ok.Dy EC;refine⟨.ref r0,e0,?_⟩;refine aF ok h λry c vy t w=>?_;rw[ae]at w;obtain⟨ky,uy⟩:=ry;obtain⟨y,ey,w1⟩:=ft w
 dsimp only at ey
 subst ey;have ev:vy=.str y:=t.rx.str t.ok;subst ev;rw[ae]at w1;obtain⟨ks,us,hs,w2⟩:=fq w1
 dsimp only at w2
 by_cases hy:y∈ks
 case neg=>rw[if_neg hy]at w2;exact(aA.mp w2).elim
 rw[if_pos hy]at w2;obtain⟨r1,kvs,f1,g1,g2,g3,g4,g5,g6,_⟩:=t.ok.Dy hs;have er:r1=r0:=by rw[t.hσ,e0]at f1;cases f1;rfl
 subst er;have HY:=g6 y;rw[decide_eq_true hy]at HY;obtain⟨v0,LS⟩:=Option.isSome_iff_exists.mp HY;have FA:v0∈(c.kid i).map V.ref:=by
  rw[<-g3];unfold cX at LS;obtain⟨q,hq,rfl⟩:=Option.map_eq_some_iff.mp LS;exact List.mem_map_of_mem (List.mem_of_find?_eq_some hq)
 obtain⟨a1,RV,rfl⟩:=List.mem_map.mp FA;obtain⟨JE,NB⟩:=g5.mem RV;refine⟨r1,.ref a1,rfl,by rw[<-LS];exact dC.k (k:=Sum.inr y) g1,Or.inl ⟨rfl,JE,.inl (.inl NB)⟩,?_⟩;rw[<-t.hσ];refine aF t.ok w2 λr c' v t' w3=>?_;rw[ae]at w3;obtain⟨S',st',u,sS,DK,n1,rep1,w4,_,_⟩:=gH t.ok t'.ok t'.nx t'.rx.w w3;rw[ae]at w4;obtain⟨Pt,DI,xs,EG,hx,hz,q⟩:=qk w4;rw[ah]at q;obtain⟨r2,IZ,k1,k2,k3,k4,k5,k6,_,_⟩:=DK.Dy EG;have Pu:c'.σ[i]?=some (some (.ref r2)):=k1;have er:r2=r1:=by rw[t'.hσ,t.hσ,e0]at Pu;cases Pu;rfl
 subst er;have RW:c'.H r2=some (.dK IZ):=k2;have NC:IZ=kvs:=by have:=t'.nx.all _ _ g1;rw[RW]at this;cases this;rfl
 subst NC;have nd:=(List.nodup_cons.mp k5).2;obtain⟨a2,ws,ys,l1,l2,l3,l4,l5,l6⟩:=cQ.at k3 k4 nd k6 hx;cases l3;rw[LS]at l1;cases l1;have RX:c'.H a1=some (.lst ws):=l4;refine⟨a1,ws,v,rfl,rfl,RX,by rw[<-l5.len];exact hz,?_⟩;have Ej:a1≠r2:=λz=>(List.nodup_cons.mp k5).1 (z▸l2);obtain⟨D0,n2⟩:=Ok.Cd (c:={c' with S:=S',st:=st' }) (H':=upd c'.H a1 (.lst (ws++[v]))) (u':=.Dy Pt (ic Pt DI y (.lst (xs++[u])))) (as':=c'.kid i) DK (t.nx.trans n1).toNs EG k1
  (λa ne=>aj λz=>ne ⟨_,_,EG,k1,.inr (z▸l2)⟩) (λa o e=>by
   by_cases hz:a=a1
   ·subst hz;exact⟨_,aq⟩
   ·rw[aj hz];exact⟨o,e⟩)
  (λmv=>⟨IZ,by rw[aj (Ne.symm Ej)];exact k2,k3,k4,k5,bU.fr (DK.dd.kd i _ _ EG k1),l6 _ _ _ mv aq ((l5.mv mv).snoc (rep1.mv mv)) λb _ ne=>aj ne⟩)
  (λa ha=>.inl ha)
 have z:=q _ rfl D0 n2 (Kept.of (t'.hσ.trans t.hσ));rw[<-t'.hσ];exact z
end
section
theorem vJ{st:au}(h:W (Nb u) st Q):∃ks us,u=.Dy ks us/\Q () st:=by
 cases u<;>first|exact(aA.mp h).elim|skip
 exact⟨_,_,rfl,ah.mp h⟩
theorem lJ{st:au}(h:W (tq x) st Q):∃j,x.2=.int j/\Q j st:=by
 unfold tq at h;split at h
 ·rename_i y e;rw[ah]at h;exact⟨y,e,h⟩
 ·exact(aA.mp h).elim
theorem lK{st:au}(h:W (oF i) st Q):∃k us,k.root=true/\st[i]?=some (some (k,.lst us))/\Q us st:=by
 obtain⟨r,st',e,q⟩:=h;unfold oF at e;split at e
 ·rename_i k us hs;split at e
  ·rename_i hk;cases e;exact⟨k,_,hk,hs,q⟩
  ·cases e
 ·cases e
theorem oK:∀{ks:List Str}{us:List U},y∈ks->ks.length=us.length->cY ks us y=none->False
 |[],us,h,_,_=>by cases h
 |k::ks,[],_,h,_=>by simp at h
 |k::ks,u::us,h,hl,e=>by
  by_cases hk:k=y
  ·simp[cY,hk]at e
  ·simp only[cY,if_neg hk]at e;rcases List.mem_cons.mp h with h|h
   ·exact hk h.symm
   ·exact oK h (by simpa using hl) e
theorem vK{i:Nat}{x:Str}{px:Pos}(hu:X.A.units+60<cLine)(hN:X.N[i]?=some x)(hv:Fm X.env.scope x)(hd:(x==("__debug__":Str))=false)(Ed:(x==("__classdict__":Str))=false)
  (ha:PE X a (DH C ma)) (hb:PE X b (DH C mb)) (hm:M2 X (.Name x px) "get" apos a b Dx) :
  PE X (.Call (.Attribute (.Name x px) "get" apos) [a,b] [] Dx) (DH C (dn i >>= λx=>Nb x.2 >>= λ_=>ma >>= λy=>gD y >>= λy=>mb >>= λz=>lift z >>= λu=>dn i >>= λx=>M.DR (xS x y u))):=by
 rintro pins s σ H Q I ⟨c0,rfl,rfl,ok,h⟩;refine uD (by omega) (cn hN hv hd Ed) ha hb hm pins s c0.σ c0.H Q I ?_;rw[ae]at h;obtain⟨k0,u0,ND,EC,h⟩:=c9 h;obtain⟨v0,e0,t0⟩:=ok.slot ND EC;rw[ae]at h;obtain⟨Pp,NA,Pw,h'⟩:=vJ h
 dsimp only at Pw
 subst Pw;obtain⟨a0,IY,rfl,g0,_⟩:=t0.dict ok;refine⟨.ref a0,e0,a0,rfl,.inl ⟨IY,.inl g0⟩,?_⟩;refine aF ok h' λry c vy t w=>?_;rw[ae]at w;obtain⟨ky,uy⟩:=ry;obtain⟨y,ey,w1⟩:=ft w
 dsimp only at ey
 subst ey;have ev:vy=.str y:=t.rx.str t.ok;subst ev;rw[<-t.hσ];refine aF t.ok w1 λz c2 vz t2 w2=>?_;rw[ae]at w2;obtain⟨S',st',u,sS,DK,n1,rep1,w4,_,_⟩:=gH t.ok t2.ok t2.nx t2.rx.w w2;rw[ae]at w4;obtain⟨k,u1,RY,E9,w5⟩:=c9 w4;obtain⟨r,er,q⟩:=bG.mp w5;obtain⟨v1,e1,t1⟩:=DK.slot RY E9;have Er:c2.σ[i]?=some (some v1):=e1;rw[t2.hσ,t.hσ,e0]at Er;cases Er;cases u1<;>first|(simp only[xS]at er;cases er;done)|skip
 rename_i ks us;obtain⟨a1,kvs,ea,g1,g2,g3⟩:=t1.dict DK;cases ea;have LU:c2.H a0=some (.dK kvs):=g1;refine⟨_,dC.k (k:=Sum.inr y) LU,?_⟩;simp only[xS]at er;obtain⟨l1,l2⟩:=c8 (x:=y) g2 g3;have fin:∀v:V,aE C c0 {c2 with S:=S',st:=st' } r.1 r.2 v->Q v c2.H:=λv z=>q {c2 with S:=S',st:=st' } v (t2.hσ.trans t.hσ) rfl DK (t.nx.trans n1) z;cases hg:cY ks us y with
 |some w =>
  rw[hg]at er;cases er;obtain⟨v,ev,rv⟩:=l1 w hg;rw[ev];refine fin v ?_;exact aE.item (k:=if k.root=true then .bor i else k) rv
 |none =>
  rw[hg]at er;cases er;have GS:cX kvs (Sum.inr y)=none:=by
   cases hq:cX kvs (Sum.inr y) with
   |none=>rfl
   |some v =>
    exfalso
    rw[hq]at l2;have hy:y∈ks:=by simpa using l2.symm
    have hlen:ks.length=us.length:=by have h1:=congrArg List.length g2;have h2:=g3.len;simp at h1 h2;omega
    exact oK hy hlen hg
  rw[GS];exact fin vz rep1
theorem vL:Bx X (λo i H Q=>∃p xs j v,o=.ref p/\i=.int j/\H p=some (.lst xs)/\0<=j/\xs[j.toNat]?=some v/\Q v H):=by
 rintro pins s σ H o i ov iv Q I ro ri ⟨p,xs,j,v,rfl,rfl,hp,h0,hv,q⟩;cases ro;obtain⟨t,rfl⟩:=ri;obtain⟨A',r,pl,hz⟩:=I.list (.inl (.inl hp));obtain⟨w,ew,F2⟩:=r.get hv;have hl:=r.length;have hn:=eF;have DW:=(List.getElem?_eq_some_iff.mp hv).1;exact wpAny_getItem_list pl.isList h0 (by omega) (by simpa using ew) ⟨v,H,I,F2,q⟩
theorem yo:K5 X (if sub=true then .Sub else .Add) (L8 (tu sub)):=by
 cases sub with
 |true=>exact zG
 |false=>exact zF
theorem Ci(hN:X.N[i]?=some x)(hv:Fm X.env.scope x)(hd:(x==("__debug__":Str))=false)(Ed:(x==("__classdict__":Str))=false)
  (ha:PE X a (DH C ma)) (hb:PE X b (DH C mb))
  (has:∀ov iv new,augStore b ov iv new=(do holding [new,ov,iv] (setItem ov iv new);release [new,ov,iv] [];pure .next)) :
  L2.PS X (.AugAssign (.Subscript (.Name x px) b p) (if sub=true then .Sub else .Add) a pos) (Eo C ns (oF i >>= λ_=>mb >>= λy=>tq y >>= λj=>oF i >>= λus=>M.DR (oG us j) >>= λo=>ma >>= λz=>tq z >>= λw=>modS i (dF (.int j) (.int (tu sub o w))) >>= λ_=>pure .nx)):=by
 refine PS.weak (xf (cn hN hv hd Ed) hb vL ha yo set_list has) ?_;rintro D σ H ⟨c0,rfl,rfl,ok,h⟩;rw[ae]at h;obtain⟨k0,NA,KG,EC,h⟩:=lK h;obtain⟨v0,e0,FZ⟩:=ok.sl i _ _ EC;obtain⟨a0,rfl,_,_,_,_⟩:=FZ.rt KG;refine⟨.ref a0,e0,?_⟩;refine aF ok h λry c vy t w=>?_;rw[ae]at w;obtain⟨ky,uy⟩:=ry;obtain⟨j,ey,w1⟩:=lJ w
 dsimp only at ey
 subst ey;have ev:vy=.int j:=t.rx.int t.ok;subst ev;rw[ae]at w1;obtain⟨k1,To,RZ,E9,w2⟩:=lK w1;rw[ae]at w2;obtain⟨o,ho,w3⟩:=bG.mp w2;obtain⟨v1,e1,R3⟩:=t.ok.sl i _ _ E9;obtain⟨a1,rfl,_,_,_,KH⟩:=R3.rt RZ;rw[t.hσ,e0]at e1;cases e1;obtain⟨vs,g1,g2⟩:=KH;unfold oG at ho;split at ho
 case isFalse=>cases ho
 rename_i Ke;split at ho
 case h_2=>cases ho
 rename_i o' NF;cases ho;obtain⟨vo,R4,R5⟩:=g2.get NF;have R6:vo=.int o:=R5;subst R6;refine⟨a0,vs,j,_,rfl,rfl,g1,Ke,R4,?_⟩;rw[<-t.hσ];refine aF t.ok w3 λz c2 vz t2 w4=>?_;rw[ae]at w4;obtain⟨kz,uz⟩:=z;obtain⟨w,ez,w5⟩:=lJ w4
 dsimp only at ez
 subst ez;have ev:vz=.int w:=t2.rx.int t2.ok;subst ev;refine⟨o,w,rfl,rfl,?_⟩;rw[ae]at w5;obtain⟨k,u1,u2,hk,Ep,hf,q⟩:=fm w5;rw[ah]at q;obtain⟨v2,e2,Nc⟩:=t2.ok.sl i _ _ Ep;obtain⟨a2,rfl,_,_,_,KI⟩:=Nc.rt hk;have R7:=e2;rw[t2.hσ,t.hσ,e0]at e2;cases e2;have LU:c2.H a0=some (.lst vs):=t2.nx.all _ _ g1;cases u1 with
 |lst xs =>
  simp only[dF,Option.map_eq_some_iff]at hf;obtain⟨j',Lc,rfl⟩:=hf;obtain⟨Tq,l1,l2⟩:=KI;rw[LU]at l1;cases l1;refine⟨a0,vs,j,j',rfl,rfl,LU,by rw[<-l2.len];exact Lc,?_⟩;obtain⟨Fy,n3⟩:=Ok.mod (c:=c2) (H':=upd c2.H a0 (.lst (vs.set j' (.int (tu sub o w))))) (u':=.lst (xs.set j' (.int (tu sub o w)))) t2.ok (t.nx.trans t2.nx).toNs hk Ep R7 (λa ne=>aj ne) ⟨_,aq⟩ λmv=>⟨_,aq,(l2.mv mv).set j' rfl⟩
  have z:=q _ rfl Fy n3 (Kept.of (t2.hσ.trans t.hσ));rw[<-t2.hσ];exact z
 |Dy ks vs=>simp[dF]at hf
 |DV ks=>simp[dF,rowOf]at hf
 |_=>simp[dF]at hf
end
section
theorem yp{ks:List Str}(h1:kvs.map (·.1)=ks.map Sum.inr)(h2:kvs.map (·.2)=ns.map V.int):kvs=(ks.zip ns).map λp=>((Sum.inr p.1:Key),V.int p.2):=by
 induction kvs generalizing ks ns with
 |nil =>
  cases ks with
  |nil=>rfl
  |cons _ _=>cases h1
 |cons kv kvs ih =>
  cases ks with
  |nil=>cases h1
  |cons k ks =>
   cases ns with
   |nil=>cases h2
   |cons n ns =>
    obtain⟨a,b⟩:=kv;simp only[List.map_cons,List.cons.injEq]at h1 h2;obtain⟨rfl,h1⟩:=h1;obtain⟨rfl,h2⟩:=h2;rw[ih h1 h2];rfl
theorem ai.of_map{S:Addr->Prop}{f:α->U}{g:α->V}:∀{l:List α},(∀x∈l,Rep C S H (f x) (g x))->ai C S H (l.map f) (l.map g)
 |[],_=>rfl
 |x::l,h=>⟨g x,l.map g,rfl,h x (by simp),ai.of_map λy hy=>h y (by simp[hy])⟩
theorem yq(hc:X.calm=true)(hK:C.K=X.K)(hg:Gl X "sorted")(hm:X.mg "sorted"=none)(hN:X.N[i]?=some x)(hv:Fm X.env.scope x)(hd:(x==("__debug__":Str))=false)(Ed:(x==("__classdict__":Str))=false)(D4:(apos.endLine==Dx.line)=true):
  PE X (.Call (.Name "sorted" p) [.Call (.Attribute (.Name x px) "items" apos) [] [] Dx] [] pos) (DH C (dn i >>= λx=>M.DR (vd x.2))):=by
 rintro pins s σ H Q I ⟨c0,rfl,rfl,ok,h⟩;refine wpAny_Call_Name_kw (cF I hg hm (show bootBuiltins "sorted"=some (.builtin "sorted") by decide +kernel) ?_ (by decide +kernel) (by decide +kernel));rw[ae]at h;obtain⟨k0,u0,ND,EC,h⟩:=c9 h;obtain⟨v0,e0,t0⟩:=ok.slot ND EC;obtain⟨r,er,want⟩:=bG.mp h
 dsimp only at er
 unfold vd at er;split at er
 rotate_left
 ·cases er
 rename_i ks us;rw[Option.bind_eq_some_iff]at er;obtain⟨ns,en,er⟩:=er;split at er
 rotate_left
 ·cases er
 rename_i NG;cases er;obtain⟨FD,DN,hlen⟩:=NG;obtain⟨d,kvs,rfl,Px,KG,Jp⟩:=t0.dict ok;rw[iI en]at Jp;have NC:=yp KG (ai.ints Jp);subst NC;have ek:((ks.zip ns).map (·.1))=ks:=List.map_fst_zip (by omega);have inner:wpAny (model X.prog X.w) X.A (eval (.Call (.Attribute (.Name x px) "items" apos) [] [] Dx) X.env) (λv s1=>wpAny (model X.prog X.w) X.A (call (.builtin "sorted") [v]) (EP X pins c0.σ Q) X.xe s1) X.xe s:=by
  refine wpAny_Call_method0_late rfl D4 (DG (cn hN hv hd Ed pins s c0.σ c0.H (λv H1=>v=.ref d/\H1=c0.H) I ⟨_,e0,rfl,rfl⟩) λv s1 ⟨x1,H1,I1,r1,z1,z2⟩=>?_);subst z1 z2;cases(show v=Value.ref d from r1);obtain⟨h1,h2⟩:=pR (T:="dict") I1 (x:=.ref d) rfl (.inr (.inr (.inl ⟨rfl,.inl ⟨_,Px⟩⟩)));refine⟨"dict","dict.items",PySem.F.plainAttrs_dict,PySem.F.slot_dict_items,PySem.F.type_dict_items,h1,h2,Calls.callWith_builtin rfl (PySem.evalArgs_none (mO hc I1 Px (by rw[ek];exact DN) (by rw[List.length_zip];omega) λas L hl nd G2 hL=>?_))⟩;have Jt:c0.H L=none:=G2 L (by simp);have R8:(as.zip ((ks.zip ns).map G8)).map (·.1)=as:=List.map_fst_zip (by rw[List.length_map];omega);have R9:∀p∈as.zip ((ks.zip ns).map G8),p.1∈as:=λp hp=>(List.of_mem_zip hp).1;have same:zS c0.H (upd (iX c0.H (as.zip ((ks.zip ns).map G8))) L (.lst ((iV ((ks.zip ns).map (·.1))).map λi=>V.ref (as.getD i 0)))):=λa o e=>by
   have n1:a≠L:=λy=>by rw[y,Jt]at e;cases e
   rw[aj n1,jN λp hp y=>?_]
   ·exact e
   ·have:=G2 p.1 (by simp[R9 p hp]);rw[y,e]at this;cases this
  obtain⟨DQ,n'⟩:=ok.grow (S':=c0.S) same (λa z=>.inl z) λa z=>z;obtain⟨q1,q2,q3,q4,q5⟩:=ok.jO Jt;refine want {c0 with H:=upd (iX c0.H (as.zip ((ks.zip ns).map G8))) L (.lst ((iV ((ks.zip ns).map (·.1))).map λi=>V.ref (as.getD i 0))),S:=c0.S} _ rfl rfl DQ n' ⟨L,rfl,Jt,q2,q5,_,aq,?_⟩;show ai C c0.S _ ((xR (ks.zip ns)).map tf) _;unfold xR;rw[List.map_map];refine ai.of_map λj hj=>?_;have Lc:j<(ks.zip ns).length:=by
   have:=List.mem_range.mp ((fh _).mem_iff.mp hj);rw[List.length_map]at this;exact this
  have M0:j<as.length:=by omega
  have e1:(ks.zip ns).getD j (Str.empty,0)=(ks.zip ns)[j]:=(List.getElem_eq_getD _).symm;have e2:as.getD j 0=as[j]:=by simp[List.getD,M0]
  show Rep C c0.S _ (tf ((ks.zip ns).getD j (Str.empty,0))) (V.ref (as.getD j 0));rw[e1,e2];refine⟨as[j],G8 (ks.zip ns)[j],rfl,D3.of ?_,⟨_,_,rfl,rfl,_,_,rfl,rfl,rfl⟩⟩;have Ej:as[j]≠L:=λy=>hL (by rw[<-y];simp);refine(aj Ej).trans (rn (by rw[R8];exact nd) (vs:=G8 (ks.zip ns)[j]) ?_);refine List.mem_iff_getElem.mpr ⟨j,by rw[List.length_zip,List.length_map];omega,?_⟩;rw[List.getElem_zip,List.getElem_map]
 have eb:backTo pos (starEach [.Call (.Attribute (.Name x px) "items" apos) [] [] Dx] X.env)=[(false,eval (.Call (.Attribute (.Name x px) "items" apos) [] [] Dx) X.env)]:=rfl;have R_:backToKw pos (keywordEach [] X.env)=[]:=rfl;rw[eb,R_];exact mV inner
end
section
theorem rL(hc:X.calm=true)(hK:C.K=X.K)(hg:Gl X "set")(hm:X.mg "set"=none)(ha:PE X a (DH C ma))(hs:starEach [a] X.env=[(false,eval a X.env)])(I:Inv X pins c0.σ c0.H s)(ok:Ok C c0)
  (h:W (ma >>= λx=>M.DR (fw x.2) >>= k) c0.st DL)
  (hf:∀(S:Addr) (o:Obj) (s1:Shared) (D:List Str) (c:Cf),c.σ=c0.σ->Ok C c->Nx c0 c->s1.heap.get? S=some o->aI X.prog X.w s1.heap S (ax X.w) D->Inv X ((S,o)::pins) c.σ c.H s1->W (k D) c.st DL->(∀q∈pins,q.1≠S)->Q (.ref S) s1) :
  wpAny (model X.prog X.w) X.A (eval (.Call (.Name "set" p) [a] [] pos) X.env) Q X.xe s:=by
 refine wpAny_Call_Name_kw (cF I hg hm (show bootBuiltins "set"=some (.type "set") by decide +kernel) ?_ (by decide +kernel) (by decide +kernel));have eb:backTo pos (starEach [a] X.env)=[(false,eval a X.env)]:=by rw[hs];rfl
 have ek:backToKw pos (keywordEach [] X.env)=[]:=rfl;rw[eb,ek];refine rH (one ha I ok h λx c vx v s2 t I2 rv w=>?_);rw[ae]at w;obtain⟨D,e,w⟩:=bG.mp w;obtain⟨l,ys,rfl,h1,h2,rfl⟩:=ie hK t.ok t.rx e;cases rv;exact p5 hc I2 h1 h2 λS o s1 hsz Mu hS I3=>hf S o s1 _ c t.hσ t.ok t.nx Mu hS I3 w λq hq z=>by
  have:=Heap.lt_size (I2.pin q (List.mem_append_right _ hq)).1;rw[z]at this;exact absurd (Nat.lt_of_lt_of_le this hsz) (Nat.lt_irrefl _)
theorem yr(hc:X.calm=true)(hK:C.K=X.K)(JB:Gl X (if ln=true then "len" else "sorted"))(Py:X.mg (if ln=true then "len" else "sorted")=none)(hg:Gl X "set")(hm:X.mg "set"=none)(ha:PE X a (DH C ma))(hb:PE X b (DH C mb))(Sa:starEach [a] X.env=[(false,eval a X.env)])(Hi:starEach [b] X.env=[(false,eval b X.env)]):
  PE X (.Call (.Name (if ln=true then "len" else "sorted") p) [.BinOp (.Call (.Name "set" p1) [a] [] I0) .Sub (.Call (.Name "set" p2) [b] [] pos2) posB] [] pos)
   (DH C (ma >>= λx=>M.DR (fw x.2) >>= λd1=>mb >>= λy=>M.DR (fw y.2) >>= λd2=>M.DR (tm ln d1 d2))):=by
 rintro pins s σ H Q I ⟨c0,rfl,rfl,ok,h⟩;have inner:wpAny (model X.prog X.w) X.A (eval (.BinOp (.Call (.Name "set" p1) [a] [] I0) .Sub (.Call (.Name "set" p2) [b] [] pos2) posB) X.env) (λv s1=>wpAny (model X.prog X.w) X.A (call (.builtin (if ln=true then "len" else "sorted")) [v]) (EP X pins c0.σ Q) X.xe s1) X.xe s:=by
  refine wpAny_BinOp (rL hc hK hg hm ha Sa I ok h λS1 o1 s1 D1 c1 Sb DK Sd G4 GJ I1 w1 Jl=>?_);refine rL hc hK hg hm hb Hi I1 DK w1 λS2 o2 s2 D2 c2 Se D0 Sf HD Jm I2 w2 Mp=>?_;obtain⟨r,er,want⟩:=bG.mp w2;have NH:=(I2.pin (S1,o1) (List.mem_append_right _ (by simp))).1;have NI:aI X.prog X.w s2.heap S1 (ax X.w) D1:=GJ.at λo e=>by rw[G4]at e;cases e;exact NH
  have Ej:S1≠S2:=Mp (S1,o1) (by simp);have nx:Nx c0 c2:=Sd.trans Sf;have hσ:c2.σ=c0.σ:=Se.trans Sb;have I3:Inv X pins c2.σ c2.H s2:=I2.dr λq hq=>I2.pin q (List.mem_append_right _ (by simp[hq]));unfold tm at er;split at er
  rotate_left
  ·cases er
  rename_i hlen;refine L2.jc Ej NI Jm hlen.1 hlen.2 λh' hk hR=>?_;have I4:Inv X pins c2.σ c2.H {s2 with heap:=h' }:=I3.kept (t':=s2.toks) hk;rw[<-hσ];cases ln with
  |true =>
   cases er;exact jH I4 hR (bT.flat (c:=c2) want hσ D0 nx rfl)
  |false =>
   cases er;exact fI hc I4 hR (Nat.lt_of_le_of_lt (List.length_filter_le _ _) hlen.1) λl hl=>bT.list (c:=c2) want hσ D0 nx (ai.strs.mpr rfl) l hl
 have eb:backTo pos (starEach [.BinOp (.Call (.Name "set" p1) [a] [] I0) .Sub (.Call (.Name "set" p2) [b] [] pos2) posB] X.env)=[(false,eval (.BinOp (.Call (.Name "set" p1) [a] [] I0) .Sub (.Call (.Name "set" p2) [b] [] pos2) posB) X.env)]:=rfl;have ek:backToKw pos (keywordEach [] X.env)=[]:=rfl;cases ln with
 |true =>
  refine wpAny_Call_Name_kw (cF I JB Py (show bootBuiltins "len"=some (.builtin "len") by decide +kernel) ?_ (by decide +kernel) (by decide +kernel));rw[eb,ek];exact mV inner
 |false =>
  refine wpAny_Call_Name_kw (cF I JB Py (show bootBuiltins "sorted"=some (.builtin "sorted") by decide +kernel) ?_ (by decide +kernel) (by decide +kernel));rw[eb,ek];exact mV inner
end
structure Ck where
 fns:List Str
 gl:List (Str×U)
noncomputable def ig:U->U->Bool
 |.int i,.int j=>decide (i=j)
 |.str x,.str y=>decide (x=y)
 |.bl a,.bl b=>a==b
 |.DF,.DF=>true
 |_,_=>false
theorem cu(h:ig u v=true):u=v:=by
 cases u<;>cases v<;>simp[ig]at h<;>subst_vars<;>rfl
noncomputable def noStar:Expr->Bool
 |.Starred _ _=>false
 |_=>true
noncomputable def dv:Expr->Bool
 |.Slice _ _ _ _=>false
 |_=>true
noncomputable def ql:Expr->Bool
 |.Set _ _ _=>false
 |_=>true
noncomputable def mZ:Expr->Bool
 |.Call (.Name _ _) [] [] _=>false
 |_=>true
noncomputable def cZ:Expr->Bool
 |.ListComp _ _ _ _=>false
 |.SetComp _ _ _ _=>false
 |.DictComp _ _ _ _ _=>false
 |_=>true
noncomputable def A0:Expr->Bool
 |.Tuple _ _ _=>false
 |_=>true
noncomputable def Fh(sc:Scope)(x:Str):Bool:=decide (sc.names.lookup x=some .globalImplicit)
noncomputable def gM(sc:Scope)(x:Str):Bool:=decide (sc.names.lookup x=some .local)||decide (sc.names.lookup x=some .cell)||decide (sc.names.lookup x=some .free)
noncomputable def m6(sc:Scope)(x:Str):Bool:=decide (sc.names.lookup x=some .local)||decide (sc.names.lookup x=some .cell)
noncomputable def Cj(sc:Scope)(x:Str):Bool:=decide (sc.names.lookup x=some .local)
noncomputable def bX(x:Str):Bool:=!(x==("__debug__":Str))&&!(x==("__classdict__":Str))
noncomputable def rM(N:List Str)(sc:Scope)(fa:Bool)(i:Nat):Expr->Bool
 |.Name x _=>decide (N[i]?=some x)&&m6 sc x&&(fa||Cj sc x)
 |_=>false
noncomputable def m7(N:List Str)(sc:Scope)(fa:Bool):List Nat->List Expr->Bool
 |[],[]=>true
 |i::is,e::es=>rM N sc fa i e&&m7 N sc fa is es
 |_,_=>false
noncomputable def cE:Expr->List Str
 |.Name x _=>[x]
 |.Tuple es _ _=>es.filterMap fun|.Name x _=>some x|_=>none
 |_=>[]
noncomputable def hide(own N:List Str):List Str:=match own.filter λx=>decide (x∈N) with
 |[]=>N
 |[x]=>N.set (N.idxOf x) "."
 |x::y::_=>(N.set (N.idxOf x) ".").set (N.idxOf y) ".."
noncomputable def I_(t:Bool)(N:List Str)(sc:Scope)(fa:Bool)(is:List Nat):Expr->Bool
 |.Name x p=>!t&&(match is with|[i]=>rM N sc fa i (.Name x p)|_=>false)
 |.Tuple es _ _=>t&&m7 N sc fa is es&&is.all λi=>decide (i<N.length)
 |_=>false
noncomputable def isTup:Expr->Bool
 |.Tuple _ _ _=>true
 |_=>false
noncomputable def jX(e:Expr):Option (Str×List Expr):=match e with
 |.Call f as kw _=>match f with
  |.Name x _=>if kw.isEmpty=true then some (x,as) else none
  |_=>none
 |_=>none
theorem eU(h:jX e=some (x,as)):∃p q,e=.Call (.Name x p) as [] q:=by
 unfold jX at h;split at h
 ·split at h
  ·split at h
   ·rename_i hk;rw[List.isEmpty_iff]at hk;cases h;subst hk;exact⟨_,_,rfl⟩
   ·cases h
  ·cases h
 ·cases h
noncomputable def eV(sc:Scope)(tg:Expr)(ik:Ik)(e:Expr):Option (List Expr):=match ik with
 |.seq=>some [e]
 |.Ee=>(jX e).bind λp=>if p.1="range"/\Fh sc p.1=true/\p.2.length=1 then some p.2 else none
 |.IK=>(jX e).bind λp=>if p.1="enumerate"/\Fh sc p.1=true/\p.2.length=1/\isTup tg=true then some p.2 else none
 |.zip=>(jX e).bind λp=>if p.1="zip"/\Fh sc p.1=true/\p.2.length=2/\isTup tg=true then some p.2 else none
 |_=>none
noncomputable def simple:Bf->Bool:=λ_=>true
noncomputable def vM(scope sc:Scope):Scope:={scope with names:=scope.names.map λ(n,k)=>if (k==NameKind.free&&sc.kind==.function&&sc.names.lookup n==some .cell)=true then(n,.cell) else(n,k)}
noncomputable def bt(e:Expr)(k:Str->Bool):Bool:=match e with|.Name x _=>k x|_=>false
theorem ao(h:bt e k=true):∃x p,e=.Name x p/\k x=true:=by
 unfold bt at h;split at h
 ·exact⟨_,_,rfl,h⟩
 ·cases h
noncomputable def dw{α:Type}(l:List α)(k:α->Bool):Bool:=match l with|[a]=>k a|_=>false
theorem aW(h:dw l k=true):∃a,l=[a]/\k a=true:=by
 unfold dw at h;split at h
 ·exact⟨_,rfl,h⟩
 ·cases h
noncomputable def cW(e:Expr)(k:Expr->List Expr->Pos->Bool):Bool:=match e with|.Call f as kw p=>kw.isEmpty&&k f as p|_=>false
theorem aJ(h:cW e k=true):∃f as p,e=.Call f as [] p/\k f as p=true:=by
 unfold cW at h;split at h
 ·rename_i f as kw p;rw[Bool.and_eq_true,List.isEmpty_iff]at h;obtain⟨rfl,h⟩:=h;exact⟨_,_,_,rfl,h⟩
 ·cases h
noncomputable def qm(e:Expr)(k:Expr->Str->Pos->Bool):Bool:=match e with|.Attribute o m p=>k o m p|_=>false
theorem oM(h:qm e k=true):∃o m p,e=.Attribute o m p/\k o m p=true:=by
 unfold qm at h;split at h
 ·exact⟨_,_,_,rfl,h⟩
 ·cases h
noncomputable def vN(e:Expr)(k:Expr->Operator->Expr->Bool):Bool:=match e with|.BinOp a op b _=>k a op b|_=>false
theorem qo(h:vN e k=true):∃a op b p,e=.BinOp a op b p/\k a op b=true:=by
 unfold vN at h;split at h
 ·exact⟨_,_,_,_,rfl,h⟩
 ·cases h
noncomputable def rN(e:Expr)(k:Expr->CmpOp->Expr->Bool):Bool:=match e with|.Compare a ops bs _=>dw ops λop=>dw bs λb=>k a op b|_=>false
theorem d6(h:rN e k=true):∃a op b p,e=.Compare a [op] [b] p/\k a op b=true:=by
 unfold rN at h;split at h
 ·obtain⟨op,rfl,z1⟩:=aW h;obtain⟨b,rfl,z2⟩:=aW z1;exact⟨_,_,_,_,rfl,z2⟩
 ·cases h
noncomputable def eX(e:Expr)(k:Expr->Str->Pos->List Expr->Pos->Bool):Bool:=cW e λf as Dx=>qm f λo m apos=>k o m apos as Dx
theorem bB(h:eX e k=true):∃o m apos as Dx,e=.Call (.Attribute o m apos) as [] Dx/\k o m apos as Dx=true:=by
 obtain⟨f,as,p,rfl,h⟩:=aJ h;obtain⟨o,m,q,rfl,h⟩:=oM h;exact⟨_,_,_,_,_,rfl,h⟩
noncomputable def jY(e:Expr)(k:Expr->Expr->Bool):Bool:=match e with|.Subscript a b _=>k a b|_=>false
theorem di(h:jY e k=true):∃a b p,e=.Subscript a b p/\k a b=true:=by
 unfold jY at h;split at h
 ·exact⟨_,_,_,rfl,h⟩
 ·cases h
noncomputable def A1:Expr->Bool
 |.Slice none none (some (.UnaryOp .USub (.Constant (.int 1) _ _) _)) _=>true
 |_=>false
theorem tH(h:A1 e=true):∃kx p1 p3 p2,e=.Slice none none (some (.UnaryOp .USub (.Constant (.int 1) kx p1) p3)) p2:=by
 unfold A1 at h;split at h
 ·exact⟨_,_,_,_,rfl⟩
 ·cases h
mutual
noncomputable def ay(k:Ck):E->List Str->Scope->Expr->Bool
 |.var i,N,sc,e'=>match e' with
  |.Name x _=>decide (N[i]?=some x)&&gM sc x&&bX x
  |_=>false
 |.cst u,N,sc,e'=>match e' with
  |.Constant (.int j) _ _=>ig u (.int j)
  |.Constant (.str y) _ _=>ig u (.str y)
  |.Constant (.bool y) _ _=>ig u (.bl y)
  |.Constant .none _ _=>ig u .DF
  |_=>false
 |.LA _ _,_,_,_=>false
 |.bin op a b,N,sc,e'=>match e' with
  |.BinOp a' GU b' _=>decide (op.op=GU)&&ay k a N sc a'&&ay k b N sc b'
  |_=>false
 |.cmp op a b,N,sc,e'=>rN e' λa' GU b'=>decide (op.op=GU)&&!behindInMarks GU b'&&ay k a N sc a'&&ay k b N sc b'
 |.GN _ _ _ _ _,_,_,_=>false
 |.and es,N,sc,e'=>match e' with
  |.BoolOp .And Dz _=>aG k es N sc Dz
  |_=>false
 |.or es,N,sc,e'=>match e' with
  |.BoolOp .Or Dz _=>aG k es N sc Dz
  |_=>false
 |.not a,N,sc,e'=>match e' with
  |.UnaryOp .Not a' _=>ay k a N sc a'
  |_=>false
 |.ite _ _ _,_,_,_=>false
 |.neg _,_,_,_=>false
 |.bad,_,_,_=>true
 |.inD neg a i,N,sc,e'=>rN e' λa' GU b'=>bt b' λx=>decide (vI neg=GU)&&!behindInMarks GU b'&&decide (N[i]?=some x)&&gM sc x&&bX x&&ay k a N sc a'
 |.Jv i,N,sc,e'=>match e' with
  |.Name x _=>decide (N[i]?=some x)&&gM sc x&&bX x
  |_=>false
 |.FK i a b,N,sc,e'=>eX e' λo m apos as Dx=>bt o λx=>match as with
  |[a',b']=>decide (m="get")&&decide (N[i]?=some x)&&gM sc x&&bX x&&(apos.endLine==Dx.line)&&noStar a'&&noStar b'&&ay k a N sc a'&&ay k b N sc b'
  |_=>false
 |.Jw i,N,sc,e'=>cW e' λf' as _=>bt f' λf=>dw as λc=>eX c λo m apos bs Dx=>bt o λx=>bs.isEmpty&&decide (f="sorted")&&Fh sc f&&decide (m="items")&&decide (N[i]?=some x)&&gM sc x&&bX x&&(apos.endLine==Dx.line)
 |.IL a,N,sc,e'=>jY e' λa' b'=>A1 b'&&ay k a N sc a'
 |.Jx ln a b,N,sc,e'=>cW e' λf' as _=>bt f' λf=>dw as λd=>vN d λl op r=>cW l λl' al _=>bt l' λg1=>dw al λa'=>cW r λr' ar _=>bt r' λg2=>dw ar λb' =>
  decide (f=(if ln=true then("len":Str) else "sorted"))&&decide (g1="set")&&decide (g2="set")&&decide (op=.Sub)&&Fh sc f&&Fh sc "set"&&noStar a'&&noStar b'&&ay k a N sc a'&&ay k b N sc b'
 |.fst es,N,sc,e'=>false
 |.FX a T,N,sc,e'=>cW e' λf' as _=>bt f' λx=>match as with
  |[a',b']=>bt b' λy=>decide (x="isinstance")&&decide (y=T.name)&&Fh sc x&&Fh sc y&&noStar a'&&ay k a N sc a'
  |_=>false
 |.tup es,N,sc,e'=>match e' with
  |.Tuple Dz _ _=>aG k es N sc Dz
  |_=>false
 |.lst es,N,sc,e'=>match e' with
  |.List Dz _=>aG k es N sc Dz
  |_=>false
 |.E_ _,N,sc,e'=>match e' with
  |.Dict [] [] _=>true
  |_=>false
 |.idx a b,N,sc,e'=>match e' with
  |.Subscript a' b' _=>dv b'&&ay k a N sc a'&&ay k b N sc b'
  |_=>false
 |.HP a lo hi,N,sc,e'=>match e' with
  |.Subscript a' (.Slice Sg E4 none _) _=>ay k a N sc a'&&qp k lo N sc Sg&&qp k hi N sc E4
  |_=>false
 |.bi f es,N,sc,e'=>cW e' λf' Dz _=>bt f' λx=>decide (x=f.name)&&simple f&&Fh sc x&&!Dz.isEmpty&&aG k es N sc Dz
 |.F_ f es,N,sc,e'=>cW e' λf' as _=>bt f' λx=>dw as λc=>cW c λg' Dz _=>bt g' λy=>decide (x=f.mU)&&decide (y=f.gK)&&Fh sc x&&Fh sc y&&!Dz.isEmpty&&aG k es N sc Dz
 |.Gr m a es,N,sc,e'=>eX e' λo name apos Dz Dx=>decide (name=m.name)&&mZ o&&(apos.endLine==Dx.line)&&!Dz.isEmpty&&decide (Dz.length<20)&&ay k a N sc o&&aG k es N sc Dz
 |.call f es,N,sc,e'=>cW e' λf' Dz _=>bt f' λx=>decide (x=f)&&decide (f∈k.fns)&&Fh sc x&&bX x&&!Dz.isEmpty&&aG k es N sc Dz
 |.comp n t ik src cond e,N,sc,e'=>match e' with
  |.ListComp elt [⟨tg,iter,ifs,0⟩] scope _ =>
   decide ((cE tg).length=n)&&xw (cE tg++hide (cE tg) N) (cE tg) scope sc.names&&I_ t (cE tg++hide (cE tg) N) (vM scope sc) false (List.range n) tg&&ql iter &&
   (match eV sc tg ik iter with
    |some as=>aG k src N sc as
    |none=>false) &&
   decide (ifs.length<=1)&&aG k cond (cE tg++hide (cE tg) N) (vM scope sc) ifs&&ay k e (cE tg++hide (cE tg) N) (vM scope sc) elt
  |_=>false
noncomputable def aG(k:Ck):List E->List Str->Scope->List Expr->Bool
 |[],_,_,Dz=>Dz.isEmpty
 |e::es,N,sc,Dz=>match Dz with
  |e'::Dz=>noStar e'&&ay k e N sc e'&&aG k es N sc Dz
  |[]=>false
noncomputable def qp(k:Ck):List E->List Str->Scope->Option Expr->Bool
 |[],_,_,o=>o.isNone
 |[e],N,sc,o=>match o with
  |some e'=>ay k e N sc e'
  |none=>false
 |_::_::_,_,_,_=>false
end
noncomputable def bI:List Str:=["len","sorted","repr","max","min","all","any","list","tuple","str","int","range","enumerate","zip","reversed","set","dict","sum","isinstance","bool"]
structure A2(P:Program)(w:World)(K:PySem.W.Frag)(mg:Str->Option Value)(base:Heap)(d:Nat)(F:List U->Option (Ex (Kd×U)))(f:Str):Prop where
 ex:∃(np:Nat) (fa:Addr) (fd:FuncData) (ps:List Str),nS P w K mg base Hx d fa fd ps (spT P w K F np)/\mg f=some (.ref fa)/\PySem.W.keepIn K (.ref fa)=true/\Binds K fd ps []/\∀us k u,F us=some (.ok (k,u))->(k=.own\/k=.loc\/k=.any)/\us.length=np
structure Gd(ck:Ck)(Γ:Tab)(C:Ct)(d:Nat)(X:Cx):Prop where
 P:C.P=X.prog
 w:C.w=X.w
 K:C.K=X.K
 u:X.A.units+60<cLine
 calm:X.calm=true
 room:fM d X.A
 blt:∀x∈bI,X.mg x=none
 fns:∀f∈ck.fns,A2 X.prog X.w X.K X.mg X.base d (Γ f) f
 HZ:∀p∈ck.gl,∃val v,X.mg p.1=some val/\RelV v val/\∀S H,Rep C S H p.2 v
theorem Gd.cx(g:Gd ck Γ C d X)(N:List Str)(sc:Scope)(D:Addr)(s:Shared)(H:Hp)(ex:List Addr):Gd ck Γ C d (Et X N sc D s H ex) :=
 ⟨g.P,g.w,g.K,g.u,g.calm,g.room,g.blt,g.fns,g.HZ⟩
theorem cz(h:gM sc x=true):Fm sc x:=by
 unfold gM at h;simp only[Bool.or_eq_true,decide_eq_true_eq]at h;rcases h with(h|h)|h
 ·exact .inl h
 ·exact .inr (.inl h)
 ·exact .inr (.inr h)
theorem aX(h:bX x=true):(x==("__debug__":Str))=false/\(x==("__classdict__":Str))=false:=by
 unfold bX at h;simpa using h
theorem bc(h:noStar e=true):starEach (e::es) env=(false,eval e env)::starEach es env:=by
 cases e<;>first|rfl|cases h
theorem jZ(h:dv e=true):mr e:=by
 intro o i;cases e<;>first|rfl|cases h
theorem qq(h:ql e=true):∀x,foldedSetIterable e env x=pure x:=by
 intro x;cases e<;>first|rfl|cases h
theorem jf(h:mZ o=true):attributeBase o name env wh=wh:=by
 cases o with
 |Call f as ks p =>
  cases f with
  |Name x q=>cases as with
   |nil=>cases ks with
    |nil=>cases h
    |cons _ _=>rfl
   |cons _ _=>rfl
  |_=>rfl
 |_=>rfl
theorem bE(h:∀e∈es,noStar e=true):(backTo pos (starEach es env)).any (·.1)=false/\(backTo pos (starEach es env)).all (λx=>!x.1)=true:=by
 induction es with
 |nil=>exact⟨rfl,rfl⟩
 |cons e es ih =>
  rw[bc (h e (by simp))];have:=ih λe' he=>h e' (by simp[he]);constructor
  ·show(false||(backTo pos (starEach es env)).any (·.1))=false;rw[this.1];rfl
  ·show(!false&&(backTo pos (starEach es env)).all (λx=>!x.1))=true;rw[this.2];rfl
theorem c_(h:aG k es N sc Dz=true):∀e∈Dz,noStar e=true:=by
 induction es generalizing Dz with
 |nil =>
  cases Dz with
  |nil=>intro e he;cases he
  |cons _ _=>simp[aG]at h
 |cons x es ih =>
  cases Dz with
  |nil=>intro e he;cases he
  |cons e' Dz =>
   simp only[aG,Bool.and_eq_true]at h;intro e he;rcases List.mem_cons.mp he with rfl|he
   ·exact h.1.1
   ·exact ih h.2 e he
theorem lL(FV:fa=true->∀x,X.fn x=true)(h:rM X.N X.env.scope fa i e=true):qg X e i:=by
 cases e with
 |Name x p =>
  simp only[rM,Bool.and_eq_true,decide_eq_true_eq,m6,Bool.or_eq_true,Cj]at h;refine⟨x,p,rfl,h.1.1,?_,?_⟩
  ·rcases h.1.2 with z|z
   ·exact .inl z
   ·exact .inr z
  ·rcases h.2 with z|z
   ·exact .inl (FV z x)
   ·exact .inr z
 |_=>cases h
theorem j3(FV:fa=true->∀x,X.fn x=true):∀{is:List Nat}{es:List Expr},m7 X.N X.env.scope fa is es=true->d4 X es is
 |[],[],_=>.nil
 |[],_::_,h=>by cases h
 |_::_,[],h=>by cases h
 |i::is,e::es,h=>by
  simp only[m7,Bool.and_eq_true]at h;exact .cons (lL FV h.1) (j3 FV h.2)
theorem oN(hc:X.calm=true)(hK:C.K=X.K)(hN:X.N.Nodup)(FV:fa=true->∀x,X.fn x=true)(h:I_ t X.N X.env.scope fa is tg=true):PG X tg (tG C t is):=by
 cases tg with
 |Name x p =>
  simp only[I_,Bool.and_eq_true,Bool.not_eq_true']at h;obtain⟨rfl,h⟩:=h;cases is with
  |nil=>cases h
  |cons i is=>cases is with
   |nil=>exact AQ hN (lL FV h)
   |cons _ _=>cases h
 |Tuple es k p =>
  simp only[I_,Bool.and_eq_true,List.all_eq_true,decide_eq_true_eq]at h;obtain⟨⟨rfl,h1⟩,h2⟩:=h;exact BY hc hK hN (j3 FV h1) h2
 |_=>cases h
theorem ij(own N:List Str):dE ((own++hide own N).drop own.length) N:=by
 rw[List.drop_left' rfl];unfold hide;split
 ·exact .refl N
 ·exact(dE.refl N).set _ (.inl rfl)
 ·exact((dE.refl N).set _ (.inl rfl)).set _ (.inr rfl)
noncomputable def Bf.Tr:Bf->Bool
 |.len=>true|.sorted=>true|.repr=>true|.max=>true|.min=>true|.all=>true|.any=>true|_=>false
noncomputable def Bf.id:Bf->String
 |.len=>"len"|.sorted=>"sorted"|.repr=>"repr"|.max=>"max"|.min=>"min"|.all=>"all"|.any=>"any"
 |.list=>"list"|.tuple=>"tuple"|.str=>"str"|.int=>"int"
theorem yt:∀f:Bf,simple f=true->bootBuiltins f.name=some f.val/\f.name∈bI/\f.name≠"__name__"/\(f.name==("__debug__":Str))=false:=by
 intro f h;cases f<;>first|exact⟨by decide +kernel,by decide +kernel,by decide +kernel,by decide +kernel⟩|(cases h;done)
theorem A3:∀f:Bf,simple f=true->(f.val=.builtin f.id\/f.val=.type f.id):=by
 intro f h;cases f<;>first|exact .inl rfl|exact .inr rfl|(cases h;done)
theorem A4:∀f:B2,f.mU∈bI/\f.gK∈bI:=by
 intro f;cases f<;>exact⟨by decide +kernel,by decide +kernel⟩
theorem yu:∀f:Mf,Slot "str" f.name f.id/\typeOf (.builtin f.id)=pure (.type "method_descriptor"):=by
 intro f;cases f with
 |split=>exact⟨PySem.F.slot_str_split,PySem.F.type_str_split⟩
 |join=>exact⟨PySem.F.slot_str_join,PySem.F.type_str_join⟩
 |partition=>exact⟨PySem.F.slot_str_partition,PySem.F.type_str_partition⟩
 |endswith=>exact⟨PySem.F.slot_str_endswith,PySem.F.type_str_endswith⟩
section
theorem dk(h:Fh X.env.scope x=true):Gl X x:=by
 unfold Fh at h;show X.env.kindOf x=some .globalImplicit;exact of_decide_eq_true h
theorem yw:("enumerate":Str)∈bI:=by decide +kernel
theorem oO:("isinstance":Str)∈bI:=by decide +kernel
theorem vO(T:F9):T.name∈bI:=by cases T<;>decide +kernel
theorem yx:("range":Str)∈bI:=by decide +kernel
theorem y_(g:Gd ck Γ C d X)(h:eV X.env.scope tg ik iter=some as)(hL:PA X as (EU C (bH Γ src)))(h1:∀a,as=[a]->∃e,src=[e]/\PE X a (DH C (ev Γ e)))(DJ:∀e∈as,noStar e=true):PI X tg iter (GP C ik (bH Γ src)):=by
 unfold eV at h;split at h
 ·cases h;obtain⟨e,rfl,he⟩:=h1 _ rfl;exact AM g.K he
 ·rw[Option.bind_eq_some_iff]at h;obtain⟨⟨x,bs⟩,hc,h⟩:=h;split at h
  ·rename_i hh;cases h;obtain⟨e1,hg,hl⟩:=hh
   dsimp only at e1 hg hl
   subst e1;obtain⟨p,q,rfl⟩:=eU hc;obtain⟨b,rfl⟩:=List.length_eq_one_iff.mp hl;exact yi (dk hg) (g.blt _ yx) (bc (DJ _ (by simp))) hL
  ·cases h
 ·rw[Option.bind_eq_some_iff]at h;obtain⟨⟨x,bs⟩,hc,h⟩:=h;split at h
  ·rename_i hh;cases h;obtain⟨e1,hg,hl,ht⟩:=hh
   dsimp only at e1 hg hl
   subst e1;obtain⟨p,q,rfl⟩:=eU hc;obtain⟨b,rfl⟩:=List.length_eq_one_iff.mp hl;cases tg with
   |Tuple es kx ps=>exact AN g.K (dk hg) (g.blt _ yw) (bc (DJ _ (by simp))) hL
   |_=>cases ht
  ·cases h
 ·rw[Option.bind_eq_some_iff]at h;obtain⟨⟨x,bs⟩,hc,h⟩:=h;split at h
  ·rename_i hh;cases h;obtain⟨e1,hg,hl,ht⟩:=hh
   dsimp only at e1 hg hl
   subst e1;obtain⟨p,q,rfl⟩:=eU hc;obtain⟨b,b',rfl⟩:∃b b',bs=[b,b']:=by match bs,hl with|[b,b'],_=>exact⟨b,b',rfl⟩
   have s1:=bc (env:=X.env) (es:=[]) (DJ _ (show _∈[_,_] from List.mem_cons_of_mem _ List.mem_cons_self));cases tg with
   |Tuple es kx ps=>exact AO g.K (dk hg) (g.blt _ (by decide +kernel)) (bc (DJ _ List.mem_cons_self)) (by rw[s1];rfl) hL
   |_=>cases ht
  ·cases h
 ·cases h
theorem PT.eqv(h:PT X e (EH C m))(i:∀st Q,W m' st Q->W m st Q):PT X e (EH C m'):=PT.weak h λσ H Q ⟨c0,e1,e2,ok,w⟩=>⟨c0,e1,e2,ok,i _ _ w⟩
theorem Cm(g:Gd ck Γ C d X)(hL:PA X Dz (EU C (bH Γ es)))
  (h:(decide (x=f.name)&&simple f&&Fh X.env.scope x&&!Dz.isEmpty&&aG ck es X.N X.env.scope Dz)=true):PE X (.Call (.Name x p) Dz [] pos) (DH C (ev Γ (.bi f es))):=by
 simp only[Bool.and_eq_true,decide_eq_true_eq,Bool.not_eq_true']at h;obtain⟨⟨⟨⟨rfl,h1⟩,h2⟩,h3⟩,h4⟩:=h;obtain⟨b1,b2,b3,b4⟩:=yt f h1;have hS:=c_ h4;cases Dz with
 |nil=>cases h3
 |cons e0 FI =>
  have st:=bc (env:=X.env) (es:=FI) (hS e0 (by simp));have sn:=(bE (pos:=pos) (env:=X.env) (es:=FI) λe he=>hS e (by simp[he])).1;rcases A3 f h1 with hv|hv
  ·exact yd g.calm g.K g.room.gd g.u hv (dk h2) (g.blt _ b2) (by rw[b1,hv]) b3 b4 hL st sn
  ·exact ye g.calm g.K g.room.gd g.u hv (dk h2) (g.blt _ b2) (by rw[b1,hv]) b3 b4 hL st sn
theorem za(g:Gd ck Γ C d X)(hL:PA X Dz (EU C (bH Γ es)))
  (h:(decide (x=f.mU)&&decide (y=f.gK)&&Fh X.env.scope x&&Fh X.env.scope y&&!Dz.isEmpty&&aG ck es X.N X.env.scope Dz)=true):PE X (.Call (.Name x p) [.Call (.Name y p2) Dz [] pos2] [] pos) (DH C (ev Γ (.F_ f es))):=by
 simp only[Bool.and_eq_true,decide_eq_true_eq,Bool.not_eq_true']at h;obtain⟨⟨⟨⟨⟨rfl,rfl⟩,h1⟩,h2⟩,h3⟩,h4⟩:=h;obtain⟨b1,b2⟩:=A4 f;have hS:=c_ h4;cases Dz with
 |nil=>cases h3
 |cons e0 FI =>
  have st:=bc (env:=X.env) (es:=FI) (hS e0 (by simp));have sn:=(bE (pos:=pos2) (env:=X.env) (es:=FI) λe he=>hS e (by simp[he])).1;exact yh g.calm g.K (dk h1) (g.blt _ b1) (dk h2) (g.blt _ b2) hL st sn
theorem zb(g:Gd ck Γ C d X)(ha:PE X o (DH C (ev Γ a)))(hL:PA X Dz (EU C (bH Γ es)))
  (h:(decide (name=m.name)&&mZ o&&(apos.endLine==Dx.line)&&!Dz.isEmpty&&decide (Dz.length<20)&&ay ck a X.N X.env.scope o&&aG ck es X.N X.env.scope Dz)=true):PE X (.Call (.Attribute o name apos) Dz [] Dx) (DH C (ev Γ (.Gr m a es))):=by
 simp only[Bool.and_eq_true,decide_eq_true_eq,Bool.not_eq_true']at h;obtain⟨⟨⟨⟨⟨⟨rfl,h1⟩,h2⟩,h3⟩,h4⟩,h5⟩,h6⟩:=h;have hS:=c_ h6;obtain⟨s1,s2⟩:=yu m;cases Dz with
 |nil=>cases h3
 |cons e0 FI =>
  have st:=bc (env:=X.env) (es:=FI) (hS e0 (by simp));have sn:=(bE (pos:=Dx) (env:=X.env) (es:=FI) λe he=>hS e (by simp[he])).1;have sa:=(bE (pos:=Dx) (env:=X.env) (es:=e0::FI) hS).2;refine yg g.K s1 s2 ha hL (jf h1) ?_ h2 st sn;rw[sa];have:(e0::FI).length+([]:List Keyword).length+(if ([]:List Keyword).isEmpty=true then 0 else 1)<30:=by simp at h4 ⊢;omega
  simp only[decide_eq_true this];rfl
theorem vP(g:Gd ck Γ C d X)(hL:PA X Dz (EU C (bH Γ es)))
  (h:(decide (x=f)&&decide (f∈ck.fns)&&Fh X.env.scope x&&bX x&&!Dz.isEmpty&&aG ck es X.N X.env.scope Dz)=true):PE X (.Call (.Name x p) Dz [] pos) (DH C (ev Γ (.call f es))):=by
 simp only[Bool.and_eq_true,decide_eq_true_eq,Bool.not_eq_true']at h;obtain⟨⟨⟨⟨⟨rfl,h1⟩,h2⟩,h3⟩,h4⟩,h5⟩:=h;have hS:=c_ h5;obtain⟨np,fa,fd,ps,q1,q2,q3,q4,q5⟩:=(g.fns _ h1).ex;cases Dz with
 |nil=>cases h4
 |cons e0 FI =>
  have st:=bc (env:=X.env) (es:=FI) (hS e0 (by simp));have sn:=(bE (pos:=pos) (env:=X.env) (es:=FI) λe he=>hS e (by simp[he])).1;exact vt g.P g.w g.K rfl q5 q1 g.room (dk h2) q2 q3 q4 (aX h3).1 hL st sn
theorem cS(h:(b&&aG k es N sc Dz)=true):aG k es N sc Dz=true:=(Bool.and_eq_true_iff.mp h).2
mutual
theorem bf:∀(e:E) (X:Cx) (e':Expr),Gd ck Γ C d X->ay ck e X.N X.env.scope e'=true->PE X e' (DH C (ev Γ e))
 |.var i,X,e',g,h=>by
  simp only[ay]at h;split at h
  ·simp only[Bool.and_eq_true,decide_eq_true_eq]at h;obtain⟨h3,h4⟩:=aX h.2;exact mS h.1.1 (cz h.1.2) h3 h4
  ·cases h
 |.cst u,X,e',g,h=>by
  simp only[ay]at h;split at h
  ·have:=cu h;subst this;exact gJ pH λ_ _=>rfl
  ·have:=cu h;subst this;exact gJ t9 λ_ _=>rfl
  ·have:=cu h;subst this;exact gJ yS λ_ _=>rfl
  ·have:=cu h;subst this;exact gJ t8 λ_ _=>rfl
  ·cases h
 |.LA x u,X,e',g,h=>absurd h (by simp[ay])
 |.bin op a b,X,e',g,h=>by
  simp only[ay]at h;split at h
  ·simp only[Bool.and_eq_true,decide_eq_true_eq]at h;obtain⟨⟨rfl,h1⟩,h2⟩:=h;exact xW g.K (bf a X _ g h1) (bf b X _ g h2)
  ·cases h
 |.cmp op a b,X,e',g,h=>by
  simp only[ay]at h;obtain⟨a',GU,b',p0,rfl,z1⟩:=d6 h;have h:=z1;simp only[Bool.and_eq_true,decide_eq_true_eq,Bool.not_eq_true']at h;obtain⟨⟨⟨rfl,h0⟩,h1⟩,h2⟩:=h;exact xX g.P g.w g.K g.u (bf a X _ g h1) (bf b X _ g h2) h0
 |.GN o1 o2 a b c,X,e',g,h=>absurd h (by simp[ay])
 |.and es,X,e',g,h=>by
  simp only[ay]at h;split at h
  ·exact vQ es X _ g h
  ·cases h
 |.or es,X,e',g,h=>by
  simp only[ay]at h;split at h
  ·exact zc es X _ g h
  ·cases h
 |.not a,X,e',g,h=>by
  simp only[ay]at h;split at h
  ·exact xZ (bf a X _ g h)
  ·cases h
 |.neg a,X,e',g,h=>absurd h (by simp[ay])
 |.bad,X,e',g,h=>λpins s σ H Q I ⟨_,_,_,_,w⟩=>(aA.mp w).elim
 |.IL a,X,e',g,h=>by
  simp only[ay]at h;obtain⟨a',b',p0,rfl,z1⟩:=di h;rw[Bool.and_eq_true]at z1;obtain⟨kx,p1,p3,p2,rfl⟩:=tH z1.1;exact yc g.K (bf a X _ g z1.2)
 |.inD neg a i,X,e',g,h=>by
  simp only[ay]at h;obtain⟨a',GU,b',p0,rfl,z1⟩:=d6 h;obtain⟨x,p1,rfl,z2⟩:=ao z1;have h:=z2;simp only[Bool.and_eq_true,decide_eq_true_eq,Bool.not_eq_true']at h;obtain⟨⟨⟨⟨⟨rfl,h0⟩,h1⟩,h2⟩,h3⟩,h4⟩:=h;obtain⟨q1,q2⟩:=aX h3;exact ym g.u h1 (cz h2) q1 q2 (bf a X _ g h4) h0
 |.Jv i,X,e',g,h=>by
  simp only[ay]at h;split at h
  ·simp only[Bool.and_eq_true,decide_eq_true_eq]at h;obtain⟨h3,h4⟩:=aX h.2;exact yl h.1.1 (cz h.1.2) h3 h4
  ·cases h
 |.FK i a b,X,e',g,h=>by
  simp only[ay]at h;obtain⟨o,m,apos,as,Dx,rfl,z1⟩:=bB h;obtain⟨x,px,rfl,z2⟩:=ao z1;split at z2
  ·simp only[Bool.and_eq_true,decide_eq_true_eq]at z2;obtain⟨⟨⟨⟨⟨⟨⟨⟨rfl,h1⟩,h2⟩,h3⟩,h4⟩,h5⟩,h6⟩,h7⟩,h8⟩:=z2;obtain⟨q1,q2⟩:=aX h3;rename_i a' b';have sa:=bE (pos:=Dx) (env:=X.env) (es:=[a',b']) λe he=>by
    rcases List.mem_cons.mp he with rfl|he
    ·exact h5
    ·simp at he;subst he;exact h6
   exact vK g.u h1 (cz h2) q1 q2 (bf a X _ g h7) (bf b X _ g h8) ⟨rfl,by rw[sa.2];rfl,h4,by rw[bc h5,bc h6];rfl⟩
  ·cases z2
 |.Jw i,X,e',g,h=>by
  simp only[ay]at h;obtain⟨f',as,_,rfl,z1⟩:=aJ h;obtain⟨f,_,rfl,z2⟩:=ao z1;obtain⟨c,rfl,z3⟩:=aW z2;obtain⟨o,m,apos,bs,Dx,rfl,z4⟩:=bB z3;obtain⟨x,px,rfl,z5⟩:=ao z4;simp only[Bool.and_eq_true,decide_eq_true_eq,List.isEmpty_iff]at z5;obtain⟨⟨⟨⟨⟨⟨⟨rfl,rfl⟩,h1⟩,rfl⟩,h3⟩,h4⟩,h5⟩,h6⟩:=z5;obtain⟨q1,q2⟩:=aX h5;exact yq g.calm g.K (dk h1) (g.blt _ (by decide +kernel)) h3 (cz h4) q1 q2 h6
 |.Jx ln a b,X,e',g,h=>by
  simp only[ay]at h;obtain⟨_,_,_,rfl,z0⟩:=aJ h;obtain⟨_,_,rfl,z1⟩:=ao z0;obtain⟨_,rfl,z2⟩:=aW z1;obtain⟨_,_,_,_,rfl,z3⟩:=qo z2;obtain⟨_,_,_,rfl,z4⟩:=aJ z3;obtain⟨_,_,rfl,z5⟩:=ao z4;obtain⟨_,rfl,z6⟩:=aW z5;obtain⟨_,_,_,rfl,z7⟩:=aJ z6;obtain⟨_,_,rfl,z8⟩:=ao z7;obtain⟨_,rfl,z9⟩:=aW z8;simp only[Bool.and_eq_true,decide_eq_true_eq]at z9;obtain⟨⟨⟨⟨⟨⟨⟨⟨⟨rfl,rfl⟩,rfl⟩,rfl⟩,h1⟩,h2⟩,h3⟩,h4⟩,h5⟩,h6⟩:=z9;exact yr (ln:=ln) g.calm g.K (dk h1) (g.blt _ (by cases ln<;>decide +kernel)) (dk h2) (g.blt _ (by decide +kernel)) (bf a X _ g h5) (bf b X _ g h6) (bc h3) (bc h4)
 |.fst es,X,e',g,h=>λpins s σ H Q I ⟨_,_,_,_,w⟩=>(aA.mp w).elim
 |.FX a T,X,e',g,h=>by
  simp only[ay]at h;obtain⟨f',as,p0,rfl,z1⟩:=aJ h;obtain⟨x,p1,rfl,z2⟩:=ao z1;clear h z1;split at z2
  ·obtain⟨y,p2,rfl,z3⟩:=ao z2;have h:=z3;simp only[Bool.and_eq_true,decide_eq_true_eq]at h;obtain⟨⟨⟨⟨⟨rfl,rfl⟩,h1⟩,h2⟩,h3⟩,h4⟩:=h;exact rF g.K (dk h1) (g.blt _ oO) (dk h2) (g.blt _ (vO T)) (bf a X _ g h4) (bc h3)
  ·cases z2
 |.ite c a b,X,e',g,h=>absurd h (by simp[ay])
 |.tup es,X,e',g,h=>by
  simp only[ay]at h;split at h
  ·exact x_ (il es X _ g h)
  ·cases h
 |.lst es,X,e',g,h=>by
  simp only[ay]at h;split at h
  ·exact ya (il es X _ g h)
  ·cases h
 |.E_ r,X,e',g,h=>by
  simp only[ay]at h;split at h
  ·exact vq g.P g.w r
  ·cases h
 |.idx a b,X,e',g,h=>by
  simp only[ay]at h;split at h
  ·simp only[Bool.and_eq_true]at h;exact rE g.K g.u (jZ h.1.1) (bf a X _ g h.1.2) (bf b X _ g h.2)
  ·cases h
 |.HP a lo hi,X,e',g,h=>by
  simp only[ay]at h;split at h
  ·simp only[Bool.and_eq_true]at h;exact yb g.K (bf a X _ g h.1.1) (Cn lo X _ g h.1.2) (Cn hi X _ g h.2)
  ·cases h
 |.bi f es,X,e',g,h=>by
  simp only[ay]at h;obtain⟨f',as,p0,rfl,z1⟩:=aJ h;obtain⟨x,p1,rfl,z2⟩:=ao z1;have h:=z2;exact Cm g (il es X _ g (cS h)) h
 |.F_ f es,X,e',g,h=>by
  simp only[ay]at h;obtain⟨f',as,p0,rfl,z1⟩:=aJ h;obtain⟨x,p1,rfl,z2⟩:=ao z1;obtain⟨c,rfl,z3⟩:=aW z2;obtain⟨g',as',p2,rfl,z4⟩:=aJ z3;obtain⟨y,p3,rfl,z5⟩:=ao z4;have h:=z5;exact za g (il es X _ g (cS h)) h
 |.Gr m a es,X,e',g,h=>by
  simp only[ay]at h;obtain⟨o,name,apos,as,Dx,rfl,z1⟩:=bB h;have h:=z1;have h':=h;simp only[Bool.and_eq_true]at h';exact zb g (bf a X _ g h'.1.2) (il es X _ g (cS h)) h
 |.call f es,X,e',g,h=>by
  simp only[ay]at h;obtain⟨f',as,p0,rfl,z1⟩:=aJ h;obtain⟨x,p1,rfl,z2⟩:=ao z1;have h:=z2;exact vP g (il es X _ g (cS h)) h
 |.comp n t ik src cond e,X,e',g,h=>by
  simp only[ay]at h;split at h
  ·rename_i elt tg iter ifs scope _;simp only[Bool.and_eq_true,decide_eq_true_eq]at h;obtain⟨⟨⟨⟨⟨⟨⟨h1,h2⟩,h3⟩,h4⟩,h5⟩,h6⟩,h7⟩,h8⟩:=h;subst h1;have S:=pT (X:=X) rfl (ij _ _) h2;split at h5
   ·rename_i as has;have DJ:=c_ h5;have hI:PI X tg iter (GP C ik (bH Γ src)):=y_ g has (il src X _ g h5) (λa e=>by
     subst e;cases src with
     |nil=>simp[aG]at h5
     |cons e1 Ec =>
      cases Ec with
      |nil =>
       simp only[aG,Bool.and_eq_true]at h5;exact⟨e1,rfl,bf e1 X _ g h5.1.2⟩
      |cons _ _=>simp[aG]at h5) DJ
    exact vF S g.calm hI (λD s H ex=>oN (fa:=false) g.calm g.K S.nd (λz=>nomatch z) h3)
     (λD s H ex=>by
      cases ifs with
      |nil =>
       cases cond with
       |nil=>exact λpins s σ H Q I ⟨c0,e1,e2,ok,w⟩=>mD pins s σ H Q I (by subst e1 e2;rw[show aO Γ []=pure true from rfl,ah]at w;exact w c0 rfl rfl ok (Nx.refl c0))
       |cons _ _=>simp[aG]at h7
      |cons c1 cs =>
       cases cs with
       |nil =>
        cases cond with
        |nil=>simp[aG]at h7
        |cons e1 Ec =>
         cases Ec with
         |nil =>
          simp only[aG,Bool.and_eq_true]at h7;exact qV (m8 e1 (Et X _ scope D s H ex) c1 (g.cx _ _ _ _ _ _) h7.1.2)
         |cons _ _=>simp[aG]at h7
       |cons _ _=>simp at h6)
     (λD s H ex=>bf e (Et X _ scope D s H ex) elt (g.cx _ _ _ _ _ _) h8) (qq h4)
   ·cases h5
  ·cases h
theorem il:∀(es:List E) (X:Cx) (Dz:List Expr),Gd ck Γ C d X->aG ck es X.N X.env.scope Dz=true->PA X Dz (EU C (bH Γ es))
 |[],X,Dz,g,h=>by
  cases Dz with
  |nil=>exact x9
  |cons _ _=>simp[aG]at h
 |e::es,X,Dz,g,h=>by
  cases Dz with
  |nil=>simp[aG]at h
  |cons e' Dz =>
   simp only[aG,Bool.and_eq_true]at h;exact vn (bf e X e' g h.1.2) (il es X Dz g h.2) (bc h.1.1)
theorem Cn:∀(es:List E) (X:Cx) (o:Option Expr),Gd ck Γ C d X->qp ck es X.N X.env.scope o=true->PO X o (tO C (IM Γ es))
 |[],X,o,g,h=>by
  cases o with
  |none=>exact tv
  |some _=>simp[qp]at h
 |[e],X,o,g,h=>by
  cases o with
  |none=>simp[qp]at h
  |some e'=>simp only[qp]at h;exact tw (bf e X e' g h)
 |_::_::_,X,o,g,h=>by simp[qp]at h
theorem vQ:∀(es:List E) (X:Cx) (Dz:List Expr),Gd ck Γ C d X->aG ck es X.N X.env.scope Dz=true->∀{pos},PE X (.BoolOp .And Dz pos) (DH C (vg Γ es))
 |[],X,Dz,g,h,pos=>λpins s σ H Q I ⟨_,_,_,_,w⟩=>(aA.mp w).elim
 |[e],X,Dz,g,h,pos=>by
  cases Dz with
  |nil=>simp[aG]at h
  |cons e' Dz =>
   cases Dz with
   |nil=>simp only[aG,Bool.and_eq_true]at h;exact ub (bf e X e' g h.1.2)
   |cons _ _=>simp[aG]at h
 |e::e1::es,X,Dz,g,h,pos=>by
  cases Dz with
  |nil=>simp[aG]at h
  |cons e' Dz =>
   have h':noStar e'=true/\ay ck e X.N X.env.scope e'=true/\aG ck (e1::es) X.N X.env.scope Dz=true:=by
    rw[aG]at h;simp only[Bool.and_eq_true]at h;exact⟨h.1.1,h.1.2,h.2⟩
   cases Dz with
   |nil=>have:=h'.2.2;simp[aG]at this
   |cons e2 Hh=>exact snd_and (bf e X e' g h'.2.1) (vQ (e1::es) X _ g h'.2.2)
theorem zc:∀(es:List E) (X:Cx) (Dz:List Expr),Gd ck Γ C d X->aG ck es X.N X.env.scope Dz=true->∀{pos},PE X (.BoolOp .Or Dz pos) (DH C (Av Γ es))
 |[],X,Dz,g,h,pos=>λpins s σ H Q I ⟨_,_,_,_,w⟩=>(aA.mp w).elim
 |[e],X,Dz,g,h,pos=>by
  cases Dz with
  |nil=>simp[aG]at h
  |cons e' Dz =>
   cases Dz with
   |nil=>simp only[aG,Bool.and_eq_true]at h;exact ub (bf e X e' g h.1.2)
   |cons _ _=>simp[aG]at h
 |e::e1::es,X,Dz,g,h,pos=>by
  cases Dz with
  |nil=>simp[aG]at h
  |cons e' Dz =>
   have h':noStar e'=true/\ay ck e X.N X.env.scope e'=true/\aG ck (e1::es) X.N X.env.scope Dz=true:=by
    rw[aG]at h;simp only[Bool.and_eq_true]at h;exact⟨h.1.1,h.1.2,h.2⟩
   cases Dz with
   |nil=>have:=h'.2.2;simp[aG]at this
   |cons e2 Hh=>exact AB (bf e X e' g h'.2.1) (zc (e1::es) X _ g h'.2.2)
theorem m8:∀(e:E) (X:Cx) (e':Expr),Gd ck Γ C d X->ay ck e X.N X.env.scope e'=true->PT X e' (EH C (DU Γ e))
 |.and es,X,e',g,h=>by
  simp only[ay]at h;split at h
  ·exact(rO es X _ g h).pt
  ·cases h
 |.or es,X,e',g,h=>by
  simp only[ay]at h;split at h
  ·exact(vR es X _ g h).pt
  ·cases h
 |.not a,X,e',g,h=>by
  simp only[ay]at h;split at h
  ·exact x6 (m8 a X _ g h)
  ·cases h
 |.cmp op a b,X,e',g,h=>by
  simp only[ay]at h;obtain⟨a',GU,b',p0,rfl,z1⟩:=d6 h;have h:=z1;simp only[Bool.and_eq_true,decide_eq_true_eq,Bool.not_eq_true']at h;obtain⟨⟨⟨rfl,h0⟩,h1⟩,h2⟩:=h;exact xY g.P g.w g.K g.u (bf a X _ g h1) (bf b X _ g h2) h0
 |.GN o1 o2 a b c,X,e',g,h=>absurd h (by simp[ay])
 |.var i,X,e',g,h=>by
  have hE:PE X e' (DH C (ev Γ (.var i))):=by
   have h':=h;simp only[ay]at h';split at h'
   ·simp only[Bool.and_eq_true,decide_eq_true_eq]at h';obtain⟨h3,h4⟩:=aX h'.2;exact mS h'.1.1 (cz h'.1.2) h3 h4
   ·cases h'
  simp only[ay]at h;split at h
  ·exact du hE g.K λ_=>rfl
  ·cases h
 |.idx a b,X,e',g,h=>by
  simp only[ay]at h;split at h
  ·simp only[Bool.and_eq_true]at h;have hE:=rE (pos:=by assumption) g.K g.u (jZ h.1.1) (bf a X _ g h.1.2) (bf b X _ g h.2);refine PT.eqv (du hE g.K λ_=>rfl) λst Q w=>?_;simp only[DU,ae]at w ⊢;exact w
  ·cases h
 |.bi f es,X,e',g,h=>by
  simp only[ay]at h;obtain⟨f',as,p0,rfl,z1⟩:=aJ h;obtain⟨x,p1,rfl,z2⟩:=ao z1;have h:=z2;refine PT.eqv (du (Cm g (il es X _ g (cS h)) h) g.K λ_=>rfl) λst Q w=>?_;simp only[DU,ev,ae]at w ⊢;exact w
 |.F_ f es,X,e',g,h=>by
  simp only[ay]at h;obtain⟨f',as,p0,rfl,z1⟩:=aJ h;obtain⟨x,p1,rfl,z2⟩:=ao z1;obtain⟨c,rfl,z3⟩:=aW z2;obtain⟨g',as',p2,rfl,z4⟩:=aJ z3;obtain⟨y,p3,rfl,z5⟩:=ao z4;have h:=z5;refine PT.eqv (du (za g (il es X _ g (cS h)) h) g.K λ_=>rfl) λst Q w=>?_;simp only[DU,ev,ae]at w ⊢;exact w
 |.Gr m a es,X,e',g,h=>by
  simp only[ay]at h;obtain⟨o,name,apos,as,Dx,rfl,z1⟩:=bB h;have h:=z1;have h':=h;simp only[Bool.and_eq_true]at h';refine PT.eqv (du (zb g (bf a X _ g h'.1.2) (il es X _ g (cS h)) h) g.K λ_=>rfl) λst Q w=>?_;simp only[DU,ev,ae]at w ⊢;exact w
 |.call f es,X,e',g,h=>by
  simp only[ay]at h;obtain⟨f',as,p0,rfl,z1⟩:=aJ h;obtain⟨x,p1,rfl,z2⟩:=ao z1;have h:=z2;refine PT.eqv (du (vP g (il es X _ g (cS h)) h) g.K λ_=>rfl) λst Q w=>?_;simp only[DU,ev,ae]at w ⊢;exact w
 |.cst u,X,e',g,h=>by
  have go:∀{v:V},PE X e' (tC v)->(∀S H,Rep C S H u v)->(∀whole,isTrue e' X.env whole=(do let v <-whole;standAt e'.pos;holding [v] (truthy v)))->PT X e' (EH C (DU Γ (.cst u))):=λ{v} h1 h2 h3=>by
   refine PT.eqv (du (gJ h1 h2) g.K h3) λst Q w=>?_;rw[ae,ah];exact w
  simp only[ay]at h;split at h
  ·have:=cu h;subst this;exact go pH (λ_ _=>rfl) λ_=>rfl
  ·have:=cu h;subst this;exact go t9 (λ_ _=>rfl) λ_=>rfl
  ·have:=cu h;subst this;exact go yS (λ_ _=>rfl) λ_=>rfl
  ·have:=cu h;subst this;exact go t8 (λ_ _=>rfl) λ_=>rfl
  ·cases h
 |.fst es,X,e',g,h=>λpins s σ H Q I ⟨_,_,_,_,w⟩=>(aA.mp w).elim
 |.LA x u,X,e',g,h=>λpins s σ H Q I ⟨_,_,_,_,w⟩=>(aA.mp w).elim
 |.IL a,X,e',g,h=>λpins s σ H Q I ⟨_,_,_,_,w⟩=>(aA.mp w).elim
 |.neg a,X,e',g,h=>λpins s σ H Q I ⟨_,_,_,_,w⟩=>(aA.mp w).elim
 |.FX a T,X,e',g,h=>by
  simp only[ay]at h;obtain⟨f',as,p0,rfl,z1⟩:=aJ h;obtain⟨x,p1,rfl,z2⟩:=ao z1;clear h z1;split at z2
  ·obtain⟨y,p2,rfl,z3⟩:=ao z2;have h:=z3;simp only[Bool.and_eq_true,decide_eq_true_eq]at h;obtain⟨⟨⟨⟨⟨rfl,rfl⟩,h1⟩,h2⟩,h3⟩,h4⟩:=h;refine PT.eqv (du (rF g.K (dk h1) (g.blt _ oO) (dk h2) (g.blt _ (vO T)) (bf a X _ g h4) (bc h3)) g.K λ_=>rfl) λst Q w=>?_;simp only[DU,ae]at w ⊢;refine W.mono w λx s1 w1=>?_;obtain⟨b,e,w2⟩:=bG.mp w1;exact bG.mpr ⟨b,e,ah.mpr (bG.mpr ⟨b,rfl,w2⟩)⟩
  ·cases z2
 |.bad,X,e',g,h=>λpins s σ H Q I ⟨_,_,_,_,w⟩=>(aA.mp w).elim
 |.inD neg a i,X,e',g,h=>by
  simp only[ay]at h;obtain⟨a',GU,b',p0,rfl,z1⟩:=d6 h;obtain⟨x,p1,rfl,z2⟩:=ao z1;have h:=z2;simp only[Bool.and_eq_true,decide_eq_true_eq,Bool.not_eq_true']at h;obtain⟨⟨⟨⟨⟨rfl,h0⟩,h1⟩,h2⟩,h3⟩,h4⟩:=h;obtain⟨q1,q2⟩:=aX h3;exact yn g.u h1 (cz h2) q1 q2 (bf a X _ g h4) h0
 |.Jv i,X,e',g,h=>λpins s σ H Q I ⟨_,_,_,_,w⟩=>(aA.mp w).elim
 |.Jx ln a b,X,e',g,h=>λpins s σ H Q I ⟨_,_,_,_,w⟩=>(aA.mp w).elim
 |.Jw i,X,e',g,h=>λpins s σ H Q I ⟨_,_,_,_,w⟩=>(aA.mp w).elim
 |.FK i a b,X,e',g,h=>λpins s σ H Q I ⟨_,_,_,_,w⟩=>(aA.mp w).elim
 |.bin op a b,X,e',g,h=>λpins s σ H Q I ⟨_,_,_,_,w⟩=>(aA.mp w).elim
 |.ite c a b,X,e',g,h=>λpins s σ H Q I ⟨_,_,_,_,w⟩=>(aA.mp w).elim
 |.tup es,X,e',g,h=>λpins s σ H Q I ⟨_,_,_,_,w⟩=>(aA.mp w).elim
 |.lst es,X,e',g,h=>λpins s σ H Q I ⟨_,_,_,_,w⟩=>(aA.mp w).elim
 |.E_ r,X,e',g,h=>λpins s σ H Q I ⟨_,_,_,_,w⟩=>(aA.mp w).elim
 |.HP a lo hi,X,e',g,h=>λpins s σ H Q I ⟨_,_,_,_,w⟩=>(aA.mp w).elim
 |.comp n t ik src cond e,X,e',g,h=>λpins s σ H Q I ⟨_,_,_,_,w⟩=>(aA.mp w).elim
theorem rO:∀(es:List E) (X:Cx) (Dz:List Expr),Gd ck Γ C d X->aG ck es X.N X.env.scope Dz=true->∀{pos},PW X (.BoolOp .And Dz pos) (EH C (aO Γ es))
 |[],X,Dz,g,h,pos=>by
  cases Dz with
  |nil =>
   rintro wh pins s σ H Q I ⟨c0,rfl,rfl,ok,w⟩;rw[show aO Γ []=pure true from rfl,ah]at w;exact isTrue_and_nil ⟨c0.H,I,w c0 rfl rfl ok (Nx.refl c0)⟩
  |cons _ _=>simp[aG]at h
 |[e],X,Dz,g,h,pos=>by
  cases Dz with
  |nil=>simp[aG]at h
  |cons e' Dz =>
   cases Dz with
   |nil=>simp only[aG,Bool.and_eq_true]at h;exact w9 (m8 e X e' g h.1.2)
   |cons _ _=>simp[aG]at h
 |e::e1::es,X,Dz,g,h,pos=>by
  cases Dz with
  |nil=>simp[aG]at h
  |cons e' Dz =>
   have h':noStar e'=true/\ay ck e X.N X.env.scope e'=true/\aG ck (e1::es) X.N X.env.scope Dz=true:=by
    rw[aG]at h;simp only[Bool.and_eq_true]at h;exact⟨h.1.1,h.1.2,h.2⟩
   cases Dz with
   |nil=>have:=h'.2.2;simp[aG]at this
   |cons e2 Hh=>exact x8 (m8 e X e' g h'.2.1) (rO (e1::es) X _ g h'.2.2)
theorem vR:∀(es:List E) (X:Cx) (Dz:List Expr),Gd ck Γ C d X->aG ck es X.N X.env.scope Dz=true->∀{pos},PW X (.BoolOp .Or Dz pos) (EH C (iH Γ es))
 |[],X,Dz,g,h,pos=>by
  cases Dz with
  |nil =>
   rintro wh pins s σ H Q I ⟨c0,rfl,rfl,ok,w⟩;rw[show iH Γ []=pure false from rfl,ah]at w;exact isTrue_or_nil ⟨c0.H,I,w c0 rfl rfl ok (Nx.refl c0)⟩
  |cons _ _=>simp[aG]at h
 |[e],X,Dz,g,h,pos=>by
  cases Dz with
  |nil=>simp[aG]at h
  |cons e' Dz =>
   cases Dz with
   |nil=>simp only[aG,Bool.and_eq_true]at h;exact zv (m8 e X e' g h.1.2)
   |cons _ _=>simp[aG]at h
 |e::e1::es,X,Dz,g,h,pos=>by
  cases Dz with
  |nil=>simp[aG]at h
  |cons e' Dz =>
   have h':noStar e'=true/\ay ck e X.N X.env.scope e'=true/\aG ck (e1::es) X.N X.env.scope Dz=true:=by
    rw[aG]at h;simp only[Bool.and_eq_true]at h;exact⟨h.1.1,h.1.2,h.2⟩
   cases Dz with
   |nil=>have:=h'.2.2;simp[aG]at this
   |cons e2 Hh=>exact AD (m8 e X e' g h'.2.1) (vR (e1::es) X _ g h'.2.2)
end
end
noncomputable def KJ(sc:Scope)(x:Str)(line:Nat):Expr->Bool
 |.ListComp elt gens s pos=>decide (sc.names.lookup x=some .local)&&(line==pos.line)&&!(s.names.any λ(n,k)=>n==x&&(k==.local||k==.cell))
 |_=>false
noncomputable def oP(s:Stmt)(k:Expr->Bool):Bool:=match s with|.Expr e _=>k e|_=>false
theorem fX(h:oP s k=true):∃e p,s=.Expr e p/\k e=true:=by
 unfold oP at h;split at h
 ·exact⟨_,_,rfl,h⟩
 ·cases h
noncomputable def rP(s:Stmt)(k:Expr->Expr->Bool):Bool:=match s with|.Assign ts v _=>dw ts λt=>k t v|_=>false
theorem j4(h:rP s k=true):∃t v p,s=.Assign [t] v p/\k t v=true:=by
 unfold rP at h;split at h
 ·obtain⟨t,rfl,z1⟩:=aW h;exact⟨_,_,_,rfl,h⟩
 ·cases h
noncomputable def qr(e:Expr)(k:Expr->Expr->Expr->Scope->Bool):Bool:=match e with
 |.ListComp elt gens scope _=>dw gens λg=>match g with
  |⟨tg,iter,[],0⟩=>k elt tg iter scope
  |_=>false
 |_=>false
theorem oQ(h:qr e k=true):∃elt tg iter scope p,e=.ListComp elt [⟨tg,iter,[],0⟩] scope p/\k elt tg iter scope=true:=by
 unfold qr at h;split at h
 ·obtain⟨g,rfl,z1⟩:=aW h;split at z1
  ·exact⟨_,_,_,_,_,rfl,z1⟩
  ·cases z1
 ·cases h
mutual
noncomputable def dq(k:Ck):S->List Str->Scope->Stmt->Bool
 |.set i e,N,sc,s=>match s with
  |.Assign [.Name x p] v _=>decide (N[i]?=some x)&&m6 sc x&&decide (sc.kind=.function)&&ay k e N sc v&&(cZ v||KJ sc x p.line v||(match v with|.ListComp _ _ _ _=>true|_=>false))&&(match e with|.comp _ _ _ _ _ _=>true|_=>cZ v)
  |_=>false
 |.Hn is e,N,sc,s=>match s with
  |.Assign [.Tuple es kk p] v _=>I_ true N sc true is (.Tuple es kk p)&&cZ v&&A0 v&&ay k e N sc v
  |_=>false
 |.put i a b,N,sc,s=>rP s λt b'=>jY t λo a'=>bt o λx=>decide (N[i]?=some x)&&gM sc x&&bX x&&cZ b'&&dv a'&&ay k a N sc a'&&ay k b N sc b'
 |.app i e,N,sc,s=>oP s λc=>eX c λo m apos as Dx=>bt o λx=>dw as λa=>decide (m="append")&&decide (N[i]?=some x)&&gM sc x&&bX x&&(apos.endLine==Dx.line)&&noStar a&&ay k e N sc a
 |.ext i e,N,sc,s=>oP s λc=>eX c λo m apos as Dx=>bt o λx=>dw as λa=>decide (m="extend")&&decide (N[i]?=some x)&&gM sc x&&bX x&&(apos.endLine==Dx.line)&&noStar a&&ay k e N sc a
 |.bad,_,_,_=>true
 |.newD i,N,sc,s=>match s with
  |.Assign [.Name x p] (.Dict [] [] _) _=>decide (N[i]?=some x)&&m6 sc x
  |_=>false
 |.putD i a b,N,sc,s=>rP s λt b'=>jY t λo a'=>bt o λx=>decide (N[i]?=some x)&&gM sc x&&bX x&&cZ b'&&dv a'&&ay k a N sc a'&&ay k b N sc b'
 |.EZ i a e,N,sc,s=>oP s λc=>eX c λo m apos as Dx=>jY o λo' a'=>bt o' λx=>dw as λb=>decide (m="append")&&decide (N[i]?=some x)&&gM sc x&&bX x&&dv a'&&(apos.endLine==Dx.line)&&noStar b&&ay k a N sc a'&&ay k e N sc b
 |.aug sub i a e,N,sc,s=>match s with
  |.AugAssign t op b _=>jY t λo a'=>bt o λx=>decide (op=if sub=true then .Sub else .Add)&&decide (N[i]?=some x)&&gM sc x&&bX x&&dv a'&&ay k a N sc a'&&ay k e N sc b
  |_=>false
 |.LB _,_,_,_=>false
 |.exp e,N,sc,s=>match s with
  |.Expr e' _=>cZ e'&&ay k e N sc e'
  |_=>false
 |.ret e,N,sc,s=>match s with
  |.Return (some e') _=>ay k e N sc e'
  |_=>false
 |.Ga i e,N,sc,s=>match s with
  |.Return (some v) _=>qr v λelt tg iter scope=>eX iter λo m apos as Dx=>bt o λx=>as.isEmpty&&decide (m="items")&&decide (N[i]?=some x)&&gM sc x&&bX x&&(apos.endLine==Dx.line)&&isTup tg&&decide ((cE tg).length=2) &&
   xw (cE tg++hide (cE tg) N) (cE tg) scope sc.names&&I_ true (cE tg++hide (cE tg) N) (vM scope sc) false (List.range 2) tg&&ay k e (cE tg++hide (cE tg) N) (vM scope sc) elt
  |_=>false
 |.Ho,N,sc,s=>match s with
  |.Return none _=>true
  |_=>false
 |.ite c a b,N,sc,s=>match s with
  |.If c' a' b' _=>ay k c N sc c'&&dy k a N sc a'&&dy k b N sc b'
  |_=>false
 |.DS t is ik src body,N,sc,s=>match s with
  |.For tg iter F0 [] _=>I_ t N sc true is tg&&ql iter&&(match eV sc tg ik iter with
    |some as=>aG k src N sc as
    |none=>false)&&dy k body N sc F0
  |_=>false
 |.HQ c body,N,sc,s=>match s with
  |.While c' F0 [] _=>ay k c N sc c'&&dy k body N sc F0
  |_=>false
 |.brk,_,_,s=>match s with
  |.Break _=>true
  |_=>false
 |.cnt,_,_,s=>match s with
  |.Continue _=>true
  |_=>false
 |.LC,_,_,s=>match s with
  |.Pass _=>true
  |_=>false
noncomputable def dy(k:Ck):List S->List Str->Scope->List Stmt->Bool
 |[],_,_,FE=>FE.isEmpty
 |s::ss,N,sc,FE=>match FE with
  |s'::FE=>dq k s N sc s'&&dy k ss N sc FE
  |[]=>false
end
section
variable{ck:Ck}{Γ:Tab}{C:Ct}{d:Nat}{X:Cx}
theorem qt(h:m6 sc x=true):Loc sc x:=by
 unfold m6 at h;simp only[Bool.or_eq_true,decide_eq_true_eq]at h;exact h
theorem gN(h:cZ v=true):swapsWith v t line env=pure false:=by
 cases v<;>first|rfl|cases h
theorem m9(h:cZ v=true):swapsWithSole [t] v line env=pure false:=by
 rw[swapsWithSole];exact gN h
theorem yy(h:dv i=true):∀ov iv new,augStore i ov iv new=(do holding [new,ov,iv] (setItem ov iv new);release [new,ov,iv] [];pure .next):=by
 intro ov iv new;cases i<;>first|rfl|cases h
theorem rQ(h:dv i=true):∀v,assign (.Subscript o i p) env v=(do
   let ov <-holding [v] (eval o env)
   let iv <-holding [v,ov] (eval i env)
   standAt p
   holding [v,ov,iv] (setItem ov iv v)
   release [v,ov,iv] []):=by
 intro v;cases i<;>first|rfl|cases h
structure Gs(ck:Ck)(Γ:Tab)(C:Ct)(d:Nat)(X:Cx):Prop where
 gd:Gd ck Γ C d X
 nd:X.N.Nodup
 fn:∀x,X.fn x=true
 po:PassesOwn (model X.prog X.w) X.A X.env X.xe
 kd:X.env.scope.kind=.function
theorem rR(g:Gd ck Γ C d X)(h:(match eV X.env.scope tg ik iter with|some as=>aG ck src X.N X.env.scope as|none=>false)=true):PI X tg iter (GP C ik (bH Γ src)):=by
 split at h
 ·rename_i as has;exact y_ g has (il src X _ g h) (λa e=>by
   subst e;cases src with
   |nil=>simp[aG]at h
   |cons e1 Ec =>
    cases Ec with
    |nil =>
     simp only[aG,Bool.and_eq_true]at h;exact⟨e1,rfl,bf e1 X _ g h.1.2⟩
    |cons _ _=>simp[aG]at h) (c_ h)
 ·cases h
theorem j5{pos p F3:Pos}(hk:X.env.scope.kind=.function):swapsWith (.ListComp elt gens s pos) (some (.Name x p)) F3.line X.env=pure (KJ X.env.scope x p.line (.ListComp elt gens s pos)):=by
 have hb:X.env.blockKind=.function:=by
  unfold Env.blockKind;rw[hk];rfl
 show(pure (X.env.blockKind==.function&&X.env.kindOf x==some .local&&p.line==pos.line&&!(s.names.any λ(n,k)=>n==x&&(k==.local||k==.cell))):Sem Bool)=_;rw[hb];unfold KJ;congr 1
 have:(X.env.kindOf x==some NameKind.local)=decide (X.env.scope.names.lookup x=some .local):=by
  unfold Env.kindOf;rw[Bool.eq_iff_iff];simp
 rw[this];rfl
theorem A5{src cond:List E}(G:Gs ck Γ C d X)(hi:X.N[i]?=some x)(hx:m6 X.env.scope x=true)
  (h:ay ck (.comp n t ik src cond e) X.N X.env.scope (.ListComp elt [⟨tg,iter,ifs,0⟩] scope pos)=true) (ns:Nat->Bool) (EX:∀j,ns j=true->j≠i) :
  L2.PS X (.Assign [.Name x p] (.ListComp elt [⟨tg,iter,ifs,0⟩] scope pos) F3) (Eo C ns (ev Γ (.comp n t ik src cond e) >>= λr=>d0 i r >>= λ_=>pure .nx)):=by
 have g:=G.gd;have hE:=bf (.comp n t ik src cond e) X _ g h;cases Hz:KJ X.env.scope x p.line (.ListComp elt [⟨tg,iter,ifs,0⟩] scope pos) with
 |false=>exact y9 EX G.nd hi (qt hx) (.inl (G.fn x)) hE (by rw[j5 G.kd,Hz])
 |true =>
  have hl:X.env.scope.names.lookup x=some .local:=by
   simp only[KJ,Bool.and_eq_true,decide_eq_true_eq]at Hz;exact Hz.1.1
  simp only[ay,Bool.and_eq_true,decide_eq_true_eq]at h;obtain⟨⟨⟨⟨⟨⟨⟨h1,h2⟩,h3⟩,h4⟩,h5⟩,h6⟩,h7⟩,h8⟩:=h;subst h1;have S:=pT (X:=X) rfl (ij _ _) h2;exact AU EX S g.calm G.nd hi hl (rR g h5) (λD s H ex=>oN (fa:=false) g.calm g.K S.nd (λz=>nomatch z) h3)
   (λD s H ex=>by
    cases ifs with
    |nil =>
     cases cond with
     |nil=>exact λpins s σ H Q I ⟨c0,e1,e2,ok,w⟩=>mD pins s σ H Q I (by subst e1 e2;rw[show aO Γ []=pure true from rfl,ah]at w;exact w c0 rfl rfl ok (Nx.refl c0))
     |cons _ _=>simp[aG]at h7
    |cons c1 cs =>
     cases cs with
     |nil =>
      cases cond with
      |nil=>simp[aG]at h7
      |cons e1 Ec =>
       cases Ec with
       |nil =>
        simp only[aG,Bool.and_eq_true]at h7;exact qV (m8 e1 (Et X _ scope D s H ex) c1 (g.cx _ _ _ _ _ _) h7.1.2)
       |cons _ _=>simp[aG]at h7
     |cons _ _=>simp at h6)
   (λD s H ex=>bf e (Et X _ scope D s H ex) elt (g.cx _ _ _ _ _ _) h8) (by rw[j5 G.kd,Hz]) (qq h4)
mutual
theorem Dt:∀(s:S) (X:Cx) (s':Stmt),Gs ck Γ C d X->dq ck s X.N X.env.scope s'=true->L2.PS X s' (Eo C (Hq s) (exec Γ s))
 |.set i e,X,s',G,h=>by
  simp only[dq]at h;split at h
  ·rename_i x p v _;simp only[Bool.and_eq_true,decide_eq_true_eq]at h;obtain⟨⟨⟨⟨⟨h1,h2⟩,h3⟩,h4⟩,h5⟩,h6⟩:=h;have EX:∀j,Hq (.set i e) j=true->j≠i:=λj hj=>by simpa[Hq] using hj
   by_cases hc:cZ v=true
   ·exact y9 EX G.nd h1 (qt h2) (.inl (G.fn x)) (bf e X v G.gd h4) (gN hc)
   ·cases e with
    |comp n t ik src cond e =>
     have NJ:=h4;simp only[ay]at NJ;split at NJ
     ·exact A5 G h1 h2 h4 _ EX
     ·cases NJ
    |_=>exact absurd h6 hc
  ·cases h
 |.Hn is e,X,s',G,h=>by
  simp only[dq]at h;split at h
  ·simp only[Bool.and_eq_true]at h;obtain⟨⟨⟨h1,h2⟩,h3⟩,h4⟩:=h;rename_i es kk p v _;refine AV (λj hj=>by simpa[Hq] using hj) (bf e X v G.gd h4) (oN (fa:=true) G.gd.calm G.gd.K G.nd (λ_=>G.fn) h1) (m9 h2) ?_ rfl;cases v<;>first|rfl|cases h3
  ·cases h
 |.put i a b,X,s',G,h=>by
  simp only[dq]at h;obtain⟨t,v,p,rfl,z1⟩:=j4 h;obtain⟨o,a',p1,rfl,z2⟩:=di z1;obtain⟨x,px,rfl,z3⟩:=ao z2;simp only[Bool.and_eq_true,decide_eq_true_eq]at z3;obtain⟨⟨⟨⟨⟨⟨h1,h2⟩,h3⟩,h4⟩,h5⟩,h6⟩,h7⟩:=z3;obtain⟨q1,q2⟩:=aX h3;exact Cc G.gd.P G.gd.w G.gd.K G.gd.u h1 (cz h2) q1 q2 (bf b X _ G.gd h7) (bf a X _ G.gd h6) (m9 h4) rfl (rQ h5)
 |.app i e,X,s',G,h=>by
  simp only[dq]at h;obtain⟨c,p0,rfl,z1⟩:=fX h;obtain⟨o,m,apos,as,Dx,rfl,z2⟩:=bB z1;obtain⟨x,px,rfl,z3⟩:=ao z2;obtain⟨a,rfl,z4⟩:=aW z3;simp only[Bool.and_eq_true,decide_eq_true_eq]at z4;obtain⟨⟨⟨⟨⟨⟨rfl,h1⟩,h2⟩,h3⟩,h4⟩,h5⟩,h6⟩:=z4;obtain⟨q1,q2⟩:=aX h3;have st:=bc (env:=X.env) (es:=[]) h5;have sa:=(bE (pos:=Dx) (env:=X.env) (es:=[a]) λe he=>by simp at he;subst he;exact h5).2;refine Ca G.gd.K h1 (cz h2) q1 q2 (bf e X _ G.gd h6) ?_ h4 st;rw[sa];rfl
 |.ext i e,X,s',G,h=>by
  simp only[dq]at h;obtain⟨c,p0,rfl,z1⟩:=fX h;obtain⟨o,m,apos,as,Dx,rfl,z2⟩:=bB z1;obtain⟨x,px,rfl,z3⟩:=ao z2;obtain⟨a,rfl,z4⟩:=aW z3;simp only[Bool.and_eq_true,decide_eq_true_eq]at z4;obtain⟨⟨⟨⟨⟨⟨rfl,h1⟩,h2⟩,h3⟩,h4⟩,h5⟩,h6⟩:=z4;obtain⟨q1,q2⟩:=aX h3;have st:=bc (env:=X.env) (es:=[]) h5;have sa:=(bE (pos:=Dx) (env:=X.env) (es:=[a]) λe he=>by simp at he;subst he;exact h5).2;refine Cb G.gd.K h1 (cz h2) q1 q2 (bf e X _ G.gd h6) ?_ h4 st;rw[sa];rfl
 |.bad,X,s',G,h=>λpins sh σ H D I ⟨_,_,_,_,w⟩=>(aA.mp w).elim
 |.newD i,X,s',G,h=>by
  simp only[dq]at h;split at h
  ·simp only[Bool.and_eq_true,decide_eq_true_eq]at h;exact AX (λj hj=>by simpa[Hq] using hj) G.nd h.1 (qt h.2) (.inl (G.fn _)) (gN rfl)
  ·cases h
 |.putD i a b,X,s',G,h=>by
  simp only[dq]at h;obtain⟨t,v,p,rfl,z1⟩:=j4 h;obtain⟨o,a',p1,rfl,z2⟩:=di z1;obtain⟨x,px,rfl,z3⟩:=ao z2;simp only[Bool.and_eq_true,decide_eq_true_eq]at z3;obtain⟨⟨⟨⟨⟨⟨h1,h2⟩,h3⟩,h4⟩,h5⟩,h6⟩,h7⟩:=z3;obtain⟨q1,q2⟩:=aX h3;exact AY G.gd.u h1 (cz h2) q1 q2 (bf b X _ G.gd h7) (bf a X _ G.gd h6) (m9 h4) rfl (rQ h5)
 |.EZ i a e,X,s',G,h=>by
  simp only[dq]at h;obtain⟨c,p0,rfl,z1⟩:=fX h;obtain⟨o,m,apos,as,Dx,rfl,z2⟩:=bB z1;obtain⟨o',a',p1,rfl,z3⟩:=di z2;obtain⟨x,px,rfl,z4⟩:=ao z3;obtain⟨b,rfl,z5⟩:=aW z4;simp only[Bool.and_eq_true,decide_eq_true_eq]at z5;obtain⟨⟨⟨⟨⟨⟨⟨⟨rfl,h1⟩,h2⟩,h3⟩,h4⟩,h5⟩,h6⟩,h7⟩,h8⟩:=z5;obtain⟨q1,q2⟩:=aX h3;have st:=bc (env:=X.env) (es:=[]) h6;have sa:=(bE (pos:=Dx) (env:=X.env) (es:=[b]) λe he=>by simp at he;subst he;exact h6).2;refine AZ G.gd.K G.gd.u h1 (cz h2) q1 q2 (bf e X _ G.gd h8) (bf a X _ G.gd h7) (jZ h4) ?_ h5 st;rw[sa];rfl
 |.aug sub i a e,X,s',G,h=>by
  simp only[dq]at h;split at h
  ·obtain⟨o,a',p1,rfl,z1⟩:=di h;obtain⟨x,px,rfl,z2⟩:=ao z1;simp only[Bool.and_eq_true,decide_eq_true_eq]at z2;obtain⟨⟨⟨⟨⟨⟨rfl,h1⟩,h2⟩,h3⟩,h4⟩,h5⟩,h6⟩:=z2;obtain⟨q1,q2⟩:=aX h3;exact Ci h1 (cz h2) q1 q2 (bf e X _ G.gd h6) (bf a X _ G.gd h5) (yy h4)
  ·cases h
 |.LB i,X,s',G,h=>absurd h (by simp[dq])
 |.exp e,X,s',G,h=>by
  simp only[dq]at h;split at h
  ·simp only[Bool.and_eq_true]at h;exact B6 (bf e X _ G.gd h.2) (gN h.1)
  ·cases h
 |.ret e,X,s',G,h=>by
  simp only[dq]at h;split at h
  ·exact B7 (bf e X _ G.gd h)
  ·cases h
 |.Ga i e,X,s',G,h=>by
  have g:=G.gd;simp only[dq]at h;split at h
  ·obtain⟨elt,tg,iter,scope,p,rfl,z1⟩:=oQ h;obtain⟨o,m,apos,as,Dx,rfl,z2⟩:=bB z1;obtain⟨x,px,rfl,z3⟩:=ao z2;simp only[Bool.and_eq_true,decide_eq_true_eq,List.isEmpty_iff]at z3;obtain⟨⟨⟨⟨⟨⟨⟨⟨⟨⟨rfl,rfl⟩,h1⟩,h2⟩,h3⟩,h4⟩,h5⟩,h6⟩,h7⟩,h8⟩,h9⟩:=z3;cases tg with
   |Tuple es kx ps =>
    obtain⟨q1,q2⟩:=aX h3;have S:=pT (X:=X) rfl (ij _ _) h7;rw[<-h6]at h8;exact AW h1 (cz h2) q1 q2 h4 S g.calm h6 (λD s H ex=>oN (fa:=false) g.calm g.K S.nd (λz=>nomatch z) h8) (λD s H ex=>bf e _ _ (g.cx _ _ _ _ _ _) h9)
   |_=>cases h5
  ·cases h
 |.Ho,X,s',G,h=>by
  simp only[dq]at h;split at h
  ·exact AS
  ·cases h
 |.ite c a b,X,s',G,h=>by
  simp only[dq]at h;split at h
  ·simp only[Bool.and_eq_true]at h;have ha:=lM a X _ G h.1.2;have hb:=lM b X _ G h.2;exact B8 (m8 c X _ G.gd h.1.1) (EA.weak ha λD σ H z=>mY (λj hj=>by simp only[Hq,Bool.and_eq_true]at hj;exact hj.1) z) (EA.weak hb λD σ H z=>mY (λj hj=>by simp only[Hq,Bool.and_eq_true]at hj;exact hj.2) z)
  ·cases h
 |.DS t is ik src body,X,s',G,h=>by
  simp only[dq]at h;split at h
  ·rename_i tg iter F0 _;rw[Bool.and_eq_true,Bool.and_eq_true,Bool.and_eq_true]at h;exact B_ G.po G.gd.calm (rR G.gd h.1.2) (oN (fa:=true) G.gd.calm G.gd.K G.nd (λ_=>G.fn) h.1.1.1) (lM body X _ G h.2) (qq h.1.1.2) λj hj=>by simpa[Hq] using hj
  ·cases h
 |.HQ c body,X,s',G,h=>by
  simp only[dq]at h;split at h
  ·simp only[Bool.and_eq_true]at h;exact B9 G.po (m8 c X _ G.gd h.1) (lM body X _ G h.2)
  ·cases h
 |.brk,X,s',G,h=>by
  simp only[dq]at h;split at h
  ·exact B3
  ·cases h
 |.cnt,X,s',G,h=>by
  simp only[dq]at h;split at h
  ·exact B4
  ·cases h
 |.LC,X,s',G,h=>by
  simp only[dq]at h;split at h
  ·exact B5
  ·cases h
theorem lM:∀(ss:List S) (X:Cx) (FE:List Stmt),Gs ck Γ C d X->dy ck ss X.N X.env.scope FE=true->EA X FE (Eo C (Gu ss) (execs Γ ss))
 |[],X,FE,G,h=>by
  cases FE with
  |nil=>exact B1
  |cons _ _=>simp[dy]at h
 |s::ss,X,FE,G,h=>by
  cases FE with
  |nil=>simp[dy]at h
  |cons s' FE =>
   simp only[dy,Bool.and_eq_true]at h;have h1:=Dt s X s' G h.1;have h2:=lM ss X FE G h.2;exact AR (PS.weak h1 λD σ H z=>mY (λj hj=>by simp only[Gu,Bool.and_eq_true]at hj;exact hj.1) z) (EA.weak h2 λD σ H z=>mY (λj hj=>by simp only[Gu,Bool.and_eq_true]at hj;exact hj.2) z)
end
end
section
variable{ck:Ck}{Γ:Tab}{d:Nat}{P:Program}{w:World}{K:PySem.W.Frag}{mg:Str->Option Value}{base:Heap}
theorem ip{n i:Nat}(h:(start us n)[i]?=some (some (k,u))):us[i]?=some u/\k=if D9 u=true then .loc else .any:=by
 unfold start at h;by_cases hi:i<us.length
 ·rw[List.getElem?_append_left (by simpa using hi),List.getElem?_map]at h;rw[List.getElem?_eq_getElem hi]at h ⊢;simp only[Option.map_some,Option.some.injEq,Prod.mk.injEq]at h;obtain⟨h1,h2⟩:=h;subst h2;exact⟨rfl,h1.symm⟩
 ·rw[List.getElem?_append_right (by simp;omega),List.getElem?_replicate]at h;split at h<;>cases h
theorem qu{i:Nat}(h:vs[i]?=some v):(L2.start N vs)[i]?=some (some v):=by
 unfold L2.start;have hi:i<vs.length:=(List.getElem?_eq_some_iff.mp h).1;rw[List.getElem?_append_left (by simpa using hi),List.getElem?_map,h];rfl
theorem vT(hP:∀a,Pr a->Gq H a)(h:ai (G' P w K H Pr) Pr H us vs)(hn:N.length=n):Ok (G' P w K H Pr) ⟨λ_=>False,H,L2.start N vs,start us n,λ_=>[]⟩:=by
 have NK:∀(j:Nat) (u:U),(start us n)[j]?≠some (some (.Dw,u)):=λj u e=>by
  have:=(ip e).2;split at this<;>cases this
 refine⟨λa o e _=>e,λa z=>z.elim,λa z=>⟨hP a z,λz=>z⟩,λa z=>z.elim,?_,λi k u e=>?_,λi j k k' u u' r hk ET e1 e2 e3 e4=>?_,⟨λj u r e _=>(NK j u e).elim,λi j a ⟨u,_,e,_⟩=>(NK i u e).elim,λj a ⟨u,_,e,_⟩=>(NK j u e).elim⟩⟩
 ·have:=h.len;simp[start,L2.start,hn];omega
 ·obtain⟨e1,e2⟩:=ip e;obtain⟨v,ev,rep⟩:=h.get e1;refine⟨v,qu ev,?_⟩;subst e2;by_cases hu:D9 u=true
  ·rw[if_pos hu];exact Rep.D9 hu rep
  ·rw[if_neg hu];exact Rep.mv (.up λa z=>.inl z) rep
 ·obtain⟨_,e5⟩:=ip e1;subst e5;split at hk<;>cases hk
theorem m_(h:bP Γ fn us=some (.ok (k,u))):us.length=fn.np/\((k=.own\/k=.loc\/k=.any)/\(∃st',execs Γ fn.body (start us fn.ns)=some (.ok (.rt k u),st'))\/(k=.loc/\u=.DF/\∃st',execs Γ fn.body (start us fn.ns)=some (.ok .nx,st'))):=by
 unfold bP at h;split at h
 ·rename_i hl;refine⟨hl,?_⟩;split at h
  ·rename_i e;cases h;exact .inl ⟨.inl rfl,_,e⟩
  ·rename_i e;cases h;exact .inl ⟨.inr (.inl rfl),_,e⟩
  ·rename_i e;cases h;exact .inl ⟨.inr (.inr rfl),_,e⟩
  ·rename_i e;cases h;exact .inr ⟨rfl,rfl,_,e⟩
  ·cases h
  ·cases h
 ·cases h
theorem zd{st:Stmt}(F:Iq K fn.name qual st f fd)(S:dS N ps (aQ st))(hN:N.length=fn.ns)(G6:ps.length=fn.np)
  (NM:dy ck fn.body N (aQ st) (cP st)=true) (blt:∀x∈bI,mg x=none) (fns:∀g∈ck.fns,A2 P w K mg base d (Γ g) g)
  (HZ:∀p∈ck.gl,∃val v,mg p.1=some val/\RelV v val/\∀(C:Ct) S H,Rep C S H p.2 v):nS P w K mg base Hx (d+1) f fd ps (spT P w K (bP Γ fn) fn.np):=by
 refine F.ok S (λvs H Q E h=>h.1.trans G6.symm) (λEK A outer s H vs Q E hr h=>?_);obtain⟨hl,us,k,u,Pr,DT,hk,Sh,rep,cont⟩:=h;have Ky:=hr.un;have G:Gs ck Γ (G' P w K H Pr) d (pO Hx P w K mg base N qual (aQ st) f EK A outer s H E).JN :=
  ⟨⟨rfl,rfl,rfl,by show(A.deeper (envOfC qual (aQ st) s.heap.objs.size f EK)).units+60<cLine;omega,rfl,hr,blt,fns,λp hp=>let ⟨val,v,q1,q2,q3⟩:=HZ p hp;⟨val,v,q1,q2,q3 _⟩⟩,S.nd,λ_=>rfl,PassesOwn.never,S.kind⟩
 refine⟨_,lM fn.body _ _ G NM,⟨λ_=>False,H,L2.start N vs,start us fn.ns,λ_=>[]⟩,rfl,rfl,vT Sh rep hN,?_⟩;obtain⟨_,NO⟩:=m_ DT;have mk:∀(c:Cf),Ok (G' P w K H Pr) c->∀v,B0 (G' P w K H Pr) c k u v->Back (G' P w K H Pr) H c.H c.S k u v:=λc ok v r=>by
  refine⟨λa o e=>ok.same a o e λz=>z,λa z=>ok.Fp a z,λe=>?_,λe=>?_,λe=>?_⟩
  ·subst e;obtain⟨r0,e,h1,h2,h3,h4⟩:=r;exact⟨r0,e,h1,h2,h4⟩
  ·subst e;exact r
  ·subst e;exact r
 rcases NO with⟨_,st',e⟩|⟨rfl,rfl,st',e⟩
 ·exact⟨_,st',e,λc ec ok n kp v r=>cont v c.H c.S (mk c ok v r)⟩
 ·exact⟨_,st',e,λc ec ok n kp=>cont .DF c.H c.S (mk c ok .DF rfl)⟩
structure Ld(ck:Ck)(K:PySem.W.Frag)(mg:Str->Option Value)(fn:Fn):Prop where
 ex:∃(qual:Str) (st:Stmt) (f:Addr) (fd:FuncData) (N ps:List Str),Iq K fn.name qual st f fd/\mg fn.name=some (.ref f)/\Binds K fd ps []/\dS N ps (aQ st)/\N.length=fn.ns/\ps.length=fn.np/\dy ck fn.body N (aQ st) (cP st)=true
theorem yz{Pg:List Fn}(DN:(Pg.map (·.name)).Nodup)(h:fn∈Pg):Pg.find? (λg=>decide (g.name=fn.name))=some fn:=by
 induction Pg with
 |nil=>cases h
 |cons g Pg ih =>
  rw[List.map_cons,List.nodup_cons]at DN;rcases List.mem_cons.mp h with rfl|h
  ·simp
  ·rw[List.find?_cons];have:decide (g.name=fn.name)=false:=by
    apply decide_eq_false;intro z;exact DN.1 (z▸List.mem_map_of_mem h)
   rw[this];exact ih DN.2 h
theorem vU(DN:(Pg.map (·.name)).Nodup)(h:fn∈Pg):D_ Pg (d+1) fn.name=bP (D_ Pg d) fn:=by
 funext us
 show(match Pg.find? λg=>decide (g.name=fn.name) with|some fn=>bP (D_ Pg d) fn us|none=>none)=_;rw[yz DN h]
theorem yA(DN:(Pg.map (·.name)).Nodup)(JF:ck.fns=Pg.map (·.name))(blt:∀x∈bI,mg x=none)(HZ:∀p∈ck.gl,∃val v,mg p.1=some val/\RelV v val/\∀(C:Ct) S H,Rep C S H p.2 v)
  (ld:∀fn∈Pg,Ld ck K mg fn):∀d,∀fn∈Pg,A2 P w K mg base d (D_ Pg d fn.name) fn.name:=by
 intro d;induction d with
 |zero =>
  intro fn GZ;obtain⟨qual,st,f,fd,N,ps,F,hm,hb,S,hN,G6,hc⟩:=(ld fn GZ).ex;exact⟨fn.np,f,fd,ps,⟨λvs H Q E h=>h.1.trans G6.symm,λA outer s H args us vs Q E _ _ _ _ h=>by obtain⟨_,us,k,u,_,e,_⟩:=h;cases e⟩,hm,F.kp,hb,λus k u e=>by cases e⟩
 |succ d ih =>
  intro fn GZ;obtain⟨qual,st,f,fd,N,ps,F,hm,hb,S,hN,G6,hc⟩:=(ld fn GZ).ex;rw[vU DN GZ];refine⟨fn.np,f,fd,ps,zd F S hN G6 hc blt (λg hg=>?_) HZ,hm,F.kp,hb,λus k u e=>?_⟩
  ·rw[JF]at hg;obtain⟨NP,h1,rfl⟩:=List.mem_map.mp hg;exact ih NP h1
  ·obtain⟨h1,h2⟩:=m_ e;refine⟨?_,h1⟩;rcases h2 with⟨z,_⟩|⟨z,_⟩
   ·exact z
   ·exact .inr (.inl z)
end
noncomputable def qv(ns:List Int):U:=.lst (ns.map .int)
theorem lN{S:Addr->Prop}:∀(ns:List Int),ai C S H (ns.map .int) (ns.map V.int)
 |[]=>rfl
 |n::ns=>⟨_,_,rfl,rfl,lN ns⟩
theorem qw(h:D7 C.K H a (ns.map V.int)):Rep C (Gq H) H (qv ns) (.ref a):=by
 refine⟨a,_,rfl,?_,lN ns⟩;rcases h with(h|⟨o,h⟩)|h
 ·exact .inl ⟨⟨_,h⟩,.inl h⟩
 ·exact .inl ⟨⟨_,h⟩,.inr ⟨o,h⟩⟩
 ·exact .inr h
theorem oR:∀{l:List α},(∀a∈l,f a=g a)->l.filterMap f=l.filterMap g
 |[],_=>rfl
 |a::l,h=>by rw[List.filterMap_cons,List.filterMap_cons,h a (by simp),oR λb hb=>h b (by simp[hb])]
theorem rS:∀(l:List Str) (us:List Value),l.Nodup->us.length=l.length->l.filterMap (λn=>((l.zip us).lookup n).map (n,·))=l.zip us
 |[],_,_,_=>rfl
 |a::l,[],_,h=>nomatch h
 |a::l,u::us,nd,h=>by
  rw[List.nodup_cons]at nd;have ih:=rS l us nd.2 (by simpa using h);simp only[List.zip_cons_cons,List.filterMap_cons,List.lookup_cons,beq_self_eq_true,Option.map_some];congr 1
  conv=>rhs;rw[<-ih]
  refine oR λn hn=>?_;have:(n==a)=false:=by
   rw[beq_eq_false_iff_ne];rintro rfl;exact nd.1 hn
  rw[this]
theorem vV(l:List Str)(us:List Value)(h:us.length=l.length):l.filter (λn=>((l.zip us).lookup n).isNone)=[]:=by
 rw[List.filter_eq_nil_iff];intro n hn;induction l generalizing us with
 |nil=>cases hn
 |cons a l ih =>
  cases us with
  |nil=>cases h
  |cons u us =>
   simp only[List.zip_cons_cons,List.lookup_cons];cases e:n==a with
   |true=>simp
   |false =>
    rcases List.mem_cons.mp hn with rfl|hn
    ·simp at e
    ·exact ih us (by simpa using h) hn
theorem vW{kV doc pm EK ct:Value}(nd:(as.map (·.arg)).Nodup)(hl:us.length=(as.map (·.arg)).length):
  bindArgs (PySem.W.fnOf x q ⟨[],as,none,[],[],none,[]⟩ body scope .none kV doc pm an EK ct) ⟨us,[]⟩=pure ((as.map (·.arg)).zip us):=by
 have h1:=rS _ us nd hl;have h2:=vV _ us hl;have hs:seqItems? Value.none=pure none:=rfl;simp only[bindArgs,PySem.W.fnOf,List.map_nil,List.nil_append,List.append_nil,hs,pure_bind,Option.getD_none,List.length_nil,Nat.sub_zero,List.drop_nil,List.zip_nil_right,List.forIn_nil,h1];rw[if_neg (by simp[hl])];rw[List.length_map,List.take_of_length_le (by simp),h2];rfl
structure Me where
 fn:Fn
 i:Nat
 N:List Str
 a:Addr
 c:Addr
 m:Value
 cr:Obj
noncomputable def Me.fd(top:Nat->Stmt)(m:Me):FuncData:=PySem.W.fnOf m.fn.name m.fn.name (fe (top m.i)) (cP (top m.i)) (aQ (top m.i)) .none .none .none m.m none (.ref m.c) .none
noncomputable def Me.fo(top:Nat->Stmt)(m:Me):Obj:=⟨.type "function",none,.func (m.fd top),#[]⟩
noncomputable def adr(ms:List Me):List Addr:=3::ms.flatMap λm=>[m.c,m.a]
noncomputable def FL(top:Nat->Stmt)(g:Obj)(ms:List Me):PySem.W.Frag:=(3,g)::ms.flatMap λm=>[(m.c,m.cr),(m.a,m.fo top)]
theorem rT(top:Nat->Stmt)(g:Obj)(ms:List Me):adr ms=(FL top g ms).map (·.1):=by
 unfold adr FL;rw[List.map_cons,List.map_flatMap];rfl
noncomputable def A6(v:Option (Option Value))(a:Addr):Bool:=match v with|some (some (.ref b))=>decide (b=a)|_=>false
theorem yB(h:A6 v a=true):v=some (some (.ref a)):=by
 unfold A6 at h;split at h
 ·rw[of_decide_eq_true h]
 ·cases h
noncomputable def nn(o:Option (Option Value)):Bool:=match o with|some none=>true|_=>false
theorem Co(h:nn o=true):o=some none:=by
 unfold nn at h;split at h
 ·rfl
 ·cases h
noncomputable def Cp(p:Arguments)(ps:List Str):Bool:=p.posonlyargs.isEmpty&&p.vararg.isNone&&p.kwonlyargs.isEmpty&&p.kw_defaults.isEmpty&&p.kwarg.isNone&&p.defaults.isEmpty&&decide (p.args.map (·.arg)=ps)
noncomputable def Pz(N:List Str)(np:Nat)(sc:Scope):Bool:=decide (sc.kind=.function)&&decide (sc.isCoroutine=false)&&decide (sc.isGenerator=false)&&decide N.Nodup&&(N.take np).all (m6 sc)&&sc.names.all (λy=>decide (y.2≠.free))
noncomputable def PB(ck:Ck)(top:Nat->Stmt)(K:PySem.W.Frag)(m:Me):Bool:=PySem.W.codeIn K (.ref m.c) m.fn.name&&PySem.W.keepIn K (.ref m.a)&&A6 (PySem.W.nsIn K mainGlobals m.fn.name) m.a&&Cp (fe (top m.i)) (m.N.take m.fn.np) &&
 Pz m.N m.fn.np (aQ (top m.i))&&decide (m.N.length=m.fn.ns)&&decide (m.fn.np<=m.fn.ns)&&dy ck m.fn.body m.N (aQ (top m.i)) (cP (top m.i))
noncomputable def PD(K:PySem.W.Frag)(p:Str×U):Bool:=match p.2,PySem.W.nsIn K mainGlobals p.1 with
 |.int i,some (some (.int j _))=>decide (i=j)
 |.str i,some (some (.str j _))=>decide (i=j)
 |_,_=>false
noncomputable def H0(ck:Ck)(top:Nat->Stmt)(K:PySem.W.Frag)(ms:List Me):Bool:=ms.all (PB ck top K)&&bI.all (λy=>nn (PySem.W.nsIn K mainGlobals y))&&ck.gl.all (PD K)&&decide (K.map (·.1)).Nodup
theorem Cq{K:PySem.W.Frag}(nd:(K.map (·.1)).Nodup)(h:(a,o)∈K):K.lookup a=some o:=by
 induction K with
 |nil=>cases h
 |cons p K ih =>
  rw[List.map_cons,List.nodup_cons]at nd;rw[List.lookup_cons];rcases List.mem_cons.mp h with rfl|h
  ·simp
  ·have:(a==p.1)=false:=by
    rw[beq_eq_false_iff_ne];rintro rfl;exact nd.1 (List.mem_map.mpr ⟨_,h,rfl⟩)
   rw[this];exact ih nd.2 h
section
theorem ze(hm:H0 ck top (FL top g ms) ms=true)(h:m∈ms):Iq (FL top g ms) m.fn.name m.fn.name (top m.i) m.a (m.fd top)/\PySem.W.nsIn (FL top g ms) mainGlobals m.fn.name=some (some (.ref m.a)) /\
  (∀us:List Value,us.length=(m.N.take m.fn.np).length->bindArgs (m.fd top) ⟨us,[]⟩=pure ((m.N.take m.fn.np).zip us))/\dS m.N (m.N.take m.fn.np) (aQ (top m.i))/\m.N.length=m.fn.ns/\(m.N.take m.fn.np).length=m.fn.np/\dy ck m.fn.body m.N (aQ (top m.i)) (cP (top m.i))=true:=by
 simp only[H0,Bool.and_eq_true,decide_eq_true_eq]at hm;have z:=List.all_eq_true.mp hm.1.1.1 m h;simp only[PB,Bool.and_eq_true,decide_eq_true_eq]at z;obtain⟨⟨⟨⟨⟨⟨⟨z1,z2⟩,z3⟩,z4⟩,z5⟩,z6⟩,z7⟩,z8⟩:=z;simp only[Pz,Bool.and_eq_true,decide_eq_true_eq]at z5;obtain⟨⟨⟨⟨⟨s1,s2⟩,s3⟩,s4⟩,s5⟩,s6⟩:=z5;have Si:(FL top g ms).lookup m.a=some (m.fo top):=Cq hm.2 (List.mem_cons.mpr (.inr (List.mem_flatMap.mpr ⟨m,h,by simp⟩)));have hl:(m.N.take m.fn.np).length=m.fn.np:=by rw[List.length_take];omega
 refine⟨zR Si z1 z2,yB z3,λus hu=>?_,⟨s1,s2,s3,s4,by rw[hl],λx hx=>?_,λy hy=>?_⟩,z6,hl,z8⟩
 ·unfold Me.fd;revert z4;cases fe (top m.i) with
  |mk po as va ko kd kw df =>
   intro z4;simp only[Cp,Bool.and_eq_true,List.isEmpty_iff,Option.isNone_iff_eq_none,decide_eq_true_eq]at z4;obtain⟨⟨⟨⟨⟨⟨rfl,rfl⟩,rfl⟩,rfl⟩,rfl⟩,rfl⟩,e⟩:=z4;rw[<-e]at hu ⊢;exact vW (by rw[e];exact(List.take_sublist _ _).nodup s4) hu
 ·have:=List.all_eq_true.mp s5 x hx;simpa[m6] using this
 ·have:=List.all_eq_true.mp s6 y hy;simpa using this
theorem Cr(hm:H0 ck top (FL top g ms) ms=true)(X:(FL top g ms).In h)(G:h.Ns mainGlobals mg)(hi:m∈ms):Ld ck (FL top g ms) mg m.fn :=
 let ⟨a,b,c,d,e,f,k⟩:=ze hm hi
 ⟨_,_,_,_,_,_,a,PySem.W.mg_of X G b,.all c,d,e,f,k⟩
theorem A7(hm:H0 ck top (FL top g ms) ms=true)(X:(FL top g ms).In h)(G:h.Ns mainGlobals mg):∀p∈ck.gl,∃val v,mg p.1=some val/\RelV v val/\∀(C:Ct) S H,Rep C S H p.2 v:=by
 intro p hp;simp only[H0,Bool.and_eq_true,decide_eq_true_eq]at hm;have z:=List.all_eq_true.mp hm.1.2 p hp;unfold PD at z;split at z
 ·rename_i i j k e1 e2;obtain rfl:=of_decide_eq_true z;exact⟨_,.int i,PySem.W.mg_of X G e2,⟨_,rfl⟩,λ_ _ _=>by rw[e1];rfl⟩
 ·rename_i i j k e1 e2;obtain rfl:=of_decide_eq_true z;exact⟨_,.str i,PySem.W.mg_of X G e2,⟨_,rfl⟩,λ_ _ _=>by rw[e1];rfl⟩
 ·cases z
end
theorem walk{l:PySem.W.OpenLaw}{K:Params->PySem.W.Frag}
  (hn:l.most=some 63) (Io:d.params.defaults=[]) (hr:fM (dp+1) callerA) (hY:∀(w:World) (h:Heap),YP w h->(K w.params).In h)
  (DN:(Pg.map (·.name)).Nodup) (JF:ck.fns=Pg.map (·.name)) (GZ:fn∈Pg) (GV:fn.name=d.name)
  (F:∀(w:World) (mg:Str->Option Value) (fa:Addr) (h:Heap),(K w.params).In h->h.Ns mainGlobals mg->mg d.name=some (.ref fa) ->
   (∀y∈bI,mg y=none)/\(∀p∈ck.gl,∃val v,mg p.1=some val/\RelV v val/\∀(C:Ct) S H,Rep C S H p.2 v)/\(∀g∈Pg,Ld ck (K w.params) mg g) /\
   ∃(qual:Str) (st:Stmt) (fd:FuncData) (N:List Str),Iq (K w.params) fn.name qual st fa fd/\dS N [x] (aQ st)/\N.length=fn.ns/\1=fn.np/\dy ck fn.body N (aQ st) (cP st)=true/\∀(s:Shared) (u:Value),BindsTo s fd ⟨[u],[]⟩ [(x,u)])
  (T:∀ns:List Int,ns.length<=63->D_ Pg (dp+1) fn.name [qv ns]=some (.ok (.loc,.bl true))) :
  PySem.W.WalkO q loose XP YP l.row.toRowW d [] (λf vs=>PySem.call f vs) :=
 L2.xo (n:=63) (k:=dp+1) (x:=x) (CX:=λ_=>Hx) (sp:=λw=>spT l.prog w (K w.params) (bP (D_ Pg dp) fn) fn.np) hn (by decide) Io hr hY
  (λw mg fa h KX G JU=>by
   obtain⟨blt,HZ,ld,qual,st,fd,N,F1,S,hN,G6,hc,hb⟩:=F w mg fa h KX G JU;refine⟨fd,hb,λbase _ _=>zd F1 S hN G6 hc blt (λg hg=>?_) HZ⟩;rw[JF]at hg;obtain⟨NP,h1,rfl⟩:=List.mem_map.mp hg;exact yA DN JF blt HZ ld dp NP h1)
  (λw H a ns hl _ hS=>by
   have t:=T ns hl;rw[vU DN GZ]at t;have Sj:fn.np=1:=(m_ t).1.symm;exact⟨Sj.symm,[qv ns],.loc,.bl true,Gq H,t,.inr (.inl rfl),λ_ z=>z,⟨_,_,rfl,qw hS,rfl⟩,λv H' S' b=>b.loc rfl⟩)
  λ_ _ _ _ _ z=>z
theorem walk2{l:PySem.W.OpenLaw}{g:Params->Obj}
  (hn:l.most=some 63) (Io:d.params.defaults=[]) (hr:fM (dp+1) callerA) (hP:ms.map (·.fn)=Pg) (DN:(Pg.map (·.name)).Nodup) (JF:ck.fns=Pg.map (·.name)) (hm:m∈ms) (GV:m.fn.name=d.name) (hx:m.N.take m.fn.np=[x])
  (ok:∀P,H0 ck top (FL top (g P) ms) ms=true) (T:∀ns:List Int,ns.length<=63->D_ Pg (dp+1) m.fn.name [qv ns]=some (.ok (.loc,.bl true))) :
  PySem.W.WalkO q loose XP (PySem.W.kHook (λP=>FL top (g P) ms) (adr ms) λP=>rT top (g P) ms).says l.row.toRowW d [] (λf vs=>PySem.call f vs) :=
 walk hn Io hr (λw h Y=>PySem.W.kIn_of Y) DN JF (hP▸List.mem_map.mpr ⟨m,hm,rfl⟩) GV (λw mg fa h X G FV=>by
  have hk:=ok w.params;obtain⟨a,b,c,e,f,k,n⟩:=ze hk hm;rw[<-GV,PySem.W.mg_of X G b]at FV;cases FV;rw[hx]at c e k;refine⟨λy hy=>PySem.W.mg_none_of X G (Co ?_),A7 hk X G,λy hy=>?_,_,_,_,_,a,e,f,k,n,λs u=>.of_eq (c [u] rfl)⟩
  ·simp only[H0,Bool.and_eq_true]at hk;exact List.all_eq_true.mp hk.1.1.2 y hy
  ·rw[<-hP]at hy;obtain⟨m',h1,rfl⟩:=List.mem_map.mp hy;exact Cr hk X G h1) T
noncomputable def co(n:Str)(k l np:Nat)(r s:Addr)(x y z:Value)(a b t:Nat):Obj:=⟨.type "code",none,.fields #[.str n k,.str n (k+1),.str "/claim/cut.py" (k+2),.int l 0,.int np 0,.int 0 0,.int 0 0,.int 3 0,.ref r,.bool Bool.true,.int t 0,.ref s,.none,x,y,z,.int a 0,.int l 0,.str "/claim/cut.py" b],#[]⟩
noncomputable def ge(P:Params)(x:Str)(k:Nat)(v:Value):DictEntry:=⟨PyData.keyHash P x,.str x k,v⟩
end TM
namespace D8
open PySem L2
def cA(l:List Nat):Prop:=d_ l=true\/∃a b k,l=a++47::b/\d_ a=true/\2<=k/\k<=99/\(sJ k).cps.toList=b
theorem len_list(x:Str):x.length=x.cps.toList.length:=by simp[Str.length]
theorem lO(h0:0<=k)(h1:k<=99):(sJ k).length<=2:=by
 obtain⟨m,rfl⟩:=Int.eq_ofNat_of_zero_le h0;have hm:m<100:=by omega
 clear h0 h1;revert m;decide +kernel
theorem cA.len(h:cA l):1<=l.length/\l.length<=11:=by
 rcases h with h|⟨a,b,k,rfl,h,h2,h9,hb⟩
 ·have:=(cG l).mp h;omega
 ·have:=(cG a).mp h;have hl:=lO (k:=k) (by omega) h9;rw[len_list,hb]at hl;simp;omega
theorem cA.Du(h:cA x.cps.toList):∃y r,Txt.split x yX=y::r/\d_ y.cps.toList=true:=by
 rcases h with h|⟨a,b,k,e,h,_⟩
 ·exact⟨x,[],pS (nY h),h⟩
 ·obtain⟨r,e'⟩:=uE e (nY h) (by decide);exact⟨_,r,e',by simpa using h⟩
theorem eB:∀(ps:List Str) (acc:Array Nat),(ps.foldl (λacc p=>acc++Str.empty.cps++p.cps) acc).toList=acc.toList++(ps.map λp=>p.cps.toList).flatten
 |[],acc=>by simp
 |p::ps,acc=>by
  rw[List.foldl_cons,eB ps];have:Str.empty.cps=#[]:=rfl;simp[this]
theorem join_list(ts:List Str):(Txt.join Str.empty ts).cps.toList=(ts.map λp=>p.cps.toList).flatten:=by
 cases ts with
 |nil=>rfl
 |cons t ts =>
  show(ts.foldl (λacc p=>acc++Str.empty.cps++p.cps) t.cps).toList=_;rw[eB];simp
noncomputable def one(c:Nat):Str:=⟨#[c]⟩
theorem join_ones(cs:List Nat):(Txt.join Str.empty (cs.map one)).cps.toList=cs:=by
 rw[join_list,List.map_map];induction cs with
 |nil=>rfl
 |cons c cs ih=>rw[List.map_cons,List.flatten_cons,ih];rfl
theorem oS(cs:List Nat)(h:cs.length<=100):JoinOk Str.empty (cs.map one)=true:=by
 unfold JoinOk;have e:=PySem.StrLaws.joinTotal Str.empty (cs.map one);have e0:Str.empty.length=0:=rfl;have es:((cs.map one).map (·.length)).sum=cs.length:=by
  rw[List.map_map];clear h e;induction cs with
  |nil=>rfl
  |cons c cs ih=>rw[List.map_cons,List.sum_cons,ih];show 1+cs.length=cs.length+1;omega
 rw[e,e0,es];have hm:cs.length+(cs.map one).length * 0<=100:=by omega
 revert hm;generalize cs.length+(cs.map one).length * 0=m;revert m;decide
theorem A8(x:Str)(j:Nat):(PySem.StrLaws.sliceText x none (some (j:Int))).cps.toList=x.cps.toList.take j:=by
 by_cases h:j<=x.cps.toList.length
 ·rw[PySem.StrLaws.sliceText_to (x:=x) ⟨by omega,by omega⟩];simp
 ·have e:PySem.StrLaws.sliceText x none (some (j:Int))=PySem.StrLaws.sliceText x none (some (x.length:Int)):=by
   unfold PySem.StrLaws.sliceText;have hl:=len_list x;have:PySem.Builtin.Str.strSliceIndices none (some (j:Int)) 1 x.length=PySem.Builtin.Str.strSliceIndices none (some (x.length:Int)) 1 x.length:=by
    have h1:¬((j:Int)<0):=by omega
    have h2:¬((x.length:Int)<0):=by omega
    have e1:min (j:Int) (x.length:Int)=x.length:=by omega
    simp[PySem.Builtin.Str.strSliceIndices,h1,h2,e1]
   rw[this]
  have hl:=len_list x;rw[e,PySem.StrLaws.sliceText_to (x:=x) ⟨by omega,by omega⟩,List.drop_zero,List.take_of_length_le (l:=x.cps.toList) (i:=j) (by omega)];show(x.cps.toList.take ((x.length:Int) - 0).toNat).toArray.toList=_;rw[List.take_of_length_le (by omega)]
theorem tI(ha:d_ a=true)(hb:∀c∈b,low c=true):d_ ((a++b).take 8)=true:=by
 have h:=(cG a).mp ha;refine(cG _).mpr ⟨by simp;omega,by simp;omega,λc hc=>?_⟩;have G0:=List.mem_of_mem_take hc;rcases List.mem_append.mp G0 with m|m
 ·exact h.2.2 c m
 ·have:=hb c m;simp[low]at this;omega
theorem iK(hb:∀c∈b,low c=true)(h1:1<=b.length)(h8:b.length<=8):d_ b=true :=
 (cG b).mpr ⟨h1,h8,λc hc=>by have:=hb c hc;simp[low]at this;omega⟩
noncomputable def small:Str:="abcdefghijklmnopqrstuvwxyz"
theorem qx:small.cps.toList=(List.range 26).map (97+·):=by decide +kernel
theorem j6(h0:0<=k)(h1:k<26):D6 small.cps.toList k=some (97+k.toNat):=by
 obtain⟨j,rfl⟩:=Int.eq_ofNat_of_zero_le h0;refine cw ?_;rw[qx,List.getElem?_map,List.getElem?_range (by omega)];rfl
theorem qy(h:j<26):low (97+j)=true:=by simp[low];omega
noncomputable def lP(k:Nat):Str:=⟨#[97+k / 26,97+k % 26]⟩
theorem qz(h:k<40):d_ (lP k).cps.toList=true:=by
 refine iK (λc hc=>?_) (by show 1<=2;decide) (by show 2<=8;decide);have G0:c=97+k / 26\/c=97+k % 26:=by simpa[lP] using hc
 rcases G0 with rfl|rfl
 ·exact qy (by omega)
 ·exact qy (by omega)
theorem j7 [DecidableEq α]:∀{l m:List α},l.Nodup->(∀x∈l,x∈m)->l.length<=m.length
 |[],_,_,_=>Nat.zero_le _
 |x::l,m,hn,h=>by
  obtain⟨h1,h2⟩:=List.nodup_cons.mp hn;have hx:=h x List.mem_cons_self;have ih:=j7 (l:=l) (m:=m.erase x) h2 λy hy=>(List.mem_erase_of_ne (by rintro rfl;exact h1 hy)).mpr (h y (List.mem_cons_of_mem _ hy));rw[List.length_erase_of_mem hx]at ih;have:0<m.length:=List.length_pos_of_mem hx;rw[List.length_cons];omega
noncomputable def bK:List Str:=(List.range 40).map lP
theorem ng:bK.Nodup:=by
 decide +kernel
theorem qA(names:List Str)(h:names.length<40):∃x∈bK,x∉names:=by
 apply Classical.byContradiction;intro G2;have:∀x∈bK,x∈names:=λx hx=>Classical.byContradiction λhn=>G2 ⟨x,hx,hn⟩;have:=j7 ng this;simp[bK]at this;omega
end D8
namespace TM
open PySem L2
section
def Run(m:M α)(st:au)(a:α)(st':au):Prop:=m st=some (.ok a,st')
theorem aa(h1:Run m st a st1)(h2:Run (f a) st1 b st2):Run (m >>= f) st b st2:=by
 show M.bind m f st=_;unfold M.bind;rw[show m st=_ from h1];exact h2
theorem aY:Run (pure a:M α) st a st:=rfl
theorem b_(h:o=some a):Run (M.DR o) st a st:=by subst h;rfl
theorem bg(h:bb rs st):Run (aw rs) st () st:=by show aw rs st=_;unfold aw;rw[if_pos h]
noncomputable def kv(i:Nat)(k:Kd):Kd:=if k.root=true then .bor i else k
theorem fJ(h:st[i]?=some (some (k,u)))(hk:k≠.Dw:=by intro z;cases z):Run (dn i) st (kv i k,u) st:=by
 show dn i st=_;unfold dn;rw[h];cases k<;>first|rfl|exact absurd rfl hk
theorem af(h:st[i]?=some (some (.loc,u))):Run (ev Γ (.var i)) st (.loc,u) st:=fJ h
theorem aZ(h:st[i]?=some (some (.any,u))):Run (ev Γ (.var i)) st (.any,u) st:=fJ h
theorem aH(h:st[i]?=some (some (.own,u))):Run (ev Γ (.var i)) st (.bor i,u) st:=fJ h
theorem aU:Run (ev Γ (.cst u)) st (.loc,u) st:=rfl
theorem iL(h1:Run (ev Γ a) st x st1)(h2:Run (ev Γ b) st1 y st2)(h3:bb [x,y] st2)(h4:FY op x y=some r):Run (ev Γ (.bin op a b)) st r st2 :=
 aa h1 (aa h2 (aa (bg h3) (b_ h4)))
theorem gO(h1:Run (ev Γ a) st x st1)(h2:Run (ev Γ b) st1 y st2)(h3:bb [x,y] st2)(h4:bw op x.2 y.2=some c):Run (ev Γ (.cmp op a b)) st (.loc,.bl c) st2 :=
 aa h1 (aa h2 (aa (bg h3) (aa (b_ h4) aY)))
theorem bM(h1:Run (ev Γ a) st x st1)(h2:Run (ev Γ b) st1 y st2)(h3:bb [x,y] st2)(h4:ib x y.2=some r):Run (ev Γ (.idx a b)) st r st2 :=
 aa h1 (aa h2 (aa (bg h3) (b_ h4)))
theorem Cs:Run (IM Γ []) st none st:=rfl
theorem Cu(h:Run (ev Γ e) st (k,.int i) st1):Run (IM Γ [e]) st (some i) st1:=aa h rfl
theorem Cv(h1:Run (ev Γ a) st x st1)(h2:Run (IM Γ lo) st1 l st2)(h3:Run (IM Γ hi) st2 h st3)(h4:bb [x] st3)(h5:p_ x l h=some r):Run (ev Γ (.HP a lo hi)) st r st3 :=
 aa h1 (aa h2 (aa h3 (aa (bg h4) (b_ h5))))
theorem ak:Run (bH Γ []) st [] st:=rfl
theorem ag(h1:Run (ev Γ e) st r st1)(h2:Run (bH Γ es) st1 rs st2):Run (bH Γ (e::es)) st (r::rs) st2:=aa h1 (aa h2 aY)
theorem fA(h1:Run (bH Γ es) st rs st1)(h2:bb rs st1)(h3:Fq f rs=some r):Run (ev Γ (.bi f es)) st r st1:=aa h1 (aa (bg h2) (b_ h3))
theorem oU(h1:Run (bH Γ es) st rs st1)(h2:bb rs st1)(h3:qa f rs=some r):Run (ev Γ (.F_ f es)) st r st1:=aa h1 (aa (bg h2) (b_ h3))
theorem vX(h0:Run (ev Γ a) st x st1)(h1:Run (bH Γ es) st1 rs st2)(h2:bb (x::rs) st2)(h3:iY m x.2 rs=some r):Run (ev Γ (.Gr m a es)) st r st2:=aa h0 (aa h1 (aa (bg h2) (b_ h3)))
theorem rV(h:Γ f us=some (.ok r))(hr:isAny r.1=false):Run (jP Γ f us) st r st:=by
 obtain⟨k,u⟩:=r;show jP Γ f us st=_;unfold jP;rw[h];cases k<;>first|rfl|cases hr
theorem bY(h1:Run (bH Γ es) st rs st1)(h2:bb rs st1)(h3:Γ f (rs.map (·.2))=some (.ok r))(hr:isAny r.1=false:=by exact rfl):Run (ev Γ (.call f es)) st r st1:=aa h1 (aa (bg h2) (rV h3 hr))
theorem j8(h1:Run (bH Γ es) st rs st1)(h2:bb rs st1)(h3:Run (cR rs) st1 us st2)(h4:us.length<=sizeLine):Run (ev Γ (.tup es)) st (.loc,.tup us) st2:=by
 refine aa h1 (aa (bg h2) (aa h3 ?_));rw[if_pos h4];exact aY
theorem cv(h1:Run (bH Γ es) st rs st1)(h2:bb rs st1)(h3:Run (cR rs) st1 us st2)(h4:us.length<=sizeLine):Run (ev Γ (.lst es)) st (.own,.lst us) st2:=by
 refine aa h1 (aa (bg h2) (aa h3 ?_));rw[if_pos h4];exact aY
theorem nh:Run (ev Γ (.E_ r)) st (.own,if r=true then .DV [] else .Dy [] []) st:=rfl
theorem vY:Run (lift (.own,u)) st u st:=rfl
theorem aR:Run (lift (.loc,u)) st u st:=rfl
theorem oV(h:D9 u=true):Run (lift (.any,u)) st u st:=by
 show(if D9 u=true then(pure u:M U) else M.fail) st=_;rw[if_pos h];rfl
theorem aS:Run (cR []) st [] st:=rfl
theorem a9(h1:Run (lift r) st u st1)(h2:Run (cR rs) st1 us st2):Run (cR (r::rs)) st (u::us) st2:=aa h1 (aa h2 aY)
theorem cc(h1:Run (ev Γ a) st x st1)(h2:Run (ev Γ b) st1 y st2)(h3:bb [x,y] st2)(h4:bw op x.2 y.2=some c):Run (DU Γ (.cmp op a b)) st c st2:=aa h1 (aa h2 (aa (bg h3) (b_ h4)))
theorem rW(h:Run (DU Γ a) st c st1):Run (DU Γ (.not a)) st (!c) st1:=aa h aY
theorem oW(h:Run (aO Γ es) st c st1):Run (DU Γ (.and es)) st c st1:=h
theorem A9(h:Run (iH Γ es) st c st1):Run (DU Γ (.or es)) st c st1:=h
theorem gP:Run (aO Γ []) st true st:=rfl
theorem dm(h:Run (DU Γ e) st c st1):Run (aO Γ [e]) st c st1:=h
theorem qB(h:Run (DU Γ e) st true st1)(h2:Run (aO Γ (e2::es)) st1 c st2):Run (aO Γ (e::e2::es)) st c st2:=aa h h2
theorem vZ(h:Run (DU Γ e) st false st1):Run (aO Γ (e::e2::es)) st false st1:=aa h aY
theorem v3(h:Run (DU Γ e) st c st1):Run (iH Γ [e]) st c st1:=h
theorem oX(h:Run (DU Γ e) st false st1)(h2:Run (iH Γ (e2::es)) st1 c st2):Run (iH Γ (e::e2::es)) st c st2:=aa h h2
theorem bo:Run (d0 i (.own,u)) st () (st.set i (some (.own,u))):=rfl
theorem aV:Run (d0 i (.loc,u)) st () (st.set i (some (.loc,u))):=rfl
theorem iM:Run (d0 i (.any,u)) st () (st.set i (some (.any,u))):=rfl
theorem Cw(h1:Run (ev Γ e) st r st1)(h2:Run (d0 i r) st1 () st2):Run (exec Γ (.set i e)) st .nx st2:=aa h1 (aa h2 aY)
theorem Cy(h0:∃k' us',st[i]?=some (some (k',.lst us'))/\k'≠.Dw)(h1:Run (ev Γ e) st r st1)(h2:Run (lift r) st1 u st2)(h3:st2[i]?=some (some (k,.lst us)))(hk:k.root=true)(hl:us.length<sizeLine):
  Run (exec Γ (.app i e)) st .nx (st2.set i (some (k,.lst (us++[u])))):=by
 obtain⟨k',us',h0,hn⟩:=h0;refine aa (fJ h0 hn) (aa (a:=()) (st1:=st) rfl (aa h1 (aa h2 (aa (a:=()) ?_ aY))));show modS i (vh u) st2=_;unfold modS;rw[h3];simp only[hk,if_true];have e:vh u (.lst us)=some (.lst (us++[u])):=by show(if us.length<sizeLine then _ else _)=_;rw[if_pos hl]
 rw[e]
theorem Cz(h1:Run (ev Γ e) st r st1)(h2:Run (retS r) st1 f st2):Run (exec Γ (.ret e)) st f st2:=aa h1 h2
theorem iN:Run (retS (.own,u)) st (.rt .own u) st:=rfl
theorem j9:Run (retS (.loc,u)) st (.rt .loc u) st:=rfl
theorem CA(h:D9 u=true):Run (retS (.any,u)) st (.rt .loc u) st:=by
 show(if D9 u=true then(pure (Fl.rt .loc u):M Fl) else pure (.rt .any u)) st=_;rw[if_pos h];rfl
theorem lQ(h:st[j]?=some (some (.own,u))):Run (retS (.bor j,u0)) st (.rt .own u) (st.set j none):=by
 show(match st[j]? with|some (some (.own,u))=>some (Ex.ok (Fl.rt .own u),st.set j none)|_=>none)=_;rw[h]
theorem ni(h1:Run (DU Γ c) st true st1)(h2:Run (execs Γ a) st1 f st2):Run (exec Γ (.ite c a b)) st f st2:=aa h1 h2
theorem qC(h1:Run (DU Γ c) st false st1)(h2:Run (execs Γ b) st1 f st2):Run (exec Γ (.ite c a b)) st f st2:=aa h1 h2
theorem aD:Run (execs Γ []) st .nx st:=rfl
theorem fB(h1:Run (exec Γ s) st .nx st1)(h2:Run (execs Γ ss) st1 f st2):Run (execs Γ (s::ss)) st f st2:=aa h1 h2
theorem v5(h1:Run (exec Γ s) st (.rt k u) st1):Run (execs Γ (s::ss)) st (.rt k u) st1:=aa h1 aY
theorem aB(h1:Run (ev Γ e) st r st1)(h2:Run (d0 i r) st1 () st2)(h3:Run (execs Γ ss) st2 f st3):Run (execs Γ (.set i e::ss)) st f st3:=fB (Cw h1 h2) h3
theorem fK(h0:st[i]?=some (some (k',.lst us')))(h1:Run (ev Γ e) st r st1)(h2:Run (lift r) st1 u st2)(h3:st2[i]?=some (some (k,.lst us)))(hk:k.root=true)(hl:us.length<sizeLine)
  (h4:Run (execs Γ ss) (st2.set i (some (k,.lst (us++[u])))) f st3) (hn:k'≠.Dw:=by intro z;cases z):Run (execs Γ (.app i e::ss)) st f st3:=fB (Cy ⟨_,_,h0,hn⟩ h1 h2 h3 hk hl) h4
theorem cT(h1:Run (ev Γ e) st r st1)(h2:Run (retS r) st1 (.rt k u) st2):Run (execs Γ (.ret e::ss)) st (.rt k u) st2:=v5 (Cz h1 h2)
theorem eY(h1:Run (DU Γ c) st true st1)(h2:Run (execs Γ a) st1 .nx st2)(h3:Run (execs Γ ss) st2 f st3):Run (execs Γ (.ite c a b::ss)) st f st3:=fB (ni h1 h2) h3
theorem cN(h1:Run (DU Γ c) st false st1)(h2:Run (execs Γ b) st1 .nx st2)(h3:Run (execs Γ ss) st2 f st3):Run (execs Γ (.ite c a b::ss)) st f st3:=fB (qC h1 h2) h3
theorem A_(h1:Run (DU Γ c) st true st1)(h2:Run (execs Γ a) st1 (.rt k u) st2):Run (execs Γ (.ite c a b::ss)) st (.rt k u) st2:=v5 (ni h1 h2)
theorem CB(h1:Run (bH Γ src) st rs st1)(h2:bb rs st1)(h3:Ft ik rs=some xs)(h4:lG rs is body=true)(h5:Run (forM t is (execs Γ body) rs xs) st1 f st2):
  Run (exec Γ (.DS t is ik src body)) st f st2:=by
 refine aa h1 (aa (bg h2) (aa (b_ h3) ?_));rw[if_pos h4];exact h5
theorem cf(h1:Run (bH Γ src) st rs st1)(h2:bb rs st1)(h3:Ft ik rs=some xs)(h4:lG rs is body=true)(h5:Run (forM t is (execs Γ body) rs xs) st1 .nx st2)(h6:Run (execs Γ ss) st2 f st3):
  Run (execs Γ (.DS t is ik src body::ss)) st f st3:=fB (CB h1 h2 h3 h4 h5) h6
theorem zf(h:bb rs st):Run (forM t is body rs []) st .nx st:=aa (bg h) aY
theorem CC(h:bb rs st)(h1:Run (cV t is x) st () st1)(h2:Run body st1 .nx st2)(h3:Run (forM t is body rs xs) st2 f st3):Run (forM t is body rs (x::xs)) st f st3:=aa (bg h) (aa h1 (aa h2 h3))
theorem oY(I:List (Kd×U)->au->Prop)(hs:∀xs st,I xs st->bb rs st)(step:∀x xs st,I (x::xs) st->∃st1 st2,Run (cV t is x) st () st1/\Run body st1 .nx st2/\I xs st2):
  ∀(xs:List (Kd×U)) (st:au),I xs st->∃st',Run (forM t is body rs xs) st .nx st'/\I [] st'
 |[],st,h=>⟨st,zf (hs _ _ h),h⟩
 |x::xs,st,h=>by
  obtain⟨s1,s2,h1,h2,h3⟩:=step x xs st h;obtain⟨s3,h4,h5⟩:=oY I hs step xs s2 h3;exact⟨s3,CC (hs _ _ h) h1 h2 h4,h5⟩
theorem bZ(h:Run (d0 i r) st () st1):Run (cV false [i] r) st () st1:=h
theorem aP(hn:us.length=fn.np)(hk:k=.own\/k=.loc)(hs:start us fn.ns=st0)(h:Run (execs Γ fn.body) st0 (.rt k u) st):bP Γ fn us=some (.ok (k,u)):=by
 subst hs;unfold bP;rw[if_pos hn,show execs Γ fn.body (start us fn.ns)=_ from h];rcases hk with rfl|rfl<;>rfl
theorem oZ{cond:M Bool}(h:bb src st):Run (bq k t cond elt src [] acc) st acc st:=aa (bg h) aY
theorem j_{cond:M Bool}(h:bb src st)(h1:Run (cV t (List.range k) x) (List.replicate k none++st) () s1)(h2:Run cond s1 true s2)(h3:Run elt s2 r s3)(h4:Run (lift r) s3 u s4)
  (hl:acc.length<sizeLine) (h5:Run (bq k t cond elt src xs (acc++[u])) (s4.drop k) us st2):Run (bq k t cond elt src (x::xs) acc) st us st2:=by
 refine aa (bg h) (aa (a:=some u) (st1:=s4.drop k) ?_ ?_)
 ·show inScope k _ st=_;unfold inScope;have hh:Run (cV t (List.range k) x >>= λ_=>cond >>= λb=>if b=true then(elt >>= λr=>lift r >>= λu=>pure (some u)) else pure none) (List.replicate k none++st) (some u) s4 :=
   aa h1 (aa h2 (show Run (elt >>= λr=>lift r >>= λu=>pure (some u)) s2 (some u) s4 from aa h3 (aa (f:=λu=>pure (some u)) h4 rfl)))
  rw[show _=_ from hh]
 ·show Run (if acc.length<sizeLine then bq k t cond elt src xs (acc++[u]) else M.fail) _ _ _;rw[if_pos hl];exact h5
theorem qD{cond:M Bool}(h:bb src st)(h1:Run (cV t (List.range k) x) (List.replicate k none++st) () s1)(h2:Run cond s1 false s2)
  (h5:Run (bq k t cond elt src xs acc) (s2.drop k) us st2):Run (bq k t cond elt src (x::xs) acc) st us st2:=by
 refine aa (bg h) (aa (a:=none) (st1:=s2.drop k) ?_ h5);show inScope k _ st=_;unfold inScope;have hh:Run (cV t (List.range k) x >>= λ_=>cond >>= λb=>if b=true then(elt >>= λr=>lift r >>= λu=>pure (some u)) else pure none) (List.replicate k none++st) none s2 :=
  aa h1 (aa h2 (show Run (pure none:M (Option U)) s2 none s2 from rfl))
 rw[show _=_ from hh]
theorem b7{src cond:List E}(h1:Run (bH Γ src) st rs st1)(h2:bb rs st1)(h3:Ft ik rs=some xs)(h4:Run (bq k t (aO Γ cond) (ev Γ e) rs xs []) st1 us st2):Run (ev Γ (.comp k t ik src cond e)) st (.own,.lst us) st2 :=
 aa h1 (aa (bg h2) (aa (b_ h3) (aa h4 aY)))
theorem v7{cond:M Bool}(h:bb src st)(g:Kd×U->U)(kd:Kd×U->Kd):∀(xs:List (Kd×U)) (acc:List U),acc.length+xs.length<=sizeLine ->
  (∀x∈xs,x.1=.loc\/x.1=.any)->(∀x∈xs,Run cond (some x::st) true (some x::st)/\Run elt (some x::st) (kd x,g x) (some x::st)/\Run (lift (kd x,g x)) (some x::st) (g x) (some x::st))->Run (bq 1 false cond elt src xs acc) st (acc++xs.map g) st
 |[],acc,_,_,_=>by rw[List.map_nil,List.append_nil];exact oZ h
 |x::xs,acc,hl,hk,hx=>by
  obtain⟨h1,h2,h3⟩:=hx x (by simp);rw[List.length_cons]at hl;refine j_ (s1:=some x::st) (s2:=some x::st) (s3:=some x::st) (s4:=some x::st) h ?_ h1 h2 h3 (by omega) ?_
  ·obtain⟨k,u⟩:=x;rcases hk _ (List.mem_cons_self ..) with z|z<;>(cases z;rfl)
  ·have:=v7 h g kd xs (acc++[g x]) (by simp;omega) (λy hy=>hk y (by simp[hy])) λy hy=>hx y (by simp[hy]);rw[List.map_cons];simpa using this
theorem ka{cond:M Bool}(h:bb src st)(p:Kd×U->Bool)(g:Kd×U->U)(kd:Kd×U->Kd):∀(xs:List (Kd×U)) (acc:List U),acc.length+xs.length<=sizeLine ->
  (∀x∈xs,x.1=.loc\/x.1=.any)->(∀x∈xs,Run cond (some x::st) (p x) (some x::st)/\Run elt (some x::st) (kd x,g x) (some x::st)/\Run (lift (kd x,g x)) (some x::st) (g x) (some x::st))->Run (bq 1 false cond elt src xs acc) st (acc++(xs.filter p).map g) st
 |[],acc,_,_,_=>by rw[List.filter_nil,List.map_nil,List.append_nil];exact oZ h
 |x::xs,acc,hl,hk,hx=>by
  obtain⟨h1,h2,h3⟩:=hx x (by simp);rw[List.length_cons]at hl;have ht:Run (cV false (List.range 1) x) (List.replicate 1 none++st) () (some x::st):=by
   obtain⟨k,u⟩:=x;rcases hk _ (List.mem_cons_self ..) with z|z<;>(cases z;rfl)
  cases hp:p x with
  |true =>
   rw[hp]at h1;refine j_ (s1:=some x::st) (s2:=some x::st) (s3:=some x::st) (s4:=some x::st) h ht h1 h2 h3 (by omega) ?_;have:=ka h p g kd xs (acc++[g x]) (by simp;omega) (λy hy=>hk y (by simp[hy])) λy hy=>hx y (by simp[hy]);rw[List.filter_cons,if_pos hp,List.map_cons];simpa using this
  |false =>
   rw[hp]at h1;refine qD (s1:=some x::st) (s2:=some x::st) h ht h1 ?_;have:=ka h p g kd xs acc (by omega) (λy hy=>hk y (by simp[hy])) λy hy=>hx y (by simp[hy]);rw[List.filter_cons,if_neg (by simp[hp])];exact this
end
theorem cU(h:0<j):FY .mod (k,.int i) (k',.int j)=some (.loc,.int (i % j)):=by show(xN i j).map _=_;rw[xN,if_pos h];rfl
theorem v8(h:0<j/\j<1073741824):FY .FJ (k,.int i) (k',.int j)=some (.loc,.int (i / j)):=by show(xM i j).map _=_;rw[xM,if_pos h];rfl
theorem mf(h:(-(2 ^ 64)<i/\i<2 ^ 64)\/(-(2 ^ 64)<j/\j<2 ^ 64)):FY .mul (k,.int i) (k',.int j)=some (.loc,.int (i * j)):=by show(xK i j).map _=_;rw[xK,if_pos h];rfl
theorem mj(h:0<=j/\j<=1000000/\i.natAbs<2 ^ 64):FY .pow (k,.int i) (k',.int j)=some (.loc,.int (i ^ j.toNat)):=by show(xO i j).map _=_;rw[xO,if_pos h];rfl
theorem jr:FY .add (k,.int i) (k',.int j)=some (.loc,.int (i+j)):=rfl
theorem a5(h:D6 xs i=some u):ib (k,.lst xs) (.int i)=some (kE k,u):=by show(D6 xs i).map _=_;rw[h];rfl
theorem pP(h:D6 xs i=some u):ib (k,.tup xs) (.int i)=some (kE k,u):=by show(D6 xs i).map _=_;rw[h];rfl
theorem rX:Kd.own≠Kd.Dw:=by decide
local macro_rules
 |`(tactic| sizeOf_list_dec)=>`(tactic| first|exact aD|apply aB|apply fK|apply cT|exact aU|exact af rfl|exact aZ rfl|exact aH rfl|apply iL|apply gO|apply bM|apply fA|apply bY|apply vX|apply cc|exact ak|apply ag|apply j8|apply cv|exact aS|apply a9|exact aR|exact vY|(first|exact trivial|exact⟨⟨_,rfl,rfl⟩,trivial⟩|exact⟨⟨_,rfl,rfl⟩,⟨_,rfl,rfl⟩,trivial⟩)|exact jr|exact pL|exact cU (by first|omega|decide)|exact v8 (by first|omega|decide)|exact mf (by first|omega|decide)|exact mj (by decide)|exact aV|exact bo|exact iM|exact j9|exact iN|exact lQ rfl|exact Nat.zero_le _|exact rfl|exact rX)
noncomputable def qE(c k:Int):Int:=((c % 10 ^ 15+1) * 48271+k * k * 16807+k * 7919) % 2147483647 * 69621 % 2147483629
noncomputable def tJ:Fn:=⟨"_law_mix",2,3,[.set 2 (.bin .add (.bin .add (.bin .mul (.bin .add (.bin .mod (.var 0) (.bin .pow (.cst (.int 10)) (.cst (.int 15)))) (.cst (.int 1))) (.cst (.int 48271))) (.bin .mul (.bin .mul (.var 1) (.var 1)) (.cst (.int 16807)))) (.bin .mul (.var 1) (.cst (.int 7919)))),.ret (.bin .mod (.bin .mul (.bin .mod (.var 2) (.cst (.int 2147483647))) (.cst (.int 69621))) (.cst (.int 2147483629)))]⟩
theorem yC(h0:0<=k)(h1:k<2 ^ 63):bP Γ tJ [.int c,.int k]=some (.ok (.loc,.int (qE c k))):=by
 apply aP (st0:=[some (.loc,.int c),some (.loc,.int k),none]) rfl (.inr rfl) rfl
 repeat' sizeOf_list_dec
noncomputable def rY:Fn:=⟨"_law_cell",2,3,[.ite (.cmp .lt (.var 1) (.bi .len [.var 0])) [.ret (.idx (.var 0) (.var 1))] [],.set 2 (.cst (.int 0)),.ite (.cmp .gt (.bi .len [.var 0]) (.cst (.int 0))) [.set 2 (.idx (.var 0) (.bin .mod (.var 1) (.bi .len [.var 0])))] [],.ret (.bin .add (.bin .mul (.cst (.int 2)) (.call "_law_mix" [.var 2,.var 1])) (.cst (.int 1)))]⟩
def v9(Γ:Tab):Prop:=∀c k:Int,0<=k->k<2 ^ 63->Γ "_law_mix" [.int c,.int k]=some (.ok (.loc,.int (qE c k)))
theorem zg(h:decide (i<j)=c):bw .lt (.int i) (.int j)=some c:=by subst h;rfl
theorem lR(h:decide (j<i)=c):bw .gt (.int i) (.int j)=some c:=by subst h;rfl
theorem iq(h:(i==j)=c):bw .eq (.int i) (.int j)=some c:=by subst h;rfl
theorem jg:Fq .len [(k,.lst xs)]=some (.loc,.int (xs.length:Nat)):=rfl
theorem nj:Fq .len [(k,.tup xs)]=some (.loc,.int (xs.length:Nat)):=rfl
noncomputable def zh(ns:List Int)(k:Nat):Int:=if k<ns.length then(ns[k]?).getD 0 else 2 * qE ((ns[k % ns.length]?).getD 0) k+1
theorem v_(hΓ:v9 Γ){k:Nat}(hk:k<2 ^ 62):bP Γ rY [.lst (ns.map .int),.int k]=some (.ok (.loc,.int (zh ns k))):=by
 have hm:∀c,Γ "_law_mix" [.int c,.int k]=some (.ok (.loc,.int (qE c k))):=λc=>hΓ c k (by omega) (by omega);unfold zh;by_cases h:k<ns.length
 ·rw[if_pos h];have ha:D6 (ns.map U.int) (k:Int)=some (.int ((ns[k]?).getD 0)):=cw (by simp[h]);apply aP (st0:=[some (.any,.lst (ns.map .int)),some (.loc,.int k),none]) rfl (.inr rfl) rfl;apply A_
  all_goals repeat' (first|exact zg (by simp[h])|exact a5 ha|exact CA rfl|sizeOf_list_dec)
 ·rw[if_neg h];have DW:bw .lt (.int k) (.int ((ns.map U.int).length:Nat))=some false:=zg (by simp;omega);by_cases hz:0<ns.length
  ·have hi:k % ns.length<ns.length:=Nat.mod_lt _ hz;have ha:D6 (ns.map U.int) ((k:Int) % ((ns.map U.int).length:Nat))=some (.int ((ns[k % ns.length]?).getD 0)):=by
    rw[List.length_map,show(k:Int) % (ns.length:Nat)=((k % ns.length:Nat):Int) by omega];exact cw (by simp[hi])
   have hp:(0:Int)<((ns.map U.int).length:Nat):=by simp;omega
   apply aP (st0:=[some (.any,.lst (ns.map .int)),some (.loc,.int k),none]) rfl (.inr rfl) rfl;apply cN
   all_goals repeat' (first|exact DW|sizeOf_list_dec)
   apply eY
   all_goals repeat' (first|exact lR (by simp;omega)|exact cU hp|exact a5 ha|exact hm _|sizeOf_list_dec)
  ·have e:ns=[]:=List.eq_nil_of_length_eq_zero (by omega);subst e;apply aP (st0:=[some (.any,.lst ([].map .int)),some (.loc,.int k),none]) rfl (.inr rfl) rfl;apply cN
   all_goals repeat' (first|exact DW|sizeOf_list_dec)
   apply cN
   all_goals repeat' (first|exact hm _|sizeOf_list_dec)
noncomputable def nq:Fn:=⟨"_law_drawn",2,5,[.set 2 (.lst []),.set 3 (.bin .FJ (.var 0) (.cst (.int 2))),.DS false [4] .Ee [.var 1] [.ite (.cmp .eq (.bin .mod (.var 0) (.cst (.int 2))) (.cst (.int 0))) [.app 2 (.bin .mod (.var 3) (.cst (.int 64))),.set 3 (.bin .FJ (.var 3) (.cst (.int 64)))] [.app 2 (.bin .mod (.bin .FJ (.call "_law_mix" [.var 0,.var 4]) (.cst (.int 7))) (.cst (.int 4096)))]],.ret (.var 2)]⟩
theorem o_(x:Kd×U):Ft .Ee [x]=s_ x:=rfl
theorem nu(h:n<2 ^ 62):Ft .Ee [(k,.int (n:Nat))]=some ((List.range n).map λi:Nat=>(Kd.loc,U.int (0+(i:Int)))):=by
 rw[o_,s_,if_pos (by omega),Int.toNat_natCast]
def dP(n:Nat)(xs:List (Kd×U)):Prop:=∃i,i<=n/\xs=((List.range n).drop i).map λi:Nat=>(Kd.loc,U.int (0+(i:Int)))
theorem dP.cons(h:dP n (x::xs)):∃i:Nat,i<n/\x=(.loc,.int (i:Nat))/\dP n xs/\i+xs.length+1=n:=by
 obtain⟨i,hi,e⟩:=h;by_cases EN:i<n
 ·rw[List.drop_eq_getElem_cons (by simpa using EN),List.map_cons]at e;cases e;refine⟨i,EN,by simp,⟨i+1,EN,rfl⟩,by simp;omega⟩
 ·rw[List.drop_eq_nil_of_le (by simp;omega)]at e;cases e
theorem dP.all(n:Nat):dP n ((List.range n).map λi:Nat=>(Kd.loc,U.int (0+(i:Int)))):=⟨0,Nat.zero_le _,rfl⟩
theorem tK(hΓ:v9 Γ)(hn:n<1000):∃ds:List Int,ds.length=n/\(∀d∈ds,0<=d)/\bP Γ nq [.int c,.int n]=some (.ok (.own,.lst (ds.map .int))):=by
 have hsz:(1000:Nat)<=sizeLine:=by decide
 let I:List (Kd×U)->au->Prop:=λxs st=>∃(ds:List Int) (us:List U) (left:Int) (o:Option (Kd×U)),st=[some (.loc,.int c),some (.loc,.int n),some (.own,.lst us),some (.loc,.int left),o]/\us=ds.map .int/\(∀d∈ds,0<=d)/\ds.length+xs.length=n/\dP n xs;have loop:=oY (t:=false) (is:=[4]) (body:=execs Γ [.ite (.cmp .eq (.bin .mod (.var 0) (.cst (.int 2))) (.cst (.int 0)))
    [.app 2 (.bin .mod (.var 3) (.cst (.int 64))),
    .set 3 (.bin .FJ (.var 3) (.cst (.int 64)))]
    [.app 2 (.bin .mod (.bin .FJ (.call "_law_mix" [(.var 0),(.var 4)]) (.cst (.int 7))) (.cst (.int 4096)))]]) (rs:=[(.loc,.int n)]) I (λ_ _ _=>trivial) (λx xs st DP=>by
  obtain⟨ds,us,left,o,e,e2,h0,hl,hr⟩:=DP;subst e;have PF:us.length=ds.length:=by rw[e2];simp
  obtain⟨i,hi,rfl,EB,hlen⟩:=hr.cons;have hm:Γ "_law_mix" [.int c,.int i]=some (.ok (.loc,.int (qE c i))):=hΓ c i (by omega) (by omega);rw[List.length_cons]at hl;by_cases hc:c % 2=0
  ·refine⟨[some (.loc,.int c),some (.loc,.int n),some (.own,.lst us),some (.loc,.int left),some (.loc,.int i)],[some (.loc,.int c),some (.loc,.int n),some (.own,.lst (us++[.int (left % 64)])),some (.loc,.int (left / 64)),some (.loc,.int i)],aV,?_,⟨ds++[left % 64],_,left / 64,_,rfl,by simp[e2],?_,by simp;omega,EB⟩⟩
   ·apply eY
    all_goals repeat' (first|exact iq (by simp[hc])|exact(by rw[PF];omega)|sizeOf_list_dec)
   ·intro d hd;rcases List.mem_append.mp hd with z|z
    ·exact h0 d z
    ·rw[List.mem_singleton.mp z];omega
  ·refine⟨[some (.loc,.int c),some (.loc,.int n),some (.own,.lst us),some (.loc,.int left),some (.loc,.int i)],[some (.loc,.int c),some (.loc,.int n),some (.own,.lst (us++[.int (qE c i / 7 % 4096)])),some (.loc,.int left),some (.loc,.int i)],aV,?_,⟨ds++[qE c i / 7 % 4096],_,left,_,rfl,by simp[e2],?_,by simp;omega,EB⟩⟩
   ·apply cN
    all_goals repeat' (first|exact iq (by simp[hc])|exact hm|exact(by rw[PF];omega)|sizeOf_list_dec)
   ·intro d hd;rcases List.mem_append.mp hd with z|z
    ·exact h0 d z
    ·rw[List.mem_singleton.mp z];omega)
 obtain⟨st',DT,ds,us,left,o,e,e2,h0,hl,_⟩:=loop ((List.range n).map λi:Nat=>(Kd.loc,U.int (0+(i:Int)))) [some (.loc,.int c),some (.loc,.int n),some (.own,.lst []),some (.loc,.int (c / 2)),none] ⟨[],[],c / 2,none,rfl,rfl,by simp,by simp,dP.all n⟩;subst e e2;refine⟨ds,by simpa using hl,h0,?_⟩;apply aP (st0:=[some (.loc,.int c),some (.loc,.int n),none,none,none]) rfl (.inl rfl) rfl
 repeat' sizeOf_list_dec
 have hit:=nu (k:=.loc) (n:=n) (by omega);refine' cf (rs:=[(.loc,.int n)]) (st1:=[some (.loc,.int c),some (.loc,.int n),some (.own,.lst []),some (.loc,.int (c / 2)),none]) _ trivial hit rfl DT _
 all_goals repeat' sizeOf_list_dec
end TM
local macro_rules
 |`(tactic| sizeOf_list_dec)=>`(tactic| first|exact TM.aD|apply TM.aB|apply TM.fK|apply TM.cT|exact TM.aU|exact TM.af rfl|exact TM.aZ rfl|exact TM.aH rfl|apply TM.iL|apply TM.gO|apply TM.bM|apply TM.fA|apply TM.bY|apply TM.vX|apply TM.cc|exact TM.ak|apply TM.ag|apply TM.j8|apply TM.cv|exact TM.aS|apply TM.a9|exact TM.aR|exact TM.vY|(first|exact trivial|exact⟨⟨_,rfl,rfl⟩,trivial⟩|exact⟨⟨_,rfl,rfl⟩,⟨_,rfl,rfl⟩,trivial⟩)|exact TM.jr|exact TM.pL|exact TM.cU (by first|omega|decide)|exact TM.v8 (by first|omega|decide)|exact TM.mf (by first|omega|decide)|exact TM.mj (by decide)|exact TM.aV|exact TM.bo|exact TM.iM|exact TM.j9|exact TM.iN|exact TM.lQ rfl|exact Nat.zero_le _|exact rfl|exact TM.rX)
namespace TM
open PySem L2 D8
theorem rZ(h0:0<=z)(h:z<2 ^ 62):Ft .Ee [(k,.int z)]=some ((List.range z.toNat).map λi:Nat=>(Kd.loc,U.int (0+(i:Int)))):=by
 rw[o_,s_,if_pos (by omega)]
theorem jv(hx:x.length<=sizeLine)(h:D6 x.cps.toList i=some c):ib (k,.str x) (.int i)=some (.loc,.str (D8.one c)):=by
 simp only[ib];rw[if_pos hx,h];rfl
theorem kb:small.length<=sizeLine:=by decide
theorem cm{ds:List Int}(h:i<ds.length):D6 (ds.map U.int) (i:Int)=some (.int ((ds[i]?).getD 0)):=cw (by simp[h])
theorem cO:∀(ss:List Str),strsOf (ss.map U.str)=some ss
 |[]=>rfl
 |s::ss=>by show(strsOf (ss.map U.str)).map (s::·)=_;rw[cO ss];rfl
noncomputable def nv(md:E):Fn:=⟨"_law_name",2,6,[.set 2 (.cst (.str "abcdefghijklmnopqrstuvwxyz")),.set 3 (.Gr .join (.cst (.str "")) [.comp 1 false .Ee [.bin .add (.cst (.int 1)) (.bin .mod (.idx (.var 0) (.cst (.int 0))) (.cst (.int 8)))] [] (.idx (.var 3) (.bin .mod (.idx (.var 1) (.bin .add (.cst (.int 4)) (.var 0))) (.cst (.int 26))))]),.ite (.cmp .gt (.bi .len [.var 1]) (.cst (.int 0))) [.set 4 (.idx (.Gr .split (.idx (.var 1) (.bin .mod (.idx (.var 0) (.cst (.int 1))) (.bi .len [.var 1]))) [.cst (.str "/")]) (.cst (.int 0))),.ite (.cmp .eq (.bin .mod (.idx (.var 0) (.cst (.int 2))) (.cst (.int 4))) (.cst (.int 1))) [.set 3 (.HP (.bin .add (.var 4) (.var 3)) [] [.cst (.int 8)])] [],.ite (.cmp .eq (.bin .mod (.idx (.var 0) (.cst (.int 2))) (.cst (.int 4))) (.cst (.int 2))) [.set 3 (.bin .add (.bin .add (.var 4) (.cst (.str "/"))) (.bi .str [.bin .add (.cst (.int 2)) (.bin .mod (.idx (.var 0) (.cst (.int 3))) md)]))] []] [],.set 5 (.bin .add (.lst [.var 3]) (.comp 1 false .Ee [.cst (.int 40)] [] (.bin .add (.idx (.var 3) (.bin .FJ (.var 0) (.cst (.int 26)))) (.idx (.var 3) (.bin .mod (.var 0) (.cst (.int 26))))))),.ret (.idx (.comp 1 false .seq [.var 5] [.cmp .DA (.var 0) (.var 2)] (.var 0)) (.cst (.int 0)))]⟩
def yD(md:E):Prop:=∀(Γ:Tab) (ds:List Int),ds.length=12->(∀d∈ds,0<=d)->∃m:Int,0<m/\m<=98/\∀o1 o2 o3 o4 o5,Run (ev Γ md) [some (.any,.lst (ds.map .int)),o1,o2,o3,o4,o5] (.loc,.int m) [some (.any,.lst (ds.map .int)),o1,o2,o3,o4,o5]
abbrev CD:E:=.cst (.int 98)
theorem yE:yD CD:=λ_ _ _ _=>⟨98,by decide,by decide,λ_ _ _ _ _=>aU⟩
section
variable{Γ:Tab}{ds:List Int}
noncomputable def dd(ds:List Int)(i:Nat):Int:=(ds[i]?).getD 0
theorem dQ(h0:∀d∈ds,0<=d)(i:Nat):0<=dd ds i:=by
 unfold dd;cases e:ds[i]? with
 |none=>simp
 |some d=>exact h0 d (List.mem_of_getElem? e)
theorem ny(hd:ds.length=12)(h0:∀d∈ds,0<=d):∃cs:List Nat,(∀c∈cs,low c=true)/\1<=cs.length/\cs.length<=8 /\
  Run (ev Γ (.comp 1 false .Ee [.bin .add (.cst (.int 1)) (.bin .mod (.idx (.var 0) (.cst (.int 0))) (.cst (.int 8)))] [] (.idx (.var 3) (.bin .mod (.idx (.var 1) (.bin .add (.cst (.int 4)) (.var 0))) (.cst (.int 26))))))
   [some (.any,.lst (ds.map .int)),o1,some (.loc,.str small),o3,o4,o5] (.own,.lst ((cs.map D8.one).map .str)) [some (.any,.lst (ds.map .int)),o1,some (.loc,.str small),o3,o4,o5]:=by
 have hz:=dQ h0 0;let n:=(1+dd ds 0 % 8).toNat;have hn:n<=8/\1<=n:=by show(1+dd ds 0 % 8).toNat<=8/\1<=(1+dd ds 0 % 8).toNat;omega
 let f:Nat->Nat:=λi=>97+(dd ds (4+i) % 26).toNat;refine⟨(List.range n).map f,?_,by simp;exact hn.2,by simp;exact hn.1,?_⟩
 ·intro c hc;obtain⟨i,_,rfl⟩:=List.mem_map.mp hc;have:=dQ h0 (4+i);exact qy (by omega)
 ·have hx:Run (bq 1 false (aO Γ []) (ev Γ (.idx (.var 3) (.bin .mod (.idx (.var 1) (.bin .add (.cst (.int 4)) (.var 0))) (.cst (.int 26))))) [(.loc,.int (1+dd ds 0 % 8))] ((List.range n).map λi:Nat=>(Kd.loc,U.int (0+(i:Int)))) [])
    [some (.any,.lst (ds.map .int)),o1,some (.loc,.str small),o3,o4,o5] ([]++((List.range n).map λi:Nat=>(Kd.loc,U.int (0+(i:Int)))).map λx=>match x.2 with|.int j=>.str (D8.one (97+(dd ds (4+j.toNat) % 26).toNat))|u=>u) [some (.any,.lst (ds.map .int)),o1,some (.loc,.str small),o3,o4,o5]:=by
   have h8:(8:Nat)<=sizeLine:=by decide
   refine v7 (by exact trivial) _ (λ_=>.loc) _ _ (by simp;omega) (λx hx=>?_) (λx hx=>?_)
   ·obtain⟨i,_,rfl⟩:=List.mem_map.mp hx;exact .inl rfl
   ·obtain⟨i,hi,rfl⟩:=List.mem_map.mp hx;have E4:i<n:=by simpa using hi
    have ha:D6 (ds.map U.int) (4+(0+(i:Int)))=some (.int (dd ds (4+i))):=by
     rw[show(4+(0+(i:Int)))=((4+i:Nat):Int) by omega];exact cm (by omega)
    have Ts:=dQ h0 (4+i);have hs:=j6 (k:=dd ds (4+i) % 26) (by omega) (by omega);refine⟨gP,?_,aR⟩;simp only[Int.zero_add,Int.toNat_natCast];rw[Int.zero_add]at ha
    repeat' (first|exact a5 ha|exact jv kb hs|sizeOf_list_dec)
  have e:((List.range n).map f).map D8.one=(List.range n).map λi=>D8.one (97+(dd ds (4+i) % 26).toNat):=by rw[List.map_map];rfl
  rw[e];have e2:([]++((List.range n).map λi:Nat=>(Kd.loc,U.int (0+(i:Int)))).map λx=>match x.2 with|.int j=>U.str (D8.one (97+(dd ds (4+j.toNat) % 26).toNat))|u=>u)=((List.range n).map λi=>D8.one (97+(dd ds (4+i) % 26).toNat)).map U.str:=by
   rw[List.nil_append,List.map_map,List.map_map];apply List.map_congr_left;intro i _;simp
  rw[e2]at hx;refine b7 (rs:=[(.loc,.int (1+dd ds 0 % 8))]) ?_ trivial (rZ (by omega) (by omega)) hx
  repeat' (first|exact a5 (cm (i:=0) (by omega))|sizeOf_list_dec)
theorem jh(h:x.length+y.length<=sizeLine):FY .add (k,.str x) (k',.str y)=some (.loc,.str (x++y)):=by
 simp only[FY,vc];rw[if_pos h]
theorem fu:∀(ss:List Str) (n:Nat),bW n (ss.map U.str)=true
 |[],n=>by simp[bW]
 |s::ss,n=>by simp only[List.map_cons,bW,fu ss n,Bool.and_true];cases n<;>rfl
theorem pd(x:Str):∀(ss:List Str),((ss.map U.str).any λy=>ba y (.str x))=decide (x∈ss)
 |[]=>by simp
 |s::ss=>by
  rw[List.map_cons,List.any_cons,pd x ss];have:ba (.str s) (.str x)=decide (x=s):=by
   simp only[ba];by_cases h:x=s
   ·subst h;simp
   ·have h':s≠x:=λz=>h z.symm;simp[h,h']
  rw[this,Bool.eq_iff_iff];simp
theorem r6(x:Str)(ss:List Str):HR (.str x) (ss.map U.str)=some (decide (x∈ss)):=by
 unfold HR;rw[if_pos ⟨by rfl,fu ss 50⟩,pd]
theorem eZ{x:Str}{ss:List Str}:bw .DA (.str x) (.lst (ss.map U.str))=some (decide (x∉ss)):=by
 show(HR (.str x) (ss.map U.str)).map (!·)=_;rw[r6];simp
theorem pe:Run (ev Γ (.comp 1 false .Ee [.cst (.int 40)] [] (.bin .add (.idx (.var 3) (.bin .FJ (.var 0) (.cst (.int 26)))) (.idx (.var 3) (.bin .mod (.var 0) (.cst (.int 26)))))))
   [o0,o1,some (.loc,.str small),o3,o4,o5] (.own,.lst (bK.map .str)) [o0,o1,some (.loc,.str small),o3,o4,o5]:=by
 have h8:(100:Nat)<=sizeLine:=by decide
 have hx:Run (bq 1 false (aO Γ []) (ev Γ (.bin .add (.idx (.var 3) (.bin .FJ (.var 0) (.cst (.int 26)))) (.idx (.var 3) (.bin .mod (.var 0) (.cst (.int 26)))))) [(.loc,.int 40)] ((List.range 40).map λi:Nat=>(Kd.loc,U.int (0+(i:Int)))) [])
   [o0,o1,some (.loc,.str small),o3,o4,o5] ([]++((List.range 40).map λi:Nat=>(Kd.loc,U.int (0+(i:Int)))).map λx=>match x.2 with|.int j=>.str (lP j.toNat)|u=>u) [o0,o1,some (.loc,.str small),o3,o4,o5]:=by
  refine v7 (by exact trivial) _ (λ_=>.loc) _ _ (by simp;omega) (λx hx=>?_) (λx hx=>?_)
  ·obtain⟨i,_,rfl⟩:=List.mem_map.mp hx;exact .inl rfl
  ·obtain⟨i,hi,rfl⟩:=List.mem_map.mp hx;have E4:i<40:=by simpa using hi
   refine⟨gP,?_,aR⟩;simp only[Int.zero_add,Int.toNat_natCast];have h1:=j6 (k:=(i:Int) / 26) (by omega) (by omega);have h2:=j6 (k:=(i:Int) % 26) (by omega) (by omega);have e1:((i:Int) / 26).toNat=i / 26:=by omega
   have e2:((i:Int) % 26).toNat=i % 26:=by omega
   rw[e1]at h1;rw[e2]at h2;have ad:FY .add (.loc,.str (D8.one (97+i / 26))) (.loc,.str (D8.one (97+i % 26)))=some (.loc,.str (lP i)):=by
    have:=jh (k:=.loc) (k':=.loc) (x:=D8.one (97+i / 26)) (y:=D8.one (97+i % 26)) (by show 1+1<=sizeLine;omega);rw[this];rfl
   repeat' (first|exact jv kb h1|exact jv kb h2|exact ad|sizeOf_list_dec)
 have e2:([]++((List.range 40).map λi:Nat=>(Kd.loc,U.int (0+(i:Int)))).map λx=>match x.2 with|.int j=>U.str (lP j.toNat)|u=>u)=bK.map U.str:=by
  rw[List.nil_append,List.map_map,bK,List.map_map];apply List.map_congr_left;intro i _;simp
 rw[e2]at hx;exact b7 (rs:=[(.loc,.int 40)]) (by repeat' sizeOf_list_dec) trivial (rZ (by omega) (by omega)) hx
theorem tL{names ts:List Str}(hl:ts.length<=1000):Run (ev Γ (.comp 1 false .seq [.var 5] [.cmp .DA (.var 0) (.var 2)] (.var 0)))
   [o0,some (.any,.lst (names.map .str)),o2,o3,o4,some (.own,.lst (ts.map .str))] (.own,.lst ((ts.filter λx=>decide (x∉names)).map .str)) [o0,some (.any,.lst (names.map .str)),o2,o3,o4,some (.own,.lst (ts.map .str))]:=by
 have h8:(1000:Nat)<=sizeLine:=by decide
 have hx:=ka (cond:=aO Γ [.cmp .DA (.var 0) (.var 2)]) (elt:=ev Γ (.var 0)) (src:=[(.bor 5,.lst (ts.map .str))]) (st:=[o0,some (.any,.lst (names.map .str)),o2,o3,o4,some (.own,.lst (ts.map .str))]) ⟨⟨.own,rfl,rfl⟩,trivial⟩
  (λx=>match x.2 with|.str y=>decide (y∉names)|_=>false) (λx=>x.2) (λ_=>.loc) ((ts.map U.str).map λu=>(kE (.bor 5),u)) [] (by simp;omega) (λx hx=>by obtain⟨u,_,rfl⟩:=List.mem_map.mp hx;exact .inl rfl) (λx hx=>by
   obtain⟨u,hu,rfl⟩:=List.mem_map.mp hx;obtain⟨y,_,rfl⟩:=List.mem_map.mp hu;refine⟨dm ?_,af rfl,aR⟩
   repeat' (first|exact eZ|sizeOf_list_dec))
 have e:([]++(((ts.map U.str).map λu=>(kE (.bor 5),u)).filter λx=>match x.2 with|.str y=>decide (y∉names)|_=>false).map λx=>x.2)=(ts.filter λx=>decide (x∉names)).map U.str:=by
  rw[List.nil_append,List.filter_map,List.filter_map,List.map_map,List.map_map];rfl
 rw[e]at hx;exact b7 (rs:=[(.bor 5,.lst (ts.map .str))]) (by repeat' sizeOf_list_dec) ⟨⟨.own,rfl,rfl⟩,trivial⟩ rfl hx
end
section
variable{Γ:Tab}{ds:List Int}
theorem tM{names:List Str}(hn:names.length<40)(HK:cA x0.cps.toList):∃x st',cA x.cps.toList/\x∉names /\
  Run (execs Γ [.set 5 (.bin .add (.lst [.var 3]) (.comp 1 false .Ee [.cst (.int 40)] [] (.bin .add (.idx (.var 3) (.bin .FJ (.var 0) (.cst (.int 26)))) (.idx (.var 3) (.bin .mod (.var 0) (.cst (.int 26))))))),
  .ret (.idx (.comp 1 false .seq [(.var 5)] [(.cmp .DA (.var 0) (.var 2))] (.var 0)) (.cst (.int 0)))]) [o0,some (.any,.lst (names.map .str)),some (.loc,.str small),some (.loc,.str x0),o4,none] (.rt .loc (.str x)) st':=by
 have h8:(1000:Nat)<=sizeLine:=by decide
 obtain⟨y,hy,Sk⟩:=qA names hn;have Ej:(x0::bK).filter (λx=>decide (x∉names))≠[]:=λz=>by
  have:y∈(x0::bK).filter (λx=>decide (x∉names)):=List.mem_filter.mpr ⟨List.mem_cons_of_mem _ hy,by simpa using Sk⟩;rw[z]at this;cases this
 cases e:(x0::bK).filter (λx=>decide (x∉names)) with
 |nil=>exact absurd e Ej
 |cons x rest =>
  have hx:x∈(x0::bK).filter (λx=>decide (x∉names)):=by rw[e];simp
  obtain⟨NQ,NR⟩:=List.mem_filter.mp hx;have fr:=tL (Γ:=Γ) (names:=names) (ts:=x0::bK) (by simp[bK]) (o0:=o0) (o2:=some (.loc,.str small)) (o3:=some (.loc,.str x0)) (o4:=o4);rw[e]at fr;have ad:FY .add (.own,.lst [.str x0]) (.own,.lst (bK.map U.str))=some (.own,.lst ((x0::bK).map U.str)):=by
   simp only[FY,vc];rw[if_pos ⟨by simp[bK];omega,rfl,rfl⟩];rfl
  refine⟨x,[o0,some (.any,.lst (names.map .str)),some (.loc,.str small),some (.loc,.str x0),o4,some (.own,.lst ((x0::bK).map .str))],?_,by simpa using NR,?_⟩
  ·rcases List.mem_cons.mp NQ with rfl|h
   ·exact HK
   ·obtain⟨k,hk,rfl⟩:=List.mem_map.mp h;exact .inl (qz (by simpa using hk))
  ·refine aB (st2:=[o0,some (.any,.lst (names.map .str)),some (.loc,.str small),some (.loc,.str x0),o4,some (.own,.lst ((x0::bK).map .str))]) (iL (x:=(.own,.lst [.str x0])) (cv (ag (af rfl) ak) (by(first|exact trivial|exact⟨⟨_,rfl,rfl⟩,trivial⟩|exact⟨⟨_,rfl,rfl⟩,⟨_,rfl,rfl⟩,trivial⟩)) (a9 aR aS) (by show 1<=sizeLine;omega)) pe trivial ad) bo ?_;refine cT (bM fr aU trivial (a5 (by show D6 _ ((0:Nat):Int)=_;exact cw rfl))) j9
theorem wa(KN:yD md)(hd:ds.length=12)(h0:∀d∈ds,0<=d){names:List Str}(hn:names.length<40)(hw:∀x∈names,cA x.cps.toList):
  ∃x,cA x.cps.toList/\x∉names/\bP Γ (nv md) [.lst (ds.map .int),.lst (names.map .str)]=some (.ok (.loc,.str x)):=by
 obtain⟨m,JW,Tt,Sl⟩:=KN Γ ds hd h0;have h8:(1000:Nat)<=sizeLine:=by decide
 obtain⟨cs,KO,Sm,PH,KP⟩:=ny (Γ:=Γ) hd h0 (o1:=some (.any,.lst (names.map .str))) (o3:=none) (o4:=none) (o5:=none);have KQ:iY .join (.str "") [(.own,.lst ((cs.map D8.one).map U.str))]=some (.loc,.str (Txt.join Str.empty (cs.map D8.one))):=by
  show(strsOf ((cs.map D8.one).map U.str)).bind _=_;rw[cO];show(if JoinOk Str.empty (cs.map D8.one)=true then _ else _)=_;rw[if_pos (oS cs (by omega))];rfl
 let x0:Str:=Txt.join Str.empty (cs.map D8.one);have HK:x0.cps.toList=cs:=join_ones cs;have EC:d_ x0.cps.toList=true:=by rw[HK];exact iK KO Sm PH
 have PJ:x0.length<=8:=by rw[len_list,HK];exact PH
 have head:∀{f:Fl} {st':au} (ss:List S),Run (execs Γ ss) [some (.any,.lst (ds.map .int)),some (.any,.lst (names.map .str)),some (.loc,.str small),some (.loc,.str x0),none,none] f st' ->
   Run (execs Γ (.set 2 (.cst (.str "abcdefghijklmnopqrstuvwxyz"))::.set 3 (.Gr .join (.cst (.str "")) [.comp 1 false .Ee [.bin .add (.cst (.int 1)) (.bin .mod (.idx (.var 0) (.cst (.int 0))) (.cst (.int 8)))] [] (.idx (.var 3) (.bin .mod (.idx (.var 1) (.bin .add (.cst (.int 4)) (.var 0))) (.cst (.int 26))))])::ss))
    [some (.any,.lst (ds.map .int)),some (.any,.lst (names.map .str)),none,none,none,none] f st':=λss h=>aB (r:=(.loc,.str small)) aU aV (aB (vX aU (ag KP ak) (by(first|exact trivial|exact⟨⟨_,rfl,rfl⟩,trivial⟩|exact⟨⟨_,rfl,rfl⟩,⟨_,rfl,rfl⟩,trivial⟩)) KQ) aV h)
 have mid:∀(x1:Str) (o4:Option (Kd×U)),cA x1.cps.toList->∃x st',cA x.cps.toList/\x∉names/\Run (execs Γ [.set 5 (.bin .add (.lst [.var 3]) (.comp 1 false .Ee [.cst (.int 40)] [] (.bin .add (.idx (.var 3) (.bin .FJ (.var 0) (.cst (.int 26)))) (.idx (.var 3) (.bin .mod (.var 0) (.cst (.int 26))))))),
  .ret (.idx (.comp 1 false .seq [(.var 5)] [(.cmp .DA (.var 0) (.var 2))] (.var 0)) (.cst (.int 0)))]) [some (.any,.lst (ds.map .int)),some (.any,.lst (names.map .str)),some (.loc,.str small),some (.loc,.str x1),o4,none] (.rt .loc (.str x)) st':=λx1 o4 h1=>tM hn h1
 by_cases hz:0<names.length
 ·
  have hi:(dd ds 1).toNat % names.length<names.length:=Nat.mod_lt _ hz;let nm:=names[(dd ds 1).toNat % names.length]'hi;have Fi:cA nm.cps.toList:=hw _ (List.getElem_mem hi);obtain⟨y,r,FP,DJ⟩:=Fi.Du;have LJ:y.length<=8:=by rw[len_list];exact((cG _).mp DJ).2.1
  have Hs:nm.length<=11:=by rw[len_list];exact Fi.len.2
  have M5:=dQ h0 1;have EF:D6 (names.map U.str) (dd ds 1 % ((names.map U.str).length:Nat))=some (.str nm):=by
   rw[List.length_map,show dd ds 1 % (names.length:Nat)=(((dd ds 1).toNat % names.length:Nat):Int) by rw[Int.natCast_emod,Int.toNat_of_nonneg M5]];exact cw (by simp[hi];rfl)
  have Ja:iY .split (.str nm) [(.loc,.str "/")]=some (.own,.lst ((y::r).map U.str)):=by
   show(if (Str.length "/"==0)=false/\nm.length+2<=sizeLine then some (Kd.own,U.lst ((Txt.split nm "/").map .str)) else none)=_;rw[if_pos ⟨by decide,by omega⟩,show("/":Str)=yX from rfl,FP]
  have hp:(0:Int)<((names.map U.str).length:Nat):=by simp;omega
  have Sn:ib (.own,.lst ((y::r).map U.str)) (.int 0)=some (.loc,.str y):=a5 (by show D6 _ ((0:Nat):Int)=_;exact cw rfl);have hd2:=dQ h0 2;have Tu:=dQ h0 3;have i1:D6 (ds.map U.int) 1=some (.int (dd ds 1)):=cm (i:=1) (by omega);have i2:D6 (ds.map U.int) 2=some (.int (dd ds 2)):=cm (i:=2) (by omega);have i3:D6 (ds.map U.int) 3=some (.int (dd ds 3)):=cm (i:=3) (by omega);have go:∀x1:Str,cA x1.cps.toList->Run (execs Γ [.ite (.cmp .eq (.bin .mod (.idx (.var 0) (.cst (.int 2))) (.cst (.int 4))) (.cst (.int 1)))
    [.set 3 (.HP (.bin .add (.var 4) (.var 3)) [] [.cst (.int 8)])]
    [],
   .ite (.cmp .eq (.bin .mod (.idx (.var 0) (.cst (.int 2))) (.cst (.int 4))) (.cst (.int 2)))
    [.set 3 (.bin .add (.bin .add (.var 4) (.cst (.str "/"))) (.bi .str [.bin .add (.cst (.int 2)) (.bin .mod (.idx (.var 0) (.cst (.int 3))) md)]))]
    []]) [some (.any,.lst (ds.map .int)),some (.any,.lst (names.map .str)),some (.loc,.str small),some (.loc,.str x0),some (.loc,.str y),none] .nx [some (.any,.lst (ds.map .int)),some (.any,.lst (names.map .str)),some (.loc,.str small),some (.loc,.str x1),some (.loc,.str y),none] ->
    ∃x,cA x.cps.toList/\x∉names/\bP Γ (nv md) [.lst (ds.map .int),.lst (names.map .str)]=some (.ok (.loc,.str x)):=λx1 h1 hr=>by
   obtain⟨x,st',a1,a2,a3⟩:=mid x1 (some (.loc,.str y)) h1;refine⟨x,a1,a2,aP (st0:=[some (.any,.lst (ds.map .int)),some (.any,.lst (names.map .str)),none,none,none,none]) rfl (.inr rfl) rfl (head _ (eY (st1:=[some (.any,.lst (ds.map .int)),some (.any,.lst (names.map .str)),some (.loc,.str small),some (.loc,.str x0),none,none]) ?_ (aB (r:=(.loc,.str y)) (st1:=[some (.any,.lst (ds.map .int)),some (.any,.lst (names.map .str)),some (.loc,.str small),some (.loc,.str x0),none,none]) ?_ aV hr) a3))⟩
   ·repeat' (first|exact lR (by simp;omega)|sizeOf_list_dec)
   ·repeat' (first|exact cU hp|exact a5 EF|exact a5 i1|exact Ja|exact Sn|sizeOf_list_dec)
  have t1:∀{c:Bool} {o3 o4:Option (Kd×U)},(dd ds 2 % 4==1)=c->Run (DU Γ (.cmp .eq (.bin .mod (.idx (.var 0) (.cst (.int 2))) (.cst (.int 4))) (.cst (.int 1)))) [some (.any,.lst (ds.map .int)),some (.any,.lst (names.map .str)),some (.loc,.str small),o3,o4,none] c [some (.any,.lst (ds.map .int)),some (.any,.lst (names.map .str)),some (.loc,.str small),o3,o4,none]:=λhc=>by
   repeat' (first|exact a5 i2|exact iq hc|sizeOf_list_dec)
  have t2:∀{c:Bool} {o3 o4:Option (Kd×U)},(dd ds 2 % 4==2)=c->Run (DU Γ (.cmp .eq (.bin .mod (.idx (.var 0) (.cst (.int 2))) (.cst (.int 4))) (.cst (.int 2)))) [some (.any,.lst (ds.map .int)),some (.any,.lst (names.map .str)),some (.loc,.str small),o3,o4,none] c [some (.any,.lst (ds.map .int)),some (.any,.lst (names.map .str)),some (.loc,.str small),o3,o4,none]:=λhc=>by
   repeat' (first|exact a5 i2|exact iq hc|sizeOf_list_dec)
  by_cases NT:dd ds 2 % 4=1
  ·have So:y.length+x0.length<=sizeLine:=by omega
   have KD:p_ (.loc,.str (y++x0)) none (some 8)=some (.loc,.str (PySem.StrLaws.sliceText (y++x0) none (some 8))):=by
    simp only[p_];rw[if_pos (by rw[len_list];show(y.cps++x0.cps).toList.length<=_;rw[Array.toList_append,List.length_append,<-len_list,<-len_list];omega)]
   refine go (PySem.StrLaws.sliceText (y++x0) none (some 8)) (.inl ?_) ?_
   ·have:=A8 (y++x0) 8;rw[show((8:Nat):Int)=8 from rfl]at this;rw[this];show d_ ((y.cps++x0.cps).toList.take 8)=true;rw[Array.toList_append];exact tI DJ (by rw[HK];exact KO)
   ·refine eY (t1 (by simp[NT])) (aB (Cv (iL (af rfl) (af rfl) trivial (jh So)) Cs (Cu aU) trivial KD) aV aD) (cN (t2 (by simp[NT])) aD aD)
  ·by_cases G_:dd ds 2 % 4=2
   ·have Nk:=Int.emod_nonneg (dd ds 3) (show m≠0 by omega);have Jz:=Int.emod_lt_of_pos (dd ds 3) JW;have KG:0<=2+dd ds 3 % m:=by omega
    have PK:2+dd ds 3 % m<=99:=by omega
    have Sr:=lO KG PK;have IS:Fq .str [(.loc,.int (2+dd ds 3 % m))]=some (.loc,.str (sJ (2+dd ds 3 % m))):=by
     simp only[Fq,gC,xQ];rw[if_pos (by
      have:(2+dd ds 3 % m).natAbs<2 ^ 7:=by omega
      have h2:(2+dd ds 3 % m).natAbs≠0:=by omega
      have:=(Nat.log2_lt h2).mpr this;omega)]
     rfl
    have NU:(y++("/":Str)).length=y.length+1:=by rw[len_list,len_list];show(y.cps++_).toList.length=_;rw[Array.toList_append,List.length_append];rfl
    have NV:Run (ev Γ (.bin .add (.cst (.int 2)) (.bin .mod (.idx (.var 0) (.cst (.int 3))) md))) [some (.any,.lst (ds.map .int)),some (.any,.lst (names.map .str)),some (.loc,.str small),some (.loc,.str x0),some (.loc,.str y),none] (.loc,.int (2+dd ds 3 % m)) [some (.any,.lst (ds.map .int)),some (.any,.lst (names.map .str)),some (.loc,.str small),some (.loc,.str x0),some (.loc,.str y),none]:=iL aU (iL (bM (aZ rfl) aU trivial (a5 i3)) (Sl _ _ _ _ _) trivial (cU JW)) trivial jr;refine go (y++"/"++sJ (2+dd ds 3 % m)) (.inr ⟨y.cps.toList,(sJ (2+dd ds 3 % m)).cps.toList,2+dd ds 3 % m,?_,DJ,by omega,PK,rfl⟩) ?_
    ·show((y.cps++#[47])++(sJ _).cps).toList=_;simp
    ·refine cN (t1 (by simp[G_])) aD (eY (t2 (by simp[G_])) (aB (iL (iL (af rfl) aU trivial (jh (by show y.length+1<=sizeLine;omega))) (fA (ag NV ak) trivial IS) trivial (jh (by rw[NU];omega))) aV aD) aD)
   ·refine go x0 (.inl EC) ?_;exact cN (t1 (by simp[NT])) aD (cN (t2 (by simp[G_])) aD aD)
 ·obtain⟨x,st',a1,a2,a3⟩:=mid x0 none (.inl EC);refine⟨x,a1,a2,aP (st0:=[some (.any,.lst (ds.map .int)),some (.any,.lst (names.map .str)),none,none,none,none]) rfl (.inr rfl) rfl (head _ (cN (st1:=[some (.any,.lst (ds.map .int)),some (.any,.lst (names.map .str)),some (.loc,.str small),some (.loc,.str x0),none,none]) ?_ aD a3))⟩
  repeat' (first|exact lR (decide_eq_false (by simp only[List.length_map];omega))|sizeOf_list_dec)
end
def kg(Γ:Tab):Prop:=∀(ns:List Int) (k:Nat),k<2 ^ 62->∃z,Γ "_law_cell" [.lst (ns.map .int),.int (k:Nat)]=some (.ok (.loc,.int z))
def gQ(Γ:Tab):Prop:=∀(c:Int) (n:Nat),n<1000->∃ds:List Int,ds.length=n/\(∀d∈ds,0<=d)/\Γ "_law_drawn" [.int c,.int (n:Nat)]=some (.ok (.own,.lst (ds.map .int)))
def wb(Γ:Tab):Prop:=∀(ds:List Int) (names:List Str),ds.length=12->(∀d∈ds,0<=d)->names.length<40->(∀x∈names,cA x.cps.toList)->∃x,cA x.cps.toList/\x∉names/\Γ "_law_name" [.lst (ds.map .int),.lst (names.map .str)]=some (.ok (.loc,.str x))
noncomputable def fNames:Fn:=⟨"_law_names",3,5,[.set 3 (.lst []),.DS false [4] .Ee [.var 2] [.app 3 (.call "_law_name" [.call "_law_drawn" [.call "_law_cell" [.var 0,.bin .add (.var 1) (.var 4)],.cst (.int 12)],.var 3])],.ret (.var 3)]⟩
theorem tN(hc:kg Γ)(hd:gQ Γ)(hn:wb Γ){ns:List Int}(hb:b<1000)(hm:m<40):
    ∃names:List Str,names.length=m/\names.Nodup/\(∀x∈names,cA x.cps.toList)/\bP Γ fNames [.lst (ns.map .int),.int (b:Nat),.int (m:Nat)]=some (.ok (.own,.lst (names.map .str))):=by
  have hsz:(1000:Nat)<=sizeLine:=by decide
  let I:List (Kd×U)->au->Prop:=λxs st=>∃(names:List Str) (us:List U) (o:Option (Kd×U)),st=[some (.any,.lst (ns.map .int)),some (.loc,.int (b:Nat)),some (.loc,.int (m:Nat)),some (.own,.lst us),o]/\us=names.map .str/\names.Nodup/\(∀x∈names,cA x.cps.toList)/\names.length+xs.length=m/\dP m xs;have loop:=oY (t:=false) (is:=[4]) (body:=execs Γ [.app 3 (.call "_law_name" [.call "_law_drawn" [.call "_law_cell" [.var 0,.bin .add (.var 1) (.var 4)],.cst (.int 12)],.var 3])]) (rs:=[(.loc,.int (m:Nat))]) I (λ_ _ _=>trivial) (λx xs st DP=>by
    obtain⟨names,us,o,e,e2,DN,hw,hl,hr⟩:=DP;subst e;obtain⟨i,hi,rfl,EB,hlen⟩:=hr.cons;rw[List.length_cons]at hl;obtain⟨z,hz⟩:=hc ns (b+i) (by omega);rw[Int.natCast_add]at hz;obtain⟨ds,d1,d2,d3⟩:=hd z 12 (by omega);obtain⟨x,x1,x2,x3⟩:=hn ds names d1 d2 (by omega) hw;rw[<-e2]at x3;refine⟨[some (.any,.lst (ns.map .int)),some (.loc,.int (b:Nat)),some (.loc,.int (m:Nat)),some (.own,.lst us),some (.loc,.int (i:Nat))],[some (.any,.lst (ns.map .int)),some (.loc,.int (b:Nat)),some (.loc,.int (m:Nat)),some (.own,.lst (us++[.str x])),some (.loc,.int (i:Nat))],aV,?_,⟨names++[x],_,_,rfl,by simp[e2],?_,?_,by simp;omega,EB⟩⟩
    · repeat' (first|exact hz|exact d3|exact x3|exact(by rw[e2,List.length_map];omega)|sizeOf_list_dec)
    · rw[List.nodup_append]
      exact ⟨DN, by simp, fun y hy w Gf => by have : w = x := by simpa using Gf
                                              subst this;rintro rfl;exact x2 hy⟩
    · intro y hy
      rcases List.mem_append.mp hy with h|h
      · exact hw y h
      · rw[List.mem_singleton.mp h];exact x1)
  obtain⟨st',DT,names,us,o,e,e2,DN,hw,hl,_⟩:=loop ((List.range m).map λi:Nat=>(Kd.loc,U.int (0+(i:Int)))) [some (.any,.lst (ns.map .int)),some (.loc,.int (b:Nat)),some (.loc,.int (m:Nat)),some (.own,.lst []),none] ⟨[],[],none,rfl,rfl,by simp,by simp,by simp,dP.all m⟩;subst e e2;refine⟨names,by simpa using hl,DN,hw,?_⟩;apply aP (st0:=[some (.any,.lst (ns.map .int)),some (.loc,.int (b:Nat)),some (.loc,.int (m:Nat)),none,none]) rfl (.inl rfl) rfl
  repeat' sizeOf_list_dec
  have hit:=nu (k:=.loc) (n:=m) (by omega);refine' cf (rs:=[(.loc,.int (m:Nat))]) (st1:=[some (.any,.lst (ns.map .int)),some (.loc,.int (b:Nat)),some (.loc,.int (m:Nat)),some (.own,.lst []),none]) _ trivial hit rfl DT _
  all_goals repeat' sizeOf_list_dec
noncomputable def iO:Fn:=⟨"_law_told",2,6,[.set 2 (.bi .len [.var 1]),.ite (.and [.cmp .gt (.bin .mod (.idx (.var 0) (.cst (.int 2))) (.cst (.int 3))) (.cst (.int 0)),.cmp .gt (.bin .mod (.idx (.var 0) (.cst (.int 0))) (.bi .len [.var 1])) (.cst (.int 0))]) [.set 2 (.bin .mod (.idx (.var 0) (.cst (.int 0))) (.bi .len [.var 1]))] [],.set 3 (.lst []),.DS false [4] .Ee [.idx (.lst [.cst (.int 0),.cst (.int 0),.cst (.int 1),.cst (.int 1),.cst (.int 1),.cst (.int 2),.cst (.int 2),.cst (.int 2),.cst (.int 3),.cst (.int 8)]) (.bin .mod (.idx (.var 0) (.cst (.int 1))) (.cst (.int 10)))] [.set 5 (.idx (.var 1) (.bin .mod (.idx (.var 0) (.bin .add (.cst (.int 3)) (.var 4))) (.var 2))),.ite (.cmp .DA (.var 5) (.var 3)) [.app 3 (.var 5)] []],.ret (.bi .tuple [.var 3])]⟩
theorem Dv:∀j:Nat,j<10->∃q:Nat,q<=8/\D6 [U.int 0,.int 0,.int 1,.int 1,.int 1,.int 2,.int 2,.int 2,.int 3,.int 8] (j:Int)=some (.int (q:Nat))
 |0,_=>⟨0,by omega,rfl⟩|1,_=>⟨0,by omega,rfl⟩|2,_=>⟨1,by omega,rfl⟩|3,_=>⟨1,by omega,rfl⟩|4,_=>⟨1,by omega,rfl⟩
 |5,_=>⟨2,by omega,rfl⟩|6,_=>⟨2,by omega,rfl⟩|7,_=>⟨2,by omega,rfl⟩|8,_=>⟨3,by omega,rfl⟩|9,_=>⟨8,by omega,rfl⟩
 |n+10,h=>absurd h (by omega)
theorem Ba(hz:0<=z)(ht:0<t)(hl:t<=xs.length):∃x∈xs,D6 xs (z % t)=some x:=by
 have h1:=Int.emod_nonneg z (by omega:t≠0);have h2:=Int.emod_lt_of_pos z ht;obtain⟨j,hj⟩:=Int.eq_ofNat_of_zero_le h1;have Ge:j<xs.length:=by omega
 refine⟨xs[j]'Ge,List.getElem_mem Ge,?_⟩;rw[hj];exact cw (by simp[Ge])
theorem r9{xs:List Str}{z t:Int}(hz:0<=z)(ht:0<t)(hl:t<=xs.length):∃x∈xs,D6 (xs.map U.str) (z % t)=some (.str x):=by
 obtain⟨u,hu,e⟩:=Ba (xs:=xs.map U.str) hz ht (by simpa using hl);obtain⟨x,hx,rfl⟩:=List.mem_map.mp hu;exact⟨x,hx,e⟩
theorem wc{Γ:Tab}{ds:List Int}{names:List Str}(hd:11<=ds.length)(h0:∀d∈ds,0<=d)(hn:0<names.length):
    ∃told:List Str,told.length<=8/\told.Nodup/\(∀x∈told,x∈names)/\bP Γ iO [.lst (ds.map .int),.lst (names.map .str)]=some (.ok (.loc,.tup (told.map .str))):=by
  have hsz:(1000:Nat)<=sizeLine:=by decide
  have i0:D6 (ds.map U.int) 0=some (.int (dd ds 0)):=cm (i:=0) (by omega);have i1:D6 (ds.map U.int) 1=some (.int (dd ds 1)):=cm (i:=1) (by omega);have i2:D6 (ds.map U.int) 2=some (.int (dd ds 2)):=cm (i:=2) (by omega);have n0:=dQ h0 0;have n1:=dQ h0 1;have n2:=dQ h0 2;have hp:(0:Int)<((names.map U.str).length:Nat):=by simp;omega
  have hL:((names.map U.str).length:Int)=names.length:=by simp
  have JW:=Int.emod_lt_of_pos (dd ds 0) hp;have Nk:=Int.emod_nonneg (dd ds 0) (by omega:((names.map U.str).length:Int)≠0);let B:=λ(t:Int) (us:List U) (o4 o5:Option (Kd×U))=>([some (.any,.lst (ds.map .int)),some (.any,.lst (names.map .str)),some (.loc,.int t),some (.own,.lst us),o4,o5]:au)
  have hj:(dd ds 1 % 10).toNat<10:=by omega
  obtain⟨q,hq,EF⟩:=Dv _ hj;rw[Int.toNat_of_nonneg (by omega)]at EF;have main:∀t:Int,0<t->t<=names.length->∃told:List Str,told.length<=8/\told.Nodup/\(∀x∈told,x∈names)/\∃st',Run (execs Γ (iO.body.drop 2)) [some (.any,.lst (ds.map .int)),some (.any,.lst (names.map .str)),some (.loc,.int t),none,none,none] (.rt .loc (.tup (told.map .str))) st':=λt ht LV=>by
    let I:List (Kd×U)->au->Prop:=λxs st=>∃(told:List Str) (us:List U) (o4 o5:Option (Kd×U)),st=B t us o4 o5/\us=told.map .str/\told.Nodup/\(∀x∈told,x∈names)/\told.length+xs.length<=q/\dP q xs;have loop:=oY (t:=false) (is:=[4]) (body:=execs Γ [.set 5 (.idx (.var 1) (.bin .mod (.idx (.var 0) (.bin .add (.cst (.int 3)) (.var 4))) (.var 2))),
      .ite (.cmp .DA (.var 5) (.var 3))
        [.app 3 (.var 5)]
        []]) (rs:=[(.loc,.int (q:Nat))]) I (λ_ _ _=>trivial) (λx xs st DP=>by
      obtain⟨told,us,o4,o5,e,e2,DN,hw,hl,hr⟩:=DP;subst e;obtain⟨i,hi,rfl,EB,hlen⟩:=hr.cons;rw[List.length_cons]at hl;have ik:D6 (ds.map U.int) (3+(i:Int))=some (.int (dd ds (3+i))):=by
        rw[show(3+(i:Int))=((3+i:Nat):Int) by omega];exact cm (by omega)
      obtain⟨x,hx,PL⟩:=r9 (xs:=names) (dQ h0 (3+i)) ht LV;have JA:bw .DA (.str x) (.lst us)=some (decide (x∉told)):=by rw[e2];exact eZ
      by_cases EN:x∈told
      · refine⟨B t us (some (.loc,.int (i:Nat))) o5,B t us (some (.loc,.int (i:Nat))) (some (.any,.str x)),aV,?_,⟨told,us,_,_,rfl,e2,DN,hw,by omega,EB⟩⟩
        refine aB (r:=(.any,.str x)) (st1:=B t us (some (.loc,.int (i:Nat))) o5) ?_ iM (cN (st1:=B t us (some (.loc,.int (i:Nat))) (some (.any,.str x))) ?_ aD aD)
        · repeat' (first|exact a5 ik|exact cU ht|exact a5 PL|sizeOf_list_dec)
        · have:bw .DA (.str x) (.lst us)=some false:=by rw[JA];simp[EN]
          repeat' (first|exact this|sizeOf_list_dec)
      · refine⟨B t us (some (.loc,.int (i:Nat))) o5,B t (us++[.str x]) (some (.loc,.int (i:Nat))) (some (.any,.str x)),aV,?_,⟨told++[x],_,_,_,rfl,by simp[e2],?_,?_,by simp;omega,EB⟩⟩
        · refine aB (r:=(.any,.str x)) (st1:=B t us (some (.loc,.int (i:Nat))) o5) ?_ iM (eY (st1:=B t us (some (.loc,.int (i:Nat))) (some (.any,.str x))) (st2:=B t (us++[.str x]) (some (.loc,.int (i:Nat))) (some (.any,.str x))) ?_ ?_ aD)
          · repeat' (first|exact a5 ik|exact cU ht|exact a5 PL|sizeOf_list_dec)
          · have:bw .DA (.str x) (.lst us)=some true:=by rw[JA];simp[EN]
            repeat' (first|exact this|sizeOf_list_dec)
          · repeat' (first|exact oV rfl|exact(by rw[e2,List.length_map];omega)|sizeOf_list_dec)
        · rw[List.nodup_append]
          exact ⟨DN, by simp, fun y hy w Gf => by have : w = x := by simpa using Gf
                                                  subst this;rintro rfl;exact EN hy⟩
        · intro y hy
          rcases List.mem_append.mp hy with h|h
          · exact hw y h
          · rw[List.mem_singleton.mp h];exact hx)
    obtain⟨st',DT,told,us,o4,o5,e,e2,DN,hw,hl,_⟩:=loop ((List.range q).map λi:Nat=>(Kd.loc,U.int (0+(i:Int)))) (B t [] none none) ⟨[],[],none,none,rfl,rfl,by simp,by simp,by simp,dP.all q⟩;subst e e2;refine⟨told,by simp at hl;omega,DN,hw,?_⟩;have hit:=nu (k:=.loc) (n:=q) (by omega);refine⟨B t (told.map .str) o4 o5,aB (r:=(.own,.lst [])) (cv ak trivial aS (Nat.zero_le _)) bo (cf (rs:=[(.loc,.int (q:Nat))]) (st1:=B t [] none none) ?_ trivial hit rfl DT ?_)⟩
    · refine ag (bM (x:=(.own,.lst [U.int 0,.int 0,.int 1,.int 1,.int 1,.int 2,.int 2,.int 2,.int 3,.int 8])) (y:=(.loc,.int (dd ds 1 % 10))) (st1:=B t [] none none) ?_ ?_ trivial (a5 EF)) ak
      · repeat' (first|exact(by decide:(10:Nat)<=sizeLine)|sizeOf_list_dec)
      · repeat' (first|exact a5 i1|sizeOf_list_dec)
    · repeat' sizeOf_list_dec
  have fin:∀t:Int,0<t->t<=names.length->(∀{f:Fl} {st':au},Run (execs Γ (iO.body.drop 2)) [some (.any,.lst (ds.map .int)),some (.any,.lst (names.map .str)),some (.loc,.int t),none,none,none] f st'->Run (execs Γ iO.body) [some (.any,.lst (ds.map .int)),some (.any,.lst (names.map .str)),none,none,none,none] f st') ->
      ∃told:List Str,told.length<=8/\told.Nodup/\(∀x∈told,x∈names)/\bP Γ iO [.lst (ds.map .int),.lst (names.map .str)]=some (.ok (.loc,.tup (told.map .str))):=λt ht LV hh=>by
    obtain⟨told,a1,a2,a3,st',a4⟩:=main t ht LV;exact⟨told,a1,a2,a3,aP (st0:=[some (.any,.lst (ds.map .int)),some (.any,.lst (names.map .str)),none,none,none,none]) rfl (.inr rfl) rfl (hh a4)⟩
  let S0:au:=[some (.any,.lst (ds.map .int)),some (.any,.lst (names.map .str)),some (.loc,.int ((names.map U.str).length:Nat)),none,none,none]
  have q1:∀{c:Bool},decide (0<dd ds 2 % 3)=c->Run (DU Γ (.cmp .gt (.bin .mod (.idx (.var 0) (.cst (.int 2))) (.cst (.int 3))) (.cst (.int 0)))) S0 c S0:=λh=>by repeat' (first|exact a5 i2|exact lR h|sizeOf_list_dec)
  have q2:∀{c:Bool},decide (0<dd ds 0 % ((names.map U.str).length:Nat))=c->Run (DU Γ (.cmp .gt (.bin .mod (.idx (.var 0) (.cst (.int 0))) (.bi .len [.var 1])) (.cst (.int 0)))) S0 c S0:=λh=>by repeat' (first|exact a5 i0|exact cU hp|exact lR h|sizeOf_list_dec)
  have s2:Run (ev Γ (.bi .len [.var 1])) [some (.any,.lst (ds.map .int)),some (.any,.lst (names.map .str)),none,none,none,none] (.loc,.int ((names.map U.str).length:Nat)) [some (.any,.lst (ds.map .int)),some (.any,.lst (names.map .str)),none,none,none,none]:=by repeat' sizeOf_list_dec
  have s3:Run (ev Γ (.bin .mod (.idx (.var 0) (.cst (.int 0))) (.bi .len [.var 1]))) S0 (.loc,.int (dd ds 0 % ((names.map U.str).length:Nat))) S0:=by repeat' (first|exact a5 i0|exact cU hp|sizeOf_list_dec)
  by_cases c1:0<dd ds 2 % 3
  · by_cases c2:0<dd ds 0 % ((names.map U.str).length:Nat)
    · exact fin (dd ds 0 % ((names.map U.str).length:Nat)) c2 (by omega) λh=>aB s2 aV (eY (oW (qB (q1 (decide_eq_true c1)) (dm (q2 (decide_eq_true c2))))) (aB s3 aV aD) h)
    · exact fin ((names.map U.str).length:Nat) hp (by omega) λh=>aB s2 aV (cN (oW (qB (q1 (decide_eq_true c1)) (dm (q2 (decide_eq_false c2))))) aD h)
  · exact fin ((names.map U.str).length:Nat) hp (by omega) λh=>aB s2 aV (cN (oW (vZ (q1 (decide_eq_false c1)))) aD h)
theorem r_(h1:Run (ev Γ ve) st rv st1)(h2:st1[i]?=some (some (k',u')))(h3:Run (ev Γ ke) st1 rk st2)(h4:Run (cR [rv,rk]) st2 [uv,uk] st3)(h5:st3[i]?=some (some (k,u0)))(hk:k.root=true)(h6:dF uk uv u0=some u1)
  (h7:Run (execs Γ ss) (st3.set i (some (k,u1))) f Jk) (hn:k'≠.Dw:=by intro z;cases z):Run (execs Γ (.put i ke ve::ss)) st f Jk:=by
 refine fB (aa h1 (aa (fJ h2 hn) (aa h3 (aa h4 (aa (a:=()) (st1:=st3.set i (some (k,u1))) ?_ aY))))) h7;show modS i (rq [uv,uk]) st3=_;unfold modS;rw[h5];simp only[hk,if_true];show(match dF uk uv u0 with|some u'=>_|none=>none)=_;rw[h6]
abbrev Row:=Str×List Str
noncomputable def B'(r:Row):U:=.tup [.str r.1,.tup (r.2.map .str)]
noncomputable def keyOf(r:Row):Row:=(r.1,aN r.2)
theorem lS(r:Row):rowOf (B' r)=some r:=by
 show(strsOf (r.2.map U.str)).map _=_;rw[cO];rfl
theorem sorted_strs(h:ss.length<64):Fq .sorted [(k,.tup (ss.map .str))]=some (.own,.lst ((aN ss).map .str)):=by
 show(strsOf (ss.map U.str)).bind _=_;rw[cO];show(if ss.length<64 then _ else _)=_;rw[if_pos h]
noncomputable def wd:Fn:=⟨"_law_book",4,10,[.set 4 (.lst []),.set 5 (.E_ true),.DS false [6] .Ee [.var 3] [.set 7 (.call "_law_drawn" [.call "_law_cell" [.var 0,.bin .add (.var 1) (.var 6)],.cst (.int 11)]),.set 8 (.tup [.idx (.var 2) (.bin .mod (.idx (.var 7) (.cst (.int 0))) (.bi .len [.var 2])),.call "_law_told" [.var 7,.var 2]]),.set 9 (.tup [.idx (.var 8) (.cst (.int 0)),.bi .tuple [.bi .sorted [.idx (.var 8) (.cst (.int 1))]]]),.ite (.cmp .DA (.var 9) (.var 5)) [.put 5 (.var 9) (.cst (.bl true)),.app 4 (.var 8)] []],.ret (.bi .tuple [.var 4])]⟩
def we(Γ:Tab):Prop:=∀(ds:List Int) (names:List Str),11<=ds.length->(∀d∈ds,0<=d)->0<names.length ->
 ∃told:List Str,told.length<=8/\told.Nodup/\(∀x∈told,x∈names)/\Γ "_law_told" [.lst (ds.map .int),.lst (names.map .str)]=some (.ok (.loc,.tup (told.map .str)))
structure e_(names:List Str)(r:Row):Prop where
 word:r.1∈names
 G1:r.2.length<=8
 once:r.2.Nodup
 told:∀x∈r.2,x∈names
theorem wg(hc:kg Γ)(hd:gQ Γ)(ht:we Γ){ns:List Int}(hn:0<names.length)(hb:b<1000)(hm:m<1000):
    ∃rows:List Row,rows.length<=m/\(rows.map keyOf).Nodup/\(∀r∈rows,e_ names r)/\bP Γ wd [.lst (ns.map .int),.int (b:Nat),.lst (names.map .str),.int (m:Nat)]=some (.ok (.loc,.tup (rows.map B'))):=by
  have hsz:(1000:Nat)<=sizeLine:=by decide
  let B:=λ(us:List U) (ks:List kN) (o6 o7 o8 o9:Option (Kd×U))=>([some (.any,.lst (ns.map .int)),some (.loc,.int (b:Nat)),some (.any,.lst (names.map .str)),some (.loc,.int (m:Nat)),some (.own,.lst us),some (.own,.DV ks),o6,o7,o8,o9]:au)
  let I:List (Kd×U)->au->Prop:=λxs st=>∃(rows:List Row) (us:List U) (ks:List kN) (o6 o7 o8 o9:Option (Kd×U)),st=B us ks o6 o7 o8 o9/\us=rows.map B'/\ks=rows.map keyOf/\ks.Nodup/\(∀r∈rows,e_ names r)/\rows.length+xs.length<=m/\dP m xs;have hp:(0:Int)<((names.map U.str).length:Nat):=by simp;omega
  have loop:=oY (t:=false) (is:=[6]) (body:=execs Γ [.set 7 (.call "_law_drawn" [.call "_law_cell" [.var 0,.bin .add (.var 1) (.var 6)],.cst (.int 11)]),
      .set 8 (.tup [.idx (.var 2) (.bin .mod (.idx (.var 7) (.cst (.int 0))) (.bi .len [.var 2])),.call "_law_told" [.var 7,.var 2]]),
      .set 9 (.tup [.idx (.var 8) (.cst (.int 0)),.bi .tuple [.bi .sorted [.idx (.var 8) (.cst (.int 1))]]]),
      .ite (.cmp .DA (.var 9) (.var 5))
        [.put 5 (.var 9) (.cst (.bl true)),
        .app 4 (.var 8)]
        []]) (rs:=[(.loc,.int (m:Nat))]) I (λ_ _ _=>trivial) (λx xs st DP=>by
    obtain⟨rows,us,ks,o6,o7,o8,o9,e,e2,e3,DN,hw,hl,hr⟩:=DP;subst e;obtain⟨i,hi,rfl,EB,hlen⟩:=hr.cons;rw[List.length_cons]at hl;obtain⟨z,hz⟩:=hc ns (b+i) (by omega);rw[Int.natCast_add]at hz;obtain⟨ds,d1,d2,d3⟩:=hd z 11 (by omega);obtain⟨told,t1,t2,t3,t4⟩:=ht ds names (by omega) d2 hn;have i0:D6 (ds.map U.int) 0=some (.int (dd ds 0)):=cm (i:=0) (by omega);obtain⟨nm,Fi,Ni⟩:=r9 (xs:=names) (t:=((names.map U.str).length:Nat)) (dQ d2 0) hp (by simp);have Ei:e_ names (nm,told):=⟨Fi,t1,t2,t3⟩
    have j0:ib (.loc,B' (nm,told)) (.int 0)=some (.loc,.str nm):=rfl;have j1:ib (.loc,B' (nm,told)) (.int 1)=some (.loc,.tup (told.map .str)):=rfl;have Ss:=sorted_strs (k:=.loc) (ss:=told) (by omega);let i6:Option (Kd×U):=some (.loc,.int (i:Nat));let i7:Option (Kd×U):=some (.own,.lst (ds.map .int));let i8:Option (Kd×U):=some (.loc,B' (nm,told));let i9:Option (Kd×U):=some (.loc,B' (keyOf (nm,told)));have g7:Run (ev Γ (.call "_law_drawn" [.call "_law_cell" [.var 0,.bin .add (.var 1) (.var 6)],.cst (.int 11)])) (B us ks i6 o7 o8 o9) (.own,.lst (ds.map .int)) (B us ks i6 o7 o8 o9):=by repeat' (first|exact hz|exact d3|sizeOf_list_dec)
    have g8:Run (ev Γ (.tup [.idx (.var 2) (.bin .mod (.idx (.var 7) (.cst (.int 0))) (.bi .len [.var 2])),.call "_law_told" [.var 7,.var 2]])) (B us ks i6 i7 o8 o9) (.loc,B' (nm,told)) (B us ks i6 i7 o8 o9):=by
      repeat' (first|exact a5 i0|exact cU hp|exact a5 Ni|exact t4|exact oV rfl|exact(by decide:(2:Nat)<=sizeLine)|sizeOf_list_dec)
    have g9:Run (ev Γ (.tup [.idx (.var 8) (.cst (.int 0)),.bi .tuple [.bi .sorted [.idx (.var 8) (.cst (.int 1))]]])) (B us ks i6 i7 i8 o9) (.loc,B' (keyOf (nm,told))) (B us ks i6 i7 i8 o9):=by
      repeat' (first|exact j0|exact j1|exact Ss|exact(by decide:(2:Nat)<=sizeLine)|sizeOf_list_dec)
    have JA:bw .DA (B' (keyOf (nm,told))) (.DV ks)=some (decide (keyOf (nm,told)∉ks)):=by
      show(((rowOf (B' (keyOf (nm,told)))).map λr=>decide (r∈ks))).map (!·)=_;rw[lS];simp
    by_cases EN:keyOf (nm,told)∈ks
    · refine⟨B us ks i6 o7 o8 o9,B us ks i6 i7 i8 i9,aV,aB g7 bo (aB g8 aV (aB g9 aV (cN ?_ aD aD))),⟨rows,us,ks,_,_,_,_,rfl,e2,e3,DN,hw,by omega,EB⟩⟩
      have:bw .DA (B' (keyOf (nm,told))) (.DV ks)=some false:=by rw[JA];simp[EN]
      exact cc (af rfl) (aH rfl) ⟨⟨.own,rfl,rfl⟩,trivial⟩ this
    · refine⟨B us ks i6 o7 o8 o9,B (us++[B' (nm,told)]) (ks++[keyOf (nm,told)]) i6 i7 i8 i9,aV,aB g7 bo (aB g8 aV (aB g9 aV (eY (st1:=B us ks i6 i7 i8 i9) (st2:=B (us++[B' (nm,told)]) (ks++[keyOf (nm,told)]) i6 i7 i8 i9) ?_ ?_ aD))),⟨rows++[(nm,told)],_,_,_,_,_,_,rfl,by simp[e2],by simp[e3],?_,?_,by simp;omega,EB⟩⟩
      · have:bw .DA (B' (keyOf (nm,told))) (.DV ks)=some true:=by rw[JA];simp[EN]
        exact cc (af rfl) (aH rfl) ⟨⟨.own,rfl,rfl⟩,trivial⟩ this
      · have NW:dF (B' (keyOf (nm,told))) (.bl true) (.DV ks)=some (.DV (ks++[keyOf (nm,told)])):=by
          show(match rowOf (B' (keyOf (nm,told))),U.bl true with|some r,.bl true=>if r∉ks/\ks.length<=1000 then some (U.DV (ks++[r])) else none|_,_=>none)=_;rw[lS];show(if keyOf (nm,told)∉ks/\ks.length<=1000 then _ else _)=_;rw[if_pos ⟨EN,by rw[e3,List.length_map];omega⟩]
        exact r_ (st1:=B us ks i6 i7 i8 i9) (st2:=B us ks i6 i7 i8 i9) (st3:=B us ks i6 i7 i8 i9) (k:=.own) (k':=.own) aU rfl (af rfl) (a9 aR (a9 aR aS)) rfl rfl NW
          (fK (st1:=B us (ks++[keyOf (nm,told)]) i6 i7 i8 i9) (st2:=B us (ks++[keyOf (nm,told)]) i6 i7 i8 i9) (k:=.own) (k':=.own) (us:=us) (us':=us) rfl (af rfl) aR rfl rfl (by rw[e2,List.length_map];omega) aD)
      · rw[List.nodup_append]
        exact ⟨DN, by simp, fun y hy w Gf => by have : w = keyOf (nm, told) := by simpa using Gf
                                                subst this;rintro rfl;exact EN hy⟩
      · intro y hy
        rcases List.mem_append.mp hy with h|h
        · exact hw y h
        · rw[List.mem_singleton.mp h];exact Ei)
  obtain⟨st',DT,rows,us,ks,o6,o7,o8,o9,e,e2,e3,DN,hw,hl,_⟩:=loop ((List.range m).map λi:Nat=>(Kd.loc,U.int (0+(i:Int)))) (B [] [] none none none none) ⟨[],[],[],none,none,none,none,rfl,rfl,rfl,by simp,by simp,by simp,dP.all m⟩;subst e e2 e3;refine⟨rows,by simpa using hl,DN,hw,?_⟩;have hit:=nu (k:=.loc) (n:=m) (by omega);exact aP (st0:=[some (.any,.lst (ns.map .int)),some (.loc,.int (b:Nat)),some (.any,.lst (names.map .str)),some (.loc,.int (m:Nat)),none,none,none,none,none,none]) rfl (.inr rfl) rfl
    (aB (r:=(.own,.lst [])) (cv ak trivial aS (Nat.zero_le _)) bo (aB (r:=(.own,.DV [])) nh bo (cf (rs:=[(.loc,.int (m:Nat))]) (st1:=B [] [] none none none none) (ag (af rfl) ak) trivial hit rfl DT
      (cT (fA (ag (aH rfl) ak) ⟨⟨.own,rfl,rfl⟩,trivial⟩ rfl) j9))))
def nA(Γ:Tab):Prop:=∀(ns:List Int) (b m:Nat),b<1000->m<40->∃names:List Str,names.length=m/\names.Nodup/\(∀x∈names,cA x.cps.toList)/\Γ "_law_names" [.lst (ns.map .int),.int (b:Nat),.int (m:Nat)]=some (.ok (.own,.lst (names.map .str)))
def wj(Γ:Tab):Prop:=∀(ns:List Int) (names:List Str) (b m:Nat),0<names.length->b<1000->m<1000 ->
 ∃rows:List Row,rows.length<=m/\(rows.map keyOf).Nodup/\(∀r∈rows,e_ names r)/\Γ "_law_book" [.lst (ns.map .int),.int (b:Nat),.lst (names.map .str),.int (m:Nat)]=some (.ok (.loc,.tup (rows.map B')))
noncomputable def wm:Fn:=⟨"_law_made",1,3,[.set 1 (.call "_law_drawn" [.call "_law_cell" [.var 0,.cst (.int 0)],.cst (.int 4)]),.set 2 (.call "_law_names" [.var 0,.cst (.int 1),.bin .add (.cst (.int 1)) (.bin .mod (.idx (.var 1) (.cst (.int 0))) (.cst (.int 14)))]),.ret (.call "_law_book" [.var 0,.cst (.int 20),.var 2,.bin .mod (.idx (.var 1) (.cst (.int 1))) (.cst (.int 41))])]⟩
theorem wo(hc:kg Γ)(hd:gQ Γ)(hn:nA Γ)(hb:wj Γ)(ns:List Int):∃(names:List Str) (rows:List Row),0<names.length/\names.length<=14/\names.Nodup/\(∀x∈names,cA x.cps.toList) /\
  rows.length<=40/\(rows.map keyOf).Nodup/\(∀r∈rows,e_ names r)/\bP Γ wm [.lst (ns.map .int)]=some (.ok (.loc,.tup (rows.map B'))):=by
 obtain⟨z,hz⟩:=hc ns 0 (by omega);obtain⟨ds,d1,d2,d3⟩:=hd z 4 (by omega);have i0:D6 (ds.map U.int) 0=some (.int (dd ds 0)):=cm (i:=0) (by omega);have i1:D6 (ds.map U.int) 1=some (.int (dd ds 1)):=cm (i:=1) (by omega);have n0:=dQ d2 0;have n1:=dQ d2 1;obtain⟨names,a1,a2,a3,a4⟩:=hn ns 1 (1+dd ds 0 % 14).toNat (by omega) (by omega);rw[Int.toNat_of_nonneg (by omega)]at a4;obtain⟨rows,b1,b2,b3,b4⟩:=hb ns names 20 (dd ds 1 % 41).toNat (by omega) (by omega) (by omega);rw[Int.toNat_of_nonneg (by omega)]at b4;refine⟨names,rows,by omega,by omega,a2,a3,by omega,b2,b3,?_⟩;apply aP (st0:=[some (.any,.lst (ns.map .int)),none,none]) rfl (.inr rfl) rfl
 repeat' (first|exact hz|exact d3|exact a5 i0|exact a5 i1|exact a4|exact b4|sizeOf_list_dec)
section
def Eu(Pg:List Fn)(f:Str)(fn:Fn):Prop:=(Pg.find? λg=>decide (g.name=f))=some fn
theorem aL(h:Eu Pg f fn)(us:List U):D_ Pg (d+1) f us=bP (D_ Pg d) fn us:=by
 show(match Pg.find? λg=>decide (g.name=f) with|some fn=>bP (D_ Pg d) fn us|none=>none)=_;rw[show _=some fn from h]
theorem zi(h:Eu Pg "_law_mix" tJ):v9 (D_ Pg (d+1)):=λc k h0 h1=>by rw[aL h];exact yC h0 h1
theorem kh(h:Eu Pg "_law_mix" tJ)(h2:Eu Pg "_law_cell" rY):kg (D_ Pg (d+2)):=λns k hk=>⟨_,by rw[aL h2];exact v_ (zi h) hk⟩
theorem drawnOk(h:Eu Pg "_law_mix" tJ)(h2:Eu Pg "_law_drawn" nq):gQ (D_ Pg (d+2)):=λc n hn=>by
 obtain⟨ds,a,b,e⟩:=tK (zi (d:=d) h) (c:=c) hn;exact⟨ds,a,b,by rw[aL h2];exact e⟩
theorem Bb(KN:yD md)(h:Eu Pg "_law_name" (nv md)):wb (D_ Pg (d+1)):=λds names a b c e=>by
 obtain⟨x,p,q,r⟩:=wa (Γ:=D_ Pg d) KN a b c e;exact⟨x,p,q,by rw[aL h];exact r⟩
theorem Bc(h:Eu Pg "_law_told" iO):we (D_ Pg (d+1)):=λds names a b c=>by
 obtain⟨x,p,q,r,s⟩:=wc (Γ:=D_ Pg d) a b c;exact⟨x,p,q,r,by rw[aL h];exact s⟩
structure cB(md:E)(Pg:List Fn):Prop where
 mix:Eu Pg "_law_mix" tJ
 cell:Eu Pg "_law_cell" rY
 drawn:Eu Pg "_law_drawn" nq
 name:Eu Pg "_law_name" (nv md)
 names:Eu Pg "_law_names" fNames
 told:Eu Pg "_law_told" iO
 book:Eu Pg "_law_book" wd
theorem cB.kh(M:cB md Pg):kg (D_ Pg (d+2)):=TM.kh M.mix M.cell
theorem cB.drawnOk(M:cB md Pg):gQ (D_ Pg (d+2)):=TM.drawnOk M.mix M.drawn
theorem cB.wq(KN:yD md)(M:cB md Pg):nA (D_ Pg (d+3)):=λns b m hb hm=>by
 obtain⟨names,p,q,r,s⟩:=tN (Γ:=D_ Pg (d+2)) M.kh M.drawnOk (TM.Bb KN M.name) (ns:=ns) hb hm;exact⟨names,p,q,r,by rw[aL M.names];exact s⟩
abbrev wt(Pg:List Fn):Prop:=cB CD Pg
theorem cB.namesOk(M:wt Pg):nA (D_ Pg (d+3)):=cB.wq yE M
theorem cB.Bd(M:cB md Pg):wj (D_ Pg (d+3)):=λns names b m hn hb hm=>by
 obtain⟨rows,p,q,r,s⟩:=wg (Γ:=D_ Pg (d+2)) M.kh M.drawnOk (TM.Bc M.told) (ns:=ns) hn hb hm;exact⟨rows,p,q,r,by rw[aL M.book];exact s⟩
end
section
theorem lT(h:Run (execs Γ (a++ss)) st f st2):(∃s1,Run (execs Γ a) st .nx s1/\Run (execs Γ ss) s1 f st2)\/(Run (execs Γ a) st f st2/\f≠.nx):=by
 induction a generalizing st with
 |nil=>exact .inl ⟨st,aD,h⟩
 |cons s a ih =>
  have h':M.bind (exec Γ s) (λf=>match f with|.nx=>execs Γ (a++ss)|f=>pure f) st=some (.ok f,st2):=h;unfold M.bind at h';cases e:exec Γ s st with
  |none=>rw[e]at h';cases h'
  |some p =>
   obtain⟨x,s1⟩:=p;rw[e]at h';cases x with
   |exc c=>cases h'
   |ok g =>
    cases g with
    |nx =>
     rcases ih h' with⟨s2,h1,h2⟩|⟨h1,h2⟩
     ·exact .inl ⟨s2,fB e h1,h2⟩
     ·exact .inr ⟨fB e h1,h2⟩
    |rt k u=>cases h';exact .inr ⟨v5 e,λz=>nomatch z⟩
    |bk=>cases h';exact .inr ⟨aa (show Run (exec Γ s) st Fl.bk _ from e) aY,λz=>nomatch z⟩
    |ct=>cases h';exact .inr ⟨aa (show Run (exec Γ s) st Fl.ct _ from e) aY,λz=>nomatch z⟩
theorem CF(h1:Run (exec Γ s) st f st1)(hf:f≠.nx):Run (execs Γ (s::ss)) st f st1:=by
 cases f with
 |nx=>exact absurd rfl hf
 |rt k u=>exact v5 h1
 |bk=>exact aa h1 aY
 |ct=>exact aa h1 aY
theorem eC(h1:Run (DU Γ c) st p st1)(hT:p=true->Run (execs Γ (a++ss)) st1 f st2)(hF:p=false->Run (execs Γ (b++ss)) st1 f st2):Run (execs Γ (.ite c a b::ss)) st f st2:=by
 cases p with
 |true =>
  rcases lT (hT rfl) with⟨s1,h2,h3⟩|⟨h2,h3⟩
  ·exact fB (ni h1 h2) h3
  ·exact CF (ni h1 h2) h3
 |false =>
  rcases lT (hF rfl) with⟨s1,h2,h3⟩|⟨h2,h3⟩
  ·exact fB (qC h1 h2) h3
  ·exact CF (qC h1 h2) h3
theorem wu(h:Run (DU Γ e) st p st)(h2:p=true->Run (aO Γ (e2::es)) st q st):Run (aO Γ (e::e2::es)) st (p&&q) st:=by
 cases p with
 |true=>exact qB h (h2 rfl)
 |false=>exact vZ h
theorem fY{cond:M Bool}(h:bb src st)(k:Kd)(hk:k=.loc\/k=.any)(enc g:α->U)(kd:Kd)(hc:∀y,Run cond (some (k,enc y)::st) true (some (k,enc y)::st)):∀(ys:List α) (acc:List U),acc.length+ys.length<=sizeLine ->
  (∀y∈ys,Run elt (some (k,enc y)::st) (kd,g y) (some (k,enc y)::st)/\Run (lift (kd,g y)) (some (k,enc y)::st) (g y) (some (k,enc y)::st))->Run (bq 1 false cond elt src (ys.map λy=>(k,enc y)) acc) st (acc++ys.map g) st
 |[],acc,_,_=>by rw[List.map_nil,List.map_nil,List.append_nil];exact oZ h
 |y::ys,acc,hl,hx=>by
  obtain⟨h2,h3⟩:=hx y (by simp);rw[List.length_cons]at hl;refine j_ (s1:=some (k,enc y)::st) (s2:=some (k,enc y)::st) (s3:=some (k,enc y)::st) (s4:=some (k,enc y)::st) h ?_ (hc y) h2 h3 (by omega) ?_
  ·rcases hk with rfl|rfl
   ·exact bZ aV
   ·exact bZ iM
  ·have:=fY h k hk enc g kd hc ys (acc++[g y]) (by simp;omega) λz hz=>hx z (by simp[hz]);rw[List.map_cons];simpa using this
theorem ir{cond:M Bool}(h:bb src st)(k:Kd)(hk:k=.loc\/k=.any)(enc g:α->U)(p:α->Bool)(kd:Kd):∀(ys:List α) (acc:List U),acc.length+ys.length<=sizeLine ->
  (∀y∈ys,Run cond (some (k,enc y)::st) (p y) (some (k,enc y)::st)/\(p y=true->Run elt (some (k,enc y)::st) (kd,g y) (some (k,enc y)::st)/\Run (lift (kd,g y)) (some (k,enc y)::st) (g y) (some (k,enc y)::st)))->Run (bq 1 false cond elt src (ys.map λy=>(k,enc y)) acc) st (acc++(ys.filter p).map g) st
 |[],acc,_,_=>by rw[List.map_nil,List.filter_nil,List.map_nil,List.append_nil];exact oZ h
 |y::ys,acc,hl,hx=>by
  obtain⟨h1,Su⟩:=hx y (by simp);rw[List.length_cons]at hl;have ht:Run (cV false (List.range 1) (k,enc y)) (List.replicate 1 none++st) () (some (k,enc y)::st):=by
   rcases hk with rfl|rfl
   ·exact bZ aV
   ·exact bZ iM
  cases hp:p y with
  |true =>
   rw[hp]at h1;obtain⟨h2,h3⟩:=Su hp;refine j_ (s1:=some (k,enc y)::st) (s2:=some (k,enc y)::st) (s3:=some (k,enc y)::st) (s4:=some (k,enc y)::st) h ht h1 h2 h3 (by omega) ?_;have:=ir h k hk enc g p kd ys (acc++[g y]) (by simp;omega) λz hz=>hx z (by simp[hz]);rw[List.filter_cons,if_pos hp,List.map_cons];simpa using this
  |false =>
   rw[hp]at h1;refine qD (s1:=some (k,enc y)::st) (s2:=some (k,enc y)::st) h ht h1 ?_;have:=ir h k hk enc g p kd ys acc (by omega) λz hz=>hx z (by simp[hz]);rw[List.filter_cons,if_neg (by simp[hp])];exact this
theorem bL(it:α->Kd×U)(I:List α->List α->au->Prop)(hs:∀d r st,I d r st->bb rs st)
  (step:∀d y r st,I d (y::r) st->∃st1 st2,Run (cV t is (it y)) st () st1/\Run body st1 .nx st2/\I (d++[y]) r st2):∀(r d:List α) (st:au),I d r st->∃st',Run (forM t is body rs (r.map it)) st .nx st'/\I (d++r) [] st'
 |[],d,st,h=>⟨st,zf (hs _ _ _ h),by rw[List.append_nil];exact h⟩
 |y::r,d,st,h=>by
  obtain⟨s1,s2,h1,h2,h3⟩:=step d y r st h;obtain⟨s3,h4,h5⟩:=bL it I hs step r (d++[y]) s2 h3;exact⟨s3,CC (hs _ _ _ h) h1 h2 h4,by simpa using h5⟩
theorem Be(h1:Run (bH Γ es) st rs st1)(h2:bb rs st1)(h3:Γ f (rs.map (·.2))=some (.ok r))(h4:kU r.2=some b)(hr:isAny r.1=false:=by exact rfl):Run (DU Γ (.call f es)) st b st1:=aa h1 (aa (bg h2) (aa (rV h3 hr) (b_ h4)))
theorem wx(h:Run (ev Γ (.bi f es)) st (k,.bl b) st1):Run (DU Γ (.bi f es)) st b st1:=by
 have h':(bH Γ es >>= λrs=>aw rs >>= λ_=>M.DR (Fq f rs)) st=some (.ok (k,.bl b),st1):=h;obtain⟨rs,s1,e1,e2,s2,e3,r,s3,e4,e5⟩:∃rs s1,bH Γ es st=some (.ok rs,s1)/\∃(a:Unit) (s2:au),aw rs s1=some (.ok a,s2)/\∃r s3,M.DR (Fq f rs) s2=some (.ok r,s3)/\(r,s3)=((k,U.bl b),st1):=by
  have w:W (bH Γ es >>= λrs=>aw rs >>= λ_=>M.DR (Fq f rs)) st λr s=>(r,s)=((k,U.bl b),st1):=⟨_,_,h',rfl⟩
  rw[ae]at w;obtain⟨rs,s1,e1,w⟩:=w;rw[ae]at w;obtain⟨a,s2,e2,w⟩:=w;obtain⟨r,s3,e3,w⟩:=w;exact⟨rs,s1,e1,a,s2,e2,r,s3,e3,w⟩
 cases e5;exact aa e1 (aa (a:=e2) e3 (aa e4 (b_ rfl)))
theorem pf(h0:st[i]?=some (some (k',.lst us')))(h1:Run (ev Γ e) st r st1)(h3:st1[i]?=some (some (k,.lst us)))(hk:k.root=true)(hr:jS r (.lst us)=some (.lst zs))
  (h4:Run (execs Γ ss) (st1.set i (some (k,.lst zs))) f st3) (hn:k'≠.Dw:=by intro z;cases z):Run (execs Γ (.ext i e::ss)) st f st3:=by
 refine fB (aa (fJ h0 hn) (aa (a:=()) (st1:=st) rfl (aa h1 (aa (a:=()) (st1:=st1.set i (some (k,.lst zs))) ?_ aY)))) h4;show modS i (jS r) st1=_;unfold modS;rw[h3];simp only[hk,if_true];rw[hr]
end
theorem sd(h:xs.length+ys.length<=sizeLine)(hs:kS k ys=true):jS (k,.tup ys) (.lst xs)=some (.lst (xs++ys)):=by
 show(if xs.length+ys.length<=sizeLine/\kS k ys=true then _ else _)=_;rw[if_pos ⟨h,hs⟩]
theorem nB(h:xs.length+ys.length<=sizeLine)(hs:kS k ys=true):jS (k,.lst ys) (.lst xs)=some (.lst (xs++ys)):=by
 show(if xs.length+ys.length<=sizeLine/\kS k ys=true then _ else _)=_;rw[if_pos ⟨h,hs⟩]
theorem lU:∀ss:List Str,gB (ss.map U.str)=true
 |[]=>by simp[gB]
 |s::ss=>by simp[gB,D9,lU ss]
theorem yF(r:Row):D9 (B' r)=true:=by simp[B',D9,gB,lU]
theorem bj:∀rs:List Row,gB (rs.map B')=true
 |[]=>by simp[gB]
 |r::rs=>by simp[gB,yF,bj rs]
theorem kl:∀(a b:List Str),bA (a.map U.str) (b.map U.str)=decide (a=b)
 |[],[]=>by simp[bA]
 |[],_::_=>by simp[bA]
 |_::_,[]=>by simp[bA]
 |x::a,y::b=>by
  rw[List.map_cons,List.map_cons,bA,kl a b];simp only[ba];by_cases h:x=y
  ·subst h;simp
  ·simp[h]
theorem fZ(ss:List Str)(n:Nat):DB (n+1) (.lst (ss.map U.str))=true:=by simp[DB,fu]
theorem wy{a b:List Str}:bw .eq (.lst (a.map U.str)) (.lst (b.map U.str))=some (decide (a=b)):=by
 simp only[bw];rw[if_pos ⟨fZ a 49,fZ b 49⟩];simp only[ba,kl]
theorem se:bw .eq (.str a) (.str b)=some (decide (a=b)):=by
 simp only[bw];rw[if_pos ⟨rfl,rfl⟩];simp only[ba];by_cases h:a=b
 ·subst h;simp
 ·simp[h]
theorem fb(h:acc.length<4000)(h2:(av acc).length<64):qa .sset [(k,.lst (acc.map .str))]=some (.own,.lst ((aN (av acc)).map .str)):=by
 have e:fw (.lst (acc.map U.str))=some (av acc):=by
  show(strsOf (acc.map U.str)).bind _=_;rw[cO];show(if acc.length+1<scanBound then _ else _)=_;rw[if_pos (by show acc.length+1<4096;omega)]
 show(fw (.lst (acc.map U.str))).bind _=_;rw[e];show(if (av acc).length<64 then _ else _)=_;rw[if_pos h2]
noncomputable def iu(rows:List Row):List Str:=rows.map (·.1)++(rows.map (·.2)).flatten
theorem nE(h:∀r∈rows,e_ names r):∀x∈iu rows,x∈names:=by
 intro x hx;rcases List.mem_append.mp hx with hx|hx
 ·obtain⟨r,hr,rfl⟩:=List.mem_map.mp hx;exact(h r hr).word
 ·obtain⟨l,hl,hx⟩:=List.mem_flatten.mp hx;obtain⟨r,hr,rfl⟩:=List.mem_map.mp hl;exact(h r hr).told x hx
theorem ph{rows:List Row}(h:∀r∈rows,r.2.length<=n):(rows.map (·.2)).flatten.length<=n * rows.length:=by
 induction rows with
 |nil=>simp
 |cons r rows ih =>
  have h1:=h r (by simp);have h2:=ih λs hs=>h s (by simp[hs]);simp only[List.map_cons,List.flatten_cons,List.length_append,List.length_cons,Nat.mul_add];omega
theorem km(l:List Str):(aN (av l)).Nodup:=(bO _).nodup_iff.mpr (cy l)
theorem nF(l:List Str)(x:Str):x∈aN (av l)↔x∈l:=by rw[(bO _).mem_iff,cI]
theorem kn{l names:List Str}(h:∀x∈l,x∈names):(av l).length<=names.length:=j7 (cy l) λx hx=>h x ((cI l x).mp hx)
section
theorem tP{rows:List Row}(hl:rows.length<=1000)(h:st[i]?=some (some (.loc,.tup (rows.map B')))):Run (ev Γ (.comp 1 false .seq [.var i] [] (.idx (.var 0) (.cst (.int 0))))) st (.own,.lst ((rows.map (·.1)).map .str)) st:=by
 have hsz:(1000:Nat)<=sizeLine:=by decide
 have hx:=fY (cond:=aO Γ []) (elt:=ev Γ (.idx (.var 0) (.cst (.int 0)))) (src:=[(.loc,.tup (rows.map B'))]) (st:=st) trivial .loc (.inl rfl) B' (λr=>.str r.1) .loc (λ_=>gP) rows [] (by simp;omega)
  (λr _=>⟨bM (x:=(.loc,B' r)) (af rfl) aU trivial rfl,aR⟩)
 rw[List.nil_append]at hx;have e:(rows.map B').map (λu=>(kE .loc,u))=rows.map λr=>(Kd.loc,B' r):=by rw[List.map_map];rfl
 rw[List.map_map];exact b7 (rs:=[(.loc,.tup (rows.map B'))]) (ag (af h) ak) trivial (by show some _=_;rw[e]) hx
end
section
theorem wz(h1:Run (ev Γ a) st x st1)(h2:qb x.2 T=some b):Run (DU Γ (.FX a T)) st b st1:=aa h1 (b_ h2)
end
noncomputable def b8(rows:List Row):List Str:=(rows.map λr=>r.1::r.2).flatten
noncomputable def aT(rows:List Row):List Str:=aN (av (b8 rows))
theorem pj(d:List Row)(y:Row):b8 (d++[y])=b8 d++[y.1]++y.2:=by simp[b8]
theorem f7:x∈b8 rows↔∃r∈rows,x=r.1\/x∈r.2:=by
 simp only[b8,List.mem_flatten,List.mem_map];constructor
 ·rintro⟨l,⟨r,hr,rfl⟩,hx⟩;exact⟨r,hr,List.mem_cons.mp hx⟩
 ·rintro⟨r,hr,hx⟩;exact⟨_,⟨r,hr,rfl⟩,List.mem_cons.mpr hx⟩
theorem gR(h:∀r∈rows,e_ names r):∀x∈b8 rows,x∈names:=by
 intro x hx;obtain⟨r,hr,hx⟩:=f7.mp hx;rcases hx with rfl|hx
 ·exact(h r hr).word
 ·exact(h r hr).told x hx
theorem kq(h:∀r∈rows,r.2.length<=8):(b8 rows).length<=9 * rows.length:=by
 induction rows with
 |nil=>simp[b8]
 |cons r rows ih =>
  have h1:=h r (by simp);have h2:=ih λs hs=>h s (by simp[hs]);simp only[b8,List.map_cons,List.flatten_cons,List.length_append,List.length_cons]at h2 ⊢;omega
theorem kr:x∈aT rows↔x∈b8 rows:=nF _ _
theorem gS(rows:List Row):(aT rows).Nodup:=km _
theorem qF(h:∀r∈rows,e_ names r):(aT rows).length<=names.length:=by
 show(aN (av (b8 rows))).length<=_;rw[bS];exact kn (gR h)
noncomputable def qG:Fn:=⟨"words_of",1,3,[.set 1 (.lst []),.DS false [2] .seq [.var 0] [.app 1 (.idx (.var 2) (.cst (.int 0))),.ext 1 (.idx (.var 2) (.cst (.int 1)))],.ret (.F_ .sset [.var 1])]⟩
theorem nG(hl:rows.length<=100)(hr:∀r∈rows,e_ names r)(hn:names.length<64):bP Γ qG [.tup (rows.map B')]=some (.ok (.own,.lst ((aT rows).map .str))):=by
 have hsz:(4000:Nat)<=sizeLine:=by decide
 have DJ:TM.start [.tup (rows.map B')] 3=[some (.loc,.tup (rows.map B')),none,none]:=by simp[TM.start,D9,bj]
 have h8:∀r∈rows,r.2.length<=8:=λr h=>(hr r h).G1;obtain⟨st',DT,_,o2,e⟩:=bL (t:=false) (is:=[2]) (body:=execs Γ [.app 1 (.idx (.var 2) (.cst (.int 0))),.ext 1 (.idx (.var 2) (.cst (.int 1)))]) (rs:=[(.loc,.tup (rows.map B'))]) (λr:Row=>(Kd.loc,B' r))
  (λd r st=>d++r=rows/\∃o2,st=[some (.loc,.tup (rows.map B')),some (.own,.lst ((b8 d).map .str)),o2]) (λ_ _ _ _=>trivial) (λd y r st DP=>by
   obtain⟨DM,o2,e⟩:=DP;subst e;have hy:y∈rows:=by rw[<-DM];simp
   have Sv:=kq (rows:=d) λs hs=>h8 s (by rw[<-DM];simp[hs]);have Fx:d.length<=100:=by have:=congrArg List.length DM;simp at this;omega
   have Sw:=h8 y hy;refine⟨[some (.loc,.tup (rows.map B')),some (.own,.lst ((b8 d).map .str)),some (.loc,B' y)],[some (.loc,.tup (rows.map B')),some (.own,.lst ((b8 d).map .str++[.str y.1]++y.2.map .str)),some (.loc,B' y)],bZ aV,?_,by rw[<-DM];simp,some (.loc,B' y),?_⟩
   ·exact fK (k:=.own) (k':=.own) (r:=(.loc,.str y.1)) rfl (bM (x:=(.loc,B' y)) (af rfl) aU trivial rfl) aR rfl rfl (by rw[List.length_map];omega)
     (pf (k:=.own) rfl (bM (x:=(.loc,B' y)) (af rfl) aU trivial rfl) rfl rfl (sd (by simp;omega) rfl) aD)
   ·rw[pj];simp) rows [] [some (.loc,.tup (rows.map B')),some (.own,.lst []),none] ⟨rfl,none,rfl⟩
 subst e;have e5:(rows.map B').map (λu=>(kE .loc,u))=rows.map λr=>(Kd.loc,B' r):=by rw[List.map_map];rfl
 have Hd:=kq h8;have Fx:=kn (gR hr);exact aP rfl (.inl rfl) DJ (aB (r:=(.own,.lst [])) (cv ak trivial aS (Nat.zero_le _)) bo (cf (rs:=[(.loc,.tup (rows.map B'))]) (ag (af rfl) ak) trivial rfl rfl (by rw[e5];exact DT) (cT (oU (ag (aH rfl) ak) ⟨⟨.own,rfl,rfl⟩,trivial⟩ (fb (by omega) (by omega))) iN)))
theorem yG(h:ks.length<1000):dF (.str x) u (.Dy ks us)=some (.Dy (dput ks us x u).1 (dput ks us x u).2):=by
 have hsz:(1000:Nat)<=sizeLine:=by decide
 show(if ks.length<sizeLine then _ else _)=_;rw[if_pos (by omega)]
end TM
namespace Od
section
variable{W:Type}[DecidableEq W]{rows:List (W×List W)}
def ku(rows:List (W×List W))(C:W->Prop):Prop:=∀r∈rows,(∀x∈r.2,C x)->C r.1
def Jb(rows:List (W×List W))(K:List W):Prop:=∀C:W->Prop,ku rows C->∀x∈K,C x
theorem same(hK:K.Nodup)(hL:L.Nodup)(sK:Jb rows K)(sL:Jb rows L)(cK:ku rows (·∈K))(cL:ku rows (·∈L)):K.Perm L :=
 (List.perm_ext_iff_of_nodup hK hL).mpr λx=>⟨λh=>sK _ cL x h,λh=>sL _ cK x h⟩
noncomputable def told(rows:List (W×List W))(p:Nat):List W:=match rows[p]? with
 |some r=>r.2
 |none=>[]
theorem ji(h:rows[p]?=some r):told rows p=r.2:=by unfold told;rw[h]
noncomputable def qH(K l:List W):Nat:=(l.filter λx=>decide (x∉K)).length
noncomputable def cnt(rows:List (W×List W))(K:List W)(p:Nat):Nat:=qH K (told rows p)
theorem tQ{K l:List W}:qH K l=0↔∀x∈l,x∈K:=by
 unfold qH;rw[List.length_eq_zero_iff,List.filter_eq_nil_iff];constructor
 ·intro h x hx;have:=h x hx;simpa using this
 ·intro h x hx;simpa using h x hx
theorem pk(hw:w∉K):∀{l:List W},l.Nodup->qH (K++[w]) l+(if w∈l then 1 else 0)=qH K l
 |[],_=>rfl
 |x::l,h=>by
  obtain⟨h1,h2⟩:=List.nodup_cons.mp h;have ih:=pk hw h2;unfold qH at ih ⊢;by_cases e:x=w
  ·subst e;have a1:decide (x∉K++[x])≠true:=by simp
   have a2:decide (x∉K)=true:=decide_eq_true hw;rw[List.filter_cons_of_neg (p:=λy=>decide (y∉K++[x])) a1,List.filter_cons_of_pos (p:=λy=>decide (y∉K)) a2,List.length_cons,if_pos (List.mem_cons_self ..)];rw[if_neg h1]at ih;omega
  ·have e':w≠x:=λz=>e z.symm;have e1:(if w∈x::l then 1 else 0)=if w∈l then 1 else 0:=by simp[e']
   rw[e1];by_cases hx:x∈K
   ·have a1:decide (x∉K++[w])≠true:=by simp[hx]
    have a2:decide (x∉K)≠true:=by simp[hx]
    rw[List.filter_cons_of_neg (p:=λy=>decide (y∉K++[w])) a1,List.filter_cons_of_neg (p:=λy=>decide (y∉K)) a2];exact ih
   ·have a1:decide (x∉K++[w])=true:=by simp[hx,e]
    have a2:decide (x∉K)=true:=by simp[hx]
    rw[List.filter_cons_of_pos (p:=λy=>decide (y∉K++[w])) a1,List.filter_cons_of_pos (p:=λy=>decide (y∉K)) a2,List.length_cons,List.length_cons];omega
def Once(rows:List (W×List W)):Prop:=∀r∈rows,r.2.Nodup
theorem Once.told(h:Once rows)(p:Nat):(told rows p).Nodup:=by
 unfold Od.told;split
 ·rename_i r e;exact h r (List.mem_of_getElem? e)
 ·exact .nil
theorem pq:cnt rows K p=0↔∀x∈told rows p,x∈K:=tQ
theorem nI(h:Once rows)(hw:w∉K)(p:Nat):cnt rows (K++[w]) p+(if w∈told rows p then 1 else 0)=cnt rows K p:=pk hw (h.told p)
noncomputable def Ea(rows:List (W×List W))(n:Nat)(w:W):List Nat:=(List.range n).filter λp=>decide (w∈told rows p)
theorem tR(n:Nat)(w:W):(Ea rows n w).Nodup:=List.Nodup.sublist List.filter_sublist List.nodup_range
theorem gT:p∈Ea rows n w↔p<n/\w∈told rows p:=by simp[Ea]
noncomputable def aC(ps:List (W×Nat))(w:W):List Nat:=(ps.filter λp=>decide (p.1=w)).map (·.2)
theorem pv:∀{l:List W},l.Nodup->aC (l.map λx=>(x,n)) w=if w∈l then [n] else []
 |[],_=>rfl
 |x::l,h=>by
  obtain⟨h1,h2⟩:=List.nodup_cons.mp h;have ih:=pv (n:=n) (w:=w) h2;unfold aC at ih ⊢;rw[List.map_cons,List.filter_cons];by_cases e:x=w
  ·subst e;rw[if_neg h1]at ih;rw[if_pos (by simp),List.map_cons,ih,if_pos (by simp)]
  ·rw[if_neg (by simpa using e),ih];have e':w≠x:=λz=>e z.symm;simp[e']
theorem pw(a b:List (W×Nat))(w:W):aC (a++b) w=aC a w++aC b w:=by simp[aC]
theorem tS(h:Once rows)(hr:rows[n]?=some r)(hp:∀w,aC ps w=Ea rows n w)(w:W):aC (ps++r.2.map λx=>(x,n)) w=Ea rows (n+1) w:=by
 rw[pw,hp w,pv (h r (List.mem_of_getElem? hr))];unfold Ea;rw[List.range_succ,List.filter_append];congr 1
 rw[List.filter_cons,List.filter_nil,ji hr];by_cases e:w∈r.2<;>simp[e]
structure RI(rows:List (W×List W))(K0 K:List W)(R:List Nat):Prop where
 KR:∀t∈R,t<rows.length/\cnt rows K t=0
 all:∀t,t<rows.length->cnt rows K t=0->cnt rows K0 t=0\/t∈R
theorem RI.start(K:List W):RI rows K K []:=⟨by simp,λt _ h=>.inl h⟩
theorem RI.step(h:Once rows)(x:RI rows K0 K R)(hw:w∉K):RI rows K0 (K++[w]) (R++(Ea rows rows.length w).filter λt=>decide (cnt rows K t=1)):=by
 refine⟨λt ht=>?_,λt ht h0=>?_⟩
 ·have ha:=nI h hw t;rcases List.mem_append.mp ht with ht|ht
  ·obtain⟨q1,q2⟩:=x.KR t ht;exact⟨q1,by omega⟩
  ·obtain⟨q1,q2⟩:=List.mem_filter.mp ht;obtain⟨q3,q4⟩:=gT.mp q1;rw[if_pos q4]at ha;have:cnt rows K t=1:=by simpa using q2
   exact⟨q3,by omega⟩
 ·have ha:=nI h hw t;by_cases hm:w∈told rows t
  ·rw[if_pos hm]at ha;exact .inr (List.mem_append.mpr (.inr (List.mem_filter.mpr ⟨gT.mpr ⟨ht,hm⟩,by simp;omega⟩)))
  ·rw[if_neg hm]at ha;rcases x.all t ht (by omega) with z|z
   ·exact .inl z
   ·exact .inr (List.mem_append.mpr (.inl z))
structure NS(rows:List (W×List W))(K:List W)(d:List Nat)(ps:List (W×Nat)):Prop where
 ok:∀s∈ps,s.2∈d/\s.1∉K/\∃r,rows[s.2]?=some r/\r.1=s.1
 once:(ps.map (·.1)).Nodup
 all:∀p∈d,∀r,rows[p]?=some r->r.1∈K\/r.1∈ps.map (·.1)
theorem NS.start(K:List W):NS rows K [] []:=⟨by simp,by simp,by simp⟩
theorem NS.skip(x:NS rows K d ps)(hr:rows[p]?=some r)(h:r.1∈K\/r.1∈ps.map (·.1)):NS rows K (d++[p]) ps :=
 ⟨λs hs=>let ⟨a,b,c⟩:=x.ok s hs;⟨by simp[a],b,c⟩,x.once,λq hq r' EB=>by
  rcases List.mem_append.mp hq with hq|hq
  ·exact x.all q hq r' EB
  ·have:q=p:=by simpa using hq
   subst this;rw[hr]at EB;cases EB;exact h⟩
theorem NS.take(x:NS rows K d ps)(hr:rows[p]?=some r)(h1:r.1∉K)(h2:r.1∉ps.map (·.1)):NS rows K (d++[p]) (ps++[(r.1,p)]):=by
 refine⟨λs hs=>?_,?_,λq hq r' EB=>?_⟩
 ·rcases List.mem_append.mp hs with hs|hs
  ·obtain⟨a,b,c⟩:=x.ok s hs;exact⟨by simp[a],b,c⟩
  ·have:s=(r.1,p):=by simpa using hs
   subst this;exact⟨by simp,h1,r,hr,rfl⟩
 ·rw[List.map_append,List.nodup_append];refine⟨x.once,by simp,λa ha b hb e=>?_⟩;have:b=r.1:=by simpa using hb
  subst this;exact h2 (e▸ha)
 ·rcases List.mem_append.mp hq with hq|hq
  ·rcases x.all q hq r' EB with z|z
   ·exact .inl z
   ·exact .inr (by simp only[List.map_append,List.mem_append];exact .inl z)
  ·have:q=p:=by simpa using hq
   subst this;rw[hr]at EB;cases EB;exact .inr (by simp)
theorem NS.perm(x:NS rows K d ps)(h:qs.Perm ps):NS rows K d qs :=
 ⟨λs hs=>x.ok s (h.mem_iff.mp hs),(h.map _).nodup_iff.mpr x.once,λp hp r hr=>(x.all p hp r hr).imp id λz=>(h.map _).mem_iff.mpr z⟩
def vS(rows:List (W×List W)):List W->List (W×Nat)->Prop
 |_,[]=>True
 |K,s::ss=>(s.1∉K/\∃r,rows[s.2]?=some r/\r.1=s.1/\∀x∈r.2,x∈K)/\vS rows (K++[s.1]) ss
theorem wA:∀{a b:List (W×Nat)}{K:List W},vS rows K a->vS rows (K++a.map (·.1)) b->vS rows K (a++b)
 |[],b,K,_,h=>by simpa using h
 |s::a,b,K,h1,h2=>⟨h1.1,wA h1.2 (by simpa using h2)⟩
theorem wB:∀{ss:List (W×Nat)}{K:List W},(∀s∈ss,s.1∉K/\∃r,rows[s.2]?=some r/\r.1=s.1/\∀x∈r.2,x∈K)->(ss.map (·.1)).Nodup->vS rows K ss
 |[],K,_,_=>trivial
 |s::ss,K,h,hn=>by
  have Ig:s.1∉ss.map (·.1)/\(ss.map (·.1)).Nodup:=by
   rw[List.map_cons]at hn;exact List.nodup_cons.mp hn
  refine⟨h s (by simp),wB (λt ht=>?_) Ig.2⟩;obtain⟨q1,r,q2,q3,q4⟩:=h t (by simp[ht]);refine⟨λz=>?_,r,q2,q3,λx hx=>by simp[q4 x hx]⟩;rcases List.mem_append.mp z with z|z
  ·exact q1 z
  ·have:t.1=s.1:=by simpa using z
   exact Ig.1 (this▸List.mem_map.mpr ⟨t,ht,rfl⟩)
theorem gU:∀{ss:List (W×Nat)}{K:List W},vS rows K ss->K.Nodup->(K++ss.map (·.1)).Nodup
 |[],K,_,h=>by simpa using h
 |s::ss,K,h,hn=>by
  have:(K++[s.1]).Nodup:=by
   rw[List.nodup_append];refine⟨hn,by simp,λa ha b hb e=>?_⟩;have:b=s.1:=by simpa using hb
   subst this;exact h.1.1 (e▸ha)
  have:=gU h.2 this;simpa using this
theorem wC:∀{ss:List (W×Nat)}{K:List W},vS rows K ss->Jb rows K->Jb rows (K++ss.map (·.1))
 |[],K,_,h=>by simpa using h
 |s::ss,K,h,hn=>by
  have h1:Jb rows (K++[s.1]):=λC hC x hx=>by
   rcases List.mem_append.mp hx with hx|hx
   ·exact hn C hC x hx
   ·have:x=s.1:=by simpa using hx
    subst this;obtain⟨_,r,q1,q2,q3⟩:=h.1;rw[<-q2];exact hC r (List.mem_of_getElem? q1) λy hy=>hn C hC y (q3 y hy)
  have:=wC h.2 h1;simpa using this
theorem gV:∀{ss:List (W×Nat)}{K:List W},vS rows K ss->∀x∈ss.map (·.1),x∈rows.map (·.1)
 |[],K,_,x,hx=>by simp at hx
 |s::ss,K,h,x,hx=>by
  rw[List.map_cons]at hx;rcases List.mem_cons.mp hx with rfl|hx
  ·obtain⟨_,r,q1,q2,q3⟩:=h.1;exact List.mem_map.mpr ⟨r,List.mem_of_getElem? q1,q2⟩
  ·exact gV h.2 x hx
structure LI(rows:List (W×List W))(DO:List (W×Nat))(R:List Nat):Prop where
 ok:vS rows [] DO
 KR:∀t∈R,t<rows.length/\cnt rows (DO.map (·.1)) t=0
 all:∀t r,rows[t]?=some r->cnt rows (DO.map (·.1)) t=0->t∈R\/r.1∈DO.map (·.1)
theorem LI.step(x:LI rows DO R)(n:NS rows (DO.map (·.1)) R st)(y:RI rows (DO.map (·.1)) (DO.map (·.1)++st.map (·.1)) R'):LI rows (DO++st) R':=by
 have em:(DO++st).map (·.1)=DO.map (·.1)++st.map (·.1):=List.map_append;refine⟨wA x.ok (wB (λs hs=>?_) n.once),λt ht=>by rw[em];exact y.KR t ht,λt r hr h0=>?_⟩
 ·obtain⟨q1,q2,r,q3,q4⟩:=n.ok s hs;have hz:=(x.KR _ q1).2;rw[pq,ji q3]at hz;exact⟨by simpa using q2,r,q3,q4,by simpa using hz⟩
 ·rw[em]at h0 ⊢;rcases y.all t (List.getElem?_eq_some_iff.mp hr).1 h0 with z|z
  ·rcases x.all t r hr z with z|z
   ·rcases n.all t z r hr with z|z
    ·exact .inr (List.mem_append.mpr (.inl z))
    ·exact .inr (List.mem_append.mpr (.inr z))
   ·exact .inr (List.mem_append.mpr (.inl z))
  ·exact .inl z
theorem LI.closed(x:LI rows DO []):ku rows (·∈DO.map (·.1)):=λr hr h=>by
 obtain⟨t,ht⟩:=List.mem_iff_getElem?.mp hr;rcases x.all t r ht (by rw[pq,ji ht];exact h) with z|z
 ·cases z
 ·exact z
structure RO(rows:List (W×List W))(K F:List W):Prop where
 k1:K.Nodup
 f1:F.Nodup
 Sx:∀x∈F,x∉K
 snd:Jb rows K
 PM:∀w∈F,∃r∈rows,r.1=w/\∀x∈r.2,x∈K
 all:∀r∈rows,(∀x∈r.2,x∈K)->r.1∈K\/r.1∈F
 Sy:∀x∈K,x∈rows.map (·.1)
theorem RO.start(h1:F.Nodup)(h2:∀x,x∈F↔∃r∈rows,r.1=x/\r.2=[]):RO rows [] F :=
 ⟨.nil,h1,by simp,λC hC x hx=>by simp at hx,λw hw=>by
  obtain⟨r,a,b,c⟩:=(h2 w).mp hw;exact⟨r,a,b,by simp[c]⟩,λr hr h=>.inr ((h2 r.1).mpr ⟨r,hr,rfl,by
   cases e:r.2 with
   |nil=>rfl
   |cons a l=>have:=h a (by simp[e]);simp at this⟩),by simp⟩
theorem RO.kf(x:RO rows K F):(K++F).Nodup/\(∀w∈K++F,w∈rows.map (·.1)):=by
 refine⟨?_,λw hw=>?_⟩
 ·rw[List.nodup_append];exact⟨x.k1,x.f1,λa ha b hb e=>x.Sx b hb (e▸ha)⟩
 ·rcases List.mem_append.mp hw with hw|hw
  ·exact x.Sy w hw
  ·obtain⟨r,a,b,_⟩:=x.PM w hw;exact List.mem_map.mpr ⟨r,a,b⟩
theorem RO.step(x:RO rows K F)(h1:F'.Nodup)(h2:∀w,w∈F'↔∃r∈rows,r.1=w/\r.1∉K++F/\∀y∈r.2,y∈K++F):RO rows (K++F) F':=by
 refine⟨x.kf.1,h1,λw hw=>?_,λC hC w hw=>?_,λw hw=>?_,λr hr h=>?_,x.kf.2⟩
 ·obtain⟨r,a,b,c,d⟩:=(h2 w).mp hw;exact b▸c
 ·rcases List.mem_append.mp hw with hw|hw
  ·exact x.snd C hC w hw
  ·obtain⟨r,a,b,c⟩:=x.PM w hw;exact b▸hC r a λy hy=>x.snd C hC y (c y hy)
 ·obtain⟨r,a,b,c,d⟩:=(h2 w).mp hw;exact⟨r,a,b,d⟩
 ·by_cases hk:r.1∈K++F
  ·exact .inl hk
  ·exact .inr ((h2 _).mpr ⟨r,hr,rfl,hk,h⟩)
theorem RO.closed(x:RO rows K []):ku rows (·∈K):=λr hr h=>(x.all r hr h).elim id λz=>by cases z
theorem lV{K L:List W}(h:K.Nodup)(s:∀x∈K,x∈L):K.length<=L.length:=by
 induction K generalizing L with
 |nil=>simp
 |cons a K ih =>
  obtain⟨h1,h2⟩:=List.nodup_cons.mp h;have ha:a∈L:=s a (by simp);have:=ih (L:=L.erase a) h2 λx hx=>by
   have Ej:x≠a:=λe=>h1 (e▸hx);exact(List.mem_erase_of_ne Ej).mpr (s x (by simp[hx]))
  rw[List.length_erase_of_mem ha]at this;have:0<L.length:=List.length_pos_of_mem ha;rw[List.length_cons];omega
end
end Od
namespace TM
open PySem L2 D8
section
theorem zj(h:st[j]?=some (some (.own,u))):Run (lift (.bor j,u0)) st u (st.set j (some (.loc,u))):=by
 show(match st[j]? with|some (some (.own,u))=>some (Ex.ok u,st.set j (some (.loc,u)))|_=>none)=_;rw[h]
theorem sf(h:Run c st false st1):Run (fz c body (n+1)) st .nx st1:=aa h aY
theorem tT(h:Run c st true st1)(h2:Run body st1 .nx st2)(h3:Run (fz c body n) st2 f st3):Run (fz c body (n+1)) st f st3:=aa h (aa h2 h3)
theorem wD(h:Run (fz (DU Γ c) (execs Γ body) fuel) st .nx st1)(h2:Run (execs Γ ss) st1 f st2):Run (execs Γ (.HQ c body::ss)) st f st2:=fB h h2
theorem lW(hk:k=.loc\/k=.any):Run (cV true [i,j] (k,.tup [a,b])) st () ((st.set i (some (k,a))).set j (some (k,b))):=by
 rcases hk with rfl|rfl<;>rfl
theorem wF(h:Run (execs Γ ss) (st.set i (some (.Dw,.Dy [] []))) f st1):Run (execs Γ (.newD i::ss)) st f st1:=fB (aa (a:=()) (st1:=st.set i (some (.Dw,.Dy [] []))) rfl aY) h
theorem nJ(h:st[i]?=some (some (.Dw,.Dy ks us))):Run (fy i) st (ks,us) st:=by
 show fy i st=_;unfold fy;rw[h]
theorem qI:Run (gD (k,.str y)) st y st:=rfl
theorem yH(h2:st[i]?=some (some (.Dw,.Dy ks us)))(h4:y∉ks)(h5:ks.length<sizeLine):Run (jQ i y (.own,.lst xs)) st () (st.set i (some (.Dw,.Dy (ks++[y]) (us++[.lst xs])))):=by
 show jQ i y (.own,.lst xs) st=_;unfold jQ
 dsimp only
 rw[h2]
 dsimp only
 rw[if_pos ⟨h4,h5⟩]
theorem yI(h0:st[i]?=some (some (.Dw,.Dy ks us)))(h5:cY ks us y=some (.lst xs))(h6:xs.length<sizeLine):Run (jR i y u) st () (st.set i (some (.Dw,.Dy ks (ic ks us y (.lst (xs++[u])))))):=by
 show jR i y u st=_;unfold jR;rw[h0]
 dsimp only
 rw[h5]
 dsimp only
 rw[if_pos h6]
theorem wG(h1:Run (ev Γ a) st (k,.str y) st1)(h2:st1[i]?=some (some (.Dw,.Dy ks us))):Run (DU Γ (.inD neg a i)) st (Ku neg y ks) st1 :=
 aa h1 (aa qI (aa (nJ h2) aY))
theorem wH(h1:Run (ev Γ ve) st (.own,.lst xs) st1)(h2:st1[i]?=some (some (.Dw,.Dy ks us)))(h3:Run (ev Γ ke) st1 (k,.str y) st1)(h4:y∉ks)(h5:ks.length<sizeLine)
  (h6:Run (execs Γ ss) (st1.set i (some (.Dw,.Dy (ks++[y]) (us++[.lst xs])))) f st3):Run (execs Γ (.putD i ke ve::ss)) st f st3:=by
 refine fB ?_ h6;exact aa h1 (aa (nJ h2) (aa h3 (aa qI (aa (yH h2 h4 h5) aY))))
theorem wI(h0:st[i]?=some (some (.Dw,.Dy ks us)))(h1:Run (ev Γ ke) st (k,.str y) st)(h2:y∈ks)(h3:Run (ev Γ ve) st r st)(h4:Run (lift r) st u st)(h5:cY ks us y=some (.lst xs))(h6:xs.length<sizeLine)
  (h7:Run (execs Γ ss) (st.set i (some (.Dw,.Dy ks (ic ks us y (.lst (xs++[u])))))) f st3):Run (execs Γ (.EZ i ke ve::ss)) st f st3:=by
 refine fB ?_ h7;refine aa (nJ h0) (aa h1 (aa qI (aa (nJ h0) ?_)));rw[if_pos h2];exact aa h3 (aa h4 (aa (yI h0 h5 h6) aY))
theorem CG(h:st[i]?=some (some (.Dw,u))):Run (ev Γ (.Jv i)) st (.bor i,u) (st.set i (some (.own,u))):=by
 show vf i st=_;unfold vf;rw[h]
theorem Bg(h0:st[i]?=some (some (.own,.Dy ks us)))(h1:Run (ev Γ a) st (k,.str y) st)(h2:Run (ev Γ b) st z st)(h3:Run (lift z) st u st)(h4:(match cY ks us y with|some v=>(Kd.loc,v)|none=>(.loc,u))=r):
  Run (ev Γ (.FK i a b)) st r st:=by
 refine aa (fJ h0) (aa (a:=()) (st1:=st) rfl (aa h1 (aa (a:=y) (st1:=st) rfl (aa h2 (aa h3 (aa (fJ h0) (b_ ?_)))))));subst h4;rfl
theorem CH(h0:st[i]?=some (some (.own,.lst us)))(h1:Run (ev Γ ke) st (k1,.int (j:Nat)) st)(h2:us[j]?=some (.int o))(h3:Run (ev Γ ve) st (k2,.int w) st)
  (h4:Run (execs Γ ss) (st.set i (some (.own,.lst (us.set j (.int (o - w)))))) f st3):Run (execs Γ (.aug true i ke ve::ss)) st f st3:=by
 have hl:oF i st=some (.ok us,st):=by unfold oF;rw[h0];rfl
 have hj:j<us.length:=(List.getElem?_eq_some_iff.mp h2).1;have hi:oG us (j:Nat)=some o:=by
  unfold oG;rw[if_pos (by omega),Int.toNat_natCast,h2]
 have hx:GB us.length (j:Nat)=some j:=by
  unfold GB;rw[if_pos (by omega)]
  first|(rw[if_pos (by omega)];simp)|simp[hj]
 refine fB (aa (a:=us) (st1:=st) hl (aa h1 (aa (a:=(j:Int)) (st1:=st) rfl (aa (a:=us) (st1:=st) hl (aa (b_ hi) (aa h3 (aa (a:=w) (st1:=st) rfl (aa (a:=()) (st1:=st.set i (some (.own,.lst (us.set j (.int (o - w)))))) ?_ aY)))))))) h4;show modS i (dF (.int (j:Nat)) (.int (tu true o w))) st=_;unfold modS;rw[h0];simp only[Kd.root,if_true,dF];rw[hx];rfl
theorem CI(h0:st[i]?=some (some (.own,u)))(h1:vd u=some r):Run (ev Γ (.Jw i)) st r st:=aa (fJ h0) (b_ h1)
end
theorem gW(f:Str->U)(y:Str):∀ks:List Str,cY ks (ks.map f) y=if y∈ks then some (f y) else none
 |[]=>rfl
 |k::ks=>by
  rw[List.map_cons];show(if k=y then some (f k) else cY ks (ks.map f) y)=_;by_cases e:k=y
  ·subst e;rw[if_pos rfl,if_pos (by simp)]
  ·rw[if_neg e,gW f y ks];have:(y∈k::ks)↔y∈ks:=by simp[Ne.symm e]
   by_cases h:y∈ks
   ·rw[if_pos h,if_pos (this.mpr h)]
   ·rw[if_neg h,if_neg λz=>h (this.mp z)]
theorem kA(f:Str->U)(y:Str)(u:U):∀ks:List Str,ks.Nodup->ic ks (ks.map f) y u=ks.map λk=>if k=y then u else f k
 |[],_=>rfl
 |k::ks,h=>by
  obtain⟨h1,h2⟩:=List.nodup_cons.mp h;rw[List.map_cons,List.map_cons];show(if k=y then u::ks.map f else f k::ic ks (ks.map f) y u)=_;by_cases e:k=y
  ·subst e;rw[if_pos rfl,if_pos rfl];congr 1
   refine List.map_congr_left λz hz=>?_;have Sz:z≠k:=λq=>h1 (by rw[<-q];exact hz);rw[if_neg Sz]
  ·rw[if_neg e,if_neg e,kA f y u ks h2]
noncomputable def stN(s:Str×Nat):U:=.tup [.str s.1,.int (s.2:Nat)]
theorem lX(f:α->Int):∀(ns:List α),intsOf (ns.map λa=>U.int (f a))=some (ns.map f)
 |[]=>rfl
 |n::ns=>by show(intsOf (ns.map λa=>U.int (f a))).map _=_;rw[lX f ns];rfl
theorem yJ(h:ps.length<64)(hn:(ps.map (·.1)).Nodup):∃qs:List (Str×Nat),qs.Perm ps/\vd (.Dy (ps.map (·.1)) (ps.map λp=>.int (p.2:Nat)))=some (.own,.lst (qs.map stN)):=by
 have hi:=lX (λp:Str×Nat=>((p.2:Nat):Int)) ps;have hz:(ps.map (·.1)).zip (ps.map λp:Str×Nat=>((p.2:Nat):Int))=ps.map λp=>(p.1,((p.2:Nat):Int)):=by
  rw[List.zip_map']
 let P:=iV ((ps.map λp=>(p.1,((p.2:Nat):Int))).map (·.1));have hP:P.Perm (List.range ps.length):=by
  have:=fh ((ps.map λp=>(p.1,((p.2:Nat):Int))).map (·.1));simpa[P] using this
 refine⟨P.map λi=>ps.getD i (Str.empty,0),?_,?_⟩
 ·refine(hP.map _).trans ?_;have:(List.range ps.length).map (λi=>ps.getD i (Str.empty,0))=ps:=by
   apply List.ext_getElem
   ·simp
   ·intro i h1 h2;simp[List.getD,h2]
  rw[this]
 ·show(intsOf (ps.map λp=>U.int (p.2:Nat))).bind _=_;rw[hi];show(if (ps.map (·.1)).length<64/\(ps.map (·.1)).Nodup/\(ps.map (·.1)).length=(ps.map λp:Str×Nat=>((p.2:Nat):Int)).length then _ else _)=_;rw[if_pos ⟨by simpa using h,hn,by simp⟩,hz];congr 3
  show(xR _).map tf=_;show(P.map λi=>(ps.map λp=>(p.1,((p.2:Nat):Int))).getD i (Str.empty,0)).map tf=_;rw[List.map_map,List.map_map];refine List.map_congr_left λi E4=>?_;have DW:i<ps.length:=List.mem_range.mp (hP.mem_iff.mp E4);simp[List.getD,DW,tf,stN]
theorem Bh:bw .isin (.str x) (.Dy ks vs)=some (decide (x∈ks)):=rfl
theorem iw:bw .DA (.str x) (.Dy ks vs)=some (!decide (x∈ks)):=rfl
theorem CJ{ss:List Str}:bw .isin (.str x) (.lst (ss.map U.str))=some (decide (x∈ss)):=by
 have h:=@eZ x ss;have e:bw .DA (.str x) (.lst (ss.map U.str))=(bw .isin (.str x) (.lst (ss.map U.str))).map (!·):=rfl;rw[e,Option.map_eq_some_iff]at h;obtain⟨b,h1,h2⟩:=h;rw[h1];congr 1
 cases b<;>simp_all
theorem sg(bs:List Bool):Fq .all [(k,.lst (bs.map .bl))]=some (.loc,.bl (bs.all id)):=by
 show(eS (bs.map U.bl)).map _=_;have:∀bs:List Bool,eS (bs.map U.bl)=some bs:=λbs=>by
  induction bs with
  |nil=>rfl
  |cons b bs ih=>show(eS (bs.map U.bl)).map _=_;rw[ih];rfl
 rw[this];rfl
mutual
theorem lY:∀(n:Nat) (u:U),DB n u=true->ba u u=true
 |_,.DF,_=>rfl
 |_,.bl b,_=>by simp[ba]
 |_,.int i,_=>by simp[ba]
 |_,.str x,_=>by simp[ba]
 |0,.tup xs,h=>by simp[DB]at h
 |0,.lst xs,h=>by simp[DB]at h
 |n+1,.tup xs,h=>by rw[ba];exact f9 n xs (by simpa[DB] using h)
 |n+1,.lst xs,h=>by rw[ba];exact f9 n xs (by simpa[DB] using h)
 |_,.Dy _ _,h=>by simp[DB]at h
 |_,.DV _,h=>by simp[DB]at h
theorem f9:∀(n:Nat) (us:List U),bW n us=true->bA us us=true
 |_,[],_=>rfl
 |n,u::us,h=>by
  have h':DB n u=true/\bW n us=true:=by simpa[bW] using h
  rw[bA,lY n u h'.1,f9 n us h'.2];rfl
end
theorem lZ(h:DB 50 u=true):bw .ne u u=some false:=by
 simp only[bw];rw[if_pos ⟨h,h⟩,lY 50 u h];rfl
section
theorem tU{told known:List Str}(hk:k=.loc\/k=.any)(hl:told.length<=1000)(hs:Run (ev Γ src) st (.loc,.tup (told.map .str)) st)(hj:st[j]?=some (some (k,w))\/st[j]?=some (some (.own,w)))(hw:∀x:Str,bw .isin (.str x) w=some (decide (x∈known))):
  Run (ev Γ (.bi .all [.comp 1 false .seq [src] [] (.cmp .isin (.var 0) (.var (j+1)))])) st (.loc,.bl (told.all λx=>decide (x∈known))) st:=by
 have hsz:(1000:Nat)<=sizeLine:=by decide
 have hx:=fY (cond:=aO Γ []) (elt:=ev Γ (.cmp .isin (.var 0) (.var (j+1)))) (src:=[(.loc,.tup (told.map .str))]) (st:=st) trivial .loc (.inl rfl) U.str (λx=>.bl (decide (x∈known))) .loc (λ_=>gP) told [] (by simp;omega)
  (λy _=>⟨by
   rcases hj with hj|hj
   ·rcases hk with rfl|rfl
    ·exact gO (af rfl) (af (by simpa using hj)) trivial (hw y)
    ·exact gO (af rfl) (aZ (by simpa using hj)) trivial (hw y)
   ·exact gO (af rfl) (aH (by simpa using hj)) ⟨⟨.own,rfl,by simpa using hj⟩,trivial⟩ (hw y),aR⟩)
 rw[List.nil_append]at hx;have e:(told.map U.str).map (λu=>(kE .loc,u))=told.map λr=>(Kd.loc,U.str r):=by rw[List.map_map];rfl
 have e2:(told.map λx=>U.bl (decide (x∈known)))=(told.map λx=>decide (x∈known)).map U.bl:=by rw[List.map_map];rfl
 rw[e2]at hx;have e3:(told.all λx=>decide (x∈known))=((told.map λx=>decide (x∈known)).all id):=by rw[List.all_map];rfl
 rw[e3];exact fA (ag (b7 (rs:=[(.loc,.tup (told.map .str))]) (ag hs ak) trivial (by show some _=_;rw[e]) hx) ak) trivial (sg _)
end
theorem nK(h:ks.length<1000)(hx:x∉ks):dF (.str x) u (.Dy ks us)=some (.Dy (ks++[x]) (us++[u])):=by
 rw[yG h];unfold dput;rw[if_neg hx]
theorem pz(h:DB 50 (.lst us)=true):bw .ne (.lst us) (.lst [])=some (!us.isEmpty):=by
 simp only[bw];rw[if_pos ⟨h,by simp[DB,bW]⟩];cases us with
 |nil=>simp[ba,bA]
 |cons u us=>simp[ba,bA]
theorem l0(f:α->Int):∀(l:List α) (n:Nat),bW n (l.map λa=>U.int (f a))=true
 |[],n=>by simp[bW]
 |a::l,n=>by rw[List.map_cons,bW,l0 f l n];simp[DB]
theorem pA:∀(ss:List (Str×Nat)) (n:Nat),bW (n+1) (ss.map stN)=true
 |[],n=>by simp[bW]
 |s::ss,n=>by rw[List.map_cons,bW,pA ss n];simp[stN,DB,bW]
theorem yK:bw .eq (.tup (ss.map U.str)) (.tup [])=some (decide (ss=[])):=by
 simp only[bw];rw[if_pos ⟨by simp[DB,fu],by simp[DB,bW]⟩];cases ss with
 |nil=>simp[ba,bA]
 |cons x ss=>simp[ba,bA]
theorem ix{cond:M Bool}(h:bb src st)(a b g:α->U)(p:α->Bool):∀(ys:List α) (acc:List U),acc.length+ys.length<=sizeLine ->
  (∀y∈ys,Run cond (some (.loc,a y)::some (.loc,b y)::st) (p y) (some (.loc,a y)::some (.loc,b y)::st)/\Run elt (some (.loc,a y)::some (.loc,b y)::st) (.loc,g y) (some (.loc,a y)::some (.loc,b y)::st)) ->
  Run (bq 2 true cond elt src (ys.map λy=>(Kd.loc,U.tup [a y,b y])) acc) st (acc++(ys.filter p).map g) st
 |[],acc,_,_=>by rw[List.map_nil,List.filter_nil,List.map_nil,List.append_nil];exact oZ h
 |y::ys,acc,hl,hx=>by
  obtain⟨h1,h2⟩:=hx y (by simp);rw[List.length_cons]at hl;have ht:Run (cV true (List.range 2) (.loc,.tup [a y,b y])) (List.replicate 2 none++st) () (some (.loc,a y)::some (.loc,b y)::st):=lW (.inl rfl);cases hp:p y with
  |true =>
   rw[hp]at h1;refine j_ (s1:=some (.loc,a y)::some (.loc,b y)::st) (s2:=some (.loc,a y)::some (.loc,b y)::st) (s3:=some (.loc,a y)::some (.loc,b y)::st) (s4:=some (.loc,a y)::some (.loc,b y)::st) h ht h1 h2 aR (by omega) ?_;have:=ix h a b g p ys (acc++[g y]) (by simp;omega) λz hz=>hx z (by simp[hz]);rw[List.filter_cons,if_pos hp,List.map_cons];simpa using this
  |false =>
   rw[hp]at h1;refine qD (s1:=some (.loc,a y)::some (.loc,b y)::st) (s2:=some (.loc,a y)::some (.loc,b y)::st) h ht h1 ?_;have:=ix h a b g p ys acc (by omega) λz hz=>hx z (by simp[hz]);rw[List.filter_cons,if_neg (by simp[hp])];exact this
theorem set_range(n:Nat)(f:Nat->α)(t:Nat)(v:α):((List.range n).map f).set t v=(List.range n).map λp=>if p=t then v else f p:=by
 apply List.ext_getElem
 ·simp
 ·intro i h1 h2;simp only[List.getElem_set,List.getElem_map,List.getElem_range];by_cases e:t=i
  ·subst e;simp
  ·rw[if_neg e,if_neg (Ne.symm e)]
theorem yL{rows:List Row}{t:Nat}(h:rows[t]?=some r):D6 (rows.map B') (t:Int)=some (B' r):=cw (by simp[h])
section
theorem CK(h1:Run (ev Γ a) st x st1)(h2:fw x.2=some d1)(h3:Run (ev Γ b) st1 y st2)(h4:fw y.2=some d2)(h5:tm ln d1 d2=some r):Run (ev Γ (.Jx ln a b)) st r st2 :=
 aa h1 (aa (b_ h2) (aa h3 (aa (b_ h4) (b_ h5))))
end
theorem l7(h:ss.length<4000):fw (.lst (ss.map .str))=some (av ss):=by
 show(strsOf (ss.map U.str)).bind _=_;rw[cO];show(if ss.length+1<scanBound then _ else _)=_;rw[if_pos (by show ss.length+1<4096;omega)]
theorem wJ(hp:l.Perm m)(hs:m.Pairwise (λa b=>Ff a b=true)):aN l=m:=ff ((bO l).trans hp) (eJ l) hs
theorem pB(h:∀x,x∈a↔x∈b):aN (av a)=aN (av b) :=
 iE ((List.perm_ext_iff_of_nodup (cy a) (cy b)).mpr λx=>by rw[cI,cI,h x])
end TM
namespace K
open PySem L2 TM
noncomputable def top(i:Nat):Stmt:=PySem.Challenge.pw_primer_k14_the_knot.main.body.getD i (.Pass ⟨0,0,0,0⟩)
noncomputable def kB:Fn:=TM.qG
noncomputable def d7:Fn:=⟨"gathered",1,4,[.newD 1,.DS true [2,3] .seq [.var 0] [.ite (.inD true (.var 2) 1) [.putD 1 (.var 2) (.lst [])] [],.EZ 1 (.var 2) (.var 3)],.ret (.Jv 1)]⟩
noncomputable def bF:Fn:=⟨"places_that_tell",1,4,[.set 1 (.lst []),.DS true [2,3] .IK [.var 0] [.ext 1 (.comp 1 false .seq [.idx (.var 3) (.cst (.int 1))] [] (.tup [.var 0,.var 3]))],.ret (.call "gathered" [.var 1])]⟩
noncomputable def dz:Fn:=⟨"new_steps",3,6,[.set 3 (.E_ false),.DS false [4] .seq [.var 1] [.set 5 (.idx (.idx (.var 0) (.var 4)) (.cst (.int 0))),.ite (.and [.cmp .DA (.var 5) (.var 2),.cmp .DA (.var 5) (.var 3)]) [.put 3 (.var 5) (.var 4)] []],.ret (.Jw 3)]⟩
noncomputable def bN:Fn:=⟨"steps_in_rounds",1,10,[.set 1 (.call "places_that_tell" [.var 0]),.set 2 (.comp 1 false .seq [.var 0] [] (.bi .len [.idx (.var 0) (.cst (.int 1))])),.set 3 (.E_ false),.set 4 (.lst []),.set 5 (.comp 2 true .IK [.var 2] [.cmp .eq (.var 1) (.cst (.int 0))] (.var 0)),.HQ (.cmp .ne (.var 5) (.lst [])) [.set 6 (.call "new_steps" [.var 0,.var 5,.var 3]),.set 5 (.lst []),.DS true [7,8] .seq [.var 6] [.put 3 (.var 7) (.cst (.bl true)),.DS false [9] .seq [.FK 1 (.var 7) (.lst [])] [.aug true 2 (.var 9) (.cst (.int 1)),.ite (.cmp .eq (.idx (.var 2) (.var 9)) (.cst (.int 0))) [.app 5 (.var 9)] []]],.ite (.cmp .ne (.var 6) (.lst [])) [.app 4 (.var 6)] []],.ret (.var 4)]⟩
noncomputable def gX:Fn:=⟨"order",1,3,[.set 1 (.lst []),.DS false [2] .seq [.call "steps_in_rounds" [.var 0]] [.ext 1 (.var 2)],.ret (.var 1)]⟩
noncomputable def gY:Fn:=⟨"learnt",1,1,[.ret (.bi .sorted [.comp 2 true .seq [.call "order" [.var 0]] [] (.var 0)])]⟩
noncomputable def c6:Fn:=⟨"not_learnt",1,1,[.ret (.Jx false (.call "words_of" [.var 0]) (.call "learnt" [.var 0]))]⟩
noncomputable def nL:Fn:=⟨"knot",1,4,[.newD 1,.DS false [2] .seq [.call "not_learnt" [.var 0]] [.putD 1 (.var 2) (.lst [])],.DS false [3] .seq [.var 0] [.ite (.inD false (.idx (.var 3) (.cst (.int 0))) 1) [.EZ 1 (.idx (.var 3) (.cst (.int 0))) (.idx (.comp 1 false .seq [.idx (.var 3) (.cst (.int 1))] [.inD false (.var 0) 2] (.var 0)) (.cst (.int 0)))] []],.Ga 1 (.tup [.var 0,.bi .tuple [.var 1]])]⟩
noncomputable def l8:Fn:=TM.tJ
noncomputable def kC:Fn:=TM.rY
noncomputable def iP:Fn:=TM.nq
noncomputable def kD:Fn:=⟨"_law_name",2,6,[.set 2 (.cst (.str "abcdefghijklmnopqrstuvwxyz")),.set 3 (.Gr .join (.cst (.str "")) [.comp 1 false .Ee [.bin .add (.cst (.int 1)) (.bin .mod (.idx (.var 0) (.cst (.int 0))) (.cst (.int 8)))] [] (.idx (.var 3) (.bin .mod (.idx (.var 1) (.bin .add (.cst (.int 4)) (.var 0))) (.cst (.int 26))))]),.ite (.cmp .gt (.bi .len [.var 1]) (.cst (.int 0))) [.set 4 (.idx (.Gr .split (.idx (.var 1) (.bin .mod (.idx (.var 0) (.cst (.int 1))) (.bi .len [.var 1]))) [.cst (.str "/")]) (.cst (.int 0))),.ite (.cmp .eq (.bin .mod (.idx (.var 0) (.cst (.int 2))) (.cst (.int 4))) (.cst (.int 1))) [.set 3 (.HP (.bin .add (.var 4) (.var 3)) [] [.cst (.int 8)])] [],.ite (.cmp .eq (.bin .mod (.idx (.var 0) (.cst (.int 2))) (.cst (.int 4))) (.cst (.int 2))) [.set 3 (.bin .add (.bin .add (.var 4) (.cst (.str "/"))) (.bi .str [.bin .add (.cst (.int 2)) (.bin .mod (.idx (.var 0) (.cst (.int 3))) (.cst (.int 98)))]))] []] [],.set 5 (.bin .add (.lst [.var 3]) (.comp 1 false .Ee [.cst (.int 40)] [] (.bin .add (.idx (.var 3) (.bin .FJ (.var 0) (.cst (.int 26)))) (.idx (.var 3) (.bin .mod (.var 0) (.cst (.int 26))))))),.ret (.idx (.comp 1 false .seq [.var 5] [.cmp .DA (.var 0) (.var 2)] (.var 0)) (.cst (.int 0)))]⟩
noncomputable def iQ:Fn:=TM.fNames
noncomputable def kF:Fn:=TM.iO
noncomputable def kG:Fn:=TM.wd
noncomputable def kH:Fn:=TM.wm
noncomputable def c7:Fn:=⟨"_law_rounds",1,7,[.set 1 (.E_ false),.set 2 (.lst []),.set 3 (.F_ .sset [.comp 2 true .seq [.var 0] [.cmp .eq (.var 1) (.tup [])] (.var 0)]),.HQ (.cmp .gt (.bi .len [.var 3]) (.cst (.int 0))) [.app 2 (.var 3),.DS false [4] .seq [.var 3] [.put 1 (.var 4) (.cst (.bl true))],.set 5 (.lst []),.DS true [4,6] .seq [.var 0] [.ite (.and [.cmp .DA (.var 4) (.var 1),.bi .all [.comp 1 false .seq [.var 6] [] (.cmp .isin (.var 0) (.var 2))]]) [.app 5 (.var 4)] []],.set 3 (.F_ .sset [.var 5])],.ret (.var 2)]⟩
noncomputable def d8:Fn:=⟨"_law_held",2,6,[.set 2 (.F_ .sset [.var 1]),.set 3 (.cst (.bl true)),.HQ (.var 3) [.set 4 (.lst []),.DS false [5] .seq [.var 2] [.ite (.bi .all [.comp 1 false .seq [.var 0] [.cmp .eq (.idx (.var 0) (.cst (.int 0))) (.var 6)] (.bi .any [.comp 1 false .seq [.idx (.var 0) (.cst (.int 1))] [] (.cmp .isin (.var 0) (.var 4))])]) [.app 4 (.var 5)] []],.set 3 (.cmp .lt (.bi .len [.var 4]) (.bi .len [.var 2])),.set 2 (.var 4)],.ret (.var 2)]⟩
noncomputable def dA:Fn:=⟨"_law_words",1,3,[.set 1 (.comp 1 false .seq [.var 0] [] (.idx (.var 0) (.cst (.int 0)))),.DS false [2] .seq [.var 0] [.ext 1 (.idx (.var 2) (.cst (.int 1)))],.ret (.F_ .sset [.var 1])]⟩
noncomputable def dB:Fn:=⟨"_law_right",2,9,[.set 2 (.lst []),.DS false [3] .seq [.call "_law_rounds" [.var 0]] [.ext 2 (.var 3)],.set 4 (.comp 1 false .seq [.call "_law_words" [.var 0]] [.cmp .DA (.var 0) (.var 3)] (.var 0)),.ite (.or [.not (.FX (.var 1) .list),.cmp .ne (.comp 1 false .seq [.var 1] [] (.idx (.var 0) (.cst (.int 0)))) (.var 4)]) [.ret (.cst (.bl false))] [],.DS false [5] .seq [.var 1] [.set 6 (.comp 1 false .seq [.var 0] [.cmp .eq (.idx (.var 0) (.cst (.int 0))) (.idx (.var 6) (.cst (.int 0)))] (.idx (.var 0) (.cst (.int 1)))),.ite (.or [.not (.FX (.var 5) .tuple),.cmp .ne (.bi .len [.var 5]) (.cst (.int 2)),.not (.FX (.idx (.var 5) (.cst (.int 1))) .tuple),.cmp .ne (.bi .len [.idx (.var 5) (.cst (.int 1))]) (.bi .len [.var 6])]) [.ret (.cst (.bl false))] [],.DS true [7,8] .zip [.var 6,.idx (.var 5) (.cst (.int 1))] [.ite (.or [.cmp .DA (.var 8) (.var 7),.cmp .DA (.var 8) (.var 4)]) [.ret (.cst (.bl false))] []]],.ret (.cmp .eq (.call "_law_held" [.var 0,.call "_law_words" [.var 0]]) (.var 4))]⟩
noncomputable def si:Fn:=⟨"law",1,4,[.set 1 (.call "_law_made" [.var 0]),.DS false [2] .seq [.lst [.var 1,.var 1,.IL (.var 1)]] [.set 3 (.call "knot" [.var 2]),.ite (.not (.call "_law_right" [.var 2,.var 3])) [.ret (.cst (.bl false))] [],.app 3 (.tup [.cst (.str "a"),.tup []])],.ret (.cst (.bl true))]⟩
noncomputable def prog:List Fn:=[kB,d7,bF,dz,bN,gX,gY,c6,nL,l8,kC,iP,kD,iQ,kF,kG,kH,c7,d8,dA,dB,si]
noncomputable def ck:Ck:=⟨prog.map (·.name),[]⟩
end K
namespace K
open PySem L2 TM D8 Od
noncomputable def b9(f:Str->List Nat)(k:Str):U:=.lst ((f k).map λt:Nat=>U.int (t:Nat))
theorem iy(d:List (Str×Nat))(y:Str×Nat)(k:Str):aC (d++[y]) k=if y.1=k then aC d k++[y.2] else aC d k:=by
 rw[pw];by_cases e:y.1=k
 ·rw[if_pos e];simp[aC,e]
 ·rw[if_neg e];simp[aC,e]
theorem wK(d:List (Str×Nat))(k:Str):(aC d k).length<=d.length:=by
 unfold aC;rw[List.length_map];exact List.length_filter_le _ _
section
theorem nM(hl:ps.length<=1000):∃ks:List Str,(∀w,w∉ks->aC ps w=[])/\bP Γ d7 [.lst (ps.map stN)]=some (.ok (.own,.Dy ks (ks.map (b9 (aC ps))))):=by
 have hsz:(2000:Nat)<=sizeLine:=by decide
 have DJ:TM.start [.lst (ps.map stN)] 4=[some (.any,.lst (ps.map stN)),none,none,none]:=rfl;let S:=λ(ks:List Str) (us:List U) (o2 o3:Option (Kd×U))=>([some (.any,.lst (ps.map stN)),some (.Dw,.Dy ks us),o2,o3]:au)
 let body:List TM.S:=[.ite (.inD true (.var 2) 1)
    [.putD 1 (.var 2) (.lst [])]
    [],
   .EZ 1 (.var 2) (.var 3)]
 obtain⟨st',DT,DM,ks,o2,o3,e,hn,hk,KS⟩:=bL (t:=true) (is:=[2,3]) (body:=execs Γ body) (rs:=[(.any,.lst (ps.map stN))]) (λp:Str×Nat=>(Kd.any,stN p))
  (λd r st=>d++r=ps/\∃(ks:List Str) (o2 o3:Option (Kd×U)),st=S ks (ks.map (b9 (aC d))) o2 o3/\ks.Nodup/\(∀w,w∉ks->aC d w=[])/\ks.length<=d.length) (λ_ _ _ _=>trivial) (λd y r st DP=>by
   obtain⟨DM,ks,o2,o3,e,hn,hk,KS⟩:=DP;subst e;have Fx:d.length<1000:=by have:=congrArg List.length DM;simp at this;omega
   let i2:Option (Kd×U):=some (.any,.str y.1);let i3:Option (Kd×U):=some (.any,.int (y.2:Nat));have LV:=wK d y.1;have app:∀(ks:List Str),ks.Nodup->y.1∈ks->Run (execs Γ [.EZ 1 (.var 2) (.var 3)]) (S ks (ks.map (b9 (aC d))) i2 i3) .nx (S ks (ks.map (b9 (aC (d++[y])))) i2 i3):=λks hn hy=>by
    have hg:cY ks (ks.map (b9 (aC d))) y.1=some (.lst ((aC d y.1).map λt:Nat=>U.int (t:Nat))):=by rw[gW,if_pos hy];rfl
    have hs:ic ks (ks.map (b9 (aC d))) y.1 (.lst ((aC d y.1).map (λt:Nat=>U.int (t:Nat))++[.int (y.2:Nat)]))=ks.map (b9 (aC (d++[y]))):=by
     rw[kA _ _ _ _ hn];refine List.map_congr_left λk hk=>?_;unfold b9;rw[iy];by_cases e:y.1=k
     ·subst e;rw[if_pos rfl,if_pos rfl];simp
     ·rw[if_neg e,if_neg (Ne.symm e)]
    rw[<-hs];exact wI (k:=.any) (r:=(.any,.int (y.2:Nat))) rfl (aZ rfl) hy (aZ rfl) (oV rfl) hg (by rw[List.length_map];omega) aD
   have tc:Run (DU Γ (.inD true (.var 2) 1)) (S ks (ks.map (b9 (aC d))) i2 i3) (!decide (y.1∈ks)) (S ks (ks.map (b9 (aC d))) i2 i3):=wG (neg:=true) (k:=.any) (aZ rfl) rfl;have FN:Run (cV true [2,3] (.any,stN y)) (S ks (ks.map (b9 (aC d))) o2 o3) () (S ks (ks.map (b9 (aC d))) i2 i3):=lW (.inr rfl);by_cases hy:y.1∈ks
   ·rw[decide_eq_true hy]at tc;refine⟨_,_,FN,eC tc (λh=>by cases h) λ_=>app ks hn hy,by rw[<-DM];simp,ks,_,_,rfl,hn,λw hw=>?_,by simp;omega⟩;have SD:y.1≠w:=λz=>hw (by rw[<-z];exact hy);rw[iy,if_neg SD];exact hk w hw
   ·rw[decide_eq_false hy]at tc;have Ig:(ks++[y.1]).Nodup:=by
     rw[List.nodup_append];refine⟨hn,by simp,λa ha b hb e=>?_⟩;have:b=y.1:=by simpa using hb
     subst this;exact hy (e▸ha)
    have em:ks.map (b9 (aC d))++[.lst []]=(ks++[y.1]).map (b9 (aC d)):=by
     rw[List.map_append];congr 1
     show _=[b9 (aC d) y.1]
     unfold b9;rw[hk y.1 hy];rfl
    have KU:=app (ks++[y.1]) Ig (by simp);rw[<-em]at KU;refine⟨_,_,FN,eC tc (λ_=>wH (k:=.any) (xs:=[]) (cv ak trivial aS (Nat.zero_le _)) rfl (aZ rfl) hy (by omega) KU) λh=>(by cases h),by rw[<-DM];simp,ks++[y.1],_,_,rfl,Ig,λw hw=>?_,by simp;omega⟩;have Gf:w∉ks/\w≠y.1:=by simpa using hw
    rw[iy,if_neg (Ne.symm Gf.2)];exact hk w Gf.1) ps [] (S [] [] none none) ⟨rfl,[],none,none,rfl,.nil,λ_ _=>rfl,Nat.le_refl _⟩
 subst e;rw[List.nil_append]at *;refine⟨ks,hk,?_⟩;have e:(ps.map stN).map (λu=>(kE .any,u))=ps.map λp=>(Kd.any,stN p):=by rw[List.map_map];rfl
 exact aP rfl (.inl rfl) DJ (wF (cf (rs:=[(.any,.lst (ps.map stN))]) (st1:=S [] [] none none) (ag (aZ rfl) ak) trivial rfl rfl (by rw[e];exact DT) (cT (CG rfl) (lQ rfl))))
def zk(Γ:Tab):Prop:=∀ps:List (Str×Nat),ps.length<=1000->∃ks:List Str,(∀w,w∉ks->aC ps w=[])/\Γ "gathered" [.lst (ps.map stN)]=some (.ok (.own,.Dy ks (ks.map (b9 (aC ps)))))
theorem qJ(hg:zk Γ)(hO:Once rows)(h8:∀r∈rows,r.2.length<=8)(hr:rows.length<=100):
  ∃ks:List Str,(∀w,w∉ks->Ea rows rows.length w=[])/\bP Γ bF [.tup (rows.map B')]=some (.ok (.own,.Dy ks (ks.map (b9 (Ea rows rows.length))))):=by
 have hsz:(2000:Nat)<=sizeLine:=by decide
 have DJ:TM.start [.tup (rows.map B')] 4=[some (.loc,.tup (rows.map B')),none,none,none]:=by simp[TM.start,D9,bj]
 let S:=λ(ps:List (Str×Nat)) (o2 o3:Option (Kd×U))=>([some (.loc,.tup (rows.map B')),some (.own,.lst (ps.map stN)),o2,o3]:au)
 let body:List TM.S:=[.ext 1 (.comp 1 false .seq [.idx (.var 3) (.cst (.int 1))] [] (.tup [.var 0,.var 3]))]
 obtain⟨st',DT,DM,ps,o2,o3,e,hp,Eg⟩:=bL (t:=true) (is:=[2,3]) (body:=execs Γ body) (rs:=[(.loc,.tup (rows.map B'))]) (λp:Row×Nat=>(Kd.loc,U.tup [.int (p.2:Nat),B' p.1]))
  (λd r st=>d++r=rows.zipIdx/\∃(ps:List (Str×Nat)) (o2 o3:Option (Kd×U)),st=S ps o2 o3/\(∀w,aC ps w=Ea rows d.length w)/\ps.length<=8 * d.length) (λ_ _ _ _=>trivial) (λd y r st DP=>by
   obtain⟨DM,ps,o2,o3,e,hp,Eg⟩:=DP;subst e;obtain⟨row,i⟩:=y;have hy:(rows.zipIdx)[d.length]?=some (row,i):=by rw[<-DM];simp
   rw[List.getElem?_zipIdx,Option.map_eq_some_iff]at hy;obtain⟨Ez,Ei,e⟩:=hy;have e1:Ez=row:=congrArg Prod.fst e;have e2:0+d.length=i:=congrArg Prod.snd e;rw[Nat.zero_add]at e2;subst e1 e2;have Fx:d.length<100:=by have:=congrArg List.length DM;simp at this;omega
   have PN:=h8 Ez (List.mem_of_getElem? Ei);let i2:Option (Kd×U):=some (.loc,.int (d.length:Nat));let i3:Option (Kd×U):=some (.loc,B' Ez);have hx:=fY (cond:=aO Γ []) (elt:=ev Γ (.tup [.var 0,.var 3])) (src:=[(.loc,.tup (Ez.2.map .str))]) (st:=S ps i2 i3) trivial .loc (.inl rfl) U.str (λx=>stN (x,d.length)) .loc (λ_=>gP) Ez.2 [] (by simp;omega)
    (λy _=>⟨j8 (ag (af rfl) (ag (af rfl) ak)) trivial (a9 aR (a9 aR aS)) (by show 2<=sizeLine;omega),aR⟩)
   rw[List.nil_append]at hx;have e:(Ez.2.map U.str).map (λu=>(kE .loc,u))=Ez.2.map λr=>(Kd.loc,U.str r):=by rw[List.map_map];rfl
   have hc:Run (ev Γ (.comp 1 false .seq [.idx (.var 3) (.cst (.int 1))] [] (.tup [.var 0,.var 3]))) (S ps i2 i3) (.own,.lst (Ez.2.map λx=>stN (x,d.length))) (S ps i2 i3) :=
    b7 (rs:=[(.loc,.tup (Ez.2.map .str))]) (ag (bM (x:=(.loc,B' Ez)) (af rfl) aU trivial rfl) ak) trivial (by show some _=_;rw[e]) hx
   have em:ps.map stN++(Ez.2.map λx=>stN (x,d.length))=(ps++Ez.2.map λx=>(x,d.length)).map stN:=by simp
   refine⟨S ps i2 i3,S (ps++Ez.2.map λx=>(x,d.length)) i2 i3,lW (.inl rfl),?_,by rw[<-DM];simp,_,_,_,rfl,λw=>?_,by simp;omega⟩
   ·show Run _ _ _ [some (.loc,.tup (rows.map B')),some (.own,.lst ((ps++Ez.2.map λx=>(x,d.length)).map stN)),i2,i3];rw[<-em];exact pf (k:=.own) (k':=.own) rfl hc rfl rfl (nB (by rw[List.length_map,List.length_map];omega) rfl) aD
   ·rw[List.length_append];exact tS hO Ei hp w) rows.zipIdx [] (S [] none none) ⟨rfl,[],none,none,rfl,λw=>by simp[aC,Ea],by simp⟩
 subst e;rw[List.nil_append,List.length_zipIdx]at hp Eg;have hit:Ft .IK [(.loc,.tup (rows.map B'))]=some (rows.zipIdx.map λp:Row×Nat=>(Kd.loc,U.tup [.int (p.2:Nat),B' p.1])):=by
  show some ((rows.map B').zipIdx.map λp=>(kE .loc,U.tup [.int p.2,p.1]))=_;rw[List.zipIdx_map,List.map_map];rfl
 obtain⟨ks,k1,k2⟩:=hg ps (by omega);have ef:aC ps=Ea rows rows.length:=funext hp;rw[ef]at k1 k2;refine⟨ks,k1,?_⟩;exact aP rfl (.inl rfl) DJ (aB (r:=(.own,.lst [])) (cv ak trivial aS (Nat.zero_le _)) bo (cf (rs:=[(.loc,.tup (rows.map B'))]) (st1:=S [] none none) (ag (af rfl) ak) trivial hit rfl DT
  (cT (bY (ag (aH rfl) ak) ⟨⟨.own,rfl,rfl⟩,trivial⟩ k2) iN)))
theorem kW{names:List Str}(Fi:∀r∈rows,r.1∈names)(Hs:names.length<64)(hR:∀t∈R,t<rows.length):
  ∃st:List (Str×Nat),NS rows K0 R st/\bP Γ dz [.tup (rows.map B'),.lst (R.map λt:Nat=>.int (t:Nat)),.Dy K0 vs]=some (.ok (.own,.lst (st.map stN))):=by
 have hsz:(2000:Nat)<=sizeLine:=by decide
 have DJ:TM.start [.tup (rows.map B'),.lst (R.map λt:Nat=>.int (t:Nat)),.Dy K0 vs] 6=[some (.loc,.tup (rows.map B')),some (.any,.lst (R.map λt:Nat=>.int (t:Nat))),some (.any,.Dy K0 vs),none,none,none]:=by simp[TM.start,D9,bj]
 let S:=λ(ps:List (Str×Nat)) (o4 o5:Option (Kd×U))=>([some (.loc,.tup (rows.map B')),some (.any,.lst (R.map λt:Nat=>.int (t:Nat))),some (.any,.Dy K0 vs),some (.own,.Dy (ps.map (·.1)) (ps.map λp=>.int (p.2:Nat))),o4,o5]:au)
 let body:List TM.S:=[.set 5 (.idx (.idx (.var 0) (.var 4)) (.cst (.int 0))),
   .ite (.and [.cmp .DA (.var 5) (.var 2),.cmp .DA (.var 5) (.var 3)])
    [.put 3 (.var 5) (.var 4)]
    []]
 have G1:∀{d:List Nat} {ps:List (Str×Nat)},NS rows K0 d ps->ps.length<=names.length:=λ{d ps} x=>by
  have:=lV x.once (L:=names) λw hw=>by
   obtain⟨s,hs,rfl⟩:=List.mem_map.mp hw;obtain⟨_,_,r,h1,h2⟩:=x.ok s hs;rw[<-h2];exact Fi r (List.mem_of_getElem? h1)
  simpa using this
 obtain⟨st',DT,DM,ps,o4,o5,e,x⟩:=bL (t:=false) (is:=[4]) (body:=execs Γ body) (rs:=[(.any,.lst (R.map λt:Nat=>.int (t:Nat)))]) (λt:Nat=>(Kd.any,U.int (t:Nat)))
  (λd r st=>d++r=R/\∃(ps:List (Str×Nat)) (o4 o5:Option (Kd×U)),st=S ps o4 o5/\NS rows K0 d ps) (λ_ _ _ _=>trivial) (λd t r st DP=>by
   obtain⟨DM,ps,o4,o5,e,x⟩:=DP;subst e;have ht:t<rows.length:=hR t (by rw[<-DM];simp);have Ei:rows[t]?=some rows[t]:=by simp[ht]
   generalize rows[t]=row at Ei;let i4:Option (Kd×U):=some (.any,.int (t:Nat));let i5:Option (Kd×U):=some (.loc,.str row.1);have EL:=G1 x;have tc:Run (DU Γ (.and [.cmp .DA (.var 5) (.var 2),.cmp .DA (.var 5) (.var 3)])) (S ps i4 i5) (!decide (row.1∈K0)&&!decide (row.1∈ps.map (·.1))) (S ps i4 i5) :=
    oW (wu (cc (af rfl) (aZ rfl) trivial iw) λ_=>dm (cc (af rfl) (aH rfl) ⟨⟨.own,rfl,rfl⟩,trivial⟩ iw))
   have pre:∀{Fw:au},Run (execs Γ [.ite (.and [.cmp .DA (.var 5) (.var 2),.cmp .DA (.var 5) (.var 3)])
    [.put 3 (.var 5) (.var 4)]
    []]) (S ps i4 i5) .nx Fw->Run (execs Γ body) (S ps i4 o5) .nx Fw:=λh =>
    aB (r:=(.loc,.str row.1)) (bM (x:=(.loc,B' row)) (bM (af rfl) (aZ rfl) trivial (pP (yL Ei))) aU trivial rfl) aV h
   have FN:Run (cV false [4] (.any,.int (t:Nat))) (S ps o4 o5) () (S ps i4 o5):=bZ iM;by_cases h1:row.1∈K0
   ·rw[decide_eq_true h1]at tc;exact⟨_,_,FN,pre (eC tc (λh=>by cases h) λ_=>aD),by rw[<-DM];simp,ps,_,_,rfl,x.skip Ei (.inl h1)⟩
   ·by_cases h2:row.1∈ps.map (·.1)
    ·rw[decide_eq_false h1,decide_eq_true h2]at tc;exact⟨_,_,FN,pre (eC tc (λh=>by cases h) λ_=>aD),by rw[<-DM];simp,ps,_,_,rfl,x.skip Ei (.inr h2)⟩
    ·rw[decide_eq_false h1,decide_eq_false h2]at tc;refine⟨_,S (ps++[(row.1,t)]) i4 i5,FN,pre (eC tc (λ_=>?_) λh=>by cases h),by rw[<-DM];simp,_,_,_,rfl,x.take Ei h1 h2⟩;have e1:(ps++[(row.1,t)]).map (·.1)=ps.map (·.1)++[row.1]:=by simp
     have e2:((ps++[(row.1,t)]).map λp=>U.int (p.2:Nat))=(ps.map λp=>U.int (p.2:Nat))++[.int (t:Nat)]:=by simp
     show Run _ _ _ [some (.loc,.tup (rows.map B')),some (.any,.lst (R.map λt:Nat=>.int (t:Nat))),some (.any,.Dy K0 vs),some (.own,.Dy ((ps++[(row.1,t)]).map (·.1)) ((ps++[(row.1,t)]).map λp=>.int (p.2:Nat))),i4,i5];rw[e1,e2];exact r_ (k:=.own) (rv:=(.any,.int (t:Nat))) (rk:=(.loc,.str row.1)) (aZ rfl) rfl (af rfl) (a9 (oV rfl) (a9 aR aS)) rfl rfl (nK (by rw[List.length_map];omega) h2) aD) R [] (S [] none none) ⟨rfl,[],none,none,rfl,NS.start K0⟩
 subst e;rw[List.nil_append]at x;have EL:=G1 x;obtain⟨qs,q1,q2⟩:=yJ (ps:=ps) (by omega) x.once;refine⟨qs,x.perm q1,?_⟩;have e:(R.map λt:Nat=>U.int (t:Nat)).map (λu=>(kE .any,u))=R.map λt=>(Kd.any,U.int (t:Nat)):=by rw[List.map_map];rfl
 exact aP rfl (.inl rfl) DJ (aB (r:=(.own,.Dy [] [])) nh bo (cf (rs:=[(.any,.lst (R.map λt:Nat=>.int (t:Nat)))]) (st1:=S [] none none) (ag (aZ rfl) ak) trivial rfl rfl (by rw[e];exact DT) (cT (CI rfl q2) iN)))
end
noncomputable def mi(rows:List Row)(K0:List Str)(d:List Nat)(p:Nat):Int:=(cnt rows K0 p:Int) - (if p∈d then 1 else 0)
noncomputable def bx(rows:List Row)(f:Nat->Int):List U:=(List.range rows.length).map λp=>U.int (f p)
noncomputable def d9(R:List Nat):List U:=R.map λt:Nat=>U.int (t:Nat)
theorem yM(rows:List Row)(K0:List Str):bx rows (mi rows K0 [])=bx rows λp=>(cnt rows K0 p:Int):=by
 unfold bx mi;refine List.map_congr_left λp _=>?_;simp
theorem yN(hO:Once rows)(hw:w∉K0):bx rows (mi rows K0 (Ea rows rows.length w))=bx rows λp=>(cnt rows (K0++[w]) p:Int):=by
 unfold bx mi;refine List.map_congr_left λp hp=>?_;have Eg:=List.mem_range.mp hp;have ha:=nI hO hw p;by_cases h:w∈told rows p
 ·rw[if_pos (gT.mpr ⟨Eg,h⟩)];rw[if_pos h]at ha;show U.int ((cnt rows K0 p:Int) - 1)=U.int (cnt rows (K0++[w]) p:Int);congr 1
  omega
 ·rw[if_neg λz=>h (gT.mp z).2];rw[if_neg h]at ha;show U.int ((cnt rows K0 p:Int) - 0)=U.int (cnt rows (K0++[w]) p:Int);congr 1
  omega
theorem wL(hd:t∉d):(bx rows (mi rows K0 d)).set t (.int (mi rows K0 d t - 1))=bx rows (mi rows K0 (d++[t])):=by
 unfold bx;rw[set_range];refine List.map_congr_left λp _=>?_;unfold mi;by_cases e:p=t
 ·subst e;rw[if_pos rfl,if_neg hd,if_pos (by simp)];rw[show((cnt rows K0 p:Int) - 0 - 1)=(cnt rows K0 p:Int) - 1 by omega]
 ·rw[if_neg e];have:(p∈d++[t])↔p∈d:=by simp[e]
  simp only[this]
theorem wM(h:t<rows.length):(bx rows f)[t]?=some (.int (f t)):=by simp[bx,h]
section
variable{Γ:Tab}{rows:List Row}
noncomputable def sj:List TM.S:=[.aug true 2 (.var 9) (.cst (.int 1)),.ite (.cmp .eq (.idx (.var 2) (.var 9)) (.cst (.int 0))) [.app 5 (.var 9)] []]
theorem pC(hO:Once rows)(hr:rows.length<=100)(hw:w∉K0)(MD:R.length<=10000)(o9:Option (Kd×U))(GR:∀st,bb src st):∃Fb:Option (Kd×U),
  Run (forM false [9] (execs Γ sj) src ((Ea rows rows.length w).map λt:Nat=>(Kd.loc,U.int (t:Nat))))
   [b0,b1,some (.own,.lst (bx rows λp=>(cnt rows K0 p:Int))),b3,b4,some (.own,.lst (d9 R)),o6,o7,o8,o9] .nx
   [b0,b1,some (.own,.lst (bx rows λp=>(cnt rows (K0++[w]) p:Int))),b3,b4,some (.own,.lst (d9 (R++(Ea rows rows.length w).filter λt=>decide (cnt rows K0 t=1)))),o6,o7,o8,Fb]:=by
 have hsz:(20000:Nat)<=sizeLine:=by decide
 let S:=λ(ms:List U) (R:List Nat) (o9:Option (Kd×U))=>([b0,b1,some (.own,.lst ms),b3,b4,some (.own,.lst (d9 R)),o6,o7,o8,o9]:au)
 obtain⟨st',DT,DM,Fb,e⟩:=bL (t:=false) (is:=[9]) (body:=execs Γ sj) (rs:=src) (λt:Nat=>(Kd.loc,U.int (t:Nat)))
  (λd r st=>d++r=Ea rows rows.length w/\∃o9:Option (Kd×U),st=S (bx rows (mi rows K0 d)) (R++d.filter λt=>decide (cnt rows K0 t=1)) o9) (λ_ _ st _=>GR st) (λd t r st DP=>by
   obtain⟨DM,o9,e⟩:=DP;subst e;have FA:t∈Ea rows rows.length w:=by rw[<-DM];simp
   have ht:t<rows.length:=(gT.mp FA).1;have DN:=tR (rows:=rows) rows.length w;have SE:t∉d:=λz=>by
    rw[<-DM,List.nodup_append]at DN;exact DN.2.2 t z t (by simp) rfl
   have Fx:d.length<=100:=by
    have h1:=congrArg List.length DM;have h2:(Ea rows rows.length w).length<=(List.range rows.length).length:=List.length_filter_le _ _;simp at h1 h2;omega
   let i9:Option (Kd×U):=some (.loc,.int (t:Nat));let R1:=R++d.filter λt=>decide (cnt rows K0 t=1);have F7:R1.length<=10100:=by
    have:(d.filter λt=>decide (cnt rows K0 t=1)).length<=d.length:=List.length_filter_le _ _;show(R++_).length<=_;rw[List.length_append];omega
   have EF:D6 (bx rows (mi rows K0 (d++[t]))) (t:Int)=some (.int (mi rows K0 (d++[t]) t)):=cw (wM ht);have hv:mi rows K0 (d++[t]) t=(cnt rows K0 t:Int) - 1:=by unfold mi;rw[if_pos (by simp)]
   have tc:Run (DU Γ (.cmp .eq (.idx (.var 2) (.var 9)) (.cst (.int 0)))) (S (bx rows (mi rows K0 (d++[t]))) R1 i9) (decide (cnt rows K0 t=1)) (S (bx rows (mi rows K0 (d++[t]))) R1 i9) :=
    cc (bM (x:=(.bor 2,.lst (bx rows (mi rows K0 (d++[t]))))) (aH rfl) (af rfl) ⟨⟨.own,rfl,rfl⟩,trivial⟩ (a5 EF)) aU trivial (iq (by
     rw[hv,Bool.eq_iff_iff];simp;omega))
   have pre:∀{Fw:au},Run (execs Γ [.ite (.cmp .eq (.idx (.var 2) (.var 9)) (.cst (.int 0)))
      [.app 5 (.var 9)]
      []]) (S (bx rows (mi rows K0 (d++[t]))) R1 i9) .nx Fw->Run (execs Γ sj) (S (bx rows (mi rows K0 d)) R1 i9) .nx Fw:=λh=>by
    refine CH (us:=bx rows (mi rows K0 d)) (k1:=.loc) (k2:=.loc) (j:=t) (w:=1) rfl (af rfl) (wM ht) aU ?_;rw[wL SE];exact h
   have FN:Run (cV false [9] (.loc,.int (t:Nat))) (S (bx rows (mi rows K0 d)) R1 o9) () (S (bx rows (mi rows K0 d)) R1 i9):=bZ aV;cases hc:decide (cnt rows K0 t=1) with
   |false =>
    rw[hc]at tc;refine⟨_,_,FN,pre (eC tc (λh=>by cases h) λ_=>aD),by rw[<-DM];simp,i9,?_⟩;rw[List.filter_append,List.filter_cons,hc];simp[S,R1]
   |true =>
    rw[hc]at tc;refine⟨_,S (bx rows (mi rows K0 (d++[t]))) (R1++[t]) i9,FN,pre (eC tc (λ_=>?_) λh=>by cases h),by rw[<-DM];simp,i9,?_⟩
    ·have em:d9 (R1++[t])=d9 R1++[.int (t:Nat)]:=by simp[d9]
     show Run _ _ _ [b0,b1,some (.own,.lst (bx rows (mi rows K0 (d++[t])))),b3,b4,some (.own,.lst (d9 (R1++[t]))),o6,o7,o8,i9];rw[em];exact fK (k:=.own) (k':=.own) (r:=(.loc,.int (t:Nat))) rfl (af rfl) aR rfl rfl (by unfold d9;rw[List.length_map];omega) aD
    ·rw[List.filter_append,List.filter_cons,hc];simp[S,R1]) (Ea rows rows.length w) [] (S (bx rows (mi rows K0 [])) R o9) ⟨rfl,o9,by simp⟩
 subst e;rw[List.nil_append]at DT;rw[yM,yN hO hw]at DT;exact⟨Fb,DT⟩
noncomputable def wN:List TM.S:=[.put 3 (.var 7) (.cst (.bl true)),.DS false [9] .seq [.FK 1 (.var 7) (.lst [])] sj]
theorem tV(hO:Once rows)(hr:rows.length<=100)(F5:∀w,w∉ks->Ea rows rows.length w=[])(DN:(K0++st.map (·.1)).Nodup)(hl:K0.length+st.length<=100)(vs:List U)(o7 o8 o9:Option (Kd×U)):∃(DI:List U) (R:List Nat) (Gv Gw Fb:Option (Kd×U)),
  RI rows K0 (K0++st.map (·.1)) R/\(st=[]->R=[])/\Run (forM true [7,8] (execs Γ wN) [(.bor 6,.lst (st.map stN))] (st.map λs=>(Kd.loc,stN s)))
   [b0,some (.own,.Dy ks (ks.map (b9 (Ea rows rows.length)))),some (.own,.lst (bx rows λp=>(cnt rows K0 p:Int))),some (.own,.Dy K0 vs),b4,some (.own,.lst []),some (.own,.lst (st.map stN)),o7,o8,o9] .nx
   [b0,some (.own,.Dy ks (ks.map (b9 (Ea rows rows.length)))),some (.own,.lst (bx rows λp=>(cnt rows (K0++st.map (·.1)) p:Int))),some (.own,.Dy (K0++st.map (·.1)) DI),b4,some (.own,.lst (d9 R)),some (.own,.lst (st.map stN)),Gv,Gw,Fb]:=by
 let S:=λ(K:List Str) (vs:List U) (R:List Nat) (o7 o8 o9:Option (Kd×U))=>([b0,some (.own,.Dy ks (ks.map (b9 (Ea rows rows.length)))),some (.own,.lst (bx rows λp=>(cnt rows K p:Int))),some (.own,.Dy K vs),b4,some (.own,.lst (d9 R)),some (.own,.lst (st.map stN)),o7,o8,o9]:au)
 obtain⟨st',DT,DM,DI,R,Gv,Gw,Fb,e,x,MD,Lm⟩:=bL (t:=true) (is:=[7,8]) (body:=execs Γ wN) (rs:=[(.bor 6,.lst (st.map stN))]) (λs:Str×Nat=>(Kd.loc,stN s))
  (λd r NX=>d++r=st/\∃(vs:List U) (R:List Nat) (o7 o8 o9:Option (Kd×U)),NX=S (K0++d.map (·.1)) vs R o7 o8 o9/\RI rows K0 (K0++d.map (·.1)) R/\R.length<=100 * d.length/\(d=[]->R=[])) (λ_ _ NX ⟨_,vs,R,o7,o8,o9,e,_⟩=>by subst e;exact⟨⟨.own,rfl,rfl⟩,trivial⟩) (λd s r NX DP=>by
   obtain⟨DM,vs,R,o7,o8,o9,e,x,MD,Lm⟩:=DP;subst e;obtain⟨w,p⟩:=s;have Fx:d.length<st.length:=by have:=congrArg List.length DM;simp at this;omega
   have hw:w∉K0++d.map (·.1):=λz=>by
    rw[<-DM,List.map_append,<-List.append_assoc,List.nodup_append]at DN;exact DN.2.2 w z w (by simp) rfl
   let i7:Option (Kd×U):=some (.loc,.str w);let i8:Option (Kd×U):=some (.loc,.int (p:Nat));obtain⟨Fb,EN⟩:=pC (Γ:=Γ) hO hr hw (R:=R) (by omega) (b0:=b0) (b1:=some (.own,.Dy ks (ks.map (b9 (Ea rows rows.length))))) (b3:=some (.own,.Dy (K0++d.map (·.1)++[w]) (vs++[.bl true]))) (b4:=b4) (o6:=some (.own,.lst (st.map stN))) (o7:=i7) (o8:=i8) o9 (src:=[(.loc,b9 (Ea rows rows.length) w)]) (λ_=>trivial);have em:K0++(d++[(w,p)]).map (·.1)=K0++d.map (·.1)++[w]:=by simp
   have KS:(K0++d.map (·.1)).length<1000:=by rw[List.length_append,List.length_map];omega
   have hg:(match cY ks (ks.map (b9 (Ea rows rows.length))) w with|some v=>(Kd.loc,v)|none=>(.loc,U.lst []))=(.loc,b9 (Ea rows rows.length) w):=by
    rw[gW];by_cases h:w∈ks
    ·rw[if_pos h]
    ·rw[if_neg h];unfold b9;rw[F5 w h];rfl
   have e2:((Ea rows rows.length w).map λt:Nat=>U.int (t:Nat)).map (λu=>(kE .loc,u))=(Ea rows rows.length w).map λt=>(Kd.loc,U.int (t:Nat)):=by rw[List.map_map];rfl
   refine⟨S (K0++d.map (·.1)) vs R i7 i8 o9,S (K0++d.map (·.1)++[w]) (vs++[.bl true]) (R++(Ea rows rows.length w).filter λt=>decide (cnt rows (K0++d.map (·.1)) t=1)) i7 i8 Fb,lW (.inl rfl),?_,by rw[<-DM];simp,vs++[.bl true],_,i7,i8,Fb,by rw[em],?_,?_,λz=>by simp at z⟩
   ·refine r_ (k:=.own) (rv:=(.loc,.bl true)) (rk:=(.loc,.str w)) aU rfl (af rfl) (a9 aR (a9 aR aS)) rfl rfl (nK KS hw) ?_;exact cf (rs:=[(.loc,b9 (Ea rows rows.length) w)]) (ag (Bg (k:=.loc) (z:=(.own,.lst [])) (u:=.lst []) rfl (af rfl) (cv ak trivial aS (Nat.zero_le _)) vY hg) ak) trivial (by show some (List.map (λu=>(kE .loc,u)) _)=_;rw[e2]) rfl EN aD
   ·rw[em];exact x.step hO hw
   ·have:((Ea rows rows.length w).filter λt=>decide (cnt rows (K0++d.map (·.1)) t=1)).length<=100:=by
     refine Nat.le_trans (List.length_filter_le _ _) ?_;have h2:(Ea rows rows.length w).length<=(List.range rows.length).length:=List.length_filter_le _ _;simp at h2;omega
    rw[List.length_append,List.length_append,List.length_singleton];omega) st [] (S K0 vs [] o7 o8 o9) ⟨rfl,vs,[],o7,o8,o9,by simp[S],by simpa using RI.start K0,by simp,λ_=>rfl⟩
 subst e;exact⟨DI,R,Gv,Gw,Fb,by simpa using x,λz=>Lm (by simpa using z),by simpa[S,d9] using DT⟩
noncomputable def fC(Eb:List (List (Str×Nat))):List U:=Eb.map λl=>U.lst (l.map stN)
noncomputable def wO:List TM.S:=[.set 6 (.call "new_steps" [.var 0,.var 5,.var 3]),.set 5 (.lst []),.DS true [7,8] .seq [.var 6] wN,.ite (.cmp .ne (.var 6) (.lst [])) [.app 4 (.var 6)] []]
def wQ(Γ:Tab)(rows:List Row):Prop:=∀(R:List Nat) (K0:List Str) (vs:List U),(∀t∈R,t<rows.length)->∃st:List (Str×Nat),NS rows K0 R st/\Γ "new_steps" [.tup (rows.map B'),.lst (d9 R),.Dy K0 vs]=some (.ok (.own,.lst (st.map stN)))
theorem iz(hO:Once rows)(hr:rows.length<=100)(hN:wQ Γ rows)(F5:∀w,w∉ks->Ea rows rows.length w=[]):∀(f:Nat) (DO:List (Str×Nat)) (Eb:List (List (Str×Nat))) (R:List Nat) (vs:List U) (o6 o7 o8 o9:Option (Kd×U)),
  LI rows DO R->Eb.flatten=DO->Eb.length<=DO.length->(rows.length - DO.length)+(if R=[] then 1 else 2)<=f ->
  ∃(KW:List (Str×Nat)) (Jc:List (List (Str×Nat))) (st':au),LI rows KW []/\Jc.flatten=KW/\Jc.length<=100/\st'[4]?=some (some (.own,.lst (fC Jc))) /\
   Run (fz (DU Γ (.cmp .ne (.var 5) (.lst []))) (execs Γ wO) f) [some (.loc,.tup (rows.map B')),some (.own,.Dy ks (ks.map (b9 (Ea rows rows.length)))),some (.own,.lst (bx rows λp=>(cnt rows (DO.map (·.1)) p:Int))),some (.own,.Dy (DO.map (·.1)) vs),some (.own,.lst (fC Eb)),some (.own,.lst (d9 R)),o6,o7,o8,o9] .nx st'
 |0,DO,Eb,R,vs,o6,o7,o8,o9,_,_,_,h=>by split at h<;>omega
 |f+1,DO,Eb,R,vs,o6,o7,o8,o9,x,hf,Jo,h=>by
  have hsz:(20000:Nat)<=sizeLine:=by decide
  have G1:∀{s:List (Str×Nat)} {R':List Nat},LI rows s R'->s.length<=rows.length:=λ{s R'} x=>by
   have h1:=gU x.ok .nil;rw[List.nil_append]at h1;have:=lV h1 (gV x.ok);simpa using this
  have EL:=G1 x;let S:=λ(K:List Str) (vs:List U) (Eb:List (List (Str×Nat))) (R:List Nat) (o6 o7 o8 o9:Option (Kd×U))=>([some (.loc,.tup (rows.map B')),some (.own,.Dy ks (ks.map (b9 (Ea rows rows.length)))),some (.own,.lst (bx rows λp=>(cnt rows K p:Int))),some (.own,.Dy K vs),some (.own,.lst (fC Eb)),some (.own,.lst (d9 R)),o6,o7,o8,o9]:au)
  have SF:∀R:List Nat,DB 50 (.lst (d9 R))=true:=λR=>by show bW 49 _=true;exact l0 (λt:Nat=>((t:Nat):Int)) R 49
  have tc:Run (DU Γ (.cmp .ne (.var 5) (.lst []))) (S (DO.map (·.1)) vs Eb R o6 o7 o8 o9) (!(d9 R).isEmpty) (S (DO.map (·.1)) vs Eb R o6 o7 o8 o9) :=
   cc (aH rfl) (cv ak trivial aS (Nat.zero_le _)) ⟨⟨.own,rfl,rfl⟩,trivial⟩ (pz (SF R))
  by_cases hR:R=[]
  ·subst hR;exact⟨DO,Eb,_,x,hf,by omega,rfl,sf tc⟩
  ·rw[if_neg hR]at h;have SG:(!(d9 R).isEmpty)=true:=by
    cases R with
    |nil=>exact absurd rfl hR
    |cons a l=>rfl
   rw[SG]at tc;obtain⟨st,n,DJ⟩:=hN R (DO.map (·.1)) vs λt ht=>(x.KR t ht).1;have DN:(DO.map (·.1)++st.map (·.1)).Nodup:=by
    have h1:=gU x.ok .nil;rw[List.nil_append]at h1;rw[List.nodup_append];refine⟨h1,n.once,λa ha b hb e=>?_⟩;obtain⟨s,hs,rfl⟩:=List.mem_map.mp hb;exact(n.ok s hs).2.1 (e▸ha)
   have hlen:DO.length+st.length<=rows.length:=by
    have:=lV DN (L:=rows.map (·.1)) λy hy=>by
     rcases List.mem_append.mp hy with hy|hy
     ·exact gV x.ok y hy
     ·obtain⟨s,hs,rfl⟩:=List.mem_map.mp hy;obtain⟨_,_,r,q1,q2⟩:=n.ok s hs;exact List.mem_map.mpr ⟨r,List.mem_of_getElem? q1,q2⟩
    simpa using this
   let i6:Option (Kd×U):=some (.own,.lst (st.map stN));obtain⟨DI,R',Gv,Gw,Fb,y,Lu,NY⟩:=tV (Γ:=Γ) hO hr F5 DN (by rw[List.length_map];omega) (b0:=some (.loc,.tup (rows.map B'))) (b4:=some (.own,.lst (fC Eb))) vs o7 o8 o9;have x':=x.step n y;have em:(DO++st).map (·.1)=DO.map (·.1)++st.map (·.1):=List.map_append;have SH:DB 50 (.lst (st.map stN))=true:=by show bW 49 _=true;exact pA st 48
   have LW:Run (DU Γ (.cmp .ne (.var 6) (.lst []))) (S (DO.map (·.1)++st.map (·.1)) DI Eb R' i6 Gv Gw Fb) (!(st.map stN).isEmpty) (S (DO.map (·.1)++st.map (·.1)) DI Eb R' i6 Gv Gw Fb) :=
    cc (aH rfl) (cv ak trivial aS (Nat.zero_le _)) ⟨⟨.own,rfl,rfl⟩,trivial⟩ (pz SH)
   have e1:(st.map stN).map (λu=>(kE (.bor 6),u))=st.map λs=>(Kd.loc,stN s):=by rw[List.map_map];rfl
   have pre:∀{Fw:au},Run (execs Γ [.ite (.cmp .ne (.var 6) (.lst []))
    [.app 4 (.var 6)]
    []]) (S (DO.map (·.1)++st.map (·.1)) DI Eb R' i6 Gv Gw Fb) .nx Fw->Run (execs Γ wO) (S (DO.map (·.1)) vs Eb R o6 o7 o8 o9) .nx Fw:=λh=>by
    refine aB (r:=(.own,.lst (st.map stN))) (bY (ag (af rfl) (ag (aH rfl) (ag (aH rfl) ak))) ⟨⟨.own,rfl,rfl⟩,⟨.own,rfl,rfl⟩,trivial⟩ DJ) bo ?_;refine aB (r:=(.own,.lst [])) (cv ak trivial aS (Nat.zero_le _)) bo ?_;exact cf (rs:=[(.bor 6,.lst (st.map stN))]) (ag (aH rfl) ak) ⟨⟨.own,rfl,rfl⟩,trivial⟩ (by show some (List.map (λu=>(kE (.bor 6),u)) _)=_;rw[e1]) rfl NY h
   by_cases EC:st=[]
   ·have SJ:=Lu EC;subst EC;rw[show(!(([]:List (Str×Nat)).map stN).isEmpty)=false from rfl]at LW;have ee:DO++[]=DO:=List.append_nil _;rw[ee]at x';have hb:=pre (eC LW (λh=>by cases h) λ_=>aD);obtain⟨Jd,Je,st2,z1,z2,z3,z4,z5⟩:=iz hO hr hN F5 f DO Eb R' DI i6 Gv Gw Fb x' hf Jo (by rw[if_pos SJ];omega);refine⟨Jd,Je,st2,z1,z2,z3,z4,tT tc hb ?_⟩;have e3:DO.map (·.1)++([]:List (Str×Nat)).map (·.1)=DO.map (·.1):=by simp
    show Run _ (S (DO.map (·.1)++([]:List (Str×Nat)).map (·.1)) DI Eb R' i6 Gv Gw Fb) _ _;rw[e3];exact z5
   ·have NZ:(!(st.map stN).isEmpty)=true:=by
     cases st with
     |nil=>exact absurd rfl EC
     |cons a l=>rfl
    rw[NZ]at LW;have SM:0<st.length:=List.length_pos_iff.mpr EC;have ef:fC (Eb++[st])=fC Eb++[.lst (st.map stN)]:=by simp[fC]
    have hb:Run (execs Γ wO) (S (DO.map (·.1)) vs Eb R o6 o7 o8 o9) .nx (S (DO.map (·.1)++st.map (·.1)) DI (Eb++[st]) R' (some (.loc,.lst (st.map stN))) Gv Gw Fb):=by
     refine pre (eC LW (λ_=>?_) λh=>by cases h);show Run _ _ _ [some (.loc,.tup (rows.map B')),some (.own,.Dy ks (ks.map (b9 (Ea rows rows.length)))),some (.own,.lst (bx rows λp=>(cnt rows (DO.map (·.1)++st.map (·.1)) p:Int))),some (.own,.Dy (DO.map (·.1)++st.map (·.1)) DI),some (.own,.lst (fC (Eb++[st]))),some (.own,.lst (d9 R')),some (.loc,.lst (st.map stN)),Gv,Gw,Fb];rw[ef];exact fK (k:=.own) (k':=.own) (r:=(.bor 6,.lst (st.map stN))) (u:=.lst (st.map stN)) rfl (aH rfl) (zj rfl) rfl rfl (by unfold fC;rw[List.length_map];omega) aD
    obtain⟨Jd,Je,st2,z1,z2,z3,z4,z5⟩:=iz hO hr hN F5 f (DO++st) (Eb++[st]) R' DI (some (.loc,.lst (st.map stN))) Gv Gw Fb x' (by rw[List.flatten_append,hf];simp) (by rw[List.length_append,List.length_append,List.length_singleton];omega) (by rw[List.length_append];split<;>omega);refine⟨Jd,Je,st2,z1,z2,z3,z4,tT tc hb ?_⟩;rw[em]at z5;exact z5
def zl(Γ:Tab)(rows:List Row):Prop:=∃ks:List Str,(∀w,w∉ks->Ea rows rows.length w=[])/\Γ "places_that_tell" [.tup (rows.map B')]=some (.ok (.own,.Dy ks (ks.map (b9 (Ea rows rows.length)))))
theorem fD(hO:Once rows)(hr:rows.length<=100)(hP:zl Γ rows)(hN:wQ Γ rows):∃(DO:List (Str×Nat)) (Eb:List (List (Str×Nat))),LI rows DO []/\Eb.flatten=DO/\Eb.length<=100/\bP Γ bN [.tup (rows.map B')]=some (.ok (.own,.lst (fC Eb))):=by
 have hsz:(20000:Nat)<=sizeLine:=by decide
 obtain⟨ks,F5,Eg⟩:=hP;have DJ:TM.start [.tup (rows.map B')] 10=[some (.loc,.tup (rows.map B')),none,none,none,none,none,none,none,none,none]:=by simp[TM.start,D9,bj]
 let i0:Option (Kd×U):=some (.loc,.tup (rows.map B'));let i1:Option (Kd×U):=some (.own,.Dy ks (ks.map (b9 (Ea rows rows.length))));let i2:Option (Kd×U):=some (.own,.lst (bx rows λp=>(cnt rows [] p:Int)));have g2:Run (ev Γ (.comp 1 false .seq [.var 0] [] (.bi .len [.idx (.var 0) (.cst (.int 1))]))) [i0,i1,none,none,none,none,none,none,none,none] (.own,.lst (bx rows λp=>(cnt rows [] p:Int))) [i0,i1,none,none,none,none,none,none,none,none]:=by
  have hx:=fY (cond:=aO Γ []) (elt:=ev Γ (.bi .len [.idx (.var 0) (.cst (.int 1))])) (src:=[(.loc,.tup (rows.map B'))]) (st:=[i0,i1,none,none,none,none,none,none,none,none]) trivial .loc (.inl rfl) B' (λr=>.int (r.2.length:Nat)) .loc (λ_=>gP) rows [] (by simp;omega)
   (λy _=>⟨fA (ag (bM (x:=(.loc,B' y)) (af rfl) aU trivial rfl) ak) trivial (by rw[nj,List.length_map]),aR⟩)
  rw[List.nil_append]at hx;have e:(rows.map B').map (λu=>(kE .loc,u))=rows.map λr=>(Kd.loc,B' r):=by rw[List.map_map];rfl
  have e2:(rows.map λr=>U.int (r.2.length:Nat))=bx rows λp=>(cnt rows [] p:Int):=by
   unfold bx;apply List.ext_getElem
   ·simp
   ·intro i h1 h2;have hi:i<rows.length:=by simpa using h1
    have ht:told rows i=rows[i].2:=ji (by simp[hi]);have hc:cnt rows [] i=rows[i].2.length:=by unfold cnt qH;rw[ht];simp
    simp[hc]
  rw[e2]at hx;exact b7 (rs:=[(.loc,.tup (rows.map B'))]) (ag (af rfl) ak) trivial (by show some _=_;rw[e]) hx
 let R0:=(List.range rows.length).filter λp=>decide (cnt rows [] p=0);let Gi:au:=[i0,i1,i2,some (.own,.Dy [] []),some (.own,.lst []),none,none,none,none,none]
 have g5:Run (ev Γ (.comp 2 true .IK [.var 2] [.cmp .eq (.var 1) (.cst (.int 0))] (.var 0))) Gi (.own,.lst (d9 R0)) Gi:=by
  have hx:=ix (st:=Gi) (cond:=aO Γ [.cmp .eq (.var 1) (.cst (.int 0))]) (elt:=ev Γ (.var 0)) (src:=[(.bor 2,.lst (bx rows λp=>(cnt rows [] p:Int)))]) ⟨⟨.own,rfl,rfl⟩,trivial⟩ (λp:Nat=>U.int (p:Nat)) (λp:Nat=>U.int (cnt rows [] p:Int)) (λp:Nat=>U.int (p:Nat)) (λp=>decide (cnt rows [] p=0)) (List.range rows.length) [] (by simp;omega)
   (λy _=>⟨dm (cc (af rfl) aU trivial (iq (by rw[Bool.eq_iff_iff];simp))),af rfl⟩)
  rw[List.nil_append]at hx;have e:((bx rows λp=>(cnt rows [] p:Int)).zipIdx.map λp=>(kE (.bor 2),U.tup [.int p.2,p.1]))=(List.range rows.length).map λp:Nat=>(Kd.loc,U.tup [.int (p:Nat),.int (cnt rows [] p:Int)]):=by
   unfold bx;apply List.ext_getElem
   ·simp
   ·intro i h1 h2;simp[kE]
  exact b7 (rs:=[(.bor 2,.lst (bx rows λp=>(cnt rows [] p:Int)))]) (ag (aH rfl) ak) ⟨⟨.own,rfl,rfl⟩,trivial⟩ (by show some _=_;rw[e]) hx
 have x0:LI rows [] R0:=⟨trivial,λt ht=>by
  obtain⟨a,b⟩:=List.mem_filter.mp ht;exact⟨List.mem_range.mp a,by simpa using b⟩,λt r h1 h2=>.inl (List.mem_filter.mpr ⟨List.mem_range.mpr (List.getElem?_eq_some_iff.mp h1).1,by simpa using h2⟩)⟩
 obtain⟨DO,Eb,st',z1,z2,z3,z4,z5⟩:=iz hO hr hN F5 fuel [] [] R0 [] none none none none x0 rfl (Nat.le_refl _) (by unfold fuel;split<;>simp<;>omega);refine⟨DO,Eb,z1,z2,z3,?_⟩;exact aP rfl (.inl rfl) DJ (aB (r:=(.own,.Dy ks (ks.map (b9 (Ea rows rows.length))))) (bY (ag (af rfl) ak) trivial Eg) bo (aB g2 bo (aB (r:=(.own,.Dy [] [])) nh bo (aB (r:=(.own,.lst [])) (cv ak trivial aS (Nat.zero_le _)) bo (aB g5 bo (wD z5 (cT (aH z4) (lQ z4))))))))
theorem tW(hs:Γ "steps_in_rounds" [.tup (rows.map B')]=some (.ok (.own,.lst (fC Eb))))(hf:Eb.flatten=DO)(hl:DO.length<=100):bP Γ gX [.tup (rows.map B')]=some (.ok (.own,.lst (DO.map stN))):=by
 have hsz:(20000:Nat)<=sizeLine:=by decide
 have DJ:TM.start [.tup (rows.map B')] 3=[some (.loc,.tup (rows.map B')),none,none]:=by simp[TM.start,D9,bj]
 let S:=λ(l:List (Str×Nat)) (o2:Option (Kd×U))=>([some (.loc,.tup (rows.map B')),some (.own,.lst (l.map stN)),o2]:au)
 obtain⟨st',DT,DM,o2,e⟩:=bL (t:=false) (is:=[2]) (body:=execs Γ [.ext 1 (.var 2)]) (rs:=[(.own,.lst (fC Eb))]) (λl:List (Str×Nat)=>(Kd.loc,U.lst (l.map stN)))
  (λd r st=>d++r=Eb/\∃o2:Option (Kd×U),st=S d.flatten o2) (λ_ _ _ _=>trivial) (λd y r st DP=>by
   obtain⟨DM,o2,e⟩:=DP;subst e;have hb:d.flatten.length+y.length<=100:=by
    have:=congrArg (λl:List (List (Str×Nat))=>l.flatten.length) DM;simp only[List.flatten_append,List.flatten_cons,List.length_append,hf]at this;omega
   refine⟨S d.flatten (some (.loc,.lst (y.map stN))),S (d++[y]).flatten (some (.loc,.lst (y.map stN))),bZ aV,?_,by rw[<-DM];simp,_,rfl⟩;have em:(d++[y]).flatten.map stN=d.flatten.map stN++y.map stN:=by simp
   show Run _ _ _ [some (.loc,.tup (rows.map B')),some (.own,.lst ((d++[y]).flatten.map stN)),some (.loc,.lst (y.map stN))];rw[em];exact pf (k:=.own) (k':=.own) rfl (af rfl) rfl rfl (nB (by rw[List.length_map,List.length_map];omega) rfl) aD) Eb [] (S [] none) ⟨rfl,none,rfl⟩
 subst e;have e:(fC Eb).map (λu=>(kE .own,u))=Eb.map λl=>(Kd.loc,U.lst (l.map stN)):=by unfold fC;rw[List.map_map];rfl
 have h0:=aP (Γ:=Γ) (fn:=gX) rfl (.inl rfl) DJ (aB (r:=(.own,.lst [])) (cv ak trivial aS (Nat.zero_le _)) bo (cf (rs:=[(.own,.lst (fC Eb))]) (st1:=S [] none) (ag (bY (ag (af rfl) ak) trivial hs) ak) trivial rfl rfl (by rw[e];exact DT) (cT (aH rfl) (lQ rfl))));rw[List.nil_append,hf]at h0;exact h0
end
section
variable{Γ:Tab}{rows:List Row}{names:List Str}
noncomputable def Fc(Fs:List (List Str)):List U:=Fs.map λF=>U.lst (F.map .str)
noncomputable def CL:List TM.S:=[.ite (.and [.cmp .DA (.var 4) (.var 1),.bi .all [.comp 1 false .seq [.var 6] [] (.cmp .isin (.var 0) (.var 2))]]) [.app 5 (.var 4)] []]
noncomputable def zm:List TM.S:=[.app 2 (.var 3),.DS false [4] .seq [.var 3] [.put 1 (.var 4) (.cst (.bl true))],.set 5 (.lst []),.DS true [4,6] .seq [.var 0] CL,.set 3 (.F_ .sset [.var 5])]
theorem tX(h8:∀r∈rows,r.2.length<=8)(hr:rows.length<=100)(Fi:∀r∈rows,r.1∈names)(Hs:names.length<64)(x:RO rows K0 F)(Tv:Fs.length<200)(vs:List U)(o4 o5 o6:Option (Kd×U)):
  ∃(F':List Str) (DI:List U) (KY Fj N0:Option (Kd×U)),RO rows (K0++F) F' /\
   Run (execs Γ zm) [some (.loc,.tup (rows.map B')),some (.own,.Dy K0 vs),some (.own,.lst (Fc Fs)),some (.own,.lst (F.map .str)),o4,o5,o6] .nx
    [some (.loc,.tup (rows.map B')),some (.own,.Dy (K0++F) DI),some (.own,.lst (Fc (Fs++[F]))),some (.own,.lst (F'.map .str)),KY,Fj,N0]:=by
 have hsz:(20000:Nat)<=sizeLine:=by decide
 have N1:=lV x.kf.1 x.kf.2;rw[List.length_map,List.length_append]at N1;let S:=λ(K:List Str) (vs:List U) (o4 o5 o6:Option (Kd×U))=>([some (.loc,.tup (rows.map B')),some (.own,.Dy K vs),some (.own,.lst (Fc (Fs++[F]))),some (.loc,.lst (F.map .str)),o4,o5,o6]:au)
 obtain⟨st1,E2,_,JE,q4,e⟩:=bL (t:=false) (is:=[4]) (body:=execs Γ [.put 1 (.var 4) (.cst (.bl true))]) (rs:=[(.loc,.lst (F.map .str))]) (λw:Str=>(Kd.loc,U.str w))
  (λd r st=>d++r=F/\∃(vs:List U) (o4:Option (Kd×U)),st=S (K0++d) vs o4 o5 o6) (λ_ _ _ _=>trivial) (λd w r st DP=>by
   obtain⟨DM,vs,o4,e⟩:=DP;subst e;have Fx:d.length<F.length:=by have:=congrArg List.length DM;simp at this;omega
   have hw:w∉K0++d:=λz=>by
    have hn:=x.kf.1;rw[<-DM,<-List.append_assoc,List.nodup_append]at hn;exact hn.2.2 w z w (by simp) rfl
   refine⟨S (K0++d) vs (some (.loc,.str w)) o5 o6,S (K0++d++[w]) (vs++[.bl true]) (some (.loc,.str w)) o5 o6,bZ aV,?_,by rw[<-DM];simp,vs++[.bl true],_,by rw[List.append_assoc]⟩;exact r_ (k:=.own) (rv:=(.loc,.bl true)) (rk:=(.loc,.str w)) aU rfl (af rfl) (a9 aR (a9 aR aS)) rfl rfl (nK (by rw[List.length_append];omega) hw) aD) F [] (S K0 vs o4 o5 o6) ⟨rfl,vs,o4,by rw[List.append_nil]⟩
 subst e;rw[List.nil_append]at E2;let K1:=K0++F;let S2:=λ(acc:List Str) (o4 o6:Option (Kd×U))=>S K1 JE o4 (some (.own,.lst (acc.map .str))) o6;obtain⟨st2,Gg,_,acc,SN,q6,e,Ey,N2⟩:=bL (t:=true) (is:=[4,6]) (body:=execs Γ CL) (rs:=[(.loc,.tup (rows.map B'))]) (λr:Row=>(Kd.loc,B' r))
  (λd r st=>d++r=rows/\∃(acc:List Str) (o4 o6:Option (Kd×U)),st=S2 acc o4 o6/\(∀w,w∈acc↔∃r∈d,r.1=w/\r.1∉K1/\∀y∈r.2,y∈K1)/\acc.length<=d.length) (λ_ _ _ _=>trivial) (λd row r st DP=>by
   obtain⟨DM,acc,o4,o6,e,Ey,N2⟩:=DP;subst e;have Fx:d.length<100:=by have:=congrArg List.length DM;simp at this;omega
   have Ei:row∈rows:=by rw[<-DM];simp
   have PN:=h8 row Ei;let i4:Option (Kd×U):=some (.loc,.str row.1);let i6:Option (Kd×U):=some (.loc,.tup (row.2.map .str));have tc:Run (DU Γ (.and [.cmp .DA (.var 4) (.var 1),.bi .all [.comp 1 false .seq [.var 6] [] (.cmp .isin (.var 0) (.var 2))]])) (S2 acc i4 i6) (!decide (row.1∈K1)&&row.2.all λy=>decide (y∈K1)) (S2 acc i4 i6) :=
    oW (wu (cc (af rfl) (aH rfl) ⟨⟨.own,rfl,rfl⟩,trivial⟩ iw) λ_=>dm (wx (tU (j:=1) (k:=.loc) (w:=.Dy K1 JE) (.inl rfl) (by omega) (af rfl) (.inr rfl) λ_=>Bh)))
   have FN:Run (cV true [4,6] (.loc,B' row)) (S2 acc o4 o6) () (S2 acc i4 i6):=lW (.inl rfl);cases hp:(!decide (row.1∈K1)&&row.2.all λy=>decide (y∈K1)) with
   |false =>
    rw[hp]at tc;refine⟨_,_,FN,eC tc (λh=>by cases h) λ_=>aD,by rw[<-DM];simp,acc,_,_,rfl,λw=>?_,by simp;omega⟩;rw[Ey w];constructor
    ·rintro⟨r',a,b⟩;exact⟨r',by simp[a],b⟩
    ·rintro⟨r',a,b,c,dd⟩;rcases List.mem_append.mp a with a|a
     ·exact⟨r',a,b,c,dd⟩
     ·have:r'=row:=by simpa using a
      subst this;have:(!decide (r'.1∈K1)&&r'.2.all λy=>decide (y∈K1))=true:=by
       rw[decide_eq_false c];simpa using dd
      rw[this]at hp;cases hp
   |true =>
    rw[hp]at tc;have N3:=hp;simp only[Bool.and_eq_true,Bool.not_eq_true',decide_eq_false_iff_not,List.all_eq_true,decide_eq_true_eq]at N3;have em:(acc++[row.1]).map U.str=acc.map U.str++[.str row.1]:=by simp
    refine⟨_,S2 (acc++[row.1]) i4 i6,FN,eC tc (λ_=>?_) (λh=>by cases h),by rw[<-DM];simp,acc++[row.1],_,_,rfl,λw=>?_,by simp;omega⟩
    ·show Run _ _ _ [some (.loc,.tup (rows.map B')),some (.own,.Dy K1 JE),some (.own,.lst (Fc (Fs++[F]))),some (.loc,.lst (F.map .str)),i4,some (.own,.lst ((acc++[row.1]).map .str)),i6];rw[em];exact fK (k:=.own) (k':=.own) (r:=(.loc,.str row.1)) rfl (af rfl) aR rfl rfl (by rw[List.length_map];omega) aD
    ·rw[List.mem_append,Ey w];constructor
     ·rintro(⟨r',a,b⟩|a)
      ·exact⟨r',by simp[a],b⟩
      ·have:w=row.1:=by simpa using a
       subst this;exact⟨row,by simp,rfl,N3.1,N3.2⟩
     ·rintro⟨r',a,b,c⟩;rcases List.mem_append.mp a with a|a
      ·exact .inl ⟨r',a,b,c⟩
      ·have:r'=row:=by simpa using a
       subst this;exact .inr (by simp[b])) rows [] (S2 [] q4 o6) ⟨rfl,[],q4,o6,rfl,by simp,by simp⟩
 subst e;rw[List.nil_append]at Ey N2;have EN:∀w∈acc,w∈names:=λw hw=>by
  obtain⟨r,a,b,_⟩:=(Ey w).mp hw;exact b▸Fi r a
 have Gh:=fb (k:=.bor 5) (acc:=acc) (by omega) (by have:=kn EN;omega);refine⟨aN (av acc),JE,SN,some (.own,.lst (acc.map .str)),q6,x.step (km acc) λw=>by rw[nF,Ey w],?_⟩;have e1:(F.map U.str).map (λu=>(kE .loc,u))=F.map λw=>(Kd.loc,U.str w):=by rw[List.map_map];rfl
 have e2:(rows.map B').map (λu=>(kE .loc,u))=rows.map λr=>(Kd.loc,B' r):=by rw[List.map_map];rfl
 have ef:Fc (Fs++[F])=Fc Fs++[.lst (F.map .str)]:=by simp[Fc]
 refine fK (k:=.own) (k':=.own) (r:=(.bor 3,.lst (F.map .str))) (u:=.lst (F.map .str)) rfl (aH rfl) (zj rfl) rfl rfl (by unfold Fc;rw[List.length_map];omega) ?_;rw[<-ef];refine cf (rs:=[(.loc,.lst (F.map .str))]) (ag (af rfl) ak) trivial (by show some (List.map (λu=>(kE .loc,u)) _)=_;rw[e1]) rfl E2 ?_;refine aB (r:=(.own,.lst [])) (cv ak trivial aS (Nat.zero_le _)) bo ?_;refine cf (rs:=[(.loc,.tup (rows.map B'))]) (ag (af rfl) ak) trivial (by show some (List.map (λu=>(kE .loc,u)) _)=_;rw[e2]) rfl Gg ?_;exact aB (oU (ag (aH rfl) ak) ⟨⟨.own,rfl,rfl⟩,trivial⟩ Gh) bo aD
theorem kI(h8:∀r∈rows,r.2.length<=8)(hr:rows.length<=100)(Fi:∀r∈rows,r.1∈names)(Hs:names.length<64):∀(f:Nat) (K0 F:List Str) (Fs:List (List Str)) (vs:List U) (o4 o5 o6:Option (Kd×U)),RO rows K0 F->Fs.flatten=K0->Fs.length<=K0.length->rows.length - K0.length+1<=f ->
  ∃(K1:List Str) (LX:List (List Str)) (st':au),RO rows K1 []/\LX.flatten=K1/\st'[2]?=some (some (.own,.lst (Fc LX))) /\
   Run (fz (DU Γ (.cmp .gt (.bi .len [.var 3]) (.cst (.int 0)))) (execs Γ zm) f) [some (.loc,.tup (rows.map B')),some (.own,.Dy K0 vs),some (.own,.lst (Fc Fs)),some (.own,.lst (F.map .str)),o4,o5,o6] .nx st'
 |0,_,_,_,_,_,_,_,_,_,_,h=>by omega
 |f+1,K0,F,Fs,vs,o4,o5,o6,x,hf,Jo,h=>by
  have N1:=lV x.kf.1 x.kf.2;rw[List.length_map,List.length_append]at N1;have tc:Run (DU Γ (.cmp .gt (.bi .len [.var 3]) (.cst (.int 0)))) [some (.loc,.tup (rows.map B')),some (.own,.Dy K0 vs),some (.own,.lst (Fc Fs)),some (.own,.lst (F.map .str)),o4,o5,o6] (decide (0<F.length)) [some (.loc,.tup (rows.map B')),some (.own,.Dy K0 vs),some (.own,.lst (Fc Fs)),some (.own,.lst (F.map .str)),o4,o5,o6] :=
   cc (fA (ag (aH rfl) ak) ⟨⟨.own,rfl,rfl⟩,trivial⟩ jg) aU trivial (lR (by rw[List.length_map,Bool.eq_iff_iff];simp))
  by_cases h0:0<F.length
  ·rw[decide_eq_true h0]at tc;obtain⟨F',DI,KY,Fj,N0,y,hb⟩:=tX (Γ:=Γ) h8 hr Fi Hs x (Fs:=Fs) (by omega) vs o4 o5 o6;obtain⟨K1,LX,st',z1,z2,z3,z4⟩:=kI h8 hr Fi Hs f (K0++F) F' (Fs++[F]) DI KY Fj N0 y (by rw[List.flatten_append,hf];simp) (by rw[List.length_append,List.length_append,List.length_singleton];omega) (by rw[List.length_append];omega);exact⟨K1,LX,st',z1,z2,z3,tT tc hb z4⟩
  ·rw[decide_eq_false h0]at tc;have e:F=[]:=List.eq_nil_of_length_eq_zero (by omega);subst e;exact⟨K0,Fs,_,x,hf,rfl,sf tc⟩
theorem qK(h8:∀r∈rows,r.2.length<=8)(hr:rows.length<=100)(Fi:∀r∈rows,r.1∈names)(Hs:names.length<64):∃(K1:List Str) (Fs:List (List Str)),RO rows K1 []/\Fs.flatten=K1/\bP Γ c7 [.tup (rows.map B')]=some (.ok (.own,.lst (Fc Fs))):=by
 have hsz:(20000:Nat)<=sizeLine:=by decide
 have DJ:TM.start [.tup (rows.map B')] 7=[some (.loc,.tup (rows.map B')),none,none,none,none,none,none]:=by simp[TM.start,D9,bj]
 let S0:au:=[some (.loc,.tup (rows.map B')),some (.own,.Dy [] []),some (.own,.lst []),none,none,none,none]
 let acc:=(rows.filter λr=>decide (r.2=[])).map (·.1);have Ey:∀w,w∈acc↔∃r∈rows,r.1=w/\r.2=[]:=λw=>by
  constructor
  ·intro h;obtain⟨r,a,b⟩:=List.mem_map.mp h;obtain⟨c,d⟩:=List.mem_filter.mp a;exact⟨r,c,b,by simpa using d⟩
  ·rintro⟨r,a,b,c⟩;exact List.mem_map.mpr ⟨r,List.mem_filter.mpr ⟨a,by simpa using c⟩,b⟩
 have EN:∀w∈acc,w∈names:=λw hw=>by
  obtain⟨r,a,b,_⟩:=(Ey w).mp hw;exact b▸Fi r a
 have N2:acc.length<=rows.length:=by
  show(List.map _ _).length<=_;rw[List.length_map];exact List.length_filter_le _ _
 have gc:Run (ev Γ (.comp 2 true .seq [.var 0] [.cmp .eq (.var 1) (.tup [])] (.var 0))) S0 (.own,.lst (acc.map .str)) S0:=by
  have hx:=ix (st:=S0) (cond:=aO Γ [.cmp .eq (.var 1) (.tup [])]) (elt:=ev Γ (.var 0)) (src:=[(.loc,.tup (rows.map B'))]) trivial (λr:Row=>U.str r.1) (λr:Row=>U.tup (r.2.map .str)) (λr:Row=>U.str r.1) (λr=>decide (r.2=[])) rows [] (by simp;omega)
   (λy _=>⟨dm (cc (af rfl) (j8 ak trivial aS (Nat.zero_le _)) trivial yK),af rfl⟩)
  rw[List.nil_append]at hx;have e:(rows.map B').map (λu=>(kE .loc,u))=rows.map λr=>(Kd.loc,U.tup [.str r.1,.tup (r.2.map .str)]):=by rw[List.map_map];rfl
  have e2:((rows.filter λr=>decide (r.2=[])).map λr=>U.str r.1)=acc.map U.str:=by simp[acc]
  rw[e2]at hx;exact b7 (rs:=[(.loc,.tup (rows.map B'))]) (ag (af rfl) ak) trivial (by show some _=_;rw[e]) hx
 have Gh:=fb (k:=.own) (acc:=acc) (by omega) (by have:=kn EN;omega);have x0:RO rows [] (aN (av acc)):=RO.start (km acc) λw=>by rw[nF,Ey w]
 obtain⟨K1,Fs,st',z1,z2,z3,z4⟩:=kI (Γ:=Γ) h8 hr Fi Hs fuel [] _ [] [] none none none x0 rfl (Nat.le_refl _) (by unfold fuel;simp;omega);refine⟨K1,Fs,z1,z2,?_⟩;exact aP rfl (.inl rfl) DJ (aB (r:=(.own,.Dy [] [])) nh bo (aB (r:=(.own,.lst [])) (cv ak trivial aS (Nat.zero_le _)) bo (aB (oU (ag gc ak) trivial Gh) bo (wD z4 (cT (aH z3) (lQ z3))))))
end
end K
namespace TM
open PySem L2 D8
theorem yO(bs:List Bool):Fq .any [(k,.lst (bs.map .bl))]=some (.loc,.bl (bs.any id)):=by
 show(eS (bs.map U.bl)).map _=_;have:∀bs:List Bool,eS (bs.map U.bl)=some bs:=λbs=>by
  induction bs with
  |nil=>rfl
  |cons b bs ih=>show(eS (bs.map U.bl)).map _=_;rw[ih];rfl
 rw[this];rfl
section
theorem CM(h:st[j]?=some (some (.own,u))):Run (d0 i (.bor j,u0)) st () ((st.set j (some (.loc,u))).set i (some (.loc,u))):=by
 show(match st[j]? with|some (some (.own,u))=>some (Ex.ok (),(st.set j (some (.loc,u))).set i (some (.loc,u)))|_=>none)=_;rw[h]
theorem pD(h:st[i]?=some (some (.loc,.bl b))):Run (DU Γ (.var i)) st b st:=aa (fJ h) (b_ rfl)
theorem tY{told known:List Str}(hl:told.length<=1000)(hs:Run (ev Γ src) st (.loc,.tup (told.map .str)) st)(hj:st[j]?=some (some (.loc,w))\/st[j]?=some (some (.own,w)))(hw:∀x:Str,bw .isin (.str x) w=some (decide (x∈known))):
  Run (ev Γ (.bi .any [.comp 1 false .seq [src] [] (.cmp .isin (.var 0) (.var (j+1)))])) st (.loc,.bl (told.any λx=>decide (x∈known))) st:=by
 have hsz:(1000:Nat)<=sizeLine:=by decide
 have hx:=fY (cond:=aO Γ []) (elt:=ev Γ (.cmp .isin (.var 0) (.var (j+1)))) (src:=[(.loc,.tup (told.map .str))]) (st:=st) trivial .loc (.inl rfl) U.str (λx=>.bl (decide (x∈known))) .loc (λ_=>gP) told [] (by simp;omega)
  (λy _=>⟨by
   rcases hj with hj|hj
   ·exact gO (af rfl) (af (by simpa using hj)) trivial (hw y)
   ·exact gO (af rfl) (aH (by simpa using hj)) ⟨⟨.own,rfl,by simpa using hj⟩,trivial⟩ (hw y),aR⟩)
 rw[List.nil_append]at hx;have e:(told.map U.str).map (λu=>(kE .loc,u))=told.map λr=>(Kd.loc,U.str r):=by rw[List.map_map];rfl
 have e2:(told.map λx=>U.bl (decide (x∈known)))=(told.map λx=>decide (x∈known)).map U.bl:=by rw[List.map_map];rfl
 rw[e2]at hx;have e3:(told.any λx=>decide (x∈known))=((told.map λx=>decide (x∈known)).any id):=by rw[List.any_map];rfl
 rw[e3];exact fA (ag (b7 (rs:=[(.loc,.tup (told.map .str))]) (ag hs ak) trivial (by show some _=_;rw[e]) hx) ak) trivial (yO _)
end
noncomputable def bV(rows:List Row)(H:List Str)(w:Str):Bool:=(rows.filter λr=>decide (r.1=w)).all λr=>r.2.any λx=>decide (x∈H)
noncomputable def DJ(rows:List Row)(H:List Str):List Str:=H.filter (bV rows H)
end TM
namespace K
open PySem L2 TM D8
section
noncomputable def gZ:E:=.bi .all [.comp 1 false .seq [.var 0] [.cmp .eq (.idx (.var 0) (.cst (.int 0))) (.var 6)] (.bi .any [.comp 1 false .seq [.idx (.var 0) (.cst (.int 1))] [] (.cmp .isin (.var 0) (.var 4))])]
noncomputable def pE:List TM.S:=[.set 4 (.lst []),.DS false [5] .seq [.var 2] [.ite gZ [.app 4 (.var 5)] []],.set 3 (.cmp .lt (.bi .len [.var 4]) (.bi .len [.var 2])),.set 2 (.var 4)]
abbrev hS(bk pu:Option (Kd×U))(k2:Kd)(H:List Str)(g:Bool)(o4 o5:Option (Kd×U)):au:=[bk,pu,some (k2,.lst (H.map .str)),some (.loc,.bl g),o4,o5]
noncomputable def H9(k2:Kd):Kd:=if k2.root=true then .bor 2 else k2
theorem tZ{V H:List Str}(h:bV rows V w=true)(s:∀x∈V,x∈H):bV rows H w=true:=by
 unfold bV at h ⊢;simp only[List.all_eq_true,List.any_eq_true,decide_eq_true_eq]at h ⊢;intro r hr;obtain⟨x,h1,h2⟩:=h r hr;exact⟨x,h1,s x h2⟩
theorem pF{V H:List Str}(s:∀x∈V,x∈H)(h:∀w∈V,bV rows V w=true):∀x∈V,x∈DJ rows H:=λx hx=>List.mem_filter.mpr ⟨s x hx,tZ (h x hx) s⟩
theorem kJ(hr:rows.length<=100)(h8:∀r∈rows,r.2.length<=8)(hk:k2=.own\/k2=.loc)(hH:H.length<=100):
  ∃Fj,Run (execs Γ pE) (hS (some (.loc,.tup (rows.map B'))) pu k2 H g o4 o5) .nx (hS (some (.loc,.tup (rows.map B'))) pu .loc (DJ rows H) (decide ((DJ rows H).length<H.length)) (some (.loc,.lst ((DJ rows H).map .str))) Fj):=by
 have hsz:(2000:Nat)<=sizeLine:=by decide
 let bk:Option (Kd×U):=some (.loc,.tup (rows.map B'));let S:=λ(L:List Str) (o5:Option (Kd×U))=>hS bk pu k2 H g (some (.own,.lst (L.map .str))) o5;have v2:∀L o5,Run (ev Γ (.var 2)) (S L o5) (H9 k2,.lst (H.map .str)) (S L o5):=λL o5=>by
  rcases hk with rfl|rfl
  ·exact aH rfl
  ·exact af rfl
 have s2:∀L o5,bb [(H9 k2,.lst (H.map .str))] (S L o5):=λL o5=>by
  rcases hk with rfl|rfl
  ·exact⟨⟨.own,rfl,rfl⟩,trivial⟩
  ·trivial
 have ek:kE (H9 k2)=.loc:=by rcases hk with rfl|rfl<;>rfl
 have tc:∀(L:List Str) (w:Str),Run (DU Γ gZ) (S L (some (.loc,.str w))) (bV rows H w) (S L (some (.loc,.str w))):=λL w=>by
  have hx:=ir (cond:=aO Γ [.cmp .eq (.idx (.var 0) (.cst (.int 0))) (.var 6)]) (elt:=ev Γ (.bi .any [.comp 1 false .seq [.idx (.var 0) (.cst (.int 1))] [] (.cmp .isin (.var 0) (.var (3+1)))])) (src:=[(.loc,.tup (rows.map B'))]) (st:=S L (some (.loc,.str w))) trivial .loc (.inl rfl) B' (λr=>.bl (r.2.any λx=>decide (x∈H))) (λr=>decide (r.1=w)) .loc rows [] (by simp;omega)
   (λr EB=>⟨dm (cc (bM (x:=(.loc,B' r)) (af rfl) aU trivial rfl) (af rfl) trivial se),λ_=>⟨tY (by have:=h8 r EB;omega) (bM (x:=(.loc,B' r)) (af rfl) aU trivial rfl) (by
    rcases hk with rfl|rfl
    ·exact .inr rfl
    ·exact .inl rfl) λx=>CJ,aR⟩⟩)
  rw[List.nil_append]at hx;have e2:((rows.filter λr=>decide (r.1=w)).map λr=>U.bl (r.2.any λx=>decide (x∈H)))=((rows.filter λr=>decide (r.1=w)).map λr=>r.2.any λx=>decide (x∈H)).map U.bl:=by rw[List.map_map];rfl
  rw[e2]at hx;have hc:=b7 (Γ:=Γ) (k:=1) (t:=false) (ik:=.seq) (src:=[.var 0]) (st:=S L (some (.loc,.str w))) (st1:=S L (some (.loc,.str w))) (rs:=[(.loc,.tup (rows.map B'))]) (ag (af rfl) ak) trivial (by show some _=_;rw[List.map_map];rfl) hx;have ra:=fA (ag hc ak) trivial (sg _);have e3:(((rows.filter λr=>decide (r.1=w)).map λr=>r.2.any λx=>decide (x∈H)).all id)=bV rows H w:=by rw[List.all_map];rfl
  rw[e3]at ra;exact wx ra
 obtain⟨st',DT,_,Fj,e⟩:=bL (t:=false) (is:=[5]) (body:=execs Γ [.ite gZ [.app 4 (.var 5)] []]) (rs:=[(H9 k2,.lst (H.map .str))]) (λw:Str=>(Kd.loc,U.str w))
  (λd r st=>d++r=H/\∃o5,st=S (d.filter (bV rows H)) o5) (λd r st ⟨_,o5,e⟩=>by subst e;exact s2 _ _) (λd w r st DP=>by
   obtain⟨DM,o5,e⟩:=DP;subst e;have Fx:d.length<H.length:=by have:=congrArg List.length DM;simp at this;omega
   have Jo:=List.length_filter_le (bV rows H) d;refine⟨S (d.filter (bV rows H)) (some (.loc,.str w)),S ((d++[w]).filter (bV rows H)) (some (.loc,.str w)),bZ aV,eC (tc _ w) (λh=>?_) λh=>?_,by rw[<-DM];simp,some (.loc,.str w),rfl⟩
   ·have e1:((d++[w]).filter (bV rows H)).map U.str=(d.filter (bV rows H)).map U.str++[.str w]:=by rw[List.filter_append];simp[h]
    show Run _ _ _ (hS bk pu k2 H g (some (.own,.lst (((d++[w]).filter (bV rows H)).map .str))) (some (.loc,.str w)));rw[e1];exact fK (k:=.own) (k':=.own) (r:=(.loc,.str w)) (us:=(d.filter (bV rows H)).map U.str) rfl (af rfl) aR rfl rfl (by rw[List.length_map];omega) aD
   ·have e1:(d++[w]).filter (bV rows H)=d.filter (bV rows H):=by rw[List.filter_append];simp[h]
    rw[e1];exact aD) H [] (S [] o5) ⟨rfl,o5,rfl⟩
 subst e;rw[List.nil_append]at DT;have ei:Ft .seq [(H9 k2,.lst (H.map .str))]=some (H.map λw=>(Kd.loc,U.str w)):=by
  show some ((H.map U.str).map λu=>(kE (H9 k2),u))=_;rw[ek,List.map_map];rfl
 have ok:lG [(H9 k2,.lst (H.map .str))] [5] [.ite gZ [.app 4 (.var 5)] []]=true:=by rcases hk with rfl|rfl<;>rfl
 let L:=DJ rows H;have g3:Run (ev Γ (.cmp .lt (.bi .len [.var 4]) (.bi .len [.var 2]))) (S L Fj) (.loc,.bl (decide (L.length<H.length))) (S L Fj):=by
  refine gO (fA (ag (aH rfl) ak) ⟨⟨.own,rfl,rfl⟩,trivial⟩ jg) (fA (ag (v2 L Fj) ak) (s2 _ _) jg) trivial ?_;show some (decide (((L.map U.str).length:Int)<((H.map U.str).length:Nat)))=_;congr 1
  rw[Bool.eq_iff_iff];simp only[decide_eq_true_eq,List.length_map];omega
 exact⟨Fj,aB (r:=(.own,.lst [])) (cv ak trivial aS (Nat.zero_le _)) bo (cf (rs:=[(H9 k2,.lst (H.map .str))]) (ag (v2 [] o5) ak) (s2 [] o5) ei ok DT
  (aB g3 aV (aB (st1:=hS bk pu k2 H (decide (L.length<H.length)) (some (.own,.lst (L.map .str))) Fj) (aH rfl) (CM rfl) aD)))⟩
theorem qL(hr:rows.length<=100)(h8:∀r∈rows,r.2.length<=8):∀(m n:Nat) (H:List Str) (k2:Kd) (o4 o5:Option (Kd×U)),H.length<=m->H.length<=100->(k2=.own\/k2=.loc)->m+2<=n ->
  ∃F KY Fj,F.Sublist H/\DJ rows F=F/\(∀V:List Str,(∀w∈V,w∈H)->(∀w∈V,bV rows V w=true)->∀w∈V,w∈F)/\Run (fz (DU Γ (.var 3)) (execs Γ pE) n) (hS (some (.loc,.tup (rows.map B'))) pu k2 H true o4 o5) .nx (hS (some (.loc,.tup (rows.map B'))) pu .loc F false KY Fj):=by
 intro m;induction m with
 |zero =>
  intro n H k2 o4 o5 hm h1 hk hn;obtain⟨n,rfl⟩:∃k,n=k+2:=⟨n - 2,by omega⟩
  have:H=[]:=List.length_eq_zero_iff.mp (by omega);subst this;obtain⟨Fj,hb⟩:=kJ (Γ:=Γ) hr h8 (pu:=pu) hk (H:=[]) (by simp) (g:=true) (o4:=o4) (o5:=o5);exact⟨[],_,Fj,List.Sublist.refl _,rfl,λV s _=>s,tT (pD rfl) hb (sf (pD rfl))⟩
 |succ m ih =>
  intro n H k2 o4 o5 hm h1 hk hn;obtain⟨n,rfl⟩:∃k,n=k+2:=⟨n - 2,by omega⟩
  obtain⟨Fj,hb⟩:=kJ (Γ:=Γ) hr h8 (pu:=pu) hk (H:=H) h1 (g:=true) (o4:=o4) (o5:=o5);have EO:(DJ rows H).Sublist H:=List.filter_sublist;have hle:=EO.length_le;by_cases DW:(DJ rows H).length<H.length
  ·rw[decide_eq_true DW]at hb;obtain⟨F,a,b,h2,h3,SO,h4⟩:=ih (n+1) (DJ rows H) .loc _ Fj (by omega) (by omega) (.inr rfl) (by omega);exact⟨F,a,b,h2.trans EO,h3,λV s h=>SO V (pF s h) h,tT (pD rfl) hb h4⟩
  ·rw[decide_eq_false DW]at hb;have he:DJ rows H=H:=EO.eq_of_length (by omega);exact⟨DJ rows H,_,Fj,EO,by rw[he,he],λV s h=>pF s h,tT (pD rfl) hb (sf (pD rfl))⟩
theorem wR(hr:rows.length<=100)(h8:∀r∈rows,r.2.length<=8)(hw:ws.length<=60):∃F:List Str,F.Sublist (aN (av ws))/\DJ rows F=F/\(∀V:List Str,(∀w∈V,w∈ws)->(∀w∈V,bV rows V w=true)->∀w∈V,w∈F)/\bP Γ d8 [.tup (rows.map B'),.lst (ws.map .str)]=some (.ok (.loc,.lst (F.map .str))):=by
 have hd:(av ws).length<=60:=Nat.le_trans (dY _) hw;have hH:(aN (av ws)).length<=60:=by rw[bS];exact hd
 obtain⟨F,o4,o5,h1,h2,hm,h3⟩:=qL (Γ:=Γ) hr h8 (pu:=some (.any,.lst (ws.map .str))) 60 fuel (aN (av ws)) .own none none hH (by omega) (.inl rfl) (by decide);have IB:TM.start [.tup (rows.map B'),.lst (ws.map .str)] 6=[some (.loc,.tup (rows.map B')),some (.any,.lst (ws.map .str)),none,none,none,none]:=by simp[TM.start,D9,bj]
 exact⟨F,h1,h2,λV s h=>hm V (λw hw=>(nF _ _).mpr (s w hw)) h,aP rfl (.inr rfl) IB (aB (oU (ag (aZ rfl) ak) trivial (fb (by omega) (by omega))) bo (aB aU aV (wD h3 (cT (af rfl) j9))))⟩
theorem qM(hr:rows.length<=100)(hR:∀r∈rows,e_ names r)(hn:names.length<64):bP Γ dA [.tup (rows.map B')]=some (.ok (.own,.lst ((aT rows).map .str))):=by
 have hsz:(4000:Nat)<=sizeLine:=by decide
 let R0:Option (Kd×U):=some (.loc,.tup (rows.map B'));have DJ:TM.start [.tup (rows.map B')] 3=[R0,none,none]:=by simp[TM.start,D9,bj,R0]
 let S:=λ(ws:List Str) (o2:Option (Kd×U))=>([R0,some (.own,.lst (ws.map .str)),o2]:au)
 let H:=rows.map (·.1);have hH:H.length<=100:=by show(rows.map (·.1)).length<=100;simpa using hr
 have h8:∀r∈rows,r.2.length<=8:=λr h=>(hR r h).G1;obtain⟨st',DT,_,o2,e⟩:=bL (t:=false) (is:=[2]) (body:=execs Γ [.ext 1 (.idx (.var 2) (.cst (.int 1)))]) (rs:=[(.loc,.tup (rows.map B'))]) (λr:Row=>(Kd.loc,B' r))
  (λd r st=>d++r=rows/\∃o2,st=S (H++(d.map (·.2)).flatten) o2) (λ_ _ _ _=>trivial) (λd y r st DP=>by
   obtain⟨DM,o2,e⟩:=DP;subst e;have hy:y∈rows:=by rw[<-DM];simp
   have Sv:=ph (rows:=d) (n:=8) λs hs=>h8 s (by rw[<-DM];simp[hs]);have Fx:d.length<=100:=by have:=congrArg List.length DM;simp at this;omega
   have Sw:=h8 y hy;refine⟨S (H++(d.map (·.2)).flatten) (some (.loc,B' y)),S (H++((d++[y]).map (·.2)).flatten) (some (.loc,B' y)),bZ aV,?_,by rw[<-DM];simp,some (.loc,B' y),rfl⟩;have e1:(H++((d++[y]).map (·.2)).flatten).map U.str=(H++(d.map (·.2)).flatten).map U.str++y.2.map U.str:=by simp
   show Run _ _ _ [R0,some (.own,.lst ((H++((d++[y]).map (·.2)).flatten).map .str)),some (.loc,B' y)];rw[e1];exact pf (k:=.own) (k':=.own) rfl (bM (x:=(.loc,B' y)) (af rfl) aU trivial rfl) rfl rfl (sd (by rw[List.length_map,List.length_map,List.length_append];omega) rfl) aD) rows [] (S H none) ⟨rfl,none,by simp⟩
 subst e;rw[List.nil_append]at DT;have hL:H++(rows.map (·.2)).flatten=iu rows:=rfl;rw[hL]at DT;have SQ:(iu rows).length<4000:=by
  have:=ph h8;show(H++(rows.map (·.2)).flatten).length<4000;rw[List.length_append];omega
 have GO:(av (iu rows)).length<64:=by have:=kn (nE hR);omega
 have eW:aN (av (iu rows))=aT rows:=pB λx=>by
  rw[f7];simp only[iu,List.mem_append,List.mem_map,List.mem_flatten];constructor
  ·rintro(⟨r,hr,rfl⟩|⟨l,⟨r,hr,rfl⟩,hx⟩)
   ·exact⟨r,hr,.inl rfl⟩
   ·exact⟨r,hr,.inr hx⟩
  ·rintro⟨r,hr,rfl|hx⟩
   ·exact .inl ⟨r,hr,rfl⟩
   ·exact .inr ⟨_,⟨r,hr,rfl⟩,hx⟩
 have e5:(rows.map B').map (λu=>(kE .loc,u))=rows.map λr=>(Kd.loc,B' r):=by rw[List.map_map];rfl
 have Gh:=fb (k:=.bor 1) SQ GO;rw[eW]at Gh;exact aP rfl (.inl rfl) DJ (aB (tP (by omega) rfl) bo (cf (rs:=[(.loc,.tup (rows.map B'))]) (ag (af rfl) ak) trivial rfl rfl (by rw[e5];exact DT) (cT (oU (ag (aH rfl) ak) ⟨⟨.own,rfl,rfl⟩,trivial⟩ Gh) iN)))
end
end K
namespace TM
open PySem L2 D8
section
theorem Bi(h0:st[i]?=some (some (.Dw,.Dy ks us)))(h1:Run (bq 2 true (pure true) (ev Γ e) [] (mP (ks,us)) []) (st.set i none) vs st1):Run (execs Γ (.Ga i e::ss)) st (.rt .own (.lst vs)) st1:=by
 refine v5 (aa (a:=(ks,us)) (st1:=st.set i none) ?_ (aa h1 rfl));show oE i st=_;unfold oE;rw[h0]
end
end TM
namespace K
open PySem L2 TM D8 Od
noncomputable def EV(rows:List Row)(K:List Str):List Str:=(aT rows).filter λx=>decide (x∉K)
theorem sk:x∈EV rows K↔x∈b8 rows/\x∉K:=by
 unfold EV;rw[List.mem_filter,kr];simp
theorem l9(rows:List Row)(K:List Str):(EV rows K).Nodup:=(gS rows).sublist List.filter_sublist
noncomputable def pick(Z:List Str)(l:List Str):Str:=((l.filter λx=>decide (x∈Z)).head?).getD ""
noncomputable def EI(Z:List Str)(d:List Row)(k:Str):List Str:=(d.filter λr=>decide (r.1=k)).map λr=>pick Z r.2
noncomputable def cC(Z:List Str)(d:List Row)(k:Str):U:=.lst ((EI Z d k).map .str)
noncomputable def cD(Z:List Str)(rows:List Row):List Row:=Z.map λk=>(k,EI Z rows k)
section
variable{Γ:Tab}{rows:List Row}{names:List Str}
theorem qN(h:ss.length<64):Fq .sorted [(k,.lst (ss.map .str))]=some (.own,.lst ((aN ss).map .str)):=by
 show(strsOf (ss.map .str)).bind _=_;rw[cO];show(if ss.length<64 then _ else _)=_;rw[if_pos h]
theorem qO{DO:List (Str×Nat)}(hl:DO.length<64)(ho:Γ "order" [.tup (rows.map B')]=some (.ok (.own,.lst (DO.map stN)))):bP Γ gY [.tup (rows.map B')]=some (.ok (.own,.lst ((aN (DO.map (·.1))).map .str))):=by
 have hsz:(20000:Nat)<=sizeLine:=by decide
 have DJ:TM.start [.tup (rows.map B')] 1=[some (.loc,.tup (rows.map B'))]:=by simp[TM.start,D9,bj]
 have hx:=ix (st:=[some (.loc,.tup (rows.map B'))]) (cond:=aO Γ []) (elt:=ev Γ (.var 0)) (src:=[(.own,.lst (DO.map stN))]) trivial (λs:Str×Nat=>U.str s.1) (λs=>U.int (s.2:Nat)) (λs=>U.str s.1) (λ_=>true) DO [] (by simp;omega) (λy _=>⟨gP,af rfl⟩);rw[List.nil_append,List.filter_eq_self.mpr (λ_ _=>rfl)]at hx;have e:(DO.map stN).map (λu=>(kE .own,u))=DO.map λs=>(Kd.loc,U.tup [.str s.1,.int (s.2:Nat)]):=by rw[List.map_map];rfl
 have e2:(DO.map λs=>U.str s.1)=(DO.map (·.1)).map U.str:=by rw[List.map_map];rfl
 rw[e2]at hx;exact aP rfl (.inl rfl) DJ (cT (fA (ag (b7 (rs:=[(.own,.lst (DO.map stN))]) (ag (bY (ag (af rfl) ak) trivial ho) ak) trivial (by show some (List.map (λu=>(kE .own,u)) _)=_;rw[e]) hx) ak) trivial (qN (by rw[List.length_map];exact hl))) iN)
theorem kK(hK:K.length<64)(Hd:(aT rows).length<64)(hw:Γ "words_of" [.tup (rows.map B')]=some (.ok (.own,.lst ((aT rows).map .str))))(hn:Γ "learnt" [.tup (rows.map B')]=some (.ok (.own,.lst ((aN K).map .str)))):
  bP Γ c6 [.tup (rows.map B')]=some (.ok (.own,.lst ((EV rows K).map .str))):=by
 have DJ:TM.start [.tup (rows.map B')] 1=[some (.loc,.tup (rows.map B'))]:=by simp[TM.start,D9,bj]
 have l1:=dY (aT rows);have l2:=dY (aN K);rw[bS]at l2;have hs:tm false (av (aT rows)) (av (aN K))=some (.own,.lst ((EV rows K).map .str)):=by
  unfold tm;rw[if_pos ⟨by omega,by omega⟩,if_neg Bool.false_ne_true];have e:aN ((av (aT rows)).filter λx=>decide (x∉av (aN K)))=EV rows K:=by
   refine wJ ?_ ((eJ _).sublist List.filter_sublist);refine(List.perm_ext_iff_of_nodup ((cy _).sublist List.filter_sublist) (l9 rows K)).mpr λx=>?_;unfold EV;rw[List.mem_filter,List.mem_filter,cI];simp only[decide_eq_true_eq,cI,(bO K).mem_iff]
  rw[e]
 exact aP rfl (.inl rfl) DJ (cT (CK (bY (ag (af rfl) ak) trivial hw) (l7 (by omega)) (bY (ag (af rfl) ak) trivial hn) (l7 (by rw[bS];omega)) hs) iN)
theorem pG(Z:List Str)(d:List Row)(r:Row)(k:Str):EI Z (d++[r]) k=if r.1=k then EI Z d k++[pick Z r.2] else EI Z d k:=by
 unfold EI;rw[List.filter_append,List.map_append,List.filter_cons,List.filter_nil];by_cases e:r.1=k
 ·rw[if_pos e,if_pos (decide_eq_true e)];rfl
 ·rw[if_neg e,if_neg (by simpa using e)];simp
theorem sm(Z:List Str)(d:List Row)(k:Str):(EI Z d k).length<=d.length:=by
 unfold EI;rw[List.length_map];exact List.length_filter_le _ _
theorem wU(hr:rows.length<=100)(h8:∀r∈rows,r.2.length<=8)(hU:Z.Nodup)(hl:Z.length<64)(hp:∀r∈rows,r.1∈Z->∃x∈r.2,x∈Z)(hn:Γ "not_learnt" [.tup (rows.map B')]=some (.ok (.own,.lst (Z.map .str)))):
  bP Γ nL [.tup (rows.map B')]=some (.ok (.own,.lst ((cD Z rows).map B'))):=by
 have hsz:(20000:Nat)<=sizeLine:=by decide
 let R0:Option (Kd×U):=some (.loc,.tup (rows.map B'));have DJ:TM.start [.tup (rows.map B')] 4=[R0,none,none,none]:=by simp[TM.start,D9,bj,R0]
 let S:=λ(ks:List Str) (us:List TM.U) (o2 o3:Option (Kd×TM.U))=>([R0,some (.Dw,.Dy ks us),o2,o3]:au)
 obtain⟨st1,E2,_,o2,e⟩:=bL (t:=false) (is:=[2]) (body:=execs Γ [.putD 1 (.var 2) (.lst [])]) (rs:=[(.own,.lst (Z.map .str))]) (λw:Str=>(Kd.loc,U.str w))
  (λd r st=>d++r=Z/\∃o2,st=S d (d.map (cC Z [])) o2 none) (λ_ _ _ _=>trivial) (λd w r st DP=>by
   obtain⟨DM,o2,e⟩:=DP;subst e;have hw:w∉d:=λz=>by
    rw[<-DM,List.nodup_append]at hU;exact hU.2.2 w z w (by simp) rfl
   have Fx:d.length<64:=by have:=congrArg List.length DM;simp at this;omega
   have em:(d++[w]).map (cC Z [])=d.map (cC Z [])++[.lst []]:=by rw[List.map_append];rfl
   refine⟨S d (d.map (cC Z [])) (some (.loc,.str w)) none,S (d++[w]) ((d++[w]).map (cC Z [])) (some (.loc,.str w)) none,bZ aV,?_,by rw[<-DM];simp,_,rfl⟩;rw[em];exact wH (k:=.loc) (xs:=[]) (cv ak trivial aS (Nat.zero_le _)) rfl (af rfl) hw (by omega) aD) Z [] (S [] [] none none) ⟨rfl,none,rfl⟩
 subst e;rw[List.nil_append]at E2;let body:List TM.S:=[.ite (.inD false (.idx (.var 3) (.cst (.int 0))) 1)
    [.EZ 1 (.idx (.var 3) (.cst (.int 0))) (.idx (.comp 1 false .seq [.idx (.var 3) (.cst (.int 1))] [.inD false (.var 0) 2] (.var 0)) (.cst (.int 0)))]
    []]
 obtain⟨st2,Gg,_,o3,e⟩:=bL (t:=false) (is:=[3]) (body:=execs Γ body) (rs:=[(.loc,.tup (rows.map B'))]) (λr:Row=>(Kd.loc,B' r))
  (λd r st=>d++r=rows/\∃o3,st=S Z (Z.map (cC Z d)) o2 o3) (λ_ _ _ _=>trivial) (λd row r st DP=>by
   obtain⟨DM,o3,e⟩:=DP;subst e;have Fx:d.length<100:=by have:=congrArg List.length DM;simp at this;omega
   have Ei:row∈rows:=by rw[<-DM];simp
   have PN:=h8 row Ei;let i3:Option (Kd×TM.U):=some (.loc,B' row);have gi:Run (ev Γ (.idx (.var 3) (.cst (.int 0)))) (S Z (Z.map (cC Z d)) o2 i3) (.loc,.str row.1) (S Z (Z.map (cC Z d)) o2 i3):=bM (x:=(.loc,B' row)) (af rfl) aU trivial rfl;have tc:Run (DU Γ (.inD false (.idx (.var 3) (.cst (.int 0))) 1)) (S Z (Z.map (cC Z d)) o2 i3) (decide (row.1∈Z)) (S Z (Z.map (cC Z d)) o2 i3):=wG (neg:=false) (k:=.loc) gi rfl;have FN:Run (cV false [3] (.loc,B' row)) (S Z (Z.map (cC Z d)) o2 o3) () (S Z (Z.map (cC Z d)) o2 i3):=bZ aV;by_cases hy:row.1∈Z
   ·rw[decide_eq_true hy]at tc;have hx:=ir (cond:=aO Γ [.inD false (.var 0) 2]) (elt:=ev Γ (.var 0)) (src:=[(.loc,.tup (row.2.map .str))]) (st:=S Z (Z.map (cC Z d)) o2 i3) trivial .loc (.inl rfl) U.str U.str (λx=>decide (x∈Z)) .loc row.2 [] (by simp;omega)
     (λy _=>⟨dm (wG (neg:=false) (k:=.loc) (af rfl) rfl),λ_=>⟨af rfl,aR⟩⟩)
    rw[List.nil_append]at hx;have e1:(row.2.map U.str).map (λu=>(kE .loc,u))=row.2.map λx=>(Kd.loc,U.str x):=by rw[List.map_map];rfl
    have gc:=b7 (Γ:=Γ) (ik:=.seq) (rs:=[(.loc,.tup (row.2.map .str))]) (st:=S Z (Z.map (cC Z d)) o2 i3) (src:=[.idx (.var 3) (.cst (.int 1))]) (ag (bM (x:=(.loc,B' row)) (af rfl) aU trivial rfl) ak) trivial (by show some (List.map (λu=>(kE .loc,u)) _)=_;rw[e1]) hx;have EF:D6 ((row.2.filter λx=>decide (x∈Z)).map U.str) ((0:Nat):Int)=some (.str (pick Z row.2)):=by
     obtain⟨x,NQ,NR⟩:=hp row Ei hy;refine cw ?_;unfold pick;cases hf:row.2.filter λx=>decide (x∈Z) with
     |nil =>
      have:x∈row.2.filter λx=>decide (x∈Z):=List.mem_filter.mpr ⟨NQ,decide_eq_true NR⟩;rw[hf]at this;cases this
     |cons a l=>rfl
    have hg:cY Z (Z.map (cC Z d)) row.1=some (.lst ((EI Z d row.1).map .str)):=by rw[gW,if_pos hy];rfl
    have hs:ic Z (Z.map (cC Z d)) row.1 (.lst ((EI Z d row.1).map .str++[.str (pick Z row.2)]))=Z.map (cC Z (d++[row])):=by
     rw[kA _ _ _ _ hU];refine List.map_congr_left λk hk=>?_;unfold cC;rw[pG];by_cases e:row.1=k
     ·subst e;rw[if_pos rfl,if_pos rfl];simp
     ·rw[if_neg e,if_neg (Ne.symm e)]
    have Tw:=sm Z d row.1;refine⟨_,S Z (Z.map (cC Z (d++[row]))) o2 i3,FN,eC tc (λ_=>?_) (λh=>by cases h),by rw[<-DM];simp,_,rfl⟩;rw[<-hs];exact wI (k:=.loc) (r:=(.loc,.str (pick Z row.2))) rfl gi hy (bM gc aU trivial (a5 (k:=.own) EF)) aR hg (by rw[List.length_map];omega) aD
   ·rw[decide_eq_false hy]at tc;have em:Z.map (cC Z (d++[row]))=Z.map (cC Z d):=List.map_congr_left λk hk=>by
     unfold cC;rw[pG,if_neg (show ¬row.1=k from λz=>hy (z▸hk))]
    exact⟨_,S Z (Z.map (cC Z d)) o2 i3,FN,eC tc (λh=>by cases h) (λ_=>aD),by rw[<-DM];simp,i3,by rw[em]⟩) rows [] (S Z (Z.map (cC Z [])) o2 none) ⟨rfl,none,rfl⟩
 subst e;rw[List.nil_append]at Gg;have hx:=ix (st:=[R0,none,o2,o3]) (cond:=pure true) (elt:=ev Γ (.tup [.var 0,.bi .tuple [.var 1]])) (src:=[]) trivial (λk:Str=>U.str k) (λk=>cC Z rows k) (λk=>B' (k,EI Z rows k)) (λ_=>true) Z [] (by simp;omega)
  (λy _=>⟨aY,j8 (ag (af rfl) (ag (fA (ag (af rfl) ak) trivial (r:=(.loc,.tup ((EI Z rows y).map .str))) rfl) ak)) trivial (a9 aR (a9 aR aS)) (by show 2<=sizeLine;omega)⟩)
 rw[List.nil_append,List.filter_eq_self.mpr (λ_ _=>rfl)]at hx;have ei:mP (Z,Z.map (cC Z rows))=Z.map λk=>(Kd.loc,U.tup [.str k,cC Z rows k]):=by
  have:∀l:List Str,(l.zip (l.map (cC Z rows))).map (λp=>(Kd.loc,U.tup [.str p.1,p.2]))=l.map λk=>(Kd.loc,U.tup [.str k,cC Z rows k]):=λl=>by
   induction l with
   |nil=>rfl
   |cons a l ih=>rw[List.map_cons,List.zip_cons_cons,List.map_cons,ih];rfl
  exact this Z
 have ek:(cD Z rows).map B'=Z.map λk=>B' (k,EI Z rows k):=by unfold cD;rw[List.map_map];rfl
 rw[ek];have e1:(Z.map U.str).map (λu=>(kE .own,u))=Z.map λw=>(Kd.loc,U.str w):=by rw[List.map_map];rfl
 have e2:(rows.map B').map (λu=>(kE .loc,u))=rows.map λr=>(Kd.loc,B' r):=by rw[List.map_map];rfl
 exact aP rfl (.inl rfl) DJ (wF (cf (rs:=[(.own,.lst (Z.map .str))]) (st1:=S [] [] none none) (ag (bY (ag (af rfl) ak) trivial hn) ak) trivial (by show some (List.map (λu=>(kE .own,u)) _)=_;rw[e1]) rfl E2
  (cf (rs:=[(.loc,.tup (rows.map B'))]) (ag (af rfl) ak) trivial (by show some (List.map (λu=>(kE .loc,u)) _)=_;rw[e2]) rfl Gg (Bi rfl (by rw[ei];exact hx)))))
end
section
noncomputable def wV(rows:List Row)(w:Str):List (List Str):=(rows.filter λr=>decide (r.1=w)).map (·.2)
theorem Bj{ss:List Str}:bw .DA (.str x) (.tup (ss.map U.str))=some (decide (x∉ss)):=by
 show(HR (.str x) (ss.map U.str)).map (!·)=_;rw[r6];simp
theorem Bk(h:i=j):bw .ne (.int i) (.int j)=some false:=by
 subst h;exact lZ rfl
theorem yP(h:p∈(wV rows k).zip (EI Z rows k)):∃r∈rows,r.1=k/\p=(r.2,pick Z r.2):=by
 unfold wV EI at h;rw[List.zip_map',List.mem_map]at h;obtain⟨r,a,rfl⟩:=h;rw[List.mem_filter]at a;exact⟨r,a.1,by simpa using a.2,rfl⟩
noncomputable def CN:List TM.S:=[.ite (.or [.cmp .DA (.var 8) (.var 7),.cmp .DA (.var 8) (.var 4)]) [.ret (.cst (.bl false))] []]
noncomputable def CO:List TM.S:=[.set 6 (.comp 1 false .seq [.var 0] [.cmp .eq (.idx (.var 0) (.cst (.int 0))) (.idx (.var 6) (.cst (.int 0)))] (.idx (.var 0) (.cst (.int 1)))),.ite (.or [.not (.FX (.var 5) .tuple),.cmp .ne (.bi .len [.var 5]) (.cst (.int 2)),.not (.FX (.idx (.var 5) (.cst (.int 1))) .tuple),.cmp .ne (.bi .len [.idx (.var 5) (.cst (.int 1))]) (.bi .len [.var 6])]) [.ret (.cst (.bl false))] [],.DS true [7,8] .zip [.var 6,.idx (.var 5) (.cst (.int 1))] CN]
theorem t5(hr:rows.length<=100)(hF:Fs.flatten=K1)(hK:K1.length<64)(Hd:(aT rows).length<64)(Fd:Γ "_law_rounds" [.tup (rows.map B')]=some (.ok (.own,.lst (Fc Fs))))(Fe:Γ "_law_words" [.tup (rows.map B')]=some (.ok (.own,.lst ((aT rows).map .str))))
  (hZ:EV rows K1=Z) (GW:Γ "_law_held" [.tup (rows.map B'),.lst ((aT rows).map .str)]=some (.ok (.loc,.lst (Z.map .str)))) (hp:∀r∈rows,r.1∈Z->pick Z r.2∈r.2/\pick Z r.2∈Z) :
  bP Γ dB [.tup (rows.map B'),.lst ((cD Z rows).map B')]=some (.ok (.loc,.bl true)):=by
 have hsz:(20000:Nat)<=sizeLine:=by decide
 have SR:Z.length<64:=by rw[<-hZ];exact Nat.lt_of_le_of_lt (List.length_filter_le _ _) Hd
 let i0:Option (Kd×U):=some (.loc,.tup (rows.map B'));let i1:Option (Kd×U):=some (.any,.lst ((cD Z rows).map B'));have DJ:TM.start [.tup (rows.map B'),.lst ((cD Z rows).map B')] 9=[i0,i1,none,none,none,none,none,none,none]:=by simp[TM.start,D9,bj,i0,i1]
 let S:=λ(l:List Str) (o3 o4 o5 o6 o7 o8:Option (Kd×U))=>([i0,i1,some (.own,.lst (l.map .str)),o3,o4,o5,o6,o7,o8]:au)
 obtain⟨st1,E2,_,o3,e⟩:=bL (t:=false) (is:=[3]) (body:=execs Γ [.ext 2 (.var 3)]) (rs:=[(.own,.lst (Fc Fs))]) (λF:List Str=>(Kd.loc,U.lst (F.map .str)))
  (λd r st=>d++r=Fs/\∃o3:Option (Kd×U),st=S d.flatten o3 none none none none none) (λ_ _ _ _=>trivial) (λd y r st DP=>by
   obtain⟨DM,o3,e⟩:=DP;subst e;have hb:d.flatten.length+y.length<64:=by
    have:=congrArg (λl:List (List Str)=>l.flatten.length) DM;simp only[List.flatten_append,List.flatten_cons,List.length_append,hF]at this;omega
   refine⟨S d.flatten (some (.loc,.lst (y.map .str))) none none none none none,S (d++[y]).flatten (some (.loc,.lst (y.map .str))) none none none none none,bZ aV,?_,by rw[<-DM];simp,_,rfl⟩;have em:(d++[y]).flatten.map U.str=d.flatten.map U.str++y.map U.str:=by simp
   show Run _ _ _ [i0,i1,some (.own,.lst ((d++[y]).flatten.map .str)),some (.loc,.lst (y.map .str)),none,none,none,none,none];rw[em];exact pf (k:=.own) (k':=.own) rfl (af rfl) rfl rfl (nB (by rw[List.length_map,List.length_map];omega) rfl) aD) Fs [] (S [] none none none none none none) ⟨rfl,none,rfl⟩
 subst e;rw[List.nil_append,hF]at E2;have g4:Run (ev Γ (.comp 1 false .seq [.call "_law_words" [.var 0]] [.cmp .DA (.var 0) (.var 3)] (.var 0))) (S K1 o3 none none none none none) (.own,.lst (Z.map .str)) (S K1 o3 none none none none none):=by
  have hx:=ir (cond:=aO Γ [.cmp .DA (.var 0) (.var 3)]) (elt:=ev Γ (.var 0)) (src:=[(.own,.lst ((aT rows).map .str))]) (st:=S K1 o3 none none none none none) trivial .loc (.inl rfl) U.str U.str (λx=>decide (x∉K1)) .loc (aT rows) [] (by simp;omega)
   (λy _=>⟨dm (cc (af rfl) (aH rfl) ⟨⟨.own,rfl,rfl⟩,trivial⟩ eZ),λ_=>⟨af rfl,aR⟩⟩)
  rw[List.nil_append]at hx;have e1:((aT rows).map U.str).map (λu=>(kE .own,u))=(aT rows).map λx=>(Kd.loc,U.str x):=by rw[List.map_map];rfl
  rw[<-hZ];exact b7 (rs:=[(.own,.lst ((aT rows).map .str))]) (ag (bY (ag (af rfl) ak) trivial Fe) ak) trivial (by show some (List.map (λu=>(kE .own,u)) _)=_;rw[e1]) hx
 let i4:Option (Kd×U):=some (.own,.lst (Z.map .str));let S2:=λ(o5 o6 o7 o8:Option (Kd×U))=>S K1 o3 i4 o5 o6 o7 o8;have PQ:(cD Z rows).map (·.1)=Z:=by unfold cD;rw[List.map_map];exact List.map_id'' (λ_=>rfl) Z
 have KS:(cD Z rows).length=Z.length:=by unfold cD;rw[List.length_map]
 have gh:Run (ev Γ (.comp 1 false .seq [.var 1] [] (.idx (.var 0) (.cst (.int 0))))) (S2 none none none none) (.own,.lst (Z.map .str)) (S2 none none none none):=by
  have hx:=fY (cond:=aO Γ []) (elt:=ev Γ (.idx (.var 0) (.cst (.int 0)))) (src:=[(.any,.lst ((cD Z rows).map B'))]) (st:=S2 none none none none) trivial .any (.inr rfl) B' (λr:Row=>U.str r.1) .any (λ_=>gP) (cD Z rows) [] (by simp;omega) λr _=>⟨bM (x:=(.any,B' r)) (aZ rfl) aU trivial rfl,oV rfl⟩
  rw[List.nil_append]at hx;have e1:((cD Z rows).map B').map (λu=>(kE .any,u))=(cD Z rows).map λr=>(Kd.any,B' r):=by rw[List.map_map];rfl
  have e2:((cD Z rows).map λr=>U.str r.1)=Z.map U.str:=by
   rw[<-PQ,List.map_map];rw[PQ];rfl
  rw[e2]at hx;exact b7 (rs:=[(.any,.lst ((cD Z rows).map B'))]) (ag (aZ rfl) ak) trivial (by show some (List.map (λu=>(kE .any,u)) _)=_;rw[e1]) hx
 have t0:Run (DU Γ (.or [.not (.FX (.var 1) .list),.cmp .ne (.comp 1 false .seq [.var 1] [] (.idx (.var 0) (.cst (.int 0)))) (.var 4)])) (S2 none none none none) false (S2 none none none none) :=
  A9 (oX (rW (wz (b:=true) (aZ rfl) rfl)) (v3 (cc gh (aH rfl) ⟨⟨.own,rfl,rfl⟩,trivial⟩ (lZ (fZ _ 49)))))
 obtain⟨st2,Gg,_,o5,o6,o7,o8,e⟩:=bL (t:=false) (is:=[5]) (body:=execs Γ CO) (rs:=[(.any,.lst ((cD Z rows).map B'))]) (λr:Row=>(Kd.any,B' r))
  (λd r st=>d++r=cD Z rows/\∃o5 o6 o7 o8:Option (Kd×U),st=S2 o5 o6 o7 o8) (λ_ _ _ _=>trivial) (λd pr r st DP=>by
   obtain⟨DM,o5,o6,o7,o8,e⟩:=DP;subst e;have HC:pr∈cD Z rows:=by rw[<-DM];simp
   obtain⟨k,hk,rfl⟩:=List.mem_map.mp HC;let i5:Option (Kd×U):=some (.any,B' (k,EI Z rows k));let T:=wV rows k;have PR:T.length=(EI Z rows k).length:=by show(List.map _ _).length=(List.map _ _).length;rw[List.length_map,List.length_map]
   have Tz:T.length<=100:=by rw[PR];exact Nat.le_trans (sm _ _ _) hr
   let i6:Option (Kd×U):=some (.own,.lst (T.map λt=>.tup (t.map .str)));have gk:∀o6 o7 o8:Option (Kd×U),Run (ev Γ (.idx (.var 5) (.cst (.int 1)))) (S2 i5 o6 o7 o8) (.any,.tup ((EI Z rows k).map .str)) (S2 i5 o6 o7 o8):=λ_ _ _=>bM (x:=(.any,B' (k,EI Z rows k))) (aZ rfl) aU trivial rfl;have g6:Run (ev Γ (.comp 1 false .seq [.var 0] [.cmp .eq (.idx (.var 0) (.cst (.int 0))) (.idx (.var 6) (.cst (.int 0)))] (.idx (.var 0) (.cst (.int 1))))) (S2 i5 o6 o7 o8) (.own,.lst (T.map λt=>.tup (t.map .str))) (S2 i5 o6 o7 o8):=by
    have hx:=ir (cond:=aO Γ [.cmp .eq (.idx (.var 0) (.cst (.int 0))) (.idx (.var 6) (.cst (.int 0)))]) (elt:=ev Γ (.idx (.var 0) (.cst (.int 1)))) (src:=[(.loc,.tup (rows.map B'))]) (st:=S2 i5 o6 o7 o8) trivial .loc (.inl rfl) B' (λr:Row=>U.tup (r.2.map .str)) (λr:Row=>decide (r.1=k)) .loc rows [] (by simp;omega)
     (λy _=>⟨dm (cc (bM (x:=(.loc,B' y)) (r:=(.loc,.str y.1)) (af rfl) aU trivial rfl) (bM (x:=(.any,B' (k,EI Z rows k))) (r:=(.any,.str k)) (aZ rfl) aU trivial rfl) trivial se),λ_=>⟨bM (x:=(.loc,B' y)) (af rfl) aU trivial rfl,aR⟩⟩)
    rw[List.nil_append]at hx;have e1:(rows.map B').map (λu=>(kE .loc,u))=rows.map λr=>(Kd.loc,B' r):=by rw[List.map_map];rfl
    have e2:((rows.filter λr=>decide (r.1=k)).map λr=>U.tup (r.2.map .str))=T.map λt=>U.tup (t.map .str):=by show _=(List.map _ _).map _;rw[List.map_map];rfl
    rw[e2]at hx;exact b7 (rs:=[(.loc,.tup (rows.map B'))]) (ag (af rfl) ak) trivial (by show some (List.map (λu=>(kE .loc,u)) _)=_;rw[e1]) hx
   have tc:Run (DU Γ (.or [.not (.FX (.var 5) .tuple),.cmp .ne (.bi .len [.var 5]) (.cst (.int 2)),.not (.FX (.idx (.var 5) (.cst (.int 1))) .tuple),.cmp .ne (.bi .len [.idx (.var 5) (.cst (.int 1))]) (.bi .len [.var 6])])) (S2 i5 i6 o7 o8) false (S2 i5 i6 o7 o8) :=
    A9 (oX (rW (wz (b:=true) (aZ rfl) rfl)) (oX (cc (fA (ag (aZ rfl) ak) trivial nj) aU trivial rfl) (oX (rW (wz (b:=true) (gk _ _ _) rfl)) (v3 (cc (fA (ag (gk _ _ _) ak) trivial nj) (fA (ag (aH rfl) ak) ⟨⟨.own,rfl,rfl⟩,trivial⟩ jg) trivial (Bk (by rw[List.length_map,List.length_map,PR])))))))
   obtain⟨st3,N4,_,q7,q8,e⟩:=bL (t:=true) (is:=[7,8]) (body:=execs Γ CN) (rs:=[(.bor 6,.lst (T.map λt=>.tup (t.map .str))),(.any,.tup ((EI Z rows k).map .str))]) (λp:List Str×Str=>(Kd.any,U.tup [.tup (p.1.map .str),.str p.2]))
    (λd r st=>d++r=T.zip (EI Z rows k)/\∃o7 o8:Option (Kd×U),st=S2 i5 i6 o7 o8) (λ_ _ st h=>by
     obtain⟨_,a7,a8,e⟩:=h;rw[e];exact⟨⟨.own,rfl,rfl⟩,trivial⟩) (λd p r st DP=>by
     obtain⟨DM,o7,o8,e⟩:=DP;subst e;obtain⟨row,a,b,rfl⟩:=yP (Z:=Z) (rows:=rows) (k:=k) (p:=p) (by show p∈T.zip (EI Z rows k);rw[<-DM];simp);obtain⟨c1,c2⟩:=hp row a (by rw[b];exact hk);let i7:Option (Kd×U):=some (.any,.tup (row.2.map .str));let i8:Option (Kd×U):=some (.any,.str (pick Z row.2));have tz:Run (DU Γ (.or [.cmp .DA (.var 8) (.var 7),.cmp .DA (.var 8) (.var 4)])) (S2 i5 i6 i7 i8) false (S2 i5 i6 i7 i8) :=
      A9 (oX (cc (aZ rfl) (aZ rfl) trivial (by rw[Bj,decide_eq_false (by simpa using c1)])) (v3 (cc (aZ rfl) (aH rfl) ⟨⟨.own,rfl,rfl⟩,trivial⟩ (by rw[eZ,decide_eq_false (by simpa using c2)]))))
     exact⟨S2 i5 i6 i7 i8,S2 i5 i6 i7 i8,lW (.inr rfl),eC tz (λh=>by cases h) (λ_=>aD),by rw[<-DM];simp,_,_,rfl⟩) (T.zip (EI Z rows k)) [] (S2 i5 i6 o7 o8) ⟨rfl,o7,o8,rfl⟩
   subst e;have hz:Ft .zip [(.bor 6,.lst (T.map λt=>.tup (t.map .str))),(.any,.tup ((EI Z rows k).map .str))]=some ((T.zip (EI Z rows k)).map λp=>(Kd.any,U.tup [.tup (p.1.map .str),.str p.2])):=by
    show some (List.map _ _)=_;rw[List.zip_map,List.map_map];rfl
   exact⟨S2 i5 o6 o7 o8,S2 i5 i6 q7 q8,bZ iM,aB g6 bo (eC tc (λh=>by cases h) λ_=>cf (ag (aH rfl) (ag (gk _ _ _) ak)) ⟨⟨.own,rfl,rfl⟩,trivial⟩ hz rfl N4 aD),by rw[<-DM];simp,_,_,_,_,rfl⟩) (cD Z rows) [] (S2 none none none none) ⟨rfl,none,none,none,none,rfl⟩
 subst e;have e1:(Fc Fs).map (λu=>(kE .own,u))=Fs.map λF=>(Kd.loc,U.lst (F.map .str)):=by unfold Fc;rw[List.map_map];rfl
 have e2:((cD Z rows).map B').map (λu=>(kE .any,u))=(cD Z rows).map λr=>(Kd.any,B' r):=by rw[List.map_map];rfl
 have N5:bw .eq (.lst (Z.map U.str)) (.lst (Z.map U.str))=some true:=by rw[wy,decide_eq_true rfl]
 exact aP rfl (.inr rfl) DJ (aB (r:=(.own,.lst [])) (cv ak trivial aS (Nat.zero_le _)) bo
  (cf (rs:=[(.own,.lst (Fc Fs))]) (st1:=S [] none none none none none none) (ag (bY (ag (af rfl) ak) trivial Fd) ak) trivial (by show some (List.map (λu=>(kE .own,u)) _)=_;rw[e1]) rfl E2
   (aB g4 bo (eC t0 (λh=>by cases h) λ_=>cf (rs:=[(.any,.lst ((cD Z rows).map B'))]) (st1:=S2 none none none none) (ag (aZ rfl) ak) trivial (by show some (List.map (λu=>(kE .any,u)) _)=_;rw[e2]) rfl Gg
    (cT (gO (bY (ag (af rfl) (ag (bY (ag (af rfl) ak) trivial Fe) ak)) trivial GW) (aH rfl) ⟨⟨.own,rfl,rfl⟩,trivial⟩ N5) j9)))))
end
end K
namespace TM
open PySem L2 D8
section
theorem CP(h1:Run (ev Γ a) st x st1)(h2:xT x=some r):Run (ev Γ (.IL a)) st r st1:=aa h1 (b_ h2)
end
end TM
namespace K
open PySem L2 TM D8 Od
section
theorem f_:∀{F W:List Str},F.Sublist W->W.Nodup->F=W.filter λx=>decide (x∈F)
 |_,_,.slnil,_=>rfl
 |F,_,.cons a s,hn=>by
  rw[List.nodup_cons]at hn;rw[List.filter_cons,if_neg (by simpa using λz=>hn.1 (s.subset z))];exact f_ s hn.2
 |_,_,.cons_cons (l₁:=F) (l₂:=W) a s,hn=>by
  rw[List.nodup_cons]at hn;rw[List.filter_cons,if_pos (by simp)];congr 1
  have:=f_ s hn.2;refine this.trans (List.filter_congr λx hx=>?_);have:x≠a:=λz=>hn.1 (z▸hx);simp[this]
theorem wW(h:∃x∈l,x∈Z):pick Z l∈l/\pick Z l∈Z:=by
 obtain⟨x,h1,h2⟩:=h;unfold pick;cases hf:l.filter λx=>decide (x∈Z) with
 |nil =>
  have:x∈l.filter λx=>decide (x∈Z):=List.mem_filter.mpr ⟨h1,decide_eq_true h2⟩;rw[hf]at this;cases this
 |cons a t =>
  have:a∈l.filter λx=>decide (x∈Z):=by rw[hf];simp
  rw[List.mem_filter]at this;exact⟨this.1,by simpa using this.2⟩
theorem yQ(hs:F.Sublist (aT rows))(hf:DJ rows F=F)(hm:∀V:List Str,(∀w∈V,w∈aT rows)->(∀w∈V,bV rows V w=true)->∀w∈V,w∈F)(KZ:Jb rows K)(hp:∀r∈rows,r.1∈EV rows K->∃x∈r.2,x∈EV rows K):F=EV rows K:=by
 have h1:∀x∈K,x∉F:=KZ (·∉F) λr hr h z=>by
  rw[<-hf]at z;have z2:=(List.mem_filter.mp z).2;unfold bV at z2;rw[List.all_eq_true]at z2;have:=z2 r (List.mem_filter.mpr ⟨hr,decide_eq_true rfl⟩);rw[List.any_eq_true]at this;obtain⟨x,a,b⟩:=this;exact h x a (by simpa using b)
 have h2:∀x∈EV rows K,x∈F:=hm _ (λw hw=>(List.mem_filter.mp hw).1) λw hw=>by
  unfold bV;rw[List.all_eq_true];intro r hr;rw[List.mem_filter]at hr;have e:r.1=w:=by simpa using hr.2
  obtain⟨x,a,b⟩:=hp r hr.1 (by rw[e];exact hw);rw[List.any_eq_true];exact⟨x,a,by simpa using b⟩
 refine(f_ hs (gS rows)).trans ?_;unfold EV;refine List.filter_congr λx hx=>?_;rw[Bool.eq_iff_iff,decide_eq_true_eq,decide_eq_true_eq];exact⟨λa b=>h1 x b a,λa=>h2 x (List.mem_filter.mpr ⟨hx,decide_eq_true a⟩)⟩
def Good(Γ:Tab)(rows:List Row):Prop:=∃Z:List Str,Z.length<64/\Γ "knot" [.tup (rows.map B')]=some (.ok (.own,.lst ((cD Z rows).map B')))/\Γ "_law_right" [.tup (rows.map B'),.lst ((cD Z rows).map B')]=some (.ok (.loc,.bl true))
theorem good(hw:∀r∈rows,e_ names r)(hW:names.length<=14)(hr:rows.length<=100):Good (D_ prog 7) rows:=by
 have h8:∀r∈rows,r.2.length<=8:=λr h=>(hw r h).G1;have hO:Once rows:=λr h=>(hw r h).once;have Fi:∀r∈rows,r.1∈names:=λr h=>(hw r h).word;have hG:zk (D_ prog 1):=λps hl=>by
  obtain⟨ks,a,b⟩:=nM (Γ:=D_ prog 0) hl;exact⟨ks,a,(aL (show Eu prog "gathered" d7 from rfl) _).trans b⟩
 have hP:zl (D_ prog 2) rows:=by
  obtain⟨ks,a,b⟩:=qJ hG hO h8 hr;exact⟨ks,a,(aL (show Eu prog "places_that_tell" bF from rfl) _).trans b⟩
 have hN:wQ (D_ prog 2) rows:=λR K0 vs hR=>by
  obtain⟨st,a,b⟩:=kW (Γ:=D_ prog 1) Fi (by omega) hR (K0:=K0) (vs:=vs);exact⟨st,a,(aL (show Eu prog "new_steps" dz from rfl) _).trans b⟩
 obtain⟨DO,Eb,s1,s2,s3,s4⟩:=fD hO hr hP hN;have s5:D_ prog 3 "steps_in_rounds" [.tup (rows.map B')]=some (.ok (.own,.lst (fC Eb))):=(aL (show Eu prog "steps_in_rounds" bN from rfl) _).trans s4;have DN:=gU s1.ok .nil;rw[List.nil_append]at DN;have KZ:=wC s1.ok (λC _ x hx=>by cases hx);rw[List.nil_append]at KZ;have SS:∀x∈rows.map (·.1),x∈names:=λx hx=>by
  obtain⟨r,a,b⟩:=List.mem_map.mp hx;exact b▸Fi r a
 have KD:DO.length<=14:=by
  have:=lV DN (L:=names) λx hx=>SS x (gV s1.ok x hx);rw[List.length_map]at this;omega
 have N6:D_ prog 4 "order" [.tup (rows.map B')]=some (.ok (.own,.lst (DO.map stN))):=(aL (show Eu prog "order" gX from rfl) _).trans (tW s5 s2 (by omega));let K:=DO.map (·.1);have SU:K.length<=14:=by show(DO.map (·.1)).length<=14;rw[List.length_map];exact KD
 have Jf:D_ prog 5 "learnt" [.tup (rows.map B')]=some (.ok (.own,.lst ((aN K).map .str))):=(aL (show Eu prog "learnt" gY from rfl) _).trans (qO (by omega) N6);have Hd:(aT rows).length<=14:=Nat.le_trans (qF hw) hW;have N7:D_ prog 5 "words_of" [.tup (rows.map B')]=some (.ok (.own,.lst ((aT rows).map .str))):=(aL (show Eu prog "words_of" qG from rfl) _).trans (nG hr hw (by omega));have Hs:D_ prog 6 "not_learnt" [.tup (rows.map B')]=some (.ok (.own,.lst ((EV rows K).map .str))):=(aL (show Eu prog "not_learnt" c6 from rfl) _).trans (kK (by omega) (by omega) N7 Jf);have hp:∀r∈rows,r.1∈EV rows K->∃x∈r.2,x∈EV rows K:=λr h hz=>by
  have SV:=(sk.mp hz).2;apply Classical.byContradiction;intro G2;refine SV (s1.closed r h λx hx=>?_);apply Classical.byContradiction;intro SW;exact G2 ⟨x,hx,sk.mpr ⟨f7.mpr ⟨r,h,.inr hx⟩,SW⟩⟩
 have SR:(EV rows K).length<=14:=Nat.le_trans (List.length_filter_le _ _) Hd;obtain⟨K1,Fs,r1,r2,r3⟩:=qK (Γ:=D_ prog 5) h8 hr Fi (by omega);have Fd:D_ prog 6 "_law_rounds" [.tup (rows.map B')]=some (.ok (.own,.lst (Fc Fs))):=(aL (show Eu prog "_law_rounds" c7 from rfl) _).trans r3;have DC:K.Perm K1:=same DN r1.k1 KZ r1.snd s1.closed r1.closed;have TB:K1.length<=14:=by rw[<-DC.length_eq];exact SU
 have hZ:EV rows K1=EV rows K:=List.filter_congr λx _=>by
  rw[Bool.eq_iff_iff,decide_eq_true_eq,decide_eq_true_eq,DC.mem_iff]
 have Fe:D_ prog 6 "_law_words" [.tup (rows.map B')]=some (.ok (.own,.lst ((aT rows).map .str))):=(aL (show Eu prog "_law_words" dA from rfl) _).trans (qM hr hw (by omega));obtain⟨F,f1,f2,f3,f4⟩:=wR (Γ:=D_ prog 5) hr h8 (ws:=aT rows) (by omega);have ew:aN (av (aT rows))=aT rows:=pB λx=>kr;rw[ew]at f1;have hF:F=EV rows K:=yQ f1 f2 f3 KZ hp;subst hF;have GW:D_ prog 6 "_law_held" [.tup (rows.map B'),.lst ((aT rows).map .str)]=some (.ok (.loc,.lst ((EV rows K).map .str))):=(aL (show Eu prog "_law_held" d8 from rfl) _).trans f4;exact⟨EV rows K,by omega,(aL (show Eu prog "knot" nL from rfl) _).trans (wU hr h8 (l9 _ _) (by omega) hp Hs),(aL (show Eu prog "_law_right" dB from rfl) _).trans (t5 hr r2 (by omega) (by omega) Fd Fe hZ GW λr h hz=>wW (hp r h hz))⟩
end
section
theorem yR(FT:Γ "_law_made" [.lst (ns.map .int)]=some (.ok (.loc,.tup (rows.map B'))))(g1:Good Γ rows)(g2:Good Γ rows.reverse):bP Γ si [qv ns]=some (.ok (.loc,.bl true)):=by
 have hsz:(20000:Nat)<=sizeLine:=by decide
 let i0:Option (Kd×U):=some (.any,.lst (ns.map .int));let i1:Option (Kd×U):=some (.loc,.tup (rows.map B'));have DJ:TM.start [qv ns] 4=[i0,none,none,none]:=rfl;let S:=λ(o2 o3:Option (Kd×U))=>([i0,i1,o2,o3]:au)
 let Bs:List (List Row):=[rows,rows,rows.reverse]
 have hg:∀b∈Bs,Good Γ b:=λb hb=>by
  rcases List.mem_cons.mp hb with rfl|hb
  ·exact g1
  rcases List.mem_cons.mp hb with rfl|hb
  ·exact g1
  rw[List.mem_singleton.mp hb];exact g2
 let body:List TM.S:=[.set 3 (.call "knot" [.var 2]),
   .ite (.not (.call "_law_right" [.var 2,.var 3]))
    [.ret (.cst (.bl false))]
    [],
   .app 3 (.tup [(.cst (.str "a")),(.tup [])])]
 obtain⟨st1,E2,_,o2,o3,e⟩:=bL (t:=false) (is:=[2]) (body:=execs Γ body) (rs:=[(.own,.lst (Bs.map λb:List Row=>U.tup (b.map B')))]) (λb:List Row=>(Kd.loc,U.tup (b.map B')))
  (λd r st=>d++r=Bs/\∃o2 o3:Option (Kd×U),st=S o2 o3) (λ_ _ _ _=>trivial) (λd b r st DP=>by
   obtain⟨DM,o2,o3,e⟩:=DP;subst e;obtain⟨Z,z1,z2,z3⟩:=hg b (by rw[<-DM];simp);let i2:Option (Kd×U):=some (.loc,.tup (b.map B'));let i3:Option (Kd×U):=some (.own,.lst ((cD Z b).map B'));have KS:(cD Z b).length=Z.length:=by unfold cD;rw[List.length_map]
   have tc:Run (DU Γ (.not (.call "_law_right" [.var 2,.var 3]))) (S i2 i3) false (S i2 i3):=rW (Be (b:=true) (ag (af rfl) (ag (aH rfl) ak)) ⟨⟨.own,rfl,rfl⟩,trivial⟩ z3 rfl);refine⟨S i2 o3,S i2 (some (.own,.lst ((cD Z b).map B'++[.tup [.str "a",.tup []]]))),bZ aV,aB (bY (ag (af rfl) ak) trivial z2) bo (eC tc (λh=>by cases h) λ_=>?_),by rw[<-DM];simp,_,_,rfl⟩;exact fK (k:=.own) (k':=.own) (r:=(.loc,.tup [.str "a",.tup []])) rfl (j8 (ag aU (ag (j8 ak trivial aS (Nat.zero_le _)) ak)) trivial (a9 aR (a9 aR aS)) (by show 2<=sizeLine;omega)) aR rfl rfl (by rw[List.length_map];omega) aD) Bs [] (S none none) ⟨rfl,none,none,rfl⟩
 subst e;have e0:(Bs.map λb:List Row=>U.tup (b.map B'))=[U.tup (rows.map B'),U.tup (rows.map B'),U.tup (rows.map B').reverse]:=by
  show [U.tup (rows.map B'),U.tup (rows.map B'),U.tup (rows.reverse.map B')]=_;rw[List.map_reverse]
 have gl:Run (ev Γ (.lst [.var 1,.var 1,.IL (.var 1)])) (S none none) (Kd.own,U.lst (Bs.map λb:List Row=>U.tup (b.map B'))) (S none none):=by
  rw[e0];exact cv (ag (af rfl) (ag (af rfl) (ag (CP (r:=(.loc,.tup (rows.map B').reverse)) (af rfl) rfl) ak))) trivial (a9 aR (a9 aR (a9 aR aS))) (by show 3<=sizeLine;omega)
 have hit:Ft .seq [(Kd.own,U.lst (Bs.map λb:List Row=>U.tup (b.map B')))]=some (Bs.map λb:List Row=>(Kd.loc,U.tup (b.map B'))):=by
  show some (List.map (λu=>(kE .own,u)) _)=_;rw[List.map_map];rfl
 have GR:lG [(Kd.own,U.lst (Bs.map λb:List Row=>U.tup (b.map B')))] [2] body=true:=rfl;exact aP rfl (.inr rfl) DJ (aB (bY (ag (aZ rfl) ak) trivial FT) aV (cf (rs:=[(Kd.own,U.lst (Bs.map λb:List Row=>U.tup (b.map B')))]) (st1:=S none none) (ag gl ak) trivial hit GR E2 (cT aU j9)))
end
theorem makers:wt prog:=⟨rfl,rfl,rfl,rfl,rfl,rfl,rfl⟩
theorem pure(ns:List Int)(EX:ns.length<=63):D_ prog 8 "law" [qv ns]=some (.ok (.loc,.bl true)):=by
 obtain⟨names,rows,k1,k2,k3,k4,k5,k6,k7,k8⟩:=wo (Γ:=D_ prog 6) makers.kh makers.drawnOk makers.namesOk makers.Bd ns;have FT:D_ prog 7 "_law_made" [.lst (ns.map .int)]=some (.ok (.loc,.tup (rows.map B'))):=(aL (show Eu prog "_law_made" wm from rfl) _).trans k8;exact(aL (show Eu prog "law" si from rfl) _).trans (yR FT (good k7 k2 (by omega)) (good (λr h=>k7 r (List.mem_reverse.mp h)) k2 (by rw[List.length_reverse];omega)))
end K
namespace K
open PySem L2 TM PySem.W PyProof.Rows
noncomputable def m0:Value:=.str "primer.books" 187
noncomputable def m1:Value:=.str "primer.learning" 208
noncomputable def m2:Value:=.str "primer.knots" 256
noncomputable def m3:Value:=.str "law_primer_k14_the_knot" 264
noncomputable def ml:Me:=⟨si,25,["_law_script","_law_book_here","_law_some","_law_pairs"],150,149,m3,co "law" 373 171 1 144 145 (.ref 146) (.ref 147) (.ref 148) 380 381 181⟩
noncomputable def ms:List Me:=[⟨kB,1,["book","words","row"],21,20,m0,co "words_of" 189 2 1 15 16 (.ref 17) (.ref 18) (.ref 19) 195 196 181⟩,
 ⟨d7,2,["pairs","found","key","value"],28,27,m0,co "gathered" 198 8 1 22 23 (.ref 24) (.ref 25) (.ref 26) 205 206 181⟩,
 ⟨bF,4,["book","pairs","place","row"],33,32,m1,co "places_that_tell" 210 16 1 29 30 .none .none (.ref 31) 213 214 181⟩,
 ⟨dz,5,["book","places","known","steps","place","word"],40,39,m1,co "new_steps" 216 21 3 34 35 (.ref 36) (.ref 37) (.ref 38) 225 226 181⟩,
 ⟨bN,6,["book","tellers","missing","known","found","ready","steps","word","place","teller"],45,44,m1,co "steps_in_rounds" 228 28 1 41 42 .none .none (.ref 43) 231 232 181⟩,
 ⟨gX,7,["book","found","steps"],52,51,m1,co "order" 234 46 1 46 47 (.ref 48) (.ref 49) (.ref 50) 240 241 181⟩,
 ⟨gY,8,["book"],57,56,m1,co "learnt" 243 51 1 53 54 .none .none (.ref 55) 246 247 181⟩,
 ⟨c6,9,["book"],64,63,m1,co "not_learnt" 249 53 1 58 59 (.ref 60) (.ref 61) (.ref 62) 253 254 181⟩,
 ⟨nL,11,["book","blocks","word","row"],69,68,m2,co "knot" 258 56 1 65 66 .none .none (.ref 67) 261 262 181⟩,
 ⟨l8,13,["_law_cell_here","_law_k","_law_by"],76,75,m3,co "_law_mix" 266 65 2 70 71 (.ref 72) (.ref 73) (.ref 74) 272 273 181⟩,
 ⟨kC,14,["_law_script","_law_k","_law_seed"],83,82,m3,co "_law_cell" 275 68 2 77 78 (.ref 79) (.ref 80) (.ref 81) 281 282 181⟩,
 ⟨iP,15,["_law_cell_here","_law_many","_law_found","_law_left","_law_k"],90,89,m3,co "_law_drawn" 284 75 2 84 85 (.ref 86) (.ref 87) (.ref 88) 292 293 181⟩,
 ⟨kD,16,["_law_drawn_here","_law_names_here","_law_letters","_law_name_here","_law_stem","_law_spare"],95,94,m3,co "_law_name" 295 85 2 91 92 .none .none (.ref 93) 298 299 181⟩,
 ⟨iQ,17,["_law_script","_law_base","_law_many","_law_names_here","_law_k"],102,101,m3,co "_law_names" 301 96 3 96 97 (.ref 98) (.ref 99) (.ref 100) 309 310 181⟩,
 ⟨kF,18,["_law_drawn_here","_law_names_here","_law_top","_law_told_here","_law_k","_law_one"],109,108,m3,co "_law_told" 312 101 2 103 104 (.ref 105) (.ref 106) (.ref 107) 321 322 181⟩,
 ⟨kG,19,["_law_script","_law_base","_law_names_here","_law_many","_law_rows","_law_met","_law_k","_law_drawn_here","_law_row","_law_key"],116,115,m3,co "_law_book" 324 111 4 110 111 (.ref 112) (.ref 113) (.ref 114) 337 338 181⟩,
 ⟨kH,20,["_law_script","_law_drawn_here","_law_names_here"],123,122,m3,co "_law_made" 340 122 1 117 118 (.ref 119) (.ref 120) (.ref 121) 346 347 181⟩,
 ⟨c7,21,["_law_book_here","_law_known","_law_found","_law_fresh","_law_word","_law_some","_law_told_here"],128,127,m3,co "_law_rounds" 349 126 1 124 125 .none .none (.ref 126) 352 353 181⟩,
 ⟨d8,22,["_law_book_here","_law_words_here","_law_held_here","_law_going","_law_left","_law_word"],133,132,m3,co "_law_held" 355 140 2 129 130 .none .none (.ref 131) 358 359 181⟩,
 ⟨dA,23,["_law_book_here","_law_words_here","_law_row"],138,137,m3,co "_law_words" 361 151 1 134 135 .none .none (.ref 136) 364 365 181⟩,
 ⟨dB,24,["_law_book_here","_law_pairs","_law_known","_law_fresh","_law_held_here","_law_pair","_law_rows","_law_told_here","_law_block"],143,142,m3,co "_law_right" 367 156 2 139 140 .none .none (.ref 141) 370 371 181⟩,
 ml]
noncomputable def gg(P:Params):Obj:=⟨.type "dict",none,.dict #[ge P "__name__" 165 (.str "law_primer_k14_the_knot" 264),ge P "__doc__" 166 .none,ge P "__package__" 167 .none,ge P "__loader__" 168 (.builtin "__main__.__loader__#opaque"),ge P "__spec__" 169 .none,ge P "__annotations__" 170 (.ref 6),ge P "__builtins__" 171 (.ref 4),ge P "__file__" 173 (.str "/claim/cut.py" 172),ge P "__cached__" 174 .none,ge P "words_of" 197 (.ref 21),ge P "gathered" 207 (.ref 28),ge P "places_that_tell" 215 (.ref 33),ge P "new_steps" 227 (.ref 40),ge P "steps_in_rounds" 233 (.ref 45),ge P "order" 242 (.ref 52),ge P "learnt" 248 (.ref 57),ge P "not_learnt" 255 (.ref 64),ge P "knot" 263 (.ref 69),ge P "_law_mix" 274 (.ref 76),ge P "_law_cell" 283 (.ref 83),ge P "_law_drawn" 294 (.ref 90),ge P "_law_name" 300 (.ref 95),ge P "_law_names" 311 (.ref 102),ge P "_law_told" 323 (.ref 109),ge P "_law_book" 339 (.ref 116),ge P "_law_made" 348 (.ref 123),ge P "_law_rounds" 354 (.ref 128),ge P "_law_held" 360 (.ref 133),ge P "_law_words" 366 (.ref 138),ge P "_law_right" 372 (.ref 143),ge P "law" 382 (.ref 150)] 31,#[]⟩
noncomputable def vw:Program:=view PySem.Challenge.pw_primer_k14_the_knot [1,2,4,5,6,7,8,9,11,13,14,15,16,17,18,19,20,21,22,23,24,25]
noncomputable def hk:Hook:=kHook (λP=>FL top (gg P) ms) (adr ms) λP=>rT top (gg P) ms
theorem hl:LeftO PySem.Challenge.rw_primer_k14_the_knot.row.prog vw [] (λs=>xlAt vw [] s&&recOk (RowW.records PySem.Challenge.rw_primer_k14_the_knot.row.toRowW) s) hk.obs hk.val 4000:=λw=>by kernel_rfl
theorem hs:PySem.Challenge.rw_primer_k14_the_knot.wellSaid=true:=by kernel_rfl
theorem ho(P:Params):H0 ck top (FL top (gg P) ms) ms=true:=by kernel_rfl
end K
open PySem PySem.W PyProof.Rows K
theorem PySem.Challenge.cw_primer_k14_the_knot_holds : PySem.Challenge.rw_primer_k14_the_knot.Holds := by
 w_on
 refine holds_law hs λz => ?_;refine holds_open hl hk.of hk.keeps (λs e => xl_of s (Bool.and_eq_true_iff.mp e).1) XL.keeps rfl rfl rfl (λs e => recFacts_of (Bool.and_eq_true_iff.mp e).2) rfl z (by kernel_rfl) ⟨rfl, rfl, rfl, rfl, rfl, by decide +kernel⟩ ?hw ?hc
 (case hw => w_witness2)
 exact TM.walk2 (l := PySem.Challenge.rw_primer_k14_the_knot) (Pg := prog) (ck := ck) (dp := 7) (x := "_law_script") (m := ml) rfl rfl ⟨rfl, by decide, by decide, rfl⟩ rfl (by decide +kernel) rfl (by simp [ms]) rfl rfl ho K.pure
